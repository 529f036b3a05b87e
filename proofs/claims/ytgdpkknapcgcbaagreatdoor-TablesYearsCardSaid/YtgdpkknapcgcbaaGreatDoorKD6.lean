import Derived.Test.YtgdpkknapcgcbaaGreatDoorKD5
namespace Go.Proofs.YtgdpkknapcgcbaaGreatDoor
open Go.RowKit
set_option maxRecDepth 100000
set_option linter.unusedVariables false
set_option maxHeartbeats 8000000
section
section
variable {P:Program} {ops:Array Oper} {Q:Exit->Act->World->Prop} {W w w':World} {bs:List (Nat×List Value)} {fs:List (World->Prop)} {nt d n s t:Nat} {L:List (Nat×Value)} {rest:List Oper} {a:Act} {T:TypeId} {v:Value} {op:Op} {ty:TypeId} {pos:String} {af:Array Edge} {g:Nat} {cs vs zs:List Value} {x y:Operand}
theorem b8 {b c:Bool} (h:(b && c)=true):b=true/\c=true:=by rwa[Bool.and_eq_true] at h
theorem oV (hF:Fr nt a L) (hr:(execOp a.eval ⟨some d,op,ty,pos,af,none⟩).run P w= .ok (.value v) w') (hk:(Nat.blt d nt && a5 d L)=true) (h:∀a',Fr nt a' ((d,v)::L)->wpS P ops Q rest a' w'):wpS P ops Q (⟨some d,op,ty,pos,af,none⟩::rest) a w:=
 E.opv hF hr rfl rfl (b8 hk).1 (b8 hk).2 h
theorem oS (hF:Fr nt a L) (hr:(execOp a.eval ⟨some d,op,ty,pos,af,none⟩).run P w= .ok (.value v) w') (hk:Nat.blt d nt=true) (h:∀a',Fr nt a' ((d,v)::L.filter fun p=>!(Nat.beq p.1 d))->wpS P ops Q rest a' w'):wpS P ops Q (⟨some d,op,ty,pos,af,none⟩::rest) a w:=
 E.opset hF hr rfl rfl hk rfl h
theorem oM (hF:Fr nt a L) (i:Nat) (hi:L[i]?=some (s,v)) (hk:(Nat.blt d nt && a5 d L)=true) (h:∀a',Fr nt a' ((d,v)::L)->wpS P ops Q rest a' w):wpS P ops Q (⟨some d,.move (.tmp s),ty,pos,af,none⟩::rest) a w:=
 oV hF (aG (bH (hF.at i hi))) hk h
theorem oA (hF:Fr nt a L) (i:Nat) (hi:L[i]?=some (s,v)) (hk:(Nat.blt d nt && a5 d L)=true) (h:∀a',Fr nt a' ((d,v)::L)->wpS P ops Q rest a' w):wpS P ops Q (⟨some d,.assign (.tmp s),ty,pos,af,none⟩::rest) a w:=
 oV hF (aQ (bH (hF.at i hi))) hk h
theorem oC (hF:Fr nt a L) (hk:(Nat.blt d nt && a5 d L)=true) (h:∀a',Fr nt a' ((d,v)::L)->wpS P ops Q rest a' w):wpS P ops Q (⟨some d,.assign (.const v),ty,pos,af,none⟩::rest) a w:=
 oV hF (aQ ah) hk h
theorem oE (hF:Fr nt a L) (i:Nat) (hi:L[i]?=some (s,v)) (hk:Nat.blt d nt=true) (h:∀a',Fr nt a' ((d,v)::L.filter fun p=>!(Nat.beq p.1 d))->wpS P ops Q rest a' w):wpS P ops Q (⟨some d,.assign (.tmp s),ty,pos,af,none⟩::rest) a w:=
 oS hF (aQ (bH (hF.at i hi))) hk h
theorem oL (hF:Fr nt a L) (st:St W w bs fs) (i j:Nat) (hT:Ty P T n zs) (hi:L[i]?=some (s,.pointer (some ⟨g,0,none⟩))) (hj:bs[j]?=some (g,cs)) (hn:cs.length=n) (hk:(Nat.blt d nt && a5 d L)=true) (h:∀a',Fr nt a' ((d,.agg cs.toArray)::L)->wpS P ops Q rest a' w):wpS P ops Q (⟨some d,.load T (.tmp s),ty,pos,af,none⟩::rest) a w:=
 oV hF (ar (bH (hF.at i hi)) (bh hT (st.bk j hj) hn)) hk h
theorem so (st:St W w bs fs) (hF:Fr nt a L) (i p q:Nat) (hT:Ty P T n zs) (hb:bs[i]?=some (g,cs)) (hp:L[p]?=some (s,.pointer (some ⟨g,0,none⟩))) (hq:L[q]?=some (t,.agg vs.toArray)) (hk:(Nat.beq vs.length n && Nat.beq cs.length n && (cs.all bR && vs.all bR))=true)
 (k:∀w' a',St W w' (bs.set i (g,vs)) fs->Fr nt a' L->wpS P ops Q rest a' w'):wpS P ops Q (⟨none,.store T (.tmp s) (.tmp t),ty,pos,af,none⟩::rest) a w:=
 S.sto st hF i hb (bH (hF.at p hp)) (bH (hF.at q hq)) hT (Nat.eq_of_beq_eq_true (b8 (b8 hk).1).1) (Nat.eq_of_beq_eq_true (b8 (b8 hk).1).2) (b8 (b8 hk).2).1 (b8 (b8 hk).2).2 k
theorem bx (st:St W w bs fs) (hF:Fr nt a L) (i:Nat) (hi:L[i]?=some (s,.agg cs.toArray)) (hk:(Nat.blt d nt && a5 d L)=true)
 (k:∀g w' a',St W w' ((g,cs)::bs) fs->Fr nt a' ((d,.pointer (some ⟨g,0,none⟩))::L)->wpS P ops Q rest a' w'):wpS P ops Q (⟨some d,.box T (.tmp s),ty,pos,af,none⟩::rest) a w:=
 S.box st hF (bH (hF.at i hi)) (b8 hk).1 (b8 hk).2 k
theorem cX {f:FuncId} {args:Array Value} (st:St W w bs fs) (hF:Fr nt a L) (hr:(execOp a.eval ⟨some d,op,ty,pos,af,none⟩).run P w= .ok (.enter f args) w) (hc:Calls P f args w fun e w'=>e= .returned v/\Below w.heap.size w w') (hk:(Nat.blt d nt && a5 d L)=true)
 (k:∀w' a',St W w' bs fs->Fr nt a' ((d,v)::L)->wpS P ops Q rest a' w'):wpS P ops Q (⟨some d,op,ty,pos,af,none⟩::rest) a w:=
 S.callx st hF hr hc rfl rfl (b8 hk).1 (b8 hk).2 k
theorem ca {f:FuncId} {args:Array Value} {R:Ending->World->Prop} {H:Value->World->Prop} (st:St W w bs fs) (hF:Fr nt a L) (hr:(execOp a.eval ⟨some d,op,ty,pos,af,none⟩).run P w= .ok (.enter f args) w) (hc:Calls P f args w R)
 (hR:∀e w',R e w'->∃v,e= .returned v/\H v w'/\Below w.heap.size w w') (hcl:∀v,Cl (H v)) (hk:(Nat.blt d nt && a5 d L)=true)
 (k:∀v w' a',St W w' bs (H v::fs)->Fr nt a' ((d,v)::L)->wpS P ops Q rest a' w'):wpS P ops Q (⟨some d,op,ty,pos,af,none⟩::rest) a w:=
 S.call st hF hr hc hR hcl rfl rfl (b8 hk).1 (b8 hk).2 k
theorem ns {x y:Code} {Q':Exit->Act->World->Prop} (h:x.wp P (Exit.then (y.wp P Q) Q) a w):wpS P ops (Exit.then ((Code.seq x y).wp P Q) Q') [] a w:=wp_seq h
theorem rs {fn:Func} {Ro:Ending->World->Prop} (h:fn.results=#[.cell s T]) (st:St W w bs fs) (hF:Fr nt a L) (p i:Nat) (hT:Ty P T n zs) (hp:L[p]?=some (s,.pointer (some ⟨g,0,none⟩))) (hb:bs[i]?=some (g,cs)) (hn:cs.length=n) (hR:Ro (.returned (.agg cs.toArray)) w):bodyPost P fn Ro .ret a w:=
 S.ret h st hF (hF.at p hp) i hb hT hn hF.dfr hR
theorem wq {id:Nat} {l:List Oper} {y:Code} (h:wpS P l.toArray (Exit.then (y.wp P Q) Q) l a w):(Code.seq (Code.region id l.toArray false) y).wp P Q a w:=wp_seq (E.seq h)
theorem nq {id:Nat} {l:List Oper} {y:Code} {Q':Exit->Act->World->Prop} (h:wpS P l.toArray (Exit.then (y.wp P Q) Q) l a w):wpS P ops (Exit.then ((Code.seq (Code.region id l.toArray false) y).wp P Q) Q') [] a w:=wp_seq (E.seq h)
theorem nr {Q':Exit->Act->World->Prop} (h:Q .ret a w):wpS P ops (Exit.then (Code.ret.wp P Q) Q') [] a w:=wp_ret h
theorem rt {fn:Func} {R:Ending->World->Prop} (h:fn.results=#[.tmp t]) (hF:Fr nt a L) (i:Nat) (hi:L[i]?=some (t,v)) (hR:R (.returned v) w):bodyPost P fn R .ret a w:=bodyPost_ret (DC h (hF.at i hi)) hF.dfr hR
structure CK (P:Program) (f:FuncId):Prop where
 ex:∃fn,P.funcs[f]?=some fn/\(fn.name == "runtime.NumGoroutine")=false/\fn.body.isNone=false
theorem rk {f:FuncId} {xs:Array Operand} {ts:Array TypeId} {args:Array Value} {dst:Option Tmp} {gd:Option (Nat×Bool)} (k:CK P f) (h:xs.map a.eval=args):(execOp a.eval ⟨dst,.call ⟨.value (.func f),xs,ts⟩,ty,pos,af,gd⟩).run P w= .ok (.enter f args) w:=by
 obtain⟨fn,h1,h2,h3⟩:=k.ex
 exact sZ h1 h2 h3 h
theorem go0 {f:FuncId} {fn:Func} {c:Code} {R:Ending->World->Prop} (hf:P.funcs[f]?=some fn) (hb:fn.body=some c) (hn:fn.ntmps=nt) (h:∀a,Fr nt a []->c.wp P (bodyPost P fn R) a w):Calls P f #[] w R:=
 E.enter hf hb rfl (by simpa using hn) dU h
theorem go1 {f:FuncId} {fn:Func} {c:Code} {R:Ending->World->Prop} {v0:Value} (hf:P.funcs[f]?=some fn) (hb:fn.body=some c) (hn:fn.ntmps-1=n) (hs:1+n=nt) (h:∀a,Fr nt a [(0,v0)]->c.wp P (bodyPost P fn R) a w):Calls P f #[v0] w R:=
 E.enter hf hb hn hs (aX (i:=0) rfl dU) h
theorem go2 {f:FuncId} {fn:Func} {c:Code} {R:Ending->World->Prop} {v0 v1:Value} (hf:P.funcs[f]?=some fn) (hb:fn.body=some c) (hn:fn.ntmps-2=n) (hs:2+n=nt) (h:∀a,Fr nt a [(0,v0),(1,v1)]->c.wp P (bodyPost P fn R) a w):Calls P f #[v0,v1] w R:=
 E.enter hf hb hn hs (aX (i:=0) rfl (aX (i:=1) rfl dU)) h
theorem go3 {f:FuncId} {fn:Func} {c:Code} {R:Ending->World->Prop} {v0 v1 v2:Value} (hf:P.funcs[f]?=some fn) (hb:fn.body=some c) (hn:fn.ntmps-3=n) (hs:3+n=nt) (h:∀a,Fr nt a [(0,v0),(1,v1),(2,v2)]->c.wp P (bodyPost P fn R) a w):Calls P f #[v0,v1,v2] w R:=
 E.enter hf hb hn hs (aX (i:=0) rfl (aX (i:=1) rfl (aX (i:=2) rfl dU))) h
theorem gs0 {f:FuncId} {fn:Func} {c:Code} {R:Ending->World->Prop} (hf:P.funcs[f]?=some fn) (hb:fn.body=some c) (hn:fn.ntmps=nt) (h:∀a,St w w [] []->Fr nt a []->c.wp P (bodyPost P fn R) a w):Calls P f #[] w R:=
 go0 hf hb hn fun a hF=>h a (St.start w) hF
theorem gs1 {f:FuncId} {fn:Func} {c:Code} {R:Ending->World->Prop} {v0:Value} (hf:P.funcs[f]?=some fn) (hb:fn.body=some c) (hn:fn.ntmps-1=n) (hs:1+n=nt) (h:∀a,St w w [] []->Fr nt a [(0,v0)]->c.wp P (bodyPost P fn R) a w):Calls P f #[v0] w R:=
 go1 hf hb hn hs fun a hF=>h a (St.start w) hF
theorem gs2 {f:FuncId} {fn:Func} {c:Code} {R:Ending->World->Prop} {v0 v1:Value} (hf:P.funcs[f]?=some fn) (hb:fn.body=some c) (hn:fn.ntmps-2=n) (hs:2+n=nt) (h:∀a,St w w [] []->Fr nt a [(0,v0),(1,v1)]->c.wp P (bodyPost P fn R) a w):Calls P f #[v0,v1] w R:=
 go2 hf hb hn hs fun a hF=>h a (St.start w) hF
theorem gs3 {f:FuncId} {fn:Func} {c:Code} {R:Ending->World->Prop} {v0 v1 v2:Value} (hf:P.funcs[f]?=some fn) (hb:fn.body=some c) (hn:fn.ntmps-3=n) (hs:3+n=nt) (h:∀a,St w w [] []->Fr nt a [(0,v0),(1,v1),(2,v2)]->c.wp P (bodyPost P fn R) a w):Calls P f #[v0,v1,v2] w R:=
 go3 hf hb hn hs fun a hF=>h a (St.start w) hF
end
section
variable {o:Oper} {a:Act} {w:World} {Hs:List (World->Value->Prop)} {H:World->Value->Prop} {ds:List Nat} {s k p:Nat} {x:Value}
def s6 (o:Oper) (ds:List Nat) (Hs:List (World->Value->Prop)) (p:Nat):Option (Nat×(World->Value->Prop)):=
 match o.after[p]? with
 |some e=>if Region.binds .any e=true then(match ds[e.on]?,Hs[e.on]? with|some s,some H=>some (s,H)|_,_=>none) else none
 |none=>none
theorem tH (hd:∀(e:Edge) (s:Nat),e∈o.after->Region.binds .any e=true->ds[e.on]?=some s->Hat Hs e.on w (a.tmps.getD s undef)) (p:Nat) (h:s6 o ds Hs p=some (s,H)):∃v,a.tmps.getD s undef=v/\H w v:=by
 unfold s6 at h
 split at h
 ·rename_i e he
  split at h
  ·rename_i hb
   split at h
   ·rename_i s' H' hs hH
    injection h with h
    injection h with h1 h2
    subst h1 h2
    exact sH hd p _ he hb hs hH
   ·cases h
  ·cases h
 ·cases h
theorem tE (hd:∀(e:Edge) (s:Nat),e∈o.after->Region.binds .any e=true->ds[e.on]?=some s->Hat Hs e.on w (a.tmps.getD s undef)) (p:Nat) (h:s6 o ds Hs p=some (s,fun _ v=>v=x)):a.tmps.getD s undef=x:=by
 obtain⟨v,e,rfl⟩:=tH hd p h
 exact e
end
section
variable {P:Program} {ops:Array Oper} {Q:Exit->Act->World->Prop} {W w:World} {bs:List (Nat×List Value)} {fs:List (World->Prop)} {nt d n s i g:Nat} {L:List (Nat×Value)} {T:TypeId} {v:Value} {ty:TypeId} {pos:String} {af:Array Edge} {cs zs:List Value} {ds:List Nat} {Hs:List (World->Value->Prop)} {al:List Nat}
theorem yW (h:Hs[i]?=some fun _ u=>u=v) (w:World):Hat Hs i w v:=by unfold Hat;rw[h];rfl
theorem qL (st:St W w bs fs) (p j:Nat) (hT:Ty P T n zs) (hp:L[p]?=some (s,.pointer (some ⟨g,0,none⟩))) (hj:bs[j]?=some (g,cs)) (hn:cs.length=n) (hh:Hs[i]?=some fun _ u=>u= .agg cs.toArray) (ha:al.contains i=false):eC P ops Q nt L w ds Hs al i ⟨some d,.load T (.tmp s),ty,pos,af,none⟩:=by
 intro a' w' hF' hb hd
 exact dv0 (ar (bH (hF'.at p hp)) (bh hT ((st.bk j hj).below hb) hn)) (yW hh _) ha rfl
theorem qM (p:Nat) (hp:L[p]?=some (s,v)) (hh:Hs[i]?=some fun _ u=>u=v) (ha:al.contains i=false):eC P ops Q nt L w ds Hs al i ⟨some d,.move (.tmp s),ty,pos,af,none⟩:=by
 intro a' w' hF' hb hd
 exact dv0 (aG (bH (hF'.at p hp))) (yW hh _) ha rfl
end
section
variable {W w:World} {bs:List (Nat×List Value)} {fs:List (World->Prop)} {nt s:Nat} {L:List (Nat×Value)} {a:Act} {x:Value} {ds:List Nat} {Hs:List (World->Value->Prop)} {H:World->Value->Prop}
theorem aE (hall:∀(i s:Nat),ds[i]?=some s->Hat Hs i w (a.tmps.getD s undef)) (hF:Fr nt a L) (i:Nat) (hs:ds[i]?=some s) (hH:Hs[i]?=some fun _ v=>v=x):Fr nt a ((s,x)::L):=hF.add (sSe hall i s hs hH)
theorem aS (hall:∀(i s:Nat),ds[i]?=some s->Hat Hs i w (a.tmps.getD s undef)) (hF:Fr nt a L) (st:St W w bs fs) (i:Nat) (hs:ds[i]?=some s) (hH:Hs[i]?=some H) (hc:∀v,Cl fun w=>H w v):∃v,Fr nt a ((s,v)::L)/\St W w bs ((fun w=>H w v)::fs):=by
 obtain⟨v,e,h⟩:=sS hall i s hs hH
 exact⟨v,hF.add e,st.add h (hc v)⟩
end
def Iz (u:Value):World->Value->Prop:=fun _ v=>v=u
def Ip (W:World):World->Value->Prop:=fun w v=>∃g,v= .pointer (some ⟨g,0,none⟩)/\W.heap.size<=g/\Own w g [.bool false,.slice none 0 0,.slice none 0 0]
class MbI (R:World->Value->Prop):Prop where
 h:Mb R
instance mbz {u:Value}:MbI (Iz u):=⟨Mb.eq u⟩
instance mbp {W:World}:MbI (Ip W):=⟨fun _ _ _ ⟨g,e,l,o⟩ hb=>⟨g,e,l,o.below hb⟩⟩
class MbL (Hs:List (World->Value->Prop)):Prop where
 h:lD Hs
instance mbn:MbL []:=⟨trivial⟩
instance mbc {R:World->Value->Prop} {l:List (World->Value->Prop)} [a:MbI R] [b:MbL l]:MbL (R::l):=⟨⟨a.h,b.h⟩⟩
theorem eD {P:Program} {Q:Exit->Act->World->Prop} {nt id:Nat} (n:Nat) {l:List Oper} {L:List (Nat×Value)} {a:Act} {w:World} (hm:P.follows .mixedOrders =true) (hF:Fr nt a L) (ds:List Nat) (Hs:List (World->Value->Prop)) (al:List Nat) [m:MbL Hs]
 (hc:(cT l.toArray && dM l.toArray n)=true) (hk:(Nat.ble n l.length && fD ds nt L)=true) (hds:dQ l.toArray n=ds.map some) (hA:lE Hs al)
 (steps:gK P l.toArray Q nt L w ds Hs al 0 (l.take n))
 (tail:∀(a':Act) (w':World),Fr nt a' L->Below w.heap.size w w'->(∀(i s:Nat),ds[i]?=some s->Hat Hs i w' (a'.tmps.getD s undef))->
   (∀(i j s t:Nat),al.contains i=true->al.contains j=true->i≠j->ds[i]?=some s->ds[j]?=some t->a'.tmps.getD s undef≠a'.tmps.getD t undef)->wpS P l.toArray Q (l.drop n) a' w'):
 (Code.region id l.toArray true).wp P Q a w:=
 E.drawn n hm hF ds Hs al (b8 hc).1 (b8 hc).2 (b8 hk).1 hds (b8 hk).2 m.h hA steps tail
structure R7 where
 (b:Bool) (x:Option Addr) (n c:Nat) (y:Option Addr) (m d:Nat)
abbrev R7.l (r:R7):List Value:=[.bool r.b,.slice r.x r.n r.c,.slice r.y r.m r.d]
abbrev R7.v (r:R7):Value:= .agg #[.bool r.b,.slice r.x r.n r.c,.slice r.y r.m r.d]
section
variable {P:Program} {ops:Array Oper} {Q:Exit->Act->World->Prop} {w w':World} {nt d s j:Nat} {L:List (Nat×Value)} {rest:List Oper} {a:Act} {v:Value} {o:Oper} {b c:Bool}
theorem nu (hF:Fr nt a L) (i:Nat) (h:(L[i]?,o.guard,o.dst,b == c)=(some (s,.bool b),some (j,c),some d,false)) (hs:(ops[j]?).bind (·.dst)=some s) (hk:(Nat.blt d nt && a5 d L)=true) (k:∀a',Fr nt a' ((d,undef)::L)->wpS P ops Q rest a' w):wpS P ops Q (o::rest) a w:=by
 simp only [Prod.mk.injEq] at h
 exact E.unwanted hF (aq h.2.1 hs (hF.at i h.1) h.2.2.2) h.2.2.1 (b8 hk).1 (b8 hk).2 k
theorem og (hF:Fr nt a L) (hr:(execOp a.eval o).run P w= .ok (.value v) w') (i:Nat) (h:(L[i]?,o.guard,o.dst,b == c)=(some (s,.bool b),some (j,c),some d,true)) (hs:(ops[j]?).bind (·.dst)=some s) (hk:(Nat.blt d nt && a5 d L)=true) (k:∀a',Fr nt a' ((d,v)::L)->wpS P ops Q rest a' w'):wpS P ops Q (o::rest) a w:=by
 simp only [Prod.mk.injEq] at h
 exact E.opvg hF hr (aq h.2.1 hs (hF.at i h.1) h.2.2.2) h.2.2.1 (b8 hk).1 (b8 hk).2 k
end
section
variable {P:Program} {ops:Array Oper} {Q:Exit->Act->World->Prop} {w:World} {nt d s t:Nat} {L:List (Nat×Value)} {rest:List Oper} {a:Act} {T T':TypeId} {ty:TypeId} {pos:String} {af:Array Edge} {op:BinOp} {k:IntKind} {x y:Int} {c:Bool}
def mS:BinOp->Bool
 | .eql =>true
 | .neq =>true
 | .lss =>true
 | .leq =>true
 | .gtr =>true
 | .geq =>true
 |_=>false
theorem mS.or {op:BinOp} (h:mS op=true):op= .eql \/op= .neq \/op= .lss \/op= .leq \/op= .gtr \/op= .geq :=by cases op <;> first|(cases h;done)|simp
theorem oT (hF:Fr nt a L) (i:Nat) (h:(Op.intCmp op x y).run P w= .ok (.bool c) w) (hi:L[i]?=some (s,.int k x)) (hk:(mS op && (Nat.blt d nt && a5 d L))=true) (g:∀a',Fr nt a' ((d,.bool c)::L)->wpS P ops Q rest a' w):wpS P ops Q (⟨some d,.binOp op T (.tmp s) (.const (.int k y)) T',ty,pos,af,none⟩::rest) a w:=
 oV hF (ao (bH (hF.at i hi)) ah ab (aL h (mS.or (b8 hk).1))) (b8 hk).2 g
theorem oU (hF:Fr nt a L) (i j:Nat) (h:(Op.intCmp op x y).run P w= .ok (.bool c) w) (hi:L[i]?=some (s,.int k x)) (hj:L[j]?=some (t,.int k y)) (hk:(mS op && (Nat.blt d nt && a5 d L))=true) (g:∀a',Fr nt a' ((d,.bool c)::L)->wpS P ops Q rest a' w):wpS P ops Q (⟨some d,.binOp op T (.tmp s) (.tmp t) T',ty,pos,af,none⟩::rest) a w:=
 oV hF (ao (bH (hF.at i hi)) (bH (hF.at j hj)) ab (aL h (mS.or (b8 hk).1))) (b8 hk).2 g
theorem Fr.o {v0:Value} {s0:Nat} (h:Fr nt a ((s0,v0)::L)):a.tmps.getD s0 undef=v0:=h.at 0 rfl
theorem Fr.p {v0 v1:Value} {s0 s1:Nat} (h:Fr nt a ((s0,v0)::(s1,v1)::L)):a.tmps.getD s1 undef=v1:=h.at 1 rfl
theorem Fr.q {v0 v1 v2:Value} {s0 s1 s2:Nat} (h:Fr nt a ((s0,v0)::(s1,v1)::(s2,v2)::L)):a.tmps.getD s2 undef=v2:=h.at 2 rfl
end
abbrev CP (f:FuncId) (xs:Array Value) (w:World) (R:Ending->World->Prop):Prop:=Calls Tryz.prog f xs w R
abbrev CV (f:FuncId) (xs:Array Value) (w:World) (v:Value):Prop:=Calls Tryz.prog f xs w (pR w v)
abbrev iv (n:Int):Value:=.int .i64 n
abbrev JK (f:FuncId):Prop:=CK Tryz.prog f
theorem jo {f:FuncId} {fn:Func} (h:Tryz.prog.funcs[f]?=some fn) (g:(!(fn.name=="runtime.NumGoroutine") && !fn.body.isNone)=true:=by decide+kernel):JK f:=⟨⟨fn,h,by simpa using (b8 g).1,by simpa using (b8 g).2⟩⟩
theorem FQ:JK 36:=jo Tryz.func36
theorem F4:JK 44:=jo Tryz.func44
theorem Iu:JK 47:=jo Tryz.func47
theorem I2:JK 61:=jo Tryz.func61
theorem IA:JK 76:=jo Tryz.func76
theorem Fe:JK 89:=jo Tryz.func89
theorem rh:JK 117:=jo Tryz.func117
theorem H6:JK 149:=jo Tryz.func149
theorem Ig:JK 179:=jo Tryz.func179
theorem Hu:JK 221:=jo Tryz.func221
theorem Cd:JK 281:=jo Tryz.func281
theorem Ia:JK 288:=jo Tryz.func288
theorem CH:JK 289:=jo Tryz.func289
theorem Hr:JK 290:=jo Tryz.func290
end
end Go.Proofs.YtgdpkknapcgcbaaGreatDoor
