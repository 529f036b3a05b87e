import Derived.Test.YtgdpkknapcgcbaaGreatDoorKB5
namespace Go.Proofs.YtgdpkknapcgcbaaGreatDoor
open Go.RowKit
set_option maxRecDepth 100000
set_option linter.unusedVariables false
set_option maxHeartbeats 8000000
section
section
variable {P:Program} {ops:Array Oper} {Q:Exit->Act->World->Prop} {W w w':World} {bs:List (Nat×List Value)} {fs:List (World->Prop)} {nt d n s t:Nat} {L:List (Nat×Value)} {rest:List Oper} {a:Act} {T:TypeId} {v:Value} {op:Op} {ty:TypeId} {pos:String} {af:Array Edge} {g:Nat} {cs vs zs:List Value} {x y:Operand}
theorem bQ {b c:Bool} (h:(b && c)=true):b=true/\c=true:=by rwa[Bool.and_eq_true] at h
theorem oV (hF:Fr nt a L) (hr:(execOp a.eval ⟨some d,op,ty,pos,af,none⟩).run P w= .ok (.value v) w') (hk:(Nat.blt d nt && aQ d L)=true) (h:∀a',Fr nt a' ((d,v)::L)->wpS P ops Q rest a' w'):wpS P ops Q (⟨some d,op,ty,pos,af,none⟩::rest) a w:=
 E.opv hF hr rfl rfl (bQ hk).1 (bQ hk).2 h
theorem oS (hF:Fr nt a L) (hr:(execOp a.eval ⟨some d,op,ty,pos,af,none⟩).run P w= .ok (.value v) w') (hk:Nat.blt d nt=true) (h:∀a',Fr nt a' ((d,v)::L.filter fun p=>!(Nat.beq p.1 d))->wpS P ops Q rest a' w'):wpS P ops Q (⟨some d,op,ty,pos,af,none⟩::rest) a w:=
 E.opset hF hr rfl rfl hk rfl h
theorem oM (hF:Fr nt a L) (i:Nat) (hi:L[i]?=some (s,v)) (hk:(Nat.blt d nt && aQ d L)=true) (h:∀a',Fr nt a' ((d,v)::L)->wpS P ops Q rest a' w):wpS P ops Q (⟨some d,.move (.tmp s),ty,pos,af,none⟩::rest) a w:=
 oV hF (aI (bq (hF.at i hi))) hk h
theorem oA (hF:Fr nt a L) (i:Nat) (hi:L[i]?=some (s,v)) (hk:(Nat.blt d nt && aQ d L)=true) (h:∀a',Fr nt a' ((d,v)::L)->wpS P ops Q rest a' w):wpS P ops Q (⟨some d,.assign (.tmp s),ty,pos,af,none⟩::rest) a w:=
 oV hF (bf (bq (hF.at i hi))) hk h
theorem oC (hF:Fr nt a L) (hk:(Nat.blt d nt && aQ d L)=true) (h:∀a',Fr nt a' ((d,v)::L)->wpS P ops Q rest a' w):wpS P ops Q (⟨some d,.assign (.const v),ty,pos,af,none⟩::rest) a w:=
 oV hF (bf ah) hk h
theorem oE (hF:Fr nt a L) (i:Nat) (hi:L[i]?=some (s,v)) (hk:Nat.blt d nt=true) (h:∀a',Fr nt a' ((d,v)::L.filter fun p=>!(Nat.beq p.1 d))->wpS P ops Q rest a' w):wpS P ops Q (⟨some d,.assign (.tmp s),ty,pos,af,none⟩::rest) a w:=
 oS hF (bf (bq (hF.at i hi))) hk h
theorem oL (hF:Fr nt a L) (st:St W w bs fs) (i j:Nat) (hT:Ty P T n zs) (hi:L[i]?=some (s,.pointer (some ⟨g,0,none⟩))) (hj:bs[j]?=some (g,cs)) (hn:cs.length=n) (hk:(Nat.blt d nt && aQ d L)=true) (h:∀a',Fr nt a' ((d,.agg cs.toArray)::L)->wpS P ops Q rest a' w):wpS P ops Q (⟨some d,.load T (.tmp s),ty,pos,af,none⟩::rest) a w:=
 oV hF (aq (bq (hF.at i hi)) (bi hT (st.bk j hj) hn)) hk h
theorem so (st:St W w bs fs) (hF:Fr nt a L) (i p q:Nat) (hT:Ty P T n zs) (hb:bs[i]?=some (g,cs)) (hp:L[p]?=some (s,.pointer (some ⟨g,0,none⟩))) (hq:L[q]?=some (t,.agg vs.toArray)) (hk:(Nat.beq vs.length n && Nat.beq cs.length n && (cs.all bB && vs.all bB))=true)
 (k:∀w' a',St W w' (bs.set i (g,vs)) fs->Fr nt a' L->wpS P ops Q rest a' w'):wpS P ops Q (⟨none,.store T (.tmp s) (.tmp t),ty,pos,af,none⟩::rest) a w:=
 S.sto st hF i hb (bq (hF.at p hp)) (bq (hF.at q hq)) hT (Nat.eq_of_beq_eq_true (bQ (bQ hk).1).1) (Nat.eq_of_beq_eq_true (bQ (bQ hk).1).2) (bQ (bQ hk).2).1 (bQ (bQ hk).2).2 k
theorem bx (st:St W w bs fs) (hF:Fr nt a L) (i:Nat) (hi:L[i]?=some (s,.agg cs.toArray)) (hk:(Nat.blt d nt && aQ d L)=true)
 (k:∀g w' a',St W w' ((g,cs)::bs) fs->Fr nt a' ((d,.pointer (some ⟨g,0,none⟩))::L)->wpS P ops Q rest a' w'):wpS P ops Q (⟨some d,.box T (.tmp s),ty,pos,af,none⟩::rest) a w:=
 S.box st hF (bq (hF.at i hi)) (bQ hk).1 (bQ hk).2 k
theorem cX {f:FuncId} {args:Array Value} (st:St W w bs fs) (hF:Fr nt a L) (hr:(execOp a.eval ⟨some d,op,ty,pos,af,none⟩).run P w= .ok (.enter f args) w) (hc:Calls P f args w fun e w'=>e= .returned v/\Below w.heap.size w w') (hk:(Nat.blt d nt && aQ d L)=true)
 (k:∀w' a',St W w' bs fs->Fr nt a' ((d,v)::L)->wpS P ops Q rest a' w'):wpS P ops Q (⟨some d,op,ty,pos,af,none⟩::rest) a w:=
 S.callx st hF hr hc rfl rfl (bQ hk).1 (bQ hk).2 k
theorem ca {f:FuncId} {args:Array Value} {R:Ending->World->Prop} {H:Value->World->Prop} (st:St W w bs fs) (hF:Fr nt a L) (hr:(execOp a.eval ⟨some d,op,ty,pos,af,none⟩).run P w= .ok (.enter f args) w) (hc:Calls P f args w R)
 (hR:∀e w',R e w'->∃v,e= .returned v/\H v w'/\Below w.heap.size w w') (hcl:∀v,Cl (H v)) (hk:(Nat.blt d nt && aQ d L)=true)
 (k:∀v w' a',St W w' bs (H v::fs)->Fr nt a' ((d,v)::L)->wpS P ops Q rest a' w'):wpS P ops Q (⟨some d,op,ty,pos,af,none⟩::rest) a w:=
 S.call st hF hr hc hR hcl rfl rfl (bQ hk).1 (bQ hk).2 k
theorem ns {x y:Code} {Q':Exit->Act->World->Prop} (h:x.wp P (Exit.then (y.wp P Q) Q) a w):wpS P ops (Exit.then ((Code.seq x y).wp P Q) Q') [] a w:=wp_seq h
theorem rs {fn:Func} {Ro:Ending->World->Prop} (h:fn.results=#[.cell s T]) (st:St W w bs fs) (hF:Fr nt a L) (p i:Nat) (hT:Ty P T n zs) (hp:L[p]?=some (s,.pointer (some ⟨g,0,none⟩))) (hb:bs[i]?=some (g,cs)) (hn:cs.length=n) (hR:Ro (.returned (.agg cs.toArray)) w):bodyPost P fn Ro .ret a w:=
 S.ret h st hF (hF.at p hp) i hb hT hn hF.dfr hR
theorem wq {id:Nat} {l:List Oper} {y:Code} (h:wpS P l.toArray (Exit.then (y.wp P Q) Q) l a w):(Code.seq (Code.region id l.toArray false) y).wp P Q a w:=wp_seq (E.seq h)
theorem nq {id:Nat} {l:List Oper} {y:Code} {Q':Exit->Act->World->Prop} (h:wpS P l.toArray (Exit.then (y.wp P Q) Q) l a w):wpS P ops (Exit.then ((Code.seq (Code.region id l.toArray false) y).wp P Q) Q') [] a w:=wp_seq (E.seq h)
theorem nr {Q':Exit->Act->World->Prop} (h:Q .ret a w):wpS P ops (Exit.then (Code.ret.wp P Q) Q') [] a w:=wp_ret h
theorem rt {fn:Func} {R:Ending->World->Prop} (h:fn.results=#[.tmp t]) (hF:Fr nt a L) (i:Nat) (hi:L[i]?=some (t,v)) (hR:R (.returned v) w):bodyPost P fn R .ret a w:=bodyPost_ret (A8 h (hF.at i hi)) hF.dfr hR
structure CK (P:Program) (f:FuncId):Prop where
 ex:∃fn,P.funcs[f]?=some fn/\(fn.name == "runtime.NumGoroutine")=false/\fn.body.isNone=false
theorem rk {f:FuncId} {xs:Array Operand} {ts:Array TypeId} {args:Array Value} {dst:Option Tmp} {gd:Option (Nat×Bool)} (k:CK P f) (h:xs.map a.eval=args):(execOp a.eval ⟨dst,.call ⟨.value (.func f),xs,ts⟩,ty,pos,af,gd⟩).run P w= .ok (.enter f args) w:=by
 obtain⟨fn,h1,h2,h3⟩:=k.ex
 exact rZ h1 h2 h3 h
theorem go0 {f:FuncId} {fn:Func} {c:Code} {R:Ending->World->Prop} (hf:P.funcs[f]?=some fn) (hb:fn.body=some c) (hn:fn.ntmps=nt) (h:∀a,Fr nt a []->c.wp P (bodyPost P fn R) a w):Calls P f #[] w R:=
 E.enter hf hb rfl (by simpa using hn) fU h
theorem go1 {f:FuncId} {fn:Func} {c:Code} {R:Ending->World->Prop} {v0:Value} (hf:P.funcs[f]?=some fn) (hb:fn.body=some c) (hn:fn.ntmps-1=n) (hs:1+n=nt) (h:∀a,Fr nt a [(0,v0)]->c.wp P (bodyPost P fn R) a w):Calls P f #[v0] w R:=
 E.enter hf hb hn hs (bO (i:=0) rfl fU) h
theorem go2 {f:FuncId} {fn:Func} {c:Code} {R:Ending->World->Prop} {v0 v1:Value} (hf:P.funcs[f]?=some fn) (hb:fn.body=some c) (hn:fn.ntmps-2=n) (hs:2+n=nt) (h:∀a,Fr nt a [(0,v0),(1,v1)]->c.wp P (bodyPost P fn R) a w):Calls P f #[v0,v1] w R:=
 E.enter hf hb hn hs (bO (i:=0) rfl (bO (i:=1) rfl fU)) h
theorem go3 {f:FuncId} {fn:Func} {c:Code} {R:Ending->World->Prop} {v0 v1 v2:Value} (hf:P.funcs[f]?=some fn) (hb:fn.body=some c) (hn:fn.ntmps-3=n) (hs:3+n=nt) (h:∀a,Fr nt a [(0,v0),(1,v1),(2,v2)]->c.wp P (bodyPost P fn R) a w):Calls P f #[v0,v1,v2] w R:=
 E.enter hf hb hn hs (bO (i:=0) rfl (bO (i:=1) rfl (bO (i:=2) rfl fU))) h
theorem gs0 {f:FuncId} {fn:Func} {c:Code} {R:Ending->World->Prop} (hf:P.funcs[f]?=some fn) (hb:fn.body=some c) (hn:fn.ntmps=nt) (h:∀a,St w w [] []->Fr nt a []->c.wp P (bodyPost P fn R) a w):Calls P f #[] w R:=
 go0 hf hb hn fun a hF=>h a (St.start w) hF
theorem gs1 {f:FuncId} {fn:Func} {c:Code} {R:Ending->World->Prop} {v0:Value} (hf:P.funcs[f]?=some fn) (hb:fn.body=some c) (hn:fn.ntmps-1=n) (hs:1+n=nt) (h:∀a,St w w [] []->Fr nt a [(0,v0)]->c.wp P (bodyPost P fn R) a w):Calls P f #[v0] w R:=
 go1 hf hb hn hs fun a hF=>h a (St.start w) hF
theorem gs2 {f:FuncId} {fn:Func} {c:Code} {R:Ending->World->Prop} {v0 v1:Value} (hf:P.funcs[f]?=some fn) (hb:fn.body=some c) (hn:fn.ntmps-2=n) (hs:2+n=nt) (h:∀a,St w w [] []->Fr nt a [(0,v0),(1,v1)]->c.wp P (bodyPost P fn R) a w):Calls P f #[v0,v1] w R:=
 go2 hf hb hn hs fun a hF=>h a (St.start w) hF
theorem gs3 {f:FuncId} {fn:Func} {c:Code} {R:Ending->World->Prop} {v0 v1 v2:Value} (hf:P.funcs[f]?=some fn) (hb:fn.body=some c) (hn:fn.ntmps-3=n) (hs:3+n=nt) (h:∀a,St w w [] []->Fr nt a [(0,v0),(1,v1),(2,v2)]->c.wp P (bodyPost P fn R) a w):Calls P f #[v0,v1,v2] w R:=
 go3 hf hb hn hs fun a hF=>h a (St.start w) hF
end
section
variable {o:Oper} {a:Act} {w:World} {Hs:List (World->Value->Prop)} {H:World->Value->Prop} {ds:List Nat} {s k p:Nat} {x:Value}
def qO (o:Oper) (ds:List Nat) (Hs:List (World->Value->Prop)) (p:Nat):Option (Nat×(World->Value->Prop)):=
 match o.after[p]? with
 |some e=>if Region.binds .any e=true then(match ds[e.on]?,Hs[e.on]? with|some s,some H=>some (s,H)|_,_=>none) else none
 |none=>none
theorem tH (hd:∀(e:Edge) (s:Nat),e∈o.after->Region.binds .any e=true->ds[e.on]?=some s->Hat Hs e.on w (a.tmps.getD s undef)) (p:Nat) (h:qO o ds Hs p=some (s,H)):∃v,a.tmps.getD s undef=v/\H w v:=by
 unfold qO at h
 split at h
 ·rename_i e he
  split at h
  ·rename_i hb
   split at h
   ·rename_i s' H' hs hH
    injection h with h
    injection h with h1 h2
    subst h1 h2
    exact sH hd p _ he hb hs hH
   ·cases h
  ·cases h
 ·cases h
theorem tE (hd:∀(e:Edge) (s:Nat),e∈o.after->Region.binds .any e=true->ds[e.on]?=some s->Hat Hs e.on w (a.tmps.getD s undef)) (p:Nat) (h:qO o ds Hs p=some (s,fun _ v=>v=x)):a.tmps.getD s undef=x:=by
 obtain⟨v,e,rfl⟩:=tH hd p h
 exact e
end
section
variable {P:Program} {ops:Array Oper} {Q:Exit->Act->World->Prop} {W w:World} {bs:List (Nat×List Value)} {fs:List (World->Prop)} {nt d n s i g:Nat} {L:List (Nat×Value)} {T:TypeId} {v:Value} {ty:TypeId} {pos:String} {af:Array Edge} {cs zs:List Value} {ds:List Nat} {Hs:List (World->Value->Prop)} {al:List Nat}
theorem vQ (h:Hs[i]?=some fun _ u=>u=v) (w:World):Hat Hs i w v:=by unfold Hat;rw[h];rfl
theorem qL (st:St W w bs fs) (p j:Nat) (hT:Ty P T n zs) (hp:L[p]?=some (s,.pointer (some ⟨g,0,none⟩))) (hj:bs[j]?=some (g,cs)) (hn:cs.length=n) (hh:Hs[i]?=some fun _ u=>u= .agg cs.toArray) (ha:al.contains i=false):dR P ops Q nt L w ds Hs al i ⟨some d,.load T (.tmp s),ty,pos,af,none⟩:=by
 intro a' w' hF' hb hd
 exact dv0 (aq (bq (hF'.at p hp)) (bi hT ((st.bk j hj).below hb) hn)) (vQ hh _) ha rfl
theorem qM (p:Nat) (hp:L[p]?=some (s,v)) (hh:Hs[i]?=some fun _ u=>u=v) (ha:al.contains i=false):dR P ops Q nt L w ds Hs al i ⟨some d,.move (.tmp s),ty,pos,af,none⟩:=by
 intro a' w' hF' hb hd
 exact dv0 (aI (bq (hF'.at p hp))) (vQ hh _) ha rfl
end
section
variable {W w:World} {bs:List (Nat×List Value)} {fs:List (World->Prop)} {nt s:Nat} {L:List (Nat×Value)} {a:Act} {x:Value} {ds:List Nat} {Hs:List (World->Value->Prop)} {H:World->Value->Prop}
theorem aE (hall:∀(i s:Nat),ds[i]?=some s->Hat Hs i w (a.tmps.getD s undef)) (hF:Fr nt a L) (i:Nat) (hs:ds[i]?=some s) (hH:Hs[i]?=some fun _ v=>v=x):Fr nt a ((s,x)::L):=hF.add (sSe hall i s hs hH)
theorem aS (hall:∀(i s:Nat),ds[i]?=some s->Hat Hs i w (a.tmps.getD s undef)) (hF:Fr nt a L) (st:St W w bs fs) (i:Nat) (hs:ds[i]?=some s) (hH:Hs[i]?=some H) (hc:∀v,Cl fun w=>H w v):∃v,Fr nt a ((s,v)::L)/\St W w bs ((fun w=>H w v)::fs):=by
 obtain⟨v,e,h⟩:=sS hall i s hs hH
 exact⟨v,hF.add e,st.add h (hc v)⟩
end
def Iz (u:Value):World->Value->Prop:=fun _ v=>v=u
def Ip (W:World):World->Value->Prop:=fun w v=>∃g,v= .pointer (some ⟨g,0,none⟩)/\W.heap.size<=g/\Own w g [.bool false,.slice none 0 0,.slice none 0 0]
class MbI (R:World->Value->Prop):Prop where
 h:Mb R
instance mbz {u:Value}:MbI (Iz u):=⟨Mb.eq u⟩
instance mbp {W:World}:MbI (Ip W):=⟨fun _ _ _ ⟨g,e,l,o⟩ hb=>⟨g,e,l,o.below hb⟩⟩
class MbL (Hs:List (World->Value->Prop)):Prop where
 h:jp Hs
instance mbn:MbL []:=⟨trivial⟩
instance mbc {R:World->Value->Prop} {l:List (World->Value->Prop)} [a:MbI R] [b:MbL l]:MbL (R::l):=⟨⟨a.h,b.h⟩⟩
theorem eD {P:Program} {Q:Exit->Act->World->Prop} {nt id:Nat} (n:Nat) {l:List Oper} {L:List (Nat×Value)} {a:Act} {w:World} (hm:P.follows .mixedOrders =true) (hF:Fr nt a L) (ds:List Nat) (Hs:List (World->Value->Prop)) (al:List Nat) [m:MbL Hs]
 (hc:(ce l.toArray && cV l.toArray n)=true) (hk:(Nat.ble n l.length && dT ds nt L)=true) (hds:cP l.toArray n=ds.map some) (hA:jl Hs al)
 (steps:fv P l.toArray Q nt L w ds Hs al 0 (l.take n))
 (tail:∀(a':Act) (w':World),Fr nt a' L->Below w.heap.size w w'->(∀(i s:Nat),ds[i]?=some s->Hat Hs i w' (a'.tmps.getD s undef))->
   (∀(i j s t:Nat),al.contains i=true->al.contains j=true->i≠j->ds[i]?=some s->ds[j]?=some t->a'.tmps.getD s undef≠a'.tmps.getD t undef)->wpS P l.toArray Q (l.drop n) a' w'):
 (Code.region id l.toArray true).wp P Q a w:=
 E.drawn n hm hF ds Hs al (bQ hc).1 (bQ hc).2 (bQ hk).1 hds (bQ hk).2 m.h hA steps tail
structure R7 where
 (b:Bool) (x:Option Addr) (n c:Nat) (y:Option Addr) (m d:Nat)
abbrev R7.l (r:R7):List Value:=[.bool r.b,.slice r.x r.n r.c,.slice r.y r.m r.d]
abbrev R7.v (r:R7):Value:= .agg #[.bool r.b,.slice r.x r.n r.c,.slice r.y r.m r.d]
section
variable {P:Program} {ops:Array Oper} {Q:Exit->Act->World->Prop} {w w':World} {nt d s j:Nat} {L:List (Nat×Value)} {rest:List Oper} {a:Act} {v:Value} {o:Oper} {b c:Bool}
theorem nu (hF:Fr nt a L) (i:Nat) (h:(L[i]?,o.guard,o.dst,b == c)=(some (s,.bool b),some (j,c),some d,false)) (hs:(ops[j]?).bind (·.dst)=some s) (hk:(Nat.blt d nt && aQ d L)=true) (k:∀a',Fr nt a' ((d,undef)::L)->wpS P ops Q rest a' w):wpS P ops Q (o::rest) a w:=by
 simp only [Prod.mk.injEq] at h
 exact E.unwanted hF (az h.2.1 hs (hF.at i h.1) h.2.2.2) h.2.2.1 (bQ hk).1 (bQ hk).2 k
theorem og (hF:Fr nt a L) (hr:(execOp a.eval o).run P w= .ok (.value v) w') (i:Nat) (h:(L[i]?,o.guard,o.dst,b == c)=(some (s,.bool b),some (j,c),some d,true)) (hs:(ops[j]?).bind (·.dst)=some s) (hk:(Nat.blt d nt && aQ d L)=true) (k:∀a',Fr nt a' ((d,v)::L)->wpS P ops Q rest a' w'):wpS P ops Q (o::rest) a w:=by
 simp only [Prod.mk.injEq] at h
 exact E.opvg hF hr (az h.2.1 hs (hF.at i h.1) h.2.2.2) h.2.2.1 (bQ hk).1 (bQ hk).2 k
end
section
variable {P:Program} {ops:Array Oper} {Q:Exit->Act->World->Prop} {w:World} {nt d s t:Nat} {L:List (Nat×Value)} {rest:List Oper} {a:Act} {T T':TypeId} {ty:TypeId} {pos:String} {af:Array Edge} {op:BinOp} {k:IntKind} {x y:Int} {c:Bool}
def lL:BinOp->Bool
 | .eql =>true
 | .neq =>true
 | .lss =>true
 | .leq =>true
 | .gtr =>true
 | .geq =>true
 |_=>false
theorem lL.or {op:BinOp} (h:lL op=true):op= .eql \/op= .neq \/op= .lss \/op= .leq \/op= .gtr \/op= .geq :=by cases op <;> first|(cases h;done)|simp
theorem oT (hF:Fr nt a L) (i:Nat) (h:(Op.intCmp op x y).run P w= .ok (.bool c) w) (hi:L[i]?=some (s,.int k x)) (hk:(lL op && (Nat.blt d nt && aQ d L))=true) (g:∀a',Fr nt a' ((d,.bool c)::L)->wpS P ops Q rest a' w):wpS P ops Q (⟨some d,.binOp op T (.tmp s) (.const (.int k y)) T',ty,pos,af,none⟩::rest) a w:=
 oV hF (ar (bq (hF.at i hi)) ah ab (aM h (lL.or (bQ hk).1))) (bQ hk).2 g
theorem oU (hF:Fr nt a L) (i j:Nat) (h:(Op.intCmp op x y).run P w= .ok (.bool c) w) (hi:L[i]?=some (s,.int k x)) (hj:L[j]?=some (t,.int k y)) (hk:(lL op && (Nat.blt d nt && aQ d L))=true) (g:∀a',Fr nt a' ((d,.bool c)::L)->wpS P ops Q rest a' w):wpS P ops Q (⟨some d,.binOp op T (.tmp s) (.tmp t) T',ty,pos,af,none⟩::rest) a w:=
 oV hF (ar (bq (hF.at i hi)) (bq (hF.at j hj)) ab (aM h (lL.or (bQ hk).1))) (bQ hk).2 g
theorem Fr.o {v0:Value} {s0:Nat} (h:Fr nt a ((s0,v0)::L)):a.tmps.getD s0 undef=v0:=h.at 0 rfl
theorem Fr.p {v0 v1:Value} {s0 s1:Nat} (h:Fr nt a ((s0,v0)::(s1,v1)::L)):a.tmps.getD s1 undef=v1:=h.at 1 rfl
theorem Fr.q {v0 v1 v2:Value} {s0 s1 s2:Nat} (h:Fr nt a ((s0,v0)::(s1,v1)::(s2,v2)::L)):a.tmps.getD s2 undef=v2:=h.at 2 rfl
end
abbrev CP (f:FuncId) (xs:Array Value) (w:World) (R:Ending->World->Prop):Prop:=Calls Tryz.prog f xs w R
abbrev CV (f:FuncId) (xs:Array Value) (w:World) (v:Value):Prop:=Calls Tryz.prog f xs w (tw w v)
abbrev iv (n:Int):Value:=.int .i64 n
abbrev JK (f:FuncId):Prop:=CK Tryz.prog f
theorem jo {f:FuncId} {fn:Func} (h:Tryz.prog.funcs[f]?=some fn) (g:(!(fn.name=="runtime.NumGoroutine") && !fn.body.isNone)=true:=by decide+kernel):JK f:=⟨⟨fn,h,by simpa using (bQ g).1,by simpa using (bQ g).2⟩⟩
theorem CL:JK 16:=jo Tryz.func16
theorem Dm:JK 17:=jo Tryz.func17
theorem FT:JK 27:=jo Tryz.func27
theorem FG:JK 29:=jo Tryz.func29
theorem yO:JK 30:=jo Tryz.func30
theorem C9:JK 36:=jo Tryz.func36
theorem FN:JK 61:=jo Tryz.func61
theorem F4:JK 76:=jo Tryz.func76
theorem CJ:JK 89:=jo Tryz.func89
theorem qk:JK 117:=jo Tryz.func117
theorem Fe:JK 120:=jo Tryz.func120
theorem EP:JK 149:=jo Tryz.func149
theorem Fc:JK 179:=jo Tryz.func179
theorem EV:JK 221:=jo Tryz.func221
theorem Av:JK 281:=jo Tryz.func281
theorem Fk:JK 288:=jo Tryz.func288
theorem As:JK 289:=jo Tryz.func289
theorem Ew:JK 290:=jo Tryz.func290
end
theorem DQ {n d:Int} (hd:0<d) (h:¬(if 0<=n then n%d else -(-n%d))<0):(if 0<=n then n/d else -(-n/d))=n/d:=by
 by_cases h0:0<=n
 ·rw[if_pos h0]
 ·rw[if_neg h0] at h ⊢
  have c:=Int.mul_ediv_add_emod (-n) d
  have e:=Int.emod_nonneg (-n) (by omega:d≠0)
  have e2: -n%d=0:=by omega
  rw[e2,Int.add_zero] at c
  generalize -n/d=q at*
  have k:n=d*(-q):=by rw[Int.mul_neg];omega
  rw[k,Int.mul_ediv_cancel_left _ (by omega)]
theorem rD {n d:Int} (hd:0<d) (h:(if 0<=n then n%d else -(-n%d))<0):(if 0<=n then n/d else -(-n/d))-1=n/d:=by
 have b:=Int.emod_nonneg n (by omega:d≠0)
 by_cases h0:0<=n
 ·rw[if_pos h0] at h;omega
 ·rw[if_neg h0] at h ⊢
  have c:=Int.mul_ediv_add_emod (-n) d
  have e:=Int.emod_lt_of_pos (-n) hd
  generalize -n/d=q at*
  generalize -n%d=r at*
  have k:n=(d-r)+d*(-q-1):=by rw[Int.mul_sub,Int.mul_neg];omega
  rw[k,Int.add_mul_ediv_left _ _ (by omega),Int.ediv_eq_zero_of_lt (by omega) (by omega)]
  omega
theorem Aj {n d:Int} (hd:0<d) (h0: -9223372036854775808<=n) (h1:n<=9223372036854775807): -9223372036854775808<=n/d/\n/d<=9223372036854775807:=by
 by_cases h:0<=n
 ·have:=Int.ediv_nonneg h (by omega:0<=d)
  have:=Int.ediv_le_self (a:=n) d h
  omega
 ·have c:=Int.mul_ediv_add_emod n d
  have e:=Int.emod_lt_of_pos n hd
  have e0:=Int.emod_nonneg n (by omega:d≠0)
  have hq:n/d<0:=Int.ediv_neg_of_neg_of_pos (by omega) hd
  have:d*(n/d)<=1*(n/d):=Int.mul_le_mul_of_nonpos_right (by omega) (by omega)
  have k:n/d≥n:=by
   by_cases h':n/d<n
   ·exfalso
    have h2:n/d+1<=n:=by omega
    have h3:d*(n/d+1)<=1*(n/d+1):=Int.mul_le_mul_of_nonpos_right (by omega) (by omega)
    rw[Int.mul_add] at h3
    omega
   ·omega
  omega
theorem sR (n d:Int) (w:World) (hd:0<d) (hn0: -9223372036854775808<=n) (hn1:n<=9223372036854775807):
 CV 120 #[iv n,iv d] w (iv (n/d)):=by
 have bel:Below w.heap.size w w:=Below.refl _ _
 refine go2 (nt:=16) Tryz.func120 rfl rfl rfl fun a hF=>wq ?_
 refine oC hF rfl fun a hF=>ns<|wq<|oM hF 1 rfl rfl fun a hF=>oM hF 3 rfl rfl fun a hF=>oV hF (ar hF.p hF.o ab (fN (a:=n) (b:=d) hd)) rfl fun a hF=>?_
 by_cases hc1:(if 0<=n then n%d else -(-n%d))<0
 ·refine oT hF 0 (cw (c:=true) (aD hc1)) rfl rfl fun a hF=>E.nil<|wp_cond_true hF.o<|wq ?_
  refine oM hF 5 rfl rfl fun a hF=>oM hF 7 rfl rfl fun a hF=>oV hF (ar hF.p hF.o ab (ro (a:=n) (b:=d) hd hn0 hn1)) rfl fun a hF=>oV hF (ar hF.o ah ab (de (by rw[rD hd (by assumption)];exact(Aj hd hn0 hn1).1) (by rw[rD hd (by assumption)];exact(Aj hd hn0 hn1).2))) rfl fun a hF=>oE hF 0 rfl rfl fun a hF=>nr<|rt Tryz.results120 hF 0 rfl ?_
  refine⟨bS ?_,bel⟩
  exact rD hd hc1
 ·refine oT hF 0 (cw (c:=false) (aK hc1)) rfl rfl fun a hF=>E.nil<|wp_cond_false hF.o<|wp_skip<|E.norm<|wq ?_
  refine oM hF 5 rfl rfl fun a hF=>oM hF 7 rfl rfl fun a hF=>oV hF (ar hF.p hF.o ab (ro (a:=n) (b:=d) hd hn0 hn1)) rfl fun a hF=>oE hF 0 rfl rfl fun a hF=>nr<|rt Tryz.results120 hF 0 rfl ?_
  refine⟨bS ?_,bel⟩
  exact DQ hd hc1
theorem wA (n:Int) (w:World) (h0: -1152921504606846976<=n) (h1:n<=1152921504606846975):
 CV 56 #[iv n] w (iv (n%7)):=by
 have bel:Below w.heap.size w w:=Below.refl _ _
 refine go1 (nt:=8) Tryz.func56 rfl rfl rfl fun a hF=>wq ?_
 refine oC hF rfl fun a hF=>nq<|oM hF 1 rfl rfl fun a hF=>oM hF 2 rfl rfl fun a hF=>?_
 refine E.call hF (rk Fe (aA hF.o ah)) (sR n 7 _ (by omega) (by omega) (by omega)) rfl rfl rfl rfl ?_
 rintro e w1 ⟨rfl,bb⟩
 refine⟨_,rfl,?_⟩
 intro a hF
 replace bel:=a5 bel bb
 clear bb
 refine oV hF (ar ah hF.o ab (gF (by omega) (by omega))) rfl fun a hF=>oV hF (ar (hF.at 3 rfl) hF.o ab (de (by omega) (by omega))) rfl fun a hF=>oE hF 0 rfl rfl fun a hF=>nr<|rt Tryz.results56 hF 0 rfl ?_
 refine⟨bS ?_,bel⟩
 omega
end Go.Proofs.YtgdpkknapcgcbaaGreatDoor
