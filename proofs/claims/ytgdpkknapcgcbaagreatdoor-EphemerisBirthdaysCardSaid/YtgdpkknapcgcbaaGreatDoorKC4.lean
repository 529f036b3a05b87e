import Derived.Test.YtgdpkknapcgcbaaGreatDoorKC3
import Derived.Laws.FloatArith
import Derived.Lib.LaidTab
namespace Go.Proofs.YtgdpkknapcgcbaaGreatDoor
open Go.RowKit
set_option maxRecDepth 100000
set_option linter.unusedVariables false
set_option maxHeartbeats 8000000
section
section
variable {P:Program} {ops:Array Oper} {Q:Exit->Act->World->Prop} {W w w':World} {bs:List (Nat×List Value)} {fs:List (World->Prop)} {nt d n s t:Nat} {L:List (Nat×Value)} {rest:List Oper} {a:Act} {T:TypeId} {v:Value} {op:Op} {ty:TypeId} {pos:String} {af:Array Edge} {g:Nat} {cs vs zs:List Value} {x y:Operand}
theorem da {b c:Bool} (h:(b && c)=true):b=true/\c=true:=by rwa[Bool.and_eq_true] at h
theorem oV (hF:Fr nt a L) (hr:(execOp a.eval ⟨some d,op,ty,pos,af,none⟩).run P w= .ok (.value v) w') (hk:(Nat.blt d nt && bz d L)=true) (h:∀a',Fr nt a' ((d,v)::L)->wpS P ops Q rest a' w'):wpS P ops Q (⟨some d,op,ty,pos,af,none⟩::rest) a w:=
 E.opv hF hr rfl rfl (da hk).1 (da hk).2 h
theorem oS (hF:Fr nt a L) (hr:(execOp a.eval ⟨some d,op,ty,pos,af,none⟩).run P w= .ok (.value v) w') (hk:Nat.blt d nt=true) (h:∀a',Fr nt a' ((d,v)::L.filter fun p=>!(Nat.beq p.1 d))->wpS P ops Q rest a' w'):wpS P ops Q (⟨some d,op,ty,pos,af,none⟩::rest) a w:=
 E.opset hF hr rfl rfl hk rfl h
theorem oM (hF:Fr nt a L) (i:Nat) (hi:L[i]?=some (s,v)) (hk:(Nat.blt d nt && bz d L)=true) (h:∀a',Fr nt a' ((d,v)::L)->wpS P ops Q rest a' w):wpS P ops Q (⟨some d,.move (.tmp s),ty,pos,af,none⟩::rest) a w:=
 oV hF (aD (cw (hF.at i hi))) hk h
theorem oA (hF:Fr nt a L) (i:Nat) (hi:L[i]?=some (s,v)) (hk:(Nat.blt d nt && bz d L)=true) (h:∀a',Fr nt a' ((d,v)::L)->wpS P ops Q rest a' w):wpS P ops Q (⟨some d,.assign (.tmp s),ty,pos,af,none⟩::rest) a w:=
 oV hF (aZ (cw (hF.at i hi))) hk h
theorem oC (hF:Fr nt a L) (hk:(Nat.blt d nt && bz d L)=true) (h:∀a',Fr nt a' ((d,v)::L)->wpS P ops Q rest a' w):wpS P ops Q (⟨some d,.assign (.const v),ty,pos,af,none⟩::rest) a w:=
 oV hF (aZ ao) hk h
theorem oE (hF:Fr nt a L) (i:Nat) (hi:L[i]?=some (s,v)) (hk:Nat.blt d nt=true) (h:∀a',Fr nt a' ((d,v)::L.filter fun p=>!(Nat.beq p.1 d))->wpS P ops Q rest a' w):wpS P ops Q (⟨some d,.assign (.tmp s),ty,pos,af,none⟩::rest) a w:=
 oS hF (aZ (cw (hF.at i hi))) hk h
theorem oL (hF:Fr nt a L) (st:St W w bs fs) (i j:Nat) (hT:Ty P T n zs) (hi:L[i]?=some (s,.pointer (some ⟨g,0,none⟩))) (hj:bs[j]?=some (g,cs)) (hn:cs.length=n) (hk:(Nat.blt d nt && bz d L)=true) (h:∀a',Fr nt a' ((d,.agg cs.toArray)::L)->wpS P ops Q rest a' w):wpS P ops Q (⟨some d,.load T (.tmp s),ty,pos,af,none⟩::rest) a w:=
 oV hF (ar (cw (hF.at i hi)) (bK hT (st.bk j hj) hn)) hk h
theorem so (st:St W w bs fs) (hF:Fr nt a L) (i p q:Nat) (hT:Ty P T n zs) (hb:bs[i]?=some (g,cs)) (hp:L[p]?=some (s,.pointer (some ⟨g,0,none⟩))) (hq:L[q]?=some (t,.agg vs.toArray)) (hk:(Nat.beq vs.length n && Nat.beq cs.length n && (cs.all cN && vs.all cN))=true)
 (k:∀w' a',St W w' (bs.set i (g,vs)) fs->Fr nt a' L->wpS P ops Q rest a' w'):wpS P ops Q (⟨none,.store T (.tmp s) (.tmp t),ty,pos,af,none⟩::rest) a w:=
 S.sto st hF i hb (cw (hF.at p hp)) (cw (hF.at q hq)) hT (Nat.eq_of_beq_eq_true (da (da hk).1).1) (Nat.eq_of_beq_eq_true (da (da hk).1).2) (da (da hk).2).1 (da (da hk).2).2 k
theorem bx (st:St W w bs fs) (hF:Fr nt a L) (i:Nat) (hi:L[i]?=some (s,.agg cs.toArray)) (hk:(Nat.blt d nt && bz d L)=true)
 (k:∀g w' a',St W w' ((g,cs)::bs) fs->Fr nt a' ((d,.pointer (some ⟨g,0,none⟩))::L)->wpS P ops Q rest a' w'):wpS P ops Q (⟨some d,.box T (.tmp s),ty,pos,af,none⟩::rest) a w:=
 S.box st hF (cw (hF.at i hi)) (da hk).1 (da hk).2 k
theorem cX {f:FuncId} {args:Array Value} (st:St W w bs fs) (hF:Fr nt a L) (hr:(execOp a.eval ⟨some d,op,ty,pos,af,none⟩).run P w= .ok (.enter f args) w) (hc:Calls P f args w fun e w'=>e= .returned v/\Below w.heap.size w w') (hk:(Nat.blt d nt && bz d L)=true)
 (k:∀w' a',St W w' bs fs->Fr nt a' ((d,v)::L)->wpS P ops Q rest a' w'):wpS P ops Q (⟨some d,op,ty,pos,af,none⟩::rest) a w:=
 S.callx st hF hr hc rfl rfl (da hk).1 (da hk).2 k
theorem ca {f:FuncId} {args:Array Value} {R:Ending->World->Prop} {H:Value->World->Prop} (st:St W w bs fs) (hF:Fr nt a L) (hr:(execOp a.eval ⟨some d,op,ty,pos,af,none⟩).run P w= .ok (.enter f args) w) (hc:Calls P f args w R)
 (hR:∀e w',R e w'->∃v,e= .returned v/\H v w'/\Below w.heap.size w w') (hcl:∀v,Cl (H v)) (hk:(Nat.blt d nt && bz d L)=true)
 (k:∀v w' a',St W w' bs (H v::fs)->Fr nt a' ((d,v)::L)->wpS P ops Q rest a' w'):wpS P ops Q (⟨some d,op,ty,pos,af,none⟩::rest) a w:=
 S.call st hF hr hc hR hcl rfl rfl (da hk).1 (da hk).2 k
theorem ns {x y:Code} {Q':Exit->Act->World->Prop} (h:x.wp P (Exit.then (y.wp P Q) Q) a w):wpS P ops (Exit.then ((Code.seq x y).wp P Q) Q') [] a w:=wp_seq h
theorem rs {fn:Func} {Ro:Ending->World->Prop} (h:fn.results=#[.cell s T]) (st:St W w bs fs) (hF:Fr nt a L) (p i:Nat) (hT:Ty P T n zs) (hp:L[p]?=some (s,.pointer (some ⟨g,0,none⟩))) (hb:bs[i]?=some (g,cs)) (hn:cs.length=n) (hR:Ro (.returned (.agg cs.toArray)) w):bodyPost P fn Ro .ret a w:=
 S.ret h st hF (hF.at p hp) i hb hT hn hF.dfr hR
theorem wq {id:Nat} {l:List Oper} {y:Code} (h:wpS P l.toArray (Exit.then (y.wp P Q) Q) l a w):(Code.seq (Code.region id l.toArray false) y).wp P Q a w:=wp_seq (E.seq h)
theorem nq {id:Nat} {l:List Oper} {y:Code} {Q':Exit->Act->World->Prop} (h:wpS P l.toArray (Exit.then (y.wp P Q) Q) l a w):wpS P ops (Exit.then ((Code.seq (Code.region id l.toArray false) y).wp P Q) Q') [] a w:=wp_seq (E.seq h)
theorem nr {Q':Exit->Act->World->Prop} (h:Q .ret a w):wpS P ops (Exit.then (Code.ret.wp P Q) Q') [] a w:=wp_ret h
theorem rt {fn:Func} {R:Ending->World->Prop} (h:fn.results=#[.tmp t]) (hF:Fr nt a L) (i:Nat) (hi:L[i]?=some (t,v)) (hR:R (.returned v) w):bodyPost P fn R .ret a w:=bodyPost_ret (Ml h (hF.at i hi)) hF.dfr hR
structure CK (P:Program) (f:FuncId):Prop where
 ex:∃fn,P.funcs[f]?=some fn/\(fn.name == "runtime.NumGoroutine")=false/\fn.body.isNone=false
theorem rk {f:FuncId} {xs:Array Operand} {ts:Array TypeId} {args:Array Value} {dst:Option Tmp} {gd:Option (Nat×Bool)} (k:CK P f) (h:xs.map a.eval=args):(execOp a.eval ⟨dst,.call ⟨.value (.func f),xs,ts⟩,ty,pos,af,gd⟩).run P w= .ok (.enter f args) w:=by
 obtain⟨fn,h1,h2,h3⟩:=k.ex
 exact Ap h1 h2 h3 h
theorem go0 {f:FuncId} {fn:Func} {c:Code} {R:Ending->World->Prop} (hf:P.funcs[f]?=some fn) (hb:fn.body=some c) (hn:fn.ntmps=nt) (h:∀a,Fr nt a []->c.wp P (bodyPost P fn R) a w):Calls P f #[] w R:=
 E.enter hf hb rfl (by simpa using hn) cC h
theorem go1 {f:FuncId} {fn:Func} {c:Code} {R:Ending->World->Prop} {v0:Value} (hf:P.funcs[f]?=some fn) (hb:fn.body=some c) (hn:fn.ntmps-1=n) (hs:1+n=nt) (h:∀a,Fr nt a [(0,v0)]->c.wp P (bodyPost P fn R) a w):Calls P f #[v0] w R:=
 E.enter hf hb hn hs (aC (i:=0) rfl cC) h
theorem go2 {f:FuncId} {fn:Func} {c:Code} {R:Ending->World->Prop} {v0 v1:Value} (hf:P.funcs[f]?=some fn) (hb:fn.body=some c) (hn:fn.ntmps-2=n) (hs:2+n=nt) (h:∀a,Fr nt a [(0,v0),(1,v1)]->c.wp P (bodyPost P fn R) a w):Calls P f #[v0,v1] w R:=
 E.enter hf hb hn hs (aC (i:=0) rfl (aC (i:=1) rfl cC)) h
theorem go3 {f:FuncId} {fn:Func} {c:Code} {R:Ending->World->Prop} {v0 v1 v2:Value} (hf:P.funcs[f]?=some fn) (hb:fn.body=some c) (hn:fn.ntmps-3=n) (hs:3+n=nt) (h:∀a,Fr nt a [(0,v0),(1,v1),(2,v2)]->c.wp P (bodyPost P fn R) a w):Calls P f #[v0,v1,v2] w R:=
 E.enter hf hb hn hs (aC (i:=0) rfl (aC (i:=1) rfl (aC (i:=2) rfl cC))) h
theorem gs0 {f:FuncId} {fn:Func} {c:Code} {R:Ending->World->Prop} (hf:P.funcs[f]?=some fn) (hb:fn.body=some c) (hn:fn.ntmps=nt) (h:∀a,St w w [] []->Fr nt a []->c.wp P (bodyPost P fn R) a w):Calls P f #[] w R:=
 go0 hf hb hn fun a hF=>h a (St.start w) hF
theorem gs1 {f:FuncId} {fn:Func} {c:Code} {R:Ending->World->Prop} {v0:Value} (hf:P.funcs[f]?=some fn) (hb:fn.body=some c) (hn:fn.ntmps-1=n) (hs:1+n=nt) (h:∀a,St w w [] []->Fr nt a [(0,v0)]->c.wp P (bodyPost P fn R) a w):Calls P f #[v0] w R:=
 go1 hf hb hn hs fun a hF=>h a (St.start w) hF
theorem gs2 {f:FuncId} {fn:Func} {c:Code} {R:Ending->World->Prop} {v0 v1:Value} (hf:P.funcs[f]?=some fn) (hb:fn.body=some c) (hn:fn.ntmps-2=n) (hs:2+n=nt) (h:∀a,St w w [] []->Fr nt a [(0,v0),(1,v1)]->c.wp P (bodyPost P fn R) a w):Calls P f #[v0,v1] w R:=
 go2 hf hb hn hs fun a hF=>h a (St.start w) hF
theorem gs3 {f:FuncId} {fn:Func} {c:Code} {R:Ending->World->Prop} {v0 v1 v2:Value} (hf:P.funcs[f]?=some fn) (hb:fn.body=some c) (hn:fn.ntmps-3=n) (hs:3+n=nt) (h:∀a,St w w [] []->Fr nt a [(0,v0),(1,v1),(2,v2)]->c.wp P (bodyPost P fn R) a w):Calls P f #[v0,v1,v2] w R:=
 go3 hf hb hn hs fun a hF=>h a (St.start w) hF
end
section
variable {o:Oper} {a:Act} {w:World} {Hs:List (World->Value->Prop)} {H:World->Value->Prop} {ds:List Nat} {s k p:Nat} {x:Value}
def zq (o:Oper) (ds:List Nat) (Hs:List (World->Value->Prop)) (p:Nat):Option (Nat×(World->Value->Prop)):=
 match o.after[p]? with
 |some e=>if Region.binds .any e=true then(match ds[e.on]?,Hs[e.on]? with|some s,some H=>some (s,H)|_,_=>none) else none
 |none=>none
theorem tH (hd:∀(e:Edge) (s:Nat),e∈o.after->Region.binds .any e=true->ds[e.on]?=some s->Hat Hs e.on w (a.tmps.getD s undef)) (p:Nat) (h:zq o ds Hs p=some (s,H)):∃v,a.tmps.getD s undef=v/\H w v:=by
 unfold zq at h
 split at h
 ·rename_i e he
  split at h
  ·rename_i hb
   split at h
   ·rename_i s' H' hs hH
    injection h with h
    injection h with h1 h2
    subst h1 h2
    exact sH hd p _ he hb hs hH
   ·cases h
  ·cases h
 ·cases h
theorem tE (hd:∀(e:Edge) (s:Nat),e∈o.after->Region.binds .any e=true->ds[e.on]?=some s->Hat Hs e.on w (a.tmps.getD s undef)) (p:Nat) (h:zq o ds Hs p=some (s,fun _ v=>v=x)):a.tmps.getD s undef=x:=by
 obtain⟨v,e,rfl⟩:=tH hd p h
 exact e
end
section
variable {P:Program} {ops:Array Oper} {Q:Exit->Act->World->Prop} {W w:World} {bs:List (Nat×List Value)} {fs:List (World->Prop)} {nt d n s i g:Nat} {L:List (Nat×Value)} {T:TypeId} {v:Value} {ty:TypeId} {pos:String} {af:Array Edge} {cs zs:List Value} {ds:List Nat} {Hs:List (World->Value->Prop)} {al:List Nat}
theorem FT (h:Hs[i]?=some fun _ u=>u=v) (w:World):Hat Hs i w v:=by unfold Hat;rw[h];rfl
theorem qL (st:St W w bs fs) (p j:Nat) (hT:Ty P T n zs) (hp:L[p]?=some (s,.pointer (some ⟨g,0,none⟩))) (hj:bs[j]?=some (g,cs)) (hn:cs.length=n) (hh:Hs[i]?=some fun _ u=>u= .agg cs.toArray) (ha:al.contains i=false):gM P ops Q nt L w ds Hs al i ⟨some d,.load T (.tmp s),ty,pos,af,none⟩:=by
 intro a' w' hF' hb hd
 exact dv0 (ar (cw (hF'.at p hp)) (bK hT ((st.bk j hj).below hb) hn)) (FT hh _) ha rfl
theorem qM (p:Nat) (hp:L[p]?=some (s,v)) (hh:Hs[i]?=some fun _ u=>u=v) (ha:al.contains i=false):gM P ops Q nt L w ds Hs al i ⟨some d,.move (.tmp s),ty,pos,af,none⟩:=by
 intro a' w' hF' hb hd
 exact dv0 (aD (cw (hF'.at p hp))) (FT hh _) ha rfl
end
section
variable {W w:World} {bs:List (Nat×List Value)} {fs:List (World->Prop)} {nt s:Nat} {L:List (Nat×Value)} {a:Act} {x:Value} {ds:List Nat} {Hs:List (World->Value->Prop)} {H:World->Value->Prop}
theorem aE (hall:∀(i s:Nat),ds[i]?=some s->Hat Hs i w (a.tmps.getD s undef)) (hF:Fr nt a L) (i:Nat) (hs:ds[i]?=some s) (hH:Hs[i]?=some fun _ v=>v=x):Fr nt a ((s,x)::L):=hF.add (sSe hall i s hs hH)
theorem aS (hall:∀(i s:Nat),ds[i]?=some s->Hat Hs i w (a.tmps.getD s undef)) (hF:Fr nt a L) (st:St W w bs fs) (i:Nat) (hs:ds[i]?=some s) (hH:Hs[i]?=some H) (hc:∀v,Cl fun w=>H w v):∃v,Fr nt a ((s,v)::L)/\St W w bs ((fun w=>H w v)::fs):=by
 obtain⟨v,e,h⟩:=sS hall i s hs hH
 exact⟨v,hF.add e,st.add h (hc v)⟩
end
def Iz (u:Value):World->Value->Prop:=fun _ v=>v=u
def Ip (W:World):World->Value->Prop:=fun w v=>∃g,v= .pointer (some ⟨g,0,none⟩)/\W.heap.size<=g/\Own w g [.bool false,.slice none 0 0,.slice none 0 0]
class MbI (R:World->Value->Prop):Prop where
 h:Mb R
instance mbz {u:Value}:MbI (Iz u):=⟨Mb.eq u⟩
instance mbp {W:World}:MbI (Ip W):=⟨fun _ _ _ ⟨g,e,l,o⟩ hb=>⟨g,e,l,o.below hb⟩⟩
class MbL (Hs:List (World->Value->Prop)):Prop where
 h:nJ Hs
instance mbn:MbL []:=⟨trivial⟩
instance mbc {R:World->Value->Prop} {l:List (World->Value->Prop)} [a:MbI R] [b:MbL l]:MbL (R::l):=⟨⟨a.h,b.h⟩⟩
theorem eD {P:Program} {Q:Exit->Act->World->Prop} {nt id:Nat} (n:Nat) {l:List Oper} {L:List (Nat×Value)} {a:Act} {w:World} (hm:P.follows .mixedOrders =true) (hF:Fr nt a L) (ds:List Nat) (Hs:List (World->Value->Prop)) (al:List Nat) [m:MbL Hs]
 (hc:(dc l.toArray && eX l.toArray n)=true) (hk:(Nat.ble n l.length && gI ds nt L)=true) (hds:eR l.toArray n=ds.map some) (hA:nF Hs al)
 (steps:jl P l.toArray Q nt L w ds Hs al 0 (l.take n))
 (tail:∀(a':Act) (w':World),Fr nt a' L->Below w.heap.size w w'->(∀(i s:Nat),ds[i]?=some s->Hat Hs i w' (a'.tmps.getD s undef))->
   (∀(i j s t:Nat),al.contains i=true->al.contains j=true->i≠j->ds[i]?=some s->ds[j]?=some t->a'.tmps.getD s undef≠a'.tmps.getD t undef)->wpS P l.toArray Q (l.drop n) a' w'):
 (Code.region id l.toArray true).wp P Q a w:=
 E.drawn n hm hF ds Hs al (da hc).1 (da hc).2 (da hk).1 hds (da hk).2 m.h hA steps tail
structure R7 where
 (b:Bool) (x:Option Addr) (n c:Nat) (y:Option Addr) (m d:Nat)
abbrev R7.l (r:R7):List Value:=[.bool r.b,.slice r.x r.n r.c,.slice r.y r.m r.d]
abbrev R7.v (r:R7):Value:= .agg #[.bool r.b,.slice r.x r.n r.c,.slice r.y r.m r.d]
section
variable {P:Program} {ops:Array Oper} {Q:Exit->Act->World->Prop} {w w':World} {nt d s j:Nat} {L:List (Nat×Value)} {rest:List Oper} {a:Act} {v:Value} {o:Oper} {b c:Bool}
theorem nu (hF:Fr nt a L) (i:Nat) (h:(L[i]?,o.guard,o.dst,b == c)=(some (s,.bool b),some (j,c),some d,false)) (hs:(ops[j]?).bind (·.dst)=some s) (hk:(Nat.blt d nt && bz d L)=true) (k:∀a',Fr nt a' ((d,undef)::L)->wpS P ops Q rest a' w):wpS P ops Q (o::rest) a w:=by
 simp only [Prod.mk.injEq] at h
 exact E.unwanted hF (au h.2.1 hs (hF.at i h.1) h.2.2.2) h.2.2.1 (da hk).1 (da hk).2 k
theorem og (hF:Fr nt a L) (hr:(execOp a.eval o).run P w= .ok (.value v) w') (i:Nat) (h:(L[i]?,o.guard,o.dst,b == c)=(some (s,.bool b),some (j,c),some d,true)) (hs:(ops[j]?).bind (·.dst)=some s) (hk:(Nat.blt d nt && bz d L)=true) (k:∀a',Fr nt a' ((d,v)::L)->wpS P ops Q rest a' w'):wpS P ops Q (o::rest) a w:=by
 simp only [Prod.mk.injEq] at h
 exact E.opvg hF hr (au h.2.1 hs (hF.at i h.1) h.2.2.2) h.2.2.1 (da hk).1 (da hk).2 k
end
section
variable {P:Program} {ops:Array Oper} {Q:Exit->Act->World->Prop} {w:World} {nt d s t:Nat} {L:List (Nat×Value)} {rest:List Oper} {a:Act} {T T':TypeId} {ty:TypeId} {pos:String} {af:Array Edge} {op:BinOp} {k:IntKind} {x y:Int} {c:Bool}
def rV:BinOp->Bool
 | .eql =>true
 | .neq =>true
 | .lss =>true
 | .leq =>true
 | .gtr =>true
 | .geq =>true
 |_=>false
theorem rV.or {op:BinOp} (h:rV op=true):op= .eql \/op= .neq \/op= .lss \/op= .leq \/op= .gtr \/op= .geq :=by cases op <;> first|(cases h;done)|simp
theorem oT (hF:Fr nt a L) (i:Nat) (h:(Op.intCmp op x y).run P w= .ok (.bool c) w) (hi:L[i]?=some (s,.int k x)) (hk:(rV op && (Nat.blt d nt && bz d L))=true) (g:∀a',Fr nt a' ((d,.bool c)::L)->wpS P ops Q rest a' w):wpS P ops Q (⟨some d,.binOp op T (.tmp s) (.const (.int k y)) T',ty,pos,af,none⟩::rest) a w:=
 oV hF (aq (cw (hF.at i hi)) ao aa (aO h (rV.or (da hk).1))) (da hk).2 g
theorem oU (hF:Fr nt a L) (i j:Nat) (h:(Op.intCmp op x y).run P w= .ok (.bool c) w) (hi:L[i]?=some (s,.int k x)) (hj:L[j]?=some (t,.int k y)) (hk:(rV op && (Nat.blt d nt && bz d L))=true) (g:∀a',Fr nt a' ((d,.bool c)::L)->wpS P ops Q rest a' w):wpS P ops Q (⟨some d,.binOp op T (.tmp s) (.tmp t) T',ty,pos,af,none⟩::rest) a w:=
 oV hF (aq (cw (hF.at i hi)) (cw (hF.at j hj)) aa (aO h (rV.or (da hk).1))) (da hk).2 g
theorem Fr.o {v0:Value} {s0:Nat} (h:Fr nt a ((s0,v0)::L)):a.tmps.getD s0 undef=v0:=h.at 0 rfl
theorem Fr.p {v0 v1:Value} {s0 s1:Nat} (h:Fr nt a ((s0,v0)::(s1,v1)::L)):a.tmps.getD s1 undef=v1:=h.at 1 rfl
theorem Fr.q {v0 v1 v2:Value} {s0 s1 s2:Nat} (h:Fr nt a ((s0,v0)::(s1,v1)::(s2,v2)::L)):a.tmps.getD s2 undef=v2:=h.at 2 rfl
end
abbrev CP (f:FuncId) (xs:Array Value) (w:World) (R:Ending->World->Prop):Prop:=Calls Tryz.prog f xs w R
abbrev CV (f:FuncId) (xs:Array Value) (w:World) (v:Value):Prop:=Calls Tryz.prog f xs w (wk w v)
abbrev iv (n:Int):Value:=.int .i64 n
abbrev JK (f:FuncId):Prop:=CK Tryz.prog f
theorem jo {f:FuncId} {fn:Func} (h:Tryz.prog.funcs[f]?=some fn) (g:(!(fn.name=="runtime.NumGoroutine") && !fn.body.isNone)=true:=by decide+kernel):JK f:=⟨⟨fn,h,by simpa using (da g).1,by simpa using (da g).2⟩⟩
theorem IL:JK 36:=jo Tryz.func36
theorem NU:JK 39:=jo Tryz.func39
theorem Pz:JK 40:=jo Tryz.func40
theorem Pm:JK 59:=jo Tryz.func59
theorem P4:JK 61:=jo Tryz.func61
theorem SX:JK 62:=jo Tryz.func62
theorem NC:JK 63:=jo Tryz.func63
theorem SF:JK 67:=jo Tryz.func67
theorem Hi:JK 70:=jo Tryz.func70
theorem Sa:JK 76:=jo Tryz.func76
theorem Ov:JK 79:=jo Tryz.func79
theorem Qg:JK 88:=jo Tryz.func88
theorem Oh:JK 89:=jo Tryz.func89
theorem Sy:JK 98:=jo Tryz.func98
theorem R8:JK 99:=jo Tryz.func99
theorem Kf:JK 116:=jo Tryz.func116
theorem xQ:JK 117:=jo Tryz.func117
theorem Ry:JK 124:=jo Tryz.func124
theorem J9:JK 125:=jo Tryz.func125
theorem QT:JK 137:=jo Tryz.func137
theorem QG:JK 138:=jo Tryz.func138
theorem Q8:JK 142:=jo Tryz.func142
theorem xP:JK 143:=jo Tryz.func143
theorem Qt:JK 149:=jo Tryz.func149
theorem Qk:JK 150:=jo Tryz.func150
theorem KL:JK 166:=jo Tryz.func166
theorem Q2:JK 169:=jo Tryz.func169
theorem Qy:JK 170:=jo Tryz.func170
theorem Kk:JK 171:=jo Tryz.func171
theorem Rv:JK 177:=jo Tryz.func177
theorem K2:JK 178:=jo Tryz.func178
theorem Kc:JK 179:=jo Tryz.func179
theorem Kr:JK 182:=jo Tryz.func182
theorem Kz:JK 183:=jo Tryz.func183
theorem RK:JK 197:=jo Tryz.func197
theorem RQ:JK 201:=jo Tryz.func201
theorem QV:JK 206:=jo Tryz.func206
theorem RT:JK 207:=jo Tryz.func207
theorem Qr:JK 218:=jo Tryz.func218
theorem K4:JK 219:=jo Tryz.func219
theorem Rg:JK 221:=jo Tryz.func221
theorem RI:JK 224:=jo Tryz.func224
theorem Kv:JK 225:=jo Tryz.func225
theorem Qw:JK 247:=jo Tryz.func247
theorem QR:JK 264:=jo Tryz.func264
theorem KQ:JK 281:=jo Tryz.func281
theorem Qq:JK 284:=jo Tryz.func284
theorem Km:JK 285:=jo Tryz.func285
theorem Dk:JK 287:=jo Tryz.func287
theorem QY:JK 288:=jo Tryz.func288
theorem KE:JK 289:=jo Tryz.func289
theorem Q4:JK 290:=jo Tryz.func290
end
section
section
def fI (x:Int):Nat:=FloatKind.f64.nearest x
section
variable {P:Program} {w:World}
theorem Ka {op:BinOp} {t:TypeId} {x y:Operand} {k l:FloatKind} {a b c d:Nat}:(eqGuard op t x y (.complex k a b) (.complex l c d)).run P w= .ok () w:=by
 unfold eqGuard;split <;> rfl
theorem Oe {t:TypeId} {a b c d x y:Nat} (h:Ieee.double.add a c=some x) (k:Ieee.double.add b d=some y):(binOp .add t (.complex .f64 a b) (.complex .f64 c d)).run P w= .ok (.complex .f64 x y) w:=by
 simp[binOp,Op.complexOp,Op.Complex.arith,Op.floatArith,FloatKind.format,h,k]
def frc {α:Type} (n:Nat) (f:Nat->α):α:=Nat.rec (f 0) (fun m _=>f (m+1)) n
theorem uB {α:Type} (n:Nat) (f:Nat->α):frc n f=f n:=by cases n <;> rfl
def qU {α:Type} (x:Option Nat) (f:Nat->Option α):Option α:=match x with
 |none=>none
 |some n=>frc n f
theorem L6 {α:Type} (x:Option Nat) (f:Nat->Option α):qU x f=x.bind f:=by cases x <;> simp[qU,uB]
def mulI (p:Nat×Nat):Option (Nat×Nat):=
 frc p.1 fun a=>frc p.2 fun b=>qU (Ieee.double.mul a 0) fun ac=>qU (Ieee.double.mul b 4607182418800017408) fun bd=>
 qU (Ieee.double.sub ac bd) fun re=>qU (Ieee.double.mul a 4607182418800017408) fun ad=>qU (Ieee.double.mul b 0) fun bc=>
 qU (Ieee.double.add ad bc) fun im=>some (re,im)
theorem MR {t:TypeId} {p q:Nat×Nat} (h:mulI p=some q):(binOp .mul t (.complex .f64 p.1 p.2) (.complex .f64 0 4607182418800017408)).run P w= .ok (.complex .f64 q.1 q.2) w:=by
 unfold mulI at h
 simp only [uB,L6,Option.bind_eq_some_iff,Option.some.injEq] at h
 obtain⟨ac,e1,bd,e2,re,e3,ad,e4,bc,e5,im,e6,rfl⟩:=h
 simp[binOp,Op.complexOp,Op.Complex.product,Op.Complex.conv,Op.Complex.mul,Op.Complex.sub,Op.Complex.add,Op.Complex.arith,Op.floatArith,FloatKind.format,e1,e2,e3,e4,e5,e6]
theorem Rp {t:TypeId} {ts:Array TypeId} {cs:Array Bool} {a b:Nat}:(builtin .complex ts t cs #[.float .f64 a,.float .f64 b]).run P w= .ok (.value (.complex .f64 a b)) w:=by
 rfl
theorem RM {t:TypeId} {ts:Array TypeId} {cs:Array Bool} {a b:Nat}:(builtin .imag ts t cs #[.complex .f64 a b]).run P w= .ok (.value (.float .f64 b)) w:=by
 rfl
theorem KJ {s t:TypeId} {n:Int} (hs:P.underlying s=some (.int .i64)) (ht:P.underlying t=some (.float .f64)):(convert s t (iv n)).run P w= .ok (.float .f64 (fI n)) w:=by
 simp[convert,run_underlying hs,run_underlying ht,Conv.intToFloat,fI]
theorem RA {s t:TypeId} {b:Nat} {n:Int} (hs:P.underlying s=some (.float .f64)) (ht:P.underlying t=some (.int .i64)) (h:floatToIntVal .f64 b .i64 =some n):(convert s t (.float .f64 b)).run P w= .ok (iv n) w:=
 run_convert_float_int w s t .f64 .i64 b n (by rw[hs];rfl) ht h
end
end
section
def hiT:List Int:=[0,225,449,671,890,1105,1315,1520,1719,1910,2093,2267,2431,2585,2728,2859,2978,3084,3177,3256,3321,3372,3409,3431,3438]
def sn0 (n:Nat):Int:=if n<24 then hiT.getD n 0 else if n<48 then hiT.getD (48-n) 0 else if n<72 then -hiT.getD (n-48) 0 else -hiT.getD (96-n) 0
def spk (k:Int):Int:=sn0 (k%96).toNat
theorem lG (k:Int):spk (k%96)=spk k:=by unfold spk;rw[Int.emod_emod_of_dvd _ (Int.dvd_refl _)]
theorem L8 (k n:Int):spk (k+96*n)=spk k:=by unfold spk;rw[Int.add_mul_emod_self_left]
theorem oI (P:Int->Prop) (h:∀n:Nat,n<96->P (n:Int)) (k:Int):P (k%96):=by
 have:=h (k%96).toNat (by omega)
 rwa[show(((k%96).toNat :Nat):Int)=k%96 by omega] at this
theorem fH {a b:Int} (h:a%96=b%96):spk a=spk b:=by unfold spk;rw[h]
theorem NF (k:Int):spk (-k)= -spk k:=by
 have:=oI (fun r=>spk (-r)= -spk r) (by decide+kernel) k
 rw[lG] at this
 rw[<-this];exact fH (by omega)
theorem oh (k:Int):spk (48-k)=spk k:=by
 have:=oI (fun r=>spk (48-r)=spk r) (by decide+kernel) k
 rw[lG] at this
 rw[<-this];exact fH (by omega)
theorem GC (k:Int):spk (k+48)= -spk k:=by
 have:=oI (fun r=>spk (r+48)= -spk r) (by decide+kernel) k
 rw[lG] at this
 rw[<-this];exact fH (by omega)
theorem lZ (k:Int): -3438<=spk k/\spk k<=3438:=by
 have:=oI (fun r=> -3438<=spk r/\spk r<=3438) (by decide+kernel) k
 rwa[lG] at this
theorem ji (k:Int): -225<=spk (k+1)-spk k/\spk (k+1)-spk k<=225:=by
 have:=oI (fun r=> -225<=spk (r+1)-spk r/\spk (r+1)-spk r<=225) (by decide+kernel) k
 rw[lG,fH (b:=k+1) (by omega)] at this
 exact this
theorem sj {k:Int} (h: -24<=k) (h':k<24):spk k<spk (k+1):=by
 have h2:∀n:Nat,n<48->spk ((n:Int)-24)<spk ((n:Int)-24+1):=by decide+kernel
 have:=h2 (k+24).toNat (by omega)
 rwa[show(((k+24).toNat :Nat):Int)-24=k by omega] at this
theorem Rt {a b:Int} (h: -24<=a) (h2:a<=b) (h3:b<=24):spk a<=spk b:=by
 obtain⟨n,rfl⟩:∃n:Nat,b=a+n:=⟨(b-a).toNat,by omega⟩
 clear h2
 induction n with
 |zero=>simp
 |succ n ih=>
  have:=sj (k:=a+n) (by omega) (by omega)
  have:=ih (by omega)
  rw[show a+((n+1:Nat):Int)=a+n+1 by omega]
  omega
theorem Au (k:Int):(spk k*spk k+spk (k+24)*spk (k+24)-11819844<=4000/\ -4000<=spk k*spk k+spk (k+24)*spk (k+24)-11819844)/\(spk k*spk (k+1)+spk (k+24)*spk (k+25)-11819844<=4000/\ -30000<=spk k*spk (k+1)+spk (k+24)*spk (k+25)-11819844):=by
 have:=oI (fun k=>(spk k*spk k+spk (k+24)*spk (k+24)-11819844<=4000/\ -4000<=spk k*spk k+spk (k+24)*spk (k+24)-11819844)/\(spk k*spk (k+1)+spk (k+24)*spk (k+25)-11819844<=4000/\ -30000<=spk k*spk (k+1)+spk (k+24)*spk (k+25)-11819844)) (by decide+kernel) k
 rw[lG,fH (a:=k%96+1) (b:=k+1) (by omega),fH (a:=k%96+24) (b:=k+24) (by omega),fH (a:=k%96+25) (b:=k+25) (by omega)] at this
 exact this
end
section
def hiv (k:Int):Int:=hiT.getD (max 0 (min k 24)).toNat 0
theorem Mn:∀n:Nat,n<25->hiv (n:Int)=spk (n:Int):=by decide+kernel
theorem Gp {k:Int} (h0:0<=k) (h1:k<=24):hiv k=spk k:=by
 have:=Mn k.toNat (by omega)
 rwa[show((k.toNat:Nat):Int)=k by omega] at this
def bE (w:World):Prop:=∀i:Nat,i<25->Cel w 2 i (iv (hiT.getD i 0))
theorem bE.below {w w':World} (h:bE w) (hb:Below w.heap.size w w'):bE w':=fun i hi=>(h i hi).below hb
theorem bE.at {w:World} (h:bE w) (k:Int):Cel w 2 (max 0 (min k 24)).toNat (iv (hiv k)):=h _ (by omega)
theorem Nf {w:World} {i:Int} (h0:0<=i) (h1:i<25):(Instr.indexAt 256 (.pointer (some ⟨2,0,none⟩)) (iv i)).run Tryz.prog w= .ok (.pointer (some ⟨2,i.toNat,none⟩)) w:=by
 simp[Instr.indexAt,asIntOf,Instr.sureAddr,run_underlying Tryz.underlying256,Sem.run_bind,h0,h1,Addr.add_mid]
def pb (k:Int):Nat×Nat:=(fI (spk (k+24)),fI (spk k))
theorem se {a b:Int} (h:a%96=b%96):pb a=pb b:=by unfold pb;rw[fH h,fH (a:=a+24) (b:=b+24) (by omega)]
def adI (p q:Nat×Nat):Bool:=frc q.1 fun x=>frc q.2 fun y=>decide (Ieee.double.add p.1 0=some x) && decide (Ieee.double.add p.2 0=some y)
theorem ND {p q:Nat×Nat} (h:adI p q=true):Ieee.double.add p.1 0=some q.1/\Ieee.double.add p.2 0=some q.2:=by
 unfold adI at h
 simp only [uB,Bool.and_eq_true,decide_eq_true_eq] at h
 exact h
def itI:Nat->Nat×Nat->Nat×Nat
 |0,p=>p
 |j+1,p=>(mulI (itI j p)).getD (0,0)
def chI (a:Nat×Nat) (p1 p2 p3 p4:Nat×Nat):Bool:=
 frc a.1 fun x0=>frc a.2 fun y0=>match mulI (x0,y0) with
 |none=>false
 |some b=>frc b.1 fun x1=>frc b.2 fun y1=>match mulI (x1,y1) with
  |none=>false
  |some c=>frc c.1 fun x2=>frc c.2 fun y2=>match mulI (x2,y2) with
   |none=>false
   |some d=>frc d.1 fun x3=>frc d.2 fun y3=>
    adI (x0,y0) p1 && adI (x1,y1) p2 && adI (x2,y2) p3 && adI (x3,y3) p4
theorem Gh {a p1 p2 p3 p4:Nat×Nat} (h:chI a p1 p2 p3 p4=true):(∀j,j<3->mulI (itI j a)=some (itI (j+1) a))/\adI (itI 0 a) p1=true/\adI (itI 1 a) p2=true/\adI (itI 2 a) p3=true/\adI (itI 3 a) p4=true:=by
 unfold chI at h
 simp only [uB] at h
 split at h
 ·cases h
 ·rename_i b hb
  split at h
  ·cases h
  ·rename_i c hc
   split at h
   ·cases h
   ·rename_i d hd
    have e1:itI 1 a=b:=by show(mulI a).getD (0,0)=b;rw[show mulI a=some b from hb];rfl
    have e2:itI 2 a=c:=by show(mulI (itI 1 a)).getD (0,0)=c;rw[e1,show mulI b=some c from hc];rfl
    have e3:itI 3 a=d:=by show(mulI (itI 2 a)).getD (0,0)=d;rw[e2,show mulI c=some d from hd];rfl
    simp only [Bool.and_eq_true] at h
    refine⟨fun j hj=>?_,h.1.1.1,by rw[e1];exact h.1.1.2,by rw[e2];exact h.1.2,by rw[e3];exact h.2⟩
    have:j=0\/j=1\/j=2:=by omega
    rcases this with rfl|rfl|rfl
    ·rw[e1];exact hb
    ·rw[e1,e2];exact hc
    ·rw[e2,e3];exact hd
theorem BT:∀n:Nat,n<96->chI (pb (n:Int)) (pb (n:Int)) (pb ((n:Int)+24)) (pb ((n:Int)+48)) (pb ((n:Int)+72))=true:=by decide+kernel
theorem G9 (k:Int) {j:Nat} (h:j<3):mulI (itI j (pb k))=some (itI (j+1) (pb k)):=by
 have:=(Gh (BT (k%96).toNat (by omega))).1 j h
 rwa[se (b:=k) (by omega)] at this
theorem pJ {p:Nat×Nat} {m n:Int} (h:adI p (pb m)=true) (e:m%96=n%96):Ieee.double.add p.1 0=some (fI (spk (n+24)))/\Ieee.double.add p.2 0=some (fI (spk n)):=by
 obtain⟨a,b⟩:=ND h
 exact⟨a.trans (congrArg (fun p=>some p.1) (se e)),b.trans (congrArg (fun p=>some p.2) (se e))⟩
theorem Cm (k q:Int) {j:Nat} (h:((j:Nat):Int)=q%4):Ieee.double.add (itI j (pb k)).1 0=some (fI (spk (k+24*q+24)))/\Ieee.double.add (itI j (pb k)).2 0=some (fI (spk (k+24*q))):=by
 obtain⟨_,h0,h1,h2,h3⟩:=Gh (BT (k%96).toNat (by omega))
 have ek:pb (((k%96).toNat :Nat):Int)=pb k:=se (by omega)
 rw[ek] at h0 h1 h2 h3
 have hj:j=0\/j=1\/j=2\/j=3:=by omega
 rcases hj with rfl|rfl|rfl|rfl
 ·exact pJ h0 (by omega)
 ·exact pJ h1 (by omega)
 ·exact pJ h2 (by omega)
 ·exact pJ h3 (by omega)
theorem Oi:∀n:Nat,n<96->floatToIntVal .f64 (fI (spk (n:Int))) .i64 =some (spk (n:Int)):=by decide+kernel
theorem RL (k:Int):floatToIntVal .f64 (fI (spk k)) .i64 =some (spk k):=by
 have:=Oi (k%96).toNat (by omega)
 rwa[fH (b:=k) (by omega)] at this
theorem QD {a b c d:Nat} (h:a=c) (k:b=d):Ending.returned (.complex .f64 a b)= .returned (.complex .f64 c d):=by rw[h,k]
theorem JZ (k:Int) (w:World):
 CV 289 #[iv k,iv 4] w (iv (k%4)):=by
 have bel:Below w.heap.size w w:=Below.refl _ _
 refine go2 (nt:=12) Tryz.func289 rfl rfl rfl fun a hF=>wq ?_
 refine oC hF rfl fun a hF=>nq<|oM hF 1 rfl rfl fun a hF=>oM hF 3 rfl rfl fun a hF=>oV hF (aq hF.p hF.o aa (iU (a:=k) (b:=4) (by omega))) rfl fun a hF=>oM hF 5 rfl rfl fun a hF=>oV hF (aq hF.p hF.o aa (aX (by omega) (by omega))) rfl fun a hF=>oM hF 7 rfl rfl fun a hF=>oV hF (aq hF.p hF.o aa (iU (a:=(if 0<=k then k%4 else -(-k%4))+4) (b:=4) (by omega))) rfl fun a hF=>?_
 refine oE hF 0 rfl rfl fun a hF=>nr<|rt Tryz.results289 hF 0 rfl ?_
 refine⟨ch ?_,bel⟩
 omega
theorem GS (k:Int) (w:World):
 CV 289 #[iv k,iv 96] w (iv (k%96)):=by
 have bel:Below w.heap.size w w:=Below.refl _ _
 refine go2 (nt:=12) Tryz.func289 rfl rfl rfl fun a hF=>wq ?_
 refine oC hF rfl fun a hF=>nq<|oM hF 1 rfl rfl fun a hF=>oM hF 3 rfl rfl fun a hF=>oV hF (aq hF.p hF.o aa (iU (a:=k) (b:=96) (by omega))) rfl fun a hF=>oM hF 5 rfl rfl fun a hF=>oV hF (aq hF.p hF.o aa (aX (by omega) (by omega))) rfl fun a hF=>oM hF 7 rfl rfl fun a hF=>oV hF (aq hF.p hF.o aa (iU (a:=(if 0<=k then k%96 else -(-k%96))+96) (b:=96) (by omega))) rfl fun a hF=>?_
 refine oE hF 0 rfl rfl fun a hF=>nr<|rt Tryz.results289 hF 0 rfl ?_
 refine⟨ch ?_,bel⟩
 omega
theorem tI (k:Int) (w:World) (hT:bE w):
 CV 281 #[iv k] w (iv (hiv k)):=by
 have bel:Below w.heap.size w w:=Below.refl _ _
 refine go1 (nt:=8) Tryz.func281 rfl rfl rfl fun a hF=>wq ?_
 refine oC hF rfl fun a hF=>nq ?_
 refine oM hF 1 rfl rfl fun a hF=>oV hF (aW (aL hF.o ao) rC) rfl fun a hF=>oV hF (aW (aL ao hF.o) zd) rfl fun a hF=>oV hF (bS rfl hF.o (Nf (by omega) (by omega))) rfl fun a hF=>oV hF (ar hF.o (vG ((hT.below bel).at k))) rfl fun a hF=>oE hF 0 rfl rfl fun a hF=>nr<|rt Tryz.results281 hF 0 rfl ?_
 exact⟨rfl,bel⟩
theorem Ib (k q:Int) (w:World):
 CV 290 #[.complex .f64 (fI (spk (k+24))) (fI (spk (k))),iv q] w (.complex .f64 (fI (spk ((k+24*q)+24))) (fI (spk ((k+24*q))))):=by
 have bel:Below w.heap.size w w:=Below.refl _ _
 refine go2 (nt:=14) Tryz.func290 rfl rfl rfl fun a hF=>wq ?_
 refine oC hF rfl fun a hF=>ns<|wq<|oM hF 2 rfl rfl fun a hF=>?_
 refine E.call hF (rk KE (aL hF.o ao)) (JZ q _) rfl rfl rfl rfl ?_
 rintro e w1 ⟨rfl,bb⟩
 refine⟨_,rfl,?_⟩
 intro a hF
 replace bel:=aF bel bb
 clear bb
 refine oV hF (aD ao) rfl fun a hF=>E.nil<|wp_block ?_
 refine E.loop (fun mq a wv=>∃(j:Nat),((j:Nat):Int)<=q%4/\Fr 14 a [(7,iv ((j:Nat):Int)),(6,iv ((q)%4)),(4,.complex .f64 0 0),(0,.complex .f64 ((itI j (pb k)).1) ((itI j (pb k)).2))]/\Below w1.heap.size w1 wv/\Below w.heap.size w wv/\mq=(q%4).toNat - j) ((q%4).toNat - 0) ?_ ?_
 ·exact⟨0,(by omega),Fr.sub (L':=[(7,iv ((0:Nat):Int)),(6,iv ((q)%4)),(4,.complex .f64 0 0),(0,.complex .f64 (fI (spk (k+24))) (fI (spk (k))))]) hF (by intro p hp;simp only [List.mem_cons,List.not_mem_nil,or_false] at hp ⊢;rcases hp with rfl|rfl|rfl|rfl <;> simp),Below.refl _ _,bel,rfl⟩
 ·rintro mq a w2 ⟨j,hj,hF,sty,bel,hm⟩
  by_cases hjn:((j:Nat):Int)<q%4
  ·refine wp_seq<|E.seq ?_
   refine oU hF 0 1 (aY (c:=true) (aI hjn)) rfl rfl rfl fun a hF=>ns<|wp_cond_true hF.o<|wp_skip<|E.norm<|wp_seq<|wp_block<|E.seq<|oM hF 4 rfl rfl fun a hF=>oV hF (aq hF.o ao Ka (MR (p:=itI j (pb k)) (G9 k (by omega)))) rfl fun a hF=>?_
   refine E.opset (L':=[(0,.complex .f64 ((itI (j+1) (pb k)).1) ((itI (j+1) (pb k)).2)),(10,.complex .f64 ((itI (j+1) (pb k)).1) ((itI (j+1) (pb k)).2)),(9,.complex .f64 ((itI j (pb k)).1) ((itI j (pb k)).2)),(8,.bool true),(7,iv ((j:Nat):Int)),(6,iv ((q)%4)),(4,.complex .f64 0 0)]) hF (aZ hF.o) rfl rfl rfl rfl fun a hF=>?_
   refine E.nil0<|E.blk<|E.norm<|E.seq<|oV hF (aq (hF.at 4 rfl) ao aa (aX (by omega) (by omega))) rfl fun a hF=>?_
   refine E.opset (L':=[(7,iv (((j:Nat):Int)+1)),(11,iv (((j:Nat):Int)+1)),(0,.complex .f64 ((itI (j+1) (pb k)).1) ((itI (j+1) (pb k)).2)),(10,.complex .f64 ((itI (j+1) (pb k)).1) ((itI (j+1) (pb k)).2)),(9,.complex .f64 ((itI j (pb k)).1) ((itI j (pb k)).2)),(8,.bool true),(6,iv ((q)%4)),(4,.complex .f64 0 0)]) hF (aD hF.o) rfl rfl rfl rfl fun a hF=>?_
   refine E.nil0<|E.norm ?_
   exact⟨(q%4).toNat - (j+1),by omega,⟨(j+1),(by omega),(by rw[show((j+1:Nat):Int)=((j:Nat):Int)+1 from by omega];exact Fr.sub (L':=[(7,iv (((j:Nat):Int)+1)),(6,iv ((q)%4)),(4,.complex .f64 0 0),(0,.complex .f64 ((itI (j+1) (pb k)).1) ((itI (j+1) (pb k)).2))]) hF (by intro p hp;simp only [List.mem_cons,List.not_mem_nil,or_false] at hp ⊢;rcases hp with rfl|rfl|rfl|rfl <;> simp)),sty,bel,rfl⟩⟩
  ·refine wp_seq<|E.seq ?_
   refine oU hF 0 1 (aY (c:=false) (aJ hjn)) rfl rfl rfl fun a hF=>ns<|wp_cond_false hF.o<|wp_exit<|E.past<|E.past<|E.out (id:=0)<|E.norm<|wq<|oM hF 4 rfl rfl fun a hF=>oV hF (aq hF.o ao Ka (Oe (Cm k q (j:=j) (by omega)).1 (Cm k q (j:=j) (by omega)).2)) rfl fun a hF=>?_
   refine E.opset (L':=[(4,.complex .f64 (fI (spk (k+24*q+24))) (fI (spk (k+24*q)))),(13,.complex .f64 (fI (spk (k+24*q+24))) (fI (spk (k+24*q)))),(12,.complex .f64 ((itI j (pb k)).1) ((itI j (pb k)).2)),(8,.bool false),(7,iv ((j:Nat):Int)),(6,iv ((q)%4)),(0,.complex .f64 ((itI j (pb k)).1) ((itI j (pb k)).2))]) hF (aZ hF.o) rfl rfl rfl rfl fun a hF=>?_
   refine nr<|rt Tryz.results290 hF 0 rfl ?_
   exact⟨rfl,bel⟩
theorem Ee (x y:Int) (b q:Int) (w:World) (h1:x=spk (24-b)) (h2:y=spk b) (hb0:0<=b) (hb1:b<24):CV 290 #[.complex .f64 (fI x) (fI y),iv q] w (.complex .f64 (fI (spk ((b+24*q)+24))) (fI (spk ((b+24*q))))):=by
 have e:spk (24-b)=spk (b+24):=by rw[<-oh (b+24)];exact fH (by omega)
 rw[h1,h2,e]
 exact Ib b q w
theorem GN (k:Int) (w:World) (hT:bE w):
 CV 288 #[iv k] w (.complex .f64 (fI (spk (k+24))) (fI (spk (k)))):=by
 have bel:Below w.heap.size w w:=Below.refl _ _
 refine go1 (nt:=22) Tryz.func288 rfl rfl rfl fun a hF=>wq ?_
 refine oC hF rfl fun a hF=>nq<|oM hF 1 rfl rfl fun a hF=>?_
 refine E.call hF (rk KE (aL hF.o ao)) (GS k _) rfl rfl rfl rfl ?_
 rintro e w1 ⟨rfl,bb⟩
 refine⟨_,rfl,?_⟩
 intro a hF
 replace bel:=aF bel bb
 clear bb
 refine oA hF 0 rfl rfl fun a hF=>nq ?_
 refine oM hF 0 rfl rfl fun a hF=>oV hF (aq hF.o ao aa (eK (a:=(k)%96) (b:=24) (by omega) (by omega))) rfl fun a hF=>oA hF 0 rfl rfl fun a hF=>nq<|oM hF 0 rfl rfl fun a hF=>oV hF (aq ao hF.o aa (bB (by omega) (by omega))) rfl fun a hF=>?_
 refine E.call hF (rk KQ (aG hF.o)) (tI (24-(((k)%96)%24)) _ (hT.below bel)) rfl rfl rfl rfl ?_
 rintro e w2 ⟨rfl,bb⟩
 refine⟨_,rfl,?_⟩
 intro a hF
 replace bel:=aF bel bb
 clear bb
 refine oV hF (go hF.o (KJ Tryz.underlying3 Tryz.underlying253)) rfl fun a hF=>oM hF 4 rfl rfl fun a hF=>?_
 refine E.call hF (rk KQ (aG hF.o)) (tI (((k)%96)%24) _ (hT.below bel)) rfl rfl rfl rfl ?_
 rintro e w3 ⟨rfl,bb⟩
 refine⟨_,rfl,?_⟩
 intro a hF
 replace bel:=aF bel bb
 clear bb
 refine oV hF (go hF.o (KJ Tryz.underlying3 Tryz.underlying253)) rfl fun a hF=>oV hF (aW (aL (hF.at 3 rfl) hF.o) Rp) rfl fun a hF=>oA hF 0 rfl rfl fun a hF=>nq<|oM hF 0 rfl rfl fun a hF=>oM hF 13 rfl rfl fun a hF=>oV hF (aq hF.o ao aa (Ln (a:=(k)%96) (b:=24) (by omega) (by omega) (by omega) (by omega))) rfl fun a hF=>?_
 refine E.call hF (rk Q4 (aL hF.q hF.o)) (Ee _ _ (k%96%24) (((k)%96)/24) _ (Gp (k:=24-(k%96%24)) (by omega) (by omega)) (Gp (k:=(k%96%24)) (by omega) (by omega)) (by omega) (by omega)) rfl rfl rfl rfl ?_
 rintro e w4 ⟨rfl,bb⟩
 refine⟨_,rfl,?_⟩
 intro a hF
 replace bel:=aF bel bb
 clear bb
 refine oE hF 0 rfl rfl fun a hF=>nr<|rt Tryz.results288 hF 0 rfl ?_
 exact⟨QD (congrArg fI (fH (by omega))) (congrArg fI (fH (by omega))),bel⟩
theorem rn (k:Int) (w:World) (hT:bE w):
 CV 279 #[iv k] w (iv (spk k)):=by
 have bel:Below w.heap.size w w:=Below.refl _ _
 refine go1 (nt:=7) Tryz.func279 rfl rfl rfl fun a hF=>wq ?_
 refine oC hF rfl fun a hF=>nq<|oM hF 1 rfl rfl fun a hF=>?_
 refine E.call hF (rk QY (aG hF.o)) (GN k _ (hT.below bel)) rfl rfl rfl rfl ?_
 rintro e w1 ⟨rfl,bb⟩
 refine⟨_,rfl,?_⟩
 intro a hF
 replace bel:=aF bel bb
 clear bb
 refine oV hF (aW (aG hF.o) RM) rfl fun a hF=>oV hF (go hF.o (RA Tryz.underlying253 Tryz.underlying3 (RL (k)))) rfl fun a hF=>oE hF 0 rfl rfl fun a hF=>nr<|rt Tryz.results279 hF 0 rfl ?_
 exact⟨rfl,bel⟩
end
section
end
section
theorem QI (w:World):∃g w',(Instr.buildSlice 40 25 #[(0,iv 0),(1,iv 225),(2,iv 449),(3,iv 671),(4,iv 890),(5,iv 1105),(6,iv 1315),(7,iv 1520),(8,iv 1719),(9,iv 1910),(10,iv 2093),(11,iv 2267),(12,iv 2431),(13,iv 2585),(14,iv 2728),(15,iv 2859),(16,iv 2978),(17,iv 3084),(18,iv 3177),(19,iv 3256),(20,iv 3321),(21,iv 3372),(22,iv 3409),(23,iv 3431),(24,iv 3438)]).run Tryz.prog w= .ok (.slice (some ⟨g,0,none⟩) 25 25) w'/\Below w.heap.size w w'/\Blk w' g (hiT.map fun z=> iv z):=by
 have hb:=ec (w:=w) (cs:=hiT.map fun z=> iv z) 3
 refine⟨w.heap.size,w.alloc (.cells (hiT.map fun z=> iv z).toArray 3),?_,hb.2,hb.1⟩
 have hs:=bh (P:=Tryz.prog) (T:=3) (n:=1) (by kernel_rfl) w
 simp[Instr.buildSlice,go_sem,hs,Instr.fill,Value.cells,newRow,hiT]
theorem G5 {w:World} {g n c:Nat} {i:Int} (h0:0<=i) (h1:i<n):(Instr.indexAt 40 (.slice (some ⟨g,0,none⟩) n c) (iv i)).run Tryz.prog w= .ok (.pointer (some ⟨g,i.toNat,none⟩)) w:=by
 simp[Instr.indexAt,asIntOf,run_underlying Tryz.underlying40,Sem.run_bind,h0,h1,Addr.add_mid]
theorem P5:∀n:Nat,n<25->(hiT.map fun z=>Value.int .i64 z)[n]?=some (iv (hiT.getD n 0)):=by
 intro n hn
 rw[List.getElem?_map,List.getElem?_eq_getElem (by show n<25;exact hn)]
 simp[List.getD,List.getElem?_eq_getElem (show n<hiT.length from hn)]
theorem QB (k:Int):(hiT.map fun z=>Value.int .i64 z)[(max 0 (min k 24)).toNat]?=some (iv (hiv k)):=P5 _ (by omega)
def s48 (k:Int):Int:=hiv (if 24<k then 48-k else k)
theorem Lm:∀n:Nat,n<48->s48 (n:Int)=spk (n:Int):=by decide+kernel
theorem zm {k:Int} (h0:0<=k) (h1:k<48):s48 k=spk k:=by
 have:=Lm k.toNat (by omega)
 rwa[show((k.toNat:Nat):Int)=k by omega] at this
theorem Ny {k:Int} (h0:48<=k%96): -(s48 (k%96-48))=spk k:=by
 rw[zm (by omega) (by omega)]
 have:=GC (k%96-48)
 rw[<-lG k,<-this,show k%96-48+48=k%96 by omega]
theorem Hd {k:Int} (h0:¬48<=k%96):s48 (k%96)=spk k:=by
 rw[zm (by omega) (by omega),lG]
theorem Qd {k:Int} (h0:0<=k) (h1:k<48): -3438<=s48 k/\s48 k<=3438:=by rw[zm h0 h1];exact lZ k
theorem Lx {a:Act} {x0 x1 x2 x3 x4 x5 x6 x7 x8 x9 x10 x11 x12 x13 x14 x15 x16 x17 x18 x19 x20 x21 x22 x23 x24:Value}:(#[(0,Operand.const x0),(1,Operand.const x1),(2,Operand.const x2),(3,Operand.const x3),(4,Operand.const x4),(5,Operand.const x5),(6,Operand.const x6),(7,Operand.const x7),(8,Operand.const x8),(9,Operand.const x9),(10,Operand.const x10),(11,Operand.const x11),(12,Operand.const x12),(13,Operand.const x13),(14,Operand.const x14),(15,Operand.const x15),(16,Operand.const x16),(17,Operand.const x17),(18,Operand.const x18),(19,Operand.const x19),(20,Operand.const x20),(21,Operand.const x21),(22,Operand.const x22),(23,Operand.const x23),(24,Operand.const x24)].map fun(p:Nat×Operand)=>(p.1,a.eval p.2))=#[(0,x0),(1,x1),(2,x2),(3,x3),(4,x4),(5,x5),(6,x6),(7,x7),(8,x8),(9,x9),(10,x10),(11,x11),(12,x12),(13,x13),(14,x14),(15,x15),(16,x16),(17,x17),(18,x18),(19,x19),(20,x20),(21,x21),(22,x22),(23,x23),(24,x24)]:=by simp[Act.eval]
theorem CM (k:Int) (w:World):
 CV 284 #[iv k,iv 96] w (iv (k%96)):=by
 have bel:Below w.heap.size w w:=Below.refl _ _
 refine go2 (nt:=12) Tryz.func284 rfl rfl rfl fun a hF=>wq ?_
 refine oC hF rfl fun a hF=>nq<|oM hF 1 rfl rfl fun a hF=>oM hF 3 rfl rfl fun a hF=>oV hF (aq hF.p hF.o aa (iU (a:=k) (b:=96) (by omega))) rfl fun a hF=>oM hF 5 rfl rfl fun a hF=>oV hF (aq hF.p hF.o aa (aX (by omega) (by omega))) rfl fun a hF=>oM hF 7 rfl rfl fun a hF=>oV hF (aq hF.p hF.o aa (iU (a:=(if 0<=k then k%96 else -(-k%96))+96) (b:=96) (by omega))) rfl fun a hF=>?_
 refine oE hF 0 rfl rfl fun a hF=>nr<|rt Tryz.results284 hF 0 rfl ?_
 refine⟨ch ?_,bel⟩
 omega
theorem qG (k:Int) (w:World):
 CV 287 #[iv k] w (iv (hiv k)):=by
 have bel:Below w.heap.size w w:=Below.refl _ _
 refine go1 (nt:=9) Tryz.func287 rfl rfl rfl fun a hF=>wq ?_
 refine oC hF rfl fun a hF=>nq ?_
 obtain⟨gs2,w1,hr,bb,ols⟩:=QI w
 refine oV hF (bO Lx hr) rfl fun a hF=>?_
 clear hr
 replace bel:=aF bel bb
 clear bb
 refine oM hF 2 rfl rfl fun a hF=>oV hF (aW (aL hF.o ao) rC) rfl fun a hF=>oV hF (aW (aL ao hF.o) zd) rfl fun a hF=>oV hF (bS (hF.at 3 rfl) hF.o (G5 (by omega) (by omega))) rfl fun a hF=>oV hF (ar hF.o (bQ (v:= iv (hiv k)) ols (QB k))) rfl fun a hF=>oE hF 0 rfl rfl fun a hF=>nr<|rt Tryz.results287 hF 0 rfl ?_
 exact⟨rfl,bel⟩
theorem B8 (k:Int) (w:World) (h0:0<=k) (h1:k<48):
 CV 285 #[iv k] w (iv (s48 k)):=by
 have bel:Below w.heap.size w w:=Below.refl _ _
 refine go1 (nt:=10) Tryz.func285 rfl rfl rfl fun a hF=>wq ?_
 refine oC hF rfl fun a hF=>ns<|wq<|oM hF 1 rfl rfl fun a hF=>?_
 by_cases hc1:24<k
 ·first
  |(exfalso;omega)
  |(refine oT hF 0 (bT (c:=true) (aI hc1)) rfl rfl fun a hF=>?_
    refine E.nil<|wp_cond_true hF.o<|wq<|oM hF 3 rfl rfl fun a hF=>oV hF (aq ao hF.o aa (bB (by omega) (by omega))) rfl fun a hF=>?_
    refine E.call hF (rk Dk (aG hF.o)) (qG (48-k) _) rfl rfl rfl rfl ?_
    rintro e w2 ⟨rfl,bb⟩
    refine⟨_,rfl,?_⟩
    intro a hF
    replace bel:=aF bel bb
    clear bb
    refine oE hF 0 rfl rfl fun a hF=>nr<|rt Tryz.results285 hF 0 rfl ?_
    refine⟨ch ?_,bel⟩
    unfold s48;rw[if_pos (by omega)])
 ·first
  |(exfalso;omega)
  |(refine oT hF 0 (bT (c:=false) (aJ hc1)) rfl rfl fun a hF=>?_
    refine E.nil<|wp_cond_false hF.o<|wp_skip<|E.norm<|wq<|oM hF 3 rfl rfl fun a hF=>?_
    refine E.call hF (rk Dk (aG hF.o)) (qG k _) rfl rfl rfl rfl ?_
    rintro e w3 ⟨rfl,bb⟩
    refine⟨_,rfl,?_⟩
    intro a hF
    replace bel:=aF bel bb
    clear bb
    refine oE hF 0 rfl rfl fun a hF=>nr<|rt Tryz.results285 hF 0 rfl ?_
    refine⟨ch ?_,bel⟩
    unfold s48;rw[if_neg (by omega)])
theorem rx (k:Int) (w:World):
 CV 274 #[iv k] w (iv (spk k)):=by
 have hsb:=fun h0=>Qd (k:=(k%96)-48) h0 (by omega)
 have bel:Below w.heap.size w w:=Below.refl _ _
 refine go1 (nt:=13) Tryz.func274 rfl rfl rfl fun a hF=>wq ?_
 refine oC hF rfl fun a hF=>nq<|oM hF 1 rfl rfl fun a hF=>?_
 refine E.call hF (rk Qq (aL hF.o ao)) (CM k _) rfl rfl rfl rfl ?_
 rintro e w1 ⟨rfl,bb⟩
 refine⟨_,rfl,?_⟩
 intro a hF
 replace bel:=aF bel bb
 clear bb
 refine oE hF 0 rfl rfl fun a hF=>ns<|wq<|oM hF 0 rfl rfl fun a hF=>?_
 by_cases hc2:48<=(k)%96
 ·first
  |(exfalso;omega)
  |(refine oT hF 0 (dI (c:=true) (aI hc2)) rfl rfl fun a hF=>?_
    refine E.nil<|wp_cond_true hF.o<|wq<|oM hF 2 rfl rfl fun a hF=>oV hF (aq hF.o ao aa (bB (by omega) (by omega))) rfl fun a hF=>?_
    refine E.call hF (rk Km (aG hF.o)) (B8 (((k)%96)-48) _ (by omega) (by omega)) rfl rfl rfl rfl ?_
    rintro e w3 ⟨rfl,bb⟩
    refine⟨_,rfl,?_⟩
    intro a hF
    replace bel:=aF bel bb
    clear bb
    refine oV hF (dF hF.o (uM (by omega) (by omega))) rfl fun a hF=>oE hF 0 rfl rfl fun a hF=>nr<|rt Tryz.results274 hF 0 rfl ?_
    refine⟨ch ?_,bel⟩
    exact Ny (by omega))
 ·first
  |(exfalso;omega)
  |(refine oT hF 0 (dI (c:=false) (aJ hc2)) rfl rfl fun a hF=>?_
    refine E.nil<|wp_cond_false hF.o<|wp_skip<|E.norm<|wq<|oM hF 2 rfl rfl fun a hF=>?_
    refine E.call hF (rk Km (aG hF.o)) (B8 ((k)%96) _ (by omega) (by omega)) rfl rfl rfl rfl ?_
    rintro e w4 ⟨rfl,bb⟩
    refine⟨_,rfl,?_⟩
    intro a hF
    replace bel:=aF bel bb
    clear bb
    refine oE hF 0 rfl rfl fun a hF=>nr<|rt Tryz.results274 hF 0 rfl ?_
    refine⟨ch ?_,bel⟩
    exact Hd (by omega))
theorem tabD_of {w:World} (h:Lib.TabIs Tryz.prog w "ephemeris/dial.heights" .i64 [0,225,449,671,890,1105,1315,1520,1719,1910,2093,2267,2431,2585,2728,2859,2978,3084,3177,3256,3321,3372,3409,3431,3438]):bE w:=fun i hi=>h.cell (by kernel_rfl) i hi
end
end
end Go.Proofs.YtgdpkknapcgcbaaGreatDoor
