import Derived.Test.YtnljadejcfgmaaaGreatDoorKB12
namespace Go.Proofs.YtnljadejcfgmaaaGreatDoor
open Go.RowKit
set_option maxRecDepth 100000
set_option linter.unusedVariables false
set_option maxHeartbeats 8000000
section
section
variable {P:Program} {ops:Array Oper} {Q:Exit→Act→World→Prop} {W w w':World} {bs:List (Nat×List Value)} {fs:List (World→Prop)} {nt d n s t:Nat} {L:List (Nat×Value)} {rest:List Oper} {a:Act} {T:TypeId} {v:Value} {op:Op} {ty:TypeId} {pos:String} {af:Array Edge} {g:Nat} {cs vs zs:List Value} {x y:Operand}
theorem eX {b c:Bool} (h:(b && c)=true):b=true∧c=true:=by rwa[Bool.and_eq_true] at h
theorem oV (hF:Fr nt a L) (hr:(execOp a.eval ⟨some d,op,ty,pos,af,none⟩).run P w= .ok (.value v) w') (hk:(Nat.blt d nt && bI d L)=true) (h:∀a',Fr nt a' ((d,v)::L)→wpS P ops Q rest a' w'):wpS P ops Q (⟨some d,op,ty,pos,af,none⟩::rest) a w:=
 E.opv hF hr rfl rfl (eX hk).1 (eX hk).2 h
theorem oS (hF:Fr nt a L) (hr:(execOp a.eval ⟨some d,op,ty,pos,af,none⟩).run P w= .ok (.value v) w') (hk:Nat.blt d nt=true) (h:∀a',Fr nt a' ((d,v)::L.filter fun p=>!(Nat.beq p.1 d))→wpS P ops Q rest a' w'):wpS P ops Q (⟨some d,op,ty,pos,af,none⟩::rest) a w:=
 E.opset hF hr rfl rfl hk rfl h
theorem oM (hF:Fr nt a L) (i:Nat) (hi:L[i]?=some (s,v)) (hk:(Nat.blt d nt && bI d L)=true) (h:∀a',Fr nt a' ((d,v)::L)→wpS P ops Q rest a' w):wpS P ops Q (⟨some d,.move (.tmp s),ty,pos,af,none⟩::rest) a w:=
 oV hF (aP (dK (hF.at i hi))) hk h
theorem oA (hF:Fr nt a L) (i:Nat) (hi:L[i]?=some (s,v)) (hk:(Nat.blt d nt && bI d L)=true) (h:∀a',Fr nt a' ((d,v)::L)→wpS P ops Q rest a' w):wpS P ops Q (⟨some d,.assign (.tmp s),ty,pos,af,none⟩::rest) a w:=
 oV hF (aO (dK (hF.at i hi))) hk h
theorem oC (hF:Fr nt a L) (hk:(Nat.blt d nt && bI d L)=true) (h:∀a',Fr nt a' ((d,v)::L)→wpS P ops Q rest a' w):wpS P ops Q (⟨some d,.assign (.const v),ty,pos,af,none⟩::rest) a w:=
 oV hF (aO ao) hk h
theorem oE (hF:Fr nt a L) (i:Nat) (hi:L[i]?=some (s,v)) (hk:Nat.blt d nt=true) (h:∀a',Fr nt a' ((d,v)::L.filter fun p=>!(Nat.beq p.1 d))→wpS P ops Q rest a' w):wpS P ops Q (⟨some d,.assign (.tmp s),ty,pos,af,none⟩::rest) a w:=
 oS hF (aO (dK (hF.at i hi))) hk h
theorem oL (hF:Fr nt a L) (st:St W w bs fs) (i j:Nat) (hT:Ty P T n zs) (hi:L[i]?=some (s,.pointer (some ⟨g,0,none⟩))) (hj:bs[j]?=some (g,cs)) (hn:cs.length=n) (hk:(Nat.blt d nt && bI d L)=true) (h:∀a',Fr nt a' ((d,.agg cs.toArray)::L)→wpS P ops Q rest a' w):wpS P ops Q (⟨some d,.load T (.tmp s),ty,pos,af,none⟩::rest) a w:=
 oV hF (av (dK (hF.at i hi)) (cD hT (st.bk j hj) hn)) hk h
theorem so (st:St W w bs fs) (hF:Fr nt a L) (i p q:Nat) (hT:Ty P T n zs) (hb:bs[i]?=some (g,cs)) (hp:L[p]?=some (s,.pointer (some ⟨g,0,none⟩))) (hq:L[q]?=some (t,.agg vs.toArray)) (hk:(Nat.beq vs.length n && Nat.beq cs.length n && (cs.all de && vs.all de))=true)
 (k:∀w' a',St W w' (bs.set i (g,vs)) fs→Fr nt a' L→wpS P ops Q rest a' w'):wpS P ops Q (⟨none,.store T (.tmp s) (.tmp t),ty,pos,af,none⟩::rest) a w:=
 S.sto st hF i hb (dK (hF.at p hp)) (dK (hF.at q hq)) hT (Nat.eq_of_beq_eq_true (eX (eX hk).1).1) (Nat.eq_of_beq_eq_true (eX (eX hk).1).2) (eX (eX hk).2).1 (eX (eX hk).2).2 k
theorem bx (st:St W w bs fs) (hF:Fr nt a L) (i:Nat) (hi:L[i]?=some (s,.agg cs.toArray)) (hk:(Nat.blt d nt && bI d L)=true)
 (k:∀g w' a',St W w' ((g,cs)::bs) fs→Fr nt a' ((d,.pointer (some ⟨g,0,none⟩))::L)→wpS P ops Q rest a' w'):wpS P ops Q (⟨some d,.box T (.tmp s),ty,pos,af,none⟩::rest) a w:=
 S.box st hF (dK (hF.at i hi)) (eX hk).1 (eX hk).2 k
theorem cX {f:FuncId} {args:Array Value} (st:St W w bs fs) (hF:Fr nt a L) (hr:(execOp a.eval ⟨some d,op,ty,pos,af,none⟩).run P w= .ok (.enter f args) w) (hc:Calls P f args w fun e w'=>e= .returned v∧Below w.heap.size w w') (hk:(Nat.blt d nt && bI d L)=true)
 (k:∀w' a',St W w' bs fs→Fr nt a' ((d,v)::L)→wpS P ops Q rest a' w'):wpS P ops Q (⟨some d,op,ty,pos,af,none⟩::rest) a w:=
 S.callx st hF hr hc rfl rfl (eX hk).1 (eX hk).2 k
theorem ca {f:FuncId} {args:Array Value} {R:Ending→World→Prop} {H:Value→World→Prop} (st:St W w bs fs) (hF:Fr nt a L) (hr:(execOp a.eval ⟨some d,op,ty,pos,af,none⟩).run P w= .ok (.enter f args) w) (hc:Calls P f args w R)
 (hR:∀e w',R e w'→∃v,e= .returned v∧H v w'∧Below w.heap.size w w') (hcl:∀v,Cl (H v)) (hk:(Nat.blt d nt && bI d L)=true)
 (k:∀v w' a',St W w' bs (H v::fs)→Fr nt a' ((d,v)::L)→wpS P ops Q rest a' w'):wpS P ops Q (⟨some d,op,ty,pos,af,none⟩::rest) a w:=
 S.call st hF hr hc hR hcl rfl rfl (eX hk).1 (eX hk).2 k
theorem ns {x y:Code} {Q':Exit→Act→World→Prop} (h:x.wp P (Exit.then (y.wp P Q) Q) a w):wpS P ops (Exit.then ((Code.seq x y).wp P Q) Q') [] a w:=wp_seq h
theorem rs {fn:Func} {Ro:Ending→World→Prop} (h:fn.results=#[.cell s T]) (st:St W w bs fs) (hF:Fr nt a L) (p i:Nat) (hT:Ty P T n zs) (hp:L[p]?=some (s,.pointer (some ⟨g,0,none⟩))) (hb:bs[i]?=some (g,cs)) (hn:cs.length=n) (hR:Ro (.returned (.agg cs.toArray)) w):bodyPost P fn Ro .ret a w:=
 S.ret h st hF (hF.at p hp) i hb hT hn hF.dfr hR
theorem wq {id:Nat} {l:List Oper} {y:Code} (h:wpS P l.toArray (Exit.then (y.wp P Q) Q) l a w):(Code.seq (Code.region id l.toArray false) y).wp P Q a w:=wp_seq (E.seq h)
theorem nq {id:Nat} {l:List Oper} {y:Code} {Q':Exit→Act→World→Prop} (h:wpS P l.toArray (Exit.then (y.wp P Q) Q) l a w):wpS P ops (Exit.then ((Code.seq (Code.region id l.toArray false) y).wp P Q) Q') [] a w:=wp_seq (E.seq h)
theorem nr {Q':Exit→Act→World→Prop} (h:Q .ret a w):wpS P ops (Exit.then (Code.ret.wp P Q) Q') [] a w:=wp_ret h
theorem rt {fn:Func} {R:Ending→World→Prop} (h:fn.results=#[.tmp t]) (hF:Fr nt a L) (i:Nat) (hi:L[i]?=some (t,v)) (hR:R (.returned v) w):bodyPost P fn R .ret a w:=bodyPost_ret (DD h (hF.at i hi)) hF.dfr hR
structure CK (P:Program) (f:FuncId):Prop where
 ex:∃fn,P.funcs[f]?=some fn∧(fn.name == "runtime.NumGoroutine")=false∧fn.body.isNone=false
theorem rk {f:FuncId} {xs:Array Operand} {ts:Array TypeId} {args:Array Value} {dst:Option Tmp} {gd:Option (Nat×Bool)} (k:CK P f) (h:xs.map a.eval=args):(execOp a.eval ⟨dst,.call ⟨.value (.func f),xs,ts⟩,ty,pos,af,gd⟩).run P w= .ok (.enter f args) w:=by
 obtain⟨fn,h1,h2,h3⟩:=k.ex
 exact tG h1 h2 h3 h
theorem go0 {f:FuncId} {fn:Func} {c:Code} {R:Ending→World→Prop} (hf:P.funcs[f]?=some fn) (hb:fn.body=some c) (hn:fn.ntmps=nt) (h:∀a,Fr nt a []→c.wp P (bodyPost P fn R) a w):Calls P f #[] w R:=
 E.enter hf hb rfl (by simpa using hn) dY h
theorem go1 {f:FuncId} {fn:Func} {c:Code} {R:Ending→World→Prop} {v0:Value} (hf:P.funcs[f]?=some fn) (hb:fn.body=some c) (hn:fn.ntmps-1=n) (hs:1+n=nt) (h:∀a,Fr nt a [(0,v0)]→c.wp P (bodyPost P fn R) a w):Calls P f #[v0] w R:=
 E.enter hf hb hn hs (a8 (i:=0) rfl dY) h
theorem go2 {f:FuncId} {fn:Func} {c:Code} {R:Ending→World→Prop} {v0 v1:Value} (hf:P.funcs[f]?=some fn) (hb:fn.body=some c) (hn:fn.ntmps-2=n) (hs:2+n=nt) (h:∀a,Fr nt a [(0,v0),(1,v1)]→c.wp P (bodyPost P fn R) a w):Calls P f #[v0,v1] w R:=
 E.enter hf hb hn hs (a8 (i:=0) rfl (a8 (i:=1) rfl dY)) h
theorem go3 {f:FuncId} {fn:Func} {c:Code} {R:Ending→World→Prop} {v0 v1 v2:Value} (hf:P.funcs[f]?=some fn) (hb:fn.body=some c) (hn:fn.ntmps-3=n) (hs:3+n=nt) (h:∀a,Fr nt a [(0,v0),(1,v1),(2,v2)]→c.wp P (bodyPost P fn R) a w):Calls P f #[v0,v1,v2] w R:=
 E.enter hf hb hn hs (a8 (i:=0) rfl (a8 (i:=1) rfl (a8 (i:=2) rfl dY))) h
end
section
variable {o:Oper} {a:Act} {w:World} {Hs:List (World→Value→Prop)} {H:World→Value→Prop} {ds:List Nat} {s k p:Nat} {x:Value}
def tV (o:Oper) (ds:List Nat) (Hs:List (World→Value→Prop)) (p:Nat):Option (Nat×(World→Value→Prop)):=
 match o.after[p]? with
 |some e=>if Region.binds .any e=true then(match ds[e.on]?,Hs[e.on]? with|some s,some H=>some (s,H)|_,_=>none) else none
 |none=>none
theorem tH (hd:∀(e:Edge) (s:Nat),e∈o.after→Region.binds .any e=true→ds[e.on]?=some s→Hat Hs e.on w (a.tmps.getD s undef)) (p:Nat) (h:tV o ds Hs p=some (s,H)):∃v,a.tmps.getD s undef=v∧H w v:=by
 unfold tV at h
 split at h
 ·rename_i e he
  split at h
  ·rename_i hb
   split at h
   ·rename_i s' H' hs hH
    injection h with h
    injection h with h1 h2
    subst h1 h2
    exact sH hd p _ he hb hs hH
   ·cases h
  ·cases h
 ·cases h
theorem tE (hd:∀(e:Edge) (s:Nat),e∈o.after→Region.binds .any e=true→ds[e.on]?=some s→Hat Hs e.on w (a.tmps.getD s undef)) (p:Nat) (h:tV o ds Hs p=some (s,fun _ v=>v=x)):a.tmps.getD s undef=x:=by
 obtain⟨v,e,rfl⟩:=tH hd p h
 exact e
end
section
variable {P:Program} {ops:Array Oper} {Q:Exit→Act→World→Prop} {W w:World} {bs:List (Nat×List Value)} {fs:List (World→Prop)} {nt d n s i g:Nat} {L:List (Nat×Value)} {T:TypeId} {v:Value} {ty:TypeId} {pos:String} {af:Array Edge} {cs zs:List Value} {ds:List Nat} {Hs:List (World→Value→Prop)} {al:List Nat}
theorem zl (h:Hs[i]?=some fun _ u=>u=v) (w:World):Hat Hs i w v:=by unfold Hat;rw[h];rfl
theorem qL (st:St W w bs fs) (p j:Nat) (hT:Ty P T n zs) (hp:L[p]?=some (s,.pointer (some ⟨g,0,none⟩))) (hj:bs[j]?=some (g,cs)) (hn:cs.length=n) (hh:Hs[i]?=some fun _ u=>u= .agg cs.toArray) (ha:al.contains i=false):fx P ops Q nt L w ds Hs al i ⟨some d,.load T (.tmp s),ty,pos,af,none⟩:=by
 intro a' w' hF' hb hd
 exact dv0 (av (dK (hF'.at p hp)) (cD hT ((st.bk j hj).below hb) hn)) (zl hh _) ha rfl
theorem qM (p:Nat) (hp:L[p]?=some (s,v)) (hh:Hs[i]?=some fun _ u=>u=v) (ha:al.contains i=false):fx P ops Q nt L w ds Hs al i ⟨some d,.move (.tmp s),ty,pos,af,none⟩:=by
 intro a' w' hF' hb hd
 exact dv0 (aP (dK (hF'.at p hp))) (zl hh _) ha rfl
end
section
variable {W w:World} {bs:List (Nat×List Value)} {fs:List (World→Prop)} {nt s:Nat} {L:List (Nat×Value)} {a:Act} {x:Value} {ds:List Nat} {Hs:List (World→Value→Prop)} {H:World→Value→Prop}
theorem aE (hall:∀(i s:Nat),ds[i]?=some s→Hat Hs i w (a.tmps.getD s undef)) (hF:Fr nt a L) (i:Nat) (hs:ds[i]?=some s) (hH:Hs[i]?=some fun _ v=>v=x):Fr nt a ((s,x)::L):=hF.add (sSe hall i s hs hH)
theorem aS (hall:∀(i s:Nat),ds[i]?=some s→Hat Hs i w (a.tmps.getD s undef)) (hF:Fr nt a L) (st:St W w bs fs) (i:Nat) (hs:ds[i]?=some s) (hH:Hs[i]?=some H) (hc:∀v,Cl fun w=>H w v):∃v,Fr nt a ((s,v)::L)∧St W w bs ((fun w=>H w v)::fs):=by
 obtain⟨v,e,h⟩:=sS hall i s hs hH
 exact⟨v,hF.add e,st.add h (hc v)⟩
end
def Iz (u:Value):World→Value→Prop:=fun _ v=>v=u
def Ip (W:World):World→Value→Prop:=fun w v=>∃g,v= .pointer (some ⟨g,0,none⟩)∧W.heap.size≤g∧Own w g [.bool false,.slice none 0 0,.slice none 0 0]
class MbI (R:World→Value→Prop):Prop where
 h:Mb R
instance mbz {u:Value}:MbI (Iz u):=⟨Mb.eq u⟩
instance mbp {W:World}:MbI (Ip W):=⟨fun _ _ _ ⟨g,e,l,o⟩ hb=>⟨g,e,l,o.below hb⟩⟩
class MbL (Hs:List (World→Value→Prop)):Prop where
 h:ma Hs
instance mbn:MbL []:=⟨trivial⟩
instance mbc {R:World→Value→Prop} {l:List (World→Value→Prop)} [a:MbI R] [b:MbL l]:MbL (R::l):=⟨⟨a.h,b.h⟩⟩
theorem eD {P:Program} {Q:Exit→Act→World→Prop} {nt id:Nat} (n:Nat) {l:List Oper} {L:List (Nat×Value)} {a:Act} {w:World} (hm:P.follows .mixedOrders =true) (hF:Fr nt a L) (ds:List Nat) (Hs:List (World→Value→Prop)) (al:List Nat) [m:MbL Hs]
 (hc:(dE l.toArray && ev l.toArray n)=true) (hk:(Nat.ble n l.length && fB ds nt L)=true) (hds:d8 l.toArray n=ds.map some) (hA:kM Hs al)
 (steps:jx P l.toArray Q nt L w ds Hs al 0 (l.take n))
 (tail:∀(a':Act) (w':World),Fr nt a' L→Below w.heap.size w w'→(∀(i s:Nat),ds[i]?=some s→Hat Hs i w' (a'.tmps.getD s undef))→
   (∀(i j s t:Nat),al.contains i=true→al.contains j=true→i≠j→ds[i]?=some s→ds[j]?=some t→a'.tmps.getD s undef≠a'.tmps.getD t undef)→wpS P l.toArray Q (l.drop n) a' w'):
 (Code.region id l.toArray true).wp P Q a w:=
 E.drawn n hm hF ds Hs al (eX hc).1 (eX hc).2 (eX hk).1 hds (eX hk).2 m.h hA steps tail
structure R7 where
 (b:Bool) (x:Option Addr) (n c:Nat) (y:Option Addr) (m d:Nat)
abbrev R7.l (r:R7):List Value:=[.bool r.b,.slice r.x r.n r.c,.slice r.y r.m r.d]
abbrev R7.v (r:R7):Value:= .agg #[.bool r.b,.slice r.x r.n r.c,.slice r.y r.m r.d]
theorem Ij:CK Tryz.prog 18:=⟨⟨_,Tryz.func18,by decide+kernel,by kernel_rfl⟩⟩
theorem It:CK Tryz.prog 20:=⟨⟨_,Tryz.func20,by decide+kernel,by kernel_rfl⟩⟩
theorem Im:CK Tryz.prog 21:=⟨⟨_,Tryz.func21,by decide+kernel,by kernel_rfl⟩⟩
theorem II:CK Tryz.prog 22:=⟨⟨_,Tryz.func22,by decide+kernel,by kernel_rfl⟩⟩
theorem I2:CK Tryz.prog 26:=⟨⟨_,Tryz.func26,by decide+kernel,by kernel_rfl⟩⟩
theorem FA:CK Tryz.prog 27:=⟨⟨_,Tryz.func27,by decide+kernel,by kernel_rfl⟩⟩
theorem B6:CK Tryz.prog 35:=⟨⟨_,Tryz.func35,by decide+kernel,by kernel_rfl⟩⟩
theorem fY:CK Tryz.prog 38:=⟨⟨_,Tryz.func38,by decide+kernel,by kernel_rfl⟩⟩
theorem wR:CK Tryz.prog 56:=⟨⟨_,Tryz.func56,by decide+kernel,by kernel_rfl⟩⟩
theorem se:CK Tryz.prog 57:=⟨⟨_,Tryz.func57,by decide+kernel,by kernel_rfl⟩⟩
theorem Gr:CK Tryz.prog 58:=⟨⟨_,Tryz.func58,by decide+kernel,by kernel_rfl⟩⟩
theorem xA:CK Tryz.prog 62:=⟨⟨_,Tryz.func62,by decide+kernel,by kernel_rfl⟩⟩
theorem wE:CK Tryz.prog 63:=⟨⟨_,Tryz.func63,by decide+kernel,by kernel_rfl⟩⟩
theorem xG:CK Tryz.prog 64:=⟨⟨_,Tryz.func64,by decide+kernel,by kernel_rfl⟩⟩
theorem FH:CK Tryz.prog 65:=⟨⟨_,Tryz.func65,by decide+kernel,by kernel_rfl⟩⟩
theorem vQ:CK Tryz.prog 66:=⟨⟨_,Tryz.func66,by decide+kernel,by kernel_rfl⟩⟩
theorem IJ:CK Tryz.prog 67:=⟨⟨_,Tryz.func67,by decide+kernel,by kernel_rfl⟩⟩
theorem pS:CK Tryz.prog 68:=⟨⟨_,Tryz.func68,by decide+kernel,by kernel_rfl⟩⟩
theorem Bx:CK Tryz.prog 69:=⟨⟨_,Tryz.func69,by decide+kernel,by kernel_rfl⟩⟩
theorem BK:CK Tryz.prog 70:=⟨⟨_,Tryz.func70,by decide+kernel,by kernel_rfl⟩⟩
theorem wM:CK Tryz.prog 71:=⟨⟨_,Tryz.func71,by decide+kernel,by kernel_rfl⟩⟩
theorem Fe:CK Tryz.prog 72:=⟨⟨_,Tryz.func72,by decide+kernel,by kernel_rfl⟩⟩
theorem GH:CK Tryz.prog 73:=⟨⟨_,Tryz.func73,by decide+kernel,by kernel_rfl⟩⟩
theorem ib:CK Tryz.prog 74:=⟨⟨_,Tryz.func74,by decide+kernel,by kernel_rfl⟩⟩
theorem IP:CK Tryz.prog 75:=⟨⟨_,Tryz.func75,by decide+kernel,by kernel_rfl⟩⟩
theorem IZ:CK Tryz.prog 79:=⟨⟨_,Tryz.func79,by decide+kernel,by kernel_rfl⟩⟩
theorem tI:CK Tryz.prog 80:=⟨⟨_,Tryz.func80,by decide+kernel,by kernel_rfl⟩⟩
theorem AL:CK Tryz.prog 81:=⟨⟨_,Tryz.func81,by decide+kernel,by kernel_rfl⟩⟩
theorem IE:CK Tryz.prog 85:=⟨⟨_,Tryz.func85,by decide+kernel,by kernel_rfl⟩⟩
theorem xu:CK Tryz.prog 93:=⟨⟨_,Tryz.func93,by decide+kernel,by kernel_rfl⟩⟩
theorem ji:CK Tryz.prog 94:=⟨⟨_,Tryz.func94,by decide+kernel,by kernel_rfl⟩⟩
theorem wD:CK Tryz.prog 95:=⟨⟨_,Tryz.func95,by decide+kernel,by kernel_rfl⟩⟩
theorem Gl:CK Tryz.prog 97:=⟨⟨_,Tryz.func97,by decide+kernel,by kernel_rfl⟩⟩
theorem CX:CK Tryz.prog 100:=⟨⟨_,Tryz.func100,by decide+kernel,by kernel_rfl⟩⟩
theorem rC:CK Tryz.prog 101:=⟨⟨_,Tryz.func101,by decide+kernel,by kernel_rfl⟩⟩
theorem pg:CK Tryz.prog 104:=⟨⟨_,Tryz.func104,by decide+kernel,by kernel_rfl⟩⟩
theorem wK:CK Tryz.prog 105:=⟨⟨_,Tryz.func105,by decide+kernel,by kernel_rfl⟩⟩
theorem nh:CK Tryz.prog 106:=⟨⟨_,Tryz.func106,by decide+kernel,by kernel_rfl⟩⟩
theorem rv:CK Tryz.prog 113:=⟨⟨_,Tryz.func113,by decide+kernel,by kernel_rfl⟩⟩
theorem Cm:CK Tryz.prog 116:=⟨⟨_,Tryz.func116,by decide+kernel,by kernel_rfl⟩⟩
theorem rB:CK Tryz.prog 117:=⟨⟨_,Tryz.func117,by decide+kernel,by kernel_rfl⟩⟩
theorem iU:CK Tryz.prog 118:=⟨⟨_,Tryz.func118,by decide+kernel,by kernel_rfl⟩⟩
theorem H0:CK Tryz.prog 119:=⟨⟨_,Tryz.func119,by decide+kernel,by kernel_rfl⟩⟩
theorem wH:CK Tryz.prog 120:=⟨⟨_,Tryz.func120,by decide+kernel,by kernel_rfl⟩⟩
theorem Hx:CK Tryz.prog 121:=⟨⟨_,Tryz.func121,by decide+kernel,by kernel_rfl⟩⟩
theorem Hr:CK Tryz.prog 124:=⟨⟨_,Tryz.func124,by decide+kernel,by kernel_rfl⟩⟩
theorem Ci:CK Tryz.prog 125:=⟨⟨_,Tryz.func125,by decide+kernel,by kernel_rfl⟩⟩
theorem nP:CK Tryz.prog 126:=⟨⟨_,Tryz.func126,by decide+kernel,by kernel_rfl⟩⟩
theorem GX:CK Tryz.prog 127:=⟨⟨_,Tryz.func127,by decide+kernel,by kernel_rfl⟩⟩
theorem HJ:CK Tryz.prog 128:=⟨⟨_,Tryz.func128,by decide+kernel,by kernel_rfl⟩⟩
theorem Cx:CK Tryz.prog 129:=⟨⟨_,Tryz.func129,by decide+kernel,by kernel_rfl⟩⟩
theorem CQ:CK Tryz.prog 130:=⟨⟨_,Tryz.func130,by decide+kernel,by kernel_rfl⟩⟩
theorem GN:CK Tryz.prog 131:=⟨⟨_,Tryz.func131,by decide+kernel,by kernel_rfl⟩⟩
theorem pl:CK Tryz.prog 139:=⟨⟨_,Tryz.func139,by decide+kernel,by kernel_rfl⟩⟩
theorem pz:CK Tryz.prog 140:=⟨⟨_,Tryz.func140,by decide+kernel,by kernel_rfl⟩⟩
theorem nI:CK Tryz.prog 141:=⟨⟨_,Tryz.func141,by decide+kernel,by kernel_rfl⟩⟩
theorem CN:CK Tryz.prog 145:=⟨⟨_,Tryz.func145,by decide+kernel,by kernel_rfl⟩⟩
theorem GQ:CK Tryz.prog 148:=⟨⟨_,Tryz.func148,by decide+kernel,by kernel_rfl⟩⟩
theorem Hy:CK Tryz.prog 149:=⟨⟨_,Tryz.func149,by decide+kernel,by kernel_rfl⟩⟩
theorem HH:CK Tryz.prog 150:=⟨⟨_,Tryz.func150,by decide+kernel,by kernel_rfl⟩⟩
theorem pM:CK Tryz.prog 151:=⟨⟨_,Tryz.func151,by decide+kernel,by kernel_rfl⟩⟩
theorem G8:CK Tryz.prog 163:=⟨⟨_,Tryz.func163,by decide+kernel,by kernel_rfl⟩⟩
theorem H8:CK Tryz.prog 165:=⟨⟨_,Tryz.func165,by decide+kernel,by kernel_rfl⟩⟩
theorem G3:CK Tryz.prog 166:=⟨⟨_,Tryz.func166,by decide+kernel,by kernel_rfl⟩⟩
theorem Ig:CK Tryz.prog 168:=⟨⟨_,Tryz.func168,by decide+kernel,by kernel_rfl⟩⟩
theorem GR:CK Tryz.prog 170:=⟨⟨_,Tryz.func170,by decide+kernel,by kernel_rfl⟩⟩
theorem Co:CK Tryz.prog 175:=⟨⟨_,Tryz.func175,by decide+kernel,by kernel_rfl⟩⟩
theorem rx:CK Tryz.prog 193:=⟨⟨_,Tryz.func193,by decide+kernel,by kernel_rfl⟩⟩
theorem ru:CK Tryz.prog 196:=⟨⟨_,Tryz.func196,by decide+kernel,by kernel_rfl⟩⟩
theorem CA:CK Tryz.prog 215:=⟨⟨_,Tryz.func215,by decide+kernel,by kernel_rfl⟩⟩
theorem Ii:CK Tryz.prog 220:=⟨⟨_,Tryz.func220,by decide+kernel,by kernel_rfl⟩⟩
theorem Hm:CK Tryz.prog 240:=⟨⟨_,Tryz.func240,by decide+kernel,by kernel_rfl⟩⟩
theorem Ch:CK Tryz.prog 247:=⟨⟨_,Tryz.func247,by decide+kernel,by kernel_rfl⟩⟩
theorem Hw:CK Tryz.prog 249:=⟨⟨_,Tryz.func249,by decide+kernel,by kernel_rfl⟩⟩
theorem Cs:CK Tryz.prog 250:=⟨⟨_,Tryz.func250,by decide+kernel,by kernel_rfl⟩⟩
theorem iW:CK Tryz.prog 251:=⟨⟨_,Tryz.func251,by decide+kernel,by kernel_rfl⟩⟩
theorem Hh:CK Tryz.prog 256:=⟨⟨_,Tryz.func256,by decide+kernel,by kernel_rfl⟩⟩
theorem Cy:CK Tryz.prog 258:=⟨⟨_,Tryz.func258,by decide+kernel,by kernel_rfl⟩⟩
theorem H3:CK Tryz.prog 259:=⟨⟨_,Tryz.func259,by decide+kernel,by kernel_rfl⟩⟩
end
end Go.Proofs.YtnljadejcfgmaaaGreatDoor
