import Derived.Test.YtplngpfpcheofaaGreatDoorKE7
namespace Go.Proofs.YtplngpfpcheofaaGreatDoor
open Go.RowKit
set_option maxRecDepth 100000
set_option linter.unusedVariables false
set_option maxHeartbeats 8000000
section
section
variable {P:Program} {ops:Array Oper} {Q:Exit→Act→World→Prop} {W w w':World} {bs:List (Nat×List Value)} {fs:List (World→Prop)} {nt d n s t:Nat} {L:List (Nat×Value)} {rest:List Oper} {a:Act} {T:TypeId} {v:Value} {op:Op} {ty:TypeId} {pos:String} {af:Array Edge} {g:Nat} {cs vs zs:List Value} {x y:Operand}
theorem dN {b c:Bool} (h:(b && c)=true):b=true∧c=true:=by rwa[Bool.and_eq_true] at h
theorem oV (hF:Fr nt a L) (hr:(execOp a.eval ⟨some d,op,ty,pos,af,none⟩).run P w= .ok (.value v) w') (hk:(Nat.blt d nt && a5 d L)=true) (h:∀a',Fr nt a' ((d,v)::L)→wpS P ops Q rest a' w'):wpS P ops Q (⟨some d,op,ty,pos,af,none⟩::rest) a w:=
 E.opv hF hr rfl rfl (dN hk).1 (dN hk).2 h
theorem oS (hF:Fr nt a L) (hr:(execOp a.eval ⟨some d,op,ty,pos,af,none⟩).run P w= .ok (.value v) w') (hk:Nat.blt d nt=true) (h:∀a',Fr nt a' ((d,v)::L.filter fun p=>!(Nat.beq p.1 d))→wpS P ops Q rest a' w'):wpS P ops Q (⟨some d,op,ty,pos,af,none⟩::rest) a w:=
 E.opset hF hr rfl rfl hk rfl h
theorem oM (hF:Fr nt a L) (i:Nat) (hi:L[i]?=some (s,v)) (hk:(Nat.blt d nt && a5 d L)=true) (h:∀a',Fr nt a' ((d,v)::L)→wpS P ops Q rest a' w):wpS P ops Q (⟨some d,.move (.tmp s),ty,pos,af,none⟩::rest) a w:=
 oV hF (aY (bS (hF.at i hi))) hk h
theorem oA (hF:Fr nt a L) (i:Nat) (hi:L[i]?=some (s,v)) (hk:(Nat.blt d nt && a5 d L)=true) (h:∀a',Fr nt a' ((d,v)::L)→wpS P ops Q rest a' w):wpS P ops Q (⟨some d,.assign (.tmp s),ty,pos,af,none⟩::rest) a w:=
 oV hF (bz (bS (hF.at i hi))) hk h
theorem oC (hF:Fr nt a L) (hk:(Nat.blt d nt && a5 d L)=true) (h:∀a',Fr nt a' ((d,v)::L)→wpS P ops Q rest a' w):wpS P ops Q (⟨some d,.assign (.const v),ty,pos,af,none⟩::rest) a w:=
 oV hF (bz ao) hk h
theorem oE (hF:Fr nt a L) (i:Nat) (hi:L[i]?=some (s,v)) (hk:Nat.blt d nt=true) (h:∀a',Fr nt a' ((d,v)::L.filter fun p=>!(Nat.beq p.1 d))→wpS P ops Q rest a' w):wpS P ops Q (⟨some d,.assign (.tmp s),ty,pos,af,none⟩::rest) a w:=
 oS hF (bz (bS (hF.at i hi))) hk h
theorem oL (hF:Fr nt a L) (st:St W w bs fs) (i j:Nat) (hT:Ty P T n zs) (hi:L[i]?=some (s,.pointer (some ⟨g,0,none⟩))) (hj:bs[j]?=some (g,cs)) (hn:cs.length=n) (hk:(Nat.blt d nt && a5 d L)=true) (h:∀a',Fr nt a' ((d,.agg cs.toArray)::L)→wpS P ops Q rest a' w):wpS P ops Q (⟨some d,.load T (.tmp s),ty,pos,af,none⟩::rest) a w:=
 oV hF (aw (bS (hF.at i hi)) (bp hT (st.bk j hj) hn)) hk h
theorem so (st:St W w bs fs) (hF:Fr nt a L) (i p q:Nat) (hT:Ty P T n zs) (hb:bs[i]?=some (g,cs)) (hp:L[p]?=some (s,.pointer (some ⟨g,0,none⟩))) (hq:L[q]?=some (t,.agg vs.toArray)) (hk:(Nat.beq vs.length n && Nat.beq cs.length n && (cs.all bL && vs.all bL))=true)
 (k:∀w' a',St W w' (bs.set i (g,vs)) fs→Fr nt a' L→wpS P ops Q rest a' w'):wpS P ops Q (⟨none,.store T (.tmp s) (.tmp t),ty,pos,af,none⟩::rest) a w:=
 S.sto st hF i hb (bS (hF.at p hp)) (bS (hF.at q hq)) hT (Nat.eq_of_beq_eq_true (dN (dN hk).1).1) (Nat.eq_of_beq_eq_true (dN (dN hk).1).2) (dN (dN hk).2).1 (dN (dN hk).2).2 k
theorem bx (st:St W w bs fs) (hF:Fr nt a L) (i:Nat) (hi:L[i]?=some (s,.agg cs.toArray)) (hk:(Nat.blt d nt && a5 d L)=true)
 (k:∀g w' a',St W w' ((g,cs)::bs) fs→Fr nt a' ((d,.pointer (some ⟨g,0,none⟩))::L)→wpS P ops Q rest a' w'):wpS P ops Q (⟨some d,.box T (.tmp s),ty,pos,af,none⟩::rest) a w:=
 S.box st hF (bS (hF.at i hi)) (dN hk).1 (dN hk).2 k
theorem cX {f:FuncId} {args:Array Value} (st:St W w bs fs) (hF:Fr nt a L) (hr:(execOp a.eval ⟨some d,op,ty,pos,af,none⟩).run P w= .ok (.enter f args) w) (hc:Calls P f args w fun e w'=>e= .returned v∧Below w.heap.size w w') (hk:(Nat.blt d nt && a5 d L)=true)
 (k:∀w' a',St W w' bs fs→Fr nt a' ((d,v)::L)→wpS P ops Q rest a' w'):wpS P ops Q (⟨some d,op,ty,pos,af,none⟩::rest) a w:=
 S.callx st hF hr hc rfl rfl (dN hk).1 (dN hk).2 k
theorem ca {f:FuncId} {args:Array Value} {R:Ending→World→Prop} {H:Value→World→Prop} (st:St W w bs fs) (hF:Fr nt a L) (hr:(execOp a.eval ⟨some d,op,ty,pos,af,none⟩).run P w= .ok (.enter f args) w) (hc:Calls P f args w R)
 (hR:∀e w',R e w'→∃v,e= .returned v∧H v w'∧Below w.heap.size w w') (hcl:∀v,Cl (H v)) (hk:(Nat.blt d nt && a5 d L)=true)
 (k:∀v w' a',St W w' bs (H v::fs)→Fr nt a' ((d,v)::L)→wpS P ops Q rest a' w'):wpS P ops Q (⟨some d,op,ty,pos,af,none⟩::rest) a w:=
 S.call st hF hr hc hR hcl rfl rfl (dN hk).1 (dN hk).2 k
theorem ns {x y:Code} {Q':Exit→Act→World→Prop} (h:x.wp P (Exit.then (y.wp P Q) Q) a w):wpS P ops (Exit.then ((Code.seq x y).wp P Q) Q') [] a w:=wp_seq h
theorem rs {fn:Func} {Ro:Ending→World→Prop} (h:fn.results=#[.cell s T]) (st:St W w bs fs) (hF:Fr nt a L) (p i:Nat) (hT:Ty P T n zs) (hp:L[p]?=some (s,.pointer (some ⟨g,0,none⟩))) (hb:bs[i]?=some (g,cs)) (hn:cs.length=n) (hR:Ro (.returned (.agg cs.toArray)) w):bodyPost P fn Ro .ret a w:=
 S.ret h st hF (hF.at p hp) i hb hT hn hF.dfr hR
theorem wq {id:Nat} {l:List Oper} {y:Code} (h:wpS P l.toArray (Exit.then (y.wp P Q) Q) l a w):(Code.seq (Code.region id l.toArray false) y).wp P Q a w:=wp_seq (E.seq h)
theorem nq {id:Nat} {l:List Oper} {y:Code} {Q':Exit→Act→World→Prop} (h:wpS P l.toArray (Exit.then (y.wp P Q) Q) l a w):wpS P ops (Exit.then ((Code.seq (Code.region id l.toArray false) y).wp P Q) Q') [] a w:=wp_seq (E.seq h)
theorem nr {Q':Exit→Act→World→Prop} (h:Q .ret a w):wpS P ops (Exit.then (Code.ret.wp P Q) Q') [] a w:=wp_ret h
theorem rt {fn:Func} {R:Ending→World→Prop} (h:fn.results=#[.tmp t]) (hF:Fr nt a L) (i:Nat) (hi:L[i]?=some (t,v)) (hR:R (.returned v) w):bodyPost P fn R .ret a w:=bodyPost_ret (xy h (hF.at i hi)) hF.dfr hR
structure CK (P:Program) (f:FuncId):Prop where
 ex:∃fn,P.funcs[f]?=some fn∧(fn.name == "runtime.NumGoroutine")=false∧fn.body.isNone=false
theorem rk {f:FuncId} {xs:Array Operand} {ts:Array TypeId} {args:Array Value} {dst:Option Tmp} {gd:Option (Nat×Bool)} (k:CK P f) (h:xs.map a.eval=args):(execOp a.eval ⟨dst,.call ⟨.value (.func f),xs,ts⟩,ty,pos,af,gd⟩).run P w= .ok (.enter f args) w:=by
 obtain⟨fn,h1,h2,h3⟩:=k.ex
 exact xC h1 h2 h3 h
theorem go0 {f:FuncId} {fn:Func} {c:Code} {R:Ending→World→Prop} (hf:P.funcs[f]?=some fn) (hb:fn.body=some c) (hn:fn.ntmps=nt) (h:∀a,Fr nt a []→c.wp P (bodyPost P fn R) a w):Calls P f #[] w R:=
 E.enter hf hb rfl (by simpa using hn) dF h
theorem go1 {f:FuncId} {fn:Func} {c:Code} {R:Ending→World→Prop} {v0:Value} (hf:P.funcs[f]?=some fn) (hb:fn.body=some c) (hn:fn.ntmps-1=n) (hs:1+n=nt) (h:∀a,Fr nt a [(0,v0)]→c.wp P (bodyPost P fn R) a w):Calls P f #[v0] w R:=
 E.enter hf hb hn hs (aQ (i:=0) rfl dF) h
theorem go2 {f:FuncId} {fn:Func} {c:Code} {R:Ending→World→Prop} {v0 v1:Value} (hf:P.funcs[f]?=some fn) (hb:fn.body=some c) (hn:fn.ntmps-2=n) (hs:2+n=nt) (h:∀a,Fr nt a [(0,v0),(1,v1)]→c.wp P (bodyPost P fn R) a w):Calls P f #[v0,v1] w R:=
 E.enter hf hb hn hs (aQ (i:=0) rfl (aQ (i:=1) rfl dF)) h
theorem go3 {f:FuncId} {fn:Func} {c:Code} {R:Ending→World→Prop} {v0 v1 v2:Value} (hf:P.funcs[f]?=some fn) (hb:fn.body=some c) (hn:fn.ntmps-3=n) (hs:3+n=nt) (h:∀a,Fr nt a [(0,v0),(1,v1),(2,v2)]→c.wp P (bodyPost P fn R) a w):Calls P f #[v0,v1,v2] w R:=
 E.enter hf hb hn hs (aQ (i:=0) rfl (aQ (i:=1) rfl (aQ (i:=2) rfl dF))) h
end
section
variable {o:Oper} {a:Act} {w:World} {Hs:List (World→Value→Prop)} {H:World→Value→Prop} {ds:List Nat} {s k p:Nat} {x:Value}
def nE (o:Oper) (ds:List Nat) (Hs:List (World→Value→Prop)) (p:Nat):Option (Nat×(World→Value→Prop)):=
 match o.after[p]? with
 |some e=>if Region.binds .any e=true then(match ds[e.on]?,Hs[e.on]? with|some s,some H=>some (s,H)|_,_=>none) else none
 |none=>none
theorem tH (hd:∀(e:Edge) (s:Nat),e∈o.after→Region.binds .any e=true→ds[e.on]?=some s→Hat Hs e.on w (a.tmps.getD s undef)) (p:Nat) (h:nE o ds Hs p=some (s,H)):∃v,a.tmps.getD s undef=v∧H w v:=by
 unfold nE at h
 split at h
 ·rename_i e he
  split at h
  ·rename_i hb
   split at h
   ·rename_i s' H' hs hH
    injection h with h
    injection h with h1 h2
    subst h1 h2
    exact sH hd p _ he hb hs hH
   ·cases h
  ·cases h
 ·cases h
theorem tE (hd:∀(e:Edge) (s:Nat),e∈o.after→Region.binds .any e=true→ds[e.on]?=some s→Hat Hs e.on w (a.tmps.getD s undef)) (p:Nat) (h:nE o ds Hs p=some (s,fun _ v=>v=x)):a.tmps.getD s undef=x:=by
 obtain⟨v,e,rfl⟩:=tH hd p h
 exact e
end
section
variable {P:Program} {ops:Array Oper} {Q:Exit→Act→World→Prop} {W w:World} {bs:List (Nat×List Value)} {fs:List (World→Prop)} {nt d n s i g:Nat} {L:List (Nat×Value)} {T:TypeId} {v:Value} {ty:TypeId} {pos:String} {af:Array Edge} {cs zs:List Value} {ds:List Nat} {Hs:List (World→Value→Prop)} {al:List Nat}
theorem te (h:Hs[i]?=some fun _ u=>u=v) (w:World):Hat Hs i w v:=by unfold Hat;rw[h];rfl
theorem qL (st:St W w bs fs) (p j:Nat) (hT:Ty P T n zs) (hp:L[p]?=some (s,.pointer (some ⟨g,0,none⟩))) (hj:bs[j]?=some (g,cs)) (hn:cs.length=n) (hh:Hs[i]?=some fun _ u=>u= .agg cs.toArray) (ha:al.contains i=false):lr P ops Q nt L w ds Hs al i ⟨some d,.load T (.tmp s),ty,pos,af,none⟩:=by
 intro a' w' hF' hb hd
 exact dv0 (aw (bS (hF'.at p hp)) (bp hT ((st.bk j hj).below hb) hn)) (te hh _) ha rfl
theorem qM (p:Nat) (hp:L[p]?=some (s,v)) (hh:Hs[i]?=some fun _ u=>u=v) (ha:al.contains i=false):lr P ops Q nt L w ds Hs al i ⟨some d,.move (.tmp s),ty,pos,af,none⟩:=by
 intro a' w' hF' hb hd
 exact dv0 (aY (bS (hF'.at p hp))) (te hh _) ha rfl
end
section
variable {W w:World} {bs:List (Nat×List Value)} {fs:List (World→Prop)} {nt s:Nat} {L:List (Nat×Value)} {a:Act} {x:Value} {ds:List Nat} {Hs:List (World→Value→Prop)} {H:World→Value→Prop}
theorem aE (hall:∀(i s:Nat),ds[i]?=some s→Hat Hs i w (a.tmps.getD s undef)) (hF:Fr nt a L) (i:Nat) (hs:ds[i]?=some s) (hH:Hs[i]?=some fun _ v=>v=x):Fr nt a ((s,x)::L):=hF.add (sSe hall i s hs hH)
theorem aS (hall:∀(i s:Nat),ds[i]?=some s→Hat Hs i w (a.tmps.getD s undef)) (hF:Fr nt a L) (st:St W w bs fs) (i:Nat) (hs:ds[i]?=some s) (hH:Hs[i]?=some H) (hc:∀v,Cl fun w=>H w v):∃v,Fr nt a ((s,v)::L)∧St W w bs ((fun w=>H w v)::fs):=by
 obtain⟨v,e,h⟩:=sS hall i s hs hH
 exact⟨v,hF.add e,st.add h (hc v)⟩
end
def Iz (u:Value):World→Value→Prop:=fun _ v=>v=u
def Ip (W:World):World→Value→Prop:=fun w v=>∃g,v= .pointer (some ⟨g,0,none⟩)∧W.heap.size≤g∧Own w g [.bool false,.slice none 0 0,.slice none 0 0]
class MbI (R:World→Value→Prop):Prop where
 h:Mb R
instance mbz {u:Value}:MbI (Iz u):=⟨Mb.eq u⟩
instance mbp {W:World}:MbI (Ip W):=⟨fun _ _ _ ⟨g,e,l,o⟩ hb=>⟨g,e,l,o.below hb⟩⟩
class MbL (Hs:List (World→Value→Prop)):Prop where
 h:kL Hs
instance mbn:MbL []:=⟨trivial⟩
instance mbc {R:World→Value→Prop} {l:List (World→Value→Prop)} [a:MbI R] [b:MbL l]:MbL (R::l):=⟨⟨a.h,b.h⟩⟩
theorem eD {P:Program} {Q:Exit→Act→World→Prop} {nt id:Nat} (n:Nat) {l:List Oper} {L:List (Nat×Value)} {a:Act} {w:World} (hm:P.follows .mixedOrders =true) (hF:Fr nt a L) (ds:List Nat) (Hs:List (World→Value→Prop)) (al:List Nat) [m:MbL Hs]
 (hc:(dC l.toArray && fm l.toArray n)=true) (hk:(Nat.ble n l.length && iJ ds nt L)=true) (hds:eM l.toArray n=ds.map some) (hA:kv Hs al)
 (steps:iT P l.toArray Q nt L w ds Hs al 0 (l.take n))
 (tail:∀(a':Act) (w':World),Fr nt a' L→Below w.heap.size w w'→(∀(i s:Nat),ds[i]?=some s→Hat Hs i w' (a'.tmps.getD s undef))→
   (∀(i j s t:Nat),al.contains i=true→al.contains j=true→i≠j→ds[i]?=some s→ds[j]?=some t→a'.tmps.getD s undef≠a'.tmps.getD t undef)→wpS P l.toArray Q (l.drop n) a' w'):
 (Code.region id l.toArray true).wp P Q a w:=
 E.drawn n hm hF ds Hs al (dN hc).1 (dN hc).2 (dN hk).1 hds (dN hk).2 m.h hA steps tail
structure R7 where
 (b:Bool) (x:Option Addr) (n c:Nat) (y:Option Addr) (m d:Nat)
abbrev R7.l (r:R7):List Value:=[.bool r.b,.slice r.x r.n r.c,.slice r.y r.m r.d]
abbrev R7.v (r:R7):Value:= .agg #[.bool r.b,.slice r.x r.n r.c,.slice r.y r.m r.d]
theorem k10:CK Tryz.prog 10:=⟨⟨_,Tryz.func10,by decide+kernel,by kernel_rfl⟩⟩
theorem k11:CK Tryz.prog 11:=⟨⟨_,Tryz.func11,by decide+kernel,by kernel_rfl⟩⟩
theorem k15:CK Tryz.prog 15:=⟨⟨_,Tryz.func15,by decide+kernel,by kernel_rfl⟩⟩
theorem k16:CK Tryz.prog 16:=⟨⟨_,Tryz.func16,by decide+kernel,by kernel_rfl⟩⟩
theorem k18:CK Tryz.prog 18:=⟨⟨_,Tryz.func18,by decide+kernel,by kernel_rfl⟩⟩
theorem k19:CK Tryz.prog 19:=⟨⟨_,Tryz.func19,by decide+kernel,by kernel_rfl⟩⟩
theorem k20:CK Tryz.prog 20:=⟨⟨_,Tryz.func20,by decide+kernel,by kernel_rfl⟩⟩
theorem k22:CK Tryz.prog 22:=⟨⟨_,Tryz.func22,by decide+kernel,by kernel_rfl⟩⟩
theorem k26:CK Tryz.prog 26:=⟨⟨_,Tryz.func26,by decide+kernel,by kernel_rfl⟩⟩
theorem k29:CK Tryz.prog 29:=⟨⟨_,Tryz.func29,by decide+kernel,by kernel_rfl⟩⟩
theorem k30:CK Tryz.prog 30:=⟨⟨_,Tryz.func30,by decide+kernel,by kernel_rfl⟩⟩
theorem k31:CK Tryz.prog 31:=⟨⟨_,Tryz.func31,by decide+kernel,by kernel_rfl⟩⟩
theorem k32:CK Tryz.prog 32:=⟨⟨_,Tryz.func32,by decide+kernel,by kernel_rfl⟩⟩
theorem k33:CK Tryz.prog 33:=⟨⟨_,Tryz.func33,by decide+kernel,by kernel_rfl⟩⟩
theorem k34:CK Tryz.prog 34:=⟨⟨_,Tryz.func34,by decide+kernel,by kernel_rfl⟩⟩
theorem k35:CK Tryz.prog 35:=⟨⟨_,Tryz.func35,by decide+kernel,by kernel_rfl⟩⟩
theorem k36:CK Tryz.prog 36:=⟨⟨_,Tryz.func36,by decide+kernel,by kernel_rfl⟩⟩
theorem k37:CK Tryz.prog 37:=⟨⟨_,Tryz.func37,by decide+kernel,by kernel_rfl⟩⟩
theorem k38:CK Tryz.prog 38:=⟨⟨_,Tryz.func38,by decide+kernel,by kernel_rfl⟩⟩
theorem k40:CK Tryz.prog 40:=⟨⟨_,Tryz.func40,by decide+kernel,by kernel_rfl⟩⟩
theorem k41:CK Tryz.prog 41:=⟨⟨_,Tryz.func41,by decide+kernel,by kernel_rfl⟩⟩
theorem k42:CK Tryz.prog 42:=⟨⟨_,Tryz.func42,by decide+kernel,by kernel_rfl⟩⟩
theorem k43:CK Tryz.prog 43:=⟨⟨_,Tryz.func43,by decide+kernel,by kernel_rfl⟩⟩
theorem k45:CK Tryz.prog 45:=⟨⟨_,Tryz.func45,by decide+kernel,by kernel_rfl⟩⟩
theorem k51:CK Tryz.prog 51:=⟨⟨_,Tryz.func51,by decide+kernel,by kernel_rfl⟩⟩
theorem k52:CK Tryz.prog 52:=⟨⟨_,Tryz.func52,by decide+kernel,by kernel_rfl⟩⟩
theorem k53:CK Tryz.prog 53:=⟨⟨_,Tryz.func53,by decide+kernel,by kernel_rfl⟩⟩
theorem k54:CK Tryz.prog 54:=⟨⟨_,Tryz.func54,by decide+kernel,by kernel_rfl⟩⟩
theorem k55:CK Tryz.prog 55:=⟨⟨_,Tryz.func55,by decide+kernel,by kernel_rfl⟩⟩
theorem k56:CK Tryz.prog 56:=⟨⟨_,Tryz.func56,by decide+kernel,by kernel_rfl⟩⟩
theorem k57:CK Tryz.prog 57:=⟨⟨_,Tryz.func57,by decide+kernel,by kernel_rfl⟩⟩
theorem k58:CK Tryz.prog 58:=⟨⟨_,Tryz.func58,by decide+kernel,by kernel_rfl⟩⟩
theorem k59:CK Tryz.prog 59:=⟨⟨_,Tryz.func59,by decide+kernel,by kernel_rfl⟩⟩
theorem k60:CK Tryz.prog 60:=⟨⟨_,Tryz.func60,by decide+kernel,by kernel_rfl⟩⟩
theorem k61:CK Tryz.prog 61:=⟨⟨_,Tryz.func61,by decide+kernel,by kernel_rfl⟩⟩
theorem k62:CK Tryz.prog 62:=⟨⟨_,Tryz.func62,by decide+kernel,by kernel_rfl⟩⟩
theorem k63:CK Tryz.prog 63:=⟨⟨_,Tryz.func63,by decide+kernel,by kernel_rfl⟩⟩
theorem k64:CK Tryz.prog 64:=⟨⟨_,Tryz.func64,by decide+kernel,by kernel_rfl⟩⟩
theorem k66:CK Tryz.prog 66:=⟨⟨_,Tryz.func66,by decide+kernel,by kernel_rfl⟩⟩
theorem k67:CK Tryz.prog 67:=⟨⟨_,Tryz.func67,by decide+kernel,by kernel_rfl⟩⟩
theorem k68:CK Tryz.prog 68:=⟨⟨_,Tryz.func68,by decide+kernel,by kernel_rfl⟩⟩
theorem k69:CK Tryz.prog 69:=⟨⟨_,Tryz.func69,by decide+kernel,by kernel_rfl⟩⟩
theorem k71:CK Tryz.prog 71:=⟨⟨_,Tryz.func71,by decide+kernel,by kernel_rfl⟩⟩
theorem k73:CK Tryz.prog 73:=⟨⟨_,Tryz.func73,by decide+kernel,by kernel_rfl⟩⟩
theorem k75:CK Tryz.prog 75:=⟨⟨_,Tryz.func75,by decide+kernel,by kernel_rfl⟩⟩
theorem k76:CK Tryz.prog 76:=⟨⟨_,Tryz.func76,by decide+kernel,by kernel_rfl⟩⟩
theorem k77:CK Tryz.prog 77:=⟨⟨_,Tryz.func77,by decide+kernel,by kernel_rfl⟩⟩
theorem k78:CK Tryz.prog 78:=⟨⟨_,Tryz.func78,by decide+kernel,by kernel_rfl⟩⟩
theorem k79:CK Tryz.prog 79:=⟨⟨_,Tryz.func79,by decide+kernel,by kernel_rfl⟩⟩
theorem k80:CK Tryz.prog 80:=⟨⟨_,Tryz.func80,by decide+kernel,by kernel_rfl⟩⟩
theorem k82:CK Tryz.prog 82:=⟨⟨_,Tryz.func82,by decide+kernel,by kernel_rfl⟩⟩
theorem k83:CK Tryz.prog 83:=⟨⟨_,Tryz.func83,by decide+kernel,by kernel_rfl⟩⟩
theorem k84:CK Tryz.prog 84:=⟨⟨_,Tryz.func84,by decide+kernel,by kernel_rfl⟩⟩
theorem k85:CK Tryz.prog 85:=⟨⟨_,Tryz.func85,by decide+kernel,by kernel_rfl⟩⟩
theorem k86:CK Tryz.prog 86:=⟨⟨_,Tryz.func86,by decide+kernel,by kernel_rfl⟩⟩
theorem k87:CK Tryz.prog 87:=⟨⟨_,Tryz.func87,by decide+kernel,by kernel_rfl⟩⟩
theorem k88:CK Tryz.prog 88:=⟨⟨_,Tryz.func88,by decide+kernel,by kernel_rfl⟩⟩
theorem k89:CK Tryz.prog 89:=⟨⟨_,Tryz.func89,by decide+kernel,by kernel_rfl⟩⟩
theorem k90:CK Tryz.prog 90:=⟨⟨_,Tryz.func90,by decide+kernel,by kernel_rfl⟩⟩
theorem k91:CK Tryz.prog 91:=⟨⟨_,Tryz.func91,by decide+kernel,by kernel_rfl⟩⟩
theorem k92:CK Tryz.prog 92:=⟨⟨_,Tryz.func92,by decide+kernel,by kernel_rfl⟩⟩
theorem k94:CK Tryz.prog 94:=⟨⟨_,Tryz.func94,by decide+kernel,by kernel_rfl⟩⟩
theorem k95:CK Tryz.prog 95:=⟨⟨_,Tryz.func95,by decide+kernel,by kernel_rfl⟩⟩
theorem k96:CK Tryz.prog 96:=⟨⟨_,Tryz.func96,by decide+kernel,by kernel_rfl⟩⟩
theorem k97:CK Tryz.prog 97:=⟨⟨_,Tryz.func97,by decide+kernel,by kernel_rfl⟩⟩
theorem k98:CK Tryz.prog 98:=⟨⟨_,Tryz.func98,by decide+kernel,by kernel_rfl⟩⟩
theorem tD:CK Tryz.prog 102:=⟨⟨_,Tryz.func102,by decide+kernel,by kernel_rfl⟩⟩
theorem AD:CK Tryz.prog 103:=⟨⟨_,Tryz.func103,by decide+kernel,by kernel_rfl⟩⟩
theorem gL:CK Tryz.prog 104:=⟨⟨_,Tryz.func104,by decide+kernel,by kernel_rfl⟩⟩
theorem ij:CK Tryz.prog 105:=⟨⟨_,Tryz.func105,by decide+kernel,by kernel_rfl⟩⟩
theorem Ah:CK Tryz.prog 106:=⟨⟨_,Tryz.func106,by decide+kernel,by kernel_rfl⟩⟩
theorem tR:CK Tryz.prog 107:=⟨⟨_,Tryz.func107,by decide+kernel,by kernel_rfl⟩⟩
theorem qO:CK Tryz.prog 108:=⟨⟨_,Tryz.func108,by decide+kernel,by kernel_rfl⟩⟩
theorem AE:CK Tryz.prog 109:=⟨⟨_,Tryz.func109,by decide+kernel,by kernel_rfl⟩⟩
theorem ob:CK Tryz.prog 110:=⟨⟨_,Tryz.func110,by decide+kernel,by kernel_rfl⟩⟩
theorem As:CK Tryz.prog 111:=⟨⟨_,Tryz.func111,by decide+kernel,by kernel_rfl⟩⟩
theorem AL:CK Tryz.prog 112:=⟨⟨_,Tryz.func112,by decide+kernel,by kernel_rfl⟩⟩
theorem nR:CK Tryz.prog 113:=⟨⟨_,Tryz.func113,by decide+kernel,by kernel_rfl⟩⟩
theorem An:CK Tryz.prog 114:=⟨⟨_,Tryz.func114,by decide+kernel,by kernel_rfl⟩⟩
theorem uC:CK Tryz.prog 115:=⟨⟨_,Tryz.func115,by decide+kernel,by kernel_rfl⟩⟩
theorem Au:CK Tryz.prog 119:=⟨⟨_,Tryz.func119,by decide+kernel,by kernel_rfl⟩⟩
theorem Aj:CK Tryz.prog 121:=⟨⟨_,Tryz.func121,by decide+kernel,by kernel_rfl⟩⟩
theorem Ax:CK Tryz.prog 122:=⟨⟨_,Tryz.func122,by decide+kernel,by kernel_rfl⟩⟩
theorem nZ:CK Tryz.prog 128:=⟨⟨_,Tryz.func128,by decide+kernel,by kernel_rfl⟩⟩
theorem ny:CK Tryz.prog 129:=⟨⟨_,Tryz.func129,by decide+kernel,by kernel_rfl⟩⟩
theorem yR:CK Tryz.prog 130:=⟨⟨_,Tryz.func130,by decide+kernel,by kernel_rfl⟩⟩
theorem nV:CK Tryz.prog 131:=⟨⟨_,Tryz.func131,by decide+kernel,by kernel_rfl⟩⟩
theorem AB:CK Tryz.prog 132:=⟨⟨_,Tryz.func132,by decide+kernel,by kernel_rfl⟩⟩
theorem AN:CK Tryz.prog 133:=⟨⟨_,Tryz.func133,by decide+kernel,by kernel_rfl⟩⟩
theorem xT:CK Tryz.prog 134:=⟨⟨_,Tryz.func134,by decide+kernel,by kernel_rfl⟩⟩
theorem Aw:CK Tryz.prog 135:=⟨⟨_,Tryz.func135,by decide+kernel,by kernel_rfl⟩⟩
theorem AG:CK Tryz.prog 136:=⟨⟨_,Tryz.func136,by decide+kernel,by kernel_rfl⟩⟩
theorem AM:CK Tryz.prog 137:=⟨⟨_,Tryz.func137,by decide+kernel,by kernel_rfl⟩⟩
theorem Aq:CK Tryz.prog 139:=⟨⟨_,Tryz.func139,by decide+kernel,by kernel_rfl⟩⟩
theorem Az:CK Tryz.prog 141:=⟨⟨_,Tryz.func141,by decide+kernel,by kernel_rfl⟩⟩
theorem Ak:CK Tryz.prog 142:=⟨⟨_,Tryz.func142,by decide+kernel,by kernel_rfl⟩⟩
theorem jq:CK Tryz.prog 144:=⟨⟨_,Tryz.func144,by decide+kernel,by kernel_rfl⟩⟩
theorem yi:CK Tryz.prog 145:=⟨⟨_,Tryz.func145,by decide+kernel,by kernel_rfl⟩⟩
theorem qX:CK Tryz.prog 146:=⟨⟨_,Tryz.func146,by decide+kernel,by kernel_rfl⟩⟩
theorem yx:CK Tryz.prog 147:=⟨⟨_,Tryz.func147,by decide+kernel,by kernel_rfl⟩⟩
theorem Av:CK Tryz.prog 148:=⟨⟨_,Tryz.func148,by decide+kernel,by kernel_rfl⟩⟩
theorem AH:CK Tryz.prog 149:=⟨⟨_,Tryz.func149,by decide+kernel,by kernel_rfl⟩⟩
theorem yn:CK Tryz.prog 150:=⟨⟨_,Tryz.func150,by decide+kernel,by kernel_rfl⟩⟩
theorem Am:CK Tryz.prog 151:=⟨⟨_,Tryz.func151,by decide+kernel,by kernel_rfl⟩⟩
theorem yN:CK Tryz.prog 162:=⟨⟨_,Tryz.func162,by decide+kernel,by kernel_rfl⟩⟩
theorem Ai:CK Tryz.prog 163:=⟨⟨_,Tryz.func163,by decide+kernel,by kernel_rfl⟩⟩
theorem Ay:CK Tryz.prog 164:=⟨⟨_,Tryz.func164,by decide+kernel,by kernel_rfl⟩⟩
theorem xY:CK Tryz.prog 165:=⟨⟨_,Tryz.func165,by decide+kernel,by kernel_rfl⟩⟩
theorem yd:CK Tryz.prog 169:=⟨⟨_,Tryz.func169,by decide+kernel,by kernel_rfl⟩⟩
theorem Ao:CK Tryz.prog 170:=⟨⟨_,Tryz.func170,by decide+kernel,by kernel_rfl⟩⟩
theorem yH:CK Tryz.prog 171:=⟨⟨_,Tryz.func171,by decide+kernel,by kernel_rfl⟩⟩
theorem Af:CK Tryz.prog 172:=⟨⟨_,Tryz.func172,by decide+kernel,by kernel_rfl⟩⟩
theorem Ag:CK Tryz.prog 173:=⟨⟨_,Tryz.func173,by decide+kernel,by kernel_rfl⟩⟩
theorem AA:CK Tryz.prog 178:=⟨⟨_,Tryz.func178,by decide+kernel,by kernel_rfl⟩⟩
theorem Ap:CK Tryz.prog 179:=⟨⟨_,Tryz.func179,by decide+kernel,by kernel_rfl⟩⟩
theorem uZ:CK Tryz.prog 180:=⟨⟨_,Tryz.func180,by decide+kernel,by kernel_rfl⟩⟩
theorem y6:CK Tryz.prog 181:=⟨⟨_,Tryz.func181,by decide+kernel,by kernel_rfl⟩⟩
theorem nh:CK Tryz.prog 182:=⟨⟨_,Tryz.func182,by decide+kernel,by kernel_rfl⟩⟩
theorem xH:CK Tryz.prog 183:=⟨⟨_,Tryz.func183,by decide+kernel,by kernel_rfl⟩⟩
theorem rf:CK Tryz.prog 185:=⟨⟨_,Tryz.func185,by decide+kernel,by kernel_rfl⟩⟩
theorem ub:CK Tryz.prog 186:=⟨⟨_,Tryz.func186,by decide+kernel,by kernel_rfl⟩⟩
theorem Al:CK Tryz.prog 187:=⟨⟨_,Tryz.func187,by decide+kernel,by kernel_rfl⟩⟩
theorem AF:CK Tryz.prog 188:=⟨⟨_,Tryz.func188,by decide+kernel,by kernel_rfl⟩⟩
theorem yX:CK Tryz.prog 189:=⟨⟨_,Tryz.func189,by decide+kernel,by kernel_rfl⟩⟩
theorem Ar:CK Tryz.prog 191:=⟨⟨_,Tryz.func191,by decide+kernel,by kernel_rfl⟩⟩
theorem AC:CK Tryz.prog 192:=⟨⟨_,Tryz.func192,by decide+kernel,by kernel_rfl⟩⟩
theorem yG:CK Tryz.prog 193:=⟨⟨_,Tryz.func193,by decide+kernel,by kernel_rfl⟩⟩
theorem ik:CK Tryz.prog 194:=⟨⟨_,Tryz.func194,by decide+kernel,by kernel_rfl⟩⟩
theorem xX:CK Tryz.prog 195:=⟨⟨_,Tryz.func195,by decide+kernel,by kernel_rfl⟩⟩
theorem AJ:CK Tryz.prog 196:=⟨⟨_,Tryz.func196,by decide+kernel,by kernel_rfl⟩⟩
end
end Go.Proofs.YtplngpfpcheofaaGreatDoor
