import Derived.Test.YtnljadejcfgmaaaGreatDoorKB15
namespace Go.Proofs.YtnljadejcfgmaaaGreatDoor
open Go.RowKit
set_option maxRecDepth 100000
set_option linter.unusedVariables false
set_option maxHeartbeats 8000000
section
section
inductive Pk where
 |ex (v:Value)
 |of (H:World→Value→Prop) (m:Mb H)
 |no
def Pk.H:Pk→World→Value→Prop
 | .ex v=>fun _ u=>u=v
 | .of H _=>H
 | .no =>fun _ _=>True
theorem Pk.mb:∀k:Pk,Mb k.H
 | .ex v=>Mb.eq v
 | .of _ m=>m
 | .no =>Mb.any
def Ret (k:Pk) (w:World):Ending→World→Prop:=fun e w'=>∃v,e= .returned v∧k.H w' v∧Below w.heap.size w w'
def mz (t:Nat):Nat→List Nat→Option Nat
 |_,[]=>none
 |i,x::l=>bif Nat.beq t x then some i else mz t (i+1) l
def lkp (t:Nat):List (Nat×Value)→Option Value
 |[]=>none
 |p::l=>bif Nat.beq t p.1 then some p.2 else lkp t l
def Au (L:List (Nat×Value)) (ds:List Nat) (ks:List Pk):Operand→Pk
 | .const v=> .ex v
 | .tmp t=>match mz t 0 ds with
  |some i=>(ks[i]?).getD .no
  |none=>match lkp t L with
   |some v=> .ex v
   |none=> .no
 |_=> .no
def Obl (P:Program) (L:List (Nat×Value)) (ds:List Nat) (ks:List Pk) (f:FuncId) (k:Pk) (w':World):List Operand→List Value→Prop
 |[],vs=>Calls P f vs.toArray w' (Ret k w')
 |x::r,vs=>match Au L ds ks x with
  | .ex v=>Obl P L ds ks f k w' r (vs++[v])
  | .of H _=>∀u,H w' u→Obl P L ds ks f k w' r (vs++[u])
  | .no =>False
def sx (af:Array Edge) (ds:List Nat):Operand→Bool
 | .tmp t=>match mz t 0 ds with
  |some i=>af.toList.any fun e=>Nat.beq e.on i && Region.binds .any e
  |none=>true
 |_=>true
theorem qD {t:Nat}:∀(l:List Nat) (k i:Nat),mz t k l=some i→∃j,i=k+j∧l[j]?=some t
 |[],_,_,h=>by cases h
 |x::l,k,i,h=>by
  unfold mz at h
  by_cases e:t=x
  ·subst e
   rw[show Nat.beq t t=true by simp,cond_true] at h
   injection h with h
   exact⟨0,h.symm,rfl⟩
  ·rw[show Nat.beq t x=false from Bool.eq_false_iff.2 fun k=>e (Nat.eq_of_beq_eq_true k),cond_false] at h
   obtain⟨j,h1,h2⟩:=qD l (k+1) i h
   exact⟨j+1,by omega,by simpa using h2⟩
theorem tp {t:Nat} {v:Value}:∀(L:List (Nat×Value)),lkp t L=some v→(t,v)∈L
 |[],h=>by cases h
 |p::l,h=>by
  unfold lkp at h
  by_cases e:t=p.1
  ·subst e
   rw[show Nat.beq p.1 p.1=true by simp,cond_true] at h
   injection h with h
   subst h
   exact List.mem_cons_self
  ·rw[show Nat.beq t p.1=false from Bool.eq_false_iff.2 fun k=>e (Nat.eq_of_beq_eq_true k),cond_false] at h
   exact List.mem_cons_of_mem _ (tp l h)
theorem qv (ks:List Pk) (i:Nat):Hat (ks.map Pk.H) i=((ks[i]?).getD .no).H :=by
 unfold Hat
 rw[List.getElem?_map]
 cases ks[i]? <;> rfl
theorem GA {nt:Nat} {a':Act} {w':World} {L:List (Nat×Value)} {ds:List Nat} {ks:List Pk} {af:Array Edge} (hF:Fr nt a' L)
 (hd:∀(e:Edge) (s:Nat),e∈af→Region.binds .any e=true→ds[e.on]?=some s→Hat (ks.map Pk.H) e.on w' (a'.tmps.getD s undef)) (x:Operand) (he:sx af ds x=true):(Au L ds ks x).H w' (a'.eval x):=by
 cases x with
 |const v=>rfl
 |tmp t=>
  show Pk.H (match mz t 0 ds with|some i=>(ks[i]?).getD .no |none=>match lkp t L with|some v=> .ex v|none=> .no) w' (a'.tmps.getD t undef)
  have he:(match mz t 0 ds with|some i=>af.toList.any fun e=>Nat.beq e.on i && Region.binds .any e|none=>true)=true:=he
  cases hi:mz t 0 ds with
  |some i=>
   rw[hi] at he
   obtain⟨e,hm,hb⟩:=List.any_eq_true.1 he
   obtain⟨j,h1,h2⟩:=qD ds 0 i hi
   rw[Bool.and_eq_true] at hb
   have ho:e.on=i:=Nat.eq_of_beq_eq_true hb.1
   have:=hd e t (by simpa using hm) hb.2 (by rw[ho,h1,Nat.zero_add];exact h2)
   rw[qv,ho] at this
   exact this
  |none=>
   cases hl:lkp t L with
   |some v=>exact hF.all (t,v) (tp L hl)
   |none=>trivial
 |global g=>trivial
 |func f=>trivial
theorem Obl.call {P:Program} {nt:Nat} {a':Act} {w':World} {L:List (Nat×Value)} {ds:List Nat} {ks:List Pk} {af:Array Edge} {f:FuncId} {k:Pk} (hF:Fr nt a' L)
 (hd:∀(e:Edge) (s:Nat),e∈af→Region.binds .any e=true→ds[e.on]?=some s→Hat (ks.map Pk.H) e.on w' (a'.tmps.getD s undef)):
 ∀(xs:List Operand) (vs:List Value),xs.all (sx af ds)=true→Obl P L ds ks f k w' xs vs→Calls P f (vs++xs.map a'.eval).toArray w' (Ret k w')
 |[],vs,_,h=>by rw[List.map_nil,List.append_nil];exact h
 |x::r,vs,hc,h=>by
  rw[List.all_cons,Bool.and_eq_true] at hc
  have ha:=GA hF hd x hc.1
  unfold Obl at h
  have e:vs++(x::r).map a'.eval=(vs++[a'.eval x])++r.map a'.eval:=by simp
  rw[e]
  cases hk:Au L ds ks x with
  |ex v=>
   rw[hk] at h ha
   have ha:a'.eval x=v:=ha
   rw[ha]
   exact Obl.call hF hd r _ hc.2 h
  |of H m=>
   rw[hk] at h ha
   exact Obl.call hF hd r _ hc.2 (h _ ha)
  |no=>rw[hk] at h;exact h.elim
def aG (P:Program) (f:FuncId):Prop:=∃fn,P.funcs[f]?=some fn∧(fn.name == "runtime.NumGoroutine")=false∧fn.body.isNone=false
section
variable {P:Program} {ops:Array Oper} {Q:Exit→Act→World→Prop} {nt:Nat} {L:List (Nat×Value)} {W:World} {ds:List Nat} {ks:List Pk} {al:List Nat} {i:Nat} {dst:Option Tmp} {ty:TypeId} {pos:String} {af:Array Edge}
theorem ck {f:FuncId} {xs:Array Operand} {ts:Array TypeId} {k:Pk} {W0:World} {bs:List (Nat×List Value)} {fs:List (World→Prop)} (st:St W0 W bs fs) (hk:aG P f) (hc:(xs.toList.all (sx af ds) && !al.contains i,ks[i]?)=(true,some k)) (ob:∀w',St W0 w' bs fs→Obl P L ds ks f k w' xs.toList []):
 fx P ops Q nt L W ds (ks.map Pk.H) al i ⟨dst,.call ⟨.value (.func f),xs,ts⟩,ty,pos,af,none⟩:=by
 intro a' w' hF hb hd
 have hi:=congrArg Prod.snd hc
 replace hc:=congrArg Prod.fst hc
 simp only at hc hi
 rw[Bool.and_eq_true,Bool.not_eq_true'] at hc
 obtain⟨fn,h1,h2,h3⟩:=hk
 have h:=Obl.call hF hd xs.toList [] hc.1 (ob w' (st.to hb))
 rw[List.nil_append,show(xs.toList.map a'.eval).toArray =xs.map a'.eval from by rw[←Array.toList_map,Array.toArray_toList]] at h
 refine ce (bm rfl) (bH.calls (tG h1 h2 h3 rfl) h ?_)
 rintro e w'' ⟨v,e1,e2,e3⟩
 exact⟨v,e1,by rw[qv,hi];exact e2,e3,fun x=>by rw[hc.2] at x;cases x⟩
theorem rd {op:Op} {v:Value} (ha:al.contains i=false) (hi:ks[i]?=some (.ex v)) (hr:∀(a':Act) (w':World),Fr nt a' L→Below W.heap.size W w'→(execOp a'.eval ⟨dst,op,ty,pos,af,none⟩).run P w'= .ok (.value v) w'):
 fx P ops Q nt L W ds (ks.map Pk.H) al i ⟨dst,op,ty,pos,af,none⟩:=by
 intro a' w' hF hb hd
 exact ce (bm rfl) (bH.vals (hr a' w' hF hb) ⟨by rw[qv,hi];rfl,Below.refl _ _,fun x=>by rw[ha] at x;cases x⟩)
theorem rb {T:TypeId} {x:Operand} {n g:Nat} {zs cs:List Value} {bs:List (Nat×List Value)} {fs:List (World→Prop)} {W0:World} {s:Nat} (st:St W0 W bs fs) (hT:Ty P T n zs) (j b:Nat) (h:(x,L[j]?,bs[b]?,cs.length,al.contains i,ks[i]?)=(.tmp s,some (s,.pointer (some ⟨g,0,none⟩)),some (g,cs),n,false,some (.ex (.agg cs.toArray)))):
 fx P ops Q nt L W ds (ks.map Pk.H) al i ⟨dst,.load T x,ty,pos,af,none⟩:=by
 simp only [Prod.mk.injEq] at h
 obtain⟨hx,hj,hb,hn,ha,hi⟩:=h
 exact rd ha hi fun a' w' hF hbl=>by
  subst hx
  exact av (hF.at j hj) (cD hT ((st.bk b hb).below hbl) hn)
theorem nf:∀ks:List Pk,ma (ks.map Pk.H)
 |[]=>trivial
 |k::l=>⟨k.mb,nf l⟩
end
def Rl (q:Rat) (k:Nat) (w:World) (v:Value):Prop:=Rq w v q∧au q k
theorem Rl.mb (q:Rat) (k:Nat):Mb (Rl q k):=fun _ _ _ h hb=>⟨h.1.below hb,h.2⟩
theorem Rl.cl {q:Rat} {k:Nat} (v:Value):Cl fun w=>Rl q k w v:=fun _ _ h kp=>⟨h.1.keep kp,h.2⟩
theorem Rl.below {q:Rat} {k:Nat} {w w':World} {v:Value} (h:Rl q k w v) (hb:Below w.heap.size w w'):Rl q k w' v:=⟨h.1.below hb,h.2⟩
abbrev kq (q:Rat) (k:Nat):Pk:= .of (Rl q k) (Rl.mb q k)
theorem aD {P:Program} {f:FuncId} {args:Array Value} {w:World} {q:Rat} {k:Nat} (h:Calls P f args w (bl w q)) (l:au q k):Calls P f args w (Ret (kq q k) w):=h.mono fun _ _ ⟨v,e,h,b⟩=>⟨v,e,⟨h,l⟩,b⟩
def Rh (q:Rat) (k i:Nat) (w:World) (v:Value):Prop:=Rr w v q k∧au q i
theorem Rh.mb (q:Rat) (k i:Nat):Mb (Rh q k i):=fun _ _ _ h hb=>⟨h.1.below hb,h.2⟩
theorem Rh.cl {q:Rat} {k i:Nat} (v:Value):Cl fun w=>Rh q k i w v:=fun _ _ h kp=>⟨h.1.keep kp,h.2⟩
theorem Rh.below {q:Rat} {k i:Nat} {w w':World} {v:Value} (h:Rh q k i w v) (hb:Below w.heap.size w w'):Rh q k i w' v:=⟨h.1.below hb,h.2⟩
abbrev kh (q:Rat) (k i:Nat):Pk:= .of (Rh q k i) (Rh.mb q k i)
theorem aH {P:Program} {f:FuncId} {args:Array Value} {w:World} {q:Rat} {k i:Nat} (h:Calls P f args w (bK w q k)) (l:au q i):Calls P f args w (Ret (kh q k i) w):=h.mono fun _ _ ⟨v,e,h,b⟩=>⟨v,e,⟨h,l⟩,b⟩
def Wl (z:Int) (k:Nat) (w:World) (v:Value):Prop:=Wc w v z∧Lim z.natAbs k
theorem Wl.mb (z:Int) (k:Nat):Mb (Wl z k):=fun _ _ _ h hb=>⟨h.1.below hb,h.2⟩
abbrev kw (z:Int) (k:Nat):Pk:= .of (Wl z k) (Wl.mb z k)
theorem zK {P:Program} {f:FuncId} {args:Array Value} {w:World} {z:Int} {k:Nat} (h:Calls P f args w (fa w z)) (l:Lim z.natAbs k):Calls P f args w (Ret (kw z k) w):=h.mono fun _ _ ⟨v,e,h,b⟩=>⟨v,e,⟨h,l⟩,b⟩
def Zl (z:Int) (k:Nat) (w:World) (v:Value):Prop:=Rz w v z∧Lim z.natAbs k
theorem Zl.mb (z:Int) (k:Nat):Mb (Zl z k):=fun _ _ _ h hb=>⟨h.1.below hb,h.2⟩
theorem Zl.cl {z:Int} {k:Nat} (v:Value):Cl fun w=>Zl z k w v:=fun _ _ h kp=>⟨h.1.keep kp,h.2⟩
abbrev kz (z:Int) (k:Nat):Pk:= .of (Zl z k) (Zl.mb z k)
theorem sU {P:Program} {f:FuncId} {args:Array Value} {w:World} {z:Int} {k:Nat} (h:Calls P f args w (iY w z)) (l:Lim z.natAbs k):Calls P f args w (Ret (kz z k) w):=h.mono fun _ _ ⟨v,e,h,b⟩=>⟨v,e,⟨h,l⟩,b⟩
theorem bA {P:Program} {f:FuncId} {args:Array Value} {w:World} {v:Value} (h:Calls P f args w fun e w'=>e= .returned v∧Below w.heap.size w w'):Calls P f args w (Ret (.ex v) w):=h.mono fun _ _ ⟨e,b⟩=>⟨v,e,rfl,b⟩
theorem pL {P:Program} {f:FuncId} {args:Array Value} {w:World} {H:World→Value→Prop} {m:Mb H} (h:Calls P f args w fun e w'=>∃v,e= .returned v∧H w' v∧Below w.heap.size w w'):Calls P f args w (Ret (.of H m) w):=h
section
variable {P:Program} {ops:Array Oper} {Q:Exit→Act→World→Prop} {W w:World} {bs:List (Nat×List Value)} {fs:List (World→Prop)} {nt d s:Nat} {L:List (Nat×Value)} {rest:List Oper} {a:Act} {x:Value} {ds:List Nat} {Hs:List (World→Value→Prop)} {H:World→Value→Prop}
theorem rgc {f:FuncId} {xs:Array Operand} {ts:Array TypeId} {args:Array Value} {dst:Option Tmp} {gd:Option (Nat×Bool)} {ty:TypeId} {pos:String} {af:Array Edge} (k:aG P f) (h:xs.map a.eval=args):(execOp a.eval ⟨dst,.call ⟨.value (.func f),xs,ts⟩,ty,pos,af,gd⟩).run P w= .ok (.enter f args) w:=by
 obtain⟨fn,h1,h2,h3⟩:=k
 exact tG h1 h2 h3 h
theorem rg2 {b c:Bool} (h:(b && c)=true):b=true∧c=true:=by rwa[Bool.and_eq_true] at h
theorem S.ck {f:FuncId} {args:Array Value} {m:Mb H} {op:Op} {ty:TypeId} {pos:String} {af:Array Edge} (st:St W w bs fs) (hF:Fr nt a L) (hr:(execOp a.eval ⟨some d,op,ty,pos,af,none⟩).run P w= .ok (.enter f args) w) (hc:Calls P f args w (Ret (.of H m) w)) (hcl:∀v,Cl fun w=>H w v) (hk:(Nat.blt d nt && bI d L)=true)
 (k:∀v w' a',St W w' bs ((fun w=>H w v)::fs)→Fr nt a' ((d,v)::L)→wpS P ops Q rest a' w'):wpS P ops Q (⟨some d,op,ty,pos,af,none⟩::rest) a w:=
 S.call (H:=fun v w=>H w v) st hF hr hc (fun _ _ h=>h) hcl rfl rfl (rg2 hk).1 (rg2 hk).2 k
theorem S.ckg {f:FuncId} {args:Array Value} {m:Mb H} {o:Oper} (st:St W w bs fs) (hF:Fr nt a L) (hg:Region.wanted o (yielded ops a.tmps)=true) (hr:(execOp a.eval o).run P w= .ok (.enter f args) w) (hc:Calls P f args w (Ret (.of H m) w)) (hcl:∀v,Cl fun w=>H w v) (hd:o.dst=some d) (hlt:Nat.blt d nt=true) (hf:bI d L=true)
 (k:∀v w' a',St W w' bs ((fun w=>H w v)::fs)→Fr nt a' ((d,v)::L)→wpS P ops Q rest a' w'):wpS P ops Q (o::rest) a w:=
 S.callg (H:=fun v w=>H w v) st hF hg hr hc (fun _ _ h=>h) hcl hd hlt hf k
theorem rE (hall:∀(i s:Nat),ds[i]?=some s→Hat Hs i w (a.tmps.getD s undef)) (hF:Fr nt a L) (i:Nat) (hs:ds[i]?=some s) (hH:Hs[i]?=some fun _ v=>v=x):Fr nt a ((s,x)::L):=hF.add (sSe hall i s hs hH)
theorem rS (hall:∀(i s:Nat),ds[i]?=some s→Hat Hs i w (a.tmps.getD s undef)) (hF:Fr nt a L) (st:St W w bs fs) (i:Nat) (hs:ds[i]?=some s) (hH:Hs[i]?=some H) (hc:∀v,Cl fun w=>H w v):∃v,Fr nt a ((s,v)::L)∧St W w bs ((fun w=>H w v)::fs):=by
 obtain⟨v,e,h⟩:=sS hall i s hs hH
 exact⟨v,hF.add e,st.add h (hc v)⟩
end
section
variable {P:Program} {ops:Array Oper} {Q:Exit→Act→World→Prop} {nt:Nat} {L:List (Nat×Value)} {W:World} {ds:List Nat} {ks:List Pk} {al:List Nat} {i s:Nat} {dst:Option Tmp} {ty:TypeId} {pos:String} {af:Array Edge} {v:Value}
theorem rm (j:Nat) (h:(L[j]?,al.contains i,ks[i]?)=(some (s,v),false,some (.ex v))):fx P ops Q nt L W ds (ks.map Pk.H) al i ⟨dst,.move (.tmp s),ty,pos,af,none⟩:=by
 simp only [Prod.mk.injEq] at h
 exact rd h.2.1 h.2.2 fun a' w' hF _=>aP (hF.at j h.1)
end
def tf (W:World) (zs:List Value) (w:World) (v:Value):Prop:=∃g,v= .pointer (some ⟨g,0,none⟩)∧W.heap.size≤g∧Own w g zs
theorem tf.mb (W:World) (zs:List Value):Mb (tf W zs):=fun _ _ _ ⟨g,e,l,o⟩ hb=>⟨g,e,l,o.below hb⟩
abbrev kn (W:World) (zs:List Value):Pk:= .of (tf W zs) (tf.mb W zs)
def sE (W:World) (zs:List Value) (w:World) (v:Value):Prop:=∃g,v= .pointer (some ⟨g,0,none⟩)∧W.heap.size≤g∧Blk w g zs
theorem sE.mb (W:World) (zs:List Value):Mb (sE W zs):=fun _ _ _ ⟨g,e,l,o⟩ hb=>⟨g,e,l,o.below hb⟩
abbrev kb (W:World) (zs:List Value):Pk:= .of (sE W zs) (sE.mb W zs)
section
variable {P:Program} {ops:Array Oper} {Q:Exit→Act→World→Prop} {nt n:Nat} {L:List (Nat×Value)} {W:World} {ds:List Nat} {ks:List Pk} {al:List Nat} {i d:Nat} {ty:TypeId} {pos:String} {af:Array Edge} {T:TypeId} {zs:List Value}
theorem ra (hT:Ty P T n zs) (hc:zs.all de=true) (h:(ks[i]?,al.contains i)=(some (kn W zs),true)):fx P ops Q nt L W ds (ks.map Pk.H) al i ⟨some d,.alloc T,ty,pos,af,none⟩:=by
 simp only [Prod.mk.injEq] at h
 intro a' w' hF' hb hd
 have hH:(ks.map Pk.H)[i]?=some (tf W zs):=by rw[List.getElem?_map,h.1];rfl
 exact da0 hT hc hb.size hH
theorem rai (hT:Ty P T n zs) (h:(ks[i]?,al.contains i)=(some (kb W zs),true)):fx P ops Q nt L W ds (ks.map Pk.H) al i ⟨some d,.alloc T,ty,pos,af,none⟩:=by
 simp only [Prod.mk.injEq] at h
 intro a' w' hF' hb hd
 have hH:(ks.map Pk.H)[i]?=some (sE W zs):=by rw[List.getElem?_map,h.1];rfl
 exact IQ hT hb.size hH
end
section
variable {P:Program} {Q:Exit→Act→World→Prop}
theorem E.rg {nt id:Nat} (n:Nat) {l:List Oper} {L:List (Nat×Value)} {a:Act} {w:World} (hm:P.follows .mixedOrders =true) (hF:Fr nt a L) (ds:List Nat) (ks:List Pk) (hback:(dE l.toArray && ev l.toArray n)=true) (hn:Nat.ble n l.length=true) (hds:d8 l.toArray n=ds.map some) (hap:fB ds nt L=true)
 (steps:jx P l.toArray Q nt L w ds (ks.map Pk.H) [] 0 (l.take n))
 (tail:∀(a':Act) (w':World),Fr nt a' L→Below w.heap.size w w'→(∀(i s:Nat),ds[i]?=some s→Hat (ks.map Pk.H) i w' (a'.tmps.getD s undef))→wpS P l.toArray Q (l.drop n) a' w'):
 (Code.region id l.toArray true).wp P Q a w:=by
 rw[Bool.and_eq_true] at hback
 exact E.drawn n hm hF ds (ks.map Pk.H) [] hback.1 hback.2 hn hds hap (nf ks) trivial steps fun a' w' h1 h2 h3 _=>tail a' w' h1 h2 h3
theorem E.rga {nt id:Nat} (n:Nat) {l:List Oper} {L:List (Nat×Value)} {a:Act} {w:World} (hm:P.follows .mixedOrders =true) (hF:Fr nt a L) (ds:List Nat) (ks:List Pk) (al:List Nat) (hA:kM (ks.map Pk.H) al) (hback:(dE l.toArray && ev l.toArray n)=true) (hn:Nat.ble n l.length=true) (hds:d8 l.toArray n=ds.map some) (hap:fB ds nt L=true)
 (steps:jx P l.toArray Q nt L w ds (ks.map Pk.H) al 0 (l.take n))
 (tail:∀(a':Act) (w':World),Fr nt a' L→Below w.heap.size w w'→(∀(i s:Nat),ds[i]?=some s→Hat (ks.map Pk.H) i w' (a'.tmps.getD s undef))→
   (∀(i j s t:Nat),al.contains i=true→al.contains j=true→i≠j→ds[i]?=some s→ds[j]?=some t→a'.tmps.getD s undef≠a'.tmps.getD t undef)→wpS P l.toArray Q (l.drop n) a' w'):
 (Code.region id l.toArray true).wp P Q a w:=by
 rw[Bool.and_eq_true] at hback
 exact E.drawn n hm hF ds (ks.map Pk.H) al hback.1 hback.2 hn hds hap (nf ks) hA steps tail
end
end
end
theorem k26:aG Tryz.prog 26:=⟨_,Tryz.func26,by decide+kernel,by kernel_rfl⟩
theorem k28:aG Tryz.prog 28:=⟨_,Tryz.func28,by decide+kernel,by kernel_rfl⟩
theorem k87:aG Tryz.prog 87:=⟨_,Tryz.func87,by decide+kernel,by kernel_rfl⟩
theorem k29:aG Tryz.prog 29:=⟨_,Tryz.func29,by decide+kernel,by kernel_rfl⟩
theorem k25:aG Tryz.prog 25:=⟨_,Tryz.func25,by decide+kernel,by kernel_rfl⟩
theorem k86:aG Tryz.prog 86:=⟨_,Tryz.func86,by decide+kernel,by kernel_rfl⟩
theorem k92:aG Tryz.prog 92:=⟨_,Tryz.func92,by decide+kernel,by kernel_rfl⟩
theorem k90:aG Tryz.prog 90:=⟨_,Tryz.func90,by decide+kernel,by kernel_rfl⟩
section
section
variable {P:Program} {ops:Array Oper} {Q:Exit→Act→World→Prop}
theorem E.regionP {nt n id s0 k0:Nat} {v0:Value} {L:List (Nat×Value)} {a:Act} {w:World} (hm:P.follows .mixedOrders =true) (hF:Fr nt a L) (ds:List Nat) (al:Nat→Bool) (H:Nat→World→Value→Prop)
 (hback:dE ops=true) (hw:ev ops n=true) (hn:Nat.ble n ops.size=true) (hds:d8 ops n=ds.map some) (hap:fB ds nt L=true) (hk0:ds[k0]?=some s0) (hv0:a.tmps.getD s0 undef=v0)
 (hmono:∀i w w' v,H i w v→Below w.heap.size w w'→H i w' v) (hal:∀i w v,al i=true→H i w v→∃g,v= .pointer (some ⟨g,0,none⟩)∧g<w.heap.size)
 (step:∀(i:Nat) (o:Oper),i<n→ops[i]?=some o→∀(a':Act) (w':World),Fr nt a' L→Below w.heap.size w w'→(∀(e:Edge) (s:Nat),e∈o.after→Region.binds .any e=true→ds[e.on]?=some s→H e.on w' (a'.tmps.getD s undef))→(dN ops k0 i=true→a'.tmps.getD s0 undef=v0)→
   if Region.wanted o (yielded ops a'.tmps)=true then bH P Q o a' w' (fun v w''=>H i w'' v∧Below w'.heap.size w' w''∧(al i=true→v= .pointer (some ⟨w'.heap.size,0,none⟩))) else H i w' undef∧al i=false)
 (tail:∀(a':Act) (w':World),Fr nt a' L→Below w.heap.size w w'→(∀(i s:Nat),ds[i]?=some s→H i w' (a'.tmps.getD s undef))→
   (∀(i j s t:Nat),al i=true→al j=true→i≠j→ds[i]?=some s→ds[j]?=some t→a'.tmps.getD s undef≠a'.tmps.getD t undef)→wpS P ops Q (ops.toList.drop n) a' w'):
 (Code.region id ops true).wp P Q a w:=by
 have hn':n≤ops.size:=by simpa using hn
 have hlen:ds.length=n:=by
  have:=congrArg List.length hds
  unfold d8 at this
  simp at this
  omega
 have tail':∀(d:Nat→Bool) (a':Act) (w':World),(∀j,j<n→d j=true)→Pre ops nt n L ds al H w d a' w'→wpS P ops Q (ops.toList.drop n) a' w':=by
  intro d a' w' hd hp
  have lt:∀i s,ds[i]?=some s→i<n:=fun i s h=>by have:=(List.getElem?_eq_some_iff.1 h).1;omega
  exact tail a' w' hp.fr hp.bel (fun i s hs=>hp.has i s (lt i s hs) hs (hd i (lt i s hs))) (fun i j s t ai aj hij hs ht=>hp.ne i j s t (lt i s hs) (lt j t ht) ai aj hij hs ht (hd i (lt i s hs)) (hd j (lt j t ht)))
 refine jm hm hback (fun d a' w'=>oB ops d∧(((∀j,n≤j→d j=false)∧Pre ops nt n L ds al H w d a' w'∧(d k0=false→a'.tmps.getD s0 undef=v0))∨(∃k,n≤k∧(∀j,d j=decide (j<k))∧wpS P ops Q (ops.toList.drop k) a' w'))) ?_ ?_ ?_
 ·refine⟨(fun m j _ h=>by cases h),.inl ⟨fun _ _=>rfl,?_,fun _=>hv0⟩⟩
  exact⟨hF,(Below.refl _ _).drew,(fun _ _ _ _ h=>by cases h),(fun _ _ _ _ _ _ _ _ _ _ _ h=>by cases h)⟩
 ·rintro d a' w' ⟨hs,hI⟩ i o ho hdi hdep K hK
  have hi:i<ops.size:=(Array.getElem?_eq_some_iff.1 ho).1
  have hdep':∀j,dN ops i j=true→d j=true:=by
   intro j hj
   obtain⟨e,he,hb,rfl⟩:=(lY ho).1 hj
   exact hdep e he hb
  have two:∀k,n≤k→(∀j,d j=decide (j<k))→wpS P ops Q (ops.toList.drop k) a' w'→if Region.wanted o (yielded ops a'.tmps)=true then Oper.wp P o a' w' K Q else K (a'.put o.dst undef) w':=by
   intro k hnk hdk h
   have hki:k≤i:=by
    have h1:=hdk i
    rw[hdi] at h1
    have:¬i<k:=by simpa using h1.symm
    omega
   have hik:i=k:=by
    by_cases e:i=k
    ·exact e
    ·exfalso
     have h1:=gg hw hi (by omega) hs hdep' k (by omega)
     rw[hdk k,decide_eq_false (by omega)] at h1
     cases h1
   subst hik
   have hdrop:ops.toList.drop i=o::ops.toList.drop (i+1):=by
    rw[List.drop_eq_getElem_cons (by simpa using hi)]
    congr 1
    rw[Array.getElem?_eq_getElem hi] at ho
    simpa using ho
   rw[hdrop] at h
   unfold wpS at h
   have next:∀j,up d i j=decide (j<i+1):=by
    intro j
    unfold up
    by_cases e:j=i
    ·rw[if_pos e];exact(decide_eq_true (by omega)).symm
    ·rw[if_neg e,hdk j]
     by_cases e':j<i
     ·rw[decide_eq_true e',decide_eq_true (by omega)]
     ·rw[decide_eq_false e',decide_eq_false (by omega)]
   split
   ·rename_i hwd
    rw[if_pos hwd] at h
    exact Oper.wp_mono (fun a w h=>hK a w ⟨hs.one hdep',.inr ⟨i+1,by omega,next,h⟩⟩) h
   ·rename_i hwd
    rw[if_neg hwd] at h
    exact hK _ _ ⟨hs.one hdep',.inr ⟨i+1,by omega,next,h⟩⟩
  rcases hI with⟨hno,hp,hol⟩|⟨k,hnk,hdk,h⟩
  ·by_cases hin:i<n
   ·obtain⟨s,hsi,hdst⟩:=yB hds hin ho
    have hst:=step i o hin ho a' w' hp.fr hp.bel (fun e t he hb ht=>hp.has e.on t (by have:=(List.getElem?_eq_some_iff.1 ht).1;omega) ht (hdep e he hb)) (fun he=>hol (Bool.eq_false_iff.2 fun hk=>by rw[hs k0 i he hk] at hdi;cases hdi))
    have hol':∀v,up d i k0=false→(a'.put (some s) v).tmps.getD s0 undef=v0:=by
     intro v hu
     by_cases e:k0=i
     ·rw[show up d i k0=true by unfold up;rw[if_pos e]] at hu;cases hu
     ·rw[show up d i k0=d k0 by unfold up;rw[if_neg e]] at hu
      rw[gF (fun e2=>?_)]
      ·exact hol hu
      ·have hnd:ds.Nodup:=kJ ds (by unfold fB at hap;rw[Bool.and_eq_true] at hap;exact hap.1)
       have h1:=(List.getElem?_eq_some_iff.1 hk0).1
       exact e ((List.getElem?_inj h1 hnd).1 (by rw[hk0,hsi,e2]))
    have hno':∀j,n≤j→up d i j=false:=fun j hj=>by unfold up;rw[if_neg (by omega)];exact hno j hj
    split
    ·rename_i hwd
     rw[if_pos hwd] at hst
     refine hst K fun v w'' ⟨hv,hb,ha⟩=>hK _ _ ⟨hs.one hdep',.inl ⟨hno',?_,by rw[hdst];exact hol' v⟩⟩
     rw[hdst]
     exact hp.one hmono hal hap hsi hdi hb hv ha
    ·rename_i hwd
     rw[if_neg hwd] at hst
     refine hK _ _ ⟨hs.one hdep',.inl ⟨hno',?_,by rw[hdst];exact hol' undef⟩⟩
     rw[hdst]
     exact hp.one hmono hal hap hsi hdi (Below.refl _ _) hst.1 (fun h=>by rw[hst.2] at h;cases h)
   ·have hall:=gg hw hi (by omega) hs hdep'
    have hni:n=i:=by
     by_cases e:n=i
     ·exact e
     ·exfalso
      have h1:=hall n (by omega)
      rw[hno n (Nat.le_refl n)] at h1
      cases h1
    refine two n (Nat.le_refl n) (fun j=>?_) (tail' d a' w' (fun j hj=>hall j (by omega)) hp)
    by_cases e:j<n
    ·rw[hall j (by omega),decide_eq_true e]
    ·rw[hno j (by omega),decide_eq_false e]
  ·exact two k hnk hdk h
 ·rintro d a' w' ⟨hs,hI⟩ hall
  rcases hI with⟨hno,hp,hol⟩|⟨k,hnk,hdk,h⟩
  ·have e:n=ops.size:=by
    by_cases e:n=ops.size
    ·exact e
    ·exfalso
     have h1:=hall n (by omega)
     rw[hno n (Nat.le_refl n)] at h1
     cases h1
   have h:=tail' d a' w' (fun j hj=>hall j (by omega)) hp
   rw[List.drop_eq_nil_of_le (by simp;omega)] at h
   exact h
  ·have hk:ops.size≤k:=by
    by_cases e:ops.size≤k
    ·exact e
    ·exfalso
     have h1:=hall k (by omega)
     rw[hdk k,decide_eq_false (by omega)] at h1
     cases h1
   rw[List.drop_eq_nil_of_le (by simpa using hk)] at h
   exact h
end
def kS (P:Program) (ops:Array Oper) (Q:Exit→Act→World→Prop) (nt:Nat) (L:List (Nat×Value)) (W:World) (ds:List Nat) (Hs:List (World→Value→Prop)) (al:List Nat) (i0:Nat) (p0:Nat×Value):Nat→List Oper→Prop
 |_,[]=>True
 |i,o::l=>fx P ops Q nt (bif Nat.beq i i0 then p0::L else L) W ds Hs al i o∧kS P ops Q nt L W ds Hs al i0 p0 (i+1) l
theorem kS.at {P:Program} {ops:Array Oper} {Q:Exit→Act→World→Prop} {nt:Nat} {L:List (Nat×Value)} {W:World} {ds:List Nat} {Hs:List (World→Value→Prop)} {al:List Nat} {i0:Nat} {p0:Nat×Value}:∀(l:List Oper) (k:Nat),kS P ops Q nt L W ds Hs al i0 p0 k l→∀i o,l[i]?=some o→fx P ops Q nt (bif Nat.beq (k+i) i0 then p0::L else L) W ds Hs al (k+i) o
 |[],_,_,_,_,h=>by cases h
 |x::l,k,h,0,o,ho=>by
  obtain rfl:x=o:=by simpa using ho
  exact h.1
 |x::l,k,h,i+1,o,ho=>by
  have:=kS.at l (k+1) h.2 i o (by simpa using ho)
  rw[show k+(i+1)=k+1+i by omega]
  exact this
theorem E.rgap {P:Program} {Q:Exit→Act→World→Prop} {nt id:Nat} (n:Nat) {l:List Oper} {L:List (Nat×Value)} {a:Act} {w:World} {s0:Nat} {v0:Value} (k0 i0:Nat) (hm:P.follows .mixedOrders =true) (hF:Fr nt a L) (hv0:a.tmps.getD s0 undef=v0) (ds:List Nat) (ks:List Pk) (al:List Nat) (hA:kM (ks.map Pk.H) al) (hback:(dE l.toArray && ev l.toArray n && dN l.toArray k0 i0)=true) (hn:Nat.ble n l.length=true) (hds:d8 l.toArray n=ds.map some) (hap:fB ds nt L=true) (hk0:ds[k0]?=some s0)
 (steps:kS P l.toArray Q nt L w ds (ks.map Pk.H) al i0 (s0,v0) 0 (l.take n))
 (tail:∀(a':Act) (w':World),Fr nt a' L→Below w.heap.size w w'→(∀(i s:Nat),ds[i]?=some s→Hat (ks.map Pk.H) i w' (a'.tmps.getD s undef))→
   (∀(i j s t:Nat),al.contains i=true→al.contains j=true→i≠j→ds[i]?=some s→ds[j]?=some t→a'.tmps.getD s undef≠a'.tmps.getD t undef)→wpS P l.toArray Q (l.drop n) a' w'):
 (Code.region id l.toArray true).wp P Q a w:=by
 rw[Bool.and_eq_true,Bool.and_eq_true] at hback
 refine E.regionP (s0:=s0) (k0:=k0) (v0:=v0) hm hF ds (fun i=>al.contains i) (Hat (ks.map Pk.H)) hback.1.1 hback.1.2 (by simpa using hn) hds hap hk0 hv0 (fun i w w' v h hb=>ma.at (ks.map Pk.H) (nf ks) i w w' v h hb) (fun i w v h=>kM.at al hA i w v h) ?_ tail
 intro i o hi ho a' w' hF' hb hd hol
 have h1:(l.take n)[i]?=some o:=by
  rw[List.getElem?_take,if_pos hi]
  simpa using ho
 have h2:=kS.at _ _ steps i o h1
 rw[Nat.zero_add] at h2
 by_cases e:i=i0
 ·subst e
  rw[show Nat.beq i i=true by simp,cond_true] at h2
  exact h2 a' w' (hF'.add (hol hback.2)) hb hd
 ·rw[show Nat.beq i i0=false from Bool.eq_false_iff.2 fun k=>e (Nat.eq_of_beq_eq_true k),cond_false] at h2
  exact h2 a' w' hF' hb hd
end
end Go.Proofs.YtnljadejcfgmaaaGreatDoor
