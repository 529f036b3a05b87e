import Derived.Test.YtgdpkknapcgcbaaGreatDoorKD11
namespace Go.Proofs.YtgdpkknapcgcbaaGreatDoor
open Go.RowKit
set_option maxRecDepth 100000
set_option linter.unusedVariables false
set_option maxHeartbeats 8000000
section
section
inductive Pk where
 |ex (v:Value)
 |of (H:World->Value->Prop) (m:Mb H)
 |no
def Pk.H:Pk->World->Value->Prop
 | .ex v=>fun _ u=>u=v
 | .of H _=>H
 | .no =>fun _ _=>True
theorem Pk.mb:∀k:Pk,Mb k.H
 | .ex v=>Mb.eq v
 | .of _ m=>m
 | .no =>Mb.any
def Ret (k:Pk) (w:World):Ending->World->Prop:=fun e w'=>∃v,e= .returned v/\k.H w' v/\Below w.heap.size w w'
def mc (t:Nat):Nat->List Nat->Option Nat
 |_,[]=>none
 |i,x::l=>bif Nat.beq t x then some i else mc t (i+1) l
def lkp (t:Nat):List (Nat×Value)->Option Value
 |[]=>none
 |p::l=>bif Nat.beq t p.1 then some p.2 else lkp t l
def ti (L:List (Nat×Value)) (ds:List Nat) (ks:List Pk):Operand->Pk
 | .const v=> .ex v
 | .tmp t=>match mc t 0 ds with
  |some i=>(ks[i]?).getD .no
  |none=>match lkp t L with
   |some v=> .ex v
   |none=> .no
 |_=> .no
def Obl (P:Program) (L:List (Nat×Value)) (ds:List Nat) (ks:List Pk) (f:FuncId) (k:Pk) (w':World):List Operand->List Value->Prop
 |[],vs=>Calls P f vs.toArray w' (Ret k w')
 |x::r,vs=>match ti L ds ks x with
  | .ex v=>Obl P L ds ks f k w' r (vs++[v])
  | .of H _=>∀u,H w' u->Obl P L ds ks f k w' r (vs++[u])
  | .no =>False
def lw (af:Array Edge) (ds:List Nat):Operand->Bool
 | .tmp t=>match mc t 0 ds with
  |some i=>af.toList.any fun e=>Nat.beq e.on i && Region.binds .any e
  |none=>true
 |_=>true
theorem qJ {t:Nat}:∀(l:List Nat) (k i:Nat),mc t k l=some i->∃j,i=k+j/\l[j]?=some t
 |[],_,_,h=>by cases h
 |x::l,k,i,h=>by
  unfold mc at h
  by_cases e:t=x
  ·subst e
   rw[show Nat.beq t t=true by simp,cond_true] at h
   injection h with h
   exact⟨0,h.symm,rfl⟩
  ·rw[show Nat.beq t x=false from Bool.eq_false_iff.2 fun k=>e (Nat.eq_of_beq_eq_true k),cond_false] at h
   obtain⟨j,h1,h2⟩:=qJ l (k+1) i h
   exact⟨j+1,by omega,by simpa using h2⟩
theorem sE {t:Nat} {v:Value}:∀(L:List (Nat×Value)),lkp t L=some v->(t,v)∈L
 |[],h=>by cases h
 |p::l,h=>by
  unfold lkp at h
  by_cases e:t=p.1
  ·subst e
   rw[show Nat.beq p.1 p.1=true by simp,cond_true] at h
   injection h with h
   subst h
   exact List.mem_cons_self
  ·rw[show Nat.beq t p.1=false from Bool.eq_false_iff.2 fun k=>e (Nat.eq_of_beq_eq_true k),cond_false] at h
   exact List.mem_cons_of_mem _ (sE l h)
theorem kt (ks:List Pk) (i:Nat):Hat (ks.map Pk.H) i=((ks[i]?).getD .no).H :=by
 unfold Hat
 rw[List.getElem?_map]
 cases ks[i]? <;> rfl
theorem rT {nt:Nat} {a':Act} {w':World} {L:List (Nat×Value)} {ds:List Nat} {ks:List Pk} {af:Array Edge} (hF:Fr nt a' L)
 (hd:∀(e:Edge) (s:Nat),e∈af->Region.binds .any e=true->ds[e.on]?=some s->Hat (ks.map Pk.H) e.on w' (a'.tmps.getD s undef)) (x:Operand) (he:lw af ds x=true):(ti L ds ks x).H w' (a'.eval x):=by
 cases x with
 |const v=>rfl
 |tmp t=>
  show Pk.H (match mc t 0 ds with|some i=>(ks[i]?).getD .no |none=>match lkp t L with|some v=> .ex v|none=> .no) w' (a'.tmps.getD t undef)
  have he:(match mc t 0 ds with|some i=>af.toList.any fun e=>Nat.beq e.on i && Region.binds .any e|none=>true)=true:=he
  cases hi:mc t 0 ds with
  |some i=>
   rw[hi] at he
   obtain⟨e,hm,hb⟩:=List.any_eq_true.1 he
   obtain⟨j,h1,h2⟩:=qJ ds 0 i hi
   rw[Bool.and_eq_true] at hb
   have ho:e.on=i:=Nat.eq_of_beq_eq_true hb.1
   have:=hd e t (by simpa using hm) hb.2 (by rw[ho,h1,Nat.zero_add];exact h2)
   rw[kt,ho] at this
   exact this
  |none=>
   cases hl:lkp t L with
   |some v=>exact hF.all (t,v) (sE L hl)
   |none=>trivial
 |global g=>trivial
 |func f=>trivial
theorem Obl.call {P:Program} {nt:Nat} {a':Act} {w':World} {L:List (Nat×Value)} {ds:List Nat} {ks:List Pk} {af:Array Edge} {f:FuncId} {k:Pk} (hF:Fr nt a' L)
 (hd:∀(e:Edge) (s:Nat),e∈af->Region.binds .any e=true->ds[e.on]?=some s->Hat (ks.map Pk.H) e.on w' (a'.tmps.getD s undef)):
 ∀(xs:List Operand) (vs:List Value),xs.all (lw af ds)=true->Obl P L ds ks f k w' xs vs->Calls P f (vs++xs.map a'.eval).toArray w' (Ret k w')
 |[],vs,_,h=>by rw[List.map_nil,List.append_nil];exact h
 |x::r,vs,hc,h=>by
  rw[List.all_cons,Bool.and_eq_true] at hc
  have ha:=rT hF hd x hc.1
  unfold Obl at h
  have e:vs++(x::r).map a'.eval=(vs++[a'.eval x])++r.map a'.eval:=by simp
  rw[e]
  cases hk:ti L ds ks x with
  |ex v=>
   rw[hk] at h ha
   have ha:a'.eval x=v:=ha
   rw[ha]
   exact Obl.call hF hd r _ hc.2 h
  |of H m=>
   rw[hk] at h ha
   exact Obl.call hF hd r _ hc.2 (h _ ha)
  |no=>rw[hk] at h;exact h.elim
def sw (P:Program) (f:FuncId):Prop:=∃fn,P.funcs[f]?=some fn/\(fn.name == "runtime.NumGoroutine")=false/\fn.body.isNone=false
section
variable {P:Program} {ops:Array Oper} {Q:Exit->Act->World->Prop} {nt:Nat} {L:List (Nat×Value)} {W:World} {ds:List Nat} {ks:List Pk} {al:List Nat} {i:Nat} {dst:Option Tmp} {ty:TypeId} {pos:String} {af:Array Edge}
theorem ck {f:FuncId} {xs:Array Operand} {ts:Array TypeId} {k:Pk} {W0:World} {bs:List (Nat×List Value)} {fs:List (World->Prop)} (st:St W0 W bs fs) (hk:sw P f) (hc:(xs.toList.all (lw af ds) && !al.contains i,ks[i]?)=(true,some k)) (ob:∀w',St W0 w' bs fs->Obl P L ds ks f k w' xs.toList []):
 eC P ops Q nt L W ds (ks.map Pk.H) al i ⟨dst,.call ⟨.value (.func f),xs,ts⟩,ty,pos,af,none⟩:=by
 intro a' w' hF hb hd
 have hi:=congrArg Prod.snd hc
 replace hc:=congrArg Prod.fst hc
 simp only at hc hi
 rw[Bool.and_eq_true,Bool.not_eq_true'] at hc
 obtain⟨fn,h1,h2,h3⟩:=hk
 have h:=Obl.call hF hd xs.toList [] hc.1 (ob w' (st.to hb))
 rw[List.nil_append,show(xs.toList.map a'.eval).toArray =xs.map a'.eval from by rw[<-Array.toList_map,Array.toArray_toList]] at h
 refine dh (bF rfl) (bA.calls (sZ h1 h2 h3 rfl) h ?_)
 rintro e w'' ⟨v,e1,e2,e3⟩
 exact⟨v,e1,by rw[kt,hi];exact e2,e3,fun x=>by rw[hc.2] at x;cases x⟩
theorem rd {op:Op} {v:Value} (ha:al.contains i=false) (hi:ks[i]?=some (.ex v)) (hr:∀(a':Act) (w':World),Fr nt a' L->Below W.heap.size W w'->(execOp a'.eval ⟨dst,op,ty,pos,af,none⟩).run P w'= .ok (.value v) w'):
 eC P ops Q nt L W ds (ks.map Pk.H) al i ⟨dst,op,ty,pos,af,none⟩:=by
 intro a' w' hF hb hd
 exact dh (bF rfl) (bA.vals (hr a' w' hF hb) ⟨by rw[kt,hi];rfl,Below.refl _ _,fun x=>by rw[ha] at x;cases x⟩)
theorem rv {x:Operand} {k:Pk} (h:(lw af ds x && !al.contains i,ks[i]?,ti L ds ks x)=(true,some k,k)):
 eC P ops Q nt L W ds (ks.map Pk.H) al i ⟨dst,.assign x,ty,pos,af,none⟩:=by
 intro a' w' hF hb hd
 simp only [Prod.mk.injEq] at h
 obtain⟨h1,h2,h3⟩:=h
 rw[Bool.and_eq_true,Bool.not_eq_true'] at h1
 exact dh (bF rfl) (bA.vals (aQ rfl) ⟨by rw[kt,h2,<-h3];exact rT hF hd x h1.1,Below.refl _ _,fun y=>by rw[h1.2] at y;cases y⟩)
theorem rb {T:TypeId} {x:Operand} {n g:Nat} {zs cs:List Value} {bs:List (Nat×List Value)} {fs:List (World->Prop)} {W0:World} {s:Nat} (st:St W0 W bs fs) (hT:Ty P T n zs) (j b:Nat) (h:(x,L[j]?,bs[b]?,cs.length,al.contains i,ks[i]?)=(.tmp s,some (s,.pointer (some ⟨g,0,none⟩)),some (g,cs),n,false,some (.ex (.agg cs.toArray)))):
 eC P ops Q nt L W ds (ks.map Pk.H) al i ⟨dst,.load T x,ty,pos,af,none⟩:=by
 simp only [Prod.mk.injEq] at h
 obtain⟨hx,hj,hb,hn,ha,hi⟩:=h
 exact rd ha hi fun a' w' hF hbl=>by
  subst hx
  exact ar (hF.at j hj) (bh hT ((st.bk b hb).below hbl) hn)
theorem qm:∀ks:List Pk,lD (ks.map Pk.H)
 |[]=>trivial
 |k::l=>⟨k.mb,qm l⟩
end
def Rl (q:Rat) (k:Nat) (w:World) (v:Value):Prop:=Rq w v q/\ag q k
theorem Rl.mb (q:Rat) (k:Nat):Mb (Rl q k):=fun _ _ _ h hb=>⟨h.1.below hb,h.2⟩
theorem Rl.cl {q:Rat} {k:Nat} (v:Value):Cl fun w=>Rl q k w v:=fun _ _ h kp=>⟨h.1.keep kp,h.2⟩
theorem Rl.below {q:Rat} {k:Nat} {w w':World} {v:Value} (h:Rl q k w v) (hb:Below w.heap.size w w'):Rl q k w' v:=⟨h.1.below hb,h.2⟩
abbrev kq (q:Rat) (k:Nat):Pk:= .of (Rl q k) (Rl.mb q k)
theorem aB {P:Program} {f:FuncId} {args:Array Value} {w:World} {q:Rat} {k:Nat} (h:Calls P f args w (yi w q)) (l:ag q k):Calls P f args w (Ret (kq q k) w):=h.mono fun _ _ ⟨v,e,h,b⟩=>⟨v,e,⟨h,l⟩,b⟩
def Wl (z:Int) (k:Nat) (w:World) (v:Value):Prop:=Wc w v z/\Lim z.natAbs k
theorem Wl.mb (z:Int) (k:Nat):Mb (Wl z k):=fun _ _ _ h hb=>⟨h.1.below hb,h.2⟩
theorem Wl.cl {z:Int} {k:Nat} (v:Value):Cl fun w=>Wl z k w v:=fun _ _ h kp=>⟨h.1.keep kp,h.2⟩
abbrev kw (z:Int) (k:Nat):Pk:= .of (Wl z k) (Wl.mb z k)
theorem da {P:Program} {f:FuncId} {args:Array Value} {w:World} {z:Int} {k:Nat} (h:Calls P f args w (d8 w z)) (l:Lim z.natAbs k):Calls P f args w (Ret (kw z k) w):=h.mono fun _ _ ⟨v,e,h,b⟩=>⟨v,e,⟨h,l⟩,b⟩
theorem bJ {P:Program} {f:FuncId} {args:Array Value} {w:World} {v:Value} (h:Calls P f args w fun e w'=>e= .returned v/\Below w.heap.size w w'):Calls P f args w (Ret (.ex v) w):=h.mono fun _ _ ⟨e,b⟩=>⟨v,e,rfl,b⟩
theorem jd {P:Program} {f:FuncId} {args:Array Value} {w:World} {H:World->Value->Prop} {m:Mb H} (h:Calls P f args w fun e w'=>∃v,e= .returned v/\H w' v/\Below w.heap.size w w'):Calls P f args w (Ret (.of H m) w):=h
section
variable {P:Program} {ops:Array Oper} {Q:Exit->Act->World->Prop} {W w:World} {bs:List (Nat×List Value)} {fs:List (World->Prop)} {nt d s:Nat} {L:List (Nat×Value)} {rest:List Oper} {a:Act} {x:Value} {ds:List Nat} {Hs:List (World->Value->Prop)} {H:World->Value->Prop}
theorem rgc {f:FuncId} {xs:Array Operand} {ts:Array TypeId} {args:Array Value} {dst:Option Tmp} {gd:Option (Nat×Bool)} {ty:TypeId} {pos:String} {af:Array Edge} (k:sw P f) (h:xs.map a.eval=args):(execOp a.eval ⟨dst,.call ⟨.value (.func f),xs,ts⟩,ty,pos,af,gd⟩).run P w= .ok (.enter f args) w:=by
 obtain⟨fn,h1,h2,h3⟩:=k
 exact sZ h1 h2 h3 h
theorem rg2 {b c:Bool} (h:(b && c)=true):b=true/\c=true:=by rwa[Bool.and_eq_true] at h
theorem S.ck {f:FuncId} {args:Array Value} {m:Mb H} {op:Op} {ty:TypeId} {pos:String} {af:Array Edge} (st:St W w bs fs) (hF:Fr nt a L) (hr:(execOp a.eval ⟨some d,op,ty,pos,af,none⟩).run P w= .ok (.enter f args) w) (hc:Calls P f args w (Ret (.of H m) w)) (hcl:∀v,Cl fun w=>H w v) (hk:(Nat.blt d nt && a5 d L)=true)
 (k:∀v w' a',St W w' bs ((fun w=>H w v)::fs)->Fr nt a' ((d,v)::L)->wpS P ops Q rest a' w'):wpS P ops Q (⟨some d,op,ty,pos,af,none⟩::rest) a w:=
 S.call (H:=fun v w=>H w v) st hF hr hc (fun _ _ h=>h) hcl rfl rfl (rg2 hk).1 (rg2 hk).2 k
theorem rE (hall:∀(i s:Nat),ds[i]?=some s->Hat Hs i w (a.tmps.getD s undef)) (hF:Fr nt a L) (i:Nat) (hs:ds[i]?=some s) (hH:Hs[i]?=some fun _ v=>v=x):Fr nt a ((s,x)::L):=hF.add (sSe hall i s hs hH)
theorem rS (hall:∀(i s:Nat),ds[i]?=some s->Hat Hs i w (a.tmps.getD s undef)) (hF:Fr nt a L) (st:St W w bs fs) (i:Nat) (hs:ds[i]?=some s) (hH:Hs[i]?=some H) (hc:∀v,Cl fun w=>H w v):∃v,Fr nt a ((s,v)::L)/\St W w bs ((fun w=>H w v)::fs):=by
 obtain⟨v,e,h⟩:=sS hall i s hs hH
 exact⟨v,hF.add e,st.add h (hc v)⟩
end
section
variable {P:Program} {ops:Array Oper} {Q:Exit->Act->World->Prop} {nt:Nat} {L:List (Nat×Value)} {W:World} {ds:List Nat} {ks:List Pk} {al:List Nat} {i s:Nat} {dst:Option Tmp} {ty:TypeId} {pos:String} {af:Array Edge} {v:Value}
theorem rm (j:Nat) (h:(L[j]?,al.contains i,ks[i]?)=(some (s,v),false,some (.ex v))):eC P ops Q nt L W ds (ks.map Pk.H) al i ⟨dst,.move (.tmp s),ty,pos,af,none⟩:=by
 simp only [Prod.mk.injEq] at h
 exact rd h.2.1 h.2.2 fun a' w' hF _=>aG (hF.at j h.1)
end
def tS (W:World) (zs:List Value) (w:World) (v:Value):Prop:=∃g,v= .pointer (some ⟨g,0,none⟩)/\W.heap.size<=g/\Own w g zs
theorem tS.mb (W:World) (zs:List Value):Mb (tS W zs):=fun _ _ _ ⟨g,e,l,o⟩ hb=>⟨g,e,l,o.below hb⟩
abbrev kn (W:World) (zs:List Value):Pk:= .of (tS W zs) (tS.mb W zs)
def tY (W:World) (zs:List Value) (w:World) (v:Value):Prop:=∃g,v= .pointer (some ⟨g,0,none⟩)/\W.heap.size<=g/\Blk w g zs
theorem tY.mb (W:World) (zs:List Value):Mb (tY W zs):=fun _ _ _ ⟨g,e,l,o⟩ hb=>⟨g,e,l,o.below hb⟩
abbrev kb (W:World) (zs:List Value):Pk:= .of (tY W zs) (tY.mb W zs)
section
variable {P:Program} {ops:Array Oper} {Q:Exit->Act->World->Prop} {nt n:Nat} {L:List (Nat×Value)} {W:World} {ds:List Nat} {ks:List Pk} {al:List Nat} {i d:Nat} {ty:TypeId} {pos:String} {af:Array Edge} {T:TypeId} {zs:List Value}
theorem ra (hT:Ty P T n zs) (hc:zs.all bR=true) (h:(ks[i]?,al.contains i)=(some (kn W zs),true)):eC P ops Q nt L W ds (ks.map Pk.H) al i ⟨some d,.alloc T,ty,pos,af,none⟩:=by
 simp only [Prod.mk.injEq] at h
 intro a' w' hF' hb hd
 have hH:(ks.map Pk.H)[i]?=some (tS W zs):=by rw[List.getElem?_map,h.1];rfl
 exact da0 hT hc hb.size hH
theorem rai (hT:Ty P T n zs) (h:(ks[i]?,al.contains i)=(some (kb W zs),true)):eC P ops Q nt L W ds (ks.map Pk.H) al i ⟨some d,.alloc T,ty,pos,af,none⟩:=by
 simp only [Prod.mk.injEq] at h
 intro a' w' hF' hb hd
 have hH:(ks.map Pk.H)[i]?=some (tY W zs):=by rw[List.getElem?_map,h.1];rfl
 exact IX hT hb.size hH
end
section
variable {P:Program} {Q:Exit->Act->World->Prop}
theorem E.rg {nt id:Nat} (n:Nat) {l:List Oper} {L:List (Nat×Value)} {a:Act} {w:World} (hm:P.follows .mixedOrders =true) (hF:Fr nt a L) (ds:List Nat) (ks:List Pk) (hback:(cT l.toArray && dM l.toArray n)=true) (hn:Nat.ble n l.length=true) (hds:dQ l.toArray n=ds.map some) (hap:fD ds nt L=true)
 (steps:gK P l.toArray Q nt L w ds (ks.map Pk.H) [] 0 (l.take n))
 (tail:∀(a':Act) (w':World),Fr nt a' L->Below w.heap.size w w'->(∀(i s:Nat),ds[i]?=some s->Hat (ks.map Pk.H) i w' (a'.tmps.getD s undef))->wpS P l.toArray Q (l.drop n) a' w'):
 (Code.region id l.toArray true).wp P Q a w:=by
 rw[Bool.and_eq_true] at hback
 exact E.drawn n hm hF ds (ks.map Pk.H) [] hback.1 hback.2 hn hds hap (qm ks) trivial steps fun a' w' h1 h2 h3 _=>tail a' w' h1 h2 h3
theorem E.rga {nt id:Nat} (n:Nat) {l:List Oper} {L:List (Nat×Value)} {a:Act} {w:World} (hm:P.follows .mixedOrders =true) (hF:Fr nt a L) (ds:List Nat) (ks:List Pk) (al:List Nat) (hA:lE (ks.map Pk.H) al) (hback:(cT l.toArray && dM l.toArray n)=true) (hn:Nat.ble n l.length=true) (hds:dQ l.toArray n=ds.map some) (hap:fD ds nt L=true)
 (steps:gK P l.toArray Q nt L w ds (ks.map Pk.H) al 0 (l.take n))
 (tail:∀(a':Act) (w':World),Fr nt a' L->Below w.heap.size w w'->(∀(i s:Nat),ds[i]?=some s->Hat (ks.map Pk.H) i w' (a'.tmps.getD s undef))->
   (∀(i j s t:Nat),al.contains i=true->al.contains j=true->i≠j->ds[i]?=some s->ds[j]?=some t->a'.tmps.getD s undef≠a'.tmps.getD t undef)->wpS P l.toArray Q (l.drop n) a' w'):
 (Code.region id l.toArray true).wp P Q a w:=by
 rw[Bool.and_eq_true] at hback
 exact E.drawn n hm hF ds (ks.map Pk.H) al hback.1 hback.2 hn hds hap (qm ks) hA steps tail
end
section
variable {Q:Exit->Act->World->Prop} {a:Act} {w:World}
theorem E.pastr {R:Act->World->Prop} (h:Q .ret a w):Exit.then R Q .ret a w:=h
theorem E.jumpr {l:Nat} {J:Act->World->Prop} (h:Q .ret a w):Exit.jump l J Q .ret a w:=h
end
end
end
class K7 (H:World->Value->Prop):Prop where
 cl:∀v,Cl fun w=>H w v
 sh:∀w v,H w v->∃r:R7,v=r.v
instance k7l {q:Rat} {k:Nat}:K7 (Rl q k):=⟨Rl.cl,fun _ _ h=>Rq.fo h.1⟩
theorem ksH {ks:List Pk} {i:Nat} {H:World->Value->Prop} {M:Mb H} (h:ks[i]?=some (.of H M)):(ks.map Pk.H)[i]?=some H:=by rw[List.getElem?_map,h];rfl
section
variable {P:Program} {Q:Exit->Act->World->Prop} {nt id s t g:Nat} {l rest:List Oper} {L:List (Nat×Value)} {a:Act} {W w:World} {bs:List (Nat×List Value)} {fs:List (World->Prop)} {T:TypeId} {ty:TypeId} {pos:String} {af:Array Edge} {zs cs:List Value} {H:World->Value->Prop} {M:Mb H}
theorem gz1 (n:Nat) (hm:P.follows .mixedOrders =true) (st:St W w bs fs) (hF:Fr nt a L) (hT:Ty P T 3 zs) (ds:List Nat) (ks:List Pk) (hb:(cT l.toArray && dM l.toArray n)=true) (hn:(Nat.ble n l.length && fD ds nt L)=true) (hds:dQ l.toArray n=ds.map some)
 (hx:(l.drop n,ds[n-2]?,ds[n-1]?,ks[n-2]?,ks[n-1]?,Nat.beq zs.length 3 && zs.all bR)=(⟨none,.store T (.tmp t) (.tmp s),ty,pos,af,none⟩::rest,some s,some t,some (.of H M),some (kn w zs),true)) [K:K7 H]
 (steps:gK P l.toArray Q nt L w ds (ks.map Pk.H) [n-1] 0 (l.take n))
 (k:∀(r:R7) (g:Nat) (w':World) (a':Act),St W w' ((g,r.l)::bs) ((fun w=>H w r.v)::fs)->Fr nt a' ((t,.pointer (some ⟨g,0,none⟩))::(s,r.v)::L)->wpS P l.toArray Q rest a' w'):
 (Code.region id l.toArray true).wp P Q a w:=by
 simp only [Prod.mk.injEq] at hx
 obtain⟨h1,h2,h3,h4,h5,h6⟩:=hx
 have hH:=ksH h4
 have hN:=ksH h5
 refine E.rga n hm hF ds ks [n-1] ⟨fun w v h=>?_,trivial⟩ hb (b8 hn).1 hds (b8 hn).2 steps ?_
 ·unfold Hat at h
  rw[hN] at h
  obtain⟨g,e,_,o⟩:=h
  exact⟨g,e,o.lt⟩
 ·intro a' w' hF' bb hall _
  obtain⟨v,e,hv⟩:=sS hall (n-2) s h2 hH
  obtain⟨r,rfl⟩:=K.sh _ _ hv
  obtain⟨_,e2,g,rfl,ge,o⟩:=sS hall (n-1) t h3 hN
  rw[h1]
  exact so (((st.to bb).add hv (K.cl _)).push o.blk (Nat.le_trans st.bel.size ge) (st.ne ge)) ((hF'.add e).add e2) 0 0 1 hT rfl rfl rfl (by rw[(b8 h6).1,(b8 h6).2];rfl) (k r g)
theorem gz2 (n:Nat) (hm:P.follows .mixedOrders =true) (st:St W w bs fs) (hF:Fr nt a L) (hT:Ty P T 3 zs) (b p:Nat) (ds:List Nat) (ks:List Pk) (hb:(cT l.toArray && dM l.toArray n)=true) (hn:(Nat.ble n l.length && fD ds nt L)=true) (hds:dQ l.toArray n=ds.map some)
 (hx:(l.drop n,ds[n-1]?,ks[n-1]?,bs[b]?,L[p]?,Nat.beq cs.length 3 && cs.all bR)=(⟨none,.store T (.tmp t) (.tmp s),ty,pos,af,none⟩::rest,some s,some (.of H M),some (g,cs),some (t,.pointer (some ⟨g,0,none⟩)),true)) [K:K7 H]
 (steps:gK P l.toArray Q nt L w ds (ks.map Pk.H) [] 0 (l.take n))
 (k:∀(r:R7) (w':World) (a':Act),St W w' (bs.set b (g,r.l)) ((fun w=>H w r.v)::fs)->Fr nt a' ((s,r.v)::L)->wpS P l.toArray Q rest a' w'):
 (Code.region id l.toArray true).wp P Q a w:=by
 simp only [Prod.mk.injEq] at hx
 obtain⟨h1,h2,h4,h5,h7,h6⟩:=hx
 have hH:=ksH h4
 refine E.rg n hm hF ds ks hb (b8 hn).1 hds (b8 hn).2 steps ?_
 intro a' w' hF' bb hall
 obtain⟨v,e,hv⟩:=sS hall (n-1) s h2 hH
 obtain⟨r,rfl⟩:=K.sh _ _ hv
 rw[h1]
 exact so ((st.to bb).add hv (K.cl _)) (hF'.add e) b (p+1) 0 hT h5 h7 rfl (by rw[(b8 h6).1,(b8 h6).2];rfl) (k r)
end
abbrev KO (f:FuncId):Prop:=sw Tryz.prog f
theorem ko {f:FuncId} {fn:Func} (h:Tryz.prog.funcs[f]?=some fn) (g:(!(fn.name=="runtime.NumGoroutine") && !fn.body.isNone)=true:=by decide+kernel):KO f:=⟨fn,h,by simpa using (b8 g).1,by simpa using (b8 g).2⟩
theorem Gy:KO 170:=ko Tryz.func170
theorem k98:KO 98:=ko Tryz.func98
theorem k94:KO 94:=ko Tryz.func94
theorem k97:KO 97:=ko Tryz.func97
theorem k96:KO 96:=ko Tryz.func96
theorem I4:KO 102:=ko Tryz.func102
theorem F2:KO 100:=ko Tryz.func100
theorem k99:KO 99:=ko Tryz.func99
theorem GD:KO 253:=ko Tryz.func253
theorem zV:KO 254:=ko Tryz.func254
theorem IW:KO 128:=ko Tryz.func128
theorem k83:KO 83:=ko Tryz.func83
theorem Jc:KO 147:=ko Tryz.func147
theorem k79:KO 79:=ko Tryz.func79
theorem II:KO 154:=ko Tryz.func154
theorem Is:KO 157:=ko Tryz.func157
theorem tz:KO 150:=ko Tryz.func150
theorem k44:KO 44:=ko Tryz.func44
theorem k32:KO 32:=ko Tryz.func32
theorem It:KO 101:=ko Tryz.func101
theorem k38:KO 38:=ko Tryz.func38
theorem wU:KO 169:=ko Tryz.func169
theorem F6:KO 171:=ko Tryz.func171
theorem E6:KO 112:=ko Tryz.func112
theorem k39:KO 39:=ko Tryz.func39
theorem k91:KO 91:=ko Tryz.func91
theorem Gw:KO 160:=ko Tryz.func160
theorem Gl:KO 208:=ko Tryz.func208
theorem k64:KO 64:=ko Tryz.func64
theorem v8:KO 148:=ko Tryz.func148
theorem k66:KO 66:=ko Tryz.func66
theorem k54:KO 54:=ko Tryz.func54
theorem k80:KO 80:=ko Tryz.func80
theorem jN:KO 146:=ko Tryz.func146
theorem k93:KO 93:=ko Tryz.func93
theorem k82:KO 82:=ko Tryz.func82
theorem k92:KO 92:=ko Tryz.func92
theorem Jd:KO 215:=ko Tryz.func215
theorem IC:KO 159:=ko Tryz.func159
theorem k47:KO 47:=ko Tryz.func47
theorem IP:KO 110:=ko Tryz.func110
theorem I1:KO 108:=ko Tryz.func108
theorem k41:KO 41:=ko Tryz.func41
theorem k43:KO 43:=ko Tryz.func43
theorem k49:KO 49:=ko Tryz.func49
theorem k46:KO 46:=ko Tryz.func46
theorem FW:KO 127:=ko Tryz.func127
theorem IQ:KO 209:=ko Tryz.func209
theorem jO:KO 158:=ko Tryz.func158
theorem I7:KO 106:=ko Tryz.func106
section
section
section
variable {P:Program} {f:FuncId} {args:Array Value} {w:World}
abbrev kDg (N:Nat):Pk:= .of (fun w v=>Dg w .u32 B32 v N) (fun _ _ _ h hb=>h.below hb)
abbrev kWc (z:Int):Pk:= .of (fun w v=>Wc w v z) (fun _ _ _ h hb=>h.below hb)
theorem bp {N:Nat} (h:Calls P f args w (gv w N)):Calls P f args w (Ret (kDg N) w):=h
theorem ep {z:Int} (h:Calls P f args w (d8 w z)):Calls P f args w (Ret (kWc z) w):=h
end
section
variable {P:Program} {ops:Array Oper} {Q:Exit->Act->World->Prop} {nt:Nat} {L:List (Nat×Value)} {W:World} {ds:List Nat} {ks:List Pk} {al:List Nat} {i:Nat} {dst:Option Tmp} {ty:TypeId} {pos:String} {af:Array Edge}
theorem rfd {T:TypeId} {x:Operand} {f s g o p:Nat} (j:Nat) (fa:∀w:World,(Instr.fieldAt T (.pointer (some ⟨g,o,none⟩)) f).run P w= .ok (.pointer (some ⟨g,p,none⟩)) w) (h:(x,L[j]?,al.contains i,ks[i]?)=(.tmp s,some (s,.pointer (some ⟨g,o,none⟩)),false,some (.ex (.pointer (some ⟨g,p,none⟩))))):
 eC P ops Q nt L W ds (ks.map Pk.H) al i ⟨dst,.fieldAddr T x f,ty,pos,af,none⟩:=by
 simp only [Prod.mk.injEq] at h
 obtain⟨hx,hj,ha,hi⟩:=h
 exact rd ha hi fun a' w' hF hb=>by
  subst hx
  exact au (hF.at j hj) (fa w')
theorem rld {T:TypeId} {x:Operand} {g o:Nat} {v:Value} (h:(lw af ds x && !al.contains i,ks[i]?,ti L ds ks x)=(true,some (.ex v),.ex (.pointer (some ⟨g,o,none⟩)))) (hl:∀w':World,Below W.heap.size W w'->(Instr.loadAt T (.pointer (some ⟨g,o,none⟩))).run P w'= .ok v w'):
 eC P ops Q nt L W ds (ks.map Pk.H) al i ⟨dst,.load T x,ty,pos,af,none⟩:=by
 intro a' w' hF hb hd
 simp only [Prod.mk.injEq] at h
 obtain⟨h1,h2,h3⟩:=h
 rw[Bool.and_eq_true,Bool.not_eq_true'] at h1
 have hx:=rT hF hd x h1.1
 rw[h3] at hx
 exact dh (bF rfl) (bA.vals (ar hx (hl w' hb)) ⟨by rw[kt,h2];rfl,Below.refl _ _,fun y=>by rw[h1.2] at y;cases y⟩)
end
end
end
end Go.Proofs.YtgdpkknapcgcbaaGreatDoor
