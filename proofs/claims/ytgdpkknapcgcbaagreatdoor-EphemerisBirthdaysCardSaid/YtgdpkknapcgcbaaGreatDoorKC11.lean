import Derived.Test.YtgdpkknapcgcbaaGreatDoorKC10
namespace Go.Proofs.YtgdpkknapcgcbaaGreatDoor
open Go.RowKit
set_option maxRecDepth 100000
set_option linter.unusedVariables false
set_option maxHeartbeats 8000000
section
section
inductive Pk where
 |ex (v:Value)
 |of (H:World->Value->Prop) (m:Mb H)
 |no
def Pk.H:Pk->World->Value->Prop
 | .ex v=>fun _ u=>u=v
 | .of H _=>H
 | .no =>fun _ _=>True
theorem Pk.mb:∀k:Pk,Mb k.H
 | .ex v=>Mb.eq v
 | .of _ m=>m
 | .no =>Mb.any
def Ret (k:Pk) (w:World):Ending->World->Prop:=fun e w'=>∃v,e= .returned v/\k.H w' v/\Below w.heap.size w w'
def rq (t:Nat):Nat->List Nat->Option Nat
 |_,[]=>none
 |i,x::l=>bif Nat.beq t x then some i else rq t (i+1) l
def lkp (t:Nat):List (Nat×Value)->Option Value
 |[]=>none
 |p::l=>bif Nat.beq t p.1 then some p.2 else lkp t l
def yO (L:List (Nat×Value)) (ds:List Nat) (ks:List Pk):Operand->Pk
 | .const v=> .ex v
 | .tmp t=>match rq t 0 ds with
  |some i=>(ks[i]?).getD .no
  |none=>match lkp t L with
   |some v=> .ex v
   |none=> .no
 |_=> .no
def Obl (P:Program) (L:List (Nat×Value)) (ds:List Nat) (ks:List Pk) (f:FuncId) (k:Pk) (w':World):List Operand->List Value->Prop
 |[],vs=>Calls P f vs.toArray w' (Ret k w')
 |x::r,vs=>match yO L ds ks x with
  | .ex v=>Obl P L ds ks f k w' r (vs++[v])
  | .of H _=>∀u,H w' u->Obl P L ds ks f k w' r (vs++[u])
  | .no =>False
def qC (af:Array Edge) (ds:List Nat):Operand->Bool
 | .tmp t=>match rq t 0 ds with
  |some i=>af.toList.any fun e=>Nat.beq e.on i && Region.binds .any e
  |none=>true
 |_=>true
theorem wR {t:Nat}:∀(l:List Nat) (k i:Nat),rq t k l=some i->∃j,i=k+j/\l[j]?=some t
 |[],_,_,h=>by cases h
 |x::l,k,i,h=>by
  unfold rq at h
  by_cases e:t=x
  ·subst e
   rw[show Nat.beq t t=true by simp,cond_true] at h
   injection h with h
   exact⟨0,h.symm,rfl⟩
  ·rw[show Nat.beq t x=false from Bool.eq_false_iff.2 fun k=>e (Nat.eq_of_beq_eq_true k),cond_false] at h
   obtain⟨j,h1,h2⟩:=wR l (k+1) i h
   exact⟨j+1,by omega,by simpa using h2⟩
theorem yo {t:Nat} {v:Value}:∀(L:List (Nat×Value)),lkp t L=some v->(t,v)∈L
 |[],h=>by cases h
 |p::l,h=>by
  unfold lkp at h
  by_cases e:t=p.1
  ·subst e
   rw[show Nat.beq p.1 p.1=true by simp,cond_true] at h
   injection h with h
   subst h
   exact List.mem_cons_self
  ·rw[show Nat.beq t p.1=false from Bool.eq_false_iff.2 fun k=>e (Nat.eq_of_beq_eq_true k),cond_false] at h
   exact List.mem_cons_of_mem _ (yo l h)
theorem nU (ks:List Pk) (i:Nat):Hat (ks.map Pk.H) i=((ks[i]?).getD .no).H :=by
 unfold Hat
 rw[List.getElem?_map]
 cases ks[i]? <;> rfl
theorem zQ {nt:Nat} {a':Act} {w':World} {L:List (Nat×Value)} {ds:List Nat} {ks:List Pk} {af:Array Edge} (hF:Fr nt a' L)
 (hd:∀(e:Edge) (s:Nat),e∈af->Region.binds .any e=true->ds[e.on]?=some s->Hat (ks.map Pk.H) e.on w' (a'.tmps.getD s undef)) (x:Operand) (he:qC af ds x=true):(yO L ds ks x).H w' (a'.eval x):=by
 cases x with
 |const v=>rfl
 |tmp t=>
  show Pk.H (match rq t 0 ds with|some i=>(ks[i]?).getD .no |none=>match lkp t L with|some v=> .ex v|none=> .no) w' (a'.tmps.getD t undef)
  have he:(match rq t 0 ds with|some i=>af.toList.any fun e=>Nat.beq e.on i && Region.binds .any e|none=>true)=true:=he
  cases hi:rq t 0 ds with
  |some i=>
   rw[hi] at he
   obtain⟨e,hm,hb⟩:=List.any_eq_true.1 he
   obtain⟨j,h1,h2⟩:=wR ds 0 i hi
   rw[Bool.and_eq_true] at hb
   have ho:e.on=i:=Nat.eq_of_beq_eq_true hb.1
   have:=hd e t (by simpa using hm) hb.2 (by rw[ho,h1,Nat.zero_add];exact h2)
   rw[nU,ho] at this
   exact this
  |none=>
   cases hl:lkp t L with
   |some v=>exact hF.all (t,v) (yo L hl)
   |none=>trivial
 |global g=>trivial
 |func f=>trivial
theorem Obl.call {P:Program} {nt:Nat} {a':Act} {w':World} {L:List (Nat×Value)} {ds:List Nat} {ks:List Pk} {af:Array Edge} {f:FuncId} {k:Pk} (hF:Fr nt a' L)
 (hd:∀(e:Edge) (s:Nat),e∈af->Region.binds .any e=true->ds[e.on]?=some s->Hat (ks.map Pk.H) e.on w' (a'.tmps.getD s undef)):
 ∀(xs:List Operand) (vs:List Value),xs.all (qC af ds)=true->Obl P L ds ks f k w' xs vs->Calls P f (vs++xs.map a'.eval).toArray w' (Ret k w')
 |[],vs,_,h=>by rw[List.map_nil,List.append_nil];exact h
 |x::r,vs,hc,h=>by
  rw[List.all_cons,Bool.and_eq_true] at hc
  have ha:=zQ hF hd x hc.1
  unfold Obl at h
  have e:vs++(x::r).map a'.eval=(vs++[a'.eval x])++r.map a'.eval:=by simp
  rw[e]
  cases hk:yO L ds ks x with
  |ex v=>
   rw[hk] at h ha
   have ha:a'.eval x=v:=ha
   rw[ha]
   exact Obl.call hF hd r _ hc.2 h
  |of H m=>
   rw[hk] at h ha
   exact Obl.call hF hd r _ hc.2 (h _ ha)
  |no=>rw[hk] at h;exact h.elim
def zR (P:Program) (f:FuncId):Prop:=∃fn,P.funcs[f]?=some fn/\(fn.name == "runtime.NumGoroutine")=false/\fn.body.isNone=false
section
variable {P:Program} {ops:Array Oper} {Q:Exit->Act->World->Prop} {nt:Nat} {L:List (Nat×Value)} {W:World} {ds:List Nat} {ks:List Pk} {al:List Nat} {i:Nat} {dst:Option Tmp} {ty:TypeId} {pos:String} {af:Array Edge}
theorem ck {f:FuncId} {xs:Array Operand} {ts:Array TypeId} {k:Pk} {W0:World} {bs:List (Nat×List Value)} {fs:List (World->Prop)} (st:St W0 W bs fs) (hk:zR P f) (hc:(xs.toList.all (qC af ds) && !al.contains i,ks[i]?)=(true,some k)) (ob:∀w',St W0 w' bs fs->Obl P L ds ks f k w' xs.toList []):
 gM P ops Q nt L W ds (ks.map Pk.H) al i ⟨dst,.call ⟨.value (.func f),xs,ts⟩,ty,pos,af,none⟩:=by
 intro a' w' hF hb hd
 have hi:=congrArg Prod.snd hc
 replace hc:=congrArg Prod.fst hc
 simp only at hc hi
 rw[Bool.and_eq_true,Bool.not_eq_true'] at hc
 obtain⟨fn,h1,h2,h3⟩:=hk
 have h:=Obl.call hF hd xs.toList [] hc.1 (ob w' (st.to hb))
 rw[List.nil_append,show(xs.toList.map a'.eval).toArray =xs.map a'.eval from by rw[<-Array.toList_map,Array.toArray_toList]] at h
 refine bX (aR rfl) (bG.calls (Ap h1 h2 h3 rfl) h ?_)
 rintro e w'' ⟨v,e1,e2,e3⟩
 exact⟨v,e1,by rw[nU,hi];exact e2,e3,fun x=>by rw[hc.2] at x;cases x⟩
theorem rd {op:Op} {v:Value} (ha:al.contains i=false) (hi:ks[i]?=some (.ex v)) (hr:∀(a':Act) (w':World),Fr nt a' L->Below W.heap.size W w'->(execOp a'.eval ⟨dst,op,ty,pos,af,none⟩).run P w'= .ok (.value v) w'):
 gM P ops Q nt L W ds (ks.map Pk.H) al i ⟨dst,op,ty,pos,af,none⟩:=by
 intro a' w' hF hb hd
 exact bX (aR rfl) (bG.vals (hr a' w' hF hb) ⟨by rw[nU,hi];rfl,Below.refl _ _,fun x=>by rw[ha] at x;cases x⟩)
theorem rv {x:Operand} {k:Pk} (h:(qC af ds x && !al.contains i,ks[i]?,yO L ds ks x)=(true,some k,k)):
 gM P ops Q nt L W ds (ks.map Pk.H) al i ⟨dst,.assign x,ty,pos,af,none⟩:=by
 intro a' w' hF hb hd
 simp only [Prod.mk.injEq] at h
 obtain⟨h1,h2,h3⟩:=h
 rw[Bool.and_eq_true,Bool.not_eq_true'] at h1
 exact bX (aR rfl) (bG.vals (aZ rfl) ⟨by rw[nU,h2,<-h3];exact zQ hF hd x h1.1,Below.refl _ _,fun y=>by rw[h1.2] at y;cases y⟩)
theorem rb {T:TypeId} {x:Operand} {n g:Nat} {zs cs:List Value} {bs:List (Nat×List Value)} {fs:List (World->Prop)} {W0:World} {s:Nat} (st:St W0 W bs fs) (hT:Ty P T n zs) (j b:Nat) (h:(x,L[j]?,bs[b]?,cs.length,al.contains i,ks[i]?)=(.tmp s,some (s,.pointer (some ⟨g,0,none⟩)),some (g,cs),n,false,some (.ex (.agg cs.toArray)))):
 gM P ops Q nt L W ds (ks.map Pk.H) al i ⟨dst,.load T x,ty,pos,af,none⟩:=by
 simp only [Prod.mk.injEq] at h
 obtain⟨hx,hj,hb,hn,ha,hi⟩:=h
 exact rd ha hi fun a' w' hF hbl=>by
  subst hx
  exact ar (hF.at j hj) (bK hT ((st.bk b hb).below hbl) hn)
theorem vn:∀ks:List Pk,nJ (ks.map Pk.H)
 |[]=>trivial
 |k::l=>⟨k.mb,vn l⟩
end
def Rl (q:Rat) (k:Nat) (w:World) (v:Value):Prop:=Rq w v q/\av q k
theorem Rl.mb (q:Rat) (k:Nat):Mb (Rl q k):=fun _ _ _ h hb=>⟨h.1.below hb,h.2⟩
theorem Rl.cl {q:Rat} {k:Nat} (v:Value):Cl fun w=>Rl q k w v:=fun _ _ h kp=>⟨h.1.keep kp,h.2⟩
theorem Rl.below {q:Rat} {k:Nat} {w w':World} {v:Value} (h:Rl q k w v) (hb:Below w.heap.size w w'):Rl q k w' v:=⟨h.1.below hb,h.2⟩
abbrev kq (q:Rat) (k:Nat):Pk:= .of (Rl q k) (Rl.mb q k)
theorem bf {P:Program} {f:FuncId} {args:Array Value} {w:World} {q:Rat} {k:Nat} (h:Calls P f args w (Gj w q)) (l:av q k):Calls P f args w (Ret (kq q k) w):=h.mono fun _ _ ⟨v,e,h,b⟩=>⟨v,e,⟨h,l⟩,b⟩
def Rh (q:Rat) (k i:Nat) (w:World) (v:Value):Prop:=Rr w v q k/\av q i
theorem Rh.mb (q:Rat) (k i:Nat):Mb (Rh q k i):=fun _ _ _ h hb=>⟨h.1.below hb,h.2⟩
theorem Rh.cl {q:Rat} {k i:Nat} (v:Value):Cl fun w=>Rh q k i w v:=fun _ _ h kp=>⟨h.1.keep kp,h.2⟩
abbrev kh (q:Rat) (k i:Nat):Pk:= .of (Rh q k i) (Rh.mb q k i)
theorem bH {P:Program} {f:FuncId} {args:Array Value} {w:World} {q:Rat} {k i:Nat} (h:Calls P f args w (cf w q k)) (l:av q i):Calls P f args w (Ret (kh q k i) w):=h.mono fun _ _ ⟨v,e,h,b⟩=>⟨v,e,⟨h,l⟩,b⟩
def Wl (z:Int) (k:Nat) (w:World) (v:Value):Prop:=Wc w v z/\Lim z.natAbs k
theorem Wl.mb (z:Int) (k:Nat):Mb (Wl z k):=fun _ _ _ h hb=>⟨h.1.below hb,h.2⟩
theorem Wl.cl {z:Int} {k:Nat} (v:Value):Cl fun w=>Wl z k w v:=fun _ _ h kp=>⟨h.1.keep kp,h.2⟩
abbrev kw (z:Int) (k:Nat):Pk:= .of (Wl z k) (Wl.mb z k)
theorem eI {P:Program} {f:FuncId} {args:Array Value} {w:World} {z:Int} {k:Nat} (h:Calls P f args w (fK w z)) (l:Lim z.natAbs k):Calls P f args w (Ret (kw z k) w):=h.mono fun _ _ ⟨v,e,h,b⟩=>⟨v,e,⟨h,l⟩,b⟩
def Zl (z:Int) (k:Nat) (w:World) (v:Value):Prop:=Rz w v z/\Lim z.natAbs k
theorem Zl.mb (z:Int) (k:Nat):Mb (Zl z k):=fun _ _ _ h hb=>⟨h.1.below hb,h.2⟩
theorem Zl.cl {z:Int} {k:Nat} (v:Value):Cl fun w=>Zl z k w v:=fun _ _ h kp=>⟨h.1.keep kp,h.2⟩
abbrev kz (z:Int) (k:Nat):Pk:= .of (Zl z k) (Zl.mb z k)
theorem cP {P:Program} {f:FuncId} {args:Array Value} {w:World} {z:Int} {k:Nat} (h:Calls P f args w (ke w z)) (l:Lim z.natAbs k):Calls P f args w (Ret (kz z k) w):=h.mono fun _ _ ⟨v,e,h,b⟩=>⟨v,e,⟨h,l⟩,b⟩
theorem bD {P:Program} {f:FuncId} {args:Array Value} {w:World} {v:Value} (h:Calls P f args w fun e w'=>e= .returned v/\Below w.heap.size w w'):Calls P f args w (Ret (.ex v) w):=h.mono fun _ _ ⟨e,b⟩=>⟨v,e,rfl,b⟩
theorem gi {P:Program} {f:FuncId} {args:Array Value} {w:World} {H:World->Value->Prop} {m:Mb H} (h:Calls P f args w fun e w'=>∃v,e= .returned v/\H w' v/\Below w.heap.size w w'):Calls P f args w (Ret (.of H m) w):=h
section
variable {P:Program} {ops:Array Oper} {Q:Exit->Act->World->Prop} {W w:World} {bs:List (Nat×List Value)} {fs:List (World->Prop)} {nt d s:Nat} {L:List (Nat×Value)} {rest:List Oper} {a:Act} {x:Value} {ds:List Nat} {Hs:List (World->Value->Prop)} {H:World->Value->Prop}
theorem rgc {f:FuncId} {xs:Array Operand} {ts:Array TypeId} {args:Array Value} {dst:Option Tmp} {gd:Option (Nat×Bool)} {ty:TypeId} {pos:String} {af:Array Edge} (k:zR P f) (h:xs.map a.eval=args):(execOp a.eval ⟨dst,.call ⟨.value (.func f),xs,ts⟩,ty,pos,af,gd⟩).run P w= .ok (.enter f args) w:=by
 obtain⟨fn,h1,h2,h3⟩:=k
 exact Ap h1 h2 h3 h
theorem rg2 {b c:Bool} (h:(b && c)=true):b=true/\c=true:=by rwa[Bool.and_eq_true] at h
theorem S.ck {f:FuncId} {args:Array Value} {m:Mb H} {op:Op} {ty:TypeId} {pos:String} {af:Array Edge} (st:St W w bs fs) (hF:Fr nt a L) (hr:(execOp a.eval ⟨some d,op,ty,pos,af,none⟩).run P w= .ok (.enter f args) w) (hc:Calls P f args w (Ret (.of H m) w)) (hcl:∀v,Cl fun w=>H w v) (hk:(Nat.blt d nt && bz d L)=true)
 (k:∀v w' a',St W w' bs ((fun w=>H w v)::fs)->Fr nt a' ((d,v)::L)->wpS P ops Q rest a' w'):wpS P ops Q (⟨some d,op,ty,pos,af,none⟩::rest) a w:=
 S.call (H:=fun v w=>H w v) st hF hr hc (fun _ _ h=>h) hcl rfl rfl (rg2 hk).1 (rg2 hk).2 k
theorem S.ckg {f:FuncId} {args:Array Value} {m:Mb H} {o:Oper} (st:St W w bs fs) (hF:Fr nt a L) (hg:Region.wanted o (yielded ops a.tmps)=true) (hr:(execOp a.eval o).run P w= .ok (.enter f args) w) (hc:Calls P f args w (Ret (.of H m) w)) (hcl:∀v,Cl fun w=>H w v) (hd:o.dst=some d) (hlt:Nat.blt d nt=true) (hf:bz d L=true)
 (k:∀v w' a',St W w' bs ((fun w=>H w v)::fs)->Fr nt a' ((d,v)::L)->wpS P ops Q rest a' w'):wpS P ops Q (o::rest) a w:=
 S.callg (H:=fun v w=>H w v) st hF hg hr hc (fun _ _ h=>h) hcl hd hlt hf k
theorem rE (hall:∀(i s:Nat),ds[i]?=some s->Hat Hs i w (a.tmps.getD s undef)) (hF:Fr nt a L) (i:Nat) (hs:ds[i]?=some s) (hH:Hs[i]?=some fun _ v=>v=x):Fr nt a ((s,x)::L):=hF.add (sSe hall i s hs hH)
theorem rS (hall:∀(i s:Nat),ds[i]?=some s->Hat Hs i w (a.tmps.getD s undef)) (hF:Fr nt a L) (st:St W w bs fs) (i:Nat) (hs:ds[i]?=some s) (hH:Hs[i]?=some H) (hc:∀v,Cl fun w=>H w v):∃v,Fr nt a ((s,v)::L)/\St W w bs ((fun w=>H w v)::fs):=by
 obtain⟨v,e,h⟩:=sS hall i s hs hH
 exact⟨v,hF.add e,st.add h (hc v)⟩
end
section
variable {P:Program} {ops:Array Oper} {Q:Exit->Act->World->Prop} {nt:Nat} {L:List (Nat×Value)} {W:World} {ds:List Nat} {ks:List Pk} {al:List Nat} {i s:Nat} {dst:Option Tmp} {ty:TypeId} {pos:String} {af:Array Edge} {v:Value}
theorem rm (j:Nat) (h:(L[j]?,al.contains i,ks[i]?)=(some (s,v),false,some (.ex v))):gM P ops Q nt L W ds (ks.map Pk.H) al i ⟨dst,.move (.tmp s),ty,pos,af,none⟩:=by
 simp only [Prod.mk.injEq] at h
 exact rd h.2.1 h.2.2 fun a' w' hF _=>aD (hF.at j h.1)
end
def yJ (W:World) (zs:List Value) (w:World) (v:Value):Prop:=∃g,v= .pointer (some ⟨g,0,none⟩)/\W.heap.size<=g/\Own w g zs
theorem yJ.mb (W:World) (zs:List Value):Mb (yJ W zs):=fun _ _ _ ⟨g,e,l,o⟩ hb=>⟨g,e,l,o.below hb⟩
abbrev kn (W:World) (zs:List Value):Pk:= .of (yJ W zs) (yJ.mb W zs)
def zJ (W:World) (zs:List Value) (w:World) (v:Value):Prop:=∃g,v= .pointer (some ⟨g,0,none⟩)/\W.heap.size<=g/\Blk w g zs
theorem zJ.mb (W:World) (zs:List Value):Mb (zJ W zs):=fun _ _ _ ⟨g,e,l,o⟩ hb=>⟨g,e,l,o.below hb⟩
abbrev kb (W:World) (zs:List Value):Pk:= .of (zJ W zs) (zJ.mb W zs)
section
variable {P:Program} {ops:Array Oper} {Q:Exit->Act->World->Prop} {nt n:Nat} {L:List (Nat×Value)} {W:World} {ds:List Nat} {ks:List Pk} {al:List Nat} {i d:Nat} {ty:TypeId} {pos:String} {af:Array Edge} {T:TypeId} {zs:List Value}
theorem ra (hT:Ty P T n zs) (hc:zs.all cN=true) (h:(ks[i]?,al.contains i)=(some (kn W zs),true)):gM P ops Q nt L W ds (ks.map Pk.H) al i ⟨some d,.alloc T,ty,pos,af,none⟩:=by
 simp only [Prod.mk.injEq] at h
 intro a' w' hF' hb hd
 have hH:(ks.map Pk.H)[i]?=some (yJ W zs):=by rw[List.getElem?_map,h.1];rfl
 exact da0 hT hc hb.size hH
theorem rai (hT:Ty P T n zs) (h:(ks[i]?,al.contains i)=(some (kb W zs),true)):gM P ops Q nt L W ds (ks.map Pk.H) al i ⟨some d,.alloc T,ty,pos,af,none⟩:=by
 simp only [Prod.mk.injEq] at h
 intro a' w' hF' hb hd
 have hH:(ks.map Pk.H)[i]?=some (zJ W zs):=by rw[List.getElem?_map,h.1];rfl
 exact SR hT hb.size hH
end
section
variable {P:Program} {Q:Exit->Act->World->Prop}
theorem E.rg {nt id:Nat} (n:Nat) {l:List Oper} {L:List (Nat×Value)} {a:Act} {w:World} (hm:P.follows .mixedOrders =true) (hF:Fr nt a L) (ds:List Nat) (ks:List Pk) (hback:(dc l.toArray && eX l.toArray n)=true) (hn:Nat.ble n l.length=true) (hds:eR l.toArray n=ds.map some) (hap:gI ds nt L=true)
 (steps:jl P l.toArray Q nt L w ds (ks.map Pk.H) [] 0 (l.take n))
 (tail:∀(a':Act) (w':World),Fr nt a' L->Below w.heap.size w w'->(∀(i s:Nat),ds[i]?=some s->Hat (ks.map Pk.H) i w' (a'.tmps.getD s undef))->wpS P l.toArray Q (l.drop n) a' w'):
 (Code.region id l.toArray true).wp P Q a w:=by
 rw[Bool.and_eq_true] at hback
 exact E.drawn n hm hF ds (ks.map Pk.H) [] hback.1 hback.2 hn hds hap (vn ks) trivial steps fun a' w' h1 h2 h3 _=>tail a' w' h1 h2 h3
theorem E.rga {nt id:Nat} (n:Nat) {l:List Oper} {L:List (Nat×Value)} {a:Act} {w:World} (hm:P.follows .mixedOrders =true) (hF:Fr nt a L) (ds:List Nat) (ks:List Pk) (al:List Nat) (hA:nF (ks.map Pk.H) al) (hback:(dc l.toArray && eX l.toArray n)=true) (hn:Nat.ble n l.length=true) (hds:eR l.toArray n=ds.map some) (hap:gI ds nt L=true)
 (steps:jl P l.toArray Q nt L w ds (ks.map Pk.H) al 0 (l.take n))
 (tail:∀(a':Act) (w':World),Fr nt a' L->Below w.heap.size w w'->(∀(i s:Nat),ds[i]?=some s->Hat (ks.map Pk.H) i w' (a'.tmps.getD s undef))->
   (∀(i j s t:Nat),al.contains i=true->al.contains j=true->i≠j->ds[i]?=some s->ds[j]?=some t->a'.tmps.getD s undef≠a'.tmps.getD t undef)->wpS P l.toArray Q (l.drop n) a' w'):
 (Code.region id l.toArray true).wp P Q a w:=by
 rw[Bool.and_eq_true] at hback
 exact E.drawn n hm hF ds (ks.map Pk.H) al hback.1 hback.2 hn hds hap (vn ks) hA steps tail
end
section
variable {Q:Exit->Act->World->Prop} {a:Act} {w:World}
theorem E.pastr {R:Act->World->Prop} (h:Q .ret a w):Exit.then R Q .ret a w:=h
theorem E.pastbr {i:Nat} (h:Q .ret a w):Exit.inBlock i Q .ret a w:=h
theorem E.jumpr {l:Nat} {J:Act->World->Prop} (h:Q .ret a w):Exit.jump l J Q .ret a w:=h
end
end
end
class K7 (H:World->Value->Prop):Prop where
 cl:∀v,Cl fun w=>H w v
 sh:∀w v,H w v->∃r:R7,v=r.v
instance k7l {q:Rat} {k:Nat}:K7 (Rl q k):=⟨Rl.cl,fun _ _ h=>Rq.fo h.1⟩
instance k7h {q:Rat} {k i:Nat}:K7 (Rh q k i):=⟨Rh.cl,fun _ _ h=>Rr.fo h.1⟩
theorem ksH {ks:List Pk} {i:Nat} {H:World->Value->Prop} {M:Mb H} (h:ks[i]?=some (.of H M)):(ks.map Pk.H)[i]?=some H:=by rw[List.getElem?_map,h];rfl
section
variable {P:Program} {Q:Exit->Act->World->Prop} {nt id s t g:Nat} {l rest:List Oper} {L:List (Nat×Value)} {a:Act} {W w:World} {bs:List (Nat×List Value)} {fs:List (World->Prop)} {T:TypeId} {ty:TypeId} {pos:String} {af:Array Edge} {zs cs:List Value} {H:World->Value->Prop} {M:Mb H}
theorem gz1 (n:Nat) (hm:P.follows .mixedOrders =true) (st:St W w bs fs) (hF:Fr nt a L) (hT:Ty P T 3 zs) (ds:List Nat) (ks:List Pk) (hb:(dc l.toArray && eX l.toArray n)=true) (hn:(Nat.ble n l.length && gI ds nt L)=true) (hds:eR l.toArray n=ds.map some)
 (hx:(l.drop n,ds[n-2]?,ds[n-1]?,ks[n-2]?,ks[n-1]?,Nat.beq zs.length 3 && zs.all cN)=(⟨none,.store T (.tmp t) (.tmp s),ty,pos,af,none⟩::rest,some s,some t,some (.of H M),some (kn w zs),true)) [K:K7 H]
 (steps:jl P l.toArray Q nt L w ds (ks.map Pk.H) [n-1] 0 (l.take n))
 (k:∀(r:R7) (g:Nat) (w':World) (a':Act),St W w' ((g,r.l)::bs) ((fun w=>H w r.v)::fs)->Fr nt a' ((t,.pointer (some ⟨g,0,none⟩))::(s,r.v)::L)->wpS P l.toArray Q rest a' w'):
 (Code.region id l.toArray true).wp P Q a w:=by
 simp only [Prod.mk.injEq] at hx
 obtain⟨h1,h2,h3,h4,h5,h6⟩:=hx
 have hH:=ksH h4
 have hN:=ksH h5
 refine E.rga n hm hF ds ks [n-1] ⟨fun w v h=>?_,trivial⟩ hb (da hn).1 hds (da hn).2 steps ?_
 ·unfold Hat at h
  rw[hN] at h
  obtain⟨g,e,_,o⟩:=h
  exact⟨g,e,o.lt⟩
 ·intro a' w' hF' bb hall _
  obtain⟨v,e,hv⟩:=sS hall (n-2) s h2 hH
  obtain⟨r,rfl⟩:=K.sh _ _ hv
  obtain⟨_,e2,g,rfl,ge,o⟩:=sS hall (n-1) t h3 hN
  rw[h1]
  exact so (((st.to bb).add hv (K.cl _)).push o.blk (Nat.le_trans st.bel.size ge) (st.ne ge)) ((hF'.add e).add e2) 0 0 1 hT rfl rfl rfl (by rw[(da h6).1,(da h6).2];rfl) (k r g)
theorem gz2 (n:Nat) (hm:P.follows .mixedOrders =true) (st:St W w bs fs) (hF:Fr nt a L) (hT:Ty P T 3 zs) (b p:Nat) (ds:List Nat) (ks:List Pk) (hb:(dc l.toArray && eX l.toArray n)=true) (hn:(Nat.ble n l.length && gI ds nt L)=true) (hds:eR l.toArray n=ds.map some)
 (hx:(l.drop n,ds[n-1]?,ks[n-1]?,bs[b]?,L[p]?,Nat.beq cs.length 3 && cs.all cN)=(⟨none,.store T (.tmp t) (.tmp s),ty,pos,af,none⟩::rest,some s,some (.of H M),some (g,cs),some (t,.pointer (some ⟨g,0,none⟩)),true)) [K:K7 H]
 (steps:jl P l.toArray Q nt L w ds (ks.map Pk.H) [] 0 (l.take n))
 (k:∀(r:R7) (w':World) (a':Act),St W w' (bs.set b (g,r.l)) ((fun w=>H w r.v)::fs)->Fr nt a' ((s,r.v)::L)->wpS P l.toArray Q rest a' w'):
 (Code.region id l.toArray true).wp P Q a w:=by
 simp only [Prod.mk.injEq] at hx
 obtain⟨h1,h2,h4,h5,h7,h6⟩:=hx
 have hH:=ksH h4
 refine E.rg n hm hF ds ks hb (da hn).1 hds (da hn).2 steps ?_
 intro a' w' hF' bb hall
 obtain⟨v,e,hv⟩:=sS hall (n-1) s h2 hH
 obtain⟨r,rfl⟩:=K.sh _ _ hv
 rw[h1]
 exact so ((st.to bb).add hv (K.cl _)) (hF'.add e) b (p+1) 0 hT h5 h7 rfl (by rw[(da h6).1,(da h6).2];rfl) (k r)
end
abbrev KO (f:FuncId):Prop:=zR Tryz.prog f
theorem ko {f:FuncId} {fn:Func} (h:Tryz.prog.funcs[f]?=some fn) (g:(!(fn.name=="runtime.NumGoroutine") && !fn.body.isNone)=true:=by decide+kernel):KO f:=⟨fn,h,by simpa using (da g).1,by simpa using (da g).2⟩
theorem OJ:KO 170:=ko Tryz.func170
theorem k98:KO 98:=ko Tryz.func98
theorem k94:KO 94:=ko Tryz.func94
theorem k97:KO 97:=ko Tryz.func97
theorem k96:KO 96:=ko Tryz.func96
theorem Sd:KO 114:=ko Tryz.func114
theorem k17:KO 17:=ko Tryz.func17
theorem OB:KO 156:=ko Tryz.func156
theorem SI:KO 214:=ko Tryz.func214
theorem k37:KO 37:=ko Tryz.func37
theorem Sz:KO 268:=ko Tryz.func268
theorem O6:KO 228:=ko Tryz.func228
theorem G3:KO 260:=ko Tryz.func260
theorem k76:KO 76:=ko Tryz.func76
theorem k31:KO 31:=ko Tryz.func31
theorem k62:KO 62:=ko Tryz.func62
theorem pz:KO 175:=ko Tryz.func175
theorem dB:KO 104:=ko Tryz.func104
theorem k86:KO 86:=ko Tryz.func86
theorem nO:KO 223:=ko Tryz.func223
theorem k35:KO 35:=ko Tryz.func35
theorem PW:KO 174:=ko Tryz.func174
theorem vi:KO 105:=ko Tryz.func105
theorem zz:KO 173:=ko Tryz.func173
theorem O8:KO 257:=ko Tryz.func257
theorem RU:KO 283:=ko Tryz.func283
theorem DV:KO 211:=ko Tryz.func211
theorem Ha:KO 180:=ko Tryz.func180
theorem S1:KO 176:=ko Tryz.func176
theorem I1:KO 281:=ko Tryz.func281
theorem Hh:KO 279:=ko Tryz.func279
theorem k16:KO 16:=ko Tryz.func16
theorem k53:KO 53:=ko Tryz.func53
theorem k19:KO 19:=ko Tryz.func19
theorem NL:KO 139:=ko Tryz.func139
theorem wy:KO 137:=ko Tryz.func137
theorem k69:KO 69:=ko Tryz.func69
theorem k70:KO 70:=ko Tryz.func70
theorem Si:KO 218:=ko Tryz.func218
theorem Dz:KO 242:=ko Tryz.func242
theorem nE:KO 201:=ko Tryz.func201
theorem PA:KO 219:=ko Tryz.func219
theorem wi:KO 245:=ko Tryz.func245
theorem I7:KO 182:=ko Tryz.func182
theorem dA:KO 140:=ko Tryz.func140
theorem bM:KO 143:=ko Tryz.func143
theorem yM:KO 220:=ko Tryz.func220
theorem qD:KO 252:=ko Tryz.func252
theorem ij:KO 166:=ko Tryz.func166
theorem C7:KO 142:=ko Tryz.func142
theorem CX:KO 164:=ko Tryz.func164
theorem S0:KO 286:=ko Tryz.func286
theorem vQ:KO 206:=ko Tryz.func206
theorem H3:KO 141:=ko Tryz.func141
theorem H0:KO 287:=ko Tryz.func287
theorem Iy:KO 274:=ko Tryz.func274
theorem J3:KO 248:=ko Tryz.func248
theorem tt:KO 243:=ko Tryz.func243
theorem C2:KO 273:=ko Tryz.func273
theorem Pu:KO 244:=ko Tryz.func244
theorem Pb:KO 276:=ko Tryz.func276
theorem SS:KO 251:=ko Tryz.func251
theorem Ii:KO 241:=ko Tryz.func241
theorem RZ:KO 272:=ko Tryz.func272
theorem Sj:KO 250:=ko Tryz.func250
theorem D0:KO 240:=ko Tryz.func240
theorem Dr:KO 246:=ko Tryz.func246
theorem OV:KO 249:=ko Tryz.func249
theorem SY:KO 205:=ko Tryz.func205
theorem Qi:KO 167:=ko Tryz.func167
theorem Pe:KO 204:=ko Tryz.func204
theorem k72:KO 72:=ko Tryz.func72
theorem Sr:KO 202:=ko Tryz.func202
theorem SQ:KO 203:=ko Tryz.func203
theorem k71:KO 71:=ko Tryz.func71
theorem Py:KO 199:=ko Tryz.func199
theorem SN:KO 275:=ko Tryz.func275
theorem R3:KO 200:=ko Tryz.func200
theorem k22:KO 22:=ko Tryz.func22
theorem Sf:KO 247:=ko Tryz.func247
theorem Su:KO 144:=ko Tryz.func144
theorem Sh:KO 168:=ko Tryz.func168
theorem Dh:KO 165:=ko Tryz.func165
theorem Sk:KO 256:=ko Tryz.func256
theorem O3:KO 212:=ko Tryz.func212
theorem SM:KO 277:=ko Tryz.func277
theorem R0:KO 255:=ko Tryz.func255
theorem Ja:KO 213:=ko Tryz.func213
theorem SV:KO 258:=ko Tryz.func258
theorem zO:KO 103:=ko Tryz.func103
theorem SW:KO 152:=ko Tryz.func152
theorem Sb:KO 210:=ko Tryz.func210
theorem CJ:KO 151:=ko Tryz.func151
theorem k34:KO 34:=ko Tryz.func34
theorem k85:KO 85:=ko Tryz.func85
theorem SL:KO 155:=ko Tryz.func155
theorem N9:KO 153:=ko Tryz.func153
theorem k84:KO 84:=ko Tryz.func84
theorem k90:KO 90:=ko Tryz.func90
theorem k87:KO 87:=ko Tryz.func87
theorem k36:KO 36:=ko Tryz.func36
theorem SK:KO 232:=ko Tryz.func232
theorem k40:KO 40:=ko Tryz.func40
theorem SJ:KO 119:=ko Tryz.func119
theorem SD:KO 118:=ko Tryz.func118
theorem SA:KO 265:=ko Tryz.func265
theorem k55:KO 55:=ko Tryz.func55
theorem Sp:KO 227:=ko Tryz.func227
theorem SE:KO 226:=ko Tryz.func226
theorem SB:KO 181:=ko Tryz.func181
theorem SH:KO 231:=ko Tryz.func231
theorem PN:KO 267:=ko Tryz.func267
theorem Sn:KO 233:=ko Tryz.func233
theorem PG:KO 229:=ko Tryz.func229
theorem R5:KO 230:=ko Tryz.func230
theorem k78:KO 78:=ko Tryz.func78
theorem P7:KO 163:=ko Tryz.func163
theorem Ob:KO 161:=ko Tryz.func161
theorem O7:KO 217:=ko Tryz.func217
theorem ST:KO 262:=ko Tryz.func262
theorem PP:KO 216:=ko Tryz.func216
theorem NS:KO 162:=ko Tryz.func162
theorem CR:KO 261:=ko Tryz.func261
theorem OH:KO 269:=ko Tryz.func269
theorem vJ:KO 259:=ko Tryz.func259
theorem R4:KO 266:=ko Tryz.func266
theorem Pf:KO 278:=ko Tryz.func278
theorem JS:KO 280:=ko Tryz.func280
theorem Qc:KO 282:=ko Tryz.func282
theorem GV:KO 111:=ko Tryz.func111
theorem k88:KO 88:=ko Tryz.func88
section
section
section
variable {P:Program} {f:FuncId} {args:Array Value} {w:World}
abbrev kDg (N:Nat):Pk:= .of (fun w v=>Dg w .u32 B32 v N) (fun _ _ _ h hb=>h.below hb)
abbrev kDh (N:Nat):Pk:= .of (fun w v=>Dg w .i64 65536 v N) (fun _ _ _ h hb=>h.below hb)
abbrev kRz (z:Int):Pk:= .of (fun w v=>Rz w v z) (fun _ _ _ h hb=>h.below hb)
abbrev kWc (z:Int):Pk:= .of (fun w v=>Wc w v z) (fun _ _ _ h hb=>h.below hb)
theorem bW {N:Nat} (h:Calls P f args w (kD w N)):Calls P f args w (Ret (kDg N) w):=h
theorem qr {N:Nat} (h:Calls P f args w (kv w N)):Calls P f args w (Ret (kDh N) w):=h
theorem vI {z:Int} (h:Calls P f args w (ke w z)):Calls P f args w (Ret (kRz z) w):=h
theorem gN {z:Int} (h:Calls P f args w (fK w z)):Calls P f args w (Ret (kWc z) w):=h
end
section
variable {P:Program} {ops:Array Oper} {Q:Exit->Act->World->Prop} {nt:Nat} {L:List (Nat×Value)} {W:World} {ds:List Nat} {ks:List Pk} {al:List Nat} {i:Nat} {dst:Option Tmp} {ty:TypeId} {pos:String} {af:Array Edge}
theorem rfd {T:TypeId} {x:Operand} {f s g o p:Nat} (j:Nat) (fa:∀w:World,(Instr.fieldAt T (.pointer (some ⟨g,o,none⟩)) f).run P w= .ok (.pointer (some ⟨g,p,none⟩)) w) (h:(x,L[j]?,al.contains i,ks[i]?)=(.tmp s,some (s,.pointer (some ⟨g,o,none⟩)),false,some (.ex (.pointer (some ⟨g,p,none⟩))))):
 gM P ops Q nt L W ds (ks.map Pk.H) al i ⟨dst,.fieldAddr T x f,ty,pos,af,none⟩:=by
 simp only [Prod.mk.injEq] at h
 obtain⟨hx,hj,ha,hi⟩:=h
 exact rd ha hi fun a' w' hF hb=>by
  subst hx
  exact az (hF.at j hj) (fa w')
theorem rld {T:TypeId} {x:Operand} {g o:Nat} {v:Value} (h:(qC af ds x && !al.contains i,ks[i]?,yO L ds ks x)=(true,some (.ex v),.ex (.pointer (some ⟨g,o,none⟩)))) (hl:∀w':World,Below W.heap.size W w'->(Instr.loadAt T (.pointer (some ⟨g,o,none⟩))).run P w'= .ok v w'):
 gM P ops Q nt L W ds (ks.map Pk.H) al i ⟨dst,.load T x,ty,pos,af,none⟩:=by
 intro a' w' hF hb hd
 simp only [Prod.mk.injEq] at h
 obtain⟨h1,h2,h3⟩:=h
 rw[Bool.and_eq_true,Bool.not_eq_true'] at h1
 have hx:=zQ hF hd x h1.1
 rw[h3] at hx
 exact bX (aR rfl) (bG.vals (ar hx (hl w' hb)) ⟨by rw[nU,h2];rfl,Below.refl _ _,fun y=>by rw[h1.2] at y;cases y⟩)
end
end
end
theorem CN:KO 100:=ko Tryz.func100
theorem k99:KO 99:=ko Tryz.func99
theorem N8:KO 253:=ko Tryz.func253
theorem Ih:KO 254:=ko Tryz.func254
theorem R2:KO 128:=ko Tryz.func128
theorem k83:KO 83:=ko Tryz.func83
theorem Sx:KO 147:=ko Tryz.func147
theorem k79:KO 79:=ko Tryz.func79
theorem Se:KO 154:=ko Tryz.func154
theorem R6:KO 157:=ko Tryz.func157
theorem Am:KO 150:=ko Tryz.func150
theorem k44:KO 44:=ko Tryz.func44
theorem k32:KO 32:=ko Tryz.func32
theorem Sc:KO 101:=ko Tryz.func101
theorem k38:KO 38:=ko Tryz.func38
theorem So:KO 193:=ko Tryz.func193
theorem Sv:KO 194:=ko Tryz.func194
theorem RV:KO 238:=ko Tryz.func238
theorem Od:KO 195:=ko Tryz.func195
theorem k67:KO 67:=ko Tryz.func67
theorem I8:KO 198:=ko Tryz.func198
theorem yh:KO 138:=ko Tryz.func138
theorem vN:KO 136:=ko Tryz.func136
theorem k95:KO 95:=ko Tryz.func95
theorem k42:KO 42:=ko Tryz.func42
theorem k52:KO 52:=ko Tryz.func52
theorem DP:KO 169:=ko Tryz.func169
theorem OA:KO 171:=ko Tryz.func171
theorem rf:KO 112:=ko Tryz.func112
theorem yR:KO 113:=ko Tryz.func113
theorem k39:KO 39:=ko Tryz.func39
theorem k91:KO 91:=ko Tryz.func91
theorem Qe:KO 160:=ko Tryz.func160
theorem NE:KO 208:=ko Tryz.func208
theorem k64:KO 64:=ko Tryz.func64
theorem DE:KO 148:=ko Tryz.func148
theorem k66:KO 66:=ko Tryz.func66
theorem k54:KO 54:=ko Tryz.func54
theorem k80:KO 80:=ko Tryz.func80
theorem nG:KO 146:=ko Tryz.func146
theorem k93:KO 93:=ko Tryz.func93
theorem k82:KO 82:=ko Tryz.func82
theorem k92:KO 92:=ko Tryz.func92
theorem SP:KO 215:=ko Tryz.func215
theorem Sm:KO 159:=ko Tryz.func159
theorem k41:KO 41:=ko Tryz.func41
theorem k51:KO 51:=ko Tryz.func51
theorem k43:KO 43:=ko Tryz.func43
theorem k49:KO 49:=ko Tryz.func49
theorem k46:KO 46:=ko Tryz.func46
theorem Oj:KO 127:=ko Tryz.func127
theorem Ss:KO 209:=ko Tryz.func209
theorem nH:KO 158:=ko Tryz.func158
theorem Sl:KO 106:=ko Tryz.func106
theorem rzc {w:World} {v:Value} {z z':Int} (h:Rz w v z) (e:z=z'):Rz w v z':=by subst e;exact h
theorem Fv {x y:Int} {b c:Bool} (hb:b=decide (x<0)) (hc:c=decide (y<0)) (e:b=c):sg b (x.natAbs+y.natAbs)=x+y:=by
 subst hb hc
 by_cases h:x<0 <;> by_cases k:y<0 <;> simp[h,k] at e ⊢ <;> unfold sg <;> simp <;> omega
theorem Bq {x y:Int} {b c:Bool} (hb:b=decide (x<0)) (hc:c=decide (y<0)) (e:¬b=c) (hle:y.natAbs<=x.natAbs):sg b (x.natAbs-y.natAbs)=x+y:=by
 subst hb hc
 by_cases h:x<0 <;> by_cases k:y<0 <;> simp[h,k] at e ⊢ <;> unfold sg <;> simp <;> omega
theorem N4 {m n:Nat} (h:0<=c3 m n):n<=m:=by unfold c3 at h;split at h <;> omega
theorem LN {m n:Nat} (h:¬0<=c3 m n):m<=n:=by unfold c3 at h;split at h <;> (try split at h) <;> omega
theorem fu (v1 v2:Value) (z1 z2:Int) (ka kb:Nat) (w:World) (h1:Rz w v1 z1) (h2:Rz w v2 z2) (l1:Lim z1.natAbs ka) (l2:Lim z2.natAbs kb) (ha:ka<=50000) (hb:kb<=50000):
 CP 70 #[v1,v2] w (ke w (z1*z2)):=by
 obtain⟨b1,ad1,n1,c1,rfl⟩:=h1.form
 have ha1:=h1.abs
 have hb1:=h1.neg
 obtain⟨b2,ad2,n2,c2,rfl⟩:=h2.form
 have ha2:=h2.abs
 have hb2:=h2.neg
 refine gs2 (nt:=16) Tryz.func70 rfl rfl rfl fun a st hF=>wq<|bx st hF 0 rfl rfl fun g2 w1 a st hF=>bx st hF 2 rfl rfl fun g3 w2 a st hF=>S.alloc st hF bg rfl rfl fun g4 w3 a st hF=>ns ?_
 refine E.rg 11 aM hF [5,6,7,8,9,10,11,12,13,14,15] [_,_,_,_,.ex (.bool (b1 !=b2)),_,_,_,_,_,_] (by decide+kernel) rfl rfl rfl ⟨rfd 2 (fun _=>eu (p:=0) rfl) rfl,rld rfl fun _ hb=>(bR (v:= .bool b1) ((st.b 2 rfl rfl).below hb) rfl),rfd 1 (fun _=>eu (p:=0) rfl) rfl,rld rfl fun _ hb=>(bR (v:= .bool b2) ((st.b 1 rfl rfl).below hb) rfl),(by intro a' w' hF' hb hd;have e6:=tE hd 0 rfl;have e8:=tE hd 1 rfl;exact dv0 (aq e6 e8 cZ (iQ (d:=(b1 !=b2)) rfl)) rfl rfl rfl),rfd 2 (fun _=>cj (p:=1) rfl) rfl,rld rfl fun _ hb=>(cB (v:= .slice ad1 n1 c1) ((st.b 2 rfl rfl).below hb) rfl),rfd 1 (fun _=>cj (p:=1) rfl) rfl,rld rfl fun _ hb=>(cB (v:= .slice ad2 n2 c2) ((st.b 1 rfl rfl).below hb) rfl),ck st NL rfl fun _ s=>qr (yt _ _ _ _ _ (ha1.below s.bel) (ha2.below s.bel) (Lim.dh l1 _ (by omega)) (Lim.dh l2 _ (by omega))),ck st k67 rfl fun _ s _ x14=>cP (fF _ _ _ _ x14) (lI _ (Lim.mul l1 l2)),trivial⟩ ?_
 intro a w4 hF bb hall
 replace st:=st.to bb
 obtain⟨vv5,hF,st⟩:=rS hall hF st 10 rfl rfl Zl.cl
 obtain⟨b7,ad7,n7,c7,rfl⟩:=Rz.form (st.f 0 rfl).1
 clear hall bb
 refine so st hF 0 1 0 bg rfl rfl rfl rfl fun w8 a st hF=>?_
 have hf9:=Rz.abs (st.f 0 rfl).1
 replace st:=st.add hf9 (Dg.cl _)
 clear hf9
 refine nr<|rs Tryz.results70 st hF 1 0 bg rfl rfl rfl ?_
 exact⟨_,rfl,rzc ((st.f 1 rfl).1) (by rw[show(b1 !=b2)=!(b1 == b2) from rfl,AC,hb1,hb2,mU,mU]),st.bel⟩
theorem iP (v1 v2:Value) (z1 z2:Int) (ka kb:Nat) (w:World) (h1:Rz w v1 z1) (h2:Rz w v2 z2) (l1:Lim z1.natAbs ka) (l2:Lim z2.natAbs kb) (ha:ka<=500000) (hb:kb<=500000):
 CP 137 #[v1,v2] w (ke w (z1+z2)):=by
 obtain⟨b1,ad1,n1,c1,rfl⟩:=h1.form
 have ha1:=h1.abs
 have hb1:=h1.neg
 obtain⟨b2,ad2,n2,c2,rfl⟩:=h2.form
 have ha2:=h2.abs
 have hb2:=h2.neg
 refine gs2 (nt:=40) Tryz.func137 rfl rfl rfl fun a st hF=>wq<|bx st hF 0 rfl rfl fun g2 w1 a st hF=>bx st hF 2 rfl rfl fun g3 w2 a st hF=>S.alloc st hF bg rfl rfl fun g4 w3 a st hF=>ns<|wq<|oV hF (az hF.q (eu (p:=0) rfl)) rfl fun a hF=>oV hF (ar hF.o (bR (v:= .bool b1) (st.b 2 rfl rfl) rfl)) rfl fun a hF=>oV hF (az (hF.at 3 rfl) (eu (p:=0) rfl)) rfl fun a hF=>oV hF (ar hF.o (bR (v:= .bool b2) (st.b 1 rfl rfl) rfl)) rfl fun a hF=>oV hF (aq hF.q hF.o cZ (iw (d:=(b1 == b2)) rfl)) rfl fun a hF=>?_
 refine E.nil ?_
 by_cases hc4:(b1 == b2)=true
 ·refine wp_cond_true (Eq.trans hF.o (congrArg Value.bool hc4)) ?_
  refine wp_seq ?_
  refine E.rg 8 aM hF [10,11,12,13,14,15,16,17] [_,_,_,_,_,_,_,_] (by decide+kernel) rfl rfl rfl ⟨rfd 7 (fun _=>eu (p:=0) rfl) rfl,rld rfl fun _ hb=>(bR (v:= .bool b1) ((st.b 2 rfl rfl).below hb) rfl),rfd 7 (fun _=>cj (p:=1) rfl) rfl,rld rfl fun _ hb=>(cB (v:= .slice ad1 n1 c1) ((st.b 2 rfl rfl).below hb) rfl),rfd 6 (fun _=>cj (p:=1) rfl) rfl,rld rfl fun _ hb=>(cB (v:= .slice ad2 n2 c2) ((st.b 1 rfl rfl).below hb) rfl),ck st So rfl fun _ s=>qr (tL _ _ _ _ _ (ha1.below s.bel) (ha2.below s.bel) ⟨Lim.dh l1 _ (by omega),Lim.dh l2 _ (by omega)⟩),ck st k67 rfl fun _ s _ x16=>vI (fF _ _ _ _ x16),trivial⟩ ?_
  intro a w5 hF bb hall
  replace st:=st.to bb
  obtain⟨vv6,hF,st⟩:=rS hall hF st 7 rfl rfl Rz.cl
  obtain⟨b8,ad8,n8,c8,rfl⟩:=Rz.form (st.f 0 rfl)
  clear hall bb
  refine so st hF 0 6 0 bg rfl rfl rfl rfl fun w9 a st hF=>?_
  have hf10:=Rz.abs (st.f 0 rfl)
  replace st:=st.add hf10 (Dg.cl _)
  clear hf10
  refine nr<|rs Tryz.results137 st hF 6 0 bg rfl rfl rfl ?_
  exact⟨_,rfl,rzc (st.f 1 rfl) (Fv hb1 hb2 (eq_of_beq hc4)),st.bel⟩
 ·refine wp_cond_false (Eq.trans hF.o (congrArg Value.bool (eq_false_of_ne_true hc4))) ?_
  refine wp_skip<|E.norm<|wp_seq<|wq<|oV hF (az (hF.at 7 rfl) (cj (p:=1) rfl)) rfl fun a hF=>oV hF (ar hF.o (cB (v:= .slice ad1 n1 c1) (st.b 2 rfl rfl) rfl)) rfl fun a hF=>oV hF (az (hF.at 8 rfl) (cj (p:=1) rfl)) rfl fun a hF=>oV hF (ar hF.o (cB (v:= .slice ad2 n2 c2) (st.b 1 rfl rfl) rfl)) rfl fun a hF=>cX st hF (rgc Sv (aL hF.q hF.o)) (AE (yB _ _ _ _ _ (ha1.below st.bel) (ha2.below st.bel))) rfl fun w11 a st hF=>?_
  by_cases hc12:0<=c3 (Int.natAbs (z1)) (Int.natAbs (z2))
  ·refine oT hF 0 (dI (c:=true) (aI hc12)) rfl rfl fun a hF=>E.nil<|wp_cond_true hF.o<|wp_seq ?_
   have hle:=N4 hc12
   refine E.rg 8 aM hF [24,25,26,27,28,29,30,31] [_,_,_,_,_,_,_,_] (by decide+kernel) rfl rfl rfl ⟨rfd 13 (fun _=>eu (p:=0) rfl) rfl,rld rfl fun _ hb=>(bR (v:= .bool b1) ((st.b 2 rfl rfl).below hb) rfl),rfd 13 (fun _=>cj (p:=1) rfl) rfl,rld rfl fun _ hb=>(cB (v:= .slice ad1 n1 c1) ((st.b 2 rfl rfl).below hb) rfl),rfd 12 (fun _=>cj (p:=1) rfl) rfl,rld rfl fun _ hb=>(cB (v:= .slice ad2 n2 c2) ((st.b 1 rfl rfl).below hb) rfl),ck st Od rfl fun _ s=>qr (tA _ _ _ _ _ (ha1.below s.bel) (ha2.below s.bel) hle (Lim.dh l1 _ (by omega))),ck st k67 rfl fun _ s _ x30=>vI (fF _ _ _ _ x30),trivial⟩ ?_
   intro a w13 hF bb hall
   replace st:=st.to bb
   obtain⟨vv14,hF,st⟩:=rS hall hF st 7 rfl rfl Rz.cl
   obtain⟨b16,ad16,n16,c16,rfl⟩:=Rz.form (st.f 0 rfl)
   clear hall bb
   refine so st hF 0 12 0 bg rfl rfl rfl rfl fun w17 a st hF=>?_
   have hf18:=Rz.abs (st.f 0 rfl)
   replace st:=st.add hf18 (Dg.cl _)
   clear hf18
   refine nr<|rs Tryz.results137 st hF 12 0 bg rfl rfl rfl ?_
   exact⟨_,rfl,rzc (st.f 1 rfl) (Bq hb1 hb2 (fun k=>hc4 (beq_iff_eq.2 k)) hle),st.bel⟩
  ·refine oT hF 0 (dI (c:=false) (aJ hc12)) rfl rfl fun a hF=>E.nil<|wp_cond_false hF.o<|wp_skip<|E.norm<|wp_seq ?_
   have hle:=LN hc12
   refine E.rg 8 aM hF [32,33,34,35,36,37,38,39] [_,_,_,_,_,_,_,_] (by decide+kernel) rfl rfl rfl ⟨rfd 12 (fun _=>eu (p:=0) rfl) rfl,rld rfl fun _ hb=>(bR (v:= .bool b2) ((st.b 1 rfl rfl).below hb) rfl),rfd 12 (fun _=>cj (p:=1) rfl) rfl,rld rfl fun _ hb=>(cB (v:= .slice ad2 n2 c2) ((st.b 1 rfl rfl).below hb) rfl),rfd 13 (fun _=>cj (p:=1) rfl) rfl,rld rfl fun _ hb=>(cB (v:= .slice ad1 n1 c1) ((st.b 2 rfl rfl).below hb) rfl),ck st Od rfl fun _ s=>qr (tA _ _ _ _ _ (ha2.below s.bel) (ha1.below s.bel) hle (Lim.dh l2 _ (by omega))),ck st k67 rfl fun _ s _ x38=>vI (fF _ _ _ _ x38),trivial⟩ ?_
   intro a w19 hF bb hall
   replace st:=st.to bb
   obtain⟨vv20,hF,st⟩:=rS hall hF st 7 rfl rfl Rz.cl
   obtain⟨b22,ad22,n22,c22,rfl⟩:=Rz.form (st.f 0 rfl)
   clear hall bb
   refine so st hF 0 12 0 bg rfl rfl rfl rfl fun w23 a st hF=>?_
   have hf24:=Rz.abs (st.f 0 rfl)
   replace st:=st.add hf24 (Dg.cl _)
   clear hf24
   refine nr<|rs Tryz.results137 st hF 12 0 bg rfl rfl rfl ?_
   exact⟨_,rfl,rzc (st.f 1 rfl) ((Bq hb2 hb1 (fun k=>hc4 (beq_iff_eq.2 k.symm)) hle).trans (Int.add_comm _ _)),st.bel⟩
theorem Fp (v1 v2:Value) (z1 z2:Int) (ka kb:Nat) (w:World) (h1:Rz w v1 z1) (h2:Rz w v2 z2) (l1:Lim z1.natAbs ka) (l2:Lim z2.natAbs kb) (ha:ka<=500000) (hb:kb<=500000):
 CP 69 #[v1,v2] w (jP w (ci z1 z2)):=by
 obtain⟨b1,ad1,n1,c1,rfl⟩:=h1.form
 have ha1:=h1.abs
 have hb1:=h1.neg
 obtain⟨b2,ad2,n2,c2,rfl⟩:=h2.form
 have ha2:=h2.abs
 have hb2:=h2.neg
 refine gs2 (nt:=10) Tryz.func69 rfl rfl rfl fun a st hF=>wq<|bx st hF 0 rfl rfl fun g2 w1 a st hF=>bx st hF 2 rfl rfl fun g3 w2 a st hF=>?_
 refine oC hF rfl fun a hF=>ns ?_
 refine E.rg 5 aM hF [5,6,7,8,9] [_,_,_,_,_] (by decide+kernel) rfl rfl rfl ⟨rb st bg 2 1 rfl,rb st bg 1 0 rfl,ck st yh rfl fun _ s=>cP (kS _ _ _ (h2.below s.bel)) (kO l2),ck st wy rfl fun _ s _ x7=>cP (iP _ _ _ _ ka kb _ (h1.below s.bel) x7.1 l1 x7.2 (by omega) (by omega)) (ip l1 x7.2 ((max ka kb)+1) (by omega) (by omega)),ck st vN rfl fun _ s _ x8=>bD (jR _ _ _ x8.1),trivial⟩ ?_
 intro a w3 hF bb hall
 replace st:=st.to bb
 replace hF:=rE hall hF 4 rfl rfl
 clear hall bb
 refine oE hF 0 rfl rfl fun a hF=>nr ?_
 have bel:=st.bel
 refine rt Tryz.results69 hF 0 rfl ?_
 exact⟨by rw[ON],bel⟩
end Go.Proofs.YtgdpkknapcgcbaaGreatDoor
