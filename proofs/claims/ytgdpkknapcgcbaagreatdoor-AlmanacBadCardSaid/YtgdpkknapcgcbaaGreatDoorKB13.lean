import Derived.Test.YtgdpkknapcgcbaaGreatDoorKB12
namespace Go.Proofs.YtgdpkknapcgcbaaGreatDoor
open Go.RowKit
set_option maxRecDepth 100000
set_option linter.unusedVariables false
set_option maxHeartbeats 8000000
section
section
inductive Pk where
 |ex (v:Value)
 |of (H:World->Value->Prop) (m:Mb H)
 |no
def Pk.H:Pk->World->Value->Prop
 | .ex v=>fun _ u=>u=v
 | .of H _=>H
 | .no =>fun _ _=>True
theorem Pk.mb:∀k:Pk,Mb k.H
 | .ex v=>Mb.eq v
 | .of _ m=>m
 | .no =>Mb.any
def Ret (k:Pk) (w:World):Ending->World->Prop:=fun e w'=>∃v,e= .returned v/\k.H w' v/\Below w.heap.size w w'
def k4 (t:Nat):Nat->List Nat->Option Nat
 |_,[]=>none
 |i,x::l=>bif Nat.beq t x then some i else k4 t (i+1) l
def lkp (t:Nat):List (Nat×Value)->Option Value
 |[]=>none
 |p::l=>bif Nat.beq t p.1 then some p.2 else lkp t l
def sF (L:List (Nat×Value)) (ds:List Nat) (ks:List Pk):Operand->Pk
 | .const v=> .ex v
 | .tmp t=>match k4 t 0 ds with
  |some i=>(ks[i]?).getD .no
  |none=>match lkp t L with
   |some v=> .ex v
   |none=> .no
 |_=> .no
def Obl (P:Program) (L:List (Nat×Value)) (ds:List Nat) (ks:List Pk) (f:FuncId) (k:Pk) (w':World):List Operand->List Value->Prop
 |[],vs=>Calls P f vs.toArray w' (Ret k w')
 |x::r,vs=>match sF L ds ks x with
  | .ex v=>Obl P L ds ks f k w' r (vs++[v])
  | .of H _=>∀u,H w' u->Obl P L ds ks f k w' r (vs++[u])
  | .no =>False
def lA (af:Array Edge) (ds:List Nat):Operand->Bool
 | .tmp t=>match k4 t 0 ds with
  |some i=>af.toList.any fun e=>Nat.beq e.on i && Region.binds .any e
  |none=>true
 |_=>true
theorem pM {t:Nat}:∀(l:List Nat) (k i:Nat),k4 t k l=some i->∃j,i=k+j/\l[j]?=some t
 |[],_,_,h=>by cases h
 |x::l,k,i,h=>by
  unfold k4 at h
  by_cases e:t=x
  ·subst e
   rw[show Nat.beq t t=true by simp,cond_true] at h
   injection h with h
   exact⟨0,h.symm,rfl⟩
  ·rw[show Nat.beq t x=false from Bool.eq_false_iff.2 fun k=>e (Nat.eq_of_beq_eq_true k),cond_false] at h
   obtain⟨j,h1,h2⟩:=pM l (k+1) i h
   exact⟨j+1,by omega,by simpa using h2⟩
theorem rp {t:Nat} {v:Value}:∀(L:List (Nat×Value)),lkp t L=some v->(t,v)∈L
 |[],h=>by cases h
 |p::l,h=>by
  unfold lkp at h
  by_cases e:t=p.1
  ·subst e
   rw[show Nat.beq p.1 p.1=true by simp,cond_true] at h
   injection h with h
   subst h
   exact List.mem_cons_self
  ·rw[show Nat.beq t p.1=false from Bool.eq_false_iff.2 fun k=>e (Nat.eq_of_beq_eq_true k),cond_false] at h
   exact List.mem_cons_of_mem _ (rp l h)
theorem jJ (ks:List Pk) (i:Nat):Hat (ks.map Pk.H) i=((ks[i]?).getD .no).H :=by
 unfold Hat
 rw[List.getElem?_map]
 cases ks[i]? <;> rfl
theorem rj {nt:Nat} {a':Act} {w':World} {L:List (Nat×Value)} {ds:List Nat} {ks:List Pk} {af:Array Edge} (hF:Fr nt a' L)
 (hd:∀(e:Edge) (s:Nat),e∈af->Region.binds .any e=true->ds[e.on]?=some s->Hat (ks.map Pk.H) e.on w' (a'.tmps.getD s undef)) (x:Operand) (he:lA af ds x=true):(sF L ds ks x).H w' (a'.eval x):=by
 cases x with
 |const v=>rfl
 |tmp t=>
  show Pk.H (match k4 t 0 ds with|some i=>(ks[i]?).getD .no |none=>match lkp t L with|some v=> .ex v|none=> .no) w' (a'.tmps.getD t undef)
  have he:(match k4 t 0 ds with|some i=>af.toList.any fun e=>Nat.beq e.on i && Region.binds .any e|none=>true)=true:=he
  cases hi:k4 t 0 ds with
  |some i=>
   rw[hi] at he
   obtain⟨e,hm,hb⟩:=List.any_eq_true.1 he
   obtain⟨j,h1,h2⟩:=pM ds 0 i hi
   rw[Bool.and_eq_true] at hb
   have ho:e.on=i:=Nat.eq_of_beq_eq_true hb.1
   have:=hd e t (by simpa using hm) hb.2 (by rw[ho,h1,Nat.zero_add];exact h2)
   rw[jJ,ho] at this
   exact this
  |none=>
   cases hl:lkp t L with
   |some v=>exact hF.all (t,v) (rp L hl)
   |none=>trivial
 |global g=>trivial
 |func f=>trivial
theorem Obl.call {P:Program} {nt:Nat} {a':Act} {w':World} {L:List (Nat×Value)} {ds:List Nat} {ks:List Pk} {af:Array Edge} {f:FuncId} {k:Pk} (hF:Fr nt a' L)
 (hd:∀(e:Edge) (s:Nat),e∈af->Region.binds .any e=true->ds[e.on]?=some s->Hat (ks.map Pk.H) e.on w' (a'.tmps.getD s undef)):
 ∀(xs:List Operand) (vs:List Value),xs.all (lA af ds)=true->Obl P L ds ks f k w' xs vs->Calls P f (vs++xs.map a'.eval).toArray w' (Ret k w')
 |[],vs,_,h=>by rw[List.map_nil,List.append_nil];exact h
 |x::r,vs,hc,h=>by
  rw[List.all_cons,Bool.and_eq_true] at hc
  have ha:=rj hF hd x hc.1
  unfold Obl at h
  have e:vs++(x::r).map a'.eval=(vs++[a'.eval x])++r.map a'.eval:=by simp
  rw[e]
  cases hk:sF L ds ks x with
  |ex v=>
   rw[hk] at h ha
   have ha:a'.eval x=v:=ha
   rw[ha]
   exact Obl.call hF hd r _ hc.2 h
  |of H m=>
   rw[hk] at h ha
   exact Obl.call hF hd r _ hc.2 (h _ ha)
  |no=>rw[hk] at h;exact h.elim
def qS (P:Program) (f:FuncId):Prop:=∃fn,P.funcs[f]?=some fn/\(fn.name == "runtime.NumGoroutine")=false/\fn.body.isNone=false
section
variable {P:Program} {ops:Array Oper} {Q:Exit->Act->World->Prop} {nt:Nat} {L:List (Nat×Value)} {W:World} {ds:List Nat} {ks:List Pk} {al:List Nat} {i:Nat} {dst:Option Tmp} {ty:TypeId} {pos:String} {af:Array Edge}
theorem ck {f:FuncId} {xs:Array Operand} {ts:Array TypeId} {k:Pk} {W0:World} {bs:List (Nat×List Value)} {fs:List (World->Prop)} (st:St W0 W bs fs) (hk:qS P f) (hc:(xs.toList.all (lA af ds) && !al.contains i,ks[i]?)=(true,some k)) (ob:∀w',St W0 w' bs fs->Obl P L ds ks f k w' xs.toList []):
 dR P ops Q nt L W ds (ks.map Pk.H) al i ⟨dst,.call ⟨.value (.func f),xs,ts⟩,ty,pos,af,none⟩:=by
 intro a' w' hF hb hd
 have hi:=congrArg Prod.snd hc
 replace hc:=congrArg Prod.fst hc
 simp only at hc hi
 rw[Bool.and_eq_true,Bool.not_eq_true'] at hc
 obtain⟨fn,h1,h2,h3⟩:=hk
 have h:=Obl.call hF hd xs.toList [] hc.1 (ob w' (st.to hb))
 rw[List.nil_append,show(xs.toList.map a'.eval).toArray =xs.map a'.eval from by rw[<-Array.toList_map,Array.toArray_toList]] at h
 refine cR (bh rfl) (bg.calls (rZ h1 h2 h3 rfl) h ?_)
 rintro e w'' ⟨v,e1,e2,e3⟩
 exact⟨v,e1,by rw[jJ,hi];exact e2,e3,fun x=>by rw[hc.2] at x;cases x⟩
theorem rd {op:Op} {v:Value} (ha:al.contains i=false) (hi:ks[i]?=some (.ex v)) (hr:∀(a':Act) (w':World),Fr nt a' L->Below W.heap.size W w'->(execOp a'.eval ⟨dst,op,ty,pos,af,none⟩).run P w'= .ok (.value v) w'):
 dR P ops Q nt L W ds (ks.map Pk.H) al i ⟨dst,op,ty,pos,af,none⟩:=by
 intro a' w' hF hb hd
 exact cR (bh rfl) (bg.vals (hr a' w' hF hb) ⟨by rw[jJ,hi];rfl,Below.refl _ _,fun x=>by rw[ha] at x;cases x⟩)
theorem rv {x:Operand} {k:Pk} (h:(lA af ds x && !al.contains i,ks[i]?,sF L ds ks x)=(true,some k,k)):
 dR P ops Q nt L W ds (ks.map Pk.H) al i ⟨dst,.assign x,ty,pos,af,none⟩:=by
 intro a' w' hF hb hd
 simp only [Prod.mk.injEq] at h
 obtain⟨h1,h2,h3⟩:=h
 rw[Bool.and_eq_true,Bool.not_eq_true'] at h1
 exact cR (bh rfl) (bg.vals (bf rfl) ⟨by rw[jJ,h2,<-h3];exact rj hF hd x h1.1,Below.refl _ _,fun y=>by rw[h1.2] at y;cases y⟩)
theorem rb {T:TypeId} {x:Operand} {n g:Nat} {zs cs:List Value} {bs:List (Nat×List Value)} {fs:List (World->Prop)} {W0:World} {s:Nat} (st:St W0 W bs fs) (hT:Ty P T n zs) (j b:Nat) (h:(x,L[j]?,bs[b]?,cs.length,al.contains i,ks[i]?)=(.tmp s,some (s,.pointer (some ⟨g,0,none⟩)),some (g,cs),n,false,some (.ex (.agg cs.toArray)))):
 dR P ops Q nt L W ds (ks.map Pk.H) al i ⟨dst,.load T x,ty,pos,af,none⟩:=by
 simp only [Prod.mk.injEq] at h
 obtain⟨hx,hj,hb,hn,ha,hi⟩:=h
 exact rd ha hi fun a' w' hF hbl=>by
  subst hx
  exact aq (hF.at j hj) (bi hT ((st.bk b hb).below hbl) hn)
theorem ow:∀ks:List Pk,jp (ks.map Pk.H)
 |[]=>trivial
 |k::l=>⟨k.mb,ow l⟩
end
def Rl (q:Rat) (k:Nat) (w:World) (v:Value):Prop:=Rq w v q/\ag q k
theorem Rl.mb (q:Rat) (k:Nat):Mb (Rl q k):=fun _ _ _ h hb=>⟨h.1.below hb,h.2⟩
theorem Rl.cl {q:Rat} {k:Nat} (v:Value):Cl fun w=>Rl q k w v:=fun _ _ h kp=>⟨h.1.keep kp,h.2⟩
theorem Rl.below {q:Rat} {k:Nat} {w w':World} {v:Value} (h:Rl q k w v) (hb:Below w.heap.size w w'):Rl q k w' v:=⟨h.1.below hb,h.2⟩
abbrev kq (q:Rat) (k:Nat):Pk:= .of (Rl q k) (Rl.mb q k)
theorem aw {P:Program} {f:FuncId} {args:Array Value} {w:World} {q:Rat} {k:Nat} (h:Calls P f args w (vE w q)) (l:ag q k):Calls P f args w (Ret (kq q k) w):=h.mono fun _ _ ⟨v,e,h,b⟩=>⟨v,e,⟨h,l⟩,b⟩
def Wl (z:Int) (k:Nat) (w:World) (v:Value):Prop:=Wc w v z/\Lim z.natAbs k
theorem Wl.mb (z:Int) (k:Nat):Mb (Wl z k):=fun _ _ _ h hb=>⟨h.1.below hb,h.2⟩
theorem Wl.cl {z:Int} {k:Nat} (v:Value):Cl fun w=>Wl z k w v:=fun _ _ h kp=>⟨h.1.keep kp,h.2⟩
abbrev kw (z:Int) (k:Nat):Pk:= .of (Wl z k) (Wl.mb z k)
theorem db {P:Program} {f:FuncId} {args:Array Value} {w:World} {z:Int} {k:Nat} (h:Calls P f args w (dZ w z)) (l:Lim z.natAbs k):Calls P f args w (Ret (kw z k) w):=h.mono fun _ _ ⟨v,e,h,b⟩=>⟨v,e,⟨h,l⟩,b⟩
theorem bv {P:Program} {f:FuncId} {args:Array Value} {w:World} {v:Value} (h:Calls P f args w fun e w'=>e= .returned v/\Below w.heap.size w w'):Calls P f args w (Ret (.ex v) w):=h.mono fun _ _ ⟨e,b⟩=>⟨v,e,rfl,b⟩
theorem iY {P:Program} {f:FuncId} {args:Array Value} {w:World} {H:World->Value->Prop} {m:Mb H} (h:Calls P f args w fun e w'=>∃v,e= .returned v/\H w' v/\Below w.heap.size w w'):Calls P f args w (Ret (.of H m) w):=h
section
variable {P:Program} {ops:Array Oper} {Q:Exit->Act->World->Prop} {W w:World} {bs:List (Nat×List Value)} {fs:List (World->Prop)} {nt d s:Nat} {L:List (Nat×Value)} {rest:List Oper} {a:Act} {x:Value} {ds:List Nat} {Hs:List (World->Value->Prop)} {H:World->Value->Prop}
theorem rgc {f:FuncId} {xs:Array Operand} {ts:Array TypeId} {args:Array Value} {dst:Option Tmp} {gd:Option (Nat×Bool)} {ty:TypeId} {pos:String} {af:Array Edge} (k:qS P f) (h:xs.map a.eval=args):(execOp a.eval ⟨dst,.call ⟨.value (.func f),xs,ts⟩,ty,pos,af,gd⟩).run P w= .ok (.enter f args) w:=by
 obtain⟨fn,h1,h2,h3⟩:=k
 exact rZ h1 h2 h3 h
theorem rg2 {b c:Bool} (h:(b && c)=true):b=true/\c=true:=by rwa[Bool.and_eq_true] at h
theorem S.ck {f:FuncId} {args:Array Value} {m:Mb H} {op:Op} {ty:TypeId} {pos:String} {af:Array Edge} (st:St W w bs fs) (hF:Fr nt a L) (hr:(execOp a.eval ⟨some d,op,ty,pos,af,none⟩).run P w= .ok (.enter f args) w) (hc:Calls P f args w (Ret (.of H m) w)) (hcl:∀v,Cl fun w=>H w v) (hk:(Nat.blt d nt && aQ d L)=true)
 (k:∀v w' a',St W w' bs ((fun w=>H w v)::fs)->Fr nt a' ((d,v)::L)->wpS P ops Q rest a' w'):wpS P ops Q (⟨some d,op,ty,pos,af,none⟩::rest) a w:=
 S.call (H:=fun v w=>H w v) st hF hr hc (fun _ _ h=>h) hcl rfl rfl (rg2 hk).1 (rg2 hk).2 k
theorem S.ckg {f:FuncId} {args:Array Value} {m:Mb H} {o:Oper} (st:St W w bs fs) (hF:Fr nt a L) (hg:Region.wanted o (yielded ops a.tmps)=true) (hr:(execOp a.eval o).run P w= .ok (.enter f args) w) (hc:Calls P f args w (Ret (.of H m) w)) (hcl:∀v,Cl fun w=>H w v) (hd:o.dst=some d) (hlt:Nat.blt d nt=true) (hf:aQ d L=true)
 (k:∀v w' a',St W w' bs ((fun w=>H w v)::fs)->Fr nt a' ((d,v)::L)->wpS P ops Q rest a' w'):wpS P ops Q (o::rest) a w:=
 S.callg (H:=fun v w=>H w v) st hF hg hr hc (fun _ _ h=>h) hcl hd hlt hf k
theorem rE (hall:∀(i s:Nat),ds[i]?=some s->Hat Hs i w (a.tmps.getD s undef)) (hF:Fr nt a L) (i:Nat) (hs:ds[i]?=some s) (hH:Hs[i]?=some fun _ v=>v=x):Fr nt a ((s,x)::L):=hF.add (sSe hall i s hs hH)
theorem rS (hall:∀(i s:Nat),ds[i]?=some s->Hat Hs i w (a.tmps.getD s undef)) (hF:Fr nt a L) (st:St W w bs fs) (i:Nat) (hs:ds[i]?=some s) (hH:Hs[i]?=some H) (hc:∀v,Cl fun w=>H w v):∃v,Fr nt a ((s,v)::L)/\St W w bs ((fun w=>H w v)::fs):=by
 obtain⟨v,e,h⟩:=sS hall i s hs hH
 exact⟨v,hF.add e,st.add h (hc v)⟩
end
section
variable {P:Program} {ops:Array Oper} {Q:Exit->Act->World->Prop} {nt:Nat} {L:List (Nat×Value)} {W:World} {ds:List Nat} {ks:List Pk} {al:List Nat} {i s:Nat} {dst:Option Tmp} {ty:TypeId} {pos:String} {af:Array Edge} {v:Value}
theorem rm (j:Nat) (h:(L[j]?,al.contains i,ks[i]?)=(some (s,v),false,some (.ex v))):dR P ops Q nt L W ds (ks.map Pk.H) al i ⟨dst,.move (.tmp s),ty,pos,af,none⟩:=by
 simp only [Prod.mk.injEq] at h
 exact rd h.2.1 h.2.2 fun a' w' hF _=>aI (hF.at j h.1)
end
def sk (W:World) (zs:List Value) (w:World) (v:Value):Prop:=∃g,v= .pointer (some ⟨g,0,none⟩)/\W.heap.size<=g/\Own w g zs
theorem sk.mb (W:World) (zs:List Value):Mb (sk W zs):=fun _ _ _ ⟨g,e,l,o⟩ hb=>⟨g,e,l,o.below hb⟩
abbrev kn (W:World) (zs:List Value):Pk:= .of (sk W zs) (sk.mb W zs)
def qE (W:World) (zs:List Value) (w:World) (v:Value):Prop:=∃g,v= .pointer (some ⟨g,0,none⟩)/\W.heap.size<=g/\Blk w g zs
theorem qE.mb (W:World) (zs:List Value):Mb (qE W zs):=fun _ _ _ ⟨g,e,l,o⟩ hb=>⟨g,e,l,o.below hb⟩
abbrev kb (W:World) (zs:List Value):Pk:= .of (qE W zs) (qE.mb W zs)
section
variable {P:Program} {ops:Array Oper} {Q:Exit->Act->World->Prop} {nt n:Nat} {L:List (Nat×Value)} {W:World} {ds:List Nat} {ks:List Pk} {al:List Nat} {i d:Nat} {ty:TypeId} {pos:String} {af:Array Edge} {T:TypeId} {zs:List Value}
theorem ra (hT:Ty P T n zs) (hc:zs.all bB=true) (h:(ks[i]?,al.contains i)=(some (kn W zs),true)):dR P ops Q nt L W ds (ks.map Pk.H) al i ⟨some d,.alloc T,ty,pos,af,none⟩:=by
 simp only [Prod.mk.injEq] at h
 intro a' w' hF' hb hd
 have hH:(ks.map Pk.H)[i]?=some (sk W zs):=by rw[List.getElem?_map,h.1];rfl
 exact da0 hT hc hb.size hH
theorem rai (hT:Ty P T n zs) (h:(ks[i]?,al.contains i)=(some (kb W zs),true)):dR P ops Q nt L W ds (ks.map Pk.H) al i ⟨some d,.alloc T,ty,pos,af,none⟩:=by
 simp only [Prod.mk.injEq] at h
 intro a' w' hF' hb hd
 have hH:(ks.map Pk.H)[i]?=some (qE W zs):=by rw[List.getElem?_map,h.1];rfl
 exact yd hT hb.size hH
end
section
variable {P:Program} {Q:Exit->Act->World->Prop}
theorem E.rg {nt id:Nat} (n:Nat) {l:List Oper} {L:List (Nat×Value)} {a:Act} {w:World} (hm:P.follows .mixedOrders =true) (hF:Fr nt a L) (ds:List Nat) (ks:List Pk) (hback:(ce l.toArray && cV l.toArray n)=true) (hn:Nat.ble n l.length=true) (hds:cP l.toArray n=ds.map some) (hap:dT ds nt L=true)
 (steps:fv P l.toArray Q nt L w ds (ks.map Pk.H) [] 0 (l.take n))
 (tail:∀(a':Act) (w':World),Fr nt a' L->Below w.heap.size w w'->(∀(i s:Nat),ds[i]?=some s->Hat (ks.map Pk.H) i w' (a'.tmps.getD s undef))->wpS P l.toArray Q (l.drop n) a' w'):
 (Code.region id l.toArray true).wp P Q a w:=by
 rw[Bool.and_eq_true] at hback
 exact E.drawn n hm hF ds (ks.map Pk.H) [] hback.1 hback.2 hn hds hap (ow ks) trivial steps fun a' w' h1 h2 h3 _=>tail a' w' h1 h2 h3
theorem E.rga {nt id:Nat} (n:Nat) {l:List Oper} {L:List (Nat×Value)} {a:Act} {w:World} (hm:P.follows .mixedOrders =true) (hF:Fr nt a L) (ds:List Nat) (ks:List Pk) (al:List Nat) (hA:jl (ks.map Pk.H) al) (hback:(ce l.toArray && cV l.toArray n)=true) (hn:Nat.ble n l.length=true) (hds:cP l.toArray n=ds.map some) (hap:dT ds nt L=true)
 (steps:fv P l.toArray Q nt L w ds (ks.map Pk.H) al 0 (l.take n))
 (tail:∀(a':Act) (w':World),Fr nt a' L->Below w.heap.size w w'->(∀(i s:Nat),ds[i]?=some s->Hat (ks.map Pk.H) i w' (a'.tmps.getD s undef))->
   (∀(i j s t:Nat),al.contains i=true->al.contains j=true->i≠j->ds[i]?=some s->ds[j]?=some t->a'.tmps.getD s undef≠a'.tmps.getD t undef)->wpS P l.toArray Q (l.drop n) a' w'):
 (Code.region id l.toArray true).wp P Q a w:=by
 rw[Bool.and_eq_true] at hback
 exact E.drawn n hm hF ds (ks.map Pk.H) al hback.1 hback.2 hn hds hap (ow ks) hA steps tail
end
section
variable {Q:Exit->Act->World->Prop} {a:Act} {w:World}
theorem E.pastr {R:Act->World->Prop} (h:Q .ret a w):Exit.then R Q .ret a w:=h
theorem E.jumpr {l:Nat} {J:Act->World->Prop} (h:Q .ret a w):Exit.jump l J Q .ret a w:=h
end
end
end
class K7 (H:World->Value->Prop):Prop where
 cl:∀v,Cl fun w=>H w v
 sh:∀w v,H w v->∃r:R7,v=r.v
instance k7l {q:Rat} {k:Nat}:K7 (Rl q k):=⟨Rl.cl,fun _ _ h=>Rq.fo h.1⟩
theorem ksH {ks:List Pk} {i:Nat} {H:World->Value->Prop} {M:Mb H} (h:ks[i]?=some (.of H M)):(ks.map Pk.H)[i]?=some H:=by rw[List.getElem?_map,h];rfl
section
variable {P:Program} {Q:Exit->Act->World->Prop} {nt id s t g:Nat} {l rest:List Oper} {L:List (Nat×Value)} {a:Act} {W w:World} {bs:List (Nat×List Value)} {fs:List (World->Prop)} {T:TypeId} {ty:TypeId} {pos:String} {af:Array Edge} {zs cs:List Value} {H:World->Value->Prop} {M:Mb H}
theorem gz1 (n:Nat) (hm:P.follows .mixedOrders =true) (st:St W w bs fs) (hF:Fr nt a L) (hT:Ty P T 3 zs) (ds:List Nat) (ks:List Pk) (hb:(ce l.toArray && cV l.toArray n)=true) (hn:(Nat.ble n l.length && dT ds nt L)=true) (hds:cP l.toArray n=ds.map some)
 (hx:(l.drop n,ds[n-2]?,ds[n-1]?,ks[n-2]?,ks[n-1]?,Nat.beq zs.length 3 && zs.all bB)=(⟨none,.store T (.tmp t) (.tmp s),ty,pos,af,none⟩::rest,some s,some t,some (.of H M),some (kn w zs),true)) [K:K7 H]
 (steps:fv P l.toArray Q nt L w ds (ks.map Pk.H) [n-1] 0 (l.take n))
 (k:∀(r:R7) (g:Nat) (w':World) (a':Act),St W w' ((g,r.l)::bs) ((fun w=>H w r.v)::fs)->Fr nt a' ((t,.pointer (some ⟨g,0,none⟩))::(s,r.v)::L)->wpS P l.toArray Q rest a' w'):
 (Code.region id l.toArray true).wp P Q a w:=by
 simp only [Prod.mk.injEq] at hx
 obtain⟨h1,h2,h3,h4,h5,h6⟩:=hx
 have hH:=ksH h4
 have hN:=ksH h5
 refine E.rga n hm hF ds ks [n-1] ⟨fun w v h=>?_,trivial⟩ hb (bQ hn).1 hds (bQ hn).2 steps ?_
 ·unfold Hat at h
  rw[hN] at h
  obtain⟨g,e,_,o⟩:=h
  exact⟨g,e,o.lt⟩
 ·intro a' w' hF' bb hall _
  obtain⟨v,e,hv⟩:=sS hall (n-2) s h2 hH
  obtain⟨r,rfl⟩:=K.sh _ _ hv
  obtain⟨_,e2,g,rfl,ge,o⟩:=sS hall (n-1) t h3 hN
  rw[h1]
  exact so (((st.to bb).add hv (K.cl _)).push o.blk (Nat.le_trans st.bel.size ge) (st.ne ge)) ((hF'.add e).add e2) 0 0 1 hT rfl rfl rfl (by rw[(bQ h6).1,(bQ h6).2];rfl) (k r g)
theorem gz2 (n:Nat) (hm:P.follows .mixedOrders =true) (st:St W w bs fs) (hF:Fr nt a L) (hT:Ty P T 3 zs) (b p:Nat) (ds:List Nat) (ks:List Pk) (hb:(ce l.toArray && cV l.toArray n)=true) (hn:(Nat.ble n l.length && dT ds nt L)=true) (hds:cP l.toArray n=ds.map some)
 (hx:(l.drop n,ds[n-1]?,ks[n-1]?,bs[b]?,L[p]?,Nat.beq cs.length 3 && cs.all bB)=(⟨none,.store T (.tmp t) (.tmp s),ty,pos,af,none⟩::rest,some s,some (.of H M),some (g,cs),some (t,.pointer (some ⟨g,0,none⟩)),true)) [K:K7 H]
 (steps:fv P l.toArray Q nt L w ds (ks.map Pk.H) [] 0 (l.take n))
 (k:∀(r:R7) (w':World) (a':Act),St W w' (bs.set b (g,r.l)) ((fun w=>H w r.v)::fs)->Fr nt a' ((s,r.v)::L)->wpS P l.toArray Q rest a' w'):
 (Code.region id l.toArray true).wp P Q a w:=by
 simp only [Prod.mk.injEq] at hx
 obtain⟨h1,h2,h4,h5,h7,h6⟩:=hx
 have hH:=ksH h4
 refine E.rg n hm hF ds ks hb (bQ hn).1 hds (bQ hn).2 steps ?_
 intro a' w' hF' bb hall
 obtain⟨v,e,hv⟩:=sS hall (n-1) s h2 hH
 obtain⟨r,rfl⟩:=K.sh _ _ hv
 rw[h1]
 exact so ((st.to bb).add hv (K.cl _)) (hF'.add e) b (p+1) 0 hT h5 h7 rfl (by rw[(bQ h6).1,(bQ h6).2];rfl) (k r)
end
abbrev KO (f:FuncId):Prop:=qS Tryz.prog f
theorem ko {f:FuncId} {fn:Func} (h:Tryz.prog.funcs[f]?=some fn) (g:(!(fn.name=="runtime.NumGoroutine") && !fn.body.isNone)=true:=by decide+kernel):KO f:=⟨fn,h,by simpa using (bQ g).1,by simpa using (bQ g).2⟩
theorem k33:KO 33:=ko Tryz.func33
theorem k25:KO 25:=ko Tryz.func25
theorem CN:KO 253:=ko Tryz.func253
theorem k65:KO 65:=ko Tryz.func65
theorem Aa:KO 254:=ko Tryz.func254
theorem FE:KO 128:=ko Tryz.func128
theorem k83:KO 83:=ko Tryz.func83
theorem FQ:KO 147:=ko Tryz.func147
theorem k79:KO 79:=ko Tryz.func79
theorem F0:KO 154:=ko Tryz.func154
theorem Fw:KO 157:=ko Tryz.func157
theorem sj:KO 150:=ko Tryz.func150
theorem k18:KO 18:=ko Tryz.func18
theorem zD:KO 123:=ko Tryz.func123
theorem k58:KO 58:=ko Tryz.func58
theorem FR:KO 122:=ko Tryz.func122
theorem k32:KO 32:=ko Tryz.func32
theorem k56:KO 56:=ko Tryz.func56
theorem k15:KO 15:=ko Tryz.func15
theorem CC:KO 208:=ko Tryz.func208
theorem k64:KO 64:=ko Tryz.func64
theorem ve:KO 148:=ko Tryz.func148
theorem k66:KO 66:=ko Tryz.func66
theorem k54:KO 54:=ko Tryz.func54
theorem k81:KO 81:=ko Tryz.func81
theorem k80:KO 80:=ko Tryz.func80
theorem jr:KO 146:=ko Tryz.func146
theorem k93:KO 93:=ko Tryz.func93
theorem k82:KO 82:=ko Tryz.func82
theorem k28:KO 28:=ko Tryz.func28
theorem k30:KO 30:=ko Tryz.func30
theorem k27:KO 27:=ko Tryz.func27
theorem k77:KO 77:=ko Tryz.func77
theorem DM:KO 127:=ko Tryz.func127
theorem FF:KO 209:=ko Tryz.func209
theorem jt:KO 158:=ko Tryz.func158
section
section
section
variable {P:Program} {f:FuncId} {args:Array Value} {w:World}
abbrev kDg (N:Nat):Pk:= .of (fun w v=>Dg w .u32 B32 v N) (fun _ _ _ h hb=>h.below hb)
abbrev kWc (z:Int):Pk:= .of (fun w v=>Wc w v z) (fun _ _ _ h hb=>h.below hb)
theorem aY {N:Nat} (h:Calls P f args w (gv w N)):Calls P f args w (Ret (kDg N) w):=h
theorem dV {z:Int} (h:Calls P f args w (dZ w z)):Calls P f args w (Ret (kWc z) w):=h
end
section
variable {P:Program} {ops:Array Oper} {Q:Exit->Act->World->Prop} {nt:Nat} {L:List (Nat×Value)} {W:World} {ds:List Nat} {ks:List Pk} {al:List Nat} {i:Nat} {dst:Option Tmp} {ty:TypeId} {pos:String} {af:Array Edge}
theorem rfd {T:TypeId} {x:Operand} {f s g o p:Nat} (j:Nat) (fa:∀w:World,(Instr.fieldAt T (.pointer (some ⟨g,o,none⟩)) f).run P w= .ok (.pointer (some ⟨g,p,none⟩)) w) (h:(x,L[j]?,al.contains i,ks[i]?)=(.tmp s,some (s,.pointer (some ⟨g,o,none⟩)),false,some (.ex (.pointer (some ⟨g,p,none⟩))))):
 dR P ops Q nt L W ds (ks.map Pk.H) al i ⟨dst,.fieldAddr T x f,ty,pos,af,none⟩:=by
 simp only [Prod.mk.injEq] at h
 obtain⟨hx,hj,ha,hi⟩:=h
 exact rd ha hi fun a' w' hF hb=>by
  subst hx
  exact ao (hF.at j hj) (fa w')
theorem rld {T:TypeId} {x:Operand} {g o:Nat} {v:Value} (h:(lA af ds x && !al.contains i,ks[i]?,sF L ds ks x)=(true,some (.ex v),.ex (.pointer (some ⟨g,o,none⟩)))) (hl:∀w':World,Below W.heap.size W w'->(Instr.loadAt T (.pointer (some ⟨g,o,none⟩))).run P w'= .ok v w'):
 dR P ops Q nt L W ds (ks.map Pk.H) al i ⟨dst,.load T x,ty,pos,af,none⟩:=by
 intro a' w' hF hb hd
 simp only [Prod.mk.injEq] at h
 obtain⟨h1,h2,h3⟩:=h
 rw[Bool.and_eq_true,Bool.not_eq_true'] at h1
 have hx:=rj hF hd x h1.1
 rw[h3] at hx
 exact cR (bh rfl) (bg.vals (aq hx (hl w' hb)) ⟨by rw[jJ,h2];rfl,Below.refl _ _,fun y=>by rw[h1.2] at y;cases y⟩)
end
end
end
end Go.Proofs.YtgdpkknapcgcbaaGreatDoor
