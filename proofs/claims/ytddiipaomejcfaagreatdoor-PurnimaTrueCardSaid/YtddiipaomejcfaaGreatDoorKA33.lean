import Derived.Test.YtddiipaomejcfaaGreatDoorKA32
namespace Go.Proofs.YtddiipaomejcfaaGreatDoor
open Go.RowKit
set_option maxRecDepth 100000
set_option linter.unusedVariables false
set_option maxHeartbeats 8000000
def fdP (a b c d y m:Int) (l:Bool) (x:Int) (g:Bool) (n:Int):Prop:=
 -3000000<=n/\n<=3000000/\(smV (amL n a b c d)+1)/12-1955883044=y/\(smV (amL n a b c d)+1)%12+1=m/\decide (smV (ag (amL n a b c d))=smV (amL n a b c d))=l/\amX n a b c d%30+1=x/\decide (amX (n-1) a b c d=amX n a b c d)=g
theorem vk (a b c d y m:Int) (l:Bool) (x:Int) (g:Bool):∃r:Int×Int,(r.2=0/\fdP a b c d y m l x g r.1)\/(r.2=3/\r.1=0/\∀n,¬fdP a b c d y m l x g n):=
 (Classical.em (∃n,fdP a b c d y m l x g n)).elim (fun⟨n,h⟩=>⟨(n,0),.inl ⟨rfl,h⟩⟩) fun h=>⟨(0,3),.inr ⟨rfl,rfl,fun n q=>h ⟨n,q⟩⟩⟩
noncomputable def fdN (a b c d y m:Int) (l:Bool) (x:Int) (g:Bool):Int:=(Classical.choose (vk a b c d y m l x g)).1
noncomputable def fdE (a b c d y m:Int) (l:Bool) (x:Int) (g:Bool):Int:=(Classical.choose (vk a b c d y m l x g)).2
theorem gu (a b c d y m:Int) (l:Bool) (x:Int) (g:Bool):(fdE a b c d y m l x g=0/\fdP a b c d y m l x g (fdN a b c d y m l x g))\/(fdE a b c d y m l x g=3/\fdN a b c d y m l x g=0/\∀n,¬fdP a b c d y m l x g n):=Classical.choose_spec (vk a b c d y m l x g)
theorem u6 {n L y m a b c d:Int} {l:Bool} {x:Int} {g:Bool} (p:fdP a b c d y m l x g n) (e:amL n a b c d=L):smV L=fiS y m:=by
 obtain⟨_,_,h1,h2,_⟩:=p
 rw[e] at h1 h2
 unfold fiS
 omega
theorem tG {a b c d y m x:Int} {l g:Bool} (h:bz a b c d) {n k:Int} (p:fdP a b c d y m l x g n) (q:fdP a b c d y m l x g k):n=k:=by
 have s1:=u6 p rfl
 have s2:=u6 q rfl
 obtain⟨_,_,_,_,p5,p6,p7⟩:=p
 obtain⟨_,_,_,_,q5,q6,q7⟩:=q
 have c1:=dA n a b c d
 have c2:=dA k a b c d
 have g1:=fc c1
 have g2:=fc c2
 have t1:=oJ h (n-1)
 have t2:=oJ h (k-1)
 rw[show n-1+1=n by omega] at t1
 rw[show k-1+1=k by omega] at t2
 have e1:=decide_eq_decide.1 (p5.trans q5.symm)
 have e2:=decide_eq_decide.1 (p7.trans q7.symm)
 have e:amL n a b c d=amL k a b c d:=BP c1 c2 (s1.trans s2.symm) (by omega)
 refine Cr (((c:Int):Rat)/((d:Int):Rat)) h.la.1 h.la.2 (m:=n) (n:=k) e ?_ ?_
 ·show amX n a b c d%30=amX k a b c d%30
  omega
 ·show amX (n-1) a b c d%30=amX n a b c d%30↔amX (k-1) a b c d%30=amX k a b c d%30
  omega
theorem wZ {a b c d y m x:Int} {l g:Bool} (h:bz a b c d) {n:Int} (p:fdP a b c d y m l x g n):n=fdN a b c d y m l x g/\0=fdE a b c d y m l x g:=by
 rcases gu a b c d y m l x g with s|s
 ·exact⟨tG h p s.2,s.1.symm⟩
 ·exact absurd p (s.2.2 n)
theorem A8 {a b c d y m x:Int} {l g:Bool} (p:∀n,¬fdP a b c d y m l x g n):0=fdN a b c d y m l x g/\3=fdE a b c d y m l x g:=by
 rcases gu a b c d y m l x g with s|s
 ·exact absurd s.2 (p _)
 ·exact⟨s.2.1.symm,s.1.symm⟩
theorem tY {a b c d y m x:Int} {l g:Bool} (h:bz a b c d) {n:Int} (p:fdP a b c d y m l x g n):amL n a b c d+(x-1)*63/64-4<=n/\n<=amL n a b c d+(x-1)*63/64+5:=by
 obtain⟨_,_,_,_,_,p6,_⟩:=p
 have r:amL n a b c d+(amX n a b c d%30)*63/64-4<=n/\n<=amL n a b c d+(amX n a b c d%30)*63/64+5:=Cg h.la.1 h.la.2 h.lo.1 h.lo.2 n
 rwa[show amX n a b c d%30=x-1 by omega] at r
def fiB (y m n:Int):Bool:=decide (smV n=fiS y m)
noncomputable def fiU (y m d:Int):Nat->List Int
 |0=>[]
 |k+1=>fiU y m d k++(if fiB y m (moD d k)=true then[moD d k] else[])
noncomputable def fiL (y m:Int):List Int:=fiU y m (ar (((fiE y m-5:Int)):Rat)) 3
noncomputable def ga:List Int->List Value
 |[]=>[]
 |n::l=>moC n (ag n)++ga l
theorem s6:∀k l:List Int,ga (k++l)=ga k++ga l
 |[],_=>rfl
 |n::k,l=>by show moC n (ag n)++ga (k++l)=(moC n (ag n)++ga k)++ga l;rw[s6 k l,List.append_assoc]
theorem kX (y m:Int):fiE y m-39<=ar (((fiE y m-5:Int)):Rat)/\ar (((fiE y m-5:Int)):Rat)<=fiE y m-5/\aY (ar (((fiE y m-5:Int)):Rat))=true:=by
 have b:=nD (((fiE y m-5:Int)):Rat)
 rw[Rat.floor_intCast] at b
 exact⟨by omega,b.2,dF _⟩
theorem BV {y m n:Int} (hm:1<=m) (hm2:m<=12) (h1:n<=fiE y m+40):fiB y m n=true↔fiE y m-5<=n/\(smV n+1)%12+1=m:=by
 unfold fiB
 rw[decide_eq_true_iff]
 constructor
 ·intro e
  have w:=lw e
  have:=(Bk (s:=smV n) (y:=y) hm hm2).1 e
  omega
 ·intro e
  exact FG e.1 h1 e.2
theorem uc {y m d:Int} {k:Nat} (h:fiB y m (moD d k)=true):fiU y m d (k+1)=fiU y m d k++[moD d k]:=by
 show fiU y m d k++_=_
 rw[if_pos h]
theorem oa {y m d:Int} {k:Nat} (h:¬fiB y m (moD d k)=true):fiU y m d (k+1)=fiU y m d k:=by
 show fiU y m d k++_=_
 rw[if_neg h,List.append_nil]
theorem tK {d:Int} (h:aY d=true) {D:Int} (hD:aY D=true):∀k:Nat,d<=D->D<moD d k->∃j,j<k/\D=moD d j
 |0,l,g=>by have:moD d 0=d:=rfl;omega
 |k+1,l,g=>by
  by_cases q:D<moD d k
  ·obtain⟨j,hj,e⟩:=tK h hD k l q
   exact⟨j,by omega,e⟩
  ·refine⟨k,by omega,?_⟩
   have s:=bJ (ft h k)
   have t:moD d (k+1)=ag (moD d k):=rfl
   by_cases e:D=moD d k
   ·exact e
   ·exact absurd hD (s.2.2.2 D (by omega) (by omega))
theorem pi {y m d:Int} {D:Int}:∀k,D∈fiU y m d k↔∃j,j<k/\D=moD d j/\fiB y m D=true
 |0=>⟨fun h=>(List.not_mem_nil h).elim,fun⟨j,h,_⟩=>absurd h (Nat.not_lt_zero j)⟩
 |k+1=>by
  show D∈fiU y m d k++_↔_
  rw[List.mem_append,pi k]
  constructor
  ·rintro(⟨j,h,e⟩|h)
   ·exact⟨j,by omega,e⟩
   ·split at h
    ·rename_i q
     rw[List.mem_singleton] at h
     exact⟨k,by omega,h,by rw[h];exact q⟩
    ·exact(List.not_mem_nil h).elim
  ·rintro⟨j,h,e,q⟩
   by_cases t:j=k
   ·subst t
    right
    rw[if_pos (by rw[<-e];exact q),List.mem_singleton];exact e
   ·exact .inl ⟨j,by omega,e,q⟩
theorem D3 {y m D:Int}:D∈fiL y m->aY D=true/\smV D=fiS y m:=by
 intro h
 obtain⟨j,_,e,q⟩:=(pi 3).1 h
 exact⟨by rw[e];exact ft (kX y m).2.2 j,of_decide_eq_true q⟩
theorem D8 {y m D:Int} (h:aY D=true) (e:smV D=fiS y m):D∈fiL y m:=by
 have s:=kX y m
 have w:=lw e
 have b:=oe s.2.2 3
 obtain⟨j,hj,q⟩:=tK s.2.2 h 3 (by omega) (by omega)
 exact(pi 3).2 ⟨j,hj,q,decide_eq_true e⟩
theorem zn (y m:Int):fiL y m=[]\/(∃D,fiL y m=[D]/\aY D=true/\smV D=fiS y m/\smV (ag D)≠smV D)\/(∃D,fiL y m=[D,ag D]/\aY D=true/\smV D=fiS y m/\smV (ag D)=smV D/\smV (ag (ag D))≠smV D):=by
 have st:=kX y m
 have s:=st.2.2
 have b3:=oe s 3
 have w:smV (moD (ar (((fiE y m-5:Int)):Rat)) 3)≠fiS y m:=fun e=>by have:=lw e;omega
 unfold fiL
 generalize ar (((fiE y m-5:Int)):Rat)=d at*
 have c1:=ft s 1
 have c2:=ft s 2
 have n0:ag d=moD d 1:=rfl
 have n1:ag (moD d 1)=moD d 2:=rfl
 have n2:ag (moD d 2)=moD d 3:=rfl
 have u:fiU y m d 3=((([]:List Int)++if fiB y m d=true then[d] else[])++if fiB y m (moD d 1)=true then[moD d 1] else[])++if fiB y m (moD d 2)=true then[moD d 2] else[]:=rfl
 rw[u]
 have t0:=qQ s
 have t1:=qQ c1
 rw[n0,n1] at t0
 rw[n1,n2] at t1
 have yes:∀ {n:Int} {l:List Int},smV n=fiS y m->(if fiB y m n=true then l else[])=l:=fun e=>if_pos (decide_eq_true e)
 have no:∀ {n:Int} {l:List Int},smV n≠fiS y m->(if fiB y m n=true then l else[])=[]:=fun e=>if_neg (by unfold fiB;rw[decide_eq_false e];decide)
 by_cases e0:smV d=fiS y m
 ·have x2:smV (moD d 2)≠fiS y m:=by omega
  by_cases e1:smV (moD d 1)=fiS y m
  ·rw[yes e0,yes e1,no x2]
   exact .inr (.inr ⟨d,rfl,s,e0,by rw[n0,e1,e0],by rw[n0,n1];omega⟩)
  ·rw[yes e0,no e1,no x2]
   exact .inr (.inl ⟨d,rfl,s,e0,by rw[n0];omega⟩)
 ·by_cases e1:smV (moD d 1)=fiS y m
  ·by_cases e2:smV (moD d 2)=fiS y m
   ·rw[no e0,yes e1,yes e2]
    exact .inr (.inr ⟨moD d 1,rfl,c1,e1,by rw[n1,e2,e1],by rw[n1,n2];omega⟩)
   ·rw[no e0,yes e1,no e2]
    exact .inr (.inl ⟨moD d 1,rfl,c1,e1,by rw[n1];omega⟩)
  ·by_cases e2:smV (moD d 2)=fiS y m
   ·rw[no e0,no e1,yes e2]
    exact .inr (.inl ⟨moD d 2,rfl,c2,e2,by rw[n2];omega⟩)
   ·rw[no e0,no e1,no e2]
    exact .inl rfl
theorem jj {y m:Int} (h0: -9000<=y) (h1:y<=9000) (hm:1<=m) (hm2:m<=12): -3400000<=fiE y m/\fiE y m<=3400000:=by
 have a:=Rat.intCast_le_intCast.2 (show 12*(-9000+3044)-1<=12*(y+3044)+(m-2) by omega)
 have b:=Rat.intCast_le_intCast.2 (show 12*(y+3044)+(m-2)<=12*(9000+3044)+10 by omega)
 have p:pyr=1577917828000/4320000000:=rfl
 unfold fiE
 constructor
 ·refine Rat.le_floor_iff.2 ?_
  unfold fR
  rw[show((12:Int):Rat)=12 from rfl,show((-1132959:Int):Rat)= -1132959 from rfl,show((-3400000:Int):Rat)= -3400000 from rfl,p]
  rw[show((12*(-9000+3044)-1:Int):Rat)=12*(-9000+3044)-1 by decide+kernel] at a
  grind
 ·refine Int.lt_add_one_iff.1 (Rat.floor_lt_iff.2 ?_)
  unfold fR
  rw[show((12:Int):Rat)=12 from rfl,show((-1132959:Int):Rat)= -1132959 from rfl,show((3400000+1:Int):Rat)=3400001 from rfl,p]
  rw[show((12*(9000+3044)+10:Int):Rat)=12*(9000+3044)+10 by decide+kernel] at b
  grind
theorem lY:∀(l:List Int) (more:List Value) {i:Nat},i<l.length->((ga l++more).drop (4*i)).take 4=moC (l.getD i 0) (ag (l.getD i 0))
 |[],_,i,h=>absurd h (Nat.not_lt_zero i)
 |n::l,more,0,_=>rfl
 |n::l,more,i+1,h=>by
  show(((moC n (ag n)++ga l)++more).drop (4*(i+1))).take 4=moC (l.getD i 0) (ag (l.getD i 0))
  rw[List.append_assoc,show 4*(i+1)=4+4*i by omega,<-List.drop_drop]
  exact lY l more (Nat.lt_of_succ_lt_succ h)
noncomputable def fiD (y m:Int) (i:Nat):Int:=(fiL y m).getD i 0
theorem CX {y m:Int} {i:Nat} (h:i<(fiL y m).length):fiD y m i∈fiL y m:=by
 unfold fiD
 rw[List.getD_eq_getElem?_getD,List.getElem?_eq_getElem h]
 exact List.getElem_mem h
theorem qN {y m:Int} {i:Nat} (h:i<(fiL y m).length):aY (fiD y m i)=true/\smV (fiD y m i)=fiS y m:=D3 (CX h)
theorem sf {y m:Int} {i:Nat} (h:i<(fiL y m).length):fiE y m-4<=fiD y m i/\fiD y m i<=fiE y m+35:=lw (qN h).2
theorem ms {y m D:Int} (h:aY D=true) (e:smV D=fiS y m):∃i,i<(fiL y m).length /\D=fiD y m i:=by
 obtain⟨i,hi,q⟩:=List.getElem_of_mem (D8 h e)
 refine⟨i,hi,?_⟩
 unfold fiD
 rw[List.getD_eq_getElem?_getD,List.getElem?_eq_getElem hi]
 exact q.symm
theorem pw (y m:Int):(fiL y m).length <=2:=by
 rcases zn y m with h|⟨D,h,_⟩|⟨D,h,_⟩ <;> rw[h] <;> simp
theorem CY (y m d:Int):∀ {k:Nat},k<=3->(fiU y m d k).length <=3
 |0,_=>Nat.zero_le _
 |k+1,h=>by
  have aux:∀j,(fiU y m d j).length <=j:=by
   intro j
   induction j with
   |zero=>exact Nat.le_refl _
   |succ j ih=>
    show(fiU y m d j++_).length <=_
    rw[List.length_append]
    split <;> simp <;> omega
  have:=aux (k+1)
  omega
def d7 (y m x a b c d:Int):Int:=if plE a b c d≠0 then plE a b c d else if m<1\/12<m\/x<1\/30<x then 4 else if y< -9000\/9000<y then 2 else 0
theorem BD {y m x a b c d:Int} (h:plE a b c d=0) (k:¬(m<1\/12<m\/x<1\/30<x)) (j:¬(y< -9000\/9000<y)):d7 y m x a b c d=0:=by unfold d7;rw[if_neg (by omega),if_neg k,if_neg j]
theorem DT {t:Rat} (h0: -3001000<=t) (h1:t<=3001000):12*(1955880000-5200)<=kaV t/\kaV t<12*(1955880000+11400):=by
 have n:=bM (ev t)
 rw[show((22:Int):Rat)/((10:Int):Rat)=22/10 by decide+kernel] at n
 have p:=gP
 have a:(-3001000-cre)/pyr<=aQ t pyr:=by
  unfold aQ
  exact Rat.not_lt.1 fun q=>by rw[Rat.div_lt_iff p,Rat.div_mul_cancel (by grind)] at q;grind
 have b:aQ t pyr<=(3001000-cre)/pyr:=by
  unfold aQ
  exact Rat.not_lt.1 fun q=>by rw[Rat.div_lt_iff p,Rat.div_mul_cancel (by grind)] at q;grind
 have a2:1955880000-5199<=(-3001000-cre)/pyr:=by decide+kernel
 have b2:(3001000-cre)/pyr<=1955880000+11399:=by decide+kernel
 constructor
 ·refine kt ?_
  unfold cd
  rw[show((360:Int):Rat)=360 from rfl,show((12*(1955880000-5200):Int):Rat)=12*(1955880000-5200) by decide+kernel]
  grind
 ·refine lW ?_
  unfold cd
  rw[show((360:Int):Rat)=360 from rfl,show((12*(1955880000+11400):Int):Rat)=12*(1955880000+11400) by decide+kernel]
  grind
theorem qB {a b c d:Int} (h:bz a b c d) {n L:Int} (h0: -3000000<=n) (h1:n<=3000000) (e:amL n a b c d=L):12*(1955880000-5200)<=smV L/\smV L<12*(1955880000+11400):=by
 subst e
 have r:=jV h n
 have bd:=dC (amL n a b c d)
 have c0:=Rat.intCast_le_intCast.2 (show -3000040<=amL n a b c d by omega)
 have c1:=Rat.intCast_le_intCast.2 (show amL n a b c d<=3000002 by omega)
 rw[show((-3000040:Int):Rat)= -3000040 from rfl] at c0
 rw[show((3000002:Int):Rat)=3000002 from rfl] at c1
 exact DT (t:=nmR (amL n a b c d)) (by grind) (by grind)
theorem Cp {a b c d:Int} (h:bz a b c d) {n L X Y:Int} (h0: -3000000<=n) (h1:n<=3000000) (hL:amL n a b c d=L) (hX:amX n a b c d=X) (hY:amX (n-1) a b c d=Y):
 fdN a b c d ((smV L+1)/12-1955883044) ((smV L+1)%12+1) (decide (smV (ag L)=smV L)) (X%30+1) (decide (Y=X))=n/\fdE a b c d ((smV L+1)/12-1955883044) ((smV L+1)%12+1) (decide (smV (ag L)=smV L)) (X%30+1) (decide (Y=X))=0:=by
 subst hL hX hY
 have r:=wZ h (n:=n) ⟨h0,h1,rfl,rfl,rfl,rfl,rfl⟩
 exact⟨r.1.symm,r.2.symm⟩
theorem tF {x:Rat} (n:Int) (h0:495/2<=x-((360:Int):Rat)*((n:Int):Rat)) (h1:x-((360:Int):Rat)*((n:Int):Rat)<=585/2):sof x<= -3177/3438:=by
 have e:sof x=sof (x-((360:Int):Rat)*((n:Int):Rat)):=by
  have:=gU (x-((360:Int):Rat)*((n:Int):Rat)) n
  rw[show x-((360:Int):Rat)*((n:Int):Rat)+((360:Int):Rat)*((n:Int):Rat)=x by grind] at this
  exact this
 rw[e]
 generalize x-((360:Int):Rat)*((n:Int):Rat)=b at*
 have k:sof (-(135/2))= -3177/3438:=by decide+kernel
 have up:∀p:Rat, -90<=p->p<= -(135/2)->sof p<= -3177/3438:=by
  intro p p0 p1
  by_cases q:p= -(135/2)
  ·rw[q,k];exact Rat.le_refl
  ·have:=je (p:=p) (q:= -(135/2)) (by rw[show((-90:Int):Rat)= -90 from rfl];exact p0) (by grind) (by rw[show((90:Int):Rat)=90 from rfl];grind)
   rw[k] at this
   exact Rat.le_of_lt this
 by_cases q:270<=b
 ·have t:=gU (b-360) 1
  rw[show b-360+((360:Int):Rat)*((1:Int):Rat)=b by rw[show((360:Int):Rat)=360 from rfl,show((1:Int):Rat)=1 from rfl];grind] at t
  rw[t]
  exact up _ (by grind) (by grind)
 ·have t:=sZ b
  rw[show((180:Int):Rat)=180 from rfl] at t
  rw[<-t]
  exact up _ (by grind) (by grind)
theorem BE (t:Rat):((360:Int):Rat)*aQ t pay=cd t+b6 t-139320/1577917828000*(t-cre):=by
 have i1:pay⁻¹ =4319999613/1577917828000:=by decide+kernel
 have i2:pyr⁻¹ =4320000000/1577917828000:=by decide+kernel
 unfold cd aQ
 rw[Rat.div_def,Rat.div_def,i1,i2,show((360:Int):Rat)=360 from rfl]
 grind
theorem Fk {L:Int} (h:aY L=true) (h0: -3500000<=L) (h1:L<=3500000) (e:smV L%12=10):smV (ag L)<=smV L+1:=by
 refine Int.not_lt.1 fun q=>?_
 have s:=bJ h
 have n1:=jK h
 have n2:=jK s.2.2.1
 have nb:=fC (a:=L+1) (b:=ag L) (by omega) fun m h1 h2=>s.2.2.2 m (by omega) h2
 have len:nmL (ag L)<nmR L+299/10:=Rat.not_le.1 fun y=>by
  have g:=rR (nmR L)
  have a:=cg (nmR L)
  have b:=cg (nmR L+299/10)
  rw[dz] at*
  have u:((turn (nmR L):Int):Rat)<((turn (nmR L+299/10):Int):Rat):=by grind
  have:=Rat.intCast_lt_intCast.1 u
  have:=gq (t:=nmR L+299/10) (u:=nmL (ag L)) y
  omega
 have l2:=j6 (ag L)
 have gp:=uw h
 have b1:=dC L
 have c0:=Rat.intCast_le_intCast.2 h0
 have c1:=Rat.intCast_le_intCast.2 h1
 rw[show((-3500000:Int):Rat)= -3500000 from rfl] at c0
 rw[show((3500000:Int):Rat)=3500000 from rfl] at c1
 have k1:=iJ (nmR L)
 have k2:=iJ (nmR (ag L))
 have d1:kaV (nmR L)=12*(smV L/12)+10:=by show smV L=_;omega
 have d2:12*(smV L/12)+12<=kaV (nmR (ag L)):=by show _<=smV (ag L);omega
 have d3:=Rat.intCast_le_intCast.2 d2
 rw[d1,Rat.intCast_add,Rat.intCast_mul,show((12:Int):Rat)=12 from rfl,show((10:Int):Rat)=10 from rfl] at k1
 rw[Rat.intCast_add,Rat.intCast_mul,show((12:Int):Rat)=12 from rfl] at d3
 generalize smV L/12=Y at*
 have su:=da (t:=nmR L) (u:=nmR (ag L)) (by grind)
 have e1:=bM (ev (nmR L))
 have e2:=bM (ev (nmR (ag L)))
 rw[show((22:Int):Rat)/((10:Int):Rat)=22/10 by decide+kernel] at e1 e2
 have a1:=BE (nmR L)
 have a2:=BE (nmR (ag L))
 have y175:(((Y-175:Int)):Rat)=((Y:Int):Rat)-175:=by rw[Rat.intCast_sub];rfl
 have cr:cre= -714403429586:=rfl
 have f1:=tF (x:=((360:Int):Rat)*aQ (nmR L) pay) (Y-175) (by rw[a1,y175,cr,show((360:Int):Rat)=360 from rfl];grind) (by rw[a1,y175,cr,show((360:Int):Rat)=360 from rfl];grind)
 have f2:=tF (x:=((360:Int):Rat)*aQ (nmR (ag L)) pay) (Y-175) (by rw[a2,y175,cr,show((360:Int):Rat)=360 from rfl];grind) (by rw[a2,y175,cr,show((360:Int):Rat)=360 from rfl];grind)
 have s1:=dK (((360:Int):Rat)*aQ (nmR L) pay)
 have s2:=dK (((360:Int):Rat)*aQ (nmR (ag L)) pay)
 have z:=ou
 have ab:=uF (a:=sof (((360:Int):Rat)*aQ (nmR L) pay)) (b:=sof (((360:Int):Rat)*aQ (nmR (ag L)) pay)) (s:=ssz) (c:=sch) s1.1 s1.2 s2.1 s2.2 (by rw[z.1];decide+kernel) (by rw[z.1];decide+kernel) (by rw[z.2.1];decide+kernel) (by rw[z.2.1];decide+kernel)
 have x1:b6 (nmR L)=bg (epi (sof (((360:Int):Rat)*aQ (nmR L) pay)) ssz sch):=by unfold b6 eqv;rw[iQ fG]
 have x2:b6 (nmR (ag L))=bg (epi (sof (((360:Int):Rat)*aQ (nmR (ag L)) pay)) ssz sch):=by unfold b6 eqv;rw[iQ fG]
 rw[<-x1,<-x2] at ab
 have df:(sof (((360:Int):Rat)*aQ (nmR (ag L)) pay)-sof (((360:Int):Rat)*aQ (nmR L) pay)).abs <=261/3438:=by
  rcases Rat.le_total (a:=0) (b:=sof (((360:Int):Rat)*aQ (nmR (ag L)) pay)-sof (((360:Int):Rat)*aQ (nmR L) pay)) with w|w
  ·rw[Rat.abs_of_nonneg w];grind
  ·rw[Rat.abs_of_nonpos w];grind
 have pr:=Rat.mul_le_mul_of_nonneg_left df (show(0:Rat)<=ssz*(3438*15/896) by rw[z.1];decide+kernel)
 have ee:=bM (Rat.le_trans ab pr)
 rw[z.1] at ee
 have m1:cd (nmR L)=360*aQ (nmR L) pyr-b6 (nmR L):=rfl
 have m2:cd (nmR (ag L))=360*aQ (nmR (ag L)) pyr-b6 (nmR (ag L)):=rfl
 have i2:pyr⁻¹ =4320000000/1577917828000:=by decide+kernel
 have mm:aQ (nmR (ag L)) pyr-aQ (nmR L) pyr=(nmR (ag L)-nmR L)*(4320000000/1577917828000):=by unfold aQ;rw[Rat.div_def,Rat.div_def,i2];grind
 clear f1 f2 s1 s2 a1 a2 ab df pr x1 x2 e1 e2 su
 grind
theorem A6 {A B:Int} (h:A<=B):smV A<=smV B:=by
 by_cases e:A=B
 ·rw[e];exact Int.le_refl _
 ·have a:=dC A
  have b:=dC B
  have c:=Rat.intCast_le_intCast.2 (show A+1<=B by omega)
  rw[Rat.intCast_add,Rat.intCast_one] at c
  exact A4 (by grind)
noncomputable def puM (L X:Int):Int:=if 15<X%30+1 then(smV (ag L)+1)%12+1 else(smV L+1)%12+1
theorem wg (L X:Int):1<=puM L X/\puM L X<=12:=by unfold puM;split <;> omega
def puP (a b c d y m:Int) (l:Bool) (x:Int) (g:Bool) (n:Int):Prop:=
 -3000000<=n/\n<=3000000/\(smV (amL n a b c d)+1)/12-1955883044=y/\puM (amL n a b c d) (amX n a b c d)=m/\decide (smV (ag (amL n a b c d))=smV (amL n a b c d))=l/\amX n a b c d%30+1=x/\decide (amX (n-1) a b c d=amX n a b c d)=g
theorem vf (a b c d y m:Int) (l:Bool) (x:Int) (g:Bool):∃r:Int×Int,(r.2=0/\puP a b c d y m l x g r.1)\/(r.2=3/\r.1=0/\∀n,¬puP a b c d y m l x g n):=
 (Classical.em (∃n,puP a b c d y m l x g n)).elim (fun⟨n,h⟩=>⟨(n,0),.inl ⟨rfl,h⟩⟩) fun h=>⟨(0,3),.inr ⟨rfl,rfl,fun n q=>h ⟨n,q⟩⟩⟩
noncomputable def puN (a b c d y m:Int) (l:Bool) (x:Int) (g:Bool):Int:=(Classical.choose (vf a b c d y m l x g)).1
noncomputable def puE (a b c d y m:Int) (l:Bool) (x:Int) (g:Bool):Int:=(Classical.choose (vf a b c d y m l x g)).2
theorem gi (a b c d y m:Int) (l:Bool) (x:Int) (g:Bool):(puE a b c d y m l x g=0/\puP a b c d y m l x g (puN a b c d y m l x g))\/(puE a b c d y m l x g=3/\puN a b c d y m l x g=0/\∀n,¬puP a b c d y m l x g n):=Classical.choose_spec (vf a b c d y m l x g)
theorem yb {L M:Int} (hL:aY L=true) (hM:aY M=true) (l0: -3500000<=L) (l1:L<=3500000) (y:(smV L+1)/12=(smV M+1)/12) (e:smV M%12=(smV L+1)%12) (j:smV (ag L)=smV L+2):False:=by
 by_cases q:smV M=smV L+1
 ·have s:=bJ hL
  have a:L<M:=Int.not_le.1 fun h=>by have:=A6 h;omega
  have b:M<ag L:=Int.not_le.1 fun h=>by have:=A6 h;omega
  exact s.2.2.2 M a b hM
 ·have:=Fk hL l0 l1 (by omega)
  omega
theorem C8 {a b c d y m x:Int} {l g:Bool} (h:bz a b c d) {n k:Int} (p:puP a b c d y m l x g n) (q:puP a b c d y m l x g k):n=k:=by
 obtain⟨p1,p2,p3,p4,p5,p6,p7⟩:=p
 obtain⟨q1,q2,q3,q4,q5,q6,q7⟩:=q
 have c1:=dA n a b c d
 have c2:=dA k a b c d
 have g1:=fc c1
 have g2:=fc c2
 have r1:=jV h n
 have r2:=jV h k
 have e1:=decide_eq_decide.1 (p5.trans q5.symm)
 have s:(smV (amL n a b c d)+1)%12=(smV (amL k a b c d)+1)%12:=by
  unfold puM at p4 q4
  by_cases w:15<x
  ·rw[if_pos (by omega)] at p4 q4
   have t1:=yb c1 c2 (by omega) (by omega) (by omega)
   have t2:=yb c2 c1 (by omega) (by omega) (by omega)
   clear r1 r2
   by_cases j1:smV (ag (amL n a b c d))=smV (amL n a b c d)+2
   ·by_cases j2:smV (ag (amL k a b c d))=smV (amL k a b c d)+2
    ·clear t1 t2;omega
    ·exact(t1 (by clear t1 t2;omega) j1).elim
   ·by_cases j2:smV (ag (amL k a b c d))=smV (amL k a b c d)+2
    ·exact(t2 (by clear t1 t2;omega) j2).elim
    ·clear t1 t2;omega
  ·rw[if_neg (by omega)] at p4 q4
   omega
 exact tG h (y:=y) (m:=(smV (amL n a b c d)+1)%12+1) ⟨p1,p2,p3,rfl,p5,p6,p7⟩ ⟨q1,q2,q3,by omega,q5,q6,q7⟩
theorem xU {a b c d y m x:Int} {l g:Bool} (h:bz a b c d) {n:Int} (p:puP a b c d y m l x g n):n=puN a b c d y m l x g/\0=puE a b c d y m l x g:=by
 rcases gi a b c d y m l x g with s|s
 ·exact⟨C8 h p s.2,s.1.symm⟩
 ·exact absurd p (s.2.2 n)
theorem Fi {a b c d y m x:Int} {l g:Bool} (p:∀n,¬puP a b c d y m l x g n):0=puN a b c d y m l x g/\3=puE a b c d y m l x g:=by
 rcases gi a b c d y m l x g with s|s
 ·exact absurd s.2 (p _)
 ·exact⟨s.2.1.symm,s.1.symm⟩
theorem CT {a b c d:Int} (h:bz a b c d) {n L X Y:Int} (h0: -3000000<=n) (h1:n<=3000000) (hL:amL n a b c d=L) (hX:amX n a b c d=X) (hY:amX (n-1) a b c d=Y):
 puN a b c d ((smV L+1)/12-1955883044) (puM L X) (decide (smV (ag L)=smV L)) (X%30+1) (decide (Y=X))=n/\puE a b c d ((smV L+1)/12-1955883044) (puM L X) (decide (smV (ag L)=smV L)) (X%30+1) (decide (Y=X))=0:=by
 subst hL hX hY
 have r:=xU h (n:=n) ⟨h0,h1,rfl,rfl,rfl,rfl,rfl⟩
 exact⟨r.1.symm,r.2.symm⟩
theorem rx (L X:Int):(15<X%30+1/\puM L X=(smV (ag L)+1)%12+1)\/(¬15<X%30+1/\puM L X=(smV L+1)%12+1):=by
 unfold puM
 split
 ·rename_i h;exact .inl ⟨h,rfl⟩
 ·rename_i h;exact .inr ⟨h,rfl⟩
def puF (d s t:Int):Int:=if 15<d then(t+1)%12+1 else(s+1)%12+1
theorem j4 (d s t:Int):(15<d/\puF d s t=(t+1)%12+1)\/(¬15<d/\puF d s t=(s+1)%12+1):=by
 unfold puF
 split
 ·rename_i h;exact .inl ⟨h,rfl⟩
 ·rename_i h;exact .inr ⟨h,rfl⟩
def wiV (q:Int->Bool) (b:Int):Nat->Int×Bool
 |0=>(0,false)
 |k+1=>if q b=true then(b,true) else wiV q (b+1) k
theorem tP {q:Int->Bool} {b:Int} {k:Nat} (h:q b=true):wiV q b (k+1)=(b,true):=if_pos h
theorem xw {q:Int->Bool} {b:Int} {k:Nat} (h:¬q b=true):wiV q b (k+1)=wiV q (b+1) k:=if_neg h
theorem m8 (q:Int->Bool):∀(k:Nat) (b:Int),((wiV q b k).2=true/\q (wiV q b k).1=true)\/((wiV q b k).2=false/\(wiV q b k).1=0/\∀j,b<=j->j<b+k->¬q j=true)
 |0,b=> .inr ⟨rfl,rfl,fun j h0 h1=>absurd h1 (by omega)⟩
 |k+1,b=>by
  by_cases h:q b=true
  ·rw[tP h];exact .inl ⟨rfl,h⟩
  ·rw[xw h]
   rcases m8 q k (b+1) with s|s
   ·exact .inl s
   ·refine .inr ⟨s.1,s.2.1,fun j h0 h1=>?_⟩
    by_cases e:j=b
    ·rw[e];exact h
    ·exact s.2.2 j (by omega) (by omega)
theorem sN {q:Int->Bool} {b e:Int} (l:b<e):(q b=true->wiV q b (e-b).toNat =(b,true))/\(¬q b=true->wiV q b (e-b).toNat =wiV q (b+1) (e-(b+1)).toNat):=by
 rw[show(e-b).toNat =(e-(b+1)).toNat +1 by omega]
 exact⟨tP,xw⟩
theorem Dq {q:Int->Bool} {b e:Int} (l:e<=b):wiV q b (e-b).toNat =(0,false):=by rw[show(e-b).toNat =0 by omega];rfl
def wcV (q:Int->Bool) (s:Int):Int->Int->Nat->Int×Bool
 |_,_,0=>(0,false)
 |c,b,k+1=>if q b=true then(if s<c+1 then(b,true) else wcV q s (c+1) (b+1) k) else wcV q s c (b+1) k
theorem kh {q:Int->Bool} {s c b e:Int} (l:b<e):(q b=true->s<c+1->wcV q s c b (e-b).toNat =(b,true))/\(q b=true->¬s<c+1->wcV q s c b (e-b).toNat =wcV q s (c+1) (b+1) (e-(b+1)).toNat)/\(¬q b=true->wcV q s c b (e-b).toNat =wcV q s c (b+1) (e-(b+1)).toNat):=by
 rw[show(e-b).toNat =(e-(b+1)).toNat +1 by omega]
 refine⟨fun h g=>?_,fun h g=>?_,fun h=>?_⟩
 ·show(if q b=true then _ else _)=_;rw[if_pos h,if_pos g]
 ·show(if q b=true then _ else _)=_;rw[if_pos h,if_neg g]
 ·show(if q b=true then _ else _)=_;rw[if_neg h]
theorem uM {q:Int->Bool} {s c b e:Int} (l:e<=b):wcV q s c b (e-b).toNat =(0,false):=by rw[show(e-b).toNat =0 by omega];rfl
def tiB (a b c d x n:Int):Bool:=decide (amX n a b c d%30+1=x)
theorem iP {a b c d x n:Int}:tiB a b c d x n=true↔amX n a b c d%30+1=x:=decide_eq_true_iff
noncomputable def fdB (a b c d y m:Int) (l:Bool) (x:Int) (g:Bool) (n:Int):Bool:=
 decide (-3000000<=n/\n<=3000000/\(smV (amL n a b c d)+1)/12-1955883044=y/\(smV (amL n a b c d)+1)%12+1=m/\decide (smV (ag (amL n a b c d))=smV (amL n a b c d))=l/\amX n a b c d%30+1=x/\decide (amX (n-1) a b c d=amX n a b c d)=g)
theorem my {a b c d y m:Int} {l:Bool} {x:Int} {g:Bool} {n:Int}:fdB a b c d y m l x g n=true↔fdP a b c d y m l x g n:=decide_eq_true_iff
noncomputable def puB (a b c d y m:Int) (l:Bool) (x:Int) (g:Bool) (n:Int):Bool:=
 decide (-3000000<=n/\n<=3000000/\(smV (amL n a b c d)+1)/12-1955883044=y/\puM (amL n a b c d) (amX n a b c d)=m/\decide (smV (ag (amL n a b c d))=smV (amL n a b c d))=l/\amX n a b c d%30+1=x/\decide (amX (n-1) a b c d=amX n a b c d)=g)
theorem lZ {a b c d y m:Int} {l:Bool} {x:Int} {g:Bool} {n:Int}:puB a b c d y m l x g n=true↔puP a b c d y m l x g n:=decide_eq_true_iff
theorem Df {a b c d y m x:Int} {l g:Bool} (h:bz a b c d) {n:Int} (p:puP a b c d y m l x g n):amL n a b c d+(x-1)*63/64-4<=n/\n<=amL n a b c d+(x-1)*63/64+5:=
 tY h (y:=y) (m:=(smV (amL n a b c d)+1)%12+1) ⟨p.1,p.2.1,p.2.2.1,rfl,p.2.2.2.2.1,p.2.2.2.2.2.1,p.2.2.2.2.2.2⟩
def puL (m:Int) (l:Bool) (x:Int):List Int:=if x<=15\/l=true then[m] else[(m-1-1+12)%12+1,(m-1-2+12)%12+1]
def puG (m:Int) (l:Bool) (x:Int) (i:Nat):Int:=(puL m l x).getD i 0
theorem Cw (m:Int) (l:Bool) (x:Int):1<=(puL m l x).length /\(puL m l x).length <=2:=by
 unfold puL
 split
 ·exact⟨Nat.le_refl 1,Nat.le_succ 1⟩
 ·exact⟨Nat.le_succ 1,Nat.le_refl 2⟩
theorem Ap {m:Int} {l:Bool} {x:Int} {i:Nat} (h:i<(puL m l x).length):((puL m l x).map fun z=>Value.int .i64 z)[i]?=some (iv (puG m l x i)):=by
 unfold puG
 rw[List.getElem?_map,List.getElem?_eq_getElem h,List.getD_eq_getElem?_getD,List.getElem?_eq_getElem h]
 rfl
theorem Fa {m:Int} {l:Bool} {x:Int} {i:Nat} (hm:1<=m) (hm2:m<=12) (h:i<(puL m l x).length):1<=puG m l x i/\puG m l x i<=12:=by
 unfold puG puL at*
 by_cases q:x<=15\/l=true
 ·rw[if_pos q] at h ⊢
  obtain rfl:i=0:=Nat.lt_one_iff.1 h
  exact⟨hm,hm2⟩
 ·rw[if_neg q] at h ⊢
  have h2:i<2:=h
  by_cases e:i=0
  ·subst e;show 1<=(m-1-1+12)%12+1/\(m-1-1+12)%12+1<=12;omega
  ·obtain rfl:i=1:=by omega
   show 1<=(m-1-2+12)%12+1/\(m-1-2+12)%12+1<=12;omega
theorem Eg {a b c d y m x:Int} {l g:Bool} {n:Int} (p:puP a b c d y m l x g n):∃i,i<(puL m l x).length /\smV (amL n a b c d)=fiS y (puG m l x i):=by
 obtain⟨_,_,p3,p4,p5,p6,_⟩:=p
 have s:=fc (dA n a b c d)
 have t:=rx (amL n a b c d) (amX n a b c d)
 rw[p4] at t
 generalize smV (ag (amL n a b c d))=T at*
 generalize smV (amL n a b c d)=S at*
 have key:∀N:Int,N=(S+1)%12+1->S=fiS y N:=fun N e=>by unfold fiS;omega
 unfold puG puL
 by_cases q:x<=15\/l=true
 ·rw[if_pos q]
  refine⟨0,Nat.zero_lt_one,key m ?_⟩
  rcases q with q|q
  ·omega
  ·rw[q] at p5
   have:=of_decide_eq_true p5
   omega
 ·rw[if_neg q]
  have q1:¬x<=15:=fun e=>q (.inl e)
  have q2:¬T=S:=fun e=>q (.inr (by rw[<-p5];exact decide_eq_true e))
  by_cases o:T=S+1
  ·exact⟨0,Nat.zero_lt_succ 1,key _ (show(m-1-1+12)%12+1=_ by omega)⟩
  ·exact⟨1,Nat.lt_succ_self 1,key _ (show(m-1-2+12)%12+1=_ by omega)⟩
theorem CS {a b c d y m x:Int} {l g:Bool} {n:Int} (p:puP a b c d y m l x g n) {M:Int} (e:amL n a b c d=M):puF x (smV M%12) (smV (ag M)%12)=m:=by
 obtain⟨_,_,_,p4,_,p6,_⟩:=p
 rw[e] at p4
 have t:=rx M (amX n a b c d)
 have u:=j4 x (smV M%12) (smV (ag M)%12)
 omega
end Go.Proofs.YtddiipaomejcfaaGreatDoor
