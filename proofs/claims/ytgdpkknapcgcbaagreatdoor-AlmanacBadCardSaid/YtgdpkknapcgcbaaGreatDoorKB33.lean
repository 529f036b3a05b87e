import Derived.Test.YtgdpkknapcgcbaaGreatDoorKB32
namespace Go.Proofs.YtgdpkknapcgcbaaGreatDoor
open Go.RowKit
set_option maxRecDepth 100000
set_option linter.unusedVariables false
set_option maxHeartbeats 8000000
section
section
section
variable {P:Program} {ops:Array Oper} {Q:Exit->Act->World->Prop}
def rK (ops:Array Oper) (n lo:Nat):Bool:=(List.range n).all fun j=>Nat.beq j lo || cU ops n j
theorem sU {n lo:Nat} (h:rK ops n lo=true) {d:Nat->Bool} (hd:∀j,cU ops n j=true->d j=true):∀j,j<n->j≠lo->d j=true:=by
 intro j hj hne
 have h1:=List.all_eq_true.1 h j (List.mem_range.2 hj)
 rw[Bool.or_eq_true] at h1
 rcases h1 with h1|h1
 ·exact absurd (Nat.eq_of_beq_eq_true h1) hne
 ·exact hd j h1
theorem E.regionL {nt n lo id:Nat} {L:List (Nat×Value)} {a:Act} {w:World} (hm:P.follows .mixedOrders =true) (hF:Fr nt a L) (ds:List Nat) (al:Nat->Bool) (H:Nat->World->Value->Prop)
 (hback:ce ops=true) (hw:cV ops (n+1)=true) (hbut:rK ops n lo=true) (hlo:lo<n) (hn:n<ops.size) (hds:cP ops n=ds.map some) (hap:dT ds nt L=true)
 (hmono:∀i w w' v,H i w v->Below w.heap.size w w'->H i w' v) (hal:∀i w v,al i=true->H i w v->∃g,v= .pointer (some ⟨g,0,none⟩)/\g<w.heap.size) (hlal:al lo=false)
 (step:∀(i:Nat) (o:Oper),i<n->ops[i]?=some o->∀(a':Act) (w':World),Fr nt a' L->Below w.heap.size w w'->(∀(e:Edge) (s:Nat),e∈o.after->Region.binds .any e=true->ds[e.on]?=some s->H e.on w' (a'.tmps.getD s undef))->
   if Region.wanted o (yielded ops a'.tmps)=true then bg P Q o a' w' (fun v w''=>H i w'' v/\Below w'.heap.size w' w''/\(al i=true->v= .pointer (some ⟨w'.heap.size,0,none⟩))) else H i w' undef/\al i=false)
 (tail:∀(a':Act) (w':World),Fr nt a' L->Below w.heap.size w w'->(∀(i s:Nat),ds[i]?=some s->H i w' (a'.tmps.getD s undef))->
   (∀(i j s t:Nat),al i=true->al j=true->i≠j->ds[i]?=some s->ds[j]?=some t->a'.tmps.getD s undef≠a'.tmps.getD t undef)->wpS P ops Q (ops.toList.drop n) a' w')
 (tailL:∀(oL:Oper),ops[lo]?=some oL->∀(oN:Oper),ops[n]?=some oN->∀(a':Act) (w':World),Fr nt a' L->Below w.heap.size w w'->(∀(i s:Nat),i≠lo->ds[i]?=some s->H i w' (a'.tmps.getD s undef))->
   (∀(i j s t:Nat),al i=true->al j=true->i≠j->ds[i]?=some s->ds[j]?=some t->a'.tmps.getD s undef≠a'.tmps.getD t undef)->wpS P ops Q (oN::oL::ops.toList.drop (n+1)) a' w'):
 (Code.region id ops true).wp P Q a w:=by
 have lt:∀i s,ds[i]?=some s->i<n:=by
  intro i s h
  have hlen:ds.length=n:=by
   have:=congrArg List.length hds
   unfold cP at this
   simp at this
   omega
  have:=(List.getElem?_eq_some_iff.1 h).1
  omega
 have hdrop:∀i o,ops[i]?=some o->ops.toList.drop i=o::ops.toList.drop (i+1):=by
  intro i o ho
  have hi:i<ops.size:=(Array.getElem?_eq_some_iff.1 ho).1
  rw[List.drop_eq_getElem_cons (by simpa using hi)]
  congr 1
  rw[Array.getElem?_eq_getElem hi] at ho
  simpa using ho
 refine fR hm hback (fun d a' w'=>nk ops d/\(((∀j,n<=j->d j=false)/\Pre ops nt n L ds al H w d a' w')\/(∃k,n<k/\(∀j,d j=decide (j<k))/\wpS P ops Q (ops.toList.drop k) a' w')\/
  ((∀j,d j=decide (j<=n/\j≠lo))/\∀oL,ops[lo]?=some oL->wpS P ops Q (oL::ops.toList.drop (n+1)) a' w'))) ?_ ?_ ?_
 ·refine⟨(fun m j _ h=>by cases h),.inl ⟨fun _ _=>rfl,?_⟩⟩
  exact⟨hF,(Below.refl _ _).drew,(fun _ _ _ _ h=>by cases h),(fun _ _ _ _ _ _ _ _ _ _ _ h=>by cases h)⟩
 ·rintro d a' w' ⟨hs,hI⟩ i o ho hdi hdep K hK
  have hi:i<ops.size:=(Array.getElem?_eq_some_iff.1 ho).1
  have hdep':∀j,cU ops i j=true->d j=true:=by
   intro j hj
   obtain⟨e,he,hb,rfl⟩:=(kA ho).1 hj
   exact hdep e he hb
  have run:∀rest,wpS P ops Q (o::rest) a' w'->(∀a2 w2,wpS P ops Q rest a2 w2->K a2 w2)->if Region.wanted o (yielded ops a'.tmps)=true then Oper.wp P o a' w' K Q else K (a'.put o.dst undef) w':=by
   intro rest h kk
   unfold wpS at h
   split
   ·rename_i hwd
    rw[if_pos hwd] at h
    exact Oper.wp_mono (fun a w h=>kk a w h) h
   ·rename_i hwd
    rw[if_neg hwd] at h
    exact kk _ _ h
  rcases hI with⟨hno,hp⟩|⟨k,hnk,hdk,h⟩|⟨hdc,h⟩
  ·by_cases hin:i<n
   ·obtain⟨s,hsi,hdst⟩:=wS hds hin ho
    have hst:=step i o hin ho a' w' hp.fr hp.bel (fun e t he hb ht=>hp.has e.on t (lt _ _ ht) ht (hdep e he hb))
    have hno':∀j,n<=j->up d i j=false:=fun j hj=>by unfold up;rw[if_neg (by omega)];exact hno j hj
    split
    ·rename_i hwd
     rw[if_pos hwd] at hst
     refine hst K fun v w'' ⟨hv,hb,ha⟩=>hK _ _ ⟨hs.one hdep',.inl ⟨hno',?_⟩⟩
     rw[hdst]
     exact hp.one hmono hal hap hsi hdi hb hv ha
    ·rename_i hwd
     rw[if_neg hwd] at hst
     refine hK _ _ ⟨hs.one hdep',.inl ⟨hno',?_⟩⟩
     rw[hdst]
     exact hp.one hmono hal hap hsi hdi (Below.refl _ _) hst.1 (fun h=>by rw[hst.2] at h;cases h)
   ·have hni:i=n:=by
     by_cases e:i=n
     ·exact e
     ·exfalso
      have h1:=et hw hi (by omega) hs hdep' n (by omega)
      rw[hno n (Nat.le_refl n)] at h1
      cases h1
    subst hni
    have hb:=sU hbut hdep'
    cases hl:d lo with
    |true=>
     have hall:∀j,j<i->d j=true:=fun j hj=>by
      by_cases e:j=lo
      ·rw[e,hl]
      ·exact hb j hj e
     have h:=tail a' w' hp.fr hp.bel (fun j s hs=>hp.has j s (lt j s hs) hs (hall j (lt j s hs))) (fun j k s t aj ak hjk hs ht=>hp.ne j k s t (lt j s hs) (lt k t ht) aj ak hjk hs ht (hall j (lt j s hs)) (hall k (lt k t ht)))
     rw[hdrop i o ho] at h
     refine run _ h fun a2 w2 h2=>hK _ _ ⟨hs.one hdep',.inr (.inl ⟨i+1,by omega,fun j=>?_,h2⟩)⟩
     unfold up
     by_cases e:j=i
     ·rw[if_pos e];exact(decide_eq_true (by omega)).symm
     ·rw[if_neg e]
      by_cases e':j<i
      ·rw[hall j e',decide_eq_true (by omega)]
      ·rw[hno j (by omega),decide_eq_false (by omega)]
    |false=>
     have h:=tailL _ (Array.getElem?_eq_getElem (show lo<ops.size by omega)) o ho a' w' hp.fr hp.bel (fun j s hne hs=>hp.has j s (lt j s hs) hs (hb j (lt j s hs) hne)) (fun j k s t aj ak hjk hs ht=>hp.ne j k s t (lt j s hs) (lt k t ht) aj ak hjk hs ht (hb j (lt j s hs) (fun e=>by rw[e,hlal] at aj;cases aj)) (hb k (lt k t ht) (fun e=>by rw[e,hlal] at ak;cases ak)))
     refine run _ h fun a2 w2 h2=>hK _ _ ⟨hs.one hdep',.inr (.inr ⟨fun j=>?_,fun oL hoL=>?_⟩)⟩
     ·unfold up
      by_cases e:j=i
      ·rw[if_pos e];exact(decide_eq_true ⟨by omega,by omega⟩).symm
      ·rw[if_neg e]
       by_cases e':j<i
       ·by_cases e2:j=lo
        ·rw[e2,hl,decide_eq_false (by omega)]
        ·rw[hb j e' e2,decide_eq_true ⟨by omega,e2⟩]
       ·rw[hno j (by omega),decide_eq_false (by omega)]
     ·rw[Array.getElem?_eq_getElem (show lo<ops.size by omega)] at hoL
      obtain rfl:=Option.some.inj hoL
      exact h2
  ·have hki:k<=i:=by
    have h1:=hdk i
    rw[hdi] at h1
    have:¬i<k:=by simpa using h1.symm
    omega
   have hik:i=k:=by
    by_cases e:i=k
    ·exact e
    ·exfalso
     have h1:=et hw hi (by omega) hs hdep' k (by omega)
     rw[hdk k,decide_eq_false (by omega)] at h1
     cases h1
   subst hik
   rw[hdrop i o ho] at h
   refine run _ h fun a2 w2 h2=>hK _ _ ⟨hs.one hdep',.inr (.inl ⟨i+1,by omega,fun j=>?_,h2⟩)⟩
   unfold up
   by_cases e:j=i
   ·rw[if_pos e];exact(decide_eq_true (by omega)).symm
   ·rw[if_neg e,hdk j]
    by_cases e':j<i
    ·rw[decide_eq_true e',decide_eq_true (by omega)]
    ·rw[decide_eq_false e',decide_eq_false (by omega)]
  ·have hil:i=lo:=by
    by_cases e:i=lo
    ·exact e
    ·exfalso
     have h1:=hdc i
     rw[hdi] at h1
     have h2:¬(i<=n/\i≠lo):=by simpa using h1.symm
     have h3:=et hw hi (by omega) hs hdep' lo (by omega)
     rw[hdc lo,decide_eq_false (by omega)] at h3
     cases h3
   subst hil
   refine run _ (h o ho) fun a2 w2 h2=>hK _ _ ⟨hs.one hdep',.inr (.inl ⟨n+1,by omega,fun j=>?_,h2⟩)⟩
   unfold up
   by_cases e:j=i
   ·rw[if_pos e];exact(decide_eq_true (by omega)).symm
   ·rw[if_neg e,hdc j]
    by_cases e':j<=n
    ·rw[decide_eq_true ⟨e',e⟩,decide_eq_true (by omega)]
    ·rw[decide_eq_false (by omega),decide_eq_false (by omega)]
 ·rintro d a' w' ⟨hs,hI⟩ hall
  rcases hI with⟨hno,hp⟩|⟨k,hnk,hdk,h⟩|⟨hdc,h⟩
  ·have h1:=hall n hn
   rw[hno n (Nat.le_refl n)] at h1
   cases h1
  ·have hk:ops.size<=k:=by
    by_cases e:ops.size<=k
    ·exact e
    ·exfalso
     have h1:=hall k (by omega)
     rw[hdk k,decide_eq_false (by omega)] at h1
     cases h1
   rw[List.drop_eq_nil_of_le (by simpa using hk)] at h
   exact h
  ·have h1:=hall lo (by omega)
   rw[hdc lo,decide_eq_false (by omega)] at h1
   cases h1
theorem BA (Hs:List (World->Value->Prop)) (lo i:Nat):Hat (Hs.set lo fun _ _=>True) i=if i=lo then fun _ _=>True else Hat Hs i:=by
 unfold Hat
 rw[List.getElem?_set]
 by_cases e:lo=i
 ·rw[if_pos e,if_pos e.symm]
  split
  ·rfl
  ·rfl
 ·rw[if_neg e,if_neg (fun h=>e h.symm)]
theorem E.drawnL {nt id:Nat} (n lo:Nat) {l:List Oper} {oL oN:Oper} {L:List (Nat×Value)} {a:Act} {w:World} (hm:P.follows .mixedOrders =true) (hF:Fr nt a L) (ds:List Nat) (Hs:List (World->Value->Prop)) (al:List Nat)
 (hback:(ce l.toArray && cV l.toArray (n+1) && rK l.toArray n lo && Nat.blt lo n && Nat.blt n l.length && !al.contains lo)=true) (hds:cP l.toArray n=ds.map some) (hap:dT ds nt L=true) (hM:jp Hs) (hA:jl Hs al) (hL:l[lo]?=some oL) (hN:l[n]?=some oN)
 (steps:fv P l.toArray Q nt L w ds Hs al 0 (l.take n))
 (tail:∀(a':Act) (w':World),Fr nt a' L->Below w.heap.size w w'->(∀(i s:Nat),ds[i]?=some s->Hat Hs i w' (a'.tmps.getD s undef))->
   (∀(i j s t:Nat),al.contains i=true->al.contains j=true->i≠j->ds[i]?=some s->ds[j]?=some t->a'.tmps.getD s undef≠a'.tmps.getD t undef)->wpS P l.toArray Q (l.drop n) a' w')
 (tailL:∀(a':Act) (w':World),Fr nt a' L->Below w.heap.size w w'->(∀(i s:Nat),ds[i]?=some s->Hat (Hs.set lo fun _ _=>True) i w' (a'.tmps.getD s undef))->
   (∀(i j s t:Nat),al.contains i=true->al.contains j=true->i≠j->ds[i]?=some s->ds[j]?=some t->a'.tmps.getD s undef≠a'.tmps.getD t undef)->wpS P l.toArray Q (oN::oL::l.drop (n+1)) a' w'):
 (Code.region id l.toArray true).wp P Q a w:=by
 simp only [Bool.and_eq_true,Bool.not_eq_true'] at hback
 obtain⟨⟨⟨⟨⟨h1,h2⟩,h3⟩,h4⟩,h5⟩,h6⟩:=hback
 have h4:lo<n:=by simpa using h4
 have h5:n<l.length:=by simpa using h5
 refine E.regionL (lo:=lo) hm hF ds (fun i=>al.contains i) (Hat Hs) h1 h2 h3 h4 (by simpa using h5) hds hap (fun i w w' v h hb=>jp.at Hs hM i w w' v h hb) (fun i w v h=>jl.at al hA i w v h) h6 ?_ tail ?_
 ·intro i o hi ho
  have g1:(l.take n)[i]?=some o:=by
   rw[List.getElem?_take,if_pos hi]
   simpa using ho
  have g2:=fv.at _ _ steps i o g1
  rw[Nat.zero_add] at g2
  exact g2
 ·intro o2 ho2 o3 ho3 a' w' hf hb hh hne
  rw[show(l.toArray)[lo]?=l[lo]? by simp,hL] at ho2
  rw[show(l.toArray)[n]?=l[n]? by simp,hN] at ho3
  obtain rfl:=Option.some.inj ho2
  obtain rfl:=Option.some.inj ho3
  refine tailL a' w' hf hb (fun i s hs=>?_) hne
  rw[BA]
  by_cases e:i=lo
  ·rw[if_pos e];trivial
  ·rw[if_neg e];exact hh i s e hs
end
def nY:Value->Bool
 | .int .u32 _=>false
 |_=>true
theorem cK.keepU2 {g:Nat} {w w':World} {cs:List Value} (h:cK g w w') (hb:Blk w g cs) (hc:cs.all nY=true):eR w w':=by
 obtain⟨T,hg⟩:=hb
 intro ad xs hr
 refine⟨fun i hi=>?_⟩
 obtain⟨b,off,h1,h2,h3⟩:=hr.cell i hi
 have hne:b≠g:=by
  intro e
  subst e
  rw[cell_of_row w b (off+i) _ _ _ hg,List.getElem?_toArray] at h3
  have:=List.all_eq_true.1 hc _ (List.mem_of_getElem? h3)
  cases this
 refine⟨b,off,h1,by rw[h.size];exact h2,?_⟩
 rw[<-h3]
 exact World.cell?_of_block (w:=w) (h.block b hne)
section
variable {W w w':World} {bs:List (Nat×List Value)} {fs:List (World->Prop)}
theorem St.setU2 (st:St W w bs fs) (i:Nat) {g:Nat} {cs ws:List Value} (h:bs[i]?=some (g,cs)) (hc:cs.all nY=true) (hU:∀F∈fs,ClU F) (tu:cK g w w') (ho:Blk w' g ws):St W w' (bs.set i (g,ws)) fs:=
 let s:=st.setI i h tu ho
 ⟨s.bel,s.own,s.low,s.apart,fun F hF=>hU F hF w w' (st.facts F hF) (tu.keepU2 (st.bk i h) hc),st.cl⟩
end
section
variable {P:Program} {ops:Array Oper} {Q:Exit->Act->World->Prop} {W w:World} {bs:List (Nat×List Value)} {fs:List (World->Prop)} {nt d n g:Nat} {L:List (Nat×Value)} {rest:List Oper} {a:Act} {T:TypeId} {x y:Operand} {ty:TypeId} {pos:String} {af:Array Edge} {cs vs zs:List Value}
theorem S.stoIU (st:St W w bs fs) (hF:Fr nt a L) (i:Nat) (hb:bs[i]?=some (g,cs)) (hcu:cs.all nY=true) (hU:∀F∈fs,ClU F) (he:a.eval x= .pointer (some ⟨g,0,none⟩)) (hv:a.eval y= .agg vs.toArray) (hT:Ty P T n zs) (hl:vs.length=n) (hl':cs.length=n) (hc':vs.all eU=true)
 (k:∀w' a',St W w' (bs.set i (g,vs)) fs->Fr nt a' L->wpS P ops Q rest a' w'):wpS P ops Q (⟨none,.store T x y,ty,pos,af,none⟩::rest) a w:=by
 obtain⟨w1,hr,tu,on⟩:=fl (P:=P) (o:=0) (ws:=vs) (st.bk i hb) hT.s hl (by simp[hl']) (eU.oc hc') (by subst hl;simp[hl'])
 exact E.st hF (cM he hv (hr _ rfl)) rfl rfl fun a' hF'=>k w1 a' (st.setU2 i hb hcu hU tu on) hF'
end
theorem Rl.clU {q:Rat} {k:Nat} {v:Value}:ClU fun w=>Rl q k w v:=fun _ _ h kp=>⟨h.1.keepU kp,h.2⟩
end
end
end Go.Proofs.YtgdpkknapcgcbaaGreatDoor
