import Derived.Test.YtdkmjclbhfnegaaDoorKA17
namespace Go.Proofs.YtdkmjclbhfnegaaDoor
open Go.RowKit
set_option maxRecDepth 100000
set_option linter.unusedVariables false
set_option maxHeartbeats 8000000
section
section
variable {P:Program} {ops:Array Oper} {Q:Exit→Act→World→Prop}
theorem E.regionP {nt n id s0 k0:Nat} {v0:Value} {L:List (Nat×Value)} {a:Act} {w:World} (hm:P.follows .mixedOrders =true) (hF:Fr nt a L) (ds:List Nat) (al:Nat→Bool) (H:Nat→World→Value→Prop)
 (hback:waitsBack ops=true) (hw:waitsAll ops n=true) (hn:Nat.ble n ops.size=true) (hds:dstsOf ops n=ds.map some) (hap:apartIn ds nt L=true) (hk0:ds[k0]?=some s0) (hv0:a.tmps.getD s0 undef=v0)
 (hmono:∀i w w' v,H i w v→Below w.heap.size w w'→H i w' v) (hal:∀i w v,al i=true→H i w v→∃g,v= .pointer (some ⟨g,0,none⟩)∧g<w.heap.size)
 (step:∀(i:Nat) (o:Oper),i<n→ops[i]?=some o→∀(a':Act) (w':World),Fr nt a' L→Below w.heap.size w w'→(∀(e:Edge) (s:Nat),e∈o.after→Region.binds .any e=true→ds[e.on]?=some s→H e.on w' (a'.tmps.getD s undef))→(hasEdge ops k0 i=true→a'.tmps.getD s0 undef=v0)→
   if Region.wanted o (yielded ops a'.tmps)=true then Does P Q o a' w' (fun v w''=>H i w'' v∧Below w'.heap.size w' w''∧(al i=true→v= .pointer (some ⟨w'.heap.size,0,none⟩))) else H i w' undef∧al i=false)
 (tail:∀(a':Act) (w':World),Fr nt a' L→Below w.heap.size w w'→(∀(i s:Nat),ds[i]?=some s→H i w' (a'.tmps.getD s undef))→
   (∀(i j s t:Nat),al i=true→al j=true→i≠j→ds[i]?=some s→ds[j]?=some t→a'.tmps.getD s undef≠a'.tmps.getD t undef)→wpS P ops Q (ops.toList.drop n) a' w'):
 (Code.region id ops true).wp P Q a w:=by
 have hn':n≤ops.size:=by simpa using hn
 have hlen:ds.length=n:=by
  have:=congrArg List.length hds
  unfold dstsOf at this
  simp at this
  omega
 have tail':∀(d:Nat→Bool) (a':Act) (w':World),(∀j,j<n→d j=true)→Pre ops nt n L ds al H w d a' w'→wpS P ops Q (ops.toList.drop n) a' w':=by
  intro d a' w' hd hp
  have lt:∀i s,ds[i]?=some s→i<n:=fun i s h=>by have:=(List.getElem?_eq_some_iff.1 h).1;omega
  exact tail a' w' hp.fr hp.bel (fun i s hs=>hp.has i s (lt i s hs) hs (hd i (lt i s hs))) (fun i j s t ai aj hij hs ht=>hp.ne i j s t (lt i s hs) (lt j t ht) ai aj hij hs ht (hd i (lt i s hs)) (hd j (lt j t ht)))
 refine wp_region_inv hm hback (fun d a' w'=>Shut ops d∧(((∀j,n≤j→d j=false)∧Pre ops nt n L ds al H w d a' w'∧(d k0=false→a'.tmps.getD s0 undef=v0))∨(∃k,n≤k∧(∀j,d j=decide (j<k))∧wpS P ops Q (ops.toList.drop k) a' w'))) ?_ ?_ ?_
 ·refine⟨(fun m j _ h=>by cases h),.inl ⟨fun _ _=>rfl,?_,fun _=>hv0⟩⟩
  exact⟨hF,(Below.refl _ _).drew,(fun _ _ _ _ h=>by cases h),(fun _ _ _ _ _ _ _ _ _ _ _ h=>by cases h)⟩
 ·rintro d a' w' ⟨hs,hI⟩ i o ho hdi hdep K hK
  have hi:i<ops.size:=(Array.getElem?_eq_some_iff.1 ho).1
  have hdep':∀j,hasEdge ops i j=true→d j=true:=by
   intro j hj
   obtain⟨e,he,hb,rfl⟩:=(hasEdge_of ho).1 hj
   exact hdep e he hb
  have two:∀k,n≤k→(∀j,d j=decide (j<k))→wpS P ops Q (ops.toList.drop k) a' w'→if Region.wanted o (yielded ops a'.tmps)=true then Oper.wp P o a' w' K Q else K (a'.put o.dst undef) w':=by
   intro k hnk hdk h
   have hki:k≤i:=by
    have h1:=hdk i
    rw[hdi] at h1
    have:¬i<k:=by simpa using h1.symm
    omega
   have hik:i=k:=by
    by_cases e:i=k
    ·exact e
    ·exfalso
     have h1:=all_before hw hi (by omega) hs hdep' k (by omega)
     rw[hdk k,decide_eq_false (by omega)] at h1
     cases h1
   subst hik
   have hdrop:ops.toList.drop i=o::ops.toList.drop (i+1):=by
    rw[List.drop_eq_getElem_cons (by simpa using hi)]
    congr 1
    rw[Array.getElem?_eq_getElem hi] at ho
    simpa using ho
   rw[hdrop] at h
   unfold wpS at h
   have next:∀j,up d i j=decide (j<i+1):=by
    intro j
    unfold up
    by_cases e:j=i
    ·rw[if_pos e];exact(decide_eq_true (by omega)).symm
    ·rw[if_neg e,hdk j]
     by_cases e':j<i
     ·rw[decide_eq_true e',decide_eq_true (by omega)]
     ·rw[decide_eq_false e',decide_eq_false (by omega)]
   split
   ·rename_i hwd
    rw[if_pos hwd] at h
    exact Oper.wp_mono (fun a w h=>hK a w ⟨hs.one hdep',.inr ⟨i+1,by omega,next,h⟩⟩) h
   ·rename_i hwd
    rw[if_neg hwd] at h
    exact hK _ _ ⟨hs.one hdep',.inr ⟨i+1,by omega,next,h⟩⟩
  rcases hI with⟨hno,hp,hol⟩|⟨k,hnk,hdk,h⟩
  ·by_cases hin:i<n
   ·obtain⟨s,hsi,hdst⟩:=dst_of hds hin ho
    have hst:=step i o hin ho a' w' hp.fr hp.bel (fun e t he hb ht=>hp.has e.on t (by have:=(List.getElem?_eq_some_iff.1 ht).1;omega) ht (hdep e he hb)) (fun he=>hol (Bool.eq_false_iff.2 fun hk=>by rw[hs k0 i he hk] at hdi;cases hdi))
    have hol':∀v,up d i k0=false→(a'.put (some s) v).tmps.getD s0 undef=v0:=by
     intro v hu
     by_cases e:k0=i
     ·rw[show up d i k0=true by unfold up;rw[if_pos e]] at hu;cases hu
     ·rw[show up d i k0=d k0 by unfold up;rw[if_neg e]] at hu
      rw[getD_put_ne (fun e2=>?_)]
      ·exact hol hu
      ·have hnd:ds.Nodup:=nodupB_spec ds (by unfold apartIn at hap;rw[Bool.and_eq_true] at hap;exact hap.1)
       have h1:=(List.getElem?_eq_some_iff.1 hk0).1
       exact e ((List.getElem?_inj h1 hnd).1 (by rw[hk0,hsi,e2]))
    have hno':∀j,n≤j→up d i j=false:=fun j hj=>by unfold up;rw[if_neg (by omega)];exact hno j hj
    split
    ·rename_i hwd
     rw[if_pos hwd] at hst
     refine hst K fun v w'' ⟨hv,hb,ha⟩=>hK _ _ ⟨hs.one hdep',.inl ⟨hno',?_,by rw[hdst];exact hol' v⟩⟩
     rw[hdst]
     exact hp.one hmono hal hap hsi hdi hb hv ha
    ·rename_i hwd
     rw[if_neg hwd] at hst
     refine hK _ _ ⟨hs.one hdep',.inl ⟨hno',?_,by rw[hdst];exact hol' undef⟩⟩
     rw[hdst]
     exact hp.one hmono hal hap hsi hdi (Below.refl _ _) hst.1 (fun h=>by rw[hst.2] at h;cases h)
   ·have hall:=all_before hw hi (by omega) hs hdep'
    have hni:n=i:=by
     by_cases e:n=i
     ·exact e
     ·exfalso
      have h1:=hall n (by omega)
      rw[hno n (Nat.le_refl n)] at h1
      cases h1
    refine two n (Nat.le_refl n) (fun j=>?_) (tail' d a' w' (fun j hj=>hall j (by omega)) hp)
    by_cases e:j<n
    ·rw[hall j (by omega),decide_eq_true e]
    ·rw[hno j (by omega),decide_eq_false e]
  ·exact two k hnk hdk h
 ·rintro d a' w' ⟨hs,hI⟩ hall
  rcases hI with⟨hno,hp,hol⟩|⟨k,hnk,hdk,h⟩
  ·have e:n=ops.size:=by
    by_cases e:n=ops.size
    ·exact e
    ·exfalso
     have h1:=hall n (by omega)
     rw[hno n (Nat.le_refl n)] at h1
     cases h1
   have h:=tail' d a' w' (fun j hj=>hall j (by omega)) hp
   rw[List.drop_eq_nil_of_le (by simp;omega)] at h
   exact h
  ·have hk:ops.size≤k:=by
    by_cases e:ops.size≤k
    ·exact e
    ·exfalso
     have h1:=hall k (by omega)
     rw[hdk k,decide_eq_false (by omega)] at h1
     cases h1
   rw[List.drop_eq_nil_of_le (by simpa using hk)] at h
   exact h
end
def StepsP (P:Program) (ops:Array Oper) (Q:Exit→Act→World→Prop) (nt:Nat) (L:List (Nat×Value)) (W:World) (ds:List Nat) (Hs:List (World→Value→Prop)) (al:List Nat) (i0:Nat) (p0:Nat×Value):Nat→List Oper→Prop
 |_,[]=>True
 |i,o::l=>StepOk P ops Q nt (bif Nat.beq i i0 then p0::L else L) W ds Hs al i o∧StepsP P ops Q nt L W ds Hs al i0 p0 (i+1) l
theorem StepsP.at {P:Program} {ops:Array Oper} {Q:Exit→Act→World→Prop} {nt:Nat} {L:List (Nat×Value)} {W:World} {ds:List Nat} {Hs:List (World→Value→Prop)} {al:List Nat} {i0:Nat} {p0:Nat×Value}:∀(l:List Oper) (k:Nat),StepsP P ops Q nt L W ds Hs al i0 p0 k l→∀i o,l[i]?=some o→StepOk P ops Q nt (bif Nat.beq (k+i) i0 then p0::L else L) W ds Hs al (k+i) o
 |[],_,_,_,_,h=>by cases h
 |x::l,k,h,0,o,ho=>by
  obtain rfl:x=o:=by simpa using ho
  exact h.1
 |x::l,k,h,i+1,o,ho=>by
  have:=StepsP.at l (k+1) h.2 i o (by simpa using ho)
  rw[show k+(i+1)=k+1+i by omega]
  exact this
theorem E.rgap {P:Program} {Q:Exit→Act→World→Prop} {nt id:Nat} (n:Nat) {l:List Oper} {L:List (Nat×Value)} {a:Act} {w:World} {s0:Nat} {v0:Value} (k0 i0:Nat) (hm:P.follows .mixedOrders =true) (hF:Fr nt a L) (hv0:a.tmps.getD s0 undef=v0) (ds:List Nat) (ks:List Pk) (al:List Nat) (hA:AllA (ks.map Pk.H) al) (hback:(waitsBack l.toArray && waitsAll l.toArray n && hasEdge l.toArray k0 i0)=true) (hn:Nat.ble n l.length=true) (hds:dstsOf l.toArray n=ds.map some) (hap:apartIn ds nt L=true) (hk0:ds[k0]?=some s0)
 (steps:StepsP P l.toArray Q nt L w ds (ks.map Pk.H) al i0 (s0,v0) 0 (l.take n))
 (tail:∀(a':Act) (w':World),Fr nt a' L→Below w.heap.size w w'→(∀(i s:Nat),ds[i]?=some s→Hat (ks.map Pk.H) i w' (a'.tmps.getD s undef))→
   (∀(i j s t:Nat),al.contains i=true→al.contains j=true→i≠j→ds[i]?=some s→ds[j]?=some t→a'.tmps.getD s undef≠a'.tmps.getD t undef)→wpS P l.toArray Q (l.drop n) a' w'):
 (Code.region id l.toArray true).wp P Q a w:=by
 rw[Bool.and_eq_true,Bool.and_eq_true] at hback
 refine E.regionP (s0:=s0) (k0:=k0) (v0:=v0) hm hF ds (fun i=>al.contains i) (Hat (ks.map Pk.H)) hback.1.1 hback.1.2 (by simpa using hn) hds hap hk0 hv0 (fun i w w' v h hb=>AllM.at (ks.map Pk.H) (AllM_ks ks) i w w' v h hb) (fun i w v h=>AllA.at al hA i w v h) ?_ tail
 intro i o hi ho a' w' hF' hb hd hol
 have h1:(l.take n)[i]?=some o:=by
  rw[List.getElem?_take,if_pos hi]
  simpa using ho
 have h2:=StepsP.at _ _ steps i o h1
 rw[Nat.zero_add] at h2
 by_cases e:i=i0
 ·subst e
  rw[show Nat.beq i i=true by simp,cond_true] at h2
  exact h2 a' w' (hF'.add (hol hback.2)) hb hd
 ·rw[show Nat.beq i i0=false from Bool.eq_false_iff.2 fun k=>e (Nat.eq_of_beq_eq_true k),cond_false] at h2
  exact h2 a' w' hF' hb hd
end
end Go.Proofs.YtdkmjclbhfnegaaDoor
