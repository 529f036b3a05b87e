import Derived.Test.YtdkmjclbhfnegaaDoorKA1
import Derived.RegionTactic
namespace Go.Proofs.YtdkmjclbhfnegaaDoor
open Go.RowKit
set_option maxRecDepth 100000
set_option linter.unusedVariables false
set_option maxHeartbeats 8000000
section
section
variable {P:Program} {ops:Array Oper} {Q:Exit→Act→World→Prop}
def up (d:Nat→Bool) (i:Nat):Nat→Bool:=fun j=>if j=i then true else d j
theorem up_ne {d:Nat→Bool} {i j:Nat} (h:up d i j=true) (hne:j≠i):d j=true:=by unfold up at h;rwa[if_neg hne] at h
def waitsBack (ops:Array Oper):Bool:=(List.range ops.size).all fun i=>((ops[i]?).map (·.after.all fun e=>!Region.binds .any e || decide (e.on<i))).getD true
def doneOf (listed:Array Bool):Nat→Bool:=fun j=>listed.getD j false
theorem doneOf_set {listed:Array Bool} {i:Nat} (hi:i<listed.size):doneOf (listed.setIfInBounds i true)=up (doneOf listed) i:=by
 funext j
 unfold doneOf up
 by_cases h:j=i
 ·subst h;simp[hi]
 ·rw[if_neg h,getD_set_ne false (Ne.symm h)]
theorem least_false (d:Nat→Bool):∀n,(∃i,i<n∧d i=false)→∃i,i<n∧d i=false∧∀j,j<i→d j=true:=by
 intro n
 induction n with
 |zero=>rintro⟨i,h,_⟩;omega
 |succ n ih=>
  rintro⟨i,hi,hd⟩
  by_cases hh:∃j,j<n∧d j=false
  ·obtain⟨k,h1,h2,h3⟩:=ih hh
   exact⟨k,by omega,h2,h3⟩
  ·refine⟨i,hi,hd,fun j hj=>?_⟩
   cases hdj:d j with
   |true=>rfl
   |false=>exact absurd ⟨j,by omega,hdj⟩ hh
theorem wpAny_inv (hback:waitsBack ops=true) (I:(Nat→Bool)→Act→World→Prop)
 (hstep:∀(d:Nat→Bool) (a:Act) (w:World),I d a w→∀(i:Nat) (o:Oper),ops[i]?=some o→d i=false→(∀e∈o.after,Region.binds .any e=true→d e.on=true)→
   ∀K:Act→World→Prop,(∀a' w',I (up d i) a' w'→K a' w')→if Region.wanted o (yielded ops a.tmps)=true then Oper.wp P o a w K Q else K (a.put o.dst undef) w)
 (hend:∀(d:Nat→Bool) (a:Act) (w:World),I d a w→(∀i,i<ops.size→d i=true)→Q .normal a w):
 ∀(fuel:Nat) (listed:Array Bool) (a:Act) (w:World),listed.size=ops.size→I (doneOf listed) a w→listed.toList.count false≤fuel→wpAny P .any ops Q fuel listed a w:=by
 have hdone:∀(listed:Array Bool) (a:Act) (w:World),listed.size=ops.size→I (doneOf listed) a w→Region.ready .any ops listed=[]→Q .normal a w:=by
  intro listed a w hs hI hr
  refine hend _ a w hI ?_
  intro i hi
  cases hdi:doneOf listed i with
  |true=>rfl
  |false=>
   exfalso
   obtain⟨k,h1,h2,h3⟩:=least_false (doneOf listed) ops.size ⟨i,hi,hdi⟩
   have hk:ops[k]?=some ops[k]:=Array.getElem?_eq_getElem h1
   have hmem:k∈Region.ready .any ops listed:=by
    refine mem_ready.2 ⟨?_,_,hk,fun e he hbd=>?_⟩
    ·unfold doneOf at h2
     have:k<listed.size:=by omega
     simpa[this] using h2
    ·unfold waitsBack at hback
     rw[List.all_eq_true] at hback
     have:=hback k (List.mem_range.2 h1)
     rw[hk] at this
     simp only [Option.map_some,Option.getD_some,Array.all_eq_true_iff_forall_mem,Bool.or_eq_true,Bool.not_eq_true',decide_eq_true_eq] at this
     rcases this e he with h5|h5
     ·rw[hbd] at h5;cases h5
     ·exact h3 _ h5
   rw[hr] at hmem
   cases hmem
 intro fuel
 induction fuel with
 |zero=>
  intro listed a w hs hI hc
  have hall:∀i,i<listed.size→listed.getD i true=true:=by
   intro i hi
   have hz:listed.toList.count false=0:=by omega
   rw[List.count_eq_zero] at hz
   cases hb:listed.getD i true with
   |true=>rfl
   |false=>
    exfalso;apply hz
    simp[hi] at hb
    rw[←hb]
    exact Array.getElem_mem_toList hi
  have hr:Region.ready .any ops listed=[]:=by
   rw[List.eq_nil_iff_forall_not_mem]
   intro j hj
   obtain⟨h1,o,ho,_⟩:=mem_ready.1 hj
   have hlt:j<ops.size:=(Array.getElem?_eq_some_iff.1 ho).1
   rw[hall j (by omega)] at h1
   cases h1
  exact⟨hr,hdone listed a w hs hI hr⟩
 |succ fuel ih=>
  intro listed a w hs hI hc
  refine⟨hdone listed a w hs hI,fun i hi=>?_⟩
  obtain⟨h1,o,ho,hdep⟩:=mem_ready.1 hi
  have hlt:i<listed.size:=by have:=(Array.getElem?_eq_some_iff.1 ho).1;omega
  have hdi:doneOf listed i=false:=by unfold doneOf;simp[hlt] at h1 ⊢;exact h1
  refine wpOp_step ho (fun K hK=>?_)
  refine hstep (doneOf listed) a w hI i o ho hdi (fun e he hb=>hdep e he hb) K (fun a' w' hI'=>hK a' w' ?_)
  refine ih (listed.setIfInBounds i true) a' w' (by simp[hs]) (by rw[doneOf_set hlt];exact hI') ?_
  have hcnt:(listed.setIfInBounds i true).toList.count false+1=listed.toList.count false:=by
   rw[Array.toList_setIfInBounds]
   have hl:listed.toList[i]?=some false:=by
    simp[hlt] at h1
    simp[hlt,h1]
   have hi':i<listed.toList.length:=by simpa using hlt
   rw[List.count_set hi']
   have hv:listed.toList[i]=false:=by
    rw[List.getElem?_eq_getElem hi'] at hl
    injection hl
   have hpos:0<listed.toList.count false:=List.count_pos_iff.2 (by rw[←hv];exact List.getElem_mem hi')
   rw[hv]
   rw[if_pos (by rfl),if_neg (by decide)]
   omega
  omega
theorem wp_region_inv {id:Nat} {a:Act} {w:World} (hm:P.follows .mixedOrders =true) (hback:waitsBack ops=true) (I:(Nat→Bool)→Act→World→Prop)
 (hbegin:I (fun _=>false) a w.drew)
 (hstep:∀(d:Nat→Bool) (a:Act) (w:World),I d a w→∀(i:Nat) (o:Oper),ops[i]?=some o→d i=false→(∀e∈o.after,Region.binds .any e=true→d e.on=true)→
   ∀K:Act→World→Prop,(∀a' w',I (up d i) a' w'→K a' w')→if Region.wanted o (yielded ops a.tmps)=true then Oper.wp P o a w K Q else K (a.put o.dst undef) w)
 (hend:∀(d:Nat→Bool) (a:Act) (w:World),I d a w→(∀i,i<ops.size→d i=true)→Q .normal a w):
 (Code.region id ops true).wp P Q a w:=by
 refine wp_region_any hm ?_
 refine wpAny_inv hback I hstep hend ops.size _ a _ (by simp) ?_ ?_
 ·have e:doneOf (Array.replicate ops.size false)=fun _=>false:=by
   funext j;unfold doneOf
   by_cases h:j<ops.size
   ·simp[h]
   ·simp[h]
  rw[e];exact hbegin
 ·simp
end
end
end Go.Proofs.YtdkmjclbhfnegaaDoor
