import Derived.Test.YtnljadejcfgmaaaGreatDoorKA15
import Derived.Laws.BytesString
import Derived.Laws.StructEq
namespace Go.Proofs.YtnljadejcfgmaaaGreatDoor
open Go.RowKit
set_option maxRecDepth 100000
set_option linter.unusedVariables false
set_option maxHeartbeats 8000000
section
section
structure Grew (k:IntKind) (w w':World):Prop where
 size:w.heap.size≤w'.heap.size
 block:∀b off v,b<w.heap.size→w.cell? ⟨b,off,none⟩=some v→(∀z,v≠ .int k z)→w'.heap[b]?=w.heap[b]?
theorem Grew.refl (k:IntKind) (w:World):Grew k w w:=⟨Nat.le_refl _,fun _ _ _ _ _ _=>rfl⟩
theorem cellk_lt {w:World} {b off:Nat} {v:Value} (h:w.cell? ⟨b,off,none⟩=some v):b<w.heap.size:=by
 unfold World.cell? at h
 cases hq:w.heap[b]? with
 |none=>simp[hq] at h
 |some x=>exact(Array.getElem?_eq_some_iff.1 hq).1
theorem Grew.cell {k:IntKind} {w w':World} (h:Grew k w w') {b off:Nat} {v:Value} (hc:w.cell? ⟨b,off,none⟩=some v) (hv:∀z,v≠ .int k z):w'.cell? ⟨b,off,none⟩=some v:=by
 rw[←hc]
 exact World.cell?_of_block (w:=w) (h.block b off v (cellk_lt hc) hc hv)
theorem Grew.rd {k k':IntKind} {w w':World} (h:Grew k w w') (hk:k'≠k) {ad:Option Addr} {xs:List Nat} (r:Rd w k' ad xs):Rd w' k' ad xs:=by
 refine⟨fun i hi=>?_⟩
 obtain⟨b,off,h1,h2,h3⟩:=r.cell i hi
 exact⟨b,off,h1,Nat.lt_of_lt_of_le h2 h.size,h.cell h3 (fun z e=>by injection e with e1 e2;exact hk e1)⟩
theorem Grew.sq {k k':IntKind} {w w':World} (h:Grew k w w') (hk:k'≠k) {v:Value} {xs:List Nat} (r:Sq w k' v xs):Sq w' k' v xs:=by
 obtain⟨ad,cap,h1,h2,h3⟩:=r
 exact⟨ad,cap,h1,h.rd hk h2,h3⟩
theorem Grew.dg {k k':IntKind} {w w':World} (h:Grew k w w') (hk:k'≠k) {b:Nat} {v:Value} {n:Nat} (r:Dg w k' b v n):Dg w' k' b v n:=h.sq hk r
theorem Grew.trans {k:IntKind} {a b c:World} (h:Grew k a b) (h2:Grew k b c):Grew k a c:=
 ⟨Nat.le_trans h.size h2.size,fun g off v hg hc hv=>by
  have:=h.cell hc hv
  rw[h2.block g off v (Nat.lt_of_lt_of_le hg h.size) this hv];exact h.block g off v hg hc hv⟩
def AccK (w:World) (k:IntKind) (T base:Nat) (v:Value) (xs:List Nat):Prop:=
 (v= .slice none 0 0∧xs=[])∨
 ∃(g cap:Nat) (cs:List Value),v= .slice (some ⟨g,0,none⟩) xs.length cap∧base≤g∧w.heap[g]?=some (.cells cs.toArray T (0,0))∧xs.length≤cap∧cap≤maxLen∧cs.length=cap∧cs.take xs.length=cl k xs∧∀u∈cs,∃z,u= .int k z
theorem AccK.nil (w:World) (k:IntKind) (T base:Nat):AccK w k T base (.slice none 0 0) []:= .inl ⟨rfl,rfl⟩
theorem AccK.below {w w':World} {k:IntKind} {T base:Nat} {v:Value} {xs:List Nat} (h:AccK w k T base v xs) (hb:Below w.heap.size w w'):AccK w' k T base v xs:=by
 rcases h with h|⟨g,cap,cs,h1,h2,h3,h4⟩
 ·exact .inl h
 ·exact .inr ⟨g,cap,cs,h1,h2,by rw[hb.block g (Array.getElem?_eq_some_iff.1 h3).1];exact h3,h4⟩
theorem AccK.form {w:World} {k:IntKind} {T base:Nat} {v:Value} {xs:List Nat} (h:AccK w k T base v xs):∃ad cap,v= .slice ad xs.length cap:=by
 rcases h with⟨rfl,rfl⟩|⟨g,cap,cs,h1,_⟩
 ·exact⟨none,0,rfl⟩
 ·exact⟨_,_,h1⟩
theorem AccK.rebase {w:World} {k:IntKind} {T base base':Nat} {v:Value} {xs:List Nat} (h:AccK w k T base v xs) (hb:base'≤base):AccK w k T base' v xs:=by
 rcases h with h|⟨g,cap,cs,h1,h2,h3⟩
 ·exact .inl h
 ·exact .inr ⟨g,cap,cs,h1,Nat.le_trans hb h2,h3⟩
theorem AccK.row {w:World} {k:IntKind} {T base:Nat} {ad:Option Addr} {n cap:Nat} {xs:List Nat} (h:AccK w k T base (.slice ad n cap) xs) {i:Nat} (hi:i<xs.length):
 ∃g cs,ad=some ⟨g,0,none⟩∧Blk w g cs∧cs[i]?=some (.int k (lg xs i:Nat))∧base≤g:=by
 rcases h with⟨_,rfl⟩|⟨g,cap',cs,h1,h2,h3,h4,h5,h6,h7,h8⟩
 ·simp at hi
 ·injection h1 with e1 e2 e3
  refine⟨g,cs,e1,⟨T,h3⟩,?_,h2⟩
  have:=cl_get (k:=k) hi
  rw[←h7,List.getElem?_take,if_pos hi] at this
  exact this
theorem AccK.len {w:World} {k:IntKind} {T base:Nat} {ad:Option Addr} {n cap:Nat} {xs:List Nat} (h:AccK w k T base (.slice ad n cap) xs):n=xs.length:=by
 rcases h with⟨h1,rfl⟩|⟨g,cap',cs,h1,_⟩
 ·injection h1
 ·injection h1
theorem AccK.take {w:World} {k:IntKind} {T base:Nat} {ad:Option Addr} {n cap:Nat} {xs:List Nat} (h:AccK w k T base (.slice ad n cap) xs) (m:Nat) (hm:m≤xs.length) (h0:0<xs.length):AccK w k T base (.slice ad m cap) (xs.take m):=by
 rcases h with⟨_,rfl⟩|⟨g,cap',cs,h1,h2,h3,h4,h5,h6,h7,h8⟩
 ·simp at h0
 ·injection h1 with e1 e2 e3
  subst e1 e3
  have hl:(xs.take m).length =m:=by simp;omega
  refine .inr ⟨g,cap,cs,by rw[hl],h2,h3,by omega,h5,h6,?_,h8⟩
  rw[hl]
  have:cs.take m=(cs.take xs.length).take m:=by rw[List.take_take,Nat.min_eq_left hm]
  rw[this,h7];simp[cl,List.map_take]
theorem AccK.store {P:Program} {w:World} {k:IntKind} {T base:Nat} {g n cap:Nat} {xs:List Nat} {T8:TypeId} (hs:(P.info? T8).map (·.size)=some 1) (h:AccK w k T base (.slice (some ⟨g,0,none⟩) n cap) xs) {i:Nat} (d:Nat) (hi:i<xs.length):
 ∃w',(Instr.storeAt T8 (.pointer (some ⟨g,i,none⟩)) (.int k (d:Nat))).run P w= .ok () w'∧AccK w' k T base (.slice (some ⟨g,0,none⟩) n cap) (xs.set i d)∧Below base w w'∧Grew k w w':=by
 rcases h with⟨_,rfl⟩|⟨g',cap',cs,h1,h2,h3,h4,h5,h6,h7,h8⟩
 ·simp at hi
 ·injection h1 with e1 e2 e3
  injection e1 with e1
  injection e1 with e1
  subst e1 e3
  have hic:i<cs.length:=by omega
  have hws:cs.take i++[.int k (d:Nat)]++cs.drop (i+1)=cs.set i (.int k (d:Nat)):=by
   rw[List.set_eq_take_append_cons_drop,if_pos hic];simp
  have hst:=run_storeCells_at P g i T [.int k (d:Nat)] 0 cs.toArray w h3 (by simp;omega) (by intro u hu;simp at hu;subst hu;rfl)
  simp only [Nat.add_zero] at hst
  have hrun:(Instr.storeAt T8 (.pointer (some ⟨g,i,none⟩)) (.int k (d:Nat))).run P w= .ok () (w.setRow g (cs.set i (.int k (d:Nat))).toArray):=by
   cases hq:P.info? T8 with
   |none=>simp[hq] at hs
   |some j=>
    have hj:j.size=1:=by simp[hq] at hs;omega
    simp only [Instr.storeAt,Instr.sureAddr,Sem.run_bind,Sem.run_pure,Result.andThen_ok,storeVar,sizeOf,typeInfo,Value.cells]
    simp[hj,hq]
    rw[hst]
    simp only [List.length_cons,List.length_nil,Nat.zero_add]
    rw[←hws]
  have hsize:(w.setRow g (cs.set i (.int k (d:Nat))).toArray).heap.size =w.heap.size:=by simp[World.setRow]
  have hoth:∀b,b≠g→(w.setRow g (cs.set i (.int k (d:Nat))).toArray).heap[b]?=w.heap[b]?:=by
   intro b hb
   simp only [World.setRow,Array.getElem?_modify]
   rw[if_neg (by omega)]
  refine⟨_,hrun,.inr ⟨g,cap,cs.set i (.int k (d:Nat)),by rw[List.length_set,e2],h2,setRow_heap w g _ _ T (0,0) h3,by simpa using h4,h5,by simpa using h6,?_,?_⟩,?_,?_⟩
  ·rw[List.length_set,List.take_set,h7,cl_set]
  ·intro u hu
   rcases List.mem_or_eq_of_mem_set hu with hu|rfl
   ·exact h8 u hu
   ·exact⟨_,rfl⟩
  ·exact⟨rfl,rfl,rfl,by rw[hsize];exact Nat.le_refl _,fun b hbb=>hoth b (by omega)⟩
  ·refine⟨by rw[hsize];exact Nat.le_refl _,fun b off v hbl hc hv=>hoth b ?_⟩
   rintro rfl
   rw[cell_of_row w b off _ _ _ h3,List.getElem?_toArray] at hc
   obtain⟨z,rfl⟩:=h8 v (List.mem_of_getElem? hc)
   exact hv z rfl
theorem all_cl {k:IntKind} {xs:List Nat}:∀u∈cl k xs,∃z,u= .int k z:=by
 intro u hu
 simp[cl] at hu
 obtain⟨n,_,rfl⟩:=hu
 exact⟨_,rfl⟩
theorem all_zero {k:IntKind} (n:Nat):∀u∈(Builtin.zeroCells #[Value.int k 0] n).toList,∃z,u= .int k z:=by
 intro u hu
 rw[Array.mem_toList_iff] at hu
 unfold Builtin.zeroCells at hu
 obtain⟨a,_,rfl⟩:=Array.mem_map.1 hu
 have e:a%(#[Value.int k 0]:Array Value).size =0:=Nat.mod_one a
 exact⟨0,by rw[e];rfl⟩
theorem AccK.app {P:Program} {w:World} {k:IntKind} {t T ty:TypeId} {bytes base:Nat} (ht:P.underlying t=some (.slice T)) (hq:∃i,P.info? T=some i∧i.zero=some (.int k 0)∧i.size=1∧i.bytes=bytes) (hbb:bytes≤8)
 {v:Value} {xs:List Nat} (h:AccK w k T base v xs) {gs:Nat} {d:Nat} (hsrc:Blk w gs [.int k (d:Nat)]) (hl:xs.length≤1099511627776) (hbase:base≤w.heap.size):
 ∃ad n cap w',(Builtin.append_ #[t,t] ty #[v,.slice (some ⟨gs,0,none⟩) 1 1]).run P w= .ok (.slice ad n cap) w'∧AccK w' k T base (.slice ad n cap) (xs++[d])∧Below base w w'∧Grew k w w':=by
 obtain⟨i,hi,hz,hs,hby⟩:=hq
 obtain⟨Ts,hsr⟩:=hsrc
 have hnews:∀j u,([.int k (d:Nat)]:List Value)[j]?=some u→w.cell? ((⟨gs,0,none⟩:Addr).add j)=some u:=by
  intro j u hj
  match j,hj with
  |0,hj=>rw[Addr.add_zero',cell_of_row w gs 0 _ _ _ hsr];exact hj
 have h1:∀u∈([.int k (d:Nat)]:List Value),u.oneCell'=true:=by intro u hu;simp at hu;subst hu;rfl
 have hll:([.int k (d:Nat)]:List Value).length =1*i.size:=by rw[hs];rfl
 -- a new row
 have fresh:∀(ys:List Value) (cap:Nat),ys=cl k xs→xs.length+1≤cap→cap≤maxLen→
  AccK (w.drew.alloc (.cells (ys.toArray++([.int k (d:Nat)]:List Value).toArray ++Builtin.zeroCells (Value.int k 0).cells (cap-(xs.length+1))) T)) k T base (.slice (some ⟨w.heap.size,0,none⟩) (xs.length+1) cap) (xs++[d])∧
  Below base w (w.drew.alloc (.cells (ys.toArray++([.int k (d:Nat)]:List Value).toArray ++Builtin.zeroCells (Value.int k 0).cells (cap-(xs.length+1))) T))∧
  Grew k w (w.drew.alloc (.cells (ys.toArray++([.int k (d:Nat)]:List Value).toArray ++Builtin.zeroCells (Value.int k 0).cells (cap-(xs.length+1))) T)):=by
  intro ys cap hy hc hm
  subst hy
  have hlen:(xs++[d]).length =xs.length+1:=by simp
  refine⟨.inr ⟨w.heap.size,cap,cl k (xs++[d])++(Builtin.zeroCells #[Value.int k 0] (cap-(xs.length+1))).toList,by rw[hlen],hbase,?_,by rw[hlen];exact hc,hm,?_,?_,?_⟩,?_,?_⟩
  ·refine(heap_alloc_new w.drew _).trans ?_
   simp[cl_snoc,Value.cells]
  ·have hz':(Builtin.zeroCells #[Value.int k 0] (cap-(xs.length+1))).toList.length =cap-(xs.length+1):=by rw[Array.length_toList,size_zeroCells];simp
   rw[List.length_append,cl_length,hlen,hz']
   omega
  ·rw[hlen,List.take_left' (by rw[cl_length,hlen])]
  ·intro u hu
   rcases List.mem_append.1 hu with hu|hu
   ·exact all_cl u hu
   ·exact all_zero _ u hu
  ·exact⟨rfl,rfl,rfl,by simp,fun b hb=>heap_alloc_old w.drew _ (Nat.lt_of_lt_of_le hb hbase)⟩
  ·exact⟨by simp,fun b off v hb _ _=>heap_alloc_old w.drew _ hb⟩
 rcases h with⟨rfl,rfl⟩|⟨g,cap,cs,rfl,h2,h3,h4,h5,h6,h7,h8⟩
 ·have hr:=run_append_nil (P:=P) w t ty T i (.int k 0) ht hi hz ⟨gs,0,none⟩ 1 1 [.int k (d:Nat)] hll hnews (by decide) (by decide) (by rw[hby];omega)
  have hge:=grownCap_ge w 1 0 T
  have hle:=grownCap_le_maxLen w 1 0 T (by unfold maxLen;omega)
  have hf:=fresh [] (grownCap w 1 0 T) rfl (by simpa using hge) hle
  simp only [List.length_nil,Nat.zero_add] at hf
  refine⟨_,_,_,_,hr,?_⟩
  simpa using hf
 ·by_cases hroom:xs.length+1≤cap
  ·have hfit:xs.length*i.size+([.int k (d:Nat)]:List Value).length ≤cs.toArray.size:=by rw[hs];simp;omega
   have hr:=run_append_room (P:=P) w t ty T i ht hi g xs.length cap cs.toArray h3 ⟨gs,0,none⟩ 1 1 [.int k (d:Nat)] hll hnews h1 hroom hfit
   have hws:cs.take xs.length++[.int k (d:Nat)]++cs.drop (xs.length+1)=cs.set xs.length (.int k (d:Nat)):=by
    rw[List.set_eq_take_append_cons_drop,if_pos (by omega)];simp
   have e:(cs.toArray.toList.take (xs.length*i.size)++[.int k (d:Nat)]++cs.toArray.toList.drop (xs.length*i.size+([.int k (d:Nat)]:List Value).length))=cs.set xs.length (.int k (d:Nat)):=by
    rw[hs];simpa using hws
   rw[e] at hr
   have hlen:(xs++[d]).length =xs.length+1:=by simp
   have hsize:(w.setRow g (cs.set xs.length (.int k (d:Nat))).toArray).heap.size =w.heap.size:=by simp[World.setRow]
   have hoth:∀b,b≠g→(w.setRow g (cs.set xs.length (.int k (d:Nat))).toArray).heap[b]?=w.heap[b]?:=by
    intro b hb
    simp only [World.setRow,Array.getElem?_modify]
    rw[if_neg (by omega)]
   refine⟨_,_,_,_,hr,.inr ⟨g,cap,cs.set xs.length (.int k (d:Nat)),by rw[hlen],h2,setRow_heap w g _ _ T (0,0) h3,by rw[hlen];exact hroom,h5,by simpa using h6,?_,?_⟩,?_,?_⟩
   ·rw[hlen,cl_snoc,←h7]
    rw[List.take_set,List.take_add_one,List.set_append_right _ _ (by simp;omega)]
    simp[show xs.length<cs.length by omega,Nat.min_eq_left (show xs.length≤cs.length by omega)]
   ·intro u hu
    rcases List.mem_or_eq_of_mem_set hu with hu|rfl
    ·exact h8 u hu
    ·exact⟨_,rfl⟩
   ·exact⟨rfl,rfl,rfl,by rw[hsize];exact Nat.le_refl _,fun b hbb=>hoth b (by omega)⟩
   ·refine⟨by rw[hsize];exact Nat.le_refl _,fun b off v hbl hc hv=>hoth b ?_⟩
    rintro rfl
    rw[cell_of_row w b off _ _ _ h3,List.getElem?_toArray] at hc
    obtain⟨z,rfl⟩:=h8 v (List.mem_of_getElem? hc)
    exact hv z rfl
  ·have holds:∀j u,(cl k xs)[j]?=some u→w.cell? ((⟨g,0,none⟩:Addr).add j)=some u:=by
    intro j u hj
    have hjl:j<xs.length:=by
     have:=(List.getElem?_eq_some_iff.1 hj).1
     rwa[cl_length] at this
    rw[Addr.add_mid,Nat.zero_add,cell_of_row w g j _ _ _ h3,List.getElem?_toArray]
    rw[←h7,List.getElem?_take,if_pos hjl] at hj
    exact hj
   have hr:=run_append_grow (P:=P) w t ty T i (.int k 0) ht hi hz ⟨g,0,none⟩ xs.length cap (cl k xs) (by rw[cl_length,hs,Nat.mul_one]) holds ⟨gs,0,none⟩ 1 1 [.int k (d:Nat)] hll hnews (by omega) (by omega)
    (growslice_fits (by omega) (by rw[hby];have:=Nat.mul_le_mul_left (xs.length+1) hbb;omega))
   have hge:=grownCap_ge w (xs.length+1) cap T
   have hle:=grownCap_le_maxLen w (xs.length+1) cap T (by unfold maxLen;omega)
   exact⟨_,_,_,_,hr,fresh (cl k xs) _ rfl hge hle⟩
end
section
def bstr (xs:List Nat):ByteArray:=⟨(xs.map UInt8.ofNat).toArray⟩
theorem bstr_size (xs:List Nat):(bstr xs).size =xs.length:=by simp[bstr,ByteArray.size]
theorem bstr_append (xs ys:List Nat):bstr xs++bstr ys=bstr (xs++ys):=by
 apply ByteArray.ext
 simp[bstr,ByteArray.data_append]
theorem bstr_toList (xs:List Nat):(bstr xs).toList =xs.map UInt8.ofNat:=by
 rw[ByteArray.toList_eq];simp[bstr]
theorem bstr_foldl:∀(xs:List Nat) (s:ByteArray),(xs.map fun n=>((n:Nat):Int)).foldl (fun r n=>r.push (UInt8.ofNat n.toNat)) s=s++bstr xs
 |[],s=>by apply ByteArray.ext;simp[bstr,ByteArray.data_append]
 |x::xs,s=>by
  simp only [List.map_cons,List.foldl_cons]
  rw[bstr_foldl xs]
  apply ByteArray.ext
  simp[bstr,ByteArray.data_append,ByteArray.data_push]
section
variable {P:Program} {w:World}
theorem w_u8 {a:Int} (h0:0≤a) (h1:a≤255):IntKind.u8.wrap a=a:=IntWalk.u8_in _ ⟨h0,h1⟩
theorem w_u32 {a:Int} (h0:0≤a) (h1:a≤4294967295):IntKind.u32.wrap a=a:=IntWalk.u32_in _ ⟨h0,h1⟩
theorem iw_add {t:TypeId} {k:IntKind} {a b:Int} (h:k.wrap (a+b)=a+b):(binOp .add t (.int k a) (.int k b)).run P w= .ok (.int k (a+b)) w:=by
 simp only [binOp,Op.intArith,ne_eq,not_true_eq_false,if_false];rw[h];rfl
theorem iw_quo {t:TypeId} {k:IntKind} {a b:Int} (hb:0<b) (ha:0≤a) (h:k.wrap (a/b)=a/b):(binOp .quo t (.int k a) (.int k b)).run P w= .ok (.int k (a/b)) w:=by
 have hne:b≠0:=by omega
 simp only [binOp,Op.intDiv,ne_eq,not_true_eq_false,if_false,if_neg hne]
 rw[Int.tdiv_eq_ediv_of_nonneg ha,h];rfl
theorem iw_rem {t:TypeId} {k:IntKind} {a b:Int} (hb:0<b) (ha:0≤a):(binOp .rem t (.int k a) (.int k b)).run P w= .ok (.int k (a%b)) w:=by
 have hne:b≠0:=by omega
 simp only [binOp,Op.intDiv,ne_eq,not_true_eq_false,if_false,if_neg hne]
 rw[Int.tmod_eq_emod_of_nonneg ha];rfl
theorem cv_kind {s t:TypeId} {k k0 k':IntKind} {a:Int} (hs:P.underlying s=some (.int k0)) (ht:P.underlying t=some (.int k')) (h:k'.wrap a=a):(convert s t (.int k a)).run P w= .ok (.int k' a) w:=by
 unfold convert
 simp only [Sem.run_bind,run_underlying hs,run_underlying ht,Result.andThen_ok]
 show(Conv.intToInt k' a).run P w=_
 unfold Conv.intToInt
 rw[h]
 rfl
theorem sb_eq {t:TypeId} {xs ys:List Nat} {c:Bool} (h:(xs.map UInt8.ofNat == ys.map UInt8.ofNat)=c):(binOp .eql t (.string (bstr xs)) (.string (bstr ys))).run P w= .ok (.bool c) w:=by
 subst h
 simp only [binOp,Op.stringOp,bstr_toList];rfl
theorem sb_add {t:TypeId} {xs ys:List Nat} (h:xs.length+ys.length≤9223372036854775807):(binOp .add t (.string (bstr xs)) (.string (bstr ys))).run P w= .ok (.string (bstr (xs++ys))) w:=by
 have h':¬(((bstr xs).size +(bstr ys).size :Nat):Int)>IntKind.i64.max:=by
  rw[bstr_size,bstr_size];simp[IntKind.max,IntKind.bits,IntKind.signed];omega
 simp only [binOp,Op.stringOp,if_neg h',bstr_append]
 rfl
theorem eg_str {op:BinOp} {t:TypeId} {x y:Operand} {a b:ByteArray}:(eqGuard op t x y (.string a) (.string b)).run P w= .ok () w:=by
 unfold eqGuard;split <;> rfl
theorem AccK.sqb {k:IntKind} {T base:Nat} {v:Value} {xs:List Nat} (h:AccK w k T base v xs):∃ad cap,v= .slice ad xs.length cap∧Rd w k ad xs∧(ad=none→xs=[]):=by
 rcases h with⟨rfl,rfl⟩|⟨g,cap,cs,h1,h2,h3,h4,h5,h6,h7,h8⟩
 ·exact⟨none,0,rfl,Rd.nil _ _ _,fun _=>rfl⟩
 ·refine⟨_,_,h1,⟨fun i hi=>⟨g,0,rfl,(Array.getElem?_eq_some_iff.1 h3).1,?_⟩⟩,fun h=>by cases h⟩
  rw[Nat.zero_add,cell_of_row w g i _ _ _ h3,List.getElem?_toArray]
  have:=cl_get (k:=k) hi
  rw[←h7,List.getElem?_take,if_pos hi] at this
  exact this
theorem r_slice {a:Act} {dst:Option Tmp} {ty:TypeId} {pos:String} {af:Array Edge} {gd:Option (Nat×Bool)} {t:TypeId} {x hi:Operand} {p q v:Value} (h:a.eval x=p) (h2:a.eval hi=q) (hl:(Instr.sliceAt t p none (some q) none).run P w= .ok v w):
 (execOp a.eval ⟨dst,.slice t x none (some hi) none,ty,pos,af,gd⟩).run P w= .ok (.value v) w:=by
 simp only [execOp,h,h2,Option.map]
 exact run_v hl
end
theorem sz_u8:(Tryz.prog.info? 5).map (·.size)=some 1:=by kernel_rfl
theorem bs8 (w:World) (z:Int) {d:Nat} (hz:z=((d:Nat):Int)):∃g w',(Instr.buildSlice 187 1 #[(0,.int .u8 z)]).run Tryz.prog w= .ok (.slice (some ⟨g,0,none⟩) 1 1) w'∧Below w.heap.size w w'∧Blk w' g [.int .u8 ((d:Nat):Int)]:=by
 subst hz
 have hb:=blk_new (w:=w) (cs:=[.int .u8 ((d:Nat):Int)]) 5
 refine⟨w.heap.size,w.alloc (.cells #[.int .u8 ((d:Nat):Int)] 5),?_,hb.2,hb.1⟩
 have hs:=size_run (P:=Tryz.prog) (T:=5) (n:=1) sz_u8 w
 simp[Instr.buildSlice,go_sem,hs,Instr.fill,Value.cells,newRow]
theorem info_u8:∃i,Tryz.prog.info? 5=some i∧i.zero=some (.int .u8 0)∧i.size=1∧i.bytes=1:=by
 have h1:=sz_u8
 have h2:(Tryz.prog.info? 5).bind (·.zero)=some (.int .u8 0):=by kernel_rfl
 have h3:(Tryz.prog.info? 5).map (·.bytes)=some 1:=by kernel_rfl
 cases hq:Tryz.prog.info? 5 with
 |none=>rw[hq] at h1;cases h1
 |some i=>exact⟨i,rfl,by simpa[hq] using h2,by simpa[hq] using h1,by simpa[hq] using h3⟩
theorem app8 {w:World} {base:Nat} {v:Value} {xs:List Nat} (h:AccK w .u8 5 base v xs) {gs d:Nat} (hs:Blk w gs [.int .u8 ((d:Nat):Int)]) (hl:xs.length≤1099511627776) (bel:base≤w.heap.size) {ty:TypeId}:
 ∃ad n cap w',(builtin .append #[187,187] ty #[false,false] #[v,.slice (some ⟨gs,0,none⟩) 1 1]).run Tryz.prog w= .ok (.value (.slice ad n cap)) w'∧AccK w' .u8 5 base (.slice ad n cap) (xs++[d])∧Below base w w'∧Grew .u8 w w':=by
 obtain⟨ad,n,cap,w',h1,h2⟩:=AccK.app (ty:=ty) Tryz.underlying187 info_u8 (by decide) h hs hl bel
 refine⟨ad,n,cap,w',?_,h2⟩
 show(do pure (.value (←Builtin.append_ #[187,187] ty #[v,.slice (some ⟨gs,0,none⟩) 1 1])):Sem Next).run Tryz.prog w=_
 rw[Sem.run_bind,h1];rfl
theorem ix8 {w:World} {g n c:Nat} {i:Int} (h0:0≤i) (h1:i<n):(Instr.indexAt 187 (.slice (some ⟨g,0,none⟩) n c) (.int .i64 i)).run Tryz.prog w= .ok (.pointer (some ⟨g,i.toNat,none⟩)) w:=by
 simp[Instr.indexAt,asIntOf,run_underlying Tryz.underlying187,Sem.run_bind,h0,h1,Addr.add_mid]
theorem ldb_u8 {w:World} {g o:Nat} {cs:List Value} {v:Value} (h:Blk w g cs) (hv:cs[o]?=some v):(Instr.loadAt 5 (.pointer (some ⟨g,o,none⟩))).run Tryz.prog w= .ok v w:=blk_load1 h hv Tryz.underlying5 rfl
theorem bl_u8s {w:World} {t:TypeId} {ad:Option Addr} {n c:Nat}:(builtin .len #[187] t #[false] #[.slice ad n c]).run Tryz.prog w= .ok (.value (.int .i64 n)) w:=by
 simp[Builtin.len_,go_sem]
theorem sl8 {w:World} {ad:Option Addr} {n c m:Nat} {z:Int} (hz:z=((m:Nat):Int)) (hm:m≤c):(Instr.sliceAt 187 (.slice ad n c) none (some (.int .i64 z)) none).run Tryz.prog w= .ok (.slice ad m c) w:=by
 subst hz
 have h1:¬((c:Int)<(m:Int)):=by omega
 cases ad <;> simp[Instr.sliceAt,Instr.slice,Instr.sliceBounds,Instr.sliceBound,asIntOf,run_underlying Tryz.underlying187,Sem.run_bind,hm,go_sem]
theorem cv_str {w:World} {v:Value} {xs:List Nat} (h:∃ad cap,v= .slice ad xs.length cap∧Rd w .u8 ad xs∧(ad=none→xs=[])):(convert 187 9 v).run Tryz.prog w= .ok (.string (bstr xs)) w:=by
 obtain⟨ad,cap,rfl,hr,hn⟩:=h
 rw[run_convert_bytes_string w _ _ _ ad _ _ Tryz.underlying187 Tryz.underlying5 Tryz.underlying9]
 cases ad with
 |none=>
  rw[hn rfl]
  rfl
 |some a=>
  have hl:(loadCells a xs.length).run Tryz.prog w= .ok ((xs.map fun n=>((n:Nat):Int)).map (Value.int .u8)).toArray w:=by
   have:=run_loadCells_list (P:=Tryz.prog) (w:=w) a (cl .u8 xs) (fun j v hj=>by
    have hjl:j<xs.length:=by
     have:=(List.getElem?_eq_some_iff.1 hj).1
     rwa[cl_length] at this
    rw[cl_get hjl] at hj
    obtain⟨b,off,ha,_,hc⟩:=hr.cell j hjl
    injection ha with ha
    subst ha
    rw[Addr.add_mid,hc]
    exact hj)
   rw[cl_length] at this
   rw[this]
   simp[cl]
  rw[run_bytesToString w a xs.length cap _ hl,bstr_foldl]
  rfl
end
section
def asc (ds:List Nat):List Nat:=ds.map (48+ ·)
theorem asc_len (ds:List Nat):(asc ds).length =ds.length:=by simp[asc]
theorem asc_snoc (ds:List Nat) (d:Nat):asc (ds++[d])=asc ds++[48+d]:=by simp[asc]
theorem asc_take (ds:List Nat) (k:Nat):asc (ds.take k)=(asc ds).take k:=by simp[asc,List.map_take]
theorem lg_asc {ds:List Nat} {i:Nat} (h:i<ds.length):lg (asc ds) i=48+lg ds i:=by
 rw[lg_get (by rw[asc_len];exact h),lg_get h];simp[asc]
theorem dl_zero2:dl 2 0=0:=by unfold dl;rw[dg_zero];rfl
theorem bits_yes {X:Nat} (h:0<X):(0:Int)<((dl 2 X:Nat):Int):=by have:=dl_pos (by decide:2≤2) h;omega
theorem bits_no {X:Nat} (h:¬0<X):¬(0:Int)<((dl 2 X:Nat):Int):=by rw[show X=0 by omega,dl_zero2];decide
theorem digits_step {N L Q r X:Nat} {ds:List Nat} (h:vl 10 ds+10^ds.length*X=N) (hX:X=r+1000000000*Q):vl 10 ds+10^ds.length*(r+10^(9-0)*Q)=N:=by
 rw[←h,hX]
theorem digits_in {N r Q j:Nat} {ds:List Nat} (hj:j<9) (h:vl 10 ds+10^ds.length*(r+10^(9-j)*Q)=N):vl 10 (ds++[r%10])+10^(ds++[r%10]).length *(r/10+10^(9-(j+1))*Q)=N:=by
 rw[vl_snoc,←h,List.length_append,List.length_singleton,Nat.pow_succ,show 9-j=(9-(j+1))+1 by omega,Nat.pow_succ]
 have e:=Nat.div_add_mod r 10
 generalize 10^ds.length=T
 generalize 10^(9-(j+1))=S
 have e1:T*10*(r/10+S*Q)=T*(10*(r/10))+T*(S*10*Q):=by grind
 have e2:T*(r+S*10*Q)=T*r+T*(S*10*Q):=by grind
 have e3:T*r=T*(10*(r/10))+T*(r%10):=by rw[←Nat.mul_add,e]
 have e4:r%10*T=T*(r%10):=Nat.mul_comm _ _
 omega
theorem digits_lt {r j:Nat} (hj:j<9) (h:r<10^(9-j)):r/10<10^(9-(j+1)):=by
 rw[show 9-j=(9-(j+1))+1 by omega,Nat.pow_succ] at h
 omega
theorem digits_len {N M X:Nat} {ds:List Nat} (hN:N<2^M) (h:vl 10 ds+10^ds.length*X=N) (hX:0<X):ds.length<M:=by
 have h1:10^ds.length*1≤10^ds.length*X:=Nat.mul_le_mul_left _ hX
 have h2:10^ds.length<2^M:=by omega
 have h3:2^ds.length≤10^ds.length:=Nat.pow_le_pow_left (by decide) _
 exact(Nat.pow_lt_pow_iff_right (by decide:1<2)).1 (by omega)
theorem digits_out {N r Q:Nat} {ds:List Nat} (h:vl 10 ds+10^ds.length*(r+10^(9-9)*Q)=N) (hr:r<10^(9-9)):vl 10 ds+10^ds.length*Q=N:=by
 have:r=0:=by simp at hr;exact hr
 subst this
 simpa using h
theorem vl_cut {ds:List Nat} (h:0<ds.length) (h0:lg ds (ds.length-1)=0):vl 10 (ds.take (ds.length-1))=vl 10 ds:=by
 have:=vl_take_succ 10 ds (ds.length-1)
 rw[h0,show ds.length-1+1=ds.length by omega,vl_take_all (Nat.le_refl _)] at this
 omega
theorem AccK.cap {w:World} {k:IntKind} {T base:Nat} {ad:Option Addr} {n cap:Nat} {xs:List Nat} (h:AccK w k T base (.slice ad n cap) xs):n≤cap:=by
 rcases h with⟨h1,rfl⟩|⟨g,cap',cs,h1,h2,h3,h4,_⟩
 ·injection h1 with e1 e2 e3;omega
 ·injection h1 with e1 e2 e3;omega
theorem small9 (v1:Value) (N:Nat) (w:World) (h1:Dg w .u32 B32 v1 N):Calls Tryz.prog 234 #[v1,.int .u32 1000000000] w (fun e w'=>∃v,e= .returned (.tuple #[v,.int .u32 ((N%1000000000:Nat):Int)])∧Dg w' .u32 B32 v (N/1000000000)∧Below w.heap.size w w'):=by
 refine(small_any v1 N 1000000000 w h1.nt (by decide)).mono ?_
 rintro e w' ⟨v,rfl,h,hb⟩
 exact⟨v,rfl,h,hb⟩
def LowPost (w:World) (N:Nat):Ending→World→Prop:=fun e w'=>∃v,e= .returned v∧AccK w' .u8 5 w.heap.size v (asc (dg 10 N))∧Below w.heap.size w w'
end
section
theorem lowest_any (v1:Value) (N M:Nat) (w:World) (h1:Dg w .u32 B32 v1 N) (hN:N<2^M) (hM:M≤1000000000):
 Calls Tryz.prog 199 #[v1] w (LowPost w N):=by
 obtain⟨a1,n1,c1,rfl⟩:=h1.form
 have bel:Below w.heap.size w w:=Below.refl _ _
 refine E.enter (nt:=43) (L:=[(0,.slice a1 n1 c1)]) Tryz.func199 rfl rfl rfl (args_cons (i:=0) rfl args_nil) ?_
 intro a hF
 refine wp_seq ?_
 refine E.seq ?_
 refine E.opv hF (r_assign ev_c) rfl rfl rfl rfl fun a hF=>?_
 refine E.nil ?_
 refine wp_seq ?_
 refine E.seq ?_
 refine E.opv hF (r_assign ev_c) rfl rfl rfl rfl fun a hF=>?_
 refine E.nil ?_
 refine wp_seq ?_
 refine wp_block ?_
 refine E.loop (fun mq a wv=>∃(sa:Option Addr) (sn:Nat) (sc:Nat) (X:Nat) (la:Option Addr) (ln:Nat) (lc:Nat) (ds:List Nat),vl 10 ds+10^ds.length*X=N∧okb 10 ds∧ds.length≤M+9∧Fr 43 a [(3,.slice la ln lc),(2,.slice none 0 0),(0,.slice sa sn sc)]∧Below w.heap.size w wv∧Dg wv .u32 B32 (.slice sa sn sc) X∧AccK wv .u8 5 w.heap.size (.slice la ln lc) (asc ds)∧mq=X) (N) ?_ ?_
 ·exact⟨a1,n1,c1,N,none,0,0,[],(by simp[vl]),(okb_nil _),(Nat.zero_le _),Fr.sub (L':=[(3,.slice none 0 0),(2,.slice none 0 0),(0,.slice a1 n1 c1)]) hF (by intro p hp;simp only [List.mem_cons,List.not_mem_nil,or_false] at hp ⊢;rcases hp with rfl|rfl|rfl <;> simp),bel,h1,(AccK.nil _ _ _ _),rfl⟩
 ·rintro mq a w1 ⟨sa,sn,sc,X,la,ln,lc,ds,hq,hok,hln,hF,bel,hx,ha,hm⟩
  by_cases hX:0<X
  ·refine wp_seq ?_
   refine wp_seq ?_
   refine E.seq ?_
   refine E.opv hF (r_move (hF.at 2 rfl)) rfl rfl rfl rfl fun a hF=>?_
   refine E.call hF (r_call Tryz.func67 en67.1 en67.2 (map1 (hF.at 0 rfl))) (bits_any _ X _ (Dg.nt hx)) rfl rfl rfl rfl ?_
   rintro e w2 ⟨rfl,hw⟩
   have bb:Below w1.heap.size w1 w2:=by rw[hw];exact Below.refl _ _
   clear hw
   refine⟨_,rfl,?_⟩
   intro a hF
   replace ha:=ha.below bb
   replace hx:=hx.below bb
   replace bel:=below_to bel bb
   clear bb
   refine E.opv hF (r_bin (hF.at 0 rfl) ev_c eg_scalar (bi_int (ic_gtr (c:=true) (dec_tt (bits_yes hX))) (by simp))) rfl rfl rfl rfl fun a hF=>?_
   refine E.nil ?_
   refine wp_cond_true (hF.at 0 rfl) ?_
   refine wp_skip ?_
   refine E.norm ?_
   refine wp_block ?_
   refine wp_seq ?_
   refine E.seq ?_
   refine E.opv hF (r_assign ev_c) rfl rfl rfl rfl fun a hF=>?_
   refine E.nil ?_
   refine wp_seq ?_
   refine E.seq ?_
   refine E.opv hF (r_move (hF.at 6 rfl)) rfl rfl rfl rfl fun a hF=>?_
   refine E.call hF (r_call Tryz.func234 en234.1 en234.2 (map2 (hF.at 0 rfl) ev_c)) (small9 _ X _ hx) rfl rfl rfl rfl ?_
   rintro e w3 ⟨vv4,rfl,hh5,bb⟩
   refine⟨_,rfl,?_⟩
   intro a hF
   replace ha:=ha.below bb
   replace hx:=hx.below bb
   replace bel:=below_to bel bb
   clear bb
   obtain⟨ad6,n6,c6,rfl⟩:=Dg.form hh5
   refine E.opv hF (r_move (hF.at 0 rfl)) rfl rfl rfl rfl fun a hF=>?_
   refine E.opv hF (r_extract (v:= .slice ad6 n6 c6) (hF.at 0 rfl) rfl) rfl rfl rfl rfl fun a hF=>?_
   refine E.opv hF (r_extract (v:= .int .u32 ((X%1000000000:Nat):Int)) (hF.at 1 rfl) rfl) rfl rfl rfl rfl fun a hF=>?_
   refine E.opset (L':=[(0,.slice ad6 n6 c6),(12,.int .u32 ((X%1000000000:Nat):Int)),(11,.slice ad6 n6 c6),(8,.tuple #[.slice ad6 n6 c6,.int .u32 ((X%1000000000:Nat):Int)]),(10,.tuple #[.slice ad6 n6 c6,.int .u32 ((X%1000000000:Nat):Int)]),(9,.slice sa sn sc),(4,.int .u32 0),(7,.bool true),(6,.int .i64 (dl 2 (X):Nat)),(5,.slice sa sn sc),(3,.slice la ln lc),(2,.slice none 0 0)]) hF (r_assign (hF.at 1 rfl)) rfl rfl rfl rfl fun a hF=>?_
   refine E.opset (L':=[(4,.int .u32 ((X%1000000000:Nat):Int)),(0,.slice ad6 n6 c6),(12,.int .u32 ((X%1000000000:Nat):Int)),(11,.slice ad6 n6 c6),(8,.tuple #[.slice ad6 n6 c6,.int .u32 ((X%1000000000:Nat):Int)]),(10,.tuple #[.slice ad6 n6 c6,.int .u32 ((X%1000000000:Nat):Int)]),(9,.slice sa sn sc),(7,.bool true),(6,.int .i64 (dl 2 (X):Nat)),(5,.slice sa sn sc),(3,.slice la ln lc),(2,.slice none 0 0)]) hF (r_assign (hF.at 1 rfl)) rfl rfl rfl rfl fun a hF=>?_
   refine E.nil ?_
   refine wp_seq ?_
   refine E.seq ?_
   refine E.opv hF (r_move ev_c) rfl rfl rfl rfl fun a hF=>?_
   refine E.nil ?_
   refine wp_block ?_
   refine E.loop (fun mq a wv=>∃(j:Nat) (r:Nat) (lb:Option Addr) (lm:Nat) (lk:Nat) (es:List Nat),j≤9∧vl 10 es+10^es.length*(r+10^(9-j)*(X/1000000000))=N∧r<10^(9-j)∧okb 10 es∧es.length=ds.length+j∧r≤999999999∧ds.length<M∧Fr 43 a [(13,.int .i64 ((j:Nat):Int)),(4,.int .u32 ((r:Nat):Int)),(0,.slice ad6 n6 c6),(3,.slice lb lm lk),(2,.slice none 0 0)]∧Below w.heap.size w wv∧Dg wv .u32 B32 (.slice ad6 n6 c6) ((X/1000000000))∧AccK wv .u8 5 w.heap.size (.slice lb lm lk) (asc es)∧mq=9-j) (9-0) ?_ ?_
   ·exact⟨0,(X%1000000000),la,ln,lc,ds,(by omega),(digits_step (L:=0) hq (by omega)),(by omega),hok,(by omega),(by omega),(digits_len hN hq hX),Fr.sub (L':=[(13,.int .i64 ((0:Nat):Int)),(4,.int .u32 ((X%1000000000:Nat):Int)),(0,.slice ad6 n6 c6),(3,.slice la ln lc),(2,.slice none 0 0)]) hF (by intro p hp;simp only [List.mem_cons,List.not_mem_nil,or_false] at hp ⊢;rcases hp with rfl|rfl|rfl|rfl|rfl <;> simp),bel,hh5,ha,rfl⟩
   ·rintro mq a w7 ⟨j,r,lb,lm,lk,es,hj,hq2,hr2,hok2,hl2,hrb,hdm,hF,bel,hh5,hb,hm⟩
    by_cases hj9:j<9
    ·refine wp_seq ?_
     refine E.seq ?_
     refine E.opv hF (r_bin (hF.at 0 rfl) ev_c eg_scalar (bi_int (ic_lss (c:=true) (dec_tt (by omega))) (by simp))) rfl rfl rfl rfl fun a hF=>?_
     refine E.nil ?_
     refine wp_seq ?_
     refine wp_cond_true (hF.at 0 rfl) ?_
     refine wp_skip ?_
     refine E.norm ?_
     refine wp_seq ?_
     refine wp_block ?_
     refine wp_seq ?_
     refine E.seq ?_
     refine E.opv hF (r_move (hF.at 4 rfl)) rfl rfl rfl rfl fun a hF=>?_
     refine E.opv hF (r_move (hF.at 3 rfl)) rfl rfl rfl rfl fun a hF=>?_
     refine E.opv hF (r_bin (hF.at 0 rfl) ev_c eg_scalar (iw_rem (a:=((r:Nat):Int)) (b:=10) (by omega) (by omega))) rfl rfl rfl rfl fun a hF=>?_
     refine E.opv hF (r_bin ev_c (hF.at 0 rfl) eg_scalar (iw_add (a:=48) (b:=((r:Nat):Int)%10) (w_u32 (by omega) (by omega)))) rfl rfl rfl rfl fun a hF=>?_
     refine E.opv hF (r_conv (hF.at 0 rfl) (cv_kind (k':= .u8) Tryz.underlying146 Tryz.underlying5 (w_u8 (by omega) (by omega)))) rfl rfl rfl rfl fun a hF=>?_
     obtain⟨gl8,w9,hr,bb,ogl8⟩:=bs8 w7 (48+(((r:Nat):Int)%10)) (d:=48+r%10) (by omega)
     refine E.opv hF (r_buildSlice (pair1 (hF.at 0 rfl)) hr) rfl rfl rfl rfl fun a hF=>?_
     clear hr
     replace hb:=hb.below bb
     replace hh5:=hh5.below bb
     replace bel:=below_to bel bb
     clear bb
     obtain⟨la10,ln11,lc12,w13,hr,ha14,bb,gr⟩:=app8 hb ogl8 (by rw[asc_len];omega) bel.size
     refine E.opv hF (r_builtin (map2 (hF.at 5 rfl) (hF.at 0 rfl)) hr) rfl rfl rfl rfl fun a hF=>?_
     clear hr
     replace hh5:=gr.dg (by decide) hh5
     replace bel:=bel.trans bb
     clear bb gr
     refine E.opset (L':=[(3,.slice la10 ln11 lc12),(21,.slice la10 ln11 lc12),(20,.slice (some ⟨gl8,0,none⟩) 1 1),(19,.int .u8 (48+(((r:Nat):Int)%10))),(18,.int .u32 (48+(((r:Nat):Int)%10))),(17,.int .u32 (((r:Nat):Int)%10)),(16,.int .u32 ((r:Nat):Int)),(15,.slice lb lm lk),(14,.bool true),(13,.int .i64 ((j:Nat):Int)),(4,.int .u32 ((r:Nat):Int)),(0,.slice ad6 n6 c6),(2,.slice none 0 0)]) hF (r_assign (hF.at 0 rfl)) rfl rfl rfl rfl fun a hF=>?_
     refine E.nil ?_
     refine E.seq ?_
     refine E.opv hF (r_move (hF.at 10 rfl)) rfl rfl rfl rfl fun a hF=>?_
     refine E.opv hF (r_bin (hF.at 0 rfl) ev_c eg_scalar (iw_quo (a:=((r:Nat):Int)) (b:=10) (by omega) (by omega) (w_u32 (by omega) (by omega)))) rfl rfl rfl rfl fun a hF=>?_
     refine E.opset (L':=[(4,.int .u32 (((r:Nat):Int)/10)),(23,.int .u32 (((r:Nat):Int)/10)),(22,.int .u32 ((r:Nat):Int)),(3,.slice la10 ln11 lc12),(21,.slice la10 ln11 lc12),(20,.slice (some ⟨gl8,0,none⟩) 1 1),(19,.int .u8 (48+(((r:Nat):Int)%10))),(18,.int .u32 (48+(((r:Nat):Int)%10))),(17,.int .u32 (((r:Nat):Int)%10)),(16,.int .u32 ((r:Nat):Int)),(15,.slice lb lm lk),(14,.bool true),(13,.int .i64 ((j:Nat):Int)),(0,.slice ad6 n6 c6),(2,.slice none 0 0)]) hF (r_assign (hF.at 0 rfl)) rfl rfl rfl rfl fun a hF=>?_
     refine E.nil0 ?_
     refine E.blk ?_
     refine E.norm ?_
     refine E.seq ?_
     refine E.opv hF (r_bin (hF.at 12 rfl) ev_c eg_scalar (ia_add (by omega) (by omega))) rfl rfl rfl rfl fun a hF=>?_
     refine E.opset (L':=[(13,.int .i64 (((j:Nat):Int)+1)),(24,.int .i64 (((j:Nat):Int)+1)),(4,.int .u32 (((r:Nat):Int)/10)),(23,.int .u32 (((r:Nat):Int)/10)),(22,.int .u32 ((r:Nat):Int)),(3,.slice la10 ln11 lc12),(21,.slice la10 ln11 lc12),(20,.slice (some ⟨gl8,0,none⟩) 1 1),(19,.int .u8 (48+(((r:Nat):Int)%10))),(18,.int .u32 (48+(((r:Nat):Int)%10))),(17,.int .u32 (((r:Nat):Int)%10)),(16,.int .u32 ((r:Nat):Int)),(15,.slice lb lm lk),(14,.bool true),(0,.slice ad6 n6 c6),(2,.slice none 0 0)]) hF (r_move (hF.at 0 rfl)) rfl rfl rfl rfl fun a hF=>?_
     refine E.nil0 ?_
     refine E.norm ?_
     exact⟨9-(j+1),by omega,⟨(j+1),(r/10),la10,ln11,lc12,(es++[r%10]),hj9,(digits_in hj9 hq2),(digits_lt hj9 hr2),(okb_append hok2 (okb_one (Nat.mod_lt _ (by decide)))),(by rw[List.length_append,List.length_singleton];omega),(by omega),hdm,(by rw[show((j+1:Nat):Int)=((j:Nat):Int)+1 from by omega,show((r/10:Nat):Int)=((r:Nat):Int)/10 from by omega];exact Fr.sub (L':=[(13,.int .i64 (((j:Nat):Int)+1)),(4,.int .u32 (((r:Nat):Int)/10)),(0,.slice ad6 n6 c6),(3,.slice la10 ln11 lc12),(2,.slice none 0 0)]) hF (by intro p hp;simp only [List.mem_cons,List.not_mem_nil,or_false] at hp ⊢;rcases hp with rfl|rfl|rfl|rfl|rfl <;> simp)),bel,hh5,(by rw[asc_snoc];exact ha14),rfl⟩⟩
    ·refine wp_seq ?_
     refine E.seq ?_
     refine E.opv hF (r_bin (hF.at 0 rfl) ev_c eg_scalar (bi_int (ic_lss (c:=false) (dec_ff (by omega))) (by simp))) rfl rfl rfl rfl fun a hF=>?_
     refine E.nil ?_
     refine wp_seq ?_
     refine wp_cond_false (hF.at 0 rfl) ?_
     refine wp_exit ?_
     refine E.past ?_
     refine E.past ?_
     refine E.out (id:=2) ?_
     refine E.blk ?_
     refine E.norm ?_
     exact⟨X/1000000000,by omega,⟨ad6,n6,c6,(X/1000000000),lb,lm,lk,es,(digits_out (by rw[show j=9 by omega] at hq2;exact hq2) (by rw[show j=9 by omega] at hr2;exact hr2)),hok2,(by omega),Fr.sub (L':=[(3,.slice lb lm lk),(2,.slice none 0 0),(0,.slice ad6 n6 c6)]) hF (by intro p hp;simp only [List.mem_cons,List.not_mem_nil,or_false] at hp ⊢;rcases hp with rfl|rfl|rfl <;> simp),bel,hh5,hb,rfl⟩⟩
  ·refine wp_seq ?_
   refine wp_seq ?_
   refine E.seq ?_
   refine E.opv hF (r_move (hF.at 2 rfl)) rfl rfl rfl rfl fun a hF=>?_
   refine E.call hF (r_call Tryz.func67 en67.1 en67.2 (map1 (hF.at 0 rfl))) (bits_any _ X _ (Dg.nt hx)) rfl rfl rfl rfl ?_
   rintro e w2 ⟨rfl,hw⟩
   have bb:Below w1.heap.size w1 w2:=by rw[hw];exact Below.refl _ _
   clear hw
   refine⟨_,rfl,?_⟩
   intro a hF
   replace ha:=ha.below bb
   replace hx:=hx.below bb
   replace bel:=below_to bel bb
   clear bb
   refine E.opv hF (r_bin (hF.at 0 rfl) ev_c eg_scalar (bi_int (ic_gtr (c:=false) (dec_ff (bits_no hX))) (by simp))) rfl rfl rfl rfl fun a hF=>?_
   refine E.nil ?_
   refine wp_cond_false (hF.at 0 rfl) ?_
   refine wp_exit ?_
   refine E.past ?_
   refine E.past ?_
   refine E.out (id:=0) ?_
   refine E.norm ?_
   refine wp_seq ?_
   refine wp_block ?_
   refine E.loop (fun mq a wv=>∃(lb:Option Addr) (lm:Nat) (lk:Nat) (es:List Nat),vl 10 es=N∧okb 10 es∧es.length≤M+9∧Fr 43 a [(3,.slice lb lm lk),(2,.slice none 0 0)]∧Below w.heap.size w wv∧AccK wv .u8 5 w.heap.size (.slice lb lm lk) (asc es)∧mq=es.length) (ds.length) ?_ ?_
   ·exact⟨la,ln,lc,ds,(by rw[show X=0 by omega,Nat.mul_zero,Nat.add_zero] at hq;exact hq),hok,hln,Fr.sub (L':=[(3,.slice la ln lc),(2,.slice none 0 0)]) hF (by intro p hp;simp only [List.mem_cons,List.not_mem_nil,or_false] at hp ⊢;rcases hp with rfl|rfl <;> simp),bel,ha,rfl⟩
   ·rintro mq a w3 ⟨lb,lm,lk,es,hq3,hok3,hl3,hF,bel,hc,hm⟩
    have hlm:=hc.len
    rw[asc_len] at hlm
    have hcap:=hc.cap
    have hll:=List.length_take (l:=es) (i:=es.length-1)
    refine wp_seq ?_
    refine wp_seq ?_
    refine E.seq ?_
    refine E.opv hF (r_move (hF.at 0 rfl)) rfl rfl rfl rfl fun a hF=>?_
    refine E.opv hF (r_builtin (map1 (hF.at 0 rfl)) bl_u8s) rfl rfl rfl rfl fun a hF=>?_
    by_cases hc4:0<((lm:Nat):Int)
    ·refine E.opv hF (r_bin (hF.at 0 rfl) ev_c eg_scalar (bi_int (ic_gtr (c:=true) (dec_tt hc4)) (by simp))) rfl rfl rfl rfl fun a hF=>?_
     refine E.opv hF (r_move (hF.at 0 rfl)) rfl rfl rfl rfl fun a hF=>?_
     refine E.opvg hF (r_move (hF.at 4 rfl)) (wanted_by rfl rfl (hF.at 0 rfl) rfl) rfl rfl rfl fun a hF=>?_
     refine E.opvg hF (r_move (hF.at 5 rfl)) (wanted_by rfl rfl (hF.at 1 rfl) rfl) rfl rfl rfl fun a hF=>?_
     refine E.opvg hF (r_builtin (map1 (hF.at 0 rfl)) bl_u8s) (wanted_by rfl rfl (hF.at 2 rfl) rfl) rfl rfl rfl fun a hF=>?_
     refine E.opvg hF (r_bin (hF.at 0 rfl) ev_c eg_scalar (ia_sub (by omega) (by omega))) (wanted_by rfl rfl (hF.at 3 rfl) rfl) rfl rfl rfl fun a hF=>?_
     obtain⟨gr,crs,hag,hbl,hcv,_⟩:=hc.row (i:=es.length-1) (by rw[asc_len];omega)
     rw[lg_asc (by omega)] at hcv
     refine E.opvg hF (r_index (hF.at 3 rfl) (hF.at 0 rfl) (by rw[hag];exact ix8 (by omega) (by omega))) (wanted_by rfl rfl (hF.at 4 rfl) rfl) rfl rfl rfl fun a hF=>?_
     refine E.opvg hF (r_load (hF.at 0 rfl) (ldb_u8 hbl (by rw[show((((lm:Nat):Int))-1).toNat =es.length-1 from by omega];exact hcv))) (wanted_by rfl rfl (hF.at 5 rfl) rfl) rfl rfl rfl fun a hF=>?_
     by_cases hc5:((48+lg es (es.length-1):Nat):Int)=48
     ·refine E.opvg hF (r_bin (hF.at 0 rfl) ev_c eg_scalar (bi_int (ic_eql (c:=true) (dec_tt hc5)) (by simp))) (wanted_by rfl rfl (hF.at 6 rfl) rfl) rfl rfl rfl fun a hF=>?_
      refine E.opv hF (r_pick_t (hF.at 7 rfl) (hF.at 0 rfl)) rfl rfl rfl rfl fun a hF=>?_
      refine E.nil ?_
      refine wp_cond_true (hF.at 0 rfl) ?_
      refine wp_skip ?_
      refine E.norm ?_
      refine wp_block ?_
      refine E.seq ?_
      refine E.opv hF (r_move (hF.at 12 rfl)) rfl rfl rfl rfl fun a hF=>?_
      refine E.opv hF (r_move (hF.at 13 rfl)) rfl rfl rfl rfl fun a hF=>?_
      refine E.opv hF (r_builtin (map1 (hF.at 0 rfl)) bl_u8s) rfl rfl rfl rfl fun a hF=>?_
      refine E.opv hF (r_bin (hF.at 0 rfl) ev_c eg_scalar (ia_sub (by omega) (by omega))) rfl rfl rfl rfl fun a hF=>?_
      have ha6:=(hc).take (lm-1) (by rw[asc_len];omega) (by rw[asc_len];omega)
      refine E.opv hF (r_slice (hF.at 3 rfl) (hF.at 0 rfl) (sl8 (m:=lm-1) (by omega) (by omega))) rfl rfl rfl rfl fun a hF=>?_
      refine E.opset (L':=[(3,.slice lb (lm-1) lk),(41,.slice lb (lm-1) lk),(40,.int .i64 (((lm:Nat):Int)-1)),(39,.int .i64 ((lm:Nat):Int)),(38,.slice lb lm lk),(37,.slice lb lm lk),(36,.bool true),(35,.bool true),(34,.int .u8 ((48+lg es (es.length-1):Nat):Int)),(33,.pointer (some ⟨gr,(((lm:Nat):Int)-1).toNat,none⟩)),(32,.int .i64 (((lm:Nat):Int)-1)),(31,.int .i64 ((lm:Nat):Int)),(30,.slice lb lm lk),(29,.slice lb lm lk),(28,.bool true),(27,.bool true),(26,.int .i64 ((lm:Nat):Int)),(25,.slice lb lm lk),(2,.slice none 0 0)]) hF (r_assign (hF.at 0 rfl)) rfl rfl rfl rfl fun a hF=>?_
      refine E.nil0 ?_
      refine E.blk ?_
      refine E.norm ?_
      exact⟨(es.take (es.length-1)).length,by omega,⟨lb,(lm-1),lk,(es.take (es.length-1)),((vl_cut (by omega) (by omega)).trans hq3),(okb_take hok3 _),(by rw[List.length_take];omega),Fr.sub (L':=[(3,.slice lb (lm-1) lk),(2,.slice none 0 0)]) hF (by intro p hp;simp only [List.mem_cons,List.not_mem_nil,or_false] at hp ⊢;rcases hp with rfl|rfl <;> simp),bel,(by rw[asc_take,←hlm];exact ha6),rfl⟩⟩
     ·refine E.opvg hF (r_bin (hF.at 0 rfl) ev_c eg_scalar (bi_int (ic_eql (c:=false) (dec_ff hc5)) (by simp))) (wanted_by rfl rfl (hF.at 6 rfl) rfl) rfl rfl rfl fun a hF=>?_
      refine E.opv hF (r_pick_t (hF.at 7 rfl) (hF.at 0 rfl)) rfl rfl rfl rfl fun a hF=>?_
      refine E.nil ?_
      refine wp_cond_false (hF.at 0 rfl) ?_
      refine wp_exit ?_
      refine E.past ?_
      refine E.past ?_
      refine E.out (id:=4) ?_
      refine E.norm ?_
      refine wp_seq ?_
      refine E.seq ?_
      refine E.opv hF (r_move (hF.at 12 rfl)) rfl rfl rfl rfl fun a hF=>?_
      refine E.opset (L':=[(2,.slice lb lm lk),(42,.slice lb lm lk),(36,.bool false),(35,.bool false),(34,.int .u8 ((48+lg es (es.length-1):Nat):Int)),(33,.pointer (some ⟨gr,(((lm:Nat):Int)-1).toNat,none⟩)),(32,.int .i64 (((lm:Nat):Int)-1)),(31,.int .i64 ((lm:Nat):Int)),(30,.slice lb lm lk),(29,.slice lb lm lk),(28,.bool true),(27,.bool true),(26,.int .i64 ((lm:Nat):Int)),(25,.slice lb lm lk),(3,.slice lb lm lk)]) hF (r_assign (hF.at 0 rfl)) rfl rfl rfl rfl fun a hF=>?_
      refine E.nil ?_
      refine wp_ret ?_
      refine bodyPost_ret (res_tmp Tryz.results199 (hF.at 0 rfl)) hF.dfr ?_
      have hn:norm es:=by
       intro hp
       omega
      have e:dg 10 N=es:=by rw[←hq3];exact dg_unique (by decide) hok3 hn
      exact⟨_,rfl,by rw[e];exact hc,bel⟩
    ·refine E.opv hF (r_bin (hF.at 0 rfl) ev_c eg_scalar (bi_int (ic_gtr (c:=false) (dec_ff hc4)) (by simp))) rfl rfl rfl rfl fun a hF=>?_
     refine E.opv hF (r_move (hF.at 0 rfl)) rfl rfl rfl rfl fun a hF=>?_
     refine E.unwanted hF (wanted_by rfl rfl (hF.at 0 rfl) rfl) rfl rfl rfl fun a hF=>?_
     refine E.unwanted hF (wanted_by rfl rfl (hF.at 1 rfl) rfl) rfl rfl rfl fun a hF=>?_
     refine E.unwanted hF (wanted_by rfl rfl (hF.at 2 rfl) rfl) rfl rfl rfl fun a hF=>?_
     refine E.unwanted hF (wanted_by rfl rfl (hF.at 3 rfl) rfl) rfl rfl rfl fun a hF=>?_
     refine E.unwanted hF (wanted_by rfl rfl (hF.at 4 rfl) rfl) rfl rfl rfl fun a hF=>?_
     refine E.unwanted hF (wanted_by rfl rfl (hF.at 5 rfl) rfl) rfl rfl rfl fun a hF=>?_
     refine E.unwanted hF (wanted_by rfl rfl (hF.at 6 rfl) rfl) rfl rfl rfl fun a hF=>?_
     refine E.opv hF (r_pick_f (hF.at 7 rfl) ev_c) rfl rfl rfl rfl fun a hF=>?_
     refine E.nil ?_
     refine wp_cond_false (hF.at 0 rfl) ?_
     refine wp_exit ?_
     refine E.past ?_
     refine E.past ?_
     refine E.out (id:=4) ?_
     refine E.norm ?_
     refine wp_seq ?_
     refine E.seq ?_
     refine E.opv hF (r_move (hF.at 12 rfl)) rfl rfl rfl rfl fun a hF=>?_
     refine E.opset (L':=[(2,.slice lb lm lk),(42,.slice lb lm lk),(36,.bool false),(35,undef),(34,undef),(33,undef),(32,undef),(31,undef),(30,undef),(29,undef),(28,.bool false),(27,.bool false),(26,.int .i64 ((lm:Nat):Int)),(25,.slice lb lm lk),(3,.slice lb lm lk)]) hF (r_assign (hF.at 0 rfl)) rfl rfl rfl rfl fun a hF=>?_
     refine E.nil ?_
     refine wp_ret ?_
     refine bodyPost_ret (res_tmp Tryz.results199 (hF.at 0 rfl)) hF.dfr ?_
     have hn:norm es:=by
      intro hp
      omega
     have e:dg 10 N=es:=by rw[←hq3];exact dg_unique (by decide) hok3 hn
     exact⟨_,rfl,by rw[e];exact hc,bel⟩
end
section
theorem bodyPost_nrm {P:Program} {fn:Func} {R:Ending→World→Prop} {a:Act} {w:World} {v:Value} (hr:(results fn a.tmps).run P w= .ok v w) (hd:a.defers=[]) (hR:R (.returned v) w):bodyPost P fn R .normal a w:=⟨hd,v,hr,hR⟩
theorem res_nil {P:Program} {fn:Func} {tmps:Array Value} {w:World} (h:fn.results=#[]):(results fn tmps).run P w= .ok (.tuple #[]) w:=by
 simp only [results,h,List.mapM_toArray,List.mapM_nil,Sem.run_bind,Sem.run_pure,Result.andThen_ok,Sem.run_map]
 rfl
theorem AccK.cells {w:World} {k:IntKind} {T base:Nat} {g n cap:Nat} {xs:List Nat} (h:AccK w k T base (.slice (some ⟨g,0,none⟩) n cap) xs):∃cs,Blk w g cs∧∀i,i<xs.length→cs[i]?=some (.int k (lg xs i:Nat)):=by
 rcases h with⟨h1,rfl⟩|⟨g',cap',cs,h1,h2,h3,h4,h5,h6,h7,h8⟩
 ·cases h1
 ·injection h1 with e1 e2 e3
  injection e1 with e1
  injection e1 with e1
  subst e1
  refine⟨cs,⟨T,h3⟩,fun i hi=>?_⟩
  have:=cl_get (k:=k) hi
  rw[←h7,List.getElem?_take,if_pos hi] at this
  exact this
def RevI (xs ys:List Nat) (i:Nat):Prop:=ys.length=xs.length∧∀k,k<xs.length→lg ys k=if k<i∨xs.length≤k+i then lg xs (xs.length-1-k) else lg xs k
theorem RevI.start (xs:List Nat):RevI xs xs 0:=⟨rfl,fun k hk=>by rw[if_neg (by omega)]⟩
theorem RevI.step {xs ys:List Nat} {i:Nat} (h:RevI xs ys i) (hi:i<xs.length-1-i):RevI xs ((ys.set i (lg ys (xs.length-1-i))).set (xs.length-1-i) (lg ys i)) (i+1):=by
 obtain⟨h1,h2⟩:=h
 refine⟨by simpa using h1,fun k hk=>?_⟩
 by_cases e1:k=xs.length-1-i
 ·subst e1
  rw[lg_set_same _ (by simp;omega),h2 i (by omega),if_neg (by omega),if_pos (by omega)]
  congr 1;omega
 ·rw[lg_set_other _ (by omega)]
  by_cases e2:k=i
  ·subst e2
   rw[lg_set_same _ (by omega),h2 _ (by omega),if_neg (by omega),if_pos (by omega)]
  ·rw[lg_set_other _ (by omega),h2 k hk]
   by_cases e3:k<i∨xs.length≤k+i
   ·rw[if_pos e3,if_pos (by omega)]
   ·rw[if_neg e3,if_neg (by omega)]
theorem RevI.done {xs ys:List Nat} {i:Nat} (h:RevI xs ys i) (hi:¬i<xs.length-1-i):ys=xs.reverse:=by
 obtain⟨h1,h2⟩:=h
 apply ext_lg (by simpa using h1)
 intro k hk
 rw[h1] at hk
 have hr:lg xs.reverse k=lg xs (xs.length-1-k):=by
  unfold lg
  simp only [List.getD_eq_getElem?_getD]
  rw[List.getElem?_reverse hk]
 rw[h2 k hk,hr]
 split
 ·rfl
 ·congr 1;omega
section
variable {P:Program} {ops:Array Oper} {Q:Exit→Act→World→Prop}
def RS (P:Program) (ops:Array Oper) (Q:Exit→Act→World→Prop) (I:(Nat→Bool)→Act→World→Prop):Nat→List Oper→Prop
 |_,[]=>True
 |k,o::rest=>(∀d a w,I d a w→d k=false→(∀j,hasEdge ops k j=true→d j=true)→∀K:Act→World→Prop,(∀a' w',I (up d k) a' w'→K a' w')→
  if Region.wanted o (yielded ops a.tmps)=true then Oper.wp P o a w K Q else K (a.put o.dst undef) w)∧RS P ops Q I (k+1) rest
theorem RS.at {I:(Nat→Bool)→Act→World→Prop}:∀(l:List Oper) (k:Nat),RS P ops Q I k l→∀i o,l[i]?=some o→∀d a w,I d a w→d (k+i)=false→(∀j,hasEdge ops (k+i) j=true→d j=true)→∀K:Act→World→Prop,(∀a' w',I (up d (k+i)) a' w'→K a' w')→
 if Region.wanted o (yielded ops a.tmps)=true then Oper.wp P o a w K Q else K (a.put o.dst undef) w
 |[],_,_,i,o,h=>by simp at h
 |x::l,k,hs,0,o,h=>by
  simp at h;subst h;exact hs.1
 |x::l,k,hs,i+1,o,h=>by
  have:=RS.at l (k+1) hs.2 i o (by simpa using h)
  rw[show k+1+i=k+(i+1) by omega] at this
  exact this
theorem E.inv {id:Nat} {l:List Oper} {a:Act} {w:World} (hm:P.follows .mixedOrders =true) (hback:waitsBack l.toArray=true) (I:(Nat→Bool)→Act→World→Prop) (h0:I (fun _=>false) a w.drew) (steps:RS P l.toArray Q I 0 l)
 (hend:∀d a w,I d a w→(∀i,i<l.length→d i=true)→Q .normal a w):(Code.region id l.toArray true).wp P Q a w:=by
 refine wp_region_inv hm hback I h0 ?_ (fun d a w hI h=>hend d a w hI (by simpa using h))
 intro d a w hI i o ho hd he K hK
 have h1:l[i]?=some o:=by simpa using ho
 have:=RS.at l 0 steps i o h1 d a w hI (by rw[Nat.zero_add];exact hd) (by
  intro j hj
  rw[Nat.zero_add] at hj
  obtain⟨e,he1,he2,he3⟩:=(hasEdge_of ho).1 hj
  rw[←he3];exact he e he1 he2) K (by rw[Nat.zero_add];exact hK)
 exact this
end
structure RvI (ops:Array Oper) (nt:Nat) (L:List (Nat×Value)) (rval:Nat→Value) (St:List Nat→World→Prop) (ys z1 z2:List Nat) (d:Nat→Bool) (a:Act) (w:World):Prop where
 fr:Fr nt a L
 shut:Shut ops d
 val:∀k,k<16→k≠13→k≠15→d k=true→a.tmps.getD (if k≤12 then k+14 else 27) undef=rval k
 st:St (if d 15=true then z2 else if d 13=true then z1 else ys) w
section
variable {ops:Array Oper} {nt:Nat} {L:List (Nat×Value)} {rval:Nat→Value} {St:List Nat→World→Prop} {ys z1 z2:List Nat} {d:Nat→Bool} {a:Act} {w w':World}
theorem RvI.put (h:RvI ops nt L rval St ys z1 z2 d a w) {k s:Nat} (hk:k<16) (h13:k≠13) (h15:k≠15) (hs:(if k≤12 then k+14 else 27)=s) (hlt:s<nt) (hf:freshIn s L=true) (he:∀j,hasEdge ops k j=true→d j=true):
 RvI ops nt L rval St ys z1 z2 (up d k) (a.put (some s) (rval k)) w:=by
 refine⟨h.fr.over hf,h.shut.one he,fun m hm m13 m15 hd=>?_,?_⟩
 ·by_cases e:m=k
  ·subst e;rw[hs];exact getD_put_same (by rw[h.fr.size];exact hlt)
  ·have hne:s≠(if m≤12 then m+14 else 27):=by
    rw[←hs];split <;> split <;> omega
   rw[getD_put_ne hne]
   exact h.val m hm m13 m15 (up_ne hd e)
 ·have e1:up d k 15=d 15:=by unfold up;rw[if_neg (by omega)]
  have e2:up d k 13=d 13:=by unfold up;rw[if_neg (by omega)]
  rw[e1,e2];exact h.st
theorem RvI.run {P:Program} {Q:Exit→Act→World→Prop} {o:Oper} (h:RvI ops nt L rval St ys z1 z2 d a w) {k s:Nat} {K:Act→World→Prop} (hK:∀a' w',RvI ops nt L rval St ys z1 z2 (up d k) a' w'→K a' w') (he:∀j,hasEdge ops k j=true→d j=true) (hdst:o.dst=some s) (hk:k<16) (h13:k≠13) (h15:k≠15) (hs:(if k≤12 then k+14 else 27)=s) (hlt:s<nt) (hf:freshIn s L=true)
 (hr:(execOp a.eval o).run P w= .ok (.value (rval k)) w):Oper.wp P o a w K Q:=by
 unfold Oper.wp
 rw[hr]
 show K (a.put o.dst (rval k)) w
 rw[hdst]
 exact hK _ _ (h.put hk h13 h15 hs hlt hf he)
theorem RvI.st13 (h:RvI ops nt L rval St ys z1 z2 d a w) (hd:d 13=false) (h15:hasEdge ops 15 13=true):St ys w:=by
 have h2:=h.st
 have:d 15=false:=by
  cases e:d 15 with
  |false=>rfl
  |true=>rw[h.shut 15 13 h15 e] at hd;cases hd
 rw[hd,this] at h2
 simpa using h2
theorem RvI.free (h:RvI ops nt L rval St ys z1 z2 d a w) {k:Nat} (hd:d k=false) (hk:hasEdge ops 13 k=true) (h15:hasEdge ops 15 13=true):St ys w:=by
 refine h.st13 ?_ h15
 cases e:d 13 with
 |false=>rfl
 |true=>rw[h.shut 13 k hk e] at hd;cases hd
end
theorem E.rev {P:Program} {Q:Exit→Act→World→Prop} {id:Nat} {l:List Oper} {a:Act} {w:World} (hm:P.follows .mixedOrders =true) (hback:waitsBack l.toArray=true) (nt:Nat) (L:List (Nat×Value)) (rval:Nat→Value) (St:List Nat→World→Prop) (ys z1 z2:List Nat)
 (h0:RvI l.toArray nt L rval St ys z1 z2 (fun _=>false) a w.drew) (steps:RS P l.toArray Q (RvI l.toArray nt L rval St ys z1 z2) 0 l)
 (hend:∀d a w,RvI l.toArray nt L rval St ys z1 z2 d a w→(∀i,i<l.length→d i=true)→Q .normal a w):(Code.region id l.toArray true).wp P Q a w:=E.inv hm hback _ h0 steps hend
theorem drew_st {w0 w:World} {base T:Nat} {v:Value} {xs:List Nat} (h:AccK w .u8 T base v xs) (hb:Below base w0 w) (hg:Grew .u8 w0 w):AccK w.drew .u8 T base v xs∧Below base w0 w.drew∧Grew .u8 w0 w.drew:=
 ⟨h,⟨hb.os,hb.tape,hb.output,hb.size,hb.block⟩,⟨hg.size,hg.block⟩⟩
def RevPost (w:World) (base:Nat) (v:Value) (xs:List Nat):Ending→World→Prop:=fun e w'=>e= .returned (.tuple #[])∧AccK w' .u8 5 base v xs.reverse∧Below base w w'∧Grew .u8 w w'
theorem en200:(Tryz.f200.name == "runtime.NumGoroutine")=false∧Tryz.f200.body.isNone=false:=⟨by decide+kernel,by kernel_rfl⟩
theorem reverse_any (gr c base:Nat) (xs:List Nat) (w:World) (h1:AccK w .u8 5 base (.slice (some ⟨gr,0,none⟩) xs.length c) xs) (hbase:base≤w.heap.size) (hx:xs.length≤1099511627776) (hx0:0<xs.length):
 Calls Tryz.prog 200 #[.slice (some ⟨gr,0,none⟩) xs.length c] w (RevPost w base (.slice (some ⟨gr,0,none⟩) xs.length c) xs):=by
 have ha:=h1
 have hgr:=Grew.refl .u8 w
 skip
 have bel:Below base w w:=Below.refl _ _
 refine E.enter (nt:=28) (L:=[(0,.slice (some ⟨gr,0,none⟩) xs.length c)]) Tryz.func200 rfl rfl rfl (args_cons (i:=0) rfl args_nil) ?_
 intro a hF
 refine wp_seq ?_
 refine E.seq ?_
 refine E.opv hF (r_move (hF.at 0 rfl)) rfl rfl rfl rfl fun a hF=>?_
 refine E.opv hF (r_builtin (map1 (hF.at 0 rfl)) bl_u8s) rfl rfl rfl rfl fun a hF=>?_
 refine E.opv hF (r_bin (hF.at 0 rfl) ev_c eg_scalar (ia_sub (by omega) (by omega))) rfl rfl rfl rfl fun a hF=>?_
 refine E.opv hF (r_assign ev_c) rfl rfl rfl rfl fun a hF=>?_
 refine E.opv hF (r_assign (hF.at 1 rfl)) rfl rfl rfl rfl fun a hF=>?_
 refine E.nil ?_
 refine wp_block ?_
 refine E.loop (fun mq a wv=>∃(i:Nat) (ys:List Nat),RevI xs ys i∧Fr 28 a [(3,.int .i64 (((xs.length:Nat):Int)-1-((i:Nat):Int))),(2,.int .i64 ((i:Nat):Int)),(0,.slice (some ⟨gr,0,none⟩) xs.length c)]∧Below base w wv∧AccK wv .u8 5 base (.slice (some ⟨gr,0,none⟩) xs.length c) ys∧Grew .u8 w wv∧mq=xs.length-i) (xs.length-0) ?_ ?_
 ·exact⟨0,xs,(RevI.start xs),Fr.sub (L':=[(3,.int .i64 (((xs.length:Nat):Int)-1-((0:Nat):Int))),(2,.int .i64 ((0:Nat):Int)),(0,.slice (some ⟨gr,0,none⟩) xs.length c)]) hF (by intro p hp;simp only [List.mem_cons,List.not_mem_nil,or_false] at hp ⊢;rcases hp with rfl|rfl|rfl <;> simp),bel,ha,hgr,rfl⟩
 ·rintro mq a w1 ⟨i,ys,hrv,hF,bel,ha,hgr,hm⟩
  by_cases hi:i<xs.length-1-i
  ·refine wp_seq ?_
   refine wp_seq ?_
   refine E.seq ?_
   refine E.opv hF (r_move (hF.at 1 rfl)) rfl rfl rfl rfl fun a hF=>?_
   refine E.opv hF (r_move (hF.at 1 rfl)) rfl rfl rfl rfl fun a hF=>?_
   refine E.opv hF (r_bin (hF.at 1 rfl) (hF.at 0 rfl) eg_scalar (bi_int (ic_lss (c:=true) (dec_tt (by omega))) (by simp))) rfl rfl rfl rfl fun a hF=>?_
   refine E.nil ?_
   refine wp_cond_true (hF.at 0 rfl) ?_
   refine wp_skip ?_
   refine E.norm ?_
   refine wp_seq ?_
   refine wp_block ?_
   have hF3:Fr 28 a [(0,.slice (some ⟨gr,0,none⟩) xs.length c),(2,.int .i64 ((i:Nat):Int)),(3,.int .i64 (((xs.length:Nat):Int)-1-((i:Nat):Int)))]:=Fr.sub hF (by intro p hp;simp only [List.mem_cons,List.not_mem_nil,or_false] at hp ⊢;rcases hp with rfl|rfl|rfl <;> simp)
   have ej:(((xs.length:Nat):Int)-1-((i:Nat):Int)).toNat =xs.length-1-i:=by omega
   have ei:(((i:Nat):Int)).toNat =i:=by omega
   refine E.rev mixed (by decide+kernel) 28 [(0,.slice (some ⟨gr,0,none⟩) xs.length c),(2,.int .i64 ((i:Nat):Int)),(3,.int .i64 (((xs.length:Nat):Int)-1-((i:Nat):Int)))] (fun k=>if k=0 then(.slice (some ⟨gr,0,none⟩) xs.length c) else if k=1 then(.int .i64 ((i:Nat):Int)) else if k=2 then(.slice (some ⟨gr,0,none⟩) xs.length c) else if k=3 then(.int .i64 (((xs.length:Nat):Int)-1-((i:Nat):Int))) else if k=4 then(.slice (some ⟨gr,0,none⟩) xs.length c) else if k=5 then(.int .i64 (((xs.length:Nat):Int)-1-((i:Nat):Int))) else if k=6 then(.pointer (some ⟨gr,(((xs.length:Nat):Int)-1-((i:Nat):Int)).toNat,none⟩)) else if k=7 then(.int .u8 ((lg ys (xs.length-1-i):Nat):Int)) else if k=8 then(.slice (some ⟨gr,0,none⟩) xs.length c) else if k=9 then(.int .i64 ((i:Nat):Int)) else if k=10 then(.pointer (some ⟨gr,(((i:Nat):Int)).toNat,none⟩)) else if k=11 then(.int .u8 ((lg ys i:Nat):Int)) else if k=12 then(.pointer (some ⟨gr,(((i:Nat):Int)).toNat,none⟩)) else if k=14 then(.pointer (some ⟨gr,(((xs.length:Nat):Int)-1-((i:Nat):Int)).toNat,none⟩)) else undef) (fun zs w'=>AccK w' .u8 5 base (.slice (some ⟨gr,0,none⟩) xs.length c) zs∧Below base w w'∧Grew .u8 w w') ys (ys.set i (lg ys (xs.length-1-i))) ((ys.set i (lg ys (xs.length-1-i))).set (xs.length-1-i) (lg ys i)) ⟨hF3,fun m j _ h=>(by cases h),fun k _ _ _ h=>(by cases h),drew_st ha bel hgr⟩ ⟨?_,?_,?_,?_,?_,?_,?_,?_,?_,?_,?_,?_,?_,?_,?_,?_,trivial⟩ ?_
   ·intro d a w' hI hd he K hK
    rw[if_pos (wanted_free rfl)]
    exact hI.run (k:=0) hK he rfl (by decide) (by decide) (by decide) rfl (by decide) rfl (r_move (hI.fr.at 0 rfl))
   ·intro d a w' hI hd he K hK
    rw[if_pos (wanted_free rfl)]
    exact hI.run (k:=1) hK he rfl (by decide) (by decide) (by decide) rfl (by decide) rfl (r_move (hI.fr.at 1 rfl))
   ·intro d a w' hI hd he K hK
    rw[if_pos (wanted_free rfl)]
    exact hI.run (k:=2) hK he rfl (by decide) (by decide) (by decide) rfl (by decide) rfl (r_move (hI.fr.at 0 rfl))
   ·intro d a w' hI hd he K hK
    rw[if_pos (wanted_free rfl)]
    exact hI.run (k:=3) hK he rfl (by decide) (by decide) (by decide) rfl (by decide) rfl (r_move (hI.fr.at 2 rfl))
   ·intro d a w' hI hd he K hK
    rw[if_pos (wanted_free rfl)]
    exact hI.run (k:=4) hK he rfl (by decide) (by decide) (by decide) rfl (by decide) rfl (r_move (hI.fr.at 0 rfl))
   ·intro d a w' hI hd he K hK
    rw[if_pos (wanted_free rfl)]
    exact hI.run (k:=5) hK he rfl (by decide) (by decide) (by decide) rfl (by decide) rfl (r_move (hI.fr.at 2 rfl))
   ·intro d a w' hI hd he K hK
    rw[if_pos (wanted_free rfl)]
    exact hI.run (k:=6) hK he rfl (by decide) (by decide) (by decide) rfl (by decide) rfl (r_index (hI.val 4 (by decide) (by decide) (by decide) (he 4 (by decide+kernel))) (hI.val 5 (by decide) (by decide) (by decide) (he 5 (by decide+kernel))) (ix8 (by omega) (by omega)))
   ·intro d a w' hI hd he K hK
    rw[if_pos (wanted_free rfl)]
    obtain⟨crs,hbl,hcell⟩:=(hI.free (k:=7) hd (by decide+kernel) (by decide+kernel)).1.cells
    exact hI.run (k:=7) hK he rfl (by decide) (by decide) (by decide) rfl (by decide) rfl (r_load (hI.val 6 (by decide) (by decide) (by decide) (he 6 (by decide+kernel))) (ldb_u8 (v:= .int .u8 ((lg ys (xs.length-1-i):Nat):Int)) hbl (by rw[ej];exact hcell _ (by rw[hrv.1];omega))))
   ·intro d a w' hI hd he K hK
    rw[if_pos (wanted_free rfl)]
    exact hI.run (k:=8) hK he rfl (by decide) (by decide) (by decide) rfl (by decide) rfl (r_move (hI.fr.at 0 rfl))
   ·intro d a w' hI hd he K hK
    rw[if_pos (wanted_free rfl)]
    exact hI.run (k:=9) hK he rfl (by decide) (by decide) (by decide) rfl (by decide) rfl (r_move (hI.fr.at 1 rfl))
   ·intro d a w' hI hd he K hK
    rw[if_pos (wanted_free rfl)]
    exact hI.run (k:=10) hK he rfl (by decide) (by decide) (by decide) rfl (by decide) rfl (r_index (hI.val 8 (by decide) (by decide) (by decide) (he 8 (by decide+kernel))) (hI.val 9 (by decide) (by decide) (by decide) (he 9 (by decide+kernel))) (ix8 (by omega) (by omega)))
   ·intro d a w' hI hd he K hK
    rw[if_pos (wanted_free rfl)]
    obtain⟨crs,hbl,hcell⟩:=(hI.free (k:=11) hd (by decide+kernel) (by decide+kernel)).1.cells
    exact hI.run (k:=11) hK he rfl (by decide) (by decide) (by decide) rfl (by decide) rfl (r_load (hI.val 10 (by decide) (by decide) (by decide) (he 10 (by decide+kernel))) (ldb_u8 (v:= .int .u8 ((lg ys i:Nat):Int)) hbl (by rw[ei];exact hcell _ (by rw[hrv.1];omega))))
   ·intro d a w' hI hd he K hK
    rw[if_pos (wanted_free rfl)]
    exact hI.run (k:=12) hK he rfl (by decide) (by decide) (by decide) rfl (by decide) rfl (r_index (hI.val 0 (by decide) (by decide) (by decide) (he 0 (by decide+kernel))) (hI.val 1 (by decide) (by decide) (by decide) (he 1 (by decide+kernel))) (ix8 (by omega) (by omega)))
   ·intro d a w' hI hd he K hK
    rw[if_pos (wanted_free rfl)]
    have hs:=hI.st13 hd (by decide+kernel)
    obtain⟨w2,hr,ha2,bb,gw⟩:=hs.1.store (P:=Tryz.prog) sz_u8 (i:=(((i:Nat):Int)).toNat) (lg ys (xs.length-1-i)) (by rw[hrv.1];omega)
    rw[ei] at ha2
    have hA:a.tmps.getD 26 undef= .pointer (some ⟨gr,(((i:Nat):Int)).toNat,none⟩):=(hI.val 12 (by decide) (by decide) (by decide) (he 12 (by decide+kernel)))
    have hV:a.tmps.getD 21 undef= .int .u8 ((lg ys (xs.length-1-i):Nat):Int):=(hI.val 7 (by decide) (by decide) (by decide) (he 7 (by decide+kernel)))
    unfold Oper.wp
    rw[r_store (eval_tmp hA) (eval_tmp hV) hr]
    refine hK _ _ ⟨hI.fr,hI.shut.one he,fun m hm m13 m15 hdm=>hI.val m hm m13 m15 (up_ne hdm m13),?_⟩
    have e15:up d 13 15=false:=by
     show d 15=false
     cases e:d 15 with
     |false=>rfl
     |true=>rw[hI.shut 15 13 (by decide+kernel) e] at hd;cases hd
    rw[e15,up_same]
    exact⟨ha2,hs.2.1.trans bb,hs.2.2.trans gw⟩
   ·intro d a w' hI hd he K hK
    rw[if_pos (wanted_free rfl)]
    exact hI.run (k:=14) hK he rfl (by decide) (by decide) (by decide) rfl (by decide) rfl (r_index (hI.val 2 (by decide) (by decide) (by decide) (he 2 (by decide+kernel))) (hI.val 3 (by decide) (by decide) (by decide) (he 3 (by decide+kernel))) (ix8 (by omega) (by omega)))
   ·intro d a w' hI hd he K hK
    rw[if_pos (wanted_free rfl)]
    have hs:=hI.st
    rw[hd,he 13 (by decide+kernel)] at hs
    simp only [if_true,Bool.false_eq_true,if_false] at hs
    obtain⟨w2,hr,ha2,bb,gw⟩:=hs.1.store (P:=Tryz.prog) sz_u8 (i:=(((xs.length:Nat):Int)-1-((i:Nat):Int)).toNat) (lg ys i) (by rw[List.length_set,hrv.1];omega)
    rw[ej] at ha2
    have hA:a.tmps.getD 27 undef= .pointer (some ⟨gr,(((xs.length:Nat):Int)-1-((i:Nat):Int)).toNat,none⟩):=(hI.val 14 (by decide) (by decide) (by decide) (he 14 (by decide+kernel)))
    have hV:a.tmps.getD 25 undef= .int .u8 ((lg ys i:Nat):Int):=(hI.val 11 (by decide) (by decide) (by decide) (he 11 (by decide+kernel)))
    unfold Oper.wp
    rw[r_store (eval_tmp hA) (eval_tmp hV) hr]
    refine hK _ _ ⟨hI.fr,hI.shut.one he,fun m hm m13 m15 hdm=>hI.val m hm m13 m15 (up_ne hdm m15),?_⟩
    rw[up_same]
    exact⟨ha2,hs.2.1.trans bb,hs.2.2.trans gw⟩
   clear hF3
   intro d a w' hI hall
   have hs:=hI.st
   rw[hall 15 (by decide)] at hs
   simp only [if_true] at hs
   have hF:=hI.fr
   clear hI
   replace ha:=hs.1
   replace bel:=hs.2.1
   replace hgr:=hs.2.2
   clear hs
   refine E.blk ?_
   refine E.norm ?_
   refine E.seq ?_
   refine E.opv hF (r_move (hF.at 1 rfl)) rfl rfl rfl rfl fun a hF=>?_
   refine E.opv hF (r_bin (hF.at 0 rfl) ev_c eg_scalar (ia_add (by omega) (by omega))) rfl rfl rfl rfl fun a hF=>?_
   refine E.opv hF (r_move (hF.at 4 rfl)) rfl rfl rfl rfl fun a hF=>?_
   refine E.opv hF (r_bin (hF.at 0 rfl) ev_c eg_scalar (ia_sub (by omega) (by omega))) rfl rfl rfl rfl fun a hF=>?_
   refine E.opset (L':=[(2,.int .i64 (((i:Nat):Int)+1)),(13,.int .i64 ((((xs.length:Nat):Int)-1-((i:Nat):Int))-1)),(12,.int .i64 (((xs.length:Nat):Int)-1-((i:Nat):Int))),(11,.int .i64 (((i:Nat):Int)+1)),(10,.int .i64 ((i:Nat):Int)),(0,.slice (some ⟨gr,0,none⟩) xs.length c),(3,.int .i64 (((xs.length:Nat):Int)-1-((i:Nat):Int)))]) hF (r_assign (hF.at 2 rfl)) rfl rfl rfl rfl fun a hF=>?_
   refine E.opset (L':=[(3,.int .i64 ((((xs.length:Nat):Int)-1-((i:Nat):Int))-1)),(2,.int .i64 (((i:Nat):Int)+1)),(13,.int .i64 ((((xs.length:Nat):Int)-1-((i:Nat):Int))-1)),(12,.int .i64 (((xs.length:Nat):Int)-1-((i:Nat):Int))),(11,.int .i64 (((i:Nat):Int)+1)),(10,.int .i64 ((i:Nat):Int)),(0,.slice (some ⟨gr,0,none⟩) xs.length c)]) hF (r_assign (hF.at 1 rfl)) rfl rfl rfl rfl fun a hF=>?_
   refine E.nil0 ?_
   refine E.norm ?_
   exact⟨xs.length-(i+1),by omega,⟨(i+1),((ys.set i (lg ys (xs.length-1-i))).set (xs.length-1-i) (lg ys i)),(hrv.step (by omega)),(by rw[show((i+1:Nat):Int)=((i:Nat):Int)+1 from by omega,show((xs.length:Nat):Int)-1-(((i:Nat):Int)+1)=((xs.length:Nat):Int)-1-((i:Nat):Int)-1 from by omega];exact Fr.sub (L':=[(3,.int .i64 ((((xs.length:Nat):Int)-1-((i:Nat):Int))-1)),(2,.int .i64 (((i:Nat):Int)+1)),(0,.slice (some ⟨gr,0,none⟩) xs.length c)]) hF (by intro p hp;simp only [List.mem_cons,List.not_mem_nil,or_false] at hp ⊢;rcases hp with rfl|rfl|rfl <;> simp)),bel,ha,hgr,rfl⟩⟩
  ·refine wp_seq ?_
   refine wp_seq ?_
   refine E.seq ?_
   refine E.opv hF (r_move (hF.at 1 rfl)) rfl rfl rfl rfl fun a hF=>?_
   refine E.opv hF (r_move (hF.at 1 rfl)) rfl rfl rfl rfl fun a hF=>?_
   refine E.opv hF (r_bin (hF.at 1 rfl) (hF.at 0 rfl) eg_scalar (bi_int (ic_lss (c:=false) (dec_ff (by omega))) (by simp))) rfl rfl rfl rfl fun a hF=>?_
   refine E.nil ?_
   refine wp_cond_false (hF.at 0 rfl) ?_
   refine wp_exit ?_
   refine E.past ?_
   refine E.past ?_
   refine E.out (id:=0) ?_
   refine bodyPost_nrm (res_nil Tryz.results200) hF.dfr ?_
   exact⟨rfl,by rw[←hrv.done (by omega)];exact ha,bel,hgr⟩
end
section
theorem AccK.some {w:World} {k:IntKind} {T base:Nat} {v:Value} {xs:List Nat} (h:AccK w k T base v xs) (hp:0<xs.length):∃g cap,v= .slice (some ⟨g,0,none⟩) xs.length cap:=by
 rcases h with⟨_,rfl⟩|⟨g,cap,cs,h1,_⟩
 ·simp at hp
 ·exact⟨g,cap,h1⟩
theorem reverse_acc (v:Value) (base:Nat) (xs:List Nat) (w:World) (h1:AccK w .u8 5 base v xs) (hbase:base≤w.heap.size) (hx:xs.length≤1099511627776) (hx0:0<xs.length):Calls Tryz.prog 200 #[v] w (RevPost w base v xs):=by
 obtain⟨g,cap,rfl⟩:=h1.some hx0
 exact reverse_any g cap base xs w h1 hbase hx hx0
def tx (z:Int):List Nat:=if z=0 then[48] else(if z<0 then[45] else[])++(asc (dg 10 z.natAbs)).reverse
theorem dl10_le {N M:Nat} (h:N<2^M):dl 10 N≤M:=dl_le (by decide) (Nat.lt_of_lt_of_le h (Nat.pow_le_pow_left (by decide) _))
theorem dl10_pos {N:Nat} (h:N≠0):0<dl 10 N:=dl_pos (by decide) (by omega)
theorem asc_dg (N:Nat):(asc (dg 10 N)).length =dl 10 N:=asc_len _
theorem lim_pow {N k:Nat} (h:Lim N k):N<2^(32*k):=by
 unfold Lim at h
 rwa[show B32=2^32 from rfl,←Nat.pow_mul] at h
theorem tx_zero {z:Int} (h:z=0):[48]=tx z:=by unfold tx;rw[if_pos h]
theorem tx_neg {z:Int} (h:z<0):(asc (dg 10 z.natAbs)++[45]).reverse =tx z:=by
 unfold tx;rw[if_neg (by omega),if_pos h,List.reverse_append];rfl
theorem tx_pos {z:Int} (h:z≠0) (h':¬z<0):(asc (dg 10 z.natAbs)).reverse =tx z:=by
 unfold tx;rw[if_neg h,if_neg h',List.nil_append]
theorem tx_len {z:Int} {M:Nat} (h:z.natAbs<2^M):(tx z).length ≤M+1:=by
 have:=dl10_le h
 unfold tx
 split
 ·simp
 ·rw[List.length_append,List.length_reverse,asc_dg];split <;> simp <;> omega
theorem rv_str {a b:List Nat} (h:a=b):Ending.returned (.string (bstr a))= .returned (.string (bstr b)):=by rw[h]
theorem dtext_any (v1:Value) (z:Int) (M:Nat) (w:World) (h1:Wc w v1 z) (hN:z.natAbs<2^M) (hM:M≤1000000000):
 Calls Tryz.prog 162 #[v1] w (ValPost w (.string (bstr (tx z)))):=by
 have hdl:=dl10_le hN
 have bel:Below w.heap.size w w:=Below.refl _ _
 refine E.enter (nt:=19) (L:=[(0,v1)]) Tryz.func162 rfl rfl rfl (args_cons (i:=0) rfl args_nil) ?_
 intro a hF
 refine wp_seq ?_
 refine E.seq ?_
 obtain⟨ad1,n1,c1,rfl,_⟩:=Wc.shape h1
 obtain⟨g1,w2,ge1,hr,bb,o1⟩:=own_box (P:=Tryz.prog) (w:=w) (cs:=[.bool (decide (z<0)),.slice ad1 n1 c1]) (v:= .agg #[.bool (decide (z<0)),.slice ad1 n1 c1]) 31 rfl (niB (niS ni0))
 replace ge1:w.heap.size≤g1:=by rw[←ge1];exact bel.size
 refine E.opv hF (r_box (hF.at 0 rfl) hr) rfl rfl rfl rfl fun a hF=>?_
 clear hr
 replace h1:=h1.below bb
 replace bel:=below_to bel bb
 clear bb
 have hf3:=Wc.abs h1
 refine E.opv hF (r_assign ev_c) rfl rfl rfl rfl fun a hF=>?_
 refine E.nil ?_
 refine wp_seq ?_
 refine wp_seq ?_
 refine E.seq ?_
 refine E.opv hF (r_load (hF.at 1 rfl) (ld_Int (vs:=[.bool (decide (z<0)),.slice ad1 n1 c1]) o1 rfl rfl)) rfl rfl rfl rfl fun a hF=>?_
 refine E.call hF (r_call Tryz.func151 en151.1 en151.2 (map1 (hF.at 0 rfl))) (whSign_any _ _ _ (Wc.wz h1)) rfl rfl rfl rfl ?_
 rintro e w4 ⟨rfl,bb⟩
 refine⟨_,rfl,?_⟩
 intro a hF
 replace hf3:=hf3.below bb
 replace h1:=h1.below bb
 replace o1:=o1.below bb
 replace bel:=below_to bel bb
 clear bb
 by_cases hc5:sz (z)=0
 ·refine E.opv hF (r_bin (hF.at 0 rfl) ev_c eg_scalar (bi_int (ic_eql (c:=true) (dec_tt hc5)) (by simp))) rfl rfl rfl rfl fun a hF=>?_
  refine E.nil ?_
  refine wp_cond_true (hF.at 0 rfl) ?_
  refine wp_seq ?_
  refine E.seq ?_
  refine E.opset (L':=[(2,.string (bstr [48])),(6,.bool true),(5,.int .i64 (sz (z))),(4,.agg #[.bool (decide (z<0)),.slice ad1 n1 c1]),(1,.pointer (some ⟨g1,0,none⟩)),(0,.agg #[.bool (decide (z<0)),.slice ad1 n1 c1])]) hF (r_assign ev_c) rfl rfl rfl rfl fun a hF=>?_
  refine E.nil ?_
  refine wp_ret ?_
  refine bodyPost_ret (res_tmp Tryz.results162 (hF.at 0 rfl)) hF.dfr ?_
  exact⟨rv_str (tx_zero (sz_eq0.1 hc5)),bel⟩
 ·refine E.opv hF (r_bin (hF.at 0 rfl) ev_c eg_scalar (bi_int (ic_eql (c:=false) (dec_ff hc5)) (by simp))) rfl rfl rfl rfl fun a hF=>?_
  refine E.nil ?_
  refine wp_cond_false (hF.at 0 rfl) ?_
  refine wp_skip ?_
  refine E.norm ?_
  refine wp_seq ?_
  refine E.seq ?_
  refine E.opv hF (r_field (hF.at 4 rfl) (fa_Int_1 (p:=1) rfl)) rfl rfl rfl rfl fun a hF=>?_
  refine E.opv hF (r_load (hF.at 0 rfl) (ld_Nat (v:= .slice ad1 n1 c1) o1 rfl)) rfl rfl rfl rfl fun a hF=>?_
  refine E.call hF (r_call Tryz.func199 en199.1 en199.2 (map1 (hF.at 0 rfl))) (lowest_any _ (Int.natAbs (z)) M _ hf3 (by first|assumption|omega) hM) rfl rfl rfl rfl ?_
  rintro e w6 ⟨vv7,rfl,hh8,bb⟩
  refine⟨_,rfl,?_⟩
  intro a hF
  have hdp:=dl10_pos (N:=Int.natAbs (z)) (by intro e;exact absurd (sz_eq0.2 (show z=0 by omega)) (by assumption))
  replace hh8:=hh8.rebase bel.size
  obtain⟨advv7,cpvv7,rfl⟩:=hh8.form
  replace hf3:=hf3.below bb
  replace h1:=h1.below bb
  replace o1:=o1.below bb
  replace bel:=below_to bel bb
  clear bb
  refine E.opv hF (r_assign (hF.at 0 rfl)) rfl rfl rfl rfl fun a hF=>?_
  refine E.nil ?_
  refine wp_seq ?_
  refine wp_seq ?_
  refine E.seq ?_
  refine E.opv hF (r_field (hF.at 8 rfl) (fa_Int_0 (p:=0) rfl)) rfl rfl rfl rfl fun a hF=>?_
  refine E.opv hF (r_load (hF.at 0 rfl) (ld_bool (v:= .bool (decide (z<0))) o1 rfl)) rfl rfl rfl rfl fun a hF=>?_
  refine E.nil ?_
  by_cases hc9:(decide (z<0))=true
  ·refine wp_cond_true (Eq.trans (hF.at 0 rfl) (congrArg Value.bool hc9)) ?_
   refine E.seq ?_
   refine E.opv hF (r_move (hF.at 2 rfl)) rfl rfl rfl rfl fun a hF=>?_
   obtain⟨gl10,w11,hr,bb,ogl10⟩:=bs8 w6 (45) (d:=45) (by omega)
   refine E.opv hF (r_buildSlice (pair1 ev_c) hr) rfl rfl rfl rfl fun a hF=>?_
   clear hr
   replace hh8:=hh8.below bb
   replace bel:=below_to bel bb
   clear bb
   obtain⟨la12,ln13,lc14,w15,hr,ha16,bb,gr⟩:=app8 hh8 ogl10 (by rw[asc_dg];omega) bel.size
   refine E.opv hF (r_builtin (map2 (hF.at 1 rfl) (hF.at 0 rfl)) hr) rfl rfl rfl rfl fun a hF=>?_
   clear hr
   replace bel:=bel.trans bb
   clear bb gr
   refine E.opset (L':=[(3,.slice la12 ln13 lc14),(14,.slice la12 ln13 lc14),(13,.slice (some ⟨gl10,0,none⟩) 1 1),(12,.slice advv7 (List.length (asc (dg 10 (Int.natAbs (z))))) cpvv7),(11,.bool (decide (z<0))),(10,.pointer (some ⟨g1,0,none⟩)),(9,.slice advv7 (List.length (asc (dg 10 (Int.natAbs (z))))) cpvv7),(8,.slice ad1 n1 c1),(7,.pointer (some ⟨g1,1,none⟩)),(6,.bool false),(5,.int .i64 (sz (z))),(4,.agg #[.bool (decide (z<0)),.slice ad1 n1 c1]),(2,.string (bstr [])),(1,.pointer (some ⟨g1,0,none⟩)),(0,.agg #[.bool (decide (z<0)),.slice ad1 n1 c1])]) hF (r_assign (hF.at 0 rfl)) rfl rfl rfl rfl fun a hF=>?_
   refine E.nil ?_
   refine wp_seq ?_
   refine E.seq ?_
   refine E.opv hF (r_move (hF.at 0 rfl)) rfl rfl rfl rfl fun a hF=>?_
   refine E.call hF (r_call Tryz.func200 en200.1 en200.2 (map1 (hF.at 0 rfl))) (reverse_acc _ w.heap.size ((asc (dg 10 (Int.natAbs (z))))++[45]) _ ha16 bel.size (by first|(simp only [asc_dg];omega)|(simp only [List.length_append,asc_dg,List.length_cons,List.length_nil];omega)) (by first|(simp only [asc_dg];omega)|(simp only [List.length_append,asc_dg,List.length_cons,List.length_nil];omega))) rfl rfl rfl rfl ?_
   rintro e w17 ⟨rfl,ha18,bb,gr⟩
   refine⟨_,rfl,?_⟩
   intro a hF
   replace bel:=bel.trans bb
   clear bb gr
   refine E.nil ?_
   refine wp_seq ?_
   refine E.seq ?_
   refine E.opv hF (r_move (hF.at 2 rfl)) rfl rfl rfl rfl fun a hF=>?_
   refine E.opv hF (r_conv (hF.at 0 rfl) (cv_str (AccK.sqb ha18))) rfl rfl rfl rfl fun a hF=>?_
   refine E.opset (L':=[(2,.string (bstr (((asc (dg 10 (Int.natAbs (z))))++[45]).reverse))),(18,.string (bstr (((asc (dg 10 (Int.natAbs (z))))++[45]).reverse))),(17,.slice la12 ln13 lc14),(16,.tuple #[]),(15,.slice la12 ln13 lc14),(3,.slice la12 ln13 lc14),(14,.slice la12 ln13 lc14),(13,.slice (some ⟨gl10,0,none⟩) 1 1),(12,.slice advv7 (List.length (asc (dg 10 (Int.natAbs (z))))) cpvv7),(11,.bool (decide (z<0))),(10,.pointer (some ⟨g1,0,none⟩)),(9,.slice advv7 (List.length (asc (dg 10 (Int.natAbs (z))))) cpvv7),(8,.slice ad1 n1 c1),(7,.pointer (some ⟨g1,1,none⟩)),(6,.bool false),(5,.int .i64 (sz (z))),(4,.agg #[.bool (decide (z<0)),.slice ad1 n1 c1]),(1,.pointer (some ⟨g1,0,none⟩)),(0,.agg #[.bool (decide (z<0)),.slice ad1 n1 c1])]) hF (r_assign (hF.at 0 rfl)) rfl rfl rfl rfl fun a hF=>?_
   refine E.nil ?_
   refine wp_ret ?_
   refine bodyPost_ret (res_tmp Tryz.results162 (hF.at 0 rfl)) hF.dfr ?_
   exact⟨rv_str (tx_neg (of_decide_eq_true hc9)),bel⟩
  ·refine wp_cond_false (Eq.trans (hF.at 0 rfl) (congrArg Value.bool (eq_false_of_ne_true hc9))) ?_
   refine wp_skip ?_
   refine E.norm ?_
   refine wp_seq ?_
   refine E.seq ?_
   refine E.opv hF (r_move (hF.at 2 rfl)) rfl rfl rfl rfl fun a hF=>?_
   refine E.call hF (r_call Tryz.func200 en200.1 en200.2 (map1 (hF.at 0 rfl))) (reverse_acc _ w.heap.size ((asc (dg 10 (Int.natAbs (z))))) _ hh8 bel.size (by first|(simp only [asc_dg];omega)|(simp only [List.length_append,asc_dg,List.length_cons,List.length_nil];omega)) (by first|(simp only [asc_dg];omega)|(simp only [List.length_append,asc_dg,List.length_cons,List.length_nil];omega))) rfl rfl rfl rfl ?_
   rintro e w19 ⟨rfl,ha20,bb,gr⟩
   refine⟨_,rfl,?_⟩
   intro a hF
   replace bel:=bel.trans bb
   clear bb gr
   refine E.nil ?_
   refine wp_seq ?_
   refine E.seq ?_
   refine E.opv hF (r_move (hF.at 4 rfl)) rfl rfl rfl rfl fun a hF=>?_
   refine E.opv hF (r_conv (hF.at 0 rfl) (cv_str (AccK.sqb ha20))) rfl rfl rfl rfl fun a hF=>?_
   refine E.opset (L':=[(2,.string (bstr (((asc (dg 10 (Int.natAbs (z))))).reverse))),(18,.string (bstr (((asc (dg 10 (Int.natAbs (z))))).reverse))),(17,.slice advv7 (List.length (asc (dg 10 (Int.natAbs (z))))) cpvv7),(16,.tuple #[]),(15,.slice advv7 (List.length (asc (dg 10 (Int.natAbs (z))))) cpvv7),(11,.bool (decide (z<0))),(10,.pointer (some ⟨g1,0,none⟩)),(3,.slice advv7 (List.length (asc (dg 10 (Int.natAbs (z))))) cpvv7),(9,.slice advv7 (List.length (asc (dg 10 (Int.natAbs (z))))) cpvv7),(8,.slice ad1 n1 c1),(7,.pointer (some ⟨g1,1,none⟩)),(6,.bool false),(5,.int .i64 (sz (z))),(4,.agg #[.bool (decide (z<0)),.slice ad1 n1 c1]),(1,.pointer (some ⟨g1,0,none⟩)),(0,.agg #[.bool (decide (z<0)),.slice ad1 n1 c1])]) hF (r_assign (hF.at 0 rfl)) rfl rfl rfl rfl fun a hF=>?_
   refine E.nil ?_
   refine wp_ret ?_
   refine bodyPost_ret (res_tmp Tryz.results162 (hF.at 0 rfl)) hF.dfr ?_
   exact⟨rv_str (tx_pos (fun e=>hc5 (sz_eq0.2 e)) (fun e=>hc9 (decide_eq_true e))),bel⟩
end
section
theorem lim_castN {N k:Nat} (h:Lim N k):Lim ((N:Nat):Int).natAbs k:=by rw[Int.natAbs_natCast];exact h
theorem Wc.ofnat {w:World} {s:Value} {N:Nat} (h:Dg w .u32 B32 s N):Wc w (.agg #[.bool false,s]) ((N:Nat):Int):=by
 refine⟨s,?_,by simpa using h⟩
 rw[decide_eq_false (by omega)]
def cx (q:Rat):List Nat:=if q.den=1 then tx q.num else tx q.num++[47]++tx ((q.den:Nat):Int)
theorem ci_eq0 {a b:Int}:ci a b=0↔a=b:=by
 unfold ci
 constructor
 ·intro h;split at h
  ·cases h
  ·split at h
   ·cases h
   ·omega
 ·intro h;subst h;simp
theorem cx_one {q:Rat} (h:((q.den:Nat):Int)=1):tx q.num=cx q:=by unfold cx;rw[if_pos (by omega)]
theorem cx_more {q:Rat} (h:((q.den:Nat):Int)≠1):(tx q.num++[47])++tx ((q.den:Nat):Int)=cx q:=by unfold cx;rw[if_neg (by omega)]
theorem cbelow_any (v1:Value) (q:Rat) (w:World) (h1:Rq w v1 q):
 Calls Tryz.prog 163 #[v1] w (WcPost w ((q.den:Nat):Int)):=by
 have bel:Below w.heap.size w w:=Below.refl _ _
 refine E.enter (nt:=6) (L:=[(0,v1)]) Tryz.func163 rfl rfl rfl (args_cons (i:=0) rfl args_nil) ?_
 intro a hF
 refine wp_seq ?_
 refine E.seq ?_
 obtain⟨b1,ad1,n1,c1,ae1,m1,d1,rfl,hn1,hd1⟩:=Rq.shape h1
 have hf2:=Wc.abs hn1
 obtain⟨g1,w3,ge1,hr,bb,o1⟩:=own_box (P:=Tryz.prog) (w:=w) (cs:=[.bool b1,.slice ad1 n1 c1,.slice ae1 m1 d1]) (v:= .agg #[.bool b1,.slice ad1 n1 c1,.slice ae1 m1 d1]) 33 rfl (niB (niS (niS ni0)))
 replace ge1:w.heap.size≤g1:=by rw[←ge1];exact bel.size
 refine E.opv hF (r_box (hF.at 0 rfl) hr) rfl rfl rfl rfl fun a hF=>?_
 clear hr
 replace h1:=h1.below bb
 replace hn1:=hn1.below bb
 replace hf2:=hf2.below bb
 replace hd1:=hd1.below bb
 replace bel:=below_to bel bb
 clear bb
 obtain⟨g2,w4,ge2,hr,bb,o2⟩:=own_alloc (P:=Tryz.prog) (w:=w3) (cs:=[.bool false,.slice none 0 0]) 31 ze_Int rfl (niB (niS ni0))
 have ne1_2:g1≠g2:=by rw[←ge2];exact o1.ne_new
 replace ge2:w.heap.size≤g2:=by rw[←ge2];exact bel.size
 refine E.opv hF (r_alloc hr) rfl rfl rfl rfl fun a hF=>?_
 clear hr
 replace hf2:=hf2.below bb
 replace hd1:=hd1.below bb
 replace h1:=h1.below bb
 replace hn1:=hn1.below bb
 replace o1:=o1.below bb
 replace bel:=below_to bel bb
 clear bb
 refine E.nil ?_
 refine wp_seq ?_
 refine E.seq ?_
 refine E.opv hF (r_load (hF.at 1 rfl) (ld_Rat (vs:=[.bool b1,.slice ad1 n1 c1,.slice ae1 m1 d1]) o1 rfl rfl)) rfl rfl rfl rfl fun a hF=>?_
 refine E.call hF (r_call Tryz.func66 en66.1 en66.2 (map1 (hF.at 0 rfl))) (rden_any _ (q) _ h1) rfl rfl rfl rfl ?_
 rintro e w5 ⟨vv6,rfl,hh7,bb⟩
 refine⟨_,rfl,?_⟩
 intro a hF
 replace o2:=o2.below bb
 replace bel:=below_to bel bb
 clear bb
 obtain⟨ad8,n8,c8,rfl⟩:=Dg.form hh7
 refine E.opv hF (r_build (pair1 (hF.at 0 rfl)) (bd_Int_1 _ _ _ _)) rfl rfl rfl rfl fun a hF=>?_
 obtain⟨w9,hr,tu,on⟩:=st_Int (vs:=[.bool false,.slice ad8 n8 c8]) o2 rfl rfl (ocB (ocS oc0)) (niB (niS ni0)) (o:=0) rfl
 have kp:=tu.keep o2
 refine E.st hF (r_store (hF.at 3 rfl) (hF.at 0 rfl) (hr _ rfl)) rfl rfl fun a hF=>?_
 clear hr
 replace hh7:=hh7.keep kp
 replace bel:=tu.below bel ge2
 clear tu kp
 replace o2:=on
 clear on
 refine E.nil ?_
 refine wp_ret ?_
 refine bodyPost_ret (res_cell Tryz.results163 (hF.at 3 rfl) (ld_Int (vs:=[.bool false,.slice ad8 n8 c8]) o2 rfl rfl)) hF.dfr ?_
 exact⟨_,rfl,Wc.ofnat hh7,bel⟩
theorem cText_any (v1:Value) (q:Rat) (k:Nat) (w:World) (h1:Rq w v1 q) (hl:RLim q k) (hk:k≤1000000):
 Calls Tryz.prog 112 #[v1] w (ValPost w (.string (bstr (cx q)))):=by
 have ht1:=tx_len (lim_pow hl.1)
 have ht2:=tx_len (z:=((q.den:Nat):Int)) (M:=32*k) (by rw[Int.natAbs_natCast];exact lim_pow hl.2)
 have bel:Below w.heap.size w w:=Below.refl _ _
 refine E.enter (nt:=20) (L:=[(0,v1)]) Tryz.func112 rfl rfl rfl (args_cons (i:=0) rfl args_nil) ?_
 intro a hF
 refine wp_seq ?_
 refine E.seq ?_
 obtain⟨b1,ad1,n1,c1,ae1,m1,d1,rfl,hn1,hd1⟩:=Rq.shape h1
 have hf2:=Wc.abs hn1
 obtain⟨g1,w3,ge1,hr,bb,o1⟩:=own_box (P:=Tryz.prog) (w:=w) (cs:=[.bool b1,.slice ad1 n1 c1,.slice ae1 m1 d1]) (v:= .agg #[.bool b1,.slice ad1 n1 c1,.slice ae1 m1 d1]) 33 rfl (niB (niS (niS ni0)))
 replace ge1:w.heap.size≤g1:=by rw[←ge1];exact bel.size
 refine E.opv hF (r_box (hF.at 0 rfl) hr) rfl rfl rfl rfl fun a hF=>?_
 clear hr
 replace h1:=h1.below bb
 replace hn1:=hn1.below bb
 replace hf2:=hf2.below bb
 replace hd1:=hd1.below bb
 replace bel:=below_to bel bb
 clear bb
 refine E.opv hF (r_assign ev_c) rfl rfl rfl rfl fun a hF=>?_
 refine E.nil ?_
 refine wp_seq ?_
 refine E.drawn 7 mixed hF [5,6,7,8,9,4,3] [(fun _ v=>v= .agg #[.bool b1,.slice ad1 n1 c1,.slice ae1 m1 d1]),(fun w v=>Wc w v (Rat.num (q))),(fun _ v=>v= .string (bstr (tx (Rat.num (q))))),(fun _ v=>v= .agg #[.bool b1,.slice ad1 n1 c1,.slice ae1 m1 d1]),(fun w v=>Wc w v (((Rat.den (q):Nat):Int))),(fun w v=>∃g,v= .pointer (some ⟨g,0,none⟩)∧w3.heap.size≤g∧Own w g [.bool false,.slice none 0 0]),(fun _ v=>v= .string (bstr (tx (Rat.num (q)))))] [5] (by decide+kernel) (by decide+kernel) rfl rfl rfl ⟨(Mb.eq _),(fun _ _ _ h hb=>h.below hb),(Mb.eq _),(Mb.eq _),(fun _ _ _ h hb=>h.below hb),(fun _ _ _ ⟨g,e,l,o⟩ hb=>⟨g,e,l,o.below hb⟩),(Mb.eq _),trivial⟩ ⟨fun _ _ ⟨g,e,_,o⟩=>⟨g,e,o.lt⟩,trivial⟩ ⟨?_,?_,?_,?_,?_,?_,?_,trivial⟩ ?_
 ·intro a' w' hF' hb hd
  exact if_does (wanted_free rfl) (Does.vals (r_load (hF'.at 1 rfl) (ld_Rat (vs:=[.bool b1,.slice ad1 n1 c1,.slice ae1 m1 d1]) (o1.below hb) rfl rfl)) ⟨rfl,Below.refl _ _,(fun h=>absurd h (by decide))⟩)
 ·intro a' w' hF' hb hd
  have e5:a'.tmps.getD 5 undef= .agg #[.bool b1,.slice ad1 n1 c1,.slice ae1 m1 d1]:=hd _ 5 (Array.mem_of_getElem? (i:=0) rfl) rfl rfl
  refine if_does (wanted_free rfl) (Does.calls (r_call Tryz.func65 en65.1 en65.2 (map1 e5)) (rnum_any _ (q) _ (h1.below hb)) ?_)
  rintro e w'' ⟨v',rfl,h',bb⟩
  exact⟨_,rfl,h',bb,(fun h=>absurd h (by decide))⟩
 ·intro a' w' hF' hb hd
  obtain⟨v6_0,e6,h6_1⟩:∃v,a'.tmps.getD 6 undef=v∧Wc w' v (Rat.num (q)):=⟨_,rfl,hd _ 6 (Array.mem_of_getElem? (i:=0) rfl) rfl rfl⟩
  refine if_does (wanted_free rfl) (Does.calls (r_call Tryz.func162 en162.1 en162.2 (map1 e6)) (dtext_any _ (Rat.num (q)) (32*k) _ h6_1 (lim_pow (hl.1)) (by omega)) ?_)
  rintro e w'' ⟨rfl,bb⟩
  exact⟨_,rfl,rfl,bb,(fun h=>absurd h (by decide))⟩
 ·intro a' w' hF' hb hd
  exact if_does (wanted_free rfl) (Does.vals (r_load (hF'.at 1 rfl) (ld_Rat (vs:=[.bool b1,.slice ad1 n1 c1,.slice ae1 m1 d1]) (o1.below hb) rfl rfl)) ⟨rfl,Below.refl _ _,(fun h=>absurd h (by decide))⟩)
 ·intro a' w' hF' hb hd
  have e8:a'.tmps.getD 8 undef= .agg #[.bool b1,.slice ad1 n1 c1,.slice ae1 m1 d1]:=hd _ 8 (Array.mem_of_getElem? (i:=0) rfl) rfl rfl
  refine if_does (wanted_free rfl) (Does.calls (r_call Tryz.func163 en163.1 en163.2 (map1 e8)) (cbelow_any _ (q) _ (h1.below hb)) ?_)
  rintro e w'' ⟨v',rfl,h',bb⟩
  exact⟨_,rfl,h',bb,(fun h=>absurd h (by decide))⟩
 ·intro a' w' hF' hb hd
  obtain⟨g,w2,ge,hr,bb,on⟩:=own_alloc (P:=Tryz.prog) (w:=w') (cs:=[.bool false,.slice none 0 0]) 31 ze_Int rfl (niB (niS ni0))
  subst ge
  exact if_does (wanted_free rfl) (Does.vals (r_alloc hr) ⟨⟨_,rfl,hb.size,on⟩,bb,fun _=>rfl⟩)
 ·intro a' w' hF' hb hd
  have e7:a'.tmps.getD 7 undef= .string (bstr (tx (Rat.num (q)))):=hd _ 7 (Array.mem_of_getElem? (i:=0) rfl) rfl rfl
  exact if_does (wanted_free rfl) (Does.vals (r_assign e7) ⟨rfl,Below.refl _ _,(fun h=>absurd h (by decide))⟩)
 intro a w4 hF bb hall hne
 obtain⟨vv5,e9,hh6⟩:∃v,a.tmps.getD 9 undef=v∧Wc w4 v (((Rat.den (q):Nat):Int)):=⟨_,rfl,hall 4 9 rfl⟩
 obtain⟨g4,e4,ge4,o4⟩:∃g,a.tmps.getD 4 undef= .pointer (some ⟨g,0,none⟩)∧w3.heap.size≤g∧Own w4 g [.bool false,.slice none 0 0]:=hall 5 4 rfl
 have e3:a.tmps.getD 3 undef= .string (bstr (tx (Rat.num (q)))):=hall 6 3 rfl
 replace ge4:w.heap.size≤g4:=Nat.le_trans bel.size ge4
 clear hall hne
 replace bel:=below_to bel bb
 clear bb
 obtain⟨ad7,n7,c7,rfl,_⟩:=Wc.shape hh6
 replace hF:=hF.add e9
 clear e9
 replace hF:=hF.add e4
 clear e4
 replace hF:=hF.add e3
 clear e3
 obtain⟨w8,hr,tu,on⟩:=st_Int (vs:=[.bool (decide (((Rat.den (q):Nat):Int)<0)),.slice ad7 n7 c7]) o4 rfl rfl (ocB (ocS oc0)) (niB (niS ni0)) (o:=0) rfl
 have kp:=tu.keep o4
 refine E.st hF (r_store (hF.at 1 rfl) (hF.at 2 rfl) (hr _ rfl)) rfl rfl fun a hF=>?_
 clear hr
 replace hh6:=hh6.keep kp
 replace bel:=tu.below bel ge4
 clear tu kp
 replace o4:=on
 clear on
 have hf9:=Wc.abs hh6
 refine E.nil ?_
 refine wp_seq ?_
 refine wp_seq ?_
 by_cases hc10:ci (((Rat.den (q):Nat):Int)) (1)=0
 ·refine E.drawn 4 mixed hF [10,11,12,13] [(fun _ v=>v= .agg #[.bool (decide (((Rat.den (q):Nat):Int)<0)),.slice ad7 n7 c7]),(fun w v=>Wc w v (1)),(fun _ v=>v= .int .i64 (ci (((Rat.den (q):Nat):Int)) (1))),(fun _ v=>v= .bool true)] [] (by decide+kernel) (by decide+kernel) rfl rfl rfl ⟨(Mb.eq _),(fun _ _ _ h hb=>h.below hb),(Mb.eq _),(Mb.eq _),trivial⟩ trivial ⟨?_,?_,?_,?_,trivial⟩ ?_
  ·intro a' w' hF' hb hd
   exact if_does (wanted_free rfl) (Does.vals (r_load (hF'.at 1 rfl) (ld_Int (vs:=[.bool (decide (((Rat.den (q):Nat):Int)<0)),.slice ad7 n7 c7]) (o4.below hb) rfl rfl)) ⟨rfl,Below.refl _ _,(fun h=>absurd h (by decide))⟩)
  ·intro a' w' hF' hb hd
   refine if_does (wanted_free rfl) (Does.calls (r_call Tryz.func101 en101.1 en101.2 (map1 ev_c)) (whOf_any 1 _ (by decide) (by decide)) ?_)
   rintro e w'' ⟨v',rfl,h',bb⟩
   exact⟨_,rfl,h',bb,(fun h=>absurd h (by decide))⟩
  ·intro a' w' hF' hb hd
   have e10:a'.tmps.getD 10 undef= .agg #[.bool (decide (((Rat.den (q):Nat):Int)<0)),.slice ad7 n7 c7]:=hd _ 10 (Array.mem_of_getElem? (i:=0) rfl) rfl rfl
   obtain⟨v11_0,e11,h11_1⟩:∃v,a'.tmps.getD 11 undef=v∧Wc w' v (1):=⟨_,rfl,hd _ 11 (Array.mem_of_getElem? (i:=1) rfl) rfl rfl⟩
   refine if_does (wanted_free rfl) (Does.calls (r_call Tryz.func95 en95.1 en95.2 (map2 e10 e11)) (whCmp_any _ _ _ _ _ (Wc.wz (hh6.below hb)) (Wc.wz h11_1)) ?_)
   rintro e w'' ⟨rfl,bb⟩
   exact⟨_,rfl,rfl,bb,(fun h=>absurd h (by decide))⟩
  ·intro a' w' hF' hb hd
   have e12:a'.tmps.getD 12 undef= .int .i64 (ci (((Rat.den (q):Nat):Int)) (1)):=hd _ 12 (Array.mem_of_getElem? (i:=0) rfl) rfl rfl
   exact if_does (wanted_free rfl) (Does.vals (r_bin e12 ev_c eg_scalar (bi_int (ic_eql (c:=true) (dec_tt hc10)) (by simp))) ⟨rfl,Below.refl _ _,(fun h=>absurd h (by decide))⟩)
  intro a w11 hF bb hall hne
  have e13:a.tmps.getD 13 undef= .bool true:=hall 3 13 rfl
  clear hall hne
  replace hf9:=hf9.below bb
  replace hh6:=hh6.below bb
  replace o4:=o4.below bb
  replace bel:=below_to bel bb
  clear bb
  replace hF:=hF.add e13
  clear e13
  refine E.nil ?_
  refine wp_cond_true (hF.at 0 rfl) ?_
  refine wp_seq ?_
  refine E.seq ?_
  refine E.opv hF (r_move (hF.at 1 rfl)) rfl rfl rfl rfl fun a hF=>?_
  refine E.opset (L':=[(2,.string (bstr (tx (Rat.num (q))))),(14,.string (bstr (tx (Rat.num (q))))),(13,.bool true),(3,.string (bstr (tx (Rat.num (q))))),(4,.pointer (some ⟨g4,0,none⟩)),(9,.agg #[.bool (decide (((Rat.den (q):Nat):Int)<0)),.slice ad7 n7 c7]),(1,.pointer (some ⟨g1,0,none⟩)),(0,.agg #[.bool b1,.slice ad1 n1 c1,.slice ae1 m1 d1])]) hF (r_assign (hF.at 0 rfl)) rfl rfl rfl rfl fun a hF=>?_
  refine E.nil ?_
  refine wp_ret ?_
  refine bodyPost_ret (res_tmp Tryz.results112 (hF.at 0 rfl)) hF.dfr ?_
  exact⟨rv_str (cx_one (ci_eq0.1 hc10)),bel⟩
 ·refine E.drawn 4 mixed hF [10,11,12,13] [(fun _ v=>v= .agg #[.bool (decide (((Rat.den (q):Nat):Int)<0)),.slice ad7 n7 c7]),(fun w v=>Wc w v (1)),(fun _ v=>v= .int .i64 (ci (((Rat.den (q):Nat):Int)) (1))),(fun _ v=>v= .bool false)] [] (by decide+kernel) (by decide+kernel) rfl rfl rfl ⟨(Mb.eq _),(fun _ _ _ h hb=>h.below hb),(Mb.eq _),(Mb.eq _),trivial⟩ trivial ⟨?_,?_,?_,?_,trivial⟩ ?_
  ·intro a' w' hF' hb hd
   exact if_does (wanted_free rfl) (Does.vals (r_load (hF'.at 1 rfl) (ld_Int (vs:=[.bool (decide (((Rat.den (q):Nat):Int)<0)),.slice ad7 n7 c7]) (o4.below hb) rfl rfl)) ⟨rfl,Below.refl _ _,(fun h=>absurd h (by decide))⟩)
  ·intro a' w' hF' hb hd
   refine if_does (wanted_free rfl) (Does.calls (r_call Tryz.func101 en101.1 en101.2 (map1 ev_c)) (whOf_any 1 _ (by decide) (by decide)) ?_)
   rintro e w'' ⟨v',rfl,h',bb⟩
   exact⟨_,rfl,h',bb,(fun h=>absurd h (by decide))⟩
  ·intro a' w' hF' hb hd
   have e10:a'.tmps.getD 10 undef= .agg #[.bool (decide (((Rat.den (q):Nat):Int)<0)),.slice ad7 n7 c7]:=hd _ 10 (Array.mem_of_getElem? (i:=0) rfl) rfl rfl
   obtain⟨v11_0,e11,h11_1⟩:∃v,a'.tmps.getD 11 undef=v∧Wc w' v (1):=⟨_,rfl,hd _ 11 (Array.mem_of_getElem? (i:=1) rfl) rfl rfl⟩
   refine if_does (wanted_free rfl) (Does.calls (r_call Tryz.func95 en95.1 en95.2 (map2 e10 e11)) (whCmp_any _ _ _ _ _ (Wc.wz (hh6.below hb)) (Wc.wz h11_1)) ?_)
   rintro e w'' ⟨rfl,bb⟩
   exact⟨_,rfl,rfl,bb,(fun h=>absurd h (by decide))⟩
  ·intro a' w' hF' hb hd
   have e12:a'.tmps.getD 12 undef= .int .i64 (ci (((Rat.den (q):Nat):Int)) (1)):=hd _ 12 (Array.mem_of_getElem? (i:=0) rfl) rfl rfl
   exact if_does (wanted_free rfl) (Does.vals (r_bin e12 ev_c eg_scalar (bi_int (ic_eql (c:=false) (dec_ff hc10)) (by simp))) ⟨rfl,Below.refl _ _,(fun h=>absurd h (by decide))⟩)
  intro a w12 hF bb hall hne
  have e13:a.tmps.getD 13 undef= .bool false:=hall 3 13 rfl
  clear hall hne
  replace hf9:=hf9.below bb
  replace hh6:=hh6.below bb
  replace o4:=o4.below bb
  replace bel:=below_to bel bb
  clear bb
  replace hF:=hF.add e13
  clear e13
  refine E.nil ?_
  refine wp_cond_false (hF.at 0 rfl) ?_
  refine wp_skip ?_
  refine E.norm ?_
  refine wp_seq ?_
  refine E.seq ?_
  refine E.opv hF (r_move (hF.at 1 rfl)) rfl rfl rfl rfl fun a hF=>?_
  refine E.opv hF (r_bin (hF.at 0 rfl) ev_c eg_str (sb_add (xs:=tx (Rat.num (q))) (ys:=[47]) (by first|omega|(simp only [List.length_cons,List.length_nil];omega)|(simp only [List.length_append,List.length_cons,List.length_nil];omega)))) rfl rfl rfl rfl fun a hF=>?_
  refine E.opv hF (r_load (hF.at 4 rfl) (ld_Int (vs:=[.bool (decide (((Rat.den (q):Nat):Int)<0)),.slice ad7 n7 c7]) o4 rfl rfl)) rfl rfl rfl rfl fun a hF=>?_
  refine E.call hF (r_call Tryz.func162 en162.1 en162.2 (map1 (hF.at 0 rfl))) (dtext_any _ (((Rat.den (q):Nat):Int)) (32*k) _ hh6 (lim_pow (lim_castN (hl.2))) (by omega)) rfl rfl rfl rfl ?_
  rintro e w13 ⟨rfl,bb⟩
  refine⟨_,rfl,?_⟩
  intro a hF
  replace bel:=below_to bel bb
  clear bb
  refine E.opv hF (r_bin (hF.at 2 rfl) (hF.at 0 rfl) eg_str (sb_add (xs:=(tx (Rat.num (q))++[47])) (ys:=tx (((Rat.den (q):Nat):Int))) (by first|omega|(simp only [List.length_cons,List.length_nil];omega)|(simp only [List.length_append,List.length_cons,List.length_nil];omega)))) rfl rfl rfl rfl fun a hF=>?_
  refine E.opset (L':=[(2,.string (bstr ((tx (Rat.num (q))++[47])++tx (((Rat.den (q):Nat):Int))))),(19,.string (bstr ((tx (Rat.num (q))++[47])++tx (((Rat.den (q):Nat):Int))))),(18,.string (bstr (tx (((Rat.den (q):Nat):Int))))),(17,.agg #[.bool (decide (((Rat.den (q):Nat):Int)<0)),.slice ad7 n7 c7]),(16,.string (bstr (tx (Rat.num (q))++[47]))),(15,.string (bstr (tx (Rat.num (q))))),(13,.bool false),(3,.string (bstr (tx (Rat.num (q))))),(4,.pointer (some ⟨g4,0,none⟩)),(9,.agg #[.bool (decide (((Rat.den (q):Nat):Int)<0)),.slice ad7 n7 c7]),(1,.pointer (some ⟨g1,0,none⟩)),(0,.agg #[.bool b1,.slice ad1 n1 c1,.slice ae1 m1 d1])]) hF (r_assign (hF.at 0 rfl)) rfl rfl rfl rfl fun a hF=>?_
  refine E.nil ?_
  refine wp_ret ?_
  refine bodyPost_ret (res_tmp Tryz.results112 (hF.at 0 rfl)) hF.dfr ?_
  exact⟨rv_str (cx_more (fun e=>hc10 (ci_eq0.2 e))),bel⟩
end
section
theorem live1:((cx (((-6:Int):Rat)/((-4:Int):Rat))).map UInt8.ofNat == [51,47,50].map UInt8.ofNat)=true:=by
 have e:cx (((-6:Int):Rat)/((-4:Int):Rat))=[51,47,50]:=by decide+kernel
 rw[e];rfl
theorem live2:((cx 0).map UInt8.ofNat == [48].map UInt8.ofNat)=true:=by
 have e:cx 0=[48]:=by decide+kernel
 rw[e];rfl
theorem live_any (w:World):
 Calls Tryz.prog 49 #[] w (ValPost w (.bool true)):=by
 have bel:Below w.heap.size w w:=Below.refl _ _
 refine E.enter (nt:=9) (L:=[]) Tryz.func49 rfl rfl rfl args_nil ?_
 intro a hF
 refine wp_seq ?_
 refine E.seq ?_
 refine E.opv hF (r_assign ev_c) rfl rfl rfl rfl fun a hF=>?_
 refine E.nil ?_
 refine wp_seq ?_
 refine E.seq ?_
 refine E.call hF (r_call Tryz.func35 en35.1 en35.2 (map2 ev_c ev_c)) (rOf2_any ((-6)) ((-4)) _ (by decide) (by decide) (by decide) (by decide)) rfl rfl rfl rfl ?_
 rintro e w1 ⟨vv2,rfl,hh3,bb⟩
 refine⟨_,rfl,?_⟩
 intro a hF
 replace bel:=below_to bel bb
 clear bb
 obtain⟨b4,ad4,n4,c4,ae4,m4,d4,rfl,hn4,hd4⟩:=Rq.shape hh3
 have hf5:=Wc.abs hn4
 refine E.call hF (r_call Tryz.func112 en112.1 en112.2 (map1 (hF.at 0 rfl))) (cText_any _ ((((-6):Int):Rat)/(((-4):Int):Rat)) 2 _ hh3 (RLim.up (rlim_mk2 (limz_64 (by decide) (by decide)) (limz_64 (by decide) (by decide))) 2 (by decide)) (by omega)) rfl rfl rfl rfl ?_
 rintro e w6 ⟨rfl,bb⟩
 refine⟨_,rfl,?_⟩
 intro a hF
 replace bel:=below_to bel bb
 clear bb
 refine E.opv hF (r_bin (hF.at 0 rfl) ev_c eg_str (sb_eq (xs:=cx ((((-6):Int):Rat)/(((-4):Int):Rat))) (ys:=[51,47,50]) live1)) rfl rfl rfl rfl fun a hF=>?_
 refine E.opv hF (r_move (hF.at 0 rfl)) rfl rfl rfl rfl fun a hF=>?_
 refine E.opvg hF (r_build (by simp) (bd_Rat_ _)) (wanted_by rfl rfl (hF.at 0 rfl) rfl) rfl rfl rfl fun a hF=>?_
 refine E.callg hF (r_call Tryz.func112 en112.1 en112.2 (map1 (hF.at 0 rfl))) (cText_any _ (0) 1 _ (Rq.zero _) (rlim_zero (by decide)) (by omega)) (wanted_by rfl rfl (hF.at 1 rfl) rfl) rfl rfl rfl ?_
 rintro e w7 ⟨rfl,bb⟩
 refine⟨_,rfl,?_⟩
 intro a hF
 replace bel:=below_to bel bb
 clear bb
 refine E.opvg hF (r_bin (hF.at 0 rfl) ev_c eg_str (sb_eq (xs:=cx (0)) (ys:=[48]) live2)) (wanted_by rfl rfl (hF.at 2 rfl) rfl) rfl rfl rfl fun a hF=>?_
 refine E.opv hF (r_pick_t (hF.at 3 rfl) (hF.at 0 rfl)) rfl rfl rfl rfl fun a hF=>?_
 refine E.opset (L':=[(0,.bool true),(8,.bool true),(7,.bool true),(6,.string (bstr (cx (0)))),(5,.agg #[.bool false,.slice none 0 0,.slice none 0 0]),(4,.bool true),(3,.bool true),(2,.string (bstr (cx ((((-6):Int):Rat)/(((-4):Int):Rat))))),(1,.agg #[.bool b4,.slice ad4 n4 c4,.slice ae4 m4 d4])]) hF (r_assign (hF.at 0 rfl)) rfl rfl rfl rfl fun a hF=>?_
 refine E.nil ?_
 refine wp_ret ?_
 refine bodyPost_ret (res_tmp Tryz.results49 (hF.at 0 rfl)) hF.dfr ?_
 exact⟨rfl,bel⟩
end
end
end Go.Proofs.YtnljadejcfgmaaaGreatDoor
