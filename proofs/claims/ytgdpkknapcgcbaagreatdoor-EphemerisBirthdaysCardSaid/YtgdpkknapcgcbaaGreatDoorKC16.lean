import Derived.Test.YtgdpkknapcgcbaaGreatDoorKC14
import Derived.Laws.BytesString
import Derived.Laws.StructEq
namespace Go.Proofs.YtgdpkknapcgcbaaGreatDoor
open Go.RowKit
set_option maxRecDepth 100000
set_option linter.unusedVariables false
set_option maxHeartbeats 8000000
section
section
structure fC (k:IntKind) (w w':World):Prop where
 size:w.heap.size<=w'.heap.size
 block:∀b off v,b<w.heap.size->w.cell? ⟨b,off,none⟩=some v->(∀z,v≠ .int k z)->w'.heap[b]?=w.heap[b]?
theorem fC.refl (k:IntKind) (w:World):fC k w w:=⟨Nat.le_refl _,fun _ _ _ _ _ _=>rfl⟩
theorem GY {w:World} {b off:Nat} {v:Value} (h:w.cell? ⟨b,off,none⟩=some v):b<w.heap.size:=by
 unfold World.cell? at h
 cases hq:w.heap[b]? with
 |none=>simp[hq] at h
 |some x=>exact(Array.getElem?_eq_some_iff.1 hq).1
theorem fC.cell {k:IntKind} {w w':World} (h:fC k w w') {b off:Nat} {v:Value} (hc:w.cell? ⟨b,off,none⟩=some v) (hv:∀z,v≠ .int k z):w'.cell? ⟨b,off,none⟩=some v:=by
 rw[<-hc]
 exact World.cell?_of_block (w:=w) (h.block b off v (GY hc) hc hv)
theorem fC.rd {k k':IntKind} {w w':World} (h:fC k w w') (hk:k'≠k) {ad:Option Addr} {xs:List Nat} (r:Rd w k' ad xs):Rd w' k' ad xs:=by
 refine⟨fun i hi=>?_⟩
 obtain⟨b,off,h1,h2,h3⟩:=r.cell i hi
 exact⟨b,off,h1,Nat.lt_of_lt_of_le h2 h.size,h.cell h3 (fun z e=>by injection e with e1 e2;exact hk e1)⟩
theorem fC.sq {k k':IntKind} {w w':World} (h:fC k w w') (hk:k'≠k) {v:Value} {xs:List Nat} (r:Sq w k' v xs):Sq w' k' v xs:=by
 obtain⟨ad,cap,h1,h2,h3⟩:=r
 exact⟨ad,cap,h1,h.rd hk h2,h3⟩
theorem fC.dg {k k':IntKind} {w w':World} (h:fC k w w') (hk:k'≠k) {b:Nat} {v:Value} {n:Nat} (r:Dg w k' b v n):Dg w' k' b v n:=h.sq hk r
theorem fC.trans {k:IntKind} {a b c:World} (h:fC k a b) (h2:fC k b c):fC k a c:=
 ⟨Nat.le_trans h.size h2.size,fun g off v hg hc hv=>by
  have:=h.cell hc hv
  rw[h2.block g off v (Nat.lt_of_lt_of_le hg h.size) this hv];exact h.block g off v hg hc hv⟩
def cH (w:World) (k:IntKind) (T base:Nat) (v:Value) (xs:List Nat):Prop:=
 (v= .slice none 0 0/\xs=[])\/
 ∃(g cap:Nat) (cs:List Value),v= .slice (some ⟨g,0,none⟩) xs.length cap/\base<=g/\w.heap[g]?=some (.cells cs.toArray T (0,0))/\xs.length<=cap/\cap<=maxLen/\cs.length=cap/\cs.take xs.length=cl k xs/\∀u∈cs,∃z,u= .int k z
theorem cH.nil (w:World) (k:IntKind) (T base:Nat):cH w k T base (.slice none 0 0) []:= .inl ⟨rfl,rfl⟩
theorem cH.below {w w':World} {k:IntKind} {T base:Nat} {v:Value} {xs:List Nat} (h:cH w k T base v xs) (hb:Below w.heap.size w w'):cH w' k T base v xs:=by
 rcases h with h|⟨g,cap,cs,h1,h2,h3,h4⟩
 ·exact .inl h
 ·exact .inr ⟨g,cap,cs,h1,h2,by rw[hb.block g (Array.getElem?_eq_some_iff.1 h3).1];exact h3,h4⟩
theorem cH.form {w:World} {k:IntKind} {T base:Nat} {v:Value} {xs:List Nat} (h:cH w k T base v xs):∃ad cap,v= .slice ad xs.length cap:=by
 rcases h with⟨rfl,rfl⟩|⟨g,cap,cs,h1,_⟩
 ·exact⟨none,0,rfl⟩
 ·exact⟨_,_,h1⟩
theorem cH.rebase {w:World} {k:IntKind} {T base base':Nat} {v:Value} {xs:List Nat} (h:cH w k T base v xs) (hb:base'<=base):cH w k T base' v xs:=by
 rcases h with h|⟨g,cap,cs,h1,h2,h3⟩
 ·exact .inl h
 ·exact .inr ⟨g,cap,cs,h1,Nat.le_trans hb h2,h3⟩
theorem cH.row {w:World} {k:IntKind} {T base:Nat} {ad:Option Addr} {n cap:Nat} {xs:List Nat} (h:cH w k T base (.slice ad n cap) xs) {i:Nat} (hi:i<xs.length):
 ∃g cs,ad=some ⟨g,0,none⟩/\Blk w g cs/\cs[i]?=some (.int k (lg xs i:Nat))/\base<=g:=by
 rcases h with⟨_,rfl⟩|⟨g,cap',cs,h1,h2,h3,h4,h5,h6,h7,h8⟩
 ·simp at hi
 ·injection h1 with e1 e2 e3
  refine⟨g,cs,e1,⟨T,h3⟩,?_,h2⟩
  have:=mw (k:=k) hi
  rw[<-h7,List.getElem?_take,if_pos hi] at this
  exact this
theorem cH.len {w:World} {k:IntKind} {T base:Nat} {ad:Option Addr} {n cap:Nat} {xs:List Nat} (h:cH w k T base (.slice ad n cap) xs):n=xs.length:=by
 rcases h with⟨h1,rfl⟩|⟨g,cap',cs,h1,_⟩
 ·injection h1
 ·injection h1
theorem cH.take {w:World} {k:IntKind} {T base:Nat} {ad:Option Addr} {n cap:Nat} {xs:List Nat} (h:cH w k T base (.slice ad n cap) xs) (m:Nat) (hm:m<=xs.length) (h0:0<xs.length):cH w k T base (.slice ad m cap) (xs.take m):=by
 rcases h with⟨_,rfl⟩|⟨g,cap',cs,h1,h2,h3,h4,h5,h6,h7,h8⟩
 ·simp at h0
 ·injection h1 with e1 e2 e3
  subst e1 e3
  have hl:(xs.take m).length =m:=by simp;omega
  refine .inr ⟨g,cap,cs,by rw[hl],h2,h3,by omega,h5,h6,?_,h8⟩
  rw[hl]
  have:cs.take m=(cs.take xs.length).take m:=by rw[List.take_take,Nat.min_eq_left hm]
  rw[this,h7];simp[cl,List.map_take]
theorem cH.store {P:Program} {w:World} {k:IntKind} {T base:Nat} {g n cap:Nat} {xs:List Nat} {T8:TypeId} (hs:(P.info? T8).map (·.size)=some 1) (h:cH w k T base (.slice (some ⟨g,0,none⟩) n cap) xs) {i:Nat} (d:Nat) (hi:i<xs.length):
 ∃w',(Instr.storeAt T8 (.pointer (some ⟨g,i,none⟩)) (.int k (d:Nat))).run P w= .ok () w'/\cH w' k T base (.slice (some ⟨g,0,none⟩) n cap) (xs.set i d)/\Below base w w'/\fC k w w':=by
 rcases h with⟨_,rfl⟩|⟨g',cap',cs,h1,h2,h3,h4,h5,h6,h7,h8⟩
 ·simp at hi
 ·injection h1 with e1 e2 e3
  injection e1 with e1
  injection e1 with e1
  subst e1 e3
  have hic:i<cs.length:=by omega
  have hws:cs.take i++[.int k (d:Nat)]++cs.drop (i+1)=cs.set i (.int k (d:Nat)):=by
   rw[List.set_eq_take_append_cons_drop,if_pos hic];simp
  have hst:=run_storeCells_at P g i T [.int k (d:Nat)] 0 cs.toArray w h3 (by simp;omega) (by intro u hu;simp at hu;subst hu;rfl)
  simp only [Nat.add_zero] at hst
  have hrun:(Instr.storeAt T8 (.pointer (some ⟨g,i,none⟩)) (.int k (d:Nat))).run P w= .ok () (w.setRow g (cs.set i (.int k (d:Nat))).toArray):=by
   cases hq:P.info? T8 with
   |none=>simp[hq] at hs
   |some j=>
    have hj:j.size=1:=by simp[hq] at hs;omega
    simp only [Instr.storeAt,Instr.sureAddr,Sem.run_bind,Sem.run_pure,Result.andThen_ok,storeVar,sizeOf,typeInfo,Value.cells]
    simp[hj,hq]
    rw[hst]
    simp only [List.length_cons,List.length_nil,Nat.zero_add]
    rw[<-hws]
  have hsize:(w.setRow g (cs.set i (.int k (d:Nat))).toArray).heap.size =w.heap.size:=by simp[World.setRow]
  have hoth:∀b,b≠g->(w.setRow g (cs.set i (.int k (d:Nat))).toArray).heap[b]?=w.heap[b]?:=by
   intro b hb
   simp only [World.setRow,Array.getElem?_modify]
   rw[if_neg (by omega)]
  refine⟨_,hrun,.inr ⟨g,cap,cs.set i (.int k (d:Nat)),by rw[List.length_set,e2],h2,setRow_heap w g _ _ T (0,0) h3,by simpa using h4,h5,by simpa using h6,?_,?_⟩,?_,?_⟩
  ·rw[List.length_set,List.take_set,h7,Ej]
  ·intro u hu
   rcases List.mem_or_eq_of_mem_set hu with hu|rfl
   ·exact h8 u hu
   ·exact⟨_,rfl⟩
  ·exact⟨rfl,rfl,rfl,by rw[hsize];exact Nat.le_refl _,fun b hbb=>hoth b (by omega)⟩
  ·refine⟨by rw[hsize];exact Nat.le_refl _,fun b off v hbl hc hv=>hoth b ?_⟩
   rintro rfl
   rw[cell_of_row w b off _ _ _ h3,List.getElem?_toArray] at hc
   obtain⟨z,rfl⟩:=h8 v (List.mem_of_getElem? hc)
   exact hv z rfl
theorem P3 {k:IntKind} {xs:List Nat}:∀u∈cl k xs,∃z,u= .int k z:=by
 intro u hu
 simp[cl] at hu
 obtain⟨n,_,rfl⟩:=hu
 exact⟨_,rfl⟩
theorem Ia {k:IntKind} (n:Nat):∀u∈(Builtin.zeroCells #[Value.int k 0] n).toList,∃z,u= .int k z:=by
 intro u hu
 rw[Array.mem_toList_iff] at hu
 unfold Builtin.zeroCells at hu
 obtain⟨a,_,rfl⟩:=Array.mem_map.1 hu
 have e:a%(#[Value.int k 0]:Array Value).size =0:=Nat.mod_one a
 exact⟨0,by rw[e];rfl⟩
theorem cH.app {P:Program} {w:World} {k:IntKind} {t T ty:TypeId} {bytes base:Nat} (ht:P.underlying t=some (.slice T)) (hq:∃i,P.info? T=some i/\i.zero=some (.int k 0)/\i.size=1/\i.bytes=bytes) (hbb:bytes<=8)
 {v:Value} {xs:List Nat} (h:cH w k T base v xs) {gs:Nat} {d:Nat} (hsrc:Blk w gs [.int k (d:Nat)]) (hl:xs.length<=1099511627776) (hbase:base<=w.heap.size):
 ∃ad n cap w',(Builtin.append_ #[t,t] ty #[v,.slice (some ⟨gs,0,none⟩) 1 1]).run P w= .ok (.slice ad n cap) w'/\cH w' k T base (.slice ad n cap) (xs++[d])/\Below base w w'/\fC k w w':=by
 obtain⟨i,hi,hz,hs,hby⟩:=hq
 obtain⟨Ts,hsr⟩:=hsrc
 have hnews:∀j u,([.int k (d:Nat)]:List Value)[j]?=some u->w.cell? ((⟨gs,0,none⟩:Addr).add j)=some u:=by
  intro j u hj
  match j,hj with
  |0,hj=>rw[Addr.add_zero',cell_of_row w gs 0 _ _ _ hsr];exact hj
 have h1:∀u∈([.int k (d:Nat)]:List Value),u.oneCell'=true:=by intro u hu;simp at hu;subst hu;rfl
 have hll:([.int k (d:Nat)]:List Value).length =1*i.size:=by rw[hs];rfl
 -- a new row
 have fresh:∀(ys:List Value) (cap:Nat),ys=cl k xs->xs.length+1<=cap->cap<=maxLen->
  cH (w.drew.alloc (.cells (ys.toArray++([.int k (d:Nat)]:List Value).toArray ++Builtin.zeroCells (Value.int k 0).cells (cap-(xs.length+1))) T)) k T base (.slice (some ⟨w.heap.size,0,none⟩) (xs.length+1) cap) (xs++[d])/\
  Below base w (w.drew.alloc (.cells (ys.toArray++([.int k (d:Nat)]:List Value).toArray ++Builtin.zeroCells (Value.int k 0).cells (cap-(xs.length+1))) T))/\
  fC k w (w.drew.alloc (.cells (ys.toArray++([.int k (d:Nat)]:List Value).toArray ++Builtin.zeroCells (Value.int k 0).cells (cap-(xs.length+1))) T)):=by
  intro ys cap hy hc hm
  subst hy
  have hlen:(xs++[d]).length =xs.length+1:=by simp
  refine⟨.inr ⟨w.heap.size,cap,cl k (xs++[d])++(Builtin.zeroCells #[Value.int k 0] (cap-(xs.length+1))).toList,by rw[hlen],hbase,?_,by rw[hlen];exact hc,hm,?_,?_,?_⟩,?_,?_⟩
  ·refine(heap_alloc_new w.drew _).trans ?_
   simp[vV,Value.cells]
  ·have hz':(Builtin.zeroCells #[Value.int k 0] (cap-(xs.length+1))).toList.length =cap-(xs.length+1):=by rw[Array.length_toList,size_zeroCells];simp
   rw[List.length_append,cQ,hlen,hz']
   omega
  ·rw[hlen,List.take_left' (by rw[cQ,hlen])]
  ·intro u hu
   rcases List.mem_append.1 hu with hu|hu
   ·exact P3 u hu
   ·exact Ia _ u hu
  ·exact⟨rfl,rfl,rfl,by simp,fun b hb=>heap_alloc_old w.drew _ (Nat.lt_of_lt_of_le hb hbase)⟩
  ·exact⟨by simp,fun b off v hb _ _=>heap_alloc_old w.drew _ hb⟩
 rcases h with⟨rfl,rfl⟩|⟨g,cap,cs,rfl,h2,h3,h4,h5,h6,h7,h8⟩
 ·have hr:=run_append_nil (P:=P) w t ty T i (.int k 0) ht hi hz ⟨gs,0,none⟩ 1 1 [.int k (d:Nat)] hll hnews (by decide) (by decide) (by rw[hby];omega)
  have hge:=grownCap_ge w 1 0 T
  have hle:=grownCap_le_maxLen w 1 0 T (by unfold maxLen;omega)
  have hf:=fresh [] (grownCap w 1 0 T) rfl (by simpa using hge) hle
  simp only [List.length_nil,Nat.zero_add] at hf
  refine⟨_,_,_,_,hr,?_⟩
  simpa using hf
 ·by_cases hroom:xs.length+1<=cap
  ·have hfit:xs.length*i.size+([.int k (d:Nat)]:List Value).length <=cs.toArray.size:=by rw[hs];simp;omega
   have hr:=run_append_room (P:=P) w t ty T i ht hi g xs.length cap cs.toArray h3 ⟨gs,0,none⟩ 1 1 [.int k (d:Nat)] hll hnews h1 hroom hfit
   have hws:cs.take xs.length++[.int k (d:Nat)]++cs.drop (xs.length+1)=cs.set xs.length (.int k (d:Nat)):=by
    rw[List.set_eq_take_append_cons_drop,if_pos (by omega)];simp
   have e:(cs.toArray.toList.take (xs.length*i.size)++[.int k (d:Nat)]++cs.toArray.toList.drop (xs.length*i.size+([.int k (d:Nat)]:List Value).length))=cs.set xs.length (.int k (d:Nat)):=by
    rw[hs];simpa using hws
   rw[e] at hr
   have hlen:(xs++[d]).length =xs.length+1:=by simp
   have hsize:(w.setRow g (cs.set xs.length (.int k (d:Nat))).toArray).heap.size =w.heap.size:=by simp[World.setRow]
   have hoth:∀b,b≠g->(w.setRow g (cs.set xs.length (.int k (d:Nat))).toArray).heap[b]?=w.heap[b]?:=by
    intro b hb
    simp only [World.setRow,Array.getElem?_modify]
    rw[if_neg (by omega)]
   refine⟨_,_,_,_,hr,.inr ⟨g,cap,cs.set xs.length (.int k (d:Nat)),by rw[hlen],h2,setRow_heap w g _ _ T (0,0) h3,by rw[hlen];exact hroom,h5,by simpa using h6,?_,?_⟩,?_,?_⟩
   ·rw[hlen,vV,<-h7]
    rw[List.take_set,List.take_add_one,List.set_append_right _ _ (by simp;omega)]
    simp[show xs.length<cs.length by omega,Nat.min_eq_left (show xs.length<=cs.length by omega)]
   ·intro u hu
    rcases List.mem_or_eq_of_mem_set hu with hu|rfl
    ·exact h8 u hu
    ·exact⟨_,rfl⟩
   ·exact⟨rfl,rfl,rfl,by rw[hsize];exact Nat.le_refl _,fun b hbb=>hoth b (by omega)⟩
   ·refine⟨by rw[hsize];exact Nat.le_refl _,fun b off v hbl hc hv=>hoth b ?_⟩
    rintro rfl
    rw[cell_of_row w b off _ _ _ h3,List.getElem?_toArray] at hc
    obtain⟨z,rfl⟩:=h8 v (List.mem_of_getElem? hc)
    exact hv z rfl
  ·have holds:∀j u,(cl k xs)[j]?=some u->w.cell? ((⟨g,0,none⟩:Addr).add j)=some u:=by
    intro j u hj
    have hjl:j<xs.length:=by
     have:=(List.getElem?_eq_some_iff.1 hj).1
     rwa[cQ] at this
    rw[Addr.add_mid,Nat.zero_add,cell_of_row w g j _ _ _ h3,List.getElem?_toArray]
    rw[<-h7,List.getElem?_take,if_pos hjl] at hj
    exact hj
   have hr:=run_append_grow (P:=P) w t ty T i (.int k 0) ht hi hz ⟨g,0,none⟩ xs.length cap (cl k xs) (by rw[cQ,hs,Nat.mul_one]) holds ⟨gs,0,none⟩ 1 1 [.int k (d:Nat)] hll hnews (by omega) (by omega)
    (growslice_fits (by omega) (by rw[hby];have:=Nat.mul_le_mul_left (xs.length+1) hbb;omega))
   have hge:=grownCap_ge w (xs.length+1) cap T
   have hle:=grownCap_le_maxLen w (xs.length+1) cap T (by unfold maxLen;omega)
   exact⟨_,_,_,_,hr,fresh (cl k xs) _ rfl hge hle⟩
end
section
def eZ (xs:List Nat):ByteArray:=⟨(xs.map UInt8.ofNat).toArray⟩
theorem xo (xs:List Nat):(eZ xs).size =xs.length:=by simp[eZ,ByteArray.size]
theorem A8 (xs ys:List Nat):eZ xs++eZ ys=eZ (xs++ys):=by
 apply ByteArray.ext
 simp[eZ,ByteArray.data_append]
theorem A5 (xs:List Nat):(eZ xs).toList =xs.map UInt8.ofNat:=by
 rw[ByteArray.toList_eq];simp[eZ]
theorem uV:∀(xs:List Nat) (s:ByteArray),(xs.map fun n=>((n:Nat):Int)).foldl (fun r n=>r.push (UInt8.ofNat n.toNat)) s=s++eZ xs
 |[],s=>by apply ByteArray.ext;simp[eZ,ByteArray.data_append]
 |x::xs,s=>by
  simp only [List.map_cons,List.foldl_cons]
  rw[uV xs]
  apply ByteArray.ext
  simp[eZ,ByteArray.data_append,ByteArray.data_push]
section
variable {P:Program} {w:World}
theorem SC {a:Int} (h0:0<=a) (h1:a<=255):IntKind.u8.wrap a=a:=IntWalk.u8_in _ ⟨h0,h1⟩
theorem KI {a:Int} (h0:0<=a) (h1:a<=4294967295):IntKind.u32.wrap a=a:=IntWalk.u32_in _ ⟨h0,h1⟩
theorem Rb {a:Int} (h0:0<=a) (h1:a<=18446744073709551615):IntKind.u64.wrap a=a:=IntWalk.u64_in _ ⟨h0,h1⟩
theorem Om {t:TypeId} {k:IntKind} {a b:Int} (h:k.wrap (a+b)=a+b):(binOp .add t (.int k a) (.int k b)).run P w= .ok (.int k (a+b)) w:=by
 simp only [binOp,Op.intArith,ne_eq,not_true_eq_false,if_false];rw[h];rfl
theorem Ok {t:TypeId} {k:IntKind} {a b:Int} (hb:0<b) (ha:0<=a) (h:k.wrap (a/b)=a/b):(binOp .quo t (.int k a) (.int k b)).run P w= .ok (.int k (a/b)) w:=by
 have hne:b≠0:=by omega
 simp only [binOp,Op.intDiv,ne_eq,not_true_eq_false,if_false,if_neg hne]
 rw[Int.tdiv_eq_ediv_of_nonneg ha,h];rfl
theorem Of {t:TypeId} {k:IntKind} {a b:Int} (hb:0<b) (ha:0<=a):(binOp .rem t (.int k a) (.int k b)).run P w= .ok (.int k (a%b)) w:=by
 have hne:b≠0:=by omega
 simp only [binOp,Op.intDiv,ne_eq,not_true_eq_false,if_false,if_neg hne]
 rw[Int.tmod_eq_emod_of_nonneg ha];rfl
theorem CF {s t:TypeId} {k k0 k':IntKind} {a:Int} (hs:P.underlying s=some (.int k0)) (ht:P.underlying t=some (.int k')) (h:k'.wrap a=a):(convert s t (.int k a)).run P w= .ok (.int k' a) w:=by
 unfold convert
 simp only [Sem.run_bind,run_underlying hs,run_underlying ht,Result.andThen_ok]
 show(Conv.intToInt k' a).run P w=_
 unfold Conv.intToInt
 rw[h]
 rfl
theorem KP {t:TypeId} {xs ys:List Nat} {c:Bool} (h:(xs.map UInt8.ofNat == ys.map UInt8.ofNat)=c):(binOp .eql t (.string (eZ xs)) (.string (eZ ys))).run P w= .ok (.bool c) w:=by
 subst h
 simp only [binOp,Op.stringOp,A5];rfl
theorem FI {t:TypeId} {xs ys:List Nat} (h:xs.length+ys.length<=9223372036854775807):(binOp .add t (.string (eZ xs)) (.string (eZ ys))).run P w= .ok (.string (eZ (xs++ys))) w:=by
 have h':¬(((eZ xs).size +(eZ ys).size :Nat):Int)>IntKind.i64.max:=by
  rw[xo,xo];simp[IntKind.max,IntKind.bits,IntKind.signed];omega
 simp only [binOp,Op.stringOp,if_neg h',A8]
 rfl
theorem uC {op:BinOp} {t:TypeId} {x y:Operand} {a b:ByteArray}:(eqGuard op t x y (.string a) (.string b)).run P w= .ok () w:=by
 unfold eqGuard;split <;> rfl
theorem cH.sqb {k:IntKind} {T base:Nat} {v:Value} {xs:List Nat} (h:cH w k T base v xs):∃ad cap,v= .slice ad xs.length cap/\Rd w k ad xs/\(ad=none->xs=[]):=by
 rcases h with⟨rfl,rfl⟩|⟨g,cap,cs,h1,h2,h3,h4,h5,h6,h7,h8⟩
 ·exact⟨none,0,rfl,Rd.nil _ _ _,fun _=>rfl⟩
 ·refine⟨_,_,h1,⟨fun i hi=>⟨g,0,rfl,(Array.getElem?_eq_some_iff.1 h3).1,?_⟩⟩,fun h=>by cases h⟩
  rw[Nat.zero_add,cell_of_row w g i _ _ _ h3,List.getElem?_toArray]
  have:=mw (k:=k) hi
  rw[<-h7,List.getElem?_take,if_pos hi] at this
  exact this
theorem MW {a:Act} {dst:Option Tmp} {ty:TypeId} {pos:String} {af:Array Edge} {gd:Option (Nat×Bool)} {t:TypeId} {x hi:Operand} {p q v:Value} (h:a.eval x=p) (h2:a.eval hi=q) (hl:(Instr.sliceAt t p none (some q) none).run P w= .ok v w):
 (execOp a.eval ⟨dst,.slice t x none (some hi) none,ty,pos,af,gd⟩).run P w= .ok (.value v) w:=by
 simp only [execOp,h,h2,Option.map]
 exact jy hl
end
theorem xN:(Tryz.prog.info? 5).map (·.size)=some 1:=by kernel_rfl
theorem bs8 (w:World) (z:Int) {d:Nat} (hz:z=((d:Nat):Int)):∃g w',(Instr.buildSlice 223 1 #[(0,.int .u8 z)]).run Tryz.prog w= .ok (.slice (some ⟨g,0,none⟩) 1 1) w'/\Below w.heap.size w w'/\Blk w' g [.int .u8 ((d:Nat):Int)]:=by
 subst hz
 have hb:=ec (w:=w) (cs:=[.int .u8 ((d:Nat):Int)]) 5
 refine⟨w.heap.size,w.alloc (.cells #[.int .u8 ((d:Nat):Int)] 5),?_,hb.2,hb.1⟩
 have hs:=bh (P:=Tryz.prog) (T:=5) (n:=1) xN w
 simp[Instr.buildSlice,go_sem,hs,Instr.fill,Value.cells,newRow]
theorem Nj:∃i,Tryz.prog.info? 5=some i/\i.zero=some (.int .u8 0)/\i.size=1/\i.bytes=1:=by
 have h1:=xN
 have h2:(Tryz.prog.info? 5).bind (·.zero)=some (.int .u8 0):=by kernel_rfl
 have h3:(Tryz.prog.info? 5).map (·.bytes)=some 1:=by kernel_rfl
 cases hq:Tryz.prog.info? 5 with
 |none=>rw[hq] at h1;cases h1
 |some i=>exact⟨i,rfl,by simpa[hq] using h2,by simpa[hq] using h1,by simpa[hq] using h3⟩
theorem Ox {w:World} {base:Nat} {v:Value} {xs:List Nat} (h:cH w .u8 5 base v xs) {gs d:Nat} (hs:Blk w gs [.int .u8 ((d:Nat):Int)]) (hl:xs.length<=1099511627776) (bel:base<=w.heap.size) {ty:TypeId}:
 ∃ad n cap w',(builtin .append #[223,223] ty #[false,false] #[v,.slice (some ⟨gs,0,none⟩) 1 1]).run Tryz.prog w= .ok (.value (.slice ad n cap)) w'/\cH w' .u8 5 base (.slice ad n cap) (xs++[d])/\Below base w w'/\fC .u8 w w':=by
 obtain⟨ad,n,cap,w',h1,h2⟩:=cH.app (ty:=ty) Tryz.underlying223 Nj (by decide) h hs hl bel
 refine⟨ad,n,cap,w',?_,h2⟩
 show(do pure (.value (<-Builtin.append_ #[223,223] ty #[v,.slice (some ⟨gs,0,none⟩) 1 1])):Sem Next).run Tryz.prog w=_
 rw[Sem.run_bind,h1];rfl
theorem ix8 {w:World} {g n c:Nat} {i:Int} (h0:0<=i) (h1:i<n):(Instr.indexAt 223 (.slice (some ⟨g,0,none⟩) n c) (iv i)).run Tryz.prog w= .ok (.pointer (some ⟨g,i.toNat,none⟩)) w:=by
 simp[Instr.indexAt,asIntOf,run_underlying Tryz.underlying223,Sem.run_bind,h0,h1,Addr.add_mid]
theorem zf {w:World} {g o:Nat} {cs:List Value} {v:Value} (h:Blk w g cs) (hv:cs[o]?=some v):(Instr.loadAt 5 (.pointer (some ⟨g,o,none⟩))).run Tryz.prog w= .ok v w:=nl h hv Tryz.underlying5 rfl
theorem uK {w:World} {t:TypeId} {ad:Option Addr} {n c:Nat}:(builtin .len #[223] t #[false] #[.slice ad n c]).run Tryz.prog w= .ok (.value (iv n)) w:=by
 simp[Builtin.len_,go_sem]
theorem sl8 {w:World} {ad:Option Addr} {n c m:Nat} {z:Int} (hz:z=((m:Nat):Int)) (hm:m<=c):(Instr.sliceAt 223 (.slice ad n c) none (some (iv z)) none).run Tryz.prog w= .ok (.slice ad m c) w:=by
 subst hz
 have h1:¬((c:Int)<(m:Int)):=by omega
 cases ad <;> simp[Instr.sliceAt,Instr.slice,Instr.sliceBounds,Instr.sliceBound,asIntOf,run_underlying Tryz.underlying223,Sem.run_bind,hm,go_sem]
theorem FC {w:World} {v:Value} {xs:List Nat} (h:∃ad cap,v= .slice ad xs.length cap/\Rd w .u8 ad xs/\(ad=none->xs=[])):(convert 223 9 v).run Tryz.prog w= .ok (.string (eZ xs)) w:=by
 obtain⟨ad,cap,rfl,hr,hn⟩:=h
 rw[run_convert_bytes_string w _ _ _ ad _ _ Tryz.underlying223 Tryz.underlying5 Tryz.underlying9]
 cases ad with
 |none=>
  rw[hn rfl]
  rfl
 |some a=>
  have hl:(loadCells a xs.length).run Tryz.prog w= .ok ((xs.map fun n=>((n:Nat):Int)).map (Value.int .u8)).toArray w:=by
   have:=run_loadCells_list (P:=Tryz.prog) (w:=w) a (cl .u8 xs) (fun j v hj=>by
    have hjl:j<xs.length:=by
     have:=(List.getElem?_eq_some_iff.1 hj).1
     rwa[cQ] at this
    rw[mw hjl] at hj
    obtain⟨b,off,ha,_,hc⟩:=hr.cell j hjl
    injection ha with ha
    subst ha
    rw[Addr.add_mid,hc]
    exact hj)
   rw[cQ] at this
   rw[this]
   simp[cl]
  rw[run_bytesToString w a xs.length cap _ hl,uV]
  rfl
end
section
def asc (ds:List Nat):List Nat:=ds.map (48+ ·)
theorem kQ (ds:List Nat):(asc ds).length =ds.length:=by simp[asc]
theorem Ix (ds:List Nat) (d:Nat):asc (ds++[d])=asc ds++[48+d]:=by simp[asc]
theorem JD (ds:List Nat) (k:Nat):asc (ds.take k)=(asc ds).take k:=by simp[asc,List.map_take]
theorem OQ {ds:List Nat} {i:Nat} (h:i<ds.length):lg (asc ds) i=48+lg ds i:=by
 rw[jY (by rw[kQ];exact h),jY h];simp[asc]
theorem IY:dl 2 0=0:=by unfold dl;rw[gf];rfl
theorem Is {X:Nat} (h:0<X):(0:Int)<((dl 2 X:Nat):Int):=by have:=eU (by decide:2<=2) h;omega
theorem LW {X:Nat} (h:¬0<X):¬(0:Int)<((dl 2 X:Nat):Int):=by rw[show X=0 by omega,IY];decide
theorem Ba {N L Q r X:Nat} {ds:List Nat} (h:vl 10 ds+10^ds.length*X=N) (hX:X=r+1000000000*Q):vl 10 ds+10^ds.length*(r+10^(9-0)*Q)=N:=by
 rw[<-h,hX]
theorem GR {N r Q j:Nat} {ds:List Nat} (hj:j<9) (h:vl 10 ds+10^ds.length*(r+10^(9-j)*Q)=N):vl 10 (ds++[r%10])+10^(ds++[r%10]).length *(r/10+10^(9-(j+1))*Q)=N:=by
 rw[jN,<-h,List.length_append,List.length_singleton,Nat.pow_succ,show 9-j=(9-(j+1))+1 by omega,Nat.pow_succ]
 have e:=Nat.div_add_mod r 10
 generalize 10^ds.length=T
 generalize 10^(9-(j+1))=S
 have e1:T*10*(r/10+S*Q)=T*(10*(r/10))+T*(S*10*Q):=by grind
 have e2:T*(r+S*10*Q)=T*r+T*(S*10*Q):=by grind
 have e3:T*r=T*(10*(r/10))+T*(r%10):=by rw[<-Nat.mul_add,e]
 have e4:r%10*T=T*(r%10):=Nat.mul_comm _ _
 omega
theorem FJ {r j:Nat} (hj:j<9) (h:r<10^(9-j)):r/10<10^(9-(j+1)):=by
 rw[show 9-j=(9-(j+1))+1 by omega,Nat.pow_succ] at h
 omega
theorem DX {N M X:Nat} {ds:List Nat} (hN:N<2^M) (h:vl 10 ds+10^ds.length*X=N) (hX:0<X):ds.length<M:=by
 have h1:10^ds.length*1<=10^ds.length*X:=Nat.mul_le_mul_left _ hX
 have h2:10^ds.length<2^M:=by omega
 have h3:2^ds.length<=10^ds.length:=Nat.pow_le_pow_left (by decide) _
 exact(Nat.pow_lt_pow_iff_right (by decide:1<2)).1 (by omega)
theorem DR {N r Q:Nat} {ds:List Nat} (h:vl 10 ds+10^ds.length*(r+10^(9-9)*Q)=N) (hr:r<10^(9-9)):vl 10 ds+10^ds.length*Q=N:=by
 have:r=0:=by simp at hr;exact hr
 subst this
 simpa using h
theorem NN {ds:List Nat} (h:0<ds.length) (h0:lg ds (ds.length-1)=0):vl 10 (ds.take (ds.length-1))=vl 10 ds:=by
 have:=bI 10 ds (ds.length-1)
 rw[h0,show ds.length-1+1=ds.length by omega,cd (Nat.le_refl _)] at this
 omega
theorem cH.cap {w:World} {k:IntKind} {T base:Nat} {ad:Option Addr} {n cap:Nat} {xs:List Nat} (h:cH w k T base (.slice ad n cap) xs):n<=cap:=by
 rcases h with⟨h1,rfl⟩|⟨g,cap',cs,h1,h2,h3,h4,_⟩
 ·injection h1 with e1 e2 e3;omega
 ·injection h1 with e1 e2 e3;omega
theorem NK (v1:Value) (N:Nat) (w:World) (h1:Dg w .u32 B32 v1 N):CP 264 #[v1,.int .u32 1000000000] w (fun e w'=>∃v,e= .returned (.tuple #[v,.int .u32 ((N%1000000000:Nat):Int)])/\Dg w' .u32 B32 v (N/1000000000)/\Below w.heap.size w w'):=by
 refine(Ek v1 N 1000000000 w h1.nt (by decide)).mono ?_
 rintro e w' ⟨v,rfl,h,hb⟩
 exact⟨v,rfl,h,hb⟩
def NA (w:World) (N:Nat):Ending->World->Prop:=fun e w'=>∃v,e= .returned v/\cH w' .u8 5 w.heap.size v (asc (dg 10 N))/\Below w.heap.size w w'
end
section
theorem CY (v1:Value) (N M:Nat) (w:World) (h1:Dg w .u32 B32 v1 N) (hN:N<2^M) (hM:M<=1000000000):
 CP 224 #[v1] w (NA w N):=by
 obtain⟨a1,n1,c1,rfl⟩:=h1.form
 have bel:Below w.heap.size w w:=Below.refl _ _
 refine go1 (nt:=43) Tryz.func224 rfl rfl rfl fun a hF=>wq ?_
 refine oC hF rfl fun a hF=>nq ?_
 refine oC hF rfl fun a hF=>ns<|wp_block ?_
 refine E.loop (fun mq a wv=>∃(sa:Option Addr) (sn:Nat) (sc:Nat) (X:Nat) (la:Option Addr) (ln:Nat) (lc:Nat) (ds:List Nat),vl 10 ds+10^ds.length*X=N/\okb 10 ds/\ds.length<=M+9/\Fr 43 a [(3,.slice la ln lc),(2,.slice none 0 0),(0,.slice sa sn sc)]/\Below w.heap.size w wv/\Dg wv .u32 B32 (.slice sa sn sc) X/\cH wv .u8 5 w.heap.size (.slice la ln lc) (asc ds)/\mq=X) (N) ?_ ?_
 ·exact⟨a1,n1,c1,N,none,0,0,[],(by simp[vl]),(mn _),(Nat.zero_le _),Fr.sub (L':=[(3,.slice none 0 0),(2,.slice none 0 0),(0,.slice a1 n1 c1)]) hF (by intro p hp;simp only [List.mem_cons,List.not_mem_nil,or_false] at hp ⊢;rcases hp with rfl|rfl|rfl <;> simp),bel,h1,(cH.nil _ _ _ _),rfl⟩
 ·rintro mq a w1 ⟨sa,sn,sc,X,la,ln,lc,ds,hq,hok,hln,hF,bel,hx,ha,hm⟩
  by_cases hX:0<X
  ·refine wp_seq<|wq<|oM hF 2 rfl rfl fun a hF=>?_
   refine E.call hF (rk NC (aG hF.o)) (jB _ X _ (Dg.nt hx)) rfl rfl rfl rfl ?_
   rintro e w2 ⟨rfl,hw⟩
   have bb:Below w1.heap.size w1 w2:=by rw[hw];exact Below.refl _ _
   clear hw
   refine⟨_,rfl,?_⟩
   intro a hF
   replace ha:=ha.below bb
   replace hx:=hx.below bb
   replace bel:=aF bel bb
   clear bb
   refine oT hF 0 (bT (c:=true) (aI (Is hX))) rfl rfl fun a hF=>E.nil<|wp_cond_true hF.o<|wp_skip<|E.norm<|wp_block<|wq ?_
   refine oC hF rfl fun a hF=>nq<|oM hF 6 rfl rfl fun a hF=>?_
   refine E.call hF (rk QR (aL hF.o ao)) (NK _ X _ hx) rfl rfl rfl rfl ?_
   rintro e w3 ⟨vv4,rfl,hh5,bb⟩
   refine⟨_,rfl,?_⟩
   intro a hF
   replace ha:=ha.below bb
   replace hx:=hx.below bb
   replace bel:=aF bel bb
   clear bb
   obtain⟨ad6,n6,c6,rfl⟩:=Dg.form hh5
   refine oM hF 0 rfl rfl fun a hF=>oV hF (aH (v:= .slice ad6 n6 c6) hF.o rfl) rfl fun a hF=>oV hF (aH (v:= .int .u32 ((X%1000000000:Nat):Int)) hF.p rfl) rfl fun a hF=>?_
   refine E.opset (L':=[(0,.slice ad6 n6 c6),(12,.int .u32 ((X%1000000000:Nat):Int)),(11,.slice ad6 n6 c6),(8,.tuple #[.slice ad6 n6 c6,.int .u32 ((X%1000000000:Nat):Int)]),(10,.tuple #[.slice ad6 n6 c6,.int .u32 ((X%1000000000:Nat):Int)]),(9,.slice sa sn sc),(4,.int .u32 0),(7,.bool true),(6,iv (dl 2 (X):Nat)),(5,.slice sa sn sc),(3,.slice la ln lc),(2,.slice none 0 0)]) hF (aZ hF.p) rfl rfl rfl rfl fun a hF=>?_
   refine E.opset (L':=[(4,.int .u32 ((X%1000000000:Nat):Int)),(0,.slice ad6 n6 c6),(12,.int .u32 ((X%1000000000:Nat):Int)),(11,.slice ad6 n6 c6),(8,.tuple #[.slice ad6 n6 c6,.int .u32 ((X%1000000000:Nat):Int)]),(10,.tuple #[.slice ad6 n6 c6,.int .u32 ((X%1000000000:Nat):Int)]),(9,.slice sa sn sc),(7,.bool true),(6,iv (dl 2 (X):Nat)),(5,.slice sa sn sc),(3,.slice la ln lc),(2,.slice none 0 0)]) hF (aZ hF.p) rfl rfl rfl rfl fun a hF=>?_
   refine nq<|oV hF (aD ao) rfl fun a hF=>E.nil<|wp_block ?_
   refine E.loop (fun mq a wv=>∃(j:Nat) (r:Nat) (lb:Option Addr) (lm:Nat) (lk:Nat) (es:List Nat),j<=9/\vl 10 es+10^es.length*(r+10^(9-j)*(X/1000000000))=N/\r<10^(9-j)/\okb 10 es/\es.length=ds.length+j/\r<=999999999/\ds.length<M/\Fr 43 a [(13,iv ((j:Nat):Int)),(4,.int .u32 ((r:Nat):Int)),(0,.slice ad6 n6 c6),(3,.slice lb lm lk),(2,.slice none 0 0)]/\Below w.heap.size w wv/\Dg wv .u32 B32 (.slice ad6 n6 c6) ((X/1000000000))/\cH wv .u8 5 w.heap.size (.slice lb lm lk) (asc es)/\mq=9-j) (9-0) ?_ ?_
   ·exact⟨0,(X%1000000000),la,ln,lc,ds,(by omega),(Ba (L:=0) hq (by omega)),(by omega),hok,(by omega),(by omega),(DX hN hq hX),Fr.sub (L':=[(13,iv ((0:Nat):Int)),(4,.int .u32 ((X%1000000000:Nat):Int)),(0,.slice ad6 n6 c6),(3,.slice la ln lc),(2,.slice none 0 0)]) hF (by intro p hp;simp only [List.mem_cons,List.not_mem_nil,or_false] at hp ⊢;rcases hp with rfl|rfl|rfl|rfl|rfl <;> simp),bel,hh5,ha,rfl⟩
   ·rintro mq a w7 ⟨j,r,lb,lm,lk,es,hj,hq2,hr2,hok2,hl2,hrb,hdm,hF,bel,hh5,hb,hm⟩
    by_cases hj9:j<9
    ·refine wp_seq<|E.seq ?_
     refine oT hF 0 (aY (c:=true) (aI (by omega))) rfl rfl fun a hF=>ns<|wp_cond_true hF.o<|wp_skip<|E.norm<|wp_seq<|wp_block<|wq<|oM hF 4 rfl rfl fun a hF=>oM hF 3 rfl rfl fun a hF=>oV hF (aq hF.o ao aa (Of (a:=((r:Nat):Int)) (b:=10) (by omega) (by omega))) rfl fun a hF=>oV hF (aq ao hF.o aa (Om (a:=48) (b:=((r:Nat):Int)%10) (KI (by omega) (by omega)))) rfl fun a hF=>oV hF (go hF.o (CF (k':= .u8) Tryz.underlying167 Tryz.underlying5 (SC (by omega) (by omega)))) rfl fun a hF=>?_
     obtain⟨gl8,w9,hr,bb,ogl8⟩:=bs8 w7 (48+(((r:Nat):Int)%10)) (d:=48+r%10) (by omega)
     refine oV hF (bO (eQ hF.o) hr) rfl fun a hF=>?_
     clear hr
     replace hb:=hb.below bb
     replace hh5:=hh5.below bb
     replace bel:=aF bel bb
     clear bb
     obtain⟨la10,ln11,lc12,w13,hr,ha14,bb,gr⟩:=Ox hb ogl8 (by rw[kQ];omega) bel.size
     refine oV hF (aW (aL (hF.at 5 rfl) hF.o) hr) rfl fun a hF=>?_
     clear hr
     replace hh5:=gr.dg (by decide) hh5
     replace bel:=bel.trans bb
     clear bb gr
     refine E.opset (L':=[(3,.slice la10 ln11 lc12),(21,.slice la10 ln11 lc12),(20,.slice (some ⟨gl8,0,none⟩) 1 1),(19,.int .u8 (48+(((r:Nat):Int)%10))),(18,.int .u32 (48+(((r:Nat):Int)%10))),(17,.int .u32 (((r:Nat):Int)%10)),(16,.int .u32 ((r:Nat):Int)),(15,.slice lb lm lk),(14,.bool true),(13,iv ((j:Nat):Int)),(4,.int .u32 ((r:Nat):Int)),(0,.slice ad6 n6 c6),(2,.slice none 0 0)]) hF (aZ hF.o) rfl rfl rfl rfl fun a hF=>?_
     refine E.nil<|E.seq<|oM hF 10 rfl rfl fun a hF=>oV hF (aq hF.o ao aa (Ok (a:=((r:Nat):Int)) (b:=10) (by omega) (by omega) (KI (by omega) (by omega)))) rfl fun a hF=>?_
     refine E.opset (L':=[(4,.int .u32 (((r:Nat):Int)/10)),(23,.int .u32 (((r:Nat):Int)/10)),(22,.int .u32 ((r:Nat):Int)),(3,.slice la10 ln11 lc12),(21,.slice la10 ln11 lc12),(20,.slice (some ⟨gl8,0,none⟩) 1 1),(19,.int .u8 (48+(((r:Nat):Int)%10))),(18,.int .u32 (48+(((r:Nat):Int)%10))),(17,.int .u32 (((r:Nat):Int)%10)),(16,.int .u32 ((r:Nat):Int)),(15,.slice lb lm lk),(14,.bool true),(13,iv ((j:Nat):Int)),(0,.slice ad6 n6 c6),(2,.slice none 0 0)]) hF (aZ hF.o) rfl rfl rfl rfl fun a hF=>?_
     refine E.nil0<|E.blk<|E.norm<|E.seq<|oV hF (aq (hF.at 12 rfl) ao aa (aX (by omega) (by omega))) rfl fun a hF=>?_
     refine E.opset (L':=[(13,iv (((j:Nat):Int)+1)),(24,iv (((j:Nat):Int)+1)),(4,.int .u32 (((r:Nat):Int)/10)),(23,.int .u32 (((r:Nat):Int)/10)),(22,.int .u32 ((r:Nat):Int)),(3,.slice la10 ln11 lc12),(21,.slice la10 ln11 lc12),(20,.slice (some ⟨gl8,0,none⟩) 1 1),(19,.int .u8 (48+(((r:Nat):Int)%10))),(18,.int .u32 (48+(((r:Nat):Int)%10))),(17,.int .u32 (((r:Nat):Int)%10)),(16,.int .u32 ((r:Nat):Int)),(15,.slice lb lm lk),(14,.bool true),(0,.slice ad6 n6 c6),(2,.slice none 0 0)]) hF (aD hF.o) rfl rfl rfl rfl fun a hF=>?_
     refine E.nil0<|E.norm ?_
     exact⟨9-(j+1),by omega,⟨(j+1),(r/10),la10,ln11,lc12,(es++[r%10]),hj9,(GR hj9 hq2),(FJ hj9 hr2),(il hok2 (kI (Nat.mod_lt _ (by decide)))),(by rw[List.length_append,List.length_singleton];omega),(by omega),hdm,(by rw[show((j+1:Nat):Int)=((j:Nat):Int)+1 from by omega,show((r/10:Nat):Int)=((r:Nat):Int)/10 from by omega];exact Fr.sub (L':=[(13,iv (((j:Nat):Int)+1)),(4,.int .u32 (((r:Nat):Int)/10)),(0,.slice ad6 n6 c6),(3,.slice la10 ln11 lc12),(2,.slice none 0 0)]) hF (by intro p hp;simp only [List.mem_cons,List.not_mem_nil,or_false] at hp ⊢;rcases hp with rfl|rfl|rfl|rfl|rfl <;> simp)),bel,hh5,(by rw[Ix];exact ha14),rfl⟩⟩
    ·refine wp_seq<|E.seq ?_
     refine oT hF 0 (aY (c:=false) (aJ (by omega))) rfl rfl fun a hF=>ns<|wp_cond_false hF.o<|wp_exit<|E.past<|E.past<|E.out (id:=2)<|E.blk<|E.norm ?_
     exact⟨X/1000000000,by omega,⟨ad6,n6,c6,(X/1000000000),lb,lm,lk,es,(DR (by rw[show j=9 by omega] at hq2;exact hq2) (by rw[show j=9 by omega] at hr2;exact hr2)),hok2,(by omega),Fr.sub (L':=[(3,.slice lb lm lk),(2,.slice none 0 0),(0,.slice ad6 n6 c6)]) hF (by intro p hp;simp only [List.mem_cons,List.not_mem_nil,or_false] at hp ⊢;rcases hp with rfl|rfl|rfl <;> simp),bel,hh5,hb,rfl⟩⟩
  ·refine wp_seq<|wq<|oM hF 2 rfl rfl fun a hF=>?_
   refine E.call hF (rk NC (aG hF.o)) (jB _ X _ (Dg.nt hx)) rfl rfl rfl rfl ?_
   rintro e w2 ⟨rfl,hw⟩
   have bb:Below w1.heap.size w1 w2:=by rw[hw];exact Below.refl _ _
   clear hw
   refine⟨_,rfl,?_⟩
   intro a hF
   replace ha:=ha.below bb
   replace hx:=hx.below bb
   replace bel:=aF bel bb
   clear bb
   refine oT hF 0 (bT (c:=false) (aJ (LW hX))) rfl rfl fun a hF=>E.nil<|wp_cond_false hF.o<|wp_exit<|E.past<|E.past<|E.out (id:=0)<|E.norm<|wp_seq<|wp_block ?_
   refine E.loop (fun mq a wv=>∃(lb:Option Addr) (lm:Nat) (lk:Nat) (es:List Nat),vl 10 es=N/\okb 10 es/\es.length<=M+9/\Fr 43 a [(3,.slice lb lm lk),(2,.slice none 0 0)]/\Below w.heap.size w wv/\cH wv .u8 5 w.heap.size (.slice lb lm lk) (asc es)/\mq=es.length) (ds.length) ?_ ?_
   ·exact⟨la,ln,lc,ds,(by rw[show X=0 by omega,Nat.mul_zero,Nat.add_zero] at hq;exact hq),hok,hln,Fr.sub (L':=[(3,.slice la ln lc),(2,.slice none 0 0)]) hF (by intro p hp;simp only [List.mem_cons,List.not_mem_nil,or_false] at hp ⊢;rcases hp with rfl|rfl <;> simp),bel,ha,rfl⟩
   ·rintro mq a w3 ⟨lb,lm,lk,es,hq3,hok3,hl3,hF,bel,hc,hm⟩
    have hlm:=hc.len
    rw[kQ] at hlm
    have hcap:=hc.cap
    have hll:=List.length_take (l:=es) (i:=es.length-1)
    refine wp_seq<|wq<|oM hF 0 rfl rfl fun a hF=>oV hF (aW (aG hF.o) uK) rfl fun a hF=>?_
    by_cases hc4:0<((lm:Nat):Int)
    ·refine oT hF 0 (bT (c:=true) (aI hc4)) rfl rfl fun a hF=>oM hF 0 rfl rfl fun a hF=>og hF (aD (hF.at 4 rfl)) 0 rfl rfl rfl fun a hF=>og hF (aD (hF.at 5 rfl)) 1 rfl rfl rfl fun a hF=>og hF (aW (aG hF.o) uK) 2 rfl rfl rfl fun a hF=>og hF (aq hF.o ao aa (bB (by omega) (by omega))) 3 rfl rfl rfl fun a hF=>?_
     obtain⟨gr,crs,hag,hbl,hcv,_⟩:=hc.row (i:=es.length-1) (by rw[kQ];omega)
     rw[OQ (by omega)] at hcv
     refine og hF (bS (hF.at 3 rfl) hF.o (by rw[hag];exact ix8 (by omega) (by omega))) 4 rfl rfl rfl fun a hF=>og hF (ar hF.o (zf hbl (by rw[show((((lm:Nat):Int))-1).toNat =es.length-1 from by omega];exact hcv))) 5 rfl rfl rfl fun a hF=>?_
     by_cases hc5:((48+lg es (es.length-1):Nat):Int)=48
     ·refine og hF (aq hF.o ao aa (aO (aV (c:=true) (aI hc5)) (by simp))) 6 rfl rfl rfl fun a hF=>oV hF (aK (hF.at 7 rfl) hF.o) rfl fun a hF=>E.nil<|wp_cond_true hF.o<|wp_skip<|E.norm<|wp_block<|E.seq<|oM hF 12 rfl rfl fun a hF=>oM hF 13 rfl rfl fun a hF=>oV hF (aW (aG hF.o) uK) rfl fun a hF=>oV hF (aq hF.o ao aa (bB (by omega) (by omega))) rfl fun a hF=>?_
      have ha6:=(hc).take (lm-1) (by rw[kQ];omega) (by rw[kQ];omega)
      refine oV hF (MW (hF.at 3 rfl) hF.o (sl8 (m:=lm-1) (by omega) (by omega))) rfl fun a hF=>?_
      refine E.opset (L':=[(3,.slice lb (lm-1) lk),(41,.slice lb (lm-1) lk),(40,iv (((lm:Nat):Int)-1)),(39,iv ((lm:Nat):Int)),(38,.slice lb lm lk),(37,.slice lb lm lk),(36,.bool true),(35,.bool true),(34,.int .u8 ((48+lg es (es.length-1):Nat):Int)),(33,.pointer (some ⟨gr,(((lm:Nat):Int)-1).toNat,none⟩)),(32,iv (((lm:Nat):Int)-1)),(31,iv ((lm:Nat):Int)),(30,.slice lb lm lk),(29,.slice lb lm lk),(28,.bool true),(27,.bool true),(26,iv ((lm:Nat):Int)),(25,.slice lb lm lk),(2,.slice none 0 0)]) hF (aZ hF.o) rfl rfl rfl rfl fun a hF=>?_
      refine E.nil0<|E.blk<|E.norm ?_
      exact⟨(es.take (es.length-1)).length,by omega,⟨lb,(lm-1),lk,(es.take (es.length-1)),((NN (by omega) (by omega)).trans hq3),(jG hok3 _),(by rw[List.length_take];omega),Fr.sub (L':=[(3,.slice lb (lm-1) lk),(2,.slice none 0 0)]) hF (by intro p hp;simp only [List.mem_cons,List.not_mem_nil,or_false] at hp ⊢;rcases hp with rfl|rfl <;> simp),bel,(by rw[JD,<-hlm];exact ha6),rfl⟩⟩
     ·refine og hF (aq hF.o ao aa (aO (aV (c:=false) (aJ hc5)) (by simp))) 6 rfl rfl rfl fun a hF=>oV hF (aK (hF.at 7 rfl) hF.o) rfl fun a hF=>E.nil<|wp_cond_false hF.o<|wp_exit<|E.past<|E.past<|E.out (id:=4)<|E.norm<|wq<|oM hF 12 rfl rfl fun a hF=>?_
      refine E.opset (L':=[(2,.slice lb lm lk),(42,.slice lb lm lk),(36,.bool false),(35,.bool false),(34,.int .u8 ((48+lg es (es.length-1):Nat):Int)),(33,.pointer (some ⟨gr,(((lm:Nat):Int)-1).toNat,none⟩)),(32,iv (((lm:Nat):Int)-1)),(31,iv ((lm:Nat):Int)),(30,.slice lb lm lk),(29,.slice lb lm lk),(28,.bool true),(27,.bool true),(26,iv ((lm:Nat):Int)),(25,.slice lb lm lk),(3,.slice lb lm lk)]) hF (aZ hF.o) rfl rfl rfl rfl fun a hF=>?_
      refine nr<|rt Tryz.results224 hF 0 rfl ?_
      have hn:norm es:=by
       intro hp
       omega
      have e:dg 10 N=es:=by rw[<-hq3];exact lH (by decide) hok3 hn
      exact⟨_,rfl,by rw[e];exact hc,bel⟩
    ·refine oT hF 0 (bT (c:=false) (aJ hc4)) rfl rfl fun a hF=>oM hF 0 rfl rfl fun a hF=>nu hF 0 rfl rfl rfl fun a hF=>nu hF 1 rfl rfl rfl fun a hF=>nu hF 2 rfl rfl rfl fun a hF=>nu hF 3 rfl rfl rfl fun a hF=>nu hF 4 rfl rfl rfl fun a hF=>nu hF 5 rfl rfl rfl fun a hF=>nu hF 6 rfl rfl rfl fun a hF=>oV hF (aQ (hF.at 7 rfl) ao) rfl fun a hF=>E.nil<|wp_cond_false hF.o ?_
     refine wp_exit<|E.past<|E.past<|E.out (id:=4)<|E.norm<|wq<|oM hF 12 rfl rfl fun a hF=>?_
     refine E.opset (L':=[(2,.slice lb lm lk),(42,.slice lb lm lk),(36,.bool false),(35,undef),(34,undef),(33,undef),(32,undef),(31,undef),(30,undef),(29,undef),(28,.bool false),(27,.bool false),(26,iv ((lm:Nat):Int)),(25,.slice lb lm lk),(3,.slice lb lm lk)]) hF (aZ hF.o) rfl rfl rfl rfl fun a hF=>?_
     refine nr<|rt Tryz.results224 hF 0 rfl ?_
     have hn:norm es:=by
      intro hp
      omega
     have e:dg 10 N=es:=by rw[<-hq3];exact lH (by decide) hok3 hn
     exact⟨_,rfl,by rw[e];exact hc,bel⟩
end
section
theorem yr {P:Program} {fn:Func} {R:Ending->World->Prop} {a:Act} {w:World} {v:Value} (hr:(results fn a.tmps).run P w= .ok v w) (hd:a.defers=[]) (hR:R (.returned v) w):bodyPost P fn R .normal a w:=⟨hd,v,hr,hR⟩
theorem MZ {P:Program} {fn:Func} {tmps:Array Value} {w:World} (h:fn.results=#[]):(results fn tmps).run P w= .ok (.tuple #[]) w:=by
 simp only [results,h,List.mapM_toArray,List.mapM_nil,Sem.run_bind,Sem.run_pure,Result.andThen_ok,Sem.run_map]
 rfl
theorem cH.cells {w:World} {k:IntKind} {T base:Nat} {g n cap:Nat} {xs:List Nat} (h:cH w k T base (.slice (some ⟨g,0,none⟩) n cap) xs):∃cs,Blk w g cs/\∀i,i<xs.length->cs[i]?=some (.int k (lg xs i:Nat)):=by
 rcases h with⟨h1,rfl⟩|⟨g',cap',cs,h1,h2,h3,h4,h5,h6,h7,h8⟩
 ·cases h1
 ·injection h1 with e1 e2 e3
  injection e1 with e1
  injection e1 with e1
  subst e1
  refine⟨cs,⟨T,h3⟩,fun i hi=>?_⟩
  have:=mw (k:=k) hi
  rw[<-h7,List.getElem?_take,if_pos hi] at this
  exact this
def pp (xs ys:List Nat) (i:Nat):Prop:=ys.length=xs.length/\∀k,k<xs.length->lg ys k=if k<i\/xs.length<=k+i then lg xs (xs.length-1-k) else lg xs k
theorem pp.start (xs:List Nat):pp xs xs 0:=⟨rfl,fun k hk=>by rw[if_neg (by omega)]⟩
theorem pp.step {xs ys:List Nat} {i:Nat} (h:pp xs ys i) (hi:i<xs.length-1-i):pp xs ((ys.set i (lg ys (xs.length-1-i))).set (xs.length-1-i) (lg ys i)) (i+1):=by
 obtain⟨h1,h2⟩:=h
 refine⟨by simpa using h1,fun k hk=>?_⟩
 by_cases e1:k=xs.length-1-i
 ·subst e1
  rw[lr _ (by simp;omega),h2 i (by omega),if_neg (by omega),if_pos (by omega)]
  congr 1;omega
 ·rw[eF _ (by omega)]
  by_cases e2:k=i
  ·subst e2
   rw[lr _ (by omega),h2 _ (by omega),if_neg (by omega),if_pos (by omega)]
  ·rw[eF _ (by omega),h2 k hk]
   by_cases e3:k<i\/xs.length<=k+i
   ·rw[if_pos e3,if_pos (by omega)]
   ·rw[if_neg e3,if_neg (by omega)]
theorem pp.done {xs ys:List Nat} {i:Nat} (h:pp xs ys i) (hi:¬i<xs.length-1-i):ys=xs.reverse:=by
 obtain⟨h1,h2⟩:=h
 apply uW (by simpa using h1)
 intro k hk
 rw[h1] at hk
 have hr:lg xs.reverse k=lg xs (xs.length-1-k):=by
  unfold lg
  simp only [List.getD_eq_getElem?_getD]
  rw[List.getElem?_reverse hk]
 rw[h2 k hk,hr]
 split
 ·rfl
 ·congr 1;omega
section
variable {P:Program} {ops:Array Oper} {Q:Exit->Act->World->Prop}
def RS (P:Program) (ops:Array Oper) (Q:Exit->Act->World->Prop) (I:(Nat->Bool)->Act->World->Prop):Nat->List Oper->Prop
 |_,[]=>True
 |k,o::rest=>(∀d a w,I d a w->d k=false->(∀j,de ops k j=true->d j=true)->∀K:Act->World->Prop,(∀a' w',I (up d k) a' w'->K a' w')->
  if Region.wanted o (yielded ops a.tmps)=true then Oper.wp P o a w K Q else K (a.put o.dst undef) w)/\RS P ops Q I (k+1) rest
theorem RS.at {I:(Nat->Bool)->Act->World->Prop}:∀(l:List Oper) (k:Nat),RS P ops Q I k l->∀i o,l[i]?=some o->∀d a w,I d a w->d (k+i)=false->(∀j,de ops (k+i) j=true->d j=true)->∀K:Act->World->Prop,(∀a' w',I (up d (k+i)) a' w'->K a' w')->
 if Region.wanted o (yielded ops a.tmps)=true then Oper.wp P o a w K Q else K (a.put o.dst undef) w
 |[],_,_,i,o,h=>by simp at h
 |x::l,k,hs,0,o,h=>by
  simp at h;subst h;exact hs.1
 |x::l,k,hs,i+1,o,h=>by
  have:=RS.at l (k+1) hs.2 i o (by simpa using h)
  rw[show k+1+i=k+(i+1) by omega] at this
  exact this
theorem E.inv {id:Nat} {l:List Oper} {a:Act} {w:World} (hm:P.follows .mixedOrders =true) (hback:dc l.toArray=true) (I:(Nat->Bool)->Act->World->Prop) (h0:I (fun _=>false) a w.drew) (steps:RS P l.toArray Q I 0 l)
 (hend:∀d a w,I d a w->(∀i,i<l.length->d i=true)->Q .normal a w):(Code.region id l.toArray true).wp P Q a w:=by
 refine iu hm hback I h0 ?_ (fun d a w hI h=>hend d a w hI (by simpa using h))
 intro d a w hI i o ho hd he K hK
 have h1:l[i]?=some o:=by simpa using ho
 have:=RS.at l 0 steps i o h1 d a w hI (by rw[Nat.zero_add];exact hd) (by
  intro j hj
  rw[Nat.zero_add] at hj
  obtain⟨e,he1,he2,he3⟩:=(me ho).1 hj
  rw[<-he3];exact he e he1 he2) K (by rw[Nat.zero_add];exact hK)
 exact this
end
structure RvI (ops:Array Oper) (nt:Nat) (L:List (Nat×Value)) (rval:Nat->Value) (St:List Nat->World->Prop) (ys z1 z2:List Nat) (d:Nat->Bool) (a:Act) (w:World):Prop where
 fr:Fr nt a L
 shut:qT ops d
 val:∀k,k<16->k≠13->k≠15->d k=true->a.tmps.getD (if k<=12 then k+14 else 27) undef=rval k
 st:St (if d 15=true then z2 else if d 13=true then z1 else ys) w
section
variable {ops:Array Oper} {nt:Nat} {L:List (Nat×Value)} {rval:Nat->Value} {St:List Nat->World->Prop} {ys z1 z2:List Nat} {d:Nat->Bool} {a:Act} {w w':World}
theorem RvI.put (h:RvI ops nt L rval St ys z1 z2 d a w) {k s:Nat} (hk:k<16) (h13:k≠13) (h15:k≠15) (hs:(if k<=12 then k+14 else 27)=s) (hlt:s<nt) (hf:bz s L=true) (he:∀j,de ops k j=true->d j=true):
 RvI ops nt L rval St ys z1 z2 (up d k) (a.put (some s) (rval k)) w:=by
 refine⟨h.fr.over hf,h.shut.one he,fun m hm m13 m15 hd=>?_,?_⟩
 ·by_cases e:m=k
  ·subst e;rw[hs];exact fY (by rw[h.fr.size];exact hlt)
  ·have hne:s≠(if m<=12 then m+14 else 27):=by
    rw[<-hs];split <;> split <;> omega
   rw[gy hne]
   exact h.val m hm m13 m15 (fV hd e)
 ·have e1:up d k 15=d 15:=by unfold up;rw[if_neg (by omega)]
  have e2:up d k 13=d 13:=by unfold up;rw[if_neg (by omega)]
  rw[e1,e2];exact h.st
theorem RvI.run {P:Program} {Q:Exit->Act->World->Prop} {o:Oper} (h:RvI ops nt L rval St ys z1 z2 d a w) {k s:Nat} {K:Act->World->Prop} (hK:∀a' w',RvI ops nt L rval St ys z1 z2 (up d k) a' w'->K a' w') (he:∀j,de ops k j=true->d j=true) (hdst:o.dst=some s) (hk:k<16) (h13:k≠13) (h15:k≠15) (hs:(if k<=12 then k+14 else 27)=s) (hlt:s<nt) (hf:bz s L=true)
 (hr:(execOp a.eval o).run P w= .ok (.value (rval k)) w):Oper.wp P o a w K Q:=by
 unfold Oper.wp
 rw[hr]
 show K (a.put o.dst (rval k)) w
 rw[hdst]
 exact hK _ _ (h.put hk h13 h15 hs hlt hf he)
theorem RvI.st13 (h:RvI ops nt L rval St ys z1 z2 d a w) (hd:d 13=false) (h15:de ops 15 13=true):St ys w:=by
 have h2:=h.st
 have:d 15=false:=by
  cases e:d 15 with
  |false=>rfl
  |true=>rw[h.shut 15 13 h15 e] at hd;cases hd
 rw[hd,this] at h2
 simpa using h2
theorem RvI.free (h:RvI ops nt L rval St ys z1 z2 d a w) {k:Nat} (hd:d k=false) (hk:de ops 13 k=true) (h15:de ops 15 13=true):St ys w:=by
 refine h.st13 ?_ h15
 cases e:d 13 with
 |false=>rfl
 |true=>rw[h.shut 13 k hk e] at hd;cases hd
end
theorem E.rev {P:Program} {Q:Exit->Act->World->Prop} {id:Nat} {l:List Oper} {a:Act} {w:World} (hm:P.follows .mixedOrders =true) (hback:dc l.toArray=true) (nt:Nat) (L:List (Nat×Value)) (rval:Nat->Value) (St:List Nat->World->Prop) (ys z1 z2:List Nat)
 (h0:RvI l.toArray nt L rval St ys z1 z2 (fun _=>false) a w.drew) (steps:RS P l.toArray Q (RvI l.toArray nt L rval St ys z1 z2) 0 l)
 (hend:∀d a w,RvI l.toArray nt L rval St ys z1 z2 d a w->(∀i,i<l.length->d i=true)->Q .normal a w):(Code.region id l.toArray true).wp P Q a w:=E.inv hm hback _ h0 steps hend
theorem Le {w0 w:World} {base T:Nat} {v:Value} {xs:List Nat} (h:cH w .u8 T base v xs) (hb:Below base w0 w) (hg:fC .u8 w0 w):cH w.drew .u8 T base v xs/\Below base w0 w.drew/\fC .u8 w0 w.drew:=
 ⟨h,⟨hb.os,hb.tape,hb.output,hb.size,hb.block⟩,⟨hg.size,hg.block⟩⟩
def Cz (w:World) (base:Nat) (v:Value) (xs:List Nat):Ending->World->Prop:=fun e w'=>e= .returned (.tuple #[])/\cH w' .u8 5 base v xs.reverse/\Below base w w'/\fC .u8 w w'
theorem A9 (gr c base:Nat) (xs:List Nat) (w:World) (h1:cH w .u8 5 base (.slice (some ⟨gr,0,none⟩) xs.length c) xs) (hbase:base<=w.heap.size) (hx:xs.length<=1099511627776) (hx0:0<xs.length):
 CP 225 #[.slice (some ⟨gr,0,none⟩) xs.length c] w (Cz w base (.slice (some ⟨gr,0,none⟩) xs.length c) xs):=by
 have ha:=h1
 have hgr:=fC.refl .u8 w
 skip
 have bel:Below base w w:=Below.refl _ _
 refine go1 (nt:=28) Tryz.func225 rfl rfl rfl fun a hF=>wq<|oM hF 0 rfl rfl fun a hF=>oV hF (aW (aG hF.o) uK) rfl fun a hF=>oV hF (aq hF.o ao aa (bB (by omega) (by omega))) rfl fun a hF=>oC hF rfl fun a hF=>oA hF 1 rfl rfl fun a hF=>E.nil<|wp_block ?_
 refine E.loop (fun mq a wv=>∃(i:Nat) (ys:List Nat),pp xs ys i/\Fr 28 a [(3,iv (((xs.length:Nat):Int)-1-((i:Nat):Int))),(2,iv ((i:Nat):Int)),(0,.slice (some ⟨gr,0,none⟩) xs.length c)]/\Below base w wv/\cH wv .u8 5 base (.slice (some ⟨gr,0,none⟩) xs.length c) ys/\fC .u8 w wv/\mq=xs.length-i) (xs.length-0) ?_ ?_
 ·exact⟨0,xs,(pp.start xs),Fr.sub (L':=[(3,iv (((xs.length:Nat):Int)-1-((0:Nat):Int))),(2,iv ((0:Nat):Int)),(0,.slice (some ⟨gr,0,none⟩) xs.length c)]) hF (by intro p hp;simp only [List.mem_cons,List.not_mem_nil,or_false] at hp ⊢;rcases hp with rfl|rfl|rfl <;> simp),bel,ha,hgr,rfl⟩
 ·rintro mq a w1 ⟨i,ys,hrv,hF,bel,ha,hgr,hm⟩
  by_cases hi:i<xs.length-1-i
  ·refine wp_seq<|wq<|oM hF 1 rfl rfl fun a hF=>oM hF 1 rfl rfl fun a hF=>oU hF 1 0 (aY (c:=true) (aI (by omega))) rfl rfl rfl fun a hF=>E.nil<|wp_cond_true hF.o<|wp_skip<|E.norm<|wp_seq<|wp_block ?_
   have hF3:Fr 28 a [(0,.slice (some ⟨gr,0,none⟩) xs.length c),(2,iv ((i:Nat):Int)),(3,iv (((xs.length:Nat):Int)-1-((i:Nat):Int)))]:=Fr.sub hF (by intro p hp;simp only [List.mem_cons,List.not_mem_nil,or_false] at hp ⊢;rcases hp with rfl|rfl|rfl <;> simp)
   have ej:(((xs.length:Nat):Int)-1-((i:Nat):Int)).toNat =xs.length-1-i:=by omega
   have ei:(((i:Nat):Int)).toNat =i:=by omega
   refine E.rev aM (by decide+kernel) 28 [(0,.slice (some ⟨gr,0,none⟩) xs.length c),(2,iv ((i:Nat):Int)),(3,iv (((xs.length:Nat):Int)-1-((i:Nat):Int)))] (fun k=>if k=0 then(.slice (some ⟨gr,0,none⟩) xs.length c) else if k=1 then(iv ((i:Nat):Int)) else if k=2 then(.slice (some ⟨gr,0,none⟩) xs.length c) else if k=3 then(iv (((xs.length:Nat):Int)-1-((i:Nat):Int))) else if k=4 then(.slice (some ⟨gr,0,none⟩) xs.length c) else if k=5 then(iv (((xs.length:Nat):Int)-1-((i:Nat):Int))) else if k=6 then(.pointer (some ⟨gr,(((xs.length:Nat):Int)-1-((i:Nat):Int)).toNat,none⟩)) else if k=7 then(.int .u8 ((lg ys (xs.length-1-i):Nat):Int)) else if k=8 then(.slice (some ⟨gr,0,none⟩) xs.length c) else if k=9 then(iv ((i:Nat):Int)) else if k=10 then(.pointer (some ⟨gr,(((i:Nat):Int)).toNat,none⟩)) else if k=11 then(.int .u8 ((lg ys i:Nat):Int)) else if k=12 then(.pointer (some ⟨gr,(((i:Nat):Int)).toNat,none⟩)) else if k=14 then(.pointer (some ⟨gr,(((xs.length:Nat):Int)-1-((i:Nat):Int)).toNat,none⟩)) else undef) (fun zs w'=>cH w' .u8 5 base (.slice (some ⟨gr,0,none⟩) xs.length c) zs/\Below base w w'/\fC .u8 w w') ys (ys.set i (lg ys (xs.length-1-i))) ((ys.set i (lg ys (xs.length-1-i))).set (xs.length-1-i) (lg ys i)) ⟨hF3,fun m j _ h=>(by cases h),fun k _ _ _ h=>(by cases h),Le ha bel hgr⟩ ⟨?_,?_,?_,?_,?_,?_,?_,?_,?_,?_,?_,?_,?_,?_,?_,?_,trivial⟩ ?_
   ·intro d a w' hI hd he K hK
    rw[if_pos (aR rfl)]
    exact hI.run (k:=0) hK he rfl (by decide) (by decide) (by decide) rfl (by decide) rfl (aD (hI.fr.at 0 rfl))
   ·intro d a w' hI hd he K hK
    rw[if_pos (aR rfl)]
    exact hI.run (k:=1) hK he rfl (by decide) (by decide) (by decide) rfl (by decide) rfl (aD (hI.fr.at 1 rfl))
   ·intro d a w' hI hd he K hK
    rw[if_pos (aR rfl)]
    exact hI.run (k:=2) hK he rfl (by decide) (by decide) (by decide) rfl (by decide) rfl (aD (hI.fr.at 0 rfl))
   ·intro d a w' hI hd he K hK
    rw[if_pos (aR rfl)]
    exact hI.run (k:=3) hK he rfl (by decide) (by decide) (by decide) rfl (by decide) rfl (aD (hI.fr.at 2 rfl))
   ·intro d a w' hI hd he K hK
    rw[if_pos (aR rfl)]
    exact hI.run (k:=4) hK he rfl (by decide) (by decide) (by decide) rfl (by decide) rfl (aD (hI.fr.at 0 rfl))
   ·intro d a w' hI hd he K hK
    rw[if_pos (aR rfl)]
    exact hI.run (k:=5) hK he rfl (by decide) (by decide) (by decide) rfl (by decide) rfl (aD (hI.fr.at 2 rfl))
   ·intro d a w' hI hd he K hK
    rw[if_pos (aR rfl)]
    exact hI.run (k:=6) hK he rfl (by decide) (by decide) (by decide) rfl (by decide) rfl (bS (hI.val 4 (by decide) (by decide) (by decide) (he 4 (by decide+kernel))) (hI.val 5 (by decide) (by decide) (by decide) (he 5 (by decide+kernel))) (ix8 (by omega) (by omega)))
   ·intro d a w' hI hd he K hK
    rw[if_pos (aR rfl)]
    obtain⟨crs,hbl,hcell⟩:=(hI.free (k:=7) hd (by decide+kernel) (by decide+kernel)).1.cells
    exact hI.run (k:=7) hK he rfl (by decide) (by decide) (by decide) rfl (by decide) rfl (ar (hI.val 6 (by decide) (by decide) (by decide) (he 6 (by decide+kernel))) (zf (v:= .int .u8 ((lg ys (xs.length-1-i):Nat):Int)) hbl (by rw[ej];exact hcell _ (by rw[hrv.1];omega))))
   ·intro d a w' hI hd he K hK
    rw[if_pos (aR rfl)]
    exact hI.run (k:=8) hK he rfl (by decide) (by decide) (by decide) rfl (by decide) rfl (aD (hI.fr.at 0 rfl))
   ·intro d a w' hI hd he K hK
    rw[if_pos (aR rfl)]
    exact hI.run (k:=9) hK he rfl (by decide) (by decide) (by decide) rfl (by decide) rfl (aD (hI.fr.at 1 rfl))
   ·intro d a w' hI hd he K hK
    rw[if_pos (aR rfl)]
    exact hI.run (k:=10) hK he rfl (by decide) (by decide) (by decide) rfl (by decide) rfl (bS (hI.val 8 (by decide) (by decide) (by decide) (he 8 (by decide+kernel))) (hI.val 9 (by decide) (by decide) (by decide) (he 9 (by decide+kernel))) (ix8 (by omega) (by omega)))
   ·intro d a w' hI hd he K hK
    rw[if_pos (aR rfl)]
    obtain⟨crs,hbl,hcell⟩:=(hI.free (k:=11) hd (by decide+kernel) (by decide+kernel)).1.cells
    exact hI.run (k:=11) hK he rfl (by decide) (by decide) (by decide) rfl (by decide) rfl (ar (hI.val 10 (by decide) (by decide) (by decide) (he 10 (by decide+kernel))) (zf (v:= .int .u8 ((lg ys i:Nat):Int)) hbl (by rw[ei];exact hcell _ (by rw[hrv.1];omega))))
   ·intro d a w' hI hd he K hK
    rw[if_pos (aR rfl)]
    exact hI.run (k:=12) hK he rfl (by decide) (by decide) (by decide) rfl (by decide) rfl (bS (hI.val 0 (by decide) (by decide) (by decide) (he 0 (by decide+kernel))) (hI.val 1 (by decide) (by decide) (by decide) (he 1 (by decide+kernel))) (ix8 (by omega) (by omega)))
   ·intro d a w' hI hd he K hK
    rw[if_pos (aR rfl)]
    have hs:=hI.st13 hd (by decide+kernel)
    obtain⟨w2,hr,ha2,bb,gw⟩:=hs.1.store (P:=Tryz.prog) xN (i:=(((i:Nat):Int)).toNat) (lg ys (xs.length-1-i)) (by rw[hrv.1];omega)
    rw[ei] at ha2
    have hA:a.tmps.getD 26 undef= .pointer (some ⟨gr,(((i:Nat):Int)).toNat,none⟩):=(hI.val 12 (by decide) (by decide) (by decide) (he 12 (by decide+kernel)))
    have hV:a.tmps.getD 21 undef= .int .u8 ((lg ys (xs.length-1-i):Nat):Int):=(hI.val 7 (by decide) (by decide) (by decide) (he 7 (by decide+kernel)))
    unfold Oper.wp
    rw[cT (cw hA) (cw hV) hr]
    refine hK _ _ ⟨hI.fr,hI.shut.one he,fun m hm m13 m15 hdm=>hI.val m hm m13 m15 (fV hdm m13),?_⟩
    have e15:up d 13 15=false:=by
     show d 15=false
     cases e:d 15 with
     |false=>rfl
     |true=>rw[hI.shut 15 13 (by decide+kernel) e] at hd;cases hd
    rw[e15,ww]
    exact⟨ha2,hs.2.1.trans bb,hs.2.2.trans gw⟩
   ·intro d a w' hI hd he K hK
    rw[if_pos (aR rfl)]
    exact hI.run (k:=14) hK he rfl (by decide) (by decide) (by decide) rfl (by decide) rfl (bS (hI.val 2 (by decide) (by decide) (by decide) (he 2 (by decide+kernel))) (hI.val 3 (by decide) (by decide) (by decide) (he 3 (by decide+kernel))) (ix8 (by omega) (by omega)))
   ·intro d a w' hI hd he K hK
    rw[if_pos (aR rfl)]
    have hs:=hI.st
    rw[hd,he 13 (by decide+kernel)] at hs
    simp only [if_true,Bool.false_eq_true,if_false] at hs
    obtain⟨w2,hr,ha2,bb,gw⟩:=hs.1.store (P:=Tryz.prog) xN (i:=(((xs.length:Nat):Int)-1-((i:Nat):Int)).toNat) (lg ys i) (by rw[List.length_set,hrv.1];omega)
    rw[ej] at ha2
    have hA:a.tmps.getD 27 undef= .pointer (some ⟨gr,(((xs.length:Nat):Int)-1-((i:Nat):Int)).toNat,none⟩):=(hI.val 14 (by decide) (by decide) (by decide) (he 14 (by decide+kernel)))
    have hV:a.tmps.getD 25 undef= .int .u8 ((lg ys i:Nat):Int):=(hI.val 11 (by decide) (by decide) (by decide) (he 11 (by decide+kernel)))
    unfold Oper.wp
    rw[cT (cw hA) (cw hV) hr]
    refine hK _ _ ⟨hI.fr,hI.shut.one he,fun m hm m13 m15 hdm=>hI.val m hm m13 m15 (fV hdm m15),?_⟩
    rw[ww]
    exact⟨ha2,hs.2.1.trans bb,hs.2.2.trans gw⟩
   clear hF3
   intro d a w' hI hall
   have hs:=hI.st
   rw[hall 15 (by decide)] at hs
   simp only [if_true] at hs
   have hF:=hI.fr
   clear hI
   replace ha:=hs.1
   replace bel:=hs.2.1
   replace hgr:=hs.2.2
   clear hs
   refine E.blk<|E.norm<|E.seq<|oM hF 1 rfl rfl fun a hF=>oV hF (aq hF.o ao aa (aX (by omega) (by omega))) rfl fun a hF=>oM hF 4 rfl rfl fun a hF=>oV hF (aq hF.o ao aa (bB (by omega) (by omega))) rfl fun a hF=>?_
   refine E.opset (L':=[(2,iv (((i:Nat):Int)+1)),(13,iv ((((xs.length:Nat):Int)-1-((i:Nat):Int))-1)),(12,iv (((xs.length:Nat):Int)-1-((i:Nat):Int))),(11,iv (((i:Nat):Int)+1)),(10,iv ((i:Nat):Int)),(0,.slice (some ⟨gr,0,none⟩) xs.length c),(3,iv (((xs.length:Nat):Int)-1-((i:Nat):Int)))]) hF (aZ hF.q) rfl rfl rfl rfl fun a hF=>?_
   refine E.opset (L':=[(3,iv ((((xs.length:Nat):Int)-1-((i:Nat):Int))-1)),(2,iv (((i:Nat):Int)+1)),(13,iv ((((xs.length:Nat):Int)-1-((i:Nat):Int))-1)),(12,iv (((xs.length:Nat):Int)-1-((i:Nat):Int))),(11,iv (((i:Nat):Int)+1)),(10,iv ((i:Nat):Int)),(0,.slice (some ⟨gr,0,none⟩) xs.length c)]) hF (aZ hF.p) rfl rfl rfl rfl fun a hF=>?_
   refine E.nil0<|E.norm ?_
   exact⟨xs.length-(i+1),by omega,⟨(i+1),((ys.set i (lg ys (xs.length-1-i))).set (xs.length-1-i) (lg ys i)),(hrv.step (by omega)),(by rw[show((i+1:Nat):Int)=((i:Nat):Int)+1 from by omega,show((xs.length:Nat):Int)-1-(((i:Nat):Int)+1)=((xs.length:Nat):Int)-1-((i:Nat):Int)-1 from by omega];exact Fr.sub (L':=[(3,iv ((((xs.length:Nat):Int)-1-((i:Nat):Int))-1)),(2,iv (((i:Nat):Int)+1)),(0,.slice (some ⟨gr,0,none⟩) xs.length c)]) hF (by intro p hp;simp only [List.mem_cons,List.not_mem_nil,or_false] at hp ⊢;rcases hp with rfl|rfl|rfl <;> simp)),bel,ha,hgr,rfl⟩⟩
  ·refine wp_seq<|wq<|oM hF 1 rfl rfl fun a hF=>oM hF 1 rfl rfl fun a hF=>oU hF 1 0 (aY (c:=false) (aJ (by omega))) rfl rfl rfl fun a hF=>E.nil<|wp_cond_false hF.o<|wp_exit<|E.past<|E.past<|E.out (id:=0) ?_
   refine yr (MZ Tryz.results225) hF.dfr ?_
   exact⟨rfl,by rw[<-hrv.done (by omega)];exact ha,bel,hgr⟩
end
section
theorem cH.some {w:World} {k:IntKind} {T base:Nat} {v:Value} {xs:List Nat} (h:cH w k T base v xs) (hp:0<xs.length):∃g cap,v= .slice (some ⟨g,0,none⟩) xs.length cap:=by
 rcases h with⟨_,rfl⟩|⟨g,cap,cs,h1,_⟩
 ·simp at hp
 ·exact⟨g,cap,h1⟩
theorem tg (v:Value) (base:Nat) (xs:List Nat) (w:World) (h1:cH w .u8 5 base v xs) (hbase:base<=w.heap.size) (hx:xs.length<=1099511627776) (hx0:0<xs.length):CP 225 #[v] w (Cz w base v xs):=by
 obtain⟨g,cap,rfl⟩:=h1.some hx0
 exact A9 g cap base xs w h1 hbase hx hx0
def tx (z:Int):List Nat:=if z=0 then[48] else(if z<0 then[45] else[])++(asc (dg 10 z.natAbs)).reverse
theorem Bf {N M:Nat} (h:N<2^M):dl 10 N<=M:=fT (by decide) (Nat.lt_of_lt_of_le h (Nat.pow_le_pow_left (by decide) _))
theorem IQ {N:Nat} (h:N≠0):0<dl 10 N:=eU (by decide) (by omega)
theorem jv (N:Nat):(asc (dg 10 N)).length =dl 10 N:=kQ _
theorem rZ {N k:Nat} (h:Lim N k):N<2^(32*k):=by
 unfold Lim at h
 rwa[show B32=2^32 from rfl,<-Nat.pow_mul] at h
theorem Nw {z:Int} (h:z=0):[48]=tx z:=by unfold tx;rw[if_pos h]
theorem Oc {z:Int} (h:z<0):(asc (dg 10 z.natAbs)++[45]).reverse =tx z:=by
 unfold tx;rw[if_neg (by omega),if_pos h,List.reverse_append];rfl
theorem Pw {z:Int} (h:z≠0) (h':¬z<0):(asc (dg 10 z.natAbs)).reverse =tx z:=by
 unfold tx;rw[if_neg h,if_neg h',List.nil_append]
theorem GU {z:Int} {M:Nat} (h:z.natAbs<2^M):(tx z).length <=M+1:=by
 have:=Bf h
 unfold tx
 split
 ·simp
 ·rw[List.length_append,List.length_reverse,jv];split <;> simp <;> omega
theorem ru {a b:List Nat} (h:a=b):Ending.returned (.string (eZ a))= .returned (.string (eZ b)):=by rw[h]
theorem xp (v1:Value) (z:Int) (M:Nat) (w:World) (h1:Wc w v1 z) (hN:z.natAbs<2^M) (hM:M<=1000000000):
 CV 178 #[v1] w (.string (eZ (tx z))):=by
 have hdl:=Bf hN
 have bel:Below w.heap.size w w:=Below.refl _ _
 refine go1 (nt:=19) Tryz.func178 rfl rfl rfl fun a hF=>wq ?_
 obtain⟨ad1,n1,c1,rfl,_⟩:=Wc.shape h1
 obtain⟨g1,w2,ge1,hr,bb,o1⟩:=mo (P:=Tryz.prog) (w:=w) (cs:=[.bool (decide (z<0)),.slice ad1 n1 c1]) (v:= .agg #[.bool (decide (z<0)),.slice ad1 n1 c1]) 31 rfl (niB (niS ni0))
 replace ge1:w.heap.size<=g1:=by rw[<-ge1];exact bel.size
 refine oV hF (nj hF.o hr) rfl fun a hF=>?_
 clear hr
 replace h1:=h1.below bb
 replace bel:=aF bel bb
 clear bb
 have hf3:=Wc.abs h1
 refine oC hF rfl fun a hF=>ns<|wq<|oV hF (ar hF.p (iX (vs:=[.bool (decide (z<0)),.slice ad1 n1 c1]) o1 rfl rfl)) rfl fun a hF=>?_
 refine E.call hF (rk Qk (aG hF.o)) (eG _ _ _ (Wc.wz h1)) rfl rfl rfl rfl ?_
 rintro e w4 ⟨rfl,bb⟩
 refine⟨_,rfl,?_⟩
 intro a hF
 replace hf3:=hf3.below bb
 replace h1:=h1.below bb
 replace o1:=o1.below bb
 replace bel:=aF bel bb
 clear bb
 by_cases hc5:sz (z)=0
 ·refine oT hF 0 (aV (c:=true) (aI hc5)) rfl rfl fun a hF=>E.nil<|wp_cond_true hF.o<|wq ?_
  refine oS hF (aZ ao) rfl fun a hF=>nr<|rt Tryz.results178 hF 0 rfl ?_
  exact⟨ru (Nw (qE.1 hc5)),bel⟩
 ·refine oT hF 0 (aV (c:=false) (aJ hc5)) rfl rfl fun a hF=>E.nil<|wp_cond_false hF.o<|wp_skip<|E.norm<|wq<|oV hF (az (hF.at 4 rfl) (cI (p:=1) rfl)) rfl fun a hF=>oV hF (ar hF.o (cW (v:= .slice ad1 n1 c1) o1 rfl)) rfl fun a hF=>?_
  refine E.call hF (rk RI (aG hF.o)) (CY _ (Int.natAbs (z)) M _ hf3 (by first|assumption|omega) hM) rfl rfl rfl rfl ?_
  rintro e w6 ⟨vv7,rfl,hh8,bb⟩
  refine⟨_,rfl,?_⟩
  intro a hF
  have hdp:=IQ (N:=Int.natAbs (z)) (by intro e;exact absurd (qE.2 (show z=0 by omega)) (by assumption))
  replace hh8:=hh8.rebase bel.size
  obtain⟨advv7,cpvv7,rfl⟩:=hh8.form
  replace hf3:=hf3.below bb
  replace h1:=h1.below bb
  replace o1:=o1.below bb
  replace bel:=aF bel bb
  clear bb
  refine oA hF 0 rfl rfl fun a hF=>ns<|wq<|oV hF (az (hF.at 8 rfl) (cL (p:=0) rfl)) rfl fun a hF=>oV hF (ar hF.o (bR (v:= .bool (decide (z<0))) o1 rfl)) rfl fun a hF=>E.nil ?_
  by_cases hc9:(decide (z<0))=true
  ·refine wp_cond_true (Eq.trans hF.o (congrArg Value.bool hc9)) ?_
   refine E.seq<|oM hF 2 rfl rfl fun a hF=>?_
   obtain⟨gl10,w11,hr,bb,ogl10⟩:=bs8 w6 (45) (d:=45) (by omega)
   refine oV hF (bO (eQ ao) hr) rfl fun a hF=>?_
   clear hr
   replace hh8:=hh8.below bb
   replace bel:=aF bel bb
   clear bb
   obtain⟨la12,ln13,lc14,w15,hr,ha16,bb,gr⟩:=Ox hh8 ogl10 (by rw[jv];omega) bel.size
   refine oV hF (aW (aL hF.p hF.o) hr) rfl fun a hF=>?_
   clear hr
   replace bel:=bel.trans bb
   clear bb gr
   refine oE hF 0 rfl rfl fun a hF=>nq<|oM hF 0 rfl rfl fun a hF=>?_
   refine E.call hF (rk Kv (aG hF.o)) (tg _ w.heap.size ((asc (dg 10 (Int.natAbs (z))))++[45]) _ ha16 bel.size (by first|(simp only [jv];omega)|(simp only [List.length_append,jv,List.length_cons,List.length_nil];omega)) (by first|(simp only [jv];omega)|(simp only [List.length_append,jv,List.length_cons,List.length_nil];omega))) rfl rfl rfl rfl ?_
   rintro e w17 ⟨rfl,ha18,bb,gr⟩
   refine⟨_,rfl,?_⟩
   intro a hF
   replace bel:=bel.trans bb
   clear bb gr
   refine nq ?_
   refine oM hF 2 rfl rfl fun a hF=>oV hF (go hF.o (FC (cH.sqb ha18))) rfl fun a hF=>oE hF 0 rfl rfl fun a hF=>nr<|rt Tryz.results178 hF 0 rfl ?_
   exact⟨ru (Oc (of_decide_eq_true hc9)),bel⟩
  ·refine wp_cond_false (Eq.trans hF.o (congrArg Value.bool (eq_false_of_ne_true hc9))) ?_
   refine wp_skip<|E.norm<|wq<|oM hF 2 rfl rfl fun a hF=>?_
   refine E.call hF (rk Kv (aG hF.o)) (tg _ w.heap.size ((asc (dg 10 (Int.natAbs (z))))) _ hh8 bel.size (by first|(simp only [jv];omega)|(simp only [List.length_append,jv,List.length_cons,List.length_nil];omega)) (by first|(simp only [jv];omega)|(simp only [List.length_append,jv,List.length_cons,List.length_nil];omega))) rfl rfl rfl rfl ?_
   rintro e w19 ⟨rfl,ha20,bb,gr⟩
   refine⟨_,rfl,?_⟩
   intro a hF
   replace bel:=bel.trans bb
   clear bb gr
   refine nq ?_
   refine oM hF 4 rfl rfl fun a hF=>oV hF (go hF.o (FC (cH.sqb ha20))) rfl fun a hF=>oE hF 0 rfl rfl fun a hF=>nr<|rt Tryz.results178 hF 0 rfl ?_
   exact⟨ru (Pw (fun e=>hc5 (qE.2 e)) (fun e=>hc9 (decide_eq_true e))),bel⟩
end
section
theorem F3 {N k:Nat} (h:Lim N k):Lim ((N:Nat):Int).natAbs k:=by rw[Int.natAbs_natCast];exact h
theorem Wc.ofnat {w:World} {s:Value} {N:Nat} (h:Dg w .u32 B32 s N):Wc w (.agg #[.bool false,s]) ((N:Nat):Int):=by
 refine⟨s,?_,by simpa using h⟩
 rw[decide_eq_false (by omega)]
def cx (q:Rat):List Nat:=if q.den=1 then tx q.num else tx q.num++[47]++tx ((q.den:Nat):Int)
theorem Gl {a b:Int}:ci a b=0↔a=b:=by
 unfold ci
 constructor
 ·intro h;split at h
  ·cases h
  ·split at h
   ·cases h
   ·omega
 ·intro h;subst h;simp
theorem NR {q:Rat} (h:((q.den:Nat):Int)=1):tx q.num=cx q:=by unfold cx;rw[if_pos (by omega)]
theorem LB {q:Rat} (h:((q.den:Nat):Int)≠1):(tx q.num++[47])++tx ((q.den:Nat):Int)=cx q:=by unfold cx;rw[if_neg (by omega)]
theorem DZ (v1:Value) (q:Rat) (w:World) (h1:Rq w v1 q):
 CP 179 #[v1] w (fK w ((q.den:Nat):Int)):=by
 have bel:Below w.heap.size w w:=Below.refl _ _
 refine go1 (nt:=6) Tryz.func179 rfl rfl rfl fun a hF=>wq ?_
 obtain⟨b1,ad1,n1,c1,ae1,m1,d1,rfl,hn1,hd1⟩:=Rq.shape h1
 have hf2:=Wc.abs hn1
 obtain⟨g1,w3,ge1,hr,bb,o1⟩:=mo (P:=Tryz.prog) (w:=w) (cs:=[.bool b1,.slice ad1 n1 c1,.slice ae1 m1 d1]) (v:= .agg #[.bool b1,.slice ad1 n1 c1,.slice ae1 m1 d1]) 33 rfl (niB (niS (niS ni0)))
 replace ge1:w.heap.size<=g1:=by rw[<-ge1];exact bel.size
 refine oV hF (nj hF.o hr) rfl fun a hF=>?_
 clear hr
 replace h1:=h1.below bb
 replace hn1:=hn1.below bb
 replace hf2:=hf2.below bb
 replace hd1:=hd1.below bb
 replace bel:=aF bel bb
 clear bb
 obtain⟨g2,w4,ge2,hr,bb,o2⟩:=eo (P:=Tryz.prog) (w:=w3) (cs:=[.bool false,.slice none 0 0]) 31 mF rfl (niB (niS ni0))
 have ne1_2:g1≠g2:=by rw[<-ge2];exact o1.ne_new
 replace ge2:w.heap.size<=g2:=by rw[<-ge2];exact bel.size
 refine oV hF (dP hr) rfl fun a hF=>?_
 clear hr
 replace hf2:=hf2.below bb
 replace hd1:=hd1.below bb
 replace h1:=h1.below bb
 replace hn1:=hn1.below bb
 replace o1:=o1.below bb
 replace bel:=aF bel bb
 clear bb
 refine nq<|oV hF (ar hF.p (fM (vs:=[.bool b1,.slice ad1 n1 c1,.slice ae1 m1 d1]) o1 rfl rfl)) rfl fun a hF=>?_
 refine E.call hF (rk SX (aG hF.o)) (pY _ (q) _ h1) rfl rfl rfl rfl ?_
 rintro e w5 ⟨vv6,rfl,hh7,bb⟩
 refine⟨_,rfl,?_⟩
 intro a hF
 replace o2:=o2.below bb
 replace bel:=aF bel bb
 clear bb
 obtain⟨ad8,n8,c8,rfl⟩:=Dg.form hh7
 refine oV hF (bn (eQ hF.o) (ub _ _ _ _)) rfl fun a hF=>?_
 obtain⟨w9,hr,tu,on⟩:=EE (vs:=[.bool false,.slice ad8 n8 c8]) o2 rfl rfl (ocB (ocS oc0)) (niB (niS ni0)) (o:=0) rfl
 have kp:=tu.keep o2
 refine E.st hF (cT (hF.at 3 rfl) hF.o (hr _ rfl)) rfl rfl fun a hF=>?_
 clear hr
 replace hh7:=hh7.keep kp
 replace bel:=tu.below bel ge2
 clear tu kp
 replace o2:=on
 clear on
 refine nr ?_
 refine bodyPost_ret (kN Tryz.results179 (hF.at 3 rfl) (iX (vs:=[.bool false,.slice ad8 n8 c8]) o2 rfl rfl)) hF.dfr ?_
 exact⟨_,rfl,Wc.ofnat hh7,bel⟩
theorem wE (v1:Value) (q:Rat) (k:Nat) (w:World) (h1:Rq w v1 q) (hl:av q k) (hk:k<=1000000):
 CV 116 #[v1] w (.string (eZ (cx q))):=by
 have ht1:=GU (rZ hl.1)
 have ht2:=GU (z:=((q.den:Nat):Int)) (M:=32*k) (by rw[Int.natAbs_natCast];exact rZ hl.2)
 have bel:Below w.heap.size w w:=Below.refl _ _
 refine go1 (nt:=20) Tryz.func116 rfl rfl rfl fun a hF=>wq ?_
 obtain⟨b1,ad1,n1,c1,ae1,m1,d1,rfl,hn1,hd1⟩:=Rq.shape h1
 have hf2:=Wc.abs hn1
 obtain⟨g1,w3,ge1,hr,bb,o1⟩:=mo (P:=Tryz.prog) (w:=w) (cs:=[.bool b1,.slice ad1 n1 c1,.slice ae1 m1 d1]) (v:= .agg #[.bool b1,.slice ad1 n1 c1,.slice ae1 m1 d1]) 33 rfl (niB (niS (niS ni0)))
 replace ge1:w.heap.size<=g1:=by rw[<-ge1];exact bel.size
 refine oV hF (nj hF.o hr) rfl fun a hF=>?_
 clear hr
 replace h1:=h1.below bb
 replace hn1:=hn1.below bb
 replace hf2:=hf2.below bb
 replace hd1:=hd1.below bb
 replace bel:=aF bel bb
 clear bb
 refine oC hF rfl fun a hF=>ns ?_
 refine E.drawn 7 aM hF [5,6,7,8,9,4,3] [(fun _ v=>v= .agg #[.bool b1,.slice ad1 n1 c1,.slice ae1 m1 d1]),(fun w v=>Wc w v (Rat.num (q))),(fun _ v=>v= .string (eZ (tx (Rat.num (q))))),(fun _ v=>v= .agg #[.bool b1,.slice ad1 n1 c1,.slice ae1 m1 d1]),(fun w v=>Wc w v (((Rat.den (q):Nat):Int))),(fun w v=>∃g,v= .pointer (some ⟨g,0,none⟩)/\w3.heap.size<=g/\Own w g [.bool false,.slice none 0 0]),(fun _ v=>v= .string (eZ (tx (Rat.num (q)))))] [5] (by decide+kernel) (by decide+kernel) rfl rfl rfl ⟨(Mb.eq _),(fun _ _ _ h hb=>h.below hb),(Mb.eq _),(Mb.eq _),(fun _ _ _ h hb=>h.below hb),(fun _ _ _ ⟨g,e,l,o⟩ hb=>⟨g,e,l,o.below hb⟩),(Mb.eq _),trivial⟩ ⟨fun _ _ ⟨g,e,_,o⟩=>⟨g,e,o.lt⟩,trivial⟩ ⟨?_,?_,?_,?_,?_,?_,?_,trivial⟩ ?_
 ·intro a' w' hF' hb hd
  exact bX (aR rfl) (bG.vals (ar (hF'.at 1 rfl) (fM (vs:=[.bool b1,.slice ad1 n1 c1,.slice ae1 m1 d1]) (o1.below hb) rfl rfl)) ⟨rfl,Below.refl _ _,(fun h=>absurd h (by decide))⟩)
 ·intro a' w' hF' hb hd
  have e5:a'.tmps.getD 5 undef= .agg #[.bool b1,.slice ad1 n1 c1,.slice ae1 m1 d1]:=hd _ 5 (Array.mem_of_getElem? (i:=0) rfl) rfl rfl
  refine bX (aR rfl) (bG.calls (rk P4 (aG e5)) (Af _ (q) _ (h1.below hb)) ?_)
  rintro e w'' ⟨v',rfl,h',bb⟩
  exact⟨_,rfl,h',bb,(fun h=>absurd h (by decide))⟩
 ·intro a' w' hF' hb hd
  obtain⟨v6_0,e6,h6_1⟩:∃v,a'.tmps.getD 6 undef=v/\Wc w' v (Rat.num (q)):=⟨_,rfl,hd _ 6 (Array.mem_of_getElem? (i:=0) rfl) rfl rfl⟩
  refine bX (aR rfl) (bG.calls (rk K2 (aG e6)) (xp _ (Rat.num (q)) (32*k) _ h6_1 (rZ (hl.1)) (by omega)) ?_)
  rintro e w'' ⟨rfl,bb⟩
  exact⟨_,rfl,rfl,bb,(fun h=>absurd h (by decide))⟩
 ·intro a' w' hF' hb hd
  exact bX (aR rfl) (bG.vals (ar (hF'.at 1 rfl) (fM (vs:=[.bool b1,.slice ad1 n1 c1,.slice ae1 m1 d1]) (o1.below hb) rfl rfl)) ⟨rfl,Below.refl _ _,(fun h=>absurd h (by decide))⟩)
 ·intro a' w' hF' hb hd
  have e8:a'.tmps.getD 8 undef= .agg #[.bool b1,.slice ad1 n1 c1,.slice ae1 m1 d1]:=hd _ 8 (Array.mem_of_getElem? (i:=0) rfl) rfl rfl
  refine bX (aR rfl) (bG.calls (rk Kc (aG e8)) (DZ _ (q) _ (h1.below hb)) ?_)
  rintro e w'' ⟨v',rfl,h',bb⟩
  exact⟨_,rfl,h',bb,(fun h=>absurd h (by decide))⟩
 ·intro a' w' hF' hb hd
  obtain⟨g,w2,ge,hr,bb,on⟩:=eo (P:=Tryz.prog) (w:=w') (cs:=[.bool false,.slice none 0 0]) 31 mF rfl (niB (niS ni0))
  subst ge
  exact bX (aR rfl) (bG.vals (dP hr) ⟨⟨_,rfl,hb.size,on⟩,bb,fun _=>rfl⟩)
 ·intro a' w' hF' hb hd
  have e7:a'.tmps.getD 7 undef= .string (eZ (tx (Rat.num (q)))):=hd _ 7 (Array.mem_of_getElem? (i:=0) rfl) rfl rfl
  exact bX (aR rfl) (bG.vals (aZ e7) ⟨rfl,Below.refl _ _,(fun h=>absurd h (by decide))⟩)
 intro a w4 hF bb hall hne
 obtain⟨vv5,e9,hh6⟩:∃v,a.tmps.getD 9 undef=v/\Wc w4 v (((Rat.den (q):Nat):Int)):=⟨_,rfl,hall 4 9 rfl⟩
 obtain⟨g4,e4,ge4,o4⟩:∃g,a.tmps.getD 4 undef= .pointer (some ⟨g,0,none⟩)/\w3.heap.size<=g/\Own w4 g [.bool false,.slice none 0 0]:=hall 5 4 rfl
 have e3:a.tmps.getD 3 undef= .string (eZ (tx (Rat.num (q)))):=hall 6 3 rfl
 replace ge4:w.heap.size<=g4:=Nat.le_trans bel.size ge4
 clear hall hne
 replace bel:=aF bel bb
 clear bb
 obtain⟨ad7,n7,c7,rfl,_⟩:=Wc.shape hh6
 replace hF:=hF.add e9
 clear e9
 replace hF:=hF.add e4
 clear e4
 replace hF:=hF.add e3
 clear e3
 obtain⟨w8,hr,tu,on⟩:=EE (vs:=[.bool (decide (((Rat.den (q):Nat):Int)<0)),.slice ad7 n7 c7]) o4 rfl rfl (ocB (ocS oc0)) (niB (niS ni0)) (o:=0) rfl
 have kp:=tu.keep o4
 refine E.st hF (cT hF.p hF.q (hr _ rfl)) rfl rfl fun a hF=>?_
 clear hr
 replace hh6:=hh6.keep kp
 replace bel:=tu.below bel ge4
 clear tu kp
 replace o4:=on
 clear on
 have hf9:=Wc.abs hh6
 refine ns<|wp_seq ?_
 by_cases hc10:ci (((Rat.den (q):Nat):Int)) (1)=0
 ·refine E.drawn 4 aM hF [10,11,12,13] [(fun _ v=>v= .agg #[.bool (decide (((Rat.den (q):Nat):Int)<0)),.slice ad7 n7 c7]),(fun w v=>Wc w v (1)),(fun _ v=>v= iv (ci (((Rat.den (q):Nat):Int)) (1))),(fun _ v=>v= .bool true)] [] (by decide+kernel) (by decide+kernel) rfl rfl rfl ⟨(Mb.eq _),(fun _ _ _ h hb=>h.below hb),(Mb.eq _),(Mb.eq _),trivial⟩ trivial ⟨?_,?_,?_,?_,trivial⟩ ?_
  ·intro a' w' hF' hb hd
   exact bX (aR rfl) (bG.vals (ar (hF'.at 1 rfl) (iX (vs:=[.bool (decide (((Rat.den (q):Nat):Int)<0)),.slice ad7 n7 c7]) (o4.below hb) rfl rfl)) ⟨rfl,Below.refl _ _,(fun h=>absurd h (by decide))⟩)
  ·intro a' w' hF' hb hd
   refine bX (aR rfl) (bG.calls (rk Qg (aG ao)) (kH 1 _ (by decide) (by decide)) ?_)
   rintro e w'' ⟨v',rfl,h',bb⟩
   exact⟨_,rfl,h',bb,(fun h=>absurd h (by decide))⟩
  ·intro a' w' hF' hb hd
   have e10:a'.tmps.getD 10 undef= .agg #[.bool (decide (((Rat.den (q):Nat):Int)<0)),.slice ad7 n7 c7]:=hd _ 10 (Array.mem_of_getElem? (i:=0) rfl) rfl rfl
   obtain⟨v11_0,e11,h11_1⟩:∃v,a'.tmps.getD 11 undef=v/\Wc w' v (1):=⟨_,rfl,hd _ 11 (Array.mem_of_getElem? (i:=1) rfl) rfl rfl⟩
   refine bX (aR rfl) (bG.calls (rk Ov (aL e10 e11)) (qK _ _ _ _ _ (Wc.wz (hh6.below hb)) (Wc.wz h11_1)) ?_)
   rintro e w'' ⟨rfl,bb⟩
   exact⟨_,rfl,rfl,bb,(fun h=>absurd h (by decide))⟩
  ·intro a' w' hF' hb hd
   have e12:a'.tmps.getD 12 undef= iv (ci (((Rat.den (q):Nat):Int)) (1)):=hd _ 12 (Array.mem_of_getElem? (i:=0) rfl) rfl rfl
   exact bX (aR rfl) (bG.vals (aq e12 ao aa (aO (aV (c:=true) (aI hc10)) (by simp))) ⟨rfl,Below.refl _ _,(fun h=>absurd h (by decide))⟩)
  intro a w11 hF bb hall hne
  have e13:a.tmps.getD 13 undef= .bool true:=hall 3 13 rfl
  clear hall hne
  replace hf9:=hf9.below bb
  replace hh6:=hh6.below bb
  replace o4:=o4.below bb
  replace bel:=aF bel bb
  clear bb
  replace hF:=hF.add e13
  clear e13
  refine E.nil<|wp_cond_true hF.o<|wq ?_
  refine oM hF 1 rfl rfl fun a hF=>oE hF 0 rfl rfl fun a hF=>nr<|rt Tryz.results116 hF 0 rfl ?_
  exact⟨ru (NR (Gl.1 hc10)),bel⟩
 ·refine E.drawn 4 aM hF [10,11,12,13] [(fun _ v=>v= .agg #[.bool (decide (((Rat.den (q):Nat):Int)<0)),.slice ad7 n7 c7]),(fun w v=>Wc w v (1)),(fun _ v=>v= iv (ci (((Rat.den (q):Nat):Int)) (1))),(fun _ v=>v= .bool false)] [] (by decide+kernel) (by decide+kernel) rfl rfl rfl ⟨(Mb.eq _),(fun _ _ _ h hb=>h.below hb),(Mb.eq _),(Mb.eq _),trivial⟩ trivial ⟨?_,?_,?_,?_,trivial⟩ ?_
  ·intro a' w' hF' hb hd
   exact bX (aR rfl) (bG.vals (ar (hF'.at 1 rfl) (iX (vs:=[.bool (decide (((Rat.den (q):Nat):Int)<0)),.slice ad7 n7 c7]) (o4.below hb) rfl rfl)) ⟨rfl,Below.refl _ _,(fun h=>absurd h (by decide))⟩)
  ·intro a' w' hF' hb hd
   refine bX (aR rfl) (bG.calls (rk Qg (aG ao)) (kH 1 _ (by decide) (by decide)) ?_)
   rintro e w'' ⟨v',rfl,h',bb⟩
   exact⟨_,rfl,h',bb,(fun h=>absurd h (by decide))⟩
  ·intro a' w' hF' hb hd
   have e10:a'.tmps.getD 10 undef= .agg #[.bool (decide (((Rat.den (q):Nat):Int)<0)),.slice ad7 n7 c7]:=hd _ 10 (Array.mem_of_getElem? (i:=0) rfl) rfl rfl
   obtain⟨v11_0,e11,h11_1⟩:∃v,a'.tmps.getD 11 undef=v/\Wc w' v (1):=⟨_,rfl,hd _ 11 (Array.mem_of_getElem? (i:=1) rfl) rfl rfl⟩
   refine bX (aR rfl) (bG.calls (rk Ov (aL e10 e11)) (qK _ _ _ _ _ (Wc.wz (hh6.below hb)) (Wc.wz h11_1)) ?_)
   rintro e w'' ⟨rfl,bb⟩
   exact⟨_,rfl,rfl,bb,(fun h=>absurd h (by decide))⟩
  ·intro a' w' hF' hb hd
   have e12:a'.tmps.getD 12 undef= iv (ci (((Rat.den (q):Nat):Int)) (1)):=hd _ 12 (Array.mem_of_getElem? (i:=0) rfl) rfl rfl
   exact bX (aR rfl) (bG.vals (aq e12 ao aa (aO (aV (c:=false) (aJ hc10)) (by simp))) ⟨rfl,Below.refl _ _,(fun h=>absurd h (by decide))⟩)
  intro a w12 hF bb hall hne
  have e13:a.tmps.getD 13 undef= .bool false:=hall 3 13 rfl
  clear hall hne
  replace hf9:=hf9.below bb
  replace hh6:=hh6.below bb
  replace o4:=o4.below bb
  replace bel:=aF bel bb
  clear bb
  replace hF:=hF.add e13
  clear e13
  refine E.nil<|wp_cond_false hF.o<|wp_skip<|E.norm<|wq<|oM hF 1 rfl rfl fun a hF=>oV hF (aq hF.o ao uC (FI (xs:=tx (Rat.num (q))) (ys:=[47]) (by first|omega|(simp only [List.length_cons,List.length_nil];omega)|(simp only [List.length_append,List.length_cons,List.length_nil];omega)))) rfl fun a hF=>oV hF (ar (hF.at 4 rfl) (iX (vs:=[.bool (decide (((Rat.den (q):Nat):Int)<0)),.slice ad7 n7 c7]) o4 rfl rfl)) rfl fun a hF=>?_
  refine E.call hF (rk K2 (aG hF.o)) (xp _ (((Rat.den (q):Nat):Int)) (32*k) _ hh6 (rZ (F3 (hl.2))) (by omega)) rfl rfl rfl rfl ?_
  rintro e w13 ⟨rfl,bb⟩
  refine⟨_,rfl,?_⟩
  intro a hF
  replace bel:=aF bel bb
  clear bb
  refine oV hF (aq hF.q hF.o uC (FI (xs:=(tx (Rat.num (q))++[47])) (ys:=tx (((Rat.den (q):Nat):Int))) (by first|omega|(simp only [List.length_cons,List.length_nil];omega)|(simp only [List.length_append,List.length_cons,List.length_nil];omega)))) rfl fun a hF=>oE hF 0 rfl rfl fun a hF=>nr<|rt Tryz.results116 hF 0 rfl ?_
  exact⟨ru (LB (fun e=>hc10 (Gl.2 e))),bel⟩
end
section
theorem QX:((cx (((-6:Int):Rat)/((-4:Int):Rat))).map UInt8.ofNat == [51,47,50].map UInt8.ofNat)=true:=by
 have e:cx (((-6:Int):Rat)/((-4:Int):Rat))=[51,47,50]:=by decide+kernel
 rw[e];rfl
theorem Q6:((cx 0).map UInt8.ofNat == [48].map UInt8.ofNat)=true:=by
 have e:cx 0=[48]:=by decide+kernel
 rw[e];rfl
theorem mL (w:World):
 CV 52 #[] w (.bool true):=by
 have bel:Below w.heap.size w w:=Below.refl _ _
 refine go0 (nt:=9) Tryz.func52 rfl rfl fun a hF=>wq ?_
 refine oC hF rfl fun a hF=>nq ?_
 refine E.call hF (rk IL (aL ao ao)) (kX ((-6)) ((-4)) _ (by decide) (by decide) (by decide) (by decide)) rfl rfl rfl rfl ?_
 rintro e w1 ⟨vv2,rfl,hh3,bb⟩
 refine⟨_,rfl,?_⟩
 intro a hF
 replace bel:=aF bel bb
 clear bb
 obtain⟨b4,ad4,n4,c4,ae4,m4,d4,rfl,hn4,hd4⟩:=Rq.shape hh3
 have hf5:=Wc.abs hn4
 refine E.call hF (rk Kf (aG hF.o)) (wE _ ((((-6):Int):Rat)/(((-4):Int):Rat)) 2 _ hh3 (av.up (fO (co (by decide) (by decide)) (co (by decide) (by decide))) 2 (by decide)) (by omega)) rfl rfl rfl rfl ?_
 rintro e w6 ⟨rfl,bb⟩
 refine⟨_,rfl,?_⟩
 intro a hF
 replace bel:=aF bel bb
 clear bb
 refine oV hF (aq hF.o ao uC (KP (xs:=cx ((((-6):Int):Rat)/(((-4):Int):Rat))) (ys:=[51,47,50]) QX)) rfl fun a hF=>oM hF 0 rfl rfl fun a hF=>og hF (bn (by simp) (jK _)) 0 rfl rfl rfl fun a hF=>?_
 refine E.callg hF (rk Kf (aG hF.o)) (wE _ (0) 1 _ (Rq.zero _) (jH (by decide)) (by omega)) (au rfl rfl hF.p rfl) rfl rfl rfl ?_
 rintro e w7 ⟨rfl,bb⟩
 refine⟨_,rfl,?_⟩
 intro a hF
 replace bel:=aF bel bb
 clear bb
 refine og hF (aq hF.o ao uC (KP (xs:=cx (0)) (ys:=[48]) Q6)) 2 rfl rfl rfl fun a hF=>oV hF (aK (hF.at 3 rfl) hF.o) rfl fun a hF=>oE hF 0 rfl rfl fun a hF=>nr<|rt Tryz.results52 hF 0 rfl ?_
 exact⟨rfl,bel⟩
end
end
end Go.Proofs.YtgdpkknapcgcbaaGreatDoor
