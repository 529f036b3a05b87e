import Derived.Test.YtdkmjclbhfnegaaDoorKA10
import Derived.Test.YtdkmjclbhfnegaaDoorKA27
import Derived.Test.YtdkmjclbhfnegaaDoorKA30
import Derived.Test.YtdkmjclbhfnegaaDoorKA31
import Derived.Test.YtdkmjclbhfnegaaDoorShd
import Derived.Maps.OwnSet
import Derived.Maps.Views
import Derived.Lib.SmallJoins
import Derived.Lib.LaidTab
namespace Go.Proofs.YtdkmjclbhfnegaaDoor
open Go.RowKit
set_option maxRecDepth 100000
set_option linter.unusedVariables false
set_option maxHeartbeats 8000000
def TabA (w:World):Prop:=Lib.TabIs Tryd.prog w "strings.asciiSpace" .u8 Lib.asciiSpaceTab
theorem globA:Tryd.prog.globalNamed "strings.asciiSpace"=some 0:=by kernel_rfl
theorem TabA.below {w w':World} (h:TabA w) (hb:Below w.heap.size w w'):TabA w':=Go.Joins.tab_stays globA h hb (Nat.le_refl _)
theorem lt_max {n:Nat} (h:n≤1000000):n≤maxLen:=by unfold maxLen;omega
theorem strC_len (L:List (List Nat)):(strC L).length =L.length:=List.length_map ..
theorem strC_noU (L:List (List Nat)):∀v∈strC L,noU v:=by
 intro v hv
 obtain⟨xs,_,rfl⟩:=List.mem_map.1 hv
 exact nuT
theorem strC_oc (L:List (List Nat)):∀v∈strC L,v.oneCell'=true:=by
 intro v hv
 obtain⟨xs,_,rfl⟩:=List.mem_map.1 hv
 rfl
theorem strC_at {L:List (List Nat)} {i:Nat} {xs:List Nat} (h:L[i]?=some xs) (more:List Value):(strC L++more)[i]?=some (.string (bstr xs)):=by
 have hl:=(List.getElem?_eq_some_iff.1 h).1
 rw[List.getElem?_append_left (by rw[strC_len];exact hl)]
 simp[strC,h]
theorem strC_at0 {L:List (List Nat)} {i:Nat} {xs:List Nat} (h:L[i]?=some xs):(strC L)[i]?=some (.string (bstr xs)):=by simp[strC,h]
theorem strC_set (L:List (List Nat)) (i:Nat) (xs:List Nat):strC (L.set i xs)=(strC L).set i (.string (bstr xs)):=List.map_set
theorem ldb_str {w:World} {g o:Nat} {cs:List Value} {v:Value} (h:Blk w g cs) (hv:cs[o]?=some v):(Instr.loadAt 9 (.pointer (some ⟨g,o,none⟩))).run Tryd.prog w= .ok v w:=blk_load1 h hv Tryd.underlying9 rfl
theorem ix_strs {w:World} {g n c i:Nat} {z:Int} (hz:z=((i:Nat):Int)) (hi:i<n):(Instr.indexAt 23 (.slice (some ⟨g,0,none⟩) n c) (.int .i64 z)).run Tryd.prog w= .ok (.pointer (some ⟨g,i,none⟩)) w:=by
 subst hz
 simp[Instr.indexAt,asIntOf,run_underlying Tryd.underlying23,Sem.run_bind,Addr.add_mid,hi]
theorem bl_strs {w:World} {ty:TypeId} {a:Option Addr} {n c:Nat}:(builtin .len #[23] ty #[false] #[.slice a n c]).run Tryd.prog w= .ok (.value (.int .i64 ((n:Nat):Int))) w:=by
 simp[Builtin.len_,go_sem,run_underlying Tryd.underlying23]
def RowT (w:World) (g:Nat) (L:List (List Nat)):Prop:=w.heap[g]?=some (.cells (strC L).toArray 9 (0,0))
theorem RowT.blk {w:World} {g:Nat} {L:List (List Nat)} (h:RowT w g L):Blk w g (strC L):=⟨_,h⟩
theorem RowT.acc {w:World} {g base n:Nat} {L:List (List Nat)} (h:RowT w g L) (hb:base≤g) (hm:L.length≤1000000) (hn:L.length=n):AccU w 1 9 base (.slice (some ⟨g,0,none⟩) n n) n (strC L):=by
 subst hn
 exact⟨⟨by rw[strC_len,Nat.mul_one],.inr ⟨g,L.length,(strC L).toArray,rfl,hb,h,Nat.le_refl _,lt_max hm,by simp[strC_len],by rw[Nat.mul_one];exact List.take_of_length_le (by rw[strC_len];exact Nat.le_refl _)⟩⟩,fun g' e=>by injection e with e;subst e;exact noU_of_all (cs:=strC L) h (strC_noU L)⟩
theorem RowT.gc {v:Value} {g:Nat} {L:List (List Nat)} (hv:v.ownBlock=some g):GCl v fun w=>RowT w g L:=fun _ _ h hb _ _=>(hb g hv).trans h
theorem RowT.lt {w:World} {g:Nat} {L:List (List Nat)} (h:RowT w g L):g<w.heap.size:=h.blk.lt
theorem RowT.gl {W:World} {g n c:Nat} {L:List (List Nat)} (hg:W.heap.size≤g):∀w,RowT w g L→∀b,(Value.slice (some ⟨g,0,none⟩) n c).ownBlock =some b→W.heap.size≤b∧b<w.heap.size:=fun _ h b e=>by
 injection e with e
 subst e
 exact⟨hg,h.lt⟩
theorem below_own {w w':World} {g base:Nat} (hg:w.grownBy w' (some g)) (hb:base≤g) (hbase:base≤w.heap.size):Below base w w':=below_grownI hg (fun g' e=>by injection e with e;omega) hbase
def atL (L:List (List Nat)) (i:Nat):List Nat:=L.getD i []
theorem atL_at {L:List (List Nat)} {i:Nat} (hi:i<L.length):L[i]?=some (atL L i):=by unfold atL;rw[List.getD_eq_getElem?_getD,List.getElem?_eq_getElem hi];rfl
theorem atL_mem {L:List (List Nat)} {i:Nat} (hi:i<L.length):atL L i∈L:=List.mem_of_getElem? (atL_at hi)
theorem RowT.set {w:World} {g i:Nat} {L:List (List Nat)} (h:RowT w g L) (hi:i<L.length) (xs:List Nat):
 ∃w',(Instr.storeAt 9 (.pointer (some ⟨g,i,none⟩)) (.string (bstr xs))).run Tryd.prog w= .ok () w'∧w.grownBy w' (some g)∧KeepU w w'∧RowT w' g (L.set i xs):=by
 obtain⟨w',hr,tu,hb⟩:=blk_store (P:=Tryd.prog) (o:=i) (n:=1) (vs:=[.string (bstr xs)]) (T:=9) h.blk sz_str rfl (by simp[strC_len];omega) (by intro v hv;rw[List.mem_singleton] at hv;subst hv;rfl) rfl
 have hk:KeepU w w':=keepU_grown (row:=some g) ⟨tu.os,tu.tape,tu.output,Nat.le_of_eq tu.size.symm,fun k _ hk=>tu.block k (fun e=>hk (by rw[e]))⟩ (fun g' e=>by injection e with e;subst e;exact noU_of_all (cs:=strC L) h (strC_noU L))
 refine⟨w',hr _ rfl,⟨tu.os,tu.tape,tu.output,Nat.le_of_eq tu.size.symm,fun k _ hk=>tu.block k (fun e=>hk (by rw[e]))⟩,hk,?_⟩
 have hst:=run_storeCells_at Tryd.prog g i 9 [.string (bstr xs)] 0 (strC L).toArray w h (by simp[strC_len];omega) (by intro v hv;rw[List.mem_singleton] at hv;subst hv;rfl)
 have hr2:=hr (.string (bstr xs)) rfl
 simp only [Nat.add_zero] at hst
 have hs:(sizeOf 9).run Tryd.prog w= .ok 1 w:=size_run sz_str w
 have e2:(Instr.storeAt 9 (.pointer (some ⟨g,i,none⟩)) (.string (bstr xs))).run Tryd.prog w= .ok () (w.setRow g ((strC L).take i++[Value.string (bstr xs)]++(strC L).drop (i+1)).toArray):=by
  simp only [Instr.storeAt,Instr.sureAddr,Sem.run_bind,Sem.run_pure,Result.andThen_ok,storeVar,hs]
  simp only [List.length_singleton] at hst
  simp[Value.cells,hst]
 rw[e2] at hr2
 injection hr2 with _ e3
 subst e3
 unfold RowT
 rw[strC_set,List.set_eq_take_append_cons_drop,if_pos (by rw[strC_len];exact hi)]
 have:=setRow_heap w g _ ((strC L).take i++[Value.string (bstr xs)]++(strC L).drop (i+1)).toArray 9 (0,0) h
 simpa using this
def RowsP (W:World) (L:List (List Nat)) (e:Ending) (w':World):Prop:=∃ad cap,e= .returned (.slice ad L.length cap)∧AccU w' 1 9 W.heap.size (.slice ad L.length cap) L.length (strC L)∧Below W.heap.size W w'
theorem wFields_lit (L:List (List Nat)) {s:ByteArray} (w:World) (hT:TabA w) (h:(Lib.fields s.data.toList).map (fun l=>Value.string ⟨l.toArray⟩)=strC L) (hn:(Lib.fields s.data.toList).length =L.length) (h8:(s.data.toList.all fun b=>decide (b.toNat<128))=true) (hs:s.size<4294967281) (hl:L.length≤1000000):
 Calls Tryd.prog 15 #[.string s] w fun e w'=>∃g,e= .returned (.slice (some ⟨g,0,none⟩) L.length L.length)∧w.heap.size=g∧RowT w' g L∧Below w.heap.size w w':=by
 refine(shd_strings_Fields s w hs (fun j b hj=>by simpa using List.all_eq_true.1 h8 b (List.mem_of_getElem? hj)) hT).mono ?_
 rintro e w' ⟨rfl,rfl⟩
 rw[h,hn]
 exact⟨_,rfl,rfl,heap_alloc_new w _,(Below.refl _ _).alloc (Nat.le_refl _) _⟩
theorem wFields_rows (L:List (List Nat)) {s:ByteArray} (w:World) (hT:TabA w) (h:(Lib.fields s.data.toList).map (fun l=>Value.string ⟨l.toArray⟩)=strC L) (hn:(Lib.fields s.data.toList).length =L.length) (h8:(s.data.toList.all fun b=>decide (b.toNat<128))=true) (hs:s.size<4294967281) (hl:L.length≤1000000):
 Calls Tryd.prog 15 #[.string s] w (RowsP w L):=by
 refine(wFields_lit L w hT h hn h8 hs hl).mono ?_
 rintro e w' ⟨g,rfl,rfl,hr,bb⟩
 exact⟨_,_,rfl,hr.acc (Nat.le_refl _) hl rfl,bb⟩
def hfL (ps:List Nat) (L:List (List Nat)) (i:Nat):List (List Nat):=(L.take i).map (ps++ ·)++L.drop i
theorem hfL_0 (ps:List Nat) (L:List (List Nat)):hfL ps L 0=L:=by simp[hfL]
theorem hfL_end (ps:List Nat) (L:List (List Nat)) {i:Nat} (h:L.length≤i):hfL ps L i=L.map (ps++ ·):=by simp[hfL,List.take_of_length_le h,List.drop_of_length_le h]
theorem hfL_len (ps:List Nat) (L:List (List Nat)) (i:Nat):(hfL ps L i).length =L.length:=by simp[hfL];omega
theorem hfL_at (ps:List Nat) {L:List (List Nat)} {i:Nat} {xs:List Nat} (h:L[i]?=some xs):(hfL ps L i)[i]?=some xs:=by
 have hl:=(List.getElem?_eq_some_iff.1 h).1
 unfold hfL
 rw[List.getElem?_append_right (by simp;omega)]
 simp[Nat.min_eq_left (Nat.le_of_lt hl),h]
theorem hfL_set (ps:List Nat) {L:List (List Nat)} {i:Nat} {xs:List Nat} (h:L[i]?=some xs):(hfL ps L i).set i (ps++xs)=hfL ps L (i+1):=by
 obtain⟨hl,hx⟩:=List.getElem?_eq_some_iff.1 h
 unfold hfL
 rw[List.set_append_right _ _ (by simp;omega),List.take_add_one,h]
 simp only [List.length_map,List.length_take,Nat.min_eq_left (Nat.le_of_lt hl),Nat.sub_self,Option.toList_some,List.map_append,List.map_cons,List.map_nil,List.append_assoc]
 rw[List.drop_eq_getElem_cons hl,hx]
 simp
def KS (xs:List Nat):Lit:= .string (bstr xs).data.toList
theorem KS_inj {xs ys:List Nat} (h:okb 256 xs) (k:okb 256 ys) (e:KS xs=KS ys):xs=ys:=by
 unfold KS at e
 injection e with e
 simp only [bstr] at e
 have e2:=congrArg (List.map UInt8.toNat) e
 simp only [List.map_map] at e2
 have f:∀zs:List Nat,okb 256 zs→zs.map (UInt8.toNat ∘ UInt8.ofNat)=zs:=fun zs hz=>by
  conv=>rhs;rw[←List.map_id zs]
  refine List.map_congr_left fun z hx=>?_
  have:=hz z hx
  simp only [Function.comp,UInt8.toNat_ofNat',id]
  exact Nat.mod_eq_of_lt this
 rwa[f xs h,f ys k] at e2
theorem KS_key (xs:List Nat):WideAt.IsKeyLit (KS xs):=trivial
def MpA (w:World) (b n:Nat) (L:List (List Nat)):Prop:=∃D:DataW Unit,w.ownsMap Tryd.prog 9 (plainElem Tryd.prog 3) b n D∧Maps.IsMap D∧
 (∀(i:Nat) xs,L[i]?=some xs→Maps.has D (KS xs)=true∧D.atKey (KS xs) (.lit (.int .i64 0))= .lit (.int .i64 (i:Int)))∧∀xs,okb 256 xs→xs ∉ L→Maps.has D (KS xs)=false
theorem MpA.made (w:World):MpA (w.alloc (.map #[] 0)) w.heap.size 0 []:=
 ⟨.map [],World.ownsMap_made _ _ _ _,Maps.isMap_empty,fun i xs h=>by simp at h,fun xs _ _=>rfl⟩
theorem MpA.lt {w:World} {b n:Nat} {L:List (List Nat)} (h:MpA w b n L):b<w.heap.size:=by obtain⟨D,h,_⟩:=h;exact h.lt
theorem MpA.gc {v:Value} {b n:Nat} {L:List (List Nat)} (hv:v.ownBlock=some b):GCl v fun w=>MpA w b n L:=by
 rintro w w' ⟨D,⟨es,clock,h1,h2⟩,h3⟩ hb _ _
 exact⟨D,⟨es,clock,(hb b hv).trans h1,h2⟩,h3⟩
theorem MpA.gl {W:World} {b n m c:Nat} {L:List (List Nat)} (hg:W.heap.size≤b):∀w,MpA w b n L→∀k,(Value.slice (some ⟨b,0,none⟩) m c).ownBlock =some k→W.heap.size≤k∧k<w.heap.size:=fun _ h k e=>by
 injection e with e
 subst e
 exact⟨hg,h.lt⟩
theorem noU_map {w:World} {b:Nat} {es:Array MapEntry} {clock:Nat} (h:w.heap[b]?=some (.map es clock)):NoU w b:=by
 intro j z e
 simp[World.cell?,h] at e
theorem key_run:Maps.Keyed Tryd.prog 9:=Maps.string_keyed Tryd.underlying9
theorem KS_of {xs:List Nat} (hl:xs.length≤1000000):keyOf Tryd.prog 9 (.string (bstr xs))=some (KS xs):=Go.WideMaps.keyOf_string_mk Tryd.underlying9 (by rw[bstr_size];exact lt_max hl)
theorem ze_run (w:World):(zeroValue 3).run Tryd.prog w= .ok (.int .i64 0) w:=zero_run ze_int w
theorem MpA.put {w:World} {b n base:Nat} {L:List (List Nat)} (h:MpA w b n L) (hn:n≤1000000) {xs:List Nat} (hx:okb 256 xs) (hl:xs.length≤1000000) (hno:xs ∉ L) (hall:∀ys∈L,okb 256 ys) (hb:base≤b) (hbase:base≤w.heap.size) {z:Int} (hz:z=(L.length:Int)) (hll:L.length≤1000000):
 ∃w',(Instr.mapUpdate 36 (.map (some b)) (.string (bstr xs)) (.int .i64 z)).run Tryd.prog w= .ok () w'∧MpA w' b (n+1) (L++[xs])∧w.grownBy w' (some b)∧Below base w w'∧KeepU w w':=by
 subst hz
 obtain⟨D,h1,h2,h3,h4⟩:=h
 obtain⟨w',hr,ho,hg⟩:=h1.update (t:=36) (e:=3) key_run Tryd.underlying36 (by unfold maxLen;omega) (KS_of hl) (plainElem_int (H:=Unit) (a:=(L.length:Int)) Tryd.underlying3 (by simp[Lit.wf,IntKind.min,IntKind.max,IntKind.bits,IntKind.signed];omega))
 obtain⟨es,clock,hh,_⟩:=h1
 refine⟨w',hr,⟨_,ho,h2.put _ _,fun i ys hi=>?_,fun ys hy hni=>?_⟩,hg,below_grownI hg (fun g e=>by injection e with e;omega) hbase,keepU_grown hg (fun g e=>by injection e with e;subst e;exact noU_map hh)⟩
 ·rcases Nat.lt_or_ge i L.length with q|q
  ·rw[List.getElem?_append_left q] at hi
   have hm:=List.mem_of_getElem? hi
   have hne:KS ys≠KS xs:=fun e=>hno (KS_inj (hall ys hm) hx e▸hm)
   rw[Maps.has_put_other hne,Maps.atKey_put_other hne]
   exact h3 i ys hi
  ·rw[List.getElem?_append_right q] at hi
   have hi0:i=L.length:=by
    have:=(List.getElem?_eq_some_iff.1 hi).1
    simp at this;omega
   subst hi0
   simp at hi
   subst hi
   exact⟨Maps.has_put_same h2 (KS_key _) _,Maps.atKey_put_same h2 (KS_key _) _ _⟩
 ·have hne:KS ys≠KS xs:=fun e=>hni (by rw[KS_inj hy hx e];simp)
  rw[Maps.has_put_other hne]
  exact h4 ys hy (fun hm=>hni (List.mem_append_left _ hm))
def fdI (L:List (List Nat)) (xs:List Nat):Int:=if xs∈L then((L.idxOf xs:Nat):Int) else 0
def fdB (L:List (List Nat)) (xs:List Nat):Bool:=decide (xs∈L)
theorem MpA.look {w:World} {b n:Nat} {L:List (List Nat)} (h:MpA w b n L) {xs:List Nat} (hx:okb 256 xs) (hl:xs.length≤1000000):
 (Instr.lookup 36 (.map (some b)) (.string (bstr xs)) true).run Tryd.prog w= .ok (.tuple #[.int .i64 (fdI L xs),.bool (fdB L xs)]) w:=by
 obtain⟨D,h1,h2,h3,h4⟩:=h
 obtain⟨v,ps,hr,hv⟩:=h1.look_ok (t:=36) (e:=3) key_run Tryd.underlying36 (ze_run w) (plainElem_int (H:=Unit) Tryd.underlying3 (by decide)) (KS_of hl)
 obtain⟨c,rfl,hc,_⟩:=plainElem_int_inv Tryd.underlying3 hv
 have hc:=congrArg Prod.fst hc
 simp only at hc
 rw[hr]
 by_cases hm:xs∈L
 ·have hi:L[L.idxOf xs]?=some xs:=by rw[List.getElem?_eq_getElem (List.idxOf_lt_length_iff.2 hm),List.getElem_idxOf]
  obtain⟨k1,k2⟩:=h3 _ _ hi
  rw[k2] at hc
  injection hc with hc
  injection hc with _ hc
  simp[fdI,fdB,hm,k1,←hc]
 ·have k1:=h4 xs hx hm
  rw[Maps.atKey_of_not_has k1] at hc
  injection hc with hc
  injection hc with _ hc
  simp[fdI,fdB,hm,k1,←hc]
theorem mm_t (w:World):∃g w',w.heap.size=g∧(Instr.makeMap 36 none).run Tryd.prog w= .ok (.map (some g)) w'∧MpA w' g 0 []∧Below w.heap.size w w':=
 ⟨_,_,rfl,run_makeMap _ w,MpA.made w,(Below.refl _ _).alloc (Nat.le_refl _) _⟩
theorem r_makeMap {P:Program} {w w':World} {a:Act} {dst:Option Tmp} {ty:TypeId} {pos:String} {af:Array Edge} {gd:Option (Nat×Bool)} {t:TypeId} {v:Value} (hl:(Instr.makeMap t none).run P w= .ok v w'):
 (execOp a.eval ⟨dst,.makeMap t none,ty,pos,af,gd⟩).run P w= .ok (.value v) w':=by
 simp only [execOp,Option.map]
 exact run_v hl
theorem r_mapUpdate {P:Program} {w w':World} {a:Act} {dst:Option Tmp} {ty:TypeId} {pos:String} {af:Array Edge} {gd:Option (Nat×Bool)} {t:TypeId} {m k x:Operand} {p q v:Value} (h:a.eval m=p) (h2:a.eval k=q) (h3:a.eval x=v) (hl:(Instr.mapUpdate t p q v).run P w= .ok () w'):
 (execOp a.eval ⟨dst,.mapUpdate t m k x,ty,pos,af,gd⟩).run P w= .ok .skip w':=by
 simp only [execOp,h,h2,h3]
 rw[Sem.run_bind,hl];rfl
theorem r_lookup {P:Program} {w:World} {a:Act} {dst:Option Tmp} {ty:TypeId} {pos:String} {af:Array Edge} {gd:Option (Nat×Bool)} {t:TypeId} {m k:Operand} {ok:Bool} {p q v:Value} (h:a.eval m=p) (h2:a.eval k=q) (hl:(Instr.lookup t p q ok).run P w= .ok v w):
 (execOp a.eval ⟨dst,.lookup t m k ok,ty,pos,af,gd⟩).run P w= .ok (.value v) w:=by
 simp only [execOp,h,h2]
 exact run_v hl
theorem sw_t {xs ys:List Nat} (h:xs=ys):(xs.map UInt8.ofNat == ys.map UInt8.ofNat)=true:=by subst h;simp
theorem sw_f {xs ys:List Nat} (h:¬xs=ys) (h1:okb 256 xs) (h2:okb 256 ys):(xs.map UInt8.ofNat == ys.map UInt8.ofNat)=false:=by
 rw[beq_eq_false_iff_ne]
 intro e
 exact h (KS_inj h1 h2 (by unfold KS bstr;simp[e]))
end Go.Proofs.YtdkmjclbhfnegaaDoor
