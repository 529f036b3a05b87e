import Derived.Test.YtdkmjclbhfnegaaDoorKA25
import Derived.Test.YtdkmjclbhfnegaaDoorKA26
namespace Go.Proofs.YtdkmjclbhfnegaaDoor
open Go.RowKit
set_option maxRecDepth 100000
set_option linter.unusedVariables false
set_option maxHeartbeats 8000000
theorem sls_2 {P:Program} {w:World} {t:TypeId} {xs:List Nat} {y z:Int} {i j:Nat} (ht:P.underlying t=some .string) (hy:y=((i:Nat):Int)) (hz:z=((j:Nat):Int)) (hi:i≤j) (hj:j≤xs.length):(Instr.sliceAt t (.string (bstr xs)) (some (.int .i64 y)) (some (.int .i64 z)) none).run P w= .ok (.string (bstr (List.drop i (List.take j xs)))) w:=by
 subst hy hz
 have e:(bstr xs).extract i j=bstr (List.drop i (List.take j xs)):=by
  apply ByteArray.ext
  simp[bstr,ByteArray.data_extract,List.drop_take]
 have h1:¬((xs.length:Int)<(j:Int)):=by omega
 have h2:¬((j:Int)<(i:Int)):=by omega
 simp[Instr.sliceAt,Instr.slice,Instr.sliceBounds,Instr.sliceBound,asIntOf,run_underlying ht,Sem.run_bind,go_sem,bstr_size,e,hj,hi]
theorem r_slice2 {P:Program} {w:World} {a:Act} {dst:Option Tmp} {ty:TypeId} {pos:String} {af:Array Edge} {gd:Option (Nat×Bool)} {t:TypeId} {x lo hi:Operand} {p q r v:Value} (h:a.eval x=p) (h2:a.eval lo=q) (h3:a.eval hi=r) (hl:(Instr.sliceAt t p (some q) (some r) none).run P w= .ok v w):
 (execOp a.eval ⟨dst,.slice t x (some lo) (some hi) none,ty,pos,af,gd⟩).run P w= .ok (.value v) w:=by
 simp only [execOp,h,h2,h3,Option.map]
 exact run_v hl
theorem take1_drop {xs:List Nat} {i:Nat} (h:i<xs.length):List.drop i (List.take (i+1) xs)=[lg xs i]:=by
 rw[List.take_add_one,List.getElem?_eq_getElem h,List.drop_append_of_le_length (by rw[List.length_take];omega),List.drop_of_length_le (by rw[List.length_take];omega)]
 simp[lg,List.getD_eq_getElem?_getD,List.getElem?_eq_getElem h]
theorem nuT {s:ByteArray}:noU (.string s):=fun y e=>by cases e
theorem ocT {s:ByteArray} {l:List Value} (h:∀v∈l,v.oneCell'=true):∀v∈(.string s::l),v.oneCell'=true:=by
 intro v hv
 rcases List.mem_cons.1 hv with rfl|hv
 ·rfl
 ·exact h v hv
theorem infoU_t:∃i z,Tryd.prog.info? 9=some i∧i.zero=some z∧i.size=1∧i.bytes=16∧z.cells.size=1∧∀u∈z.cells.toList,noU u:=by
 have h1:(Tryd.prog.info? 9).map (·.size)=some 1:=by kernel_rfl
 have h2:(Tryd.prog.info? 9).bind (·.zero)=some (.string ⟨#[]⟩):=by kernel_rfl
 have h3:(Tryd.prog.info? 9).map (·.bytes)=some 16:=by kernel_rfl
 cases hq:Tryd.prog.info? 9 with
 |none=>rw[hq] at h1;cases h1
 |some i=>exact⟨i,.string ⟨#[]⟩,rfl,by simpa[hq] using h2,by simpa[hq] using h1,by simpa[hq] using h3,rfl,(show ∀u∈[Value.string ⟨#[]⟩],noU u from nuC nuT nu0)⟩
theorem sz_str:(Tryd.prog.info? 9).map (·.size)=some 1:=by kernel_rfl
theorem bsU0_t (w:World) (base:Nat) (hb:base≤w.heap.size):∃g w',w.heap.size=g∧(Instr.buildSlice 23 0 #[]).run Tryd.prog w= .ok (.slice (some ⟨g,0,none⟩) 0 0) w'∧Below w.heap.size w w'∧AccU w' 1 9 base (.slice (some ⟨g,0,none⟩) 0 0) 0 []:=by
 have hn:=blk_new (w:=w) (cs:=[]) 9
 refine⟨w.heap.size,w.alloc (.cells #[] 9),rfl,?_,hn.2,⟨⟨rfl,.inr ⟨w.heap.size,0,#[],rfl,hb,heap_alloc_new w _,Nat.le_refl _,Nat.zero_le _,rfl,rfl⟩⟩,fun g e=>?_⟩⟩
 ·have hs:=size_run (P:=Tryd.prog) (T:=9) (n:=1) sz_str w
  simp[Instr.buildSlice,go_sem,hs,Instr.fill,newRow]
 ·injection e with e
  subst e
  exact noU_of_all (cs:=[]) (heap_alloc_new w _) nu0
theorem bsL_t (w:World) (s:ByteArray):∃g w',(Instr.buildSlice 23 1 #[(0,.string s)]).run Tryd.prog w= .ok (.slice (some ⟨g,0,none⟩) 1 1) w'∧w.heap.size=g∧Below w.heap.size w w'∧Blk w' g [.string s]:=by
 have hb:=blk_new (w:=w) (cs:=[.string s]) 9
 refine⟨w.heap.size,w.alloc (.cells #[.string s] 9),?_,rfl,hb.2,hb.1⟩
 have hs:=size_run (P:=Tryd.prog) (T:=9) (n:=1) sz_str w
 simp[Instr.buildSlice,go_sem,hs,Instr.fill,Value.cells,newRow]
theorem putU_t {w:World} {base:Nat} {v:Value} {n:Nat} {rs:List Value} (h:AccU w 1 9 base v n rs) {gs:Nat} {s:ByteArray} (hs:Blk w gs [.string s]) (hl:n≤1000000) (bel:base≤w.heap.size) {ty:TypeId}:
 ∃ad cap w',(builtin .append #[23,23] ty #[false,false] #[v,.slice (some ⟨gs,0,none⟩) 1 1]).run Tryd.prog w= .ok (.value (.slice ad (n+1) cap)) w'∧AccU w' 1 9 base (.slice ad (n+1) cap) (n+1) (rs++[.string s])∧w.grownBy w' v.ownBlock∧Below base w w'∧KeepU w w'∧∀b,b<w.heap.size→v.ownBlock≠some b→(Value.slice ad (n+1) cap).ownBlock ≠some b:=
 AccU.put Tryd.underlying23 infoU_t (by decide) (by decide) h hs (nuC nuT nu0) rfl (ocT oc0) hl bel
def spB (out:List (List Nat)) (word:List Nat):List Nat→List (List Nat)
 |[]=>out++[word]
 |c::cs=>if c=32 then spB (out++[word]) [] cs else spB out (word++[c]) cs
theorem spB_at {out:List (List Nat)} {word xs:List Nat} {i:Nat} (h:i<xs.length):spB out word (xs.drop i)=if lg xs i=32 then spB (out++[word]) [] (xs.drop (i+1)) else spB out (word++[lg xs i]) (xs.drop (i+1)):=by
 rw[List.drop_eq_getElem_cons h]
 have e:lg xs i=xs[i]:=by simp[lg,List.getD_eq_getElem?_getD,List.getElem?_eq_getElem h]
 rw[e]
 rfl
theorem spB_end {out:List (List Nat)} {word xs:List Nat} {i:Nat} (h:xs.length≤i):spB out word (xs.drop i)=out++[word]:=by rw[List.drop_of_length_le h];rfl
def strC (l:List (List Nat)):List Value:=l.map fun xs=> .string (bstr xs)
theorem strC_app (k l:List (List Nat)):strC (k++l)=strC k++strC l:=List.map_append
theorem bstr_at2 {xs:List Nat} {j:Nat} (hj:j<xs.length) (h8:okb 256 xs):(bstr xs)[j]?=some (UInt8.ofNat (lg xs j)):=by
 have hs:j<(bstr xs).size :=by rw[bstr_size];exact hj
 rw[getElem?_pos (bstr xs) j hs,lg_get hj]
 congr 1
 show(bstr xs).data[j]=_
 simp[bstr]
theorem ixs2 {P:Program} {w:World} {t:TypeId} {xs:List Nat} {z:Int} {j:Nat} (ht:P.underlying t=some .string) (hz:z=((j:Nat):Int)) (hj:j<xs.length) (h8:okb 256 xs):(Instr.index t (.string (bstr xs)) (.int .i64 z)).run P w= .ok (.int .u8 ((lg xs j:Nat):Int)) w:=by
 subst hz
 have hb:=lg_lt h8 (by decide) j
 unfold Instr.index
 simp only [asIntOf,Sem.run_bind,Sem.run_pure,Result.andThen_ok,run_underlying ht]
 rw[if_pos (by omega),show((j:Nat):Int).toNat =j by omega,bstr_at2 hj h8]
 simp only [Sem.run_pure]
 rw[UInt8.toNat_ofNat',Nat.mod_eq_of_lt hb]
theorem r_ixw {P:Program} {w:World} {a:Act} {dst:Option Tmp} {ty:TypeId} {pos:String} {af:Array Edge} {gd:Option (Nat×Bool)} {t:TypeId} {x i:Operand} {p q v:Value} (h:a.eval x=p) (h2:a.eval i=q) (hl:(Instr.index t p q).run P w= .ok v w):
 (execOp a.eval ⟨dst,.index t x i,ty,pos,af,gd⟩).run P w= .ok (.value v) w:=by
 simp only [execOp,h,h2]
 exact run_v hl
theorem sls_1 {P:Program} {w:World} {t:TypeId} {xs:List Nat} {y z:Int} {i:Nat} (ht:P.underlying t=some .string) (hy:y=((i:Nat):Int)) (hz:z=((i:Nat):Int)+1) (hi:i<xs.length):(Instr.sliceAt t (.string (bstr xs)) (some (.int .i64 y)) (some (.int .i64 z)) none).run P w= .ok (.string (bstr [lg xs i])) w:=by
 rw[←take1_drop hi]
 exact sls_2 ht hy (by omega) (by omega) (by omega)
end Go.Proofs.YtdkmjclbhfnegaaDoor
