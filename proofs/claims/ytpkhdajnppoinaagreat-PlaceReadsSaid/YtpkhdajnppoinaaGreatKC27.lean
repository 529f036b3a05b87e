import Derived.Test.YtpkhdajnppoinaaGreatKC26
namespace Go.Proofs.YtpkhdajnppoinaaGreat
open Go.RowKit
set_option maxRecDepth 100000
set_option linter.unusedVariables false
set_option maxHeartbeats 8000000
section
section
theorem r_ixv {P:Program} {w:World} {a:Act} {dst:Option Tmp} {ty:TypeId} {pos:String} {af:Array Edge} {gd:Option (Nat×Bool)} {t:TypeId} {x i:Operand} {p q v:Value} (h:a.eval x=p) (h2:a.eval i=q) (hl:(Instr.index t p q).run P w= .ok v w):
 (execOp a.eval ⟨dst,.index t x i,ty,pos,af,gd⟩).run P w= .ok (.value v) w:=by
 simp only [execOp,h,h2]
 exact run_v hl
theorem bstr_at {xs:List Nat} {j:Nat} (hj:j<xs.length) (h8:okb 256 xs):(bstr xs)[j]?=some (UInt8.ofNat (lg xs j)):=by
 have hs:j<(bstr xs).size :=by rw[bstr_size];exact hj
 rw[getElem?_pos (bstr xs) j hs,lg_get hj]
 congr 1
 show(bstr xs).data[j]=_
 simp[bstr]
theorem ixs {P:Program} {w:World} {t:TypeId} {xs:List Nat} {z:Int} {j:Nat} (ht:P.underlying t=some .string) (hz:z=((j:Nat):Int)) (hj:j<xs.length) (h8:okb 256 xs):(Instr.index t (.string (bstr xs)) (.int .i64 z)).run P w= .ok (.int .u8 ((lg xs j:Nat):Int)) w:=by
 subst hz
 have hb:=lg_lt h8 (by decide) j
 unfold Instr.index
 simp only [asIntOf,Sem.run_bind,Sem.run_pure,Result.andThen_ok,run_underlying ht]
 rw[if_pos (by omega),show((j:Nat):Int).toNat =j by omega,bstr_at hj h8]
 simp only [Sem.run_pure]
 rw[UInt8.toNat_ofNat',Nat.mod_eq_of_lt hb]
instance (b:Nat) (xs:List Nat):Decidable (okb b xs):=by unfold okb;infer_instance
theorem streq_t {xs ys:List Nat} (h:xs=ys):(xs.map UInt8.ofNat == ys.map UInt8.ofNat)=true:=by subst h;simp
theorem streq_f {xs ys:List Nat} (h:¬xs=ys) (h1:okb 256 xs) (h2:okb 256 ys):(xs.map UInt8.ofNat == ys.map UInt8.ofNat)=false:=by
 apply Bool.eq_false_iff.2
 intro e
 exact h (bstr_inj h1 h2 (by simpa using e))
theorem strne_t {xs ys:List Nat} (h:xs=ys):(!(xs.map UInt8.ofNat == ys.map UInt8.ofNat))=false:=by rw[streq_t h];rfl
theorem strne_f {xs ys:List Nat} (h:¬xs=ys) (h1:okb 256 xs) (h2:okb 256 ys):(!(xs.map UInt8.ofNat == ys.map UInt8.ofNat))=true:=by rw[streq_f h h1 h2];rfl
def Plain (xs:List Nat):Prop:=(∀j,j<xs.length→48≤lg xs j∧lg xs j≤57)∧xs≠[]∧lg xs 0≠48
instance (xs:List Nat):Decidable (Plain xs):=by unfold Plain;infer_instance
theorem dg_more {xs:List Nat} {j:Nat} (h:∀i,i<j→48≤lg xs i∧lg xs i≤57) (hj:48≤lg xs j∧lg xs j≤57):∀i,i<j+1→48≤lg xs i∧lg xs i≤57:=by
 intro i hi
 by_cases e:i=j
 ·subst e;exact hj
 ·exact h i (by omega)
theorem en98:(Tryz.f98.name == "runtime.NumGoroutine")=false∧Tryz.f98.body.isNone=false:=⟨by decide+kernel,by kernel_rfl⟩
theorem en109:(Tryz.f109.name == "runtime.NumGoroutine")=false∧Tryz.f109.body.isNone=false:=⟨by decide+kernel,by kernel_rfl⟩
theorem en113:(Tryz.f113.name == "runtime.NumGoroutine")=false∧Tryz.f113.body.isNone=false:=⟨by decide+kernel,by kernel_rfl⟩
theorem plain_any (xs:List Nat) (w:World) (h8:okb 256 xs) (hl:xs.length≤1000000000):
 Calls Tryz.prog 99 #[.string (bstr xs)] w (ValPost w (.bool (decide (Plain xs)))):=by
 have bel:Below w.heap.size w w:=Below.refl _ _
 refine E.enter (nt:=27) (L:=[(0,.string (bstr xs))]) Tryz.func99 rfl rfl rfl (args_cons (i:=0) rfl args_nil) ?_
 intro a hF
 refine wp_seq ?_
 refine E.seq ?_
 refine E.opv hF (r_assign ev_c) rfl rfl rfl rfl fun a hF=>?_
 refine E.nil ?_
 refine wp_seq ?_
 refine wp_seq ?_
 refine E.seq ?_
 refine E.opv hF (r_move (hF.at 1 rfl)) rfl rfl rfl rfl fun a hF=>?_
 refine E.opv hF (r_builtin (map1 (hF.at 0 rfl)) (bl_str Tryz.underlying9)) rfl rfl rfl rfl fun a hF=>?_
 refine E.opv hF (r_move ev_c) rfl rfl rfl rfl fun a hF=>?_
 refine E.nil ?_
 refine wp_block ?_
 refine E.loop (fun mq a wv=>∃(j:Nat),j≤xs.length∧(∀i,i<j→48≤lg xs i∧lg xs i≤57)∧Fr 27 a [(6,.int .i64 ((j:Nat):Int)),(5,.int .i64 ((List.length (xs):Nat):Int)),(0,.string (bstr xs))]∧Below w.heap.size w wv∧Below w.heap.size w wv∧mq=xs.length-j) (xs.length-0) ?_ ?_
 ·exact⟨0,(Nat.zero_le _),(fun i hi=>absurd hi (by omega)),Fr.sub (L':=[(6,.int .i64 ((0:Nat):Int)),(5,.int .i64 ((List.length (xs):Nat):Int)),(0,.string (bstr xs))]) hF (by intro p hp;simp only [List.mem_cons,List.not_mem_nil,or_false] at hp ⊢;rcases hp with rfl|rfl|rfl <;> simp),Below.refl _ _,bel,rfl⟩
 ·rintro mq a w1 ⟨j,hj,hd,hF,sty,bel,hm⟩
  by_cases hjn:j<xs.length
  ·refine wp_seq ?_
   refine E.seq ?_
   refine E.opv hF (r_bin (hF.at 0 rfl) (hF.at 1 rfl) eg_scalar (bi_int (ic_lss (c:=true) (dec_tt (by omega))) (by simp))) rfl rfl rfl rfl fun a hF=>?_
   refine E.nil ?_
   refine wp_seq ?_
   refine wp_cond_true (hF.at 0 rfl) ?_
   refine wp_skip ?_
   refine E.norm ?_
   refine wp_seq ?_
   refine wp_block ?_
   refine wp_seq ?_
   refine E.seq ?_
   refine E.opv hF (r_move (hF.at 1 rfl)) rfl rfl rfl rfl fun a hF=>?_
   refine E.opv hF (r_assign (hF.at 0 rfl)) rfl rfl rfl rfl fun a hF=>?_
   refine E.nil ?_
   refine wp_seq ?_
   refine E.seq ?_
   refine E.opv hF (r_move (hF.at 5 rfl)) rfl rfl rfl rfl fun a hF=>?_
   refine E.opv hF (r_move (hF.at 1 rfl)) rfl rfl rfl rfl fun a hF=>?_
   refine E.opv hF (r_ixv (hF.at 1 rfl) (hF.at 0 rfl) (ixs (xs:=xs) (j:=j) Tryz.underlying9 (by omega) (by omega) (by assumption))) rfl rfl rfl rfl fun a hF=>?_
   by_cases hc2:((lg (xs) j:Nat):Int)<48
   ·refine E.opv hF (r_bin (hF.at 0 rfl) ev_c eg_scalar (bi_int (ic_lss (c:=true) (dec_tt hc2)) (by simp))) rfl rfl rfl rfl fun a hF=>?_
    refine E.opv hF (r_move (hF.at 0 rfl)) rfl rfl rfl rfl fun a hF=>?_
    refine E.unwanted hF (wanted_by rfl rfl (hF.at 0 rfl) rfl) rfl rfl rfl fun a hF=>?_
    refine E.unwanted hF (wanted_by rfl rfl (hF.at 1 rfl) rfl) rfl rfl rfl fun a hF=>?_
    refine E.unwanted hF (wanted_by rfl rfl (hF.at 2 rfl) rfl) rfl rfl rfl fun a hF=>?_
    refine E.unwanted hF (wanted_by rfl rfl (hF.at 3 rfl) rfl) rfl rfl rfl fun a hF=>?_
    refine E.opv hF (r_pick_t (hF.at 4 rfl) ev_c) rfl rfl rfl rfl fun a hF=>?_
    refine E.nil ?_
    refine wp_cond_true (hF.at 0 rfl) ?_
    refine wp_seq ?_
    refine E.seq ?_
    refine E.opv hF (r_assign ev_c) rfl rfl rfl rfl fun a hF=>?_
    refine E.nil ?_
    refine wp_ret ?_
    refine bodyPost_ret (res_tmp Tryz.results99 (hF.at 0 rfl)) hF.dfr ?_
    refine⟨rv_bool ?_,bel⟩
    exact(decide_eq_false fun h=>by have:=h.1 j hjn;omega).symm
   ·refine E.opv hF (r_bin (hF.at 0 rfl) ev_c eg_scalar (bi_int (ic_lss (c:=false) (dec_ff hc2)) (by simp))) rfl rfl rfl rfl fun a hF=>?_
    refine E.opv hF (r_move (hF.at 0 rfl)) rfl rfl rfl rfl fun a hF=>?_
    refine E.opvg hF (r_move (hF.at 10 rfl)) (wanted_by rfl rfl (hF.at 0 rfl) rfl) rfl rfl rfl fun a hF=>?_
    refine E.opvg hF (r_move (hF.at 6 rfl)) (wanted_by rfl rfl (hF.at 1 rfl) rfl) rfl rfl rfl fun a hF=>?_
    refine E.opvg hF (r_ixv (hF.at 1 rfl) (hF.at 0 rfl) (ixs (xs:=xs) (j:=j) Tryz.underlying9 (by omega) (by omega) (by assumption))) (wanted_by rfl rfl (hF.at 2 rfl) rfl) rfl rfl rfl fun a hF=>?_
    by_cases hc3:57<((lg (xs) j:Nat):Int)
    ·refine E.opvg hF (r_bin (hF.at 0 rfl) ev_c eg_scalar (bi_int (ic_gtr (c:=true) (dec_tt hc3)) (by simp))) (wanted_by rfl rfl (hF.at 3 rfl) rfl) rfl rfl rfl fun a hF=>?_
     refine E.opv hF (r_pick_f (hF.at 4 rfl) (hF.at 0 rfl)) rfl rfl rfl rfl fun a hF=>?_
     refine E.nil ?_
     refine wp_cond_true (hF.at 0 rfl) ?_
     refine wp_seq ?_
     refine E.seq ?_
     refine E.opv hF (r_assign ev_c) rfl rfl rfl rfl fun a hF=>?_
     refine E.nil ?_
     refine wp_ret ?_
     refine bodyPost_ret (res_tmp Tryz.results99 (hF.at 0 rfl)) hF.dfr ?_
     refine⟨rv_bool ?_,bel⟩
     exact(decide_eq_false fun h=>by have:=h.1 j hjn;omega).symm
    ·refine E.opvg hF (r_bin (hF.at 0 rfl) ev_c eg_scalar (bi_int (ic_gtr (c:=false) (dec_ff hc3)) (by simp))) (wanted_by rfl rfl (hF.at 3 rfl) rfl) rfl rfl rfl fun a hF=>?_
     refine E.opv hF (r_pick_f (hF.at 4 rfl) (hF.at 0 rfl)) rfl rfl rfl rfl fun a hF=>?_
     refine E.nil ?_
     refine wp_cond_false (hF.at 0 rfl) ?_
     refine wp_skip ?_
     refine E.blk ?_
     refine E.norm ?_
     refine E.seq ?_
     refine E.opv hF (r_bin (hF.at 13 rfl) ev_c eg_scalar (ia_add (by omega) (by omega))) rfl rfl rfl rfl fun a hF=>?_
     refine E.opset (L':=[(6,.int .i64 (((j:Nat):Int)+1)),(19,.int .i64 (((j:Nat):Int)+1)),(18,.bool false),(17,.bool false),(16,.int .u8 ((lg (xs) j:Nat):Int)),(15,.int .i64 ((j:Nat):Int)),(14,.string (bstr xs)),(13,.bool false),(12,.bool false),(11,.int .u8 ((lg (xs) j:Nat):Int)),(10,.int .i64 ((j:Nat):Int)),(9,.string (bstr xs)),(3,.int .i64 ((j:Nat):Int)),(8,.int .i64 ((j:Nat):Int)),(7,.bool true),(5,.int .i64 ((List.length (xs):Nat):Int)),(0,.string (bstr xs))]) hF (r_move (hF.at 0 rfl)) rfl rfl rfl rfl fun a hF=>?_
     refine E.nil0 ?_
     refine E.norm ?_
     exact⟨xs.length-(j+1),by omega,⟨(j+1),(by omega),(dg_more hd ⟨by omega,by omega⟩),(by rw[show((j+1:Nat):Int)=((j:Nat):Int)+1 from by omega];exact Fr.sub (L':=[(6,.int .i64 (((j:Nat):Int)+1)),(5,.int .i64 ((List.length (xs):Nat):Int)),(0,.string (bstr xs))]) hF (by intro p hp;simp only [List.mem_cons,List.not_mem_nil,or_false] at hp ⊢;rcases hp with rfl|rfl|rfl <;> simp)),sty,bel,rfl⟩⟩
  ·refine wp_seq ?_
   refine E.seq ?_
   refine E.opv hF (r_bin (hF.at 0 rfl) (hF.at 1 rfl) eg_scalar (bi_int (ic_lss (c:=false) (dec_ff (by omega))) (by simp))) rfl rfl rfl rfl fun a hF=>?_
   refine E.nil ?_
   refine wp_seq ?_
   refine wp_cond_false (hF.at 0 rfl) ?_
   refine wp_exit ?_
   refine E.past ?_
   refine E.past ?_
   refine E.out (id:=0) ?_
   refine E.norm ?_
   refine wp_seq ?_
   refine E.seq ?_
   refine E.opv hF (r_move (hF.at 3 rfl)) rfl rfl rfl rfl fun a hF=>?_
   by_cases hc2:xs=[]
   ·refine E.opv hF (r_bin (hF.at 0 rfl) ev_c eg_str (sb_ne (xs:=xs) (ys:=[]) (strne_t hc2))) rfl rfl rfl rfl fun a hF=>?_
    refine E.opv hF (r_move (hF.at 0 rfl)) rfl rfl rfl rfl fun a hF=>?_
    refine E.unwanted hF (wanted_by rfl rfl (hF.at 0 rfl) rfl) rfl rfl rfl fun a hF=>?_
    refine E.unwanted hF (wanted_by rfl rfl (hF.at 1 rfl) rfl) rfl rfl rfl fun a hF=>?_
    refine E.unwanted hF (wanted_by rfl rfl (hF.at 2 rfl) rfl) rfl rfl rfl fun a hF=>?_
    refine E.opv hF (r_pick_f (hF.at 3 rfl) ev_c) rfl rfl rfl rfl fun a hF=>?_
    refine E.opv hF (r_assign (hF.at 0 rfl)) rfl rfl rfl rfl fun a hF=>?_
    refine E.nil ?_
    refine wp_ret ?_
    refine bodyPost_ret (res_tmp Tryz.results99 (hF.at 0 rfl)) hF.dfr ?_
    refine⟨rv_bool ?_,bel⟩
    exact(decide_eq_false fun h=>h.2.1 hc2).symm
   ·refine E.opv hF (r_bin (hF.at 0 rfl) ev_c eg_str (sb_ne (xs:=xs) (ys:=[]) (strne_f hc2 (by assumption) (okb_nil _)))) rfl rfl rfl rfl fun a hF=>?_
    refine E.opv hF (r_move (hF.at 0 rfl)) rfl rfl rfl rfl fun a hF=>?_
    refine E.opvg hF (r_move (hF.at 6 rfl)) (wanted_by rfl rfl (hF.at 0 rfl) rfl) rfl rfl rfl fun a hF=>?_
    refine E.opvg hF (r_ixv (hF.at 0 rfl) ev_c (ixs (xs:=xs) (j:=0) Tryz.underlying9 (by omega) (List.length_pos_iff.2 (by assumption)) (by assumption))) (wanted_by rfl rfl (hF.at 1 rfl) rfl) rfl rfl rfl fun a hF=>?_
    by_cases hc3:((lg (xs) 0:Nat):Int)≠48
    ·refine E.opvg hF (r_bin (hF.at 0 rfl) ev_c eg_scalar (bi_int (ic_neq (c:=true) (dec_tt hc3)) (by simp))) (wanted_by rfl rfl (hF.at 2 rfl) rfl) rfl rfl rfl fun a hF=>?_
     refine E.opv hF (r_pick_t (hF.at 3 rfl) (hF.at 0 rfl)) rfl rfl rfl rfl fun a hF=>?_
     refine E.opv hF (r_assign (hF.at 0 rfl)) rfl rfl rfl rfl fun a hF=>?_
     refine E.nil ?_
     refine wp_ret ?_
     refine bodyPost_ret (res_tmp Tryz.results99 (hF.at 0 rfl)) hF.dfr ?_
     refine⟨rv_bool ?_,bel⟩
     exact(decide_eq_true ⟨fun i hi=>hd i (by omega),by assumption,by omega⟩).symm
    ·refine E.opvg hF (r_bin (hF.at 0 rfl) ev_c eg_scalar (bi_int (ic_neq (c:=false) (dec_ff hc3)) (by simp))) (wanted_by rfl rfl (hF.at 2 rfl) rfl) rfl rfl rfl fun a hF=>?_
     refine E.opv hF (r_pick_t (hF.at 3 rfl) (hF.at 0 rfl)) rfl rfl rfl rfl fun a hF=>?_
     refine E.opv hF (r_assign (hF.at 0 rfl)) rfl rfl rfl rfl fun a hF=>?_
     refine E.nil ?_
     refine wp_ret ?_
     refine bodyPost_ret (res_tmp Tryz.results99 (hF.at 0 rfl)) hF.dfr ?_
     refine⟨rv_bool ?_,bel⟩
     exact(decide_eq_false fun h=>h.2.2 (by omega)).symm
end
section
def dv (xs:List Nat):Nat→Nat
 |0=>0
 |j+1=>dv xs j*10+(lg xs j-48)
theorem dv_lt {xs:List Nat}:∀ {j:Nat},(∀i,i<j→48≤lg xs i∧lg xs i≤57)→dv xs j<10^j
 |0,_=>by simp[dv]
 |j+1,h=>by
  have ih:=dv_lt (xs:=xs) (j:=j) fun i hi=>h i (by omega)
  have k:=h j (by omega)
  rw[Nat.pow_succ]
  show dv xs j*10+(lg xs j-48)<_
  omega
theorem ten_lim {j n:Nat} (hj:j≤1000) (hn:106≤n):10^j<B32^n:=by
 obtain⟨k,hk⟩:∃k,k=125:=⟨_,rfl⟩
 have h1:10^j≤10^(8*k):=Nat.pow_le_pow_right (by decide) (by omega)
 have h2:10^(8*k)≤2^(27*k):=by
  rw[Nat.pow_mul,Nat.pow_mul]
  exact Nat.pow_le_pow_left (by decide) k
 have h3:2^(27*k)<2^(32*n):=Nat.pow_lt_pow_right (by decide) (by omega)
 have h4:B32^n=2^(32*n):=by rw[Nat.pow_mul,show B32=2^32 from rfl]
 omega
theorem lim_val {xs:List Nat} {X W P j:Nat} (h:X*W+P=dv xs j) (hW:1≤W) (hd:∀i,i<j→48≤lg xs i∧lg xs i≤57) (hj:j≤1000):Lim X 106:=by
 have h1:=dv_lt hd
 have h2:X*1≤X*W:=Nat.mul_le_mul_left _ hW
 have h3:=ten_lim hj (Nat.le_refl 106)
 unfold Lim
 omega
def Ten (W:Nat):Prop:=W=1∨W=10∨W=100∨W=1000∨W=10000∨W=100000∨W=1000000∨W=10000000∨W=100000000
theorem Ten.bd {W:Nat} (h:Ten W):1≤W∧W≤100000000:=by unfold Ten at h;omega
theorem Ten.up {W:Nat} (h:Ten W) (h':¬((W:Nat):Int)*10=1000000000):Ten (W*10):=by unfold Ten at*;omega
theorem val_more {X W P D d:Nat} (h:X*W+P=D):X*(W*10)+(P*10+d)=D*10+d:=by
 rw[←h,Nat.add_mul,←Nat.mul_assoc];omega
theorem of_int (z:Int) (n:Nat) (w:World) (hz:z=((n:Nat):Int)) (hn:n<18446744073709551616):Calls Tryz.prog 31 #[.int .u64 z] w (DgPost w n):=by subst hz;exact of_any n w hn
theorem nat0p (w:World):∃v w',(Instr.buildSlice 42 0 #[]).run Tryz.prog w= .ok v w'∧Below w.heap.size w w'∧Dg w' .u32 B32 v 0:=by
 have hs:=size_run (P:=Tryz.prog) (T:=96) (n:=1) (by kernel_rfl) w
 refine⟨.slice (some ⟨w.heap.size,0,none⟩) 0 0,w.alloc (.cells #[] 96),?_,(Below.refl _ _).alloc (Nat.le_refl _) _,?_⟩
 ·simp[Instr.buildSlice,go_sem,hs,Instr.fill,newRow]
 ·have e:dg B32 0=[]:=by simp[dg]
  unfold Dg
  rw[e]
  exact⟨some ⟨w.heap.size,0,none⟩,0,rfl,⟨fun i hi=>absurd hi (by simp)⟩,by simp,by unfold maxLen;omega,by simp,fun h=>by cases h⟩
theorem add_dl {N M:Nat} (h1:Lim N (106+1)) (h2:Lim M 1):dl B32 (N+M)≤1099511627776:=(Lim.add h1 h2 108 (by decide) (by decide)).dl _ (by decide)
theorem value_any (xs:List Nat) (w:World) (h8:okb 256 xs) (hd:∀i,i<xs.length→48≤lg xs i∧lg xs i≤57) (hl:xs.length≤1000):
 Calls Tryz.prog 100 #[.string (bstr xs)] w (DgPost w (dv xs xs.length)):=by
 have bel:Below w.heap.size w w:=Below.refl _ _
 refine E.enter (nt:=41) (L:=[(0,.string (bstr xs))]) Tryz.func100 rfl rfl rfl (args_cons (i:=0) rfl args_nil) ?_
 intro a hF
 refine wp_seq ?_
 refine E.seq ?_
 refine E.opv hF (r_assign ev_c) rfl rfl rfl rfl fun a hF=>?_
 refine E.nil ?_
 refine wp_seq ?_
 refine E.seq ?_
 obtain⟨vv1,w2,hr,bb,hh3⟩:=nat0p w
 refine E.opv hF (r_buildSlice (by simp) hr) rfl rfl rfl rfl fun a hF=>?_
 clear hr
 replace bel:=below_to bel bb
 clear bb
 obtain⟨ad4,n4,c4,rfl⟩:=Dg.form hh3
 refine E.opv hF (r_assign (hF.at 0 rfl)) rfl rfl rfl rfl fun a hF=>?_
 refine E.nil ?_
 refine wp_seq ?_
 refine E.seq ?_
 refine E.opv hF (r_assign ev_c) rfl rfl rfl rfl fun a hF=>?_
 refine E.opv hF (r_assign ev_c) rfl rfl rfl rfl fun a hF=>?_
 refine E.nil ?_
 refine wp_seq ?_
 refine wp_seq ?_
 refine E.seq ?_
 refine E.opv hF (r_move (hF.at 5 rfl)) rfl rfl rfl rfl fun a hF=>?_
 refine E.opv hF (r_builtin (map1 (hF.at 0 rfl)) (bl_str Tryz.underlying9)) rfl rfl rfl rfl fun a hF=>?_
 refine E.opv hF (r_move ev_c) rfl rfl rfl rfl fun a hF=>?_
 refine E.nil ?_
 refine wp_block ?_
 refine E.loop (fun mq a wv=>∃(j:Nat) (vx:Value) (X:Nat) (P:Nat) (W:Nat),j≤xs.length∧X*W+P=dv xs j∧P<W∧Ten W∧(j=xs.length→W=1)∧Fr 41 a [(10,.int .i64 ((j:Nat):Int)),(9,.int .i64 ((List.length (xs):Nat):Int)),(5,.int .u64 ((W:Nat):Int)),(4,.int .u64 ((P:Nat):Int)),(3,vx),(2,.slice none 0 0),(0,.string (bstr xs))]∧Below w.heap.size w wv∧Dg wv .u32 B32 vx X∧mq=xs.length-j) (xs.length-0) ?_ ?_
 ·exact⟨0,(.slice ad4 n4 c4),0,0,1,(Nat.zero_le _),(by rfl),(by decide),(.inl rfl),(fun _=>rfl),Fr.sub (L':=[(10,.int .i64 ((0:Nat):Int)),(9,.int .i64 ((List.length (xs):Nat):Int)),(5,.int .u64 ((1:Nat):Int)),(4,.int .u64 ((0:Nat):Int)),(3,.slice ad4 n4 c4),(2,.slice none 0 0),(0,.string (bstr xs))]) hF (by intro p hp;simp only [List.mem_cons,List.not_mem_nil,or_false] at hp ⊢;rcases hp with rfl|rfl|rfl|rfl|rfl|rfl|rfl <;> simp),bel,hh3,rfl⟩
 ·rintro mq a w5 ⟨j,vx,X,P,W,hj,hq,hP,hW,hend,hF,bel,hx,hm⟩
  by_cases hjn:j<xs.length
  ·have hdj:=hd j hjn
   have hWb:=hW.bd
   have hXl:=lim_val hq hWb.1 (fun i hi=>hd i (by omega)) (by omega)
   refine wp_seq ?_
   refine E.seq ?_
   refine E.opv hF (r_bin (hF.at 0 rfl) (hF.at 1 rfl) eg_scalar (bi_int (ic_lss (c:=true) (dec_tt (by omega))) (by simp))) rfl rfl rfl rfl fun a hF=>?_
   refine E.nil ?_
   refine wp_seq ?_
   refine wp_cond_true (hF.at 0 rfl) ?_
   refine wp_skip ?_
   refine E.norm ?_
   refine wp_seq ?_
   refine wp_block ?_
   refine wp_seq ?_
   refine E.seq ?_
   refine E.opv hF (r_move (hF.at 1 rfl)) rfl rfl rfl rfl fun a hF=>?_
   refine E.opv hF (r_assign (hF.at 0 rfl)) rfl rfl rfl rfl fun a hF=>?_
   refine E.nil ?_
   refine wp_seq ?_
   refine E.seq ?_
   refine E.opv hF (r_move (hF.at 6 rfl)) rfl rfl rfl rfl fun a hF=>?_
   refine E.opv hF (r_bin (hF.at 0 rfl) ev_c eg_scalar (iw_mul (a:=((P:Nat):Int)) (b:=10) (w_u64 (by omega) (by omega)))) rfl rfl rfl rfl fun a hF=>?_
   refine E.opv hF (r_move (hF.at 11 rfl)) rfl rfl rfl rfl fun a hF=>?_
   refine E.opv hF (r_move (hF.at 3 rfl)) rfl rfl rfl rfl fun a hF=>?_
   refine E.opv hF (r_ixv (hF.at 1 rfl) (hF.at 0 rfl) (ixs (xs:=xs) (j:=j) Tryz.underlying9 (by omega) (by omega) (by assumption))) rfl rfl rfl rfl fun a hF=>?_
   refine E.opv hF (r_bin (hF.at 0 rfl) ev_c eg_scalar (iw_sub (a:=((lg (xs) j:Nat):Int)) (b:=48) (w_u8 (by omega) (by omega)))) rfl rfl rfl rfl fun a hF=>?_
   refine E.opv hF (r_conv (hF.at 0 rfl) (cv_kind (k':= .u64) Tryz.underlying5 Tryz.underlying71 (w_u64 (by omega) (by omega)))) rfl rfl rfl rfl fun a hF=>?_
   refine E.opv hF (r_bin (hF.at 5 rfl) (hF.at 0 rfl) eg_scalar (iw_add (a:=((P:Nat):Int)*10) (b:=((lg (xs) j:Nat):Int)-48) (w_u64 (by omega) (by omega)))) rfl rfl rfl rfl fun a hF=>?_
   refine E.opv hF (r_move (hF.at 13 rfl)) rfl rfl rfl rfl fun a hF=>?_
   refine E.opv hF (r_bin (hF.at 0 rfl) ev_c eg_scalar (iw_mul (a:=((W:Nat):Int)) (b:=10) (w_u64 (by omega) (by omega)))) rfl rfl rfl rfl fun a hF=>?_
   refine E.opset (L':=[(4,.int .u64 ((((P:Nat):Int)*10)+(((lg (xs) j:Nat):Int)-48))),(22,.int .u64 (((W:Nat):Int)*10)),(21,.int .u64 ((W:Nat):Int)),(20,.int .u64 ((((P:Nat):Int)*10)+(((lg (xs) j:Nat):Int)-48))),(19,.int .u64 (((lg (xs) j:Nat):Int)-48)),(18,.int .u8 (((lg (xs) j:Nat):Int)-48)),(17,.int .u8 ((lg (xs) j:Nat):Int)),(16,.int .i64 ((j:Nat):Int)),(15,.string (bstr xs)),(14,.int .u64 (((P:Nat):Int)*10)),(13,.int .u64 ((P:Nat):Int)),(6,.int .i64 ((j:Nat):Int)),(12,.int .i64 ((j:Nat):Int)),(11,.bool true),(10,.int .i64 ((j:Nat):Int)),(9,.int .i64 ((List.length (xs):Nat):Int)),(5,.int .u64 ((W:Nat):Int)),(3,vx),(2,.slice none 0 0),(0,.string (bstr xs))]) hF (r_assign (hF.at 2 rfl)) rfl rfl rfl rfl fun a hF=>?_
   refine E.opset (L':=[(5,.int .u64 (((W:Nat):Int)*10)),(4,.int .u64 ((((P:Nat):Int)*10)+(((lg (xs) j:Nat):Int)-48))),(22,.int .u64 (((W:Nat):Int)*10)),(21,.int .u64 ((W:Nat):Int)),(20,.int .u64 ((((P:Nat):Int)*10)+(((lg (xs) j:Nat):Int)-48))),(19,.int .u64 (((lg (xs) j:Nat):Int)-48)),(18,.int .u8 (((lg (xs) j:Nat):Int)-48)),(17,.int .u8 ((lg (xs) j:Nat):Int)),(16,.int .i64 ((j:Nat):Int)),(15,.string (bstr xs)),(14,.int .u64 (((P:Nat):Int)*10)),(13,.int .u64 ((P:Nat):Int)),(6,.int .i64 ((j:Nat):Int)),(12,.int .i64 ((j:Nat):Int)),(11,.bool true),(10,.int .i64 ((j:Nat):Int)),(9,.int .i64 ((List.length (xs):Nat):Int)),(3,vx),(2,.slice none 0 0),(0,.string (bstr xs))]) hF (r_assign (hF.at 1 rfl)) rfl rfl rfl rfl fun a hF=>?_
   refine E.nil ?_
   refine wp_seq ?_
   refine E.seq ?_
   refine E.opv hF (r_move (hF.at 0 rfl)) rfl rfl rfl rfl fun a hF=>?_
   by_cases hc6:((W:Nat):Int)*10=1000000000
   ·refine E.opv hF (r_bin (hF.at 0 rfl) ev_c eg_scalar (bi_int (ic_eql (c:=true) (dec_tt hc6)) (by simp))) rfl rfl rfl rfl fun a hF=>?_
    refine E.opv hF (r_move (hF.at 0 rfl)) rfl rfl rfl rfl fun a hF=>?_
    refine E.unwanted hF (wanted_by rfl rfl (hF.at 0 rfl) rfl) rfl rfl rfl fun a hF=>?_
    refine E.unwanted hF (wanted_by rfl rfl (hF.at 1 rfl) rfl) rfl rfl rfl fun a hF=>?_
    refine E.unwanted hF (wanted_by rfl rfl (hF.at 2 rfl) rfl) rfl rfl rfl fun a hF=>?_
    refine E.unwanted hF (wanted_by rfl rfl (hF.at 3 rfl) rfl) rfl rfl rfl fun a hF=>?_
    refine E.unwanted hF (wanted_by rfl rfl (hF.at 4 rfl) rfl) rfl rfl rfl fun a hF=>?_
    refine E.opv hF (r_pick_t (hF.at 5 rfl) ev_c) rfl rfl rfl rfl fun a hF=>?_
    refine E.nil ?_
    refine wp_cond_true (hF.at 0 rfl) ?_
    refine wp_seq ?_
    refine E.seq ?_
    refine E.opv hF (r_move (hF.at 26 rfl)) rfl rfl rfl rfl fun a hF=>?_
    refine E.opv hF (r_move (hF.at 10 rfl)) rfl rfl rfl rfl fun a hF=>?_
    refine E.call hF (r_call Tryz.func31 en31.1 en31.2 (map1 (hF.at 0 rfl))) (of_int _ (W*10) _ (by omega) (by omega)) rfl rfl rfl rfl ?_
    rintro e w7 ⟨vv8,rfl,hh9,bb⟩
    refine⟨_,rfl,?_⟩
    intro a hF
    replace hx:=hx.below bb
    replace bel:=below_to bel bb
    clear bb
    obtain⟨ad10,n10,c10,rfl⟩:=Dg.form hh9
    refine E.call hF (r_call Tryz.func110 en110.1 en110.2 (map2 (hF.at 2 rfl) (hF.at 0 rfl))) (mul_any _ _ X ((W*10)) _ (Dg.nt hx) (Dg.nt hh9) (Lim.dl hXl _ (by omega)) (Lim.dl (Lim.of32 (by show _<4294967296;omega)) _ (by omega))) rfl rfl rfl rfl ?_
    rintro e w11 ⟨vv12,rfl,hh13,bb⟩
    refine⟨_,rfl,?_⟩
    intro a hF
    replace hx:=hx.below bb
    replace bel:=below_to bel bb
    clear bb
    obtain⟨ad14,n14,c14,rfl⟩:=Dg.form hh13
    refine E.opv hF (r_move (hF.at 14 rfl)) rfl rfl rfl rfl fun a hF=>?_
    refine E.call hF (r_call Tryz.func31 en31.1 en31.2 (map1 (hF.at 0 rfl))) (of_int _ (P*10+(lg xs j-48)) _ (by omega) (by omega)) rfl rfl rfl rfl ?_
    rintro e w15 ⟨vv16,rfl,hh17,bb⟩
    refine⟨_,rfl,?_⟩
    intro a hF
    replace hh13:=hh13.below bb
    replace hx:=hx.below bb
    replace bel:=below_to bel bb
    clear bb
    obtain⟨ad18,n18,c18,rfl⟩:=Dg.form hh17
    refine E.call hF (r_call Tryz.func111 en111.1 en111.2 (map2 (hF.at 2 rfl) (hF.at 0 rfl))) (add_any _ _ ((X)*((W*10))) ((P*10+(lg xs j-48))) _ (Dg.nt hh13) (Dg.nt hh17) (add_dl (Lim.mul hXl (Lim.of32 (by show _<4294967296;omega))) (Lim.of32 (by show _<4294967296;omega)))) rfl rfl rfl rfl ?_
    rintro e w19 ⟨vv20,rfl,hh21,bb⟩
    refine⟨_,rfl,?_⟩
    intro a hF
    replace hx:=hx.below bb
    replace bel:=below_to bel bb
    clear bb
    obtain⟨ad22,n22,c22,rfl⟩:=Dg.form hh21
    refine E.opset (L':=[(3,.slice ad22 n22 c22),(38,.slice ad22 n22 c22),(37,.slice ad18 n18 c18),(36,.int .u64 ((((P:Nat):Int)*10)+(((lg (xs) j:Nat):Int)-48))),(35,.slice ad14 n14 c14),(34,.slice ad10 n10 c10),(33,.int .u64 (((W:Nat):Int)*10)),(32,vx),(31,.bool true),(30,undef),(29,undef),(28,undef),(27,undef),(26,undef),(25,.bool true),(24,.bool true),(23,.int .u64 (((W:Nat):Int)*10)),(5,.int .u64 (((W:Nat):Int)*10)),(4,.int .u64 ((((P:Nat):Int)*10)+(((lg (xs) j:Nat):Int)-48))),(22,.int .u64 (((W:Nat):Int)*10)),(21,.int .u64 ((W:Nat):Int)),(20,.int .u64 ((((P:Nat):Int)*10)+(((lg (xs) j:Nat):Int)-48))),(19,.int .u64 (((lg (xs) j:Nat):Int)-48)),(18,.int .u8 (((lg (xs) j:Nat):Int)-48)),(17,.int .u8 ((lg (xs) j:Nat):Int)),(16,.int .i64 ((j:Nat):Int)),(15,.string (bstr xs)),(14,.int .u64 (((P:Nat):Int)*10)),(13,.int .u64 ((P:Nat):Int)),(6,.int .i64 ((j:Nat):Int)),(12,.int .i64 ((j:Nat):Int)),(11,.bool true),(10,.int .i64 ((j:Nat):Int)),(9,.int .i64 ((List.length (xs):Nat):Int)),(2,.slice none 0 0),(0,.string (bstr xs))]) hF (r_assign (hF.at 0 rfl)) rfl rfl rfl rfl fun a hF=>?_
    refine E.nil ?_
    refine E.seq ?_
    refine E.opset (L':=[(4,.int .u64 0),(3,.slice ad22 n22 c22),(38,.slice ad22 n22 c22),(37,.slice ad18 n18 c18),(36,.int .u64 ((((P:Nat):Int)*10)+(((lg (xs) j:Nat):Int)-48))),(35,.slice ad14 n14 c14),(34,.slice ad10 n10 c10),(33,.int .u64 (((W:Nat):Int)*10)),(32,vx),(31,.bool true),(30,undef),(29,undef),(28,undef),(27,undef),(26,undef),(25,.bool true),(24,.bool true),(23,.int .u64 (((W:Nat):Int)*10)),(5,.int .u64 (((W:Nat):Int)*10)),(22,.int .u64 (((W:Nat):Int)*10)),(21,.int .u64 ((W:Nat):Int)),(20,.int .u64 ((((P:Nat):Int)*10)+(((lg (xs) j:Nat):Int)-48))),(19,.int .u64 (((lg (xs) j:Nat):Int)-48)),(18,.int .u8 (((lg (xs) j:Nat):Int)-48)),(17,.int .u8 ((lg (xs) j:Nat):Int)),(16,.int .i64 ((j:Nat):Int)),(15,.string (bstr xs)),(14,.int .u64 (((P:Nat):Int)*10)),(13,.int .u64 ((P:Nat):Int)),(6,.int .i64 ((j:Nat):Int)),(12,.int .i64 ((j:Nat):Int)),(11,.bool true),(10,.int .i64 ((j:Nat):Int)),(9,.int .i64 ((List.length (xs):Nat):Int)),(2,.slice none 0 0),(0,.string (bstr xs))]) hF (r_assign ev_c) rfl rfl rfl rfl fun a hF=>?_
    refine E.opset (L':=[(5,.int .u64 1),(4,.int .u64 0),(3,.slice ad22 n22 c22),(38,.slice ad22 n22 c22),(37,.slice ad18 n18 c18),(36,.int .u64 ((((P:Nat):Int)*10)+(((lg (xs) j:Nat):Int)-48))),(35,.slice ad14 n14 c14),(34,.slice ad10 n10 c10),(33,.int .u64 (((W:Nat):Int)*10)),(32,vx),(31,.bool true),(30,undef),(29,undef),(28,undef),(27,undef),(26,undef),(25,.bool true),(24,.bool true),(23,.int .u64 (((W:Nat):Int)*10)),(22,.int .u64 (((W:Nat):Int)*10)),(21,.int .u64 ((W:Nat):Int)),(20,.int .u64 ((((P:Nat):Int)*10)+(((lg (xs) j:Nat):Int)-48))),(19,.int .u64 (((lg (xs) j:Nat):Int)-48)),(18,.int .u8 (((lg (xs) j:Nat):Int)-48)),(17,.int .u8 ((lg (xs) j:Nat):Int)),(16,.int .i64 ((j:Nat):Int)),(15,.string (bstr xs)),(14,.int .u64 (((P:Nat):Int)*10)),(13,.int .u64 ((P:Nat):Int)),(6,.int .i64 ((j:Nat):Int)),(12,.int .i64 ((j:Nat):Int)),(11,.bool true),(10,.int .i64 ((j:Nat):Int)),(9,.int .i64 ((List.length (xs):Nat):Int)),(2,.slice none 0 0),(0,.string (bstr xs))]) hF (r_assign ev_c) rfl rfl rfl rfl fun a hF=>?_
    refine E.nil0 ?_
    refine E.blk ?_
    refine E.norm ?_
    refine E.seq ?_
    refine E.opv hF (r_bin (hF.at 32 rfl) ev_c eg_scalar (ia_add (by omega) (by omega))) rfl rfl rfl rfl fun a hF=>?_
    refine E.opset (L':=[(10,.int .i64 (((j:Nat):Int)+1)),(39,.int .i64 (((j:Nat):Int)+1)),(5,.int .u64 1),(4,.int .u64 0),(3,.slice ad22 n22 c22),(38,.slice ad22 n22 c22),(37,.slice ad18 n18 c18),(36,.int .u64 ((((P:Nat):Int)*10)+(((lg (xs) j:Nat):Int)-48))),(35,.slice ad14 n14 c14),(34,.slice ad10 n10 c10),(33,.int .u64 (((W:Nat):Int)*10)),(32,vx),(31,.bool true),(30,undef),(29,undef),(28,undef),(27,undef),(26,undef),(25,.bool true),(24,.bool true),(23,.int .u64 (((W:Nat):Int)*10)),(22,.int .u64 (((W:Nat):Int)*10)),(21,.int .u64 ((W:Nat):Int)),(20,.int .u64 ((((P:Nat):Int)*10)+(((lg (xs) j:Nat):Int)-48))),(19,.int .u64 (((lg (xs) j:Nat):Int)-48)),(18,.int .u8 (((lg (xs) j:Nat):Int)-48)),(17,.int .u8 ((lg (xs) j:Nat):Int)),(16,.int .i64 ((j:Nat):Int)),(15,.string (bstr xs)),(14,.int .u64 (((P:Nat):Int)*10)),(13,.int .u64 ((P:Nat):Int)),(6,.int .i64 ((j:Nat):Int)),(12,.int .i64 ((j:Nat):Int)),(11,.bool true),(9,.int .i64 ((List.length (xs):Nat):Int)),(2,.slice none 0 0),(0,.string (bstr xs))]) hF (r_move (hF.at 0 rfl)) rfl rfl rfl rfl fun a hF=>?_
    refine E.nil0 ?_
    refine E.norm ?_
    exact⟨xs.length-(j+1),by omega,⟨(j+1),(.slice ad22 n22 c22),(((X)*((W*10)))+((P*10+(lg xs j-48)))),0,1,(by omega),((Nat.mul_one _).trans (val_more hq)),(by decide),(.inl rfl),(fun _=>rfl),(by rw[show((j+1:Nat):Int)=((j:Nat):Int)+1 from by omega];first|exact Fr.sub (L':=[(10,.int .i64 (((j:Nat):Int)+1)),(9,.int .i64 ((List.length (xs):Nat):Int)),(5,.int .u64 1),(4,.int .u64 0),(3,.slice ad22 n22 c22),(2,.slice none 0 0),(0,.string (bstr xs))]) hF (by intro p hp;simp only [List.mem_cons,List.not_mem_nil,or_false] at hp ⊢;rcases hp with rfl|rfl|rfl|rfl|rfl|rfl|rfl <;> simp)|(rw[show((P*10+(lg xs j-48):Nat):Int)=((P:Nat):Int)*10+(((lg xs j:Nat):Int)-48) from by omega,show((W*10:Nat):Int)=((W:Nat):Int)*10 from by omega];exact Fr.sub (L':=[(10,.int .i64 (((j:Nat):Int)+1)),(9,.int .i64 ((List.length (xs):Nat):Int)),(5,.int .u64 1),(4,.int .u64 0),(3,.slice ad22 n22 c22),(2,.slice none 0 0),(0,.string (bstr xs))]) hF (by intro p hp;simp only [List.mem_cons,List.not_mem_nil,or_false] at hp ⊢;rcases hp with rfl|rfl|rfl|rfl|rfl|rfl|rfl <;> simp))),bel,hh21,rfl⟩⟩
   ·refine E.opv hF (r_bin (hF.at 0 rfl) ev_c eg_scalar (bi_int (ic_eql (c:=false) (dec_ff hc6)) (by simp))) rfl rfl rfl rfl fun a hF=>?_
    refine E.opv hF (r_move (hF.at 0 rfl)) rfl rfl rfl rfl fun a hF=>?_
    refine E.opvg hF (r_move (hF.at 15 rfl)) (wanted_by rfl rfl (hF.at 0 rfl) rfl) rfl rfl rfl fun a hF=>?_
    refine E.opvg hF (r_move (hF.at 23 rfl)) (wanted_by rfl rfl (hF.at 1 rfl) rfl) rfl rfl rfl fun a hF=>?_
    refine E.opvg hF (r_builtin (map1 (hF.at 0 rfl)) (bl_str Tryz.underlying9)) (wanted_by rfl rfl (hF.at 2 rfl) rfl) rfl rfl rfl fun a hF=>?_
    refine E.opvg hF (r_bin (hF.at 0 rfl) ev_c eg_scalar (ia_sub (by omega) (by omega))) (wanted_by rfl rfl (hF.at 3 rfl) rfl) rfl rfl rfl fun a hF=>?_
    by_cases hc23:((j:Nat):Int)=((List.length (xs):Nat):Int)-1
    ·refine E.opvg hF (r_bin (hF.at 3 rfl) (hF.at 0 rfl) eg_scalar (bi_int (ic_eql (c:=true) (dec_tt hc23)) (by simp))) (wanted_by rfl rfl (hF.at 4 rfl) rfl) rfl rfl rfl fun a hF=>?_
     refine E.opv hF (r_pick_f (hF.at 5 rfl) (hF.at 0 rfl)) rfl rfl rfl rfl fun a hF=>?_
     refine E.nil ?_
     refine wp_cond_true (hF.at 0 rfl) ?_
     refine wp_seq ?_
     refine E.seq ?_
     refine E.opv hF (r_move (hF.at 26 rfl)) rfl rfl rfl rfl fun a hF=>?_
     refine E.opv hF (r_move (hF.at 10 rfl)) rfl rfl rfl rfl fun a hF=>?_
     refine E.call hF (r_call Tryz.func31 en31.1 en31.2 (map1 (hF.at 0 rfl))) (of_int _ (W*10) _ (by omega) (by omega)) rfl rfl rfl rfl ?_
     rintro e w24 ⟨vv25,rfl,hh26,bb⟩
     refine⟨_,rfl,?_⟩
     intro a hF
     replace hx:=hx.below bb
     replace bel:=below_to bel bb
     clear bb
     obtain⟨ad27,n27,c27,rfl⟩:=Dg.form hh26
     refine E.call hF (r_call Tryz.func110 en110.1 en110.2 (map2 (hF.at 2 rfl) (hF.at 0 rfl))) (mul_any _ _ X ((W*10)) _ (Dg.nt hx) (Dg.nt hh26) (Lim.dl hXl _ (by omega)) (Lim.dl (Lim.of32 (by show _<4294967296;omega)) _ (by omega))) rfl rfl rfl rfl ?_
     rintro e w28 ⟨vv29,rfl,hh30,bb⟩
     refine⟨_,rfl,?_⟩
     intro a hF
     replace hx:=hx.below bb
     replace bel:=below_to bel bb
     clear bb
     obtain⟨ad31,n31,c31,rfl⟩:=Dg.form hh30
     refine E.opv hF (r_move (hF.at 14 rfl)) rfl rfl rfl rfl fun a hF=>?_
     refine E.call hF (r_call Tryz.func31 en31.1 en31.2 (map1 (hF.at 0 rfl))) (of_int _ (P*10+(lg xs j-48)) _ (by omega) (by omega)) rfl rfl rfl rfl ?_
     rintro e w32 ⟨vv33,rfl,hh34,bb⟩
     refine⟨_,rfl,?_⟩
     intro a hF
     replace hh30:=hh30.below bb
     replace hx:=hx.below bb
     replace bel:=below_to bel bb
     clear bb
     obtain⟨ad35,n35,c35,rfl⟩:=Dg.form hh34
     refine E.call hF (r_call Tryz.func111 en111.1 en111.2 (map2 (hF.at 2 rfl) (hF.at 0 rfl))) (add_any _ _ ((X)*((W*10))) ((P*10+(lg xs j-48))) _ (Dg.nt hh30) (Dg.nt hh34) (add_dl (Lim.mul hXl (Lim.of32 (by show _<4294967296;omega))) (Lim.of32 (by show _<4294967296;omega)))) rfl rfl rfl rfl ?_
     rintro e w36 ⟨vv37,rfl,hh38,bb⟩
     refine⟨_,rfl,?_⟩
     intro a hF
     replace hx:=hx.below bb
     replace bel:=below_to bel bb
     clear bb
     obtain⟨ad39,n39,c39,rfl⟩:=Dg.form hh38
     refine E.opset (L':=[(3,.slice ad39 n39 c39),(38,.slice ad39 n39 c39),(37,.slice ad35 n35 c35),(36,.int .u64 ((((P:Nat):Int)*10)+(((lg (xs) j:Nat):Int)-48))),(35,.slice ad31 n31 c31),(34,.slice ad27 n27 c27),(33,.int .u64 (((W:Nat):Int)*10)),(32,vx),(31,.bool true),(30,.bool true),(29,.int .i64 (((List.length (xs):Nat):Int)-1)),(28,.int .i64 ((List.length (xs):Nat):Int)),(27,.string (bstr xs)),(26,.int .i64 ((j:Nat):Int)),(25,.bool false),(24,.bool false),(23,.int .u64 (((W:Nat):Int)*10)),(5,.int .u64 (((W:Nat):Int)*10)),(4,.int .u64 ((((P:Nat):Int)*10)+(((lg (xs) j:Nat):Int)-48))),(22,.int .u64 (((W:Nat):Int)*10)),(21,.int .u64 ((W:Nat):Int)),(20,.int .u64 ((((P:Nat):Int)*10)+(((lg (xs) j:Nat):Int)-48))),(19,.int .u64 (((lg (xs) j:Nat):Int)-48)),(18,.int .u8 (((lg (xs) j:Nat):Int)-48)),(17,.int .u8 ((lg (xs) j:Nat):Int)),(16,.int .i64 ((j:Nat):Int)),(15,.string (bstr xs)),(14,.int .u64 (((P:Nat):Int)*10)),(13,.int .u64 ((P:Nat):Int)),(6,.int .i64 ((j:Nat):Int)),(12,.int .i64 ((j:Nat):Int)),(11,.bool true),(10,.int .i64 ((j:Nat):Int)),(9,.int .i64 ((List.length (xs):Nat):Int)),(2,.slice none 0 0),(0,.string (bstr xs))]) hF (r_assign (hF.at 0 rfl)) rfl rfl rfl rfl fun a hF=>?_
     refine E.nil ?_
     refine E.seq ?_
     refine E.opset (L':=[(4,.int .u64 0),(3,.slice ad39 n39 c39),(38,.slice ad39 n39 c39),(37,.slice ad35 n35 c35),(36,.int .u64 ((((P:Nat):Int)*10)+(((lg (xs) j:Nat):Int)-48))),(35,.slice ad31 n31 c31),(34,.slice ad27 n27 c27),(33,.int .u64 (((W:Nat):Int)*10)),(32,vx),(31,.bool true),(30,.bool true),(29,.int .i64 (((List.length (xs):Nat):Int)-1)),(28,.int .i64 ((List.length (xs):Nat):Int)),(27,.string (bstr xs)),(26,.int .i64 ((j:Nat):Int)),(25,.bool false),(24,.bool false),(23,.int .u64 (((W:Nat):Int)*10)),(5,.int .u64 (((W:Nat):Int)*10)),(22,.int .u64 (((W:Nat):Int)*10)),(21,.int .u64 ((W:Nat):Int)),(20,.int .u64 ((((P:Nat):Int)*10)+(((lg (xs) j:Nat):Int)-48))),(19,.int .u64 (((lg (xs) j:Nat):Int)-48)),(18,.int .u8 (((lg (xs) j:Nat):Int)-48)),(17,.int .u8 ((lg (xs) j:Nat):Int)),(16,.int .i64 ((j:Nat):Int)),(15,.string (bstr xs)),(14,.int .u64 (((P:Nat):Int)*10)),(13,.int .u64 ((P:Nat):Int)),(6,.int .i64 ((j:Nat):Int)),(12,.int .i64 ((j:Nat):Int)),(11,.bool true),(10,.int .i64 ((j:Nat):Int)),(9,.int .i64 ((List.length (xs):Nat):Int)),(2,.slice none 0 0),(0,.string (bstr xs))]) hF (r_assign ev_c) rfl rfl rfl rfl fun a hF=>?_
     refine E.opset (L':=[(5,.int .u64 1),(4,.int .u64 0),(3,.slice ad39 n39 c39),(38,.slice ad39 n39 c39),(37,.slice ad35 n35 c35),(36,.int .u64 ((((P:Nat):Int)*10)+(((lg (xs) j:Nat):Int)-48))),(35,.slice ad31 n31 c31),(34,.slice ad27 n27 c27),(33,.int .u64 (((W:Nat):Int)*10)),(32,vx),(31,.bool true),(30,.bool true),(29,.int .i64 (((List.length (xs):Nat):Int)-1)),(28,.int .i64 ((List.length (xs):Nat):Int)),(27,.string (bstr xs)),(26,.int .i64 ((j:Nat):Int)),(25,.bool false),(24,.bool false),(23,.int .u64 (((W:Nat):Int)*10)),(22,.int .u64 (((W:Nat):Int)*10)),(21,.int .u64 ((W:Nat):Int)),(20,.int .u64 ((((P:Nat):Int)*10)+(((lg (xs) j:Nat):Int)-48))),(19,.int .u64 (((lg (xs) j:Nat):Int)-48)),(18,.int .u8 (((lg (xs) j:Nat):Int)-48)),(17,.int .u8 ((lg (xs) j:Nat):Int)),(16,.int .i64 ((j:Nat):Int)),(15,.string (bstr xs)),(14,.int .u64 (((P:Nat):Int)*10)),(13,.int .u64 ((P:Nat):Int)),(6,.int .i64 ((j:Nat):Int)),(12,.int .i64 ((j:Nat):Int)),(11,.bool true),(10,.int .i64 ((j:Nat):Int)),(9,.int .i64 ((List.length (xs):Nat):Int)),(2,.slice none 0 0),(0,.string (bstr xs))]) hF (r_assign ev_c) rfl rfl rfl rfl fun a hF=>?_
     refine E.nil0 ?_
     refine E.blk ?_
     refine E.norm ?_
     refine E.seq ?_
     refine E.opv hF (r_bin (hF.at 32 rfl) ev_c eg_scalar (ia_add (by omega) (by omega))) rfl rfl rfl rfl fun a hF=>?_
     refine E.opset (L':=[(10,.int .i64 (((j:Nat):Int)+1)),(39,.int .i64 (((j:Nat):Int)+1)),(5,.int .u64 1),(4,.int .u64 0),(3,.slice ad39 n39 c39),(38,.slice ad39 n39 c39),(37,.slice ad35 n35 c35),(36,.int .u64 ((((P:Nat):Int)*10)+(((lg (xs) j:Nat):Int)-48))),(35,.slice ad31 n31 c31),(34,.slice ad27 n27 c27),(33,.int .u64 (((W:Nat):Int)*10)),(32,vx),(31,.bool true),(30,.bool true),(29,.int .i64 (((List.length (xs):Nat):Int)-1)),(28,.int .i64 ((List.length (xs):Nat):Int)),(27,.string (bstr xs)),(26,.int .i64 ((j:Nat):Int)),(25,.bool false),(24,.bool false),(23,.int .u64 (((W:Nat):Int)*10)),(22,.int .u64 (((W:Nat):Int)*10)),(21,.int .u64 ((W:Nat):Int)),(20,.int .u64 ((((P:Nat):Int)*10)+(((lg (xs) j:Nat):Int)-48))),(19,.int .u64 (((lg (xs) j:Nat):Int)-48)),(18,.int .u8 (((lg (xs) j:Nat):Int)-48)),(17,.int .u8 ((lg (xs) j:Nat):Int)),(16,.int .i64 ((j:Nat):Int)),(15,.string (bstr xs)),(14,.int .u64 (((P:Nat):Int)*10)),(13,.int .u64 ((P:Nat):Int)),(6,.int .i64 ((j:Nat):Int)),(12,.int .i64 ((j:Nat):Int)),(11,.bool true),(9,.int .i64 ((List.length (xs):Nat):Int)),(2,.slice none 0 0),(0,.string (bstr xs))]) hF (r_move (hF.at 0 rfl)) rfl rfl rfl rfl fun a hF=>?_
     refine E.nil0 ?_
     refine E.norm ?_
     exact⟨xs.length-(j+1),by omega,⟨(j+1),(.slice ad39 n39 c39),(((X)*((W*10)))+((P*10+(lg xs j-48)))),0,1,(by omega),((Nat.mul_one _).trans (val_more hq)),(by decide),(.inl rfl),(fun _=>rfl),(by rw[show((j+1:Nat):Int)=((j:Nat):Int)+1 from by omega];first|exact Fr.sub (L':=[(10,.int .i64 (((j:Nat):Int)+1)),(9,.int .i64 ((List.length (xs):Nat):Int)),(5,.int .u64 1),(4,.int .u64 0),(3,.slice ad39 n39 c39),(2,.slice none 0 0),(0,.string (bstr xs))]) hF (by intro p hp;simp only [List.mem_cons,List.not_mem_nil,or_false] at hp ⊢;rcases hp with rfl|rfl|rfl|rfl|rfl|rfl|rfl <;> simp)|(rw[show((P*10+(lg xs j-48):Nat):Int)=((P:Nat):Int)*10+(((lg xs j:Nat):Int)-48) from by omega,show((W*10:Nat):Int)=((W:Nat):Int)*10 from by omega];exact Fr.sub (L':=[(10,.int .i64 (((j:Nat):Int)+1)),(9,.int .i64 ((List.length (xs):Nat):Int)),(5,.int .u64 1),(4,.int .u64 0),(3,.slice ad39 n39 c39),(2,.slice none 0 0),(0,.string (bstr xs))]) hF (by intro p hp;simp only [List.mem_cons,List.not_mem_nil,or_false] at hp ⊢;rcases hp with rfl|rfl|rfl|rfl|rfl|rfl|rfl <;> simp))),bel,hh38,rfl⟩⟩
    ·refine E.opvg hF (r_bin (hF.at 3 rfl) (hF.at 0 rfl) eg_scalar (bi_int (ic_eql (c:=false) (dec_ff hc23)) (by simp))) (wanted_by rfl rfl (hF.at 4 rfl) rfl) rfl rfl rfl fun a hF=>?_
     refine E.opv hF (r_pick_f (hF.at 5 rfl) (hF.at 0 rfl)) rfl rfl rfl rfl fun a hF=>?_
     refine E.nil ?_
     refine wp_cond_false (hF.at 0 rfl) ?_
     refine wp_skip ?_
     refine E.blk ?_
     refine E.norm ?_
     refine E.seq ?_
     refine E.opv hF (r_bin (hF.at 24 rfl) ev_c eg_scalar (ia_add (by omega) (by omega))) rfl rfl rfl rfl fun a hF=>?_
     refine E.opset (L':=[(10,.int .i64 (((j:Nat):Int)+1)),(39,.int .i64 (((j:Nat):Int)+1)),(31,.bool false),(30,.bool false),(29,.int .i64 (((List.length (xs):Nat):Int)-1)),(28,.int .i64 ((List.length (xs):Nat):Int)),(27,.string (bstr xs)),(26,.int .i64 ((j:Nat):Int)),(25,.bool false),(24,.bool false),(23,.int .u64 (((W:Nat):Int)*10)),(5,.int .u64 (((W:Nat):Int)*10)),(4,.int .u64 ((((P:Nat):Int)*10)+(((lg (xs) j:Nat):Int)-48))),(22,.int .u64 (((W:Nat):Int)*10)),(21,.int .u64 ((W:Nat):Int)),(20,.int .u64 ((((P:Nat):Int)*10)+(((lg (xs) j:Nat):Int)-48))),(19,.int .u64 (((lg (xs) j:Nat):Int)-48)),(18,.int .u8 (((lg (xs) j:Nat):Int)-48)),(17,.int .u8 ((lg (xs) j:Nat):Int)),(16,.int .i64 ((j:Nat):Int)),(15,.string (bstr xs)),(14,.int .u64 (((P:Nat):Int)*10)),(13,.int .u64 ((P:Nat):Int)),(6,.int .i64 ((j:Nat):Int)),(12,.int .i64 ((j:Nat):Int)),(11,.bool true),(9,.int .i64 ((List.length (xs):Nat):Int)),(3,vx),(2,.slice none 0 0),(0,.string (bstr xs))]) hF (r_move (hF.at 0 rfl)) rfl rfl rfl rfl fun a hF=>?_
     refine E.nil0 ?_
     refine E.norm ?_
     exact⟨xs.length-(j+1),by omega,⟨(j+1),vx,X,(P*10+(lg xs j-48)),(W*10),(by omega),(val_more hq),(by omega),(hW.up hc6),(fun _=>by omega),(by rw[show((j+1:Nat):Int)=((j:Nat):Int)+1 from by omega];first|exact Fr.sub (L':=[(10,.int .i64 (((j:Nat):Int)+1)),(9,.int .i64 ((List.length (xs):Nat):Int)),(5,.int .u64 (((W:Nat):Int)*10)),(4,.int .u64 ((((P:Nat):Int)*10)+(((lg (xs) j:Nat):Int)-48))),(3,vx),(2,.slice none 0 0),(0,.string (bstr xs))]) hF (by intro p hp;simp only [List.mem_cons,List.not_mem_nil,or_false] at hp ⊢;rcases hp with rfl|rfl|rfl|rfl|rfl|rfl|rfl <;> simp)|(rw[show((P*10+(lg xs j-48):Nat):Int)=((P:Nat):Int)*10+(((lg xs j:Nat):Int)-48) from by omega,show((W*10:Nat):Int)=((W:Nat):Int)*10 from by omega];exact Fr.sub (L':=[(10,.int .i64 (((j:Nat):Int)+1)),(9,.int .i64 ((List.length (xs):Nat):Int)),(5,.int .u64 (((W:Nat):Int)*10)),(4,.int .u64 ((((P:Nat):Int)*10)+(((lg (xs) j:Nat):Int)-48))),(3,vx),(2,.slice none 0 0),(0,.string (bstr xs))]) hF (by intro p hp;simp only [List.mem_cons,List.not_mem_nil,or_false] at hp ⊢;rcases hp with rfl|rfl|rfl|rfl|rfl|rfl|rfl <;> simp))),bel,hx,rfl⟩⟩
  ·have hjl:j=xs.length:=by omega
   have hW1:=hend hjl
   refine wp_seq ?_
   refine E.seq ?_
   refine E.opv hF (r_bin (hF.at 0 rfl) (hF.at 1 rfl) eg_scalar (bi_int (ic_lss (c:=false) (dec_ff (by omega))) (by simp))) rfl rfl rfl rfl fun a hF=>?_
   refine E.nil ?_
   refine wp_seq ?_
   refine wp_cond_false (hF.at 0 rfl) ?_
   refine wp_exit ?_
   refine E.past ?_
   refine E.past ?_
   refine E.out (id:=0) ?_
   refine E.norm ?_
   refine wp_seq ?_
   refine E.seq ?_
   refine E.opv hF (r_move (hF.at 5 rfl)) rfl rfl rfl rfl fun a hF=>?_
   refine E.opset (L':=[(2,vx),(40,vx),(11,.bool false),(10,.int .i64 ((j:Nat):Int)),(9,.int .i64 ((List.length (xs):Nat):Int)),(5,.int .u64 ((W:Nat):Int)),(4,.int .u64 ((P:Nat):Int)),(3,vx),(0,.string (bstr xs))]) hF (r_assign (hF.at 0 rfl)) rfl rfl rfl rfl fun a hF=>?_
   refine E.nil ?_
   refine wp_ret ?_
   refine bodyPost_ret (res_tmp Tryz.results100 (hF.at 0 rfl)) hF.dfr ?_
   subst hW1
   have e:dv xs xs.length=X:=by rw[←hjl,←hq];omega
   exact⟨_,rfl,by rw[e];exact hx,bel⟩
end
section
theorem sls_hi {P:Program} {w:World} {t:TypeId} {xs:List Nat} {z:Int} {j:Nat} (ht:P.underlying t=some .string) (hz:z=((j:Nat):Int)) (hj:j≤xs.length):(Instr.sliceAt t (.string (bstr xs)) none (some (.int .i64 z)) none).run P w= .ok (.string (bstr (List.take j xs))) w:=by
 subst hz
 have e:(bstr xs).extract 0 j=bstr (List.take j xs):=by
  apply ByteArray.ext
  simp[bstr,ByteArray.data_extract]
 have h1:¬((xs.length:Int)<(j:Int)):=by omega
 simp[Instr.sliceAt,Instr.slice,Instr.sliceBounds,Instr.sliceBound,asIntOf,run_underlying ht,Sem.run_bind,go_sem,bstr_size,e,hj]
theorem sls_lo {P:Program} {w:World} {t:TypeId} {xs:List Nat} {z:Int} {j:Nat} (ht:P.underlying t=some .string) (hz:z=((j:Nat):Int)) (hj:j≤xs.length):(Instr.sliceAt t (.string (bstr xs)) (some (.int .i64 z)) none none).run P w= .ok (.string (bstr (List.drop j xs))) w:=by
 subst hz
 have e:(bstr xs).extract j xs.length=bstr (List.drop j xs):=by
  apply ByteArray.ext
  simp[bstr,ByteArray.data_extract]
  exact List.take_of_length_le (by simp)
 have h1:¬((xs.length:Int)<(j:Int)):=by omega
 simp[Instr.sliceAt,Instr.slice,Instr.sliceBounds,Instr.sliceBound,asIntOf,run_underlying ht,Sem.run_bind,go_sem,bstr_size,e,hj]
theorem r_sliceL {P:Program} {w:World} {a:Act} {dst:Option Tmp} {ty:TypeId} {pos:String} {af:Array Edge} {gd:Option (Nat×Bool)} {t:TypeId} {x lo:Operand} {p q v:Value} (h:a.eval x=p) (h2:a.eval lo=q) (hl:(Instr.sliceAt t p (some q) none none).run P w= .ok v w):
 (execOp a.eval ⟨dst,.slice t x (some lo) none none,ty,pos,af,gd⟩).run P w= .ok (.value v) w:=by
 simp only [execOp,h,h2,Option.map]
 exact run_v hl
def ng (xs:List Nat):Bool:=decide (List.take 1 xs=[45])
def bd (xs:List Nat):List Nat:=if List.take 1 xs=[45] then List.drop 1 xs else xs
theorem bd_len (xs:List Nat):(bd xs).length ≤xs.length:=by unfold bd;split <;> simp
theorem bd_okb {b:Nat} {xs:List Nat} (h:okb b xs):okb b (bd xs):=by unfold bd;split;exact okb_drop h 1;exact h
def pe (xs:List Nat):Int:=if xs≠[48]∧¬Plain (bd xs) then 1 else if 1000<(bd xs).length then 5 else 0
def pz (xs:List Nat):Int:=if pe xs=0 then sg (ng xs) (dv (bd xs) (bd xs).length) else 0
theorem pre_short {xs:List Nat} (h:xs.length<1):¬List.take 1 xs=[45]:=by
 cases xs with
 |nil=>simp
 |cons _ _=>simp at h
theorem ng_bd {xs:List Nat} (h:ng xs=true):List.drop 1 xs=bd xs∧1≤xs.length:=by
 have h:=of_decide_eq_true h
 refine⟨by unfold bd;rw[if_pos h],?_⟩
 cases xs with
 |nil=>simp at h
 |cons _ _=>simp
theorem ng_no {xs:List Nat} (h:ng xs=false):xs=bd xs:=by
 unfold bd;rw[if_neg (of_decide_eq_false h)]
theorem rv_sb {a b:List Nat} {c d:Bool} (h:a=b) (k:c=d):Ending.returned (.tuple #[.string (bstr a),.bool c])= .returned (.tuple #[.string (bstr b),.bool d]):=by rw[h,k]
theorem bd_48:bd [48]=[48]:=by decide
theorem dig_of {xs:List Nat} (h:xs=[48]∨Plain (bd xs)):∀i,i<(bd xs).length →48≤lg (bd xs) i∧lg (bd xs) i≤57:=by
 rcases h with rfl|h
 ·rw[bd_48]
  intro i hi
  have:i=0:=by simp at hi;omega
  subst this
  decide
 ·exact h.1
theorem lim_dv {xs:List Nat} (h:∀i,i<xs.length→48≤lg xs i∧lg xs i≤57) (hl:xs.length≤1000):Lim (dv xs xs.length) 106:=Nat.lt_trans (dv_lt h) (ten_lim hl (Nat.le_refl _))
def ParsePost (w:World) (xs:List Nat):Ending→World→Prop:=fun e w'=>∃v,e= .returned (.tuple #[v,.int .i64 (pe xs)])∧Wc w' v (pz xs)∧Below w.heap.size w w'
theorem pe_1 {xs:List Nat} (h1:¬xs=[48]) (h2:decide (Plain (bd xs))=false):(1:Int)=pe xs∧(0:Int)=pz xs:=by
 have e:pe xs=1:=by unfold pe;rw[if_pos ⟨h1,of_decide_eq_false h2⟩]
 refine⟨e.symm,?_⟩
 unfold pz;rw[e,if_neg (by decide)]
theorem pe_5 {xs:List Nat} (h:xs=[48]∨Plain (bd xs)) (h2:(1000:Int)<(((bd xs).length :Nat):Int)):(5:Int)=pe xs∧(0:Int)=pz xs:=by
 have e:pe xs=5:=by
  unfold pe;rw[if_neg (by intro k;rcases h with h|h;exact k.1 h;exact k.2 h),if_pos (by omega)]
 refine⟨e.symm,?_⟩
 unfold pz;rw[e,if_neg (by decide)]
theorem pe_0 {xs:List Nat} (h:xs=[48]∨Plain (bd xs)) (h2:¬(1000:Int)<(((bd xs).length :Nat):Int)):(0:Int)=pe xs∧sg (ng xs) (dv (bd xs) (bd xs).length)=pz xs:=by
 have e:pe xs=0:=by
  unfold pe;rw[if_neg (by intro k;rcases h with h|h;exact k.1 h;exact k.2 h),if_neg (by omega)]
 refine⟨e.symm,?_⟩
 unfold pz;rw[if_pos e]
theorem hasPrefix_any (xs:List Nat) (w:World) (h8:okb 256 xs) (hl:xs.length≤1000000000):
 Calls Tryz.prog 113 #[.string (bstr xs),.string (bstr [45])] w (ValPost w (.bool (ng xs))):=by
 have bel:Below w.heap.size w w:=Below.refl _ _
 refine E.enter (nt:=18) (L:=[(0,.string (bstr xs)),(1,.string (bstr [45]))]) Tryz.func113 rfl rfl rfl (args_cons (i:=0) rfl (args_cons (i:=1) rfl args_nil)) ?_
 intro a hF
 refine wp_seq ?_
 refine E.seq ?_
 refine E.opv hF (r_assign ev_c) rfl rfl rfl rfl fun a hF=>?_
 refine E.nil ?_
 refine wp_seq ?_
 refine E.seq ?_
 refine E.opv hF (r_move (hF.at 1 rfl)) rfl rfl rfl rfl fun a hF=>?_
 refine E.opv hF (r_builtin (map1 (hF.at 0 rfl)) (bl_str Tryz.underlying9)) rfl rfl rfl rfl fun a hF=>?_
 refine E.opv hF (r_move (hF.at 4 rfl)) rfl rfl rfl rfl fun a hF=>?_
 refine E.opv hF (r_builtin (map1 (hF.at 0 rfl)) (bl_str Tryz.underlying9)) rfl rfl rfl rfl fun a hF=>?_
 by_cases hc1:((List.length ([45]):Nat):Int)≤((List.length (xs):Nat):Int)
 ·refine E.opv hF (r_bin (hF.at 2 rfl) (hF.at 0 rfl) eg_scalar (bi_int (ic_geq (c:=true) (dec_tt hc1)) (by simp))) rfl rfl rfl rfl fun a hF=>?_
  refine E.opv hF (r_move (hF.at 0 rfl)) rfl rfl rfl rfl fun a hF=>?_
  refine E.opvg hF (r_move (hF.at 7 rfl)) (wanted_by rfl rfl (hF.at 0 rfl) rfl) rfl rfl rfl fun a hF=>?_
  refine E.opvg hF (r_move (hF.at 9 rfl)) (wanted_by rfl rfl (hF.at 1 rfl) rfl) rfl rfl rfl fun a hF=>?_
  refine E.opvg hF (r_builtin (map1 (hF.at 0 rfl)) (bl_str Tryz.underlying9)) (wanted_by rfl rfl (hF.at 2 rfl) rfl) rfl rfl rfl fun a hF=>?_
  refine E.opvg hF (r_slice (hF.at 2 rfl) (hF.at 0 rfl) (sls_hi (xs:=xs) (j:=List.length ([45])) Tryz.underlying9 (by first|rfl|omega) (by omega))) (wanted_by rfl rfl (hF.at 3 rfl) rfl) rfl rfl rfl fun a hF=>?_
  refine E.opvg hF (r_move (hF.at 12 rfl)) (wanted_by rfl rfl (hF.at 4 rfl) rfl) rfl rfl rfl fun a hF=>?_
  by_cases hc2:(List.take (List.length ([45])) (xs))=[45]
  ·refine E.opvg hF (r_bin (hF.at 1 rfl) (hF.at 0 rfl) eg_str (sb_eq (xs:=(List.take (List.length ([45])) (xs))) (ys:=[45]) (streq_t hc2))) (wanted_by rfl rfl (hF.at 5 rfl) rfl) rfl rfl rfl fun a hF=>?_
   refine E.opv hF (r_pick_t (hF.at 6 rfl) (hF.at 0 rfl)) rfl rfl rfl rfl fun a hF=>?_
   refine E.opset (L':=[(4,.bool true),(17,.bool true),(16,.bool true),(15,.string (bstr [45])),(14,.string (bstr (List.take (List.length ([45])) (xs)))),(13,.int .i64 ((List.length ([45]):Nat):Int)),(12,.string (bstr [45])),(11,.string (bstr xs)),(10,.bool true),(9,.bool true),(8,.int .i64 ((List.length ([45]):Nat):Int)),(7,.string (bstr [45])),(6,.int .i64 ((List.length (xs):Nat):Int)),(5,.string (bstr xs)),(0,.string (bstr xs)),(1,.string (bstr [45]))]) hF (r_assign (hF.at 0 rfl)) rfl rfl rfl rfl fun a hF=>?_
   refine E.nil ?_
   refine wp_ret ?_
   refine bodyPost_ret (res_tmp Tryz.results113 (hF.at 0 rfl)) hF.dfr ?_
   refine⟨rv_bool ?_,bel⟩
   exact(decide_eq_true (by assumption)).symm
  ·refine E.opvg hF (r_bin (hF.at 1 rfl) (hF.at 0 rfl) eg_str (sb_eq (xs:=(List.take (List.length ([45])) (xs))) (ys:=[45]) (streq_f hc2 (okb_take (by assumption) _) (by decide)))) (wanted_by rfl rfl (hF.at 5 rfl) rfl) rfl rfl rfl fun a hF=>?_
   refine E.opv hF (r_pick_t (hF.at 6 rfl) (hF.at 0 rfl)) rfl rfl rfl rfl fun a hF=>?_
   refine E.opset (L':=[(4,.bool false),(17,.bool false),(16,.bool false),(15,.string (bstr [45])),(14,.string (bstr (List.take (List.length ([45])) (xs)))),(13,.int .i64 ((List.length ([45]):Nat):Int)),(12,.string (bstr [45])),(11,.string (bstr xs)),(10,.bool true),(9,.bool true),(8,.int .i64 ((List.length ([45]):Nat):Int)),(7,.string (bstr [45])),(6,.int .i64 ((List.length (xs):Nat):Int)),(5,.string (bstr xs)),(0,.string (bstr xs)),(1,.string (bstr [45]))]) hF (r_assign (hF.at 0 rfl)) rfl rfl rfl rfl fun a hF=>?_
   refine E.nil ?_
   refine wp_ret ?_
   refine bodyPost_ret (res_tmp Tryz.results113 (hF.at 0 rfl)) hF.dfr ?_
   refine⟨rv_bool ?_,bel⟩
   first|exact(decide_eq_false (by assumption)).symm |exact(decide_eq_false (pre_short (by simp only [List.length_cons,List.length_nil] at*;omega))).symm
 ·refine E.opv hF (r_bin (hF.at 2 rfl) (hF.at 0 rfl) eg_scalar (bi_int (ic_geq (c:=false) (dec_ff hc1)) (by simp))) rfl rfl rfl rfl fun a hF=>?_
  refine E.opv hF (r_move (hF.at 0 rfl)) rfl rfl rfl rfl fun a hF=>?_
  refine E.unwanted hF (wanted_by rfl rfl (hF.at 0 rfl) rfl) rfl rfl rfl fun a hF=>?_
  refine E.unwanted hF (wanted_by rfl rfl (hF.at 1 rfl) rfl) rfl rfl rfl fun a hF=>?_
  refine E.unwanted hF (wanted_by rfl rfl (hF.at 2 rfl) rfl) rfl rfl rfl fun a hF=>?_
  refine E.unwanted hF (wanted_by rfl rfl (hF.at 3 rfl) rfl) rfl rfl rfl fun a hF=>?_
  refine E.unwanted hF (wanted_by rfl rfl (hF.at 4 rfl) rfl) rfl rfl rfl fun a hF=>?_
  refine E.unwanted hF (wanted_by rfl rfl (hF.at 5 rfl) rfl) rfl rfl rfl fun a hF=>?_
  refine E.opv hF (r_pick_f (hF.at 6 rfl) ev_c) rfl rfl rfl rfl fun a hF=>?_
  refine E.opset (L':=[(4,.bool false),(17,.bool false),(16,undef),(15,undef),(14,undef),(13,undef),(12,undef),(11,undef),(10,.bool false),(9,.bool false),(8,.int .i64 ((List.length ([45]):Nat):Int)),(7,.string (bstr [45])),(6,.int .i64 ((List.length (xs):Nat):Int)),(5,.string (bstr xs)),(0,.string (bstr xs)),(1,.string (bstr [45]))]) hF (r_assign (hF.at 0 rfl)) rfl rfl rfl rfl fun a hF=>?_
  refine E.nil ?_
  refine wp_ret ?_
  refine bodyPost_ret (res_tmp Tryz.results113 (hF.at 0 rfl)) hF.dfr ?_
  refine⟨rv_bool ?_,bel⟩
  first|exact(decide_eq_false (by assumption)).symm |exact(decide_eq_false (pre_short (by simp only [List.length_cons,List.length_nil] at*;omega))).symm
theorem cutPrefixL_any (xs:List Nat) (w:World) (h8:okb 256 xs) (hl:xs.length≤1000000000):
 Calls Tryz.prog 109 #[.string (bstr xs),.string (bstr [45])] w (ValPost w (.tuple #[.string (bstr (bd xs)),.bool (ng xs)])):=by
 have bel:Below w.heap.size w w:=Below.refl _ _
 refine E.enter (nt:=15) (L:=[(0,.string (bstr xs)),(1,.string (bstr [45]))]) Tryz.func109 rfl rfl rfl (args_cons (i:=0) rfl (args_cons (i:=1) rfl args_nil)) ?_
 intro a hF
 refine wp_seq ?_
 refine E.seq ?_
 refine E.opv hF (r_assign ev_c) rfl rfl rfl rfl fun a hF=>?_
 refine E.opv hF (r_assign ev_c) rfl rfl rfl rfl fun a hF=>?_
 refine E.nil ?_
 refine wp_seq ?_
 refine wp_seq ?_
 refine E.seq ?_
 refine E.opv hF (r_move (hF.at 2 rfl)) rfl rfl rfl rfl fun a hF=>?_
 refine E.opv hF (r_move (hF.at 4 rfl)) rfl rfl rfl rfl fun a hF=>?_
 refine E.call hF (r_call Tryz.func113 en113.1 en113.2 (map2 (hF.at 1 rfl) (hF.at 0 rfl))) (hasPrefix_any (xs) _ (by assumption) (by omega)) rfl rfl rfl rfl ?_
 rintro e w1 ⟨rfl,bb⟩
 refine⟨_,rfl,?_⟩
 intro a hF
 replace bel:=below_to bel bb
 clear bb
 by_cases hc2:ng (xs)=true
 ·refine E.opv hF (r_un (Eq.trans (hF.at 0 rfl) (congrArg Value.bool hc2)) (bn_not _ false rfl)) rfl rfl rfl rfl fun a hF=>?_
  refine E.nil ?_
  refine wp_cond_false (hF.at 0 rfl) ?_
  refine wp_skip ?_
  refine E.norm ?_
  refine wp_seq ?_
  refine E.seq ?_
  refine E.opv hF (r_move (hF.at 6 rfl)) rfl rfl rfl rfl fun a hF=>?_
  refine E.opv hF (r_move (hF.at 8 rfl)) rfl rfl rfl rfl fun a hF=>?_
  refine E.opv hF (r_builtin (map1 (hF.at 0 rfl)) (bl_str Tryz.underlying9)) rfl rfl rfl rfl fun a hF=>?_
  refine E.opv hF (r_sliceL (hF.at 2 rfl) (hF.at 0 rfl) (sls_lo (xs:=xs) (j:=1) Tryz.underlying9 (by first|rfl|omega) (ng_bd (by assumption)).2)) rfl rfl rfl rfl fun a hF=>?_
  refine E.opset (L':=[(4,.string (bstr (List.drop (1) (xs)))),(14,.string (bstr (List.drop (1) (xs)))),(13,.int .i64 ((List.length ([45]):Nat):Int)),(12,.string (bstr [45])),(11,.string (bstr xs)),(9,.bool false),(8,.bool (ng (xs))),(7,.string (bstr [45])),(6,.string (bstr xs)),(5,.bool false),(0,.string (bstr xs)),(1,.string (bstr [45]))]) hF (r_assign (hF.at 0 rfl)) rfl rfl rfl rfl fun a hF=>?_
  refine E.opset (L':=[(5,.bool true),(4,.string (bstr (List.drop (1) (xs)))),(14,.string (bstr (List.drop (1) (xs)))),(13,.int .i64 ((List.length ([45]):Nat):Int)),(12,.string (bstr [45])),(11,.string (bstr xs)),(9,.bool false),(8,.bool (ng (xs))),(7,.string (bstr [45])),(6,.string (bstr xs)),(0,.string (bstr xs)),(1,.string (bstr [45]))]) hF (r_assign ev_c) rfl rfl rfl rfl fun a hF=>?_
  refine E.nil ?_
  refine wp_ret ?_
  refine bodyPost_ret (res_tmp2 Tryz.results109 (hF.at 1 rfl) (hF.at 0 rfl)) hF.dfr ?_
  have hcut:=ng_bd hc2
  exact⟨rv_sb hcut.1 (by rw[hc2]),bel⟩
 ·refine E.opv hF (r_un (Eq.trans (hF.at 0 rfl) (congrArg Value.bool (eq_false_of_ne_true hc2))) (bn_not _ true rfl)) rfl rfl rfl rfl fun a hF=>?_
  refine E.nil ?_
  refine wp_cond_true (hF.at 0 rfl) ?_
  refine wp_seq ?_
  refine E.seq ?_
  refine E.opv hF (r_move (hF.at 6 rfl)) rfl rfl rfl rfl fun a hF=>?_
  refine E.opset (L':=[(4,.string (bstr xs)),(10,.string (bstr xs)),(9,.bool true),(8,.bool (ng (xs))),(7,.string (bstr [45])),(6,.string (bstr xs)),(5,.bool false),(0,.string (bstr xs)),(1,.string (bstr [45]))]) hF (r_assign (hF.at 0 rfl)) rfl rfl rfl rfl fun a hF=>?_
  refine E.opset (L':=[(5,.bool false),(4,.string (bstr xs)),(10,.string (bstr xs)),(9,.bool true),(8,.bool (ng (xs))),(7,.string (bstr [45])),(6,.string (bstr xs)),(0,.string (bstr xs)),(1,.string (bstr [45]))]) hF (r_assign ev_c) rfl rfl rfl rfl fun a hF=>?_
  refine E.nil ?_
  refine wp_ret ?_
  refine bodyPost_ret (res_tmp2 Tryz.results109 (hF.at 1 rfl) (hF.at 0 rfl)) hF.dfr ?_
  have hcut:=ng_no (eq_false_of_ne_true hc2)
  exact⟨rv_sb hcut (eq_false_of_ne_true hc2).symm,bel⟩
theorem cutPrefix_any (xs:List Nat) (w:World) (h8:okb 256 xs) (hl:xs.length≤1000000000):
 Calls Tryz.prog 98 #[.string (bstr xs),.string (bstr [45])] w (ValPost w (.tuple #[.string (bstr (bd xs)),.bool (ng xs)])):=by
 have bel:Below w.heap.size w w:=Below.refl _ _
 refine E.enter (nt:=11) (L:=[(0,.string (bstr xs)),(1,.string (bstr [45]))]) Tryz.func98 rfl rfl rfl (args_cons (i:=0) rfl (args_cons (i:=1) rfl args_nil)) ?_
 intro a hF
 refine wp_seq ?_
 refine E.seq ?_
 refine E.opv hF (r_assign ev_c) rfl rfl rfl rfl fun a hF=>?_
 refine E.opv hF (r_assign ev_c) rfl rfl rfl rfl fun a hF=>?_
 refine E.nil ?_
 refine wp_seq ?_
 refine E.seq ?_
 refine E.opv hF (r_move (hF.at 2 rfl)) rfl rfl rfl rfl fun a hF=>?_
 refine E.opv hF (r_move (hF.at 4 rfl)) rfl rfl rfl rfl fun a hF=>?_
 refine E.call hF (r_call Tryz.func109 en109.1 en109.2 (map2 (hF.at 1 rfl) (hF.at 0 rfl))) (cutPrefixL_any (xs) _ (by assumption) (by omega)) rfl rfl rfl rfl ?_
 rintro e w1 ⟨rfl,bb⟩
 refine⟨_,rfl,?_⟩
 intro a hF
 replace bel:=below_to bel bb
 clear bb
 refine E.opv hF (r_extract (v:= .string (bstr (bd (xs)))) (hF.at 0 rfl) rfl) rfl rfl rfl rfl fun a hF=>?_
 refine E.opv hF (r_extract (v:= .bool (ng (xs))) (hF.at 1 rfl) rfl) rfl rfl rfl rfl fun a hF=>?_
 refine E.opset (L':=[(4,.string (bstr (bd (xs)))),(10,.bool (ng (xs))),(9,.string (bstr (bd (xs)))),(8,.tuple #[.string (bstr (bd (xs))),.bool (ng (xs))]),(7,.string (bstr [45])),(6,.string (bstr xs)),(5,.bool false),(0,.string (bstr xs)),(1,.string (bstr [45]))]) hF (r_assign (hF.at 1 rfl)) rfl rfl rfl rfl fun a hF=>?_
 refine E.opset (L':=[(5,.bool (ng (xs))),(4,.string (bstr (bd (xs)))),(10,.bool (ng (xs))),(9,.string (bstr (bd (xs)))),(8,.tuple #[.string (bstr (bd (xs))),.bool (ng (xs))]),(7,.string (bstr [45])),(6,.string (bstr xs)),(0,.string (bstr xs)),(1,.string (bstr [45]))]) hF (r_assign (hF.at 1 rfl)) rfl rfl rfl rfl fun a hF=>?_
 refine E.nil ?_
 refine wp_ret ?_
 refine bodyPost_ret (res_tmp2 Tryz.results98 (hF.at 1 rfl) (hF.at 0 rfl)) hF.dfr ?_
 exact⟨rfl,bel⟩
theorem rv_pe {v:Value} {a b:Int} (h:a=b):Ending.returned (.tuple #[v,.int .i64 a])= .returned (.tuple #[v,.int .i64 b]):=by rw[h]
theorem parse_any (xs:List Nat) (w:World) (h8:okb 256 xs) (hl:xs.length≤1000000000):
 Calls Tryz.prog 73 #[.string (bstr xs)] w (ParsePost w xs):=by
 have hbl:=bd_len xs
 have bel:Below w.heap.size w w:=Below.refl _ _
 refine E.enter (nt:=29) (L:=[(0,.string (bstr xs))]) Tryz.func73 rfl rfl rfl (args_cons (i:=0) rfl args_nil) ?_
 intro a hF
 refine wp_seq ?_
 refine E.seq ?_
 obtain⟨g2,w1,ge2,hr,bb,o2⟩:=own_alloc (P:=Tryz.prog) (w:=w) (cs:=[.bool false,.slice none 0 0]) 44 ze_Int rfl (niB (niS ni0))
 replace ge2:w.heap.size≤g2:=by rw[←ge2];exact bel.size
 refine E.opv hF (r_alloc hr) rfl rfl rfl rfl fun a hF=>?_
 clear hr
 replace bel:=below_to bel bb
 clear bb
 refine E.opv hF (r_assign ev_c) rfl rfl rfl rfl fun a hF=>?_
 refine E.nil ?_
 refine wp_seq ?_
 refine E.seq ?_
 refine E.opv hF (r_move (hF.at 2 rfl)) rfl rfl rfl rfl fun a hF=>?_
 refine E.call hF (r_call Tryz.func98 en98.1 en98.2 (map2 (hF.at 0 rfl) ev_c)) (cutPrefix_any (xs) _ (by assumption) (by omega)) rfl rfl rfl rfl ?_
 rintro e w2 ⟨rfl,bb⟩
 refine⟨_,rfl,?_⟩
 intro a hF
 replace o2:=o2.below bb
 replace bel:=below_to bel bb
 clear bb
 refine E.opv hF (r_move (hF.at 0 rfl)) rfl rfl rfl rfl fun a hF=>?_
 refine E.opv hF (r_extract (v:= .string (bstr (bd (xs)))) (hF.at 0 rfl) rfl) rfl rfl rfl rfl fun a hF=>?_
 refine E.opv hF (r_extract (v:= .bool (ng (xs))) (hF.at 1 rfl) rfl) rfl rfl rfl rfl fun a hF=>?_
 refine E.opv hF (r_assign (hF.at 1 rfl)) rfl rfl rfl rfl fun a hF=>?_
 refine E.opv hF (r_assign (hF.at 1 rfl)) rfl rfl rfl rfl fun a hF=>?_
 refine E.nil ?_
 refine wp_seq ?_
 refine wp_block ?_
 refine wp_seq ?_
 refine E.seq ?_
 refine E.opv hF (r_move (hF.at 9 rfl)) rfl rfl rfl rfl fun a hF=>?_
 by_cases hc3:xs=[48]
 ·refine E.opv hF (r_bin (hF.at 0 rfl) ev_c eg_str (sb_ne (xs:=xs) (ys:=[48]) (strne_t hc3))) rfl rfl rfl rfl fun a hF=>?_
  refine E.opv hF (r_move (hF.at 0 rfl)) rfl rfl rfl rfl fun a hF=>?_
  refine E.unwanted hF (wanted_by rfl rfl (hF.at 0 rfl) rfl) rfl rfl rfl fun a hF=>?_
  refine E.unwanted hF (wanted_by rfl rfl (hF.at 1 rfl) rfl) rfl rfl rfl fun a hF=>?_
  refine E.unwanted hF (wanted_by rfl rfl (hF.at 2 rfl) rfl) rfl rfl rfl fun a hF=>?_
  refine E.opv hF (r_pick_f (hF.at 3 rfl) ev_c) rfl rfl rfl rfl fun a hF=>?_
  refine E.opv hF (r_assign (hF.at 0 rfl)) rfl rfl rfl rfl fun a hF=>?_
  refine E.nil ?_
  refine wp_cond_false (hF.at 0 rfl) ?_
  refine wp_seq ?_
  refine E.seq ?_
  refine E.opv hF (r_move (hF.at 9 rfl)) rfl rfl rfl rfl fun a hF=>?_
  refine E.opv hF (r_builtin (map1 (hF.at 0 rfl)) (bl_str Tryz.underlying9)) rfl rfl rfl rfl fun a hF=>?_
  by_cases hc4:1000<((List.length ((bd (xs))):Nat):Int)
  ·refine E.opv hF (r_bin (hF.at 0 rfl) ev_c eg_scalar (bi_int (ic_gtr (c:=true) (dec_tt hc4)) (by simp))) rfl rfl rfl rfl fun a hF=>?_
   refine E.opv hF (r_assign (hF.at 0 rfl)) rfl rfl rfl rfl fun a hF=>?_
   refine E.nil ?_
   refine wp_cond_true (hF.at 0 rfl) ?_
   refine wp_seq ?_
   refine E.seq ?_
   refine E.opv hF (r_build (by simp) (bd_Int_ _)) rfl rfl rfl rfl fun a hF=>?_
   obtain⟨w5,hr,tu,on⟩:=st_Int (vs:=[.bool false,.slice none 0 0]) o2 rfl rfl (ocB (ocS oc0)) (niB (niS ni0)) (o:=0) rfl
   have kp:=tu.keep o2
   refine E.st hF (r_store (hF.at 21 rfl) (hF.at 0 rfl) (hr _ rfl)) rfl rfl fun a hF=>?_
   clear hr
   replace bel:=tu.below bel ge2
   clear tu kp
   replace o2:=on
   clear on
   refine E.opset (L':=[(3,.int .i64 5),(24,.agg #[.bool false,.slice none 0 0]),(20,.bool true),(23,.bool true),(22,.int .i64 ((List.length ((bd (xs))):Nat):Int)),(21,.string (bstr (bd (xs)))),(11,.bool false),(18,.bool false),(17,undef),(16,undef),(15,undef),(14,.bool false),(13,.bool false),(12,.string (bstr xs)),(5,.bool (ng (xs))),(4,.string (bstr (bd (xs)))),(10,.bool (ng (xs))),(9,.string (bstr (bd (xs)))),(6,.tuple #[.string (bstr (bd (xs))),.bool (ng (xs))]),(8,.tuple #[.string (bstr (bd (xs))),.bool (ng (xs))]),(7,.string (bstr xs)),(2,.pointer (some ⟨g2,0,none⟩)),(0,.string (bstr xs))]) hF (r_assign ev_c) rfl rfl rfl rfl fun a hF=>?_
   refine E.nil ?_
   refine wp_ret ?_
   refine bodyPost_ret (res_celltmp Tryz.results73 (hF.at 21 rfl) (ld_Int (vs:=[.bool false,.slice none 0 0]) o2 rfl rfl) (hF.at 0 rfl)) hF.dfr ?_
   have hpe:=pe_5 (by first|exact .inl (by assumption)|exact .inr (of_decide_eq_true (by assumption))) (by assumption)
   exact⟨_,rv_pe hpe.1,by rw[←hpe.2];exact Wc.zero _,bel⟩
  ·refine E.opv hF (r_bin (hF.at 0 rfl) ev_c eg_scalar (bi_int (ic_gtr (c:=false) (dec_ff hc4)) (by simp))) rfl rfl rfl rfl fun a hF=>?_
   refine E.opv hF (r_assign (hF.at 0 rfl)) rfl rfl rfl rfl fun a hF=>?_
   refine E.nil ?_
   refine wp_cond_false (hF.at 0 rfl) ?_
   refine wp_skip ?_
   refine E.blk ?_
   refine E.norm ?_
   refine wp_seq ?_
   refine E.seq ?_
   refine E.opv hF (r_move (hF.at 12 rfl)) rfl rfl rfl rfl fun a hF=>?_
   refine E.opv hF (r_move (hF.at 14 rfl)) rfl rfl rfl rfl fun a hF=>?_
   refine E.call hF (r_call Tryz.func100 en100.1 en100.2 (map1 (hF.at 0 rfl))) (value_any ((bd (xs))) _ (bd_okb (by assumption)) (dig_of (by first|exact .inl (by assumption)|exact .inr (of_decide_eq_true (by assumption)))) (by omega)) rfl rfl rfl rfl ?_
   rintro e w6 ⟨vv7,rfl,hh8,bb⟩
   refine⟨_,rfl,?_⟩
   intro a hF
   replace o2:=o2.below bb
   replace bel:=below_to bel bb
   clear bb
   obtain⟨ad9,n9,c9,rfl⟩:=Dg.form hh8
   refine E.call hF (r_call Tryz.func38 en38.1 en38.2 (map2 (hF.at 2 rfl) (hF.at 0 rfl))) (make_any _ _ (dv ((bd (xs))) (List.length ((bd (xs))))) _ (Dg.nt hh8)) rfl rfl rfl rfl ?_
   rintro e w10 ⟨vv11,rfl,hh12,bb⟩
   refine⟨_,rfl,?_⟩
   intro a hF
   replace o2:=o2.below bb
   replace bel:=below_to bel bb
   clear bb
   obtain⟨ad13,n13,c13,rfl,_⟩:=Wc.shape hh12
   obtain⟨w14,hr,tu,on⟩:=st_Int (vs:=[.bool (decide (sg (ng (xs)) (dv ((bd (xs))) (List.length ((bd (xs)))))<0)),.slice ad13 n13 c13]) o2 rfl rfl (ocB (ocS oc0)) (niB (niS ni0)) (o:=0) rfl
   have kp:=tu.keep o2
   refine E.st hF (r_store (hF.at 24 rfl) (hF.at 0 rfl) (hr _ rfl)) rfl rfl fun a hF=>?_
   clear hr
   replace hh12:=hh12.keep kp
   replace bel:=tu.below bel ge2
   clear tu kp
   replace o2:=on
   clear on
   have hf15:=Wc.abs hh12
   refine E.opset (L':=[(3,.int .i64 0),(28,.agg #[.bool (decide (sg (ng (xs)) (dv ((bd (xs))) (List.length ((bd (xs)))))<0)),.slice ad13 n13 c13]),(27,.slice ad9 n9 c9),(26,.string (bstr (bd (xs)))),(25,.bool (ng (xs))),(20,.bool false),(23,.bool false),(22,.int .i64 ((List.length ((bd (xs))):Nat):Int)),(21,.string (bstr (bd (xs)))),(11,.bool false),(18,.bool false),(17,undef),(16,undef),(15,undef),(14,.bool false),(13,.bool false),(12,.string (bstr xs)),(5,.bool (ng (xs))),(4,.string (bstr (bd (xs)))),(10,.bool (ng (xs))),(9,.string (bstr (bd (xs)))),(6,.tuple #[.string (bstr (bd (xs))),.bool (ng (xs))]),(8,.tuple #[.string (bstr (bd (xs))),.bool (ng (xs))]),(7,.string (bstr xs)),(2,.pointer (some ⟨g2,0,none⟩)),(0,.string (bstr xs))]) hF (r_assign ev_c) rfl rfl rfl rfl fun a hF=>?_
   refine E.nil ?_
   refine wp_ret ?_
   refine bodyPost_ret (res_celltmp Tryz.results73 (hF.at 24 rfl) (ld_Int (vs:=[.bool (decide (sg (ng (xs)) (dv ((bd (xs))) (List.length ((bd (xs)))))<0)),.slice ad13 n13 c13]) o2 rfl rfl) (hF.at 0 rfl)) hF.dfr ?_
   have hpe:=pe_0 (by first|exact .inl (by assumption)|exact .inr (of_decide_eq_true (by assumption))) (by assumption)
   exact⟨_,rv_pe hpe.1,by rw[←hpe.2];exact hh12,bel⟩
 ·refine E.opv hF (r_bin (hF.at 0 rfl) ev_c eg_str (sb_ne (xs:=xs) (ys:=[48]) (strne_f hc3 (by assumption) (by decide)))) rfl rfl rfl rfl fun a hF=>?_
  refine E.opv hF (r_move (hF.at 0 rfl)) rfl rfl rfl rfl fun a hF=>?_
  refine E.opvg hF (r_move (hF.at 4 rfl)) (wanted_by rfl rfl (hF.at 0 rfl) rfl) rfl rfl rfl fun a hF=>?_
  refine E.callg hF (r_call Tryz.func99 en99.1 en99.2 (map1 (hF.at 0 rfl))) (plain_any ((bd (xs))) _ (bd_okb (by assumption)) (by omega)) (wanted_by rfl rfl (hF.at 1 rfl) rfl) rfl rfl rfl ?_
  rintro e w16 ⟨rfl,bb⟩
  refine⟨_,rfl,?_⟩
  intro a hF
  replace o2:=o2.below bb
  replace bel:=below_to bel bb
  clear bb
  by_cases hc17:decide (Plain ((bd (xs))))=true
  ·refine E.opvg hF (r_un (Eq.trans (hF.at 0 rfl) (congrArg Value.bool hc17)) (bn_not _ false rfl)) (wanted_by rfl rfl (hF.at 2 rfl) rfl) rfl rfl rfl fun a hF=>?_
   refine E.opv hF (r_pick_t (hF.at 3 rfl) (hF.at 0 rfl)) rfl rfl rfl rfl fun a hF=>?_
   refine E.opv hF (r_assign (hF.at 0 rfl)) rfl rfl rfl rfl fun a hF=>?_
   refine E.nil ?_
   refine wp_cond_false (hF.at 0 rfl) ?_
   refine wp_seq ?_
   refine E.seq ?_
   refine E.opv hF (r_move (hF.at 9 rfl)) rfl rfl rfl rfl fun a hF=>?_
   refine E.opv hF (r_builtin (map1 (hF.at 0 rfl)) (bl_str Tryz.underlying9)) rfl rfl rfl rfl fun a hF=>?_
   by_cases hc18:1000<((List.length ((bd (xs))):Nat):Int)
   ·refine E.opv hF (r_bin (hF.at 0 rfl) ev_c eg_scalar (bi_int (ic_gtr (c:=true) (dec_tt hc18)) (by simp))) rfl rfl rfl rfl fun a hF=>?_
    refine E.opv hF (r_assign (hF.at 0 rfl)) rfl rfl rfl rfl fun a hF=>?_
    refine E.nil ?_
    refine wp_cond_true (hF.at 0 rfl) ?_
    refine wp_seq ?_
    refine E.seq ?_
    refine E.opv hF (r_build (by simp) (bd_Int_ _)) rfl rfl rfl rfl fun a hF=>?_
    obtain⟨w19,hr,tu,on⟩:=st_Int (vs:=[.bool false,.slice none 0 0]) o2 rfl rfl (ocB (ocS oc0)) (niB (niS ni0)) (o:=0) rfl
    have kp:=tu.keep o2
    refine E.st hF (r_store (hF.at 21 rfl) (hF.at 0 rfl) (hr _ rfl)) rfl rfl fun a hF=>?_
    clear hr
    replace bel:=tu.below bel ge2
    clear tu kp
    replace o2:=on
    clear on
    refine E.opset (L':=[(3,.int .i64 5),(24,.agg #[.bool false,.slice none 0 0]),(20,.bool true),(23,.bool true),(22,.int .i64 ((List.length ((bd (xs))):Nat):Int)),(21,.string (bstr (bd (xs)))),(11,.bool false),(18,.bool false),(17,.bool false),(16,.bool (decide (Plain ((bd (xs)))))),(15,.string (bstr (bd (xs)))),(14,.bool true),(13,.bool true),(12,.string (bstr xs)),(5,.bool (ng (xs))),(4,.string (bstr (bd (xs)))),(10,.bool (ng (xs))),(9,.string (bstr (bd (xs)))),(6,.tuple #[.string (bstr (bd (xs))),.bool (ng (xs))]),(8,.tuple #[.string (bstr (bd (xs))),.bool (ng (xs))]),(7,.string (bstr xs)),(2,.pointer (some ⟨g2,0,none⟩)),(0,.string (bstr xs))]) hF (r_assign ev_c) rfl rfl rfl rfl fun a hF=>?_
    refine E.nil ?_
    refine wp_ret ?_
    refine bodyPost_ret (res_celltmp Tryz.results73 (hF.at 21 rfl) (ld_Int (vs:=[.bool false,.slice none 0 0]) o2 rfl rfl) (hF.at 0 rfl)) hF.dfr ?_
    have hpe:=pe_5 (by first|exact .inl (by assumption)|exact .inr (of_decide_eq_true (by assumption))) (by assumption)
    exact⟨_,rv_pe hpe.1,by rw[←hpe.2];exact Wc.zero _,bel⟩
   ·refine E.opv hF (r_bin (hF.at 0 rfl) ev_c eg_scalar (bi_int (ic_gtr (c:=false) (dec_ff hc18)) (by simp))) rfl rfl rfl rfl fun a hF=>?_
    refine E.opv hF (r_assign (hF.at 0 rfl)) rfl rfl rfl rfl fun a hF=>?_
    refine E.nil ?_
    refine wp_cond_false (hF.at 0 rfl) ?_
    refine wp_skip ?_
    refine E.blk ?_
    refine E.norm ?_
    refine wp_seq ?_
    refine E.seq ?_
    refine E.opv hF (r_move (hF.at 12 rfl)) rfl rfl rfl rfl fun a hF=>?_
    refine E.opv hF (r_move (hF.at 14 rfl)) rfl rfl rfl rfl fun a hF=>?_
    refine E.call hF (r_call Tryz.func100 en100.1 en100.2 (map1 (hF.at 0 rfl))) (value_any ((bd (xs))) _ (bd_okb (by assumption)) (dig_of (by first|exact .inl (by assumption)|exact .inr (of_decide_eq_true (by assumption)))) (by omega)) rfl rfl rfl rfl ?_
    rintro e w20 ⟨vv21,rfl,hh22,bb⟩
    refine⟨_,rfl,?_⟩
    intro a hF
    replace o2:=o2.below bb
    replace bel:=below_to bel bb
    clear bb
    obtain⟨ad23,n23,c23,rfl⟩:=Dg.form hh22
    refine E.call hF (r_call Tryz.func38 en38.1 en38.2 (map2 (hF.at 2 rfl) (hF.at 0 rfl))) (make_any _ _ (dv ((bd (xs))) (List.length ((bd (xs))))) _ (Dg.nt hh22)) rfl rfl rfl rfl ?_
    rintro e w24 ⟨vv25,rfl,hh26,bb⟩
    refine⟨_,rfl,?_⟩
    intro a hF
    replace o2:=o2.below bb
    replace bel:=below_to bel bb
    clear bb
    obtain⟨ad27,n27,c27,rfl,_⟩:=Wc.shape hh26
    obtain⟨w28,hr,tu,on⟩:=st_Int (vs:=[.bool (decide (sg (ng (xs)) (dv ((bd (xs))) (List.length ((bd (xs)))))<0)),.slice ad27 n27 c27]) o2 rfl rfl (ocB (ocS oc0)) (niB (niS ni0)) (o:=0) rfl
    have kp:=tu.keep o2
    refine E.st hF (r_store (hF.at 24 rfl) (hF.at 0 rfl) (hr _ rfl)) rfl rfl fun a hF=>?_
    clear hr
    replace hh26:=hh26.keep kp
    replace bel:=tu.below bel ge2
    clear tu kp
    replace o2:=on
    clear on
    have hf29:=Wc.abs hh26
    refine E.opset (L':=[(3,.int .i64 0),(28,.agg #[.bool (decide (sg (ng (xs)) (dv ((bd (xs))) (List.length ((bd (xs)))))<0)),.slice ad27 n27 c27]),(27,.slice ad23 n23 c23),(26,.string (bstr (bd (xs)))),(25,.bool (ng (xs))),(20,.bool false),(23,.bool false),(22,.int .i64 ((List.length ((bd (xs))):Nat):Int)),(21,.string (bstr (bd (xs)))),(11,.bool false),(18,.bool false),(17,.bool false),(16,.bool (decide (Plain ((bd (xs)))))),(15,.string (bstr (bd (xs)))),(14,.bool true),(13,.bool true),(12,.string (bstr xs)),(5,.bool (ng (xs))),(4,.string (bstr (bd (xs)))),(10,.bool (ng (xs))),(9,.string (bstr (bd (xs)))),(6,.tuple #[.string (bstr (bd (xs))),.bool (ng (xs))]),(8,.tuple #[.string (bstr (bd (xs))),.bool (ng (xs))]),(7,.string (bstr xs)),(2,.pointer (some ⟨g2,0,none⟩)),(0,.string (bstr xs))]) hF (r_assign ev_c) rfl rfl rfl rfl fun a hF=>?_
    refine E.nil ?_
    refine wp_ret ?_
    refine bodyPost_ret (res_celltmp Tryz.results73 (hF.at 24 rfl) (ld_Int (vs:=[.bool (decide (sg (ng (xs)) (dv ((bd (xs))) (List.length ((bd (xs)))))<0)),.slice ad27 n27 c27]) o2 rfl rfl) (hF.at 0 rfl)) hF.dfr ?_
    have hpe:=pe_0 (by first|exact .inl (by assumption)|exact .inr (of_decide_eq_true (by assumption))) (by assumption)
    exact⟨_,rv_pe hpe.1,by rw[←hpe.2];exact hh26,bel⟩
  ·refine E.opvg hF (r_un (Eq.trans (hF.at 0 rfl) (congrArg Value.bool (eq_false_of_ne_true hc17))) (bn_not _ true rfl)) (wanted_by rfl rfl (hF.at 2 rfl) rfl) rfl rfl rfl fun a hF=>?_
   refine E.opv hF (r_pick_t (hF.at 3 rfl) (hF.at 0 rfl)) rfl rfl rfl rfl fun a hF=>?_
   refine E.opv hF (r_assign (hF.at 0 rfl)) rfl rfl rfl rfl fun a hF=>?_
   refine E.nil ?_
   refine wp_cond_true (hF.at 0 rfl) ?_
   refine wp_seq ?_
   refine E.seq ?_
   refine E.opv hF (r_build (by simp) (bd_Int_ _)) rfl rfl rfl rfl fun a hF=>?_
   obtain⟨w30,hr,tu,on⟩:=st_Int (vs:=[.bool false,.slice none 0 0]) o2 rfl rfl (ocB (ocS oc0)) (niB (niS ni0)) (o:=0) rfl
   have kp:=tu.keep o2
   refine E.st hF (r_store (hF.at 17 rfl) (hF.at 0 rfl) (hr _ rfl)) rfl rfl fun a hF=>?_
   clear hr
   replace bel:=tu.below bel ge2
   clear tu kp
   replace o2:=on
   clear on
   refine E.opset (L':=[(3,.int .i64 1),(19,.agg #[.bool false,.slice none 0 0]),(11,.bool true),(18,.bool true),(17,.bool true),(16,.bool (decide (Plain ((bd (xs)))))),(15,.string (bstr (bd (xs)))),(14,.bool true),(13,.bool true),(12,.string (bstr xs)),(5,.bool (ng (xs))),(4,.string (bstr (bd (xs)))),(10,.bool (ng (xs))),(9,.string (bstr (bd (xs)))),(6,.tuple #[.string (bstr (bd (xs))),.bool (ng (xs))]),(8,.tuple #[.string (bstr (bd (xs))),.bool (ng (xs))]),(7,.string (bstr xs)),(2,.pointer (some ⟨g2,0,none⟩)),(0,.string (bstr xs))]) hF (r_assign ev_c) rfl rfl rfl rfl fun a hF=>?_
   refine E.nil ?_
   refine wp_ret ?_
   refine bodyPost_ret (res_celltmp Tryz.results73 (hF.at 17 rfl) (ld_Int (vs:=[.bool false,.slice none 0 0]) o2 rfl rfl) (hF.at 0 rfl)) hF.dfr ?_
   have hpe:=pe_1 (by assumption) (by first|assumption|exact eq_false_of_ne_true (by assumption))
   exact⟨_,rv_pe hpe.1,by rw[←hpe.2];exact Wc.zero _,bel⟩
end
end
end Go.Proofs.YtpkhdajnppoinaaGreat
