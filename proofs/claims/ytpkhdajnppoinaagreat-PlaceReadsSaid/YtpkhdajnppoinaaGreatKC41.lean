import Derived.Test.YtpkhdajnppoinaaGreatKC11
import Derived.Test.YtpkhdajnppoinaaGreatKC27
namespace Go.Proofs.YtpkhdajnppoinaaGreat
open Go.RowKit
set_option maxRecDepth 100000
set_option linter.unusedVariables false
set_option maxHeartbeats 8000000
theorem num0p (w:World):∃v w',(Instr.buildSlice 30 0 #[]).run Tryz.prog w= .ok v w'∧Below w.heap.size w w'∧Dg w' .i64 65536 v 0:=by
 have hs:=size_run (P:=Tryz.prog) (T:=3) (n:=1) (by kernel_rfl) w
 refine⟨.slice (some ⟨w.heap.size,0,none⟩) 0 0,w.alloc (.cells #[] 3),?_,(Below.refl _ _).alloc (Nat.le_refl _) _,?_⟩
 ·simp[Instr.buildSlice,go_sem,hs,Instr.fill,newRow]
 ·have e:dg 65536 0=[]:=by simp[dg]
  unfold Dg
  rw[e]
  exact⟨some ⟨w.heap.size,0,none⟩,0,rfl,⟨fun i hi=>absurd hi (by simp)⟩,by simp,by unfold maxLen;omega,by simp,fun h=>by cases h⟩
theorem stimes10 (v1:Value) (N:Nat) (w:World) (h1:Dg w .i64 65536 v1 N) (hd:dl 65536 N≤1000000):Calls Tryz.prog 77 #[v1,.int .i64 10,.int .i64 0] w (DhPost w (N*10)):=by
 have:=stimes_any v1 N 10 0 w h1 (by decide) (by decide) hd
 rw[Nat.pow_zero,Nat.mul_one] at this
 exact this
theorem sOf_int (z:Int) (N:Nat) (w:World) (hz:z=((N:Nat):Int)) (hN:N<1000):Calls Tryz.prog 52 #[.int .i64 z] w (DhPost w N):=by
 subst hz;exact sOf_any N w (by omega)
theorem dv_lim {B:List Nat} {j:Nat} (hd:∀i,i<j→48≤lg B i∧lg B i≤57) (hj:j≤1000):Lim (dv B j) 106:=Nat.lt_trans (dv_lt hd) (ten_lim hj (Nat.le_refl _))
theorem one48 {B:List Nat} (hl:B.length=1) (h:lg B 0=48):B=[48]:=by
 match B,hl with
 |[x],_=>have:x=48:=h;rw[this]
theorem rbad {xs B:List Nat} (hB:bd xs=B) (hx:xs=[48]→B=[48]) (h:B.length=0∨(1<B.length∧lg B 0=48)∨(xs≠[48]∧B=[48])∨∃j,j<B.length∧(lg B j<48∨57<lg B j)):(1:Int)=pe xs∧(0:Int)=pz xs:=by
 subst hB
 rcases h with h|⟨h,k⟩|⟨h,k⟩|⟨j,h,k⟩
 ·have e:bd xs=[]:=List.length_eq_zero_iff.1 h
  refine pe_1 (fun e2=>?_) (decide_eq_false fun p=>p.2.1 e)
  have:=hx e2;rw[e] at this;cases this
 ·refine pe_1 (fun e2=>?_) (decide_eq_false fun p=>p.2.2 k)
  have:=hx e2;rw[this] at h;simp at h
 ·refine pe_1 h (decide_eq_false fun p=>p.2.2 ?_)
  rw[k];rfl
 ·refine pe_1 (fun e2=>?_) (decide_eq_false fun p=>by have:=p.1 j h;omega)
  have e3:=hx e2
  rw[e3] at h k
  have:j=0:=by simp at h;omega
  subst this
  rcases k with k|k
  ·exact absurd k (by decide)
  ·exact absurd k (by decide)
theorem rgood {xs B:List Nat} (hB:bd xs=B) (h0:¬B.length=0) (h1:¬(1<B.length∧lg B 0=48)) (h2:B=[48]→xs=[48]) (hd:∀i,i<B.length→48≤lg B i∧lg B i≤57):xs=[48]∨Plain (bd xs):=by
 subst hB
 by_cases c:lg (bd xs) 0=48
 ·left
  refine h2 (one48 ?_ c)
  rcases Nat.lt_or_ge 1 (bd xs).length with k|k
  ·exact absurd ⟨k,c⟩ h1
  ·omega
 ·right
  exact⟨hd,fun e=>h0 (by rw[e];rfl),c⟩
theorem neg_facts {xs:List Nat} (h:List.take 1 xs=[45]):0<xs.length∧lg xs 0=45∧bd xs=List.drop 1 xs∧xs≠[48]∧ng xs=true:=by
 match xs,h with
 |[],h=>simp at h
 |x::l,h=>
  have e:x=45:=by simpa using h
  subst e
  exact⟨by simp,rfl,by unfold bd;rw[if_pos (by simp)],by simp,decide_eq_true (by simp)⟩
def RparsePost (w:World) (xs:List Nat):Ending→World→Prop:=fun e w'=>∃v,e= .returned (.tuple #[v,.int .i64 (pe xs)])∧Rz w' v (pz xs)∧Below w.heap.size w w'
theorem Rz.castP {w:World} {v:Value} {z z':Int} (h:Rz w v z) (e:z=z'):Rz w v z':=by subst e;exact h
theorem rv_vi2 {v:Value} {a b:Int} (h:a=b):Ending.returned (.tuple #[v,.int .i64 a])= .returned (.tuple #[v,.int .i64 b]):=by rw[h]
theorem neg_of {xs:List Nat} (h1:0<xs.length) (h2:lg xs 0=45):bd xs=List.drop 1 xs∧ng xs=true:=by
 have h:List.take 1 xs=[45]:=by
  match xs,h1 with
  |x::l,_=>have:x=45:=h2;simp[this]
 exact⟨by unfold bd;rw[if_pos h],decide_eq_true h⟩
theorem pos_of {xs:List Nat} (h:¬(0<xs.length∧lg xs 0=45)):bd xs=xs∧ng xs=false:=by
 have k:¬List.take 1 xs=[45]:=by
  intro e
  have:=neg_facts e
  exact h ⟨this.1,this.2.1⟩
 exact⟨by unfold bd;rw[if_neg k],decide_eq_false k⟩
theorem neq48 {xs:List Nat} (h:ng xs=true):xs≠[48]:=by rintro rfl;revert h;decide
theorem rparse_any (xs:List Nat) (w:World) (h8:okb 256 xs) (hl:xs.length≤1000000000):
 Calls Tryz.prog 46 #[.string (bstr xs)] w (RparsePost w xs):=by
 obtain⟨B,hbd⟩:∃B,bd xs=B:=⟨_,rfl⟩
 obtain⟨N,hN⟩:∃N,ng xs=N:=⟨_,rfl⟩
 have h8B:okb 256 B:=by rw[←hbd];exact bd_okb h8
 have hBl:B.length≤xs.length:=by rw[←hbd];exact bd_len xs
 have bel:Below w.heap.size w w:=Below.refl _ _
 refine E.enter (nt:=79) (L:=[(0,.string (bstr xs))]) Tryz.func46 rfl rfl rfl (args_cons (i:=0) rfl args_nil) ?_
 intro a hF
 refine wp_seq ?_
 refine E.seq ?_
 obtain⟨g2,w1,ge2,hr,bb,o2⟩:=own_alloc (P:=Tryz.prog) (w:=w) (cs:=[.bool false,.slice none 0 0]) 32 ze_RInt rfl (niB (niS ni0))
 replace ge2:w.heap.size≤g2:=by rw[←ge2];exact bel.size
 refine E.opv hF (r_alloc hr) rfl rfl rfl rfl fun a hF=>?_
 clear hr
 replace bel:=below_to bel bb
 clear bb
 refine E.opv hF (r_assign ev_c) rfl rfl rfl rfl fun a hF=>?_
 refine E.nil ?_
 refine wp_seq ?_
 refine E.seq ?_
 refine E.opv hF (r_assign ev_c) rfl rfl rfl rfl fun a hF=>?_
 refine E.nil ?_
 refine E.mid (I:=fun a wv=>Fr 79 a [(4,.bool N),(3,.int .i64 0),(2,.pointer (some ⟨g2,0,none⟩)),(0,.string (bstr B))]∧Below w.heap.size w wv∧Own wv g2 [.bool false,.slice none 0 0]) ?_ ?_
 ·refine wp_seq ?_
  refine E.seq ?_
  refine E.opv hF (r_move (hF.at 3 rfl)) rfl rfl rfl rfl fun a hF=>?_
  refine E.opv hF (r_builtin (map1 (hF.at 0 rfl)) (bl_str Tryz.underlying9)) rfl rfl rfl rfl fun a hF=>?_
  by_cases hc2:0<((List.length (xs):Nat):Int)
  ·first
   |(exfalso;omega)
   |(refine E.opv hF (r_bin (hF.at 0 rfl) ev_c eg_scalar (bi_int (ic_gtr (c:=true) (dec_tt hc2)) (by simp))) rfl rfl rfl rfl fun a hF=>?_
     refine E.opv hF (r_move (hF.at 0 rfl)) rfl rfl rfl rfl fun a hF=>?_
     refine E.opvg hF (r_move (hF.at 7 rfl)) (wanted_by rfl rfl (hF.at 0 rfl) rfl) rfl rfl rfl fun a hF=>?_
     refine E.opvg hF (r_ixv (hF.at 0 rfl) ev_c (ixs (xs:=xs) (j:=0) Tryz.underlying9 (by omega) (by omega) h8)) (wanted_by rfl rfl (hF.at 1 rfl) rfl) rfl rfl rfl fun a hF=>?_
     by_cases hc3:((lg (xs) 0:Nat):Int)=45
     ·first
      |(exfalso;omega)
      |(refine E.opvg hF (r_bin (hF.at 0 rfl) ev_c eg_scalar (bi_int (ic_eql (c:=true) (dec_tt hc3)) (by simp))) (wanted_by rfl rfl (hF.at 2 rfl) rfl) rfl rfl rfl fun a hF=>?_
        refine E.opv hF (r_pick_t (hF.at 3 rfl) (hF.at 0 rfl)) rfl rfl rfl rfl fun a hF=>?_
        refine E.nil ?_
        refine wp_cond_true (hF.at 0 rfl) ?_
        refine wp_seq ?_
        refine E.seq ?_
        refine E.opset (L':=[(4,.bool true),(15,.bool true),(14,.bool true),(13,.int .u8 ((lg (xs) 0:Nat):Int)),(12,.string (bstr xs)),(11,.bool true),(10,.bool true),(9,.int .i64 ((List.length (xs):Nat):Int)),(8,.string (bstr xs)),(3,.int .i64 0),(2,.pointer (some ⟨g2,0,none⟩)),(0,.string (bstr xs))]) hF (r_assign ev_c) rfl rfl rfl rfl fun a hF=>?_
        refine E.nil ?_
        refine E.seq ?_
        refine E.opv hF (r_move (hF.at 11 rfl)) rfl rfl rfl rfl fun a hF=>?_
        refine E.opv hF (r_sliceL (hF.at 0 rfl) ev_c (sls_lo (xs:=xs) (j:=1) Tryz.underlying9 (by first|rfl|omega) (by omega))) rfl rfl rfl rfl fun a hF=>?_
        refine E.opset (L':=[(0,.string (bstr (List.drop (1) (xs)))),(17,.string (bstr (List.drop (1) (xs)))),(16,.string (bstr xs)),(4,.bool true),(15,.bool true),(14,.bool true),(13,.int .u8 ((lg (xs) 0:Nat):Int)),(12,.string (bstr xs)),(11,.bool true),(10,.bool true),(9,.int .i64 ((List.length (xs):Nat):Int)),(8,.string (bstr xs)),(3,.int .i64 0),(2,.pointer (some ⟨g2,0,none⟩))]) hF (r_assign (hF.at 0 rfl)) rfl rfl rfl rfl fun a hF=>?_
        refine E.nil0 ?_
        refine E.norm ?_
        exact⟨(by have hq:=neg_of (xs:=xs) (by omega) (by omega);rw[show B=List.drop (1) (xs) from hbd.symm.trans hq.1,show N=true from hN.symm.trans hq.2];exact Fr.sub (L':=[(4,.bool true),(3,.int .i64 0),(2,.pointer (some ⟨g2,0,none⟩)),(0,.string (bstr (List.drop (1) (xs))))]) hF (by intro p hp;simp only [List.mem_cons,List.not_mem_nil,or_false] at hp ⊢;rcases hp with rfl|rfl|rfl|rfl <;> simp)),bel,o2⟩)
     ·first
      |(exfalso;omega)
      |(refine E.opvg hF (r_bin (hF.at 0 rfl) ev_c eg_scalar (bi_int (ic_eql (c:=false) (dec_ff hc3)) (by simp))) (wanted_by rfl rfl (hF.at 2 rfl) rfl) rfl rfl rfl fun a hF=>?_
        refine E.opv hF (r_pick_t (hF.at 3 rfl) (hF.at 0 rfl)) rfl rfl rfl rfl fun a hF=>?_
        refine E.nil ?_
        refine wp_cond_false (hF.at 0 rfl) ?_
        refine wp_skip ?_
        refine E.norm ?_
        exact⟨(by have hq:=pos_of (xs:=xs) (by omega);rw[show B=xs from hbd.symm.trans hq.1,show N=false from hN.symm.trans hq.2];exact Fr.sub (L':=[(4,.bool false),(3,.int .i64 0),(2,.pointer (some ⟨g2,0,none⟩)),(0,.string (bstr xs))]) hF (by intro p hp;simp only [List.mem_cons,List.not_mem_nil,or_false] at hp ⊢;rcases hp with rfl|rfl|rfl|rfl <;> simp)),bel,o2⟩))
  ·first
   |(exfalso;omega)
   |(refine E.opv hF (r_bin (hF.at 0 rfl) ev_c eg_scalar (bi_int (ic_gtr (c:=false) (dec_ff hc2)) (by simp))) rfl rfl rfl rfl fun a hF=>?_
     refine E.opv hF (r_move (hF.at 0 rfl)) rfl rfl rfl rfl fun a hF=>?_
     refine E.unwanted hF (wanted_by rfl rfl (hF.at 0 rfl) rfl) rfl rfl rfl fun a hF=>?_
     refine E.unwanted hF (wanted_by rfl rfl (hF.at 1 rfl) rfl) rfl rfl rfl fun a hF=>?_
     refine E.unwanted hF (wanted_by rfl rfl (hF.at 2 rfl) rfl) rfl rfl rfl fun a hF=>?_
     refine E.opv hF (r_pick_f (hF.at 3 rfl) ev_c) rfl rfl rfl rfl fun a hF=>?_
     refine E.nil ?_
     refine wp_cond_false (hF.at 0 rfl) ?_
     refine wp_skip ?_
     refine E.norm ?_
     exact⟨(by have hq:=pos_of (xs:=xs) (by omega);rw[show B=xs from hbd.symm.trans hq.1,show N=false from hN.symm.trans hq.2];exact Fr.sub (L':=[(4,.bool false),(3,.int .i64 0),(2,.pointer (some ⟨g2,0,none⟩)),(0,.string (bstr xs))]) hF (by intro p hp;simp only [List.mem_cons,List.not_mem_nil,or_false] at hp ⊢;rcases hp with rfl|rfl|rfl|rfl <;> simp)),bel,o2⟩)
 ·rintro a w4 ⟨hF,bel,o2⟩
  refine E.mid (I:=fun a wv=>¬B.length=0∧¬(1<B.length∧lg B 0=48)∧(B=[48]→xs=[48])∧Fr 79 a [(4,.bool N),(2,.pointer (some ⟨g2,0,none⟩)),(0,.string (bstr B))]∧Below w.heap.size w wv∧Own wv g2 [.bool false,.slice none 0 0]) ?_ ?_
  ·refine wp_seq ?_
   refine E.seq ?_
   refine E.opv hF (r_move (hF.at 3 rfl)) rfl rfl rfl rfl fun a hF=>?_
   refine E.opv hF (r_builtin (map1 (hF.at 0 rfl)) (bl_str Tryz.underlying9)) rfl rfl rfl rfl fun a hF=>?_
   by_cases hc5:((List.length (B):Nat):Int)=0
   ·first
    |(exfalso;omega)
    |(refine E.opv hF (r_bin (hF.at 0 rfl) ev_c eg_scalar (bi_int (ic_eql (c:=true) (dec_tt hc5)) (by simp))) rfl rfl rfl rfl fun a hF=>?_
      refine E.opv hF (r_move (hF.at 0 rfl)) rfl rfl rfl rfl fun a hF=>?_
      refine E.unwanted hF (wanted_by rfl rfl (hF.at 0 rfl) rfl) rfl rfl rfl fun a hF=>?_
      refine E.unwanted hF (wanted_by rfl rfl (hF.at 1 rfl) rfl) rfl rfl rfl fun a hF=>?_
      refine E.unwanted hF (wanted_by rfl rfl (hF.at 2 rfl) rfl) rfl rfl rfl fun a hF=>?_
      refine E.unwanted hF (wanted_by rfl rfl (hF.at 3 rfl) rfl) rfl rfl rfl fun a hF=>?_
      refine E.unwanted hF (wanted_undef rfl rfl (hF.at 0 rfl)) rfl rfl rfl fun a hF=>?_
      refine E.unwanted hF (wanted_undef rfl rfl (hF.at 1 rfl)) rfl rfl rfl fun a hF=>?_
      refine E.unwanted hF (wanted_undef rfl rfl (hF.at 2 rfl)) rfl rfl rfl fun a hF=>?_
      refine E.unwanted hF (wanted_by rfl rfl (hF.at 7 rfl) rfl) rfl rfl rfl fun a hF=>?_
      refine E.opv hF (r_pick_t (hF.at 8 rfl) ev_c) rfl rfl rfl rfl fun a hF=>?_
      refine E.opv hF (r_move (hF.at 0 rfl)) rfl rfl rfl rfl fun a hF=>?_
      refine E.unwanted hF (wanted_by rfl rfl (hF.at 0 rfl) rfl) rfl rfl rfl fun a hF=>?_
      refine E.unwanted hF (wanted_by rfl rfl (hF.at 1 rfl) rfl) rfl rfl rfl fun a hF=>?_
      refine E.unwanted hF (wanted_undef rfl rfl (hF.at 0 rfl)) rfl rfl rfl fun a hF=>?_
      refine E.unwanted hF (wanted_undef rfl rfl (hF.at 1 rfl)) rfl rfl rfl fun a hF=>?_
      refine E.unwanted hF (wanted_by rfl rfl (hF.at 4 rfl) rfl) rfl rfl rfl fun a hF=>?_
      refine E.opv hF (r_pick_t (hF.at 5 rfl) ev_c) rfl rfl rfl rfl fun a hF=>?_
      refine E.nil ?_
      refine wp_cond_true (hF.at 0 rfl) ?_
      refine wp_seq ?_
      refine E.seq ?_
      refine E.opv hF (r_build (by simp) (bd_RInt_ _)) rfl rfl rfl rfl fun a hF=>?_
      obtain⟨w6,hr,tu,on⟩:=st_RInt (vs:=[.bool false,.slice none 0 0]) o2 rfl rfl (ocB (ocS oc0)) (niB (niS ni0)) (o:=0) rfl
      have kp:=tu.keep o2
      refine E.st hF (r_store (hF.at 23 rfl) (hF.at 0 rfl) (hr _ rfl)) rfl rfl fun a hF=>?_
      clear hr
      replace bel:=tu.below bel ge2
      clear tu kp
      replace o2:=on
      clear on
      refine E.opset (L':=[(3,.int .i64 1),(38,.agg #[.bool false,.slice none 0 0]),(37,.bool true),(36,undef),(35,undef),(34,undef),(33,undef),(32,undef),(31,.bool true),(30,.bool true),(29,undef),(28,undef),(27,undef),(26,undef),(25,undef),(24,undef),(23,undef),(22,undef),(21,.bool true),(20,.bool true),(19,.int .i64 ((List.length (B):Nat):Int)),(18,.string (bstr B)),(4,.bool N),(2,.pointer (some ⟨g2,0,none⟩)),(0,.string (bstr B))]) hF (r_assign ev_c) rfl rfl rfl rfl fun a hF=>?_
      refine E.nil ?_
      refine wp_ret ?_
      refine bodyPost_ret (res_celltmp Tryz.results46 (hF.at 23 rfl) (ld_RInt (vs:=[.bool false,.slice none 0 0]) o2 rfl rfl) (hF.at 0 rfl)) hF.dfr ?_
      have hb:=rbad hbd (fun e=>hbd.symm.trans (by rw[e];exact bd_48)) (.inl (by omega))
      exact⟨_,rv_vi2 hb.1,Rz.castP (Rz.zero _) hb.2,bel⟩)
   ·first
    |(exfalso;omega)
    |(refine E.opv hF (r_bin (hF.at 0 rfl) ev_c eg_scalar (bi_int (ic_eql (c:=false) (dec_ff hc5)) (by simp))) rfl rfl rfl rfl fun a hF=>?_
      refine E.opv hF (r_move (hF.at 0 rfl)) rfl rfl rfl rfl fun a hF=>?_
      refine E.opvg hF (r_move (hF.at 7 rfl)) (wanted_by rfl rfl (hF.at 0 rfl) rfl) rfl rfl rfl fun a hF=>?_
      refine E.opvg hF (r_builtin (map1 (hF.at 0 rfl)) (bl_str Tryz.underlying9)) (wanted_by rfl rfl (hF.at 1 rfl) rfl) rfl rfl rfl fun a hF=>?_
      by_cases hc7:1<((List.length (B):Nat):Int)
      ·first
       |(exfalso;omega)
       |(refine E.opvg hF (r_bin (hF.at 0 rfl) ev_c eg_scalar (bi_int (ic_gtr (c:=true) (dec_tt hc7)) (by simp))) (wanted_by rfl rfl (hF.at 2 rfl) rfl) rfl rfl rfl fun a hF=>?_
         refine E.opvg hF (r_move (hF.at 0 rfl)) (wanted_by rfl rfl (hF.at 3 rfl) rfl) rfl rfl rfl fun a hF=>?_
         refine E.opvg hF (r_move (hF.at 11 rfl)) (wanted_by rfl rfl (hF.at 0 rfl) rfl) rfl rfl rfl fun a hF=>?_
         refine E.opvg hF (r_ixv (hF.at 0 rfl) ev_c (ixs (xs:=B) (j:=0) Tryz.underlying9 (by omega) (by omega) h8B)) (wanted_by rfl rfl (hF.at 1 rfl) rfl) rfl rfl rfl fun a hF=>?_
         by_cases hc8:((lg (B) 0:Nat):Int)=48
         ·first
          |(exfalso;omega)
          |(refine E.opvg hF (r_bin (hF.at 0 rfl) ev_c eg_scalar (bi_int (ic_eql (c:=true) (dec_tt hc8)) (by simp))) (wanted_by rfl rfl (hF.at 2 rfl) rfl) rfl rfl rfl fun a hF=>?_
            refine E.opvg hF (r_pick_t (hF.at 3 rfl) (hF.at 0 rfl)) (wanted_by rfl rfl (hF.at 7 rfl) rfl) rfl rfl rfl fun a hF=>?_
            refine E.opv hF (r_pick_f (hF.at 8 rfl) (hF.at 0 rfl)) rfl rfl rfl rfl fun a hF=>?_
            refine E.opv hF (r_move (hF.at 0 rfl)) rfl rfl rfl rfl fun a hF=>?_
            refine E.unwanted hF (wanted_by rfl rfl (hF.at 0 rfl) rfl) rfl rfl rfl fun a hF=>?_
            refine E.unwanted hF (wanted_by rfl rfl (hF.at 1 rfl) rfl) rfl rfl rfl fun a hF=>?_
            refine E.unwanted hF (wanted_undef rfl rfl (hF.at 0 rfl)) rfl rfl rfl fun a hF=>?_
            refine E.unwanted hF (wanted_undef rfl rfl (hF.at 1 rfl)) rfl rfl rfl fun a hF=>?_
            refine E.unwanted hF (wanted_by rfl rfl (hF.at 4 rfl) rfl) rfl rfl rfl fun a hF=>?_
            refine E.opv hF (r_pick_t (hF.at 5 rfl) ev_c) rfl rfl rfl rfl fun a hF=>?_
            refine E.nil ?_
            refine wp_cond_true (hF.at 0 rfl) ?_
            refine wp_seq ?_
            refine E.seq ?_
            refine E.opv hF (r_build (by simp) (bd_RInt_ _)) rfl rfl rfl rfl fun a hF=>?_
            obtain⟨w9,hr,tu,on⟩:=st_RInt (vs:=[.bool false,.slice none 0 0]) o2 rfl rfl (ocB (ocS oc0)) (niB (niS ni0)) (o:=0) rfl
            have kp:=tu.keep o2
            refine E.st hF (r_store (hF.at 23 rfl) (hF.at 0 rfl) (hr _ rfl)) rfl rfl fun a hF=>?_
            clear hr
            replace bel:=tu.below bel ge2
            clear tu kp
            replace o2:=on
            clear on
            refine E.opset (L':=[(3,.int .i64 1),(38,.agg #[.bool false,.slice none 0 0]),(37,.bool true),(36,undef),(35,undef),(34,undef),(33,undef),(32,undef),(31,.bool true),(30,.bool true),(29,.bool true),(28,.bool true),(27,.int .u8 ((lg (B) 0:Nat):Int)),(26,.string (bstr B)),(25,.bool true),(24,.bool true),(23,.int .i64 ((List.length (B):Nat):Int)),(22,.string (bstr B)),(21,.bool false),(20,.bool false),(19,.int .i64 ((List.length (B):Nat):Int)),(18,.string (bstr B)),(4,.bool N),(2,.pointer (some ⟨g2,0,none⟩)),(0,.string (bstr B))]) hF (r_assign ev_c) rfl rfl rfl rfl fun a hF=>?_
            refine E.nil ?_
            refine wp_ret ?_
            refine bodyPost_ret (res_celltmp Tryz.results46 (hF.at 23 rfl) (ld_RInt (vs:=[.bool false,.slice none 0 0]) o2 rfl rfl) (hF.at 0 rfl)) hF.dfr ?_
            have hb:=rbad hbd (fun e=>hbd.symm.trans (by rw[e];exact bd_48)) (.inr (.inl ⟨by omega,by omega⟩))
            exact⟨_,rv_vi2 hb.1,Rz.castP (Rz.zero _) hb.2,bel⟩)
         ·first
          |(exfalso;omega)
          |(refine E.opvg hF (r_bin (hF.at 0 rfl) ev_c eg_scalar (bi_int (ic_eql (c:=false) (dec_ff hc8)) (by simp))) (wanted_by rfl rfl (hF.at 2 rfl) rfl) rfl rfl rfl fun a hF=>?_
            refine E.opvg hF (r_pick_t (hF.at 3 rfl) (hF.at 0 rfl)) (wanted_by rfl rfl (hF.at 7 rfl) rfl) rfl rfl rfl fun a hF=>?_
            refine E.opv hF (r_pick_f (hF.at 8 rfl) (hF.at 0 rfl)) rfl rfl rfl rfl fun a hF=>?_
            refine E.opv hF (r_move (hF.at 0 rfl)) rfl rfl rfl rfl fun a hF=>?_
            refine E.opvg hF (r_move (hF.at 14 rfl)) (wanted_by rfl rfl (hF.at 0 rfl) rfl) rfl rfl rfl fun a hF=>?_
            refine E.opvg hF (r_move (hF.at 0 rfl)) (wanted_by rfl rfl (hF.at 1 rfl) rfl) rfl rfl rfl fun a hF=>?_
            by_cases hc10:N=true
            ·first
             |(exfalso;omega)
             |(refine E.opvg hF (r_move (hF.at 19 rfl)) (wanted_by rfl rfl (Eq.trans (hF.at 0 rfl) (congrArg Value.bool hc10)) rfl) rfl rfl rfl fun a hF=>?_
               by_cases hc11:B=[48]
               ·first
                |(exfalso;omega)
                |(refine E.opvg hF (r_bin (hF.at 0 rfl) ev_c eg_str (sb_eq (xs:=B) (ys:=[48]) (streq_t hc11))) (wanted_by rfl rfl (Eq.trans (hF.at 1 rfl) (congrArg Value.bool hc10)) rfl) rfl rfl rfl fun a hF=>?_
                  refine E.opvg hF (r_pick_t (Eq.trans (hF.at 2 rfl) (congrArg Value.bool hc10)) (hF.at 0 rfl)) (wanted_by rfl rfl (hF.at 4 rfl) rfl) rfl rfl rfl fun a hF=>?_
                  refine E.opv hF (r_pick_f (hF.at 5 rfl) (hF.at 0 rfl)) rfl rfl rfl rfl fun a hF=>?_
                  refine E.nil ?_
                  refine wp_cond_true (hF.at 0 rfl) ?_
                  refine wp_seq ?_
                  refine E.seq ?_
                  refine E.opv hF (r_build (by simp) (bd_RInt_ _)) rfl rfl rfl rfl fun a hF=>?_
                  obtain⟨w12,hr,tu,on⟩:=st_RInt (vs:=[.bool false,.slice none 0 0]) o2 rfl rfl (ocB (ocS oc0)) (niB (niS ni0)) (o:=0) rfl
                  have kp:=tu.keep o2
                  refine E.st hF (r_store (hF.at 23 rfl) (hF.at 0 rfl) (hr _ rfl)) rfl rfl fun a hF=>?_
                  clear hr
                  replace bel:=tu.below bel ge2
                  clear tu kp
                  replace o2:=on
                  clear on
                  refine E.opset (L':=[(3,.int .i64 1),(38,.agg #[.bool false,.slice none 0 0]),(37,.bool true),(36,.bool true),(35,.bool true),(34,.string (bstr B)),(33,.bool N),(32,.bool N),(31,.bool false),(30,.bool false),(29,.bool false),(28,.bool false),(27,.int .u8 ((lg (B) 0:Nat):Int)),(26,.string (bstr B)),(25,.bool true),(24,.bool true),(23,.int .i64 ((List.length (B):Nat):Int)),(22,.string (bstr B)),(21,.bool false),(20,.bool false),(19,.int .i64 ((List.length (B):Nat):Int)),(18,.string (bstr B)),(4,.bool N),(2,.pointer (some ⟨g2,0,none⟩)),(0,.string (bstr B))]) hF (r_assign ev_c) rfl rfl rfl rfl fun a hF=>?_
                  refine E.nil ?_
                  refine wp_ret ?_
                  refine bodyPost_ret (res_celltmp Tryz.results46 (hF.at 23 rfl) (ld_RInt (vs:=[.bool false,.slice none 0 0]) o2 rfl rfl) (hF.at 0 rfl)) hF.dfr ?_
                  have hb:=rbad hbd (fun e=>hbd.symm.trans (by rw[e];exact bd_48)) (.inr (.inr (.inl ⟨neq48 (hN.trans hc10),hc11⟩)))
                  exact⟨_,rv_vi2 hb.1,Rz.castP (Rz.zero _) hb.2,bel⟩)
               ·first
                |(exfalso;omega)
                |(refine E.opvg hF (r_bin (hF.at 0 rfl) ev_c eg_str (sb_eq (xs:=B) (ys:=[48]) (streq_f hc11 h8B (by decide)))) (wanted_by rfl rfl (Eq.trans (hF.at 1 rfl) (congrArg Value.bool hc10)) rfl) rfl rfl rfl fun a hF=>?_
                  refine E.opvg hF (r_pick_t (Eq.trans (hF.at 2 rfl) (congrArg Value.bool hc10)) (hF.at 0 rfl)) (wanted_by rfl rfl (hF.at 4 rfl) rfl) rfl rfl rfl fun a hF=>?_
                  refine E.opv hF (r_pick_f (hF.at 5 rfl) (hF.at 0 rfl)) rfl rfl rfl rfl fun a hF=>?_
                  refine E.nil ?_
                  refine wp_cond_false (hF.at 0 rfl) ?_
                  refine wp_skip ?_
                  refine E.norm ?_
                  exact⟨(by omega),(by omega),(fun e=>absurd e hc11),Fr.sub (L':=[(4,.bool N),(2,.pointer (some ⟨g2,0,none⟩)),(0,.string (bstr B))]) hF (by intro p hp;simp only [List.mem_cons,List.not_mem_nil,or_false] at hp ⊢;rcases hp with rfl|rfl|rfl <;> simp),bel,o2⟩))
            ·first
             |(exfalso;omega)
             |(refine E.unwanted hF (wanted_by rfl rfl (Eq.trans (hF.at 0 rfl) (congrArg Value.bool (eq_false_of_ne_true hc10))) rfl) rfl rfl rfl fun a hF=>?_
               refine E.unwanted hF (wanted_by rfl rfl (Eq.trans (hF.at 1 rfl) (congrArg Value.bool (eq_false_of_ne_true hc10))) rfl) rfl rfl rfl fun a hF=>?_
               refine E.opvg hF (r_pick_f (Eq.trans (hF.at 2 rfl) (congrArg Value.bool (eq_false_of_ne_true hc10))) ev_c) (wanted_by rfl rfl (hF.at 4 rfl) rfl) rfl rfl rfl fun a hF=>?_
               refine E.opv hF (r_pick_f (hF.at 5 rfl) (hF.at 0 rfl)) rfl rfl rfl rfl fun a hF=>?_
               refine E.nil ?_
               refine wp_cond_false (hF.at 0 rfl) ?_
               refine wp_skip ?_
               refine E.norm ?_
               exact⟨(by omega),(by omega),(fun e=>(ng_no (hN.trans (eq_false_of_ne_true hc10))).trans (hbd.trans e)),Fr.sub (L':=[(4,.bool N),(2,.pointer (some ⟨g2,0,none⟩)),(0,.string (bstr B))]) hF (by intro p hp;simp only [List.mem_cons,List.not_mem_nil,or_false] at hp ⊢;rcases hp with rfl|rfl|rfl <;> simp),bel,o2⟩)))
      ·first
       |(exfalso;omega)
       |(refine E.opvg hF (r_bin (hF.at 0 rfl) ev_c eg_scalar (bi_int (ic_gtr (c:=false) (dec_ff hc7)) (by simp))) (wanted_by rfl rfl (hF.at 2 rfl) rfl) rfl rfl rfl fun a hF=>?_
         refine E.opvg hF (r_move (hF.at 0 rfl)) (wanted_by rfl rfl (hF.at 3 rfl) rfl) rfl rfl rfl fun a hF=>?_
         refine E.unwanted hF (wanted_by rfl rfl (hF.at 0 rfl) rfl) rfl rfl rfl fun a hF=>?_
         refine E.unwanted hF (wanted_by rfl rfl (hF.at 1 rfl) rfl) rfl rfl rfl fun a hF=>?_
         refine E.unwanted hF (wanted_by rfl rfl (hF.at 2 rfl) rfl) rfl rfl rfl fun a hF=>?_
         refine E.opvg hF (r_pick_f (hF.at 3 rfl) ev_c) (wanted_by rfl rfl (hF.at 7 rfl) rfl) rfl rfl rfl fun a hF=>?_
         refine E.opv hF (r_pick_f (hF.at 8 rfl) (hF.at 0 rfl)) rfl rfl rfl rfl fun a hF=>?_
         refine E.opv hF (r_move (hF.at 0 rfl)) rfl rfl rfl rfl fun a hF=>?_
         refine E.opvg hF (r_move (hF.at 14 rfl)) (wanted_by rfl rfl (hF.at 0 rfl) rfl) rfl rfl rfl fun a hF=>?_
         refine E.opvg hF (r_move (hF.at 0 rfl)) (wanted_by rfl rfl (hF.at 1 rfl) rfl) rfl rfl rfl fun a hF=>?_
         by_cases hc13:N=true
         ·first
          |(exfalso;omega)
          |(refine E.opvg hF (r_move (hF.at 19 rfl)) (wanted_by rfl rfl (Eq.trans (hF.at 0 rfl) (congrArg Value.bool hc13)) rfl) rfl rfl rfl fun a hF=>?_
            by_cases hc14:B=[48]
            ·first
             |(exfalso;omega)
             |(refine E.opvg hF (r_bin (hF.at 0 rfl) ev_c eg_str (sb_eq (xs:=B) (ys:=[48]) (streq_t hc14))) (wanted_by rfl rfl (Eq.trans (hF.at 1 rfl) (congrArg Value.bool hc13)) rfl) rfl rfl rfl fun a hF=>?_
               refine E.opvg hF (r_pick_t (Eq.trans (hF.at 2 rfl) (congrArg Value.bool hc13)) (hF.at 0 rfl)) (wanted_by rfl rfl (hF.at 4 rfl) rfl) rfl rfl rfl fun a hF=>?_
               refine E.opv hF (r_pick_f (hF.at 5 rfl) (hF.at 0 rfl)) rfl rfl rfl rfl fun a hF=>?_
               refine E.nil ?_
               refine wp_cond_true (hF.at 0 rfl) ?_
               refine wp_seq ?_
               refine E.seq ?_
               refine E.opv hF (r_build (by simp) (bd_RInt_ _)) rfl rfl rfl rfl fun a hF=>?_
               obtain⟨w15,hr,tu,on⟩:=st_RInt (vs:=[.bool false,.slice none 0 0]) o2 rfl rfl (ocB (ocS oc0)) (niB (niS ni0)) (o:=0) rfl
               have kp:=tu.keep o2
               refine E.st hF (r_store (hF.at 23 rfl) (hF.at 0 rfl) (hr _ rfl)) rfl rfl fun a hF=>?_
               clear hr
               replace bel:=tu.below bel ge2
               clear tu kp
               replace o2:=on
               clear on
               refine E.opset (L':=[(3,.int .i64 1),(38,.agg #[.bool false,.slice none 0 0]),(37,.bool true),(36,.bool true),(35,.bool true),(34,.string (bstr B)),(33,.bool N),(32,.bool N),(31,.bool false),(30,.bool false),(29,.bool false),(28,undef),(27,undef),(26,undef),(25,.bool false),(24,.bool false),(23,.int .i64 ((List.length (B):Nat):Int)),(22,.string (bstr B)),(21,.bool false),(20,.bool false),(19,.int .i64 ((List.length (B):Nat):Int)),(18,.string (bstr B)),(4,.bool N),(2,.pointer (some ⟨g2,0,none⟩)),(0,.string (bstr B))]) hF (r_assign ev_c) rfl rfl rfl rfl fun a hF=>?_
               refine E.nil ?_
               refine wp_ret ?_
               refine bodyPost_ret (res_celltmp Tryz.results46 (hF.at 23 rfl) (ld_RInt (vs:=[.bool false,.slice none 0 0]) o2 rfl rfl) (hF.at 0 rfl)) hF.dfr ?_
               have hb:=rbad hbd (fun e=>hbd.symm.trans (by rw[e];exact bd_48)) (.inr (.inr (.inl ⟨neq48 (hN.trans hc13),hc14⟩)))
               exact⟨_,rv_vi2 hb.1,Rz.castP (Rz.zero _) hb.2,bel⟩)
            ·first
             |(exfalso;omega)
             |(refine E.opvg hF (r_bin (hF.at 0 rfl) ev_c eg_str (sb_eq (xs:=B) (ys:=[48]) (streq_f hc14 h8B (by decide)))) (wanted_by rfl rfl (Eq.trans (hF.at 1 rfl) (congrArg Value.bool hc13)) rfl) rfl rfl rfl fun a hF=>?_
               refine E.opvg hF (r_pick_t (Eq.trans (hF.at 2 rfl) (congrArg Value.bool hc13)) (hF.at 0 rfl)) (wanted_by rfl rfl (hF.at 4 rfl) rfl) rfl rfl rfl fun a hF=>?_
               refine E.opv hF (r_pick_f (hF.at 5 rfl) (hF.at 0 rfl)) rfl rfl rfl rfl fun a hF=>?_
               refine E.nil ?_
               refine wp_cond_false (hF.at 0 rfl) ?_
               refine wp_skip ?_
               refine E.norm ?_
               exact⟨(by omega),(by omega),(fun e=>absurd e hc14),Fr.sub (L':=[(4,.bool N),(2,.pointer (some ⟨g2,0,none⟩)),(0,.string (bstr B))]) hF (by intro p hp;simp only [List.mem_cons,List.not_mem_nil,or_false] at hp ⊢;rcases hp with rfl|rfl|rfl <;> simp),bel,o2⟩))
         ·first
          |(exfalso;omega)
          |(refine E.unwanted hF (wanted_by rfl rfl (Eq.trans (hF.at 0 rfl) (congrArg Value.bool (eq_false_of_ne_true hc13))) rfl) rfl rfl rfl fun a hF=>?_
            refine E.unwanted hF (wanted_by rfl rfl (Eq.trans (hF.at 1 rfl) (congrArg Value.bool (eq_false_of_ne_true hc13))) rfl) rfl rfl rfl fun a hF=>?_
            refine E.opvg hF (r_pick_f (Eq.trans (hF.at 2 rfl) (congrArg Value.bool (eq_false_of_ne_true hc13))) ev_c) (wanted_by rfl rfl (hF.at 4 rfl) rfl) rfl rfl rfl fun a hF=>?_
            refine E.opv hF (r_pick_f (hF.at 5 rfl) (hF.at 0 rfl)) rfl rfl rfl rfl fun a hF=>?_
            refine E.nil ?_
            refine wp_cond_false (hF.at 0 rfl) ?_
            refine wp_skip ?_
            refine E.norm ?_
            exact⟨(by omega),(by omega),(fun e=>(ng_no (hN.trans (eq_false_of_ne_true hc13))).trans (hbd.trans e)),Fr.sub (L':=[(4,.bool N),(2,.pointer (some ⟨g2,0,none⟩)),(0,.string (bstr B))]) hF (by intro p hp;simp only [List.mem_cons,List.not_mem_nil,or_false] at hp ⊢;rcases hp with rfl|rfl|rfl <;> simp),bel,o2⟩)))
  ·rintro a w16 ⟨hp0,hp1,hp2,hF,bel,o2⟩
   refine wp_seq ?_
   refine wp_seq ?_
   refine E.seq ?_
   refine E.opv hF (r_assign ev_c) rfl rfl rfl rfl fun a hF=>?_
   refine E.nil ?_
   refine wp_block ?_
   have nint:=nn1 o2.noInt
   refine E.loop (fun mq a wv=>∃(j:Nat),j≤B.length∧(∀i,i<j→48≤lg B i∧lg B i≤57)∧Fr 79 a [(5,.int .i64 ((j:Nat):Int)),(4,.bool N),(2,.pointer (some ⟨g2,0,none⟩)),(0,.string (bstr B))]∧Stay [g2] w16 wv∧Below w.heap.size w wv∧Own wv g2 [.bool false,.slice none 0 0]∧Rz wv (.agg #[.bool false,.slice none 0 0]) 0∧mq=B.length-j) (B.length-0) ?_ ?_
   ·exact⟨0,(Nat.zero_le _),(fun i hi=>absurd hi (by omega)),hF.sub (by intro p hp;simp only [List.mem_cons,List.not_mem_nil,or_false] at hp ⊢;rcases hp with rfl|rfl|rfl|rfl <;> simp),Stay.refl _ _,bel,o2,(Rz.zero _),rfl⟩
   ·rintro mq a w17 ⟨j,hj,hd,hF,sty,bel,o2,hz0,hm⟩
    have kps:=sty.keep nint
    clear kps
    by_cases hjn:j<B.length
    ·refine wp_seq ?_
     refine wp_seq ?_
     refine E.seq ?_
     refine E.opv hF (r_move (hF.at 0 rfl)) rfl rfl rfl rfl fun a hF=>?_
     refine E.opv hF (r_move (hF.at 4 rfl)) rfl rfl rfl rfl fun a hF=>?_
     refine E.opv hF (r_builtin (map1 (hF.at 0 rfl)) (bl_str Tryz.underlying9)) rfl rfl rfl rfl fun a hF=>?_
     refine E.opv hF (r_bin (hF.at 2 rfl) (hF.at 0 rfl) eg_scalar (bi_int (ic_lss (c:=true) (dec_tt (by omega))) (by simp))) rfl rfl rfl rfl fun a hF=>?_
     refine E.nil ?_
     refine wp_cond_true (hF.at 0 rfl) ?_
     refine wp_skip ?_
     refine E.norm ?_
     refine wp_seq ?_
     refine wp_block ?_
     refine wp_seq ?_
     refine E.seq ?_
     refine E.opv hF (r_move (hF.at 7 rfl)) rfl rfl rfl rfl fun a hF=>?_
     refine E.opv hF (r_move (hF.at 5 rfl)) rfl rfl rfl rfl fun a hF=>?_
     refine E.opv hF (r_ixv (hF.at 1 rfl) (hF.at 0 rfl) (ixs (xs:=B) (j:=j) Tryz.underlying9 (by omega) (by omega) h8B)) rfl rfl rfl rfl fun a hF=>?_
     by_cases hc18:((lg (B) j:Nat):Int)<48
     ·first
      |(exfalso;omega)
      |(refine E.opv hF (r_bin (hF.at 0 rfl) ev_c eg_scalar (bi_int (ic_lss (c:=true) (dec_tt hc18)) (by simp))) rfl rfl rfl rfl fun a hF=>?_
        refine E.opv hF (r_move (hF.at 0 rfl)) rfl rfl rfl rfl fun a hF=>?_
        refine E.unwanted hF (wanted_by rfl rfl (hF.at 0 rfl) rfl) rfl rfl rfl fun a hF=>?_
        refine E.unwanted hF (wanted_by rfl rfl (hF.at 1 rfl) rfl) rfl rfl rfl fun a hF=>?_
        refine E.unwanted hF (wanted_by rfl rfl (hF.at 2 rfl) rfl) rfl rfl rfl fun a hF=>?_
        refine E.unwanted hF (wanted_by rfl rfl (hF.at 3 rfl) rfl) rfl rfl rfl fun a hF=>?_
        refine E.opv hF (r_pick_t (hF.at 4 rfl) ev_c) rfl rfl rfl rfl fun a hF=>?_
        refine E.nil ?_
        refine wp_cond_true (hF.at 0 rfl) ?_
        refine wp_seq ?_
        refine E.seq ?_
        refine E.opv hF (r_build (by simp) (bd_RInt_ _)) rfl rfl rfl rfl fun a hF=>?_
        obtain⟨w19,hr,tu,on⟩:=st_RInt (vs:=[.bool false,.slice none 0 0]) o2 rfl rfl (ocB (ocS oc0)) (niB (niS ni0)) (o:=0) rfl
        have kp:=tu.keep o2
        refine E.st hF (r_store (hF.at 17 rfl) (hF.at 0 rfl) (hr _ rfl)) rfl rfl fun a hF=>?_
        clear hr
        replace hz0:=hz0.keep kp
        replace bel:=tu.below bel ge2
        replace sty:=sty.turned tu (.inl (by simp))
        clear tu kp
        replace o2:=on
        clear on
        refine E.opv hF (r_assign ev_c) rfl rfl rfl rfl fun a hF=>?_
        refine E.nil ?_
        refine wp_ret ?_
        refine bodyPost_ret (res_celltmp Tryz.results46 (hF.at 18 rfl) (ld_RInt (vs:=[.bool false,.slice none 0 0]) o2 rfl rfl) (hF.at 0 rfl)) hF.dfr ?_
        have hb:=rbad hbd (fun e=>hbd.symm.trans (by rw[e];exact bd_48)) (.inr (.inr (.inr ⟨j,hjn,by omega⟩)))
        exact⟨_,rv_vi2 hb.1,Rz.castP (Rz.zero _) hb.2,bel⟩)
     ·first
      |(exfalso;omega)
      |(refine E.opv hF (r_bin (hF.at 0 rfl) ev_c eg_scalar (bi_int (ic_lss (c:=false) (dec_ff hc18)) (by simp))) rfl rfl rfl rfl fun a hF=>?_
        refine E.opv hF (r_move (hF.at 0 rfl)) rfl rfl rfl rfl fun a hF=>?_
        refine E.opvg hF (r_move (hF.at 12 rfl)) (wanted_by rfl rfl (hF.at 0 rfl) rfl) rfl rfl rfl fun a hF=>?_
        refine E.opvg hF (r_move (hF.at 10 rfl)) (wanted_by rfl rfl (hF.at 1 rfl) rfl) rfl rfl rfl fun a hF=>?_
        refine E.opvg hF (r_ixv (hF.at 1 rfl) (hF.at 0 rfl) (ixs (xs:=B) (j:=j) Tryz.underlying9 (by omega) (by omega) h8B)) (wanted_by rfl rfl (hF.at 2 rfl) rfl) rfl rfl rfl fun a hF=>?_
        by_cases hc20:57<((lg (B) j:Nat):Int)
        ·first
         |(exfalso;omega)
         |(refine E.opvg hF (r_bin (hF.at 0 rfl) ev_c eg_scalar (bi_int (ic_gtr (c:=true) (dec_tt hc20)) (by simp))) (wanted_by rfl rfl (hF.at 3 rfl) rfl) rfl rfl rfl fun a hF=>?_
           refine E.opv hF (r_pick_f (hF.at 4 rfl) (hF.at 0 rfl)) rfl rfl rfl rfl fun a hF=>?_
           refine E.nil ?_
           refine wp_cond_true (hF.at 0 rfl) ?_
           refine wp_seq ?_
           refine E.seq ?_
           refine E.opv hF (r_build (by simp) (bd_RInt_ _)) rfl rfl rfl rfl fun a hF=>?_
           obtain⟨w21,hr,tu,on⟩:=st_RInt (vs:=[.bool false,.slice none 0 0]) o2 rfl rfl (ocB (ocS oc0)) (niB (niS ni0)) (o:=0) rfl
           have kp:=tu.keep o2
           refine E.st hF (r_store (hF.at 17 rfl) (hF.at 0 rfl) (hr _ rfl)) rfl rfl fun a hF=>?_
           clear hr
           replace hz0:=hz0.keep kp
           replace bel:=tu.below bel ge2
           replace sty:=sty.turned tu (.inl (by simp))
           clear tu kp
           replace o2:=on
           clear on
           refine E.opv hF (r_assign ev_c) rfl rfl rfl rfl fun a hF=>?_
           refine E.nil ?_
           refine wp_ret ?_
           refine bodyPost_ret (res_celltmp Tryz.results46 (hF.at 18 rfl) (ld_RInt (vs:=[.bool false,.slice none 0 0]) o2 rfl rfl) (hF.at 0 rfl)) hF.dfr ?_
           have hb:=rbad hbd (fun e=>hbd.symm.trans (by rw[e];exact bd_48)) (.inr (.inr (.inr ⟨j,hjn,by omega⟩)))
           exact⟨_,rv_vi2 hb.1,Rz.castP (Rz.zero _) hb.2,bel⟩)
        ·first
         |(exfalso;omega)
         |(refine E.opvg hF (r_bin (hF.at 0 rfl) ev_c eg_scalar (bi_int (ic_gtr (c:=false) (dec_ff hc20)) (by simp))) (wanted_by rfl rfl (hF.at 3 rfl) rfl) rfl rfl rfl fun a hF=>?_
           refine E.opv hF (r_pick_f (hF.at 4 rfl) (hF.at 0 rfl)) rfl rfl rfl rfl fun a hF=>?_
           refine E.nil ?_
           refine wp_cond_false (hF.at 0 rfl) ?_
           refine wp_skip ?_
           refine E.blk ?_
           refine E.norm ?_
           refine E.seq ?_
           refine E.opv hF (r_move (hF.at 14 rfl)) rfl rfl rfl rfl fun a hF=>?_
           refine E.opv hF (r_bin (hF.at 0 rfl) ev_c eg_scalar (ia_add (by omega) (by omega))) rfl rfl rfl rfl fun a hF=>?_
           refine E.opset (L':=[(5,.int .i64 (((j:Nat):Int)+1)),(44,.int .i64 (((j:Nat):Int)+1)),(43,.int .i64 ((j:Nat):Int)),(54,.bool false),(53,.bool false),(52,.int .u8 ((lg (B) j:Nat):Int)),(51,.int .i64 ((j:Nat):Int)),(50,.string (bstr B)),(49,.bool false),(48,.bool false),(47,.int .u8 ((lg (B) j:Nat):Int)),(46,.int .i64 ((j:Nat):Int)),(45,.string (bstr B)),(42,.bool true),(41,.int .i64 ((List.length (B):Nat):Int)),(40,.string (bstr B)),(39,.int .i64 ((j:Nat):Int)),(4,.bool N),(2,.pointer (some ⟨g2,0,none⟩)),(0,.string (bstr B))]) hF (r_assign (hF.at 0 rfl)) rfl rfl rfl rfl fun a hF=>?_
           refine E.nil0 ?_
           refine E.norm ?_
           exact⟨B.length-(j+1),by omega,⟨(j+1),(by omega),(dg_more hd ⟨by omega,by omega⟩),(by rw[show((j+1:Nat):Int)=((j:Nat):Int)+1 from by omega];exact Fr.sub (L':=[(5,.int .i64 (((j:Nat):Int)+1)),(4,.bool N),(2,.pointer (some ⟨g2,0,none⟩)),(0,.string (bstr B))]) hF (by intro p hp;simp only [List.mem_cons,List.not_mem_nil,or_false] at hp ⊢;rcases hp with rfl|rfl|rfl|rfl <;> simp)),sty,bel,o2,hz0,rfl⟩⟩))
    ·refine wp_seq ?_
     refine wp_seq ?_
     refine E.seq ?_
     refine E.opv hF (r_move (hF.at 0 rfl)) rfl rfl rfl rfl fun a hF=>?_
     refine E.opv hF (r_move (hF.at 4 rfl)) rfl rfl rfl rfl fun a hF=>?_
     refine E.opv hF (r_builtin (map1 (hF.at 0 rfl)) (bl_str Tryz.underlying9)) rfl rfl rfl rfl fun a hF=>?_
     refine E.opv hF (r_bin (hF.at 2 rfl) (hF.at 0 rfl) eg_scalar (bi_int (ic_lss (c:=false) (dec_ff (by omega))) (by simp))) rfl rfl rfl rfl fun a hF=>?_
     refine E.nil ?_
     refine wp_cond_false (hF.at 0 rfl) ?_
     refine wp_exit ?_
     refine E.past ?_
     refine E.past ?_
     refine E.out (id:=0) ?_
     refine E.norm ?_
     refine wp_seq ?_
     refine wp_seq ?_
     refine E.seq ?_
     refine E.opv hF (r_move (hF.at 7 rfl)) rfl rfl rfl rfl fun a hF=>?_
     refine E.opv hF (r_builtin (map1 (hF.at 0 rfl)) (bl_str Tryz.underlying9)) rfl rfl rfl rfl fun a hF=>?_
     by_cases hc18:1000<((List.length (B):Nat):Int)
     ·first
      |(exfalso;omega)
      |(refine E.opv hF (r_bin (hF.at 0 rfl) ev_c eg_scalar (bi_int (ic_gtr (c:=true) (dec_tt hc18)) (by simp))) rfl rfl rfl rfl fun a hF=>?_
        refine E.nil ?_
        refine wp_cond_true (hF.at 0 rfl) ?_
        refine wp_seq ?_
        refine E.seq ?_
        refine E.opv hF (r_build (by simp) (bd_RInt_ _)) rfl rfl rfl rfl fun a hF=>?_
        obtain⟨w19,hr,tu,on⟩:=st_RInt (vs:=[.bool false,.slice none 0 0]) o2 rfl rfl (ocB (ocS oc0)) (niB (niS ni0)) (o:=0) rfl
        have kp:=tu.keep o2
        refine E.st hF (r_store (hF.at 10 rfl) (hF.at 0 rfl) (hr _ rfl)) rfl rfl fun a hF=>?_
        clear hr
        replace hz0:=hz0.keep kp
        replace bel:=tu.below bel ge2
        clear tu kp
        replace o2:=on
        clear on
        refine E.opv hF (r_assign ev_c) rfl rfl rfl rfl fun a hF=>?_
        refine E.nil ?_
        refine wp_ret ?_
        refine bodyPost_ret (res_celltmp Tryz.results46 (hF.at 11 rfl) (ld_RInt (vs:=[.bool false,.slice none 0 0]) o2 rfl rfl) (hF.at 0 rfl)) hF.dfr ?_
        have hg:=rgood hbd hp0 hp1 hp2 (fun i hi=>hd i (by omega))
        have hb:=pe_5 hg (by rw[hbd];omega)
        exact⟨_,rv_vi2 hb.1,Rz.castP (Rz.zero _) hb.2,bel⟩)
     ·first
      |(exfalso;omega)
      |(refine E.opv hF (r_bin (hF.at 0 rfl) ev_c eg_scalar (bi_int (ic_gtr (c:=false) (dec_ff hc18)) (by simp))) rfl rfl rfl rfl fun a hF=>?_
        refine E.nil ?_
        refine wp_cond_false (hF.at 0 rfl) ?_
        refine wp_skip ?_
        refine E.norm ?_
        refine wp_seq ?_
        refine E.seq ?_
        obtain⟨vv20,w21,hr,bb,hh22⟩:=num0p w17
        refine E.opv hF (r_buildSlice (by simp) hr) rfl rfl rfl rfl fun a hF=>?_
        clear hr
        replace hz0:=hz0.below bb
        replace o2:=o2.below bb
        replace bel:=below_to bel bb
        clear bb
        obtain⟨ad23,n23,c23,rfl⟩:=Dg.form hh22
        refine E.opv hF (r_assign (hF.at 0 rfl)) rfl rfl rfl rfl fun a hF=>?_
        refine E.nil ?_
        refine wp_seq ?_
        refine wp_seq ?_
        refine E.seq ?_
        refine E.opv hF (r_assign ev_c) rfl rfl rfl rfl fun a hF=>?_
        refine E.nil ?_
        refine wp_block ?_
        have hjl0:j=B.length:=by omega
        have hdA:∀i,i<B.length→48≤lg B i∧lg B i≤57:=fun i hi=>hd i (by omega)
        refine E.loop (fun mq a wv=>∃(j:Nat) (sa:Option Addr) (sn:Nat) (sc:Nat),j≤B.length∧Fr 79 a [(7,.int .i64 ((j:Nat):Int)),(6,.slice sa sn sc),(4,.bool N),(2,.pointer (some ⟨g2,0,none⟩)),(0,.string (bstr B))]∧Below w21.heap.size w21 wv∧Below w.heap.size w wv∧Dg wv .i64 65536 (.slice sa sn sc) (dv B j)∧mq=B.length-j) (B.length-0) ?_ ?_
        ·exact⟨0,ad23,n23,c23,(Nat.zero_le _),Fr.sub (L':=[(7,.int .i64 ((0:Nat):Int)),(6,.slice ad23 n23 c23),(4,.bool N),(2,.pointer (some ⟨g2,0,none⟩)),(0,.string (bstr B))]) hF (by intro p hp;simp only [List.mem_cons,List.not_mem_nil,or_false] at hp ⊢;rcases hp with rfl|rfl|rfl|rfl|rfl <;> simp),Below.refl _ _,bel,hh22,rfl⟩
        ·rintro mq a w24 ⟨j,sa,sn,sc,hj,hF,sty,bel,hx,hm⟩
         replace hz0:=hz0.below sty
         replace o2:=o2.below sty
         by_cases hjn:j<B.length
         ·have hdj:=hdA j hjn
          have hXl:=dv_lim (B:=B) (j:=j) (fun i hi=>hdA i (by omega)) (by omega)
          have hadd:dl 65536 (dv B j*10)≤1000000∧dl 65536 (lg B j-48)≤1000000:=⟨(show Lim (dv B j*10) (106+1) from Lim.mul hXl (Lim.of32 (by decide))).dh _ (by decide),(show Lim (lg B j-48) 1 from Lim.of32 (by omega)).dh _ (by decide)⟩
          refine wp_seq ?_
          refine wp_seq ?_
          refine E.seq ?_
          refine E.opv hF (r_move (hF.at 0 rfl)) rfl rfl rfl rfl fun a hF=>?_
          refine E.opv hF (r_move (hF.at 5 rfl)) rfl rfl rfl rfl fun a hF=>?_
          refine E.opv hF (r_builtin (map1 (hF.at 0 rfl)) (bl_str Tryz.underlying9)) rfl rfl rfl rfl fun a hF=>?_
          refine E.opv hF (r_bin (hF.at 2 rfl) (hF.at 0 rfl) eg_scalar (bi_int (ic_lss (c:=true) (dec_tt (by omega))) (by simp))) rfl rfl rfl rfl fun a hF=>?_
          refine E.nil ?_
          refine wp_cond_true (hF.at 0 rfl) ?_
          refine wp_skip ?_
          refine E.norm ?_
          refine wp_seq ?_
          refine wp_block ?_
          refine E.drawn 9 mixed hF [67,68,69,70,71,72,73,74,75] [(fun _ v=>v= .slice sa sn sc),(fun w v=>Dg w .i64 65536 v ((dv B j)*10)),(fun _ v=>v= .string (bstr B)),(fun _ v=>v= .int .i64 ((j:Nat):Int)),(fun _ v=>v= .int .u8 ((lg (B) j:Nat):Int)),(fun _ v=>v= .int .u8 (((lg (B) j:Nat):Int)-48)),(fun _ v=>v= .int .i64 (((lg (B) j:Nat):Int)-48)),(fun w v=>Dg w .i64 65536 v ((lg B j-48))),(fun w v=>Dg w .i64 65536 v (((dv B j)*10)+((lg B j-48))))] [] (by decide+kernel) (by decide+kernel) rfl rfl rfl ⟨(Mb.eq _),(fun _ _ _ h hb=>h.below hb),(Mb.eq _),(Mb.eq _),(Mb.eq _),(Mb.eq _),(Mb.eq _),(fun _ _ _ h hb=>h.below hb),(fun _ _ _ h hb=>h.below hb),trivial⟩ trivial ⟨?_,?_,?_,?_,?_,?_,?_,?_,?_,trivial⟩ ?_
          ·intro a' w' hF' hb hd
           exact if_does (wanted_free rfl) (Does.vals (r_move (hF'.at 5 rfl)) ⟨rfl,Below.refl _ _,(fun h=>absurd h (by decide))⟩)
          ·intro a' w' hF' hb hd
           have e67:a'.tmps.getD 67 undef= .slice sa sn sc:=hd _ 67 (Array.mem_of_getElem? (i:=0) rfl) rfl rfl
           refine if_does (wanted_free rfl) (Does.calls (r_call Tryz.func77 en77.1 en77.2 (map3 e67 ev_c ev_c)) (stimes10 _ (dv B j) _ (hx.below hb) (Lim.dh hXl _ (by omega))) ?_)
           rintro e w'' ⟨v',rfl,h',bb⟩
           exact⟨_,rfl,h',bb,(fun h=>absurd h (by decide))⟩
          ·intro a' w' hF' hb hd
           exact if_does (wanted_free rfl) (Does.vals (r_move (hF'.at 8 rfl)) ⟨rfl,Below.refl _ _,(fun h=>absurd h (by decide))⟩)
          ·intro a' w' hF' hb hd
           exact if_does (wanted_free rfl) (Does.vals (r_move (hF'.at 4 rfl)) ⟨rfl,Below.refl _ _,(fun h=>absurd h (by decide))⟩)
          ·intro a' w' hF' hb hd
           have e69:a'.tmps.getD 69 undef= .string (bstr B):=hd _ 69 (Array.mem_of_getElem? (i:=0) rfl) rfl rfl
           have e70:a'.tmps.getD 70 undef= .int .i64 ((j:Nat):Int):=hd _ 70 (Array.mem_of_getElem? (i:=1) rfl) rfl rfl
           exact if_does (wanted_free rfl) (Does.vals (r_ixv e69 e70 (ixs (xs:=B) (j:=j) Tryz.underlying9 (by omega) (by omega) h8B)) ⟨rfl,Below.refl _ _,(fun h=>absurd h (by decide))⟩)
          ·intro a' w' hF' hb hd
           have e71:a'.tmps.getD 71 undef= .int .u8 ((lg (B) j:Nat):Int):=hd _ 71 (Array.mem_of_getElem? (i:=0) rfl) rfl rfl
           exact if_does (wanted_free rfl) (Does.vals (r_bin e71 ev_c eg_scalar (iw_sub (a:=((lg (B) j:Nat):Int)) (b:=48) (w_u8 (by omega) (by omega)))) ⟨rfl,Below.refl _ _,(fun h=>absurd h (by decide))⟩)
          ·intro a' w' hF' hb hd
           have e72:a'.tmps.getD 72 undef= .int .u8 (((lg (B) j:Nat):Int)-48):=hd _ 72 (Array.mem_of_getElem? (i:=0) rfl) rfl rfl
           exact if_does (wanted_free rfl) (Does.vals (r_conv e72 (cv_kind (k':= .i64) Tryz.underlying5 Tryz.underlying3 (w_i64 (by omega) (by omega)))) ⟨rfl,Below.refl _ _,(fun h=>absurd h (by decide))⟩)
          ·intro a' w' hF' hb hd
           have e73:a'.tmps.getD 73 undef= .int .i64 (((lg (B) j:Nat):Int)-48):=hd _ 73 (Array.mem_of_getElem? (i:=0) rfl) rfl rfl
           refine if_does (wanted_free rfl) (Does.calls (r_call Tryz.func52 en52.1 en52.2 (map1 e73)) (sOf_int _ (lg B j-48) _ (by omega) (by omega)) ?_)
           rintro e w'' ⟨v',rfl,h',bb⟩
           exact⟨_,rfl,h',bb,(fun h=>absurd h (by decide))⟩
          ·intro a' w' hF' hb hd
           obtain⟨v68_0,e68,h68_1⟩:∃v,a'.tmps.getD 68 undef=v∧Dg w' .i64 65536 v ((dv B j)*10):=⟨_,rfl,hd _ 68 (Array.mem_of_getElem? (i:=0) rfl) rfl rfl⟩
           obtain⟨v74_0,e74,h74_1⟩:∃v,a'.tmps.getD 74 undef=v∧Dg w' .i64 65536 v ((lg B j-48)):=⟨_,rfl,hd _ 74 (Array.mem_of_getElem? (i:=1) rfl) rfl rfl⟩
           refine if_does (wanted_free rfl) (Does.calls (r_call Tryz.func76 en76.1 en76.2 (map2 e68 e74)) (sadd_any _ _ ((dv B j)*10) ((lg B j-48)) _ h68_1 h74_1 hadd) ?_)
           rintro e w'' ⟨v',rfl,h',bb⟩
           exact⟨_,rfl,h',bb,(fun h=>absurd h (by decide))⟩
          intro a w25 hF bb hall hne
          obtain⟨vv26,e75,hh27⟩:∃v,a.tmps.getD 75 undef=v∧Dg w25 .i64 65536 v (((dv B j)*10)+((lg B j-48))):=⟨_,rfl,hall 8 75 rfl⟩
          clear hall hne
          replace hx:=hx.below bb
          replace hz0:=hz0.below bb
          replace o2:=o2.below bb
          replace sty:=below_to sty bb
          replace bel:=below_to bel bb
          clear bb
          obtain⟨ad28,n28,c28,rfl⟩:=Dg.form hh27
          replace hF:=hF.add e75
          clear e75
          refine E.opset (L':=[(6,.slice ad28 n28 c28),(75,.slice ad28 n28 c28),(64,.bool true),(63,.int .i64 ((List.length (B):Nat):Int)),(62,.string (bstr B)),(61,.int .i64 ((j:Nat):Int)),(7,.int .i64 ((j:Nat):Int)),(4,.bool N),(2,.pointer (some ⟨g2,0,none⟩)),(0,.string (bstr B))]) hF (r_assign (hF.at 0 rfl)) rfl rfl rfl rfl fun a hF=>?_
          refine E.nil0 ?_
          refine E.blk ?_
          refine E.norm ?_
          refine E.seq ?_
          refine E.opv hF (r_move (hF.at 6 rfl)) rfl rfl rfl rfl fun a hF=>?_
          refine E.opv hF (r_bin (hF.at 0 rfl) ev_c eg_scalar (ia_add (by omega) (by omega))) rfl rfl rfl rfl fun a hF=>?_
          refine E.opset (L':=[(7,.int .i64 (((j:Nat):Int)+1)),(66,.int .i64 (((j:Nat):Int)+1)),(65,.int .i64 ((j:Nat):Int)),(6,.slice ad28 n28 c28),(75,.slice ad28 n28 c28),(64,.bool true),(63,.int .i64 ((List.length (B):Nat):Int)),(62,.string (bstr B)),(61,.int .i64 ((j:Nat):Int)),(4,.bool N),(2,.pointer (some ⟨g2,0,none⟩)),(0,.string (bstr B))]) hF (r_assign (hF.at 0 rfl)) rfl rfl rfl rfl fun a hF=>?_
          refine E.nil0 ?_
          refine E.norm ?_
          exact⟨B.length-(j+1),by omega,⟨(j+1),ad28,n28,c28,(by omega),(by rw[show((j+1:Nat):Int)=((j:Nat):Int)+1 from by omega];exact Fr.sub (L':=[(7,.int .i64 (((j:Nat):Int)+1)),(6,.slice ad28 n28 c28),(4,.bool N),(2,.pointer (some ⟨g2,0,none⟩)),(0,.string (bstr B))]) hF (by intro p hp;simp only [List.mem_cons,List.not_mem_nil,or_false] at hp ⊢;rcases hp with rfl|rfl|rfl|rfl|rfl <;> simp)),sty,bel,hh27,rfl⟩⟩
         ·have hjl:j=B.length:=by omega
          refine wp_seq ?_
          refine wp_seq ?_
          refine E.seq ?_
          refine E.opv hF (r_move (hF.at 0 rfl)) rfl rfl rfl rfl fun a hF=>?_
          refine E.opv hF (r_move (hF.at 5 rfl)) rfl rfl rfl rfl fun a hF=>?_
          refine E.opv hF (r_builtin (map1 (hF.at 0 rfl)) (bl_str Tryz.underlying9)) rfl rfl rfl rfl fun a hF=>?_
          refine E.opv hF (r_bin (hF.at 2 rfl) (hF.at 0 rfl) eg_scalar (bi_int (ic_lss (c:=false) (dec_ff (by omega))) (by simp))) rfl rfl rfl rfl fun a hF=>?_
          refine E.nil ?_
          refine wp_cond_false (hF.at 0 rfl) ?_
          refine wp_exit ?_
          refine E.past ?_
          refine E.past ?_
          refine E.out (id:=2) ?_
          refine E.norm ?_
          refine wp_seq ?_
          refine E.seq ?_
          refine E.opv hF (r_move (hF.at 6 rfl)) rfl rfl rfl rfl fun a hF=>?_
          refine E.opv hF (r_move (hF.at 6 rfl)) rfl rfl rfl rfl fun a hF=>?_
          refine E.call hF (r_call Tryz.func32 en32.1 en32.2 (map2 (hF.at 1 rfl) (hF.at 0 rfl))) (rmake_any _ _ (dv B j) _ hx) rfl rfl rfl rfl ?_
          rintro e w25 ⟨vv26,rfl,hh27,bb⟩
          refine⟨_,rfl,?_⟩
          intro a hF
          replace hz0:=hz0.below bb
          replace o2:=o2.below bb
          replace bel:=below_to bel bb
          clear bb
          obtain⟨b28,ad28,n28,c28,rfl⟩:=Rz.form hh27
          obtain⟨w29,hr,tu,on⟩:=st_RInt (vs:=[.bool b28,.slice ad28 n28 c28]) o2 rfl rfl (ocB (ocS oc0)) (niB (niS ni0)) (o:=0) rfl
          have kp:=tu.keep o2
          refine E.st hF (r_store (hF.at 10 rfl) (hF.at 0 rfl) (hr _ rfl)) rfl rfl fun a hF=>?_
          clear hr
          replace hz0:=hz0.keep kp
          replace hh27:=hh27.keep kp
          replace bel:=tu.below bel ge2
          clear tu kp
          replace o2:=on
          clear on
          have hf30:=Rz.abs hh27
          refine E.opv hF (r_assign ev_c) rfl rfl rfl rfl fun a hF=>?_
          refine E.nil ?_
          refine wp_ret ?_
          refine bodyPost_ret (res_celltmp Tryz.results46 (hF.at 11 rfl) (ld_RInt (vs:=[.bool b28,.slice ad28 n28 c28]) o2 rfl rfl) (hF.at 0 rfl)) hF.dfr ?_
          have hg:=rgood hbd hp0 hp1 hp2 hdA
          have hb:=pe_0 hg (by rw[hbd];omega)
          rw[hN,hbd] at hb
          rw[hjl] at*
          exact⟨_,rv_vi2 hb.1,Rz.castP hh27 hb.2,bel⟩)
end Go.Proofs.YtpkhdajnppoinaaGreat
