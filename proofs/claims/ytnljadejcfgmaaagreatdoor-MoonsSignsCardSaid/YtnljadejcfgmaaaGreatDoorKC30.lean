import Derived.Test.YtnljadejcfgmaaaGreatDoorKC29
namespace Go.Proofs.YtnljadejcfgmaaaGreatDoor
open Go.RowKit
set_option maxRecDepth 100000
set_option linter.unusedVariables false
set_option maxHeartbeats 8000000
def dq (X j:Nat):Nat:=X/65536^j
def dg6 (X j:Nat):Nat:=X/65536^j%65536
theorem dq_zero (X:Nat):dq X 0=X:=by unfold dq;rw[Nat.pow_zero,Nat.div_one]
theorem dq_succ (X j:Nat):65536*dq X (j+1)+dg6 X j=dq X j:=by
 unfold dq dg6
 rw[Nat.pow_succ,←Nat.div_div_eq_div_mul]
 exact Nat.div_add_mod _ _
theorem dq_le (X j:Nat):dq X j≤X:=Nat.div_le_self _ _
theorem dq_end (X:Nat):dq X (dl 65536 X)=0:=Nat.div_eq_of_lt (lt_dl (by decide) X)
theorem dg_cell {w:World} {ad:Option Addr} {n c X j:Nat} (h:Dg w .i64 65536 (.slice ad n c) X) (hj:j<n):∃b off,ad=some ⟨b,off,none⟩∧w.cell? ⟨b,off+j,none⟩=some (.int .i64 ((dg6 X j:Nat):Int)):=by
 obtain⟨ad',cap,h1,hr,_⟩:=h
 injection h1 with e1 e2 e3
 subst e1
 obtain⟨b,off,e,_,hc⟩:=hr.cell j (by omega)
 rw[lg_dg (by decide)] at hc
 exact⟨b,off,e,hc⟩
theorem ix_numJ {w:World} {b off n c j:Nat} {i:Int} (hi:i=(j:Int)) (hn:j<n):(Instr.indexAt 36 (.slice (some ⟨b,off,none⟩) n c) (.int .i64 i)).run Tryz.prog w= .ok (.pointer (some ⟨b,off+j,none⟩)) w:=by
 subst hi
 simp[Instr.indexAt,asIntOf,run_underlying Tryz.underlying36,Sem.run_bind,Addr.add_mid]
 intro e;omega
theorem small_bd {X:Nat} {i n:Int} (h:n=((dq X (i+1).toNat :Nat):Int)):0≤n∧n≤((X:Nat):Int)∧(0≤i→0≤65536*n∧65536*n≤((X:Nat):Int)∧65536*n+((dg6 X i.toNat:Nat):Int)=((dq X (i-1+1).toNat :Nat):Int)∧65536*n+((dg6 X i.toNat:Nat):Int)≤((X:Nat):Int)):=by
 have a:=dq_le X (i+1).toNat
 subst h
 refine⟨by omega,by omega,fun h0=>?_⟩
 have e:=dq_succ X i.toNat
 have f:=dq_le X i.toNat
 rw[show(i+1).toNat =i.toNat+1 by omega,show(i-1+1).toNat =i.toNat by omega]
 omega
theorem rsmall3_any (v1:Value) (z1:Int) (w:World) (h1:Rz w v1 z1) (h0: -4611686018427387904≤z1) (hs:z1≤4611686018427387904):
 Calls Tryz.prog 148 #[v1] w (ValPost w (.int .i64 z1)):=by
 obtain⟨b1,ad1,n1,c1,rfl⟩:=h1.form
 have ha1:=h1.abs
 have hb1:=h1.neg
 have hbt:b1=true↔z1<0:=by rw[hb1];exact decide_eq_true_iff
 clear hb1
 have hl1:n1=dl 65536 (Int.natAbs z1):=ha1.len
 have hl4:n1≤4:=by rw[hl1];exact dl_le (by decide) (by rw[show(65536:Nat)^4=18446744073709551616 from rfl];omega)
 have st:=St.start w
 refine E.enter (nt:=26) (L:=[(0,.agg #[.bool b1,.slice ad1 n1 c1])]) Tryz.func148 rfl rfl rfl (args_cons (i:=0) rfl args_nil) ?_
 intro a hF
 refine wp_seq ?_
 refine E.seq ?_
 refine S.box st hF (hF.at 0 rfl) rfl rfl fun g1 w1 a st hF=>?_
 refine E.opv hF (r_assign ev_c) rfl rfl rfl rfl fun a hF=>?_
 refine E.nil ?_
 refine wp_seq ?_
 refine E.seq ?_
 refine E.opv hF (r_assign ev_c) rfl rfl rfl rfl fun a hF=>?_
 refine E.nil ?_
 refine wp_seq ?_
 refine wp_seq ?_
 refine E.seq ?_
 refine E.opv hF (r_field (hF.at 2 rfl) (fa_RInt_1 (p:=1) rfl)) rfl rfl rfl rfl fun a hF=>?_
 refine E.opv hF (r_load (hF.at 0 rfl) (ld_Num (v:= .slice ad1 n1 c1) (st.b 0 rfl rfl) rfl)) rfl rfl rfl rfl fun a hF=>?_
 refine E.opv hF (r_builtin (map1 (hF.at 0 rfl)) bl_num) rfl rfl rfl rfl fun a hF=>?_
 refine E.opv hF (r_bin (hF.at 0 rfl) ev_c eg_scalar (ia_sub (by omega) (by omega))) rfl rfl rfl rfl fun a hF=>?_
 refine E.opv hF (r_assign (hF.at 0 rfl)) rfl rfl rfl rfl fun a hF=>?_
 refine E.nil ?_
 refine wp_block ?_
 refine E.loop (fun mq a wv=>∃(i:Int) (n:Int), -1≤i∧i<((n1:Nat):Int)∧n=((dq (Int.natAbs z1) (i+1).toNat :Nat):Int)∧Fr 26 a [(4,.int .i64 i),(3,.int .i64 n),(2,.int .i64 0),(1,.pointer (some ⟨g1,0,none⟩))]∧St w wv [(g1,[.bool b1,.slice ad1 n1 c1])] []∧mq=(i+1:Int).toNat) (((((n1:Nat):Int)-1)+1:Int).toNat) ?_ ?_
 ·exact⟨(((n1:Nat):Int)-1:Int),(0:Int),(by omega),(by omega),(by rw[show(((n1:Nat):Int)-1+1).toNat =dl 65536 (Int.natAbs z1) by omega,dq_end];rfl),Fr.pick (L':=[(4,.int .i64 (((n1:Nat):Int)-1)),(3,.int .i64 0),(2,.int .i64 0),(1,.pointer (some ⟨g1,0,none⟩))]) hF [0,5,6,7] rfl,st.pick [0] [] rfl rfl (by decide),rfl⟩
 ·rintro mq a w2 ⟨i,n,hi0,hi1,hn,hF,st,hm⟩
  have hsm:=small_bd hn
  refine wp_seq ?_
  refine wp_seq ?_
  refine E.seq ?_
  refine E.opv hF (r_move (hF.at 0 rfl)) rfl rfl rfl rfl fun a hF=>?_
  by_cases hc3:0≤i
  ·first
   |(exfalso;omega)
   |(refine E.opv hF (r_bin (hF.at 0 rfl) ev_c eg_scalar (bi_int (ic_geq (c:=true) (dec_tt hc3)) (by simp))) rfl rfl rfl rfl fun a hF=>?_
     refine E.nil ?_
     refine wp_cond_true (hF.at 0 rfl) ?_
     refine wp_skip ?_
     refine E.norm ?_
     refine wp_seq ?_
     refine wp_block ?_
     refine E.seq ?_
     refine E.opv hF (r_move (hF.at 3 rfl)) rfl rfl rfl rfl fun a hF=>?_
     refine E.opv hF (r_bin ev_c (hF.at 0 rfl) eg_scalar (ia_mul (by omega) (by omega))) rfl rfl rfl rfl fun a hF=>?_
     refine E.opv hF (r_field (hF.at 7 rfl) (fa_RInt_1 (p:=1) rfl)) rfl rfl rfl rfl fun a hF=>?_
     refine E.opv hF (r_load (hF.at 0 rfl) (ld_Num (v:= .slice ad1 n1 c1) (st.b 0 rfl rfl) rfl)) rfl rfl rfl rfl fun a hF=>?_
     refine E.opv hF (r_move (hF.at 6 rfl)) rfl rfl rfl rfl fun a hF=>?_
     obtain⟨gr,og,hag,hcl⟩:=dg_cell (j:=(i).toNat) (ha1.below st.bel) (by omega)
     refine E.opv hF (r_index (hF.at 1 rfl) (hF.at 0 rfl) (by rw[hag];exact ix_numJ (j:=(i).toNat) (by omega) (by omega))) rfl rfl rfl rfl fun a hF=>?_
     refine E.opv hF (r_load (hF.at 0 rfl) (ldc_int hcl)) rfl rfl rfl rfl fun a hF=>?_
     refine E.opv hF (r_bin (hF.at 5 rfl) (hF.at 0 rfl) eg_scalar (ia_add (by omega) (by omega))) rfl rfl rfl rfl fun a hF=>?_
     refine E.opset (L':=[(3,.int .i64 ((65536*n)+((dg6 (Int.natAbs z1) (i).toNat :Nat):Int))),(20,.int .i64 ((65536*n)+((dg6 (Int.natAbs z1) (i).toNat :Nat):Int))),(19,.int .i64 ((dg6 (Int.natAbs z1) (i).toNat :Nat):Int)),(18,.pointer (some ⟨gr,og+(i).toNat,none⟩)),(17,.int .i64 i),(16,.slice ad1 n1 c1),(15,.pointer (some ⟨g1,1,none⟩)),(14,.int .i64 (65536*n)),(13,.int .i64 n),(10,.bool true),(9,.int .i64 i),(4,.int .i64 i),(2,.int .i64 0),(1,.pointer (some ⟨g1,0,none⟩))]) hF (r_assign (hF.at 0 rfl)) rfl rfl rfl rfl fun a hF=>?_
     refine E.nil0 ?_
     refine E.blk ?_
     refine E.norm ?_
     refine E.seq ?_
     refine E.opv hF (r_move (hF.at 11 rfl)) rfl rfl rfl rfl fun a hF=>?_
     refine E.opv hF (r_bin (hF.at 0 rfl) ev_c eg_scalar (ia_sub (by omega) (by omega))) rfl rfl rfl rfl fun a hF=>?_
     refine E.opset (L':=[(4,.int .i64 (i-1)),(12,.int .i64 (i-1)),(11,.int .i64 i),(3,.int .i64 ((65536*n)+((dg6 (Int.natAbs z1) (i).toNat :Nat):Int))),(20,.int .i64 ((65536*n)+((dg6 (Int.natAbs z1) (i).toNat :Nat):Int))),(19,.int .i64 ((dg6 (Int.natAbs z1) (i).toNat :Nat):Int)),(18,.pointer (some ⟨gr,og+(i).toNat,none⟩)),(17,.int .i64 i),(16,.slice ad1 n1 c1),(15,.pointer (some ⟨g1,1,none⟩)),(14,.int .i64 (65536*n)),(13,.int .i64 n),(10,.bool true),(9,.int .i64 i),(2,.int .i64 0),(1,.pointer (some ⟨g1,0,none⟩))]) hF (r_assign (hF.at 0 rfl)) rfl rfl rfl rfl fun a hF=>?_
     refine E.nil0 ?_
     refine E.norm ?_
     exact⟨((i-1)+1:Int).toNat,by omega,⟨(i-1:Int),((65536*n)+((dg6 (Int.natAbs z1) (i).toNat :Nat):Int):Int),(by omega),(by omega),(hsm.2.2 (by omega)).2.2.1,Fr.pick (L':=[(4,.int .i64 (i-1)),(3,.int .i64 ((65536*n)+((dg6 (Int.natAbs z1) (i).toNat :Nat):Int))),(2,.int .i64 0),(1,.pointer (some ⟨g1,0,none⟩))]) hF [0,3,14,15] rfl,st.pick [0] [] rfl rfl (by decide),rfl⟩⟩)
  ·first
   |(exfalso;omega)
   |(refine E.opv hF (r_bin (hF.at 0 rfl) ev_c eg_scalar (bi_int (ic_geq (c:=false) (dec_ff hc3)) (by simp))) rfl rfl rfl rfl fun a hF=>?_
     refine E.nil ?_
     refine wp_cond_false (hF.at 0 rfl) ?_
     refine wp_exit ?_
     refine E.past ?_
     refine E.past ?_
     refine E.out (id:=0) ?_
     refine E.norm ?_
     refine wp_seq ?_
     refine wp_seq ?_
     refine E.seq ?_
     refine E.opv hF (r_field (hF.at 5 rfl) (fa_RInt_0 (p:=0) rfl)) rfl rfl rfl rfl fun a hF=>?_
     refine E.opv hF (r_load (hF.at 0 rfl) (ld_bool (v:= .bool b1) (st.b 0 rfl rfl) rfl)) rfl rfl rfl rfl fun a hF=>?_
     refine E.nil ?_
     by_cases hc4:b1=true
     ·first
      |(exfalso;omega)
      |(refine wp_cond_true (Eq.trans (hF.at 0 rfl) (congrArg Value.bool hc4)) ?_
        refine wp_seq ?_
        refine E.seq ?_
        refine E.opv hF (r_move (hF.at 5 rfl)) rfl rfl rfl rfl fun a hF=>?_
        refine E.opv hF (r_un (hF.at 0 rfl) (bn_neg (by omega) (by omega))) rfl rfl rfl rfl fun a hF=>?_
        refine E.opset (L':=[(2,.int .i64 (-n)),(24,.int .i64 (-n)),(23,.int .i64 n),(22,.bool b1),(21,.pointer (some ⟨g1,0,none⟩)),(10,.bool false),(9,.int .i64 i),(4,.int .i64 i),(3,.int .i64 n),(1,.pointer (some ⟨g1,0,none⟩))]) hF (r_assign (hF.at 0 rfl)) rfl rfl rfl rfl fun a hF=>?_
        refine E.nil ?_
        refine wp_ret ?_
        have bel:=st.bel
        refine bodyPost_ret (res_tmp Tryz.results148 (hF.at 0 rfl)) hF.dfr ?_
        have hz:=hbt.1 hc4
        rw[show(i+1).toNat =0 by omega,dq_zero] at hn
        refine⟨rv_int ?_,bel⟩
        omega)
     ·first
      |(exfalso;omega)
      |(refine wp_cond_false (Eq.trans (hF.at 0 rfl) (congrArg Value.bool (eq_false_of_ne_true hc4))) ?_
        refine wp_skip ?_
        refine E.norm ?_
        refine wp_seq ?_
        refine E.seq ?_
        refine E.opv hF (r_move (hF.at 5 rfl)) rfl rfl rfl rfl fun a hF=>?_
        refine E.opset (L':=[(2,.int .i64 n),(25,.int .i64 n),(22,.bool b1),(21,.pointer (some ⟨g1,0,none⟩)),(10,.bool false),(9,.int .i64 i),(4,.int .i64 i),(3,.int .i64 n),(1,.pointer (some ⟨g1,0,none⟩))]) hF (r_assign (hF.at 0 rfl)) rfl rfl rfl rfl fun a hF=>?_
        refine E.nil ?_
        refine wp_ret ?_
        have bel:=st.bel
        refine bodyPost_ret (res_tmp Tryz.results148 (hF.at 0 rfl)) hF.dfr ?_
        have hz:¬z1<0:=fun e=>hc4 (hbt.2 e)
        rw[show(i+1).toNat =0 by omega,dq_zero] at hn
        refine⟨rv_int ?_,bel⟩
        omega))
theorem rint3_any (v1:Value) (q1:Rat) (k:Nat) (w:World) (h1:Rr w v1 q1 k) (hp:1≤k) (hk:k≤4990) (hf0: -4611686018427387904≤Rat.floor q1) (hf1:Rat.floor q1≤4611686018427387904):
 Calls Tryz.prog 84 #[v1] w (ValPost w (.int .i64 (Rat.floor q1))):=by
 have rl1:=h1.rlim
 obtain⟨b1,ad1,n1,c1,ae1,m1,d1,rfl⟩:=h1.form
 have st:=St.start w
 refine E.enter (nt:=6) (L:=[(0,.agg #[.bool b1,.slice ad1 n1 c1,.slice ae1 m1 d1])]) Tryz.func84 rfl rfl rfl (args_cons (i:=0) rfl args_nil) ?_
 intro a hF
 refine wp_seq ?_
 refine E.seq ?_
 refine S.box st hF (hF.at 0 rfl) rfl rfl fun g1 w1 a st hF=>?_
 refine E.opv hF (r_assign ev_c) rfl rfl rfl rfl fun a hF=>?_
 refine E.nil ?_
 refine wp_seq ?_
 refine E.seq ?_
 refine E.opv hF (r_load (hF.at 1 rfl) (ld_all ty_RRat (st.bk 0 rfl) rfl)) rfl rfl rfl rfl fun a hF=>?_
 refine S.call st hF (r_call Tryz.func125 en125.1 en125.2 (map1 (hF.at 0 rfl))) (dFloor_any _ (q1) k _ (h1.below st.bel) (by omega) (by omega)) (fun _ _ h=>h) Rz.cl rfl rfl rfl rfl fun vv3 w2 a st hF=>?_
 obtain⟨b5,ad5,n5,c5,rfl⟩:=Rz.form (st.f 0 rfl)
 refine S.callx st hF (r_call Tryz.func148 en148.1 en148.2 (map1 (hF.at 0 rfl))) (rsmall3_any _ (Rat.floor (q1)) _ (st.f 0 rfl) hf0 hf1) rfl rfl rfl rfl fun w6 a st hF=>?_
 refine E.opset (L':=[(2,.int .i64 (Rat.floor (q1))),(5,.int .i64 (Rat.floor (q1))),(4,.agg #[.bool b5,.slice ad5 n5 c5]),(3,.agg #[.bool b1,.slice ad1 n1 c1,.slice ae1 m1 d1]),(1,.pointer (some ⟨g1,0,none⟩)),(0,.agg #[.bool b1,.slice ad1 n1 c1,.slice ae1 m1 d1])]) hF (r_assign (hF.at 0 rfl)) rfl rfl rfl rfl fun a hF=>?_
 refine E.nil ?_
 refine wp_ret ?_
 have bel:=st.bel
 refine bodyPost_ret (res_tmp Tryz.results84 (hF.at 0 rfl)) hF.dfr ?_
 exact⟨rfl,bel⟩
end Go.Proofs.YtnljadejcfgmaaaGreatDoor
