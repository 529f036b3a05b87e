import Derived.Test.YtacnedknihlfnaaKA28
namespace Go.Proofs.Ytacnedknihlfnaa
open Go.RowKit
set_option maxRecDepth 100000
set_option linter.unusedVariables false
set_option maxHeartbeats 8000000
theorem en34:(Try.f34.name == "runtime.NumGoroutine")=false∧Try.f34.body.isNone=false:=⟨by decide+kernel,by kernel_rfl⟩
theorem en21:(Try.f21.name == "runtime.NumGoroutine")=false∧Try.f21.body.isNone=false:=⟨by decide+kernel,by kernel_rfl⟩
theorem en16:(Try.f16.name == "runtime.NumGoroutine")=false∧Try.f16.body.isNone=false:=⟨by decide+kernel,by kernel_rfl⟩
theorem en22:(Try.f22.name == "runtime.NumGoroutine")=false∧Try.f22.body.isNone=false:=⟨by decide+kernel,by kernel_rfl⟩
theorem r16fl_any (a0 b:Int) (w:World) (hb:0<b) (hb1:b≤2000000000000) (h0: -9000000000000000000≤a0) (h1:a0≤9000000000000000000):
 Calls Try.prog 34 #[.int .i64 a0,.int .i64 b] w (ValPost w (.int .i64 (a0/b))):=by
 have st:=St.start w
 refine E.enter (nt:=17) (L:=[(0,.int .i64 a0),(1,.int .i64 b)]) Try.func34 rfl rfl rfl (args_cons (i:=0) rfl (args_cons (i:=1) rfl args_nil)) ?_
 intro a hF
 refine wp_seq ?_
 refine E.seq ?_
 refine E.opv hF (r_assign ev_c) rfl rfl rfl rfl fun a hF=>?_
 refine E.nil ?_
 refine wp_seq ?_
 refine wp_seq ?_
 refine E.seq ?_
 refine E.opv hF (r_move (hF.at 1 rfl)) rfl rfl rfl rfl fun a hF=>?_
 by_cases hc1:0≤a0
 ·refine E.opv hF (r_bin (hF.at 0 rfl) ev_c eg_scalar (bi_int (ic_geq (c:=true) (dec_tt hc1)) (by simp))) rfl rfl rfl rfl fun a hF=>?_
  refine E.nil ?_
  refine wp_cond_true (hF.at 0 rfl) ?_
  refine wp_seq ?_
  refine E.seq ?_
  refine E.opv hF (r_move (hF.at 3 rfl)) rfl rfl rfl rfl fun a hF=>?_
  refine E.opv hF (r_move (hF.at 5 rfl)) rfl rfl rfl rfl fun a hF=>?_
  refine E.opv hF (r_bin (hF.at 1 rfl) (hF.at 0 rfl) eg_scalar (id_quon (a:=a0) (b:=b) hb (by omega) (by have:=r16_in hb (a:=a0) (by omega);omega) (by have:=r16_in hb (a:=a0) (by omega);omega))) rfl rfl rfl rfl fun a hF=>?_
  refine E.opset (L':=[(4,.int .i64 (a0/b)),(9,.int .i64 (a0/b)),(8,.int .i64 b),(7,.int .i64 a0),(6,.bool true),(5,.int .i64 a0),(0,.int .i64 a0),(1,.int .i64 b)]) hF (r_assign (hF.at 0 rfl)) rfl rfl rfl rfl fun a hF=>?_
  refine E.nil ?_
  refine wp_ret ?_
  have bel:=st.bel
  refine bodyPost_ret (res_tmp Try.results34 (hF.at 0 rfl)) hF.dfr ?_
  exact⟨rfl,bel⟩
 ·refine E.opv hF (r_bin (hF.at 0 rfl) ev_c eg_scalar (bi_int (ic_geq (c:=false) (dec_ff hc1)) (by simp))) rfl rfl rfl rfl fun a hF=>?_
  refine E.nil ?_
  refine wp_cond_false (hF.at 0 rfl) ?_
  refine wp_skip ?_
  refine E.norm ?_
  refine wp_seq ?_
  refine E.seq ?_
  refine E.opv hF (r_move (hF.at 4 rfl)) rfl rfl rfl rfl fun a hF=>?_
  refine E.opv hF (r_bin (hF.at 0 rfl) ev_c eg_scalar (ia_sub (by omega) (by omega))) rfl rfl rfl rfl fun a hF=>?_
  refine E.opv hF (r_move (hF.at 5 rfl)) rfl rfl rfl rfl fun a hF=>?_
  refine E.opv hF (r_bin (hF.at 1 rfl) (hF.at 0 rfl) eg_scalar (ia_sub (by omega) (by omega))) rfl rfl rfl rfl fun a hF=>?_
  refine E.opv hF (r_move (hF.at 8 rfl)) rfl rfl rfl rfl fun a hF=>?_
  refine E.opv hF (r_bin (hF.at 1 rfl) (hF.at 0 rfl) eg_scalar (id_quon (a:=(b-1)-a0) (b:=b) hb (by omega) (by have:=r16_bd hb (a:=a0) (by omega);omega) (by have:=r16_bd hb (a:=a0) (by omega);omega))) rfl rfl rfl rfl fun a hF=>?_
  refine E.opv hF (r_un (hF.at 0 rfl) (bn_neg (by have:=r16_bd hb (a:=a0) (by omega);omega) (by have:=r16_bd hb (a:=a0) (by omega);omega))) rfl rfl rfl rfl fun a hF=>?_
  refine E.opset (L':=[(4,.int .i64 (-(((b-1)-a0)/b))),(16,.int .i64 (-(((b-1)-a0)/b))),(15,.int .i64 (((b-1)-a0)/b)),(14,.int .i64 b),(13,.int .i64 ((b-1)-a0)),(12,.int .i64 a0),(11,.int .i64 (b-1)),(10,.int .i64 b),(6,.bool false),(5,.int .i64 a0),(0,.int .i64 a0),(1,.int .i64 b)]) hF (r_assign (hF.at 0 rfl)) rfl rfl rfl rfl fun a hF=>?_
  refine E.nil ?_
  refine wp_ret ?_
  have bel:=st.bel
  refine bodyPost_ret (res_tmp Try.results34 (hF.at 0 rfl)) hF.dfr ?_
  exact⟨rv_int (r16_neg hb),bel⟩
theorem r16parts_any (n:Int) (w:World) (hn0: -1000000000≤n) (hn1:n≤1000000000):
 Calls Try.prog 21 #[.int .i64 n] w (ValPost w (.int .i64 (osP n))):=by
 have st:=St.start w
 refine E.enter (nt:=7) (L:=[(0,.int .i64 n)]) Try.func21 rfl rfl rfl (args_cons (i:=0) rfl args_nil) ?_
 intro a hF
 refine wp_seq ?_
 refine E.seq ?_
 refine E.opv hF (r_assign ev_c) rfl rfl rfl rfl fun a hF=>?_
 refine E.nil ?_
 refine wp_seq ?_
 refine E.seq ?_
 refine E.opv hF (r_move (hF.at 1 rfl)) rfl rfl rfl rfl fun a hF=>?_
 refine E.opv hF (r_bin (hF.at 0 rfl) ev_c eg_scalar (ia_add (by omega) (by omega))) rfl rfl rfl rfl fun a hF=>?_
 refine E.opv hF (r_bin ev_c (hF.at 0 rfl) eg_scalar (ia_mul (by omega) (by omega))) rfl rfl rfl rfl fun a hF=>?_
 refine E.opv hF (r_bin (hF.at 0 rfl) ev_c eg_scalar (ia_add (by omega) (by omega))) rfl rfl rfl rfl fun a hF=>?_
 refine E.opset (L':=[(2,.int .i64 ((6912*(n+1132959))+1728)),(6,.int .i64 ((6912*(n+1132959))+1728)),(5,.int .i64 (6912*(n+1132959))),(4,.int .i64 (n+1132959)),(3,.int .i64 n),(0,.int .i64 n)]) hF (r_assign (hF.at 0 rfl)) rfl rfl rfl rfl fun a hF=>?_
 refine E.nil ?_
 refine wp_ret ?_
 have bel:=st.bel
 refine bodyPost_ret (res_tmp Try.results21 (hF.at 0 rfl)) hF.dfr ?_
 exact⟨rfl,bel⟩
theorem r16of_any (n:Int) (w:World) (hn0: -3000000≤n) (hn1:n≤3000000):
 Calls Try.prog 16 #[.int .i64 n] w (ValPost w (.tuple #[.int .i64 (osM n/12),.int .i64 (osM n%12+1),.int .i64 (osD n)])):=by
 have st:=St.start w
 refine E.enter (nt:=26) (L:=[(0,.int .i64 n)]) Try.func16 rfl rfl rfl (args_cons (i:=0) rfl args_nil) ?_
 intro a hF
 refine wp_seq ?_
 refine E.seq ?_
 refine E.opv hF (r_assign ev_c) rfl rfl rfl rfl fun a hF=>?_
 refine E.opv hF (r_assign ev_c) rfl rfl rfl rfl fun a hF=>?_
 refine E.opv hF (r_assign ev_c) rfl rfl rfl rfl fun a hF=>?_
 refine E.nil ?_
 refine wp_seq ?_
 refine E.seq ?_
 refine E.opv hF (r_move (hF.at 3 rfl)) rfl rfl rfl rfl fun a hF=>?_
 refine S.callx st hF (r_call Try.func21 en21.1 en21.2 (map1 (hF.at 0 rfl))) (r16parts_any n _ (by omega) (by omega)) rfl rfl rfl rfl fun w1 a st hF=>?_
 have hpb: -30000000000≤osP n∧osP n≤30000000000:=by unfold osP;omega
 refine E.opv hF (r_assign (hF.at 0 rfl)) rfl rfl rfl rfl fun a hF=>?_
 refine E.nil ?_
 refine wp_seq ?_
 refine E.seq ?_
 refine E.opv hF (r_move (hF.at 0 rfl)) rfl rfl rfl rfl fun a hF=>?_
 refine S.callx st hF (r_call Try.func34 en34.1 en34.2 (map2 (hF.at 0 rfl) ev_c)) (r16fl_any (osP n) 210389 _ (by omega) (by omega) (by omega) (by omega)) rfl rfl rfl rfl fun w2 a st hF=>?_
 refine E.opv hF (r_assign (hF.at 0 rfl)) rfl rfl rfl rfl fun a hF=>?_
 refine E.nil ?_
 refine wp_seq ?_
 refine E.seq ?_
 refine E.opv hF (r_move (hF.at 0 rfl)) rfl rfl rfl rfl fun a hF=>?_
 refine S.callx st hF (r_call Try.func34 en34.1 en34.2 (map2 (hF.at 0 rfl) ev_c)) (r16fl_any ((osP n)/210389) 12 _ (by omega) (by omega) (by omega) (by omega)) rfl rfl rfl rfl fun w3 a st hF=>?_
 refine E.opv hF (r_assign (hF.at 0 rfl)) rfl rfl rfl rfl fun a hF=>?_
 refine E.nil ?_
 refine wp_seq ?_
 refine E.seq ?_
 refine E.opv hF (r_move (hF.at 0 rfl)) rfl rfl rfl rfl fun a hF=>?_
 refine E.opv hF (r_move (hF.at 4 rfl)) rfl rfl rfl rfl fun a hF=>?_
 refine E.opv hF (r_move (hF.at 2 rfl)) rfl rfl rfl rfl fun a hF=>?_
 refine E.opv hF (r_bin ev_c (hF.at 0 rfl) eg_scalar (ia_mul (by omega) (by omega))) rfl rfl rfl rfl fun a hF=>?_
 refine E.opv hF (r_bin (hF.at 2 rfl) (hF.at 0 rfl) eg_scalar (ia_sub (by omega) (by omega))) rfl rfl rfl rfl fun a hF=>?_
 refine E.opv hF (r_bin (hF.at 0 rfl) ev_c eg_scalar (ia_add (by omega) (by omega))) rfl rfl rfl rfl fun a hF=>?_
 refine E.opv hF (r_move (hF.at 12 rfl)) rfl rfl rfl rfl fun a hF=>?_
 refine E.opv hF (r_move (hF.at 10 rfl)) rfl rfl rfl rfl fun a hF=>?_
 refine E.opv hF (r_bin ev_c (hF.at 0 rfl) eg_scalar (ia_mul (by omega) (by omega))) rfl rfl rfl rfl fun a hF=>?_
 refine E.opv hF (r_bin (hF.at 2 rfl) (hF.at 0 rfl) eg_scalar (ia_sub (by omega) (by omega))) rfl rfl rfl rfl fun a hF=>?_
 refine E.opv hF (r_bin (hF.at 0 rfl) ev_c eg_scalar (id_quon (a:=(osP n)-(210389*((osP n)/210389))) (b:=6912) (by omega) (by omega) (by omega) (by omega))) rfl rfl rfl rfl fun a hF=>?_
 refine E.opv hF (r_bin (hF.at 0 rfl) ev_c eg_scalar (ia_add (by omega) (by omega))) rfl rfl rfl rfl fun a hF=>?_
 refine E.opset (L':=[(2,.int .i64 (((osP n)/210389)/12)),(25,.int .i64 ((((osP n)-(210389*((osP n)/210389)))/6912)+1)),(24,.int .i64 (((osP n)-(210389*((osP n)/210389)))/6912)),(23,.int .i64 ((osP n)-(210389*((osP n)/210389)))),(22,.int .i64 (210389*((osP n)/210389))),(21,.int .i64 ((osP n)/210389)),(20,.int .i64 (osP n)),(19,.int .i64 ((((osP n)/210389)-(12*(((osP n)/210389)/12)))+1)),(18,.int .i64 (((osP n)/210389)-(12*(((osP n)/210389)/12)))),(17,.int .i64 (12*(((osP n)/210389)/12))),(16,.int .i64 (((osP n)/210389)/12)),(15,.int .i64 ((osP n)/210389)),(14,.int .i64 (((osP n)/210389)/12)),(7,.int .i64 (((osP n)/210389)/12)),(13,.int .i64 (((osP n)/210389)/12)),(12,.int .i64 ((osP n)/210389)),(6,.int .i64 ((osP n)/210389)),(11,.int .i64 ((osP n)/210389)),(10,.int .i64 (osP n)),(5,.int .i64 (osP n)),(9,.int .i64 (osP n)),(8,.int .i64 n),(4,.int .i64 0),(3,.int .i64 0),(0,.int .i64 n)]) hF (r_assign (hF.at 11 rfl)) rfl rfl rfl rfl fun a hF=>?_
 refine E.opset (L':=[(3,.int .i64 ((((osP n)/210389)-(12*(((osP n)/210389)/12)))+1)),(2,.int .i64 (((osP n)/210389)/12)),(25,.int .i64 ((((osP n)-(210389*((osP n)/210389)))/6912)+1)),(24,.int .i64 (((osP n)-(210389*((osP n)/210389)))/6912)),(23,.int .i64 ((osP n)-(210389*((osP n)/210389)))),(22,.int .i64 (210389*((osP n)/210389))),(21,.int .i64 ((osP n)/210389)),(20,.int .i64 (osP n)),(19,.int .i64 ((((osP n)/210389)-(12*(((osP n)/210389)/12)))+1)),(18,.int .i64 (((osP n)/210389)-(12*(((osP n)/210389)/12)))),(17,.int .i64 (12*(((osP n)/210389)/12))),(16,.int .i64 (((osP n)/210389)/12)),(15,.int .i64 ((osP n)/210389)),(14,.int .i64 (((osP n)/210389)/12)),(7,.int .i64 (((osP n)/210389)/12)),(13,.int .i64 (((osP n)/210389)/12)),(12,.int .i64 ((osP n)/210389)),(6,.int .i64 ((osP n)/210389)),(11,.int .i64 ((osP n)/210389)),(10,.int .i64 (osP n)),(5,.int .i64 (osP n)),(9,.int .i64 (osP n)),(8,.int .i64 n),(4,.int .i64 0),(0,.int .i64 n)]) hF (r_assign (hF.at 7 rfl)) rfl rfl rfl rfl fun a hF=>?_
 refine E.opset (L':=[(4,.int .i64 ((((osP n)-(210389*((osP n)/210389)))/6912)+1)),(3,.int .i64 ((((osP n)/210389)-(12*(((osP n)/210389)/12)))+1)),(2,.int .i64 (((osP n)/210389)/12)),(25,.int .i64 ((((osP n)-(210389*((osP n)/210389)))/6912)+1)),(24,.int .i64 (((osP n)-(210389*((osP n)/210389)))/6912)),(23,.int .i64 ((osP n)-(210389*((osP n)/210389)))),(22,.int .i64 (210389*((osP n)/210389))),(21,.int .i64 ((osP n)/210389)),(20,.int .i64 (osP n)),(19,.int .i64 ((((osP n)/210389)-(12*(((osP n)/210389)/12)))+1)),(18,.int .i64 (((osP n)/210389)-(12*(((osP n)/210389)/12)))),(17,.int .i64 (12*(((osP n)/210389)/12))),(16,.int .i64 (((osP n)/210389)/12)),(15,.int .i64 ((osP n)/210389)),(14,.int .i64 (((osP n)/210389)/12)),(7,.int .i64 (((osP n)/210389)/12)),(13,.int .i64 (((osP n)/210389)/12)),(12,.int .i64 ((osP n)/210389)),(6,.int .i64 ((osP n)/210389)),(11,.int .i64 ((osP n)/210389)),(10,.int .i64 (osP n)),(5,.int .i64 (osP n)),(9,.int .i64 (osP n)),(8,.int .i64 n),(0,.int .i64 n)]) hF (r_assign (hF.at 2 rfl)) rfl rfl rfl rfl fun a hF=>?_
 refine E.nil ?_
 refine wp_ret ?_
 have bel:=st.bel
 refine bodyPost_ret (res_tmp3 Try.results16 (hF.at 2 rfl) (hF.at 1 rfl) (hF.at 0 rfl)) hF.dfr ?_
 exact⟨rv_int3 rfl (by unfold osM;omega) rfl,bel⟩
theorem r16fix_any (y m d:Int) (w:World):
 Calls Try.prog 22 #[.int .i64 y,.int .i64 m,.int .i64 d] w (ValPost w (.tuple #[.int .i64 (osN y m d),.int .i64 (osE y m d)])):=by
 have st:=St.start w
 refine E.enter (nt:=74) (L:=[(0,.int .i64 y),(1,.int .i64 m),(2,.int .i64 d)]) Try.func22 rfl rfl rfl (args_cons (i:=0) rfl (args_cons (i:=1) rfl (args_cons (i:=2) rfl args_nil))) ?_
 intro a hF
 refine wp_seq ?_
 refine E.seq ?_
 refine E.opv hF (r_assign ev_c) rfl rfl rfl rfl fun a hF=>?_
 refine E.opv hF (r_assign ev_c) rfl rfl rfl rfl fun a hF=>?_
 refine E.nil ?_
 refine wp_seq ?_
 refine wp_seq ?_
 refine E.seq ?_
 refine E.opv hF (r_move (hF.at 3 rfl)) rfl rfl rfl rfl fun a hF=>?_
 by_cases hc1:m<1
 ·first
  |(exfalso;omega)
  |(refine E.opv hF (r_bin (hF.at 0 rfl) ev_c eg_scalar (bi_int (ic_lss (c:=true) (dec_tt hc1)) (by simp))) rfl rfl rfl rfl fun a hF=>?_
    refine E.opv hF (r_move (hF.at 0 rfl)) rfl rfl rfl rfl fun a hF=>?_
    refine E.unwanted hF (wanted_by rfl rfl (hF.at 0 rfl) rfl) rfl rfl rfl fun a hF=>?_
    refine E.unwanted hF (wanted_by rfl rfl (hF.at 1 rfl) rfl) rfl rfl rfl fun a hF=>?_
    refine E.opv hF (r_pick_t (hF.at 2 rfl) ev_c) rfl rfl rfl rfl fun a hF=>?_
    refine E.opv hF (r_move (hF.at 0 rfl)) rfl rfl rfl rfl fun a hF=>?_
    refine E.unwanted hF (wanted_by rfl rfl (hF.at 0 rfl) rfl) rfl rfl rfl fun a hF=>?_
    refine E.unwanted hF (wanted_by rfl rfl (hF.at 1 rfl) rfl) rfl rfl rfl fun a hF=>?_
    refine E.opv hF (r_pick_t (hF.at 2 rfl) ev_c) rfl rfl rfl rfl fun a hF=>?_
    refine E.opv hF (r_move (hF.at 0 rfl)) rfl rfl rfl rfl fun a hF=>?_
    refine E.unwanted hF (wanted_by rfl rfl (hF.at 0 rfl) rfl) rfl rfl rfl fun a hF=>?_
    refine E.unwanted hF (wanted_by rfl rfl (hF.at 1 rfl) rfl) rfl rfl rfl fun a hF=>?_
    refine E.opv hF (r_pick_t (hF.at 2 rfl) ev_c) rfl rfl rfl rfl fun a hF=>?_
    refine E.nil ?_
    refine wp_cond_true (hF.at 0 rfl) ?_
    refine wp_seq ?_
    refine E.seq ?_
    refine E.opset (L':=[(6,.int .i64 0),(26,.bool true),(25,undef),(24,undef),(23,.bool true),(22,.bool true),(21,undef),(20,undef),(19,.bool true),(18,.bool true),(17,undef),(16,undef),(15,.bool true),(14,.bool true),(13,.int .i64 m),(7,.int .i64 0),(0,.int .i64 y),(1,.int .i64 m),(2,.int .i64 d)]) hF (r_assign ev_c) rfl rfl rfl rfl fun a hF=>?_
    refine E.opset (L':=[(7,.int .i64 4),(6,.int .i64 0),(26,.bool true),(25,undef),(24,undef),(23,.bool true),(22,.bool true),(21,undef),(20,undef),(19,.bool true),(18,.bool true),(17,undef),(16,undef),(15,.bool true),(14,.bool true),(13,.int .i64 m),(0,.int .i64 y),(1,.int .i64 m),(2,.int .i64 d)]) hF (r_assign ev_c) rfl rfl rfl rfl fun a hF=>?_
    refine E.nil ?_
    refine wp_ret ?_
    have bel:=st.bel
    refine bodyPost_ret (res_tmp2 Try.results22 (hF.at 1 rfl) (hF.at 0 rfl)) hF.dfr ?_
    have hfx:=os_4 (y:=y) (m:=m) (d:=d) (by omega)
    exact⟨rv_int2 hfx.1 hfx.2,bel⟩)
 ·first
  |(exfalso;omega)
  |(refine E.opv hF (r_bin (hF.at 0 rfl) ev_c eg_scalar (bi_int (ic_lss (c:=false) (dec_ff hc1)) (by simp))) rfl rfl rfl rfl fun a hF=>?_
    refine E.opv hF (r_move (hF.at 0 rfl)) rfl rfl rfl rfl fun a hF=>?_
    refine E.opvg hF (r_move (hF.at 6 rfl)) (wanted_by rfl rfl (hF.at 0 rfl) rfl) rfl rfl rfl fun a hF=>?_
    by_cases hc2:12<m
    ·first
     |(exfalso;omega)
     |(refine E.opvg hF (r_bin (hF.at 0 rfl) ev_c eg_scalar (bi_int (ic_gtr (c:=true) (dec_tt hc2)) (by simp))) (wanted_by rfl rfl (hF.at 1 rfl) rfl) rfl rfl rfl fun a hF=>?_
       refine E.opv hF (r_pick_f (hF.at 2 rfl) (hF.at 0 rfl)) rfl rfl rfl rfl fun a hF=>?_
       refine E.opv hF (r_move (hF.at 0 rfl)) rfl rfl rfl rfl fun a hF=>?_
       refine E.unwanted hF (wanted_by rfl rfl (hF.at 0 rfl) rfl) rfl rfl rfl fun a hF=>?_
       refine E.unwanted hF (wanted_by rfl rfl (hF.at 1 rfl) rfl) rfl rfl rfl fun a hF=>?_
       refine E.opv hF (r_pick_t (hF.at 2 rfl) ev_c) rfl rfl rfl rfl fun a hF=>?_
       refine E.opv hF (r_move (hF.at 0 rfl)) rfl rfl rfl rfl fun a hF=>?_
       refine E.unwanted hF (wanted_by rfl rfl (hF.at 0 rfl) rfl) rfl rfl rfl fun a hF=>?_
       refine E.unwanted hF (wanted_by rfl rfl (hF.at 1 rfl) rfl) rfl rfl rfl fun a hF=>?_
       refine E.opv hF (r_pick_t (hF.at 2 rfl) ev_c) rfl rfl rfl rfl fun a hF=>?_
       refine E.nil ?_
       refine wp_cond_true (hF.at 0 rfl) ?_
       refine wp_seq ?_
       refine E.seq ?_
       refine E.opset (L':=[(6,.int .i64 0),(26,.bool true),(25,undef),(24,undef),(23,.bool true),(22,.bool true),(21,undef),(20,undef),(19,.bool true),(18,.bool true),(17,.bool true),(16,.int .i64 m),(15,.bool false),(14,.bool false),(13,.int .i64 m),(7,.int .i64 0),(0,.int .i64 y),(1,.int .i64 m),(2,.int .i64 d)]) hF (r_assign ev_c) rfl rfl rfl rfl fun a hF=>?_
       refine E.opset (L':=[(7,.int .i64 4),(6,.int .i64 0),(26,.bool true),(25,undef),(24,undef),(23,.bool true),(22,.bool true),(21,undef),(20,undef),(19,.bool true),(18,.bool true),(17,.bool true),(16,.int .i64 m),(15,.bool false),(14,.bool false),(13,.int .i64 m),(0,.int .i64 y),(1,.int .i64 m),(2,.int .i64 d)]) hF (r_assign ev_c) rfl rfl rfl rfl fun a hF=>?_
       refine E.nil ?_
       refine wp_ret ?_
       have bel:=st.bel
       refine bodyPost_ret (res_tmp2 Try.results22 (hF.at 1 rfl) (hF.at 0 rfl)) hF.dfr ?_
       have hfx:=os_4 (y:=y) (m:=m) (d:=d) (by omega)
       exact⟨rv_int2 hfx.1 hfx.2,bel⟩)
    ·first
     |(exfalso;omega)
     |(refine E.opvg hF (r_bin (hF.at 0 rfl) ev_c eg_scalar (bi_int (ic_gtr (c:=false) (dec_ff hc2)) (by simp))) (wanted_by rfl rfl (hF.at 1 rfl) rfl) rfl rfl rfl fun a hF=>?_
       refine E.opv hF (r_pick_f (hF.at 2 rfl) (hF.at 0 rfl)) rfl rfl rfl rfl fun a hF=>?_
       refine E.opv hF (r_move (hF.at 0 rfl)) rfl rfl rfl rfl fun a hF=>?_
       refine E.opvg hF (r_move (hF.at 11 rfl)) (wanted_by rfl rfl (hF.at 0 rfl) rfl) rfl rfl rfl fun a hF=>?_
       by_cases hc3:d<1
       ·first
        |(exfalso;omega)
        |(refine E.opvg hF (r_bin (hF.at 0 rfl) ev_c eg_scalar (bi_int (ic_lss (c:=true) (dec_tt hc3)) (by simp))) (wanted_by rfl rfl (hF.at 1 rfl) rfl) rfl rfl rfl fun a hF=>?_
          refine E.opv hF (r_pick_f (hF.at 2 rfl) (hF.at 0 rfl)) rfl rfl rfl rfl fun a hF=>?_
          refine E.opv hF (r_move (hF.at 0 rfl)) rfl rfl rfl rfl fun a hF=>?_
          refine E.unwanted hF (wanted_by rfl rfl (hF.at 0 rfl) rfl) rfl rfl rfl fun a hF=>?_
          refine E.unwanted hF (wanted_by rfl rfl (hF.at 1 rfl) rfl) rfl rfl rfl fun a hF=>?_
          refine E.opv hF (r_pick_t (hF.at 2 rfl) ev_c) rfl rfl rfl rfl fun a hF=>?_
          refine E.nil ?_
          refine wp_cond_true (hF.at 0 rfl) ?_
          refine wp_seq ?_
          refine E.seq ?_
          refine E.opset (L':=[(6,.int .i64 0),(26,.bool true),(25,undef),(24,undef),(23,.bool true),(22,.bool true),(21,.bool true),(20,.int .i64 d),(19,.bool false),(18,.bool false),(17,.bool false),(16,.int .i64 m),(15,.bool false),(14,.bool false),(13,.int .i64 m),(7,.int .i64 0),(0,.int .i64 y),(1,.int .i64 m),(2,.int .i64 d)]) hF (r_assign ev_c) rfl rfl rfl rfl fun a hF=>?_
          refine E.opset (L':=[(7,.int .i64 4),(6,.int .i64 0),(26,.bool true),(25,undef),(24,undef),(23,.bool true),(22,.bool true),(21,.bool true),(20,.int .i64 d),(19,.bool false),(18,.bool false),(17,.bool false),(16,.int .i64 m),(15,.bool false),(14,.bool false),(13,.int .i64 m),(0,.int .i64 y),(1,.int .i64 m),(2,.int .i64 d)]) hF (r_assign ev_c) rfl rfl rfl rfl fun a hF=>?_
          refine E.nil ?_
          refine wp_ret ?_
          have bel:=st.bel
          refine bodyPost_ret (res_tmp2 Try.results22 (hF.at 1 rfl) (hF.at 0 rfl)) hF.dfr ?_
          have hfx:=os_4 (y:=y) (m:=m) (d:=d) (by omega)
          exact⟨rv_int2 hfx.1 hfx.2,bel⟩)
       ·first
        |(exfalso;omega)
        |(refine E.opvg hF (r_bin (hF.at 0 rfl) ev_c eg_scalar (bi_int (ic_lss (c:=false) (dec_ff hc3)) (by simp))) (wanted_by rfl rfl (hF.at 1 rfl) rfl) rfl rfl rfl fun a hF=>?_
          refine E.opv hF (r_pick_f (hF.at 2 rfl) (hF.at 0 rfl)) rfl rfl rfl rfl fun a hF=>?_
          refine E.opv hF (r_move (hF.at 0 rfl)) rfl rfl rfl rfl fun a hF=>?_
          refine E.opvg hF (r_move (hF.at 15 rfl)) (wanted_by rfl rfl (hF.at 0 rfl) rfl) rfl rfl rfl fun a hF=>?_
          by_cases hc4:31<d
          ·first
           |(exfalso;omega)
           |(refine E.opvg hF (r_bin (hF.at 0 rfl) ev_c eg_scalar (bi_int (ic_gtr (c:=true) (dec_tt hc4)) (by simp))) (wanted_by rfl rfl (hF.at 1 rfl) rfl) rfl rfl rfl fun a hF=>?_
             refine E.opv hF (r_pick_f (hF.at 2 rfl) (hF.at 0 rfl)) rfl rfl rfl rfl fun a hF=>?_
             refine E.nil ?_
             refine wp_cond_true (hF.at 0 rfl) ?_
             refine wp_seq ?_
             refine E.seq ?_
             refine E.opset (L':=[(6,.int .i64 0),(26,.bool true),(25,.bool true),(24,.int .i64 d),(23,.bool false),(22,.bool false),(21,.bool false),(20,.int .i64 d),(19,.bool false),(18,.bool false),(17,.bool false),(16,.int .i64 m),(15,.bool false),(14,.bool false),(13,.int .i64 m),(7,.int .i64 0),(0,.int .i64 y),(1,.int .i64 m),(2,.int .i64 d)]) hF (r_assign ev_c) rfl rfl rfl rfl fun a hF=>?_
             refine E.opset (L':=[(7,.int .i64 4),(6,.int .i64 0),(26,.bool true),(25,.bool true),(24,.int .i64 d),(23,.bool false),(22,.bool false),(21,.bool false),(20,.int .i64 d),(19,.bool false),(18,.bool false),(17,.bool false),(16,.int .i64 m),(15,.bool false),(14,.bool false),(13,.int .i64 m),(0,.int .i64 y),(1,.int .i64 m),(2,.int .i64 d)]) hF (r_assign ev_c) rfl rfl rfl rfl fun a hF=>?_
             refine E.nil ?_
             refine wp_ret ?_
             have bel:=st.bel
             refine bodyPost_ret (res_tmp2 Try.results22 (hF.at 1 rfl) (hF.at 0 rfl)) hF.dfr ?_
             have hfx:=os_4 (y:=y) (m:=m) (d:=d) (by omega)
             exact⟨rv_int2 hfx.1 hfx.2,bel⟩)
          ·first
           |(exfalso;omega)
           |(refine E.opvg hF (r_bin (hF.at 0 rfl) ev_c eg_scalar (bi_int (ic_gtr (c:=false) (dec_ff hc4)) (by simp))) (wanted_by rfl rfl (hF.at 1 rfl) rfl) rfl rfl rfl fun a hF=>?_
             refine E.opv hF (r_pick_f (hF.at 2 rfl) (hF.at 0 rfl)) rfl rfl rfl rfl fun a hF=>?_
             refine E.nil ?_
             refine wp_cond_false (hF.at 0 rfl) ?_
             refine wp_skip ?_
             refine E.norm ?_
             refine wp_seq ?_
             refine wp_seq ?_
             refine E.seq ?_
             refine E.opv hF (r_move (hF.at 16 rfl)) rfl rfl rfl rfl fun a hF=>?_
             by_cases hc5:y<(-20000)
             ·first
              |(exfalso;omega)
              |(refine E.opv hF (r_bin (hF.at 0 rfl) ev_c eg_scalar (bi_int (ic_lss (c:=true) (dec_tt hc5)) (by simp))) rfl rfl rfl rfl fun a hF=>?_
                refine E.opv hF (r_move (hF.at 0 rfl)) rfl rfl rfl rfl fun a hF=>?_
                refine E.unwanted hF (wanted_by rfl rfl (hF.at 0 rfl) rfl) rfl rfl rfl fun a hF=>?_
                refine E.unwanted hF (wanted_by rfl rfl (hF.at 1 rfl) rfl) rfl rfl rfl fun a hF=>?_
                refine E.opv hF (r_pick_t (hF.at 2 rfl) ev_c) rfl rfl rfl rfl fun a hF=>?_
                refine E.nil ?_
                refine wp_cond_true (hF.at 0 rfl) ?_
                refine wp_seq ?_
                refine E.seq ?_
                refine E.opset (L':=[(6,.int .i64 0),(32,.bool true),(31,undef),(30,undef),(29,.bool true),(28,.bool true),(27,.int .i64 y),(26,.bool false),(25,.bool false),(24,.int .i64 d),(23,.bool false),(22,.bool false),(21,.bool false),(20,.int .i64 d),(19,.bool false),(18,.bool false),(17,.bool false),(16,.int .i64 m),(15,.bool false),(14,.bool false),(13,.int .i64 m),(7,.int .i64 0),(0,.int .i64 y),(1,.int .i64 m),(2,.int .i64 d)]) hF (r_assign ev_c) rfl rfl rfl rfl fun a hF=>?_
                refine E.opset (L':=[(7,.int .i64 2),(6,.int .i64 0),(32,.bool true),(31,undef),(30,undef),(29,.bool true),(28,.bool true),(27,.int .i64 y),(26,.bool false),(25,.bool false),(24,.int .i64 d),(23,.bool false),(22,.bool false),(21,.bool false),(20,.int .i64 d),(19,.bool false),(18,.bool false),(17,.bool false),(16,.int .i64 m),(15,.bool false),(14,.bool false),(13,.int .i64 m),(0,.int .i64 y),(1,.int .i64 m),(2,.int .i64 d)]) hF (r_assign ev_c) rfl rfl rfl rfl fun a hF=>?_
                refine E.nil ?_
                refine wp_ret ?_
                have bel:=st.bel
                refine bodyPost_ret (res_tmp2 Try.results22 (hF.at 1 rfl) (hF.at 0 rfl)) hF.dfr ?_
                have hfx:=os_2 (y:=y) (m:=m) (d:=d) (by omega) (by omega)
                exact⟨rv_int2 hfx.1 hfx.2,bel⟩)
             ·first
              |(exfalso;omega)
              |(refine E.opv hF (r_bin (hF.at 0 rfl) ev_c eg_scalar (bi_int (ic_lss (c:=false) (dec_ff hc5)) (by simp))) rfl rfl rfl rfl fun a hF=>?_
                refine E.opv hF (r_move (hF.at 0 rfl)) rfl rfl rfl rfl fun a hF=>?_
                refine E.opvg hF (r_move (hF.at 19 rfl)) (wanted_by rfl rfl (hF.at 0 rfl) rfl) rfl rfl rfl fun a hF=>?_
                by_cases hc6:20000<y
                ·first
                 |(exfalso;omega)
                 |(refine E.opvg hF (r_bin (hF.at 0 rfl) ev_c eg_scalar (bi_int (ic_gtr (c:=true) (dec_tt hc6)) (by simp))) (wanted_by rfl rfl (hF.at 1 rfl) rfl) rfl rfl rfl fun a hF=>?_
                   refine E.opv hF (r_pick_f (hF.at 2 rfl) (hF.at 0 rfl)) rfl rfl rfl rfl fun a hF=>?_
                   refine E.nil ?_
                   refine wp_cond_true (hF.at 0 rfl) ?_
                   refine wp_seq ?_
                   refine E.seq ?_
                   refine E.opset (L':=[(6,.int .i64 0),(32,.bool true),(31,.bool true),(30,.int .i64 y),(29,.bool false),(28,.bool false),(27,.int .i64 y),(26,.bool false),(25,.bool false),(24,.int .i64 d),(23,.bool false),(22,.bool false),(21,.bool false),(20,.int .i64 d),(19,.bool false),(18,.bool false),(17,.bool false),(16,.int .i64 m),(15,.bool false),(14,.bool false),(13,.int .i64 m),(7,.int .i64 0),(0,.int .i64 y),(1,.int .i64 m),(2,.int .i64 d)]) hF (r_assign ev_c) rfl rfl rfl rfl fun a hF=>?_
                   refine E.opset (L':=[(7,.int .i64 2),(6,.int .i64 0),(32,.bool true),(31,.bool true),(30,.int .i64 y),(29,.bool false),(28,.bool false),(27,.int .i64 y),(26,.bool false),(25,.bool false),(24,.int .i64 d),(23,.bool false),(22,.bool false),(21,.bool false),(20,.int .i64 d),(19,.bool false),(18,.bool false),(17,.bool false),(16,.int .i64 m),(15,.bool false),(14,.bool false),(13,.int .i64 m),(0,.int .i64 y),(1,.int .i64 m),(2,.int .i64 d)]) hF (r_assign ev_c) rfl rfl rfl rfl fun a hF=>?_
                   refine E.nil ?_
                   refine wp_ret ?_
                   have bel:=st.bel
                   refine bodyPost_ret (res_tmp2 Try.results22 (hF.at 1 rfl) (hF.at 0 rfl)) hF.dfr ?_
                   have hfx:=os_2 (y:=y) (m:=m) (d:=d) (by omega) (by omega)
                   exact⟨rv_int2 hfx.1 hfx.2,bel⟩)
                ·first
                 |(exfalso;omega)
                 |(refine E.opvg hF (r_bin (hF.at 0 rfl) ev_c eg_scalar (bi_int (ic_gtr (c:=false) (dec_ff hc6)) (by simp))) (wanted_by rfl rfl (hF.at 1 rfl) rfl) rfl rfl rfl fun a hF=>?_
                   refine E.opv hF (r_pick_f (hF.at 2 rfl) (hF.at 0 rfl)) rfl rfl rfl rfl fun a hF=>?_
                   refine E.nil ?_
                   refine wp_cond_false (hF.at 0 rfl) ?_
                   refine wp_skip ?_
                   refine E.norm ?_
                   refine wp_seq ?_
                   refine E.seq ?_
                   refine E.opv hF (r_move (hF.at 22 rfl)) rfl rfl rfl rfl fun a hF=>?_
                   refine E.opv hF (r_bin ev_c (hF.at 0 rfl) eg_scalar (ia_mul (by omega) (by omega))) rfl rfl rfl rfl fun a hF=>?_
                   refine E.opv hF (r_move (hF.at 25 rfl)) rfl rfl rfl rfl fun a hF=>?_
                   refine E.opv hF (r_bin (hF.at 1 rfl) (hF.at 0 rfl) eg_scalar (ia_add (by omega) (by omega))) rfl rfl rfl rfl fun a hF=>?_
                   refine E.opv hF (r_bin (hF.at 0 rfl) ev_c eg_scalar (ia_sub (by omega) (by omega))) rfl rfl rfl rfl fun a hF=>?_
                   refine E.opv hF (r_bin ev_c (hF.at 0 rfl) eg_scalar (ia_mul (by omega) (by omega))) rfl rfl rfl rfl fun a hF=>?_
                   refine E.opv hF (r_move (hF.at 30 rfl)) rfl rfl rfl rfl fun a hF=>?_
                   refine E.opv hF (r_bin ev_c (hF.at 0 rfl) eg_scalar (ia_mul (by omega) (by omega))) rfl rfl rfl rfl fun a hF=>?_
                   refine E.opv hF (r_bin (hF.at 2 rfl) (hF.at 0 rfl) eg_scalar (ia_add (by omega) (by omega))) rfl rfl rfl rfl fun a hF=>?_
                   refine E.opv hF (r_bin (hF.at 0 rfl) ev_c eg_scalar (ia_sub (by omega) (by omega))) rfl rfl rfl rfl fun a hF=>?_
                   refine E.opv hF (r_un (hF.at 0 rfl) (bn_neg (by omega) (by omega))) rfl rfl rfl rfl fun a hF=>?_
                   refine S.callx st hF (r_call Try.func34 en34.1 en34.2 (map2 (hF.at 0 rfl) ev_c)) (r16fl_any (-(((210389*(((12*y)+m)-1))+(6912*d))-8640)) 6912 _ (by omega) (by omega) (by omega) (by omega)) rfl rfl rfl rfl fun w7 a st hF=>?_
                   refine E.opv hF (r_un (hF.at 0 rfl) (bn_neg (by omega) (by omega))) rfl rfl rfl rfl fun a hF=>?_
                   refine E.opv hF (r_assign (hF.at 0 rfl)) rfl rfl rfl rfl fun a hF=>?_
                   refine E.nil ?_
                   refine wp_seq ?_
                   refine E.seq ?_
                   refine E.opv hF (r_move (hF.at 0 rfl)) rfl rfl rfl rfl fun a hF=>?_
                   refine E.opv hF (r_bin (hF.at 0 rfl) ev_c eg_scalar (ia_sub (by omega) (by omega))) rfl rfl rfl rfl fun a hF=>?_
                   refine E.opv hF (r_assign (hF.at 0 rfl)) rfl rfl rfl rfl fun a hF=>?_
                   obtain⟨n,hn⟩:∃n:Int,n=(-((-(((210389*(((12*y)+m)-1))+(6912*d))-8640))/6912))-1132959:=⟨_,rfl⟩
                   rw[←hn] at hF
                   have hnx:n=osX y m d:=os_ref hn
                   refine E.nil ?_
                   refine wp_seq ?_
                   refine wp_seq ?_
                   refine E.seq ?_
                   refine E.opv hF (r_move (hF.at 0 rfl)) rfl rfl rfl rfl fun a hF=>?_
                   by_cases hc8:n<(-3000000)
                   ·first
                    |(exfalso;omega)
                    |(refine E.opv hF (r_bin (hF.at 0 rfl) ev_c eg_scalar (bi_int (ic_lss (c:=true) (dec_tt hc8)) (by simp))) rfl rfl rfl rfl fun a hF=>?_
                      refine E.opv hF (r_move (hF.at 0 rfl)) rfl rfl rfl rfl fun a hF=>?_
                      refine E.unwanted hF (wanted_by rfl rfl (hF.at 0 rfl) rfl) rfl rfl rfl fun a hF=>?_
                      refine E.unwanted hF (wanted_by rfl rfl (hF.at 1 rfl) rfl) rfl rfl rfl fun a hF=>?_
                      refine E.opv hF (r_pick_t (hF.at 2 rfl) ev_c) rfl rfl rfl rfl fun a hF=>?_
                      refine E.nil ?_
                      refine wp_cond_true (hF.at 0 rfl) ?_
                      refine wp_seq ?_
                      refine E.seq ?_
                      refine E.opset (L':=[(6,.int .i64 0),(53,.bool true),(52,undef),(51,undef),(50,.bool true),(49,.bool true),(48,.int .i64 n),(9,.int .i64 n),(47,.int .i64 n),(46,.int .i64 (-((-(((210389*(((12*y)+m)-1))+(6912*d))-8640))/6912))),(8,.int .i64 (-((-(((210389*(((12*y)+m)-1))+(6912*d))-8640))/6912))),(45,.int .i64 (-((-(((210389*(((12*y)+m)-1))+(6912*d))-8640))/6912))),(44,.int .i64 ((-(((210389*(((12*y)+m)-1))+(6912*d))-8640))/6912)),(43,.int .i64 (-(((210389*(((12*y)+m)-1))+(6912*d))-8640))),(42,.int .i64 (((210389*(((12*y)+m)-1))+(6912*d))-8640)),(41,.int .i64 ((210389*(((12*y)+m)-1))+(6912*d))),(40,.int .i64 (6912*d)),(39,.int .i64 d),(38,.int .i64 (210389*(((12*y)+m)-1))),(37,.int .i64 (((12*y)+m)-1)),(36,.int .i64 ((12*y)+m)),(35,.int .i64 m),(34,.int .i64 (12*y)),(33,.int .i64 y),(32,.bool false),(31,.bool false),(30,.int .i64 y),(29,.bool false),(28,.bool false),(27,.int .i64 y),(26,.bool false),(25,.bool false),(24,.int .i64 d),(23,.bool false),(22,.bool false),(21,.bool false),(20,.int .i64 d),(19,.bool false),(18,.bool false),(17,.bool false),(16,.int .i64 m),(15,.bool false),(14,.bool false),(13,.int .i64 m),(7,.int .i64 0),(0,.int .i64 y),(1,.int .i64 m),(2,.int .i64 d)]) hF (r_assign ev_c) rfl rfl rfl rfl fun a hF=>?_
                      refine E.opset (L':=[(7,.int .i64 2),(6,.int .i64 0),(53,.bool true),(52,undef),(51,undef),(50,.bool true),(49,.bool true),(48,.int .i64 n),(9,.int .i64 n),(47,.int .i64 n),(46,.int .i64 (-((-(((210389*(((12*y)+m)-1))+(6912*d))-8640))/6912))),(8,.int .i64 (-((-(((210389*(((12*y)+m)-1))+(6912*d))-8640))/6912))),(45,.int .i64 (-((-(((210389*(((12*y)+m)-1))+(6912*d))-8640))/6912))),(44,.int .i64 ((-(((210389*(((12*y)+m)-1))+(6912*d))-8640))/6912)),(43,.int .i64 (-(((210389*(((12*y)+m)-1))+(6912*d))-8640))),(42,.int .i64 (((210389*(((12*y)+m)-1))+(6912*d))-8640)),(41,.int .i64 ((210389*(((12*y)+m)-1))+(6912*d))),(40,.int .i64 (6912*d)),(39,.int .i64 d),(38,.int .i64 (210389*(((12*y)+m)-1))),(37,.int .i64 (((12*y)+m)-1)),(36,.int .i64 ((12*y)+m)),(35,.int .i64 m),(34,.int .i64 (12*y)),(33,.int .i64 y),(32,.bool false),(31,.bool false),(30,.int .i64 y),(29,.bool false),(28,.bool false),(27,.int .i64 y),(26,.bool false),(25,.bool false),(24,.int .i64 d),(23,.bool false),(22,.bool false),(21,.bool false),(20,.int .i64 d),(19,.bool false),(18,.bool false),(17,.bool false),(16,.int .i64 m),(15,.bool false),(14,.bool false),(13,.int .i64 m),(0,.int .i64 y),(1,.int .i64 m),(2,.int .i64 d)]) hF (r_assign ev_c) rfl rfl rfl rfl fun a hF=>?_
                      refine E.nil ?_
                      refine wp_ret ?_
                      have bel:=st.bel
                      refine bodyPost_ret (res_tmp2 Try.results22 (hF.at 1 rfl) (hF.at 0 rfl)) hF.dfr ?_
                      have hfx:=os_2f hnx (by omega) (by omega) (by omega)
                      exact⟨rv_int2 hfx.1 hfx.2,bel⟩)
                   ·first
                    |(exfalso;omega)
                    |(refine E.opv hF (r_bin (hF.at 0 rfl) ev_c eg_scalar (bi_int (ic_lss (c:=false) (dec_ff hc8)) (by simp))) rfl rfl rfl rfl fun a hF=>?_
                      refine E.opv hF (r_move (hF.at 0 rfl)) rfl rfl rfl rfl fun a hF=>?_
                      refine E.opvg hF (r_move (hF.at 3 rfl)) (wanted_by rfl rfl (hF.at 0 rfl) rfl) rfl rfl rfl fun a hF=>?_
                      by_cases hc9:3000000<n
                      ·first
                       |(exfalso;omega)
                       |(refine E.opvg hF (r_bin (hF.at 0 rfl) ev_c eg_scalar (bi_int (ic_gtr (c:=true) (dec_tt hc9)) (by simp))) (wanted_by rfl rfl (hF.at 1 rfl) rfl) rfl rfl rfl fun a hF=>?_
                         refine E.opv hF (r_pick_f (hF.at 2 rfl) (hF.at 0 rfl)) rfl rfl rfl rfl fun a hF=>?_
                         refine E.nil ?_
                         refine wp_cond_true (hF.at 0 rfl) ?_
                         refine wp_seq ?_
                         refine E.seq ?_
                         refine E.opset (L':=[(6,.int .i64 0),(53,.bool true),(52,.bool true),(51,.int .i64 n),(50,.bool false),(49,.bool false),(48,.int .i64 n),(9,.int .i64 n),(47,.int .i64 n),(46,.int .i64 (-((-(((210389*(((12*y)+m)-1))+(6912*d))-8640))/6912))),(8,.int .i64 (-((-(((210389*(((12*y)+m)-1))+(6912*d))-8640))/6912))),(45,.int .i64 (-((-(((210389*(((12*y)+m)-1))+(6912*d))-8640))/6912))),(44,.int .i64 ((-(((210389*(((12*y)+m)-1))+(6912*d))-8640))/6912)),(43,.int .i64 (-(((210389*(((12*y)+m)-1))+(6912*d))-8640))),(42,.int .i64 (((210389*(((12*y)+m)-1))+(6912*d))-8640)),(41,.int .i64 ((210389*(((12*y)+m)-1))+(6912*d))),(40,.int .i64 (6912*d)),(39,.int .i64 d),(38,.int .i64 (210389*(((12*y)+m)-1))),(37,.int .i64 (((12*y)+m)-1)),(36,.int .i64 ((12*y)+m)),(35,.int .i64 m),(34,.int .i64 (12*y)),(33,.int .i64 y),(32,.bool false),(31,.bool false),(30,.int .i64 y),(29,.bool false),(28,.bool false),(27,.int .i64 y),(26,.bool false),(25,.bool false),(24,.int .i64 d),(23,.bool false),(22,.bool false),(21,.bool false),(20,.int .i64 d),(19,.bool false),(18,.bool false),(17,.bool false),(16,.int .i64 m),(15,.bool false),(14,.bool false),(13,.int .i64 m),(7,.int .i64 0),(0,.int .i64 y),(1,.int .i64 m),(2,.int .i64 d)]) hF (r_assign ev_c) rfl rfl rfl rfl fun a hF=>?_
                         refine E.opset (L':=[(7,.int .i64 2),(6,.int .i64 0),(53,.bool true),(52,.bool true),(51,.int .i64 n),(50,.bool false),(49,.bool false),(48,.int .i64 n),(9,.int .i64 n),(47,.int .i64 n),(46,.int .i64 (-((-(((210389*(((12*y)+m)-1))+(6912*d))-8640))/6912))),(8,.int .i64 (-((-(((210389*(((12*y)+m)-1))+(6912*d))-8640))/6912))),(45,.int .i64 (-((-(((210389*(((12*y)+m)-1))+(6912*d))-8640))/6912))),(44,.int .i64 ((-(((210389*(((12*y)+m)-1))+(6912*d))-8640))/6912)),(43,.int .i64 (-(((210389*(((12*y)+m)-1))+(6912*d))-8640))),(42,.int .i64 (((210389*(((12*y)+m)-1))+(6912*d))-8640)),(41,.int .i64 ((210389*(((12*y)+m)-1))+(6912*d))),(40,.int .i64 (6912*d)),(39,.int .i64 d),(38,.int .i64 (210389*(((12*y)+m)-1))),(37,.int .i64 (((12*y)+m)-1)),(36,.int .i64 ((12*y)+m)),(35,.int .i64 m),(34,.int .i64 (12*y)),(33,.int .i64 y),(32,.bool false),(31,.bool false),(30,.int .i64 y),(29,.bool false),(28,.bool false),(27,.int .i64 y),(26,.bool false),(25,.bool false),(24,.int .i64 d),(23,.bool false),(22,.bool false),(21,.bool false),(20,.int .i64 d),(19,.bool false),(18,.bool false),(17,.bool false),(16,.int .i64 m),(15,.bool false),(14,.bool false),(13,.int .i64 m),(0,.int .i64 y),(1,.int .i64 m),(2,.int .i64 d)]) hF (r_assign ev_c) rfl rfl rfl rfl fun a hF=>?_
                         refine E.nil ?_
                         refine wp_ret ?_
                         have bel:=st.bel
                         refine bodyPost_ret (res_tmp2 Try.results22 (hF.at 1 rfl) (hF.at 0 rfl)) hF.dfr ?_
                         have hfx:=os_2f hnx (by omega) (by omega) (by omega)
                         exact⟨rv_int2 hfx.1 hfx.2,bel⟩)
                      ·first
                       |(exfalso;omega)
                       |(refine E.opvg hF (r_bin (hF.at 0 rfl) ev_c eg_scalar (bi_int (ic_gtr (c:=false) (dec_ff hc9)) (by simp))) (wanted_by rfl rfl (hF.at 1 rfl) rfl) rfl rfl rfl fun a hF=>?_
                         refine E.opv hF (r_pick_f (hF.at 2 rfl) (hF.at 0 rfl)) rfl rfl rfl rfl fun a hF=>?_
                         refine E.nil ?_
                         refine wp_cond_false (hF.at 0 rfl) ?_
                         refine wp_skip ?_
                         refine E.norm ?_
                         refine wp_seq ?_
                         refine E.seq ?_
                         refine E.opv hF (r_move (hF.at 6 rfl)) rfl rfl rfl rfl fun a hF=>?_
                         refine S.callx st hF (r_call Try.func16 en16.1 en16.2 (map1 (hF.at 0 rfl))) (r16of_any n _ (by omega) (by omega)) rfl rfl rfl rfl fun w10 a st hF=>?_
                         refine E.opv hF (r_move (hF.at 0 rfl)) rfl rfl rfl rfl fun a hF=>?_
                         refine E.opv hF (r_extract (v:= .int .i64 (osM n/12)) (hF.at 0 rfl) rfl) rfl rfl rfl rfl fun a hF=>?_
                         refine E.opv hF (r_extract (v:= .int .i64 (osM n%12+1)) (hF.at 1 rfl) rfl) rfl rfl rfl rfl fun a hF=>?_
                         refine E.opv hF (r_extract (v:= .int .i64 (osD n)) (hF.at 2 rfl) rfl) rfl rfl rfl rfl fun a hF=>?_
                         refine E.opv hF (r_assign (hF.at 2 rfl)) rfl rfl rfl rfl fun a hF=>?_
                         refine E.opv hF (r_assign (hF.at 2 rfl)) rfl rfl rfl rfl fun a hF=>?_
                         refine E.opv hF (r_assign (hF.at 2 rfl)) rfl rfl rfl rfl fun a hF=>?_
                         refine E.nil ?_
                         refine wp_seq ?_
                         refine wp_seq ?_
                         refine E.seq ?_
                         refine E.opv hF (r_move (hF.at 2 rfl)) rfl rfl rfl rfl fun a hF=>?_
                         refine E.opv hF (r_move (hF.at 55 rfl)) rfl rfl rfl rfl fun a hF=>?_
                         by_cases hc11:osM n/12≠y
                         ·first
                          |(exfalso;omega)
                          |(refine E.opv hF (r_bin (hF.at 1 rfl) (hF.at 0 rfl) eg_scalar (bi_int (ic_neq (c:=true) (dec_tt hc11)) (by simp))) rfl rfl rfl rfl fun a hF=>?_
                            refine E.opv hF (r_move (hF.at 0 rfl)) rfl rfl rfl rfl fun a hF=>?_
                            refine E.unwanted hF (wanted_by rfl rfl (hF.at 0 rfl) rfl) rfl rfl rfl fun a hF=>?_
                            refine E.unwanted hF (wanted_by rfl rfl (hF.at 1 rfl) rfl) rfl rfl rfl fun a hF=>?_
                            refine E.unwanted hF (wanted_by rfl rfl (hF.at 2 rfl) rfl) rfl rfl rfl fun a hF=>?_
                            refine E.opv hF (r_pick_t (hF.at 3 rfl) ev_c) rfl rfl rfl rfl fun a hF=>?_
                            refine E.opv hF (r_move (hF.at 0 rfl)) rfl rfl rfl rfl fun a hF=>?_
                            refine E.unwanted hF (wanted_by rfl rfl (hF.at 0 rfl) rfl) rfl rfl rfl fun a hF=>?_
                            refine E.unwanted hF (wanted_by rfl rfl (hF.at 1 rfl) rfl) rfl rfl rfl fun a hF=>?_
                            refine E.unwanted hF (wanted_by rfl rfl (hF.at 2 rfl) rfl) rfl rfl rfl fun a hF=>?_
                            refine E.opv hF (r_pick_t (hF.at 3 rfl) ev_c) rfl rfl rfl rfl fun a hF=>?_
                            refine E.nil ?_
                            refine wp_cond_true (hF.at 0 rfl) ?_
                            refine wp_seq ?_
                            refine E.seq ?_
                            refine E.opset (L':=[(6,.int .i64 0),(72,.bool true),(71,undef),(70,undef),(69,undef),(68,.bool true),(67,.bool true),(66,undef),(65,undef),(64,undef),(63,.bool true),(62,.bool true),(61,.int .i64 y),(60,.int .i64 (osM n/12)),(12,.int .i64 (osD n)),(11,.int .i64 (osM n%12+1)),(10,.int .i64 (osM n/12)),(59,.int .i64 (osD n)),(58,.int .i64 (osM n%12+1)),(57,.int .i64 (osM n/12)),(54,.tuple #[.int .i64 (osM n/12),.int .i64 (osM n%12+1),.int .i64 (osD n)]),(56,.tuple #[.int .i64 (osM n/12),.int .i64 (osM n%12+1),.int .i64 (osD n)]),(55,.int .i64 n),(53,.bool false),(52,.bool false),(51,.int .i64 n),(50,.bool false),(49,.bool false),(48,.int .i64 n),(9,.int .i64 n),(47,.int .i64 n),(46,.int .i64 (-((-(((210389*(((12*y)+m)-1))+(6912*d))-8640))/6912))),(8,.int .i64 (-((-(((210389*(((12*y)+m)-1))+(6912*d))-8640))/6912))),(45,.int .i64 (-((-(((210389*(((12*y)+m)-1))+(6912*d))-8640))/6912))),(44,.int .i64 ((-(((210389*(((12*y)+m)-1))+(6912*d))-8640))/6912)),(43,.int .i64 (-(((210389*(((12*y)+m)-1))+(6912*d))-8640))),(42,.int .i64 (((210389*(((12*y)+m)-1))+(6912*d))-8640)),(41,.int .i64 ((210389*(((12*y)+m)-1))+(6912*d))),(40,.int .i64 (6912*d)),(39,.int .i64 d),(38,.int .i64 (210389*(((12*y)+m)-1))),(37,.int .i64 (((12*y)+m)-1)),(36,.int .i64 ((12*y)+m)),(35,.int .i64 m),(34,.int .i64 (12*y)),(33,.int .i64 y),(32,.bool false),(31,.bool false),(30,.int .i64 y),(29,.bool false),(28,.bool false),(27,.int .i64 y),(26,.bool false),(25,.bool false),(24,.int .i64 d),(23,.bool false),(22,.bool false),(21,.bool false),(20,.int .i64 d),(19,.bool false),(18,.bool false),(17,.bool false),(16,.int .i64 m),(15,.bool false),(14,.bool false),(13,.int .i64 m),(7,.int .i64 0),(0,.int .i64 y),(1,.int .i64 m),(2,.int .i64 d)]) hF (r_assign ev_c) rfl rfl rfl rfl fun a hF=>?_
                            refine E.opset (L':=[(7,.int .i64 3),(6,.int .i64 0),(72,.bool true),(71,undef),(70,undef),(69,undef),(68,.bool true),(67,.bool true),(66,undef),(65,undef),(64,undef),(63,.bool true),(62,.bool true),(61,.int .i64 y),(60,.int .i64 (osM n/12)),(12,.int .i64 (osD n)),(11,.int .i64 (osM n%12+1)),(10,.int .i64 (osM n/12)),(59,.int .i64 (osD n)),(58,.int .i64 (osM n%12+1)),(57,.int .i64 (osM n/12)),(54,.tuple #[.int .i64 (osM n/12),.int .i64 (osM n%12+1),.int .i64 (osD n)]),(56,.tuple #[.int .i64 (osM n/12),.int .i64 (osM n%12+1),.int .i64 (osD n)]),(55,.int .i64 n),(53,.bool false),(52,.bool false),(51,.int .i64 n),(50,.bool false),(49,.bool false),(48,.int .i64 n),(9,.int .i64 n),(47,.int .i64 n),(46,.int .i64 (-((-(((210389*(((12*y)+m)-1))+(6912*d))-8640))/6912))),(8,.int .i64 (-((-(((210389*(((12*y)+m)-1))+(6912*d))-8640))/6912))),(45,.int .i64 (-((-(((210389*(((12*y)+m)-1))+(6912*d))-8640))/6912))),(44,.int .i64 ((-(((210389*(((12*y)+m)-1))+(6912*d))-8640))/6912)),(43,.int .i64 (-(((210389*(((12*y)+m)-1))+(6912*d))-8640))),(42,.int .i64 (((210389*(((12*y)+m)-1))+(6912*d))-8640)),(41,.int .i64 ((210389*(((12*y)+m)-1))+(6912*d))),(40,.int .i64 (6912*d)),(39,.int .i64 d),(38,.int .i64 (210389*(((12*y)+m)-1))),(37,.int .i64 (((12*y)+m)-1)),(36,.int .i64 ((12*y)+m)),(35,.int .i64 m),(34,.int .i64 (12*y)),(33,.int .i64 y),(32,.bool false),(31,.bool false),(30,.int .i64 y),(29,.bool false),(28,.bool false),(27,.int .i64 y),(26,.bool false),(25,.bool false),(24,.int .i64 d),(23,.bool false),(22,.bool false),(21,.bool false),(20,.int .i64 d),(19,.bool false),(18,.bool false),(17,.bool false),(16,.int .i64 m),(15,.bool false),(14,.bool false),(13,.int .i64 m),(0,.int .i64 y),(1,.int .i64 m),(2,.int .i64 d)]) hF (r_assign ev_c) rfl rfl rfl rfl fun a hF=>?_
                            refine E.nil ?_
                            refine wp_ret ?_
                            have bel:=st.bel
                            refine bodyPost_ret (res_tmp2 Try.results22 (hF.at 1 rfl) (hF.at 0 rfl)) hF.dfr ?_
                            have hfx:=os_3 hnx (by omega) (by omega) (by omega) (by omega)
                            exact⟨rv_int2 hfx.1 hfx.2,bel⟩)
                         ·first
                          |(exfalso;omega)
                          |(refine E.opv hF (r_bin (hF.at 1 rfl) (hF.at 0 rfl) eg_scalar (bi_int (ic_neq (c:=false) (dec_ff hc11)) (by simp))) rfl rfl rfl rfl fun a hF=>?_
                            refine E.opv hF (r_move (hF.at 0 rfl)) rfl rfl rfl rfl fun a hF=>?_
                            refine E.opvg hF (r_move (hF.at 5 rfl)) (wanted_by rfl rfl (hF.at 0 rfl) rfl) rfl rfl rfl fun a hF=>?_
                            refine E.opvg hF (r_move (hF.at 60 rfl)) (wanted_by rfl rfl (hF.at 1 rfl) rfl) rfl rfl rfl fun a hF=>?_
                            by_cases hc12:osM n%12+1≠m
                            ·first
                             |(exfalso;omega)
                             |(refine E.opvg hF (r_bin (hF.at 1 rfl) (hF.at 0 rfl) eg_scalar (bi_int (ic_neq (c:=true) (dec_tt hc12)) (by simp))) (wanted_by rfl rfl (hF.at 2 rfl) rfl) rfl rfl rfl fun a hF=>?_
                               refine E.opv hF (r_pick_f (hF.at 3 rfl) (hF.at 0 rfl)) rfl rfl rfl rfl fun a hF=>?_
                               refine E.opv hF (r_move (hF.at 0 rfl)) rfl rfl rfl rfl fun a hF=>?_
                               refine E.unwanted hF (wanted_by rfl rfl (hF.at 0 rfl) rfl) rfl rfl rfl fun a hF=>?_
                               refine E.unwanted hF (wanted_by rfl rfl (hF.at 1 rfl) rfl) rfl rfl rfl fun a hF=>?_
                               refine E.unwanted hF (wanted_by rfl rfl (hF.at 2 rfl) rfl) rfl rfl rfl fun a hF=>?_
                               refine E.opv hF (r_pick_t (hF.at 3 rfl) ev_c) rfl rfl rfl rfl fun a hF=>?_
                               refine E.nil ?_
                               refine wp_cond_true (hF.at 0 rfl) ?_
                               refine wp_seq ?_
                               refine E.seq ?_
                               refine E.opset (L':=[(6,.int .i64 0),(72,.bool true),(71,undef),(70,undef),(69,undef),(68,.bool true),(67,.bool true),(66,.bool true),(65,.int .i64 m),(64,.int .i64 (osM n%12+1)),(63,.bool false),(62,.bool false),(61,.int .i64 y),(60,.int .i64 (osM n/12)),(12,.int .i64 (osD n)),(11,.int .i64 (osM n%12+1)),(10,.int .i64 (osM n/12)),(59,.int .i64 (osD n)),(58,.int .i64 (osM n%12+1)),(57,.int .i64 (osM n/12)),(54,.tuple #[.int .i64 (osM n/12),.int .i64 (osM n%12+1),.int .i64 (osD n)]),(56,.tuple #[.int .i64 (osM n/12),.int .i64 (osM n%12+1),.int .i64 (osD n)]),(55,.int .i64 n),(53,.bool false),(52,.bool false),(51,.int .i64 n),(50,.bool false),(49,.bool false),(48,.int .i64 n),(9,.int .i64 n),(47,.int .i64 n),(46,.int .i64 (-((-(((210389*(((12*y)+m)-1))+(6912*d))-8640))/6912))),(8,.int .i64 (-((-(((210389*(((12*y)+m)-1))+(6912*d))-8640))/6912))),(45,.int .i64 (-((-(((210389*(((12*y)+m)-1))+(6912*d))-8640))/6912))),(44,.int .i64 ((-(((210389*(((12*y)+m)-1))+(6912*d))-8640))/6912)),(43,.int .i64 (-(((210389*(((12*y)+m)-1))+(6912*d))-8640))),(42,.int .i64 (((210389*(((12*y)+m)-1))+(6912*d))-8640)),(41,.int .i64 ((210389*(((12*y)+m)-1))+(6912*d))),(40,.int .i64 (6912*d)),(39,.int .i64 d),(38,.int .i64 (210389*(((12*y)+m)-1))),(37,.int .i64 (((12*y)+m)-1)),(36,.int .i64 ((12*y)+m)),(35,.int .i64 m),(34,.int .i64 (12*y)),(33,.int .i64 y),(32,.bool false),(31,.bool false),(30,.int .i64 y),(29,.bool false),(28,.bool false),(27,.int .i64 y),(26,.bool false),(25,.bool false),(24,.int .i64 d),(23,.bool false),(22,.bool false),(21,.bool false),(20,.int .i64 d),(19,.bool false),(18,.bool false),(17,.bool false),(16,.int .i64 m),(15,.bool false),(14,.bool false),(13,.int .i64 m),(7,.int .i64 0),(0,.int .i64 y),(1,.int .i64 m),(2,.int .i64 d)]) hF (r_assign ev_c) rfl rfl rfl rfl fun a hF=>?_
                               refine E.opset (L':=[(7,.int .i64 3),(6,.int .i64 0),(72,.bool true),(71,undef),(70,undef),(69,undef),(68,.bool true),(67,.bool true),(66,.bool true),(65,.int .i64 m),(64,.int .i64 (osM n%12+1)),(63,.bool false),(62,.bool false),(61,.int .i64 y),(60,.int .i64 (osM n/12)),(12,.int .i64 (osD n)),(11,.int .i64 (osM n%12+1)),(10,.int .i64 (osM n/12)),(59,.int .i64 (osD n)),(58,.int .i64 (osM n%12+1)),(57,.int .i64 (osM n/12)),(54,.tuple #[.int .i64 (osM n/12),.int .i64 (osM n%12+1),.int .i64 (osD n)]),(56,.tuple #[.int .i64 (osM n/12),.int .i64 (osM n%12+1),.int .i64 (osD n)]),(55,.int .i64 n),(53,.bool false),(52,.bool false),(51,.int .i64 n),(50,.bool false),(49,.bool false),(48,.int .i64 n),(9,.int .i64 n),(47,.int .i64 n),(46,.int .i64 (-((-(((210389*(((12*y)+m)-1))+(6912*d))-8640))/6912))),(8,.int .i64 (-((-(((210389*(((12*y)+m)-1))+(6912*d))-8640))/6912))),(45,.int .i64 (-((-(((210389*(((12*y)+m)-1))+(6912*d))-8640))/6912))),(44,.int .i64 ((-(((210389*(((12*y)+m)-1))+(6912*d))-8640))/6912)),(43,.int .i64 (-(((210389*(((12*y)+m)-1))+(6912*d))-8640))),(42,.int .i64 (((210389*(((12*y)+m)-1))+(6912*d))-8640)),(41,.int .i64 ((210389*(((12*y)+m)-1))+(6912*d))),(40,.int .i64 (6912*d)),(39,.int .i64 d),(38,.int .i64 (210389*(((12*y)+m)-1))),(37,.int .i64 (((12*y)+m)-1)),(36,.int .i64 ((12*y)+m)),(35,.int .i64 m),(34,.int .i64 (12*y)),(33,.int .i64 y),(32,.bool false),(31,.bool false),(30,.int .i64 y),(29,.bool false),(28,.bool false),(27,.int .i64 y),(26,.bool false),(25,.bool false),(24,.int .i64 d),(23,.bool false),(22,.bool false),(21,.bool false),(20,.int .i64 d),(19,.bool false),(18,.bool false),(17,.bool false),(16,.int .i64 m),(15,.bool false),(14,.bool false),(13,.int .i64 m),(0,.int .i64 y),(1,.int .i64 m),(2,.int .i64 d)]) hF (r_assign ev_c) rfl rfl rfl rfl fun a hF=>?_
                               refine E.nil ?_
                               refine wp_ret ?_
                               have bel:=st.bel
                               refine bodyPost_ret (res_tmp2 Try.results22 (hF.at 1 rfl) (hF.at 0 rfl)) hF.dfr ?_
                               have hfx:=os_3 hnx (by omega) (by omega) (by omega) (by omega)
                               exact⟨rv_int2 hfx.1 hfx.2,bel⟩)
                            ·first
                             |(exfalso;omega)
                             |(refine E.opvg hF (r_bin (hF.at 1 rfl) (hF.at 0 rfl) eg_scalar (bi_int (ic_neq (c:=false) (dec_ff hc12)) (by simp))) (wanted_by rfl rfl (hF.at 2 rfl) rfl) rfl rfl rfl fun a hF=>?_
                               refine E.opv hF (r_pick_f (hF.at 3 rfl) (hF.at 0 rfl)) rfl rfl rfl rfl fun a hF=>?_
                               refine E.opv hF (r_move (hF.at 0 rfl)) rfl rfl rfl rfl fun a hF=>?_
                               refine E.opvg hF (r_move (hF.at 9 rfl)) (wanted_by rfl rfl (hF.at 0 rfl) rfl) rfl rfl rfl fun a hF=>?_
                               refine E.opvg hF (r_move (hF.at 66 rfl)) (wanted_by rfl rfl (hF.at 1 rfl) rfl) rfl rfl rfl fun a hF=>?_
                               by_cases hc13:osD n≠d
                               ·first
                                |(exfalso;omega)
                                |(refine E.opvg hF (r_bin (hF.at 1 rfl) (hF.at 0 rfl) eg_scalar (bi_int (ic_neq (c:=true) (dec_tt hc13)) (by simp))) (wanted_by rfl rfl (hF.at 2 rfl) rfl) rfl rfl rfl fun a hF=>?_
                                  refine E.opv hF (r_pick_f (hF.at 3 rfl) (hF.at 0 rfl)) rfl rfl rfl rfl fun a hF=>?_
                                  refine E.nil ?_
                                  refine wp_cond_true (hF.at 0 rfl) ?_
                                  refine wp_seq ?_
                                  refine E.seq ?_
                                  refine E.opset (L':=[(6,.int .i64 0),(72,.bool true),(71,.bool true),(70,.int .i64 d),(69,.int .i64 (osD n)),(68,.bool false),(67,.bool false),(66,.bool false),(65,.int .i64 m),(64,.int .i64 (osM n%12+1)),(63,.bool false),(62,.bool false),(61,.int .i64 y),(60,.int .i64 (osM n/12)),(12,.int .i64 (osD n)),(11,.int .i64 (osM n%12+1)),(10,.int .i64 (osM n/12)),(59,.int .i64 (osD n)),(58,.int .i64 (osM n%12+1)),(57,.int .i64 (osM n/12)),(54,.tuple #[.int .i64 (osM n/12),.int .i64 (osM n%12+1),.int .i64 (osD n)]),(56,.tuple #[.int .i64 (osM n/12),.int .i64 (osM n%12+1),.int .i64 (osD n)]),(55,.int .i64 n),(53,.bool false),(52,.bool false),(51,.int .i64 n),(50,.bool false),(49,.bool false),(48,.int .i64 n),(9,.int .i64 n),(47,.int .i64 n),(46,.int .i64 (-((-(((210389*(((12*y)+m)-1))+(6912*d))-8640))/6912))),(8,.int .i64 (-((-(((210389*(((12*y)+m)-1))+(6912*d))-8640))/6912))),(45,.int .i64 (-((-(((210389*(((12*y)+m)-1))+(6912*d))-8640))/6912))),(44,.int .i64 ((-(((210389*(((12*y)+m)-1))+(6912*d))-8640))/6912)),(43,.int .i64 (-(((210389*(((12*y)+m)-1))+(6912*d))-8640))),(42,.int .i64 (((210389*(((12*y)+m)-1))+(6912*d))-8640)),(41,.int .i64 ((210389*(((12*y)+m)-1))+(6912*d))),(40,.int .i64 (6912*d)),(39,.int .i64 d),(38,.int .i64 (210389*(((12*y)+m)-1))),(37,.int .i64 (((12*y)+m)-1)),(36,.int .i64 ((12*y)+m)),(35,.int .i64 m),(34,.int .i64 (12*y)),(33,.int .i64 y),(32,.bool false),(31,.bool false),(30,.int .i64 y),(29,.bool false),(28,.bool false),(27,.int .i64 y),(26,.bool false),(25,.bool false),(24,.int .i64 d),(23,.bool false),(22,.bool false),(21,.bool false),(20,.int .i64 d),(19,.bool false),(18,.bool false),(17,.bool false),(16,.int .i64 m),(15,.bool false),(14,.bool false),(13,.int .i64 m),(7,.int .i64 0),(0,.int .i64 y),(1,.int .i64 m),(2,.int .i64 d)]) hF (r_assign ev_c) rfl rfl rfl rfl fun a hF=>?_
                                  refine E.opset (L':=[(7,.int .i64 3),(6,.int .i64 0),(72,.bool true),(71,.bool true),(70,.int .i64 d),(69,.int .i64 (osD n)),(68,.bool false),(67,.bool false),(66,.bool false),(65,.int .i64 m),(64,.int .i64 (osM n%12+1)),(63,.bool false),(62,.bool false),(61,.int .i64 y),(60,.int .i64 (osM n/12)),(12,.int .i64 (osD n)),(11,.int .i64 (osM n%12+1)),(10,.int .i64 (osM n/12)),(59,.int .i64 (osD n)),(58,.int .i64 (osM n%12+1)),(57,.int .i64 (osM n/12)),(54,.tuple #[.int .i64 (osM n/12),.int .i64 (osM n%12+1),.int .i64 (osD n)]),(56,.tuple #[.int .i64 (osM n/12),.int .i64 (osM n%12+1),.int .i64 (osD n)]),(55,.int .i64 n),(53,.bool false),(52,.bool false),(51,.int .i64 n),(50,.bool false),(49,.bool false),(48,.int .i64 n),(9,.int .i64 n),(47,.int .i64 n),(46,.int .i64 (-((-(((210389*(((12*y)+m)-1))+(6912*d))-8640))/6912))),(8,.int .i64 (-((-(((210389*(((12*y)+m)-1))+(6912*d))-8640))/6912))),(45,.int .i64 (-((-(((210389*(((12*y)+m)-1))+(6912*d))-8640))/6912))),(44,.int .i64 ((-(((210389*(((12*y)+m)-1))+(6912*d))-8640))/6912)),(43,.int .i64 (-(((210389*(((12*y)+m)-1))+(6912*d))-8640))),(42,.int .i64 (((210389*(((12*y)+m)-1))+(6912*d))-8640)),(41,.int .i64 ((210389*(((12*y)+m)-1))+(6912*d))),(40,.int .i64 (6912*d)),(39,.int .i64 d),(38,.int .i64 (210389*(((12*y)+m)-1))),(37,.int .i64 (((12*y)+m)-1)),(36,.int .i64 ((12*y)+m)),(35,.int .i64 m),(34,.int .i64 (12*y)),(33,.int .i64 y),(32,.bool false),(31,.bool false),(30,.int .i64 y),(29,.bool false),(28,.bool false),(27,.int .i64 y),(26,.bool false),(25,.bool false),(24,.int .i64 d),(23,.bool false),(22,.bool false),(21,.bool false),(20,.int .i64 d),(19,.bool false),(18,.bool false),(17,.bool false),(16,.int .i64 m),(15,.bool false),(14,.bool false),(13,.int .i64 m),(0,.int .i64 y),(1,.int .i64 m),(2,.int .i64 d)]) hF (r_assign ev_c) rfl rfl rfl rfl fun a hF=>?_
                                  refine E.nil ?_
                                  refine wp_ret ?_
                                  have bel:=st.bel
                                  refine bodyPost_ret (res_tmp2 Try.results22 (hF.at 1 rfl) (hF.at 0 rfl)) hF.dfr ?_
                                  have hfx:=os_3 hnx (by omega) (by omega) (by omega) (by omega)
                                  exact⟨rv_int2 hfx.1 hfx.2,bel⟩)
                               ·first
                                |(exfalso;omega)
                                |(refine E.opvg hF (r_bin (hF.at 1 rfl) (hF.at 0 rfl) eg_scalar (bi_int (ic_neq (c:=false) (dec_ff hc13)) (by simp))) (wanted_by rfl rfl (hF.at 2 rfl) rfl) rfl rfl rfl fun a hF=>?_
                                  refine E.opv hF (r_pick_f (hF.at 3 rfl) (hF.at 0 rfl)) rfl rfl rfl rfl fun a hF=>?_
                                  refine E.nil ?_
                                  refine wp_cond_false (hF.at 0 rfl) ?_
                                  refine wp_skip ?_
                                  refine E.norm ?_
                                  refine wp_seq ?_
                                  refine E.seq ?_
                                  refine E.opv hF (r_move (hF.at 28 rfl)) rfl rfl rfl rfl fun a hF=>?_
                                  refine E.opset (L':=[(6,.int .i64 n),(73,.int .i64 n),(72,.bool false),(71,.bool false),(70,.int .i64 d),(69,.int .i64 (osD n)),(68,.bool false),(67,.bool false),(66,.bool false),(65,.int .i64 m),(64,.int .i64 (osM n%12+1)),(63,.bool false),(62,.bool false),(61,.int .i64 y),(60,.int .i64 (osM n/12)),(12,.int .i64 (osD n)),(11,.int .i64 (osM n%12+1)),(10,.int .i64 (osM n/12)),(59,.int .i64 (osD n)),(58,.int .i64 (osM n%12+1)),(57,.int .i64 (osM n/12)),(54,.tuple #[.int .i64 (osM n/12),.int .i64 (osM n%12+1),.int .i64 (osD n)]),(56,.tuple #[.int .i64 (osM n/12),.int .i64 (osM n%12+1),.int .i64 (osD n)]),(55,.int .i64 n),(53,.bool false),(52,.bool false),(51,.int .i64 n),(50,.bool false),(49,.bool false),(48,.int .i64 n),(9,.int .i64 n),(47,.int .i64 n),(46,.int .i64 (-((-(((210389*(((12*y)+m)-1))+(6912*d))-8640))/6912))),(8,.int .i64 (-((-(((210389*(((12*y)+m)-1))+(6912*d))-8640))/6912))),(45,.int .i64 (-((-(((210389*(((12*y)+m)-1))+(6912*d))-8640))/6912))),(44,.int .i64 ((-(((210389*(((12*y)+m)-1))+(6912*d))-8640))/6912)),(43,.int .i64 (-(((210389*(((12*y)+m)-1))+(6912*d))-8640))),(42,.int .i64 (((210389*(((12*y)+m)-1))+(6912*d))-8640)),(41,.int .i64 ((210389*(((12*y)+m)-1))+(6912*d))),(40,.int .i64 (6912*d)),(39,.int .i64 d),(38,.int .i64 (210389*(((12*y)+m)-1))),(37,.int .i64 (((12*y)+m)-1)),(36,.int .i64 ((12*y)+m)),(35,.int .i64 m),(34,.int .i64 (12*y)),(33,.int .i64 y),(32,.bool false),(31,.bool false),(30,.int .i64 y),(29,.bool false),(28,.bool false),(27,.int .i64 y),(26,.bool false),(25,.bool false),(24,.int .i64 d),(23,.bool false),(22,.bool false),(21,.bool false),(20,.int .i64 d),(19,.bool false),(18,.bool false),(17,.bool false),(16,.int .i64 m),(15,.bool false),(14,.bool false),(13,.int .i64 m),(7,.int .i64 0),(0,.int .i64 y),(1,.int .i64 m),(2,.int .i64 d)]) hF (r_assign (hF.at 0 rfl)) rfl rfl rfl rfl fun a hF=>?_
                                  refine E.opset (L':=[(7,.int .i64 0),(6,.int .i64 n),(73,.int .i64 n),(72,.bool false),(71,.bool false),(70,.int .i64 d),(69,.int .i64 (osD n)),(68,.bool false),(67,.bool false),(66,.bool false),(65,.int .i64 m),(64,.int .i64 (osM n%12+1)),(63,.bool false),(62,.bool false),(61,.int .i64 y),(60,.int .i64 (osM n/12)),(12,.int .i64 (osD n)),(11,.int .i64 (osM n%12+1)),(10,.int .i64 (osM n/12)),(59,.int .i64 (osD n)),(58,.int .i64 (osM n%12+1)),(57,.int .i64 (osM n/12)),(54,.tuple #[.int .i64 (osM n/12),.int .i64 (osM n%12+1),.int .i64 (osD n)]),(56,.tuple #[.int .i64 (osM n/12),.int .i64 (osM n%12+1),.int .i64 (osD n)]),(55,.int .i64 n),(53,.bool false),(52,.bool false),(51,.int .i64 n),(50,.bool false),(49,.bool false),(48,.int .i64 n),(9,.int .i64 n),(47,.int .i64 n),(46,.int .i64 (-((-(((210389*(((12*y)+m)-1))+(6912*d))-8640))/6912))),(8,.int .i64 (-((-(((210389*(((12*y)+m)-1))+(6912*d))-8640))/6912))),(45,.int .i64 (-((-(((210389*(((12*y)+m)-1))+(6912*d))-8640))/6912))),(44,.int .i64 ((-(((210389*(((12*y)+m)-1))+(6912*d))-8640))/6912)),(43,.int .i64 (-(((210389*(((12*y)+m)-1))+(6912*d))-8640))),(42,.int .i64 (((210389*(((12*y)+m)-1))+(6912*d))-8640)),(41,.int .i64 ((210389*(((12*y)+m)-1))+(6912*d))),(40,.int .i64 (6912*d)),(39,.int .i64 d),(38,.int .i64 (210389*(((12*y)+m)-1))),(37,.int .i64 (((12*y)+m)-1)),(36,.int .i64 ((12*y)+m)),(35,.int .i64 m),(34,.int .i64 (12*y)),(33,.int .i64 y),(32,.bool false),(31,.bool false),(30,.int .i64 y),(29,.bool false),(28,.bool false),(27,.int .i64 y),(26,.bool false),(25,.bool false),(24,.int .i64 d),(23,.bool false),(22,.bool false),(21,.bool false),(20,.int .i64 d),(19,.bool false),(18,.bool false),(17,.bool false),(16,.int .i64 m),(15,.bool false),(14,.bool false),(13,.int .i64 m),(0,.int .i64 y),(1,.int .i64 m),(2,.int .i64 d)]) hF (r_assign ev_c) rfl rfl rfl rfl fun a hF=>?_
                                  refine E.nil ?_
                                  refine wp_ret ?_
                                  have bel:=st.bel
                                  refine bodyPost_ret (res_tmp2 Try.results22 (hF.at 1 rfl) (hF.at 0 rfl)) hF.dfr ?_
                                  have hfx:=os_0 hnx (by omega) (by omega) (by omega) (by omega)
                                  exact⟨rv_int2 hfx.1 hfx.2,bel⟩)))))))))))
end Go.Proofs.Ytacnedknihlfnaa
