import Derived.Test.YtacnedknihlfnaaKB33
namespace Go.Proofs.Ytacnedknihlfnaa
open Go.RowKit
set_option maxRecDepth 100000
set_option linter.unusedVariables false
set_option maxHeartbeats 8000000
theorem oldmoonYears_walk (n:Int) (w:World):
 Calls Try.prog 11 #[.int .i64 n] w (ValPost w (.bool true)):=by
 have st:=St.start w
 refine E.enter (nt:=95) (L:=[(0,.int .i64 n)]) Try.func11 rfl rfl rfl (args_cons (i:=0) rfl args_nil) ?_
 intro a hF
 refine wp_seq ?_
 refine E.seq ?_
 refine E.opv hF (r_assign ev_c) rfl rfl rfl rfl fun a hF=>?_
 refine E.nil ?_
 refine wp_seq ?_
 refine wp_seq ?_
 refine E.seq ?_
 refine S.callx st hF (r_call Try.func24 en24.1 en24.2 map0) (awake17_any _) rfl rfl rfl rfl fun w1 a st hF=>?_
 refine E.opv hF (r_un (hF.at 0 rfl) (bn_not _ false rfl)) rfl rfl rfl rfl fun a hF=>?_
 refine E.nil ?_
 refine wp_cond_false (hF.at 0 rfl) ?_
 refine wp_skip ?_
 refine E.norm ?_
 refine wp_seq ?_
 refine E.seq ?_
 refine E.opv hF (r_move (hF.at 3 rfl)) rfl rfl rfl rfl fun a hF=>?_
 refine E.opv hF (r_bin (hF.at 0 rfl) ev_c eg_scalar (id_rem (a:=n) (b:=8000) (by omega))) rfl rfl rfl rfl fun a hF=>?_
 refine E.opv hF (r_assign (hF.at 0 rfl)) rfl rfl rfl rfl fun a hF=>?_
 obtain⟨y,hy⟩:∃y:Int,y=(if 0≤n then n%8000 else -(-n%8000)):=⟨_,rfl⟩
 rw[←hy] at hF
 have hyb: -8000<y∧y<8000:=by have:=rem_bd (k:=n) (n:=8000) (by decide);omega
 refine E.nil ?_
 refine wp_seq ?_
 refine E.seq ?_
 refine E.opv hF (r_assign ev_c) rfl rfl rfl rfl fun a hF=>?_
 refine E.opv hF (r_assign ev_c) rfl rfl rfl rfl fun a hF=>?_
 refine E.opv hF (r_assign ev_c) rfl rfl rfl rfl fun a hF=>?_
 refine E.nil ?_
 refine wp_seq ?_
 refine E.seq ?_
 refine E.opv hF (r_move (hF.at 3 rfl)) rfl rfl rfl rfl fun a hF=>?_
 refine E.opv hF (r_bin ev_c (hF.at 0 rfl) eg_scalar (ia_mul (by omega) (by omega))) rfl rfl rfl rfl fun a hF=>?_
 refine E.opv hF (r_bin (hF.at 0 rfl) ev_c eg_scalar (ia_mul (by omega) (by omega))) rfl rfl rfl rfl fun a hF=>?_
 refine E.opv hF (r_bin (hF.at 0 rfl) ev_c eg_scalar (ia_mul (by omega) (by omega))) rfl rfl rfl rfl fun a hF=>?_
 refine S.callx st hF (r_call Try.func34 en34.1 en34.2 (map2 (hF.at 0 rfl) ev_c)) (r16fl_any (((12*y)*210389)*4452778) 908880480000 _ (by omega) (by omega) (by omega) (by omega)) rfl rfl rfl rfl fun w2 a st hF=>?_
 refine E.opv hF (r_bin (hF.at 0 rfl) ev_c eg_scalar (ia_sub (by omega) (by omega))) rfl rfl rfl rfl fun a hF=>?_
 refine E.opv hF (r_assign (hF.at 0 rfl)) rfl rfl rfl rfl fun a hF=>?_
 obtain⟨j0,hj0⟩:∃j0:Int,j0=((((12*y)*210389)*4452778)/908880480000)-3:=⟨_,rfl⟩
 rw[←hj0] at hF
 have hj0':j0=omB (12*y)-3:=by rw[hj0];unfold omB;omega
 have hab:=om_about (12*y)
 have hbb:=omB_bd (u:=12*y) (by omega) (by omega)
 have hce:=cl_end hj0'
 have hyr:=om_year (12*y)
 have huA:=(omAB (12*y)).1
 have huB:=(omAB (12*y+12)).1
 refine E.nil ?_
 refine wp_seq ?_
 refine wp_seq ?_
 refine E.seq ?_
 refine E.opv hF (r_assign ev_c) rfl rfl rfl rfl fun a hF=>?_
 refine E.nil ?_
 refine wp_block ?_
 refine E.loop (fun mq a wv=>∃(k:Int) (c:Int) (p:Int),0≤k∧k≤20∧c=clp (12*y) (j0+k)-omA (12*y)∧p=c-(omU (clp (12*y) (j0+k))-12*y)∧Fr 95 a [(8,.int .i64 k),(7,.int .i64 j0),(6,.int .i64 0),(5,.int .i64 p),(4,.int .i64 c),(3,.int .i64 y),(2,.bool false)]∧St w wv [] []∧mq=(20-k:Int).toNat) ((20-(0):Int).toNat) ?_ ?_
 ·exact⟨(0:Int),(0:Int),(0:Int),(by omega),(by omega),(by rw[hce.2];omega),(by rw[hce.2];omega),Fr.pick (L':=[(8,.int .i64 0),(7,.int .i64 j0),(6,.int .i64 0),(5,.int .i64 0),(4,.int .i64 0),(3,.int .i64 y),(2,.bool false)]) hF [0,1,8,9,10,11,16] rfl,st.pick [] [] rfl rfl (by decide),rfl⟩
 ·rintro mq a w3 ⟨k,c,p,hk0,hk1,hc,hp,hF,st,hm⟩
  have hcb:omA (12*y)≤clp (12*y) (j0+k)∧clp (12*y) (j0+k)≤omA (12*y+12):=by unfold clp;omega
  have hcu:=omU_in2 (j:=clp (12*y) (j0+k)) (by omega) (by omega)
  have hcend:k=20→clp (12*y) (j0+k)=omA (12*y+12)∧omU (clp (12*y) (j0+k))=12*y+12:=fun h=>by rw[h,hce.1];exact⟨rfl,huB⟩
  refine wp_seq ?_
  refine wp_seq ?_
  refine E.seq ?_
  refine E.opv hF (r_move (hF.at 0 rfl)) rfl rfl rfl rfl fun a hF=>?_
  by_cases hc4:k<20
  ·first
   |(exfalso;omega)
   |(refine E.opv hF (r_bin (hF.at 0 rfl) ev_c eg_scalar (bi_int (ic_lss (c:=true) (dec_tt hc4)) (by simp))) rfl rfl rfl rfl fun a hF=>?_
     refine E.nil ?_
     refine wp_cond_true (hF.at 0 rfl) ?_
     refine wp_skip ?_
     refine E.norm ?_
     refine wp_seq ?_
     refine wp_block ?_
     refine wp_seq ?_
     refine E.seq ?_
     refine E.opv hF (r_move (hF.at 3 rfl)) rfl rfl rfl rfl fun a hF=>?_
     refine E.opv hF (r_move (hF.at 3 rfl)) rfl rfl rfl rfl fun a hF=>?_
     refine E.opv hF (r_bin (hF.at 1 rfl) (hF.at 0 rfl) eg_scalar (ia_add (by omega) (by omega))) rfl rfl rfl rfl fun a hF=>?_
     refine S.callx st hF (r_call Try.func32 en32.1 en32.2 (map1 (hF.at 0 rfl))) (omSm_any (j0+k) _ (by omega) (by omega)) rfl rfl rfl rfl fun w5 a st hF=>?_
     have hou4:=omU_in2 (j:=j0+k) (by omega) (by omega)
     refine E.opv hF (r_assign (hF.at 0 rfl)) rfl rfl rfl rfl fun a hF=>?_
     refine E.nil ?_
     refine wp_seq ?_
     refine E.seq ?_
     refine E.opv hF (r_move (hF.at 0 rfl)) rfl rfl rfl rfl fun a hF=>?_
     refine E.opv hF (r_move (hF.at 13 rfl)) rfl rfl rfl rfl fun a hF=>?_
     refine E.opv hF (r_bin ev_c (hF.at 0 rfl) eg_scalar (ia_mul (by omega) (by omega))) rfl rfl rfl rfl fun a hF=>?_
     by_cases hc6:12*y≤omU (j0+k)
     ·first
      |(exfalso;omega)
      |(refine E.opv hF (r_bin (hF.at 2 rfl) (hF.at 0 rfl) eg_scalar (bi_int (ic_geq (c:=true) (dec_tt hc6)) (by simp))) rfl rfl rfl rfl fun a hF=>?_
        refine E.opv hF (r_move (hF.at 0 rfl)) rfl rfl rfl rfl fun a hF=>?_
        refine E.opvg hF (r_move (hF.at 5 rfl)) (wanted_by rfl rfl (hF.at 0 rfl) rfl) rfl rfl rfl fun a hF=>?_
        refine E.opvg hF (r_move (hF.at 18 rfl)) (wanted_by rfl rfl (hF.at 1 rfl) rfl) rfl rfl rfl fun a hF=>?_
        refine E.opvg hF (r_bin ev_c (hF.at 0 rfl) eg_scalar (ia_mul (by omega) (by omega))) (wanted_by rfl rfl (hF.at 2 rfl) rfl) rfl rfl rfl fun a hF=>?_
        refine E.opvg hF (r_bin (hF.at 0 rfl) ev_c eg_scalar (ia_add (by omega) (by omega))) (wanted_by rfl rfl (hF.at 3 rfl) rfl) rfl rfl rfl fun a hF=>?_
        by_cases hc7:omU (j0+k)<(12*y)+12
        ·first
         |(exfalso;omega)
         |(refine E.opvg hF (r_bin (hF.at 3 rfl) (hF.at 0 rfl) eg_scalar (bi_int (ic_lss (c:=true) (dec_tt hc7)) (by simp))) (wanted_by rfl rfl (hF.at 4 rfl) rfl) rfl rfl rfl fun a hF=>?_
           refine E.opv hF (r_pick_t (hF.at 5 rfl) (hF.at 0 rfl)) rfl rfl rfl rfl fun a hF=>?_
           refine E.nil ?_
           refine wp_cond_true (hF.at 0 rfl) ?_
           refine wp_seq ?_
           refine E.seq ?_
           refine E.opv hF (r_move (hF.at 22 rfl)) rfl rfl rfl rfl fun a hF=>?_
           refine E.opv hF (r_bin (hF.at 0 rfl) ev_c eg_scalar (ia_add (by omega) (by omega))) rfl rfl rfl rfl fun a hF=>?_
           refine E.opset (L':=[(4,.int .i64 (c+1)),(44,.int .i64 (c+1)),(43,.int .i64 c),(42,.bool true),(41,.bool true),(40,.int .i64 ((12*y)+12)),(39,.int .i64 (12*y)),(38,.int .i64 y),(37,.int .i64 (omU (j0+k))),(36,.bool true),(35,.bool true),(34,.int .i64 (12*y)),(33,.int .i64 y),(32,.int .i64 (omU (j0+k))),(9,.int .i64 (omU (j0+k))),(31,.int .i64 (omU (j0+k))),(30,.int .i64 (j0+k)),(29,.int .i64 k),(28,.int .i64 j0),(25,.bool true),(24,.int .i64 k),(8,.int .i64 k),(7,.int .i64 j0),(6,.int .i64 0),(5,.int .i64 p),(3,.int .i64 y),(2,.bool false)]) hF (r_assign (hF.at 0 rfl)) rfl rfl rfl rfl fun a hF=>?_
           refine E.nil ?_
           refine wp_seq ?_
           refine E.seq ?_
           refine E.opv hF (r_move (hF.at 22 rfl)) rfl rfl rfl rfl fun a hF=>?_
           refine E.opv hF (r_move (hF.at 22 rfl)) rfl rfl rfl rfl fun a hF=>?_
           refine E.opv hF (r_bin (hF.at 1 rfl) (hF.at 0 rfl) eg_scalar (ia_add (by omega) (by omega))) rfl rfl rfl rfl fun a hF=>?_
           refine E.opv hF (r_bin (hF.at 0 rfl) ev_c eg_scalar (ia_add (by omega) (by omega))) rfl rfl rfl rfl fun a hF=>?_
           refine S.callx st hF (r_call Try.func32 en32.1 en32.2 (map1 (hF.at 0 rfl))) (omSm_any ((j0+k)+1) _ (by omega) (by omega)) rfl rfl rfl rfl fun w8 a st hF=>?_
           have hou7:=omU_in2 (j:=(j0+k)+1) (by omega) (by omega)
           refine E.opv hF (r_move (hF.at 19 rfl)) rfl rfl rfl rfl fun a hF=>?_
           by_cases hc9:omU ((j0+k)+1)=omU (j0+k)
           ·first
            |(exfalso;omega)
            |(refine E.opv hF (r_bin (hF.at 1 rfl) (hF.at 0 rfl) eg_scalar (bi_int (ic_eql (c:=true) (dec_tt hc9)) (by simp))) rfl rfl rfl rfl fun a hF=>?_
              refine E.nil ?_
              refine wp_cond_true (hF.at 0 rfl) ?_
              refine E.seq ?_
              refine E.opv hF (r_move (hF.at 31 rfl)) rfl rfl rfl rfl fun a hF=>?_
              refine E.opv hF (r_bin (hF.at 0 rfl) ev_c eg_scalar (ia_add (by omega) (by omega))) rfl rfl rfl rfl fun a hF=>?_
              refine E.opset (L':=[(5,.int .i64 (p+1)),(53,.int .i64 (p+1)),(52,.int .i64 p),(51,.bool true),(50,.int .i64 (omU (j0+k))),(49,.int .i64 (omU ((j0+k)+1))),(48,.int .i64 ((j0+k)+1)),(47,.int .i64 (j0+k)),(46,.int .i64 k),(45,.int .i64 j0),(4,.int .i64 (c+1)),(44,.int .i64 (c+1)),(43,.int .i64 c),(42,.bool true),(41,.bool true),(40,.int .i64 ((12*y)+12)),(39,.int .i64 (12*y)),(38,.int .i64 y),(37,.int .i64 (omU (j0+k))),(36,.bool true),(35,.bool true),(34,.int .i64 (12*y)),(33,.int .i64 y),(32,.int .i64 (omU (j0+k))),(9,.int .i64 (omU (j0+k))),(31,.int .i64 (omU (j0+k))),(30,.int .i64 (j0+k)),(29,.int .i64 k),(28,.int .i64 j0),(25,.bool true),(24,.int .i64 k),(8,.int .i64 k),(7,.int .i64 j0),(6,.int .i64 0),(3,.int .i64 y),(2,.bool false)]) hF (r_assign (hF.at 0 rfl)) rfl rfl rfl rfl fun a hF=>?_
              refine E.nil0 ?_
              refine E.blk ?_
              refine E.norm ?_
              refine E.seq ?_
              refine E.opv hF (r_move (hF.at 31 rfl)) rfl rfl rfl rfl fun a hF=>?_
              refine E.opv hF (r_bin (hF.at 0 rfl) ev_c eg_scalar (ia_add (by omega) (by omega))) rfl rfl rfl rfl fun a hF=>?_
              refine E.opset (L':=[(8,.int .i64 (k+1)),(27,.int .i64 (k+1)),(26,.int .i64 k),(5,.int .i64 (p+1)),(53,.int .i64 (p+1)),(52,.int .i64 p),(51,.bool true),(50,.int .i64 (omU (j0+k))),(49,.int .i64 (omU ((j0+k)+1))),(48,.int .i64 ((j0+k)+1)),(47,.int .i64 (j0+k)),(46,.int .i64 k),(45,.int .i64 j0),(4,.int .i64 (c+1)),(44,.int .i64 (c+1)),(43,.int .i64 c),(42,.bool true),(41,.bool true),(40,.int .i64 ((12*y)+12)),(39,.int .i64 (12*y)),(38,.int .i64 y),(37,.int .i64 (omU (j0+k))),(36,.bool true),(35,.bool true),(34,.int .i64 (12*y)),(33,.int .i64 y),(32,.int .i64 (omU (j0+k))),(9,.int .i64 (omU (j0+k))),(31,.int .i64 (omU (j0+k))),(30,.int .i64 (j0+k)),(29,.int .i64 k),(28,.int .i64 j0),(25,.bool true),(24,.int .i64 k),(7,.int .i64 j0),(6,.int .i64 0),(3,.int .i64 y),(2,.bool false)]) hF (r_assign (hF.at 0 rfl)) rfl rfl rfl rfl fun a hF=>?_
              refine E.nil0 ?_
              refine E.norm ?_
              exact⟨(20-(k+1):Int).toNat,by omega,⟨(k+1:Int),(c+1:Int),(p+1:Int),(by omega),(by omega),(by first|(have e:=cl_in (u:=12*y) (i:=j0+k) (by omega) (by omega);rw[show j0+(k+1)=j0+k+1 by omega,e.1];rw[e.2] at hc hp;have:=omU_step (j0+k);omega)|(rw[show j0+(k+1)=j0+k+1 by omega,cl_out (by omega)];omega)),(by first|(have e:=cl_in (u:=12*y) (i:=j0+k) (by omega) (by omega);rw[show j0+(k+1)=j0+k+1 by omega,e.1];rw[e.2] at hc hp;have:=omU_step (j0+k);omega)|(rw[show j0+(k+1)=j0+k+1 by omega,cl_out (by omega)];omega)),Fr.pick (L':=[(8,.int .i64 (k+1)),(7,.int .i64 j0),(6,.int .i64 0),(5,.int .i64 (p+1)),(4,.int .i64 (c+1)),(3,.int .i64 y),(2,.bool false)]) hF [0,34,35,3,13,36,37] rfl,st.pick [] [] rfl rfl (by decide),rfl⟩⟩)
           ·first
            |(exfalso;omega)
            |(refine E.opv hF (r_bin (hF.at 1 rfl) (hF.at 0 rfl) eg_scalar (bi_int (ic_eql (c:=false) (dec_ff hc9)) (by simp))) rfl rfl rfl rfl fun a hF=>?_
              refine E.nil ?_
              refine wp_cond_false (hF.at 0 rfl) ?_
              refine wp_skip ?_
              refine E.blk ?_
              refine E.norm ?_
              refine E.seq ?_
              refine E.opv hF (r_move (hF.at 28 rfl)) rfl rfl rfl rfl fun a hF=>?_
              refine E.opv hF (r_bin (hF.at 0 rfl) ev_c eg_scalar (ia_add (by omega) (by omega))) rfl rfl rfl rfl fun a hF=>?_
              refine E.opset (L':=[(8,.int .i64 (k+1)),(27,.int .i64 (k+1)),(26,.int .i64 k),(51,.bool false),(50,.int .i64 (omU (j0+k))),(49,.int .i64 (omU ((j0+k)+1))),(48,.int .i64 ((j0+k)+1)),(47,.int .i64 (j0+k)),(46,.int .i64 k),(45,.int .i64 j0),(4,.int .i64 (c+1)),(44,.int .i64 (c+1)),(43,.int .i64 c),(42,.bool true),(41,.bool true),(40,.int .i64 ((12*y)+12)),(39,.int .i64 (12*y)),(38,.int .i64 y),(37,.int .i64 (omU (j0+k))),(36,.bool true),(35,.bool true),(34,.int .i64 (12*y)),(33,.int .i64 y),(32,.int .i64 (omU (j0+k))),(9,.int .i64 (omU (j0+k))),(31,.int .i64 (omU (j0+k))),(30,.int .i64 (j0+k)),(29,.int .i64 k),(28,.int .i64 j0),(25,.bool true),(24,.int .i64 k),(7,.int .i64 j0),(6,.int .i64 0),(5,.int .i64 p),(3,.int .i64 y),(2,.bool false)]) hF (r_assign (hF.at 0 rfl)) rfl rfl rfl rfl fun a hF=>?_
              refine E.nil0 ?_
              refine E.norm ?_
              exact⟨(20-(k+1):Int).toNat,by omega,⟨(k+1:Int),(c+1:Int),(p:Int),(by omega),(by omega),(by first|(have e:=cl_in (u:=12*y) (i:=j0+k) (by omega) (by omega);rw[show j0+(k+1)=j0+k+1 by omega,e.1];rw[e.2] at hc hp;have:=omU_step (j0+k);omega)|(rw[show j0+(k+1)=j0+k+1 by omega,cl_out (by omega)];omega)),(by first|(have e:=cl_in (u:=12*y) (i:=j0+k) (by omega) (by omega);rw[show j0+(k+1)=j0+k+1 by omega,e.1];rw[e.2] at hc hp;have:=omU_step (j0+k);omega)|(rw[show j0+(k+1)=j0+k+1 by omega,cl_out (by omega)];omega)),Fr.pick (L':=[(8,.int .i64 (k+1)),(7,.int .i64 j0),(6,.int .i64 0),(5,.int .i64 p),(4,.int .i64 (c+1)),(3,.int .i64 y),(2,.bool false)]) hF [0,31,32,33,10,34,35] rfl,st.pick [] [] rfl rfl (by decide),rfl⟩⟩))
        ·first
         |(exfalso;omega)
         |(refine E.opvg hF (r_bin (hF.at 3 rfl) (hF.at 0 rfl) eg_scalar (bi_int (ic_lss (c:=false) (dec_ff hc7)) (by simp))) (wanted_by rfl rfl (hF.at 4 rfl) rfl) rfl rfl rfl fun a hF=>?_
           refine E.opv hF (r_pick_t (hF.at 5 rfl) (hF.at 0 rfl)) rfl rfl rfl rfl fun a hF=>?_
           refine E.nil ?_
           refine wp_cond_false (hF.at 0 rfl) ?_
           refine wp_skip ?_
           refine E.blk ?_
           refine E.norm ?_
           refine E.seq ?_
           refine E.opv hF (r_move (hF.at 18 rfl)) rfl rfl rfl rfl fun a hF=>?_
           refine E.opv hF (r_bin (hF.at 0 rfl) ev_c eg_scalar (ia_add (by omega) (by omega))) rfl rfl rfl rfl fun a hF=>?_
           refine E.opset (L':=[(8,.int .i64 (k+1)),(27,.int .i64 (k+1)),(26,.int .i64 k),(42,.bool false),(41,.bool false),(40,.int .i64 ((12*y)+12)),(39,.int .i64 (12*y)),(38,.int .i64 y),(37,.int .i64 (omU (j0+k))),(36,.bool true),(35,.bool true),(34,.int .i64 (12*y)),(33,.int .i64 y),(32,.int .i64 (omU (j0+k))),(9,.int .i64 (omU (j0+k))),(31,.int .i64 (omU (j0+k))),(30,.int .i64 (j0+k)),(29,.int .i64 k),(28,.int .i64 j0),(25,.bool true),(24,.int .i64 k),(7,.int .i64 j0),(6,.int .i64 0),(5,.int .i64 p),(4,.int .i64 c),(3,.int .i64 y),(2,.bool false)]) hF (r_assign (hF.at 0 rfl)) rfl rfl rfl rfl fun a hF=>?_
           refine E.nil0 ?_
           refine E.norm ?_
           exact⟨(20-(k+1):Int).toNat,by omega,⟨(k+1:Int),(c:Int),(p:Int),(by omega),(by omega),(by first|(have e:=cl_in (u:=12*y) (i:=j0+k) (by omega) (by omega);rw[show j0+(k+1)=j0+k+1 by omega,e.1];rw[e.2] at hc hp;have:=omU_step (j0+k);omega)|(rw[show j0+(k+1)=j0+k+1 by omega,cl_out (by omega)];omega)),(by first|(have e:=cl_in (u:=12*y) (i:=j0+k) (by omega) (by omega);rw[show j0+(k+1)=j0+k+1 by omega,e.1];rw[e.2] at hc hp;have:=omU_step (j0+k);omega)|(rw[show j0+(k+1)=j0+k+1 by omega,cl_out (by omega)];omega)),Fr.pick (L':=[(8,.int .i64 (k+1)),(7,.int .i64 j0),(6,.int .i64 0),(5,.int .i64 p),(4,.int .i64 c),(3,.int .i64 y),(2,.bool false)]) hF [0,21,22,23,24,25,26] rfl,st.pick [] [] rfl rfl (by decide),rfl⟩⟩))
     ·first
      |(exfalso;omega)
      |(refine E.opv hF (r_bin (hF.at 2 rfl) (hF.at 0 rfl) eg_scalar (bi_int (ic_geq (c:=false) (dec_ff hc6)) (by simp))) rfl rfl rfl rfl fun a hF=>?_
        refine E.opv hF (r_move (hF.at 0 rfl)) rfl rfl rfl rfl fun a hF=>?_
        refine E.unwanted hF (wanted_by rfl rfl (hF.at 0 rfl) rfl) rfl rfl rfl fun a hF=>?_
        refine E.unwanted hF (wanted_by rfl rfl (hF.at 1 rfl) rfl) rfl rfl rfl fun a hF=>?_
        refine E.unwanted hF (wanted_by rfl rfl (hF.at 2 rfl) rfl) rfl rfl rfl fun a hF=>?_
        refine E.unwanted hF (wanted_by rfl rfl (hF.at 3 rfl) rfl) rfl rfl rfl fun a hF=>?_
        refine E.unwanted hF (wanted_by rfl rfl (hF.at 4 rfl) rfl) rfl rfl rfl fun a hF=>?_
        refine E.opv hF (r_pick_f (hF.at 5 rfl) ev_c) rfl rfl rfl rfl fun a hF=>?_
        refine E.nil ?_
        refine wp_cond_false (hF.at 0 rfl) ?_
        refine wp_skip ?_
        refine E.blk ?_
        refine E.norm ?_
        refine E.seq ?_
        refine E.opv hF (r_move (hF.at 18 rfl)) rfl rfl rfl rfl fun a hF=>?_
        refine E.opv hF (r_bin (hF.at 0 rfl) ev_c eg_scalar (ia_add (by omega) (by omega))) rfl rfl rfl rfl fun a hF=>?_
        refine E.opset (L':=[(8,.int .i64 (k+1)),(27,.int .i64 (k+1)),(26,.int .i64 k),(42,.bool false),(41,undef),(40,undef),(39,undef),(38,undef),(37,undef),(36,.bool false),(35,.bool false),(34,.int .i64 (12*y)),(33,.int .i64 y),(32,.int .i64 (omU (j0+k))),(9,.int .i64 (omU (j0+k))),(31,.int .i64 (omU (j0+k))),(30,.int .i64 (j0+k)),(29,.int .i64 k),(28,.int .i64 j0),(25,.bool true),(24,.int .i64 k),(7,.int .i64 j0),(6,.int .i64 0),(5,.int .i64 p),(4,.int .i64 c),(3,.int .i64 y),(2,.bool false)]) hF (r_assign (hF.at 0 rfl)) rfl rfl rfl rfl fun a hF=>?_
        refine E.nil0 ?_
        refine E.norm ?_
        exact⟨(20-(k+1):Int).toNat,by omega,⟨(k+1:Int),(c:Int),(p:Int),(by omega),(by omega),(by first|(have e:=cl_in (u:=12*y) (i:=j0+k) (by omega) (by omega);rw[show j0+(k+1)=j0+k+1 by omega,e.1];rw[e.2] at hc hp;have:=omU_step (j0+k);omega)|(rw[show j0+(k+1)=j0+k+1 by omega,cl_out (by omega)];omega)),(by first|(have e:=cl_in (u:=12*y) (i:=j0+k) (by omega) (by omega);rw[show j0+(k+1)=j0+k+1 by omega,e.1];rw[e.2] at hc hp;have:=omU_step (j0+k);omega)|(rw[show j0+(k+1)=j0+k+1 by omega,cl_out (by omega)];omega)),Fr.pick (L':=[(8,.int .i64 (k+1)),(7,.int .i64 j0),(6,.int .i64 0),(5,.int .i64 p),(4,.int .i64 c),(3,.int .i64 y),(2,.bool false)]) hF [0,21,22,23,24,25,26] rfl,st.pick [] [] rfl rfl (by decide),rfl⟩⟩))
  ·first
   |(exfalso;omega)
   |(refine E.opv hF (r_bin (hF.at 0 rfl) ev_c eg_scalar (bi_int (ic_lss (c:=false) (dec_ff hc4)) (by simp))) rfl rfl rfl rfl fun a hF=>?_
     refine E.nil ?_
     refine wp_cond_false (hF.at 0 rfl) ?_
     refine wp_exit ?_
     refine E.past ?_
     refine E.past ?_
     refine E.out (id:=0) ?_
     refine E.norm ?_
     refine wp_seq ?_
     refine wp_seq ?_
     refine E.seq ?_
     refine E.opv hF (r_assign ev_c) rfl rfl rfl rfl fun a hF=>?_
     refine E.nil ?_
     refine wp_block ?_
     refine E.loop (fun mq a wv=>∃(m:Int) (h:Int),1≤m∧m≤13∧0≤h∧h≤m-1∧(-5000≤y→h=omA (12*y+(m-1))-omA (12*y)-(m-1))∧Fr 95 a [(10,.int .i64 m),(6,.int .i64 h),(5,.int .i64 p),(4,.int .i64 c),(3,.int .i64 y),(2,.bool false)]∧St w wv [] []∧mq=(13-m:Int).toNat) ((13-(1):Int).toNat) ?_ ?_
     ·exact⟨(1:Int),(0:Int),(by omega),(by omega),(by omega),(by omega),(fun _=>by rw[show 12*y+((1:Int)-1)=12*y by omega];omega),Fr.pick (L':=[(10,.int .i64 1),(6,.int .i64 0),(5,.int .i64 p),(4,.int .i64 c),(3,.int .i64 y),(2,.bool false)]) hF [0,5,6,7,8,9] rfl,st.pick [] [] rfl rfl (by decide),rfl⟩
     ·rintro mq a w10 ⟨m,h,hm0,hm1,hh0,hh1,hh,hF,st,hm⟩
      have hme:m=13→omA (12*y+(m-1))=omA (12*y+12):=fun h=>by rw[h];rfl
      refine wp_seq ?_
      refine wp_seq ?_
      refine E.seq ?_
      refine E.opv hF (r_move (hF.at 0 rfl)) rfl rfl rfl rfl fun a hF=>?_
      by_cases hc11:m≤12
      ·first
       |(exfalso;omega)
       |(refine E.opv hF (r_bin (hF.at 0 rfl) ev_c eg_scalar (bi_int (ic_leq (c:=true) (dec_tt hc11)) (by simp))) rfl rfl rfl rfl fun a hF=>?_
         refine E.nil ?_
         refine wp_cond_true (hF.at 0 rfl) ?_
         refine wp_skip ?_
         refine E.norm ?_
         refine wp_seq ?_
         refine wp_block ?_
         refine wp_seq ?_
         refine E.seq ?_
         refine E.opv hF (r_assign ev_c) rfl rfl rfl rfl fun a hF=>?_
         refine E.nil ?_
         refine wp_block ?_
         refine E.loop (fun mq a wv=>∃(d:Int) (h2:Int),15≤d∧d≤18∧h2=h∧(15<d→¬omE y m true 15=0)∧(16<d→¬omE y m true 16=0)∧Fr 95 a [(11,.int .i64 d),(10,.int .i64 m),(6,.int .i64 h2),(5,.int .i64 p),(4,.int .i64 c),(3,.int .i64 y),(2,.bool false)]∧St w wv [] []∧mq=(18-d:Int).toNat) ((18-(15):Int).toNat) ?_ ?_
         ·exact⟨(15:Int),(h:Int),(by omega),(by omega),(by omega),(fun hq=>by omega),(fun hq=>by omega),Fr.pick (L':=[(11,.int .i64 15),(10,.int .i64 m),(6,.int .i64 h),(5,.int .i64 p),(4,.int .i64 c),(3,.int .i64 y),(2,.bool false)]) hF [0,3,4,5,6,7,8] rfl,st.pick [] [] rfl rfl (by decide),rfl⟩
         ·rintro mq a w12 ⟨d,h2,hd0,hd1,hh2,h15,h16,hF,st,hm⟩
          refine wp_seq ?_
          refine wp_seq ?_
          refine E.seq ?_
          refine E.opv hF (r_move (hF.at 0 rfl)) rfl rfl rfl rfl fun a hF=>?_
          by_cases hc13:d≤17
          ·first
           |(exfalso;omega)
           |(refine E.opv hF (r_bin (hF.at 0 rfl) ev_c eg_scalar (bi_int (ic_leq (c:=true) (dec_tt hc13)) (by simp))) rfl rfl rfl rfl fun a hF=>?_
             refine E.nil ?_
             refine wp_cond_true (hF.at 0 rfl) ?_
             refine wp_skip ?_
             refine E.norm ?_
             refine wp_seq ?_
             refine wp_block ?_
             refine wp_seq ?_
             refine E.seq ?_
             refine E.opv hF (r_move (hF.at 7 rfl)) rfl rfl rfl rfl fun a hF=>?_
             refine E.opv hF (r_move (hF.at 4 rfl)) rfl rfl rfl rfl fun a hF=>?_
             refine E.opv hF (r_move (hF.at 4 rfl)) rfl rfl rfl rfl fun a hF=>?_
             refine E.opv hF (r_build (pair4o (hF.at 2 rfl) (hF.at 1 rfl) ev_c (hF.at 0 rfl)) (bd_OMD_0123 _ _ _ _ _)) rfl rfl rfl rfl fun a hF=>?_
             refine S.callx st hF (r_call Try.func26 en26.1 en26.2 (map1 (hF.at 0 rfl))) (omFixed_any y m true d _) rfl rfl rfl rfl fun w14 a st hF=>?_
             refine E.opv hF (r_move (hF.at 0 rfl)) rfl rfl rfl rfl fun a hF=>?_
             refine E.opv hF (r_extract (v:= .int .i64 (omM y m true d)) (hF.at 0 rfl) rfl) rfl rfl rfl rfl fun a hF=>?_
             refine E.opv hF (r_extract (v:= .int .i64 (omE y m true d)) (hF.at 1 rfl) rfl) rfl rfl rfl rfl fun a hF=>?_
             refine E.opv hF (r_assign (hF.at 1 rfl)) rfl rfl rfl rfl fun a hF=>?_
             refine E.opv hF (r_assign (hF.at 1 rfl)) rfl rfl rfl rfl fun a hF=>?_
             refine E.nil ?_
             refine wp_seq ?_
             refine E.seq ?_
             refine E.opv hF (r_move (hF.at 0 rfl)) rfl rfl rfl rfl fun a hF=>?_
             by_cases hc15:omE y m true d=0
             ·first
              |(exfalso;omega)
              |(refine E.opv hF (r_bin (hF.at 0 rfl) ev_c eg_scalar (bi_int (ic_eql (c:=true) (dec_tt hc15)) (by simp))) rfl rfl rfl rfl fun a hF=>?_
                refine E.nil ?_
                refine wp_cond_true (hF.at 0 rfl) ?_
                refine wp_seq ?_
                refine E.seq ?_
                refine E.opv hF (r_move (hF.at 16 rfl)) rfl rfl rfl rfl fun a hF=>?_
                refine E.opv hF (r_bin (hF.at 0 rfl) ev_c eg_scalar (ia_add (by omega) (by omega))) rfl rfl rfl rfl fun a hF=>?_
                refine E.opset (L':=[(6,.int .i64 (h2+1)),(73,.int .i64 (h2+1)),(72,.int .i64 h2),(71,.bool true),(70,.int .i64 (omE y m true d)),(13,.int .i64 (omE y m true d)),(12,.int .i64 (omM y m true d)),(69,.int .i64 (omE y m true d)),(68,.int .i64 (omM y m true d)),(62,.tuple #[.int .i64 (omM y m true d),.int .i64 (omE y m true d)]),(67,.tuple #[.int .i64 (omM y m true d),.int .i64 (omE y m true d)]),(66,.agg #[.int .i64 y,.int .i64 m,.bool true,.int .i64 d]),(65,.int .i64 d),(64,.int .i64 m),(63,.int .i64 y),(59,.bool true),(58,.int .i64 d),(11,.int .i64 d),(10,.int .i64 m),(5,.int .i64 p),(4,.int .i64 c),(3,.int .i64 y),(2,.bool false)]) hF (r_assign (hF.at 0 rfl)) rfl rfl rfl rfl fun a hF=>?_
                refine E.nil ?_
                refine wp_exit ?_
                refine E.pastb (by decide) ?_
                refine E.past ?_
                refine E.past ?_
                refine E.out (id:=4) ?_
                refine E.blk ?_
                refine E.norm ?_
                refine E.seq ?_
                refine E.opv hF (r_move (hF.at 18 rfl)) rfl rfl rfl rfl fun a hF=>?_
                refine E.opv hF (r_bin (hF.at 0 rfl) ev_c eg_scalar (ia_add (by omega) (by omega))) rfl rfl rfl rfl fun a hF=>?_
                refine E.opset (L':=[(10,.int .i64 (m+1)),(57,.int .i64 (m+1)),(56,.int .i64 m),(6,.int .i64 (h2+1)),(73,.int .i64 (h2+1)),(72,.int .i64 h2),(71,.bool true),(70,.int .i64 (omE y m true d)),(13,.int .i64 (omE y m true d)),(12,.int .i64 (omM y m true d)),(69,.int .i64 (omE y m true d)),(68,.int .i64 (omM y m true d)),(62,.tuple #[.int .i64 (omM y m true d),.int .i64 (omE y m true d)]),(67,.tuple #[.int .i64 (omM y m true d),.int .i64 (omE y m true d)]),(66,.agg #[.int .i64 y,.int .i64 m,.bool true,.int .i64 d]),(65,.int .i64 d),(64,.int .i64 m),(63,.int .i64 y),(59,.bool true),(58,.int .i64 d),(11,.int .i64 d),(5,.int .i64 p),(4,.int .i64 c),(3,.int .i64 y),(2,.bool false)]) hF (r_assign (hF.at 0 rfl)) rfl rfl rfl rfl fun a hF=>?_
                refine E.nil0 ?_
                refine E.norm ?_
                exact⟨(13-(m+1):Int).toNat,by omega,⟨(m+1:Int),(h2+1:Int),(by omega),(by omega),(by omega),(by omega),(fun hy5=>by rw[show 12*y+(m+1-1)=12*y+m by omega];first|(have:=om_found (y:=y) (m:=m) (d:=d) (by omega);omega)|(have:=om_none (y:=y) (m:=m) (by omega) (by omega) hy5 (by omega) (h15 (by omega)) (h16 (by omega));omega)),Fr.pick (L':=[(10,.int .i64 (m+1)),(6,.int .i64 (h2+1)),(5,.int .i64 p),(4,.int .i64 c),(3,.int .i64 y),(2,.bool false)]) hF [0,3,21,22,23,24] rfl,st.pick [] [] rfl rfl (by decide),rfl⟩⟩)
             ·first
              |(exfalso;omega)
              |(refine E.opv hF (r_bin (hF.at 0 rfl) ev_c eg_scalar (bi_int (ic_eql (c:=false) (dec_ff hc15)) (by simp))) rfl rfl rfl rfl fun a hF=>?_
                refine E.nil ?_
                refine wp_cond_false (hF.at 0 rfl) ?_
                refine wp_skip ?_
                refine E.blk ?_
                refine E.norm ?_
                refine E.seq ?_
                refine E.opv hF (r_move (hF.at 14 rfl)) rfl rfl rfl rfl fun a hF=>?_
                refine E.opv hF (r_bin (hF.at 0 rfl) ev_c eg_scalar (ia_add (by omega) (by omega))) rfl rfl rfl rfl fun a hF=>?_
                refine E.opset (L':=[(11,.int .i64 (d+1)),(61,.int .i64 (d+1)),(60,.int .i64 d),(71,.bool false),(70,.int .i64 (omE y m true d)),(13,.int .i64 (omE y m true d)),(12,.int .i64 (omM y m true d)),(69,.int .i64 (omE y m true d)),(68,.int .i64 (omM y m true d)),(62,.tuple #[.int .i64 (omM y m true d),.int .i64 (omE y m true d)]),(67,.tuple #[.int .i64 (omM y m true d),.int .i64 (omE y m true d)]),(66,.agg #[.int .i64 y,.int .i64 m,.bool true,.int .i64 d]),(65,.int .i64 d),(64,.int .i64 m),(63,.int .i64 y),(59,.bool true),(58,.int .i64 d),(10,.int .i64 m),(6,.int .i64 h2),(5,.int .i64 p),(4,.int .i64 c),(3,.int .i64 y),(2,.bool false)]) hF (r_assign (hF.at 0 rfl)) rfl rfl rfl rfl fun a hF=>?_
                refine E.nil0 ?_
                refine E.norm ?_
                exact⟨(18-(d+1):Int).toNat,by omega,⟨(d+1:Int),(h2:Int),(by omega),(by omega),(by omega),(fun hq=>Decidable.byCases (p:=d=15) (fun hz=>by rw[←hz];assumption) (fun hz=>h15 (by omega))),(fun hq=>Decidable.byCases (p:=d=16) (fun hz=>by rw[←hz];assumption) (fun hz=>h16 (by omega))),Fr.pick (L':=[(11,.int .i64 (d+1)),(10,.int .i64 m),(6,.int .i64 h2),(5,.int .i64 p),(4,.int .i64 c),(3,.int .i64 y),(2,.bool false)]) hF [0,17,18,19,20,21,22] rfl,st.pick [] [] rfl rfl (by decide),rfl⟩⟩))
          ·first
           |(exfalso;omega)
           |(refine E.opv hF (r_bin (hF.at 0 rfl) ev_c eg_scalar (bi_int (ic_leq (c:=false) (dec_ff hc13)) (by simp))) rfl rfl rfl rfl fun a hF=>?_
             refine E.nil ?_
             refine wp_cond_false (hF.at 0 rfl) ?_
             refine wp_exit ?_
             refine E.past ?_
             refine E.past ?_
             refine E.out (id:=4) ?_
             refine E.blk ?_
             refine E.norm ?_
             refine E.seq ?_
             refine E.opv hF (r_move (hF.at 3 rfl)) rfl rfl rfl rfl fun a hF=>?_
             refine E.opv hF (r_bin (hF.at 0 rfl) ev_c eg_scalar (ia_add (by omega) (by omega))) rfl rfl rfl rfl fun a hF=>?_
             refine E.opset (L':=[(10,.int .i64 (m+1)),(57,.int .i64 (m+1)),(56,.int .i64 m),(59,.bool false),(58,.int .i64 d),(11,.int .i64 d),(6,.int .i64 h2),(5,.int .i64 p),(4,.int .i64 c),(3,.int .i64 y),(2,.bool false)]) hF (r_assign (hF.at 0 rfl)) rfl rfl rfl rfl fun a hF=>?_
             refine E.nil0 ?_
             refine E.norm ?_
             exact⟨(13-(m+1):Int).toNat,by omega,⟨(m+1:Int),(h2:Int),(by omega),(by omega),(by omega),(by omega),(fun hy5=>by rw[show 12*y+(m+1-1)=12*y+m by omega];first|(have:=om_found (y:=y) (m:=m) (d:=d) (by omega);omega)|(have:=om_none (y:=y) (m:=m) (by omega) (by omega) hy5 (by omega) (h15 (by omega)) (h16 (by omega));omega)),Fr.pick (L':=[(10,.int .i64 (m+1)),(6,.int .i64 h2),(5,.int .i64 p),(4,.int .i64 c),(3,.int .i64 y),(2,.bool false)]) hF [0,6,7,8,9,10] rfl,st.pick [] [] rfl rfl (by decide),rfl⟩⟩))
      ·first
       |(exfalso;omega)
       |(refine E.opv hF (r_bin (hF.at 0 rfl) ev_c eg_scalar (bi_int (ic_leq (c:=false) (dec_ff hc11)) (by simp))) rfl rfl rfl rfl fun a hF=>?_
         refine E.nil ?_
         refine wp_cond_false (hF.at 0 rfl) ?_
         refine wp_exit ?_
         refine E.past ?_
         refine E.past ?_
         refine E.out (id:=2) ?_
         refine E.norm ?_
         refine wp_seq ?_
         refine E.seq ?_
         refine E.opv hF (r_move (hF.at 5 rfl)) rfl rfl rfl rfl fun a hF=>?_
         by_cases hc16:c=12
         ·first
          |(exfalso;omega)
          |(refine E.opv hF (r_bin (hF.at 0 rfl) ev_c eg_scalar (bi_int (ic_eql (c:=true) (dec_tt hc16)) (by simp))) rfl rfl rfl rfl fun a hF=>?_
            refine E.opv hF (r_move (hF.at 0 rfl)) rfl rfl rfl rfl fun a hF=>?_
            refine E.unwanted hF (wanted_by rfl rfl (hF.at 0 rfl) rfl) rfl rfl rfl fun a hF=>?_
            refine E.unwanted hF (wanted_by rfl rfl (hF.at 1 rfl) rfl) rfl rfl rfl fun a hF=>?_
            refine E.opv hF (r_pick_t (hF.at 2 rfl) ev_c) rfl rfl rfl rfl fun a hF=>?_
            refine E.opv hF (r_move (hF.at 0 rfl)) rfl rfl rfl rfl fun a hF=>?_
            refine E.opvg hF (r_move (hF.at 11 rfl)) (wanted_by rfl rfl (hF.at 0 rfl) rfl) rfl rfl rfl fun a hF=>?_
            refine E.opvg hF (r_move (hF.at 13 rfl)) (wanted_by rfl rfl (hF.at 1 rfl) rfl) rfl rfl rfl fun a hF=>?_
            refine E.opvg hF (r_bin (hF.at 0 rfl) ev_c eg_scalar (ia_sub (by omega) (by omega))) (wanted_by rfl rfl (hF.at 2 rfl) rfl) rfl rfl rfl fun a hF=>?_
            by_cases hc17:p=c-12
            ·first
             |(exfalso;omega)
             |(refine E.opvg hF (r_bin (hF.at 2 rfl) (hF.at 0 rfl) eg_scalar (bi_int (ic_eql (c:=true) (dec_tt hc17)) (by simp))) (wanted_by rfl rfl (hF.at 3 rfl) rfl) rfl rfl rfl fun a hF=>?_
               refine E.opv hF (r_pick_t (hF.at 4 rfl) (hF.at 0 rfl)) rfl rfl rfl rfl fun a hF=>?_
               refine E.opv hF (r_move (hF.at 0 rfl)) rfl rfl rfl rfl fun a hF=>?_
               refine E.opvg hF (r_move (hF.at 16 rfl)) (wanted_by rfl rfl (hF.at 0 rfl) rfl) rfl rfl rfl fun a hF=>?_
               refine E.opvg hF (r_move (hF.at 18 rfl)) (wanted_by rfl rfl (hF.at 1 rfl) rfl) rfl rfl rfl fun a hF=>?_
               by_cases hc18:h=p
               ·first
                |(exfalso;omega)
                |(refine E.opvg hF (r_bin (hF.at 1 rfl) (hF.at 0 rfl) eg_scalar (bi_int (ic_eql (c:=true) (dec_tt hc18)) (by simp))) (wanted_by rfl rfl (hF.at 2 rfl) rfl) rfl rfl rfl fun a hF=>?_
                  refine E.opvg hF (r_move (hF.at 0 rfl)) (wanted_by rfl rfl (hF.at 3 rfl) rfl) rfl rfl rfl fun a hF=>?_
                  refine E.unwanted hF (wanted_by rfl rfl (hF.at 0 rfl) rfl) rfl rfl rfl fun a hF=>?_
                  refine E.unwanted hF (wanted_by rfl rfl (hF.at 1 rfl) rfl) rfl rfl rfl fun a hF=>?_
                  refine E.opvg hF (r_pick_t (hF.at 2 rfl) ev_c) (wanted_by rfl rfl (hF.at 6 rfl) rfl) rfl rfl rfl fun a hF=>?_
                  refine E.opv hF (r_pick_t (hF.at 7 rfl) (hF.at 0 rfl)) rfl rfl rfl rfl fun a hF=>?_
                  refine E.opset (L':=[(2,.bool true),(94,.bool true),(93,.bool true),(92,undef),(91,undef),(90,.bool true),(89,.bool true),(88,.int .i64 p),(87,.int .i64 h),(86,.bool true),(85,.bool true),(84,.bool true),(83,.int .i64 (c-12)),(82,.int .i64 c),(81,.int .i64 p),(80,.bool true),(79,.bool true),(78,undef),(77,undef),(76,.bool true),(75,.bool true),(74,.int .i64 c),(55,.bool false),(54,.int .i64 m),(10,.int .i64 m),(6,.int .i64 h),(5,.int .i64 p),(4,.int .i64 c),(3,.int .i64 y)]) hF (r_assign (hF.at 0 rfl)) rfl rfl rfl rfl fun a hF=>?_
                  refine E.nil ?_
                  refine wp_ret ?_
                  have bel:=st.bel
                  refine bodyPost_ret (res_tmp Try.results11 (hF.at 0 rfl)) hF.dfr ?_
                  exact⟨rfl,bel⟩)
               ·first
                |(exfalso;omega)
                |(refine E.opvg hF (r_bin (hF.at 1 rfl) (hF.at 0 rfl) eg_scalar (bi_int (ic_eql (c:=false) (dec_ff hc18)) (by simp))) (wanted_by rfl rfl (hF.at 2 rfl) rfl) rfl rfl rfl fun a hF=>?_
                  refine E.opvg hF (r_move (hF.at 0 rfl)) (wanted_by rfl rfl (hF.at 3 rfl) rfl) rfl rfl rfl fun a hF=>?_
                  refine E.opvg hF (r_move (hF.at 23 rfl)) (wanted_by rfl rfl (hF.at 0 rfl) rfl) rfl rfl rfl fun a hF=>?_
                  by_cases hc19:y<(-5000)
                  ·first
                   |(exfalso;omega)
                   |(refine E.opvg hF (r_bin (hF.at 0 rfl) ev_c eg_scalar (bi_int (ic_lss (c:=true) (dec_tt hc19)) (by simp))) (wanted_by rfl rfl (hF.at 1 rfl) rfl) rfl rfl rfl fun a hF=>?_
                     refine E.opvg hF (r_pick_f (hF.at 2 rfl) (hF.at 0 rfl)) (wanted_by rfl rfl (hF.at 6 rfl) rfl) rfl rfl rfl fun a hF=>?_
                     refine E.opv hF (r_pick_t (hF.at 7 rfl) (hF.at 0 rfl)) rfl rfl rfl rfl fun a hF=>?_
                     refine E.opset (L':=[(2,.bool true),(94,.bool true),(93,.bool true),(92,.bool true),(91,.int .i64 y),(90,.bool false),(89,.bool false),(88,.int .i64 p),(87,.int .i64 h),(86,.bool true),(85,.bool true),(84,.bool true),(83,.int .i64 (c-12)),(82,.int .i64 c),(81,.int .i64 p),(80,.bool true),(79,.bool true),(78,undef),(77,undef),(76,.bool true),(75,.bool true),(74,.int .i64 c),(55,.bool false),(54,.int .i64 m),(10,.int .i64 m),(6,.int .i64 h),(5,.int .i64 p),(4,.int .i64 c),(3,.int .i64 y)]) hF (r_assign (hF.at 0 rfl)) rfl rfl rfl rfl fun a hF=>?_
                     refine E.nil ?_
                     refine wp_ret ?_
                     have bel:=st.bel
                     refine bodyPost_ret (res_tmp Try.results11 (hF.at 0 rfl)) hF.dfr ?_
                     exact⟨rfl,bel⟩)
                  ·first
                   |(exfalso;omega)
                   |(refine E.opvg hF (r_bin (hF.at 0 rfl) ev_c eg_scalar (bi_int (ic_lss (c:=false) (dec_ff hc19)) (by simp))) (wanted_by rfl rfl (hF.at 1 rfl) rfl) rfl rfl rfl fun a hF=>?_
                     refine E.opvg hF (r_pick_f (hF.at 2 rfl) (hF.at 0 rfl)) (wanted_by rfl rfl (hF.at 6 rfl) rfl) rfl rfl rfl fun a hF=>?_
                     refine E.opv hF (r_pick_t (hF.at 7 rfl) (hF.at 0 rfl)) rfl rfl rfl rfl fun a hF=>?_
                     refine E.opset (L':=[(2,.bool false),(94,.bool false),(93,.bool false),(92,.bool false),(91,.int .i64 y),(90,.bool false),(89,.bool false),(88,.int .i64 p),(87,.int .i64 h),(86,.bool true),(85,.bool true),(84,.bool true),(83,.int .i64 (c-12)),(82,.int .i64 c),(81,.int .i64 p),(80,.bool true),(79,.bool true),(78,undef),(77,undef),(76,.bool true),(75,.bool true),(74,.int .i64 c),(55,.bool false),(54,.int .i64 m),(10,.int .i64 m),(6,.int .i64 h),(5,.int .i64 p),(4,.int .i64 c),(3,.int .i64 y)]) hF (r_assign (hF.at 0 rfl)) rfl rfl rfl rfl fun a hF=>?_
                     refine E.nil ?_
                     refine wp_ret ?_
                     have bel:=st.bel
                     refine bodyPost_ret (res_tmp Try.results11 (hF.at 0 rfl)) hF.dfr ?_
                     exfalso;omega)))
            ·first
             |(exfalso;omega)
             |(refine E.opvg hF (r_bin (hF.at 2 rfl) (hF.at 0 rfl) eg_scalar (bi_int (ic_eql (c:=false) (dec_ff hc17)) (by simp))) (wanted_by rfl rfl (hF.at 3 rfl) rfl) rfl rfl rfl fun a hF=>?_
               refine E.opv hF (r_pick_t (hF.at 4 rfl) (hF.at 0 rfl)) rfl rfl rfl rfl fun a hF=>?_
               refine E.opv hF (r_move (hF.at 0 rfl)) rfl rfl rfl rfl fun a hF=>?_
               refine E.unwanted hF (wanted_by rfl rfl (hF.at 0 rfl) rfl) rfl rfl rfl fun a hF=>?_
               refine E.unwanted hF (wanted_by rfl rfl (hF.at 1 rfl) rfl) rfl rfl rfl fun a hF=>?_
               refine E.unwanted hF (wanted_by rfl rfl (hF.at 2 rfl) rfl) rfl rfl rfl fun a hF=>?_
               refine E.unwanted hF (wanted_by rfl rfl (hF.at 3 rfl) rfl) rfl rfl rfl fun a hF=>?_
               refine E.unwanted hF (wanted_undef rfl rfl (hF.at 0 rfl)) rfl rfl rfl fun a hF=>?_
               refine E.unwanted hF (wanted_undef rfl rfl (hF.at 1 rfl)) rfl rfl rfl fun a hF=>?_
               refine E.unwanted hF (wanted_by rfl rfl (hF.at 6 rfl) rfl) rfl rfl rfl fun a hF=>?_
               refine E.opv hF (r_pick_f (hF.at 7 rfl) ev_c) rfl rfl rfl rfl fun a hF=>?_
               refine E.opset (L':=[(2,.bool false),(94,.bool false),(93,undef),(92,undef),(91,undef),(90,undef),(89,undef),(88,undef),(87,undef),(86,.bool false),(85,.bool false),(84,.bool false),(83,.int .i64 (c-12)),(82,.int .i64 c),(81,.int .i64 p),(80,.bool true),(79,.bool true),(78,undef),(77,undef),(76,.bool true),(75,.bool true),(74,.int .i64 c),(55,.bool false),(54,.int .i64 m),(10,.int .i64 m),(6,.int .i64 h),(5,.int .i64 p),(4,.int .i64 c),(3,.int .i64 y)]) hF (r_assign (hF.at 0 rfl)) rfl rfl rfl rfl fun a hF=>?_
               refine E.nil ?_
               refine wp_ret ?_
               have bel:=st.bel
               refine bodyPost_ret (res_tmp Try.results11 (hF.at 0 rfl)) hF.dfr ?_
               exfalso;omega))
         ·first
          |(exfalso;omega)
          |(refine E.opv hF (r_bin (hF.at 0 rfl) ev_c eg_scalar (bi_int (ic_eql (c:=false) (dec_ff hc16)) (by simp))) rfl rfl rfl rfl fun a hF=>?_
            refine E.opv hF (r_move (hF.at 0 rfl)) rfl rfl rfl rfl fun a hF=>?_
            refine E.opvg hF (r_move (hF.at 8 rfl)) (wanted_by rfl rfl (hF.at 0 rfl) rfl) rfl rfl rfl fun a hF=>?_
            by_cases hc20:c=13
            ·first
             |(exfalso;omega)
             |(refine E.opvg hF (r_bin (hF.at 0 rfl) ev_c eg_scalar (bi_int (ic_eql (c:=true) (dec_tt hc20)) (by simp))) (wanted_by rfl rfl (hF.at 1 rfl) rfl) rfl rfl rfl fun a hF=>?_
               refine E.opv hF (r_pick_f (hF.at 2 rfl) (hF.at 0 rfl)) rfl rfl rfl rfl fun a hF=>?_
               refine E.opv hF (r_move (hF.at 0 rfl)) rfl rfl rfl rfl fun a hF=>?_
               refine E.opvg hF (r_move (hF.at 11 rfl)) (wanted_by rfl rfl (hF.at 0 rfl) rfl) rfl rfl rfl fun a hF=>?_
               refine E.opvg hF (r_move (hF.at 13 rfl)) (wanted_by rfl rfl (hF.at 1 rfl) rfl) rfl rfl rfl fun a hF=>?_
               refine E.opvg hF (r_bin (hF.at 0 rfl) ev_c eg_scalar (ia_sub (by omega) (by omega))) (wanted_by rfl rfl (hF.at 2 rfl) rfl) rfl rfl rfl fun a hF=>?_
               by_cases hc21:p=c-12
               ·first
                |(exfalso;omega)
                |(refine E.opvg hF (r_bin (hF.at 2 rfl) (hF.at 0 rfl) eg_scalar (bi_int (ic_eql (c:=true) (dec_tt hc21)) (by simp))) (wanted_by rfl rfl (hF.at 3 rfl) rfl) rfl rfl rfl fun a hF=>?_
                  refine E.opv hF (r_pick_t (hF.at 4 rfl) (hF.at 0 rfl)) rfl rfl rfl rfl fun a hF=>?_
                  refine E.opv hF (r_move (hF.at 0 rfl)) rfl rfl rfl rfl fun a hF=>?_
                  refine E.opvg hF (r_move (hF.at 16 rfl)) (wanted_by rfl rfl (hF.at 0 rfl) rfl) rfl rfl rfl fun a hF=>?_
                  refine E.opvg hF (r_move (hF.at 18 rfl)) (wanted_by rfl rfl (hF.at 1 rfl) rfl) rfl rfl rfl fun a hF=>?_
                  by_cases hc22:h=p
                  ·first
                   |(exfalso;omega)
                   |(refine E.opvg hF (r_bin (hF.at 1 rfl) (hF.at 0 rfl) eg_scalar (bi_int (ic_eql (c:=true) (dec_tt hc22)) (by simp))) (wanted_by rfl rfl (hF.at 2 rfl) rfl) rfl rfl rfl fun a hF=>?_
                     refine E.opvg hF (r_move (hF.at 0 rfl)) (wanted_by rfl rfl (hF.at 3 rfl) rfl) rfl rfl rfl fun a hF=>?_
                     refine E.unwanted hF (wanted_by rfl rfl (hF.at 0 rfl) rfl) rfl rfl rfl fun a hF=>?_
                     refine E.unwanted hF (wanted_by rfl rfl (hF.at 1 rfl) rfl) rfl rfl rfl fun a hF=>?_
                     refine E.opvg hF (r_pick_t (hF.at 2 rfl) ev_c) (wanted_by rfl rfl (hF.at 6 rfl) rfl) rfl rfl rfl fun a hF=>?_
                     refine E.opv hF (r_pick_t (hF.at 7 rfl) (hF.at 0 rfl)) rfl rfl rfl rfl fun a hF=>?_
                     refine E.opset (L':=[(2,.bool true),(94,.bool true),(93,.bool true),(92,undef),(91,undef),(90,.bool true),(89,.bool true),(88,.int .i64 p),(87,.int .i64 h),(86,.bool true),(85,.bool true),(84,.bool true),(83,.int .i64 (c-12)),(82,.int .i64 c),(81,.int .i64 p),(80,.bool true),(79,.bool true),(78,.bool true),(77,.int .i64 c),(76,.bool false),(75,.bool false),(74,.int .i64 c),(55,.bool false),(54,.int .i64 m),(10,.int .i64 m),(6,.int .i64 h),(5,.int .i64 p),(4,.int .i64 c),(3,.int .i64 y)]) hF (r_assign (hF.at 0 rfl)) rfl rfl rfl rfl fun a hF=>?_
                     refine E.nil ?_
                     refine wp_ret ?_
                     have bel:=st.bel
                     refine bodyPost_ret (res_tmp Try.results11 (hF.at 0 rfl)) hF.dfr ?_
                     exact⟨rfl,bel⟩)
                  ·first
                   |(exfalso;omega)
                   |(refine E.opvg hF (r_bin (hF.at 1 rfl) (hF.at 0 rfl) eg_scalar (bi_int (ic_eql (c:=false) (dec_ff hc22)) (by simp))) (wanted_by rfl rfl (hF.at 2 rfl) rfl) rfl rfl rfl fun a hF=>?_
                     refine E.opvg hF (r_move (hF.at 0 rfl)) (wanted_by rfl rfl (hF.at 3 rfl) rfl) rfl rfl rfl fun a hF=>?_
                     refine E.opvg hF (r_move (hF.at 23 rfl)) (wanted_by rfl rfl (hF.at 0 rfl) rfl) rfl rfl rfl fun a hF=>?_
                     by_cases hc23:y<(-5000)
                     ·first
                      |(exfalso;omega)
                      |(refine E.opvg hF (r_bin (hF.at 0 rfl) ev_c eg_scalar (bi_int (ic_lss (c:=true) (dec_tt hc23)) (by simp))) (wanted_by rfl rfl (hF.at 1 rfl) rfl) rfl rfl rfl fun a hF=>?_
                        refine E.opvg hF (r_pick_f (hF.at 2 rfl) (hF.at 0 rfl)) (wanted_by rfl rfl (hF.at 6 rfl) rfl) rfl rfl rfl fun a hF=>?_
                        refine E.opv hF (r_pick_t (hF.at 7 rfl) (hF.at 0 rfl)) rfl rfl rfl rfl fun a hF=>?_
                        refine E.opset (L':=[(2,.bool true),(94,.bool true),(93,.bool true),(92,.bool true),(91,.int .i64 y),(90,.bool false),(89,.bool false),(88,.int .i64 p),(87,.int .i64 h),(86,.bool true),(85,.bool true),(84,.bool true),(83,.int .i64 (c-12)),(82,.int .i64 c),(81,.int .i64 p),(80,.bool true),(79,.bool true),(78,.bool true),(77,.int .i64 c),(76,.bool false),(75,.bool false),(74,.int .i64 c),(55,.bool false),(54,.int .i64 m),(10,.int .i64 m),(6,.int .i64 h),(5,.int .i64 p),(4,.int .i64 c),(3,.int .i64 y)]) hF (r_assign (hF.at 0 rfl)) rfl rfl rfl rfl fun a hF=>?_
                        refine E.nil ?_
                        refine wp_ret ?_
                        have bel:=st.bel
                        refine bodyPost_ret (res_tmp Try.results11 (hF.at 0 rfl)) hF.dfr ?_
                        exact⟨rfl,bel⟩)
                     ·first
                      |(exfalso;omega)
                      |(refine E.opvg hF (r_bin (hF.at 0 rfl) ev_c eg_scalar (bi_int (ic_lss (c:=false) (dec_ff hc23)) (by simp))) (wanted_by rfl rfl (hF.at 1 rfl) rfl) rfl rfl rfl fun a hF=>?_
                        refine E.opvg hF (r_pick_f (hF.at 2 rfl) (hF.at 0 rfl)) (wanted_by rfl rfl (hF.at 6 rfl) rfl) rfl rfl rfl fun a hF=>?_
                        refine E.opv hF (r_pick_t (hF.at 7 rfl) (hF.at 0 rfl)) rfl rfl rfl rfl fun a hF=>?_
                        refine E.opset (L':=[(2,.bool false),(94,.bool false),(93,.bool false),(92,.bool false),(91,.int .i64 y),(90,.bool false),(89,.bool false),(88,.int .i64 p),(87,.int .i64 h),(86,.bool true),(85,.bool true),(84,.bool true),(83,.int .i64 (c-12)),(82,.int .i64 c),(81,.int .i64 p),(80,.bool true),(79,.bool true),(78,.bool true),(77,.int .i64 c),(76,.bool false),(75,.bool false),(74,.int .i64 c),(55,.bool false),(54,.int .i64 m),(10,.int .i64 m),(6,.int .i64 h),(5,.int .i64 p),(4,.int .i64 c),(3,.int .i64 y)]) hF (r_assign (hF.at 0 rfl)) rfl rfl rfl rfl fun a hF=>?_
                        refine E.nil ?_
                        refine wp_ret ?_
                        have bel:=st.bel
                        refine bodyPost_ret (res_tmp Try.results11 (hF.at 0 rfl)) hF.dfr ?_
                        exfalso;omega)))
               ·first
                |(exfalso;omega)
                |(refine E.opvg hF (r_bin (hF.at 2 rfl) (hF.at 0 rfl) eg_scalar (bi_int (ic_eql (c:=false) (dec_ff hc21)) (by simp))) (wanted_by rfl rfl (hF.at 3 rfl) rfl) rfl rfl rfl fun a hF=>?_
                  refine E.opv hF (r_pick_t (hF.at 4 rfl) (hF.at 0 rfl)) rfl rfl rfl rfl fun a hF=>?_
                  refine E.opv hF (r_move (hF.at 0 rfl)) rfl rfl rfl rfl fun a hF=>?_
                  refine E.unwanted hF (wanted_by rfl rfl (hF.at 0 rfl) rfl) rfl rfl rfl fun a hF=>?_
                  refine E.unwanted hF (wanted_by rfl rfl (hF.at 1 rfl) rfl) rfl rfl rfl fun a hF=>?_
                  refine E.unwanted hF (wanted_by rfl rfl (hF.at 2 rfl) rfl) rfl rfl rfl fun a hF=>?_
                  refine E.unwanted hF (wanted_by rfl rfl (hF.at 3 rfl) rfl) rfl rfl rfl fun a hF=>?_
                  refine E.unwanted hF (wanted_undef rfl rfl (hF.at 0 rfl)) rfl rfl rfl fun a hF=>?_
                  refine E.unwanted hF (wanted_undef rfl rfl (hF.at 1 rfl)) rfl rfl rfl fun a hF=>?_
                  refine E.unwanted hF (wanted_by rfl rfl (hF.at 6 rfl) rfl) rfl rfl rfl fun a hF=>?_
                  refine E.opv hF (r_pick_f (hF.at 7 rfl) ev_c) rfl rfl rfl rfl fun a hF=>?_
                  refine E.opset (L':=[(2,.bool false),(94,.bool false),(93,undef),(92,undef),(91,undef),(90,undef),(89,undef),(88,undef),(87,undef),(86,.bool false),(85,.bool false),(84,.bool false),(83,.int .i64 (c-12)),(82,.int .i64 c),(81,.int .i64 p),(80,.bool true),(79,.bool true),(78,.bool true),(77,.int .i64 c),(76,.bool false),(75,.bool false),(74,.int .i64 c),(55,.bool false),(54,.int .i64 m),(10,.int .i64 m),(6,.int .i64 h),(5,.int .i64 p),(4,.int .i64 c),(3,.int .i64 y)]) hF (r_assign (hF.at 0 rfl)) rfl rfl rfl rfl fun a hF=>?_
                  refine E.nil ?_
                  refine wp_ret ?_
                  have bel:=st.bel
                  refine bodyPost_ret (res_tmp Try.results11 (hF.at 0 rfl)) hF.dfr ?_
                  exfalso;omega))
            ·first
             |(exfalso;omega)
             |(refine E.opvg hF (r_bin (hF.at 0 rfl) ev_c eg_scalar (bi_int (ic_eql (c:=false) (dec_ff hc20)) (by simp))) (wanted_by rfl rfl (hF.at 1 rfl) rfl) rfl rfl rfl fun a hF=>?_
               refine E.opv hF (r_pick_f (hF.at 2 rfl) (hF.at 0 rfl)) rfl rfl rfl rfl fun a hF=>?_
               refine E.opv hF (r_move (hF.at 0 rfl)) rfl rfl rfl rfl fun a hF=>?_
               refine E.unwanted hF (wanted_by rfl rfl (hF.at 0 rfl) rfl) rfl rfl rfl fun a hF=>?_
               refine E.unwanted hF (wanted_by rfl rfl (hF.at 1 rfl) rfl) rfl rfl rfl fun a hF=>?_
               refine E.unwanted hF (wanted_by rfl rfl (hF.at 2 rfl) rfl) rfl rfl rfl fun a hF=>?_
               refine E.unwanted hF (wanted_by rfl rfl (hF.at 3 rfl) rfl) rfl rfl rfl fun a hF=>?_
               refine E.opv hF (r_pick_f (hF.at 4 rfl) ev_c) rfl rfl rfl rfl fun a hF=>?_
               refine E.opv hF (r_move (hF.at 0 rfl)) rfl rfl rfl rfl fun a hF=>?_
               refine E.unwanted hF (wanted_by rfl rfl (hF.at 0 rfl) rfl) rfl rfl rfl fun a hF=>?_
               refine E.unwanted hF (wanted_by rfl rfl (hF.at 1 rfl) rfl) rfl rfl rfl fun a hF=>?_
               refine E.unwanted hF (wanted_by rfl rfl (hF.at 2 rfl) rfl) rfl rfl rfl fun a hF=>?_
               refine E.unwanted hF (wanted_by rfl rfl (hF.at 3 rfl) rfl) rfl rfl rfl fun a hF=>?_
               refine E.unwanted hF (wanted_undef rfl rfl (hF.at 0 rfl)) rfl rfl rfl fun a hF=>?_
               refine E.unwanted hF (wanted_undef rfl rfl (hF.at 1 rfl)) rfl rfl rfl fun a hF=>?_
               refine E.unwanted hF (wanted_by rfl rfl (hF.at 6 rfl) rfl) rfl rfl rfl fun a hF=>?_
               refine E.opv hF (r_pick_f (hF.at 7 rfl) ev_c) rfl rfl rfl rfl fun a hF=>?_
               refine E.opset (L':=[(2,.bool false),(94,.bool false),(93,undef),(92,undef),(91,undef),(90,undef),(89,undef),(88,undef),(87,undef),(86,.bool false),(85,.bool false),(84,undef),(83,undef),(82,undef),(81,undef),(80,.bool false),(79,.bool false),(78,.bool false),(77,.int .i64 c),(76,.bool false),(75,.bool false),(74,.int .i64 c),(55,.bool false),(54,.int .i64 m),(10,.int .i64 m),(6,.int .i64 h),(5,.int .i64 p),(4,.int .i64 c),(3,.int .i64 y)]) hF (r_assign (hF.at 0 rfl)) rfl rfl rfl rfl fun a hF=>?_
               refine E.nil ?_
               refine wp_ret ?_
               have bel:=st.bel
               refine bodyPost_ret (res_tmp Try.results11 (hF.at 0 rfl)) hF.dfr ?_
               exfalso;omega))))
end Go.Proofs.Ytacnedknihlfnaa
