import Derived.Test.YtpkhdajnppoinaaGreatKC33
import Derived.Test.YtpkhdajnppoinaaGreatKC36
namespace Go.Proofs.YtpkhdajnppoinaaGreat
open Go.RowKit
set_option maxRecDepth 100000
set_option linter.unusedVariables false
set_option maxHeartbeats 8000000
def anE (xs:List Nat):Int:=if ce xs≠0 then ce xs else if fit64 (cz xs).num =false then 2 else if fit64 (((cz xs).den :Nat):Int)=false∨3600<(((cz xs).den :Nat):Int) then 2 else 0
def anA (xs:List Nat):Int:=if anE xs=0 then(cz xs).num else 0
def anB (xs:List Nat):Int:=if anE xs=0 then(((cz xs).den :Nat):Int) else 0
theorem sm_fit {z:Int} (h:fit64 z=true):sm64 z=z:=by unfold sm64;rw[h];rfl
theorem fitf {z:Int} (h:¬fit64 z=true):fit64 z=false:=by simpa using h
theorem an_1 {xs:List Nat} (h:ce xs≠0):anE xs=ce xs∧anA xs=0∧anB xs=0:=by
 have e:anE xs=ce xs:=by unfold anE;rw[if_pos h]
 exact⟨e,by unfold anA;rw[if_neg (by rw[e];exact h)],by unfold anB;rw[if_neg (by rw[e];exact h)]⟩
theorem an_2 {xs:List Nat} (h:¬ce xs≠0) (k:fit64 (cz xs).num =false):anE xs=2∧anA xs=0∧anB xs=0:=by
 have e:anE xs=2:=by unfold anE;rw[if_neg h,if_pos k]
 exact⟨e,by unfold anA;rw[if_neg (by rw[e];decide)],by unfold anB;rw[if_neg (by rw[e];decide)]⟩
theorem an_3 {xs:List Nat} (h:¬ce xs≠0) (k:fit64 (cz xs).num =true) (l:fit64 (((cz xs).den :Nat):Int)=false∨3600<(((cz xs).den :Nat):Int)):anE xs=2∧anA xs=0∧anB xs=0:=by
 have e:anE xs=2:=by unfold anE;rw[if_neg h,if_neg (by rw[k];decide),if_pos l]
 exact⟨e,by unfold anA;rw[if_neg (by rw[e];decide)],by unfold anB;rw[if_neg (by rw[e];decide)]⟩
theorem an_4 {xs:List Nat} (h:¬ce xs≠0) (k:fit64 (cz xs).num =true) (l:fit64 (((cz xs).den :Nat):Int)=true) (m:¬3600<(((cz xs).den :Nat):Int)):anE xs=0∧anA xs=(cz xs).num ∧anB xs=(((cz xs).den :Nat):Int):=by
 have e:anE xs=0:=by unfold anE;rw[if_neg h,if_neg (by rw[k];decide),if_neg (by rw[l];rintro(q|q);cases q;exact m q)]
 exact⟨e,by unfold anA;rw[if_pos e],by unfold anB;rw[if_pos e]⟩
theorem an_bd (xs:List Nat): -9223372036854775808≤anA xs∧anA xs≤9223372036854775807∧0≤anB xs∧anB xs≤3600:=by
 by_cases h:ce xs≠0
 ·have:=an_1 h;omega
 ·by_cases k:fit64 (cz xs).num =true
  ·by_cases l:fit64 (((cz xs).den :Nat):Int)=true
   ·by_cases m:3600<(((cz xs).den :Nat):Int)
    ·have:=an_3 h k (.inr m);omega
    ·have:=an_4 h k l m
     have:=of_decide_eq_true k
     omega
   ·have:=an_3 h k (.inl (fitf l));omega
  ·have:=an_2 h (fitf k);omega
def ppE (xs:List Nat):Int:=if has44 xs=false then 1 else if anE (hd44 xs)≠0 then anE (hd44 xs) else if anE (tl44 xs)≠0 then anE (tl44 xs) else plE (anA (hd44 xs)) (anB (hd44 xs)) (anA (tl44 xs)) (anB (tl44 xs))
def ppI (xs:List Nat) (z:Int):Int:=if ppE xs=0 then z else 0
def ppV (xs:List Nat):Value:= .agg #[.int .i64 (ppI xs (anA (hd44 xs))),.int .i64 (ppI xs (anB (hd44 xs))),.int .i64 (ppI xs (anA (tl44 xs))),.int .i64 (ppI xs (anB (tl44 xs)))]
theorem ppV_no {xs:List Nat} (h:ppE xs≠0):ppV xs= .agg #[.int .i64 0,.int .i64 0,.int .i64 0,.int .i64 0]:=by unfold ppV ppI;rw[if_neg h,if_neg h,if_neg h,if_neg h]
theorem ppV_yes {xs:List Nat} (h:ppE xs=0):ppV xs= .agg #[.int .i64 (anA (hd44 xs)),.int .i64 (anB (hd44 xs)),.int .i64 (anA (tl44 xs)),.int .i64 (anB (tl44 xs))]:=by unfold ppV ppI;rw[if_pos h,if_pos h,if_pos h,if_pos h]
theorem hast44 {xs:List Nat} (h:has44 xs=true):¬has44 xs=false:=by rw[h];decide
theorem hasf44 {xs:List Nat} (h:¬has44 xs=true):has44 xs=false:=by simpa using h
theorem pp_1 {xs:List Nat} (h:has44 xs=false):ppE xs=1:=by unfold ppE;rw[if_pos h]
theorem pp_2 {xs:List Nat} (h:¬has44 xs=false) (k:anE (hd44 xs)≠0):ppE xs=anE (hd44 xs):=by unfold ppE;rw[if_neg h,if_pos k]
theorem pp_3 {xs:List Nat} (h:¬has44 xs=false) (k:¬anE (hd44 xs)≠0) (l:anE (tl44 xs)≠0):ppE xs=anE (tl44 xs):=by unfold ppE;rw[if_neg h,if_neg k,if_pos l]
theorem pp_4 {xs:List Nat} (h:¬has44 xs=false) (k:¬anE (hd44 xs)≠0) (l:¬anE (tl44 xs)≠0):ppE xs=plE (anA (hd44 xs)) (anB (hd44 xs)) (anA (tl44 xs)) (anB (tl44 xs)):=by unfold ppE;rw[if_neg h,if_neg k,if_neg l]
theorem rv_pp {v u:Value} {a b:Int} (h:v=u) (k:a=b):Ending.returned (.tuple #[v,.int .i64 a])= .returned (.tuple #[u,.int .i64 b]):=by rw[h,k]
theorem rv_in3p {a b c a' b' c':Int} (h:a=a') (k:b=b') (l:c=c'):Ending.returned (.tuple #[.int .i64 a,.int .i64 b,.int .i64 c])= .returned (.tuple #[.int .i64 a',.int .i64 b',.int .i64 c']):=by rw[h,k,l]
theorem en26:(Tryz.f26.name == "runtime.NumGoroutine")=false∧Tryz.f26.body.isNone=false:=⟨by decide+kernel,by kernel_rfl⟩
theorem en8:(Tryz.f8.name == "runtime.NumGoroutine")=false∧Tryz.f8.body.isNone=false:=⟨by decide+kernel,by kernel_rfl⟩
theorem en20:(Tryz.f20.name == "runtime.NumGoroutine")=false∧Tryz.f20.body.isNone=false:=⟨by decide+kernel,by kernel_rfl⟩
theorem en6:(Tryz.f6.name == "runtime.NumGoroutine")=false∧Tryz.f6.body.isNone=false:=⟨by decide+kernel,by kernel_rfl⟩
theorem en17:(Tryz.f17.name == "runtime.NumGoroutine")=false∧Tryz.f17.body.isNone=false:=⟨by decide+kernel,by kernel_rfl⟩
theorem within60_any (n d:Int) (w:World):
 Calls Tryz.prog 26 #[.int .i64 n,.int .i64 d,.int .i64 60] w (ValPost w (.bool (wiB 60 n d))):=by
 have st:=St.start w
 refine E.enter (nt:=28) (L:=[(0,.int .i64 n),(1,.int .i64 d),(2,.int .i64 60)]) Tryz.func26 rfl rfl rfl (args_cons (i:=0) rfl (args_cons (i:=1) rfl (args_cons (i:=2) rfl args_nil))) ?_
 intro a hF
 refine wp_seq ?_
 refine E.seq ?_
 refine E.opv hF (r_assign ev_c) rfl rfl rfl rfl fun a hF=>?_
 refine E.nil ?_
 refine wp_seq ?_
 refine E.seq ?_
 refine E.opv hF (r_move (hF.at 2 rfl)) rfl rfl rfl rfl fun a hF=>?_
 by_cases hc1:1≤d
 ·refine E.opv hF (r_bin ev_c (hF.at 0 rfl) eg_scalar (bi_int (ic_leq (c:=true) (dec_tt hc1)) (by simp))) rfl rfl rfl rfl fun a hF=>?_
  refine E.opv hF (r_move (hF.at 0 rfl)) rfl rfl rfl rfl fun a hF=>?_
  refine E.opvg hF (r_move (hF.at 5 rfl)) (wanted_by rfl rfl (hF.at 0 rfl) rfl) rfl rfl rfl fun a hF=>?_
  by_cases hc2:d≤3600
  ·refine E.opvg hF (r_bin (hF.at 0 rfl) ev_c eg_scalar (bi_int (ic_leq (c:=true) (dec_tt hc2)) (by simp))) (wanted_by rfl rfl (hF.at 1 rfl) rfl) rfl rfl rfl fun a hF=>?_
   refine E.opv hF (r_pick_t (hF.at 2 rfl) (hF.at 0 rfl)) rfl rfl rfl rfl fun a hF=>?_
   refine E.opv hF (r_move (hF.at 0 rfl)) rfl rfl rfl rfl fun a hF=>?_
   refine E.opvg hF (r_move (hF.at 10 rfl)) (wanted_by rfl rfl (hF.at 0 rfl) rfl) rfl rfl rfl fun a hF=>?_
   refine E.opvg hF (r_un (hF.at 0 rfl) (bn_neg (by omega) (by omega))) (wanted_by rfl rfl (hF.at 1 rfl) rfl) rfl rfl rfl fun a hF=>?_
   refine E.opvg hF (r_move (hF.at 11 rfl)) (wanted_by rfl rfl (hF.at 2 rfl) rfl) rfl rfl rfl fun a hF=>?_
   refine E.opvg hF (r_bin (hF.at 1 rfl) (hF.at 0 rfl) eg_scalar (ia_mul (by omega) (by omega))) (wanted_by rfl rfl (hF.at 3 rfl) rfl) rfl rfl rfl fun a hF=>?_
   refine E.opvg hF (r_move (hF.at 12 rfl)) (wanted_by rfl rfl (hF.at 4 rfl) rfl) rfl rfl rfl fun a hF=>?_
   by_cases hc3:(-60)*d≤n
   ·refine E.opvg hF (r_bin (hF.at 1 rfl) (hF.at 0 rfl) eg_scalar (bi_int (ic_leq (c:=true) (dec_tt hc3)) (by simp))) (wanted_by rfl rfl (hF.at 5 rfl) rfl) rfl rfl rfl fun a hF=>?_
    refine E.opv hF (r_pick_t (hF.at 6 rfl) (hF.at 0 rfl)) rfl rfl rfl rfl fun a hF=>?_
    refine E.opv hF (r_move (hF.at 0 rfl)) rfl rfl rfl rfl fun a hF=>?_
    refine E.opvg hF (r_move (hF.at 16 rfl)) (wanted_by rfl rfl (hF.at 0 rfl) rfl) rfl rfl rfl fun a hF=>?_
    refine E.opvg hF (r_move (hF.at 19 rfl)) (wanted_by rfl rfl (hF.at 1 rfl) rfl) rfl rfl rfl fun a hF=>?_
    refine E.opvg hF (r_move (hF.at 19 rfl)) (wanted_by rfl rfl (hF.at 2 rfl) rfl) rfl rfl rfl fun a hF=>?_
    refine E.opvg hF (r_bin (hF.at 1 rfl) (hF.at 0 rfl) eg_scalar (ia_mul (by omega) (by omega))) (wanted_by rfl rfl (hF.at 3 rfl) rfl) rfl rfl rfl fun a hF=>?_
    by_cases hc4:n≤60*d
    ·refine E.opvg hF (r_bin (hF.at 3 rfl) (hF.at 0 rfl) eg_scalar (bi_int (ic_leq (c:=true) (dec_tt hc4)) (by simp))) (wanted_by rfl rfl (hF.at 4 rfl) rfl) rfl rfl rfl fun a hF=>?_
     refine E.opv hF (r_pick_t (hF.at 5 rfl) (hF.at 0 rfl)) rfl rfl rfl rfl fun a hF=>?_
     refine E.opset (L':=[(6,.bool true),(27,.bool true),(26,.bool true),(25,.int .i64 (60*d)),(24,.int .i64 d),(23,.int .i64 60),(22,.int .i64 n),(21,.bool true),(20,.bool true),(19,.bool true),(18,.int .i64 n),(17,.int .i64 ((-60)*d)),(16,.int .i64 d),(15,.int .i64 (-60)),(14,.int .i64 60),(13,.bool true),(12,.bool true),(11,.bool true),(10,.int .i64 d),(9,.bool true),(8,.bool true),(7,.int .i64 d),(0,.int .i64 n),(1,.int .i64 d),(2,.int .i64 60)]) hF (r_assign (hF.at 0 rfl)) rfl rfl rfl rfl fun a hF=>?_
     refine E.nil ?_
     refine wp_ret ?_
     have bel:=st.bel
     refine bodyPost_ret (res_tmp Tryz.results26 (hF.at 0 rfl)) hF.dfr ?_
     refine⟨rv_bool ?_,bel⟩
     unfold wiB
     first|exact(decide_eq_true (by omega)).symm |exact(decide_eq_false (by omega)).symm |exact decide_eq_decide.2 (by omega)
    ·refine E.opvg hF (r_bin (hF.at 3 rfl) (hF.at 0 rfl) eg_scalar (bi_int (ic_leq (c:=false) (dec_ff hc4)) (by simp))) (wanted_by rfl rfl (hF.at 4 rfl) rfl) rfl rfl rfl fun a hF=>?_
     refine E.opv hF (r_pick_t (hF.at 5 rfl) (hF.at 0 rfl)) rfl rfl rfl rfl fun a hF=>?_
     refine E.opset (L':=[(6,.bool false),(27,.bool false),(26,.bool false),(25,.int .i64 (60*d)),(24,.int .i64 d),(23,.int .i64 60),(22,.int .i64 n),(21,.bool true),(20,.bool true),(19,.bool true),(18,.int .i64 n),(17,.int .i64 ((-60)*d)),(16,.int .i64 d),(15,.int .i64 (-60)),(14,.int .i64 60),(13,.bool true),(12,.bool true),(11,.bool true),(10,.int .i64 d),(9,.bool true),(8,.bool true),(7,.int .i64 d),(0,.int .i64 n),(1,.int .i64 d),(2,.int .i64 60)]) hF (r_assign (hF.at 0 rfl)) rfl rfl rfl rfl fun a hF=>?_
     refine E.nil ?_
     refine wp_ret ?_
     have bel:=st.bel
     refine bodyPost_ret (res_tmp Tryz.results26 (hF.at 0 rfl)) hF.dfr ?_
     refine⟨rv_bool ?_,bel⟩
     unfold wiB
     first|exact(decide_eq_true (by omega)).symm |exact(decide_eq_false (by omega)).symm |exact decide_eq_decide.2 (by omega)
   ·refine E.opvg hF (r_bin (hF.at 1 rfl) (hF.at 0 rfl) eg_scalar (bi_int (ic_leq (c:=false) (dec_ff hc3)) (by simp))) (wanted_by rfl rfl (hF.at 5 rfl) rfl) rfl rfl rfl fun a hF=>?_
    refine E.opv hF (r_pick_t (hF.at 6 rfl) (hF.at 0 rfl)) rfl rfl rfl rfl fun a hF=>?_
    refine E.opv hF (r_move (hF.at 0 rfl)) rfl rfl rfl rfl fun a hF=>?_
    refine E.unwanted hF (wanted_by rfl rfl (hF.at 0 rfl) rfl) rfl rfl rfl fun a hF=>?_
    refine E.unwanted hF (wanted_by rfl rfl (hF.at 1 rfl) rfl) rfl rfl rfl fun a hF=>?_
    refine E.unwanted hF (wanted_by rfl rfl (hF.at 2 rfl) rfl) rfl rfl rfl fun a hF=>?_
    refine E.unwanted hF (wanted_by rfl rfl (hF.at 3 rfl) rfl) rfl rfl rfl fun a hF=>?_
    refine E.unwanted hF (wanted_by rfl rfl (hF.at 4 rfl) rfl) rfl rfl rfl fun a hF=>?_
    refine E.opv hF (r_pick_f (hF.at 5 rfl) ev_c) rfl rfl rfl rfl fun a hF=>?_
    refine E.opset (L':=[(6,.bool false),(27,.bool false),(26,undef),(25,undef),(24,undef),(23,undef),(22,undef),(21,.bool false),(20,.bool false),(19,.bool false),(18,.int .i64 n),(17,.int .i64 ((-60)*d)),(16,.int .i64 d),(15,.int .i64 (-60)),(14,.int .i64 60),(13,.bool true),(12,.bool true),(11,.bool true),(10,.int .i64 d),(9,.bool true),(8,.bool true),(7,.int .i64 d),(0,.int .i64 n),(1,.int .i64 d),(2,.int .i64 60)]) hF (r_assign (hF.at 0 rfl)) rfl rfl rfl rfl fun a hF=>?_
    refine E.nil ?_
    refine wp_ret ?_
    have bel:=st.bel
    refine bodyPost_ret (res_tmp Tryz.results26 (hF.at 0 rfl)) hF.dfr ?_
    refine⟨rv_bool ?_,bel⟩
    unfold wiB
    first|exact(decide_eq_true (by omega)).symm |exact(decide_eq_false (by omega)).symm |exact decide_eq_decide.2 (by omega)
  ·refine E.opvg hF (r_bin (hF.at 0 rfl) ev_c eg_scalar (bi_int (ic_leq (c:=false) (dec_ff hc2)) (by simp))) (wanted_by rfl rfl (hF.at 1 rfl) rfl) rfl rfl rfl fun a hF=>?_
   refine E.opv hF (r_pick_t (hF.at 2 rfl) (hF.at 0 rfl)) rfl rfl rfl rfl fun a hF=>?_
   refine E.opv hF (r_move (hF.at 0 rfl)) rfl rfl rfl rfl fun a hF=>?_
   refine E.unwanted hF (wanted_by rfl rfl (hF.at 0 rfl) rfl) rfl rfl rfl fun a hF=>?_
   refine E.unwanted hF (wanted_by rfl rfl (hF.at 1 rfl) rfl) rfl rfl rfl fun a hF=>?_
   refine E.unwanted hF (wanted_by rfl rfl (hF.at 2 rfl) rfl) rfl rfl rfl fun a hF=>?_
   refine E.unwanted hF (wanted_by rfl rfl (hF.at 3 rfl) rfl) rfl rfl rfl fun a hF=>?_
   refine E.unwanted hF (wanted_by rfl rfl (hF.at 4 rfl) rfl) rfl rfl rfl fun a hF=>?_
   refine E.unwanted hF (wanted_by rfl rfl (hF.at 5 rfl) rfl) rfl rfl rfl fun a hF=>?_
   refine E.opv hF (r_pick_f (hF.at 6 rfl) ev_c) rfl rfl rfl rfl fun a hF=>?_
   refine E.opv hF (r_move (hF.at 0 rfl)) rfl rfl rfl rfl fun a hF=>?_
   refine E.unwanted hF (wanted_by rfl rfl (hF.at 0 rfl) rfl) rfl rfl rfl fun a hF=>?_
   refine E.unwanted hF (wanted_by rfl rfl (hF.at 1 rfl) rfl) rfl rfl rfl fun a hF=>?_
   refine E.unwanted hF (wanted_by rfl rfl (hF.at 2 rfl) rfl) rfl rfl rfl fun a hF=>?_
   refine E.unwanted hF (wanted_by rfl rfl (hF.at 3 rfl) rfl) rfl rfl rfl fun a hF=>?_
   refine E.unwanted hF (wanted_by rfl rfl (hF.at 4 rfl) rfl) rfl rfl rfl fun a hF=>?_
   refine E.opv hF (r_pick_f (hF.at 5 rfl) ev_c) rfl rfl rfl rfl fun a hF=>?_
   refine E.opset (L':=[(6,.bool false),(27,.bool false),(26,undef),(25,undef),(24,undef),(23,undef),(22,undef),(21,.bool false),(20,.bool false),(19,undef),(18,undef),(17,undef),(16,undef),(15,undef),(14,undef),(13,.bool false),(12,.bool false),(11,.bool false),(10,.int .i64 d),(9,.bool true),(8,.bool true),(7,.int .i64 d),(0,.int .i64 n),(1,.int .i64 d),(2,.int .i64 60)]) hF (r_assign (hF.at 0 rfl)) rfl rfl rfl rfl fun a hF=>?_
   refine E.nil ?_
   refine wp_ret ?_
   have bel:=st.bel
   refine bodyPost_ret (res_tmp Tryz.results26 (hF.at 0 rfl)) hF.dfr ?_
   refine⟨rv_bool ?_,bel⟩
   unfold wiB
   first|exact(decide_eq_true (by omega)).symm |exact(decide_eq_false (by omega)).symm |exact decide_eq_decide.2 (by omega)
 ·refine E.opv hF (r_bin ev_c (hF.at 0 rfl) eg_scalar (bi_int (ic_leq (c:=false) (dec_ff hc1)) (by simp))) rfl rfl rfl rfl fun a hF=>?_
  refine E.opv hF (r_move (hF.at 0 rfl)) rfl rfl rfl rfl fun a hF=>?_
  refine E.unwanted hF (wanted_by rfl rfl (hF.at 0 rfl) rfl) rfl rfl rfl fun a hF=>?_
  refine E.unwanted hF (wanted_by rfl rfl (hF.at 1 rfl) rfl) rfl rfl rfl fun a hF=>?_
  refine E.opv hF (r_pick_f (hF.at 2 rfl) ev_c) rfl rfl rfl rfl fun a hF=>?_
  refine E.opv hF (r_move (hF.at 0 rfl)) rfl rfl rfl rfl fun a hF=>?_
  refine E.unwanted hF (wanted_by rfl rfl (hF.at 0 rfl) rfl) rfl rfl rfl fun a hF=>?_
  refine E.unwanted hF (wanted_by rfl rfl (hF.at 1 rfl) rfl) rfl rfl rfl fun a hF=>?_
  refine E.unwanted hF (wanted_by rfl rfl (hF.at 2 rfl) rfl) rfl rfl rfl fun a hF=>?_
  refine E.unwanted hF (wanted_by rfl rfl (hF.at 3 rfl) rfl) rfl rfl rfl fun a hF=>?_
  refine E.unwanted hF (wanted_by rfl rfl (hF.at 4 rfl) rfl) rfl rfl rfl fun a hF=>?_
  refine E.unwanted hF (wanted_by rfl rfl (hF.at 5 rfl) rfl) rfl rfl rfl fun a hF=>?_
  refine E.opv hF (r_pick_f (hF.at 6 rfl) ev_c) rfl rfl rfl rfl fun a hF=>?_
  refine E.opv hF (r_move (hF.at 0 rfl)) rfl rfl rfl rfl fun a hF=>?_
  refine E.unwanted hF (wanted_by rfl rfl (hF.at 0 rfl) rfl) rfl rfl rfl fun a hF=>?_
  refine E.unwanted hF (wanted_by rfl rfl (hF.at 1 rfl) rfl) rfl rfl rfl fun a hF=>?_
  refine E.unwanted hF (wanted_by rfl rfl (hF.at 2 rfl) rfl) rfl rfl rfl fun a hF=>?_
  refine E.unwanted hF (wanted_by rfl rfl (hF.at 3 rfl) rfl) rfl rfl rfl fun a hF=>?_
  refine E.unwanted hF (wanted_by rfl rfl (hF.at 4 rfl) rfl) rfl rfl rfl fun a hF=>?_
  refine E.opv hF (r_pick_f (hF.at 5 rfl) ev_c) rfl rfl rfl rfl fun a hF=>?_
  refine E.opset (L':=[(6,.bool false),(27,.bool false),(26,undef),(25,undef),(24,undef),(23,undef),(22,undef),(21,.bool false),(20,.bool false),(19,undef),(18,undef),(17,undef),(16,undef),(15,undef),(14,undef),(13,.bool false),(12,.bool false),(11,undef),(10,undef),(9,.bool false),(8,.bool false),(7,.int .i64 d),(0,.int .i64 n),(1,.int .i64 d),(2,.int .i64 60)]) hF (r_assign (hF.at 0 rfl)) rfl rfl rfl rfl fun a hF=>?_
  refine E.nil ?_
  refine wp_ret ?_
  have bel:=st.bel
  refine bodyPost_ret (res_tmp Tryz.results26 (hF.at 0 rfl)) hF.dfr ?_
  refine⟨rv_bool ?_,bel⟩
  unfold wiB
  first|exact(decide_eq_true (by omega)).symm |exact(decide_eq_false (by omega)).symm |exact decide_eq_decide.2 (by omega)
theorem within180_any (n d:Int) (w:World):
 Calls Tryz.prog 26 #[.int .i64 n,.int .i64 d,.int .i64 180] w (ValPost w (.bool (wiB 180 n d))):=by
 have st:=St.start w
 refine E.enter (nt:=28) (L:=[(0,.int .i64 n),(1,.int .i64 d),(2,.int .i64 180)]) Tryz.func26 rfl rfl rfl (args_cons (i:=0) rfl (args_cons (i:=1) rfl (args_cons (i:=2) rfl args_nil))) ?_
 intro a hF
 refine wp_seq ?_
 refine E.seq ?_
 refine E.opv hF (r_assign ev_c) rfl rfl rfl rfl fun a hF=>?_
 refine E.nil ?_
 refine wp_seq ?_
 refine E.seq ?_
 refine E.opv hF (r_move (hF.at 2 rfl)) rfl rfl rfl rfl fun a hF=>?_
 by_cases hc1:1≤d
 ·refine E.opv hF (r_bin ev_c (hF.at 0 rfl) eg_scalar (bi_int (ic_leq (c:=true) (dec_tt hc1)) (by simp))) rfl rfl rfl rfl fun a hF=>?_
  refine E.opv hF (r_move (hF.at 0 rfl)) rfl rfl rfl rfl fun a hF=>?_
  refine E.opvg hF (r_move (hF.at 5 rfl)) (wanted_by rfl rfl (hF.at 0 rfl) rfl) rfl rfl rfl fun a hF=>?_
  by_cases hc2:d≤3600
  ·refine E.opvg hF (r_bin (hF.at 0 rfl) ev_c eg_scalar (bi_int (ic_leq (c:=true) (dec_tt hc2)) (by simp))) (wanted_by rfl rfl (hF.at 1 rfl) rfl) rfl rfl rfl fun a hF=>?_
   refine E.opv hF (r_pick_t (hF.at 2 rfl) (hF.at 0 rfl)) rfl rfl rfl rfl fun a hF=>?_
   refine E.opv hF (r_move (hF.at 0 rfl)) rfl rfl rfl rfl fun a hF=>?_
   refine E.opvg hF (r_move (hF.at 10 rfl)) (wanted_by rfl rfl (hF.at 0 rfl) rfl) rfl rfl rfl fun a hF=>?_
   refine E.opvg hF (r_un (hF.at 0 rfl) (bn_neg (by omega) (by omega))) (wanted_by rfl rfl (hF.at 1 rfl) rfl) rfl rfl rfl fun a hF=>?_
   refine E.opvg hF (r_move (hF.at 11 rfl)) (wanted_by rfl rfl (hF.at 2 rfl) rfl) rfl rfl rfl fun a hF=>?_
   refine E.opvg hF (r_bin (hF.at 1 rfl) (hF.at 0 rfl) eg_scalar (ia_mul (by omega) (by omega))) (wanted_by rfl rfl (hF.at 3 rfl) rfl) rfl rfl rfl fun a hF=>?_
   refine E.opvg hF (r_move (hF.at 12 rfl)) (wanted_by rfl rfl (hF.at 4 rfl) rfl) rfl rfl rfl fun a hF=>?_
   by_cases hc3:(-180)*d≤n
   ·refine E.opvg hF (r_bin (hF.at 1 rfl) (hF.at 0 rfl) eg_scalar (bi_int (ic_leq (c:=true) (dec_tt hc3)) (by simp))) (wanted_by rfl rfl (hF.at 5 rfl) rfl) rfl rfl rfl fun a hF=>?_
    refine E.opv hF (r_pick_t (hF.at 6 rfl) (hF.at 0 rfl)) rfl rfl rfl rfl fun a hF=>?_
    refine E.opv hF (r_move (hF.at 0 rfl)) rfl rfl rfl rfl fun a hF=>?_
    refine E.opvg hF (r_move (hF.at 16 rfl)) (wanted_by rfl rfl (hF.at 0 rfl) rfl) rfl rfl rfl fun a hF=>?_
    refine E.opvg hF (r_move (hF.at 19 rfl)) (wanted_by rfl rfl (hF.at 1 rfl) rfl) rfl rfl rfl fun a hF=>?_
    refine E.opvg hF (r_move (hF.at 19 rfl)) (wanted_by rfl rfl (hF.at 2 rfl) rfl) rfl rfl rfl fun a hF=>?_
    refine E.opvg hF (r_bin (hF.at 1 rfl) (hF.at 0 rfl) eg_scalar (ia_mul (by omega) (by omega))) (wanted_by rfl rfl (hF.at 3 rfl) rfl) rfl rfl rfl fun a hF=>?_
    by_cases hc4:n≤180*d
    ·refine E.opvg hF (r_bin (hF.at 3 rfl) (hF.at 0 rfl) eg_scalar (bi_int (ic_leq (c:=true) (dec_tt hc4)) (by simp))) (wanted_by rfl rfl (hF.at 4 rfl) rfl) rfl rfl rfl fun a hF=>?_
     refine E.opv hF (r_pick_t (hF.at 5 rfl) (hF.at 0 rfl)) rfl rfl rfl rfl fun a hF=>?_
     refine E.opset (L':=[(6,.bool true),(27,.bool true),(26,.bool true),(25,.int .i64 (180*d)),(24,.int .i64 d),(23,.int .i64 180),(22,.int .i64 n),(21,.bool true),(20,.bool true),(19,.bool true),(18,.int .i64 n),(17,.int .i64 ((-180)*d)),(16,.int .i64 d),(15,.int .i64 (-180)),(14,.int .i64 180),(13,.bool true),(12,.bool true),(11,.bool true),(10,.int .i64 d),(9,.bool true),(8,.bool true),(7,.int .i64 d),(0,.int .i64 n),(1,.int .i64 d),(2,.int .i64 180)]) hF (r_assign (hF.at 0 rfl)) rfl rfl rfl rfl fun a hF=>?_
     refine E.nil ?_
     refine wp_ret ?_
     have bel:=st.bel
     refine bodyPost_ret (res_tmp Tryz.results26 (hF.at 0 rfl)) hF.dfr ?_
     refine⟨rv_bool ?_,bel⟩
     unfold wiB
     first|exact(decide_eq_true (by omega)).symm |exact(decide_eq_false (by omega)).symm |exact decide_eq_decide.2 (by omega)
    ·refine E.opvg hF (r_bin (hF.at 3 rfl) (hF.at 0 rfl) eg_scalar (bi_int (ic_leq (c:=false) (dec_ff hc4)) (by simp))) (wanted_by rfl rfl (hF.at 4 rfl) rfl) rfl rfl rfl fun a hF=>?_
     refine E.opv hF (r_pick_t (hF.at 5 rfl) (hF.at 0 rfl)) rfl rfl rfl rfl fun a hF=>?_
     refine E.opset (L':=[(6,.bool false),(27,.bool false),(26,.bool false),(25,.int .i64 (180*d)),(24,.int .i64 d),(23,.int .i64 180),(22,.int .i64 n),(21,.bool true),(20,.bool true),(19,.bool true),(18,.int .i64 n),(17,.int .i64 ((-180)*d)),(16,.int .i64 d),(15,.int .i64 (-180)),(14,.int .i64 180),(13,.bool true),(12,.bool true),(11,.bool true),(10,.int .i64 d),(9,.bool true),(8,.bool true),(7,.int .i64 d),(0,.int .i64 n),(1,.int .i64 d),(2,.int .i64 180)]) hF (r_assign (hF.at 0 rfl)) rfl rfl rfl rfl fun a hF=>?_
     refine E.nil ?_
     refine wp_ret ?_
     have bel:=st.bel
     refine bodyPost_ret (res_tmp Tryz.results26 (hF.at 0 rfl)) hF.dfr ?_
     refine⟨rv_bool ?_,bel⟩
     unfold wiB
     first|exact(decide_eq_true (by omega)).symm |exact(decide_eq_false (by omega)).symm |exact decide_eq_decide.2 (by omega)
   ·refine E.opvg hF (r_bin (hF.at 1 rfl) (hF.at 0 rfl) eg_scalar (bi_int (ic_leq (c:=false) (dec_ff hc3)) (by simp))) (wanted_by rfl rfl (hF.at 5 rfl) rfl) rfl rfl rfl fun a hF=>?_
    refine E.opv hF (r_pick_t (hF.at 6 rfl) (hF.at 0 rfl)) rfl rfl rfl rfl fun a hF=>?_
    refine E.opv hF (r_move (hF.at 0 rfl)) rfl rfl rfl rfl fun a hF=>?_
    refine E.unwanted hF (wanted_by rfl rfl (hF.at 0 rfl) rfl) rfl rfl rfl fun a hF=>?_
    refine E.unwanted hF (wanted_by rfl rfl (hF.at 1 rfl) rfl) rfl rfl rfl fun a hF=>?_
    refine E.unwanted hF (wanted_by rfl rfl (hF.at 2 rfl) rfl) rfl rfl rfl fun a hF=>?_
    refine E.unwanted hF (wanted_by rfl rfl (hF.at 3 rfl) rfl) rfl rfl rfl fun a hF=>?_
    refine E.unwanted hF (wanted_by rfl rfl (hF.at 4 rfl) rfl) rfl rfl rfl fun a hF=>?_
    refine E.opv hF (r_pick_f (hF.at 5 rfl) ev_c) rfl rfl rfl rfl fun a hF=>?_
    refine E.opset (L':=[(6,.bool false),(27,.bool false),(26,undef),(25,undef),(24,undef),(23,undef),(22,undef),(21,.bool false),(20,.bool false),(19,.bool false),(18,.int .i64 n),(17,.int .i64 ((-180)*d)),(16,.int .i64 d),(15,.int .i64 (-180)),(14,.int .i64 180),(13,.bool true),(12,.bool true),(11,.bool true),(10,.int .i64 d),(9,.bool true),(8,.bool true),(7,.int .i64 d),(0,.int .i64 n),(1,.int .i64 d),(2,.int .i64 180)]) hF (r_assign (hF.at 0 rfl)) rfl rfl rfl rfl fun a hF=>?_
    refine E.nil ?_
    refine wp_ret ?_
    have bel:=st.bel
    refine bodyPost_ret (res_tmp Tryz.results26 (hF.at 0 rfl)) hF.dfr ?_
    refine⟨rv_bool ?_,bel⟩
    unfold wiB
    first|exact(decide_eq_true (by omega)).symm |exact(decide_eq_false (by omega)).symm |exact decide_eq_decide.2 (by omega)
  ·refine E.opvg hF (r_bin (hF.at 0 rfl) ev_c eg_scalar (bi_int (ic_leq (c:=false) (dec_ff hc2)) (by simp))) (wanted_by rfl rfl (hF.at 1 rfl) rfl) rfl rfl rfl fun a hF=>?_
   refine E.opv hF (r_pick_t (hF.at 2 rfl) (hF.at 0 rfl)) rfl rfl rfl rfl fun a hF=>?_
   refine E.opv hF (r_move (hF.at 0 rfl)) rfl rfl rfl rfl fun a hF=>?_
   refine E.unwanted hF (wanted_by rfl rfl (hF.at 0 rfl) rfl) rfl rfl rfl fun a hF=>?_
   refine E.unwanted hF (wanted_by rfl rfl (hF.at 1 rfl) rfl) rfl rfl rfl fun a hF=>?_
   refine E.unwanted hF (wanted_by rfl rfl (hF.at 2 rfl) rfl) rfl rfl rfl fun a hF=>?_
   refine E.unwanted hF (wanted_by rfl rfl (hF.at 3 rfl) rfl) rfl rfl rfl fun a hF=>?_
   refine E.unwanted hF (wanted_by rfl rfl (hF.at 4 rfl) rfl) rfl rfl rfl fun a hF=>?_
   refine E.unwanted hF (wanted_by rfl rfl (hF.at 5 rfl) rfl) rfl rfl rfl fun a hF=>?_
   refine E.opv hF (r_pick_f (hF.at 6 rfl) ev_c) rfl rfl rfl rfl fun a hF=>?_
   refine E.opv hF (r_move (hF.at 0 rfl)) rfl rfl rfl rfl fun a hF=>?_
   refine E.unwanted hF (wanted_by rfl rfl (hF.at 0 rfl) rfl) rfl rfl rfl fun a hF=>?_
   refine E.unwanted hF (wanted_by rfl rfl (hF.at 1 rfl) rfl) rfl rfl rfl fun a hF=>?_
   refine E.unwanted hF (wanted_by rfl rfl (hF.at 2 rfl) rfl) rfl rfl rfl fun a hF=>?_
   refine E.unwanted hF (wanted_by rfl rfl (hF.at 3 rfl) rfl) rfl rfl rfl fun a hF=>?_
   refine E.unwanted hF (wanted_by rfl rfl (hF.at 4 rfl) rfl) rfl rfl rfl fun a hF=>?_
   refine E.opv hF (r_pick_f (hF.at 5 rfl) ev_c) rfl rfl rfl rfl fun a hF=>?_
   refine E.opset (L':=[(6,.bool false),(27,.bool false),(26,undef),(25,undef),(24,undef),(23,undef),(22,undef),(21,.bool false),(20,.bool false),(19,undef),(18,undef),(17,undef),(16,undef),(15,undef),(14,undef),(13,.bool false),(12,.bool false),(11,.bool false),(10,.int .i64 d),(9,.bool true),(8,.bool true),(7,.int .i64 d),(0,.int .i64 n),(1,.int .i64 d),(2,.int .i64 180)]) hF (r_assign (hF.at 0 rfl)) rfl rfl rfl rfl fun a hF=>?_
   refine E.nil ?_
   refine wp_ret ?_
   have bel:=st.bel
   refine bodyPost_ret (res_tmp Tryz.results26 (hF.at 0 rfl)) hF.dfr ?_
   refine⟨rv_bool ?_,bel⟩
   unfold wiB
   first|exact(decide_eq_true (by omega)).symm |exact(decide_eq_false (by omega)).symm |exact decide_eq_decide.2 (by omega)
 ·refine E.opv hF (r_bin ev_c (hF.at 0 rfl) eg_scalar (bi_int (ic_leq (c:=false) (dec_ff hc1)) (by simp))) rfl rfl rfl rfl fun a hF=>?_
  refine E.opv hF (r_move (hF.at 0 rfl)) rfl rfl rfl rfl fun a hF=>?_
  refine E.unwanted hF (wanted_by rfl rfl (hF.at 0 rfl) rfl) rfl rfl rfl fun a hF=>?_
  refine E.unwanted hF (wanted_by rfl rfl (hF.at 1 rfl) rfl) rfl rfl rfl fun a hF=>?_
  refine E.opv hF (r_pick_f (hF.at 2 rfl) ev_c) rfl rfl rfl rfl fun a hF=>?_
  refine E.opv hF (r_move (hF.at 0 rfl)) rfl rfl rfl rfl fun a hF=>?_
  refine E.unwanted hF (wanted_by rfl rfl (hF.at 0 rfl) rfl) rfl rfl rfl fun a hF=>?_
  refine E.unwanted hF (wanted_by rfl rfl (hF.at 1 rfl) rfl) rfl rfl rfl fun a hF=>?_
  refine E.unwanted hF (wanted_by rfl rfl (hF.at 2 rfl) rfl) rfl rfl rfl fun a hF=>?_
  refine E.unwanted hF (wanted_by rfl rfl (hF.at 3 rfl) rfl) rfl rfl rfl fun a hF=>?_
  refine E.unwanted hF (wanted_by rfl rfl (hF.at 4 rfl) rfl) rfl rfl rfl fun a hF=>?_
  refine E.unwanted hF (wanted_by rfl rfl (hF.at 5 rfl) rfl) rfl rfl rfl fun a hF=>?_
  refine E.opv hF (r_pick_f (hF.at 6 rfl) ev_c) rfl rfl rfl rfl fun a hF=>?_
  refine E.opv hF (r_move (hF.at 0 rfl)) rfl rfl rfl rfl fun a hF=>?_
  refine E.unwanted hF (wanted_by rfl rfl (hF.at 0 rfl) rfl) rfl rfl rfl fun a hF=>?_
  refine E.unwanted hF (wanted_by rfl rfl (hF.at 1 rfl) rfl) rfl rfl rfl fun a hF=>?_
  refine E.unwanted hF (wanted_by rfl rfl (hF.at 2 rfl) rfl) rfl rfl rfl fun a hF=>?_
  refine E.unwanted hF (wanted_by rfl rfl (hF.at 3 rfl) rfl) rfl rfl rfl fun a hF=>?_
  refine E.unwanted hF (wanted_by rfl rfl (hF.at 4 rfl) rfl) rfl rfl rfl fun a hF=>?_
  refine E.opv hF (r_pick_f (hF.at 5 rfl) ev_c) rfl rfl rfl rfl fun a hF=>?_
  refine E.opset (L':=[(6,.bool false),(27,.bool false),(26,undef),(25,undef),(24,undef),(23,undef),(22,undef),(21,.bool false),(20,.bool false),(19,undef),(18,undef),(17,undef),(16,undef),(15,undef),(14,undef),(13,.bool false),(12,.bool false),(11,undef),(10,undef),(9,.bool false),(8,.bool false),(7,.int .i64 d),(0,.int .i64 n),(1,.int .i64 d),(2,.int .i64 180)]) hF (r_assign (hF.at 0 rfl)) rfl rfl rfl rfl fun a hF=>?_
  refine E.nil ?_
  refine wp_ret ?_
  have bel:=st.bel
  refine bodyPost_ret (res_tmp Tryz.results26 (hF.at 0 rfl)) hF.dfr ?_
  refine⟨rv_bool ?_,bel⟩
  unfold wiB
  first|exact(decide_eq_true (by omega)).symm |exact(decide_eq_false (by omega)).symm |exact decide_eq_decide.2 (by omega)
theorem pCheck_any (xa xb xc xd:Int) (w:World):
 Calls Tryz.prog 8 #[.agg #[.int .i64 xa,.int .i64 xb,.int .i64 xc,.int .i64 xd]] w (ValPost w (.int .i64 (plE xa xb xc xd))):=by
 have st:=St.start w
 refine E.enter (nt:=17) (L:=[(0,.agg #[.int .i64 xa,.int .i64 xb,.int .i64 xc,.int .i64 xd])]) Tryz.func8 rfl rfl rfl (args_cons (i:=0) rfl args_nil) ?_
 intro a hF
 refine wp_seq ?_
 refine E.seq ?_
 refine S.box st hF (hF.at 0 rfl) rfl rfl fun g1 w1 a st hF=>?_
 refine E.opv hF (r_assign ev_c) rfl rfl rfl rfl fun a hF=>?_
 refine E.nil ?_
 refine wp_seq ?_
 refine wp_seq ?_
 refine E.seq ?_
 refine E.opv hF (r_field (hF.at 1 rfl) (fa_Plc_0 (p:=0) rfl)) rfl rfl rfl rfl fun a hF=>?_
 refine E.opv hF (r_load (hF.at 0 rfl) (ldb_i64 (v:= .int .i64 xa) (st.bk 0 rfl) rfl)) rfl rfl rfl rfl fun a hF=>?_
 refine E.opv hF (r_field (hF.at 3 rfl) (fa_Plc_1 (p:=1) rfl)) rfl rfl rfl rfl fun a hF=>?_
 refine E.opv hF (r_load (hF.at 0 rfl) (ldb_i64 (v:= .int .i64 xb) (st.bk 0 rfl) rfl)) rfl rfl rfl rfl fun a hF=>?_
 refine S.callx st hF (r_call Tryz.func26 en26.1 en26.2 (map3 (hF.at 2 rfl) (hF.at 0 rfl) ev_c)) (within60_any xa xb _) rfl rfl rfl rfl fun w2 a st hF=>?_
 by_cases hc3:wiB 60 xa xb=true
 ·refine E.opv hF (r_un (Eq.trans (hF.at 0 rfl) (congrArg Value.bool hc3)) (bn_not _ false rfl)) rfl rfl rfl rfl fun a hF=>?_
  refine E.opv hF (r_move (hF.at 0 rfl)) rfl rfl rfl rfl fun a hF=>?_
  refine E.opvg hF (r_field (hF.at 8 rfl) (fa_Plc_2 (p:=2) rfl)) (wanted_by rfl rfl (hF.at 0 rfl) rfl) rfl rfl rfl fun a hF=>?_
  refine E.opvg hF (r_load (hF.at 0 rfl) (ldb_i64 (v:= .int .i64 xc) (st.bk 0 rfl) rfl)) (wanted_by rfl rfl (hF.at 1 rfl) rfl) rfl rfl rfl fun a hF=>?_
  refine E.opvg hF (r_field (hF.at 10 rfl) (fa_Plc_3 (p:=3) rfl)) (wanted_by rfl rfl (hF.at 2 rfl) rfl) rfl rfl rfl fun a hF=>?_
  refine E.opvg hF (r_load (hF.at 0 rfl) (ldb_i64 (v:= .int .i64 xd) (st.bk 0 rfl) rfl)) (wanted_by rfl rfl (hF.at 3 rfl) rfl) rfl rfl rfl fun a hF=>?_
  refine S.callxg st hF (wanted_by rfl rfl (hF.at 4 rfl) rfl) (r_call Tryz.func26 en26.1 en26.2 (map3 (hF.at 2 rfl) (hF.at 0 rfl) ev_c)) (within180_any xc xd _) rfl rfl rfl fun w4 a st hF=>?_
  by_cases hc5:wiB 180 xc xd=true
  ·refine E.opvg hF (r_un (Eq.trans (hF.at 0 rfl) (congrArg Value.bool hc5)) (bn_not _ false rfl)) (wanted_by rfl rfl (hF.at 5 rfl) rfl) rfl rfl rfl fun a hF=>?_
   refine E.opv hF (r_pick_f (hF.at 6 rfl) (hF.at 0 rfl)) rfl rfl rfl rfl fun a hF=>?_
   refine E.nil ?_
   refine wp_cond_false (hF.at 0 rfl) ?_
   refine wp_skip ?_
   refine E.norm ?_
   refine wp_seq ?_
   refine E.seq ?_
   refine E.opset (L':=[(2,.int .i64 0),(16,.bool false),(15,.bool false),(14,.bool (wiB 180 xc xd)),(13,.int .i64 xd),(12,.pointer (some ⟨g1,3,none⟩)),(11,.int .i64 xc),(10,.pointer (some ⟨g1,2,none⟩)),(9,.bool false),(8,.bool false),(7,.bool (wiB 60 xa xb)),(6,.int .i64 xb),(5,.pointer (some ⟨g1,1,none⟩)),(4,.int .i64 xa),(3,.pointer (some ⟨g1,0,none⟩)),(1,.pointer (some ⟨g1,0,none⟩)),(0,.agg #[.int .i64 xa,.int .i64 xb,.int .i64 xc,.int .i64 xd])]) hF (r_assign ev_c) rfl rfl rfl rfl fun a hF=>?_
   refine E.nil ?_
   refine wp_ret ?_
   have bel:=st.bel
   refine bodyPost_ret (res_tmp Tryz.results8 (hF.at 0 rfl)) hF.dfr ?_
   refine⟨rv_int ?_,bel⟩
   unfold plE
   rw[if_pos ⟨by assumption,by assumption⟩]
  ·refine E.opvg hF (r_un (Eq.trans (hF.at 0 rfl) (congrArg Value.bool (eq_false_of_ne_true hc5))) (bn_not _ true rfl)) (wanted_by rfl rfl (hF.at 5 rfl) rfl) rfl rfl rfl fun a hF=>?_
   refine E.opv hF (r_pick_f (hF.at 6 rfl) (hF.at 0 rfl)) rfl rfl rfl rfl fun a hF=>?_
   refine E.nil ?_
   refine wp_cond_true (hF.at 0 rfl) ?_
   refine wp_seq ?_
   refine E.seq ?_
   refine E.opset (L':=[(2,.int .i64 2),(16,.bool true),(15,.bool true),(14,.bool (wiB 180 xc xd)),(13,.int .i64 xd),(12,.pointer (some ⟨g1,3,none⟩)),(11,.int .i64 xc),(10,.pointer (some ⟨g1,2,none⟩)),(9,.bool false),(8,.bool false),(7,.bool (wiB 60 xa xb)),(6,.int .i64 xb),(5,.pointer (some ⟨g1,1,none⟩)),(4,.int .i64 xa),(3,.pointer (some ⟨g1,0,none⟩)),(1,.pointer (some ⟨g1,0,none⟩)),(0,.agg #[.int .i64 xa,.int .i64 xb,.int .i64 xc,.int .i64 xd])]) hF (r_assign ev_c) rfl rfl rfl rfl fun a hF=>?_
   refine E.nil ?_
   refine wp_ret ?_
   have bel:=st.bel
   refine bodyPost_ret (res_tmp Tryz.results8 (hF.at 0 rfl)) hF.dfr ?_
   refine⟨rv_int ?_,bel⟩
   unfold plE
   rw[if_neg (by rintro⟨e1,e2⟩;simp_all)]
 ·refine E.opv hF (r_un (Eq.trans (hF.at 0 rfl) (congrArg Value.bool (eq_false_of_ne_true hc3))) (bn_not _ true rfl)) rfl rfl rfl rfl fun a hF=>?_
  refine E.opv hF (r_move (hF.at 0 rfl)) rfl rfl rfl rfl fun a hF=>?_
  refine E.unwanted hF (wanted_by rfl rfl (hF.at 0 rfl) rfl) rfl rfl rfl fun a hF=>?_
  refine E.unwanted hF (wanted_by rfl rfl (hF.at 1 rfl) rfl) rfl rfl rfl fun a hF=>?_
  refine E.unwanted hF (wanted_by rfl rfl (hF.at 2 rfl) rfl) rfl rfl rfl fun a hF=>?_
  refine E.unwanted hF (wanted_by rfl rfl (hF.at 3 rfl) rfl) rfl rfl rfl fun a hF=>?_
  refine E.unwanted hF (wanted_by rfl rfl (hF.at 4 rfl) rfl) rfl rfl rfl fun a hF=>?_
  refine E.unwanted hF (wanted_by rfl rfl (hF.at 5 rfl) rfl) rfl rfl rfl fun a hF=>?_
  refine E.opv hF (r_pick_t (hF.at 6 rfl) ev_c) rfl rfl rfl rfl fun a hF=>?_
  refine E.nil ?_
  refine wp_cond_true (hF.at 0 rfl) ?_
  refine wp_seq ?_
  refine E.seq ?_
  refine E.opset (L':=[(2,.int .i64 2),(16,.bool true),(15,undef),(14,undef),(13,undef),(12,undef),(11,undef),(10,undef),(9,.bool true),(8,.bool true),(7,.bool (wiB 60 xa xb)),(6,.int .i64 xb),(5,.pointer (some ⟨g1,1,none⟩)),(4,.int .i64 xa),(3,.pointer (some ⟨g1,0,none⟩)),(1,.pointer (some ⟨g1,0,none⟩)),(0,.agg #[.int .i64 xa,.int .i64 xb,.int .i64 xc,.int .i64 xd])]) hF (r_assign ev_c) rfl rfl rfl rfl fun a hF=>?_
  refine E.nil ?_
  refine wp_ret ?_
  have bel:=st.bel
  refine bodyPost_ret (res_tmp Tryz.results8 (hF.at 0 rfl)) hF.dfr ?_
  refine⟨rv_int ?_,bel⟩
  unfold plE
  rw[if_neg (by rintro⟨e1,e2⟩;simp_all)]
theorem angle_any (xs:List Nat) (w:World) (hM:MLen w) (h8:okb 256 xs) (hl:xs.length≤1000000000):
 Calls Tryz.prog 20 #[.string (bstr xs)] w (ValPost w (.tuple #[.int .i64 (anA xs),.int .i64 (anB xs),.int .i64 (anE xs)])):=by
 have st:=St.start w
 refine E.enter (nt:=41) (L:=[(0,.string (bstr xs))]) Tryz.func20 rfl rfl rfl (args_cons (i:=0) rfl args_nil) ?_
 intro a hF
 refine wp_seq ?_
 refine E.seq ?_
 refine E.opv hF (r_assign ev_c) rfl rfl rfl rfl fun a hF=>?_
 refine E.opv hF (r_assign ev_c) rfl rfl rfl rfl fun a hF=>?_
 refine E.opv hF (r_assign ev_c) rfl rfl rfl rfl fun a hF=>?_
 refine E.nil ?_
 refine wp_seq ?_
 refine E.seq ?_
 refine E.opv hF (r_move (hF.at 3 rfl)) rfl rfl rfl rfl fun a hF=>?_
 refine S.callt st hF (r_call Tryz.func44 en44.1 en44.2 (map1 (hF.at 0 rfl))) (cparse_any (xs) _ (hM.below st.bel) h8 (by first|omega|decide)) (fun _ _ h=>h) Rq.cl rfl rfl rfl rfl fun vv2 w1 a st hF=>?_
 obtain⟨b4,ad4,n4,c4,ae4,m4,d4,rfl⟩:=Rq.form (st.f 0 rfl)
 refine E.opv hF (r_move (hF.at 0 rfl)) rfl rfl rfl rfl fun a hF=>?_
 refine E.opv hF (r_extract (v:= .agg #[.bool b4,.slice ad4 n4 c4,.slice ae4 m4 d4]) (hF.at 0 rfl) rfl) rfl rfl rfl rfl fun a hF=>?_
 refine E.opv hF (r_extract (v:= .int .i64 (ce (xs))) (hF.at 1 rfl) rfl) rfl rfl rfl rfl fun a hF=>?_
 refine S.new st hF 1 rfl ty_Rat rfl rfl rfl rfl rfl fun g5 w5 a st hF=>?_
 refine E.opv hF (r_assign (hF.at 1 rfl)) rfl rfl rfl rfl fun a hF=>?_
 refine E.nil ?_
 refine wp_seq ?_
 refine wp_seq ?_
 refine E.seq ?_
 refine E.opv hF (r_move (hF.at 0 rfl)) rfl rfl rfl rfl fun a hF=>?_
 by_cases hc6:ce (xs)≠0
 ·refine E.opv hF (r_bin (hF.at 0 rfl) ev_c eg_scalar (bi_int (ic_neq (c:=true) (dec_tt hc6)) (by simp))) rfl rfl rfl rfl fun a hF=>?_
  refine E.nil ?_
  refine wp_cond_true (hF.at 0 rfl) ?_
  refine wp_seq ?_
  refine E.seq ?_
  refine E.opv hF (r_move (hF.at 2 rfl)) rfl rfl rfl rfl fun a hF=>?_
  refine E.opset (L':=[(2,.int .i64 0),(17,.int .i64 (ce (xs))),(16,.bool true),(15,.int .i64 (ce (xs))),(6,.int .i64 (ce (xs))),(5,.pointer (some ⟨g5,0,none⟩)),(14,.int .i64 (ce (xs))),(13,.agg #[.bool b4,.slice ad4 n4 c4,.slice ae4 m4 d4]),(10,.tuple #[.agg #[.bool b4,.slice ad4 n4 c4,.slice ae4 m4 d4],.int .i64 (ce (xs))]),(12,.tuple #[.agg #[.bool b4,.slice ad4 n4 c4,.slice ae4 m4 d4],.int .i64 (ce (xs))]),(11,.string (bstr xs)),(4,.int .i64 0),(3,.int .i64 0),(0,.string (bstr xs))]) hF (r_assign ev_c) rfl rfl rfl rfl fun a hF=>?_
  refine E.opset (L':=[(3,.int .i64 0),(2,.int .i64 0),(17,.int .i64 (ce (xs))),(16,.bool true),(15,.int .i64 (ce (xs))),(6,.int .i64 (ce (xs))),(5,.pointer (some ⟨g5,0,none⟩)),(14,.int .i64 (ce (xs))),(13,.agg #[.bool b4,.slice ad4 n4 c4,.slice ae4 m4 d4]),(10,.tuple #[.agg #[.bool b4,.slice ad4 n4 c4,.slice ae4 m4 d4],.int .i64 (ce (xs))]),(12,.tuple #[.agg #[.bool b4,.slice ad4 n4 c4,.slice ae4 m4 d4],.int .i64 (ce (xs))]),(11,.string (bstr xs)),(4,.int .i64 0),(0,.string (bstr xs))]) hF (r_assign ev_c) rfl rfl rfl rfl fun a hF=>?_
  refine E.opset (L':=[(4,.int .i64 (ce (xs))),(3,.int .i64 0),(2,.int .i64 0),(17,.int .i64 (ce (xs))),(16,.bool true),(15,.int .i64 (ce (xs))),(6,.int .i64 (ce (xs))),(5,.pointer (some ⟨g5,0,none⟩)),(14,.int .i64 (ce (xs))),(13,.agg #[.bool b4,.slice ad4 n4 c4,.slice ae4 m4 d4]),(10,.tuple #[.agg #[.bool b4,.slice ad4 n4 c4,.slice ae4 m4 d4],.int .i64 (ce (xs))]),(12,.tuple #[.agg #[.bool b4,.slice ad4 n4 c4,.slice ae4 m4 d4],.int .i64 (ce (xs))]),(11,.string (bstr xs)),(0,.string (bstr xs))]) hF (r_assign (hF.at 2 rfl)) rfl rfl rfl rfl fun a hF=>?_
  refine E.nil ?_
  refine wp_ret ?_
  have bel:=st.bel
  refine bodyPost_ret (res_tmp3 Tryz.results20 (hF.at 2 rfl) (hF.at 1 rfl) (hF.at 0 rfl)) hF.dfr ?_
  have hk:=an_1 hc6
  exact⟨rv_in3p hk.2.1.symm hk.2.2.symm hk.1.symm,bel⟩
 ·refine E.opv hF (r_bin (hF.at 0 rfl) ev_c eg_scalar (bi_int (ic_neq (c:=false) (dec_ff hc6)) (by simp))) rfl rfl rfl rfl fun a hF=>?_
  refine E.nil ?_
  refine wp_cond_false (hF.at 0 rfl) ?_
  refine wp_skip ?_
  refine E.norm ?_
  refine wp_seq ?_
  refine E.seq ?_
  refine E.opv hF (r_load (hF.at 3 rfl) (ld_all ty_Rat (st.bk 0 rfl) rfl)) rfl rfl rfl rfl fun a hF=>?_
  refine S.call st hF (r_call Tryz.func13 en13.1 en13.2 (map1 (hF.at 0 rfl))) (rnum_any _ (cz (xs)) _ (st.f 0 rfl)) (fun _ _ h=>h) Wc.cl rfl rfl rfl rfl fun vv8 w7 a st hF=>?_
  obtain⟨ad10,n10,c10,rfl,_⟩:=Wc.shape (st.f 0 rfl)
  refine S.callx st hF (r_call Tryz.func45 en45.1 en45.2 (map1 (hF.at 0 rfl))) (small64 _ (Rat.num (cz (xs))) _ (Wc.wz (st.f 0 rfl))) rfl rfl rfl rfl fun w11 a st hF=>?_
  refine E.opv hF (r_move (hF.at 0 rfl)) rfl rfl rfl rfl fun a hF=>?_
  refine E.opv hF (r_extract (v:= .int .i64 (sm64 (Rat.num (cz (xs))))) (hF.at 0 rfl) rfl) rfl rfl rfl rfl fun a hF=>?_
  refine E.opv hF (r_extract (v:= .bool (fit64 (Rat.num (cz (xs))))) (hF.at 1 rfl) rfl) rfl rfl rfl rfl fun a hF=>?_
  refine E.opv hF (r_assign (hF.at 1 rfl)) rfl rfl rfl rfl fun a hF=>?_
  refine E.opv hF (r_assign (hF.at 1 rfl)) rfl rfl rfl rfl fun a hF=>?_
  refine E.nil ?_
  refine wp_seq ?_
  refine wp_seq ?_
  refine E.seq ?_
  refine E.opv hF (r_move (hF.at 0 rfl)) rfl rfl rfl rfl fun a hF=>?_
  by_cases hc12:fit64 (Rat.num (cz (xs)))=true
  ·refine E.opv hF (r_un (Eq.trans (hF.at 0 rfl) (congrArg Value.bool hc12)) (bn_not _ false rfl)) rfl rfl rfl rfl fun a hF=>?_
   refine E.nil ?_
   refine wp_cond_false (hF.at 0 rfl) ?_
   refine wp_skip ?_
   refine E.norm ?_
   refine wp_seq ?_
   refine E.seq ?_
   refine E.opv hF (r_load (hF.at 13 rfl) (ld_all ty_Rat (st.bk 0 rfl) rfl)) rfl rfl rfl rfl fun a hF=>?_
   refine S.call st hF (r_call Tryz.func27 en27.1 en27.2 (map1 (hF.at 0 rfl))) (rden_any _ (cz (xs)) _ (st.f 1 rfl)) (fun _ _ h=>h) Dg.cl rfl rfl rfl rfl fun vv14 w13 a st hF=>?_
   obtain⟨ad16,n16,c16,rfl⟩:=Dg.form (st.f 0 rfl)
   refine S.call st hF (r_call Tryz.func38 en38.1 en38.2 (map2 ev_c (hF.at 0 rfl))) (make_any _ _ (Rat.den (cz (xs))) _ (Dg.nt (st.f 0 rfl))) (fun _ _ h=>h) Wc.cl rfl rfl rfl rfl fun vv18 w17 a st hF=>?_
   obtain⟨ad20,n20,c20,rfl,_⟩:=Wc.shape (st.f 0 rfl)
   refine S.callx st hF (r_call Tryz.func45 en45.1 en45.2 (map1 (hF.at 0 rfl))) (small64 _ (sg false (Rat.den (cz (xs)))) _ (Wc.wz (st.f 0 rfl))) rfl rfl rfl rfl fun w21 a st hF=>?_
   refine E.opv hF (r_move (hF.at 0 rfl)) rfl rfl rfl rfl fun a hF=>?_
   refine E.opv hF (r_extract (v:= .int .i64 (sm64 (sg false (Rat.den (cz (xs)))))) (hF.at 0 rfl) rfl) rfl rfl rfl rfl fun a hF=>?_
   refine E.opv hF (r_extract (v:= .bool (fit64 (sg false (Rat.den (cz (xs)))))) (hF.at 1 rfl) rfl) rfl rfl rfl rfl fun a hF=>?_
   refine E.opv hF (r_assign (hF.at 1 rfl)) rfl rfl rfl rfl fun a hF=>?_
   refine E.opset (L':=[(8,.bool (fit64 (sg false (Rat.den (cz (xs)))))),(9,.int .i64 (sm64 (sg false (Rat.den (cz (xs)))))),(32,.bool (fit64 (sg false (Rat.den (cz (xs)))))),(31,.int .i64 (sm64 (sg false (Rat.den (cz (xs)))))),(26,.tuple #[.int .i64 (sm64 (sg false (Rat.den (cz (xs))))),.bool (fit64 (sg false (Rat.den (cz (xs)))))]),(30,.tuple #[.int .i64 (sm64 (sg false (Rat.den (cz (xs))))),.bool (fit64 (sg false (Rat.den (cz (xs)))))]),(29,.agg #[.bool (decide (sg false (Rat.den (cz (xs)))<0)),.slice ad20 n20 c20]),(28,.slice ad16 n16 c16),(27,.agg #[.bool b4,.slice ad4 n4 c4,.slice ae4 m4 d4]),(25,.bool false),(24,.bool (fit64 (Rat.num (cz (xs))))),(7,.int .i64 (sm64 (Rat.num (cz (xs))))),(23,.bool (fit64 (Rat.num (cz (xs))))),(22,.int .i64 (sm64 (Rat.num (cz (xs))))),(18,.tuple #[.int .i64 (sm64 (Rat.num (cz (xs)))),.bool (fit64 (Rat.num (cz (xs))))]),(21,.tuple #[.int .i64 (sm64 (Rat.num (cz (xs)))),.bool (fit64 (Rat.num (cz (xs))))]),(20,.agg #[.bool (decide (Rat.num (cz (xs))<0)),.slice ad10 n10 c10]),(19,.agg #[.bool b4,.slice ad4 n4 c4,.slice ae4 m4 d4]),(16,.bool false),(15,.int .i64 (ce (xs))),(6,.int .i64 (ce (xs))),(5,.pointer (some ⟨g5,0,none⟩)),(14,.int .i64 (ce (xs))),(13,.agg #[.bool b4,.slice ad4 n4 c4,.slice ae4 m4 d4]),(10,.tuple #[.agg #[.bool b4,.slice ad4 n4 c4,.slice ae4 m4 d4],.int .i64 (ce (xs))]),(12,.tuple #[.agg #[.bool b4,.slice ad4 n4 c4,.slice ae4 m4 d4],.int .i64 (ce (xs))]),(11,.string (bstr xs)),(4,.int .i64 0),(3,.int .i64 0),(2,.int .i64 0),(0,.string (bstr xs))]) hF (r_assign (hF.at 1 rfl)) rfl rfl rfl rfl fun a hF=>?_
   refine E.nil ?_
   refine wp_seq ?_
   refine wp_seq ?_
   refine E.seq ?_
   refine E.opv hF (r_move (hF.at 0 rfl)) rfl rfl rfl rfl fun a hF=>?_
   by_cases hc22:fit64 (sg false (Rat.den (cz (xs))))=true
   ·refine E.opv hF (r_un (Eq.trans (hF.at 0 rfl) (congrArg Value.bool hc22)) (bn_not _ false rfl)) rfl rfl rfl rfl fun a hF=>?_
    refine E.opv hF (r_move (hF.at 0 rfl)) rfl rfl rfl rfl fun a hF=>?_
    refine E.opvg hF (r_move (hF.at 4 rfl)) (wanted_by rfl rfl (hF.at 0 rfl) rfl) rfl rfl rfl fun a hF=>?_
    by_cases hc23:3600<sm64 (sg false (Rat.den (cz (xs))))
    ·refine E.opvg hF (r_bin (hF.at 0 rfl) ev_c eg_scalar (bi_int (ic_gtr (c:=true) (dec_tt hc23)) (by simp))) (wanted_by rfl rfl (hF.at 1 rfl) rfl) rfl rfl rfl fun a hF=>?_
     refine E.opv hF (r_pick_f (hF.at 2 rfl) (hF.at 0 rfl)) rfl rfl rfl rfl fun a hF=>?_
     refine E.nil ?_
     refine wp_cond_true (hF.at 0 rfl) ?_
     refine wp_seq ?_
     refine E.seq ?_
     refine E.opset (L':=[(2,.int .i64 0),(38,.bool true),(37,.bool true),(36,.int .i64 (sm64 (sg false (Rat.den (cz (xs)))))),(35,.bool false),(34,.bool false),(33,.bool (fit64 (sg false (Rat.den (cz (xs)))))),(8,.bool (fit64 (sg false (Rat.den (cz (xs)))))),(9,.int .i64 (sm64 (sg false (Rat.den (cz (xs)))))),(32,.bool (fit64 (sg false (Rat.den (cz (xs)))))),(31,.int .i64 (sm64 (sg false (Rat.den (cz (xs)))))),(26,.tuple #[.int .i64 (sm64 (sg false (Rat.den (cz (xs))))),.bool (fit64 (sg false (Rat.den (cz (xs)))))]),(30,.tuple #[.int .i64 (sm64 (sg false (Rat.den (cz (xs))))),.bool (fit64 (sg false (Rat.den (cz (xs)))))]),(29,.agg #[.bool (decide (sg false (Rat.den (cz (xs)))<0)),.slice ad20 n20 c20]),(28,.slice ad16 n16 c16),(27,.agg #[.bool b4,.slice ad4 n4 c4,.slice ae4 m4 d4]),(25,.bool false),(24,.bool (fit64 (Rat.num (cz (xs))))),(7,.int .i64 (sm64 (Rat.num (cz (xs))))),(23,.bool (fit64 (Rat.num (cz (xs))))),(22,.int .i64 (sm64 (Rat.num (cz (xs))))),(18,.tuple #[.int .i64 (sm64 (Rat.num (cz (xs)))),.bool (fit64 (Rat.num (cz (xs))))]),(21,.tuple #[.int .i64 (sm64 (Rat.num (cz (xs)))),.bool (fit64 (Rat.num (cz (xs))))]),(20,.agg #[.bool (decide (Rat.num (cz (xs))<0)),.slice ad10 n10 c10]),(19,.agg #[.bool b4,.slice ad4 n4 c4,.slice ae4 m4 d4]),(16,.bool false),(15,.int .i64 (ce (xs))),(6,.int .i64 (ce (xs))),(5,.pointer (some ⟨g5,0,none⟩)),(14,.int .i64 (ce (xs))),(13,.agg #[.bool b4,.slice ad4 n4 c4,.slice ae4 m4 d4]),(10,.tuple #[.agg #[.bool b4,.slice ad4 n4 c4,.slice ae4 m4 d4],.int .i64 (ce (xs))]),(12,.tuple #[.agg #[.bool b4,.slice ad4 n4 c4,.slice ae4 m4 d4],.int .i64 (ce (xs))]),(11,.string (bstr xs)),(4,.int .i64 0),(3,.int .i64 0),(0,.string (bstr xs))]) hF (r_assign ev_c) rfl rfl rfl rfl fun a hF=>?_
     refine E.opset (L':=[(3,.int .i64 0),(2,.int .i64 0),(38,.bool true),(37,.bool true),(36,.int .i64 (sm64 (sg false (Rat.den (cz (xs)))))),(35,.bool false),(34,.bool false),(33,.bool (fit64 (sg false (Rat.den (cz (xs)))))),(8,.bool (fit64 (sg false (Rat.den (cz (xs)))))),(9,.int .i64 (sm64 (sg false (Rat.den (cz (xs)))))),(32,.bool (fit64 (sg false (Rat.den (cz (xs)))))),(31,.int .i64 (sm64 (sg false (Rat.den (cz (xs)))))),(26,.tuple #[.int .i64 (sm64 (sg false (Rat.den (cz (xs))))),.bool (fit64 (sg false (Rat.den (cz (xs)))))]),(30,.tuple #[.int .i64 (sm64 (sg false (Rat.den (cz (xs))))),.bool (fit64 (sg false (Rat.den (cz (xs)))))]),(29,.agg #[.bool (decide (sg false (Rat.den (cz (xs)))<0)),.slice ad20 n20 c20]),(28,.slice ad16 n16 c16),(27,.agg #[.bool b4,.slice ad4 n4 c4,.slice ae4 m4 d4]),(25,.bool false),(24,.bool (fit64 (Rat.num (cz (xs))))),(7,.int .i64 (sm64 (Rat.num (cz (xs))))),(23,.bool (fit64 (Rat.num (cz (xs))))),(22,.int .i64 (sm64 (Rat.num (cz (xs))))),(18,.tuple #[.int .i64 (sm64 (Rat.num (cz (xs)))),.bool (fit64 (Rat.num (cz (xs))))]),(21,.tuple #[.int .i64 (sm64 (Rat.num (cz (xs)))),.bool (fit64 (Rat.num (cz (xs))))]),(20,.agg #[.bool (decide (Rat.num (cz (xs))<0)),.slice ad10 n10 c10]),(19,.agg #[.bool b4,.slice ad4 n4 c4,.slice ae4 m4 d4]),(16,.bool false),(15,.int .i64 (ce (xs))),(6,.int .i64 (ce (xs))),(5,.pointer (some ⟨g5,0,none⟩)),(14,.int .i64 (ce (xs))),(13,.agg #[.bool b4,.slice ad4 n4 c4,.slice ae4 m4 d4]),(10,.tuple #[.agg #[.bool b4,.slice ad4 n4 c4,.slice ae4 m4 d4],.int .i64 (ce (xs))]),(12,.tuple #[.agg #[.bool b4,.slice ad4 n4 c4,.slice ae4 m4 d4],.int .i64 (ce (xs))]),(11,.string (bstr xs)),(4,.int .i64 0),(0,.string (bstr xs))]) hF (r_assign ev_c) rfl rfl rfl rfl fun a hF=>?_
     refine E.opset (L':=[(4,.int .i64 2),(3,.int .i64 0),(2,.int .i64 0),(38,.bool true),(37,.bool true),(36,.int .i64 (sm64 (sg false (Rat.den (cz (xs)))))),(35,.bool false),(34,.bool false),(33,.bool (fit64 (sg false (Rat.den (cz (xs)))))),(8,.bool (fit64 (sg false (Rat.den (cz (xs)))))),(9,.int .i64 (sm64 (sg false (Rat.den (cz (xs)))))),(32,.bool (fit64 (sg false (Rat.den (cz (xs)))))),(31,.int .i64 (sm64 (sg false (Rat.den (cz (xs)))))),(26,.tuple #[.int .i64 (sm64 (sg false (Rat.den (cz (xs))))),.bool (fit64 (sg false (Rat.den (cz (xs)))))]),(30,.tuple #[.int .i64 (sm64 (sg false (Rat.den (cz (xs))))),.bool (fit64 (sg false (Rat.den (cz (xs)))))]),(29,.agg #[.bool (decide (sg false (Rat.den (cz (xs)))<0)),.slice ad20 n20 c20]),(28,.slice ad16 n16 c16),(27,.agg #[.bool b4,.slice ad4 n4 c4,.slice ae4 m4 d4]),(25,.bool false),(24,.bool (fit64 (Rat.num (cz (xs))))),(7,.int .i64 (sm64 (Rat.num (cz (xs))))),(23,.bool (fit64 (Rat.num (cz (xs))))),(22,.int .i64 (sm64 (Rat.num (cz (xs))))),(18,.tuple #[.int .i64 (sm64 (Rat.num (cz (xs)))),.bool (fit64 (Rat.num (cz (xs))))]),(21,.tuple #[.int .i64 (sm64 (Rat.num (cz (xs)))),.bool (fit64 (Rat.num (cz (xs))))]),(20,.agg #[.bool (decide (Rat.num (cz (xs))<0)),.slice ad10 n10 c10]),(19,.agg #[.bool b4,.slice ad4 n4 c4,.slice ae4 m4 d4]),(16,.bool false),(15,.int .i64 (ce (xs))),(6,.int .i64 (ce (xs))),(5,.pointer (some ⟨g5,0,none⟩)),(14,.int .i64 (ce (xs))),(13,.agg #[.bool b4,.slice ad4 n4 c4,.slice ae4 m4 d4]),(10,.tuple #[.agg #[.bool b4,.slice ad4 n4 c4,.slice ae4 m4 d4],.int .i64 (ce (xs))]),(12,.tuple #[.agg #[.bool b4,.slice ad4 n4 c4,.slice ae4 m4 d4],.int .i64 (ce (xs))]),(11,.string (bstr xs)),(0,.string (bstr xs))]) hF (r_assign ev_c) rfl rfl rfl rfl fun a hF=>?_
     refine E.nil ?_
     refine wp_ret ?_
     have bel:=st.bel
     refine bodyPost_ret (res_tmp3 Tryz.results20 (hF.at 2 rfl) (hF.at 1 rfl) (hF.at 0 rfl)) hF.dfr ?_
     have hk:=an_3 hc6 hc12 (.inr (by have:=hc23;rw[sm_fit hc22] at this;exact this))
     exact⟨rv_in3p hk.2.1.symm hk.2.2.symm hk.1.symm,bel⟩
    ·refine E.opvg hF (r_bin (hF.at 0 rfl) ev_c eg_scalar (bi_int (ic_gtr (c:=false) (dec_ff hc23)) (by simp))) (wanted_by rfl rfl (hF.at 1 rfl) rfl) rfl rfl rfl fun a hF=>?_
     refine E.opv hF (r_pick_f (hF.at 2 rfl) (hF.at 0 rfl)) rfl rfl rfl rfl fun a hF=>?_
     refine E.nil ?_
     refine wp_cond_false (hF.at 0 rfl) ?_
     refine wp_skip ?_
     refine E.norm ?_
     refine wp_seq ?_
     refine E.seq ?_
     refine E.opv hF (r_move (hF.at 17 rfl)) rfl rfl rfl rfl fun a hF=>?_
     refine E.opv hF (r_move (hF.at 8 rfl)) rfl rfl rfl rfl fun a hF=>?_
     refine E.opset (L':=[(2,.int .i64 (sm64 (Rat.num (cz (xs))))),(40,.int .i64 (sm64 (sg false (Rat.den (cz (xs)))))),(39,.int .i64 (sm64 (Rat.num (cz (xs))))),(38,.bool false),(37,.bool false),(36,.int .i64 (sm64 (sg false (Rat.den (cz (xs)))))),(35,.bool false),(34,.bool false),(33,.bool (fit64 (sg false (Rat.den (cz (xs)))))),(8,.bool (fit64 (sg false (Rat.den (cz (xs)))))),(9,.int .i64 (sm64 (sg false (Rat.den (cz (xs)))))),(32,.bool (fit64 (sg false (Rat.den (cz (xs)))))),(31,.int .i64 (sm64 (sg false (Rat.den (cz (xs)))))),(26,.tuple #[.int .i64 (sm64 (sg false (Rat.den (cz (xs))))),.bool (fit64 (sg false (Rat.den (cz (xs)))))]),(30,.tuple #[.int .i64 (sm64 (sg false (Rat.den (cz (xs))))),.bool (fit64 (sg false (Rat.den (cz (xs)))))]),(29,.agg #[.bool (decide (sg false (Rat.den (cz (xs)))<0)),.slice ad20 n20 c20]),(28,.slice ad16 n16 c16),(27,.agg #[.bool b4,.slice ad4 n4 c4,.slice ae4 m4 d4]),(25,.bool false),(24,.bool (fit64 (Rat.num (cz (xs))))),(7,.int .i64 (sm64 (Rat.num (cz (xs))))),(23,.bool (fit64 (Rat.num (cz (xs))))),(22,.int .i64 (sm64 (Rat.num (cz (xs))))),(18,.tuple #[.int .i64 (sm64 (Rat.num (cz (xs)))),.bool (fit64 (Rat.num (cz (xs))))]),(21,.tuple #[.int .i64 (sm64 (Rat.num (cz (xs)))),.bool (fit64 (Rat.num (cz (xs))))]),(20,.agg #[.bool (decide (Rat.num (cz (xs))<0)),.slice ad10 n10 c10]),(19,.agg #[.bool b4,.slice ad4 n4 c4,.slice ae4 m4 d4]),(16,.bool false),(15,.int .i64 (ce (xs))),(6,.int .i64 (ce (xs))),(5,.pointer (some ⟨g5,0,none⟩)),(14,.int .i64 (ce (xs))),(13,.agg #[.bool b4,.slice ad4 n4 c4,.slice ae4 m4 d4]),(10,.tuple #[.agg #[.bool b4,.slice ad4 n4 c4,.slice ae4 m4 d4],.int .i64 (ce (xs))]),(12,.tuple #[.agg #[.bool b4,.slice ad4 n4 c4,.slice ae4 m4 d4],.int .i64 (ce (xs))]),(11,.string (bstr xs)),(4,.int .i64 0),(3,.int .i64 0),(0,.string (bstr xs))]) hF (r_assign (hF.at 1 rfl)) rfl rfl rfl rfl fun a hF=>?_
     refine E.opset (L':=[(3,.int .i64 (sm64 (sg false (Rat.den (cz (xs)))))),(2,.int .i64 (sm64 (Rat.num (cz (xs))))),(40,.int .i64 (sm64 (sg false (Rat.den (cz (xs)))))),(39,.int .i64 (sm64 (Rat.num (cz (xs))))),(38,.bool false),(37,.bool false),(36,.int .i64 (sm64 (sg false (Rat.den (cz (xs)))))),(35,.bool false),(34,.bool false),(33,.bool (fit64 (sg false (Rat.den (cz (xs)))))),(8,.bool (fit64 (sg false (Rat.den (cz (xs)))))),(9,.int .i64 (sm64 (sg false (Rat.den (cz (xs)))))),(32,.bool (fit64 (sg false (Rat.den (cz (xs)))))),(31,.int .i64 (sm64 (sg false (Rat.den (cz (xs)))))),(26,.tuple #[.int .i64 (sm64 (sg false (Rat.den (cz (xs))))),.bool (fit64 (sg false (Rat.den (cz (xs)))))]),(30,.tuple #[.int .i64 (sm64 (sg false (Rat.den (cz (xs))))),.bool (fit64 (sg false (Rat.den (cz (xs)))))]),(29,.agg #[.bool (decide (sg false (Rat.den (cz (xs)))<0)),.slice ad20 n20 c20]),(28,.slice ad16 n16 c16),(27,.agg #[.bool b4,.slice ad4 n4 c4,.slice ae4 m4 d4]),(25,.bool false),(24,.bool (fit64 (Rat.num (cz (xs))))),(7,.int .i64 (sm64 (Rat.num (cz (xs))))),(23,.bool (fit64 (Rat.num (cz (xs))))),(22,.int .i64 (sm64 (Rat.num (cz (xs))))),(18,.tuple #[.int .i64 (sm64 (Rat.num (cz (xs)))),.bool (fit64 (Rat.num (cz (xs))))]),(21,.tuple #[.int .i64 (sm64 (Rat.num (cz (xs)))),.bool (fit64 (Rat.num (cz (xs))))]),(20,.agg #[.bool (decide (Rat.num (cz (xs))<0)),.slice ad10 n10 c10]),(19,.agg #[.bool b4,.slice ad4 n4 c4,.slice ae4 m4 d4]),(16,.bool false),(15,.int .i64 (ce (xs))),(6,.int .i64 (ce (xs))),(5,.pointer (some ⟨g5,0,none⟩)),(14,.int .i64 (ce (xs))),(13,.agg #[.bool b4,.slice ad4 n4 c4,.slice ae4 m4 d4]),(10,.tuple #[.agg #[.bool b4,.slice ad4 n4 c4,.slice ae4 m4 d4],.int .i64 (ce (xs))]),(12,.tuple #[.agg #[.bool b4,.slice ad4 n4 c4,.slice ae4 m4 d4],.int .i64 (ce (xs))]),(11,.string (bstr xs)),(4,.int .i64 0),(0,.string (bstr xs))]) hF (r_assign (hF.at 1 rfl)) rfl rfl rfl rfl fun a hF=>?_
     refine E.opset (L':=[(4,.int .i64 0),(3,.int .i64 (sm64 (sg false (Rat.den (cz (xs)))))),(2,.int .i64 (sm64 (Rat.num (cz (xs))))),(40,.int .i64 (sm64 (sg false (Rat.den (cz (xs)))))),(39,.int .i64 (sm64 (Rat.num (cz (xs))))),(38,.bool false),(37,.bool false),(36,.int .i64 (sm64 (sg false (Rat.den (cz (xs)))))),(35,.bool false),(34,.bool false),(33,.bool (fit64 (sg false (Rat.den (cz (xs)))))),(8,.bool (fit64 (sg false (Rat.den (cz (xs)))))),(9,.int .i64 (sm64 (sg false (Rat.den (cz (xs)))))),(32,.bool (fit64 (sg false (Rat.den (cz (xs)))))),(31,.int .i64 (sm64 (sg false (Rat.den (cz (xs)))))),(26,.tuple #[.int .i64 (sm64 (sg false (Rat.den (cz (xs))))),.bool (fit64 (sg false (Rat.den (cz (xs)))))]),(30,.tuple #[.int .i64 (sm64 (sg false (Rat.den (cz (xs))))),.bool (fit64 (sg false (Rat.den (cz (xs)))))]),(29,.agg #[.bool (decide (sg false (Rat.den (cz (xs)))<0)),.slice ad20 n20 c20]),(28,.slice ad16 n16 c16),(27,.agg #[.bool b4,.slice ad4 n4 c4,.slice ae4 m4 d4]),(25,.bool false),(24,.bool (fit64 (Rat.num (cz (xs))))),(7,.int .i64 (sm64 (Rat.num (cz (xs))))),(23,.bool (fit64 (Rat.num (cz (xs))))),(22,.int .i64 (sm64 (Rat.num (cz (xs))))),(18,.tuple #[.int .i64 (sm64 (Rat.num (cz (xs)))),.bool (fit64 (Rat.num (cz (xs))))]),(21,.tuple #[.int .i64 (sm64 (Rat.num (cz (xs)))),.bool (fit64 (Rat.num (cz (xs))))]),(20,.agg #[.bool (decide (Rat.num (cz (xs))<0)),.slice ad10 n10 c10]),(19,.agg #[.bool b4,.slice ad4 n4 c4,.slice ae4 m4 d4]),(16,.bool false),(15,.int .i64 (ce (xs))),(6,.int .i64 (ce (xs))),(5,.pointer (some ⟨g5,0,none⟩)),(14,.int .i64 (ce (xs))),(13,.agg #[.bool b4,.slice ad4 n4 c4,.slice ae4 m4 d4]),(10,.tuple #[.agg #[.bool b4,.slice ad4 n4 c4,.slice ae4 m4 d4],.int .i64 (ce (xs))]),(12,.tuple #[.agg #[.bool b4,.slice ad4 n4 c4,.slice ae4 m4 d4],.int .i64 (ce (xs))]),(11,.string (bstr xs)),(0,.string (bstr xs))]) hF (r_assign ev_c) rfl rfl rfl rfl fun a hF=>?_
     refine E.nil ?_
     refine wp_ret ?_
     have bel:=st.bel
     refine bodyPost_ret (res_tmp3 Tryz.results20 (hF.at 2 rfl) (hF.at 1 rfl) (hF.at 0 rfl)) hF.dfr ?_
     have hk:=an_4 hc6 hc12 hc22 (by have:=hc23;rw[sm_fit hc22] at this;exact this)
     exact⟨rv_in3p ((sm_fit hc12).trans hk.2.1.symm) ((sm_fit hc22).trans hk.2.2.symm) hk.1.symm,bel⟩
   ·refine E.opv hF (r_un (Eq.trans (hF.at 0 rfl) (congrArg Value.bool (eq_false_of_ne_true hc22))) (bn_not _ true rfl)) rfl rfl rfl rfl fun a hF=>?_
    refine E.opv hF (r_move (hF.at 0 rfl)) rfl rfl rfl rfl fun a hF=>?_
    refine E.unwanted hF (wanted_by rfl rfl (hF.at 0 rfl) rfl) rfl rfl rfl fun a hF=>?_
    refine E.unwanted hF (wanted_by rfl rfl (hF.at 1 rfl) rfl) rfl rfl rfl fun a hF=>?_
    refine E.opv hF (r_pick_t (hF.at 2 rfl) ev_c) rfl rfl rfl rfl fun a hF=>?_
    refine E.nil ?_
    refine wp_cond_true (hF.at 0 rfl) ?_
    refine wp_seq ?_
    refine E.seq ?_
    refine E.opset (L':=[(2,.int .i64 0),(38,.bool true),(37,undef),(36,undef),(35,.bool true),(34,.bool true),(33,.bool (fit64 (sg false (Rat.den (cz (xs)))))),(8,.bool (fit64 (sg false (Rat.den (cz (xs)))))),(9,.int .i64 (sm64 (sg false (Rat.den (cz (xs)))))),(32,.bool (fit64 (sg false (Rat.den (cz (xs)))))),(31,.int .i64 (sm64 (sg false (Rat.den (cz (xs)))))),(26,.tuple #[.int .i64 (sm64 (sg false (Rat.den (cz (xs))))),.bool (fit64 (sg false (Rat.den (cz (xs)))))]),(30,.tuple #[.int .i64 (sm64 (sg false (Rat.den (cz (xs))))),.bool (fit64 (sg false (Rat.den (cz (xs)))))]),(29,.agg #[.bool (decide (sg false (Rat.den (cz (xs)))<0)),.slice ad20 n20 c20]),(28,.slice ad16 n16 c16),(27,.agg #[.bool b4,.slice ad4 n4 c4,.slice ae4 m4 d4]),(25,.bool false),(24,.bool (fit64 (Rat.num (cz (xs))))),(7,.int .i64 (sm64 (Rat.num (cz (xs))))),(23,.bool (fit64 (Rat.num (cz (xs))))),(22,.int .i64 (sm64 (Rat.num (cz (xs))))),(18,.tuple #[.int .i64 (sm64 (Rat.num (cz (xs)))),.bool (fit64 (Rat.num (cz (xs))))]),(21,.tuple #[.int .i64 (sm64 (Rat.num (cz (xs)))),.bool (fit64 (Rat.num (cz (xs))))]),(20,.agg #[.bool (decide (Rat.num (cz (xs))<0)),.slice ad10 n10 c10]),(19,.agg #[.bool b4,.slice ad4 n4 c4,.slice ae4 m4 d4]),(16,.bool false),(15,.int .i64 (ce (xs))),(6,.int .i64 (ce (xs))),(5,.pointer (some ⟨g5,0,none⟩)),(14,.int .i64 (ce (xs))),(13,.agg #[.bool b4,.slice ad4 n4 c4,.slice ae4 m4 d4]),(10,.tuple #[.agg #[.bool b4,.slice ad4 n4 c4,.slice ae4 m4 d4],.int .i64 (ce (xs))]),(12,.tuple #[.agg #[.bool b4,.slice ad4 n4 c4,.slice ae4 m4 d4],.int .i64 (ce (xs))]),(11,.string (bstr xs)),(4,.int .i64 0),(3,.int .i64 0),(0,.string (bstr xs))]) hF (r_assign ev_c) rfl rfl rfl rfl fun a hF=>?_
    refine E.opset (L':=[(3,.int .i64 0),(2,.int .i64 0),(38,.bool true),(37,undef),(36,undef),(35,.bool true),(34,.bool true),(33,.bool (fit64 (sg false (Rat.den (cz (xs)))))),(8,.bool (fit64 (sg false (Rat.den (cz (xs)))))),(9,.int .i64 (sm64 (sg false (Rat.den (cz (xs)))))),(32,.bool (fit64 (sg false (Rat.den (cz (xs)))))),(31,.int .i64 (sm64 (sg false (Rat.den (cz (xs)))))),(26,.tuple #[.int .i64 (sm64 (sg false (Rat.den (cz (xs))))),.bool (fit64 (sg false (Rat.den (cz (xs)))))]),(30,.tuple #[.int .i64 (sm64 (sg false (Rat.den (cz (xs))))),.bool (fit64 (sg false (Rat.den (cz (xs)))))]),(29,.agg #[.bool (decide (sg false (Rat.den (cz (xs)))<0)),.slice ad20 n20 c20]),(28,.slice ad16 n16 c16),(27,.agg #[.bool b4,.slice ad4 n4 c4,.slice ae4 m4 d4]),(25,.bool false),(24,.bool (fit64 (Rat.num (cz (xs))))),(7,.int .i64 (sm64 (Rat.num (cz (xs))))),(23,.bool (fit64 (Rat.num (cz (xs))))),(22,.int .i64 (sm64 (Rat.num (cz (xs))))),(18,.tuple #[.int .i64 (sm64 (Rat.num (cz (xs)))),.bool (fit64 (Rat.num (cz (xs))))]),(21,.tuple #[.int .i64 (sm64 (Rat.num (cz (xs)))),.bool (fit64 (Rat.num (cz (xs))))]),(20,.agg #[.bool (decide (Rat.num (cz (xs))<0)),.slice ad10 n10 c10]),(19,.agg #[.bool b4,.slice ad4 n4 c4,.slice ae4 m4 d4]),(16,.bool false),(15,.int .i64 (ce (xs))),(6,.int .i64 (ce (xs))),(5,.pointer (some ⟨g5,0,none⟩)),(14,.int .i64 (ce (xs))),(13,.agg #[.bool b4,.slice ad4 n4 c4,.slice ae4 m4 d4]),(10,.tuple #[.agg #[.bool b4,.slice ad4 n4 c4,.slice ae4 m4 d4],.int .i64 (ce (xs))]),(12,.tuple #[.agg #[.bool b4,.slice ad4 n4 c4,.slice ae4 m4 d4],.int .i64 (ce (xs))]),(11,.string (bstr xs)),(4,.int .i64 0),(0,.string (bstr xs))]) hF (r_assign ev_c) rfl rfl rfl rfl fun a hF=>?_
    refine E.opset (L':=[(4,.int .i64 2),(3,.int .i64 0),(2,.int .i64 0),(38,.bool true),(37,undef),(36,undef),(35,.bool true),(34,.bool true),(33,.bool (fit64 (sg false (Rat.den (cz (xs)))))),(8,.bool (fit64 (sg false (Rat.den (cz (xs)))))),(9,.int .i64 (sm64 (sg false (Rat.den (cz (xs)))))),(32,.bool (fit64 (sg false (Rat.den (cz (xs)))))),(31,.int .i64 (sm64 (sg false (Rat.den (cz (xs)))))),(26,.tuple #[.int .i64 (sm64 (sg false (Rat.den (cz (xs))))),.bool (fit64 (sg false (Rat.den (cz (xs)))))]),(30,.tuple #[.int .i64 (sm64 (sg false (Rat.den (cz (xs))))),.bool (fit64 (sg false (Rat.den (cz (xs)))))]),(29,.agg #[.bool (decide (sg false (Rat.den (cz (xs)))<0)),.slice ad20 n20 c20]),(28,.slice ad16 n16 c16),(27,.agg #[.bool b4,.slice ad4 n4 c4,.slice ae4 m4 d4]),(25,.bool false),(24,.bool (fit64 (Rat.num (cz (xs))))),(7,.int .i64 (sm64 (Rat.num (cz (xs))))),(23,.bool (fit64 (Rat.num (cz (xs))))),(22,.int .i64 (sm64 (Rat.num (cz (xs))))),(18,.tuple #[.int .i64 (sm64 (Rat.num (cz (xs)))),.bool (fit64 (Rat.num (cz (xs))))]),(21,.tuple #[.int .i64 (sm64 (Rat.num (cz (xs)))),.bool (fit64 (Rat.num (cz (xs))))]),(20,.agg #[.bool (decide (Rat.num (cz (xs))<0)),.slice ad10 n10 c10]),(19,.agg #[.bool b4,.slice ad4 n4 c4,.slice ae4 m4 d4]),(16,.bool false),(15,.int .i64 (ce (xs))),(6,.int .i64 (ce (xs))),(5,.pointer (some ⟨g5,0,none⟩)),(14,.int .i64 (ce (xs))),(13,.agg #[.bool b4,.slice ad4 n4 c4,.slice ae4 m4 d4]),(10,.tuple #[.agg #[.bool b4,.slice ad4 n4 c4,.slice ae4 m4 d4],.int .i64 (ce (xs))]),(12,.tuple #[.agg #[.bool b4,.slice ad4 n4 c4,.slice ae4 m4 d4],.int .i64 (ce (xs))]),(11,.string (bstr xs)),(0,.string (bstr xs))]) hF (r_assign ev_c) rfl rfl rfl rfl fun a hF=>?_
    refine E.nil ?_
    refine wp_ret ?_
    have bel:=st.bel
    refine bodyPost_ret (res_tmp3 Tryz.results20 (hF.at 2 rfl) (hF.at 1 rfl) (hF.at 0 rfl)) hF.dfr ?_
    have hk:=an_3 hc6 hc12 (.inl (fitf hc22))
    exact⟨rv_in3p hk.2.1.symm hk.2.2.symm hk.1.symm,bel⟩
  ·refine E.opv hF (r_un (Eq.trans (hF.at 0 rfl) (congrArg Value.bool (eq_false_of_ne_true hc12))) (bn_not _ true rfl)) rfl rfl rfl rfl fun a hF=>?_
   refine E.nil ?_
   refine wp_cond_true (hF.at 0 rfl) ?_
   refine wp_seq ?_
   refine E.seq ?_
   refine E.opset (L':=[(2,.int .i64 0),(25,.bool true),(24,.bool (fit64 (Rat.num (cz (xs))))),(8,.bool (fit64 (Rat.num (cz (xs))))),(7,.int .i64 (sm64 (Rat.num (cz (xs))))),(23,.bool (fit64 (Rat.num (cz (xs))))),(22,.int .i64 (sm64 (Rat.num (cz (xs))))),(18,.tuple #[.int .i64 (sm64 (Rat.num (cz (xs)))),.bool (fit64 (Rat.num (cz (xs))))]),(21,.tuple #[.int .i64 (sm64 (Rat.num (cz (xs)))),.bool (fit64 (Rat.num (cz (xs))))]),(20,.agg #[.bool (decide (Rat.num (cz (xs))<0)),.slice ad10 n10 c10]),(19,.agg #[.bool b4,.slice ad4 n4 c4,.slice ae4 m4 d4]),(16,.bool false),(15,.int .i64 (ce (xs))),(6,.int .i64 (ce (xs))),(5,.pointer (some ⟨g5,0,none⟩)),(14,.int .i64 (ce (xs))),(13,.agg #[.bool b4,.slice ad4 n4 c4,.slice ae4 m4 d4]),(10,.tuple #[.agg #[.bool b4,.slice ad4 n4 c4,.slice ae4 m4 d4],.int .i64 (ce (xs))]),(12,.tuple #[.agg #[.bool b4,.slice ad4 n4 c4,.slice ae4 m4 d4],.int .i64 (ce (xs))]),(11,.string (bstr xs)),(4,.int .i64 0),(3,.int .i64 0),(0,.string (bstr xs))]) hF (r_assign ev_c) rfl rfl rfl rfl fun a hF=>?_
   refine E.opset (L':=[(3,.int .i64 0),(2,.int .i64 0),(25,.bool true),(24,.bool (fit64 (Rat.num (cz (xs))))),(8,.bool (fit64 (Rat.num (cz (xs))))),(7,.int .i64 (sm64 (Rat.num (cz (xs))))),(23,.bool (fit64 (Rat.num (cz (xs))))),(22,.int .i64 (sm64 (Rat.num (cz (xs))))),(18,.tuple #[.int .i64 (sm64 (Rat.num (cz (xs)))),.bool (fit64 (Rat.num (cz (xs))))]),(21,.tuple #[.int .i64 (sm64 (Rat.num (cz (xs)))),.bool (fit64 (Rat.num (cz (xs))))]),(20,.agg #[.bool (decide (Rat.num (cz (xs))<0)),.slice ad10 n10 c10]),(19,.agg #[.bool b4,.slice ad4 n4 c4,.slice ae4 m4 d4]),(16,.bool false),(15,.int .i64 (ce (xs))),(6,.int .i64 (ce (xs))),(5,.pointer (some ⟨g5,0,none⟩)),(14,.int .i64 (ce (xs))),(13,.agg #[.bool b4,.slice ad4 n4 c4,.slice ae4 m4 d4]),(10,.tuple #[.agg #[.bool b4,.slice ad4 n4 c4,.slice ae4 m4 d4],.int .i64 (ce (xs))]),(12,.tuple #[.agg #[.bool b4,.slice ad4 n4 c4,.slice ae4 m4 d4],.int .i64 (ce (xs))]),(11,.string (bstr xs)),(4,.int .i64 0),(0,.string (bstr xs))]) hF (r_assign ev_c) rfl rfl rfl rfl fun a hF=>?_
   refine E.opset (L':=[(4,.int .i64 2),(3,.int .i64 0),(2,.int .i64 0),(25,.bool true),(24,.bool (fit64 (Rat.num (cz (xs))))),(8,.bool (fit64 (Rat.num (cz (xs))))),(7,.int .i64 (sm64 (Rat.num (cz (xs))))),(23,.bool (fit64 (Rat.num (cz (xs))))),(22,.int .i64 (sm64 (Rat.num (cz (xs))))),(18,.tuple #[.int .i64 (sm64 (Rat.num (cz (xs)))),.bool (fit64 (Rat.num (cz (xs))))]),(21,.tuple #[.int .i64 (sm64 (Rat.num (cz (xs)))),.bool (fit64 (Rat.num (cz (xs))))]),(20,.agg #[.bool (decide (Rat.num (cz (xs))<0)),.slice ad10 n10 c10]),(19,.agg #[.bool b4,.slice ad4 n4 c4,.slice ae4 m4 d4]),(16,.bool false),(15,.int .i64 (ce (xs))),(6,.int .i64 (ce (xs))),(5,.pointer (some ⟨g5,0,none⟩)),(14,.int .i64 (ce (xs))),(13,.agg #[.bool b4,.slice ad4 n4 c4,.slice ae4 m4 d4]),(10,.tuple #[.agg #[.bool b4,.slice ad4 n4 c4,.slice ae4 m4 d4],.int .i64 (ce (xs))]),(12,.tuple #[.agg #[.bool b4,.slice ad4 n4 c4,.slice ae4 m4 d4],.int .i64 (ce (xs))]),(11,.string (bstr xs)),(0,.string (bstr xs))]) hF (r_assign ev_c) rfl rfl rfl rfl fun a hF=>?_
   refine E.nil ?_
   refine wp_ret ?_
   have bel:=st.bel
   refine bodyPost_ret (res_tmp3 Tryz.results20 (hF.at 2 rfl) (hF.at 1 rfl) (hF.at 0 rfl)) hF.dfr ?_
   have hk:=an_2 hc6 (fitf hc12)
   exact⟨rv_in3p hk.2.1.symm hk.2.2.symm hk.1.symm,bel⟩
theorem pParse_any (xs:List Nat) (w:World) (hM:MLen w) (h8:okb 256 xs) (hl:xs.length≤1000000000):
 Calls Tryz.prog 6 #[.string (bstr xs)] w (ValPost w (.tuple #[ppV xs,.int .i64 (ppE xs)])):=by
 have st:=St.start w
 refine E.enter (nt:=55) (L:=[(0,.string (bstr xs))]) Tryz.func6 rfl rfl rfl (args_cons (i:=0) rfl args_nil) ?_
 intro a hF
 refine wp_seq ?_
 refine E.seq ?_
 refine S.alloc st hF ty_Plc rfl rfl fun g2 w1 a st hF=>?_
 refine E.opv hF (r_assign ev_c) rfl rfl rfl rfl fun a hF=>?_
 refine E.nil ?_
 refine wp_seq ?_
 refine E.seq ?_
 refine E.opv hF (r_move (hF.at 2 rfl)) rfl rfl rfl rfl fun a hF=>?_
 refine S.callx st hF (r_call Tryz.func19 en19.1 en19.2 (map2 (hF.at 0 rfl) ev_c)) (scut44_any (xs) _ (hM.below st.bel) h8 (by first|omega|decide)) rfl rfl rfl rfl fun w2 a st hF=>?_
 have hhl44:=hd_len44 (xs)
 have htl44:=tl_len44 (xs)
 refine E.opv hF (r_move (hF.at 0 rfl)) rfl rfl rfl rfl fun a hF=>?_
 refine E.opv hF (r_extract (v:= .string (bstr (hd44 (xs)))) (hF.at 0 rfl) rfl) rfl rfl rfl rfl fun a hF=>?_
 refine E.opv hF (r_extract (v:= .string (bstr (tl44 (xs)))) (hF.at 1 rfl) rfl) rfl rfl rfl rfl fun a hF=>?_
 refine E.opv hF (r_extract (v:= .bool (has44 (xs))) (hF.at 2 rfl) rfl) rfl rfl rfl rfl fun a hF=>?_
 refine E.opv hF (r_assign (hF.at 2 rfl)) rfl rfl rfl rfl fun a hF=>?_
 refine E.opv hF (r_assign (hF.at 2 rfl)) rfl rfl rfl rfl fun a hF=>?_
 refine E.opv hF (r_assign (hF.at 2 rfl)) rfl rfl rfl rfl fun a hF=>?_
 refine E.nil ?_
 refine wp_seq ?_
 refine wp_seq ?_
 refine E.seq ?_
 refine E.opv hF (r_move (hF.at 0 rfl)) rfl rfl rfl rfl fun a hF=>?_
 by_cases hc3:has44 (xs)=true
 ·refine E.opv hF (r_un (Eq.trans (hF.at 0 rfl) (congrArg Value.bool hc3)) (bn_not _ false rfl)) rfl rfl rfl rfl fun a hF=>?_
  refine E.nil ?_
  refine wp_cond_false (hF.at 0 rfl) ?_
  refine wp_skip ?_
  refine E.norm ?_
  refine wp_seq ?_
  refine E.seq ?_
  refine E.opv hF (r_move (hF.at 4 rfl)) rfl rfl rfl rfl fun a hF=>?_
  refine S.callx st hF (r_call Tryz.func20 en20.1 en20.2 (map1 (hF.at 0 rfl))) (angle_any ((hd44 (xs))) _ (hM.below st.bel) (okb_hd44 h8) (by first|omega|decide)) rfl rfl rfl rfl fun w4 a st hF=>?_
  have hab756:=an_bd ((hd44 (xs)))
  refine E.opv hF (r_move (hF.at 0 rfl)) rfl rfl rfl rfl fun a hF=>?_
  refine E.opv hF (r_extract (v:= .int .i64 (anA ((hd44 (xs))))) (hF.at 0 rfl) rfl) rfl rfl rfl rfl fun a hF=>?_
  refine E.opv hF (r_extract (v:= .int .i64 (anB ((hd44 (xs))))) (hF.at 1 rfl) rfl) rfl rfl rfl rfl fun a hF=>?_
  refine E.opv hF (r_extract (v:= .int .i64 (anE ((hd44 (xs))))) (hF.at 2 rfl) rfl) rfl rfl rfl rfl fun a hF=>?_
  refine E.opv hF (r_assign (hF.at 2 rfl)) rfl rfl rfl rfl fun a hF=>?_
  refine E.opv hF (r_assign (hF.at 2 rfl)) rfl rfl rfl rfl fun a hF=>?_
  refine E.opv hF (r_assign (hF.at 2 rfl)) rfl rfl rfl rfl fun a hF=>?_
  refine E.nil ?_
  refine wp_seq ?_
  refine wp_seq ?_
  refine E.seq ?_
  refine E.opv hF (r_move (hF.at 0 rfl)) rfl rfl rfl rfl fun a hF=>?_
  by_cases hc5:anE ((hd44 (xs)))≠0
  ·refine E.opv hF (r_bin (hF.at 0 rfl) ev_c eg_scalar (bi_int (ic_neq (c:=true) (dec_tt hc5)) (by simp))) rfl rfl rfl rfl fun a hF=>?_
   refine E.nil ?_
   refine wp_cond_true (hF.at 0 rfl) ?_
   refine wp_seq ?_
   refine E.seq ?_
   refine E.opv hF (r_build (by simp) (bd_Plc_ _)) rfl rfl rfl rfl fun a hF=>?_
   refine E.opv hF (r_move (hF.at 3 rfl)) rfl rfl rfl rfl fun a hF=>?_
   refine S.stoI st hF 0 rfl (hF.at 25 rfl) (hF.at 1 rfl) ty_Plc rfl rfl rfl fun w6 a st hF=>?_
   refine E.opset (L':=[(3,.int .i64 (anE ((hd44 (xs))))),(32,.int .i64 (anE ((hd44 (xs))))),(31,.agg #[.int .i64 0,.int .i64 0,.int .i64 0,.int .i64 0]),(30,.bool true),(29,.int .i64 (anE ((hd44 (xs))))),(9,.int .i64 (anE ((hd44 (xs))))),(8,.int .i64 (anB ((hd44 (xs))))),(7,.int .i64 (anA ((hd44 (xs))))),(28,.int .i64 (anE ((hd44 (xs))))),(27,.int .i64 (anB ((hd44 (xs))))),(26,.int .i64 (anA ((hd44 (xs))))),(23,.tuple #[.int .i64 (anA ((hd44 (xs)))),.int .i64 (anB ((hd44 (xs)))),.int .i64 (anE ((hd44 (xs))))]),(25,.tuple #[.int .i64 (anA ((hd44 (xs)))),.int .i64 (anB ((hd44 (xs)))),.int .i64 (anE ((hd44 (xs))))]),(24,.string (bstr (hd44 (xs)))),(21,.bool false),(20,.bool (has44 (xs))),(6,.bool (has44 (xs))),(5,.string (bstr (tl44 (xs)))),(4,.string (bstr (hd44 (xs)))),(19,.bool (has44 (xs))),(18,.string (bstr (tl44 (xs)))),(17,.string (bstr (hd44 (xs)))),(14,.tuple #[.string (bstr (hd44 (xs))),.string (bstr (tl44 (xs))),.bool (has44 (xs))]),(16,.tuple #[.string (bstr (hd44 (xs))),.string (bstr (tl44 (xs))),.bool (has44 (xs))]),(15,.string (bstr xs)),(2,.pointer (some ⟨g2,0,none⟩)),(0,.string (bstr xs))]) hF (r_assign (hF.at 0 rfl)) rfl rfl rfl rfl fun a hF=>?_
   refine E.nil ?_
   refine wp_ret ?_
   have bel:=st.bel
   refine bodyPost_ret (res_celltmp Tryz.results6 (hF.at 25 rfl) (ld_all ty_Plc (st.bk 0 rfl) rfl) (hF.at 0 rfl)) hF.dfr ?_
   have hk:=pp_2 (hast44 hc3) hc5
   exact⟨rv_pp (ppV_no (by rw[hk];exact hc5)).symm hk.symm,bel⟩
  ·refine E.opv hF (r_bin (hF.at 0 rfl) ev_c eg_scalar (bi_int (ic_neq (c:=false) (dec_ff hc5)) (by simp))) rfl rfl rfl rfl fun a hF=>?_
   refine E.nil ?_
   refine wp_cond_false (hF.at 0 rfl) ?_
   refine wp_skip ?_
   refine E.norm ?_
   refine wp_seq ?_
   refine E.seq ?_
   refine E.opv hF (r_move (hF.at 14 rfl)) rfl rfl rfl rfl fun a hF=>?_
   refine S.callx st hF (r_call Tryz.func20 en20.1 en20.2 (map1 (hF.at 0 rfl))) (angle_any ((tl44 (xs))) _ (hM.below st.bel) (okb_tl44 h8) (by first|omega|decide)) rfl rfl rfl rfl fun w7 a st hF=>?_
   have hab90:=an_bd ((tl44 (xs)))
   refine E.opv hF (r_move (hF.at 0 rfl)) rfl rfl rfl rfl fun a hF=>?_
   refine E.opv hF (r_extract (v:= .int .i64 (anA ((tl44 (xs))))) (hF.at 0 rfl) rfl) rfl rfl rfl rfl fun a hF=>?_
   refine E.opv hF (r_extract (v:= .int .i64 (anB ((tl44 (xs))))) (hF.at 1 rfl) rfl) rfl rfl rfl rfl fun a hF=>?_
   refine E.opv hF (r_extract (v:= .int .i64 (anE ((tl44 (xs))))) (hF.at 2 rfl) rfl) rfl rfl rfl rfl fun a hF=>?_
   refine E.opv hF (r_assign (hF.at 2 rfl)) rfl rfl rfl rfl fun a hF=>?_
   refine E.opv hF (r_assign (hF.at 2 rfl)) rfl rfl rfl rfl fun a hF=>?_
   refine E.opset (L':=[(9,.int .i64 (anE ((tl44 (xs))))),(11,.int .i64 (anB ((tl44 (xs))))),(10,.int .i64 (anA ((tl44 (xs))))),(38,.int .i64 (anE ((tl44 (xs))))),(37,.int .i64 (anB ((tl44 (xs))))),(36,.int .i64 (anA ((tl44 (xs))))),(33,.tuple #[.int .i64 (anA ((tl44 (xs)))),.int .i64 (anB ((tl44 (xs)))),.int .i64 (anE ((tl44 (xs))))]),(35,.tuple #[.int .i64 (anA ((tl44 (xs)))),.int .i64 (anB ((tl44 (xs)))),.int .i64 (anE ((tl44 (xs))))]),(34,.string (bstr (tl44 (xs)))),(30,.bool false),(29,.int .i64 (anE ((hd44 (xs))))),(8,.int .i64 (anB ((hd44 (xs))))),(7,.int .i64 (anA ((hd44 (xs))))),(28,.int .i64 (anE ((hd44 (xs))))),(27,.int .i64 (anB ((hd44 (xs))))),(26,.int .i64 (anA ((hd44 (xs))))),(23,.tuple #[.int .i64 (anA ((hd44 (xs)))),.int .i64 (anB ((hd44 (xs)))),.int .i64 (anE ((hd44 (xs))))]),(25,.tuple #[.int .i64 (anA ((hd44 (xs)))),.int .i64 (anB ((hd44 (xs)))),.int .i64 (anE ((hd44 (xs))))]),(24,.string (bstr (hd44 (xs)))),(21,.bool false),(20,.bool (has44 (xs))),(6,.bool (has44 (xs))),(5,.string (bstr (tl44 (xs)))),(4,.string (bstr (hd44 (xs)))),(19,.bool (has44 (xs))),(18,.string (bstr (tl44 (xs)))),(17,.string (bstr (hd44 (xs)))),(14,.tuple #[.string (bstr (hd44 (xs))),.string (bstr (tl44 (xs))),.bool (has44 (xs))]),(16,.tuple #[.string (bstr (hd44 (xs))),.string (bstr (tl44 (xs))),.bool (has44 (xs))]),(15,.string (bstr xs)),(3,.int .i64 0),(2,.pointer (some ⟨g2,0,none⟩)),(0,.string (bstr xs))]) hF (r_assign (hF.at 2 rfl)) rfl rfl rfl rfl fun a hF=>?_
   refine E.nil ?_
   refine wp_seq ?_
   refine wp_seq ?_
   refine E.seq ?_
   refine E.opv hF (r_move (hF.at 0 rfl)) rfl rfl rfl rfl fun a hF=>?_
   by_cases hc8:anE ((tl44 (xs)))≠0
   ·refine E.opv hF (r_bin (hF.at 0 rfl) ev_c eg_scalar (bi_int (ic_neq (c:=true) (dec_tt hc8)) (by simp))) rfl rfl rfl rfl fun a hF=>?_
    refine E.nil ?_
    refine wp_cond_true (hF.at 0 rfl) ?_
    refine wp_seq ?_
    refine E.seq ?_
    refine E.opv hF (r_build (by simp) (bd_Plc_ _)) rfl rfl rfl rfl fun a hF=>?_
    refine E.opv hF (r_move (hF.at 3 rfl)) rfl rfl rfl rfl fun a hF=>?_
    refine S.stoI st hF 0 rfl (hF.at 35 rfl) (hF.at 1 rfl) ty_Plc rfl rfl rfl fun w9 a st hF=>?_
    refine E.opset (L':=[(3,.int .i64 (anE ((tl44 (xs))))),(42,.int .i64 (anE ((tl44 (xs))))),(41,.agg #[.int .i64 0,.int .i64 0,.int .i64 0,.int .i64 0]),(40,.bool true),(39,.int .i64 (anE ((tl44 (xs))))),(9,.int .i64 (anE ((tl44 (xs))))),(11,.int .i64 (anB ((tl44 (xs))))),(10,.int .i64 (anA ((tl44 (xs))))),(38,.int .i64 (anE ((tl44 (xs))))),(37,.int .i64 (anB ((tl44 (xs))))),(36,.int .i64 (anA ((tl44 (xs))))),(33,.tuple #[.int .i64 (anA ((tl44 (xs)))),.int .i64 (anB ((tl44 (xs)))),.int .i64 (anE ((tl44 (xs))))]),(35,.tuple #[.int .i64 (anA ((tl44 (xs)))),.int .i64 (anB ((tl44 (xs)))),.int .i64 (anE ((tl44 (xs))))]),(34,.string (bstr (tl44 (xs)))),(30,.bool false),(29,.int .i64 (anE ((hd44 (xs))))),(8,.int .i64 (anB ((hd44 (xs))))),(7,.int .i64 (anA ((hd44 (xs))))),(28,.int .i64 (anE ((hd44 (xs))))),(27,.int .i64 (anB ((hd44 (xs))))),(26,.int .i64 (anA ((hd44 (xs))))),(23,.tuple #[.int .i64 (anA ((hd44 (xs)))),.int .i64 (anB ((hd44 (xs)))),.int .i64 (anE ((hd44 (xs))))]),(25,.tuple #[.int .i64 (anA ((hd44 (xs)))),.int .i64 (anB ((hd44 (xs)))),.int .i64 (anE ((hd44 (xs))))]),(24,.string (bstr (hd44 (xs)))),(21,.bool false),(20,.bool (has44 (xs))),(6,.bool (has44 (xs))),(5,.string (bstr (tl44 (xs)))),(4,.string (bstr (hd44 (xs)))),(19,.bool (has44 (xs))),(18,.string (bstr (tl44 (xs)))),(17,.string (bstr (hd44 (xs)))),(14,.tuple #[.string (bstr (hd44 (xs))),.string (bstr (tl44 (xs))),.bool (has44 (xs))]),(16,.tuple #[.string (bstr (hd44 (xs))),.string (bstr (tl44 (xs))),.bool (has44 (xs))]),(15,.string (bstr xs)),(2,.pointer (some ⟨g2,0,none⟩)),(0,.string (bstr xs))]) hF (r_assign (hF.at 0 rfl)) rfl rfl rfl rfl fun a hF=>?_
    refine E.nil ?_
    refine wp_ret ?_
    have bel:=st.bel
    refine bodyPost_ret (res_celltmp Tryz.results6 (hF.at 35 rfl) (ld_all ty_Plc (st.bk 0 rfl) rfl) (hF.at 0 rfl)) hF.dfr ?_
    have hk:=pp_3 (hast44 hc3) hc5 hc8
    exact⟨rv_pp (ppV_no (by rw[hk];exact hc8)).symm hk.symm,bel⟩
   ·refine E.opv hF (r_bin (hF.at 0 rfl) ev_c eg_scalar (bi_int (ic_neq (c:=false) (dec_ff hc8)) (by simp))) rfl rfl rfl rfl fun a hF=>?_
    refine E.nil ?_
    refine wp_cond_false (hF.at 0 rfl) ?_
    refine wp_skip ?_
    refine E.norm ?_
    refine wp_seq ?_
    refine E.seq ?_
    refine E.opv hF (r_move (hF.at 14 rfl)) rfl rfl rfl rfl fun a hF=>?_
    refine E.opv hF (r_move (hF.at 14 rfl)) rfl rfl rfl rfl fun a hF=>?_
    refine E.opv hF (r_move (hF.at 6 rfl)) rfl rfl rfl rfl fun a hF=>?_
    refine E.opv hF (r_move (hF.at 6 rfl)) rfl rfl rfl rfl fun a hF=>?_
    refine E.opv hF (r_build (pair4 (hF.at 3 rfl) (hF.at 2 rfl) (hF.at 1 rfl) (hF.at 0 rfl)) (bd_Plc_0123 _ _ _ _ _)) rfl rfl rfl rfl fun a hF=>?_
    refine S.new st hF 0 rfl ty_Plc rfl rfl rfl rfl rfl fun g12 w10 a st hF=>?_
    refine E.nil ?_
    refine wp_seq ?_
    refine wp_seq ?_
    refine E.seq ?_
    refine E.opv hF (r_load (hF.at 0 rfl) (ld_all ty_Plc (st.bk 0 rfl) rfl)) rfl rfl rfl rfl fun a hF=>?_
    refine S.callx st hF (r_call Tryz.func8 en8.1 en8.2 (map1 (hF.at 0 rfl))) (pCheck_any (anA ((hd44 (xs)))) (anB ((hd44 (xs)))) (anA ((tl44 (xs)))) (anB ((tl44 (xs)))) _) rfl rfl rfl rfl fun w11 a st hF=>?_
    refine E.opv hF (r_assign (hF.at 0 rfl)) rfl rfl rfl rfl fun a hF=>?_
    refine E.nil ?_
    refine wp_seq ?_
    refine E.seq ?_
    refine E.opv hF (r_move (hF.at 0 rfl)) rfl rfl rfl rfl fun a hF=>?_
    by_cases hc12:plE (anA ((hd44 (xs)))) (anB ((hd44 (xs)))) (anA ((tl44 (xs)))) (anB ((tl44 (xs))))≠0
    ·refine E.opv hF (r_bin (hF.at 0 rfl) ev_c eg_scalar (bi_int (ic_neq (c:=true) (dec_tt hc12)) (by simp))) rfl rfl rfl rfl fun a hF=>?_
     refine E.nil ?_
     refine wp_cond_true (hF.at 0 rfl) ?_
     refine wp_seq ?_
     refine E.seq ?_
     refine E.opv hF (r_build (by simp) (bd_Plc_ _)) rfl rfl rfl rfl fun a hF=>?_
     refine E.opv hF (r_move (hF.at 3 rfl)) rfl rfl rfl rfl fun a hF=>?_
     refine S.stoI st hF 1 rfl (hF.at 46 rfl) (hF.at 1 rfl) ty_Plc rfl rfl rfl fun w13 a st hF=>?_
     refine E.opset (L':=[(3,.int .i64 (plE (anA ((hd44 (xs)))) (anB ((hd44 (xs)))) (anA ((tl44 (xs)))) (anB ((tl44 (xs)))))),(53,.int .i64 (plE (anA ((hd44 (xs)))) (anB ((hd44 (xs)))) (anA ((tl44 (xs)))) (anB ((tl44 (xs)))))),(52,.agg #[.int .i64 0,.int .i64 0,.int .i64 0,.int .i64 0]),(51,.bool true),(50,.int .i64 (plE (anA ((hd44 (xs)))) (anB ((hd44 (xs)))) (anA ((tl44 (xs)))) (anB ((tl44 (xs)))))),(13,.int .i64 (plE (anA ((hd44 (xs)))) (anB ((hd44 (xs)))) (anA ((tl44 (xs)))) (anB ((tl44 (xs)))))),(49,.int .i64 (plE (anA ((hd44 (xs)))) (anB ((hd44 (xs)))) (anA ((tl44 (xs)))) (anB ((tl44 (xs)))))),(48,.agg #[.int .i64 (anA ((hd44 (xs)))),.int .i64 (anB ((hd44 (xs)))),.int .i64 (anA ((tl44 (xs)))),.int .i64 (anB ((tl44 (xs))))]),(12,.pointer (some ⟨g12,0,none⟩)),(47,.agg #[.int .i64 (anA ((hd44 (xs)))),.int .i64 (anB ((hd44 (xs)))),.int .i64 (anA ((tl44 (xs)))),.int .i64 (anB ((tl44 (xs))))]),(46,.int .i64 (anB ((tl44 (xs))))),(45,.int .i64 (anA ((tl44 (xs))))),(44,.int .i64 (anB ((hd44 (xs))))),(43,.int .i64 (anA ((hd44 (xs))))),(40,.bool false),(39,.int .i64 (anE ((tl44 (xs))))),(9,.int .i64 (anE ((tl44 (xs))))),(11,.int .i64 (anB ((tl44 (xs))))),(10,.int .i64 (anA ((tl44 (xs))))),(38,.int .i64 (anE ((tl44 (xs))))),(37,.int .i64 (anB ((tl44 (xs))))),(36,.int .i64 (anA ((tl44 (xs))))),(33,.tuple #[.int .i64 (anA ((tl44 (xs)))),.int .i64 (anB ((tl44 (xs)))),.int .i64 (anE ((tl44 (xs))))]),(35,.tuple #[.int .i64 (anA ((tl44 (xs)))),.int .i64 (anB ((tl44 (xs)))),.int .i64 (anE ((tl44 (xs))))]),(34,.string (bstr (tl44 (xs)))),(30,.bool false),(29,.int .i64 (anE ((hd44 (xs))))),(8,.int .i64 (anB ((hd44 (xs))))),(7,.int .i64 (anA ((hd44 (xs))))),(28,.int .i64 (anE ((hd44 (xs))))),(27,.int .i64 (anB ((hd44 (xs))))),(26,.int .i64 (anA ((hd44 (xs))))),(23,.tuple #[.int .i64 (anA ((hd44 (xs)))),.int .i64 (anB ((hd44 (xs)))),.int .i64 (anE ((hd44 (xs))))]),(25,.tuple #[.int .i64 (anA ((hd44 (xs)))),.int .i64 (anB ((hd44 (xs)))),.int .i64 (anE ((hd44 (xs))))]),(24,.string (bstr (hd44 (xs)))),(21,.bool false),(20,.bool (has44 (xs))),(6,.bool (has44 (xs))),(5,.string (bstr (tl44 (xs)))),(4,.string (bstr (hd44 (xs)))),(19,.bool (has44 (xs))),(18,.string (bstr (tl44 (xs)))),(17,.string (bstr (hd44 (xs)))),(14,.tuple #[.string (bstr (hd44 (xs))),.string (bstr (tl44 (xs))),.bool (has44 (xs))]),(16,.tuple #[.string (bstr (hd44 (xs))),.string (bstr (tl44 (xs))),.bool (has44 (xs))]),(15,.string (bstr xs)),(2,.pointer (some ⟨g2,0,none⟩)),(0,.string (bstr xs))]) hF (r_assign (hF.at 0 rfl)) rfl rfl rfl rfl fun a hF=>?_
     refine E.nil ?_
     refine wp_ret ?_
     have bel:=st.bel
     refine bodyPost_ret (res_celltmp Tryz.results6 (hF.at 46 rfl) (ld_all ty_Plc (st.bk 1 rfl) rfl) (hF.at 0 rfl)) hF.dfr ?_
     have hk:=pp_4 (hast44 hc3) hc5 hc8
     exact⟨rv_pp (ppV_no (by rw[hk];exact hc12)).symm hk.symm,bel⟩
    ·refine E.opv hF (r_bin (hF.at 0 rfl) ev_c eg_scalar (bi_int (ic_neq (c:=false) (dec_ff hc12)) (by simp))) rfl rfl rfl rfl fun a hF=>?_
     refine E.nil ?_
     refine wp_cond_false (hF.at 0 rfl) ?_
     refine wp_skip ?_
     refine E.norm ?_
     refine wp_seq ?_
     refine E.seq ?_
     refine E.opv hF (r_load (hF.at 5 rfl) (ld_all ty_Plc (st.bk 0 rfl) rfl)) rfl rfl rfl rfl fun a hF=>?_
     refine S.stoI st hF 1 rfl (hF.at 45 rfl) (hF.at 0 rfl) ty_Plc rfl rfl rfl fun w14 a st hF=>?_
     refine E.opset (L':=[(3,.int .i64 0),(54,.agg #[.int .i64 (anA ((hd44 (xs)))),.int .i64 (anB ((hd44 (xs)))),.int .i64 (anA ((tl44 (xs)))),.int .i64 (anB ((tl44 (xs))))]),(51,.bool false),(50,.int .i64 (plE (anA ((hd44 (xs)))) (anB ((hd44 (xs)))) (anA ((tl44 (xs)))) (anB ((tl44 (xs)))))),(13,.int .i64 (plE (anA ((hd44 (xs)))) (anB ((hd44 (xs)))) (anA ((tl44 (xs)))) (anB ((tl44 (xs)))))),(49,.int .i64 (plE (anA ((hd44 (xs)))) (anB ((hd44 (xs)))) (anA ((tl44 (xs)))) (anB ((tl44 (xs)))))),(48,.agg #[.int .i64 (anA ((hd44 (xs)))),.int .i64 (anB ((hd44 (xs)))),.int .i64 (anA ((tl44 (xs)))),.int .i64 (anB ((tl44 (xs))))]),(12,.pointer (some ⟨g12,0,none⟩)),(47,.agg #[.int .i64 (anA ((hd44 (xs)))),.int .i64 (anB ((hd44 (xs)))),.int .i64 (anA ((tl44 (xs)))),.int .i64 (anB ((tl44 (xs))))]),(46,.int .i64 (anB ((tl44 (xs))))),(45,.int .i64 (anA ((tl44 (xs))))),(44,.int .i64 (anB ((hd44 (xs))))),(43,.int .i64 (anA ((hd44 (xs))))),(40,.bool false),(39,.int .i64 (anE ((tl44 (xs))))),(9,.int .i64 (anE ((tl44 (xs))))),(11,.int .i64 (anB ((tl44 (xs))))),(10,.int .i64 (anA ((tl44 (xs))))),(38,.int .i64 (anE ((tl44 (xs))))),(37,.int .i64 (anB ((tl44 (xs))))),(36,.int .i64 (anA ((tl44 (xs))))),(33,.tuple #[.int .i64 (anA ((tl44 (xs)))),.int .i64 (anB ((tl44 (xs)))),.int .i64 (anE ((tl44 (xs))))]),(35,.tuple #[.int .i64 (anA ((tl44 (xs)))),.int .i64 (anB ((tl44 (xs)))),.int .i64 (anE ((tl44 (xs))))]),(34,.string (bstr (tl44 (xs)))),(30,.bool false),(29,.int .i64 (anE ((hd44 (xs))))),(8,.int .i64 (anB ((hd44 (xs))))),(7,.int .i64 (anA ((hd44 (xs))))),(28,.int .i64 (anE ((hd44 (xs))))),(27,.int .i64 (anB ((hd44 (xs))))),(26,.int .i64 (anA ((hd44 (xs))))),(23,.tuple #[.int .i64 (anA ((hd44 (xs)))),.int .i64 (anB ((hd44 (xs)))),.int .i64 (anE ((hd44 (xs))))]),(25,.tuple #[.int .i64 (anA ((hd44 (xs)))),.int .i64 (anB ((hd44 (xs)))),.int .i64 (anE ((hd44 (xs))))]),(24,.string (bstr (hd44 (xs)))),(21,.bool false),(20,.bool (has44 (xs))),(6,.bool (has44 (xs))),(5,.string (bstr (tl44 (xs)))),(4,.string (bstr (hd44 (xs)))),(19,.bool (has44 (xs))),(18,.string (bstr (tl44 (xs)))),(17,.string (bstr (hd44 (xs)))),(14,.tuple #[.string (bstr (hd44 (xs))),.string (bstr (tl44 (xs))),.bool (has44 (xs))]),(16,.tuple #[.string (bstr (hd44 (xs))),.string (bstr (tl44 (xs))),.bool (has44 (xs))]),(15,.string (bstr xs)),(2,.pointer (some ⟨g2,0,none⟩)),(0,.string (bstr xs))]) hF (r_assign ev_c) rfl rfl rfl rfl fun a hF=>?_
     refine E.nil ?_
     refine wp_ret ?_
     have bel:=st.bel
     refine bodyPost_ret (res_celltmp Tryz.results6 (hF.at 45 rfl) (ld_all ty_Plc (st.bk 1 rfl) rfl) (hF.at 0 rfl)) hF.dfr ?_
     have hk:=pp_4 (hast44 hc3) hc5 hc8
     have h0:ppE xs=0:=by rw[hk];exact Classical.not_not.1 hc12
     exact⟨rv_pp (ppV_yes h0).symm h0.symm,bel⟩
 ·refine E.opv hF (r_un (Eq.trans (hF.at 0 rfl) (congrArg Value.bool (eq_false_of_ne_true hc3))) (bn_not _ true rfl)) rfl rfl rfl rfl fun a hF=>?_
  refine E.nil ?_
  refine wp_cond_true (hF.at 0 rfl) ?_
  refine wp_seq ?_
  refine E.seq ?_
  refine E.opv hF (r_build (by simp) (bd_Plc_ _)) rfl rfl rfl rfl fun a hF=>?_
  refine S.stoI st hF 0 rfl (hF.at 13 rfl) (hF.at 0 rfl) ty_Plc rfl rfl rfl fun w15 a st hF=>?_
  refine E.opset (L':=[(3,.int .i64 1),(22,.agg #[.int .i64 0,.int .i64 0,.int .i64 0,.int .i64 0]),(21,.bool true),(20,.bool (has44 (xs))),(6,.bool (has44 (xs))),(5,.string (bstr (tl44 (xs)))),(4,.string (bstr (hd44 (xs)))),(19,.bool (has44 (xs))),(18,.string (bstr (tl44 (xs)))),(17,.string (bstr (hd44 (xs)))),(14,.tuple #[.string (bstr (hd44 (xs))),.string (bstr (tl44 (xs))),.bool (has44 (xs))]),(16,.tuple #[.string (bstr (hd44 (xs))),.string (bstr (tl44 (xs))),.bool (has44 (xs))]),(15,.string (bstr xs)),(2,.pointer (some ⟨g2,0,none⟩)),(0,.string (bstr xs))]) hF (r_assign ev_c) rfl rfl rfl rfl fun a hF=>?_
  refine E.nil ?_
  refine wp_ret ?_
  have bel:=st.bel
  refine bodyPost_ret (res_celltmp Tryz.results6 (hF.at 13 rfl) (ld_all ty_Plc (st.bk 0 rfl) rfl) (hF.at 0 rfl)) hF.dfr ?_
  have hk:=pp_1 (hasf44 hc3)
  exact⟨rv_pp (ppV_no (by rw[hk];decide)).symm hk.symm,bel⟩
theorem pText_any (xa xb xc xd:Int) (w:World) (hxa0: -9223372036854775808≤xa) (hxa1:xa≤9223372036854775807) (hxb0: -9223372036854775808≤xb) (hxb1:xb≤9223372036854775807) (hxc0: -9223372036854775808≤xc) (hxc1:xc≤9223372036854775807) (hxd0: -9223372036854775808≤xd) (hxd1:xd≤9223372036854775807):
 Calls Tryz.prog 17 #[.agg #[.int .i64 xa,.int .i64 xb,.int .i64 xc,.int .i64 xd]] w (ValPost w (.string (bstr (cx (((xa:Int):Rat)/((xb:Int):Rat))++[44]++cx (((xc:Int):Rat)/((xd:Int):Rat)))))):=by
 have hla:=cx_len (lim64q (n:=xa) (d:=xb) hxa0 hxa1 hxb0 hxb1)
 have hlc:=cx_len (lim64q (n:=xc) (d:=xd) hxc0 hxc1 hxd0 hxd1)
 have st:=St.start w
 refine E.enter (nt:=11) (L:=[(0,.agg #[.int .i64 xa,.int .i64 xb,.int .i64 xc,.int .i64 xd])]) Tryz.func17 rfl rfl rfl (args_cons (i:=0) rfl args_nil) ?_
 intro a hF
 refine wp_seq ?_
 refine E.seq ?_
 refine S.box st hF (hF.at 0 rfl) rfl rfl fun g1 w1 a st hF=>?_
 refine E.opv hF (r_assign ev_c) rfl rfl rfl rfl fun a hF=>?_
 refine E.nil ?_
 refine wp_seq ?_
 refine E.drawn 8 mixed hF [3,4,5,6,7,8,9,10] [(fun _ v=>v= .agg #[.int .i64 xa,.int .i64 xb,.int .i64 xc,.int .i64 xd]),(fun w v=>Rq w v (((xa:Int):Rat)/((xb:Int):Rat))),(fun _ v=>v= .string (bstr (cx (((xa:Int):Rat)/((xb:Int):Rat))))),(fun _ v=>v= .string (bstr (cx (((xa:Int):Rat)/((xb:Int):Rat))++[44]))),(fun _ v=>v= .agg #[.int .i64 xa,.int .i64 xb,.int .i64 xc,.int .i64 xd]),(fun w v=>Rq w v (((xc:Int):Rat)/((xd:Int):Rat))),(fun _ v=>v= .string (bstr (cx (((xc:Int):Rat)/((xd:Int):Rat))))),(fun _ v=>v= .string (bstr ((cx (((xa:Int):Rat)/((xb:Int):Rat))++[44])++cx (((xc:Int):Rat)/((xd:Int):Rat)))))] [] (by decide+kernel) (by decide+kernel) rfl rfl rfl ⟨(Mb.eq _),(fun _ _ _ h hb=>h.below hb),(Mb.eq _),(Mb.eq _),(Mb.eq _),(fun _ _ _ h hb=>h.below hb),(Mb.eq _),(Mb.eq _),trivial⟩ trivial ⟨?_,?_,?_,?_,?_,?_,?_,?_,trivial⟩ ?_
 ·intro a' w' hF' hb hd
  exact dv0 (r_load (hF'.at 1 rfl) (ld_all ty_Plc ((st.bk 0 rfl).below hb) rfl)) rfl rfl rfl
 ·intro a' w' hF' hb hd
  have e3:=sHe hd 0 3 rfl rfl rfl rfl
  exact dc0 (r_call Tryz.func10 en10.1 en10.2 (map1 e3)) (pLatitude_any xa xb xc xd _ hxa0 hxa1 hxb0 hxb1) rfl rfl
 ·intro a' w' hF' hb hd
  obtain⟨v4_0,e4,h4_1⟩:=sH hd 0 4 rfl rfl rfl rfl
  exact dcx0 (r_call Tryz.func42 en42.1 en42.2 (map1 e4)) (cText_any _ _ 2 _ h4_1 (lim64q (n:=xa) (d:=xb) hxa0 hxa1 hxb0 hxb1) (by omega)) (fun _=>rfl) rfl rfl
 ·intro a' w' hF' hb hd
  have e5:=sHe hd 0 5 rfl rfl rfl rfl
  exact dv0 (r_bin e5 ev_c eg_str (sb_add (xs:=cx (((xa:Int):Rat)/((xb:Int):Rat))) (ys:=[44]) (by first|omega|(simp only [List.length_cons,List.length_nil];omega)|(simp only [List.length_append,List.length_cons,List.length_nil];omega)))) rfl rfl rfl
 ·intro a' w' hF' hb hd
  exact dv0 (r_load (hF'.at 1 rfl) (ld_all ty_Plc ((st.bk 0 rfl).below hb) rfl)) rfl rfl rfl
 ·intro a' w' hF' hb hd
  have e7:=sHe hd 0 7 rfl rfl rfl rfl
  exact dc0 (r_call Tryz.func11 en11.1 en11.2 (map1 e7)) (pLongitude_any xa xb xc xd _ hxc0 hxc1 hxd0 hxd1) rfl rfl
 ·intro a' w' hF' hb hd
  obtain⟨v8_0,e8,h8_1⟩:=sH hd 0 8 rfl rfl rfl rfl
  exact dcx0 (r_call Tryz.func42 en42.1 en42.2 (map1 e8)) (cText_any _ _ 2 _ h8_1 (lim64q (n:=xc) (d:=xd) hxc0 hxc1 hxd0 hxd1) (by omega)) (fun _=>rfl) rfl rfl
 ·intro a' w' hF' hb hd
  have e6:=sHe hd 0 6 rfl rfl rfl rfl
  have e9:=sHe hd 1 9 rfl rfl rfl rfl
  exact dv0 (r_bin e6 e9 eg_str (sb_add (xs:=(cx (((xa:Int):Rat)/((xb:Int):Rat))++[44])) (ys:=cx (((xc:Int):Rat)/((xd:Int):Rat))) (by first|omega|(simp only [List.length_cons,List.length_nil];omega)|(simp only [List.length_append,List.length_cons,List.length_nil];omega)))) rfl rfl rfl
 intro a w2 hF bb hall hne
 replace st:=st.to bb
 have e10:=sSe hall 7 10 rfl rfl
 clear hall hne bb
 replace hF:=hF.add e10
 clear e10
 refine E.opset (L':=[(2,.string (bstr ((cx (((xa:Int):Rat)/((xb:Int):Rat))++[44])++cx (((xc:Int):Rat)/((xd:Int):Rat))))),(10,.string (bstr ((cx (((xa:Int):Rat)/((xb:Int):Rat))++[44])++cx (((xc:Int):Rat)/((xd:Int):Rat))))),(1,.pointer (some ⟨g1,0,none⟩)),(0,.agg #[.int .i64 xa,.int .i64 xb,.int .i64 xc,.int .i64 xd])]) hF (r_assign (hF.at 0 rfl)) rfl rfl rfl rfl fun a hF=>?_
 refine E.nil ?_
 refine wp_ret ?_
 have bel:=st.bel
 refine bodyPost_ret (res_tmp Tryz.results17 (hF.at 0 rfl)) hF.dfr ?_
 exact⟨rfl,bel⟩
end Go.Proofs.YtpkhdajnppoinaaGreat
