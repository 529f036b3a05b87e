/- law13's awake; PlaceChecks, PlaceTexts. -/
import Derived.Test.YtpkhdajnppoinaaPlT
import Derived.Test.YtpkhdajnppoinaaTol
import Derived.Test.YtpkhdajnppoinaaGO
import Derived.Test.YtpkhdajnppoinaaGI
namespace Go.Proofs.Ytpkhdajnppoinaa
open Go.RowKit
set_option maxRecDepth 100000
set_option linter.unusedVariables false

theorem en18 : (Try.f18.name == "runtime.NumGoroutine") = false ∧ Try.f18.body.isNone = false := ⟨by decide +kernel, by kernel_rfl⟩
theorem en6 : (Try.f6.name == "runtime.NumGoroutine") = false ∧ Try.f6.body.isNone = false := ⟨by decide +kernel, by kernel_rfl⟩
theorem qc_gt13 {a b : Rat} : 0 < qc a b ↔ b < a := by
  rw [qc_def]
  split
  · constructor <;> intro <;> first | grind | omega
  · split
    · constructor <;> intro <;> first | grind | omega
    · constructor <;> intro <;> first | grind | omega
theorem aw13t : ((cx (((463 : Int) : Rat) / ((20 : Int) : Rat)) ++ [44] ++ cx (((45461 : Int) : Rat) / ((600 : Int) : Rat))).map UInt8.ofNat == ([52, 54, 51, 47, 50, 48, 44, 52, 53, 52, 54, 49, 47, 54, 48, 48] : List Nat).map UInt8.ofNat) = true := str_same (by decide +kernel)
set_option maxHeartbeats 8000000 in
theorem awake13_any (w : World) (hM : MLen w) :
    Calls Try.prog 5 #[] w (ValPost w (.bool true)) := by
  have st := St.start w
  refine E.enter (nt := 30) (L := []) Try.func5 rfl rfl rfl args_nil ?_
  intro a hF
  refine wp_seq ?_
  refine E.seq ?_
  refine E.opv hF (r_assign ev_c) rfl rfl rfl rfl fun a hF => ?_
  refine E.nil ?_
  refine wp_seq ?_
  refine E.seq ?_
  refine S.callx st hF (r_call Try.func9 en9.1 en9.2 (map1 ev_c)) (pParse_any ([52, 54, 51, 47, 50, 48, 44, 52, 53, 52, 54, 49, 47, 54, 48, 48]) _ (hM.below st.bel) (by decide) (by first | omega | decide)) rfl rfl rfl rfl fun w1 a st hF => ?_
  have hpb := pp_bd ([52, 54, 51, 47, 50, 48, 44, 52, 53, 52, 54, 49, 47, 54, 48, 48])
  refine E.opv hF (r_move (hF.at 0 rfl)) rfl rfl rfl rfl fun a hF => ?_
  refine E.opv hF (r_extract (v := .agg #[.int .i64 (ppI ([52, 54, 51, 47, 50, 48, 44, 52, 53, 52, 54, 49, 47, 54, 48, 48]) (anA (hd44 ([52, 54, 51, 47, 50, 48, 44, 52, 53, 52, 54, 49, 47, 54, 48, 48])))), .int .i64 (ppI ([52, 54, 51, 47, 50, 48, 44, 52, 53, 52, 54, 49, 47, 54, 48, 48]) (anB (hd44 ([52, 54, 51, 47, 50, 48, 44, 52, 53, 52, 54, 49, 47, 54, 48, 48])))), .int .i64 (ppI ([52, 54, 51, 47, 50, 48, 44, 52, 53, 52, 54, 49, 47, 54, 48, 48]) (anA (tl44 ([52, 54, 51, 47, 50, 48, 44, 52, 53, 52, 54, 49, 47, 54, 48, 48])))), .int .i64 (ppI ([52, 54, 51, 47, 50, 48, 44, 52, 53, 52, 54, 49, 47, 54, 48, 48]) (anB (tl44 ([52, 54, 51, 47, 50, 48, 44, 52, 53, 52, 54, 49, 47, 54, 48, 48]))))]) (hF.at 0 rfl) rfl) rfl rfl rfl rfl fun a hF => ?_
  refine E.opv hF (r_extract (v := .int .i64 (ppE ([52, 54, 51, 47, 50, 48, 44, 52, 53, 52, 54, 49, 47, 54, 48, 48]))) (hF.at 1 rfl) rfl) rfl rfl rfl rfl fun a hF => ?_
  refine S.new st hF 1 rfl ty_Plc rfl rfl rfl rfl rfl fun g1 w2 a st hF => ?_
  refine E.opv hF (r_assign (hF.at 1 rfl)) rfl rfl rfl rfl fun a hF => ?_
  refine E.nil ?_
  refine wp_seq ?_
  refine E.drawn 23 mixed hF [7, 8, 9, 10, 11, 12, 13, 14, 15, 16, 17, 18, 19, 20, 21, 22, 23, 24, 25, 26, 27, 28, 29] [(fun _ v => v = .agg #[.int .i64 463, .int .i64 20, .int .i64 45461, .int .i64 600]), (fun _ v => v = .string (bstr (cx ((((463) : Int) : Rat) / (((20) : Int) : Rat)) ++ [44] ++ cx ((((45461) : Int) : Rat) / (((600) : Int) : Rat))))), (fun _ v => v = .bool true), (fun _ v => v = .bool true), (fun _ v => v = .int .i64 (ppE ([52, 54, 51, 47, 50, 48, 44, 52, 53, 52, 54, 49, 47, 54, 48, 48]))), (fun _ v => v = .bool true), (fun _ v => v = .bool true), (fun _ v => v = .bool true), (fun _ v => v = .agg #[.int .i64 (ppI ([52, 54, 51, 47, 50, 48, 44, 52, 53, 52, 54, 49, 47, 54, 48, 48]) (anA (hd44 ([52, 54, 51, 47, 50, 48, 44, 52, 53, 52, 54, 49, 47, 54, 48, 48])))), .int .i64 (ppI ([52, 54, 51, 47, 50, 48, 44, 52, 53, 52, 54, 49, 47, 54, 48, 48]) (anB (hd44 ([52, 54, 51, 47, 50, 48, 44, 52, 53, 52, 54, 49, 47, 54, 48, 48])))), .int .i64 (ppI ([52, 54, 51, 47, 50, 48, 44, 52, 53, 52, 54, 49, 47, 54, 48, 48]) (anA (tl44 ([52, 54, 51, 47, 50, 48, 44, 52, 53, 52, 54, 49, 47, 54, 48, 48])))), .int .i64 (ppI ([52, 54, 51, 47, 50, 48, 44, 52, 53, 52, 54, 49, 47, 54, 48, 48]) (anB (tl44 ([52, 54, 51, 47, 50, 48, 44, 52, 53, 52, 54, 49, 47, 54, 48, 48]))))]), (fun _ v => v = .agg #[.int .i64 463, .int .i64 20, .int .i64 45461, .int .i64 600]), (fun _ v => v = .bool true), (fun _ v => v = .bool true), (fun _ v => v = .bool true), (fun _ v => v = .agg #[.int .i64 (ppI ([52, 54, 51, 47, 50, 48, 44, 52, 53, 52, 54, 49, 47, 54, 48, 48]) (anA (hd44 ([52, 54, 51, 47, 50, 48, 44, 52, 53, 52, 54, 49, 47, 54, 48, 48])))), .int .i64 (ppI ([52, 54, 51, 47, 50, 48, 44, 52, 53, 52, 54, 49, 47, 54, 48, 48]) (anB (hd44 ([52, 54, 51, 47, 50, 48, 44, 52, 53, 52, 54, 49, 47, 54, 48, 48])))), .int .i64 (ppI ([52, 54, 51, 47, 50, 48, 44, 52, 53, 52, 54, 49, 47, 54, 48, 48]) (anA (tl44 ([52, 54, 51, 47, 50, 48, 44, 52, 53, 52, 54, 49, 47, 54, 48, 48])))), .int .i64 (ppI ([52, 54, 51, 47, 50, 48, 44, 52, 53, 52, 54, 49, 47, 54, 48, 48]) (anB (tl44 ([52, 54, 51, 47, 50, 48, 44, 52, 53, 52, 54, 49, 47, 54, 48, 48]))))]), (fun _ v => v = .int .i64 (plE (ppI ([52, 54, 51, 47, 50, 48, 44, 52, 53, 52, 54, 49, 47, 54, 48, 48]) (anA (hd44 ([52, 54, 51, 47, 50, 48, 44, 52, 53, 52, 54, 49, 47, 54, 48, 48])))) (ppI ([52, 54, 51, 47, 50, 48, 44, 52, 53, 52, 54, 49, 47, 54, 48, 48]) (anB (hd44 ([52, 54, 51, 47, 50, 48, 44, 52, 53, 52, 54, 49, 47, 54, 48, 48])))) (ppI ([52, 54, 51, 47, 50, 48, 44, 52, 53, 52, 54, 49, 47, 54, 48, 48]) (anA (tl44 ([52, 54, 51, 47, 50, 48, 44, 52, 53, 52, 54, 49, 47, 54, 48, 48])))) (ppI ([52, 54, 51, 47, 50, 48, 44, 52, 53, 52, 54, 49, 47, 54, 48, 48]) (anB (tl44 ([52, 54, 51, 47, 50, 48, 44, 52, 53, 52, 54, 49, 47, 54, 48, 48])))))), (fun _ v => v = .bool true), (fun _ v => v = .bool true), (fun _ v => v = .bool true), (fun _ v => v = .agg #[.int .i64 (ppI ([52, 54, 51, 47, 50, 48, 44, 52, 53, 52, 54, 49, 47, 54, 48, 48]) (anA (hd44 ([52, 54, 51, 47, 50, 48, 44, 52, 53, 52, 54, 49, 47, 54, 48, 48])))), .int .i64 (ppI ([52, 54, 51, 47, 50, 48, 44, 52, 53, 52, 54, 49, 47, 54, 48, 48]) (anB (hd44 ([52, 54, 51, 47, 50, 48, 44, 52, 53, 52, 54, 49, 47, 54, 48, 48])))), .int .i64 (ppI ([52, 54, 51, 47, 50, 48, 44, 52, 53, 52, 54, 49, 47, 54, 48, 48]) (anA (tl44 ([52, 54, 51, 47, 50, 48, 44, 52, 53, 52, 54, 49, 47, 54, 48, 48])))), .int .i64 (ppI ([52, 54, 51, 47, 50, 48, 44, 52, 53, 52, 54, 49, 47, 54, 48, 48]) (anB (tl44 ([52, 54, 51, 47, 50, 48, 44, 52, 53, 52, 54, 49, 47, 54, 48, 48]))))]), (fun w v => Rq w v (((ppI ([52, 54, 51, 47, 50, 48, 44, 52, 53, 52, 54, 49, 47, 54, 48, 48]) (anA (hd44 ([52, 54, 51, 47, 50, 48, 44, 52, 53, 52, 54, 49, 47, 54, 48, 48]))) : Int) : Rat) / ((ppI ([52, 54, 51, 47, 50, 48, 44, 52, 53, 52, 54, 49, 47, 54, 48, 48]) (anB (hd44 ([52, 54, 51, 47, 50, 48, 44, 52, 53, 52, 54, 49, 47, 54, 48, 48]))) : Int) : Rat))), (fun w v => Rq w v (((463 : Int) : Rat) / ((20 : Int) : Rat))), (fun _ v => v = .bool true), (fun _ v => v = .bool true)] [] (by decide +kernel) (by decide +kernel) rfl rfl rfl ⟨(Mb.eq _), (Mb.eq _), (Mb.eq _), (Mb.eq _), (Mb.eq _), (Mb.eq _), (Mb.eq _), (Mb.eq _), (Mb.eq _), (Mb.eq _), (Mb.eq _), (Mb.eq _), (Mb.eq _), (Mb.eq _), (Mb.eq _), (Mb.eq _), (Mb.eq _), (Mb.eq _), (Mb.eq _), (fun _ _ _ h hb => h.below hb), (fun _ _ _ h hb => h.below hb), (Mb.eq _), (Mb.eq _), trivial⟩ trivial ⟨?_, ?_, ?_, ?_, ?_, ?_, ?_, ?_, ?_, ?_, ?_, ?_, ?_, ?_, ?_, ?_, ?_, ?_, ?_, ?_, ?_, ?_, ?_, trivial⟩ ?_
  · intro a' w' hF' hb hd
    exact dcx0 (r_call Try.func16 en16.1 en16.2 map0) (pUj_any _) (fun _ => rfl) rfl rfl
  · intro a' w' hF' hb hd
    have e7 := sHe hd 0 7 rfl rfl rfl rfl
    exact dcx0 (r_call Try.func10 en10.1 en10.2 (map1 e7)) (pText_any 463 20 45461 600 _ (by decide) (by decide) (by decide) (by decide) (by decide) (by decide) (by decide) (by decide)) (fun _ => rfl) rfl rfl
  · intro a' w' hF' hb hd
    have e8 := sHe hd 0 8 rfl rfl rfl rfl
    exact dv0 (r_bin e8 ev_c eg_str (sb_eq (xs := (cx ((((463) : Int) : Rat) / (((20) : Int) : Rat)) ++ [44] ++ cx ((((45461) : Int) : Rat) / (((600) : Int) : Rat)))) (ys := [52, 54, 51, 47, 50, 48, 44, 52, 53, 52, 54, 49, 47, 54, 48, 48]) aw13t)) rfl rfl rfl
  · intro a' w' hF' hb hd
    have e9 := sHe hd 0 9 rfl rfl rfl rfl
    exact dv0 (r_move e9) rfl rfl rfl
  · intro a' w' hF' hb hd
    have e10 := sHe hd 0 10 rfl rfl rfl rfl
    exact dv1 (wanted_by rfl rfl e10 rfl) (r_move (hF'.at 0 rfl)) rfl rfl
  · intro a' w' hF' hb hd
    have e10 := sHe hd 1 10 rfl rfl rfl rfl
    have e11 := sHe hd 0 11 rfl rfl rfl rfl
    exact dv1 (wanted_by rfl rfl e10 rfl) (r_bin e11 ev_c eg_scalar (bi_int (ic_eql (c := true) (dec_tt (by decide +kernel))) (by simp))) rfl rfl
  · intro a' w' hF' hb hd
    have e10 := sHe hd 0 10 rfl rfl rfl rfl
    have e12 := sHe hd 1 12 rfl rfl rfl rfl
    exact dv0 (r_pick_t e10 e12) rfl rfl rfl
  · intro a' w' hF' hb hd
    have e13 := sHe hd 0 13 rfl rfl rfl rfl
    exact dv0 (r_move e13) rfl rfl rfl
  · intro a' w' hF' hb hd
    have e14 := sHe hd 0 14 rfl rfl rfl rfl
    exact dv1 (wanted_by rfl rfl e14 rfl) (r_load (hF'.at 1 rfl) (ld_all ty_Plc ((st.bk 0 rfl).below hb) rfl)) rfl rfl
  · intro a' w' hF' hb hd
    have e14 := sHe hd 0 14 rfl rfl rfl rfl
    exact dcx1 (wanted_by rfl rfl e14 rfl) (r_call Try.func16 en16.1 en16.2 map0) (pUj_any _) (fun _ => rfl) rfl
  · intro a' w' hF' hb hd
    have e14 := sHe hd 2 14 rfl rfl rfl rfl
    have e15 := sHe hd 0 15 rfl rfl rfl rfl
    have e16 := sHe hd 1 16 rfl rfl rfl rfl
    exact dv1 (wanted_by rfl rfl e14 rfl) (r_bin e15 e16 eg_Plc (es_Plc (dec_tt (by decide +kernel)))) rfl rfl
  · intro a' w' hF' hb hd
    have e14 := sHe hd 0 14 rfl rfl rfl rfl
    have e17 := sHe hd 1 17 rfl rfl rfl rfl
    exact dv0 (r_pick_t e14 e17) rfl rfl rfl
  · intro a' w' hF' hb hd
    have e18 := sHe hd 0 18 rfl rfl rfl rfl
    exact dv0 (r_move e18) rfl rfl rfl
  · intro a' w' hF' hb hd
    have e19 := sHe hd 0 19 rfl rfl rfl rfl
    exact dv1 (wanted_by rfl rfl e19 rfl) (r_load (hF'.at 1 rfl) (ld_all ty_Plc ((st.bk 0 rfl).below hb) rfl)) rfl rfl
  · intro a' w' hF' hb hd
    have e19 := sHe hd 1 19 rfl rfl rfl rfl
    have e20 := sHe hd 0 20 rfl rfl rfl rfl
    exact dcx1 (wanted_by rfl rfl e19 rfl) (r_call Try.func7 en7.1 en7.2 (map1 e20)) (pCheck_any (ppI ([52, 54, 51, 47, 50, 48, 44, 52, 53, 52, 54, 49, 47, 54, 48, 48]) (anA (hd44 ([52, 54, 51, 47, 50, 48, 44, 52, 53, 52, 54, 49, 47, 54, 48, 48])))) (ppI ([52, 54, 51, 47, 50, 48, 44, 52, 53, 52, 54, 49, 47, 54, 48, 48]) (anB (hd44 ([52, 54, 51, 47, 50, 48, 44, 52, 53, 52, 54, 49, 47, 54, 48, 48])))) (ppI ([52, 54, 51, 47, 50, 48, 44, 52, 53, 52, 54, 49, 47, 54, 48, 48]) (anA (tl44 ([52, 54, 51, 47, 50, 48, 44, 52, 53, 52, 54, 49, 47, 54, 48, 48])))) (ppI ([52, 54, 51, 47, 50, 48, 44, 52, 53, 52, 54, 49, 47, 54, 48, 48]) (anB (tl44 ([52, 54, 51, 47, 50, 48, 44, 52, 53, 52, 54, 49, 47, 54, 48, 48])))) _) (fun _ => rfl) rfl
  · intro a' w' hF' hb hd
    have e19 := sHe hd 1 19 rfl rfl rfl rfl
    have e21 := sHe hd 0 21 rfl rfl rfl rfl
    exact dv1 (wanted_by rfl rfl e19 rfl) (r_bin e21 ev_c eg_scalar (bi_int (ic_eql (c := true) (dec_tt (by decide +kernel))) (by simp))) rfl rfl
  · intro a' w' hF' hb hd
    have e19 := sHe hd 0 19 rfl rfl rfl rfl
    have e22 := sHe hd 1 22 rfl rfl rfl rfl
    exact dv0 (r_pick_t e19 e22) rfl rfl rfl
  · intro a' w' hF' hb hd
    have e23 := sHe hd 0 23 rfl rfl rfl rfl
    exact dv0 (r_move e23) rfl rfl rfl
  · intro a' w' hF' hb hd
    have e24 := sHe hd 0 24 rfl rfl rfl rfl
    exact dv1 (wanted_by rfl rfl e24 rfl) (r_load (hF'.at 1 rfl) (ld_all ty_Plc ((st.bk 0 rfl).below hb) rfl)) rfl rfl
  · intro a' w' hF' hb hd
    have e24 := sHe hd 1 24 rfl rfl rfl rfl
    have e25 := sHe hd 0 25 rfl rfl rfl rfl
    exact dc1 (wanted_by rfl rfl e24 rfl) (r_call Try.func12 en12.1 en12.2 (map1 e25)) (pLatitude_any (ppI ([52, 54, 51, 47, 50, 48, 44, 52, 53, 52, 54, 49, 47, 54, 48, 48]) (anA (hd44 ([52, 54, 51, 47, 50, 48, 44, 52, 53, 52, 54, 49, 47, 54, 48, 48])))) (ppI ([52, 54, 51, 47, 50, 48, 44, 52, 53, 52, 54, 49, 47, 54, 48, 48]) (anB (hd44 ([52, 54, 51, 47, 50, 48, 44, 52, 53, 52, 54, 49, 47, 54, 48, 48])))) (ppI ([52, 54, 51, 47, 50, 48, 44, 52, 53, 52, 54, 49, 47, 54, 48, 48]) (anA (tl44 ([52, 54, 51, 47, 50, 48, 44, 52, 53, 52, 54, 49, 47, 54, 48, 48])))) (ppI ([52, 54, 51, 47, 50, 48, 44, 52, 53, 52, 54, 49, 47, 54, 48, 48]) (anB (tl44 ([52, 54, 51, 47, 50, 48, 44, 52, 53, 52, 54, 49, 47, 54, 48, 48])))) _ (by omega) (by omega) (by omega) (by omega)) rfl
  · intro a' w' hF' hb hd
    have e24 := sHe hd 1 24 rfl rfl rfl rfl
    exact dc1 (wanted_by rfl rfl e24 rfl) (r_call Try.func17 en17.1 en17.2 (map2 ev_c ev_c)) (rOf2_any (463) (20) _ (by decide) (by decide) (by decide) (by decide)) rfl
  · intro a' w' hF' hb hd
    have e24 := sHe hd 3 24 rfl rfl rfl rfl
    obtain ⟨v26_0, e26, h26_1⟩ := sH hd 0 26 rfl rfl rfl rfl
    obtain ⟨v27_0, e27, h27_1⟩ := sH hd 1 27 rfl rfl rfl rfl
    exact dcx1 (wanted_by rfl rfl e24 rfl) (r_call Try.func13 en13.1 en13.2 (map2 e26 e27)) (rSame_true _ _ _ _ _ h26_1 h27_1 (by decide +kernel)) (fun _ => rfl) rfl
  · intro a' w' hF' hb hd
    have e24 := sHe hd 0 24 rfl rfl rfl rfl
    have e28 := sHe hd 1 28 rfl rfl rfl rfl
    exact dv0 (r_pick_t e24 e28) rfl rfl rfl
  intro a w3 hF bb hall hne
  replace st := st.to bb
  have e29 := sSe hall 22 29 rfl rfl
  clear hall hne bb
  replace hF := hF.add e29
  clear e29
  refine E.opset (L' := [(0, .bool true), (29, .bool true), (2, .int .i64 (ppE ([52, 54, 51, 47, 50, 48, 44, 52, 53, 52, 54, 49, 47, 54, 48, 48]))), (1, .pointer (some ⟨g1, 0, none⟩)), (6, .int .i64 (ppE ([52, 54, 51, 47, 50, 48, 44, 52, 53, 52, 54, 49, 47, 54, 48, 48]))), (5, .agg #[.int .i64 (ppI ([52, 54, 51, 47, 50, 48, 44, 52, 53, 52, 54, 49, 47, 54, 48, 48]) (anA (hd44 ([52, 54, 51, 47, 50, 48, 44, 52, 53, 52, 54, 49, 47, 54, 48, 48])))), .int .i64 (ppI ([52, 54, 51, 47, 50, 48, 44, 52, 53, 52, 54, 49, 47, 54, 48, 48]) (anB (hd44 ([52, 54, 51, 47, 50, 48, 44, 52, 53, 52, 54, 49, 47, 54, 48, 48])))), .int .i64 (ppI ([52, 54, 51, 47, 50, 48, 44, 52, 53, 52, 54, 49, 47, 54, 48, 48]) (anA (tl44 ([52, 54, 51, 47, 50, 48, 44, 52, 53, 52, 54, 49, 47, 54, 48, 48])))), .int .i64 (ppI ([52, 54, 51, 47, 50, 48, 44, 52, 53, 52, 54, 49, 47, 54, 48, 48]) (anB (tl44 ([52, 54, 51, 47, 50, 48, 44, 52, 53, 52, 54, 49, 47, 54, 48, 48]))))]), (3, .tuple #[.agg #[.int .i64 (ppI ([52, 54, 51, 47, 50, 48, 44, 52, 53, 52, 54, 49, 47, 54, 48, 48]) (anA (hd44 ([52, 54, 51, 47, 50, 48, 44, 52, 53, 52, 54, 49, 47, 54, 48, 48])))), .int .i64 (ppI ([52, 54, 51, 47, 50, 48, 44, 52, 53, 52, 54, 49, 47, 54, 48, 48]) (anB (hd44 ([52, 54, 51, 47, 50, 48, 44, 52, 53, 52, 54, 49, 47, 54, 48, 48])))), .int .i64 (ppI ([52, 54, 51, 47, 50, 48, 44, 52, 53, 52, 54, 49, 47, 54, 48, 48]) (anA (tl44 ([52, 54, 51, 47, 50, 48, 44, 52, 53, 52, 54, 49, 47, 54, 48, 48])))), .int .i64 (ppI ([52, 54, 51, 47, 50, 48, 44, 52, 53, 52, 54, 49, 47, 54, 48, 48]) (anB (tl44 ([52, 54, 51, 47, 50, 48, 44, 52, 53, 52, 54, 49, 47, 54, 48, 48]))))], .int .i64 (ppE ([52, 54, 51, 47, 50, 48, 44, 52, 53, 52, 54, 49, 47, 54, 48, 48]))]), (4, .tuple #[.agg #[.int .i64 (ppI ([52, 54, 51, 47, 50, 48, 44, 52, 53, 52, 54, 49, 47, 54, 48, 48]) (anA (hd44 ([52, 54, 51, 47, 50, 48, 44, 52, 53, 52, 54, 49, 47, 54, 48, 48])))), .int .i64 (ppI ([52, 54, 51, 47, 50, 48, 44, 52, 53, 52, 54, 49, 47, 54, 48, 48]) (anB (hd44 ([52, 54, 51, 47, 50, 48, 44, 52, 53, 52, 54, 49, 47, 54, 48, 48])))), .int .i64 (ppI ([52, 54, 51, 47, 50, 48, 44, 52, 53, 52, 54, 49, 47, 54, 48, 48]) (anA (tl44 ([52, 54, 51, 47, 50, 48, 44, 52, 53, 52, 54, 49, 47, 54, 48, 48])))), .int .i64 (ppI ([52, 54, 51, 47, 50, 48, 44, 52, 53, 52, 54, 49, 47, 54, 48, 48]) (anB (tl44 ([52, 54, 51, 47, 50, 48, 44, 52, 53, 52, 54, 49, 47, 54, 48, 48]))))], .int .i64 (ppE ([52, 54, 51, 47, 50, 48, 44, 52, 53, 52, 54, 49, 47, 54, 48, 48]))])]) hF (r_assign (hF.at 0 rfl)) rfl rfl rfl rfl fun a hF => ?_
  refine E.nil ?_
  refine wp_ret ?_
  have bel := st.bel
  refine bodyPost_ret (res_tmp Try.results5 (hF.at 0 rfl)) hF.dfr ?_
  exact ⟨rfl, bel⟩

set_option maxHeartbeats 2000000 in
theorem far60_any (v1 : Value) (q1 : Rat) (k : Nat) (w : World) (h1 : Rr w v1 q1 k) (hk : k ≤ 1000) :
    Calls Try.prog 18 #[v1, .int .i64 60] w (ValPost w (.bool (farB 60 q1))) := by
  obtain ⟨b1, ad1, n1, c1, ae1, m1, d1, rfl⟩ := h1.form
  have st := St.start w
  refine E.enter (nt := 11) (L := [(0, .agg #[.bool b1, .slice ad1 n1 c1, .slice ae1 m1 d1]), (1, .int .i64 60)]) Try.func18 rfl rfl rfl (args_cons (i := 0) rfl (args_cons (i := 1) rfl args_nil)) ?_
  intro a hF
  refine wp_seq ?_
  refine E.seq ?_
  refine S.box st hF (hF.at 0 rfl) rfl rfl fun g2 w1 a st hF => ?_
  refine E.opv hF (r_assign ev_c) rfl rfl rfl rfl fun a hF => ?_
  refine E.nil ?_
  refine wp_seq ?_
  refine E.seq ?_
  refine E.opv hF (r_load (hF.at 1 rfl) (ld_all ty_RRat (st.bk 0 rfl) rfl)) rfl rfl rfl rfl fun a hF => ?_
  refine S.call st hF (r_call Try.func40 en40.1 en40.2 (map1 (hF.at 0 rfl))) (dAbs_any _ (q1) k _ (h1.below st.bel)) (fun _ _ h => h) Rr.cl rfl rfl rfl rfl fun vv3 w2 a st hF => ?_
  obtain ⟨b5, ad5, n5, c5, ae5, m5, d5, rfl⟩ := Rr.form (st.f 0 rfl)
  refine E.opv hF (r_move (hF.at 5 rfl)) rfl rfl rfl rfl fun a hF => ?_
  refine S.call st hF (r_call Try.func19 en19.1 en19.2 (map2 (hF.at 0 rfl) ev_c)) (dOf_any (60) (1) _ (by decide) (by decide) (by decide) (by decide)) (fun _ _ h => h) Rr.cl rfl rfl rfl rfl fun vv7 w6 a st hF => ?_
  obtain ⟨b9, ad9, n9, c9, ae9, m9, d9, rfl⟩ := Rr.form (st.f 0 rfl)
  refine S.callx st hF (r_call Try.func39 en39.1 en39.2 (map2 (hF.at 2 rfl) (hF.at 0 rfl))) (dCmp_any _ _ _ _ (max k 2) _ (Rr.up (st.f 1 rfl) _ (by omega)) (Rr.up (st.f 0 rfl) _ (by omega)) (by omega)) rfl rfl rfl rfl fun w10 a st hF => ?_
  refine E.opv hF (r_bin (hF.at 0 rfl) ev_c eg_scalar (bi_int (ic_gtr (c := decide (0 < qc (Rat.abs (q1)) (((60 : Int) : Rat) / ((1 : Int) : Rat)))) rfl) (by simp))) rfl rfl rfl rfl fun a hF => ?_
  refine E.opset (L' := [(4, .bool (decide (0 < qc (Rat.abs (q1)) (((60 : Int) : Rat) / ((1 : Int) : Rat))))), (10, .bool (decide (0 < qc (Rat.abs (q1)) (((60 : Int) : Rat) / ((1 : Int) : Rat))))), (9, .int .i64 (qc (Rat.abs (q1)) (((60 : Int) : Rat) / ((1 : Int) : Rat)))), (8, .agg #[.bool b9, .slice ad9 n9 c9, .slice ae9 m9 d9]), (7, .int .i64 60), (6, .agg #[.bool b5, .slice ad5 n5 c5, .slice ae5 m5 d5]), (5, .agg #[.bool b1, .slice ad1 n1 c1, .slice ae1 m1 d1]), (2, .pointer (some ⟨g2, 0, none⟩)), (0, .agg #[.bool b1, .slice ad1 n1 c1, .slice ae1 m1 d1]), (1, .int .i64 60)]) hF (r_assign (hF.at 0 rfl)) rfl rfl rfl rfl fun a hF => ?_
  refine E.nil ?_
  refine wp_ret ?_
  have bel := st.bel
  refine bodyPost_ret (res_tmp Try.results18 (hF.at 0 rfl)) hF.dfr ?_
  refine ⟨rv_bool ?_, bel⟩
  unfold farB
  rw [show ((60 : Int) : Rat) / ((1 : Int) : Rat) = ((60 : Int) : Rat) by decide +kernel]
  exact decide_eq_decide.2 qc_gt13

set_option maxHeartbeats 2000000 in
theorem far180_any (v1 : Value) (q1 : Rat) (k : Nat) (w : World) (h1 : Rr w v1 q1 k) (hk : k ≤ 1000) :
    Calls Try.prog 18 #[v1, .int .i64 180] w (ValPost w (.bool (farB 180 q1))) := by
  obtain ⟨b1, ad1, n1, c1, ae1, m1, d1, rfl⟩ := h1.form
  have st := St.start w
  refine E.enter (nt := 11) (L := [(0, .agg #[.bool b1, .slice ad1 n1 c1, .slice ae1 m1 d1]), (1, .int .i64 180)]) Try.func18 rfl rfl rfl (args_cons (i := 0) rfl (args_cons (i := 1) rfl args_nil)) ?_
  intro a hF
  refine wp_seq ?_
  refine E.seq ?_
  refine S.box st hF (hF.at 0 rfl) rfl rfl fun g2 w1 a st hF => ?_
  refine E.opv hF (r_assign ev_c) rfl rfl rfl rfl fun a hF => ?_
  refine E.nil ?_
  refine wp_seq ?_
  refine E.seq ?_
  refine E.opv hF (r_load (hF.at 1 rfl) (ld_all ty_RRat (st.bk 0 rfl) rfl)) rfl rfl rfl rfl fun a hF => ?_
  refine S.call st hF (r_call Try.func40 en40.1 en40.2 (map1 (hF.at 0 rfl))) (dAbs_any _ (q1) k _ (h1.below st.bel)) (fun _ _ h => h) Rr.cl rfl rfl rfl rfl fun vv3 w2 a st hF => ?_
  obtain ⟨b5, ad5, n5, c5, ae5, m5, d5, rfl⟩ := Rr.form (st.f 0 rfl)
  refine E.opv hF (r_move (hF.at 5 rfl)) rfl rfl rfl rfl fun a hF => ?_
  refine S.call st hF (r_call Try.func19 en19.1 en19.2 (map2 (hF.at 0 rfl) ev_c)) (dOf_any (180) (1) _ (by decide) (by decide) (by decide) (by decide)) (fun _ _ h => h) Rr.cl rfl rfl rfl rfl fun vv7 w6 a st hF => ?_
  obtain ⟨b9, ad9, n9, c9, ae9, m9, d9, rfl⟩ := Rr.form (st.f 0 rfl)
  refine S.callx st hF (r_call Try.func39 en39.1 en39.2 (map2 (hF.at 2 rfl) (hF.at 0 rfl))) (dCmp_any _ _ _ _ (max k 2) _ (Rr.up (st.f 1 rfl) _ (by omega)) (Rr.up (st.f 0 rfl) _ (by omega)) (by omega)) rfl rfl rfl rfl fun w10 a st hF => ?_
  refine E.opv hF (r_bin (hF.at 0 rfl) ev_c eg_scalar (bi_int (ic_gtr (c := decide (0 < qc (Rat.abs (q1)) (((180 : Int) : Rat) / ((1 : Int) : Rat)))) rfl) (by simp))) rfl rfl rfl rfl fun a hF => ?_
  refine E.opset (L' := [(4, .bool (decide (0 < qc (Rat.abs (q1)) (((180 : Int) : Rat) / ((1 : Int) : Rat))))), (10, .bool (decide (0 < qc (Rat.abs (q1)) (((180 : Int) : Rat) / ((1 : Int) : Rat))))), (9, .int .i64 (qc (Rat.abs (q1)) (((180 : Int) : Rat) / ((1 : Int) : Rat)))), (8, .agg #[.bool b9, .slice ad9 n9 c9, .slice ae9 m9 d9]), (7, .int .i64 180), (6, .agg #[.bool b5, .slice ad5 n5 c5, .slice ae5 m5 d5]), (5, .agg #[.bool b1, .slice ad1 n1 c1, .slice ae1 m1 d1]), (2, .pointer (some ⟨g2, 0, none⟩)), (0, .agg #[.bool b1, .slice ad1 n1 c1, .slice ae1 m1 d1]), (1, .int .i64 180)]) hF (r_assign (hF.at 0 rfl)) rfl rfl rfl rfl fun a hF => ?_
  refine E.nil ?_
  refine wp_ret ?_
  have bel := st.bel
  refine bodyPost_ret (res_tmp Try.results18 (hF.at 0 rfl)) hF.dfr ?_
  refine ⟨rv_bool ?_, bel⟩
  unfold farB
  rw [show ((180 : Int) : Rat) / ((1 : Int) : Rat) = ((180 : Int) : Rat) by decide +kernel]
  exact decide_eq_decide.2 qc_gt13

set_option maxHeartbeats 4000000 in
theorem rCheck_any (a1 b1 c1 d1 : Int) (w : World) (ha0 : -9223372036854775808 < a1) (ha1 : a1 ≤ 9223372036854775807) (hc0 : -9223372036854775808 < c1) (hc1 : c1 ≤ 9223372036854775807) :
    Calls Try.prog 6 #[.int .i64 a1, .int .i64 b1, .int .i64 c1, .int .i64 d1] w (ValPost w (.int .i64 (rcE a1 b1 c1 d1))) := by
  have st := St.start w
  refine E.enter (nt := 33) (L := [(0, .int .i64 a1), (1, .int .i64 b1), (2, .int .i64 c1), (3, .int .i64 d1)]) Try.func6 rfl rfl rfl (args_cons (i := 0) rfl (args_cons (i := 1) rfl (args_cons (i := 2) rfl (args_cons (i := 3) rfl args_nil)))) ?_
  intro a hF
  refine wp_seq ?_
  refine E.seq ?_
  refine E.opv hF (r_assign ev_c) rfl rfl rfl rfl fun a hF => ?_
  refine E.nil ?_
  refine wp_seq ?_
  refine wp_seq ?_
  refine E.seq ?_
  refine E.opv hF (r_move (hF.at 2 rfl)) rfl rfl rfl rfl fun a hF => ?_
  by_cases hc1 : b1 < 1
  · refine E.opv hF (r_bin (hF.at 0 rfl) ev_c eg_scalar (bi_int (ic_lss (c := true) (dec_tt hc1)) (by simp))) rfl rfl rfl rfl fun a hF => ?_
    refine E.opv hF (r_move (hF.at 0 rfl)) rfl rfl rfl rfl fun a hF => ?_
    refine E.unwanted hF (wanted_by rfl rfl (hF.at 0 rfl) rfl) rfl rfl rfl fun a hF => ?_
    refine E.unwanted hF (wanted_by rfl rfl (hF.at 1 rfl) rfl) rfl rfl rfl fun a hF => ?_
    refine E.opv hF (r_pick_t (hF.at 2 rfl) ev_c) rfl rfl rfl rfl fun a hF => ?_
    refine E.opv hF (r_move (hF.at 0 rfl)) rfl rfl rfl rfl fun a hF => ?_
    refine E.unwanted hF (wanted_by rfl rfl (hF.at 0 rfl) rfl) rfl rfl rfl fun a hF => ?_
    refine E.unwanted hF (wanted_by rfl rfl (hF.at 1 rfl) rfl) rfl rfl rfl fun a hF => ?_
    refine E.opv hF (r_pick_t (hF.at 2 rfl) ev_c) rfl rfl rfl rfl fun a hF => ?_
    refine E.opv hF (r_move (hF.at 0 rfl)) rfl rfl rfl rfl fun a hF => ?_
    refine E.unwanted hF (wanted_by rfl rfl (hF.at 0 rfl) rfl) rfl rfl rfl fun a hF => ?_
    refine E.unwanted hF (wanted_by rfl rfl (hF.at 1 rfl) rfl) rfl rfl rfl fun a hF => ?_
    refine E.opv hF (r_pick_t (hF.at 2 rfl) ev_c) rfl rfl rfl rfl fun a hF => ?_
    refine E.nil ?_
    refine wp_cond_true (hF.at 0 rfl) ?_
    refine wp_seq ?_
    refine E.seq ?_
    refine E.opset (L' := [(8, .int .i64 2), (22, .bool true), (21, undef), (20, undef), (19, .bool true), (18, .bool true), (17, undef), (16, undef), (15, .bool true), (14, .bool true), (13, undef), (12, undef), (11, .bool true), (10, .bool true), (9, .int .i64 b1), (0, .int .i64 a1), (1, .int .i64 b1), (2, .int .i64 c1), (3, .int .i64 d1)]) hF (r_assign ev_c) rfl rfl rfl rfl fun a hF => ?_
    refine E.nil ?_
    refine wp_ret ?_
    have bel := st.bel
    refine bodyPost_ret (res_tmp Try.results6 (hF.at 0 rfl)) hF.dfr ?_
    refine ⟨rv_int ?_, bel⟩
    unfold rcE
    rw [if_pos (by omega)]
  · refine E.opv hF (r_bin (hF.at 0 rfl) ev_c eg_scalar (bi_int (ic_lss (c := false) (dec_ff hc1)) (by simp))) rfl rfl rfl rfl fun a hF => ?_
    refine E.opv hF (r_move (hF.at 0 rfl)) rfl rfl rfl rfl fun a hF => ?_
    refine E.opvg hF (r_move (hF.at 5 rfl)) (wanted_by rfl rfl (hF.at 0 rfl) rfl) rfl rfl rfl fun a hF => ?_
    by_cases hc2 : 3600 < b1
    · refine E.opvg hF (r_bin (hF.at 0 rfl) ev_c eg_scalar (bi_int (ic_gtr (c := true) (dec_tt hc2)) (by simp))) (wanted_by rfl rfl (hF.at 1 rfl) rfl) rfl rfl rfl fun a hF => ?_
      refine E.opv hF (r_pick_f (hF.at 2 rfl) (hF.at 0 rfl)) rfl rfl rfl rfl fun a hF => ?_
      refine E.opv hF (r_move (hF.at 0 rfl)) rfl rfl rfl rfl fun a hF => ?_
      refine E.unwanted hF (wanted_by rfl rfl (hF.at 0 rfl) rfl) rfl rfl rfl fun a hF => ?_
      refine E.unwanted hF (wanted_by rfl rfl (hF.at 1 rfl) rfl) rfl rfl rfl fun a hF => ?_
      refine E.opv hF (r_pick_t (hF.at 2 rfl) ev_c) rfl rfl rfl rfl fun a hF => ?_
      refine E.opv hF (r_move (hF.at 0 rfl)) rfl rfl rfl rfl fun a hF => ?_
      refine E.unwanted hF (wanted_by rfl rfl (hF.at 0 rfl) rfl) rfl rfl rfl fun a hF => ?_
      refine E.unwanted hF (wanted_by rfl rfl (hF.at 1 rfl) rfl) rfl rfl rfl fun a hF => ?_
      refine E.opv hF (r_pick_t (hF.at 2 rfl) ev_c) rfl rfl rfl rfl fun a hF => ?_
      refine E.nil ?_
      refine wp_cond_true (hF.at 0 rfl) ?_
      refine wp_seq ?_
      refine E.seq ?_
      refine E.opset (L' := [(8, .int .i64 2), (22, .bool true), (21, undef), (20, undef), (19, .bool true), (18, .bool true), (17, undef), (16, undef), (15, .bool true), (14, .bool true), (13, .bool true), (12, .int .i64 b1), (11, .bool false), (10, .bool false), (9, .int .i64 b1), (0, .int .i64 a1), (1, .int .i64 b1), (2, .int .i64 c1), (3, .int .i64 d1)]) hF (r_assign ev_c) rfl rfl rfl rfl fun a hF => ?_
      refine E.nil ?_
      refine wp_ret ?_
      have bel := st.bel
      refine bodyPost_ret (res_tmp Try.results6 (hF.at 0 rfl)) hF.dfr ?_
      refine ⟨rv_int ?_, bel⟩
      unfold rcE
      rw [if_pos (by omega)]
    · refine E.opvg hF (r_bin (hF.at 0 rfl) ev_c eg_scalar (bi_int (ic_gtr (c := false) (dec_ff hc2)) (by simp))) (wanted_by rfl rfl (hF.at 1 rfl) rfl) rfl rfl rfl fun a hF => ?_
      refine E.opv hF (r_pick_f (hF.at 2 rfl) (hF.at 0 rfl)) rfl rfl rfl rfl fun a hF => ?_
      refine E.opv hF (r_move (hF.at 0 rfl)) rfl rfl rfl rfl fun a hF => ?_
      refine E.opvg hF (r_move (hF.at 11 rfl)) (wanted_by rfl rfl (hF.at 0 rfl) rfl) rfl rfl rfl fun a hF => ?_
      by_cases hc3 : d1 < 1
      · refine E.opvg hF (r_bin (hF.at 0 rfl) ev_c eg_scalar (bi_int (ic_lss (c := true) (dec_tt hc3)) (by simp))) (wanted_by rfl rfl (hF.at 1 rfl) rfl) rfl rfl rfl fun a hF => ?_
        refine E.opv hF (r_pick_f (hF.at 2 rfl) (hF.at 0 rfl)) rfl rfl rfl rfl fun a hF => ?_
        refine E.opv hF (r_move (hF.at 0 rfl)) rfl rfl rfl rfl fun a hF => ?_
        refine E.unwanted hF (wanted_by rfl rfl (hF.at 0 rfl) rfl) rfl rfl rfl fun a hF => ?_
        refine E.unwanted hF (wanted_by rfl rfl (hF.at 1 rfl) rfl) rfl rfl rfl fun a hF => ?_
        refine E.opv hF (r_pick_t (hF.at 2 rfl) ev_c) rfl rfl rfl rfl fun a hF => ?_
        refine E.nil ?_
        refine wp_cond_true (hF.at 0 rfl) ?_
        refine wp_seq ?_
        refine E.seq ?_
        refine E.opset (L' := [(8, .int .i64 2), (22, .bool true), (21, undef), (20, undef), (19, .bool true), (18, .bool true), (17, .bool true), (16, .int .i64 d1), (15, .bool false), (14, .bool false), (13, .bool false), (12, .int .i64 b1), (11, .bool false), (10, .bool false), (9, .int .i64 b1), (0, .int .i64 a1), (1, .int .i64 b1), (2, .int .i64 c1), (3, .int .i64 d1)]) hF (r_assign ev_c) rfl rfl rfl rfl fun a hF => ?_
        refine E.nil ?_
        refine wp_ret ?_
        have bel := st.bel
        refine bodyPost_ret (res_tmp Try.results6 (hF.at 0 rfl)) hF.dfr ?_
        refine ⟨rv_int ?_, bel⟩
        unfold rcE
        rw [if_pos (by omega)]
      · refine E.opvg hF (r_bin (hF.at 0 rfl) ev_c eg_scalar (bi_int (ic_lss (c := false) (dec_ff hc3)) (by simp))) (wanted_by rfl rfl (hF.at 1 rfl) rfl) rfl rfl rfl fun a hF => ?_
        refine E.opv hF (r_pick_f (hF.at 2 rfl) (hF.at 0 rfl)) rfl rfl rfl rfl fun a hF => ?_
        refine E.opv hF (r_move (hF.at 0 rfl)) rfl rfl rfl rfl fun a hF => ?_
        refine E.opvg hF (r_move (hF.at 15 rfl)) (wanted_by rfl rfl (hF.at 0 rfl) rfl) rfl rfl rfl fun a hF => ?_
        by_cases hc4 : 3600 < d1
        · refine E.opvg hF (r_bin (hF.at 0 rfl) ev_c eg_scalar (bi_int (ic_gtr (c := true) (dec_tt hc4)) (by simp))) (wanted_by rfl rfl (hF.at 1 rfl) rfl) rfl rfl rfl fun a hF => ?_
          refine E.opv hF (r_pick_f (hF.at 2 rfl) (hF.at 0 rfl)) rfl rfl rfl rfl fun a hF => ?_
          refine E.nil ?_
          refine wp_cond_true (hF.at 0 rfl) ?_
          refine wp_seq ?_
          refine E.seq ?_
          refine E.opset (L' := [(8, .int .i64 2), (22, .bool true), (21, .bool true), (20, .int .i64 d1), (19, .bool false), (18, .bool false), (17, .bool false), (16, .int .i64 d1), (15, .bool false), (14, .bool false), (13, .bool false), (12, .int .i64 b1), (11, .bool false), (10, .bool false), (9, .int .i64 b1), (0, .int .i64 a1), (1, .int .i64 b1), (2, .int .i64 c1), (3, .int .i64 d1)]) hF (r_assign ev_c) rfl rfl rfl rfl fun a hF => ?_
          refine E.nil ?_
          refine wp_ret ?_
          have bel := st.bel
          refine bodyPost_ret (res_tmp Try.results6 (hF.at 0 rfl)) hF.dfr ?_
          refine ⟨rv_int ?_, bel⟩
          unfold rcE
          rw [if_pos (by omega)]
        · refine E.opvg hF (r_bin (hF.at 0 rfl) ev_c eg_scalar (bi_int (ic_gtr (c := false) (dec_ff hc4)) (by simp))) (wanted_by rfl rfl (hF.at 1 rfl) rfl) rfl rfl rfl fun a hF => ?_
          refine E.opv hF (r_pick_f (hF.at 2 rfl) (hF.at 0 rfl)) rfl rfl rfl rfl fun a hF => ?_
          refine E.nil ?_
          refine wp_cond_false (hF.at 0 rfl) ?_
          refine wp_skip ?_
          refine E.norm ?_
          refine wp_seq ?_
          refine wp_seq ?_
          refine E.seq ?_
          refine E.opv hF (r_move (hF.at 15 rfl)) rfl rfl rfl rfl fun a hF => ?_
          refine E.opv hF (r_move (hF.at 17 rfl)) rfl rfl rfl rfl fun a hF => ?_
          refine S.call st hF (r_call Try.func19 en19.1 en19.2 (map2 (hF.at 1 rfl) (hF.at 0 rfl))) (dOf_any (a1) (b1) _ (by omega) (by omega) (by omega) (by omega)) (fun _ _ h => h) Rr.cl rfl rfl rfl rfl fun vv6 w5 a st hF => ?_
          obtain ⟨b8, ad8, n8, c8, ae8, m8, d8, rfl⟩ := Rr.form (st.f 0 rfl)
          refine S.callx st hF (r_call Try.func18 en18.1 en18.2 (map2 (hF.at 0 rfl) ev_c)) (far60_any _ _ 2 _ (st.f 0 rfl) (by omega)) rfl rfl rfl rfl fun w9 a st hF => ?_
          refine E.opv hF (r_move (hF.at 0 rfl)) rfl rfl rfl rfl fun a hF => ?_
          by_cases hc10 : farB 60 (((a1 : Int) : Rat) / ((b1 : Int) : Rat)) = true
          · refine E.unwanted hF (wanted_by rfl rfl (Eq.trans (hF.at 0 rfl) (congrArg Value.bool hc10)) rfl) rfl rfl rfl fun a hF => ?_
            refine E.unwanted hF (wanted_by rfl rfl (Eq.trans (hF.at 1 rfl) (congrArg Value.bool hc10)) rfl) rfl rfl rfl fun a hF => ?_
            refine E.unwanted hF (wanted_by rfl rfl (Eq.trans (hF.at 2 rfl) (congrArg Value.bool hc10)) rfl) rfl rfl rfl fun a hF => ?_
            refine E.unwanted hF (wanted_by rfl rfl (Eq.trans (hF.at 3 rfl) (congrArg Value.bool hc10)) rfl) rfl rfl rfl fun a hF => ?_
            refine E.opv hF (r_pick_t (Eq.trans (hF.at 4 rfl) (congrArg Value.bool hc10)) ev_c) rfl rfl rfl rfl fun a hF => ?_
            refine E.nil ?_
            refine wp_cond_true (hF.at 0 rfl) ?_
            refine wp_seq ?_
            refine E.seq ?_
            refine E.opset (L' := [(8, .int .i64 2), (32, .bool true), (31, undef), (30, undef), (29, undef), (28, undef), (27, .bool (farB 60 (((a1 : Int) : Rat) / ((b1 : Int) : Rat)))), (26, .bool (farB 60 (((a1 : Int) : Rat) / ((b1 : Int) : Rat)))), (25, .agg #[.bool b8, .slice ad8 n8 c8, .slice ae8 m8 d8]), (24, .int .i64 b1), (23, .int .i64 a1), (22, .bool false), (21, .bool false), (20, .int .i64 d1), (19, .bool false), (18, .bool false), (17, .bool false), (16, .int .i64 d1), (15, .bool false), (14, .bool false), (13, .bool false), (12, .int .i64 b1), (11, .bool false), (10, .bool false), (9, .int .i64 b1), (0, .int .i64 a1), (1, .int .i64 b1), (2, .int .i64 c1), (3, .int .i64 d1)]) hF (r_assign ev_c) rfl rfl rfl rfl fun a hF => ?_
            refine E.nil ?_
            refine wp_ret ?_
            have bel := st.bel
            refine bodyPost_ret (res_tmp Try.results6 (hF.at 0 rfl)) hF.dfr ?_
            refine ⟨rv_int ?_, bel⟩
            unfold rcE
            rw [if_neg (by omega), if_pos (by first | exact .inl (by assumption) | exact .inr (by assumption))]
          · refine E.opvg hF (r_move (hF.at 22 rfl)) (wanted_by rfl rfl (Eq.trans (hF.at 0 rfl) (congrArg Value.bool (eq_false_of_ne_true hc10))) rfl) rfl rfl rfl fun a hF => ?_
            refine E.opvg hF (r_move (hF.at 24 rfl)) (wanted_by rfl rfl (Eq.trans (hF.at 1 rfl) (congrArg Value.bool (eq_false_of_ne_true hc10))) rfl) rfl rfl rfl fun a hF => ?_
            refine S.callg st hF (wanted_by rfl rfl (Eq.trans (hF.at 2 rfl) (congrArg Value.bool (eq_false_of_ne_true hc10))) rfl) (r_call Try.func19 en19.1 en19.2 (map2 (hF.at 1 rfl) (hF.at 0 rfl))) (dOf_any (c1) (d1) _ (by omega) (by omega) (by omega) (by omega)) (fun _ _ h => h) Rr.cl rfl rfl rfl fun vv12 w11 a st hF => ?_
            obtain ⟨b14, ad14, n14, c14, ae14, m14, d14, rfl⟩ := Rr.form (st.f 0 rfl)
            refine S.callxg st hF (wanted_by rfl rfl (Eq.trans (hF.at 3 rfl) (congrArg Value.bool (eq_false_of_ne_true hc10))) rfl) (r_call Try.func18 en18.1 en18.2 (map2 (hF.at 0 rfl) ev_c)) (far180_any _ _ 2 _ (st.f 0 rfl) (by omega)) rfl rfl rfl fun w15 a st hF => ?_
            refine E.opv hF (r_pick_f (Eq.trans (hF.at 4 rfl) (congrArg Value.bool (eq_false_of_ne_true hc10))) (hF.at 0 rfl)) rfl rfl rfl rfl fun a hF => ?_
            refine E.nil ?_
            by_cases hc16 : farB 180 (((c1 : Int) : Rat) / ((d1 : Int) : Rat)) = true
            · refine wp_cond_true (Eq.trans (hF.at 0 rfl) (congrArg Value.bool hc16)) ?_
              refine wp_seq ?_
              refine E.seq ?_
              refine E.opset (L' := [(8, .int .i64 2), (32, .bool (farB 180 (((c1 : Int) : Rat) / ((d1 : Int) : Rat)))), (31, .bool (farB 180 (((c1 : Int) : Rat) / ((d1 : Int) : Rat)))), (30, .agg #[.bool b14, .slice ad14 n14 c14, .slice ae14 m14 d14]), (29, .int .i64 d1), (28, .int .i64 c1), (27, .bool (farB 60 (((a1 : Int) : Rat) / ((b1 : Int) : Rat)))), (26, .bool (farB 60 (((a1 : Int) : Rat) / ((b1 : Int) : Rat)))), (25, .agg #[.bool b8, .slice ad8 n8 c8, .slice ae8 m8 d8]), (24, .int .i64 b1), (23, .int .i64 a1), (22, .bool false), (21, .bool false), (20, .int .i64 d1), (19, .bool false), (18, .bool false), (17, .bool false), (16, .int .i64 d1), (15, .bool false), (14, .bool false), (13, .bool false), (12, .int .i64 b1), (11, .bool false), (10, .bool false), (9, .int .i64 b1), (0, .int .i64 a1), (1, .int .i64 b1), (2, .int .i64 c1), (3, .int .i64 d1)]) hF (r_assign ev_c) rfl rfl rfl rfl fun a hF => ?_
              refine E.nil ?_
              refine wp_ret ?_
              have bel := st.bel
              refine bodyPost_ret (res_tmp Try.results6 (hF.at 0 rfl)) hF.dfr ?_
              refine ⟨rv_int ?_, bel⟩
              unfold rcE
              rw [if_neg (by omega), if_pos (by first | exact .inl (by assumption) | exact .inr (by assumption))]
            · refine wp_cond_false (Eq.trans (hF.at 0 rfl) (congrArg Value.bool (eq_false_of_ne_true hc16))) ?_
              refine wp_skip ?_
              refine E.norm ?_
              refine wp_seq ?_
              refine E.seq ?_
              refine E.opset (L' := [(8, .int .i64 0), (32, .bool (farB 180 (((c1 : Int) : Rat) / ((d1 : Int) : Rat)))), (31, .bool (farB 180 (((c1 : Int) : Rat) / ((d1 : Int) : Rat)))), (30, .agg #[.bool b14, .slice ad14 n14 c14, .slice ae14 m14 d14]), (29, .int .i64 d1), (28, .int .i64 c1), (27, .bool (farB 60 (((a1 : Int) : Rat) / ((b1 : Int) : Rat)))), (26, .bool (farB 60 (((a1 : Int) : Rat) / ((b1 : Int) : Rat)))), (25, .agg #[.bool b8, .slice ad8 n8 c8, .slice ae8 m8 d8]), (24, .int .i64 b1), (23, .int .i64 a1), (22, .bool false), (21, .bool false), (20, .int .i64 d1), (19, .bool false), (18, .bool false), (17, .bool false), (16, .int .i64 d1), (15, .bool false), (14, .bool false), (13, .bool false), (12, .int .i64 b1), (11, .bool false), (10, .bool false), (9, .int .i64 b1), (0, .int .i64 a1), (1, .int .i64 b1), (2, .int .i64 c1), (3, .int .i64 d1)]) hF (r_assign ev_c) rfl rfl rfl rfl fun a hF => ?_
              refine E.nil ?_
              refine wp_ret ?_
              have bel := st.bel
              refine bodyPost_ret (res_tmp Try.results6 (hF.at 0 rfl)) hF.dfr ?_
              refine ⟨rv_int ?_, bel⟩
              unfold rcE
              rw [if_neg (by omega), if_neg (by rintro (q | q) <;> contradiction)]

theorem pc_eq (a b c d : Int) : plE a b c d = rcE a (min (max b (-1)) 4000) c (min (max d (-1)) 4000) := by rw [rcE_pl]; exact plE_cl a b c d
set_option maxHeartbeats 8000000 in
theorem placeChecks_walk (la lb lc ld : Int) (w : World) (hM : MLen w) :
    Calls Try.prog 3 #[.int .i64 la, .int .i64 lb, .int .i64 lc, .int .i64 ld] w (ValPost w (.bool true)) := by
  have st := St.start w
  refine E.enter (nt := 44) (L := [(0, .int .i64 la), (1, .int .i64 lb), (2, .int .i64 lc), (3, .int .i64 ld)]) Try.func3 rfl rfl rfl (args_cons (i := 0) rfl (args_cons (i := 1) rfl (args_cons (i := 2) rfl (args_cons (i := 3) rfl args_nil)))) ?_
  intro a hF
  refine wp_seq ?_
  refine E.seq ?_
  refine E.opv hF (r_assign ev_c) rfl rfl rfl rfl fun a hF => ?_
  refine E.nil ?_
  refine wp_seq ?_
  refine wp_seq ?_
  refine E.seq ?_
  refine S.callx st hF (r_call Try.func5 en5.1 en5.2 map0) (awake13_any _ (hM.below st.bel)) rfl rfl rfl rfl fun w1 a st hF => ?_
  refine E.opv hF (r_un (hF.at 0 rfl) (bn_not _ false rfl)) rfl rfl rfl rfl fun a hF => ?_
  refine E.nil ?_
  refine wp_cond_false (hF.at 0 rfl) ?_
  refine wp_skip ?_
  refine E.norm ?_
  refine wp_seq ?_
  refine E.seq ?_
  refine E.opv hF (r_assign ev_c) rfl rfl rfl rfl fun a hF => ?_
  refine E.nil ?_
  refine wp_seq ?_
  refine E.seq ?_
  refine E.opv hF (r_move (hF.at 4 rfl)) rfl rfl rfl rfl fun a hF => ?_
  refine E.opv hF (r_move (hF.at 1 rfl)) rfl rfl rfl rfl fun a hF => ?_
  refine E.opv hF (r_un (hF.at 0 rfl) (bn_neg (by omega) (by omega))) rfl rfl rfl rfl fun a hF => ?_
  refine E.opv hF (r_builtin (map2 (hF.at 2 rfl) (hF.at 0 rfl)) bl_max) rfl rfl rfl rfl fun a hF => ?_
  refine E.opv hF (r_move (hF.at 4 rfl)) rfl rfl rfl rfl fun a hF => ?_
  refine E.opv hF (r_builtin (map2 (hF.at 1 rfl) (hF.at 0 rfl)) bl_min) rfl rfl rfl rfl fun a hF => ?_
  refine E.opv hF (r_move (hF.at 12 rfl)) rfl rfl rfl rfl fun a hF => ?_
  refine E.opv hF (r_move (hF.at 7 rfl)) rfl rfl rfl rfl fun a hF => ?_
  refine E.opv hF (r_un (hF.at 0 rfl) (bn_neg (by omega) (by omega))) rfl rfl rfl rfl fun a hF => ?_
  refine E.opv hF (r_builtin (map2 (hF.at 2 rfl) (hF.at 0 rfl)) bl_max) rfl rfl rfl rfl fun a hF => ?_
  refine E.opv hF (r_move (hF.at 10 rfl)) rfl rfl rfl rfl fun a hF => ?_
  refine E.opv hF (r_builtin (map2 (hF.at 1 rfl) (hF.at 0 rfl)) bl_min) rfl rfl rfl rfl fun a hF => ?_
  refine E.opset (L' := [(0, .int .i64 (min (max la (-1099511627776)) 1099511627776)), (25, .int .i64 (min (max lc (-1099511627776)) 1099511627776)), (24, .int .i64 1099511627776), (23, .int .i64 (max lc (-1099511627776))), (22, .int .i64 (-1099511627776)), (21, .int .i64 1099511627776), (20, .int .i64 lc), (19, .int .i64 (min (max la (-1099511627776)) 1099511627776)), (18, .int .i64 1099511627776), (17, .int .i64 (max la (-1099511627776))), (16, .int .i64 (-1099511627776)), (15, .int .i64 1099511627776), (14, .int .i64 la), (9, .int .i64 1099511627776), (13, .bool false), (12, .bool true), (8, .bool false), (1, .int .i64 lb), (2, .int .i64 lc), (3, .int .i64 ld)]) hF (r_assign (hF.at 6 rfl)) rfl rfl rfl rfl fun a hF => ?_
  refine E.opset (L' := [(2, .int .i64 (min (max lc (-1099511627776)) 1099511627776)), (0, .int .i64 (min (max la (-1099511627776)) 1099511627776)), (25, .int .i64 (min (max lc (-1099511627776)) 1099511627776)), (24, .int .i64 1099511627776), (23, .int .i64 (max lc (-1099511627776))), (22, .int .i64 (-1099511627776)), (21, .int .i64 1099511627776), (20, .int .i64 lc), (19, .int .i64 (min (max la (-1099511627776)) 1099511627776)), (18, .int .i64 1099511627776), (17, .int .i64 (max la (-1099511627776))), (16, .int .i64 (-1099511627776)), (15, .int .i64 1099511627776), (14, .int .i64 la), (9, .int .i64 1099511627776), (13, .bool false), (12, .bool true), (8, .bool false), (1, .int .i64 lb), (3, .int .i64 ld)]) hF (r_assign (hF.at 1 rfl)) rfl rfl rfl rfl fun a hF => ?_
  refine E.nil ?_
  refine wp_seq ?_
  refine E.seq ?_
  refine E.opv hF (r_move (hF.at 1 rfl)) rfl rfl rfl rfl fun a hF => ?_
  refine E.opv hF (r_move (hF.at 19 rfl)) rfl rfl rfl rfl fun a hF => ?_
  refine E.opv hF (r_move (hF.at 2 rfl)) rfl rfl rfl rfl fun a hF => ?_
  refine E.opv hF (r_move (hF.at 22 rfl)) rfl rfl rfl rfl fun a hF => ?_
  refine E.opv hF (r_build (pair4 (hF.at 3 rfl) (hF.at 2 rfl) (hF.at 1 rfl) (hF.at 0 rfl)) (bd_Plc_0123 _ _ _ _ _)) rfl rfl rfl rfl fun a hF => ?_
  refine S.new st hF 0 rfl ty_Plc rfl rfl rfl rfl rfl fun g10 w2 a st hF => ?_
  refine E.nil ?_
  refine wp_seq ?_
  refine E.seq ?_
  refine E.opv hF (r_move (hF.at 7 rfl)) rfl rfl rfl rfl fun a hF => ?_
  refine E.opv hF (r_move (hF.at 25 rfl)) rfl rfl rfl rfl fun a hF => ?_
  refine E.opv hF (r_builtin (map2 (hF.at 0 rfl) ev_c) bl_max) rfl rfl rfl rfl fun a hF => ?_
  refine E.opv hF (r_builtin (map2 (hF.at 0 rfl) ev_c) bl_min) rfl rfl rfl rfl fun a hF => ?_
  refine E.opv hF (r_move (hF.at 10 rfl)) rfl rfl rfl rfl fun a hF => ?_
  refine E.opv hF (r_move (hF.at 30 rfl)) rfl rfl rfl rfl fun a hF => ?_
  refine E.opv hF (r_builtin (map2 (hF.at 0 rfl) ev_c) bl_max) rfl rfl rfl rfl fun a hF => ?_
  refine E.opv hF (r_builtin (map2 (hF.at 0 rfl) ev_c) bl_min) rfl rfl rfl rfl fun a hF => ?_
  refine S.callx st hF (r_call Try.func6 en6.1 en6.2 (map4 (hF.at 7 rfl) (hF.at 4 rfl) (hF.at 3 rfl) (hF.at 0 rfl))) (rCheck_any (min (max la (-1099511627776)) 1099511627776) (min (max lb (-1)) 4000) (min (max lc (-1099511627776)) 1099511627776) (min (max ld (-1)) 4000) _ (by omega) (by omega) (by omega) (by omega)) rfl rfl rfl rfl fun w3 a st hF => ?_
  refine E.opv hF (r_assign (hF.at 0 rfl)) rfl rfl rfl rfl fun a hF => ?_
  refine E.nil ?_
  refine wp_seq ?_
  refine E.seq ?_
  refine E.opv hF (r_load (hF.at 10 rfl) (ld_all ty_Plc (st.bk 0 rfl) rfl)) rfl rfl rfl rfl fun a hF => ?_
  refine S.callx st hF (r_call Try.func7 en7.1 en7.2 (map1 (hF.at 0 rfl))) (pCheck_any (min (max la (-1099511627776)) 1099511627776) lb (min (max lc (-1099511627776)) 1099511627776) ld _) rfl rfl rfl rfl fun w4 a st hF => ?_
  refine E.opv hF (r_move (hF.at 2 rfl)) rfl rfl rfl rfl fun a hF => ?_
  refine E.opv hF (r_bin (hF.at 1 rfl) (hF.at 0 rfl) eg_scalar (bi_int (ic_eql (c := true) (dec_tt (pc_eq _ _ _ _))) (by simp))) rfl rfl rfl rfl fun a hF => ?_
  refine E.opset (L' := [(8, .bool true), (43, .bool true), (42, .int .i64 (rcE (min (max la (-1099511627776)) 1099511627776) (min (max lb (-1)) 4000) (min (max lc (-1099511627776)) 1099511627776) (min (max ld (-1)) 4000))), (41, .int .i64 (plE (min (max la (-1099511627776)) 1099511627776) lb (min (max lc (-1099511627776)) 1099511627776) ld)), (40, .agg #[.int .i64 (min (max la (-1099511627776)) 1099511627776), .int .i64 lb, .int .i64 (min (max lc (-1099511627776)) 1099511627776), .int .i64 ld]), (11, .int .i64 (rcE (min (max la (-1099511627776)) 1099511627776) (min (max lb (-1)) 4000) (min (max lc (-1099511627776)) 1099511627776) (min (max ld (-1)) 4000))), (39, .int .i64 (rcE (min (max la (-1099511627776)) 1099511627776) (min (max lb (-1)) 4000) (min (max lc (-1099511627776)) 1099511627776) (min (max ld (-1)) 4000))), (38, .int .i64 (min (max ld (-1)) 4000)), (37, .int .i64 (max ld (-1))), (36, .int .i64 ld), (35, .int .i64 (min (max lc (-1099511627776)) 1099511627776)), (34, .int .i64 (min (max lb (-1)) 4000)), (33, .int .i64 (max lb (-1))), (32, .int .i64 lb), (31, .int .i64 (min (max la (-1099511627776)) 1099511627776)), (10, .pointer (some ⟨g10, 0, none⟩)), (30, .agg #[.int .i64 (min (max la (-1099511627776)) 1099511627776), .int .i64 lb, .int .i64 (min (max lc (-1099511627776)) 1099511627776), .int .i64 ld]), (29, .int .i64 ld), (28, .int .i64 (min (max lc (-1099511627776)) 1099511627776)), (27, .int .i64 lb), (26, .int .i64 (min (max la (-1099511627776)) 1099511627776)), (2, .int .i64 (min (max lc (-1099511627776)) 1099511627776)), (0, .int .i64 (min (max la (-1099511627776)) 1099511627776)), (25, .int .i64 (min (max lc (-1099511627776)) 1099511627776)), (24, .int .i64 1099511627776), (23, .int .i64 (max lc (-1099511627776))), (22, .int .i64 (-1099511627776)), (21, .int .i64 1099511627776), (20, .int .i64 lc), (19, .int .i64 (min (max la (-1099511627776)) 1099511627776)), (18, .int .i64 1099511627776), (17, .int .i64 (max la (-1099511627776))), (16, .int .i64 (-1099511627776)), (15, .int .i64 1099511627776), (14, .int .i64 la), (9, .int .i64 1099511627776), (13, .bool false), (12, .bool true), (1, .int .i64 lb), (3, .int .i64 ld)]) hF (r_assign (hF.at 0 rfl)) rfl rfl rfl rfl fun a hF => ?_
  refine E.nil ?_
  refine wp_ret ?_
  have bel := st.bel
  refine bodyPost_ret (res_tmp Try.results3 (hF.at 0 rfl)) hF.dfr ?_
  exact ⟨rfl, bel⟩

set_option maxHeartbeats 8000000 in
theorem placeTexts_walk (la lb lc ld : Int) (w : World) (hM : MLen w) :
    Calls Try.prog 4 #[.int .i64 la, .int .i64 lb, .int .i64 lc, .int .i64 ld] w (ValPost w (.bool true)) := by
  have st := St.start w
  refine E.enter (nt := 72) (L := [(0, .int .i64 la), (1, .int .i64 lb), (2, .int .i64 lc), (3, .int .i64 ld)]) Try.func4 rfl rfl rfl (args_cons (i := 0) rfl (args_cons (i := 1) rfl (args_cons (i := 2) rfl (args_cons (i := 3) rfl args_nil)))) ?_
  intro a hF
  refine wp_seq ?_
  refine E.seq ?_
  refine E.opv hF (r_assign ev_c) rfl rfl rfl rfl fun a hF => ?_
  refine E.nil ?_
  refine wp_seq ?_
  refine wp_seq ?_
  refine E.seq ?_
  refine S.callx st hF (r_call Try.func5 en5.1 en5.2 map0) (awake13_any _ (hM.below st.bel)) rfl rfl rfl rfl fun w1 a st hF => ?_
  refine E.opv hF (r_un (hF.at 0 rfl) (bn_not _ false rfl)) rfl rfl rfl rfl fun a hF => ?_
  refine E.nil ?_
  refine wp_cond_false (hF.at 0 rfl) ?_
  refine wp_skip ?_
  refine E.norm ?_
  refine wp_seq ?_
  refine E.seq ?_
  refine E.opv hF (r_move (hF.at 3 rfl)) rfl rfl rfl rfl fun a hF => ?_
  refine E.opv hF (r_move (hF.at 5 rfl)) rfl rfl rfl rfl fun a hF => ?_
  refine E.opv hF (r_move (hF.at 7 rfl)) rfl rfl rfl rfl fun a hF => ?_
  refine E.opv hF (r_move (hF.at 9 rfl)) rfl rfl rfl rfl fun a hF => ?_
  refine S.callx st hF (r_call Try.func8 en8.1 en8.2 (map4 (hF.at 3 rfl) (hF.at 2 rfl) (hF.at 1 rfl) (hF.at 0 rfl))) (good_any la lb lc ld _) rfl rfl rfl rfl fun w2 a st hF => ?_
  have hg1 := gB_bd lb
  have hg2 := gLat_bd la lb
  have hg3 := gB_bd ld
  have hg4 := gLon_bd lc ld
  have hok9260 := good_ok la lb lc ld
  refine S.new st hF 0 rfl ty_Plc rfl rfl rfl rfl rfl fun g9 w3 a st hF => ?_
  refine E.nil ?_
  refine wp_seq ?_
  refine E.seq ?_
  refine E.opv hF (r_load (hF.at 0 rfl) (ld_all ty_Plc (st.bk 0 rfl) rfl)) rfl rfl rfl rfl fun a hF => ?_
  refine S.callx st hF (r_call Try.func10 en10.1 en10.2 (map1 (hF.at 0 rfl))) (pText_any (gA 60 120 la lb) (gB lb) (gA 180 360 lc ld) (gB ld) _ (by omega) (by omega) (by omega) (by omega) (by omega) (by omega) (by omega) (by omega)) rfl rfl rfl rfl fun w4 a st hF => ?_
  refine S.callx st hF (r_call Try.func9 en9.1 en9.2 (map1 (hF.at 0 rfl))) (pParse_any ((cx ((((gA 60 120 la lb) : Int) : Rat) / (((gB lb) : Int) : Rat)) ++ [44] ++ cx ((((gA 180 360 lc ld) : Int) : Rat) / (((gB ld) : Int) : Rat)))) _ (hM.below st.bel) (okb44 _ _) (len44 (lim64q (n := gA 60 120 la lb) (d := gB lb) (by omega) (by omega) (by omega) (by omega)) (lim64q (n := gA 180 360 lc ld) (d := gB ld) (by omega) (by omega) (by omega) (by omega)))) rfl rfl rfl rfl fun w5 a st hF => ?_
  have hpb := pp_bd ((cx ((((gA 60 120 la lb) : Int) : Rat) / (((gB lb) : Int) : Rat)) ++ [44] ++ cx ((((gA 180 360 lc ld) : Int) : Rat) / (((gB ld) : Int) : Rat))))
  refine E.opv hF (r_move (hF.at 0 rfl)) rfl rfl rfl rfl fun a hF => ?_
  refine E.opv hF (r_extract (v := .agg #[.int .i64 (ppI ((cx ((((gA 60 120 la lb) : Int) : Rat) / (((gB lb) : Int) : Rat)) ++ [44] ++ cx ((((gA 180 360 lc ld) : Int) : Rat) / (((gB ld) : Int) : Rat)))) (anA (hd44 ((cx ((((gA 60 120 la lb) : Int) : Rat) / (((gB lb) : Int) : Rat)) ++ [44] ++ cx ((((gA 180 360 lc ld) : Int) : Rat) / (((gB ld) : Int) : Rat))))))), .int .i64 (ppI ((cx ((((gA 60 120 la lb) : Int) : Rat) / (((gB lb) : Int) : Rat)) ++ [44] ++ cx ((((gA 180 360 lc ld) : Int) : Rat) / (((gB ld) : Int) : Rat)))) (anB (hd44 ((cx ((((gA 60 120 la lb) : Int) : Rat) / (((gB lb) : Int) : Rat)) ++ [44] ++ cx ((((gA 180 360 lc ld) : Int) : Rat) / (((gB ld) : Int) : Rat))))))), .int .i64 (ppI ((cx ((((gA 60 120 la lb) : Int) : Rat) / (((gB lb) : Int) : Rat)) ++ [44] ++ cx ((((gA 180 360 lc ld) : Int) : Rat) / (((gB ld) : Int) : Rat)))) (anA (tl44 ((cx ((((gA 60 120 la lb) : Int) : Rat) / (((gB lb) : Int) : Rat)) ++ [44] ++ cx ((((gA 180 360 lc ld) : Int) : Rat) / (((gB ld) : Int) : Rat))))))), .int .i64 (ppI ((cx ((((gA 60 120 la lb) : Int) : Rat) / (((gB lb) : Int) : Rat)) ++ [44] ++ cx ((((gA 180 360 lc ld) : Int) : Rat) / (((gB ld) : Int) : Rat)))) (anB (tl44 ((cx ((((gA 60 120 la lb) : Int) : Rat) / (((gB lb) : Int) : Rat)) ++ [44] ++ cx ((((gA 180 360 lc ld) : Int) : Rat) / (((gB ld) : Int) : Rat)))))))]) (hF.at 0 rfl) rfl) rfl rfl rfl rfl fun a hF => ?_
  refine E.opv hF (r_extract (v := .int .i64 (ppE ((cx ((((gA 60 120 la lb) : Int) : Rat) / (((gB lb) : Int) : Rat)) ++ [44] ++ cx ((((gA 180 360 lc ld) : Int) : Rat) / (((gB ld) : Int) : Rat)))))) (hF.at 1 rfl) rfl) rfl rfl rfl rfl fun a hF => ?_
  refine S.new st hF 1 rfl ty_Plc rfl rfl rfl rfl rfl fun g10 w6 a st hF => ?_
  refine E.opv hF (r_assign (hF.at 1 rfl)) rfl rfl rfl rfl fun a hF => ?_
  refine E.nil ?_
  refine wp_seq ?_
  refine E.seq ?_
  refine E.opv hF (r_load (hF.at 8 rfl) (ld_all ty_Plc (st.bk 1 rfl) rfl)) rfl rfl rfl rfl fun a hF => ?_
  refine S.call st hF (r_call Try.func11 en11.1 en11.2 (map1 (hF.at 0 rfl))) (told13_any (gA 60 120 la lb) (gB lb) (gA 180 360 lc ld) (gB ld) _ (by omega) (by omega) (by omega) (by omega) (by omega) (by omega) (by omega) (by omega)) (fun _ _ h => h) RPl.cl rfl rfl rfl rfl fun vv8 w7 a st hF => ?_
  obtain ⟨b11x, ad11x, n11x, c11x, ae11x, m11x, d11x, b11y, ad11y, n11y, c11y, ae11y, m11y, d11y, rfl, hp11x, hp11y⟩ := RPl.shape (st.f 0 rfl)
  replace st := (st.add hp11x (Rr.cl _)).add hp11y (Rr.cl _)
  clear hp11x hp11y
  refine S.new st hF 0 rfl ty_RPl rfl rfl rfl rfl rfl fun g12 w12 a st hF => ?_
  refine E.nil ?_
  refine wp_seq ?_
  refine E.drawn 44 mixed hF [28, 29, 30, 31, 32, 33, 34, 35, 36, 37, 38, 39, 40, 41, 42, 43, 44, 45, 46, 47, 48, 49, 50, 51, 52, 53, 54, 55, 56, 57, 58, 59, 60, 61, 62, 63, 64, 65, 66, 67, 68, 69, 70, 71] [(fun _ v => v = .agg #[.int .i64 (gA 60 120 la lb), .int .i64 (gB lb), .int .i64 (gA 180 360 lc ld), .int .i64 (gB ld)]), (fun _ v => v = .int .i64 (plE (gA 60 120 la lb) (gB lb) (gA 180 360 lc ld) (gB ld))), (fun _ v => v = .bool true), (fun _ v => v = .bool true), (fun _ v => v = .int .i64 (ppE ((cx ((((gA 60 120 la lb) : Int) : Rat) / (((gB lb) : Int) : Rat)) ++ [44] ++ cx ((((gA 180 360 lc ld) : Int) : Rat) / (((gB ld) : Int) : Rat)))))), (fun _ v => v = .bool true), (fun _ v => v = .bool true), (fun _ v => v = .bool true), (fun _ v => v = .agg #[.int .i64 (ppI ((cx ((((gA 60 120 la lb) : Int) : Rat) / (((gB lb) : Int) : Rat)) ++ [44] ++ cx ((((gA 180 360 lc ld) : Int) : Rat) / (((gB ld) : Int) : Rat)))) (anA (hd44 ((cx ((((gA 60 120 la lb) : Int) : Rat) / (((gB lb) : Int) : Rat)) ++ [44] ++ cx ((((gA 180 360 lc ld) : Int) : Rat) / (((gB ld) : Int) : Rat))))))), .int .i64 (ppI ((cx ((((gA 60 120 la lb) : Int) : Rat) / (((gB lb) : Int) : Rat)) ++ [44] ++ cx ((((gA 180 360 lc ld) : Int) : Rat) / (((gB ld) : Int) : Rat)))) (anB (hd44 ((cx ((((gA 60 120 la lb) : Int) : Rat) / (((gB lb) : Int) : Rat)) ++ [44] ++ cx ((((gA 180 360 lc ld) : Int) : Rat) / (((gB ld) : Int) : Rat))))))), .int .i64 (ppI ((cx ((((gA 60 120 la lb) : Int) : Rat) / (((gB lb) : Int) : Rat)) ++ [44] ++ cx ((((gA 180 360 lc ld) : Int) : Rat) / (((gB ld) : Int) : Rat)))) (anA (tl44 ((cx ((((gA 60 120 la lb) : Int) : Rat) / (((gB lb) : Int) : Rat)) ++ [44] ++ cx ((((gA 180 360 lc ld) : Int) : Rat) / (((gB ld) : Int) : Rat))))))), .int .i64 (ppI ((cx ((((gA 60 120 la lb) : Int) : Rat) / (((gB lb) : Int) : Rat)) ++ [44] ++ cx ((((gA 180 360 lc ld) : Int) : Rat) / (((gB ld) : Int) : Rat)))) (anB (tl44 ((cx ((((gA 60 120 la lb) : Int) : Rat) / (((gB lb) : Int) : Rat)) ++ [44] ++ cx ((((gA 180 360 lc ld) : Int) : Rat) / (((gB ld) : Int) : Rat)))))))]), (fun w v => Rq w v (((ppI ((cx ((((gA 60 120 la lb) : Int) : Rat) / (((gB lb) : Int) : Rat)) ++ [44] ++ cx ((((gA 180 360 lc ld) : Int) : Rat) / (((gB ld) : Int) : Rat)))) (anA (hd44 ((cx ((((gA 60 120 la lb) : Int) : Rat) / (((gB lb) : Int) : Rat)) ++ [44] ++ cx ((((gA 180 360 lc ld) : Int) : Rat) / (((gB ld) : Int) : Rat)))))) : Int) : Rat) / ((ppI ((cx ((((gA 60 120 la lb) : Int) : Rat) / (((gB lb) : Int) : Rat)) ++ [44] ++ cx ((((gA 180 360 lc ld) : Int) : Rat) / (((gB ld) : Int) : Rat)))) (anB (hd44 ((cx ((((gA 60 120 la lb) : Int) : Rat) / (((gB lb) : Int) : Rat)) ++ [44] ++ cx ((((gA 180 360 lc ld) : Int) : Rat) / (((gB ld) : Int) : Rat)))))) : Int) : Rat))), (fun _ v => v = .agg #[.int .i64 (gA 60 120 la lb), .int .i64 (gB lb), .int .i64 (gA 180 360 lc ld), .int .i64 (gB ld)]), (fun w v => Rq w v (((gA 60 120 la lb : Int) : Rat) / ((gB lb : Int) : Rat))), (fun _ v => v = .bool true), (fun _ v => v = .bool true), (fun _ v => v = .bool true), (fun _ v => v = .agg #[.int .i64 (ppI ((cx ((((gA 60 120 la lb) : Int) : Rat) / (((gB lb) : Int) : Rat)) ++ [44] ++ cx ((((gA 180 360 lc ld) : Int) : Rat) / (((gB ld) : Int) : Rat)))) (anA (hd44 ((cx ((((gA 60 120 la lb) : Int) : Rat) / (((gB lb) : Int) : Rat)) ++ [44] ++ cx ((((gA 180 360 lc ld) : Int) : Rat) / (((gB ld) : Int) : Rat))))))), .int .i64 (ppI ((cx ((((gA 60 120 la lb) : Int) : Rat) / (((gB lb) : Int) : Rat)) ++ [44] ++ cx ((((gA 180 360 lc ld) : Int) : Rat) / (((gB ld) : Int) : Rat)))) (anB (hd44 ((cx ((((gA 60 120 la lb) : Int) : Rat) / (((gB lb) : Int) : Rat)) ++ [44] ++ cx ((((gA 180 360 lc ld) : Int) : Rat) / (((gB ld) : Int) : Rat))))))), .int .i64 (ppI ((cx ((((gA 60 120 la lb) : Int) : Rat) / (((gB lb) : Int) : Rat)) ++ [44] ++ cx ((((gA 180 360 lc ld) : Int) : Rat) / (((gB ld) : Int) : Rat)))) (anA (tl44 ((cx ((((gA 60 120 la lb) : Int) : Rat) / (((gB lb) : Int) : Rat)) ++ [44] ++ cx ((((gA 180 360 lc ld) : Int) : Rat) / (((gB ld) : Int) : Rat))))))), .int .i64 (ppI ((cx ((((gA 60 120 la lb) : Int) : Rat) / (((gB lb) : Int) : Rat)) ++ [44] ++ cx ((((gA 180 360 lc ld) : Int) : Rat) / (((gB ld) : Int) : Rat)))) (anB (tl44 ((cx ((((gA 60 120 la lb) : Int) : Rat) / (((gB lb) : Int) : Rat)) ++ [44] ++ cx ((((gA 180 360 lc ld) : Int) : Rat) / (((gB ld) : Int) : Rat)))))))]), (fun w v => Rq w v (((ppI ((cx ((((gA 60 120 la lb) : Int) : Rat) / (((gB lb) : Int) : Rat)) ++ [44] ++ cx ((((gA 180 360 lc ld) : Int) : Rat) / (((gB ld) : Int) : Rat)))) (anA (tl44 ((cx ((((gA 60 120 la lb) : Int) : Rat) / (((gB lb) : Int) : Rat)) ++ [44] ++ cx ((((gA 180 360 lc ld) : Int) : Rat) / (((gB ld) : Int) : Rat)))))) : Int) : Rat) / ((ppI ((cx ((((gA 60 120 la lb) : Int) : Rat) / (((gB lb) : Int) : Rat)) ++ [44] ++ cx ((((gA 180 360 lc ld) : Int) : Rat) / (((gB ld) : Int) : Rat)))) (anB (tl44 ((cx ((((gA 60 120 la lb) : Int) : Rat) / (((gB lb) : Int) : Rat)) ++ [44] ++ cx ((((gA 180 360 lc ld) : Int) : Rat) / (((gB ld) : Int) : Rat)))))) : Int) : Rat))), (fun _ v => v = .agg #[.int .i64 (gA 60 120 la lb), .int .i64 (gB lb), .int .i64 (gA 180 360 lc ld), .int .i64 (gB ld)]), (fun w v => Rq w v (((gA 180 360 lc ld : Int) : Rat) / ((gB ld : Int) : Rat))), (fun _ v => v = .bool true), (fun _ v => v = .bool true), (fun _ v => v = .bool true), (fun _ v => v = .agg #[.int .i64 (ppI ((cx ((((gA 60 120 la lb) : Int) : Rat) / (((gB lb) : Int) : Rat)) ++ [44] ++ cx ((((gA 180 360 lc ld) : Int) : Rat) / (((gB ld) : Int) : Rat)))) (anA (hd44 ((cx ((((gA 60 120 la lb) : Int) : Rat) / (((gB lb) : Int) : Rat)) ++ [44] ++ cx ((((gA 180 360 lc ld) : Int) : Rat) / (((gB ld) : Int) : Rat))))))), .int .i64 (ppI ((cx ((((gA 60 120 la lb) : Int) : Rat) / (((gB lb) : Int) : Rat)) ++ [44] ++ cx ((((gA 180 360 lc ld) : Int) : Rat) / (((gB ld) : Int) : Rat)))) (anB (hd44 ((cx ((((gA 60 120 la lb) : Int) : Rat) / (((gB lb) : Int) : Rat)) ++ [44] ++ cx ((((gA 180 360 lc ld) : Int) : Rat) / (((gB ld) : Int) : Rat))))))), .int .i64 (ppI ((cx ((((gA 60 120 la lb) : Int) : Rat) / (((gB lb) : Int) : Rat)) ++ [44] ++ cx ((((gA 180 360 lc ld) : Int) : Rat) / (((gB ld) : Int) : Rat)))) (anA (tl44 ((cx ((((gA 60 120 la lb) : Int) : Rat) / (((gB lb) : Int) : Rat)) ++ [44] ++ cx ((((gA 180 360 lc ld) : Int) : Rat) / (((gB ld) : Int) : Rat))))))), .int .i64 (ppI ((cx ((((gA 60 120 la lb) : Int) : Rat) / (((gB lb) : Int) : Rat)) ++ [44] ++ cx ((((gA 180 360 lc ld) : Int) : Rat) / (((gB ld) : Int) : Rat)))) (anB (tl44 ((cx ((((gA 60 120 la lb) : Int) : Rat) / (((gB lb) : Int) : Rat)) ++ [44] ++ cx ((((gA 180 360 lc ld) : Int) : Rat) / (((gB ld) : Int) : Rat)))))))]), (fun _ v => v = .string (bstr (cx ((((ppI ((cx ((((gA 60 120 la lb) : Int) : Rat) / (((gB lb) : Int) : Rat)) ++ [44] ++ cx ((((gA 180 360 lc ld) : Int) : Rat) / (((gB ld) : Int) : Rat)))) (anA (hd44 ((cx ((((gA 60 120 la lb) : Int) : Rat) / (((gB lb) : Int) : Rat)) ++ [44] ++ cx ((((gA 180 360 lc ld) : Int) : Rat) / (((gB ld) : Int) : Rat))))))) : Int) : Rat) / (((ppI ((cx ((((gA 60 120 la lb) : Int) : Rat) / (((gB lb) : Int) : Rat)) ++ [44] ++ cx ((((gA 180 360 lc ld) : Int) : Rat) / (((gB ld) : Int) : Rat)))) (anB (hd44 ((cx ((((gA 60 120 la lb) : Int) : Rat) / (((gB lb) : Int) : Rat)) ++ [44] ++ cx ((((gA 180 360 lc ld) : Int) : Rat) / (((gB ld) : Int) : Rat))))))) : Int) : Rat)) ++ [44] ++ cx ((((ppI ((cx ((((gA 60 120 la lb) : Int) : Rat) / (((gB lb) : Int) : Rat)) ++ [44] ++ cx ((((gA 180 360 lc ld) : Int) : Rat) / (((gB ld) : Int) : Rat)))) (anA (tl44 ((cx ((((gA 60 120 la lb) : Int) : Rat) / (((gB lb) : Int) : Rat)) ++ [44] ++ cx ((((gA 180 360 lc ld) : Int) : Rat) / (((gB ld) : Int) : Rat))))))) : Int) : Rat) / (((ppI ((cx ((((gA 60 120 la lb) : Int) : Rat) / (((gB lb) : Int) : Rat)) ++ [44] ++ cx ((((gA 180 360 lc ld) : Int) : Rat) / (((gB ld) : Int) : Rat)))) (anB (tl44 ((cx ((((gA 60 120 la lb) : Int) : Rat) / (((gB lb) : Int) : Rat)) ++ [44] ++ cx ((((gA 180 360 lc ld) : Int) : Rat) / (((gB ld) : Int) : Rat))))))) : Int) : Rat))))), (fun _ v => v = .agg #[.int .i64 (gA 60 120 la lb), .int .i64 (gB lb), .int .i64 (gA 180 360 lc ld), .int .i64 (gB ld)]), (fun _ v => v = .string (bstr (cx ((((gA 60 120 la lb) : Int) : Rat) / (((gB lb) : Int) : Rat)) ++ [44] ++ cx ((((gA 180 360 lc ld) : Int) : Rat) / (((gB ld) : Int) : Rat))))), (fun _ v => v = .bool true), (fun _ v => v = .bool true), (fun _ v => v = .bool true), (fun _ v => v = .agg #[.int .i64 (gA 60 120 la lb), .int .i64 (gB lb), .int .i64 (gA 180 360 lc ld), .int .i64 (gB ld)]), (fun w v => Rq w v (((gA 60 120 la lb : Int) : Rat) / ((gB lb : Int) : Rat))), (fun _ v => v = .pointer (some ⟨g12, 0, none⟩)), (fun _ v => v = .agg #[.bool b11x, .slice ad11x n11x c11x, .slice ae11x m11x d11x]), (fun _ v => v = .int .i64 0), (fun _ v => v = .bool true), (fun _ v => v = .bool true), (fun _ v => v = .bool true), (fun _ v => v = .agg #[.int .i64 (gA 60 120 la lb), .int .i64 (gB lb), .int .i64 (gA 180 360 lc ld), .int .i64 (gB ld)]), (fun w v => Rq w v (((gA 180 360 lc ld : Int) : Rat) / ((gB ld : Int) : Rat))), (fun _ v => v = .pointer (some ⟨g12, 3, none⟩)), (fun _ v => v = .agg #[.bool b11y, .slice ad11y n11y c11y, .slice ae11y m11y d11y]), (fun _ v => v = .int .i64 0), (fun _ v => v = .bool true), (fun _ v => v = .bool true)] [] (by decide +kernel) (by decide +kernel) rfl rfl rfl ⟨(Mb.eq _), (Mb.eq _), (Mb.eq _), (Mb.eq _), (Mb.eq _), (Mb.eq _), (Mb.eq _), (Mb.eq _), (Mb.eq _), (fun _ _ _ h hb => h.below hb), (Mb.eq _), (fun _ _ _ h hb => h.below hb), (Mb.eq _), (Mb.eq _), (Mb.eq _), (Mb.eq _), (fun _ _ _ h hb => h.below hb), (Mb.eq _), (fun _ _ _ h hb => h.below hb), (Mb.eq _), (Mb.eq _), (Mb.eq _), (Mb.eq _), (Mb.eq _), (Mb.eq _), (Mb.eq _), (Mb.eq _), (Mb.eq _), (Mb.eq _), (Mb.eq _), (fun _ _ _ h hb => h.below hb), (Mb.eq _), (Mb.eq _), (Mb.eq _), (Mb.eq _), (Mb.eq _), (Mb.eq _), (Mb.eq _), (fun _ _ _ h hb => h.below hb), (Mb.eq _), (Mb.eq _), (Mb.eq _), (Mb.eq _), (Mb.eq _), trivial⟩ trivial ⟨?_, ?_, ?_, ?_, ?_, ?_, ?_, ?_, ?_, ?_, ?_, ?_, ?_, ?_, ?_, ?_, ?_, ?_, ?_, ?_, ?_, ?_, ?_, ?_, ?_, ?_, ?_, ?_, ?_, ?_, ?_, ?_, ?_, ?_, ?_, ?_, ?_, ?_, ?_, ?_, ?_, ?_, ?_, ?_, trivial⟩ ?_
  · intro a' w' hF' hb hd
    exact dv0 (r_load (hF'.at 11 rfl) (ld_all ty_Plc ((st.bk 2 rfl).below hb) rfl)) rfl rfl rfl
  · intro a' w' hF' hb hd
    have e28 := sHe hd 0 28 rfl rfl rfl rfl
    exact dcx0 (r_call Try.func7 en7.1 en7.2 (map1 e28)) (pCheck_any (gA 60 120 la lb) (gB lb) (gA 180 360 lc ld) (gB ld) _) (fun _ => rfl) rfl rfl
  · intro a' w' hF' hb hd
    have e29 := sHe hd 0 29 rfl rfl rfl rfl
    exact dv0 (r_bin e29 ev_c eg_scalar (bi_int (ic_eql (c := true) (dec_tt (plE_ok (by assumption)))) (by simp))) rfl rfl rfl
  · intro a' w' hF' hb hd
    have e30 := sHe hd 0 30 rfl rfl rfl rfl
    exact dv0 (r_move e30) rfl rfl rfl
  · intro a' w' hF' hb hd
    have e31 := sHe hd 0 31 rfl rfl rfl rfl
    exact dv1 (wanted_by rfl rfl e31 rfl) (r_move (hF'.at 3 rfl)) rfl rfl
  · intro a' w' hF' hb hd
    have e31 := sHe hd 1 31 rfl rfl rfl rfl
    have e32 := sHe hd 0 32 rfl rfl rfl rfl
    exact dv1 (wanted_by rfl rfl e31 rfl) (r_bin e32 ev_c eg_scalar (bi_int (ic_eql (c := true) (dec_tt (pp_text (by assumption)).1)) (by simp))) rfl rfl
  · intro a' w' hF' hb hd
    have e31 := sHe hd 0 31 rfl rfl rfl rfl
    have e33 := sHe hd 1 33 rfl rfl rfl rfl
    exact dv0 (r_pick_t e31 e33) rfl rfl rfl
  · intro a' w' hF' hb hd
    have e34 := sHe hd 0 34 rfl rfl rfl rfl
    exact dv0 (r_move e34) rfl rfl rfl
  · intro a' w' hF' hb hd
    have e35 := sHe hd 0 35 rfl rfl rfl rfl
    exact dv1 (wanted_by rfl rfl e35 rfl) (r_load (hF'.at 4 rfl) (ld_all ty_Plc ((st.bk 1 rfl).below hb) rfl)) rfl rfl
  · intro a' w' hF' hb hd
    have e35 := sHe hd 1 35 rfl rfl rfl rfl
    have e36 := sHe hd 0 36 rfl rfl rfl rfl
    exact dc1 (wanted_by rfl rfl e35 rfl) (r_call Try.func12 en12.1 en12.2 (map1 e36)) (pLatitude_any (ppI ((cx ((((gA 60 120 la lb) : Int) : Rat) / (((gB lb) : Int) : Rat)) ++ [44] ++ cx ((((gA 180 360 lc ld) : Int) : Rat) / (((gB ld) : Int) : Rat)))) (anA (hd44 ((cx ((((gA 60 120 la lb) : Int) : Rat) / (((gB lb) : Int) : Rat)) ++ [44] ++ cx ((((gA 180 360 lc ld) : Int) : Rat) / (((gB ld) : Int) : Rat))))))) (ppI ((cx ((((gA 60 120 la lb) : Int) : Rat) / (((gB lb) : Int) : Rat)) ++ [44] ++ cx ((((gA 180 360 lc ld) : Int) : Rat) / (((gB ld) : Int) : Rat)))) (anB (hd44 ((cx ((((gA 60 120 la lb) : Int) : Rat) / (((gB lb) : Int) : Rat)) ++ [44] ++ cx ((((gA 180 360 lc ld) : Int) : Rat) / (((gB ld) : Int) : Rat))))))) (ppI ((cx ((((gA 60 120 la lb) : Int) : Rat) / (((gB lb) : Int) : Rat)) ++ [44] ++ cx ((((gA 180 360 lc ld) : Int) : Rat) / (((gB ld) : Int) : Rat)))) (anA (tl44 ((cx ((((gA 60 120 la lb) : Int) : Rat) / (((gB lb) : Int) : Rat)) ++ [44] ++ cx ((((gA 180 360 lc ld) : Int) : Rat) / (((gB ld) : Int) : Rat))))))) (ppI ((cx ((((gA 60 120 la lb) : Int) : Rat) / (((gB lb) : Int) : Rat)) ++ [44] ++ cx ((((gA 180 360 lc ld) : Int) : Rat) / (((gB ld) : Int) : Rat)))) (anB (tl44 ((cx ((((gA 60 120 la lb) : Int) : Rat) / (((gB lb) : Int) : Rat)) ++ [44] ++ cx ((((gA 180 360 lc ld) : Int) : Rat) / (((gB ld) : Int) : Rat))))))) _ (by omega) (by omega) (by omega) (by omega)) rfl
  · intro a' w' hF' hb hd
    have e35 := sHe hd 0 35 rfl rfl rfl rfl
    exact dv1 (wanted_by rfl rfl e35 rfl) (r_load (hF'.at 11 rfl) (ld_all ty_Plc ((st.bk 2 rfl).below hb) rfl)) rfl rfl
  · intro a' w' hF' hb hd
    have e35 := sHe hd 2 35 rfl rfl rfl rfl
    have e38 := sHe hd 0 38 rfl rfl rfl rfl
    exact dc1 (wanted_by rfl rfl e35 rfl) (r_call Try.func12 en12.1 en12.2 (map1 e38)) (pLatitude_any (gA 60 120 la lb) (gB lb) (gA 180 360 lc ld) (gB ld) _ (by omega) (by omega) (by omega) (by omega)) rfl
  · intro a' w' hF' hb hd
    have e35 := sHe hd 3 35 rfl rfl rfl rfl
    obtain ⟨v37_0, e37, h37_1⟩ := sH hd 0 37 rfl rfl rfl rfl
    obtain ⟨v39_0, e39, h39_1⟩ := sH hd 1 39 rfl rfl rfl rfl
    exact dcx1 (wanted_by rfl rfl e35 rfl) (r_call Try.func13 en13.1 en13.2 (map2 e37 e39)) (rSame_true _ _ _ _ _ h37_1 h39_1 (pp_lat (by assumption))) (fun _ => rfl) rfl
  · intro a' w' hF' hb hd
    have e35 := sHe hd 0 35 rfl rfl rfl rfl
    have e40 := sHe hd 1 40 rfl rfl rfl rfl
    exact dv0 (r_pick_t e35 e40) rfl rfl rfl
  · intro a' w' hF' hb hd
    have e41 := sHe hd 0 41 rfl rfl rfl rfl
    exact dv0 (r_move e41) rfl rfl rfl
  · intro a' w' hF' hb hd
    have e42 := sHe hd 0 42 rfl rfl rfl rfl
    exact dv1 (wanted_by rfl rfl e42 rfl) (r_load (hF'.at 4 rfl) (ld_all ty_Plc ((st.bk 1 rfl).below hb) rfl)) rfl rfl
  · intro a' w' hF' hb hd
    have e42 := sHe hd 1 42 rfl rfl rfl rfl
    have e43 := sHe hd 0 43 rfl rfl rfl rfl
    exact dc1 (wanted_by rfl rfl e42 rfl) (r_call Try.func14 en14.1 en14.2 (map1 e43)) (pLongitude_any (ppI ((cx ((((gA 60 120 la lb) : Int) : Rat) / (((gB lb) : Int) : Rat)) ++ [44] ++ cx ((((gA 180 360 lc ld) : Int) : Rat) / (((gB ld) : Int) : Rat)))) (anA (hd44 ((cx ((((gA 60 120 la lb) : Int) : Rat) / (((gB lb) : Int) : Rat)) ++ [44] ++ cx ((((gA 180 360 lc ld) : Int) : Rat) / (((gB ld) : Int) : Rat))))))) (ppI ((cx ((((gA 60 120 la lb) : Int) : Rat) / (((gB lb) : Int) : Rat)) ++ [44] ++ cx ((((gA 180 360 lc ld) : Int) : Rat) / (((gB ld) : Int) : Rat)))) (anB (hd44 ((cx ((((gA 60 120 la lb) : Int) : Rat) / (((gB lb) : Int) : Rat)) ++ [44] ++ cx ((((gA 180 360 lc ld) : Int) : Rat) / (((gB ld) : Int) : Rat))))))) (ppI ((cx ((((gA 60 120 la lb) : Int) : Rat) / (((gB lb) : Int) : Rat)) ++ [44] ++ cx ((((gA 180 360 lc ld) : Int) : Rat) / (((gB ld) : Int) : Rat)))) (anA (tl44 ((cx ((((gA 60 120 la lb) : Int) : Rat) / (((gB lb) : Int) : Rat)) ++ [44] ++ cx ((((gA 180 360 lc ld) : Int) : Rat) / (((gB ld) : Int) : Rat))))))) (ppI ((cx ((((gA 60 120 la lb) : Int) : Rat) / (((gB lb) : Int) : Rat)) ++ [44] ++ cx ((((gA 180 360 lc ld) : Int) : Rat) / (((gB ld) : Int) : Rat)))) (anB (tl44 ((cx ((((gA 60 120 la lb) : Int) : Rat) / (((gB lb) : Int) : Rat)) ++ [44] ++ cx ((((gA 180 360 lc ld) : Int) : Rat) / (((gB ld) : Int) : Rat))))))) _ (by omega) (by omega) (by omega) (by omega)) rfl
  · intro a' w' hF' hb hd
    have e42 := sHe hd 0 42 rfl rfl rfl rfl
    exact dv1 (wanted_by rfl rfl e42 rfl) (r_load (hF'.at 11 rfl) (ld_all ty_Plc ((st.bk 2 rfl).below hb) rfl)) rfl rfl
  · intro a' w' hF' hb hd
    have e42 := sHe hd 2 42 rfl rfl rfl rfl
    have e45 := sHe hd 0 45 rfl rfl rfl rfl
    exact dc1 (wanted_by rfl rfl e42 rfl) (r_call Try.func14 en14.1 en14.2 (map1 e45)) (pLongitude_any (gA 60 120 la lb) (gB lb) (gA 180 360 lc ld) (gB ld) _ (by omega) (by omega) (by omega) (by omega)) rfl
  · intro a' w' hF' hb hd
    have e42 := sHe hd 3 42 rfl rfl rfl rfl
    obtain ⟨v44_0, e44, h44_1⟩ := sH hd 0 44 rfl rfl rfl rfl
    obtain ⟨v46_0, e46, h46_1⟩ := sH hd 1 46 rfl rfl rfl rfl
    exact dcx1 (wanted_by rfl rfl e42 rfl) (r_call Try.func13 en13.1 en13.2 (map2 e44 e46)) (rSame_true _ _ _ _ _ h44_1 h46_1 (pp_lon (by assumption))) (fun _ => rfl) rfl
  · intro a' w' hF' hb hd
    have e42 := sHe hd 0 42 rfl rfl rfl rfl
    have e47 := sHe hd 1 47 rfl rfl rfl rfl
    exact dv0 (r_pick_t e42 e47) rfl rfl rfl
  · intro a' w' hF' hb hd
    have e48 := sHe hd 0 48 rfl rfl rfl rfl
    exact dv0 (r_move e48) rfl rfl rfl
  · intro a' w' hF' hb hd
    have e49 := sHe hd 0 49 rfl rfl rfl rfl
    exact dv1 (wanted_by rfl rfl e49 rfl) (r_load (hF'.at 4 rfl) (ld_all ty_Plc ((st.bk 1 rfl).below hb) rfl)) rfl rfl
  · intro a' w' hF' hb hd
    have e49 := sHe hd 1 49 rfl rfl rfl rfl
    have e50 := sHe hd 0 50 rfl rfl rfl rfl
    exact dcx1 (wanted_by rfl rfl e49 rfl) (r_call Try.func10 en10.1 en10.2 (map1 e50)) (pText_any (ppI ((cx ((((gA 60 120 la lb) : Int) : Rat) / (((gB lb) : Int) : Rat)) ++ [44] ++ cx ((((gA 180 360 lc ld) : Int) : Rat) / (((gB ld) : Int) : Rat)))) (anA (hd44 ((cx ((((gA 60 120 la lb) : Int) : Rat) / (((gB lb) : Int) : Rat)) ++ [44] ++ cx ((((gA 180 360 lc ld) : Int) : Rat) / (((gB ld) : Int) : Rat))))))) (ppI ((cx ((((gA 60 120 la lb) : Int) : Rat) / (((gB lb) : Int) : Rat)) ++ [44] ++ cx ((((gA 180 360 lc ld) : Int) : Rat) / (((gB ld) : Int) : Rat)))) (anB (hd44 ((cx ((((gA 60 120 la lb) : Int) : Rat) / (((gB lb) : Int) : Rat)) ++ [44] ++ cx ((((gA 180 360 lc ld) : Int) : Rat) / (((gB ld) : Int) : Rat))))))) (ppI ((cx ((((gA 60 120 la lb) : Int) : Rat) / (((gB lb) : Int) : Rat)) ++ [44] ++ cx ((((gA 180 360 lc ld) : Int) : Rat) / (((gB ld) : Int) : Rat)))) (anA (tl44 ((cx ((((gA 60 120 la lb) : Int) : Rat) / (((gB lb) : Int) : Rat)) ++ [44] ++ cx ((((gA 180 360 lc ld) : Int) : Rat) / (((gB ld) : Int) : Rat))))))) (ppI ((cx ((((gA 60 120 la lb) : Int) : Rat) / (((gB lb) : Int) : Rat)) ++ [44] ++ cx ((((gA 180 360 lc ld) : Int) : Rat) / (((gB ld) : Int) : Rat)))) (anB (tl44 ((cx ((((gA 60 120 la lb) : Int) : Rat) / (((gB lb) : Int) : Rat)) ++ [44] ++ cx ((((gA 180 360 lc ld) : Int) : Rat) / (((gB ld) : Int) : Rat))))))) _ (by omega) (by omega) (by omega) (by omega) (by omega) (by omega) (by omega) (by omega)) (fun _ => rfl) rfl
  · intro a' w' hF' hb hd
    have e49 := sHe hd 0 49 rfl rfl rfl rfl
    exact dv1 (wanted_by rfl rfl e49 rfl) (r_load (hF'.at 11 rfl) (ld_all ty_Plc ((st.bk 2 rfl).below hb) rfl)) rfl rfl
  · intro a' w' hF' hb hd
    have e49 := sHe hd 2 49 rfl rfl rfl rfl
    have e52 := sHe hd 0 52 rfl rfl rfl rfl
    exact dcx1 (wanted_by rfl rfl e49 rfl) (r_call Try.func10 en10.1 en10.2 (map1 e52)) (pText_any (gA 60 120 la lb) (gB lb) (gA 180 360 lc ld) (gB ld) _ (by omega) (by omega) (by omega) (by omega) (by omega) (by omega) (by omega) (by omega)) (fun _ => rfl) rfl
  · intro a' w' hF' hb hd
    have e49 := sHe hd 2 49 rfl rfl rfl rfl
    have e51 := sHe hd 0 51 rfl rfl rfl rfl
    have e53 := sHe hd 1 53 rfl rfl rfl rfl
    exact dv1 (wanted_by rfl rfl e49 rfl) (r_bin e51 e53 eg_str (sb_eq (xs := (cx ((((ppI ((cx ((((gA 60 120 la lb) : Int) : Rat) / (((gB lb) : Int) : Rat)) ++ [44] ++ cx ((((gA 180 360 lc ld) : Int) : Rat) / (((gB ld) : Int) : Rat)))) (anA (hd44 ((cx ((((gA 60 120 la lb) : Int) : Rat) / (((gB lb) : Int) : Rat)) ++ [44] ++ cx ((((gA 180 360 lc ld) : Int) : Rat) / (((gB ld) : Int) : Rat))))))) : Int) : Rat) / (((ppI ((cx ((((gA 60 120 la lb) : Int) : Rat) / (((gB lb) : Int) : Rat)) ++ [44] ++ cx ((((gA 180 360 lc ld) : Int) : Rat) / (((gB ld) : Int) : Rat)))) (anB (hd44 ((cx ((((gA 60 120 la lb) : Int) : Rat) / (((gB lb) : Int) : Rat)) ++ [44] ++ cx ((((gA 180 360 lc ld) : Int) : Rat) / (((gB ld) : Int) : Rat))))))) : Int) : Rat)) ++ [44] ++ cx ((((ppI ((cx ((((gA 60 120 la lb) : Int) : Rat) / (((gB lb) : Int) : Rat)) ++ [44] ++ cx ((((gA 180 360 lc ld) : Int) : Rat) / (((gB ld) : Int) : Rat)))) (anA (tl44 ((cx ((((gA 60 120 la lb) : Int) : Rat) / (((gB lb) : Int) : Rat)) ++ [44] ++ cx ((((gA 180 360 lc ld) : Int) : Rat) / (((gB ld) : Int) : Rat))))))) : Int) : Rat) / (((ppI ((cx ((((gA 60 120 la lb) : Int) : Rat) / (((gB lb) : Int) : Rat)) ++ [44] ++ cx ((((gA 180 360 lc ld) : Int) : Rat) / (((gB ld) : Int) : Rat)))) (anB (tl44 ((cx ((((gA 60 120 la lb) : Int) : Rat) / (((gB lb) : Int) : Rat)) ++ [44] ++ cx ((((gA 180 360 lc ld) : Int) : Rat) / (((gB ld) : Int) : Rat))))))) : Int) : Rat)))) (ys := (cx ((((gA 60 120 la lb) : Int) : Rat) / (((gB lb) : Int) : Rat)) ++ [44] ++ cx ((((gA 180 360 lc ld) : Int) : Rat) / (((gB ld) : Int) : Rat)))) (str_same (by rw [pp_lat (by assumption), pp_lon (by assumption)])))) rfl rfl
  · intro a' w' hF' hb hd
    have e49 := sHe hd 0 49 rfl rfl rfl rfl
    have e54 := sHe hd 1 54 rfl rfl rfl rfl
    exact dv0 (r_pick_t e49 e54) rfl rfl rfl
  · intro a' w' hF' hb hd
    have e55 := sHe hd 0 55 rfl rfl rfl rfl
    exact dv0 (r_move e55) rfl rfl rfl
  · intro a' w' hF' hb hd
    have e56 := sHe hd 0 56 rfl rfl rfl rfl
    exact dv1 (wanted_by rfl rfl e56 rfl) (r_load (hF'.at 11 rfl) (ld_all ty_Plc ((st.bk 2 rfl).below hb) rfl)) rfl rfl
  · intro a' w' hF' hb hd
    have e56 := sHe hd 1 56 rfl rfl rfl rfl
    have e57 := sHe hd 0 57 rfl rfl rfl rfl
    exact dc1 (wanted_by rfl rfl e56 rfl) (r_call Try.func12 en12.1 en12.2 (map1 e57)) (pLatitude_any (gA 60 120 la lb) (gB lb) (gA 180 360 lc ld) (gB ld) _ (by omega) (by omega) (by omega) (by omega)) rfl
  · intro a' w' hF' hb hd
    have e56 := sHe hd 0 56 rfl rfl rfl rfl
    exact dv1 (wanted_by rfl rfl e56 rfl) (r_field (hF'.at 0 rfl) (fa_RPl_0 (p := 0) rfl)) rfl rfl
  · intro a' w' hF' hb hd
    have e56 := sHe hd 1 56 rfl rfl rfl rfl
    have e59 := sHe hd 0 59 rfl rfl rfl rfl
    exact dv1 (wanted_by rfl rfl e56 rfl) (r_load e59 (ld_RRat (vs := [.bool b11x, .slice ad11x n11x c11x, .slice ae11x m11x d11x]) ((st.b 0 rfl rfl).below hb) rfl rfl)) rfl rfl
  · intro a' w' hF' hb hd
    have e56 := sHe hd 3 56 rfl rfl rfl rfl
    obtain ⟨v58_0, e58, h58_1⟩ := sH hd 0 58 rfl rfl rfl rfl
    have e60 := sHe hd 1 60 rfl rfl rfl rfl
    exact dcx1 (wanted_by rfl rfl e56 rfl) (r_call Try.func15 en15.1 en15.2 (map2 e58 e60)) (Is5_any _ _ _ (_) 2 2 _ h58_1 ((st.f 1 rfl).below hb) (lim64q (n := gA 60 120 la lb) (d := gB lb) (by omega) (by omega) (by omega) (by omega)) rfl (by omega) (by omega)) (fun _ => rfl) rfl
  · intro a' w' hF' hb hd
    have e56 := sHe hd 1 56 rfl rfl rfl rfl
    have e61 := sHe hd 0 61 rfl rfl rfl rfl
    exact dv1 (wanted_by rfl rfl e56 rfl) (r_bin e61 ev_c eg_scalar (bi_int (ic_eql (c := true) (by decide)) (by simp))) rfl rfl
  · intro a' w' hF' hb hd
    have e56 := sHe hd 0 56 rfl rfl rfl rfl
    have e62 := sHe hd 1 62 rfl rfl rfl rfl
    exact dv0 (r_pick_t e56 e62) rfl rfl rfl
  · intro a' w' hF' hb hd
    have e63 := sHe hd 0 63 rfl rfl rfl rfl
    exact dv0 (r_move e63) rfl rfl rfl
  · intro a' w' hF' hb hd
    have e64 := sHe hd 0 64 rfl rfl rfl rfl
    exact dv1 (wanted_by rfl rfl e64 rfl) (r_load (hF'.at 11 rfl) (ld_all ty_Plc ((st.bk 2 rfl).below hb) rfl)) rfl rfl
  · intro a' w' hF' hb hd
    have e64 := sHe hd 1 64 rfl rfl rfl rfl
    have e65 := sHe hd 0 65 rfl rfl rfl rfl
    exact dc1 (wanted_by rfl rfl e64 rfl) (r_call Try.func14 en14.1 en14.2 (map1 e65)) (pLongitude_any (gA 60 120 la lb) (gB lb) (gA 180 360 lc ld) (gB ld) _ (by omega) (by omega) (by omega) (by omega)) rfl
  · intro a' w' hF' hb hd
    have e64 := sHe hd 0 64 rfl rfl rfl rfl
    exact dv1 (wanted_by rfl rfl e64 rfl) (r_field (hF'.at 0 rfl) (fa_RPl_1 (p := 3) rfl)) rfl rfl
  · intro a' w' hF' hb hd
    have e64 := sHe hd 1 64 rfl rfl rfl rfl
    have e67 := sHe hd 0 67 rfl rfl rfl rfl
    exact dv1 (wanted_by rfl rfl e64 rfl) (r_load e67 (ld_RRat (vs := [.bool b11y, .slice ad11y n11y c11y, .slice ae11y m11y d11y]) ((st.b 0 rfl rfl).below hb) rfl rfl)) rfl rfl
  · intro a' w' hF' hb hd
    have e64 := sHe hd 3 64 rfl rfl rfl rfl
    obtain ⟨v66_0, e66, h66_1⟩ := sH hd 0 66 rfl rfl rfl rfl
    have e68 := sHe hd 1 68 rfl rfl rfl rfl
    exact dcx1 (wanted_by rfl rfl e64 rfl) (r_call Try.func15 en15.1 en15.2 (map2 e66 e68)) (Is5_any _ _ _ (_) 2 2 _ h66_1 ((st.f 0 rfl).below hb) (lim64q (n := gA 180 360 lc ld) (d := gB ld) (by omega) (by omega) (by omega) (by omega)) rfl (by omega) (by omega)) (fun _ => rfl) rfl
  · intro a' w' hF' hb hd
    have e64 := sHe hd 1 64 rfl rfl rfl rfl
    have e69 := sHe hd 0 69 rfl rfl rfl rfl
    exact dv1 (wanted_by rfl rfl e64 rfl) (r_bin e69 ev_c eg_scalar (bi_int (ic_eql (c := true) (by decide)) (by simp))) rfl rfl
  · intro a' w' hF' hb hd
    have e64 := sHe hd 0 64 rfl rfl rfl rfl
    have e70 := sHe hd 1 70 rfl rfl rfl rfl
    exact dv0 (r_pick_t e64 e70) rfl rfl rfl
  intro a w13 hF bb hall hne
  replace st := st.to bb
  have e71 := sSe hall 43 71 rfl rfl
  clear hall hne bb
  replace hF := hF.add e71
  clear e71
  refine E.opset (L' := [(8, .bool true), (71, .bool true), (12, .pointer (some ⟨g12, 0, none⟩)), (27, .agg #[.bool b11x, .slice ad11x n11x c11x, .slice ae11x m11x d11x, .bool b11y, .slice ad11y n11y c11y, .slice ae11y m11y d11y]), (26, .agg #[.int .i64 (gA 60 120 la lb), .int .i64 (gB lb), .int .i64 (gA 180 360 lc ld), .int .i64 (gB ld)]), (11, .int .i64 (ppE ((cx ((((gA 60 120 la lb) : Int) : Rat) / (((gB lb) : Int) : Rat)) ++ [44] ++ cx ((((gA 180 360 lc ld) : Int) : Rat) / (((gB ld) : Int) : Rat)))))), (10, .pointer (some ⟨g10, 0, none⟩)), (25, .int .i64 (ppE ((cx ((((gA 60 120 la lb) : Int) : Rat) / (((gB lb) : Int) : Rat)) ++ [44] ++ cx ((((gA 180 360 lc ld) : Int) : Rat) / (((gB ld) : Int) : Rat)))))), (24, .agg #[.int .i64 (ppI ((cx ((((gA 60 120 la lb) : Int) : Rat) / (((gB lb) : Int) : Rat)) ++ [44] ++ cx ((((gA 180 360 lc ld) : Int) : Rat) / (((gB ld) : Int) : Rat)))) (anA (hd44 ((cx ((((gA 60 120 la lb) : Int) : Rat) / (((gB lb) : Int) : Rat)) ++ [44] ++ cx ((((gA 180 360 lc ld) : Int) : Rat) / (((gB ld) : Int) : Rat))))))), .int .i64 (ppI ((cx ((((gA 60 120 la lb) : Int) : Rat) / (((gB lb) : Int) : Rat)) ++ [44] ++ cx ((((gA 180 360 lc ld) : Int) : Rat) / (((gB ld) : Int) : Rat)))) (anB (hd44 ((cx ((((gA 60 120 la lb) : Int) : Rat) / (((gB lb) : Int) : Rat)) ++ [44] ++ cx ((((gA 180 360 lc ld) : Int) : Rat) / (((gB ld) : Int) : Rat))))))), .int .i64 (ppI ((cx ((((gA 60 120 la lb) : Int) : Rat) / (((gB lb) : Int) : Rat)) ++ [44] ++ cx ((((gA 180 360 lc ld) : Int) : Rat) / (((gB ld) : Int) : Rat)))) (anA (tl44 ((cx ((((gA 60 120 la lb) : Int) : Rat) / (((gB lb) : Int) : Rat)) ++ [44] ++ cx ((((gA 180 360 lc ld) : Int) : Rat) / (((gB ld) : Int) : Rat))))))), .int .i64 (ppI ((cx ((((gA 60 120 la lb) : Int) : Rat) / (((gB lb) : Int) : Rat)) ++ [44] ++ cx ((((gA 180 360 lc ld) : Int) : Rat) / (((gB ld) : Int) : Rat)))) (anB (tl44 ((cx ((((gA 60 120 la lb) : Int) : Rat) / (((gB lb) : Int) : Rat)) ++ [44] ++ cx ((((gA 180 360 lc ld) : Int) : Rat) / (((gB ld) : Int) : Rat)))))))]), (20, .tuple #[.agg #[.int .i64 (ppI ((cx ((((gA 60 120 la lb) : Int) : Rat) / (((gB lb) : Int) : Rat)) ++ [44] ++ cx ((((gA 180 360 lc ld) : Int) : Rat) / (((gB ld) : Int) : Rat)))) (anA (hd44 ((cx ((((gA 60 120 la lb) : Int) : Rat) / (((gB lb) : Int) : Rat)) ++ [44] ++ cx ((((gA 180 360 lc ld) : Int) : Rat) / (((gB ld) : Int) : Rat))))))), .int .i64 (ppI ((cx ((((gA 60 120 la lb) : Int) : Rat) / (((gB lb) : Int) : Rat)) ++ [44] ++ cx ((((gA 180 360 lc ld) : Int) : Rat) / (((gB ld) : Int) : Rat)))) (anB (hd44 ((cx ((((gA 60 120 la lb) : Int) : Rat) / (((gB lb) : Int) : Rat)) ++ [44] ++ cx ((((gA 180 360 lc ld) : Int) : Rat) / (((gB ld) : Int) : Rat))))))), .int .i64 (ppI ((cx ((((gA 60 120 la lb) : Int) : Rat) / (((gB lb) : Int) : Rat)) ++ [44] ++ cx ((((gA 180 360 lc ld) : Int) : Rat) / (((gB ld) : Int) : Rat)))) (anA (tl44 ((cx ((((gA 60 120 la lb) : Int) : Rat) / (((gB lb) : Int) : Rat)) ++ [44] ++ cx ((((gA 180 360 lc ld) : Int) : Rat) / (((gB ld) : Int) : Rat))))))), .int .i64 (ppI ((cx ((((gA 60 120 la lb) : Int) : Rat) / (((gB lb) : Int) : Rat)) ++ [44] ++ cx ((((gA 180 360 lc ld) : Int) : Rat) / (((gB ld) : Int) : Rat)))) (anB (tl44 ((cx ((((gA 60 120 la lb) : Int) : Rat) / (((gB lb) : Int) : Rat)) ++ [44] ++ cx ((((gA 180 360 lc ld) : Int) : Rat) / (((gB ld) : Int) : Rat)))))))], .int .i64 (ppE ((cx ((((gA 60 120 la lb) : Int) : Rat) / (((gB lb) : Int) : Rat)) ++ [44] ++ cx ((((gA 180 360 lc ld) : Int) : Rat) / (((gB ld) : Int) : Rat)))))]), (23, .tuple #[.agg #[.int .i64 (ppI ((cx ((((gA 60 120 la lb) : Int) : Rat) / (((gB lb) : Int) : Rat)) ++ [44] ++ cx ((((gA 180 360 lc ld) : Int) : Rat) / (((gB ld) : Int) : Rat)))) (anA (hd44 ((cx ((((gA 60 120 la lb) : Int) : Rat) / (((gB lb) : Int) : Rat)) ++ [44] ++ cx ((((gA 180 360 lc ld) : Int) : Rat) / (((gB ld) : Int) : Rat))))))), .int .i64 (ppI ((cx ((((gA 60 120 la lb) : Int) : Rat) / (((gB lb) : Int) : Rat)) ++ [44] ++ cx ((((gA 180 360 lc ld) : Int) : Rat) / (((gB ld) : Int) : Rat)))) (anB (hd44 ((cx ((((gA 60 120 la lb) : Int) : Rat) / (((gB lb) : Int) : Rat)) ++ [44] ++ cx ((((gA 180 360 lc ld) : Int) : Rat) / (((gB ld) : Int) : Rat))))))), .int .i64 (ppI ((cx ((((gA 60 120 la lb) : Int) : Rat) / (((gB lb) : Int) : Rat)) ++ [44] ++ cx ((((gA 180 360 lc ld) : Int) : Rat) / (((gB ld) : Int) : Rat)))) (anA (tl44 ((cx ((((gA 60 120 la lb) : Int) : Rat) / (((gB lb) : Int) : Rat)) ++ [44] ++ cx ((((gA 180 360 lc ld) : Int) : Rat) / (((gB ld) : Int) : Rat))))))), .int .i64 (ppI ((cx ((((gA 60 120 la lb) : Int) : Rat) / (((gB lb) : Int) : Rat)) ++ [44] ++ cx ((((gA 180 360 lc ld) : Int) : Rat) / (((gB ld) : Int) : Rat)))) (anB (tl44 ((cx ((((gA 60 120 la lb) : Int) : Rat) / (((gB lb) : Int) : Rat)) ++ [44] ++ cx ((((gA 180 360 lc ld) : Int) : Rat) / (((gB ld) : Int) : Rat)))))))], .int .i64 (ppE ((cx ((((gA 60 120 la lb) : Int) : Rat) / (((gB lb) : Int) : Rat)) ++ [44] ++ cx ((((gA 180 360 lc ld) : Int) : Rat) / (((gB ld) : Int) : Rat)))))]), (22, .string (bstr (cx ((((gA 60 120 la lb) : Int) : Rat) / (((gB lb) : Int) : Rat)) ++ [44] ++ cx ((((gA 180 360 lc ld) : Int) : Rat) / (((gB ld) : Int) : Rat))))), (21, .agg #[.int .i64 (gA 60 120 la lb), .int .i64 (gB lb), .int .i64 (gA 180 360 lc ld), .int .i64 (gB ld)]), (9, .pointer (some ⟨g9, 0, none⟩)), (19, .agg #[.int .i64 (gA 60 120 la lb), .int .i64 (gB lb), .int .i64 (gA 180 360 lc ld), .int .i64 (gB ld)]), (18, .int .i64 ld), (17, .int .i64 lc), (16, .int .i64 lb), (15, .int .i64 la), (14, .bool false), (13, .bool true), (0, .int .i64 la), (1, .int .i64 lb), (2, .int .i64 lc), (3, .int .i64 ld)]) hF (r_assign (hF.at 0 rfl)) rfl rfl rfl rfl fun a hF => ?_
  refine E.nil ?_
  refine wp_ret ?_
  have bel := st.bel
  refine bodyPost_ret (res_tmp Try.results4 (hF.at 0 rfl)) hF.dfr ?_
  exact ⟨rfl, bel⟩

end Go.Proofs.Ytpkhdajnppoinaa
