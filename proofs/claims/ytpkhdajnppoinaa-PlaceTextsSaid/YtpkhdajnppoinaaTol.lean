/- The document's place of a place. -/
import Derived.Test.YtpkhdajnppoinaaLoF
import Derived.Test.YtpkhdajnppoinaaTyQ
import Derived.Test.YtpkhdajnppoinaaGO
import Derived.Test.YtpkhdajnppoinaaGI
namespace Go.Proofs.Ytpkhdajnppoinaa
open Go.RowKit
set_option maxRecDepth 100000
set_option linter.unusedVariables false

theorem en11 : (Try.f11.name == "runtime.NumGoroutine") = false ∧ Try.f11.body.isNone = false := ⟨by decide +kernel, by kernel_rfl⟩
set_option maxHeartbeats 4000000 in
theorem told13_any (xa xb xc xd : Int) (w : World) (hxa0 : -9223372036854775808 ≤ xa) (hxa1 : xa ≤ 9223372036854775807) (hxb0 : -9223372036854775808 ≤ xb) (hxb1 : xb ≤ 9223372036854775807) (hxc0 : -9223372036854775808 ≤ xc) (hxc1 : xc ≤ 9223372036854775807) (hxd0 : -9223372036854775808 ≤ xd) (hxd1 : xd ≤ 9223372036854775807) :
    Calls Try.prog 11 #[.agg #[.int .i64 xa, .int .i64 xb, .int .i64 xc, .int .i64 xd]] w (RPlPost w (((xa : Int) : Rat) / ((xb : Int) : Rat)) (((xc : Int) : Rat) / ((xd : Int) : Rat)) 2) := by
  have st := St.start w
  refine E.enter (nt := 14) (L := [(0, .agg #[.int .i64 xa, .int .i64 xb, .int .i64 xc, .int .i64 xd])]) Try.func11 rfl rfl rfl (args_cons (i := 0) rfl args_nil) ?_
  intro a hF
  refine wp_seq ?_
  refine E.seq ?_
  refine S.box st hF (hF.at 0 rfl) rfl rfl fun g1 w1 a st hF => ?_
  refine S.alloc st hF ty_RPl rfl rfl fun g2 w2 a st hF => ?_
  refine E.nil ?_
  refine wp_seq ?_
  refine E.drawn 11 mixed hF [3, 4, 5, 6, 7, 8, 9, 10, 11, 12, 13] [(fun _ v => v = .pointer (some ⟨g1, 0, none⟩)), (fun _ v => v = .int .i64 xa), (fun _ v => v = .pointer (some ⟨g1, 1, none⟩)), (fun _ v => v = .int .i64 xb), (fun w v => Rr w v (((xa : Int) : Rat) / ((xb : Int) : Rat)) (2)), (fun _ v => v = .pointer (some ⟨g1, 2, none⟩)), (fun _ v => v = .int .i64 xc), (fun _ v => v = .pointer (some ⟨g1, 3, none⟩)), (fun _ v => v = .int .i64 xd), (fun w v => Rr w v (((xc : Int) : Rat) / ((xd : Int) : Rat)) (2)), (fun w v => RPl w v (((xa : Int) : Rat) / ((xb : Int) : Rat)) (((xc : Int) : Rat) / ((xd : Int) : Rat)) (2))] [] (by decide +kernel) (by decide +kernel) rfl rfl rfl ⟨(Mb.eq _), (Mb.eq _), (Mb.eq _), (Mb.eq _), (fun _ _ _ h hb => h.below hb), (Mb.eq _), (Mb.eq _), (Mb.eq _), (Mb.eq _), (fun _ _ _ h hb => h.below hb), (RPl.mono _ _ _), trivial⟩ trivial ⟨?_, ?_, ?_, ?_, ?_, ?_, ?_, ?_, ?_, ?_, ?_, trivial⟩ ?_
  · intro a' w' hF' hb hd
    exact dv0 (r_field (hF'.at 1 rfl) (fa_Plc_0 (p := 0) rfl)) rfl rfl rfl
  · intro a' w' hF' hb hd
    have e3 := sHe hd 0 3 rfl rfl rfl rfl
    exact dv0 (r_load e3 (ldb_i64 (v := .int .i64 xa) ((st.bk 1 rfl).below hb) rfl)) rfl rfl rfl
  · intro a' w' hF' hb hd
    exact dv0 (r_field (hF'.at 1 rfl) (fa_Plc_1 (p := 1) rfl)) rfl rfl rfl
  · intro a' w' hF' hb hd
    have e5 := sHe hd 0 5 rfl rfl rfl rfl
    exact dv0 (r_load e5 (ldb_i64 (v := .int .i64 xb) ((st.bk 1 rfl).below hb) rfl)) rfl rfl rfl
  · intro a' w' hF' hb hd
    have e4 := sHe hd 0 4 rfl rfl rfl rfl
    have e6 := sHe hd 1 6 rfl rfl rfl rfl
    exact dc0 (r_call Try.func25 en25.1 en25.2 (map2 e4 e6)) (lOf_any xa xb _ hxa0 hxa1 hxb0 hxb1) rfl rfl
  · intro a' w' hF' hb hd
    exact dv0 (r_field (hF'.at 1 rfl) (fa_Plc_2 (p := 2) rfl)) rfl rfl rfl
  · intro a' w' hF' hb hd
    have e8 := sHe hd 0 8 rfl rfl rfl rfl
    exact dv0 (r_load e8 (ldb_i64 (v := .int .i64 xc) ((st.bk 1 rfl).below hb) rfl)) rfl rfl rfl
  · intro a' w' hF' hb hd
    exact dv0 (r_field (hF'.at 1 rfl) (fa_Plc_3 (p := 3) rfl)) rfl rfl rfl
  · intro a' w' hF' hb hd
    have e10 := sHe hd 0 10 rfl rfl rfl rfl
    exact dv0 (r_load e10 (ldb_i64 (v := .int .i64 xd) ((st.bk 1 rfl).below hb) rfl)) rfl rfl rfl
  · intro a' w' hF' hb hd
    have e9 := sHe hd 0 9 rfl rfl rfl rfl
    have e11 := sHe hd 1 11 rfl rfl rfl rfl
    exact dc0 (r_call Try.func25 en25.1 en25.2 (map2 e9 e11)) (lOf_any xc xd _ hxc0 hxc1 hxd0 hxd1) rfl rfl
  · intro a' w' hF' hb hd
    obtain ⟨v7_0, e7, h7_1⟩ := sH hd 0 7 rfl rfl rfl rfl
    obtain ⟨v12_0, e12, h12_1⟩ := sH hd 1 12 rfl rfl rfl rfl
    obtain ⟨b3, ad3, n3, c3, ae3, m3, d3, rfl⟩ := Rr.form h7_1
    obtain ⟨b4, ad4, n4, c4, ae4, m4, d4, rfl⟩ := Rr.form h12_1
    exact dv0 (r_build (pair2 e7 e12) (bd_RPl_01 _ _ _ _ _ _ _ _ _ _ _ _ _ _ _)) ⟨_, _, _, _, _, _, _, _, _, _, _, _, _, _, rfl, h7_1, h12_1⟩ rfl rfl
  intro a w5 hF bb hall hne
  replace st := st.to bb
  obtain ⟨vv6, e13, hh7⟩ := sS hall 10 13 rfl rfl
  replace st := st.add hh7 (RPl.cl _)
  clear hh7
  clear hall hne bb
  replace hF := hF.add e13
  clear e13
  obtain ⟨b9x, ad9x, n9x, c9x, ae9x, m9x, d9x, b9y, ad9y, n9y, c9y, ae9y, m9y, d9y, rfl, hp9x, hp9y⟩ := RPl.shape (st.f 0 rfl)
  refine S.sto st hF 0 rfl (hF.at 1 rfl) (hF.at 0 rfl) ty_RPl rfl rfl rfl rfl fun w10 a st hF => ?_
  refine E.nil ?_
  refine wp_ret ?_
  refine S.ret Try.results11 st hF (hF.at 1 rfl) 0 rfl ty_RPl rfl hF.dfr ?_
  have bel := st.bel
  exact ⟨_, rfl, (st.f 0 rfl), bel⟩

end Go.Proofs.Ytpkhdajnppoinaa
