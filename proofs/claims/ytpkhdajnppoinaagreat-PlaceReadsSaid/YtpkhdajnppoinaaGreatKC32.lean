import Derived.Test.YtpkhdajnppoinaaGreatKC29
import Derived.Test.YtpkhdajnppoinaaGreatKC30
import Derived.Test.YtpkhdajnppoinaaGreatKC31
namespace Go.Proofs.YtpkhdajnppoinaaGreat
open Go.RowKit
set_option maxRecDepth 100000
set_option linter.unusedVariables false
set_option maxHeartbeats 8000000
def wiB (m n d:Int):Bool:=decide (1≤d∧d≤3600∧ -m*d≤n∧n≤m*d)
def plE (a b c d:Int):Int:=if wiB 60 a b=true∧wiB 180 c d=true then 0 else 2
theorem dv_le {x c b:Rat} (hc:0<c) (h:x≤b*c):x/c≤b:=Rat.not_lt.1 fun q=>by rw[Rat.lt_div_iff hc] at q;grind
theorem le_dv {x c b:Rat} (hc:0<c) (h:b*c≤x):b≤x/c:=Rat.not_lt.1 fun q=>by rw[Rat.div_lt_iff hc] at q;grind
theorem lim64q {n d:Int} (h0: -9223372036854775808≤n) (h1:n≤9223372036854775807) (g0: -9223372036854775808≤d) (g1:d≤9223372036854775807):RLim (((n:Int):Rat)/((d:Int):Rat)) 2:=(rlim_mk2 (limz_64 h0 h1) (limz_64 g0 g1)).up 2 (by decide)
theorem en16:(Tryz.f16.name == "runtime.NumGoroutine")=false∧Tryz.f16.body.isNone=false:=⟨by decide+kernel,by kernel_rfl⟩
theorem en10:(Tryz.f10.name == "runtime.NumGoroutine")=false∧Tryz.f10.body.isNone=false:=⟨by decide+kernel,by kernel_rfl⟩
theorem en11:(Tryz.f11.name == "runtime.NumGoroutine")=false∧Tryz.f11.body.isNone=false:=⟨by decide+kernel,by kernel_rfl⟩
theorem en5:(Tryz.f5.name == "runtime.NumGoroutine")=false∧Tryz.f5.body.isNone=false:=⟨by decide+kernel,by kernel_rfl⟩
theorem pUj_any (w:World):
 Calls Tryz.prog 16 #[] w (ValPost w (.agg #[.int .i64 463,.int .i64 20,.int .i64 45461,.int .i64 600])):=by
 have st:=St.start w
 refine E.enter (nt:=2) (L:=[]) Tryz.func16 rfl rfl rfl args_nil ?_
 intro a hF
 refine wp_seq ?_
 refine E.seq ?_
 refine S.alloc st hF ty_Plc rfl rfl fun g0 w1 a st hF=>?_
 refine E.nil ?_
 refine wp_seq ?_
 refine E.seq ?_
 refine E.opv hF (r_build (pair4 ev_c ev_c ev_c ev_c) (bd_Plc_0123 _ _ _ _ _)) rfl rfl rfl rfl fun a hF=>?_
 refine S.stoI st hF 0 rfl (hF.at 1 rfl) (hF.at 0 rfl) ty_Plc rfl rfl rfl fun w2 a st hF=>?_
 refine E.nil ?_
 refine wp_ret ?_
 refine S.ret Tryz.results16 st hF (hF.at 1 rfl) 0 rfl ty_Plc rfl hF.dfr ?_
 have bel:=st.bel
 exact⟨rfl,bel⟩
theorem pLatitude_any (xa xb xc xd:Int) (w:World) (hxa0: -9223372036854775808≤xa) (hxa1:xa≤9223372036854775807) (hxb0: -9223372036854775808≤xb) (hxb1:xb≤9223372036854775807):
 Calls Tryz.prog 10 #[.agg #[.int .i64 xa,.int .i64 xb,.int .i64 xc,.int .i64 xd]] w (RqPost w (((xa:Int):Rat)/((xb:Int):Rat))):=by
 have st:=St.start w
 refine E.enter (nt:=8) (L:=[(0,.agg #[.int .i64 xa,.int .i64 xb,.int .i64 xc,.int .i64 xd])]) Tryz.func10 rfl rfl rfl (args_cons (i:=0) rfl args_nil) ?_
 intro a hF
 refine wp_seq ?_
 refine E.seq ?_
 refine S.box st hF (hF.at 0 rfl) rfl rfl fun g1 w1 a st hF=>?_
 refine S.alloc st hF ty_Rat rfl rfl fun g2 w2 a st hF=>?_
 refine E.nil ?_
 refine wp_seq ?_
 refine E.seq ?_
 refine E.opv hF (r_field (hF.at 1 rfl) (fa_Plc_0 (p:=0) rfl)) rfl rfl rfl rfl fun a hF=>?_
 refine E.opv hF (r_load (hF.at 0 rfl) (ldb_i64 (v:= .int .i64 xa) (st.bk 1 rfl) rfl)) rfl rfl rfl rfl fun a hF=>?_
 refine E.opv hF (r_field (hF.at 3 rfl) (fa_Plc_1 (p:=1) rfl)) rfl rfl rfl rfl fun a hF=>?_
 refine E.opv hF (r_load (hF.at 0 rfl) (ldb_i64 (v:= .int .i64 xb) (st.bk 1 rfl) rfl)) rfl rfl rfl rfl fun a hF=>?_
 refine S.call st hF (r_call Tryz.func12 en12.1 en12.2 (map2 (hF.at 2 rfl) (hF.at 0 rfl))) (rOf2_any (xa) (xb) _ hxa0 hxa1 hxb0 hxb1) (fun _ _ h=>h) Rq.cl rfl rfl rfl rfl fun vv4 w3 a st hF=>?_
 obtain⟨b6,ad6,n6,c6,ae6,m6,d6,rfl⟩:=Rq.form (st.f 0 rfl)
 refine S.sto st hF 0 rfl (hF.at 5 rfl) (hF.at 0 rfl) ty_Rat rfl rfl rfl rfl fun w7 a st hF=>?_
 refine E.nil ?_
 refine wp_ret ?_
 refine S.ret Tryz.results10 st hF (hF.at 5 rfl) 0 rfl ty_Rat rfl hF.dfr ?_
 have bel:=st.bel
 exact⟨_,rfl,(st.f 0 rfl),bel⟩
theorem pLongitude_any (xa xb xc xd:Int) (w:World) (hxc0: -9223372036854775808≤xc) (hxc1:xc≤9223372036854775807) (hxd0: -9223372036854775808≤xd) (hxd1:xd≤9223372036854775807):
 Calls Tryz.prog 11 #[.agg #[.int .i64 xa,.int .i64 xb,.int .i64 xc,.int .i64 xd]] w (RqPost w (((xc:Int):Rat)/((xd:Int):Rat))):=by
 have st:=St.start w
 refine E.enter (nt:=8) (L:=[(0,.agg #[.int .i64 xa,.int .i64 xb,.int .i64 xc,.int .i64 xd])]) Tryz.func11 rfl rfl rfl (args_cons (i:=0) rfl args_nil) ?_
 intro a hF
 refine wp_seq ?_
 refine E.seq ?_
 refine S.box st hF (hF.at 0 rfl) rfl rfl fun g1 w1 a st hF=>?_
 refine S.alloc st hF ty_Rat rfl rfl fun g2 w2 a st hF=>?_
 refine E.nil ?_
 refine wp_seq ?_
 refine E.seq ?_
 refine E.opv hF (r_field (hF.at 1 rfl) (fa_Plc_2 (p:=2) rfl)) rfl rfl rfl rfl fun a hF=>?_
 refine E.opv hF (r_load (hF.at 0 rfl) (ldb_i64 (v:= .int .i64 xc) (st.bk 1 rfl) rfl)) rfl rfl rfl rfl fun a hF=>?_
 refine E.opv hF (r_field (hF.at 3 rfl) (fa_Plc_3 (p:=3) rfl)) rfl rfl rfl rfl fun a hF=>?_
 refine E.opv hF (r_load (hF.at 0 rfl) (ldb_i64 (v:= .int .i64 xd) (st.bk 1 rfl) rfl)) rfl rfl rfl rfl fun a hF=>?_
 refine S.call st hF (r_call Tryz.func12 en12.1 en12.2 (map2 (hF.at 2 rfl) (hF.at 0 rfl))) (rOf2_any (xc) (xd) _ hxc0 hxc1 hxd0 hxd1) (fun _ _ h=>h) Rq.cl rfl rfl rfl rfl fun vv4 w3 a st hF=>?_
 obtain⟨b6,ad6,n6,c6,ae6,m6,d6,rfl⟩:=Rq.form (st.f 0 rfl)
 refine S.sto st hF 0 rfl (hF.at 5 rfl) (hF.at 0 rfl) ty_Rat rfl rfl rfl rfl fun w7 a st hF=>?_
 refine E.nil ?_
 refine wp_ret ?_
 refine S.ret Tryz.results11 st hF (hF.at 5 rfl) 0 rfl ty_Rat rfl hF.dfr ?_
 have bel:=st.bel
 exact⟨_,rfl,(st.f 0 rfl),bel⟩
end Go.Proofs.YtpkhdajnppoinaaGreat
