import Derived.Test.YtnljadejcfgmaaaGreatDoorKA15
import Derived.Test.YtnljadejcfgmaaaGreatDoorKA16
import Derived.Test.YtnljadejcfgmaaaGreatDoorKA17
namespace Go.Proofs.YtnljadejcfgmaaaGreatDoor
open Go.RowKit
set_option maxRecDepth 100000
set_option linter.unusedVariables false
set_option maxHeartbeats 8000000
def gB (y:Int):Int:=1+y%3600
def gA (m m2 x y:Int):Int:=x%(m2*gB y+1)-m*gB y
theorem gB_bd (y:Int):1≤gB y∧gB y≤3600:=by unfold gB;omega
theorem gA_bd {m m2 x y:Int} (h:m2=2*m) (h0:0≤m): -(m*gB y)≤gA m m2 x y∧gA m m2 x y≤m*gB y:=by
 have b:=gB_bd y
 have p:=Int.mul_nonneg h0 (show 0≤gB y by omega)
 have e:m2*gB y=2*(m*gB y):=by rw[h,Int.mul_assoc]
 unfold gA
 rw[e]
 have h1:=Int.emod_nonneg x (show 2*(m*gB y)+1≠0 by omega)
 have h2:=Int.emod_lt_of_pos x (show 0<2*(m*gB y)+1 by omega)
 omega
theorem gLat_bd (x y:Int): -60*gB y≤gA 60 120 x y∧gA 60 120 x y≤60*gB y:=by
 have:=gA_bd (m:=60) (m2:=120) (x:=x) (y:=y) (by omega) (by omega);omega
theorem gLon_bd (x y:Int): -180*gB y≤gA 180 360 x y∧gA 180 360 x y≤180*gB y:=by
 have:=gA_bd (m:=180) (m2:=360) (x:=x) (y:=y) (by omega) (by omega);omega
theorem into_eq {k n:Int} (h:0<n):(if 0≤(if 0≤k then k%n else -(-k%n))+n then((if 0≤k then k%n else -(-k%n))+n)%n else -(-((if 0≤k then k%n else -(-k%n))+n)%n))=k%n:=by
 have a:=rem_bd (k:=k) h
 rw[if_pos (by omega),Int.add_emod_right]
 split
 ·exact Int.emod_emod_of_dvd k (Int.dvd_refl n)
 ·have e:=Int.emod_add_mul_ediv (-k) n
  have e2: -(-k%n)=k+n*(-k/n):=by omega
  rw[e2,Int.add_mul_emod_self_left]
theorem into_rng {k n:Int} (h:0<n) (h2:n≤1000000000): -9223372036854775808≤(if 0≤k then k%n else -(-k%n))+n∧(if 0≤k then k%n else -(-k%n))+n≤9223372036854775807:=by
 have a:=rem_bd (k:=k) h;omega
def wiB (m n d:Int):Bool:=decide (1≤d∧d≤3600∧ -m*d≤n∧n≤m*d)
def plE (a b c d:Int):Int:=if wiB 60 a b=true∧wiB 180 c d=true then 0 else 2
theorem wiB_of {m n d:Int} (h:wiB m n d=true):1≤d∧d≤3600∧ -m*d≤n∧n≤m*d:=of_decide_eq_true h
theorem dv_le {x c b:Rat} (hc:0<c) (h:x≤b*c):x/c≤b:=Rat.not_lt.1 fun q=>by rw[Rat.lt_div_iff hc] at q;grind
theorem le_dv {x c b:Rat} (hc:0<c) (h:b*c≤x):b≤x/c:=Rat.not_lt.1 fun q=>by rw[Rat.div_lt_iff hc] at q;grind
theorem lat_bd {a b:Int} (h:1≤b) (h0: -60*b≤a) (h1:a≤60*b): -60≤((a:Int):Rat)/((b:Int):Rat)∧((a:Int):Rat)/((b:Int):Rat)≤60:=by
 have p:(0:Rat)<((b:Int):Rat):=Rat.intCast_pos.2 (by omega)
 have a0:((-60*b:Int):Rat)≤((a:Int):Rat):=Rat.intCast_le_intCast.2 h0
 have a1:((a:Int):Rat)≤((60*b:Int):Rat):=Rat.intCast_le_intCast.2 h1
 rw[Rat.intCast_mul] at a0 a1
 rw[show((-60:Int):Rat)= -60 from rfl] at a0
 rw[show((60:Int):Rat)=60 from rfl] at a1
 exact⟨le_dv p (by grind),dv_le p (by grind)⟩
theorem lon_bd {a b:Int} (h:1≤b) (h0: -180*b≤a) (h1:a≤180*b): -180≤((a:Int):Rat)/((b:Int):Rat)∧((a:Int):Rat)/((b:Int):Rat)≤180:=by
 have p:(0:Rat)<((b:Int):Rat):=Rat.intCast_pos.2 (by omega)
 have a0:((-180*b:Int):Rat)≤((a:Int):Rat):=Rat.intCast_le_intCast.2 h0
 have a1:((a:Int):Rat)≤((180*b:Int):Rat):=Rat.intCast_le_intCast.2 h1
 rw[Rat.intCast_mul] at a0 a1
 rw[show((-180:Int):Rat)= -180 from rfl] at a0
 rw[show((180:Int):Rat)=180 from rfl] at a1
 exact⟨le_dv p (by grind),dv_le p (by grind)⟩
structure PlOk (a b c d:Int):Prop where
 b0:1≤b
 b1:b≤3600
 a0: -60*b≤a
 a1:a≤60*b
 d0:1≤d
 d1:d≤3600
 c0: -180*d≤c
 c1:c≤180*d
theorem good_ok (x y u v:Int):PlOk (gA 60 120 x y) (gB y) (gA 180 360 u v) (gB v):=⟨(gB_bd y).1,(gB_bd y).2,(gLat_bd x y).1,(gLat_bd x y).2,(gB_bd v).1,(gB_bd v).2,(gLon_bd u v).1,(gLon_bd u v).2⟩
theorem PlOk.la {a b c d:Int} (h:PlOk a b c d): -60≤((a:Int):Rat)/((b:Int):Rat)∧((a:Int):Rat)/((b:Int):Rat)≤60:=lat_bd h.b0 h.a0 h.a1
theorem PlOk.lo {a b c d:Int} (h:PlOk a b c d): -180≤((c:Int):Rat)/((d:Int):Rat)∧((c:Int):Rat)/((d:Int):Rat)≤180:=lon_bd h.d0 h.c0 h.c1
theorem map4 {a:Act} {x0 x1 x2 x3:Operand} {u0 u1 u2 u3:Value} (h0:a.eval x0=u0) (h1:a.eval x1=u1) (h2:a.eval x2=u2) (h3:a.eval x3=u3):#[x0,x1,x2,x3].map a.eval=#[u0,u1,u2,u3]:=by simp[h0,h1,h2,h3]
theorem lim64q {n d:Int} (h0: -9223372036854775808≤n) (h1:n≤9223372036854775807) (g0: -9223372036854775808≤d) (g1:d≤9223372036854775807):RLim (((n:Int):Rat)/((d:Int):Rat)) 2:=(rlim_mk2 (limz_64 h0 h1) (limz_64 g0 g1)).up 2 (by decide)
theorem en113:(Tryz.f113.name == "runtime.NumGoroutine")=false∧Tryz.f113.body.isNone=false:=⟨by decide+kernel,by kernel_rfl⟩
theorem pUj_any (w:World):
 Calls Tryz.prog 51 #[] w (ValPost w (.agg #[.int .i64 463,.int .i64 20,.int .i64 45461,.int .i64 600])):=by
 have st:=St.start w
 refine E.enter (nt:=2) (L:=[]) Tryz.func51 rfl rfl rfl args_nil ?_
 intro a hF
 refine wp_seq ?_
 refine E.seq ?_
 refine S.alloc st hF ty_Plc rfl rfl fun g0 w1 a st hF=>?_
 refine E.nil ?_
 refine wp_seq ?_
 refine E.seq ?_
 refine E.opv hF (r_build (pair4 ev_c ev_c ev_c ev_c) (bd_Plc_0123 _ _ _ _ _)) rfl rfl rfl rfl fun a hF=>?_
 refine S.stoI st hF 0 rfl (hF.at 1 rfl) (hF.at 0 rfl) ty_Plc rfl rfl rfl fun w2 a st hF=>?_
 refine E.nil ?_
 refine wp_ret ?_
 refine S.ret Tryz.results51 st hF (hF.at 1 rfl) 0 rfl ty_Plc rfl hF.dfr ?_
 have bel:=st.bel
 exact⟨rfl,bel⟩
theorem pLatitude_any (xa xb xc xd:Int) (w:World) (hxa0: -9223372036854775808≤xa) (hxa1:xa≤9223372036854775807) (hxb0: -9223372036854775808≤xb) (hxb1:xb≤9223372036854775807):
 Calls Tryz.prog 238 #[.agg #[.int .i64 xa,.int .i64 xb,.int .i64 xc,.int .i64 xd]] w (RqPost w (((xa:Int):Rat)/((xb:Int):Rat))):=by
 have st:=St.start w
 refine E.enter (nt:=8) (L:=[(0,.agg #[.int .i64 xa,.int .i64 xb,.int .i64 xc,.int .i64 xd])]) Tryz.func238 rfl rfl rfl (args_cons (i:=0) rfl args_nil) ?_
 intro a hF
 refine wp_seq ?_
 refine E.seq ?_
 refine S.box st hF (hF.at 0 rfl) rfl rfl fun g1 w1 a st hF=>?_
 refine S.alloc st hF ty_Rat rfl rfl fun g2 w2 a st hF=>?_
 refine E.nil ?_
 refine wp_seq ?_
 refine E.seq ?_
 refine E.opv hF (r_field (hF.at 1 rfl) (fa_Plc_0 (p:=0) rfl)) rfl rfl rfl rfl fun a hF=>?_
 refine E.opv hF (r_load (hF.at 0 rfl) (ldb_i64 (v:= .int .i64 xa) (st.bk 1 rfl) rfl)) rfl rfl rfl rfl fun a hF=>?_
 refine E.opv hF (r_field (hF.at 3 rfl) (fa_Plc_1 (p:=1) rfl)) rfl rfl rfl rfl fun a hF=>?_
 refine E.opv hF (r_load (hF.at 0 rfl) (ldb_i64 (v:= .int .i64 xb) (st.bk 1 rfl) rfl)) rfl rfl rfl rfl fun a hF=>?_
 refine S.call st hF (r_call Tryz.func35 en35.1 en35.2 (map2 (hF.at 2 rfl) (hF.at 0 rfl))) (rOf2_any (xa) (xb) _ hxa0 hxa1 hxb0 hxb1) (fun _ _ h=>h) Rq.cl rfl rfl rfl rfl fun vv4 w3 a st hF=>?_
 obtain⟨b6,ad6,n6,c6,ae6,m6,d6,rfl⟩:=Rq.form (st.f 0 rfl)
 refine S.sto st hF 0 rfl (hF.at 5 rfl) (hF.at 0 rfl) ty_Rat rfl rfl rfl rfl fun w7 a st hF=>?_
 refine E.nil ?_
 refine wp_ret ?_
 refine S.ret Tryz.results238 st hF (hF.at 5 rfl) 0 rfl ty_Rat rfl hF.dfr ?_
 have bel:=st.bel
 exact⟨_,rfl,(st.f 0 rfl),bel⟩
theorem pLongitude_any (xa xb xc xd:Int) (w:World) (hxc0: -9223372036854775808≤xc) (hxc1:xc≤9223372036854775807) (hxd0: -9223372036854775808≤xd) (hxd1:xd≤9223372036854775807):
 Calls Tryz.prog 203 #[.agg #[.int .i64 xa,.int .i64 xb,.int .i64 xc,.int .i64 xd]] w (RqPost w (((xc:Int):Rat)/((xd:Int):Rat))):=by
 have st:=St.start w
 refine E.enter (nt:=8) (L:=[(0,.agg #[.int .i64 xa,.int .i64 xb,.int .i64 xc,.int .i64 xd])]) Tryz.func203 rfl rfl rfl (args_cons (i:=0) rfl args_nil) ?_
 intro a hF
 refine wp_seq ?_
 refine E.seq ?_
 refine S.box st hF (hF.at 0 rfl) rfl rfl fun g1 w1 a st hF=>?_
 refine S.alloc st hF ty_Rat rfl rfl fun g2 w2 a st hF=>?_
 refine E.nil ?_
 refine wp_seq ?_
 refine E.seq ?_
 refine E.opv hF (r_field (hF.at 1 rfl) (fa_Plc_2 (p:=2) rfl)) rfl rfl rfl rfl fun a hF=>?_
 refine E.opv hF (r_load (hF.at 0 rfl) (ldb_i64 (v:= .int .i64 xc) (st.bk 1 rfl) rfl)) rfl rfl rfl rfl fun a hF=>?_
 refine E.opv hF (r_field (hF.at 3 rfl) (fa_Plc_3 (p:=3) rfl)) rfl rfl rfl rfl fun a hF=>?_
 refine E.opv hF (r_load (hF.at 0 rfl) (ldb_i64 (v:= .int .i64 xd) (st.bk 1 rfl) rfl)) rfl rfl rfl rfl fun a hF=>?_
 refine S.call st hF (r_call Tryz.func35 en35.1 en35.2 (map2 (hF.at 2 rfl) (hF.at 0 rfl))) (rOf2_any (xc) (xd) _ hxc0 hxc1 hxd0 hxd1) (fun _ _ h=>h) Rq.cl rfl rfl rfl rfl fun vv4 w3 a st hF=>?_
 obtain⟨b6,ad6,n6,c6,ae6,m6,d6,rfl⟩:=Rq.form (st.f 0 rfl)
 refine S.sto st hF 0 rfl (hF.at 5 rfl) (hF.at 0 rfl) ty_Rat rfl rfl rfl rfl fun w7 a st hF=>?_
 refine E.nil ?_
 refine wp_ret ?_
 refine S.ret Tryz.results203 st hF (hF.at 5 rfl) 0 rfl ty_Rat rfl hF.dfr ?_
 have bel:=st.bel
 exact⟨_,rfl,(st.f 0 rfl),bel⟩
theorem into_any (k n:Int) (w:World) (hn:0<n) (hn2:n≤1000000000):
 Calls Tryz.prog 113 #[.int .i64 k,.int .i64 n] w (ValPost w (.int .i64 (k%n))):=by
 have st:=St.start w
 refine E.enter (nt:=12) (L:=[(0,.int .i64 k),(1,.int .i64 n)]) Tryz.func113 rfl rfl rfl (args_cons (i:=0) rfl (args_cons (i:=1) rfl args_nil)) ?_
 intro a hF
 refine wp_seq ?_
 refine E.seq ?_
 refine E.opv hF (r_assign ev_c) rfl rfl rfl rfl fun a hF=>?_
 refine E.nil ?_
 refine wp_seq ?_
 refine E.seq ?_
 refine E.opv hF (r_move (hF.at 1 rfl)) rfl rfl rfl rfl fun a hF=>?_
 refine E.opv hF (r_move (hF.at 3 rfl)) rfl rfl rfl rfl fun a hF=>?_
 refine E.opv hF (r_bin (hF.at 1 rfl) (hF.at 0 rfl) eg_scalar (id_rem (a:=k) (b:=n) hn)) rfl rfl rfl rfl fun a hF=>?_
 refine E.opv hF (r_move (hF.at 5 rfl)) rfl rfl rfl rfl fun a hF=>?_
 refine E.opv hF (r_bin (hF.at 1 rfl) (hF.at 0 rfl) eg_scalar (ia_add (into_rng hn hn2).1 (into_rng hn hn2).2)) rfl rfl rfl rfl fun a hF=>?_
 refine E.opv hF (r_move (hF.at 7 rfl)) rfl rfl rfl rfl fun a hF=>?_
 refine E.opv hF (r_bin (hF.at 1 rfl) (hF.at 0 rfl) eg_scalar (id_rem (a:=(if 0≤k then k%n else -(-k%n))+n) (b:=n) hn)) rfl rfl rfl rfl fun a hF=>?_
 refine E.opset (L':=[(4,.int .i64 (if 0≤(if 0≤k then k%n else -(-k%n))+n then((if 0≤k then k%n else -(-k%n))+n)%n else -(-((if 0≤k then k%n else -(-k%n))+n)%n))),(11,.int .i64 (if 0≤(if 0≤k then k%n else -(-k%n))+n then((if 0≤k then k%n else -(-k%n))+n)%n else -(-((if 0≤k then k%n else -(-k%n))+n)%n))),(10,.int .i64 n),(9,.int .i64 ((if 0≤k then k%n else -(-k%n))+n)),(8,.int .i64 n),(7,.int .i64 (if 0≤k then k%n else -(-k%n))),(6,.int .i64 n),(5,.int .i64 k),(0,.int .i64 k),(1,.int .i64 n)]) hF (r_assign (hF.at 0 rfl)) rfl rfl rfl rfl fun a hF=>?_
 refine E.nil ?_
 refine wp_ret ?_
 have bel:=st.bel
 refine bodyPost_ret (res_tmp Tryz.results113 (hF.at 0 rfl)) hF.dfr ?_
 exact⟨rv_int (into_eq hn),bel⟩
theorem good_any (x y u v:Int) (w:World):
 Calls Tryz.prog 50 #[.int .i64 x,.int .i64 y,.int .i64 u,.int .i64 v] w (ValPost w (.agg #[.int .i64 (gA 60 120 x y),.int .i64 (gB y),.int .i64 (gA 180 360 u v),.int .i64 (gB v)])):=by
 have st:=St.start w
 refine E.enter (nt:=36) (L:=[(0,.int .i64 x),(1,.int .i64 y),(2,.int .i64 u),(3,.int .i64 v)]) Tryz.func50 rfl rfl rfl (args_cons (i:=0) rfl (args_cons (i:=1) rfl (args_cons (i:=2) rfl (args_cons (i:=3) rfl args_nil)))) ?_
 intro a hF
 refine wp_seq ?_
 refine E.seq ?_
 refine S.alloc st hF ty_Plc rfl rfl fun g8 w1 a st hF=>?_
 refine E.nil ?_
 refine wp_seq ?_
 refine E.seq ?_
 refine E.opv hF (r_move (hF.at 2 rfl)) rfl rfl rfl rfl fun a hF=>?_
 refine S.callx st hF (r_call Tryz.func113 en113.1 en113.2 (map2 (hF.at 0 rfl) ev_c)) (into_any y 3600 _ (by omega) (by omega)) rfl rfl rfl rfl fun w2 a st hF=>?_
 have hib3142:=into_bd (k:=y) (n:=3600) (by omega)
 refine E.opv hF (r_bin ev_c (hF.at 0 rfl) eg_scalar (ia_add (by omega) (by omega))) rfl rfl rfl rfl fun a hF=>?_
 refine E.opv hF (r_move (hF.at 7 rfl)) rfl rfl rfl rfl fun a hF=>?_
 refine S.callx st hF (r_call Tryz.func113 en113.1 en113.2 (map2 (hF.at 0 rfl) ev_c)) (into_any v 3600 _ (by omega) (by omega)) rfl rfl rfl rfl fun w3 a st hF=>?_
 have hib446:=into_bd (k:=v) (n:=3600) (by omega)
 refine E.opv hF (r_bin ev_c (hF.at 0 rfl) eg_scalar (ia_add (by omega) (by omega))) rfl rfl rfl rfl fun a hF=>?_
 refine E.opv hF (r_assign (hF.at 3 rfl)) rfl rfl rfl rfl fun a hF=>?_
 refine E.opv hF (r_assign (hF.at 1 rfl)) rfl rfl rfl rfl fun a hF=>?_
 refine E.nil ?_
 refine wp_seq ?_
 refine E.seq ?_
 refine E.opv hF (r_move (hF.at 9 rfl)) rfl rfl rfl rfl fun a hF=>?_
 refine E.opv hF (r_move (hF.at 2 rfl)) rfl rfl rfl rfl fun a hF=>?_
 refine E.opv hF (r_bin ev_c (hF.at 0 rfl) eg_scalar (ia_mul (by omega) (by omega))) rfl rfl rfl rfl fun a hF=>?_
 refine E.opv hF (r_bin (hF.at 0 rfl) ev_c eg_scalar (ia_add (by omega) (by omega))) rfl rfl rfl rfl fun a hF=>?_
 refine S.callx st hF (r_call Tryz.func113 en113.1 en113.2 (map2 (hF.at 3 rfl) (hF.at 0 rfl))) (into_any x ((120*(1+(y%3600)))+1) _ (by omega) (by omega)) rfl rfl rfl rfl fun w4 a st hF=>?_
 have hib545:=into_bd (k:=x) (n:=(120*(1+(y%3600)))+1) (by omega)
 refine E.opv hF (r_move (hF.at 6 rfl)) rfl rfl rfl rfl fun a hF=>?_
 refine E.opv hF (r_bin ev_c (hF.at 0 rfl) eg_scalar (ia_mul (by omega) (by omega))) rfl rfl rfl rfl fun a hF=>?_
 refine E.opv hF (r_bin (hF.at 2 rfl) (hF.at 0 rfl) eg_scalar (ia_sub (by omega) (by omega))) rfl rfl rfl rfl fun a hF=>?_
 refine E.opv hF (r_move (hF.at 9 rfl)) rfl rfl rfl rfl fun a hF=>?_
 refine E.opv hF (r_move (hF.at 20 rfl)) rfl rfl rfl rfl fun a hF=>?_
 refine E.opv hF (r_move (hF.at 10 rfl)) rfl rfl rfl rfl fun a hF=>?_
 refine E.opv hF (r_bin ev_c (hF.at 0 rfl) eg_scalar (ia_mul (by omega) (by omega))) rfl rfl rfl rfl fun a hF=>?_
 refine E.opv hF (r_bin (hF.at 0 rfl) ev_c eg_scalar (ia_add (by omega) (by omega))) rfl rfl rfl rfl fun a hF=>?_
 refine S.callx st hF (r_call Tryz.func113 en113.1 en113.2 (map2 (hF.at 3 rfl) (hF.at 0 rfl))) (into_any u ((360*(1+(v%3600)))+1) _ (by omega) (by omega)) rfl rfl rfl rfl fun w5 a st hF=>?_
 have hib8212:=into_bd (k:=u) (n:=(360*(1+(v%3600)))+1) (by omega)
 refine E.opv hF (r_move (hF.at 14 rfl)) rfl rfl rfl rfl fun a hF=>?_
 refine E.opv hF (r_bin ev_c (hF.at 0 rfl) eg_scalar (ia_mul (by omega) (by omega))) rfl rfl rfl rfl fun a hF=>?_
 refine E.opv hF (r_bin (hF.at 2 rfl) (hF.at 0 rfl) eg_scalar (ia_sub (by omega) (by omega))) rfl rfl rfl rfl fun a hF=>?_
 refine E.opv hF (r_move (hF.at 17 rfl)) rfl rfl rfl rfl fun a hF=>?_
 refine E.opv hF (r_build (pair4 (hF.at 10 rfl) (hF.at 9 rfl) (hF.at 1 rfl) (hF.at 0 rfl)) (bd_Plc_0123 _ _ _ _ _)) rfl rfl rfl rfl fun a hF=>?_
 refine S.stoI st hF 0 rfl (hF.at 27 rfl) (hF.at 0 rfl) ty_Plc rfl rfl rfl fun w6 a st hF=>?_
 refine E.nil ?_
 refine wp_ret ?_
 refine S.ret Tryz.results50 st hF (hF.at 27 rfl) 0 rfl ty_Plc rfl hF.dfr ?_
 have bel:=st.bel
 exact⟨rfl,bel⟩
end Go.Proofs.YtnljadejcfgmaaaGreatDoor
