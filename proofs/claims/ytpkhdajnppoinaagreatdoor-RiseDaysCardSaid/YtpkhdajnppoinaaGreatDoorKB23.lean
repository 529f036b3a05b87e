import Derived.Test.YtpkhdajnppoinaaGreatDoorKB19
import Derived.Test.YtpkhdajnppoinaaGreatDoorKB21
import Derived.Test.YtpkhdajnppoinaaGreatDoorKB22
namespace Go.Proofs.YtpkhdajnppoinaaGreatDoor
open Go.RowKit
set_option maxRecDepth 100000
set_option linter.unusedVariables false
set_option maxHeartbeats 8000000
section
section
variable {P:Program} {ops:Array Oper} {Q:Exit→Act→World→Prop} {W w:World} {bs:List (Nat×List Value)} {fs:List (World→Prop)} {nt d:Nat} {L:List (Nat×Value)} {rest:List Oper} {a:Act} {T:TypeId} {x y:Operand} {v:Value} {cs vs zs:List Value} {g n:Nat} {ty:TypeId} {pos:String} {af:Array Edge}
end
end
def gB (y:Int):Int:=1+y%3600
def gA (m m2 x y:Int):Int:=x%(m2*gB y+1)-m*gB y
theorem gB_bd (y:Int):1≤gB y∧gB y≤3600:=by unfold gB;omega
theorem gA_bd {m m2 x y:Int} (h:m2=2*m) (h0:0≤m): -(m*gB y)≤gA m m2 x y∧gA m m2 x y≤m*gB y:=by
 have b:=gB_bd y
 have p:=Int.mul_nonneg h0 (show 0≤gB y by omega)
 have e:m2*gB y=2*(m*gB y):=by rw[h,Int.mul_assoc]
 unfold gA
 rw[e]
 have h1:=Int.emod_nonneg x (show 2*(m*gB y)+1≠0 by omega)
 have h2:=Int.emod_lt_of_pos x (show 0<2*(m*gB y)+1 by omega)
 omega
theorem gLat_bd (x y:Int): -60*gB y≤gA 60 120 x y∧gA 60 120 x y≤60*gB y:=by
 have:=gA_bd (m:=60) (m2:=120) (x:=x) (y:=y) (by omega) (by omega);omega
theorem gLon_bd (x y:Int): -180*gB y≤gA 180 360 x y∧gA 180 360 x y≤180*gB y:=by
 have:=gA_bd (m:=180) (m2:=360) (x:=x) (y:=y) (by omega) (by omega);omega
theorem into_bd {k n:Int} (h:0<n):0≤k%n∧k%n<n:=⟨Int.emod_nonneg k (by omega),Int.emod_lt_of_pos k h⟩
theorem rem_bd {k n:Int} (h:0<n): -n<(if 0≤k then k%n else -(-k%n))∧(if 0≤k then k%n else -(-k%n))<n:=by
 have a:=into_bd (k:=k) h
 have b:=into_bd (k:= -k) h
 split <;> omega
theorem into_eq {k n:Int} (h:0<n):(if 0≤(if 0≤k then k%n else -(-k%n))+n then((if 0≤k then k%n else -(-k%n))+n)%n else -(-((if 0≤k then k%n else -(-k%n))+n)%n))=k%n:=by
 have a:=rem_bd (k:=k) h
 rw[if_pos (by omega),Int.add_emod_right]
 split
 ·exact Int.emod_emod_of_dvd k (Int.dvd_refl n)
 ·have e:=Int.emod_add_mul_ediv (-k) n
  have e2: -(-k%n)=k+n*(-k/n):=by omega
  rw[e2,Int.add_mul_emod_self_left]
theorem into_rng {k n:Int} (h:0<n) (h2:n≤1000000000): -9223372036854775808≤(if 0≤k then k%n else -(-k%n))+n∧(if 0≤k then k%n else -(-k%n))+n≤9223372036854775807:=by
 have a:=rem_bd (k:=k) h;omega
def inD (n:Int):Int:=if(if 0≤n then n%6000001 else -(-n%6000001))< -3000000 then(if 0≤n then n%6000001 else -(-n%6000001))+6000000+1 else if 3000000<(if 0≤n then n%6000001 else -(-n%6000001)) then(if 0≤n then n%6000001 else -(-n%6000001))-6000000-1 else(if 0≤n then n%6000001 else -(-n%6000001))
theorem inD_bd (n:Int): -3000000≤inD n∧inD n≤3000000:=by
 unfold inD
 have:=rem_bd (k:=n) (n:=6000001) (by decide)
 generalize (if 0≤n then n%6000001 else -(-n%6000001))=r at*
 split <;> (try split) <;> omega
theorem map4 {a:Act} {x0 x1 x2 x3:Operand} {u0 u1 u2 u3:Value} (h0:a.eval x0=u0) (h1:a.eval x1=u1) (h2:a.eval x2=u2) (h3:a.eval x3=u3):#[x0,x1,x2,x3].map a.eval=#[u0,u1,u2,u3]:=by simp[h0,h1,h2,h3]
theorem lim64q {n d:Int} (h0: -9223372036854775808≤n) (h1:n≤9223372036854775807) (g0: -9223372036854775808≤d) (g1:d≤9223372036854775807):RLim (((n:Int):Rat)/((d:Int):Rat)) 2:=(rlim_mk2 (limz_64 h0 h1) (limz_64 g0 g1)).up 2 (by decide)
theorem en49:(Tryz.f49.name == "runtime.NumGoroutine")=false∧Tryz.f49.body.isNone=false:=⟨by decide+kernel,by kernel_rfl⟩
theorem en144:(Tryz.f144.name == "runtime.NumGoroutine")=false∧Tryz.f144.body.isNone=false:=⟨by decide+kernel,by kernel_rfl⟩
theorem en39:(Tryz.f39.name == "runtime.NumGoroutine")=false∧Tryz.f39.body.isNone=false:=⟨by decide+kernel,by kernel_rfl⟩
theorem en58:(Tryz.f58.name == "runtime.NumGoroutine")=false∧Tryz.f58.body.isNone=false:=⟨by decide+kernel,by kernel_rfl⟩
theorem en12:(Tryz.f12.name == "runtime.NumGoroutine")=false∧Tryz.f12.body.isNone=false:=⟨by decide+kernel,by kernel_rfl⟩
theorem en29:(Tryz.f29.name == "runtime.NumGoroutine")=false∧Tryz.f29.body.isNone=false:=⟨by decide+kernel,by kernel_rfl⟩
theorem pUj_any (w:World):
 Calls Tryz.prog 49 #[] w (ValPost w (.agg #[.int .i64 463,.int .i64 20,.int .i64 45461,.int .i64 600])):=by
 have st:=St.start w
 refine E.enter (nt:=2) (L:=[]) Tryz.func49 rfl rfl rfl args_nil ?_
 intro a hF
 refine wp_seq ?_
 refine E.seq ?_
 refine S.alloc st hF ty_Plc rfl rfl fun g0 w1 a st hF=>?_
 refine E.nil ?_
 refine wp_seq ?_
 refine E.seq ?_
 refine E.opv hF (r_build (pair4 ev_c ev_c ev_c ev_c) (bd_Plc_0123 _ _ _ _ _)) rfl rfl rfl rfl fun a hF=>?_
 refine S.stoI st hF 0 rfl (hF.at 1 rfl) (hF.at 0 rfl) ty_Plc rfl rfl rfl fun w2 a st hF=>?_
 refine E.nil ?_
 refine wp_ret ?_
 refine S.ret Tryz.results49 st hF (hF.at 1 rfl) 0 rfl ty_Plc rfl hF.dfr ?_
 have bel:=st.bel
 exact⟨rfl,bel⟩
theorem pLatitude_any (xa xb xc xd:Int) (w:World) (hxa0: -9223372036854775808≤xa) (hxa1:xa≤9223372036854775807) (hxb0: -9223372036854775808≤xb) (hxb1:xb≤9223372036854775807):
 Calls Tryz.prog 144 #[.agg #[.int .i64 xa,.int .i64 xb,.int .i64 xc,.int .i64 xd]] w (RqPost w (((xa:Int):Rat)/((xb:Int):Rat))):=by
 have st:=St.start w
 refine E.enter (nt:=8) (L:=[(0,.agg #[.int .i64 xa,.int .i64 xb,.int .i64 xc,.int .i64 xd])]) Tryz.func144 rfl rfl rfl (args_cons (i:=0) rfl args_nil) ?_
 intro a hF
 refine wp_seq ?_
 refine E.seq ?_
 refine S.box st hF (hF.at 0 rfl) rfl rfl fun g1 w1 a st hF=>?_
 refine S.alloc st hF ty_Rat rfl rfl fun g2 w2 a st hF=>?_
 refine E.nil ?_
 refine wp_seq ?_
 refine E.seq ?_
 refine E.opv hF (r_field (hF.at 1 rfl) (fa_Plc_0 (p:=0) rfl)) rfl rfl rfl rfl fun a hF=>?_
 refine E.opv hF (r_load (hF.at 0 rfl) (ldb_i64 (v:= .int .i64 xa) (st.bk 1 rfl) rfl)) rfl rfl rfl rfl fun a hF=>?_
 refine E.opv hF (r_field (hF.at 3 rfl) (fa_Plc_1 (p:=1) rfl)) rfl rfl rfl rfl fun a hF=>?_
 refine E.opv hF (r_load (hF.at 0 rfl) (ldb_i64 (v:= .int .i64 xb) (st.bk 1 rfl) rfl)) rfl rfl rfl rfl fun a hF=>?_
 refine S.call st hF (r_call Tryz.func38 en38.1 en38.2 (map2 (hF.at 2 rfl) (hF.at 0 rfl))) (rOf2_any (xa) (xb) _ hxa0 hxa1 hxb0 hxb1) (fun _ _ h=>h) Rq.cl rfl rfl rfl rfl fun vv4 w3 a st hF=>?_
 obtain⟨b6,ad6,n6,c6,ae6,m6,d6,rfl⟩:=Rq.form (st.f 0 rfl)
 refine S.sto st hF 0 rfl (hF.at 5 rfl) (hF.at 0 rfl) ty_Rat rfl rfl rfl rfl fun w7 a st hF=>?_
 refine E.nil ?_
 refine wp_ret ?_
 refine S.ret Tryz.results144 st hF (hF.at 5 rfl) 0 rfl ty_Rat rfl hF.dfr ?_
 have bel:=st.bel
 exact⟨_,rfl,(st.f 0 rfl),bel⟩
theorem pLongitude_any (xa xb xc xd:Int) (w:World) (hxc0: -9223372036854775808≤xc) (hxc1:xc≤9223372036854775807) (hxd0: -9223372036854775808≤xd) (hxd1:xd≤9223372036854775807):
 Calls Tryz.prog 39 #[.agg #[.int .i64 xa,.int .i64 xb,.int .i64 xc,.int .i64 xd]] w (RqPost w (((xc:Int):Rat)/((xd:Int):Rat))):=by
 have st:=St.start w
 refine E.enter (nt:=8) (L:=[(0,.agg #[.int .i64 xa,.int .i64 xb,.int .i64 xc,.int .i64 xd])]) Tryz.func39 rfl rfl rfl (args_cons (i:=0) rfl args_nil) ?_
 intro a hF
 refine wp_seq ?_
 refine E.seq ?_
 refine S.box st hF (hF.at 0 rfl) rfl rfl fun g1 w1 a st hF=>?_
 refine S.alloc st hF ty_Rat rfl rfl fun g2 w2 a st hF=>?_
 refine E.nil ?_
 refine wp_seq ?_
 refine E.seq ?_
 refine E.opv hF (r_field (hF.at 1 rfl) (fa_Plc_2 (p:=2) rfl)) rfl rfl rfl rfl fun a hF=>?_
 refine E.opv hF (r_load (hF.at 0 rfl) (ldb_i64 (v:= .int .i64 xc) (st.bk 1 rfl) rfl)) rfl rfl rfl rfl fun a hF=>?_
 refine E.opv hF (r_field (hF.at 3 rfl) (fa_Plc_3 (p:=3) rfl)) rfl rfl rfl rfl fun a hF=>?_
 refine E.opv hF (r_load (hF.at 0 rfl) (ldb_i64 (v:= .int .i64 xd) (st.bk 1 rfl) rfl)) rfl rfl rfl rfl fun a hF=>?_
 refine S.call st hF (r_call Tryz.func38 en38.1 en38.2 (map2 (hF.at 2 rfl) (hF.at 0 rfl))) (rOf2_any (xc) (xd) _ hxc0 hxc1 hxd0 hxd1) (fun _ _ h=>h) Rq.cl rfl rfl rfl rfl fun vv4 w3 a st hF=>?_
 obtain⟨b6,ad6,n6,c6,ae6,m6,d6,rfl⟩:=Rq.form (st.f 0 rfl)
 refine S.sto st hF 0 rfl (hF.at 5 rfl) (hF.at 0 rfl) ty_Rat rfl rfl rfl rfl fun w7 a st hF=>?_
 refine E.nil ?_
 refine wp_ret ?_
 refine S.ret Tryz.results39 st hF (hF.at 5 rfl) 0 rfl ty_Rat rfl hF.dfr ?_
 have bel:=st.bel
 exact⟨_,rfl,(st.f 0 rfl),bel⟩
theorem into_any (k n:Int) (w:World) (hn:0<n) (hn2:n≤1000000000):
 Calls Tryz.prog 58 #[.int .i64 k,.int .i64 n] w (ValPost w (.int .i64 (k%n))):=by
 have st:=St.start w
 refine E.enter (nt:=12) (L:=[(0,.int .i64 k),(1,.int .i64 n)]) Tryz.func58 rfl rfl rfl (args_cons (i:=0) rfl (args_cons (i:=1) rfl args_nil)) ?_
 intro a hF
 refine wp_seq ?_
 refine E.seq ?_
 refine E.opv hF (r_assign ev_c) rfl rfl rfl rfl fun a hF=>?_
 refine E.nil ?_
 refine wp_seq ?_
 refine E.seq ?_
 refine E.opv hF (r_move (hF.at 1 rfl)) rfl rfl rfl rfl fun a hF=>?_
 refine E.opv hF (r_move (hF.at 3 rfl)) rfl rfl rfl rfl fun a hF=>?_
 refine E.opv hF (r_bin (hF.at 1 rfl) (hF.at 0 rfl) eg_scalar (id_rem (a:=k) (b:=n) hn)) rfl rfl rfl rfl fun a hF=>?_
 refine E.opv hF (r_move (hF.at 5 rfl)) rfl rfl rfl rfl fun a hF=>?_
 refine E.opv hF (r_bin (hF.at 1 rfl) (hF.at 0 rfl) eg_scalar (ia_add (into_rng hn hn2).1 (into_rng hn hn2).2)) rfl rfl rfl rfl fun a hF=>?_
 refine E.opv hF (r_move (hF.at 7 rfl)) rfl rfl rfl rfl fun a hF=>?_
 refine E.opv hF (r_bin (hF.at 1 rfl) (hF.at 0 rfl) eg_scalar (id_rem (a:=(if 0≤k then k%n else -(-k%n))+n) (b:=n) hn)) rfl rfl rfl rfl fun a hF=>?_
 refine E.opset (L':=[(4,.int .i64 (if 0≤(if 0≤k then k%n else -(-k%n))+n then((if 0≤k then k%n else -(-k%n))+n)%n else -(-((if 0≤k then k%n else -(-k%n))+n)%n))),(11,.int .i64 (if 0≤(if 0≤k then k%n else -(-k%n))+n then((if 0≤k then k%n else -(-k%n))+n)%n else -(-((if 0≤k then k%n else -(-k%n))+n)%n))),(10,.int .i64 n),(9,.int .i64 ((if 0≤k then k%n else -(-k%n))+n)),(8,.int .i64 n),(7,.int .i64 (if 0≤k then k%n else -(-k%n))),(6,.int .i64 n),(5,.int .i64 k),(0,.int .i64 k),(1,.int .i64 n)]) hF (r_assign (hF.at 0 rfl)) rfl rfl rfl rfl fun a hF=>?_
 refine E.nil ?_
 refine wp_ret ?_
 have bel:=st.bel
 refine bodyPost_ret (res_tmp Tryz.results58 (hF.at 0 rfl)) hF.dfr ?_
 exact⟨rv_int (into_eq hn),bel⟩
theorem good_any (x y u v:Int) (w:World):
 Calls Tryz.prog 12 #[.int .i64 x,.int .i64 y,.int .i64 u,.int .i64 v] w (ValPost w (.agg #[.int .i64 (gA 60 120 x y),.int .i64 (gB y),.int .i64 (gA 180 360 u v),.int .i64 (gB v)])):=by
 have st:=St.start w
 refine E.enter (nt:=36) (L:=[(0,.int .i64 x),(1,.int .i64 y),(2,.int .i64 u),(3,.int .i64 v)]) Tryz.func12 rfl rfl rfl (args_cons (i:=0) rfl (args_cons (i:=1) rfl (args_cons (i:=2) rfl (args_cons (i:=3) rfl args_nil)))) ?_
 intro a hF
 refine wp_seq ?_
 refine E.seq ?_
 refine S.alloc st hF ty_Plc rfl rfl fun g8 w1 a st hF=>?_
 refine E.nil ?_
 refine wp_seq ?_
 refine E.seq ?_
 refine E.opv hF (r_move (hF.at 2 rfl)) rfl rfl rfl rfl fun a hF=>?_
 refine S.callx st hF (r_call Tryz.func58 en58.1 en58.2 (map2 (hF.at 0 rfl) ev_c)) (into_any y 3600 _ (by omega) (by omega)) rfl rfl rfl rfl fun w2 a st hF=>?_
 have hib2806:=into_bd (k:=y) (n:=3600) (by omega)
 refine E.opv hF (r_bin ev_c (hF.at 0 rfl) eg_scalar (ia_add (by omega) (by omega))) rfl rfl rfl rfl fun a hF=>?_
 refine E.opv hF (r_move (hF.at 7 rfl)) rfl rfl rfl rfl fun a hF=>?_
 refine S.callx st hF (r_call Tryz.func58 en58.1 en58.2 (map2 (hF.at 0 rfl) ev_c)) (into_any v 3600 _ (by omega) (by omega)) rfl rfl rfl rfl fun w3 a st hF=>?_
 have hib6861:=into_bd (k:=v) (n:=3600) (by omega)
 refine E.opv hF (r_bin ev_c (hF.at 0 rfl) eg_scalar (ia_add (by omega) (by omega))) rfl rfl rfl rfl fun a hF=>?_
 refine E.opv hF (r_assign (hF.at 3 rfl)) rfl rfl rfl rfl fun a hF=>?_
 refine E.opv hF (r_assign (hF.at 1 rfl)) rfl rfl rfl rfl fun a hF=>?_
 refine E.nil ?_
 refine wp_seq ?_
 refine E.seq ?_
 refine E.opv hF (r_move (hF.at 9 rfl)) rfl rfl rfl rfl fun a hF=>?_
 refine E.opv hF (r_move (hF.at 2 rfl)) rfl rfl rfl rfl fun a hF=>?_
 refine E.opv hF (r_bin ev_c (hF.at 0 rfl) eg_scalar (ia_mul (by omega) (by omega))) rfl rfl rfl rfl fun a hF=>?_
 refine E.opv hF (r_bin (hF.at 0 rfl) ev_c eg_scalar (ia_add (by omega) (by omega))) rfl rfl rfl rfl fun a hF=>?_
 refine S.callx st hF (r_call Tryz.func58 en58.1 en58.2 (map2 (hF.at 3 rfl) (hF.at 0 rfl))) (into_any x ((120*(1+(y%3600)))+1) _ (by omega) (by omega)) rfl rfl rfl rfl fun w4 a st hF=>?_
 have hib6816:=into_bd (k:=x) (n:=(120*(1+(y%3600)))+1) (by omega)
 refine E.opv hF (r_move (hF.at 6 rfl)) rfl rfl rfl rfl fun a hF=>?_
 refine E.opv hF (r_bin ev_c (hF.at 0 rfl) eg_scalar (ia_mul (by omega) (by omega))) rfl rfl rfl rfl fun a hF=>?_
 refine E.opv hF (r_bin (hF.at 2 rfl) (hF.at 0 rfl) eg_scalar (ia_sub (by omega) (by omega))) rfl rfl rfl rfl fun a hF=>?_
 refine E.opv hF (r_move (hF.at 9 rfl)) rfl rfl rfl rfl fun a hF=>?_
 refine E.opv hF (r_move (hF.at 20 rfl)) rfl rfl rfl rfl fun a hF=>?_
 refine E.opv hF (r_move (hF.at 10 rfl)) rfl rfl rfl rfl fun a hF=>?_
 refine E.opv hF (r_bin ev_c (hF.at 0 rfl) eg_scalar (ia_mul (by omega) (by omega))) rfl rfl rfl rfl fun a hF=>?_
 refine E.opv hF (r_bin (hF.at 0 rfl) ev_c eg_scalar (ia_add (by omega) (by omega))) rfl rfl rfl rfl fun a hF=>?_
 refine S.callx st hF (r_call Tryz.func58 en58.1 en58.2 (map2 (hF.at 3 rfl) (hF.at 0 rfl))) (into_any u ((360*(1+(v%3600)))+1) _ (by omega) (by omega)) rfl rfl rfl rfl fun w5 a st hF=>?_
 have hib3280:=into_bd (k:=u) (n:=(360*(1+(v%3600)))+1) (by omega)
 refine E.opv hF (r_move (hF.at 14 rfl)) rfl rfl rfl rfl fun a hF=>?_
 refine E.opv hF (r_bin ev_c (hF.at 0 rfl) eg_scalar (ia_mul (by omega) (by omega))) rfl rfl rfl rfl fun a hF=>?_
 refine E.opv hF (r_bin (hF.at 2 rfl) (hF.at 0 rfl) eg_scalar (ia_sub (by omega) (by omega))) rfl rfl rfl rfl fun a hF=>?_
 refine E.opv hF (r_move (hF.at 17 rfl)) rfl rfl rfl rfl fun a hF=>?_
 refine E.opv hF (r_build (pair4 (hF.at 10 rfl) (hF.at 9 rfl) (hF.at 1 rfl) (hF.at 0 rfl)) (bd_Plc_0123 _ _ _ _ _)) rfl rfl rfl rfl fun a hF=>?_
 refine S.stoI st hF 0 rfl (hF.at 27 rfl) (hF.at 0 rfl) ty_Plc rfl rfl rfl fun w6 a st hF=>?_
 refine E.nil ?_
 refine wp_ret ?_
 refine S.ret Tryz.results12 st hF (hF.at 27 rfl) 0 rfl ty_Plc rfl hF.dfr ?_
 have bel:=st.bel
 exact⟨rfl,bel⟩
theorem inD_any (n:Int) (w:World):
 Calls Tryz.prog 29 #[.int .i64 n] w (ValPost w (.int .i64 (inD n))):=by
 have hrb:=rem_bd (k:=n) (n:=6000001) (by decide)
 have st:=St.start w
 refine E.enter (nt:=17) (L:=[(0,.int .i64 n)]) Tryz.func29 rfl rfl rfl (args_cons (i:=0) rfl args_nil) ?_
 intro a hF
 refine wp_seq ?_
 refine E.seq ?_
 refine E.opv hF (r_assign ev_c) rfl rfl rfl rfl fun a hF=>?_
 refine E.nil ?_
 refine wp_seq ?_
 refine E.seq ?_
 refine E.opv hF (r_move (hF.at 1 rfl)) rfl rfl rfl rfl fun a hF=>?_
 refine E.opv hF (r_bin (hF.at 0 rfl) ev_c eg_scalar (id_rem (a:=n) (b:=6000001) (by omega))) rfl rfl rfl rfl fun a hF=>?_
 refine E.opv hF (r_assign (hF.at 0 rfl)) rfl rfl rfl rfl fun a hF=>?_
 refine E.nil ?_
 refine wp_seq ?_
 refine wp_seq ?_
 refine E.seq ?_
 refine E.opv hF (r_move (hF.at 0 rfl)) rfl rfl rfl rfl fun a hF=>?_
 by_cases hc1:(if 0≤n then n%6000001 else -(-n%6000001))<(-3000000)
 ·refine E.opv hF (r_bin (hF.at 0 rfl) ev_c eg_scalar (bi_int (ic_lss (c:=true) (dec_tt hc1)) (by simp))) rfl rfl rfl rfl fun a hF=>?_
  refine E.nil ?_
  refine wp_cond_true (hF.at 0 rfl) ?_
  refine wp_seq ?_
  refine E.seq ?_
  refine E.opv hF (r_move (hF.at 2 rfl)) rfl rfl rfl rfl fun a hF=>?_
  refine E.opv hF (r_bin (hF.at 0 rfl) ev_c eg_scalar (ia_add (by omega) (by omega))) rfl rfl rfl rfl fun a hF=>?_
  refine E.opv hF (r_bin (hF.at 0 rfl) ev_c eg_scalar (ia_add (by omega) (by omega))) rfl rfl rfl rfl fun a hF=>?_
  refine E.opset (L':=[(2,.int .i64 (((if 0≤n then n%6000001 else -(-n%6000001))+6000000)+1)),(10,.int .i64 (((if 0≤n then n%6000001 else -(-n%6000001))+6000000)+1)),(9,.int .i64 ((if 0≤n then n%6000001 else -(-n%6000001))+6000000)),(8,.int .i64 (if 0≤n then n%6000001 else -(-n%6000001))),(7,.bool true),(6,.int .i64 (if 0≤n then n%6000001 else -(-n%6000001))),(3,.int .i64 (if 0≤n then n%6000001 else -(-n%6000001))),(5,.int .i64 (if 0≤n then n%6000001 else -(-n%6000001))),(4,.int .i64 n),(0,.int .i64 n)]) hF (r_assign (hF.at 0 rfl)) rfl rfl rfl rfl fun a hF=>?_
  refine E.nil ?_
  refine wp_ret ?_
  have bel:=st.bel
  refine bodyPost_ret (res_tmp Tryz.results29 (hF.at 0 rfl)) hF.dfr ?_
  refine⟨rv_int ?_,bel⟩
  unfold inD
  rw[if_pos hc1]
 ·refine E.opv hF (r_bin (hF.at 0 rfl) ev_c eg_scalar (bi_int (ic_lss (c:=false) (dec_ff hc1)) (by simp))) rfl rfl rfl rfl fun a hF=>?_
  refine E.nil ?_
  refine wp_cond_false (hF.at 0 rfl) ?_
  refine wp_skip ?_
  refine E.norm ?_
  refine wp_seq ?_
  refine wp_seq ?_
  refine E.seq ?_
  refine E.opv hF (r_move (hF.at 2 rfl)) rfl rfl rfl rfl fun a hF=>?_
  by_cases hc2:3000000<(if 0≤n then n%6000001 else -(-n%6000001))
  ·refine E.opv hF (r_bin (hF.at 0 rfl) ev_c eg_scalar (bi_int (ic_gtr (c:=true) (dec_tt hc2)) (by simp))) rfl rfl rfl rfl fun a hF=>?_
   refine E.nil ?_
   refine wp_cond_true (hF.at 0 rfl) ?_
   refine wp_seq ?_
   refine E.seq ?_
   refine E.opv hF (r_move (hF.at 4 rfl)) rfl rfl rfl rfl fun a hF=>?_
   refine E.opv hF (r_bin (hF.at 0 rfl) ev_c eg_scalar (ia_sub (by omega) (by omega))) rfl rfl rfl rfl fun a hF=>?_
   refine E.opv hF (r_bin (hF.at 0 rfl) ev_c eg_scalar (ia_sub (by omega) (by omega))) rfl rfl rfl rfl fun a hF=>?_
   refine E.opset (L':=[(2,.int .i64 (((if 0≤n then n%6000001 else -(-n%6000001))-6000000)-1)),(15,.int .i64 (((if 0≤n then n%6000001 else -(-n%6000001))-6000000)-1)),(14,.int .i64 ((if 0≤n then n%6000001 else -(-n%6000001))-6000000)),(13,.int .i64 (if 0≤n then n%6000001 else -(-n%6000001))),(12,.bool true),(11,.int .i64 (if 0≤n then n%6000001 else -(-n%6000001))),(7,.bool false),(6,.int .i64 (if 0≤n then n%6000001 else -(-n%6000001))),(3,.int .i64 (if 0≤n then n%6000001 else -(-n%6000001))),(5,.int .i64 (if 0≤n then n%6000001 else -(-n%6000001))),(4,.int .i64 n),(0,.int .i64 n)]) hF (r_assign (hF.at 0 rfl)) rfl rfl rfl rfl fun a hF=>?_
   refine E.nil ?_
   refine wp_ret ?_
   have bel:=st.bel
   refine bodyPost_ret (res_tmp Tryz.results29 (hF.at 0 rfl)) hF.dfr ?_
   refine⟨rv_int ?_,bel⟩
   unfold inD
   rw[if_neg hc1,if_pos hc2]
  ·refine E.opv hF (r_bin (hF.at 0 rfl) ev_c eg_scalar (bi_int (ic_gtr (c:=false) (dec_ff hc2)) (by simp))) rfl rfl rfl rfl fun a hF=>?_
   refine E.nil ?_
   refine wp_cond_false (hF.at 0 rfl) ?_
   refine wp_skip ?_
   refine E.norm ?_
   refine wp_seq ?_
   refine E.seq ?_
   refine E.opv hF (r_move (hF.at 4 rfl)) rfl rfl rfl rfl fun a hF=>?_
   refine E.opset (L':=[(2,.int .i64 (if 0≤n then n%6000001 else -(-n%6000001))),(16,.int .i64 (if 0≤n then n%6000001 else -(-n%6000001))),(12,.bool false),(11,.int .i64 (if 0≤n then n%6000001 else -(-n%6000001))),(7,.bool false),(6,.int .i64 (if 0≤n then n%6000001 else -(-n%6000001))),(3,.int .i64 (if 0≤n then n%6000001 else -(-n%6000001))),(5,.int .i64 (if 0≤n then n%6000001 else -(-n%6000001))),(4,.int .i64 n),(0,.int .i64 n)]) hF (r_assign (hF.at 0 rfl)) rfl rfl rfl rfl fun a hF=>?_
   refine E.nil ?_
   refine wp_ret ?_
   have bel:=st.bel
   refine bodyPost_ret (res_tmp Tryz.results29 (hF.at 0 rfl)) hF.dfr ?_
   refine⟨rv_int ?_,bel⟩
   unfold inD
   rw[if_neg hc1,if_neg hc2]
end Go.Proofs.YtpkhdajnppoinaaGreatDoor
