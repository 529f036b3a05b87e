import Derived.Test.YtnljadejcfgmaaaGreatDoorKC20
import Derived.Test.YtnljadejcfgmaaaGreatDoorKC22
namespace Go.Proofs.YtnljadejcfgmaaaGreatDoor
open Go.RowKit
set_option maxRecDepth 100000
set_option linter.unusedVariables false
set_option maxHeartbeats 8000000
theorem k143:CallOk Tryz.prog 143:=⟨_,Tryz.func143,by decide+kernel,by kernel_rfl⟩
theorem k187:CallOk Tryz.prog 187:=⟨_,Tryz.func187,by decide+kernel,by kernel_rfl⟩
theorem k224:CallOk Tryz.prog 224:=⟨_,Tryz.func224,by decide+kernel,by kernel_rfl⟩
theorem k56:CallOk Tryz.prog 56:=⟨_,Tryz.func56,by decide+kernel,by kernel_rfl⟩
theorem k30:CallOk Tryz.prog 30:=⟨_,Tryz.func30,by decide+kernel,by kernel_rfl⟩
theorem k75:CallOk Tryz.prog 75:=⟨_,Tryz.func75,by decide+kernel,by kernel_rfl⟩
theorem k58:CallOk Tryz.prog 58:=⟨_,Tryz.func58,by decide+kernel,by kernel_rfl⟩
theorem k121:CallOk Tryz.prog 121:=⟨_,Tryz.func121,by decide+kernel,by kernel_rfl⟩
theorem k141:CallOk Tryz.prog 141:=⟨_,Tryz.func141,by decide+kernel,by kernel_rfl⟩
theorem k57:CallOk Tryz.prog 57:=⟨_,Tryz.func57,by decide+kernel,by kernel_rfl⟩
theorem k89:CallOk Tryz.prog 89:=⟨_,Tryz.func89,by decide+kernel,by kernel_rfl⟩
theorem k221:CallOk Tryz.prog 221:=⟨_,Tryz.func221,by decide+kernel,by kernel_rfl⟩
theorem k220:CallOk Tryz.prog 220:=⟨_,Tryz.func220,by decide+kernel,by kernel_rfl⟩
theorem k247:CallOk Tryz.prog 247:=⟨_,Tryz.func247,by decide+kernel,by kernel_rfl⟩
theorem k245:CallOk Tryz.prog 245:=⟨_,Tryz.func245,by decide+kernel,by kernel_rfl⟩
theorem k14:CallOk Tryz.prog 14:=⟨_,Tryz.func14,by decide+kernel,by kernel_rfl⟩
theorem k148:CallOk Tryz.prog 148:=⟨_,Tryz.func148,by decide+kernel,by kernel_rfl⟩
theorem k191:CallOk Tryz.prog 191:=⟨_,Tryz.func191,by decide+kernel,by kernel_rfl⟩
theorem k62:CallOk Tryz.prog 62:=⟨_,Tryz.func62,by decide+kernel,by kernel_rfl⟩
theorem k196:CallOk Tryz.prog 196:=⟨_,Tryz.func196,by decide+kernel,by kernel_rfl⟩
theorem k81:CallOk Tryz.prog 81:=⟨_,Tryz.func81,by decide+kernel,by kernel_rfl⟩
theorem k63:CallOk Tryz.prog 63:=⟨_,Tryz.func63,by decide+kernel,by kernel_rfl⟩
theorem k38:CallOk Tryz.prog 38:=⟨_,Tryz.func38,by decide+kernel,by kernel_rfl⟩
theorem k145:CallOk Tryz.prog 145:=⟨_,Tryz.func145,by decide+kernel,by kernel_rfl⟩
theorem k193:CallOk Tryz.prog 193:=⟨_,Tryz.func193,by decide+kernel,by kernel_rfl⟩
theorem k80:CallOk Tryz.prog 80:=⟨_,Tryz.func80,by decide+kernel,by kernel_rfl⟩
theorem k125:CallOk Tryz.prog 125:=⟨_,Tryz.func125,by decide+kernel,by kernel_rfl⟩
theorem k84:CallOk Tryz.prog 84:=⟨_,Tryz.func84,by decide+kernel,by kernel_rfl⟩
theorem k149:CallOk Tryz.prog 149:=⟨_,Tryz.func149,by decide+kernel,by kernel_rfl⟩
theorem k124:CallOk Tryz.prog 124:=⟨_,Tryz.func124,by decide+kernel,by kernel_rfl⟩
theorem k227:CallOk Tryz.prog 227:=⟨_,Tryz.func227,by decide+kernel,by kernel_rfl⟩
theorem k192:CallOk Tryz.prog 192:=⟨_,Tryz.func192,by decide+kernel,by kernel_rfl⟩
theorem k189:CallOk Tryz.prog 189:=⟨_,Tryz.func189,by decide+kernel,by kernel_rfl⟩
theorem k226:CallOk Tryz.prog 226:=⟨_,Tryz.func226,by decide+kernel,by kernel_rfl⟩
theorem k228:CallOk Tryz.prog 228:=⟨_,Tryz.func228,by decide+kernel,by kernel_rfl⟩
theorem k230:CallOk Tryz.prog 230:=⟨_,Tryz.func230,by decide+kernel,by kernel_rfl⟩
theorem k233:CallOk Tryz.prog 233:=⟨_,Tryz.func233,by decide+kernel,by kernel_rfl⟩
theorem k147:CallOk Tryz.prog 147:=⟨_,Tryz.func147,by decide+kernel,by kernel_rfl⟩
theorem k229:CallOk Tryz.prog 229:=⟨_,Tryz.func229,by decide+kernel,by kernel_rfl⟩
theorem k232:CallOk Tryz.prog 232:=⟨_,Tryz.func232,by decide+kernel,by kernel_rfl⟩
theorem k190:CallOk Tryz.prog 190:=⟨_,Tryz.func190,by decide+kernel,by kernel_rfl⟩
theorem k82:CallOk Tryz.prog 82:=⟨_,Tryz.func82,by decide+kernel,by kernel_rfl⟩
theorem k146:CallOk Tryz.prog 146:=⟨_,Tryz.func146,by decide+kernel,by kernel_rfl⟩
theorem k197:CallOk Tryz.prog 197:=⟨_,Tryz.func197,by decide+kernel,by kernel_rfl⟩
theorem k85:CallOk Tryz.prog 85:=⟨_,Tryz.func85,by decide+kernel,by kernel_rfl⟩
theorem k158:CallOk Tryz.prog 158:=⟨_,Tryz.func158,by decide+kernel,by kernel_rfl⟩
theorem k83:CallOk Tryz.prog 83:=⟨_,Tryz.func83,by decide+kernel,by kernel_rfl⟩
theorem k159:CallOk Tryz.prog 159:=⟨_,Tryz.func159,by decide+kernel,by kernel_rfl⟩
theorem k157:CallOk Tryz.prog 157:=⟨_,Tryz.func157,by decide+kernel,by kernel_rfl⟩
theorem k253:CallOk Tryz.prog 253:=⟨_,Tryz.func253,by decide+kernel,by kernel_rfl⟩
theorem k184:CallOk Tryz.prog 184:=⟨_,Tryz.func184,by decide+kernel,by kernel_rfl⟩
theorem k243:CallOk Tryz.prog 243:=⟨_,Tryz.func243,by decide+kernel,by kernel_rfl⟩
theorem k252:CallOk Tryz.prog 252:=⟨_,Tryz.func252,by decide+kernel,by kernel_rfl⟩
theorem k186:CallOk Tryz.prog 186:=⟨_,Tryz.func186,by decide+kernel,by kernel_rfl⟩
theorem k222:CallOk Tryz.prog 222:=⟨_,Tryz.func222,by decide+kernel,by kernel_rfl⟩
theorem k76:CallOk Tryz.prog 76:=⟨_,Tryz.func76,by decide+kernel,by kernel_rfl⟩
theorem k194:CallOk Tryz.prog 194:=⟨_,Tryz.func194,by decide+kernel,by kernel_rfl⟩
theorem k231:CallOk Tryz.prog 231:=⟨_,Tryz.func231,by decide+kernel,by kernel_rfl⟩
theorem k153:CallOk Tryz.prog 153:=⟨_,Tryz.func153,by decide+kernel,by kernel_rfl⟩
theorem k31:CallOk Tryz.prog 31:=⟨_,Tryz.func31,by decide+kernel,by kernel_rfl⟩
theorem k78:CallOk Tryz.prog 78:=⟨_,Tryz.func78,by decide+kernel,by kernel_rfl⟩
theorem k142:CallOk Tryz.prog 142:=⟨_,Tryz.func142,by decide+kernel,by kernel_rfl⟩
theorem k185:CallOk Tryz.prog 185:=⟨_,Tryz.func185,by decide+kernel,by kernel_rfl⟩
theorem k96:CallOk Tryz.prog 96:=⟨_,Tryz.func96,by decide+kernel,by kernel_rfl⟩
theorem k35:CallOk Tryz.prog 35:=⟨_,Tryz.func35,by decide+kernel,by kernel_rfl⟩
theorem k40:CallOk Tryz.prog 40:=⟨_,Tryz.func40,by decide+kernel,by kernel_rfl⟩
theorem k161:CallOk Tryz.prog 161:=⟨_,Tryz.func161,by decide+kernel,by kernel_rfl⟩
theorem k41:CallOk Tryz.prog 41:=⟨_,Tryz.func41,by decide+kernel,by kernel_rfl⟩
theorem k107:CallOk Tryz.prog 107:=⟨_,Tryz.func107,by decide+kernel,by kernel_rfl⟩
theorem k108:CallOk Tryz.prog 108:=⟨_,Tryz.func108,by decide+kernel,by kernel_rfl⟩
theorem k110:CallOk Tryz.prog 110:=⟨_,Tryz.func110,by decide+kernel,by kernel_rfl⟩
theorem k111:CallOk Tryz.prog 111:=⟨_,Tryz.func111,by decide+kernel,by kernel_rfl⟩
theorem k152:CallOk Tryz.prog 152:=⟨_,Tryz.func152,by decide+kernel,by kernel_rfl⟩
theorem k225:CallOk Tryz.prog 225:=⟨_,Tryz.func225,by decide+kernel,by kernel_rfl⟩
theorem k223:CallOk Tryz.prog 223:=⟨_,Tryz.func223,by decide+kernel,by kernel_rfl⟩
theorem k244:CallOk Tryz.prog 244:=⟨_,Tryz.func244,by decide+kernel,by kernel_rfl⟩
theorem k246:CallOk Tryz.prog 246:=⟨_,Tryz.func246,by decide+kernel,by kernel_rfl⟩
theorem k248:CallOk Tryz.prog 248:=⟨_,Tryz.func248,by decide+kernel,by kernel_rfl⟩
theorem k42:CallOk Tryz.prog 42:=⟨_,Tryz.func42,by decide+kernel,by kernel_rfl⟩
theorem k43:CallOk Tryz.prog 43:=⟨_,Tryz.func43,by decide+kernel,by kernel_rfl⟩
theorem k98:CallOk Tryz.prog 98:=⟨_,Tryz.func98,by decide+kernel,by kernel_rfl⟩
theorem k33:CallOk Tryz.prog 33:=⟨_,Tryz.func33,by decide+kernel,by kernel_rfl⟩
theorem k36:CallOk Tryz.prog 36:=⟨_,Tryz.func36,by decide+kernel,by kernel_rfl⟩
theorem k103:CallOk Tryz.prog 103:=⟨_,Tryz.func103,by decide+kernel,by kernel_rfl⟩
theorem k195:CallOk Tryz.prog 195:=⟨_,Tryz.func195,by decide+kernel,by kernel_rfl⟩
theorem k155:CallOk Tryz.prog 155:=⟨_,Tryz.func155,by decide+kernel,by kernel_rfl⟩
theorem k37:CallOk Tryz.prog 37:=⟨_,Tryz.func37,by decide+kernel,by kernel_rfl⟩
theorem k102:CallOk Tryz.prog 102:=⟨_,Tryz.func102,by decide+kernel,by kernel_rfl⟩
theorem k156:CallOk Tryz.prog 156:=⟨_,Tryz.func156,by decide+kernel,by kernel_rfl⟩
theorem k34:CallOk Tryz.prog 34:=⟨_,Tryz.func34,by decide+kernel,by kernel_rfl⟩
theorem k44:CallOk Tryz.prog 44:=⟨_,Tryz.func44,by decide+kernel,by kernel_rfl⟩
theorem k39:CallOk Tryz.prog 39:=⟨_,Tryz.func39,by decide+kernel,by kernel_rfl⟩
theorem k48:CallOk Tryz.prog 48:=⟨_,Tryz.func48,by decide+kernel,by kernel_rfl⟩
theorem k47:CallOk Tryz.prog 47:=⟨_,Tryz.func47,by decide+kernel,by kernel_rfl⟩
theorem k99:CallOk Tryz.prog 99:=⟨_,Tryz.func99,by decide+kernel,by kernel_rfl⟩
theorem k46:CallOk Tryz.prog 46:=⟨_,Tryz.func46,by decide+kernel,by kernel_rfl⟩
theorem k109:CallOk Tryz.prog 109:=⟨_,Tryz.func109,by decide+kernel,by kernel_rfl⟩
theorem E.mid {P:Program} {x y:Code} {Q:Exit→Act→World→Prop} {a:Act} {w:World} {I:Act→World→Prop} (h1:x.wp P (Exit.then I Q) a w) (h2:∀a w,I a w→y.wp P Q a w):(Code.seq x y).wp P Q a w:=by
 refine wp_seq (wp_mono h1 ?_)
 intro e a w h
 cases e
 case normal=>exact h2 _ _ h
 all_goals exact h
def loV (s t:Int):Int:=if t=(s+2)%12 then((s+1)%12+1)%12+1 else 0
theorem en42:(Tryz.f42.name == "runtime.NumGoroutine")=false∧Tryz.f42.body.isNone=false:=⟨by decide+kernel,by kernel_rfl⟩
theorem moNumber_any (z0 z1 z2 z3:Int) (w:World) (h0:0≤z2) (h1:z2≤11):
 Calls Tryz.prog 98 #[.agg #[.int .i64 z0,.int .i64 z1,.int .i64 z2,.int .i64 z3]] w (ValPost w (.int .i64 ((z2+1)%12+1))):=by
 have st:=St.start w
 refine E.enter (nt:=8) (L:=[(0,.agg #[.int .i64 z0,.int .i64 z1,.int .i64 z2,.int .i64 z3])]) Tryz.func98 rfl rfl rfl (args_cons (i:=0) rfl args_nil) ?_
 intro a hF
 refine wp_seq ?_
 refine E.seq ?_
 refine S.box st hF (hF.at 0 rfl) rfl rfl fun g1 w1 a st hF=>?_
 refine E.opv hF (r_assign ev_c) rfl rfl rfl rfl fun a hF=>?_
 refine E.nil ?_
 refine wp_seq ?_
 refine E.seq ?_
 refine E.opv hF (r_field (hF.at 1 rfl) (fa_MMO_2 (p:=2) rfl)) rfl rfl rfl rfl fun a hF=>?_
 refine E.opv hF (r_load (hF.at 0 rfl) (ldb_int (v:= .int .i64 z2) (st.bk 0 rfl) rfl)) rfl rfl rfl rfl fun a hF=>?_
 refine E.opv hF (r_bin (hF.at 0 rfl) ev_c eg_scalar (ia_add (by omega) (by omega))) rfl rfl rfl rfl fun a hF=>?_
 refine E.opv hF (r_bin (hF.at 0 rfl) ev_c eg_scalar (id_remn (a:=z2+1) (b:=12) (by omega) (by omega))) rfl rfl rfl rfl fun a hF=>?_
 refine E.opv hF (r_bin (hF.at 0 rfl) ev_c eg_scalar (ia_add (by omega) (by omega))) rfl rfl rfl rfl fun a hF=>?_
 refine E.opset (L':=[(2,.int .i64 (((z2+1)%12)+1)),(7,.int .i64 (((z2+1)%12)+1)),(6,.int .i64 ((z2+1)%12)),(5,.int .i64 (z2+1)),(4,.int .i64 z2),(3,.pointer (some ⟨g1,2,none⟩)),(1,.pointer (some ⟨g1,0,none⟩)),(0,.agg #[.int .i64 z0,.int .i64 z1,.int .i64 z2,.int .i64 z3])]) hF (r_assign (hF.at 0 rfl)) rfl rfl rfl rfl fun a hF=>?_
 refine E.nil ?_
 refine wp_ret ?_
 have bel:=st.bel
 refine bodyPost_ret (res_tmp Tryz.results98 (hF.at 0 rfl)) hF.dfr ?_
 exact⟨rfl,bel⟩
theorem moLeap_any (z0 z1 z2 z3:Int) (w:World):
 Calls Tryz.prog 42 #[.agg #[.int .i64 z0,.int .i64 z1,.int .i64 z2,.int .i64 z3]] w (ValPost w (.bool (decide (z2=z3)))):=by
 have st:=St.start w
 refine E.enter (nt:=8) (L:=[(0,.agg #[.int .i64 z0,.int .i64 z1,.int .i64 z2,.int .i64 z3])]) Tryz.func42 rfl rfl rfl (args_cons (i:=0) rfl args_nil) ?_
 intro a hF
 refine wp_seq ?_
 refine E.seq ?_
 refine S.box st hF (hF.at 0 rfl) rfl rfl fun g1 w1 a st hF=>?_
 refine E.opv hF (r_assign ev_c) rfl rfl rfl rfl fun a hF=>?_
 refine E.nil ?_
 refine wp_seq ?_
 refine E.seq ?_
 refine E.opv hF (r_field (hF.at 1 rfl) (fa_MMO_2 (p:=2) rfl)) rfl rfl rfl rfl fun a hF=>?_
 refine E.opv hF (r_load (hF.at 0 rfl) (ldb_int (v:= .int .i64 z2) (st.bk 0 rfl) rfl)) rfl rfl rfl rfl fun a hF=>?_
 refine E.opv hF (r_field (hF.at 3 rfl) (fa_MMO_3 (p:=3) rfl)) rfl rfl rfl rfl fun a hF=>?_
 refine E.opv hF (r_load (hF.at 0 rfl) (ldb_int (v:= .int .i64 z3) (st.bk 0 rfl) rfl)) rfl rfl rfl rfl fun a hF=>?_
 refine E.opv hF (r_bin (hF.at 2 rfl) (hF.at 0 rfl) eg_scalar (bi_int (ic_eql (c:=decide (z2=z3)) rfl) (by simp))) rfl rfl rfl rfl fun a hF=>?_
 refine E.opset (L':=[(2,.bool (decide (z2=z3))),(7,.bool (decide (z2=z3))),(6,.int .i64 z3),(5,.pointer (some ⟨g1,3,none⟩)),(4,.int .i64 z2),(3,.pointer (some ⟨g1,2,none⟩)),(1,.pointer (some ⟨g1,0,none⟩)),(0,.agg #[.int .i64 z0,.int .i64 z1,.int .i64 z2,.int .i64 z3])]) hF (r_assign (hF.at 0 rfl)) rfl rfl rfl rfl fun a hF=>?_
 refine E.nil ?_
 refine wp_ret ?_
 have bel:=st.bel
 refine bodyPost_ret (res_tmp Tryz.results42 (hF.at 0 rfl)) hF.dfr ?_
 exact⟨rfl,bel⟩
theorem moLost_any (z0 z1 z2 z3:Int) (w:World) (h0:0≤z2) (h1:z2≤11):
 Calls Tryz.prog 43 #[.agg #[.int .i64 z0,.int .i64 z1,.int .i64 z2,.int .i64 z3]] w (ValPost w (.int .i64 (loV z2 z3))):=by
 have st:=St.start w
 refine E.enter (nt:=14) (L:=[(0,.agg #[.int .i64 z0,.int .i64 z1,.int .i64 z2,.int .i64 z3])]) Tryz.func43 rfl rfl rfl (args_cons (i:=0) rfl args_nil) ?_
 intro a hF
 refine wp_seq ?_
 refine E.seq ?_
 refine S.box st hF (hF.at 0 rfl) rfl rfl fun g1 w1 a st hF=>?_
 refine E.opv hF (r_assign ev_c) rfl rfl rfl rfl fun a hF=>?_
 refine E.nil ?_
 refine wp_seq ?_
 refine wp_seq ?_
 refine E.seq ?_
 refine E.opv hF (r_field (hF.at 1 rfl) (fa_MMO_3 (p:=3) rfl)) rfl rfl rfl rfl fun a hF=>?_
 refine E.opv hF (r_load (hF.at 0 rfl) (ldb_int (v:= .int .i64 z3) (st.bk 0 rfl) rfl)) rfl rfl rfl rfl fun a hF=>?_
 refine E.opv hF (r_field (hF.at 3 rfl) (fa_MMO_2 (p:=2) rfl)) rfl rfl rfl rfl fun a hF=>?_
 refine E.opv hF (r_load (hF.at 0 rfl) (ldb_int (v:= .int .i64 z2) (st.bk 0 rfl) rfl)) rfl rfl rfl rfl fun a hF=>?_
 refine E.opv hF (r_bin (hF.at 0 rfl) ev_c eg_scalar (ia_add (by omega) (by omega))) rfl rfl rfl rfl fun a hF=>?_
 refine E.opv hF (r_bin (hF.at 0 rfl) ev_c eg_scalar (id_remn (a:=z2+2) (b:=12) (by omega) (by omega))) rfl rfl rfl rfl fun a hF=>?_
 by_cases hc2:z3≠(z2+2)%12
 ·first
  |(exfalso;omega)
  |(refine E.opv hF (r_bin (hF.at 4 rfl) (hF.at 0 rfl) eg_scalar (bi_int (ic_neq (c:=true) (dec_tt hc2)) (by simp))) rfl rfl rfl rfl fun a hF=>?_
    refine E.nil ?_
    refine wp_cond_true (hF.at 0 rfl) ?_
    refine wp_seq ?_
    refine E.seq ?_
    refine E.opset (L':=[(2,.int .i64 0),(9,.bool true),(8,.int .i64 ((z2+2)%12)),(7,.int .i64 (z2+2)),(6,.int .i64 z2),(5,.pointer (some ⟨g1,2,none⟩)),(4,.int .i64 z3),(3,.pointer (some ⟨g1,3,none⟩)),(1,.pointer (some ⟨g1,0,none⟩)),(0,.agg #[.int .i64 z0,.int .i64 z1,.int .i64 z2,.int .i64 z3])]) hF (r_assign ev_c) rfl rfl rfl rfl fun a hF=>?_
    refine E.nil ?_
    refine wp_ret ?_
    have bel:=st.bel
    refine bodyPost_ret (res_tmp Tryz.results43 (hF.at 0 rfl)) hF.dfr ?_
    refine⟨rv_int ?_,bel⟩
    unfold loV
    rw[if_neg (by omega)])
 ·first
  |(exfalso;omega)
  |(refine E.opv hF (r_bin (hF.at 4 rfl) (hF.at 0 rfl) eg_scalar (bi_int (ic_neq (c:=false) (dec_ff hc2)) (by simp))) rfl rfl rfl rfl fun a hF=>?_
    refine E.nil ?_
    refine wp_cond_false (hF.at 0 rfl) ?_
    refine wp_skip ?_
    refine E.norm ?_
    refine wp_seq ?_
    refine E.seq ?_
    refine E.opv hF (r_load (hF.at 8 rfl) (ld_all ty_MMO (st.bk 0 rfl) rfl)) rfl rfl rfl rfl fun a hF=>?_
    refine S.callx st hF (rgc k98 (map1 (hF.at 0 rfl))) (moNumber_any z0 z1 z2 z3 _ (by omega) (by omega)) rfl rfl rfl rfl fun w3 a st hF=>?_
    refine E.opv hF (r_bin (hF.at 0 rfl) ev_c eg_scalar (id_remn (a:=(z2+1)%12+1) (b:=12) (by omega) (by omega))) rfl rfl rfl rfl fun a hF=>?_
    refine E.opv hF (r_bin (hF.at 0 rfl) ev_c eg_scalar (ia_add (by omega) (by omega))) rfl rfl rfl rfl fun a hF=>?_
    refine E.opset (L':=[(2,.int .i64 ((((z2+1)%12+1)%12)+1)),(13,.int .i64 ((((z2+1)%12+1)%12)+1)),(12,.int .i64 (((z2+1)%12+1)%12)),(11,.int .i64 ((z2+1)%12+1)),(10,.agg #[.int .i64 z0,.int .i64 z1,.int .i64 z2,.int .i64 z3]),(9,.bool false),(8,.int .i64 ((z2+2)%12)),(7,.int .i64 (z2+2)),(6,.int .i64 z2),(5,.pointer (some ⟨g1,2,none⟩)),(4,.int .i64 z3),(3,.pointer (some ⟨g1,3,none⟩)),(1,.pointer (some ⟨g1,0,none⟩)),(0,.agg #[.int .i64 z0,.int .i64 z1,.int .i64 z2,.int .i64 z3])]) hF (r_assign (hF.at 0 rfl)) rfl rfl rfl rfl fun a hF=>?_
    refine E.nil ?_
    refine wp_ret ?_
    have bel:=st.bel
    refine bodyPost_ret (res_tmp Tryz.results43 (hF.at 0 rfl)) hF.dfr ?_
    refine⟨rv_int ?_,bel⟩
    unfold loV
    rw[if_pos (by omega)])
end Go.Proofs.YtnljadejcfgmaaaGreatDoor
