import Derived.Test.YtnljadejcfgmaaaGreatDoorKA24
import Derived.Test.YtnljadejcfgmaaaGreatDoorKA25
namespace Go.Proofs.YtnljadejcfgmaaaGreatDoor
open Go.RowKit
set_option maxRecDepth 100000
set_option linter.unusedVariables false
set_option maxHeartbeats 8000000
def cre:Rat:=((-714403429586:Int):Rat)
def mfr (q:Rat):Rat:=q-((q.floor:Int):Rat)
def mturn (t p:Rat):Rat:=(t-cre)/p
def mof (t p:Rat):Rat:=if p≤0 then 0 else mfr (mturn t p)*((360:Int):Rat)
def pyr:Rat:=((1577917828000:Int):Rat)/((4320000000:Int):Rat)
def pay:Rat:=((1577917828000:Int):Rat)/((4319999613:Int):Rat)
theorem r360:((360:Int):Rat)=360:=rfl
theorem pyr_pos:0<pyr:=by decide+kernel
theorem pay_pos:0<pay:=by decide+kernel
theorem mfr_low (q:Rat):0≤mfr q:=by have:=fl_le q;unfold mfr;grind
theorem mfr_high (q:Rat):mfr q<1:=by have:=fl_lt q;unfold mfr;grind
theorem mfr_more (q:Rat) (n:Int):mfr (q+((n:Int):Rat))=mfr q:=by
 unfold mfr
 rw[Rat.floor_add_intCast,Rat.intCast_add]
 grind
theorem mfr_fl (q:Rat):mfr q=q+(((-q.floor:Int)):Rat):=by
 unfold mfr;rw[Rat.intCast_neg];grind
theorem mof_pos {t p:Rat} (h:0<p):mof t p=mfr (mturn t p)*((360:Int):Rat):=by
 unfold mof;rw[if_neg (by grind)]
theorem mof_low (t p:Rat):0≤mof t p:=by
 unfold mof
 split
 ·grind
 ·have:=mfr_low (mturn t p);rw[r360];grind
theorem mof_high (t p:Rat):mof t p<((360:Int):Rat):=by
 unfold mof
 split
 ·rw[r360];grind
 ·have:=mfr_high (mturn t p);rw[r360];grind
theorem mof_turns {t p:Rat} (h:0<p):mof t p=((360:Int):Rat)*mturn t p+((360:Int):Rat)*(((-(mturn t p).floor :Int)):Rat):=by
 rw[mof_pos h,mfr_fl];grind
theorem rmod_id {x m:Rat} (h0:0≤x) (h1:x<m):rmod x m=x:=by
 have:=rinto_id (x:=x) (a:=0) (b:=m) (by grind) h1
 unfold rinto at this
 rw[if_neg (by grind),show x-0=x by grind,show m-0=m by grind] at this
 grind
theorem rmod_fl {x m:Rat} (h:0<m):rmod x m=x+m*(((-(x/m).floor :Int)):Rat):=by
 unfold rmod
 rw[if_neg (by grind),Rat.intCast_neg];grind
theorem rmod_add {x y m:Rat} (h:0<m):rmod (rmod x m+y) m=rmod (x+y) m:=by
 rw[rmod_fl (x:=x) h,show x+m*(((-(x/m).floor :Int)):Rat)+y=(x+y)+m*(((-(x/m).floor :Int)):Rat) by grind,rmod_more _ h]
theorem rmod_sub {x y m:Rat} (h:0<m):rmod (x-rmod y m) m=rmod (x-y) m:=by
 rw[rmod_fl (x:=y) h,show x-(y+m*(((-(y/m).floor :Int)):Rat))=(x-y)+m*((((y/m).floor :Int)):Rat) by rw[Rat.intCast_neg];grind,rmod_more _ h]
theorem c360_pos:(0:Rat)<((360:Int):Rat):=by decide+kernel
theorem mfr_mk (q:Rat):mfr q=mkRat (q.num%(q.den:Int)) q.den:=by
 have hm:q.num-q.floor*(q.den:Int)=q.num%(q.den:Int):=by
  rw[Rat.floor_def]
  have:=Int.mul_ediv_add_emod q.num (q.den:Int)
  rw[Int.mul_comm] at this
  omega
 unfold mfr
 rw[←hm,Rat.mkRat_eq_div,Rat.intCast_sub,Rat.intCast_mul,Rat.intCast_natCast]
 have h:(q.den:Rat)≠0:=by
  intro e
  have:=Rat.natCast_pos.2 q.den_pos
  grind
 have e:(q.num:Rat)=q*(q.den:Rat):=by
  have h1:q=(q.num:Rat)/(q.den:Rat):=by rw[←Rat.mkRat_eq_div,Rat.mkRat_self]
  have:q*(q.den:Rat)=(q.num:Rat)/(q.den:Rat)*(q.den:Rat):=by rw[←h1]
  rw[this,Rat.div_mul_cancel h]
 rw[e]
 grind
theorem mfr_lim {q:Rat} {k:Nat} (h:RLim q k):RLim (mfr q) k:=by
 rw[mfr_mk]
 have h2:q.den<B32^k:=h.2
 have hd:=q.den_pos
 refine rlim_mk (show _<B32^k from ?_) h.2 (by omega)
 have h0:=Int.emod_nonneg q.num (b:=(q.den:Int)) (by omega)
 have h1:=Int.emod_lt_of_pos q.num (b:=(q.den:Int)) (by omega)
 omega
theorem lim64w {n:Int} (h0: -9223372036854775808≤n) (h1:n≤9223372036854775807):RLim ((n:Int):Rat) 2:=rlim_int (limz_64 h0 h1) (by decide)
theorem lim64d {n d:Int} (h0: -9223372036854775808≤n) (h1:n≤9223372036854775807) (g0: -9223372036854775808≤d) (g1:d≤9223372036854775807):RLim (((n:Int):Rat)/((d:Int):Rat)) 2:=(rlim_mk2 (limz_64 h0 h1) (limz_64 g0 g1)).up 2 (by decide)
theorem cre_lim:RLim cre 2:=lim64w (by decide) (by decide)
theorem pyr_lim:RLim pyr 2:=lim64d (by decide) (by decide) (by decide) (by decide)
theorem pay_lim:RLim pay 2:=lim64d (by decide) (by decide) (by decide) (by decide)
theorem mturn_lim {t p:Rat} {k j:Nat} (h:RLim t k) (hp:RLim p j):RLim (mturn t p) (k+j+3):=(rlim_div (rlim_sub h cre_lim) hp).up _ (by omega)
theorem mof_lim {t p:Rat} {k j:Nat} (h:RLim t k) (hp:RLim p j):RLim (mof t p) (k+j+5):=by
 unfold mof
 split
 ·exact rlim_zero (by omega)
 ·exact(rlim_mul (mfr_lim (mturn_lim h hp)) (lim64w (n:=360) (by decide) (by decide))).up _ (by omega)
theorem rmod360_lim {q:Rat} {k:Nat} (h:RLim q k):RLim (rmod q ((360:Int):Rat)) (k+4):=by
 have e:rmod q ((360:Int):Rat)=((360:Int):Rat)*mfr (q/((360:Int):Rat)):=by
  rw[rmod_fl c360_pos,mfr_fl,r360];grind
 rw[e]
 have l:RLim ((360:Int):Rat) 2:=lim64w (by decide) (by decide)
 exact(rlim_mul l (mfr_lim (rlim_div h l))).up _ (by omega)
theorem qAdd {v1 v2:Value} {p1 p2:Rat} {k1 k2:Nat} {w:World} (x1:Rl p1 k1 w v1) (x2:Rl p2 k2 w v2) (a1:k1≤100000:=by omega) (a2:k2≤100000:=by omega):Calls Tryz.prog 56 #[v1,v2] w (Ret (kq ((p1)+(p2)) ((k1+k2+1))) w):=rq_ret (rAdd_any _ _ (p1) (p2) (max k1 k2) _ x1.1 x2.1 (x1.2.up _ (by omega)) (x2.2.up _ (by omega)) (by omega)) (rlim_add x1.2 x2.2)
theorem qSub {v1 v2:Value} {p1 p2:Rat} {k1 k2:Nat} {w:World} (x1:Rl p1 k1 w v1) (x2:Rl p2 k2 w v2) (a1:k1≤100000:=by omega) (a2:k2≤100000:=by omega):Calls Tryz.prog 57 #[v1,v2] w (Ret (kq ((p1)-(p2)) ((k1+k2+1))) w):=rq_ret (rSub_any _ _ (p1) (p2) (max k1 k2) _ x1.1 x2.1 (x1.2.up _ (by omega)) (x2.2.up _ (by omega)) (by omega)) (rlim_sub x1.2 x2.2)
theorem qMul {v1 v2:Value} {p1 p2:Rat} {k1 k2:Nat} {w:World} (x1:Rl p1 k1 w v1) (x2:Rl p2 k2 w v2) (a1:k1≤100000:=by omega) (a2:k2≤100000:=by omega):Calls Tryz.prog 58 #[v1,v2] w (Ret (kq ((p1)*(p2)) ((k1+k2))) w):=rq_ret (rMul_any _ _ (p1) (p2) (max k1 k2) _ x1.1 x2.1 (x1.2.up _ (by omega)) (x2.2.up _ (by omega)) (by omega)) (rlim_mul x1.2 x2.2)
theorem qDiv {v1 v2:Value} {p1 p2:Rat} {k1 k2:Nat} {w:World} (x1:Rl p1 k1 w v1) (x2:Rl p2 k2 w v2) (a1:k1≤100000:=by omega) (a2:k2≤100000:=by omega):Calls Tryz.prog 75 #[v1,v2] w (Ret (kq ((p1)/(p2)) ((k1+k2))) w):=rq_ret (rDiv_any _ _ (p1) (p2) (max k1 k2) _ x1.1 x2.1 (x1.2.up _ (by omega)) (x2.2.up _ (by omega)) (by omega)) (rlim_div x1.2 x2.2)
theorem qOpp {v1:Value} {p1:Rat} {k1:Nat} {w:World} (x1:Rl p1 k1 w v1):Calls Tryz.prog 121 #[v1] w (Ret (kq (-(p1)) (k1)) w):=rq_ret (rOpp_any _ (p1) _ x1.1) (rlim_neg x1.2)
theorem qAbs {v1:Value} {p1:Rat} {k1:Nat} {w:World} (x1:Rl p1 k1 w v1):Calls Tryz.prog 224 #[v1] w (Ret (kq (Rat.abs (p1)) (k1)) w):=rq_ret (rAbs_any _ (p1) _ x1.1) (rlim_abs x1.2)
theorem qFrac {v1:Value} {p1:Rat} {k1:Nat} {w:World} (x1:Rl p1 k1 w v1) (a1:k1≤10000:=by omega):Calls Tryz.prog 221 #[v1] w (Ret (kq ((p1)-((Rat.floor (p1):Int):Rat)) ((k1+k1+3))) w):=rq_ret (cFrac_any _ (p1) k1 _ x1.1 x1.2 (by omega)) (frac_lim x1.2)
theorem qMod {v1 v2:Value} {p1 p2:Rat} {k1 k2:Nat} {w:World} (x1:Rl p1 k1 w v1) (x2:Rl p2 k2 w v2) (a1:k1≤1000:=by omega) (a2:k2≤1000:=by omega):Calls Tryz.prog 220 #[v1,v2] w (Ret (kq (rmod (p1) (p2)) ((k1+k1+k2+k2+3))) w):=rq_ret (cMod_any _ _ (p1) (p2) k1 k2 _ x1.1 x2.1 x1.2 x2.2 (by omega) (by omega)) (rmod_lim (k:=k1) (j:=k2) x1.2 x2.2)
theorem qInto {v1 v2 v3:Value} {p1 p2 p3:Rat} {k1 k2 k3:Nat} {w:World} (x1:Rl p1 k1 w v1) (x2:Rl p2 k2 w v2) (x3:Rl p3 k3 w v3) (a1:k1≤400:=by omega) (a2:k2≤400:=by omega) (a3:k3≤400:=by omega):Calls Tryz.prog 254 #[v1,v2,v3] w (Ret (kq (rinto (p1) (p2) (p3)) ((2*k1+5*k2+2*k3+8))) w):=rq_ret (cInto_any _ _ _ (p1) (p2) (p3) k1 k2 k3 _ x1.1 x2.1 x3.1 x1.2 x2.2 x3.2 (by omega) (by omega) (by omega)) (rinto_lim (k:=k1) (j:=k2) (i:=k3) x1.2 x2.2 x3.2)
theorem qMod3 {v1 v2:Value} {p1:Rat} {k1 k2:Nat} {w:World} (x1:Rl p1 k1 w v1) (x2:Rl ((360:Int):Rat) k2 w v2) (a1:k1≤1000:=by omega) (a2:k2≤1000:=by omega):Calls Tryz.prog 220 #[v1,v2] w (Ret (kq (rmod p1 ((360:Int):Rat)) (k1+4)) w):=rq_ret (cMod_any _ _ _ _ k1 k2 _ x1.1 x2.1 x1.2 x2.2 a1 a2) (rmod360_lim x1.2)
end Go.Proofs.YtnljadejcfgmaaaGreatDoor
