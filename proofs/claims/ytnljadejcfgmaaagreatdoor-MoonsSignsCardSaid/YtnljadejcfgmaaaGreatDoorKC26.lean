import Derived.Test.YtnljadejcfgmaaaGreatDoorKC19
import Derived.Test.YtnljadejcfgmaaaGreatDoorKC23
namespace Go.Proofs.YtnljadejcfgmaaaGreatDoor
open Go.RowKit
set_option maxRecDepth 100000
set_option linter.unusedVariables false
set_option maxHeartbeats 8000000
def cre:Rat:=((-714403429586:Int):Rat)
def mfr (q:Rat):Rat:=q-((q.floor:Int):Rat)
def mturn (t p:Rat):Rat:=(t-cre)/p
def mof (t p:Rat):Rat:=if p≤0 then 0 else mfr (mturn t p)*((360:Int):Rat)
def pyr:Rat:=((1577917828000:Int):Rat)/((4320000000:Int):Rat)
def pmo:Rat:=((1577917828:Int):Rat)/((57753336:Int):Rat)
def psy:Rat:=((1577917828:Int):Rat)/((53433336:Int):Rat)
def pay:Rat:=((1577917828000:Int):Rat)/((4319999613:Int):Rat)
def pam:Rat:=((1577917828:Int):Rat)/((57265137:Int):Rat)
theorem r360:((360:Int):Rat)=360:=rfl
theorem pyr_pos:0<pyr:=by decide+kernel
theorem pmo_pos:0<pmo:=by decide+kernel
theorem pay_pos:0<pay:=by decide+kernel
theorem pam_pos:0<pam:=by decide+kernel
theorem mfr_more (q:Rat) (n:Int):mfr (q+((n:Int):Rat))=mfr q:=by
 unfold mfr
 rw[Rat.floor_add_intCast,Rat.intCast_add]
 grind
theorem mfr_fl (q:Rat):mfr q=q+(((-q.floor:Int)):Rat):=by
 unfold mfr;rw[Rat.intCast_neg];grind
theorem mof_pos {t p:Rat} (h:0<p):mof t p=mfr (mturn t p)*((360:Int):Rat):=by
 unfold mof;rw[if_neg (by grind)]
theorem mof_turns {t p:Rat} (h:0<p):mof t p=((360:Int):Rat)*mturn t p+((360:Int):Rat)*(((-(mturn t p).floor :Int)):Rat):=by
 rw[mof_pos h,mfr_fl];grind
theorem rmod_id {x m:Rat} (h0:0≤x) (h1:x<m):rmod x m=x:=by
 have:=rinto_id (x:=x) (a:=0) (b:=m) (by grind) h1
 unfold rinto at this
 rw[if_neg (by grind),show x-0=x by grind,show m-0=m by grind] at this
 grind
theorem rmod_fl {x m:Rat} (h:0<m):rmod x m=x+m*(((-(x/m).floor :Int)):Rat):=by
 unfold rmod
 rw[if_neg (by grind),Rat.intCast_neg];grind
theorem rmod_add {x y m:Rat} (h:0<m):rmod (rmod x m+y) m=rmod (x+y) m:=by
 rw[rmod_fl (x:=x) h,show x+m*(((-(x/m).floor :Int)):Rat)+y=(x+y)+m*(((-(x/m).floor :Int)):Rat) by grind,rmod_more _ h]
theorem rmod_sub {x y m:Rat} (h:0<m):rmod (x-rmod y m) m=rmod (x-y) m:=by
 rw[rmod_fl (x:=y) h,show x-(y+m*(((-(y/m).floor :Int)):Rat))=(x-y)+m*((((y/m).floor :Int)):Rat) by rw[Rat.intCast_neg];grind,rmod_more _ h]
theorem c360_pos:(0:Rat)<((360:Int):Rat):=by decide+kernel
theorem mfr_mk (q:Rat):mfr q=mkRat (q.num%(q.den:Int)) q.den:=by
 have hm:q.num-q.floor*(q.den:Int)=q.num%(q.den:Int):=by
  rw[Rat.floor_def]
  have:=Int.mul_ediv_add_emod q.num (q.den:Int)
  rw[Int.mul_comm] at this
  omega
 unfold mfr
 rw[←hm,Rat.mkRat_eq_div,Rat.intCast_sub,Rat.intCast_mul,Rat.intCast_natCast]
 have h:(q.den:Rat)≠0:=by
  intro e
  have:=Rat.natCast_pos.2 q.den_pos
  grind
 have e:(q.num:Rat)=q*(q.den:Rat):=by
  have h1:q=(q.num:Rat)/(q.den:Rat):=by rw[←Rat.mkRat_eq_div,Rat.mkRat_self]
  have:q*(q.den:Rat)=(q.num:Rat)/(q.den:Rat)*(q.den:Rat):=by rw[←h1]
  rw[this,Rat.div_mul_cancel h]
 rw[e]
 grind
theorem mfr_lim {q:Rat} {k:Nat} (h:RLim q k):RLim (mfr q) k:=by
 rw[mfr_mk]
 have h2:q.den<B32^k:=h.2
 have hd:=q.den_pos
 refine rlim_mk (show _<B32^k from ?_) h.2 (by omega)
 have h0:=Int.emod_nonneg q.num (b:=(q.den:Int)) (by omega)
 have h1:=Int.emod_lt_of_pos q.num (b:=(q.den:Int)) (by omega)
 omega
theorem lim64w {n:Int} (h0: -9223372036854775808≤n) (h1:n≤9223372036854775807):RLim ((n:Int):Rat) 2:=rlim_int (limz_64 h0 h1) (by decide)
theorem lim64d {n d:Int} (h0: -9223372036854775808≤n) (h1:n≤9223372036854775807) (g0: -9223372036854775808≤d) (g1:d≤9223372036854775807):RLim (((n:Int):Rat)/((d:Int):Rat)) 2:=(rlim_mk2 (limz_64 h0 h1) (limz_64 g0 g1)).up 2 (by decide)
theorem cre_lim:RLim cre 2:=lim64w (by decide) (by decide)
theorem pyr_lim:RLim pyr 2:=lim64d (by decide) (by decide) (by decide) (by decide)
theorem pmo_lim:RLim pmo 2:=lim64d (by decide) (by decide) (by decide) (by decide)
theorem pay_lim:RLim pay 2:=lim64d (by decide) (by decide) (by decide) (by decide)
theorem pam_lim:RLim pam 2:=lim64d (by decide) (by decide) (by decide) (by decide)
theorem mturn_lim {t p:Rat} {k j:Nat} (h:RLim t k) (hp:RLim p j):RLim (mturn t p) (k+j+3):=(rlim_div (rlim_sub h cre_lim) hp).up _ (by omega)
theorem mof_lim {t p:Rat} {k j:Nat} (h:RLim t k) (hp:RLim p j):RLim (mof t p) (k+j+5):=by
 unfold mof
 split
 ·exact rlim_zero (by omega)
 ·exact(rlim_mul (mfr_lim (mturn_lim h hp)) (lim64w (n:=360) (by decide) (by decide))).up _ (by omega)
theorem rmod360_lim {q:Rat} {k:Nat} (h:RLim q k):RLim (rmod q ((360:Int):Rat)) (k+4):=by
 have e:rmod q ((360:Int):Rat)=((360:Int):Rat)*mfr (q/((360:Int):Rat)):=by
  rw[rmod_fl c360_pos,mfr_fl,r360];grind
 rw[e]
 have l:RLim ((360:Int):Rat) 2:=lim64w (by decide) (by decide)
 exact(rlim_mul l (mfr_lim (rlim_div h l))).up _ (by omega)
theorem qAdd {v1 v2:Value} {p1 p2:Rat} {k1 k2:Nat} {w:World} (x1:Rl p1 k1 w v1) (x2:Rl p2 k2 w v2) (a1:k1≤100000:=by omega) (a2:k2≤100000:=by omega):Calls Tryz.prog 56 #[v1,v2] w (Ret (kq ((p1)+(p2)) ((k1+k2+1))) w):=rq_ret (rAdd_any _ _ (p1) (p2) (max k1 k2) _ x1.1 x2.1 (x1.2.up _ (by omega)) (x2.2.up _ (by omega)) (by omega)) (rlim_add x1.2 x2.2)
theorem qSub {v1 v2:Value} {p1 p2:Rat} {k1 k2:Nat} {w:World} (x1:Rl p1 k1 w v1) (x2:Rl p2 k2 w v2) (a1:k1≤100000:=by omega) (a2:k2≤100000:=by omega):Calls Tryz.prog 57 #[v1,v2] w (Ret (kq ((p1)-(p2)) ((k1+k2+1))) w):=rq_ret (rSub_any _ _ (p1) (p2) (max k1 k2) _ x1.1 x2.1 (x1.2.up _ (by omega)) (x2.2.up _ (by omega)) (by omega)) (rlim_sub x1.2 x2.2)
theorem qMul {v1 v2:Value} {p1 p2:Rat} {k1 k2:Nat} {w:World} (x1:Rl p1 k1 w v1) (x2:Rl p2 k2 w v2) (a1:k1≤100000:=by omega) (a2:k2≤100000:=by omega):Calls Tryz.prog 58 #[v1,v2] w (Ret (kq ((p1)*(p2)) ((k1+k2))) w):=rq_ret (rMul_any _ _ (p1) (p2) (max k1 k2) _ x1.1 x2.1 (x1.2.up _ (by omega)) (x2.2.up _ (by omega)) (by omega)) (rlim_mul x1.2 x2.2)
theorem qDiv {v1 v2:Value} {p1 p2:Rat} {k1 k2:Nat} {w:World} (x1:Rl p1 k1 w v1) (x2:Rl p2 k2 w v2) (a1:k1≤100000:=by omega) (a2:k2≤100000:=by omega):Calls Tryz.prog 75 #[v1,v2] w (Ret (kq ((p1)/(p2)) ((k1+k2))) w):=rq_ret (rDiv_any _ _ (p1) (p2) (max k1 k2) _ x1.1 x2.1 (x1.2.up _ (by omega)) (x2.2.up _ (by omega)) (by omega)) (rlim_div x1.2 x2.2)
theorem qOpp {v1:Value} {p1:Rat} {k1:Nat} {w:World} (x1:Rl p1 k1 w v1):Calls Tryz.prog 121 #[v1] w (Ret (kq (-(p1)) (k1)) w):=rq_ret (rOpp_any _ (p1) _ x1.1) (rlim_neg x1.2)
theorem qAbs {v1:Value} {p1:Rat} {k1:Nat} {w:World} (x1:Rl p1 k1 w v1):Calls Tryz.prog 224 #[v1] w (Ret (kq (Rat.abs (p1)) (k1)) w):=rq_ret (rAbs_any _ (p1) _ x1.1) (rlim_abs x1.2)
theorem qFrac {v1:Value} {p1:Rat} {k1:Nat} {w:World} (x1:Rl p1 k1 w v1) (a1:k1≤10000:=by omega):Calls Tryz.prog 221 #[v1] w (Ret (kq ((p1)-((Rat.floor (p1):Int):Rat)) ((k1+k1+3))) w):=rq_ret (cFrac_any _ (p1) k1 _ x1.1 x1.2 (by omega)) (frac_lim x1.2)
theorem qMod {v1 v2:Value} {p1 p2:Rat} {k1 k2:Nat} {w:World} (x1:Rl p1 k1 w v1) (x2:Rl p2 k2 w v2) (a1:k1≤1000:=by omega) (a2:k2≤1000:=by omega):Calls Tryz.prog 220 #[v1,v2] w (Ret (kq (rmod (p1) (p2)) ((k1+k1+k2+k2+3))) w):=rq_ret (cMod_any _ _ (p1) (p2) k1 k2 _ x1.1 x2.1 x1.2 x2.2 (by omega) (by omega)) (rmod_lim (k:=k1) (j:=k2) x1.2 x2.2)
theorem qMod3 {v1 v2:Value} {p1:Rat} {k1 k2:Nat} {w:World} (x1:Rl p1 k1 w v1) (x2:Rl ((360:Int):Rat) k2 w v2) (a1:k1≤1000:=by omega) (a2:k2≤1000:=by omega):Calls Tryz.prog 220 #[v1,v2] w (Ret (kq (rmod p1 ((360:Int):Rat)) (k1+4)) w):=rq_ret (cMod_any _ _ _ _ k1 k2 _ x1.1 x2.1 x1.2 x2.2 a1 a2) (rmod360_lim x1.2)
theorem mYear_any (w:World):
 Calls Tryz.prog 76 #[] w (RqPost w pyr):=by
 have st:=St.start w
 refine E.enter (nt:=2) (L:=[]) Tryz.func76 rfl rfl rfl args_nil ?_
 intro a hF
 refine wp_seq ?_
 refine E.seq ?_
 refine S.alloc st hF ty_Rat rfl rfl fun g0 w1 a st hF=>?_
 refine E.nil ?_
 refine wp_seq ?_
 refine E.seq ?_
 refine S.ck st hF (rgc k35 (map2 ev_c ev_c)) (rq_ret (rOf2_any (1577917828000) (4320000000) _ (by decide) (by decide) (by decide) (by decide)) (RLim.up (rlim_mk2 (limz_64 (by decide) (by decide)) (limz_64 (by decide) (by decide))) 2 (by decide))) Rl.cl rfl fun vv3 w2 a st hF=>?_
 obtain⟨b5,ad5,n5,c5,ae5,m5,d5,rfl⟩:=Rq.form (st.f 0 rfl).1
 refine S.sto st hF 0 rfl (hF.at 1 rfl) (hF.at 0 rfl) ty_Rat rfl rfl rfl rfl fun w6 a st hF=>?_
 refine E.nil ?_
 refine wp_ret ?_
 refine S.ret Tryz.results76 st hF (hF.at 1 rfl) 0 rfl ty_Rat rfl hF.dfr ?_
 have bel:=st.bel
 exact⟨_,rfl,(st.f 0 rfl).1,bel⟩
theorem mMonth_any (w:World):
 Calls Tryz.prog 252 #[] w (RqPost w pmo):=by
 have st:=St.start w
 refine E.enter (nt:=2) (L:=[]) Tryz.func252 rfl rfl rfl args_nil ?_
 intro a hF
 refine wp_seq ?_
 refine E.seq ?_
 refine S.alloc st hF ty_Rat rfl rfl fun g0 w1 a st hF=>?_
 refine E.nil ?_
 refine wp_seq ?_
 refine E.seq ?_
 refine S.ck st hF (rgc k35 (map2 ev_c ev_c)) (rq_ret (rOf2_any (1577917828) (57753336) _ (by decide) (by decide) (by decide) (by decide)) (RLim.up (rlim_mk2 (limz_64 (by decide) (by decide)) (limz_64 (by decide) (by decide))) 2 (by decide))) Rl.cl rfl fun vv3 w2 a st hF=>?_
 obtain⟨b5,ad5,n5,c5,ae5,m5,d5,rfl⟩:=Rq.form (st.f 0 rfl).1
 refine S.sto st hF 0 rfl (hF.at 1 rfl) (hF.at 0 rfl) ty_Rat rfl rfl rfl rfl fun w6 a st hF=>?_
 refine E.nil ?_
 refine wp_ret ?_
 refine S.ret Tryz.results252 st hF (hF.at 1 rfl) 0 rfl ty_Rat rfl hF.dfr ?_
 have bel:=st.bel
 exact⟨_,rfl,(st.f 0 rfl).1,bel⟩
theorem mAnomalyYear_any (w:World):
 Calls Tryz.prog 184 #[] w (RqPost w pay):=by
 have st:=St.start w
 refine E.enter (nt:=2) (L:=[]) Tryz.func184 rfl rfl rfl args_nil ?_
 intro a hF
 refine wp_seq ?_
 refine E.seq ?_
 refine S.alloc st hF ty_Rat rfl rfl fun g0 w1 a st hF=>?_
 refine E.nil ?_
 refine wp_seq ?_
 refine E.seq ?_
 refine S.ck st hF (rgc k35 (map2 ev_c ev_c)) (rq_ret (rOf2_any (1577917828000) (4319999613) _ (by decide) (by decide) (by decide) (by decide)) (RLim.up (rlim_mk2 (limz_64 (by decide) (by decide)) (limz_64 (by decide) (by decide))) 2 (by decide))) Rl.cl rfl fun vv3 w2 a st hF=>?_
 obtain⟨b5,ad5,n5,c5,ae5,m5,d5,rfl⟩:=Rq.form (st.f 0 rfl).1
 refine S.sto st hF 0 rfl (hF.at 1 rfl) (hF.at 0 rfl) ty_Rat rfl rfl rfl rfl fun w6 a st hF=>?_
 refine E.nil ?_
 refine wp_ret ?_
 refine S.ret Tryz.results184 st hF (hF.at 1 rfl) 0 rfl ty_Rat rfl hF.dfr ?_
 have bel:=st.bel
 exact⟨_,rfl,(st.f 0 rfl).1,bel⟩
theorem mAnomalyMonth_any (w:World):
 Calls Tryz.prog 253 #[] w (RqPost w pam):=by
 have st:=St.start w
 refine E.enter (nt:=2) (L:=[]) Tryz.func253 rfl rfl rfl args_nil ?_
 intro a hF
 refine wp_seq ?_
 refine E.seq ?_
 refine S.alloc st hF ty_Rat rfl rfl fun g0 w1 a st hF=>?_
 refine E.nil ?_
 refine wp_seq ?_
 refine E.seq ?_
 refine S.ck st hF (rgc k35 (map2 ev_c ev_c)) (rq_ret (rOf2_any (1577917828) (57265137) _ (by decide) (by decide) (by decide) (by decide)) (RLim.up (rlim_mk2 (limz_64 (by decide) (by decide)) (limz_64 (by decide) (by decide))) 2 (by decide))) Rl.cl rfl fun vv3 w2 a st hF=>?_
 obtain⟨b5,ad5,n5,c5,ae5,m5,d5,rfl⟩:=Rq.form (st.f 0 rfl).1
 refine S.sto st hF 0 rfl (hF.at 1 rfl) (hF.at 0 rfl) ty_Rat rfl rfl rfl rfl fun w6 a st hF=>?_
 refine E.nil ?_
 refine wp_ret ?_
 refine S.ret Tryz.results253 st hF (hF.at 1 rfl) 0 rfl ty_Rat rfl hF.dfr ?_
 have bel:=st.bel
 exact⟨_,rfl,(st.f 0 rfl).1,bel⟩
theorem mCreation_any (w:World):
 Calls Tryz.prog 243 #[] w (RqPost w cre):=by
 have st:=St.start w
 refine E.enter (nt:=2) (L:=[]) Tryz.func243 rfl rfl rfl args_nil ?_
 intro a hF
 refine wp_seq ?_
 refine E.seq ?_
 refine S.alloc st hF ty_Rat rfl rfl fun g0 w1 a st hF=>?_
 refine E.nil ?_
 refine wp_seq ?_
 refine E.seq ?_
 refine S.ck st hF (rgc k40 (map1 ev_c)) (rq_ret (rWhole_any ((-714403429586)) _ (by decide) (by decide)) (rlim_int (limz_64 (by decide) (by decide)) (by omega))) Rl.cl rfl fun vv3 w2 a st hF=>?_
 obtain⟨b5,ad5,n5,c5,ae5,m5,d5,rfl⟩:=Rq.form (st.f 0 rfl).1
 refine S.sto st hF 0 rfl (hF.at 1 rfl) (hF.at 0 rfl) ty_Rat rfl rfl rfl rfl fun w6 a st hF=>?_
 refine E.nil ?_
 refine wp_ret ?_
 refine S.ret Tryz.results243 st hF (hF.at 1 rfl) 0 rfl ty_Rat rfl hF.dfr ?_
 have bel:=st.bel
 exact⟨_,rfl,(st.f 0 rfl).1,bel⟩
theorem mTurns_any (v1 v2:Value) (qt qp:Rat) (k j:Nat) (w:World) (h1:Rq w v1 qt) (h2:Rq w v2 qp) (hl:RLim qt k) (hm:RLim qp j) (hk:k≤400) (hj:j≤400):
 Calls Tryz.prog 222 #[v1,v2] w (RqPost w (mturn qt qp)):=by
 have st:=St.start w
 refine E.enter (nt:=10) (L:=[(0,v1),(1,v2)]) Tryz.func222 rfl rfl rfl (args_cons (i:=0) rfl (args_cons (i:=1) rfl args_nil)) ?_
 intro a hF
 refine wp_seq ?_
 refine E.seq ?_
 obtain⟨b2,ad2,n2,c2,ae2,m2,d2,rfl⟩:=Rq.form h1
 refine S.box st hF (hF.at 0 rfl) rfl rfl fun g2 w1 a st hF=>?_
 obtain⟨b4,ad4,n4,c4,ae4,m4,d4,rfl⟩:=Rq.form h2
 refine S.box st hF (hF.at 2 rfl) rfl rfl fun g3 w3 a st hF=>?_
 refine S.alloc st hF ty_Rat rfl rfl fun g4 w5 a st hF=>?_
 refine E.nil ?_
 refine wp_seq ?_
 refine E.rg 5 mixed hF [5,6,7,8,9] [_,_,_,_,_] (by decide+kernel) rfl rfl rfl ⟨rb st ty_Rat 2 2 rfl,ck st k243 rfl fun _ s=>rq_ret (mCreation_any _) cre_lim,ck st k57 rfl fun _ s _ x6=>qSub ⟨(h1.below s.bel),hl⟩ x6,rb st ty_Rat 1 1 rfl,ck st k75 rfl fun _ s _ x7=>qDiv x7 ⟨(h2.below s.bel),hm⟩,trivial⟩ ?_
 intro a w6 hF bb hall
 replace st:=st.to bb
 obtain⟨vv7,hF,st⟩:=rS hall hF st 4 rfl rfl Rl.cl
 obtain⟨b9,ad9,n9,c9,ae9,m9,d9,rfl⟩:=Rq.form (st.f 0 rfl).1
 clear hall bb
 refine S.sto st hF 0 rfl (hF.at 1 rfl) (hF.at 0 rfl) ty_Rat rfl rfl rfl rfl fun w10 a st hF=>?_
 refine E.nil ?_
 refine wp_ret ?_
 refine S.ret Tryz.results222 st hF (hF.at 1 rfl) 0 rfl ty_Rat rfl hF.dfr ?_
 have bel:=st.bel
 exact⟨_,rfl,(st.f 0 rfl).1,bel⟩
theorem mof_no {t p:Rat} (h:sz p.num≤0):(0:Rat)=mof t p:=by unfold mof;rw[if_pos (sz_le0.1 h)]
theorem mof_yes {t p:Rat} (h:¬sz p.num≤0):(mturn t p-(((mturn t p).floor :Int):Rat))*((360:Int):Rat)=mof t p:=by unfold mof mfr;rw[if_neg (fun e=>h (sz_le0.2 e))]
theorem mOf_any (v1 v2:Value) (qt qp:Rat) (k j:Nat) (w:World) (h1:Rq w v1 qt) (h2:Rq w v2 qp) (hl:RLim qt k) (hm:RLim qp j) (hk:k≤400) (hj:j≤400):
 Calls Tryz.prog 186 #[v1,v2] w (RqPost w (mof qt qp)):=by
 by_cases h0:sz (Rat.num (qp))≤0
 ·have st:=St.start w
  refine E.enter (nt:=15) (L:=[(0,v1),(1,v2)]) Tryz.func186 rfl rfl rfl (args_cons (i:=0) rfl (args_cons (i:=1) rfl args_nil)) ?_
  intro a hF
  refine wp_seq ?_
  refine E.seq ?_
  obtain⟨b2,ad2,n2,c2,ae2,m2,d2,rfl⟩:=Rq.form h1
  refine S.box st hF (hF.at 0 rfl) rfl rfl fun g2 w1 a st hF=>?_
  obtain⟨b4,ad4,n4,c4,ae4,m4,d4,rfl⟩:=Rq.form h2
  refine S.box st hF (hF.at 2 rfl) rfl rfl fun g3 w3 a st hF=>?_
  refine S.alloc st hF ty_Rat rfl rfl fun g4 w5 a st hF=>?_
  refine E.nil ?_
  refine wp_seq ?_
  refine wp_seq ?_
  refine E.seq ?_
  refine E.opv hF (r_load (hF.at 1 rfl) (ld_all ty_Rat (st.bk 1 rfl) rfl)) rfl rfl rfl rfl fun a hF=>?_
  refine S.callx st hF (rgc k141 (map1 (hF.at 0 rfl))) (rsgn_any _ (qp) _ (h2.below st.bel)) rfl rfl rfl rfl fun w6 a st hF=>?_
  refine E.opv hF (r_bin (hF.at 0 rfl) ev_c eg_scalar (bi_int (ic_leq (c:=true) (dec_tt h0)) (by simp))) rfl rfl rfl rfl fun a hF=>?_
  refine E.nil ?_
  refine wp_cond_true (hF.at 0 rfl) ?_
  refine wp_seq ?_
  refine E.seq ?_
  refine E.opv hF (r_build (by simp) (bd_Rat_ _)) rfl rfl rfl rfl fun a hF=>?_
  refine S.sto st hF 0 rfl (hF.at 4 rfl) (hF.at 0 rfl) ty_Rat rfl rfl rfl rfl fun w7 a st hF=>?_
  refine E.nil ?_
  refine wp_ret ?_
  refine S.ret Tryz.results186 st hF (hF.at 4 rfl) 0 rfl ty_Rat rfl hF.dfr ?_
  have bel:=st.bel
  exact⟨_,rfl,Rq.castM (Rq.zero _) (mof_no h0),bel⟩
 ·have st:=St.start w
  refine E.enter (nt:=15) (L:=[(0,v1),(1,v2)]) Tryz.func186 rfl rfl rfl (args_cons (i:=0) rfl (args_cons (i:=1) rfl args_nil)) ?_
  intro a hF
  refine wp_seq ?_
  refine E.seq ?_
  obtain⟨b2,ad2,n2,c2,ae2,m2,d2,rfl⟩:=Rq.form h1
  refine S.box st hF (hF.at 0 rfl) rfl rfl fun g2 w1 a st hF=>?_
  obtain⟨b4,ad4,n4,c4,ae4,m4,d4,rfl⟩:=Rq.form h2
  refine S.box st hF (hF.at 2 rfl) rfl rfl fun g3 w3 a st hF=>?_
  refine S.alloc st hF ty_Rat rfl rfl fun g4 w5 a st hF=>?_
  refine E.nil ?_
  refine wp_seq ?_
  refine wp_seq ?_
  refine E.seq ?_
  refine E.opv hF (r_load (hF.at 1 rfl) (ld_all ty_Rat (st.bk 1 rfl) rfl)) rfl rfl rfl rfl fun a hF=>?_
  refine S.callx st hF (rgc k141 (map1 (hF.at 0 rfl))) (rsgn_any _ (qp) _ (h2.below st.bel)) rfl rfl rfl rfl fun w6 a st hF=>?_
  refine E.opv hF (r_bin (hF.at 0 rfl) ev_c eg_scalar (bi_int (ic_leq (c:=false) (dec_ff h0)) (by simp))) rfl rfl rfl rfl fun a hF=>?_
  refine E.nil ?_
  refine wp_cond_false (hF.at 0 rfl) ?_
  refine wp_skip ?_
  refine E.norm ?_
  refine wp_seq ?_
  refine E.seq ?_
  refine E.opv hF (r_load (hF.at 5 rfl) (ld_all ty_Rat (st.bk 2 rfl) rfl)) rfl rfl rfl rfl fun a hF=>?_
  refine E.opv hF (r_load (hF.at 5 rfl) (ld_all ty_Rat (st.bk 1 rfl) rfl)) rfl rfl rfl rfl fun a hF=>?_
  refine S.ck st hF (rgc k222 (map2 (hF.at 1 rfl) (hF.at 0 rfl))) (rq_ret (mTurns_any _ _ (qt) (qp) k j _ (h1.below st.bel) (h2.below st.bel) hl hm (by omega) (by omega)) (mturn_lim hl hm)) Rl.cl rfl fun vv8 w7 a st hF=>?_
  obtain⟨b10,ad10,n10,c10,ae10,m10,d10,rfl⟩:=Rq.form (st.f 0 rfl).1
  refine S.ck st hF (rgc k221 (map1 (hF.at 0 rfl))) (qFrac (st.f 0 rfl)) Rl.cl rfl fun vv12 w11 a st hF=>?_
  obtain⟨b14,ad14,n14,c14,ae14,m14,d14,rfl⟩:=Rq.form (st.f 0 rfl).1
  refine S.ck st hF (rgc k40 (map1 ev_c)) (rq_ret (rWhole_any (360) _ (by decide) (by decide)) (rlim_int (limz_64 (by decide) (by decide)) (by omega))) Rl.cl rfl fun vv16 w15 a st hF=>?_
  obtain⟨b18,ad18,n18,c18,ae18,m18,d18,rfl⟩:=Rq.form (st.f 0 rfl).1
  refine S.ck st hF (rgc k58 (map2 (hF.at 1 rfl) (hF.at 0 rfl))) (qMul (st.f 1 rfl) (st.f 0 rfl)) Rl.cl rfl fun vv20 w19 a st hF=>?_
  obtain⟨b22,ad22,n22,c22,ae22,m22,d22,rfl⟩:=Rq.form (st.f 0 rfl).1
  refine S.sto st hF 0 rfl (hF.at 9 rfl) (hF.at 0 rfl) ty_Rat rfl rfl rfl rfl fun w23 a st hF=>?_
  refine E.nil ?_
  refine wp_ret ?_
  refine S.ret Tryz.results186 st hF (hF.at 9 rfl) 0 rfl ty_Rat rfl hF.dfr ?_
  have bel:=st.bel
  exact⟨_,rfl,Rq.castM (st.f 0 rfl).1 (mof_yes h0),bel⟩
theorem qmYearM {w:World}:Calls Tryz.prog 76 #[] w (Ret (kq (pyr) (2)) w):=rq_ret (mYear_any _) pyr_lim
theorem qmMonthM {w:World}:Calls Tryz.prog 252 #[] w (Ret (kq (pmo) (2)) w):=rq_ret (mMonth_any _) pmo_lim
theorem qmAnomalyYearM {w:World}:Calls Tryz.prog 184 #[] w (Ret (kq (pay) (2)) w):=rq_ret (mAnomalyYear_any _) pay_lim
theorem qmAnomalyMonthM {w:World}:Calls Tryz.prog 253 #[] w (Ret (kq (pam) (2)) w):=rq_ret (mAnomalyMonth_any _) pam_lim
theorem qmOfM {v1 v2:Value} {p1 p2:Rat} {k1 k2:Nat} {w:World} (x1:Rl p1 k1 w v1) (x2:Rl p2 k2 w v2) (a1:k1≤400:=by omega) (a2:k2≤400:=by omega):Calls Tryz.prog 186 #[v1,v2] w (Ret (kq (mof (p1) (p2)) ((k1+k2+5))) w):=rq_ret (mOf_any _ _ (p1) (p2) k1 k2 _ x1.1 x2.1 x1.2 x2.2 (by omega) (by omega)) (mof_lim x1.2 x2.2)
end Go.Proofs.YtnljadejcfgmaaaGreatDoor
