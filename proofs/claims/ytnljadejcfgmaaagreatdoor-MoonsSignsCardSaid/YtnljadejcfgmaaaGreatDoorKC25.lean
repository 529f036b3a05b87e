import Derived.Test.YtnljadejcfgmaaaGreatDoorKC21
import Derived.Test.YtnljadejcfgmaaaGreatDoorKC23
namespace Go.Proofs.YtnljadejcfgmaaaGreatDoor
open Go.RowKit
set_option maxRecDepth 100000
set_option linter.unusedVariables false
set_option maxHeartbeats 8000000
def atR (lo hi:Rat) (k n:Int):Rat:=lo+(hi-lo)*(((k:Int):Rat)/((n:Int):Rat))
def hlv (p:Rat→Bool) (lo hi:Rat):Nat→Int
 |0=>0
 |n+1=>if p (atR lo hi (2*hlv p lo hi n+1) (2^(n+1)))=true then 2*hlv p lo hi n else 2*hlv p lo hi n+1
theorem two_pos (n:Nat):(0:Int)<2^n:=Int.pow_pos (by decide)
theorem two_succ (n:Nat):(2:Int)^(n+1)=2*2^n:=by rw[Int.pow_succ,Int.mul_comm]
theorem hlv_bd (p:Rat→Bool) (lo hi:Rat) (n:Nat):0≤hlv p lo hi n∧hlv p lo hi n<2^n:=by
 induction n with
 |zero=>exact⟨Int.le_refl _,by show(0:Int)<1;decide⟩
 |succ n ih=>
  have e:=two_succ n
  unfold hlv
  split <;> omega
theorem cast_ne {n:Int} (h:n≠0):((n:Int):Rat)≠0:=fun e=>h (Rat.intCast_inj.1 (by rw[e,Rat.intCast_zero]))
theorem frac_scale (k:Int) {n c:Int} (hn:n≠0) (hc:c≠0):((k*c:Int):Rat)/((n*c:Int):Rat)=((k:Int):Rat)/((n:Int):Rat):=by
 have h1:=cast_ne hn
 have h2:=cast_ne hc
 rw[Rat.intCast_mul,Rat.intCast_mul]
 generalize ((n:Int):Rat)=x at*
 generalize ((c:Int):Rat)=y at*
 generalize ((k:Int):Rat)=z at*
 grind
theorem atR_scale (lo hi:Rat) (k:Int) {n c:Int} (hn:n≠0) (hc:c≠0):atR lo hi (k*c) (n*c)=atR lo hi k n:=by unfold atR;rw[frac_scale k hn hc]
theorem atR_mid (lo hi:Rat) (k:Int) {n:Int} (hn:n≠0):(atR lo hi k n+atR lo hi (k+1) n)*(((1:Int):Rat)/((2:Int):Rat))=atR lo hi (2*k+1) (2*n):=by
 have h1:=cast_ne hn
 unfold atR
 rw[Rat.intCast_add,Rat.intCast_add,Rat.intCast_mul,Rat.intCast_mul,show((1:Int):Rat)=1 from rfl,show((2:Int):Rat)=2 from rfl]
 generalize ((n:Int):Rat)=x at*
 generalize ((k:Int):Rat)=z at*
 grind
theorem atR_zero (lo hi:Rat) (n:Int):atR lo hi 0 n=lo:=by unfold atR;rw[Rat.intCast_zero,Rat.div_def,Rat.zero_mul,Rat.mul_zero,Rat.add_zero]
theorem atR_one (lo hi:Rat):atR lo hi 1 1=hi:=by unfold atR;rw[show((1:Int):Rat)/((1:Int):Rat)=1 by decide+kernel];grind
def hlo (p:Rat→Bool) (lo hi:Rat) (n:Nat):Rat:=atR lo hi (hlv p lo hi n) (2^n)
def hhi (p:Rat→Bool) (lo hi:Rat) (n:Nat):Rat:=atR lo hi (hlv p lo hi n+1) (2^n)
def hmi (p:Rat→Bool) (lo hi:Rat) (n:Nat):Rat:=atR lo hi (2*hlv p lo hi n+1) (2^(n+1))
theorem hlo_zero (p:Rat→Bool) (lo hi:Rat):hlo p lo hi 0=lo:=atR_zero lo hi _
theorem hhi_zero (p:Rat→Bool) (lo hi:Rat):hhi p lo hi 0=hi:=atR_one lo hi
theorem hmi_mid (p:Rat→Bool) (lo hi:Rat) (n:Nat):(hlo p lo hi n+hhi p lo hi n)*(((1:Int):Rat)/((2:Int):Rat))=hmi p lo hi n:=by
 unfold hlo hhi hmi
 rw[atR_mid lo hi _ (by have:=two_pos n;omega),two_succ]
theorem hlv_t {p:Rat→Bool} {lo hi:Rat} {n:Nat} (h:p (hmi p lo hi n)=true):hlv p lo hi (n+1)=2*hlv p lo hi n:=by show(if _ then _ else _)=_;exact if_pos h
theorem hlv_f {p:Rat→Bool} {lo hi:Rat} {n:Nat} (h:p (hmi p lo hi n)=false):hlv p lo hi (n+1)=2*hlv p lo hi n+1:=by show(if _ then _ else _)=_;exact if_neg (by rw[show p (atR lo hi (2*hlv p lo hi n+1) (2^(n+1)))=false from h];simp)
theorem hlo_t {p:Rat→Bool} {lo hi:Rat} {n:Nat} (h:p (hmi p lo hi n)=true):hlo p lo hi (n+1)=hlo p lo hi n:=by
 unfold hlo
 rw[hlv_t h,two_succ,Int.mul_comm 2 (hlv p lo hi n),Int.mul_comm 2 (2^n)]
 exact atR_scale lo hi _ (by have:=two_pos n;omega) (by decide)
theorem hhi_t {p:Rat→Bool} {lo hi:Rat} {n:Nat} (h:p (hmi p lo hi n)=true):hhi p lo hi (n+1)=hmi p lo hi n:=by unfold hhi hmi;rw[hlv_t h]
theorem hlo_f {p:Rat→Bool} {lo hi:Rat} {n:Nat} (h:p (hmi p lo hi n)=false):hlo p lo hi (n+1)=hmi p lo hi n:=by unfold hlo hmi;rw[hlv_f h]
theorem hhi_f {p:Rat→Bool} {lo hi:Rat} {n:Nat} (h:p (hmi p lo hi n)=false):hhi p lo hi (n+1)=hhi p lo hi n:=by
 unfold hhi
 rw[hlv_f h,two_succ,show 2*hlv p lo hi n+1+1=(hlv p lo hi n+1)*2 by omega,Int.mul_comm 2 (2^n)]
 exact atR_scale lo hi _ (by have:=two_pos n;omega) (by decide)
def dsz (m i:Nat):Int:=if i<m then 2^(m-1-i) else 0
def dct (p:Rat→Bool) (lo hi:Rat) (m i:Nat):Int:=hlv p lo hi i*2^(m-i)
theorem dsz_pos {m i:Nat}:0<dsz m i↔i<m:=by
 unfold dsz
 split
 ·rename_i h;exact⟨fun _=>h,fun _=>two_pos _⟩
 ·rename_i h;exact⟨fun e=>by omega,fun e=>absurd e h⟩
theorem dsz_half {m i:Nat} (h:i<m):(dsz m i).tdiv 2=dsz m (i+1):=by
 unfold dsz
 rw[if_pos h]
 split
 ·rename_i h2
  rw[show m-1-i=(m-1-(i+1))+1 by omega,two_succ]
  exact Int.mul_tdiv_cancel_left _ (by decide)
 ·rename_i h2
  rw[show m-1-i=0 by omega];rfl
theorem dct_zero (p:Rat→Bool) (lo hi:Rat) (m:Nat):dct p lo hi m 0=0:=Int.zero_mul _
theorem dct_end (p:Rat→Bool) (lo hi:Rat) (m:Nat):dct p lo hi m m=hlv p lo hi m:=by unfold dct;rw[Nat.sub_self];exact Int.mul_one _
theorem dct_mid (p:Rat→Bool) (lo hi:Rat) {m i:Nat} (h:i<m):atR lo hi (dct p lo hi m i+dsz m i) (2^m)=hmi p lo hi i:=by
 unfold dct dsz hmi
 rw[if_pos h]
 have e:(2:Int)^(m-i)=2*2^(m-1-i):=by rw[show m-i=(m-1-i)+1 by omega,two_succ]
 have e2:(2:Int)^m=2^(i+1)*2^(m-1-i):=by rw[←Int.pow_add];congr 1;omega
 rw[e,e2,show hlv p lo hi i*(2*2^(m-1-i))+2^(m-1-i)=(2*hlv p lo hi i+1)*2^(m-1-i) by grind]
 exact atR_scale lo hi _ (by have:=two_pos (i+1);omega) (by have:=two_pos (m-1-i);omega)
theorem dct_t {p:Rat→Bool} {lo hi:Rat} {m i:Nat} (h:i<m) (hp:p (hmi p lo hi i)=true):dct p lo hi m (i+1)=dct p lo hi m i:=by
 unfold dct
 rw[hlv_t hp,show(2:Int)^(m-i)=2*2^(m-(i+1)) by rw[show m-i=(m-(i+1))+1 by omega,two_succ]]
 grind
theorem dct_f {p:Rat→Bool} {lo hi:Rat} {m i:Nat} (h:i<m) (hp:p (hmi p lo hi i)=false):dct p lo hi m (i+1)=dct p lo hi m i+dsz m i:=by
 unfold dct dsz
 rw[if_pos h,hlv_f hp,show(2:Int)^(m-i)=2*2^(m-(i+1)) by rw[show m-i=(m-(i+1))+1 by omega,two_succ],show m-1-i=m-(i+1) by omega]
 grind
theorem dct_bd (p:Rat→Bool) (lo hi:Rat) {m i:Nat} (h:i≤m):0≤dct p lo hi m i∧dct p lo hi m i<2^m:=by
 have b:=hlv_bd p lo hi i
 have q:=two_pos (m-i)
 unfold dct
 have e2:(2:Int)^m=2^i*2^(m-i):=by rw[←Int.pow_add];congr 1;omega
 refine⟨Int.mul_nonneg b.1 (by omega),?_⟩
 rw[e2]
 exact Int.mul_lt_mul_of_pos_right b.2 q
theorem dsz_bd {m i:Nat}:0≤dsz m i∧dsz m i≤2^m:=by
 unfold dsz
 split
 ·rename_i h
  have:=two_pos (m-1-i)
  have e:(2:Int)^m=2^(i+1)*2^(m-1-i):=by rw[←Int.pow_add];congr 1;omega
  have q:=two_pos (i+1)
  refine⟨by omega,?_⟩
  have h2:=Int.mul_le_mul_of_nonneg_right (show(1:Int)≤2^(i+1) by omega) (Int.le_of_lt this)
  rw[e];omega
 ·have:=two_pos m;omega
theorem twoN_le {n:Nat} (h:n≤64):(2:Int)^n≤18446744073709551616:=by
 have:(2:Nat)^n≤2^64:=Nat.pow_le_pow_right (by decide) h
 have e:((2^n:Nat):Int)=(2:Int)^n:=by rw[Int.natCast_pow];rfl
 rw[←e];exact Int.ofNat_le.2 this
theorem dq_lim {n d:Int} {k:Nat} (h:n.natAbs<B32^k) (g:d.natAbs<B32^k) (hk:1≤k):RLim (((n:Int):Rat)/((d:Int):Rat)) (k+k):=rlim_div (rlim_int h hk) (rlim_int g hk)
theorem atR_lim {lo hi:Rat} {k n:Int} {i j:Nat} (h1:RLim lo i) (h2:RLim hi j) (hk:0≤k) (hk2:k≤n) (hn2:n≤18446744073709551616):RLim (atR lo hi k n) (2*i+j+8):=by
 have b:(18446744073709551616:Nat)<B32^3:=by decide+kernel
 exact(rlim_add h1 (rlim_mul (rlim_sub h2 h1) (dq_lim (n:=k) (d:=n) (k:=3) (by omega) (by omega) (by decide)))).up _ (by omega)
theorem hlo_lim {p:Rat→Bool} {lo hi:Rat} {i j n:Nat} (h1:RLim lo i) (h2:RLim hi j) (hn:n≤64):RLim (hlo p lo hi n) (2*i+j+8):=
 atR_lim h1 h2 (hlv_bd p lo hi n).1 (by have:=hlv_bd p lo hi n;omega) (twoN_le hn)
theorem hhi_lim {p:Rat→Bool} {lo hi:Rat} {i j n:Nat} (h1:RLim lo i) (h2:RLim hi j) (hn:n≤64):RLim (hhi p lo hi n) (2*i+j+8):=
 atR_lim h1 h2 (by have:=hlv_bd p lo hi n;omega) (by have:=hlv_bd p lo hi n;omega) (twoN_le hn)
theorem hmi_lim {p:Rat→Bool} {lo hi:Rat} {i j n:Nat} (h1:RLim lo i) (h2:RLim hi j) (hn:n<64):RLim (hmi p lo hi n) (2*i+j+8):=
 atR_lim h1 h2 (by have:=hlv_bd p lo hi n;omega) (by have:=hlv_bd p lo hi n;have:=two_succ n;omega) (twoN_le hn)
theorem bmid_any (p:Rat→Bool) (v1 v2:Value) (q1 q2:Rat) (i k j:Nat) (w:World) (h1:Rq w v1 (hlo p q1 q2 i)) (h2:Rq w v2 (hhi p q1 q2 i)) (hl:RLim (hlo p q1 q2 i) k) (hm:RLim (hhi p q1 q2 i) j) (hk:k≤1000) (hj:j≤1000):
 Calls Tryz.prog 198 #[v1,v2] w (RqPost w (hmi p q1 q2 i)):=by
 have h:=cMid_any v1 v2 _ _ k j w h1 h2 hl hm hk hj
 rwa[hmi_mid] at h
theorem bis_any (v1 v2:Value) (q1 q2:Rat) (k j:Nat) (h:Int) (N:Nat) (kf:FuncId) (cap:Array Value) (p:Rat→Bool) (w:World) (h1:Rq w v1 q1) (h2:Rq w v2 q2) (l1:RLim q1 k) (l2:RLim q2 j) (hk:k≤300) (hj:j≤300) (hN:min (max h 0) 64=((N:Nat):Int)) (hN2:N≤64) (hask:AskP w kf cap (2*k+j+8) p):
 Calls Tryz.prog 161 #[v1,v2,.int .i64 h,.func (.func kf) #[] cap] w ((fun e w'=>∃v u,e= .returned (.tuple #[v,u])∧Rq w' v (hlo p q1 q2 N)∧Rq w' u (hhi p q1 q2 N)∧Below w.heap.size w w')):=by
 obtain⟨fn,hfn1,hfn2,hfn3⟩:=hask.fn
 have st:=St.start w
 refine E.enter (nt:=33) (L:=[(0,v1),(1,v2),(2,.int .i64 h),(3,.func (.func kf) #[] cap)]) Tryz.func161 rfl rfl rfl (args_cons (i:=0) rfl (args_cons (i:=1) rfl (args_cons (i:=2) rfl (args_cons (i:=3) rfl args_nil)))) ?_
 intro a hF
 refine wp_seq ?_
 refine E.seq ?_
 obtain⟨b2,ad2,n2,c2,ae2,m2,d2,rfl⟩:=Rq.form h1
 refine S.box st hF (hF.at 0 rfl) rfl rfl fun g4 w1 a st hF=>?_
 obtain⟨b4,ad4,n4,c4,ae4,m4,d4,rfl⟩:=Rq.form h2
 refine S.box st hF (hF.at 2 rfl) rfl rfl fun g5 w3 a st hF=>?_
 refine S.alloc st hF ty_Rat rfl rfl fun g8 w5 a st hF=>?_
 refine S.alloc st hF ty_Rat rfl rfl fun g9 w6 a st hF=>?_
 refine E.nil ?_
 refine E.scope (fun mq a wv=>∃(i:Nat) (bb5:Bool) (aa5:Option Addr) (nn5:Nat) (cc5:Nat) (ee5:Option Addr) (mm5:Nat) (dd5:Nat) (bb4:Bool) (aa4:Option Addr) (nn4:Nat) (cc4:Nat) (ee4:Option Addr) (mm4:Nat) (dd4:Nat),i≤N∧Fr 33 a [(10,.int .i64 (((N:Nat):Int)-((i:Nat):Int))),(9,.pointer (some ⟨g9,0,none⟩)),(8,.pointer (some ⟨g8,0,none⟩)),(5,.pointer (some ⟨g5,0,none⟩)),(4,.pointer (some ⟨g4,0,none⟩)),(3,.func (.func kf) #[] cap)]∧St w wv [(g9,[.bool false,.slice none 0 0,.slice none 0 0]),(g8,[.bool false,.slice none 0 0,.slice none 0 0]),(g5,[.bool bb5,.slice aa5 nn5 cc5,.slice ee5 mm5 dd5]),(g4,[.bool bb4,.slice aa4 nn4 cc4,.slice ee4 mm4 dd4])] [fun w=>Rq w (.agg #[.bool bb5,.slice aa5 nn5 cc5,.slice ee5 mm5 dd5]) (hhi p q1 q2 i),fun w=>Rq w (.agg #[.bool bb4,.slice aa4 nn4 cc4,.slice ee4 mm4 dd4]) (hlo p q1 q2 i)]∧mq=N-i) rfl ?_ ?_
 ·refine E.seq ?_
  refine E.opv hF (r_move (hF.at 6 rfl)) rfl rfl rfl rfl fun a hF=>?_
  refine E.opv hF (r_builtin (map2 (hF.at 0 rfl) ev_c) bl_max) rfl rfl rfl rfl fun a hF=>?_
  refine E.opv hF (r_builtin (map2 (hF.at 0 rfl) ev_c) bl_min) rfl rfl rfl rfl fun a hF=>?_
  refine E.opv hF (r_assign (hF.at 0 rfl)) rfl rfl rfl rfl fun a hF=>?_
  refine E.nil0 ?_
  replace hF:Fr 33 a [(10,.int .i64 (((N:Nat):Int)-((0:Nat):Int))),(14,.int .i64 (min (max h 0) 64)),(13,.int .i64 (max h 0)),(12,.int .i64 h),(9,.pointer (some ⟨g9,0,none⟩)),(8,.pointer (some ⟨g8,0,none⟩)),(5,.pointer (some ⟨g5,0,none⟩)),(4,.pointer (some ⟨g4,0,none⟩)),(0,.agg #[.bool b2,.slice ad2 n2 c2,.slice ae2 m2 d2]),(1,.agg #[.bool b4,.slice ad4 n4 c4,.slice ae4 m4 d4]),(2,.int .i64 h),(3,.func (.func kf) #[] cap)]:=by rw[show((N:Nat):Int)-((0:Nat):Int)=min (max h 0) 64 from by rw[hN];simp];exact hF
  refine E.norm ?_
  exact⟨(N-0),0,_,_,_,_,_,_,_,_,_,_,_,_,_,_,(by omega),Fr.pick (L':=[(10,.int .i64 (((N:Nat):Int)-((0:Nat):Int))),(9,.pointer (some ⟨g9,0,none⟩)),(8,.pointer (some ⟨g8,0,none⟩)),(5,.pointer (some ⟨g5,0,none⟩)),(4,.pointer (some ⟨g4,0,none⟩)),(3,.func (.func kf) #[] cap)]) hF [0,4,5,6,7,11] rfl,((st.add (Rq.castM (h1.below st.bel) (hlo_zero p q1 q2).symm) (Rq.cl _)).add (Rq.castM (h2.below st.bel) (hhi_zero p q1 q2).symm) (Rq.cl _)).pick [0,1,2,3] [0,1] rfl rfl (by decide),rfl⟩
 ·rintro mq a w7 ⟨i,bb5,aa5,nn5,cc5,ee5,mm5,dd5,bb4,aa4,nn4,cc4,ee4,mm4,dd4,hi,hF,st,hm⟩
  refine wp_seq ?_
  refine wp_seq ?_
  refine E.seq ?_
  refine E.opv hF (r_move (hF.at 0 rfl)) rfl rfl rfl rfl fun a hF=>?_
  by_cases hc8:((N:Nat):Int)-((i:Nat):Int)=0
  ·first
   |(exfalso;omega)
   |(refine E.opv hF (r_bin (hF.at 0 rfl) ev_c eg_scalar (bi_int (ic_eql (c:=true) (dec_tt hc8)) (by simp))) rfl rfl rfl rfl fun a hF=>?_
     refine E.nil ?_
     refine wp_cond_true (hF.at 0 rfl) ?_
     refine wp_seq ?_
     refine E.ret2 (i0:=3) (i1:=2) (j0:=1) (j1:=0) mixed st hF ty_Rat (fun a hF=>eval_tmp (hF.at 6 rfl)) (fun a hF=>eval_tmp (hF.at 5 rfl)) (fun a hF=>eval_tmp (hF.at 4 rfl)) (fun a hF=>eval_tmp (hF.at 3 rfl)) rfl rfl rfl rfl rfl rfl rfl rfl rfl rfl rfl rfl (by decide) (by decide) (by decide) (by decide) (by decide) (by decide) rfl rfl rfl rfl (by decide+kernel) (by decide+kernel) (by decide+kernel) fun w9 a st hF=>?_
     refine E.norm ?_
     refine wp_ret ?_
     refine E.pastr ?_
     refine E.jumpr ?_
     have bel:=st.bel
     refine bodyPost_ret (res_cell2 Tryz.results161 (hF.at 4 rfl) (ld_all ty_Rat (st.bk 1 rfl) rfl) (hF.at 3 rfl) (ld_all ty_Rat (st.bk 0 rfl) rfl)) hF.dfr ?_
     have e:i=N:=by omega
     subst e
     exact⟨_,_,rfl,(st.f 1 rfl),(st.f 0 rfl),bel⟩)
  ·first
   |(exfalso;omega)
   |(refine E.opv hF (r_bin (hF.at 0 rfl) ev_c eg_scalar (bi_int (ic_eql (c:=false) (dec_ff hc8)) (by simp))) rfl rfl rfl rfl fun a hF=>?_
     refine E.nil ?_
     refine wp_cond_false (hF.at 0 rfl) ?_
     refine wp_skip ?_
     refine E.norm ?_
     refine wp_seq ?_
     refine E.seq ?_
     refine E.opv hF (r_move (hF.at 2 rfl)) rfl rfl rfl rfl fun a hF=>?_
     refine E.opv hF (r_bin (hF.at 0 rfl) ev_c eg_scalar (ia_sub (by omega) (by omega))) rfl rfl rfl rfl fun a hF=>?_
     refine E.opset (L':=[(10,.int .i64 ((((N:Nat):Int)-((i:Nat):Int))-1)),(20,.int .i64 ((((N:Nat):Int)-((i:Nat):Int))-1)),(19,.int .i64 (((N:Nat):Int)-((i:Nat):Int))),(16,.bool false),(15,.int .i64 (((N:Nat):Int)-((i:Nat):Int))),(9,.pointer (some ⟨g9,0,none⟩)),(8,.pointer (some ⟨g8,0,none⟩)),(5,.pointer (some ⟨g5,0,none⟩)),(4,.pointer (some ⟨g4,0,none⟩)),(3,.func (.func kf) #[] cap)]) hF (r_assign (hF.at 0 rfl)) rfl rfl rfl rfl fun a hF=>?_
     refine E.nil ?_
     refine wp_seq ?_
     refine wp_seq ?_
     refine E.seq ?_
     refine E.opv hF (r_load (hF.at 8 rfl) (ld_all ty_Rat (st.bk 3 rfl) rfl)) rfl rfl rfl rfl fun a hF=>?_
     refine E.opv hF (r_load (hF.at 8 rfl) (ld_all ty_Rat (st.bk 2 rfl) rfl)) rfl rfl rfl rfl fun a hF=>?_
     refine S.call st hF (r_call Tryz.func198 en198.1 en198.2 (map2 (hF.at 1 rfl) (hF.at 0 rfl))) (bmid_any p _ _ q1 q2 i (2*k+j+8) (2*k+j+8) _ (st.f 1 rfl) (st.f 0 rfl) (hlo_lim (p:=p) l1 l2 (by omega)) (hhi_lim (p:=p) l1 l2 (by omega)) (by omega) (by omega)) (fun _ _ h=>h) Rq.cl rfl rfl rfl rfl fun vv11 w10 a st hF=>?_
     obtain⟨b13,ad13,n13,c13,ae13,m13,d13,rfl⟩:=Rq.form (st.f 0 rfl)
     refine S.new st hF 0 rfl ty_Rat rfl rfl rfl rfl rfl fun g11 w14 a st hF=>?_
     refine E.nil ?_
     refine wp_seq ?_
     refine E.seq ?_
     refine E.opv hF (r_move (hF.at 13 rfl)) rfl rfl rfl rfl fun a hF=>?_
     refine E.opv hF (r_bin (hF.at 0 rfl) ev_c eg_func fn_neq) rfl rfl rfl rfl fun a hF=>?_
     refine E.opv hF (r_move (hF.at 0 rfl)) rfl rfl rfl rfl fun a hF=>?_
     refine E.opvg hF (r_move (hF.at 16 rfl)) (wanted_by rfl rfl (hF.at 0 rfl) rfl) rfl rfl rfl fun a hF=>?_
     refine E.opvg hF (r_load (hF.at 4 rfl) (ld_all ty_Rat (st.bk 0 rfl) rfl)) (wanted_by rfl rfl (hF.at 1 rfl) rfl) rfl rfl rfl fun a hF=>?_
     refine S.callxg st hF (wanted_by rfl rfl (hF.at 2 rfl) rfl) (r_callv (hF.at 1 rfl) hfn1 hfn2 hfn3 (map1 (hF.at 0 rfl))) ((hask.below st.bel).ask _ (hmi p q1 q2 i) _ (Below.refl _ _) (st.f 0 rfl) ((hmi_lim (p:=p) l1 l2 (by omega)).up _ (by omega))) rfl rfl rfl fun w15 a st hF=>?_
     refine E.opv hF (r_pick_t (hF.at 3 rfl) (hF.at 0 rfl)) rfl rfl rfl rfl fun a hF=>?_
     refine E.nil ?_
     by_cases hc16:p (hmi p q1 q2 i)=true
     ·first
      |(exfalso;omega)
      |(refine wp_cond_true (Eq.trans (hF.at 0 rfl) (congrArg Value.bool hc16)) ?_
        refine E.seq ?_
        refine E.opv hF (r_load (hF.at 7 rfl) (ld_all ty_Rat (st.bk 0 rfl) rfl)) rfl rfl rfl rfl fun a hF=>?_
        refine S.sto st hF 3 rfl (hF.at 19 rfl) (hF.at 0 rfl) ty_Rat rfl rfl rfl rfl fun w17 a st hF=>?_
        refine E.nil ?_
        refine wp_goto ?_
        refine E.jump ?_
        replace hF:Fr 33 a [(31,.agg #[.bool b13,.slice ad13 n13 c13,.slice ae13 m13 d13]),(30,.bool (p (hmi p q1 q2 i))),(29,.bool (p (hmi p q1 q2 i))),(28,.agg #[.bool b13,.slice ad13 n13 c13,.slice ae13 m13 d13]),(27,.func (.func kf) #[] cap),(26,.bool true),(25,.bool true),(24,.func (.func kf) #[] cap),(11,.pointer (some ⟨g11,0,none⟩)),(23,.agg #[.bool b13,.slice ad13 n13 c13,.slice ae13 m13 d13]),(22,.agg #[.bool bb5,.slice aa5 nn5 cc5,.slice ee5 mm5 dd5]),(21,.agg #[.bool bb4,.slice aa4 nn4 cc4,.slice ee4 mm4 dd4]),(10,.int .i64 (((N:Nat):Int)-((i+1:Nat):Int))),(20,.int .i64 ((((N:Nat):Int)-((i:Nat):Int))-1)),(19,.int .i64 (((N:Nat):Int)-((i:Nat):Int))),(16,.bool false),(15,.int .i64 (((N:Nat):Int)-((i:Nat):Int))),(9,.pointer (some ⟨g9,0,none⟩)),(8,.pointer (some ⟨g8,0,none⟩)),(5,.pointer (some ⟨g5,0,none⟩)),(4,.pointer (some ⟨g4,0,none⟩)),(3,.func (.func kf) #[] cap)]:=by rw[show((N:Nat):Int)-((i+1:Nat):Int)=((N:Nat):Int)-((i:Nat):Int)-1 from by omega];exact hF
        exact⟨(N-(i+1)),by omega,⟨(i+1),_,_,_,_,_,_,_,_,_,_,_,_,_,_,(by omega),Fr.pick (L':=[(10,.int .i64 (((N:Nat):Int)-((i+1:Nat):Int))),(9,.pointer (some ⟨g9,0,none⟩)),(8,.pointer (some ⟨g8,0,none⟩)),(5,.pointer (some ⟨g5,0,none⟩)),(4,.pointer (some ⟨g4,0,none⟩)),(3,.func (.func kf) #[] cap)]) hF [12,17,18,19,20,21] rfl,((st.add (Rq.castM (st.f 2 rfl) (hlo_t hc16).symm) (Rq.cl _)).add (Rq.castM (st.f 0 rfl) (hhi_t hc16).symm) (Rq.cl _)).pick [1,2,3,4] [0,1] rfl rfl (by decide),rfl⟩⟩)
     ·first
      |(exfalso;omega)
      |(refine wp_cond_false (Eq.trans (hF.at 0 rfl) (congrArg Value.bool (eq_false_of_ne_true hc16))) ?_
        refine E.seq ?_
        refine E.opv hF (r_load (hF.at 7 rfl) (ld_all ty_Rat (st.bk 0 rfl) rfl)) rfl rfl rfl rfl fun a hF=>?_
        refine S.sto st hF 4 rfl (hF.at 20 rfl) (hF.at 0 rfl) ty_Rat rfl rfl rfl rfl fun w18 a st hF=>?_
        refine E.nil ?_
        refine wp_goto ?_
        refine E.jump ?_
        replace hF:Fr 33 a [(32,.agg #[.bool b13,.slice ad13 n13 c13,.slice ae13 m13 d13]),(30,.bool (p (hmi p q1 q2 i))),(29,.bool (p (hmi p q1 q2 i))),(28,.agg #[.bool b13,.slice ad13 n13 c13,.slice ae13 m13 d13]),(27,.func (.func kf) #[] cap),(26,.bool true),(25,.bool true),(24,.func (.func kf) #[] cap),(11,.pointer (some ⟨g11,0,none⟩)),(23,.agg #[.bool b13,.slice ad13 n13 c13,.slice ae13 m13 d13]),(22,.agg #[.bool bb5,.slice aa5 nn5 cc5,.slice ee5 mm5 dd5]),(21,.agg #[.bool bb4,.slice aa4 nn4 cc4,.slice ee4 mm4 dd4]),(10,.int .i64 (((N:Nat):Int)-((i+1:Nat):Int))),(20,.int .i64 ((((N:Nat):Int)-((i:Nat):Int))-1)),(19,.int .i64 (((N:Nat):Int)-((i:Nat):Int))),(16,.bool false),(15,.int .i64 (((N:Nat):Int)-((i:Nat):Int))),(9,.pointer (some ⟨g9,0,none⟩)),(8,.pointer (some ⟨g8,0,none⟩)),(5,.pointer (some ⟨g5,0,none⟩)),(4,.pointer (some ⟨g4,0,none⟩)),(3,.func (.func kf) #[] cap)]:=by rw[show((N:Nat):Int)-((i+1:Nat):Int)=((N:Nat):Int)-((i:Nat):Int)-1 from by omega];exact hF
        exact⟨(N-(i+1)),by omega,⟨(i+1),_,_,_,_,_,_,_,_,_,_,_,_,_,_,(by omega),Fr.pick (L':=[(10,.int .i64 (((N:Nat):Int)-((i+1:Nat):Int))),(9,.pointer (some ⟨g9,0,none⟩)),(8,.pointer (some ⟨g8,0,none⟩)),(5,.pointer (some ⟨g5,0,none⟩)),(4,.pointer (some ⟨g4,0,none⟩)),(3,.func (.func kf) #[] cap)]) hF [12,17,18,19,20,21] rfl,((st.add (Rq.castM (st.f 0 rfl) (hlo_f (eq_false_of_ne_true hc16)).symm) (Rq.cl _)).add (Rq.castM (st.f 1 rfl) (hhi_f (eq_false_of_ne_true hc16)).symm) (Rq.cl _)).pick [1,2,3,4] [0,1] rfl rfl (by decide),rfl⟩⟩))
end Go.Proofs.YtnljadejcfgmaaaGreatDoor
