import Derived.Test.YtpkhdajnppoinaaGreatDoorKB24
import Derived.Test.YtpkhdajnppoinaaGreatDoorKB36
namespace Go.Proofs.YtpkhdajnppoinaaGreatDoor
open Go.RowKit
set_option maxRecDepth 100000
set_option linter.unusedVariables false
set_option maxHeartbeats 8000000
theorem sz_RPl:(Tryz.prog.info? 50).map (·.size)=some 6:=by kernel_rfl
theorem ze_RPl:(Tryz.prog.info? 50).bind (·.zero)=some (.agg #[.bool false,.slice none 0 0,.slice none 0 0,.bool false,.slice none 0 0,.slice none 0 0]):=by kernel_rfl
theorem fa_RPl_0 {w:World} {g o p:Nat} (hp:o+0=p):(Instr.fieldAt 50 (.pointer (some ⟨g,o,none⟩)) 0).run Tryz.prog w= .ok (.pointer (some ⟨g,p,none⟩)) w:=own_field Tryz.underlying50 rfl rfl sz_RRat rfl p hp
theorem fa_RPl_1 {w:World} {g o p:Nat} (hp:o+3=p):(Instr.fieldAt 50 (.pointer (some ⟨g,o,none⟩)) 1).run Tryz.prog w= .ok (.pointer (some ⟨g,p,none⟩)) w:=own_field Tryz.underlying50 rfl rfl sz_RRat rfl p hp
theorem fill3p {place:Nat→Option (Nat×Nat)} {cells:Array Value} {i off:Nat} {x y z:Value} {rest:List (Nat×Value)} (hp:place i=some (off,3)) (hc:off+3≤cells.size):
 Instr.fill place cells ((i,.agg #[x,y,z])::rest)=Instr.fill place (((cells.setIfInBounds off x).setIfInBounds (off+1) y).setIfInBounds (off+2) z) rest:=by
 conv=>lhs;unfold Instr.fill
 rw[hp]
 have h1:(Value.agg #[x,y,z]).cells =#[x,y,z]:=rfl
 simp only [h1]
 rw[if_neg (by simp;omega)]
 have h2:∀f:Array Value→Value×Nat→Array Value,Array.foldl f cells #[x,y,z].zipIdx =f (f (f cells (x,0)) (y,1)) (z,2):=fun f=>rfl
 rw[h2]
 rfl
theorem bd_RPl_01 (b00:Bool) (a01:Option Addr) (n01 c01:Nat) (a02:Option Addr) (n02 c02:Nat) (b10:Bool) (a11:Option Addr) (n11 c11:Nat) (a12:Option Addr) (n12 c12:Nat) (w:World):(Instr.build 50 #[(0,.agg #[.bool b00,.slice a01 n01 c01,.slice a02 n02 c02]),(1,.agg #[.bool b10,.slice a11 n11 c11,.slice a12 n12 c12])]).run Tryz.prog w= .ok (.agg #[.bool b00,.slice a01 n01 c01,.slice a02 n02 c02,.bool b10,.slice a11 n11 c11,.slice a12 n12 c12]) w:=by
 have hz:=zero_run ze_RPl w
 have h_RRat:∀w,(sizeOf 39).run Tryz.prog w= .ok 3 w:=fun w=>size_run sz_RRat w
 simp only [Instr.build,Sem.run_bind,hz,Result.andThen_ok,run_underlying Tryz.underlying50,List.mapM_toArray,List.mapM_cons,List.mapM_nil,Sem.run_map,h_RRat,Sem.run_pure]
 rw[show(Value.agg #[Value.bool false,Value.slice none 0 0,Value.slice none 0 0,Value.bool false,Value.slice none 0 0,Value.slice none 0 0]).cells =#[Value.bool false,Value.slice none 0 0,Value.slice none 0 0,Value.bool false,Value.slice none 0 0,Value.slice none 0 0] from rfl]
 rw[fill3p (off:=0) rfl (by simp),fill3p (off:=3) rfl (by simp)]
 simp only [List.setIfInBounds_toArray,List.set_cons_zero,List.set_cons_succ,Nat.reduceAdd,Nat.zero_add]
 rfl
theorem fv_RPl_0 (bx0:Bool) (ax1:Option Addr) (nx1 cx1:Nat) (ax2:Option Addr) (nx2 cx2:Nat) (bx3:Bool) (ax4:Option Addr) (nx4 cx4:Nat) (ax5:Option Addr) (nx5 cx5:Nat) (w:World):(Instr.field 50 (.agg #[.bool bx0,.slice ax1 nx1 cx1,.slice ax2 nx2 cx2,.bool bx3,.slice ax4 nx4 cx4,.slice ax5 nx5 cx5]) 0).run Tryz.prog w= .ok (.agg #[.bool bx0,.slice ax1 nx1 cx1,.slice ax2 nx2 cx2]) w:=by
 have ha:(isAgg 39).run Tryz.prog w= .ok true w:=by
  unfold isAgg
  rw[Sem.run_bind,run_underlying Tryz.underlying39 w]
  rfl
 simp only [Instr.field,Sem.run_bind,run_underlying Tryz.underlying50,Result.andThen_ok]
 show((part 39 #[.bool bx0,.slice ax1 nx1 cx1,.slice ax2 nx2 cx2,.bool bx3,.slice ax4 nx4 cx4,.slice ax5 nx5 cx5] 0).run Tryz.prog w)=_
 simp only [part,Sem.run_bind,ha,Result.andThen_ok]
 rfl
def RPl (w:World) (v:Value) (p q:Rat) (k:Nat):Prop:=
 ∃b1 a1 n1 c1 d1 m1 e1 b2 a2 n2 c2 d2 m2 e2,v= .agg #[.bool b1,.slice a1 n1 c1,.slice d1 m1 e1,.bool b2,.slice a2 n2 c2,.slice d2 m2 e2]∧Rr w (.agg #[.bool b1,.slice a1 n1 c1,.slice d1 m1 e1]) p k∧Rr w (.agg #[.bool b2,.slice a2 n2 c2,.slice d2 m2 e2]) q k
theorem RPl.below {w w':World} {v:Value} {p q:Rat} {k:Nat} (h:RPl w v p q k) (hb:Below w.heap.size w w'):RPl w' v p q k:=by
 obtain⟨b1,a1,n1,c1,d1,m1,e1,b2,a2,n2,c2,d2,m2,e2,h0,h1,h2⟩:=h
 exact⟨b1,a1,n1,c1,d1,m1,e1,b2,a2,n2,c2,d2,m2,e2,h0,h1.below hb,h2.below hb⟩
theorem RPl.keep {w w':World} {v:Value} {p q:Rat} {k:Nat} (h:RPl w v p q k) (kp:Keep w w'):RPl w' v p q k:=by
 obtain⟨b1,a1,n1,c1,d1,m1,e1,b2,a2,n2,c2,d2,m2,e2,h0,h1,h2⟩:=h
 exact⟨b1,a1,n1,c1,d1,m1,e1,b2,a2,n2,c2,d2,m2,e2,h0,h1.keep kp,h2.keep kp⟩
theorem RPl.cl {p q:Rat} {k:Nat} (v:Value):Cl fun w=>RPl w v p q k:=fun _ _ h kp=>h.keep kp
theorem RPl.shape {w:World} {v:Value} {p q:Rat} {k:Nat} (h:RPl w v p q k):∃b1 a1 n1 c1 d1 m1 e1 b2 a2 n2 c2 d2 m2 e2,v= .agg #[.bool b1,.slice a1 n1 c1,.slice d1 m1 e1,.bool b2,.slice a2 n2 c2,.slice d2 m2 e2]∧Rr w (.agg #[.bool b1,.slice a1 n1 c1,.slice d1 m1 e1]) p k∧Rr w (.agg #[.bool b2,.slice a2 n2 c2,.slice d2 m2 e2]) q k:=h
theorem RPl.mono (p q:Rat) (k:Nat):∀w w' v,RPl w v p q k→Below w.heap.size w w'→RPl w' v p q k:=fun _ _ _ h hb=>h.below hb
def RPlPost (w:World) (p q:Rat) (k:Nat) (e:Ending) (w':World):Prop:=∃v,e= .returned v∧RPl w' v p q k∧Below w.heap.size w w'
theorem ty_RPl:Ty Tryz.prog 50 6 [.bool false,.slice none 0 0,.slice none 0 0,.bool false,.slice none 0 0,.slice none 0 0]:=⟨⟨_,Tryz.underlying50,rfl⟩,sz_RPl,ze_RPl⟩
theorem en26:(Tryz.f26.name == "runtime.NumGoroutine")=false∧Tryz.f26.body.isNone=false:=⟨by decide+kernel,by kernel_rfl⟩
theorem dInto2_any (v1 v2 v3:Value) (q1 q2 q3:Rat) (k i:Nat) (w:World) (h1:Rr w v1 q1 k) (h2:Rr w v2 q2 2) (h3:Rr w v3 q3 2) (li1:RLim q1 i) (li2:RLim q2 2) (li3:RLim q3 2) (hp:1≤k) (hk:k≤1000) (hi:i≤1000):
 Calls Tryz.prog 73 #[v1,v2,v3] w (RrPost w (rinto q1 q2 q3) (k+i+30)):=by
 obtain⟨b1,ad1,n1,c1,ae1,m1,d1,z1,D1,rfl,hn1,hd1,hD1,hq1,lz1,lD1⟩:=h1.shape
 have h1:Rr w (.agg #[.bool b1,.slice ad1 n1 c1,.slice ae1 m1 d1]) q1 k:=⟨_,_,_,_,_,_,_,_,_,rfl,hn1,hd1,hD1,hq1,lz1,lD1⟩
 have ha1:=hn1.abs
 have hb1:=hn1.neg
 replace hq1:=Lib.hid hq1
 obtain⟨b2,ad2,n2,c2,ae2,m2,d2,z2,D2,rfl,hn2,hd2,hD2,hq2,lz2,lD2⟩:=h2.shape
 have h2:Rr w (.agg #[.bool b2,.slice ad2 n2 c2,.slice ae2 m2 d2]) q2 2:=⟨_,_,_,_,_,_,_,_,_,rfl,hn2,hd2,hD2,hq2,lz2,lD2⟩
 have ha2:=hn2.abs
 have hb2:=hn2.neg
 replace hq2:=Lib.hid hq2
 obtain⟨b3,ad3,n3,c3,ae3,m3,d3,z3,D3,rfl,hn3,hd3,hD3,hq3,lz3,lD3⟩:=h3.shape
 have h3:Rr w (.agg #[.bool b3,.slice ad3 n3 c3,.slice ae3 m3 d3]) q3 2:=⟨_,_,_,_,_,_,_,_,_,rfl,hn3,hd3,hD3,hq3,lz3,lD3⟩
 have ha3:=hn3.abs
 have hb3:=hn3.neg
 replace hq3:=Lib.hid hq3
 by_cases h0:sz (Rat.num ((q3)-(q2)))≤0
 ·have st:=St.start w
  refine E.enter (nt:=21) (L:=[(0,.agg #[.bool b1,.slice ad1 n1 c1,.slice ae1 m1 d1]),(1,.agg #[.bool b2,.slice ad2 n2 c2,.slice ae2 m2 d2]),(2,.agg #[.bool b3,.slice ad3 n3 c3,.slice ae3 m3 d3])]) Tryz.func73 rfl rfl rfl (args_cons (i:=0) rfl (args_cons (i:=1) rfl (args_cons (i:=2) rfl args_nil))) ?_
  intro a hF
  refine wp_seq ?_
  refine E.seq ?_
  refine S.box st hF (hF.at 0 rfl) rfl rfl fun g3 w1 a st hF=>?_
  refine S.box st hF (hF.at 2 rfl) rfl rfl fun g4 w2 a st hF=>?_
  refine S.box st hF (hF.at 4 rfl) rfl rfl fun g5 w3 a st hF=>?_
  refine S.alloc st hF ty_RRat rfl rfl fun g6 w4 a st hF=>?_
  refine E.nil ?_
  refine wp_seq ?_
  refine wp_seq ?_
  refine E.seq ?_
  refine E.opv hF (r_load (hF.at 2 rfl) (ld_all ty_RRat (st.bk 2 rfl) rfl)) rfl rfl rfl rfl fun a hF=>?_
  refine E.opv hF (r_load (hF.at 2 rfl) (ld_all ty_RRat (st.bk 1 rfl) rfl)) rfl rfl rfl rfl fun a hF=>?_
  refine S.callx st hF (r_call Tryz.func130 en130.1 en130.2 (map2 (hF.at 1 rfl) (hF.at 0 rfl))) (dCmp2_any _ _ (q2) (q3) 2 2 _ (h2.below st.bel) (h3.below st.bel) (by omega) (by omega)) rfl rfl rfl rfl fun w5 a st hF=>?_
  refine E.opv hF (r_bin (hF.at 0 rfl) ev_c eg_scalar (bi_int (ic_geq (c:=true) (dec_tt (qc_ge0.2 h0))) (by simp))) rfl rfl rfl rfl fun a hF=>?_
  refine E.nil ?_
  refine wp_cond_true (hF.at 0 rfl) ?_
  refine wp_seq ?_
  refine E.seq ?_
  refine S.call st hF (r_call Tryz.func72 en72.1 en72.2 (map2 ev_c ev_c)) (dOf1b_any (0) _ (by decide) (by decide)) (fun _ _ h=>h) Rr.cl rfl rfl rfl rfl fun vv7 w6 a st hF=>?_
  obtain⟨b9,ad9,n9,c9,ae9,m9,d9,rfl⟩:=Rr.form (st.f 0 rfl)
  refine S.sto st hF 0 rfl (hF.at 5 rfl) (hF.at 0 rfl) ty_RRat rfl rfl rfl rfl fun w10 a st hF=>?_
  refine E.nil ?_
  refine wp_ret ?_
  refine S.ret Tryz.results73 st hF (hF.at 5 rfl) 0 rfl ty_RRat rfl hF.dfr ?_
  have bel:=st.bel
  exact⟨_,rfl,Rr.cast (Rr.up (st.f 0 rfl) _ (by omega)) (Rat.intCast_zero.trans (rinto_no h0)),bel⟩
 ·have st:=St.start w
  refine E.enter (nt:=21) (L:=[(0,.agg #[.bool b1,.slice ad1 n1 c1,.slice ae1 m1 d1]),(1,.agg #[.bool b2,.slice ad2 n2 c2,.slice ae2 m2 d2]),(2,.agg #[.bool b3,.slice ad3 n3 c3,.slice ae3 m3 d3])]) Tryz.func73 rfl rfl rfl (args_cons (i:=0) rfl (args_cons (i:=1) rfl (args_cons (i:=2) rfl args_nil))) ?_
  intro a hF
  refine wp_seq ?_
  refine E.seq ?_
  refine S.box st hF (hF.at 0 rfl) rfl rfl fun g3 w1 a st hF=>?_
  refine S.box st hF (hF.at 2 rfl) rfl rfl fun g4 w2 a st hF=>?_
  refine S.box st hF (hF.at 4 rfl) rfl rfl fun g5 w3 a st hF=>?_
  refine S.alloc st hF ty_RRat rfl rfl fun g6 w4 a st hF=>?_
  refine E.nil ?_
  refine wp_seq ?_
  refine wp_seq ?_
  refine E.seq ?_
  refine E.opv hF (r_load (hF.at 2 rfl) (ld_all ty_RRat (st.bk 2 rfl) rfl)) rfl rfl rfl rfl fun a hF=>?_
  refine E.opv hF (r_load (hF.at 2 rfl) (ld_all ty_RRat (st.bk 1 rfl) rfl)) rfl rfl rfl rfl fun a hF=>?_
  refine S.callx st hF (r_call Tryz.func130 en130.1 en130.2 (map2 (hF.at 1 rfl) (hF.at 0 rfl))) (dCmp2_any _ _ (q2) (q3) 2 2 _ (h2.below st.bel) (h3.below st.bel) (by omega) (by omega)) rfl rfl rfl rfl fun w5 a st hF=>?_
  refine E.opv hF (r_bin (hF.at 0 rfl) ev_c eg_scalar (bi_int (ic_geq (c:=false) (dec_ff (fun e=>h0 (qc_ge0.1 e)))) (by simp))) rfl rfl rfl rfl fun a hF=>?_
  refine E.nil ?_
  refine wp_cond_false (hF.at 0 rfl) ?_
  refine wp_skip ?_
  refine E.norm ?_
  refine wp_seq ?_
  refine E.drawn 9 mixed hF [12,13,14,15,16,17,18,19,20] [(fun _ v=>v= .agg #[.bool b2,.slice ad2 n2 c2,.slice ae2 m2 d2]),(fun _ v=>v= .agg #[.bool b1,.slice ad1 n1 c1,.slice ae1 m1 d1]),(fun _ v=>v= .agg #[.bool b2,.slice ad2 n2 c2,.slice ae2 m2 d2]),(fun w v=>Rr w v ((q1)-(q2)) ((k+2+1))),(fun _ v=>v= .agg #[.bool b3,.slice ad3 n3 c3,.slice ae3 m3 d3]),(fun _ v=>v= .agg #[.bool b2,.slice ad2 n2 c2,.slice ae2 m2 d2]),(fun w v=>Rr w v ((q3)-(q2)) ((2+2+1))),(fun w v=>Rr w v (rmod ((q1)-(q2)) ((q3)-(q2))) (((k+2+1)+(2+2+1)+(i+2+1)+(2+2+1)+3))),(fun w v=>Rr w v ((q2)+(rmod ((q1)-(q2)) ((q3)-(q2)))) ((2+((k+2+1)+(2+2+1)+(i+2+1)+(2+2+1)+3)+1)))] [] (by decide+kernel) (by decide+kernel) rfl rfl rfl ⟨(Mb.eq _),(Mb.eq _),(Mb.eq _),(fun _ _ _ h hb=>h.below hb),(Mb.eq _),(Mb.eq _),(fun _ _ _ h hb=>h.below hb),(fun _ _ _ h hb=>h.below hb),(fun _ _ _ h hb=>h.below hb),trivial⟩ trivial ⟨?_,?_,?_,?_,?_,?_,?_,?_,?_,trivial⟩ ?_
  ·intro a' w' hF' hb hd
   exact dv0 (r_load (hF'.at 6 rfl) (ld_all ty_RRat ((st.bk 2 rfl).below hb) rfl)) rfl rfl rfl
  ·intro a' w' hF' hb hd
   exact dv0 (r_load (hF'.at 7 rfl) (ld_all ty_RRat ((st.bk 3 rfl).below hb) rfl)) rfl rfl rfl
  ·intro a' w' hF' hb hd
   exact dv0 (r_load (hF'.at 6 rfl) (ld_all ty_RRat ((st.bk 2 rfl).below hb) rfl)) rfl rfl rfl
  ·intro a' w' hF' hb hd
   have e13:=sHe hd 0 13 rfl rfl rfl rfl
   have e14:=sHe hd 1 14 rfl rfl rfl rfl
   exact dc0 (r_call Tryz.func70 en70.1 en70.2 (map2 e13 e14)) (dSub2_any _ _ (q1) (q2) k 2 _ (h1.below (below_to st.bel hb)) (h2.below (below_to st.bel hb)) (by omega) (by omega) (by omega) (by omega)) rfl rfl
  ·intro a' w' hF' hb hd
   exact dv0 (r_load (hF'.at 5 rfl) (ld_all ty_RRat ((st.bk 1 rfl).below hb) rfl)) rfl rfl rfl
  ·intro a' w' hF' hb hd
   exact dv0 (r_load (hF'.at 6 rfl) (ld_all ty_RRat ((st.bk 2 rfl).below hb) rfl)) rfl rfl rfl
  ·intro a' w' hF' hb hd
   have e16:=sHe hd 0 16 rfl rfl rfl rfl
   have e17:=sHe hd 1 17 rfl rfl rfl rfl
   exact dc0 (r_call Tryz.func70 en70.1 en70.2 (map2 e16 e17)) (dSub2_any _ _ (q3) (q2) 2 2 _ (h3.below (below_to st.bel hb)) (h2.below (below_to st.bel hb)) (by omega) (by omega) (by omega) (by omega)) rfl rfl
  ·intro a' w' hF' hb hd
   obtain⟨v15_0,e15,h15_1⟩:=sH hd 0 15 rfl rfl rfl rfl
   obtain⟨v18_0,e18,h18_1⟩:=sH hd 1 18 rfl rfl rfl rfl
   exact dc0 (r_call Tryz.func76 en76.1 en76.2 (map2 e15 e18)) (dMod2_any _ _ _ _ (k+2+1) (2+2+1) (i+2+1) (2+2+1) _ h15_1 h18_1 (rlim_sub li1 li2) (rlim_sub li3 li2) (by omega) (by omega) (by omega) (by omega) (by omega) (by omega)) rfl rfl
  ·intro a' w' hF' hb hd
   have e12:=sHe hd 0 12 rfl rfl rfl rfl
   obtain⟨v19_0,e19,h19_1⟩:=sH hd 1 19 rfl rfl rfl rfl
   exact dc0 (r_call Tryz.func90 en90.1 en90.2 (map2 e12 e19)) (dAdd2_any _ _ (q2) _ 2 ((k+2+1)+(2+2+1)+(i+2+1)+(2+2+1)+3) _ (h2.below (below_to st.bel hb)) h19_1 (by omega) (by omega) (by omega) (by omega)) rfl rfl
  intro a w6 hF bb hall hne
  replace st:=st.to bb
  obtain⟨vv7,e20,hh8⟩:=sS hall 8 20 rfl rfl
  replace st:=st.add hh8 (Rr.cl _)
  clear hh8
  clear hall hne bb
  obtain⟨b9,ad9,n9,c9,ae9,m9,d9,rfl⟩:=Rr.form (st.f 0 rfl)
  replace hF:=hF.add e20
  clear e20
  refine S.sto st hF 0 rfl (hF.at 5 rfl) (hF.at 0 rfl) ty_RRat rfl rfl rfl rfl fun w10 a st hF=>?_
  refine E.nil ?_
  refine wp_ret ?_
  refine S.ret Tryz.results73 st hF (hF.at 5 rfl) 0 rfl ty_RRat rfl hF.dfr ?_
  have bel:=st.bel
  exact⟨_,rfl,Rr.cast (Rr.up (st.f 0 rfl) _ (by omega)) (rinto_yes h0),bel⟩
theorem told13_any (xa xb xc xd:Int) (w:World) (hxa0: -9223372036854775808≤xa) (hxa1:xa≤9223372036854775807) (hxb0: -9223372036854775808≤xb) (hxb1:xb≤9223372036854775807) (hxc0: -9223372036854775808≤xc) (hxc1:xc≤9223372036854775807) (hxd0: -9223372036854775808≤xd) (hxd1:xd≤9223372036854775807):
 Calls Tryz.prog 26 #[.agg #[.int .i64 xa,.int .i64 xb,.int .i64 xc,.int .i64 xd]] w (RPlPost w (((xa:Int):Rat)/((xb:Int):Rat)) (((xc:Int):Rat)/((xd:Int):Rat)) 2):=by
 have st:=St.start w
 refine E.enter (nt:=14) (L:=[(0,.agg #[.int .i64 xa,.int .i64 xb,.int .i64 xc,.int .i64 xd])]) Tryz.func26 rfl rfl rfl (args_cons (i:=0) rfl args_nil) ?_
 intro a hF
 refine wp_seq ?_
 refine E.seq ?_
 refine S.box st hF (hF.at 0 rfl) rfl rfl fun g1 w1 a st hF=>?_
 refine S.alloc st hF ty_RPl rfl rfl fun g2 w2 a st hF=>?_
 refine E.nil ?_
 refine wp_seq ?_
 refine E.drawn 11 mixed hF [3,4,5,6,7,8,9,10,11,12,13] [(fun _ v=>v= .pointer (some ⟨g1,0,none⟩)),(fun _ v=>v= .int .i64 xa),(fun _ v=>v= .pointer (some ⟨g1,1,none⟩)),(fun _ v=>v= .int .i64 xb),(fun w v=>Rr w v (((xa:Int):Rat)/((xb:Int):Rat)) (2)),(fun _ v=>v= .pointer (some ⟨g1,2,none⟩)),(fun _ v=>v= .int .i64 xc),(fun _ v=>v= .pointer (some ⟨g1,3,none⟩)),(fun _ v=>v= .int .i64 xd),(fun w v=>Rr w v (((xc:Int):Rat)/((xd:Int):Rat)) (2)),(fun w v=>RPl w v (((xa:Int):Rat)/((xb:Int):Rat)) (((xc:Int):Rat)/((xd:Int):Rat)) (2))] [] (by decide+kernel) (by decide+kernel) rfl rfl rfl ⟨(Mb.eq _),(Mb.eq _),(Mb.eq _),(Mb.eq _),(fun _ _ _ h hb=>h.below hb),(Mb.eq _),(Mb.eq _),(Mb.eq _),(Mb.eq _),(fun _ _ _ h hb=>h.below hb),(RPl.mono _ _ _),trivial⟩ trivial ⟨?_,?_,?_,?_,?_,?_,?_,?_,?_,?_,?_,trivial⟩ ?_
 ·intro a' w' hF' hb hd
  exact dv0 (r_field (hF'.at 1 rfl) (fa_Plc_0 (p:=0) rfl)) rfl rfl rfl
 ·intro a' w' hF' hb hd
  have e3:=sHe hd 0 3 rfl rfl rfl rfl
  exact dv0 (r_load e3 (ldb_i64 (v:= .int .i64 xa) ((st.bk 1 rfl).below hb) rfl)) rfl rfl rfl
 ·intro a' w' hF' hb hd
  exact dv0 (r_field (hF'.at 1 rfl) (fa_Plc_1 (p:=1) rfl)) rfl rfl rfl
 ·intro a' w' hF' hb hd
  have e5:=sHe hd 0 5 rfl rfl rfl rfl
  exact dv0 (r_load e5 (ldb_i64 (v:= .int .i64 xb) ((st.bk 1 rfl).below hb) rfl)) rfl rfl rfl
 ·intro a' w' hF' hb hd
  have e4:=sHe hd 0 4 rfl rfl rfl rfl
  have e6:=sHe hd 1 6 rfl rfl rfl rfl
  exact dc0 (r_call Tryz.func93 en93.1 en93.2 (map2 e4 e6)) (lOf_any xa xb _ hxa0 hxa1 hxb0 hxb1) rfl rfl
 ·intro a' w' hF' hb hd
  exact dv0 (r_field (hF'.at 1 rfl) (fa_Plc_2 (p:=2) rfl)) rfl rfl rfl
 ·intro a' w' hF' hb hd
  have e8:=sHe hd 0 8 rfl rfl rfl rfl
  exact dv0 (r_load e8 (ldb_i64 (v:= .int .i64 xc) ((st.bk 1 rfl).below hb) rfl)) rfl rfl rfl
 ·intro a' w' hF' hb hd
  exact dv0 (r_field (hF'.at 1 rfl) (fa_Plc_3 (p:=3) rfl)) rfl rfl rfl
 ·intro a' w' hF' hb hd
  have e10:=sHe hd 0 10 rfl rfl rfl rfl
  exact dv0 (r_load e10 (ldb_i64 (v:= .int .i64 xd) ((st.bk 1 rfl).below hb) rfl)) rfl rfl rfl
 ·intro a' w' hF' hb hd
  have e9:=sHe hd 0 9 rfl rfl rfl rfl
  have e11:=sHe hd 1 11 rfl rfl rfl rfl
  exact dc0 (r_call Tryz.func93 en93.1 en93.2 (map2 e9 e11)) (lOf_any xc xd _ hxc0 hxc1 hxd0 hxd1) rfl rfl
 ·intro a' w' hF' hb hd
  obtain⟨v7_0,e7,h7_1⟩:=sH hd 0 7 rfl rfl rfl rfl
  obtain⟨v12_0,e12,h12_1⟩:=sH hd 1 12 rfl rfl rfl rfl
  obtain⟨b3,ad3,n3,c3,ae3,m3,d3,rfl⟩:=Rr.form h7_1
  obtain⟨b4,ad4,n4,c4,ae4,m4,d4,rfl⟩:=Rr.form h12_1
  exact dv0 (r_build (pair2 e7 e12) (bd_RPl_01 _ _ _ _ _ _ _ _ _ _ _ _ _ _ _)) ⟨_,_,_,_,_,_,_,_,_,_,_,_,_,_,rfl,h7_1,h12_1⟩ rfl rfl
 intro a w5 hF bb hall hne
 replace st:=st.to bb
 obtain⟨vv6,e13,hh7⟩:=sS hall 10 13 rfl rfl
 replace st:=st.add hh7 (RPl.cl _)
 clear hh7
 clear hall hne bb
 replace hF:=hF.add e13
 clear e13
 obtain⟨b9x,ad9x,n9x,c9x,ae9x,m9x,d9x,b9y,ad9y,n9y,c9y,ae9y,m9y,d9y,rfl,hp9x,hp9y⟩:=RPl.shape (st.f 0 rfl)
 refine S.sto st hF 0 rfl (hF.at 1 rfl) (hF.at 0 rfl) ty_RPl rfl rfl rfl rfl fun w10 a st hF=>?_
 refine E.nil ?_
 refine wp_ret ?_
 refine S.ret Tryz.results26 st hF (hF.at 1 rfl) 0 rfl ty_RPl rfl hF.dfr ?_
 have bel:=st.bel
 exact⟨_,rfl,(st.f 0 rfl),bel⟩
end Go.Proofs.YtpkhdajnppoinaaGreatDoor
