import Derived.Test.YtplngpfpcheofaaKC31
import Derived.Test.YtplngpfpcheofaaKC38
namespace Go.Proofs.Ytplngpfpcheofaa
open Go.RowKit
set_option maxRecDepth 100000
set_option linter.unusedVariables false
set_option maxHeartbeats 8000000
def gep (r t:Rat):Bool:=decide (0≤qc t r)
theorem gep_t {r t:Rat}:gep r t=true↔r≤t:=by
 unfold gep
 rw[decide_eq_true_iff,qc_def]
 split
 ·exact⟨fun h=>absurd h (by decide),fun h=>by grind⟩
 ·split
  ·exact⟨fun _=>by grind,fun _=>by decide⟩
  ·exact⟨fun _=>by grind,fun _=>by decide⟩
theorem qc_ltB {a b:Rat}:qc a b<0↔a<b:=by
 rw[qc_def]
 split
 ·exact⟨fun _=>by assumption,fun _=>by decide⟩
 ·split
  ·exact⟨fun h=>absurd h (by decide),fun h=>by contradiction⟩
  ·exact⟨fun h=>absurd h (by decide),fun h=>by contradiction⟩
theorem qc_leB {a b:Rat}:qc a b≤0↔a≤b:=by
 rw[qc_def]
 split
 ·exact⟨fun _=>by grind,fun _=>by decide⟩
 ·split
  ·exact⟨fun h=>absurd h (by decide),fun h=>by grind⟩
  ·exact⟨fun _=>by grind,fun _=>by decide⟩
theorem gep_f {r t:Rat}:gep r t=false↔t<r:=by
 constructor
 ·intro h;exact Rat.not_le.1 fun e=>by rw[gep_t.2 e] at h;cases h
 ·intro h;exact eq_false_of_ne_true fun e=>Rat.not_le.2 h (gep_t.1 e)
theorem bis_lo {lo r:Rat} (hi:Rat) {n:Nat} (h:qc lo r<0):qc (hlo (gep r) lo hi n) r<0:=qc_ltB.2 (gep_f.1 (hlv_left hi (gep_f.2 (qc_ltB.1 h)) n))
theorem bis_hi {hi r:Rat} (lo:Rat) {n:Nat} (h:qc r hi≤0):qc r (hhi (gep r) lo hi n)≤0:=qc_leB.2 (gep_t.1 (hlv_right lo (gep_t.2 (qc_leB.1 h)) n))
def tw (i:Nat):Rat:=((2^i:Int):Rat)
theorem tw_zero:((1:Int):Rat)=tw 0:=by unfold tw;rfl
theorem tw_succ (i:Nat):tw i+tw i=tw (i+1):=by unfold tw;rw[two_succ,Rat.intCast_mul,show((2:Int):Rat)=2 from rfl];grind
theorem tw_lim {i:Nat} (h:i≤64):RLim (tw i) 3:=by
 have a:=twoN_le h
 have b:=two_pos i
 have c:(18446744073709551616:Nat)<B32^3:=by decide+kernel
 have e:((2:Int)^i).natAbs <B32^3:=by omega
 exact rlim_int e (by decide)
theorem bis_len (p:Rat→Bool) (lo hi:Rat) {n i:Nat} (e:i=n):(hhi p lo hi n-hlo p lo hi n)*tw i=hi-lo:=by
 subst e
 rw[hlv_len]
 unfold tw
 have h:=cast_ne (n:=2^i) (by have:=two_pos i;omega)
 rw[show((1:Int):Rat)=1 from rfl]
 generalize ((2^i:Int):Rat)=x at*
 grind
theorem en7:(Try.f7.name == "runtime.NumGoroutine")=false∧Try.f7.body.isNone=false:=⟨by decide+kernel,by kernel_rfl⟩
theorem bisF_any (W:World) (bs:List (Nat×List Value)) (fs:List (World→Prop)) (i ir gc gr:Nat) (z:Int) (b:Bool) (ad:Option Addr) (n c:Nat) (ae:Option Addr) (m d:Nat) (v1:Value) (qt qr:Rat) (k:Nat) (w:World) (st:St W w bs fs) (hi:bs[i]?=some (gc,[.int .i64 z])) (hj:bs[ir]?=some (gr,[.bool b,.slice ad n c,.slice ae m d])) (hne:i≠ir) (hU:∀F∈fs,ClU F) (h1:Rq w v1 qt) (hr:Rq w (.agg #[.bool b,.slice ad n c,.slice ae m d]) qr) (hl:RLim qt k) (hlr:RLim qr k) (hk:k≤10000) (hz0:0≤z) (hz1:z≤1000):
 Calls Try.prog 7 #[v1,.pointer (some ⟨gc,0,none⟩),.pointer (some ⟨gr,0,none⟩)] w (fun e w'=>e= .returned (.bool (gep qr qt))∧St W w' (bs.set i (gc,[.int .i64 (z+1)])) fs):=by
 obtain⟨b2,ad2,n2,c2,ae2,m2,d2,rfl⟩:=Rq.form h1
 replace st:=(st.add h1 (Rq.cl _)).add hr (Rq.cl _)
 have hU2:∀F∈(fun w=>Rq w (.agg #[.bool b,.slice ad n c,.slice ae m d]) qr)::(fun w=>Rq w (.agg #[.bool b2,.slice ad2 n2 c2,.slice ae2 m2 d2]) qt)::fs,ClU F:=clU1 Rq.clU (clU1 Rq.clU hU)
 refine E.enter (nt:=11) (L:=[(0,.agg #[.bool b2,.slice ad2 n2 c2,.slice ae2 m2 d2]),(1,.pointer (some ⟨gc,0,none⟩)),(2,.pointer (some ⟨gr,0,none⟩))]) Try.func7 rfl rfl rfl (args_cons (i:=0) rfl (args_cons (i:=1) rfl (args_cons (i:=2) rfl args_nil))) ?_
 intro a hF
 refine wp_seq ?_
 refine E.seq ?_
 refine S.box st hF (hF.at 0 rfl) rfl rfl fun g3 w1 a st hF=>?_
 refine E.opv hF (r_assign ev_c) rfl rfl rfl rfl fun a hF=>?_
 refine E.nil ?_
 refine wp_seq ?_
 refine E.seq ?_
 refine E.opv hF (r_load (hF.at 3 rfl) (ldb_int (v:= .int .i64 z) (st.bk (i+1) hi) rfl)) rfl rfl rfl rfl fun a hF=>?_
 refine E.opv hF (r_bin (hF.at 0 rfl) ev_c eg_scalar (ia_add (by omega) (by omega))) rfl rfl rfl rfl fun a hF=>?_
 refine S.stoU st hF (i+1) hi hU2 (hF.at 5 rfl) (hF.at 0 rfl) sz_int fun w2 a st hF=>?_
 refine E.nil ?_
 refine wp_seq ?_
 refine E.seq ?_
 refine E.opv hF (r_load (hF.at 3 rfl) (ld_all ty_Rat (st.bk (cs:=[.bool b2,.slice ad2 n2 c2,.slice ae2 m2 d2]) 0 rfl) rfl)) rfl rfl rfl rfl fun a hF=>?_
 refine E.opv hF (r_load (hF.at 7 rfl) (ld_all ty_Rat (st.bk (ir+1) ((List.getElem?_set_ne hne).trans hj)) rfl)) rfl rfl rfl rfl fun a hF=>?_
 refine S.callx st hF (r_call Try.func8 en8.1 en8.2 (map2 (hF.at 1 rfl) (hF.at 0 rfl))) (rCmp_any _ _ qt qr k _ (st.f 1 rfl) (st.f 0 rfl) hl hlr (by omega)) rfl rfl rfl rfl fun w3 a st hF=>?_
 refine E.opv hF (r_bin (hF.at 0 rfl) ev_c eg_scalar (bi_int (ic_geq (c:=decide (0≤qc qt qr)) rfl) (by simp))) rfl rfl rfl rfl fun a hF=>?_
 refine E.opset (L':=[(4,.bool (decide (0≤qc qt qr))),(10,.bool (decide (0≤qc qt qr))),(9,.int .i64 (qc qt qr)),(8,.agg #[.bool b,.slice ad n c,.slice ae m d]),(7,.agg #[.bool b2,.slice ad2 n2 c2,.slice ae2 m2 d2]),(6,.int .i64 (z+1)),(5,.int .i64 z),(3,.pointer (some ⟨g3,0,none⟩)),(0,.agg #[.bool b2,.slice ad2 n2 c2,.slice ae2 m2 d2]),(1,.pointer (some ⟨gc,0,none⟩)),(2,.pointer (some ⟨gr,0,none⟩))]) hF (r_assign (hF.at 0 rfl)) rfl rfl rfl rfl fun a hF=>?_
 refine E.nil ?_
 refine wp_ret ?_
 refine bodyPost_ret (res_tmp Try.results7 (hF.at 0 rfl)) hF.dfr ?_
 exact⟨rfl,st.pickD (bs':=[]) (fs':=[]) 1 2 [] [] rfl rfl List.Pairwise.nil rfl⟩
theorem askB {W:World} {bs:List (Nat×List Value)} {fs:List (World→Prop)} {i0 ir gc gr:Nat} {b:Bool} {ad:Option Addr} {n c:Nat} {ae:Option Addr} {m d:Nat} {qr:Rat} {k:Nat} (jr:Nat) (hlt:i0<bs.length) (hir:bs[ir]?=some (gr,[.bool b,.slice ad n c,.slice ae m d])) (hne:i0≠ir) (hr:fs[jr]?=some fun w=>Rq w (.agg #[.bool b,.slice ad n c,.slice ae m d]) qr) (hU:∀F∈fs,ClU F) (hlr:RLim qr k) (hk:k≤10000):
 AskT W bs fs i0 gc 7 #[.pointer (some ⟨gc,0,none⟩),.pointer (some ⟨gr,0,none⟩)] k (gep qr):=by
 refine⟨⟨_,Try.func7,en7.1,en7.2⟩,hlt,fun v q w z A F hUF st h0 h1 hv hl=>?_⟩
 have hi:(A++bs.set i0 (gc,[.int .i64 z]))[A.length+i0]?=some (gc,[.int .i64 z]):=by
  rw[List.getElem?_append_right (by omega),Nat.add_sub_cancel_left];exact getset hlt
 have hj:(A++bs.set i0 (gc,[.int .i64 z]))[A.length+ir]?=some (gr,[.bool b,.slice ad n c,.slice ae m d]):=by
  rw[List.getElem?_append_right (by omega),Nat.add_sub_cancel_left];exact(List.getElem?_set_ne hne).trans hir
 have hrq:Rq w (.agg #[.bool b,.slice ad n c,.slice ae m d]) qr:=st.facts _ (List.mem_append_right _ (List.mem_of_getElem? hr))
 refine(bisF_any W _ _ (A.length+i0) (A.length+ir) gc gr z b ad n c ae m d v q qr k w st hi hj (by omega) (fun G hG=>by rcases List.mem_append.1 hG with h|h;exact hUF G h;exact hU G h) hv hrq hl hlr hk h0 h1).mono fun e w' h=>⟨h.1,?_⟩
 have s:=h.2
 rwa[List.set_append_right _ _ (by omega),Nat.add_sub_cancel_left,List.set_set] at s
theorem seekBisect_walk (nega1:Bool) (aa1:Option Addr) (na1 ca1:Nat) (xa1:List Nat) (negb1:Bool) (ab1:Option Addr) (nb1 cb1:Nat) (xb1:List Nat) (nega2:Bool) (aa2:Option Addr) (na2 ca2:Nat) (xa2:List Nat) (negb2:Bool) (ab2:Option Addr) (nb2 cb2:Nat) (xb2:List Nat) (nega3:Bool) (aa3:Option Addr) (na3 ca3:Nat) (xa3:List Nat) (negb3:Bool) (ab3:Option Addr) (nb3 cb3:Nat) (xb3:List Nat) (dh:Int) (w:World) (ia1:InX w aa1 na1 ca1 xa1) (ib1:InX w ab1 nb1 cb1 xb1) (ia2:InX w aa2 na2 ca2 xa2) (ib2:InX w ab2 nb2 cb2 xb2) (ia3:InX w aa3 na3 ca3 xa3) (ib3:InX w ab3 nb3 cb3 xb3):
 Calls Try.prog 3 #[.agg #[.bool nega1,.slice aa1 na1 ca1,.bool negb1,.slice ab1 nb1 cb1],.agg #[.bool nega2,.slice aa2 na2 ca2,.bool negb2,.slice ab2 nb2 cb2],.agg #[.bool nega3,.slice aa3 na3 ca3,.bool negb3,.slice ab3 nb3 cb3],.int .i64 dh] w (ValPost w (.bool true)):=by
 have oka1:=ia1.ok
 have okb1:=ib1.ok
 have oka2:=ia2.ok
 have okb2:=ib2.ok
 have oka3:=ia3.ok
 have okb3:=ib3.ok
 obtain⟨N,hN⟩:∃N:Nat,min (max dh 0) 64=((N:Nat):Int):=⟨(min (max dh 0) 64).toNat,by omega⟩
 have hN2:N≤64:=by omega
 have st:=St.start w
 refine E.enter (nt:=82) (L:=[(0,.agg #[.bool nega1,.slice aa1 na1 ca1,.bool negb1,.slice ab1 nb1 cb1]),(1,.agg #[.bool nega2,.slice aa2 na2 ca2,.bool negb2,.slice ab2 nb2 cb2]),(2,.agg #[.bool nega3,.slice aa3 na3 ca3,.bool negb3,.slice ab3 nb3 cb3]),(3,.int .i64 dh)]) Try.func3 rfl rfl rfl (args_cons (i:=0) rfl (args_cons (i:=1) rfl (args_cons (i:=2) rfl (args_cons (i:=3) rfl args_nil)))) ?_
 intro a hF
 refine wp_seq ?_
 refine E.seq ?_
 refine S.box st hF (hF.at 0 rfl) rfl rfl fun g4 w1 a st hF=>?_
 refine S.box st hF (hF.at 2 rfl) rfl rfl fun g5 w2 a st hF=>?_
 refine S.box st hF (hF.at 4 rfl) rfl rfl fun g6 w3 a st hF=>?_
 refine E.opv hF (r_assign ev_c) rfl rfl rfl rfl fun a hF=>?_
 refine E.nil ?_
 refine wp_seq ?_
 refine wp_seq ?_
 refine E.seq ?_
 refine S.callx st hF (r_call Try.func4 en4.1 en4.2 map0) (awake15_any _) rfl rfl rfl rfl fun w4 a st hF=>?_
 refine E.opv hF (r_un (hF.at 0 rfl) (bn_not _ false rfl)) rfl rfl rfl rfl fun a hF=>?_
 refine E.nil ?_
 refine wp_cond_false (hF.at 0 rfl) ?_
 refine wp_skip ?_
 refine E.norm ?_
 refine wp_seq ?_
 refine E.drawn 9 mixed hF [18,19,20,21,22,23,9,10,11] [(fun _ v=>v= .agg #[.bool nega1,.slice aa1 na1 ca1,.bool negb1,.slice ab1 nb1 cb1]),(fun w v=>Rq w v (((rawZ nega1 xa1 2:Int):Rat)/((rawZ negb1 xb1 2:Int):Rat))),(fun _ v=>v= .agg #[.bool nega2,.slice aa2 na2 ca2,.bool negb2,.slice ab2 nb2 cb2]),(fun w v=>Rq w v (((rawZ nega2 xa2 2:Int):Rat)/((rawZ negb2 xb2 2:Int):Rat))),(fun _ v=>v= .agg #[.bool nega3,.slice aa3 na3 ca3,.bool negb3,.slice ab3 nb3 cb3]),(fun w v=>Rq w v (((rawZ nega3 xa3 2:Int):Rat)/((rawZ negb3 xb3 2:Int):Rat))),(fun w v=>∃g,v= .pointer (some ⟨g,0,none⟩)∧w4.heap.size≤g∧Own w g [.bool false,.slice none 0 0,.slice none 0 0]),(fun w v=>∃g,v= .pointer (some ⟨g,0,none⟩)∧w4.heap.size≤g∧Own w g [.bool false,.slice none 0 0,.slice none 0 0]),(fun w v=>∃g,v= .pointer (some ⟨g,0,none⟩)∧w4.heap.size≤g∧Own w g [.bool false,.slice none 0 0,.slice none 0 0])] [6,7,8] (by decide+kernel) (by decide+kernel) rfl rfl rfl ⟨(Mb.eq _),(fun _ _ _ h hb=>h.below hb),(Mb.eq _),(fun _ _ _ h hb=>h.below hb),(Mb.eq _),(fun _ _ _ h hb=>h.below hb),(fun _ _ _ ⟨g,e,l,o⟩ hb=>⟨g,e,l,o.below hb⟩),(fun _ _ _ ⟨g,e,l,o⟩ hb=>⟨g,e,l,o.below hb⟩),(fun _ _ _ ⟨g,e,l,o⟩ hb=>⟨g,e,l,o.below hb⟩),trivial⟩ ⟨fun _ _ ⟨g,e,_,o⟩=>⟨g,e,o.lt⟩,⟨fun _ _ ⟨g,e,_,o⟩=>⟨g,e,o.lt⟩,⟨fun _ _ ⟨g,e,_,o⟩=>⟨g,e,o.lt⟩,trivial⟩⟩⟩ ⟨?_,?_,?_,?_,?_,?_,?_,?_,?_,trivial⟩ ?_
 ·intro a' w' hF' hb hd
  exact dv0 (r_load (hF'.at 5 rfl) (ld_all ty_Raw5 ((st.bk 2 rfl).below hb) rfl)) rfl rfl rfl
 ·intro a' w' hF' hb hd
  have e18:=sHe hd 0 18 rfl rfl rfl rfl
  exact dc0 (r_call Try.func5 en5.1 en5.2 (map2 e18 ev_c)) (Own5_any nega1 aa1 na1 ca1 xa1 negb1 ab1 nb1 cb1 xb1 2 _ (ia1.below (below_to st.bel hb)) (ib1.below (below_to st.bel hb)) (by omega)) rfl rfl
 ·intro a' w' hF' hb hd
  exact dv0 (r_load (hF'.at 4 rfl) (ld_all ty_Raw5 ((st.bk 1 rfl).below hb) rfl)) rfl rfl rfl
 ·intro a' w' hF' hb hd
  have e20:=sHe hd 0 20 rfl rfl rfl rfl
  exact dc0 (r_call Try.func5 en5.1 en5.2 (map2 e20 ev_c)) (Own5_any nega2 aa2 na2 ca2 xa2 negb2 ab2 nb2 cb2 xb2 2 _ (ia2.below (below_to st.bel hb)) (ib2.below (below_to st.bel hb)) (by omega)) rfl rfl
 ·intro a' w' hF' hb hd
  exact dv0 (r_load (hF'.at 3 rfl) (ld_all ty_Raw5 ((st.bk 0 rfl).below hb) rfl)) rfl rfl rfl
 ·intro a' w' hF' hb hd
  have e22:=sHe hd 0 22 rfl rfl rfl rfl
  exact dc0 (r_call Try.func5 en5.1 en5.2 (map2 e22 ev_c)) (Own5_any nega3 aa3 na3 ca3 xa3 negb3 ab3 nb3 cb3 xb3 2 _ (ia3.below (below_to st.bel hb)) (ib3.below (below_to st.bel hb)) (by omega)) rfl rfl
 ·intro a' w' hF' hb hd
  exact da0 ty_Rat rfl hb.size rfl
 ·intro a' w' hF' hb hd
  exact da0 ty_Rat rfl hb.size rfl
 ·intro a' w' hF' hb hd
  exact da0 ty_Rat rfl hb.size rfl
 intro a w5 hF bb hall hne
 have s0:=st
 replace st:=st.to bb
 obtain⟨vv6,e19,hh7⟩:=sS hall 1 19 rfl rfl
 replace st:=st.add hh7 (Rq.cl _)
 clear hh7
 obtain⟨vv8,e21,hh9⟩:=sS hall 3 21 rfl rfl
 replace st:=st.add hh9 (Rq.cl _)
 clear hh9
 obtain⟨vv10,e23,hh11⟩:=sS hall 5 23 rfl rfl
 replace st:=st.add hh11 (Rq.cl _)
 clear hh11
 obtain⟨_,e9,g9,rfl,ge9,o9⟩:=sS hall 6 9 rfl rfl
 replace st:=st.push o9.blk (Nat.le_trans s0.bel.size ge9) (s0.ne ge9)
 clear o9
 obtain⟨_,e10,g10,rfl,ge10,o10⟩:=sS hall 7 10 rfl rfl
 replace st:=st.push o10.blk (Nat.le_trans s0.bel.size ge10) (ne_cons (fun(e:g9=g10)=>hne 6 7 9 10 rfl rfl (by decide) rfl rfl (by rw[e9,e10,e])) (s0.ne ge10))
 clear o10
 obtain⟨_,e11,g11,rfl,ge11,o11⟩:=sS hall 8 11 rfl rfl
 replace st:=st.push o11.blk (Nat.le_trans s0.bel.size ge11) (ne_cons (fun(e:g10=g11)=>hne 7 8 10 11 rfl rfl (by decide) rfl rfl (by rw[e10,e11,e])) (ne_cons (fun(e:g9=g11)=>hne 6 8 9 11 rfl rfl (by decide) rfl rfl (by rw[e9,e11,e])) (s0.ne ge11)))
 clear o11
 clear hall hne bb s0
 obtain⟨b12,ad12,n12,c12,ae12,m12,d12,rfl⟩:=Rq.form (st.f 2 rfl)
 replace hF:=hF.add e19
 clear e19
 obtain⟨b13,ad13,n13,c13,ae13,m13,d13,rfl⟩:=Rq.form (st.f 1 rfl)
 replace hF:=hF.add e21
 clear e21
 obtain⟨b14,ad14,n14,c14,ae14,m14,d14,rfl⟩:=Rq.form (st.f 0 rfl)
 replace hF:=hF.add e23
 clear e23
 replace hF:=hF.add e9
 clear e9
 replace hF:=hF.add e10
 clear e10
 replace hF:=hF.add e11
 clear e11
 refine S.sto st hF 2 rfl (hF.at 2 rfl) (hF.at 5 rfl) ty_Rat rfl rfl rfl rfl fun w15 a st hF=>?_
 refine S.sto st hF 1 rfl (hF.at 1 rfl) (hF.at 4 rfl) ty_Rat rfl rfl rfl rfl fun w16 a st hF=>?_
 refine S.sto st hF 0 rfl (hF.at 0 rfl) (hF.at 3 rfl) ty_Rat rfl rfl rfl rfl fun w17 a st hF=>?_
 refine E.nil ?_
 refine wp_seq ?_
 refine E.seq ?_
 refine S.newC st hF sz_int ze_int rfl rfl fun g12 w18 a st hF=>?_
 refine E.nil ?_
 refine wp_seq ?_
 refine E.seq ?_
 refine E.opv hF (r_load (hF.at 3 rfl) (ld_all ty_Rat (st.bk 3 rfl) rfl)) rfl rfl rfl rfl fun a hF=>?_
 refine E.opv hF (r_load (hF.at 3 rfl) (ld_all ty_Rat (st.bk 2 rfl) rfl)) rfl rfl rfl rfl fun a hF=>?_
 refine E.opv hF (r_move (hF.at 18 rfl)) rfl rfl rfl rfl fun a hF=>?_
 refine E.opv hF (r_makeFunc map0 (map2 (hF.at 3 rfl) (hF.at 4 rfl))) rfl rfl rfl rfl fun a hF=>?_
 refine E.call hF (r_call Try.func6 en6.1 en6.2 (map4s (hF.at 3 rfl) (hF.at 2 rfl) (hF.at 1 rfl) (hF.at 0 rfl))) (bis2_any w [(g12,[.int .i64 0]),(g11,[.bool b14,.slice ad14 n14 c14,.slice ae14 m14 d14]),(g10,[.bool b13,.slice ad13 n13 c13,.slice ae13 m13 d13]),(g9,[.bool b12,.slice ad12 n12 c12,.slice ae12 m12 d12]),(g6,[.bool nega3,.slice aa3 na3 ca3,.bool negb3,.slice ab3 nb3 cb3]),(g5,[.bool nega2,.slice aa2 na2 ca2,.bool negb2,.slice ab2 nb2 cb2]),(g4,[.bool nega1,.slice aa1 na1 ca1,.bool negb1,.slice ab1 nb1 cb1])] _ 0 g12 _ _ (((rawZ nega1 xa1 2:Int):Rat)/((rawZ negb1 xb1 2:Int):Rat)) (((rawZ nega2 xa2 2:Int):Rat)/((rawZ negb2 xb2 2:Int):Rat)) 2 2 dh N _ _ (gep (((rawZ nega3 xa3 2:Int):Rat)/((rawZ negb3 xb3 2:Int):Rat))) _ ((st.add (st.f 1 rfl) (Rq.cl _)).add (st.f 2 rfl) (Rq.cl _)) (clU1 Rq.clU (clU1 Rq.clU (clU1 Rq.clU clU0))) (own5_lim nega1 negb1 oka1 okb1 2 (by decide)) (own5_lim nega2 negb2 oka2 okb2 2 (by decide)) (by decide) (by decide) hN hN2 (askB (ir:=1) 0 (Nat.zero_lt_succ _) rfl (by decide) rfl (clU1 Rq.clU (clU1 Rq.clU (clU1 Rq.clU clU0))) ((own5_lim nega3 negb3 oka3 okb3 2 (by decide)).up 14 (by decide)) (by decide))) rfl rfl rfl rfl ?_
 rintro e w23 ⟨vv19,vv20,rfl,st⟩
 refine⟨_,rfl,?_⟩
 intro a hF
 obtain⟨b24,ad24,n24,c24,ae24,m24,d24,rfl⟩:=Rq.form (st.f 0 rfl)
 obtain⟨b25,ad25,n25,c25,ae25,m25,d25,rfl⟩:=Rq.form (st.f 1 rfl)
 refine E.opv hF (r_move (hF.at 0 rfl)) rfl rfl rfl rfl fun a hF=>?_
 refine E.opv hF (r_extract (v:= .agg #[.bool b24,.slice ad24 n24 c24,.slice ae24 m24 d24]) (hF.at 0 rfl) rfl) rfl rfl rfl rfl fun a hF=>?_
 refine E.opv hF (r_extract (v:= .agg #[.bool b25,.slice ad25 n25 c25,.slice ae25 m25 d25]) (hF.at 1 rfl) rfl) rfl rfl rfl rfl fun a hF=>?_
 refine S.alloc st hF ty_Rat rfl rfl fun g13 w26 a st hF=>?_
 refine S.alloc st hF ty_Rat rfl rfl fun g14 w27 a st hF=>?_
 refine S.sto st hF 1 rfl (hF.at 1 rfl) (hF.at 3 rfl) ty_Rat rfl rfl rfl rfl fun w28 a st hF=>?_
 refine S.sto st hF 0 rfl (hF.at 0 rfl) (hF.at 2 rfl) ty_Rat rfl rfl rfl rfl fun w29 a st hF=>?_
 refine E.nil ?_
 refine wp_seq ?_
 refine E.seq ?_
 refine S.call st hF (r_call Try.func9 en9.1 en9.2 (map1 ev_c)) (rWhole_any (1) _ (by decide) (by decide)) (fun _ _ h=>h) Rq.cl rfl rfl rfl rfl fun vv31 w30 a st hF=>?_
 obtain⟨b33,ad33,n33,c33,ae33,m33,d33,rfl⟩:=Rq.form (st.f 0 rfl)
 refine S.new st hF 0 rfl ty_Rat rfl rfl rfl rfl rfl fun g15 w34 a st hF=>?_
 refine E.nil ?_
 refine wp_seq ?_
 refine wp_seq ?_
 refine E.seq ?_
 refine E.opv hF (r_move (hF.at 28 rfl)) rfl rfl rfl rfl fun a hF=>?_
 refine E.opv hF (r_builtin (map2 (hF.at 0 rfl) ev_c) bl_min) rfl rfl rfl rfl fun a hF=>?_
 refine E.opv hF (r_builtin (map2 ev_c (hF.at 0 rfl)) bl_max) rfl rfl rfl rfl fun a hF=>?_
 refine E.opv hF (r_move ev_c) rfl rfl rfl rfl fun a hF=>?_
 refine E.nil ?_
 refine wp_block ?_
 replace hF:Fr 82 a [(36,.int .i64 ((0:Nat):Int)),(35,.int .i64 (max 0 (min dh 64))),(34,.int .i64 (min dh 64)),(33,.int .i64 dh),(15,.pointer (some ⟨g15,0,none⟩)),(32,.agg #[.bool b33,.slice ad33 n33 c33,.slice ae33 m33 d33]),(14,.pointer (some ⟨g14,0,none⟩)),(13,.pointer (some ⟨g13,0,none⟩)),(31,.agg #[.bool b25,.slice ad25 n25 c25,.slice ae25 m25 d25]),(30,.agg #[.bool b24,.slice ad24 n24 c24,.slice ae24 m24 d24]),(24,.tuple #[.agg #[.bool b24,.slice ad24 n24 c24,.slice ae24 m24 d24],.agg #[.bool b25,.slice ad25 n25 c25,.slice ae25 m25 d25]]),(29,.tuple #[.agg #[.bool b24,.slice ad24 n24 c24,.slice ae24 m24 d24],.agg #[.bool b25,.slice ad25 n25 c25,.slice ae25 m25 d25]]),(28,.func (.func 7) #[] #[.pointer (some ⟨g12,0,none⟩),.pointer (some ⟨g11,0,none⟩)]),(27,.int .i64 dh),(26,.agg #[.bool b13,.slice ad13 n13 c13,.slice ae13 m13 d13]),(25,.agg #[.bool b12,.slice ad12 n12 c12,.slice ae12 m12 d12]),(12,.pointer (some ⟨g12,0,none⟩)),(11,.pointer (some ⟨g11,0,none⟩)),(10,.pointer (some ⟨g10,0,none⟩)),(9,.pointer (some ⟨g9,0,none⟩)),(23,.agg #[.bool b14,.slice ad14 n14 c14,.slice ae14 m14 d14]),(21,.agg #[.bool b13,.slice ad13 n13 c13,.slice ae13 m13 d13]),(19,.agg #[.bool b12,.slice ad12 n12 c12,.slice ae12 m12 d12]),(17,.bool false),(16,.bool true),(8,.bool false),(6,.pointer (some ⟨g6,0,none⟩)),(5,.pointer (some ⟨g5,0,none⟩)),(4,.pointer (some ⟨g4,0,none⟩)),(0,.agg #[.bool nega1,.slice aa1 na1 ca1,.bool negb1,.slice ab1 nb1 cb1]),(1,.agg #[.bool nega2,.slice aa2 na2 ca2,.bool negb2,.slice ab2 nb2 cb2]),(2,.agg #[.bool nega3,.slice aa3 na3 ca3,.bool negb3,.slice ab3 nb3 cb3]),(3,.int .i64 dh)]:=by rw[show(((0:Nat)):Int)=0 from rfl];exact hF
 refine E.loop (fun mq a wv=>∃(i:Nat) (bb:Bool) (aa:Option Addr) (nn:Nat) (cc:Nat) (ee:Option Addr) (mm:Nat) (dd:Nat),i≤N∧Fr 82 a [(36,.int .i64 ((i:Nat):Int)),(35,.int .i64 (max 0 (min dh 64))),(15,.pointer (some ⟨g15,0,none⟩)),(14,.pointer (some ⟨g14,0,none⟩)),(13,.pointer (some ⟨g13,0,none⟩)),(12,.pointer (some ⟨g12,0,none⟩)),(11,.pointer (some ⟨g11,0,none⟩)),(10,.pointer (some ⟨g10,0,none⟩)),(9,.pointer (some ⟨g9,0,none⟩)),(8,.bool false),(3,.int .i64 dh)]∧St w wv [(g15,[.bool bb,.slice aa nn cc,.slice ee mm dd]),(g14,[.bool b25,.slice ad25 n25 c25,.slice ae25 m25 d25]),(g13,[.bool b24,.slice ad24 n24 c24,.slice ae24 m24 d24]),(g12,[.int .i64 ((N:Nat):Int)]),(g11,[.bool b14,.slice ad14 n14 c14,.slice ae14 m14 d14]),(g10,[.bool b13,.slice ad13 n13 c13,.slice ae13 m13 d13]),(g9,[.bool b12,.slice ad12 n12 c12,.slice ae12 m12 d12])] [fun w=>Rq w (.agg #[.bool bb,.slice aa nn cc,.slice ee mm dd]) (tw i),fun w=>Rq w (.agg #[.bool b12,.slice ad12 n12 c12,.slice ae12 m12 d12]) (((rawZ nega1 xa1 2:Int):Rat)/((rawZ negb1 xb1 2:Int):Rat)),fun w=>Rq w (.agg #[.bool b13,.slice ad13 n13 c13,.slice ae13 m13 d13]) (((rawZ nega2 xa2 2:Int):Rat)/((rawZ negb2 xb2 2:Int):Rat)),fun w=>Rq w (.agg #[.bool b14,.slice ad14 n14 c14,.slice ae14 m14 d14]) (((rawZ nega3 xa3 2:Int):Rat)/((rawZ negb3 xb3 2:Int):Rat)),fun w=>Rq w (.agg #[.bool b24,.slice ad24 n24 c24,.slice ae24 m24 d24]) (hlo (gep (((rawZ nega3 xa3 2:Int):Rat)/((rawZ negb3 xb3 2:Int):Rat))) (((rawZ nega1 xa1 2:Int):Rat)/((rawZ negb1 xb1 2:Int):Rat)) (((rawZ nega2 xa2 2:Int):Rat)/((rawZ negb2 xb2 2:Int):Rat)) N),fun w=>Rq w (.agg #[.bool b25,.slice ad25 n25 c25,.slice ae25 m25 d25]) (hhi (gep (((rawZ nega3 xa3 2:Int):Rat)/((rawZ negb3 xb3 2:Int):Rat))) (((rawZ nega1 xa1 2:Int):Rat)/((rawZ negb1 xb1 2:Int):Rat)) (((rawZ nega2 xa2 2:Int):Rat)/((rawZ negb2 xb2 2:Int):Rat)) N)]∧mq=N-i) ((N-0)) ?_ ?_
 ·exact⟨0,_,_,_,_,_,_,_,(Nat.zero_le _),Fr.pick (L':=[(36,.int .i64 ((0:Nat):Int)),(35,.int .i64 (max 0 (min dh 64))),(15,.pointer (some ⟨g15,0,none⟩)),(14,.pointer (some ⟨g14,0,none⟩)),(13,.pointer (some ⟨g13,0,none⟩)),(12,.pointer (some ⟨g12,0,none⟩)),(11,.pointer (some ⟨g11,0,none⟩)),(10,.pointer (some ⟨g10,0,none⟩)),(9,.pointer (some ⟨g9,0,none⟩)),(8,.bool false),(3,.int .i64 dh)]) hF [0,1,4,6,7,16,17,18,19,25,32] rfl,(st.add (Rq.castM (st.f 0 rfl) tw_zero) (Rq.cl _)).pick [0,1,2,3,4,5,6] [0,6,5,4,2,3] rfl rfl (by decide),rfl⟩
 ·rintro mq a w35 ⟨i,bb,aa,nn,cc,ee,mm,dd,hi,hF,st,hm⟩
  refine wp_seq ?_
  refine E.seq ?_
  by_cases hc36:((i:Nat):Int)<max 0 (min dh 64)
  ·refine E.opv hF (r_bin (hF.at 0 rfl) (hF.at 1 rfl) eg_scalar (bi_int (ic_lss (c:=true) (dec_tt hc36)) (by simp))) rfl rfl rfl rfl fun a hF=>?_
   refine E.nil ?_
   refine wp_seq ?_
   refine wp_cond_true (hF.at 0 rfl) ?_
   refine wp_skip ?_
   refine E.norm ?_
   refine wp_seq ?_
   refine wp_block ?_
   refine E.seq ?_
   refine E.opv hF (r_load (hF.at 3 rfl) (ld_all ty_Rat (st.bk 0 rfl) rfl)) rfl rfl rfl rfl fun a hF=>?_
   refine E.opv hF (r_load (hF.at 4 rfl) (ld_all ty_Rat (st.bk 0 rfl) rfl)) rfl rfl rfl rfl fun a hF=>?_
   refine S.call st hF (r_call Try.func10 en10.1 en10.2 (map2 (hF.at 1 rfl) (hF.at 0 rfl))) (rAdd_any _ _ (tw i) (tw i) 3 _ (st.f 0 rfl) (st.f 0 rfl) ((tw_lim (i:=i) (by omega)).up _ (by omega)) ((tw_lim (i:=i) (by omega)).up _ (by omega)) (by omega)) (fun _ _ h=>h) Rq.cl rfl rfl rfl rfl fun vv38 w37 a st hF=>?_
   obtain⟨b40,ad40,n40,c40,ae40,m40,d40,rfl⟩:=Rq.form (st.f 0 rfl)
   refine S.sto st hF 0 rfl (hF.at 6 rfl) (hF.at 0 rfl) ty_Rat rfl rfl rfl rfl fun w41 a st hF=>?_
   refine E.nil0 ?_
   refine E.blk ?_
   refine E.norm ?_
   refine E.seq ?_
   refine E.opv hF (r_bin (hF.at 4 rfl) ev_c eg_scalar (ia_add (by omega) (by omega))) rfl rfl rfl rfl fun a hF=>?_
   refine E.opset (L':=[(36,.int .i64 (((i:Nat):Int)+1)),(41,.int .i64 (((i:Nat):Int)+1)),(40,.agg #[.bool b40,.slice ad40 n40 c40,.slice ae40 m40 d40]),(39,.agg #[.bool bb,.slice aa nn cc,.slice ee mm dd]),(38,.agg #[.bool bb,.slice aa nn cc,.slice ee mm dd]),(37,.bool true),(35,.int .i64 (max 0 (min dh 64))),(15,.pointer (some ⟨g15,0,none⟩)),(14,.pointer (some ⟨g14,0,none⟩)),(13,.pointer (some ⟨g13,0,none⟩)),(12,.pointer (some ⟨g12,0,none⟩)),(11,.pointer (some ⟨g11,0,none⟩)),(10,.pointer (some ⟨g10,0,none⟩)),(9,.pointer (some ⟨g9,0,none⟩)),(8,.bool false),(3,.int .i64 dh)]) hF (r_move (hF.at 0 rfl)) rfl rfl rfl rfl fun a hF=>?_
   refine E.nil0 ?_
   refine E.norm ?_
   replace hF:Fr 82 a [(36,.int .i64 ((i+1:Nat):Int)),(41,.int .i64 (((i:Nat):Int)+1)),(40,.agg #[.bool b40,.slice ad40 n40 c40,.slice ae40 m40 d40]),(39,.agg #[.bool bb,.slice aa nn cc,.slice ee mm dd]),(38,.agg #[.bool bb,.slice aa nn cc,.slice ee mm dd]),(37,.bool true),(35,.int .i64 (max 0 (min dh 64))),(15,.pointer (some ⟨g15,0,none⟩)),(14,.pointer (some ⟨g14,0,none⟩)),(13,.pointer (some ⟨g13,0,none⟩)),(12,.pointer (some ⟨g12,0,none⟩)),(11,.pointer (some ⟨g11,0,none⟩)),(10,.pointer (some ⟨g10,0,none⟩)),(9,.pointer (some ⟨g9,0,none⟩)),(8,.bool false),(3,.int .i64 dh)]:=by rw[show((i+1:Nat):Int)=((i:Nat):Int)+1 from by omega];exact hF
   exact⟨(N-(i+1)),by omega,⟨(i+1),_,_,_,_,_,_,_,(by omega),Fr.pick (L':=[(36,.int .i64 ((i+1:Nat):Int)),(35,.int .i64 (max 0 (min dh 64))),(15,.pointer (some ⟨g15,0,none⟩)),(14,.pointer (some ⟨g14,0,none⟩)),(13,.pointer (some ⟨g13,0,none⟩)),(12,.pointer (some ⟨g12,0,none⟩)),(11,.pointer (some ⟨g11,0,none⟩)),(10,.pointer (some ⟨g10,0,none⟩)),(9,.pointer (some ⟨g9,0,none⟩)),(8,.bool false),(3,.int .i64 dh)]) hF [0,6,7,8,9,10,11,12,13,14,15] rfl,(st.add (Rq.castM (st.f 0 rfl) (tw_succ i)) (Rq.cl _)).pick [0,1,2,3,4,5,6] [0,3,4,5,6,7] rfl rfl (by decide),rfl⟩⟩
  ·refine E.opv hF (r_bin (hF.at 0 rfl) (hF.at 1 rfl) eg_scalar (bi_int (ic_lss (c:=false) (dec_ff hc36)) (by simp))) rfl rfl rfl rfl fun a hF=>?_
   refine E.nil ?_
   refine wp_seq ?_
   refine wp_cond_false (hF.at 0 rfl) ?_
   refine wp_exit ?_
   refine E.past ?_
   refine E.past ?_
   refine E.out (id:=0) ?_
   refine E.norm ?_
   refine wp_seq ?_
   refine wp_seq ?_
   refine E.drawn 17 mixed hF [42,43,44,45,46,47,48,49,50,51,52,53,54,55,56,57,58] [(fun _ v=>v= .int .i64 ((N:Nat):Int)),(fun _ v=>v= .int .i64 dh),(fun _ v=>v= .int .i64 (min dh 64)),(fun _ v=>v= .int .i64 (max 0 (min dh 64))),(fun _ v=>v= .bool false),(fun _ v=>v= .bool false),(fun _ v=>v= .agg #[.bool b25,.slice ad25 n25 c25,.slice ae25 m25 d25]),(fun _ v=>v= .agg #[.bool b24,.slice ad24 n24 c24,.slice ae24 m24 d24]),(fun w v=>Rq w v ((hhi (gep (((rawZ nega3 xa3 2:Int):Rat)/((rawZ negb3 xb3 2:Int):Rat))) (((rawZ nega1 xa1 2:Int):Rat)/((rawZ negb1 xb1 2:Int):Rat)) (((rawZ nega2 xa2 2:Int):Rat)/((rawZ negb2 xb2 2:Int):Rat)) N)-(hlo (gep (((rawZ nega3 xa3 2:Int):Rat)/((rawZ negb3 xb3 2:Int):Rat))) (((rawZ nega1 xa1 2:Int):Rat)/((rawZ negb1 xb1 2:Int):Rat)) (((rawZ nega2 xa2 2:Int):Rat)/((rawZ negb2 xb2 2:Int):Rat)) N))),(fun _ v=>v= .agg #[.bool bb,.slice aa nn cc,.slice ee mm dd]),(fun w v=>Rq w v (((hhi (gep (((rawZ nega3 xa3 2:Int):Rat)/((rawZ negb3 xb3 2:Int):Rat))) (((rawZ nega1 xa1 2:Int):Rat)/((rawZ negb1 xb1 2:Int):Rat)) (((rawZ nega2 xa2 2:Int):Rat)/((rawZ negb2 xb2 2:Int):Rat)) N)-(hlo (gep (((rawZ nega3 xa3 2:Int):Rat)/((rawZ negb3 xb3 2:Int):Rat))) (((rawZ nega1 xa1 2:Int):Rat)/((rawZ negb1 xb1 2:Int):Rat)) (((rawZ nega2 xa2 2:Int):Rat)/((rawZ negb2 xb2 2:Int):Rat)) N))*(tw i))),(fun _ v=>v= .agg #[.bool b13,.slice ad13 n13 c13,.slice ae13 m13 d13]),(fun _ v=>v= .agg #[.bool b12,.slice ad12 n12 c12,.slice ae12 m12 d12]),(fun w v=>Rq w v ((((rawZ nega2 xa2 2:Int):Rat)/((rawZ negb2 xb2 2:Int):Rat))-(((rawZ nega1 xa1 2:Int):Rat)/((rawZ negb1 xb1 2:Int):Rat)))),(fun _ v=>v= .bool true),(fun _ v=>v= .bool false),(fun _ v=>v= .bool false)] [] (by decide+kernel) (by decide+kernel) rfl rfl rfl ⟨(Mb.eq _),(Mb.eq _),(Mb.eq _),(Mb.eq _),(Mb.eq _),(Mb.eq _),(Mb.eq _),(Mb.eq _),(fun _ _ _ h hb=>h.below hb),(Mb.eq _),(fun _ _ _ h hb=>h.below hb),(Mb.eq _),(Mb.eq _),(fun _ _ _ h hb=>h.below hb),(Mb.eq _),(Mb.eq _),(Mb.eq _),trivial⟩ trivial ⟨?_,?_,?_,?_,?_,?_,?_,?_,?_,?_,?_,?_,?_,?_,?_,?_,?_,trivial⟩ ?_
   ·intro a' w' hF' hb hd
    exact dv0 (r_load (hF'.at 6 rfl) (ldb_int (v:= .int .i64 ((N:Nat):Int)) ((st.bk 3 rfl).below hb) rfl)) rfl rfl rfl
   ·intro a' w' hF' hb hd
    exact dv0 (r_move (hF'.at 11 rfl)) rfl rfl rfl
   ·intro a' w' hF' hb hd
    have e43:=sHe hd 0 43 rfl rfl rfl rfl
    exact dv0 (r_builtin (map2 e43 ev_c) bl_min) rfl rfl rfl
   ·intro a' w' hF' hb hd
    have e44:=sHe hd 0 44 rfl rfl rfl rfl
    exact dv0 (r_builtin (map2 ev_c e44) bl_max) rfl rfl rfl
   ·intro a' w' hF' hb hd
    have e42:=sHe hd 0 42 rfl rfl rfl rfl
    have e45:=sHe hd 1 45 rfl rfl rfl rfl
    exact dv0 (r_bin e42 e45 eg_scalar (bi_int (ic_neq (c:=false) (dec_ff (fun e=>e (by omega)))) (by simp))) rfl rfl rfl
   ·intro a' w' hF' hb hd
    have e46:=sHe hd 0 46 rfl rfl rfl rfl
    exact dv0 (r_move e46) rfl rfl rfl
   ·intro a' w' hF' hb hd
    have e47:=sHe hd 0 47 rfl rfl rfl rfl
    exact dv1 (wanted_by rfl rfl e47 rfl) (r_load (hF'.at 4 rfl) (ld_all ty_Rat ((st.bk 1 rfl).below hb) rfl)) rfl rfl
   ·intro a' w' hF' hb hd
    have e47:=sHe hd 0 47 rfl rfl rfl rfl
    exact dv1 (wanted_by rfl rfl e47 rfl) (r_load (hF'.at 5 rfl) (ld_all ty_Rat ((st.bk 2 rfl).below hb) rfl)) rfl rfl
   ·intro a' w' hF' hb hd
    have e47:=sHe hd 2 47 rfl rfl rfl rfl
    have e48:=sHe hd 0 48 rfl rfl rfl rfl
    have e49:=sHe hd 1 49 rfl rfl rfl rfl
    exact dc1 (wanted_by rfl rfl e47 rfl) (r_call Try.func11 en11.1 en11.2 (map2 e48 e49)) (rSub_any _ _ _ _ 14 _ ((st.f 5 rfl).below hb) ((st.f 4 rfl).below hb) ((hhi_lim (p:=(gep (((rawZ nega3 xa3 2:Int):Rat)/((rawZ negb3 xb3 2:Int):Rat)))) (i:=2) (j:=2) (own5_lim nega1 negb1 oka1 okb1 2 (by decide)) (own5_lim nega2 negb2 oka2 okb2 2 (by decide)) hN2).up _ (by omega)) ((hlo_lim (p:=(gep (((rawZ nega3 xa3 2:Int):Rat)/((rawZ negb3 xb3 2:Int):Rat)))) (i:=2) (j:=2) (own5_lim nega1 negb1 oka1 okb1 2 (by decide)) (own5_lim nega2 negb2 oka2 okb2 2 (by decide)) hN2).up _ (by omega)) (by omega)) rfl
   ·intro a' w' hF' hb hd
    have e47:=sHe hd 0 47 rfl rfl rfl rfl
    exact dv1 (wanted_by rfl rfl e47 rfl) (r_load (hF'.at 3 rfl) (ld_all ty_Rat ((st.bk 0 rfl).below hb) rfl)) rfl rfl
   ·intro a' w' hF' hb hd
    have e47:=sHe hd 3 47 rfl rfl rfl rfl
    obtain⟨v50_0,e50,h50_1⟩:=sH hd 0 50 rfl rfl rfl rfl
    have e51:=sHe hd 1 51 rfl rfl rfl rfl
    exact dc1 (wanted_by rfl rfl e47 rfl) (r_call Try.func12 en12.1 en12.2 (map2 e50 e51)) (rMul_any _ _ _ (tw i) (max (14+14+1) 3) _ h50_1 ((st.f 0 rfl).below hb) ((rlim_sub (hhi_lim (p:=(gep (((rawZ nega3 xa3 2:Int):Rat)/((rawZ negb3 xb3 2:Int):Rat)))) (i:=2) (j:=2) (own5_lim nega1 negb1 oka1 okb1 2 (by decide)) (own5_lim nega2 negb2 oka2 okb2 2 (by decide)) hN2) (hlo_lim (p:=(gep (((rawZ nega3 xa3 2:Int):Rat)/((rawZ negb3 xb3 2:Int):Rat)))) (i:=2) (j:=2) (own5_lim nega1 negb1 oka1 okb1 2 (by decide)) (own5_lim nega2 negb2 oka2 okb2 2 (by decide)) hN2)).up _ (by omega)) ((tw_lim (i:=i) (by omega)).up _ (by omega)) (by omega)) rfl
   ·intro a' w' hF' hb hd
    have e47:=sHe hd 0 47 rfl rfl rfl rfl
    exact dv1 (wanted_by rfl rfl e47 rfl) (r_load (hF'.at 8 rfl) (ld_all ty_Rat ((st.bk 5 rfl).below hb) rfl)) rfl rfl
   ·intro a' w' hF' hb hd
    have e47:=sHe hd 0 47 rfl rfl rfl rfl
    exact dv1 (wanted_by rfl rfl e47 rfl) (r_load (hF'.at 9 rfl) (ld_all ty_Rat ((st.bk 6 rfl).below hb) rfl)) rfl rfl
   ·intro a' w' hF' hb hd
    have e47:=sHe hd 3 47 rfl rfl rfl rfl
    have e53:=sHe hd 0 53 rfl rfl rfl rfl
    have e54:=sHe hd 1 54 rfl rfl rfl rfl
    exact dc1 (wanted_by rfl rfl e47 rfl) (r_call Try.func11 en11.1 en11.2 (map2 e53 e54)) (rSub_any _ _ _ _ 2 _ ((st.f 2 rfl).below hb) ((st.f 1 rfl).below hb) ((own5_lim nega2 negb2 oka2 okb2 2 (by decide)).up _ (by omega)) ((own5_lim nega1 negb1 oka1 okb1 2 (by decide)).up _ (by omega)) (by omega)) rfl
   ·intro a' w' hF' hb hd
    have e47:=sHe hd 3 47 rfl rfl rfl rfl
    obtain⟨v52_0,e52,h52_1⟩:=sH hd 0 52 rfl rfl rfl rfl
    obtain⟨v55_0,e55,h55_1⟩:=sH hd 1 55 rfl rfl rfl rfl
    exact dcx1 (wanted_by rfl rfl e47 rfl) (r_call Try.func13 en13.1 en13.2 (map2 e52 e55)) (rSame_true _ _ _ _ _ h52_1 h55_1 (bis_len _ _ _ (by omega))) (fun _=>rfl) rfl
   ·intro a' w' hF' hb hd
    have e47:=sHe hd 1 47 rfl rfl rfl rfl
    have e56:=sHe hd 0 56 rfl rfl rfl rfl
    exact dv1 (wanted_by rfl rfl e47 rfl) (r_un e56 (bn_not _ false rfl)) rfl rfl
   ·intro a' w' hF' hb hd
    have e47:=sHe hd 0 47 rfl rfl rfl rfl
    have e57:=sHe hd 1 57 rfl rfl rfl rfl
    exact dv0 (r_pick_f e47 e57) rfl rfl rfl
   intro a w42 hF bb hall hne
   replace st:=st.to bb
   have e58:=sSe hall 16 58 rfl rfl
   clear hall hne bb
   replace hF:=hF.add e58
   clear e58
   refine E.nil ?_
   refine wp_cond_false (hF.at 0 rfl) ?_
   refine wp_skip ?_
   refine E.norm ?_
   refine wp_seq ?_
   refine E.seq ?_
   refine E.opv hF (r_load (hF.at 10 rfl) (ld_all ty_Rat (st.bk 6 rfl) rfl)) rfl rfl rfl rfl fun a hF=>?_
   refine E.opv hF (r_load (hF.at 9 rfl) (ld_all ty_Rat (st.bk 4 rfl) rfl)) rfl rfl rfl rfl fun a hF=>?_
   refine S.callx st hF (r_call Try.func8 en8.1 en8.2 (map2 (hF.at 1 rfl) (hF.at 0 rfl))) (rCmp_any _ _ _ _ 2 _ (st.f 1 rfl) (st.f 3 rfl) ((own5_lim nega1 negb1 oka1 okb1 2 (by decide)).up _ (by omega)) ((own5_lim nega3 negb3 oka3 okb3 2 (by decide)).up _ (by omega)) (by omega)) rfl rfl rfl rfl fun w43 a st hF=>?_
   by_cases hc44:qc (((rawZ nega1 xa1 2:Int):Rat)/((rawZ negb1 xb1 2:Int):Rat)) (((rawZ nega3 xa3 2:Int):Rat)/((rawZ negb3 xb3 2:Int):Rat))<0
   ·refine E.opv hF (r_bin (hF.at 0 rfl) ev_c eg_scalar (bi_int (ic_lss (c:=true) (dec_tt hc44)) (by simp))) rfl rfl rfl rfl fun a hF=>?_
    refine E.opv hF (r_move (hF.at 0 rfl)) rfl rfl rfl rfl fun a hF=>?_
    refine E.opvg hF (r_load (hF.at 13 rfl) (ld_all ty_Rat (st.bk 4 rfl) rfl)) (wanted_by rfl rfl (hF.at 0 rfl) rfl) rfl rfl rfl fun a hF=>?_
    refine E.opvg hF (r_load (hF.at 15 rfl) (ld_all ty_Rat (st.bk 5 rfl) rfl)) (wanted_by rfl rfl (hF.at 1 rfl) rfl) rfl rfl rfl fun a hF=>?_
    refine S.callxg st hF (wanted_by rfl rfl (hF.at 2 rfl) rfl) (r_call Try.func8 en8.1 en8.2 (map2 (hF.at 1 rfl) (hF.at 0 rfl))) (rCmp_any _ _ _ _ 2 _ (st.f 3 rfl) (st.f 2 rfl) ((own5_lim nega3 negb3 oka3 okb3 2 (by decide)).up _ (by omega)) ((own5_lim nega2 negb2 oka2 okb2 2 (by decide)).up _ (by omega)) (by omega)) rfl rfl rfl fun w45 a st hF=>?_
    by_cases hc46:qc (((rawZ nega3 xa3 2:Int):Rat)/((rawZ negb3 xb3 2:Int):Rat)) (((rawZ nega2 xa2 2:Int):Rat)/((rawZ negb2 xb2 2:Int):Rat))≤0
    ·refine E.opvg hF (r_bin (hF.at 0 rfl) ev_c eg_scalar (bi_int (ic_leq (c:=true) (dec_tt hc46)) (by simp))) (wanted_by rfl rfl (hF.at 3 rfl) rfl) rfl rfl rfl fun a hF=>?_
     refine E.opv hF (r_pick_t (hF.at 4 rfl) (hF.at 0 rfl)) rfl rfl rfl rfl fun a hF=>?_
     refine E.opv hF (r_un (hF.at 0 rfl) (bn_not _ false rfl)) rfl rfl rfl rfl fun a hF=>?_
     refine E.opv hF (r_move (hF.at 0 rfl)) rfl rfl rfl rfl fun a hF=>?_
     refine E.opvg hF (r_load (hF.at 18 rfl) (ld_all ty_Rat (st.bk 2 rfl) rfl)) (wanted_by rfl rfl (hF.at 0 rfl) rfl) rfl rfl rfl fun a hF=>?_
     refine E.opvg hF (r_load (hF.at 21 rfl) (ld_all ty_Rat (st.bk 4 rfl) rfl)) (wanted_by rfl rfl (hF.at 1 rfl) rfl) rfl rfl rfl fun a hF=>?_
     refine S.callxg st hF (wanted_by rfl rfl (hF.at 2 rfl) rfl) (r_call Try.func8 en8.1 en8.2 (map2 (hF.at 1 rfl) (hF.at 0 rfl))) (rCmp_any _ _ _ _ (max 14 2) _ (st.f 4 rfl) (st.f 3 rfl) ((hlo_lim (p:=(gep _)) (i:=2) (j:=2) (own5_lim nega1 negb1 oka1 okb1 2 (by decide)) (own5_lim nega2 negb2 oka2 okb2 2 (by decide)) hN2).up _ (by omega)) ((own5_lim nega3 negb3 oka3 okb3 2 (by decide)).up _ (by omega)) (by omega)) rfl rfl rfl fun w47 a st hF=>?_
     refine E.opvg hF (r_bin (hF.at 0 rfl) ev_c eg_scalar (bi_int (ic_lss (c:=true) (dec_tt (bis_lo _ hc44))) (by simp))) (wanted_by rfl rfl (hF.at 3 rfl) rfl) rfl rfl rfl fun a hF=>?_
     refine E.opvg hF (r_move (hF.at 0 rfl)) (wanted_by rfl rfl (hF.at 4 rfl) rfl) rfl rfl rfl fun a hF=>?_
     refine E.opvg hF (r_load (hF.at 25 rfl) (ld_all ty_Rat (st.bk 4 rfl) rfl)) (wanted_by rfl rfl (hF.at 0 rfl) rfl) rfl rfl rfl fun a hF=>?_
     refine E.opvg hF (r_load (hF.at 23 rfl) (ld_all ty_Rat (st.bk 1 rfl) rfl)) (wanted_by rfl rfl (hF.at 1 rfl) rfl) rfl rfl rfl fun a hF=>?_
     refine S.callxg st hF (wanted_by rfl rfl (hF.at 2 rfl) rfl) (r_call Try.func8 en8.1 en8.2 (map2 (hF.at 1 rfl) (hF.at 0 rfl))) (rCmp_any _ _ _ (hhi (gep _) (((rawZ nega1 xa1 2:Int):Rat)/((rawZ negb1 xb1 2:Int):Rat)) (((rawZ nega2 xa2 2:Int):Rat)/((rawZ negb2 xb2 2:Int):Rat)) N) (max 2 14) _ (st.f 3 rfl) (st.f 5 rfl) ((own5_lim nega3 negb3 oka3 okb3 2 (by decide)).up _ (by omega)) ((hhi_lim (p:=(gep _)) (i:=2) (j:=2) (own5_lim nega1 negb1 oka1 okb1 2 (by decide)) (own5_lim nega2 negb2 oka2 okb2 2 (by decide)) hN2).up _ (by omega)) (by omega)) rfl rfl rfl fun w48 a st hF=>?_
     refine E.opvg hF (r_bin (hF.at 0 rfl) ev_c eg_scalar (bi_int (ic_leq (c:=true) (dec_tt (bis_hi _ hc46))) (by simp))) (wanted_by rfl rfl (hF.at 3 rfl) rfl) rfl rfl rfl fun a hF=>?_
     refine E.opvg hF (r_pick_t (hF.at 4 rfl) (hF.at 0 rfl)) (wanted_by rfl rfl (hF.at 9 rfl) rfl) rfl rfl rfl fun a hF=>?_
     refine E.opv hF (r_pick_f (hF.at 10 rfl) (hF.at 0 rfl)) rfl rfl rfl rfl fun a hF=>?_
     refine E.opset (L':=[(8,.bool true),(81,.bool true),(80,.bool true),(79,.bool true),(78,.int .i64 (qc (((rawZ nega3 xa3 2:Int):Rat)/((rawZ negb3 xb3 2:Int):Rat)) (hhi (gep (((rawZ nega3 xa3 2:Int):Rat)/((rawZ negb3 xb3 2:Int):Rat))) (((rawZ nega1 xa1 2:Int):Rat)/((rawZ negb1 xb1 2:Int):Rat)) (((rawZ nega2 xa2 2:Int):Rat)/((rawZ negb2 xb2 2:Int):Rat)) N))),(77,.agg #[.bool b25,.slice ad25 n25 c25,.slice ae25 m25 d25]),(76,.agg #[.bool b14,.slice ad14 n14 c14,.slice ae14 m14 d14]),(75,.bool true),(74,.bool true),(73,.int .i64 (qc (hlo (gep (((rawZ nega3 xa3 2:Int):Rat)/((rawZ negb3 xb3 2:Int):Rat))) (((rawZ nega1 xa1 2:Int):Rat)/((rawZ negb1 xb1 2:Int):Rat)) (((rawZ nega2 xa2 2:Int):Rat)/((rawZ negb2 xb2 2:Int):Rat)) N) (((rawZ nega3 xa3 2:Int):Rat)/((rawZ negb3 xb3 2:Int):Rat)))),(72,.agg #[.bool b14,.slice ad14 n14 c14,.slice ae14 m14 d14]),(71,.agg #[.bool b24,.slice ad24 n24 c24,.slice ae24 m24 d24]),(70,.bool false),(69,.bool false),(68,.bool true),(67,.bool true),(66,.int .i64 (qc (((rawZ nega3 xa3 2:Int):Rat)/((rawZ negb3 xb3 2:Int):Rat)) (((rawZ nega2 xa2 2:Int):Rat)/((rawZ negb2 xb2 2:Int):Rat)))),(65,.agg #[.bool b13,.slice ad13 n13 c13,.slice ae13 m13 d13]),(64,.agg #[.bool b14,.slice ad14 n14 c14,.slice ae14 m14 d14]),(63,.bool true),(62,.bool true),(61,.int .i64 (qc (((rawZ nega1 xa1 2:Int):Rat)/((rawZ negb1 xb1 2:Int):Rat)) (((rawZ nega3 xa3 2:Int):Rat)/((rawZ negb3 xb3 2:Int):Rat)))),(60,.agg #[.bool b14,.slice ad14 n14 c14,.slice ae14 m14 d14]),(59,.agg #[.bool b12,.slice ad12 n12 c12,.slice ae12 m12 d12]),(58,.bool false),(37,.bool false),(36,.int .i64 ((i:Nat):Int)),(35,.int .i64 (max 0 (min dh 64))),(15,.pointer (some ⟨g15,0,none⟩)),(14,.pointer (some ⟨g14,0,none⟩)),(13,.pointer (some ⟨g13,0,none⟩)),(12,.pointer (some ⟨g12,0,none⟩)),(11,.pointer (some ⟨g11,0,none⟩)),(10,.pointer (some ⟨g10,0,none⟩)),(9,.pointer (some ⟨g9,0,none⟩)),(3,.int .i64 dh)]) hF (r_assign (hF.at 0 rfl)) rfl rfl rfl rfl fun a hF=>?_
     refine E.nil ?_
     refine wp_ret ?_
     have bel:=st.bel
     refine bodyPost_ret (res_tmp Try.results3 (hF.at 0 rfl)) hF.dfr ?_
     exact⟨rfl,bel⟩
    ·refine E.opvg hF (r_bin (hF.at 0 rfl) ev_c eg_scalar (bi_int (ic_leq (c:=false) (dec_ff hc46)) (by simp))) (wanted_by rfl rfl (hF.at 3 rfl) rfl) rfl rfl rfl fun a hF=>?_
     refine E.opv hF (r_pick_t (hF.at 4 rfl) (hF.at 0 rfl)) rfl rfl rfl rfl fun a hF=>?_
     refine E.opv hF (r_un (hF.at 0 rfl) (bn_not _ true rfl)) rfl rfl rfl rfl fun a hF=>?_
     refine E.opv hF (r_move (hF.at 0 rfl)) rfl rfl rfl rfl fun a hF=>?_
     refine E.unwanted hF (wanted_by rfl rfl (hF.at 0 rfl) rfl) rfl rfl rfl fun a hF=>?_
     refine E.unwanted hF (wanted_by rfl rfl (hF.at 1 rfl) rfl) rfl rfl rfl fun a hF=>?_
     refine E.unwanted hF (wanted_by rfl rfl (hF.at 2 rfl) rfl) rfl rfl rfl fun a hF=>?_
     refine E.unwanted hF (wanted_by rfl rfl (hF.at 3 rfl) rfl) rfl rfl rfl fun a hF=>?_
     refine E.unwanted hF (wanted_by rfl rfl (hF.at 4 rfl) rfl) rfl rfl rfl fun a hF=>?_
     refine E.unwanted hF (wanted_undef rfl rfl (hF.at 0 rfl)) rfl rfl rfl fun a hF=>?_
     refine E.unwanted hF (wanted_undef rfl rfl (hF.at 1 rfl)) rfl rfl rfl fun a hF=>?_
     refine E.unwanted hF (wanted_undef rfl rfl (hF.at 2 rfl)) rfl rfl rfl fun a hF=>?_
     refine E.unwanted hF (wanted_undef rfl rfl (hF.at 3 rfl)) rfl rfl rfl fun a hF=>?_
     refine E.unwanted hF (wanted_by rfl rfl (hF.at 9 rfl) rfl) rfl rfl rfl fun a hF=>?_
     refine E.opv hF (r_pick_t (hF.at 10 rfl) ev_c) rfl rfl rfl rfl fun a hF=>?_
     refine E.opset (L':=[(8,.bool true),(81,.bool true),(80,undef),(79,undef),(78,undef),(77,undef),(76,undef),(75,undef),(74,undef),(73,undef),(72,undef),(71,undef),(70,.bool true),(69,.bool true),(68,.bool false),(67,.bool false),(66,.int .i64 (qc (((rawZ nega3 xa3 2:Int):Rat)/((rawZ negb3 xb3 2:Int):Rat)) (((rawZ nega2 xa2 2:Int):Rat)/((rawZ negb2 xb2 2:Int):Rat)))),(65,.agg #[.bool b13,.slice ad13 n13 c13,.slice ae13 m13 d13]),(64,.agg #[.bool b14,.slice ad14 n14 c14,.slice ae14 m14 d14]),(63,.bool true),(62,.bool true),(61,.int .i64 (qc (((rawZ nega1 xa1 2:Int):Rat)/((rawZ negb1 xb1 2:Int):Rat)) (((rawZ nega3 xa3 2:Int):Rat)/((rawZ negb3 xb3 2:Int):Rat)))),(60,.agg #[.bool b14,.slice ad14 n14 c14,.slice ae14 m14 d14]),(59,.agg #[.bool b12,.slice ad12 n12 c12,.slice ae12 m12 d12]),(58,.bool false),(37,.bool false),(36,.int .i64 ((i:Nat):Int)),(35,.int .i64 (max 0 (min dh 64))),(15,.pointer (some ⟨g15,0,none⟩)),(14,.pointer (some ⟨g14,0,none⟩)),(13,.pointer (some ⟨g13,0,none⟩)),(12,.pointer (some ⟨g12,0,none⟩)),(11,.pointer (some ⟨g11,0,none⟩)),(10,.pointer (some ⟨g10,0,none⟩)),(9,.pointer (some ⟨g9,0,none⟩)),(3,.int .i64 dh)]) hF (r_assign (hF.at 0 rfl)) rfl rfl rfl rfl fun a hF=>?_
     refine E.nil ?_
     refine wp_ret ?_
     have bel:=st.bel
     refine bodyPost_ret (res_tmp Try.results3 (hF.at 0 rfl)) hF.dfr ?_
     exact⟨rfl,bel⟩
   ·refine E.opv hF (r_bin (hF.at 0 rfl) ev_c eg_scalar (bi_int (ic_lss (c:=false) (dec_ff hc44)) (by simp))) rfl rfl rfl rfl fun a hF=>?_
    refine E.opv hF (r_move (hF.at 0 rfl)) rfl rfl rfl rfl fun a hF=>?_
    refine E.unwanted hF (wanted_by rfl rfl (hF.at 0 rfl) rfl) rfl rfl rfl fun a hF=>?_
    refine E.unwanted hF (wanted_by rfl rfl (hF.at 1 rfl) rfl) rfl rfl rfl fun a hF=>?_
    refine E.unwanted hF (wanted_by rfl rfl (hF.at 2 rfl) rfl) rfl rfl rfl fun a hF=>?_
    refine E.unwanted hF (wanted_by rfl rfl (hF.at 3 rfl) rfl) rfl rfl rfl fun a hF=>?_
    refine E.opv hF (r_pick_f (hF.at 4 rfl) ev_c) rfl rfl rfl rfl fun a hF=>?_
    refine E.opv hF (r_un (hF.at 0 rfl) (bn_not _ true rfl)) rfl rfl rfl rfl fun a hF=>?_
    refine E.opv hF (r_move (hF.at 0 rfl)) rfl rfl rfl rfl fun a hF=>?_
    refine E.unwanted hF (wanted_by rfl rfl (hF.at 0 rfl) rfl) rfl rfl rfl fun a hF=>?_
    refine E.unwanted hF (wanted_by rfl rfl (hF.at 1 rfl) rfl) rfl rfl rfl fun a hF=>?_
    refine E.unwanted hF (wanted_by rfl rfl (hF.at 2 rfl) rfl) rfl rfl rfl fun a hF=>?_
    refine E.unwanted hF (wanted_by rfl rfl (hF.at 3 rfl) rfl) rfl rfl rfl fun a hF=>?_
    refine E.unwanted hF (wanted_by rfl rfl (hF.at 4 rfl) rfl) rfl rfl rfl fun a hF=>?_
    refine E.unwanted hF (wanted_undef rfl rfl (hF.at 0 rfl)) rfl rfl rfl fun a hF=>?_
    refine E.unwanted hF (wanted_undef rfl rfl (hF.at 1 rfl)) rfl rfl rfl fun a hF=>?_
    refine E.unwanted hF (wanted_undef rfl rfl (hF.at 2 rfl)) rfl rfl rfl fun a hF=>?_
    refine E.unwanted hF (wanted_undef rfl rfl (hF.at 3 rfl)) rfl rfl rfl fun a hF=>?_
    refine E.unwanted hF (wanted_by rfl rfl (hF.at 9 rfl) rfl) rfl rfl rfl fun a hF=>?_
    refine E.opv hF (r_pick_t (hF.at 10 rfl) ev_c) rfl rfl rfl rfl fun a hF=>?_
    refine E.opset (L':=[(8,.bool true),(81,.bool true),(80,undef),(79,undef),(78,undef),(77,undef),(76,undef),(75,undef),(74,undef),(73,undef),(72,undef),(71,undef),(70,.bool true),(69,.bool true),(68,.bool false),(67,undef),(66,undef),(65,undef),(64,undef),(63,.bool false),(62,.bool false),(61,.int .i64 (qc (((rawZ nega1 xa1 2:Int):Rat)/((rawZ negb1 xb1 2:Int):Rat)) (((rawZ nega3 xa3 2:Int):Rat)/((rawZ negb3 xb3 2:Int):Rat)))),(60,.agg #[.bool b14,.slice ad14 n14 c14,.slice ae14 m14 d14]),(59,.agg #[.bool b12,.slice ad12 n12 c12,.slice ae12 m12 d12]),(58,.bool false),(37,.bool false),(36,.int .i64 ((i:Nat):Int)),(35,.int .i64 (max 0 (min dh 64))),(15,.pointer (some ⟨g15,0,none⟩)),(14,.pointer (some ⟨g14,0,none⟩)),(13,.pointer (some ⟨g13,0,none⟩)),(12,.pointer (some ⟨g12,0,none⟩)),(11,.pointer (some ⟨g11,0,none⟩)),(10,.pointer (some ⟨g10,0,none⟩)),(9,.pointer (some ⟨g9,0,none⟩)),(3,.int .i64 dh)]) hF (r_assign (hF.at 0 rfl)) rfl rfl rfl rfl fun a hF=>?_
    refine E.nil ?_
    refine wp_ret ?_
    have bel:=st.bel
    refine bodyPost_ret (res_tmp Try.results3 (hF.at 0 rfl)) hF.dfr ?_
    exact⟨rfl,bel⟩
end Go.Proofs.Ytplngpfpcheofaa
