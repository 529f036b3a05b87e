import Derived.Test.YtnljadejcfgmaaaGreatDoorKC24
import Derived.Test.YtnljadejcfgmaaaGreatDoorKC27
namespace Go.Proofs.YtnljadejcfgmaaaGreatDoor
open Go.RowKit
set_option maxRecDepth 100000
set_option linter.unusedVariables false
set_option maxHeartbeats 8000000
theorem Rr.rlim {w:World} {v:Value} {q:Rat} {k:Nat} (h:Rr w v q k):RLim q k:=by
 obtain⟨_,_,_,_,_,_,_,z,D,_,_,_,hD,rfl,l1,l2⟩:=h
 exact rlim_mk l1 l2 (by omega)
theorem int_mk (z:Int):((z:Int):Rat)=mkRat z 1:=by rw[Rat.mkRat_one]
theorem dWhole_any (v1:Value) (z1:Int) (k:Nat) (w:World) (h1:Rz w v1 z1) (l1:Lim z1.natAbs k) (hp:1≤k):
 Calls Tryz.prog 124 #[v1] w (RrPost w ((z1:Int):Rat) k):=by
 obtain⟨b1,ad1,n1,c1,rfl⟩:=h1.form
 have ha1:=h1.abs
 have hb1:=h1.neg
 have st:=St.start w
 refine E.enter (nt:=6) (L:=[(0,.agg #[.bool b1,.slice ad1 n1 c1])]) Tryz.func124 rfl rfl rfl (args_cons (i:=0) rfl args_nil) ?_
 intro a hF
 refine wp_seq ?_
 refine E.seq ?_
 refine S.box st hF (hF.at 0 rfl) rfl rfl fun g1 w1 a st hF=>?_
 refine S.alloc st hF ty_RRat rfl rfl fun g2 w2 a st hF=>?_
 refine E.nil ?_
 refine wp_seq ?_
 refine E.seq ?_
 refine E.opv hF (r_load (hF.at 1 rfl) (ld_all ty_RInt (st.bk 1 rfl) rfl)) rfl rfl rfl rfl fun a hF=>?_
 obtain⟨vv3,w4,hr,bb,hh5⟩:=bs_one w2
 refine E.opv hF (r_buildSlice (pair1 ev_c) hr) rfl rfl rfl rfl fun a hF=>?_
 replace st:=(st.to bb).add hh5 (Dg.cl _)
 clear hr bb hh5
 obtain⟨ad6,n6,c6,rfl⟩:=Dg.form (st.f 0 rfl)
 refine E.opv hF (r_build (pair2 (hF.at 1 rfl) (hF.at 0 rfl)) (bd_RRat_01 _ _ _ _ _ _ _ _)) rfl rfl rfl rfl fun a hF=>?_
 refine S.sto st hF 0 rfl (hF.at 3 rfl) (hF.at 0 rfl) ty_RRat rfl rfl rfl rfl fun w7 a st hF=>?_
 refine E.nil ?_
 refine wp_ret ?_
 refine S.ret Tryz.results124 st hF (hF.at 3 rfl) 0 rfl ty_RRat rfl hF.dfr ?_
 have bel:=st.bel
 exact⟨_,rfl,(Rr.mk (h1.below st.bel) (st.f 0 rfl) (by decide) (int_mk z1) l1 (Lim.one hp)),bel⟩
theorem mk_pos {D:Nat} (h:0<D):(0:Rat)<(D:Rat):=Rat.natCast_pos.2 h
theorem fdiv_mk {z:Int} {D:Nat} (h:0<D):Int.fdiv z ((D:Nat):Int)=(mkRat z D).floor :=by
 have hD:(0:Int)<((D:Nat):Int):=by omega
 have e1:=Int.mul_ediv_add_emod z ((D:Nat):Int)
 have e2:=Int.emod_nonneg z (b:=((D:Nat):Int)) (by omega)
 have e3:=Int.emod_lt_of_pos z hD
 rw[Int.fdiv_eq_ediv_of_nonneg _ (by omega)]
 generalize z/((D:Nat):Int)=k at*
 have p:=mk_pos h
 symm
 rw[Rat.mkRat_eq_div]
 have c1:k*((D:Nat):Int)≤z:=by rw[Int.mul_comm];omega
 have c2:z<(k+1)*((D:Nat):Int):=by rw[Int.add_mul,Int.mul_comm k];omega
 have r1:=Rat.intCast_le_intCast.2 c1
 have r2:=Rat.intCast_lt_intCast.2 c2
 rw[Rat.intCast_mul,Rat.intCast_natCast] at r1 r2
 rw[Rat.intCast_add,Rat.intCast_one] at r2
 have l1:k≤((z:Rat)/(D:Rat)).floor :=Rat.le_floor_iff.2 (Rat.not_lt.1 fun hn=>by rw[Rat.div_lt_iff p] at hn;grind)
 have l2:((z:Rat)/(D:Rat)).floor <k+1:=Rat.floor_lt_iff.2 (by rw[Rat.div_lt_iff p,Rat.intCast_add,Rat.intCast_one];exact r2)
 omega
theorem Rz.castM {w:World} {v:Value} {z z':Int} (h:Rz w v z) (e:z=z'):Rz w v z':=by subst e;exact h
theorem dFloor_any (v1:Value) (q1:Rat) (k:Nat) (w:World) (h1:Rr w v1 q1 k) (hp:1≤k) (hk:k≤5000):
 Calls Tryz.prog 125 #[v1] w (RzPost w (Rat.floor q1)):=by
 have rl1:=h1.rlim
 obtain⟨b1,ad1,n1,c1,ae1,m1,d1,z1,D1,rfl,hn1,hd1,hD1,hq1,lz1,lD1⟩:=h1.shape
 have h1:Rr w (.agg #[.bool b1,.slice ad1 n1 c1,.slice ae1 m1 d1]) q1 k:=⟨_,_,_,_,_,_,_,_,_,rfl,hn1,hd1,hD1,hq1,lz1,lD1⟩
 have ha1:=hn1.abs
 have hb1:=hn1.neg
 replace hq1:=Lib.hid hq1
 have st:=St.start w
 refine E.enter (nt:=15) (L:=[(0,.agg #[.bool b1,.slice ad1 n1 c1,.slice ae1 m1 d1])]) Tryz.func125 rfl rfl rfl (args_cons (i:=0) rfl args_nil) ?_
 intro a hF
 refine wp_seq ?_
 refine E.seq ?_
 refine S.box st hF (hF.at 0 rfl) rfl rfl fun g1 w1 a st hF=>?_
 refine S.alloc st hF ty_RInt rfl rfl fun g2 w2 a st hF=>?_
 refine E.nil ?_
 refine wp_seq ?_
 refine E.seq ?_
 refine E.opv hF (r_field (hF.at 1 rfl) (fa_RRat_0 (p:=0) rfl)) rfl rfl rfl rfl fun a hF=>?_
 refine E.opv hF (r_load (hF.at 0 rfl) (ld_RInt (vs:=[.bool b1,.slice ad1 n1 c1]) (st.b 1 rfl rfl) rfl rfl)) rfl rfl rfl rfl fun a hF=>?_
 refine E.opv hF (r_field (hF.at 3 rfl) (fa_RRat_1 (p:=2) rfl)) rfl rfl rfl rfl fun a hF=>?_
 refine E.opv hF (r_load (hF.at 0 rfl) (ld_Num (v:= .slice ae1 m1 d1) (st.b 1 rfl rfl) rfl)) rfl rfl rfl rfl fun a hF=>?_
 refine E.opv hF (r_build (pair1 (hF.at 0 rfl)) (bd_RInt_1 _ _ _ _)) rfl rfl rfl rfl fun a hF=>?_
 refine S.call2 st hF (r_call Tryz.func170 en170.1 en170.2 (map2 (hF.at 3 rfl) (hF.at 0 rfl))) (rDivMod_any _ _ _ _ k k _ (hn1.below st.bel) (Rz.nat (hd1.below st.bel)) lz1 (lim_cast lD1) (by omega) (by omega)) (fun _ _ h=>h) Rz.cl Rz.cl rfl rfl rfl rfl fun vv4 vv5 w3 a st hF=>?_
 obtain⟨b8,ad8,n8,c8,rfl⟩:=Rz.form (st.f 0 rfl)
 obtain⟨b9,ad9,n9,c9,rfl⟩:=Rz.form (st.f 1 rfl)
 refine E.opv hF (r_move (hF.at 0 rfl)) rfl rfl rfl rfl fun a hF=>?_
 refine E.opv hF (r_extract (v:= .agg #[.bool b8,.slice ad8 n8 c8]) (hF.at 0 rfl) rfl) rfl rfl rfl rfl fun a hF=>?_
 refine E.opv hF (r_extract (v:= .agg #[.bool b9,.slice ad9 n9 c9]) (hF.at 1 rfl) rfl) rfl rfl rfl rfl fun a hF=>?_
 refine S.alloc st hF ty_RInt rfl rfl fun g3 w10 a st hF=>?_
 refine S.alloc st hF ty_RInt rfl rfl fun g4 w11 a st hF=>?_
 refine S.sto st hF 1 rfl (hF.at 1 rfl) (hF.at 3 rfl) ty_RInt rfl rfl rfl rfl fun w12 a st hF=>?_
 have hf13:=Rz.abs (st.f 0 rfl)
 replace st:=st.add hf13 (Dg.cl _)
 clear hf13
 refine S.sto st hF 0 rfl (hF.at 0 rfl) (hF.at 2 rfl) ty_RInt rfl rfl rfl rfl fun w14 a st hF=>?_
 have hf15:=Rz.abs (st.f 2 rfl)
 replace st:=st.add hf15 (Dg.cl _)
 clear hf15
 refine E.nil ?_
 refine wp_seq ?_
 refine E.seq ?_
 refine E.opv hF (r_load (hF.at 1 rfl) (ld_all ty_RInt (st.bk 1 rfl) rfl)) rfl rfl rfl rfl fun a hF=>?_
 refine S.sto st hF 2 rfl (hF.at 12 rfl) (hF.at 0 rfl) ty_RInt rfl rfl rfl rfl fun w16 a st hF=>?_
 refine E.nil ?_
 refine wp_ret ?_
 refine S.ret Tryz.results125 st hF (hF.at 12 rfl) 2 rfl ty_RInt rfl hF.dfr ?_
 have bel:=st.bel
 exact⟨_,rfl,Rz.castM (st.f 2 rfl) (by rw[hq1.out];exact fdiv_mk hD1),bel⟩
theorem nat_at {w:World} {ad:Option Addr} {n c X:Nat} (h:Dg w .i64 65536 (.slice ad n c) X) (h0:0<X) (h1:X<65536):∃b off,ad=some ⟨b,off,none⟩∧n=1∧w.cell? ⟨b,off,none⟩=some (.int .i64 ((X:Nat):Int)):=by
 have hd:dg 65536 X=[X]:=by
  rw[dg_pos (by decide) h0,Nat.mod_eq_of_lt h1,Nat.div_eq_of_lt h1,dg_zero]
 obtain⟨ad',cap,h1,⟨hr⟩,_⟩:=h
 rw[hd] at h1 hr
 injection h1 with e1 e2 e3
 subst e1
 obtain⟨b,off,e,_,hc⟩:=hr 0 (by simp)
 exact⟨b,off,e,by simpa using e2,hc⟩
theorem ix_numE {w:World} {b off n c:Nat} (hn:0<n):(Instr.indexAt 36 (.slice (some ⟨b,off,none⟩) n c) (.int .i64 0)).run Tryz.prog w= .ok (.pointer (some ⟨b,off,none⟩)) w:=by
 simp[Instr.indexAt,asIntOf,run_underlying Tryz.underlying36,Sem.run_bind,Addr.add_mid]
 intro e;omega
theorem four_wd (x:Rat):x*(((4:Int):Rat)/((15:Int):Rat))=x/wd:=by
 rw[wd_eq,show((4:Int):Rat)/((15:Int):Rat)=4/15 by decide+kernel];grind
theorem wd_15:((15:Int):Rat)/((4:Int):Rat)=wd:=by decide+kernel
theorem place_eq (x:Rat):(rmod (x*(((4:Int):Rat)/((15:Int):Rat))) ((96:Int):Rat)).floor =pk x:=by rw[four_wd];rfl
theorem dsof_eq (x:Rat):(((spk (pk x):Int):Rat)+(rmod (x*(((4:Int):Rat)/((15:Int):Rat))) ((96:Int):Rat)-((pk x:Int):Rat))*((spk (pk x+1)-spk (pk x):Int):Rat))*(((1:Int):Rat)/((3438:Int):Rat))=sof x:=by
 rw[four_wd,←sof_pk]
 unfold pfr
 rw[show((1:Int):Rat)/((3438:Int):Rat)=1/3438 by decide+kernel,c3438]
 grind
theorem darc_here {x:Rat} {j:Nat} (hx:¬x<0) (hj:j<24) (e:yk (x*((3438:Int):Rat))=j):(((((j:Nat):Int):Int):Rat)+(x*((3438:Int):Rat)-((spk ((j:Nat):Int):Int):Rat))/((spk (((j:Nat):Int)+1)-spk ((j:Nat):Int):Int):Rat))*(((15:Int):Rat)/((4:Int):Rat))=arcv x:=by
 rw[←arc_here hx hj e,wd_15,Rat.add_comm]
theorem high_spd (k:Int) (w:World) (h0:0≤k) (h1:k≤24):Calls Tryz.prog 251 #[.int .i64 k] w (ValPost w (.int .i64 (spk k))):=by
 have:=dhigh_any k w
 rwa[show hiv k=spk k from hiv_spk h0 h1] at this
theorem spk64S (k:Int): -3438≤spk k∧spk k≤3438:=sp_bd k
theorem dif64S (k:Int): -225≤spk (k+1)-spk k∧spk (k+1)-spk k≤225:=sp_step k
theorem rsmall_any (v1:Value) (z1:Int) (w:World) (h1:Rz w v1 z1) (h0:0≤z1) (hs:z1<65536):
 Calls Tryz.prog 148 #[v1] w (ValPost w (.int .i64 z1)):=by
 obtain⟨b1,ad1,n1,c1,rfl⟩:=h1.form
 have ha1:=h1.abs
 have hb1:=h1.neg
 have hbf:b1=false:=by rw[hb1];exact decide_eq_false (by omega)
 have hlen:(z1=0∧n1=0)∨(0<z1∧n1=1):=by
  by_cases e:z1=0
  ·left;refine⟨e,?_⟩;have h:=ha1;rw[e] at h;exact Dg.len0 h
  ·right;refine⟨by omega,?_⟩;obtain⟨_,_,_,h,_⟩:=nat_at ha1 (by omega) (by omega);exact h
 clear hb1
 have bel:Below w.heap.size w w:=Below.refl _ _
 refine E.enter (nt:=26) (L:=[(0,.agg #[.bool b1,.slice ad1 n1 c1])]) Tryz.func148 rfl rfl rfl (args_cons (i:=0) rfl args_nil) ?_
 intro a hF
 refine wp_seq ?_
 refine E.seq ?_
 obtain⟨g1,w1,ge1,hr,bb,o1⟩:=own_box (P:=Tryz.prog) (w:=w) (cs:=[.bool b1,.slice ad1 n1 c1]) (v:= .agg #[.bool b1,.slice ad1 n1 c1]) 38 rfl (niB (niS ni0))
 replace ge1:w.heap.size≤g1:=by rw[←ge1];exact bel.size
 refine E.opv hF (r_box (hF.at 0 rfl) hr) rfl rfl rfl rfl fun a hF=>?_
 clear hr
 replace bel:=below_to bel bb
 clear bb
 refine E.opv hF (r_assign ev_c) rfl rfl rfl rfl fun a hF=>?_
 refine E.nil ?_
 refine wp_seq ?_
 refine E.seq ?_
 refine E.opv hF (r_assign ev_c) rfl rfl rfl rfl fun a hF=>?_
 refine E.nil ?_
 refine wp_seq ?_
 refine wp_seq ?_
 refine E.seq ?_
 refine E.opv hF (r_field (hF.at 2 rfl) (fa_RInt_1 (p:=1) rfl)) rfl rfl rfl rfl fun a hF=>?_
 refine E.opv hF (r_load (hF.at 0 rfl) (ld_Num (v:= .slice ad1 n1 c1) o1 rfl)) rfl rfl rfl rfl fun a hF=>?_
 refine E.opv hF (r_builtin (map1 (hF.at 0 rfl)) bl_num) rfl rfl rfl rfl fun a hF=>?_
 refine E.opv hF (r_bin (hF.at 0 rfl) ev_c eg_scalar (ia_sub (by omega) (by omega))) rfl rfl rfl rfl fun a hF=>?_
 refine E.opv hF (r_assign (hF.at 0 rfl)) rfl rfl rfl rfl fun a hF=>?_
 refine E.nil ?_
 refine wp_block ?_
 refine E.loop (fun mq a wv=>∃(i:Int) (n:Int),((i= -1∧n=z1)∨(i=0∧n=0∧0<z1))∧Fr 26 a [(4,.int .i64 i),(3,.int .i64 n),(2,.int .i64 0),(1,.pointer (some ⟨g1,0,none⟩))]∧Below w1.heap.size w1 wv∧Below w.heap.size w wv∧mq=(i+1:Int).toNat) (((((n1:Nat):Int)-1)+1:Int).toNat) ?_ ?_
 ·exact⟨(((n1:Nat):Int)-1:Int),(0:Int),(by omega),hF.sub (by intro p hp;simp only [List.mem_cons,List.not_mem_nil,or_false] at hp ⊢;rcases hp with rfl|rfl|rfl|rfl <;> simp),Below.refl _ _,bel,rfl⟩
 ·rintro mq a w2 ⟨i,n,hin,hF,sty,bel,hm⟩
  replace o1:=o1.below sty
  refine wp_seq ?_
  refine wp_seq ?_
  refine E.seq ?_
  refine E.opv hF (r_move (hF.at 0 rfl)) rfl rfl rfl rfl fun a hF=>?_
  by_cases hc3:0≤i
  ·first
   |(exfalso;omega)
   |(refine E.opv hF (r_bin (hF.at 0 rfl) ev_c eg_scalar (bi_int (ic_geq (c:=true) (dec_tt hc3)) (by simp))) rfl rfl rfl rfl fun a hF=>?_
     refine E.nil ?_
     refine wp_cond_true (hF.at 0 rfl) ?_
     refine wp_skip ?_
     refine E.norm ?_
     refine wp_seq ?_
     refine wp_block ?_
     refine E.seq ?_
     refine E.opv hF (r_move (hF.at 3 rfl)) rfl rfl rfl rfl fun a hF=>?_
     refine E.opv hF (r_bin ev_c (hF.at 0 rfl) eg_scalar (ia_mul (by omega) (by omega))) rfl rfl rfl rfl fun a hF=>?_
     refine E.opv hF (r_field (hF.at 7 rfl) (fa_RInt_1 (p:=1) rfl)) rfl rfl rfl rfl fun a hF=>?_
     refine E.opv hF (r_load (hF.at 0 rfl) (ld_Num (v:= .slice ad1 n1 c1) o1 rfl)) rfl rfl rfl rfl fun a hF=>?_
     refine E.opv hF (r_move (hF.at 6 rfl)) rfl rfl rfl rfl fun a hF=>?_
     have hz0:0<Int.natAbs z1:=by omega
     obtain⟨gr,og,hag,hn1,hcl⟩:=nat_at (ha1.below bel) hz0 (by omega)
     have hi0:i=0:=by omega
     refine E.opv hF (r_index (hF.at 1 rfl) (hF.at 0 rfl) (by rw[hi0,hag];exact ix_numE (by omega))) rfl rfl rfl rfl fun a hF=>?_
     refine E.opv hF (r_load (hF.at 0 rfl) (ldc_int hcl)) rfl rfl rfl rfl fun a hF=>?_
     refine E.opv hF (r_bin (hF.at 5 rfl) (hF.at 0 rfl) eg_scalar (ia_add (by omega) (by omega))) rfl rfl rfl rfl fun a hF=>?_
     refine E.opset (L':=[(3,.int .i64 ((65536*n)+((Int.natAbs z1:Nat):Int))),(20,.int .i64 ((65536*n)+((Int.natAbs z1:Nat):Int))),(19,.int .i64 ((Int.natAbs z1:Nat):Int)),(18,.pointer (some ⟨gr,og,none⟩)),(17,.int .i64 i),(16,.slice ad1 n1 c1),(15,.pointer (some ⟨g1,1,none⟩)),(14,.int .i64 (65536*n)),(13,.int .i64 n),(10,.bool true),(9,.int .i64 i),(4,.int .i64 i),(2,.int .i64 0),(1,.pointer (some ⟨g1,0,none⟩))]) hF (r_assign (hF.at 0 rfl)) rfl rfl rfl rfl fun a hF=>?_
     refine E.nil0 ?_
     refine E.blk ?_
     refine E.norm ?_
     refine E.seq ?_
     refine E.opv hF (r_move (hF.at 11 rfl)) rfl rfl rfl rfl fun a hF=>?_
     refine E.opv hF (r_bin (hF.at 0 rfl) ev_c eg_scalar (ia_sub (by omega) (by omega))) rfl rfl rfl rfl fun a hF=>?_
     refine E.opset (L':=[(4,.int .i64 (i-1)),(12,.int .i64 (i-1)),(11,.int .i64 i),(3,.int .i64 ((65536*n)+((Int.natAbs z1:Nat):Int))),(20,.int .i64 ((65536*n)+((Int.natAbs z1:Nat):Int))),(19,.int .i64 ((Int.natAbs z1:Nat):Int)),(18,.pointer (some ⟨gr,og,none⟩)),(17,.int .i64 i),(16,.slice ad1 n1 c1),(15,.pointer (some ⟨g1,1,none⟩)),(14,.int .i64 (65536*n)),(13,.int .i64 n),(10,.bool true),(9,.int .i64 i),(2,.int .i64 0),(1,.pointer (some ⟨g1,0,none⟩))]) hF (r_assign (hF.at 0 rfl)) rfl rfl rfl rfl fun a hF=>?_
     refine E.nil0 ?_
     refine E.norm ?_
     exact⟨((i-1)+1:Int).toNat,by omega,⟨(i-1:Int),((65536*n)+((Int.natAbs z1:Nat):Int):Int),(by omega),Fr.sub (L':=[(4,.int .i64 (i-1)),(3,.int .i64 ((65536*n)+((Int.natAbs z1:Nat):Int))),(2,.int .i64 0),(1,.pointer (some ⟨g1,0,none⟩))]) hF (by intro p hp;simp only [List.mem_cons,List.not_mem_nil,or_false] at hp ⊢;rcases hp with rfl|rfl|rfl|rfl <;> simp),sty,bel,rfl⟩⟩)
  ·first
   |(exfalso;omega)
   |(refine E.opv hF (r_bin (hF.at 0 rfl) ev_c eg_scalar (bi_int (ic_geq (c:=false) (dec_ff hc3)) (by simp))) rfl rfl rfl rfl fun a hF=>?_
     refine E.nil ?_
     refine wp_cond_false (hF.at 0 rfl) ?_
     refine wp_exit ?_
     refine E.past ?_
     refine E.past ?_
     refine E.out (id:=0) ?_
     refine E.norm ?_
     refine wp_seq ?_
     refine wp_seq ?_
     refine E.seq ?_
     refine E.opv hF (r_field (hF.at 5 rfl) (fa_RInt_0 (p:=0) rfl)) rfl rfl rfl rfl fun a hF=>?_
     refine E.opv hF (r_load (hF.at 0 rfl) (ld_bool (v:= .bool b1) o1 rfl)) rfl rfl rfl rfl fun a hF=>?_
     refine E.nil ?_
     refine wp_cond_false (Eq.trans (hF.at 0 rfl) (congrArg Value.bool hbf)) ?_
     refine wp_skip ?_
     refine E.norm ?_
     refine wp_seq ?_
     refine E.seq ?_
     refine E.opv hF (r_move (hF.at 5 rfl)) rfl rfl rfl rfl fun a hF=>?_
     refine E.opset (L':=[(2,.int .i64 n),(25,.int .i64 n),(22,.bool b1),(21,.pointer (some ⟨g1,0,none⟩)),(10,.bool false),(9,.int .i64 i),(4,.int .i64 i),(3,.int .i64 n),(1,.pointer (some ⟨g1,0,none⟩))]) hF (r_assign (hF.at 0 rfl)) rfl rfl rfl rfl fun a hF=>?_
     refine E.nil ?_
     refine wp_ret ?_
     refine bodyPost_ret (res_tmp Tryz.results148 (hF.at 0 rfl)) hF.dfr ?_
     refine⟨rv_int ?_,bel⟩
     omega)
end Go.Proofs.YtnljadejcfgmaaaGreatDoor
