import Derived.Test.YtpkhdajnppoinaaGreatKC28
import Derived.Test.YtpkhdajnppoinaaGreatKC34
import Derived.Test.YtpkhdajnppoinaaGreatKC35
namespace Go.Proofs.YtpkhdajnppoinaaGreat
open Go.RowKit
set_option maxRecDepth 100000
set_option linter.unusedVariables false
set_option maxHeartbeats 8000000
def Rn (w:World) (v:Value) (q:Rat):Prop:=
 ∃b ad n c ae m d,v= .agg #[.bool b,.slice ad n c,.slice ae m d]∧Rz w (.agg #[.bool b,.slice ad n c]) q.num∧Dg w .i64 65536 (.slice ae m d) q.den
theorem Rn.shape {w:World} {v:Value} {q:Rat} (h:Rn w v q):∃b ad n c ae m d,v= .agg #[.bool b,.slice ad n c,.slice ae m d]∧Rz w (.agg #[.bool b,.slice ad n c]) q.num∧Dg w .i64 65536 (.slice ae m d) q.den:=h
theorem Rn.below {w w':World} {v:Value} {q:Rat} (h:Rn w v q) (hb:Below w.heap.size w w'):Rn w' v q:=by
 obtain⟨b,ad,n,c,ae,m,d,h1,h2,h3⟩:=h
 exact⟨b,ad,n,c,ae,m,d,h1,h2.below hb,h3.below hb⟩
theorem Rn.keep {w w':World} {v:Value} {q:Rat} (h:Rn w v q) (kp:Keep w w'):Rn w' v q:=by
 obtain⟨b,ad,n,c,ae,m,d,h1,h2,h3⟩:=h
 exact⟨b,ad,n,c,ae,m,d,h1,h2.keep kp,h3.keep kp⟩
def RnPost (w:World) (q:Rat) (e:Ending) (w':World):Prop:=∃v,e= .returned v∧Rn w' v q∧Below w.heap.size w w'
theorem norm_num {z:Int} {D:Nat} {b:Bool} (hb:b=decide (z<0)) (h:0<D):sg b (z.natAbs/Nat.gcd z.natAbs D)=(mkRat z D).num ∧D/Nat.gcd z.natAbs D=(mkRat z D).den :=by
 rw[Rat.num_mkRat,Rat.den_mkRat,if_neg (by omega),if_neg (by omega),Nat.gcd_comm D z.natAbs]
 refine⟨?_,rfl⟩
 have:=sg_edvd b (Nat.gcd_dvd_left z.natAbs D)
 rw[hb,sg_dec] at this
 rw[hb];exact this.symm
theorem Rz.castN {w:World} {v:Value} {z z':Int} (h:Rz w v z) (e:z=z'):Rz w v z':=by subst e;exact h
theorem Dg.castN {w:World} {k:IntKind} {b:Nat} {v:Value} {N M:Nat} (h:Dg w k b v N) (e:N=M):Dg w k b v M:=e▸h
theorem Rn.mk {w:World} {b:Bool} {ad ae:Option Addr} {n c m d:Nat} {z:Int} {N:Nat} {q:Rat} (h1:Rz w (.agg #[.bool b,.slice ad n c]) z) (h2:Dg w .i64 65536 (.slice ae m d) N) (e1:z=q.num) (e2:N=q.den):Rn w (.agg #[.bool b,.slice ad n c,.slice ae m d]) q:=
 ⟨b,ad,n,c,ae,m,d,rfl,h1.castN e1,h2.castN e2⟩
theorem cx_len {q:Rat} {k:Nat} (h:RLim q k):(cx q).length ≤64*k+3:=by
 have h1:=tx_len (lim_pow h.1)
 have h2:=tx_len (z:=((q.den:Nat):Int)) (M:=32*k) (by rw[Int.natAbs_natCast];exact lim_pow h.2)
 unfold cx
 split
 ·omega
 ·simp only [List.length_append,List.length_cons,List.length_nil];omega
theorem dNorm_any (v1:Value) (q1:Rat) (k:Nat) (w:World) (h1:Rr w v1 q1 k) (hk:k≤1000):
 Calls Tryz.prog 51 #[v1] w (RnPost w q1):=by
 have rl1:=h1.rlim
 obtain⟨b1,ad1,n1,c1,ae1,m1,d1,z1,D1,rfl,hn1,hd1,hD1,hq1,lz1,lD1⟩:=h1.shape
 have h1:Rr w (.agg #[.bool b1,.slice ad1 n1 c1,.slice ae1 m1 d1]) q1 k:=⟨_,_,_,_,_,_,_,_,_,rfl,hn1,hd1,hD1,hq1,lz1,lD1⟩
 have ha1:=hn1.abs
 have hb1:=hn1.neg
 replace hq1:=Lib.hid hq1
 have bel:Below w.heap.size w w:=Below.refl _ _
 refine E.enter (nt:=36) (L:=[(0,.agg #[.bool b1,.slice ad1 n1 c1,.slice ae1 m1 d1])]) Tryz.func51 rfl rfl rfl (args_cons (i:=0) rfl args_nil) ?_
 intro a hF
 refine wp_seq ?_
 refine E.seq ?_
 obtain⟨g1,w1,ge1,hr,bb,o1⟩:=own_box (P:=Tryz.prog) (w:=w) (cs:=[.bool b1,.slice ad1 n1 c1,.slice ae1 m1 d1]) (v:= .agg #[.bool b1,.slice ad1 n1 c1,.slice ae1 m1 d1]) 34 rfl (niB (niS (niS ni0)))
 replace ge1:w.heap.size≤g1:=by rw[←ge1];exact bel.size
 refine E.opv hF (r_box (hF.at 0 rfl) hr) rfl rfl rfl rfl fun a hF=>?_
 clear hr
 replace h1:=h1.below bb
 replace hn1:=hn1.below bb
 replace ha1:=ha1.below bb
 replace hd1:=hd1.below bb
 replace bel:=below_to bel bb
 clear bb
 obtain⟨g2,w2,ge2,hr,bb,o2⟩:=own_alloc (P:=Tryz.prog) (w:=w1) (cs:=[.bool false,.slice none 0 0,.slice none 0 0]) 34 ze_RRat rfl (niB (niS (niS ni0)))
 have ne1_2:g1≠g2:=by rw[←ge2];exact o1.ne_new
 replace ge2:w.heap.size≤g2:=by rw[←ge2];exact bel.size
 refine E.opv hF (r_alloc hr) rfl rfl rfl rfl fun a hF=>?_
 clear hr
 replace ha1:=ha1.below bb
 replace hd1:=hd1.below bb
 replace h1:=h1.below bb
 replace hn1:=hn1.below bb
 replace o1:=o1.below bb
 replace bel:=below_to bel bb
 clear bb
 refine E.nil ?_
 refine wp_seq ?_
 refine E.seq ?_
 refine E.opv hF (r_field (hF.at 1 rfl) (fa_RRat_0 (p:=0) rfl)) rfl rfl rfl rfl fun a hF=>?_
 refine E.opv hF (r_field (hF.at 0 rfl) (fa_RInt_1 (p:=1) rfl)) rfl rfl rfl rfl fun a hF=>?_
 refine E.opv hF (r_load (hF.at 0 rfl) (ld_Num (v:= .slice ad1 n1 c1) o1 rfl)) rfl rfl rfl rfl fun a hF=>?_
 refine E.opv hF (r_field (hF.at 4 rfl) (fa_RRat_1 (p:=2) rfl)) rfl rfl rfl rfl fun a hF=>?_
 refine E.opv hF (r_load (hF.at 0 rfl) (ld_Num (v:= .slice ae1 m1 d1) o1 rfl)) rfl rfl rfl rfl fun a hF=>?_
 refine E.call hF (r_call Tryz.func79 en79.1 en79.2 (map2 (hF.at 2 rfl) (hF.at 0 rfl))) (sgcd_any _ _ (Int.natAbs (z1)) D1 _ ha1 hd1 (Lim.dh lz1 _ (by omega)) (Lim.dh lD1 _ (by omega))) rfl rfl rfl rfl ?_
 rintro e w3 ⟨vv4,rfl,hh5,bb⟩
 refine⟨_,rfl,?_⟩
 intro a hF
 replace ha1:=ha1.below bb
 replace hd1:=hd1.below bb
 replace h1:=h1.below bb
 replace hn1:=hn1.below bb
 replace o1:=o1.below bb
 replace o2:=o2.below bb
 replace bel:=below_to bel bb
 clear bb
 obtain⟨ad6,n6,c6,rfl⟩:=Dg.form hh5
 refine E.opv hF (r_assign (hF.at 0 rfl)) rfl rfl rfl rfl fun a hF=>?_
 refine E.nil ?_
 refine wp_seq ?_
 refine E.seq ?_
 refine E.opv hF (r_field (hF.at 8 rfl) (fa_RRat_0 (p:=0) rfl)) rfl rfl rfl rfl fun a hF=>?_
 refine E.opv hF (r_field (hF.at 0 rfl) (fa_RInt_1 (p:=1) rfl)) rfl rfl rfl rfl fun a hF=>?_
 refine E.opv hF (r_load (hF.at 0 rfl) (ld_Num (v:= .slice ad1 n1 c1) o1 rfl)) rfl rfl rfl rfl fun a hF=>?_
 refine E.opv hF (r_move (hF.at 3 rfl)) rfl rfl rfl rfl fun a hF=>?_
 refine E.call hF (r_call Tryz.func80 en80.1 en80.2 (map2 (hF.at 1 rfl) (hF.at 0 rfl))) (sdivmod_any _ _ (Int.natAbs (z1)) (Nat.gcd (Int.natAbs (z1)) (D1)) _ ha1 hh5 (Lim.dh lz1 _ (by omega)) (Lim.dh (gcd_limr lD1 hD1) _ (by omega))) rfl rfl rfl rfl ?_
 rintro e w7 ⟨vv8,vv9,rfl,hh10,hh11,bb⟩
 refine⟨_,rfl,?_⟩
 intro a hF
 replace hh5:=hh5.below bb
 replace ha1:=ha1.below bb
 replace hd1:=hd1.below bb
 replace h1:=h1.below bb
 replace hn1:=hn1.below bb
 replace o1:=o1.below bb
 replace o2:=o2.below bb
 replace bel:=below_to bel bb
 clear bb
 obtain⟨ad12,n12,c12,rfl⟩:=Dg.form hh10
 obtain⟨ad13,n13,c13,rfl⟩:=Dg.form hh11
 refine E.opv hF (r_move (hF.at 0 rfl)) rfl rfl rfl rfl fun a hF=>?_
 refine E.opv hF (r_extract (v:= .slice ad12 n12 c12) (hF.at 0 rfl) rfl) rfl rfl rfl rfl fun a hF=>?_
 refine E.opv hF (r_extract (v:= .slice ad13 n13 c13) (hF.at 1 rfl) rfl) rfl rfl rfl rfl fun a hF=>?_
 refine E.opv hF (r_assign (hF.at 1 rfl)) rfl rfl rfl rfl fun a hF=>?_
 refine E.opv hF (r_assign (hF.at 1 rfl)) rfl rfl rfl rfl fun a hF=>?_
 refine E.nil ?_
 refine wp_seq ?_
 refine E.seq ?_
 refine E.opv hF (r_field (hF.at 18 rfl) (fa_RRat_1 (p:=2) rfl)) rfl rfl rfl rfl fun a hF=>?_
 refine E.opv hF (r_load (hF.at 0 rfl) (ld_Num (v:= .slice ae1 m1 d1) o1 rfl)) rfl rfl rfl rfl fun a hF=>?_
 refine E.opv hF (r_move (hF.at 12 rfl)) rfl rfl rfl rfl fun a hF=>?_
 refine E.call hF (r_call Tryz.func80 en80.1 en80.2 (map2 (hF.at 1 rfl) (hF.at 0 rfl))) (sdivmod_any _ _ D1 (Nat.gcd (Int.natAbs (z1)) (D1)) _ hd1 hh5 (Lim.dh lD1 _ (by omega)) (Lim.dh (gcd_limr lD1 hD1) _ (by omega))) rfl rfl rfl rfl ?_
 rintro e w14 ⟨vv15,vv16,rfl,hh17,hh18,bb⟩
 refine⟨_,rfl,?_⟩
 intro a hF
 replace hh10:=hh10.below bb
 replace ha1:=ha1.below bb
 replace hd1:=hd1.below bb
 replace h1:=h1.below bb
 replace hn1:=hn1.below bb
 replace o1:=o1.below bb
 replace o2:=o2.below bb
 replace bel:=below_to bel bb
 clear bb
 obtain⟨ad19,n19,c19,rfl⟩:=Dg.form hh17
 obtain⟨ad20,n20,c20,rfl⟩:=Dg.form hh18
 refine E.opv hF (r_move (hF.at 0 rfl)) rfl rfl rfl rfl fun a hF=>?_
 refine E.opv hF (r_extract (v:= .slice ad19 n19 c19) (hF.at 0 rfl) rfl) rfl rfl rfl rfl fun a hF=>?_
 refine E.opv hF (r_extract (v:= .slice ad20 n20 c20) (hF.at 1 rfl) rfl) rfl rfl rfl rfl fun a hF=>?_
 refine E.opv hF (r_assign (hF.at 1 rfl)) rfl rfl rfl rfl fun a hF=>?_
 refine E.opv hF (r_assign (hF.at 1 rfl)) rfl rfl rfl rfl fun a hF=>?_
 refine E.nil ?_
 refine wp_seq ?_
 refine E.seq ?_
 refine E.opv hF (r_field (hF.at 27 rfl) (fa_RRat_0 (p:=0) rfl)) rfl rfl rfl rfl fun a hF=>?_
 refine E.opv hF (r_field (hF.at 0 rfl) (fa_RInt_0 (p:=0) rfl)) rfl rfl rfl rfl fun a hF=>?_
 refine E.opv hF (r_load (hF.at 0 rfl) (ld_bool (v:= .bool b1) o1 rfl)) rfl rfl rfl rfl fun a hF=>?_
 refine E.opv hF (r_move (hF.at 13 rfl)) rfl rfl rfl rfl fun a hF=>?_
 refine E.call hF (r_call Tryz.func32 en32.1 en32.2 (map2 (hF.at 1 rfl) (hF.at 0 rfl))) (rmake_any _ _ ((Int.natAbs (z1))/(Nat.gcd (Int.natAbs (z1)) (D1))) _ hh10) rfl rfl rfl rfl ?_
 rintro e w21 ⟨vv22,rfl,hh23,bb⟩
 refine⟨_,rfl,?_⟩
 intro a hF
 replace hh17:=hh17.below bb
 replace o2:=o2.below bb
 replace bel:=below_to bel bb
 clear bb
 obtain⟨b24,ad24,n24,c24,rfl⟩:=Rz.form hh23
 refine E.opv hF (r_move (hF.at 6 rfl)) rfl rfl rfl rfl fun a hF=>?_
 refine E.opv hF (r_build (pair2 (hF.at 1 rfl) (hF.at 0 rfl)) (bd_RRat_01 _ _ _ _ _ _ _ _)) rfl rfl rfl rfl fun a hF=>?_
 obtain⟨w25,hr,tu,on⟩:=st_RRat (vs:=[.bool b24,.slice ad24 n24 c24,.slice ad19 n19 c19]) o2 rfl rfl (ocB (ocS (ocS oc0))) (niB (niS (niS ni0))) (o:=0) rfl
 have kp:=tu.keep o2
 refine E.st hF (r_store (hF.at 33 rfl) (hF.at 0 rfl) (hr _ rfl)) rfl rfl fun a hF=>?_
 clear hr
 replace hh23:=hh23.keep kp
 replace hh17:=hh17.keep kp
 replace bel:=tu.below bel ge2
 clear tu kp
 replace o2:=on
 clear on
 have hf26:=Rz.abs hh23
 refine E.nil ?_
 refine wp_ret ?_
 refine bodyPost_ret (res_cell Tryz.results51 (hF.at 33 rfl) (ld_RRat (vs:=[.bool b24,.slice ad24 n24 c24,.slice ad19 n19 c19]) o2 rfl rfl)) hF.dfr ?_
 have hnn:=norm_num (z:=z1) (D:=D1) hb1 hD1
 rw[←hq1.out] at hnn
 exact⟨_,rfl,Rn.mk hh23 hh17 hnn.1 hnn.2,bel⟩
end Go.Proofs.YtpkhdajnppoinaaGreat
