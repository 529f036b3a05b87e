import Derived.Test.YtnljadejcfgmaaaGreatDoorKB23
import Derived.Test.YtnljadejcfgmaaaGreatDoorKB26
namespace Go.Proofs.YtnljadejcfgmaaaGreatDoor
open Go.RowKit
set_option maxRecDepth 100000
set_option linter.unusedVariables false
set_option maxHeartbeats 8000000
theorem Rr.rlim {w:World} {v:Value} {q:Rat} {k:Nat} (h:Rr w v q k):au q k:=by
 obtain⟨_,_,_,_,_,_,_,z,D,_,_,_,hD,rfl,l1,l2⟩:=h
 exact lw l1 l2 (by omega)
theorem EP (z:Int):((z:Int):Rat)=mkRat z 1:=by rw[Rat.mkRat_one]
theorem lE (v1:Value) (z1:Int) (k:Nat) (w:World) (h1:Rz w v1 z1) (l1:Lim z1.natAbs k) (hp:1≤k):
 Calls Tryz.prog 124 #[v1] w (bK w ((z1:Int):Rat) k):=by
 obtain⟨b1,ad1,n1,c1,rfl⟩:=h1.form
 have ha1:=h1.abs
 have hb1:=h1.neg
 have st:=St.start w
 refine go1 (nt:=6) Tryz.func124 rfl rfl rfl fun a hF=>?_
 refine wq ?_
 refine bx st hF 0 rfl rfl fun g1 w1 a st hF=>?_
 refine S.alloc st hF ag rfl rfl fun g2 w2 a st hF=>?_
 refine nq ?_
 refine oL hF st 1 1 db rfl rfl rfl rfl fun a hF=>?_
 obtain⟨vv3,w4,hr,bb,hh5⟩:=sC w2
 refine oV hF (cY (fk ao) hr) rfl fun a hF=>?_
 replace st:=(st.to bb).add hh5 (Dg.cl _)
 clear hr bb hh5
 obtain⟨ad6,n6,c6,rfl⟩:=Dg.form (st.f 0 rfl)
 refine oV hF (bh (eL (hF.at 1 rfl) (hF.at 0 rfl)) (ii _ _ _ _ _ _ _ _)) rfl fun a hF=>?_
 refine so st hF 0 3 0 ag rfl rfl rfl rfl fun w7 a st hF=>?_
 refine nr ?_
 refine rs Tryz.results124 st hF 3 0 ag rfl rfl rfl ?_
 have bel:=st.bel
 exact⟨_,rfl,(Rr.mk (h1.below st.bel) (st.f 0 rfl) (by decide) (EP z1) l1 (Lim.one hp)),bel⟩
theorem FT {D:Nat} (h:0<D):(0:Rat)<(D:Rat):=Rat.natCast_pos.2 h
theorem C9 {z:Int} {D:Nat} (h:0<D):Int.fdiv z ((D:Nat):Int)=(mkRat z D).floor :=by
 have hD:(0:Int)<((D:Nat):Int):=by omega
 have e1:=Int.mul_ediv_add_emod z ((D:Nat):Int)
 have e2:=Int.emod_nonneg z (b:=((D:Nat):Int)) (by omega)
 have e3:=Int.emod_lt_of_pos z hD
 rw[Int.fdiv_eq_ediv_of_nonneg _ (by omega)]
 generalize z/((D:Nat):Int)=k at*
 have p:=FT h
 symm
 rw[Rat.mkRat_eq_div]
 have c1:k*((D:Nat):Int)≤z:=by rw[Int.mul_comm];omega
 have c2:z<(k+1)*((D:Nat):Int):=by rw[Int.add_mul,Int.mul_comm k];omega
 have r1:=Rat.intCast_le_intCast.2 c1
 have r2:=Rat.intCast_lt_intCast.2 c2
 rw[Rat.intCast_mul,Rat.intCast_natCast] at r1 r2
 rw[Rat.intCast_add,Rat.intCast_one] at r2
 have l1:k≤((z:Rat)/(D:Rat)).floor :=Rat.le_floor_iff.2 (Rat.not_lt.1 fun hn=>by rw[Rat.div_lt_iff p] at hn;grind)
 have l2:((z:Rat)/(D:Rat)).floor <k+1:=Rat.floor_lt_iff.2 (by rw[Rat.div_lt_iff p,Rat.intCast_add,Rat.intCast_one];exact r2)
 omega
theorem Rz.castM {w:World} {v:Value} {z z':Int} (h:Rz w v z) (e:z=z'):Rz w v z':=by subst e;exact h
theorem yt {a b:Rat}:0≤qc a b↔sz (b-a).num ≤0:=by
 rw[j6,zp]
 by_cases h1:a<b
 ·rw[if_pos h1]
  constructor
  ·intro h;omega
  ·intro h;grind
 ·rw[if_neg h1]
  constructor
  ·intro _;grind
  ·intro _;split <;> omega
theorem ik (v1:Value) (q1:Rat) (k:Nat) (w:World) (h1:Rr w v1 q1 k) (hp:1≤k) (hk:k≤5000):
 Calls Tryz.prog 125 #[v1] w (iY w (Rat.floor q1)):=by
 have rl1:=h1.rlim
 obtain⟨b1,ad1,n1,c1,ae1,m1,d1,z1,D1,rfl,hn1,hd1,hD1,hq1,lz1,lD1⟩:=h1.shape
 have h1:Rr w (.agg #[.bool b1,.slice ad1 n1 c1,.slice ae1 m1 d1]) q1 k:=⟨_,_,_,_,_,_,_,_,_,rfl,hn1,hd1,hD1,hq1,lz1,lD1⟩
 have ha1:=hn1.abs
 have hb1:=hn1.neg
 replace hq1:=Lib.hid hq1
 have st:=St.start w
 refine go1 (nt:=15) Tryz.func125 rfl rfl rfl fun a hF=>?_
 refine wq ?_
 refine bx st hF 0 rfl rfl fun g1 w1 a st hF=>?_
 refine S.alloc st hF db rfl rfl fun g2 w2 a st hF=>?_
 refine nq ?_
 refine oV hF (aA (hF.at 1 rfl) (dF (p:=0) rfl)) rfl fun a hF=>?_
 refine oV hF (av (hF.at 0 rfl) (bJ (vs:=[.bool b1,.slice ad1 n1 c1]) (st.b 1 rfl rfl) rfl rfl)) rfl fun a hF=>?_
 refine oV hF (aA (hF.at 3 rfl) (dS (p:=2) rfl)) rfl fun a hF=>?_
 refine oV hF (av (hF.at 0 rfl) (cp (v:= .slice ae1 m1 d1) (st.b 1 rfl rfl) rfl)) rfl fun a hF=>?_
 refine oV hF (bh (fk (hF.at 0 rfl)) (eg _ _ _ _)) rfl fun a hF=>?_
 refine S.call2 st hF (rk GR (aC (hF.at 3 rfl) (hF.at 0 rfl))) (ul _ _ _ _ k k _ (hn1.below st.bel) (Rz.nat (hd1.below st.bel)) lz1 (bX lD1) (by omega) (by omega)) (fun _ _ h=>h) Rz.cl Rz.cl rfl rfl rfl rfl fun vv4 vv5 w3 a st hF=>?_
 obtain⟨b8,ad8,n8,c8,rfl⟩:=Rz.form (st.f 0 rfl)
 obtain⟨b9,ad9,n9,c9,rfl⟩:=Rz.form (st.f 1 rfl)
 refine oM hF 0 rfl rfl fun a hF=>?_
 refine oV hF (aW (v:= .agg #[.bool b8,.slice ad8 n8 c8]) (hF.at 0 rfl) rfl) rfl fun a hF=>?_
 refine oV hF (aW (v:= .agg #[.bool b9,.slice ad9 n9 c9]) (hF.at 1 rfl) rfl) rfl fun a hF=>?_
 refine S.alloc st hF db rfl rfl fun g3 w10 a st hF=>?_
 refine S.alloc st hF db rfl rfl fun g4 w11 a st hF=>?_
 refine so st hF 1 1 3 db rfl rfl rfl rfl fun w12 a st hF=>?_
 have hf13:=Rz.abs (st.f 0 rfl)
 replace st:=st.add hf13 (Dg.cl _)
 clear hf13
 refine so st hF 0 0 2 db rfl rfl rfl rfl fun w14 a st hF=>?_
 have hf15:=Rz.abs (st.f 2 rfl)
 replace st:=st.add hf15 (Dg.cl _)
 clear hf15
 refine nq ?_
 refine oL hF st 1 1 db rfl rfl rfl rfl fun a hF=>?_
 refine so st hF 2 12 0 db rfl rfl rfl rfl fun w16 a st hF=>?_
 refine nr ?_
 refine rs Tryz.results125 st hF 12 2 db rfl rfl rfl ?_
 have bel:=st.bel
 exact⟨_,rfl,Rz.castM (st.f 2 rfl) (by rw[hq1.out];exact C9 hD1),bel⟩
theorem zA {w:World} {ad:Option Addr} {n c X:Nat} (h:Dg w .i64 65536 (.slice ad n c) X) (h0:0<X) (h1:X<65536):∃b off,ad=some ⟨b,off,none⟩∧n=1∧w.cell? ⟨b,off,none⟩=some (.int .i64 ((X:Nat):Int)):=by
 have hd:dg 65536 X=[X]:=by
  rw[ja (by decide) h0,Nat.mod_eq_of_lt h1,Nat.div_eq_of_lt h1,eC]
 obtain⟨ad',cap,h1,⟨hr⟩,_⟩:=h
 rw[hd] at h1 hr
 injection h1 with e1 e2 e3
 subst e1
 obtain⟨b,off,e,_,hc⟩:=hr 0 (by simp)
 exact⟨b,off,e,by simpa using e2,hc⟩
theorem Ei {w:World} {b off n c:Nat} (hn:0<n):(Instr.indexAt 36 (.slice (some ⟨b,off,none⟩) n c) (.int .i64 0)).run Tryz.prog w= .ok (.pointer (some ⟨b,off,none⟩)) w:=by
 simp[Instr.indexAt,asIntOf,run_underlying Tryz.underlying36,Sem.run_bind,Addr.add_mid]
 intro e;omega
theorem uB (x:Rat):x*(((4:Int):Rat)/((15:Int):Rat))=x/wd:=by
 rw[dQ,show((4:Int):Rat)/((15:Int):Rat)=4/15 by decide+kernel];grind
theorem GY:((15:Int):Rat)/((4:Int):Rat)=wd:=by decide+kernel
theorem oY (x:Rat):(rmod (x*(((4:Int):Rat)/((15:Int):Rat))) ((96:Int):Rat)).floor =pk x:=by rw[uB];rfl
theorem DP (x:Rat):(((spk (pk x):Int):Rat)+(rmod (x*(((4:Int):Rat)/((15:Int):Rat))) ((96:Int):Rat)-((pk x:Int):Rat))*((spk (pk x+1)-spk (pk x):Int):Rat))*(((1:Int):Rat)/((3438:Int):Rat))=sof x:=by
 rw[uB,←ls]
 unfold pfr
 rw[show((1:Int):Rat)/((3438:Int):Rat)=1/3438 by decide+kernel,ed]
 grind
theorem zb {x:Rat} {j:Nat} (hx:¬x<0) (hj:j<24) (e:yk (x*((3438:Int):Rat))=j):(((((j:Nat):Int):Int):Rat)+(x*((3438:Int):Rat)-((spk ((j:Nat):Int):Int):Rat))/((spk (((j:Nat):Int)+1)-spk ((j:Nat):Int):Int):Rat))*(((15:Int):Rat)/((4:Int):Rat))=br x:=by
 rw[←tZ hx hj e,GY,Rat.add_comm]
theorem f7 (k:Int) (w:World) (h0:0≤k) (h1:k≤24):Calls Tryz.prog 251 #[.int .i64 k] w (aR w (.int .i64 (spk k))):=by
 have:=mv k w
 rwa[show hiv k=spk k from uV h0 h1] at this
theorem gE (k:Int): -3438≤spk k∧spk k≤3438:=iR k
theorem rT (k:Int): -225≤spk (k+1)-spk k∧spk (k+1)-spk k≤225:=gt k
theorem wF (v1:Value) (z1:Int) (w:World) (h1:Rz w v1 z1) (h0:0≤z1) (hs:z1<65536):
 Calls Tryz.prog 148 #[v1] w (aR w (.int .i64 z1)):=by
 obtain⟨b1,ad1,n1,c1,rfl⟩:=h1.form
 have ha1:=h1.abs
 have hb1:=h1.neg
 have hbf:b1=false:=by rw[hb1];exact decide_eq_false (by omega)
 have hlen:(z1=0∧n1=0)∨(0<z1∧n1=1):=by
  by_cases e:z1=0
  ·left;refine⟨e,?_⟩;have h:=ha1;rw[e] at h;exact Dg.len0 h
  ·right;refine⟨by omega,?_⟩;obtain⟨_,_,_,h,_⟩:=zA ha1 (by omega) (by omega);exact h
 clear hb1
 have bel:Below w.heap.size w w:=Below.refl _ _
 refine go1 (nt:=26) Tryz.func148 rfl rfl rfl fun a hF=>?_
 refine wq ?_
 obtain⟨g1,w1,ge1,hr,bb,o1⟩:=dM (P:=Tryz.prog) (w:=w) (cs:=[.bool b1,.slice ad1 n1 c1]) (v:= .agg #[.bool b1,.slice ad1 n1 c1]) 38 rfl (niB (niS ni0))
 replace ge1:w.heap.size≤g1:=by rw[←ge1];exact bel.size
 refine oV hF (eJ (hF.at 0 rfl) hr) rfl fun a hF=>?_
 clear hr
 replace bel:=ar bel bb
 clear bb
 refine oC hF rfl fun a hF=>?_
 refine nq ?_
 refine oC hF rfl fun a hF=>?_
 refine ns ?_
 refine wq ?_
 refine oV hF (aA (hF.at 2 rfl) (cy (p:=1) rfl)) rfl fun a hF=>?_
 refine oV hF (av (hF.at 0 rfl) (cp (v:= .slice ad1 n1 c1) o1 rfl)) rfl fun a hF=>?_
 refine oV hF (cr (aI (hF.at 0 rfl)) gD) rfl fun a hF=>?_
 refine oV hF (aq (hF.at 0 rfl) ao ab (cv (by omega) (by omega))) rfl fun a hF=>?_
 refine oA hF 0 rfl rfl fun a hF=>?_
 refine E.nil ?_
 refine wp_block ?_
 refine E.loop (fun mq a wv=>∃(i:Int) (n:Int),((i= -1∧n=z1)∨(i=0∧n=0∧0<z1))∧Fr 26 a [(4,.int .i64 i),(3,.int .i64 n),(2,.int .i64 0),(1,.pointer (some ⟨g1,0,none⟩))]∧Below w1.heap.size w1 wv∧Below w.heap.size w wv∧mq=(i+1:Int).toNat) (((((n1:Nat):Int)-1)+1:Int).toNat) ?_ ?_
 ·exact⟨(((n1:Nat):Int)-1:Int),(0:Int),(by omega),hF.sub (by intro p hp;simp only [List.mem_cons,List.not_mem_nil,or_false] at hp ⊢;rcases hp with rfl|rfl|rfl|rfl <;> simp),Below.refl _ _,bel,rfl⟩
 ·rintro mq a w2 ⟨i,n,hin,hF,sty,bel,hm⟩
  replace o1:=o1.below sty
  refine wp_seq ?_
  refine wq ?_
  refine oM hF 0 rfl rfl fun a hF=>?_
  by_cases hc3:0≤i
  ·first
   |(exfalso;omega)
   |(refine oV hF (aq (hF.at 0 rfl) ao ab (aw (eo (c:=true) (aU hc3)) (by simp))) rfl fun a hF=>?_
     refine E.nil ?_
     refine wp_cond_true (hF.at 0 rfl) ?_
     refine wp_skip ?_
     refine E.norm ?_
     refine wp_seq ?_
     refine wp_block ?_
     refine E.seq ?_
     refine oM hF 3 rfl rfl fun a hF=>?_
     refine oV hF (aq ao (hF.at 0 rfl) ab (dZ (by omega) (by omega))) rfl fun a hF=>?_
     refine oV hF (aA (hF.at 7 rfl) (cy (p:=1) rfl)) rfl fun a hF=>?_
     refine oV hF (av (hF.at 0 rfl) (cp (v:= .slice ad1 n1 c1) o1 rfl)) rfl fun a hF=>?_
     refine oM hF 6 rfl rfl fun a hF=>?_
     have hz0:0<Int.natAbs z1:=by omega
     obtain⟨gr,og,hag,hn1,hcl⟩:=zA (ha1.below bel) hz0 (by omega)
     have hi0:i=0:=by omega
     refine oV hF (gS (hF.at 1 rfl) (hF.at 0 rfl) (by rw[hi0,hag];exact Ei (by omega))) rfl fun a hF=>?_
     refine oV hF (av (hF.at 0 rfl) (qu hcl)) rfl fun a hF=>?_
     refine oV hF (aq (hF.at 5 rfl) (hF.at 0 rfl) ab (bq (by omega) (by omega))) rfl fun a hF=>?_
     refine E.opset (L':=[(3,.int .i64 ((65536*n)+((Int.natAbs z1:Nat):Int))),(20,.int .i64 ((65536*n)+((Int.natAbs z1:Nat):Int))),(19,.int .i64 ((Int.natAbs z1:Nat):Int)),(18,.pointer (some ⟨gr,og,none⟩)),(17,.int .i64 i),(16,.slice ad1 n1 c1),(15,.pointer (some ⟨g1,1,none⟩)),(14,.int .i64 (65536*n)),(13,.int .i64 n),(10,.bool true),(9,.int .i64 i),(4,.int .i64 i),(2,.int .i64 0),(1,.pointer (some ⟨g1,0,none⟩))]) hF (aO (hF.at 0 rfl)) rfl rfl rfl rfl fun a hF=>?_
     refine E.nil0 ?_
     refine E.blk ?_
     refine E.norm ?_
     refine E.seq ?_
     refine oM hF 11 rfl rfl fun a hF=>?_
     refine oV hF (aq (hF.at 0 rfl) ao ab (cv (by omega) (by omega))) rfl fun a hF=>?_
     refine E.opset (L':=[(4,.int .i64 (i-1)),(12,.int .i64 (i-1)),(11,.int .i64 i),(3,.int .i64 ((65536*n)+((Int.natAbs z1:Nat):Int))),(20,.int .i64 ((65536*n)+((Int.natAbs z1:Nat):Int))),(19,.int .i64 ((Int.natAbs z1:Nat):Int)),(18,.pointer (some ⟨gr,og,none⟩)),(17,.int .i64 i),(16,.slice ad1 n1 c1),(15,.pointer (some ⟨g1,1,none⟩)),(14,.int .i64 (65536*n)),(13,.int .i64 n),(10,.bool true),(9,.int .i64 i),(2,.int .i64 0),(1,.pointer (some ⟨g1,0,none⟩))]) hF (aO (hF.at 0 rfl)) rfl rfl rfl rfl fun a hF=>?_
     refine E.nil0 ?_
     refine E.norm ?_
     exact⟨((i-1)+1:Int).toNat,by omega,⟨(i-1:Int),((65536*n)+((Int.natAbs z1:Nat):Int):Int),(by omega),Fr.sub (L':=[(4,.int .i64 (i-1)),(3,.int .i64 ((65536*n)+((Int.natAbs z1:Nat):Int))),(2,.int .i64 0),(1,.pointer (some ⟨g1,0,none⟩))]) hF (by intro p hp;simp only [List.mem_cons,List.not_mem_nil,or_false] at hp ⊢;rcases hp with rfl|rfl|rfl|rfl <;> simp),sty,bel,rfl⟩⟩)
  ·first
   |(exfalso;omega)
   |(refine oV hF (aq (hF.at 0 rfl) ao ab (aw (eo (c:=false) (aK hc3)) (by simp))) rfl fun a hF=>?_
     refine E.nil ?_
     refine wp_cond_false (hF.at 0 rfl) ?_
     refine wp_exit ?_
     refine E.past ?_
     refine E.past ?_
     refine E.out (id:=0) ?_
     refine E.norm ?_
     refine wp_seq ?_
     refine wq ?_
     refine oV hF (aA (hF.at 5 rfl) (fh (p:=0) rfl)) rfl fun a hF=>?_
     refine oV hF (av (hF.at 0 rfl) (dP (v:= .bool b1) o1 rfl)) rfl fun a hF=>?_
     refine E.nil ?_
     refine wp_cond_false (Eq.trans (hF.at 0 rfl) (congrArg Value.bool hbf)) ?_
     refine wp_skip ?_
     refine E.norm ?_
     refine wq ?_
     refine oM hF 5 rfl rfl fun a hF=>?_
     refine E.opset (L':=[(2,.int .i64 n),(25,.int .i64 n),(22,.bool b1),(21,.pointer (some ⟨g1,0,none⟩)),(10,.bool false),(9,.int .i64 i),(4,.int .i64 i),(3,.int .i64 n),(1,.pointer (some ⟨g1,0,none⟩))]) hF (aO (hF.at 0 rfl)) rfl rfl rfl rfl fun a hF=>?_
     refine nr ?_
     refine rt Tryz.results148 hF 0 rfl ?_
     refine⟨cm ?_,bel⟩
     omega)
def dq (X j:Nat):Nat:=X/65536^j
def dg6 (X j:Nat):Nat:=X/65536^j%65536
theorem uW (X:Nat):dq X 0=X:=by unfold dq;rw[Nat.pow_zero,Nat.div_one]
theorem D5 (X j:Nat):65536*dq X (j+1)+dg6 X j=dq X j:=by
 unfold dq dg6
 rw[Nat.pow_succ,←Nat.div_div_eq_div_mul]
 exact Nat.div_add_mod _ _
theorem CT (X j:Nat):dq X j≤X:=Nat.div_le_self _ _
theorem FI (X:Nat):dq X (dl 65536 X)=0:=Nat.div_eq_of_lt (gl (by decide) X)
theorem DU {w:World} {ad:Option Addr} {n c X j:Nat} (h:Dg w .i64 65536 (.slice ad n c) X) (hj:j<n):∃b off,ad=some ⟨b,off,none⟩∧w.cell? ⟨b,off+j,none⟩=some (.int .i64 ((dg6 X j:Nat):Int)):=by
 obtain⟨ad',cap,h1,hr,_⟩:=h
 injection h1 with e1 e2 e3
 subst e1
 obtain⟨b,off,e,_,hc⟩:=hr.cell j (by omega)
 rw[rF (by decide)] at hc
 exact⟨b,off,e,hc⟩
theorem Dm {w:World} {b off n c j:Nat} {i:Int} (hi:i=(j:Int)) (hn:j<n):(Instr.indexAt 36 (.slice (some ⟨b,off,none⟩) n c) (.int .i64 i)).run Tryz.prog w= .ok (.pointer (some ⟨b,off+j,none⟩)) w:=by
 subst hi
 simp[Instr.indexAt,asIntOf,run_underlying Tryz.underlying36,Sem.run_bind,Addr.add_mid]
 intro e;omega
theorem AV {X:Nat} {i n:Int} (h:n=((dq X (i+1).toNat :Nat):Int)):0≤n∧n≤((X:Nat):Int)∧(0≤i→0≤65536*n∧65536*n≤((X:Nat):Int)∧65536*n+((dg6 X i.toNat:Nat):Int)=((dq X (i-1+1).toNat :Nat):Int)∧65536*n+((dg6 X i.toNat:Nat):Int)≤((X:Nat):Int)):=by
 have a:=CT X (i+1).toNat
 subst h
 refine⟨by omega,by omega,fun h0=>?_⟩
 have e:=D5 X i.toNat
 have f:=CT X i.toNat
 rw[show(i+1).toNat =i.toNat+1 by omega,show(i-1+1).toNat =i.toNat by omega]
 omega
theorem ua (v1:Value) (z1:Int) (w:World) (h1:Rz w v1 z1) (h0: -4611686018427387904≤z1) (hs:z1≤4611686018427387904):
 Calls Tryz.prog 148 #[v1] w (aR w (.int .i64 z1)):=by
 obtain⟨b1,ad1,n1,c1,rfl⟩:=h1.form
 have ha1:=h1.abs
 have hb1:=h1.neg
 have hbt:b1=true↔z1<0:=by rw[hb1];exact decide_eq_true_iff
 clear hb1
 have hl1:n1=dl 65536 (Int.natAbs z1):=ha1.len
 have hl4:n1≤4:=by rw[hl1];exact eG (by decide) (by rw[show(65536:Nat)^4=18446744073709551616 from rfl];omega)
 have st:=St.start w
 refine go1 (nt:=26) Tryz.func148 rfl rfl rfl fun a hF=>?_
 refine wq ?_
 refine bx st hF 0 rfl rfl fun g1 w1 a st hF=>?_
 refine oC hF rfl fun a hF=>?_
 refine nq ?_
 refine oC hF rfl fun a hF=>?_
 refine ns ?_
 refine wq ?_
 refine oV hF (aA (hF.at 2 rfl) (cy (p:=1) rfl)) rfl fun a hF=>?_
 refine oV hF (av (hF.at 0 rfl) (cp (v:= .slice ad1 n1 c1) (st.b 0 rfl rfl) rfl)) rfl fun a hF=>?_
 refine oV hF (cr (aI (hF.at 0 rfl)) gD) rfl fun a hF=>?_
 refine oV hF (aq (hF.at 0 rfl) ao ab (cv (by omega) (by omega))) rfl fun a hF=>?_
 refine oA hF 0 rfl rfl fun a hF=>?_
 refine E.nil ?_
 refine wp_block ?_
 refine E.loop (fun mq a wv=>∃(i:Int) (n:Int), -1≤i∧i<((n1:Nat):Int)∧n=((dq (Int.natAbs z1) (i+1).toNat :Nat):Int)∧Fr 26 a [(4,.int .i64 i),(3,.int .i64 n),(2,.int .i64 0),(1,.pointer (some ⟨g1,0,none⟩))]∧St w wv [(g1,[.bool b1,.slice ad1 n1 c1])] []∧mq=(i+1:Int).toNat) (((((n1:Nat):Int)-1)+1:Int).toNat) ?_ ?_
 ·exact⟨(((n1:Nat):Int)-1:Int),(0:Int),(by omega),(by omega),(by rw[show(((n1:Nat):Int)-1+1).toNat =dl 65536 (Int.natAbs z1) by omega,FI];rfl),Fr.pick (L':=[(4,.int .i64 (((n1:Nat):Int)-1)),(3,.int .i64 0),(2,.int .i64 0),(1,.pointer (some ⟨g1,0,none⟩))]) hF [0,5,6,7] rfl,st.pick [0] [] rfl rfl (by decide),rfl⟩
 ·rintro mq a w2 ⟨i,n,hi0,hi1,hn,hF,st,hm⟩
  have hsm:=AV hn
  refine wp_seq ?_
  refine wq ?_
  refine oM hF 0 rfl rfl fun a hF=>?_
  by_cases hc3:0≤i
  ·first
   |(exfalso;omega)
   |(refine oV hF (aq (hF.at 0 rfl) ao ab (aw (eo (c:=true) (aU hc3)) (by simp))) rfl fun a hF=>?_
     refine E.nil ?_
     refine wp_cond_true (hF.at 0 rfl) ?_
     refine wp_skip ?_
     refine E.norm ?_
     refine wp_seq ?_
     refine wp_block ?_
     refine E.seq ?_
     refine oM hF 3 rfl rfl fun a hF=>?_
     refine oV hF (aq ao (hF.at 0 rfl) ab (dZ (by omega) (by omega))) rfl fun a hF=>?_
     refine oV hF (aA (hF.at 7 rfl) (cy (p:=1) rfl)) rfl fun a hF=>?_
     refine oV hF (av (hF.at 0 rfl) (cp (v:= .slice ad1 n1 c1) (st.b 0 rfl rfl) rfl)) rfl fun a hF=>?_
     refine oM hF 6 rfl rfl fun a hF=>?_
     obtain⟨gr,og,hag,hcl⟩:=DU (j:=(i).toNat) (ha1.below st.bel) (by omega)
     refine oV hF (gS (hF.at 1 rfl) (hF.at 0 rfl) (by rw[hag];exact Dm (j:=(i).toNat) (by omega) (by omega))) rfl fun a hF=>?_
     refine oV hF (av (hF.at 0 rfl) (qu hcl)) rfl fun a hF=>?_
     refine oV hF (aq (hF.at 5 rfl) (hF.at 0 rfl) ab (bq (by omega) (by omega))) rfl fun a hF=>?_
     refine oE hF 0 rfl rfl fun a hF=>?_
     refine E.nil0 ?_
     refine E.blk ?_
     refine E.norm ?_
     refine E.seq ?_
     refine oM hF 11 rfl rfl fun a hF=>?_
     refine oV hF (aq (hF.at 0 rfl) ao ab (cv (by omega) (by omega))) rfl fun a hF=>?_
     refine oE hF 0 rfl rfl fun a hF=>?_
     refine E.nil0 ?_
     refine E.norm ?_
     exact⟨((i-1)+1:Int).toNat,by omega,⟨(i-1:Int),((65536*n)+((dg6 (Int.natAbs z1) (i).toNat :Nat):Int):Int),(by omega),(by omega),(hsm.2.2 (by omega)).2.2.1,Fr.pick (L':=[(4,.int .i64 (i-1)),(3,.int .i64 ((65536*n)+((dg6 (Int.natAbs z1) (i).toNat :Nat):Int))),(2,.int .i64 0),(1,.pointer (some ⟨g1,0,none⟩))]) hF [0,3,14,15] rfl,st.pick [0] [] rfl rfl (by decide),rfl⟩⟩)
  ·first
   |(exfalso;omega)
   |(refine oV hF (aq (hF.at 0 rfl) ao ab (aw (eo (c:=false) (aK hc3)) (by simp))) rfl fun a hF=>?_
     refine E.nil ?_
     refine wp_cond_false (hF.at 0 rfl) ?_
     refine wp_exit ?_
     refine E.past ?_
     refine E.past ?_
     refine E.out (id:=0) ?_
     refine E.norm ?_
     refine wp_seq ?_
     refine wq ?_
     refine oV hF (aA (hF.at 5 rfl) (fh (p:=0) rfl)) rfl fun a hF=>?_
     refine oV hF (av (hF.at 0 rfl) (dP (v:= .bool b1) (st.b 0 rfl rfl) rfl)) rfl fun a hF=>?_
     refine E.nil ?_
     by_cases hc4:b1=true
     ·first
      |(exfalso;omega)
      |(refine wp_cond_true (Eq.trans (hF.at 0 rfl) (congrArg Value.bool hc4)) ?_
        refine wq ?_
        refine oM hF 5 rfl rfl fun a hF=>?_
        refine oV hF (fi (hF.at 0 rfl) (pw (by omega) (by omega))) rfl fun a hF=>?_
        refine oE hF 0 rfl rfl fun a hF=>?_
        refine nr ?_
        have bel:=st.bel
        refine rt Tryz.results148 hF 0 rfl ?_
        have hz:=hbt.1 hc4
        rw[show(i+1).toNat =0 by omega,uW] at hn
        refine⟨cm ?_,bel⟩
        omega)
     ·first
      |(exfalso;omega)
      |(refine wp_cond_false (Eq.trans (hF.at 0 rfl) (congrArg Value.bool (eq_false_of_ne_true hc4))) ?_
        refine wp_skip ?_
        refine E.norm ?_
        refine wq ?_
        refine oM hF 5 rfl rfl fun a hF=>?_
        refine oE hF 0 rfl rfl fun a hF=>?_
        refine nr ?_
        have bel:=st.bel
        refine rt Tryz.results148 hF 0 rfl ?_
        have hz:¬z1<0:=fun e=>hc4 (hbt.2 e)
        rw[show(i+1).toNat =0 by omega,uW] at hn
        refine⟨cm ?_,bel⟩
        omega))
theorem zw (v1:Value) (q1:Rat) (k:Nat) (w:World) (h1:Rr w v1 q1 k) (hp:1≤k) (hk:k≤4990) (hf0: -4611686018427387904≤Rat.floor q1) (hf1:Rat.floor q1≤4611686018427387904):
 Calls Tryz.prog 84 #[v1] w (aR w (.int .i64 (Rat.floor q1))):=by
 have rl1:=h1.rlim
 obtain⟨r1,rfl⟩:=h1.fo
 have st:=St.start w
 refine go1 (nt:=6) Tryz.func84 rfl rfl rfl fun a hF=>?_
 refine wq ?_
 refine bx st hF 0 rfl rfl fun g1 w1 a st hF=>?_
 refine oC hF rfl fun a hF=>?_
 refine nq ?_
 refine oL hF st 1 0 ag rfl rfl rfl rfl fun a hF=>?_
 refine ca st hF (rk Ci (aI (hF.at 0 rfl))) (ik _ (q1) k _ (h1.below st.bel) (by omega) (by omega)) (fun _ _ h=>h) Rz.cl rfl fun vv3 w2 a st hF=>?_
 obtain⟨b5,ad5,n5,c5,rfl⟩:=Rz.form (st.f 0 rfl)
 refine cX st hF (rk GQ (aI (hF.at 0 rfl))) (ua _ (Rat.floor (q1)) _ (st.f 0 rfl) hf0 hf1) rfl fun w6 a st hF=>?_
 refine oE hF 0 rfl rfl fun a hF=>?_
 refine nr ?_
 have bel:=st.bel
 refine rt Tryz.results84 hF 0 rfl ?_
 exact⟨rfl,bel⟩
end Go.Proofs.YtnljadejcfgmaaaGreatDoor
