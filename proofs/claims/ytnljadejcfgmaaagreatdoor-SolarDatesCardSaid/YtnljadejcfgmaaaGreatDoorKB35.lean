import Derived.Test.YtnljadejcfgmaaaGreatDoorKB34
namespace Go.Proofs.YtnljadejcfgmaaaGreatDoor
open Go.RowKit
set_option maxRecDepth 100000
set_option linter.unusedVariables false
set_option maxHeartbeats 8000000
theorem Gb:(Tryz.prog.info? 43).map (·.size)=some 6:=by kernel_rfl
theorem yV:(Tryz.prog.info? 43).bind (·.zero)=some (.agg #[.bool false,.slice none 0 0,.slice none 0 0,.bool false,.slice none 0 0,.slice none 0 0]):=by kernel_rfl
theorem sN {w:World} {g o p:Nat} (hp:o+0=p):(Instr.fieldAt 43 (.pointer (some ⟨g,o,none⟩)) 0).run Tryz.prog w= .ok (.pointer (some ⟨g,p,none⟩)) w:=bz Tryz.underlying43 rfl rfl jG rfl p hp
theorem sT {w:World} {g o p:Nat} (hp:o+3=p):(Instr.fieldAt 43 (.pointer (some ⟨g,o,none⟩)) 1).run Tryz.prog w= .ok (.pointer (some ⟨g,p,none⟩)) w:=bz Tryz.underlying43 rfl rfl jG rfl p hp
theorem yl {place:Nat→Option (Nat×Nat)} {cells:Array Value} {i off:Nat} {x y z:Value} {rest:List (Nat×Value)} (hp:place i=some (off,3)) (hc:off+3≤cells.size):
 Instr.fill place cells ((i,.agg #[x,y,z])::rest)=Instr.fill place (((cells.setIfInBounds off x).setIfInBounds (off+1) y).setIfInBounds (off+2) z) rest:=by
 conv=>lhs;unfold Instr.fill
 rw[hp]
 have h1:(Value.agg #[x,y,z]).cells =#[x,y,z]:=rfl
 simp only [h1]
 rw[if_neg (by simp;omega)]
 have h2:∀f:Array Value→Value×Nat→Array Value,Array.foldl f cells #[x,y,z].zipIdx =f (f (f cells (x,0)) (y,1)) (z,2):=fun f=>rfl
 rw[h2]
 rfl
theorem qK (b00:Bool) (a01:Option Addr) (n01 c01:Nat) (a02:Option Addr) (n02 c02:Nat) (b10:Bool) (a11:Option Addr) (n11 c11:Nat) (a12:Option Addr) (n12 c12:Nat) (w:World):(Instr.build 43 #[(0,.agg #[.bool b00,.slice a01 n01 c01,.slice a02 n02 c02]),(1,.agg #[.bool b10,.slice a11 n11 c11,.slice a12 n12 c12])]).run Tryz.prog w= .ok (.agg #[.bool b00,.slice a01 n01 c01,.slice a02 n02 c02,.bool b10,.slice a11 n11 c11,.slice a12 n12 c12]) w:=by
 have hz:=cH yV w
 have h_RRat:∀w,(sizeOf 40).run Tryz.prog w= .ok 3 w:=fun w=>bB jG w
 simp only [Instr.build,Sem.run_bind,hz,Result.andThen_ok,run_underlying Tryz.underlying43,List.mapM_toArray,List.mapM_cons,List.mapM_nil,Sem.run_map,h_RRat,Sem.run_pure]
 rw[show(Value.agg #[Value.bool false,Value.slice none 0 0,Value.slice none 0 0,Value.bool false,Value.slice none 0 0,Value.slice none 0 0]).cells =#[Value.bool false,Value.slice none 0 0,Value.slice none 0 0,Value.bool false,Value.slice none 0 0,Value.slice none 0 0] from rfl]
 rw[yl (off:=0) rfl (by simp),yl (off:=3) rfl (by simp)]
 simp only [List.setIfInBounds_toArray,List.set_cons_zero,List.set_cons_succ,Nat.reduceAdd,Nat.zero_add]
 rfl
def RPl (w:World) (v:Value) (p q:Rat) (k:Nat):Prop:=
 ∃b1 a1 n1 c1 d1 m1 e1 b2 a2 n2 c2 d2 m2 e2,v= .agg #[.bool b1,.slice a1 n1 c1,.slice d1 m1 e1,.bool b2,.slice a2 n2 c2,.slice d2 m2 e2]∧Rr w (.agg #[.bool b1,.slice a1 n1 c1,.slice d1 m1 e1]) p k∧Rr w (.agg #[.bool b2,.slice a2 n2 c2,.slice d2 m2 e2]) q k
theorem RPl.below {w w':World} {v:Value} {p q:Rat} {k:Nat} (h:RPl w v p q k) (hb:Below w.heap.size w w'):RPl w' v p q k:=by
 obtain⟨b1,a1,n1,c1,d1,m1,e1,b2,a2,n2,c2,d2,m2,e2,h0,h1,h2⟩:=h
 exact⟨b1,a1,n1,c1,d1,m1,e1,b2,a2,n2,c2,d2,m2,e2,h0,h1.below hb,h2.below hb⟩
theorem RPl.keep {w w':World} {v:Value} {p q:Rat} {k:Nat} (h:RPl w v p q k) (kp:dA w w'):RPl w' v p q k:=by
 obtain⟨b1,a1,n1,c1,d1,m1,e1,b2,a2,n2,c2,d2,m2,e2,h0,h1,h2⟩:=h
 exact⟨b1,a1,n1,c1,d1,m1,e1,b2,a2,n2,c2,d2,m2,e2,h0,h1.keep kp,h2.keep kp⟩
theorem RPl.cl {p q:Rat} {k:Nat} (v:Value):Cl fun w=>RPl w v p q k:=fun _ _ h kp=>h.keep kp
theorem RPl.shape {w:World} {v:Value} {p q:Rat} {k:Nat} (h:RPl w v p q k):∃b1 a1 n1 c1 d1 m1 e1 b2 a2 n2 c2 d2 m2 e2,v= .agg #[.bool b1,.slice a1 n1 c1,.slice d1 m1 e1,.bool b2,.slice a2 n2 c2,.slice d2 m2 e2]∧Rr w (.agg #[.bool b1,.slice a1 n1 c1,.slice d1 m1 e1]) p k∧Rr w (.agg #[.bool b2,.slice a2 n2 c2,.slice d2 m2 e2]) q k:=h
theorem RPl.mono (p q:Rat) (k:Nat):∀w w' v,RPl w v p q k→Below w.heap.size w w'→RPl w' v p q k:=fun _ _ _ h hb=>h.below hb
def vv (w:World) (p q:Rat) (k:Nat) (e:Ending) (w':World):Prop:=∃v,e= .returned v∧RPl w' v p q k∧Below w.heap.size w w'
theorem cR:Ty Tryz.prog 43 6 [.bool false,.slice none 0 0,.slice none 0 0,.bool false,.slice none 0 0,.slice none 0 0]:=⟨⟨_,Tryz.underlying43,rfl⟩,Gb,yV⟩
theorem jt (xa xb xc xd:Int) (w:World) (hxa0: -9223372036854775808≤xa) (hxa1:xa≤9223372036854775807) (hxb0: -9223372036854775808≤xb) (hxb1:xb≤9223372036854775807) (hxc0: -9223372036854775808≤xc) (hxc1:xc≤9223372036854775807) (hxd0: -9223372036854775808≤xd) (hxd1:xd≤9223372036854775807):
 Calls Tryz.prog 18 #[.agg #[.int .i64 xa,.int .i64 xb,.int .i64 xc,.int .i64 xd]] w (vv w (((xa:Int):Rat)/((xb:Int):Rat)) (((xc:Int):Rat)/((xd:Int):Rat)) 2):=by
 have st:=St.start w
 refine go1 (nt:=14) Tryz.func18 rfl rfl rfl fun a hF=>?_
 refine wq ?_
 refine bx st hF 0 rfl rfl fun g1 w1 a st hF=>?_
 refine S.alloc st hF cR rfl rfl fun g2 w2 a st hF=>?_
 refine ns ?_
 refine E.drawn 11 aF hF [3,4,5,6,7,8,9,10,11,12,13] [(fun _ v=>v= .pointer (some ⟨g1,0,none⟩)),(fun _ v=>v= .int .i64 xa),(fun _ v=>v= .pointer (some ⟨g1,1,none⟩)),(fun _ v=>v= .int .i64 xb),(fun w v=>Rr w v (((xa:Int):Rat)/((xb:Int):Rat)) (2)),(fun _ v=>v= .pointer (some ⟨g1,2,none⟩)),(fun _ v=>v= .int .i64 xc),(fun _ v=>v= .pointer (some ⟨g1,3,none⟩)),(fun _ v=>v= .int .i64 xd),(fun w v=>Rr w v (((xc:Int):Rat)/((xd:Int):Rat)) (2)),(fun w v=>RPl w v (((xa:Int):Rat)/((xb:Int):Rat)) (((xc:Int):Rat)/((xd:Int):Rat)) (2))] [] (by decide+kernel) (by decide+kernel) rfl rfl rfl ⟨(Mb.eq _),(Mb.eq _),(Mb.eq _),(Mb.eq _),(fun _ _ _ h hb=>h.below hb),(Mb.eq _),(Mb.eq _),(Mb.eq _),(Mb.eq _),(fun _ _ _ h hb=>h.below hb),(RPl.mono _ _ _),trivial⟩ trivial ⟨?_,?_,?_,?_,?_,?_,?_,?_,?_,?_,?_,trivial⟩ ?_
 ·intro a' w' hF' hb hd
  exact dv0 (aA (hF'.at 1 rfl) (lW (p:=0) rfl)) rfl rfl rfl
 ·intro a' w' hF' hb hd
  have e3:=tE hd 0 rfl
  exact dv0 (av e3 (bF (v:= .int .i64 xa) ((st.bk 1 rfl).below hb) rfl)) rfl rfl rfl
 ·intro a' w' hF' hb hd
  exact dv0 (aA (hF'.at 1 rfl) (l9 (p:=1) rfl)) rfl rfl rfl
 ·intro a' w' hF' hb hd
  have e5:=tE hd 0 rfl
  exact dv0 (av e5 (bF (v:= .int .i64 xb) ((st.bk 1 rfl).below hb) rfl)) rfl rfl rfl
 ·intro a' w' hF' hb hd
  have e4:=tE hd 0 rfl
  have e6:=tE hd 1 rfl
  exact dc0 (rk xG (aC e4 e6)) (nM xa xb _ hxa0 hxa1 hxb0 hxb1) rfl rfl
 ·intro a' w' hF' hb hd
  exact dv0 (aA (hF'.at 1 rfl) (mc (p:=2) rfl)) rfl rfl rfl
 ·intro a' w' hF' hb hd
  have e8:=tE hd 0 rfl
  exact dv0 (av e8 (bF (v:= .int .i64 xc) ((st.bk 1 rfl).below hb) rfl)) rfl rfl rfl
 ·intro a' w' hF' hb hd
  exact dv0 (aA (hF'.at 1 rfl) (lR (p:=3) rfl)) rfl rfl rfl
 ·intro a' w' hF' hb hd
  have e10:=tE hd 0 rfl
  exact dv0 (av e10 (bF (v:= .int .i64 xd) ((st.bk 1 rfl).below hb) rfl)) rfl rfl rfl
 ·intro a' w' hF' hb hd
  have e9:=tE hd 0 rfl
  have e11:=tE hd 1 rfl
  exact dc0 (rk xG (aC e9 e11)) (nM xc xd _ hxc0 hxc1 hxd0 hxd1) rfl rfl
 ·intro a' w' hF' hb hd
  obtain⟨v7_0,e7,h7_1⟩:=tH hd 0 rfl
  obtain⟨v12_0,e12,h12_1⟩:=tH hd 1 rfl
  obtain⟨r3,rfl⟩:=Rr.fo h7_1
  obtain⟨r4,rfl⟩:=Rr.fo h12_1
  exact dv0 (bh (eL e7 e12) (qK _ _ _ _ _ _ _ _ _ _ _ _ _ _ _)) ⟨_,_,_,_,_,_,_,_,_,_,_,_,_,_,rfl,h7_1,h12_1⟩ rfl rfl
 intro a w5 hF bb hall hne
 replace st:=st.to bb
 obtain⟨vv6,hF,st⟩:=aS hall hF st 10 rfl rfl RPl.cl
 clear hall hne bb
 obtain⟨b9x,ad9x,n9x,c9x,ae9x,m9x,d9x,b9y,ad9y,n9y,c9y,ae9y,m9y,d9y,rfl,hp9x,hp9y⟩:=RPl.shape (st.f 0 rfl)
 refine so st hF 0 1 0 cR rfl rfl rfl rfl fun w10 a st hF=>?_
 refine nr ?_
 refine rs Tryz.results18 st hF 1 0 cR rfl rfl rfl ?_
 have bel:=st.bel
 exact⟨_,rfl,(st.f 0 rfl),bel⟩
theorem vZ (v1 v2 v3:Value) (q1 q2 q3:Rat) (k i:Nat) (w:World) (h1:Rr w v1 q1 k) (h2:Rr w v2 q2 2) (h3:Rr w v3 q3 2) (li1:au q1 i) (li2:au q2 2) (li3:au q3 2) (hp:1≤k) (hk:k≤1000) (hi:i≤1000):
 Calls Tryz.prog 257 #[v1,v2,v3] w (bK w (cO q1 q2 q3) (k+i+30)):=by
 obtain⟨b1,ad1,n1,c1,ae1,m1,d1,z1,D1,rfl,hn1,hd1,hD1,hq1,lz1,lD1⟩:=h1.shape
 have h1:Rr w (.agg #[.bool b1,.slice ad1 n1 c1,.slice ae1 m1 d1]) q1 k:=⟨_,_,_,_,_,_,_,_,_,rfl,hn1,hd1,hD1,hq1,lz1,lD1⟩
 have ha1:=hn1.abs
 have hb1:=hn1.neg
 replace hq1:=Lib.hid hq1
 obtain⟨b2,ad2,n2,c2,ae2,m2,d2,z2,D2,rfl,hn2,hd2,hD2,hq2,lz2,lD2⟩:=h2.shape
 have h2:Rr w (.agg #[.bool b2,.slice ad2 n2 c2,.slice ae2 m2 d2]) q2 2:=⟨_,_,_,_,_,_,_,_,_,rfl,hn2,hd2,hD2,hq2,lz2,lD2⟩
 have ha2:=hn2.abs
 have hb2:=hn2.neg
 replace hq2:=Lib.hid hq2
 obtain⟨b3,ad3,n3,c3,ae3,m3,d3,z3,D3,rfl,hn3,hd3,hD3,hq3,lz3,lD3⟩:=h3.shape
 have h3:Rr w (.agg #[.bool b3,.slice ad3 n3 c3,.slice ae3 m3 d3]) q3 2:=⟨_,_,_,_,_,_,_,_,_,rfl,hn3,hd3,hD3,hq3,lz3,lD3⟩
 have ha3:=hn3.abs
 have hb3:=hn3.neg
 replace hq3:=Lib.hid hq3
 by_cases h0:sz (Rat.num ((q3)-(q2)))≤0
 ·have st:=St.start w
  refine go3 (nt:=21) Tryz.func257 rfl rfl rfl fun a hF=>?_
  refine wq ?_
  refine bx st hF 0 rfl rfl fun g3 w1 a st hF=>?_
  refine bx st hF 2 rfl rfl fun g4 w2 a st hF=>?_
  refine bx st hF 4 rfl rfl fun g5 w3 a st hF=>?_
  refine S.alloc st hF ag rfl rfl fun g6 w4 a st hF=>?_
  refine ns ?_
  refine wq ?_
  refine oL hF st 2 2 ag rfl rfl rfl rfl fun a hF=>?_
  refine oL hF st 2 1 ag rfl rfl rfl rfl fun a hF=>?_
  refine cX st hF (rk ru (aC (hF.at 1 rfl) (hF.at 0 rfl))) (kv _ _ (q2) (q3) 2 2 _ (h2.below st.bel) (h3.below st.bel) (by omega) (by omega)) rfl fun w5 a st hF=>?_
  refine oV hF (aq (hF.at 0 rfl) ao ab (aw (eo (c:=true) (aU (yt.2 h0))) (by simp))) rfl fun a hF=>?_
  refine E.nil ?_
  refine wp_cond_true (hF.at 0 rfl) ?_
  refine wq ?_
  refine ca st hF (rk fY (aC ao ao)) (a5 (0) _ (by decide) (by decide)) (fun _ _ h=>h) Rr.cl rfl fun vv7 w6 a st hF=>?_
  obtain⟨r9,rfl⟩:=Rr.fo (st.f 0 rfl)
  refine so st hF 0 5 0 ag rfl rfl rfl rfl fun w10 a st hF=>?_
  refine nr ?_
  refine rs Tryz.results257 st hF 5 0 ag rfl rfl rfl ?_
  have bel:=st.bel
  exact⟨_,rfl,Rr.cast (Rr.up (st.f 0 rfl) _ (by omega)) (Rat.intCast_zero.trans (rN h0)),bel⟩
 ·have st:=St.start w
  refine go3 (nt:=21) Tryz.func257 rfl rfl rfl fun a hF=>?_
  refine wq ?_
  refine bx st hF 0 rfl rfl fun g3 w1 a st hF=>?_
  refine bx st hF 2 rfl rfl fun g4 w2 a st hF=>?_
  refine bx st hF 4 rfl rfl fun g5 w3 a st hF=>?_
  refine S.alloc st hF ag rfl rfl fun g6 w4 a st hF=>?_
  refine ns ?_
  refine wq ?_
  refine oL hF st 2 2 ag rfl rfl rfl rfl fun a hF=>?_
  refine oL hF st 2 1 ag rfl rfl rfl rfl fun a hF=>?_
  refine cX st hF (rk ru (aC (hF.at 1 rfl) (hF.at 0 rfl))) (kv _ _ (q2) (q3) 2 2 _ (h2.below st.bel) (h3.below st.bel) (by omega) (by omega)) rfl fun w5 a st hF=>?_
  refine oV hF (aq (hF.at 0 rfl) ao ab (aw (eo (c:=false) (aK (fun e=>h0 (yt.1 e)))) (by simp))) rfl fun a hF=>?_
  refine E.nil ?_
  refine wp_cond_false (hF.at 0 rfl) ?_
  refine wp_skip ?_
  refine E.norm ?_
  refine wp_seq ?_
  refine eD 9 aF hF [12,13,14,15,16,17,18,19,20] [(Iz (.agg #[.bool b2,.slice ad2 n2 c2,.slice ae2 m2 d2])),(Iz (.agg #[.bool b1,.slice ad1 n1 c1,.slice ae1 m1 d1])),(Iz (.agg #[.bool b2,.slice ad2 n2 c2,.slice ae2 m2 d2])),(Ir ((q1)-(q2)) ((k+2+1))),(Iz (.agg #[.bool b3,.slice ad3 n3 c3,.slice ae3 m3 d3])),(Iz (.agg #[.bool b2,.slice ad2 n2 c2,.slice ae2 m2 d2])),(Ir ((q3)-(q2)) ((2+2+1))),(Ir (rmod ((q1)-(q2)) ((q3)-(q2))) (((k+2+1)+(2+2+1)+(i+2+1)+(2+2+1)+3))),(Ir ((q2)+(rmod ((q1)-(q2)) ((q3)-(q2)))) ((2+((k+2+1)+(2+2+1)+(i+2+1)+(2+2+1)+3)+1)))] [] (by decide+kernel) rfl rfl trivial ⟨?_,?_,?_,?_,?_,?_,?_,?_,?_,trivial⟩ ?_
  ·exact qL st 6 2 ag rfl rfl rfl rfl rfl
  ·exact qL st 7 3 ag rfl rfl rfl rfl rfl
  ·exact qL st 6 2 ag rfl rfl rfl rfl rfl
  ·intro a' w' hF' hb hd
   have e13:=tE hd 0 rfl
   have e14:=tE hd 1 rfl
   exact dc0 (rk tI (aC e13 e14)) (gQ _ _ (q1) (q2) k 2 _ (h1.below (ar st.bel hb)) (h2.below (ar st.bel hb)) (by omega) (by omega) (by omega) (by omega)) rfl rfl
  ·exact qL st 5 1 ag rfl rfl rfl rfl rfl
  ·exact qL st 6 2 ag rfl rfl rfl rfl rfl
  ·intro a' w' hF' hb hd
   have e16:=tE hd 0 rfl
   have e17:=tE hd 1 rfl
   exact dc0 (rk tI (aC e16 e17)) (gQ _ _ (q3) (q2) 2 2 _ (h3.below (ar st.bel hb)) (h2.below (ar st.bel hb)) (by omega) (by omega) (by omega) (by omega)) rfl rfl
  ·intro a' w' hF' hb hd
   obtain⟨v15_0,e15,h15_1⟩:=tH hd 0 rfl
   obtain⟨v18_0,e18,h18_1⟩:=tH hd 1 rfl
   exact dc0 (rk Hy (aC e15 e18)) (mu _ _ _ _ (k+2+1) (2+2+1) (i+2+1) (2+2+1) _ h15_1 h18_1 (bQ li1 li2) (bQ li3 li2) (by omega) (by omega) (by omega) (by omega) (by omega) (by omega)) rfl rfl
  ·intro a' w' hF' hb hd
   have e12:=tE hd 0 rfl
   obtain⟨v19_0,e19,h19_1⟩:=tH hd 1 rfl
   exact dc0 (rk xA (aC e12 e19)) (je _ _ (q2) _ 2 ((k+2+1)+(2+2+1)+(i+2+1)+(2+2+1)+3) _ (h2.below (ar st.bel hb)) h19_1 (by omega) (by omega) (by omega) (by omega)) rfl rfl
  intro a w6 hF bb hall hne
  replace st:=st.to bb
  obtain⟨vv7,hF,st⟩:=aS hall hF st 8 rfl rfl Rr.cl
  clear hall hne bb
  obtain⟨r9,rfl⟩:=Rr.fo (st.f 0 rfl)
  refine so st hF 0 5 0 ag rfl rfl rfl rfl fun w10 a st hF=>?_
  refine nr ?_
  refine rs Tryz.results257 st hF 5 0 ag rfl rfl rfl ?_
  have bel:=st.bel
  exact⟨_,rfl,Rr.cast (Rr.up (st.f 0 rfl) _ (by omega)) (qZ h0),bel⟩
end Go.Proofs.YtnljadejcfgmaaaGreatDoor
