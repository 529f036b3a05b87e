import Derived.Test.YtnljadejcfgmaaaGreatDoorKB32
namespace Go.Proofs.YtnljadejcfgmaaaGreatDoor
open Go.RowKit
set_option maxRecDepth 100000
set_option linter.unusedVariables false
set_option maxHeartbeats 8000000
theorem xi {a:Act} {i j k l:Nat} {x y z u:Operand} {p q r s:Value} (h:a.eval x=p) (h2:a.eval y=q) (h3:a.eval z=r) (h4:a.eval u=s):(#[(i,x),(j,y),(k,z),(l,u)].map fun(p:Nat×Operand)=>(p.1,a.eval p.2))=#[(i,p),(j,q),(k,r),(l,s)]:=by simp[h,h2,h3,h4]
theorem Cu {a:Act} {i j k l m:Nat} {x y z u v:Operand} {p q r s t:Value} (h:a.eval x=p) (h2:a.eval y=q) (h3:a.eval z=r) (h4:a.eval u=s) (h5:a.eval v=t):(#[(i,x),(j,y),(k,z),(l,u),(m,v)].map fun(p:Nat×Operand)=>(p.1,a.eval p.2))=#[(i,p),(j,q),(k,r),(l,s),(m,t)]:=by simp[h,h2,h3,h4,h5]
theorem ET:(Tryz.prog.info? 156).map (·.size)=some 12:=by kernel_rfl
theorem zM:(Tryz.prog.info? 156).bind (·.zero)=some (.agg #[.bool false,.slice none 0 0,.slice none 0 0,.bool false,.slice none 0 0,.slice none 0 0,.bool false,.slice none 0 0,.slice none 0 0,.bool false,.slice none 0 0,.slice none 0 0]):=by kernel_rfl
theorem AN {w:World} {g o p:Nat} (hp:o+0=p):(Instr.fieldAt 156 (.pointer (some ⟨g,o,none⟩)) 0).run Tryz.prog w= .ok (.pointer (some ⟨g,p,none⟩)) w:=bz Tryz.underlying156 rfl rfl ie rfl p hp
theorem BR {w:World} {g o p:Nat} (hp:o+3=p):(Instr.fieldAt 156 (.pointer (some ⟨g,o,none⟩)) 1).run Tryz.prog w= .ok (.pointer (some ⟨g,p,none⟩)) w:=bz Tryz.underlying156 rfl rfl ie rfl p hp
theorem sG {w:World} {g o p:Nat} (hp:o+6=p):(Instr.fieldAt 156 (.pointer (some ⟨g,o,none⟩)) 2).run Tryz.prog w= .ok (.pointer (some ⟨g,p,none⟩)) w:=bz Tryz.underlying156 rfl rfl ie rfl p hp
theorem BC {w:World} {g o p:Nat} (hp:o+9=p):(Instr.fieldAt 156 (.pointer (some ⟨g,o,none⟩)) 3).run Tryz.prog w= .ok (.pointer (some ⟨g,p,none⟩)) w:=bz Tryz.underlying156 rfl rfl ie rfl p hp
theorem rD {place:Nat→Option (Nat×Nat)} {cells:Array Value} {i off:Nat} {x y z:Value} {rest:List (Nat×Value)} (hp:place i=some (off,3)) (hc:off+3≤cells.size):
 Instr.fill place cells ((i,.agg #[x,y,z])::rest)=Instr.fill place (((cells.setIfInBounds off x).setIfInBounds (off+1) y).setIfInBounds (off+2) z) rest:=by
 conv=>lhs;unfold Instr.fill
 rw[hp]
 have h1:(Value.agg #[x,y,z]).cells =#[x,y,z]:=rfl
 simp only [h1]
 rw[if_neg (by simp;omega)]
 have h2:∀f:Array Value→Value×Nat→Array Value,Array.foldl f cells #[x,y,z].zipIdx =f (f (f cells (x,0)) (y,1)) (z,2):=fun f=>rfl
 rw[h2]
 rfl
theorem uo (b00:Bool) (a01:Option Addr) (n01 c01:Nat) (a02:Option Addr) (n02 c02:Nat) (b10:Bool) (a11:Option Addr) (n11 c11:Nat) (a12:Option Addr) (n12 c12:Nat) (b20:Bool) (a21:Option Addr) (n21 c21:Nat) (a22:Option Addr) (n22 c22:Nat) (b30:Bool) (a31:Option Addr) (n31 c31:Nat) (a32:Option Addr) (n32 c32:Nat) (w:World):(Instr.build 156 #[(0,.agg #[.bool b00,.slice a01 n01 c01,.slice a02 n02 c02]),(1,.agg #[.bool b10,.slice a11 n11 c11,.slice a12 n12 c12]),(2,.agg #[.bool b20,.slice a21 n21 c21,.slice a22 n22 c22]),(3,.agg #[.bool b30,.slice a31 n31 c31,.slice a32 n32 c32])]).run Tryz.prog w= .ok (.agg #[.bool b00,.slice a01 n01 c01,.slice a02 n02 c02,.bool b10,.slice a11 n11 c11,.slice a12 n12 c12,.bool b20,.slice a21 n21 c21,.slice a22 n22 c22,.bool b30,.slice a31 n31 c31,.slice a32 n32 c32]) w:=by
 have hz:=cH zM w
 have h_Rat:∀w,(sizeOf 33).run Tryz.prog w= .ok 3 w:=fun w=>bB ie w
 simp only [Instr.build,Sem.run_bind,hz,Result.andThen_ok,run_underlying Tryz.underlying156,List.mapM_toArray,List.mapM_cons,List.mapM_nil,Sem.run_map,h_Rat,Sem.run_pure]
 rw[show(Value.agg #[Value.bool false,Value.slice none 0 0,Value.slice none 0 0,Value.bool false,Value.slice none 0 0,Value.slice none 0 0,Value.bool false,Value.slice none 0 0,Value.slice none 0 0,Value.bool false,Value.slice none 0 0,Value.slice none 0 0]).cells =#[Value.bool false,Value.slice none 0 0,Value.slice none 0 0,Value.bool false,Value.slice none 0 0,Value.slice none 0 0,Value.bool false,Value.slice none 0 0,Value.slice none 0 0,Value.bool false,Value.slice none 0 0,Value.slice none 0 0] from rfl]
 rw[rD (off:=0) rfl (by simp),rD (off:=3) rfl (by simp),rD (off:=6) rfl (by simp),rD (off:=9) rfl (by simp)]
 simp only [List.setIfInBounds_toArray,List.set_cons_zero,List.set_cons_succ,Nat.reduceAdd,Nat.zero_add]
 rfl
def Orb (w:World) (v:Value) (p an s c:Rat):Prop:=
 ∃b1 a1 n1 c1 d1 m1 e1 b2 a2 n2 c2 d2 m2 e2 b3 a3 n3 c3 d3 m3 e3 b4 a4 n4 c4 d4 m4 e4,v= .agg #[.bool b1,.slice a1 n1 c1,.slice d1 m1 e1,.bool b2,.slice a2 n2 c2,.slice d2 m2 e2,.bool b3,.slice a3 n3 c3,.slice d3 m3 e3,.bool b4,.slice a4 n4 c4,.slice d4 m4 e4]∧
  Rq w (.agg #[.bool b1,.slice a1 n1 c1,.slice d1 m1 e1]) p∧Rq w (.agg #[.bool b2,.slice a2 n2 c2,.slice d2 m2 e2]) an∧Rq w (.agg #[.bool b3,.slice a3 n3 c3,.slice d3 m3 e3]) s∧Rq w (.agg #[.bool b4,.slice a4 n4 c4,.slice d4 m4 e4]) c
theorem Orb.below {w w':World} {v:Value} {p an s c:Rat} (h:Orb w v p an s c) (hb:Below w.heap.size w w'):Orb w' v p an s c:=by
 obtain⟨b1,a1,n1,c1,d1,m1,e1,b2,a2,n2,c2,d2,m2,e2,b3,a3,n3,c3,d3,m3,e3,b4,a4,n4,c4,d4,m4,e4,h0,h1,h2,h3,h4⟩:=h
 exact⟨b1,a1,n1,c1,d1,m1,e1,b2,a2,n2,c2,d2,m2,e2,b3,a3,n3,c3,d3,m3,e3,b4,a4,n4,c4,d4,m4,e4,h0,h1.below hb,h2.below hb,h3.below hb,h4.below hb⟩
def DL (w:World) (p an s c:Rat) (e:Ending) (w':World):Prop:=∃v,e= .returned v∧Orb w' v p an s c∧Below w.heap.size w w'
theorem pv:Ty Tryz.prog 156 12 [.bool false,.slice none 0 0,.slice none 0 0,.bool false,.slice none 0 0,.slice none 0 0,.bool false,.slice none 0 0,.slice none 0 0,.bool false,.slice none 0 0,.slice none 0 0]:=⟨⟨_,Tryz.underlying156,rfl⟩,ET,zM⟩
theorem Gu {x:Rat} {n:Int} (hn:0<n) (hn2:n≤1000) (h0:0≤x) (h1:x<((360:Int):Rat)):fV (Rat.floor (x*(((n:Int):Rat)/((360:Int):Rat))))=prt x n:=by
 have:=ig hn h0 h1
 exact ms (show _≤prt x n by omega) (show prt x n≤_ by omega)
theorem rq (w:World):
 Calls Tryz.prog 142 #[] w (DL w pyr pay ssz sch):=by
 have st:=St.start w
 refine go0 (nt:=6) Tryz.func142 rfl rfl fun a hF=>?_
 refine wq ?_
 refine S.alloc st hF pv rfl rfl fun g0 w1 a st hF=>?_
 refine nq ?_
 refine S.ck st hF (rgc k76 jo) (lc) Rl.cl rfl fun vv3 w2 a st hF=>?_
 obtain⟨r5,rfl⟩:=Rq.fo (st.f 0 rfl).1
 refine S.ck st hF (rgc Gk jo) (ld) Rl.cl rfl fun vv7 w6 a st hF=>?_
 obtain⟨r9,rfl⟩:=Rq.fo (st.f 0 rfl).1
 refine S.ck st hF (rgc k35 (aC ao ao)) (aD (bw (14) (360) _ (by decide) (by decide) (by decide) (by decide)) (au.up (aJ (az (by decide) (by decide)) (az (by decide) (by decide))) 2 (by decide))) Rl.cl rfl fun vv11 w10 a st hF=>?_
 obtain⟨r13,rfl⟩:=Rq.fo (st.f 0 rfl).1
 refine S.ck st hF (rgc k35 (aC ao ao)) (aD (bw (1) (42) _ (by decide) (by decide) (by decide) (by decide)) (au.up (aJ (az (by decide) (by decide)) (az (by decide) (by decide))) 2 (by decide))) Rl.cl rfl fun vv15 w14 a st hF=>?_
 obtain⟨r17,rfl⟩:=Rq.fo (st.f 0 rfl).1
 refine oV hF (bh (xi (hF.at 3 rfl) (hF.at 2 rfl) (hF.at 1 rfl) (hF.at 0 rfl)) (uo _ _ _ _ _ _ _ _ _ _ _ _ _ _ _ _ _ _ _ _ _ _ _ _ _ _ _ _ _)) rfl fun a hF=>?_
 refine so st hF 0 5 0 pv rfl rfl rfl rfl fun w18 a st hF=>?_
 refine nr ?_
 refine rs Tryz.results142 st hF 5 0 pv rfl rfl rfl ?_
 have bel:=st.bel
 exact⟨_,rfl,⟨_,_,_,_,_,_,_,_,_,_,_,_,_,_,_,_,_,_,_,_,_,_,_,_,_,_,_,_,rfl,(st.f 3 rfl).1,(st.f 2 rfl).1,(st.f 1 rfl).1,(st.f 0 rfl).1⟩,bel⟩
theorem Eb (v1 v2:Value) (qp qa qs qc qt:Rat) (k:Nat) (w:World) (hT:bV w) (ho:Orb w v1 qp qa qs qc) (h2:Rq w v2 qt) (lqp:au qp 2) (lqa:au qa 2) (lqs:au qs 2) (lqc:au qc 2) (hl:au qt k) (hk:k≤100):
 Calls Tryz.prog 187 #[v1,v2] w (bl w (eqv qt qa qs qc)):=by
 obtain⟨qb1,qx1,qn1,qk1,qy1,qm1,qd1,qb2,qx2,qn2,qk2,qy2,qm2,qd2,qb3,qx3,qn3,qk3,qy3,qm3,qd3,qb4,qx4,qn4,qk4,qy4,qm4,qd4,rfl,hr1,hr2,hr3,hr4⟩:=ho
 have ho:Orb w (.agg #[.bool qb1,.slice qx1 qn1 qk1,.slice qy1 qm1 qd1,.bool qb2,.slice qx2 qn2 qk2,.slice qy2 qm2 qd2,.bool qb3,.slice qx3 qn3 qk3,.slice qy3 qm3 qd3,.bool qb4,.slice qx4 qn4 qk4,.slice qy4 qm4 qd4]) qp qa qs qc:=⟨_,_,_,_,_,_,_,_,_,_,_,_,_,_,_,_,_,_,_,_,_,_,_,_,_,_,_,_,rfl,hr1,hr2,hr3,hr4⟩
 have st:=St.start w
 refine go2 (nt:=27) Tryz.func187 rfl rfl rfl fun a hF=>?_
 refine wq ?_
 refine bx st hF 0 rfl rfl fun g2 w1 a st hF=>?_
 obtain⟨r3,rfl⟩:=Rq.fo h2
 refine bx st hF 2 rfl rfl fun g3 w2 a st hF=>?_
 refine S.alloc st hF ah rfl rfl fun g4 w4 a st hF=>?_
 refine nq ?_
 refine oL hF st 1 1 ah rfl rfl rfl rfl fun a hF=>?_
 refine oV hF (aA (hF.at 3 rfl) (BR (p:=3) rfl)) rfl fun a hF=>?_
 refine oV hF (av (hF.at 0 rfl) (cJ (vs:=[.bool qb2,.slice qx2 qn2 qk2,.slice qy2 qm2 qd2]) (st.b 2 rfl rfl) rfl rfl)) rfl fun a hF=>?_
 refine S.ck st hF (rgc Bj (aC (hF.at 2 rfl) (hF.at 0 rfl))) (xE ⟨(h2.below st.bel),hl⟩ ⟨(hr2.below st.bel),lqa⟩) Rl.cl rfl fun vv6 w5 a st hF=>?_
 obtain⟨r8,rfl⟩:=Rq.fo (st.f 0 rfl).1
 refine S.ck st hF (rgc qr (aI (hF.at 0 rfl))) (qOf (hT.below st.bel) (st.f 0 rfl)) Rl.cl rfl fun vv10 w9 a st hF=>?_
 obtain⟨r12,rfl⟩:=Rq.fo (st.f 0 rfl).1
 refine S.new st hF 0 rfl ah rfl rfl rfl rfl rfl fun g5 w13 a st hF=>?_
 refine ns ?_
 refine E.rga 9 aF hF [12,13,14,15,16,17,18,19,6] [_,_,_,.ex (.agg #[.bool qb4,.slice qx4 qn4 qk4,.slice qy4 qm4 qd4]),_,_,.ex (.agg #[.bool qb3,.slice qx3 qn3 qk3,.slice qy3 qm3 qd3]),_,kn w13 [.bool false,.slice none 0 0,.slice none 0 0]] [8] ⟨fun _ _ ⟨g,e,_,o⟩=>⟨g,e,o.lt⟩,trivial⟩ (by decide+kernel) rfl rfl rfl ⟨rb st ah 0 0 rfl,ck st B8 rfl fun _ s=>Bz (s.f 0 rfl),rd rfl rfl fun a' w' hF' hb=>(aA (hF'.at 8 rfl) (BC (p:=9) rfl)),(by intro a' w' hF' hb hd;have e14:=tE hd 0 rfl;exact dv0 (av e14 (cJ (vs:=[.bool qb4,.slice qx4 qn4 qk4,.slice qy4 qm4 qd4]) ((st.b 3 rfl rfl).below hb) rfl rfl)) rfl rfl rfl),ck st k58 rfl fun _ s _ x13=>cB x13 ⟨(hr4.below s.bel),lqc⟩,rd rfl rfl fun a' w' hF' hb=>(aA (hF'.at 8 rfl) (sG (p:=6) rfl)),(by intro a' w' hF' hb hd;have e17:=tE hd 0 rfl;exact dv0 (av e17 (cJ (vs:=[.bool qb3,.slice qx3 qn3 qk3,.slice qy3 qm3 qd3]) ((st.b 3 rfl rfl).below hb) rfl rfl)) rfl rfl rfl),ck st k58 rfl fun _ s _ x16=>cB x16 ⟨(hr3.below s.bel),lqs⟩,ra ah rfl rfl,trivial⟩ ?_
 intro a w14 hF bb hall hne
 have s0:=st
 replace st:=st.to bb
 obtain⟨vv15,hF,st⟩:=rS hall hF st 7 rfl rfl Rl.cl
 obtain⟨r17,rfl⟩:=Rq.fo (st.f 0 rfl).1
 obtain⟨_,e6,g6,rfl,ge6,o6⟩:=sS hall 8 6 rfl rfl
 replace st:=st.push o6.blk (Nat.le_trans s0.bel.size ge6) (s0.ne ge6)
 clear o6
 replace hF:=hF.add e6
 clear hall bb hne s0
 refine so st hF 0 0 1 ah rfl rfl rfl rfl fun w18 a st hF=>?_
 refine ns ?_
 refine E.rg 7 aF hF [20,21,22,23,24,25,26] [_,_,.ex (.agg #[.bool qb3,.slice qx3 qn3 qk3,.slice qy3 qm3 qd3]),_,_,_,_] (by decide+kernel) rfl rfl rfl ⟨rb st ah 2 1 rfl,rd rfl rfl fun a' w' hF' hb=>(aA (hF'.at 10 rfl) (sG (p:=6) rfl)),(by intro a' w' hF' hb hd;have e21:=tE hd 0 rfl;exact dv0 (av e21 (cJ (vs:=[.bool qb3,.slice qx3 qn3 qk3,.slice qy3 qm3 qd3]) ((st.b 4 rfl rfl).below hb) rfl rfl)) rfl rfl rfl),rb st ah 0 0 rfl,ck st k57 rfl fun _ s=>gJ ⟨(hr3.below s.bel),lqs⟩ (s.f 0 rfl),ck st k58 rfl fun _ s _ x24=>cB (s.f 1 rfl) x24,ck st vY rfl fun _ s _ x25=>Bf (hT.below s.bel) x25,trivial⟩ ?_
 intro a w19 hF bb hall
 replace st:=st.to bb
 obtain⟨vv20,hF,st⟩:=rS hall hF st 6 rfl rfl Rl.cl
 obtain⟨r22,rfl⟩:=Rq.fo (st.f 0 rfl).1
 clear hall bb
 refine so st hF 2 9 0 ah rfl rfl rfl rfl fun w23 a st hF=>?_
 refine nr ?_
 refine rs Tryz.results187 st hF 9 2 ah rfl rfl rfl ?_
 have bel:=st.bel
 exact⟨_,rfl,(st.f 0 rfl).1,bel⟩
theorem uu (v1:Value) (qt:Rat) (k:Nat) (w:World) (h1:Rq w v1 qt) (hl:au qt k) (hk:k≤1000):
 Calls Tryz.prog 185 #[v1] w (bl w (rmod qt ((360:Int):Rat))):=by
 have st:=St.start w
 refine go1 (nt:=6) Tryz.func185 rfl rfl rfl fun a hF=>?_
 refine wq ?_
 obtain⟨r2,rfl⟩:=Rq.fo h1
 refine bx st hF 0 rfl rfl fun g1 w1 a st hF=>?_
 refine S.alloc st hF ah rfl rfl fun g2 w3 a st hF=>?_
 refine ns ?_
 refine E.rg 3 aF hF [3,4,5] [_,_,_] (by decide+kernel) rfl rfl rfl ⟨rb st ah 1 1 rfl,ck st k40 rfl fun _ s=>aD (bj (360) _ (by decide) (by decide)) (a9 (az (by decide) (by decide)) (by omega)),ck st AZ rfl fun _ s _ x4=>CL ⟨(h1.below s.bel),hl⟩ x4,trivial⟩ ?_
 intro a w4 hF bb hall
 replace st:=st.to bb
 obtain⟨vv5,hF,st⟩:=rS hall hF st 2 rfl rfl Rl.cl
 obtain⟨r7,rfl⟩:=Rq.fo (st.f 0 rfl).1
 clear hall bb
 refine so st hF 0 1 0 ah rfl rfl rfl rfl fun w8 a st hF=>?_
 refine nr ?_
 refine rs Tryz.results185 st hF 1 0 ah rfl rfl rfl ?_
 have bel:=st.bel
 exact⟨_,rfl,(st.f 0 rfl).1,bel⟩
theorem DI (v1 v2:Value) (qp qa qs qc qt:Rat) (k:Nat) (w:World) (hT:bV w) (ho:Orb w v1 qp qa qs qc) (h2:Rq w v2 qt) (lqp:au qp 2) (lqa:au qa 2) (lqs:au qs 2) (lqc:au qc 2) (hl:au qt k) (hk:k≤100):
 Calls Tryz.prog 143 #[v1,v2] w (bl w (atv qt qp qa qs qc)):=by
 obtain⟨qb1,qx1,qn1,qk1,qy1,qm1,qd1,qb2,qx2,qn2,qk2,qy2,qm2,qd2,qb3,qx3,qn3,qk3,qy3,qm3,qd3,qb4,qx4,qn4,qk4,qy4,qm4,qd4,rfl,hr1,hr2,hr3,hr4⟩:=ho
 have ho:Orb w (.agg #[.bool qb1,.slice qx1 qn1 qk1,.slice qy1 qm1 qd1,.bool qb2,.slice qx2 qn2 qk2,.slice qy2 qm2 qd2,.bool qb3,.slice qx3 qn3 qk3,.slice qy3 qm3 qd3,.bool qb4,.slice qx4 qn4 qk4,.slice qy4 qm4 qd4]) qp qa qs qc:=⟨_,_,_,_,_,_,_,_,_,_,_,_,_,_,_,_,_,_,_,_,_,_,_,_,_,_,_,_,rfl,hr1,hr2,hr3,hr4⟩
 have st:=St.start w
 refine go2 (nt:=14) Tryz.func143 rfl rfl rfl fun a hF=>?_
 refine wq ?_
 refine bx st hF 0 rfl rfl fun g2 w1 a st hF=>?_
 obtain⟨r3,rfl⟩:=Rq.fo h2
 refine bx st hF 2 rfl rfl fun g3 w2 a st hF=>?_
 refine S.alloc st hF ah rfl rfl fun g4 w4 a st hF=>?_
 refine ns ?_
 refine E.rg 9 aF hF [5,6,7,8,9,10,11,12,13] [_,_,.ex (.agg #[.bool qb1,.slice qx1 qn1 qk1,.slice qy1 qm1 qd1]),_,_,_,_,_,_] (by decide+kernel) rfl rfl rfl ⟨rb st ah 1 1 rfl,rd rfl rfl fun a' w' hF' hb=>(aA (hF'.at 2 rfl) (AN (p:=0) rfl)),(by intro a' w' hF' hb hd;have e6:=tE hd 0 rfl;exact dv0 (av e6 (cJ (vs:=[.bool qb1,.slice qx1 qn1 qk1,.slice qy1 qm1 qd1]) ((st.b 2 rfl rfl).below hb) rfl rfl)) rfl rfl rfl),ck st Bj rfl fun _ s=>xE ⟨(h2.below s.bel),hl⟩ ⟨(hr1.below s.bel),lqp⟩,rb st pv 2 2 rfl,rb st ah 1 1 rfl,ck st IX rfl fun _ s=>aD (Eb _ _ qp qa qs qc (qt) k _ (hT.below s.bel) (ho.below s.bel) (h2.below s.bel) lqp lqa lqs lqc hl (by omega)) (vz hl lqa lqs lqc),ck st k57 rfl fun _ s _ x8 _ x11=>gJ x8 x11,ck st Is rfl fun _ s _ x12=>aD (uu _ ((mof (qt) (qp))-(eqv (qt) qa qs qc)) ((k+2+5)+(2*k+2*2+2*2+2+60)+1) _ x12.1 x12.2 (by omega)) (gC x12.2),trivial⟩ ?_
 intro a w5 hF bb hall
 replace st:=st.to bb
 obtain⟨vv6,hF,st⟩:=rS hall hF st 8 rfl rfl Rl.cl
 obtain⟨r8,rfl⟩:=Rq.fo (st.f 0 rfl).1
 clear hall bb
 refine so st hF 0 1 0 ah rfl rfl rfl rfl fun w9 a st hF=>?_
 refine nr ?_
 refine rs Tryz.results143 st hF 1 0 ah rfl rfl rfl ?_
 have bel:=st.bel
 exact⟨_,rfl,(st.f 0 rfl).1,bel⟩
theorem tX (v1:Value) (qt:Rat) (k:Nat) (w:World) (hT:bV w) (h1:Rq w v1 qt) (hl:au qt k) (hk:k≤100):
 Calls Tryz.prog 78 #[v1] w (bl w (cT qt)):=by
 have st:=St.start w
 refine go1 (nt:=6) Tryz.func78 rfl rfl rfl fun a hF=>?_
 refine wq ?_
 obtain⟨r2,rfl⟩:=Rq.fo h1
 refine bx st hF 0 rfl rfl fun g1 w1 a st hF=>?_
 refine S.alloc st hF ah rfl rfl fun g2 w3 a st hF=>?_
 refine ns ?_
 refine E.rg 3 aF hF [3,4,5] [.of (fun w v=>Orb w v pyr pay ssz sch) (fun _ _ _ h hb=>h.below hb),_,_] (by decide+kernel) rfl rfl rfl ⟨ck st Iu rfl fun _ s=>pL (rq _),rb st ah 1 1 rfl,ck st Iv rfl fun _ s _ x3=>aD (DI _ _ pyr pay ssz sch (qt) k _ (hT.below s.bel) x3 (h1.below s.bel) lj gX uP uD hl (by omega)) (jN hl),trivial⟩ ?_
 intro a w4 hF bb hall
 replace st:=st.to bb
 obtain⟨vv5,hF,st⟩:=rS hall hF st 2 rfl rfl Rl.cl
 obtain⟨r7,rfl⟩:=Rq.fo (st.f 0 rfl).1
 clear hall bb
 refine so st hF 0 1 0 ah rfl rfl rfl rfl fun w8 a st hF=>?_
 refine nr ?_
 refine rs Tryz.results78 st hF 1 0 ah rfl rfl rfl ?_
 have bel:=st.bel
 exact⟨_,rfl,(st.f 0 rfl).1,bel⟩
theorem yh (v1:Value) (qt:Rat) (k:Nat) (n:Int) (w:World) (h1:Rq w v1 qt) (hl:au qt k) (hk:k≤1000) (hn:0<n) (hn2:n≤1000) (h0:0≤qt) (h3:qt<((360:Int):Rat)):
 Calls Tryz.prog 96 #[v1,.int .i64 n] w (aR w (.int .i64 (prt qt n))):=by
 have st:=St.start w
 refine go2 (nt:=16) Tryz.func96 rfl rfl rfl fun a hF=>?_
 refine wq ?_
 obtain⟨r2,rfl⟩:=Rq.fo h1
 refine bx st hF 0 rfl rfl fun g2 w1 a st hF=>?_
 refine oC hF rfl fun a hF=>?_
 refine ns ?_
 refine E.rg 10 aF hF [8,9,10,11,12,7,13,14,5,6] [_,_,_,_,_,.ex (.tuple #[.int .i64 (fV (Rat.floor ((qt)*(((n:Int):Rat)/((360:Int):Rat))))),.bool (gv (Rat.floor ((qt)*(((n:Int):Rat)/((360:Int):Rat)))))]),.ex (.int .i64 (fV (Rat.floor ((qt)*(((n:Int):Rat)/((360:Int):Rat)))))),.ex (.bool (gv (Rat.floor ((qt)*(((n:Int):Rat)/((360:Int):Rat)))))),.ex (.int .i64 (fV (Rat.floor ((qt)*(((n:Int):Rat)/((360:Int):Rat)))))),.ex (.bool (gv (Rat.floor ((qt)*(((n:Int):Rat)/((360:Int):Rat))))))] (by decide+kernel) rfl rfl rfl ⟨rb st ah 1 0 rfl,rm 3 rfl,ck st k35 rfl fun _ s=>aD (bw (n) (360) _ (by omega) (by omega) (by decide) (by decide)) (au.up (aJ (az (by omega) (by omega)) (az (by decide) (by decide))) 2 (by decide)),ck st k58 rfl fun _ s _ x10=>cB ⟨(h1.below s.bel),hl⟩ x10,ck st k89 rfl fun _ s _ x11=>bA (kg _ ((qt)*(((n:Int):Rat)/((360:Int):Rat))) (k+2) _ x11.1 x11.2 (by omega)),(by intro a' w' hF' hb hd;have e12:=tE hd 0 rfl;exact dv0 (aP e12) rfl rfl rfl),(by intro a' w' hF' hb hd;have e7:=tE hd 0 rfl;exact dv0 (aW (v:= .int .i64 (fV (Rat.floor ((qt)*(((n:Int):Rat)/((360:Int):Rat)))))) e7 rfl) rfl rfl rfl),(by intro a' w' hF' hb hd;have e7:=tE hd 0 rfl;exact dv0 (aW (v:= .bool (gv (Rat.floor ((qt)*(((n:Int):Rat)/((360:Int):Rat)))))) e7 rfl) rfl rfl rfl),(by intro a' w' hF' hb hd;have e13:=tE hd 0 rfl;exact dv0 (aO e13) rfl rfl rfl),(by intro a' w' hF' hb hd;have e14:=tE hd 0 rfl;exact dv0 (aO e14) rfl rfl rfl),trivial⟩ ?_
 intro a w3 hF bb hall
 replace st:=st.to bb
 replace hF:=rE hall hF 8 rfl rfl
 clear hall bb
 refine nq ?_
 refine oM hF 0 rfl rfl fun a hF=>?_
 refine oE hF 0 rfl rfl fun a hF=>?_
 refine nr ?_
 have bel:=st.bel
 refine rt Tryz.results96 hF 0 rfl ?_
 exact⟨cm (Gu hn hn2 h0 h3),bel⟩
theorem yI (v1:Value) (qt:Rat) (k:Nat) (w:World) (hT:bV w) (h1:Rq w v1 qt) (hl:au qt k) (hk:k≤100):
 Calls Tryz.prog 31 #[v1] w (aR w (.int .i64 (prt (cT qt) 12))):=by
 have st:=St.start w
 refine go1 (nt:=6) Tryz.func31 rfl rfl rfl fun a hF=>?_
 refine wq ?_
 obtain⟨r2,rfl⟩:=Rq.fo h1
 refine bx st hF 0 rfl rfl fun g1 w1 a st hF=>?_
 refine oC hF rfl fun a hF=>?_
 refine nq ?_
 refine oL hF st 1 0 ah rfl rfl rfl rfl fun a hF=>?_
 refine S.ck st hF (rgc k78 (aI (hF.at 0 rfl))) (aD (tX _ (qt) k _ (hT.below st.bel) (h1.below st.bel) hl (by omega)) (jN hl)) Rl.cl rfl fun vv4 w3 a st hF=>?_
 obtain⟨r6,rfl⟩:=Rq.fo (st.f 0 rfl).1
 refine cX st hF (rgc k96 (aC (hF.at 0 rfl) ao)) (yh _ _ (3*k+100) 12 _ (st.f 0 rfl).1 (st.f 0 rfl).2 (by omega) (by omega) (by omega) (tg _) (qS _)) rfl fun w7 a st hF=>?_
 have hpt16215:=ig (x:=cT (qt)) (n:=12) (by omega) (tg _) (qS _)
 refine oE hF 0 rfl rfl fun a hF=>?_
 refine nr ?_
 have bel:=st.bel
 refine rt Tryz.results31 hF 0 rfl ?_
 exact⟨rfl,bel⟩
theorem zm {v1:Value} {p1:Rat} {k1:Nat} {w:World} (hT:bV w) (x1:Rl p1 k1 w v1) (a1:k1≤100:=by omega):Calls Tryz.prog 78 #[v1] w (Ret (kq (cT (p1)) ((3*k1+100))) w):=aD (tX _ (p1) k1 _ hT x1.1 x1.2 (by omega)) (jN x1.2)
theorem oU {v1:Value} {p1:Rat} {k1 i1:Nat} {w:World} (x1:Rh p1 k1 i1 w v1) (a1:k1≤3000:=by omega) (b1:1≤k1:=by omega) (c1:i1≤800:=by omega):Calls Tryz.prog 189 #[v1] w (Ret (kh (sof (p1)) ((k1+i1+40)) ((i1+12))) w):=aH (zC _ (p1) k1 i1 _ x1.1 x1.2 (by omega) (by omega) (by omega)) (el x1.2)
theorem wN {v1:Value} {p1:Rat} {k1 i1:Nat} {w:World} (x1:Rh p1 k1 i1 w v1) (a1:k1≤6000:=by omega) (b1:1≤k1:=by omega):Calls Tryz.prog 192 #[v1] w (Ret (kh (br (p1)) ((k1+20)) ((i1+20))) w):=aH (zO _ (p1) k1 _ x1.1 (by omega) (by omega)) (j5 x1.2)
theorem CD {x:Rat} {n:Int} (hn:0<n) (hn2:n≤1000):0≤Rat.floor ((rmod x ((360:Int):Rat))*(((n:Int):Rat)/((360:Int):Rat)))∧Rat.floor ((rmod x ((360:Int):Rat))*(((n:Int):Rat)/((360:Int):Rat)))<65536:=by
 have:=ig (n:=n) (x:=rmod x ((360:Int):Rat)) hn (dv bE) (cW bE)
 exact⟨show 0≤prt _ n by omega,show prt _ n<_ by omega⟩
theorem zx (v1 v2 v3 v4 v5:Value) (q1 q2 q3 q4 q5:Rat) (k i:Nat) (w:World) (h1:Rr w v1 q1 k) (h2:Rr w v2 q2 12) (h3:Rr w v3 q3 12) (h4:Rr w v4 q4 12) (h5:Rr w v5 q5 12) (li1:au q1 i) (li2:au q2 2) (li3:au q3 2) (li4:au q4 2) (li5:au q5 2) (hp:1≤k) (hk:k≤300) (hi:i≤10):
 Calls Tryz.prog 146 #[v1,v2,v3,v4,v5] w (bK w (atv q1 q2 q3 q4 q5) (3*k+8*i+400)):=by
 obtain⟨r1,rfl⟩:=h1.fo
 obtain⟨r2,rfl⟩:=h2.fo
 obtain⟨r3,rfl⟩:=h3.fo
 obtain⟨r4,rfl⟩:=h4.fo
 obtain⟨r5,rfl⟩:=h5.fo
 have st:=St.start w
 refine E.enter (nt:=37) (L:=[(0,r1.v),(1,r2.v),(2,r3.v),(3,r4.v),(4,r5.v)]) Tryz.func146 rfl rfl rfl (a8 (i:=0) rfl (a8 (i:=1) rfl (a8 (i:=2) rfl (a8 (i:=3) rfl (a8 (i:=4) rfl dY))))) ?_
 intro a hF
 refine wq ?_
 refine bx st hF 0 rfl rfl fun g5 w1 a st hF=>?_
 refine bx st hF 2 rfl rfl fun g6 w2 a st hF=>?_
 refine bx st hF 4 rfl rfl fun g7 w3 a st hF=>?_
 refine bx st hF 6 rfl rfl fun g8 w4 a st hF=>?_
 refine bx st hF 8 rfl rfl fun g9 w5 a st hF=>?_
 refine S.alloc st hF ag rfl rfl fun g10 w6 a st hF=>?_
 refine nq ?_
 refine oL hF st 5 5 ag rfl rfl rfl rfl fun a hF=>?_
 refine oL hF st 4 3 ag rfl rfl rfl rfl fun a hF=>?_
 refine S.ck st hF (rgc xl (aC (hF.at 1 rfl) (hF.at 0 rfl))) (xr ⟨(h1.below st.bel),li1⟩ ⟨(h3.below st.bel),li3⟩) Rh.cl rfl fun vv8 w7 a st hF=>?_
 obtain⟨r10,rfl⟩:=Rr.fo (st.f 0 rfl).1
 refine S.ck st hF (rgc oi (aI (hF.at 0 rfl))) (oU (st.f 0 rfl)) Rh.cl rfl fun vv12 w11 a st hF=>?_
 obtain⟨r14,rfl⟩:=Rr.fo (st.f 0 rfl).1
 refine S.new st hF 0 rfl ag rfl rfl rfl rfl rfl fun g11 w15 a st hF=>?_
 refine ns ?_
 refine E.rga 7 aF hF [18,19,20,21,22,23,12] [_,_,_,_,_,_,kn w15 [.bool false,.slice none 0 0,.slice none 0 0]] [6] ⟨fun _ _ ⟨g,e,_,o⟩=>⟨g,e,o.lt⟩,trivial⟩ (by decide+kernel) rfl rfl rfl ⟨rb st ag 0 0 rfl,ck st wh rfl fun _ s=>aH (lJ _ (sof (mof (q1) (q3))) ((k+12+i+2+30)+(i+2+5)+40) _ (s.f 0 rfl).1) (fq (s.f 0 rfl).2),rb st ag 6 2 rfl,ck st k63 rfl fun _ s _ x19=>bR x19 ⟨(h5.below s.bel),li5⟩,rb st ag 7 3 rfl,ck st k63 rfl fun _ s _ x21=>bR x21 ⟨(h4.below s.bel),li4⟩,ra ag rfl rfl,trivial⟩ ?_
 intro a w16 hF bb hall hne
 have s0:=st
 replace st:=st.to bb
 obtain⟨vv17,hF,st⟩:=rS hall hF st 5 rfl rfl Rh.cl
 obtain⟨r19,rfl⟩:=Rr.fo (st.f 0 rfl).1
 obtain⟨_,e12,g12,rfl,ge12,o12⟩:=sS hall 6 12 rfl rfl
 replace st:=st.push o12.blk (Nat.le_trans s0.bel.size ge12) (s0.ne ge12)
 clear o12
 replace hF:=hF.add e12
 clear hall bb hne s0
 refine so st hF 0 0 1 ag rfl rfl rfl rfl fun w20 a st hF=>?_
 refine ns ?_
 refine E.rga 7 aF hF [24,25,26,27,28,29,13] [_,_,_,_,_,_,kn w20 [.bool false,.slice none 0 0,.slice none 0 0]] [6] ⟨fun _ _ ⟨g,e,_,o⟩=>⟨g,e,o.lt⟩,trivial⟩ (by decide+kernel) rfl rfl rfl ⟨rb st ag 2 1 rfl,rb st ag 9 4 rfl,rb st ag 0 0 rfl,ck st k80 rfl fun _ s=>d9 ⟨(h4.below s.bel),li4⟩ (s.f 0 rfl),ck st k63 rfl fun _ s _ x27=>bR (s.f 1 rfl) x27,ck st BL rfl fun _ s _ x28=>wN x28,ra ag rfl rfl,trivial⟩ ?_
 intro a w21 hF bb hall hne
 have s0:=st
 replace st:=st.to bb
 obtain⟨vv22,hF,st⟩:=rS hall hF st 5 rfl rfl Rh.cl
 obtain⟨r24,rfl⟩:=Rr.fo (st.f 0 rfl).1
 obtain⟨_,e13,g13,rfl,ge13,o13⟩:=sS hall 6 13 rfl rfl
 replace st:=st.push o13.blk (Nat.le_trans s0.bel.size ge13) (s0.ne ge13)
 clear o13
 replace hF:=hF.add e13
 clear hall bb hne s0
 refine so st hF 0 0 1 ag rfl rfl rfl rfl fun w25 a st hF=>?_
 refine ns ?_
 refine E.rg 7 aF hF [30,31,32,33,34,35,36] [_,_,_,_,_,_,_] (by decide+kernel) rfl rfl rfl ⟨rb st ag 14 8 rfl,rb st ag 13 7 rfl,ck st xl rfl fun _ s=>xr ⟨(h1.below s.bel),li1⟩ ⟨(h2.below s.bel),li2⟩,rb st ag 0 0 rfl,ck st k80 rfl fun _ s _ x32=>d9 x32 (s.f 0 rfl),ck st k38 rfl fun _ s=>aH (a5 (360) _ (by decide) (by decide)) (bN (by decide) (by decide)),ck st qy rfl fun _ s _ x34 _ x35=>sF x34 x35,trivial⟩ ?_
 intro a w26 hF bb hall
 replace st:=st.to bb
 obtain⟨vv27,hF,st⟩:=rS hall hF st 6 rfl rfl Rh.cl
 obtain⟨r29,rfl⟩:=Rr.fo (st.f 0 rfl).1
 clear hall bb
 refine so st hF 3 10 0 ag rfl rfl rfl rfl fun w30 a st hF=>?_
 refine nr ?_
 refine rs Tryz.results146 st hF 10 3 ag rfl rfl rfl ?_
 have bel:=st.bel
 exact⟨_,rfl,Rr.cast (Rr.up (st.f 0 rfl).1 _ (by omega)) rfl,bel⟩
theorem xj (v1:Value) (q1:Rat) (k i:Nat) (w:World) (h1:Rr w v1 q1 k) (li1:au q1 i) (hp:1≤k) (hk:k≤300) (hi:i≤3):
 Calls Tryz.prog 83 #[v1] w (bK w (cT q1) (3*k+8*i+400)):=by
 obtain⟨r1,rfl⟩:=h1.fo
 have st:=St.start w
 refine go1 (nt:=9) Tryz.func83 rfl rfl rfl fun a hF=>?_
 refine wq ?_
 refine bx st hF 0 rfl rfl fun g1 w1 a st hF=>?_
 refine S.alloc st hF ag rfl rfl fun g2 w2 a st hF=>?_
 refine ns ?_
 refine E.rg 6 aF hF [3,4,5,6,7,8] [_,_,_,_,_,.of (fun w v=>Rr w v (atv (q1) (pyr) (pay) (((7:Int):Rat)/((180:Int):Rat)) (((1:Int):Rat)/((42:Int):Rat))) ((3*k+8*i+400))) (fun _ _ _ h hb=>h.below hb)] (by decide+kernel) rfl rfl rfl ⟨rb st ag 1 1 rfl,ck st k82 rfl fun _ s=>mH,ck st BQ rfl fun _ s=>jp,ck st k38 rfl fun _ s=>aH (bi (7) (180) _ (by decide) (by decide) (by decide) (by decide)) (au.up (aJ (az (by decide) (by decide)) (az (by decide) (by decide))) 2 (by decide)),ck st k38 rfl fun _ s=>aH (bi (1) (42) _ (by decide) (by decide) (by decide) (by decide)) (au.up (aJ (az (by decide) (by decide)) (az (by decide) (by decide))) 2 (by decide)),ck st I3 rfl fun _ s _ x4 _ x5 _ x6 _ x7=>pL (zx _ _ _ _ _ (q1) (pyr) (pay) (((7:Int):Rat)/((180:Int):Rat)) (((1:Int):Rat)/((42:Int):Rat)) k i _ (h1.below s.bel) (Rr.up x4.1 12 (by omega)) (Rr.up x5.1 12 (by omega)) (Rr.up x6.1 12 (by omega)) (Rr.up x7.1 12 (by omega)) li1 x4.2 x5.2 x6.2 x7.2 (by omega) (by omega) (by omega)),trivial⟩ ?_
 intro a w3 hF bb hall
 replace st:=st.to bb
 obtain⟨vv4,hF,st⟩:=rS hall hF st 5 rfl rfl Rr.cl
 obtain⟨r6,rfl⟩:=Rr.fo (st.f 0 rfl)
 clear hall bb
 refine so st hF 0 1 0 ag rfl rfl rfl rfl fun w7 a st hF=>?_
 refine nr ?_
 refine rs Tryz.results83 st hF 1 0 ag rfl rfl rfl ?_
 have bel:=st.bel
 exact⟨_,rfl,Rr.cast (Rr.up (st.f 0 rfl) _ (by omega)) (by rw[show((7:Int):Rat)/((180:Int):Rat)=ssz by decide+kernel];rfl),bel⟩
theorem nV (v1:Value) (q1:Rat) (k i:Nat) (n:Int) (w:World) (h1:Rr w v1 q1 k) (li1:au q1 i) (hp:1≤k) (hk:k≤3000) (hi:i≤600) (hn:0<n) (hn2:n≤1000):
 Calls Tryz.prog 85 #[v1,.int .i64 n] w (aR w (.int .i64 (prt (rmod q1 ((360:Int):Rat)) n))):=by
 obtain⟨r1,rfl⟩:=h1.fo
 have st:=St.start w
 refine go2 (nt:=12) Tryz.func85 rfl rfl rfl fun a hF=>?_
 refine wq ?_
 refine bx st hF 0 rfl rfl fun g2 w1 a st hF=>?_
 refine oC hF rfl fun a hF=>?_
 refine ns ?_
 refine E.rg 7 aF hF [5,6,7,8,9,10,11] [_,_,_,_,_,_,_] (by decide+kernel) rfl rfl rfl ⟨rb st ag 1 0 rfl,ck st k38 rfl fun _ s=>aH (a5 (360) _ (by decide) (by decide)) (bN (by decide) (by decide)),ck st qy rfl fun _ s _ x6=>sF ⟨(h1.below s.bel),li1⟩ x6,rm 3 rfl,ck st k38 rfl fun _ s=>aH (bi (n) (360) _ (by omega) (by omega) (by decide) (by decide)) (au.up (aJ (az (by omega) (by omega)) (az (by decide) (by decide))) 2 (by decide)),ck st k63 rfl fun _ s _ x7 _ x9=>bR x7 x9,ck st k84 rfl fun _ s _ x10=>bA (qX _ ((rmod (q1) (((360:Int):Rat)))*(((n:Int):Rat)/((360:Int):Rat))) ((k+2+i+2+3)+2) _ x10.1 (by omega) (by omega) (CD hn hn2).1 (CD hn hn2).2),trivial⟩ ?_
 intro a w2 hF bb hall
 replace st:=st.to bb
 replace hF:=rE hall hF 6 rfl rfl
 clear hall bb
 refine oE hF 0 rfl rfl fun a hF=>?_
 refine nr ?_
 have bel:=st.bel
 refine rt Tryz.results85 hF 0 rfl ?_
 exact⟨rfl,bel⟩
theorem rH {v1:Value} {p1:Rat} {k1 i1:Nat} {w:World} (x1:Rh p1 k1 i1 w v1) (a1:k1≤300:=by omega) (b1:1≤k1:=by omega) (c1:i1≤3:=by omega):Calls Tryz.prog 83 #[v1] w (Ret (kh (cT (p1)) ((3*k1+8*i1+400)) ((3*i1+100))) w):=aH (xj _ (p1) k1 i1 _ x1.1 x1.2 (by omega) (by omega) (by omega)) (jN x1.2)
end Go.Proofs.YtnljadejcfgmaaaGreatDoor
