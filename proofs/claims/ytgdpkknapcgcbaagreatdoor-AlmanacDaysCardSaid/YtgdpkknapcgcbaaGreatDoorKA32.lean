import Derived.Test.YtgdpkknapcgcbaaGreatDoorKA27
import Derived.Test.YtgdpkknapcgcbaaGreatDoorKA29
import Derived.Test.YtgdpkknapcgcbaaGreatDoorKA31
namespace Go.Proofs.YtgdpkknapcgcbaaGreatDoor
open Go.RowKit
set_option maxRecDepth 100000
set_option linter.unusedVariables false
set_option maxHeartbeats 8000000
theorem nY {place:Nat->Option (Nat×Nat)} {cells:Array Value} {i off:Nat} {k:IntKind} {z:Int} {rest:List (Nat×Value)} (hp:place i=some (off,1)) (hc:off+1<=cells.size):
 Instr.fill place cells ((i,.int k z)::rest)=Instr.fill place (cells.setIfInBounds off (.int k z)) rest:=by
 conv=>lhs;unfold Instr.fill
 rw[hp]
 have h1:(Value.int k z).cells =#[.int k z]:=rfl
 simp only [h1]
 rw[if_neg (by simp;omega)]
 rfl
theorem KQ:(Tryz.prog.info? 245).map (·.size)=some 6:=by kernel_rfl
theorem E4:(Tryz.prog.info? 245).bind (·.zero)=some (.agg #[iv 0,iv 0,iv 0,iv 0,iv 0,iv 0]):=by kernel_rfl
theorem tN (z0 z1 z2 z3 z4 z5:Int) (w:World):(Instr.build 245 #[(0,iv z0),(1,iv z1),(2,iv z2),(3,iv z3),(4,iv z4),(5,iv z5)]).run Tryz.prog w= .ok (.agg #[iv z0,iv z1,iv z2,iv z3,iv z4,iv z5]) w:=by
 have hz:=bO E4 w
 have hs:∀w,(sizeOf 2).run Tryz.prog w= .ok 1 w:=fun w=>aH dV w
 simp only [Instr.build,Sem.run_bind,hz,Result.andThen_ok,run_underlying Tryz.underlying245,hs]
 rw[show(Value.agg #[Value.int .i64 0,Value.int .i64 0,Value.int .i64 0,Value.int .i64 0,Value.int .i64 0,Value.int .i64 0]).cells =#[Value.int .i64 0,Value.int .i64 0,Value.int .i64 0,Value.int .i64 0,Value.int .i64 0,Value.int .i64 0] from rfl]
 rw[nY (off:=0) rfl (by simp),nY (off:=1) rfl (by simp),nY (off:=2) rfl (by simp),nY (off:=3) rfl (by simp),nY (off:=4) rfl (by simp),nY (off:=5) rfl (by simp)]
 simp only [List.setIfInBounds_toArray,List.set_cons_zero,List.set_cons_succ]
 rfl
theorem LH {w:World} {g:Nat} {i:Int} (h0:0<=i) (h1:i<6):(Instr.indexAt 245 (.pointer (some ⟨g,0,none⟩)) (iv i)).run Tryz.prog w= .ok (.pointer (some ⟨g,i.toNat,none⟩)) w:=by
 have hs:∀w,(sizeOf 2).run Tryz.prog w= .ok 1 w:=fun w=>aH dV w
 simp[Instr.indexAt,asIntOf,Instr.sureAddr,run_underlying Tryz.underlying245,Sem.run_bind,h0,h1,Addr.add_mid,hs]
theorem EY {a:Act} {i0 i1 i2 i3 i4 i5:Nat} {x0 x1 x2 x3 x4 x5:Operand} {u0 u1 u2 u3 u4 u5:Value} (h0:a.eval x0=u0) (h1:a.eval x1=u1) (h2:a.eval x2=u2) (h3:a.eval x3=u3) (h4:a.eval x4=u4) (h5:a.eval x5=u5):(#[(i0,x0),(i1,x1),(i2,x2),(i3,x3),(i4,x4),(i5,x5)].map fun(p:Nat×Operand)=>(p.1,a.eval p.2))=#[(i0,u0),(i1,u1),(i2,u2),(i3,u3),(i4,u4),(i5,u5)]:=by simp[h0,h1,h2,h3,h4,h5]
theorem Lu:Ty Tryz.prog 245 6 [iv 0,iv 0,iv 0,iv 0,iv 0,iv 0]:=⟨⟨_,Tryz.underlying245,rfl⟩,KQ,E4⟩
theorem Da {w:World} {v1 v2 v3 v4 v5:Value} {q1 q2 q3 q4 q5:Rat} (h1:Rq w v1 q1) (h2:Rq w v2 q2) (h3:Rq w v3 q3) (h4:Rq w v4 q4) (h5:Rq w v5 q5):
 ∃v w',(Instr.buildSlice 246 5 #[(0,v1),(1,v2),(2,v3),(3,v4),(4,v5)]).run Tryz.prog w= .ok v w'/\Below w.heap.size w w'/\jU w' v [q1,q2,q3,q4,q5]:=by
 obtain⟨b1,ad1,n1,c1,ae1,m1,d1,rfl, -, -⟩:=h1.shape
 obtain⟨b2,ad2,n2,c2,ae2,m2,d2,rfl, -, -⟩:=h2.shape
 obtain⟨b3,ad3,n3,c3,ae3,m3,d3,rfl, -, -⟩:=h3.shape
 obtain⟨b4,ad4,n4,c4,ae4,m4,d4,rfl, -, -⟩:=h4.shape
 obtain⟨b5,ad5,n5,c5,ae5,m5,d5,rfl, -, -⟩:=h5.shape
 have ho:=lE (w:=w) (cs:=[.bool b1,.slice ad1 n1 c1,.slice ae1 m1 d1,.bool b2,.slice ad2 n2 c2,.slice ae2 m2 d2,.bool b3,.slice ad3 n3 c3,.slice ae3 m3 d3,.bool b4,.slice ad4 n4 c4,.slice ae4 m4 d4,.bool b5,.slice ad5 n5 c5,.slice ae5 m5 d5]) 33 (niB (niS (niS (niB (niS (niS (niB (niS (niS (niB (niS (niS (niB (niS (niS ni0)))))))))))))))
 refine⟨.slice (some ⟨w.heap.size,0,none⟩) 5 5,w.alloc (.cells #[.bool b1,.slice ad1 n1 c1,.slice ae1 m1 d1,.bool b2,.slice ad2 n2 c2,.slice ae2 m2 d2,.bool b3,.slice ad3 n3 c3,.slice ae3 m3 d3,.bool b4,.slice ad4 n4 c4,.slice ae4 m4 d4,.bool b5,.slice ad5 n5 c5,.slice ae5 m5 d5] 33),?_,ho.2,_,_,rfl,ho.1,?_⟩
 ·have hs:=aH (P:=Tryz.prog) di w
  have hu:=run_underlying (P:=Tryz.prog) Tryz.underlying246 w
  have hz:=bO (P:=Tryz.prog) j2 w
  simp[Instr.buildSlice,go_sem,hs,hu,Instr.fill,Value.cells,newRow]
 ·intro i hi
  have hi':i<5:=hi
  match i,hi' with
  |0,_=>exact⟨b1,ad1,n1,c1,ae1,m1,d1,rfl,h1.below ho.2⟩
  |1,_=>exact⟨b2,ad2,n2,c2,ae2,m2,d2,rfl,h2.below ho.2⟩
  |2,_=>exact⟨b3,ad3,n3,c3,ae3,m3,d3,rfl,h3.below ho.2⟩
  |3,_=>exact⟨b4,ad4,n4,c4,ae4,m4,d4,rfl,h4.below ho.2⟩
  |4,_=>exact⟨b5,ad5,n5,c5,ae5,m5,d5,rfl,h5.below ho.2⟩
theorem qs5 (q1 q2 q3 q4 q5:Rat):pn [q1,q2,q3,q4,q5] 5=0+q1+q2+q3+q4+q5:=rfl
theorem Lx (v:Value) (q1 q2 q3 q4 q5:Rat) (k:Nat) (w:World) (h:jU w v [q1,q2,q3,q4,q5]) (l1:ah q1 k) (l2:ah q2 k) (l3:ah q3 k) (l4:ah q4 k) (l5:ah q5 k) (hk:k<=10000):CQ 232 #[v] w (q1+q2+q3+q4+q5):=by
 have e0:q1+q2+q3+q4+q5=pn [q1,q2,q3,q4,q5] 5:=by rw[qs5,Rat.zero_add]
 rw[e0]
 have hp:=l1.pos
 refine Cq v [q1,q2,q3,q4,q5] (5*k+4) w h ?_ ?_ (by omega) (by simp)
 ·intro i hi
  have hi':i<6:=Nat.lt_succ_of_le hi
  match i,hi' with
  |0,_=>exact f8 (by omega)
  |1,_=>show ah (0+q1) _;rw[Rat.zero_add];exact l1.up _ (by omega)
  |2,_=>show ah (0+q1+q2) _;rw[Rat.zero_add];exact(a6 l1 l2).up _ (by omega)
  |3,_=>show ah (0+q1+q2+q3) _;rw[Rat.zero_add];exact(a6 (a6 l1 l2) l3).up _ (by omega)
  |4,_=>show ah (0+q1+q2+q3+q4) _;rw[Rat.zero_add];exact(a6 (a6 (a6 l1 l2) l3) l4).up _ (by omega)
  |5,_=>show ah (0+q1+q2+q3+q4+q5) _;rw[Rat.zero_add];exact(a6 (a6 (a6 (a6 l1 l2) l3) l4) l5).up _ (by omega)
 ·intro i hi
  have hi':i<5:=hi
  match i,hi' with
  |0,_=>exact l1.up _ (by omega)
  |1,_=>exact l2.up _ (by omega)
  |2,_=>exact l3.up _ (by omega)
  |3,_=>exact l4.up _ (by omega)
  |4,_=>exact l5.up _ (by omega)
theorem oQ (v1:Value) (qt:Rat) (k:Nat) (w:World) (h1:Rq w v1 qt) (hl:ah qt k) (hk:k<=2000):
 CQ 118 #[v1] w (bi qt):=by
 refine gs1 (nt:=10) Tryz.func118 rfl rfl rfl fun a st hF=>wq ?_
 obtain⟨r2,rfl⟩:=Rq.fo h1
 refine bx st hF 0 rfl rfl fun g1 w1 a st hF=>S.alloc st hF aa rfl rfl fun g2 w3 a st hF=>ns<|gz2 7 az st hF aa 0 0 [3,4,5,6,7,8,9] [_,_,_,_,_,_,_] (by decide+kernel) rfl rfl rfl ⟨rb st aa 1 1 rfl,ck st k40 rfl fun _ s=>fj,ck st cQ rfl fun _ s _ x4=>cZ ⟨(h1.below s.bel),hl⟩ x4,ck st yU rfl fun _ s _ x5=>dM (jB _ ((qt)*(((1048576:Int):Rat))) (k+2) _ x5.1 x5.2 (by omega)) (f9 x5.2),ck st DT rfl fun _ s _ x6=>aF (ri _ (Rat.floor ((qt)*(((1048576:Int):Rat)))) _ (Wc.wz x6.1)) (ce (Lim.up x6.2 (((k+2)+1)+1) (by omega)) (by omega)),ck st k36 rfl fun _ s=>dB,ck st cQ rfl fun _ s _ x7 _ x8=>cZ x7 x8,trivial⟩ fun r7 w8 a st hF=>nr ?_
 refine rs Tryz.results118 st hF 1 0 aa rfl rfl rfl ?_
 exact⟨_,rfl,(st.f 0 rfl).1,st.bel⟩
theorem po (v1:Value) (qt:Rat) (k:Nat) (w:World) (h1:Rq w v1 qt) (hl:ah qt k) (hk:k<=20):
 CQ 265 #[v1] w (eJ qt):=by
 refine gs1 (nt:=22) Tryz.func265 rfl rfl rfl fun a st hF=>wq ?_
 obtain⟨r2,rfl⟩:=Rq.fo h1
 refine bx st hF 0 rfl rfl fun g1 w1 a st hF=>S.alloc st hF aa rfl rfl fun g2 w3 a st hF=>ns<|gz1 6 az st hF aa [5,6,7,8,9,3] [_,_,_,_,_,_] (by decide+kernel) rfl rfl rfl ⟨rb st aa 1 1 rfl,ck st k40 rfl fun _ s=>fj,ck st k35 rfl fun _ s _ x6=>fR ⟨(h1.below s.bel),hl⟩ x6,ck st k36 rfl fun _ s=>dB,ck st cQ rfl fun _ s _ x7 _ x8=>cZ x7 x8,ra aa rfl rfl,trivial⟩ fun r7 g3 w8 a st hF=>ns<|gz1 7 az st hF aa [10,11,12,13,14,15,4] [_,_,_,_,_,_,_] (by decide+kernel) rfl rfl rfl ⟨rb st aa 0 0 rfl,ck st k36 rfl fun _ s=>dB,ck st k35 rfl fun _ s _ x11=>fR (s.f 0 rfl) x11,ck st k36 rfl fun _ s=>dB,ck st k36 rfl fun _ s=>dB,ck st LX rfl fun _ s _ x12 _ x13 _ x14=>LC x12 x13 x14,ra aa rfl rfl,trivial⟩ fun r12 g4 w13 a st hF=>?_
 refine ns<|gz2 6 az st hF aa 2 4 [16,17,18,19,20,21] [_,_,_,_,_,_] (by decide+kernel) rfl rfl rfl ⟨ck st k40 rfl fun _ s=>fj,rb st aa 0 0 rfl,ck st Ce rfl fun _ s=>Es (s.f 0 rfl),ck st k40 rfl fun _ s=>fj,ck st cQ rfl fun _ s _ x18 _ x19=>cZ x18 x19,ck st k35 rfl fun _ s _ x16 _ x20=>fR x16 x20,trivial⟩ fun r17 w18 a st hF=>nr<|rs Tryz.results265 st hF 5 2 aa rfl rfl rfl ?_
 exact⟨_,rfl,Rq.castM (st.f 0 rfl).1 (by unfold eJ;rw[Rat.mul_comm ((108:Int):Rat)];rfl),st.bel⟩
theorem q6 (v1:Value) (qt:Rat) (k:Nat) (w:World) (hT:bI w) (h1:Rq w v1 qt) (hl:ah qt k) (hk:k<=20):
 CQ 227 #[v1] w (bC qt):=by
 refine gs1 (nt:=10) Tryz.func227 rfl rfl rfl fun a st hF=>wq ?_
 obtain⟨r2,rfl⟩:=Rq.fo h1
 refine bx st hF 0 rfl rfl fun g1 w1 a st hF=>S.alloc st hF aa rfl rfl fun g2 w3 a st hF=>ns<|gz2 7 az st hF aa 0 0 [3,4,5,6,7,8,9] [_,_,_,_,_,_,_] (by decide+kernel) rfl rfl rfl ⟨rb st aa 1 1 rfl,ck st k85 rfl fun _ s=>JX (hT.below s.bel) ⟨(h1.below s.bel),hl⟩,rb st aa 1 1 rfl,ck st MP rfl fun _ s=>aF (po _ (qt) k _ (h1.below s.bel) hl (by omega)) (pO hl),ck st k35 rfl fun _ s _ x4 _ x6=>fR x4 x6,ck st k40 rfl fun _ s=>fj,ck st zw rfl fun _ s _ x7 _ x8=>EV x7 x8,trivial⟩ fun r7 w8 a st hF=>nr<|rs Tryz.results227 st hF 1 0 aa rfl rfl rfl ?_
 exact⟨_,rfl,(st.f 0 rfl).1,st.bel⟩
theorem tk (v1:Value) (qt:Rat) (k:Nat) (w:World) (h1:Rq w v1 qt) (hl:ah qt k) (hk:k<=20):
 CQ 226 #[v1] w (mof qt pay):=by
 refine gs1 (nt:=6) Tryz.func226 rfl rfl rfl fun a st hF=>wq ?_
 obtain⟨r2,rfl⟩:=Rq.fo h1
 refine bx st hF 0 rfl rfl fun g1 w1 a st hF=>S.alloc st hF aa rfl rfl fun g2 w3 a st hF=>ns<|gz2 3 az st hF aa 0 0 [3,4,5] [_,_,_] (by decide+kernel) rfl rfl rfl ⟨rb st aa 1 1 rfl,ck st IV rfl fun _ s=>lM,ck st D4 rfl fun _ s _ x4=>yv ⟨(h1.below s.bel),hl⟩ x4,trivial⟩ fun r7 w8 a st hF=>nr<|rs Tryz.results226 st hF 1 0 aa rfl rfl rfl ?_
 exact⟨_,rfl,(st.f 0 rfl).1,st.bel⟩
theorem lB (v1:Value) (qt:Rat) (k:Nat) (w:World) (h1:Rq w v1 qt) (hl:ah qt k) (hk:k<=1000):
 CQ 267 #[v1] w (yF qt):=by
 refine gs1 (nt:=9) Tryz.func267 rfl rfl rfl fun a st hF=>wq ?_
 obtain⟨r2,rfl⟩:=Rq.fo h1
 refine bx st hF 0 rfl rfl fun g1 w1 a st hF=>S.alloc st hF aa rfl rfl fun g2 w3 a st hF=>ns<|gz2 6 az st hF aa 0 0 [3,4,5,6,7,8] [_,_,_,_,_,_] (by decide+kernel) rfl rfl rfl ⟨ck st k36 rfl fun _ s=>dB,rb st aa 1 1 rfl,ck st Ce rfl fun _ s=>Es ⟨(h1.below s.bel),hl⟩,ck st k36 rfl fun _ s=>dB,ck st cQ rfl fun _ s _ x5 _ x6=>cZ x5 x6,ck st k35 rfl fun _ s _ x3 _ x7=>fR x3 x7,trivial⟩ fun r7 w8 a st hF=>nr<|rs Tryz.results267 st hF 1 0 aa rfl rfl rfl ?_
 exact⟨_,rfl,(st.f 0 rfl).1,st.bel⟩
theorem nJ (v1:Value) (qt:Rat) (k:Nat) (w:World) (hT:bI w) (h1:Rq w v1 qt) (hl:ah qt k) (hk:k<=300):
 CQ 229 #[v1] w (rL qt):=by
 have hpk:=i7 qt
 have hsa:=gH (pk qt)
 refine gs1 (nt:=18) Tryz.func229 rfl rfl rfl fun a st hF=>wq ?_
 obtain⟨r2,rfl⟩:=Rq.fo h1
 refine bx st hF 0 rfl rfl fun g1 w1 a st hF=>S.alloc st hF aa rfl rfl fun g2 w3 a st hF=>ns<|gz1 8 az st hF aa [4,5,6,7,8,9,10,3] [_,_,_,_,_,_,_,_] (by decide+kernel) rfl rfl rfl ⟨rb st aa 1 1 rfl,ck st MG rfl fun _ s=>aY (Ck _ (qt) k _ (hT.below s.bel) (h1.below s.bel) hl (by omega)),ck st k36 rfl fun _ s=>aF (j4 (spk (pk (qt)+1)-spk (pk (qt))) (225) _ (dR (pk (qt))).1 (dR (pk (qt))).2 (by decide) (by decide)) (ah.up (ft (bV (dR (pk (qt))).1 (dR (pk (qt))).2) (bV (by decide) (by decide))) 2 (by decide)),rb st aa 1 1 rfl,ck st q7 rfl fun _ s=>qOf (hT.below s.bel) ⟨(h1.below s.bel),hl⟩,ck st JZ rfl fun _ s _ x8=>aF (lB _ (sof (qt)) (k+12) _ x8.1 x8.2 (by omega)) (lY x8.2),ck st cQ rfl fun _ s _ x6 _ x9=>cZ x6 x9,ra aa rfl rfl,trivial⟩ fun r7 g3 w8 a st hF=>ns<|gz2 7 az st hF aa 1 2 [11,12,13,14,15,16,17] [_,_,_,_,_,_,_] (by decide+kernel) rfl rfl rfl ⟨ck st k40 rfl fun _ s=>fj,ck st Df rfl fun _ s=>qV,ck st mP rfl fun _ s _ x11 _ x12=>nI x11 x12,ck st k40 rfl fun _ s=>fj,rb st aa 0 0 rfl,ck st k35 rfl fun _ s _ x14=>fR x14 (s.f 0 rfl),ck st cQ rfl fun _ s _ x13 _ x16=>cZ x13 x16,trivial⟩ fun r12 w13 a st hF=>?_
 refine nr<|rs Tryz.results229 st hF 3 1 aa rfl rfl rfl ?_
 exact⟨_,rfl,(st.f 0 rfl).1,st.bel⟩
theorem rl (v1:Value) (qt:Rat) (k:Nat) (w:World) (hT:bI w) (h1:Rq w v1 qt) (hl:ah qt k) (hk:k<=300):
 CQ 233 #[v1] w (uD qt):=by
 refine gs1 (nt:=23) Tryz.func233 rfl rfl rfl fun a st hF=>wq ?_
 obtain⟨r2,rfl⟩:=Rq.fo h1
 refine bx st hF 0 rfl rfl fun g1 w1 a st hF=>S.alloc st hF aa rfl rfl fun g2 w3 a st hF=>nq<|oL hF st 1 1 aa rfl rfl rfl rfl fun a hF=>S.ck st hF (rgc q7 (aD hF.o)) (qOf (hT.below st.bel) ⟨(h1.below st.bel),hl⟩) Rl.cl rfl fun vv5 w4 a st hF=>?_
 obtain⟨r7,rfl⟩:=Rq.fo (st.f 0 rfl).1
 refine S.new st hF 0 rfl aa rfl rfl rfl rfl rfl fun g3 w8 a st hF=>ns<|gz1 7 az st hF aa [7,8,9,10,11,12,4] [_,_,_,_,_,_,_] (by decide+kernel) rfl rfl rfl ⟨rb st aa 0 0 rfl,ck st k36 rfl fun _ s=>dB,ck st cQ rfl fun _ s _ x8=>cZ (s.f 0 rfl) x8,rb st aa 0 0 rfl,ck st JZ rfl fun _ s=>aF (lB _ (sof (qt)) (k+12) _ (s.f 0 rfl).1 (s.f 0 rfl).2 (by omega)) (lY (s.f 0 rfl).2),ck st cQ rfl fun _ s _ x9 _ x11=>cZ x9 x11,ra aa rfl rfl,trivial⟩ fun r12 g4 w13 a st hF=>ns<|gz2 10 az st hF aa 2 5 [13,14,15,16,17,18,19,20,21,22] [_,_,_,_,_,_,_,_,_,_] (by decide+kernel) rfl rfl rfl ⟨rb st aa 6 3 rfl,ck st JI rfl fun _ s=>aF (nJ _ (qt) k _ (hT.below s.bel) (h1.below s.bel) hl (by omega)) (mG hl),ck st k36 rfl fun _ s=>dB,ck st cQ rfl fun _ s _ x14 _ x15=>cZ x14 x15,rb st aa 0 0 rfl,ck st k36 rfl fun _ s=>dB,ck st cQ rfl fun _ s _ x18=>cZ (s.f 0 rfl) x18,ck st cQ rfl fun _ s _ x16 _ x19=>cZ x16 x19,ck st Df rfl fun _ s=>qV,ck st cQ rfl fun _ s _ x20 _ x21=>cZ x20 x21,trivial⟩ fun r17 w18 a st hF=>?_
 refine nr<|rs Tryz.results233 st hF 6 2 aa rfl rfl rfl ?_
 exact⟨_,rfl,(st.f 0 rfl).1,st.bel⟩
theorem yG (v1:Value) (qt:Rat) (k:Nat) (w:World) (h1:Rq w v1 (qt*(((1:Int):Rat)/((30:Int):Rat)))) (hl:ah (qt*(((1:Int):Rat)/((30:Int):Rat))) k) (hk:k<=10000) (h0:0<=qt) (h3:qt<((360:Int):Rat)):CV 105 #[v1] w (.tuple #[iv (prt qt 12),.bool true]):=by
 have h:=nE v1 _ k w h1 hl hk
 rwa[(IK h0 h3).1,(IK h0 h3).2] at h
theorem ud (v1:Value) (qt:Rat) (k:Nat) (w:World) (h1:Rq w v1 qt) (hl:ah qt k) (hk:k<=300) (h0:0<=qt) (h3:qt<((360:Int):Rat)):
 CQ 230 #[v1] w (ul qt):=by
 have hpt:=cr (x:=qt) (n:=12) (by omega) h0 h3
 refine gs1 (nt:=19) Tryz.func230 rfl rfl rfl fun a st hF=>wq ?_
 obtain⟨r2,rfl⟩:=Rq.fo h1
 refine bx st hF 0 rfl rfl fun g1 w1 a st hF=>S.alloc st hF aa rfl rfl fun g2 w3 a st hF=>nq<|oV hF (aM (EY ao ao ao ao ao ao) (tN _ _ _ _ _ _ _)) rfl fun a hF=>S.new st hF 0 rfl Lu rfl rfl rfl rfl rfl fun g3 w4 a st hF=>ns ?_
 refine E.rg 9 az hF [8,9,10,11,7,12,13,4,5] [_,_,_,_,.ex (.tuple #[iv (prt qt 12),.bool true]),.ex (iv (prt qt 12)),.ex (.bool true),.ex (iv (prt qt 12)),.ex (.bool true)] (by decide+kernel) rfl rfl rfl ⟨rb st aa 3 2 rfl,ck st k36 rfl fun _ s=>dB,ck st cQ rfl fun _ s _ x9=>cZ ⟨(h1.below s.bel),hl⟩ x9,ck st Ch rfl fun _ s _ x10=>aY (yG _ qt (k+2) _ x10.1 x10.2 (by omega) h0 h3),(by intro a' w' hF' hb hd;have e11:=tE hd 0 rfl;exact dv0 (aO e11) rfl rfl rfl),(by intro a' w' hF' hb hd;have e7:=tE hd 0 rfl;exact dv0 (aP (v:= iv (prt qt 12)) e7 rfl) rfl rfl rfl),(by intro a' w' hF' hb hd;have e7:=tE hd 0 rfl;exact dv0 (aP (v:= .bool true) e7 rfl) rfl rfl rfl),(by intro a' w' hF' hb hd;have e12:=tE hd 0 rfl;exact dv0 (bw e12) rfl rfl rfl),(by intro a' w' hF' hb hd;have e13:=tE hd 0 rfl;exact dv0 (bw e13) rfl rfl rfl),trivial⟩ ?_
 intro a w5 hF bb hall
 replace st:=st.to bb
 replace hF:=rE hall hF 7 rfl rfl
 clear hall bb
 refine nq<|oM hF 0 rfl rfl fun a hF=>oV hF (au hF.o ao ag (qZ (a:=prt qt 12) (b:=6) (by omega) (by omega))) rfl fun a hF=>oV hF (cx (hF.at 3 rfl) hF.o (LH (by omega) (by omega))) rfl fun a hF=>oV hF (ar hF.o (cY (v:= iv (fQ (prt qt 12))) (st.bk 0 rfl) H4)) rfl fun a hF=>S.ck st hF (rgc k36 (aB hF.o ao)) (aF (j4 (fQ (prt qt 12)) (1800) _ (by have:=nU (prt qt 12);omega) (by have:=nU (prt qt 12);omega) (by decide) (by decide)) (ah.up (ft (bV (by have:=nU (prt qt 12);omega) (by have:=nU (prt qt 12);omega)) (bV (by decide) (by decide))) 2 (by decide))) Rl.cl rfl fun vv7 w6 a st hF=>?_
 obtain⟨r9,rfl⟩:=Rq.fo (st.f 0 rfl).1
 refine so st hF 1 8 0 aa rfl rfl rfl rfl fun w10 a st hF=>nr<|rs Tryz.results230 st hF 8 1 aa rfl rfl rfl ?_
 exact⟨_,rfl,(st.f 0 rfl).1,st.bel⟩
theorem pi (v1:Value) (qt:Rat) (xa xb xc xd:Int) (k:Nat) (w:World) (hT:bI w) (h1:Rq w v1 qt) (hl:ah qt k) (hk:k<=300) (hxa0: -9223372036854775808<=xa) (hxa1:xa<=9223372036854775807) (hxb0: -9223372036854775808<=xb) (hxb1:xb<=9223372036854775807):
 CQ 231 #[v1,.agg #[iv xa,iv xb,iv xc,iv xd]] w (mh qt (((xa:Int):Rat)/((xb:Int):Rat))):=by
 refine gs2 (nt:=28) Tryz.func231 rfl rfl rfl fun a st hF=>wq ?_
 obtain⟨r2,rfl⟩:=Rq.fo h1
 refine bx st hF 0 rfl rfl fun g2 w1 a st hF=>bx st hF 2 rfl rfl fun g3 w3 a st hF=>S.alloc st hF aa rfl rfl fun g4 w4 a st hF=>nq<|oL hF st 2 2 aa rfl rfl rfl rfl fun a hF=>S.ck st hF (rgc q7 (aD hF.o)) (qOf (hT.below st.bel) ⟨(h1.below st.bel),hl⟩) Rl.cl rfl fun vv6 w5 a st hF=>?_
 obtain⟨r8,rfl⟩:=Rq.fo (st.f 0 rfl).1
 refine S.ck st hF (rgc k36 (aB ao ao)) dB Rl.cl rfl fun vv10 w9 a st hF=>?_
 obtain⟨r12,rfl⟩:=Rq.fo (st.f 0 rfl).1
 refine S.ck st hF (rgc cQ (aB hF.p hF.o)) (cZ (st.f 1 rfl) (st.f 0 rfl)) Rl.cl rfl fun vv14 w13 a st hF=>?_
 obtain⟨r16,rfl⟩:=Rq.fo (st.f 0 rfl).1
 refine S.new st hF 0 rfl aa rfl rfl rfl rfl rfl fun g5 w17 a st hF=>nq<|oL hF st 6 2 cB rfl rfl rfl rfl fun a hF=>S.ck st hF (rgc LU (aD hF.o)) (aF (td xa xb xc xd _ hxa0 hxa1 hxb0 hxb1) (lF (n:=xa) (d:=xb) hxa0 hxa1 hxb0 hxb1)) Rl.cl rfl fun vv19 w18 a st hF=>?_
 obtain⟨r21,rfl⟩:=Rq.fo (st.f 0 rfl).1
 refine S.new st hF 0 rfl aa rfl rfl rfl rfl rfl fun g6 w22 a st hF=>ns<|gz1 8 az st hF aa [14,15,16,17,18,19,20,7] [_,_,_,_,_,_,_,_] (by decide+kernel) rfl rfl rfl ⟨rb st aa 3 1 rfl,rb st aa 0 0 rfl,ck st q7 rfl fun _ s=>qOf (hT.below s.bel) (s.f 0 rfl),ck st cQ rfl fun _ s _ x16=>cZ (s.f 1 rfl) x16,rb st aa 0 0 rfl,ck st Jy rfl fun _ s=>xl (hT.below s.bel) (s.f 0 rfl),ck st mP rfl fun _ s _ x17 _ x19=>nI x17 x19,ra aa rfl rfl,trivial⟩ fun r26 g7 w27 a st hF=>ns<|gz2 7 az st hF aa 3 10 [21,22,23,24,25,26,27] [_,_,_,_,_,_,_] (by decide+kernel) rfl rfl rfl ⟨rb st aa 0 0 rfl,ck st k86 rfl fun _ s=>CG (s.f 0 rfl),rb st aa 5 2 rfl,ck st yI rfl fun _ s=>CN (hT.below s.bel) (s.f 2 rfl),ck st Jy rfl fun _ s _ x24=>xl (hT.below s.bel) x24,ck st mP rfl fun _ s _ x22 _ x25=>nI x22 x25,ck st yI rfl fun _ s _ x26=>CN (hT.below s.bel) x26,trivial⟩ fun r31 w32 a st hF=>?_
 refine nr<|rs Tryz.results231 st hF 11 3 aa rfl rfl rfl ?_
 exact⟨_,rfl,Rq.castM (st.f 0 rfl).1 (C3 _ _),st.bel⟩
theorem vG (v1:Value) (n xa xb xc xd qd sg:Int) (w:World) (hT:bI w) (h1:Rq w v1 (((qd:Int):Rat)/((4:Int):Rat))) (hp:cS xa xb xc xd) (hn0: -4000000<=n) (hn1:n<=4000000) (hq0:1<=qd) (hq1:qd<=3) (hs0: -1<=sg) (hs1:sg<=1):
 CQ 181 #[iv n,.agg #[iv xa,iv xb,iv xc,iv xd],v1,iv sg] w (cm ((n:Int):Rat) (((xa:Int):Rat)/((xb:Int):Rat)) (((xc:Int):Rat)/((xd:Int):Rat)) qd sg):=by
 have st:=St.start w
 refine E.enter (nt:=56) (L:=[(0,iv n),(1,.agg #[iv xa,iv xb,iv xc,iv xd]),(2,v1),(3,iv sg)]) Tryz.func181 rfl rfl rfl (bn (i:=0) rfl (bn (i:=1) rfl (bn (i:=2) rfl (bn (i:=3) rfl fe)))) ?_
 intro a hF
 refine wq<|bx st hF 1 rfl rfl fun g5 w1 a st hF=>?_
 obtain⟨r3,rfl⟩:=Rq.fo h1
 refine bx st hF 3 rfl rfl fun g6 w2 a st hF=>S.alloc st hF aa rfl rfl fun g8 w4 a st hF=>nq<|oM hF 3 rfl rfl fun a hF=>S.ck st hF (rgc k40 (aD hF.o)) fj Rl.cl rfl fun vv6 w5 a st hF=>?_
 obtain⟨r8,rfl⟩:=Rq.fo (st.f 0 rfl).1
 refine S.new st hF 0 rfl aa rfl rfl rfl rfl rfl fun g9 w9 a st hF=>ns ?_
 refine E.rga 6 az hF [17,18,19,20,10,11] [_,_,_,_,kn w9 [.bool false,.slice none 0 0,.slice none 0 0],kn w9 [.bool false,.slice none 0 0,.slice none 0 0]] [4,5] ⟨fun _ _ ⟨g,e,_,o⟩=>⟨g,e,o.lt⟩,⟨fun _ _ ⟨g,e,_,o⟩=>⟨g,e,o.lt⟩,trivial⟩⟩ (by decide+kernel) rfl rfl rfl ⟨rb st aa 0 0 rfl,ck st Mf rfl fun _ s=>aF (tk _ (((n:Int):Rat)) 2 _ (s.f 0 rfl).1 (s.f 0 rfl).2 (by omega)) (iI (s.f 0 rfl).2 iM),rb st aa 0 0 rfl,ck st MF rfl fun _ s=>aF (q6 _ (((n:Int):Rat)) 2 _ (hT.below s.bel) (s.f 0 rfl).1 (s.f 0 rfl).2 (by omega)) (mw (s.f 0 rfl).2),ra aa rfl rfl,ra aa rfl rfl,trivial⟩ ?_
 intro a w10 hF bb hall hne
 have s0:=st
 replace st:=st.to bb
 obtain⟨vv11,hF,st⟩:=rS hall hF st 1 rfl rfl Rl.cl
 obtain⟨r13,rfl⟩:=Rq.fo (st.f 0 rfl).1
 obtain⟨vv14,hF,st⟩:=rS hall hF st 3 rfl rfl Rl.cl
 obtain⟨r16,rfl⟩:=Rq.fo (st.f 0 rfl).1
 obtain⟨_,e10,g10,rfl,ge10,o10⟩:=sS hall 4 10 rfl rfl
 replace st:=st.push o10.blk (Nat.le_trans s0.bel.size ge10) (s0.ne ge10)
 clear o10
 replace hF:=hF.add e10
 obtain⟨_,e11,g11,rfl,ge11,o11⟩:=sS hall 5 11 rfl rfl
 replace st:=st.push o11.blk (Nat.le_trans s0.bel.size ge11) (ie (fun(e:g10=g11)=>hne 4 5 10 11 rfl rfl (by decide) rfl rfl (by rw[e10,e11,e])) (s0.ne ge11))
 clear o11
 replace hF:=hF.add e11
 clear hall bb hne s0
 refine so st hF 1 1 3 aa rfl rfl rfl rfl fun w17 a st hF=>so st hF 0 0 2 aa rfl rfl rfl rfl fun w18 a st hF=>ns<|gz1 8 az st hF aa [21,22,23,24,25,26,27,12] [_,_,_,_,_,_,_,_] (by decide+kernel) rfl rfl rfl ⟨ck st k90 rfl fun _ s=>aY (Ga _),ck st JS rfl fun _ s=>aF (lC 463 20 45461 600 _ (by decide) (by decide) (by decide) (by decide)) (lF (n:=45461) (d:=600) (by decide) (by decide) (by decide) (by decide)),rb st cB 9 5 rfl,ck st JS rfl fun _ s=>aF (lC xa xb xc xd _ (by have:=hp.c0;have:=hp.c1;have:=hp.b1;have:=hp.d1;omega) (by have:=hp.c0;have:=hp.c1;have:=hp.b1;have:=hp.d1;omega) (by have:=hp.d0;have:=hp.d1;have:=hp.b1;have:=hp.d1;omega) (by have:=hp.d0;have:=hp.d1;have:=hp.b1;have:=hp.d1;omega)) (lF (n:=xc) (d:=xd) (by have:=hp.c0;have:=hp.c1;have:=hp.b1;have:=hp.d1;omega) (by have:=hp.c0;have:=hp.c1;have:=hp.b1;have:=hp.d1;omega) (by have:=hp.d0;have:=hp.d1;have:=hp.b1;have:=hp.d1;omega) (by have:=hp.d0;have:=hp.d1;have:=hp.b1;have:=hp.d1;omega)),ck st k35 rfl fun _ s _ x22 _ x24=>fR x22 x24,ck st k36 rfl fun _ s=>dB,ck st cQ rfl fun _ s _ x25 _ x26=>cZ x25 x26,ra aa rfl rfl,trivial⟩ fun r22 g12 w23 a st hF=>ns ?_
 refine gz1 15 az st hF aa [28,29,30,31,32,33,34,35,36,37,38,39,40,41,13] [_,_,_,_,_,_,_,_,_,_,_,_,_,_,_] (by decide+kernel) rfl rfl rfl ⟨rb st aa 10 5 rfl,rb st aa 3 2 rfl,ck st JI rfl fun _ s=>aF (nJ _ (mof (((n:Int):Rat)) pay) 9 _ (hT.below s.bel) (s.f 2 rfl).1 (s.f 2 rfl).2 (by omega)) (mG (s.f 2 rfl).2),ck st cQ rfl fun _ s _ x30=>cZ ⟨(h1.below s.bel),(lF (n:=qd) (d:=4) (by omega) (by omega) (by decide) (by decide))⟩ x30,rb st aa 2 1 rfl,ck st Md rfl fun _ s=>aF (ud _ (bC (((n:Int):Rat))) 190 _ (s.f 1 rfl).1 (s.f 1 rfl).2 (by omega) (bE aG) (bv aG)) (vL _),ck st cQ rfl fun _ s _ x31 _ x33=>cZ x31 x33,rb st aa 2 1 rfl,rb st cB 11 6 rfl,ck st Mh rfl fun _ s=>aF (pi _ (bC (((n:Int):Rat))) xa xb xc xd 190 _ (hT.below s.bel) (s.f 1 rfl).1 (s.f 1 rfl).2 (by omega) (by have:=hp.a0;have:=hp.a1;have:=hp.b1;have:=hp.d1;omega) (by have:=hp.a0;have:=hp.a1;have:=hp.b1;have:=hp.d1;omega) (by have:=hp.b0;have:=hp.b1;have:=hp.b1;have:=hp.d1;omega) (by have:=hp.b0;have:=hp.b1;have:=hp.b1;have:=hp.d1;omega)) (s3 (s.f 1 rfl).2 (lF (n:=xa) (d:=xb) (by have:=hp.a0;have:=hp.a1;have:=hp.b1;have:=hp.d1;omega) (by have:=hp.a0;have:=hp.a1;have:=hp.b1;have:=hp.d1;omega) (by have:=hp.b0;have:=hp.b1;have:=hp.b1;have:=hp.d1;omega) (by have:=hp.b0;have:=hp.b1;have:=hp.b1;have:=hp.d1;omega)) (by decide)),rm 15 rfl,ck st k40 rfl fun _ s=>fj,ck st cQ rfl fun _ s _ x37 _ x39=>cZ x37 x39,ck st k76 rfl fun _ s _ x34 _ x40=>lX x34 x40,ra aa rfl rfl,trivial⟩ fun r27 g13 w28 a st hF=>ns<|gz1 6 az st hF aa [42,43,44,45,46,14] [_,_,_,_,_,_] (by decide+kernel) rfl rfl rfl ⟨ck st k36 rfl fun _ s=>dB,ck st k36 rfl fun _ s=>dB,ck st cQ rfl fun _ s _ x42 _ x43=>cZ x42 x43,rb st aa 0 0 rfl,ck st cQ rfl fun _ s _ x44=>cZ x44 (s.f 0 rfl),ra aa rfl rfl,trivial⟩ fun r32 g14 w33 a st hF=>?_
 refine ns<|gz2 9 az st hF aa 6 13 [47,48,49,50,51,52,53,54,55] [_,_,_,_,_,_,_,.of (fun w v=>jU w v [((n:Int):Rat),((qd:Int):Rat)/((4:Int):Rat),((((45461:Int):Rat)/((600:Int):Rat))-(((xc:Int):Rat)/((xd:Int):Rat)))*(((1:Int):Rat)/((360:Int):Rat)), -(uD (mof (((n:Int):Rat)) pay)),((((1577917828:Int):Rat)/((1582237828:Int):Rat))*(((1:Int):Rat)/((360:Int):Rat)))*((((((qd:Int):Rat)/((4:Int):Rat))*(rL (mof (((n:Int):Rat)) pay)))*(ul (bC (((n:Int):Rat)))))+((mh (bC (((n:Int):Rat))) (((xa:Int):Rat)/((xb:Int):Rat)))*(((sg:Int):Rat))))]/\ah (((n:Int):Rat)) (2)/\ah (((qd:Int):Rat)/((4:Int):Rat)) (2)/\ah (((((45461:Int):Rat)/((600:Int):Rat))-(((xc:Int):Rat)/((xd:Int):Rat)))*(((1:Int):Rat)/((360:Int):Rat))) (7)/\ah (-(uD (mof (((n:Int):Rat)) pay))) (127)/\ah (((((1577917828:Int):Rat)/((1582237828:Int):Rat))*(((1:Int):Rat)/((360:Int):Rat)))*((((((qd:Int):Rat)/((4:Int):Rat))*(rL (mof (((n:Int):Rat)) pay)))*(ul (bC (((n:Int):Rat)))))+((mh (bC (((n:Int):Rat))) (((xa:Int):Rat)/((xb:Int):Rat)))*(((sg:Int):Rat))))) (579)) (fun w w' v h hb=>⟨jU.mono _ w w' v h.1 hb,h.2⟩),_] (by decide+kernel) rfl rfl rfl ⟨rb st aa 10 5 rfl,rb st aa 14 7 rfl,rb st aa 4 2 rfl,rb st aa 7 4 rfl,ck st MB rfl fun _ s=>aF (rl _ (mof (((n:Int):Rat)) pay) 9 _ (hT.below s.bel) (s.f 4 rfl).1 (s.f 4 rfl).2 (by omega)) (uz (s.f 4 rfl).2),ck st k86 rfl fun _ s _ x51=>CG x51,rb st aa 0 0 rfl,(by intro a' w' hF' hb hd;have e47:=tE hd 0 rfl;have e48:=tE hd 1 rfl;have e49:=tE hd 2 rfl;obtain⟨v52_0,e52,h52_1⟩:=tH hd 3 rfl;have e53:=tE hd 4 rfl;obtain⟨vq,w2,hr,bb,hq⟩:=Da ((st.f 5 rfl).below hb).1 (h1.below (aA st.bel hb)) ((st.f 2 rfl).below hb).1 h52_1.1 ((st.f 0 rfl).below hb).1;exact cN (bf rfl) (bz.vals (bp (tw e47 e48 e49 e52 e53) hr) ⟨⟨hq,((st.f 5 rfl).below hb).2,(lF (n:=qd) (d:=4) (by omega) (by omega) (by decide) (by decide)),((st.f 2 rfl).below hb).2,h52_1.2,((st.f 0 rfl).below hb).2⟩,bb,(fun h=>absurd h (by decide))⟩)),ck st MN rfl fun _ s _ x54=>aF (Lx _ (((n:Int):Rat)) (((qd:Int):Rat)/((4:Int):Rat)) (((((45461:Int):Rat)/((600:Int):Rat))-(((xc:Int):Rat)/((xd:Int):Rat)))*(((1:Int):Rat)/((360:Int):Rat))) (-(uD (mof (((n:Int):Rat)) pay))) (((((1577917828:Int):Rat)/((1582237828:Int):Rat))*(((1:Int):Rat)/((360:Int):Rat)))*((((((qd:Int):Rat)/((4:Int):Rat))*(rL (mof (((n:Int):Rat)) pay)))*(ul (bC (((n:Int):Rat)))))+((mh (bC (((n:Int):Rat))) (((xa:Int):Rat)/((xb:Int):Rat)))*(((sg:Int):Rat))))) (max (max (max 2 7) 127) 579) _ x54.1 (x54.2.1.up _ (by omega)) (x54.2.2.1.up _ (by omega)) (x54.2.2.2.1.up _ (by omega)) (x54.2.2.2.2.1.up _ (by omega)) (x54.2.2.2.2.2.up _ (by omega)) (by omega)) (a6 (a6 (a6 (a6 x54.2.1 x54.2.2.1) x54.2.2.2.1) x54.2.2.2.2.1) x54.2.2.2.2.2),trivial⟩ fun r37 w38 a st hF=>nr<|rs Tryz.results181 st hF 14 6 aa rfl rfl rfl ?_
 exact⟨_,rfl,Rq.castM (st.f 0 rfl).1 (Eg _ _ _ qd sg _ rfl),st.bel⟩
theorem v7 (v1:Value) (n xa xb xc xd:Int) (w:World) (hT:bI w) (h1:Rq w v1 (((1:Int):Rat)/((4:Int):Rat))) (hp:cS xa xb xc xd) (hn0: -4000000<=n) (hn1:n<=4000000):
 CQ 181 #[iv n,.agg #[iv xa,iv xb,iv xc,iv xd],v1,iv 1] w (cT n xa xb xc xd):=vG v1 n xa xb xc xd 1 1 w hT h1 hp hn0 hn1 (by decide) (by decide) (by decide) (by decide)
theorem wn (v1:Value) (n xa xb xc xd:Int) (w:World) (hT:bI w) (h1:Rq w v1 (((3:Int):Rat)/((4:Int):Rat))) (hp:cS xa xb xc xd) (hn0: -4000000<=n) (hn1:n<=4000000):
 CQ 181 #[iv n,.agg #[iv xa,iv xb,iv xc,iv xd],v1,iv (-1)] w (jw n xa xb xc xd):=vG v1 n xa xb xc xd 3 (-1) w hT h1 hp hn0 hn1 (by decide) (by decide) (by decide) (by decide)
theorem yX (n xa xb xc xd:Int) (w:World) (hT:bI w) (hp:cS xa xb xc xd) (hn0: -4000000<=n) (hn1:n<=4000000):
 CQ 119 #[iv n,.agg #[iv xa,iv xb,iv xc,iv xd]] w (cT n xa xb xc xd):=by
 refine gs2 (nt:=9) Tryz.func119 rfl rfl rfl fun a st hF=>wq<|bx st hF 1 rfl rfl fun g3 w1 a st hF=>S.alloc st hF aa rfl rfl fun g4 w2 a st hF=>ns<|gz2 4 az st hF aa 0 0 [5,6,7,8] [_,_,_,_] (by decide+kernel) rfl rfl rfl ⟨rm 2 rfl,rb st cB 1 1 rfl,ck st k36 rfl fun _ s=>dB,ck st Jh rfl fun _ s _ x7=>aF (v7 _ n xa xb xc xd _ (hT.below s.bel) x7.1 (by first|assumption|constructor<;>omega) (by omega) (by omega)) (ru (by first|assumption|constructor<;>omega) (by omega) (by omega)),trivial⟩ fun r6 w7 a st hF=>nr<|rs Tryz.results119 st hF 1 0 aa rfl rfl rfl ?_
 exact⟨_,rfl,(st.f 0 rfl).1,st.bel⟩
theorem y8 (n xa xb xc xd:Int) (w:World) (hT:bI w) (hp:cS xa xb xc xd) (hn0: -4000000<=n) (hn1:n<=4000000):
 CQ 121 #[iv n,.agg #[iv xa,iv xb,iv xc,iv xd]] w (jw n xa xb xc xd):=by
 refine gs2 (nt:=9) Tryz.func121 rfl rfl rfl fun a st hF=>wq<|bx st hF 1 rfl rfl fun g3 w1 a st hF=>S.alloc st hF aa rfl rfl fun g4 w2 a st hF=>ns<|gz2 4 az st hF aa 0 0 [5,6,7,8] [_,_,_,_] (by decide+kernel) rfl rfl rfl ⟨rm 2 rfl,rb st cB 1 1 rfl,ck st k36 rfl fun _ s=>dB,ck st Jh rfl fun _ s _ x7=>aF (wn _ n xa xb xc xd _ (hT.below s.bel) x7.1 (by first|assumption|constructor<;>omega) (by omega) (by omega)) (rU (by first|assumption|constructor<;>omega) (by omega) (by omega)),trivial⟩ fun r6 w7 a st hF=>nr<|rs Tryz.results121 st hF 1 0 aa rfl rfl rfl ?_
 exact⟨_,rfl,(st.f 0 rfl).1,st.bel⟩
theorem tj (n xa xb xc xd:Int) (w:World) (hT:bI w) (hp:cS xa xb xc xd) (hn0: -4000000<=n) (hn1:n<=4000000):
 CQ 55 #[iv n,.agg #[iv xa,iv xb,iv xc,iv xd]] w (bi (cT n xa xb xc xd)):=by
 refine gs2 (nt:=9) Tryz.func55 rfl rfl rfl fun a st hF=>wq<|bx st hF 1 rfl rfl fun g3 w1 a st hF=>S.alloc st hF aa rfl rfl fun g4 w2 a st hF=>nq<|oM hF 2 rfl rfl fun a hF=>oL hF st 2 1 cB rfl rfl rfl rfl fun a hF=>S.ck st hF (rgc MO (aB hF.p hF.o)) (aF (yX n xa xb xc xd _ (hT.below st.bel) (by first|assumption|constructor<;>omega) (by omega) (by omega)) (ru (by first|assumption|constructor<;>omega) (by omega) (by omega))) Rl.cl rfl fun vv4 w3 a st hF=>?_
 obtain⟨r6,rfl⟩:=Rq.fo (st.f 0 rfl).1
 refine S.ck st hF (rgc I3 (aD hF.o)) (aF (oQ _ _ 90 _ (st.f 0 rfl).1 (st.f 0 rfl).2 (by omega)) (gZ (by first|assumption|constructor<;>omega) (by omega) (by omega))) Rl.cl rfl fun vv8 w7 a st hF=>?_
 obtain⟨r10,rfl⟩:=Rq.fo (st.f 0 rfl).1
 refine so st hF 0 4 0 aa rfl rfl rfl rfl fun w11 a st hF=>nr<|rs Tryz.results55 st hF 4 0 aa rfl rfl rfl ?_
 exact⟨_,rfl,(st.f 0 rfl).1,st.bel⟩
theorem vH (n xa xb xc xd:Int) (w:World) (hT:bI w) (hp:cS xa xb xc xd) (hn0: -4000000<=n) (hn1:n<=4000000):
 CQ 57 #[iv n,.agg #[iv xa,iv xb,iv xc,iv xd]] w (bi (jw n xa xb xc xd)):=by
 refine gs2 (nt:=9) Tryz.func57 rfl rfl rfl fun a st hF=>wq<|bx st hF 1 rfl rfl fun g3 w1 a st hF=>S.alloc st hF aa rfl rfl fun g4 w2 a st hF=>nq<|oM hF 2 rfl rfl fun a hF=>oL hF st 2 1 cB rfl rfl rfl rfl fun a hF=>S.ck st hF (rgc MI (aB hF.p hF.o)) (aF (y8 n xa xb xc xd _ (hT.below st.bel) (by first|assumption|constructor<;>omega) (by omega) (by omega)) (rU (by first|assumption|constructor<;>omega) (by omega) (by omega))) Rl.cl rfl fun vv4 w3 a st hF=>?_
 obtain⟨r6,rfl⟩:=Rq.fo (st.f 0 rfl).1
 refine S.ck st hF (rgc I3 (aD hF.o)) (aF (oQ _ _ 90 _ (st.f 0 rfl).1 (st.f 0 rfl).2 (by omega)) (l9 (by first|assumption|constructor<;>omega) (by omega) (by omega))) Rl.cl rfl fun vv8 w7 a st hF=>?_
 obtain⟨r10,rfl⟩:=Rq.fo (st.f 0 rfl).1
 refine so st hF 0 4 0 aa rfl rfl rfl rfl fun w11 a st hF=>nr<|rs Tryz.results57 st hF 4 0 aa rfl rfl rfl ?_
 exact⟨_,rfl,(st.f 0 rfl).1,st.bel⟩
end Go.Proofs.YtgdpkknapcgcbaaGreatDoor
