import Derived.Test.YtgdpkknapcgcbaaGreatDoorKC15
import Derived.Test.YtgdpkknapcgcbaaGreatDoorKC23
import Derived.Test.YtgdpkknapcgcbaaGreatDoorKC26
namespace Go.Proofs.YtgdpkknapcgcbaaGreatDoor
open Go.RowKit
set_option maxRecDepth 100000
set_option linter.unusedVariables false
set_option maxHeartbeats 8000000
theorem su {place:Nat->Option (Nat×Nat)} {cells:Array Value} {i off:Nat} {k:IntKind} {z:Int} {rest:List (Nat×Value)} (hp:place i=some (off,1)) (hc:off+1<=cells.size):
 Instr.fill place cells ((i,.int k z)::rest)=Instr.fill place (cells.setIfInBounds off (.int k z)) rest:=by
 conv=>lhs;unfold Instr.fill
 rw[hp]
 have h1:(Value.int k z).cells =#[.int k z]:=rfl
 simp only [h1]
 rw[if_neg (by simp;omega)]
 rfl
theorem QW:(Tryz.prog.info? 245).map (·.size)=some 6:=by kernel_rfl
theorem Kj:(Tryz.prog.info? 245).bind (·.zero)=some (.agg #[iv 0,iv 0,iv 0,iv 0,iv 0,iv 0]):=by kernel_rfl
theorem zL (z0 z1 z2 z3 z4 z5:Int) (w:World):(Instr.build 245 #[(0,iv z0),(1,iv z1),(2,iv z2),(3,iv z3),(4,iv z4),(5,iv z5)]).run Tryz.prog w= .ok (.agg #[iv z0,iv z1,iv z2,iv z3,iv z4,iv z5]) w:=by
 have hz:=dr Kj w
 have hs:∀w,(sizeOf 2).run Tryz.prog w= .ok 1 w:=fun w=>bh dz w
 simp only [Instr.build,Sem.run_bind,hz,Result.andThen_ok,run_underlying Tryz.underlying245,hs]
 rw[show(Value.agg #[Value.int .i64 0,Value.int .i64 0,Value.int .i64 0,Value.int .i64 0,Value.int .i64 0,Value.int .i64 0]).cells =#[Value.int .i64 0,Value.int .i64 0,Value.int .i64 0,Value.int .i64 0,Value.int .i64 0,Value.int .i64 0] from rfl]
 rw[su (off:=0) rfl (by simp),su (off:=1) rfl (by simp),su (off:=2) rfl (by simp),su (off:=3) rfl (by simp),su (off:=4) rfl (by simp),su (off:=5) rfl (by simp)]
 simp only [List.setIfInBounds_toArray,List.set_cons_zero,List.set_cons_succ]
 rfl
theorem QE {w:World} {g:Nat} {i:Int} (h0:0<=i) (h1:i<6):(Instr.indexAt 245 (.pointer (some ⟨g,0,none⟩)) (iv i)).run Tryz.prog w= .ok (.pointer (some ⟨g,i.toNat,none⟩)) w:=by
 have hs:∀w,(sizeOf 2).run Tryz.prog w= .ok 1 w:=fun w=>bh dz w
 simp[Instr.indexAt,asIntOf,Instr.sureAddr,run_underlying Tryz.underlying245,Sem.run_bind,h0,h1,Addr.add_mid,hs]
theorem RD {a:Act} {i0 i1 i2 i3 i4 i5:Nat} {x0 x1 x2 x3 x4 x5:Operand} {u0 u1 u2 u3 u4 u5:Value} (h0:a.eval x0=u0) (h1:a.eval x1=u1) (h2:a.eval x2=u2) (h3:a.eval x3=u3) (h4:a.eval x4=u4) (h5:a.eval x5=u5):(#[(i0,x0),(i1,x1),(i2,x2),(i3,x3),(i4,x4),(i5,x5)].map fun(p:Nat×Operand)=>(p.1,a.eval p.2))=#[(i0,u0),(i1,u1),(i2,u2),(i3,u3),(i4,u4),(i5,u5)]:=by simp[h0,h1,h2,h3,h4,h5]
theorem QA:Ty Tryz.prog 245 6 [iv 0,iv 0,iv 0,iv 0,iv 0,iv 0]:=⟨⟨_,Tryz.underlying245,rfl⟩,QW,Kj⟩
theorem Hc {w:World} {v1 v2 v3 v4 v5:Value} {q1 q2 q3 q4 q5:Rat} (h1:Rq w v1 q1) (h2:Rq w v2 q2) (h3:Rq w v3 q3) (h4:Rq w v4 q4) (h5:Rq w v5 q5):
 ∃v w',(Instr.buildSlice 246 5 #[(0,v1),(1,v2),(2,v3),(3,v4),(4,v5)]).run Tryz.prog w= .ok v w'/\Below w.heap.size w w'/\mC w' v [q1,q2,q3,q4,q5]:=by
 obtain⟨b1,ad1,n1,c1,ae1,m1,d1,rfl, -, -⟩:=h1.shape
 obtain⟨b2,ad2,n2,c2,ae2,m2,d2,rfl, -, -⟩:=h2.shape
 obtain⟨b3,ad3,n3,c3,ae3,m3,d3,rfl, -, -⟩:=h3.shape
 obtain⟨b4,ad4,n4,c4,ae4,m4,d4,rfl, -, -⟩:=h4.shape
 obtain⟨b5,ad5,n5,c5,ae5,m5,d5,rfl, -, -⟩:=h5.shape
 have ho:=ou (w:=w) (cs:=[.bool b1,.slice ad1 n1 c1,.slice ae1 m1 d1,.bool b2,.slice ad2 n2 c2,.slice ae2 m2 d2,.bool b3,.slice ad3 n3 c3,.slice ae3 m3 d3,.bool b4,.slice ad4 n4 c4,.slice ae4 m4 d4,.bool b5,.slice ad5 n5 c5,.slice ae5 m5 d5]) 33 (niB (niS (niS (niB (niS (niS (niB (niS (niS (niB (niS (niS (niB (niS (niS ni0)))))))))))))))
 refine⟨.slice (some ⟨w.heap.size,0,none⟩) 5 5,w.alloc (.cells #[.bool b1,.slice ad1 n1 c1,.slice ae1 m1 d1,.bool b2,.slice ad2 n2 c2,.slice ae2 m2 d2,.bool b3,.slice ad3 n3 c3,.slice ae3 m3 d3,.bool b4,.slice ad4 n4 c4,.slice ae4 m4 d4,.bool b5,.slice ad5 n5 c5,.slice ae5 m5 d5] 33),?_,ho.2,_,_,rfl,ho.1,?_⟩
 ·have hs:=bh (P:=Tryz.prog) kd w
  have hu:=run_underlying (P:=Tryz.prog) Tryz.underlying246 w
  have hz:=dr (P:=Tryz.prog) lE w
  simp[Instr.buildSlice,go_sem,hs,hu,Instr.fill,Value.cells,newRow]
 ·intro i hi
  have hi':i<5:=hi
  match i,hi' with
  |0,_=>exact⟨b1,ad1,n1,c1,ae1,m1,d1,rfl,h1.below ho.2⟩
  |1,_=>exact⟨b2,ad2,n2,c2,ae2,m2,d2,rfl,h2.below ho.2⟩
  |2,_=>exact⟨b3,ad3,n3,c3,ae3,m3,d3,rfl,h3.below ho.2⟩
  |3,_=>exact⟨b4,ad4,n4,c4,ae4,m4,d4,rfl,h4.below ho.2⟩
  |4,_=>exact⟨b5,ad5,n5,c5,ae5,m5,d5,rfl,h5.below ho.2⟩
theorem qs5 (q1 q2 q3 q4 q5:Rat):uk [q1,q2,q3,q4,q5] 5=0+q1+q2+q3+q4+q5:=rfl
theorem QS (v:Value) (q1 q2 q3 q4 q5:Rat) (k:Nat) (w:World) (h:mC w v [q1,q2,q3,q4,q5]) (l1:av q1 k) (l2:av q2 k) (l3:av q3 k) (l4:av q4 k) (l5:av q5 k) (hk:k<=10000):CQ 232 #[v] w (q1+q2+q3+q4+q5):=by
 have e0:q1+q2+q3+q4+q5=uk [q1,q2,q3,q4,q5] 5:=by rw[qs5,Rat.zero_add]
 rw[e0]
 have hp:=l1.pos
 refine H9 v [q1,q2,q3,q4,q5] (5*k+4) w h ?_ ?_ (by omega) (by simp)
 ·intro i hi
  have hi':i<6:=Nat.lt_succ_of_le hi
  match i,hi' with
  |0,_=>exact jH (by omega)
  |1,_=>show av (0+q1) _;rw[Rat.zero_add];exact l1.up _ (by omega)
  |2,_=>show av (0+q1+q2) _;rw[Rat.zero_add];exact(bP l1 l2).up _ (by omega)
  |3,_=>show av (0+q1+q2+q3) _;rw[Rat.zero_add];exact(bP (bP l1 l2) l3).up _ (by omega)
  |4,_=>show av (0+q1+q2+q3+q4) _;rw[Rat.zero_add];exact(bP (bP (bP l1 l2) l3) l4).up _ (by omega)
  |5,_=>show av (0+q1+q2+q3+q4+q5) _;rw[Rat.zero_add];exact(bP (bP (bP (bP l1 l2) l3) l4) l5).up _ (by omega)
 ·intro i hi
  have hi':i<5:=hi
  match i,hi' with
  |0,_=>exact l1.up _ (by omega)
  |1,_=>exact l2.up _ (by omega)
  |2,_=>exact l3.up _ (by omega)
  |3,_=>exact l4.up _ (by omega)
  |4,_=>exact l5.up _ (by omega)
theorem A0 (v1:Value) (qt:Rat) (k:Nat) (w:World) (h1:Rq w v1 qt) (hl:av qt k) (hk:k<=2000):
 CQ 118 #[v1] w (dU qt):=by
 refine gs1 (nt:=10) Tryz.func118 rfl rfl rfl fun a st hF=>wq ?_
 obtain⟨r2,rfl⟩:=Rq.fo h1
 refine bx st hF 0 rfl rfl fun g1 w1 a st hF=>S.alloc st hF ab rfl rfl fun g2 w3 a st hF=>ns<|gz2 7 aM st hF ab 0 0 [3,4,5,6,7,8,9] [_,_,_,_,_,_,_] (by decide+kernel) rfl rfl rfl ⟨rb st ab 1 1 rfl,ck st k40 rfl fun _ s=>dM,ck st dB rfl fun _ s _ x4=>dE ⟨(h1.below s.bel),hl⟩ x4,ck st zz rfl fun _ s _ x5=>eI (kj _ ((qt)*(((1048576:Int):Rat))) (k+2) _ x5.1 x5.2 (by omega)) (gH x5.2),ck st Ha rfl fun _ s _ x6=>bf (vM _ (Rat.floor ((qt)*(((1048576:Int):Rat)))) _ (Wc.wz x6.1)) (cK (Lim.up x6.2 (((k+2)+1)+1) (by omega)) (by omega)),ck st k36 rfl fun _ s=>en,ck st dB rfl fun _ s _ x7 _ x8=>dE x7 x8,trivial⟩ fun r7 w8 a st hF=>nr ?_
 refine rs Tryz.results118 st hF 1 0 ab rfl rfl rfl ?_
 exact⟨_,rfl,(st.f 0 rfl).1,st.bel⟩
theorem tK (v1:Value) (qt:Rat) (k:Nat) (w:World) (h1:Rq w v1 qt) (hl:av qt k) (hk:k<=20):
 CQ 265 #[v1] w (dN qt):=by
 refine gs1 (nt:=22) Tryz.func265 rfl rfl rfl fun a st hF=>wq ?_
 obtain⟨r2,rfl⟩:=Rq.fo h1
 refine bx st hF 0 rfl rfl fun g1 w1 a st hF=>S.alloc st hF ab rfl rfl fun g2 w3 a st hF=>ns<|gz1 6 aM st hF ab [5,6,7,8,9,3] [_,_,_,_,_,_] (by decide+kernel) rfl rfl rfl ⟨rb st ab 1 1 rfl,ck st k40 rfl fun _ s=>dM,ck st k35 rfl fun _ s _ x6=>gR ⟨(h1.below s.bel),hl⟩ x6,ck st k36 rfl fun _ s=>en,ck st dB rfl fun _ s _ x7 _ x8=>dE x7 x8,ra ab rfl rfl,trivial⟩ fun r7 g3 w8 a st hF=>ns<|gz1 7 aM st hF ab [10,11,12,13,14,15,4] [_,_,_,_,_,_,_] (by decide+kernel) rfl rfl rfl ⟨rb st ab 0 0 rfl,ck st k36 rfl fun _ s=>en,ck st k35 rfl fun _ s _ x11=>gR (s.f 0 rfl) x11,ck st k36 rfl fun _ s=>en,ck st k36 rfl fun _ s=>en,ck st RU rfl fun _ s _ x12 _ x13 _ x14=>RB x12 x13 x14,ra ab rfl rfl,trivial⟩ fun r12 g4 w13 a st hF=>?_
 refine ns<|gz2 6 aM st hF ab 2 4 [16,17,18,19,20,21] [_,_,_,_,_,_] (by decide+kernel) rfl rfl rfl ⟨ck st k40 rfl fun _ s=>dM,rb st ab 0 0 rfl,ck st G3 rfl fun _ s=>JR (s.f 0 rfl),ck st k40 rfl fun _ s=>dM,ck st dB rfl fun _ s _ x18 _ x19=>dE x18 x19,ck st k35 rfl fun _ s _ x16 _ x20=>gR x16 x20,trivial⟩ fun r17 w18 a st hF=>nr<|rs Tryz.results265 st hF 5 2 ab rfl rfl rfl ?_
 exact⟨_,rfl,Rq.castM (st.f 0 rfl).1 (by unfold dN;rw[Rat.mul_comm ((108:Int):Rat)];rfl),st.bel⟩
theorem vh (v1:Value) (qt:Rat) (k:Nat) (w:World) (hT:bE w) (h1:Rq w v1 qt) (hl:av qt k) (hk:k<=20):
 CQ 227 #[v1] w (bZ qt):=by
 refine gs1 (nt:=10) Tryz.func227 rfl rfl rfl fun a st hF=>wq ?_
 obtain⟨r2,rfl⟩:=Rq.fo h1
 refine bx st hF 0 rfl rfl fun g1 w1 a st hF=>S.alloc st hF ab rfl rfl fun g2 w3 a st hF=>ns<|gz2 7 aM st hF ab 0 0 [3,4,5,6,7,8,9] [_,_,_,_,_,_,_] (by decide+kernel) rfl rfl rfl ⟨rb st ab 1 1 rfl,ck st k85 rfl fun _ s=>Ff (hT.below s.bel) ⟨(h1.below s.bel),hl⟩,rb st ab 1 1 rfl,ck st SA rfl fun _ s=>bf (tK _ (qt) k _ (h1.below s.bel) hl (by omega)) (tT hl),ck st k35 rfl fun _ s _ x4 _ x6=>gR x4 x6,ck st k40 rfl fun _ s=>dM,ck st DV rfl fun _ s _ x7 _ x8=>Kn x7 x8,trivial⟩ fun r7 w8 a st hF=>nr<|rs Tryz.results227 st hF 1 0 ab rfl rfl rfl ?_
 exact⟨_,rfl,(st.f 0 rfl).1,st.bel⟩
theorem xD (v1:Value) (qt:Rat) (k:Nat) (w:World) (h1:Rq w v1 qt) (hl:av qt k) (hk:k<=20):
 CQ 226 #[v1] w (mof qt pay):=by
 refine gs1 (nt:=6) Tryz.func226 rfl rfl rfl fun a st hF=>wq ?_
 obtain⟨r2,rfl⟩:=Rq.fo h1
 refine bx st hF 0 rfl rfl fun g1 w1 a st hF=>S.alloc st hF ab rfl rfl fun g2 w3 a st hF=>ns<|gz2 3 aM st hF ab 0 0 [3,4,5] [_,_,_] (by decide+kernel) rfl rfl rfl ⟨rb st ab 1 1 rfl,ck st O3 rfl fun _ s=>nV,ck st Ja rfl fun _ s _ x4=>DN ⟨(h1.below s.bel),hl⟩ x4,trivial⟩ fun r7 w8 a st hF=>nr<|rs Tryz.results226 st hF 1 0 ab rfl rfl rfl ?_
 exact⟨_,rfl,(st.f 0 rfl).1,st.bel⟩
theorem oJ (v1:Value) (qt:Rat) (k:Nat) (w:World) (h1:Rq w v1 qt) (hl:av qt k) (hk:k<=1000):
 CQ 267 #[v1] w (C3 qt):=by
 refine gs1 (nt:=9) Tryz.func267 rfl rfl rfl fun a st hF=>wq ?_
 obtain⟨r2,rfl⟩:=Rq.fo h1
 refine bx st hF 0 rfl rfl fun g1 w1 a st hF=>S.alloc st hF ab rfl rfl fun g2 w3 a st hF=>ns<|gz2 6 aM st hF ab 0 0 [3,4,5,6,7,8] [_,_,_,_,_,_] (by decide+kernel) rfl rfl rfl ⟨ck st k36 rfl fun _ s=>en,rb st ab 1 1 rfl,ck st G3 rfl fun _ s=>JR ⟨(h1.below s.bel),hl⟩,ck st k36 rfl fun _ s=>en,ck st dB rfl fun _ s _ x5 _ x6=>dE x5 x6,ck st k35 rfl fun _ s _ x3 _ x7=>gR x3 x7,trivial⟩ fun r7 w8 a st hF=>nr<|rs Tryz.results267 st hF 1 0 ab rfl rfl rfl ?_
 exact⟨_,rfl,(st.f 0 rfl).1,st.bel⟩
theorem rA (v1:Value) (qt:Rat) (k:Nat) (w:World) (hT:bE w) (h1:Rq w v1 qt) (hl:av qt k) (hk:k<=300):
 CQ 229 #[v1] w (vW qt):=by
 have hpk:=lj qt
 have hsa:=ji (pk qt)
 refine gs1 (nt:=18) Tryz.func229 rfl rfl rfl fun a st hF=>wq ?_
 obtain⟨r2,rfl⟩:=Rq.fo h1
 refine bx st hF 0 rfl rfl fun g1 w1 a st hF=>S.alloc st hF ab rfl rfl fun g2 w3 a st hF=>ns<|gz1 8 aM st hF ab [4,5,6,7,8,9,10,3] [_,_,_,_,_,_,_,_] (by decide+kernel) rfl rfl rfl ⟨rb st ab 1 1 rfl,ck st R4 rfl fun _ s=>bD (I9 _ (qt) k _ (hT.below s.bel) (h1.below s.bel) hl (by omega)),ck st k36 rfl fun _ s=>bf (kX (spk (pk (qt)+1)-spk (pk (qt))) (225) _ (fk (pk (qt))).1 (fk (pk (qt))).2 (by decide) (by decide)) (av.up (fO (co (fk (pk (qt))).1 (fk (pk (qt))).2) (co (by decide) (by decide))) 2 (by decide)),rb st ab 1 1 rfl,ck st vJ rfl fun _ s=>qOf (hT.below s.bel) ⟨(h1.below s.bel),hl⟩,ck st PN rfl fun _ s _ x8=>bf (oJ _ (sof (qt)) (k+12) _ x8.1 x8.2 (by omega)) (pi x8.2),ck st dB rfl fun _ s _ x6 _ x9=>dE x6 x9,ra ab rfl rfl,trivial⟩ fun r7 g3 w8 a st hF=>ns<|gz2 7 aM st hF ab 1 2 [11,12,13,14,15,16,17] [_,_,_,_,_,_,_] (by decide+kernel) rfl rfl rfl ⟨ck st k40 rfl fun _ s=>dM,ck st zO rfl fun _ s=>nQ,ck st pz rfl fun _ s _ x11 _ x12=>qb x11 x12,ck st k40 rfl fun _ s=>dM,rb st ab 0 0 rfl,ck st k35 rfl fun _ s _ x14=>gR x14 (s.f 0 rfl),ck st dB rfl fun _ s _ x13 _ x16=>dE x13 x16,trivial⟩ fun r12 w13 a st hF=>?_
 refine nr<|rs Tryz.results229 st hF 3 1 ab rfl rfl rfl ?_
 exact⟨_,rfl,(st.f 0 rfl).1,st.bel⟩
theorem wt (v1:Value) (qt:Rat) (k:Nat) (w:World) (hT:bE w) (h1:Rq w v1 qt) (hl:av qt k) (hk:k<=300):
 CQ 233 #[v1] w (Ax qt):=by
 refine gs1 (nt:=23) Tryz.func233 rfl rfl rfl fun a st hF=>wq ?_
 obtain⟨r2,rfl⟩:=Rq.fo h1
 refine bx st hF 0 rfl rfl fun g1 w1 a st hF=>S.alloc st hF ab rfl rfl fun g2 w3 a st hF=>nq<|oL hF st 1 1 ab rfl rfl rfl rfl fun a hF=>S.ck st hF (rgc vJ (aG hF.o)) (qOf (hT.below st.bel) ⟨(h1.below st.bel),hl⟩) Rl.cl rfl fun vv5 w4 a st hF=>?_
 obtain⟨r7,rfl⟩:=Rq.fo (st.f 0 rfl).1
 refine S.new st hF 0 rfl ab rfl rfl rfl rfl rfl fun g3 w8 a st hF=>ns<|gz1 7 aM st hF ab [7,8,9,10,11,12,4] [_,_,_,_,_,_,_] (by decide+kernel) rfl rfl rfl ⟨rb st ab 0 0 rfl,ck st k36 rfl fun _ s=>en,ck st dB rfl fun _ s _ x8=>dE (s.f 0 rfl) x8,rb st ab 0 0 rfl,ck st PN rfl fun _ s=>bf (oJ _ (sof (qt)) (k+12) _ (s.f 0 rfl).1 (s.f 0 rfl).2 (by omega)) (pi (s.f 0 rfl).2),ck st dB rfl fun _ s _ x9 _ x11=>dE x9 x11,ra ab rfl rfl,trivial⟩ fun r12 g4 w13 a st hF=>ns<|gz2 10 aM st hF ab 2 5 [13,14,15,16,17,18,19,20,21,22] [_,_,_,_,_,_,_,_,_,_] (by decide+kernel) rfl rfl rfl ⟨rb st ab 6 3 rfl,ck st PG rfl fun _ s=>bf (rA _ (qt) k _ (hT.below s.bel) (h1.below s.bel) hl (by omega)) (pj hl),ck st k36 rfl fun _ s=>en,ck st dB rfl fun _ s _ x14 _ x15=>dE x14 x15,rb st ab 0 0 rfl,ck st k36 rfl fun _ s=>en,ck st dB rfl fun _ s _ x18=>dE (s.f 0 rfl) x18,ck st dB rfl fun _ s _ x16 _ x19=>dE x16 x19,ck st zO rfl fun _ s=>nQ,ck st dB rfl fun _ s _ x20 _ x21=>dE x20 x21,trivial⟩ fun r17 w18 a st hF=>?_
 refine nr<|rs Tryz.results233 st hF 6 2 ab rfl rfl rfl ?_
 exact⟨_,rfl,(st.f 0 rfl).1,st.bel⟩
theorem CZ (v1:Value) (qt:Rat) (k:Nat) (w:World) (h1:Rq w v1 (qt*(((1:Int):Rat)/((30:Int):Rat)))) (hl:av (qt*(((1:Int):Rat)/((30:Int):Rat))) k) (hk:k<=10000) (h0:0<=qt) (h3:qt<((360:Int):Rat)):CV 105 #[v1] w (.tuple #[iv (prt qt 12),.bool true]):=by
 have h:=jT v1 _ k w h1 hl hk
 rwa[(PO h0 h3).1,(PO h0 h3).2] at h
theorem yP (v1:Value) (qt:Rat) (k:Nat) (w:World) (h1:Rq w v1 qt) (hl:av qt k) (hk:k<=300) (h0:0<=qt) (h3:qt<((360:Int):Rat)):
 CQ 230 #[v1] w (zD qt):=by
 have hpt:=kg (x:=qt) (n:=12) (by omega) h0 h3
 refine gs1 (nt:=19) Tryz.func230 rfl rfl rfl fun a st hF=>wq ?_
 obtain⟨r2,rfl⟩:=Rq.fo h1
 refine bx st hF 0 rfl rfl fun g1 w1 a st hF=>S.alloc st hF ab rfl rfl fun g2 w3 a st hF=>nq<|oV hF (bn (RD ao ao ao ao ao ao) (zL _ _ _ _ _ _ _)) rfl fun a hF=>S.new st hF 0 rfl QA rfl rfl rfl rfl rfl fun g3 w4 a st hF=>ns ?_
 refine E.rg 9 aM hF [8,9,10,11,7,12,13,4,5] [_,_,_,_,.ex (.tuple #[iv (prt qt 12),.bool true]),.ex (iv (prt qt 12)),.ex (.bool true),.ex (iv (prt qt 12)),.ex (.bool true)] (by decide+kernel) rfl rfl rfl ⟨rb st ab 3 2 rfl,ck st k36 rfl fun _ s=>en,ck st dB rfl fun _ s _ x9=>dE ⟨(h1.below s.bel),hl⟩ x9,ck st vi rfl fun _ s _ x10=>bD (CZ _ qt (k+2) _ x10.1 x10.2 (by omega) h0 h3),(by intro a' w' hF' hb hd;have e11:=tE hd 0 rfl;exact dv0 (aD e11) rfl rfl rfl),(by intro a' w' hF' hb hd;have e7:=tE hd 0 rfl;exact dv0 (aH (v:= iv (prt qt 12)) e7 rfl) rfl rfl rfl),(by intro a' w' hF' hb hd;have e7:=tE hd 0 rfl;exact dv0 (aH (v:= .bool true) e7 rfl) rfl rfl rfl),(by intro a' w' hF' hb hd;have e12:=tE hd 0 rfl;exact dv0 (aZ e12) rfl rfl rfl),(by intro a' w' hF' hb hd;have e13:=tE hd 0 rfl;exact dv0 (aZ e13) rfl rfl rfl),trivial⟩ ?_
 intro a w5 hF bb hall
 replace st:=st.to bb
 replace hF:=rE hall hF 7 rfl rfl
 clear hall bb
 refine nq<|oM hF 0 rfl rfl fun a hF=>oV hF (aq hF.o ao aa (eK (a:=prt qt 12) (b:=6) (by omega) (by omega))) rfl fun a hF=>oV hF (bS (hF.at 3 rfl) hF.o (QE (by omega) (by omega))) rfl fun a hF=>oV hF (ar hF.o (bl (v:= iv (iI (prt qt 12))) (st.bk 0 rfl) LV)) rfl fun a hF=>S.ck st hF (rgc k36 (aL hF.o ao)) (bf (kX (iI (prt qt 12)) (1800) _ (by have:=sK (prt qt 12);omega) (by have:=sK (prt qt 12);omega) (by decide) (by decide)) (av.up (fO (co (by have:=sK (prt qt 12);omega) (by have:=sK (prt qt 12);omega)) (co (by decide) (by decide))) 2 (by decide))) Rl.cl rfl fun vv7 w6 a st hF=>?_
 obtain⟨r9,rfl⟩:=Rq.fo (st.f 0 rfl).1
 refine so st hF 1 8 0 ab rfl rfl rfl rfl fun w10 a st hF=>nr<|rs Tryz.results230 st hF 8 1 ab rfl rfl rfl ?_
 exact⟨_,rfl,(st.f 0 rfl).1,st.bel⟩
theorem tl (v1:Value) (qt:Rat) (xa xb xc xd:Int) (k:Nat) (w:World) (hT:bE w) (h1:Rq w v1 qt) (hl:av qt k) (hk:k<=300) (hxa0: -9223372036854775808<=xa) (hxa1:xa<=9223372036854775807) (hxb0: -9223372036854775808<=xb) (hxb1:xb<=9223372036854775807):
 CQ 231 #[v1,.agg #[iv xa,iv xb,iv xc,iv xd]] w (pX qt (((xa:Int):Rat)/((xb:Int):Rat))):=by
 refine gs2 (nt:=28) Tryz.func231 rfl rfl rfl fun a st hF=>wq ?_
 obtain⟨r2,rfl⟩:=Rq.fo h1
 refine bx st hF 0 rfl rfl fun g2 w1 a st hF=>bx st hF 2 rfl rfl fun g3 w3 a st hF=>S.alloc st hF ab rfl rfl fun g4 w4 a st hF=>nq<|oL hF st 2 2 ab rfl rfl rfl rfl fun a hF=>S.ck st hF (rgc vJ (aG hF.o)) (qOf (hT.below st.bel) ⟨(h1.below st.bel),hl⟩) Rl.cl rfl fun vv6 w5 a st hF=>?_
 obtain⟨r8,rfl⟩:=Rq.fo (st.f 0 rfl).1
 refine S.ck st hF (rgc k36 (aL ao ao)) en Rl.cl rfl fun vv10 w9 a st hF=>?_
 obtain⟨r12,rfl⟩:=Rq.fo (st.f 0 rfl).1
 refine S.ck st hF (rgc dB (aL hF.p hF.o)) (dE (st.f 1 rfl) (st.f 0 rfl)) Rl.cl rfl fun vv14 w13 a st hF=>?_
 obtain⟨r16,rfl⟩:=Rq.fo (st.f 0 rfl).1
 refine S.new st hF 0 rfl ab rfl rfl rfl rfl rfl fun g5 w17 a st hF=>nq<|oL hF st 6 2 be rfl rfl rfl rfl fun a hF=>S.ck st hF (rgc Sz (aG hF.o)) (bf (xA xa xb xc xd _ hxa0 hxa1 hxb0 hxb1) (oW (n:=xa) (d:=xb) hxa0 hxa1 hxb0 hxb1)) Rl.cl rfl fun vv19 w18 a st hF=>?_
 obtain⟨r21,rfl⟩:=Rq.fo (st.f 0 rfl).1
 refine S.new st hF 0 rfl ab rfl rfl rfl rfl rfl fun g6 w22 a st hF=>ns<|gz1 8 aM st hF ab [14,15,16,17,18,19,20,7] [_,_,_,_,_,_,_,_] (by decide+kernel) rfl rfl rfl ⟨rb st ab 3 1 rfl,rb st ab 0 0 rfl,ck st vJ rfl fun _ s=>qOf (hT.below s.bel) (s.f 0 rfl),ck st dB rfl fun _ s _ x16=>dE (s.f 1 rfl) x16,rb st ab 0 0 rfl,ck st OH rfl fun _ s=>Co (hT.below s.bel) (s.f 0 rfl),ck st pz rfl fun _ s _ x17 _ x19=>qb x17 x19,ra ab rfl rfl,trivial⟩ fun r26 g7 w27 a st hF=>ns<|gz2 7 aM st hF ab 3 10 [21,22,23,24,25,26,27] [_,_,_,_,_,_,_] (by decide+kernel) rfl rfl rfl ⟨rb st ab 0 0 rfl,ck st k86 rfl fun _ s=>Jd (s.f 0 rfl),rb st ab 5 2 rfl,ck st CR rfl fun _ s=>Jp (hT.below s.bel) (s.f 2 rfl),ck st OH rfl fun _ s _ x24=>Co (hT.below s.bel) x24,ck st pz rfl fun _ s _ x22 _ x25=>qb x22 x25,ck st CR rfl fun _ s _ x26=>Jp (hT.below s.bel) x26,trivial⟩ fun r31 w32 a st hF=>?_
 refine nr<|rs Tryz.results231 st hF 11 3 ab rfl rfl rfl ?_
 exact⟨_,rfl,Rq.castM (st.f 0 rfl).1 (Hf _ _),st.bel⟩
theorem Jf (v1:Value) (n xa xb xc xd qd sg:Int) (w:World) (hT:bE w) (h1:Rq w v1 (((qd:Int):Rat)/((4:Int):Rat))) (hp:bN xa xb xc xd) (hn0: -4000000<=n) (hn1:n<=4000000) (hq0:1<=qd) (hq1:qd<=3) (hs0: -1<=sg) (hs1:sg<=1):
 CQ 181 #[iv n,.agg #[iv xa,iv xb,iv xc,iv xd],v1,iv sg] w (cr ((n:Int):Rat) (((xa:Int):Rat)/((xb:Int):Rat)) (((xc:Int):Rat)/((xd:Int):Rat)) qd sg):=by
 have st:=St.start w
 refine E.enter (nt:=56) (L:=[(0,iv n),(1,.agg #[iv xa,iv xb,iv xc,iv xd]),(2,v1),(3,iv sg)]) Tryz.func181 rfl rfl rfl (aC (i:=0) rfl (aC (i:=1) rfl (aC (i:=2) rfl (aC (i:=3) rfl cC)))) ?_
 intro a hF
 refine wq<|bx st hF 1 rfl rfl fun g5 w1 a st hF=>?_
 obtain⟨r3,rfl⟩:=Rq.fo h1
 refine bx st hF 3 rfl rfl fun g6 w2 a st hF=>S.alloc st hF ab rfl rfl fun g8 w4 a st hF=>nq<|oM hF 3 rfl rfl fun a hF=>S.ck st hF (rgc k40 (aG hF.o)) dM Rl.cl rfl fun vv6 w5 a st hF=>?_
 obtain⟨r8,rfl⟩:=Rq.fo (st.f 0 rfl).1
 refine S.new st hF 0 rfl ab rfl rfl rfl rfl rfl fun g9 w9 a st hF=>ns ?_
 refine E.rga 6 aM hF [17,18,19,20,10,11] [_,_,_,_,kn w9 [.bool false,.slice none 0 0,.slice none 0 0],kn w9 [.bool false,.slice none 0 0,.slice none 0 0]] [4,5] ⟨fun _ _ ⟨g,e,_,o⟩=>⟨g,e,o.lt⟩,⟨fun _ _ ⟨g,e,_,o⟩=>⟨g,e,o.lt⟩,trivial⟩⟩ (by decide+kernel) rfl rfl rfl ⟨rb st ab 0 0 rfl,ck st SE rfl fun _ s=>bf (xD _ (((n:Int):Rat)) 2 _ (s.f 0 rfl).1 (s.f 0 rfl).2 (by omega)) (kY (s.f 0 rfl).2 kF),rb st ab 0 0 rfl,ck st Sp rfl fun _ s=>bf (vh _ (((n:Int):Rat)) 2 _ (hT.below s.bel) (s.f 0 rfl).1 (s.f 0 rfl).2 (by omega)) (pA (s.f 0 rfl).2),ra ab rfl rfl,ra ab rfl rfl,trivial⟩ ?_
 intro a w10 hF bb hall hne
 have s0:=st
 replace st:=st.to bb
 obtain⟨vv11,hF,st⟩:=rS hall hF st 1 rfl rfl Rl.cl
 obtain⟨r13,rfl⟩:=Rq.fo (st.f 0 rfl).1
 obtain⟨vv14,hF,st⟩:=rS hall hF st 3 rfl rfl Rl.cl
 obtain⟨r16,rfl⟩:=Rq.fo (st.f 0 rfl).1
 obtain⟨_,e10,g10,rfl,ge10,o10⟩:=sS hall 4 10 rfl rfl
 replace st:=st.push o10.blk (Nat.le_trans s0.bel.size ge10) (s0.ne ge10)
 clear o10
 replace hF:=hF.add e10
 obtain⟨_,e11,g11,rfl,ge11,o11⟩:=sS hall 5 11 rfl rfl
 replace st:=st.push o11.blk (Nat.le_trans s0.bel.size ge11) (sd (fun(e:g10=g11)=>hne 4 5 10 11 rfl rfl (by decide) rfl rfl (by rw[e10,e11,e])) (s0.ne ge11))
 clear o11
 replace hF:=hF.add e11
 clear hall bb hne s0
 refine so st hF 1 1 3 ab rfl rfl rfl rfl fun w17 a st hF=>so st hF 0 0 2 ab rfl rfl rfl rfl fun w18 a st hF=>ns<|gz1 8 aM st hF ab [21,22,23,24,25,26,27,12] [_,_,_,_,_,_,_,_] (by decide+kernel) rfl rfl rfl ⟨ck st k90 rfl fun _ s=>bD (sl _),ck st O6 rfl fun _ s=>bf (oY 463 20 45461 600 _ (by decide) (by decide) (by decide) (by decide)) (oW (n:=45461) (d:=600) (by decide) (by decide) (by decide) (by decide)),rb st be 9 5 rfl,ck st O6 rfl fun _ s=>bf (oY xa xb xc xd _ (by have:=hp.c0;have:=hp.c1;have:=hp.b1;have:=hp.d1;omega) (by have:=hp.c0;have:=hp.c1;have:=hp.b1;have:=hp.d1;omega) (by have:=hp.d0;have:=hp.d1;have:=hp.b1;have:=hp.d1;omega) (by have:=hp.d0;have:=hp.d1;have:=hp.b1;have:=hp.d1;omega)) (oW (n:=xc) (d:=xd) (by have:=hp.c0;have:=hp.c1;have:=hp.b1;have:=hp.d1;omega) (by have:=hp.c0;have:=hp.c1;have:=hp.b1;have:=hp.d1;omega) (by have:=hp.d0;have:=hp.d1;have:=hp.b1;have:=hp.d1;omega) (by have:=hp.d0;have:=hp.d1;have:=hp.b1;have:=hp.d1;omega)),ck st k35 rfl fun _ s _ x22 _ x24=>gR x22 x24,ck st k36 rfl fun _ s=>en,ck st dB rfl fun _ s _ x25 _ x26=>dE x25 x26,ra ab rfl rfl,trivial⟩ fun r22 g12 w23 a st hF=>ns ?_
 refine gz1 15 aM st hF ab [28,29,30,31,32,33,34,35,36,37,38,39,40,41,13] [_,_,_,_,_,_,_,_,_,_,_,_,_,_,_] (by decide+kernel) rfl rfl rfl ⟨rb st ab 10 5 rfl,rb st ab 3 2 rfl,ck st PG rfl fun _ s=>bf (rA _ (mof (((n:Int):Rat)) pay) 9 _ (hT.below s.bel) (s.f 2 rfl).1 (s.f 2 rfl).2 (by omega)) (pj (s.f 2 rfl).2),ck st dB rfl fun _ s _ x30=>dE ⟨(h1.below s.bel),(oW (n:=qd) (d:=4) (by omega) (by omega) (by decide) (by decide))⟩ x30,rb st ab 2 1 rfl,ck st R5 rfl fun _ s=>bf (yP _ (bZ (((n:Int):Rat))) 190 _ (s.f 1 rfl).1 (s.f 1 rfl).2 (by omega) (fv bU) (eN bU)) (zv _),ck st dB rfl fun _ s _ x31 _ x33=>dE x31 x33,rb st ab 2 1 rfl,rb st be 11 6 rfl,ck st SH rfl fun _ s=>bf (tl _ (bZ (((n:Int):Rat))) xa xb xc xd 190 _ (hT.below s.bel) (s.f 1 rfl).1 (s.f 1 rfl).2 (by omega) (by have:=hp.a0;have:=hp.a1;have:=hp.b1;have:=hp.d1;omega) (by have:=hp.a0;have:=hp.a1;have:=hp.b1;have:=hp.d1;omega) (by have:=hp.b0;have:=hp.b1;have:=hp.b1;have:=hp.d1;omega) (by have:=hp.b0;have:=hp.b1;have:=hp.b1;have:=hp.d1;omega)) (xv (s.f 1 rfl).2 (oW (n:=xa) (d:=xb) (by have:=hp.a0;have:=hp.a1;have:=hp.b1;have:=hp.d1;omega) (by have:=hp.a0;have:=hp.a1;have:=hp.b1;have:=hp.d1;omega) (by have:=hp.b0;have:=hp.b1;have:=hp.b1;have:=hp.d1;omega) (by have:=hp.b0;have:=hp.b1;have:=hp.b1;have:=hp.d1;omega)) (by decide)),rm 15 rfl,ck st k40 rfl fun _ s=>dM,ck st dB rfl fun _ s _ x37 _ x39=>dE x37 x39,ck st k76 rfl fun _ s _ x34 _ x40=>pF x34 x40,ra ab rfl rfl,trivial⟩ fun r27 g13 w28 a st hF=>ns<|gz1 6 aM st hF ab [42,43,44,45,46,14] [_,_,_,_,_,_] (by decide+kernel) rfl rfl rfl ⟨ck st k36 rfl fun _ s=>en,ck st k36 rfl fun _ s=>en,ck st dB rfl fun _ s _ x42 _ x43=>dE x42 x43,rb st ab 0 0 rfl,ck st dB rfl fun _ s _ x44=>dE x44 (s.f 0 rfl),ra ab rfl rfl,trivial⟩ fun r32 g14 w33 a st hF=>?_
 refine ns<|gz2 9 aM st hF ab 6 13 [47,48,49,50,51,52,53,54,55] [_,_,_,_,_,_,_,.of (fun w v=>mC w v [((n:Int):Rat),((qd:Int):Rat)/((4:Int):Rat),((((45461:Int):Rat)/((600:Int):Rat))-(((xc:Int):Rat)/((xd:Int):Rat)))*(((1:Int):Rat)/((360:Int):Rat)), -(Ax (mof (((n:Int):Rat)) pay)),((((1577917828:Int):Rat)/((1582237828:Int):Rat))*(((1:Int):Rat)/((360:Int):Rat)))*((((((qd:Int):Rat)/((4:Int):Rat))*(vW (mof (((n:Int):Rat)) pay)))*(zD (bZ (((n:Int):Rat)))))+((pX (bZ (((n:Int):Rat))) (((xa:Int):Rat)/((xb:Int):Rat)))*(((sg:Int):Rat))))]/\av (((n:Int):Rat)) (2)/\av (((qd:Int):Rat)/((4:Int):Rat)) (2)/\av (((((45461:Int):Rat)/((600:Int):Rat))-(((xc:Int):Rat)/((xd:Int):Rat)))*(((1:Int):Rat)/((360:Int):Rat))) (7)/\av (-(Ax (mof (((n:Int):Rat)) pay))) (127)/\av (((((1577917828:Int):Rat)/((1582237828:Int):Rat))*(((1:Int):Rat)/((360:Int):Rat)))*((((((qd:Int):Rat)/((4:Int):Rat))*(vW (mof (((n:Int):Rat)) pay)))*(zD (bZ (((n:Int):Rat)))))+((pX (bZ (((n:Int):Rat))) (((xa:Int):Rat)/((xb:Int):Rat)))*(((sg:Int):Rat))))) (579)) (fun w w' v h hb=>⟨mC.mono _ w w' v h.1 hb,h.2⟩),_] (by decide+kernel) rfl rfl rfl ⟨rb st ab 10 5 rfl,rb st ab 14 7 rfl,rb st ab 4 2 rfl,rb st ab 7 4 rfl,ck st Sn rfl fun _ s=>bf (wt _ (mof (((n:Int):Rat)) pay) 9 _ (hT.below s.bel) (s.f 4 rfl).1 (s.f 4 rfl).2 (by omega)) (xT (s.f 4 rfl).2),ck st k86 rfl fun _ s _ x51=>Jd x51,rb st ab 0 0 rfl,(by intro a' w' hF' hb hd;have e47:=tE hd 0 rfl;have e48:=tE hd 1 rfl;have e49:=tE hd 2 rfl;obtain⟨v52_0,e52,h52_1⟩:=tH hd 3 rfl;have e53:=tE hd 4 rfl;obtain⟨vq,w2,hr,bb,hq⟩:=Hc ((st.f 5 rfl).below hb).1 (h1.below (aF st.bel hb)) ((st.f 2 rfl).below hb).1 h52_1.1 ((st.f 0 rfl).below hb).1;exact bX (aR rfl) (bG.vals (bO (J5 e47 e48 e49 e52 e53) hr) ⟨⟨hq,((st.f 5 rfl).below hb).2,(oW (n:=qd) (d:=4) (by omega) (by omega) (by decide) (by decide)),((st.f 2 rfl).below hb).2,h52_1.2,((st.f 0 rfl).below hb).2⟩,bb,(fun h=>absurd h (by decide))⟩)),ck st SK rfl fun _ s _ x54=>bf (QS _ (((n:Int):Rat)) (((qd:Int):Rat)/((4:Int):Rat)) (((((45461:Int):Rat)/((600:Int):Rat))-(((xc:Int):Rat)/((xd:Int):Rat)))*(((1:Int):Rat)/((360:Int):Rat))) (-(Ax (mof (((n:Int):Rat)) pay))) (((((1577917828:Int):Rat)/((1582237828:Int):Rat))*(((1:Int):Rat)/((360:Int):Rat)))*((((((qd:Int):Rat)/((4:Int):Rat))*(vW (mof (((n:Int):Rat)) pay)))*(zD (bZ (((n:Int):Rat)))))+((pX (bZ (((n:Int):Rat))) (((xa:Int):Rat)/((xb:Int):Rat)))*(((sg:Int):Rat))))) (max (max (max 2 7) 127) 579) _ x54.1 (x54.2.1.up _ (by omega)) (x54.2.2.1.up _ (by omega)) (x54.2.2.2.1.up _ (by omega)) (x54.2.2.2.2.1.up _ (by omega)) (x54.2.2.2.2.2.up _ (by omega)) (by omega)) (bP (bP (bP (bP x54.2.1 x54.2.2.1) x54.2.2.2.1) x54.2.2.2.2.1) x54.2.2.2.2.2),trivial⟩ fun r37 w38 a st hF=>nr<|rs Tryz.results181 st hF 14 6 ab rfl rfl rfl ?_
 exact⟨_,rfl,Rq.castM (st.f 0 rfl).1 (JM _ _ _ qd sg _ rfl),st.bel⟩
theorem AV (v1:Value) (n xa xb xc xd:Int) (w:World) (hT:bE w) (h1:Rq w v1 (((1:Int):Rat)/((4:Int):Rat))) (hp:bN xa xb xc xd) (hn0: -4000000<=n) (hn1:n<=4000000):
 CQ 181 #[iv n,.agg #[iv xa,iv xb,iv xc,iv xd],v1,iv 1] w (gK n xa xb xc xd):=Jf v1 n xa xb xc xd 1 1 w hT h1 hp hn0 hn1 (by decide) (by decide) (by decide) (by decide)
theorem CO (n xa xb xc xd:Int) (w:World) (hT:bE w) (hp:bN xa xb xc xd) (hn0: -4000000<=n) (hn1:n<=4000000):
 CQ 119 #[iv n,.agg #[iv xa,iv xb,iv xc,iv xd]] w (gK n xa xb xc xd):=by
 refine gs2 (nt:=9) Tryz.func119 rfl rfl rfl fun a st hF=>wq<|bx st hF 1 rfl rfl fun g3 w1 a st hF=>S.alloc st hF ab rfl rfl fun g4 w2 a st hF=>ns<|gz2 4 aM st hF ab 0 0 [5,6,7,8] [_,_,_,_] (by decide+kernel) rfl rfl rfl ⟨rm 2 rfl,rb st be 1 1 rfl,ck st k36 rfl fun _ s=>en,ck st SB rfl fun _ s _ x7=>bf (AV _ n xa xb xc xd _ (hT.below s.bel) x7.1 (by first|assumption|constructor<;>omega) (by omega) (by omega)) (vw (by first|assumption|constructor<;>omega) (by omega) (by omega)),trivial⟩ fun r6 w7 a st hF=>nr<|rs Tryz.results119 st hF 1 0 ab rfl rfl rfl ?_
 exact⟨_,rfl,(st.f 0 rfl).1,st.bel⟩
theorem lR (n xa xb xc xd:Int) (w:World) (hT:bE w) (hp:bN xa xb xc xd) (hn0: -4000000<=n) (hn1:n<=4000000):
 CQ 55 #[iv n,.agg #[iv xa,iv xb,iv xc,iv xd]] w (dU (gK n xa xb xc xd)):=by
 refine gs2 (nt:=9) Tryz.func55 rfl rfl rfl fun a st hF=>wq<|bx st hF 1 rfl rfl fun g3 w1 a st hF=>S.alloc st hF ab rfl rfl fun g4 w2 a st hF=>nq<|oM hF 2 rfl rfl fun a hF=>oL hF st 2 1 be rfl rfl rfl rfl fun a hF=>S.ck st hF (rgc SJ (aL hF.p hF.o)) (bf (CO n xa xb xc xd _ (hT.below st.bel) (by first|assumption|constructor<;>omega) (by omega) (by omega)) (vw (by first|assumption|constructor<;>omega) (by omega) (by omega))) Rl.cl rfl fun vv4 w3 a st hF=>?_
 obtain⟨r6,rfl⟩:=Rq.fo (st.f 0 rfl).1
 refine S.ck st hF (rgc SD (aG hF.o)) (bf (A0 _ _ 90 _ (st.f 0 rfl).1 (st.f 0 rfl).2 (by omega)) (mP (by first|assumption|constructor<;>omega) (by omega) (by omega))) Rl.cl rfl fun vv8 w7 a st hF=>?_
 obtain⟨r10,rfl⟩:=Rq.fo (st.f 0 rfl).1
 refine so st hF 0 4 0 ab rfl rfl rfl rfl fun w11 a st hF=>nr<|rs Tryz.results55 st hF 4 0 ab rfl rfl rfl ?_
 exact⟨_,rfl,(st.f 0 rfl).1,st.bel⟩
end Go.Proofs.YtgdpkknapcgcbaaGreatDoor
