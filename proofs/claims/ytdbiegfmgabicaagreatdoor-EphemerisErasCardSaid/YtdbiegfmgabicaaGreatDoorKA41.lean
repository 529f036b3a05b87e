import Derived.Test.YtdbiegfmgabicaaGreatDoorKA39
import Derived.Test.YtdbiegfmgabicaaGreatDoorKA40
import Derived.Laws.StructEq
namespace Go.Proofs.YtdbiegfmgabicaaGreatDoor
open Go.RowKit
set_option maxRecDepth 100000
set_option linter.unusedVariables false
set_option maxHeartbeats 8000000
theorem LN:(Tryz.prog.info? 58).map (·.size)=some 4:=by kernel_rfl
theorem Cp:(Tryz.prog.info? 58).bind (·.zero)=some (.agg #[.int .i64 0,.int .i64 0,.int .i64 0,.int .i64 0]):=by kernel_rfl
theorem Ev {w:World} {g o p:Nat} (hp:o+0=p):(Instr.fieldAt 58 (.pointer (some ⟨g,o,none⟩)) 0).run Tryz.prog w= .ok (.pointer (some ⟨g,p,none⟩)) w:=br Tryz.underlying58 rfl rfl cM rfl p hp
theorem Fp {w:World} {g o p:Nat} (hp:o+1=p):(Instr.fieldAt 58 (.pointer (some ⟨g,o,none⟩)) 1).run Tryz.prog w= .ok (.pointer (some ⟨g,p,none⟩)) w:=br Tryz.underlying58 rfl rfl cM rfl p hp
theorem vL {w:World} {g o p:Nat} (hp:o+2=p):(Instr.fieldAt 58 (.pointer (some ⟨g,o,none⟩)) 2).run Tryz.prog w= .ok (.pointer (some ⟨g,p,none⟩)) w:=br Tryz.underlying58 rfl rfl fB rfl p hp
theorem Fb {w:World} {g o p:Nat} (hp:o+3=p):(Instr.fieldAt 58 (.pointer (some ⟨g,o,none⟩)) 3).run Tryz.prog w= .ok (.pointer (some ⟨g,p,none⟩)) w:=br Tryz.underlying58 rfl rfl fB rfl p hp
theorem xT (z00:Int) (z10:Int) (z20:Int) (z30:Int) (w:World):(Instr.build 58 #[(0,.int .i64 z00),(1,.int .i64 z10),(2,.int .i64 z20),(3,.int .i64 z30)]).run Tryz.prog w= .ok (.agg #[.int .i64 z00,.int .i64 z10,.int .i64 z20,.int .i64 z30]) w:=by
 have hz:=cI Cp w
 have h_int:∀w,(sizeOf 3).run Tryz.prog w= .ok 1 w:=fun w=>bn fB w
 have h_i64:∀w,(sizeOf 2).run Tryz.prog w= .ok 1 w:=fun w=>bn cM w
 simp only [Instr.build,Sem.run_bind,hz,Result.andThen_ok,run_underlying Tryz.underlying58,List.mapM_toArray,List.mapM_cons,List.mapM_nil,Sem.run_map,h_i64,h_int,Sem.run_pure]
 rfl
theorem LR:(Tryz.prog.info? 78).map (·.size)=some 4:=by kernel_rfl
theorem CH:(Tryz.prog.info? 78).bind (·.zero)=some (.agg #[.int .i64 0,.int .i64 0,.int .i64 0,.int .i64 0]):=by kernel_rfl
theorem xg {w:World} {g o p:Nat} (hp:o+2=p):(Instr.fieldAt 78 (.pointer (some ⟨g,o,none⟩)) 2).run Tryz.prog w= .ok (.pointer (some ⟨g,p,none⟩)) w:=br Tryz.underlying78 rfl rfl fB rfl p hp
theorem E3 {w:World} {g o p:Nat} (hp:o+3=p):(Instr.fieldAt 78 (.pointer (some ⟨g,o,none⟩)) 3).run Tryz.prog w= .ok (.pointer (some ⟨g,p,none⟩)) w:=br Tryz.underlying78 rfl rfl fB rfl p hp
theorem xU (z00:Int) (z10:Int) (z20:Int) (z30:Int) (w:World):(Instr.build 78 #[(0,.int .i64 z00),(1,.int .i64 z10),(2,.int .i64 z20),(3,.int .i64 z30)]).run Tryz.prog w= .ok (.agg #[.int .i64 z00,.int .i64 z10,.int .i64 z20,.int .i64 z30]) w:=by
 have hz:=cI CH w
 have h_int:∀w,(sizeOf 3).run Tryz.prog w= .ok 1 w:=fun w=>bn fB w
 simp only [Instr.build,Sem.run_bind,hz,Result.andThen_ok,run_underlying Tryz.underlying78,List.mapM_toArray,List.mapM_cons,List.mapM_nil,Sem.run_map,h_int,Sem.run_pure]
 rfl
theorem gc:Ty Tryz.prog 58 4 [.int .i64 0,.int .i64 0,.int .i64 0,.int .i64 0]:=⟨⟨_,Tryz.underlying58,rfl⟩,LN,Cp⟩
theorem kU:Ty Tryz.prog 78 4 [.int .i64 0,.int .i64 0,.int .i64 0,.int .i64 0]:=⟨⟨_,Tryz.underlying78,rfl⟩,LR,CH⟩
theorem nQ (z0 z1 z2 z3:Int) (w:World) (h0:0≤z2) (h1:z2≤11):
 Calls Tryz.prog 21 #[.agg #[.int .i64 z0,.int .i64 z1,.int .i64 z2,.int .i64 z3]] w (aG w (.int .i64 ((z2+1)%12+1))):=by
 have st:=St.start w
 refine go1 (nt:=8) Tryz.func21 rfl rfl rfl fun a hF=>?_
 refine wq ?_
 refine bx st hF 0 rfl rfl fun g1 w1 a st hF=>?_
 refine oC hF rfl fun a hF=>nq ?_
 refine oV hF (av hF.p (vL (p:=2) rfl)) rfl fun a hF=>oV hF (au hF.o (bA (v:= .int .i64 z2) (st.bk 0 rfl) rfl)) rfl fun a hF=>oV hF (aq hF.o ar ab (bj (by omega) (by omega))) rfl fun a hF=>oV hF (aq hF.o ar ab (kD (a:=z2+1) (b:=12) (by omega) (by omega))) rfl fun a hF=>oV hF (aq hF.o ar ab (bj (by omega) (by omega))) rfl fun a hF=>oE hF 0 rfl rfl fun a hF=>nr ?_
 have bel:=st.bel
 refine rt Tryz.results21 hF 0 rfl ?_
 exact⟨rfl,bel⟩
theorem rJ (z0 z1 z2 z3:Int) (w:World):
 Calls Tryz.prog 22 #[.agg #[.int .i64 z0,.int .i64 z1,.int .i64 z2,.int .i64 z3]] w (aG w (.bool (decide (z2=z3)))):=by
 have st:=St.start w
 refine go1 (nt:=8) Tryz.func22 rfl rfl rfl fun a hF=>?_
 refine wq ?_
 refine bx st hF 0 rfl rfl fun g1 w1 a st hF=>?_
 refine oC hF rfl fun a hF=>nq ?_
 refine oV hF (av hF.p (vL (p:=2) rfl)) rfl fun a hF=>oV hF (au hF.o (bA (v:= .int .i64 z2) (st.bk 0 rfl) rfl)) rfl fun a hF=>oV hF (av (hF.at 3 rfl) (Fb (p:=3) rfl)) rfl fun a hF=>oV hF (au hF.o (bA (v:= .int .i64 z3) (st.bk 0 rfl) rfl)) rfl fun a hF=>oU hF 2 0 (a6 (c:=decide (z2=z3)) rfl) rfl rfl rfl fun a hF=>oE hF 0 rfl rfl fun a hF=>nr ?_
 have bel:=st.bel
 refine rt Tryz.results22 hF 0 rfl ?_
 exact⟨rfl,bel⟩
theorem uK (v1:Value) (qt:Rat) (k:Nat) (w:World) (hT:bG w) (h1:Rq w v1 qt) (hl:ah qt k) (hk:k≤100):Calls Tryz.prog 62 #[v1] w (aG w (.int .i64 (kaV qt%12))):=by
 rw[←tb]
 exact ud v1 qt k w hT h1 hl hk
theorem oe (n:Int) (w:World) (hT:bG w) (hn0: -100000000≤n) (hn1:n≤100000000):
 Calls Tryz.prog 85 #[.int .i64 n] w (aG w (.int .i64 (smV n%12))):=by
 have st:=St.start w
 refine go1 (nt:=12) Tryz.func85 rfl rfl rfl fun a hF=>?_
 refine wq ?_
 refine oC hF rfl fun a hF=>nq ?_
 refine oM hF 1 rfl rfl fun a hF=>?_
 refine S.call2 st hF (rgc NN (aD hF.o)) (Ca n _ (hT.below st.bel) (by omega) (by omega)) (fun _ _ h=>h) Rq.cl Rq.cl rfl rfl rfl rfl fun vv2 vv3 w1 a st hF=>?_
 obtain⟨r6,rfl⟩:=Rq.fo (st.f 0 rfl)
 obtain⟨r7,rfl⟩:=Rq.fo (st.f 1 rfl)
 refine oM hF 0 rfl rfl fun a hF=>oV hF (aR (v:= r6.v) hF.o rfl) rfl fun a hF=>oV hF (aR (v:= r7.v) hF.p rfl) rfl fun a hF=>?_
 refine S.alloc st hF aa rfl rfl fun g3 w8 a st hF=>?_
 refine S.alloc st hF aa rfl rfl fun g4 w9 a st hF=>?_
 refine so st hF 1 1 3 aa rfl rfl rfl rfl fun w10 a st hF=>?_
 refine so st hF 0 0 2 aa rfl rfl rfl rfl fun w11 a st hF=>?_
 refine nq ?_
 refine oL hF st 0 0 aa rfl rfl rfl rfl fun a hF=>?_
 refine cX st hF (rgc k62 (aD hF.o)) (uK _ _ 14 _ (hT.below st.bel) (st.f 1 rfl) (yG (p:=wax) (i:=2) (j:=2) (bP (n:=n) (by omega) (by omega)) (ol (n:=n) (by omega) (by omega)) (by decide)) (by omega)) rfl fun w12 a st hF=>?_
 refine oE hF 0 rfl rfl fun a hF=>nr ?_
 have bel:=st.bel
 refine rt Tryz.results85 hF 0 rfl ?_
 exact⟨bS rfl,bel⟩
theorem FU (n:Int) (w:World) (hT:bG w) (hn0: -99000000≤n) (hn1:n≤99000000) (hc:bw n=true):
 Calls Tryz.prog 44 #[.int .i64 n] w (aG w (.agg #[.int .i64 n,.int .i64 (aQ n),.int .i64 (smV n%12),.int .i64 (smV (aQ n)%12)])):=by
 have hns:=cT hc
 have st:=St.start w
 refine go1 (nt:=13) Tryz.func44 rfl rfl rfl fun a hF=>?_
 refine wq ?_
 refine S.alloc st hF gc rfl rfl fun g2 w1 a st hF=>?_
 refine nq ?_
 refine oM hF 1 rfl rfl fun a hF=>?_
 refine cX st hF (rgc k84 (aD hF.o)) (zP n _ (hT.below st.bel) (by omega) (by omega) hc) rfl fun w2 a st hF=>?_
 refine oA hF 0 rfl rfl fun a hF=>nq ?_
 refine oM hF 4 rfl rfl fun a hF=>oM hF 1 rfl rfl fun a hF=>oM hF 6 rfl rfl fun a hF=>?_
 refine cX st hF (rgc k85 (aD hF.o)) (oe n _ (hT.below st.bel) (by omega) (by omega)) rfl fun w3 a st hF=>?_
 refine oM hF 4 rfl rfl fun a hF=>?_
 refine cX st hF (rgc k85 (aD hF.o)) (oe (aQ n) _ (hT.below st.bel) (by omega) (by omega)) rfl fun w4 a st hF=>?_
 refine oV hF (bh (pi (hF.at 5 rfl) (hF.at 4 rfl) hF.q hF.o) (xT _ _ _ _ _)) rfl fun a hF=>?_
 refine S.stoI st hF 0 rfl (hF.at 10 rfl) hF.o gc rfl rfl rfl fun w5 a st hF=>?_
 refine nr ?_
 refine rs Tryz.results44 st hF 10 0 gc rfl rfl rfl ?_
 have bel:=st.bel
 exact⟨rfl,bel⟩
theorem E7 (v1:Value) (qt:Rat) (k:Nat) (w:World) (hT:bG w) (h1:Rq w v1 qt) (hl:ah qt k) (hk:k≤100) (hf0: -90000000≤Rat.floor qt) (hf1:Rat.floor qt≤90000000):
 Calls Tryz.prog 20 #[v1] w (aG w (.agg #[.int .i64 (bJ qt),.int .i64 (aQ (bJ qt)),.int .i64 (smV (bJ qt)%12),.int .i64 (smV (aQ (bJ qt))%12)])):=by
 have hlv:=qV qt
 have st:=St.start w
 refine go1 (nt:=6) Tryz.func20 rfl rfl rfl fun a hF=>?_
 refine wq ?_
 obtain⟨r2,rfl⟩:=Rq.fo h1
 refine bx st hF 0 rfl rfl fun g1 w1 a st hF=>?_
 refine S.alloc st hF gc rfl rfl fun g2 w3 a st hF=>?_
 refine nq ?_
 refine oL hF st 1 1 aa rfl rfl rfl rfl fun a hF=>?_
 refine cX st hF (rgc k45 (aD hF.o)) (z8 _ (qt) k _ (hT.below st.bel) (h1.below st.bel) hl (by omega) (by omega) (by omega)) rfl fun w4 a st hF=>?_
 refine cX st hF (rgc k44 (aD hF.o)) (FU (bJ (qt)) _ (hT.below st.bel) (by omega) (by omega) (dU qt)) rfl fun w5 a st hF=>?_
 refine S.stoI st hF 0 rfl (hF.at 3 rfl) hF.o gc rfl rfl rfl fun w6 a st hF=>?_
 refine nr ?_
 refine rs Tryz.results20 st hF 3 0 gc rfl rfl rfl ?_
 have bel:=st.bel
 exact⟨rfl,bel⟩
theorem Hu (n:Int):(((1024*n+hlv wax ((n:Int):Rat) (((n+1:Int)):Rat) 10+1:Int)):Rat)/((1024:Int):Rat)=nmR n:=by
 rw[show 1024*n+hlv wax ((n:Int):Rat) (((n+1:Int)):Rat) 10+1=1024*n+(hlv wax ((n:Int):Rat) (((n+1:Int)):Rat) 10+1) by omega,yQ]
 rfl
theorem nK (n:Int) (w:World) (hn0: -100000000≤n) (hn1:n≤100000000):
 Calls Tryz.prog 118 #[.int .i64 n] w (aG w (.int .i64 (smV n%12))):=by
 have st:=St.start w
 refine go1 (nt:=14) Tryz.func118 rfl rfl rfl fun a hF=>?_
 refine wq ?_
 refine oC hF rfl fun a hF=>nq ?_
 refine oM hF 1 rfl rfl fun a hF=>oV hF (aq ar hF.o ab (eL (by omega) (by omega))) rfl fun a hF=>oM hF 3 rfl rfl fun a hF=>?_
 refine cX st hF (rgc Oy (aD hF.o)) (xx n _ (by omega) (by omega)) rfl fun w1 a st hF=>?_
 have hmn15:=gE wax ((n:Int):Rat) (((n+1:Int)):Rat) 10
 refine oV hF (aq hF.q hF.o ab (bj (by omega) (by omega))) rfl fun a hF=>oV hF (aq hF.o ar ab (bj (by omega) (by omega))) rfl fun a hF=>?_
 refine S.ck st hF (rgc k71 (aI hF.o ar)) (aJ (bD (((1024*n)+(hlv wax ((n:Int):Rat) (((n+1:Int)):Rat) 10))+1) (1024) _ (by omega) (by omega) (by decide) (by decide)) (ah.up (aK (ao (by omega) (by omega)) (ao (by decide) (by decide))) 2 (by decide))) Rh.cl rfl fun vv3 w2 a st hF=>?_
 obtain⟨r5,rfl⟩:=Rr.fo (st.f 0 rfl).1
 refine S.new st hF 0 rfl ag rfl rfl rfl rfl rfl fun g3 w6 a st hF=>?_
 refine nq ?_
 refine oL hF st 0 0 ag rfl rfl rfl rfl fun a hF=>?_
 refine S.ck st hF (rgc k79 (aD hF.o)) (zS (st.f 0 rfl)) Rh.cl rfl fun vv8 w7 a st hF=>?_
 obtain⟨r10,rfl⟩:=Rr.fo (st.f 0 rfl).1
 refine cX st hF (rgc k40 (aI hF.o ar)) (l7 _ _ 422 106 12 _ (st.f 0 rfl).1 (st.f 0 rfl).2 (by omega) (by omega) (by omega) (by omega) (by omega)) rfl fun w11 a st hF=>?_
 have hpt71133:=gW (x:=rmod (dz (((((1024*n)+(hlv wax ((n:Int):Rat) (((n+1:Int)):Rat) 10))+1:Int):Rat)/((1024:Int):Rat))) ((360:Int):Rat)) (n:=12) (by omega) (dE bC) (cZ bC)
 refine oE hF 0 rfl rfl fun a hF=>nr ?_
 have bel:=st.bel
 refine rt Tryz.results118 hF 0 rfl ?_
 refine⟨bS ?_,bel⟩
 rw[Hu]
 show _=kaV (nmR n)%12
 rw[←tb]
 exact congrArg (fun x=>prt x 12) (pO (dE bC) (cZ bC))
theorem Bd (n:Int) (w:World) (hn0: -99000000≤n) (hn1:n≤99000000) (hc:bw n=true):
 Calls Tryz.prog 66 #[.int .i64 n] w (aG w (.agg #[.int .i64 n,.int .i64 (aQ n),.int .i64 (smV n%12),.int .i64 (smV (aQ n)%12)])):=by
 have hns:=cT hc
 have st:=St.start w
 refine go1 (nt:=13) Tryz.func66 rfl rfl rfl fun a hF=>?_
 refine wq ?_
 refine S.alloc st hF kU rfl rfl fun g2 w1 a st hF=>?_
 refine nq ?_
 refine oM hF 1 rfl rfl fun a hF=>?_
 refine cX st hF (rgc NM (aD hF.o)) (xS n _ (by omega) (by omega) hc) rfl fun w2 a st hF=>?_
 refine oA hF 0 rfl rfl fun a hF=>nq ?_
 refine oM hF 4 rfl rfl fun a hF=>oM hF 1 rfl rfl fun a hF=>oM hF 6 rfl rfl fun a hF=>?_
 refine cX st hF (rgc LF (aD hF.o)) (nK n _ (by omega) (by omega)) rfl fun w3 a st hF=>?_
 refine oM hF 4 rfl rfl fun a hF=>?_
 refine cX st hF (rgc LF (aD hF.o)) (nK (aQ n) _ (by omega) (by omega)) rfl fun w4 a st hF=>?_
 refine oV hF (bh (pi (hF.at 5 rfl) (hF.at 4 rfl) hF.q hF.o) (xU _ _ _ _ _)) rfl fun a hF=>?_
 refine S.stoI st hF 0 rfl (hF.at 10 rfl) hF.o kU rfl rfl rfl fun w5 a st hF=>?_
 refine nr ?_
 refine rs Tryz.results66 st hF 10 0 kU rfl rfl rfl ?_
 have bel:=st.bel
 exact⟨rfl,bel⟩
theorem Bg (v1:Value) (q1:Rat) (k i:Nat) (w:World) (h1:Rr w v1 q1 k) (li1:ah q1 i) (hp:1≤k) (hk:k≤300) (hi:i≤3) (hf0: -90000000≤Rat.floor q1) (hf1:Rat.floor q1≤90000000):
 Calls Tryz.prog 35 #[v1] w (aG w (.agg #[.int .i64 (bJ q1),.int .i64 (aQ (bJ q1)),.int .i64 (smV (bJ q1)%12),.int .i64 (smV (aQ (bJ q1))%12)])):=by
 obtain⟨r1,rfl⟩:=h1.fo
 have hlv:=qV q1
 have st:=St.start w
 refine go1 (nt:=6) Tryz.func35 rfl rfl rfl fun a hF=>?_
 refine wq ?_
 refine bx st hF 0 rfl rfl fun g1 w1 a st hF=>?_
 refine S.alloc st hF kU rfl rfl fun g2 w2 a st hF=>?_
 refine nq ?_
 refine oL hF st 1 1 ag rfl rfl rfl rfl fun a hF=>?_
 refine cX st hF (rgc k67 (aD hF.o)) (xC _ (q1) k i _ (h1.below st.bel) li1 (by omega) (by omega) (by omega) (by omega) (by omega)) rfl fun w3 a st hF=>?_
 have hlv15:=qV (q1)
 refine cX st hF (rgc k66 (aD hF.o)) (Bd (bJ (q1)) _ (by omega) (by omega) (dU q1)) rfl fun w4 a st hF=>?_
 refine S.stoI st hF 0 rfl (hF.at 3 rfl) hF.o kU rfl rfl rfl fun w5 a st hF=>?_
 refine nr ?_
 refine rs Tryz.results35 st hF 3 0 kU rfl rfl rfl ?_
 have bel:=st.bel
 exact⟨rfl,bel⟩
theorem JY (w:World):∃g w',(Instr.buildSlice 33 12 #[(0,.int .i64 2),(1,.int .i64 3),(2,.int .i64 4),(3,.int .i64 5),(4,.int .i64 6),(5,.int .i64 7),(6,.int .i64 8),(7,.int .i64 9),(8,.int .i64 10),(9,.int .i64 11),(10,.int .i64 12),(11,.int .i64 1)]).run Tryz.prog w= .ok (.slice (some ⟨g,0,none⟩) 12 12) w'∧Below w.heap.size w w'∧Blk w' g (cl .i64 [2,3,4,5,6,7,8,9,10,11,12,1]):=by
 have hb:=ia (w:=w) (cs:=cl .i64 [2,3,4,5,6,7,8,9,10,11,12,1]) 3
 refine⟨w.heap.size,w.alloc (.cells (cl .i64 [2,3,4,5,6,7,8,9,10,11,12,1]).toArray 3),?_,hb.2,hb.1⟩
 have hs:=bn (P:=Tryz.prog) (T:=3) (n:=1) fB w
 simp[Instr.buildSlice,go_sem,hs,Instr.fill,Value.cells,newRow,cl]
theorem KH {a:Act} {x0 x1 x2 x3 x4 x5 x6 x7 x8 x9 x10 x11:Value}:(#[(0,Operand.const x0),(1,Operand.const x1),(2,Operand.const x2),(3,Operand.const x3),(4,Operand.const x4),(5,Operand.const x5),(6,Operand.const x6),(7,Operand.const x7),(8,Operand.const x8),(9,Operand.const x9),(10,Operand.const x10),(11,Operand.const x11)].map fun(p:Nat×Operand)=>(p.1,a.eval p.2))=#[(0,x0),(1,x1),(2,x2),(3,x3),(4,x4),(5,x5),(6,x6),(7,x7),(8,x8),(9,x9),(10,x10),(11,x11)]:=by simp[Act.eval]
theorem LW {k:Int} (h0:0≤k) (h1:k<12):(cl .i64 [2,3,4,5,6,7,8,9,10,11,12,1])[k.toNat]?=some (.int .i64 ((k+1)%12+1)):=by
 have h:k=0∨k=1∨k=2∨k=3∨k=4∨k=5∨k=6∨k=7∨k=8∨k=9∨k=10∨k=11:=by omega
 rcases h with rfl|rfl|rfl|rfl|rfl|rfl|rfl|rfl|rfl|rfl|rfl|rfl <;> rfl
theorem Dx {w:World} {g n c:Nat} {i:Int} (h0:0≤i) (h1:i<n):(Instr.indexAt 33 (.slice (some ⟨g,0,none⟩) n c) (.int .i64 i)).run Tryz.prog w= .ok (.pointer (some ⟨g,i.toNat,none⟩)) w:=by
 simp[Instr.indexAt,asIntOf,run_underlying Tryz.underlying33,Sem.run_bind,h0,h1,Addr.add_mid]
theorem ED {v1:Value} {q1:Rat} {k i:Nat} {L:Int} (w:World) (h1:Rr w v1 q1 k) (li1:ah q1 i) (hp:1≤k) (hk:k≤300) (hi:i≤3) (hf0: -90000000≤Rat.floor q1) (hf1:Rat.floor q1≤90000000) (e:bJ q1=L):Calls Tryz.prog 35 #[v1] w (aG w (.agg #[.int .i64 L,.int .i64 (aQ L),.int .i64 (smV L%12),.int .i64 (smV (aQ L)%12)])):=by
 subst e
 exact Bg v1 q1 k i w h1 li1 hp hk hi hf0 hf1
theorem um (s:Int) (w:World) (h0:0≤s) (h1:s≤11):
 Calls Tryz.prog 37 #[.int .i64 s] w (aG w (.int .i64 ((s+1)%12+1))):=by
 have bel:Below w.heap.size w w:=Below.refl _ _
 refine go1 (nt:=9) Tryz.func37 rfl rfl rfl fun a hF=>?_
 refine wq ?_
 refine oC hF rfl fun a hF=>nq ?_
 obtain⟨gl2,w1,hr,bb,ogl2⟩:=JY w
 refine oV hF (cV KH hr) rfl fun a hF=>?_
 clear hr
 replace bel:=aC bel bb
 clear bb
 refine oM hF 2 rfl rfl fun a hF=>oV hF (bI (aI hF.o ar) mt) rfl fun a hF=>oV hF (bI (aI ar hF.o) rT) rfl fun a hF=>oV hF (eI (hF.at 3 rfl) hF.o (Dx (by omega) (by omega))) rfl fun a hF=>oV hF (au hF.o (bA (v:= .int .i64 ((max 0 (min s 11)+1)%12+1)) ogl2 (LW (by omega) (by omega)))) rfl fun a hF=>oE hF 0 rfl rfl fun a hF=>nr ?_
 refine rt Tryz.results37 hF 0 rfl ?_
 refine⟨bS ?_,bel⟩
 omega
theorem k4 (n xa xb xc xd X:Int) (v1:Value) (w:World) (ho:RPl w v1 (((xa:Int):Rat)/((xb:Int):Rat)) (((xc:Int):Rat)/((xd:Int):Rat)) 2) (hok:cf xa xb xc xd) (hn0: -3850000≤n) (hn1:n≤3850000) (hX:amX n xa xb xc xd=X):
 Calls Tryz.prog 17 #[.int .i64 n,v1] w (aG w (.int .i64 (X%30+1))):=by
 obtain⟨bpx,adpx,npx,cpx,aepx,mpx,dpx,bpy,adpy,npy,cpy,aepy,mpy,dpy,rfl,hpx,hpy⟩:=RPl.shape ho
 have ho:RPl w (.agg #[.bool bpx,.slice adpx npx cpx,.slice aepx mpx dpx,.bool bpy,.slice adpy npy cpy,.slice aepy mpy dpy]) (((xa:Int):Rat)/((xb:Int):Rat)) (((xc:Int):Rat)/((xd:Int):Rat)) 2:=⟨_,_,_,_,_,_,_,_,_,_,_,_,_,_,rfl,hpx,hpy⟩
 have st:=St.start w
 refine go2 (nt:=11) Tryz.func17 rfl rfl rfl fun a hF=>?_
 refine wq ?_
 refine bx st hF 1 rfl rfl fun g3 w1 a st hF=>?_
 refine oC hF rfl fun a hF=>nq ?_
 refine oM hF 2 rfl rfl fun a hF=>oL hF st 2 0 gC rfl rfl rfl rfl fun a hF=>?_
 refine S.ck st hF (rgc k36 (aI hF.p hF.o)) (aJ (ma n xa xb xc xd _ _ (ho.below st.bel) (by first|assumption|constructor<;>omega) (by omega) (by omega)) (gj (by first|assumption|constructor<;>omega) (by omega) (by omega))) Rh.cl rfl fun vv3 w2 a st hF=>?_
 obtain⟨r5,rfl⟩:=Rr.fo (st.f 0 rfl).1
 refine S.ck st hF (rgc k41 (aD hF.o)) (pH (st.f 0 rfl)) Rh.cl rfl fun vv7 w6 a st hF=>?_
 obtain⟨r9,rfl⟩:=Rr.fo (st.f 0 rfl).1
 refine cX st hF (rgc k40 (aI hF.o ar)) (l7 _ _ 1886 228 30 _ (st.f 0 rfl).1 (st.f 0 rfl).2 (by omega) (by omega) (by omega) (by omega) (by omega)) rfl fun w10 a st hF=>?_
 have hpt54936:=gW (x:=rmod (bi (bX (dN n xa xb xc xd))) ((360:Int):Rat)) (n:=30) (by omega) (dE bC) (cZ bC)
 refine oV hF (aq hF.o ar ab (bj (by omega) (by omega))) rfl fun a hF=>oE hF 0 rfl rfl fun a hF=>nr ?_
 have bel:=st.bel
 refine rt Tryz.results17 hF 0 rfl ?_
 refine⟨bS ?_,bel⟩
 rw[←hX]
 show _=tiV _%30+1
 rw[←B4]
 exact congrArg (fun x=>prt x 30+1) (pO (dE bC) (cZ bC))
theorem xu (n m:Int) (w:World) (hn0: -3800000≤n) (hn1:n≤3800000) (hm:1≤m):
 Calls Tryz.prog 38 #[.int .i64 n,.int .i64 m] w (aG w (.int .i64 (j4 n m))):=by
 have hka:=uD (n:=n+180) (by omega) (by omega)
 have hkb:=uD (n:=n-1) (by omega) (by omega)
 have st:=St.start w
 refine go2 (nt:=17) Tryz.func38 rfl rfl rfl fun a hF=>?_
 refine wq ?_
 refine oC hF rfl fun a hF=>ns ?_
 refine wq ?_
 refine oM hF 2 rfl rfl fun a hF=>?_
 by_cases hc1:m<3
 ·first
  |(exfalso;omega)
  |(refine oT hF 0 (bM (c:=true) (aL hc1)) rfl rfl fun a hF=>?_
    refine E.nil ?_
    refine wp_cond_true hF.o ?_
    refine wq ?_
    refine oM hF 3 rfl rfl fun a hF=>oV hF (aq hF.o ar ab (bj (by omega) (by omega))) rfl fun a hF=>?_
    refine S.ck st hF (rgc k71 (aI hF.o ar)) (aJ (bm (n+180) _ (by omega) (by omega)) (bP (by omega) (by omega))) Rh.cl rfl fun vv3 w2 a st hF=>?_
    obtain⟨r5,rfl⟩:=Rr.fo (st.f 0 rfl).1
    refine cX st hF (rgc k70 (aD hF.o)) (oW _ _ 2 2 _ (st.f 0 rfl).1 (st.f 0 rfl).2 (by omega) (by omega) (by omega) (by omega) (by omega)) rfl fun w6 a st hF=>?_
    refine oV hF (aq hF.o ar ab (bN (by omega) (by omega))) rfl fun a hF=>oE hF 0 rfl rfl fun a hF=>nr ?_
    have bel:=st.bel
    refine rt Tryz.results38 hF 0 rfl ?_
    refine⟨bS ?_,bel⟩
    unfold j4
    rw[if_pos (by omega)]
    omega)
 ·first
  |(exfalso;omega)
  |(refine oT hF 0 (bM (c:=false) (aV hc1)) rfl rfl fun a hF=>?_
    refine E.nil ?_
    refine wp_cond_false hF.o ?_
    refine wp_skip ?_
    refine E.norm ?_
    refine wq ?_
    refine oM hF 3 rfl rfl fun a hF=>oV hF (aq hF.o ar ab (bN (by omega) (by omega))) rfl fun a hF=>?_
    refine S.ck st hF (rgc k71 (aI hF.o ar)) (aJ (bm (n-1) _ (by omega) (by omega)) (bP (by omega) (by omega))) Rh.cl rfl fun vv8 w7 a st hF=>?_
    obtain⟨r10,rfl⟩:=Rr.fo (st.f 0 rfl).1
    refine cX st hF (rgc k70 (aD hF.o)) (oW _ _ 2 2 _ (st.f 0 rfl).1 (st.f 0 rfl).2 (by omega) (by omega) (by omega) (by omega) (by omega)) rfl fun w11 a st hF=>?_
    refine oV hF (aq hF.o ar ab (bN (by omega) (by omega))) rfl fun a hF=>oE hF 0 rfl rfl fun a hF=>nr ?_
    have bel:=st.bel
    refine rt Tryz.results38 hF 0 rfl ?_
    refine⟨bS ?_,bel⟩
    unfold j4
    rw[if_neg (by omega)]
    omega)
theorem De (n xa xb xc xd L X Y:Int) (v1:Value) (w:World) (ho:RPl w v1 (((xa:Int):Rat)/((xb:Int):Rat)) (((xc:Int):Rat)/((xd:Int):Rat)) 2) (hok:cf xa xb xc xd) (hn0: -3800000≤n) (hn1:n≤3800000) (hL:amL n xa xb xc xd=L) (hX:amX n xa xb xc xd=X) (hY:amX (n-1) xa xb xc xd=Y):
 Calls Tryz.prog 15 #[.int .i64 n,v1] w (aG w (.agg #[.int .i64 ((smV L+1)/12-1955883044),.int .i64 ((smV L+1)%12+1),.bool (decide (smV (aQ L)=smV L)),.int .i64 (X%30+1),.bool (decide (Y=X))])):=by
 obtain⟨bpx,adpx,npx,cpx,aepx,mpx,dpx,bpy,adpy,npy,cpy,aepy,mpy,dpy,rfl,hpx,hpy⟩:=RPl.shape ho
 have ho:RPl w (.agg #[.bool bpx,.slice adpx npx cpx,.slice aepx mpx dpx,.bool bpy,.slice adpy npy cpy,.slice aepy mpy dpy]) (((xa:Int):Rat)/((xb:Int):Rat)) (((xc:Int):Rat)/((xd:Int):Rat)) 2:=⟨_,_,_,_,_,_,_,_,_,_,_,_,_,_,rfl,hpx,hpy⟩
 have hst:=mK hok (n-1)
 rw[show n-1+1=n by omega,hX,hY] at hst
 have hsm:=pM (jp n xa xb xc xd)
 rw[hL] at hsm
 have hyr:=xY hok hL
 have st:=St.start w
 refine go2 (nt:=35) Tryz.func15 rfl rfl rfl fun a hF=>?_
 refine wq ?_
 refine bx st hF 1 rfl rfl fun g3 w1 a st hF=>?_
 refine S.alloc st hF mn rfl rfl fun g4 w2 a st hF=>?_
 refine nq ?_
 refine oM hF 2 rfl rfl fun a hF=>oL hF st 2 1 gC rfl rfl rfl rfl fun a hF=>?_
 refine S.ck st hF (rgc k36 (aI hF.p hF.o)) (aJ (ma n xa xb xc xd _ _ (ho.below st.bel) (by first|assumption|constructor<;>omega) (by omega) (by omega)) (gj (by first|assumption|constructor<;>omega) (by omega) (by omega))) Rh.cl rfl fun vv4 w3 a st hF=>?_
 obtain⟨r6,rfl⟩:=Rr.fo (st.f 0 rfl).1
 refine cX st hF (rgc k35 (aD hF.o)) (ED _ (st.f 0 rfl).1 (st.f 0 rfl).2 (by omega) (by omega) (by omega) (by have:=pt hok n;omega) (by have:=pt hok n;omega) hL) rfl fun w7 a st hF=>?_
 refine S.new st hF 0 rfl kU rfl rfl rfl rfl rfl fun g5 w8 a st hF=>?_
 refine ns ?_
 refine E.rg 8 aF hF [12,13,14,15,16,17,6,7] [_,_,_,_,_,_,.ex (.int .i64 ((smV L%12+1)%12+1)),.ex (.int .i64 (X%30+1))] (by decide+kernel) rfl rfl rfl ⟨rfd 0 (fun _=>xg (p:=2) rfl) rfl,rld rfl fun _ hb=>(bA (v:= .int .i64 (smV L%12)) ((st.bk 0 rfl).below hb) rfl),ck st k37 rfl fun _ s=>a9 (um (smV L%12) _ (by omega) (by omega)),rm 7 rfl,rb st gC 6 2 rfl,ck st k17 rfl fun _ s=>a9 (k4 n xa xb xc xd X _ _ (ho.below s.bel) (by first|assumption|constructor<;>omega) (by omega) (by omega) hX),(by intro a' w' hF' hb hd;have e14:=tE hd 0 rfl;exact dv0 (a8 e14) rfl rfl rfl),(by intro a' w' hF' hb hd;have e17:=tE hd 0 rfl;exact dv0 (a8 e17) rfl rfl rfl),trivial⟩ ?_
 intro a w9 hF bb hall
 replace st:=st.to bb
 replace hF:=rE hall hF 6 rfl rfl
 replace hF:=rE hall hF 7 rfl rfl
 clear hall bb
 refine ns ?_
 refine E.rg 17 aF hF [18,19,20,21,22,23,24,25,26,27,28,29,30,31,32,33,34] [_,_,_,_,_,_,_,_,.ex (.bool (decide (smV L%12=smV (aQ L)%12))),_,_,.ex (.int .i64 (n-1)),_,_,_,.ex (.bool (decide (Y%30+1=X%30+1))),.ex (.agg #[.int .i64 (j4 n ((smV L%12+1)%12+1)),.int .i64 ((smV L%12+1)%12+1),.bool (decide (smV L%12=smV (aQ L)%12)),.int .i64 (X%30+1),.bool (decide (Y%30+1=X%30+1))])] (by decide+kernel) rfl rfl rfl ⟨rm 9 rfl,rm 1 rfl,ck st k38 rfl fun _ s=>a9 (xu n ((smV L%12+1)%12+1) _ (by omega) (by omega) (by omega)),rm 1 rfl,rfd 2 (fun _=>xg (p:=2) rfl) rfl,rld rfl fun _ hb=>(bA (v:= .int .i64 (smV L%12)) ((st.bk 0 rfl).below hb) rfl),rfd 2 (fun _=>E3 (p:=3) rfl) rfl,rld rfl fun _ hb=>(bA (v:= .int .i64 (smV (aQ L)%12)) ((st.bk 0 rfl).below hb) rfl),(by intro a' w' hF' hb hd;have e23:=tE hd 0 rfl;have e25:=tE hd 1 rfl;exact dv0 (aq e23 e25 ab (aU (a6 (c:=decide (smV L%12=smV (aQ L)%12)) rfl) (by simp))) rfl rfl rfl),rm 0 rfl,rm 9 rfl,(by intro a' w' hF' hb hd;have e28:=tE hd 0 rfl;exact dv0 (aq e28 ar ab (bN (by omega) (by omega))) rfl rfl rfl),rb st gC 8 2 rfl,ck st k17 rfl fun _ s=>a9 (k4 (n-1) xa xb xc xd Y _ _ (ho.below s.bel) (by first|assumption|constructor<;>omega) (by omega) (by omega) hY),rm 0 rfl,(by intro a' w' hF' hb hd;have e31:=tE hd 0 rfl;have e32:=tE hd 1 rfl;exact dv0 (aq e31 e32 ab (aU (a6 (c:=decide (Y%30+1=X%30+1)) rfl) (by simp))) rfl rfl rfl),(by intro a' w' hF' hb hd;have e20:=tE hd 0 rfl;have e21:=tE hd 1 rfl;have e26:=tE hd 2 rfl;have e27:=tE hd 3 rfl;have e33:=tE hd 4 rfl;exact dv0 (bh (uu e20 e21 e26 e27 e33) (pf _ _ _ _ _ _)) rfl rfl rfl),trivial⟩ ?_
 intro a w10 hF bb hall
 replace st:=st.to bb
 replace hF:=rE hall hF 16 rfl rfl
 clear hall bb
 refine S.stoI st hF 1 rfl (hF.at 8 rfl) hF.o mn rfl rfl rfl fun w11 a st hF=>?_
 refine nr ?_
 refine rs Tryz.results15 st hF 8 1 mn rfl rfl rfl ?_
 have bel:=st.bel
 refine⟨GT ?_ ?_ ?_ ?_ ?_,bel⟩
 ·rw[show(smV L%12+1)%12+1=(smV L+1)%12+1 by omega,hyr]
 ·omega
 ·exact decide_eq_decide.2 (by omega)
 ·rfl
 ·exact decide_eq_decide.2 (by omega)
theorem uI (v1:Value) (qt:Rat) (k:Nat) (w:World) (hT:bG w) (h1:Rq w v1 qt) (hl:ah qt k) (hk:k≤100):Calls Tryz.prog 39 #[v1] w (aG w (.int .i64 (tiV qt%30+1))):=by
 rw[←B4]
 exact AD v1 qt k w hT h1 hl hk
theorem y4 {v1:Value} {qt:Rat} {k:Nat} {L:Int} (w:World) (hT:bG w) (h1:Rq w v1 qt) (hl:ah qt k) (hk:k≤100) (hf0: -90000000≤Rat.floor qt) (hf1:Rat.floor qt≤90000000) (e:bJ qt=L):Calls Tryz.prog 20 #[v1] w (aG w (.agg #[.int .i64 L,.int .i64 (aQ L),.int .i64 (smV L%12),.int .i64 (smV (aQ L)%12)])):=by
 subst e
 exact E7 v1 qt k w hT h1 hl hk hf0 hf1
theorem iA (n xa xb xc xd X:Int) (w:World) (hT:bG w) (hok:cf xa xb xc xd) (hn0: -3850000≤n) (hn1:n≤3850000) (hX:amX n xa xb xc xd=X):
 Calls Tryz.prog 16 #[.int .i64 n,.agg #[.int .i64 xa,.int .i64 xb,.int .i64 xc,.int .i64 xd]] w (aG w (.int .i64 (X%30+1))):=by
 have st:=St.start w
 refine go2 (nt:=9) Tryz.func16 rfl rfl rfl fun a hF=>?_
 refine wq ?_
 refine bx st hF 1 rfl rfl fun g3 w1 a st hF=>?_
 refine oC hF rfl fun a hF=>nq ?_
 refine oM hF 2 rfl rfl fun a hF=>oL hF st 2 0 aZ rfl rfl rfl rfl fun a hF=>?_
 refine S.ck st hF (rgc k19 (aI hF.p hF.o)) (aB (gD n xa xb xc xd _ (hT.below st.bel) (by first|assumption|constructor<;>omega) (by omega) (by omega)) (gj (by first|assumption|constructor<;>omega) (by omega) (by omega))) Rl.cl rfl fun vv3 w2 a st hF=>?_
 obtain⟨r5,rfl⟩:=Rq.fo (st.f 0 rfl).1
 refine cX st hF (rgc k39 (aD hF.o)) (uI _ _ 3 _ (hT.below st.bel) (st.f 0 rfl).1 (st.f 0 rfl).2 (by omega)) rfl fun w6 a st hF=>?_
 refine oE hF 0 rfl rfl fun a hF=>nr ?_
 have bel:=st.bel
 refine rt Tryz.results16 hF 0 rfl ?_
 refine⟨bS ?_,bel⟩
 rw[←hX]
 rfl
theorem rA (n m:Int) (w:World) (hT:bG w) (hn0: -3800000≤n) (hn1:n≤3800000):
 Calls Tryz.prog 32 #[.int .i64 n,.int .i64 m] w (aG w (.int .i64 (j4 n m))):=by
 have hka:=uD (n:=n+180) (by omega) (by omega)
 have hkb:=uD (n:=n+ -1) (by omega) (by omega)
 have st:=St.start w
 refine go2 (nt:=20) Tryz.func32 rfl rfl rfl fun a hF=>?_
 refine wq ?_
 refine oC hF rfl fun a hF=>nq ?_
 refine oM hF 1 rfl rfl fun a hF=>oV hF (aq hF.o ar ab (bj (by omega) (by omega))) rfl fun a hF=>oA hF 0 rfl rfl fun a hF=>ns ?_
 refine wq ?_
 refine oM hF 5 rfl rfl fun a hF=>?_
 by_cases hc1:m=1
 ·first
  |(exfalso;omega)
  |(refine oT hF 0 (a6 (c:=true) (aL hc1)) rfl rfl fun a hF=>?_
    refine oM hF 0 rfl rfl fun a hF=>nu hF 0 rfl rfl rfl fun a hF=>nu hF 1 rfl rfl rfl fun a hF=>oV hF (aH hF.q ar) rfl fun a hF=>?_
    refine E.nil ?_
    refine wp_cond_true hF.o ?_
    refine E.seq ?_
    refine oM hF 10 rfl rfl fun a hF=>oV hF (aq hF.o ar ab (bj (by omega) (by omega))) rfl fun a hF=>oE hF 0 rfl rfl fun a hF=>nq ?_
    refine oM hF 0 rfl rfl fun a hF=>?_
    refine S.ck st hF (rgc k30 (aD hF.o)) (aB (a7 (n+180) _ (by omega) (by omega)) (aW (ao (by omega) (by omega)) (by omega))) Rl.cl rfl fun vv3 w2 a st hF=>?_
    obtain⟨r5,rfl⟩:=Rq.fo (st.f 0 rfl).1
    refine cX st hF (rgc k61 (aD hF.o)) (iz _ _ 2 _ (hT.below st.bel) (st.f 0 rfl).1 (st.f 0 rfl).2 (by omega) (by omega) (by omega)) rfl fun w6 a st hF=>?_
    refine oV hF (aq hF.o ar ab (bN (by omega) (by omega))) rfl fun a hF=>oE hF 0 rfl rfl fun a hF=>nr ?_
    have bel:=st.bel
    refine rt Tryz.results32 hF 0 rfl ?_
    refine⟨bS ?_,bel⟩
    unfold j4
    rw[if_pos (by omega)]
    omega)
 ·first
  |(exfalso;omega)
  |(refine oT hF 0 (a6 (c:=false) (aV hc1)) rfl rfl fun a hF=>?_
    refine oM hF 0 rfl rfl fun a hF=>og hF (aN (hF.at 8 rfl)) 0 rfl rfl rfl fun a hF=>?_
    by_cases hc7:m=2
    ·first
     |(exfalso;omega)
     |(refine og hF (aq hF.o ar ab (aU (a6 (c:=true) (aL hc7)) (by simp))) 1 rfl rfl rfl fun a hF=>?_
       refine oV hF (bp hF.q hF.o) rfl fun a hF=>?_
       refine E.nil ?_
       refine wp_cond_true hF.o ?_
       refine E.seq ?_
       refine oM hF 10 rfl rfl fun a hF=>oV hF (aq hF.o ar ab (bj (by omega) (by omega))) rfl fun a hF=>oE hF 0 rfl rfl fun a hF=>nq ?_
       refine oM hF 0 rfl rfl fun a hF=>?_
       refine S.ck st hF (rgc k30 (aD hF.o)) (aB (a7 (n+180) _ (by omega) (by omega)) (aW (ao (by omega) (by omega)) (by omega))) Rl.cl rfl fun vv9 w8 a st hF=>?_
       obtain⟨r11,rfl⟩:=Rq.fo (st.f 0 rfl).1
       refine cX st hF (rgc k61 (aD hF.o)) (iz _ _ 2 _ (hT.below st.bel) (st.f 0 rfl).1 (st.f 0 rfl).2 (by omega) (by omega) (by omega)) rfl fun w12 a st hF=>?_
       refine oV hF (aq hF.o ar ab (bN (by omega) (by omega))) rfl fun a hF=>oE hF 0 rfl rfl fun a hF=>nr ?_
       have bel:=st.bel
       refine rt Tryz.results32 hF 0 rfl ?_
       refine⟨bS ?_,bel⟩
       unfold j4
       rw[if_pos (by omega)]
       omega)
    ·first
     |(exfalso;omega)
     |(refine og hF (aq hF.o ar ab (aU (a6 (c:=false) (aV hc7)) (by simp))) 1 rfl rfl rfl fun a hF=>?_
       refine oV hF (bp hF.q hF.o) rfl fun a hF=>?_
       refine E.nil ?_
       refine wp_cond_false hF.o ?_
       refine wp_skip ?_
       refine E.norm ?_
       refine wq ?_
       refine oM hF 6 rfl rfl fun a hF=>?_
       refine S.ck st hF (rgc k30 (aD hF.o)) (aB (a7 (n+(-1)) _ (by omega) (by omega)) (aW (ao (by omega) (by omega)) (by omega))) Rl.cl rfl fun vv14 w13 a st hF=>?_
       obtain⟨r16,rfl⟩:=Rq.fo (st.f 0 rfl).1
       refine cX st hF (rgc k61 (aD hF.o)) (iz _ _ 2 _ (hT.below st.bel) (st.f 0 rfl).1 (st.f 0 rfl).2 (by omega) (by omega) (by omega)) rfl fun w17 a st hF=>?_
       refine oV hF (aq hF.o ar ab (bN (by omega) (by omega))) rfl fun a hF=>oE hF 0 rfl rfl fun a hF=>nr ?_
       have bel:=st.bel
       refine rt Tryz.results32 hF 0 rfl ?_
       refine⟨bS ?_,bel⟩
       unfold j4
       rw[if_neg (by omega),show n-1=n+ -1 from Int.sub_eq_add_neg]
       omega))
theorem gL (n xa xb xc xd L X Y:Int) (w:World) (hT:bG w) (hok:cf xa xb xc xd) (hn0: -3800000≤n) (hn1:n≤3800000) (hL:amL n xa xb xc xd=L) (hX:amX n xa xb xc xd=X) (hY:amX (n-1) xa xb xc xd=Y):
 Calls Tryz.prog 18 #[.int .i64 n,.agg #[.int .i64 xa,.int .i64 xb,.int .i64 xc,.int .i64 xd]] w (aG w (.agg #[.int .i64 ((smV L+1)/12-1955883044),.int .i64 ((smV L+1)%12+1),.bool (decide (smV (aQ L)=smV L)),.int .i64 (X%30+1),.bool (decide (Y=X))])):=by
 have hst:=mK hok (n-1)
 rw[show n-1+1=n by omega,hX,hY] at hst
 have hsm:=pM (jp n xa xb xc xd)
 rw[hL] at hsm
 have hyr:=xY hok hL
 have st:=St.start w
 refine go2 (nt:=32) Tryz.func18 rfl rfl rfl fun a hF=>?_
 refine wq ?_
 refine bx st hF 1 rfl rfl fun g3 w1 a st hF=>?_
 refine S.alloc st hF cL rfl rfl fun g4 w2 a st hF=>?_
 refine nq ?_
 refine oM hF 2 rfl rfl fun a hF=>oL hF st 2 1 aZ rfl rfl rfl rfl fun a hF=>?_
 refine S.ck st hF (rgc k19 (aI hF.p hF.o)) (aB (gD n xa xb xc xd _ (hT.below st.bel) (by first|assumption|constructor<;>omega) (by omega) (by omega)) (gj (by first|assumption|constructor<;>omega) (by omega) (by omega))) Rl.cl rfl fun vv4 w3 a st hF=>?_
 obtain⟨r6,rfl⟩:=Rq.fo (st.f 0 rfl).1
 refine S.new st hF 0 rfl aa rfl rfl rfl rfl rfl fun g5 w7 a st hF=>?_
 refine ns ?_
 refine E.rga 5 aF hF [12,13,14,15,6] [_,_,_,_,kb w7 [.int .i64 0,.int .i64 0,.int .i64 0,.int .i64 0]] [4] ⟨fun _ _ ⟨g,e,_,o⟩=>⟨g,e,o.lt⟩,trivial⟩ (by decide+kernel) rfl rfl rfl ⟨rb st aa 0 0 rfl,ck st k20 rfl fun _ s=>a9 (y4 _ (hT.below s.bel) (s.f 0 rfl).1 (s.f 0 rfl).2 (by omega) (by have:=pt hok n;omega) (by have:=pt hok n;omega) hL),rb st aa 0 0 rfl,ck st k39 rfl fun _ s=>a9 (uI _ (bX (dN n xa xb xc xd)) 3 _ (hT.below s.bel) (s.f 0 rfl).1 (s.f 0 rfl).2 (by omega)),rai gc rfl,trivial⟩ ?_
 intro a w8 hF bb hall hne
 have s0:=st
 replace st:=st.to bb
 replace hF:=rE hall hF 1 rfl rfl
 replace hF:=rE hall hF 3 rfl rfl
 obtain⟨_,e6,g6,rfl,ge6,o6⟩:=sS hall 4 6 rfl rfl
 replace st:=st.push o6 (Nat.le_trans s0.bel.size ge6) (s0.ne ge6)
 clear o6
 replace hF:=hF.add e6
 clear hall bb hne s0
 refine S.stoI st hF 0 rfl hF.o hF.q gc rfl rfl rfl fun w9 a st hF=>?_
 refine oA hF 1 rfl rfl fun a hF=>nq ?_
 refine oL hF st 1 0 gc rfl rfl rfl rfl fun a hF=>?_
 refine cX st hF (rgc k21 (aD hF.o)) (nQ L (aQ L) (smV L%12) (smV (aQ L)%12) _ (by omega) (by omega)) rfl fun w10 a st hF=>?_
 refine oA hF 0 rfl rfl fun a hF=>ns ?_
 refine E.rg 14 aF hF [18,19,20,21,22,23,24,25,26,27,28,29,30,31] [_,_,_,_,_,_,_,_,.ex (.int .i64 (n-1)),_,_,_,.ex (.bool (decide (Y%30+1=tiV (bX (dN n xa xb xc xd))%30+1))),.ex (.agg #[.int .i64 (j4 n (((smV L%12)+1)%12+1)),.int .i64 (((smV L%12)+1)%12+1),.bool (decide ((smV L%12)=(smV (aQ L)%12))),.int .i64 (tiV (bX (dN n xa xb xc xd))%30+1),.bool (decide (Y%30+1=tiV (bX (dN n xa xb xc xd))%30+1))])] (by decide+kernel) rfl rfl rfl ⟨rm 13 rfl,rm 0 rfl,ck st k32 rfl fun _ s=>a9 (rA n (((smV L%12)+1)%12+1) _ (hT.below s.bel) (by omega) (by omega)),rm 0 rfl,rb st gc 4 0 rfl,ck st k22 rfl fun _ s=>a9 (rJ L (aQ L) (smV L%12) (smV (aQ L)%12) _),rm 3 rfl,rm 13 rfl,(by intro a' w' hF' hb hd;have e25:=tE hd 0 rfl;exact dv0 (aq e25 ar ab (bN (by omega) (by omega))) rfl rfl rfl),rb st aZ 12 3 rfl,ck st k16 rfl fun _ s=>a9 (iA (n-1) xa xb xc xd Y _ (hT.below s.bel) (by first|assumption|constructor<;>omega) (by omega) (by omega) hY),rm 3 rfl,(by intro a' w' hF' hb hd;have e28:=tE hd 0 rfl;have e29:=tE hd 1 rfl;exact dv0 (aq e28 e29 ab (aU (a6 (c:=decide (Y%30+1=tiV (bX (dN n xa xb xc xd))%30+1)) rfl) (by simp))) rfl rfl rfl),(by intro a' w' hF' hb hd;have e20:=tE hd 0 rfl;have e21:=tE hd 1 rfl;have e23:=tE hd 2 rfl;have e24:=tE hd 3 rfl;have e30:=tE hd 4 rfl;exact dv0 (bh (uu e20 e21 e23 e24 e30) (wJ _ _ _ _ _ _)) rfl rfl rfl),trivial⟩ ?_
 intro a w11 hF bb hall
 replace st:=st.to bb
 replace hF:=rE hall hF 13 rfl rfl
 clear hall bb
 refine S.stoI st hF 2 rfl (hF.at 12 rfl) hF.o cL rfl rfl rfl fun w12 a st hF=>?_
 refine nr ?_
 refine rs Tryz.results18 st hF 12 2 cL rfl rfl rfl ?_
 have bel:=st.bel
 refine⟨GT ?_ ?_ ?_ ?_ ?_,bel⟩
 ·rw[show(smV L%12+1)%12+1=(smV L+1)%12+1 by omega,hyr]
 ·omega
 ·exact decide_eq_decide.2 (by omega)
 ·rw[←hX];rfl
 ·rw[show tiV (bX (dN n xa xb xc xd))=X from hX];exact decide_eq_decide.2 (by omega)
theorem ua (n xa xb xc xd:Int) (w:World) (hE:plE xa xb xc xd≠0):
 Calls Tryz.prog 12 #[.int .i64 n,.agg #[.int .i64 xa,.int .i64 xb,.int .i64 xc,.int .i64 xd]] w (aG w (.tuple #[.agg #[.int .i64 0,.int .i64 0,.bool false,.int .i64 0,.bool false],.int .i64 (plE xa xb xc xd)])):=by
 have st:=St.start w
 refine go2 (nt:=20) Tryz.func12 rfl rfl rfl fun a hF=>?_
 refine wq ?_
 refine bx st hF 1 rfl rfl fun g3 w1 a st hF=>?_
 refine S.alloc st hF cL rfl rfl fun g4 w2 a st hF=>?_
 refine oC hF rfl fun a hF=>ns ?_
 refine wq ?_
 refine oL hF st 2 1 aZ rfl rfl rfl rfl fun a hF=>?_
 refine cX st hF (rgc k23 (aD hF.o)) (gl xa xb xc xd _) rfl fun w3 a st hF=>?_
 refine oA hF 0 rfl rfl fun a hF=>nq ?_
 refine oM hF 0 rfl rfl fun a hF=>oT hF 0 (kR (c:=true) (aL (by omega))) rfl rfl fun a hF=>?_
 refine E.nil ?_
 refine wp_cond_true hF.o ?_
 refine wq ?_
 refine oV hF (bh (by simp) (mg _)) rfl fun a hF=>oM hF 3 rfl rfl fun a hF=>?_
 refine S.stoI st hF 0 rfl (hF.at 8 rfl) hF.p cL rfl rfl rfl fun w4 a st hF=>?_
 refine oE hF 0 rfl rfl fun a hF=>nr ?_
 have bel:=st.bel
 refine bodyPost_ret (jH Tryz.results12 (hF.at 8 rfl) (bF cL (st.bk 0 rfl) rfl) hF.o) hF.dfr ?_
 exact⟨rfl,bel⟩
theorem BF (n xa xb xc xd:Int) (w:World) (hE:plE xa xb xc xd=0) (hx:¬(-3000000≤n∧n≤3000000)):
 Calls Tryz.prog 12 #[.int .i64 n,.agg #[.int .i64 xa,.int .i64 xb,.int .i64 xc,.int .i64 xd]] w (aG w (.tuple #[.agg #[.int .i64 0,.int .i64 0,.bool false,.int .i64 0,.bool false],.int .i64 2])):=by
 have st:=St.start w
 refine go2 (nt:=20) Tryz.func12 rfl rfl rfl fun a hF=>?_
 refine wq ?_
 refine bx st hF 1 rfl rfl fun g3 w1 a st hF=>?_
 refine S.alloc st hF cL rfl rfl fun g4 w2 a st hF=>?_
 refine oC hF rfl fun a hF=>ns ?_
 refine wq ?_
 refine oL hF st 2 1 aZ rfl rfl rfl rfl fun a hF=>?_
 refine cX st hF (rgc k23 (aD hF.o)) (gl xa xb xc xd _) rfl fun w3 a st hF=>?_
 refine oA hF 0 rfl rfl fun a hF=>nq ?_
 refine oM hF 0 rfl rfl fun a hF=>oT hF 0 (kR (c:=false) (aV (by omega))) rfl rfl fun a hF=>?_
 refine E.nil ?_
 refine wp_cond_false hF.o ?_
 refine wp_skip ?_
 refine E.norm ?_
 refine wp_seq ?_
 refine wq ?_
 refine oM hF 8 rfl rfl fun a hF=>?_
 refine cX st hF (rgc k33 (aD hF.o)) (Bn n _ (by omega)) rfl fun w4 a st hF=>?_
 refine oV hF (cF hF.o (bT _ true rfl)) rfl fun a hF=>?_
 refine E.nil ?_
 refine wp_cond_true hF.o ?_
 refine wq ?_
 refine oV hF (bh (by simp) (mg _)) rfl fun a hF=>?_
 refine S.stoI st hF 0 rfl (hF.at 10 rfl) hF.o cL rfl rfl rfl fun w5 a st hF=>?_
 refine oS hF (a8 ar) rfl fun a hF=>nr ?_
 have bel:=st.bel
 refine bodyPost_ret (jH Tryz.results12 (hF.at 10 rfl) (bF cL (st.bk 0 rfl) rfl) hF.o) hF.dfr ?_
 exact⟨rfl,bel⟩
theorem wF (n xa xb xc xd L X Y:Int) (w:World) (hT:bG w) (hok:cf xa xb xc xd) (hn0: -3000000≤n) (hn1:n≤3000000) (hL:amL n xa xb xc xd=L) (hX:amX n xa xb xc xd=X) (hY:amX (n-1) xa xb xc xd=Y):
 Calls Tryz.prog 12 #[.int .i64 n,.agg #[.int .i64 xa,.int .i64 xb,.int .i64 xc,.int .i64 xd]] w (aG w (.tuple #[.agg #[.int .i64 ((smV L+1)/12-1955883044),.int .i64 ((smV L+1)%12+1),.bool (decide (smV (aQ L)=smV L)),.int .i64 (X%30+1),.bool (decide (Y=X))],.int .i64 0])):=by
 have hck:plE xa xb xc xd=0:=Gu hok
 have st:=St.start w
 refine go2 (nt:=20) Tryz.func12 rfl rfl rfl fun a hF=>?_
 refine wq ?_
 refine bx st hF 1 rfl rfl fun g3 w1 a st hF=>?_
 refine S.alloc st hF cL rfl rfl fun g4 w2 a st hF=>?_
 refine oC hF rfl fun a hF=>ns ?_
 refine wq ?_
 refine oL hF st 2 1 aZ rfl rfl rfl rfl fun a hF=>?_
 refine cX st hF (rgc k23 (aD hF.o)) (gl xa xb xc xd _) rfl fun w3 a st hF=>?_
 refine oA hF 0 rfl rfl fun a hF=>nq ?_
 refine oM hF 0 rfl rfl fun a hF=>oT hF 0 (kR (c:=false) (aV (by omega))) rfl rfl fun a hF=>?_
 refine E.nil ?_
 refine wp_cond_false hF.o ?_
 refine wp_skip ?_
 refine E.norm ?_
 refine wp_seq ?_
 refine wq ?_
 refine oM hF 8 rfl rfl fun a hF=>?_
 refine cX st hF (rgc k33 (aD hF.o)) (vH n _ (by omega) (by omega)) rfl fun w4 a st hF=>?_
 refine oV hF (cF hF.o (bT _ false rfl)) rfl fun a hF=>?_
 refine E.nil ?_
 refine wp_cond_false hF.o ?_
 refine wp_skip ?_
 refine E.norm ?_
 refine wq ?_
 refine oM hF 11 rfl rfl fun a hF=>oL hF st 11 1 aZ rfl rfl rfl rfl fun a hF=>?_
 refine cX st hF (rgc k18 (aI hF.p hF.o)) (gL n xa xb xc xd L X Y _ (hT.below st.bel) (by first|assumption|constructor<;>omega) (by omega) (by omega) hL hX hY) rfl fun w5 a st hF=>?_
 refine S.stoI st hF 0 rfl (hF.at 12 rfl) hF.o cL rfl rfl rfl fun w6 a st hF=>?_
 refine oS hF (a8 ar) rfl fun a hF=>nr ?_
 have bel:=st.bel
 refine bodyPost_ret (jH Tryz.results12 (hF.at 12 rfl) (bF cL (st.bk 0 rfl) rfl) hF.o) hF.dfr ?_
 exact⟨rfl,bel⟩
end Go.Proofs.YtdbiegfmgabicaaGreatDoor
