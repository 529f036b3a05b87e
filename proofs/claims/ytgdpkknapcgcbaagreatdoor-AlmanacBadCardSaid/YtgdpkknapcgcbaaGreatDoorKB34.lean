import Derived.Test.YtgdpkknapcgcbaaGreatDoorKB32
namespace Go.Proofs.YtgdpkknapcgcbaaGreatDoor
open Go.RowKit
set_option maxRecDepth 100000
set_option linter.unusedVariables false
set_option maxHeartbeats 8000000
theorem uI:(Tryz.f75.name == "runtime.NumGoroutine")=false/\Tryz.f75.body.isNone=false:=⟨by decide+kernel,by kernel_rfl⟩
theorem t7 {a b:Rat}:qc a b<0↔a<b:=by
 rw[sw]
 split
 ·rename_i h;exact⟨fun _=>h,fun _=>by decide⟩
 ·rename_i h;exact⟨fun e=>absurd e (by split <;> decide),fun e=>absurd e h⟩
def kP (c:Int):Int:=if 0<=c/\c<=4 then kN c else 0
def kX (c:Int) (t:Rat):Int:=if 0<=c/\c<=4 then kI c t else 0
def ie (c was:Int) (x:Rat):Bool:=decide (kX c x≠was)
theorem gW {c:Int} (h0:0<=c) (h1:c<=4) (t:Rat):kX c t=kI c t:=if_pos ⟨h0,h1⟩
theorem Em {c:Int} (h:¬(0<=c/\c<=4)) (t:Rat):kX c t=0:=if_neg h
theorem nP (c:Int) (t:Rat):0<=kX c t/\kX c t<=59:=by
 unfold kX
 split
 ·rename_i h
  have:=Ff h.1 h.2 t
  have:=j2 c
  omega
 ·omega
theorem wF (c:Int):ag (kQ c) 1:=by
 unfold kQ
 split
 ·exact bX (z:=1) (show(1:Int).natAbs <B32^1 by decide+kernel) (by decide)
 ·exact⟨show(1/4:Rat).num.natAbs <B32^1 by decide+kernel,show(1/4:Rat).den <B32^1 by decide+kernel⟩
theorem nE {place:Nat->Option (Nat×Nat)} {cells:Array Value} {i off:Nat} {k:IntKind} {z:Int} {rest:List (Nat×Value)} (hp:place i=some (off,1)) (hc:off+1<=cells.size):
 Instr.fill place cells ((i,.int k z)::rest)=Instr.fill place (cells.setIfInBounds off (.int k z)) rest:=by
 conv=>lhs;unfold Instr.fill
 rw[hp]
 have h1:(Value.int k z).cells =#[.int k z]:=rfl
 simp only [h1]
 rw[if_neg (by simp;omega)]
 rfl
theorem E0:(Tryz.prog.info? 120).map (·.size)=some 5:=by kernel_rfl
theorem AV:(Tryz.prog.info? 120).bind (·.zero)=some (.agg #[iv 0,iv 0,iv 0,iv 0,iv 0]):=by kernel_rfl
theorem sM (z0 z1 z2 z3 z4:Int) (w:World):(Instr.build 120 #[(0,iv z0),(1,iv z1),(2,iv z2),(3,iv z3),(4,iv z4)]).run Tryz.prog w= .ok (.agg #[iv z0,iv z1,iv z2,iv z3,iv z4]) w:=by
 have hz:=bW AV w
 have hs:∀w,(sizeOf 3).run Tryz.prog w= .ok 1 w:=fun w=>aL dG w
 simp only [Instr.build,Sem.run_bind,hz,Result.andThen_ok,run_underlying Tryz.underlying120,hs]
 rw[show(Value.agg #[Value.int .i64 0,Value.int .i64 0,Value.int .i64 0,Value.int .i64 0,Value.int .i64 0]).cells =#[Value.int .i64 0,Value.int .i64 0,Value.int .i64 0,Value.int .i64 0,Value.int .i64 0] from rfl]
 rw[nE (off:=0) rfl (by simp),nE (off:=1) rfl (by simp),nE (off:=2) rfl (by simp),nE (off:=3) rfl (by simp),nE (off:=4) rfl (by simp)]
 simp only [List.setIfInBounds_toArray,List.set_cons_zero,List.set_cons_succ]
 rfl
theorem EU {w:World} {g:Nat} {i:Int} (h0:0<=i) (h1:i<5):(Instr.indexAt 120 (.pointer (some ⟨g,0,none⟩)) (iv i)).run Tryz.prog w= .ok (.pointer (some ⟨g,i.toNat,none⟩)) w:=by
 have hs:∀w,(sizeOf 3).run Tryz.prog w= .ok 1 w:=fun w=>aL dG w
 simp[Instr.indexAt,asIntOf,Instr.sureAddr,run_underlying Tryz.underlying120,Sem.run_bind,h0,h1,Addr.add_mid,hs]
theorem Er:Ty Tryz.prog 120 5 [iv 0,iv 0,iv 0,iv 0,iv 0]:=⟨⟨_,Tryz.underlying120,rfl⟩,E0,AV⟩
theorem EC {c:Int} (h0:0<=c) (h1:c<5):([12,30,27,27,60].map fun z=>Value.int .i64 z)[c.toNat]?=some (iv (kN c)):=by
 have h:c=0\/c=1\/c=2\/c=3\/c=4:=by omega
 rcases h with rfl|rfl|rfl|rfl|rfl <;> rfl
theorem Fy (t:Rat):kX 0 t=prt (bp t) 12:=rfl
theorem Fz (t:Rat):kX 1 t=prt (bM t) 30:=rfl
theorem F3 (t:Rat):kX 2 t=prt (bK t) 27:=rfl
theorem F6 (t:Rat):kX 3 t=prt (uO t) 27:=rfl
theorem Ga (t:Rat):kX 4 t=prt (bM t) 60:=rfl
theorem FO {c:Int} (t:Rat) (h0:¬c=0) (h1:¬c=1) (h2:¬c=2) (h3:¬c=3) (h4:¬c=4):kX c t=0:=Em (by omega) t
theorem mz (c:Int) (w:World):
 CV 27 #[iv c] w (iv (kP c)):=by
 refine gs1 (nt:=14) Tryz.func27 rfl rfl rfl fun a st hF=>wq ?_
 refine oC hF rfl fun a hF=>nq<|oV hF (a7 (uC ah ah ah ah ah) (sM _ _ _ _ _ _)) rfl fun a hF=>S.new st hF 0 rfl Er rfl rfl rfl rfl rfl fun g3 w1 a st hF=>ns<|wq<|oM hF 3 rfl rfl fun a hF=>?_
 by_cases hc2:c<0
 ·first
  |(exfalso;omega)
  |(refine oT hF 0 (cw (c:=true) (aD hc2)) rfl rfl fun a hF=>?_
    refine oM hF 0 rfl rfl fun a hF=>nu hF 0 rfl rfl rfl fun a hF=>nu hF 1 rfl rfl rfl fun a hF=>oV hF (aO hF.q ah) rfl fun a hF=>E.nil<|wp_cond_true hF.o<|wq ?_
    refine oS hF (bf ah) rfl fun a hF=>nr ?_
    have bel:=st.bel
    refine rt Tryz.results27 hF 0 rfl ?_
    exact⟨bS (by unfold kP;exact(if_neg (by omega)).symm),bel⟩)
 ·first
  |(exfalso;omega)
  |(refine oT hF 0 (cw (c:=false) (aK hc2)) rfl rfl fun a hF=>?_
    refine oM hF 0 rfl rfl fun a hF=>og hF (aI (hF.at 6 rfl)) 0 rfl rfl rfl fun a hF=>?_
    by_cases hc3:5<=c
    ·first
     |(exfalso;omega)
     |(refine og hF (ar hF.o ah ab (aM (fM (c:=true) (aD hc3)) (by simp))) 1 rfl rfl rfl fun a hF=>?_
       refine oV hF (aZ hF.q hF.o) rfl fun a hF=>E.nil<|wp_cond_true hF.o<|wq ?_
       refine oS hF (bf ah) rfl fun a hF=>nr ?_
       have bel:=st.bel
       refine rt Tryz.results27 hF 0 rfl ?_
       exact⟨bS (by unfold kP;exact(if_neg (by omega)).symm),bel⟩)
    ·first
     |(exfalso;omega)
     |(refine og hF (ar hF.o ah ab (aM (fM (c:=false) (aK hc3)) (by simp))) 1 rfl rfl rfl fun a hF=>?_
       refine oV hF (aZ hF.q hF.o) rfl fun a hF=>E.nil<|wp_cond_false hF.o<|wp_skip<|E.norm<|wq ?_
       refine oM hF 9 rfl rfl fun a hF=>oV hF (dY (hF.at 7 rfl) hF.o (EU (by omega) (by omega))) rfl fun a hF=>oV hF (aq hF.o (cS (v:= iv (kN c)) (st.bk 0 rfl) (EC (by omega) (by omega)))) rfl fun a hF=>oE hF 0 rfl rfl fun a hF=>nr ?_
       have bel:=st.bel
       refine rt Tryz.results27 hF 0 rfl ?_
       exact⟨bS (by unfold kP;exact(if_pos (by omega)).symm),bel⟩))
theorem eG (c:Int) (v1:Value) (qt:Rat) (k:Nat) (w:World) (hT:a6 w) (h1:Rq w v1 qt) (hl:ag qt k) (hk:k<=100):
 CV 30 #[iv c,v1] w (iv (kX c qt)):=by
 have hp3:=dz (x:=bM qt) (n:=30) (by omega) (gw _) (fO _)
 have hp6:=dz (x:=bM qt) (n:=60) (by omega) (gw _) (fO _)
 have hp2:=dz (x:=bK qt) (n:=27) (by omega) (k8 _) (jZ _)
 have hpy:=dz (x:=uO qt) (n:=27) (by omega) (cn aN) (bV aN)
 refine gs2 (nt:=33) Tryz.func30 rfl rfl rfl fun a st hF=>wq ?_
 obtain⟨r2,rfl⟩:=Rq.fo h1
 refine bx st hF 1 rfl rfl fun g3 w1 a st hF=>?_
 refine oC hF rfl fun a hF=>ns<|wq<|oM hF 2 rfl rfl fun a hF=>E.nil<|wp_block<|wq ?_
 by_cases hc3:c=0
 ·first
  |(exfalso;omega)
  |(refine oT hF 0 (aJ (c:=true) (aD hc3)) rfl rfl fun a hF=>?_
    refine oA hF 0 rfl rfl fun a hF=>E.nil<|wp_cond_true hF.o<|wq<|oL hF st 4 0 aa rfl rfl rfl rfl fun a hF=>cX st hF (rgc k34 (aB hF.o)) (pT _ (qt) k _ (hT.below st.bel) (h1.below st.bel) hl (by omega)) rfl fun w4 a st hF=>?_
    refine oE hF 0 rfl rfl fun a hF=>nr ?_
    have bel:=st.bel
    refine rt Tryz.results30 hF 0 rfl ?_
    exact⟨bS (by have e:=Fy qt;rw[hc3];omega),bel⟩)
 ·first
  |(exfalso;omega)
  |(refine oT hF 0 (aJ (c:=false) (aK hc3)) rfl rfl fun a hF=>?_
    refine oA hF 0 rfl rfl fun a hF=>E.nil<|wp_cond_false hF.o<|wq ?_
    by_cases hc5:c=1
    ·first
     |(exfalso;omega)
     |(refine oT hF 2 (aJ (c:=true) (aD hc5)) rfl rfl fun a hF=>?_
       refine oA hF 0 rfl rfl fun a hF=>E.nil<|wp_cond_true hF.o<|wq<|oL hF st 6 0 aa rfl rfl rfl rfl fun a hF=>cX st hF (rgc k80 (aB hF.o)) (nS _ (qt) k _ (hT.below st.bel) (h1.below st.bel) hl (by omega)) rfl fun w6 a st hF=>?_
       refine oV hF (ar hF.o ah ab (de (by omega) (by omega))) rfl fun a hF=>oE hF 0 rfl rfl fun a hF=>nr ?_
       have bel:=st.bel
       refine rt Tryz.results30 hF 0 rfl ?_
       exact⟨bS (by have e:=Fz qt;rw[hc5];omega),bel⟩)
    ·first
     |(exfalso;omega)
     |(refine oT hF 2 (aJ (c:=false) (aK hc5)) rfl rfl fun a hF=>?_
       refine oA hF 0 rfl rfl fun a hF=>E.nil<|wp_cond_false hF.o<|wq ?_
       by_cases hc7:c=2
       ·first
        |(exfalso;omega)
        |(refine oT hF 4 (aJ (c:=true) (aD hc7)) rfl rfl fun a hF=>?_
          refine oA hF 0 rfl rfl fun a hF=>E.nil<|wp_cond_true hF.o<|wq<|oL hF st 8 0 aa rfl rfl rfl rfl fun a hF=>cX st hF (rgc k81 (aB hF.o)) (lC _ (qt) k _ (hT.below st.bel) (h1.below st.bel) hl (by omega)) rfl fun w8 a st hF=>?_
          refine oV hF (nc hF.o (xQ _ _ _ _ _ _)) rfl fun a hF=>oV hF (ar hF.o ah ab (de (by omega) (by omega))) rfl fun a hF=>oE hF 0 rfl rfl fun a hF=>nr ?_
          have bel:=st.bel
          refine rt Tryz.results30 hF 0 rfl ?_
          exact⟨bS (by have e:=F3 qt;rw[hc7];omega),bel⟩)
       ·first
        |(exfalso;omega)
        |(refine oT hF 4 (aJ (c:=false) (aK hc7)) rfl rfl fun a hF=>?_
          refine oA hF 0 rfl rfl fun a hF=>E.nil<|wp_cond_false hF.o<|wq ?_
          by_cases hc9:c=3
          ·first
           |(exfalso;omega)
           |(refine oT hF 6 (aJ (c:=true) (aD hc9)) rfl rfl fun a hF=>?_
             refine oA hF 0 rfl rfl fun a hF=>E.nil<|wp_cond_true hF.o<|wq<|oL hF st 10 0 aa rfl rfl rfl rfl fun a hF=>cX st hF (rgc k81 (aB hF.o)) (lC _ (qt) k _ (hT.below st.bel) (h1.below st.bel) hl (by omega)) rfl fun w10 a st hF=>?_
             refine oV hF (nc hF.o (wM _ _ _ _ _ _)) rfl fun a hF=>oV hF (ar hF.o ah ab (de (by omega) (by omega))) rfl fun a hF=>oE hF 0 rfl rfl fun a hF=>nr ?_
             have bel:=st.bel
             refine rt Tryz.results30 hF 0 rfl ?_
             exact⟨bS (by have e:=F6 qt;rw[hc9];omega),bel⟩)
          ·first
           |(exfalso;omega)
           |(refine oT hF 6 (aJ (c:=false) (aK hc9)) rfl rfl fun a hF=>?_
             refine oA hF 0 rfl rfl fun a hF=>E.nil<|wp_cond_false hF.o<|wq ?_
             by_cases hc11:c=4
             ·first
              |(exfalso;omega)
              |(refine oT hF 8 (aJ (c:=true) (aD hc11)) rfl rfl fun a hF=>?_
                refine oA hF 0 rfl rfl fun a hF=>E.nil<|wp_cond_true hF.o<|wq<|oL hF st 12 0 aa rfl rfl rfl rfl fun a hF=>cX st hF (rgc k81 (aB hF.o)) (lC _ (qt) k _ (hT.below st.bel) (h1.below st.bel) hl (by omega)) rfl fun w12 a st hF=>?_
                refine oV hF (nc hF.o (wR _ _ _ _ _ _)) rfl fun a hF=>oV hF (ar hF.o ah ab (de (by omega) (by omega))) rfl fun a hF=>oE hF 0 rfl rfl fun a hF=>nr ?_
                have bel:=st.bel
                refine rt Tryz.results30 hF 0 rfl ?_
                exact⟨bS (by have e:=Ga qt;rw[hc11];omega),bel⟩)
             ·first
              |(exfalso;omega)
              |(refine oT hF 8 (aJ (c:=false) (aK hc11)) rfl rfl fun a hF=>?_
                refine oA hF 0 rfl rfl fun a hF=>E.nil<|wp_cond_false hF.o<|wp_skip<|E.blk<|E.norm<|wq ?_
                refine oS hF (bf ah) rfl fun a hF=>nr ?_
                have bel:=st.bel
                refine rt Tryz.results30 hF 0 rfl ?_
                exact⟨bS (FO qt hc3 hc5 hc7 hc9 hc11).symm,bel⟩)))))
theorem lq (c:Int) (w:World):
 CQ 77 #[iv c] w (kQ c):=by
 refine gs1 (nt:=7) Tryz.func77 rfl rfl rfl fun a st hF=>wq<|S.alloc st hF aa rfl rfl fun g2 w1 a st hF=>ns<|wq<|oM hF 1 rfl rfl fun a hF=>?_
 by_cases hc2:c=0
 ·first
  |(exfalso;omega)
  |(refine oT hF 0 (aJ (c:=true) (aD hc2)) rfl rfl fun a hF=>?_
    refine E.nil<|wp_cond_true hF.o<|wq<|S.ck st hF (rgc k40 (aB ah)) ei Rl.cl rfl fun vv4 w3 a st hF=>?_
    obtain⟨r6,rfl⟩:=Rq.fo (st.f 0 rfl).1
    refine so st hF 0 3 0 aa rfl rfl rfl rfl fun w7 a st hF=>nr<|rs Tryz.results77 st hF 3 0 aa rfl rfl rfl ?_
    exact⟨_,rfl,Rq.castM (st.f 0 rfl).1 (by unfold kQ;rw[if_pos hc2];rfl),st.bel⟩)
 ·first
  |(exfalso;omega)
  |(refine oT hF 0 (aJ (c:=false) (aK hc2)) rfl rfl fun a hF=>?_
    refine E.nil<|wp_cond_false hF.o<|wp_skip<|E.norm<|wq<|S.ck st hF (rgc k36 (aA ah ah)) cG Rl.cl rfl fun vv9 w8 a st hF=>?_
    obtain⟨r11,rfl⟩:=Rq.fo (st.f 0 rfl).1
    refine so st hF 0 3 0 aa rfl rfl rfl rfl fun w12 a st hF=>nr<|rs Tryz.results77 st hF 3 0 aa rfl rfl rfl ?_
    exact⟨_,rfl,Rq.castM (st.f 0 rfl).1 (by unfold kQ;rw[if_neg hc2];decide+kernel),st.bel⟩)
theorem yH (v1:Value) (qt:Rat) (k:Nat) (c was:Int) (gk go:Nat) (w:World) (hk0:Blk w gk [iv c]) (ho:Blk w go [iv was]) (hT:a6 w) (h1:Rq w v1 qt) (hl:ag qt k) (hk:k<=100):
 CV 75 #[v1,.pointer (some ⟨gk,0,none⟩),.pointer (some ⟨go,0,none⟩)] w (.bool (ie c was qt)):=by
 refine gs3 (nt:=10) Tryz.func75 rfl rfl rfl fun a st hF=>wq ?_
 obtain⟨r2,rfl⟩:=Rq.fo h1
 refine bx st hF 0 rfl rfl fun g3 w1 a st hF=>?_
 refine oC hF rfl fun a hF=>ns ?_
 refine E.rg 5 aF hF [5,6,7,8,9] [_,_,_,_,.ex (.bool (decide (kX c (qt)≠was)))] (by decide+kernel) rfl rfl rfl ⟨rd rfl rfl fun a' w' hF' hb=>(aq (hF'.at 3 rfl) (cS (v:= iv c) (hk0.below (a5 st.bel hb)) rfl)),rb st aa 1 0 rfl,ck st k30 rfl fun _ s=>bv (eG c _ (qt) k _ (hT.below s.bel) (h1.below s.bel) hl (by omega)),rd rfl rfl fun a' w' hF' hb=>(aq (hF'.at 4 rfl) (cS (v:= iv was) (ho.below (a5 st.bel hb)) rfl)),(by intro a' w' hF' hb hd;have e7:=tE hd 0 rfl;have hkx90592:=nP c (qt);have e8:=tE hd 1 rfl;exact dv0 (ar e7 e8 ab (aM (cQ (c:=decide (kX c (qt)≠was)) rfl) (by simp))) rfl rfl rfl),trivial⟩ ?_
 intro a w3 hF bb hall
 replace st:=st.to bb
 replace hF:=rE hall hF 4 rfl rfl
 clear hall bb
 refine oE hF 0 rfl rfl fun a hF=>nr ?_
 have bel:=st.bel
 refine rt Tryz.results75 hF 0 rfl ?_
 exact⟨rfl,bel⟩
theorem tb (c was:Int) (gk go:Nat) (w:World) (hT:a6 w) (hk0:Blk w gk [iv c]) (ho:Blk w go [iv was]):lf w 75 #[.pointer (some ⟨gk,0,none⟩),.pointer (some ⟨go,0,none⟩)] 100 (ie c was):=
 ⟨⟨_,Tryz.func75,uI.1,uI.2⟩,fun v q w' hb hv hl=>yH v q 100 c was gk go w' (hk0.below hb) (ho.below hb) (hT.below hb) hv hl (by decide)⟩
theorem xx (c:Int) (t:Rat):t+kQ c=pcs c t (((0:Nat):Int)+1):=by rw[iK,show(((0:Nat)):Int)=0 from rfl,kv]
theorem vG (c:Int) (t:Rat) (i:Nat):pcs c t (((i:Nat):Int)+1)=pcs c t (((i+1:Nat)):Int):=by rw[show(((i+1:Nat)):Int)=((i:Nat):Int)+1 by omega]
theorem CW (c:Int) (t:Rat) (i:Nat):pcs c t (((i:Nat):Int)+1)+kQ c=pcs c t ((((i+1:Nat)):Int)+1):=by rw[iK c t (((i+1:Nat)):Int),vG]
theorem Dp {c:Int} (h:0<=c/\c<=4) {t x:Rat} (e:¬ie c (kX c t) x=true):kI c x=kI c t:=by
 unfold ie at e
 rw[gW h.1 h.2,gW h.1 h.2,decide_eq_true_iff] at e
 exact Decidable.not_not.1 e
theorem Dl {c:Int} (h:0<=c/\c<=4) {t x:Rat} (e:ie c (kX c t) x=true):kI c x≠kI c t:=by
 unfold ie at e
 rwa[gW h.1 h.2,gW h.1 h.2,decide_eq_true_iff] at e
theorem tN {c:Int} (h:0<=c/\c<=4) (t:Rat):ie c (kX c t)=gD c (kI c t):=by
 funext x
 unfold ie gD
 rw[gW h.1 h.2,gW h.1 h.2]
theorem BT {c:Int} (h:0<=c/\c<=4) (t:Rat):hlo (ie c (kX c t)) (pcs c t ((bH c t:Nat):Int)) (pcs c t (((bH c t:Nat):Int)+1)) 21=cC c t:=by rw[tN h];rfl
theorem Cg {c:Int} (h:0<=c/\c<=4) (t:Rat):hhi (ie c (kX c t)) (pcs c t ((bH c t:Nat):Int)) (pcs c t (((bH c t:Nat):Int)+1)) 21=bZ c t:=by rw[tN h];rfl
theorem Dq {c:Int} (h:0<=c/\c<=4):¬kP c=0:=by unfold kP;rw[if_pos h];have:=j2 c;omega
theorem pE (c:Int) (v1:Value) (qt:Rat) (k:Nat) (w:World) (hT:a6 w) (h1:Rq w v1 qt) (hl:ag qt k) (hk:k<=25) (hk0:0<=c/\c<=4):
 CP 28 #[iv c,v1] w ((fun e w'=>∃v u,e= .returned (.tuple #[v,u])/\Rq w' v (cC c qt)/\Rq w' u (bZ c qt)/\Below w.heap.size w w')):=by
 refine gs2 (nt:=39) Tryz.func28 rfl rfl rfl fun a st hF=>wq ?_
 refine S.boxI st hF hF.o rfl rfl fun g2 w1 a st hF=>?_
 obtain⟨r3,rfl⟩:=Rq.fo h1
 refine bx st hF 2 rfl rfl fun g3 w2 a st hF=>S.alloc st hF aa rfl rfl fun g4 w4 a st hF=>S.alloc st hF aa rfl rfl fun g5 w5 a st hF=>ns<|wq<|oV hF (aq (hF.at 3 rfl) (cS (v:= iv c) (st.bk 3 rfl) rfl)) rfl fun a hF=>cX st hF (rgc k27 (aB hF.o)) (mz c _) rfl fun w6 a st hF=>oT hF 0 (aJ (c:=false) (aK (Dq hk0))) rfl rfl fun a hF=>?_
 refine E.nil<|wp_cond_false hF.o<|wp_skip<|E.norm<|wq<|oV hF (aq (hF.at 6 rfl) (cS (v:= iv c) (st.bk 3 rfl) rfl)) rfl fun a hF=>oL hF st 6 2 aa rfl rfl rfl rfl fun a hF=>cX st hF (rgc k30 (aA hF.p hF.o)) (eG c _ (qt) k _ (hT.below st.bel) (h1.below st.bel) hl (by omega)) rfl fun w7 a st hF=>?_
 have hkx90592:=nP c (qt)
 refine S.newI st hF 0 rfl dG CF rfl rfl fun g6 w8 a st hF=>?_
 refine nq ?_
 refine oV hF (uX ic (aA (hF.at 10 rfl) hF.o)) rfl fun a hF=>oA hF 0 rfl rfl fun a hF=>ns ?_
 refine E.rga 7 aF hF [19,20,21,22,23,8,9] [_,_,_,_,_,kn w8 [.bool false,.slice none 0 0,.slice none 0 0],kn w8 [.bool false,.slice none 0 0,.slice none 0 0]] [5,6] ⟨fun _ _ ⟨g,e,_,o⟩=>⟨g,e,o.lt⟩,⟨fun _ _ ⟨g,e,_,o⟩=>⟨g,e,o.lt⟩,trivial⟩⟩ (by decide+kernel) rfl rfl rfl ⟨rb st aa 11 3 rfl,rb st aa 11 3 rfl,rd rfl rfl fun a' w' hF' hb=>(aq (hF'.at 12 rfl) (cS (v:= iv c) ((st.bk 4 rfl).below hb) rfl)),ck st k77 rfl fun _ s=>aw (lq c _) (wF c),ck st k76 rfl fun _ s _ x22=>jW ⟨(h1.below s.bel),hl⟩ x22,ra aa rfl rfl,ra aa rfl rfl,trivial⟩ ?_
 intro a w9 hF bb hall hne
 have s0:=st
 replace st:=st.to bb
 replace hF:=rE hall hF 0 rfl rfl
 obtain⟨vv10,hF,st⟩:=rS hall hF st 4 rfl rfl Rl.cl
 obtain⟨r12,rfl⟩:=Rq.fo (st.f 0 rfl).1
 obtain⟨_,e8,g8,rfl,ge8,o8⟩:=sS hall 5 8 rfl rfl
 replace st:=st.push o8.blk (Nat.le_trans s0.bel.size ge8) (s0.ne ge8)
 clear o8
 replace hF:=hF.add e8
 obtain⟨_,e9,g9,rfl,ge9,o9⟩:=sS hall 6 9 rfl rfl
 replace st:=st.push o9.blk (Nat.le_trans s0.bel.size ge9) (fB (fun(e:g8=g9)=>hne 5 6 8 9 rfl rfl (by decide) rfl rfl (by rw[e8,e9,e])) (s0.ne ge9))
 clear o9
 replace hF:=hF.add e9
 clear hall bb hne s0
 refine so st hF 1 1 3 aa rfl rfl rfl rfl fun w13 a st hF=>so st hF 0 0 2 aa rfl rfl rfl rfl fun w14 a st hF=>ns<|wp_block ?_
 refine E.loop (fun mq a wv=>∃(i:Nat) (bb9:Bool) (aa9:Option Addr) (nn9:Nat) (cc9:Nat) (ee9:Option Addr) (mm9:Nat) (dd9:Nat) (bb8:Bool) (aa8:Option Addr) (nn8:Nat) (cc8:Nat) (ee8:Option Addr) (mm8:Nat) (dd8:Nat),i<=bH c qt/\Fr 39 a [(9,.pointer (some ⟨g9,0,none⟩)),(8,.pointer (some ⟨g8,0,none⟩)),(7,.func (.func 75) #[] #[.pointer (some ⟨g2,0,none⟩),.pointer (some ⟨g6,0,none⟩)]),(5,.pointer (some ⟨g5,0,none⟩)),(4,.pointer (some ⟨g4,0,none⟩)),(2,.pointer (some ⟨g2,0,none⟩))]/\St w wv [(g9,[.bool bb9,.slice aa9 nn9 cc9,.slice ee9 mm9 dd9]),(g8,[.bool bb8,.slice aa8 nn8 cc8,.slice ee8 mm8 dd8]),(g6,[iv (kX c (qt))]),(g5,[.bool false,.slice none 0 0,.slice none 0 0]),(g4,[.bool false,.slice none 0 0,.slice none 0 0]),(g2,[iv c])] [fun w=>Rq w (.agg #[.bool bb9,.slice aa9 nn9 cc9,.slice ee9 mm9 dd9]) (pcs c qt ((((i:Nat):Int)+1))),fun w=>Rq w (.agg #[.bool bb8,.slice aa8 nn8 cc8,.slice ee8 mm8 dd8]) (pcs c qt (((i:Nat):Int)))]/\mq=bH c qt-i) ((bH c qt-0)) ?_ ?_
 ·exact⟨0,_,_,_,_,_,_,_,_,_,_,_,_,_,_,(Nat.zero_le _),Fr.pick (L':=[(9,.pointer (some ⟨g9,0,none⟩)),(8,.pointer (some ⟨g8,0,none⟩)),(7,.func (.func 75) #[] #[.pointer (some ⟨g2,0,none⟩),.pointer (some ⟨g6,0,none⟩)]),(5,.pointer (some ⟨g5,0,none⟩)),(4,.pointer (some ⟨g4,0,none⟩)),(2,.pointer (some ⟨g2,0,none⟩))]) hF [0,1,4,13,14,16] rfl,((st.add (Rq.castM (h1.below st.bel) (kv c qt).symm) (Rq.cl _)).add (Rq.castM (st.f 0 rfl).1 (xx c qt)) (Rq.cl _)).pick [0,1,2,3,4,6] [0,1] rfl rfl (by decide),rfl⟩
 ·rintro mq a w15 ⟨i,bb9,aa9,nn9,cc9,ee9,mm9,dd9,bb8,aa8,nn8,cc8,ee8,mm8,dd8,hi,hF,st,hm⟩
  have hps:=(dE hk0.1 hk0.2 qt).1
  have hkm:=vB c
  refine wp_seq<|wq<|oM hF 2 rfl rfl fun a hF=>oL hF st 1 0 aa rfl rfl rfl rfl fun a hF=>cX st hF (ti hF.p Tryz.func75 uI.1 uI.2 (aB hF.o)) ((tb c (kX c (qt)) _ _ _ (hT.below st.bel) (st.bk 5 rfl) (st.bk 2 rfl)).ask _ (pcs c qt (((i:Nat):Int)+1)) _ (Below.refl _ _) (st.f 0 rfl) ((iw (c:=c) hl (i:=(((i:Nat):Int)+1)) (by omega) (by omega)).up _ (by omega))) rfl fun w16 a st hF=>?_
  by_cases hc17:(ie c (kX c (qt))) (pcs c qt (((i:Nat):Int)+1))=true
  ·first
   |(exfalso;omega)
   |(refine oV hF (d9 (Eq.trans hF.o (congrArg Value.bool hc17)) (cZ _ false rfl)) rfl fun a hF=>?_
     refine E.nil<|wp_cond_false hF.o<|wp_exit<|E.past<|E.past<|E.out (id:=0)<|E.norm<|wq<|oL hF st 5 1 aa rfl rfl rfl rfl fun a hF=>oL hF st 5 0 aa rfl rfl rfl rfl fun a hF=>oM hF 8 rfl rfl fun a hF=>?_
     refine S.call2 st hF (rgc k78 (EQ hF.q hF.p ah hF.o)) (BV _ _ _ _ (k+3) (k+3) 21 21 _ _ (ie c (kX c (qt))) _ (st.f 1 rfl) (st.f 0 rfl) (iw (c:=c) hl (i:=((i:Nat):Int)) (by omega) (by omega)) (iw (c:=c) hl (i:=(((i:Nat):Int)+1)) (by omega) (by omega)) (by omega) (by omega) (by decide) (by omega) ((tb c (kX c (qt)) _ _ _ (hT.below st.bel) (st.bk 5 rfl) (st.bk 2 rfl)).to (by omega))) (fun _ _ h=>h) Rq.cl Rq.cl rfl rfl rfl rfl fun vv19 vv20 w18 a st hF=>?_
     obtain⟨r23,rfl⟩:=Rq.fo (st.f 0 rfl)
     obtain⟨r24,rfl⟩:=Rq.fo (st.f 1 rfl)
     refine oV hF (aC (v:= r23.v) hF.o rfl) rfl fun a hF=>oV hF (aC (v:= r24.v) hF.p rfl) rfl fun a hF=>so st hF 4 14 1 aa rfl rfl rfl rfl fun w25 a st hF=>so st hF 3 13 0 aa rfl rfl rfl rfl fun w26 a st hF=>nr ?_
     have bel:=st.bel
     refine bodyPost_ret (hC Tryz.results28 (hF.at 14 rfl) (bi aa (st.bk 4 rfl) rfl) (hF.at 13 rfl) (bi aa (st.bk 3 rfl) rfl)) hF.dfr ?_
     have e:=vj hk0.1 hk0.2 hi (Dl hk0 hc17)
     subst e
     exact⟨_,_,rfl,Rq.castM (st.f 0 rfl) (BT hk0 qt),Rq.castM (st.f 1 rfl) (Cg hk0 qt),bel⟩)
  ·first
   |(exfalso;omega)
   |(refine oV hF (d9 (Eq.trans hF.o (congrArg Value.bool (eq_false_of_ne_true hc17))) (cZ _ true rfl)) rfl fun a hF=>?_
     refine E.nil<|wp_cond_true hF.o<|wp_skip<|E.norm<|wp_block ?_
     refine E.rg 5 aF hF [28,29,30,31,32] [_,_,_,_,_] (by decide+kernel) rfl rfl rfl ⟨rb st aa 4 0 rfl,rb st aa 4 0 rfl,rd rfl rfl fun a' w' hF' hb=>(aq (hF'.at 9 rfl) (cS (v:= iv c) ((st.bk 5 rfl).below hb) rfl)),ck st k77 rfl fun _ s=>aw (lq c _) (wF c),ck st k76 rfl fun _ s _ x31=>jW ⟨(s.f 0 rfl),(iw (c:=c) hl (i:=(((i:Nat):Int)+1)) (by omega) (by omega))⟩ x31,trivial⟩ ?_
     intro a w27 hF bb hall
     replace st:=st.to bb
     replace hF:=rE hall hF 0 rfl rfl
     obtain⟨vv28,hF,st⟩:=rS hall hF st 4 rfl rfl Rl.cl
     obtain⟨r30,rfl⟩:=Rq.fo (st.f 0 rfl).1
     clear hall bb
     refine so st hF 1 7 1 aa rfl rfl rfl rfl fun w31 a st hF=>so st hF 0 6 0 aa rfl rfl rfl rfl fun w32 a st hF=>E.nil0<|E.blk<|E.norm ?_
     have hgo:=zG hk0.1 hk0.2 hi (Dp hk0 hc17)
     exact⟨(bH c qt-(i+1)),by omega,⟨(i+1),_,_,_,_,_,_,_,_,_,_,_,_,_,_,hgo,Fr.pick (L':=[(9,.pointer (some ⟨g9,0,none⟩)),(8,.pointer (some ⟨g8,0,none⟩)),(7,.func (.func 75) #[] #[.pointer (some ⟨g2,0,none⟩),.pointer (some ⟨g6,0,none⟩)]),(5,.pointer (some ⟨g5,0,none⟩)),(4,.pointer (some ⟨g4,0,none⟩)),(2,.pointer (some ⟨g2,0,none⟩))]) hF [6,7,8,9,10,11] rfl,((st.add (Rq.castM (st.f 1 rfl) (vG c qt i)) (Rq.cl _)).add (Rq.castM (st.f 0 rfl).1 (CW c qt i)) (Rq.cl _)).pick [0,1,2,3,4,5] [0,1] rfl rfl (by decide),rfl⟩⟩)
end Go.Proofs.YtgdpkknapcgcbaaGreatDoor
