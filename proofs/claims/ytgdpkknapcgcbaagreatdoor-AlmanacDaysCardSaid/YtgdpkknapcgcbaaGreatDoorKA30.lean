import Derived.Test.YtgdpkknapcgcbaaGreatDoorKA28
import Derived.Test.YtgdpkknapcgcbaaGreatDoorKA29
namespace Go.Proofs.YtgdpkknapcgcbaaGreatDoor
open Go.RowKit
set_option maxRecDepth 100000
set_option linter.unusedVariables false
set_option maxHeartbeats 8000000
theorem zG:(Tryz.f75.name == "runtime.NumGoroutine")=false/\Tryz.f75.body.isNone=false:=⟨by decide+kernel,by kernel_rfl⟩
def kP (c:Int):Int:=if 0<=c/\c<=4 then kN c else 0
def kX (c:Int) (t:Rat):Int:=if 0<=c/\c<=4 then kI c t else 0
def jv (c was:Int) (x:Rat):Bool:=decide (kX c x≠was)
theorem eC {c:Int} (h0:0<=c) (h1:c<=4) (t:Rat):kX c t=kI c t:=if_pos ⟨h0,h1⟩
theorem KF {c:Int} (h:¬(0<=c/\c<=4)) (t:Rat):kX c t=0:=if_neg h
theorem tF (c:Int) (t:Rat):0<=kX c t/\kX c t<=59:=by
 unfold kX
 split
 ·rename_i h
  have:=KC h.1 h.2 t
  have:=mF c
  omega
 ·omega
theorem zY (c:Int):ah (kQ c) 1:=by
 unfold kQ
 split
 ·exact ce (z:=1) (show(1:Int).natAbs <B32^1 by decide+kernel) (by decide)
 ·exact⟨show(1/4:Rat).num.natAbs <B32^1 by decide+kernel,show(1/4:Rat).den <B32^1 by decide+kernel⟩
theorem qQ {place:Nat->Option (Nat×Nat)} {cells:Array Value} {i off:Nat} {k:IntKind} {z:Int} {rest:List (Nat×Value)} (hp:place i=some (off,1)) (hc:off+1<=cells.size):
 Instr.fill place cells ((i,.int k z)::rest)=Instr.fill place (cells.setIfInBounds off (.int k z)) rest:=by
 conv=>lhs;unfold Instr.fill
 rw[hp]
 have h1:(Value.int k z).cells =#[.int k z]:=rfl
 simp only [h1]
 rw[if_neg (by simp;omega)]
 rfl
theorem LK:(Tryz.prog.info? 120).map (·.size)=some 5:=by kernel_rfl
theorem Fm:(Tryz.prog.info? 120).bind (·.zero)=some (.agg #[iv 0,iv 0,iv 0,iv 0,iv 0]):=by kernel_rfl
theorem vV (z0 z1 z2 z3 z4:Int) (w:World):(Instr.build 120 #[(0,iv z0),(1,iv z1),(2,iv z2),(3,iv z3),(4,iv z4)]).run Tryz.prog w= .ok (.agg #[iv z0,iv z1,iv z2,iv z3,iv z4]) w:=by
 have hz:=bO Fm w
 have hs:∀w,(sizeOf 3).run Tryz.prog w= .ok 1 w:=fun w=>aH cE w
 simp only [Instr.build,Sem.run_bind,hz,Result.andThen_ok,run_underlying Tryz.underlying120,hs]
 rw[show(Value.agg #[Value.int .i64 0,Value.int .i64 0,Value.int .i64 0,Value.int .i64 0,Value.int .i64 0]).cells =#[Value.int .i64 0,Value.int .i64 0,Value.int .i64 0,Value.int .i64 0,Value.int .i64 0] from rfl]
 rw[qQ (off:=0) rfl (by simp),qQ (off:=1) rfl (by simp),qQ (off:=2) rfl (by simp),qQ (off:=3) rfl (by simp),qQ (off:=4) rfl (by simp)]
 simp only [List.setIfInBounds_toArray,List.set_cons_zero,List.set_cons_succ]
 rfl
theorem LA {w:World} {g:Nat} {i:Int} (h0:0<=i) (h1:i<5):(Instr.indexAt 120 (.pointer (some ⟨g,0,none⟩)) (iv i)).run Tryz.prog w= .ok (.pointer (some ⟨g,i.toNat,none⟩)) w:=by
 have hs:∀w,(sizeOf 3).run Tryz.prog w= .ok 1 w:=fun w=>aH cE w
 simp[Instr.indexAt,asIntOf,Instr.sureAddr,run_underlying Tryz.underlying120,Sem.run_bind,h0,h1,Addr.add_mid,hs]
theorem Li:Ty Tryz.prog 120 5 [iv 0,iv 0,iv 0,iv 0,iv 0]:=⟨⟨_,Tryz.underlying120,rfl⟩,LK,Fm⟩
theorem Kz {c:Int} (h0:0<=c) (h1:c<5):([12,30,27,27,60].map fun z=>Value.int .i64 z)[c.toNat]?=some (iv (kN c)):=by
 have h:c=0\/c=1\/c=2\/c=3\/c=4:=by omega
 rcases h with rfl|rfl|rfl|rfl|rfl <;> rfl
theorem Jb (t:Rat):kX 0 t=prt (be t) 12:=rfl
theorem Kn (t:Rat):kX 1 t=prt (bK t) 30:=rfl
theorem JO (t:Rat):kX 2 t=prt (bl t) 27:=rfl
theorem Jn (t:Rat):kX 3 t=prt (kv t) 27:=rfl
theorem Jf (t:Rat):kX 4 t=prt (bK t) 60:=rfl
theorem I5 {c:Int} (t:Rat) (h0:¬c=0) (h1:¬c=1) (h2:¬c=2) (h3:¬c=3) (h4:¬c=4):kX c t=0:=KF (by omega) t
theorem oJ (c:Int) (w:World):
 CV 27 #[iv c] w (iv (kP c)):=by
 refine gs1 (nt:=14) Tryz.func27 rfl rfl rfl fun a st hF=>wq ?_
 refine oC hF rfl fun a hF=>nq<|oV hF (aM (tw ao ao ao ao ao) (vV _ _ _ _ _ _)) rfl fun a hF=>S.new st hF 0 rfl Li rfl rfl rfl rfl rfl fun g3 w1 a st hF=>ns<|wq<|oM hF 3 rfl rfl fun a hF=>?_
 by_cases hc2:c<0
 ·first
  |(exfalso;omega)
  |(refine oT hF 0 (bQ (c:=true) (aK hc2)) rfl rfl fun a hF=>?_
    refine oM hF 0 rfl rfl fun a hF=>nu hF 0 rfl rfl rfl fun a hF=>nu hF 1 rfl rfl rfl fun a hF=>oV hF (bF hF.q ao) rfl fun a hF=>E.nil<|wp_cond_true hF.o<|wq ?_
    refine oS hF (bw ao) rfl fun a hF=>nr ?_
    have bel:=st.bel
    refine rt Tryz.results27 hF 0 rfl ?_
    exact⟨bq (by unfold kP;exact(if_neg (by omega)).symm),bel⟩)
 ·first
  |(exfalso;omega)
  |(refine oT hF 0 (bQ (c:=false) (aJ hc2)) rfl rfl fun a hF=>?_
    refine oM hF 0 rfl rfl fun a hF=>og hF (aO (hF.at 6 rfl)) 0 rfl rfl rfl fun a hF=>?_
    by_cases hc3:5<=c
    ·first
     |(exfalso;omega)
     |(refine og hF (au hF.o ao ag (aW (fv (c:=true) (aK hc3)) (by simp))) 1 rfl rfl rfl fun a hF=>?_
       refine oV hF (bB hF.q hF.o) rfl fun a hF=>E.nil<|wp_cond_true hF.o<|wq ?_
       refine oS hF (bw ao) rfl fun a hF=>nr ?_
       have bel:=st.bel
       refine rt Tryz.results27 hF 0 rfl ?_
       exact⟨bq (by unfold kP;exact(if_neg (by omega)).symm),bel⟩)
    ·first
     |(exfalso;omega)
     |(refine og hF (au hF.o ao ag (aW (fv (c:=false) (aJ hc3)) (by simp))) 1 rfl rfl rfl fun a hF=>?_
       refine oV hF (bB hF.q hF.o) rfl fun a hF=>E.nil<|wp_cond_false hF.o<|wp_skip<|E.norm<|wq ?_
       refine oM hF 9 rfl rfl fun a hF=>oV hF (cx (hF.at 7 rfl) hF.o (LA (by omega) (by omega))) rfl fun a hF=>oV hF (ar hF.o (bD (v:= iv (kN c)) (st.bk 0 rfl) (Kz (by omega) (by omega)))) rfl fun a hF=>oE hF 0 rfl rfl fun a hF=>nr ?_
       have bel:=st.bel
       refine rt Tryz.results27 hF 0 rfl ?_
       exact⟨bq (by unfold kP;exact(if_pos (by omega)).symm),bel⟩))
theorem kZ (c:Int) (v1:Value) (qt:Rat) (k:Nat) (w:World) (hT:bI w) (h1:Rq w v1 qt) (hl:ah qt k) (hk:k<=100):
 CV 30 #[iv c,v1] w (iv (kX c qt)):=by
 have hp3:=cr (x:=bK qt) (n:=30) (by omega) (fk _) (eI _)
 have hp6:=cr (x:=bK qt) (n:=60) (by omega) (fk _) (eI _)
 have hp2:=cr (x:=bl qt) (n:=27) (by omega) (jc _) (ir _)
 have hpy:=cr (x:=kv qt) (n:=27) (by omega) (bE aG) (bv aG)
 refine gs2 (nt:=33) Tryz.func30 rfl rfl rfl fun a st hF=>wq ?_
 obtain⟨r2,rfl⟩:=Rq.fo h1
 refine bx st hF 1 rfl rfl fun g3 w1 a st hF=>?_
 refine oC hF rfl fun a hF=>ns<|wq<|oM hF 2 rfl rfl fun a hF=>E.nil<|wp_block<|wq ?_
 by_cases hc3:c=0
 ·first
  |(exfalso;omega)
  |(refine oT hF 0 (aX (c:=true) (aK hc3)) rfl rfl fun a hF=>?_
    refine oA hF 0 rfl rfl fun a hF=>E.nil<|wp_cond_true hF.o<|wq<|oL hF st 4 0 aa rfl rfl rfl rfl fun a hF=>cX st hF (rgc k34 (aD hF.o)) (A5 _ (qt) k _ (hT.below st.bel) (h1.below st.bel) hl (by omega)) rfl fun w4 a st hF=>?_
    refine oE hF 0 rfl rfl fun a hF=>nr ?_
    have bel:=st.bel
    refine rt Tryz.results30 hF 0 rfl ?_
    exact⟨bq (by have e:=Jb qt;rw[hc3];omega),bel⟩)
 ·first
  |(exfalso;omega)
  |(refine oT hF 0 (aX (c:=false) (aJ hc3)) rfl rfl fun a hF=>?_
    refine oA hF 0 rfl rfl fun a hF=>E.nil<|wp_cond_false hF.o<|wq ?_
    by_cases hc5:c=1
    ·first
     |(exfalso;omega)
     |(refine oT hF 2 (aX (c:=true) (aK hc5)) rfl rfl fun a hF=>?_
       refine oA hF 0 rfl rfl fun a hF=>E.nil<|wp_cond_true hF.o<|wq<|oL hF st 6 0 aa rfl rfl rfl rfl fun a hF=>cX st hF (rgc k80 (aD hF.o)) (ze _ (qt) k _ (hT.below st.bel) (h1.below st.bel) hl (by omega)) rfl fun w6 a st hF=>?_
       refine oV hF (au hF.o ao ag (cw (by omega) (by omega))) rfl fun a hF=>oE hF 0 rfl rfl fun a hF=>nr ?_
       have bel:=st.bel
       refine rt Tryz.results30 hF 0 rfl ?_
       exact⟨bq (by have e:=Kn qt;rw[hc5];omega),bel⟩)
    ·first
     |(exfalso;omega)
     |(refine oT hF 2 (aX (c:=false) (aJ hc5)) rfl rfl fun a hF=>?_
       refine oA hF 0 rfl rfl fun a hF=>E.nil<|wp_cond_false hF.o<|wq ?_
       by_cases hc7:c=2
       ·first
        |(exfalso;omega)
        |(refine oT hF 4 (aX (c:=true) (aK hc7)) rfl rfl fun a hF=>?_
          refine oA hF 0 rfl rfl fun a hF=>E.nil<|wp_cond_true hF.o<|wq<|oL hF st 8 0 aa rfl rfl rfl rfl fun a hF=>cX st hF (rgc k81 (aD hF.o)) (mT _ (qt) k _ (hT.below st.bel) (h1.below st.bel) hl (by omega)) rfl fun w8 a st hF=>?_
          refine oV hF (pJ hF.o (AE _ _ _ _ _ _)) rfl fun a hF=>oV hF (au hF.o ao ag (cw (by omega) (by omega))) rfl fun a hF=>oE hF 0 rfl rfl fun a hF=>nr ?_
          have bel:=st.bel
          refine rt Tryz.results30 hF 0 rfl ?_
          exact⟨bq (by have e:=JO qt;rw[hc7];omega),bel⟩)
       ·first
        |(exfalso;omega)
        |(refine oT hF 4 (aX (c:=false) (aJ hc7)) rfl rfl fun a hF=>?_
          refine oA hF 0 rfl rfl fun a hF=>E.nil<|wp_cond_false hF.o<|wq ?_
          by_cases hc9:c=3
          ·first
           |(exfalso;omega)
           |(refine oT hF 6 (aX (c:=true) (aK hc9)) rfl rfl fun a hF=>?_
             refine oA hF 0 rfl rfl fun a hF=>E.nil<|wp_cond_true hF.o<|wq<|oL hF st 10 0 aa rfl rfl rfl rfl fun a hF=>cX st hF (rgc k81 (aD hF.o)) (mT _ (qt) k _ (hT.below st.bel) (h1.below st.bel) hl (by omega)) rfl fun w10 a st hF=>?_
             refine oV hF (pJ hF.o (zU _ _ _ _ _ _)) rfl fun a hF=>oV hF (au hF.o ao ag (cw (by omega) (by omega))) rfl fun a hF=>oE hF 0 rfl rfl fun a hF=>nr ?_
             have bel:=st.bel
             refine rt Tryz.results30 hF 0 rfl ?_
             exact⟨bq (by have e:=Jn qt;rw[hc9];omega),bel⟩)
          ·first
           |(exfalso;omega)
           |(refine oT hF 6 (aX (c:=false) (aJ hc9)) rfl rfl fun a hF=>?_
             refine oA hF 0 rfl rfl fun a hF=>E.nil<|wp_cond_false hF.o<|wq ?_
             by_cases hc11:c=4
             ·first
              |(exfalso;omega)
              |(refine oT hF 8 (aX (c:=true) (aK hc11)) rfl rfl fun a hF=>?_
                refine oA hF 0 rfl rfl fun a hF=>E.nil<|wp_cond_true hF.o<|wq<|oL hF st 12 0 aa rfl rfl rfl rfl fun a hF=>cX st hF (rgc k81 (aD hF.o)) (mT _ (qt) k _ (hT.below st.bel) (h1.below st.bel) hl (by omega)) rfl fun w12 a st hF=>?_
                refine oV hF (pJ hF.o (Ak _ _ _ _ _ _)) rfl fun a hF=>oV hF (au hF.o ao ag (cw (by omega) (by omega))) rfl fun a hF=>oE hF 0 rfl rfl fun a hF=>nr ?_
                have bel:=st.bel
                refine rt Tryz.results30 hF 0 rfl ?_
                exact⟨bq (by have e:=Jf qt;rw[hc11];omega),bel⟩)
             ·first
              |(exfalso;omega)
              |(refine oT hF 8 (aX (c:=false) (aJ hc11)) rfl rfl fun a hF=>?_
                refine oA hF 0 rfl rfl fun a hF=>E.nil<|wp_cond_false hF.o<|wp_skip<|E.blk<|E.norm<|wq ?_
                refine oS hF (bw ao) rfl fun a hF=>nr ?_
                have bel:=st.bel
                refine rt Tryz.results30 hF 0 rfl ?_
                exact⟨bq (I5 qt hc3 hc5 hc7 hc9 hc11).symm,bel⟩)))))
theorem nD (c:Int) (w:World):
 CQ 77 #[iv c] w (kQ c):=by
 refine gs1 (nt:=7) Tryz.func77 rfl rfl rfl fun a st hF=>wq<|S.alloc st hF aa rfl rfl fun g2 w1 a st hF=>ns<|wq<|oM hF 1 rfl rfl fun a hF=>?_
 by_cases hc2:c=0
 ·first
  |(exfalso;omega)
  |(refine oT hF 0 (aX (c:=true) (aK hc2)) rfl rfl fun a hF=>?_
    refine E.nil<|wp_cond_true hF.o<|wq<|S.ck st hF (rgc k40 (aD ao)) fj Rl.cl rfl fun vv4 w3 a st hF=>?_
    obtain⟨r6,rfl⟩:=Rq.fo (st.f 0 rfl).1
    refine so st hF 0 3 0 aa rfl rfl rfl rfl fun w7 a st hF=>nr<|rs Tryz.results77 st hF 3 0 aa rfl rfl rfl ?_
    exact⟨_,rfl,Rq.castM (st.f 0 rfl).1 (by unfold kQ;rw[if_pos hc2];rfl),st.bel⟩)
 ·first
  |(exfalso;omega)
  |(refine oT hF 0 (aX (c:=false) (aJ hc2)) rfl rfl fun a hF=>?_
    refine E.nil<|wp_cond_false hF.o<|wp_skip<|E.norm<|wq<|S.ck st hF (rgc k36 (aB ao ao)) dB Rl.cl rfl fun vv9 w8 a st hF=>?_
    obtain⟨r11,rfl⟩:=Rq.fo (st.f 0 rfl).1
    refine so st hF 0 3 0 aa rfl rfl rfl rfl fun w12 a st hF=>nr<|rs Tryz.results77 st hF 3 0 aa rfl rfl rfl ?_
    exact⟨_,rfl,Rq.castM (st.f 0 rfl).1 (by unfold kQ;rw[if_neg hc2];decide+kernel),st.bel⟩)
theorem C1 (v1:Value) (qt:Rat) (k:Nat) (c was:Int) (gk go:Nat) (w:World) (hk0:Blk w gk [iv c]) (ho:Blk w go [iv was]) (hT:bI w) (h1:Rq w v1 qt) (hl:ah qt k) (hk:k<=100):
 CV 75 #[v1,.pointer (some ⟨gk,0,none⟩),.pointer (some ⟨go,0,none⟩)] w (.bool (jv c was qt)):=by
 refine gs3 (nt:=10) Tryz.func75 rfl rfl rfl fun a st hF=>wq ?_
 obtain⟨r2,rfl⟩:=Rq.fo h1
 refine bx st hF 0 rfl rfl fun g3 w1 a st hF=>?_
 refine oC hF rfl fun a hF=>ns ?_
 refine E.rg 5 az hF [5,6,7,8,9] [_,_,_,_,.ex (.bool (decide (kX c (qt)≠was)))] (by decide+kernel) rfl rfl rfl ⟨rd rfl rfl fun a' w' hF' hb=>(ar (hF'.at 3 rfl) (bD (v:= iv c) (hk0.below (aA st.bel hb)) rfl)),rb st aa 1 0 rfl,ck st k30 rfl fun _ s=>aY (kZ c _ (qt) k _ (hT.below s.bel) (h1.below s.bel) hl (by omega)),rd rfl rfl fun a' w' hF' hb=>(ar (hF'.at 4 rfl) (bD (v:= iv was) (ho.below (aA st.bel hb)) rfl)),(by intro a' w' hF' hb hd;have e7:=tE hd 0 rfl;have hkx90592:=tF c (qt);have e8:=tE hd 1 rfl;exact dv0 (au e7 e8 ag (aW (dA (c:=decide (kX c (qt)≠was)) rfl) (by simp))) rfl rfl rfl),trivial⟩ ?_
 intro a w3 hF bb hall
 replace st:=st.to bb
 replace hF:=rE hall hF 4 rfl rfl
 clear hall bb
 refine oE hF 0 rfl rfl fun a hF=>nr ?_
 have bel:=st.bel
 refine rt Tryz.results75 hF 0 rfl ?_
 exact⟨rfl,bel⟩
theorem yh (c was:Int) (gk go:Nat) (w:World) (hT:bI w) (hk0:Blk w gk [iv c]) (ho:Blk w go [iv was]):mW w 75 #[.pointer (some ⟨gk,0,none⟩),.pointer (some ⟨go,0,none⟩)] 100 (jv c was):=
 ⟨⟨_,Tryz.func75,zG.1,zG.2⟩,fun v q w' hb hv hl=>C1 v q 100 c was gk go w' (hk0.below hb) (ho.below hb) (hT.below hb) hv hl (by decide)⟩
theorem Be (c:Int) (t:Rat):t+kQ c=pcs c t (((0:Nat):Int)+1):=by rw[j3,show(((0:Nat)):Int)=0 from rfl,mu]
theorem zO (c:Int) (t:Rat) (i:Nat):pcs c t (((i:Nat):Int)+1)=pcs c t (((i+1:Nat)):Int):=by rw[show(((i+1:Nat)):Int)=((i:Nat):Int)+1 by omega]
theorem Jw (c:Int) (t:Rat) (i:Nat):pcs c t (((i:Nat):Int)+1)+kQ c=pcs c t ((((i+1:Nat)):Int)+1):=by rw[j3 c t (((i+1:Nat)):Int),zO]
theorem Ie {c:Int} (h:0<=c/\c<=4) {t x:Rat} (e:¬jv c (kX c t) x=true):kI c x=kI c t:=by
 unfold jv at e
 rw[eC h.1 h.2,eC h.1 h.2,decide_eq_true_iff] at e
 exact Decidable.not_not.1 e
theorem IP {c:Int} (h:0<=c/\c<=4) {t x:Rat} (e:jv c (kX c t) x=true):kI c x≠kI c t:=by
 unfold jv at e
 rwa[eC h.1 h.2,eC h.1 h.2,decide_eq_true_iff] at e
theorem xC {c:Int} (h:0<=c/\c<=4) (t:Rat):jv c (kX c t)=iP c (kI c t):=by
 funext x
 unfold jv iP
 rw[eC h.1 h.2,eC h.1 h.2]
theorem Hi {c:Int} (h:0<=c/\c<=4) (t:Rat):hlo (jv c (kX c t)) (pcs c t ((cy c t:Nat):Int)) (pcs c t (((cy c t:Nat):Int)+1)) 21=dS c t:=by rw[xC h];rfl
theorem He {c:Int} (h:0<=c/\c<=4) (t:Rat):hhi (jv c (kX c t)) (pcs c t ((cy c t:Nat):Int)) (pcs c t (((cy c t:Nat):Int)+1)) 21=dU c t:=by rw[xC h];rfl
theorem Ku {c:Int} (h:0<=c/\c<=4):¬kP c=0:=by unfold kP;rw[if_pos h];have:=mF c;omega
theorem AX (c:Int) (v1:Value) (qt:Rat) (k:Nat) (w:World) (hT:bI w) (h1:Rq w v1 qt) (hl:ah qt k) (hk:k<=25) (hk0:0<=c/\c<=4):
 CP 28 #[iv c,v1] w ((fun e w'=>∃v u,e= .returned (.tuple #[v,u])/\Rq w' v (dS c qt)/\Rq w' u (dU c qt)/\Below w.heap.size w w')):=by
 refine gs2 (nt:=39) Tryz.func28 rfl rfl rfl fun a st hF=>wq ?_
 refine S.boxI st hF hF.o rfl rfl fun g2 w1 a st hF=>?_
 obtain⟨r3,rfl⟩:=Rq.fo h1
 refine bx st hF 2 rfl rfl fun g3 w2 a st hF=>S.alloc st hF aa rfl rfl fun g4 w4 a st hF=>S.alloc st hF aa rfl rfl fun g5 w5 a st hF=>ns<|wq<|oV hF (ar (hF.at 3 rfl) (bD (v:= iv c) (st.bk 3 rfl) rfl)) rfl fun a hF=>cX st hF (rgc k27 (aD hF.o)) (oJ c _) rfl fun w6 a st hF=>oT hF 0 (aX (c:=false) (aJ (Ku hk0))) rfl rfl fun a hF=>?_
 refine E.nil<|wp_cond_false hF.o<|wp_skip<|E.norm<|wq<|oV hF (ar (hF.at 6 rfl) (bD (v:= iv c) (st.bk 3 rfl) rfl)) rfl fun a hF=>oL hF st 6 2 aa rfl rfl rfl rfl fun a hF=>cX st hF (rgc k30 (aB hF.p hF.o)) (kZ c _ (qt) k _ (hT.below st.bel) (h1.below st.bel) hl (by omega)) rfl fun w7 a st hF=>?_
 have hkx90592:=tF c (qt)
 refine S.newI st hF 0 rfl cE Jm rfl rfl fun g6 w8 a st hF=>?_
 refine nq ?_
 refine oV hF (yY pT (aB (hF.at 10 rfl) hF.o)) rfl fun a hF=>oA hF 0 rfl rfl fun a hF=>ns ?_
 refine E.rga 7 az hF [19,20,21,22,23,8,9] [_,_,_,_,_,kn w8 [.bool false,.slice none 0 0,.slice none 0 0],kn w8 [.bool false,.slice none 0 0,.slice none 0 0]] [5,6] ⟨fun _ _ ⟨g,e,_,o⟩=>⟨g,e,o.lt⟩,⟨fun _ _ ⟨g,e,_,o⟩=>⟨g,e,o.lt⟩,trivial⟩⟩ (by decide+kernel) rfl rfl rfl ⟨rb st aa 11 3 rfl,rb st aa 11 3 rfl,rd rfl rfl fun a' w' hF' hb=>(ar (hF'.at 12 rfl) (bD (v:= iv c) ((st.bk 4 rfl).below hb) rfl)),ck st k77 rfl fun _ s=>aF (nD c _) (zY c),ck st k76 rfl fun _ s _ x22=>lX ⟨(h1.below s.bel),hl⟩ x22,ra aa rfl rfl,ra aa rfl rfl,trivial⟩ ?_
 intro a w9 hF bb hall hne
 have s0:=st
 replace st:=st.to bb
 replace hF:=rE hall hF 0 rfl rfl
 obtain⟨vv10,hF,st⟩:=rS hall hF st 4 rfl rfl Rl.cl
 obtain⟨r12,rfl⟩:=Rq.fo (st.f 0 rfl).1
 obtain⟨_,e8,g8,rfl,ge8,o8⟩:=sS hall 5 8 rfl rfl
 replace st:=st.push o8.blk (Nat.le_trans s0.bel.size ge8) (s0.ne ge8)
 clear o8
 replace hF:=hF.add e8
 obtain⟨_,e9,g9,rfl,ge9,o9⟩:=sS hall 6 9 rfl rfl
 replace st:=st.push o9.blk (Nat.le_trans s0.bel.size ge9) (ie (fun(e:g8=g9)=>hne 5 6 8 9 rfl rfl (by decide) rfl rfl (by rw[e8,e9,e])) (s0.ne ge9))
 clear o9
 replace hF:=hF.add e9
 clear hall bb hne s0
 refine so st hF 1 1 3 aa rfl rfl rfl rfl fun w13 a st hF=>so st hF 0 0 2 aa rfl rfl rfl rfl fun w14 a st hF=>ns<|wp_block ?_
 refine E.loop (fun mq a wv=>∃(i:Nat) (bb9:Bool) (aa9:Option Addr) (nn9:Nat) (cc9:Nat) (ee9:Option Addr) (mm9:Nat) (dd9:Nat) (bb8:Bool) (aa8:Option Addr) (nn8:Nat) (cc8:Nat) (ee8:Option Addr) (mm8:Nat) (dd8:Nat),i<=cy c qt/\Fr 39 a [(9,.pointer (some ⟨g9,0,none⟩)),(8,.pointer (some ⟨g8,0,none⟩)),(7,.func (.func 75) #[] #[.pointer (some ⟨g2,0,none⟩),.pointer (some ⟨g6,0,none⟩)]),(5,.pointer (some ⟨g5,0,none⟩)),(4,.pointer (some ⟨g4,0,none⟩)),(2,.pointer (some ⟨g2,0,none⟩))]/\St w wv [(g9,[.bool bb9,.slice aa9 nn9 cc9,.slice ee9 mm9 dd9]),(g8,[.bool bb8,.slice aa8 nn8 cc8,.slice ee8 mm8 dd8]),(g6,[iv (kX c (qt))]),(g5,[.bool false,.slice none 0 0,.slice none 0 0]),(g4,[.bool false,.slice none 0 0,.slice none 0 0]),(g2,[iv c])] [fun w=>Rq w (.agg #[.bool bb9,.slice aa9 nn9 cc9,.slice ee9 mm9 dd9]) (pcs c qt ((((i:Nat):Int)+1))),fun w=>Rq w (.agg #[.bool bb8,.slice aa8 nn8 cc8,.slice ee8 mm8 dd8]) (pcs c qt (((i:Nat):Int)))]/\mq=cy c qt-i) ((cy c qt-0)) ?_ ?_
 ·exact⟨0,_,_,_,_,_,_,_,_,_,_,_,_,_,_,(Nat.zero_le _),Fr.pick (L':=[(9,.pointer (some ⟨g9,0,none⟩)),(8,.pointer (some ⟨g8,0,none⟩)),(7,.func (.func 75) #[] #[.pointer (some ⟨g2,0,none⟩),.pointer (some ⟨g6,0,none⟩)]),(5,.pointer (some ⟨g5,0,none⟩)),(4,.pointer (some ⟨g4,0,none⟩)),(2,.pointer (some ⟨g2,0,none⟩))]) hF [0,1,4,13,14,16] rfl,((st.add (Rq.castM (h1.below st.bel) (mu c qt).symm) (Rq.cl _)).add (Rq.castM (st.f 0 rfl).1 (Be c qt)) (Rq.cl _)).pick [0,1,2,3,4,6] [0,1] rfl rfl (by decide),rfl⟩
 ·rintro mq a w15 ⟨i,bb9,aa9,nn9,cc9,ee9,mm9,dd9,bb8,aa8,nn8,cc8,ee8,mm8,dd8,hi,hF,st,hm⟩
  have hps:=(fi hk0.1 hk0.2 qt).1
  have hkm:=EH c
  refine wp_seq<|wq<|oM hF 2 rfl rfl fun a hF=>oL hF st 1 0 aa rfl rfl rfl rfl fun a hF=>cX st hF (xH hF.p Tryz.func75 zG.1 zG.2 (aD hF.o)) ((yh c (kX c (qt)) _ _ _ (hT.below st.bel) (st.bk 5 rfl) (st.bk 2 rfl)).ask _ (pcs c qt (((i:Nat):Int)+1)) _ (Below.refl _ _) (st.f 0 rfl) ((oi (c:=c) hl (i:=(((i:Nat):Int)+1)) (by omega) (by omega)).up _ (by omega))) rfl fun w16 a st hF=>?_
  by_cases hc17:(jv c (kX c (qt))) (pcs c qt (((i:Nat):Int)+1))=true
  ·first
   |(exfalso;omega)
   |(refine oV hF (ju (Eq.trans hF.o (congrArg Value.bool hc17)) (je _ false rfl)) rfl fun a hF=>?_
     refine E.nil<|wp_cond_false hF.o<|wp_exit<|E.past<|E.past<|E.out (id:=0)<|E.norm<|wq<|oL hF st 5 1 aa rfl rfl rfl rfl fun a hF=>oL hF st 5 0 aa rfl rfl rfl rfl fun a hF=>oM hF 8 rfl rfl fun a hF=>?_
     refine S.call2 st hF (rgc k78 (K6 hF.q hF.p ao hF.o)) (FE _ _ _ _ (k+3) (k+3) 21 21 _ _ (jv c (kX c (qt))) _ (st.f 1 rfl) (st.f 0 rfl) (oi (c:=c) hl (i:=((i:Nat):Int)) (by omega) (by omega)) (oi (c:=c) hl (i:=(((i:Nat):Int)+1)) (by omega) (by omega)) (by omega) (by omega) (by decide) (by omega) ((yh c (kX c (qt)) _ _ _ (hT.below st.bel) (st.bk 5 rfl) (st.bk 2 rfl)).to (by omega))) (fun _ _ h=>h) Rq.cl Rq.cl rfl rfl rfl rfl fun vv19 vv20 w18 a st hF=>?_
     obtain⟨r23,rfl⟩:=Rq.fo (st.f 0 rfl)
     obtain⟨r24,rfl⟩:=Rq.fo (st.f 1 rfl)
     refine oV hF (aP (v:= r23.v) hF.o rfl) rfl fun a hF=>oV hF (aP (v:= r24.v) hF.p rfl) rfl fun a hF=>so st hF 4 14 1 aa rfl rfl rfl rfl fun w25 a st hF=>so st hF 3 13 0 aa rfl rfl rfl rfl fun w26 a st hF=>nr ?_
     have bel:=st.bel
     refine bodyPost_ret (fc Tryz.results28 (hF.at 14 rfl) (a8 aa (st.bk 4 rfl) rfl) (hF.at 13 rfl) (a8 aa (st.bk 3 rfl) rfl)) hF.dfr ?_
     have e:=yD hk0.1 hk0.2 hi (IP hk0 hc17)
     subst e
     exact⟨_,_,rfl,Rq.castM (st.f 0 rfl) (Hi hk0 qt),Rq.castM (st.f 1 rfl) (He hk0 qt),bel⟩)
  ·first
   |(exfalso;omega)
   |(refine oV hF (ju (Eq.trans hF.o (congrArg Value.bool (eq_false_of_ne_true hc17))) (je _ true rfl)) rfl fun a hF=>?_
     refine E.nil<|wp_cond_true hF.o<|wp_skip<|E.norm<|wp_block ?_
     refine E.rg 5 az hF [28,29,30,31,32] [_,_,_,_,_] (by decide+kernel) rfl rfl rfl ⟨rb st aa 4 0 rfl,rb st aa 4 0 rfl,rd rfl rfl fun a' w' hF' hb=>(ar (hF'.at 9 rfl) (bD (v:= iv c) ((st.bk 5 rfl).below hb) rfl)),ck st k77 rfl fun _ s=>aF (nD c _) (zY c),ck st k76 rfl fun _ s _ x31=>lX ⟨(s.f 0 rfl),(oi (c:=c) hl (i:=(((i:Nat):Int)+1)) (by omega) (by omega))⟩ x31,trivial⟩ ?_
     intro a w27 hF bb hall
     replace st:=st.to bb
     replace hF:=rE hall hF 0 rfl rfl
     obtain⟨vv28,hF,st⟩:=rS hall hF st 4 rfl rfl Rl.cl
     obtain⟨r30,rfl⟩:=Rq.fo (st.f 0 rfl).1
     clear hall bb
     refine so st hF 1 7 1 aa rfl rfl rfl rfl fun w31 a st hF=>so st hF 0 6 0 aa rfl rfl rfl rfl fun w32 a st hF=>E.nil0<|E.blk<|E.norm ?_
     have hgo:=DA hk0.1 hk0.2 hi (Ie hk0 hc17)
     exact⟨(cy c qt-(i+1)),by omega,⟨(i+1),_,_,_,_,_,_,_,_,_,_,_,_,_,_,hgo,Fr.pick (L':=[(9,.pointer (some ⟨g9,0,none⟩)),(8,.pointer (some ⟨g8,0,none⟩)),(7,.func (.func 75) #[] #[.pointer (some ⟨g2,0,none⟩),.pointer (some ⟨g6,0,none⟩)]),(5,.pointer (some ⟨g5,0,none⟩)),(4,.pointer (some ⟨g4,0,none⟩)),(2,.pointer (some ⟨g2,0,none⟩))]) hF [6,7,8,9,10,11] rfl,((st.add (Rq.castM (st.f 1 rfl) (zO c qt i)) (Rq.cl _)).add (Rq.castM (st.f 0 rfl).1 (Jw c qt i)) (Rq.cl _)).pick [0,1,2,3,4,5] [0,1] rfl rfl (by decide),rfl⟩⟩)
end Go.Proofs.YtgdpkknapcgcbaaGreatDoor
