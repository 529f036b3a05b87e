import Derived.Test.YtplngpfpcheofaaGreatDoorKE36
import Derived.Test.YtplngpfpcheofaaGreatDoorKE37
namespace Go.Proofs.YtplngpfpcheofaaGreatDoor
open Go.RowKit
set_option maxRecDepth 100000
set_option linter.unusedVariables false
set_option maxHeartbeats 8000000
theorem qD:(Tryz.f74.name == "runtime.NumGoroutine")=false∧Tryz.f74.body.isNone=false:=⟨by decide+kernel,by kernel_rfl⟩
theorem xm {a b:Rat}:qc a b<0↔a<b:=by
 rw[nT]
 split
 ·rename_i h;exact⟨fun _=>h,fun _=>by decide⟩
 ·rename_i h;exact⟨fun e=>absurd e (by split <;> decide),fun e=>absurd e h⟩
def kP (c:Int):Int:=if 0≤c∧c≤4 then kN c else 0
def kX (c:Int) (t:Rat):Int:=if 0≤c∧c≤4 then kI c t else 0
def br (c was:Int) (x:Rat):Bool:=decide (kX c x≠was)
theorem el {c:Int} (h0:0≤c) (h1:c≤4) (t:Rat):kX c t=kI c t:=if_pos ⟨h0,h1⟩
theorem vd {c:Int} (h:¬(0≤c∧c≤4)) (t:Rat):kX c t=0:=if_neg h
theorem fH (c:Int) (t:Rat):0≤kX c t∧kX c t≤59:=by
 unfold kX
 split
 ·rename_i h
  have:=zO h.1 h.2 t
  have:=ls c
  omega
 ·omega
theorem rF (c:Int):az (kQ c) 1:=by
 unfold kQ
 split
 ·exact aN (z:=1) (show(1:Int).natAbs <B32^1 by decide+kernel) (by decide)
 ·exact⟨show(1/4:Rat).num.natAbs <B32^1 by decide+kernel,show(1/4:Rat).den <B32^1 by decide+kernel⟩
theorem kV {place:Nat→Option (Nat×Nat)} {cells:Array Value} {i off:Nat} {k:IntKind} {z:Int} {rest:List (Nat×Value)} (hp:place i=some (off,1)) (hc:off+1≤cells.size):
 Instr.fill place cells ((i,.int k z)::rest)=Instr.fill place (cells.setIfInBounds off (.int k z)) rest:=by
 conv=>lhs;unfold Instr.fill
 rw[hp]
 have h1:(Value.int k z).cells =#[.int k z]:=rfl
 simp only [h1]
 rw[if_neg (by simp;omega)]
 rfl
theorem zz:(Tryz.prog.info? 87).map (·.size)=some 5:=by kernel_rfl
theorem vz:(Tryz.prog.info? 87).bind (·.zero)=some (.agg #[.int .i64 0,.int .i64 0,.int .i64 0,.int .i64 0,.int .i64 0]):=by kernel_rfl
theorem oI (z0 z1 z2 z3 z4:Int) (w:World):(Instr.build 87 #[(0,.int .i64 z0),(1,.int .i64 z1),(2,.int .i64 z2),(3,.int .i64 z3),(4,.int .i64 z4)]).run Tryz.prog w= .ok (.agg #[.int .i64 z0,.int .i64 z1,.int .i64 z2,.int .i64 z3,.int .i64 z4]) w:=by
 have hz:=dv vz w
 have hs:∀w,(sizeOf 3).run Tryz.prog w= .ok 1 w:=fun w=>bF eC w
 simp only [Instr.build,Sem.run_bind,hz,Result.andThen_ok,run_underlying Tryz.underlying87,hs]
 rw[show(Value.agg #[Value.int .i64 0,Value.int .i64 0,Value.int .i64 0,Value.int .i64 0,Value.int .i64 0]).cells =#[Value.int .i64 0,Value.int .i64 0,Value.int .i64 0,Value.int .i64 0,Value.int .i64 0] from rfl]
 rw[kV (off:=0) rfl (by simp),kV (off:=1) rfl (by simp),kV (off:=2) rfl (by simp),kV (off:=3) rfl (by simp),kV (off:=4) rfl (by simp)]
 simp only [List.setIfInBounds_toArray,List.set_cons_zero,List.set_cons_succ]
 rfl
theorem zv {w:World} {g:Nat} {i:Int} (h0:0≤i) (h1:i<5):(Instr.indexAt 87 (.pointer (some ⟨g,0,none⟩)) (.int .i64 i)).run Tryz.prog w= .ok (.pointer (some ⟨g,i.toNat,none⟩)) w:=by
 have hs:∀w,(sizeOf 3).run Tryz.prog w= .ok 1 w:=fun w=>bF eC w
 simp[Instr.indexAt,asIntOf,Instr.sureAddr,run_underlying Tryz.underlying87,Sem.run_bind,h0,h1,Addr.add_mid,hs]
theorem z5:Ty Tryz.prog 87 5 [.int .i64 0,.int .i64 0,.int .i64 0,.int .i64 0,.int .i64 0]:=⟨⟨_,Tryz.underlying87,rfl⟩,zz,vz⟩
theorem zr {c:Int} (h0:0≤c) (h1:c<5):([12,30,27,27,60].map fun z=>Value.int .i64 z)[c.toNat]?=some (.int .i64 (kN c)):=by
 have h:c=0∨c=1∨c=2∨c=3∨c=4:=by omega
 rcases h with rfl|rfl|rfl|rfl|rfl <;> rfl
theorem yJ (t:Rat):kX 0 t=prt (bi t) 12:=rfl
theorem xZ (t:Rat):kX 1 t=prt (bq t) 30:=rfl
theorem yt (t:Rat):kX 2 t=prt (aU t) 27:=rfl
theorem xI (t:Rat):kX 3 t=prt (gZ t) 27:=rfl
theorem yQ (t:Rat):kX 4 t=prt (bq t) 60:=rfl
theorem yh {c:Int} (t:Rat) (h0:¬c=0) (h1:¬c=1) (h2:¬c=2) (h3:¬c=3) (h4:¬c=4):kX c t=0:=vd (by omega) t
theorem ef (c:Int) (w:World):
 Calls Tryz.prog 36 #[.int .i64 c] w (aX w (.int .i64 (kP c))):=by
 have st:=St.start w
 refine go1 (nt:=14) Tryz.func36 rfl rfl rfl fun a hF=>?_
 refine wq ?_
 refine oC hF rfl fun a hF=>?_
 refine nq ?_
 refine oV hF (aW (rg ao ao ao ao ao) (oI _ _ _ _ _ _)) rfl fun a hF=>?_
 refine S.new st hF 0 rfl z5 rfl rfl rfl rfl rfl fun g3 w1 a st hF=>?_
 refine ns ?_
 refine wq ?_
 refine oM hF 3 rfl rfl fun a hF=>?_
 by_cases hc2:c<0
 ·first
  |(exfalso;omega)
  |(refine oV hF (av (hF.at 0 rfl) ao ab (aC (ce (c:=true) (aP hc2)) (by simp))) rfl fun a hF=>?_
    refine oM hF 0 rfl rfl fun a hF=>?_
    refine E.unwanted hF (aq rfl rfl (hF.at 0 rfl) rfl) rfl rfl rfl fun a hF=>?_
    refine E.unwanted hF (aq rfl rfl (hF.at 1 rfl) rfl) rfl rfl rfl fun a hF=>?_
    refine oV hF (bR (hF.at 2 rfl) ao) rfl fun a hF=>?_
    refine E.nil ?_
    refine wp_cond_true (hF.at 0 rfl) ?_
    refine wq ?_
    refine oS hF (bz ao) rfl fun a hF=>?_
    refine nr ?_
    have bel:=st.bel
    refine rt Tryz.results36 hF 0 rfl ?_
    exact⟨bB (by unfold kP;exact(if_neg (by omega)).symm),bel⟩)
 ·first
  |(exfalso;omega)
  |(refine oV hF (av (hF.at 0 rfl) ao ab (aC (ce (c:=false) (aZ hc2)) (by simp))) rfl fun a hF=>?_
    refine oM hF 0 rfl rfl fun a hF=>?_
    refine E.opvg hF (aY (hF.at 6 rfl)) (aq rfl rfl (hF.at 0 rfl) rfl) rfl rfl rfl fun a hF=>?_
    by_cases hc3:5≤c
    ·first
     |(exfalso;omega)
     |(refine E.opvg hF (av (hF.at 0 rfl) ao ab (aC (gK (c:=true) (aP hc3)) (by simp))) (aq rfl rfl (hF.at 1 rfl) rfl) rfl rfl rfl fun a hF=>?_
       refine oV hF (dt (hF.at 2 rfl) (hF.at 0 rfl)) rfl fun a hF=>?_
       refine E.nil ?_
       refine wp_cond_true (hF.at 0 rfl) ?_
       refine wq ?_
       refine oS hF (bz ao) rfl fun a hF=>?_
       refine nr ?_
       have bel:=st.bel
       refine rt Tryz.results36 hF 0 rfl ?_
       exact⟨bB (by unfold kP;exact(if_neg (by omega)).symm),bel⟩)
    ·first
     |(exfalso;omega)
     |(refine E.opvg hF (av (hF.at 0 rfl) ao ab (aC (gK (c:=false) (aZ hc3)) (by simp))) (aq rfl rfl (hF.at 1 rfl) rfl) rfl rfl rfl fun a hF=>?_
       refine oV hF (dt (hF.at 2 rfl) (hF.at 0 rfl)) rfl fun a hF=>?_
       refine E.nil ?_
       refine wp_cond_false (hF.at 0 rfl) ?_
       refine wp_skip ?_
       refine E.norm ?_
       refine wq ?_
       refine oM hF 9 rfl rfl fun a hF=>?_
       refine oV hF (iC (hF.at 7 rfl) (hF.at 0 rfl) (zv (by omega) (by omega))) rfl fun a hF=>?_
       refine oV hF (aw (hF.at 0 rfl) (cL (v:= .int .i64 (kN c)) (st.bk 0 rfl) (zr (by omega) (by omega)))) rfl fun a hF=>?_
       refine oE hF 0 rfl rfl fun a hF=>?_
       refine nr ?_
       have bel:=st.bel
       refine rt Tryz.results36 hF 0 rfl ?_
       exact⟨bB (by unfold kP;exact(if_pos (by omega)).symm),bel⟩))
theorem ee (c:Int) (v1:Value) (qt:Rat) (k:Nat) (w:World) (hT:cG w) (h1:Rq w v1 qt) (hl:az qt k) (hk:k≤100):
 Calls Tryz.prog 33 #[.int .i64 c,v1] w (aX w (.int .i64 (kX c qt))):=by
 have hp3:=cj (x:=bq qt) (n:=30) (by omega) (dX _) (dI _)
 have hp6:=cj (x:=bq qt) (n:=60) (by omega) (dX _) (dI _)
 have hp2:=cj (x:=aU qt) (n:=27) (by omega) (ga _) (fz _)
 have hpy:=cj (x:=gZ qt) (n:=27) (by omega) (bT aM) (bH aM)
 have st:=St.start w
 refine go2 (nt:=33) Tryz.func33 rfl rfl rfl fun a hF=>?_
 refine wq ?_
 obtain⟨r2,rfl⟩:=Rq.fo h1
 refine bx st hF 1 rfl rfl fun g3 w1 a st hF=>?_
 refine oC hF rfl fun a hF=>?_
 refine ns ?_
 refine wq ?_
 refine oM hF 2 rfl rfl fun a hF=>?_
 refine E.nil ?_
 refine wp_block ?_
 refine wq ?_
 by_cases hc3:c=0
 ·first
  |(exfalso;omega)
  |(refine oV hF (av (hF.at 0 rfl) ao ab (aC (aK (c:=true) (aP hc3)) (by simp))) rfl fun a hF=>?_
    refine oA hF 0 rfl rfl fun a hF=>?_
    refine E.nil ?_
    refine wp_cond_true (hF.at 0 rfl) ?_
    refine wq ?_
    refine oL hF st 4 0 ag rfl rfl rfl rfl fun a hF=>?_
    refine cX st hF (rk k30 (aB (hF.at 0 rfl))) (sT _ (qt) k _ (hT.below st.bel) (h1.below st.bel) hl (by omega)) rfl fun w4 a st hF=>?_
    refine oE hF 0 rfl rfl fun a hF=>?_
    refine nr ?_
    have bel:=st.bel
    refine rt Tryz.results33 hF 0 rfl ?_
    exact⟨bB (by have e:=yJ qt;rw[hc3];omega),bel⟩)
 ·first
  |(exfalso;omega)
  |(refine oV hF (av (hF.at 0 rfl) ao ab (aC (aK (c:=false) (aZ hc3)) (by simp))) rfl fun a hF=>?_
    refine oA hF 0 rfl rfl fun a hF=>?_
    refine E.nil ?_
    refine wp_cond_false (hF.at 0 rfl) ?_
    refine wq ?_
    by_cases hc5:c=1
    ·first
     |(exfalso;omega)
     |(refine oV hF (av (hF.at 2 rfl) ao ab (aC (aK (c:=true) (aP hc5)) (by simp))) rfl fun a hF=>?_
       refine oA hF 0 rfl rfl fun a hF=>?_
       refine E.nil ?_
       refine wp_cond_true (hF.at 0 rfl) ?_
       refine wq ?_
       refine oL hF st 6 0 ag rfl rfl rfl rfl fun a hF=>?_
       refine cX st hF (rk k42 (aB (hF.at 0 rfl))) (rm _ (qt) k _ (hT.below st.bel) (h1.below st.bel) hl (by omega)) rfl fun w6 a st hF=>?_
       refine oV hF (av (hF.at 0 rfl) ao ab (cC (by omega) (by omega))) rfl fun a hF=>?_
       refine oE hF 0 rfl rfl fun a hF=>?_
       refine nr ?_
       have bel:=st.bel
       refine rt Tryz.results33 hF 0 rfl ?_
       exact⟨bB (by have e:=xZ qt;rw[hc5];omega),bel⟩)
    ·first
     |(exfalso;omega)
     |(refine oV hF (av (hF.at 2 rfl) ao ab (aC (aK (c:=false) (aZ hc5)) (by simp))) rfl fun a hF=>?_
       refine oA hF 0 rfl rfl fun a hF=>?_
       refine E.nil ?_
       refine wp_cond_false (hF.at 0 rfl) ?_
       refine wq ?_
       by_cases hc7:c=2
       ·first
        |(exfalso;omega)
        |(refine oV hF (av (hF.at 4 rfl) ao ab (aC (aK (c:=true) (aP hc7)) (by simp))) rfl fun a hF=>?_
          refine oA hF 0 rfl rfl fun a hF=>?_
          refine E.nil ?_
          refine wp_cond_true (hF.at 0 rfl) ?_
          refine wq ?_
          refine oL hF st 8 0 ag rfl rfl rfl rfl fun a hF=>?_
          refine cX st hF (rk k40 (aB (hF.at 0 rfl))) (jI _ (qt) k _ (hT.below st.bel) (h1.below st.bel) hl (by omega)) rfl fun w8 a st hF=>?_
          refine oV hF (kw (hF.at 0 rfl) (sG _ _ _ _ _ _)) rfl fun a hF=>?_
          refine oV hF (av (hF.at 0 rfl) ao ab (cC (by omega) (by omega))) rfl fun a hF=>?_
          refine oE hF 0 rfl rfl fun a hF=>?_
          refine nr ?_
          have bel:=st.bel
          refine rt Tryz.results33 hF 0 rfl ?_
          exact⟨bB (by have e:=yt qt;rw[hc7];omega),bel⟩)
       ·first
        |(exfalso;omega)
        |(refine oV hF (av (hF.at 4 rfl) ao ab (aC (aK (c:=false) (aZ hc7)) (by simp))) rfl fun a hF=>?_
          refine oA hF 0 rfl rfl fun a hF=>?_
          refine E.nil ?_
          refine wp_cond_false (hF.at 0 rfl) ?_
          refine wq ?_
          by_cases hc9:c=3
          ·first
           |(exfalso;omega)
           |(refine oV hF (av (hF.at 6 rfl) ao ab (aC (aK (c:=true) (aP hc9)) (by simp))) rfl fun a hF=>?_
             refine oA hF 0 rfl rfl fun a hF=>?_
             refine E.nil ?_
             refine wp_cond_true (hF.at 0 rfl) ?_
             refine wq ?_
             refine oL hF st 10 0 ag rfl rfl rfl rfl fun a hF=>?_
             refine cX st hF (rk k40 (aB (hF.at 0 rfl))) (jI _ (qt) k _ (hT.below st.bel) (h1.below st.bel) hl (by omega)) rfl fun w10 a st hF=>?_
             refine oV hF (kw (hF.at 0 rfl) (sD _ _ _ _ _ _)) rfl fun a hF=>?_
             refine oV hF (av (hF.at 0 rfl) ao ab (cC (by omega) (by omega))) rfl fun a hF=>?_
             refine oE hF 0 rfl rfl fun a hF=>?_
             refine nr ?_
             have bel:=st.bel
             refine rt Tryz.results33 hF 0 rfl ?_
             exact⟨bB (by have e:=xI qt;rw[hc9];omega),bel⟩)
          ·first
           |(exfalso;omega)
           |(refine oV hF (av (hF.at 6 rfl) ao ab (aC (aK (c:=false) (aZ hc9)) (by simp))) rfl fun a hF=>?_
             refine oA hF 0 rfl rfl fun a hF=>?_
             refine E.nil ?_
             refine wp_cond_false (hF.at 0 rfl) ?_
             refine wq ?_
             by_cases hc11:c=4
             ·first
              |(exfalso;omega)
              |(refine oV hF (av (hF.at 8 rfl) ao ab (aC (aK (c:=true) (aP hc11)) (by simp))) rfl fun a hF=>?_
                refine oA hF 0 rfl rfl fun a hF=>?_
                refine E.nil ?_
                refine wp_cond_true (hF.at 0 rfl) ?_
                refine wq ?_
                refine oL hF st 12 0 ag rfl rfl rfl rfl fun a hF=>?_
                refine cX st hF (rk k40 (aB (hF.at 0 rfl))) (jI _ (qt) k _ (hT.below st.bel) (h1.below st.bel) hl (by omega)) rfl fun w12 a st hF=>?_
                refine oV hF (kw (hF.at 0 rfl) (sA _ _ _ _ _ _)) rfl fun a hF=>?_
                refine oV hF (av (hF.at 0 rfl) ao ab (cC (by omega) (by omega))) rfl fun a hF=>?_
                refine oE hF 0 rfl rfl fun a hF=>?_
                refine nr ?_
                have bel:=st.bel
                refine rt Tryz.results33 hF 0 rfl ?_
                exact⟨bB (by have e:=yQ qt;rw[hc11];omega),bel⟩)
             ·first
              |(exfalso;omega)
              |(refine oV hF (av (hF.at 8 rfl) ao ab (aC (aK (c:=false) (aZ hc11)) (by simp))) rfl fun a hF=>?_
                refine oA hF 0 rfl rfl fun a hF=>?_
                refine E.nil ?_
                refine wp_cond_false (hF.at 0 rfl) ?_
                refine wp_skip ?_
                refine E.blk ?_
                refine E.norm ?_
                refine wq ?_
                refine oS hF (bz ao) rfl fun a hF=>?_
                refine nr ?_
                have bel:=st.bel
                refine rt Tryz.results33 hF 0 rfl ?_
                exact⟨bB (yh qt hc3 hc5 hc7 hc9 hc11).symm,bel⟩)))))
theorem jl (c:Int) (w:World):
 Calls Tryz.prog 76 #[.int .i64 c] w (bg w (kQ c)):=by
 have st:=St.start w
 refine go1 (nt:=7) Tryz.func76 rfl rfl rfl fun a hF=>?_
 refine wq ?_
 refine S.alloc st hF ag rfl rfl fun g2 w1 a st hF=>?_
 refine ns ?_
 refine wq ?_
 refine oM hF 1 rfl rfl fun a hF=>?_
 by_cases hc2:c=0
 ·first
  |(exfalso;omega)
  |(refine oV hF (av (hF.at 0 rfl) ao ab (aC (aK (c:=true) (aP hc2)) (by simp))) rfl fun a hF=>?_
    refine E.nil ?_
    refine wp_cond_true (hF.at 0 rfl) ?_
    refine wq ?_
    refine ca st hF (rk k20 (aB ao)) (bK (1) _ (by decide) (by decide)) (fun _ _ h=>h) Rq.cl rfl fun vv4 w3 a st hF=>?_
    obtain⟨r6,rfl⟩:=Rq.fo (st.f 0 rfl)
    refine so st hF 0 3 0 ag rfl rfl rfl rfl fun w7 a st hF=>?_
    refine nr ?_
    refine rs Tryz.results76 st hF 3 0 ag rfl rfl rfl ?_
    have bel:=st.bel
    exact⟨_,rfl,Rq.castM (st.f 0 rfl) (by unfold kQ;rw[if_pos hc2];rfl),bel⟩)
 ·first
  |(exfalso;omega)
  |(refine oV hF (av (hF.at 0 rfl) ao ab (aC (aK (c:=false) (aZ hc2)) (by simp))) rfl fun a hF=>?_
    refine E.nil ?_
    refine wp_cond_false (hF.at 0 rfl) ?_
    refine wp_skip ?_
    refine E.norm ?_
    refine wq ?_
    refine ca st hF (rk k22 (ar ao ao)) (bZ (1) (4) _ (by decide) (by decide) (by decide) (by decide)) (fun _ _ h=>h) Rq.cl rfl fun vv9 w8 a st hF=>?_
    obtain⟨r11,rfl⟩:=Rq.fo (st.f 0 rfl)
    refine so st hF 0 3 0 ag rfl rfl rfl rfl fun w12 a st hF=>?_
    refine nr ?_
    refine rs Tryz.results76 st hF 3 0 ag rfl rfl rfl ?_
    have bel:=st.bel
    exact⟨_,rfl,Rq.castM (st.f 0 rfl) (by unfold kQ;rw[if_neg hc2];decide+kernel),bel⟩)
theorem uz (v1:Value) (qt:Rat) (k:Nat) (c was:Int) (gk go:Nat) (w:World) (hk0:Blk w gk [.int .i64 c]) (ho:Blk w go [.int .i64 was]) (hT:cG w) (h1:Rq w v1 qt) (hl:az qt k) (hk:k≤100):
 Calls Tryz.prog 74 #[v1,.pointer (some ⟨gk,0,none⟩),.pointer (some ⟨go,0,none⟩)] w (aX w (.bool (br c was qt))):=by
 have st:=St.start w
 refine go3 (nt:=10) Tryz.func74 rfl rfl rfl fun a hF=>?_
 refine wq ?_
 obtain⟨r2,rfl⟩:=Rq.fo h1
 refine bx st hF 0 rfl rfl fun g3 w1 a st hF=>?_
 refine oC hF rfl fun a hF=>?_
 refine ns ?_
 refine eD 5 aJ hF [5,6,7,8,9] [(Iz (.int .i64 c)),(Iz r2.v),(Iz (.int .i64 (kX c (qt)))),(Iz (.int .i64 was)),(Iz (.bool (decide (kX c (qt)≠was))))] [] (by decide+kernel) rfl rfl trivial ⟨?_,?_,?_,?_,?_,trivial⟩ ?_
 ·intro a' w' hF' hb hd
  exact dv0 (aw (hF'.at 3 rfl) (cL (v:= .int .i64 c) (hk0.below (aa st.bel hb)) rfl)) rfl rfl rfl
 ·exact qL st 1 0 ag rfl rfl rfl rfl rfl
 ·intro a' w' hF' hb hd
  have e5:=tE hd 0 rfl
  have e6:=tE hd 1 rfl
  exact bD (rk k33 (ar e5 e6)) (ee c _ (qt) k _ (hT.below (aa st.bel hb)) (h1.below (aa st.bel hb)) hl (by omega)) (fun _=>rfl) rfl rfl
 ·intro a' w' hF' hb hd
  exact dv0 (aw (hF'.at 4 rfl) (cL (v:= .int .i64 was) (ho.below (aa st.bel hb)) rfl)) rfl rfl rfl
 ·intro a' w' hF' hb hd
  have e7:=tE hd 0 rfl
  have hkx53308:=fH c (qt)
  have e8:=tE hd 1 rfl
  exact dv0 (av e7 e8 ab (aC (lv (c:=decide (kX c (qt)≠was)) rfl) (by simp))) rfl rfl rfl
 intro a w3 hF bb hall hne
 replace st:=st.to bb
 replace hF:=aE hall hF 4 rfl rfl
 clear hall hne bb
 refine oE hF 0 rfl rfl fun a hF=>?_
 refine nr ?_
 have bel:=st.bel
 refine rt Tryz.results74 hF 0 rfl ?_
 exact⟨rfl,bel⟩
theorem pf (c was:Int) (gk go:Nat) (w:World) (hT:cG w) (hk0:Blk w gk [.int .i64 c]) (ho:Blk w go [.int .i64 was]):iR w 74 #[.pointer (some ⟨gk,0,none⟩),.pointer (some ⟨go,0,none⟩)] 100 (br c was):=
 ⟨⟨_,Tryz.func74,qD.1,qD.2⟩,fun v q w' hb hv hl=>uz v q 100 c was gk go w' (hk0.below hb) (ho.below hb) (hT.below hb) hv hl (by decide)⟩
theorem sF (c:Int) (t:Rat):t+kQ c=pcs c t (((0:Nat):Int)+1):=by rw[gJ,show(((0:Nat)):Int)=0 from rfl,i9]
theorem sR (c:Int) (t:Rat) (i:Nat):pcs c t (((i:Nat):Int)+1)=pcs c t (((i+1:Nat)):Int):=by rw[show(((i+1:Nat)):Int)=((i:Nat):Int)+1 by omega]
theorem xQ (c:Int) (t:Rat) (i:Nat):pcs c t (((i:Nat):Int)+1)+kQ c=pcs c t ((((i+1:Nat)):Int)+1):=by rw[gJ c t (((i+1:Nat)):Int),sR]
theorem xL {c:Int} (h:0≤c∧c≤4) {t x:Rat} (e:¬br c (kX c t) x=true):kI c x=kI c t:=by
 unfold br at e
 rw[el h.1 h.2,el h.1 h.2,decide_eq_true_iff] at e
 exact Decidable.not_not.1 e
theorem yg {c:Int} (h:0≤c∧c≤4) {t x:Rat} (e:br c (kX c t) x=true):kI c x≠kI c t:=by
 unfold br at e
 rwa[el h.1 h.2,el h.1 h.2,decide_eq_true_iff] at e
theorem lM {c:Int} (h:0≤c∧c≤4) (t:Rat):br c (kX c t)=fG c (kI c t):=by
 funext x
 unfold br fG
 rw[el h.1 h.2,el h.1 h.2]
theorem wO {c:Int} (h:0≤c∧c≤4) (t:Rat):hlo (br c (kX c t)) (pcs c t ((aO c t:Nat):Int)) (pcs c t (((aO c t:Nat):Int)+1)) 21=dH c t:=by rw[lM h];rfl
theorem vJ {c:Int} (h:0≤c∧c≤4) (t:Rat):hhi (br c (kX c t)) (pcs c t ((aO c t:Nat):Int)) (pcs c t (((aO c t:Nat):Int)+1)) 21=fh c t:=by rw[lM h];rfl
theorem xN {c:Int} (h:0≤c∧c≤4):¬kP c=0:=by unfold kP;rw[if_pos h];have:=ls c;omega
theorem rM (c:Int) (v1:Value) (qt:Rat) (k:Nat) (w:World) (hT:cG w) (h1:Rq w v1 qt) (hl:az qt k) (hk:k≤25) (hk0:0≤c∧c≤4):
 Calls Tryz.prog 31 #[.int .i64 c,v1] w ((fun e w'=>∃v u,e= .returned (.tuple #[v,u])∧Rq w' v (dH c qt)∧Rq w' u (fh c qt)∧Below w.heap.size w w')):=by
 have st:=St.start w
 refine go2 (nt:=39) Tryz.func31 rfl rfl rfl fun a hF=>?_
 refine wq ?_
 refine S.boxI st hF (hF.at 0 rfl) rfl rfl fun g2 w1 a st hF=>?_
 obtain⟨r3,rfl⟩:=Rq.fo h1
 refine bx st hF 2 rfl rfl fun g3 w2 a st hF=>?_
 refine S.alloc st hF ag rfl rfl fun g4 w4 a st hF=>?_
 refine S.alloc st hF ag rfl rfl fun g5 w5 a st hF=>?_
 refine ns ?_
 refine wq ?_
 refine oV hF (aw (hF.at 3 rfl) (cL (v:= .int .i64 c) (st.bk 3 rfl) rfl)) rfl fun a hF=>?_
 refine cX st hF (rk k36 (aB (hF.at 0 rfl))) (ef c _) rfl fun w6 a st hF=>?_
 refine oV hF (av (hF.at 0 rfl) ao ab (aC (aK (c:=false) (aZ (xN hk0))) (by simp))) rfl fun a hF=>?_
 refine E.nil ?_
 refine wp_cond_false (hF.at 0 rfl) ?_
 refine wp_skip ?_
 refine E.norm ?_
 refine wq ?_
 refine oV hF (aw (hF.at 6 rfl) (cL (v:= .int .i64 c) (st.bk 3 rfl) rfl)) rfl fun a hF=>?_
 refine oL hF st 6 2 ag rfl rfl rfl rfl fun a hF=>?_
 refine cX st hF (rk k33 (ar (hF.at 1 rfl) (hF.at 0 rfl))) (ee c _ (qt) k _ (hT.below st.bel) (h1.below st.bel) hl (by omega)) rfl fun w7 a st hF=>?_
 have hkx53308:=fH c (qt)
 refine S.newI st hF 0 rfl eC yI rfl rfl fun g6 w8 a st hF=>?_
 refine nq ?_
 refine oV hF (qR eh (ar (hF.at 10 rfl) (hF.at 0 rfl))) rfl fun a hF=>?_
 refine oA hF 0 rfl rfl fun a hF=>?_
 refine ns ?_
 refine eD 7 aJ hF [19,20,21,22,23,8,9] [(Iz r3.v),(Iz r3.v),(Iz (.int .i64 c)),(Iq (kQ c)),(Iq ((qt)+(kQ c))),(Ip w8),(Ip w8)] [5,6] (by decide+kernel) rfl rfl ⟨fun _ _ ⟨g,e,_,o⟩=>⟨g,e,o.lt⟩,⟨fun _ _ ⟨g,e,_,o⟩=>⟨g,e,o.lt⟩,trivial⟩⟩ ⟨?_,?_,?_,?_,?_,?_,?_,trivial⟩ ?_
 ·exact qL st 11 3 ag rfl rfl rfl rfl rfl
 ·exact qL st 11 3 ag rfl rfl rfl rfl rfl
 ·intro a' w' hF' hb hd
  exact dv0 (aw (hF'.at 12 rfl) (cL (v:= .int .i64 c) ((st.bk 4 rfl).below hb) rfl)) rfl rfl rfl
 ·intro a' w' hF' hb hd
  have e21:=tE hd 0 rfl
  exact dc0 (rk k76 (aB e21)) (jl c _) rfl rfl
 ·intro a' w' hF' hb hd
  have e20:=tE hd 0 rfl
  obtain⟨v22_0,e22,h22_1⟩:=tH hd 1 rfl
  exact dc0 (rk k75 (ar e20 e22)) (fj _ _ (qt) (kQ c) (max k 1) _ (h1.below (aa st.bel hb)) h22_1 (hl.up _ (by omega)) ((rF c).up _ (by omega)) (by omega)) rfl rfl
 ·intro a' w' hF' hb hd
  exact da0 ag rfl hb.size rfl
 ·intro a' w' hF' hb hd
  exact da0 ag rfl hb.size rfl
 intro a w9 hF bb hall hne
 have s0:=st
 replace st:=st.to bb
 replace hF:=aE hall hF 0 rfl rfl
 obtain⟨vv10,hF,st⟩:=aS hall hF st 4 rfl rfl Rq.cl
 obtain⟨_,e8,g8,rfl,ge8,o8⟩:=sS hall 5 8 rfl rfl
 replace st:=st.push o8.blk (Nat.le_trans s0.bel.size ge8) (s0.ne ge8)
 clear o8
 obtain⟨_,e9,g9,rfl,ge9,o9⟩:=sS hall 6 9 rfl rfl
 replace st:=st.push o9.blk (Nat.le_trans s0.bel.size ge9) (gE (fun(e:g8=g9)=>hne 5 6 8 9 rfl rfl (by decide) rfl rfl (by rw[e8,e9,e])) (s0.ne ge9))
 clear o9
 clear hall hne bb s0
 obtain⟨r12,rfl⟩:=Rq.fo (st.f 0 rfl)
 replace hF:=hF.add e8
 clear e8
 replace hF:=hF.add e9
 clear e9
 refine so st hF 1 1 3 ag rfl rfl rfl rfl fun w13 a st hF=>?_
 refine so st hF 0 0 2 ag rfl rfl rfl rfl fun w14 a st hF=>?_
 refine ns ?_
 refine wp_block ?_
 refine E.loop (fun mq a wv=>∃(i:Nat) (bb9:Bool) (aa9:Option Addr) (nn9:Nat) (cc9:Nat) (ee9:Option Addr) (mm9:Nat) (dd9:Nat) (bb8:Bool) (aa8:Option Addr) (nn8:Nat) (cc8:Nat) (ee8:Option Addr) (mm8:Nat) (dd8:Nat),i≤aO c qt∧Fr 39 a [(9,.pointer (some ⟨g9,0,none⟩)),(8,.pointer (some ⟨g8,0,none⟩)),(7,.func (.func 74) #[] #[.pointer (some ⟨g2,0,none⟩),.pointer (some ⟨g6,0,none⟩)]),(5,.pointer (some ⟨g5,0,none⟩)),(4,.pointer (some ⟨g4,0,none⟩)),(2,.pointer (some ⟨g2,0,none⟩))]∧St w wv [(g9,[.bool bb9,.slice aa9 nn9 cc9,.slice ee9 mm9 dd9]),(g8,[.bool bb8,.slice aa8 nn8 cc8,.slice ee8 mm8 dd8]),(g6,[.int .i64 (kX c (qt))]),(g5,[.bool false,.slice none 0 0,.slice none 0 0]),(g4,[.bool false,.slice none 0 0,.slice none 0 0]),(g2,[.int .i64 c])] [fun w=>Rq w (.agg #[.bool bb9,.slice aa9 nn9 cc9,.slice ee9 mm9 dd9]) (pcs c qt ((((i:Nat):Int)+1))),fun w=>Rq w (.agg #[.bool bb8,.slice aa8 nn8 cc8,.slice ee8 mm8 dd8]) (pcs c qt (((i:Nat):Int)))]∧mq=aO c qt-i) ((aO c qt-0)) ?_ ?_
 ·exact⟨0,_,_,_,_,_,_,_,_,_,_,_,_,_,_,(Nat.zero_le _),Fr.pick (L':=[(9,.pointer (some ⟨g9,0,none⟩)),(8,.pointer (some ⟨g8,0,none⟩)),(7,.func (.func 74) #[] #[.pointer (some ⟨g2,0,none⟩),.pointer (some ⟨g6,0,none⟩)]),(5,.pointer (some ⟨g5,0,none⟩)),(4,.pointer (some ⟨g4,0,none⟩)),(2,.pointer (some ⟨g2,0,none⟩))]) hF [0,1,4,13,14,16] rfl,((st.add (Rq.castM (h1.below st.bel) (i9 c qt).symm) (Rq.cl _)).add (Rq.castM (st.f 0 rfl) (sF c qt)) (Rq.cl _)).pick [0,1,2,3,4,6] [0,1] rfl rfl (by decide),rfl⟩
 ·rintro mq a w15 ⟨i,bb9,aa9,nn9,cc9,ee9,mm9,dd9,bb8,aa8,nn8,cc8,ee8,mm8,dd8,hi,hF,st,hm⟩
  have hps:=(cY hk0.1 hk0.2 qt).1
  have hkm:=mK c
  refine wp_seq ?_
  refine wq ?_
  refine oM hF 2 rfl rfl fun a hF=>?_
  refine oL hF st 1 0 ag rfl rfl rfl rfl fun a hF=>?_
  refine cX st hF (pw (hF.at 1 rfl) Tryz.func74 qD.1 qD.2 (aB (hF.at 0 rfl))) ((pf c (kX c (qt)) _ _ _ (hT.below st.bel) (st.bk 5 rfl) (st.bk 2 rfl)).ask _ (pcs c qt (((i:Nat):Int)+1)) _ (Below.refl _ _) (st.f 0 rfl) ((fp (c:=c) hl (i:=(((i:Nat):Int)+1)) (by omega) (by omega)).up _ (by omega))) rfl fun w16 a st hF=>?_
  by_cases hc17:(br c (kX c (qt))) (pcs c qt (((i:Nat):Int)+1))=true
  ·first
   |(exfalso;omega)
   |(refine oV hF (lU (Eq.trans (hF.at 0 rfl) (congrArg Value.bool hc17)) (jk _ false rfl)) rfl fun a hF=>?_
     refine E.nil ?_
     refine wp_cond_false (hF.at 0 rfl) ?_
     refine wp_exit ?_
     refine E.past ?_
     refine E.past ?_
     refine E.out (id:=0) ?_
     refine E.norm ?_
     refine wq ?_
     refine oL hF st 5 1 ag rfl rfl rfl rfl fun a hF=>?_
     refine oL hF st 5 0 ag rfl rfl rfl rfl fun a hF=>?_
     refine oM hF 8 rfl rfl fun a hF=>?_
     refine S.call2 st hF (rk k43 (jc (hF.at 2 rfl) (hF.at 1 rfl) ao (hF.at 0 rfl))) (pY _ _ _ _ (k+3) (k+3) 21 21 _ _ (br c (kX c (qt))) _ (st.f 1 rfl) (st.f 0 rfl) (fp (c:=c) hl (i:=((i:Nat):Int)) (by omega) (by omega)) (fp (c:=c) hl (i:=(((i:Nat):Int)+1)) (by omega) (by omega)) (by omega) (by omega) (by decide) (by omega) ((pf c (kX c (qt)) _ _ _ (hT.below st.bel) (st.bk 5 rfl) (st.bk 2 rfl)).to (by omega))) (fun _ _ h=>h) Rq.cl Rq.cl rfl rfl rfl rfl fun vv19 vv20 w18 a st hF=>?_
     obtain⟨r23,rfl⟩:=Rq.fo (st.f 0 rfl)
     obtain⟨r24,rfl⟩:=Rq.fo (st.f 1 rfl)
     refine oV hF (a7 (v:= r23.v) (hF.at 0 rfl) rfl) rfl fun a hF=>?_
     refine oV hF (a7 (v:= r24.v) (hF.at 1 rfl) rfl) rfl fun a hF=>?_
     refine so st hF 4 14 1 ag rfl rfl rfl rfl fun w25 a st hF=>?_
     refine so st hF 3 13 0 ag rfl rfl rfl rfl fun w26 a st hF=>?_
     refine nr ?_
     have bel:=st.bel
     refine bodyPost_ret (fx Tryz.results31 (hF.at 14 rfl) (bp ag (st.bk 4 rfl) rfl) (hF.at 13 rfl) (bp ag (st.bk 3 rfl) rfl)) hF.dfr ?_
     have e:=k9 hk0.1 hk0.2 hi (yg hk0 hc17)
     subst e
     exact⟨_,_,rfl,Rq.castM (st.f 0 rfl) (wO hk0 qt),Rq.castM (st.f 1 rfl) (vJ hk0 qt),bel⟩)
  ·first
   |(exfalso;omega)
   |(refine oV hF (lU (Eq.trans (hF.at 0 rfl) (congrArg Value.bool (eq_false_of_ne_true hc17))) (jk _ true rfl)) rfl fun a hF=>?_
     refine E.nil ?_
     refine wp_cond_true (hF.at 0 rfl) ?_
     refine wp_skip ?_
     refine E.norm ?_
     refine wp_block ?_
     refine eD 5 aJ hF [28,29,30,31,32] [(Iz (.agg #[.bool bb9,.slice aa9 nn9 cc9,.slice ee9 mm9 dd9])),(Iz (.agg #[.bool bb9,.slice aa9 nn9 cc9,.slice ee9 mm9 dd9])),(Iz (.int .i64 c)),(Iq (kQ c)),(Iq ((pcs c qt (((i:Nat):Int)+1))+(kQ c)))] [] (by decide+kernel) rfl rfl trivial ⟨?_,?_,?_,?_,?_,trivial⟩ ?_
     ·exact qL st 4 0 ag rfl rfl rfl rfl rfl
     ·exact qL st 4 0 ag rfl rfl rfl rfl rfl
     ·intro a' w' hF' hb hd
      exact dv0 (aw (hF'.at 9 rfl) (cL (v:= .int .i64 c) ((st.bk 5 rfl).below hb) rfl)) rfl rfl rfl
     ·intro a' w' hF' hb hd
      have e30:=tE hd 0 rfl
      exact dc0 (rk k76 (aB e30)) (jl c _) rfl rfl
     ·intro a' w' hF' hb hd
      have e29:=tE hd 0 rfl
      obtain⟨v31_0,e31,h31_1⟩:=tH hd 1 rfl
      exact dc0 (rk k75 (ar e29 e31)) (fj _ _ _ (kQ c) (max (k+3) 1) _ ((st.f 0 rfl).below hb) h31_1 ((fp (c:=c) hl (i:=(((i:Nat):Int)+1)) (by omega) (by omega)).up _ (by omega)) ((rF c).up _ (by omega)) (by omega)) rfl rfl
     intro a w27 hF bb hall hne
     replace st:=st.to bb
     replace hF:=aE hall hF 0 rfl rfl
     obtain⟨vv28,hF,st⟩:=aS hall hF st 4 rfl rfl Rq.cl
     clear hall hne bb
     obtain⟨r30,rfl⟩:=Rq.fo (st.f 0 rfl)
     refine so st hF 1 7 1 ag rfl rfl rfl rfl fun w31 a st hF=>?_
     refine so st hF 0 6 0 ag rfl rfl rfl rfl fun w32 a st hF=>?_
     refine E.nil0 ?_
     refine E.blk ?_
     refine E.norm ?_
     have hgo:=nv hk0.1 hk0.2 hi (xL hk0 hc17)
     exact⟨(aO c qt-(i+1)),by omega,⟨(i+1),_,_,_,_,_,_,_,_,_,_,_,_,_,_,hgo,Fr.pick (L':=[(9,.pointer (some ⟨g9,0,none⟩)),(8,.pointer (some ⟨g8,0,none⟩)),(7,.func (.func 74) #[] #[.pointer (some ⟨g2,0,none⟩),.pointer (some ⟨g6,0,none⟩)]),(5,.pointer (some ⟨g5,0,none⟩)),(4,.pointer (some ⟨g4,0,none⟩)),(2,.pointer (some ⟨g2,0,none⟩))]) hF [6,7,8,9,10,11] rfl,((st.add (Rq.castM (st.f 1 rfl) (sR c qt i)) (Rq.cl _)).add (Rq.castM (st.f 0 rfl) (xQ c qt i)) (Rq.cl _)).pick [0,1,2,3,4,5] [0,1] rfl rfl (by decide),rfl⟩⟩)
theorem oR (c:Int) (v1:Value) (qt:Rat) (w:World) (h1:Rq w v1 qt) (hk0:¬(0≤c∧c≤4)):
 Calls Tryz.prog 31 #[.int .i64 c,v1] w ((fun e w'=>∃v u,e= .returned (.tuple #[v,u])∧Rq w' v (0)∧Rq w' u (0)∧Below w.heap.size w w')):=by
 have st:=St.start w
 refine go2 (nt:=39) Tryz.func31 rfl rfl rfl fun a hF=>?_
 refine wq ?_
 refine S.boxI st hF (hF.at 0 rfl) rfl rfl fun g2 w1 a st hF=>?_
 obtain⟨r3,rfl⟩:=Rq.fo h1
 refine bx st hF 2 rfl rfl fun g3 w2 a st hF=>?_
 refine S.alloc st hF ag rfl rfl fun g4 w4 a st hF=>?_
 refine S.alloc st hF ag rfl rfl fun g5 w5 a st hF=>?_
 refine ns ?_
 refine wq ?_
 refine oV hF (aw (hF.at 3 rfl) (cL (v:= .int .i64 c) (st.bk 3 rfl) rfl)) rfl fun a hF=>?_
 refine cX st hF (rk k36 (aB (hF.at 0 rfl))) (ef c _) rfl fun w6 a st hF=>?_
 refine oV hF (av (hF.at 0 rfl) ao ab (aC (aK (c:=true) (aP (if_neg hk0))) (by simp))) rfl fun a hF=>?_
 refine E.nil ?_
 refine wp_cond_true (hF.at 0 rfl) ?_
 refine wq ?_
 refine oV hF (aW (by simp) (fv _)) rfl fun a hF=>?_
 refine oV hF (aW (by simp) (fv _)) rfl fun a hF=>?_
 refine so st hF 1 6 1 ag rfl rfl rfl rfl fun w7 a st hF=>?_
 refine so st hF 0 5 0 ag rfl rfl rfl rfl fun w8 a st hF=>?_
 refine nr ?_
 refine E.pastr ?_
 have bel:=st.bel
 refine bodyPost_ret (fx Tryz.results31 (hF.at 6 rfl) (bp ag (st.bk 1 rfl) rfl) (hF.at 5 rfl) (bp ag (st.bk 0 rfl) rfl)) hF.dfr ?_
 exact⟨_,_,rfl,Rq.zero _,Rq.zero _,bel⟩
end Go.Proofs.YtplngpfpcheofaaGreatDoor
