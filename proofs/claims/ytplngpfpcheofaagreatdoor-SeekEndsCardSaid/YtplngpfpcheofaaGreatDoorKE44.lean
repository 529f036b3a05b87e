import Derived.Test.YtplngpfpcheofaaGreatDoorKE32
import Derived.Test.YtplngpfpcheofaaGreatDoorKE43
namespace Go.Proofs.YtplngpfpcheofaaGreatDoor
open Go.RowKit
set_option maxRecDepth 100000
set_option linter.unusedVariables false
set_option maxHeartbeats 8000000
theorem seekEnds_walk (da db dc:Int) (w:World) (hT:cG w):
 Calls Tryz.prog 7 #[.int .i64 da,.int .i64 db,.int .i64 dc] w (aX w (.bool true)):=by
 have hin0:=od da
 obtain⟨n,hn⟩:∃z,z=(4096*(inD da))+(db%4096):=⟨_,rfl⟩
 obtain⟨c,hc⟩:∃z,z=(dc%256)%6:=⟨_,rfl⟩
 have hc0:0≤c:=by omega
 have hc5:c≤5:=by omega
 by_cases h5:c=5
 ·have st:=St.start w
  refine go3 (nt:=130) Tryz.func7 rfl rfl rfl fun a hF=>?_
  refine wq ?_
  refine oC hF rfl fun a hF=>?_
  refine ns ?_
  refine wq ?_
  refine cX st hF (rk k10 eh) (kg _) rfl fun w1 a st hF=>?_
  refine oV hF (lU (hF.at 0 rfl) (jk _ false rfl)) rfl fun a hF=>?_
  refine E.nil ?_
  refine wp_cond_false (hF.at 0 rfl) ?_
  refine wp_skip ?_
  refine E.norm ?_
  refine wq ?_
  refine oM hF 3 rfl rfl fun a hF=>?_
  refine cX st hF (rk k11 (aB (hF.at 0 rfl))) (p8 da _) rfl fun w2 a st hF=>?_
  have hin:=od da
  refine oV hF (av ao (hF.at 0 rfl) ab (jB (by omega) (by omega))) rfl fun a hF=>?_
  refine oM hF 7 rfl rfl fun a hF=>?_
  refine oV hF (av (hF.at 0 rfl) ao ab (kW (n:=12) (by decide) (d:=4096) (by decide) (by decide))) rfl fun a hF=>?_
  refine oV hF (av (hF.at 2 rfl) (hF.at 0 rfl) ab (bh (by omega) (by omega))) rfl fun a hF=>?_
  refine oA hF 0 rfl rfl fun a hF=>?_
  replace hF:Fr 130 a [(7,.int .i64 n),(25,.int .i64 ((4096*(inD da))+(db%4096))),(24,.int .i64 (db%4096)),(23,.int .i64 db),(22,.int .i64 (4096*(inD da))),(21,.int .i64 (inD da)),(20,.int .i64 da),(19,.bool false),(18,.bool true),(6,.bool false),(0,.int .i64 da),(1,.int .i64 db),(2,.int .i64 dc)]:=by rw[hn];exact hF
  refine nq ?_
  refine oM hF 0 rfl rfl fun a hF=>?_
  refine ca st hF (rk k22 (ar (hF.at 0 rfl) ao)) (bZ (n) (4096) _ (by omega) (by omega) (by decide) (by decide)) (fun _ _ h=>h) Rq.cl rfl fun vv4 w3 a st hF=>?_
  obtain⟨r6,rfl⟩:=Rq.fo (st.f 0 rfl)
  refine oM hF 2 rfl rfl fun a hF=>?_
  refine ca st hF (rk k16 (ar (hF.at 0 rfl) ao)) (bQ (n) (4096) _ (by omega) (by omega) (by decide) (by decide)) (fun _ _ h=>h) Rr.cl rfl fun vv8 w7 a st hF=>?_
  obtain⟨r10,rfl⟩:=Rr.fo (st.f 0 rfl)
  refine S.alloc st hF ag rfl rfl fun g8 w11 a st hF=>?_
  refine S.alloc st hF ah rfl rfl fun g9 w12 a st hF=>?_
  refine so st hF 1 1 4 ag rfl rfl rfl rfl fun w13 a st hF=>?_
  refine so st hF 0 0 2 ah rfl rfl rfl rfl fun w14 a st hF=>?_
  refine nq ?_
  refine oM hF 18 rfl rfl fun a hF=>?_
  refine oV hF (av (hF.at 0 rfl) ao ab (kW (n:=8) (by decide) (d:=256) (by decide) (by decide))) rfl fun a hF=>?_
  refine oV hF (av (hF.at 0 rfl) ao ab (jR (a:=dc%256) (b:=6) (by omega) (by omega))) rfl fun a hF=>?_
  refine oE hF 0 rfl rfl fun a hF=>?_
  replace hF:Fr 130 a [(2,.int .i64 c),(32,.int .i64 ((dc%256)%6)),(31,.int .i64 (dc%256)),(30,.int .i64 dc),(9,.pointer (some ⟨g9,0,none⟩)),(8,.pointer (some ⟨g8,0,none⟩)),(29,r10.v),(28,.int .i64 n),(27,r6.v),(26,.int .i64 n),(7,.int .i64 n),(25,.int .i64 ((4096*(inD da))+(db%4096))),(24,.int .i64 (db%4096)),(23,.int .i64 db),(22,.int .i64 (4096*(inD da))),(21,.int .i64 (inD da)),(20,.int .i64 da),(19,.bool false),(18,.bool true),(6,.bool false),(0,.int .i64 da),(1,.int .i64 db)]:=by rw[hc];exact hF
  refine nq ?_
  refine oM hF 0 rfl rfl fun a hF=>?_
  refine oL hF st 6 1 ag rfl rfl rfl rfl fun a hF=>?_
  refine S.call2 st hF (rk k31 (ar (hF.at 1 rfl) (hF.at 0 rfl))) (oR c _ _ _ (st.f 1 rfl) (by omega)) (fun _ _ h=>h) Rq.cl Rq.cl rfl rfl rfl rfl fun vv16 vv17 w15 a st hF=>?_
  obtain⟨r20,rfl⟩:=Rq.fo (st.f 0 rfl)
  obtain⟨r21,rfl⟩:=Rq.fo (st.f 1 rfl)
  refine oM hF 0 rfl rfl fun a hF=>?_
  refine oV hF (a7 (v:= r20.v) (hF.at 0 rfl) rfl) rfl fun a hF=>?_
  refine oV hF (a7 (v:= r21.v) (hF.at 1 rfl) rfl) rfl fun a hF=>?_
  refine S.alloc st hF ag rfl rfl fun g10 w22 a st hF=>?_
  refine S.alloc st hF ag rfl rfl fun g11 w23 a st hF=>?_
  refine so st hF 1 1 3 ag rfl rfl rfl rfl fun w24 a st hF=>?_
  refine so st hF 0 0 2 ag rfl rfl rfl rfl fun w25 a st hF=>?_
  refine ns ?_
  refine wq ?_
  refine oM hF 8 rfl rfl fun a hF=>?_
  refine oV hF (av (hF.at 0 rfl) ao ab (aC (aK (c:=true) (aP (h5))) (by simp))) rfl fun a hF=>?_
  refine E.nil ?_
  refine wp_cond_true (hF.at 0 rfl) ?_
  refine wq ?_
  refine oL hF st 3 1 ag rfl rfl rfl rfl fun a hF=>?_
  refine cX st hF (rk k32 (aB (hF.at 0 rfl))) (dE _ (0) _ (st.f 0 rfl)) rfl fun w26 a st hF=>?_
  refine oV hF (av (hF.at 0 rfl) ao ab (aC (aK (c:=true) (aP (by decide))) (by simp))) rfl fun a hF=>?_
  refine oM hF 0 rfl rfl fun a hF=>?_
  refine E.opvg hF (aw (hF.at 6 rfl) (bp ag (st.bk 0 rfl) rfl)) (aq rfl rfl (hF.at 0 rfl) rfl) rfl rfl rfl fun a hF=>?_
  refine S.callxg st hF (aq rfl rfl (hF.at 1 rfl) rfl) (rk k32 (aB (hF.at 0 rfl))) (dE _ (0) _ (st.f 1 rfl)) rfl rfl rfl fun w27 a st hF=>?_
  refine E.opvg hF (av (hF.at 0 rfl) ao ab (aC (aK (c:=true) (aP (by decide))) (by simp))) (aq rfl rfl (hF.at 2 rfl) rfl) rfl rfl rfl fun a hF=>?_
  refine oV hF (bR (hF.at 3 rfl) (hF.at 0 rfl)) rfl fun a hF=>?_
  refine oM hF 0 rfl rfl fun a hF=>?_
  refine E.opvg hF (aY (hF.at 19 rfl)) (aq rfl rfl (hF.at 0 rfl) rfl) rfl rfl rfl fun a hF=>?_
  refine E.opvg hF (aw (hF.at 25 rfl) (bp ag (st.bk 3 rfl) rfl)) (aq rfl rfl (hF.at 1 rfl) rfl) rfl rfl rfl fun a hF=>?_
  refine S.callxg st hF (aq rfl rfl (hF.at 2 rfl) rfl) (rk k33 (ar (hF.at 1 rfl) (hF.at 0 rfl))) (ee c _ _ 2 _ (hT.below st.bel) (st.f 3 rfl) (az.up (bf (aD (by omega) (by omega)) (aD (by decide) (by decide))) 2 (by decide)) (by omega)) rfl rfl rfl fun w28 a st hF=>?_
  have hkx37796:=fH c (((n:Int):Rat)/((4096:Int):Rat))
  refine E.opvg hF (av (hF.at 0 rfl) ao ab (aC (aK (c:=true) (aP (vd (by omega) _))) (by simp))) (aq rfl rfl (hF.at 3 rfl) rfl) rfl rfl rfl fun a hF=>?_
  refine oV hF (bR (hF.at 4 rfl) (hF.at 0 rfl)) rfl fun a hF=>?_
  refine oE hF 0 rfl rfl fun a hF=>?_
  refine nr ?_
  have bel:=st.bel
  refine rt Tryz.results7 hF 0 rfl ?_
  exact⟨rfl,bel⟩
 ·have hc1:c≤4:=by omega
  have st:=St.start w
  refine go3 (nt:=130) Tryz.func7 rfl rfl rfl fun a hF=>?_
  refine wq ?_
  refine oC hF rfl fun a hF=>?_
  refine ns ?_
  refine wq ?_
  refine cX st hF (rk k10 eh) (kg _) rfl fun w1 a st hF=>?_
  refine oV hF (lU (hF.at 0 rfl) (jk _ false rfl)) rfl fun a hF=>?_
  refine E.nil ?_
  refine wp_cond_false (hF.at 0 rfl) ?_
  refine wp_skip ?_
  refine E.norm ?_
  refine wq ?_
  refine oM hF 3 rfl rfl fun a hF=>?_
  refine cX st hF (rk k11 (aB (hF.at 0 rfl))) (p8 da _) rfl fun w2 a st hF=>?_
  have hin:=od da
  refine oV hF (av ao (hF.at 0 rfl) ab (jB (by omega) (by omega))) rfl fun a hF=>?_
  refine oM hF 7 rfl rfl fun a hF=>?_
  refine oV hF (av (hF.at 0 rfl) ao ab (kW (n:=12) (by decide) (d:=4096) (by decide) (by decide))) rfl fun a hF=>?_
  refine oV hF (av (hF.at 2 rfl) (hF.at 0 rfl) ab (bh (by omega) (by omega))) rfl fun a hF=>?_
  refine oA hF 0 rfl rfl fun a hF=>?_
  replace hF:Fr 130 a [(7,.int .i64 n),(25,.int .i64 ((4096*(inD da))+(db%4096))),(24,.int .i64 (db%4096)),(23,.int .i64 db),(22,.int .i64 (4096*(inD da))),(21,.int .i64 (inD da)),(20,.int .i64 da),(19,.bool false),(18,.bool true),(6,.bool false),(0,.int .i64 da),(1,.int .i64 db),(2,.int .i64 dc)]:=by rw[hn];exact hF
  refine nq ?_
  refine oM hF 0 rfl rfl fun a hF=>?_
  refine ca st hF (rk k22 (ar (hF.at 0 rfl) ao)) (bZ (n) (4096) _ (by omega) (by omega) (by decide) (by decide)) (fun _ _ h=>h) Rq.cl rfl fun vv4 w3 a st hF=>?_
  obtain⟨r6,rfl⟩:=Rq.fo (st.f 0 rfl)
  refine oM hF 2 rfl rfl fun a hF=>?_
  refine ca st hF (rk k16 (ar (hF.at 0 rfl) ao)) (bQ (n) (4096) _ (by omega) (by omega) (by decide) (by decide)) (fun _ _ h=>h) Rr.cl rfl fun vv8 w7 a st hF=>?_
  obtain⟨r10,rfl⟩:=Rr.fo (st.f 0 rfl)
  refine S.alloc st hF ag rfl rfl fun g8 w11 a st hF=>?_
  refine S.alloc st hF ah rfl rfl fun g9 w12 a st hF=>?_
  refine so st hF 1 1 4 ag rfl rfl rfl rfl fun w13 a st hF=>?_
  refine so st hF 0 0 2 ah rfl rfl rfl rfl fun w14 a st hF=>?_
  refine nq ?_
  refine oM hF 18 rfl rfl fun a hF=>?_
  refine oV hF (av (hF.at 0 rfl) ao ab (kW (n:=8) (by decide) (d:=256) (by decide) (by decide))) rfl fun a hF=>?_
  refine oV hF (av (hF.at 0 rfl) ao ab (jR (a:=dc%256) (b:=6) (by omega) (by omega))) rfl fun a hF=>?_
  refine oE hF 0 rfl rfl fun a hF=>?_
  replace hF:Fr 130 a [(2,.int .i64 c),(32,.int .i64 ((dc%256)%6)),(31,.int .i64 (dc%256)),(30,.int .i64 dc),(9,.pointer (some ⟨g9,0,none⟩)),(8,.pointer (some ⟨g8,0,none⟩)),(29,r10.v),(28,.int .i64 n),(27,r6.v),(26,.int .i64 n),(7,.int .i64 n),(25,.int .i64 ((4096*(inD da))+(db%4096))),(24,.int .i64 (db%4096)),(23,.int .i64 db),(22,.int .i64 (4096*(inD da))),(21,.int .i64 (inD da)),(20,.int .i64 da),(19,.bool false),(18,.bool true),(6,.bool false),(0,.int .i64 da),(1,.int .i64 db)]:=by rw[hc];exact hF
  refine nq ?_
  refine oM hF 0 rfl rfl fun a hF=>?_
  refine oL hF st 6 1 ag rfl rfl rfl rfl fun a hF=>?_
  refine S.call2 st hF (rk k31 (ar (hF.at 1 rfl) (hF.at 0 rfl))) (rM c _ _ 2 _ (hT.below st.bel) (st.f 1 rfl) (az.up (bf (aD (by omega) (by omega)) (aD (by decide) (by decide))) 2 (by decide)) (by omega) ⟨hc0,hc1⟩) (fun _ _ h=>h) Rq.cl Rq.cl rfl rfl rfl rfl fun vv16 vv17 w15 a st hF=>?_
  obtain⟨r20,rfl⟩:=Rq.fo (st.f 0 rfl)
  obtain⟨r21,rfl⟩:=Rq.fo (st.f 1 rfl)
  refine oM hF 0 rfl rfl fun a hF=>?_
  refine oV hF (a7 (v:= r20.v) (hF.at 0 rfl) rfl) rfl fun a hF=>?_
  refine oV hF (a7 (v:= r21.v) (hF.at 1 rfl) rfl) rfl fun a hF=>?_
  refine S.alloc st hF ag rfl rfl fun g10 w22 a st hF=>?_
  refine S.alloc st hF ag rfl rfl fun g11 w23 a st hF=>?_
  refine so st hF 1 1 3 ag rfl rfl rfl rfl fun w24 a st hF=>?_
  refine so st hF 0 0 2 ag rfl rfl rfl rfl fun w25 a st hF=>?_
  refine ns ?_
  refine wq ?_
  refine oM hF 8 rfl rfl fun a hF=>?_
  refine oV hF (av (hF.at 0 rfl) ao ab (aC (aK (c:=false) (aZ (h5))) (by simp))) rfl fun a hF=>?_
  refine E.nil ?_
  refine wp_cond_false (hF.at 0 rfl) ?_
  refine wp_skip ?_
  refine E.norm ?_
  refine wq ?_
  refine oC hF rfl fun a hF=>?_
  refine oC hF rfl fun a hF=>?_
  refine E.nil ?_
  refine E.mid (I:=fun a wv=>Fr 130 a [(13,.int .i64 (kM c)),(12,.int .i64 (ov c)),(11,.pointer (some ⟨g11,0,none⟩)),(10,.pointer (some ⟨g10,0,none⟩)),(2,.int .i64 c),(9,.pointer (some ⟨g9,0,none⟩)),(8,.pointer (some ⟨g8,0,none⟩)),(6,.bool false)]∧St w wv [(g11,r21.l),(g10,r20.l),(g9,r10.l),(g8,r6.l)] [fun w=>Rq w (r6.v) (((n:Int):Rat)/((4096:Int):Rat)),fun w=>Rr w (r10.v) (((n:Int):Rat)/((4096:Int):Rat)) (2),fun w=>Rq w (r20.v) (dH c (((n:Int):Rat)/((4096:Int):Rat))),fun w=>Rq w (r21.v) (fh c (((n:Int):Rat)/((4096:Int):Rat)))]) ?_ ?_
  ·refine wp_seq ?_
   refine E.seq ?_
   refine oM hF 12 rfl rfl fun a hF=>?_
   by_cases hc26:c=0
   ·refine oV hF (av (hF.at 0 rfl) ao ab (aC (aK (c:=true) (aP hc26)) (by simp))) rfl fun a hF=>?_
    refine E.nil ?_
    refine wp_cond_true (hF.at 0 rfl) ?_
    refine E.seq ?_
    refine oS hF (bz ao) rfl fun a hF=>?_
    refine oS hF (bz ao) rfl fun a hF=>?_
    refine E.nil0 ?_
    refine E.norm ?_
    exact⟨(by rw[show ov c=1 from if_pos hc26,show kM c=34 from if_pos hc26];exact Fr.pick (L':=[(13,.int .i64 34),(12,.int .i64 1),(11,.pointer (some ⟨g11,0,none⟩)),(10,.pointer (some ⟨g10,0,none⟩)),(2,.int .i64 c),(9,.pointer (some ⟨g9,0,none⟩)),(8,.pointer (some ⟨g8,0,none⟩)),(6,.bool false)]) hF [0,1,6,7,14,18,19,33] rfl),st.pick [0,1,2,3] [3,2,0,1] rfl rfl (by decide)⟩
   ·refine oV hF (av (hF.at 0 rfl) ao ab (aC (aK (c:=false) (aZ hc26)) (by simp))) rfl fun a hF=>?_
    refine E.nil ?_
    refine wp_cond_false (hF.at 0 rfl) ?_
    refine wp_skip ?_
    refine E.norm ?_
    exact⟨(by rw[show ov c=4 from if_neg hc26,show kM c=6 from if_neg hc26];exact Fr.pick (L':=[(13,.int .i64 6),(12,.int .i64 4),(11,.pointer (some ⟨g11,0,none⟩)),(10,.pointer (some ⟨g10,0,none⟩)),(2,.int .i64 c),(9,.pointer (some ⟨g9,0,none⟩)),(8,.pointer (some ⟨g8,0,none⟩)),(6,.bool false)]) hF [2,3,6,7,14,18,19,33] rfl),st.pick [0,1,2,3] [3,2,0,1] rfl rfl (by decide)⟩
  ·rintro a w27 ⟨hF,st⟩
   have hov:=jZ c
   have hkp:=zX hc0 hc1
   refine wq ?_
   refine oM hF 4 rfl rfl fun a hF=>?_
   refine oL hF st 6 2 ah rfl rfl rfl rfl fun a hF=>?_
   refine oM hF 3 rfl rfl fun a hF=>?_
   refine oM hF 3 rfl rfl fun a hF=>?_
   refine cX st hF (rk k34 (jc (hF.at 3 rfl) (hF.at 2 rfl) (hF.at 1 rfl) (hF.at 0 rfl))) (nz c _ _ 2 2 _ (st.f 1 rfl) (az.up (bf (aD (by omega) (by omega)) (aD (by decide) (by decide))) 2 (by decide)) (by omega) (by omega) (by omega) hc0 hc1 (fun z h0 h1=>(uQ (by omega) (by omega) h0 h1).up _ (by decide))) rfl fun w28 a st hF=>?_
   have hps:=(cY hc0 hc1 (((n:Int):Rat)/((4096:Int):Rat))).1
   have hkm:=mK c
   refine oA hF 0 rfl rfl fun a hF=>?_
   refine ns ?_
   refine eD 13 aJ hF [62,63,64,65,66,67,68,69,70,71,72,15,16] [(Iz r10.v),(Iz (.int .i64 ((aO c (((n:Int):Rat)/((4096:Int):Rat)):Nat):Int))),(Iz (.int .i64 (ov c))),(Ir (((((aO c (((n:Int):Rat)/((4096:Int):Rat)):Nat):Int):Int):Rat)/((ov c:Int):Rat)) (2)),(Ir (pcs c (((n:Int):Rat)/((4096:Int):Rat)) (((aO c (((n:Int):Rat)/((4096:Int):Rat)):Nat):Int))) ((2+2+1))),(Iz r10.v),(Iz (.int .i64 ((aO c (((n:Int):Rat)/((4096:Int):Rat)):Nat):Int))),(Iz (.int .i64 (((aO c (((n:Int):Rat)/((4096:Int):Rat)):Nat):Int)+1))),(Iz (.int .i64 (ov c))),(Ir (((((aO c (((n:Int):Rat)/((4096:Int):Rat)):Nat):Int)+1:Int):Rat)/((ov c:Int):Rat)) (2)),(Ir (pcs c (((n:Int):Rat)/((4096:Int):Rat)) (((aO c (((n:Int):Rat)/((4096:Int):Rat)):Nat):Int)+1)) ((2+2+1))),(Ip w28),(Ip w28)] [11,12] (by decide+kernel) rfl rfl ⟨fun _ _ ⟨g,e,_,o⟩=>⟨g,e,o.lt⟩,⟨fun _ _ ⟨g,e,_,o⟩=>⟨g,e,o.lt⟩,trivial⟩⟩ ⟨?_,?_,?_,?_,?_,?_,?_,?_,?_,?_,?_,?_,?_,trivial⟩ ?_
   ·exact qL st 11 2 ah rfl rfl rfl rfl rfl
   ·exact qM 0 rfl rfl rfl
   ·exact qM 7 rfl rfl rfl
   ·intro a' w' hF' hb hd
    have e63:=tE hd 0 rfl
    have e64:=tE hd 1 rfl
    exact dc0 (rk k16 (ar e63 e64)) (bQ (((aO c (((n:Int):Rat)/((4096:Int):Rat)):Nat):Int)) (ov c) _ (by omega) (by omega) (by omega) (by omega)) rfl rfl
   ·intro a' w' hF' hb hd
    have e62:=tE hd 0 rfl
    obtain⟨v65_0,e65,h65_1⟩:=tH hd 1 rfl
    exact dc0 (rk k35 (ar e62 e65)) (cQ _ _ _ (((((aO c _:Nat):Int):Int):Rat)/((ov c:Int):Rat)) 2 2 _ ((st.f 1 rfl).below hb) h65_1 (by omega) (by omega) (by omega) (by omega)) rfl rfl
   ·exact qL st 11 2 ah rfl rfl rfl rfl rfl
   ·exact qM 0 rfl rfl rfl
   ·intro a' w' hF' hb hd
    have e68:=tE hd 0 rfl
    exact dv0 (av e68 ao ab (bh (by omega) (by omega))) rfl rfl rfl
   ·exact qM 7 rfl rfl rfl
   ·intro a' w' hF' hb hd
    have e69:=tE hd 0 rfl
    have e70:=tE hd 1 rfl
    exact dc0 (rk k16 (ar e69 e70)) (bQ (((aO c (((n:Int):Rat)/((4096:Int):Rat)):Nat):Int)+1) (ov c) _ (by omega) (by omega) (by omega) (by omega)) rfl rfl
   ·intro a' w' hF' hb hd
    have e67:=tE hd 0 rfl
    obtain⟨v71_0,e71,h71_1⟩:=tH hd 1 rfl
    exact dc0 (rk k35 (ar e67 e71)) (cQ _ _ _ (((((aO c _:Nat):Int)+1:Int):Rat)/((ov c:Int):Rat)) 2 2 _ ((st.f 1 rfl).below hb) h71_1 (by omega) (by omega) (by omega) (by omega)) rfl rfl
   ·intro a' w' hF' hb hd
    exact da0 ah rfl hb.size rfl
   ·intro a' w' hF' hb hd
    exact da0 ah rfl hb.size rfl
   intro a w29 hF bb hall hne
   have s0:=st
   replace st:=st.to bb
   obtain⟨vv30,hF,st⟩:=aS hall hF st 4 rfl rfl Rr.cl
   obtain⟨vv32,hF,st⟩:=aS hall hF st 10 rfl rfl Rr.cl
   obtain⟨_,e15,g15,rfl,ge15,o15⟩:=sS hall 11 15 rfl rfl
   replace st:=st.push o15.blk (Nat.le_trans s0.bel.size ge15) (s0.ne ge15)
   clear o15
   obtain⟨_,e16,g16,rfl,ge16,o16⟩:=sS hall 12 16 rfl rfl
   replace st:=st.push o16.blk (Nat.le_trans s0.bel.size ge16) (gE (fun(e:g15=g16)=>hne 11 12 15 16 rfl rfl (by decide) rfl rfl (by rw[e15,e16,e])) (s0.ne ge16))
   clear o16
   clear hall hne bb s0
   obtain⟨r34,rfl⟩:=Rr.fo (st.f 1 rfl)
   obtain⟨r35,rfl⟩:=Rr.fo (st.f 0 rfl)
   replace hF:=hF.add e15
   clear e15
   replace hF:=hF.add e16
   clear e16
   refine so st hF 1 1 3 ah rfl rfl rfl rfl fun w36 a st hF=>?_
   refine so st hF 0 0 2 ah rfl rfl rfl rfl fun w37 a st hF=>?_
   refine nq ?_
   refine oM hF 14 rfl rfl fun a hF=>?_
   refine oL hF st 16 4 ah rfl rfl rfl rfl fun a hF=>?_
   refine cX st hF (rk k26 (ar (hF.at 1 rfl) (hF.at 0 rfl))) (en c _ _ 2 2 _ (st.f 3 rfl) (az.up (bf (aD (by omega) (by omega)) (aD (by decide) (by decide))) 2 (by decide)) (by omega) (by omega) (by omega)) rfl fun w38 a st hF=>?_
   have hkd37796:=fH c (((n:Int):Rat)/((4096:Int):Rat))
   refine oA hF 0 rfl rfl fun a hF=>?_
   refine ns ?_
   refine wp_seq ?_
   refine eD 23 aJ hF [76,77,78,79,80,81,82,83,84,85,86,87,88,89,90,91,92,93,94,95,96,97,98] [(Iz (.int .i64 c)),(Iz r6.v),(Iz (.int .i64 (kX c (((n:Int):Rat)/((4096:Int):Rat))))),(Iz (.int .i64 (kX c (((n:Int):Rat)/((4096:Int):Rat))))),(Iz (.bool false)),(Iz (.bool false)),(Iz (.int .i64 ((aO c (((n:Int):Rat)/((4096:Int):Rat)):Nat):Int))),(Iz (.int .i64 (kM c))),(Iz (.bool false)),(Iz (.bool false)),(Iz (.bool false)),(Iz r20.v),(Iz r21.v),(Iz r34.v),(Iz r35.v),(Iz r34.v),(Iz r35.v),(Iz (.int .i64 c)),(Iz (.int .i64 (kX c (((n:Int):Rat)/((4096:Int):Rat))))),(Iz (.int .i64 (hlv (br c (kX c (((n:Int):Rat)/((4096:Int):Rat)))) (pcs c (((n:Int):Rat)/((4096:Int):Rat)) (((aO c (((n:Int):Rat)/((4096:Int):Rat)):Nat):Int))) (pcs c (((n:Int):Rat)/((4096:Int):Rat)) (((aO c (((n:Int):Rat)/((4096:Int):Rat)):Nat):Int)+1)) 21))),(Iz (.bool true)),(Iz (.bool false)),(Iz (.bool false))] [] (by decide+kernel) rfl rfl trivial ⟨?_,?_,?_,?_,?_,?_,?_,?_,?_,?_,?_,?_,?_,?_,?_,?_,?_,?_,?_,?_,?_,?_,?_,trivial⟩ ?_
   ·exact qM 18 rfl rfl rfl
   ·exact qL st 20 5 ag rfl rfl rfl rfl rfl
   ·intro a' w' hF' hb hd
    have e76:=tE hd 0 rfl
    have e77:=tE hd 1 rfl
    exact bD (rk k33 (ar e76 e77)) (ee c _ _ 2 _ (hT.below (aa st.bel hb)) ((st.f 2 rfl).below hb) (az.up (bf (aD (by omega) (by omega)) (aD (by decide) (by decide))) 2 (by decide)) (by omega)) (fun _=>rfl) rfl rfl
   ·exact qM 0 rfl rfl rfl
   ·intro a' w' hF' hb hd
    have e78:=tE hd 0 rfl
    have hkx37796:=fH c (((n:Int):Rat)/((4096:Int):Rat))
    have e79:=tE hd 1 rfl
    exact dv0 (av e78 e79 ab (aC (lv (c:=false) (by simp)) (by simp))) rfl rfl rfl
   ·intro a' w' hF' hb hd
    have e80:=tE hd 0 rfl
    exact dv0 (aY e80) rfl rfl rfl
   ·intro a' w' hF' hb hd
    have e81:=tE hd 0 rfl
    exact dv1 (aq rfl rfl e81 rfl) (aY (hF'.at 8 rfl)) rfl rfl
   ·intro a' w' hF' hb hd
    have e81:=tE hd 0 rfl
    exact dv1 (aq rfl rfl e81 rfl) (aY (hF'.at 14 rfl)) rfl rfl
   ·intro a' w' hF' hb hd
    have e81:=tE hd 2 rfl
    have e82:=tE hd 0 rfl
    have e83:=tE hd 1 rfl
    exact dv1 (aq rfl rfl e81 rfl) (av e82 e83 ab (aC (gK (c:=false) (aZ (by omega))) (by simp))) rfl rfl
   ·intro a' w' hF' hb hd
    have e81:=tE hd 0 rfl
    have e84:=tE hd 1 rfl
    exact dv0 (dt e81 e84) rfl rfl rfl
   ·intro a' w' hF' hb hd
    have e85:=tE hd 0 rfl
    exact dv0 (aY e85) rfl rfl rfl
   ·intro a' w' hF' hb hd
    have e86:=tE hd 0 rfl
    exact dv1 (aq rfl rfl e86 rfl) (aw (hF'.at 17 rfl) (bp ag ((st.bk 3 rfl).below hb) rfl)) rfl rfl
   ·intro a' w' hF' hb hd
    have e86:=tE hd 0 rfl
    exact dv1 (aq rfl rfl e86 rfl) (aw (hF'.at 16 rfl) (bp ag ((st.bk 2 rfl).below hb) rfl)) rfl rfl
   ·intro a' w' hF' hb hd
    have e86:=tE hd 0 rfl
    exact dv1 (aq rfl rfl e86 rfl) (aw (hF'.at 5 rfl) (bp ah ((st.bk 1 rfl).below hb) rfl)) rfl rfl
   ·intro a' w' hF' hb hd
    have e86:=tE hd 0 rfl
    exact dv1 (aq rfl rfl e86 rfl) (aw (hF'.at 4 rfl) (bp ah ((st.bk 0 rfl).below hb) rfl)) rfl rfl
   ·intro a' w' hF' hb hd
    have e86:=tE hd 0 rfl
    exact dv1 (aq rfl rfl e86 rfl) (aw (hF'.at 5 rfl) (bp ah ((st.bk 1 rfl).below hb) rfl)) rfl rfl
   ·intro a' w' hF' hb hd
    have e86:=tE hd 0 rfl
    exact dv1 (aq rfl rfl e86 rfl) (aw (hF'.at 4 rfl) (bp ah ((st.bk 0 rfl).below hb) rfl)) rfl rfl
   ·intro a' w' hF' hb hd
    have e86:=tE hd 0 rfl
    exact dv1 (aq rfl rfl e86 rfl) (aY (hF'.at 18 rfl)) rfl rfl
   ·intro a' w' hF' hb hd
    have e86:=tE hd 0 rfl
    exact dv1 (aq rfl rfl e86 rfl) (aY (hF'.at 0 rfl)) rfl rfl
   ·intro a' w' hF' hb hd
    have e86:=tE hd 4 rfl
    have e91:=tE hd 0 rfl
    have e92:=tE hd 1 rfl
    have e93:=tE hd 2 rfl
    have e94:=tE hd 3 rfl
    exact fM (aq rfl rfl e86 rfl) (rk k29 (jc e91 e92 e93 e94)) (oa _ _ _ _ (2+2+1) (2+2+1) c (kX c (((n:Int):Rat)/((4096:Int):Rat))) _ ((st.f 1 rfl).below hb) ((st.f 0 rfl).below hb) (by omega) (by omega) (by omega) (by omega) (by omega) (fun z h0 h1=>(xu (by omega) (by omega) (by omega) (by omega) h0 h1).up _ (by decide))) (fun _=>rfl) rfl
   ·intro a' w' hF' hb hd
    have e86:=tE hd 6 rfl
    have e87:=tE hd 0 rfl
    have e88:=tE hd 1 rfl
    have e89:=tE hd 2 rfl
    have e90:=tE hd 3 rfl
    have e95:=tE hd 4 rfl
    have hwh15:=eN (br c (kX c (((n:Int):Rat)/((4096:Int):Rat)))) (pcs c (((n:Int):Rat)/((4096:Int):Rat)) (((aO c (((n:Int):Rat)/((4096:Int):Rat)):Nat):Int))) (pcs c (((n:Int):Rat)/((4096:Int):Rat)) (((aO c (((n:Int):Rat)/((4096:Int):Rat)):Nat):Int)+1)) 21
    exact fM (aq rfl rfl e86 rfl) (rk k15 (AK e87 e88 e89 e90 e95 ao)) (rK _ _ _ _ _ _ _ _ (3*2+17) (3*2+17) (2+2+1) (2+2+1) (hlv (br c (kX c (((n:Int):Rat)/((4096:Int):Rat)))) _ _ 21) 2097152 _ ((st.f 4 rfl).below hb) ((st.f 5 rfl).below hb) ((st.f 1 rfl).below hb) ((st.f 0 rfl).below hb) (jb (c:=c) (az.up (bf (aD (by omega) (by omega)) (aD (by decide) (by decide))) 2 (by decide))) (i3 (c:=c) (az.up (bf (aD (by omega) (by omega)) (aD (by decide) (by decide))) 2 (by decide))) (vZ hc0 hc1 _) (vT hc0 hc1 _) (by omega) (by omega) (by omega) (by omega) (by omega) (by omega) (by omega) (by omega) (by omega) (by omega)) (fun _=>rfl) rfl
   ·intro a' w' hF' hb hd
    have e86:=tE hd 1 rfl
    have e96:=tE hd 0 rfl
    exact dv1 (aq rfl rfl e86 rfl) (lU e96 (jk _ false rfl)) rfl rfl
   ·intro a' w' hF' hb hd
    have e86:=tE hd 0 rfl
    have e97:=tE hd 1 rfl
    exact dv0 (dt e86 e97) rfl rfl rfl
   intro a w39 hF bb hall hne
   replace st:=st.to bb
   replace hF:=aE hall hF 22 rfl rfl
   clear hall hne bb
   refine E.nil ?_
   refine wp_cond_false (hF.at 0 rfl) ?_
   refine wp_skip ?_
   refine E.norm ?_
   refine wq ?_
   refine oM hF 19 rfl rfl fun a hF=>?_
   refine oL hF st 19 3 ag rfl rfl rfl rfl fun a hF=>?_
   refine cX st hF (rk k33 (ar (hF.at 1 rfl) (hF.at 0 rfl))) (ee c _ _ (3*2+17) _ (hT.below st.bel) (st.f 4 rfl) (jb (c:=c) (az.up (bf (aD (by omega) (by omega)) (aD (by decide) (by decide))) 2 (by decide))) (by omega)) rfl fun w40 a st hF=>?_
   have hkx2009:=fH c (dH c (((n:Int):Rat)/((4096:Int):Rat)))
   refine oM hF 4 rfl rfl fun a hF=>?_
   refine oV hF (av (hF.at 1 rfl) (hF.at 0 rfl) ab (aC (aK (c:=true) (aP (xB hc0 hc1 _))) (by simp))) rfl fun a hF=>?_
   refine oM hF 0 rfl rfl fun a hF=>?_
   refine E.opvg hF (aY (hF.at 25 rfl)) (aq rfl rfl (hF.at 0 rfl) rfl) rfl rfl rfl fun a hF=>?_
   refine E.opvg hF (aw (hF.at 24 rfl) (bp ag (st.bk 2 rfl) rfl)) (aq rfl rfl (hF.at 1 rfl) rfl) rfl rfl rfl fun a hF=>?_
   refine S.callxg st hF (aq rfl rfl (hF.at 2 rfl) rfl) (rk k33 (ar (hF.at 1 rfl) (hF.at 0 rfl))) (ee c _ _ (3*2+17) _ (hT.below st.bel) (st.f 5 rfl) (i3 (c:=c) (az.up (bf (aD (by omega) (by omega)) (aD (by decide) (by decide))) 2 (by decide))) (by omega)) rfl rfl rfl fun w41 a st hF=>?_
   have hkx90661:=fH c (fh c (((n:Int):Rat)/((4096:Int):Rat)))
   refine E.opvg hF (aY (hF.at 10 rfl)) (aq rfl rfl (hF.at 3 rfl) rfl) rfl rfl rfl fun a hF=>?_
   refine E.opvg hF (av (hF.at 0 rfl) ao ab (bh (by omega) (by omega))) (aq rfl rfl (hF.at 4 rfl) rfl) rfl rfl rfl fun a hF=>?_
   refine E.opvg hF (aY (hF.at 30 rfl)) (aq rfl rfl (hF.at 5 rfl) rfl) rfl rfl rfl fun a hF=>?_
   refine S.callxg st hF (aq rfl rfl (hF.at 6 rfl) rfl) (rk k36 (aB (hF.at 0 rfl))) (ef c _) rfl rfl rfl fun w42 a st hF=>?_
   refine E.opvg hF (av (hF.at 2 rfl) (hF.at 0 rfl) ab (jR (a:=(kX c (((n:Int):Rat)/((4096:Int):Rat)))+1) (b:=kP c) (by omega) (by omega))) (aq rfl rfl (hF.at 7 rfl) rfl) rfl rfl rfl fun a hF=>?_
   refine E.opvg hF (av (hF.at 5 rfl) (hF.at 0 rfl) ab (aC (aK (c:=true) (aP (vH hc0 hc1 _))) (by simp))) (aq rfl rfl (hF.at 8 rfl) rfl) rfl rfl rfl fun a hF=>?_
   refine oV hF (bR (hF.at 9 rfl) (hF.at 0 rfl)) rfl fun a hF=>?_
   refine oM hF 0 rfl rfl fun a hF=>?_
   refine E.opvg hF (aw (hF.at 34 rfl) (bp ag (st.bk 2 rfl) rfl)) (aq rfl rfl (hF.at 0 rfl) rfl) rfl rfl rfl fun a hF=>?_
   refine E.opvg hF (aw (hF.at 36 rfl) (bp ag (st.bk 3 rfl) rfl)) (aq rfl rfl (hF.at 1 rfl) rfl) rfl rfl rfl fun a hF=>?_
   refine S.callg st hF (aq rfl rfl (hF.at 2 rfl) rfl) (rk k37 (ar (hF.at 1 rfl) (hF.at 0 rfl))) (dU _ _ _ _ (3*2+17) _ (st.f 5 rfl) (st.f 4 rfl) ((i3 (c:=c) (az.up (bf (aD (by omega) (by omega)) (aD (by decide) (by decide))) 2 (by decide))).up _ (by omega)) ((jb (c:=c) (az.up (bf (aD (by omega) (by omega)) (aD (by decide) (by decide))) 2 (by decide))).up _ (by omega)) (by omega)) (fun _ _ h=>h) Rq.cl rfl rfl rfl fun vv44 w43 a st hF=>?_
   obtain⟨r46,rfl⟩:=Rq.fo (st.f 0 rfl)
   refine S.callg st hF (aq rfl rfl (hF.at 3 rfl) rfl) (rk k22 (ar ao ao)) (bZ (1) (1048576) _ (by decide) (by decide) (by decide) (by decide)) (fun _ _ h=>h) Rq.cl rfl rfl rfl fun vv48 w47 a st hF=>?_
   obtain⟨r50,rfl⟩:=Rq.fo (st.f 0 rfl)
   refine S.callxg st hF (aq rfl rfl (hF.at 4 rfl) rfl) (rk k19 (ar (hF.at 1 rfl) (hF.at 0 rfl))) (i4 _ _ _ _ (max ((3*2+17)+(3*2+17)+1) 2) _ (st.f 1 rfl) (st.f 0 rfl) ((bl (i3 (c:=c) (az.up (bf (aD (by omega) (by omega)) (aD (by decide) (by decide))) 2 (by decide))) (jb (c:=c) (az.up (bf (aD (by omega) (by omega)) (aD (by decide) (by decide))) 2 (by decide)))).up _ (by omega)) ((az.up (bf (aD (by decide) (by decide)) (aD (by decide) (by decide))) 2 (by decide)).up _ (by omega)) (by omega)) rfl rfl rfl fun w51 a st hF=>?_
   refine E.opvg hF (av (hF.at 0 rfl) ao ab (aC (ce (c:=true) (aP (xm.2 (tb _ _)))) (by simp))) (aq rfl rfl (hF.at 5 rfl) rfl) rfl rfl rfl fun a hF=>?_
   refine oV hF (bR (hF.at 6 rfl) (hF.at 0 rfl)) rfl fun a hF=>?_
   refine oM hF 0 rfl rfl fun a hF=>?_
   refine E.opvg hF (aY (hF.at 44 rfl)) (aq rfl rfl (hF.at 0 rfl) rfl) rfl rfl rfl fun a hF=>?_
   refine S.callxg st hF (aq rfl rfl (hF.at 1 rfl) rfl) (rk k36 (aB (hF.at 0 rfl))) (ef c _) rfl rfl rfl fun w52 a st hF=>?_
   refine E.opvg hF (aY (hF.at 46 rfl)) (aq rfl rfl (hF.at 2 rfl) rfl) rfl rfl rfl fun a hF=>?_
   refine S.callxg st hF (aq rfl rfl (hF.at 3 rfl) rfl) (rk k38 (aB (hF.at 0 rfl))) (ow c _) rfl rfl rfl fun w53 a st hF=>?_
   refine E.opvg hF (av (hF.at 2 rfl) (hF.at 0 rfl) ab (aC (aK (c:=true) (by simp)) (by simp))) (aq rfl rfl (hF.at 4 rfl) rfl) rfl rfl rfl fun a hF=>?_
   refine oV hF (bR (hF.at 5 rfl) (hF.at 0 rfl)) rfl fun a hF=>?_
   refine oE hF 0 rfl rfl fun a hF=>?_
   refine nr ?_
   have bel:=st.bel
   refine rt Tryz.results7 hF 0 rfl ?_
   exact⟨rfl,bel⟩
end Go.Proofs.YtplngpfpcheofaaGreatDoor
