import Derived.Test.YtpkhdajnppoinaaGreatKC25
namespace Go.Proofs.YtpkhdajnppoinaaGreat
open Go.RowKit
set_option maxRecDepth 100000
set_option linter.unusedVariables false
set_option maxHeartbeats 8000000
theorem Rr.rlim {w:World} {v:Value} {q:Rat} {k:Nat} (h:Rr w v q k):RLim q k:=by
 obtain⟨_,_,_,_,_,_,_,z,D,_,_,_,hD,rfl,l1,l2⟩:=h
 exact rlim_mk l1 l2 (by omega)
theorem int_mk (z:Int):((z:Int):Rat)=mkRat z 1:=by rw[Rat.mkRat_one]
theorem dWhole_any (v1:Value) (z1:Int) (k:Nat) (w:World) (h1:Rz w v1 z1) (l1:Lim z1.natAbs k) (hp:1≤k):
 Calls Tryz.prog 48 #[v1] w (RrPost w ((z1:Int):Rat) k):=by
 obtain⟨b1,ad1,n1,c1,rfl⟩:=h1.form
 have ha1:=h1.abs
 have hb1:=h1.neg
 have st:=St.start w
 refine E.enter (nt:=6) (L:=[(0,.agg #[.bool b1,.slice ad1 n1 c1])]) Tryz.func48 rfl rfl rfl (args_cons (i:=0) rfl args_nil) ?_
 intro a hF
 refine wp_seq ?_
 refine E.seq ?_
 refine S.box st hF (hF.at 0 rfl) rfl rfl fun g1 w1 a st hF=>?_
 refine S.alloc st hF ty_RRat rfl rfl fun g2 w2 a st hF=>?_
 refine E.nil ?_
 refine wp_seq ?_
 refine E.seq ?_
 refine E.opv hF (r_load (hF.at 1 rfl) (ld_all ty_RInt (st.bk 1 rfl) rfl)) rfl rfl rfl rfl fun a hF=>?_
 obtain⟨vv3,w4,hr,bb,hh5⟩:=bs_one w2
 refine E.opv hF (r_buildSlice (pair1 ev_c) hr) rfl rfl rfl rfl fun a hF=>?_
 replace st:=(st.to bb).add hh5 (Dg.cl _)
 clear hr bb hh5
 obtain⟨ad6,n6,c6,rfl⟩:=Dg.form (st.f 0 rfl)
 refine E.opv hF (r_build (pair2 (hF.at 1 rfl) (hF.at 0 rfl)) (bd_RRat_01 _ _ _ _ _ _ _ _)) rfl rfl rfl rfl fun a hF=>?_
 refine S.sto st hF 0 rfl (hF.at 3 rfl) (hF.at 0 rfl) ty_RRat rfl rfl rfl rfl fun w7 a st hF=>?_
 refine E.nil ?_
 refine wp_ret ?_
 refine S.ret Tryz.results48 st hF (hF.at 3 rfl) 0 rfl ty_RRat rfl hF.dfr ?_
 have bel:=st.bel
 exact⟨_,rfl,(Rr.mk (h1.below st.bel) (st.f 0 rfl) (by decide) (int_mk z1) l1 (Lim.one hp)),bel⟩
end Go.Proofs.YtpkhdajnppoinaaGreat
