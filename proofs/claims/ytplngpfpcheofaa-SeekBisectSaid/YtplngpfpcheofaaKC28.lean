import Derived.Test.YtplngpfpcheofaaKC27
namespace Go.Proofs.Ytplngpfpcheofaa
open Go.RowKit
set_option maxRecDepth 100000
set_option linter.unusedVariables false
set_option maxHeartbeats 8000000
section
section
theorem Rq.castM {w:World} {v:Value} {p q:Rat} (h:Rq w v p) (e:p=q):Rq w v q:=e▸h
end
section
theorem cMid_any (v1 v2:Value) (qx mx:Rat) (k j:Nat) (w:World) (h1:Rq w v1 qx) (h2:Rq w v2 mx) (hl:RLim qx k) (hm:RLim mx j) (hk:k≤1000) (hj:j≤1000):
 Calls Try.prog 19 #[v1,v2] w (RqPost w ((qx+mx)*(((1:Int):Rat)/((2:Int):Rat)))):=by
 have bel:Below w.heap.size w w:=Below.refl _ _
 refine E.enter (nt:=10) (L:=[(0,v1),(1,v2)]) Try.func19 rfl rfl rfl (args_cons (i:=0) rfl (args_cons (i:=1) rfl args_nil)) ?_
 intro a hF
 refine wp_seq ?_
 refine E.seq ?_
 obtain⟨b1,ad1,n1,c1,ae1,m1,d1,rfl,hn1,hd1⟩:=Rq.shape h1
 have hf2:=Wc.abs hn1
 obtain⟨g2,w3,ge2,hr,bb,o2⟩:=own_box (P:=Try.prog) (w:=w) (cs:=[.bool b1,.slice ad1 n1 c1,.slice ae1 m1 d1]) (v:= .agg #[.bool b1,.slice ad1 n1 c1,.slice ae1 m1 d1]) 32 rfl (niB (niS (niS ni0)))
 replace ge2:w.heap.size≤g2:=by rw[←ge2];exact bel.size
 refine E.opv hF (r_box (hF.at 0 rfl) hr) rfl rfl rfl rfl fun a hF=>?_
 clear hr
 replace h2:=h2.below bb
 replace h1:=h1.below bb
 replace hn1:=hn1.below bb
 replace hf2:=hf2.below bb
 replace hd1:=hd1.below bb
 replace bel:=below_to bel bb
 clear bb
 obtain⟨b4,ad4,n4,c4,ae4,m4,d4,rfl,hn4,hd4⟩:=Rq.shape h2
 have hf5:=Wc.abs hn4
 obtain⟨g3,w6,ge3,hr,bb,o3⟩:=own_box (P:=Try.prog) (w:=w3) (cs:=[.bool b4,.slice ad4 n4 c4,.slice ae4 m4 d4]) (v:= .agg #[.bool b4,.slice ad4 n4 c4,.slice ae4 m4 d4]) 32 rfl (niB (niS (niS ni0)))
 have ne2_3:g2≠g3:=by rw[←ge3];exact o2.ne_new
 replace ge3:w.heap.size≤g3:=by rw[←ge3];exact bel.size
 refine E.opv hF (r_box (hF.at 2 rfl) hr) rfl rfl rfl rfl fun a hF=>?_
 clear hr
 replace hf2:=hf2.below bb
 replace hd1:=hd1.below bb
 replace h1:=h1.below bb
 replace hn1:=hn1.below bb
 replace h2:=h2.below bb
 replace hn4:=hn4.below bb
 replace hf5:=hf5.below bb
 replace hd4:=hd4.below bb
 replace o2:=o2.below bb
 replace bel:=below_to bel bb
 clear bb
 obtain⟨g4,w7,ge4,hr,bb,o4⟩:=own_alloc (P:=Try.prog) (w:=w6) (cs:=[.bool false,.slice none 0 0,.slice none 0 0]) 32 ze_Rat rfl (niB (niS (niS ni0)))
 have ne2_4:g2≠g4:=by rw[←ge4];exact o2.ne_new
 have ne3_4:g3≠g4:=by rw[←ge4];exact o3.ne_new
 replace ge4:w.heap.size≤g4:=by rw[←ge4];exact bel.size
 refine E.opv hF (r_alloc hr) rfl rfl rfl rfl fun a hF=>?_
 clear hr
 replace hf2:=hf2.below bb
 replace hd1:=hd1.below bb
 replace h1:=h1.below bb
 replace hn1:=hn1.below bb
 replace hf5:=hf5.below bb
 replace hd4:=hd4.below bb
 replace h2:=h2.below bb
 replace hn4:=hn4.below bb
 replace o2:=o2.below bb
 replace o3:=o3.below bb
 replace bel:=below_to bel bb
 clear bb
 refine E.nil ?_
 refine wp_seq ?_
 refine E.seq ?_
 refine E.opv hF (r_load (hF.at 2 rfl) (ld_Rat (vs:=[.bool b1,.slice ad1 n1 c1,.slice ae1 m1 d1]) o2 rfl rfl)) rfl rfl rfl rfl fun a hF=>?_
 refine E.opv hF (r_load (hF.at 2 rfl) (ld_Rat (vs:=[.bool b4,.slice ad4 n4 c4,.slice ae4 m4 d4]) o3 rfl rfl)) rfl rfl rfl rfl fun a hF=>?_
 refine E.call hF (r_call Try.func10 en10.1 en10.2 (map2 (hF.at 1 rfl) (hF.at 0 rfl))) (rAdd_any _ _ (qx) (mx) (max k j) _ h1 h2 (hl.up _ (by omega)) (hm.up _ (by omega)) (by omega)) rfl rfl rfl rfl ?_
 rintro e w8 ⟨vv9,rfl,hh10,bb⟩
 refine⟨_,rfl,?_⟩
 intro a hF
 replace o4:=o4.below bb
 replace bel:=below_to bel bb
 clear bb
 obtain⟨b11,ad11,n11,c11,ae11,m11,d11,rfl,hn11,hd11⟩:=Rq.shape hh10
 have hf12:=Wc.abs hn11
 refine E.call hF (r_call Try.func15 en15.1 en15.2 (map2 ev_c ev_c)) (rOf2_any (1) (2) _ (by decide) (by decide) (by decide) (by decide)) rfl rfl rfl rfl ?_
 rintro e w13 ⟨vv14,rfl,hh15,bb⟩
 refine⟨_,rfl,?_⟩
 intro a hF
 replace hh10:=hh10.below bb
 replace hn11:=hn11.below bb
 replace hf12:=hf12.below bb
 replace hd11:=hd11.below bb
 replace o4:=o4.below bb
 replace bel:=below_to bel bb
 clear bb
 obtain⟨b16,ad16,n16,c16,ae16,m16,d16,rfl,hn16,hd16⟩:=Rq.shape hh15
 have hf17:=Wc.abs hn16
 refine E.call hF (r_call Try.func12 en12.1 en12.2 (map2 (hF.at 1 rfl) (hF.at 0 rfl))) (rMul_any _ _ ((qx)+(mx)) (((1:Int):Rat)/((2:Int):Rat)) (max (k+j+1) 2) _ hh10 hh15 ((rlim_add hl hm).up _ (by omega)) ((RLim.up (rlim_mk2 (limz_64 (by decide) (by decide)) (limz_64 (by decide) (by decide))) 2 (by decide)).up _ (by omega)) (by omega)) rfl rfl rfl rfl ?_
 rintro e w18 ⟨vv19,rfl,hh20,bb⟩
 refine⟨_,rfl,?_⟩
 intro a hF
 replace o4:=o4.below bb
 replace bel:=below_to bel bb
 clear bb
 obtain⟨b21,ad21,n21,c21,ae21,m21,d21,rfl,hn21,hd21⟩:=Rq.shape hh20
 have hf22:=Wc.abs hn21
 obtain⟨w23,hr,tu,on⟩:=st_Rat (vs:=[.bool b21,.slice ad21 n21 c21,.slice ae21 m21 d21]) o4 rfl rfl (ocB (ocS (ocS oc0))) (niB (niS (niS ni0))) (o:=0) rfl
 have kp:=tu.keep o4
 refine E.st hF (r_store (hF.at 5 rfl) (hF.at 0 rfl) (hr _ rfl)) rfl rfl fun a hF=>?_
 clear hr
 replace hh20:=hh20.keep kp
 replace hn21:=hn21.keep kp
 replace hf22:=hf22.keep kp
 replace hd21:=hd21.keep kp
 replace bel:=tu.below bel ge4
 clear tu kp
 replace o4:=on
 clear on
 refine E.nil ?_
 refine wp_ret ?_
 refine bodyPost_ret (res_cell Try.results19 (hF.at 5 rfl) (ld_Rat (vs:=[.bool b21,.slice ad21 n21 c21,.slice ae21 m21 d21]) o4 rfl rfl)) hF.dfr ?_
 exact⟨_,rfl,hh20,bel⟩
end
end
end Go.Proofs.Ytplngpfpcheofaa
