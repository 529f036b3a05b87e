import Derived.Test.YtpkhdajnppoinaaGreatKC24
namespace Go.Proofs.YtpkhdajnppoinaaGreat
open Go.RowKit
set_option maxRecDepth 100000
set_option linter.unusedVariables false
set_option maxHeartbeats 8000000
section
section
theorem of_one (z:Int):(z:Rat)/((1:Int):Rat)=(z:Rat):=by
 rw[Rat.intCast_one];grind
def fit64 (z:Int):Bool:=decide (-9223372036854775808≤z∧z≤9223372036854775807)
def sm64 (z:Int):Int:=if fit64 z then z else 0
theorem fit64_t {z:Int} (h0: -9223372036854775808≤z) (h1:z≤9223372036854775807):fit64 z=true:=decide_eq_true ⟨h0,h1⟩
theorem Rq.castM {w:World} {v:Value} {p q:Rat} (h:Rq w v p) (e:p=q):Rq w v q:=e▸h
end
section
theorem small64 (v:Value) (z:Int) (w:World) (h:Wz w v z):Calls Tryz.prog 45 #[v] w (ValPost w (.tuple #[.int .i64 (sm64 z),.bool (fit64 z)])):=by
 by_cases k: -9223372036854775808≤z∧z≤9223372036854775807
 ·have e1:fit64 z=true:=decide_eq_true k
  have e2:sm64 z=z:=by unfold sm64;rw[e1];rfl
  rw[e1,e2]
  exact whSmall_yes v z w h k.1 k.2
 ·have e1:fit64 z=false:=decide_eq_false k
  have e2:sm64 z=0:=by unfold sm64;rw[e1];rfl
  rw[e1,e2]
  exact whSmall_no v z w h (by omega)
theorem cOf_any (v1:Value) (z:Int) (w:World) (h1:Wz w v1 z):
 Calls Tryz.prog 74 #[v1] w (RqPost w (z:Rat)):=by
 have st:=St.start w
 refine E.enter (nt:=6) (L:=[(0,v1)]) Tryz.func74 rfl rfl rfl (args_cons (i:=0) rfl args_nil) ?_
 intro a hF
 refine wp_seq ?_
 refine E.seq ?_
 obtain⟨b2,ad2,n2,c2,rfl⟩:=Wz.form h1
 refine S.box st hF (hF.at 0 rfl) rfl rfl fun g1 w1 a st hF=>?_
 have hf3:=Wz.abso h1
 refine S.alloc st hF ty_Rat rfl rfl fun g2 w4 a st hF=>?_
 refine E.nil ?_
 refine wp_seq ?_
 refine E.drawn 3 mixed hF [3,4,5] [(fun _ v=>v= .agg #[.bool b2,.slice ad2 n2 c2]),(fun w v=>Wc w v (1)),(fun w v=>Rq w v ((z:Rat)/(1:Rat)))] [] (by decide+kernel) (by decide+kernel) rfl rfl rfl ⟨(Mb.eq _),(fun _ _ _ h hb=>h.below hb),(fun _ _ _ h hb=>h.below hb),trivial⟩ trivial ⟨?_,?_,?_,trivial⟩ ?_
 ·intro a' w' hF' hb hd
  exact dv0 (r_load (hF'.at 1 rfl) (ld_all ty_Int ((st.bk 1 rfl).below hb) rfl)) rfl rfl rfl
 ·intro a' w' hF' hb hd
  exact dc0 (r_call Tryz.func37 en37.1 en37.2 (map1 ev_c)) (whOf_any 1 _ (by decide) (by decide)) rfl rfl
 ·intro a' w' hF' hb hd
  have e3:=sHe hd 0 3 rfl rfl rfl rfl
  obtain⟨v4_0,e4,h4_1⟩:=sH hd 1 4 rfl rfl rfl rfl
  exact dc0 (r_call Tryz.func36 en36.1 en36.2 (map2 e3 e4)) (rmk_any _ _ (z) (1) _ (h1.below (below_to st.bel hb)) (Wc.wz h4_1)) rfl rfl
 intro a w5 hF bb hall hne
 replace st:=st.to bb
 obtain⟨vv6,e5,hh7⟩:=sS hall 2 5 rfl rfl
 replace st:=st.add hh7 (Rq.cl _)
 clear hh7
 clear hall hne bb
 obtain⟨b8,ad8,n8,c8,ae8,m8,d8,rfl⟩:=Rq.form (st.f 0 rfl)
 replace hF:=hF.add e5
 clear e5
 refine S.sto st hF 0 rfl (hF.at 1 rfl) (hF.at 0 rfl) ty_Rat rfl rfl rfl rfl fun w9 a st hF=>?_
 refine E.nil ?_
 refine wp_ret ?_
 refine S.ret Tryz.results74 st hF (hF.at 1 rfl) 0 rfl ty_Rat rfl hF.dfr ?_
 have bel:=st.bel
 exact⟨_,rfl,Rq.castM (st.f 0 rfl) (of_one z),bel⟩
end
end
end Go.Proofs.YtpkhdajnppoinaaGreat
