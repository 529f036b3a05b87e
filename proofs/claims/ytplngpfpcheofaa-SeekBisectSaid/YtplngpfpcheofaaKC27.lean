import Derived.Test.YtplngpfpcheofaaKC26
namespace Go.Proofs.Ytplngpfpcheofaa
open Go.RowKit
set_option maxRecDepth 100000
set_option linter.unusedVariables false
set_option maxHeartbeats 8000000
section
section
theorem own5_lim (a b:Bool) {x y:List Nat} (h1:okb B32 x) (h2:okb B32 y) (m:Nat) (hm:1≤m):RLim ((rawZ a x m:Rat)/(rawZ b y m:Rat)) m:=
 RLim.up (rlim_mk2 (rawZ_limo a h1 m) (rawZ_limo b h2 m)) m (by omega)
theorem Own5_any (nega1:Bool) (aa1:Option Addr) (na1 ca1:Nat) (xa1:List Nat) (negb1:Bool) (ab1:Option Addr) (nb1 cb1:Nat) (xb1:List Nat) (m:Nat) (w:World) (ia1:InX w aa1 na1 ca1 xa1) (ib1:InX w ab1 nb1 cb1 xb1) (hm:m≤1000):
 Calls Try.prog 5 #[.agg #[.bool nega1,.slice aa1 na1 ca1,.bool negb1,.slice ab1 nb1 cb1],.int .i64 (m:Nat)] w (RqPost w ((rawZ nega1 xa1 m:Rat)/(rawZ negb1 xb1 m:Rat))):=by
 have oka1:=ia1.ok
 have okb1:=ib1.ok
 have st:=St.start w
 refine E.enter (nt:=14) (L:=[(0,.agg #[.bool nega1,.slice aa1 na1 ca1,.bool negb1,.slice ab1 nb1 cb1]),(1,.int .i64 ((m:Nat):Int))]) Try.func5 rfl rfl rfl (args_cons (i:=0) rfl (args_cons (i:=1) rfl args_nil)) ?_
 intro a hF
 refine wp_seq ?_
 refine E.seq ?_
 refine S.box st hF (hF.at 0 rfl) rfl rfl fun g2 w1 a st hF=>?_
 refine S.alloc st hF ty_Rat rfl rfl fun g4 w2 a st hF=>?_
 refine E.nil ?_
 refine wp_seq ?_
 refine E.drawn 9 mixed hF [5,6,7,8,9,10,11,12,13] [(fun _ v=>v= .pointer (some ⟨g2,0,none⟩)),(fun _ v=>v= .agg #[.bool nega1,.slice aa1 na1 ca1]),(fun _ v=>v= .int .i64 ((m:Nat):Int)),(fun w v=>Wz w v (rawZ nega1 xa1 m)),(fun _ v=>v= .pointer (some ⟨g2,2,none⟩)),(fun _ v=>v= .agg #[.bool negb1,.slice ab1 nb1 cb1]),(fun _ v=>v= .int .i64 ((m:Nat):Int)),(fun w v=>Wz w v (rawZ negb1 xb1 m)),(fun w v=>Rq w v ((rawZ nega1 xa1 m:Rat)/(rawZ negb1 xb1 m:Rat)))] [] (by decide+kernel) (by decide+kernel) rfl rfl rfl ⟨(Mb.eq _),(Mb.eq _),(Mb.eq _),(fun _ _ _ h hb=>h.below hb),(Mb.eq _),(Mb.eq _),(Mb.eq _),(fun _ _ _ h hb=>h.below hb),(fun _ _ _ h hb=>h.below hb),trivial⟩ trivial ⟨?_,?_,?_,?_,?_,?_,?_,?_,?_,trivial⟩ ?_
 ·intro a' w' hF' hb hd
  exact dv0 (r_field (hF'.at 1 rfl) (fa_Raw5_0 (p:=0) rfl)) rfl rfl rfl
 ·intro a' w' hF' hb hd
  have e5:=sHe hd 0 5 rfl rfl rfl rfl
  exact dv0 (r_load e5 (ld_Raw (vs:=[.bool nega1,.slice aa1 na1 ca1]) ((st.b 1 rfl rfl).below hb) rfl rfl)) rfl rfl rfl
 ·intro a' w' hF' hb hd
  exact dv0 (r_move (hF'.at 3 rfl)) rfl rfl rfl
 ·intro a' w' hF' hb hd
  have e6:=sHe hd 0 6 rfl rfl rfl rfl
  have e7:=sHe hd 1 7 rfl rfl rfl rfl
  exact dc0 (r_call Try.func18 en18.1 en18.2 (map2 e6 e7)) (own_any nega1 aa1 na1 ca1 m xa1 _ (ia1.below (below_to st.bel hb)) (by omega)) rfl rfl
 ·intro a' w' hF' hb hd
  exact dv0 (r_field (hF'.at 1 rfl) (fa_Raw5_1 (p:=2) rfl)) rfl rfl rfl
 ·intro a' w' hF' hb hd
  have e9:=sHe hd 0 9 rfl rfl rfl rfl
  exact dv0 (r_load e9 (ld_Raw (vs:=[.bool negb1,.slice ab1 nb1 cb1]) ((st.b 1 rfl rfl).below hb) rfl rfl)) rfl rfl rfl
 ·intro a' w' hF' hb hd
  exact dv0 (r_move (hF'.at 3 rfl)) rfl rfl rfl
 ·intro a' w' hF' hb hd
  have e10:=sHe hd 0 10 rfl rfl rfl rfl
  have e11:=sHe hd 1 11 rfl rfl rfl rfl
  exact dc0 (r_call Try.func18 en18.1 en18.2 (map2 e10 e11)) (own_any negb1 ab1 nb1 cb1 m xb1 _ (ib1.below (below_to st.bel hb)) (by omega)) rfl rfl
 ·intro a' w' hF' hb hd
  obtain⟨v8_0,e8,h8_1⟩:=sH hd 0 8 rfl rfl rfl rfl
  obtain⟨v12_0,e12,h12_1⟩:=sH hd 1 12 rfl rfl rfl rfl
  exact dc0 (r_call Try.func17 en17.1 en17.2 (map2 e8 e12)) (rmk_any _ _ (rawZ nega1 xa1 m) (rawZ negb1 xb1 m) _ h8_1 h12_1) rfl rfl
 intro a w3 hF bb hall hne
 replace st:=st.to bb
 obtain⟨vv4,e13,hh5⟩:=sS hall 8 13 rfl rfl
 replace st:=st.add hh5 (Rq.cl _)
 clear hh5
 clear hall hne bb
 obtain⟨b6,ad6,n6,c6,ae6,m6,d6,rfl⟩:=Rq.form (st.f 0 rfl)
 replace hF:=hF.add e13
 clear e13
 refine S.sto st hF 0 rfl (hF.at 1 rfl) (hF.at 0 rfl) ty_Rat rfl rfl rfl rfl fun w7 a st hF=>?_
 refine E.nil ?_
 refine wp_ret ?_
 refine S.ret Try.results5 st hF (hF.at 1 rfl) 0 rfl ty_Rat rfl hF.dfr ?_
 have bel:=st.bel
 have hh5:=(st.f 0 rfl)
 exact⟨_,rfl,hh5,bel⟩
end
section
theorem rSame_true (v1 v2:Value) (q1 q2:Rat) (w:World) (h1:Rq w v1 q1) (h2:Rq w v2 q2) (h:q1=q2):Calls Try.prog 13 #[v1,v2] w (BoolPost w true):=by
 have:=rSame_any v1 v2 q1 q2 w h1 h2
 rw[decide_eq_true h] at this
 exact this
end
section
theorem qc_def (a b:Rat):qc a b=if a<b then -1 else if b<a then 1 else 0:=by
 unfold qc ci
 simp only [←Rat.lt_iff]
end
end
end Go.Proofs.Ytplngpfpcheofaa
