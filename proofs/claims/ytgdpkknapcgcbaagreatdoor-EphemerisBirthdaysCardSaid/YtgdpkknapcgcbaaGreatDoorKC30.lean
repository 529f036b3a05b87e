import Derived.Test.YtgdpkknapcgcbaaGreatDoorKC29
namespace Go.Proofs.YtgdpkknapcgcbaaGreatDoor
open Go.RowKit
set_option maxRecDepth 100000
set_option linter.unusedVariables false
set_option maxHeartbeats 8000000
theorem Kg:(Tryz.f216.name == "runtime.NumGoroutine")=false/\Tryz.f216.body.isNone=false:=⟨by decide+kernel,by kernel_rfl⟩
def wax (t:Rat):Bool:=!full t
def cmT (n:Int) (t:Rat):Bool:=full ((n:Int):Rat) && wax t
theorem LS (n:Int):cmT n (((n+1:Int)):Rat)=aN n:=rfl
theorem CG {a b:Rat}:qc a b<0↔a<b:=by
 rw[yU]
 split
 ·rename_i h;exact⟨fun _=>h,fun _=>by decide⟩
 ·rename_i h;exact⟨fun e=>absurd e (by split <;> decide),fun e=>absurd e h⟩
theorem EQ (t:Rat):decide (qc (bv t) ((180:Int):Rat)<0)=wax t:=by
 unfold wax full
 by_cases h:bv t<((180:Int):Rat)
 ·rw[decide_eq_true (CG.2 h),decide_eq_false (by grind)];rfl
 ·rw[decide_eq_false (fun e=>h (CG.1 e)),decide_eq_true (by grind)];rfl
theorem zj {x:Rat} (h0:0<=x) (h1:x<=((360:Int):Rat)):0<=skp x/\skp x<=26:=by
 rw[show((360:Int):Rat)=360 from rfl] at h1
 exact⟨yC h0,by have:=yv (x:=x) (m:=27) (by rw[show((27:Int):Rat)=27 from rfl];grind) (by decide);omega⟩
theorem qF {n:Int} (h0: -9223372036854775808<=n) (h1:n<=9223372036854775807):av (((n+1:Int)):Rat) 2:=
 cK (show(n+1).natAbs <B32^2 from by rw[show B32^2=18446744073709551616 from rfl];omega) (by decide)
theorem xu (n:Int) (w:World) (hn0: -9223372036854775808<=n) (hn1:n<=9223372036854775807):
 CQ 217 #[iv n] w (((n+1:Int)):Rat):=by
 refine gs1 (nt:=7) Tryz.func217 rfl rfl rfl fun a st hF=>wq<|S.alloc st hF ab rfl rfl fun g2 w1 a st hF=>nq<|oM hF 1 rfl rfl fun a hF=>S.ck st hF (rgc k40 (aG hF.o)) dM Rl.cl rfl fun vv3 w2 a st hF=>?_
 obtain⟨r5,rfl⟩:=Rq.fo (st.f 0 rfl).1
 refine S.ck st hF (rgc k40 (aG ao)) dM Rl.cl rfl fun vv7 w6 a st hF=>?_
 obtain⟨r9,rfl⟩:=Rq.fo (st.f 0 rfl).1
 refine S.ck st hF (rgc k76 (aL hF.p hF.o)) (pF (st.f 1 rfl) (st.f 0 rfl)) Rl.cl rfl fun vv11 w10 a st hF=>?_
 obtain⟨r13,rfl⟩:=Rq.fo (st.f 0 rfl).1
 refine so st hF 0 4 0 ab rfl rfl rfl rfl fun w14 a st hF=>nr<|rs Tryz.results217 st hF 4 0 ab rfl rfl rfl ?_
 exact⟨_,rfl,Rq.castM (st.f 0 rfl).1 (by rw[Rat.intCast_add]),st.bel⟩
theorem qY (v1:Value) (qt:Rat) (k:Nat) (w:World) (hT:bE w) (h1:Rq w v1 qt) (hl:av qt k) (hk:k<=100):
 CV 216 #[v1] w (.bool (wax qt)):=by
 refine gs1 (nt:=8) Tryz.func216 rfl rfl rfl fun a st hF=>wq ?_
 obtain⟨r2,rfl⟩:=Rq.fo h1
 refine bx st hF 0 rfl rfl fun g1 w1 a st hF=>?_
 refine oC hF rfl fun a hF=>nq<|oL hF st 1 0 ab rfl rfl rfl rfl fun a hF=>S.ck st hF (rgc CJ (aG hF.o)) (tZ (hT.below st.bel) ⟨(h1.below st.bel),hl⟩) Rl.cl rfl fun vv4 w3 a st hF=>?_
 obtain⟨r6,rfl⟩:=Rq.fo (st.f 0 rfl).1
 refine S.ck st hF (rgc k40 (aG ao)) dM Rl.cl rfl fun vv8 w7 a st hF=>?_
 obtain⟨r10,rfl⟩:=Rq.fo (st.f 0 rfl).1
 refine cX st hF (rgc k31 (aL hF.p hF.o)) (uj _ _ _ _ (max (6*k+210) 2) _ (st.f 1 rfl).1 (st.f 0 rfl).1 ((st.f 1 rfl).2.up _ (by omega)) ((st.f 0 rfl).2.up _ (by omega)) (by omega)) rfl fun w11 a st hF=>?_
 refine oT hF 0 (aY (c:=decide (qc (bv (qt)) (((180:Int):Rat))<0)) rfl) rfl rfl fun a hF=>oE hF 0 rfl rfl fun a hF=>nr ?_
 have bel:=st.bel
 refine rt Tryz.results216 hF 0 rfl ?_
 exact⟨by rw[EQ],bel⟩
theorem Nk (w:World) (hT:bE w):pE w 216 #[] 100 wax:=
 ⟨⟨_,Tryz.func216,Kg.1,Kg.2⟩,fun v q w' hb hv hl=>qY v q 100 w' (hT.below hb) hv hl (by decide)⟩
theorem RP {n:Int} {t:Rat} (h:wax ((n:Int):Rat)=true):cmT n t=false:=by
 unfold cmT
 unfold wax at h
 rw[show full ((n:Int):Rat)=false by simpa using h];rfl
theorem Ra {n:Int} {t:Rat} (h:¬wax ((n:Int):Rat)=true):cmT n t=wax t:=by
 unfold cmT
 rw[show full ((n:Int):Rat)=true by unfold wax at h;simpa using h];rfl
theorem rD (n:Int) (v1:Value) (qt:Rat) (k:Nat) (w:World) (hT:bE w) (h1:Rq w v1 qt) (hl:av qt k) (hk:k<=100) (hn0: -9000000000000000000<=n) (hn1:n<=9000000000000000000):
 CV 161 #[iv n,v1] w (.bool (cmT n qt)):=by
 refine gs2 (nt:=13) Tryz.func161 rfl rfl rfl fun a st hF=>wq ?_
 obtain⟨r2,rfl⟩:=Rq.fo h1
 refine bx st hF 1 rfl rfl fun g3 w1 a st hF=>?_
 refine oC hF rfl fun a hF=>nq<|oM hF 2 rfl rfl fun a hF=>S.ck st hF (rgc k40 (aG hF.o)) dM Rl.cl rfl fun vv4 w3 a st hF=>?_
 obtain⟨r6,rfl⟩:=Rq.fo (st.f 0 rfl).1
 refine cX st hF (rgc PP (aG hF.o)) (qY _ _ 2 _ (hT.below st.bel) (st.f 0 rfl).1 (st.f 0 rfl).2 (by omega)) rfl fun w7 a st hF=>?_
 by_cases hc8:wax (((n:Int):Rat))=true
 ·first
  |(exfalso;omega)
  |(refine oV hF (dF (Eq.trans hF.o (congrArg Value.bool hc8)) (cO _ false rfl)) rfl fun a hF=>?_
    refine oM hF 0 rfl rfl fun a hF=>nu hF 0 rfl rfl rfl fun a hF=>nu hF 1 rfl rfl rfl fun a hF=>oV hF (aQ hF.q ao) rfl fun a hF=>oE hF 0 rfl rfl fun a hF=>nr ?_
    have bel:=st.bel
    refine rt Tryz.results161 hF 0 rfl ?_
    exact⟨by rw[RP hc8],bel⟩)
 ·first
  |(exfalso;omega)
  |(refine oV hF (dF (Eq.trans hF.o (congrArg Value.bool (eq_false_of_ne_true hc8))) (cO _ true rfl)) rfl fun a hF=>?_
    refine oM hF 0 rfl rfl fun a hF=>og hF (ar (hF.at 6 rfl) (bK ab (st.bk 0 rfl) rfl)) 0 rfl rfl rfl fun a hF=>?_
    refine S.callxg st hF (au rfl rfl hF.p rfl) (rgc PP (aG hF.o)) (qY _ (qt) k _ (hT.below st.bel) (h1.below st.bel) hl (by omega)) rfl rfl rfl fun w9 a st hF=>?_
    refine oV hF (aK hF.q hF.o) rfl fun a hF=>oE hF 0 rfl rfl fun a hF=>nr ?_
    have bel:=st.bel
    refine rt Tryz.results161 hF 0 rfl ?_
    exact⟨by rw[Ra hc8],bel⟩)
theorem sY (n:Int) (w:World) (hT:bE w) (hn0: -9000000000000000000<=n) (hn1:n<=9000000000000000000):
 CV 163 #[iv n] w (.bool (aN n)):=by
 refine gs1 (nt:=7) Tryz.func163 rfl rfl rfl fun a st hF=>wq ?_
 refine oC hF rfl fun a hF=>nq<|oM hF 1 rfl rfl fun a hF=>oM hF 2 rfl rfl fun a hF=>S.ck st hF (rgc O7 (aG hF.o)) (bf (xu n _ (by omega) (by omega)) (qF (n:=n) (by omega) (by omega))) Rl.cl rfl fun vv2 w1 a st hF=>?_
 obtain⟨r4,rfl⟩:=Rq.fo (st.f 0 rfl).1
 refine cX st hF (rgc Ob (aL hF.q hF.o)) (rD n _ _ 2 _ (hT.below st.bel) (st.f 0 rfl).1 (st.f 0 rfl).2 (by omega) (by omega) (by omega)) rfl fun w5 a st hF=>?_
 refine oE hF 0 rfl rfl fun a hF=>nr ?_
 have bel:=st.bel
 refine rt Tryz.results163 hF 0 rfl ?_
 exact⟨by rw[<-LS],bel⟩
theorem Jr (n h:Int) (N:Nat) (kf:FuncId) (cap:Array Value) (p:Rat->Bool) (w:World) (hN:min (max h 0) 64=((N:Nat):Int)) (hN2:N<=64) (hn0: -9000000000000000000<=n) (hn1:n<=9000000000000000000) (hask:pE w kf cap 14 p):
 CP 262 #[iv n,iv h,.func (.func kf) #[] cap] w ((fun e w'=>∃v u,e= .returned (.tuple #[v,u])/\Rq w' v (hlo p ((n:Int):Rat) (((n+1:Int)):Rat) N)/\Rq w' u (hhi p ((n:Int):Rat) (((n+1:Int)):Rat) N)/\Below w.heap.size w w')):=by
 refine gs3 (nt:=17) Tryz.func262 rfl rfl rfl fun a st hF=>wq<|S.alloc st hF ab rfl rfl fun g6 w1 a st hF=>S.alloc st hF ab rfl rfl fun g7 w2 a st hF=>nq<|oM hF 2 rfl rfl fun a hF=>S.ck st hF (rgc k40 (aG hF.o)) dM Rl.cl rfl fun vv4 w3 a st hF=>?_
 obtain⟨r6,rfl⟩:=Rq.fo (st.f 0 rfl).1
 refine oM hF 4 rfl rfl fun a hF=>S.ck st hF (rgc O7 (aG hF.o)) (bf (xu n _ (by omega) (by omega)) (qF (n:=n) (by omega) (by omega))) Rl.cl rfl fun vv8 w7 a st hF=>?_
 obtain⟨r10,rfl⟩:=Rq.fo (st.f 0 rfl).1
 refine oM hF 7 rfl rfl fun a hF=>oM hF 9 rfl rfl fun a hF=>?_
 refine S.call2 st hF (rgc k78 (Ql (hF.at 4 rfl) hF.q hF.p hF.o)) (Lt _ _ _ _ 2 2 h N _ _ p _ (st.f 1 rfl).1 (st.f 0 rfl).1 (st.f 1 rfl).2 (st.f 0 rfl).2 (by omega) (by omega) hN (by omega) ((hask.below st.bel).to (by omega))) (fun _ _ h=>h) Rq.cl Rq.cl rfl rfl rfl rfl fun vv12 vv13 w11 a st hF=>?_
 obtain⟨r16,rfl⟩:=Rq.fo (st.f 0 rfl)
 obtain⟨r17,rfl⟩:=Rq.fo (st.f 1 rfl)
 refine oV hF (aH (v:= r16.v) hF.o rfl) rfl fun a hF=>oV hF (aH (v:= r17.v) hF.p rfl) rfl fun a hF=>so st hF 1 10 1 ab rfl rfl rfl rfl fun w18 a st hF=>so st hF 0 9 0 ab rfl rfl rfl rfl fun w19 a st hF=>nr ?_
 have bel:=st.bel
 refine bodyPost_ret (gh Tryz.results262 (hF.at 10 rfl) (bK ab (st.bk 1 rfl) rfl) (hF.at 9 rfl) (bK ab (st.bk 0 rfl) rfl)) hF.dfr ?_
 exact⟨_,_,rfl,(st.f 0 rfl),(st.f 1 rfl),bel⟩
theorem Fx (n:Int) (w:World) (hT:bE w) (hn0: -9000000000000000000<=n) (hn1:n<=9000000000000000000):
 CP 215 #[iv n] w ((fun e w'=>∃v u,e= .returned (.tuple #[v,u])/\Rq w' v (hlo wax ((n:Int):Rat) (((n+1:Int)):Rat) 10)/\Rq w' u (hhi wax ((n:Int):Rat) (((n+1:Int)):Rat) 10)/\Below w.heap.size w w')):=by
 refine gs1 (nt:=8) Tryz.func215 rfl rfl rfl fun a st hF=>wq<|S.alloc st hF ab rfl rfl fun g2 w1 a st hF=>S.alloc st hF ab rfl rfl fun g3 w2 a st hF=>nq<|oM hF 2 rfl rfl fun a hF=>?_
 refine S.call2 st hF (rgc ST (vo hF.o ao rfl)) (Jr n 10 10 _ _ wax _ (by decide) (by omega) (by omega) (by omega) ((Nk _ (hT.below st.bel)).to (by omega))) (fun _ _ h=>h) Rq.cl Rq.cl rfl rfl rfl rfl fun vv4 vv5 w3 a st hF=>?_
 obtain⟨r8,rfl⟩:=Rq.fo (st.f 0 rfl)
 obtain⟨r9,rfl⟩:=Rq.fo (st.f 1 rfl)
 refine oV hF (aH (v:= r8.v) hF.o rfl) rfl fun a hF=>oV hF (aH (v:= r9.v) hF.p rfl) rfl fun a hF=>so st hF 1 5 1 ab rfl rfl rfl rfl fun w10 a st hF=>so st hF 0 4 0 ab rfl rfl rfl rfl fun w11 a st hF=>nr ?_
 have bel:=st.bel
 refine bodyPost_ret (gh Tryz.results215 (hF.at 5 rfl) (bK ab (st.bk 1 rfl) rfl) (hF.at 4 rfl) (bK ab (st.bk 0 rfl) rfl)) hF.dfr ?_
 exact⟨_,_,rfl,(st.f 0 rfl),(st.f 1 rfl),bel⟩
theorem Dn (v1:Value) (qt:Rat) (k:Nat) (w:World) (h1:Rq w v1 (qt*(((1:Int):Rat)/((14:Int):Rat)))) (hl:av (qt*(((1:Int):Rat)/((14:Int):Rat))) k) (hk:k<=10000) (h0:0<=qt) (h3:qt<=((360:Int):Rat)):CV 105 #[v1] w (.tuple #[iv (skp qt),.bool true]):=by
 have h:=jT v1 _ k w h1 hl hk
 have b:=zj h0 h3
 rwa[show Rat.floor (qt*(((1:Int):Rat)/((14:Int):Rat)))=skp qt from rfl,mW (by omega) (by omega),mp (by omega) (by omega)] at h
theorem uz (v1:Value) (qt:Rat) (k:Nat) (w:World) (h1:Rq w v1 qt) (hl:av qt k) (hk:k<=3000) (h0:0<=qt) (h3:qt<=((360:Int):Rat)):
 CV 162 #[v1] w (iv (skp qt)):=by
 refine gs1 (nt:=13) Tryz.func162 rfl rfl rfl fun a st hF=>wq ?_
 obtain⟨r2,rfl⟩:=Rq.fo h1
 refine bx st hF 0 rfl rfl fun g1 w1 a st hF=>?_
 refine oC hF rfl fun a hF=>ns ?_
 refine E.rg 9 aM hF [6,7,8,9,5,10,11,3,4] [_,_,_,_,.ex (.tuple #[iv (skp qt),.bool true]),.ex (iv (skp qt)),.ex (.bool true),.ex (iv (skp qt)),.ex (.bool true)] (by decide+kernel) rfl rfl rfl ⟨rb st ab 1 0 rfl,ck st k36 rfl fun _ s=>en,ck st dB rfl fun _ s _ x7=>dE ⟨(h1.below s.bel),hl⟩ x7,ck st vi rfl fun _ s _ x8=>bD (Dn _ qt (k+2) _ x8.1 x8.2 (by omega) h0 h3),(by intro a' w' hF' hb hd;have e9:=tE hd 0 rfl;exact dv0 (aD e9) rfl rfl rfl),(by intro a' w' hF' hb hd;have e5:=tE hd 0 rfl;exact dv0 (aH (v:= iv (skp qt)) e5 rfl) rfl rfl rfl),(by intro a' w' hF' hb hd;have e5:=tE hd 0 rfl;exact dv0 (aH (v:= .bool true) e5 rfl) rfl rfl rfl),(by intro a' w' hF' hb hd;have e10:=tE hd 0 rfl;exact dv0 (aZ e10) rfl rfl rfl),(by intro a' w' hF' hb hd;have e11:=tE hd 0 rfl;exact dv0 (aZ e11) rfl rfl rfl),trivial⟩ ?_
 intro a w3 hF bb hall
 replace st:=st.to bb
 replace hF:=rE hall hF 7 rfl rfl
 clear hall bb
 refine nq ?_
 refine oM hF 0 rfl rfl fun a hF=>oE hF 0 rfl rfl fun a hF=>nr ?_
 have bel:=st.bel
 refine rt Tryz.results162 hF 0 rfl ?_
 exact⟨rfl,bel⟩
theorem Gu (v1:Value) (qt:Rat) (k:Nat) (w:World) (h1:Rq w v1 qt) (hl:av qt k) (hk:k<=10000) (h0: -9223372036854775808<=qt.floor) (h3:qt.floor<=9223372036854775807):CV 105 #[v1] w (.tuple #[iv (Rat.floor qt),.bool true]):=by
 have h:=jT v1 _ k w h1 hl hk
 rwa[mW h0 h3,mp h0 h3] at h
theorem qu (n:Int):0<=bv ((n:Int):Rat)/\bv ((n:Int):Rat)<=((360:Int):Rat):=⟨mc _,Rat.le_of_lt (ls _)⟩
theorem ss (n:Int):0<=((360:Int):Rat)-bv ((n:Int):Rat)/\((360:Int):Rat)-bv ((n:Int):Rat)<=((360:Int):Rat):=by
 have:=qu n
 constructor <;> grind
theorem uJ (v1:Value) (qt:Rat) (k:Nat) (w:World) (hT:bE w) (h1:Rq w v1 qt) (hl:av qt k) (hk:k<=100) (hf0: -8000000000000000000<=Rat.floor qt) (hf1:Rat.floor qt<=8000000000000000000):
 CV 92 #[v1] w (iv (aA qt)):=by
 refine gs1 (nt:=37) Tryz.func92 rfl rfl rfl fun a st hF=>wq ?_
 obtain⟨r2,rfl⟩:=Rq.fo h1
 refine bx st hF 0 rfl rfl fun g1 w1 a st hF=>?_
 refine oC hF rfl fun a hF=>nq<|oL hF st 1 0 ab rfl rfl rfl rfl fun a hF=>cX st hF (rgc vi (aG hF.o)) (Gu _ qt k _ (h1.below st.bel) hl (by omega) (by omega) (by omega)) rfl fun w3 a st hF=>?_
 refine oM hF 0 rfl rfl fun a hF=>oV hF (aH (v:= iv (Rat.floor qt)) hF.o rfl) rfl fun a hF=>oV hF (aH (v:= .bool true) hF.p rfl) rfl fun a hF=>oA hF 1 rfl rfl fun a hF=>oA hF 1 rfl rfl fun a hF=>ns<|wq<|oM hF 0 rfl rfl fun a hF=>oV hF (dF hF.o (cO _ false rfl)) rfl fun a hF=>E.nil<|wp_cond_false hF.o<|wp_skip<|E.norm ?_
 refine wp_seq<|wq<|oM hF 3 rfl rfl fun a hF=>oL hF st 11 0 ab rfl rfl rfl rfl fun a hF=>cX st hF (rgc Ob (aL hF.p hF.o)) (rD (Rat.floor qt) _ (qt) k _ (hT.below st.bel) (h1.below st.bel) hl (by omega) (by omega) (by omega)) rfl fun w4 a st hF=>E.nil ?_
 by_cases hc5:cmT (Rat.floor qt) (qt)=true
 ·first
  |(exfalso;omega)
  |(refine wp_cond_true (Eq.trans hF.o (congrArg Value.bool hc5)) ?_
    refine wq ?_
    refine oM hF 6 rfl rfl fun a hF=>oE hF 0 rfl rfl fun a hF=>nr ?_
    have bel:=st.bel
    refine rt Tryz.results92 hF 0 rfl ?_
    exact⟨by rw[nA (t:=qt) hc5],bel⟩)
 ·first
  |(exfalso;omega)
  |(refine wp_cond_false (Eq.trans hF.o (congrArg Value.bool (eq_false_of_ne_true hc5))) ?_
    refine wp_skip<|E.norm<|wp_seq<|wp_block ?_
    refine E.loop (fun mq a wv=>∃(m:Int),bL (Rat.floor qt)<m/\m<=Rat.floor qt/\¬cmT (Rat.floor qt) (qt)=true/\Fr 37 a [(3,iv m)]/\St w wv [] []/\mq=(m-bL (Rat.floor qt)).toNat) (((Rat.floor qt)-bL (Rat.floor qt)).toNat) ?_ ?_
    ·exact⟨(Rat.floor qt),(ce (Rat.floor qt)).2.1,(Int.le_refl _),hc5,Fr.pick (L':=[(3,iv (Rat.floor qt))]) hF [6] rfl,st.pick [] [] rfl rfl (by decide),rfl⟩
    ·rintro mq a w6 ⟨m,hm0,hm1,hnow,hF,st,hm⟩
     have hls:=ce (Rat.floor qt)
     have hsk:=FQ hm0 hls.2.2.1 (fun x h1 h2=>hls.2.2.2 x h1 (by omega))
     refine wp_seq<|wq<|oM hF 0 rfl rfl fun a hF=>?_
     by_cases hc7:(-9223372036854775808)<m
     ·first
      |(exfalso;omega)
      |(refine oT hF 0 (bT (c:=true) (aI hc7)) rfl rfl fun a hF=>?_
        refine E.nil<|wp_cond_true hF.o<|wp_skip<|E.norm<|wp_block<|wq<|oM hF 2 rfl rfl fun a hF=>S.ck st hF (rgc k40 (aG hF.o)) dM Rl.cl rfl fun vv9 w8 a st hF=>?_
        obtain⟨r11,rfl⟩:=Rq.fo (st.f 0 rfl).1
        refine S.ck st hF (rgc CJ (aG hF.o)) (tZ (hT.below st.bel) (st.f 0 rfl)) Rl.cl rfl fun vv13 w12 a st hF=>?_
        obtain⟨r15,rfl⟩:=Rq.fo (st.f 0 rfl).1
        refine cX st hF (rgc NS (aG hF.o)) (uz _ _ 222 _ (st.f 0 rfl).1 (st.f 0 rfl).2 (by omega) (qu m).1 (qu m).2) rfl fun w16 a st hF=>?_
        have hskp:=zj (qu m).1 (qu m).2
        refine oA hF 0 rfl rfl fun a hF=>ns<|wq<|oM hF 0 rfl rfl fun a hF=>?_
        by_cases hc17:skp (bv (((m:Int):Rat)))=0
        ·first
         |(exfalso;omega)
         |(refine oT hF 0 (aV (c:=true) (aI hc17)) rfl rfl fun a hF=>?_
           refine E.nil<|wp_cond_true hF.o<|wq ?_
           refine oM hF 9 rfl rfl fun a hF=>oV hF (aq hF.o ao aa (bB (by omega) (by omega))) rfl fun a hF=>oE hF 0 rfl rfl fun a hF=>ns<|wq<|oM hF 0 rfl rfl fun a hF=>cX st hF (rgc P7 (aG hF.o)) (sY (m-1) _ (hT.below st.bel) (by omega) (by omega)) rfl fun w18 a st hF=>E.nil ?_
           by_cases hc19:aN (m-1)=true
           ·first
            |(exfalso;omega)
            |(refine wp_cond_true (Eq.trans hF.o (congrArg Value.bool hc19)) ?_
              refine wq ?_
              refine oM hF 2 rfl rfl fun a hF=>oA hF 0 rfl rfl fun a hF=>nr ?_
              have bel:=st.bel
              refine rt Tryz.results92 hF 0 rfl ?_
              exact⟨by rw[kG (t:=qt) hnow,yV (f:=Rat.floor qt) (by omega) (by omega) hc19],bel⟩)
           ·first
            |(exfalso;omega)
            |(refine wp_cond_false (Eq.trans hF.o (congrArg Value.bool (eq_false_of_ne_true hc19))) ?_
              refine wp_skip<|E.norm<|wp_exit<|E.past<|E.out (id:=1)<|E.norm ?_
              exact⟨(m-1-bL (Rat.floor qt)).toNat,by omega,⟨(m-1),(zH (by omega) hc19),(by omega),hnow,Fr.pick (L':=[(3,iv (m-1))]) hF [2] rfl,st.pick [] [] rfl rfl (by decide),rfl⟩⟩))
        ·first
         |(exfalso;omega)
         |(refine oT hF 0 (aV (c:=false) (aJ hc17)) rfl rfl fun a hF=>?_
           refine E.nil<|wp_cond_false hF.o<|wp_skip<|E.norm<|wp_seq<|wq<|oM hF 9 rfl rfl fun a hF=>oM hF 3 rfl rfl fun a hF=>oV hF (aq ao hF.o aa (aX (by omega) (by omega))) rfl fun a hF=>?_
           by_cases hc20:m<(-9223372036854775808)+(skp (bv (((m:Int):Rat))))
           ·first
            |(exfalso;omega)
            |(refine oU hF 2 0 (aY (c:=true) (aI hc20)) rfl rfl rfl fun a hF=>?_
              refine E.nil<|wp_cond_true hF.o<|wp_exit<|E.past<|E.pastb (by decide)<|E.past<|E.out (id:=0)<|E.norm<|wq ?_
              refine oC hF rfl fun a hF=>nr ?_
              have bel:=st.bel
              refine rt Tryz.results92 hF 0 rfl ?_
              exfalso;omega)
           ·first
            |(exfalso;omega)
            |(refine oU hF 2 0 (aY (c:=false) (aJ hc20)) rfl rfl rfl fun a hF=>?_
              refine E.nil<|wp_cond_false hF.o<|wp_skip<|E.norm<|E.seq<|oM hF 13 rfl rfl fun a hF=>oM hF 7 rfl rfl fun a hF=>oV hF (aq hF.p hF.o aa (bB (by omega) (by omega))) rfl fun a hF=>oE hF 0 rfl rfl fun a hF=>E.nil0<|E.blk<|E.norm ?_
              exact⟨(m-(skp (bv (((m:Int):Rat))))-bL (Rat.floor qt)).toNat,by omega,⟨(m-(skp (bv (((m:Int):Rat))))),(by omega),(by omega),hnow,Fr.pick (L':=[(3,iv (m-(skp (bv (((m:Int):Rat))))))]) hF [0] rfl,st.pick [] [] rfl rfl (by decide),rfl⟩⟩)))
     ·first
      |(exfalso;omega)
      |(refine oT hF 0 (bT (c:=false) (aJ hc7)) rfl rfl fun a hF=>?_
        refine E.nil<|wp_cond_false hF.o<|wp_exit<|E.past<|E.past<|E.out (id:=0)<|E.norm<|wq ?_
        refine oC hF rfl fun a hF=>nr ?_
        have bel:=st.bel
        refine rt Tryz.results92 hF 0 rfl ?_
        exfalso;omega))
theorem I0 {n m:Int} (h:aN n=true) (h1:n<m) (h2:m<=aw n) (hc:¬aN m=true):m<aw n:=by
 have s:=bC h
 by_cases e:m=aw n
 ·rw[e] at hc;exact absurd s.2.2.1 hc
 ·omega
theorem DT (n:Int) (w:World) (hT:bE w) (hn0: -8000000000000000000<=n) (hn1:n<=8000000000000000000) (hc:aN n=true):
 CV 159 #[iv n] w (iv (aw n)):=by
 refine gs1 (nt:=24) Tryz.func159 rfl rfl rfl fun a st hF=>wq ?_
 refine oC hF rfl fun a hF=>ns<|wp_block ?_
 refine E.loop (fun mq a wv=>∃(m:Int),n<=m/\m<aw n/\Fr 24 a [(0,iv m)]/\St w wv [] []/\mq=(aw n-m).toNat) ((aw n-n).toNat) ?_ ?_
 ·exact⟨n,(Int.le_refl _),(by have:=bC hc;omega),Fr.pick (L':=[(0,iv n)]) hF [1] rfl,st.pick [] [] rfl rfl (by decide),rfl⟩
 ·rintro mq a w1 ⟨m,hm0,hm1,hF,st,hm⟩
  have hls:=bC hc
  have hsk:=F7 hm1 hls.2.2.1 (fun x h1 h2=>hls.2.2.2 x (by omega) h2)
  refine wp_seq<|wq<|oM hF 0 rfl rfl fun a hF=>?_
  by_cases hc2:m<9223372036854775807
  ·first
   |(exfalso;omega)
   |(refine oT hF 0 (aY (c:=true) (aI hc2)) rfl rfl fun a hF=>?_
     refine E.nil<|wp_cond_true hF.o<|wp_skip<|E.norm<|wp_block<|wq ?_
     refine oM hF 2 rfl rfl fun a hF=>oV hF (aq hF.o ao aa (aX (by omega) (by omega))) rfl fun a hF=>oE hF 0 rfl rfl fun a hF=>nq<|S.ck st hF (rgc k40 (aG ao)) dM Rl.cl rfl fun vv4 w3 a st hF=>?_
     obtain⟨r6,rfl⟩:=Rq.fo (st.f 0 rfl).1
     refine oM hF 1 rfl rfl fun a hF=>S.ck st hF (rgc k40 (aG hF.o)) dM Rl.cl rfl fun vv8 w7 a st hF=>?_
     obtain⟨r10,rfl⟩:=Rq.fo (st.f 0 rfl).1
     refine S.ck st hF (rgc CJ (aG hF.o)) (tZ (hT.below st.bel) (st.f 0 rfl)) Rl.cl rfl fun vv12 w11 a st hF=>?_
     obtain⟨r14,rfl⟩:=Rq.fo (st.f 0 rfl).1
     refine S.ck st hF (rgc k35 (aL (hF.at 3 rfl) hF.o)) (gR (st.f 2 rfl) (st.f 0 rfl)) Rl.cl rfl fun vv16 w15 a st hF=>?_
     obtain⟨r18,rfl⟩:=Rq.fo (st.f 0 rfl).1
     refine cX st hF (rgc NS (aG hF.o)) (uz _ _ 225 _ (st.f 0 rfl).1 (st.f 0 rfl).2 (by omega) (ss (m+1)).1 (ss (m+1)).2) rfl fun w19 a st hF=>?_
     have hskp:=zj (ss (m+1)).1 (ss (m+1)).2
     refine oA hF 0 rfl rfl fun a hF=>ns<|wq<|oM hF 7 rfl rfl fun a hF=>oM hF 1 rfl rfl fun a hF=>oV hF (aq ao hF.o aa (bB (by omega) (by omega))) rfl fun a hF=>?_
     by_cases hc20:9223372036854775807-(skp ((((360:Int):Rat))-(bv (((m+1:Int):Rat)))))<m+1
     ·first
      |(exfalso;omega)
      |(refine oU hF 2 0 (bT (c:=true) (aI hc20)) rfl rfl rfl fun a hF=>?_
        refine E.nil<|wp_cond_true hF.o<|wp_exit<|E.past<|E.pastb (by decide)<|E.past<|E.out (id:=0)<|E.norm<|wq ?_
        refine oC hF rfl fun a hF=>nr ?_
        have bel:=st.bel
        refine rt Tryz.results159 hF 0 rfl ?_
        exfalso;omega)
     ·first
      |(exfalso;omega)
      |(refine oU hF 2 0 (bT (c:=false) (aJ hc20)) rfl rfl rfl fun a hF=>?_
        refine E.nil<|wp_cond_false hF.o<|wp_skip<|E.norm<|wq ?_
        refine oM hF 11 rfl rfl fun a hF=>oM hF 5 rfl rfl fun a hF=>oV hF (aq hF.p hF.o aa (aX (by omega) (by omega))) rfl fun a hF=>oE hF 0 rfl rfl fun a hF=>nq<|oM hF 0 rfl rfl fun a hF=>cX st hF (rgc P7 (aG hF.o)) (sY ((m+1)+(skp ((((360:Int):Rat))-(bv (((m+1:Int):Rat)))))) _ (hT.below st.bel) (by omega) (by omega)) rfl fun w21 a st hF=>E.nil ?_
        by_cases hc22:aN ((m+1)+(skp ((((360:Int):Rat))-(bv (((m+1:Int):Rat))))))=true
        ·first
         |(exfalso;omega)
         |(refine wp_cond_true (Eq.trans hF.o (congrArg Value.bool hc22)) ?_
           refine wq ?_
           refine oM hF 2 rfl rfl fun a hF=>oA hF 0 rfl rfl fun a hF=>nr ?_
           have bel:=st.bel
           refine rt Tryz.results159 hF 0 rfl ?_
           exact⟨ch (Iw hc (by omega) (by omega) hc22),bel⟩)
        ·first
         |(exfalso;omega)
         |(refine wp_cond_false (Eq.trans hF.o (congrArg Value.bool (eq_false_of_ne_true hc22))) ?_
           refine wp_skip<|E.blk<|E.norm ?_
           exact⟨(aw n-((m+1)+(skp ((((360:Int):Rat))-(bv (((m+1:Int):Rat))))))).toNat,by omega,⟨((m+1)+(skp ((((360:Int):Rat))-(bv (((m+1:Int):Rat)))))),(by omega),(I0 hc (by omega) (by omega) hc22),Fr.pick (L':=[(0,iv ((m+1)+(skp ((((360:Int):Rat))-(bv (((m+1:Int):Rat)))))))]) hF [2] rfl,st.pick [] [] rfl rfl (by decide),rfl⟩⟩)))
  ·first
   |(exfalso;omega)
   |(refine oT hF 0 (aY (c:=false) (aJ hc2)) rfl rfl fun a hF=>?_
     refine E.nil<|wp_cond_false hF.o<|wp_exit<|E.past<|E.past<|E.out (id:=0)<|E.norm<|wq ?_
     refine oC hF rfl fun a hF=>nr ?_
     have bel:=st.bel
     refine rt Tryz.results159 hF 0 rfl ?_
     exfalso;omega)
end Go.Proofs.YtgdpkknapcgcbaaGreatDoor
