import Derived.Test.YtdbiegfmgabicaaGreatDoorKA29
import Derived.Test.YtdbiegfmgabicaaGreatDoorKA33
namespace Go.Proofs.YtdbiegfmgabicaaGreatDoor
open Go.RowKit
set_option maxRecDepth 100000
set_option linter.unusedVariables false
set_option maxHeartbeats 8000000
theorem Gg:(Tryz.f149.name == "runtime.NumGoroutine")=false∧Tryz.f149.body.isNone=false:=⟨by decide+kernel,by kernel_rfl⟩
def wax (t:Rat):Bool:=!full t
def cmT (n:Int) (t:Rat):Bool:=full ((n:Int):Rat) && wax t
theorem IM (n:Int):cmT n (((n+1:Int)):Rat)=bw n:=rfl
theorem xV {a b:Rat}:qc a b<0↔a<b:=by
 rw[xe]
 split
 ·rename_i h;exact⟨fun _=>h,fun _=>by decide⟩
 ·rename_i h;exact⟨fun e=>absurd e (by split <;> decide),fun e=>absurd e h⟩
theorem CP (t:Rat):decide (qc (bi t) ((180:Int):Rat)<0)=wax t:=by
 unfold wax full
 by_cases h:bi t<((180:Int):Rat)
 ·rw[decide_eq_true (xV.2 h),decide_eq_false (by grind)];rfl
 ·rw[decide_eq_false (fun e=>h (xV.1 e)),decide_eq_true (by grind)];rfl
theorem xf {x:Rat} (h0:0≤x) (h1:x≤((360:Int):Rat)):0≤skp x∧skp x≤26:=by
 rw[show((360:Int):Rat)=360 from rfl] at h1
 exact⟨vo h0,by have:=uG (x:=x) (m:=27) (by rw[show((27:Int):Rat)=27 from rfl];grind) (by decide);omega⟩
theorem ol {n:Int} (h0: -9223372036854775808≤n) (h1:n≤9223372036854775807):ah (((n+1:Int)):Rat) 2:=
 aW (show(n+1).natAbs <B32^2 from by rw[show B32^2=18446744073709551616 from rfl];omega) (by decide)
theorem tN (n:Int) (w:World) (hn0: -9223372036854775808≤n) (hn1:n≤9223372036854775807):
 Calls Tryz.prog 150 #[.int .i64 n] w (bl w (((n+1:Int)):Rat)):=by
 have st:=St.start w
 refine go1 (nt:=7) Tryz.func150 rfl rfl rfl fun a hF=>?_
 refine wq ?_
 refine S.alloc st hF aa rfl rfl fun g2 w1 a st hF=>?_
 refine nq ?_
 refine oM hF 1 rfl rfl fun a hF=>?_
 refine S.ck st hF (rgc k30 (aD hF.o)) (aB (a7 (n) _ (by omega) (by omega)) (aW (ao (by omega) (by omega)) (by omega))) Rl.cl rfl fun vv3 w2 a st hF=>?_
 obtain⟨r5,rfl⟩:=Rq.fo (st.f 0 rfl).1
 refine S.ck st hF (rgc k30 (aD ar)) (aB (a7 (1) _ (by decide) (by decide)) (aW (ao (by decide) (by decide)) (by omega))) Rl.cl rfl fun vv7 w6 a st hF=>?_
 obtain⟨r9,rfl⟩:=Rq.fo (st.f 0 rfl).1
 refine S.ck st hF (rgc k50 (aI hF.p hF.o)) (lT (st.f 1 rfl) (st.f 0 rfl)) Rl.cl rfl fun vv11 w10 a st hF=>?_
 obtain⟨r13,rfl⟩:=Rq.fo (st.f 0 rfl).1
 refine so st hF 0 4 0 aa rfl rfl rfl rfl fun w14 a st hF=>?_
 refine nr ?_
 refine rs Tryz.results150 st hF 4 0 aa rfl rfl rfl ?_
 have bel:=st.bel
 exact⟨_,rfl,Rq.castM (st.f 0 rfl).1 (by rw[Rat.intCast_add]),bel⟩
theorem o0 (v1:Value) (qt:Rat) (k:Nat) (w:World) (hT:bG w) (h1:Rq w v1 qt) (hl:ah qt k) (hk:k≤100):
 Calls Tryz.prog 149 #[v1] w (aG w (.bool (wax qt))):=by
 have st:=St.start w
 refine go1 (nt:=8) Tryz.func149 rfl rfl rfl fun a hF=>?_
 refine wq ?_
 obtain⟨r2,rfl⟩:=Rq.fo h1
 refine bx st hF 0 rfl rfl fun g1 w1 a st hF=>?_
 refine oC hF rfl fun a hF=>nq ?_
 refine oL hF st 1 0 aa rfl rfl rfl rfl fun a hF=>?_
 refine S.ck st hF (rgc k73 (aD hF.o)) (qY (hT.below st.bel) ⟨(h1.below st.bel),hl⟩) Rl.cl rfl fun vv4 w3 a st hF=>?_
 obtain⟨r6,rfl⟩:=Rq.fo (st.f 0 rfl).1
 refine S.ck st hF (rgc k30 (aD ar)) (aB (a7 (180) _ (by decide) (by decide)) (aW (ao (by decide) (by decide)) (by omega))) Rl.cl rfl fun vv8 w7 a st hF=>?_
 obtain⟨r10,rfl⟩:=Rq.fo (st.f 0 rfl).1
 refine cX st hF (rgc k29 (aI hF.p hF.o)) (kQ _ _ _ _ (max (6*k+210) 2) _ (st.f 1 rfl).1 (st.f 0 rfl).1 ((st.f 1 rfl).2.up _ (by omega)) ((st.f 0 rfl).2.up _ (by omega)) (by omega)) rfl fun w11 a st hF=>?_
 refine oT hF 0 (bM (c:=decide (qc (bi (qt)) (((180:Int):Rat))<0)) rfl) rfl rfl fun a hF=>oE hF 0 rfl rfl fun a hF=>nr ?_
 have bel:=st.bel
 refine rt Tryz.results149 hF 0 rfl ?_
 exact⟨by rw[CP],bel⟩
theorem Ig (w:World) (hT:bG w):mL w 149 #[] 100 wax:=
 ⟨⟨_,Tryz.func149,Gg.1,Gg.2⟩,fun v q w' hb hv hl=>o0 v q 100 w' (hT.below hb) hv hl (by decide)⟩
theorem M0 {n:Int} {t:Rat} (h:wax ((n:Int):Rat)=true):cmT n t=false:=by
 unfold cmT
 unfold wax at h
 rw[show full ((n:Int):Rat)=false by simpa using h];rfl
theorem MQ {n:Int} {t:Rat} (h:¬wax ((n:Int):Rat)=true):cmT n t=wax t:=by
 unfold cmT
 rw[show full ((n:Int):Rat)=true by unfold wax at h;simpa using h];rfl
theorem ov (n:Int) (v1:Value) (qt:Rat) (k:Nat) (w:World) (hT:bG w) (h1:Rq w v1 qt) (hl:ah qt k) (hk:k≤100) (hn0: -9000000000000000000≤n) (hn1:n≤9000000000000000000):
 Calls Tryz.prog 87 #[.int .i64 n,v1] w (aG w (.bool (cmT n qt))):=by
 have st:=St.start w
 refine go2 (nt:=13) Tryz.func87 rfl rfl rfl fun a hF=>?_
 refine wq ?_
 obtain⟨r2,rfl⟩:=Rq.fo h1
 refine bx st hF 1 rfl rfl fun g3 w1 a st hF=>?_
 refine oC hF rfl fun a hF=>nq ?_
 refine oM hF 2 rfl rfl fun a hF=>?_
 refine S.ck st hF (rgc k30 (aD hF.o)) (aB (a7 (n) _ (by omega) (by omega)) (aW (ao (by omega) (by omega)) (by omega))) Rl.cl rfl fun vv4 w3 a st hF=>?_
 obtain⟨r6,rfl⟩:=Rq.fo (st.f 0 rfl).1
 refine cX st hF (rgc KS (aD hF.o)) (o0 _ _ 2 _ (hT.below st.bel) (st.f 0 rfl).1 (st.f 0 rfl).2 (by omega)) rfl fun w7 a st hF=>?_
 by_cases hc8:wax (((n:Int):Rat))=true
 ·refine oV hF (cF (Eq.trans hF.o (congrArg Value.bool hc8)) (bT _ false rfl)) rfl fun a hF=>oM hF 0 rfl rfl fun a hF=>nu hF 0 rfl rfl rfl fun a hF=>nu hF 1 rfl rfl rfl fun a hF=>oV hF (bp hF.q ar) rfl fun a hF=>oE hF 0 rfl rfl fun a hF=>nr ?_
  have bel:=st.bel
  refine rt Tryz.results87 hF 0 rfl ?_
  exact⟨by rw[M0 hc8],bel⟩
 ·refine oV hF (cF (Eq.trans hF.o (congrArg Value.bool (eq_false_of_ne_true hc8))) (bT _ true rfl)) rfl fun a hF=>oM hF 0 rfl rfl fun a hF=>og hF (au (hF.at 6 rfl) (bF aa (st.bk 0 rfl) rfl)) 0 rfl rfl rfl fun a hF=>?_
  refine S.callxg st hF (aA rfl rfl hF.p rfl) (rgc KS (aD hF.o)) (o0 _ (qt) k _ (hT.below st.bel) (h1.below st.bel) hl (by omega)) rfl rfl rfl fun w9 a st hF=>?_
  refine oV hF (aH hF.q hF.o) rfl fun a hF=>oE hF 0 rfl rfl fun a hF=>nr ?_
  have bel:=st.bel
  refine rt Tryz.results87 hF 0 rfl ?_
  exact⟨by rw[MQ hc8],bel⟩
theorem p8 (n:Int) (w:World) (hT:bG w) (hn0: -9000000000000000000≤n) (hn1:n≤9000000000000000000):
 Calls Tryz.prog 89 #[.int .i64 n] w (aG w (.bool (bw n))):=by
 have st:=St.start w
 refine go1 (nt:=7) Tryz.func89 rfl rfl rfl fun a hF=>?_
 refine wq ?_
 refine oC hF rfl fun a hF=>nq ?_
 refine oM hF 1 rfl rfl fun a hF=>oM hF 2 rfl rfl fun a hF=>?_
 refine S.ck st hF (rgc Kv (aD hF.o)) (aB (tN n _ (by omega) (by omega)) (ol (n:=n) (by omega) (by omega))) Rl.cl rfl fun vv2 w1 a st hF=>?_
 obtain⟨r4,rfl⟩:=Rq.fo (st.f 0 rfl).1
 refine cX st hF (rgc k87 (aI hF.q hF.o)) (ov n _ _ 2 _ (hT.below st.bel) (st.f 0 rfl).1 (st.f 0 rfl).2 (by omega) (by omega) (by omega)) rfl fun w5 a st hF=>?_
 refine oE hF 0 rfl rfl fun a hF=>nr ?_
 have bel:=st.bel
 refine rt Tryz.results89 hF 0 rfl ?_
 exact⟨by rw[←IM],bel⟩
theorem Fm (n h:Int) (N:Nat) (kf:FuncId) (cap:Array Value) (p:Rat→Bool) (w:World) (hN:min (max h 0) 64=((N:Nat):Int)) (hN2:N≤64) (hn0: -9000000000000000000≤n) (hn1:n≤9000000000000000000) (hask:mL w kf cap 14 p):
 Calls Tryz.prog 200 #[.int .i64 n,.int .i64 h,.func (.func kf) #[] cap] w ((fun e w'=>∃v u,e= .returned (.tuple #[v,u])∧Rq w' v (hlo p ((n:Int):Rat) (((n+1:Int)):Rat) N)∧Rq w' u (hhi p ((n:Int):Rat) (((n+1:Int)):Rat) N)∧Below w.heap.size w w')):=by
 have st:=St.start w
 refine go3 (nt:=17) Tryz.func200 rfl rfl rfl fun a hF=>?_
 refine wq ?_
 refine S.alloc st hF aa rfl rfl fun g6 w1 a st hF=>?_
 refine S.alloc st hF aa rfl rfl fun g7 w2 a st hF=>?_
 refine nq ?_
 refine oM hF 2 rfl rfl fun a hF=>?_
 refine S.ck st hF (rgc k30 (aD hF.o)) (aB (a7 (n) _ (by omega) (by omega)) (aW (ao (by omega) (by omega)) (by omega))) Rl.cl rfl fun vv4 w3 a st hF=>?_
 obtain⟨r6,rfl⟩:=Rq.fo (st.f 0 rfl).1
 refine oM hF 4 rfl rfl fun a hF=>?_
 refine S.ck st hF (rgc Kv (aD hF.o)) (aB (tN n _ (by omega) (by omega)) (ol (n:=n) (by omega) (by omega))) Rl.cl rfl fun vv8 w7 a st hF=>?_
 obtain⟨r10,rfl⟩:=Rq.fo (st.f 0 rfl).1
 refine oM hF 7 rfl rfl fun a hF=>oM hF 9 rfl rfl fun a hF=>?_
 refine S.call2 st hF (rgc N5 (GN (hF.at 4 rfl) hF.q hF.p hF.o)) (IG _ _ _ _ 2 2 h N _ _ p _ (st.f 1 rfl).1 (st.f 0 rfl).1 (st.f 1 rfl).2 (st.f 0 rfl).2 (by omega) (by omega) hN (by omega) ((hask.below st.bel).to (by omega))) (fun _ _ h=>h) Rq.cl Rq.cl rfl rfl rfl rfl fun vv12 vv13 w11 a st hF=>?_
 obtain⟨r16,rfl⟩:=Rq.fo (st.f 0 rfl)
 obtain⟨r17,rfl⟩:=Rq.fo (st.f 1 rfl)
 refine oV hF (aR (v:= r16.v) hF.o rfl) rfl fun a hF=>oV hF (aR (v:= r17.v) hF.p rfl) rfl fun a hF=>?_
 refine so st hF 1 10 1 aa rfl rfl rfl rfl fun w18 a st hF=>?_
 refine so st hF 0 9 0 aa rfl rfl rfl rfl fun w19 a st hF=>?_
 refine nr ?_
 have bel:=st.bel
 refine bodyPost_ret (fF Tryz.results200 (hF.at 10 rfl) (bF aa (st.bk 1 rfl) rfl) (hF.at 9 rfl) (bF aa (st.bk 0 rfl) rfl)) hF.dfr ?_
 exact⟨_,_,rfl,(st.f 0 rfl),(st.f 1 rfl),bel⟩
theorem Ca (n:Int) (w:World) (hT:bG w) (hn0: -9000000000000000000≤n) (hn1:n≤9000000000000000000):
 Calls Tryz.prog 148 #[.int .i64 n] w ((fun e w'=>∃v u,e= .returned (.tuple #[v,u])∧Rq w' v (hlo wax ((n:Int):Rat) (((n+1:Int)):Rat) 10)∧Rq w' u (hhi wax ((n:Int):Rat) (((n+1:Int)):Rat) 10)∧Below w.heap.size w w')):=by
 have st:=St.start w
 refine go1 (nt:=8) Tryz.func148 rfl rfl rfl fun a hF=>?_
 refine wq ?_
 refine S.alloc st hF aa rfl rfl fun g2 w1 a st hF=>?_
 refine S.alloc st hF aa rfl rfl fun g3 w2 a st hF=>?_
 refine nq ?_
 refine oM hF 2 rfl rfl fun a hF=>?_
 refine S.call2 st hF (rgc Ov (sV hF.o ar rfl)) (Fm n 10 10 _ _ wax _ (by decide) (by omega) (by omega) (by omega) ((Ig _ (hT.below st.bel)).to (by omega))) (fun _ _ h=>h) Rq.cl Rq.cl rfl rfl rfl rfl fun vv4 vv5 w3 a st hF=>?_
 obtain⟨r8,rfl⟩:=Rq.fo (st.f 0 rfl)
 obtain⟨r9,rfl⟩:=Rq.fo (st.f 1 rfl)
 refine oV hF (aR (v:= r8.v) hF.o rfl) rfl fun a hF=>oV hF (aR (v:= r9.v) hF.p rfl) rfl fun a hF=>?_
 refine so st hF 1 5 1 aa rfl rfl rfl rfl fun w10 a st hF=>?_
 refine so st hF 0 4 0 aa rfl rfl rfl rfl fun w11 a st hF=>?_
 refine nr ?_
 have bel:=st.bel
 refine bodyPost_ret (fF Tryz.results148 (hF.at 5 rfl) (bF aa (st.bk 1 rfl) rfl) (hF.at 4 rfl) (bF aa (st.bk 0 rfl) rfl)) hF.dfr ?_
 exact⟨_,_,rfl,(st.f 0 rfl),(st.f 1 rfl),bel⟩
theorem zH (v1:Value) (qt:Rat) (k:Nat) (w:World) (h1:Rq w v1 (qt*(((1:Int):Rat)/((14:Int):Rat)))) (hl:ah (qt*(((1:Int):Rat)/((14:Int):Rat))) k) (hk:k≤10000) (h0:0≤qt) (h3:qt≤((360:Int):Rat)):Calls Tryz.prog 86 #[v1] w (aG w (.tuple #[.int .i64 (skp qt),.bool true])):=by
 have h:=iT v1 _ k w h1 hl hk
 have b:=xf h0 h3
 rwa[show Rat.floor (qt*(((1:Int):Rat)/((14:Int):Rat)))=skp qt from rfl,lj (by omega) (by omega),kv (by omega) (by omega)] at h
theorem rl (v1:Value) (qt:Rat) (k:Nat) (w:World) (h1:Rq w v1 qt) (hl:ah qt k) (hk:k≤3000) (h0:0≤qt) (h3:qt≤((360:Int):Rat)):
 Calls Tryz.prog 88 #[v1] w (aG w (.int .i64 (skp qt))):=by
 have st:=St.start w
 refine go1 (nt:=13) Tryz.func88 rfl rfl rfl fun a hF=>?_
 refine wq ?_
 obtain⟨r2,rfl⟩:=Rq.fo h1
 refine bx st hF 0 rfl rfl fun g1 w1 a st hF=>?_
 refine oC hF rfl fun a hF=>ns ?_
 refine E.rg 9 aF hF [6,7,8,9,5,10,11,3,4] [_,_,_,_,.ex (.tuple #[.int .i64 (skp qt),.bool true]),.ex (.int .i64 (skp qt)),.ex (.bool true),.ex (.int .i64 (skp qt)),.ex (.bool true)] (by decide+kernel) rfl rfl rfl ⟨rb st aa 1 0 rfl,ck st k48 rfl fun _ s=>aB (bz (1) (14) _ (by decide) (by decide) (by decide) (by decide)) (ah.up (aK (ao (by decide) (by decide)) (ao (by decide) (by decide))) 2 (by decide)),ck st k82 rfl fun _ s _ x7=>de ⟨(h1.below s.bel),hl⟩ x7,ck st k86 rfl fun _ s _ x8=>a9 (zH _ qt (k+2) _ x8.1 x8.2 (by omega) h0 h3),(by intro a' w' hF' hb hd;have e9:=tE hd 0 rfl;exact dv0 (aN e9) rfl rfl rfl),(by intro a' w' hF' hb hd;have e5:=tE hd 0 rfl;exact dv0 (aR (v:= .int .i64 (skp qt)) e5 rfl) rfl rfl rfl),(by intro a' w' hF' hb hd;have e5:=tE hd 0 rfl;exact dv0 (aR (v:= .bool true) e5 rfl) rfl rfl rfl),(by intro a' w' hF' hb hd;have e10:=tE hd 0 rfl;exact dv0 (a8 e10) rfl rfl rfl),(by intro a' w' hF' hb hd;have e11:=tE hd 0 rfl;exact dv0 (a8 e11) rfl rfl rfl),trivial⟩ ?_
 intro a w3 hF bb hall
 replace st:=st.to bb
 replace hF:=rE hall hF 7 rfl rfl
 clear hall bb
 refine nq ?_
 refine oM hF 0 rfl rfl fun a hF=>oE hF 0 rfl rfl fun a hF=>nr ?_
 have bel:=st.bel
 refine rt Tryz.results88 hF 0 rfl ?_
 exact⟨rfl,bel⟩
theorem CW (v1:Value) (qt:Rat) (k:Nat) (w:World) (h1:Rq w v1 qt) (hl:ah qt k) (hk:k≤10000) (h0: -9223372036854775808≤qt.floor) (h3:qt.floor≤9223372036854775807):Calls Tryz.prog 86 #[v1] w (aG w (.tuple #[.int .i64 (Rat.floor qt),.bool true])):=by
 have h:=iT v1 _ k w h1 hl hk
 rwa[lj h0 h3,kv h0 h3] at h
theorem oY (n:Int):0≤bi ((n:Int):Rat)∧bi ((n:Int):Rat)≤((360:Int):Rat):=⟨ki _,Rat.le_of_lt (jE _)⟩
theorem po (n:Int):0≤((360:Int):Rat)-bi ((n:Int):Rat)∧((360:Int):Rat)-bi ((n:Int):Rat)≤((360:Int):Rat):=by
 have:=oY n
 constructor <;> grind
theorem z8 (v1:Value) (qt:Rat) (k:Nat) (w:World) (hT:bG w) (h1:Rq w v1 qt) (hl:ah qt k) (hk:k≤100) (hf0: -8000000000000000000≤Rat.floor qt) (hf1:Rat.floor qt≤8000000000000000000):
 Calls Tryz.prog 45 #[v1] w (aG w (.int .i64 (bJ qt))):=by
 have st:=St.start w
 refine go1 (nt:=37) Tryz.func45 rfl rfl rfl fun a hF=>?_
 refine wq ?_
 obtain⟨r2,rfl⟩:=Rq.fo h1
 refine bx st hF 0 rfl rfl fun g1 w1 a st hF=>?_
 refine oC hF rfl fun a hF=>nq ?_
 refine oL hF st 1 0 aa rfl rfl rfl rfl fun a hF=>?_
 refine cX st hF (rgc k86 (aD hF.o)) (CW _ qt k _ (h1.below st.bel) hl (by omega) (by omega) (by omega)) rfl fun w3 a st hF=>?_
 refine oM hF 0 rfl rfl fun a hF=>oV hF (aR (v:= .int .i64 (Rat.floor qt)) hF.o rfl) rfl fun a hF=>oV hF (aR (v:= .bool true) hF.p rfl) rfl fun a hF=>oA hF 1 rfl rfl fun a hF=>oA hF 1 rfl rfl fun a hF=>ns ?_
 refine wq ?_
 refine oM hF 0 rfl rfl fun a hF=>oV hF (cF hF.o (bT _ false rfl)) rfl fun a hF=>?_
 refine E.nil ?_
 refine wp_cond_false hF.o ?_
 refine wp_skip ?_
 refine E.norm ?_
 refine wp_seq ?_
 refine wq ?_
 refine oM hF 3 rfl rfl fun a hF=>oL hF st 11 0 aa rfl rfl rfl rfl fun a hF=>?_
 refine cX st hF (rgc k87 (aI hF.p hF.o)) (ov (Rat.floor qt) _ (qt) k _ (hT.below st.bel) (h1.below st.bel) hl (by omega) (by omega) (by omega)) rfl fun w4 a st hF=>?_
 refine E.nil ?_
 by_cases hc5:cmT (Rat.floor qt) (qt)=true
 ·refine wp_cond_true (Eq.trans hF.o (congrArg Value.bool hc5)) ?_
  refine wq ?_
  refine oM hF 6 rfl rfl fun a hF=>oE hF 0 rfl rfl fun a hF=>nr ?_
  have bel:=st.bel
  refine rt Tryz.results45 hF 0 rfl ?_
  exact⟨by rw[lE (t:=qt) hc5],bel⟩
 ·refine wp_cond_false (Eq.trans hF.o (congrArg Value.bool (eq_false_of_ne_true hc5))) ?_
  refine wp_skip ?_
  refine E.norm ?_
  refine wp_seq ?_
  refine wp_block ?_
  refine E.loop (fun mq a wv=>∃(m:Int),dV (Rat.floor qt)<m∧m≤Rat.floor qt∧¬cmT (Rat.floor qt) (qt)=true∧Fr 37 a [(3,.int .i64 m)]∧St w wv [] []∧mq=(m-dV (Rat.floor qt)).toNat) (((Rat.floor qt)-dV (Rat.floor qt)).toNat) ?_ ?_
  ·exact⟨(Rat.floor qt),(fC (Rat.floor qt)).2.1,(Int.le_refl _),hc5,Fr.pick (L':=[(3,.int .i64 (Rat.floor qt))]) hF [6] rfl,st.pick [] [] rfl rfl (by decide),rfl⟩
  ·rintro mq a w6 ⟨m,hm0,hm1,hnow,hF,st,hm⟩
   have hls:=fC (Rat.floor qt)
   have hsk:=A1 hm0 hls.2.2.1 (fun x h1 h2=>hls.2.2.2 x h1 (by omega))
   refine wp_seq ?_
   refine wq ?_
   refine oM hF 0 rfl rfl fun a hF=>?_
   by_cases hc7:(-9223372036854775808)<m
   ·refine oT hF 0 (db (c:=true) (aL hc7)) rfl rfl fun a hF=>?_
    refine E.nil ?_
    refine wp_cond_true hF.o ?_
    refine wp_skip ?_
    refine E.norm ?_
    refine wp_block ?_
    refine wq ?_
    refine oM hF 2 rfl rfl fun a hF=>?_
    refine S.ck st hF (rgc k30 (aD hF.o)) (aB (a7 (m) _ (by omega) (by omega)) (aW (ao (by omega) (by omega)) (by omega))) Rl.cl rfl fun vv9 w8 a st hF=>?_
    obtain⟨r11,rfl⟩:=Rq.fo (st.f 0 rfl).1
    refine S.ck st hF (rgc k73 (aD hF.o)) (qY (hT.below st.bel) (st.f 0 rfl)) Rl.cl rfl fun vv13 w12 a st hF=>?_
    obtain⟨r15,rfl⟩:=Rq.fo (st.f 0 rfl).1
    refine cX st hF (rgc k88 (aD hF.o)) (rl _ _ 222 _ (st.f 0 rfl).1 (st.f 0 rfl).2 (by omega) (oY m).1 (oY m).2) rfl fun w16 a st hF=>?_
    have hskp:=xf (oY m).1 (oY m).2
    refine oA hF 0 rfl rfl fun a hF=>ns ?_
    refine wq ?_
    refine oM hF 0 rfl rfl fun a hF=>?_
    by_cases hc17:skp (bi (((m:Int):Rat)))=0
    ·refine oT hF 0 (a6 (c:=true) (aL hc17)) rfl rfl fun a hF=>?_
     refine E.nil ?_
     refine wp_cond_true hF.o ?_
     refine wq ?_
     refine oM hF 9 rfl rfl fun a hF=>oV hF (aq hF.o ar ab (bN (by omega) (by omega))) rfl fun a hF=>oE hF 0 rfl rfl fun a hF=>ns ?_
     refine wq ?_
     refine oM hF 0 rfl rfl fun a hF=>?_
     refine cX st hF (rgc k89 (aD hF.o)) (p8 (m-1) _ (hT.below st.bel) (by omega) (by omega)) rfl fun w18 a st hF=>?_
     refine E.nil ?_
     by_cases hc19:bw (m-1)=true
     ·refine wp_cond_true (Eq.trans hF.o (congrArg Value.bool hc19)) ?_
      refine wq ?_
      refine oM hF 2 rfl rfl fun a hF=>oA hF 0 rfl rfl fun a hF=>nr ?_
      have bel:=st.bel
      refine rt Tryz.results45 hF 0 rfl ?_
      exact⟨by rw[lr (t:=qt) hnow,qB (f:=Rat.floor qt) (by omega) (by omega) hc19],bel⟩
     ·refine wp_cond_false (Eq.trans hF.o (congrArg Value.bool (eq_false_of_ne_true hc19))) ?_
      refine wp_skip ?_
      refine E.norm ?_
      refine wp_exit ?_
      refine E.past ?_
      refine E.out (id:=1) ?_
      refine E.norm ?_
      exact⟨(m-1-dV (Rat.floor qt)).toNat,by omega,⟨(m-1),(qG (by omega) hc19),(by omega),hnow,Fr.pick (L':=[(3,.int .i64 (m-1))]) hF [2] rfl,st.pick [] [] rfl rfl (by decide),rfl⟩⟩
    ·refine oT hF 0 (a6 (c:=false) (aV hc17)) rfl rfl fun a hF=>?_
     refine E.nil ?_
     refine wp_cond_false hF.o ?_
     refine wp_skip ?_
     refine E.norm ?_
     refine wp_seq ?_
     refine wq ?_
     refine oM hF 9 rfl rfl fun a hF=>oM hF 3 rfl rfl fun a hF=>oV hF (aq ar hF.o ab (bj (by omega) (by omega))) rfl fun a hF=>?_
     by_cases hc20:m<(-9223372036854775808)+(skp (bi (((m:Int):Rat))))
     ·(exfalso;omega)
     ·refine oU hF 2 0 (bM (c:=false) (aV hc20)) rfl rfl rfl fun a hF=>?_
      refine E.nil ?_
      refine wp_cond_false hF.o ?_
      refine wp_skip ?_
      refine E.norm ?_
      refine E.seq ?_
      refine oM hF 13 rfl rfl fun a hF=>oM hF 7 rfl rfl fun a hF=>oV hF (aq hF.p hF.o ab (bN (by omega) (by omega))) rfl fun a hF=>oE hF 0 rfl rfl fun a hF=>?_
      refine E.nil0 ?_
      refine E.blk ?_
      refine E.norm ?_
      exact⟨(m-(skp (bi (((m:Int):Rat))))-dV (Rat.floor qt)).toNat,by omega,⟨(m-(skp (bi (((m:Int):Rat))))),(by omega),(by omega),hnow,Fr.pick (L':=[(3,.int .i64 (m-(skp (bi (((m:Int):Rat))))))]) hF [0] rfl,st.pick [] [] rfl rfl (by decide),rfl⟩⟩
   ·(exfalso;omega)
theorem uO {n m:Int} (h:bw n=true) (h1:n<m) (h2:m≤aQ n) (hc:¬bw m=true):m<aQ n:=by
 have s:=cT h
 by_cases e:m=aQ n
 ·rw[e] at hc;exact absurd s.2.2.1 hc
 ·omega
theorem zP (n:Int) (w:World) (hT:bG w) (hn0: -8000000000000000000≤n) (hn1:n≤8000000000000000000) (hc:bw n=true):
 Calls Tryz.prog 84 #[.int .i64 n] w (aG w (.int .i64 (aQ n))):=by
 have st:=St.start w
 refine go1 (nt:=24) Tryz.func84 rfl rfl rfl fun a hF=>?_
 refine wq ?_
 refine oC hF rfl fun a hF=>ns ?_
 refine wp_block ?_
 refine E.loop (fun mq a wv=>∃(m:Int),n≤m∧m<aQ n∧Fr 24 a [(0,.int .i64 m)]∧St w wv [] []∧mq=(aQ n-m).toNat) ((aQ n-n).toNat) ?_ ?_
 ·exact⟨n,(Int.le_refl _),(by have:=cT hc;omega),Fr.pick (L':=[(0,.int .i64 n)]) hF [1] rfl,st.pick [] [] rfl rfl (by decide),rfl⟩
 ·rintro mq a w1 ⟨m,hm0,hm1,hF,st,hm⟩
  have hls:=cT hc
  have hsk:=Bb hm1 hls.2.2.1 (fun x h1 h2=>hls.2.2.2 x (by omega) h2)
  refine wp_seq ?_
  refine wq ?_
  refine oM hF 0 rfl rfl fun a hF=>?_
  by_cases hc2:m<9223372036854775807
  ·refine oT hF 0 (bM (c:=true) (aL hc2)) rfl rfl fun a hF=>?_
   refine E.nil ?_
   refine wp_cond_true hF.o ?_
   refine wp_skip ?_
   refine E.norm ?_
   refine wp_block ?_
   refine wq ?_
   refine oM hF 2 rfl rfl fun a hF=>oV hF (aq hF.o ar ab (bj (by omega) (by omega))) rfl fun a hF=>oE hF 0 rfl rfl fun a hF=>nq ?_
   refine S.ck st hF (rgc k30 (aD ar)) (aB (a7 (360) _ (by decide) (by decide)) (aW (ao (by decide) (by decide)) (by omega))) Rl.cl rfl fun vv4 w3 a st hF=>?_
   obtain⟨r6,rfl⟩:=Rq.fo (st.f 0 rfl).1
   refine oM hF 1 rfl rfl fun a hF=>?_
   refine S.ck st hF (rgc k30 (aD hF.o)) (aB (a7 (m+1) _ (by omega) (by omega)) (aW (ao (by omega) (by omega)) (by omega))) Rl.cl rfl fun vv8 w7 a st hF=>?_
   obtain⟨r10,rfl⟩:=Rq.fo (st.f 0 rfl).1
   refine S.ck st hF (rgc k73 (aD hF.o)) (qY (hT.below st.bel) (st.f 0 rfl)) Rl.cl rfl fun vv12 w11 a st hF=>?_
   obtain⟨r14,rfl⟩:=Rq.fo (st.f 0 rfl).1
   refine S.ck st hF (rgc k27 (aI (hF.at 3 rfl) hF.o)) (eQ (st.f 2 rfl) (st.f 0 rfl)) Rl.cl rfl fun vv16 w15 a st hF=>?_
   obtain⟨r18,rfl⟩:=Rq.fo (st.f 0 rfl).1
   refine cX st hF (rgc k88 (aD hF.o)) (rl _ _ 225 _ (st.f 0 rfl).1 (st.f 0 rfl).2 (by omega) (po (m+1)).1 (po (m+1)).2) rfl fun w19 a st hF=>?_
   have hskp:=xf (po (m+1)).1 (po (m+1)).2
   refine oA hF 0 rfl rfl fun a hF=>ns ?_
   refine wq ?_
   refine oM hF 7 rfl rfl fun a hF=>oM hF 1 rfl rfl fun a hF=>oV hF (aq ar hF.o ab (bN (by omega) (by omega))) rfl fun a hF=>?_
   by_cases hc20:9223372036854775807-(skp ((((360:Int):Rat))-(bi (((m+1:Int):Rat)))))<m+1
   ·(exfalso;omega)
   ·refine oU hF 2 0 (db (c:=false) (aV hc20)) rfl rfl rfl fun a hF=>?_
    refine E.nil ?_
    refine wp_cond_false hF.o ?_
    refine wp_skip ?_
    refine E.norm ?_
    refine wq ?_
    refine oM hF 11 rfl rfl fun a hF=>oM hF 5 rfl rfl fun a hF=>oV hF (aq hF.p hF.o ab (bj (by omega) (by omega))) rfl fun a hF=>oE hF 0 rfl rfl fun a hF=>nq ?_
    refine oM hF 0 rfl rfl fun a hF=>?_
    refine cX st hF (rgc k89 (aD hF.o)) (p8 ((m+1)+(skp ((((360:Int):Rat))-(bi (((m+1:Int):Rat)))))) _ (hT.below st.bel) (by omega) (by omega)) rfl fun w21 a st hF=>?_
    refine E.nil ?_
    by_cases hc22:bw ((m+1)+(skp ((((360:Int):Rat))-(bi (((m+1:Int):Rat))))))=true
    ·refine wp_cond_true (Eq.trans hF.o (congrArg Value.bool hc22)) ?_
     refine wq ?_
     refine oM hF 2 rfl rfl fun a hF=>oA hF 0 rfl rfl fun a hF=>nr ?_
     have bel:=st.bel
     refine rt Tryz.results84 hF 0 rfl ?_
     exact⟨bS (wj hc (by omega) (by omega) hc22),bel⟩
    ·refine wp_cond_false (Eq.trans hF.o (congrArg Value.bool (eq_false_of_ne_true hc22))) ?_
     refine wp_skip ?_
     refine E.blk ?_
     refine E.norm ?_
     exact⟨(aQ n-((m+1)+(skp ((((360:Int):Rat))-(bi (((m+1:Int):Rat))))))).toNat,by omega,⟨((m+1)+(skp ((((360:Int):Rat))-(bi (((m+1:Int):Rat)))))),(by omega),(uO hc (by omega) (by omega) hc22),Fr.pick (L':=[(0,.int .i64 ((m+1)+(skp ((((360:Int):Rat))-(bi (((m+1:Int):Rat)))))))]) hF [2] rfl,st.pick [] [] rfl rfl (by decide),rfl⟩⟩
  ·(exfalso;omega)
end Go.Proofs.YtdbiegfmgabicaaGreatDoor
