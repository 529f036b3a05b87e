import Derived.Test.YtgdpkknapcgcbaaGreatDoorKB20
import Derived.Test.YtgdpkknapcgcbaaGreatDoorKB27
namespace Go.Proofs.YtgdpkknapcgcbaaGreatDoor
open Go.RowKit
set_option maxRecDepth 100000
set_option linter.unusedVariables false
set_option maxHeartbeats 8000000
theorem DT:(Tryz.prog.info? 26).map (·.size)=some 4:=by kernel_rfl
theorem sr:(Tryz.prog.info? 26).bind (·.zero)=some (.agg #[iv 0,iv 0,iv 0,iv 0]):=by kernel_rfl
theorem dJ {w:World} {g o p:Nat} (hp:o+0=p):(Instr.fieldAt 26 (.pointer (some ⟨g,o,none⟩)) 0).run Tryz.prog w= .ok (.pointer (some ⟨g,p,none⟩)) w:=a8 Tryz.underlying26 rfl rfl b7 rfl p hp
theorem qy {w:World} {g o p:Nat} (hp:o+1=p):(Instr.fieldAt 26 (.pointer (some ⟨g,o,none⟩)) 1).run Tryz.prog w= .ok (.pointer (some ⟨g,p,none⟩)) w:=a8 Tryz.underlying26 rfl rfl b7 rfl p hp
theorem dM {w:World} {g o p:Nat} (hp:o+2=p):(Instr.fieldAt 26 (.pointer (some ⟨g,o,none⟩)) 2).run Tryz.prog w= .ok (.pointer (some ⟨g,p,none⟩)) w:=a8 Tryz.underlying26 rfl rfl b7 rfl p hp
theorem qZ {w:World} {g o p:Nat} (hp:o+3=p):(Instr.fieldAt 26 (.pointer (some ⟨g,o,none⟩)) 3).run Tryz.prog w= .ok (.pointer (some ⟨g,p,none⟩)) w:=a8 Tryz.underlying26 rfl rfl b7 rfl p hp
theorem CA (w:World):(Instr.build 26 #[]).run Tryz.prog w= .ok (.agg #[iv 0,iv 0,iv 0,iv 0]) w:=by
 have hz:=bW sr w
 have h_i64:∀w,(sizeOf 2).run Tryz.prog w= .ok 1 w:=fun w=>aL b7 w
 simp only [Instr.build,Sem.run_bind,hz,Result.andThen_ok,run_underlying Tryz.underlying26,List.mapM_toArray,List.mapM_cons,List.mapM_nil,Sem.run_map,h_i64,Sem.run_pure]
 rfl
theorem mo (z00:Int) (z10:Int) (z20:Int) (z30:Int) (w:World):(Instr.build 26 #[(0,iv z00),(1,iv z10),(2,iv z20),(3,iv z30)]).run Tryz.prog w= .ok (.agg #[iv z00,iv z10,iv z20,iv z30]) w:=by
 have hz:=bW sr w
 have h_i64:∀w,(sizeOf 2).run Tryz.prog w= .ok 1 w:=fun w=>aL b7 w
 simp only [Instr.build,Sem.run_bind,hz,Result.andThen_ok,run_underlying Tryz.underlying26,List.mapM_toArray,List.mapM_cons,List.mapM_nil,Sem.run_map,h_i64,Sem.run_pure]
 rfl
theorem bj:Ty Tryz.prog 26 4 [iv 0,iv 0,iv 0,iv 0]:=⟨⟨_,Tryz.underlying26,rfl⟩,DT,sr⟩
section
section
variable {P:Program} {ops:Array Oper} {Q:Exit->Act->World->Prop} {W w:World} {bs:List (Nat×List Value)} {fs:List (World->Prop)} {nt d:Nat} {L:List (Nat×Value)} {rest:List Oper} {a:Act} {T:TypeId} {x y:Operand} {v:Value} {cs vs zs:List Value} {g n:Nat} {ty:TypeId} {pos:String} {af:Array Edge}
theorem S.stooI {o:Nat} {ws:List Value} (st:St W w bs fs) (hF:Fr nt a L) (i:Nat) (hb:bs[i]?=some (g,cs)) (he:a.eval x= .pointer (some ⟨g,o,none⟩)) (hv:a.eval y=v) (hcv:v.cells=vs.toArray) (hT:(P.info? T).map (·.size)=some n) (hl:vs.length=n) (ho:Nat.ble (o+n) cs.length=true) (hc':vs.all eU=true) (hw:cs.take o++vs++cs.drop (o+n)=ws)
 (k:∀w' a',St W w' (bs.set i (g,ws)) []->Fr nt a' L->wpS P ops Q rest a' w'):wpS P ops Q (⟨none,.store T x y,ty,pos,af,none⟩::rest) a w:=by
 obtain⟨w1,hr,tu,on⟩:=fl (P:=P) (o:=o) (ws:=ws) (st.bk i hb) hT hl ho (eU.oc hc') hw
 exact E.st hF (cM he hv (hr _ hcv)) rfl rfl fun a' hF'=>k w1 a' (st.setI i hb tu on) hF'
end
end
def gB (y:Int):Int:=1+y%3600
def gA (m m2 x y:Int):Int:=x%(m2*gB y+1)-m*gB y
theorem j7 (y:Int):1<=gB y/\gB y<=3600:=by unfold gB;omega
theorem Ap {m m2 x y:Int} (h:m2=2*m) (h0:0<=m): -(m*gB y)<=gA m m2 x y/\gA m m2 x y<=m*gB y:=by
 have b:=j7 y
 have p:=Int.mul_nonneg h0 (show 0<=gB y by omega)
 have e:m2*gB y=2*(m*gB y):=by rw[h,Int.mul_assoc]
 unfold gA
 rw[e]
 have h1:=Int.emod_nonneg x (show 2*(m*gB y)+1≠0 by omega)
 have h2:=Int.emod_lt_of_pos x (show 0<2*(m*gB y)+1 by omega)
 omega
theorem oP (x y:Int): -60*gB y<=gA 60 120 x y/\gA 60 120 x y<=60*gB y:=by
 have:=Ap (m:=60) (m2:=120) (x:=x) (y:=y) (by omega) (by omega);omega
theorem oi (x y:Int): -180*gB y<=gA 180 360 x y/\gA 180 360 x y<=180*gB y:=by
 have:=Ap (m:=180) (m2:=360) (x:=x) (y:=y) (by omega) (by omega);omega
theorem Cz {k n:Int} (h:0<n):(if 0<=(if 0<=k then k%n else -(-k%n))+n then((if 0<=k then k%n else -(-k%n))+n)%n else -(-((if 0<=k then k%n else -(-k%n))+n)%n))=k%n:=by
 have a:=jM (k:=k) h
 rw[if_pos (by omega),Int.add_emod_right]
 split
 ·exact Int.emod_emod_of_dvd k (Int.dvd_refl n)
 ·have e:=Int.emod_add_mul_ediv (-k) n
  have e2: -(-k%n)=k+n*(-k/n):=by omega
  rw[e2,Int.add_mul_emod_self_left]
theorem sx {k n:Int} (h:0<n) (h2:n<=1000000000): -9223372036854775808<=(if 0<=k then k%n else -(-k%n))+n/\(if 0<=k then k%n else -(-k%n))+n<=9223372036854775807:=by
 have a:=jM (k:=k) h;omega
def wiB (m n d:Int):Bool:=decide (1<=d/\d<=3600/\ -m*d<=n/\n<=m*d)
def plE (a b c d:Int):Int:=if wiB 60 a b=true/\wiB 180 c d=true then 0 else 2
theorem An {x c b:Rat} (hc:0<c) (h:x<=b*c):x/c<=b:=Rat.not_lt.1 fun q=>by rw[Rat.lt_div_iff hc] at q;grind
theorem AC {x c b:Rat} (hc:0<c) (h:b*c<=x):b<=x/c:=Rat.not_lt.1 fun q=>by rw[Rat.div_lt_iff hc] at q;grind
theorem Df {a b:Int} (h:1<=b) (h0: -60*b<=a) (h1:a<=60*b): -60<=((a:Int):Rat)/((b:Int):Rat)/\((a:Int):Rat)/((b:Int):Rat)<=60:=by
 have p:(0:Rat)<((b:Int):Rat):=Rat.intCast_pos.2 (by omega)
 have a0:((-60*b:Int):Rat)<=((a:Int):Rat):=Rat.intCast_le_intCast.2 h0
 have a1:((a:Int):Rat)<=((60*b:Int):Rat):=Rat.intCast_le_intCast.2 h1
 rw[Rat.intCast_mul] at a0 a1
 rw[show((-60:Int):Rat)= -60 from rfl] at a0
 rw[show((60:Int):Rat)=60 from rfl] at a1
 exact⟨AC p (by grind),An p (by grind)⟩
theorem DZ {a b:Int} (h:1<=b) (h0: -180*b<=a) (h1:a<=180*b): -180<=((a:Int):Rat)/((b:Int):Rat)/\((a:Int):Rat)/((b:Int):Rat)<=180:=by
 have p:(0:Rat)<((b:Int):Rat):=Rat.intCast_pos.2 (by omega)
 have a0:((-180*b:Int):Rat)<=((a:Int):Rat):=Rat.intCast_le_intCast.2 h0
 have a1:((a:Int):Rat)<=((180*b:Int):Rat):=Rat.intCast_le_intCast.2 h1
 rw[Rat.intCast_mul] at a0 a1
 rw[show((-180:Int):Rat)= -180 from rfl] at a0
 rw[show((180:Int):Rat)=180 from rfl] at a1
 exact⟨AC p (by grind),An p (by grind)⟩
structure co (a b c d:Int):Prop where
 b0:1<=b
 b1:b<=3600
 a0: -60*b<=a
 a1:a<=60*b
 d0:1<=d
 d1:d<=3600
 c0: -180*d<=c
 c1:c<=180*d
theorem lY (x y u v:Int):co (gA 60 120 x y) (gB y) (gA 180 360 u v) (gB v):=⟨(j7 y).1,(j7 y).2,(oP x y).1,(oP x y).2,(j7 v).1,(j7 v).2,(oi u v).1,(oi u v).2⟩
theorem co.la {a b c d:Int} (h:co a b c d): -60<=((a:Int):Rat)/((b:Int):Rat)/\((a:Int):Rat)/((b:Int):Rat)<=60:=Df h.b0 h.a0 h.a1
theorem co.lo {a b c d:Int} (h:co a b c d): -180<=((c:Int):Rat)/((d:Int):Rat)/\((c:Int):Rat)/((d:Int):Rat)<=180:=DZ h.d0 h.c0 h.c1
theorem FP {a:Act} {x0 x1 x2 x3:Operand} {u0 u1 u2 u3:Value} (h0:a.eval x0=u0) (h1:a.eval x1=u1) (h2:a.eval x2=u2) (h3:a.eval x3=u3):#[x0,x1,x2,x3].map a.eval=#[u0,u1,u2,u3]:=by simp[h0,h1,h2,h3]
theorem jz {n d:Int} (h0: -9223372036854775808<=n) (h1:n<=9223372036854775807) (g0: -9223372036854775808<=d) (g1:d<=9223372036854775807):ag (((n:Int):Rat)/((d:Int):Rat)) 2:=(eX (bF h0 h1) (bF g0 g1)).up 2 (by decide)
theorem A6 (w:World):
 CV 90 #[] w (.agg #[iv 463,iv 20,iv 45461,iv 600]):=by
 refine gs0 (nt:=2) Tryz.func90 rfl rfl fun a st hF=>wq<|S.alloc st hF bj rfl rfl fun g0 w1 a st hF=>nq<|oV hF (a7 (j9 ah ah ah ah) (mo _ _ _ _ _)) rfl fun a hF=>S.stoI st hF 0 rfl hF.p hF.o bj rfl rfl rfl fun w2 a st hF=>nr<|rs Tryz.results90 st hF 1 0 bj rfl rfl rfl ?_
 exact⟨rfl,st.bel⟩
theorem qf (xa xb xc xd:Int) (w:World) (hxa0: -9223372036854775808<=xa) (hxa1:xa<=9223372036854775807) (hxb0: -9223372036854775808<=xb) (hxb1:xb<=9223372036854775807):
 CQ 268 #[.agg #[iv xa,iv xb,iv xc,iv xd]] w (((xa:Int):Rat)/((xb:Int):Rat)):=by
 refine gs1 (nt:=8) Tryz.func268 rfl rfl rfl fun a st hF=>wq<|bx st hF 0 rfl rfl fun g1 w1 a st hF=>S.alloc st hF aa rfl rfl fun g2 w2 a st hF=>nq<|oV hF (ao hF.p (dJ (p:=0) rfl)) rfl fun a hF=>oV hF (aq hF.o (bL (v:= iv xa) (st.bk 1 rfl) rfl)) rfl fun a hF=>oV hF (ao (hF.at 3 rfl) (qy (p:=1) rfl)) rfl fun a hF=>oV hF (aq hF.o (bL (v:= iv xb) (st.bk 1 rfl) rfl)) rfl fun a hF=>?_
 refine ca st hF (rk C9 (aA hF.q hF.o)) (iP (xa) (xb) _ hxa0 hxa1 hxb0 hxb1) (fun _ _ h=>h) Rq.cl rfl fun vv4 w3 a st hF=>?_
 obtain⟨r6,rfl⟩:=Rq.fo (st.f 0 rfl)
 refine so st hF 0 5 0 aa rfl rfl rfl rfl fun w7 a st hF=>nr<|rs Tryz.results268 st hF 5 0 aa rfl rfl rfl ?_
 exact⟨_,rfl,(st.f 0 rfl),st.bel⟩
theorem jy (xa xb xc xd:Int) (w:World) (hxc0: -9223372036854775808<=xc) (hxc1:xc<=9223372036854775807) (hxd0: -9223372036854775808<=xd) (hxd1:xd<=9223372036854775807):
 CQ 228 #[.agg #[iv xa,iv xb,iv xc,iv xd]] w (((xc:Int):Rat)/((xd:Int):Rat)):=by
 refine gs1 (nt:=8) Tryz.func228 rfl rfl rfl fun a st hF=>wq<|bx st hF 0 rfl rfl fun g1 w1 a st hF=>S.alloc st hF aa rfl rfl fun g2 w2 a st hF=>nq<|oV hF (ao hF.p (dM (p:=2) rfl)) rfl fun a hF=>oV hF (aq hF.o (bL (v:= iv xc) (st.bk 1 rfl) rfl)) rfl fun a hF=>oV hF (ao (hF.at 3 rfl) (qZ (p:=3) rfl)) rfl fun a hF=>oV hF (aq hF.o (bL (v:= iv xd) (st.bk 1 rfl) rfl)) rfl fun a hF=>?_
 refine ca st hF (rk C9 (aA hF.q hF.o)) (iP (xc) (xd) _ hxc0 hxc1 hxd0 hxd1) (fun _ _ h=>h) Rq.cl rfl fun vv4 w3 a st hF=>?_
 obtain⟨r6,rfl⟩:=Rq.fo (st.f 0 rfl)
 refine so st hF 0 5 0 aa rfl rfl rfl rfl fun w7 a st hF=>nr<|rs Tryz.results228 st hF 5 0 aa rfl rfl rfl ?_
 exact⟨_,rfl,(st.f 0 rfl),st.bel⟩
theorem kF (k n:Int) (w:World) (hn:0<n) (hn2:n<=1000000000):
 CV 117 #[iv k,iv n] w (iv (k%n)):=by
 refine gs2 (nt:=12) Tryz.func117 rfl rfl rfl fun a st hF=>wq ?_
 refine oC hF rfl fun a hF=>nq<|oM hF 1 rfl rfl fun a hF=>oM hF 3 rfl rfl fun a hF=>oV hF (ar hF.p hF.o ab (fN (a:=k) (b:=n) hn)) rfl fun a hF=>oM hF 5 rfl rfl fun a hF=>oV hF (ar hF.p hF.o ab (bl (sx hn hn2).1 (sx hn hn2).2)) rfl fun a hF=>oM hF 7 rfl rfl fun a hF=>oV hF (ar hF.p hF.o ab (fN (a:=(if 0<=k then k%n else -(-k%n))+n) (b:=n) hn)) rfl fun a hF=>?_
 refine oE hF 0 rfl rfl fun a hF=>nr ?_
 have bel:=st.bel
 refine rt Tryz.results117 hF 0 rfl ?_
 exact⟨bS (Cz hn),bel⟩
theorem zc (x y u v:Int) (w:World):
 CV 53 #[iv x,iv y,iv u,iv v] w (.agg #[iv (gA 60 120 x y),iv (gB y),iv (gA 180 360 u v),iv (gB v)]):=by
 have st:=St.start w
 refine E.enter (nt:=36) (L:=[(0,iv x),(1,iv y),(2,iv u),(3,iv v)]) Tryz.func53 rfl rfl rfl (bO (i:=0) rfl (bO (i:=1) rfl (bO (i:=2) rfl (bO (i:=3) rfl fU)))) ?_
 intro a hF
 refine wq<|S.alloc st hF bj rfl rfl fun g8 w1 a st hF=>nq<|oM hF 2 rfl rfl fun a hF=>cX st hF (rk qk (aA hF.o ah)) (kF y 3600 _ (by omega) (by omega)) rfl fun w2 a st hF=>?_
 have hib3142:=ix (k:=y) (n:=3600) (by omega)
 refine oV hF (ar ah hF.o ab (bl (by omega) (by omega))) rfl fun a hF=>oM hF 7 rfl rfl fun a hF=>cX st hF (rk qk (aA hF.o ah)) (kF v 3600 _ (by omega) (by omega)) rfl fun w3 a st hF=>?_
 have hib446:=ix (k:=v) (n:=3600) (by omega)
 refine oV hF (ar ah hF.o ab (bl (by omega) (by omega))) rfl fun a hF=>oA hF 3 rfl rfl fun a hF=>oA hF 1 rfl rfl fun a hF=>nq<|oM hF 9 rfl rfl fun a hF=>oM hF 2 rfl rfl fun a hF=>oV hF (ar ah hF.o ab (gF (by omega) (by omega))) rfl fun a hF=>oV hF (ar hF.o ah ab (bl (by omega) (by omega))) rfl fun a hF=>cX st hF (rk qk (aA (hF.at 3 rfl) hF.o)) (kF x ((120*(1+(y%3600)))+1) _ (by omega) (by omega)) rfl fun w4 a st hF=>?_
 have hib545:=ix (k:=x) (n:=(120*(1+(y%3600)))+1) (by omega)
 refine oM hF 6 rfl rfl fun a hF=>oV hF (ar ah hF.o ab (gF (by omega) (by omega))) rfl fun a hF=>oV hF (ar hF.q hF.o ab (de (by omega) (by omega))) rfl fun a hF=>oM hF 9 rfl rfl fun a hF=>oM hF 20 rfl rfl fun a hF=>oM hF 10 rfl rfl fun a hF=>oV hF (ar ah hF.o ab (gF (by omega) (by omega))) rfl fun a hF=>oV hF (ar hF.o ah ab (bl (by omega) (by omega))) rfl fun a hF=>cX st hF (rk qk (aA (hF.at 3 rfl) hF.o)) (kF u ((360*(1+(v%3600)))+1) _ (by omega) (by omega)) rfl fun w5 a st hF=>?_
 have hib8212:=ix (k:=u) (n:=(360*(1+(v%3600)))+1) (by omega)
 refine oM hF 14 rfl rfl fun a hF=>oV hF (ar ah hF.o ab (gF (by omega) (by omega))) rfl fun a hF=>oV hF (ar hF.q hF.o ab (de (by omega) (by omega))) rfl fun a hF=>oM hF 17 rfl rfl fun a hF=>oV hF (a7 (j9 (hF.at 10 rfl) (hF.at 9 rfl) hF.p hF.o) (mo _ _ _ _ _)) rfl fun a hF=>S.stoI st hF 0 rfl (hF.at 27 rfl) hF.o bj rfl rfl rfl fun w6 a st hF=>nr<|rs Tryz.results53 st hF 27 0 bj rfl rfl rfl ?_
 exact⟨rfl,st.bel⟩
theorem qK {t:Rat} {k:Nat} (h:ag t k):ag (eh t) (2*k+60):=by
 have y:ag (gE t) (k+6):=(bI (aH (bI h (km (n:= -1132959) (by decide))) (cA (n:=600) (d:=1577917828) (by decide) (by decide))) (cA (n:=1) (d:=4) (by decide) (by decide))).up _ (by omega)
 have x:=pQ y (cA (n:= -1) (d:=2) (by decide) (by decide)) (cA (n:=1) (d:=2) (by decide) (by decide))
 exact(bI (km (n:=27) (by decide)) (aH (km (n:=108) (by decide)) (iT x))).up _ (by omega)
theorem yV {t:Rat} {k:Nat} (h:ag t k):ag (cv t) (5*k+180):=(dv (bI (fW h) (qK h))).up _ (by omega)
def uT (a:Rat):Rat:=((14:Int):Rat)/((360:Int):Rat)-a.abs*(((1:Int):Rat)/((1080:Int):Rat))
def pe (x:Rat):Rat:=((360:Int):Rat)/pyr*(((1:Int):Rat)-((iE x:Int):Rat)/((225:Int):Rat)*uT (sof x))
def q6 (x:Rat):Rat:=pe x*(((1:Int):Rat)/((360:Int):Rat))*(sof x*(((573:Int):Rat)/((10:Int):Rat))*uT (sof x)*(((1:Int):Rat)/((360:Int):Rat)))*pyr
def qz (x:Rat):Rat:=((gy (prt x 12):Int):Rat)/((1800:Int):Rat)
def hQ (x:Rat):Rat:=obl*sof x
def jY (x lat:Rat):Rat:=aW (-(hQ x*sof lat/sof (lat+((90:Int):Rat))/cJ (hQ x)))
theorem vX {x:Rat} {k:Nat} (h:ag x k):ag (hQ x) (k+13):=(aH (cA (n:=1397) (d:=3438) (by decide) (by decide)) (dL h)).up _ (by omega)
theorem vW {x lat:Rat} {k j:Nat} (h:ag x k) (hl:ag lat j) (hj:j<=2):ag (jY x lat) (2*k+140):=by
 have n90:ag ((90:Int):Rat) 1:=km (by decide)
 have c:ag (cJ (hQ x)) (k+50):=(dL (aV (kj (vX h)) n90)).up _ (by omega)
 have e:=cL (aH (vX h) (dL hl)) (dL (aV hl n90))
 exact(kj (fg (cL e c))).up _ (by omega)
theorem kH {a:Rat} {k:Nat} (h:ag a k):ag (uT a) (k+3):=(bI (cA (n:=14) (d:=360) (by decide) (by decide)) (aH (iT h) (cA (n:=1) (d:=1080) (by decide) (by decide)))).up _ (by omega)
theorem mH {x:Rat} {k:Nat} (h:ag x k):ag (pe x) (k+40):=by
 have s:=gI (pk x)
 have st:ag (((iE x:Int):Rat)/((225:Int):Rat)) 1:=cA (by unfold iE;omega) (by decide)
 exact(aH pG (bI (km (n:=1) (by decide)) (aH st (kH (dL h))))).up _ (by omega)
theorem zp {x:Rat} {k:Nat} (h:ag x k):ag (q6 x) (3*k+100):=by
 have o:ag (((1:Int):Rat)/((360:Int):Rat)) 1:=cA (by decide) (by decide)
 exact(aH (aH (aH (mH h) o) (aH (aH (aH (dL h) (cA (n:=573) (d:=10) (by decide) (by decide))) (kH (dL h))) o)) sd).up _ (by omega)
theorem ye (x:Rat):ag (qz x) 1:=cA (by unfold gy;split <;> (try split) <;> decide) (by decide)
theorem D3 {x:Rat} (h0:0<=x) (h1:x<((360:Int):Rat)):ft (Rat.floor (x*(((1:Int):Rat)/((30:Int):Rat))))=prt x 12/\fJ (Rat.floor (x*(((1:Int):Rat)/((30:Int):Rat))))=true:=by
 have e:Rat.floor (x*(((1:Int):Rat)/((30:Int):Rat)))=prt x 12:=by
  unfold prt
  rw[show((1:Int):Rat)/((30:Int):Rat)=((12:Int):Rat)/((360:Int):Rat) by decide+kernel]
 have b:=dz (x:=x) (n:=12) (by omega) h0 h1
 rw[e]
 exact⟨rc (by omega) (by omega),tD (by omega) (by omega)⟩
theorem Cx {k:Int}:([1670,1795,1935,1935,1795,1670].map fun z=>Value.int .i64 z)[(k%6).toNat]?=some (iv (gy k)):=by
 have h:k%6=0\/k%6=1\/k%6=2\/k%6=3\/k%6=4\/k%6=5:=by omega
 unfold gy
 rcases h with h|h|h|h|h|h <;> rw[h] <;> rfl
theorem me (k:Int):1670<=gy k/\gy k<=1935:=by unfold gy;split <;> (try split) <;> omega
theorem co.ll {a b c d:Int} (h:co a b c d):ag (((a:Int):Rat)/((b:Int):Rat)) 1:=cA (by have:=h.b0;have:=h.b1;have:=h.a0;have:=h.a1;omega) (by have:=h.b0;have:=h.b1;omega)
theorem co.lm {a b c d:Int} (h:co a b c d):ag (((c:Int):Rat)/((d:Int):Rat)) 1:=cA (by have:=h.d0;have:=h.d1;have:=h.c0;have:=h.c1;omega) (by have:=h.d0;have:=h.d1;omega)
def cr (n a b c d:Int):Rat:=b8 ((n:Int):Rat) (((a:Int):Rat)/((b:Int):Rat)) (((c:Int):Rat)/((d:Int):Rat)) 1 1
def eQ (n a b c d:Int):Rat:=b8 ((n:Int):Rat) (((a:Int):Rat)/((b:Int):Rat)) (((c:Int):Rat)/((d:Int):Rat)) 3 (-1)
theorem tK {n a b c d:Int} (h:co a b c d) (h0: -4000000<=n) (h1:n<=4000000):ag (cr n a b c d) 90:=pH (by omega) h.ll h.lm h.la.1 h.la.2 (by decide) (by decide)
theorem uo {n a b c d:Int} (h:co a b c d) (h0: -4000000<=n) (h1:n<=4000000):ag (eQ n a b c d) 90:=pH (by omega) h.ll h.lm h.la.1 h.la.2 (by decide) (by decide)
theorem vP {m q dg sg:Rat} (m0:87/100<=m) (m1:m<=111/100) (d0: -53<=dg) (d1:dg<=53) (hq:q=1/4\/q=3/4) (hs:sg=1\/sg= -1): -1<=(m*q+sg*dg)*kap/\(m*q+sg*dg)*kap<=1:=by
 have k:=lv
 have y: -55<=m*q+sg*dg/\m*q+sg*dg<=55:=by
  rcases hq with rfl|rfl <;> rcases hs with rfl|rfl <;> constructor <;> grind
 have b:=dH (a:=55) (b:=1/100) (x:=m*q+sg*dg) (y:=kap) (by grind) (by grind) y.1 y.2 (by grind) (by grind)
 constructor <;> grind
theorem v6 {n a b c d:Int} (h:co a b c d):((n:Int):Rat)-3<=cr n a b c d/\cr n a b c d<=((n:Int):Rat)+3:=by
 have s:=fu ((n:Int):Rat)
 have f:=jB ((n:Int):Rat) h.la.1 h.la.2
 have e:=lw ((n:Int):Rat)
 have l:=h.lo
 have k:=vP (q:=((1:Int):Rat)/((4:Int):Rat)) (sg:=((1:Int):Rat)) s.1 s.2 f.1 f.2 (.inl (by decide+kernel)) (.inl rfl)
 unfold cr b8 jb
 rw[show((45461:Int):Rat)/((600:Int):Rat)=45461/600 by decide+kernel,show((1:Int):Rat)/((360:Int):Rat)=1/360 by decide+kernel]
 have q:((1:Int):Rat)/((4:Int):Rat)=1/4:=by decide+kernel
 rw[q] at k ⊢
 constructor <;> grind
theorem wT {n a b c d:Int} (h:co a b c d):((n:Int):Rat)-3<=eQ n a b c d/\eQ n a b c d<=((n:Int):Rat)+3:=by
 have s:=fu ((n:Int):Rat)
 have f:=jB ((n:Int):Rat) h.la.1 h.la.2
 have e:=lw ((n:Int):Rat)
 have l:=h.lo
 have k:=vP (q:=((3:Int):Rat)/((4:Int):Rat)) (sg:=((-1:Int):Rat)) s.1 s.2 f.1 f.2 (.inr (by decide+kernel)) (.inr rfl)
 unfold eQ b8 jb
 rw[show((45461:Int):Rat)/((600:Int):Rat)=45461/600 by decide+kernel,show((1:Int):Rat)/((360:Int):Rat)=1/360 by decide+kernel]
 have q:((3:Int):Rat)/((4:Int):Rat)=3/4:=by decide+kernel
 rw[q] at k ⊢
 constructor <;> grind
theorem od {x:Rat} {n:Int} (h0: -4000000<=n) (h1:n<=4000000) (a:((n:Int):Rat)-3<=x) (b:x<=((n:Int):Rat)+3):ag (aU x) 3:=by
 have c0:=bG h0
 have c1:=bG h1
 rw[show((-4000000:Int):Rat)= -4000000 from rfl] at c0
 rw[show((4000000:Int):Rat)=4000000 from rfl] at c1
 have e:((1048576:Int):Rat)=1048576:=rfl
 have f0: -5000000000000<=(x*((1048576:Int):Rat)).floor :=Rat.le_floor_iff.2 (by rw[e,show((-5000000000000:Int):Rat)= -5000000000000 from rfl];grind)
 have f1:(x*((1048576:Int):Rat)).floor <5000000000000:=Rat.floor_lt_iff.2 (by rw[e,show((5000000000000:Int):Rat)=5000000000000 from rfl];grind)
 exact(aH (eS (n:=(x*((1048576:Int):Rat)).floor) (by omega) (by omega)) (cA (n:=1) (d:=1048576) (by decide) (by decide))).up _ (by omega)
theorem kz {n a b c d:Int} (h:co a b c d) (h0: -4000000<=n) (h1:n<=4000000):ag (aU (cr n a b c d)) 3:=od h0 h1 (v6 h).1 (v6 h).2
theorem nb {n a b c d:Int} (h:co a b c d) (h0: -4000000<=n) (h1:n<=4000000):ag (aU (eQ n a b c d)) 3:=od h0 h1 (wT h).1 (wT h).2
theorem Ad (x lat:Rat):aW (-(sof x*(((1397:Int):Rat)/((3438:Int):Rat))*sof lat/sof (lat+((90:Int):Rat)))/sof (aW (sof x*(((1397:Int):Rat)/((3438:Int):Rat)))+((90:Int):Rat)))=jY x lat:=by
 unfold jY cJ hQ obl
 rw[Rat.mul_comm (sof x),Rat.div_def (-_),Rat.neg_mul,<-Rat.div_def]
theorem yf (t lat lon:Rat) (qd sg:Int) (z:Rat) (hz:z=((1577917828:Int):Rat)/((1582237828:Int):Rat)*(((1:Int):Rat)/((360:Int):Rat))*(((qd:Int):Rat)/((4:Int):Rat)*dC t*fh t+eT t lat*((sg:Int):Rat))):
 t+((qd:Int):Rat)/((4:Int):Rat)+(((45461:Int):Rat)/((600:Int):Rat)-lon)*(((1:Int):Rat)/((360:Int):Rat))+ -(fL t)+z=b8 t lat lon qd sg:=by
 subst hz
 unfold b8 jb kap
 grind
end Go.Proofs.YtgdpkknapcgcbaaGreatDoor
