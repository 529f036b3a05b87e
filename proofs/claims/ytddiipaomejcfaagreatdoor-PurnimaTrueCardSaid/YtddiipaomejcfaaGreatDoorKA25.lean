import Derived.Test.YtddiipaomejcfaaGreatDoorKA22
import Derived.Test.YtddiipaomejcfaaGreatDoorKA24
namespace Go.Proofs.YtddiipaomejcfaaGreatDoor
open Go.RowKit
set_option maxRecDepth 100000
set_option linter.unusedVariables false
set_option maxHeartbeats 8000000
theorem xX:(Tryz.prog.info? 26).map (·.size)=some 4:=by kernel_rfl
theorem rU:(Tryz.prog.info? 26).bind (·.zero)=some (.agg #[iv 0,iv 0,iv 0,iv 0]):=by kernel_rfl
theorem t9 {w:World} {g o:Nat} {cs vs:List Value} (h:Blk w g cs) (hv:(cs.drop o).take 4=vs) (hl:vs.length=4):(Instr.loadAt 26 (.pointer (some ⟨g,o,none⟩))).run Tryz.prog w= .ok (.agg vs.toArray) w:=kl h hv hl Tryz.underlying26 rfl xX
theorem kL {w:World} {g o p:Nat} (hp:o+0=p):(Instr.fieldAt 26 (.pointer (some ⟨g,o,none⟩)) 0).run Tryz.prog w= .ok (.pointer (some ⟨g,p,none⟩)) w:=bv Tryz.underlying26 rfl rfl cw rfl p hp
theorem qG {w:World} {g o p:Nat} (hp:o+1=p):(Instr.fieldAt 26 (.pointer (some ⟨g,o,none⟩)) 1).run Tryz.prog w= .ok (.pointer (some ⟨g,p,none⟩)) w:=bv Tryz.underlying26 rfl rfl cw rfl p hp
theorem kj {w:World} {g o p:Nat} (hp:o+2=p):(Instr.fieldAt 26 (.pointer (some ⟨g,o,none⟩)) 2).run Tryz.prog w= .ok (.pointer (some ⟨g,p,none⟩)) w:=bv Tryz.underlying26 rfl rfl cw rfl p hp
theorem qH {w:World} {g o p:Nat} (hp:o+3=p):(Instr.fieldAt 26 (.pointer (some ⟨g,o,none⟩)) 3).run Tryz.prog w= .ok (.pointer (some ⟨g,p,none⟩)) w:=bv Tryz.underlying26 rfl rfl cw rfl p hp
theorem Co (w:World):(Instr.build 26 #[]).run Tryz.prog w= .ok (.agg #[iv 0,iv 0,iv 0,iv 0]) w:=by
 have hz:=cL rU w
 have h_i64:∀w,(sizeOf 2).run Tryz.prog w= .ok 1 w:=fun w=>bh cw w
 simp only [Instr.build,Sem.run_bind,hz,Result.andThen_ok,run_underlying Tryz.underlying26,List.mapM_toArray,List.mapM_cons,List.mapM_nil,Sem.run_map,h_i64,Sem.run_pure]
 rfl
theorem mD (z00:Int) (z10:Int) (z20:Int) (z30:Int) (w:World):(Instr.build 26 #[(0,iv z00),(1,iv z10),(2,iv z20),(3,iv z30)]).run Tryz.prog w= .ok (.agg #[iv z00,iv z10,iv z20,iv z30]) w:=by
 have hz:=cL rU w
 have h_i64:∀w,(sizeOf 2).run Tryz.prog w= .ok 1 w:=fun w=>bh cw w
 simp only [Instr.build,Sem.run_bind,hz,Result.andThen_ok,run_underlying Tryz.underlying26,List.mapM_toArray,List.mapM_cons,List.mapM_nil,Sem.run_map,h_i64,Sem.run_pure]
 rfl
theorem aM:Ty Tryz.prog 26 4 [iv 0,iv 0,iv 0,iv 0]:=⟨⟨_,Tryz.underlying26,rfl⟩,xX,rU⟩
section
section
variable {P:Program} {ops:Array Oper} {Q:Exit->Act->World->Prop} {W w:World} {bs:List (Nat×List Value)} {fs:List (World->Prop)} {nt d:Nat} {L:List (Nat×Value)} {rest:List Oper} {a:Act} {T:TypeId} {x y:Operand} {v:Value} {cs vs zs:List Value} {g n:Nat} {ty:TypeId} {pos:String} {af:Array Edge}
theorem S.stooI {o:Nat} {ws:List Value} (st:St W w bs fs) (hF:Fr nt a L) (i:Nat) (hb:bs[i]?=some (g,cs)) (he:a.eval x= .pointer (some ⟨g,o,none⟩)) (hv:a.eval y=v) (hcv:v.cells=vs.toArray) (hT:(P.info? T).map (·.size)=some n) (hl:vs.length=n) (ho:Nat.ble (o+n) cs.length=true) (hc':vs.all jw=true) (hw:cs.take o++vs++cs.drop (o+n)=ws)
 (k:∀w' a',St W w' (bs.set i (g,ws)) []->Fr nt a' L->wpS P ops Q rest a' w'):wpS P ops Q (⟨none,.store T x y,ty,pos,af,none⟩::rest) a w:=by
 obtain⟨w1,hr,tu,on⟩:=gt (P:=P) (o:=o) (ws:=ws) (st.bk i hb) hT hl ho (jw.oc hc') hw
 exact E.st hF (cU he hv (hr _ hcv)) rfl rfl fun a' hF'=>k w1 a' (st.setI i hb tu on) hF'
end
end
def gB (y:Int):Int:=1+y%3600
def gA (m m2 x y:Int):Int:=x%(m2*gB y+1)-m*gB y
theorem ku (y:Int):1<=gB y/\gB y<=3600:=by unfold gB;omega
theorem A5 {m m2 x y:Int} (h:m2=2*m) (h0:0<=m): -(m*gB y)<=gA m m2 x y/\gA m m2 x y<=m*gB y:=by
 have b:=ku y
 have p:=Int.mul_nonneg h0 (show 0<=gB y by omega)
 have e:m2*gB y=2*(m*gB y):=by rw[h,Int.mul_assoc]
 unfold gA
 rw[e]
 have h1:=Int.emod_nonneg x (show 2*(m*gB y)+1≠0 by omega)
 have h2:=Int.emod_lt_of_pos x (show 0<2*(m*gB y)+1 by omega)
 omega
theorem pE (x y:Int): -60*gB y<=gA 60 120 x y/\gA 60 120 x y<=60*gB y:=by
 have:=A5 (m:=60) (m2:=120) (x:=x) (y:=y) (by omega) (by omega);omega
theorem oO (x y:Int): -180*gB y<=gA 180 360 x y/\gA 180 360 x y<=180*gB y:=by
 have:=A5 (m:=180) (m2:=360) (x:=x) (y:=y) (by omega) (by omega);omega
theorem Cm {k n:Int} (h:0<n):(if 0<=(if 0<=k then k%n else -(-k%n))+n then((if 0<=k then k%n else -(-k%n))+n)%n else -(-((if 0<=k then k%n else -(-k%n))+n)%n))=k%n:=by
 have a:=jb (k:=k) h
 rw[if_pos (by omega),Int.add_emod_right]
 split
 ·exact Int.emod_emod_of_dvd k (Int.dvd_refl n)
 ·have e:=Int.emod_add_mul_ediv (-k) n
  have e2: -(-k%n)=k+n*(-k/n):=by omega
  rw[e2,Int.add_mul_emod_self_left]
theorem rK {k n:Int} (h:0<n) (h2:n<=1000000000): -9223372036854775808<=(if 0<=k then k%n else -(-k%n))+n/\(if 0<=k then k%n else -(-k%n))+n<=9223372036854775807:=by
 have a:=jb (k:=k) h;omega
def wiB (m n d:Int):Bool:=decide (1<=d/\d<=3600/\ -m*d<=n/\n<=m*d)
def plE (a b c d:Int):Int:=if wiB 60 a b=true/\wiB 180 c d=true then 0 else 2
theorem Bx {x c b:Rat} (hc:0<c) (h:x<=b*c):x/c<=b:=Rat.not_lt.1 fun q=>by rw[Rat.lt_div_iff hc] at q;grind
theorem Bn {x c b:Rat} (hc:0<c) (h:b*c<=x):b<=x/c:=Rat.not_lt.1 fun q=>by rw[Rat.div_lt_iff hc] at q;grind
theorem ED {a b:Int} (h:1<=b) (h0: -60*b<=a) (h1:a<=60*b): -60<=((a:Int):Rat)/((b:Int):Rat)/\((a:Int):Rat)/((b:Int):Rat)<=60:=by
 have p:(0:Rat)<((b:Int):Rat):=Rat.intCast_pos.2 (by omega)
 have a0:((-60*b:Int):Rat)<=((a:Int):Rat):=Rat.intCast_le_intCast.2 h0
 have a1:((a:Int):Rat)<=((60*b:Int):Rat):=Rat.intCast_le_intCast.2 h1
 rw[Rat.intCast_mul] at a0 a1
 rw[show((-60:Int):Rat)= -60 from rfl] at a0
 rw[show((60:Int):Rat)=60 from rfl] at a1
 exact⟨Bn p (by grind),Bx p (by grind)⟩
theorem EA {a b:Int} (h:1<=b) (h0: -180*b<=a) (h1:a<=180*b): -180<=((a:Int):Rat)/((b:Int):Rat)/\((a:Int):Rat)/((b:Int):Rat)<=180:=by
 have p:(0:Rat)<((b:Int):Rat):=Rat.intCast_pos.2 (by omega)
 have a0:((-180*b:Int):Rat)<=((a:Int):Rat):=Rat.intCast_le_intCast.2 h0
 have a1:((a:Int):Rat)<=((180*b:Int):Rat):=Rat.intCast_le_intCast.2 h1
 rw[Rat.intCast_mul] at a0 a1
 rw[show((-180:Int):Rat)= -180 from rfl] at a0
 rw[show((180:Int):Rat)=180 from rfl] at a1
 exact⟨Bn p (by grind),Bx p (by grind)⟩
structure bz (a b c d:Int):Prop where
 b0:1<=b
 b1:b<=3600
 a0: -60*b<=a
 a1:a<=60*b
 d0:1<=d
 d1:d<=3600
 c0: -180*d<=c
 c1:c<=180*d
theorem gL (x y u v:Int):bz (gA 60 120 x y) (gB y) (gA 180 360 u v) (gB v):=⟨(ku y).1,(ku y).2,(pE x y).1,(pE x y).2,(ku v).1,(ku v).2,(oO u v).1,(oO u v).2⟩
theorem bz.la {a b c d:Int} (h:bz a b c d): -60<=((a:Int):Rat)/((b:Int):Rat)/\((a:Int):Rat)/((b:Int):Rat)<=60:=ED h.b0 h.a0 h.a1
theorem bz.lo {a b c d:Int} (h:bz a b c d): -180<=((c:Int):Rat)/((d:Int):Rat)/\((c:Int):Rat)/((d:Int):Rat)<=180:=EA h.d0 h.c0 h.c1
theorem zi {a:Act} {x0 x1 x2 x3:Operand} {u0 u1 u2 u3:Value} (h0:a.eval x0=u0) (h1:a.eval x1=u1) (h2:a.eval x2=u2) (h3:a.eval x3=u3):#[x0,x1,x2,x3].map a.eval=#[u0,u1,u2,u3]:=by simp[h0,h1,h2,h3]
theorem jR {n d:Int} (h0: -9223372036854775808<=n) (h1:n<=9223372036854775807) (g0: -9223372036854775808<=d) (g1:d<=9223372036854775807):au (((n:Int):Rat)/((d:Int):Rat)) 2:=(eJ (bF h0 h1) (bF g0 g1)).up 2 (by decide)
theorem pm (w:World):
 CV 41 #[] w (.agg #[iv 463,iv 20,iv 45461,iv 600]):=by
 refine gs0 (nt:=2) Tryz.func41 rfl rfl fun a st hF=>wq<|S.alloc st hF aM rfl rfl fun g0 w1 a st hF=>nq<|oV hF (bH (nW aq aq aq aq) (mD _ _ _ _ _)) rfl fun a hF=>S.stoI st hF 0 rfl hF.p hF.o aM rfl rfl rfl fun w2 a st hF=>nr<|rs Tryz.results41 st hF 1 0 aM rfl rfl rfl ?_
 exact⟨rfl,st.bel⟩
theorem qq (xa xb xc xd:Int) (w:World) (hxa0: -9223372036854775808<=xa) (hxa1:xa<=9223372036854775807) (hxb0: -9223372036854775808<=xb) (hxb1:xb<=9223372036854775807):
 CQ 217 #[.agg #[iv xa,iv xb,iv xc,iv xd]] w (((xa:Int):Rat)/((xb:Int):Rat)):=by
 refine gs1 (nt:=8) Tryz.func217 rfl rfl rfl fun a st hF=>wq<|bx st hF 0 rfl rfl fun g1 w1 a st hF=>S.alloc st hF aa rfl rfl fun g2 w2 a st hF=>nq<|oV hF (az hF.p (kL (p:=0) rfl)) rfl fun a hF=>oV hF (aw hF.o (bG (v:= iv xa) (st.bk 1 rfl) rfl)) rfl fun a hF=>oV hF (az (hF.at 3 rfl) (qG (p:=1) rfl)) rfl fun a hF=>oV hF (aw hF.o (bG (v:= iv xb) (st.bk 1 rfl) rfl)) rfl fun a hF=>?_
 refine ca st hF (rk D7 (aH hF.q hF.o)) (jd (xa) (xb) _ hxa0 hxa1 hxb0 hxb1) (fun _ _ h=>h) Rq.cl rfl fun vv4 w3 a st hF=>?_
 obtain⟨r6,rfl⟩:=Rq.fo (st.f 0 rfl)
 refine so st hF 0 5 0 aa rfl rfl rfl rfl fun w7 a st hF=>nr<|rs Tryz.results217 st hF 5 0 aa rfl rfl rfl ?_
 exact⟨_,rfl,(st.f 0 rfl),st.bel⟩
theorem jI (xa xb xc xd:Int) (w:World) (hxc0: -9223372036854775808<=xc) (hxc1:xc<=9223372036854775807) (hxd0: -9223372036854775808<=xd) (hxd1:xd<=9223372036854775807):
 CQ 167 #[.agg #[iv xa,iv xb,iv xc,iv xd]] w (((xc:Int):Rat)/((xd:Int):Rat)):=by
 refine gs1 (nt:=8) Tryz.func167 rfl rfl rfl fun a st hF=>wq<|bx st hF 0 rfl rfl fun g1 w1 a st hF=>S.alloc st hF aa rfl rfl fun g2 w2 a st hF=>nq<|oV hF (az hF.p (kj (p:=2) rfl)) rfl fun a hF=>oV hF (aw hF.o (bG (v:= iv xc) (st.bk 1 rfl) rfl)) rfl fun a hF=>oV hF (az (hF.at 3 rfl) (qH (p:=3) rfl)) rfl fun a hF=>oV hF (aw hF.o (bG (v:= iv xd) (st.bk 1 rfl) rfl)) rfl fun a hF=>?_
 refine ca st hF (rk D7 (aH hF.q hF.o)) (jd (xc) (xd) _ hxc0 hxc1 hxd0 hxd1) (fun _ _ h=>h) Rq.cl rfl fun vv4 w3 a st hF=>?_
 obtain⟨r6,rfl⟩:=Rq.fo (st.f 0 rfl)
 refine so st hF 0 5 0 aa rfl rfl rfl rfl fun w7 a st hF=>nr<|rs Tryz.results167 st hF 5 0 aa rfl rfl rfl ?_
 exact⟨_,rfl,(st.f 0 rfl),st.bel⟩
theorem kW (k n:Int) (w:World) (hn:0<n) (hn2:n<=1000000000):
 CV 79 #[iv k,iv n] w (iv (k%n)):=by
 refine gs2 (nt:=12) Tryz.func79 rfl rfl rfl fun a st hF=>wq ?_
 refine oC hF rfl fun a hF=>nq<|oM hF 1 rfl rfl fun a hF=>oM hF 3 rfl rfl fun a hF=>oV hF (ao hF.p hF.o ah (fU (a:=k) (b:=n) hn)) rfl fun a hF=>oM hF 5 rfl rfl fun a hF=>oV hF (ao hF.p hF.o ah (aU (rK hn hn2).1 (rK hn hn2).2)) rfl fun a hF=>oM hF 7 rfl rfl fun a hF=>oV hF (ao hF.p hF.o ah (fU (a:=(if 0<=k then k%n else -(-k%n))+n) (b:=n) hn)) rfl fun a hF=>?_
 refine oE hF 0 rfl rfl fun a hF=>nr ?_
 have bel:=st.bel
 refine rt Tryz.results79 hF 0 rfl ?_
 exact⟨bS (Cm hn),bel⟩
theorem zh (x y u v:Int) (w:World):
 CV 42 #[iv x,iv y,iv u,iv v] w (.agg #[iv (gA 60 120 x y),iv (gB y),iv (gA 180 360 u v),iv (gB v)]):=by
 have st:=St.start w
 refine E.enter (nt:=36) (L:=[(0,iv x),(1,iv y),(2,iv u),(3,iv v)]) Tryz.func42 rfl rfl rfl (a6 (i:=0) rfl (a6 (i:=1) rfl (a6 (i:=2) rfl (a6 (i:=3) rfl dB)))) ?_
 intro a hF
 refine wq<|S.alloc st hF aM rfl rfl fun g8 w1 a st hF=>nq<|oM hF 2 rfl rfl fun a hF=>cX st hF (rk vF (aH hF.o aq)) (kW y 3600 _ (by omega) (by omega)) rfl fun w2 a st hF=>?_
 have hib3142:=iM (k:=y) (n:=3600) (by omega)
 refine oV hF (ao aq hF.o ah (aU (by omega) (by omega))) rfl fun a hF=>oM hF 7 rfl rfl fun a hF=>cX st hF (rk vF (aH hF.o aq)) (kW v 3600 _ (by omega) (by omega)) rfl fun w3 a st hF=>?_
 have hib446:=iM (k:=v) (n:=3600) (by omega)
 refine oV hF (ao aq hF.o ah (aU (by omega) (by omega))) rfl fun a hF=>oA hF 3 rfl rfl fun a hF=>oA hF 1 rfl rfl fun a hF=>nq<|oM hF 9 rfl rfl fun a hF=>oM hF 2 rfl rfl fun a hF=>oV hF (ao aq hF.o ah (eQ (by omega) (by omega))) rfl fun a hF=>oV hF (ao hF.o aq ah (aU (by omega) (by omega))) rfl fun a hF=>cX st hF (rk vF (aH (hF.at 3 rfl) hF.o)) (kW x ((120*(1+(y%3600)))+1) _ (by omega) (by omega)) rfl fun w4 a st hF=>?_
 have hib545:=iM (k:=x) (n:=(120*(1+(y%3600)))+1) (by omega)
 refine oM hF 6 rfl rfl fun a hF=>oV hF (ao aq hF.o ah (eQ (by omega) (by omega))) rfl fun a hF=>oV hF (ao hF.q hF.o ah (bT (by omega) (by omega))) rfl fun a hF=>oM hF 9 rfl rfl fun a hF=>oM hF 20 rfl rfl fun a hF=>oM hF 10 rfl rfl fun a hF=>oV hF (ao aq hF.o ah (eQ (by omega) (by omega))) rfl fun a hF=>oV hF (ao hF.o aq ah (aU (by omega) (by omega))) rfl fun a hF=>cX st hF (rk vF (aH (hF.at 3 rfl) hF.o)) (kW u ((360*(1+(v%3600)))+1) _ (by omega) (by omega)) rfl fun w5 a st hF=>?_
 have hib8212:=iM (k:=u) (n:=(360*(1+(v%3600)))+1) (by omega)
 refine oM hF 14 rfl rfl fun a hF=>oV hF (ao aq hF.o ah (eQ (by omega) (by omega))) rfl fun a hF=>oV hF (ao hF.q hF.o ah (bT (by omega) (by omega))) rfl fun a hF=>oM hF 17 rfl rfl fun a hF=>oV hF (bH (nW (hF.at 10 rfl) (hF.at 9 rfl) hF.p hF.o) (mD _ _ _ _ _)) rfl fun a hF=>S.stoI st hF 0 rfl (hF.at 27 rfl) hF.o aM rfl rfl rfl fun w6 a st hF=>nr<|rs Tryz.results42 st hF 27 0 aM rfl rfl rfl ?_
 exact⟨rfl,st.bel⟩
theorem q8 {t:Rat} {k:Nat} (h:au t k):au (eG t) (2*k+60):=by
 have y:au (gx t) (k+6):=(bR (aW (bR h (kK (n:= -1132959) (by decide))) (cA (n:=600) (d:=1577917828) (by decide) (by decide))) (cA (n:=1) (d:=4) (by decide) (by decide))).up _ (by omega)
 have x:=pY y (cA (n:= -1) (d:=2) (by decide) (by decide)) (cA (n:=1) (d:=2) (by decide) (by decide))
 exact(bR (kK (n:=27) (by decide)) (aW (kK (n:=108) (by decide)) (jg x))).up _ (by omega)
theorem zL {t:Rat} {k:Nat} (h:au t k):au (cy t) (5*k+180):=(eR (bR (gK h) (q8 h))).up _ (by omega)
def vp (a:Rat):Rat:=((14:Int):Rat)/((360:Int):Rat)-a.abs*(((1:Int):Rat)/((1080:Int):Rat))
def pv (x:Rat):Rat:=((360:Int):Rat)/pyr*(((1:Int):Rat)-((jn x:Int):Rat)/((225:Int):Rat)*vp (sof x))
def s4 (x:Rat):Rat:=pv x*(((1:Int):Rat)/((360:Int):Rat))*(sof x*(((573:Int):Rat)/((10:Int):Rat))*vp (sof x)*(((1:Int):Rat)/((360:Int):Rat)))*pyr
def sY (x:Rat):Rat:=((gz (prt x 12):Int):Rat)/((1800:Int):Rat)
def hQ (x:Rat):Rat:=obl*sof x
def kJ (x lat:Rat):Rat:=bg (-(hQ x*sof lat/sof (lat+((90:Int):Rat))/cP (hQ x)))
theorem xK {x:Rat} {k:Nat} (h:au x k):au (hQ x) (k+13):=(aW (cA (n:=1397) (d:=3438) (by decide) (by decide)) (d9 h)).up _ (by omega)
theorem xE {x lat:Rat} {k j:Nat} (h:au x k) (hl:au lat j) (hj:j<=2):au (kJ x lat) (2*k+140):=by
 have n90:au ((90:Int):Rat) 1:=kK (by decide)
 have c:au (cP (hQ x)) (k+50):=(d9 (bl (kk (xK h)) n90)).up _ (by omega)
 have e:=cR (aW (xK h) (d9 hl)) (d9 (bl hl n90))
 exact(kk (fv (cR e c))).up _ (by omega)
theorem kB {a:Rat} {k:Nat} (h:au a k):au (vp a) (k+3):=(bR (cA (n:=14) (d:=360) (by decide) (by decide)) (aW (jg h) (cA (n:=1) (d:=1080) (by decide) (by decide)))).up _ (by omega)
theorem m7 {x:Rat} {k:Nat} (h:au x k):au (pv x) (k+40):=by
 have s:=gN (pk x)
 have st:au (((jn x:Int):Rat)/((225:Int):Rat)) 1:=cA (by unfold jn;omega) (by decide)
 exact(aW pI (bR (kK (n:=1) (by decide)) (aW st (kB (d9 h))))).up _ (by omega)
theorem zG {x:Rat} {k:Nat} (h:au x k):au (s4 x) (3*k+100):=by
 have o:au (((1:Int):Rat)/((360:Int):Rat)) 1:=cA (by decide) (by decide)
 exact(aW (aW (aW (m7 h) o) (aW (aW (aW (d9 h) (cA (n:=573) (d:=10) (by decide) (by decide))) (kB (d9 h))) o)) rJ).up _ (by omega)
theorem yT (x:Rat):au (sY x) 1:=cA (by unfold gz;split <;> (try split) <;> decide) (by decide)
theorem DU {x:Rat} (h0:0<=x) (h1:x<((360:Int):Rat)):fl (Rat.floor (x*(((1:Int):Rat)/((30:Int):Rat))))=prt x 12/\fD (Rat.floor (x*(((1:Int):Rat)/((30:Int):Rat))))=true:=by
 have e:Rat.floor (x*(((1:Int):Rat)/((30:Int):Rat)))=prt x 12:=by
  unfold prt
  rw[show((1:Int):Rat)/((30:Int):Rat)=((12:Int):Rat)/((360:Int):Rat) by decide+kernel]
 have b:=ke (x:=x) (n:=12) (by omega) h0 h1
 rw[e]
 exact⟨iV (by omega) (by omega),iT (by omega) (by omega)⟩
theorem CB {k:Int}:([1670,1795,1935,1935,1795,1670].map fun z=>Value.int .i64 z)[(k%6).toNat]?=some (iv (gz k)):=by
 have h:k%6=0\/k%6=1\/k%6=2\/k%6=3\/k%6=4\/k%6=5:=by omega
 unfold gz
 rcases h with h|h|h|h|h|h <;> rw[h] <;> rfl
theorem mn (k:Int):1670<=gz k/\gz k<=1935:=by unfold gz;split <;> (try split) <;> omega
theorem bz.ll {a b c d:Int} (h:bz a b c d):au (((a:Int):Rat)/((b:Int):Rat)) 1:=cA (by have:=h.b0;have:=h.b1;have:=h.a0;have:=h.a1;omega) (by have:=h.b0;have:=h.b1;omega)
theorem bz.lm {a b c d:Int} (h:bz a b c d):au (((c:Int):Rat)/((d:Int):Rat)) 1:=cA (by have:=h.d0;have:=h.d1;have:=h.c0;have:=h.c1;omega) (by have:=h.d0;have:=h.d1;omega)
def eI (n a b c d:Int):Rat:=cp ((n:Int):Rat) (((a:Int):Rat)/((b:Int):Rat)) (((c:Int):Rat)/((d:Int):Rat)) 1 1
theorem uS {n a b c d:Int} (h:bz a b c d) (h0: -4000000<=n) (h1:n<=4000000):au (eI n a b c d) 90:=xJ (by omega) h.ll h.lm h.la.1 h.la.2 (by decide) (by decide)
theorem Ej {m q dg sg:Rat} (m0:87/100<=m) (m1:m<=111/100) (d0: -53<=dg) (d1:dg<=53) (hq:q=1/4\/q=3/4) (hs:sg=1\/sg= -1): -1<=(m*q+sg*dg)*kap/\(m*q+sg*dg)*kap<=1:=by
 have k:=lR
 have y: -55<=m*q+sg*dg/\m*q+sg*dg<=55:=by
  rcases hq with rfl|rfl <;> rcases hs with rfl|rfl <;> constructor <;> grind
 have b:=dX (a:=55) (b:=1/100) (x:=m*q+sg*dg) (y:=kap) (by grind) (by grind) y.1 y.2 (by grind) (by grind)
 constructor <;> grind
theorem xC {n a b c d:Int} (h:bz a b c d):((n:Int):Rat)-3<=eI n a b c d/\eI n a b c d<=((n:Int):Rat)+3:=by
 have s:=gw ((n:Int):Rat)
 have f:=mu ((n:Int):Rat) h.la.1 h.la.2
 have e:=nU ((n:Int):Rat)
 have l:=h.lo
 have k:=Ej (q:=((1:Int):Rat)/((4:Int):Rat)) (sg:=((1:Int):Rat)) s.1 s.2 f.1 f.2 (.inl (by decide+kernel)) (.inl rfl)
 unfold eI cp km
 rw[show((45461:Int):Rat)/((600:Int):Rat)=45461/600 by decide+kernel,show((1:Int):Rat)/((360:Int):Rat)=1/360 by decide+kernel]
 have q:((1:Int):Rat)/((4:Int):Rat)=1/4:=by decide+kernel
 rw[q] at k ⊢
 constructor <;> grind
theorem vC {x:Rat} {n:Int} (h0: -4000000<=n) (h1:n<=4000000) (a:((n:Int):Rat)-3<=x) (b:x<=((n:Int):Rat)+3):au (cO x) 3:=by
 have c0:=bN h0
 have c1:=bN h1
 rw[show((-4000000:Int):Rat)= -4000000 from rfl] at c0
 rw[show((4000000:Int):Rat)=4000000 from rfl] at c1
 have e:((1048576:Int):Rat)=1048576:=rfl
 have f0: -5000000000000<=(x*((1048576:Int):Rat)).floor :=Rat.le_floor_iff.2 (by rw[e,show((-5000000000000:Int):Rat)= -5000000000000 from rfl];grind)
 have f1:(x*((1048576:Int):Rat)).floor <5000000000000:=Rat.floor_lt_iff.2 (by rw[e,show((5000000000000:Int):Rat)=5000000000000 from rfl];grind)
 exact(aW (eB (n:=(x*((1048576:Int):Rat)).floor) (by omega) (by omega)) (cA (n:=1) (d:=1048576) (by decide) (by decide))).up _ (by omega)
theorem iX {n a b c d:Int} (h:bz a b c d) (h0: -4000000<=n) (h1:n<=4000000):au (cO (eI n a b c d)) 3:=vC h0 h1 (xC h).1 (xC h).2
theorem zY (x lat:Rat):bg (-(sof x*(((1397:Int):Rat)/((3438:Int):Rat))*sof lat/sof (lat+((90:Int):Rat)))/sof (bg (sof x*(((1397:Int):Rat)/((3438:Int):Rat)))+((90:Int):Rat)))=kJ x lat:=by
 unfold kJ cP hQ obl
 rw[Rat.mul_comm (sof x),Rat.div_def (-_),Rat.neg_mul,<-Rat.div_def]
theorem zp (t lat lon:Rat) (qd sg:Int) (z:Rat) (hz:z=((1577917828:Int):Rat)/((1582237828:Int):Rat)*(((1:Int):Rat)/((360:Int):Rat))*(((qd:Int):Rat)/((4:Int):Rat)*dS t*fi t+fe t lat*((sg:Int):Rat))):
 t+((qd:Int):Rat)/((4:Int):Rat)+(((45461:Int):Rat)/((600:Int):Rat)-lon)*(((1:Int):Rat)/((360:Int):Rat))+ -(fQ t)+z=cp t lat lon qd sg:=by
 subst hz
 unfold cp km kap
 grind
end Go.Proofs.YtddiipaomejcfaaGreatDoor
