import Derived.Test.YtddiipaomejcfaaGreatDoorKB26
namespace Go.Proofs.YtddiipaomejcfaaGreatDoor
open Go.RowKit
set_option maxRecDepth 100000
set_option linter.unusedVariables false
set_option maxHeartbeats 8000000
theorem kj {k n:Int} (h:0<n):0<=k%n/\k%n<n:=⟨Int.emod_nonneg k (by omega),Int.emod_lt_of_pos k h⟩
theorem oO {k n:Int} (h:0<n): -n<(if 0<=k then k%n else -(-k%n))/\(if 0<=k then k%n else -(-k%n))<n:=by
 have a:=kj (k:=k) h
 have b:=kj (k:= -k) h
 split <;> omega
def inD (n:Int):Int:=if(if 0<=n then n%6000001 else -(-n%6000001))< -3000000 then(if 0<=n then n%6000001 else -(-n%6000001))+6000000+1 else if 3000000<(if 0<=n then n%6000001 else -(-n%6000001)) then(if 0<=n then n%6000001 else -(-n%6000001))-6000000-1 else(if 0<=n then n%6000001 else -(-n%6000001))
theorem KH (n:Int): -3000000<=inD n/\inD n<=3000000:=by
 unfold inD
 have:=oO (k:=n) (n:=6000001) (by decide)
 generalize (if 0<=n then n%6000001 else -(-n%6000001))=r at*
 split <;> (try split) <;> omega
theorem Hv (n:Int) (w:World):
 CV 14 #[iv n] w (iv (inD n)):=by
 have hrb:=oO (k:=n) (n:=6000001) (by decide)
 refine gs1 (nt:=17) Tryz.func14 rfl rfl rfl fun a st hF=>wq ?_
 refine oC hF rfl fun a hF=>nq ?_
 refine oM hF 1 rfl rfl fun a hF=>oV hF (aq hF.o ao aa (gK (a:=n) (b:=6000001) (by omega))) rfl fun a hF=>oA hF 0 rfl rfl fun a hF=>ns<|wq<|oM hF 0 rfl rfl fun a hF=>?_
 by_cases hc1:(if 0<=n then n%6000001 else -(-n%6000001))<(-3000000)
 ·refine oT hF 0 (a9 (c:=true) (aK hc1)) rfl rfl fun a hF=>E.nil<|wp_cond_true hF.o<|wq ?_
  refine oM hF 2 rfl rfl fun a hF=>oV hF (aq hF.o ao aa (aO (by omega) (by omega))) rfl fun a hF=>oV hF (aq hF.o ao aa (aO (by omega) (by omega))) rfl fun a hF=>oE hF 0 rfl rfl fun a hF=>nr ?_
  have bel:=st.bel
  refine rt Tryz.results14 hF 0 rfl ?_
  refine⟨bC ?_,bel⟩
  unfold inD
  rw[if_pos hc1]
 ·refine oT hF 0 (a9 (c:=false) (aL hc1)) rfl rfl fun a hF=>E.nil<|wp_cond_false hF.o<|wp_skip<|E.norm<|wp_seq<|wq<|oM hF 2 rfl rfl fun a hF=>?_
  by_cases hc2:3000000<(if 0<=n then n%6000001 else -(-n%6000001))
  ·refine oT hF 0 (bN (c:=true) (aK hc2)) rfl rfl fun a hF=>E.nil<|wp_cond_true hF.o<|wq ?_
   refine oM hF 4 rfl rfl fun a hF=>oV hF (aq hF.o ao aa (bE (by omega) (by omega))) rfl fun a hF=>oV hF (aq hF.o ao aa (bE (by omega) (by omega))) rfl fun a hF=>oE hF 0 rfl rfl fun a hF=>nr ?_
   have bel:=st.bel
   refine rt Tryz.results14 hF 0 rfl ?_
   refine⟨bC ?_,bel⟩
   unfold inD
   rw[if_neg hc1,if_pos hc2]
  ·refine oT hF 0 (bN (c:=false) (aL hc2)) rfl rfl fun a hF=>E.nil<|wp_cond_false hF.o<|wp_skip<|E.norm<|wq ?_
   refine oM hF 4 rfl rfl fun a hF=>oE hF 0 rfl rfl fun a hF=>nr ?_
   have bel:=st.bel
   refine rt Tryz.results14 hF 0 rfl ?_
   refine⟨bC ?_,bel⟩
   unfold inD
   rw[if_neg hc1,if_neg hc2]
theorem C4:(Tryz.prog.info? 26).map (·.size)=some 4:=by kernel_rfl
theorem vm:(Tryz.prog.info? 26).bind (·.zero)=some (.agg #[iv 0,iv 0,iv 0,iv 0]):=by kernel_rfl
theorem Ig {w:World} {g o:Nat} {cs vs:List Value} (h:Blk w g cs) (hv:(cs.drop o).take 4=vs) (hl:vs.length=4):(Instr.loadAt 26 (.pointer (some ⟨g,o,none⟩))).run Tryz.prog w= .ok (.agg vs.toArray) w:=kJ h hv hl Tryz.underlying26 rfl C4
theorem ql {w:World} {g o p:Nat} (hp:o+0=p):(Instr.fieldAt 26 (.pointer (some ⟨g,o,none⟩)) 0).run Tryz.prog w= .ok (.pointer (some ⟨g,p,none⟩)) w:=a8 Tryz.underlying26 rfl rfl dz rfl p hp
theorem qr {w:World} {g o p:Nat} (hp:o+1=p):(Instr.fieldAt 26 (.pointer (some ⟨g,o,none⟩)) 1).run Tryz.prog w= .ok (.pointer (some ⟨g,p,none⟩)) w:=a8 Tryz.underlying26 rfl rfl dz rfl p hp
theorem qJ {w:World} {g o p:Nat} (hp:o+2=p):(Instr.fieldAt 26 (.pointer (some ⟨g,o,none⟩)) 2).run Tryz.prog w= .ok (.pointer (some ⟨g,p,none⟩)) w:=a8 Tryz.underlying26 rfl rfl dz rfl p hp
theorem qA {w:World} {g o p:Nat} (hp:o+3=p):(Instr.fieldAt 26 (.pointer (some ⟨g,o,none⟩)) 3).run Tryz.prog w= .ok (.pointer (some ⟨g,p,none⟩)) w:=a8 Tryz.underlying26 rfl rfl dz rfl p hp
theorem Jq (w:World):(Instr.build 26 #[]).run Tryz.prog w= .ok (.agg #[iv 0,iv 0,iv 0,iv 0]) w:=by
 have hz:=cj vm w
 have h_i64:∀w,(sizeOf 2).run Tryz.prog w= .ok 1 w:=fun w=>aV dz w
 simp only [Instr.build,Sem.run_bind,hz,Result.andThen_ok,run_underlying Tryz.underlying26,List.mapM_toArray,List.mapM_cons,List.mapM_nil,Sem.run_map,h_i64,Sem.run_pure]
 rfl
theorem qb (z00:Int) (z10:Int) (z20:Int) (z30:Int) (w:World):(Instr.build 26 #[(0,iv z00),(1,iv z10),(2,iv z20),(3,iv z30)]).run Tryz.prog w= .ok (.agg #[iv z00,iv z10,iv z20,iv z30]) w:=by
 have hz:=cj vm w
 have h_i64:∀w,(sizeOf 2).run Tryz.prog w= .ok 1 w:=fun w=>aV dz w
 simp only [Instr.build,Sem.run_bind,hz,Result.andThen_ok,run_underlying Tryz.underlying26,List.mapM_toArray,List.mapM_cons,List.mapM_nil,Sem.run_map,h_i64,Sem.run_pure]
 rfl
theorem bi:Ty Tryz.prog 26 4 [iv 0,iv 0,iv 0,iv 0]:=⟨⟨_,Tryz.underlying26,rfl⟩,C4,vm⟩
section
section
variable {P:Program} {ops:Array Oper} {Q:Exit->Act->World->Prop} {W w:World} {bs:List (Nat×List Value)} {fs:List (World->Prop)} {nt d:Nat} {L:List (Nat×Value)} {rest:List Oper} {a:Act} {T:TypeId} {x y:Operand} {v:Value} {cs vs zs:List Value} {g n:Nat} {ty:TypeId} {pos:String} {af:Array Edge}
theorem S.stooI {o:Nat} {ws:List Value} (st:St W w bs fs) (hF:Fr nt a L) (i:Nat) (hb:bs[i]?=some (g,cs)) (he:a.eval x= .pointer (some ⟨g,o,none⟩)) (hv:a.eval y=v) (hcv:v.cells=vs.toArray) (hT:(P.info? T).map (·.size)=some n) (hl:vs.length=n) (ho:Nat.ble (o+n) cs.length=true) (hc':vs.all k7=true) (hw:cs.take o++vs++cs.drop (o+n)=ws)
 (k:∀w' a',St W w' (bs.set i (g,ws)) []->Fr nt a' L->wpS P ops Q rest a' w'):wpS P ops Q (⟨none,.store T x y,ty,pos,af,none⟩::rest) a w:=by
 obtain⟨w1,hr,tu,on⟩:=lf (P:=P) (o:=o) (ws:=ws) (st.bk i hb) hT hl ho (k7.oc hc') hw
 exact E.st hF (dA he hv (hr _ hcv)) rfl rfl fun a' hF'=>k w1 a' (st.setI i hb tu on) hF'
end
end
def gB (y:Int):Int:=1+y%3600
def gA (m m2 x y:Int):Int:=x%(m2*gB y+1)-m*gB y
theorem mF (y:Int):1<=gB y/\gB y<=3600:=by unfold gB;omega
theorem GG {m m2 x y:Int} (h:m2=2*m) (h0:0<=m): -(m*gB y)<=gA m m2 x y/\gA m m2 x y<=m*gB y:=by
 have b:=mF y
 have p:=Int.mul_nonneg h0 (show 0<=gB y by omega)
 have e:m2*gB y=2*(m*gB y):=by rw[h,Int.mul_assoc]
 unfold gA
 rw[e]
 have h1:=Int.emod_nonneg x (show 2*(m*gB y)+1≠0 by omega)
 have h2:=Int.emod_lt_of_pos x (show 0<2*(m*gB y)+1 by omega)
 omega
theorem sR (x y:Int): -60*gB y<=gA 60 120 x y/\gA 60 120 x y<=60*gB y:=by
 have:=GG (m:=60) (m2:=120) (x:=x) (y:=y) (by omega) (by omega);omega
theorem tk (x y:Int): -180*gB y<=gA 180 360 x y/\gA 180 360 x y<=180*gB y:=by
 have:=GG (m:=180) (m2:=360) (x:=x) (y:=y) (by omega) (by omega);omega
theorem Jh {k n:Int} (h:0<n):(if 0<=(if 0<=k then k%n else -(-k%n))+n then((if 0<=k then k%n else -(-k%n))+n)%n else -(-((if 0<=k then k%n else -(-k%n))+n)%n))=k%n:=by
 have a:=oO (k:=k) h
 rw[if_pos (by omega),Int.add_emod_right]
 split
 ·exact Int.emod_emod_of_dvd k (Int.dvd_refl n)
 ·have e:=Int.emod_add_mul_ediv (-k) n
  have e2: -(-k%n)=k+n*(-k/n):=by omega
  rw[e2,Int.add_mul_emod_self_left]
theorem vU {k n:Int} (h:0<n) (h2:n<=1000000000): -9223372036854775808<=(if 0<=k then k%n else -(-k%n))+n/\(if 0<=k then k%n else -(-k%n))+n<=9223372036854775807:=by
 have a:=oO (k:=k) h;omega
def wiB (m n d:Int):Bool:=decide (1<=d/\d<=3600/\ -m*d<=n/\n<=m*d)
def plE (a b c d:Int):Int:=if wiB 60 a b=true/\wiB 180 c d=true then 0 else 2
theorem GT {x c b:Rat} (hc:0<c) (h:x<=b*c):x/c<=b:=Rat.not_lt.1 fun q=>by rw[Rat.lt_div_iff hc] at q;grind
theorem Gy {x c b:Rat} (hc:0<c) (h:b*c<=x):b<=x/c:=Rat.not_lt.1 fun q=>by rw[Rat.div_lt_iff hc] at q;grind
theorem KY {a b:Int} (h:1<=b) (h0: -60*b<=a) (h1:a<=60*b): -60<=((a:Int):Rat)/((b:Int):Rat)/\((a:Int):Rat)/((b:Int):Rat)<=60:=by
 have p:(0:Rat)<((b:Int):Rat):=Rat.intCast_pos.2 (by omega)
 have a0:((-60*b:Int):Rat)<=((a:Int):Rat):=Rat.intCast_le_intCast.2 h0
 have a1:((a:Int):Rat)<=((60*b:Int):Rat):=Rat.intCast_le_intCast.2 h1
 rw[Rat.intCast_mul] at a0 a1
 rw[show((-60:Int):Rat)= -60 from rfl] at a0
 rw[show((60:Int):Rat)=60 from rfl] at a1
 exact⟨Gy p (by grind),GT p (by grind)⟩
theorem Ll {a b:Int} (h:1<=b) (h0: -180*b<=a) (h1:a<=180*b): -180<=((a:Int):Rat)/((b:Int):Rat)/\((a:Int):Rat)/((b:Int):Rat)<=180:=by
 have p:(0:Rat)<((b:Int):Rat):=Rat.intCast_pos.2 (by omega)
 have a0:((-180*b:Int):Rat)<=((a:Int):Rat):=Rat.intCast_le_intCast.2 h0
 have a1:((a:Int):Rat)<=((180*b:Int):Rat):=Rat.intCast_le_intCast.2 h1
 rw[Rat.intCast_mul] at a0 a1
 rw[show((-180:Int):Rat)= -180 from rfl] at a0
 rw[show((180:Int):Rat)=180 from rfl] at a1
 exact⟨Gy p (by grind),GT p (by grind)⟩
structure cr (a b c d:Int):Prop where
 b0:1<=b
 b1:b<=3600
 a0: -60*b<=a
 a1:a<=60*b
 d0:1<=d
 d1:d<=3600
 c0: -180*d<=c
 c1:c<=180*d
theorem sA (x y u v:Int):cr (gA 60 120 x y) (gB y) (gA 180 360 u v) (gB v):=⟨(mF y).1,(mF y).2,(sR x y).1,(sR x y).2,(mF v).1,(mF v).2,(tk u v).1,(tk u v).2⟩
theorem cr.la {a b c d:Int} (h:cr a b c d): -60<=((a:Int):Rat)/((b:Int):Rat)/\((a:Int):Rat)/((b:Int):Rat)<=60:=KY h.b0 h.a0 h.a1
theorem cr.lo {a b c d:Int} (h:cr a b c d): -180<=((c:Int):Rat)/((d:Int):Rat)/\((c:Int):Rat)/((d:Int):Rat)<=180:=Ll h.d0 h.c0 h.c1
theorem Fm {a:Act} {x0 x1 x2 x3:Operand} {u0 u1 u2 u3:Value} (h0:a.eval x0=u0) (h1:a.eval x1=u1) (h2:a.eval x2=u2) (h3:a.eval x3=u3):#[x0,x1,x2,x3].map a.eval=#[u0,u1,u2,u3]:=by simp[h0,h1,h2,h3]
theorem mj {n d:Int} (h0: -9223372036854775808<=n) (h1:n<=9223372036854775807) (g0: -9223372036854775808<=d) (g1:d<=9223372036854775807):aw (((n:Int):Rat)/((d:Int):Rat)) 2:=(eB (bH h0 h1) (bH g0 g1)).up 2 (by decide)
theorem tf (w:World):
 CV 41 #[] w (.agg #[iv 463,iv 20,iv 45461,iv 600]):=by
 refine gs0 (nt:=2) Tryz.func41 rfl rfl fun a st hF=>wq<|S.alloc st hF bi rfl rfl fun g0 w1 a st hF=>nq<|oV hF (be (pE ao ao ao ao) (qb _ _ _ _ _)) rfl fun a hF=>S.stoI st hF 0 rfl hF.p hF.o bi rfl rfl rfl fun w2 a st hF=>nr<|rs Tryz.results41 st hF 1 0 bi rfl rfl rfl ?_
 exact⟨rfl,st.bel⟩
theorem ux (xa xb xc xd:Int) (w:World) (hxa0: -9223372036854775808<=xa) (hxa1:xa<=9223372036854775807) (hxb0: -9223372036854775808<=xb) (hxb1:xb<=9223372036854775807):
 CQ 217 #[.agg #[iv xa,iv xb,iv xc,iv xd]] w (((xa:Int):Rat)/((xb:Int):Rat)):=by
 refine gs1 (nt:=8) Tryz.func217 rfl rfl rfl fun a st hF=>wq<|bx st hF 0 rfl rfl fun g1 w1 a st hF=>S.alloc st hF ab rfl rfl fun g2 w2 a st hF=>nq<|oV hF (az hF.p (ql (p:=0) rfl)) rfl fun a hF=>oV hF (av hF.o (bD (v:= iv xa) (st.bk 1 rfl) rfl)) rfl fun a hF=>oV hF (az (hF.at 3 rfl) (qr (p:=1) rfl)) rfl fun a hF=>oV hF (av hF.o (bD (v:= iv xb) (st.bk 1 rfl) rfl)) rfl fun a hF=>?_
 refine ca st hF (rk JW (aF hF.q hF.o)) (k6 (xa) (xb) _ hxa0 hxa1 hxb0 hxb1) (fun _ _ h=>h) Rq.cl rfl fun vv4 w3 a st hF=>?_
 obtain⟨r6,rfl⟩:=Rq.fo (st.f 0 rfl)
 refine so st hF 0 5 0 ab rfl rfl rfl rfl fun w7 a st hF=>nr<|rs Tryz.results217 st hF 5 0 ab rfl rfl rfl ?_
 exact⟨_,rfl,(st.f 0 rfl),st.bel⟩
theorem lR (xa xb xc xd:Int) (w:World) (hxc0: -9223372036854775808<=xc) (hxc1:xc<=9223372036854775807) (hxd0: -9223372036854775808<=xd) (hxd1:xd<=9223372036854775807):
 CQ 167 #[.agg #[iv xa,iv xb,iv xc,iv xd]] w (((xc:Int):Rat)/((xd:Int):Rat)):=by
 refine gs1 (nt:=8) Tryz.func167 rfl rfl rfl fun a st hF=>wq<|bx st hF 0 rfl rfl fun g1 w1 a st hF=>S.alloc st hF ab rfl rfl fun g2 w2 a st hF=>nq<|oV hF (az hF.p (qJ (p:=2) rfl)) rfl fun a hF=>oV hF (av hF.o (bD (v:= iv xc) (st.bk 1 rfl) rfl)) rfl fun a hF=>oV hF (az (hF.at 3 rfl) (qA (p:=3) rfl)) rfl fun a hF=>oV hF (av hF.o (bD (v:= iv xd) (st.bk 1 rfl) rfl)) rfl fun a hF=>?_
 refine ca st hF (rk JW (aF hF.q hF.o)) (k6 (xc) (xd) _ hxc0 hxc1 hxd0 hxd1) (fun _ _ h=>h) Rq.cl rfl fun vv4 w3 a st hF=>?_
 obtain⟨r6,rfl⟩:=Rq.fo (st.f 0 rfl)
 refine so st hF 0 5 0 ab rfl rfl rfl rfl fun w7 a st hF=>nr<|rs Tryz.results167 st hF 5 0 ab rfl rfl rfl ?_
 exact⟨_,rfl,(st.f 0 rfl),st.bel⟩
theorem mN (k n:Int) (w:World) (hn:0<n) (hn2:n<=1000000000):
 CV 79 #[iv k,iv n] w (iv (k%n)):=by
 refine gs2 (nt:=12) Tryz.func79 rfl rfl rfl fun a st hF=>wq ?_
 refine oC hF rfl fun a hF=>nq<|oM hF 1 rfl rfl fun a hF=>oM hF 3 rfl rfl fun a hF=>oV hF (aq hF.p hF.o aa (gK (a:=k) (b:=n) hn)) rfl fun a hF=>oM hF 5 rfl rfl fun a hF=>oV hF (aq hF.p hF.o aa (aO (vU hn hn2).1 (vU hn hn2).2)) rfl fun a hF=>oM hF 7 rfl rfl fun a hF=>oV hF (aq hF.p hF.o aa (gK (a:=(if 0<=k then k%n else -(-k%n))+n) (b:=n) hn)) rfl fun a hF=>?_
 refine oE hF 0 rfl rfl fun a hF=>nr ?_
 have bel:=st.bel
 refine rt Tryz.results79 hF 0 rfl ?_
 exact⟨bC (Jh hn),bel⟩
theorem F4 (x y u v:Int) (w:World):
 CV 42 #[iv x,iv y,iv u,iv v] w (.agg #[iv (gA 60 120 x y),iv (gB y),iv (gA 180 360 u v),iv (gB v)]):=by
 have st:=St.start w
 refine E.enter (nt:=36) (L:=[(0,iv x),(1,iv y),(2,iv u),(3,iv v)]) Tryz.func42 rfl rfl rfl (bp (i:=0) rfl (bp (i:=1) rfl (bp (i:=2) rfl (bp (i:=3) rfl fv)))) ?_
 intro a hF
 refine wq<|S.alloc st hF bi rfl rfl fun g8 w1 a st hF=>nq<|oM hF 2 rfl rfl fun a hF=>cX st hF (rk Au (aF hF.o ao)) (mN y 3600 _ (by omega) (by omega)) rfl fun w2 a st hF=>?_
 have hib3142:=kj (k:=y) (n:=3600) (by omega)
 refine oV hF (aq ao hF.o aa (aO (by omega) (by omega))) rfl fun a hF=>oM hF 7 rfl rfl fun a hF=>cX st hF (rk Au (aF hF.o ao)) (mN v 3600 _ (by omega) (by omega)) rfl fun w3 a st hF=>?_
 have hib446:=kj (k:=v) (n:=3600) (by omega)
 refine oV hF (aq ao hF.o aa (aO (by omega) (by omega))) rfl fun a hF=>oA hF 3 rfl rfl fun a hF=>oA hF 1 rfl rfl fun a hF=>nq<|oM hF 9 rfl rfl fun a hF=>oM hF 2 rfl rfl fun a hF=>oV hF (aq ao hF.o aa (dG (by omega) (by omega))) rfl fun a hF=>oV hF (aq hF.o ao aa (aO (by omega) (by omega))) rfl fun a hF=>cX st hF (rk Au (aF (hF.at 3 rfl) hF.o)) (mN x ((120*(1+(y%3600)))+1) _ (by omega) (by omega)) rfl fun w4 a st hF=>?_
 have hib545:=kj (k:=x) (n:=(120*(1+(y%3600)))+1) (by omega)
 refine oM hF 6 rfl rfl fun a hF=>oV hF (aq ao hF.o aa (dG (by omega) (by omega))) rfl fun a hF=>oV hF (aq hF.q hF.o aa (bE (by omega) (by omega))) rfl fun a hF=>oM hF 9 rfl rfl fun a hF=>oM hF 20 rfl rfl fun a hF=>oM hF 10 rfl rfl fun a hF=>oV hF (aq ao hF.o aa (dG (by omega) (by omega))) rfl fun a hF=>oV hF (aq hF.o ao aa (aO (by omega) (by omega))) rfl fun a hF=>cX st hF (rk Au (aF (hF.at 3 rfl) hF.o)) (mN u ((360*(1+(v%3600)))+1) _ (by omega) (by omega)) rfl fun w5 a st hF=>?_
 have hib8212:=kj (k:=u) (n:=(360*(1+(v%3600)))+1) (by omega)
 refine oM hF 14 rfl rfl fun a hF=>oV hF (aq ao hF.o aa (dG (by omega) (by omega))) rfl fun a hF=>oV hF (aq hF.q hF.o aa (bE (by omega) (by omega))) rfl fun a hF=>oM hF 17 rfl rfl fun a hF=>oV hF (be (pE (hF.at 10 rfl) (hF.at 9 rfl) hF.p hF.o) (qb _ _ _ _ _)) rfl fun a hF=>S.stoI st hF 0 rfl (hF.at 27 rfl) hF.o bi rfl rfl rfl fun w6 a st hF=>nr<|rs Tryz.results42 st hF 27 0 bi rfl rfl rfl ?_
 exact⟨rfl,st.bel⟩
theorem ww (n d:Int) (w:World):
 CV 80 #[iv n,iv d,iv 60] w (.bool (wiB 60 n d)):=by
 refine gs3 (nt:=28) Tryz.func80 rfl rfl rfl fun a st hF=>wq ?_
 refine oC hF rfl fun a hF=>nq<|oM hF 2 rfl rfl fun a hF=>?_
 by_cases hc1:1<=d
 ·refine oV hF (aq ao hF.o aa (aI (bv (c:=true) (aK hc1)) (by simp))) rfl fun a hF=>oM hF 0 rfl rfl fun a hF=>og hF (aB (hF.at 5 rfl)) 0 rfl rfl rfl fun a hF=>?_
  by_cases hc2:d<=3600
  ·refine og hF (aq hF.o ao aa (aI (bv (c:=true) (aK hc2)) (by simp))) 1 rfl rfl rfl fun a hF=>oV hF (aH hF.q hF.o) rfl fun a hF=>oM hF 0 rfl rfl fun a hF=>og hF (aB (hF.at 10 rfl)) 0 rfl rfl rfl fun a hF=>og hF (dF hF.o (sj (by omega) (by omega))) 1 rfl rfl rfl fun a hF=>og hF (aB (hF.at 11 rfl)) 2 rfl rfl rfl fun a hF=>og hF (aq hF.p hF.o aa (dG (by omega) (by omega))) 3 rfl rfl rfl fun a hF=>og hF (aB (hF.at 12 rfl)) 4 rfl rfl rfl fun a hF=>?_
   by_cases hc3:(-60)*d<=n
   ·refine og hF (aq hF.p hF.o aa (aI (bv (c:=true) (aK hc3)) (by simp))) 5 rfl rfl rfl fun a hF=>oV hF (aH (hF.at 6 rfl) hF.o) rfl fun a hF=>oM hF 0 rfl rfl fun a hF=>og hF (aB (hF.at 16 rfl)) 0 rfl rfl rfl fun a hF=>og hF (aB (hF.at 19 rfl)) 1 rfl rfl rfl fun a hF=>og hF (aB (hF.at 19 rfl)) 2 rfl rfl rfl fun a hF=>og hF (aq hF.p hF.o aa (dG (by omega) (by omega))) 3 rfl rfl rfl fun a hF=>?_
    by_cases hc4:n<=60*d
    ·refine og hF (aq (hF.at 3 rfl) hF.o aa (aI (bv (c:=true) (aK hc4)) (by simp))) 4 rfl rfl rfl fun a hF=>oV hF (aH (hF.at 5 rfl) hF.o) rfl fun a hF=>oE hF 0 rfl rfl fun a hF=>nr ?_
     have bel:=st.bel
     refine rt Tryz.results80 hF 0 rfl ?_
     refine⟨gt ?_,bel⟩
     unfold wiB
     first|exact(decide_eq_true (by omega)).symm |exact(decide_eq_false (by omega)).symm |exact decide_eq_decide.2 (by omega)
    ·refine og hF (aq (hF.at 3 rfl) hF.o aa (aI (bv (c:=false) (aL hc4)) (by simp))) 4 rfl rfl rfl fun a hF=>oV hF (aH (hF.at 5 rfl) hF.o) rfl fun a hF=>oE hF 0 rfl rfl fun a hF=>nr ?_
     have bel:=st.bel
     refine rt Tryz.results80 hF 0 rfl ?_
     refine⟨gt ?_,bel⟩
     unfold wiB
     first|exact(decide_eq_true (by omega)).symm |exact(decide_eq_false (by omega)).symm |exact decide_eq_decide.2 (by omega)
   ·refine og hF (aq hF.p hF.o aa (aI (bv (c:=false) (aL hc3)) (by simp))) 5 rfl rfl rfl fun a hF=>oV hF (aH (hF.at 6 rfl) hF.o) rfl fun a hF=>oM hF 0 rfl rfl fun a hF=>nu hF 0 rfl rfl rfl fun a hF=>nu hF 1 rfl rfl rfl fun a hF=>nu hF 2 rfl rfl rfl fun a hF=>nu hF 3 rfl rfl rfl fun a hF=>?_
    refine nu hF 4 rfl rfl rfl fun a hF=>oV hF (aJ (hF.at 5 rfl) ao) rfl fun a hF=>oE hF 0 rfl rfl fun a hF=>nr ?_
    have bel:=st.bel
    refine rt Tryz.results80 hF 0 rfl ?_
    refine⟨gt ?_,bel⟩
    unfold wiB
    first|exact(decide_eq_true (by omega)).symm |exact(decide_eq_false (by omega)).symm |exact decide_eq_decide.2 (by omega)
  ·refine og hF (aq hF.o ao aa (aI (bv (c:=false) (aL hc2)) (by simp))) 1 rfl rfl rfl fun a hF=>oV hF (aH hF.q hF.o) rfl fun a hF=>oM hF 0 rfl rfl fun a hF=>nu hF 0 rfl rfl rfl fun a hF=>nu hF 1 rfl rfl rfl fun a hF=>nu hF 2 rfl rfl rfl fun a hF=>nu hF 3 rfl rfl rfl fun a hF=>nu hF 4 rfl rfl rfl fun a hF=>nu hF 5 rfl rfl rfl fun a hF=>oV hF (aJ (hF.at 6 rfl) ao) rfl fun a hF=>oM hF 0 rfl rfl fun a hF=>nu hF 0 rfl rfl rfl fun a hF=>nu hF 1 rfl rfl rfl fun a hF=>nu hF 2 rfl rfl rfl fun a hF=>?_
   refine nu hF 3 rfl rfl rfl fun a hF=>nu hF 4 rfl rfl rfl fun a hF=>oV hF (aJ (hF.at 5 rfl) ao) rfl fun a hF=>oE hF 0 rfl rfl fun a hF=>nr ?_
   have bel:=st.bel
   refine rt Tryz.results80 hF 0 rfl ?_
   refine⟨gt ?_,bel⟩
   unfold wiB
   first|exact(decide_eq_true (by omega)).symm |exact(decide_eq_false (by omega)).symm |exact decide_eq_decide.2 (by omega)
 ·refine oV hF (aq ao hF.o aa (aI (bv (c:=false) (aL hc1)) (by simp))) rfl fun a hF=>oM hF 0 rfl rfl fun a hF=>nu hF 0 rfl rfl rfl fun a hF=>nu hF 1 rfl rfl rfl fun a hF=>oV hF (aJ hF.q ao) rfl fun a hF=>oM hF 0 rfl rfl fun a hF=>nu hF 0 rfl rfl rfl fun a hF=>nu hF 1 rfl rfl rfl fun a hF=>nu hF 2 rfl rfl rfl fun a hF=>nu hF 3 rfl rfl rfl fun a hF=>nu hF 4 rfl rfl rfl fun a hF=>nu hF 5 rfl rfl rfl fun a hF=>oV hF (aJ (hF.at 6 rfl) ao) rfl fun a hF=>oM hF 0 rfl rfl fun a hF=>?_
  refine nu hF 0 rfl rfl rfl fun a hF=>nu hF 1 rfl rfl rfl fun a hF=>nu hF 2 rfl rfl rfl fun a hF=>nu hF 3 rfl rfl rfl fun a hF=>nu hF 4 rfl rfl rfl fun a hF=>oV hF (aJ (hF.at 5 rfl) ao) rfl fun a hF=>oE hF 0 rfl rfl fun a hF=>nr ?_
  have bel:=st.bel
  refine rt Tryz.results80 hF 0 rfl ?_
  refine⟨gt ?_,bel⟩
  unfold wiB
  first|exact(decide_eq_true (by omega)).symm |exact(decide_eq_false (by omega)).symm |exact decide_eq_decide.2 (by omega)
theorem uw (n d:Int) (w:World):
 CV 80 #[iv n,iv d,iv 180] w (.bool (wiB 180 n d)):=by
 refine gs3 (nt:=28) Tryz.func80 rfl rfl rfl fun a st hF=>wq ?_
 refine oC hF rfl fun a hF=>nq<|oM hF 2 rfl rfl fun a hF=>?_
 by_cases hc1:1<=d
 ·refine oV hF (aq ao hF.o aa (aI (bv (c:=true) (aK hc1)) (by simp))) rfl fun a hF=>oM hF 0 rfl rfl fun a hF=>og hF (aB (hF.at 5 rfl)) 0 rfl rfl rfl fun a hF=>?_
  by_cases hc2:d<=3600
  ·refine og hF (aq hF.o ao aa (aI (bv (c:=true) (aK hc2)) (by simp))) 1 rfl rfl rfl fun a hF=>oV hF (aH hF.q hF.o) rfl fun a hF=>oM hF 0 rfl rfl fun a hF=>og hF (aB (hF.at 10 rfl)) 0 rfl rfl rfl fun a hF=>og hF (dF hF.o (sj (by omega) (by omega))) 1 rfl rfl rfl fun a hF=>og hF (aB (hF.at 11 rfl)) 2 rfl rfl rfl fun a hF=>og hF (aq hF.p hF.o aa (dG (by omega) (by omega))) 3 rfl rfl rfl fun a hF=>og hF (aB (hF.at 12 rfl)) 4 rfl rfl rfl fun a hF=>?_
   by_cases hc3:(-180)*d<=n
   ·refine og hF (aq hF.p hF.o aa (aI (bv (c:=true) (aK hc3)) (by simp))) 5 rfl rfl rfl fun a hF=>oV hF (aH (hF.at 6 rfl) hF.o) rfl fun a hF=>oM hF 0 rfl rfl fun a hF=>og hF (aB (hF.at 16 rfl)) 0 rfl rfl rfl fun a hF=>og hF (aB (hF.at 19 rfl)) 1 rfl rfl rfl fun a hF=>og hF (aB (hF.at 19 rfl)) 2 rfl rfl rfl fun a hF=>og hF (aq hF.p hF.o aa (dG (by omega) (by omega))) 3 rfl rfl rfl fun a hF=>?_
    by_cases hc4:n<=180*d
    ·refine og hF (aq (hF.at 3 rfl) hF.o aa (aI (bv (c:=true) (aK hc4)) (by simp))) 4 rfl rfl rfl fun a hF=>oV hF (aH (hF.at 5 rfl) hF.o) rfl fun a hF=>oE hF 0 rfl rfl fun a hF=>nr ?_
     have bel:=st.bel
     refine rt Tryz.results80 hF 0 rfl ?_
     refine⟨gt ?_,bel⟩
     unfold wiB
     first|exact(decide_eq_true (by omega)).symm |exact(decide_eq_false (by omega)).symm |exact decide_eq_decide.2 (by omega)
    ·refine og hF (aq (hF.at 3 rfl) hF.o aa (aI (bv (c:=false) (aL hc4)) (by simp))) 4 rfl rfl rfl fun a hF=>oV hF (aH (hF.at 5 rfl) hF.o) rfl fun a hF=>oE hF 0 rfl rfl fun a hF=>nr ?_
     have bel:=st.bel
     refine rt Tryz.results80 hF 0 rfl ?_
     refine⟨gt ?_,bel⟩
     unfold wiB
     first|exact(decide_eq_true (by omega)).symm |exact(decide_eq_false (by omega)).symm |exact decide_eq_decide.2 (by omega)
   ·refine og hF (aq hF.p hF.o aa (aI (bv (c:=false) (aL hc3)) (by simp))) 5 rfl rfl rfl fun a hF=>oV hF (aH (hF.at 6 rfl) hF.o) rfl fun a hF=>oM hF 0 rfl rfl fun a hF=>nu hF 0 rfl rfl rfl fun a hF=>nu hF 1 rfl rfl rfl fun a hF=>nu hF 2 rfl rfl rfl fun a hF=>nu hF 3 rfl rfl rfl fun a hF=>?_
    refine nu hF 4 rfl rfl rfl fun a hF=>oV hF (aJ (hF.at 5 rfl) ao) rfl fun a hF=>oE hF 0 rfl rfl fun a hF=>nr ?_
    have bel:=st.bel
    refine rt Tryz.results80 hF 0 rfl ?_
    refine⟨gt ?_,bel⟩
    unfold wiB
    first|exact(decide_eq_true (by omega)).symm |exact(decide_eq_false (by omega)).symm |exact decide_eq_decide.2 (by omega)
  ·refine og hF (aq hF.o ao aa (aI (bv (c:=false) (aL hc2)) (by simp))) 1 rfl rfl rfl fun a hF=>oV hF (aH hF.q hF.o) rfl fun a hF=>oM hF 0 rfl rfl fun a hF=>nu hF 0 rfl rfl rfl fun a hF=>nu hF 1 rfl rfl rfl fun a hF=>nu hF 2 rfl rfl rfl fun a hF=>nu hF 3 rfl rfl rfl fun a hF=>nu hF 4 rfl rfl rfl fun a hF=>nu hF 5 rfl rfl rfl fun a hF=>oV hF (aJ (hF.at 6 rfl) ao) rfl fun a hF=>oM hF 0 rfl rfl fun a hF=>nu hF 0 rfl rfl rfl fun a hF=>nu hF 1 rfl rfl rfl fun a hF=>nu hF 2 rfl rfl rfl fun a hF=>?_
   refine nu hF 3 rfl rfl rfl fun a hF=>nu hF 4 rfl rfl rfl fun a hF=>oV hF (aJ (hF.at 5 rfl) ao) rfl fun a hF=>oE hF 0 rfl rfl fun a hF=>nr ?_
   have bel:=st.bel
   refine rt Tryz.results80 hF 0 rfl ?_
   refine⟨gt ?_,bel⟩
   unfold wiB
   first|exact(decide_eq_true (by omega)).symm |exact(decide_eq_false (by omega)).symm |exact decide_eq_decide.2 (by omega)
 ·refine oV hF (aq ao hF.o aa (aI (bv (c:=false) (aL hc1)) (by simp))) rfl fun a hF=>oM hF 0 rfl rfl fun a hF=>nu hF 0 rfl rfl rfl fun a hF=>nu hF 1 rfl rfl rfl fun a hF=>oV hF (aJ hF.q ao) rfl fun a hF=>oM hF 0 rfl rfl fun a hF=>nu hF 0 rfl rfl rfl fun a hF=>nu hF 1 rfl rfl rfl fun a hF=>nu hF 2 rfl rfl rfl fun a hF=>nu hF 3 rfl rfl rfl fun a hF=>nu hF 4 rfl rfl rfl fun a hF=>nu hF 5 rfl rfl rfl fun a hF=>oV hF (aJ (hF.at 6 rfl) ao) rfl fun a hF=>oM hF 0 rfl rfl fun a hF=>?_
  refine nu hF 0 rfl rfl rfl fun a hF=>nu hF 1 rfl rfl rfl fun a hF=>nu hF 2 rfl rfl rfl fun a hF=>nu hF 3 rfl rfl rfl fun a hF=>nu hF 4 rfl rfl rfl fun a hF=>oV hF (aJ (hF.at 5 rfl) ao) rfl fun a hF=>oE hF 0 rfl rfl fun a hF=>nr ?_
  have bel:=st.bel
  refine rt Tryz.results80 hF 0 rfl ?_
  refine⟨gt ?_,bel⟩
  unfold wiB
  first|exact(decide_eq_true (by omega)).symm |exact(decide_eq_false (by omega)).symm |exact decide_eq_decide.2 (by omega)
theorem mM (xa xb xc xd:Int) (w:World):
 CV 43 #[.agg #[iv xa,iv xb,iv xc,iv xd]] w (iv (plE xa xb xc xd)):=by
 refine gs1 (nt:=17) Tryz.func43 rfl rfl rfl fun a st hF=>wq<|bx st hF 0 rfl rfl fun g1 w1 a st hF=>?_
 refine oC hF rfl fun a hF=>ns<|wq<|oV hF (az hF.p (ql (p:=0) rfl)) rfl fun a hF=>oV hF (av hF.o (bD (v:= iv xa) (st.bk 0 rfl) rfl)) rfl fun a hF=>oV hF (az (hF.at 3 rfl) (qr (p:=1) rfl)) rfl fun a hF=>oV hF (av hF.o (bD (v:= iv xb) (st.bk 0 rfl) rfl)) rfl fun a hF=>cX st hF (rk Lc (xr hF.q hF.o ao)) (ww xa xb _) rfl fun w2 a st hF=>?_
 by_cases hc3:wiB 60 xa xb=true
 ·refine oV hF (dF (Eq.trans hF.o (congrArg Value.bool hc3)) (cA _ false rfl)) rfl fun a hF=>oM hF 0 rfl rfl fun a hF=>og hF (az (hF.at 8 rfl) (qJ (p:=2) rfl)) 0 rfl rfl rfl fun a hF=>og hF (av hF.o (bD (v:= iv xc) (st.bk 0 rfl) rfl)) 1 rfl rfl rfl fun a hF=>og hF (az (hF.at 10 rfl) (qA (p:=3) rfl)) 2 rfl rfl rfl fun a hF=>og hF (av hF.o (bD (v:= iv xd) (st.bk 0 rfl) rfl)) 3 rfl rfl rfl fun a hF=>?_
  refine S.callxg st hF (ag rfl rfl (hF.at 4 rfl) rfl) (rk Lc (xr hF.q hF.o ao)) (uw xc xd _) rfl rfl rfl fun w4 a st hF=>?_
  by_cases hc5:wiB 180 xc xd=true
  ·refine og hF (dF (Eq.trans hF.o (congrArg Value.bool hc5)) (cA _ false rfl)) 5 rfl rfl rfl fun a hF=>oV hF (aJ (hF.at 6 rfl) hF.o) rfl fun a hF=>E.nil<|wp_cond_false hF.o<|wp_skip<|E.norm<|wq ?_
   refine oS hF (aZ ao) rfl fun a hF=>nr ?_
   have bel:=st.bel
   refine rt Tryz.results43 hF 0 rfl ?_
   refine⟨bC ?_,bel⟩
   unfold plE
   rw[if_pos ⟨by assumption,by assumption⟩]
  ·refine og hF (dF (Eq.trans hF.o (congrArg Value.bool (eq_false_of_ne_true hc5))) (cA _ true rfl)) 5 rfl rfl rfl fun a hF=>oV hF (aJ (hF.at 6 rfl) hF.o) rfl fun a hF=>E.nil<|wp_cond_true hF.o<|wq ?_
   refine oS hF (aZ ao) rfl fun a hF=>nr ?_
   have bel:=st.bel
   refine rt Tryz.results43 hF 0 rfl ?_
   refine⟨bC ?_,bel⟩
   unfold plE
   rw[if_neg (by rintro⟨e1,e2⟩;simp_all)]
 ·refine oV hF (dF (Eq.trans hF.o (congrArg Value.bool (eq_false_of_ne_true hc3))) (cA _ true rfl)) rfl fun a hF=>oM hF 0 rfl rfl fun a hF=>nu hF 0 rfl rfl rfl fun a hF=>nu hF 1 rfl rfl rfl fun a hF=>nu hF 2 rfl rfl rfl fun a hF=>nu hF 3 rfl rfl rfl fun a hF=>nu hF 4 rfl rfl rfl fun a hF=>nu hF 5 rfl rfl rfl fun a hF=>oV hF (aH (hF.at 6 rfl) ao) rfl fun a hF=>E.nil<|wp_cond_true hF.o<|wq ?_
  refine oS hF (aZ ao) rfl fun a hF=>nr ?_
  have bel:=st.bel
  refine rt Tryz.results43 hF 0 rfl ?_
  refine⟨bC ?_,bel⟩
  unfold plE
  rw[if_neg (by rintro⟨e1,e2⟩;simp_all)]
end Go.Proofs.YtddiipaomejcfaaGreatDoor
