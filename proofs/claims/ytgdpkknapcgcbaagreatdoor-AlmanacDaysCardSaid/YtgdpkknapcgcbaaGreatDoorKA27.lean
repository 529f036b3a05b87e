import Derived.Test.YtgdpkknapcgcbaaGreatDoorKA20
import Derived.Test.YtgdpkknapcgcbaaGreatDoorKA26
namespace Go.Proofs.YtgdpkknapcgcbaaGreatDoor
open Go.RowKit
set_option maxRecDepth 100000
set_option linter.unusedVariables false
set_option maxHeartbeats 8000000
theorem jP {k n:Int} (h:0<n):0<=k%n/\k%n<n:=⟨Int.emod_nonneg k (by omega),Int.emod_lt_of_pos k h⟩
theorem qq {k n:Int} (h:0<n): -n<(if 0<=k then k%n else -(-k%n))/\(if 0<=k then k%n else -(-k%n))<n:=by
 have a:=jP (k:=k) h
 have b:=jP (k:= -k) h
 split <;> omega
def inD (n:Int):Int:=if(if 0<=n then n%6000001 else -(-n%6000001))< -3000000 then(if 0<=n then n%6000001 else -(-n%6000001))+6000000+1 else if 3000000<(if 0<=n then n%6000001 else -(-n%6000001)) then(if 0<=n then n%6000001 else -(-n%6000001))-6000000-1 else(if 0<=n then n%6000001 else -(-n%6000001))
theorem IE (n:Int): -3000000<=inD n/\inD n<=3000000:=by
 unfold inD
 have:=qq (k:=n) (n:=6000001) (by decide)
 generalize (if 0<=n then n%6000001 else -(-n%6000001))=r at*
 split <;> (try split) <;> omega
theorem FZ (n:Int) (w:World):
 CV 16 #[iv n] w (iv (inD n)):=by
 have hrb:=qq (k:=n) (n:=6000001) (by decide)
 refine gs1 (nt:=17) Tryz.func16 rfl rfl rfl fun a st hF=>wq ?_
 refine oC hF rfl fun a hF=>nq ?_
 refine oM hF 1 rfl rfl fun a hF=>oV hF (au hF.o ao ag (eg (a:=n) (b:=6000001) (by omega))) rfl fun a hF=>oA hF 0 rfl rfl fun a hF=>ns<|wq<|oM hF 0 rfl rfl fun a hF=>?_
 by_cases hc1:(if 0<=n then n%6000001 else -(-n%6000001))<(-3000000)
 ·refine oT hF 0 (bQ (c:=true) (aK hc1)) rfl rfl fun a hF=>E.nil<|wp_cond_true hF.o<|wq ?_
  refine oM hF 2 rfl rfl fun a hF=>oV hF (au hF.o ao ag (a9 (by omega) (by omega))) rfl fun a hF=>oV hF (au hF.o ao ag (a9 (by omega) (by omega))) rfl fun a hF=>oE hF 0 rfl rfl fun a hF=>nr ?_
  have bel:=st.bel
  refine rt Tryz.results16 hF 0 rfl ?_
  refine⟨bq ?_,bel⟩
  unfold inD
  rw[if_pos hc1]
 ·refine oT hF 0 (bQ (c:=false) (aJ hc1)) rfl rfl fun a hF=>E.nil<|wp_cond_false hF.o<|wp_skip<|E.norm<|wp_seq<|wq<|oM hF 2 rfl rfl fun a hF=>?_
  by_cases hc2:3000000<(if 0<=n then n%6000001 else -(-n%6000001))
  ·refine oT hF 0 (fA (c:=true) (aK hc2)) rfl rfl fun a hF=>E.nil<|wp_cond_true hF.o<|wq ?_
   refine oM hF 4 rfl rfl fun a hF=>oV hF (au hF.o ao ag (cw (by omega) (by omega))) rfl fun a hF=>oV hF (au hF.o ao ag (cw (by omega) (by omega))) rfl fun a hF=>oE hF 0 rfl rfl fun a hF=>nr ?_
   have bel:=st.bel
   refine rt Tryz.results16 hF 0 rfl ?_
   refine⟨bq ?_,bel⟩
   unfold inD
   rw[if_neg hc1,if_pos hc2]
  ·refine oT hF 0 (fA (c:=false) (aJ hc2)) rfl rfl fun a hF=>E.nil<|wp_cond_false hF.o<|wp_skip<|E.norm<|wq ?_
   refine oM hF 4 rfl rfl fun a hF=>oE hF 0 rfl rfl fun a hF=>nr ?_
   have bel:=st.bel
   refine rt Tryz.results16 hF 0 rfl ?_
   refine⟨bq ?_,bel⟩
   unfold inD
   rw[if_neg hc1,if_neg hc2]
theorem JL:(Tryz.prog.info? 26).map (·.size)=some 4:=by kernel_rfl
theorem vc:(Tryz.prog.info? 26).bind (·.zero)=some (.agg #[iv 0,iv 0,iv 0,iv 0]):=by kernel_rfl
theorem pW {w:World} {g o p:Nat} (hp:o+0=p):(Instr.fieldAt 26 (.pointer (some ⟨g,o,none⟩)) 0).run Tryz.prog w= .ok (.pointer (some ⟨g,p,none⟩)) w:=aQ Tryz.underlying26 rfl rfl dV rfl p hp
theorem pX {w:World} {g o p:Nat} (hp:o+1=p):(Instr.fieldAt 26 (.pointer (some ⟨g,o,none⟩)) 1).run Tryz.prog w= .ok (.pointer (some ⟨g,p,none⟩)) w:=aQ Tryz.underlying26 rfl rfl dV rfl p hp
theorem pH {w:World} {g o p:Nat} (hp:o+2=p):(Instr.fieldAt 26 (.pointer (some ⟨g,o,none⟩)) 2).run Tryz.prog w= .ok (.pointer (some ⟨g,p,none⟩)) w:=aQ Tryz.underlying26 rfl rfl dV rfl p hp
theorem pt {w:World} {g o p:Nat} (hp:o+3=p):(Instr.fieldAt 26 (.pointer (some ⟨g,o,none⟩)) 3).run Tryz.prog w= .ok (.pointer (some ⟨g,p,none⟩)) w:=aQ Tryz.underlying26 rfl rfl dV rfl p hp
theorem F7 (w:World):(Instr.build 26 #[]).run Tryz.prog w= .ok (.agg #[iv 0,iv 0,iv 0,iv 0]) w:=by
 have hz:=bO vc w
 have h_i64:∀w,(sizeOf 2).run Tryz.prog w= .ok 1 w:=fun w=>aH dV w
 simp only [Instr.build,Sem.run_bind,hz,Result.andThen_ok,run_underlying Tryz.underlying26,List.mapM_toArray,List.mapM_cons,List.mapM_nil,Sem.run_map,h_i64,Sem.run_pure]
 rfl
theorem oP (z00:Int) (z10:Int) (z20:Int) (z30:Int) (w:World):(Instr.build 26 #[(0,iv z00),(1,iv z10),(2,iv z20),(3,iv z30)]).run Tryz.prog w= .ok (.agg #[iv z00,iv z10,iv z20,iv z30]) w:=by
 have hz:=bO vc w
 have h_i64:∀w,(sizeOf 2).run Tryz.prog w= .ok 1 w:=fun w=>aH dV w
 simp only [Instr.build,Sem.run_bind,hz,Result.andThen_ok,run_underlying Tryz.underlying26,List.mapM_toArray,List.mapM_cons,List.mapM_nil,Sem.run_map,h_i64,Sem.run_pure]
 rfl
theorem cB:Ty Tryz.prog 26 4 [iv 0,iv 0,iv 0,iv 0]:=⟨⟨_,Tryz.underlying26,rfl⟩,JL,vc⟩
section
section
variable {P:Program} {ops:Array Oper} {Q:Exit->Act->World->Prop} {W w:World} {bs:List (Nat×List Value)} {fs:List (World->Prop)} {nt d:Nat} {L:List (Nat×Value)} {rest:List Oper} {a:Act} {T:TypeId} {x y:Operand} {v:Value} {cs vs zs:List Value} {g n:Nat} {ty:TypeId} {pos:String} {af:Array Edge}
end
end
def gB (y:Int):Int:=1+y%3600
def gA (m m2 x y:Int):Int:=x%(m2*gB y+1)-m*gB y
theorem mv (y:Int):1<=gB y/\gB y<=3600:=by unfold gB;omega
theorem Fj {m m2 x y:Int} (h:m2=2*m) (h0:0<=m): -(m*gB y)<=gA m m2 x y/\gA m m2 x y<=m*gB y:=by
 have b:=mv y
 have p:=Int.mul_nonneg h0 (show 0<=gB y by omega)
 have e:m2*gB y=2*(m*gB y):=by rw[h,Int.mul_assoc]
 unfold gA
 rw[e]
 have h1:=Int.emod_nonneg x (show 2*(m*gB y)+1≠0 by omega)
 have h2:=Int.emod_lt_of_pos x (show 0<2*(m*gB y)+1 by omega)
 omega
theorem se (x y:Int): -60*gB y<=gA 60 120 x y/\gA 60 120 x y<=60*gB y:=by
 have:=Fj (m:=60) (m2:=120) (x:=x) (y:=y) (by omega) (by omega);omega
theorem qW (x y:Int): -180*gB y<=gA 180 360 x y/\gA 180 360 x y<=180*gB y:=by
 have:=Fj (m:=180) (m2:=360) (x:=x) (y:=y) (by omega) (by omega);omega
theorem GE {k n:Int} (h:0<n):(if 0<=(if 0<=k then k%n else -(-k%n))+n then((if 0<=k then k%n else -(-k%n))+n)%n else -(-((if 0<=k then k%n else -(-k%n))+n)%n))=k%n:=by
 have a:=qq (k:=k) h
 rw[if_pos (by omega),Int.add_emod_right]
 split
 ·exact Int.emod_emod_of_dvd k (Int.dvd_refl n)
 ·have e:=Int.emod_add_mul_ediv (-k) n
  have e2: -(-k%n)=k+n*(-k/n):=by omega
  rw[e2,Int.add_mul_emod_self_left]
theorem tL {k n:Int} (h:0<n) (h2:n<=1000000000): -9223372036854775808<=(if 0<=k then k%n else -(-k%n))+n/\(if 0<=k then k%n else -(-k%n))+n<=9223372036854775807:=by
 have a:=qq (k:=k) h;omega
def wiB (m n d:Int):Bool:=decide (1<=d/\d<=3600/\ -m*d<=n/\n<=m*d)
def plE (a b c d:Int):Int:=if wiB 60 a b=true/\wiB 180 c d=true then 0 else 2
theorem EL {x c b:Rat} (hc:0<c) (h:x<=b*c):x/c<=b:=Rat.not_lt.1 fun q=>by rw[Rat.lt_div_iff hc] at q;grind
theorem FC {x c b:Rat} (hc:0<c) (h:b*c<=x):b<=x/c:=Rat.not_lt.1 fun q=>by rw[Rat.div_lt_iff hc] at q;grind
theorem J9 {a b:Int} (h:1<=b) (h0: -60*b<=a) (h1:a<=60*b): -60<=((a:Int):Rat)/((b:Int):Rat)/\((a:Int):Rat)/((b:Int):Rat)<=60:=by
 have p:(0:Rat)<((b:Int):Rat):=Rat.intCast_pos.2 (by omega)
 have a0:((-60*b:Int):Rat)<=((a:Int):Rat):=Rat.intCast_le_intCast.2 h0
 have a1:((a:Int):Rat)<=((60*b:Int):Rat):=Rat.intCast_le_intCast.2 h1
 rw[Rat.intCast_mul] at a0 a1
 rw[show((-60:Int):Rat)= -60 from rfl] at a0
 rw[show((60:Int):Rat)=60 from rfl] at a1
 exact⟨FC p (by grind),EL p (by grind)⟩
theorem Ih {a b:Int} (h:1<=b) (h0: -180*b<=a) (h1:a<=180*b): -180<=((a:Int):Rat)/((b:Int):Rat)/\((a:Int):Rat)/((b:Int):Rat)<=180:=by
 have p:(0:Rat)<((b:Int):Rat):=Rat.intCast_pos.2 (by omega)
 have a0:((-180*b:Int):Rat)<=((a:Int):Rat):=Rat.intCast_le_intCast.2 h0
 have a1:((a:Int):Rat)<=((180*b:Int):Rat):=Rat.intCast_le_intCast.2 h1
 rw[Rat.intCast_mul] at a0 a1
 rw[show((-180:Int):Rat)= -180 from rfl] at a0
 rw[show((180:Int):Rat)=180 from rfl] at a1
 exact⟨FC p (by grind),EL p (by grind)⟩
structure cS (a b c d:Int):Prop where
 b0:1<=b
 b1:b<=3600
 a0: -60*b<=a
 a1:a<=60*b
 d0:1<=d
 d1:d<=3600
 c0: -180*d<=c
 c1:c<=180*d
theorem xD (x y u v:Int):cS (gA 60 120 x y) (gB y) (gA 180 360 u v) (gB v):=⟨(mv y).1,(mv y).2,(se x y).1,(se x y).2,(mv v).1,(mv v).2,(qW u v).1,(qW u v).2⟩
theorem cS.la {a b c d:Int} (h:cS a b c d): -60<=((a:Int):Rat)/((b:Int):Rat)/\((a:Int):Rat)/((b:Int):Rat)<=60:=J9 h.b0 h.a0 h.a1
theorem cS.lo {a b c d:Int} (h:cS a b c d): -180<=((c:Int):Rat)/((d:Int):Rat)/\((c:Int):Rat)/((d:Int):Rat)<=180:=Ih h.d0 h.c0 h.c1
theorem Ek {a:Act} {x0 x1 x2 x3:Operand} {u0 u1 u2 u3:Value} (h0:a.eval x0=u0) (h1:a.eval x1=u1) (h2:a.eval x2=u2) (h3:a.eval x3=u3):#[x0,x1,x2,x3].map a.eval=#[u0,u1,u2,u3]:=by simp[h0,h1,h2,h3]
theorem lF {n d:Int} (h0: -9223372036854775808<=n) (h1:n<=9223372036854775807) (g0: -9223372036854775808<=d) (g1:d<=9223372036854775807):ah (((n:Int):Rat)/((d:Int):Rat)) 2:=(ft (bV h0 h1) (bV g0 g1)).up 2 (by decide)
theorem Ga (w:World):
 CV 90 #[] w (.agg #[iv 463,iv 20,iv 45461,iv 600]):=by
 refine gs0 (nt:=2) Tryz.func90 rfl rfl fun a st hF=>wq<|S.alloc st hF cB rfl rfl fun g0 w1 a st hF=>nq<|oV hF (aM (l7 ao ao ao ao) (oP _ _ _ _ _)) rfl fun a hF=>S.stoI st hF 0 rfl hF.p hF.o cB rfl rfl rfl fun w2 a st hF=>nr<|rs Tryz.results90 st hF 1 0 cB rfl rfl rfl ?_
 exact⟨rfl,st.bel⟩
theorem td (xa xb xc xd:Int) (w:World) (hxa0: -9223372036854775808<=xa) (hxa1:xa<=9223372036854775807) (hxb0: -9223372036854775808<=xb) (hxb1:xb<=9223372036854775807):
 CQ 268 #[.agg #[iv xa,iv xb,iv xc,iv xd]] w (((xa:Int):Rat)/((xb:Int):Rat)):=by
 refine gs1 (nt:=8) Tryz.func268 rfl rfl rfl fun a st hF=>wq<|bx st hF 0 rfl rfl fun g1 w1 a st hF=>S.alloc st hF aa rfl rfl fun g2 w2 a st hF=>nq<|oV hF (av hF.p (pW (p:=0) rfl)) rfl fun a hF=>oV hF (ar hF.o (cY (v:= iv xa) (st.bk 1 rfl) rfl)) rfl fun a hF=>oV hF (av (hF.at 3 rfl) (pX (p:=1) rfl)) rfl fun a hF=>oV hF (ar hF.o (cY (v:= iv xb) (st.bk 1 rfl) rfl)) rfl fun a hF=>?_
 refine ca st hF (rk Ib (aB hF.q hF.o)) (j4 (xa) (xb) _ hxa0 hxa1 hxb0 hxb1) (fun _ _ h=>h) Rq.cl rfl fun vv4 w3 a st hF=>?_
 obtain⟨r6,rfl⟩:=Rq.fo (st.f 0 rfl)
 refine so st hF 0 5 0 aa rfl rfl rfl rfl fun w7 a st hF=>nr<|rs Tryz.results268 st hF 5 0 aa rfl rfl rfl ?_
 exact⟨_,rfl,(st.f 0 rfl),st.bel⟩
theorem lC (xa xb xc xd:Int) (w:World) (hxc0: -9223372036854775808<=xc) (hxc1:xc<=9223372036854775807) (hxd0: -9223372036854775808<=xd) (hxd1:xd<=9223372036854775807):
 CQ 228 #[.agg #[iv xa,iv xb,iv xc,iv xd]] w (((xc:Int):Rat)/((xd:Int):Rat)):=by
 refine gs1 (nt:=8) Tryz.func228 rfl rfl rfl fun a st hF=>wq<|bx st hF 0 rfl rfl fun g1 w1 a st hF=>S.alloc st hF aa rfl rfl fun g2 w2 a st hF=>nq<|oV hF (av hF.p (pH (p:=2) rfl)) rfl fun a hF=>oV hF (ar hF.o (cY (v:= iv xc) (st.bk 1 rfl) rfl)) rfl fun a hF=>oV hF (av (hF.at 3 rfl) (pt (p:=3) rfl)) rfl fun a hF=>oV hF (ar hF.o (cY (v:= iv xd) (st.bk 1 rfl) rfl)) rfl fun a hF=>?_
 refine ca st hF (rk Ib (aB hF.q hF.o)) (j4 (xc) (xd) _ hxc0 hxc1 hxd0 hxd1) (fun _ _ h=>h) Rq.cl rfl fun vv4 w3 a st hF=>?_
 obtain⟨r6,rfl⟩:=Rq.fo (st.f 0 rfl)
 refine so st hF 0 5 0 aa rfl rfl rfl rfl fun w7 a st hF=>nr<|rs Tryz.results228 st hF 5 0 aa rfl rfl rfl ?_
 exact⟨_,rfl,(st.f 0 rfl),st.bel⟩
theorem ml (k n:Int) (w:World) (hn:0<n) (hn2:n<=1000000000):
 CV 117 #[iv k,iv n] w (iv (k%n)):=by
 refine gs2 (nt:=12) Tryz.func117 rfl rfl rfl fun a st hF=>wq ?_
 refine oC hF rfl fun a hF=>nq<|oM hF 1 rfl rfl fun a hF=>oM hF 3 rfl rfl fun a hF=>oV hF (au hF.p hF.o ag (eg (a:=k) (b:=n) hn)) rfl fun a hF=>oM hF 5 rfl rfl fun a hF=>oV hF (au hF.p hF.o ag (a9 (tL hn hn2).1 (tL hn hn2).2)) rfl fun a hF=>oM hF 7 rfl rfl fun a hF=>oV hF (au hF.p hF.o ag (eg (a:=(if 0<=k then k%n else -(-k%n))+n) (b:=n) hn)) rfl fun a hF=>?_
 refine oE hF 0 rfl rfl fun a hF=>nr ?_
 have bel:=st.bel
 refine rt Tryz.results117 hF 0 rfl ?_
 exact⟨bq (GE hn),bel⟩
theorem CL (x y u v:Int) (w:World):
 CV 53 #[iv x,iv y,iv u,iv v] w (.agg #[iv (gA 60 120 x y),iv (gB y),iv (gA 180 360 u v),iv (gB v)]):=by
 have st:=St.start w
 refine E.enter (nt:=36) (L:=[(0,iv x),(1,iv y),(2,iv u),(3,iv v)]) Tryz.func53 rfl rfl rfl (bn (i:=0) rfl (bn (i:=1) rfl (bn (i:=2) rfl (bn (i:=3) rfl fe)))) ?_
 intro a hF
 refine wq<|S.alloc st hF cB rfl rfl fun g8 w1 a st hF=>nq<|oM hF 2 rfl rfl fun a hF=>cX st hF (rk tA (aB hF.o ao)) (ml y 3600 _ (by omega) (by omega)) rfl fun w2 a st hF=>?_
 have hib3142:=jP (k:=y) (n:=3600) (by omega)
 refine oV hF (au ao hF.o ag (a9 (by omega) (by omega))) rfl fun a hF=>oM hF 7 rfl rfl fun a hF=>cX st hF (rk tA (aB hF.o ao)) (ml v 3600 _ (by omega) (by omega)) rfl fun w3 a st hF=>?_
 have hib446:=jP (k:=v) (n:=3600) (by omega)
 refine oV hF (au ao hF.o ag (a9 (by omega) (by omega))) rfl fun a hF=>oA hF 3 rfl rfl fun a hF=>oA hF 1 rfl rfl fun a hF=>nq<|oM hF 9 rfl rfl fun a hF=>oM hF 2 rfl rfl fun a hF=>oV hF (au ao hF.o ag (fw (by omega) (by omega))) rfl fun a hF=>oV hF (au hF.o ao ag (a9 (by omega) (by omega))) rfl fun a hF=>cX st hF (rk tA (aB (hF.at 3 rfl) hF.o)) (ml x ((120*(1+(y%3600)))+1) _ (by omega) (by omega)) rfl fun w4 a st hF=>?_
 have hib545:=jP (k:=x) (n:=(120*(1+(y%3600)))+1) (by omega)
 refine oM hF 6 rfl rfl fun a hF=>oV hF (au ao hF.o ag (fw (by omega) (by omega))) rfl fun a hF=>oV hF (au hF.q hF.o ag (cw (by omega) (by omega))) rfl fun a hF=>oM hF 9 rfl rfl fun a hF=>oM hF 20 rfl rfl fun a hF=>oM hF 10 rfl rfl fun a hF=>oV hF (au ao hF.o ag (fw (by omega) (by omega))) rfl fun a hF=>oV hF (au hF.o ao ag (a9 (by omega) (by omega))) rfl fun a hF=>cX st hF (rk tA (aB (hF.at 3 rfl) hF.o)) (ml u ((360*(1+(v%3600)))+1) _ (by omega) (by omega)) rfl fun w5 a st hF=>?_
 have hib8212:=jP (k:=u) (n:=(360*(1+(v%3600)))+1) (by omega)
 refine oM hF 14 rfl rfl fun a hF=>oV hF (au ao hF.o ag (fw (by omega) (by omega))) rfl fun a hF=>oV hF (au hF.q hF.o ag (cw (by omega) (by omega))) rfl fun a hF=>oM hF 17 rfl rfl fun a hF=>oV hF (aM (l7 (hF.at 10 rfl) (hF.at 9 rfl) hF.p hF.o) (oP _ _ _ _ _)) rfl fun a hF=>S.stoI st hF 0 rfl (hF.at 27 rfl) hF.o cB rfl rfl rfl fun w6 a st hF=>nr<|rs Tryz.results53 st hF 27 0 cB rfl rfl rfl ?_
 exact⟨rfl,st.bel⟩
theorem sG {x:Rat} {k:Nat} (h:ah x k):ah (bi x) (k+10):=by
 have a:=aL h (dG (n:=1048576) (by decide) (by decide))
 have f:=ce (f9 a) (by omega)
 exact(aL f (cW (n:=1) (d:=1048576) (by decide) (by decide))).up _ (by omega)
theorem pO {t:Rat} {k:Nat} (h:ah t k):ah (eJ t) (2*k+60):=by
 have y:ah (iy t) (k+6):=(bH (aL (bH h (mK (n:= -1132959) (by decide))) (cW (n:=600) (d:=1577917828) (by decide) (by decide))) (cW (n:=1) (d:=4) (by decide) (by decide))).up _ (by omega)
 have x:=nj y (cW (n:= -1) (d:=2) (by decide) (by decide)) (cW (n:=1) (d:=2) (by decide) (by decide))
 exact(bH (mK (n:=27) (by decide)) (aL (mK (n:=108) (by decide)) (fp x))).up _ (by omega)
theorem mw {t:Rat} {k:Nat} (h:ah t k):ah (bC t) (5*k+180):=(du (bH (fh h) (pO h))).up _ (by omega)
def yF (a:Rat):Rat:=((14:Int):Rat)/((360:Int):Rat)-a.abs*(((1:Int):Rat)/((1080:Int):Rat))
def rL (x:Rat):Rat:=((360:Int):Rat)/pyr*(((1:Int):Rat)-((ki x:Int):Rat)/((225:Int):Rat)*yF (sof x))
def uD (x:Rat):Rat:=rL x*(((1:Int):Rat)/((360:Int):Rat))*(sof x*(((573:Int):Rat)/((10:Int):Rat))*yF (sof x)*(((1:Int):Rat)/((360:Int):Rat)))*pyr
def ul (x:Rat):Rat:=((fQ (prt x 12):Int):Rat)/((1800:Int):Rat)
def hQ (x:Rat):Rat:=obl*sof x
def mh (x lat:Rat):Rat:=a7 (-(hQ x*sof lat/sof (lat+((90:Int):Rat))/dz (hQ x)))
theorem B4 {x:Rat} {k:Nat} (h:ah x k):ah (hQ x) (k+13):=(aL (cW (n:=1397) (d:=3438) (by decide) (by decide)) (eh h)).up _ (by omega)
theorem s3 {x lat:Rat} {k j:Nat} (h:ah x k) (hl:ah lat j) (hj:j<=2):ah (mh x lat) (2*k+140):=by
 have n90:ah ((90:Int):Rat) 1:=mK (by decide)
 have c:ah (dz (hQ x)) (k+50):=(eh (a6 (kg (B4 h)) n90)).up _ (by omega)
 have e:=cU (aL (B4 h) (eh hl)) (eh (a6 hl n90))
 exact(kg (eF (cU e c))).up _ (by omega)
theorem lY {a:Rat} {k:Nat} (h:ah a k):ah (yF a) (k+3):=(bH (cW (n:=14) (d:=360) (by decide) (by decide)) (aL (fp h) (cW (n:=1) (d:=1080) (by decide) (by decide)))).up _ (by omega)
theorem mG {x:Rat} {k:Nat} (h:ah x k):ah (rL x) (k+40):=by
 have s:=gH (pk x)
 have st:ah (((ki x:Int):Rat)/((225:Int):Rat)) 1:=cW (by unfold ki;omega) (by decide)
 exact(aL sT (bH (mK (n:=1) (by decide)) (aL st (lY (eh h))))).up _ (by omega)
theorem uz {x:Rat} {k:Nat} (h:ah x k):ah (uD x) (3*k+100):=by
 have o:ah (((1:Int):Rat)/((360:Int):Rat)) 1:=cW (by decide) (by decide)
 exact(aL (aL (aL (mG h) o) (aL (aL (aL (eh h) (cW (n:=573) (d:=10) (by decide) (by decide))) (lY (eh h))) o)) uf).up _ (by omega)
theorem vL (x:Rat):ah (ul x) 1:=cW (by unfold fQ;split <;> (try split) <;> decide) (by decide)
theorem xv {t:Rat} {k:Nat} (h:ah t k):ah (dW t) (k+50):=(mG (iI h iM)).up _ (by omega)
theorem F0 {t:Rat} {k:Nat} (h:ah t k):ah (fO t) (3*k+130):=(uz (iI h iM)).up _ (by omega)
theorem Du {t lat:Rat} {k j:Nat} (h:ah t k) (hl:ah lat j) (hj:j<=2):ah (eK t lat) (10*k+520):=(s3 (mw h) hl hj).up _ (by omega)
theorem IK {x:Rat} (h0:0<=x) (h1:x<((360:Int):Rat)):gf (Rat.floor (x*(((1:Int):Rat)/((30:Int):Rat))))=prt x 12/\gC (Rat.floor (x*(((1:Int):Rat)/((30:Int):Rat))))=true:=by
 have e:Rat.floor (x*(((1:Int):Rat)/((30:Int):Rat)))=prt x 12:=by
  unfold prt
  rw[show((1:Int):Rat)/((30:Int):Rat)=((12:Int):Rat)/((360:Int):Rat) by decide+kernel]
 have b:=cr (x:=x) (n:=12) (by omega) h0 h1
 rw[e]
 exact⟨vu (by omega) (by omega),xh (by omega) (by omega)⟩
theorem H4 {k:Int}:([1670,1795,1935,1935,1795,1670].map fun z=>Value.int .i64 z)[(k%6).toNat]?=some (iv (fQ k)):=by
 have h:k%6=0\/k%6=1\/k%6=2\/k%6=3\/k%6=4\/k%6=5:=by omega
 unfold fQ
 rcases h with h|h|h|h|h|h <;> rw[h] <;> rfl
theorem nU (k:Int):1670<=fQ k/\fQ k<=1935:=by unfold fQ;split <;> (try split) <;> omega
theorem cS.ll {a b c d:Int} (h:cS a b c d):ah (((a:Int):Rat)/((b:Int):Rat)) 1:=cW (by have:=h.b0;have:=h.b1;have:=h.a0;have:=h.a1;omega) (by have:=h.b0;have:=h.b1;omega)
theorem cS.lm {a b c d:Int} (h:cS a b c d):ah (((c:Int):Rat)/((d:Int):Rat)) 1:=cW (by have:=h.d0;have:=h.d1;have:=h.c0;have:=h.c1;omega) (by have:=h.d0;have:=h.d1;omega)
def cT (n a b c d:Int):Rat:=cm ((n:Int):Rat) (((a:Int):Rat)/((b:Int):Rat)) (((c:Int):Rat)/((d:Int):Rat)) 1 1
def jw (n a b c d:Int):Rat:=cm ((n:Int):Rat) (((a:Int):Rat)/((b:Int):Rat)) (((c:Int):Rat)/((d:Int):Rat)) 3 (-1)
theorem ru {n a b c d:Int} (h:cS a b c d) (h0: -4000000<=n) (h1:n<=4000000):ah (cT n a b c d) 90:=s4 (by omega) h.ll h.lm h.la.1 h.la.2 (by decide) (by decide)
theorem rU {n a b c d:Int} (h:cS a b c d) (h0: -4000000<=n) (h1:n<=4000000):ah (jw n a b c d) 90:=s4 (by omega) h.ll h.lm h.la.1 h.la.2 (by decide) (by decide)
theorem BW {m q dg sg:Rat} (m0:87/100<=m) (m1:m<=111/100) (d0: -53<=dg) (d1:dg<=53) (hq:q=1/4\/q=3/4) (hs:sg=1\/sg= -1): -1<=(m*q+sg*dg)*kap/\(m*q+sg*dg)*kap<=1:=by
 have k:=mR
 have y: -55<=m*q+sg*dg/\m*q+sg*dg<=55:=by
  rcases hq with rfl|rfl <;> rcases hs with rfl|rfl <;> constructor <;> grind
 have b:=eE (a:=55) (b:=1/100) (x:=m*q+sg*dg) (y:=kap) (by grind) (by grind) y.1 y.2 (by grind) (by grind)
 constructor <;> grind
theorem Bz {n a b c d:Int} (h:cS a b c d):((n:Int):Rat)-3<=cT n a b c d/\cT n a b c d<=((n:Int):Rat)+3:=by
 have s:=gM ((n:Int):Rat)
 have f:=k7 ((n:Int):Rat) h.la.1 h.la.2
 have e:=nM ((n:Int):Rat)
 have l:=h.lo
 have k:=BW (q:=((1:Int):Rat)/((4:Int):Rat)) (sg:=((1:Int):Rat)) s.1 s.2 f.1 f.2 (.inl (by decide+kernel)) (.inl rfl)
 unfold cT cm kL
 rw[show((45461:Int):Rat)/((600:Int):Rat)=45461/600 by decide+kernel,show((1:Int):Rat)/((360:Int):Rat)=1/360 by decide+kernel]
 have q:((1:Int):Rat)/((4:Int):Rat)=1/4:=by decide+kernel
 rw[q] at k ⊢
 constructor <;> grind
theorem BX {n a b c d:Int} (h:cS a b c d):((n:Int):Rat)-3<=jw n a b c d/\jw n a b c d<=((n:Int):Rat)+3:=by
 have s:=gM ((n:Int):Rat)
 have f:=k7 ((n:Int):Rat) h.la.1 h.la.2
 have e:=nM ((n:Int):Rat)
 have l:=h.lo
 have k:=BW (q:=((3:Int):Rat)/((4:Int):Rat)) (sg:=((-1:Int):Rat)) s.1 s.2 f.1 f.2 (.inr (by decide+kernel)) (.inr rfl)
 unfold jw cm kL
 rw[show((45461:Int):Rat)/((600:Int):Rat)=45461/600 by decide+kernel,show((1:Int):Rat)/((360:Int):Rat)=1/360 by decide+kernel]
 have q:((3:Int):Rat)/((4:Int):Rat)=3/4:=by decide+kernel
 rw[q] at k ⊢
 constructor <;> grind
theorem qF {x:Rat} {n:Int} (h0: -4000000<=n) (h1:n<=4000000) (a:((n:Int):Rat)-3<=x) (b:x<=((n:Int):Rat)+3):ah (bi x) 3:=by
 have c0:=cf h0
 have c1:=cf h1
 rw[show((-4000000:Int):Rat)= -4000000 from rfl] at c0
 rw[show((4000000:Int):Rat)=4000000 from rfl] at c1
 have e:((1048576:Int):Rat)=1048576:=rfl
 have f0: -5000000000000<=(x*((1048576:Int):Rat)).floor :=Rat.le_floor_iff.2 (by rw[e,show((-5000000000000:Int):Rat)= -5000000000000 from rfl];grind)
 have f1:(x*((1048576:Int):Rat)).floor <5000000000000:=Rat.floor_lt_iff.2 (by rw[e,show((5000000000000:Int):Rat)=5000000000000 from rfl];grind)
 exact(aL (dG (n:=(x*((1048576:Int):Rat)).floor) (by omega) (by omega)) (cW (n:=1) (d:=1048576) (by decide) (by decide))).up _ (by omega)
theorem gZ {n a b c d:Int} (h:cS a b c d) (h0: -4000000<=n) (h1:n<=4000000):ah (bi (cT n a b c d)) 3:=qF h0 h1 (Bz h).1 (Bz h).2
theorem l9 {n a b c d:Int} (h:cS a b c d) (h0: -4000000<=n) (h1:n<=4000000):ah (bi (jw n a b c d)) 3:=qF h0 h1 (BX h).1 (BX h).2
theorem C3 (x lat:Rat):a7 (-(sof x*(((1397:Int):Rat)/((3438:Int):Rat))*sof lat/sof (lat+((90:Int):Rat)))/sof (a7 (sof x*(((1397:Int):Rat)/((3438:Int):Rat)))+((90:Int):Rat)))=mh x lat:=by
 unfold mh dz hQ obl
 rw[Rat.mul_comm (sof x),Rat.div_def (-_),Rat.neg_mul,<-Rat.div_def]
theorem Eg (t lat lon:Rat) (qd sg:Int) (z:Rat) (hz:z=((1577917828:Int):Rat)/((1582237828:Int):Rat)*(((1:Int):Rat)/((360:Int):Rat))*(((qd:Int):Rat)/((4:Int):Rat)*dW t*fT t+eK t lat*((sg:Int):Rat))):
 t+((qd:Int):Rat)/((4:Int):Rat)+(((45461:Int):Rat)/((600:Int):Rat)-lon)*(((1:Int):Rat)/((360:Int):Rat))+ -(fO t)+z=cm t lat lon qd sg:=by
 subst hz
 unfold cm kL kap
 grind
end Go.Proofs.YtgdpkknapcgcbaaGreatDoor
