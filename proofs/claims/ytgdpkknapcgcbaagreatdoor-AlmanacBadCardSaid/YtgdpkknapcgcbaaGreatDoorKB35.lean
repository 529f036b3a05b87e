import Derived.Test.YtgdpkknapcgcbaaGreatDoorKB34
import Derived.Laws.StructEq
namespace Go.Proofs.YtgdpkknapcgcbaaGreatDoor
open Go.RowKit
set_option maxRecDepth 100000
set_option linter.unusedVariables false
set_option maxHeartbeats 8000000
theorem qn {c:Int} (h0:0<=c) (h1:c<=4) {a b:Rat} (h:a<=b):kS c a<=kS c b:=by
 have r:=(po h0 h1 a (d:=b-a) (by grind)).1
 rw[show a+(b-a)=b by grind] at r
 unfold kS
 exact Rat.le_floor_iff.2 (Rat.le_trans (dF _) (by grind))
theorem A9 {k n:Int} (h0:0<=k) (h1:k<=n) (hn:0<n):0<=((k:Int):Rat)/((n:Int):Rat)/\((k:Int):Rat)/((n:Int):Rat)<=1:=by
 have a:0<=((k:Int):Rat):=Rat.intCast_nonneg.2 h0
 have b:((k:Int):Rat)<=((n:Int):Rat):=Rat.intCast_le_intCast.2 h1
 have c:0<((n:Int):Rat):=Rat.intCast_pos.2 hn
 have d:0<((n:Int):Rat)⁻¹ :=Rat.inv_pos.2 c
 have e:((n:Int):Rat)*((n:Int):Rat)⁻¹ =1:=Rat.mul_inv_cancel _ (by grind)
 rw[Rat.div_def]
 generalize ((n:Int):Rat)⁻¹ =y at*
 generalize ((n:Int):Rat)=x at*
 generalize ((k:Int):Rat)=z at*
 refine⟨Rat.mul_nonneg a (Rat.le_of_lt d),?_⟩
 have:=Rat.mul_le_mul_of_nonneg_right b (Rat.le_of_lt d)
 grind
theorem Dk {lo hi:Rat} (h:lo<=hi) {k n:Int} (h0:0<=k) (h1:k<=n) (hn:0<n):lo<=atR lo hi k n/\atR lo hi k n<=hi:=by
 have f:=A9 h0 h1 hn
 unfold atR
 generalize ((k:Int):Rat)/((n:Int):Rat)=y at*
 have g:0<=hi-lo:=by grind
 have a:=Rat.mul_nonneg g f.1
 have b:=Rat.mul_le_mul_of_nonneg_left f.2 g
 constructor <;> grind
theorem C4 (p:Rat->Bool) {lo hi:Rat} (h:lo<=hi) (n:Nat):lo<=hlo p lo hi n/\hlo p lo hi n<=hi:=Dk h (gZ p lo hi n).1 (by have:=gZ p lo hi n;omega) (jC n)
theorem Dh (c:Int):0<kQ c:=by unfold kQ;split <;> decide+kernel
theorem D6 {c:Int} {t:Rat} {i:Int} (h:0<=i):t<=pcs c t i:=by
 rw[jO]
 have:=Rat.mul_nonneg (Rat.intCast_nonneg.2 h) (AK c).1
 grind
theorem oH (c:Int) (t:Rat):elo c t<=cC c t/\cC c t<=elo c t+kQ c:=by
 have h:=C4 (gD c (kI c t)) (lo:=elo c t) (hi:=ehi c t) (by rw[jR];have:=Dh c;grind) 21
 rw[jR] at h
 unfold cC
 rw[jR]
 exact h
theorem oK (c:Int) (t:Rat):t<=cC c t:=Rat.le_trans (D6 (Int.natCast_nonneg _)) (oH c t).1
theorem vS {c:Int} (h0:0<=c) (h1:c<=4) (t:Rat):kS c (cC c t)=kS c t:=by
 have i:=oH c t
 have p:=vg h0 h1 t
 have f:=nW h0 h1 t
 have g:=rq.1 (AP h0 h1 t)
 rw[<-p]
 have s:=tf h0 h1 (elo c t) (d:=cC c t-elo c t) (by grind) (by grind)
 rw[show elo c t+(cC c t-elo c t)=cC c t by grind] at s
 exact s (by rw[f,g])
theorem kr (c:Int) (t:Rat):bZ c t=cC c t+kQ c*(1/2097152):=by have:=A0 c t;grind
theorem qB (c:Int):0<=kQ c*(1/2097152)/\kQ c*(1/2097152)<=kQ c/\kQ c*(1/2097152)<1/1048576:=by
 unfold kQ
 split
 ·exact⟨by decide+kernel,by decide+kernel,by decide+kernel⟩
 ·exact⟨by decide+kernel,by decide+kernel,by decide+kernel⟩
theorem nM {c:Int} (h0:0<=c) (h1:c<=4) (t:Rat):kS c (bZ c t)=kS c t+1:=by
 have q:=qB c
 have e:=BX h0 h1 (cC c t) q.1 q.2.1 (by rw[<-kr,nW h0 h1];exact DF h0 h1 t)
 rw[<-kr,vS h0 h1] at e
 exact e
theorem Eh {c:Int} (h0:0<=c) (h1:c<=4) (t:Rat):kI c (bZ c t)=(kI c t+1)%kN c:=by
 rw[dc h0 h1,dc h0 h1,nM h0 h1]
 exact(Int.emod_add_emod _ _ _).symm
theorem q8 (c:Int) (t:Rat):bZ c t-cC c t<1/1048576:=by have:=kr c t;have:=qB c;grind
theorem wO (c:Int) (t:Rat):((bH c t:Nat):Int)<=33:=by
 by_cases h:0<=c/\c<=4
 ·have:=(dE h.1 h.2 t).1
  have:=vB c
  omega
 ·unfold bH;rw[dif_neg h];decide
theorem zT {c:Int} {t:Rat} {k:Nat} (h:ag t k):ag (bZ c t) (3*k+17):=by
 have b:=wO c t
 exact(un (p:=gD c (kI c t)) (iw (c:=c) h (i:=((bH c t:Nat):Int)) (by omega) (by omega)) (iw (c:=c) h (i:=((bH c t:Nat):Int)+1) (by omega) (by omega)) (n:=21) (by decide)).up _ (by omega)
theorem Fj:(2:Int)^21=2097152:=by decide+kernel
theorem vV (c:Int) (t:Rat):bZ c t-cC c t<((1:Int):Rat)/((1048576:Int):Rat):=by rw[show((1:Int):Rat)/((1048576:Int):Rat)=1/1048576 by decide+kernel];exact q8 c t
theorem kt {a b:Rat}:0<qc a b↔b<a:=by
 rw[sw]
 split
 ·exact⟨fun h=>absurd h (by decide),fun h=>by grind⟩
 ·split
  ·exact⟨fun _=>by assumption,fun _=>by decide⟩
  ·exact⟨fun h=>absurd h (by decide),fun h=>by contradiction⟩
def tiV (t:Rat):Int:=(phU t*(1/12)).floor
theorem E9 (t:Rat):12*((tiV t:Int):Rat)<=phU t/\phU t<12*((tiV t:Int):Rat)+12:=by
 have a:=dF (phU t*(1/12))
 have b:=ec (phU t*(1/12))
 unfold tiV
 constructor <;> grind
theorem ER {t:Rat} {k:Int} (h:12*((k:Int):Rat)<=phU t):k<=tiV t:=Rat.le_floor_iff.2 (by grind)
theorem Eu {t:Rat} {k:Int} (h:phU t<12*((k:Int):Rat)):tiV t<k:=Rat.floor_lt_iff.2 (by grind)
theorem DP (t:Rat):prt (bM t) 30=tiV t%30:=by
 rw[kO,gf (by decide),show((30:Int):Rat)/((360:Int):Rat)=1/12 by decide+kernel]
 rfl
theorem D1 {t u:Rat} (h:t<=u):1098/100*(u-t)<=phU u-phU t/\phU u-phU t<=134/10*(u-t):=by
 have:=iy t (d:=u-t) (by grind)
 rwa[show t+(u-t)=u by grind] at this
theorem BJ {lat:Rat} (lon:Rat) (h0: -60<=lat) (h1:lat<=60) (n:Int):tiV (riV lat lon n)<=tiV (riV lat lon (n+1))/\tiV (riV lat lon (n+1))<=tiV (riV lat lon n)+2:=by
 have s:=ux lon h0 h1 n
 have p:=D1 (t:=riV lat lon n) (u:=riV lat lon (n+1)) (by grind)
 have b:=E9 (riV lat lon n)
 refine⟨ER (by grind),?_⟩
 have:=Eu (t:=riV lat lon (n+1)) (k:=tiV (riV lat lon n)+3) (by rw[Rat.intCast_add,show((3:Int):Rat)=3 from rfl];grind)
 omega
theorem Ci {lat lon:Rat} (h0: -60<=lat) (h1:lat<=60) (l0: -180<=lon) (l1:lon<=180) (n:Int):((n:Int):Rat)-301/1000<=riV lat lon n/\riV lat lon n<=((n:Int):Rat)+17/10:=by
 have b:=xk ((n:Int):Rat) (qd:=1) (sg:=1) (.inl ⟨rfl,rfl⟩) h0 h1 l0 l1
 have g:=kd (b8 ((n:Int):Rat) lat lon 1 1)
 unfold riV
 constructor <;> grind
def amX (n a b c d:Int):Int:=tiV (aU (cr n a b c d))
noncomputable def amL (n a b c d:Int):Int:=E3 (aU (cr n a b c d))
theorem EJ (n a b c d:Int):aU (cr n a b c d)=riV (((a:Int):Rat)/((b:Int):Rat)) (((c:Int):Rat)/((d:Int):Rat)) n:=rfl
theorem B2 {a b c d:Int} (h:co a b c d) (n:Int):amX n a b c d<=amX (n+1) a b c d/\amX (n+1) a b c d<=amX n a b c d+2:=BJ _ h.la.1 h.la.2 n
theorem E5 {a b c d:Int} (h:co a b c d) (n:Int):n-1<=(aU (cr n a b c d)).floor /\(aU (cr n a b c d)).floor <=n+2:=by
 have r:=Ci h.la.1 h.la.2 h.lo.1 h.lo.2 n
 rw[EJ]
 generalize riV (((a:Int):Rat)/((b:Int):Rat)) (((c:Int):Rat)/((d:Int):Rat)) n=x at*
 have l:n-1<=x.floor:=Rat.le_floor_iff.2 (by rw[Rat.intCast_sub,Rat.intCast_one];grind)
 have g:x.floor<n+2:=Rat.floor_lt_iff.2 (by rw[Rat.intCast_add,show((2:Int):Rat)=2 from rfl];grind)
 omega
theorem zd (v1:Value) (qt:Rat) (k:Nat) (w:World) (hT:a6 w) (h1:Rq w v1 qt) (hl:ag qt k) (hk:k<=100):CV 80 #[v1] w (iv (tiV qt%30+1)):=by
 rw[<-DP]
 exact nS v1 qt k w hT h1 hl hk
theorem mu (n xa xb xc xd X:Int) (w:World) (hT:a6 w) (hok:co xa xb xc xd) (hn0: -3850000<=n) (hn1:n<=3850000) (hX:amX n xa xb xc xd=X):
 CV 32 #[iv n,.agg #[iv xa,iv xb,iv xc,iv xd]] w (iv (X%30+1)):=by
 refine gs2 (nt:=9) Tryz.func32 rfl rfl rfl fun a st hF=>wq<|bx st hF 1 rfl rfl fun g3 w1 a st hF=>?_
 refine oC hF rfl fun a hF=>nq<|oM hF 2 rfl rfl fun a hF=>oL hF st 2 0 bj rfl rfl rfl rfl fun a hF=>S.ck st hF (rgc k55 (aA hF.p hF.o)) (aw (kT n xa xb xc xd _ (hT.below st.bel) (by first|assumption|constructor<;>omega) (by omega) (by omega)) (kz (by first|assumption|constructor<;>omega) (by omega) (by omega))) Rl.cl rfl fun vv3 w2 a st hF=>?_
 obtain⟨r5,rfl⟩:=Rq.fo (st.f 0 rfl).1
 refine cX st hF (rgc k80 (aB hF.o)) (zd _ _ 3 _ (hT.below st.bel) (st.f 0 rfl).1 (st.f 0 rfl).2 (by omega)) rfl fun w6 a st hF=>?_
 refine oE hF 0 rfl rfl fun a hF=>nr ?_
 have bel:=st.bel
 refine rt Tryz.results32 hF 0 rfl ?_
 refine⟨bS ?_,bel⟩
 rw[<-hX]
 rfl
def kG (c:Int):Rat:=kQ c*(1/2097152)
theorem xy (c:Int):0<kG c:=by unfold kG kQ;split <;> decide+kernel
def Gr (c:Int) (x:Rat):Prop:=∃m:Int,x=((m:Int):Rat)*kG c
theorem Gr.add {c:Int} {x y:Rat} (h:Gr c x) (g:Gr c y):Gr c (x+y):=by
 obtain⟨a,rfl⟩:=h
 obtain⟨b,rfl⟩:=g
 exact⟨a+b,by rw[Rat.intCast_add];grind⟩
theorem Gr.mul {c:Int} {x:Rat} (h:Gr c x) (k:Int):Gr c (((k:Int):Rat)*x):=by
 obtain⟨a,rfl⟩:=h
 exact⟨k*a,by rw[Rat.intCast_mul];grind⟩
theorem ET (c:Int):Gr c (kQ c):=⟨2097152,by unfold kG;rw[show((2097152:Int):Rat)=2097152 from rfl];grind⟩
theorem AD (c:Int):Gr c (kG c):=⟨1,by rw[Rat.intCast_one];grind⟩
theorem i6 {c:Int} (x:Rat):Gr c (aU x):=by
 have g:Gr c (((1:Int):Rat)/((1048576:Int):Rat)):=by
  unfold Gr kG kQ
  split
  ·exact⟨2,by decide+kernel⟩
  ·exact⟨8,by decide+kernel⟩
 exact g.mul _
theorem Fh {c:Int} {t:Rat} (h:Gr c t) (i:Int):Gr c (pcs c t i):=by rw[jO];exact h.add ((ET c).mul i)
theorem oq {c:Int} {t:Rat} (h:Gr c t):Gr c (cC c t):=by
 unfold cC hlo atR
 rw[jR,show elo c t+kQ c-elo c t=kQ c by grind,Fj,Rat.div_def,show kQ c*(((hlv (gD c (kI c t)) (elo c t) (elo c t+kQ c) 21:Int):Rat)*((2097152:Int):Rat)⁻¹)=((hlv (gD c (kI c t)) (elo c t) (elo c t+kQ c) 21:Int):Rat)*kG c by unfold kG;rw[show((2097152:Int):Rat)⁻¹ =1/2097152 by decide+kernel];grind]
 exact(Fh h _).add ((AD c).mul _)
theorem sG (c:Int) (t:Rat):bZ c t=cC c t+kG c:=kr c t
theorem ut {c:Int} {t:Rat} (h:Gr c t):Gr c (bZ c t):=by rw[sG];exact(oq h).add (AD c)
theorem BB {c:Int} {x u:Rat} (h:Gr c x) (g:Gr c u):u<=x\/x+kG c<=u:=by
 obtain⟨a,rfl⟩:=h
 obtain⟨b,rfl⟩:=g
 have k:=xy c
 rcases Int.lt_or_le a b with l|l
 ·right
  have:=Rat.mul_le_mul_of_nonneg_right (Rat.intCast_le_intCast.2 (show a+1<=b by omega)) (Rat.le_of_lt k)
  rw[Rat.intCast_add,Rat.intCast_one] at this
  grind
 ·left
  exact Rat.mul_le_mul_of_nonneg_right (Rat.intCast_le_intCast.2 l) (Rat.le_of_lt k)
theorem wg {c:Int} (h0:0<=c) (h1:c<=4) {t u:Rat} (h:Gr c t) (g:Gr c u):bZ c t<=u↔kS c t<kS c u:=by
 refine⟨fun l=>?_,fun l=>?_⟩
 ·have:=qn h0 h1 l
  rw[nM h0 h1] at this
  omega
 ·rcases BB (oq h) g with s|s
  ·have:=qn h0 h1 s
   rw[vS h0 h1] at this
   omega
  ·rw[sG];exact s
noncomputable def paF (c:Int) (t:Rat):Nat->Rat
 |0=>t
 |j+1=>bZ c (paF c t j)
theorem rT {c:Int} {t:Rat} (h:Gr c t):∀j,Gr c (paF c t j)
 |0=>h
 |j+1=>ut (rT h j)
theorem vh {c:Int} (h0:0<=c) (h1:c<=4) (t:Rat):∀j:Nat,kS c (paF c t j)=kS c t+((j:Nat):Int)
 |0=>(Int.add_zero _).symm
 |j+1=>by show kS c (bZ c (paF c t j))=_;rw[nM h0 h1,vh h0 h1 t j];omega
theorem E6 {c:Int} (h0:0<=c) (h1:c<=4) (t:Rat) (j:Nat):kI c (paF c t j)=(kI c t+((j:Nat):Int))%kN c:=by
 rw[dc h0 h1,vh h0 h1,dc h0 h1,Int.emod_add_emod]
def paN (c:Int) (t u:Rat):Nat:=(kS c u-kS c t).toNat
theorem kK {c:Int} (h0:0<=c) (h1:c<=4) {t u:Rat} (h:Gr c t) (g:Gr c u) (l:t<=u) (j:Nat):bZ c (paF c t j)<=u↔j<paN c t u:=by
 rw[wg h0 h1 (rT h j) g,vh h0 h1]
 have:=qn h0 h1 l
 unfold paN
 omega
theorem qA {c:Int} (h0:0<=c) (h1:c<=4) {t u:Rat} (l:t<=u) (d:u-t<=102/100):kS c t<=kS c u/\kS c u<=kS c t+3/\(c=0->kS c u<=kS c t+1)/\(c=1->kS c u<=kS c t+2):=by
 have up:=qn h0 h1 l
 have d0:0<=u-t:=by grind
 have s:=mQ t d0
 have m:=k9 t d0
 have p:=iy t d0
 rw[show t+(u-t)=u by grind] at s m p
 have key:∀(x y:Rat) (k:Int),y-x<((k:Int):Rat)->y.floor<=x.floor+k:=fun x y k h=>by
  have a:=dF y
  have b:=ec x
  have q:((y.floor:Int):Rat)<((x.floor+k+1:Int):Rat):=by rw[Rat.intCast_add,Rat.intCast_add,Rat.intCast_one];grind
  have:=Rat.intCast_lt_intCast.1 q
  omega
 refine⟨up,?_,?_,?_⟩
 ·rcases kinds h0 h1 with rfl|rfl|rfl|rfl|rfl
  ·exact key (bT t*(((12:Int):Rat)/((360:Int):Rat))) (bT u*(((12:Int):Rat)/((360:Int):Rat))) 3 (by rw[show((12:Int):Rat)/((360:Int):Rat)=12/360 by decide+kernel,show((3:Int):Rat)=3 from rfl];grind)
  ·exact key (phU t*(((30:Int):Rat)/((360:Int):Rat))) (phU u*(((30:Int):Rat)/((360:Int):Rat))) 3 (by rw[show((30:Int):Rat)/((360:Int):Rat)=30/360 by decide+kernel,show((3:Int):Rat)=3 from rfl];grind)
  ·exact key (bD t*(((27:Int):Rat)/((360:Int):Rat))) (bD u*(((27:Int):Rat)/((360:Int):Rat))) 3 (by rw[show((27:Int):Rat)/((360:Int):Rat)=27/360 by decide+kernel,show((3:Int):Rat)=3 from rfl];grind)
  ·exact key ((bD t+bT t)*(((27:Int):Rat)/((360:Int):Rat))) ((bD u+bT u)*(((27:Int):Rat)/((360:Int):Rat))) 3 (by rw[show((27:Int):Rat)/((360:Int):Rat)=27/360 by decide+kernel,show((3:Int):Rat)=3 from rfl];grind)
  ·exact key (phU t*(((60:Int):Rat)/((360:Int):Rat))) (phU u*(((60:Int):Rat)/((360:Int):Rat))) 3 (by rw[show((60:Int):Rat)/((360:Int):Rat)=60/360 by decide+kernel,show((3:Int):Rat)=3 from rfl];grind)
 ·rintro rfl
  exact key (bT t*(((12:Int):Rat)/((360:Int):Rat))) (bT u*(((12:Int):Rat)/((360:Int):Rat))) 1 (by rw[show((12:Int):Rat)/((360:Int):Rat)=12/360 by decide+kernel,Rat.intCast_one];grind)
 ·rintro rfl
  exact key (phU t*(((30:Int):Rat)/((360:Int):Rat))) (phU u*(((30:Int):Rat)/((360:Int):Rat))) 2 (by rw[show((30:Int):Rat)/((360:Int):Rat)=30/360 by decide+kernel,show((2:Int):Rat)=2 from rfl];grind)
theorem y6 {c:Int} (h0:0<=c) (h1:c<=4) {t u:Rat} (l:t<=u) (d:u-t<=102/100):(kI c u-kI c t)%kN c=kS c u-kS c t:=by
 have f:=qA h0 h1 l d
 have n:=j2 c
 rw[dc h0 h1,dc h0 h1,<-Int.sub_emod,Int.emod_eq_of_lt (by omega) (by omega)]
theorem Au (t:Rat):kS 1 t=tiV t:=by
 show(phU t*(((30:Int):Rat)/((360:Int):Rat))).floor =_
 rw[show((30:Int):Rat)/((360:Int):Rat)=1/12 by decide+kernel]
 rfl
theorem Cc {t u:Rat} (h:Gr 0 t) (g:Gr 0 u) (l:t<=u) (d:u-t<=102/100) (ne:kI 0 u≠kI 0 t):kS 0 u=kS 0 t+1/\bZ 0 t<=u/\kI 0 (bZ 0 t)=kI 0 u:=by
 have f:=qA (c:=0) (by decide) (by decide) l d
 have e:kS 0 u≠kS 0 t:=fun e=>ne (by rw[dc (by decide) (by decide),dc (by decide) (by decide),e])
 have k:kS 0 u=kS 0 t+1:=by have:=f.2.2.1 rfl;omega
 refine⟨k,(wg (by decide) (by decide) h g).2 (by omega),?_⟩
 rw[dc (by decide) (by decide),dc (by decide) (by decide),nM (by decide) (by decide),k]
theorem qN {c:Int} {x:Rat} (h:Gr c x) (b0: -8000000<=x) (b1:x<=8000000):ag x 2:=by
 obtain⟨m,rfl⟩:=h
 have inv:∀x:Rat,x/((8388608:Int):Rat)=x*(1/8388608):=fun x=>by
  rw[Rat.div_def x,show(((8388608:Int):Rat))⁻¹ =1/8388608 by decide+kernel]
 have key:∀k:Int,1<=k->k<=4->kG c=((k:Int):Rat)*(1/8388608)->ag (((m:Int):Rat)*kG c) 2:=by
  intro k k0 k1 e
  have q:((m:Int):Rat)*kG c=((m*k:Int):Rat)/((8388608:Int):Rat):=by
   rw[e,Rat.intCast_mul,inv];grind
  have g0:((-67108864000000:Int):Rat)<=((m*k:Int):Rat):=by
   rw[q,inv] at b0
   rw[show((-67108864000000:Int):Rat)= -67108864000000 from rfl]
   grind
  have g1:((m*k:Int):Rat)<=((67108864000000:Int):Rat):=by
   rw[q,inv] at b1
   rw[show((67108864000000:Int):Rat)=67108864000000 from rfl]
   grind
  have h0:=Rat.intCast_le_intCast.1 g0
  have h1:=Rat.intCast_le_intCast.1 g1
  rw[q]
  exact gC (by omega) (by omega) (by decide) (by decide)
 by_cases e:c=0
 ·exact key 4 (by decide) (by decide) (by unfold kG kQ;rw[if_pos e];decide+kernel)
 ·exact key 1 (by decide) (by decide) (by unfold kG kQ;rw[if_neg e];decide+kernel)
theorem tj {c:Int} (h0:0<=c) (h1:c<=4) (x:Rat):cC c x<=x+35:=by
 have a:=(oH c x).2
 have p:=(dE h0 h1 x).1
 have m:=vB c
 have e:elo c x=x+((((bH c x:Nat):Int):Int):Rat)*kQ c:=jO c x _
 have q0:(0:Rat)<=kQ c:=by unfold kQ;split <;> decide+kernel
 have q1:kQ c<=1:=by unfold kQ;split <;> decide+kernel
 have r:((((bH c x:Nat):Int):Int):Rat)<=((34:Int):Rat):=Rat.intCast_le_intCast.2 (by omega)
 have r0:((0:Int):Rat)<=((((bH c x:Nat):Int):Int):Rat):=Rat.intCast_le_intCast.2 (by omega)
 have s:=Rat.mul_le_mul_of_nonneg_left (c:=((((bH c x:Nat):Int):Int):Rat)) q1 r0
 rw[show((34:Int):Rat)=34 from rfl] at r
 grind
theorem s7 {c:Int} (h0:0<=c) (h1:c<=4) (x:Rat):bZ c x<=x+36:=by
 have a:=tj h0 h1 x
 have b:=q8 c x
 grind
theorem ue (c:Int) (x:Rat):x<=bZ c x:=by
 have a:=oK c x
 have k:=xy c
 rw[sG]
 grind
theorem wZ {c:Int} (h0:0<=c) (h1:c<=4) (t:Rat):∀j:Nat,t<=paF c t j/\paF c t j<=t+36*((((j:Nat):Int):Int):Rat)
 |0=>⟨Rat.le_refl,by show t<=_;rw[show((((0:Nat):Int):Int):Rat)=0 from rfl];grind⟩
 |j+1=>by
  have a:=wZ h0 h1 t j
  have b:=s7 h0 h1 (paF c t j)
  have d:=ue c (paF c t j)
  have e:((((j+1:Nat):Int):Int):Rat)=((((j:Nat):Int):Int):Rat)+1:=by rw[show(((j+1:Nat)):Int)=((j:Nat):Int)+1 by omega,Rat.intCast_add,Rat.intCast_one]
  show t<=bZ c (paF c t j)/\bZ c (paF c t j)<=_
  rw[e]
  constructor <;> grind
theorem fK {c:Int} (h0:0<=c) (h1:c<=4) {t:Rat} (h:Gr c t) (b0: -4000000<=t) (b1:t<=4000000) {j:Nat} (hj:j<=5):ag (paF c t j) 2/\ag (cC c (paF c t j)) 2/\ag (bZ c (paF c t j)) 2:=by
 have p:=wZ h0 h1 t j
 have r:((((j:Nat):Int):Int):Rat)<=((5:Int):Rat):=Rat.intCast_le_intCast.2 (by omega)
 rw[show((5:Int):Rat)=5 from rfl] at r
 have g:=rT h j
 have a0:=oK c (paF c t j)
 have a1:=tj h0 h1 (paF c t j)
 have d0:=ue c (paF c t j)
 have d1:=s7 h0 h1 (paF c t j)
 refine⟨qN g ?_ ?_,qN (oq g) ?_ ?_,qN (ut g) ?_ ?_⟩ <;> grind
abbrev Pt:=Int×Int×Rat×Rat
noncomputable def pt4 (c:Int) (f:Rat):Pt:=(c,kI c f,cC c f,bZ c f)
noncomputable def prC (c:Int) (t u:Rat):List Pt:=(List.range (paN c t u+1)).map fun j=>pt4 c (paF c t j)
noncomputable def prS (t u:Rat):List Pt:=if kI 0 u=kI 0 t then[] else[pt4 0 t]
noncomputable def prA (t u:Rat):List Pt:=prC 1 t u++prC 2 t u++prC 3 t u++prC 4 t u++prS t u
def ofK (k:Int) (ps:List Pt):List Pt:=ps.filter fun p=>decide (p.1=k)
theorem fF (c:Int) (t u:Rat):(prC c t u).length =paN c t u+1:=by simp[prC]
theorem wG {c:Int} {t u:Rat} {j:Nat} (h:j<paN c t u+1):(prC c t u)[j]?=some (pt4 c (paF c t j)):=by simp[prC,h]
theorem eK (k:Int) (a b:List Pt):ofK k (a++b)=ofK k a++ofK k b:=List.filter_append ..
theorem jf (k c:Int) (t u:Rat):ofK k (prC c t u)=if c=k then prC c t u else[]:=by
 unfold ofK
 split
 ·next h=>exact List.filter_eq_self.2 fun p hp=>by obtain⟨j,_,rfl⟩:=List.mem_map.1 hp;exact decide_eq_true h
 ·next h=>exact List.filter_eq_nil_iff.2 fun p hp=>by obtain⟨j,_,rfl⟩:=List.mem_map.1 hp;rw[decide_eq_true_iff];exact h
theorem Ay (k:Int) (t u:Rat):ofK k (prS t u)=if k=0 then prS t u else[]:=by
 unfold ofK prS
 by_cases e:kI 0 u=kI 0 t
 ·rw[if_pos e];simp
 ·rw[if_neg e]
  by_cases h:k=0
  ·subst h;rw[if_pos rfl];rfl
  ·rw[if_neg h];simp[pt4];omega
theorem nR {k:Int} (h0:1<=k) (h1:k<=4) (t u:Rat):ofK k (prA t u)=prC k t u:=by
 unfold prA
 rw[eK,eK,eK,eK,jf,jf,jf,jf,Ay,if_neg (by omega:¬k=0)]
 have h:k=1\/k=2\/k=3\/k=4:=by omega
 rcases h with rfl|rfl|rfl|rfl <;> simp
theorem uy (t u:Rat):ofK 0 (prA t u)=prS t u:=by
 unfold prA
 rw[eK,eK,eK,eK,jf,jf,jf,jf,Ay]
 simp
def paM (t u:Rat):Nat->Nat
 |0=>0
 |k+1=>paM t u k+(paN (((k:Nat):Int)+1) t u+1)
theorem uc (t u:Rat):(prA t u).length =paM t u 4+if kI 0 u=kI 0 t then 0 else 1:=by
 unfold prA prS
 simp only [List.length_append,fF,paM]
 rw[show(((0:Nat):Int)+1)=1 from rfl,show(((1:Nat):Int)+1)=2 from rfl,show(((2:Nat):Int)+1)=3 from rfl,show(((3:Nat):Int)+1)=4 from rfl]
 split <;> simp <;> omega
theorem Ag {t u:Rat} (h:kI 0 u≠kI 0 t):(prA t u)[(prA t u).length - 1]?=some (pt4 0 t):=by
 unfold prA prS
 rw[if_neg h,List.length_append,List.length_singleton,Nat.add_sub_cancel,List.getElem?_append_right (Nat.le_refl _),Nat.sub_self]
 rfl
theorem gX {c:Int} (h0:0<=c) (h1:c<=4) {t u:Rat} (l:t<=u) (d:u-t<=102/100):((paN c t u:Nat):Int)=(kI c u-kI c t)%kN c/\paN c t u<=3:=by
 have s:=y6 h0 h1 l d
 have f:=qA h0 h1 l d
 unfold paN
 rw[s]
 omega
theorem oJ {t u:Rat} (l:t<=u) (d:u-t<=102/100):(prA t u).length <=17:=by
 rw[uc]
 simp only [paM]
 have h1:=(gX (c:=((0:Nat):Int)+1) (by decide) (by decide) l d).2
 have h2:=(gX (c:=((1:Nat):Int)+1) (by decide) (by decide) l d).2
 have h3:=(gX (c:=((2:Nat):Int)+1) (by decide) (by decide) l d).2
 have h4:=(gX (c:=((3:Nat):Int)+1) (by decide) (by decide) l d).2
 split <;> omega
theorem l9 {a b c d:Int} (h:co a b c d) (n:Int):aU (cr n a b c d)<=aU (cr (n+1) a b c d)/\aU (cr (n+1) a b c d)-aU (cr n a b c d)<=102/100:=by
 have s:=ux (lat:=((a:Int):Rat)/((b:Int):Rat)) (((c:Int):Rat)/((d:Int):Rat)) h.la.1 h.la.2 n
 have e:∀m,riV (((a:Int):Rat)/((b:Int):Rat)) (((c:Int):Rat)/((d:Int):Rat)) m=aU (cr m a b c d):=fun _=>rfl
 rw[e,e] at s
 constructor <;> grind
theorem qm {a b c d:Int} (h:co a b c d) {n:Int} (h0: -3500000<=n) (h1:n<=3500000): -4000000<=aU (cr n a b c d)/\aU (cr n a b c d)<=4000000:=by
 have f:=E5 h n
 have a1:=dF (aU (cr n a b c d))
 have a2:=ec (aU (cr n a b c d))
 have b0:((-3500001:Int):Rat)<=(((aU (cr n a b c d)).floor :Int):Rat):=Rat.intCast_le_intCast.2 (by omega)
 have b1:(((aU (cr n a b c d)).floor :Int):Rat)<=((3500002:Int):Rat):=Rat.intCast_le_intCast.2 (by omega)
 rw[show((-3500001:Int):Rat)= -3500001 from rfl] at b0
 rw[show((3500002:Int):Rat)=3500002 from rfl] at b1
 constructor <;> grind
end Go.Proofs.YtgdpkknapcgcbaaGreatDoor
