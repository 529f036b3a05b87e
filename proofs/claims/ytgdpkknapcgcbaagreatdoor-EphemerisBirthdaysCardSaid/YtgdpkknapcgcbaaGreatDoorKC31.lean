import Derived.Test.YtgdpkknapcgcbaaGreatDoorKC30
namespace Go.Proofs.YtgdpkknapcgcbaaGreatDoor
open Go.RowKit
set_option maxRecDepth 100000
set_option linter.unusedVariables false
set_option maxHeartbeats 8000000
theorem LQ {k n:Int} (h0:0<=k) (h1:k<=n) (hn:0<n):0<=((k:Int):Rat)/((n:Int):Rat)/\((k:Int):Rat)/((n:Int):Rat)<=1:=by
 have a:0<=((k:Int):Rat):=Rat.intCast_nonneg.2 h0
 have b:((k:Int):Rat)<=((n:Int):Rat):=Rat.intCast_le_intCast.2 h1
 have c:0<((n:Int):Rat):=Rat.intCast_pos.2 hn
 have d:0<((n:Int):Rat)⁻¹ :=Rat.inv_pos.2 c
 have e:((n:Int):Rat)*((n:Int):Rat)⁻¹ =1:=Rat.mul_inv_cancel _ (by grind)
 rw[Rat.div_def]
 generalize ((n:Int):Rat)⁻¹ =y at*
 generalize ((n:Int):Rat)=x at*
 generalize ((k:Int):Rat)=z at*
 refine⟨Rat.mul_nonneg a (Rat.le_of_lt d),?_⟩
 have:=Rat.mul_le_mul_of_nonneg_right b (Rat.le_of_lt d)
 grind
theorem N0 {lo hi:Rat} (h:lo<=hi) {k n:Int} (h0:0<=k) (h1:k<=n) (hn:0<n):lo<=atR lo hi k n/\atR lo hi k n<=hi:=by
 have f:=LQ h0 h1 hn
 unfold atR
 generalize ((k:Int):Rat)/((n:Int):Rat)=y at*
 have g:0<=hi-lo:=by grind
 have a:=Rat.mul_nonneg g f.1
 have b:=Rat.mul_le_mul_of_nonneg_left f.2 g
 constructor <;> grind
theorem EV (p:Rat->Bool) {lo hi:Rat} (h:lo<=hi) (n:Nat):lo<=hlo p lo hi n/\hlo p lo hi n<=hi:=N0 h (km p lo hi n).1 (by have:=km p lo hi n;omega) (pg n)
theorem MO (t:Rat):decide (0<=qc (bv t) ((180:Int):Rat))=full t:=by
 have h:=EQ t
 unfold wax at h
 cases e:full t with
 |true=>rw[e] at h;exact decide_eq_true (by have:=of_decide_eq_false h;omega)
 |false=>rw[e] at h;exact decide_eq_false (by have:=of_decide_eq_true h;omega)
theorem Ki {t:Rat}:wax t=false↔full t=true:=by unfold wax;cases full t <;> simp
theorem K8 {t:Rat}:wax t=true↔full t=false:=by unfold wax;cases full t <;> simp
theorem yT {n:Int} (h:aN n=true):wax ((n:Int):Rat)=false/\wax (((n+1:Int)):Rat)=true:=by
 unfold aN at h
 rw[Bool.and_eq_true,Bool.not_eq_true'] at h
 exact⟨Ki.2 h.1,K8.2 h.2⟩
def nmL (n:Int):Rat:=hlo wax ((n:Int):Rat) (((n+1:Int)):Rat) 10
def nmR (n:Int):Rat:=hhi wax ((n:Int):Rat) (((n+1:Int)):Rat) 10
theorem QF {n:Int} (h:aN n=true):wax (nmL n)=false:=Jm _ (yT h).1 10
theorem RO {n:Int} (h:aN n=true):wax (nmR n)=true:=FZ _ (yT h).2 10
theorem oj (n:Int):nmR n=nmL n+1/1024:=by
 have h:=MA wax ((n:Int):Rat) (((n+1:Int)):Rat) 10
 rw[show((1:Int):Rat)/(((2^10:Int):Int):Rat)=1/1024 by decide+kernel,ft] at h
 unfold nmR nmL
 rw[ft]
 grind
def uR (t:Rat):Int:=min (t.floor-1) ((t-bv t*(((10:Int):Rat)/((135:Int):Rat))).floor)
theorem yf {t:Rat} (no:¬fW t=true):bL t.floor<=uR t/\uR t<=t.floor-1/\t.floor-34<=bL t.floor:=by
 have s:=ce t.floor
 have f:=FW (t:=t) (f:=t.floor) (L:=bL t.floor) rfl (by unfold fW at no;rw[Bool.and_eq_true,Bool.not_eq_true'] at no;exact no) s.2.1 s.2.2.1 s.2.2.2
 unfold uR
 omega
theorem Ab (t:Rat):t.floor-30<=((t-bv t*(((10:Int):Rat)/((135:Int):Rat))).floor)/\((t-bv t*(((10:Int):Rat)/((135:Int):Rat))).floor)<=t.floor:=by
 have b:=kK t
 have a:=fe t
 have c:=fA t
 rw[show((10:Int):Rat)/((135:Int):Rat)=10/135 by decide+kernel]
 constructor
 ·exact Rat.le_floor_iff.2 (by rw[Rat.intCast_sub,show((30:Int):Rat)=30 from rfl];grind)
 ·have:(t-bv t*(10/135)).floor <t.floor+1:=Rat.floor_lt_iff.2 (by rw[Rat.intCast_add,Rat.intCast_one];grind)
  omega
theorem GZ (d:Int):d-34<=aA ((d:Int):Rat)/\aA ((d:Int):Rat)<=d/\aN (aA ((d:Int):Rat))=true:=by
 have b:=pO ((d:Int):Rat)
 rw[Rat.floor_intCast] at b
 have no:¬fW ((d:Int):Rat)=true:=by rw[Ai];decide
 refine⟨b.1,b.2,?_⟩
 rw[kG no]
 exact(ce _).2.2.1
theorem xl {t:Rat} (h:fW t=true):aN t.floor=true:=by
 unfold fW at h
 rw[Bool.and_eq_true,Bool.not_eq_true'] at h
 have f0:=fe t
 have f1:=fA t
 have e:((t.floor:Int):Rat)+(t-((t.floor:Int):Rat))=t:=by grind
 have i:=(mV ((t.floor:Int):Rat) (d:=t-((t.floor:Int):Rat)) (by grind) (by grind)).1 ⟨h.1,by rw[e];exact h.2⟩
 rw[e] at i
 refine(cS _).2 ?_
 have s:=kt t.floor
 have u:=lF t (d:=((t.floor:Int):Rat)+1-t) (by grind) (by grind)
 rw[show t+(((t.floor:Int):Rat)+1-t)=(((t.floor+1:Int)):Rat) by rw[ft];grind] at u
 unfold aP at*
 rcases u with u|u <;> omega
theorem gD (t:Rat):aN (aA t)=true:=by
 by_cases h:fW t=true
 ·rw[nA h];exact xl h
 ·rw[kG h];exact(ce _).2.2.1
theorem eT (n:Int):((n:Int):Rat)<nmR n/\nmR n<=((n:Int):Rat)+1:=by
 have b:=km wax ((n:Int):Rat) (((n+1:Int)):Rat) 10
 rw[show(2:Int)^10=1024 from rfl] at b
 unfold nmR hhi atR
 generalize hlv wax ((n:Int):Rat) (((n+1:Int)):Rat) 10=k at*
 have a:=Rat.intCast_le_intCast.2 (show 1<=k+1 by omega)
 have c:=Rat.intCast_le_intCast.2 (show k+1<=1024 by omega)
 rw[ft,show((2^10:Int):Rat)=1024 by decide+kernel]
 rw[show((1:Int):Rat)=1 from rfl] at a
 rw[show((1024:Int):Rat)=1024 from rfl] at c
 constructor <;> grind
def smV (n:Int):Int:=kaV (nmR n)
theorem M3 {n:Int} (h:aN n=true):nmR n+27<=nmR (aw n)/\nmR (aw n)<=nmR n+32:=by
 have s:=bC h
 have a:=eT n
 have b:=eT (aw n)
 have l:=Rat.intCast_le_intCast.2 s.1
 have g:=Rat.intCast_le_intCast.2 s.2.1
 rw[Rat.intCast_add,show((28:Int):Rat)=28 from rfl] at l
 rw[Rat.intCast_add,show((31:Int):Rat)=31 from rfl] at g
 constructor <;> grind
theorem gS {n:Int} (h:aN n=true):smV n<=smV (aw n)/\smV (aw n)<=smV n+2:=by
 have g:=M3 h
 exact Na g.1 g.2
theorem rl {n:Int} (h:aN n=true):smV n<smV (aw (aw n)):=by
 have s:=bC h
 have t:=bC s.2.2.1
 have a:=eT n
 have b:=eT (aw (aw n))
 have l:=Rat.intCast_le_intCast.2 (show n+56<=aw (aw n) by omega)
 rw[Rat.intCast_add,show((56:Int):Rat)=56 from rfl] at l
 exact zy (by grind)
noncomputable def moD (d:Int):Nat->Int
 |0=>d
 |k+1=>aw (moD d k)
theorem ja {d:Int} (h:aN d=true):∀k,aN (moD d k)=true
 |0=>h
 |k+1=>(bC (ja h k)).2.2.1
theorem vc {d:Int} (h:aN d=true) (k:Nat):d+28*((k:Nat):Int)<=moD d k/\moD d k<=d+31*((k:Nat):Int):=by
 induction k with
 |zero=>show d+28*0<=d/\d<=d+31*0;omega
 |succ k ih=>
  have s:=bC (ja h k)
  show d+28*(((k+1:Nat)):Int)<=aw (moD d k)/\aw (moD d k)<=d+31*(((k+1:Nat)):Int)
  omega
def moC (n m:Int):List Value:=[iv n,iv m,iv (smV n%12),iv (smV m%12)]
noncomputable def moR (d:Int):Nat->List Value
 |0=>[]
 |k+1=>moR d k++moC (moD d k) (moD d (k+1))
theorem CC (d:Int):∀k,(moR d k).length =4*k
 |0=>rfl
 |k+1=>by show(moR d k++moC _ _).length =_;rw[List.length_append,CC d k];rfl
theorem Av (d:Int) (more:List Value):∀ {k i:Nat},i<k->((moR d k++more).drop (4*i)).take 4=moC (moD d i) (moD d (i+1))
 |0,_,h=>absurd h (Nat.not_lt_zero _)
 |k+1,i,h=>by
  by_cases e:i=k
  ·subst e
   show(((moR d i++moC (moD d i) (moD d (i+1)))++more).drop (4*i)).take 4=_
   rw[List.append_assoc,<-CC d i,List.drop_left];rfl
  ·show(((moR d k++moC (moD d k) (moD d (k+1)))++more).drop (4*i)).take 4=_
   rw[List.append_assoc]
   exact Av d _ (by omega)
theorem zx (v1:Value) (qt:Rat) (k:Nat) (w:World) (hT:bE w) (h1:Rq w v1 qt) (hl:av qt k) (hk:k<=100):CV 34 #[v1] w (iv (kaV qt%12)):=by
 rw[<-Mv]
 exact Ei v1 qt k w hT h1 hl hk
theorem qm (n:Int) (w:World) (hT:bE w) (hn0: -100000000<=n) (hn1:n<=100000000):
 CV 160 #[iv n] w (iv (smV n%12)):=by
 refine gs1 (nt:=12) Tryz.func160 rfl rfl rfl fun a st hF=>wq ?_
 refine oC hF rfl fun a hF=>nq<|oM hF 1 rfl rfl fun a hF=>?_
 refine S.call2 st hF (rgc SP (aG hF.o)) (Fx n _ (hT.below st.bel) (by omega) (by omega)) (fun _ _ h=>h) Rq.cl Rq.cl rfl rfl rfl rfl fun vv2 vv3 w1 a st hF=>?_
 obtain⟨r6,rfl⟩:=Rq.fo (st.f 0 rfl)
 obtain⟨r7,rfl⟩:=Rq.fo (st.f 1 rfl)
 refine oM hF 0 rfl rfl fun a hF=>oV hF (aH (v:= r6.v) hF.o rfl) rfl fun a hF=>oV hF (aH (v:= r7.v) hF.p rfl) rfl fun a hF=>S.alloc st hF ab rfl rfl fun g3 w8 a st hF=>S.alloc st hF ab rfl rfl fun g4 w9 a st hF=>so st hF 1 1 3 ab rfl rfl rfl rfl fun w10 a st hF=>so st hF 0 0 2 ab rfl rfl rfl rfl fun w11 a st hF=>nq<|oL hF st 0 0 ab rfl rfl rfl rfl fun a hF=>?_
 refine cX st hF (rgc k34 (aG hF.o)) (zx _ _ 14 _ (hT.below st.bel) (st.f 1 rfl) (BQ (p:=wax) (i:=2) (j:=2) (eC (n:=n) (by omega) (by omega)) (qF (n:=n) (by omega) (by omega)) (by decide)) (by omega)) rfl fun w12 a st hF=>?_
 refine oE hF 0 rfl rfl fun a hF=>nr ?_
 have bel:=st.bel
 refine rt Tryz.results160 hF 0 rfl ?_
 exact⟨ch rfl,bel⟩
theorem za (n:Int) (w:World) (hT:bE w) (hn0: -99000000<=n) (hn1:n<=99000000) (hc:aN n=true):
 CV 91 #[iv n] w (.agg #[iv n,iv (aw n),iv (smV n%12),iv (smV (aw n)%12)]):=by
 have hns:=bC hc
 refine gs1 (nt:=13) Tryz.func91 rfl rfl rfl fun a st hF=>wq<|S.alloc st hF bV rfl rfl fun g2 w1 a st hF=>nq<|oM hF 1 rfl rfl fun a hF=>cX st hF (rgc Sm (aG hF.o)) (DT n _ (hT.below st.bel) (by omega) (by omega) hc) rfl fun w2 a st hF=>?_
 refine oA hF 0 rfl rfl fun a hF=>nq<|oM hF 4 rfl rfl fun a hF=>oM hF 1 rfl rfl fun a hF=>oM hF 6 rfl rfl fun a hF=>cX st hF (rgc Qe (aG hF.o)) (qm n _ (hT.below st.bel) (by omega) (by omega)) rfl fun w3 a st hF=>oM hF 4 rfl rfl fun a hF=>cX st hF (rgc Qe (aG hF.o)) (qm (aw n) _ (hT.below st.bel) (by omega) (by omega)) rfl fun w4 a st hF=>oV hF (bn (rM (hF.at 5 rfl) (hF.at 4 rfl) hF.q hF.o) (Bc _ _ _ _ _)) rfl fun a hF=>?_
 refine S.stoI st hF 0 rfl (hF.at 10 rfl) hF.o bV rfl rfl rfl fun w5 a st hF=>nr<|rs Tryz.results91 st hF 10 0 bV rfl rfl rfl ?_
 exact⟨rfl,st.bel⟩
theorem ug (v1:Value) (qt:Rat) (k:Nat) (w:World) (hT:bE w) (h1:Rq w v1 qt) (hl:av qt k) (hk:k<=100) (hf0: -90000000<=Rat.floor qt) (hf1:Rat.floor qt<=90000000):
 CV 39 #[v1] w (.agg #[iv (aA qt),iv (aw (aA qt)),iv (smV (aA qt)%12),iv (smV (aw (aA qt))%12)]):=by
 have hlv:=pO qt
 refine gs1 (nt:=6) Tryz.func39 rfl rfl rfl fun a st hF=>wq ?_
 obtain⟨r2,rfl⟩:=Rq.fo h1
 refine bx st hF 0 rfl rfl fun g1 w1 a st hF=>S.alloc st hF bV rfl rfl fun g2 w3 a st hF=>nq<|oL hF st 1 1 ab rfl rfl rfl rfl fun a hF=>cX st hF (rgc k92 (aG hF.o)) (uJ _ (qt) k _ (hT.below st.bel) (h1.below st.bel) hl (by omega) (by omega) (by omega)) rfl fun w4 a st hF=>cX st hF (rgc k91 (aG hF.o)) (za (aA (qt)) _ (hT.below st.bel) (by omega) (by omega) (gD qt)) rfl fun w5 a st hF=>S.stoI st hF 0 rfl (hF.at 3 rfl) hF.o bV rfl rfl rfl fun w6 a st hF=>nr ?_
 refine rs Tryz.results39 st hF 3 0 bV rfl rfl rfl ?_
 exact⟨rfl,st.bel⟩
theorem nK (z0 z1 z2 z3:Int) (w:World) (hT:bE w) (hn0: -99000000<=z1) (hn1:z1<=99000000) (hc:aN z1=true):
 CV 170 #[.agg #[iv z0,iv z1,iv z2,iv z3]] w (.agg #[iv z1,iv (aw z1),iv (smV z1%12),iv (smV (aw z1)%12)]):=by
 refine gs1 (nt:=6) Tryz.func170 rfl rfl rfl fun a st hF=>wq<|bx st hF 0 rfl rfl fun g1 w1 a st hF=>S.alloc st hF bV rfl rfl fun g2 w2 a st hF=>nq<|oV hF (az hF.p (zT (p:=1) rfl)) rfl fun a hF=>oV hF (ar hF.o (bl (v:= iv z1) (st.bk 1 rfl) rfl)) rfl fun a hF=>cX st hF (rgc k91 (aG hF.o)) (za z1 _ (hT.below st.bel) (by omega) (by omega) hc) rfl fun w3 a st hF=>S.stoI st hF 0 rfl (hF.at 3 rfl) hF.o bV rfl rfl rfl fun w4 a st hF=>?_
 refine nr<|rs Tryz.results170 st hF 3 0 bV rfl rfl rfl ?_
 exact⟨rfl,st.bel⟩
theorem lf (v1:Value) (q1:Rat) (k i:Nat) (w:World) (h1:Rr w v1 q1 k) (li1:av q1 i) (hp:1<=k) (hk:k<=300) (hi:i<=3):
 CV 165 #[v1] w (.bool (full q1)):=by
 obtain⟨r1,rfl⟩:=h1.fo
 refine gs1 (nt:=8) Tryz.func165 rfl rfl rfl fun a st hF=>wq<|bx st hF 0 rfl rfl fun g1 w1 a st hF=>?_
 refine oC hF rfl fun a hF=>nq<|oL hF st 1 0 ag rfl rfl rfl rfl fun a hF=>S.ck st hF (rgc Qi (aG hF.o)) (B0 ⟨(h1.below st.bel),li1⟩) Rh.cl rfl fun vv3 w2 a st hF=>?_
 obtain⟨r5,rfl⟩:=Rr.fo (st.f 0 rfl).1
 refine S.ck st hF (rgc bM (aL ao ao)) eE Rh.cl rfl fun vv7 w6 a st hF=>?_
 obtain⟨r9,rfl⟩:=Rr.fo (st.f 0 rfl).1
 refine cX st hF (rgc PA (aL hF.p hF.o)) (nv _ _ _ _ (6*k+22*i+1100) 2 _ (st.f 1 rfl).1 (st.f 0 rfl).1 (by omega) (by omega)) rfl fun w10 a st hF=>?_
 refine oT hF 0 (dI (c:=decide (0<=qc (bv (q1)) (((180:Int):Rat)))) rfl) rfl rfl fun a hF=>oE hF 0 rfl rfl fun a hF=>nr ?_
 have bel:=st.bel
 refine rt Tryz.results165 hF 0 rfl ?_
 exact⟨by rw[MO],bel⟩
theorem IE {n:Int} (h:¬full ((n:Int):Rat)=true):aN n=false:=by unfold aN;rw[eq_false_of_ne_true h];rfl
theorem xh {n:Int} (h:full ((n:Int):Rat)=true):aN n=!full (((n+1:Int)):Rat):=by unfold aN;rw[h];rfl
theorem Pd {t:Rat} (h:¬full ((t.floor:Int):Rat)=true):¬fW t=true:=by unfold fW;rw[eq_false_of_ne_true h];simp
theorem L4 {t:Rat} (h:full t=true):¬fW t=true:=by unfold fW;rw[h];simp
theorem Lz {t:Rat} (h:full ((t.floor:Int):Rat)=true) (h2:¬full t=true):fW t=true:=by unfold fW;rw[h,eq_false_of_ne_true h2];rfl
theorem Ah (n:Int) (w:World) (hn0: -1000000000<=n) (hn1:n<=1000000000):
 CV 168 #[iv n] w (.bool (aN n)):=by
 refine gs1 (nt:=13) Tryz.func168 rfl rfl rfl fun a st hF=>wq ?_
 refine oC hF rfl fun a hF=>nq<|oM hF 1 rfl rfl fun a hF=>S.ck st hF (rgc bM (aL hF.o ao)) eE Rh.cl rfl fun vv2 w1 a st hF=>?_
 obtain⟨r4,rfl⟩:=Rr.fo (st.f 0 rfl).1
 refine cX st hF (rgc Dh (aG hF.o)) (lf _ _ 2 2 _ (st.f 0 rfl).1 (st.f 0 rfl).2 (by omega) (by omega) (by omega)) rfl fun w5 a st hF=>oM hF 0 rfl rfl fun a hF=>?_
 by_cases hc6:full (((n:Int):Rat))=true
 ·first
  |(exfalso;omega)
  |(refine E.opvg hF (aD (hF.at 5 rfl)) (au rfl rfl (Eq.trans hF.o (congrArg Value.bool hc6)) rfl) rfl rfl rfl fun a hF=>?_
    refine E.opvg hF (aq hF.o ao aa (aX (by omega) (by omega))) (au rfl rfl (Eq.trans hF.p (congrArg Value.bool hc6)) rfl) rfl rfl rfl fun a hF=>?_
    refine S.ckg st hF (au rfl rfl (Eq.trans hF.q (congrArg Value.bool hc6)) rfl) (rgc bM (aL hF.o ao)) eE Rh.cl rfl rfl rfl fun vv8 w7 a st hF=>?_
    obtain⟨r10,rfl⟩:=Rr.fo (st.f 0 rfl).1
    refine S.callxg st hF (au rfl rfl (Eq.trans (hF.at 3 rfl) (congrArg Value.bool hc6)) rfl) (rgc Dh (aG hF.o)) (lf _ _ 2 2 _ (st.f 0 rfl).1 (st.f 0 rfl).2 (by omega) (by omega) (by omega)) rfl rfl rfl fun w11 a st hF=>?_
    by_cases hc12:full (((n+1:Int):Rat))=true
    ·first
     |(exfalso;omega)
     |(refine E.opvg hF (dF (Eq.trans hF.o (congrArg Value.bool hc12)) (cO _ false rfl)) (au rfl rfl (Eq.trans (hF.at 4 rfl) (congrArg Value.bool hc6)) rfl) rfl rfl rfl fun a hF=>?_
       refine oV hF (aK (Eq.trans (hF.at 5 rfl) (congrArg Value.bool hc6)) hF.o) rfl fun a hF=>oE hF 0 rfl rfl fun a hF=>nr ?_
       have bel:=st.bel
       refine rt Tryz.results168 hF 0 rfl ?_
       exact⟨by rw[xh hc6,hc12] <;> rfl,bel⟩)
    ·first
     |(exfalso;omega)
     |(refine E.opvg hF (dF (Eq.trans hF.o (congrArg Value.bool (eq_false_of_ne_true hc12))) (cO _ true rfl)) (au rfl rfl (Eq.trans (hF.at 4 rfl) (congrArg Value.bool hc6)) rfl) rfl rfl rfl fun a hF=>?_
       refine oV hF (aK (Eq.trans (hF.at 5 rfl) (congrArg Value.bool hc6)) hF.o) rfl fun a hF=>oE hF 0 rfl rfl fun a hF=>nr ?_
       have bel:=st.bel
       refine rt Tryz.results168 hF 0 rfl ?_
       exact⟨by rw[xh hc6,eq_false_of_ne_true hc12] <;> rfl,bel⟩))
 ·first
  |(exfalso;omega)
  |(refine E.unwanted hF (au rfl rfl (Eq.trans hF.o (congrArg Value.bool (eq_false_of_ne_true hc6))) rfl) rfl rfl rfl fun a hF=>?_
    refine E.unwanted hF (au rfl rfl (Eq.trans hF.p (congrArg Value.bool (eq_false_of_ne_true hc6))) rfl) rfl rfl rfl fun a hF=>?_
    refine E.unwanted hF (au rfl rfl (Eq.trans hF.q (congrArg Value.bool (eq_false_of_ne_true hc6))) rfl) rfl rfl rfl fun a hF=>?_
    refine E.unwanted hF (au rfl rfl (Eq.trans (hF.at 3 rfl) (congrArg Value.bool (eq_false_of_ne_true hc6))) rfl) rfl rfl rfl fun a hF=>?_
    refine E.unwanted hF (au rfl rfl (Eq.trans (hF.at 4 rfl) (congrArg Value.bool (eq_false_of_ne_true hc6))) rfl) rfl rfl rfl fun a hF=>?_
    refine oV hF (aQ (Eq.trans (hF.at 5 rfl) (congrArg Value.bool (eq_false_of_ne_true hc6))) ao) rfl fun a hF=>oE hF 0 rfl rfl fun a hF=>nr ?_
    have bel:=st.bel
    refine rt Tryz.results168 hF 0 rfl ?_
    exact⟨by rw[IE hc6],bel⟩)
theorem AF (v1:Value) (q1:Rat) (k i:Nat) (w:World) (h1:Rr w v1 q1 k) (li1:av q1 i) (hp:1<=k) (hk:k<=300) (hi:i<=3) (hf0: -900000000<=Rat.floor q1) (hf1:Rat.floor q1<=900000000):
 CV 95 #[v1] w (iv (aA q1)):=by
 obtain⟨r1,rfl⟩:=h1.fo
 refine gs1 (nt:=39) Tryz.func95 rfl rfl rfl fun a st hF=>wq<|bx st hF 0 rfl rfl fun g1 w1 a st hF=>?_
 refine oC hF rfl fun a hF=>nq<|oL hF st 1 0 ag rfl rfl rfl rfl fun a hF=>cX st hF (rgc CX (aG hF.o)) (wN _ (q1) k _ (h1.below st.bel) (by omega) (by omega) (by omega) (by omega)) rfl fun w2 a st hF=>oA hF 0 rfl rfl fun a hF=>E.nil ?_
 refine E.mid (I:=fun a wv=>¬fW q1=true/\Fr 39 a [(3,iv (Rat.floor (q1))),(1,.pointer (some ⟨g1,0,none⟩))]/\St w wv [(g1,r1.l)] []) ?_ ?_
 ·refine wp_seq<|E.seq<|oM hF 0 rfl rfl fun a hF=>S.ck st hF (rgc bM (aL hF.o ao)) eE Rh.cl rfl fun vv4 w3 a st hF=>?_
  obtain⟨r6,rfl⟩:=Rr.fo (st.f 0 rfl).1
  refine cX st hF (rgc Dh (aG hF.o)) (lf _ _ 2 2 _ (st.f 0 rfl).1 (st.f 0 rfl).2 (by omega) (by omega) (by omega)) rfl fun w7 a st hF=>oM hF 0 rfl rfl fun a hF=>?_
  by_cases hc8:full (((Rat.floor (q1):Int):Rat))=true
  ·first
   |(exfalso;omega)
   |(refine E.opvg hF (ar (hF.at 8 rfl) (bK ag (st.bk 0 rfl) rfl)) (au rfl rfl (Eq.trans hF.o (congrArg Value.bool hc8)) rfl) rfl rfl rfl fun a hF=>?_
     refine S.callxg st hF (au rfl rfl (Eq.trans hF.p (congrArg Value.bool hc8)) rfl) (rgc Dh (aG hF.o)) (lf _ (q1) k i _ (h1.below st.bel) li1 (by omega) (by omega) (by omega)) rfl rfl rfl fun w9 a st hF=>?_
     by_cases hc10:full (q1)=true
     ·first
      |(exfalso;omega)
      |(refine E.opvg hF (dF (Eq.trans hF.o (congrArg Value.bool hc10)) (cO _ false rfl)) (au rfl rfl (Eq.trans hF.q (congrArg Value.bool hc8)) rfl) rfl rfl rfl fun a hF=>?_
        refine oV hF (aK (Eq.trans (hF.at 3 rfl) (congrArg Value.bool hc8)) hF.o) rfl fun a hF=>E.nil<|wp_cond_false hF.o<|wp_skip<|E.norm ?_
        exact⟨(L4 hc10),Fr.pick (L':=[(3,iv (Rat.floor (q1))),(1,.pointer (some ⟨g1,0,none⟩))]) hF [8,12] rfl,st.pick [0] [] rfl rfl (by decide)⟩)
     ·first
      |(exfalso;omega)
      |(refine E.opvg hF (dF (Eq.trans hF.o (congrArg Value.bool (eq_false_of_ne_true hc10))) (cO _ true rfl)) (au rfl rfl (Eq.trans hF.q (congrArg Value.bool hc8)) rfl) rfl rfl rfl fun a hF=>?_
        refine oV hF (aK (Eq.trans (hF.at 3 rfl) (congrArg Value.bool hc8)) hF.o) rfl fun a hF=>E.nil<|wp_cond_true hF.o<|wq ?_
        refine oM hF 8 rfl rfl fun a hF=>oE hF 0 rfl rfl fun a hF=>nr<|E.pastr ?_
        have bel:=st.bel
        refine rt Tryz.results95 hF 0 rfl ?_
        exact⟨ch (nA (Lz hc8 hc10)).symm,bel⟩))
  ·first
   |(exfalso;omega)
   |(refine E.unwanted hF (au rfl rfl (Eq.trans hF.o (congrArg Value.bool (eq_false_of_ne_true hc8))) rfl) rfl rfl rfl fun a hF=>?_
     refine E.unwanted hF (au rfl rfl (Eq.trans hF.p (congrArg Value.bool (eq_false_of_ne_true hc8))) rfl) rfl rfl rfl fun a hF=>?_
     refine E.unwanted hF (au rfl rfl (Eq.trans hF.q (congrArg Value.bool (eq_false_of_ne_true hc8))) rfl) rfl rfl rfl fun a hF=>?_
     refine oV hF (aQ (Eq.trans (hF.at 3 rfl) (congrArg Value.bool (eq_false_of_ne_true hc8))) ao) rfl fun a hF=>E.nil<|wp_cond_false hF.o<|wp_skip<|E.norm ?_
     exact⟨(Pd hc8),Fr.pick (L':=[(3,iv (Rat.floor (q1))),(1,.pointer (some ⟨g1,0,none⟩))]) hF [8,12] rfl,st.pick [0] [] rfl rfl (by decide)⟩)
 ·rintro a w11 ⟨hno0,hF,st⟩
  refine wp_seq ?_
  refine E.rg 11 aM hF [17,18,19,20,21,22,23,24,25,26,4] [_,.ex (iv ((Rat.floor (q1))-1)),_,_,_,_,_,_,_,.ex (iv (min ((Rat.floor (q1))-1) (Rat.floor ((q1)-((bv (q1))*(((10:Int):Rat)/((135:Int):Rat))))))),.ex (iv (min ((Rat.floor (q1))-1) (Rat.floor ((q1)-((bv (q1))*(((10:Int):Rat)/((135:Int):Rat)))))))] (by decide+kernel) rfl rfl rfl ⟨rm 0 rfl,(by intro a' w' hF' hb hd;have e17:=tE hd 0 rfl;exact dv0 (aq e17 ao aa (bB (by omega) (by omega))) rfl rfl rfl),rb st ag 1 0 rfl,rb st ag 1 0 rfl,ck st Qi rfl fun _ s=>B0 ⟨(h1.below s.bel),li1⟩,ck st bM rfl fun _ s=>dS,ck st dA rfl fun _ s _ x21 _ x22=>cR x21 x22,ck st ij rfl fun _ s _ x23=>fU ⟨(h1.below s.bel),li1⟩ x23,ck st CX rfl fun _ s _ x24=>bD (wN _ ((q1)-((bv (q1))*(((10:Int):Rat)/((135:Int):Rat)))) (k+((6*k+22*i+1100)+2)+1) _ x24.1 (by omega) (by omega) (by have:=Ab q1;omega) (by have:=Ab q1;omega)),(by intro a' w' hF' hb hd;have e18:=tE hd 0 rfl;have e25:=tE hd 1 rfl;exact dv0 (aW (aL e18 e25) rC) rfl rfl rfl),(by intro a' w' hF' hb hd;have e26:=tE hd 0 rfl;exact dv0 (aZ e26) rfl rfl rfl),trivial⟩ ?_
  intro a w12 hF bb hall
  replace st:=st.to bb
  replace hF:=rE hall hF 10 rfl rfl
  clear hall bb
  refine ns<|wq<|oC hF rfl fun a hF=>E.nil<|wp_block ?_
  refine E.loop (fun mq a wv=>∃(j:Int) (m:Int),0<=m/\j=uR q1-m/\bL (Rat.floor q1)<=j/\¬fW q1=true/\Fr 39 a [(5,iv m),(4,iv j)]/\St w wv [] []/\mq=(40-m:Int).toNat) ((40-0:Int).toNat) ?_ ?_
  ·exact⟨(min ((Rat.floor (q1))-1) (Rat.floor ((q1)-((bv (q1))*(((10:Int):Rat)/((135:Int):Rat)))))),0,(Int.le_refl _),(show _=uR q1-0 from(Int.sub_zero _).symm),(yf hno0).1,hno0,Fr.pick (L':=[(5,iv 0),(4,iv (min ((Rat.floor (q1))-1) (Rat.floor ((q1)-((bv (q1))*(((10:Int):Rat)/((135:Int):Rat)))))))]) hF [0,1] rfl,st.pick [] [] rfl rfl (by decide),rfl⟩
  ·rintro mq a w13 ⟨j,m,hm0,hj,hL,hno,hF,st,hm⟩
   have hlb:=yf hno
   refine wp_seq<|wq<|oM hF 0 rfl rfl fun a hF=>oT hF 0 (aY (c:=true) (aI (by omega))) rfl rfl fun a hF=>oM hF 0 rfl rfl fun a hF=>og hF (aD (hF.at 4 rfl)) 0 rfl rfl rfl fun a hF=>?_
   refine S.callxg st hF (au rfl rfl hF.p rfl) (rgc Sh (aG hF.o)) (Ah j _ (by omega) (by omega)) rfl rfl rfl fun w14 a st hF=>?_
   by_cases hc15:aN j=true
   ·first
    |(exfalso;omega)
    |(refine og hF (dF (Eq.trans hF.o (congrArg Value.bool hc15)) (cO _ false rfl)) 2 rfl rfl rfl fun a hF=>?_
      refine oV hF (aK (hF.at 3 rfl) hF.o) rfl fun a hF=>E.nil<|wp_cond_false hF.o<|wp_exit<|E.past<|E.past<|E.out (id:=0)<|E.norm<|wq ?_
      refine oM hF 8 rfl rfl fun a hF=>oA hF 0 rfl rfl fun a hF=>nr ?_
      have bel:=st.bel
      refine rt Tryz.results95 hF 0 rfl ?_
      exact⟨ch (by rw[kG hno];exact yV hL (by omega) hc15),bel⟩)
   ·first
    |(exfalso;omega)
    |(refine og hF (dF (Eq.trans hF.o (congrArg Value.bool (eq_false_of_ne_true hc15))) (cO _ true rfl)) 2 rfl rfl rfl fun a hF=>?_
      refine oV hF (aK (hF.at 3 rfl) hF.o) rfl fun a hF=>E.nil<|wp_cond_true hF.o<|wp_skip<|E.norm<|wp_seq<|wp_block<|E.seq<|oM hF 8 rfl rfl fun a hF=>oV hF (aq hF.o ao aa (bB (by omega) (by omega))) rfl fun a hF=>oE hF 0 rfl rfl fun a hF=>E.nil0 ?_
      refine E.blk<|E.norm<|E.seq<|oM hF 10 rfl rfl fun a hF=>oV hF (aq hF.o ao aa (aX (by omega) (by omega))) rfl fun a hF=>oE hF 0 rfl rfl fun a hF=>E.nil0<|E.norm ?_
      exact⟨(40-(m+1):Int).toNat,by omega,⟨(j-1),(m+1),(by omega),(by omega),(by have:=zH hL hc15;omega),hno,Fr.pick (L':=[(5,iv (m+1)),(4,iv (j-1))]) hF [0,3] rfl,st.pick [] [] rfl rfl (by decide),rfl⟩⟩)
theorem lB {t u:Rat} (h:t<=u):turn t<=turn u:=by
 have r:=(kU t (d:=u-t) (by grind)).1
 rw[show t+(u-t)=u by grind] at r
 have a:=dL t
 have b:=dL u
 rw[fh] at*
 have l:((turn t:Int):Rat)<((turn u+1:Int):Rat):=by rw[Rat.intCast_add,Rat.intCast_one];grind
 have:=Rat.intCast_lt_intCast.1 l
 omega
theorem qR (t:Rat):turn t=aP (aA t+1):=by
 have f0:=fe t
 have f1:=fA t
 have e:((t.floor:Int):Rat)+(t-((t.floor:Int):Rat))=t:=by grind
 have i:=mV ((t.floor:Int):Rat) (d:=t-((t.floor:Int):Rat)) (by grind) (by grind)
 rw[e] at i
 by_cases h:fW t=true
 ·rw[nA h]
  have c:=(cS _).1 (xl h)
  unfold fW at h
  rw[Bool.and_eq_true,Bool.not_eq_true'] at h
  have j:=i.1 h
  unfold aP at*
  omega
 ·rw[kG h]
  have s:=ce t.floor
  have b:=iS (a:=bL t.floor+1) (b:=t.floor) (by omega) fun m h1 h2=>s.2.2.2 m (by omega) h2
  have u:=lF ((t.floor:Int):Rat) (d:=t-((t.floor:Int):Rat)) (by grind) (by grind)
  rw[e] at u
  rcases u with u|u
  ·unfold aP at*;omega
  ·exfalso
   have j:=i.2 u.1
   apply h
   unfold fW
   rw[j.1,j.2];rfl
theorem C5 {L M:Int} (h:aN L=true) (g:aN M=true) (e:aP (L+1)=aP (M+1)):L=M:=by
 rw[cS] at h g
 rcases Int.lt_trichotomy L M with l|l|l
 ·have:=dv (a:=L+1) (b:=M) (by omega);omega
 ·exact l
 ·have:=dv (a:=M+1) (b:=L) (by omega);omega
theorem gq {n:Int} (h:aN n=true):aP (aw n+1)=aP (n+1)+1:=by
 have s:=bC h
 have c:=(cS _).1 s.2.2.1
 have b:=iS (a:=n+1) (b:=aw n) (by omega) fun m h1 h2=>s.2.2.2 m (by omega) h2
 omega
def tiV (t:Rat):Int:=(phU t*(1/12)).floor
theorem xM (t:Rat):12*((tiV t:Int):Rat)<=phU t/\phU t<12*((tiV t:Int):Rat)+12:=by
 have a:=fe (phU t*(1/12))
 have b:=fA (phU t*(1/12))
 unfold tiV
 constructor <;> grind
theorem Ds {t:Rat} {k:Int} (h:12*((k:Int):Rat)<=phU t):k<=tiV t:=Rat.le_floor_iff.2 (by grind)
theorem Rf {t:Rat} {k:Int} (h:phU t<12*((k:Int):Rat)):tiV t<k:=Rat.floor_lt_iff.2 (by grind)
theorem PZ (t:Rat):prt (bv t) 30=tiV t%30:=by
 rw[zB,wG (by decide),show((30:Int):Rat)/((360:Int):Rat)=1/12 by decide+kernel]
 rfl
theorem Ni (t:Rat):turn t=tiV t/30:=by
 have k:=xM t
 have b:=dL t
 rw[fh] at b
 have e:=Int.mul_ediv_add_emod (tiV t) 30
 have m0:=Int.emod_nonneg (tiV t) (b:=30) (by omega)
 have m1:=Int.emod_lt_of_pos (tiV t) (b:=30) (by omega)
 have c0:=Rat.intCast_le_intCast.2 (show 30*(tiV t/30)<=tiV t by omega)
 have c1:=Rat.intCast_le_intCast.2 (show tiV t<=30*(tiV t/30)+29 by omega)
 rw[Rat.intCast_add,Rat.intCast_mul] at c1
 rw[Rat.intCast_mul] at c0
 rw[show((30:Int):Rat)=30 from rfl] at c0 c1
 rw[show((29:Int):Rat)=29 from rfl] at c1
 have l:((turn t:Int):Rat)<((tiV t/30+1:Int):Rat):=by rw[Rat.intCast_add,Rat.intCast_one];grind
 have g:((tiV t/30:Int):Rat)<((turn t+1:Int):Rat):=by rw[Rat.intCast_add,Rat.intCast_one];grind
 have:=Rat.intCast_lt_intCast.1 l
 have:=Rat.intCast_lt_intCast.1 g
 omega
theorem lN {t u:Rat} (h:t<=u):1098/100*(u-t)<=phU u-phU t/\phU u-phU t<=134/10*(u-t):=by
 have:=kU t (d:=u-t) (by grind)
 rwa[show t+(u-t)=u by grind] at this
theorem Cp {lat:Rat} (lon:Rat) (h0: -60<=lat) (h1:lat<=60) (n:Int):tiV (riV lat lon n)<=tiV (riV lat lon (n+1))/\tiV (riV lat lon (n+1))<=tiV (riV lat lon n)+2:=by
 have s:=vK lon h0 h1 n
 have p:=lN (t:=riV lat lon n) (u:=riV lat lon (n+1)) (by grind)
 have b:=xM (riV lat lon n)
 refine⟨Ds (by grind),?_⟩
 have:=Rf (t:=riV lat lon (n+1)) (k:=tiV (riV lat lon n)+3) (by rw[Rat.intCast_add,show((3:Int):Rat)=3 from rfl];grind)
 omega
theorem NW {lat:Rat} (lon:Rat) (h0: -60<=lat) (h1:lat<=60) (n:Int):tiV (riV lat lon n)<tiV (riV lat lon (n+1+1)):=by
 have s:=vK lon h0 h1 n
 have s':=vK lon h0 h1 (n+1)
 have p:=lN (t:=riV lat lon n) (u:=riV lat lon (n+1+1)) (by grind)
 have b:=xM (riV lat lon n)
 have:=Ds (t:=riV lat lon (n+1+1)) (k:=tiV (riV lat lon n)+1) (by rw[Rat.intCast_add,Rat.intCast_one];grind)
 omega
theorem pt (t d:Rat):(ii (t+d)-ii t).abs <=msz*(225/224)*(((360:Int):Rat)*(d/pam-1)).abs :=
 oq (n:=1) vt (by decide+kernel) (by decide+kernel) (by decide+kernel) (by decide+kernel) (by rw[dJ,Rat.intCast_one];grind)
theorem Im (t:Rat):360<=phU (t+299/10)-phU t:=by
 have a:=cv (qi t (299/10))
 have b:=cv (pt t (299/10))
 have ka:ssz*(225/224)*(((360:Int):Rat)*((299/10)/pay)).abs <116/100:=by decide+kernel
 have kb:msz*(225/224)*(((360:Int):Rat)*((299/10)/pam-1)).abs <275/100:=by decide+kernel
 have k:((360:Int):Rat)/psy=((360:Int):Rat)/pmo-((360:Int):Rat)/pyr:=by decide+kernel
 have k2:1219/100<((360:Int):Rat)/psy:=by decide+kernel
 have e:phU (t+299/10)-phU t=((360:Int):Rat)/psy*(299/10)-(ii (t+299/10)-ii t)+(dt (t+299/10)-dt t):=by
  unfold phU jm cz;rw[k,dJ,dJ,Rat.div_def,Rat.div_def,Rat.div_def,Rat.div_def];grind
 rw[e]
 generalize ((360:Int):Rat)/psy=y at*
 grind
theorem vF {L:Int} (h:aN L=true):turn (nmL L)=aP L/\turn (nmR L)=aP (L+1):=by
 have c:=(cS L).1 h
 have i:=(mV (nmL L) (d:=1/1024) (by decide+kernel) (by decide+kernel)).1 ⟨Ki.1 (QF h),by rw[<-oj];exact K8.1 (RO h)⟩
 rw[<-oj] at i
 have b:=eT L
 have l:=oj L
 have r:=EV wax (lo:=((L:Int):Rat)) (hi:=(((L+1:Int)):Rat)) (by rw[ft];grind) 10
 have x:=lB (t:=((L:Int):Rat)) (u:=nmL L) r.1
 have y:=lB (t:=nmR L) (u:=(((L+1:Int)):Rat)) (by rw[ft];exact b.2)
 unfold aP at*
 omega
theorem pn (t:Rat):nmR (aA t)-1/1024<t/\t<nmR (aA t)+29902/1000:=by
 have e:=qR t
 have h:=gD t
 generalize aA t=L at*
 have n:=vF h
 have c:=(cS L).1 h
 have l:=oj L
 constructor
 ·refine Rat.not_le.1 fun q=>?_
  have:=lB (t:=t) (u:=nmL L) (by grind)
  omega
 ·refine Rat.not_le.1 fun q=>?_
  have g:=Im (nmR L)
  have a:=dL (nmR L)
  have b:=dL (nmR L+299/10)
  rw[fh] at*
  have u:((turn (nmR L):Int):Rat)<((turn (nmR L+299/10):Int):Rat):=by grind
  have:=Rat.intCast_lt_intCast.1 u
  have:=lB (t:=nmR L+299/10) (u:=t) (by grind)
  omega
theorem oG {lat lon:Rat} (h0: -60<=lat) (h1:lat<=60) (l0: -180<=lon) (l1:lon<=180) (n:Int):((n:Int):Rat)-301/1000<=riV lat lon n/\riV lat lon n<=((n:Int):Rat)+17/10:=by
 have b:=FL ((n:Int):Rat) (qd:=1) (sg:=1) (.inl ⟨rfl,rfl⟩) h0 h1 l0 l1
 have g:=iV (cr ((n:Int):Rat) lat lon 1 1)
 unfold riV
 constructor <;> grind
theorem JA {lat lon:Rat} (h0: -60<=lat) (h1:lat<=60) (l0: -180<=lon) (l1:lon<=180) (n:Int) (g0:1<=smV (aA (riV lat lon n))%12) (g1:smV (aA (riV lat lon n))%12<=10):kaV (((n-1:Int)):Rat)/12=(smV (aA (riV lat lon n))+1)/12:=by
 have r:=oG h0 h1 l0 l1 n
 have m:=pn (riV lat lon n)
 have k:=ki (nmR (aA (riV lat lon n)))
 have d:(((n-1:Int)):Rat)=((n:Int):Rat)-1:=by rw[Rat.intCast_sub,Rat.intCast_one]
 have e:kaV (nmR (aA (riV lat lon n)))=smV (aA (riV lat lon n)):=rfl
 rw[e] at k
 generalize smV (aA (riV lat lon n))=s at*
 generalize nmR (aA (riV lat lon n))=R at*
 have lo:s-1<=kaV (((n-1:Int)):Rat):=pM (by
  rw[Rat.intCast_sub,Rat.intCast_one]
  by_cases q:R<=(((n-1:Int)):Rat)
  ·have:=fq q;grind
  ·have:=fq (t:=(((n-1:Int)):Rat)) (u:=R) (by grind);grind)
 have hi:kaV (((n-1:Int)):Rat)<s+2:=sm (by
  rw[Rat.intCast_add,show((2:Int):Rat)=2 from rfl]
  by_cases q:R<=(((n-1:Int)):Rat)
  ·have:=fq q;grind
  ·have:=fq (t:=(((n-1:Int)):Rat)) (u:=R) (by grind);grind)
 omega
theorem Ij {lat lon:Rat} (h0: -60<=lat) (h1:lat<=60) (l0: -180<=lon) (l1:lon<=180) (n:Int) (g:¬(1<=smV (aA (riV lat lon n))%12/\smV (aA (riV lat lon n))%12<=10)):kaV (((n+180:Int)):Rat)/12=(smV (aA (riV lat lon n))+1)/12:=by
 have r:=oG h0 h1 l0 l1 n
 have m:=pn (riV lat lon n)
 have k:=ki (nmR (aA (riV lat lon n)))
 have d:(((n+180:Int)):Rat)=((n:Int):Rat)+180:=by rw[Rat.intCast_add];rfl
 have e:kaV (nmR (aA (riV lat lon n)))=smV (aA (riV lat lon n)):=rfl
 rw[e] at k
 generalize smV (aA (riV lat lon n))=s at*
 generalize nmR (aA (riV lat lon n))=R at*
 have a:=fq (t:=R) (u:=(((n+180:Int)):Rat)) (by grind)
 have lo:s+5<=kaV (((n+180:Int)):Rat):=pM (by rw[Rat.intCast_add s 5,show((5:Int):Rat)=5 from rfl];grind)
 have hi:kaV (((n+180:Int)):Rat)<s+9:=sm (by rw[Rat.intCast_add s 9,show((9:Int):Rat)=9 from rfl];grind)
 omega
theorem Nq {lat lon:Rat} (h0: -60<=lat) (h1:lat<=60) (l0: -180<=lon) (l1:lon<=180) (n:Int):aA (riV lat lon n)<=n+2/\n<=aw (aA (riV lat lon n))+1/\n-40<=aA (riV lat lon n):=by
 have r:=oG h0 h1 l0 l1 n
 have e:=qR (riV lat lon n)
 have h:=gD (riV lat lon n)
 have m:=pn (riV lat lon n)
 generalize aA (riV lat lon n)=L at*
 generalize riV lat lon n=t at*
 have b:=eT L
 have s:=bC h
 have x:=eT (aw L)
 have p:=vF s.2.2.1
 have q:=gq h
 have lt:t<nmR (aw L):=Rat.not_le.1 fun y=>by have:=lB y;omega
 refine⟨?_,?_,?_⟩
 ·have l:((L:Int):Rat)<((n+2:Int):Rat):=by rw[Rat.intCast_add,show((2:Int):Rat)=2 from rfl];grind
  have:=Rat.intCast_lt_intCast.1 l
  omega
 ·have l:((n:Int):Rat)<((aw L+2:Int):Rat):=by rw[Rat.intCast_add,show((2:Int):Rat)=2 from rfl];grind
  have:=Rat.intCast_lt_intCast.1 l
  omega
 ·have l:((n-40:Int):Rat)<((L:Int):Rat):=by rw[Rat.intCast_sub,show((40:Int):Rat)=40 from rfl];grind
  have:=Rat.intCast_lt_intCast.1 l
  omega
def fiE (y m:Int):Int:=(gu (12*(y+3044)+(m-2))).floor
def fiS (y m:Int):Int:=12*(y+3044)+(m-2)+23470560000
theorem fw {n y m:Int} (h:smV n=fiS y m):fiE y m-4<=n/\n<=fiE y m+35:=by
 have f0:=fe (gu (12*(y+3044)+(m-2)))
 have f1:=fA (gu (12*(y+3044)+(m-2)))
 have u:=Cs (12*(y+3044)+(m-2))
 have e:=cv (jC (gu (12*(y+3044)+(m-2))))
 rw[show((22:Int):Rat)/((10:Int):Rat)=22/10 by decide+kernel] at e
 have k:=ki (nmR n)
 have b:=eT n
 rw[show kaV (nmR n)=smV n from rfl,h] at k
 unfold fiE fiS at*
 generalize 12*(y+3044)+(m-2)=s at*
 generalize gu s=E at*
 generalize nmR n=R at*
 constructor
 ·refine Int.not_lt.1 fun q=>?_
  have q2:=Rat.intCast_le_intCast.2 (show n+5<=E.floor by omega)
  rw[Rat.intCast_add,show((5:Int):Rat)=5 from rfl] at q2
  have a:=fq (t:=R) (u:=E) (by grind)
  grind
 ·refine Int.not_lt.1 fun q=>?_
  have q2:=Rat.intCast_le_intCast.2 (show E.floor+36<=n by omega)
  rw[Rat.intCast_add,show((36:Int):Rat)=36 from rfl] at q2
  have a:=fq (t:=E) (u:=R) (by grind)
  grind
theorem Qj {n y m:Int} (h0:fiE y m-5<=n) (h1:n<=fiE y m+40) (e:(smV n+1)%12+1=m):smV n=fiS y m:=by
 have f0:=fe (gu (12*(y+3044)+(m-2)))
 have f1:=fA (gu (12*(y+3044)+(m-2)))
 have u:=Cs (12*(y+3044)+(m-2))
 have ee:=cv (jC (gu (12*(y+3044)+(m-2))))
 rw[show((22:Int):Rat)/((10:Int):Rat)=22/10 by decide+kernel] at ee
 have b:=eT n
 have lo:fiS y m-1<=kaV (nmR n)/\kaV (nmR n)<fiS y m+2:=by
  unfold fiE fiS at*
  generalize 12*(y+3044)+(m-2)=s at*
  generalize gu s=E at*
  generalize nmR n=R at*
  have q0:=Rat.intCast_le_intCast.2 h0
  have q1:=Rat.intCast_le_intCast.2 h1
  rw[Rat.intCast_sub,show((5:Int):Rat)=5 from rfl] at q0
  rw[Rat.intCast_add,show((40:Int):Rat)=40 from rfl] at q1
  constructor
  ·refine pM ?_
   rw[Rat.intCast_sub,Rat.intCast_one]
   by_cases q:E<=R
   ·have:=fq q;grind
   ·have:=fq (t:=R) (u:=E) (by grind);grind
  ·refine sm ?_
   rw[Rat.intCast_add,show((2:Int):Rat)=2 from rfl]
   by_cases q:E<=R
   ·have:=fq q;grind
   ·have:=fq (t:=R) (u:=E) (by grind);grind
 have x:kaV (nmR n)=smV n:=rfl
 unfold fiS at*
 omega
theorem DH {s y m:Int} (hm:1<=m) (hm2:m<=12):s=fiS y m↔(s+1)/12-1955880000-3044=y/\(s+1)%12+1=m:=by
 unfold fiS
 omega
theorem Ms {L M:Int} (hL:aN L=true) (hM:aN M=true) (e:smV L=smV M) (l:L<M):M=aw L:=by
 have s:=bC hL
 have t:=bC s.2.2.1
 rcases Int.lt_trichotomy M (aw L) with q|q|q
 ·exact absurd hM (s.2.2.2 M l q)
 ·exact q
 ·exfalso
  have g:aw (aw L)<=M:=Int.not_lt.1 fun x=>t.2.2.2 M q x hM
  have a:=eT L
  have b:=eT M
  have c:=Rat.intCast_le_intCast.2 (show L+56<=M by omega)
  rw[Rat.intCast_add,show((56:Int):Rat)=56 from rfl] at c
  have:=zy (t:=nmR L) (u:=nmR M) (by grind)
  unfold smV at e
  omega
theorem BA {L M:Int} (hL:aN L=true) (hM:aN M=true) (e:smV L=smV M) (f:(smV L%12=smV (aw L)%12)↔(smV M%12=smV (aw M)%12)):L=M:=by
 have key:∀ {A B:Int},aN A=true->aN B=true->smV A=smV B->A<B->smV A%12=smV (aw A)%12/\¬smV B%12=smV (aw B)%12:=by
  intro A B hA hB e l
  have p:=Ms hA hB e l
  have t:=rl hA
  have b:=gS hB
  rw[<-p] at t ⊢
  constructor
  ·rw[e]
  ·omega
 rcases Int.lt_trichotomy L M with q|q|q
 ·have:=key hL hM e q
  exact absurd (f.1 this.1) this.2
 ·exact q
 ·have:=key hM hL e.symm q
  exact absurd (f.2 this.1) this.2
theorem Qs {lat:Rat} (lon:Rat) (h0: -60<=lat) (h1:lat<=60) {m n:Int} (l:m<=n):tiV (riV lat lon m)<=tiV (riV lat lon n):=by
 have key:∀k:Nat,tiV (riV lat lon m)<=tiV (riV lat lon (m+k)):=by
  intro k
  induction k with
  |zero=>rw[show m+((0:Nat):Int)=m by omega];exact Int.le_refl _
  |succ k ih=>
   rw[show m+(((k+1:Nat)):Int)=m+k+1 by omega]
   have:=(Cp lon h0 h1 (m+k)).1
   omega
 have:=key (n-m).toNat
 rwa[show m+(((n-m).toNat :Nat):Int)=n by omega] at this
end Go.Proofs.YtgdpkknapcgcbaaGreatDoor
