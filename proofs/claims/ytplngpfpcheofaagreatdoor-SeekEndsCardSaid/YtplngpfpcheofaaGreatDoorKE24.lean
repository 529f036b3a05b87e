import Derived.Test.YtplngpfpcheofaaGreatDoorKE22
import Derived.Test.YtplngpfpcheofaaGreatDoorKE23
namespace Go.Proofs.YtplngpfpcheofaaGreatDoor
open Go.RowKit
set_option maxRecDepth 100000
set_option linter.unusedVariables false
set_option maxHeartbeats 8000000
section
section
def lin (S:Int→Int) (y:Rat):Rat:=(S y.floor:Rat)+(y-(y.floor:Rat))*((S (y.floor+1):Rat)-(S y.floor:Rat))
theorem tW {S:Int→Int} {n:Int} (h:∀k,S (k+n)=S k) (y:Rat):lin S (y+(n:Rat))=lin S y:=by
 unfold lin
 rw[Rat.floor_add_intCast,h,show y.floor+n+1=y.floor+1+n by omega,h,Rat.intCast_add]
 grind
theorem zU {S:Int→Int} (h:∀k,S k≤S (k+1)) {a b:Int} (hab:a≤b):S a≤S b:=by
 obtain⟨n,rfl⟩:∃n:Nat,b=a+n:=⟨(b-a).toNat,by omega⟩
 clear hab
 induction n with
 |zero=>simp
 |succ n ih=>
  have:=h (a+n)
  rw[show a+((n+1:Nat):Int)=a+n+1 by omega]
  omega
theorem fy {a b:Int} (h:a≤b):(a:Rat)≤(b:Rat):=Rat.intCast_le_intCast.2 h
theorem vL {S:Int→Int} {y:Rat} (h:S y.floor≤S (y.floor+1)):(S y.floor:Rat)≤lin S y:=by
 have h1:=iX y
 have h2:=fy h
 have:=Rat.mul_nonneg (show 0≤y-(y.floor:Rat) by grind) (show 0≤(S (y.floor+1):Rat)-(S y.floor:Rat) by grind)
 unfold lin;grind
theorem tK {S:Int→Int} {y:Rat} (h:S y.floor≤S (y.floor+1)):lin S y≤(S (y.floor+1):Rat):=by
 have h1:=jU y
 have h2:=fy h
 have:=Rat.mul_nonneg (show 0≤(y.floor:Rat)+1-y by grind) (show 0≤(S (y.floor+1):Rat)-(S y.floor:Rat) by grind)
 unfold lin;grind
theorem rJ {S:Int→Int} (h:∀k,S k≤S (k+1)) {y z:Rat} (hyz:y≤z):lin S y≤lin S z:=by
 by_cases e:y.floor=z.floor
 ·have h2:=fy (h z.floor)
  have:=Rat.mul_nonneg (show 0≤z-y by grind) (show 0≤(S (z.floor+1):Rat)-(S z.floor:Rat) by grind)
  unfold lin;rw[e];grind
 ·have hm:=Rat.floor_monotone hyz
  have h1:=tK (h y.floor)
  have h2:=vL (h z.floor)
  have h3:=fy (zU h (show y.floor+1≤z.floor by omega))
  grind
theorem mT (S:Int→Int) (c d:Int) (y:Rat):lin (fun k=>c*k+d*S k) y=(c:Rat)*y+(d:Rat)*lin S y:=by
 unfold lin
 simp only [Rat.intCast_add,Rat.intCast_mul,Rat.intCast_one]
 grind
theorem xq {S:Int→Int} (c:Int) (h:∀k, -c≤S (k+1)-S k∧S (k+1)-S k≤c) {y z:Rat} (hyz:y≤z):(lin S y-lin S z).abs ≤(c:Rat)*(z-y):=by
 have h1:=rJ (S:=fun k=>c*k+1*S k) (fun k=>by have:=h k;show c*k+1*S k≤c*(k+1)+1*S (k+1);rw[Int.mul_add];omega) hyz
 have h2:=rJ (S:=fun k=>c*k+(-1)*S k) (fun k=>by have:=h k;show c*k+(-1)*S k≤c*(k+1)+(-1)*S (k+1);rw[Int.mul_add];omega) hyz
 rw[mT,mT] at h1 h2
 rw[Rat.intCast_one] at h1
 rw[Rat.intCast_neg,Rat.intCast_one] at h2
 unfold Rat.abs
 split <;> grind
theorem yM {S:Int→Int} (c:Int) (h:∀k, -c≤S k∧S k≤c) (y:Rat): -(c:Rat)≤lin S y∧lin S y≤(c:Rat):=by
 have a1:=h y.floor
 have a2:=h (y.floor+1)
 have f1:=iX y
 have f2:=jU y
 have b1:=fy a1.1;have b2:=fy a1.2;have b3:=fy a2.1;have b4:=fy a2.2
 rw[Rat.intCast_neg] at b1 b3
 have m1:=Rat.mul_nonneg (show 0≤(y.floor:Rat)+1-y by grind) (show 0≤(c:Rat)-(S y.floor:Rat) by grind)
 have m2:=Rat.mul_nonneg (show 0≤y-(y.floor:Rat) by grind) (show 0≤(c:Rat)-(S (y.floor+1):Rat) by grind)
 have m3:=Rat.mul_nonneg (show 0≤(y.floor:Rat)+1-y by grind) (show 0≤(S y.floor:Rat)+(c:Rat) by grind)
 have m4:=Rat.mul_nonneg (show 0≤y-(y.floor:Rat) by grind) (show 0≤(S (y.floor+1):Rat)+(c:Rat) by grind)
 unfold lin
 constructor <;> grind
def ykf (h:Rat):Nat→Nat→Nat
 |0,k=>k
 |n+1,k=>if h≤(spk ((k:Int)+1):Rat) then k else ykf h n (k+1)
def yk (h:Rat):Nat:=ykf h 24 0
def ay (h:Rat):Rat:=if yk h<24 then(h-(spk (yk h):Rat))/((spk ((yk h:Nat)+1:Int)-spk (yk h):Int):Rat)+((yk h:Nat):Int) else((24:Int):Rat)
def ap (a:Rat):Rat:=if a<0 then -ay (-a) else ay a
def wd:Rat:=((360:Int):Rat)/((96:Int):Rat)
theorem jQ:wd=15/4:=by decide+kernel
def sof (x:Rat):Rat:=lin spk (x/wd)/((3438:Int):Rat)
def cK (a:Rat):Rat:=ap (a*((3438:Int):Rat))*wd
theorem gu:((3438:Int):Rat)=3438:=rfl
theorem k7 (y:Rat) (n:Int):lin spk (y+((96*n:Int):Rat))=lin spk y:=tW (fun k=>xA k n) y
theorem ue (y:Rat):lin spk (aH y ((96:Int):Rat))=lin spk y:=by
 unfold aH
 rw[if_neg (by decide+kernel)]
 have:=k7 y (-(y/((96:Int):Rat)).floor)
 rw[←this]
 congr 1
 rw[Rat.intCast_mul,Rat.intCast_neg];grind
theorem xG (x:Rat):(((spk (aH (x/wd) ((96:Int):Rat)).floor :Int):Rat)+(aH (x/wd) ((96:Int):Rat)-(((aH (x/wd) ((96:Int):Rat)).floor :Int):Rat))*((spk ((aH (x/wd) ((96:Int):Rat)).floor +1)-spk (aH (x/wd) ((96:Int):Rat)).floor :Int):Rat))/((3438:Int):Rat)=sof x:=by
 unfold sof
 rw[←ue (x/wd)]
 unfold lin
 rw[Rat.intCast_sub]
theorem yO (a b:Rat):(a+b)/wd=a/wd+b/wd:=by rw[jQ];grind
theorem m6 (p:Rat) (n:Int):sof (p+((360:Int):Rat)*(n:Rat))=sof p:=by
 unfold sof
 rw[yO,show((360:Int):Rat)*(n:Rat)/wd=((96*n:Int):Rat) by rw[jQ,Rat.intCast_mul,show((360:Int):Rat)=360 from rfl,show((96:Int):Rat)=96 from rfl];grind,k7]
theorem tp (p:Rat): -1≤sof p∧sof p≤1:=by
 have:=yM (S:=spk) 3438 ig (p/wd)
 unfold sof
 rw[gu] at*
 constructor <;> grind
theorem pV (p:Rat):sof p*((3438:Int):Rat)=lin spk (p/wd):=by unfold sof;rw[gu];grind
theorem s4 {a b:Rat} (h1: -b≤a) (h2:a≤b):a.abs≤b:=by unfold Rat.abs;split <;> grind
theorem rV (a:Rat):a≤a.abs∧ -a≤a.abs∧(a.abs=a∨a.abs= -a):=by unfold Rat.abs;split <;> grind
theorem xj (p q:Rat):(sof p-sof q).abs ≤(p-q).abs *(((60:Int):Rat)/((3438:Int):Rat)):=by
 have key:∀ {p q:Rat},p≤q→ -((q-p)*(60/3438))≤sof p-sof q∧sof p-sof q≤(q-p)*(60/3438):=by
  intro p q h
  have hw:p/wd≤q/wd:=by rw[jQ];grind
  have:=xq (S:=spk) 225 lX hw
  obtain⟨l1,l2,_⟩:=rV (lin spk (p/wd)-lin spk (q/wd))
  have e:((225:Int):Rat)*(q/wd-p/wd)=60*(q-p):=by rw[jQ,show((225:Int):Rat)=225 from rfl];grind
  rw[e] at this
  have s1:=pV p
  have s2:=pV q
  rw[gu] at s1 s2
  constructor <;> grind
 have e:((60:Int):Rat)/((3438:Int):Rat)=60/3438:=by decide+kernel
 rw[e]
 by_cases h:p≤q
 ·obtain⟨a,b⟩:=key h
  have:(p-q).abs =q-p:=by unfold Rat.abs;split <;> grind
  rw[this];exact s4 a b
 ·obtain⟨a,b⟩:=key (show q≤p by grind)
  have:(p-q).abs =p-q:=by unfold Rat.abs;split <;> grind
  rw[this];exact s4 (by grind) (by grind)
def pk (x:Rat):Int:=(aH (x/wd) ((96:Int):Rat)).floor
def pfr (x:Rat):Rat:=aH (x/wd) ((96:Int):Rat)-((pk x:Int):Rat)
theorem fD (x:Rat):0≤pk x∧pk x<96:=by
 have h:(0:Rat)<((96:Int):Rat):=by decide+kernel
 have h1:=bT (x:=x/wd) h
 have h2:=bH (x:=x/wd) h
 refine⟨Rat.le_floor_iff.2 (by rw[Rat.intCast_zero];exact h1),Rat.floor_lt_iff.2 h2⟩
theorem zG (x:Rat):ev (aH (x/wd) ((96:Int):Rat)).floor =pk x:=rE (by have:=fD x;unfold pk at this;omega) (by have:=fD x;unfold pk at this;omega)
theorem nM (x:Rat):(((spk (pk x):Int):Rat)+pfr x*((spk (pk x+1)-spk (pk x):Int):Rat))/((3438:Int):Rat)=sof x:=xG x
theorem gf:az wd 2:=(bf (aD (by decide) (by decide)) (aD (by decide) (by decide))).up 2 (by decide)
theorem ei {n:Int} (h0: -9223372036854775808≤n) (h1:n≤9223372036854775807):az ((n:Int):Rat) 2:=aN (aD h0 h1) (by decide)
theorem qI {x:Rat} {k:Nat} (h:az x k):az (aH (x/wd) ((96:Int):Rat)) (2*k+20):=(kA (b7 h gf) (ei (by decide) (by decide))).up _ (by omega)
theorem lZ {x:Rat} {k:Nat} (h:az x k):az (pfr x) (4*k+50):=(t9 (qI h)).up _ (by omega)
theorem cg (k:Int): -9223372036854775808≤spk k∧spk k≤9223372036854775807:=by have:=ig k;omega
theorem cT (k:Int): -9223372036854775808≤spk (k+1)-spk k∧spk (k+1)-spk k≤9223372036854775807:=by have:=lX k;omega
theorem sy {h:Rat} {k:Nat} (l:az h k):az (ay h) (k+10):=by
 unfold ay
 split
 ·exact(dw (b7 (bl l (ei (cg _).1 (cg _).2)) (ei (cT _).1 (cT _).2)) (ei (by omega) (by omega))).up _ (by omega)
 ·exact(ei (by decide) (by decide)).up _ (by omega)
theorem nH {x:Rat} {k:Nat} (l:az x k):az (cK x) (k+20):=by
 have h:=aV l (ei (n:=3438) (by decide) (by decide))
 unfold cK ap
 refine(aV (k:=k+12) ?_ gf).up _ (by omega)
 split
 ·exact fO (sy (fO h))
 ·exact sy h
theorem qo {k:Int} (h0:0≤k) (h1:k≤24):hiT.getD (max 0 (min k 24)).toNat 0=spk k:=by
 have t:∀n:Nat,n<25→hiT.getD (max 0 (min (n:Int) 24)).toNat 0=spk (n:Int):=by decide+kernel
 have:=t k.toNat (by omega)
 rwa[show((k.toNat:Nat):Int)=k by omega] at this
theorem tA {a b:Rat}:0<qc a b↔b<a:=by
 rw[nT]
 split
 ·constructor
  ·intro h;omega
  ·intro h;grind
 ·split
  ·constructor
   ·intro;assumption
   ·intro;omega
  ·constructor
   ·intro h;omega
   ·intro h;contradiction
theorem pv {h:Rat} {j:Nat} (hj:j<24) (e:ykf h (24-j) j=yk h) (hc:0<qc h ((spk (((j:Nat):Int)+1):Int):Rat)):ykf h (24-(j+1)) (j+1)=yk h:=by
 rw[←e,show 24-j=(24-(j+1))+1 by omega]
 show _=if h≤_ then _ else _
 have:=tA.1 hc
 rw[if_neg (by grind)]
theorem ph {h:Rat} {j:Nat} (hj:j<24) (e:ykf h (24-j) j=yk h) (hc:¬0<qc h ((spk (((j:Nat):Int)+1):Int):Rat)):yk h=j:=by
 rw[←e,show 24-j=(24-(j+1))+1 by omega]
 show(if h≤_ then _ else _)=_
 have:¬_<_:=fun q=>hc (tA.2 q)
 rw[if_pos (by grind)]
theorem n0 {x:Rat} {j:Nat} (hx:¬x<0) (hj:j<24) (e:yk (x*((3438:Int):Rat))=j):((x*((3438:Int):Rat)-((spk ((j:Nat):Int):Int):Rat))/((spk (((j:Nat):Int)+1)-spk ((j:Nat):Int):Int):Rat)+((((j:Nat):Int):Int):Rat))*wd=cK x:=by
 unfold cK ap
 rw[if_neg (by rw[gu];grind)]
 unfold ay
 rw[e,if_pos hj]
theorem lW {x:Rat} (hx:¬x<0) (e:yk (x*((3438:Int):Rat))=24):((90:Int):Rat)=cK x:=by
 unfold cK ap
 rw[if_neg (by rw[gu];grind)]
 unfold ay
 rw[e,if_neg (by decide)]
 decide+kernel
theorem pM {x:Rat} (hx:x<0): -(cK (-x))=cK x:=by
 unfold cK ap
 rw[if_neg (by rw[gu];grind),if_pos (by rw[gu];grind),show -x*((3438:Int):Rat)= -(x*((3438:Int):Rat)) by grind]
 grind
theorem iK {q:Rat}:sz q.num<0↔q<0:=by
 rw[sN]
 split
 ·constructor <;> intro <;> first|assumption|omega
 ·split
  ·constructor <;> intro <;> first|contradiction|omega
  ·constructor <;> intro <;> first|contradiction|omega
theorem qb {q:Rat} (h:q<0):¬sz (-q).num <0:=by
 rw[iK];grind
def tf (w:World) (x:Rat):Ending→World→Prop:=fun e w'=>∃v,e= .returned (.tuple #[.int .i64 (pk x),v])∧Rq w' v (pfr x)∧Below w.heap.size w w'
theorem zM {a b:Int} {v:Value} (h:a=b):Ending.returned (.tuple #[.int .i64 a,v])= .returned (.tuple #[.int .i64 b,v]):=by rw[h]
theorem oJ {P:Program} {fn:Func} {a:Act} {w:World} {t u:Tmp} {T:TypeId} {p:Addr} {v x:Value} (h:fn.results=#[.tmp t,.cell u T]) (hx:a.tmps.getD t undef=x) (ha:a.tmps.getD u undef= .pointer (some p)) (hl:(Instr.loadAt T (.pointer (some p))).run P w= .ok v w):
 (results fn a.tmps).run P w= .ok (.tuple #[x,v]) w:=by
 have hl':(loadVar T p).run P w= .ok v w:=hl
 have e:(asAddr (a.tmps.getD u undef)).run P w= .ok p w:=by rw[ha];rfl
 simp only [results,h,List.mapM_toArray,List.mapM_cons,List.mapM_nil,Sem.run_bind,e,Result.andThen_ok,hl',Sem.run_pure,Sem.run_map,hx]
 rfl
end
section
theorem km (k:Int) (w:World) (hT:cG w) (h0:0≤k) (h1:k≤24):Calls Tryz.prog 182 #[.int .i64 k] w (aX w (.int .i64 (spk k))):=by
 have:=kE k w hT
 rwa[show hiv k=spk k from qo h0 h1] at this
theorem mh (w:World):
 Calls Tryz.prog 183 #[] w (bg w wd):=by
 have st:=St.start w
 refine go0 (nt:=2) Tryz.func183 rfl rfl fun a hF=>?_
 refine wq ?_
 refine S.alloc st hF ag rfl rfl fun g0 w1 a st hF=>?_
 refine nq ?_
 refine ca st hF (rk k22 (ar ao ao)) (bZ (360) (96) _ (by decide) (by decide) (by decide) (by decide)) (fun _ _ h=>h) Rq.cl rfl fun vv3 w2 a st hF=>?_
 obtain⟨r5,rfl⟩:=Rq.fo (st.f 0 rfl)
 refine so st hF 0 1 0 ag rfl rfl rfl rfl fun w6 a st hF=>?_
 refine nr ?_
 refine rs Tryz.results183 st hF 1 0 ag rfl rfl rfl ?_
 have bel:=st.bel
 exact⟨_,rfl,(st.f 0 rfl),bel⟩
theorem oj (k:Int) (w:World) (hT:cG w) (h0: -1000000≤k) (h1:k≤1000000):
 Calls Tryz.prog 181 #[.int .i64 k] w (aX w (.int .i64 (spk (k+1)-spk k))):=by
 have hsa:=ig k
 have hsb:=ig (k+1)
 have st:=St.start w
 refine go1 (nt:=9) Tryz.func181 rfl rfl rfl fun a hF=>?_
 refine wq ?_
 refine oC hF rfl fun a hF=>?_
 refine nq ?_
 refine oM hF 1 rfl rfl fun a hF=>?_
 refine oV hF (av (hF.at 0 rfl) ao ab (bh (by omega) (by omega))) rfl fun a hF=>?_
 refine cX st hF (rk uZ (aB (hF.at 0 rfl))) (jH (k+1) _ (hT.below st.bel)) rfl fun w1 a st hF=>?_
 refine oM hF 4 rfl rfl fun a hF=>?_
 refine cX st hF (rk uZ (aB (hF.at 0 rfl))) (jH k _ (hT.below st.bel)) rfl fun w2 a st hF=>?_
 refine oV hF (av (hF.at 2 rfl) (hF.at 0 rfl) ab (cC (by omega) (by omega))) rfl fun a hF=>?_
 refine oE hF 0 rfl rfl fun a hF=>?_
 refine nr ?_
 have bel:=st.bel
 refine rt Tryz.results181 hF 0 rfl ?_
 exact⟨rfl,bel⟩
theorem sx (v1:Value) (qx:Rat) (k:Nat) (w:World) (h1:Rq w v1 qx) (hl:az qx k) (hk:k≤900):
 Calls Tryz.prog 179 #[v1] w (tf w qx):=by
 have st:=St.start w
 refine go1 (nt:=20) Tryz.func179 rfl rfl rfl fun a hF=>?_
 refine wq ?_
 obtain⟨r2,rfl⟩:=Rq.fo h1
 refine bx st hF 0 rfl rfl fun g1 w1 a st hF=>?_
 refine oC hF rfl fun a hF=>?_
 refine S.alloc st hF ag rfl rfl fun g3 w3 a st hF=>?_
 refine ns ?_
 refine eD 6 aJ hF [7,8,9,10,11,4] [(Iz r2.v),(Iq (wd)),(Iq ((qx)/(wd))),(Iq (((96:Int):Rat))),(Iq (aH ((qx)/(wd)) (((96:Int):Rat)))),(Ip w3)] [5] (by decide+kernel) rfl rfl ⟨fun _ _ ⟨g,e,_,o⟩=>⟨g,e,o.lt⟩,trivial⟩ ⟨?_,?_,?_,?_,?_,?_,trivial⟩ ?_
 ·exact qL st 2 1 ag rfl rfl rfl rfl rfl
 ·intro a' w' hF' hb hd
  exact dc0 (rk xH eh) (mh _) rfl rfl
 ·intro a' w' hF' hb hd
  have e7:=tE hd 0 rfl
  obtain⟨v8_0,e8,h8_1⟩:=tH hd 1 rfl
  exact dc0 (rk nV (ar e7 e8)) (gV _ _ (qx) (wd) (max k 2) _ (h1.below (aa st.bel hb)) h8_1 (hl.up _ (by omega)) (gf.up _ (by omega)) (by omega)) rfl rfl
 ·intro a' w' hF' hb hd
  exact dc0 (rk k20 (aB ao)) (bK (96) _ (by decide) (by decide)) rfl rfl
 ·intro a' w' hF' hb hd
  obtain⟨v9_0,e9,h9_1⟩:=tH hd 0 rfl
  obtain⟨v10_0,e10,h10_1⟩:=tH hd 1 rfl
  exact dc0 (rk k94 (ar e9 e10)) (nY _ _ _ _ (k+2) 2 _ h9_1 h10_1 (b7 hl gf) (aN (aD (by decide) (by decide)) (by omega)) (by omega) (by omega)) rfl rfl
 ·intro a' w' hF' hb hd
  exact da0 ag rfl hb.size rfl
 intro a w4 hF bb hall hne
 have s0:=st
 replace st:=st.to bb
 obtain⟨vv5,hF,st⟩:=aS hall hF st 4 rfl rfl Rq.cl
 obtain⟨_,e4,g4,rfl,ge4,o4⟩:=sS hall 5 4 rfl rfl
 replace st:=st.push o4.blk (Nat.le_trans s0.bel.size ge4) (s0.ne ge4)
 clear o4
 clear hall hne bb s0
 obtain⟨r7,rfl⟩:=Rq.fo (st.f 0 rfl)
 replace hF:=hF.add e4
 clear e4
 refine so st hF 0 0 1 ag rfl rfl rfl rfl fun w8 a st hF=>?_
 refine nq ?_
 refine oL hF st 0 0 ag rfl rfl rfl rfl fun a hF=>?_
 refine cX st hF (rk k64 (aB (hF.at 0 rfl))) (mj _ _ ((k+2)+(k+2)+2+2+3) _ (st.f 0 rfl) (kA (k:=(k+2)) (j:=2) (b7 hl gf) (aN (aD (by decide) (by decide)) (by omega))) (by omega)) rfl fun w9 a st hF=>?_
 refine oM hF 0 rfl rfl fun a hF=>?_
 refine oV hF (a7 (v:= .int .i64 (ev (Rat.floor (aH ((qx)/(wd)) (((96:Int):Rat)))))) (hF.at 0 rfl) rfl) rfl fun a hF=>?_
 refine oV hF (a7 (v:= .bool (fa (Rat.floor (aH ((qx)/(wd)) (((96:Int):Rat)))))) (hF.at 1 rfl) rfl) rfl fun a hF=>?_
 refine oA hF 1 rfl rfl fun a hF=>?_
 refine oA hF 1 rfl rfl fun a hF=>?_
 refine nq ?_
 refine oM hF 1 rfl rfl fun a hF=>?_
 refine oL hF st 8 0 ag rfl rfl rfl rfl fun a hF=>?_
 refine ca st hF (rk yN (aB (hF.at 0 rfl))) (mw _ _ ((k+2)+(k+2)+2+2+3) _ (st.f 0 rfl) (kA (k:=(k+2)) (j:=2) (b7 hl gf) (aN (aD (by decide) (by decide)) (by omega))) (by omega)) (fun _ _ h=>h) Rq.cl rfl fun vv11 w10 a st hF=>?_
 obtain⟨r13,rfl⟩:=Rq.fo (st.f 0 rfl)
 refine oE hF 2 rfl rfl fun a hF=>?_
 refine so st hF 1 13 1 ag rfl rfl rfl rfl fun w14 a st hF=>?_
 refine nr ?_
 have bel:=st.bel
 refine bodyPost_ret (oJ Tryz.results179 (hF.at 0 rfl) (hF.at 13 rfl) (bp ag (st.bk 1 rfl) rfl)) hF.dfr ?_
 exact⟨_,zM (zG qx),(st.f 0 rfl),bel⟩
theorem vI (v1:Value) (qx:Rat) (k:Nat) (w:World) (hT:cG w) (h1:Rq w v1 qx) (hl:az qx k) (hk:k≤800):
 Calls Tryz.prog 164 #[v1] w (bg w (sof qx)):=by
 have st:=St.start w
 refine go1 (nt:=23) Tryz.func164 rfl rfl rfl fun a hF=>?_
 refine wq ?_
 obtain⟨r2,rfl⟩:=Rq.fo h1
 refine bx st hF 0 rfl rfl fun g1 w1 a st hF=>?_
 refine S.alloc st hF ag rfl rfl fun g2 w3 a st hF=>?_
 refine nq ?_
 refine oL hF st 1 1 ag rfl rfl rfl rfl fun a hF=>?_
 refine S.callt st hF (rk Ap (aB (hF.at 0 rfl))) (sx _ (qx) k _ (h1.below st.bel) hl (by omega)) (fun _ _ h=>h) Rq.cl rfl rfl rfl rfl fun vv5 w4 a st hF=>?_
 have hpk:=fD (qx)
 obtain⟨r7,rfl⟩:=Rq.fo (st.f 0 rfl)
 refine oM hF 0 rfl rfl fun a hF=>?_
 refine oV hF (a7 (v:= .int .i64 (pk (qx))) (hF.at 0 rfl) rfl) rfl fun a hF=>?_
 refine oV hF (a7 (v:= r7.v) (hF.at 1 rfl) rfl) rfl fun a hF=>?_
 refine S.alloc st hF ag rfl rfl fun g4 w8 a st hF=>?_
 refine oA hF 2 rfl rfl fun a hF=>?_
 refine so st hF 0 1 2 ag rfl rfl rfl rfl fun w9 a st hF=>?_
 refine ns ?_
 refine eD 10 aJ hF [11,12,13,14,15,16,17,18,19,5] [(Iz (.int .i64 (pk (qx)))),(Iz (.int .i64 (spk (pk (qx))))),(Iq (((spk (pk (qx)):Int):Rat))),(Iz r7.v),(Iz (.int .i64 (pk (qx)))),(Iz (.int .i64 (spk (pk (qx)+1)-spk (pk (qx))))),(Iq (((spk (pk (qx)+1)-spk (pk (qx)):Int):Rat))),(Iq ((pfr (qx))*(((spk (pk (qx)+1)-spk (pk (qx)):Int):Rat)))),(Iq ((((spk (pk (qx)):Int):Rat))+((pfr (qx))*(((spk (pk (qx)+1)-spk (pk (qx)):Int):Rat))))),(Ip w9)] [9] (by decide+kernel) rfl rfl ⟨fun _ _ ⟨g,e,_,o⟩=>⟨g,e,o.lt⟩,trivial⟩ ⟨?_,?_,?_,?_,?_,?_,?_,?_,?_,?_,trivial⟩ ?_
 ·exact qM 0 rfl rfl rfl
 ·intro a' w' hF' hb hd
  have e11:=tE hd 0 rfl
  exact bD (rk uZ (aB e11)) (jH (pk (qx)) _ (hT.below (aa st.bel hb))) (fun _=>rfl) rfl rfl
 ·intro a' w' hF' hb hd
  have e12:=tE hd 0 rfl
  exact dc0 (rk k20 (aB e12)) (bK (spk (pk (qx))) _ (cg (pk (qx))).1 (cg (pk (qx))).2) rfl rfl
 ·exact qL st 1 0 ag rfl rfl rfl rfl rfl
 ·exact qM 0 rfl rfl rfl
 ·intro a' w' hF' hb hd
  have e15:=tE hd 0 rfl
  exact bD (rk y6 (aB e15)) (oj (pk (qx)) _ (hT.below (aa st.bel hb)) (by omega) (by omega)) (fun _=>rfl) rfl rfl
 ·intro a' w' hF' hb hd
  have e16:=tE hd 0 rfl
  exact dc0 (rk k20 (aB e16)) (bK (spk (pk (qx)+1)-spk (pk (qx))) _ (cT (pk (qx))).1 (cT (pk (qx))).2) rfl rfl
 ·intro a' w' hF' hb hd
  have e14:=tE hd 0 rfl
  obtain⟨v17_0,e17,h17_1⟩:=tH hd 1 rfl
  exact dc0 (rk gL (ar e14 e17)) (di _ _ (pfr (qx)) _ (max (4*k+50) 2) _ ((st.f 0 rfl).below hb) h17_1 ((lZ hl).up _ (by omega)) ((aN (aD (cT (pk (qx))).1 (cT (pk (qx))).2) (by omega)).up _ (by omega)) (by omega)) rfl rfl
 ·intro a' w' hF' hb hd
  obtain⟨v13_0,e13,h13_1⟩:=tH hd 0 rfl
  obtain⟨v18_0,e18,h18_1⟩:=tH hd 1 rfl
  exact dc0 (rk k75 (ar e13 e18)) (fj _ _ _ _ (max 2 ((4*k+50)+2)) _ h13_1 h18_1 ((aN (aD (cg (pk (qx))).1 (cg (pk (qx))).2) (by omega)).up _ (by omega)) ((aV (lZ hl) (aN (aD (cT (pk (qx))).1 (cT (pk (qx))).2) (by omega))).up _ (by omega)) (by omega)) rfl rfl
 ·intro a' w' hF' hb hd
  exact da0 ag rfl hb.size rfl
 intro a w10 hF bb hall hne
 have s0:=st
 replace st:=st.to bb
 obtain⟨vv11,hF,st⟩:=aS hall hF st 8 rfl rfl Rq.cl
 obtain⟨_,e5,g5,rfl,ge5,o5⟩:=sS hall 9 5 rfl rfl
 replace st:=st.push o5.blk (Nat.le_trans s0.bel.size ge5) (s0.ne ge5)
 clear o5
 clear hall hne bb s0
 obtain⟨r13,rfl⟩:=Rq.fo (st.f 0 rfl)
 replace hF:=hF.add e5
 clear e5
 refine so st hF 0 0 1 ag rfl rfl rfl rfl fun w14 a st hF=>?_
 refine ns ?_
 refine eD 3 aJ hF [20,21,22] [(Iz r13.v),(Iq (((3438:Int):Rat))),(Iq (((((spk (pk (qx)):Int):Rat))+((pfr (qx))*(((spk (pk (qx)+1)-spk (pk (qx)):Int):Rat))))/(((3438:Int):Rat))))] [] (by decide+kernel) rfl rfl trivial ⟨?_,?_,?_,trivial⟩ ?_
 ·exact qL st 0 0 ag rfl rfl rfl rfl rfl
 ·intro a' w' hF' hb hd
  exact dc0 (rk k20 (aB ao)) (bK (3438) _ (by decide) (by decide)) rfl rfl
 ·intro a' w' hF' hb hd
  have e20:=tE hd 0 rfl
  obtain⟨v21_0,e21,h21_1⟩:=tH hd 1 rfl
  exact dc0 (rk nV (ar e20 e21)) (gV _ _ _ _ (max (2+((4*k+50)+2)+1) 2) _ ((st.f 0 rfl).below hb) h21_1 ((dw (aN (aD (cg (pk (qx))).1 (cg (pk (qx))).2) (by omega)) (aV (lZ hl) (aN (aD (cT (pk (qx))).1 (cT (pk (qx))).2) (by omega)))).up _ (by omega)) ((aN (aD (by decide) (by decide)) (by omega)).up _ (by omega)) (by omega)) rfl rfl
 intro a w15 hF bb hall hne
 replace st:=st.to bb
 obtain⟨vv16,hF,st⟩:=aS hall hF st 2 rfl rfl Rq.cl
 clear hall hne bb
 obtain⟨r18,rfl⟩:=Rq.fo (st.f 0 rfl)
 refine so st hF 2 10 0 ag rfl rfl rfl rfl fun w19 a st hF=>?_
 refine nr ?_
 refine rs Tryz.results164 st hF 10 2 ag rfl rfl rfl ?_
 have bel:=st.bel
 exact⟨_,rfl,Rq.castM (st.f 0 rfl) (nM qx),bel⟩
theorem pE (v1:Value) (qx:Rat) (k:Nat) (w:World) (hT:cG w) (h1:Rq w v1 qx) (hl:az qx k) (hk:k≤1000) (hn:¬sz (Rat.num qx)<0):
 Calls Tryz.prog 165 #[v1] w (bg w (cK qx)):=by
 have hx:¬qx<0:=fun e=>hn (iK.2 e)
 have st:=St.start w
 refine go1 (nt:=45) Tryz.func165 rfl rfl rfl fun a hF=>?_
 refine wq ?_
 obtain⟨r2,rfl⟩:=Rq.fo h1
 refine bx st hF 0 rfl rfl fun g1 w1 a st hF=>?_
 refine S.alloc st hF ag rfl rfl fun g2 w3 a st hF=>?_
 refine ns ?_
 refine wq ?_
 refine oL hF st 1 1 ag rfl rfl rfl rfl fun a hF=>?_
 refine cX st hF (rk k32 (aB (hF.at 0 rfl))) (dE _ (qx) _ (h1.below st.bel)) rfl fun w4 a st hF=>?_
 refine oV hF (av (hF.at 0 rfl) ao ab (aC (ce (c:=false) (aZ hn)) (by simp))) rfl fun a hF=>?_
 refine E.nil ?_
 refine wp_cond_false (hF.at 0 rfl) ?_
 refine wp_skip ?_
 refine E.norm ?_
 refine wp_seq ?_
 refine eD 4 aJ hF [14,15,16,3] [(Iz r2.v),(Iq (((3438:Int):Rat))),(Iq ((qx)*(((3438:Int):Rat)))),(Ip w4)] [3] (by decide+kernel) rfl rfl ⟨fun _ _ ⟨g,e,_,o⟩=>⟨g,e,o.lt⟩,trivial⟩ ⟨?_,?_,?_,?_,trivial⟩ ?_
 ·exact qL st 4 1 ag rfl rfl rfl rfl rfl
 ·intro a' w' hF' hb hd
  exact dc0 (rk k20 (aB ao)) (bK (3438) _ (by decide) (by decide)) rfl rfl
 ·intro a' w' hF' hb hd
  have e14:=tE hd 0 rfl
  obtain⟨v15_0,e15,h15_1⟩:=tH hd 1 rfl
  exact dc0 (rk gL (ar e14 e15)) (di _ _ (qx) _ (max k 2) _ (h1.below (aa st.bel hb)) h15_1 (hl.up _ (by omega)) ((aN (aD (by decide) (by decide)) (by omega)).up _ (by omega)) (by omega)) rfl rfl
 ·intro a' w' hF' hb hd
  exact da0 ag rfl hb.size rfl
 intro a w5 hF bb hall hne
 have s0:=st
 replace st:=st.to bb
 obtain⟨vv6,hF,st⟩:=aS hall hF st 2 rfl rfl Rq.cl
 obtain⟨_,e3,g3,rfl,ge3,o3⟩:=sS hall 3 3 rfl rfl
 replace st:=st.push o3.blk (Nat.le_trans s0.bel.size ge3) (s0.ne ge3)
 clear o3
 clear hall hne bb s0
 obtain⟨r8,rfl⟩:=Rq.fo (st.f 0 rfl)
 replace hF:=hF.add e3
 clear e3
 refine so st hF 0 0 1 ag rfl rfl rfl rfl fun w9 a st hF=>?_
 refine ns ?_
 refine wq ?_
 refine oV hF (aY ao) rfl fun a hF=>?_
 refine E.nil ?_
 refine wp_block ?_
 refine E.loop (fun mq a wv=>∃(j:Nat),j≤24∧ykf (qx*((3438:Int):Rat)) (24-j) j=yk (qx*((3438:Int):Rat))∧Fr 45 a [(17,.int .i64 ((j:Nat):Int)),(3,.pointer (some ⟨g3,0,none⟩)),(2,.pointer (some ⟨g2,0,none⟩))]∧St w wv [(g3,r8.l),(g2,[.bool false,.slice none 0 0,.slice none 0 0])] [fun w=>Rq w (.agg #[.bool false,.slice none 0 0,.slice none 0 0]) 0,fun w=>Rq w (r8.v) ((qx)*(((3438:Int):Rat)))]∧mq=24-j) (24-0) ?_ ?_
 ·exact⟨0,(by omega),rfl,Fr.pick (L':=[(17,.int .i64 0),(3,.pointer (some ⟨g3,0,none⟩)),(2,.pointer (some ⟨g2,0,none⟩))]) hF [0,1,6] rfl,(st.add (Rq.zero _) (Rq.cl _)).pick [0,1] [0,1] rfl rfl (by decide),rfl⟩
 ·rintro mq a w10 ⟨j,hj,hyk,hF,st,hm⟩
  by_cases hjn:j<24
  ·refine wp_seq ?_
   refine E.seq ?_
   refine oV hF (av (hF.at 0 rfl) ao ab (aC (ce (c:=true) (aP (by omega))) (by simp))) rfl fun a hF=>?_
   refine ns ?_
   refine wp_cond_true (hF.at 0 rfl) ?_
   refine wp_skip ?_
   refine E.norm ?_
   refine wp_seq ?_
   refine wp_block ?_
   refine wq ?_
   refine oM hF 1 rfl rfl fun a hF=>?_
   refine oA hF 0 rfl rfl fun a hF=>?_
   refine ns ?_
   refine wp_seq ?_
   by_cases hc11:0<qc ((qx)*(((3438:Int):Rat))) (((spk (((j:Nat):Int)+1):Int):Rat))
   ·refine eD 7 aJ hF [20,21,22,23,24,25,26] [(Iz r8.v),(Iz (.int .i64 ((j:Nat):Int))),(Iz (.int .i64 (((j:Nat):Int)+1))),(Iz (.int .i64 (spk (((j:Nat):Int)+1)))),(Iq (((spk (((j:Nat):Int)+1):Int):Rat))),(Iz (.int .i64 (qc ((qx)*(((3438:Int):Rat))) (((spk (((j:Nat):Int)+1):Int):Rat))))),(Iz (.bool true))] [] (by decide+kernel) rfl rfl trivial ⟨?_,?_,?_,?_,?_,?_,?_,trivial⟩ ?_
    ·exact qL st 4 0 ag rfl rfl rfl rfl rfl
    ·exact qM 0 rfl rfl rfl
    ·intro a' w' hF' hb hd
     have e21:=tE hd 0 rfl
     exact dv0 (av e21 ao ab (bh (by omega) (by omega))) rfl rfl rfl
    ·intro a' w' hF' hb hd
     have e22:=tE hd 0 rfl
     exact bD (rk nh (aB e22)) (km (((j:Nat):Int)+1) _ (hT.below (aa st.bel hb)) (by omega) (by omega)) (fun _=>rfl) rfl rfl
    ·intro a' w' hF' hb hd
     have e23:=tE hd 0 rfl
     exact dc0 (rk k20 (aB e23)) (bK (spk (((j:Nat):Int)+1)) _ (cg (((j:Nat):Int)+1)).1 (cg (((j:Nat):Int)+1)).2) rfl rfl
    ·intro a' w' hF' hb hd
     have e20:=tE hd 0 rfl
     obtain⟨v24_0,e24,h24_1⟩:=tH hd 1 rfl
     exact bD (rk k19 (ar e20 e24)) (i4 _ _ _ _ (max (k+2) 2) _ ((st.f 1 rfl).below hb) h24_1 ((aV hl (aN (aD (by decide) (by decide)) (by omega))).up _ (by omega)) ((aN (aD (cg (((j:Nat):Int)+1)).1 (cg (((j:Nat):Int)+1)).2) (by omega)).up _ (by omega)) (by omega)) (fun _=>rfl) rfl rfl
    ·intro a' w' hF' hb hd
     have e25:=tE hd 0 rfl
     exact dv0 (av e25 ao ab (aC (dR (c:=true) (aP hc11)) (by simp))) rfl rfl rfl
    intro a w12 hF bb hall hne
    replace st:=st.to bb
    replace hF:=aE hall hF 6 rfl rfl
    clear hall hne bb
    refine E.nil ?_
    refine wp_cond_true (hF.at 0 rfl) ?_
    refine wp_exit ?_
    refine E.past ?_
    refine E.out (id:=1) ?_
    refine E.norm ?_
    refine E.seq ?_
    refine oV hF (av (hF.at 4 rfl) ao ab (bh (by omega) (by omega))) rfl fun a hF=>?_
    refine oS hF (aY (hF.at 0 rfl)) rfl fun a hF=>?_
    refine E.nil0 ?_
    refine E.norm ?_
    exact⟨24-(j+1),by omega,⟨(j+1),(by omega),(pv (by omega) hyk hc11),(by rw[show((j+1:Nat):Int)=((j:Nat):Int)+1 from by omega];exact Fr.pick (L':=[(17,.int .i64 (((j:Nat):Int)+1)),(3,.pointer (some ⟨g3,0,none⟩)),(2,.pointer (some ⟨g2,0,none⟩))]) hF [0,6,7] rfl),(st.add (st.f 0 rfl) (Rq.cl _)).pick [0,1] [0,2] rfl rfl (by decide),rfl⟩⟩
   ·refine eD 7 aJ hF [20,21,22,23,24,25,26] [(Iz r8.v),(Iz (.int .i64 ((j:Nat):Int))),(Iz (.int .i64 (((j:Nat):Int)+1))),(Iz (.int .i64 (spk (((j:Nat):Int)+1)))),(Iq (((spk (((j:Nat):Int)+1):Int):Rat))),(Iz (.int .i64 (qc ((qx)*(((3438:Int):Rat))) (((spk (((j:Nat):Int)+1):Int):Rat))))),(Iz (.bool false))] [] (by decide+kernel) rfl rfl trivial ⟨?_,?_,?_,?_,?_,?_,?_,trivial⟩ ?_
    ·exact qL st 4 0 ag rfl rfl rfl rfl rfl
    ·exact qM 0 rfl rfl rfl
    ·intro a' w' hF' hb hd
     have e21:=tE hd 0 rfl
     exact dv0 (av e21 ao ab (bh (by omega) (by omega))) rfl rfl rfl
    ·intro a' w' hF' hb hd
     have e22:=tE hd 0 rfl
     exact bD (rk nh (aB e22)) (km (((j:Nat):Int)+1) _ (hT.below (aa st.bel hb)) (by omega) (by omega)) (fun _=>rfl) rfl rfl
    ·intro a' w' hF' hb hd
     have e23:=tE hd 0 rfl
     exact dc0 (rk k20 (aB e23)) (bK (spk (((j:Nat):Int)+1)) _ (cg (((j:Nat):Int)+1)).1 (cg (((j:Nat):Int)+1)).2) rfl rfl
    ·intro a' w' hF' hb hd
     have e20:=tE hd 0 rfl
     obtain⟨v24_0,e24,h24_1⟩:=tH hd 1 rfl
     exact bD (rk k19 (ar e20 e24)) (i4 _ _ _ _ (max (k+2) 2) _ ((st.f 1 rfl).below hb) h24_1 ((aV hl (aN (aD (by decide) (by decide)) (by omega))).up _ (by omega)) ((aN (aD (cg (((j:Nat):Int)+1)).1 (cg (((j:Nat):Int)+1)).2) (by omega)).up _ (by omega)) (by omega)) (fun _=>rfl) rfl rfl
    ·intro a' w' hF' hb hd
     have e25:=tE hd 0 rfl
     exact dv0 (av e25 ao ab (aC (dR (c:=false) (aZ hc11)) (by simp))) rfl rfl rfl
    intro a w13 hF bb hall hne
    replace st:=st.to bb
    replace hF:=aE hall hF 6 rfl rfl
    clear hall hne bb
    refine E.nil ?_
    refine wp_cond_false (hF.at 0 rfl) ?_
    refine wp_skip ?_
    refine E.norm ?_
    refine wp_seq ?_
    refine eD 6 aJ hF [27,28,29,30,31,5] [(Iz r8.v),(Iz (.int .i64 ((j:Nat):Int))),(Iz (.int .i64 (spk ((j:Nat):Int)))),(Iq (((spk ((j:Nat):Int):Int):Rat))),(Iq (((qx)*(((3438:Int):Rat)))-(((spk ((j:Nat):Int):Int):Rat)))),(Ip w13)] [5] (by decide+kernel) rfl rfl ⟨fun _ _ ⟨g,e,_,o⟩=>⟨g,e,o.lt⟩,trivial⟩ ⟨?_,?_,?_,?_,?_,?_,trivial⟩ ?_
    ·exact qL st 5 0 ag rfl rfl rfl rfl rfl
    ·exact qM 1 rfl rfl rfl
    ·intro a' w' hF' hb hd
     have e28:=tE hd 0 rfl
     exact bD (rk nh (aB e28)) (km ((j:Nat):Int) _ (hT.below (aa st.bel hb)) (by omega) (by omega)) (fun _=>rfl) rfl rfl
    ·intro a' w' hF' hb hd
     have e29:=tE hd 0 rfl
     exact dc0 (rk k20 (aB e29)) (bK (spk ((j:Nat):Int)) _ (cg ((j:Nat):Int)).1 (cg ((j:Nat):Int)).2) rfl rfl
    ·intro a' w' hF' hb hd
     have e27:=tE hd 0 rfl
     obtain⟨v30_0,e30,h30_1⟩:=tH hd 1 rfl
     exact dc0 (rk k37 (ar e27 e30)) (dU _ _ _ _ (max (k+2) 2) _ ((st.f 1 rfl).below hb) h30_1 ((aV hl (aN (aD (by decide) (by decide)) (by omega))).up _ (by omega)) ((aN (aD (cg ((j:Nat):Int)).1 (cg ((j:Nat):Int)).2) (by omega)).up _ (by omega)) (by omega)) rfl rfl
    ·intro a' w' hF' hb hd
     exact da0 ag rfl hb.size rfl
    intro a w14 hF bb hall hne
    have s0:=st
    replace st:=st.to bb
    obtain⟨vv15,hF,st⟩:=aS hall hF st 4 rfl rfl Rq.cl
    obtain⟨_,e5,g5,rfl,ge5,o5⟩:=sS hall 5 5 rfl rfl
    replace st:=st.push o5.blk (Nat.le_trans s0.bel.size ge5) (s0.ne ge5)
    clear o5
    clear hall hne bb s0
    obtain⟨r17,rfl⟩:=Rq.fo (st.f 0 rfl)
    replace hF:=hF.add e5
    clear e5
    refine so st hF 0 0 1 ag rfl rfl rfl rfl fun w18 a st hF=>?_
    refine ns ?_
    refine eD 6 aJ hF [32,33,34,35,36,6] [(Iz r17.v),(Iz (.int .i64 ((j:Nat):Int))),(Iz (.int .i64 (spk (((j:Nat):Int)+1)-spk ((j:Nat):Int)))),(Iq (((spk (((j:Nat):Int)+1)-spk ((j:Nat):Int):Int):Rat))),(Iq ((((qx)*(((3438:Int):Rat)))-(((spk ((j:Nat):Int):Int):Rat)))/(((spk (((j:Nat):Int)+1)-spk ((j:Nat):Int):Int):Rat)))),(Ip w18)] [5] (by decide+kernel) rfl rfl ⟨fun _ _ ⟨g,e,_,o⟩=>⟨g,e,o.lt⟩,trivial⟩ ⟨?_,?_,?_,?_,?_,?_,trivial⟩ ?_
    ·exact qL st 0 0 ag rfl rfl rfl rfl rfl
    ·exact qM 3 rfl rfl rfl
    ·intro a' w' hF' hb hd
     have e33:=tE hd 0 rfl
     exact bD (rk y6 (aB e33)) (oj ((j:Nat):Int) _ (hT.below (aa st.bel hb)) (by omega) (by omega)) (fun _=>rfl) rfl rfl
    ·intro a' w' hF' hb hd
     have e34:=tE hd 0 rfl
     exact dc0 (rk k20 (aB e34)) (bK (spk (((j:Nat):Int)+1)-spk ((j:Nat):Int)) _ (cT (((j:Nat):Int))).1 (cT (((j:Nat):Int))).2) rfl rfl
    ·intro a' w' hF' hb hd
     have e32:=tE hd 0 rfl
     obtain⟨v35_0,e35,h35_1⟩:=tH hd 1 rfl
     exact dc0 (rk nV (ar e32 e35)) (gV _ _ _ _ (max ((k+2)+2+1) 2) _ ((st.f 0 rfl).below hb) h35_1 ((bl (aV hl (aN (aD (by decide) (by decide)) (by omega))) (aN (aD (cg ((j:Nat):Int)).1 (cg ((j:Nat):Int)).2) (by omega))).up _ (by omega)) ((aN (aD (cT (((j:Nat):Int))).1 (cT (((j:Nat):Int))).2) (by omega)).up _ (by omega)) (by omega)) rfl rfl
    ·intro a' w' hF' hb hd
     exact da0 ag rfl hb.size rfl
    intro a w19 hF bb hall hne
    have s0:=st
    replace st:=st.to bb
    obtain⟨vv20,hF,st⟩:=aS hall hF st 4 rfl rfl Rq.cl
    obtain⟨_,e6,g6,rfl,ge6,o6⟩:=sS hall 5 6 rfl rfl
    replace st:=st.push o6.blk (Nat.le_trans s0.bel.size ge6) (s0.ne ge6)
    clear o6
    clear hall hne bb s0
    obtain⟨r22,rfl⟩:=Rq.fo (st.f 0 rfl)
    replace hF:=hF.add e6
    clear e6
    refine so st hF 0 0 1 ag rfl rfl rfl rfl fun w23 a st hF=>?_
    refine ns ?_
    refine eD 6 aJ hF [37,38,39,40,41,42] [(Iz r22.v),(Iz (.int .i64 ((j:Nat):Int))),(Iq (((((j:Nat):Int):Int):Rat))),(Iq (((((qx)*(((3438:Int):Rat)))-(((spk ((j:Nat):Int):Int):Rat)))/(((spk (((j:Nat):Int)+1)-spk ((j:Nat):Int):Int):Rat)))+(((((j:Nat):Int):Int):Rat)))),(Iq (wd)),(Iq ((((((qx)*(((3438:Int):Rat)))-(((spk ((j:Nat):Int):Int):Rat)))/(((spk (((j:Nat):Int)+1)-spk ((j:Nat):Int):Int):Rat)))+(((((j:Nat):Int):Int):Rat)))*(wd)))] [] (by decide+kernel) rfl rfl trivial ⟨?_,?_,?_,?_,?_,?_,trivial⟩ ?_
    ·exact qL st 0 0 ag rfl rfl rfl rfl rfl
    ·exact qM 5 rfl rfl rfl
    ·intro a' w' hF' hb hd
     have e38:=tE hd 0 rfl
     exact dc0 (rk k20 (aB e38)) (bK (((j:Nat):Int)) _ (by omega) (by omega)) rfl rfl
    ·intro a' w' hF' hb hd
     have e37:=tE hd 0 rfl
     obtain⟨v39_0,e39,h39_1⟩:=tH hd 1 rfl
     exact dc0 (rk k75 (ar e37 e39)) (fj _ _ _ _ (max (((k+2)+2+1)+2) 2) _ ((st.f 0 rfl).below hb) h39_1 ((b7 (bl (aV hl (aN (aD (by decide) (by decide)) (by omega))) (aN (aD (cg ((j:Nat):Int)).1 (cg ((j:Nat):Int)).2) (by omega))) (aN (aD (cT (((j:Nat):Int))).1 (cT (((j:Nat):Int))).2) (by omega))).up _ (by omega)) ((aN (aD (by omega) (by omega)) (by omega)).up _ (by omega)) (by omega)) rfl rfl
    ·intro a' w' hF' hb hd
     exact dc0 (rk xH eh) (mh _) rfl rfl
    ·intro a' w' hF' hb hd
     obtain⟨v40_0,e40,h40_1⟩:=tH hd 0 rfl
     obtain⟨v41_0,e41,h41_1⟩:=tH hd 1 rfl
     exact dc0 (rk gL (ar e40 e41)) (di _ _ _ (wd) (max ((((k+2)+2+1)+2)+2+1) 2) _ h40_1 h41_1 ((dw (b7 (bl (aV hl (aN (aD (by decide) (by decide)) (by omega))) (aN (aD (cg ((j:Nat):Int)).1 (cg ((j:Nat):Int)).2) (by omega))) (aN (aD (cT (((j:Nat):Int))).1 (cT (((j:Nat):Int))).2) (by omega))) (aN (aD (by omega) (by omega)) (by omega))).up _ (by omega)) (gf.up _ (by omega)) (by omega)) rfl rfl
    intro a w24 hF bb hall hne
    replace st:=st.to bb
    obtain⟨vv25,hF,st⟩:=aS hall hF st 5 rfl rfl Rq.cl
    clear hall hne bb
    obtain⟨r27,rfl⟩:=Rq.fo (st.f 0 rfl)
    refine so st hF 3 11 0 ag rfl rfl rfl rfl fun w28 a st hF=>?_
    refine nr ?_
    refine rs Tryz.results165 st hF 11 3 ag rfl rfl rfl ?_
    have bel:=st.bel
    exact⟨_,rfl,Rq.castM (st.f 0 rfl) (n0 hx hjn (ph hjn hyk hc11)),bel⟩
  ·refine wp_seq ?_
   refine E.seq ?_
   refine oV hF (av (hF.at 0 rfl) ao ab (aC (ce (c:=false) (aZ (by omega))) (by simp))) rfl fun a hF=>?_
   refine ns ?_
   refine wp_cond_false (hF.at 0 rfl) ?_
   refine wp_exit ?_
   refine E.past ?_
   refine E.past ?_
   refine E.out (id:=0) ?_
   refine E.norm ?_
   refine wq ?_
   refine ca st hF (rk k20 (aB ao)) (bK (90) _ (by decide) (by decide)) (fun _ _ h=>h) Rq.cl rfl fun vv30 w29 a st hF=>?_
   obtain⟨r32,rfl⟩:=Rq.fo (st.f 0 rfl)
   refine so st hF 1 4 0 ag rfl rfl rfl rfl fun w33 a st hF=>?_
   refine nr ?_
   refine rs Tryz.results165 st hF 4 1 ag rfl rfl rfl ?_
   have bel:=st.bel
   have e24:j=24:=by omega
   subst e24
   exact⟨_,rfl,Rq.castM (st.f 0 rfl) (lW hx hyk.symm),bel⟩
theorem oT (v1:Value) (qx:Rat) (k:Nat) (w:World) (hT:cG w) (h1:Rq w v1 qx) (hl:az qx k) (hk:k≤1000) (hn:sz (Rat.num qx)<0):
 Calls Tryz.prog 165 #[v1] w (bg w (cK qx)):=by
 have hx:qx<0:=iK.1 hn
 have st:=St.start w
 refine go1 (nt:=45) Tryz.func165 rfl rfl rfl fun a hF=>?_
 refine wq ?_
 obtain⟨r2,rfl⟩:=Rq.fo h1
 refine bx st hF 0 rfl rfl fun g1 w1 a st hF=>?_
 refine S.alloc st hF ag rfl rfl fun g2 w3 a st hF=>?_
 refine ns ?_
 refine wq ?_
 refine oL hF st 1 1 ag rfl rfl rfl rfl fun a hF=>?_
 refine cX st hF (rk k32 (aB (hF.at 0 rfl))) (dE _ (qx) _ (h1.below st.bel)) rfl fun w4 a st hF=>?_
 refine oV hF (av (hF.at 0 rfl) ao ab (aC (ce (c:=true) (aP hn)) (by simp))) rfl fun a hF=>?_
 refine E.nil ?_
 refine wp_cond_true (hF.at 0 rfl) ?_
 refine wq ?_
 refine oL hF st 4 1 ag rfl rfl rfl rfl fun a hF=>?_
 refine ca st hF (rk k80 (aB (hF.at 0 rfl))) (kz _ (qx) _ (h1.below st.bel)) (fun _ _ h=>h) Rq.cl rfl fun vv6 w5 a st hF=>?_
 obtain⟨r8,rfl⟩:=Rq.fo (st.f 0 rfl)
 refine ca st hF (rk xY (aB (hF.at 0 rfl))) (pE _ (-(qx)) k _ (hT.below st.bel) (st.f 0 rfl) (fO hl) (by omega) (qb hx)) (fun _ _ h=>h) Rq.cl rfl fun vv10 w9 a st hF=>?_
 obtain⟨r12,rfl⟩:=Rq.fo (st.f 0 rfl)
 refine ca st hF (rk k80 (aB (hF.at 0 rfl))) (kz _ _ _ (st.f 0 rfl)) (fun _ _ h=>h) Rq.cl rfl fun vv14 w13 a st hF=>?_
 obtain⟨r16,rfl⟩:=Rq.fo (st.f 0 rfl)
 refine so st hF 0 7 0 ag rfl rfl rfl rfl fun w17 a st hF=>?_
 refine nr ?_
 refine rs Tryz.results165 st hF 7 0 ag rfl rfl rfl ?_
 have bel:=st.bel
 exact⟨_,rfl,Rq.castM (st.f 0 rfl) (pM hx),bel⟩
theorem t8 (v1:Value) (qx:Rat) (k:Nat) (w:World) (hT:cG w) (h1:Rq w v1 qx) (hl:az qx k) (hk:k≤1000):Calls Tryz.prog 165 #[v1] w (bg w (cK qx)):=by
 by_cases hn:sz (Rat.num qx)<0
 ·exact oT v1 qx k w hT h1 hl hk hn
 ·exact pE v1 qx k w hT h1 hl hk hn
end
end
end Go.Proofs.YtplngpfpcheofaaGreatDoor
