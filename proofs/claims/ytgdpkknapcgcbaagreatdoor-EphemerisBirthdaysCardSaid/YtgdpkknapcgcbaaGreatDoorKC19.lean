import Derived.Test.YtgdpkknapcgcbaaGreatDoorKC18
namespace Go.Proofs.YtgdpkknapcgcbaaGreatDoor
open Go.RowKit
set_option maxRecDepth 100000
set_option linter.unusedVariables false
set_option maxHeartbeats 8000000
section
section
theorem Kd {q:Rat} {k:Int} (h1:(k:Rat)<=q) (h2:q<(k:Rat)+1):q.floor=k:=by
 have l1:k<=q.floor:=Rat.le_floor_iff.2 h1
 have l2:q.floor<k+1:=Rat.floor_lt_iff.2 (by rw[Rat.intCast_add,Rat.intCast_one];exact h2)
 omega
def lin (S:Int->Int) (y:Rat):Rat:=(S y.floor:Rat)+(y-(y.floor:Rat))*((S (y.floor+1):Rat)-(S y.floor:Rat))
theorem jp (S:Int->Int) (k:Int):lin S (k:Rat)=(S k:Rat):=by
 unfold lin;rw[Rat.floor_intCast];grind
theorem J1 {S:Int->Int} {n:Int} (h:∀k,S (k+n)=S k) (y:Rat):lin S (y+(n:Rat))=lin S y:=by
 unfold lin
 rw[Rat.floor_add_intCast,h,show y.floor+n+1=y.floor+1+n by omega,h,Rat.intCast_add]
 grind
theorem Bg {y:Rat} (c:Int) (h:(y.floor:Rat)≠y):((c:Rat)-y).floor =c-y.floor-1:=by
 have h1:=fe y
 have h2:=fA y
 refine Kd ?_ ?_
 ·rw[Rat.intCast_sub,Rat.intCast_sub,Rat.intCast_one];grind
 ·rw[Rat.intCast_sub,Rat.intCast_sub,Rat.intCast_one];grind
theorem pL {S:Int->Int} (c:Int) (h:∀k,S (c-k)=S k) (y:Rat):lin S ((c:Rat)-y)=lin S y:=by
 by_cases e:(y.floor:Rat)=y
 ·rw[<-e,<-Rat.intCast_sub,jp,jp,h]
 ·unfold lin
  rw[Bg c e,show c-y.floor-1+1=c-y.floor by omega,h,show c-y.floor-1=c-(y.floor+1) by omega,h,Rat.intCast_sub,Rat.intCast_add,Rat.intCast_one]
  grind
theorem Hv {S:Int->Int} (c:Int) (h:∀k,S (c-k)= -S k) (y:Rat):lin S ((c:Rat)-y)= -lin S y:=by
 by_cases e:(y.floor:Rat)=y
 ·rw[<-e,<-Rat.intCast_sub,jp,jp,h,Rat.intCast_neg]
 ·unfold lin
  rw[Bg c e,show c-y.floor-1+1=c-y.floor by omega,h,show c-y.floor-1=c-(y.floor+1) by omega,h,Rat.intCast_sub,Rat.intCast_add,Rat.intCast_one]
  simp only [Rat.intCast_neg]
  grind
theorem MC {S:Int->Int} (c:Int) (h:∀k,S (k+c)= -S k) (y:Rat):lin S (y+(c:Rat))= -lin S y:=by
 unfold lin
 rw[Rat.floor_add_intCast,h,show y.floor+c+1=y.floor+1+c by omega,h,Rat.intCast_add]
 simp only [Rat.intCast_neg]
 grind
theorem Rs {S:Int->Int} (h:∀k,S k<=S (k+1)) {a b:Int} (hab:a<=b):S a<=S b:=by
 obtain⟨n,rfl⟩:∃n:Nat,b=a+n:=⟨(b-a).toNat,by omega⟩
 clear hab
 induction n with
 |zero=>simp
 |succ n ih=>
  have:=h (a+n)
  rw[show a+((n+1:Nat):Int)=a+n+1 by omega]
  omega
theorem cM {a b:Int} (h:a<=b):(a:Rat)<=(b:Rat):=Rat.intCast_le_intCast.2 h
theorem vE {a b:Int} (h:a<b):(a:Rat)<(b:Rat):=Rat.intCast_lt_intCast.2 h
theorem B7 {S:Int->Int} {y:Rat} (h:S y.floor<=S (y.floor+1)):(S y.floor:Rat)<=lin S y:=by
 have h1:=fe y
 have h2:=cM h
 have:=Rat.mul_nonneg (show 0<=y-(y.floor:Rat) by grind) (show 0<=(S (y.floor+1):Rat)-(S y.floor:Rat) by grind)
 unfold lin;grind
theorem I6 {S:Int->Int} {y:Rat} (h:S y.floor<=S (y.floor+1)):lin S y<=(S (y.floor+1):Rat):=by
 have h1:=fA y
 have h2:=cM h
 have:=Rat.mul_nonneg (show 0<=(y.floor:Rat)+1-y by grind) (show 0<=(S (y.floor+1):Rat)-(S y.floor:Rat) by grind)
 unfold lin;grind
theorem FG {S:Int->Int} {y:Rat} (h:S y.floor<S (y.floor+1)):lin S y<(S (y.floor+1):Rat):=by
 have h1:=fA y
 have h2:=vE h
 have:=Rat.mul_pos (show 0<(y.floor:Rat)+1-y by grind) (show 0<(S (y.floor+1):Rat)-(S y.floor:Rat) by grind)
 unfold lin;grind
theorem Ay {S:Int->Int} (h:∀k,S k<=S (k+1)) {y z:Rat} (hyz:y<=z):lin S y<=lin S z:=by
 by_cases e:y.floor=z.floor
 ·have h2:=cM (h z.floor)
  have:=Rat.mul_nonneg (show 0<=z-y by grind) (show 0<=(S (z.floor+1):Rat)-(S z.floor:Rat) by grind)
  unfold lin;rw[e];grind
 ·have hm:=Rat.floor_monotone hyz
  have h1:=I6 (h y.floor)
  have h2:=B7 (h z.floor)
  have h3:=cM (Rs h (show y.floor+1<=z.floor by omega))
  grind
theorem zC (S:Int->Int) (c d:Int) (y:Rat):lin (fun k=>c*k+d*S k) y=(c:Rat)*y+(d:Rat)*lin S y:=by
 unfold lin
 simp only [Rat.intCast_add,Rat.intCast_mul,Rat.intCast_one]
 grind
theorem Mf {S:Int->Int} (c:Int) (h:∀k, -c<=S (k+1)-S k/\S (k+1)-S k<=c) {y z:Rat} (hyz:y<=z):(lin S y-lin S z).abs <=(c:Rat)*(z-y):=by
 have h1:=Ay (S:=fun k=>c*k+1*S k) (fun k=>by have:=h k;show c*k+1*S k<=c*(k+1)+1*S (k+1);rw[Int.mul_add];omega) hyz
 have h2:=Ay (S:=fun k=>c*k+(-1)*S k) (fun k=>by have:=h k;show c*k+(-1)*S k<=c*(k+1)+(-1)*S (k+1);rw[Int.mul_add];omega) hyz
 rw[zC,zC] at h1 h2
 rw[Rat.intCast_one] at h1
 rw[Rat.intCast_neg,Rat.intCast_one] at h2
 unfold Rat.abs
 split <;> grind
theorem EP {S:Int->Int} (c:Int) (h:∀k, -c<=S k/\S k<=c) (y:Rat): -(c:Rat)<=lin S y/\lin S y<=(c:Rat):=by
 have a1:=h y.floor
 have a2:=h (y.floor+1)
 have f1:=fe y
 have f2:=fA y
 have b1:=cM a1.1;have b2:=cM a1.2;have b3:=cM a2.1;have b4:=cM a2.2
 rw[Rat.intCast_neg] at b1 b3
 have m1:=Rat.mul_nonneg (show 0<=(y.floor:Rat)+1-y by grind) (show 0<=(c:Rat)-(S y.floor:Rat) by grind)
 have m2:=Rat.mul_nonneg (show 0<=y-(y.floor:Rat) by grind) (show 0<=(c:Rat)-(S (y.floor+1):Rat) by grind)
 have m3:=Rat.mul_nonneg (show 0<=(y.floor:Rat)+1-y by grind) (show 0<=(S y.floor:Rat)+(c:Rat) by grind)
 have m4:=Rat.mul_nonneg (show 0<=y-(y.floor:Rat) by grind) (show 0<=(S (y.floor+1):Rat)+(c:Rat) by grind)
 unfold lin
 constructor <;> grind
theorem KW {y:Rat} {k:Int} (h:(k:Rat)<=y):k<=y.floor:=Rat.le_floor_iff.2 h
theorem M6 {y:Rat} {k:Int} (h:y<(k:Rat)):y.floor<k:=Rat.floor_lt_iff.2 h
theorem pC {y z:Rat} (h1:((-24:Int):Rat)<=y) (h2:y<z) (h3:z<=((24:Int):Rat)):lin spk y<lin spk z:=by
 have fy:=KW h1
 have fy2:y.floor<24:=M6 (by grind)
 have hm:=Rat.floor_monotone (show y<=z by grind)
 by_cases e:y.floor=z.floor
 ·have:=vE (sj (k:=z.floor) (by omega) (by omega))
  have:=Rat.mul_pos (show 0<z-y by grind) (show 0<(spk (z.floor+1):Rat)-(spk z.floor:Rat) by grind)
  unfold lin;rw[e];grind
 ·have a1:=FG (S:=spk) (y:=y) (sj fy fy2)
  have fz:z.floor<=24:=by
   have:=Rat.floor_monotone h3
   rwa[Rat.floor_intCast] at this
  have a2:=cM (Rt (a:=y.floor+1) (b:=z.floor) (by omega) (by omega) fz)
  have a3:(spk z.floor:Rat)<=lin spk z:=by
   by_cases e2:z.floor<24
   ·exact B7 (Int.le_of_lt (sj (by omega) e2))
   ·have e3:z.floor=24:=by omega
    have e4:z=((24:Int):Rat):=by
     have:=fe z;rw[e3] at this;grind
    rw[e4,jp,Rat.floor_intCast];grind
  grind
theorem MY {y z:Rat} (h1:((-24:Int):Rat)<=y) (h2:y<=((24:Int):Rat)) (h3:((-24:Int):Rat)<=z) (h4:z<=((24:Int):Rat)) (e:lin spk y=lin spk z):y=z:=by
 by_cases a:y<z
 ·have:=pC h1 a h4;grind
 ·by_cases b:z<y
  ·have:=pC h3 b h2;grind
  ·grind
def ykf (h:Rat):Nat->Nat->Nat
 |0,k=>k
 |n+1,k=>if h<=(spk ((k:Int)+1):Rat) then k else ykf h n (k+1)
def yk (h:Rat):Nat:=ykf h 24 0
theorem GP (h:Rat):∀n k:Nat,k<=ykf h n k/\ykf h n k<=k+n
 |0,k=>by simp[ykf]
 |n+1,k=>by
  unfold ykf
  split
  ·omega
  ·have:=GP h n (k+1);omega
theorem BB (h:Rat):∀n k:Nat,(spk (k:Int):Rat)<=h->(spk ((ykf h n k:Nat):Int):Rat)<=h
 |0,k,hk=>by simpa[ykf] using hk
 |n+1,k,hk=>by
  unfold ykf
  split
  ·exact hk
  ·refine BB h n (k+1) ?_
   rw[show((k+1:Nat):Int)=(k:Int)+1 by omega]
   grind
theorem yx (h:Rat):∀n k:Nat,ykf h n k<k+n->h<=(spk ((ykf h n k:Nat)+1:Int):Rat)
 |0,k,hk=>by simp[ykf] at hk
 |n+1,k,hk=>by
  unfold ykf at hk ⊢
  split
  ·assumption
  ·rename_i hn
   rw[if_neg hn] at hk
   exact yx h n (k+1) (by omega)
theorem Bm (h:Rat):∀n k:Nat,ykf h n k=k+n->0<n->(spk ((k:Int)+n):Rat)<h
 |0,_,_,hn=>by omega
 |n+1,k,hk,_=>by
  unfold ykf at hk
  split at hk
  ·omega
  ·rename_i hh
   by_cases e:n=0
   ·subst e
    rw[show(k:Int)+((0+1:Nat):Int)=(k:Int)+1 by omega]
    grind
   ·have:=Bm h n (k+1) (by omega) (by omega)
    rw[show((k+1:Nat):Int)+(n:Int)=(k:Int)+((n+1:Nat):Int) by omega] at this
    exact this
def ay (h:Rat):Rat:=if yk h<24 then(h-(spk (yk h):Rat))/((spk ((yk h:Nat)+1:Int)-spk (yk h):Int):Rat)+((yk h:Nat):Int) else((24:Int):Rat)
theorem KV {h:Rat} (h0:0<=h) (h1:h<=((3438:Int):Rat)):0<=ay h/\ay h<=((24:Int):Rat)/\lin spk (ay h)=h:=by
 have hl:=BB h 24 0 (by rw[show spk ((0:Nat):Int)=0 by decide+kernel,Rat.intCast_zero];exact h0)
 have hk:=GP h 24 0
 have hh:=yx h 24 0
 have he:=Bm h 24 0
 change (spk (yk h:Nat):Rat)<=h at hl
 change 0<=yk h/\yk h<=0+24 at hk
 change yk h<0+24->_ at hh
 change yk h=0+24->_ at he
 change _->h<=(spk ((yk h:Nat)+1:Int):Rat) at hh
 by_cases c:yk h<24
 ·have hh:=hh (by omega)
  have up:=sj (k:=(yk h:Nat)) (by omega) (by omega)
  unfold ay
  rw[if_pos c]
  generalize yk h=n at*
  have upq:=vE up
  have hd:(0:Rat)<((spk ((n:Nat)+1:Int)-spk (n:Nat):Int):Rat):=by rw[Rat.intCast_sub];grind
  have f0:0<=(h-(spk (n:Nat):Rat))/((spk ((n:Nat)+1:Int)-spk (n:Nat):Int):Rat):=Rat.not_lt.1 fun hn=>by rw[Rat.div_lt_iff hd] at hn;grind
  have f1:(h-(spk (n:Nat):Rat))/((spk ((n:Nat)+1:Int)-spk (n:Nat):Int):Rat)<=1:=Rat.not_lt.1 fun hn=>by rw[Rat.lt_div_iff hd,Rat.intCast_sub] at hn;grind
  have fm:(h-(spk (n:Nat):Rat))/((spk ((n:Nat)+1:Int)-spk (n:Nat):Int):Rat)*((spk ((n:Nat)+1:Int)-spk (n:Nat):Int):Rat)=h-(spk (n:Nat):Rat):=Rat.div_mul_cancel (by grind)
  generalize (h-(spk (n:Nat):Rat))/((spk ((n:Nat)+1:Int)-spk (n:Nat):Int):Rat)=f at*
  have k0:=cM (show(0:Int)<=((n:Nat):Int) by omega)
  have k1:=cM (show((n:Nat):Int)+1<=24 by omega)
  rw[Rat.intCast_add,Rat.intCast_one] at k1
  rw[Rat.intCast_zero] at k0
  rw[Rat.intCast_sub] at fm
  refine⟨by grind,by grind,?_⟩
  by_cases c1:f=1
  ·rw[c1,show(1:Rat)+(((n:Nat):Int):Rat)=(((n:Nat)+1:Int):Rat) by rw[Rat.intCast_add,Rat.intCast_one];grind,jp]
   grind
  ·have ef:(f+(((n:Nat):Int):Rat)).floor =((n:Nat):Int):=Kd (by grind) (by grind)
   unfold lin
   rw[ef]
   grind
 ·have e:yk h=24:=by omega
  have:=he (by omega) (by decide)
  rw[show spk (((0:Nat):Int)+((24:Nat):Int))=3438 by decide+kernel] at this
  grind
def ap (a:Rat):Rat:=if a<0 then -ay (-a) else ay a
theorem D7 {h:Rat} (h0:((-3438:Int):Rat)<=h) (h1:h<=((3438:Int):Rat)):((-24:Int):Rat)<=ap h/\ap h<=((24:Int):Rat)/\lin spk (ap h)=h:=by
 have e1:((-3438:Int):Rat)= -((3438:Int):Rat):=Rat.intCast_neg _
 have e2:((-24:Int):Rat)= -((24:Int):Rat):=Rat.intCast_neg _
 unfold ap
 split
 ·obtain⟨a,b,c⟩:=KV (h:= -h) (by grind) (by grind)
  refine⟨by grind,by grind,?_⟩
  have:=Hv (S:=spk) 0 (fun k=>by rw[Int.zero_sub];exact NF k) (ay (-h))
  rw[show((0:Int):Rat)-ay (-h)= -ay (-h) by rw[Rat.intCast_zero];grind,c] at this
  rw[this];grind
 ·obtain⟨a,b,c⟩:=KV (h:=h) (by grind) h1
  have:(0:Rat)<=((24:Int):Rat):=by decide+kernel
  exact⟨by grind,b,c⟩
def wd:Rat:=((360:Int):Rat)/((96:Int):Rat)
theorem fp:wd=15/4:=by decide+kernel
def sof (x:Rat):Rat:=lin spk (x/wd)/((3438:Int):Rat)
def bF (a:Rat):Rat:=ap (a*((3438:Int):Rat))*wd
theorem fD:((3438:Int):Rat)=3438:=rfl
theorem ma (y:Rat) (n:Int):lin spk (y+((96*n:Int):Rat))=lin spk y:=J1 (fun k=>L8 k n) y
theorem Jz (y:Rat):lin spk (rmod y ((96:Int):Rat))=lin spk y:=by
 unfold rmod
 rw[if_neg (by decide+kernel)]
 have:=ma y (-(y/((96:Int):Rat)).floor)
 rw[<-this]
 congr 1
 rw[Rat.intCast_mul,Rat.intCast_neg];grind
theorem OP (x:Rat):(((spk (rmod (x/wd) ((96:Int):Rat)).floor :Int):Rat)+(rmod (x/wd) ((96:Int):Rat)-(((rmod (x/wd) ((96:Int):Rat)).floor :Int):Rat))*((spk ((rmod (x/wd) ((96:Int):Rat)).floor +1)-spk (rmod (x/wd) ((96:Int):Rat)).floor :Int):Rat))/((3438:Int):Rat)=sof x:=by
 unfold sof
 rw[<-Jz (x/wd)]
 unfold lin
 rw[Rat.intCast_sub]
theorem Qb (a b:Rat):(a+b)/wd=a/wd+b/wd:=by rw[fp];grind
theorem kT (p:Rat) (n:Int):sof (p+((360:Int):Rat)*(n:Rat))=sof p:=by
 unfold sof
 rw[Qb,show((360:Int):Rat)*(n:Rat)/wd=((96*n:Int):Rat) by rw[fp,Rat.intCast_mul,show((360:Int):Rat)=360 from rfl,show((96:Int):Rat)=96 from rfl];grind,ma]
theorem xU (p:Rat):sof (((180:Int):Rat)-p)=sof p:=by
 unfold sof
 rw[show(((180:Int):Rat)-p)/wd=((48:Int):Rat)-p/wd by rw[fp,show((180:Int):Rat)=180 from rfl,show((48:Int):Rat)=48 from rfl];grind,pL 48 oh]
theorem Cw {a:Rat} (h1:((-1:Int):Rat)<=a) (h2:a<=((1:Int):Rat)):sof (bF a)=a:=by
 have e1:((-1:Int):Rat)= -1:=by decide+kernel
 have e2:((1:Int):Rat)=1:=by decide+kernel
 have e3:((-3438:Int):Rat)= -3438:=by decide+kernel
 obtain⟨_,_,h⟩:=D7 (h:=a*((3438:Int):Rat)) (by rw[fD];grind) (by rw[fD];grind)
 unfold sof bF
 rw[show ap (a*((3438:Int):Rat))*wd/wd=ap (a*((3438:Int):Rat)) by rw[fp];grind,h,fD]
 grind
theorem fN (p:Rat): -1<=sof p/\sof p<=1:=by
 have:=EP (S:=spk) 3438 lZ (p/wd)
 unfold sof
 rw[fD] at*
 constructor <;> grind
theorem O2 {d:Rat} (h1:((-90:Int):Rat)<=d) (h2:d<=((90:Int):Rat)):((-24:Int):Rat)<=d/wd/\d/wd<=((24:Int):Rat):=by
 have e1:((-90:Int):Rat)= -90:=by decide+kernel
 have e2:((90:Int):Rat)=90:=by decide+kernel
 have e3:((-24:Int):Rat)= -24:=by decide+kernel
 have e4:((24:Int):Rat)=24:=by decide+kernel
 rw[fp]
 constructor <;> grind
theorem jj (p:Rat):sof p*((3438:Int):Rat)=lin spk (p/wd):=by unfold sof;rw[fD];grind
theorem fx {a b:Rat} (h1: -b<=a) (h2:a<=b):a.abs<=b:=by unfold Rat.abs;split <;> grind
theorem uX (a:Rat):a<=a.abs/\ -a<=a.abs/\(a.abs=a\/a.abs= -a):=by unfold Rat.abs;split <;> grind
theorem nR (p q:Rat):(sof p-sof q).abs <=(p-q).abs *(((60:Int):Rat)/((3438:Int):Rat)):=by
 have key:∀ {p q:Rat},p<=q-> -((q-p)*(60/3438))<=sof p-sof q/\sof p-sof q<=(q-p)*(60/3438):=by
  intro p q h
  have hw:p/wd<=q/wd:=by rw[fp];grind
  have:=Mf (S:=spk) 225 ji hw
  obtain⟨l1,l2,_⟩:=uX (lin spk (p/wd)-lin spk (q/wd))
  have e:((225:Int):Rat)*(q/wd-p/wd)=60*(q-p):=by rw[fp,show((225:Int):Rat)=225 from rfl];grind
  rw[e] at this
  have s1:=jj p
  have s2:=jj q
  rw[fD] at s1 s2
  constructor <;> grind
 have e:((60:Int):Rat)/((3438:Int):Rat)=60/3438:=by decide+kernel
 rw[e]
 by_cases h:p<=q
 ·obtain⟨a,b⟩:=key h
  have:(p-q).abs =q-p:=by unfold Rat.abs;split <;> grind
  rw[this];exact fx a b
 ·obtain⟨a,b⟩:=key (show q<=p by grind)
  have:(p-q).abs =p-q:=by unfold Rat.abs;split <;> grind
  rw[this];exact fx (by grind) (by grind)
theorem qg {p q:Rat} (h1:((-90:Int):Rat)<=p) (h2:p<q) (h3:q<=((90:Int):Rat)):sof p<sof q:=by
 have w1:=(O2 h1 (by grind)).1
 have w2:=(O2 (by grind) h3).2
 have:=pC w1 (show p/wd<q/wd by rw[fp];grind) w2
 have s1:=jj p
 have s2:=jj q
 rw[fD] at s1 s2
 grind
theorem Lp {f e0 e1 v:Rat} (h0:0<=f) (h1:f<=1) (a1:e0<=4000) (a2: -4000<=e0) (b1:e1<=4000) (b2: -4000<=e1) (c1:v<=4000) (c2: -30000<=v):
 (1-f)*(1-f)*e0+f*f*e1+2*(f*(1-f))*v<=4000/\ -17000<=(1-f)*(1-f)*e0+f*f*e1+2*(f*(1-f))*v:=by
 have t0:0<=f*(1-f):=Rat.mul_nonneg h0 (by grind)
 have s1:0<=(1-f)*(1-f):=Rat.mul_nonneg (by grind) (by grind)
 have s2:0<=f*f:=Rat.mul_nonneg h0 h0
 have m1:=Rat.mul_nonneg s1 (show 0<=4000-e0 by grind)
 have m2:=Rat.mul_nonneg s1 (show 0<=e0+4000 by grind)
 have m3:=Rat.mul_nonneg s2 (show 0<=4000-e1 by grind)
 have m4:=Rat.mul_nonneg s2 (show 0<=e1+4000 by grind)
 have m5:=Rat.mul_nonneg t0 (show 0<=4000-v by grind)
 have m6:=Rat.mul_nonneg t0 (show 0<=v+30000 by grind)
 have sq:0<=(f-1/2)*(f-1/2):=by
  by_cases h:f-1/2<=0
  ·have:=Rat.mul_nonneg (show 0<= -(f-1/2) by grind) (show 0<= -(f-1/2) by grind);grind
  ·exact Rat.mul_nonneg (by grind) (by grind)
 constructor <;> grind
theorem G4 (y:Rat):lin spk y*lin spk y+lin spk (y+((24:Int):Rat))*lin spk (y+((24:Int):Rat))-11819844<=4000/\ -17000<=lin spk y*lin spk y+lin spk (y+((24:Int):Rat))*lin spk (y+((24:Int):Rat))-11819844:=by
 have f0:=fe y
 have f1:=fA y
 have e:lin spk (y+((24:Int):Rat))=(spk (y.floor+24):Rat)+(y-(y.floor:Rat))*((spk (y.floor+25):Rat)-(spk (y.floor+24):Rat)):=by
  unfold lin
  rw[Rat.floor_add_intCast,show y.floor+24+1=y.floor+25 by omega,Rat.intCast_add];grind
 rw[e]
 unfold lin
 obtain⟨⟨t1,t2⟩,t3,t4⟩:=Au y.floor
 obtain⟨⟨t5,t6⟩,_⟩:=Au (y.floor+1)
 rw[show y.floor+1+24=y.floor+25 by omega] at t5 t6
 replace t1:=cM t1;replace t2:=cM t2;replace t3:=cM t3;replace t4:=cM t4;replace t5:=cM t5;replace t6:=cM t6
 simp only [Rat.intCast_add,Rat.intCast_mul,Rat.intCast_sub] at t1 t2 t3 t4 t5 t6
 rw[show((11819844:Int):Rat)=11819844 from rfl] at*
 rw[show((4000:Int):Rat)=4000 from rfl] at t1 t3 t5
 rw[show((-4000:Int):Rat)= -4000 from rfl] at t2 t6
 rw[show((-30000:Int):Rat)= -30000 from rfl] at t4
 generalize (spk y.floor:Rat)=A at*
 generalize (spk (y.floor+1):Rat)=B at*
 generalize (spk (y.floor+24):Rat)=C at*
 generalize (spk (y.floor+25):Rat)=D at*
 obtain⟨f,hf⟩:∃f,f=y-(y.floor:Rat):=⟨_,rfl⟩
 rw[<-hf]
 have:=Lp (f:=f) (e0:=A*A+C*C-11819844) (e1:=B*B+D*D-11819844) (v:=A*B+C*D-11819844) (by grind) (by grind) t1 t2 t5 t6 t3 t4
 have e2:(A+f*(B-A))*(A+f*(B-A))+(C+f*(D-C))*(C+f*(D-C))-11819844=(1-f)*(1-f)*(A*A+C*C-11819844)+f*f*(B*B+D*D-11819844)+2*(f*(1-f))*(A*B+C*D-11819844):=by grind
 rw[e2]
 exact this
theorem Gf (p:Rat):(sof p*sof p+sof (p+((90:Int):Rat))*sof (p+((90:Int):Rat))-((1:Int):Rat)).abs <=((1:Int):Rat)/((500:Int):Rat):=by
 have e1:((1:Int):Rat)=1:=by decide+kernel
 have e2:((1:Int):Rat)/((500:Int):Rat)=1/500:=by decide+kernel
 rw[e2,e1]
 have h:=G4 (p/wd)
 have e3:(p+((90:Int):Rat))/wd=p/wd+((24:Int):Rat):=by rw[fp,show((90:Int):Rat)=90 from rfl,show((24:Int):Rat)=24 from rfl];grind
 have s1:=jj p
 have s2:=jj (p+((90:Int):Rat))
 rw[e3] at s2
 rw[<-s1,<-s2,fD] at h
 generalize sof p=s at*
 generalize sof (p+((90:Int):Rat))=c at*
 exact fx (by grind) (by grind)
theorem Ju (y:Rat):∃z:Rat,((-24:Int):Rat)<=z/\z<=((24:Int):Rat)/\lin spk z=lin spk y/\lin spk (z+((24:Int):Rat))=(lin spk (y+((24:Int):Rat))).abs :=by
 have e24:((24:Int):Rat)=24:=by decide+kernel
 have e48:((48:Int):Rat)=48:=by decide+kernel
 have em24:((-24:Int):Rat)= -24:=by decide+kernel
 have e96:((96:Int):Rat)=96:=by decide+kernel
 obtain⟨r,hr0,hr1,n,hn⟩:∃r:Rat, -24<=r/\r<72/\∃n:Int,y=r+((96*n:Int):Rat):=by
  refine⟨rmod (y+24) 96-24,?_,?_,((y+24)/96).floor,?_⟩
  ·have:=fv (x:=y+24) (m:=96) (by grind);grind
  ·have:=eN (x:=y+24) (m:=96) (by grind);grind
  ·unfold rmod;rw[if_neg (by grind),Rat.intCast_mul,e96];grind
 have y1:lin spk y=lin spk r:=by rw[hn,ma]
 have y2:lin spk (y+((24:Int):Rat))=lin spk (r+((24:Int):Rat)):=by
  rw[hn,show r+((96*n:Int):Rat)+((24:Int):Rat)=r+((24:Int):Rat)+((96*n:Int):Rat) by grind,ma]
 have pos:∀z:Rat,0<=z->z<=48->0<=lin spk z:=by
  have l0:lin spk 0=0:=by have:=jp spk 0;rw[Rat.intCast_zero] at this;rw[this];decide+kernel
  have low:∀z:Rat,0<=z->z<=24->0<=lin spk z:=by
   intro z a b
   by_cases c:z=0
   ·rw[c,l0];grind
   ·have:=pC (y:=0) (z:=z) (by rw[em24];grind) (by grind) (by rw[e24];grind);grind
  intro z a b
  by_cases c:z<=24
  ·exact low z a c
  ·have:=pL (S:=spk) 48 oh z
   rw[<-this,e48];exact low _ (by grind) (by grind)
 rw[y1,y2]
 by_cases c:r<=24
 ·refine⟨r,by rw[em24];exact hr0,by rw[e24];exact c,rfl,?_⟩
  have:=pos (r+((24:Int):Rat)) (by rw[e24];grind) (by rw[e24];grind)
  unfold Rat.abs;rw[if_pos this]
 ·refine⟨((48:Int):Rat)-r,by rw[em24,e48];grind,by rw[e24,e48];grind,pL 48 oh r,?_⟩
  have h1:lin spk (((48:Int):Rat)-r+((24:Int):Rat))=lin spk (r-((24:Int):Rat)):=by
   rw[<-pL (S:=spk) 48 oh (r-((24:Int):Rat))]
   congr 1;grind
  have h2:=MC (S:=spk) 48 GC (r-((24:Int):Rat))
  rw[show r-((24:Int):Rat)+((48:Int):Rat)=r+((24:Int):Rat) by rw[e24,e48];grind] at h2
  have:=pos (r-((24:Int):Rat)) (by rw[e24];grind) (by rw[e24];grind)
  rw[h1,h2]
  unfold Rat.abs;split <;> grind
theorem JU (p:Rat):sof (bF (sof p))=sof p/\sof (bF (sof p)+((90:Int):Rat))=(sof (p+((90:Int):Rat))).abs :=by
 obtain⟨z,h1,h2,h3,h4⟩:=Ju (p/wd)
 have b:=fN p
 refine⟨Cw (by rw[show((-1:Int):Rat)= -1 from rfl];exact b.1) (by rw[show((1:Int):Rat)=1 from rfl];exact b.2),?_⟩
 have e:bF (sof p)=z*wd:=by
  have q:=EP (S:=spk) 3438 lZ (p/wd)
  have e3:((-3438:Int):Rat)= -((3438:Int):Rat):=by decide+kernel
  obtain⟨a1,a2,a3⟩:=D7 (h:=lin spk (p/wd)) (by grind) q.2
  unfold bF
  rw[jj,MY a1 a2 h1 h2 (a3.trans h3.symm)]
 rw[e]
 unfold sof
 rw[show(z*wd+((90:Int):Rat))/wd=z+((24:Int):Rat) by rw[fp,show((90:Int):Rat)=90 from rfl,show((24:Int):Rat)=24 from rfl];grind,show(p+((90:Int):Rat))/wd=p/wd+((24:Int):Rat) by rw[fp,show((90:Int):Rat)=90 from rfl,show((24:Int):Rat)=24 from rfl];grind,h4,fD]
 unfold Rat.abs
 split <;> split <;> grind
def pk (x:Rat):Int:=(rmod (x/wd) ((96:Int):Rat)).floor
def pfr (x:Rat):Rat:=rmod (x/wd) ((96:Int):Rat)-((pk x:Int):Rat)
theorem lj (x:Rat):0<=pk x/\pk x<96:=by
 have h:(0:Rat)<((96:Int):Rat):=by decide+kernel
 have h1:=fv (x:=x/wd) h
 have h2:=eN (x:=x/wd) h
 refine⟨Rat.le_floor_iff.2 (by rw[Rat.intCast_zero];exact h1),Rat.floor_lt_iff.2 h2⟩
theorem Q7 (x:Rat):jb (rmod (x/wd) ((96:Int):Rat)).floor =pk x:=mW (by have:=lj x;unfold pk at this;omega) (by have:=lj x;unfold pk at this;omega)
theorem nY (x:Rat):(((spk (pk x):Int):Rat)+pfr x*((spk (pk x+1)-spk (pk x):Int):Rat))/((3438:Int):Rat)=sof x:=OP x
theorem rj:av wd 2:=(fO (co (by decide) (by decide)) (co (by decide) (by decide))).up 2 (by decide)
theorem eC {n:Int} (h0: -9223372036854775808<=n) (h1:n<=9223372036854775807):av ((n:Int):Rat) 2:=cK (co h0 h1) (by decide)
theorem DY {x:Rat} {k:Nat} (h:av x k):av (rmod (x/wd) ((96:Int):Rat)) (2*k+20):=(mv (dX h rj) (eC (by decide) (by decide))).up _ (by omega)
theorem Bk {x:Rat} {k:Nat} (h:av x k):av (pfr x) (4*k+50):=(zw (DY h)).up _ (by omega)
theorem dC (k:Int): -9223372036854775808<=spk k/\spk k<=9223372036854775807:=by have:=lZ k;omega
theorem fk (k:Int): -9223372036854775808<=spk (k+1)-spk k/\spk (k+1)-spk k<=9223372036854775807:=by have:=ji k;omega
theorem Nn {x:Rat} {k:Nat} (h:av x k):av (sof x) (4*k+60):=by
 rw[<-nY]
 exact(dX (bP (eC (dC _).1 (dC _).2) (bm (Bk h) (eC (fk _).1 (fk _).2))) (eC (n:=3438) (by decide) (by decide))).up _ (by omega)
theorem Gi {h:Rat} {k:Nat} (l:av h k):av (ay h) (k+10):=by
 unfold ay
 split
 ·exact(bP (dX (cD l (eC (dC _).1 (dC _).2)) (eC (fk _).1 (fk _).2)) (eC (by omega) (by omega))).up _ (by omega)
 ·exact(eC (by decide) (by decide)).up _ (by omega)
theorem mS {x:Rat} {k:Nat} (l:av x k):av (bF x) (k+20):=by
 have h:=bm l (eC (n:=3438) (by decide) (by decide))
 unfold bF ap
 refine(bm (k:=k+12) ?_ rj).up _ (by omega)
 split
 ·exact gF (Gi (gF h))
 ·exact Gi h
theorem Ch {k:Int} (h0:0<=k) (h1:k<=24):hiT.getD (max 0 (min k 24)).toNat 0=spk k:=by
 have t:∀n:Nat,n<25->hiT.getD (max 0 (min (n:Int) 24)).toNat 0=spk (n:Int):=by decide+kernel
 have:=t k.toNat (by omega)
 rwa[show((k.toNat:Nat):Int)=k by omega] at this
theorem FF {a b:Rat}:0<qc a b↔b<a:=by
 rw[yU]
 split
 ·constructor
  ·intro h;omega
  ·intro h;grind
 ·split
  ·constructor
   ·intro;assumption
   ·intro;omega
  ·constructor
   ·intro h;omega
   ·intro h;contradiction
theorem CH {h:Rat} {j:Nat} (hj:j<24) (e:ykf h (24-j) j=yk h) (hc:0<qc h ((spk (((j:Nat):Int)+1):Int):Rat)):ykf h (24-(j+1)) (j+1)=yk h:=by
 rw[<-e,show 24-j=(24-(j+1))+1 by omega]
 show _=if h<=_ then _ else _
 have:=FF.1 hc
 rw[if_neg (by grind)]
theorem CE {h:Rat} {j:Nat} (hj:j<24) (e:ykf h (24-j) j=yk h) (hc:¬0<qc h ((spk (((j:Nat):Int)+1):Int):Rat)):yk h=j:=by
 rw[<-e,show 24-j=(24-(j+1))+1 by omega]
 show(if h<=_ then _ else _)=_
 have:¬_<_:=fun q=>hc (FF.2 q)
 rw[if_pos (by grind)]
theorem yw {x:Rat} {j:Nat} (hx:¬x<0) (hj:j<24) (e:yk (x*((3438:Int):Rat))=j):((x*((3438:Int):Rat)-((spk ((j:Nat):Int):Int):Rat))/((spk (((j:Nat):Int)+1)-spk ((j:Nat):Int):Int):Rat)+((((j:Nat):Int):Int):Rat))*wd=bF x:=by
 unfold bF ap
 rw[if_neg (by rw[fD];grind)]
 unfold ay
 rw[e,if_pos hj]
theorem BH {x:Rat} (hx:¬x<0) (e:yk (x*((3438:Int):Rat))=24):((90:Int):Rat)=bF x:=by
 unfold bF ap
 rw[if_neg (by rw[fD];grind)]
 unfold ay
 rw[e,if_neg (by decide)]
 decide+kernel
theorem rP {x:Rat} (hx:x<0): -(bF (-x))=bF x:=by
 unfold bF ap
 rw[if_neg (by rw[fD];grind),if_pos (by rw[fD];grind),show -x*((3438:Int):Rat)= -(x*((3438:Int):Rat)) by grind]
 grind
theorem oB {q:Rat}:sz q.num<0↔q<0:=by
 rw[GF]
 split
 ·constructor <;> intro <;> first|assumption|omega
 ·split
  ·constructor <;> intro <;> first|contradiction|omega
  ·constructor <;> intro <;> first|contradiction|omega
theorem Ck {q:Rat} (h:q<0):¬sz (-q).num <0:=by
 rw[oB];grind
def Gn (w:World) (x:Rat):Ending->World->Prop:=fun e w'=>∃v,e= .returned (.tuple #[iv (pk x),v])/\Rq w' v (pfr x)/\Below w.heap.size w w'
theorem Qm {a b:Int} {v:Value} (h:a=b):Ending.returned (.tuple #[iv a,v])= .returned (.tuple #[iv b,v]):=by rw[h]
theorem AJ {P:Program} {fn:Func} {a:Act} {w:World} {t u:Tmp} {T:TypeId} {p:Addr} {v x:Value} (h:fn.results=#[.tmp t,.cell u T]) (hx:a.tmps.getD t undef=x) (ha:a.tmps.getD u undef= .pointer (some p)) (hl:(Instr.loadAt T (.pointer (some p))).run P w= .ok v w):
 (results fn a.tmps).run P w= .ok (.tuple #[x,v]) w:=by
 have hl':(loadVar T p).run P w= .ok v w:=hl
 have e:(asAddr (a.tmps.getD u undef)).run P w= .ok p w:=by rw[ha];rfl
 simp only [results,h,List.mapM_toArray,List.mapM_cons,List.mapM_nil,Sem.run_bind,e,Result.andThen_ok,hl',Sem.run_pure,Sem.run_map,hx]
 rfl
end
section
theorem tF (k:Int) (w:World) (hT:bE w) (h0:0<=k) (h1:k<=24):CV 281 #[iv k] w (iv (spk k)):=by
 have:=tI k w hT
 rwa[show hiv k=spk k from Ch h0 h1] at this
theorem wJ (w:World):
 CQ 282 #[] w wd:=by
 refine gs0 (nt:=2) Tryz.func282 rfl rfl fun a st hF=>wq<|S.alloc st hF ab rfl rfl fun g0 w1 a st hF=>nq<|S.ck st hF (rgc k36 (aL ao ao)) en Rl.cl rfl fun vv3 w2 a st hF=>?_
 obtain⟨r5,rfl⟩:=Rq.fo (st.f 0 rfl).1
 refine so st hF 0 1 0 ab rfl rfl rfl rfl fun w6 a st hF=>nr<|rs Tryz.results282 st hF 1 0 ab rfl rfl rfl ?_
 exact⟨_,rfl,(st.f 0 rfl).1,st.bel⟩
theorem tG (k:Int) (w:World) (hT:bE w) (h0: -1000000<=k) (h1:k<=1000000):
 CV 280 #[iv k] w (iv (spk (k+1)-spk k)):=by
 have hsa:=lZ k
 have hsb:=lZ (k+1)
 refine gs1 (nt:=9) Tryz.func280 rfl rfl rfl fun a st hF=>wq ?_
 refine oC hF rfl fun a hF=>nq<|oM hF 1 rfl rfl fun a hF=>oV hF (aq hF.o ao aa (aX (by omega) (by omega))) rfl fun a hF=>cX st hF (rgc Hh (aG hF.o)) (rn (k+1) _ (hT.below st.bel)) rfl fun w1 a st hF=>oM hF 4 rfl rfl fun a hF=>cX st hF (rgc Hh (aG hF.o)) (rn k _ (hT.below st.bel)) rfl fun w2 a st hF=>?_
 refine oV hF (aq hF.q hF.o aa (bB (by omega) (by omega))) rfl fun a hF=>oE hF 0 rfl rfl fun a hF=>nr ?_
 have bel:=st.bel
 refine rt Tryz.results280 hF 0 rfl ?_
 exact⟨rfl,bel⟩
theorem wW (v1:Value) (qx:Rat) (k:Nat) (w:World) (h1:Rq w v1 qx) (hl:av qx k) (hk:k<=900):
 CP 278 #[v1] w (Gn w qx):=by
 refine gs1 (nt:=20) Tryz.func278 rfl rfl rfl fun a st hF=>wq ?_
 obtain⟨r2,rfl⟩:=Rq.fo h1
 refine bx st hF 0 rfl rfl fun g1 w1 a st hF=>oC hF rfl fun a hF=>S.alloc st hF ab rfl rfl fun g3 w3 a st hF=>ns<|gz1 6 aM st hF ab [7,8,9,10,11,4] [_,_,_,_,_,_] (by decide+kernel) rfl rfl rfl ⟨rb st ab 2 1 rfl,ck st Qc rfl fun _ s=>bf (wJ _) rj,ck st pz rfl fun _ s _ x8=>qb ⟨(h1.below s.bel),hl⟩ x8,ck st k40 rfl fun _ s=>dM,ck st DV rfl fun _ s _ x9 _ x10=>SO x9 x10,ra ab rfl rfl,trivial⟩ fun r7 g4 w8 a st hF=>nq ?_
 refine oL hF st 0 0 ab rfl rfl rfl rfl fun a hF=>cX st hF (rgc vi (aG hF.o)) (jT _ _ ((k+2)+(k+2)+2+2+3) _ (st.f 0 rfl).1 (st.f 0 rfl).2 (by omega)) rfl fun w9 a st hF=>?_
 refine oM hF 0 rfl rfl fun a hF=>oV hF (aH (v:= iv (jb (Rat.floor (rmod ((qx)/(wd)) (((96:Int):Rat)))))) hF.o rfl) rfl fun a hF=>oV hF (aH (v:= .bool (jh (Rat.floor (rmod ((qx)/(wd)) (((96:Int):Rat)))))) hF.p rfl) rfl fun a hF=>oA hF 1 rfl rfl fun a hF=>oA hF 1 rfl rfl fun a hF=>nq<|oM hF 1 rfl rfl fun a hF=>oL hF st 8 0 ab rfl rfl rfl rfl fun a hF=>S.ck st hF (rgc O8 (aG hF.o)) (Kq (st.f 0 rfl)) Rl.cl rfl fun vv11 w10 a st hF=>?_
 obtain⟨r13,rfl⟩:=Rq.fo (st.f 0 rfl).1
 refine oE hF 2 rfl rfl fun a hF=>so st hF 1 13 1 ab rfl rfl rfl rfl fun w14 a st hF=>nr ?_
 have bel:=st.bel
 refine bodyPost_ret (AJ Tryz.results278 hF.o (hF.at 13 rfl) (bK ab (st.bk 1 rfl) rfl)) hF.dfr ?_
 exact⟨_,Qm (Q7 qx),(st.f 0 rfl).1,bel⟩
theorem Bs (v1:Value) (qx:Rat) (k:Nat) (w:World) (hT:bE w) (h1:Rq w v1 qx) (hl:av qx k) (hk:k<=800):
 CQ 259 #[v1] w (sof qx):=by
 refine gs1 (nt:=23) Tryz.func259 rfl rfl rfl fun a st hF=>wq ?_
 obtain⟨r2,rfl⟩:=Rq.fo h1
 refine bx st hF 0 rfl rfl fun g1 w1 a st hF=>S.alloc st hF ab rfl rfl fun g2 w3 a st hF=>nq<|oL hF st 1 1 ab rfl rfl rfl rfl fun a hF=>?_
 refine S.callt st hF (rgc Pf (aG hF.o)) (wW _ (qx) k _ (h1.below st.bel) hl (by omega)) (fun _ _ h=>h) Rq.cl rfl rfl rfl rfl fun vv5 w4 a st hF=>?_
 have hpk:=lj (qx)
 obtain⟨r7,rfl⟩:=Rq.fo (st.f 0 rfl)
 refine oM hF 0 rfl rfl fun a hF=>oV hF (aH (v:= iv (pk (qx))) hF.o rfl) rfl fun a hF=>oV hF (aH (v:= r7.v) hF.p rfl) rfl fun a hF=>S.alloc st hF ab rfl rfl fun g4 w8 a st hF=>oA hF 2 rfl rfl fun a hF=>so st hF 0 1 2 ab rfl rfl rfl rfl fun w9 a st hF=>ns<|gz1 10 aM st hF ab [11,12,13,14,15,16,17,18,19,5] [_,_,_,_,_,_,_,_,_,_] (by decide+kernel) rfl rfl rfl ⟨rm 0 rfl,ck st Hh rfl fun _ s=>bD (rn (pk (qx)) _ (hT.below s.bel)),ck st k40 rfl fun _ s=>bf (gp (spk (pk (qx))) _ (dC (pk (qx))).1 (dC (pk (qx))).2) (cK (co (dC (pk (qx))).1 (dC (pk (qx))).2) (by omega)),rb st ab 1 0 rfl,rm 0 rfl,ck st JS rfl fun _ s=>bD (tG (pk (qx)) _ (hT.below s.bel) (by omega) (by omega)),ck st k40 rfl fun _ s=>bf (gp (spk (pk (qx)+1)-spk (pk (qx))) _ (fk (pk (qx))).1 (fk (pk (qx))).2) (cK (co (fk (pk (qx))).1 (fk (pk (qx))).2) (by omega)),ck st dB rfl fun _ s _ x17=>dE ⟨(s.f 0 rfl),(Bk hl)⟩ x17,ck st k76 rfl fun _ s _ x13 _ x18=>pF x13 x18,ra ab rfl rfl,trivial⟩ fun r13 g5 w14 a st hF=>?_
 refine ns<|gz2 3 aM st hF ab 2 9 [20,21,22] [_,_,_] (by decide+kernel) rfl rfl rfl ⟨rb st ab 0 0 rfl,ck st k40 rfl fun _ s=>dM,ck st pz rfl fun _ s _ x21=>qb (s.f 0 rfl) x21,trivial⟩ fun r18 w19 a st hF=>nr<|rs Tryz.results259 st hF 10 2 ab rfl rfl rfl ?_
 exact⟨_,rfl,Rq.castM (st.f 0 rfl).1 (nY qx),st.bel⟩
theorem IG (v1:Value) (qx:Rat) (k:Nat) (w:World) (hT:bE w) (h1:Rq w v1 qx) (hl:av qx k) (hk:k<=700):
 CQ 269 #[v1] w (sof (qx+((90:Int):Rat))):=by
 refine gs1 (nt:=7) Tryz.func269 rfl rfl rfl fun a st hF=>wq ?_
 obtain⟨r2,rfl⟩:=Rq.fo h1
 refine bx st hF 0 rfl rfl fun g1 w1 a st hF=>S.alloc st hF ab rfl rfl fun g2 w3 a st hF=>ns<|gz2 4 aM st hF ab 0 0 [3,4,5,6] [_,_,_,_] (by decide+kernel) rfl rfl rfl ⟨rb st ab 1 1 rfl,ck st k40 rfl fun _ s=>dM,ck st k76 rfl fun _ s _ x4=>pF ⟨(h1.below s.bel),hl⟩ x4,ck st vJ rfl fun _ s _ x5=>bf (Bs _ ((qx)+(((90:Int):Rat))) (k+2+1) _ (hT.below s.bel) x5.1 x5.2 (by omega)) (Nn x5.2),trivial⟩ fun r7 w8 a st hF=>nr<|rs Tryz.results269 st hF 1 0 ab rfl rfl rfl ?_
 exact⟨_,rfl,(st.f 0 rfl).1,st.bel⟩
theorem I9 (v1:Value) (qx:Rat) (k:Nat) (w:World) (hT:bE w) (h1:Rq w v1 qx) (hl:av qx k) (hk:k<=800):
 CV 266 #[v1] w (iv (spk (pk qx+1)-spk (pk qx))):=by
 refine gs1 (nt:=12) Tryz.func266 rfl rfl rfl fun a st hF=>wq ?_
 obtain⟨r2,rfl⟩:=Rq.fo h1
 refine bx st hF 0 rfl rfl fun g1 w1 a st hF=>?_
 refine oC hF rfl fun a hF=>nq<|oL hF st 1 0 ab rfl rfl rfl rfl fun a hF=>?_
 refine S.callt st hF (rgc Pf (aG hF.o)) (wW _ (qx) k _ (h1.below st.bel) hl (by omega)) (fun _ _ h=>h) Rq.cl rfl rfl rfl rfl fun vv4 w3 a st hF=>?_
 have hpk:=lj (qx)
 obtain⟨r6,rfl⟩:=Rq.fo (st.f 0 rfl)
 refine oM hF 0 rfl rfl fun a hF=>oV hF (aH (v:= iv (pk (qx))) hF.o rfl) rfl fun a hF=>oV hF (aH (v:= r6.v) hF.p rfl) rfl fun a hF=>S.alloc st hF ab rfl rfl fun g4 w7 a st hF=>oA hF 2 rfl rfl fun a hF=>so st hF 0 1 2 ab rfl rfl rfl rfl fun w8 a st hF=>nq<|oM hF 0 rfl rfl fun a hF=>cX st hF (rgc JS (aG hF.o)) (tG (pk (qx)) _ (hT.below st.bel) (by omega) (by omega)) rfl fun w9 a st hF=>?_
 refine oE hF 0 rfl rfl fun a hF=>nr ?_
 have bel:=st.bel
 refine rt Tryz.results266 hF 0 rfl ?_
 exact⟨rfl,bel⟩
theorem Cv (v1:Value) (qx:Rat) (k:Nat) (w:World) (hT:bE w) (h1:Rq w v1 qx) (hl:av qx k) (hk:k<=1000) (hn:¬sz (Rat.num qx)<0):
 CQ 261 #[v1] w (bF qx):=by
 have hx:¬qx<0:=fun e=>hn (oB.2 e)
 refine gs1 (nt:=45) Tryz.func261 rfl rfl rfl fun a st hF=>wq ?_
 obtain⟨r2,rfl⟩:=Rq.fo h1
 refine bx st hF 0 rfl rfl fun g1 w1 a st hF=>S.alloc st hF ab rfl rfl fun g2 w3 a st hF=>ns<|wq<|oL hF st 1 1 ab rfl rfl rfl rfl fun a hF=>cX st hF (rgc nO (aG hF.o)) (gv _ (qx) _ (h1.below st.bel)) rfl fun w4 a st hF=>oT hF 0 (aY (c:=false) (aJ hn)) rfl rfl fun a hF=>E.nil<|wp_cond_false hF.o ?_
 refine wp_skip<|E.norm<|wp_seq<|gz1 4 aM st hF ab [14,15,16,3] [_,_,_,_] (by decide+kernel) rfl rfl rfl ⟨rb st ab 4 1 rfl,ck st k40 rfl fun _ s=>dM,ck st dB rfl fun _ s _ x15=>dE ⟨(h1.below s.bel),hl⟩ x15,ra ab rfl rfl,trivial⟩ fun r8 g3 w9 a st hF=>ns<|wq<|oV hF (aD ao) rfl fun a hF=>E.nil<|wp_block ?_
 refine E.loop (fun mq a wv=>∃(j:Nat),j<=24/\ykf (qx*((3438:Int):Rat)) (24-j) j=yk (qx*((3438:Int):Rat))/\Fr 45 a [(17,iv ((j:Nat):Int)),(3,.pointer (some ⟨g3,0,none⟩)),(2,.pointer (some ⟨g2,0,none⟩))]/\St w wv [(g3,r8.l),(g2,[.bool false,.slice none 0 0,.slice none 0 0])] [fun w=>Rq w (.agg #[.bool false,.slice none 0 0,.slice none 0 0]) 0,fun w=>Rl ((qx)*(((3438:Int):Rat))) ((k+2)) w (r8.v)]/\mq=24-j) (24-0) ?_ ?_
 ·exact⟨0,(by omega),rfl,Fr.pick (L':=[(17,iv 0),(3,.pointer (some ⟨g3,0,none⟩)),(2,.pointer (some ⟨g2,0,none⟩))]) hF [0,1,6] rfl,(st.add (Rq.zero _) (Rq.cl _)).pick [0,1] [0,1] rfl rfl (by decide),rfl⟩
 ·rintro mq a w10 ⟨j,hj,hyk,hF,st,hm⟩
  by_cases hjn:j<24
  ·refine wp_seq<|E.seq ?_
   refine oT hF 0 (aY (c:=true) (aI (by omega))) rfl rfl fun a hF=>ns<|wp_cond_true hF.o<|wp_skip<|E.norm<|wp_seq<|wp_block<|wq ?_
   refine oM hF 1 rfl rfl fun a hF=>oA hF 0 rfl rfl fun a hF=>ns<|wp_seq ?_
   by_cases hc11:0<qc ((qx)*(((3438:Int):Rat))) (((spk (((j:Nat):Int)+1):Int):Rat))
   ·refine E.rg 7 aM hF [20,21,22,23,24,25,26] [_,_,.ex (iv (((j:Nat):Int)+1)),_,_,_,.ex (.bool true)] (by decide+kernel) rfl rfl rfl ⟨rb st ab 4 0 rfl,rm 0 rfl,(by intro a' w' hF' hb hd;have e21:=tE hd 0 rfl;exact dv0 (aq e21 ao aa (aX (by omega) (by omega))) rfl rfl rfl),ck st I1 rfl fun _ s=>bD (tF (((j:Nat):Int)+1) _ (hT.below s.bel) (by omega) (by omega)),ck st k40 rfl fun _ s=>bf (gp (spk (((j:Nat):Int)+1)) _ (dC (((j:Nat):Int)+1)).1 (dC (((j:Nat):Int)+1)).2) (cK (co (dC (((j:Nat):Int)+1)).1 (dC (((j:Nat):Int)+1)).2) (by omega)),ck st k31 rfl fun _ s _ x24=>bD (uj _ _ ((qx)*(((3438:Int):Rat))) (((spk (((j:Nat):Int)+1):Int):Rat)) (max (k+2) 2) _ (s.f 1 rfl).1 x24.1 ((s.f 1 rfl).2.up _ (by omega)) (x24.2.up _ (by omega)) (by omega)),(by intro a' w' hF' hb hd;have e25:=tE hd 0 rfl;exact dv0 (aq e25 ao aa (aO (bT (c:=true) (aI hc11)) (by simp))) rfl rfl rfl),trivial⟩ ?_
    intro a w12 hF bb hall
    replace st:=st.to bb
    replace hF:=rE hall hF 6 rfl rfl
    clear hall bb
    refine E.nil<|wp_cond_true hF.o<|wp_exit<|E.past<|E.out (id:=1)<|E.norm<|E.seq<|oV hF (aq (hF.at 4 rfl) ao aa (aX (by omega) (by omega))) rfl fun a hF=>oS hF (aD hF.o) rfl fun a hF=>E.nil0<|E.norm ?_
    exact⟨24-(j+1),by omega,⟨(j+1),(by omega),(CH (by omega) hyk hc11),(by rw[show((j+1:Nat):Int)=((j:Nat):Int)+1 from by omega];exact Fr.pick (L':=[(17,iv (((j:Nat):Int)+1)),(3,.pointer (some ⟨g3,0,none⟩)),(2,.pointer (some ⟨g2,0,none⟩))]) hF [0,6,7] rfl),(st.add (st.f 0 rfl) (Rq.cl _)).pick [0,1] [0,2] rfl rfl (by decide),rfl⟩⟩
   ·refine E.rg 7 aM hF [20,21,22,23,24,25,26] [_,_,.ex (iv (((j:Nat):Int)+1)),_,_,_,.ex (.bool false)] (by decide+kernel) rfl rfl rfl ⟨rb st ab 4 0 rfl,rm 0 rfl,(by intro a' w' hF' hb hd;have e21:=tE hd 0 rfl;exact dv0 (aq e21 ao aa (aX (by omega) (by omega))) rfl rfl rfl),ck st I1 rfl fun _ s=>bD (tF (((j:Nat):Int)+1) _ (hT.below s.bel) (by omega) (by omega)),ck st k40 rfl fun _ s=>bf (gp (spk (((j:Nat):Int)+1)) _ (dC (((j:Nat):Int)+1)).1 (dC (((j:Nat):Int)+1)).2) (cK (co (dC (((j:Nat):Int)+1)).1 (dC (((j:Nat):Int)+1)).2) (by omega)),ck st k31 rfl fun _ s _ x24=>bD (uj _ _ ((qx)*(((3438:Int):Rat))) (((spk (((j:Nat):Int)+1):Int):Rat)) (max (k+2) 2) _ (s.f 1 rfl).1 x24.1 ((s.f 1 rfl).2.up _ (by omega)) (x24.2.up _ (by omega)) (by omega)),(by intro a' w' hF' hb hd;have e25:=tE hd 0 rfl;exact dv0 (aq e25 ao aa (aO (bT (c:=false) (aJ hc11)) (by simp))) rfl rfl rfl),trivial⟩ ?_
    intro a w13 hF bb hall
    replace st:=st.to bb
    replace hF:=rE hall hF 6 rfl rfl
    clear hall bb
    refine E.nil<|wp_cond_false hF.o<|wp_skip<|E.norm<|wp_seq<|gz1 6 aM st hF ab [27,28,29,30,31,5] [_,_,_,_,_,_] (by decide+kernel) rfl rfl rfl ⟨rb st ab 5 0 rfl,rm 1 rfl,ck st I1 rfl fun _ s=>bD (tF ((j:Nat):Int) _ (hT.below s.bel) (by omega) (by omega)),ck st k40 rfl fun _ s=>bf (gp (spk ((j:Nat):Int)) _ (dC ((j:Nat):Int)).1 (dC ((j:Nat):Int)).2) (cK (co (dC ((j:Nat):Int)).1 (dC ((j:Nat):Int)).2) (by omega)),ck st k35 rfl fun _ s _ x30=>gR (s.f 1 rfl) x30,ra ab rfl rfl,trivial⟩ fun r17 g5 w18 a st hF=>ns<|gz1 6 aM st hF ab [32,33,34,35,36,6] [_,_,_,_,_,_] (by decide+kernel) rfl rfl rfl ⟨rb st ab 0 0 rfl,rm 3 rfl,ck st JS rfl fun _ s=>bD (tG ((j:Nat):Int) _ (hT.below s.bel) (by omega) (by omega)),ck st k40 rfl fun _ s=>bf (gp (spk (((j:Nat):Int)+1)-spk ((j:Nat):Int)) _ (fk (((j:Nat):Int))).1 (fk (((j:Nat):Int))).2) (cK (co (fk (((j:Nat):Int))).1 (fk (((j:Nat):Int))).2) (by omega)),ck st pz rfl fun _ s _ x35=>qb (s.f 0 rfl) x35,ra ab rfl rfl,trivial⟩ fun r22 g6 w23 a st hF=>?_
    refine ns<|gz2 6 aM st hF ab 3 10 [37,38,39,40,41,42] [_,_,_,_,_,_] (by decide+kernel) rfl rfl rfl ⟨rb st ab 0 0 rfl,rm 5 rfl,ck st k40 rfl fun _ s=>dM,ck st k76 rfl fun _ s _ x39=>pF (s.f 0 rfl) x39,ck st Qc rfl fun _ s=>bf (wJ _) rj,ck st dB rfl fun _ s _ x40 _ x41=>dE x40 x41,trivial⟩ fun r27 w28 a st hF=>nr<|rs Tryz.results261 st hF 11 3 ab rfl rfl rfl ?_
    exact⟨_,rfl,Rq.castM (st.f 0 rfl).1 (yw hx hjn (CE hjn hyk hc11)),st.bel⟩
  ·refine wp_seq<|E.seq ?_
   refine oT hF 0 (aY (c:=false) (aJ (by omega))) rfl rfl fun a hF=>ns<|wp_cond_false hF.o<|wp_exit<|E.past<|E.past<|E.out (id:=0)<|E.norm<|wq<|S.ck st hF (rgc k40 (aG ao)) dM Rl.cl rfl fun vv30 w29 a st hF=>?_
   obtain⟨r32,rfl⟩:=Rq.fo (st.f 0 rfl).1
   refine so st hF 1 4 0 ab rfl rfl rfl rfl fun w33 a st hF=>nr<|rs Tryz.results261 st hF 4 1 ab rfl rfl rfl ?_
   have bel:=st.bel
   have e24:j=24:=by omega
   subst e24
   exact⟨_,rfl,Rq.castM (st.f 0 rfl).1 (BH hx hyk.symm),bel⟩
theorem AL (v1:Value) (qx:Rat) (k:Nat) (w:World) (hT:bE w) (h1:Rq w v1 qx) (hl:av qx k) (hk:k<=1000) (hn:sz (Rat.num qx)<0):
 CQ 261 #[v1] w (bF qx):=by
 have hx:qx<0:=oB.1 hn
 refine gs1 (nt:=45) Tryz.func261 rfl rfl rfl fun a st hF=>wq ?_
 obtain⟨r2,rfl⟩:=Rq.fo h1
 refine bx st hF 0 rfl rfl fun g1 w1 a st hF=>S.alloc st hF ab rfl rfl fun g2 w3 a st hF=>ns<|wq<|oL hF st 1 1 ab rfl rfl rfl rfl fun a hF=>cX st hF (rgc nO (aG hF.o)) (gv _ (qx) _ (h1.below st.bel)) rfl fun w4 a st hF=>oT hF 0 (aY (c:=true) (aI hn)) rfl rfl fun a hF=>E.nil<|wp_cond_true hF.o ?_
 refine wq<|oL hF st 4 1 ab rfl rfl rfl rfl fun a hF=>S.ck st hF (rgc k86 (aG hF.o)) (Jd ⟨(h1.below st.bel),hl⟩) Rl.cl rfl fun vv6 w5 a st hF=>?_
 obtain⟨r8,rfl⟩:=Rq.fo (st.f 0 rfl).1
 refine ca st hF (rgc CR (aG hF.o)) (Cv _ (-(qx)) k _ (hT.below st.bel) (st.f 0 rfl).1 (st.f 0 rfl).2 (by omega) (Ck hx)) (fun _ _ h=>h) Rq.cl rfl fun vv10 w9 a st hF=>?_
 obtain⟨r12,rfl⟩:=Rq.fo (st.f 0 rfl)
 refine ca st hF (rgc k86 (aG hF.o)) (tJ _ _ _ (st.f 0 rfl)) (fun _ _ h=>h) Rq.cl rfl fun vv14 w13 a st hF=>?_
 obtain⟨r16,rfl⟩:=Rq.fo (st.f 0 rfl)
 refine so st hF 0 7 0 ab rfl rfl rfl rfl fun w17 a st hF=>nr<|rs Tryz.results261 st hF 7 0 ab rfl rfl rfl ?_
 exact⟨_,rfl,Rq.castM (st.f 0 rfl) (rP hx),st.bel⟩
theorem Jt (v1:Value) (qx:Rat) (k:Nat) (w:World) (hT:bE w) (h1:Rq w v1 qx) (hl:av qx k) (hk:k<=1000):CQ 261 #[v1] w (bF qx):=by
 by_cases hn:sz (Rat.num qx)<0
 ·exact AL v1 qx k w hT h1 hl hk hn
 ·exact Cv v1 qx k w hT h1 hl hk hn
end
end
end Go.Proofs.YtgdpkknapcgcbaaGreatDoor
