import Derived.Test.YtgdpkknapcgcbaaGreatDoorKD34
namespace Go.Proofs.YtgdpkknapcgcbaaGreatDoor
open Go.RowKit
set_option maxRecDepth 100000
set_option linter.unusedVariables false
set_option maxHeartbeats 8000000
section
theorem Cb {a b c d:Int} (h:aZ a b c d) {m n:Int} (l:m<=n):amX m a b c d<=amX n a b c d:=HK _ h.la.1 h.la.2 l
theorem vj {a b c d:Int} (h:aZ a b c d) (n:Int) (k:Nat):amX n a b c d+((k:Nat):Int)<=amX (n+2*((k:Nat):Int)) a b c d:=by
 induction k with
 |zero=>rw[show n+2*((0:Nat):Int)=n by omega];omega
 |succ k ih=>
  have t:=FK h (n+2*((k:Nat):Int)+1)
  rw[show n+2*((k:Nat):Int)+1-1=n+2*((k:Nat):Int) by omega,show n+2*((k:Nat):Int)+1+1=n+2*(((k+1:Nat)):Int) by omega] at t
  omega
theorem vn {a b c d X:Int} (h:aZ a b c d):∀(k:Nat) (n:Int),amX n a b c d<X->X<=amX (n+((k:Nat):Int)) a b c d->∃m,X<=amX m a b c d/\amX (m-1) a b c d<X
 |0,n,lo,hi=>by rw[show n+((0:Nat):Int)=n by omega] at hi;omega
 |k+1,n,lo,hi=>by
  by_cases q:amX (n+1) a b c d<X
  ·exact vn h k (n+1) q (by rw[show n+1+((k:Nat):Int)=n+(((k+1:Nat)):Int) by omega];exact hi)
  ·exact⟨n+1,by omega,by rw[show n+1-1=n by omega];exact lo⟩
theorem Cy {a b c d:Int} (h:aZ a b c d) (X:Int):∃m,X<=amX m a b c d/\amX (m-1) a b c d<X:=by
 have lo:=vj h (0-2*((((X-amX 0 a b c d).natAbs +1:Nat)):Int)) ((X-amX 0 a b c d).natAbs +1)
 have hi:=vj h 0 ((X-amX 0 a b c d).natAbs +1)
 rw[show(0-2*((((X-amX 0 a b c d).natAbs +1:Nat)):Int))+2*((((X-amX 0 a b c d).natAbs +1:Nat)):Int)=0 by omega] at lo
 refine vn h (4*((X-amX 0 a b c d).natAbs +1)) (0-2*((((X-amX 0 a b c d).natAbs +1:Nat)):Int)) (by omega) ?_
 rw[show 0-2*((((X-amX 0 a b c d).natAbs +1:Nat)):Int)+(((4*((X-amX 0 a b c d).natAbs +1):Nat)):Int)=0+2*((((X-amX 0 a b c d).natAbs +1:Nat)):Int) by omega]
 omega
open Classical in
noncomputable def feV (a b c d X:Int):Int:=if h:aZ a b c d then Classical.choose (Cy h X) else 0
theorem p8 {a b c d:Int} (h:aZ a b c d) (X:Int):X<=amX (feV a b c d X) a b c d/\amX (feV a b c d X-1) a b c d<X:=by
 unfold feV
 rw[dif_pos h]
 exact Classical.choose_spec (Cy h X)
theorem FN {a b c d:Int} (h:aZ a b c d) (X n:Int):X<=amX n a b c d↔feV a b c d X<=n:=by
 have s:=p8 h X
 refine⟨fun g=>Int.not_lt.1 fun q=>?_,fun g=>?_⟩
 ·have:=Cb h (show n<=feV a b c d X-1 by omega)
  omega
 ·have:=Cb h g
  omega
theorem Cc (t:Rat) (X:Int):X<=tiV t↔12*((X:Int):Rat)<=phU t:=by
 have b:=rx t
 refine⟨fun g=>?_,xe⟩
 have:=Rat.intCast_le_intCast.2 g
 grind
theorem FY (t:Rat) (X:Int):tiV t<X↔phU t<12*((X:Int):Rat):=by
 rw[<-Int.not_le,Cc,Rat.not_le]
theorem CJ {a b c d:Int} (h:aZ a b c d) (X:Int):12*((X:Int):Rat)<=phU (riV (((a:Int):Rat)/((b:Int):Rat)) (((c:Int):Rat)/((d:Int):Rat)) (feV a b c d X))/\phU (riV (((a:Int):Rat)/((b:Int):Rat)) (((c:Int):Rat)/((d:Int):Rat)) (feV a b c d X-1))<12*((X:Int):Rat):=
 ⟨(Cc _ _).1 (p8 h X).1,(FY _ _).1 (p8 h X).2⟩
theorem G7 {lat:Rat} (lon:Rat) (h0: -60<=lat) (h1:lat<=60) {m n:Int} (l:m<=n):riV lat lon m<=riV lat lon n:=by
 rcases Int.lt_or_le m n with q|q
 ·have r:=Gr lon h0 h1 m (n-m)
  rw[show m+(n-m)=n by omega] at r
  have:=Rat.intCast_le_intCast.2 (show 1<=n-m by omega)
  rw[Rat.intCast_one] at this
  grind
 ·rw[show m=n by omega];exact Rat.le_refl
theorem AF {a b c d:Int} (h:aZ a b c d) (X:Int):29<=feV a b c d (X+30)-feV a b c d X/\feV a b c d (X+30)-feV a b c d X<=30:=by
 have p:=CJ h X
 have q:=CJ h (X+30)
 rw[Rat.intCast_add,show((30:Int):Rat)=30 from rfl] at q
 have l0:=h.la.1
 have l1:=h.la.2
 generalize feV a b c d X=n at*
 generalize feV a b c d (X+30)=k at*
 have up:=fun{m n:Int} (l:m<=n)=>G7 (((c:Int):Rat)/((d:Int):Rat)) l0 l1 l
 have far:=fun(n:Int) {e:Int} (e0:0<=e) (e1:e<=30)=>Gi (((c:Int):Rat)/((d:Int):Rat)) l0 l1 n e0 e1
 refine⟨Int.not_lt.1 fun s=>?_,Int.not_lt.1 fun s=>?_⟩
 ·have u1:=up (show k<=n-1+29 by omega)
  have f:=far (n-1) (e:=29) (by decide) (by decide)
  rw[show((29:Int):Rat)=29 from rfl] at f
  rcases Rat.le_total (a:=riV (((a:Int):Rat)/((b:Int):Rat)) (((c:Int):Rat)/((d:Int):Rat)) (n-1)) (b:=riV (((a:Int):Rat)/((b:Int):Rat)) (((c:Int):Rat)/((d:Int):Rat)) k) with o|o
  ·have:=(tM o).1 (by grind)
   grind
  ·have:=(iC o).1
   grind
 ·have u1:=up (show n+30<=k-1 by omega)
  have f:=far n (e:=30) (by decide) (by decide)
  rw[show((30:Int):Rat)=30 from rfl] at f
  have:=(tM (t:=riV (((a:Int):Rat)/((b:Int):Rat)) (((c:Int):Rat)/((d:Int):Rat)) n) (u:=riV (((a:Int):Rat)/((b:Int):Rat)) (((c:Int):Rat)/((d:Int):Rat)) (k-1)) (by grind)).2 (by grind)
  grind
noncomputable def beV (a b c d L:Int):Int:=feV a b c d (30*aD (L+1))
theorem DX (n a b c d:Int):amX n a b c d/30=aD (amL n a b c d+1):=by
 exact(EU _).symm.trans (lB _)
theorem ph {a b c d:Int} (h:aZ a b c d) {L:Int} (hc:aF L=true) (n:Int):L<=amL n a b c d↔beV a b c d L<=n:=by
 unfold beV
 rw[<-FN h]
 have t:=DX n a b c d
 have e:=(bZ L).1 hc
 refine⟨fun g=>?_,fun g=>Int.not_lt.1 fun q=>?_⟩
 ·have:=cA (show L+1<=amL n a b c d+1 by omega)
  omega
 ·have:=cA (show amL n a b c d+1<=L by omega)
  omega
theorem Dp {a b c d L:Int} (hc:aF L=true):beV a b c d (az L)=feV a b c d (30*aD (L+1)+30):=by
 unfold beV
 rw[fK hc,show 30*(aD (L+1)+1)=30*aD (L+1)+30 by omega]
theorem mO {a b c d:Int} (h:aZ a b c d) {L:Int} (hc:aF L=true):29<=beV a b c d (az L)-beV a b c d L/\beV a b c d (az L)-beV a b c d L<=30:=by
 rw[Dp hc];exact AF h _
theorem F3 {n L a b c d:Int} (hc:aF L=true) (g0:L<=amL n a b c d) (g1:amL n a b c d<az L):amL n a b c d=L:=by
 rcases Int.lt_or_le L (amL n a b c d) with q|q
 ·exact absurd (nU n a b c d) ((bD hc).2.2.2 _ q g1)
 ·omega
theorem we {a b c d:Int} (h:aZ a b c d) {L:Int} (hc:aF L=true) (n:Int):amL n a b c d=L↔beV a b c d L<=n/\n<beV a b c d (az L):=by
 have s:=bD hc
 have x:=ph h hc n
 have y:=ph h s.2.2.1 n
 refine⟨fun e=>?_,fun g=>F3 hc (x.2 g.1) ?_⟩
 ·have:=(not_congr y).1 (by omega)
  have:=x.1 (by omega)
  omega
 ·have:=(not_congr y).2 (by omega)
  omega
theorem wC {a b c d:Int} (h:aZ a b c d) {L:Int} (hc:aF L=true):amL (beV a b c d L) a b c d=L:=(we h hc _).2 ⟨Int.le_refl _,by have:=mO h hc;omega⟩
theorem zR {a b c d:Int} (h:aZ a b c d) {L:Int} (hc:aF L=true):amL (beV a b c d L-1) a b c d<L:=by
 have:=(not_congr (ph h hc (beV a b c d L-1))).2 (by omega)
 omega
theorem kk {a b c d:Int} (h:aZ a b c d) {L:Int} (hc:aF L=true):L-1<=beV a b c d L/\beV a b c d L<=L+2:=by
 have e:=wC h hc
 have q:=zR h hc
 have m:=D1 h (beV a b c d L-1)
 have c2:=nU (beV a b c d L-1) a b c d
 refine⟨?_,?_⟩
 ·have r:=kF h.la.1 h.la.2 h.lo.1 h.lo.2 (beV a b c d L)
  have i:=kZ (riV (((a:Int):Rat)/((b:Int):Rat)) (((c:Int):Rat)/((d:Int):Rat)) (beV a b c d L))
  rw[show bm (riV (((a:Int):Rat)/((b:Int):Rat)) (((c:Int):Rat)/((d:Int):Rat)) (beV a b c d L))=L from e,ki] at i
  have l:=(yb wax (lo:=((L:Int):Rat)) (hi:=(((L+1:Int)):Rat)) (by rw[cQ];grind) 10).1
  have l2:((L:Int):Rat)<=nmL L:=l
  have z:((L:Int):Rat)<(((beV a b c d L+2:Int)):Rat):=by rw[Rat.intCast_add,show((2:Int):Rat)=2 from rfl];grind
  have:=Rat.intCast_lt_intCast.1 z
  omega
 ·have:az (amL (beV a b c d L-1) a b c d)<=L:=Int.not_lt.1 fun x=>(bD c2).2.2.2 L q x hc
  omega
end
theorem ow {L M:Int} (h:L<=M):smV L<=smV M:=by
 rcases Int.lt_or_le L M with q|q
 ·have a:=dR L
  have b:=dR M
  have:=Rat.intCast_le_intCast.2 (show L+1<=M by omega)
  rw[cQ] at this
  exact CO (by grind)
 ·rw[show L=M by omega];exact Int.le_refl _
theorem eJ {L:Int} (h:aF L=true):az (be L)=L:=by
 have s:=bE L
 have x:=bD s.2.2.1
 rcases Int.lt_trichotomy (az (be L)) L with q|q|q
 ·exact absurd x.2.2.1 (s.2.2.2 _ (by omega) q)
 ·exact q
 ·exact absurd h (x.2.2.2 L s.2.1 q)
noncomputable def ndI (L:Int):Nat->Int
 |0=>L
 |i+1=>az (ndI L i)
theorem ec {L:Int} (h:aF L=true):∀i,aF (ndI L i)=true
 |0=>h
 |i+1=>(bD (ec h i)).2.2.1
theorem fE {L:Int} (h:aF L=true):∀i:Nat,aD (ndI L i+1)=aD (L+1)+((i:Nat):Int)
 |0=>(Int.add_zero _).symm
 |i+1=>by
  have:=fE h i
  show aD (az (ndI L i)+1)=_
  rw[fK (ec h i),this]
  omega
theorem ov {L M:Int} (h:aF L=true) (hM:aF M=true) {i:Nat} (e:aD (M+1)=aD (L+1)+((i:Nat):Int)):M=ndI L i:=xf hM (ec h i) (by rw[e,fE h])
theorem rq {L M:Int} (h:aF L=true) (hM:aF M=true):L<M↔aD (L+1)<aD (M+1):=by
 refine⟨fun l=>?_,fun l=>Int.not_le.1 fun q=>?_⟩
 ·have a:=cA (show L+1<=M by omega)
  have:=(bZ M).1 hM
  omega
 ·have:=cA (show M+1<=L+1 by omega)
  omega
theorem Il {L:Int} (h:aF L=true) (i:Nat):L+28*((i:Nat):Int)<=ndI L i/\ndI L i<=L+31*((i:Nat):Int):=by
 induction i with
 |zero=>constructor <;> (show _<=_;simp[ndI])
 |succ i ih=>
  have s:=bD (ec h i)
  show _<=az (ndI L i)/\az (ndI L i)<=_
  omega
theorem Hl {L:Int} (h:aF L=true) (k:Nat):smV L+((k:Nat):Int)<=smV (ndI L (2*k)):=by
 induction k with
 |zero=>show smV L+0<=smV L;omega
 |succ k ih=>
  have:=zx (ec h (2*k))
  show _<=smV (az (az (ndI L (2*k))))
  omega
noncomputable def pdI (L:Int):Nat->Int
 |0=>L
 |i+1=>be (pdI L i)
theorem t7 {L:Int} (h:aF L=true):∀i,aF (pdI L i)=true
 |0=>h
 |i+1=>(bE (pdI L i)).2.2.1
theorem Ib {L:Int} (h:aF L=true) (k:Nat):smV (pdI L (2*k))+((k:Nat):Int)<=smV L:=by
 induction k with
 |zero=>show smV L+0<=smV L;omega
 |succ k ih=>
  have c:=t7 h (2*k)
  have a:=zx (bE (be (pdI L (2*k)))).2.2.1
  rw[eJ (bE _).2.2.1,eJ c] at a
  show smV (be (be (pdI L (2*k))))+_<=_
  omega
theorem uG {S:Int}:∀(k:Nat) (L:Int),aF L=true->smV L<S->S<=smV (ndI L k)->∃M,aF M=true/\S<=smV M/\smV (be M)<S
 |0,L,_,lo,hi=>by have:S<=smV L:=hi;omega
 |k+1,L,h,lo,hi=>by
  have s:=bD h
  by_cases q:smV (az L)<S
  ·refine uG k (az L) s.2.2.1 q ?_
   have e:ndI (az L) k=ndI L (k+1):=(ov s.2.2.1 (ec h (k+1)) (by rw[fE h,fK h];omega)).symm
   rw[e];exact hi
  ·refine⟨az L,s.2.2.1,by omega,?_⟩
   have z:=bE (az L)
   have:be (az L)=L:=by
    rcases Int.lt_trichotomy (be (az L)) L with r|r|r
    ·exact absurd h (z.2.2.2 L r (by omega))
    ·exact r
    ·exact absurd z.2.2.1 (s.2.2.2 _ r z.2.1)
   rw[this];exact lo
theorem Cg (S:Int):∃M,aF M=true/\S<=smV M/\smV (be M)<S:=by
 have c:=(bE 0).2.2.1
 generalize be 0=L at c
 have lo:=Ib c ((S-smV L).natAbs +1)
 have hi:=Hl c ((S-smV L).natAbs +1)
 have cp:=t7 c (2*((S-smV L).natAbs +1))
 generalize hp:pdI L (2*((S-smV L).natAbs +1))=P at*
 generalize hn:ndI L (2*((S-smV L).natAbs +1))=N at*
 have cn:aF N=true:=by rw[<-hn];exact ec c _
 have l:aD (P+1)<=aD (N+1):=cA (by have:=Int.not_lt.1 fun q:N<P=>(by have:=ow (show N<=P by omega);omega);omega)
 refine uG (aD (N+1)-aD (P+1)).toNat P cp (by omega) ?_
 rw[<-ov cp cn (i:=(aD (N+1)-aD (P+1)).toNat) (by omega)]
 omega
noncomputable def yfV (S:Int):Int:=Classical.choose (Cg S)
theorem dB (S:Int):aF (yfV S)=true/\S<=smV (yfV S)/\smV (be (yfV S))<S:=Classical.choose_spec (Cg S)
theorem lZ (S:Int) {M:Int} (h:aF M=true):S<=smV M↔yfV S<=M:=by
 have s:=dB S
 refine⟨fun g=>Int.not_lt.1 fun q=>?_,fun g=>?_⟩
 ·have z:=bE (yfV S)
  have:M<=be (yfV S):=Int.not_lt.1 fun r=>z.2.2.2 M r q h
  have:=ow this
  omega
 ·have:=ow g
  omega
theorem rQ {t u:Rat} (h:t<=u):(360<=a7 u-a7 t->3652/10<u-t)/\(a7 u-a7 t<=360->u-t<3653/10):=by
 have e:=br (xj t 1)
 have n1:(((1:Int).natAbs :Nat):Rat)=1:=by decide+kernel
 rw[n1,Rat.intCast_one,Rat.mul_one] at e
 have k:a7 (t+pyr)-a7 t=360-(cj (t+pyr)-cj t):=by
  have m:=wy (t:=t) (p:=pyr) 1 fJ
  rw[Rat.intCast_one,Rat.mul_one] at m
  unfold a7
  rw[dE]
  grind
 have p0:36525/100<pyr:=by decide+kernel
 have p1:pyr<36526/100:=by decide+kernel
 refine⟨fun g=>Rat.not_le.1 fun q=>?_,fun g=>Rat.not_le.1 fun q=>?_⟩
 ·have s:=(jg u (d:=t+pyr-u) (by grind)).1
  rw[show u+(t+pyr-u)=t+pyr by grind] at s
  grind
 ·have s:=(jg (t+pyr) (d:=u-(t+pyr)) (by grind)).1
  rw[show t+pyr+(u-(t+pyr))=u by grind] at s
  grind
theorem rj {L:Int} (h:aF L=true):360*((aD (L+1):Int):Rat)<=phU (nmR L)/\phU (nmR L)<360*((aD (L+1):Int):Rat)+2/100:=by
 have n:=pS h
 have a:=cN (nmR L)
 have b:=cN (nmL L)
 have c:=(bZ L).1 h
 have l:=ki L
 have p:=iC (t:=nmL L) (u:=nmR L) (by grind)
 rw[n.2] at a
 rw[n.1,show aD L=aD (L+1)-1 by omega,Rat.intCast_sub,Rat.intCast_one] at b
 rw[dE] at a b
 constructor <;> grind
theorem pX (S:Int):12<=aD (yfV (S+12)+1)-aD (yfV S+1)/\aD (yfV (S+12)+1)-aD (yfV S+1)<=13:=by
 have s1:=dB S
 have s2:=dB (S+12)
 have z1:=bE (yfV S)
 have z2:=bE (yfV (S+12))
 have t1:=fK z1.2.2.1
 have t2:=fK z2.2.2.1
 rw[eJ s1.1] at t1
 rw[eJ s2.1] at t2
 have a1:=rj z1.2.2.1
 have b1:=rj s1.1
 have a2:=rj z2.2.2.1
 have b2:=rj s2.1
 have up:yfV S<=yfV (S+12):=(lZ S s2.1).1 (by omega)
 have c1:=dR (be (yfV S))
 have c2:=dR (yfV S)
 have c3:=dR (be (yfV (S+12)))
 have c4:=dR (yfV (S+12))
 have k1:=eS (nmR (be (yfV S)))
 have k2:=eS (nmR (yfV S))
 have k3:=eS (nmR (be (yfV (S+12))))
 have k4:=eS (nmR (yfV (S+12)))
 have i1:=Rat.intCast_le_intCast.2 (show kaV (nmR (be (yfV S)))<=S-1 from by have:kaV (nmR (be (yfV S)))<S:=s1.2.2;omega)
 have i2:=Rat.intCast_le_intCast.2 (show S<=kaV (nmR (yfV S)) from s1.2.1)
 have i3:=Rat.intCast_le_intCast.2 (show kaV (nmR (be (yfV (S+12))))<=S+11 from by have:kaV (nmR (be (yfV (S+12))))<S+12:=s2.2.2;omega)
 have i4:=Rat.intCast_le_intCast.2 (show S+12<=kaV (nmR (yfV (S+12))) from s2.2.1)
 rw[Rat.intCast_sub,Rat.intCast_one] at i1
 rw[Rat.intCast_add,show((11:Int):Rat)=11 from rfl] at i3
 rw[Rat.intCast_add,show((12:Int):Rat)=12 from rfl] at i4
 generalize hK:aD (yfV (S+12)+1)-aD (yfV S+1)=K
 have e0:aD (yfV (S+12)+1)=aD (yfV S+1)+K:=by omega
 have d0:=cA (show yfV S+1<=yfV (S+12)+1 by omega)
 rw[e0] at b2 t2
 rw[show aD (be (yfV (S+12))+1)=aD (yfV S+1)+K-1 by omega] at a2
 rw[show aD (be (yfV S)+1)=aD (yfV S+1)-1 by omega] at a1
 simp only [Rat.intCast_add,Rat.intCast_sub,Rat.intCast_one] at a1 a2 b2
 have K0:=Rat.intCast_le_intCast.2 (show 0<=K by omega)
 rw[Rat.intCast_zero] at K0
 have lo:∀ {x y:Int},((x:Int):Rat)-1<((y:Int):Rat)->x<=y:=fun{x y} g=>by
  have:(((x-1:Int)):Rat)<((y:Int):Rat):=by rw[Rat.intCast_sub,Rat.intCast_one];exact g
  have:=Rat.intCast_lt_intCast.1 this
  omega
 have f1:=Rat.intCast_le_intCast.2 (show be (yfV S)+1<=yfV (S+12) by omega)
 rw[cQ] at f1
 have y1:=(rQ (t:=nmR (be (yfV S))) (u:=nmR (yfV (S+12))) (by grind)).1 (by grind)
 constructor
 ·refine lo ?_
  rw[show((12:Int):Rat)=12 from rfl]
  rcases(pg (t:=nmR (be (yfV S))) (u:=nmR (yfV (S+12))) (k:=((K:Int):Rat)+1+1/10000)).2 (by grind) with z|z|z <;> grind
 ·refine Int.not_lt.1 fun q=>?_
  have K1:=Rat.intCast_le_intCast.2 (show 14<=K by omega)
  rw[show((14:Int):Rat)=14 from rfl] at K1
  have o:nmR (yfV S)<=nmR (be (yfV (S+12))):=by
   rcases Rat.le_total (a:=nmR (yfV S)) (b:=nmR (be (yfV (S+12)))) with r|r
   ·exact r
   ·have:=(iC r).1
    grind
  have y2:=(rQ o).2 (by grind)
  have p:=(iC o).2
  rcases(pg (t:=nmR (yfV S)) (u:=nmR (be (yfV (S+12)))) (k:=((K:Int):Rat)-1-1/10000)).1 (by grind) with z|z|z <;> grind
noncomputable def yrN (S:Int):Nat:=(aD (yfV (S+12)+1)-aD (yfV S+1)).toNat
theorem CB (S:Int):12<=yrN S/\yrN S<=13:=by
 have:=pX S
 unfold yrN
 omega
theorem Fw (S:Int):ndI (yfV S) (yrN S)=yfV (S+12):=by
 have:=pX S
 exact(ov (dB S).1 (dB (S+12)).1 (by unfold yrN;omega)).symm
theorem CC (S:Int) {M:Int} (h:aF M=true):(S<=smV M/\smV M<S+12)↔∃i,i<yrN S/\M=ndI (yfV S) i:=by
 have y:=pX S
 have c:=(dB S).1
 have c':=(dB (S+12)).1
 rw[lZ S h,<-Int.not_le,lZ (S+12) h,Int.not_le,rq h c']
 have w:yfV S<=M↔aD (yfV S+1)<=aD (M+1):=by
  have:=rq h c
  omega
 rw[w]
 unfold yrN
 refine⟨fun g=>⟨(aD (M+1)-aD (yfV S+1)).toNat,by omega,ov c h (by omega)⟩,fun⟨i,l,e⟩=>?_⟩
 have t:=fE c i
 rw[<-e] at t
 omega
end Go.Proofs.YtgdpkknapcgcbaaGreatDoor
