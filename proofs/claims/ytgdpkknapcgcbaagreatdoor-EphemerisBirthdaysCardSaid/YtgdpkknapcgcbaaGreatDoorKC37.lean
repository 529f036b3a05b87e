import Derived.Test.YtgdpkknapcgcbaaGreatDoorKC33
import Derived.Test.YtgdpkknapcgcbaaGreatDoorKC34
namespace Go.Proofs.YtgdpkknapcgcbaaGreatDoor
open Go.RowKit
set_option maxRecDepth 100000
set_option linter.unusedVariables false
set_option maxHeartbeats 8000000
theorem uA {L M:Int} (h:L<=M):smV L<=smV M:=by
 rcases Int.lt_or_le L M with q|q
 ·have a:=eT L
  have b:=eT M
  have:=Rat.intCast_le_intCast.2 (show L+1<=M by omega)
  rw[ft] at this
  exact K3 (by grind)
 ·rw[show L=M by omega];exact Int.le_refl _
theorem lP {L:Int} (h:aN L=true):aw (bL L)=L:=by
 have s:=ce L
 have x:=bC s.2.2.1
 rcases Int.lt_trichotomy (aw (bL L)) L with q|q|q
 ·exact absurd x.2.2.1 (s.2.2.2 _ (by omega) q)
 ·exact q
 ·exact absurd h (x.2.2.2 L s.2.1 q)
noncomputable def ndI (L:Int):Nat->Int
 |0=>L
 |i+1=>aw (ndI L i)
theorem gx {L:Int} (h:aN L=true):∀i,aN (ndI L i)=true
 |0=>h
 |i+1=>(bC (gx h i)).2.2.1
theorem jk {L:Int} (h:aN L=true):∀i:Nat,aP (ndI L i+1)=aP (L+1)+((i:Nat):Int)
 |0=>(Int.add_zero _).symm
 |i+1=>by
  have:=jk h i
  show aP (aw (ndI L i)+1)=_
  rw[gq (gx h i),this]
  omega
theorem xL {L M:Int} (h:aN L=true) (hM:aN M=true) {i:Nat} (e:aP (M+1)=aP (L+1)+((i:Nat):Int)):M=ndI L i:=C5 hM (gx h i) (by rw[e,jk h])
theorem xG {L M:Int} (h:aN L=true) (hM:aN M=true):L<M↔aP (L+1)<aP (M+1):=by
 refine⟨fun l=>?_,fun l=>Int.not_le.1 fun q=>?_⟩
 ·have a:=dv (show L+1<=M by omega)
  have:=(cS M).1 hM
  omega
 ·have:=dv (show M+1<=L+1 by omega)
  omega
theorem Rm {L:Int} (h:aN L=true) (i:Nat):L+28*((i:Nat):Int)<=ndI L i/\ndI L i<=L+31*((i:Nat):Int):=by
 induction i with
 |zero=>constructor <;> (show _<=_;simp[ndI])
 |succ i ih=>
  have s:=bC (gx h i)
  show _<=aw (ndI L i)/\aw (ndI L i)<=_
  omega
theorem Q3 {L:Int} (h:aN L=true) (k:Nat):smV L+((k:Nat):Int)<=smV (ndI L (2*k)):=by
 induction k with
 |zero=>show smV L+0<=smV L;omega
 |succ k ih=>
  have:=rl (gx h (2*k))
  show _<=smV (aw (aw (ndI L (2*k))))
  omega
noncomputable def pdI (L:Int):Nat->Int
 |0=>L
 |i+1=>bL (pdI L i)
theorem Aw {L:Int} (h:aN L=true):∀i,aN (pdI L i)=true
 |0=>h
 |i+1=>(ce (pdI L i)).2.2.1
theorem QH {L:Int} (h:aN L=true) (k:Nat):smV (pdI L (2*k))+((k:Nat):Int)<=smV L:=by
 induction k with
 |zero=>show smV L+0<=smV L;omega
 |succ k ih=>
  have c:=Aw h (2*k)
  have a:=rl (ce (bL (pdI L (2*k)))).2.2.1
  rw[lP (ce _).2.2.1,lP c] at a
  show smV (bL (bL (pdI L (2*k))))+_<=_
  omega
theorem BF {S:Int}:∀(k:Nat) (L:Int),aN L=true->smV L<S->S<=smV (ndI L k)->∃M,aN M=true/\S<=smV M/\smV (bL M)<S
 |0,L,_,lo,hi=>by have:S<=smV L:=hi;omega
 |k+1,L,h,lo,hi=>by
  have s:=bC h
  by_cases q:smV (aw L)<S
  ·refine BF k (aw L) s.2.2.1 q ?_
   have e:ndI (aw L) k=ndI L (k+1):=(xL s.2.2.1 (gx h (k+1)) (by rw[jk h,gq h];omega)).symm
   rw[e];exact hi
  ·refine⟨aw L,s.2.2.1,by omega,?_⟩
   have z:=ce (aw L)
   have:bL (aw L)=L:=by
    rcases Int.lt_trichotomy (bL (aw L)) L with r|r|r
    ·exact absurd h (z.2.2.2 L r (by omega))
    ·exact r
    ·exact absurd z.2.2.1 (s.2.2.2 _ r z.2.1)
   rw[this];exact lo
theorem KX (S:Int):∃M,aN M=true/\S<=smV M/\smV (bL M)<S:=by
 have c:=(ce 0).2.2.1
 generalize bL 0=L at c
 have lo:=QH c ((S-smV L).natAbs +1)
 have hi:=Q3 c ((S-smV L).natAbs +1)
 have cp:=Aw c (2*((S-smV L).natAbs +1))
 generalize hp:pdI L (2*((S-smV L).natAbs +1))=P at*
 generalize hn:ndI L (2*((S-smV L).natAbs +1))=N at*
 have cn:aN N=true:=by rw[<-hn];exact gx c _
 have l:aP (P+1)<=aP (N+1):=dv (by have:=Int.not_lt.1 fun q:N<P=>(by have:=uA (show N<=P by omega);omega);omega)
 refine BF (aP (N+1)-aP (P+1)).toNat P cp (by omega) ?_
 rw[<-xL cp cn (i:=(aP (N+1)-aP (P+1)).toNat) (by omega)]
 omega
noncomputable def yfV (S:Int):Int:=Classical.choose (KX S)
theorem iB (S:Int):aN (yfV S)=true/\S<=smV (yfV S)/\smV (bL (yfV S))<S:=Classical.choose_spec (KX S)
theorem mz (S:Int) {M:Int} (h:aN M=true):S<=smV M↔yfV S<=M:=by
 have s:=iB S
 refine⟨fun g=>Int.not_lt.1 fun q=>?_,fun g=>?_⟩
 ·have z:=ce (yfV S)
  have:M<=bL (yfV S):=Int.not_lt.1 fun r=>z.2.2.2 M r q h
  have:=uA this
  omega
 ·have:=uA g
  omega
theorem La {S D:Int} (h:aN D=true) (e:smV D<S) (g:S<=smV (aw D)):aw D=yfV S:=by
 have x:=(mz S (bC h).2.2.1).1 g
 have y:=(not_congr (mz S h)).1 (by omega)
 rcases Int.lt_or_le (yfV S) (aw D) with q|q
 ·exact absurd (iB S).1 ((bC h).2.2.2 _ (by omega) q)
 ·omega
theorem zM {t u:Rat} (h:t<=u):(360<=cz u-cz t->3652/10<u-t)/\(cz u-cz t<=360->u-t<3653/10):=by
 have e:=cv (Df t 1)
 have n1:(((1:Int).natAbs :Nat):Rat)=1:=by decide+kernel
 rw[n1,Rat.intCast_one,Rat.mul_one] at e
 have k:cz (t+pyr)-cz t=360-(dt (t+pyr)-dt t):=by
  have m:=DA (t:=t) (p:=pyr) 1 jf
  rw[Rat.intCast_one,Rat.mul_one] at m
  unfold cz
  rw[fh]
  grind
 have p0:36525/100<pyr:=by decide+kernel
 have p1:pyr<36526/100:=by decide+kernel
 refine⟨fun g=>Rat.not_le.1 fun q=>?_,fun g=>Rat.not_le.1 fun q=>?_⟩
 ·have s:=(mB u (d:=t+pyr-u) (by grind)).1
  rw[show u+(t+pyr-u)=t+pyr by grind] at s
  grind
 ·have s:=(mB (t+pyr) (d:=u-(t+pyr)) (by grind)).1
  rw[show t+pyr+(u-(t+pyr))=u by grind] at s
  grind
theorem xO {L:Int} (h:aN L=true):360*((aP (L+1):Int):Rat)<=phU (nmR L)/\phU (nmR L)<360*((aP (L+1):Int):Rat)+2/100:=by
 have n:=vF h
 have a:=dL (nmR L)
 have b:=dL (nmL L)
 have c:=(cS L).1 h
 have l:=oj L
 have p:=lN (t:=nmL L) (u:=nmR L) (by grind)
 rw[n.2] at a
 rw[n.1,show aP L=aP (L+1)-1 by omega,Rat.intCast_sub,Rat.intCast_one] at b
 rw[fh] at a b
 constructor <;> grind
theorem vp (S:Int):12<=aP (yfV (S+12)+1)-aP (yfV S+1)/\aP (yfV (S+12)+1)-aP (yfV S+1)<=13:=by
 have s1:=iB S
 have s2:=iB (S+12)
 have z1:=ce (yfV S)
 have z2:=ce (yfV (S+12))
 have t1:=gq z1.2.2.1
 have t2:=gq z2.2.2.1
 rw[lP s1.1] at t1
 rw[lP s2.1] at t2
 have a1:=xO z1.2.2.1
 have b1:=xO s1.1
 have a2:=xO z2.2.2.1
 have b2:=xO s2.1
 have up:yfV S<=yfV (S+12):=(mz S s2.1).1 (by omega)
 have c1:=eT (bL (yfV S))
 have c2:=eT (yfV S)
 have c3:=eT (bL (yfV (S+12)))
 have c4:=eT (yfV (S+12))
 have k1:=ki (nmR (bL (yfV S)))
 have k2:=ki (nmR (yfV S))
 have k3:=ki (nmR (bL (yfV (S+12))))
 have k4:=ki (nmR (yfV (S+12)))
 have i1:=Rat.intCast_le_intCast.2 (show kaV (nmR (bL (yfV S)))<=S-1 from by have:kaV (nmR (bL (yfV S)))<S:=s1.2.2;omega)
 have i2:=Rat.intCast_le_intCast.2 (show S<=kaV (nmR (yfV S)) from s1.2.1)
 have i3:=Rat.intCast_le_intCast.2 (show kaV (nmR (bL (yfV (S+12))))<=S+11 from by have:kaV (nmR (bL (yfV (S+12))))<S+12:=s2.2.2;omega)
 have i4:=Rat.intCast_le_intCast.2 (show S+12<=kaV (nmR (yfV (S+12))) from s2.2.1)
 rw[Rat.intCast_sub,Rat.intCast_one] at i1
 rw[Rat.intCast_add,show((11:Int):Rat)=11 from rfl] at i3
 rw[Rat.intCast_add,show((12:Int):Rat)=12 from rfl] at i4
 generalize hK:aP (yfV (S+12)+1)-aP (yfV S+1)=K
 have e0:aP (yfV (S+12)+1)=aP (yfV S+1)+K:=by omega
 have d0:=dv (show yfV S+1<=yfV (S+12)+1 by omega)
 rw[e0] at b2 t2
 rw[show aP (bL (yfV (S+12))+1)=aP (yfV S+1)+K-1 by omega] at a2
 rw[show aP (bL (yfV S)+1)=aP (yfV S+1)-1 by omega] at a1
 simp only [Rat.intCast_add,Rat.intCast_sub,Rat.intCast_one] at a1 a2 b2
 have K0:=Rat.intCast_le_intCast.2 (show 0<=K by omega)
 rw[Rat.intCast_zero] at K0
 have lo:∀ {x y:Int},((x:Int):Rat)-1<((y:Int):Rat)->x<=y:=fun{x y} g=>by
  have:(((x-1:Int)):Rat)<((y:Int):Rat):=by rw[Rat.intCast_sub,Rat.intCast_one];exact g
  have:=Rat.intCast_lt_intCast.1 this
  omega
 have f1:=Rat.intCast_le_intCast.2 (show bL (yfV S)+1<=yfV (S+12) by omega)
 rw[ft] at f1
 have y1:=(zM (t:=nmR (bL (yfV S))) (u:=nmR (yfV (S+12))) (by grind)).1 (by grind)
 constructor
 ·refine lo ?_
  rw[show((12:Int):Rat)=12 from rfl]
  rcases(lW (t:=nmR (bL (yfV S))) (u:=nmR (yfV (S+12))) (k:=((K:Int):Rat)+1+1/10000)).2 (by grind) with z|z|z <;> grind
 ·refine Int.not_lt.1 fun q=>?_
  have K1:=Rat.intCast_le_intCast.2 (show 14<=K by omega)
  rw[show((14:Int):Rat)=14 from rfl] at K1
  have o:nmR (yfV S)<=nmR (bL (yfV (S+12))):=by
   rcases Rat.le_total (a:=nmR (yfV S)) (b:=nmR (bL (yfV (S+12)))) with r|r
   ·exact r
   ·have:=(lN r).1
    grind
  have y2:=(zM o).2 (by grind)
  have p:=(lN o).2
  rcases(lW (t:=nmR (yfV S)) (u:=nmR (bL (yfV (S+12)))) (k:=((K:Int):Rat)-1-1/10000)).1 (by grind) with z|z|z <;> grind
noncomputable def yrN (S:Int):Nat:=(aP (yfV (S+12)+1)-aP (yfV S+1)).toNat
theorem KC (S:Int):12<=yrN S/\yrN S<=13:=by
 have:=vp S
 unfold yrN
 omega
theorem Ke (S:Int) {M:Int} (h:aN M=true):(S<=smV M/\smV M<S+12)↔∃i,i<yrN S/\M=ndI (yfV S) i:=by
 have y:=vp S
 have c:=(iB S).1
 have c':=(iB (S+12)).1
 rw[mz S h,<-Int.not_le,mz (S+12) h,Int.not_le,xG h c']
 have w:yfV S<=M↔aP (yfV S+1)<=aP (M+1):=by
  have:=xG h c
  omega
 rw[w]
 unfold yrN
 refine⟨fun g=>⟨(aP (M+1)-aP (yfV S+1)).toNat,by omega,xL c h (by omega)⟩,fun⟨i,l,e⟩=>?_⟩
 have t:=jk c i
 rw[<-e] at t
 omega
theorem Gz {a b c d:Int} (h:bN a b c d) {L:Int} (hc:aN L=true) {t:Int} (x:Int) (t0:beV a b c d L<=t) (t1:t<beV a b c d (aw L)):x<=amX t a b c d%30+1↔feV a b c d (30*aP (L+1)+(x-1))<=t:=by
 rw[<-yj h]
 have e:=(pU h hc t).2 ⟨t0,t1⟩
 have q:=sf t a b c d
 rw[e] at q
 omega
theorem pf {a b c d:Int} (h:bN a b c d) {L:Int} (hc:aN L=true) {x:Int} (x0:1<=x) (x1:x<=30):beV a b c d L<=feV a b c d (30*aP (L+1)+(x-1))/\feV a b c d (30*aP (L+1)+(x-1))<=beV a b c d (aw L):=by
 rw[CB hc]
 exact⟨Bx h (by omega),Bx h (by omega)⟩
theorem uu {y m:Int} (h:¬(fiL y m).length =0):∃L,aN L=true/\smV L=fiS y m/\smV (aw L)≠smV L:=by
 rcases ti y m with e|⟨D,_,a,b,c⟩|⟨D,_,a,b,c,e⟩
 ·rw[e] at h;exact absurd rfl h
 ·exact⟨D,a,b,c⟩
 ·exact⟨aw D,(bC a).2.2.1,by rw[c,b],by rw[c];exact e⟩
theorem NJ {y m:Int} (h:(fiL y m).length =0) {L:Int} (hc:aN L=true):smV L≠fiS y m:=fun e=>by
 obtain⟨i,hi,_⟩:=sE hc e
 omega
theorem kM {y m:Int} (y0: -8000<=y) (y1:y<=8000) (m0:1<=m) (m1:m<=12): -2950000<=fiE y m/\fiE y m<=2910000:=by
 have e:=Ot y m
 have p0:36525/100<pyr:=by decide+kernel
 have p1:pyr<36526/100:=by decide+kernel
 have a:=Rat.intCast_le_intCast.2 (show 12*(-8000+3044)-1<=12*(y+3044)+m-2 by omega)
 have b:=Rat.intCast_le_intCast.2 (show 12*(y+3044)+m-2<=12*(8000+3044)+10 by omega)
 rw[show((12*(-8000+3044)-1:Int):Rat)= -59473 by decide+kernel] at a
 rw[show((12*(8000+3044)+10:Int):Rat)=132538 by decide+kernel] at b
 generalize ((12*(y+3044)+m-2:Int):Rat)=z at*
 rw[show z/((12:Int):Rat)=z*(1/12) by rw[Rat.div_def,show((12:Int):Rat)⁻¹ =1/12 by decide+kernel],show(((-1132959:Int)):Rat)= -1132959 from rfl] at e
 have f0:=fe (z*(1/12)*pyr+ -1132959)
 have f1:=fA (z*(1/12)*pyr+ -1132959)
 rw[e] at f0 f1
 have u:=Rat.mul_nonneg (a:=132538-z) (b:=pyr) (by grind) (by grind)
 have v:=Rat.mul_nonneg (a:=z+59473) (b:=pyr) (by grind) (by grind)
 constructor
 ·have:(((-2950000:Int)):Rat)<((fiE y m:Int):Rat):=by rw[show(((-2950000:Int)):Rat)= -2950000 from rfl];grind
  have:=Rat.intCast_lt_intCast.1 this
  omega
 ·have:((fiE y m:Int):Rat)<((2910000:Int):Rat):=by rw[show((2910000:Int):Rat)=2910000 from rfl];grind
  have:=Rat.intCast_lt_intCast.1 this
  omega
theorem M5 {y m L M:Int} (hL:aN L=true) (hM:aN M=true) (eL:smV L=fiS y m) (nL:smV (aw L)≠smV L) (eM:smV M=fiS (y+1) m) (nM:smV (aw M)≠smV M):aP (M+1)=aP (L+1)+12\/aP (M+1)=aP (L+1)+13:=by
 have a:=gS hL
 have b:=gS hM
 have f:fiS (y+1) m=fiS y m+12:=by unfold fiS;omega
 have p:=La (S:=fiS y m+1) hL (by omega) (by omega)
 have q:=La (S:=fiS y m+1+12) hM (by omega) (by omega)
 have t:=vp (fiS y m+1)
 rw[<-p,<-q,gq hL,gq hM] at t
 omega
theorem GH {a b c d:Int} (h:bN a b c d) {y m L M x:Int} (hL:aN L=true) (hM:aN M=true) (eL:smV L=fiS y m) (nL:smV (aw L)≠smV L) (eM:smV M=fiS (y+1) m) (nM:smV (aw M)≠smV M):
 (352<=feV a b c d (30*aP (M+1)+(x-1))-feV a b c d (30*aP (L+1)+(x-1))/\feV a b c d (30*aP (M+1)+(x-1))-feV a b c d (30*aP (L+1)+(x-1))<=357)\/(381<=feV a b c d (30*aP (M+1)+(x-1))-feV a b c d (30*aP (L+1)+(x-1))/\feV a b c d (30*aP (M+1)+(x-1))-feV a b c d (30*aP (L+1)+(x-1))<=387):=by
 have g:=Ld h (30*aP (L+1)+(x-1))
 rcases M5 hL hM eL nL eM nM with e|e
 ·rw[e,show 30*(aP (L+1)+12)+(x-1)=30*aP (L+1)+(x-1)+360 by omega]
  exact .inl g.1
 ·rw[e,show 30*(aP (L+1)+13)+(x-1)=30*aP (L+1)+(x-1)+390 by omega]
  exact .inr g.2
theorem kA (L:Int):∀i,ndI L i=moD L i
 |0=>rfl
 |i+1=>by show aw (ndI L i)=aw (moD L i);rw[kA L i]
def qH (f:Nat->List Value):Nat->List Value
 |0=>[]
 |k+1=>qH f k++f k
theorem yF {f:Nat->List Value} {m:Nat} (h:∀i,(f i).length =m):∀k,(qH f k).length =m*k
 |0=>rfl
 |k+1=>by show(qH f k++f k).length =_;rw[List.length_append,yF h k,h,Nat.mul_succ]
theorem sJ {f:Nat->List Value} {m:Nat} (h:∀i,(f i).length =m) (more:List Value):∀ {k i:Nat},i<k->((qH f k++more).drop (m*i)).take m=f i
 |0,_,hi=>absurd hi (Nat.not_lt_zero _)
 |k+1,i,hi=>by
  show((qH f k++f k++more).drop (m*i)).take m=f i
  rw[List.append_assoc]
  rcases Nat.lt_or_ge i k with q|q
  ·exact sJ h (f k++more) q
  ·obtain rfl:i=k:=by omega
   rw[<-yF h i,List.drop_left,List.take_append_of_le_length (by rw[h];exact Nat.le_refl _),List.take_of_length_le (by rw[h];exact Nat.le_refl _)]
theorem wM {f:Nat->List Value} {m:Nat} (h:∀i,(f i).length =m) (more:List Value) {k i j:Nat} (hi:i<k) (hj:j<m):(qH f k++more)[m*i+j]?=(f i)[j]?:=by
 rw[<-sJ h more hi,List.getElem?_take,if_pos hj,List.getElem?_drop]
noncomputable def hdC (a b c d L:Int):List Value:=[iv ((smV L+1)%12+1),.bool (decide (smV (aw L)=smV L)),iv (beV a b c d L),iv (beV a b c d (aw L)-beV a b c d L)]
noncomputable def hdF (a b c d L:Int):Nat->List Value:=qH fun i=>hdC a b c d (moD L i)
theorem Gy (a b c d L:Int) (more:List Value) {k i:Nat} (h:i<k):((hdF a b c d L k++more).drop (4*i)).take 4=hdC a b c d (moD L i):=sJ (f:=fun i=>hdC a b c d (moD L i)) (m:=4) (fun _=>rfl) more h
theorem Aa (a b c d L:Int) (more:List Value) {k i j:Nat} (h:i<k) (hj:j<4):(hdF a b c d L k++more)[4*i+j]?=(hdC a b c d (moD L i))[j]?:=wM (f:=fun i=>hdC a b c d (moD L i)) (m:=4) (fun _=>rfl) more h hj
noncomputable def dyC (a b c d n:Int):List Value:=[iv n,iv (amX n a b c d%30+1),.bool (decide (amX (n-1) a b c d=amX n a b c d))]
noncomputable def dyF (a b c d B:Int):Nat->List Value:=qH fun i=>dyC a b c d (B+((i:Nat):Int))
theorem uq (a b c d B:Int) (more:List Value) {k i:Nat} (h:i<k):((dyF a b c d B k++more).drop (3*i)).take 3=dyC a b c d (B+((i:Nat):Int)):=sJ (f:=fun i=>dyC a b c d (B+((i:Nat):Int))) (m:=3) (fun _=>rfl) more h
theorem ia (a b c d B:Int) (more:List Value) {k i j:Nat} (h:i<k) (hj:j<3):(dyF a b c d B k++more)[3*i+j]?=(dyC a b c d (B+((i:Nat):Int)))[j]?:=wM (f:=fun i=>dyC a b c d (B+((i:Nat):Int))) (m:=3) (fun _=>rfl) more h hj
theorem tm {a b c d:Int} (h:bN a b c d) (S:Int) (i:Nat):aN (moD (yfV S) i)=true/\aw (moD (yfV S) i)=moD (yfV S) (i+1)/\29<=beV a b c d (moD (yfV S) (i+1))-beV a b c d (moD (yfV S) i)/\beV a b c d (moD (yfV S) (i+1))-beV a b c d (moD (yfV S) i)<=30/\amL (beV a b c d (moD (yfV S) i)) a b c d=moD (yfV S) i:=by
 have hc:aN (moD (yfV S) i)=true:=by rw[<-kA];exact gx (iB S).1 i
 exact⟨hc,rfl,(gJ h hc).1,(gJ h hc).2,DC h hc⟩
theorem AB (S:Int) {i:Nat} (hi:i<yrN S):S<=smV (moD (yfV S) i)/\smV (moD (yfV S) i)<S+12:=by
 rw[<-kA]
 exact(Ke S (gx (iB S).1 i)).2 ⟨i,hi,rfl⟩
theorem B6 {a b c d:Int} (h:bN a b c d) {L:Int} (hc:aN L=true):amL (beV a b c d L-1) a b c d=bL L:=by
 have z:=ce L
 have e:=lP hc
 have y:=gJ h z.2.2.1
 rw[e] at y
 have i:=pU h z.2.2.1 (beV a b c d L-1)
 rw[e] at i
 exact i.2 (by omega)
theorem yI {L M:Int} (hL:aN L=true) (hM:aN M=true) (e1:(smV L+1)/12=(smV M+1)/12) (e2:(smV L+1)%12=(smV M+1)%12) (e3:decide (smV (aw L)=smV L)=decide (smV (aw M)=smV M)):L=M:=by
 have q:smV L=smV M:=by omega
 have a:=gS hL
 have b:=gS hM
 have c:=decide_eq_decide.1 e3
 exact BA hL hM q (by omega)
theorem DU:(Tryz.f45.name == "runtime.NumGoroutine")=false/\Tryz.f45.body.isNone=false:=⟨by decide+kernel,by kernel_rfl⟩
theorem GL (dy dm dd y hm hf hd:Int) (dl dg hl:Bool) (g0 g1:Nat) (w:World) (h0:Blk w g0 [iv y]) (h1:Blk w g1 [iv hm,.bool hl,iv hf,iv hd]) (e1:dy=y) (e2:dm=hm) (e3:dl=hl):
 CV 45 #[.agg #[iv dy,iv dm,.bool dl,iv dd,.bool dg],.pointer (some ⟨g0,0,none⟩),.pointer (some ⟨g1,0,none⟩)] w (.bool true):=by
 refine gs3 (nt:=23) Tryz.func45 rfl rfl rfl fun a st hF=>wq<|bx st hF 0 rfl rfl fun g3 w1 a st hF=>?_
 refine oC hF rfl fun a hF=>nq<|oV hF (az hF.p (ik (p:=0) rfl)) rfl fun a hF=>oV hF (ar hF.o (bl (v:= iv dy) (st.bk 0 rfl) rfl)) rfl fun a hF=>oV hF (ar (hF.at 5 rfl) (bl (v:= iv y) (h0.below st.bel) rfl)) rfl fun a hF=>oU hF 1 0 (aV (c:=true) (aI e1)) rfl rfl rfl fun a hF=>oM hF 0 rfl rfl fun a hF=>og hF (az (hF.at 6 rfl) (ig (p:=1) rfl)) 0 rfl rfl rfl fun a hF=>og hF (ar hF.o (bQ (v:= iv dm) (st.bk 0 rfl) rfl)) 1 rfl rfl rfl fun a hF=>og hF (az (hF.at 11 rfl) (yS (p:=0) rfl)) 2 rfl rfl rfl fun a hF=>og hF (ar hF.o (bQ (v:= iv hm) (h1.below st.bel) rfl)) 3 rfl rfl rfl fun a hF=>og hF (aq hF.q hF.o aa (aO (aV (c:=true) (aI e2)) (by simp))) 4 rfl rfl rfl fun a hF=>oV hF (aK (hF.at 5 rfl) hF.o) rfl fun a hF=>oM hF 0 rfl rfl fun a hF=>og hF (az (hF.at 13 rfl) (jF (p:=2) rfl)) 0 rfl rfl rfl fun a hF=>og hF (ar hF.o (ev (v:= .bool dl) (st.bk 0 rfl) rfl)) 1 rfl rfl rfl fun a hF=>?_
 refine og hF (az (hF.at 18 rfl) (zo (p:=1) rfl)) 2 rfl rfl rfl fun a hF=>og hF (ar hF.o (ev (v:= .bool hl) (h1.below st.bel) rfl)) 3 rfl rfl rfl fun a hF=>og hF (aq hF.q hF.o cZ (iw (d:=true) (beq_iff_eq.2 e3))) 4 rfl rfl rfl fun a hF=>oV hF (aK (hF.at 5 rfl) hF.o) rfl fun a hF=>oE hF 0 rfl rfl fun a hF=>nr ?_
 have bel:=st.bel
 refine rt Tryz.results45 hF 0 rfl ?_
 exact⟨rfl,bel⟩
theorem Fu (dy dm dd y hm hf hd:Int) (dl dg hl:Bool) (g0 g1:Nat) (w:World) (h0:Blk w g0 [iv y]) (h1:Blk w g1 [iv hm,.bool hl,iv hf,iv hd]) (hn:¬(dy=y/\dm=hm/\dl=hl)):
 CV 45 #[.agg #[iv dy,iv dm,.bool dl,iv dd,.bool dg],.pointer (some ⟨g0,0,none⟩),.pointer (some ⟨g1,0,none⟩)] w (.bool false):=by
 refine gs3 (nt:=23) Tryz.func45 rfl rfl rfl fun a st hF=>wq<|bx st hF 0 rfl rfl fun g3 w1 a st hF=>?_
 refine oC hF rfl fun a hF=>nq<|oV hF (az hF.p (ik (p:=0) rfl)) rfl fun a hF=>oV hF (ar hF.o (bl (v:= iv dy) (st.bk 0 rfl) rfl)) rfl fun a hF=>oV hF (ar (hF.at 5 rfl) (bl (v:= iv y) (h0.below st.bel) rfl)) rfl fun a hF=>?_
 by_cases hc2:dy=y
 ·refine oU hF 1 0 (aV (c:=true) (aI hc2)) rfl rfl rfl fun a hF=>oM hF 0 rfl rfl fun a hF=>og hF (az (hF.at 6 rfl) (ig (p:=1) rfl)) 0 rfl rfl rfl fun a hF=>og hF (ar hF.o (bQ (v:= iv dm) (st.bk 0 rfl) rfl)) 1 rfl rfl rfl fun a hF=>og hF (az (hF.at 11 rfl) (yS (p:=0) rfl)) 2 rfl rfl rfl fun a hF=>og hF (ar hF.o (bQ (v:= iv hm) (h1.below st.bel) rfl)) 3 rfl rfl rfl fun a hF=>?_
  by_cases hc3:dm=hm
  ·refine og hF (aq hF.q hF.o aa (aO (aV (c:=true) (aI hc3)) (by simp))) 4 rfl rfl rfl fun a hF=>oV hF (aK (hF.at 5 rfl) hF.o) rfl fun a hF=>oM hF 0 rfl rfl fun a hF=>og hF (az (hF.at 13 rfl) (jF (p:=2) rfl)) 0 rfl rfl rfl fun a hF=>og hF (ar hF.o (ev (v:= .bool dl) (st.bk 0 rfl) rfl)) 1 rfl rfl rfl fun a hF=>og hF (az (hF.at 18 rfl) (zo (p:=1) rfl)) 2 rfl rfl rfl fun a hF=>og hF (ar hF.o (ev (v:= .bool hl) (h1.below st.bel) rfl)) 3 rfl rfl rfl fun a hF=>?_
   by_cases hc4:dl=hl
   ·refine og hF (aq hF.q hF.o cZ (iw (d:=true) (beq_iff_eq.2 hc4))) 4 rfl rfl rfl fun a hF=>oV hF (aK (hF.at 5 rfl) hF.o) rfl fun a hF=>oE hF 0 rfl rfl fun a hF=>nr ?_
    have bel:=st.bel
    refine rt Tryz.results45 hF 0 rfl ?_
    exact absurd ⟨hc2,hc3,hc4⟩ hn
   ·refine og hF (aq hF.q hF.o cZ (iw (d:=false) (beq_eq_false_iff_ne.2 hc4))) 4 rfl rfl rfl fun a hF=>oV hF (aK (hF.at 5 rfl) hF.o) rfl fun a hF=>oE hF 0 rfl rfl fun a hF=>nr ?_
    have bel:=st.bel
    refine rt Tryz.results45 hF 0 rfl ?_
    exact⟨rfl,bel⟩
  ·refine og hF (aq hF.q hF.o aa (aO (aV (c:=false) (aJ hc3)) (by simp))) 4 rfl rfl rfl fun a hF=>oV hF (aK (hF.at 5 rfl) hF.o) rfl fun a hF=>oM hF 0 rfl rfl fun a hF=>nu hF 0 rfl rfl rfl fun a hF=>nu hF 1 rfl rfl rfl fun a hF=>nu hF 2 rfl rfl rfl fun a hF=>nu hF 3 rfl rfl rfl fun a hF=>?_
   refine nu hF 4 rfl rfl rfl fun a hF=>oV hF (aQ (hF.at 5 rfl) ao) rfl fun a hF=>oE hF 0 rfl rfl fun a hF=>nr ?_
   have bel:=st.bel
   refine rt Tryz.results45 hF 0 rfl ?_
   exact⟨rfl,bel⟩
 ·refine oU hF 1 0 (aV (c:=false) (aJ hc2)) rfl rfl rfl fun a hF=>oM hF 0 rfl rfl fun a hF=>nu hF 0 rfl rfl rfl fun a hF=>nu hF 1 rfl rfl rfl fun a hF=>nu hF 2 rfl rfl rfl fun a hF=>nu hF 3 rfl rfl rfl fun a hF=>nu hF 4 rfl rfl rfl fun a hF=>oV hF (aQ (hF.at 5 rfl) ao) rfl fun a hF=>oM hF 0 rfl rfl fun a hF=>nu hF 0 rfl rfl rfl fun a hF=>nu hF 1 rfl rfl rfl fun a hF=>nu hF 2 rfl rfl rfl fun a hF=>nu hF 3 rfl rfl rfl fun a hF=>nu hF 4 rfl rfl rfl fun a hF=>?_
  refine oV hF (aQ (hF.at 5 rfl) ao) rfl fun a hF=>oE hF 0 rfl rfl fun a hF=>nr ?_
  have bel:=st.bel
  refine rt Tryz.results45 hF 0 rfl ?_
  exact⟨rfl,bel⟩
theorem PS {s t:Int} (h:s<=t):gu s<=gu t:=by
 have i:=Rat.intCast_le_intCast.2 h
 have p:=jf
 unfold gu
 rw[show((s:Int):Rat)/((12:Int):Rat)=((s:Int):Rat)*(1/12) by rw[Rat.div_def,show((12:Int):Rat)⁻¹ =1/12 by decide+kernel],show((t:Int):Rat)/((12:Int):Rat)=((t:Int):Rat)*(1/12) by rw[Rat.div_def,show((12:Int):Rat)⁻¹ =1/12 by decide+kernel]]
 have m:=Rat.mul_nonneg (a:=pyr) (b:=(((t:Int):Rat)-((s:Int):Rat))*(1/12)) (by grind) (by grind)
 grind
theorem FX {y m k:Int} (h:m<=k):fiE y m<=fiE y k:=by
 unfold fiE
 refine Rat.le_floor_iff.2 ?_
 have f:=fe (gu (12*(y+3044)+(m-2)))
 have u:=PS (show 12*(y+3044)+(m-2)<=12*(y+3044)+(k-2) by omega)
 grind
theorem Ce (y s:Int):s=fiS y (s-fiS y 1+1):=by unfold fiS;omega
def inB (y L:Int):Bool:=decide (fiS y 1<=smV L/\smV L<fiS y 1+12)
theorem LJ (y L:Int):inB y L=true↔fiE y ((smV L+1)%12+1)-5<=L/\L<=fiE y ((smV L+1)%12+1)+40:=by
 unfold inB
 rw[decide_eq_true_iff]
 have m0:1<=(smV L+1)%12+1:=by omega
 have m1:(smV L+1)%12+1<=12:=by omega
 constructor
 ·intro g
  have e:smV L=fiS y ((smV L+1)%12+1):=by unfold fiS at*;omega
  have w:=fw e
  omega
 ·intro g
  have e:=of_decide_eq_true ((BM m0 m1 g.2).2 ⟨g.1,rfl⟩)
  have f:=(DH m0 m1).1 e
  unfold fiS
  omega
noncomputable def inU (y d:Int):Nat->List Int
 |0=>[]
 |k+1=>inU y d k++(if inB y (moD d k)=true then[moD d k] else[])
theorem rR {y d:Int} {k:Nat} (h:inB y (moD d k)=true):inU y d (k+1)=inU y d k++[moD d k]:=by show _++_=_;rw[if_pos h]
theorem qJ {y d:Int} {k:Nat} (h:¬inB y (moD d k)=true):inU y d (k+1)=inU y d k:=by show _++_=_;rw[if_neg h,List.append_nil]
theorem Cd (y d:Int):∀k,(inU y d k).length <=k
 |0=>Nat.le_refl _
 |k+1=>by
  have:=Cd y d k
  by_cases h:inB y (moD d k)=true
  ·rw[rR h,List.length_append];simp;omega
  ·rw[qJ h];omega
noncomputable def inL (y:Int):List Int:=(List.range (yrN (fiS y 1))).map (moD (yfV (fiS y 1)))
theorem Bw (y:Int):(inL y).length =yrN (fiS y 1):=by simp[inL]
theorem Ps {y:Int} {i:Nat} (h:i<yrN (fiS y 1)):(inL y).getD i 0=moD (yfV (fiS y 1)) i:=by
 simp[inL,List.getD_eq_getElem?_getD,h]
theorem yK (d:Int) (s:Nat):∀i,moD d (s+i)=moD (moD d s) i
 |0=>rfl
 |i+1=>by show aw (moD d (s+i))=aw (moD (moD d s) i);rw[yK d s i]
theorem iR {d:Int} (h:aN d=true) (k:Nat):aN (moD d k)=true:=by rw[<-kA];exact gx h k
theorem RN {d:Int} (h:aN d=true) (k:Nat):d+28*((k:Nat):Int)<=moD d k:=by rw[<-kA];exact(Rm h k).1
theorem Lh (y:Int):fiE y 1-39<=aA (((fiE y 1-5:Int)):Rat)/\aA (((fiE y 1-5:Int)):Rat)<=yfV (fiS y 1)/\aN (aA (((fiE y 1-5:Int)):Rat))=true:=by
 have s:=kJ y 1
 refine⟨s.1,Int.not_lt.1 fun q=>?_,s.2.2⟩
 have u:=uA (Int.le_of_lt q)
 have v:=(iB (fiS y 1)).2.1
 have w:=fw (Ce y (smV (aA (((fiE y 1-5:Int)):Rat))))
 have e:=FX (y:=y) (show 1<=smV (aA (((fiE y 1-5:Int)):Rat))-fiS y 1+1 by omega)
 omega
theorem MX {y L:Int} (h:fiE y 12+40<L):fiS y 1+12<=smV L:=by
 refine Int.not_lt.1 fun q=>?_
 have w:=fw (Ce y (smV L))
 have e:=FX (y:=y) (show smV L-fiS y 1+1<=12 by omega)
 omega
theorem NM {y d:Int} (h:aN d=true) (l:d<=yfV (fiS y 1)) {k:Nat} (hk:fiS y 1+12<=smV (moD d k)):inU y d k=inL y:=by
 have c:=(iB (fiS y 1)).1
 have t:=dv (show d+1<=yfV (fiS y 1)+1 by omega)
 obtain⟨s,hs⟩:∃s:Nat,moD d s=yfV (fiS y 1):=⟨(aP (yfV (fiS y 1)+1)-aP (d+1)).toNat,by rw[<-kA];exact(xL h c (by omega)).symm⟩
 have ts:aP (yfV (fiS y 1)+1)=aP (d+1)+((s:Nat):Int):=by rw[<-hs,<-kA,jk h]
 have lo:∀j,j<=s->inU y d j=[]:=by
  intro j
  induction j with
  |zero=>intro _;rfl
  |succ j ih=>
   intro hj
   rw[qJ,ih (by omega)]
   unfold inB
   rw[decide_eq_true_iff]
   intro g
   have q:=(mz (fiS y 1) (iR h j)).1 g.1
   have r:=(xG (iR h j) c).2 (by rw[ts,<-kA,jk h];omega)
   omega
 have inn:∀i,inB y (moD d (s+i))=true↔i<yrN (fiS y 1):=by
  intro i
  have cm:aN (moD (yfV (fiS y 1)) i)=true:=iR c i
  unfold inB
  rw[decide_eq_true_iff,yK,hs,Ke _ cm]
  refine⟨fun⟨j,hj,e⟩=>?_,fun hi=>⟨i,hi,(kA _ i).symm⟩⟩
  have a:=jk c i
  have b:=jk c j
  rw[kA,e,b] at a
  omega
 have hi:∀i,inU y d (s+i)=(List.range (min i (yrN (fiS y 1)))).map (moD (yfV (fiS y 1))):=by
  intro i
  induction i with
  |zero=>rw[Nat.add_zero,lo s (Nat.le_refl _),Nat.zero_min];rfl
  |succ i ih=>
   rw[<-Nat.add_assoc]
   by_cases g:i<yrN (fiS y 1)
   ·rw[rR ((inn i).2 g),ih,show min (i+1) (yrN (fiS y 1))=i+1 by omega,show min i (yrN (fiS y 1))=i by omega,List.range_succ,List.map_append,yK,hs]
    rfl
   ·rw[qJ (fun e=>g ((inn i).1 e)),ih,show min (i+1) (yrN (fiS y 1))=min i (yrN (fiS y 1)) by omega]
 have ks:s<=k:=Int.ofNat_le.1 (Int.not_lt.1 fun q=>by
  have r:=(xG (iR h k) c).2 (by rw[ts,<-kA,jk h];omega)
  have:=(mz (fiS y 1) (iR h k)).1 (by omega)
  omega)
 obtain⟨i,rfl⟩:∃i,k=s+i:=⟨k-s,by omega⟩
 have ni:yrN (fiS y 1)<=i:=Nat.not_lt.1 fun q=>by
  have:=of_decide_eq_true (p:=fiS y 1<=smV (moD d (s+i))/\smV (moD d (s+i))<fiS y 1+12) ((inn i).2 q)
  omega
 rw[hi,show min i (yrN (fiS y 1))=yrN (fiS y 1) by omega]
 rfl
theorem tQ (y L:Int):inB y L=true↔fiE y ((smV L%12+1)%12+1)-5<=L/\L<=fiE y ((smV L%12+1)%12+1)+40:=by
 rw[show(smV L%12+1)%12+1=(smV L+1)%12+1 by omega]
 exact LJ y L
theorem OK {y D:Int} {N i:Nat} (hD:yfV (fiS y 1)=D) (hN:yrN (fiS y 1)=N) (h:i<N) (more:List Value):((iJ (inL y)++more).drop (4*i)).take 4=moC (moD D i) (moD D (i+1)):=by
 subst hD hN
 rw[oF (inL y) more (by rw[Bw];exact h),Ps h]
 rfl
theorem vz:(Tryz.f50.name == "runtime.NumGoroutine")=false/\Tryz.f50.body.isNone=false:=⟨by decide+kernel,by kernel_rfl⟩
theorem AH (n xa xb xc xd L x:Int) (u:Bool) (g0 g1:Nat) (w:World) (hT:bE w) (hok:bN xa xb xc xd) (hn0: -3800000<=n) (hn1:n<=3800000) (h0:Blk w g0 [iv xa,iv xb,iv xc,iv xd]) (h1:Blk w g1 [iv ((smV L+1)/12-1955883044),iv ((smV L+1)%12+1),.bool (decide (smV (aw L)=smV L)),iv x,.bool u]) (hL:amL n xa xb xc xd=L):
 CV 50 #[iv n,.pointer (some ⟨g0,0,none⟩),.pointer (some ⟨g1,0,none⟩)] w (.bool true):=by
 obtain⟨X0,hX0⟩:∃z:Int,amX n xa xb xc xd=z:=⟨_,rfl⟩
 obtain⟨X9,hX9⟩:∃z:Int,amX (n-1) xa xb xc xd=z:=⟨_,rfl⟩
 refine gs3 (nt:=28) Tryz.func50 rfl rfl rfl fun a st hF=>wq ?_
 refine oC hF rfl fun a hF=>nq<|oM hF 1 rfl rfl fun a hF=>oV hF (ar (hF.at 3 rfl) (vR (vs:=[iv xa,iv xb,iv xc,iv xd]) (h0.below st.bel) rfl rfl)) rfl fun a hF=>cX st hF (rgc k44 (aL hF.p hF.o)) (iG n xa xb xc xd L X0 X9 _ (hT.below st.bel) (by first|assumption|constructor<;>omega) (by omega) (by omega) hL hX0 hX9) rfl fun w1 a st hF=>S.new st hF 0 rfl gO rfl rfl rfl rfl rfl fun g5 w2 a st hF=>nq<|oV hF (az hF.o (ik (p:=0) rfl)) rfl fun a hF=>oV hF (ar hF.o (bl (v:= iv ((smV L+1)/12-1955883044)) (st.bk 0 rfl) rfl)) rfl fun a hF=>oV hF (az (hF.at 9 rfl) (ik (p:=0) rfl)) rfl fun a hF=>oV hF (ar hF.o (bl (v:= iv ((smV L+1)/12-1955883044)) (h1.below st.bel) rfl)) rfl fun a hF=>oU hF 2 0 (aV (c:=true) (aI (by omega))) rfl rfl rfl fun a hF=>oM hF 0 rfl rfl fun a hF=>og hF (az (hF.at 6 rfl) (ig (p:=1) rfl)) 0 rfl rfl rfl fun a hF=>?_
 refine og hF (ar hF.o (bQ (v:= iv ((smV L+1)%12+1)) (st.bk 0 rfl) rfl)) 1 rfl rfl rfl fun a hF=>og hF (az (hF.at 15 rfl) (ig (p:=1) rfl)) 2 rfl rfl rfl fun a hF=>og hF (ar hF.o (bQ (v:= iv ((smV L+1)%12+1)) (h1.below st.bel) rfl)) 3 rfl rfl rfl fun a hF=>og hF (aq hF.q hF.o aa (aO (aV (c:=true) (aI (by omega))) (by simp))) 4 rfl rfl rfl fun a hF=>oV hF (aK (hF.at 5 rfl) hF.o) rfl fun a hF=>oM hF 0 rfl rfl fun a hF=>og hF (az (hF.at 13 rfl) (jF (p:=2) rfl)) 0 rfl rfl rfl fun a hF=>?_
 refine og hF (ar hF.o (ev (v:= .bool (decide (smV (aw L)=smV L))) (st.bk 0 rfl) rfl)) 1 rfl rfl rfl fun a hF=>og hF (az (hF.at 22 rfl) (jF (p:=2) rfl)) 2 rfl rfl rfl fun a hF=>og hF (ar hF.o (ev (v:= .bool (decide (smV (aw L)=smV L))) (h1.below st.bel) rfl)) 3 rfl rfl rfl fun a hF=>og hF (aq hF.q hF.o cZ (iw (d:=true) (beq_self_eq_true _))) 4 rfl rfl rfl fun a hF=>oV hF (aK (hF.at 5 rfl) hF.o) rfl fun a hF=>oE hF 0 rfl rfl fun a hF=>nr ?_
 have bel:=st.bel
 refine rt Tryz.results50 hF 0 rfl ?_
 exact⟨rfl,bel⟩
theorem te (n xa xb xc xd L M x:Int) (u:Bool) (g0 g1:Nat) (w:World) (hT:bE w) (hok:bN xa xb xc xd) (hn0: -3800000<=n) (hn1:n<=3800000) (h0:Blk w g0 [iv xa,iv xb,iv xc,iv xd]) (h1:Blk w g1 [iv ((smV L+1)/12-1955883044),iv ((smV L+1)%12+1),.bool (decide (smV (aw L)=smV L)),iv x,.bool u]) (hM:amL n xa xb xc xd=M) (hne:M≠L) (hc:aN L=true):
 CV 50 #[iv n,.pointer (some ⟨g0,0,none⟩),.pointer (some ⟨g1,0,none⟩)] w (.bool false):=by
 have hcM:aN M=true:=by rw[<-hM];exact mQ _ _ _ _ _
 obtain⟨X0,hX0⟩:∃z:Int,amX n xa xb xc xd=z:=⟨_,rfl⟩
 obtain⟨X9,hX9⟩:∃z:Int,amX (n-1) xa xb xc xd=z:=⟨_,rfl⟩
 refine gs3 (nt:=28) Tryz.func50 rfl rfl rfl fun a st hF=>wq ?_
 refine oC hF rfl fun a hF=>nq<|oM hF 1 rfl rfl fun a hF=>oV hF (ar (hF.at 3 rfl) (vR (vs:=[iv xa,iv xb,iv xc,iv xd]) (h0.below st.bel) rfl rfl)) rfl fun a hF=>cX st hF (rgc k44 (aL hF.p hF.o)) (iG n xa xb xc xd M X0 X9 _ (hT.below st.bel) (by first|assumption|constructor<;>omega) (by omega) (by omega) hM hX0 hX9) rfl fun w1 a st hF=>S.new st hF 0 rfl gO rfl rfl rfl rfl rfl fun g5 w2 a st hF=>nq<|oV hF (az hF.o (ik (p:=0) rfl)) rfl fun a hF=>oV hF (ar hF.o (bl (v:= iv ((smV M+1)/12-1955883044)) (st.bk 0 rfl) rfl)) rfl fun a hF=>oV hF (az (hF.at 9 rfl) (ik (p:=0) rfl)) rfl fun a hF=>oV hF (ar hF.o (bl (v:= iv ((smV L+1)/12-1955883044)) (h1.below st.bel) rfl)) rfl fun a hF=>?_
 by_cases hc3:(smV M+1)/12=(smV L+1)/12
 ·refine oU hF 2 0 (aV (c:=true) (aI (by omega))) rfl rfl rfl fun a hF=>oM hF 0 rfl rfl fun a hF=>og hF (az (hF.at 6 rfl) (ig (p:=1) rfl)) 0 rfl rfl rfl fun a hF=>og hF (ar hF.o (bQ (v:= iv ((smV M+1)%12+1)) (st.bk 0 rfl) rfl)) 1 rfl rfl rfl fun a hF=>og hF (az (hF.at 15 rfl) (ig (p:=1) rfl)) 2 rfl rfl rfl fun a hF=>og hF (ar hF.o (bQ (v:= iv ((smV L+1)%12+1)) (h1.below st.bel) rfl)) 3 rfl rfl rfl fun a hF=>?_
  by_cases hc4:(smV M+1)%12=(smV L+1)%12
  ·refine og hF (aq hF.q hF.o aa (aO (aV (c:=true) (aI (by omega))) (by simp))) 4 rfl rfl rfl fun a hF=>oV hF (aK (hF.at 5 rfl) hF.o) rfl fun a hF=>oM hF 0 rfl rfl fun a hF=>og hF (az (hF.at 13 rfl) (jF (p:=2) rfl)) 0 rfl rfl rfl fun a hF=>og hF (ar hF.o (ev (v:= .bool (decide (smV (aw M)=smV M))) (st.bk 0 rfl) rfl)) 1 rfl rfl rfl fun a hF=>og hF (az (hF.at 22 rfl) (jF (p:=2) rfl)) 2 rfl rfl rfl fun a hF=>og hF (ar hF.o (ev (v:= .bool (decide (smV (aw L)=smV L))) (h1.below st.bel) rfl)) 3 rfl rfl rfl fun a hF=>?_
   refine og hF (aq hF.q hF.o cZ (iw (d:=false) (beq_eq_false_iff_ne.2 fun e=>hne (yI hcM hc hc3 hc4 e)))) 4 rfl rfl rfl fun a hF=>oV hF (aK (hF.at 5 rfl) hF.o) rfl fun a hF=>oE hF 0 rfl rfl fun a hF=>nr ?_
   have bel:=st.bel
   refine rt Tryz.results50 hF 0 rfl ?_
   exact⟨rfl,bel⟩
  ·refine og hF (aq hF.q hF.o aa (aO (aV (c:=false) (aJ (by omega))) (by simp))) 4 rfl rfl rfl fun a hF=>oV hF (aK (hF.at 5 rfl) hF.o) rfl fun a hF=>oM hF 0 rfl rfl fun a hF=>nu hF 0 rfl rfl rfl fun a hF=>nu hF 1 rfl rfl rfl fun a hF=>nu hF 2 rfl rfl rfl fun a hF=>nu hF 3 rfl rfl rfl fun a hF=>?_
   refine nu hF 4 rfl rfl rfl fun a hF=>oV hF (aQ (hF.at 5 rfl) ao) rfl fun a hF=>oE hF 0 rfl rfl fun a hF=>nr ?_
   have bel:=st.bel
   refine rt Tryz.results50 hF 0 rfl ?_
   exact⟨rfl,bel⟩
 ·refine oU hF 2 0 (aV (c:=false) (aJ (by omega))) rfl rfl rfl fun a hF=>oM hF 0 rfl rfl fun a hF=>nu hF 0 rfl rfl rfl fun a hF=>nu hF 1 rfl rfl rfl fun a hF=>nu hF 2 rfl rfl rfl fun a hF=>nu hF 3 rfl rfl rfl fun a hF=>nu hF 4 rfl rfl rfl fun a hF=>oV hF (aQ (hF.at 5 rfl) ao) rfl fun a hF=>oM hF 0 rfl rfl fun a hF=>nu hF 0 rfl rfl rfl fun a hF=>nu hF 1 rfl rfl rfl fun a hF=>nu hF 2 rfl rfl rfl fun a hF=>nu hF 3 rfl rfl rfl fun a hF=>nu hF 4 rfl rfl rfl fun a hF=>?_
  refine oV hF (aQ (hF.at 5 rfl) ao) rfl fun a hF=>oE hF 0 rfl rfl fun a hF=>nr ?_
  have bel:=st.bel
  refine rt Tryz.results50 hF 0 rfl ?_
  exact⟨rfl,bel⟩
end Go.Proofs.YtgdpkknapcgcbaaGreatDoor
