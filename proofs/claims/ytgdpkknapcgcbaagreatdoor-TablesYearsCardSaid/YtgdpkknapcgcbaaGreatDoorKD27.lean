import Derived.Test.YtgdpkknapcgcbaaGreatDoorKD22
import Derived.Test.YtgdpkknapcgcbaaGreatDoorKD24
namespace Go.Proofs.YtgdpkknapcgcbaaGreatDoor
open Go.RowKit
set_option maxRecDepth 100000
set_option linter.unusedVariables false
set_option maxHeartbeats 8000000
def atR (lo hi:Rat) (k n:Int):Rat:=lo+(hi-lo)*(((k:Int):Rat)/((n:Int):Rat))
def hlv (p:Rat->Bool) (lo hi:Rat):Nat->Int
 |0=>0
 |n+1=>if p (atR lo hi (2*hlv p lo hi n+1) (2^(n+1)))=true then 2*hlv p lo hi n else 2*hlv p lo hi n+1
theorem ke (n:Nat):(0:Int)<2^n:=Int.pow_pos (by decide)
theorem jc (n:Nat):(2:Int)^(n+1)=2*2^n:=by rw[Int.pow_succ,Int.mul_comm]
theorem gG (p:Rat->Bool) (lo hi:Rat) (n:Nat):0<=hlv p lo hi n/\hlv p lo hi n<2^n:=by
 induction n with
 |zero=>exact⟨Int.le_refl _,by show(0:Int)<1;decide⟩
 |succ n ih=>
  have e:=jc n
  unfold hlv
  split <;> omega
theorem mH {n:Int} (h:n≠0):((n:Int):Rat)≠0:=fun e=>h (Rat.intCast_inj.1 (by rw[e,Rat.intCast_zero]))
theorem wg (k:Int) {n c:Int} (hn:n≠0) (hc:c≠0):((k*c:Int):Rat)/((n*c:Int):Rat)=((k:Int):Rat)/((n:Int):Rat):=by
 have h1:=mH hn
 have h2:=mH hc
 rw[Rat.intCast_mul,Rat.intCast_mul]
 generalize ((n:Int):Rat)=x at*
 generalize ((c:Int):Rat)=y at*
 generalize ((k:Int):Rat)=z at*
 grind
theorem qq (lo hi:Rat) (k:Int) {n c:Int} (hn:n≠0) (hc:c≠0):atR lo hi (k*c) (n*c)=atR lo hi k n:=by unfold atR;rw[wg k hn hc]
theorem Db (lo hi:Rat) (k:Int) {n:Int} (hn:n≠0):(atR lo hi k n+atR lo hi (k+1) n)*(((1:Int):Rat)/((2:Int):Rat))=atR lo hi (2*k+1) (2*n):=by
 have h1:=mH hn
 unfold atR
 rw[Rat.intCast_add,Rat.intCast_add,Rat.intCast_mul,Rat.intCast_mul,show((1:Int):Rat)=1 from rfl,show((2:Int):Rat)=2 from rfl]
 generalize ((n:Int):Rat)=x at*
 generalize ((k:Int):Rat)=z at*
 grind
theorem ER (lo hi:Rat) (k:Int) {n:Int} (hn:n≠0):atR lo hi (k+1) n-atR lo hi k n=(hi-lo)*(((1:Int):Rat)/((n:Int):Rat)):=by
 have h1:=mH hn
 unfold atR
 rw[Rat.intCast_add,show((1:Int):Rat)=1 from rfl]
 generalize ((n:Int):Rat)=x at*
 generalize ((k:Int):Rat)=z at*
 grind
theorem BT (lo hi:Rat) (n:Int):atR lo hi 0 n=lo:=by unfold atR;rw[Rat.intCast_zero,Rat.div_def,Rat.zero_mul,Rat.mul_zero,Rat.add_zero]
theorem De (lo hi:Rat):atR lo hi 1 1=hi:=by unfold atR;rw[show((1:Int):Rat)/((1:Int):Rat)=1 by decide+kernel];grind
def hlo (p:Rat->Bool) (lo hi:Rat) (n:Nat):Rat:=atR lo hi (hlv p lo hi n) (2^n)
def hhi (p:Rat->Bool) (lo hi:Rat) (n:Nat):Rat:=atR lo hi (hlv p lo hi n+1) (2^n)
def hmi (p:Rat->Bool) (lo hi:Rat) (n:Nat):Rat:=atR lo hi (2*hlv p lo hi n+1) (2^(n+1))
theorem sL (p:Rat->Bool) (lo hi:Rat):hlo p lo hi 0=lo:=BT lo hi _
theorem rN (p:Rat->Bool) (lo hi:Rat):hhi p lo hi 0=hi:=De lo hi
theorem Dj (p:Rat->Bool) (lo hi:Rat) (n:Nat):(hlo p lo hi n+hhi p lo hi n)*(((1:Int):Rat)/((2:Int):Rat))=hmi p lo hi n:=by
 unfold hlo hhi hmi
 rw[Db lo hi _ (by have:=ke n;omega),jc]
theorem C5 {p:Rat->Bool} {lo hi:Rat} {n:Nat} (h:p (hmi p lo hi n)=true):hlv p lo hi (n+1)=2*hlv p lo hi n:=by show(if _ then _ else _)=_;exact if_pos h
theorem CF {p:Rat->Bool} {lo hi:Rat} {n:Nat} (h:p (hmi p lo hi n)=false):hlv p lo hi (n+1)=2*hlv p lo hi n+1:=by show(if _ then _ else _)=_;exact if_neg (by rw[show p (atR lo hi (2*hlv p lo hi n+1) (2^(n+1)))=false from h];simp)
theorem CT {p:Rat->Bool} {lo hi:Rat} {n:Nat} (h:p (hmi p lo hi n)=true):hlo p lo hi (n+1)=hlo p lo hi n:=by
 unfold hlo
 rw[C5 h,jc,Int.mul_comm 2 (hlv p lo hi n),Int.mul_comm 2 (2^n)]
 exact qq lo hi _ (by have:=ke n;omega) (by decide)
theorem CM {p:Rat->Bool} {lo hi:Rat} {n:Nat} (h:p (hmi p lo hi n)=true):hhi p lo hi (n+1)=hmi p lo hi n:=by unfold hhi hmi;rw[C5 h]
theorem CA {p:Rat->Bool} {lo hi:Rat} {n:Nat} (h:p (hmi p lo hi n)=false):hlo p lo hi (n+1)=hmi p lo hi n:=by unfold hlo hmi;rw[CF h]
theorem C2 {p:Rat->Bool} {lo hi:Rat} {n:Nat} (h:p (hmi p lo hi n)=false):hhi p lo hi (n+1)=hhi p lo hi n:=by
 unfold hhi
 rw[CF h,jc,show 2*hlv p lo hi n+1+1=(hlv p lo hi n+1)*2 by omega,Int.mul_comm 2 (2^n)]
 exact qq lo hi _ (by have:=ke n;omega) (by decide)
theorem A4 {p:Rat->Bool} {lo:Rat} (hi:Rat) (h:p lo=false) (n:Nat):p (hlo p lo hi n)=false:=by
 induction n with
 |zero=>rw[sL];exact h
 |succ n ih=>
  cases hm:p (hmi p lo hi n) with
  |true=>rw[CT hm];exact ih
  |false=>rw[CA hm];exact hm
theorem yL {p:Rat->Bool} (lo:Rat) {hi:Rat} (h:p hi=true) (n:Nat):p (hhi p lo hi n)=true:=by
 induction n with
 |zero=>rw[rN];exact h
 |succ n ih=>
  cases hm:p (hmi p lo hi n) with
  |true=>rw[CM hm];exact hm
  |false=>rw[C2 hm];exact ih
theorem DR (p:Rat->Bool) (lo hi:Rat) (n:Nat):hhi p lo hi n-hlo p lo hi n=(hi-lo)*(((1:Int):Rat)/(((2^n:Int):Int):Rat)):=ER lo hi _ (by have:=ke n;omega)
theorem pZ {n:Nat} (h:n<=64):(2:Int)^n<=18446744073709551616:=by
 have:(2:Nat)^n<=2^64:=Nat.pow_le_pow_right (by decide) h
 have e:((2^n:Nat):Int)=(2:Int)^n:=by rw[Int.natCast_pow];rfl
 rw[<-e];exact Int.ofNat_le.2 this
theorem Gf {n d:Int} {k:Nat} (h:n.natAbs<B32^k) (g:d.natAbs<B32^k) (hk:1<=k):ag (((n:Int):Rat)/((d:Int):Rat)) (k+k):=cZ (ch h hk) (ch g hk)
theorem pF {lo hi:Rat} {k n:Int} {i j:Nat} (h1:ag lo i) (h2:ag hi j) (hk:0<=k) (hk2:k<=n) (hn2:n<=18446744073709551616):ag (atR lo hi k n) (2*i+j+8):=by
 have b:(18446744073709551616:Nat)<B32^3:=by decide+kernel
 exact(a9 h1 (aM (bV h2 h1) (Gf (n:=k) (d:=n) (k:=3) (by omega) (by omega) (by decide)))).up _ (by omega)
theorem Dh {p:Rat->Bool} {lo hi:Rat} {i j n:Nat} (h1:ag lo i) (h2:ag hi j) (hn:n<=64):ag (hlo p lo hi n) (2*i+j+8):=
 pF h1 h2 (gG p lo hi n).1 (by have:=gG p lo hi n;omega) (pZ hn)
theorem vC {p:Rat->Bool} {lo hi:Rat} {i j n:Nat} (h1:ag lo i) (h2:ag hi j) (hn:n<=64):ag (hhi p lo hi n) (2*i+j+8):=
 pF h1 h2 (by have:=gG p lo hi n;omega) (by have:=gG p lo hi n;omega) (pZ hn)
theorem DT {p:Rat->Bool} {lo hi:Rat} {i j n:Nat} (h1:ag lo i) (h2:ag hi j) (hn:n<64):ag (hmi p lo hi n) (2*i+j+8):=
 pF h1 h2 (by have:=gG p lo hi n;omega) (by have:=gG p lo hi n;have:=jc n;omega) (pZ hn)
theorem qS {x:Rat} {n:Int} (hn:0<n):prt (rmod x ((360:Int):Rat)) n=(x*(((n:Int):Rat)/((360:Int):Rat))).floor %n:=by
 have np:(0:Rat)<((n:Int):Rat):=Rat.intCast_pos.2 hn
 have e:(rmod x ((360:Int):Rat))*(((n:Int):Rat)/((360:Int):Rat))=x*(((n:Int):Rat)/((360:Int):Rat))+((n*(-(x/((360:Int):Rat)).floor):Int):Rat):=by
  rw[eF bQ,Rat.intCast_mul,Rat.div_def ((n:Int):Rat),dE];grind
 have b:=j6 (x:=rmod x ((360:Int):Rat)) hn (fv bQ) (eI bQ)
 unfold prt at b ⊢
 rw[e,Rat.floor_add_intCast] at b ⊢
 have h:=Int.emod_eq_of_lt (b:=n) b.1 b.2
 rw[<-h,Int.add_mul_emod_self_left]
def skp (x:Rat):Int:=(x*(((1:Int):Rat)/((14:Int):Rat))).floor
theorem s7:((1:Int):Rat)/((14:Int):Rat)=1/14:=by decide+kernel
theorem sA {x:Rat} {m:Int} (h:x<=134/10*((m:Int):Rat)) (hm:0<m):skp x<=m-1:=by
 have c:=Rat.intCast_lt_intCast.2 hm
 have:skp x<m:=Rat.floor_lt_iff.2 (by rw[s7];rw[Rat.intCast_zero] at c;grind)
 omega
theorem tX {x:Rat} (h:0<=x):0<=skp x:=Rat.le_floor_iff.2 (by rw[s7,Rat.intCast_zero];grind)
theorem vm {a b:Int} (h:a<=b):phU ((b:Int):Rat)-phU ((a:Int):Rat)<=134/10*(((b-a:Int)):Rat):=by
 have c:0<=(((b-a:Int)):Rat):=Rat.intCast_nonneg.2 (by omega)
 have r:=(i7 ((a:Int):Rat) c).2
 have e:((a:Int):Rat)+(((b-a:Int)):Rat)=((b:Int):Rat):=by rw[<-Rat.intCast_add];congr 1;omega
 rwa[e] at r
theorem zB {n L:Int} (h:L<n) (hc:aF L=true) (hn:∀m,L<m->m<n->¬aF m=true):0<=skp (bf ((n:Int):Rat))/\skp (bf ((n:Int):Rat))<=n-L-1:=by
 refine⟨tX (lf _).1,?_⟩
 have t1:aD n=aD (L+1):=gJ (by omega) fun m h1 h2=>hn m (by omega) h2
 have t2:=(bZ L).1 hc
 have a:=(cN ((L:Int):Rat)).2
 have q:=iV ((n:Int):Rat)
 have r:=vm (Int.le_of_lt h)
 have e:((turn ((n:Int):Rat):Int):Rat)=((turn ((L:Int):Rat):Int):Rat)+1:=by
  rw[show turn ((n:Int):Rat)=turn ((L:Int):Rat)+1 from t1.trans t2,Rat.intCast_add];rfl
 rw[e] at q
 rw[show((360:Int):Rat)=360 from rfl] at a q
 exact sA (by grind) (by omega)
theorem yR {n M:Int} (h:n<M) (hc:aF M=true) (hn:∀k,n<k->k<M->¬aF k=true):0<=skp (((360:Int):Rat)-bf (((n+1:Int)):Rat))/\n+1+skp (((360:Int):Rat)-bf (((n+1:Int)):Rat))<=M:=by
 have p:=lf (((n+1:Int)):Rat)
 rw[show((360:Int):Rat)=360 from rfl]
 refine⟨tX (by grind),?_⟩
 have t1:aD M=aD (n+1):=gJ (by omega) fun m h1 h2=>hn m (by omega) h2
 have t2:=(bZ M).1 hc
 have a:=(cN (((M+1:Int)):Rat)).1
 have q:=iV (((n+1:Int)):Rat)
 have r:=vm (a:=n+1) (b:=M+1) (by omega)
 have e:((turn (((M+1:Int)):Rat):Int):Rat)=((turn (((n+1:Int)):Rat):Int):Rat)+1:=by
  rw[show turn (((M+1:Int)):Rat)=turn (((n+1:Int)):Rat)+1 from by rw[show turn (((M+1:Int)):Rat)=aD (M+1) from rfl,t2,t1];rfl,Rat.intCast_add];rfl
 rw[e] at a
 rw[show((360:Int):Rat)=360 from rfl] at a q
 have:=sA (x:=360-bf (((n+1:Int)):Rat)) (m:=M+1-(n+1)) (by grind) (by omega)
 omega
noncomputable def be (f:Int):Int:=Classical.choose (vF f)
theorem bE (f:Int):f-34<=be f/\be f<f/\aF (be f)=true/\∀m,be f<m->m<f->¬aF m=true:=Classical.choose_spec (vF f)
def kQ (t:Rat):Bool:=full ((t.floor:Int):Rat) && !full t
noncomputable def bm (t:Rat):Int:=if kQ t=true then t.floor else be t.floor
theorem lT {t:Rat} (h:kQ t=true):bm t=t.floor:=if_pos h
theorem nX {t:Rat} (h:¬kQ t=true):bm t=be t.floor:=if_neg h
theorem su (t:Rat):t.floor-34<=bm t/\bm t<=t.floor:=by
 have s:=bE t.floor
 unfold bm
 split <;> omega
theorem AJ {f n:Int} (h:be f<=n) (hn:n<f) (hc:aF n=true):n=be f:=by
 have s:=bE f
 by_cases e:be f<n
 ·exact absurd hc (s.2.2.2 n e hn)
 ·omega
theorem Af {f n:Int} (h:be f<=n) (hc:¬aF n=true):be f<n:=by
 have s:=bE f
 by_cases e:n=be f
 ·rw[e] at hc;exact absurd s.2.2.1 hc
 ·omega
noncomputable def az (n:Int):Int:=if h:aF n=true then Classical.choose (vu h) else 0
theorem bD {n:Int} (h:aF n=true):n+28<=az n/\az n<=n+31/\aF (az n)=true/\∀k,n<k->k<az n->¬aF k=true:=by
 unfold az
 rw[dif_pos h]
 exact Classical.choose_spec (vu h)
theorem Bd {n m:Int} (h:aF n=true) (h1:n<m) (h2:m<=az n) (hc:aF m=true):m=az n:=by
 have s:=bD h
 by_cases e:m<az n
 ·exact absurd hc (s.2.2.2 m h1 e)
 ·omega
theorem BA (p:Rat->Bool) (v1 v2:Value) (q1 q2:Rat) (i k j:Nat) (w:World) (h1:Rq w v1 (hlo p q1 q2 i)) (h2:Rq w v2 (hhi p q1 q2 i)) (hl:ag (hlo p q1 q2 i) k) (hm:ag (hhi p q1 q2 i) j) (hk:k<=1000) (hj:j<=1000):
 CQ 149 #[v1,v2] w (hmi p q1 q2 i):=by
 have h:=BS v1 v2 _ _ k j w h1 h2 hl hm hk hj
 rwa[Dj] at h
theorem DY (v1 v2:Value) (q1 q2:Rat) (k j:Nat) (h:Int) (N:Nat) (kf:FuncId) (cap:Array Value) (p:Rat->Bool) (w:World) (h1:Rq w v1 q1) (h2:Rq w v2 q2) (l1:ag q1 k) (l2:ag q2 j) (hk:k<=300) (hj:j<=300) (hN:min (max h 0) 64=((N:Nat):Int)) (hN2:N<=64) (hask:lh w kf cap (2*k+j+8) p):
 CP 78 #[v1,v2,iv h,.func (.func kf) #[] cap] w ((fun e w'=>∃v u,e= .returned (.tuple #[v,u])/\Rq w' v (hlo p q1 q2 N)/\Rq w' u (hhi p q1 q2 N)/\Below w.heap.size w w')):=by
 obtain⟨fn,hfn1,hfn2,hfn3⟩:=hask.fn
 have st:=St.start w
 refine E.enter (nt:=33) (L:=[(0,v1),(1,v2),(2,iv h),(3,.func (.func kf) #[] cap)]) Tryz.func78 rfl rfl rfl (aX (i:=0) rfl (aX (i:=1) rfl (aX (i:=2) rfl (aX (i:=3) rfl dU)))) ?_
 intro a hF
 refine wq ?_
 obtain⟨r2,rfl⟩:=Rq.fo h1
 refine bx st hF 0 rfl rfl fun g4 w1 a st hF=>?_
 obtain⟨r4,rfl⟩:=Rq.fo h2
 refine bx st hF 2 rfl rfl fun g5 w3 a st hF=>S.alloc st hF aa rfl rfl fun g8 w5 a st hF=>S.alloc st hF aa rfl rfl fun g9 w6 a st hF=>E.nil ?_
 refine E.scope (fun mq a wv=>∃(i:Nat) (bb5:Bool) (aa5:Option Addr) (nn5:Nat) (cc5:Nat) (ee5:Option Addr) (mm5:Nat) (dd5:Nat) (bb4:Bool) (aa4:Option Addr) (nn4:Nat) (cc4:Nat) (ee4:Option Addr) (mm4:Nat) (dd4:Nat),i<=N/\Fr 33 a [(10,iv (((N:Nat):Int)-((i:Nat):Int))),(9,.pointer (some ⟨g9,0,none⟩)),(8,.pointer (some ⟨g8,0,none⟩)),(5,.pointer (some ⟨g5,0,none⟩)),(4,.pointer (some ⟨g4,0,none⟩)),(3,.func (.func kf) #[] cap)]/\St w wv [(g9,[.bool false,.slice none 0 0,.slice none 0 0]),(g8,[.bool false,.slice none 0 0,.slice none 0 0]),(g5,[.bool bb5,.slice aa5 nn5 cc5,.slice ee5 mm5 dd5]),(g4,[.bool bb4,.slice aa4 nn4 cc4,.slice ee4 mm4 dd4])] [fun w=>Rq w (.agg #[.bool bb5,.slice aa5 nn5 cc5,.slice ee5 mm5 dd5]) (hhi p q1 q2 i),fun w=>Rq w (.agg #[.bool bb4,.slice aa4 nn4 cc4,.slice ee4 mm4 dd4]) (hlo p q1 q2 i)]/\mq=N-i) rfl ?_ ?_
 ·refine E.seq<|oM hF 6 rfl rfl fun a hF=>oV hF (bI (aK hF.o ah) yY) rfl fun a hF=>oV hF (bI (aK hF.o ah) xD) rfl fun a hF=>oA hF 0 rfl rfl fun a hF=>E.nil0 ?_
  replace hF:Fr 33 a [(10,iv (((N:Nat):Int)-((0:Nat):Int))),(14,iv (min (max h 0) 64)),(13,iv (max h 0)),(12,iv h),(9,.pointer (some ⟨g9,0,none⟩)),(8,.pointer (some ⟨g8,0,none⟩)),(5,.pointer (some ⟨g5,0,none⟩)),(4,.pointer (some ⟨g4,0,none⟩)),(0,r2.v),(1,r4.v),(2,iv h),(3,.func (.func kf) #[] cap)]:=by rw[show((N:Nat):Int)-((0:Nat):Int)=min (max h 0) 64 from by rw[hN];simp];exact hF
  refine E.norm ?_
  exact⟨(N-0),0,_,_,_,_,_,_,_,_,_,_,_,_,_,_,(by omega),Fr.pick (L':=[(10,iv (((N:Nat):Int)-((0:Nat):Int))),(9,.pointer (some ⟨g9,0,none⟩)),(8,.pointer (some ⟨g8,0,none⟩)),(5,.pointer (some ⟨g5,0,none⟩)),(4,.pointer (some ⟨g4,0,none⟩)),(3,.func (.func kf) #[] cap)]) hF [0,4,5,6,7,11] rfl,((st.add (Rq.castM (h1.below st.bel) (sL p q1 q2).symm) (Rq.cl _)).add (Rq.castM (h2.below st.bel) (rN p q1 q2).symm) (Rq.cl _)).pick [0,1,2,3] [0,1] rfl rfl (by decide),rfl⟩
 ·rintro mq a w7 ⟨i,bb5,aa5,nn5,cc5,ee5,mm5,dd5,bb4,aa4,nn4,cc4,ee4,mm4,dd4,hi,hF,st,hm⟩
  refine wp_seq<|wq<|oM hF 0 rfl rfl fun a hF=>?_
  by_cases hc8:((N:Nat):Int)-((i:Nat):Int)=0
  ·refine oT hF 0 (bq (c:=true) (aJ hc8)) rfl rfl fun a hF=>E.nil<|wp_cond_true hF.o<|wp_seq ?_
   refine E.ret2 (i0:=3) (i1:=2) (j0:=1) (j1:=0) aI st hF aa (fun a hF=>bH (hF.at 6 rfl)) (fun a hF=>bH (hF.at 5 rfl)) (fun a hF=>bH (hF.at 4 rfl)) (fun a hF=>bH (hF.at 3 rfl)) rfl rfl rfl rfl rfl rfl rfl rfl rfl rfl rfl rfl (by decide) (by decide) (by decide) (by decide) (by decide) (by decide) rfl rfl rfl rfl (by decide+kernel) (by decide+kernel) (by decide+kernel) fun w9 a st hF=>?_
   refine E.norm<|wp_ret<|E.pastr ?_
   refine E.jumpr ?_
   have bel:=st.bel
   refine bodyPost_ret (f9 Tryz.results78 (hF.at 4 rfl) (bh aa (st.bk 1 rfl) rfl) (hF.at 3 rfl) (bh aa (st.bk 0 rfl) rfl)) hF.dfr ?_
   have e:i=N:=by omega
   subst e
   exact⟨_,_,rfl,(st.f 1 rfl),(st.f 0 rfl),bel⟩
  ·refine oT hF 0 (bq (c:=false) (aH hc8)) rfl rfl fun a hF=>E.nil<|wp_cond_false hF.o<|wp_skip<|E.norm<|wq ?_
   refine oM hF 2 rfl rfl fun a hF=>oV hF (ao hF.o ah ab (bM (by omega) (by omega))) rfl fun a hF=>oE hF 0 rfl rfl fun a hF=>ns<|wq<|oL hF st 8 3 aa rfl rfl rfl rfl fun a hF=>oL hF st 8 2 aa rfl rfl rfl rfl fun a hF=>?_
   refine ca st hF (rk H6 (aK hF.p hF.o)) (BA p _ _ q1 q2 i (2*k+j+8) (2*k+j+8) _ (st.f 1 rfl) (st.f 0 rfl) (Dh (p:=p) l1 l2 (by omega)) (vC (p:=p) l1 l2 (by omega)) (by omega) (by omega)) (fun _ _ h=>h) Rq.cl rfl fun vv11 w10 a st hF=>?_
   obtain⟨r13,rfl⟩:=Rq.fo (st.f 0 rfl)
   refine S.new st hF 0 rfl aa rfl rfl rfl rfl rfl fun g11 w14 a st hF=>nq<|oM hF 13 rfl rfl fun a hF=>oV hF (ao hF.o ah EQ E7) rfl fun a hF=>oM hF 0 rfl rfl fun a hF=>og hF (aG (hF.at 16 rfl)) 0 rfl rfl rfl fun a hF=>og hF (ar (hF.at 4 rfl) (bh aa (st.bk 0 rfl) rfl)) 1 rfl rfl rfl fun a hF=>?_
   refine S.callxg st hF (aq rfl rfl hF.q rfl) (uN hF.p hfn1 hfn2 hfn3 (aC hF.o)) ((hask.below st.bel).ask _ (hmi p q1 q2 i) _ (Below.refl _ _) (st.f 0 rfl) ((DT (p:=p) l1 l2 (by omega)).up _ (by omega))) rfl rfl rfl fun w15 a st hF=>?_
   refine oV hF (aV (hF.at 3 rfl) hF.o) rfl fun a hF=>E.nil ?_
   by_cases hc16:p (hmi p q1 q2 i)=true
   ·refine wp_cond_true (Eq.trans hF.o (congrArg Value.bool hc16)) ?_
    refine E.seq<|oL hF st 7 0 aa rfl rfl rfl rfl fun a hF=>so st hF 3 19 0 aa rfl rfl rfl rfl fun w17 a st hF=>E.nil ?_
    refine wp_goto ?_
    refine E.jump ?_
    replace hF:Fr 33 a [(31,r13.v),(30,.bool (p (hmi p q1 q2 i))),(29,.bool (p (hmi p q1 q2 i))),(28,r13.v),(27,.func (.func kf) #[] cap),(26,.bool true),(25,.bool true),(24,.func (.func kf) #[] cap),(11,.pointer (some ⟨g11,0,none⟩)),(23,r13.v),(22,.agg #[.bool bb5,.slice aa5 nn5 cc5,.slice ee5 mm5 dd5]),(21,.agg #[.bool bb4,.slice aa4 nn4 cc4,.slice ee4 mm4 dd4]),(10,iv (((N:Nat):Int)-((i+1:Nat):Int))),(20,iv ((((N:Nat):Int)-((i:Nat):Int))-1)),(19,iv (((N:Nat):Int)-((i:Nat):Int))),(16,.bool false),(15,iv (((N:Nat):Int)-((i:Nat):Int))),(9,.pointer (some ⟨g9,0,none⟩)),(8,.pointer (some ⟨g8,0,none⟩)),(5,.pointer (some ⟨g5,0,none⟩)),(4,.pointer (some ⟨g4,0,none⟩)),(3,.func (.func kf) #[] cap)]:=by rw[show((N:Nat):Int)-((i+1:Nat):Int)=((N:Nat):Int)-((i:Nat):Int)-1 from by omega];exact hF
    exact⟨(N-(i+1)),by omega,⟨(i+1),_,_,_,_,_,_,_,_,_,_,_,_,_,_,(by omega),Fr.pick (L':=[(10,iv (((N:Nat):Int)-((i+1:Nat):Int))),(9,.pointer (some ⟨g9,0,none⟩)),(8,.pointer (some ⟨g8,0,none⟩)),(5,.pointer (some ⟨g5,0,none⟩)),(4,.pointer (some ⟨g4,0,none⟩)),(3,.func (.func kf) #[] cap)]) hF [12,17,18,19,20,21] rfl,((st.add (Rq.castM (st.f 2 rfl) (CT hc16).symm) (Rq.cl _)).add (Rq.castM (st.f 0 rfl) (CM hc16).symm) (Rq.cl _)).pick [1,2,3,4] [0,1] rfl rfl (by decide),rfl⟩⟩
   ·refine wp_cond_false (Eq.trans hF.o (congrArg Value.bool (eq_false_of_ne_true hc16))) ?_
    refine E.seq<|oL hF st 7 0 aa rfl rfl rfl rfl fun a hF=>so st hF 4 20 0 aa rfl rfl rfl rfl fun w18 a st hF=>E.nil ?_
    refine wp_goto ?_
    refine E.jump ?_
    replace hF:Fr 33 a [(32,r13.v),(30,.bool (p (hmi p q1 q2 i))),(29,.bool (p (hmi p q1 q2 i))),(28,r13.v),(27,.func (.func kf) #[] cap),(26,.bool true),(25,.bool true),(24,.func (.func kf) #[] cap),(11,.pointer (some ⟨g11,0,none⟩)),(23,r13.v),(22,.agg #[.bool bb5,.slice aa5 nn5 cc5,.slice ee5 mm5 dd5]),(21,.agg #[.bool bb4,.slice aa4 nn4 cc4,.slice ee4 mm4 dd4]),(10,iv (((N:Nat):Int)-((i+1:Nat):Int))),(20,iv ((((N:Nat):Int)-((i:Nat):Int))-1)),(19,iv (((N:Nat):Int)-((i:Nat):Int))),(16,.bool false),(15,iv (((N:Nat):Int)-((i:Nat):Int))),(9,.pointer (some ⟨g9,0,none⟩)),(8,.pointer (some ⟨g8,0,none⟩)),(5,.pointer (some ⟨g5,0,none⟩)),(4,.pointer (some ⟨g4,0,none⟩)),(3,.func (.func kf) #[] cap)]:=by rw[show((N:Nat):Int)-((i+1:Nat):Int)=((N:Nat):Int)-((i:Nat):Int)-1 from by omega];exact hF
    exact⟨(N-(i+1)),by omega,⟨(i+1),_,_,_,_,_,_,_,_,_,_,_,_,_,_,(by omega),Fr.pick (L':=[(10,iv (((N:Nat):Int)-((i+1:Nat):Int))),(9,.pointer (some ⟨g9,0,none⟩)),(8,.pointer (some ⟨g8,0,none⟩)),(5,.pointer (some ⟨g5,0,none⟩)),(4,.pointer (some ⟨g4,0,none⟩)),(3,.func (.func kf) #[] cap)]) hF [12,17,18,19,20,21] rfl,((st.add (Rq.castM (st.f 0 rfl) (CA (eq_false_of_ne_true hc16)).symm) (Rq.cl _)).add (Rq.castM (st.f 1 rfl) (C2 (eq_false_of_ne_true hc16)).symm) (Rq.cl _)).pick [1,2,3,4] [0,1] rfl rfl (by decide),rfl⟩⟩
end Go.Proofs.YtgdpkknapcgcbaaGreatDoor
