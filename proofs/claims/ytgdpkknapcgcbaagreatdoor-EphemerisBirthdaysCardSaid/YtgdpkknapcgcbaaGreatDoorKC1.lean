import Derived.WalkKit
import Derived.WalkSpells
import Derived.WalkLawsBesides
import Derived.Lib.Hide
import Derived.Laws.CopyOwn
import Derived.Laws.AppendOwnNone
import Derived.StillTailTactics
import Derived.Deep.QuietTactic
import Derived.BigQuiet
import Derived.Deep.RegionWith
import Derived.RegionTactic
namespace Go.Proofs.YtgdpkknapcgcbaaGreatDoor
open Go.RowKit
set_option maxRecDepth 100000
set_option linter.unusedVariables false
set_option maxHeartbeats 8000000
section
section
def lg (xs:List Nat) (i:Nat):Nat:=xs.getD i 0
def vl (b:Nat):List Nat->Nat
 |[]=>0
 |x::xs=>x+b*vl b xs
def okb (b:Nat) (xs:List Nat):Prop:=∀x∈xs,x<b
def norm (xs:List Nat):Prop:=0<xs.length->lg xs (xs.length-1)≠0
def dg (b n:Nat):List Nat:=if _h:n=0\/b<2 then[] else n%b::dg b (n/b)
termination_by n
decreasing_by exact Nat.div_lt_self (by omega) (by omega)
def dl (b n:Nat):Nat:=(dg b n).length
theorem eS {xs:List Nat} {i:Nat} (h:xs.length<=i):lg xs i=0:=by
 unfold lg;simp[List.getD,List.getElem?_eq_none h]
theorem jY {xs:List Nat} {i:Nat} (h:i<xs.length):lg xs i=xs[i]:=by
 unfold lg;simp[List.getD,List.getElem?_eq_getElem h]
theorem NO (i:Nat):lg [] i=0:=rfl
theorem qZ (x:Nat) (xs:List Nat):lg (x::xs) 0=x:=rfl
theorem mT (x:Nat) (xs:List Nat) (i:Nat):lg (x::xs) (i+1)=lg xs i:=by simp[lg]
theorem MI (xs:List Nat) (x:Nat):lg (xs++[x]) xs.length=x:=by simp[lg]
theorem rQ {xs:List Nat} {k i:Nat} (h:i<k):lg (xs.take k) i=lg xs i:=by
 unfold lg;simp[List.getD,h]
theorem fZ (xs:List Nat) (k i:Nat):lg (xs.drop k) i=lg xs (k+i):=by
 unfold lg;simp[List.getD,List.getElem?_drop]
theorem lr {xs:List Nat} {i:Nat} (x:Nat) (h:i<xs.length):lg (xs.set i x) i=x:=by
 unfold lg;simp[List.getD,List.getElem?_set_self h]
theorem eF {xs:List Nat} {i j:Nat} (x:Nat) (h:i≠j):lg (xs.set i x) j=lg xs j:=by
 unfold lg;simp[List.getD,List.getElem?_set_ne h]
theorem Pa {xs:List Nat} {i:Nat} (h:i<xs.length):lg xs i∈xs:=by rw[jY h];exact List.getElem_mem h
theorem di {b:Nat} {xs:List Nat} (ho:okb b xs) (hb:0<b) (i:Nat):lg xs i<b:=by
 by_cases h:i<xs.length
 ·exact ho _ (Pa h)
 ·rw[eS (by omega)];exact hb
theorem uW {xs ys:List Nat} (hl:xs.length=ys.length) (h:∀i,i<xs.length->lg xs i=lg ys i):xs=ys:=by
 apply List.ext_getElem hl
 intro i h1 h2
 have:=h i h1
 rwa[jY h1,jY h2] at this
theorem my {xs:List Nat} {k:Nat} (h:k<xs.length):xs.take (k+1)=xs.take k++[lg xs k]:=by
 rw[List.take_succ_eq_append_getElem h,jY h]
theorem mn (b:Nat):okb b []:=fun _ h=>absurd h (by simp)
theorem jG {b:Nat} {xs:List Nat} (h:okb b xs) (k:Nat):okb b (xs.take k):=fun x hx=>h x (List.mem_of_mem_take hx)
theorem zA {b:Nat} {xs:List Nat} (h:okb b xs) (k:Nat):okb b (xs.drop k):=fun x hx=>h x (List.mem_of_mem_drop hx)
theorem il {b:Nat} {xs ys:List Nat} (h:okb b xs) (k:okb b ys):okb b (xs++ys):=by
 intro x hx;rcases List.mem_append.1 hx with h1|h1
 ·exact h x h1
 ·exact k x h1
theorem kI {b x:Nat} (h:x<b):okb b [x]:=by intro y hy;simp at hy;omega
theorem iy {b:Nat} {xs:List Nat} (h:okb b xs) {i x:Nat} (hx:x<b):okb b (xs.set i x):=by
 intro y hy
 rcases List.mem_or_eq_of_mem_set hy with h1|h1
 ·exact h y h1
 ·omega
theorem qO (b:Nat) (xs ys:List Nat):vl b (xs++ys)=vl b xs+b^xs.length*vl b ys:=by
 induction xs with
 |nil=>simp[vl]
 |cons x xs ih=>simp only [List.cons_append,vl,List.length_cons,ih,Nat.pow_succ,Nat.mul_add];rw[Nat.mul_comm (b^xs.length) b,Nat.mul_assoc,Nat.add_assoc]
theorem jN (b:Nat) (xs:List Nat) (x:Nat):vl b (xs++[x])=vl b xs+x*b^xs.length:=by
 rw[qO];simp[vl,Nat.mul_comm]
theorem ie {b:Nat} {xs:List Nat} (h:okb b xs):vl b xs<b^xs.length:=by
 induction xs with
 |nil=>simp[vl]
 |cons x xs ih=>
  have h1:x<b:=h x (by simp)
  have h2:=ih (fun y hy=>h y (by simp[hy]))
  simp only [vl,List.length_cons,Nat.pow_succ]
  have:b*(vl b xs+1)<=b*b^xs.length:=Nat.mul_le_mul_left b h2
  rw[Nat.mul_comm (b^xs.length) b]
  rw[Nat.mul_add] at this
  omega
theorem bI (b:Nat) (xs:List Nat) (k:Nat):vl b (xs.take (k+1))=vl b (xs.take k)+lg xs k*b^k:=by
 by_cases h:k<xs.length
 ·rw[my h,jN];simp[Nat.min_eq_left (Nat.le_of_lt h)]
 ·rw[List.take_of_length_le (by omega),List.take_of_length_le (by omega),eS (by omega)];simp
theorem cd {b:Nat} {xs:List Nat} {k:Nat} (h:xs.length<=k):vl b (xs.take k)=vl b xs:=by rw[List.take_of_length_le h]
theorem mY (b:Nat) (xs:List Nat) {k:Nat} (h:k<=xs.length):vl b xs=vl b (xs.take k)+b^k*vl b (xs.drop k):=by
 have:=qO b (xs.take k) (xs.drop k)
 rw[List.take_append_drop] at this
 rw[this];simp[Nat.min_eq_left h]
theorem BJ {b:Nat} {xs:List Nat} (ho:okb b xs) (k:Nat) (hb:0<b):vl b (xs.take k)=vl b xs%b^k:=by
 by_cases h:k<=xs.length
 ·rw[mY b xs h,Nat.add_mul_mod_self_left]
  have:=ie (jG ho k)
  simp[Nat.min_eq_left h] at this
  exact(Nat.mod_eq_of_lt this).symm
 ·rw[List.take_of_length_le (by omega)]
  have h1:=ie ho
  have h2:b^xs.length<=b^k:=Nat.pow_le_pow_right hb (by omega)
  exact(Nat.mod_eq_of_lt (by omega)).symm
theorem vZ {b:Nat} {xs:List Nat} (ho:okb b xs) (k:Nat) (hb:0<b):vl b (xs.drop k)=vl b xs/b^k:=by
 by_cases h:k<=xs.length
 ·rw[mY b xs h,Nat.add_mul_div_left _ _ (Nat.pow_pos hb)]
  have:=ie (jG ho k)
  simp[Nat.min_eq_left h] at this
  rw[Nat.div_eq_of_lt this];simp
 ·rw[List.drop_eq_nil_of_le (by omega)]
  have h1:=ie ho
  have h2:b^xs.length<=b^k:=Nat.pow_le_pow_right hb (by omega)
  rw[Nat.div_eq_of_lt (by omega)];rfl
theorem uD {b:Nat} {xs:List Nat} (ho:okb b xs) (hb:0<b) (i:Nat):lg xs i=vl b xs/b^i%b:=by
 rw[<-vZ ho i hb]
 have:lg xs i=lg (xs.drop i) 0:=by rw[fZ];simp
 rw[this]
 have h2:=zA ho i
 cases hd:xs.drop i with
 |nil=>simp[lg,vl]
 |cons y ys=>rw[hd] at h2;simp only [qZ,vl];rw[Nat.add_mul_mod_self_left];exact(Nat.mod_eq_of_lt (h2 y (by simp))).symm
theorem gf (b:Nat):dg b 0=[]:=by unfold dg;simp
theorem lv {b n:Nat} (hb:2<=b) (hn:0<n):dg b n=n%b::dg b (n/b):=by
 rw[dg];rw[dif_neg (by omega)]
theorem cG {b:Nat} (hb:2<=b) (n:Nat):okb b (dg b n):=by
 induction n using Nat.strongRecOn with
 |_ n ih=>
  by_cases h:n=0
  ·subst h;rw[gf];exact mn b
  ·rw[lv hb (by omega)]
   intro x hx
   rcases List.mem_cons.1 hx with h1|h1
   ·subst h1;exact Nat.mod_lt _ (by omega)
   ·exact ih _ (Nat.div_lt_self (by omega) (by omega)) x h1
theorem cF {b:Nat} (hb:2<=b) (n:Nat):vl b (dg b n)=n:=by
 induction n using Nat.strongRecOn with
 |_ n ih=>
  by_cases h:n=0
  ·subst h;rw[gf];rfl
  ·rw[lv hb (by omega)]
   simp only [vl]
   rw[ih _ (Nat.div_lt_self (by omega) (by omega))]
   have:=Nat.div_add_mod n b
   omega
theorem BX {b:Nat} (hb:2<=b) (n:Nat):norm (dg b n):=by
 induction n using Nat.strongRecOn with
 |_ n ih=>
  by_cases h:n=0
  ·subst h;rw[gf];intro h;simp at h
  ·rw[lv hb (by omega)]
   intro _
   have hi:=ih _ (Nat.div_lt_self (by omega) (show 1<b by omega))
   by_cases hz:n/b=0
   ·rw[hz,gf];simp only [List.length_cons,List.length_nil]
    have:=Nat.div_add_mod n b
    rw[hz] at this
    show n%b≠0
    simp at this
    omega
   ·have hp:0<(dg b (n/b)).length :=by rw[lv hb (Nat.pos_of_ne_zero hz)];simp
    have:=hi hp
    simp only [List.length_cons,Nat.add_sub_cancel]
    have e:(dg b (n/b)).length =(dg b (n/b)).length - 1+1:=by omega
    rw[e,mT]
    exact this
theorem En {x:Nat} {xs:List Nat} (h:norm (x::xs)):norm xs:=by
 intro hp
 have:=h (by simp)
 simp only [List.length_cons,Nat.add_sub_cancel] at this
 have e:xs.length=xs.length-1+1:=by omega
 rw[e,mT] at this
 exact this
theorem lH {b:Nat} (hb:2<=b) {xs:List Nat} (ho:okb b xs) (hn:norm xs):dg b (vl b xs)=xs:=by
 induction xs with
 |nil=>simp[vl,gf]
 |cons x xs ih=>
  have ih:=ih (fun y hy=>ho y (by simp[hy])) (En hn)
  have hx:x<b:=ho x (by simp)
  have hpos:0<vl b (x::xs):=by
   simp only [vl]
   by_cases h0:vl b xs=0
   ·have e:xs=[]:=by rw[<-ih,h0,gf]
    subst e
    have:=hn (by simp)
    simp only [List.length_cons,List.length_nil] at this
    have h2:x≠0:=this
    omega
   ·have:0<b*vl b xs:=Nat.mul_pos (by omega) (by omega)
    omega
  rw[lv hb hpos]
  simp only [vl]
  rw[Nat.add_mul_mod_self_left,Nat.mod_eq_of_lt hx,Nat.add_mul_div_left _ _ (by omega),Nat.div_eq_of_lt hx,Nat.zero_add,ih]
theorem fT {b:Nat} (hb:2<=b) {n k:Nat} (h:n<b^k):dl b n<=k:=by
 unfold dl
 by_cases hp:(dg b n).length <=k
 ·exact hp
 ·exfalso
  have h1:=BX hb n (by omega)
  have h2:=mY b (dg b n) (k:=(dg b n).length - 1) (by omega)
  have e:(dg b n).drop ((dg b n).length - 1)=[lg (dg b n) ((dg b n).length - 1)]:=by
   apply uW
   ·simp;omega
   ·intro i hi;simp at hi;rw[fZ];obtain rfl:i=0:=by omega
    rfl
  rw[e,cF hb] at h2
  simp only [vl,Nat.mul_zero,Nat.add_zero] at h2
  have h3:b^k<=b^((dg b n).length - 1):=Nat.pow_le_pow_right (by omega) (by omega)
  have h4:b^((dg b n).length - 1)*1<=b^((dg b n).length - 1)*lg (dg b n) ((dg b n).length - 1):=Nat.mul_le_mul_left _ (by omega)
  omega
theorem jx {b:Nat} (hb:2<=b) (n:Nat):n<b^dl b n:=by
 have:=ie (cG hb n);rwa[cF hb] at this
theorem gb (b:Nat):dl b 0=0:=by unfold dl;rw[gf];rfl
theorem eU {b n:Nat} (hb:2<=b) (h:0<n):0<dl b n:=by unfold dl;rw[lv hb h];simp
theorem C8 {b n:Nat} (hb:2<=b) (h:dl b n=0):n=0:=by
 by_cases h0:n=0
 ·exact h0
 ·have:=eU hb (show 0<n by omega);omega
theorem rG {b n:Nat} (hb:2<=b) (h:0<n):b^(dl b n-1)<=n:=by
 by_cases hc:b^(dl b n-1)<=n
 ·exact hc
 ·have h1:=fT hb (k:=dl b n-1) (n:=n) (by omega)
  have:=eU hb h
  omega
theorem jq {b m n:Nat} (hb:2<=b) (h:m<=n):dl b m<=dl b n:=fT hb (Nat.lt_of_le_of_lt h (jx hb n))
theorem xI {b:Nat} (hb:2<=b) (n i:Nat):lg (dg b n) i=n/b^i%b:=by
 rw[uD (cG hb n) (by omega),cF hb]
theorem wA {b:Nat} (hb:2<=b) {xs:List Nat} (ho:okb b xs) {n:Nat} (hn:n<=xs.length) (h0:0<n->lg xs (n-1)≠0) (hz:∀i,n<=i->lg xs i=0):
 xs.take n=dg b (vl b xs)/\n=dl b (vl b xs):=by
 have hl:(xs.take n).length =n:=by simp[Nat.min_eq_left hn]
 have hv:vl b (xs.take n)=vl b xs:=by
  rw[mY b xs hn]
  have:vl b (xs.drop n)=0:=by
   have hall:∀(ys:List Nat),(∀i,lg ys i=0)->vl b ys=0:=by
    intro ys
    induction ys with
    |nil=>intro _;rfl
    |cons y ys ih=>intro h;simp only [vl];rw[ih (fun i=>by rw[<-mT y ys i];exact h _)];have h0:=h 0;rw[qZ] at h0;simp[h0]
   exact hall _ (fun i=>by rw[fZ];exact hz _ (by omega))
  rw[this];simp
 have hnm:norm (xs.take n):=by
  intro hp;rw[hl] at hp ⊢;rw[rQ (by omega)];exact h0 hp
 have:=lH hb (jG ho n) hnm
 rw[hv] at this
 exact⟨this.symm,by unfold dl;rw[this,hl]⟩
theorem aB (b n:Nat):(dg b n).length =dl b n:=rfl
theorem cE {b:Nat} (hb:2<=b) {xs:List Nat} (ho:okb b xs):dl b (vl b xs)<=xs.length:=fT hb (ie ho)
theorem xw {zs:List Nat} {k:Nat} (v:Nat) (h:k<zs.length):(zs.set k v).take (k+1)=zs.take k++[v]:=by
 rw[my (by simpa using h),lr v h,List.take_set_of_le (Nat.le_refl k)]
theorem kZ (b:Nat) {zs:List Nat} {k:Nat} (v:Nat) (h:k<zs.length):vl b ((zs.set k v).take (k+1))=vl b (zs.take k)+v*b^k:=by
 rw[xw v h,jN];simp[Nat.min_eq_left (Nat.le_of_lt h)]
theorem jt (b p t:Nat):t%b*p+t/b*(p*b)=t*p:=by
 have h:=Nat.div_add_mod t b
 have e:t*p=(b*(t/b)+t%b)*p:=by rw[h]
 rw[e,Nat.add_mul,Nat.add_comm]
 congr 1
 rw[Nat.mul_comm p b,<-Nat.mul_assoc,Nat.mul_comm (t/b) b]
theorem yW {b k c x y P Q Z:Nat} (h:Z+c*b^k=P+Q):
 Z+(x+y+c)%b*b^k+(x+y+c)/b*b^(k+1)=(P+x*b^k)+(Q+y*b^k):=by
 rw[Nat.pow_succ,Nat.add_assoc,jt,Nat.add_mul,Nat.add_mul];omega
theorem iM (b:Nat) (xs:List Nat) (k:Nat):vl b xs=vl b (xs.take k)+b^k*vl b (xs.drop k):=by
 by_cases h:k<=xs.length
 ·exact mY b xs h
 ·rw[List.take_of_length_le (by omega),List.drop_eq_nil_of_le (by omega)];simp[vl]
theorem lY {b:Nat} {xs:List Nat} (ho:okb b xs) (hb:0<b) (k:Nat):vl b (xs.take k)<b^k:=by
 rw[BJ ho k hb];exact Nat.mod_lt _ (Nat.pow_pos hb)
theorem fQ (b:Nat) (xs:List Nat) (i:Nat):vl b (xs.drop i)=lg xs i+b*vl b (xs.drop (i+1)):=by
 by_cases h:i<xs.length
 ·rw[List.drop_eq_getElem_cons h,jY h];rfl
 ·rw[List.drop_eq_nil_of_le (by omega),List.drop_eq_nil_of_le (by omega),eS (by omega)];simp[vl]
theorem xz (b:Nat) {xs ys:List Nat} (k:Nat) (h:∀j,j<k->lg xs j=lg ys j):vl b (xs.take k)=vl b (ys.take k):=by
 induction k with
 |zero=>simp
 |succ k ih=>rw[bI,bI,ih (fun j hj=>h j (by omega)),h k (by omega)]
theorem jd (b:Nat) {xs ys:List Nat} (h:∀j,lg xs j=lg ys j):vl b xs=vl b ys:=by
 rw[<-cd (b:=b) (xs:=xs) (k:=xs.length+ys.length) (by omega),<-cd (b:=b) (xs:=ys) (k:=xs.length+ys.length) (by omega)]
 exact xz b _ (fun j _=>h j)
theorem nD {b:Nat} {xs ys:List Nat} {i:Nat} (ox:okb b xs) (hb:0<b) (hi:lg xs i<lg ys i) (ha:∀j,i<j->lg xs j=lg ys j):vl b xs<vl b ys:=by
 rw[iM b xs i,iM b ys i]
 have h1:=lY ox hb i
 have h2:vl b (xs.drop (i+1))=vl b (ys.drop (i+1)):=jd b (fun j=>by rw[fZ,fZ];exact ha _ (by omega))
 have h3:vl b (xs.drop i)+1<=vl b (ys.drop i):=by rw[fQ b xs,fQ b ys,h2];omega
 have h4:=Nat.mul_le_mul_left (b^i) h3
 rw[Nat.mul_add] at h4
 omega
theorem pD {b m n:Nat} (hb:2<=b) (h:dl b m<dl b n):m<n:=by
 by_cases hc:m<n
 ·exact hc
 ·have:=jq hb (show n<=m by omega);omega
def c3 (m n:Nat):Int:=if m<n then -1 else if n<m then 1 else 0
theorem lU {m n:Nat} (h:m<n):c3 m n= -1:=by unfold c3;rw[if_pos h]
theorem nc {m n:Nat} (h:n<m):c3 m n=1:=by unfold c3;rw[if_neg (by omega),if_pos h]
theorem xJ {m n:Nat} (h:m=n):c3 m n=0:=by unfold c3;rw[if_neg (by omega),if_neg (by omega)]
theorem Kx {b n k:Nat} (hb:2<=b) (h1:b^k<=n) (h2:n<b^(k+1)):dl b n=k+1:=by
 have h3:=fT hb h2
 by_cases hc:dl b n<=k
 ·have h4:=jx hb n
  have h5:b^dl b n<=b^k:=Nat.pow_le_pow_right (by omega) hc
  omega
 ·omega
theorem Nl {k top r:Nat} (ht:0<top) (hr:r<2^k):dl 2 (r+top*2^k)=k+dl 2 top:=by
 have h1:=jx (b:=2) (by omega) top
 have h2:=rG (b:=2) (by omega) ht
 have h3:=eU (b:=2) (by omega) ht
 obtain⟨m,hm⟩:∃m,dl 2 top=m+1:=⟨dl 2 top-1,by omega⟩
 rw[hm] at h1 h2 ⊢
 simp only [Nat.add_sub_cancel] at h2
 have e:k+(m+1)=(k+m)+1:=by omega
 rw[e]
 apply Kx (by omega)
 ·have:=Nat.mul_le_mul_right (2^k) h2
  rw[<-Nat.pow_add,Nat.add_comm m k] at this
  omega
 ·have:=Nat.mul_le_mul_right (2^k) (show top+1<=2^(m+1) by omega)
  rw[<-Nat.pow_add,Nat.add_mul] at this
  have e2:k+m+1=m+1+k:=by omega
  rw[e2]
  omega
theorem lD {b n:Nat} (hb:2<=b) (h:0<dl b n):n=n%b^(dl b n-1)+lg (dg b n) (dl b n-1)*b^(dl b n-1)/\0<lg (dg b n) (dl b n-1):=by
 refine⟨?_,?_⟩
 ·have e:dl b n-1+1=dl b n:=by omega
  have h1:=bI b (dg b n) (dl b n-1)
  rw[e,cd (by rw[aB];omega),cF hb,BJ (cG hb n) _ (by omega),cF hb] at h1
  exact h1
 ·have:=BX hb n h
  rw[aB] at this
  omega
theorem ow (b:Nat) {xs:List Nat} {i:Nat} (v:Nat) (h:i<xs.length):vl b (xs.set i v)+lg xs i*b^i=vl b xs+v*b^i:=by
 have h1:vl b (xs.set i v)=vl b ((xs.set i v).take (i+1))+b^(i+1)*vl b ((xs.set i v).drop (i+1)):=iM b _ _
 have h2:vl b xs=vl b (xs.take (i+1))+b^(i+1)*vl b (xs.drop (i+1)):=iM b _ _
 rw[kZ b v h] at h1
 rw[bI] at h2
 have h3:vl b ((xs.set i v).drop (i+1))=vl b (xs.drop (i+1)):=jd b (fun j=>by rw[fZ,fZ,eF v (by omega)])
 rw[h3] at h1
 omega
theorem Jk {N m:Nat} (h0:0<m) (h1:32*(m-1)<dl 2 N) (h2:dl 2 N<=32*m):dl 4294967296 N=m:=by
 have hp:0<N:=by
  by_cases h:N=0
  ·subst h;rw[gb] at h1;omega
  ·omega
 obtain⟨j,rfl⟩:∃j,m=j+1:=⟨m-1,by omega⟩
 have e:∀t,(4294967296:Nat)^t=2^(32*t):=fun t=>by rw[Nat.pow_mul]
 apply Kx (by omega)
 ·rw[e]
  exact Nat.le_trans (Nat.pow_le_pow_right (by omega) (by simp only [Nat.add_sub_cancel] at h1;omega)) (rG (by omega) hp)
 ·rw[e]
  exact Nat.lt_of_lt_of_le (jx (by omega) N) (Nat.pow_le_pow_right (by omega) h2)
theorem BE {b:Nat} (hb:2<=b) {xs:List Nat} (ho:okb b xs):xs.take (dl b (vl b xs))=dg b (vl b xs):=by
 have hle:=cE hb ho
 have h1:(xs.take (dl b (vl b xs))).length =dl b (vl b xs):=by simp[Nat.min_eq_left hle]
 apply uW h1
 intro i hi
 rw[h1] at hi
 rw[rQ hi,uD ho (by omega),xI hb]
theorem zX {b k c x y P Q Z r c':Nat} (h:Z+Q=P+c*b^k) (hr:r+y+c=x+c'*b):
 (Z+r*b^k)+(Q+y*b^k)=(P+x*b^k)+c'*b^(k+1):=by
 have e:(r+y+c)*b^k=(x+c'*b)*b^k:=by rw[hr]
 rw[Nat.add_mul,Nat.add_mul,Nat.add_mul] at e
 have e2:c'*b*b^k=c'*b^(k+1):=by rw[Nat.pow_succ,Nat.mul_assoc,Nat.mul_comm b]
 omega
end
section
def B32:Nat:=4294967296
theorem dw:B32=4294967296:=rfl
theorem aU:2<=B32:=by decide
theorem bi:0<B32:=by decide
def cl (k:IntKind) (xs:List Nat):List Value:=xs.map (fun n=>Value.int k (n:Nat))
theorem cQ (k:IntKind) (xs:List Nat):(cl k xs).length =xs.length:=by simp[cl]
theorem mw {k:IntKind} {xs:List Nat} {i:Nat} (h:i<xs.length):(cl k xs)[i]?=some (.int k (lg xs i:Nat)):=by
 simp[cl,jY h,h]
theorem vV (k:IntKind) (xs:List Nat) (x:Nat):cl k (xs++[x])=cl k xs++[.int k (x:Nat)]:=by simp[cl]
theorem EG (k:IntKind) (xs ys:List Nat):cl k (xs++ys)=cl k xs++cl k ys:=by simp[cl]
theorem Ej (k:IntKind) (xs:List Nat) (i x:Nat):cl k (xs.set i x)=(cl k xs).set i (.int k (x:Nat)):=by simp[cl,List.map_set]
theorem xV (k:IntKind) (n x:Nat):cl k (List.replicate n x)=List.replicate n (.int k (x:Nat)):=by simp[cl]
theorem Fb {k:IntKind} {xs:List Nat}:∀u∈cl k xs,u.oneCell'=true:=by
 intro u hu;simp[cl] at hu;obtain⟨n,_,rfl⟩:=hu;rfl
structure Rd (w:World) (k:IntKind) (ad:Option Addr) (xs:List Nat):Prop where
 cell:∀i,i<xs.length->∃b off,ad=some ⟨b,off,none⟩/\b<w.heap.size/\w.cell? ⟨b,off+i,none⟩=some (.int k (lg xs i:Nat))
theorem Rd.nil (w:World) (k:IntKind) (ad:Option Addr):Rd w k ad []:=⟨fun i h=>absurd h (by simp)⟩
theorem Rd.get {w:World} {k:IntKind} {ad:Option Addr} {xs:List Nat} (h:Rd w k ad xs) (hp:0<xs.length):
 ∃b off,ad=some ⟨b,off,none⟩/\b<w.heap.size/\∀i,i<xs.length->w.cell? ⟨b,off+i,none⟩=some (.int k (lg xs i:Nat)):=by
 obtain⟨b,off,ha,hb,_⟩:=h.cell 0 hp
 refine⟨b,off,ha,hb,fun i hi=>?_⟩
 obtain⟨b',off',ha',_,hc⟩:=h.cell i hi
 rw[ha] at ha'
 injection ha' with e
 injection e with e1 e2
 subst e1;subst e2
 exact hc
theorem Rd.below {w w':World} {k:IntKind} {ad:Option Addr} {xs:List Nat} (h:Rd w k ad xs) (hb:Below w.heap.size w w'):Rd w' k ad xs:=by
 refine⟨fun i hi=>?_⟩
 obtain⟨b,off,ha,hlt,hc⟩:=h.cell i hi
 exact⟨b,off,ha,Nat.lt_of_lt_of_le hlt hb.size,by rw[hb.cell (p:=⟨b,off+i,none⟩) hlt];exact hc⟩
theorem Rd.take {w:World} {k:IntKind} {ad:Option Addr} {xs:List Nat} (h:Rd w k ad xs) (n:Nat):Rd w k ad (xs.take n):=by
 refine⟨fun i hi=>?_⟩
 simp at hi
 obtain⟨b,off,ha,hlt,hc⟩:=h.cell i (by omega)
 exact⟨b,off,ha,hlt,by rw[rQ (by omega)];exact hc⟩
theorem Ol {xs:List Nat} (ho:okb B32 xs):xs.take (dl B32 (vl B32 xs))=dg B32 (vl B32 xs):=by
 have hle:=cE aU ho
 have hv:vl B32 xs=vl B32 (dg B32 (vl B32 xs)):=(cF aU _).symm
 have h1:(xs.take (dl B32 (vl B32 xs))).length =dl B32 (vl B32 xs):=by simp[Nat.min_eq_left hle]
 apply uW h1
 intro i hi
 rw[h1] at hi
 rw[rQ hi,uD ho bi,xI aU]
theorem Rd.dg {w:World} {k:IntKind} {ad:Option Addr} {xs:List Nat} (h:Rd w k ad xs) (ho:okb B32 xs):Rd w k ad (dg B32 (vl B32 xs)):=by
 rw[<-Ol ho];exact h.take _
def Sq (w:World) (k:IntKind) (v:Value) (xs:List Nat):Prop:=
 ∃ad cap,v= .slice ad xs.length cap/\Rd w k ad xs/\xs.length<=cap/\cap<=maxLen/\xs.length<=1099511627776/\(ad=none->cap=0)
theorem Sq.below {w w':World} {k:IntKind} {v:Value} {xs:List Nat} (h:Sq w k v xs) (hb:Below w.heap.size w w'):Sq w' k v xs:=by
 obtain⟨ad,cap,h1,h2,h3⟩:=h
 exact⟨ad,cap,h1,h2.below hb,h3⟩
def Dg (w:World) (k:IntKind) (b:Nat) (v:Value) (n:Nat):Prop:=Sq w k v (dg b n)
def Nt (w:World) (v:Value) (n:Nat):Prop:=∃xs,okb B32 xs/\vl B32 xs=n/\Sq w .u32 v xs
theorem Dg.below {w w':World} {k:IntKind} {b:Nat} {v:Value} {n:Nat} (h:Dg w k b v n) (hb:Below w.heap.size w w'):Dg w' k b v n:=Sq.below h hb
theorem Nt.below {w w':World} {v:Value} {n:Nat} (h:Nt w v n) (hb:Below w.heap.size w w'):Nt w' v n:=by
 obtain⟨xs,h1,h2,h3⟩:=h
 exact⟨xs,h1,h2,h3.below hb⟩
theorem Dg.nt {w:World} {v:Value} {n:Nat} (h:Dg w .u32 B32 v n):Nt w v n:=⟨dg B32 n,cG aU n,cF aU n,h⟩
theorem Dg.zero (w:World) (k:IntKind) (b:Nat) (ad:Option Addr) {cap:Nat} (hc:cap<=maxLen) (hn:ad=none->cap=0):Dg w k b (.slice ad 0 cap) 0:=by
 unfold Dg;rw[gf]
 exact⟨ad,cap,rfl,Rd.nil _ _ _,Nat.zero_le _,hc,by simp,hn⟩
structure Row (w:World) (k:IntKind) (T base g cap:Nat) (xs:List Nat):Prop where
 own:w.ownsRow base T 1 (.slice (some ⟨g,0,none⟩) xs.length cap) xs.length (cl k xs)
theorem Row.parts {w:World} {k:IntKind} {T base g cap:Nat} {xs:List Nat} (h:Row w k T base g cap xs):
 base<=g/\g<w.heap.size/\xs.length<=cap/\cap<=maxLen:=by
 rcases h.own.2 with⟨h',_⟩|⟨g',cap',cur,h',hb,hg,hnc,hcm,_⟩
 ·simp at h'
 ·simp only [Value.slice.injEq,Option.some.injEq,Addr.mk.injEq,and_true,true_and] at h'
  obtain⟨rfl,rfl⟩:=h'
  exact⟨hb,(Array.getElem?_eq_some_iff.1 hg).1,hnc,hcm⟩
theorem Row.cell {w:World} {k:IntKind} {T base g cap:Nat} {xs:List Nat} (h:Row w k T base g cap xs) {j:Nat} (hj:j<xs.length):
 w.cell? ⟨g,j,none⟩=some (.int k (lg xs j:Nat)):=by
 rw[h.own.cellAt j (by omega),mw hj]
theorem Row.free {w:World} {k:IntKind} {T base g cap:Nat} {xs:List Nat} (h:Row w k T base g cap xs) (j:Nat):w.frozen? ⟨g,j,none⟩=false:=h.own.frozenAt j
theorem Row.rd {w:World} {k:IntKind} {T base g cap:Nat} {xs:List Nat} (h:Row w k T base g cap xs):Rd w k (some ⟨g,0,none⟩) xs:=
 ⟨fun i hi=>⟨g,0,rfl,h.parts.2.1,by rw[Nat.zero_add];exact h.cell hi⟩⟩
theorem Row.sq {w:World} {k:IntKind} {T base g cap:Nat} {xs:List Nat} (h:Row w k T base g cap xs) (hl:xs.length<=1099511627776):Sq w k (.slice (some ⟨g,0,none⟩) xs.length cap) xs:=
 ⟨_,cap,rfl,h.rd,h.parts.2.2.1,h.parts.2.2.2,hl,fun h=>by simp at h⟩
theorem Row.set {w:World} {k:IntKind} {T base g cap:Nat} {xs:List Nat} (h:Row w k T base g cap xs) (j x:Nat):
 Row (w.setCell ⟨g,j,none⟩ (.int k (x:Nat))) k T base g cap (xs.set j x):=by
 have:=(h.own.stored j (.int k (x:Nat))).1
 refine⟨?_⟩
 rw[Ej,List.length_set]
 exact this
theorem Row.of_block {w w':World} {k:IntKind} {T base g cap:Nat} {xs:List Nat} (h:Row w k T base g cap xs) (hb:w'.heap[g]?=w.heap[g]?):Row w' k T base g cap xs:=by
 refine⟨h.own.1,?_⟩
 rcases h.own.2 with⟨h',_⟩|⟨g',cap',cur,h',h3,hg,r⟩
 ·simp at h'
 ·have h'':=h'
  simp only [Value.slice.injEq,Option.some.injEq,Addr.mk.injEq,and_true,true_and] at h''
  obtain⟨rfl,rfl⟩:=h''
  exact .inr ⟨g,cap,cur,rfl,h3,by rw[hb];exact hg,r⟩
theorem Row.below {w w':World} {k:IntKind} {T base g cap:Nat} {xs:List Nat} (h:Row w k T base g cap xs) (hb:Below w.heap.size w w'):Row w' k T base g cap xs:=
 h.of_block (hb.block g h.parts.2.1)
theorem Row.rebase {w:World} {k:IntKind} {T base base' g cap:Nat} {xs:List Nat} (h:Row w k T base g cap xs) (hb:base'<=g):Row w k T base' g cap xs:=by
 refine⟨h.own.1,?_⟩
 rcases h.own.2 with⟨h',_⟩|⟨g',cap',cur,h',h3,hg,r⟩
 ·simp at h'
 ·have h'':=h'
  simp only [Value.slice.injEq,Option.some.injEq,Addr.mk.injEq,and_true,true_and] at h''
  obtain⟨rfl,rfl⟩:=h''
  exact .inr ⟨g,cap,cur,rfl,hb,hg,r⟩
theorem Row.drew {w:World} {k:IntKind} {T base g cap:Nat} {xs:List Nat} (h:Row w k T base g cap xs):Row w.drew k T base g cap xs:=⟨h.own⟩
theorem Rd.drew {w:World} {k:IntKind} {ad:Option Addr} {xs:List Nat} (h:Rd w k ad xs):Rd w.drew k ad xs:=⟨h.cell⟩
theorem Rd.setCell {w:World} {k:IntKind} {ad:Option Addr} {xs:List Nat} (h:Rd w k ad xs) {p:Addr} (u:Value) (hne:∀b off,ad=some ⟨b,off,none⟩->0<xs.length->b≠p.block):Rd (w.setCell p u) k ad xs:=by
 refine⟨fun i hi=>?_⟩
 obtain⟨b,off,ha,hlt,hc⟩:=h.cell i hi
 have hn:=hne b off ha (by omega)
 exact⟨b,off,ha,by simpa[World.setCell] using hlt,by rw[World.cell?_setCell_other _ _ _ _ (by intro e;exact hn (by rw[e]))];exact hc⟩
theorem Row.of_made {w:World} {k:IntKind} {T base g n:Nat} (h:w.ownsRow base T 1 (.slice (some ⟨g,0,none⟩) n n) n (madeCells #[Value.int k 0] n).toList):
 Row w k T base g n (List.replicate n 0):=by
 refine⟨?_⟩
 rw[xV,List.length_replicate]
 rw[toList_madeCells_one] at h
 exact h
theorem fX {b:Nat} (hb:0<b) (n:Nat):okb b (List.replicate n 0):=by
 intro x hx;rw[List.mem_replicate] at hx;omega
theorem iK {W w1:World} {B:Nat} (hb:Below B W w1):(∀b o,b<B->w1.cell? ⟨b,o,none⟩=W.cell? ⟨b,o,none⟩)/\(∀b o,b<B->w1.frozen? ⟨b,o,none⟩=W.frozen? ⟨b,o,none⟩):=
 ⟨fun b o h=>hb.cell (p:=⟨b,o,none⟩) h,fun b o h=>hb.frozen (p:=⟨b,o,none⟩) h⟩
structure Acc (w:World) (k:IntKind) (T base:Nat) (v:Value) (xs:List Nat):Prop where
 own:w.ownsRow base T 1 v xs.length (cl k xs)
theorem Acc.shape {w:World} {k:IntKind} {T base:Nat} {v:Value} {xs:List Nat} (h:Acc w k T base v xs):
 (v= .slice none 0 0/\xs=[])\/∃g cap,v= .slice (some ⟨g,0,none⟩) xs.length cap/\Row w k T base g cap xs:=by
 rcases h.own.2 with⟨h1,h2⟩|⟨g,cap,cur,h1,r⟩
 ·exact .inl ⟨h1,List.length_eq_zero_iff.1 h2⟩
 ·exact .inr ⟨g,cap,h1,⟨by rw[<-h1];exact h.own⟩⟩
theorem Row.acc {w:World} {k:IntKind} {T base g cap:Nat} {xs:List Nat} (h:Row w k T base g cap xs):Acc w k T base (.slice (some ⟨g,0,none⟩) xs.length cap) xs:=⟨h.own⟩
theorem Acc.sq {w:World} {k:IntKind} {T base:Nat} {v:Value} {xs:List Nat} (h:Acc w k T base v xs) (hl:xs.length<=1099511627776):Sq w k v xs:=by
 rcases h.shape with⟨rfl,rfl⟩|⟨g,cap,rfl,hr⟩
 ·exact⟨none,0,rfl,Rd.nil _ _ _,Nat.le_refl _,by unfold maxLen;omega,by simp,fun _=>rfl⟩
 ·exact hr.sq hl
theorem Acc.below {w w':World} {k:IntKind} {T base:Nat} {v:Value} {xs:List Nat} (h:Acc w k T base v xs) (hb:Below w.heap.size w w'):Acc w' k T base v xs:=by
 rcases h.shape with⟨rfl,rfl⟩|⟨g,cap,rfl,hr⟩
 ·exact⟨World.ownsRow_nil _ _ _ _⟩
 ·exact(hr.below hb).acc
theorem Acc.empty (w:World) (k:IntKind) (T base:Nat) (hb:base<=w.heap.size):Acc (w.alloc (.cells #[] T)) k T base (.slice (some ⟨w.heap.size,0,none⟩) 0 0) []:=
 ⟨World.ownsRow_lit w #[] 0 hb (by unfold maxLen;omega) (by simp)⟩
def wm (w:World) (k:IntKind) (T:Nat) (xs:List Nat) (e:Ending) (w':World):Prop:=∃v,e= .returned v/\Acc w' k T w.heap.size v xs/\Below w.heap.size w w'
theorem ir {P:Program} (w:World) {ops:Array Oper} {rest:List Oper} {o:Oper} {a:Act} {Q:Exit->Act->World->Prop} (hg:o.guard=none) (s x:Operand) (t:TypeId)
 (ho:o.op= .call {callee:= .builtin .append,args:=#[s,x],argTypes:=#[t,t]})
 (k:IntKind) (T:TypeId) (i:TypeInfo) (bytes:Nat) (ht:P.underlying t=some (.slice T)) (hi:P.info? T=some i) (hz:i.zero=some (.int k 0)) (hs1:i.size=1) (hby:i.bytes=bytes) (hbb:bytes<=8)
 (base:Nat) (v:Value) (xs:List Nat) (hacc:Acc w k T base v xs) (hs:a.eval s=v) (z:Int) (n:Nat) (hzn:z=(n:Nat)) (hx:a.eval x= .slice (some ⟨w.heap.size,0,none⟩) 1 1)
 (hl:xs.length<=2199023255552) (hbase:base<=w.heap.size)
 (h:∀v' w',Acc w' k T base v' (xs++[n])->Below base w w'->wpList P ops Q rest (a.put o.dst v') w'):wpList P ops Q (o::rest) a (w.alloc (.cells #[.int k z] T)):=by
 subst hzn
 refine wpList_append_own (w.alloc (.cells #[.int k (n:Nat)] T)) hg s x t ho base T i (.int k 0) 1 bytes ht hi hz hs1 hby rfl (by decide) v xs.length (cl k xs) hs (hacc.own.alloc _) ⟨w.heap.size,0,none⟩ 1 1 [.int k (n:Nat)] hx rfl ?_ ?_ ?_ ?_ ?_ ?_
 ·intro j u hj
  match j,hj with
  |0,hj=>simp at hj;subst hj;simp[Addr.add]
 ·intro u hu;simp at hu;subst hu;rfl
 ·unfold maxLen;omega
 ·have:(xs.length+1)*bytes<=(xs.length+1)*8:=Nat.mul_le_mul_left _ hbb
  omega
 ·simp;omega
 ·intro v' w' h1 h2 _
  refine h v' w' ⟨?_⟩ ?_
  ·rw[vV,List.length_append];exact h1
  ·exact((Below.refl base w).alloc hbase _).grown h2 (by simp;omega) (fun k' hk=>(hacc.own.lt k' hk).1)
theorem sD {P:Program} (w:World) {ops:Array Oper} {rest:List Oper} {o:Oper} {a:Act} {Q:Exit->Act->World->Prop} (hg:o.guard=none) (s x:Operand) (t:TypeId)
 (ho:o.op= .call {callee:= .builtin .append,args:=#[s,x],argTypes:=#[t,t]})
 (k:IntKind) (T:TypeId) (i:TypeInfo) (bytes:Nat) (ht:P.underlying t=some (.slice T)) (hi:P.info? T=some i) (hz:i.zero=some (.int k 0)) (hs1:i.size=1) (hby:i.bytes=bytes) (hbb:bytes<=8)
 (base:Nat) (v:Value) (xs:List Nat) (hacc:Acc w k T base v xs) (hs:a.eval s=v) (ad:Addr) (m cap:Nat) (ys:List Nat) (hm:m=ys.length) (hx:a.eval x= .slice (some ad) m cap) (hr:Rd w k (some ad) ys)
 (hl:xs.length<=1099511627778) (hl':ys.length<=1099511627778) (hbase:base<=w.heap.size)
 (h:∀v' w',Acc w' k T base v' (xs++ys)->Below base w w'->(v'= .slice none 0 0↔v= .slice none 0 0/\m=0)->wpList P ops Q rest (a.put o.dst v') w'):wpList P ops Q (o::rest) a w:=by
 refine wpList_append_own w hg s x t ho base T i (.int k 0) 1 bytes ht hi hz hs1 hby rfl (by decide) v xs.length (cl k xs) hs hacc.own ad m cap (cl k ys) hx (by rw[cQ,hm,Nat.mul_one]) ?_ Fb ?_ ?_ hbase ?_
 ·intro j u hj
  have hjl:j<ys.length:=by
   have:=(List.getElem?_eq_some_iff.1 hj).1
   rwa[cQ] at this
  rw[mw hjl] at hj
  injection hj with hj
  subst hj
  obtain⟨b,off,ha,_,hc⟩:=hr.cell j hjl
  injection ha with ha
  subst ha
  unfold Addr.add
  by_cases h0:j=0
  ·subst h0;simpa using hc
  ·rw[if_neg h0];exact hc
 ·unfold maxLen;omega
 ·have:(xs.length+m)*bytes<=(xs.length+m)*8:=Nat.mul_le_mul_left _ hbb
  omega
 ·intro v' w' h1 h2 h3
  refine h v' w' ⟨?_⟩ ?_ h3
  ·rw[EG,List.length_append,<-hm];exact h1
  ·exact(Below.refl base w).grown h2 hbase (fun k' hk=>(hacc.own.lt k' hk).1)
theorem nC {B:Nat} {a w:World} (h:Below B a w) (n:Nat):Below B a (w.drewN n):=⟨h.os,h.tape,h.output,h.size,h.block⟩
theorem Rd.drewN {w:World} {k:IntKind} {ad:Option Addr} {xs:List Nat} (h:Rd w k ad xs) (n:Nat):Rd (w.drewN n) k ad xs:=⟨h.cell⟩
theorem Row.drewN {w:World} {k:IntKind} {T base g cap:Nat} {xs:List Nat} (h:Row w k T base g cap xs) (n:Nat):Row (w.drewN n) k T base g cap xs:=⟨h.own⟩
theorem Cq {k k':IntKind} {a b c d:Int} (h:a=b) (h':c=d):Ending.returned (.tuple #[.int k a,.int k' c])= .returned (.tuple #[.int k b,.int k' d]):=by rw[h,h']
def sx (w:World) (v:Value) (e:Ending) (w':World):Prop:=e= .returned v/\∃n,w'=w.drewN n
theorem jw {w w':World} {v:Value} {e:Ending} (h:sx w v e w'):e= .returned v/\Below w.heap.size w w'/\w'.heap.size=w.heap.size:=by
 obtain⟨h1,n,rfl⟩:=h
 exact⟨h1,nC (Below.refl _ _) n,rfl⟩
theorem dQ {k:IntKind} {a b:Int} (h:a=b):Ending.returned (.int k a)= .returned (.int k b):=by rw[h]
end
section
theorem aF {w0 w w':World} (h:Below w0.heap.size w0 w) (k:Below w.heap.size w w'):Below w0.heap.size w0 w':=h.trans (k.mono h.size)
def eO (w w':World):Prop:=∀k ad xs,Rd w k ad xs->Rd w' k ad xs
theorem eO.trans {a b c:World} (h:eO a b) (k:eO b c):eO a c:=fun _ _ _ r=>k _ _ _ (h _ _ _ r)
theorem Below.keep {w w':World} (h:Below w.heap.size w w'):eO w w':=fun _ _ _ r=>r.below h
def dD (w:World) (g:Nat):Prop:=∀j k n,w.cell? ⟨g,j,none⟩≠some (.int k n)
def dT (v:Value):Prop:=∀k n,v≠ .int k n
theorem cJ (b:Bool):dT (.bool b):=fun _ _ h=>by cases h
theorem eB (a:Option Addr) (n c:Nat):dT (.slice a n c):=fun _ _ h=>by cases h
theorem dD.box {w:World} {l:List Value} {T:TypeId} (hl:∀v∈l,dT v):dD (w.alloc (.cells l.toArray T)) w.heap.size:=by
 intro j k n h
 rw[cell_of_row _ w.heap.size j l.toArray T (0,0) (heap_alloc_new w (.cells l.toArray T))] at h
 rw[List.getElem?_toArray] at h
 exact hl _ (List.mem_of_getElem? h) k n rfl
theorem dD.below {w w':World} {g:Nat} (h:dD w g) (hg:g<w.heap.size) (hb:Below w.heap.size w w'):dD w' g:=by
 intro j k n
 rw[hb.cell (p:=⟨g,j,none⟩) hg]
 exact h j k n
theorem sR {w:World} {a:Addr} {u:Value} (h:w.cell? a=none):(w.setCell a u).cell? a=none:=by
 unfold World.cell? at*
 simp only [World.setCell,Array.getElem?_modify,↓reduceIte]
 cases hb:w.heap[a.block]? with
 |none=>rfl
 |some o=>
  rw[hb] at h
  cases o with
  |cells c e f=>
   simp only [Option.map_some] at h ⊢
   by_cases hs:a.spot.isSome
   ·simp[hs]
   ·simp only [hs] at h ⊢
    simp at h ⊢
    exact h
  |_=>rfl
theorem dD.setCell {w:World} {g:Nat} (h:dD w g) (i:Nat) {u:Value} (hu:dT u):dD (w.setCell ⟨g,i,none⟩ u) g:=by
 intro j k n hh
 by_cases e:i=j
 ·subst e
  cases hv:w.cell? ⟨g,i,none⟩ with
  |none=>rw[sR hv] at hh;cases hh
  |some v=>
   rw[World.cell?_setCell_same w ⟨g,i,none⟩ u hv] at hh
   injection hh with hh
   exact hu k n hh
 ·rw[World.cell?_setCell_other _ _ _ _ (by intro e';apply e;injection e')] at hh
  exact h j k n hh
theorem dD.keep {w:World} {g:Nat} (h:dD w g) (i:Nat) (u:Value):eO w (w.setCell ⟨g,i,none⟩ u):=by
 intro k ad xs hr
 refine hr.setCell u (fun b off ha hp=>?_)
 intro e
 obtain⟨b',off',ha',_,hc⟩:=hr.cell 0 hp
 rw[ha] at ha'
 injection ha' with e1
 injection e1 with e2 e3
 subst e2
 subst e
 exact h _ _ _ hc
theorem lM {w W0 w2:World} {g:Nat} (hw:Below w.heap.size w W0) (hg:w.heap.size<=g) (hg2:g<W0.heap.size) (hn:dD W0 g) (b3:Below W0.heap.size W0 w2) (u v:Value) (nu:dT u):
 Below w.heap.size w ((w2.setCell ⟨g,0,none⟩ u).setCell ⟨g,1,none⟩ v)/\eO w2 ((w2.setCell ⟨g,0,none⟩ u).setCell ⟨g,1,none⟩ v):=by
 have hn2:=hn.below hg2 b3
 have hb:Below w.heap.size w w2:=hw.trans (b3.mono hw.size)
 exact⟨(hb.setCell (p:=⟨g,0,none⟩) hg u).setCell (p:=⟨g,1,none⟩) hg v,(hn2.keep 0 u).trans ((hn2.setCell 0 nu).keep 1 v)⟩
end
end
section
section
variable {P:Program} {ops:Array Oper} {Q:Exit->Act->World->Prop}
def up (d:Nat->Bool) (i:Nat):Nat->Bool:=fun j=>if j=i then true else d j
theorem fV {d:Nat->Bool} {i j:Nat} (h:up d i j=true) (hne:j≠i):d j=true:=by unfold up at h;rwa[if_neg hne] at h
theorem ww (d:Nat->Bool) (i:Nat):up d i i=true:=if_pos rfl
def dc (ops:Array Oper):Bool:=(List.range ops.size).all fun i=>((ops[i]?).map (·.after.all fun e=>!Region.binds .any e || decide (e.on<i))).getD true
def gP (listed:Array Bool):Nat->Bool:=fun j=>listed.getD j false
theorem Dm {listed:Array Bool} {i:Nat} (hi:i<listed.size):gP (listed.setIfInBounds i true)=up (gP listed) i:=by
 funext j
 unfold gP up
 by_cases h:j=i
 ·subst h;simp[hi]
 ·rw[if_neg h,getD_set_ne false (Ne.symm h)]
theorem AM (d:Nat->Bool):∀n,(∃i,i<n/\d i=false)->∃i,i<n/\d i=false/\∀j,j<i->d j=true:=by
 intro n
 induction n with
 |zero=>rintro⟨i,h,_⟩;omega
 |succ n ih=>
  rintro⟨i,hi,hd⟩
  by_cases hh:∃j,j<n/\d j=false
  ·obtain⟨k,h1,h2,h3⟩:=ih hh
   exact⟨k,by omega,h2,h3⟩
  ·refine⟨i,hi,hd,fun j hj=>?_⟩
   cases hdj:d j with
   |true=>rfl
   |false=>exact absurd ⟨j,by omega,hdj⟩ hh
theorem FP (hback:dc ops=true) (I:(Nat->Bool)->Act->World->Prop)
 (hstep:∀(d:Nat->Bool) (a:Act) (w:World),I d a w->∀(i:Nat) (o:Oper),ops[i]?=some o->d i=false->(∀e∈o.after,Region.binds .any e=true->d e.on=true)->
   ∀K:Act->World->Prop,(∀a' w',I (up d i) a' w'->K a' w')->if Region.wanted o (yielded ops a.tmps)=true then Oper.wp P o a w K Q else K (a.put o.dst undef) w)
 (hend:∀(d:Nat->Bool) (a:Act) (w:World),I d a w->(∀i,i<ops.size->d i=true)->Q .normal a w):
 ∀(fuel:Nat) (listed:Array Bool) (a:Act) (w:World),listed.size=ops.size->I (gP listed) a w->listed.toList.count false<=fuel->wpAny P .any ops Q fuel listed a w:=by
 have hdone:∀(listed:Array Bool) (a:Act) (w:World),listed.size=ops.size->I (gP listed) a w->Region.ready .any ops listed=[]->Q .normal a w:=by
  intro listed a w hs hI hr
  refine hend _ a w hI ?_
  intro i hi
  cases hdi:gP listed i with
  |true=>rfl
  |false=>
   exfalso
   obtain⟨k,h1,h2,h3⟩:=AM (gP listed) ops.size ⟨i,hi,hdi⟩
   have hk:ops[k]?=some ops[k]:=Array.getElem?_eq_getElem h1
   have hmem:k∈Region.ready .any ops listed:=by
    refine mem_ready.2 ⟨?_,_,hk,fun e he hbd=>?_⟩
    ·unfold gP at h2
     have:k<listed.size:=by omega
     simpa[this] using h2
    ·unfold dc at hback
     rw[List.all_eq_true] at hback
     have:=hback k (List.mem_range.2 h1)
     rw[hk] at this
     simp only [Option.map_some,Option.getD_some,Array.all_eq_true_iff_forall_mem,Bool.or_eq_true,Bool.not_eq_true',decide_eq_true_eq] at this
     rcases this e he with h5|h5
     ·rw[hbd] at h5;cases h5
     ·exact h3 _ h5
   rw[hr] at hmem
   cases hmem
 intro fuel
 induction fuel with
 |zero=>
  intro listed a w hs hI hc
  have hall:∀i,i<listed.size->listed.getD i true=true:=by
   intro i hi
   have hz:listed.toList.count false=0:=by omega
   rw[List.count_eq_zero] at hz
   cases hb:listed.getD i true with
   |true=>rfl
   |false=>
    exfalso;apply hz
    simp[hi] at hb
    rw[<-hb]
    exact Array.getElem_mem_toList hi
  have hr:Region.ready .any ops listed=[]:=by
   rw[List.eq_nil_iff_forall_not_mem]
   intro j hj
   obtain⟨h1,o,ho,_⟩:=mem_ready.1 hj
   have hlt:j<ops.size:=(Array.getElem?_eq_some_iff.1 ho).1
   rw[hall j (by omega)] at h1
   cases h1
  exact⟨hr,hdone listed a w hs hI hr⟩
 |succ fuel ih=>
  intro listed a w hs hI hc
  refine⟨hdone listed a w hs hI,fun i hi=>?_⟩
  obtain⟨h1,o,ho,hdep⟩:=mem_ready.1 hi
  have hlt:i<listed.size:=by have:=(Array.getElem?_eq_some_iff.1 ho).1;omega
  have hdi:gP listed i=false:=by unfold gP;simp[hlt] at h1 ⊢;exact h1
  refine wpOp_step ho (fun K hK=>?_)
  refine hstep (gP listed) a w hI i o ho hdi (fun e he hb=>hdep e he hb) K (fun a' w' hI'=>hK a' w' ?_)
  refine ih (listed.setIfInBounds i true) a' w' (by simp[hs]) (by rw[Dm hlt];exact hI') ?_
  have hcnt:(listed.setIfInBounds i true).toList.count false+1=listed.toList.count false:=by
   rw[Array.toList_setIfInBounds]
   have hl:listed.toList[i]?=some false:=by
    simp[hlt] at h1
    simp[hlt,h1]
   have hi':i<listed.toList.length:=by simpa using hlt
   rw[List.count_set hi']
   have hv:listed.toList[i]=false:=by
    rw[List.getElem?_eq_getElem hi'] at hl
    injection hl
   have hpos:0<listed.toList.count false:=List.count_pos_iff.2 (by rw[<-hv];exact List.getElem_mem hi')
   rw[hv]
   rw[if_pos (by rfl),if_neg (by decide)]
   omega
  omega
theorem iu {id:Nat} {a:Act} {w:World} (hm:P.follows .mixedOrders =true) (hback:dc ops=true) (I:(Nat->Bool)->Act->World->Prop)
 (hbegin:I (fun _=>false) a w.drew)
 (hstep:∀(d:Nat->Bool) (a:Act) (w:World),I d a w->∀(i:Nat) (o:Oper),ops[i]?=some o->d i=false->(∀e∈o.after,Region.binds .any e=true->d e.on=true)->
   ∀K:Act->World->Prop,(∀a' w',I (up d i) a' w'->K a' w')->if Region.wanted o (yielded ops a.tmps)=true then Oper.wp P o a w K Q else K (a.put o.dst undef) w)
 (hend:∀(d:Nat->Bool) (a:Act) (w:World),I d a w->(∀i,i<ops.size->d i=true)->Q .normal a w):
 (Code.region id ops true).wp P Q a w:=by
 refine wp_region_any hm ?_
 refine FP hback I hstep hend ops.size _ a _ (by simp) ?_ ?_
 ·have e:gP (Array.replicate ops.size false)=fun _=>false:=by
   funext j;unfold gP
   by_cases h:j<ops.size
   ·simp[h]
   ·simp[h]
  rw[e];exact hbegin
 ·simp
end
end
end Go.Proofs.YtgdpkknapcgcbaaGreatDoor
