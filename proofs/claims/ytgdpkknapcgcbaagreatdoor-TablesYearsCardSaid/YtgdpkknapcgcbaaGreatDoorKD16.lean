import Derived.Test.YtgdpkknapcgcbaaGreatDoorKD6
import Derived.Laws.FloatArith
import Derived.Lib.LaidTab
namespace Go.Proofs.YtgdpkknapcgcbaaGreatDoor
open Go.RowKit
set_option maxRecDepth 100000
set_option linter.unusedVariables false
set_option maxHeartbeats 8000000
section
section
def fI (x:Int):Nat:=FloatKind.f64.nearest x
section
variable {P:Program} {w:World}
theorem Cp {op:BinOp} {t:TypeId} {x y:Operand} {k l:FloatKind} {a b c d:Nat}:(eqGuard op t x y (.complex k a b) (.complex l c d)).run P w= .ok () w:=by
 unfold eqGuard;split <;> rfl
theorem FR {t:TypeId} {a b c d x y:Nat} (h:Ieee.double.add a c=some x) (k:Ieee.double.add b d=some y):(binOp .add t (.complex .f64 a b) (.complex .f64 c d)).run P w= .ok (.complex .f64 x y) w:=by
 simp[binOp,Op.complexOp,Op.Complex.arith,Op.floatArith,FloatKind.format,h,k]
def frc {α:Type} (n:Nat) (f:Nat->α):α:=Nat.rec (f 0) (fun m _=>f (m+1)) n
theorem oD {α:Type} (n:Nat) (f:Nat->α):frc n f=f n:=by cases n <;> rfl
def mo {α:Type} (x:Option Nat) (f:Nat->Option α):Option α:=match x with
 |none=>none
 |some n=>frc n f
theorem Dk {α:Type} (x:Option Nat) (f:Nat->Option α):mo x f=x.bind f:=by cases x <;> simp[mo,oD]
def mulI (p:Nat×Nat):Option (Nat×Nat):=
 frc p.1 fun a=>frc p.2 fun b=>mo (Ieee.double.mul a 0) fun ac=>mo (Ieee.double.mul b 4607182418800017408) fun bd=>
 mo (Ieee.double.sub ac bd) fun re=>mo (Ieee.double.mul a 4607182418800017408) fun ad=>mo (Ieee.double.mul b 0) fun bc=>
 mo (Ieee.double.add ad bc) fun im=>some (re,im)
theorem DF {t:TypeId} {p q:Nat×Nat} (h:mulI p=some q):(binOp .mul t (.complex .f64 p.1 p.2) (.complex .f64 0 4607182418800017408)).run P w= .ok (.complex .f64 q.1 q.2) w:=by
 unfold mulI at h
 simp only [oD,Dk,Option.bind_eq_some_iff,Option.some.injEq] at h
 obtain⟨ac,e1,bd,e2,re,e3,ad,e4,bc,e5,im,e6,rfl⟩:=h
 simp[binOp,Op.complexOp,Op.Complex.product,Op.Complex.conv,Op.Complex.mul,Op.Complex.sub,Op.Complex.add,Op.Complex.arith,Op.floatArith,FloatKind.format,e1,e2,e3,e4,e5,e6]
theorem H4 {t:TypeId} {ts:Array TypeId} {cs:Array Bool} {a b:Nat}:(builtin .complex ts t cs #[.float .f64 a,.float .f64 b]).run P w= .ok (.value (.complex .f64 a b)) w:=by
 rfl
theorem G5 {t:TypeId} {ts:Array TypeId} {cs:Array Bool} {a b:Nat}:(builtin .imag ts t cs #[.complex .f64 a b]).run P w= .ok (.value (.float .f64 b)) w:=by
 rfl
theorem Cv {s t:TypeId} {n:Int} (hs:P.underlying s=some (.int .i64)) (ht:P.underlying t=some (.float .f64)):(convert s t (iv n)).run P w= .ok (.float .f64 (fI n)) w:=by
 simp[convert,run_underlying hs,run_underlying ht,Conv.intToFloat,fI]
theorem G4 {s t:TypeId} {b:Nat} {n:Int} (hs:P.underlying s=some (.float .f64)) (ht:P.underlying t=some (.int .i64)) (h:floatToIntVal .f64 b .i64 =some n):(convert s t (.float .f64 b)).run P w= .ok (iv n) w:=
 run_convert_float_int w s t .f64 .i64 b n (by rw[hs];rfl) ht h
end
end
section
def hiT:List Int:=[0,225,449,671,890,1105,1315,1520,1719,1910,2093,2267,2431,2585,2728,2859,2978,3084,3177,3256,3321,3372,3409,3431,3438]
def sn0 (n:Nat):Int:=if n<24 then hiT.getD n 0 else if n<48 then hiT.getD (48-n) 0 else if n<72 then -hiT.getD (n-48) 0 else -hiT.getD (96-n) 0
def spk (k:Int):Int:=sn0 (k%96).toNat
theorem kz (k:Int):spk (k%96)=spk k:=by unfold spk;rw[Int.emod_emod_of_dvd _ (Int.dvd_refl _)]
theorem Ds (k n:Int):spk (k+96*n)=spk k:=by unfold spk;rw[Int.add_mul_emod_self_left]
theorem km (P:Int->Prop) (h:∀n:Nat,n<96->P (n:Int)) (k:Int):P (k%96):=by
 have:=h (k%96).toNat (by omega)
 rwa[show(((k%96).toNat :Nat):Int)=k%96 by omega] at this
theorem dK {a b:Int} (h:a%96=b%96):spk a=spk b:=by unfold spk;rw[h]
theorem Gp (k:Int):spk (-k)= -spk k:=by
 have:=km (fun r=>spk (-r)= -spk r) (by decide+kernel) k
 rw[kz] at this
 rw[<-this];exact dK (by omega)
theorem jW (k:Int):spk (48-k)=spk k:=by
 have:=km (fun r=>spk (48-r)=spk r) (by decide+kernel) k
 rw[kz] at this
 rw[<-this];exact dK (by omega)
theorem Fv (k:Int):spk (k+48)= -spk k:=by
 have:=km (fun r=>spk (r+48)= -spk r) (by decide+kernel) k
 rw[kz] at this
 rw[<-this];exact dK (by omega)
theorem po (k:Int): -3438<=spk k/\spk k<=3438:=by
 have:=km (fun r=> -3438<=spk r/\spk r<=3438) (by decide+kernel) k
 rwa[kz] at this
theorem gU (k:Int): -225<=spk (k+1)-spk k/\spk (k+1)-spk k<=225:=by
 have:=km (fun r=> -225<=spk (r+1)-spk r/\spk (r+1)-spk r<=225) (by decide+kernel) k
 rw[kz,dK (b:=k+1) (by omega)] at this
 exact this
theorem mz {k:Int} (h: -24<=k) (h':k<24):spk k<spk (k+1):=by
 have h2:∀n:Nat,n<48->spk ((n:Int)-24)<spk ((n:Int)-24+1):=by decide+kernel
 have:=h2 (k+24).toNat (by omega)
 rwa[show(((k+24).toNat :Nat):Int)-24=k by omega] at this
theorem Hh {a b:Int} (h: -24<=a) (h2:a<=b) (h3:b<=24):spk a<=spk b:=by
 obtain⟨n,rfl⟩:∃n:Nat,b=a+n:=⟨(b-a).toNat,by omega⟩
 clear h2
 induction n with
 |zero=>simp
 |succ n ih=>
  have:=mz (k:=a+n) (by omega) (by omega)
  have:=ih (by omega)
  rw[show a+((n+1:Nat):Int)=a+n+1 by omega]
  omega
theorem rL (k:Int):(spk k*spk k+spk (k+24)*spk (k+24)-11819844<=4000/\ -4000<=spk k*spk k+spk (k+24)*spk (k+24)-11819844)/\(spk k*spk (k+1)+spk (k+24)*spk (k+25)-11819844<=4000/\ -30000<=spk k*spk (k+1)+spk (k+24)*spk (k+25)-11819844):=by
 have:=km (fun k=>(spk k*spk k+spk (k+24)*spk (k+24)-11819844<=4000/\ -4000<=spk k*spk k+spk (k+24)*spk (k+24)-11819844)/\(spk k*spk (k+1)+spk (k+24)*spk (k+25)-11819844<=4000/\ -30000<=spk k*spk (k+1)+spk (k+24)*spk (k+25)-11819844)) (by decide+kernel) k
 rw[kz,dK (a:=k%96+1) (b:=k+1) (by omega),dK (a:=k%96+24) (b:=k+24) (by omega),dK (a:=k%96+25) (b:=k+25) (by omega)] at this
 exact this
end
section
def hiv (k:Int):Int:=hiT.getD (max 0 (min k 24)).toNat 0
theorem Dy:∀n:Nat,n<25->hiv (n:Int)=spk (n:Int):=by decide+kernel
theorem xY {k:Int} (h0:0<=k) (h1:k<=24):hiv k=spk k:=by
 have:=Dy k.toNat (by omega)
 rwa[show((k.toNat:Nat):Int)=k by omega] at this
def aY (w:World):Prop:=∀i:Nat,i<25->Cel w 2 i (iv (hiT.getD i 0))
theorem aY.below {w w':World} (h:aY w) (hb:Below w.heap.size w w'):aY w':=fun i hi=>(h i hi).below hb
theorem aY.at {w:World} (h:aY w) (k:Int):Cel w 2 (max 0 (min k 24)).toNat (iv (hiv k)):=h _ (by omega)
theorem EB {w:World} {i:Int} (h0:0<=i) (h1:i<25):(Instr.indexAt 256 (.pointer (some ⟨2,0,none⟩)) (iv i)).run Tryz.prog w= .ok (.pointer (some ⟨2,i.toNat,none⟩)) w:=by
 simp[Instr.indexAt,asIntOf,Instr.sureAddr,run_underlying Tryz.underlying256,Sem.run_bind,h0,h1,Addr.add_mid]
def pb (k:Int):Nat×Nat:=(fI (spk (k+24)),fI (spk k))
theorem mr {a b:Int} (h:a%96=b%96):pb a=pb b:=by unfold pb;rw[dK h,dK (a:=a+24) (b:=b+24) (by omega)]
def adI (p q:Nat×Nat):Bool:=frc q.1 fun x=>frc q.2 fun y=>decide (Ieee.double.add p.1 0=some x) && decide (Ieee.double.add p.2 0=some y)
theorem Fa {p q:Nat×Nat} (h:adI p q=true):Ieee.double.add p.1 0=some q.1/\Ieee.double.add p.2 0=some q.2:=by
 unfold adI at h
 simp only [oD,Bool.and_eq_true,decide_eq_true_eq] at h
 exact h
def itI:Nat->Nat×Nat->Nat×Nat
 |0,p=>p
 |j+1,p=>(mulI (itI j p)).getD (0,0)
def chI (a:Nat×Nat) (p1 p2 p3 p4:Nat×Nat):Bool:=
 frc a.1 fun x0=>frc a.2 fun y0=>match mulI (x0,y0) with
 |none=>false
 |some b=>frc b.1 fun x1=>frc b.2 fun y1=>match mulI (x1,y1) with
  |none=>false
  |some c=>frc c.1 fun x2=>frc c.2 fun y2=>match mulI (x2,y2) with
   |none=>false
   |some d=>frc d.1 fun x3=>frc d.2 fun y3=>
    adI (x0,y0) p1 && adI (x1,y1) p2 && adI (x2,y2) p3 && adI (x3,y3) p4
theorem xS {a p1 p2 p3 p4:Nat×Nat} (h:chI a p1 p2 p3 p4=true):(∀j,j<3->mulI (itI j a)=some (itI (j+1) a))/\adI (itI 0 a) p1=true/\adI (itI 1 a) p2=true/\adI (itI 2 a) p3=true/\adI (itI 3 a) p4=true:=by
 unfold chI at h
 simp only [oD] at h
 split at h
 ·cases h
 ·rename_i b hb
  split at h
  ·cases h
  ·rename_i c hc
   split at h
   ·cases h
   ·rename_i d hd
    have e1:itI 1 a=b:=by show(mulI a).getD (0,0)=b;rw[show mulI a=some b from hb];rfl
    have e2:itI 2 a=c:=by show(mulI (itI 1 a)).getD (0,0)=c;rw[e1,show mulI b=some c from hc];rfl
    have e3:itI 3 a=d:=by show(mulI (itI 2 a)).getD (0,0)=d;rw[e2,show mulI c=some d from hd];rfl
    simp only [Bool.and_eq_true] at h
    refine⟨fun j hj=>?_,h.1.1.1,by rw[e1];exact h.1.1.2,by rw[e2];exact h.1.2,by rw[e3];exact h.2⟩
    have:j=0\/j=1\/j=2:=by omega
    rcases this with rfl|rfl|rfl
    ·rw[e1];exact hb
    ·rw[e1,e2];exact hc
    ·rw[e2,e3];exact hd
theorem uP:∀n:Nat,n<96->chI (pb (n:Int)) (pb (n:Int)) (pb ((n:Int)+24)) (pb ((n:Int)+48)) (pb ((n:Int)+72))=true:=by decide+kernel
theorem Bp (k:Int) {j:Nat} (h:j<3):mulI (itI j (pb k))=some (itI (j+1) (pb k)):=by
 have:=(xS (uP (k%96).toNat (by omega))).1 j h
 rwa[mr (b:=k) (by omega)] at this
theorem kU {p:Nat×Nat} {m n:Int} (h:adI p (pb m)=true) (e:m%96=n%96):Ieee.double.add p.1 0=some (fI (spk (n+24)))/\Ieee.double.add p.2 0=some (fI (spk n)):=by
 obtain⟨a,b⟩:=Fa h
 exact⟨a.trans (congrArg (fun p=>some p.1) (mr e)),b.trans (congrArg (fun p=>some p.2) (mr e))⟩
theorem vA (k q:Int) {j:Nat} (h:((j:Nat):Int)=q%4):Ieee.double.add (itI j (pb k)).1 0=some (fI (spk (k+24*q+24)))/\Ieee.double.add (itI j (pb k)).2 0=some (fI (spk (k+24*q))):=by
 obtain⟨_,h0,h1,h2,h3⟩:=xS (uP (k%96).toNat (by omega))
 have ek:pb (((k%96).toNat :Nat):Int)=pb k:=mr (by omega)
 rw[ek] at h0 h1 h2 h3
 have hj:j=0\/j=1\/j=2\/j=3:=by omega
 rcases hj with rfl|rfl|rfl|rfl
 ·exact kU h0 (by omega)
 ·exact kU h1 (by omega)
 ·exact kU h2 (by omega)
 ·exact kU h3 (by omega)
theorem GH:∀n:Nat,n<96->floatToIntVal .f64 (fI (spk (n:Int))) .i64 =some (spk (n:Int)):=by decide+kernel
theorem Ik (k:Int):floatToIntVal .f64 (fI (spk k)) .i64 =some (spk k):=by
 have:=GH (k%96).toNat (by omega)
 rwa[dK (b:=k) (by omega)] at this
theorem Ij {a b c d:Nat} (h:a=c) (k:b=d):Ending.returned (.complex .f64 a b)= .returned (.complex .f64 c d):=by rw[h,k]
theorem Bv (k:Int) (w:World):
 CV 289 #[iv k,iv 4] w (iv (k%4)):=by
 have bel:Below w.heap.size w w:=Below.refl _ _
 refine go2 (nt:=12) Tryz.func289 rfl rfl rfl fun a hF=>wq ?_
 refine oC hF rfl fun a hF=>nq<|oM hF 1 rfl rfl fun a hF=>oM hF 3 rfl rfl fun a hF=>oV hF (ao hF.p hF.o ab (il (a:=k) (b:=4) (by omega))) rfl fun a hF=>oM hF 5 rfl rfl fun a hF=>oV hF (ao hF.p hF.o ab (aU (by omega) (by omega))) rfl fun a hF=>oM hF 7 rfl rfl fun a hF=>oV hF (ao hF.p hF.o ab (il (a:=(if 0<=k then k%4 else -(-k%4))+4) (b:=4) (by omega))) rfl fun a hF=>?_
 refine oE hF 0 rfl rfl fun a hF=>nr<|rt Tryz.results289 hF 0 rfl ?_
 refine⟨bU ?_,bel⟩
 omega
theorem ye (k:Int) (w:World):
 CV 289 #[iv k,iv 96] w (iv (k%96)):=by
 have bel:Below w.heap.size w w:=Below.refl _ _
 refine go2 (nt:=12) Tryz.func289 rfl rfl rfl fun a hF=>wq ?_
 refine oC hF rfl fun a hF=>nq<|oM hF 1 rfl rfl fun a hF=>oM hF 3 rfl rfl fun a hF=>oV hF (ao hF.p hF.o ab (il (a:=k) (b:=96) (by omega))) rfl fun a hF=>oM hF 5 rfl rfl fun a hF=>oV hF (ao hF.p hF.o ab (aU (by omega) (by omega))) rfl fun a hF=>oM hF 7 rfl rfl fun a hF=>oV hF (ao hF.p hF.o ab (il (a:=(if 0<=k then k%96 else -(-k%96))+96) (b:=96) (by omega))) rfl fun a hF=>?_
 refine oE hF 0 rfl rfl fun a hF=>nr<|rt Tryz.results289 hF 0 rfl ?_
 refine⟨bU ?_,bel⟩
 omega
theorem nw (k:Int) (w:World) (hT:aY w):
 CV 281 #[iv k] w (iv (hiv k)):=by
 have bel:Below w.heap.size w w:=Below.refl _ _
 refine go1 (nt:=8) Tryz.func281 rfl rfl rfl fun a hF=>wq ?_
 refine oC hF rfl fun a hF=>nq ?_
 refine oM hF 1 rfl rfl fun a hF=>oV hF (bI (aK hF.o ah) xD) rfl fun a hF=>oV hF (bI (aK ah hF.o) yY) rfl fun a hF=>oV hF (dz rfl hF.o (EB (by omega) (by omega))) rfl fun a hF=>oV hF (ar hF.o (Dt ((hT.below bel).at k))) rfl fun a hF=>oE hF 0 rfl rfl fun a hF=>nr<|rt Tryz.results281 hF 0 rfl ?_
 exact⟨rfl,bel⟩
theorem Br (k q:Int) (w:World):
 CV 290 #[.complex .f64 (fI (spk (k+24))) (fI (spk (k))),iv q] w (.complex .f64 (fI (spk ((k+24*q)+24))) (fI (spk ((k+24*q))))):=by
 have bel:Below w.heap.size w w:=Below.refl _ _
 refine go2 (nt:=14) Tryz.func290 rfl rfl rfl fun a hF=>wq ?_
 refine oC hF rfl fun a hF=>ns<|wq<|oM hF 2 rfl rfl fun a hF=>?_
 refine E.call hF (rk CH (aK hF.o ah)) (Bv q _) rfl rfl rfl rfl ?_
 rintro e w1 ⟨rfl,bb⟩
 refine⟨_,rfl,?_⟩
 intro a hF
 replace bel:=bv bel bb
 clear bb
 refine oV hF (aG ah) rfl fun a hF=>E.nil<|wp_block ?_
 refine E.loop (fun mq a wv=>∃(j:Nat),((j:Nat):Int)<=q%4/\Fr 14 a [(7,iv ((j:Nat):Int)),(6,iv ((q)%4)),(4,.complex .f64 0 0),(0,.complex .f64 ((itI j (pb k)).1) ((itI j (pb k)).2))]/\Below w1.heap.size w1 wv/\Below w.heap.size w wv/\mq=(q%4).toNat - j) ((q%4).toNat - 0) ?_ ?_
 ·exact⟨0,(by omega),Fr.sub (L':=[(7,iv ((0:Nat):Int)),(6,iv ((q)%4)),(4,.complex .f64 0 0),(0,.complex .f64 (fI (spk (k+24))) (fI (spk (k))))]) hF (by intro p hp;simp only [List.mem_cons,List.not_mem_nil,or_false] at hp ⊢;rcases hp with rfl|rfl|rfl|rfl <;> simp),Below.refl _ _,bel,rfl⟩
 ·rintro mq a w2 ⟨j,hj,hF,sty,bel,hm⟩
  by_cases hjn:((j:Nat):Int)<q%4
  ·refine wp_seq<|E.seq ?_
   refine oU hF 0 1 (bC (c:=true) (aJ hjn)) rfl rfl rfl fun a hF=>ns<|wp_cond_true hF.o<|wp_skip<|E.norm<|wp_seq<|wp_block<|E.seq<|oM hF 4 rfl rfl fun a hF=>oV hF (ao hF.o ah Cp (DF (p:=itI j (pb k)) (Bp k (by omega)))) rfl fun a hF=>?_
   refine E.opset (L':=[(0,.complex .f64 ((itI (j+1) (pb k)).1) ((itI (j+1) (pb k)).2)),(10,.complex .f64 ((itI (j+1) (pb k)).1) ((itI (j+1) (pb k)).2)),(9,.complex .f64 ((itI j (pb k)).1) ((itI j (pb k)).2)),(8,.bool true),(7,iv ((j:Nat):Int)),(6,iv ((q)%4)),(4,.complex .f64 0 0)]) hF (aQ hF.o) rfl rfl rfl rfl fun a hF=>?_
   refine E.nil0<|E.blk<|E.norm<|E.seq<|oV hF (ao (hF.at 4 rfl) ah ab (aU (by omega) (by omega))) rfl fun a hF=>?_
   refine E.opset (L':=[(7,iv (((j:Nat):Int)+1)),(11,iv (((j:Nat):Int)+1)),(0,.complex .f64 ((itI (j+1) (pb k)).1) ((itI (j+1) (pb k)).2)),(10,.complex .f64 ((itI (j+1) (pb k)).1) ((itI (j+1) (pb k)).2)),(9,.complex .f64 ((itI j (pb k)).1) ((itI j (pb k)).2)),(8,.bool true),(6,iv ((q)%4)),(4,.complex .f64 0 0)]) hF (aG hF.o) rfl rfl rfl rfl fun a hF=>?_
   refine E.nil0<|E.norm ?_
   exact⟨(q%4).toNat - (j+1),by omega,⟨(j+1),(by omega),(by rw[show((j+1:Nat):Int)=((j:Nat):Int)+1 from by omega];exact Fr.sub (L':=[(7,iv (((j:Nat):Int)+1)),(6,iv ((q)%4)),(4,.complex .f64 0 0),(0,.complex .f64 ((itI (j+1) (pb k)).1) ((itI (j+1) (pb k)).2))]) hF (by intro p hp;simp only [List.mem_cons,List.not_mem_nil,or_false] at hp ⊢;rcases hp with rfl|rfl|rfl|rfl <;> simp)),sty,bel,rfl⟩⟩
  ·refine wp_seq<|E.seq ?_
   refine oU hF 0 1 (bC (c:=false) (aH hjn)) rfl rfl rfl fun a hF=>ns<|wp_cond_false hF.o<|wp_exit<|E.past<|E.past<|E.out (id:=0)<|E.norm<|wq<|oM hF 4 rfl rfl fun a hF=>oV hF (ao hF.o ah Cp (FR (vA k q (j:=j) (by omega)).1 (vA k q (j:=j) (by omega)).2)) rfl fun a hF=>?_
   refine E.opset (L':=[(4,.complex .f64 (fI (spk (k+24*q+24))) (fI (spk (k+24*q)))),(13,.complex .f64 (fI (spk (k+24*q+24))) (fI (spk (k+24*q)))),(12,.complex .f64 ((itI j (pb k)).1) ((itI j (pb k)).2)),(8,.bool false),(7,iv ((j:Nat):Int)),(6,iv ((q)%4)),(0,.complex .f64 ((itI j (pb k)).1) ((itI j (pb k)).2))]) hF (aQ hF.o) rfl rfl rfl rfl fun a hF=>?_
   refine nr<|rt Tryz.results290 hF 0 rfl ?_
   exact⟨rfl,bel⟩
theorem xP (x y:Int) (b q:Int) (w:World) (h1:x=spk (24-b)) (h2:y=spk b) (hb0:0<=b) (hb1:b<24):CV 290 #[.complex .f64 (fI x) (fI y),iv q] w (.complex .f64 (fI (spk ((b+24*q)+24))) (fI (spk ((b+24*q))))):=by
 have e:spk (24-b)=spk (b+24):=by rw[<-jW (b+24)];exact dK (by omega)
 rw[h1,h2,e]
 exact Br b q w
theorem xV (k:Int) (w:World) (hT:aY w):
 CV 288 #[iv k] w (.complex .f64 (fI (spk (k+24))) (fI (spk (k)))):=by
 have bel:Below w.heap.size w w:=Below.refl _ _
 refine go1 (nt:=22) Tryz.func288 rfl rfl rfl fun a hF=>wq ?_
 refine oC hF rfl fun a hF=>nq<|oM hF 1 rfl rfl fun a hF=>?_
 refine E.call hF (rk CH (aK hF.o ah)) (ye k _) rfl rfl rfl rfl ?_
 rintro e w1 ⟨rfl,bb⟩
 refine⟨_,rfl,?_⟩
 intro a hF
 replace bel:=bv bel bb
 clear bb
 refine oA hF 0 rfl rfl fun a hF=>nq ?_
 refine oM hF 0 rfl rfl fun a hF=>oV hF (ao hF.o ah ab (mw (a:=(k)%96) (b:=24) (by omega) (by omega))) rfl fun a hF=>oA hF 0 rfl rfl fun a hF=>nq<|oM hF 0 rfl rfl fun a hF=>oV hF (ao ah hF.o ab (bM (by omega) (by omega))) rfl fun a hF=>?_
 refine E.call hF (rk Cd (aC hF.o)) (nw (24-(((k)%96)%24)) _ (hT.below bel)) rfl rfl rfl rfl ?_
 rintro e w2 ⟨rfl,bb⟩
 refine⟨_,rfl,?_⟩
 intro a hF
 replace bel:=bv bel bb
 clear bb
 refine oV hF (lW hF.o (Cv Tryz.underlying3 Tryz.underlying253)) rfl fun a hF=>oM hF 4 rfl rfl fun a hF=>?_
 refine E.call hF (rk Cd (aC hF.o)) (nw (((k)%96)%24) _ (hT.below bel)) rfl rfl rfl rfl ?_
 rintro e w3 ⟨rfl,bb⟩
 refine⟨_,rfl,?_⟩
 intro a hF
 replace bel:=bv bel bb
 clear bb
 refine oV hF (lW hF.o (Cv Tryz.underlying3 Tryz.underlying253)) rfl fun a hF=>oV hF (bI (aK (hF.at 3 rfl) hF.o) H4) rfl fun a hF=>oA hF 0 rfl rfl fun a hF=>nq<|oM hF 0 rfl rfl fun a hF=>oM hF 13 rfl rfl fun a hF=>oV hF (ao hF.o ah ab (Ej (a:=(k)%96) (b:=24) (by omega) (by omega) (by omega) (by omega))) rfl fun a hF=>?_
 refine E.call hF (rk Hr (aK hF.q hF.o)) (xP _ _ (k%96%24) (((k)%96)/24) _ (xY (k:=24-(k%96%24)) (by omega) (by omega)) (xY (k:=(k%96%24)) (by omega) (by omega)) (by omega) (by omega)) rfl rfl rfl rfl ?_
 rintro e w4 ⟨rfl,bb⟩
 refine⟨_,rfl,?_⟩
 intro a hF
 replace bel:=bv bel bb
 clear bb
 refine oE hF 0 rfl rfl fun a hF=>nr<|rt Tryz.results288 hF 0 rfl ?_
 exact⟨Ij (congrArg fI (dK (by omega))) (congrArg fI (dK (by omega))),bel⟩
theorem lG (k:Int) (w:World) (hT:aY w):
 CV 279 #[iv k] w (iv (spk k)):=by
 have bel:Below w.heap.size w w:=Below.refl _ _
 refine go1 (nt:=7) Tryz.func279 rfl rfl rfl fun a hF=>wq ?_
 refine oC hF rfl fun a hF=>nq<|oM hF 1 rfl rfl fun a hF=>?_
 refine E.call hF (rk Ia (aC hF.o)) (xV k _ (hT.below bel)) rfl rfl rfl rfl ?_
 rintro e w1 ⟨rfl,bb⟩
 refine⟨_,rfl,?_⟩
 intro a hF
 replace bel:=bv bel bb
 clear bb
 refine oV hF (bI (aC hF.o) G5) rfl fun a hF=>oV hF (lW hF.o (G4 Tryz.underlying253 Tryz.underlying3 (Ik (k)))) rfl fun a hF=>oE hF 0 rfl rfl fun a hF=>nr<|rt Tryz.results279 hF 0 rfl ?_
 exact⟨rfl,bel⟩
end
section
end
section
theorem tabD_of {w:World} (h:Lib.TabIs Tryz.prog w "ephemeris/dial.heights" .i64 [0,225,449,671,890,1105,1315,1520,1719,1910,2093,2267,2431,2585,2728,2859,2978,3084,3177,3256,3321,3372,3409,3431,3438]):aY w:=fun i hi=>h.cell (by kernel_rfl) i hi
end
end
end Go.Proofs.YtgdpkknapcgcbaaGreatDoor
