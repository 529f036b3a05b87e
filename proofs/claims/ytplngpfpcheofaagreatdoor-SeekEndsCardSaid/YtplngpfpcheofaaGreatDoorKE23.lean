import Derived.Test.YtplngpfpcheofaaGreatDoorKE8
import Derived.Laws.FloatArith
import Derived.Lib.LaidTab
namespace Go.Proofs.YtplngpfpcheofaaGreatDoor
open Go.RowKit
set_option maxRecDepth 100000
set_option linter.unusedVariables false
set_option maxHeartbeats 8000000
section
section
def fI (x:Int):Nat:=FloatKind.f64.nearest x
section
variable {P:Program} {w:World}
theorem vw {op:BinOp} {t:TypeId} {x y:Operand} {k l:FloatKind} {a b c d:Nat}:(eqGuard op t x y (.complex k a b) (.complex l c d)).run P w= .ok () w:=by
 unfold eqGuard;split <;> rfl
theorem yU {t:TypeId} {a b c d x y:Nat} (h:Ieee.double.add a c=some x) (k:Ieee.double.add b d=some y):(binOp .add t (.complex .f64 a b) (.complex .f64 c d)).run P w= .ok (.complex .f64 x y) w:=by
 simp[binOp,Op.complexOp,Op.Complex.arith,Op.floatArith,FloatKind.format,h,k]
def frc {α:Type} (n:Nat) (f:Nat→α):α:=Nat.rec (f 0) (fun m _=>f (m+1)) n
theorem ln {α:Type} (n:Nat) (f:Nat→α):frc n f=f n:=by cases n <;> rfl
def ju {α:Type} (x:Option Nat) (f:Nat→Option α):Option α:=match x with
 |none=>none
 |some n=>frc n f
theorem wQ {α:Type} (x:Option Nat) (f:Nat→Option α):ju x f=x.bind f:=by cases x <;> simp[ju,ln]
def fC (p:Nat×Nat):Option (Nat×Nat):=
 frc p.1 fun a=>frc p.2 fun b=>ju (Ieee.double.mul a 0) fun ac=>ju (Ieee.double.mul b 4607182418800017408) fun bd=>
 ju (Ieee.double.sub ac bd) fun re=>ju (Ieee.double.mul a 4607182418800017408) fun ad=>ju (Ieee.double.mul b 0) fun bc=>
 ju (Ieee.double.add ad bc) fun im=>some (re,im)
theorem vE {t:TypeId} {p q:Nat×Nat} (h:fC p=some q):(binOp .mul t (.complex .f64 p.1 p.2) (.complex .f64 0 4607182418800017408)).run P w= .ok (.complex .f64 q.1 q.2) w:=by
 unfold fC at h
 simp only [ln,wQ,Option.bind_eq_some_iff,Option.some.injEq] at h
 obtain⟨ac,e1,bd,e2,re,e3,ad,e4,bc,e5,im,e6,rfl⟩:=h
 simp[binOp,Op.complexOp,Op.Complex.product,Op.Complex.conv,Op.Complex.mul,Op.Complex.sub,Op.Complex.add,Op.Complex.arith,Op.floatArith,FloatKind.format,e1,e2,e3,e4,e5,e6]
theorem Aa {t:TypeId} {ts:Array TypeId} {cs:Array Bool} {a b:Nat}:(builtin .complex ts t cs #[.float .f64 a,.float .f64 b]).run P w= .ok (.value (.complex .f64 a b)) w:=by
 rfl
theorem zp {t:TypeId} {ts:Array TypeId} {cs:Array Bool} {a b:Nat}:(builtin .imag ts t cs #[.complex .f64 a b]).run P w= .ok (.value (.float .f64 b)) w:=by
 rfl
theorem vj {s t:TypeId} {n:Int} (hs:P.underlying s=some (.int .i64)) (ht:P.underlying t=some (.float .f64)):(convert s t (.int .i64 n)).run P w= .ok (.float .f64 (fI n)) w:=by
 simp[convert,run_underlying hs,run_underlying ht,Conv.intToFloat,fI]
theorem zP {s t:TypeId} {b:Nat} {n:Int} (hs:P.underlying s=some (.float .f64)) (ht:P.underlying t=some (.int .i64)) (h:floatToIntVal .f64 b .i64 =some n):(convert s t (.float .f64 b)).run P w= .ok (.int .i64 n) w:=
 run_convert_float_int w s t .f64 .i64 b n (by rw[hs];rfl) ht h
end
end
section
def hiT:List Int:=[0,225,449,671,890,1105,1315,1520,1719,1910,2093,2267,2431,2585,2728,2859,2978,3084,3177,3256,3321,3372,3409,3431,3438]
def sn0 (n:Nat):Int:=if n<24 then hiT.getD n 0 else if n<48 then hiT.getD (48-n) 0 else if n<72 then -hiT.getD (n-48) 0 else -hiT.getD (96-n) 0
def spk (k:Int):Int:=sn0 (k%96).toNat
theorem iA (k:Int):spk (k%96)=spk k:=by unfold spk;rw[Int.emod_emod_of_dvd _ (Int.dvd_refl _)]
theorem xA (k n:Int):spk (k+96*n)=spk k:=by unfold spk;rw[Int.add_mul_emod_self_left]
theorem k8 (P:Int→Prop) (h:∀n:Nat,n<96→P (n:Int)) (k:Int):P (k%96):=by
 have:=h (k%96).toNat (by omega)
 rwa[show(((k%96).toNat :Nat):Int)=k%96 by omega] at this
theorem eO {a b:Int} (h:a%96=b%96):spk a=spk b:=by unfold spk;rw[h]
theorem xt (k:Int):spk (48-k)=spk k:=by
 have:=k8 (fun r=>spk (48-r)=spk r) (by decide+kernel) k
 rw[iA] at this
 rw[←this];exact eO (by omega)
theorem zl (k:Int):spk (k+48)= -spk k:=by
 have:=k8 (fun r=>spk (r+48)= -spk r) (by decide+kernel) k
 rw[iA] at this
 rw[←this];exact eO (by omega)
theorem ig (k:Int): -3438≤spk k∧spk k≤3438:=by
 have:=k8 (fun r=> -3438≤spk r∧spk r≤3438) (by decide+kernel) k
 rwa[iA] at this
theorem lX (k:Int): -225≤spk (k+1)-spk k∧spk (k+1)-spk k≤225:=by
 have:=k8 (fun r=> -225≤spk (r+1)-spk r∧spk (r+1)-spk r≤225) (by decide+kernel) k
 rw[iA,eO (b:=k+1) (by omega)] at this
 exact this
end
section
def hiv (k:Int):Int:=hiT.getD (max 0 (min k 24)).toNat 0
theorem wh:∀n:Nat,n<25→hiv (n:Int)=spk (n:Int):=by decide+kernel
theorem tk {k:Int} (h0:0≤k) (h1:k≤24):hiv k=spk k:=by
 have:=wh k.toNat (by omega)
 rwa[show((k.toNat:Nat):Int)=k by omega] at this
def cG (w:World):Prop:=∀i:Nat,i<25→Cel w 2 i (.int .i64 (hiT.getD i 0))
theorem cG.below {w w':World} (h:cG w) (hb:Below w.heap.size w w'):cG w':=fun i hi=>(h i hi).below hb
theorem cG.at {w:World} (h:cG w) (k:Int):Cel w 2 (max 0 (min k 24)).toNat (.int .i64 (hiv k)):=h _ (by omega)
theorem xc {w:World} {i:Int} (h0:0≤i) (h1:i<25):(Instr.indexAt 162 (.pointer (some ⟨2,0,none⟩)) (.int .i64 i)).run Tryz.prog w= .ok (.pointer (some ⟨2,i.toNat,none⟩)) w:=by
 simp[Instr.indexAt,asIntOf,Instr.sureAddr,run_underlying Tryz.underlying162,Sem.run_bind,h0,h1,Addr.add_mid]
def pb (k:Int):Nat×Nat:=(fI (spk (k+24)),fI (spk k))
theorem jL {a b:Int} (h:a%96=b%96):pb a=pb b:=by unfold pb;rw[eO h,eO (a:=a+24) (b:=b+24) (by omega)]
def adI (p q:Nat×Nat):Bool:=frc q.1 fun x=>frc q.2 fun y=>decide (Ieee.double.add p.1 0=some x) && decide (Ieee.double.add p.2 0=some y)
theorem yT {p q:Nat×Nat} (h:adI p q=true):Ieee.double.add p.1 0=some q.1∧Ieee.double.add p.2 0=some q.2:=by
 unfold adI at h
 simp only [ln,Bool.and_eq_true,decide_eq_true_eq] at h
 exact h
def itI:Nat→Nat×Nat→Nat×Nat
 |0,p=>p
 |j+1,p=>(fC (itI j p)).getD (0,0)
def chI (a:Nat×Nat) (p1 p2 p3 p4:Nat×Nat):Bool:=
 frc a.1 fun x0=>frc a.2 fun y0=>match fC (x0,y0) with
 |none=>false
 |some b=>frc b.1 fun x1=>frc b.2 fun y1=>match fC (x1,y1) with
  |none=>false
  |some c=>frc c.1 fun x2=>frc c.2 fun y2=>match fC (x2,y2) with
   |none=>false
   |some d=>frc d.1 fun x3=>frc d.2 fun y3=>
    adI (x0,y0) p1 && adI (x1,y1) p2 && adI (x2,y2) p3 && adI (x3,y3) p4
theorem s3 {a p1 p2 p3 p4:Nat×Nat} (h:chI a p1 p2 p3 p4=true):(∀j,j<3→fC (itI j a)=some (itI (j+1) a))∧adI (itI 0 a) p1=true∧adI (itI 1 a) p2=true∧adI (itI 2 a) p3=true∧adI (itI 3 a) p4=true:=by
 unfold chI at h
 simp only [ln] at h
 split at h
 ·cases h
 ·rename_i b hb
  split at h
  ·cases h
  ·rename_i c hc
   split at h
   ·cases h
   ·rename_i d hd
    have e1:itI 1 a=b:=by show(fC a).getD (0,0)=b;rw[show fC a=some b from hb];rfl
    have e2:itI 2 a=c:=by show(fC (itI 1 a)).getD (0,0)=c;rw[e1,show fC b=some c from hc];rfl
    have e3:itI 3 a=d:=by show(fC (itI 2 a)).getD (0,0)=d;rw[e2,show fC c=some d from hd];rfl
    simp only [Bool.and_eq_true] at h
    refine⟨fun j hj=>?_,h.1.1.1,by rw[e1];exact h.1.1.2,by rw[e2];exact h.1.2,by rw[e3];exact h.2⟩
    have:j=0∨j=1∨j=2:=by omega
    rcases this with rfl|rfl|rfl
    ·rw[e1];exact hb
    ·rw[e1,e2];exact hc
    ·rw[e2,e3];exact hd
theorem qd:∀n:Nat,n<96→chI (pb (n:Int)) (pb (n:Int)) (pb ((n:Int)+24)) (pb ((n:Int)+48)) (pb ((n:Int)+72))=true:=by decide+kernel
theorem tV (k:Int) {j:Nat} (h:j<3):fC (itI j (pb k))=some (itI (j+1) (pb k)):=by
 have:=(s3 (qd (k%96).toNat (by omega))).1 j h
 rwa[jL (b:=k) (by omega)] at this
theorem iP {p:Nat×Nat} {m n:Int} (h:adI p (pb m)=true) (e:m%96=n%96):Ieee.double.add p.1 0=some (fI (spk (n+24)))∧Ieee.double.add p.2 0=some (fI (spk n)):=by
 obtain⟨a,b⟩:=yT h
 exact⟨a.trans (congrArg (fun p=>some p.1) (jL e)),b.trans (congrArg (fun p=>some p.2) (jL e))⟩
theorem pF (k q:Int) {j:Nat} (h:((j:Nat):Int)=q%4):Ieee.double.add (itI j (pb k)).1 0=some (fI (spk (k+24*q+24)))∧Ieee.double.add (itI j (pb k)).2 0=some (fI (spk (k+24*q))):=by
 obtain⟨_,h0,h1,h2,h3⟩:=s3 (qd (k%96).toNat (by omega))
 have ek:pb (((k%96).toNat :Nat):Int)=pb k:=jL (by omega)
 rw[ek] at h0 h1 h2 h3
 have hj:j=0∨j=1∨j=2∨j=3:=by omega
 rcases hj with rfl|rfl|rfl|rfl
 ·exact iP h0 (by omega)
 ·exact iP h1 (by omega)
 ·exact iP h2 (by omega)
 ·exact iP h3 (by omega)
theorem xJ:∀n:Nat,n<96→floatToIntVal .f64 (fI (spk (n:Int))) .i64 =some (spk (n:Int)):=by decide+kernel
theorem zT (k:Int):floatToIntVal .f64 (fI (spk k)) .i64 =some (spk k):=by
 have:=xJ (k%96).toNat (by omega)
 rwa[eO (b:=k) (by omega)] at this
theorem zA {a b c d:Nat} (h:a=c) (k:b=d):Ending.returned (.complex .f64 a b)= .returned (.complex .f64 c d):=by rw[h,k]
theorem uM (k:Int) (w:World):
 Calls Tryz.prog 195 #[.int .i64 k,.int .i64 4] w (aX w (.int .i64 (k%4))):=by
 have bel:Below w.heap.size w w:=Below.refl _ _
 refine go2 (nt:=12) Tryz.func195 rfl rfl rfl fun a hF=>?_
 refine wq ?_
 refine oC hF rfl fun a hF=>?_
 refine nq ?_
 refine oM hF 1 rfl rfl fun a hF=>?_
 refine oM hF 3 rfl rfl fun a hF=>?_
 refine oV hF (av (hF.at 1 rfl) (hF.at 0 rfl) ab (fY (a:=k) (b:=4) (by omega))) rfl fun a hF=>?_
 refine oM hF 5 rfl rfl fun a hF=>?_
 refine oV hF (av (hF.at 1 rfl) (hF.at 0 rfl) ab (bh (by omega) (by omega))) rfl fun a hF=>?_
 refine oM hF 7 rfl rfl fun a hF=>?_
 refine oV hF (av (hF.at 1 rfl) (hF.at 0 rfl) ab (fY (a:=(if 0≤k then k%4 else -(-k%4))+4) (b:=4) (by omega))) rfl fun a hF=>?_
 refine oE hF 0 rfl rfl fun a hF=>?_
 refine nr ?_
 refine rt Tryz.results195 hF 0 rfl ?_
 refine⟨bB ?_,bel⟩
 omega
theorem rQ (k:Int) (w:World):
 Calls Tryz.prog 195 #[.int .i64 k,.int .i64 96] w (aX w (.int .i64 (k%96))):=by
 have bel:Below w.heap.size w w:=Below.refl _ _
 refine go2 (nt:=12) Tryz.func195 rfl rfl rfl fun a hF=>?_
 refine wq ?_
 refine oC hF rfl fun a hF=>?_
 refine nq ?_
 refine oM hF 1 rfl rfl fun a hF=>?_
 refine oM hF 3 rfl rfl fun a hF=>?_
 refine oV hF (av (hF.at 1 rfl) (hF.at 0 rfl) ab (fY (a:=k) (b:=96) (by omega))) rfl fun a hF=>?_
 refine oM hF 5 rfl rfl fun a hF=>?_
 refine oV hF (av (hF.at 1 rfl) (hF.at 0 rfl) ab (bh (by omega) (by omega))) rfl fun a hF=>?_
 refine oM hF 7 rfl rfl fun a hF=>?_
 refine oV hF (av (hF.at 1 rfl) (hF.at 0 rfl) ab (fY (a:=(if 0≤k then k%96 else -(-k%96))+96) (b:=96) (by omega))) rfl fun a hF=>?_
 refine oE hF 0 rfl rfl fun a hF=>?_
 refine nr ?_
 refine rt Tryz.results195 hF 0 rfl ?_
 refine⟨bB ?_,bel⟩
 omega
theorem kE (k:Int) (w:World) (hT:cG w):
 Calls Tryz.prog 182 #[.int .i64 k] w (aX w (.int .i64 (hiv k))):=by
 have bel:Below w.heap.size w w:=Below.refl _ _
 refine go1 (nt:=8) Tryz.func182 rfl rfl rfl fun a hF=>?_
 refine wq ?_
 refine oC hF rfl fun a hF=>?_
 refine nq ?_
 refine oM hF 1 rfl rfl fun a hF=>?_
 refine oV hF (bG (ar (hF.at 0 rfl) ao) m9) rfl fun a hF=>?_
 refine oV hF (bG (ar ao (hF.at 0 rfl)) nj) rfl fun a hF=>?_
 refine oV hF (iC rfl (hF.at 0 rfl) (xc (by omega) (by omega))) rfl fun a hF=>?_
 refine oV hF (aw (hF.at 0 rfl) (pN ((hT.below bel).at k))) rfl fun a hF=>?_
 refine oE hF 0 rfl rfl fun a hF=>?_
 refine nr ?_
 refine rt Tryz.results182 hF 0 rfl ?_
 exact⟨rfl,bel⟩
theorem tY (k q:Int) (w:World):
 Calls Tryz.prog 196 #[.complex .f64 (fI (spk (k+24))) (fI (spk (k))),.int .i64 q] w (aX w (.complex .f64 (fI (spk ((k+24*q)+24))) (fI (spk ((k+24*q)))))):=by
 have bel:Below w.heap.size w w:=Below.refl _ _
 refine go2 (nt:=14) Tryz.func196 rfl rfl rfl fun a hF=>?_
 refine wq ?_
 refine oC hF rfl fun a hF=>?_
 refine ns ?_
 refine wq ?_
 refine oM hF 2 rfl rfl fun a hF=>?_
 refine E.call hF (rk xX (ar (hF.at 0 rfl) ao)) (uM q _) rfl rfl rfl rfl ?_
 rintro e w1 ⟨rfl,bb⟩
 refine⟨_,rfl,?_⟩
 intro a hF
 replace bel:=aa bel bb
 clear bb
 refine oV hF (aY ao) rfl fun a hF=>?_
 refine E.nil ?_
 refine wp_block ?_
 refine E.loop (fun mq a wv=>∃(j:Nat),((j:Nat):Int)≤q%4∧Fr 14 a [(7,.int .i64 ((j:Nat):Int)),(6,.int .i64 ((q)%4)),(4,.complex .f64 0 0),(0,.complex .f64 ((itI j (pb k)).1) ((itI j (pb k)).2))]∧Below w1.heap.size w1 wv∧Below w.heap.size w wv∧mq=(q%4).toNat - j) ((q%4).toNat - 0) ?_ ?_
 ·exact⟨0,(by omega),Fr.sub (L':=[(7,.int .i64 ((0:Nat):Int)),(6,.int .i64 ((q)%4)),(4,.complex .f64 0 0),(0,.complex .f64 (fI (spk (k+24))) (fI (spk (k))))]) hF (by intro p hp;simp only [List.mem_cons,List.not_mem_nil,or_false] at hp ⊢;rcases hp with rfl|rfl|rfl|rfl <;> simp),Below.refl _ _,bel,rfl⟩
 ·rintro mq a w2 ⟨j,hj,hF,sty,bel,hm⟩
  by_cases hjn:((j:Nat):Int)<q%4
  ·refine wp_seq ?_
   refine E.seq ?_
   refine oV hF (av (hF.at 0 rfl) (hF.at 1 rfl) ab (aC (ce (c:=true) (aP hjn)) (by simp))) rfl fun a hF=>?_
   refine ns ?_
   refine wp_cond_true (hF.at 0 rfl) ?_
   refine wp_skip ?_
   refine E.norm ?_
   refine wp_seq ?_
   refine wp_block ?_
   refine E.seq ?_
   refine oM hF 4 rfl rfl fun a hF=>?_
   refine oV hF (av (hF.at 0 rfl) ao vw (vE (p:=itI j (pb k)) (tV k (by omega)))) rfl fun a hF=>?_
   refine E.opset (L':=[(0,.complex .f64 ((itI (j+1) (pb k)).1) ((itI (j+1) (pb k)).2)),(10,.complex .f64 ((itI (j+1) (pb k)).1) ((itI (j+1) (pb k)).2)),(9,.complex .f64 ((itI j (pb k)).1) ((itI j (pb k)).2)),(8,.bool true),(7,.int .i64 ((j:Nat):Int)),(6,.int .i64 ((q)%4)),(4,.complex .f64 0 0)]) hF (bz (hF.at 0 rfl)) rfl rfl rfl rfl fun a hF=>?_
   refine E.nil0 ?_
   refine E.blk ?_
   refine E.norm ?_
   refine E.seq ?_
   refine oV hF (av (hF.at 4 rfl) ao ab (bh (by omega) (by omega))) rfl fun a hF=>?_
   refine E.opset (L':=[(7,.int .i64 (((j:Nat):Int)+1)),(11,.int .i64 (((j:Nat):Int)+1)),(0,.complex .f64 ((itI (j+1) (pb k)).1) ((itI (j+1) (pb k)).2)),(10,.complex .f64 ((itI (j+1) (pb k)).1) ((itI (j+1) (pb k)).2)),(9,.complex .f64 ((itI j (pb k)).1) ((itI j (pb k)).2)),(8,.bool true),(6,.int .i64 ((q)%4)),(4,.complex .f64 0 0)]) hF (aY (hF.at 0 rfl)) rfl rfl rfl rfl fun a hF=>?_
   refine E.nil0 ?_
   refine E.norm ?_
   exact⟨(q%4).toNat - (j+1),by omega,⟨(j+1),(by omega),(by rw[show((j+1:Nat):Int)=((j:Nat):Int)+1 from by omega];exact Fr.sub (L':=[(7,.int .i64 (((j:Nat):Int)+1)),(6,.int .i64 ((q)%4)),(4,.complex .f64 0 0),(0,.complex .f64 ((itI (j+1) (pb k)).1) ((itI (j+1) (pb k)).2))]) hF (by intro p hp;simp only [List.mem_cons,List.not_mem_nil,or_false] at hp ⊢;rcases hp with rfl|rfl|rfl|rfl <;> simp)),sty,bel,rfl⟩⟩
  ·refine wp_seq ?_
   refine E.seq ?_
   refine oV hF (av (hF.at 0 rfl) (hF.at 1 rfl) ab (aC (ce (c:=false) (aZ hjn)) (by simp))) rfl fun a hF=>?_
   refine ns ?_
   refine wp_cond_false (hF.at 0 rfl) ?_
   refine wp_exit ?_
   refine E.past ?_
   refine E.past ?_
   refine E.out (id:=0) ?_
   refine E.norm ?_
   refine wq ?_
   refine oM hF 4 rfl rfl fun a hF=>?_
   refine oV hF (av (hF.at 0 rfl) ao vw (yU (pF k q (j:=j) (by omega)).1 (pF k q (j:=j) (by omega)).2)) rfl fun a hF=>?_
   refine E.opset (L':=[(4,.complex .f64 (fI (spk (k+24*q+24))) (fI (spk (k+24*q)))),(13,.complex .f64 (fI (spk (k+24*q+24))) (fI (spk (k+24*q)))),(12,.complex .f64 ((itI j (pb k)).1) ((itI j (pb k)).2)),(8,.bool false),(7,.int .i64 ((j:Nat):Int)),(6,.int .i64 ((q)%4)),(0,.complex .f64 ((itI j (pb k)).1) ((itI j (pb k)).2))]) hF (bz (hF.at 0 rfl)) rfl rfl rfl rfl fun a hF=>?_
   refine nr ?_
   refine rt Tryz.results196 hF 0 rfl ?_
   exact⟨rfl,bel⟩
theorem sM (x y:Int) (b q:Int) (w:World) (h1:x=spk (24-b)) (h2:y=spk b) (hb0:0≤b) (hb1:b<24):Calls Tryz.prog 196 #[.complex .f64 (fI x) (fI y),.int .i64 q] w (aX w (.complex .f64 (fI (spk ((b+24*q)+24))) (fI (spk ((b+24*q)))))):=by
 have e:spk (24-b)=spk (b+24):=by rw[←xt (b+24)];exact eO (by omega)
 rw[h1,h2,e]
 exact tY b q w
theorem rx (k:Int) (w:World) (hT:cG w):
 Calls Tryz.prog 191 #[.int .i64 k] w (aX w (.complex .f64 (fI (spk (k+24))) (fI (spk (k))))):=by
 have bel:Below w.heap.size w w:=Below.refl _ _
 refine go1 (nt:=22) Tryz.func191 rfl rfl rfl fun a hF=>?_
 refine wq ?_
 refine oC hF rfl fun a hF=>?_
 refine nq ?_
 refine oM hF 1 rfl rfl fun a hF=>?_
 refine E.call hF (rk xX (ar (hF.at 0 rfl) ao)) (rQ k _) rfl rfl rfl rfl ?_
 rintro e w1 ⟨rfl,bb⟩
 refine⟨_,rfl,?_⟩
 intro a hF
 replace bel:=aa bel bb
 clear bb
 refine oA hF 0 rfl rfl fun a hF=>?_
 refine nq ?_
 refine oM hF 0 rfl rfl fun a hF=>?_
 refine oV hF (av (hF.at 0 rfl) ao ab (jR (a:=(k)%96) (b:=24) (by omega) (by omega))) rfl fun a hF=>?_
 refine oA hF 0 rfl rfl fun a hF=>?_
 refine nq ?_
 refine oM hF 0 rfl rfl fun a hF=>?_
 refine oV hF (av ao (hF.at 0 rfl) ab (cC (by omega) (by omega))) rfl fun a hF=>?_
 refine E.call hF (rk nh (aB (hF.at 0 rfl))) (kE (24-(((k)%96)%24)) _ (hT.below bel)) rfl rfl rfl rfl ?_
 rintro e w2 ⟨rfl,bb⟩
 refine⟨_,rfl,?_⟩
 intro a hF
 replace bel:=aa bel bb
 clear bb
 refine oV hF (m7 (hF.at 0 rfl) (vj Tryz.underlying3 Tryz.underlying159)) rfl fun a hF=>?_
 refine oM hF 4 rfl rfl fun a hF=>?_
 refine E.call hF (rk nh (aB (hF.at 0 rfl))) (kE (((k)%96)%24) _ (hT.below bel)) rfl rfl rfl rfl ?_
 rintro e w3 ⟨rfl,bb⟩
 refine⟨_,rfl,?_⟩
 intro a hF
 replace bel:=aa bel bb
 clear bb
 refine oV hF (m7 (hF.at 0 rfl) (vj Tryz.underlying3 Tryz.underlying159)) rfl fun a hF=>?_
 refine oV hF (bG (ar (hF.at 3 rfl) (hF.at 0 rfl)) Aa) rfl fun a hF=>?_
 refine oA hF 0 rfl rfl fun a hF=>?_
 refine nq ?_
 refine oM hF 0 rfl rfl fun a hF=>?_
 refine oM hF 13 rfl rfl fun a hF=>?_
 refine oV hF (av (hF.at 0 rfl) ao ab (lS (a:=(k)%96) (b:=24) (by omega) (by omega) (by omega) (by omega))) rfl fun a hF=>?_
 refine E.call hF (rk AJ (ar (hF.at 2 rfl) (hF.at 0 rfl))) (sM _ _ (k%96%24) (((k)%96)/24) _ (tk (k:=24-(k%96%24)) (by omega) (by omega)) (tk (k:=(k%96%24)) (by omega) (by omega)) (by omega) (by omega)) rfl rfl rfl rfl ?_
 rintro e w4 ⟨rfl,bb⟩
 refine⟨_,rfl,?_⟩
 intro a hF
 replace bel:=aa bel bb
 clear bb
 refine oE hF 0 rfl rfl fun a hF=>?_
 refine nr ?_
 refine rt Tryz.results191 hF 0 rfl ?_
 exact⟨zA (congrArg fI (eO (by omega))) (congrArg fI (eO (by omega))),bel⟩
theorem jH (k:Int) (w:World) (hT:cG w):
 Calls Tryz.prog 180 #[.int .i64 k] w (aX w (.int .i64 (spk k))):=by
 have bel:Below w.heap.size w w:=Below.refl _ _
 refine go1 (nt:=7) Tryz.func180 rfl rfl rfl fun a hF=>?_
 refine wq ?_
 refine oC hF rfl fun a hF=>?_
 refine nq ?_
 refine oM hF 1 rfl rfl fun a hF=>?_
 refine E.call hF (rk Ar (aB (hF.at 0 rfl))) (rx k _ (hT.below bel)) rfl rfl rfl rfl ?_
 rintro e w1 ⟨rfl,bb⟩
 refine⟨_,rfl,?_⟩
 intro a hF
 replace bel:=aa bel bb
 clear bb
 refine oV hF (bG (aB (hF.at 0 rfl)) zp) rfl fun a hF=>?_
 refine oV hF (m7 (hF.at 0 rfl) (zP Tryz.underlying159 Tryz.underlying3 (zT (k)))) rfl fun a hF=>?_
 refine oE hF 0 rfl rfl fun a hF=>?_
 refine nr ?_
 refine rt Tryz.results180 hF 0 rfl ?_
 exact⟨rfl,bel⟩
end
section
end
section
theorem zW (w:World):∃g w',(Instr.buildSlice 35 25 #[(0,.int .i64 0),(1,.int .i64 225),(2,.int .i64 449),(3,.int .i64 671),(4,.int .i64 890),(5,.int .i64 1105),(6,.int .i64 1315),(7,.int .i64 1520),(8,.int .i64 1719),(9,.int .i64 1910),(10,.int .i64 2093),(11,.int .i64 2267),(12,.int .i64 2431),(13,.int .i64 2585),(14,.int .i64 2728),(15,.int .i64 2859),(16,.int .i64 2978),(17,.int .i64 3084),(18,.int .i64 3177),(19,.int .i64 3256),(20,.int .i64 3321),(21,.int .i64 3372),(22,.int .i64 3409),(23,.int .i64 3431),(24,.int .i64 3438)]).run Tryz.prog w= .ok (.slice (some ⟨g,0,none⟩) 25 25) w'∧Below w.heap.size w w'∧Blk w' g (hiT.map fun z=> .int .i64 z):=by
 have hb:=gA (w:=w) (cs:=hiT.map fun z=> .int .i64 z) 3
 refine⟨w.heap.size,w.alloc (.cells (hiT.map fun z=> .int .i64 z).toArray 3),?_,hb.2,hb.1⟩
 have hs:=bF (P:=Tryz.prog) (T:=3) (n:=1) (by kernel_rfl) w
 simp[Instr.buildSlice,go_sem,hs,Instr.fill,Value.cells,newRow,hiT]
theorem uq {w:World} {g n c:Nat} {i:Int} (h0:0≤i) (h1:i<n):(Instr.indexAt 35 (.slice (some ⟨g,0,none⟩) n c) (.int .i64 i)).run Tryz.prog w= .ok (.pointer (some ⟨g,i.toNat,none⟩)) w:=by
 simp[Instr.indexAt,asIntOf,run_underlying Tryz.underlying35,Sem.run_bind,h0,h1,Addr.add_mid]
theorem xS:∀n:Nat,n<25→(hiT.map fun z=>Value.int .i64 z)[n]?=some (.int .i64 (hiT.getD n 0)):=by
 intro n hn
 rw[List.getElem?_map,List.getElem?_eq_getElem (by show n<25;exact hn)]
 simp[List.getD,List.getElem?_eq_getElem (show n<hiT.length from hn)]
theorem zY (k:Int):(hiT.map fun z=>Value.int .i64 z)[(max 0 (min k 24)).toNat]?=some (.int .i64 (hiv k)):=xS _ (by omega)
def s48 (k:Int):Int:=hiv (if 24<k then 48-k else k)
theorem wV:∀n:Nat,n<48→s48 (n:Int)=spk (n:Int):=by decide+kernel
theorem mZ {k:Int} (h0:0≤k) (h1:k<48):s48 k=spk k:=by
 have:=wV k.toNat (by omega)
 rwa[show((k.toNat:Nat):Int)=k by omega] at this
theorem vS {k:Int} (h0:48≤k%96): -(s48 (k%96-48))=spk k:=by
 rw[mZ (by omega) (by omega)]
 have:=zl (k%96-48)
 rw[←iA k,←this,show k%96-48+48=k%96 by omega]
theorem ux {k:Int} (h0:¬48≤k%96):s48 (k%96)=spk k:=by
 rw[mZ (by omega) (by omega),iA]
theorem xP {k:Int} (h0:0≤k) (h1:k<48): -3438≤s48 k∧s48 k≤3438:=by rw[mZ h0 h1];exact ig k
theorem xg {a:Act} {x0 x1 x2 x3 x4 x5 x6 x7 x8 x9 x10 x11 x12 x13 x14 x15 x16 x17 x18 x19 x20 x21 x22 x23 x24:Value}:(#[(0,Operand.const x0),(1,Operand.const x1),(2,Operand.const x2),(3,Operand.const x3),(4,Operand.const x4),(5,Operand.const x5),(6,Operand.const x6),(7,Operand.const x7),(8,Operand.const x8),(9,Operand.const x9),(10,Operand.const x10),(11,Operand.const x11),(12,Operand.const x12),(13,Operand.const x13),(14,Operand.const x14),(15,Operand.const x15),(16,Operand.const x16),(17,Operand.const x17),(18,Operand.const x18),(19,Operand.const x19),(20,Operand.const x20),(21,Operand.const x21),(22,Operand.const x22),(23,Operand.const x23),(24,Operand.const x24)].map fun(p:Nat×Operand)=>(p.1,a.eval p.2))=#[(0,x0),(1,x1),(2,x2),(3,x3),(4,x4),(5,x5),(6,x6),(7,x7),(8,x8),(9,x9),(10,x10),(11,x11),(12,x12),(13,x13),(14,x14),(15,x15),(16,x16),(17,x17),(18,x18),(19,x19),(20,x20),(21,x21),(22,x22),(23,x23),(24,x24)]:=by simp[Act.eval]
theorem q9 (k:Int) (w:World):
 Calls Tryz.prog 192 #[.int .i64 k,.int .i64 96] w (aX w (.int .i64 (k%96))):=by
 have bel:Below w.heap.size w w:=Below.refl _ _
 refine go2 (nt:=12) Tryz.func192 rfl rfl rfl fun a hF=>?_
 refine wq ?_
 refine oC hF rfl fun a hF=>?_
 refine nq ?_
 refine oM hF 1 rfl rfl fun a hF=>?_
 refine oM hF 3 rfl rfl fun a hF=>?_
 refine oV hF (av (hF.at 1 rfl) (hF.at 0 rfl) ab (fY (a:=k) (b:=96) (by omega))) rfl fun a hF=>?_
 refine oM hF 5 rfl rfl fun a hF=>?_
 refine oV hF (av (hF.at 1 rfl) (hF.at 0 rfl) ab (bh (by omega) (by omega))) rfl fun a hF=>?_
 refine oM hF 7 rfl rfl fun a hF=>?_
 refine oV hF (av (hF.at 1 rfl) (hF.at 0 rfl) ab (fY (a:=(if 0≤k then k%96 else -(-k%96))+96) (b:=96) (by omega))) rfl fun a hF=>?_
 refine oE hF 0 rfl rfl fun a hF=>?_
 refine nr ?_
 refine rt Tryz.results192 hF 0 rfl ?_
 refine⟨bB ?_,bel⟩
 omega
theorem jg (k:Int) (w:World):
 Calls Tryz.prog 194 #[.int .i64 k] w (aX w (.int .i64 (hiv k))):=by
 have bel:Below w.heap.size w w:=Below.refl _ _
 refine go1 (nt:=9) Tryz.func194 rfl rfl rfl fun a hF=>?_
 refine wq ?_
 refine oC hF rfl fun a hF=>?_
 refine nq ?_
 obtain⟨gs2,w1,hr,bb,ols⟩:=zW w
 refine oV hF (eL xg hr) rfl fun a hF=>?_
 clear hr
 replace bel:=aa bel bb
 clear bb
 refine oM hF 2 rfl rfl fun a hF=>?_
 refine oV hF (bG (ar (hF.at 0 rfl) ao) m9) rfl fun a hF=>?_
 refine oV hF (bG (ar ao (hF.at 0 rfl)) nj) rfl fun a hF=>?_
 refine oV hF (iC (hF.at 3 rfl) (hF.at 0 rfl) (uq (by omega) (by omega))) rfl fun a hF=>?_
 refine oV hF (aw (hF.at 0 rfl) (cL (v:= .int .i64 (hiv k)) ols (zY k))) rfl fun a hF=>?_
 refine oE hF 0 rfl rfl fun a hF=>?_
 refine nr ?_
 refine rt Tryz.results194 hF 0 rfl ?_
 exact⟨rfl,bel⟩
theorem pW (k:Int) (w:World) (h0:0≤k) (h1:k<48):
 Calls Tryz.prog 193 #[.int .i64 k] w (aX w (.int .i64 (s48 k))):=by
 have bel:Below w.heap.size w w:=Below.refl _ _
 refine go1 (nt:=10) Tryz.func193 rfl rfl rfl fun a hF=>?_
 refine wq ?_
 refine oC hF rfl fun a hF=>?_
 refine ns ?_
 refine wq ?_
 refine oM hF 1 rfl rfl fun a hF=>?_
 by_cases hc1:24<k
 ·first
  |(exfalso;omega)
  |(refine oV hF (av (hF.at 0 rfl) ao ab (aC (dR (c:=true) (aP hc1)) (by simp))) rfl fun a hF=>?_
    refine E.nil ?_
    refine wp_cond_true (hF.at 0 rfl) ?_
    refine wq ?_
    refine oM hF 3 rfl rfl fun a hF=>?_
    refine oV hF (av ao (hF.at 0 rfl) ab (cC (by omega) (by omega))) rfl fun a hF=>?_
    refine E.call hF (rk ik (aB (hF.at 0 rfl))) (jg (48-k) _) rfl rfl rfl rfl ?_
    rintro e w2 ⟨rfl,bb⟩
    refine⟨_,rfl,?_⟩
    intro a hF
    replace bel:=aa bel bb
    clear bb
    refine oE hF 0 rfl rfl fun a hF=>?_
    refine nr ?_
    refine rt Tryz.results193 hF 0 rfl ?_
    refine⟨bB ?_,bel⟩
    unfold s48;rw[if_pos (by omega)])
 ·first
  |(exfalso;omega)
  |(refine oV hF (av (hF.at 0 rfl) ao ab (aC (dR (c:=false) (aZ hc1)) (by simp))) rfl fun a hF=>?_
    refine E.nil ?_
    refine wp_cond_false (hF.at 0 rfl) ?_
    refine wp_skip ?_
    refine E.norm ?_
    refine wq ?_
    refine oM hF 3 rfl rfl fun a hF=>?_
    refine E.call hF (rk ik (aB (hF.at 0 rfl))) (jg k _) rfl rfl rfl rfl ?_
    rintro e w3 ⟨rfl,bb⟩
    refine⟨_,rfl,?_⟩
    intro a hF
    replace bel:=aa bel bb
    clear bb
    refine oE hF 0 rfl rfl fun a hF=>?_
    refine nr ?_
    refine rt Tryz.results193 hF 0 rfl ?_
    refine⟨bB ?_,bel⟩
    unfold s48;rw[if_neg (by omega)])
theorem jK (k:Int) (w:World):
 Calls Tryz.prog 186 #[.int .i64 k] w (aX w (.int .i64 (spk k))):=by
 have hsb:=fun h0=>xP (k:=(k%96)-48) h0 (by omega)
 have bel:Below w.heap.size w w:=Below.refl _ _
 refine go1 (nt:=13) Tryz.func186 rfl rfl rfl fun a hF=>?_
 refine wq ?_
 refine oC hF rfl fun a hF=>?_
 refine nq ?_
 refine oM hF 1 rfl rfl fun a hF=>?_
 refine E.call hF (rk AC (ar (hF.at 0 rfl) ao)) (q9 k _) rfl rfl rfl rfl ?_
 rintro e w1 ⟨rfl,bb⟩
 refine⟨_,rfl,?_⟩
 intro a hF
 replace bel:=aa bel bb
 clear bb
 refine oE hF 0 rfl rfl fun a hF=>?_
 refine ns ?_
 refine wq ?_
 refine oM hF 0 rfl rfl fun a hF=>?_
 by_cases hc2:48≤(k)%96
 ·first
  |(exfalso;omega)
  |(refine oV hF (av (hF.at 0 rfl) ao ab (aC (gK (c:=true) (aP hc2)) (by simp))) rfl fun a hF=>?_
    refine E.nil ?_
    refine wp_cond_true (hF.at 0 rfl) ?_
    refine wq ?_
    refine oM hF 2 rfl rfl fun a hF=>?_
    refine oV hF (av (hF.at 0 rfl) ao ab (cC (by omega) (by omega))) rfl fun a hF=>?_
    refine E.call hF (rk yG (aB (hF.at 0 rfl))) (pW (((k)%96)-48) _ (by omega) (by omega)) rfl rfl rfl rfl ?_
    rintro e w3 ⟨rfl,bb⟩
    refine⟨_,rfl,?_⟩
    intro a hF
    replace bel:=aa bel bb
    clear bb
    refine oV hF (lU (hF.at 0 rfl) (xE (by omega) (by omega))) rfl fun a hF=>?_
    refine oE hF 0 rfl rfl fun a hF=>?_
    refine nr ?_
    refine rt Tryz.results186 hF 0 rfl ?_
    refine⟨bB ?_,bel⟩
    exact vS (by omega))
 ·first
  |(exfalso;omega)
  |(refine oV hF (av (hF.at 0 rfl) ao ab (aC (gK (c:=false) (aZ hc2)) (by simp))) rfl fun a hF=>?_
    refine E.nil ?_
    refine wp_cond_false (hF.at 0 rfl) ?_
    refine wp_skip ?_
    refine E.norm ?_
    refine wq ?_
    refine oM hF 2 rfl rfl fun a hF=>?_
    refine E.call hF (rk yG (aB (hF.at 0 rfl))) (pW ((k)%96) _ (by omega) (by omega)) rfl rfl rfl rfl ?_
    rintro e w4 ⟨rfl,bb⟩
    refine⟨_,rfl,?_⟩
    intro a hF
    replace bel:=aa bel bb
    clear bb
    refine oE hF 0 rfl rfl fun a hF=>?_
    refine nr ?_
    refine rt Tryz.results186 hF 0 rfl ?_
    refine⟨bB ?_,bel⟩
    exact ux (by omega))
theorem tabD_of {w:World} (h:Lib.TabIs Tryz.prog w "ephemeris/dial.heights" .i64 [0,225,449,671,890,1105,1315,1520,1719,1910,2093,2267,2431,2585,2728,2859,2978,3084,3177,3256,3321,3372,3409,3431,3438]):cG w:=fun i hi=>h.cell (by kernel_rfl) i hi
end
end
end Go.Proofs.YtplngpfpcheofaaGreatDoor
