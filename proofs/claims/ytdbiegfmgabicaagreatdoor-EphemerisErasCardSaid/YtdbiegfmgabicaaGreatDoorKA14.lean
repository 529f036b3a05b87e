import Derived.Test.YtdbiegfmgabicaaGreatDoorKA7
import Derived.Laws.FloatArith
import Derived.Lib.LaidTab
namespace Go.Proofs.YtdbiegfmgabicaaGreatDoor
open Go.RowKit
set_option maxRecDepth 100000
set_option linter.unusedVariables false
set_option maxHeartbeats 8000000
section
section
def fI (x:Int):Nat:=FloatKind.f64.nearest x
section
variable {P:Program} {w:World}
theorem GV {op:BinOp} {t:TypeId} {x y:Operand} {k l:FloatKind} {a b c d:Nat}:(eqGuard op t x y (.complex k a b) (.complex l c d)).run P w= .ok () w:=by
 unfold eqGuard;split <;> rfl
theorem Lb {t:TypeId} {a b c d x y:Nat} (h:Ieee.double.add a c=some x) (k:Ieee.double.add b d=some y):(binOp .add t (.complex .f64 a b) (.complex .f64 c d)).run P w= .ok (.complex .f64 x y) w:=by
 simp[binOp,Op.complexOp,Op.Complex.arith,Op.floatArith,FloatKind.format,h,k]
def frc {α:Type} (n:Nat) (f:Nat→α):α:=Nat.rec (f 0) (fun m _=>f (m+1)) n
theorem rB {α:Type} (n:Nat) (f:Nat→α):frc n f=f n:=by cases n <;> rfl
def oq {α:Type} (x:Option Nat) (f:Nat→Option α):Option α:=match x with
 |none=>none
 |some n=>frc n f
theorem Ho {α:Type} (x:Option Nat) (f:Nat→Option α):oq x f=x.bind f:=by cases x <;> simp[oq,rB]
def mulI (p:Nat×Nat):Option (Nat×Nat):=
 frc p.1 fun a=>frc p.2 fun b=>oq (Ieee.double.mul a 0) fun ac=>oq (Ieee.double.mul b 4607182418800017408) fun bd=>
 oq (Ieee.double.sub ac bd) fun re=>oq (Ieee.double.mul a 4607182418800017408) fun ad=>oq (Ieee.double.mul b 0) fun bc=>
 oq (Ieee.double.add ad bc) fun im=>some (re,im)
theorem Jm {t:TypeId} {p q:Nat×Nat} (h:mulI p=some q):(binOp .mul t (.complex .f64 p.1 p.2) (.complex .f64 0 4607182418800017408)).run P w= .ok (.complex .f64 q.1 q.2) w:=by
 unfold mulI at h
 simp only [rB,Ho,Option.bind_eq_some_iff,Option.some.injEq] at h
 obtain⟨ac,e1,bd,e2,re,e3,ad,e4,bc,e5,im,e6,rfl⟩:=h
 simp[binOp,Op.complexOp,Op.Complex.product,Op.Complex.conv,Op.Complex.mul,Op.Complex.sub,Op.Complex.add,Op.Complex.arith,Op.floatArith,FloatKind.format,e1,e2,e3,e4,e5,e6]
theorem Mu {t:TypeId} {ts:Array TypeId} {cs:Array Bool} {a b:Nat}:(builtin .complex ts t cs #[.float .f64 a,.float .f64 b]).run P w= .ok (.value (.complex .f64 a b)) w:=by
 rfl
theorem MH {t:TypeId} {ts:Array TypeId} {cs:Array Bool} {a b:Nat}:(builtin .imag ts t cs #[.complex .f64 a b]).run P w= .ok (.value (.float .f64 b)) w:=by
 rfl
theorem Gf {s t:TypeId} {n:Int} (hs:P.underlying s=some (.int .i64)) (ht:P.underlying t=some (.float .f64)):(convert s t (.int .i64 n)).run P w= .ok (.float .f64 (fI n)) w:=by
 simp[convert,run_underlying hs,run_underlying ht,Conv.intToFloat,fI]
theorem My {s t:TypeId} {b:Nat} {n:Int} (hs:P.underlying s=some (.float .f64)) (ht:P.underlying t=some (.int .i64)) (h:floatToIntVal .f64 b .i64 =some n):(convert s t (.float .f64 b)).run P w= .ok (.int .i64 n) w:=
 run_convert_float_int w s t .f64 .i64 b n (by rw[hs];rfl) ht h
end
end
section
def hiT:List Int:=[0,225,449,671,890,1105,1315,1520,1719,1910,2093,2267,2431,2585,2728,2859,2978,3084,3177,3256,3321,3372,3409,3431,3438]
def sn0 (n:Nat):Int:=if n<24 then hiT.getD n 0 else if n<48 then hiT.getD (48-n) 0 else if n<72 then -hiT.getD (n-48) 0 else -hiT.getD (96-n) 0
def spk (k:Int):Int:=sn0 (k%96).toNat
theorem jP (k:Int):spk (k%96)=spk k:=by unfold spk;rw[Int.emod_emod_of_dvd _ (Int.dvd_refl _)]
theorem IQ (k n:Int):spk (k+96*n)=spk k:=by unfold spk;rw[Int.add_mul_emod_self_left]
theorem mo (P:Int→Prop) (h:∀n:Nat,n<96→P (n:Int)) (k:Int):P (k%96):=by
 have:=h (k%96).toNat (by omega)
 rwa[show(((k%96).toNat :Nat):Int)=k%96 by omega] at this
theorem eX {a b:Int} (h:a%96=b%96):spk a=spk b:=by unfold spk;rw[h]
theorem JV (k:Int):spk (-k)= -spk k:=by
 have:=mo (fun r=>spk (-r)= -spk r) (by decide+kernel) k
 rw[jP] at this
 rw[←this];exact eX (by omega)
theorem mF (k:Int):spk (48-k)=spk k:=by
 have:=mo (fun r=>spk (48-r)=spk r) (by decide+kernel) k
 rw[jP] at this
 rw[←this];exact eX (by omega)
theorem AX (k:Int):spk (k+48)= -spk k:=by
 have:=mo (fun r=>spk (r+48)= -spk r) (by decide+kernel) k
 rw[jP] at this
 rw[←this];exact eX (by omega)
theorem ke (k:Int): -3438≤spk k∧spk k≤3438:=by
 have:=mo (fun r=> -3438≤spk r∧spk r≤3438) (by decide+kernel) k
 rwa[jP] at this
theorem ic (k:Int): -225≤spk (k+1)-spk k∧spk (k+1)-spk k≤225:=by
 have:=mo (fun r=> -225≤spk (r+1)-spk r∧spk (r+1)-spk r≤225) (by decide+kernel) k
 rw[jP,eX (b:=k+1) (by omega)] at this
 exact this
theorem pN {k:Int} (h: -24≤k) (h':k<24):spk k<spk (k+1):=by
 have h2:∀n:Nat,n<48→spk ((n:Int)-24)<spk ((n:Int)-24+1):=by decide+kernel
 have:=h2 (k+24).toNat (by omega)
 rwa[show(((k+24).toNat :Nat):Int)-24=k by omega] at this
theorem M1 {a b:Int} (h: -24≤a) (h2:a≤b) (h3:b≤24):spk a≤spk b:=by
 obtain⟨n,rfl⟩:∃n:Nat,b=a+n:=⟨(b-a).toNat,by omega⟩
 clear h2
 induction n with
 |zero=>simp
 |succ n ih=>
  have:=pN (k:=a+n) (by omega) (by omega)
  have:=ih (by omega)
  rw[show a+((n+1:Nat):Int)=a+n+1 by omega]
  omega
theorem xk (k:Int):(spk k*spk k+spk (k+24)*spk (k+24)-11819844≤4000∧ -4000≤spk k*spk k+spk (k+24)*spk (k+24)-11819844)∧(spk k*spk (k+1)+spk (k+24)*spk (k+25)-11819844≤4000∧ -30000≤spk k*spk (k+1)+spk (k+24)*spk (k+25)-11819844):=by
 have:=mo (fun k=>(spk k*spk k+spk (k+24)*spk (k+24)-11819844≤4000∧ -4000≤spk k*spk k+spk (k+24)*spk (k+24)-11819844)∧(spk k*spk (k+1)+spk (k+24)*spk (k+25)-11819844≤4000∧ -30000≤spk k*spk (k+1)+spk (k+24)*spk (k+25)-11819844)) (by decide+kernel) k
 rw[jP,eX (a:=k%96+1) (b:=k+1) (by omega),eX (a:=k%96+24) (b:=k+24) (by omega),eX (a:=k%96+25) (b:=k+25) (by omega)] at this
 exact this
end
section
def hiv (k:Int):Int:=hiT.getD (max 0 (min k 24)).toNat 0
theorem H3:∀n:Nat,n<25→hiv (n:Int)=spk (n:Int):=by decide+kernel
theorem BQ {k:Int} (h0:0≤k) (h1:k≤24):hiv k=spk k:=by
 have:=H3 k.toNat (by omega)
 rwa[show((k.toNat:Nat):Int)=k by omega] at this
def bG (w:World):Prop:=∀i:Nat,i<25→Cel w 2 i (.int .i64 (hiT.getD i 0))
theorem bG.below {w w':World} (h:bG w) (hb:Below w.heap.size w w'):bG w':=fun i hi=>(h i hi).below hb
theorem bG.at {w:World} (h:bG w) (k:Int):Cel w 2 (max 0 (min k 24)).toNat (.int .i64 (hiv k)):=h _ (by omega)
theorem H6 {w:World} {i:Int} (h0:0≤i) (h1:i<25):(Instr.indexAt 208 (.pointer (some ⟨2,0,none⟩)) (.int .i64 i)).run Tryz.prog w= .ok (.pointer (some ⟨2,i.toNat,none⟩)) w:=by
 simp[Instr.indexAt,asIntOf,Instr.sureAddr,run_underlying Tryz.underlying208,Sem.run_bind,h0,h1,Addr.add_mid]
def pb (k:Int):Nat×Nat:=(fI (spk (k+24)),fI (spk k))
theorem pQ {a b:Int} (h:a%96=b%96):pb a=pb b:=by unfold pb;rw[eX h,eX (a:=a+24) (b:=b+24) (by omega)]
def adI (p q:Nat×Nat):Bool:=frc q.1 fun x=>frc q.2 fun y=>decide (Ieee.double.add p.1 0=some x) && decide (Ieee.double.add p.2 0=some y)
theorem Lu {p q:Nat×Nat} (h:adI p q=true):Ieee.double.add p.1 0=some q.1∧Ieee.double.add p.2 0=some q.2:=by
 unfold adI at h
 simp only [rB,Bool.and_eq_true,decide_eq_true_eq] at h
 exact h
def itI:Nat→Nat×Nat→Nat×Nat
 |0,p=>p
 |j+1,p=>(mulI (itI j p)).getD (0,0)
def chI (a:Nat×Nat) (p1 p2 p3 p4:Nat×Nat):Bool:=
 frc a.1 fun x0=>frc a.2 fun y0=>match mulI (x0,y0) with
 |none=>false
 |some b=>frc b.1 fun x1=>frc b.2 fun y1=>match mulI (x1,y1) with
  |none=>false
  |some c=>frc c.1 fun x2=>frc c.2 fun y2=>match mulI (x2,y2) with
   |none=>false
   |some d=>frc d.1 fun x3=>frc d.2 fun y3=>
    adI (x0,y0) p1 && adI (x1,y1) p2 && adI (x2,y2) p3 && adI (x3,y3) p4
theorem CA {a p1 p2 p3 p4:Nat×Nat} (h:chI a p1 p2 p3 p4=true):(∀j,j<3→mulI (itI j a)=some (itI (j+1) a))∧adI (itI 0 a) p1=true∧adI (itI 1 a) p2=true∧adI (itI 2 a) p3=true∧adI (itI 3 a) p4=true:=by
 unfold chI at h
 simp only [rB] at h
 split at h
 ·cases h
 ·rename_i b hb
  split at h
  ·cases h
  ·rename_i c hc
   split at h
   ·cases h
   ·rename_i d hd
    have e1:itI 1 a=b:=by show(mulI a).getD (0,0)=b;rw[show mulI a=some b from hb];rfl
    have e2:itI 2 a=c:=by show(mulI (itI 1 a)).getD (0,0)=c;rw[e1,show mulI b=some c from hc];rfl
    have e3:itI 3 a=d:=by show(mulI (itI 2 a)).getD (0,0)=d;rw[e2,show mulI c=some d from hd];rfl
    simp only [Bool.and_eq_true] at h
    refine⟨fun j hj=>?_,h.1.1.1,by rw[e1];exact h.1.1.2,by rw[e2];exact h.1.2,by rw[e3];exact h.2⟩
    have:j=0∨j=1∨j=2:=by omega
    rcases this with rfl|rfl|rfl
    ·rw[e1];exact hb
    ·rw[e1,e2];exact hc
    ·rw[e2,e3];exact hd
theorem yj:∀n:Nat,n<96→chI (pb (n:Int)) (pb (n:Int)) (pb ((n:Int)+24)) (pb ((n:Int)+48)) (pb ((n:Int)+72))=true:=by decide+kernel
theorem EY (k:Int) {j:Nat} (h:j<3):mulI (itI j (pb k))=some (itI (j+1) (pb k)):=by
 have:=(CA (yj (k%96).toNat (by omega))).1 j h
 rwa[pQ (b:=k) (by omega)] at this
theorem nw {p:Nat×Nat} {m n:Int} (h:adI p (pb m)=true) (e:m%96=n%96):Ieee.double.add p.1 0=some (fI (spk (n+24)))∧Ieee.double.add p.2 0=some (fI (spk n)):=by
 obtain⟨a,b⟩:=Lu h
 exact⟨a.trans (congrArg (fun p=>some p.1) (pQ e)),b.trans (congrArg (fun p=>some p.2) (pQ e))⟩
theorem zr (k q:Int) {j:Nat} (h:((j:Nat):Int)=q%4):Ieee.double.add (itI j (pb k)).1 0=some (fI (spk (k+24*q+24)))∧Ieee.double.add (itI j (pb k)).2 0=some (fI (spk (k+24*q))):=by
 obtain⟨_,h0,h1,h2,h3⟩:=CA (yj (k%96).toNat (by omega))
 have ek:pb (((k%96).toNat :Nat):Int)=pb k:=pQ (by omega)
 rw[ek] at h0 h1 h2 h3
 have hj:j=0∨j=1∨j=2∨j=3:=by omega
 rcases hj with rfl|rfl|rfl|rfl
 ·exact nw h0 (by omega)
 ·exact nw h1 (by omega)
 ·exact nw h2 (by omega)
 ·exact nw h3 (by omega)
theorem KA:∀n:Nat,n<96→floatToIntVal .f64 (fI (spk (n:Int))) .i64 =some (spk (n:Int)):=by decide+kernel
theorem MX (k:Int):floatToIntVal .f64 (fI (spk k)) .i64 =some (spk k):=by
 have:=KA (k%96).toNat (by omega)
 rwa[eX (b:=k) (by omega)] at this
theorem Na {a b c d:Nat} (h:a=c) (k:b=d):Ending.returned (.complex .f64 a b)= .returned (.complex .f64 c d):=by rw[h,k]
theorem DU (k:Int) (w:World):
 Calls Tryz.prog 246 #[.int .i64 k,.int .i64 4] w (aG w (.int .i64 (k%4))):=by
 have bel:Below w.heap.size w w:=Below.refl _ _
 refine go2 (nt:=12) Tryz.func246 rfl rfl rfl fun a hF=>?_
 refine wq ?_
 refine oC hF rfl fun a hF=>nq ?_
 refine oM hF 1 rfl rfl fun a hF=>oM hF 3 rfl rfl fun a hF=>oV hF (aq hF.p hF.o ab (gT (a:=k) (b:=4) (by omega))) rfl fun a hF=>oM hF 5 rfl rfl fun a hF=>oV hF (aq hF.p hF.o ab (bj (by omega) (by omega))) rfl fun a hF=>oM hF 7 rfl rfl fun a hF=>oV hF (aq hF.p hF.o ab (gT (a:=(if 0≤k then k%4 else -(-k%4))+4) (b:=4) (by omega))) rfl fun a hF=>?_
 refine oE hF 0 rfl rfl fun a hF=>nr ?_
 refine rt Tryz.results246 hF 0 rfl ?_
 refine⟨bS ?_,bel⟩
 omega
theorem Be (k:Int) (w:World):
 Calls Tryz.prog 246 #[.int .i64 k,.int .i64 96] w (aG w (.int .i64 (k%96))):=by
 have bel:Below w.heap.size w w:=Below.refl _ _
 refine go2 (nt:=12) Tryz.func246 rfl rfl rfl fun a hF=>?_
 refine wq ?_
 refine oC hF rfl fun a hF=>nq ?_
 refine oM hF 1 rfl rfl fun a hF=>oM hF 3 rfl rfl fun a hF=>oV hF (aq hF.p hF.o ab (gT (a:=k) (b:=96) (by omega))) rfl fun a hF=>oM hF 5 rfl rfl fun a hF=>oV hF (aq hF.p hF.o ab (bj (by omega) (by omega))) rfl fun a hF=>oM hF 7 rfl rfl fun a hF=>oV hF (aq hF.p hF.o ab (gT (a:=(if 0≤k then k%96 else -(-k%96))+96) (b:=96) (by omega))) rfl fun a hF=>?_
 refine oE hF 0 rfl rfl fun a hF=>nr ?_
 refine rt Tryz.results246 hF 0 rfl ?_
 refine⟨bS ?_,bel⟩
 omega
theorem qH (k:Int) (w:World) (hT:bG w):
 Calls Tryz.prog 232 #[.int .i64 k] w (aG w (.int .i64 (hiv k))):=by
 have bel:Below w.heap.size w w:=Below.refl _ _
 refine go1 (nt:=8) Tryz.func232 rfl rfl rfl fun a hF=>?_
 refine wq ?_
 refine oC hF rfl fun a hF=>nq ?_
 refine oM hF 1 rfl rfl fun a hF=>oV hF (bI (aI hF.o ar) mt) rfl fun a hF=>oV hF (bI (aI ar hF.o) rT) rfl fun a hF=>oV hF (eI rfl hF.o (H6 (by omega) (by omega))) rfl fun a hF=>oV hF (au hF.o (s8 ((hT.below bel).at k))) rfl fun a hF=>oE hF 0 rfl rfl fun a hF=>nr ?_
 refine rt Tryz.results232 hF 0 rfl ?_
 exact⟨rfl,bel⟩
theorem En (k q:Int) (w:World):
 Calls Tryz.prog 247 #[.complex .f64 (fI (spk (k+24))) (fI (spk (k))),.int .i64 q] w (aG w (.complex .f64 (fI (spk ((k+24*q)+24))) (fI (spk ((k+24*q)))))):=by
 have bel:Below w.heap.size w w:=Below.refl _ _
 refine go2 (nt:=14) Tryz.func247 rfl rfl rfl fun a hF=>?_
 refine wq ?_
 refine oC hF rfl fun a hF=>ns ?_
 refine wq ?_
 refine oM hF 2 rfl rfl fun a hF=>?_
 refine E.call hF (rk Gx (aI hF.o ar)) (DU q _) rfl rfl rfl rfl ?_
 rintro e w1 ⟨rfl,bb⟩
 refine⟨_,rfl,?_⟩
 intro a hF
 replace bel:=aC bel bb
 clear bb
 refine oV hF (aN ar) rfl fun a hF=>?_
 refine E.nil ?_
 refine wp_block ?_
 refine E.loop (fun mq a wv=>∃(j:Nat),((j:Nat):Int)≤q%4∧Fr 14 a [(7,.int .i64 ((j:Nat):Int)),(6,.int .i64 ((q)%4)),(4,.complex .f64 0 0),(0,.complex .f64 ((itI j (pb k)).1) ((itI j (pb k)).2))]∧Below w1.heap.size w1 wv∧Below w.heap.size w wv∧mq=(q%4).toNat - j) ((q%4).toNat - 0) ?_ ?_
 ·exact⟨0,(by omega),Fr.sub (L':=[(7,.int .i64 ((0:Nat):Int)),(6,.int .i64 ((q)%4)),(4,.complex .f64 0 0),(0,.complex .f64 (fI (spk (k+24))) (fI (spk (k))))]) hF (by intro p hp;simp only [List.mem_cons,List.not_mem_nil,or_false] at hp ⊢;rcases hp with rfl|rfl|rfl|rfl <;> simp),Below.refl _ _,bel,rfl⟩
 ·rintro mq a w2 ⟨j,hj,hF,sty,bel,hm⟩
  by_cases hjn:((j:Nat):Int)<q%4
  ·refine wp_seq ?_
   refine E.seq ?_
   refine oU hF 0 1 (bM (c:=true) (aL hjn)) rfl rfl rfl fun a hF=>ns ?_
   refine wp_cond_true hF.o ?_
   refine wp_skip ?_
   refine E.norm ?_
   refine wp_seq ?_
   refine wp_block ?_
   refine E.seq ?_
   refine oM hF 4 rfl rfl fun a hF=>oV hF (aq hF.o ar GV (Jm (p:=itI j (pb k)) (EY k (by omega)))) rfl fun a hF=>?_
   refine E.opset (L':=[(0,.complex .f64 ((itI (j+1) (pb k)).1) ((itI (j+1) (pb k)).2)),(10,.complex .f64 ((itI (j+1) (pb k)).1) ((itI (j+1) (pb k)).2)),(9,.complex .f64 ((itI j (pb k)).1) ((itI j (pb k)).2)),(8,.bool true),(7,.int .i64 ((j:Nat):Int)),(6,.int .i64 ((q)%4)),(4,.complex .f64 0 0)]) hF (a8 hF.o) rfl rfl rfl rfl fun a hF=>?_
   refine E.nil0 ?_
   refine E.blk ?_
   refine E.norm ?_
   refine E.seq ?_
   refine oV hF (aq (hF.at 4 rfl) ar ab (bj (by omega) (by omega))) rfl fun a hF=>?_
   refine E.opset (L':=[(7,.int .i64 (((j:Nat):Int)+1)),(11,.int .i64 (((j:Nat):Int)+1)),(0,.complex .f64 ((itI (j+1) (pb k)).1) ((itI (j+1) (pb k)).2)),(10,.complex .f64 ((itI (j+1) (pb k)).1) ((itI (j+1) (pb k)).2)),(9,.complex .f64 ((itI j (pb k)).1) ((itI j (pb k)).2)),(8,.bool true),(6,.int .i64 ((q)%4)),(4,.complex .f64 0 0)]) hF (aN hF.o) rfl rfl rfl rfl fun a hF=>?_
   refine E.nil0 ?_
   refine E.norm ?_
   exact⟨(q%4).toNat - (j+1),by omega,⟨(j+1),(by omega),(by rw[show((j+1:Nat):Int)=((j:Nat):Int)+1 from by omega];exact Fr.sub (L':=[(7,.int .i64 (((j:Nat):Int)+1)),(6,.int .i64 ((q)%4)),(4,.complex .f64 0 0),(0,.complex .f64 ((itI (j+1) (pb k)).1) ((itI (j+1) (pb k)).2))]) hF (by intro p hp;simp only [List.mem_cons,List.not_mem_nil,or_false] at hp ⊢;rcases hp with rfl|rfl|rfl|rfl <;> simp)),sty,bel,rfl⟩⟩
  ·refine wp_seq ?_
   refine E.seq ?_
   refine oU hF 0 1 (bM (c:=false) (aV hjn)) rfl rfl rfl fun a hF=>ns ?_
   refine wp_cond_false hF.o ?_
   refine wp_exit ?_
   refine E.past ?_
   refine E.past ?_
   refine E.out (id:=0) ?_
   refine E.norm ?_
   refine wq ?_
   refine oM hF 4 rfl rfl fun a hF=>oV hF (aq hF.o ar GV (Lb (zr k q (j:=j) (by omega)).1 (zr k q (j:=j) (by omega)).2)) rfl fun a hF=>?_
   refine E.opset (L':=[(4,.complex .f64 (fI (spk (k+24*q+24))) (fI (spk (k+24*q)))),(13,.complex .f64 (fI (spk (k+24*q+24))) (fI (spk (k+24*q)))),(12,.complex .f64 ((itI j (pb k)).1) ((itI j (pb k)).2)),(8,.bool false),(7,.int .i64 ((j:Nat):Int)),(6,.int .i64 ((q)%4)),(0,.complex .f64 ((itI j (pb k)).1) ((itI j (pb k)).2))]) hF (a8 hF.o) rfl rfl rfl rfl fun a hF=>?_
   refine nr ?_
   refine rt Tryz.results247 hF 0 rfl ?_
   exact⟨rfl,bel⟩
theorem Bt (x y:Int) (b q:Int) (w:World) (h1:x=spk (24-b)) (h2:y=spk b) (hb0:0≤b) (hb1:b<24):Calls Tryz.prog 247 #[.complex .f64 (fI x) (fI y),.int .i64 q] w (aG w (.complex .f64 (fI (spk ((b+24*q)+24))) (fI (spk ((b+24*q)))))):=by
 have e:spk (24-b)=spk (b+24):=by rw[←mF (b+24)];exact eX (by omega)
 rw[h1,h2,e]
 exact En b q w
theorem A4 (k:Int) (w:World) (hT:bG w):
 Calls Tryz.prog 242 #[.int .i64 k] w (aG w (.complex .f64 (fI (spk (k+24))) (fI (spk (k))))):=by
 have bel:Below w.heap.size w w:=Below.refl _ _
 refine go1 (nt:=22) Tryz.func242 rfl rfl rfl fun a hF=>?_
 refine wq ?_
 refine oC hF rfl fun a hF=>nq ?_
 refine oM hF 1 rfl rfl fun a hF=>?_
 refine E.call hF (rk Gx (aI hF.o ar)) (Be k _) rfl rfl rfl rfl ?_
 rintro e w1 ⟨rfl,bb⟩
 refine⟨_,rfl,?_⟩
 intro a hF
 replace bel:=aC bel bb
 clear bb
 refine oA hF 0 rfl rfl fun a hF=>nq ?_
 refine oM hF 0 rfl rfl fun a hF=>oV hF (aq hF.o ar ab (kD (a:=(k)%96) (b:=24) (by omega) (by omega))) rfl fun a hF=>oA hF 0 rfl rfl fun a hF=>nq ?_
 refine oM hF 0 rfl rfl fun a hF=>oV hF (aq ar hF.o ab (bN (by omega) (by omega))) rfl fun a hF=>?_
 refine E.call hF (rk G6 (aD hF.o)) (qH (24-(((k)%96)%24)) _ (hT.below bel)) rfl rfl rfl rfl ?_
 rintro e w2 ⟨rfl,bb⟩
 refine⟨_,rfl,?_⟩
 intro a hF
 replace bel:=aC bel bb
 clear bb
 refine oV hF (fA hF.o (Gf Tryz.underlying3 Tryz.underlying205)) rfl fun a hF=>oM hF 4 rfl rfl fun a hF=>?_
 refine E.call hF (rk G6 (aD hF.o)) (qH (((k)%96)%24) _ (hT.below bel)) rfl rfl rfl rfl ?_
 rintro e w3 ⟨rfl,bb⟩
 refine⟨_,rfl,?_⟩
 intro a hF
 replace bel:=aC bel bb
 clear bb
 refine oV hF (fA hF.o (Gf Tryz.underlying3 Tryz.underlying205)) rfl fun a hF=>oV hF (bI (aI (hF.at 3 rfl) hF.o) Mu) rfl fun a hF=>oA hF 0 rfl rfl fun a hF=>nq ?_
 refine oM hF 0 rfl rfl fun a hF=>oM hF 13 rfl rfl fun a hF=>oV hF (aq hF.o ar ab (s7 (a:=(k)%96) (b:=24) (by omega) (by omega) (by omega) (by omega))) rfl fun a hF=>?_
 refine E.call hF (rk Nf (aI hF.q hF.o)) (Bt _ _ (k%96%24) (((k)%96)/24) _ (BQ (k:=24-(k%96%24)) (by omega) (by omega)) (BQ (k:=(k%96%24)) (by omega) (by omega)) (by omega) (by omega)) rfl rfl rfl rfl ?_
 rintro e w4 ⟨rfl,bb⟩
 refine⟨_,rfl,?_⟩
 intro a hF
 replace bel:=aC bel bb
 clear bb
 refine oE hF 0 rfl rfl fun a hF=>nr ?_
 refine rt Tryz.results242 hF 0 rfl ?_
 exact⟨Na (congrArg fI (eX (by omega))) (congrArg fI (eX (by omega))),bel⟩
theorem oJ (k:Int) (w:World) (hT:bG w):
 Calls Tryz.prog 231 #[.int .i64 k] w (aG w (.int .i64 (spk k))):=by
 have bel:Below w.heap.size w w:=Below.refl _ _
 refine go1 (nt:=7) Tryz.func231 rfl rfl rfl fun a hF=>?_
 refine wq ?_
 refine oC hF rfl fun a hF=>nq ?_
 refine oM hF 1 rfl rfl fun a hF=>?_
 refine E.call hF (rk MV (aD hF.o)) (A4 k _ (hT.below bel)) rfl rfl rfl rfl ?_
 rintro e w1 ⟨rfl,bb⟩
 refine⟨_,rfl,?_⟩
 intro a hF
 replace bel:=aC bel bb
 clear bb
 refine oV hF (bI (aD hF.o) MH) rfl fun a hF=>oV hF (fA hF.o (My Tryz.underlying205 Tryz.underlying3 (MX (k)))) rfl fun a hF=>oE hF 0 rfl rfl fun a hF=>nr ?_
 refine rt Tryz.results231 hF 0 rfl ?_
 exact⟨rfl,bel⟩
end
section
end
section
theorem Nz (w:World):∃g w',(Instr.buildSlice 33 25 #[(0,.int .i64 0),(1,.int .i64 225),(2,.int .i64 449),(3,.int .i64 671),(4,.int .i64 890),(5,.int .i64 1105),(6,.int .i64 1315),(7,.int .i64 1520),(8,.int .i64 1719),(9,.int .i64 1910),(10,.int .i64 2093),(11,.int .i64 2267),(12,.int .i64 2431),(13,.int .i64 2585),(14,.int .i64 2728),(15,.int .i64 2859),(16,.int .i64 2978),(17,.int .i64 3084),(18,.int .i64 3177),(19,.int .i64 3256),(20,.int .i64 3321),(21,.int .i64 3372),(22,.int .i64 3409),(23,.int .i64 3431),(24,.int .i64 3438)]).run Tryz.prog w= .ok (.slice (some ⟨g,0,none⟩) 25 25) w'∧Below w.heap.size w w'∧Blk w' g (hiT.map fun z=> .int .i64 z):=by
 have hb:=ia (w:=w) (cs:=hiT.map fun z=> .int .i64 z) 3
 refine⟨w.heap.size,w.alloc (.cells (hiT.map fun z=> .int .i64 z).toArray 3),?_,hb.2,hb.1⟩
 have hs:=bn (P:=Tryz.prog) (T:=3) (n:=1) (by kernel_rfl) w
 simp[Instr.buildSlice,go_sem,hs,Instr.fill,Value.cells,newRow,hiT]
theorem Fe {w:World} {g n c:Nat} {i:Int} (h0:0≤i) (h1:i<n):(Instr.indexAt 33 (.slice (some ⟨g,0,none⟩) n c) (.int .i64 i)).run Tryz.prog w= .ok (.pointer (some ⟨g,i.toNat,none⟩)) w:=by
 simp[Instr.indexAt,asIntOf,run_underlying Tryz.underlying33,Sem.run_bind,h0,h1,Addr.add_mid]
theorem Le:∀n:Nat,n<25→(hiT.map fun z=>Value.int .i64 z)[n]?=some (.int .i64 (hiT.getD n 0)):=by
 intro n hn
 rw[List.getElem?_map,List.getElem?_eq_getElem (by show n<25;exact hn)]
 simp[List.getD,List.getElem?_eq_getElem (show n<hiT.length from hn)]
theorem MZ (k:Int):(hiT.map fun z=>Value.int .i64 z)[(max 0 (min k 24)).toNat]?=some (.int .i64 (hiv k)):=Le _ (by omega)
def s48 (k:Int):Int:=hiv (if 24<k then 48-k else k)
theorem I7:∀n:Nat,n<48→s48 (n:Int)=spk (n:Int):=by decide+kernel
theorem uL {k:Int} (h0:0≤k) (h1:k<48):s48 k=spk k:=by
 have:=I7 k.toNat (by omega)
 rwa[show((k.toNat:Nat):Int)=k by omega] at this
theorem IJ {k:Int} (h0:48≤k%96): -(s48 (k%96-48))=spk k:=by
 rw[uL (by omega) (by omega)]
 have:=AX (k%96-48)
 rw[←jP k,←this,show k%96-48+48=k%96 by omega]
theorem FN {k:Int} (h0:¬48≤k%96):s48 (k%96)=spk k:=by
 rw[uL (by omega) (by omega),jP]
theorem LS {k:Int} (h0:0≤k) (h1:k<48): -3438≤s48 k∧s48 k≤3438:=by rw[uL h0 h1];exact ke k
theorem Ie {a:Act} {x0 x1 x2 x3 x4 x5 x6 x7 x8 x9 x10 x11 x12 x13 x14 x15 x16 x17 x18 x19 x20 x21 x22 x23 x24:Value}:(#[(0,Operand.const x0),(1,Operand.const x1),(2,Operand.const x2),(3,Operand.const x3),(4,Operand.const x4),(5,Operand.const x5),(6,Operand.const x6),(7,Operand.const x7),(8,Operand.const x8),(9,Operand.const x9),(10,Operand.const x10),(11,Operand.const x11),(12,Operand.const x12),(13,Operand.const x13),(14,Operand.const x14),(15,Operand.const x15),(16,Operand.const x16),(17,Operand.const x17),(18,Operand.const x18),(19,Operand.const x19),(20,Operand.const x20),(21,Operand.const x21),(22,Operand.const x22),(23,Operand.const x23),(24,Operand.const x24)].map fun(p:Nat×Operand)=>(p.1,a.eval p.2))=#[(0,x0),(1,x1),(2,x2),(3,x3),(4,x4),(5,x5),(6,x6),(7,x7),(8,x8),(9,x9),(10,x10),(11,x11),(12,x12),(13,x13),(14,x14),(15,x15),(16,x16),(17,x17),(18,x18),(19,x19),(20,x20),(21,x21),(22,x22),(23,x23),(24,x24)]:=by simp[Act.eval]
theorem AO (k:Int) (w:World):
 Calls Tryz.prog 238 #[.int .i64 k,.int .i64 96] w (aG w (.int .i64 (k%96))):=by
 have bel:Below w.heap.size w w:=Below.refl _ _
 refine go2 (nt:=12) Tryz.func238 rfl rfl rfl fun a hF=>?_
 refine wq ?_
 refine oC hF rfl fun a hF=>nq ?_
 refine oM hF 1 rfl rfl fun a hF=>oM hF 3 rfl rfl fun a hF=>oV hF (aq hF.p hF.o ab (gT (a:=k) (b:=96) (by omega))) rfl fun a hF=>oM hF 5 rfl rfl fun a hF=>oV hF (aq hF.p hF.o ab (bj (by omega) (by omega))) rfl fun a hF=>oM hF 7 rfl rfl fun a hF=>oV hF (aq hF.p hF.o ab (gT (a:=(if 0≤k then k%96 else -(-k%96))+96) (b:=96) (by omega))) rfl fun a hF=>?_
 refine oE hF 0 rfl rfl fun a hF=>nr ?_
 refine rt Tryz.results238 hF 0 rfl ?_
 refine⟨bS ?_,bel⟩
 omega
theorem oa (k:Int) (w:World):
 Calls Tryz.prog 240 #[.int .i64 k] w (aG w (.int .i64 (hiv k))):=by
 have bel:Below w.heap.size w w:=Below.refl _ _
 refine go1 (nt:=9) Tryz.func240 rfl rfl rfl fun a hF=>?_
 refine wq ?_
 refine oC hF rfl fun a hF=>nq ?_
 obtain⟨gs2,w1,hr,bb,ols⟩:=Nz w
 refine oV hF (cV Ie hr) rfl fun a hF=>?_
 clear hr
 replace bel:=aC bel bb
 clear bb
 refine oM hF 2 rfl rfl fun a hF=>oV hF (bI (aI hF.o ar) mt) rfl fun a hF=>oV hF (bI (aI ar hF.o) rT) rfl fun a hF=>oV hF (eI (hF.at 3 rfl) hF.o (Fe (by omega) (by omega))) rfl fun a hF=>oV hF (au hF.o (bA (v:= .int .i64 (hiv k)) ols (MZ k))) rfl fun a hF=>oE hF 0 rfl rfl fun a hF=>nr ?_
 refine rt Tryz.results240 hF 0 rfl ?_
 exact⟨rfl,bel⟩
theorem zi (k:Int) (w:World) (h0:0≤k) (h1:k<48):
 Calls Tryz.prog 239 #[.int .i64 k] w (aG w (.int .i64 (s48 k))):=by
 have bel:Below w.heap.size w w:=Below.refl _ _
 refine go1 (nt:=10) Tryz.func239 rfl rfl rfl fun a hF=>?_
 refine wq ?_
 refine oC hF rfl fun a hF=>ns ?_
 refine wq ?_
 refine oM hF 1 rfl rfl fun a hF=>?_
 by_cases hc1:24<k
 ·first
  |(exfalso;omega)
  |(refine oT hF 0 (db (c:=true) (aL hc1)) rfl rfl fun a hF=>?_
    refine E.nil ?_
    refine wp_cond_true hF.o ?_
    refine wq ?_
    refine oM hF 3 rfl rfl fun a hF=>oV hF (aq ar hF.o ab (bN (by omega) (by omega))) rfl fun a hF=>?_
    refine E.call hF (rk AC (aD hF.o)) (oa (48-k) _) rfl rfl rfl rfl ?_
    rintro e w2 ⟨rfl,bb⟩
    refine⟨_,rfl,?_⟩
    intro a hF
    replace bel:=aC bel bb
    clear bb
    refine oE hF 0 rfl rfl fun a hF=>nr ?_
    refine rt Tryz.results239 hF 0 rfl ?_
    refine⟨bS ?_,bel⟩
    unfold s48;rw[if_pos (by omega)])
 ·first
  |(exfalso;omega)
  |(refine oT hF 0 (db (c:=false) (aV hc1)) rfl rfl fun a hF=>?_
    refine E.nil ?_
    refine wp_cond_false hF.o ?_
    refine wp_skip ?_
    refine E.norm ?_
    refine wq ?_
    refine oM hF 3 rfl rfl fun a hF=>?_
    refine E.call hF (rk AC (aD hF.o)) (oa k _) rfl rfl rfl rfl ?_
    rintro e w3 ⟨rfl,bb⟩
    refine⟨_,rfl,?_⟩
    intro a hF
    replace bel:=aC bel bb
    clear bb
    refine oE hF 0 rfl rfl fun a hF=>nr ?_
    refine rt Tryz.results239 hF 0 rfl ?_
    refine⟨bS ?_,bel⟩
    unfold s48;rw[if_neg (by omega)])
theorem oi (k:Int) (w:World):
 Calls Tryz.prog 220 #[.int .i64 k] w (aG w (.int .i64 (spk k))):=by
 have hsb:=fun h0=>LS (k:=(k%96)-48) h0 (by omega)
 have bel:Below w.heap.size w w:=Below.refl _ _
 refine go1 (nt:=13) Tryz.func220 rfl rfl rfl fun a hF=>?_
 refine wq ?_
 refine oC hF rfl fun a hF=>nq ?_
 refine oM hF 1 rfl rfl fun a hF=>?_
 refine E.call hF (rk MD (aI hF.o ar)) (AO k _) rfl rfl rfl rfl ?_
 rintro e w1 ⟨rfl,bb⟩
 refine⟨_,rfl,?_⟩
 intro a hF
 replace bel:=aC bel bb
 clear bb
 refine oE hF 0 rfl rfl fun a hF=>ns ?_
 refine wq ?_
 refine oM hF 0 rfl rfl fun a hF=>?_
 by_cases hc2:48≤(k)%96
 ·first
  |(exfalso;omega)
  |(refine oT hF 0 (cJ (c:=true) (aL hc2)) rfl rfl fun a hF=>?_
    refine E.nil ?_
    refine wp_cond_true hF.o ?_
    refine wq ?_
    refine oM hF 2 rfl rfl fun a hF=>oV hF (aq hF.o ar ab (bN (by omega) (by omega))) rfl fun a hF=>?_
    refine E.call hF (rk GR (aD hF.o)) (zi (((k)%96)-48) _ (by omega) (by omega)) rfl rfl rfl rfl ?_
    rintro e w3 ⟨rfl,bb⟩
    refine⟨_,rfl,?_⟩
    intro a hF
    replace bel:=aC bel bb
    clear bb
    refine oV hF (cF hF.o (rI (by omega) (by omega))) rfl fun a hF=>oE hF 0 rfl rfl fun a hF=>nr ?_
    refine rt Tryz.results220 hF 0 rfl ?_
    refine⟨bS ?_,bel⟩
    exact IJ (by omega))
 ·first
  |(exfalso;omega)
  |(refine oT hF 0 (cJ (c:=false) (aV hc2)) rfl rfl fun a hF=>?_
    refine E.nil ?_
    refine wp_cond_false hF.o ?_
    refine wp_skip ?_
    refine E.norm ?_
    refine wq ?_
    refine oM hF 2 rfl rfl fun a hF=>?_
    refine E.call hF (rk GR (aD hF.o)) (zi ((k)%96) _ (by omega) (by omega)) rfl rfl rfl rfl ?_
    rintro e w4 ⟨rfl,bb⟩
    refine⟨_,rfl,?_⟩
    intro a hF
    replace bel:=aC bel bb
    clear bb
    refine oE hF 0 rfl rfl fun a hF=>nr ?_
    refine rt Tryz.results220 hF 0 rfl ?_
    refine⟨bS ?_,bel⟩
    exact FN (by omega))
theorem tabD_of {w:World} (h:Lib.TabIs Tryz.prog w "ephemeris/dial.heights" .i64 [0,225,449,671,890,1105,1315,1520,1719,1910,2093,2267,2431,2585,2728,2859,2978,3084,3177,3256,3321,3372,3409,3431,3438]):bG w:=fun i hi=>h.cell (by kernel_rfl) i hi
end
end
end Go.Proofs.YtdbiegfmgabicaaGreatDoor
