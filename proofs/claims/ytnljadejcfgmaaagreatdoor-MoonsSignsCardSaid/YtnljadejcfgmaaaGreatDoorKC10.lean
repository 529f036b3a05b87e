import Derived.Test.YtnljadejcfgmaaaGreatDoorKC9
import Derived.Laws.FloatArith
import Derived.Lib.LaidTab
namespace Go.Proofs.YtnljadejcfgmaaaGreatDoor
open Go.RowKit
set_option maxRecDepth 100000
set_option linter.unusedVariables false
set_option maxHeartbeats 8000000
section
section
def fI (x:Int):Nat:=FloatKind.f64.nearest x
section
variable {P:Program} {w:World}
theorem eg_cx {op:BinOp} {t:TypeId} {x y:Operand} {k l:FloatKind} {a b c d:Nat}:(eqGuard op t x y (.complex k a b) (.complex l c d)).run P w= .ok () w:=by
 unfold eqGuard;split <;> rfl
theorem cx_add {t:TypeId} {a b c d x y:Nat} (h:Ieee.double.add a c=some x) (k:Ieee.double.add b d=some y):(binOp .add t (.complex .f64 a b) (.complex .f64 c d)).run P w= .ok (.complex .f64 x y) w:=by
 simp[binOp,Op.complexOp,Op.Complex.arith,Op.floatArith,FloatKind.format,h,k]
def frc {α:Type} (n:Nat) (f:Nat→α):α:=Nat.rec (f 0) (fun m _=>f (m+1)) n
theorem frc_eq {α:Type} (n:Nat) (f:Nat→α):frc n f=f n:=by cases n <;> rfl
def frcO {α:Type} (x:Option Nat) (f:Nat→Option α):Option α:=match x with
 |none=>none
 |some n=>frc n f
theorem frcO_eq {α:Type} (x:Option Nat) (f:Nat→Option α):frcO x f=x.bind f:=by cases x <;> simp[frcO,frc_eq]
def mulI (p:Nat×Nat):Option (Nat×Nat):=
 frc p.1 fun a=>frc p.2 fun b=>frcO (Ieee.double.mul a 0) fun ac=>frcO (Ieee.double.mul b 4607182418800017408) fun bd=>
 frcO (Ieee.double.sub ac bd) fun re=>frcO (Ieee.double.mul a 4607182418800017408) fun ad=>frcO (Ieee.double.mul b 0) fun bc=>
 frcO (Ieee.double.add ad bc) fun im=>some (re,im)
theorem cx_mulI {t:TypeId} {p q:Nat×Nat} (h:mulI p=some q):(binOp .mul t (.complex .f64 p.1 p.2) (.complex .f64 0 4607182418800017408)).run P w= .ok (.complex .f64 q.1 q.2) w:=by
 unfold mulI at h
 simp only [frc_eq,frcO_eq,Option.bind_eq_some_iff,Option.some.injEq] at h
 obtain⟨ac,e1,bd,e2,re,e3,ad,e4,bc,e5,im,e6,rfl⟩:=h
 simp[binOp,Op.complexOp,Op.Complex.product,Op.Complex.conv,Op.Complex.mul,Op.Complex.sub,Op.Complex.add,Op.Complex.arith,Op.floatArith,FloatKind.format,e1,e2,e3,e4,e5,e6]
theorem cx_mk {t:TypeId} {ts:Array TypeId} {cs:Array Bool} {a b:Nat}:(builtin .complex ts t cs #[.float .f64 a,.float .f64 b]).run P w= .ok (.value (.complex .f64 a b)) w:=by
 rfl
theorem cx_im {t:TypeId} {ts:Array TypeId} {cs:Array Bool} {a b:Nat}:(builtin .imag ts t cs #[.complex .f64 a b]).run P w= .ok (.value (.float .f64 b)) w:=by
 rfl
theorem cv_if {s t:TypeId} {n:Int} (hs:P.underlying s=some (.int .i64)) (ht:P.underlying t=some (.float .f64)):(convert s t (.int .i64 n)).run P w= .ok (.float .f64 (fI n)) w:=by
 simp[convert,run_underlying hs,run_underlying ht,Conv.intToFloat,fI]
theorem cv_fi {s t:TypeId} {b:Nat} {n:Int} (hs:P.underlying s=some (.float .f64)) (ht:P.underlying t=some (.int .i64)) (h:floatToIntVal .f64 b .i64 =some n):(convert s t (.float .f64 b)).run P w= .ok (.int .i64 n) w:=
 run_convert_float_int w s t .f64 .i64 b n (by rw[hs];rfl) ht h
end
end
section
def hiT:List Int:=[0,225,449,671,890,1105,1315,1520,1719,1910,2093,2267,2431,2585,2728,2859,2978,3084,3177,3256,3321,3372,3409,3431,3438]
def sn0 (n:Nat):Int:=if n<24 then hiT.getD n 0 else if n<48 then hiT.getD (48-n) 0 else if n<72 then -hiT.getD (n-48) 0 else -hiT.getD (96-n) 0
def spk (k:Int):Int:=sn0 (k%96).toNat
theorem sp_mod (k:Int):spk (k%96)=spk k:=by unfold spk;rw[Int.emod_emod_of_dvd _ (Int.dvd_refl _)]
theorem sp_more (k n:Int):spk (k+96*n)=spk k:=by unfold spk;rw[Int.add_mul_emod_self_left]
theorem sp_nat (P:Int→Prop) (h:∀n:Nat,n<96→P (n:Int)) (k:Int):P (k%96):=by
 have:=h (k%96).toNat (by omega)
 rwa[show(((k%96).toNat :Nat):Int)=k%96 by omega] at this
theorem sp_cong {a b:Int} (h:a%96=b%96):spk a=spk b:=by unfold spk;rw[h]
theorem sp_half (k:Int):spk (48-k)=spk k:=by
 have:=sp_nat (fun r=>spk (48-r)=spk r) (by decide+kernel) k
 rw[sp_mod] at this
 rw[←this];exact sp_cong (by omega)
theorem sp_opp (k:Int):spk (k+48)= -spk k:=by
 have:=sp_nat (fun r=>spk (r+48)= -spk r) (by decide+kernel) k
 rw[sp_mod] at this
 rw[←this];exact sp_cong (by omega)
theorem sp_bd (k:Int): -3438≤spk k∧spk k≤3438:=by
 have:=sp_nat (fun r=> -3438≤spk r∧spk r≤3438) (by decide+kernel) k
 rwa[sp_mod] at this
theorem sp_step (k:Int): -225≤spk (k+1)-spk k∧spk (k+1)-spk k≤225:=by
 have:=sp_nat (fun r=> -225≤spk (r+1)-spk r∧spk (r+1)-spk r≤225) (by decide+kernel) k
 rw[sp_mod,sp_cong (b:=k+1) (by omega)] at this
 exact this
end
section
theorem en258:(Tryz.f258.name == "runtime.NumGoroutine")=false∧Tryz.f258.body.isNone=false:=⟨by decide+kernel,by kernel_rfl⟩
theorem en247:(Tryz.f247.name == "runtime.NumGoroutine")=false∧Tryz.f247.body.isNone=false:=⟨by decide+kernel,by kernel_rfl⟩
theorem en259:(Tryz.f259.name == "runtime.NumGoroutine")=false∧Tryz.f259.body.isNone=false:=⟨by decide+kernel,by kernel_rfl⟩
theorem en256:(Tryz.f256.name == "runtime.NumGoroutine")=false∧Tryz.f256.body.isNone=false:=⟨by decide+kernel,by kernel_rfl⟩
theorem en251:(Tryz.f251.name == "runtime.NumGoroutine")=false∧Tryz.f251.body.isNone=false:=⟨by decide+kernel,by kernel_rfl⟩
theorem en249:(Tryz.f249.name == "runtime.NumGoroutine")=false∧Tryz.f249.body.isNone=false:=⟨by decide+kernel,by kernel_rfl⟩
theorem en250:(Tryz.f250.name == "runtime.NumGoroutine")=false∧Tryz.f250.body.isNone=false:=⟨by decide+kernel,by kernel_rfl⟩
def hiv (k:Int):Int:=hiT.getD (max 0 (min k 24)).toNat 0
theorem hiv_nat:∀n:Nat,n<25→hiv (n:Int)=spk (n:Int):=by decide+kernel
theorem hiv_sp {k:Int} (h0:0≤k) (h1:k≤24):hiv k=spk k:=by
 have:=hiv_nat k.toNat (by omega)
 rwa[show((k.toNat:Nat):Int)=k by omega] at this
def TabD (w:World):Prop:=∀i:Nat,i<25→Cel w 2 i (.int .i64 (hiT.getD i 0))
theorem TabD.below {w w':World} (h:TabD w) (hb:Below w.heap.size w w'):TabD w':=fun i hi=>(h i hi).below hb
theorem TabD.at {w:World} (h:TabD w) (k:Int):Cel w 2 (max 0 (min k 24)).toNat (.int .i64 (hiv k)):=h _ (by omega)
theorem ix_tabD {w:World} {i:Int} (h0:0≤i) (h1:i<25):(Instr.indexAt 213 (.pointer (some ⟨2,0,none⟩)) (.int .i64 i)).run Tryz.prog w= .ok (.pointer (some ⟨2,i.toNat,none⟩)) w:=by
 simp[Instr.indexAt,asIntOf,Instr.sureAddr,run_underlying Tryz.underlying213,Sem.run_bind,h0,h1,Addr.add_mid]
def pb (k:Int):Nat×Nat:=(fI (spk (k+24)),fI (spk k))
theorem pb_cong {a b:Int} (h:a%96=b%96):pb a=pb b:=by unfold pb;rw[sp_cong h,sp_cong (a:=a+24) (b:=b+24) (by omega)]
def adI (p q:Nat×Nat):Bool:=frc q.1 fun x=>frc q.2 fun y=>decide (Ieee.double.add p.1 0=some x) && decide (Ieee.double.add p.2 0=some y)
theorem adI_of {p q:Nat×Nat} (h:adI p q=true):Ieee.double.add p.1 0=some q.1∧Ieee.double.add p.2 0=some q.2:=by
 unfold adI at h
 simp only [frc_eq,Bool.and_eq_true,decide_eq_true_eq] at h
 exact h
def itI:Nat→Nat×Nat→Nat×Nat
 |0,p=>p
 |j+1,p=>(mulI (itI j p)).getD (0,0)
def chI (a:Nat×Nat) (p1 p2 p3 p4:Nat×Nat):Bool:=
 frc a.1 fun x0=>frc a.2 fun y0=>match mulI (x0,y0) with
 |none=>false
 |some b=>frc b.1 fun x1=>frc b.2 fun y1=>match mulI (x1,y1) with
  |none=>false
  |some c=>frc c.1 fun x2=>frc c.2 fun y2=>match mulI (x2,y2) with
   |none=>false
   |some d=>frc d.1 fun x3=>frc d.2 fun y3=>
    adI (x0,y0) p1 && adI (x1,y1) p2 && adI (x2,y2) p3 && adI (x3,y3) p4
theorem chI_of {a p1 p2 p3 p4:Nat×Nat} (h:chI a p1 p2 p3 p4=true):(∀j,j<3→mulI (itI j a)=some (itI (j+1) a))∧adI (itI 0 a) p1=true∧adI (itI 1 a) p2=true∧adI (itI 2 a) p3=true∧adI (itI 3 a) p4=true:=by
 unfold chI at h
 simp only [frc_eq] at h
 split at h
 ·cases h
 ·rename_i b hb
  split at h
  ·cases h
  ·rename_i c hc
   split at h
   ·cases h
   ·rename_i d hd
    have e1:itI 1 a=b:=by show(mulI a).getD (0,0)=b;rw[show mulI a=some b from hb];rfl
    have e2:itI 2 a=c:=by show(mulI (itI 1 a)).getD (0,0)=c;rw[e1,show mulI b=some c from hc];rfl
    have e3:itI 3 a=d:=by show(mulI (itI 2 a)).getD (0,0)=d;rw[e2,show mulI c=some d from hd];rfl
    simp only [Bool.and_eq_true] at h
    refine⟨fun j hj=>?_,h.1.1.1,by rw[e1];exact h.1.1.2,by rw[e2];exact h.1.2,by rw[e3];exact h.2⟩
    have:j=0∨j=1∨j=2:=by omega
    rcases this with rfl|rfl|rfl
    ·rw[e1];exact hb
    ·rw[e1,e2];exact hc
    ·rw[e2,e3];exact hd
theorem itI_tab:∀n:Nat,n<96→chI (pb (n:Int)) (pb (n:Int)) (pb ((n:Int)+24)) (pb ((n:Int)+48)) (pb ((n:Int)+72))=true:=by decide+kernel
theorem itI_step (k:Int) {j:Nat} (h:j<3):mulI (itI j (pb k))=some (itI (j+1) (pb k)):=by
 have:=(chI_of (itI_tab (k%96).toNat (by omega))).1 j h
 rwa[pb_cong (b:=k) (by omega)] at this
theorem itI_case {p:Nat×Nat} {m n:Int} (h:adI p (pb m)=true) (e:m%96=n%96):Ieee.double.add p.1 0=some (fI (spk (n+24)))∧Ieee.double.add p.2 0=some (fI (spk n)):=by
 obtain⟨a,b⟩:=adI_of h
 exact⟨a.trans (congrArg (fun p=>some p.1) (pb_cong e)),b.trans (congrArg (fun p=>some p.2) (pb_cong e))⟩
theorem itI_end (k q:Int) {j:Nat} (h:((j:Nat):Int)=q%4):Ieee.double.add (itI j (pb k)).1 0=some (fI (spk (k+24*q+24)))∧Ieee.double.add (itI j (pb k)).2 0=some (fI (spk (k+24*q))):=by
 obtain⟨_,h0,h1,h2,h3⟩:=chI_of (itI_tab (k%96).toNat (by omega))
 have ek:pb (((k%96).toNat :Nat):Int)=pb k:=pb_cong (by omega)
 rw[ek] at h0 h1 h2 h3
 have hj:j=0∨j=1∨j=2∨j=3:=by omega
 rcases hj with rfl|rfl|rfl|rfl
 ·exact itI_case h0 (by omega)
 ·exact itI_case h1 (by omega)
 ·exact itI_case h2 (by omega)
 ·exact itI_case h3 (by omega)
theorem fi_tab:∀n:Nat,n<96→floatToIntVal .f64 (fI (spk (n:Int))) .i64 =some (spk (n:Int)):=by decide+kernel
theorem fi_sp (k:Int):floatToIntVal .f64 (fI (spk k)) .i64 =some (spk k):=by
 have:=fi_tab (k%96).toNat (by omega)
 rwa[sp_cong (b:=k) (by omega)] at this
theorem rv_cx {a b c d:Nat} (h:a=c) (k:b=d):Ending.returned (.complex .f64 a b)= .returned (.complex .f64 c d):=by rw[h,k]
theorem mod4_any (k:Int) (w:World):
 Calls Tryz.prog 258 #[.int .i64 k,.int .i64 4] w (ValPost w (.int .i64 (k%4))):=by
 have bel:Below w.heap.size w w:=Below.refl _ _
 refine E.enter (nt:=12) (L:=[(0,.int .i64 k),(1,.int .i64 4)]) Tryz.func258 rfl rfl rfl (args_cons (i:=0) rfl (args_cons (i:=1) rfl args_nil)) ?_
 intro a hF
 refine wp_seq ?_
 refine E.seq ?_
 refine E.opv hF (r_assign ev_c) rfl rfl rfl rfl fun a hF=>?_
 refine E.nil ?_
 refine wp_seq ?_
 refine E.seq ?_
 refine E.opv hF (r_move (hF.at 1 rfl)) rfl rfl rfl rfl fun a hF=>?_
 refine E.opv hF (r_move (hF.at 3 rfl)) rfl rfl rfl rfl fun a hF=>?_
 refine E.opv hF (r_bin (hF.at 1 rfl) (hF.at 0 rfl) eg_scalar (id_rem (a:=k) (b:=4) (by omega))) rfl rfl rfl rfl fun a hF=>?_
 refine E.opv hF (r_move (hF.at 5 rfl)) rfl rfl rfl rfl fun a hF=>?_
 refine E.opv hF (r_bin (hF.at 1 rfl) (hF.at 0 rfl) eg_scalar (ia_add (by omega) (by omega))) rfl rfl rfl rfl fun a hF=>?_
 refine E.opv hF (r_move (hF.at 7 rfl)) rfl rfl rfl rfl fun a hF=>?_
 refine E.opv hF (r_bin (hF.at 1 rfl) (hF.at 0 rfl) eg_scalar (id_rem (a:=(if 0≤k then k%4 else -(-k%4))+4) (b:=4) (by omega))) rfl rfl rfl rfl fun a hF=>?_
 refine E.opset (L':=[(4,.int .i64 (if 0≤(if 0≤k then k%4 else -(-k%4))+4 then((if 0≤k then k%4 else -(-k%4))+4)%4 else -(-((if 0≤k then k%4 else -(-k%4))+4)%4))),(11,.int .i64 (if 0≤(if 0≤k then k%4 else -(-k%4))+4 then((if 0≤k then k%4 else -(-k%4))+4)%4 else -(-((if 0≤k then k%4 else -(-k%4))+4)%4))),(10,.int .i64 4),(9,.int .i64 ((if 0≤k then k%4 else -(-k%4))+4)),(8,.int .i64 4),(7,.int .i64 (if 0≤k then k%4 else -(-k%4))),(6,.int .i64 4),(5,.int .i64 k),(0,.int .i64 k),(1,.int .i64 4)]) hF (r_assign (hF.at 0 rfl)) rfl rfl rfl rfl fun a hF=>?_
 refine E.nil ?_
 refine wp_ret ?_
 refine bodyPost_ret (res_tmp Tryz.results258 (hF.at 0 rfl)) hF.dfr ?_
 refine⟨rv_int ?_,bel⟩
 omega
theorem mod96_any (k:Int) (w:World):
 Calls Tryz.prog 258 #[.int .i64 k,.int .i64 96] w (ValPost w (.int .i64 (k%96))):=by
 have bel:Below w.heap.size w w:=Below.refl _ _
 refine E.enter (nt:=12) (L:=[(0,.int .i64 k),(1,.int .i64 96)]) Tryz.func258 rfl rfl rfl (args_cons (i:=0) rfl (args_cons (i:=1) rfl args_nil)) ?_
 intro a hF
 refine wp_seq ?_
 refine E.seq ?_
 refine E.opv hF (r_assign ev_c) rfl rfl rfl rfl fun a hF=>?_
 refine E.nil ?_
 refine wp_seq ?_
 refine E.seq ?_
 refine E.opv hF (r_move (hF.at 1 rfl)) rfl rfl rfl rfl fun a hF=>?_
 refine E.opv hF (r_move (hF.at 3 rfl)) rfl rfl rfl rfl fun a hF=>?_
 refine E.opv hF (r_bin (hF.at 1 rfl) (hF.at 0 rfl) eg_scalar (id_rem (a:=k) (b:=96) (by omega))) rfl rfl rfl rfl fun a hF=>?_
 refine E.opv hF (r_move (hF.at 5 rfl)) rfl rfl rfl rfl fun a hF=>?_
 refine E.opv hF (r_bin (hF.at 1 rfl) (hF.at 0 rfl) eg_scalar (ia_add (by omega) (by omega))) rfl rfl rfl rfl fun a hF=>?_
 refine E.opv hF (r_move (hF.at 7 rfl)) rfl rfl rfl rfl fun a hF=>?_
 refine E.opv hF (r_bin (hF.at 1 rfl) (hF.at 0 rfl) eg_scalar (id_rem (a:=(if 0≤k then k%96 else -(-k%96))+96) (b:=96) (by omega))) rfl rfl rfl rfl fun a hF=>?_
 refine E.opset (L':=[(4,.int .i64 (if 0≤(if 0≤k then k%96 else -(-k%96))+96 then((if 0≤k then k%96 else -(-k%96))+96)%96 else -(-((if 0≤k then k%96 else -(-k%96))+96)%96))),(11,.int .i64 (if 0≤(if 0≤k then k%96 else -(-k%96))+96 then((if 0≤k then k%96 else -(-k%96))+96)%96 else -(-((if 0≤k then k%96 else -(-k%96))+96)%96))),(10,.int .i64 96),(9,.int .i64 ((if 0≤k then k%96 else -(-k%96))+96)),(8,.int .i64 96),(7,.int .i64 (if 0≤k then k%96 else -(-k%96))),(6,.int .i64 96),(5,.int .i64 k),(0,.int .i64 k),(1,.int .i64 96)]) hF (r_assign (hF.at 0 rfl)) rfl rfl rfl rfl fun a hF=>?_
 refine E.nil ?_
 refine wp_ret ?_
 refine bodyPost_ret (res_tmp Tryz.results258 (hF.at 0 rfl)) hF.dfr ?_
 refine⟨rv_int ?_,bel⟩
 omega
theorem high_any (k:Int) (w:World) (hT:TabD w):
 Calls Tryz.prog 247 #[.int .i64 k] w (ValPost w (.int .i64 (hiv k))):=by
 have bel:Below w.heap.size w w:=Below.refl _ _
 refine E.enter (nt:=8) (L:=[(0,.int .i64 k)]) Tryz.func247 rfl rfl rfl (args_cons (i:=0) rfl args_nil) ?_
 intro a hF
 refine wp_seq ?_
 refine E.seq ?_
 refine E.opv hF (r_assign ev_c) rfl rfl rfl rfl fun a hF=>?_
 refine E.nil ?_
 refine wp_seq ?_
 refine E.seq ?_
 refine E.opv hF (r_move (hF.at 1 rfl)) rfl rfl rfl rfl fun a hF=>?_
 refine E.opv hF (r_builtin (map2 (hF.at 0 rfl) ev_c) bl_min) rfl rfl rfl rfl fun a hF=>?_
 refine E.opv hF (r_builtin (map2 ev_c (hF.at 0 rfl)) bl_max) rfl rfl rfl rfl fun a hF=>?_
 refine E.opv hF (r_index rfl (hF.at 0 rfl) (ix_tabD (by omega) (by omega))) rfl rfl rfl rfl fun a hF=>?_
 refine E.opv hF (r_load (hF.at 0 rfl) (ldc_int ((hT.below bel).at k))) rfl rfl rfl rfl fun a hF=>?_
 refine E.opset (L':=[(2,.int .i64 (hiv k)),(7,.int .i64 (hiv k)),(6,.pointer (some ⟨2,(max 0 (min k 24)).toNat,none⟩)),(5,.int .i64 (max 0 (min k 24))),(4,.int .i64 (min k 24)),(3,.int .i64 k),(0,.int .i64 k)]) hF (r_assign (hF.at 0 rfl)) rfl rfl rfl rfl fun a hF=>?_
 refine E.nil ?_
 refine wp_ret ?_
 refine bodyPost_ret (res_tmp Tryz.results247 (hF.at 0 rfl)) hF.dfr ?_
 exact⟨rfl,bel⟩
theorem turn_any (k q:Int) (w:World):
 Calls Tryz.prog 259 #[.complex .f64 (fI (spk (k+24))) (fI (spk (k))),.int .i64 q] w (ValPost w (.complex .f64 (fI (spk ((k+24*q)+24))) (fI (spk ((k+24*q)))))):=by
 have bel:Below w.heap.size w w:=Below.refl _ _
 refine E.enter (nt:=14) (L:=[(0,.complex .f64 (fI (spk (k+24))) (fI (spk (k)))),(1,.int .i64 q)]) Tryz.func259 rfl rfl rfl (args_cons (i:=0) rfl (args_cons (i:=1) rfl args_nil)) ?_
 intro a hF
 refine wp_seq ?_
 refine E.seq ?_
 refine E.opv hF (r_assign ev_c) rfl rfl rfl rfl fun a hF=>?_
 refine E.nil ?_
 refine wp_seq ?_
 refine wp_seq ?_
 refine E.seq ?_
 refine E.opv hF (r_move (hF.at 2 rfl)) rfl rfl rfl rfl fun a hF=>?_
 refine E.call hF (r_call Tryz.func258 en258.1 en258.2 (map2 (hF.at 0 rfl) ev_c)) (mod4_any q _) rfl rfl rfl rfl ?_
 rintro e w1 ⟨rfl,bb⟩
 refine⟨_,rfl,?_⟩
 intro a hF
 replace bel:=below_to bel bb
 clear bb
 refine E.opv hF (r_move ev_c) rfl rfl rfl rfl fun a hF=>?_
 refine E.nil ?_
 refine wp_block ?_
 refine E.loop (fun mq a wv=>∃(j:Nat),((j:Nat):Int)≤q%4∧Fr 14 a [(7,.int .i64 ((j:Nat):Int)),(6,.int .i64 ((q)%4)),(4,.complex .f64 0 0),(0,.complex .f64 ((itI j (pb k)).1) ((itI j (pb k)).2))]∧Below w1.heap.size w1 wv∧Below w.heap.size w wv∧mq=(q%4).toNat - j) ((q%4).toNat - 0) ?_ ?_
 ·exact⟨0,(by omega),Fr.sub (L':=[(7,.int .i64 ((0:Nat):Int)),(6,.int .i64 ((q)%4)),(4,.complex .f64 0 0),(0,.complex .f64 (fI (spk (k+24))) (fI (spk (k))))]) hF (by intro p hp;simp only [List.mem_cons,List.not_mem_nil,or_false] at hp ⊢;rcases hp with rfl|rfl|rfl|rfl <;> simp),Below.refl _ _,bel,rfl⟩
 ·rintro mq a w2 ⟨j,hj,hF,sty,bel,hm⟩
  by_cases hjn:((j:Nat):Int)<q%4
  ·refine wp_seq ?_
   refine E.seq ?_
   refine E.opv hF (r_bin (hF.at 0 rfl) (hF.at 1 rfl) eg_scalar (bi_int (ic_lss (c:=true) (dec_tt hjn)) (by simp))) rfl rfl rfl rfl fun a hF=>?_
   refine E.nil ?_
   refine wp_seq ?_
   refine wp_cond_true (hF.at 0 rfl) ?_
   refine wp_skip ?_
   refine E.norm ?_
   refine wp_seq ?_
   refine wp_block ?_
   refine E.seq ?_
   refine E.opv hF (r_move (hF.at 4 rfl)) rfl rfl rfl rfl fun a hF=>?_
   refine E.opv hF (r_bin (hF.at 0 rfl) ev_c eg_cx (cx_mulI (p:=itI j (pb k)) (itI_step k (by omega)))) rfl rfl rfl rfl fun a hF=>?_
   refine E.opset (L':=[(0,.complex .f64 ((itI (j+1) (pb k)).1) ((itI (j+1) (pb k)).2)),(10,.complex .f64 ((itI (j+1) (pb k)).1) ((itI (j+1) (pb k)).2)),(9,.complex .f64 ((itI j (pb k)).1) ((itI j (pb k)).2)),(8,.bool true),(7,.int .i64 ((j:Nat):Int)),(6,.int .i64 ((q)%4)),(4,.complex .f64 0 0)]) hF (r_assign (hF.at 0 rfl)) rfl rfl rfl rfl fun a hF=>?_
   refine E.nil0 ?_
   refine E.blk ?_
   refine E.norm ?_
   refine E.seq ?_
   refine E.opv hF (r_bin (hF.at 4 rfl) ev_c eg_scalar (ia_add (by omega) (by omega))) rfl rfl rfl rfl fun a hF=>?_
   refine E.opset (L':=[(7,.int .i64 (((j:Nat):Int)+1)),(11,.int .i64 (((j:Nat):Int)+1)),(0,.complex .f64 ((itI (j+1) (pb k)).1) ((itI (j+1) (pb k)).2)),(10,.complex .f64 ((itI (j+1) (pb k)).1) ((itI (j+1) (pb k)).2)),(9,.complex .f64 ((itI j (pb k)).1) ((itI j (pb k)).2)),(8,.bool true),(6,.int .i64 ((q)%4)),(4,.complex .f64 0 0)]) hF (r_move (hF.at 0 rfl)) rfl rfl rfl rfl fun a hF=>?_
   refine E.nil0 ?_
   refine E.norm ?_
   exact⟨(q%4).toNat - (j+1),by omega,⟨(j+1),(by omega),(by rw[show((j+1:Nat):Int)=((j:Nat):Int)+1 from by omega];exact Fr.sub (L':=[(7,.int .i64 (((j:Nat):Int)+1)),(6,.int .i64 ((q)%4)),(4,.complex .f64 0 0),(0,.complex .f64 ((itI (j+1) (pb k)).1) ((itI (j+1) (pb k)).2))]) hF (by intro p hp;simp only [List.mem_cons,List.not_mem_nil,or_false] at hp ⊢;rcases hp with rfl|rfl|rfl|rfl <;> simp)),sty,bel,rfl⟩⟩
  ·refine wp_seq ?_
   refine E.seq ?_
   refine E.opv hF (r_bin (hF.at 0 rfl) (hF.at 1 rfl) eg_scalar (bi_int (ic_lss (c:=false) (dec_ff hjn)) (by simp))) rfl rfl rfl rfl fun a hF=>?_
   refine E.nil ?_
   refine wp_seq ?_
   refine wp_cond_false (hF.at 0 rfl) ?_
   refine wp_exit ?_
   refine E.past ?_
   refine E.past ?_
   refine E.out (id:=0) ?_
   refine E.norm ?_
   refine wp_seq ?_
   refine E.seq ?_
   refine E.opv hF (r_move (hF.at 4 rfl)) rfl rfl rfl rfl fun a hF=>?_
   refine E.opv hF (r_bin (hF.at 0 rfl) ev_c eg_cx (cx_add (itI_end k q (j:=j) (by omega)).1 (itI_end k q (j:=j) (by omega)).2)) rfl rfl rfl rfl fun a hF=>?_
   refine E.opset (L':=[(4,.complex .f64 (fI (spk (k+24*q+24))) (fI (spk (k+24*q)))),(13,.complex .f64 (fI (spk (k+24*q+24))) (fI (spk (k+24*q)))),(12,.complex .f64 ((itI j (pb k)).1) ((itI j (pb k)).2)),(8,.bool false),(7,.int .i64 ((j:Nat):Int)),(6,.int .i64 ((q)%4)),(0,.complex .f64 ((itI j (pb k)).1) ((itI j (pb k)).2))]) hF (r_assign (hF.at 0 rfl)) rfl rfl rfl rfl fun a hF=>?_
   refine E.nil ?_
   refine wp_ret ?_
   refine bodyPost_ret (res_tmp Tryz.results259 (hF.at 0 rfl)) hF.dfr ?_
   exact⟨rfl,bel⟩
theorem turn_bits (x y:Int) (b q:Int) (w:World) (h1:x=spk (24-b)) (h2:y=spk b) (hb0:0≤b) (hb1:b<24):Calls Tryz.prog 259 #[.complex .f64 (fI x) (fI y),.int .i64 q] w (ValPost w (.complex .f64 (fI (spk ((b+24*q)+24))) (fI (spk ((b+24*q)))))):=by
 have e:spk (24-b)=spk (b+24):=by rw[←sp_half (b+24)];exact sp_cong (by omega)
 rw[h1,h2,e]
 exact turn_any b q w
theorem point_any (k:Int) (w:World) (hT:TabD w):
 Calls Tryz.prog 256 #[.int .i64 k] w (ValPost w (.complex .f64 (fI (spk (k+24))) (fI (spk (k))))):=by
 have bel:Below w.heap.size w w:=Below.refl _ _
 refine E.enter (nt:=22) (L:=[(0,.int .i64 k)]) Tryz.func256 rfl rfl rfl (args_cons (i:=0) rfl args_nil) ?_
 intro a hF
 refine wp_seq ?_
 refine E.seq ?_
 refine E.opv hF (r_assign ev_c) rfl rfl rfl rfl fun a hF=>?_
 refine E.nil ?_
 refine wp_seq ?_
 refine E.seq ?_
 refine E.opv hF (r_move (hF.at 1 rfl)) rfl rfl rfl rfl fun a hF=>?_
 refine E.call hF (r_call Tryz.func258 en258.1 en258.2 (map2 (hF.at 0 rfl) ev_c)) (mod96_any k _) rfl rfl rfl rfl ?_
 rintro e w1 ⟨rfl,bb⟩
 refine⟨_,rfl,?_⟩
 intro a hF
 replace bel:=below_to bel bb
 clear bb
 refine E.opv hF (r_assign (hF.at 0 rfl)) rfl rfl rfl rfl fun a hF=>?_
 refine E.nil ?_
 refine wp_seq ?_
 refine E.seq ?_
 refine E.opv hF (r_move (hF.at 0 rfl)) rfl rfl rfl rfl fun a hF=>?_
 refine E.opv hF (r_bin (hF.at 0 rfl) ev_c eg_scalar (id_remn (a:=(k)%96) (b:=24) (by omega) (by omega))) rfl rfl rfl rfl fun a hF=>?_
 refine E.opv hF (r_assign (hF.at 0 rfl)) rfl rfl rfl rfl fun a hF=>?_
 refine E.nil ?_
 refine wp_seq ?_
 refine E.seq ?_
 refine E.opv hF (r_move (hF.at 0 rfl)) rfl rfl rfl rfl fun a hF=>?_
 refine E.opv hF (r_bin ev_c (hF.at 0 rfl) eg_scalar (ia_sub (by omega) (by omega))) rfl rfl rfl rfl fun a hF=>?_
 refine E.call hF (r_call Tryz.func247 en247.1 en247.2 (map1 (hF.at 0 rfl))) (high_any (24-(((k)%96)%24)) _ (hT.below bel)) rfl rfl rfl rfl ?_
 rintro e w2 ⟨rfl,bb⟩
 refine⟨_,rfl,?_⟩
 intro a hF
 replace bel:=below_to bel bb
 clear bb
 refine E.opv hF (r_conv (hF.at 0 rfl) (cv_if Tryz.underlying3 Tryz.underlying210)) rfl rfl rfl rfl fun a hF=>?_
 refine E.opv hF (r_move (hF.at 4 rfl)) rfl rfl rfl rfl fun a hF=>?_
 refine E.call hF (r_call Tryz.func247 en247.1 en247.2 (map1 (hF.at 0 rfl))) (high_any (((k)%96)%24) _ (hT.below bel)) rfl rfl rfl rfl ?_
 rintro e w3 ⟨rfl,bb⟩
 refine⟨_,rfl,?_⟩
 intro a hF
 replace bel:=below_to bel bb
 clear bb
 refine E.opv hF (r_conv (hF.at 0 rfl) (cv_if Tryz.underlying3 Tryz.underlying210)) rfl rfl rfl rfl fun a hF=>?_
 refine E.opv hF (r_builtin (map2 (hF.at 3 rfl) (hF.at 0 rfl)) cx_mk) rfl rfl rfl rfl fun a hF=>?_
 refine E.opv hF (r_assign (hF.at 0 rfl)) rfl rfl rfl rfl fun a hF=>?_
 refine E.nil ?_
 refine wp_seq ?_
 refine E.seq ?_
 refine E.opv hF (r_move (hF.at 0 rfl)) rfl rfl rfl rfl fun a hF=>?_
 refine E.opv hF (r_move (hF.at 13 rfl)) rfl rfl rfl rfl fun a hF=>?_
 refine E.opv hF (r_bin (hF.at 0 rfl) ev_c eg_scalar (id_quon (a:=(k)%96) (b:=24) (by omega) (by omega) (by omega) (by omega))) rfl rfl rfl rfl fun a hF=>?_
 refine E.call hF (r_call Tryz.func259 en259.1 en259.2 (map2 (hF.at 2 rfl) (hF.at 0 rfl))) (turn_bits _ _ (k%96%24) (((k)%96)/24) _ (hiv_sp (k:=24-(k%96%24)) (by omega) (by omega)) (hiv_sp (k:=(k%96%24)) (by omega) (by omega)) (by omega) (by omega)) rfl rfl rfl rfl ?_
 rintro e w4 ⟨rfl,bb⟩
 refine⟨_,rfl,?_⟩
 intro a hF
 replace bel:=below_to bel bb
 clear bb
 refine E.opset (L':=[(2,.complex .f64 (fI (spk ((k%96%24)+24*(((k)%96)/24)+24))) (fI (spk ((k%96%24)+24*(((k)%96)/24))))),(21,.complex .f64 (fI (spk ((k%96%24)+24*(((k)%96)/24)+24))) (fI (spk ((k%96%24)+24*(((k)%96)/24))))),(20,.int .i64 (((k)%96)/24)),(19,.int .i64 ((k)%96)),(18,.complex .f64 (fI (hiv (24-(((k)%96)%24)))) (fI (hiv (((k)%96)%24)))),(5,.complex .f64 (fI (hiv (24-(((k)%96)%24)))) (fI (hiv (((k)%96)%24)))),(17,.complex .f64 (fI (hiv (24-(((k)%96)%24)))) (fI (hiv (((k)%96)%24)))),(16,.float .f64 (fI (hiv (((k)%96)%24)))),(15,.int .i64 (hiv (((k)%96)%24))),(14,.int .i64 (((k)%96)%24)),(13,.float .f64 (fI (hiv (24-(((k)%96)%24))))),(12,.int .i64 (hiv (24-(((k)%96)%24)))),(11,.int .i64 (24-(((k)%96)%24))),(10,.int .i64 (((k)%96)%24)),(4,.int .i64 (((k)%96)%24)),(9,.int .i64 (((k)%96)%24)),(8,.int .i64 ((k)%96)),(3,.int .i64 ((k)%96)),(7,.int .i64 ((k)%96)),(6,.int .i64 k),(0,.int .i64 k)]) hF (r_assign (hF.at 0 rfl)) rfl rfl rfl rfl fun a hF=>?_
 refine E.nil ?_
 refine wp_ret ?_
 refine bodyPost_ret (res_tmp Tryz.results256 (hF.at 0 rfl)) hF.dfr ?_
 exact⟨rv_cx (congrArg fI (sp_cong (by omega))) (congrArg fI (sp_cong (by omega))),bel⟩
theorem dsine_any (k:Int) (w:World) (hT:TabD w):
 Calls Tryz.prog 245 #[.int .i64 k] w (ValPost w (.int .i64 (spk k))):=by
 have bel:Below w.heap.size w w:=Below.refl _ _
 refine E.enter (nt:=7) (L:=[(0,.int .i64 k)]) Tryz.func245 rfl rfl rfl (args_cons (i:=0) rfl args_nil) ?_
 intro a hF
 refine wp_seq ?_
 refine E.seq ?_
 refine E.opv hF (r_assign ev_c) rfl rfl rfl rfl fun a hF=>?_
 refine E.nil ?_
 refine wp_seq ?_
 refine E.seq ?_
 refine E.opv hF (r_move (hF.at 1 rfl)) rfl rfl rfl rfl fun a hF=>?_
 refine E.call hF (r_call Tryz.func256 en256.1 en256.2 (map1 (hF.at 0 rfl))) (point_any k _ (hT.below bel)) rfl rfl rfl rfl ?_
 rintro e w1 ⟨rfl,bb⟩
 refine⟨_,rfl,?_⟩
 intro a hF
 replace bel:=below_to bel bb
 clear bb
 refine E.opv hF (r_builtin (map1 (hF.at 0 rfl)) cx_im) rfl rfl rfl rfl fun a hF=>?_
 refine E.opv hF (r_conv (hF.at 0 rfl) (cv_fi Tryz.underlying210 Tryz.underlying3 (fi_sp (k)))) rfl rfl rfl rfl fun a hF=>?_
 refine E.opset (L':=[(2,.int .i64 (spk (k))),(6,.int .i64 (spk (k))),(5,.float .f64 (fI (spk (k)))),(4,.complex .f64 (fI (spk (k+24))) (fI (spk (k)))),(3,.int .i64 k),(0,.int .i64 k)]) hF (r_assign (hF.at 0 rfl)) rfl rfl rfl rfl fun a hF=>?_
 refine E.nil ?_
 refine wp_ret ?_
 refine bodyPost_ret (res_tmp Tryz.results245 (hF.at 0 rfl)) hF.dfr ?_
 exact⟨rfl,bel⟩
end
section
end
section
theorem bs_25 (w:World):∃g w',(Instr.buildSlice 35 25 #[(0,.int .i64 0),(1,.int .i64 225),(2,.int .i64 449),(3,.int .i64 671),(4,.int .i64 890),(5,.int .i64 1105),(6,.int .i64 1315),(7,.int .i64 1520),(8,.int .i64 1719),(9,.int .i64 1910),(10,.int .i64 2093),(11,.int .i64 2267),(12,.int .i64 2431),(13,.int .i64 2585),(14,.int .i64 2728),(15,.int .i64 2859),(16,.int .i64 2978),(17,.int .i64 3084),(18,.int .i64 3177),(19,.int .i64 3256),(20,.int .i64 3321),(21,.int .i64 3372),(22,.int .i64 3409),(23,.int .i64 3431),(24,.int .i64 3438)]).run Tryz.prog w= .ok (.slice (some ⟨g,0,none⟩) 25 25) w'∧Below w.heap.size w w'∧Blk w' g (hiT.map fun z=> .int .i64 z):=by
 have hb:=blk_new (w:=w) (cs:=hiT.map fun z=> .int .i64 z) 3
 refine⟨w.heap.size,w.alloc (.cells (hiT.map fun z=> .int .i64 z).toArray 3),?_,hb.2,hb.1⟩
 have hs:=size_run (P:=Tryz.prog) (T:=3) (n:=1) (by kernel_rfl) w
 simp[Instr.buildSlice,go_sem,hs,Instr.fill,Value.cells,newRow,hiT]
theorem ix_ints9 {w:World} {g n c:Nat} {i:Int} (h0:0≤i) (h1:i<n):(Instr.indexAt 35 (.slice (some ⟨g,0,none⟩) n c) (.int .i64 i)).run Tryz.prog w= .ok (.pointer (some ⟨g,i.toNat,none⟩)) w:=by
 simp[Instr.indexAt,asIntOf,run_underlying Tryz.underlying35,Sem.run_bind,h0,h1,Addr.add_mid]
theorem hi_at0:∀n:Nat,n<25→(hiT.map fun z=>Value.int .i64 z)[n]?=some (.int .i64 (hiT.getD n 0)):=by
 intro n hn
 rw[List.getElem?_map,List.getElem?_eq_getElem (by show n<25;exact hn)]
 simp[List.getD,List.getElem?_eq_getElem (show n<hiT.length from hn)]
theorem hi_at (k:Int):(hiT.map fun z=>Value.int .i64 z)[(max 0 (min k 24)).toNat]?=some (.int .i64 (hiv k)):=hi_at0 _ (by omega)
def s48 (k:Int):Int:=hiv (if 24<k then 48-k else k)
theorem s48_tab:∀n:Nat,n<48→s48 (n:Int)=spk (n:Int):=by decide+kernel
theorem s48_sp {k:Int} (h0:0≤k) (h1:k<48):s48 k=spk k:=by
 have:=s48_tab k.toNat (by omega)
 rwa[show((k.toNat:Nat):Int)=k by omega] at this
theorem s48_opp {k:Int} (h0:48≤k%96): -(s48 (k%96-48))=spk k:=by
 rw[s48_sp (by omega) (by omega)]
 have:=sp_opp (k%96-48)
 rw[←sp_mod k,←this,show k%96-48+48=k%96 by omega]
theorem s48_same {k:Int} (h0:¬48≤k%96):s48 (k%96)=spk k:=by
 rw[s48_sp (by omega) (by omega),sp_mod]
theorem s48_bd {k:Int} (h0:0≤k) (h1:k<48): -3438≤s48 k∧s48 k≤3438:=by rw[s48_sp h0 h1];exact sp_bd k
theorem pairs25 {a:Act} {x0 x1 x2 x3 x4 x5 x6 x7 x8 x9 x10 x11 x12 x13 x14 x15 x16 x17 x18 x19 x20 x21 x22 x23 x24:Value}:(#[(0,Operand.const x0),(1,Operand.const x1),(2,Operand.const x2),(3,Operand.const x3),(4,Operand.const x4),(5,Operand.const x5),(6,Operand.const x6),(7,Operand.const x7),(8,Operand.const x8),(9,Operand.const x9),(10,Operand.const x10),(11,Operand.const x11),(12,Operand.const x12),(13,Operand.const x13),(14,Operand.const x14),(15,Operand.const x15),(16,Operand.const x16),(17,Operand.const x17),(18,Operand.const x18),(19,Operand.const x19),(20,Operand.const x20),(21,Operand.const x21),(22,Operand.const x22),(23,Operand.const x23),(24,Operand.const x24)].map fun(p:Nat×Operand)=>(p.1,a.eval p.2))=#[(0,x0),(1,x1),(2,x2),(3,x3),(4,x4),(5,x5),(6,x6),(7,x7),(8,x8),(9,x9),(10,x10),(11,x11),(12,x12),(13,x13),(14,x14),(15,x15),(16,x16),(17,x17),(18,x18),(19,x19),(20,x20),(21,x21),(22,x22),(23,x23),(24,x24)]:=by simp[Act.eval]
theorem dmod96_any (k:Int) (w:World):
 Calls Tryz.prog 249 #[.int .i64 k,.int .i64 96] w (ValPost w (.int .i64 (k%96))):=by
 have bel:Below w.heap.size w w:=Below.refl _ _
 refine E.enter (nt:=12) (L:=[(0,.int .i64 k),(1,.int .i64 96)]) Tryz.func249 rfl rfl rfl (args_cons (i:=0) rfl (args_cons (i:=1) rfl args_nil)) ?_
 intro a hF
 refine wp_seq ?_
 refine E.seq ?_
 refine E.opv hF (r_assign ev_c) rfl rfl rfl rfl fun a hF=>?_
 refine E.nil ?_
 refine wp_seq ?_
 refine E.seq ?_
 refine E.opv hF (r_move (hF.at 1 rfl)) rfl rfl rfl rfl fun a hF=>?_
 refine E.opv hF (r_move (hF.at 3 rfl)) rfl rfl rfl rfl fun a hF=>?_
 refine E.opv hF (r_bin (hF.at 1 rfl) (hF.at 0 rfl) eg_scalar (id_rem (a:=k) (b:=96) (by omega))) rfl rfl rfl rfl fun a hF=>?_
 refine E.opv hF (r_move (hF.at 5 rfl)) rfl rfl rfl rfl fun a hF=>?_
 refine E.opv hF (r_bin (hF.at 1 rfl) (hF.at 0 rfl) eg_scalar (ia_add (by omega) (by omega))) rfl rfl rfl rfl fun a hF=>?_
 refine E.opv hF (r_move (hF.at 7 rfl)) rfl rfl rfl rfl fun a hF=>?_
 refine E.opv hF (r_bin (hF.at 1 rfl) (hF.at 0 rfl) eg_scalar (id_rem (a:=(if 0≤k then k%96 else -(-k%96))+96) (b:=96) (by omega))) rfl rfl rfl rfl fun a hF=>?_
 refine E.opset (L':=[(4,.int .i64 (if 0≤(if 0≤k then k%96 else -(-k%96))+96 then((if 0≤k then k%96 else -(-k%96))+96)%96 else -(-((if 0≤k then k%96 else -(-k%96))+96)%96))),(11,.int .i64 (if 0≤(if 0≤k then k%96 else -(-k%96))+96 then((if 0≤k then k%96 else -(-k%96))+96)%96 else -(-((if 0≤k then k%96 else -(-k%96))+96)%96))),(10,.int .i64 96),(9,.int .i64 ((if 0≤k then k%96 else -(-k%96))+96)),(8,.int .i64 96),(7,.int .i64 (if 0≤k then k%96 else -(-k%96))),(6,.int .i64 96),(5,.int .i64 k),(0,.int .i64 k),(1,.int .i64 96)]) hF (r_assign (hF.at 0 rfl)) rfl rfl rfl rfl fun a hF=>?_
 refine E.nil ?_
 refine wp_ret ?_
 refine bodyPost_ret (res_tmp Tryz.results249 (hF.at 0 rfl)) hF.dfr ?_
 refine⟨rv_int ?_,bel⟩
 omega
theorem dhigh_any (k:Int) (w:World):
 Calls Tryz.prog 251 #[.int .i64 k] w (ValPost w (.int .i64 (hiv k))):=by
 have bel:Below w.heap.size w w:=Below.refl _ _
 refine E.enter (nt:=9) (L:=[(0,.int .i64 k)]) Tryz.func251 rfl rfl rfl (args_cons (i:=0) rfl args_nil) ?_
 intro a hF
 refine wp_seq ?_
 refine E.seq ?_
 refine E.opv hF (r_assign ev_c) rfl rfl rfl rfl fun a hF=>?_
 refine E.nil ?_
 refine wp_seq ?_
 refine E.seq ?_
 obtain⟨gs2,w1,hr,bb,ols⟩:=bs_25 w
 refine E.opv hF (r_buildSlice pairs25 hr) rfl rfl rfl rfl fun a hF=>?_
 clear hr
 replace bel:=below_to bel bb
 clear bb
 refine E.opv hF (r_move (hF.at 2 rfl)) rfl rfl rfl rfl fun a hF=>?_
 refine E.opv hF (r_builtin (map2 (hF.at 0 rfl) ev_c) bl_min) rfl rfl rfl rfl fun a hF=>?_
 refine E.opv hF (r_builtin (map2 ev_c (hF.at 0 rfl)) bl_max) rfl rfl rfl rfl fun a hF=>?_
 refine E.opv hF (r_index (hF.at 3 rfl) (hF.at 0 rfl) (ix_ints9 (by omega) (by omega))) rfl rfl rfl rfl fun a hF=>?_
 refine E.opv hF (r_load (hF.at 0 rfl) (ldb_int (v:= .int .i64 (hiv k)) ols (hi_at k))) rfl rfl rfl rfl fun a hF=>?_
 refine E.opset (L':=[(2,.int .i64 (hiv k)),(8,.int .i64 (hiv k)),(7,.pointer (some ⟨gs2,(max 0 (min k 24)).toNat,none⟩)),(6,.int .i64 (max 0 (min k 24))),(5,.int .i64 (min k 24)),(4,.int .i64 k),(3,.slice (some ⟨gs2,0,none⟩) 25 25),(0,.int .i64 k)]) hF (r_assign (hF.at 0 rfl)) rfl rfl rfl rfl fun a hF=>?_
 refine E.nil ?_
 refine wp_ret ?_
 refine bodyPost_ret (res_tmp Tryz.results251 (hF.at 0 rfl)) hF.dfr ?_
 exact⟨rfl,bel⟩
theorem s48_any (k:Int) (w:World) (h0:0≤k) (h1:k<48):
 Calls Tryz.prog 250 #[.int .i64 k] w (ValPost w (.int .i64 (s48 k))):=by
 have bel:Below w.heap.size w w:=Below.refl _ _
 refine E.enter (nt:=10) (L:=[(0,.int .i64 k)]) Tryz.func250 rfl rfl rfl (args_cons (i:=0) rfl args_nil) ?_
 intro a hF
 refine wp_seq ?_
 refine E.seq ?_
 refine E.opv hF (r_assign ev_c) rfl rfl rfl rfl fun a hF=>?_
 refine E.nil ?_
 refine wp_seq ?_
 refine wp_seq ?_
 refine E.seq ?_
 refine E.opv hF (r_move (hF.at 1 rfl)) rfl rfl rfl rfl fun a hF=>?_
 by_cases hc1:24<k
 ·first
  |(exfalso;omega)
  |(refine E.opv hF (r_bin (hF.at 0 rfl) ev_c eg_scalar (bi_int (ic_gtr (c:=true) (dec_tt hc1)) (by simp))) rfl rfl rfl rfl fun a hF=>?_
    refine E.nil ?_
    refine wp_cond_true (hF.at 0 rfl) ?_
    refine wp_seq ?_
    refine E.seq ?_
    refine E.opv hF (r_move (hF.at 3 rfl)) rfl rfl rfl rfl fun a hF=>?_
    refine E.opv hF (r_bin ev_c (hF.at 0 rfl) eg_scalar (ia_sub (by omega) (by omega))) rfl rfl rfl rfl fun a hF=>?_
    refine E.call hF (r_call Tryz.func251 en251.1 en251.2 (map1 (hF.at 0 rfl))) (dhigh_any (48-k) _) rfl rfl rfl rfl ?_
    rintro e w2 ⟨rfl,bb⟩
    refine⟨_,rfl,?_⟩
    intro a hF
    replace bel:=below_to bel bb
    clear bb
    refine E.opset (L':=[(2,.int .i64 (hiv (48-k))),(7,.int .i64 (hiv (48-k))),(6,.int .i64 (48-k)),(5,.int .i64 k),(4,.bool true),(3,.int .i64 k),(0,.int .i64 k)]) hF (r_assign (hF.at 0 rfl)) rfl rfl rfl rfl fun a hF=>?_
    refine E.nil ?_
    refine wp_ret ?_
    refine bodyPost_ret (res_tmp Tryz.results250 (hF.at 0 rfl)) hF.dfr ?_
    refine⟨rv_int ?_,bel⟩
    unfold s48;rw[if_pos (by omega)])
 ·first
  |(exfalso;omega)
  |(refine E.opv hF (r_bin (hF.at 0 rfl) ev_c eg_scalar (bi_int (ic_gtr (c:=false) (dec_ff hc1)) (by simp))) rfl rfl rfl rfl fun a hF=>?_
    refine E.nil ?_
    refine wp_cond_false (hF.at 0 rfl) ?_
    refine wp_skip ?_
    refine E.norm ?_
    refine wp_seq ?_
    refine E.seq ?_
    refine E.opv hF (r_move (hF.at 3 rfl)) rfl rfl rfl rfl fun a hF=>?_
    refine E.call hF (r_call Tryz.func251 en251.1 en251.2 (map1 (hF.at 0 rfl))) (dhigh_any k _) rfl rfl rfl rfl ?_
    rintro e w3 ⟨rfl,bb⟩
    refine⟨_,rfl,?_⟩
    intro a hF
    replace bel:=below_to bel bb
    clear bb
    refine E.opset (L':=[(2,.int .i64 (hiv k)),(9,.int .i64 (hiv k)),(8,.int .i64 k),(4,.bool false),(3,.int .i64 k),(0,.int .i64 k)]) hF (r_assign (hF.at 0 rfl)) rfl rfl rfl rfl fun a hF=>?_
    refine E.nil ?_
    refine wp_ret ?_
    refine bodyPost_ret (res_tmp Tryz.results250 (hF.at 0 rfl)) hF.dfr ?_
    refine⟨rv_int ?_,bel⟩
    unfold s48;rw[if_neg (by omega)])
theorem rsine_any (k:Int) (w:World):
 Calls Tryz.prog 227 #[.int .i64 k] w (ValPost w (.int .i64 (spk k))):=by
 have hsb:=fun h0=>s48_bd (k:=(k%96)-48) h0 (by omega)
 have bel:Below w.heap.size w w:=Below.refl _ _
 refine E.enter (nt:=13) (L:=[(0,.int .i64 k)]) Tryz.func227 rfl rfl rfl (args_cons (i:=0) rfl args_nil) ?_
 intro a hF
 refine wp_seq ?_
 refine E.seq ?_
 refine E.opv hF (r_assign ev_c) rfl rfl rfl rfl fun a hF=>?_
 refine E.nil ?_
 refine wp_seq ?_
 refine E.seq ?_
 refine E.opv hF (r_move (hF.at 1 rfl)) rfl rfl rfl rfl fun a hF=>?_
 refine E.call hF (r_call Tryz.func249 en249.1 en249.2 (map2 (hF.at 0 rfl) ev_c)) (dmod96_any k _) rfl rfl rfl rfl ?_
 rintro e w1 ⟨rfl,bb⟩
 refine⟨_,rfl,?_⟩
 intro a hF
 replace bel:=below_to bel bb
 clear bb
 refine E.opset (L':=[(0,.int .i64 ((k)%96)),(4,.int .i64 ((k)%96)),(3,.int .i64 k),(2,.int .i64 0)]) hF (r_assign (hF.at 0 rfl)) rfl rfl rfl rfl fun a hF=>?_
 refine E.nil ?_
 refine wp_seq ?_
 refine wp_seq ?_
 refine E.seq ?_
 refine E.opv hF (r_move (hF.at 0 rfl)) rfl rfl rfl rfl fun a hF=>?_
 by_cases hc2:48≤(k)%96
 ·first
  |(exfalso;omega)
  |(refine E.opv hF (r_bin (hF.at 0 rfl) ev_c eg_scalar (bi_int (ic_geq (c:=true) (dec_tt hc2)) (by simp))) rfl rfl rfl rfl fun a hF=>?_
    refine E.nil ?_
    refine wp_cond_true (hF.at 0 rfl) ?_
    refine wp_seq ?_
    refine E.seq ?_
    refine E.opv hF (r_move (hF.at 2 rfl)) rfl rfl rfl rfl fun a hF=>?_
    refine E.opv hF (r_bin (hF.at 0 rfl) ev_c eg_scalar (ia_sub (by omega) (by omega))) rfl rfl rfl rfl fun a hF=>?_
    refine E.call hF (r_call Tryz.func250 en250.1 en250.2 (map1 (hF.at 0 rfl))) (s48_any (((k)%96)-48) _ (by omega) (by omega)) rfl rfl rfl rfl ?_
    rintro e w3 ⟨rfl,bb⟩
    refine⟨_,rfl,?_⟩
    intro a hF
    replace bel:=below_to bel bb
    clear bb
    refine E.opv hF (r_un (hF.at 0 rfl) (bn_neg (by omega) (by omega))) rfl rfl rfl rfl fun a hF=>?_
    refine E.opset (L':=[(2,.int .i64 (-(s48 (((k)%96)-48)))),(10,.int .i64 (-(s48 (((k)%96)-48)))),(9,.int .i64 (s48 (((k)%96)-48))),(8,.int .i64 (((k)%96)-48)),(7,.int .i64 ((k)%96)),(6,.bool true),(5,.int .i64 ((k)%96)),(0,.int .i64 ((k)%96)),(4,.int .i64 ((k)%96)),(3,.int .i64 k)]) hF (r_assign (hF.at 0 rfl)) rfl rfl rfl rfl fun a hF=>?_
    refine E.nil ?_
    refine wp_ret ?_
    refine bodyPost_ret (res_tmp Tryz.results227 (hF.at 0 rfl)) hF.dfr ?_
    refine⟨rv_int ?_,bel⟩
    exact s48_opp (by omega))
 ·first
  |(exfalso;omega)
  |(refine E.opv hF (r_bin (hF.at 0 rfl) ev_c eg_scalar (bi_int (ic_geq (c:=false) (dec_ff hc2)) (by simp))) rfl rfl rfl rfl fun a hF=>?_
    refine E.nil ?_
    refine wp_cond_false (hF.at 0 rfl) ?_
    refine wp_skip ?_
    refine E.norm ?_
    refine wp_seq ?_
    refine E.seq ?_
    refine E.opv hF (r_move (hF.at 2 rfl)) rfl rfl rfl rfl fun a hF=>?_
    refine E.call hF (r_call Tryz.func250 en250.1 en250.2 (map1 (hF.at 0 rfl))) (s48_any ((k)%96) _ (by omega) (by omega)) rfl rfl rfl rfl ?_
    rintro e w4 ⟨rfl,bb⟩
    refine⟨_,rfl,?_⟩
    intro a hF
    replace bel:=below_to bel bb
    clear bb
    refine E.opset (L':=[(2,.int .i64 (s48 ((k)%96))),(12,.int .i64 (s48 ((k)%96))),(11,.int .i64 ((k)%96)),(6,.bool false),(5,.int .i64 ((k)%96)),(0,.int .i64 ((k)%96)),(4,.int .i64 ((k)%96)),(3,.int .i64 k)]) hF (r_assign (hF.at 0 rfl)) rfl rfl rfl rfl fun a hF=>?_
    refine E.nil ?_
    refine wp_ret ?_
    refine bodyPost_ret (res_tmp Tryz.results227 (hF.at 0 rfl)) hF.dfr ?_
    refine⟨rv_int ?_,bel⟩
    exact s48_same (by omega))
theorem tabD_of {w:World} (h:Lib.TabIs Tryz.prog w "ephemeris/dial.heights" .i64 [0,225,449,671,890,1105,1315,1520,1719,1910,2093,2267,2431,2585,2728,2859,2978,3084,3177,3256,3321,3372,3409,3431,3438]):TabD w:=fun i hi=>h.cell (by kernel_rfl) i hi
end
end
end Go.Proofs.YtnljadejcfgmaaaGreatDoor
