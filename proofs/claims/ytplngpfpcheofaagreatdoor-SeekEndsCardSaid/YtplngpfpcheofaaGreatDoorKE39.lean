import Derived.Test.YtplngpfpcheofaaGreatDoorKE38
namespace Go.Proofs.YtplngpfpcheofaaGreatDoor
open Go.RowKit
set_option maxRecDepth 100000
set_option linter.unusedVariables false
set_option maxHeartbeats 8000000
theorem AO {c:Int} (h0:0≤c) (h1:c≤4) {a b:Rat} (h:a≤b):kS c a≤kS c b:=by
 have r:=(lN h0 h1 a (d:=b-a) (by grind)).1
 rw[show a+(b-a)=b by grind] at r
 unfold kS
 exact Rat.le_floor_iff.2 (Rat.le_trans (iX _) (by grind))
theorem xf {k n:Int} (h0:0≤k) (h1:k≤n) (hn:0<n):0≤((k:Int):Rat)/((n:Int):Rat)∧((k:Int):Rat)/((n:Int):Rat)≤1:=by
 have a:0≤((k:Int):Rat):=Rat.intCast_nonneg.2 h0
 have b:((k:Int):Rat)≤((n:Int):Rat):=Rat.intCast_le_intCast.2 h1
 have c:0<((n:Int):Rat):=Rat.intCast_pos.2 hn
 have d:0<((n:Int):Rat)⁻¹ :=Rat.inv_pos.2 c
 have e:((n:Int):Rat)*((n:Int):Rat)⁻¹ =1:=Rat.mul_inv_cancel _ (by grind)
 rw[Rat.div_def]
 generalize ((n:Int):Rat)⁻¹ =y at*
 generalize ((n:Int):Rat)=x at*
 generalize ((k:Int):Rat)=z at*
 refine⟨Rat.mul_nonneg a (Rat.le_of_lt d),?_⟩
 have:=Rat.mul_le_mul_of_nonneg_right b (Rat.le_of_lt d)
 grind
theorem zi {lo hi:Rat} (h:lo≤hi) {k n:Int} (h0:0≤k) (h1:k≤n) (hn:0<n):lo≤atR lo hi k n∧atR lo hi k n≤hi:=by
 have f:=xf h0 h1 hn
 unfold atR
 generalize ((k:Int):Rat)/((n:Int):Rat)=y at*
 have g:0≤hi-lo:=by grind
 have a:=Rat.mul_nonneg g f.1
 have b:=Rat.mul_le_mul_of_nonneg_left f.2 g
 constructor <;> grind
theorem zn (p:Rat→Bool) {lo hi:Rat} (h:lo≤hi) (n:Nat):lo≤hlo p lo hi n∧hlo p lo hi n≤hi:=zi h (eN p lo hi n).1 (by have:=eN p lo hi n;omega) (de n)
theorem xK (c:Int):0<kQ c:=by unfold kQ;split <;> decide+kernel
theorem vM (c:Int) (t:Rat):elo c t≤dH c t∧dH c t≤elo c t+kQ c:=by
 have h:=zn (fG c (kI c t)) (lo:=elo c t) (hi:=ehi c t) (by rw[jp];have:=xK c;grind) 21
 rw[jp] at h
 unfold dH
 rw[jp]
 exact h
theorem yy {c:Int} (h0:0≤c) (h1:c≤4) (t:Rat):kS c (dH c t)=kS c t:=by
 have i:=vM c t
 have p:=q8 h0 h1 t
 have f:=mR h0 h1 t
 have g:=nD.1 (ve h0 h1 t)
 rw[←p]
 have s:=pS h0 h1 (elo c t) (d:=dH c t-elo c t) (by grind) (by grind)
 rw[show elo c t+(dH c t-elo c t)=dH c t by grind] at s
 exact s (by rw[f,g])
theorem ko (c:Int) (t:Rat):fh c t=dH c t+kQ c*(1/2097152):=by have:=xw c t;grind
theorem mX (c:Int):0≤kQ c*(1/2097152)∧kQ c*(1/2097152)≤kQ c∧kQ c*(1/2097152)<1/1048576:=by
 unfold kQ
 split
 ·exact⟨by decide+kernel,by decide+kernel,by decide+kernel⟩
 ·exact⟨by decide+kernel,by decide+kernel,by decide+kernel⟩
theorem xF {c:Int} (h0:0≤c) (h1:c≤4) (t:Rat):kS c (fh c t)=kS c t+1:=by
 have q:=mX c
 have e:=wN h0 h1 (dH c t) q.1 q.2.1 (by rw[←ko,mR h0 h1];exact yf h0 h1 t)
 rw[←ko,yy h0 h1] at e
 exact e
theorem yY {c:Int} (h0:0≤c) (h1:c≤4) (t:Rat):kI c (fh c t)=(kI c t+1)%kN c:=by
 rw[gO h0 h1,gO h0 h1,xF h0 h1]
 exact(Int.emod_add_emod _ _ _).symm
theorem u6 (c:Int) (t:Rat):fh c t-dH c t<1/1048576:=by have:=ko c t;have:=mX c;grind
theorem mO {q:Rat} {n d:Int} (hq:q=((n:Int):Rat)/((d:Int):Rat)) {k:Nat} (h1:n.natAbs<B32^k) (h2:d.natAbs<B32^k) (hd:0<d) (hk:1≤k):az q k:=by
 subst hq
 exact(bf (z:=n) (y:=d) (a:=k) (b:=k) h1 h2).up _ (by omega)
theorem lF (c n i:Int):pcs c (((n:Int):Rat)/((4096:Int):Rat)) i=(((n*ov c+i*4096:Int)):Rat)/(((4096*ov c:Int)):Rat):=by
 have o:=jZ c
 have h:=gD (n:=ov c) (by omega)
 unfold pcs
 rw[Rat.intCast_add,Rat.intCast_mul,Rat.intCast_mul,Rat.intCast_mul,show((4096:Int):Rat)=4096 from rfl]
 generalize ((ov c:Int):Rat)=x at*
 generalize ((n:Int):Rat)=y at*
 generalize ((i:Int):Rat)=z at*
 grind
theorem yE (c n i k:Int):atR (pcs c (((n:Int):Rat)/((4096:Int):Rat)) i) (pcs c (((n:Int):Rat)/((4096:Int):Rat)) (i+1)) k 2097152=((((n*ov c+i*4096)*2097152+k*4096:Int)):Rat)/(((4096*ov c*2097152:Int)):Rat):=by
 have o:=jZ c
 have h:=gD (n:=ov c) (by omega)
 unfold atR
 rw[lF,lF]
 simp only [Rat.intCast_add,Rat.intCast_mul]
 rw[show((4096:Int):Rat)=4096 from rfl,show((2097152:Int):Rat)=2097152 from rfl,show((1:Int):Rat)=1 from rfl]
 generalize ((ov c:Int):Rat)=x at*
 generalize ((n:Int):Rat)=y at*
 generalize ((i:Int):Rat)=z at*
 generalize ((k:Int):Rat)=u at*
 grind
theorem jW:B32^2=18446744073709551616:=rfl
theorem uQ {c n i:Int} (h0: -12300000000≤n) (h1:n≤12300000000) (i0:0≤i) (i1:i≤1000):az (pcs c (((n:Int):Rat)/((4096:Int):Rat)) i) 2:=by
 have o:ov c=1∨ov c=4:=by unfold ov;split <;> simp
 refine mO (lF c n i) ?_ ?_ ?_ (by decide)
 ·rw[jW];rcases o with o|o <;> rw[o] <;> omega
 ·rw[jW];rcases o with o|o <;> rw[o] <;> omega
 ·rcases o with o|o <;> rw[o] <;> omega
theorem xu {c n i k:Int} (h0: -12300000000≤n) (h1:n≤12300000000) (i0:0≤i) (i1:i≤1000) (k0:0≤k) (k1:k≤2097152):az (atR (pcs c (((n:Int):Rat)/((4096:Int):Rat)) i) (pcs c (((n:Int):Rat)/((4096:Int):Rat)) (i+1)) k 2097152) 2:=by
 have o:ov c=1∨ov c=4:=by unfold ov;split <;> simp
 refine mO (yE c n i k) ?_ ?_ ?_ (by decide)
 ·rw[jW];rcases o with o|o <;> rw[o] <;> omega
 ·rw[jW];rcases o with o|o <;> rw[o] <;> omega
 ·rcases o with o|o <;> rw[o] <;> omega
theorem mr (c:Int) (t:Rat):((aO c t:Nat):Int)≤33:=by
 by_cases h:0≤c∧c≤4
 ·have:=(cY h.1 h.2 t).1
  have:=mK c
  omega
 ·unfold aO;rw[dif_neg h];decide
theorem jb {c:Int} {t:Rat} {k:Nat} (h:az t k):az (dH c t) (3*k+17):=by
 have b:=mr c t
 exact(pz (p:=fG c (kI c t)) (fp (c:=c) h (i:=((aO c t:Nat):Int)) (by omega) (by omega)) (fp (c:=c) h (i:=((aO c t:Nat):Int)+1) (by omega) (by omega)) (n:=21) (by decide)).up _ (by omega)
theorem i3 {c:Int} {t:Rat} {k:Nat} (h:az t k):az (fh c t) (3*k+17):=by
 have b:=mr c t
 exact(pt (p:=fG c (kI c t)) (fp (c:=c) h (i:=((aO c t:Nat):Int)) (by omega) (by omega)) (fp (c:=c) h (i:=((aO c t:Nat):Int)+1) (by omega) (by omega)) (n:=21) (by decide)).up _ (by omega)
theorem li:(2:Int)^21=2097152:=by decide+kernel
theorem tc {c:Int} (h0:0≤c) (h1:c≤4) (t:Rat):br c (kX c t)=fG c (kI c t):=lM ⟨h0,h1⟩ t
theorem vZ {c:Int} (h0:0≤c) (h1:c≤4) (t:Rat):dH c t=atR (pcs c t ((aO c t:Nat):Int)) (pcs c t (((aO c t:Nat):Int)+1)) (hlv (br c (kX c t)) (pcs c t ((aO c t:Nat):Int)) (pcs c t (((aO c t:Nat):Int)+1)) 21) 2097152:=by
 rw[tc h0 h1,←li];rfl
theorem vT {c:Int} (h0:0≤c) (h1:c≤4) (t:Rat):fh c t=atR (pcs c t ((aO c t:Nat):Int)) (pcs c t (((aO c t:Nat):Int)+1)) (hlv (br c (kX c t)) (pcs c t ((aO c t:Nat):Int)) (pcs c t (((aO c t:Nat):Int)+1)) 21+1) 2097152:=by
 rw[tc h0 h1,←li];rfl
theorem xB {c:Int} (h0:0≤c) (h1:c≤4) (t:Rat):kX c (dH c t)=kX c t:=by rw[el h0 h1,el h0 h1];exact mR h0 h1 t
theorem vH {c:Int} (h0:0≤c) (h1:c≤4) (t:Rat):kX c (fh c t)=(kX c t+1)%kP c:=by
 rw[el h0 h1,el h0 h1,show kP c=kN c from if_pos ⟨h0,h1⟩];exact yY h0 h1 t
theorem zX {c:Int} (h0:0≤c) (h1:c≤4):12≤kP c∧kP c≤60:=by rw[show kP c=kN c from if_pos ⟨h0,h1⟩];exact ls c
theorem tb (c:Int) (t:Rat):fh c t-dH c t<((1:Int):Rat)/((1048576:Int):Rat):=by rw[show((1:Int):Rat)/((1048576:Int):Rat)=1/1048576 by decide+kernel];exact u6 c t
def awp (q:Rat):Bool:=decide (0<qc q (((1:Int):Rat)/((3:Int):Rat)))
theorem uc {a b:Rat}:0<qc a b↔b<a:=by
 rw[nT]
 split
 ·exact⟨fun h=>absurd h (by decide),fun h=>by grind⟩
 ·split
  ·exact⟨fun _=>by assumption,fun _=>by decide⟩
  ·exact⟨fun h=>absurd h (by decide),fun h=>by contradiction⟩
theorem mM {q:Rat}:awp q=true↔1/3<q:=by unfold awp;rw[decide_eq_true_iff,uc,show((1:Int):Rat)/((3:Int):Rat)=1/3 by decide+kernel]
theorem yW:hlv awp 0 ((1:Int):Rat) 21=699050:=by
 have a:=oB (p:=awp) (lo:=0) ((1:Int):Rat) (eq_false_of_ne_true fun e=>by have:=mM.1 e;revert this;decide+kernel) 21
 have b:=mt (p:=awp) 0 (hi:=((1:Int):Rat)) (mM.2 (by decide+kernel)) 21
 have b:=mM.1 b
 have a:¬1/3<hlo awp 0 ((1:Int):Rat) 21:=fun e=>by rw[mM.2 e] at a;cases a
 unfold hhi atR at b
 unfold hlo atR at a
 rw[li,show((2097152:Int):Rat)=2097152 from rfl,show((1:Int):Rat)=1 from rfl] at a b
 rw[Rat.intCast_add,show((1:Int):Rat)=1 from rfl] at b
 generalize hlv awp 0 1 21=k at*
 have u:((3*k:Int):Rat)≤((2097152:Int):Rat):=by rw[Rat.intCast_mul,show((3:Int):Rat)=3 from rfl,show((2097152:Int):Rat)=2097152 from rfl];grind
 have v:((2097152:Int):Rat)<((3*k+3:Int):Rat):=by rw[Rat.intCast_add,Rat.intCast_mul,show((3:Int):Rat)=3 from rfl,show((2097152:Int):Rat)=2097152 from rfl];grind
 have:=Rat.intCast_le_intCast.1 u
 have:=Rat.intCast_lt_intCast.1 v
 omega
theorem zD:hlo awp 0 ((1:Int):Rat) 21=((699050:Int):Rat)/((2097152:Int):Rat):=by
 unfold hlo
 rw[yW,li]
 decide+kernel
theorem z6:hhi awp 0 ((1:Int):Rat) 21=((699051:Int):Rat)/((2097152:Int):Rat):=by
 unfold hhi
 rw[yW,li]
 decide+kernel
end Go.Proofs.YtplngpfpcheofaaGreatDoor
