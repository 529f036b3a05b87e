import Derived.Test.YtdbiegfmgabicaaGreatDoorKA21
import Derived.Test.YtdbiegfmgabicaaGreatDoorKA22
namespace Go.Proofs.YtdbiegfmgabicaaGreatDoor
open Go.RowKit
set_option maxRecDepth 100000
set_option linter.unusedVariables false
set_option maxHeartbeats 8000000
section
section
theorem BU (nega1:Bool) (aa1:Option Addr) (na1 ca1:Nat) (xa1:List Nat) (negb1:Bool) (ab1:Option Addr) (nb1 cb1:Nat) (xb1:List Nat) (m:Nat) (w:World) (ia1:InX w aa1 na1 ca1 xa1) (ib1:InX w ab1 nb1 cb1 xb1) (hm:m≤1000) (hm1:1≤m):
 Calls Tryz.prog 64 #[.agg #[.bool nega1,.slice aa1 na1 ca1,.bool negb1,.slice ab1 nb1 cb1],.int .i64 (m:Nat)] w (bW w ((jg nega1 xa1 m:Rat)/(jg negb1 xb1 m:Rat)) m):=by
 have oka1:=ia1.ok
 have okb1:=ib1.ok
 have st:=St.start w
 refine go2 (nt:=14) Tryz.func64 rfl rfl rfl fun a hF=>?_
 refine wq ?_
 refine bx st hF 0 rfl rfl fun g2 w1 a st hF=>?_
 refine S.alloc st hF ag rfl rfl fun g4 w2 a st hF=>?_
 refine ns ?_
 refine E.drawn 9 aF hF [5,6,7,8,9,10,11,12,13] [(fun _ v=>v= .pointer (some ⟨g2,0,none⟩)),(fun _ v=>v= .agg #[.bool nega1,.slice aa1 na1 ca1]),(fun _ v=>v= .int .i64 ((m:Nat):Int)),(fun w v=>Rz w v (jg nega1 xa1 m)),(fun _ v=>v= .pointer (some ⟨g2,2,none⟩)),(fun _ v=>v= .agg #[.bool negb1,.slice ab1 nb1 cb1]),(fun _ v=>v= .int .i64 ((m:Nat):Int)),(fun w v=>Rz w v (jg negb1 xb1 m)),(fun w v=>Rr w v (((jg nega1 xa1 m:Int):Rat)/((jg negb1 xb1 m:Int):Rat)) (m))] [] (by decide+kernel) (by decide+kernel) rfl rfl rfl ⟨(Mb.eq _),(Mb.eq _),(Mb.eq _),(fun _ _ _ h hb=>h.below hb),(Mb.eq _),(Mb.eq _),(Mb.eq _),(fun _ _ _ h hb=>h.below hb),(fun _ _ _ h hb=>h.below hb),trivial⟩ trivial ⟨?_,?_,?_,?_,?_,?_,?_,?_,?_,trivial⟩ ?_
 ·intro a' w' hF' hb hd
  exact dv0 (av (hF'.at 1 rfl) (BD (p:=0) rfl)) rfl rfl rfl
 ·intro a' w' hF' hb hd
  have e5:=tE hd 0 rfl
  exact dv0 (au e5 (Db (vs:=[.bool nega1,.slice aa1 na1 ca1]) ((st.b 1 rfl rfl).below hb) rfl rfl)) rfl rfl rfl
 ·exact qM 3 rfl rfl rfl
 ·intro a' w' hF' hb hd
  have e6:=tE hd 0 rfl
  have e7:=tE hd 1 rfl
  exact dc0 (rk GP (aI e6 e7)) (wW nega1 aa1 na1 ca1 m xa1 _ (ia1.below (aC st.bel hb)) (by omega)) rfl rfl
 ·intro a' w' hF' hb hd
  exact dv0 (av (hF'.at 1 rfl) (CI (p:=2) rfl)) rfl rfl rfl
 ·intro a' w' hF' hb hd
  have e9:=tE hd 0 rfl
  exact dv0 (au e9 (Db (vs:=[.bool negb1,.slice ab1 nb1 cb1]) ((st.b 1 rfl rfl).below hb) rfl rfl)) rfl rfl rfl
 ·exact qM 3 rfl rfl rfl
 ·intro a' w' hF' hb hd
  have e10:=tE hd 0 rfl
  have e11:=tE hd 1 rfl
  exact dc0 (rk GP (aI e10 e11)) (wW negb1 ab1 nb1 cb1 m xb1 _ (ib1.below (aC st.bel hb)) (by omega)) rfl rfl
 ·intro a' w' hF' hb hd
  obtain⟨v8_0,e8,h8_1⟩:=tH hd 0 rfl
  obtain⟨v12_0,e12,h12_1⟩:=tH hd 1 rfl
  exact dc0 (rk uv (aI e8 e12)) (md _ _ (jg nega1 xa1 m) (jg negb1 xb1 m) m _ h8_1 h12_1 (Lim.up (tQ nega1 oka1 m) _ (by omega)) (Lim.up (tQ negb1 okb1 m) _ (by omega)) (by omega)) rfl rfl
 intro a w3 hF bb hall hne
 replace st:=st.to bb
 obtain⟨vv4,hF,st⟩:=aS hall hF st 8 rfl rfl Rr.cl
 clear hall hne bb
 obtain⟨r6,rfl⟩:=Rr.fo (st.f 0 rfl)
 refine so st hF 0 1 0 ag rfl rfl rfl rfl fun w7 a st hF=>?_
 refine nr ?_
 refine rs Tryz.results64 st hF 1 0 ag rfl rfl rfl ?_
 have bel:=st.bel
 have hh5:=(st.f 0 rfl)
 exact⟨_,rfl,hh5,bel⟩
end
section
end
section
theorem xe (a b:Rat):qc a b=if a<b then -1 else if b<a then 1 else 0:=by
 unfold qc ci
 simp only [←Rat.lt_iff]
theorem lQ (z:Int): -1≤sz z∧sz z≤1:=by unfold sz;split <;> (try split) <;> omega
theorem wV (q:Rat):sz q.num=if q<0 then -1 else if 0<q then 1 else 0:=by
 have h1:q<0↔q.num<0:=by rw[Rat.lt_iff];simp
 have h2:0<q↔0<q.num:=by rw[Rat.lt_iff];simp
 simp only [h1,h2]
 unfold sz
 split
 ·rename_i e;rw[e];simp
 ·split
  ·rfl
  ·rw[if_pos (by omega)]
theorem lD {a b:Int} (ha: -1≤a∧a≤1) (hb: -1≤b∧b≤1): -9223372036854775808≤a*b∧a*b≤9223372036854775807:=by
 obtain⟨a1,a2⟩:=ha
 obtain⟨b1,b2⟩:=hb
 have h:a= -1∨a=0∨a=1:=by omega
 rcases h with rfl|rfl|rfl <;> constructor <;> omega
end
end
theorem BE {x:Int} {a:Nat} (y:Int) (h:Lim x.natAbs a):Lim (x.fdiv y).natAbs (a+1):=by
 refine Nat.lt_of_le_of_lt (m:=x.natAbs+1) ?_ ?_
 ·rw[Int.fdiv_eq_ediv]
  have h1:(x/y).natAbs ≤x.natAbs:=Int.natAbs_ediv_le_natAbs x y
  split <;> omega
 ·have h1:B32^a+1≤B32^(a+1):=by
   rw[Nat.pow_succ]
   have h2:0<B32^a:=Nat.pow_pos (by decide)
   have h3:B32^a*2≤B32^a*B32:=Nat.mul_le_mul_left _ (by decide)
   omega
  unfold Lim at h
  omega
theorem tq (z y:Int) (h:y≠0):∃r,z=sg (decide (z<0) !=decide (y<0)) (z.natAbs/y.natAbs)*y+r∧r.natAbs<y.natAbs∧(0≤z→0≤r)∧(z≤0→r≤0):=by
 have h1:=Nat.div_add_mod z.natAbs y.natAbs
 have h2:=Nat.mod_lt z.natAbs (show 0<y.natAbs by omega)
 generalize z.natAbs/y.natAbs=q at*
 generalize z.natAbs%y.natAbs=r at*
 have h3:((y.natAbs*q:Nat):Int)=(y.natAbs:Int)*(q:Int):=by simp
 by_cases hz:z<0 <;> by_cases hy:y<0
 ·refine⟨-(r:Int),?_,by omega,by omega,by omega⟩
  rw[decide_eq_true hz,decide_eq_true hy]
  have e:(y.natAbs:Int)= -y:=by omega
  rw[e,Int.neg_mul] at h3
  show z=(q:Int)*y+_
  rw[Int.mul_comm];omega
 ·refine⟨-(r:Int),?_,by omega,by omega,by omega⟩
  rw[decide_eq_true hz,decide_eq_false hy]
  have e:(y.natAbs:Int)=y:=by omega
  rw[e] at h3
  show z= -(q:Int)*y+_
  rw[Int.neg_mul,Int.mul_comm];omega
 ·refine⟨(r:Int),?_,by omega,by omega,by omega⟩
  rw[decide_eq_false hz,decide_eq_true hy]
  have e:(y.natAbs:Int)= -y:=by omega
  rw[e,Int.neg_mul] at h3
  show z= -(q:Int)*y+_
  rw[Int.neg_mul,Int.mul_comm];omega
 ·refine⟨(r:Int),?_,by omega,by omega,by omega⟩
  rw[decide_eq_false hz,decide_eq_false hy]
  have e:(y.natAbs:Int)=y:=by omega
  rw[e] at h3
  show z=(q:Int)*y+_
  rw[Int.mul_comm];omega
theorem Ke {z y q r:Int} (h:y≠0) (e:z=q*y+r) (h1:0<y→0≤r∧r<y) (h2:y<0→r≤0∧y<r):q=Int.fdiv z y∧r=fr z y:=by
 unfold fr
 rw[if_neg h]
 rcases Int.lt_or_gt_of_ne h with h'|h'
 ·obtain⟨a,b⟩:=uC (a:=z) (b:=y) (q:=q) (r:=r) (by rw[e,Int.mul_comm]) (h2 h').1 (h2 h').2
  exact⟨a.symm,b.symm⟩
 ·obtain⟨a,b⟩:=rQ (a:=z) (b:=y) (q:=q) (r:=r) (by rw[e,Int.mul_comm]) (h1 h').1 (h1 h').2
  exact⟨a.symm,b.symm⟩
theorem Gk {a b:Int}:sz a*sz b<0↔(a<0∧0<b)∨(0<a∧b<0):=by
 unfold sz
 split <;> split <;> (try split) <;> (try split) <;> omega
theorem JH {z y q:Int} (hq:q=sg (decide (z<0) !=decide (y<0)) (z.natAbs/y.natAbs)) (h:y≠0) (ht:sz (z+ -(q*y))*sz y<0):q+ -1=Int.fdiv z y∧z+ -((q+ -1)*y)=fr z y:=by
 obtain⟨r,e,h1,h2,h3⟩:=tq z y h
 rw[←hq] at e
 have er:z+ -(q*y)=r:=by omega
 rw[er,Gk] at ht
 have e2:(q+ -1)*y=q*y-y:=by rw[Int.add_mul];omega
 have:=Ke (z:=z) (y:=y) (q:=q+ -1) (r:=r+y) h (by rw[e2];omega) (by omega) (by omega)
 exact⟨this.1,by rw[e2,←this.2];omega⟩
theorem G8 {z y q:Int} (hq:q=sg (decide (z<0) !=decide (y<0)) (z.natAbs/y.natAbs)) (h:y≠0) (ht:¬sz (z+ -(q*y))*sz y<0):q=Int.fdiv z y∧z+ -(q*y)=fr z y:=by
 obtain⟨r,e,h1,h2,h3⟩:=tq z y h
 rw[←hq] at e
 have er:z+ -(q*y)=r:=by omega
 rw[er,Gk] at ht
 rw[er]
 exact Ke h e (by omega) (by omega)
theorem Rz.cast {w:World} {v:Value} {z z':Int} (h:Rz w v z) (e:z=z'):Rz w v z':=by subst e;exact h
def Ma (w:World) (z1 z2:Int) (e:Ending) (w':World):Prop:=∃v1 v2,e= .returned (.tuple #[v1,v2])∧Rz w' v1 (z1.fdiv z2)∧Rz w' v2 (fr z1 z2)∧Below w.heap.size w w'
theorem InX.cl {a:Option Addr} {n c:Nat} {xs:List Nat}:Cl fun w=>InX w a n c xs:=fun _ _ h kp=>h.keep kp
theorem zj {P:Program} {w:World} {s t:TypeId} {k k0 k':IntKind} {a:Int} (hs:P.underlying s=some (.int k0)) (ht:P.underlying t=some (.int k')):(convert s t (.int k a)).run P w= .ok (.int k' (k'.wrap a)) w:=by
 unfold convert
 simp only [Sem.run_bind,run_underlying hs,run_underlying ht,Result.andThen_ok]
 rfl
theorem BZ (a:Int):IntKind.u64.wrap a=a%18446744073709551616:=by simp[IntKind.wrap,IntKind.signed,IntKind.bits]
theorem Ls (a:Int):IntKind.u32.wrap a=a%4294967296:=by simp[IntKind.wrap,IntKind.signed,IntKind.bits]
theorem Jq {P:Program} {w:World} {s t:TypeId} {k k0:IntKind} {N:Nat} (hs:P.underlying s=some (.int k0)) (ht:P.underlying t=some (.int .u64)) (h0:0<N) (h1:N≤9223372036854775808):(convert s t (.int k (-((N:Nat):Int)))).run P w= .ok (.int .u64 (18446744073709551616-((N:Nat):Int))) w:=by
 rw[zj hs ht,BZ,show -((N:Nat):Int)%18446744073709551616=18446744073709551616-((N:Nat):Int) by omega]
theorem rx {P:Program} {w:World} {s t:TypeId} {k k0:IntKind} {N:Nat} (hs:P.underlying s=some (.int k0)) (ht:P.underlying t=some (.int .u32)):(convert s t (.int k ((N:Nat):Int))).run P w= .ok (.int .u32 ((N%4294967296:Nat):Int)) w:=by
 rw[zj hs ht,Ls,Int.natCast_emod];rfl
theorem LM {P:Program} {w:World} {N:Nat} (h0:0<N) (h1:N≤9223372036854775808):(Op.unary .neg (.int .u64 (18446744073709551616-((N:Nat):Int)))).run P w= .ok (.int .u64 ((N:Nat):Int)) w:=by
 show(Op.intArith .sub .u64 0 (18446744073709551616-((N:Nat):Int))).run P w=_
 simp only [Op.intArith]
 rw[BZ,show(0-(18446744073709551616-((N:Nat):Int)))%18446744073709551616=((N:Nat):Int) by omega]
 rfl
theorem CS {P:Program} {w:World} {t:TypeId} {N:Nat}:(binOp .shr t (.int .u64 ((N:Nat):Int)) (.int .u64 32)).run P w= .ok (.int .u64 ((N/4294967296:Nat):Int)) w:=by
 have e:min ((32:Int).toNat) IntKind.u64.bits=32:=by simp[IntKind.bits]
 have h0:¬((32:Int)<0):=by omega
 simp only [binOp,Op.shift,if_neg h0,e]
 rw[Int.fdiv_eq_ediv_of_nonneg _ (by exact Int.le_of_lt (Int.pow_pos (by decide)))]
 rfl
theorem CR (w:World) (x y:Nat) (hx:x<4294967296) (hy:y<4294967296):∃g w',(Instr.buildSlice 50 2 #[(0,.int .u32 ((x:Nat):Int)),(1,.int .u32 ((y:Nat):Int))]).run Tryz.prog w= .ok (.slice (some ⟨g,0,none⟩) 2 2) w'∧Below w.heap.size w w'∧InX w' (some ⟨g,0,none⟩) 2 2 [x,y]:=by
 have hb:=ia (w:=w) (cs:=[.int .u32 ((x:Nat):Int),.int .u32 ((y:Nat):Int)]) 126
 refine⟨w.heap.size,w.alloc (.cells #[.int .u32 ((x:Nat):Int),.int .u32 ((y:Nat):Int)] 126),?_,hb.2,rfl,⟨?_⟩,?_,Nat.le_refl _,by unfold maxLen;omega,fun h=>by cases h⟩
 ·have hs:=bn (P:=Tryz.prog) (T:=126) (n:=1) (by kernel_rfl) w
  simp[Instr.buildSlice,go_sem,hs,Instr.fill,Value.cells,newRow,run_underlying (P:=Tryz.prog) Tryz.underlying50]
 ·intro i hi
  refine⟨w.heap.size,0,rfl,hb.1.lt,?_⟩
  obtain⟨T,hh⟩:=hb.1
  rw[cell_of_row _ _ _ _ _ _ hh,List.getElem?_toArray]
  have hi':i<2:=hi
  match i,hi' with
  |0,_=>rfl
  |1,_=>rfl
 ·intro z hz
  rcases List.mem_cons.1 hz with rfl|hz
  ·exact hx
  ·rcases List.mem_cons.1 hz with rfl|hz
   ·exact hy
   ·cases hz
def qz (w:World) (b:Bool) (N:Nat):Ending→World→Prop:=fun e w'=>∃g,e= .returned (.agg #[.bool b,.slice (some ⟨g,0,none⟩) 2 2])∧InX w' (some ⟨g,0,none⟩) 2 2 [N%4294967296,N/4294967296]∧Below w.heap.size w w'
theorem EH (b:Bool) (N:Nat):jg b [N%4294967296,N/4294967296] 2=sg b N:=by
 have e:vl B32 ([N%4294967296,N/4294967296].take 2)=N:=by
  show N%4294967296+4294967296*(N/4294967296+4294967296*0)=N
  have:=Nat.mod_add_div N 4294967296
  omega
 unfold jg;rw[e]
theorem I2 (N:Nat) (w:World) (h1:N≤9223372036854775807):
 Calls Tryz.prog 65 #[.int .i64 ((N:Nat):Int)] w (qz w false N):=by
 have st:=St.start w
 refine go1 (nt:=19) Tryz.func65 rfl rfl rfl fun a hF=>?_
 refine wq ?_
 refine S.alloc st hF mC rfl rfl fun g2 w1 a st hF=>?_
 refine nq ?_
 refine oM hF 1 rfl rfl fun a hF=>oV hF (fA hF.o (yF (k':= .u64) Tryz.underlying2 Tryz.underlying97 (Mr (by omega) (by omega)))) rfl fun a hF=>oA hF 0 rfl rfl fun a hF=>ns ?_
 refine wq ?_
 refine oM hF 4 rfl rfl fun a hF=>oT hF 0 (bM (c:=false) (aV (by omega))) rfl rfl fun a hF=>?_
 refine E.nil ?_
 refine wp_cond_false hF.o ?_
 refine wp_skip ?_
 refine E.norm ?_
 refine wq ?_
 refine oM hF 6 rfl rfl fun a hF=>oT hF 0 (bM (c:=false) (aV (by omega))) rfl rfl fun a hF=>oM hF 4 rfl rfl fun a hF=>oV hF (fA hF.o (rx (N:=N) Tryz.underlying97 Tryz.underlying126)) rfl fun a hF=>oM hF 6 rfl rfl fun a hF=>oV hF (aq hF.o ar ab CS) rfl fun a hF=>oV hF (fA hF.o (rx (N:=N/4294967296) Tryz.underlying97 Tryz.underlying126)) rfl fun a hF=>?_
 obtain⟨gr,w2,hr,bb,hix⟩:=CR w1 (N%4294967296) (N/4294967296%4294967296) (by omega) (by omega)
 refine oV hF (cV (fN (hF.at 3 rfl) hF.o) hr) rfl fun a hF=>?_
 clear hr
 replace st:=(st.to bb).add hix InX.cl
 clear bb hix
 refine oV hF (bh (fN (hF.at 6 rfl) hF.o) (t8 _ _ _ _ _)) rfl fun a hF=>?_
 refine so st hF 0 14 0 mC rfl rfl rfl rfl fun w3 a st hF=>?_
 refine nr ?_
 refine rs Tryz.results65 st hF 14 0 mC rfl rfl rfl ?_
 have bel:=st.bel
 have hix:=(st.f 0 rfl)
 exact⟨_,rfl,(by rw[show N/4294967296=N/4294967296%4294967296 from by omega];exact hix),bel⟩
theorem JM (N:Nat) (w:World) (h0:0<N) (h1:N≤9223372036854775808):
 Calls Tryz.prog 65 #[.int .i64 (-((N:Nat):Int))] w (qz w true N):=by
 have st:=St.start w
 refine go1 (nt:=19) Tryz.func65 rfl rfl rfl fun a hF=>?_
 refine wq ?_
 refine S.alloc st hF mC rfl rfl fun g2 w1 a st hF=>?_
 refine nq ?_
 refine oM hF 1 rfl rfl fun a hF=>oV hF (fA hF.o (Jq Tryz.underlying2 Tryz.underlying97 h0 h1)) rfl fun a hF=>oA hF 0 rfl rfl fun a hF=>ns ?_
 refine wq ?_
 refine oM hF 4 rfl rfl fun a hF=>oT hF 0 (bM (c:=true) (aL (by omega))) rfl rfl fun a hF=>?_
 refine E.nil ?_
 refine wp_cond_true hF.o ?_
 refine E.seq ?_
 refine oM hF 2 rfl rfl fun a hF=>oV hF (cF hF.o (LM h0 h1)) rfl fun a hF=>oE hF 0 rfl rfl fun a hF=>nq ?_
 refine oM hF 8 rfl rfl fun a hF=>oT hF 0 (bM (c:=true) (aL (by omega))) rfl rfl fun a hF=>oM hF 2 rfl rfl fun a hF=>oV hF (fA hF.o (rx (N:=N) Tryz.underlying97 Tryz.underlying126)) rfl fun a hF=>oM hF 4 rfl rfl fun a hF=>oV hF (aq hF.o ar ab CS) rfl fun a hF=>oV hF (fA hF.o (rx (N:=N/4294967296) Tryz.underlying97 Tryz.underlying126)) rfl fun a hF=>?_
 obtain⟨gr,w2,hr,bb,hix⟩:=CR w1 (N%4294967296) (N/4294967296%4294967296) (by omega) (by omega)
 refine oV hF (cV (fN (hF.at 3 rfl) hF.o) hr) rfl fun a hF=>?_
 clear hr
 replace st:=(st.to bb).add hix InX.cl
 clear bb hix
 refine oV hF (bh (fN (hF.at 6 rfl) hF.o) (t8 _ _ _ _ _)) rfl fun a hF=>?_
 refine so st hF 0 16 0 mC rfl rfl rfl rfl fun w3 a st hF=>?_
 refine nr ?_
 refine rs Tryz.results65 st hF 16 0 mC rfl rfl rfl ?_
 have bel:=st.bel
 have hix:=(st.f 0 rfl)
 exact⟨_,rfl,(by rw[show N/4294967296=N/4294967296%4294967296 from by omega];exact hix),bel⟩
theorem zw (n:Int) (w:World) (h0: -9223372036854775808≤n) (h1:n≤9223372036854775807):Calls Tryz.prog 65 #[.int .i64 n] w (qz w (decide (n<0)) n.natAbs):=by
 by_cases h:n<0
 ·have:=JM n.natAbs w (by omega) (by omega)
  rwa[show -((n.natAbs:Nat):Int)=n by omega,show true=decide (n<0) from(decide_eq_true h).symm] at this
 ·have:=I2 n.natAbs w (by omega)
  rwa[show((n.natAbs:Nat):Int)=n by omega,show false=decide (n<0) from(decide_eq_false h).symm] at this
theorem uT (n:Int):jg (decide (n<0)) [n.natAbs%4294967296,n.natAbs/4294967296] 2=n:=by rw[EH,kI]
theorem zl (n d:Int) (w:World) (hn0: -9223372036854775808≤n) (hn1:n≤9223372036854775807) (hd0: -9223372036854775808≤d) (hd1:d≤9223372036854775807):
 Calls Tryz.prog 34 #[.int .i64 n,.int .i64 d] w (bW w (((n:Int):Rat)/((d:Int):Rat)) 2):=by
 have bel:Below w.heap.size w w:=Below.refl _ _
 refine go2 (nt:=11) Tryz.func34 rfl rfl rfl fun a hF=>?_
 refine wq ?_
 obtain⟨g4,w1,ge4,hr,bb,o4⟩:=d9 (P:=Tryz.prog) (w:=w) (cs:=[.bool false,.slice none 0 0,.slice none 0 0]) 38 pn rfl (niB (niS (niS ni0)))
 replace ge4:w.heap.size≤g4:=by rw[←ge4];exact bel.size
 refine oV hF (d8 hr) rfl fun a hF=>?_
 clear hr
 replace bel:=aC bel bb
 clear bb
 refine nq ?_
 refine oM hF 1 rfl rfl fun a hF=>?_
 refine E.call hF (rk KC (aD hF.o)) (zw n _ hn0 hn1) rfl rfl rfl rfl ?_
 rintro e w2 ⟨vv3,rfl,hh4,bb⟩
 refine⟨_,rfl,?_⟩
 intro a hF
 replace o4:=o4.below bb
 replace bel:=aC bel bb
 clear bb
 refine oM hF 4 rfl rfl fun a hF=>?_
 refine E.call hF (rk KC (aD hF.o)) (zw d _ hd0 hd1) rfl rfl rfl rfl ?_
 rintro e w5 ⟨vv6,rfl,hh7,bb⟩
 refine⟨_,rfl,?_⟩
 intro a hF
 replace hh4:=hh4.below bb
 replace o4:=o4.below bb
 replace bel:=aC bel bb
 clear bb
 refine oV hF (bh (fN hF.q hF.o) (zV _ _ _ _ _ _ _ _ _)) rfl fun a hF=>?_
 refine E.call hF (rk OA (aI hF.o ar)) (BU (decide (n<0)) (some ⟨vv3,0,none⟩) 2 2 [Int.natAbs n%4294967296,Int.natAbs n/4294967296] (decide (d<0)) (some ⟨vv6,0,none⟩) 2 2 [Int.natAbs d%4294967296,Int.natAbs d/4294967296] 2 _ hh4 hh7 (by omega) (by omega)) rfl rfl rfl rfl ?_
 rintro e w8 ⟨vv9,rfl,hh10,bb⟩
 refine⟨_,rfl,?_⟩
 intro a hF
 replace o4:=o4.below bb
 replace bel:=aC bel bb
 clear bb
 obtain⟨b11,ad11,n11,c11,ae11,m11,d11,z11,D11,rfl,hn11,hd11,hD11,hq11,lz11,lD11⟩:=Rr.shape hh10
 have ha11:=hn11.abs
 obtain⟨w12,hr,tu,on⟩:=sB (vs:=[.bool b11,.slice ad11 n11 c11,.slice ae11 m11 d11]) o4 rfl rfl (ocB (ocS (ocS oc0))) (niB (niS (niS ni0))) (o:=0) rfl
 have kp:=tu.keep o4
 refine E.st hF (df (hF.at 6 rfl) hF.o (hr _ rfl)) rfl rfl fun a hF=>?_
 clear hr
 replace hh10:=hh10.keep kp
 replace hn11:=hn11.keep kp
 replace ha11:=ha11.keep kp
 replace hd11:=hd11.keep kp
 replace bel:=tu.below bel ge4
 clear tu kp
 replace o4:=on
 clear on
 refine nr ?_
 refine bodyPost_ret (jx Tryz.results34 (hF.at 6 rfl) (kC (vs:=[.bool b11,.slice ad11 n11 c11,.slice ae11 m11 d11]) o4 rfl rfl)) hF.dfr ?_
 exact⟨_,rfl,Rr.cast hh10 (by rw[uT,uT]),bel⟩
end Go.Proofs.YtdbiegfmgabicaaGreatDoor
