import Derived.Test.YtgdpkknapcgcbaaGreatDoorKD32
import Derived.Test.YtgdpkknapcgcbaaGreatDoorKD35
import Derived.Test.YtgdpkknapcgcbaaGreatDoorKD37
import Derived.Laws.StructEq
namespace Go.Proofs.YtgdpkknapcgcbaaGreatDoor
open Go.RowKit
set_option maxRecDepth 100000
set_option linter.unusedVariables false
set_option maxHeartbeats 8000000
theorem sr {w:World} {g o:Nat} {cs:List Value} {v:Value} (h:Blk w g cs) (hv:cs[o]?=some v):(Instr.loadAt 4 (.pointer (some ⟨g,o,none⟩))).run Tryz.prog w= .ok v w:=lK h hv Tryz.underlying4 rfl
theorem cd.gc {m T base n:Nat} {v:Value} {rs:List Value}:GCl v fun w=>cd w m T base v n rs:=by
 rintro w w' ⟨h1,h2⟩ hb hs ku
 refine⟨⟨h1.1,?_⟩,fun g e j z hc=>h2 g e j z (by rw[<-hc];exact(World.cell?_of_block (w:=w) (hb g e)).symm)⟩
 rcases h1.2 with hn|⟨g,cap,cur,rfl,hbg,hgg,rest⟩
 ·exact .inl hn
 ·exact .inr ⟨g,cap,cur,rfl,hbg,by rw[hb g rfl];exact hgg,rest⟩
theorem St.gnew {W w:World} {bs:List (Nat×List Value)} {fs:List (World->Prop)} (st:St W w bs fs) {g n c:Nat} (e:w.heap.size=g):∀p∈bs,(Value.slice (some ⟨g,0,none⟩) n c).ownBlock ≠some p.1:=fun p hp h=>st.ne (Nat.le_of_eq e) p hp (by injection h with h;exact h.symm)
theorem F7:(Tryz.prog.info? 83).map (·.size)=some 5:=by kernel_rfl
theorem rM:(Tryz.prog.info? 83).bind (·.zero)=some (.agg #[iv 0,iv 0,.bool false,iv 0,.bool false]):=by kernel_rfl
theorem tJ {w:World} {g o p:Nat} (hp:o+0=p):(Instr.fieldAt 83 (.pointer (some ⟨g,o,none⟩)) 0).run Tryz.prog w= .ok (.pointer (some ⟨g,p,none⟩)) w:=bl Tryz.underlying83 rfl rfl cD rfl p hp
theorem sK {w:World} {g o p:Nat} (hp:o+1=p):(Instr.fieldAt 83 (.pointer (some ⟨g,o,none⟩)) 1).run Tryz.prog w= .ok (.pointer (some ⟨g,p,none⟩)) w:=bl Tryz.underlying83 rfl rfl fb rfl p hp
theorem s4 {w:World} {g o p:Nat} (hp:o+3=p):(Instr.fieldAt 83 (.pointer (some ⟨g,o,none⟩)) 3).run Tryz.prog w= .ok (.pointer (some ⟨g,p,none⟩)) w:=bl Tryz.underlying83 rfl rfl fb rfl p hp
theorem sI (z00:Int) (z10:Int) (b20:Bool) (z30:Int) (b40:Bool) (w:World):(Instr.build 83 #[(0,iv z00),(1,iv z10),(2,.bool b20),(3,iv z30),(4,.bool b40)]).run Tryz.prog w= .ok (.agg #[iv z00,iv z10,.bool b20,iv z30,.bool b40]) w:=by
 have hz:=cW rM w
 have h_bool:∀w,(sizeOf 4).run Tryz.prog w= .ok 1 w:=fun w=>a8 gq w
 have h_int:∀w,(sizeOf 3).run Tryz.prog w= .ok 1 w:=fun w=>a8 fb w
 have h_i64:∀w,(sizeOf 2).run Tryz.prog w= .ok 1 w:=fun w=>a8 cD w
 simp only [Instr.build,Sem.run_bind,hz,Result.andThen_ok,run_underlying Tryz.underlying83,List.mapM_toArray,List.mapM_cons,List.mapM_nil,Sem.run_map,h_bool,h_i64,h_int,Sem.run_pure]
 rfl
theorem nl (zx0:Int) (zx1:Int) (bx2:Bool) (zx3:Int) (bx4:Bool) (w:World):(Instr.field 83 (.agg #[iv zx0,iv zx1,.bool bx2,iv zx3,.bool bx4]) 0).run Tryz.prog w= .ok (iv zx0) w:=by
 have ha:(isAgg 2).run Tryz.prog w= .ok false w:=by
  unfold isAgg
  rw[Sem.run_bind,run_underlying Tryz.underlying2 w]
  rfl
 simp only [Instr.field,Sem.run_bind,run_underlying Tryz.underlying83,Result.andThen_ok]
 show((part 2 #[iv zx0,iv zx1,.bool bx2,iv zx3,.bool bx4] 0).run Tryz.prog w)=_
 simp only [part,Sem.run_bind,ha,Result.andThen_ok]
 rfl
theorem sU:Ty Tryz.prog 83 5 [iv 0,iv 0,.bool false,iv 0,.bool false]:=⟨⟨_,Tryz.underlying83,rfl⟩,F7,rM⟩
theorem fT (L:Int):∀i,ndI L i=moD L i
 |0=>rfl
 |i+1=>by show az (ndI L i)=az (moD L i);rw[fT L i]
def mi (f:Nat->List Value):Nat->List Value
 |0=>[]
 |k+1=>mi f k++f k
theorem sk {f:Nat->List Value} {m:Nat} (h:∀i,(f i).length =m):∀k,(mi f k).length =m*k
 |0=>rfl
 |k+1=>by show(mi f k++f k).length =_;rw[List.length_append,sk h k,h,Nat.mul_succ]
theorem pH {f:Nat->List Value} {m:Nat} (h:∀i,(f i).length =m) (more:List Value):∀ {k i:Nat},i<k->((mi f k++more).drop (m*i)).take m=f i
 |0,_,hi=>absurd hi (Nat.not_lt_zero _)
 |k+1,i,hi=>by
  show((mi f k++f k++more).drop (m*i)).take m=f i
  rw[List.append_assoc]
  rcases Nat.lt_or_ge i k with q|q
  ·exact pH h (f k++more) q
  ·obtain rfl:i=k:=by omega
   rw[<-sk h i,List.drop_left,List.take_append_of_le_length (by rw[h];exact Nat.le_refl _),List.take_of_length_le (by rw[h];exact Nat.le_refl _)]
theorem qT {f:Nat->List Value} {m:Nat} (h:∀i,(f i).length =m) (more:List Value) {k i j:Nat} (hi:i<k) (hj:j<m):(mi f k++more)[m*i+j]?=(f i)[j]?:=by
 rw[<-pH h more hi,List.getElem?_take,if_pos hj,List.getElem?_drop]
noncomputable def hdC (a b c d L:Int):List Value:=[iv ((smV L+1)%12+1),.bool (decide (smV (az L)=smV L)),iv (beV a b c d L),iv (beV a b c d (az L)-beV a b c d L)]
noncomputable def hdF (a b c d L:Int):Nat->List Value:=mi fun i=>hdC a b c d (moD L i)
theorem nz (a b c d L:Int) (more:List Value) {k i j:Nat} (h:i<k) (hj:j<4):(hdF a b c d L k++more)[4*i+j]?=(hdC a b c d (moD L i))[j]?:=qT (f:=fun i=>hdC a b c d (moD L i)) (m:=4) (fun _=>rfl) more h hj
theorem sR {a b c d:Int} (h:aZ a b c d) (S:Int) (i:Nat):aF (moD (yfV S) i)=true/\az (moD (yfV S) i)=moD (yfV S) (i+1)/\29<=beV a b c d (moD (yfV S) (i+1))-beV a b c d (moD (yfV S) i)/\beV a b c d (moD (yfV S) (i+1))-beV a b c d (moD (yfV S) i)<=30/\amL (beV a b c d (moD (yfV S) i)) a b c d=moD (yfV S) i:=by
 have hc:aF (moD (yfV S) i)=true:=by rw[<-fT];exact ec (dB S).1 i
 exact⟨hc,rfl,(mO h hc).1,(mO h hc).2,wC h hc⟩
theorem zl (S:Int) {i:Nat} (hi:i<yrN S):S<=smV (moD (yfV S) i)/\smV (moD (yfV S) i)<S+12:=by
 rw[<-fT]
 exact(CC S (ec (dB S).1 i)).2 ⟨i,hi,rfl⟩
theorem Eg (S:Int):moD (yfV S) (yrN S)=yfV (S+12):=by rw[<-fT];exact Fw S
theorem Ex {a b c d:Int} (h:aZ a b c d) {L:Int} (hc:aF L=true):amL (beV a b c d L-1) a b c d=be L:=by
 have z:=bE L
 have e:=eJ hc
 have y:=mO h z.2.2.1
 rw[e] at y
 have i:=we h z.2.2.1 (beV a b c d L-1)
 rw[e] at i
 exact i.2 (by omega)
theorem vK (S:Int):smV (be (yfV S))<S/\S-2<=smV (be (yfV S)):=by
 have s:=dB S
 have n:=kl (bE (yfV S)).2.2.1
 rw[eJ s.1] at n
 omega
theorem pe:(Tryz.prog.info? 81).map (·.size)=some 4:=by kernel_rfl
theorem tP:(Tryz.prog.info? 81).bind (·.zero)=some (.agg #[iv 0,.bool false,iv 0,iv 0]):=by kernel_rfl
theorem vJ {w:World} {g o:Nat} {cs vs:List Value} (h:Blk w g cs) (hv:(cs.drop o).take 4=vs) (hl:vs.length=4):(Instr.loadAt 81 (.pointer (some ⟨g,o,none⟩))).run Tryz.prog w= .ok (.agg vs.toArray) w:=kL h hv hl Tryz.underlying81 rfl pe
theorem ln {w:World} {g o p:Nat} (hp:o+0=p):(Instr.fieldAt 81 (.pointer (some ⟨g,o,none⟩)) 0).run Tryz.prog w= .ok (.pointer (some ⟨g,p,none⟩)) w:=bl Tryz.underlying81 rfl rfl fb rfl p hp
theorem t9 {w:World} {g o p:Nat} (hp:o+1=p):(Instr.fieldAt 81 (.pointer (some ⟨g,o,none⟩)) 1).run Tryz.prog w= .ok (.pointer (some ⟨g,p,none⟩)) w:=bl Tryz.underlying81 rfl rfl gq rfl p hp
theorem fq {w:World} {g o p:Nat} (hp:o+2=p):(Instr.fieldAt 81 (.pointer (some ⟨g,o,none⟩)) 2).run Tryz.prog w= .ok (.pointer (some ⟨g,p,none⟩)) w:=bl Tryz.underlying81 rfl rfl cD rfl p hp
theorem eR {w:World} {g o p:Nat} (hp:o+3=p):(Instr.fieldAt 81 (.pointer (some ⟨g,o,none⟩)) 3).run Tryz.prog w= .ok (.pointer (some ⟨g,p,none⟩)) w:=bl Tryz.underlying81 rfl rfl fb rfl p hp
theorem uo (z00:Int) (b10:Bool) (z20:Int) (z30:Int) (w:World):(Instr.build 81 #[(0,iv z00),(1,.bool b10),(2,iv z20),(3,iv z30)]).run Tryz.prog w= .ok (.agg #[iv z00,.bool b10,iv z20,iv z30]) w:=by
 have hz:=cW tP w
 have h_bool:∀w,(sizeOf 4).run Tryz.prog w= .ok 1 w:=fun w=>a8 gq w
 have h_int:∀w,(sizeOf 3).run Tryz.prog w= .ok 1 w:=fun w=>a8 fb w
 have h_i64:∀w,(sizeOf 2).run Tryz.prog w= .ok 1 w:=fun w=>a8 cD w
 simp only [Instr.build,Sem.run_bind,hz,Result.andThen_ok,run_underlying Tryz.underlying81,List.mapM_toArray,List.mapM_cons,List.mapM_nil,Sem.run_map,h_bool,h_i64,h_int,Sem.run_pure]
 rfl
theorem oF (z00:Int) (z20:Int) (z30:Int) (w:World):(Instr.build 81 #[(0,iv z00),(2,iv z20),(3,iv z30)]).run Tryz.prog w= .ok (.agg #[iv z00,.bool false,iv z20,iv z30]) w:=by
 have hz:=cW tP w
 have h_bool:∀w,(sizeOf 4).run Tryz.prog w= .ok 1 w:=fun w=>a8 gq w
 have h_int:∀w,(sizeOf 3).run Tryz.prog w= .ok 1 w:=fun w=>a8 fb w
 have h_i64:∀w,(sizeOf 2).run Tryz.prog w= .ok 1 w:=fun w=>a8 cD w
 simp only [Instr.build,Sem.run_bind,hz,Result.andThen_ok,run_underlying Tryz.underlying81,List.mapM_toArray,List.mapM_cons,List.mapM_nil,Sem.run_map,h_bool,h_i64,h_int,Sem.run_pure]
 rfl
theorem tw:Ty Tryz.prog 81 4 [iv 0,.bool false,iv 0,iv 0]:=⟨⟨_,Tryz.underlying81,rfl⟩,pe,tP⟩
theorem fg {w:World} {g n c i:Nat} {z:Int} (hz:z=((i:Nat):Int)) (hi:i<n):(Instr.indexAt 77 (.slice (some ⟨g,0,none⟩) n c) (iv z)).run Tryz.prog w= .ok (.pointer (some ⟨g,4*i,none⟩)) w:=by
 subst hz
 simp[Instr.indexAt,asIntOf,run_underlying Tryz.underlying77,Sem.run_bind,Addr.add_mid,hi,Nat.mul_comm]
theorem gN {w:World} {ty:TypeId} {a:Option Addr} {n c:Nat}:(builtin .len #[77] ty #[false] #[.slice a n c]).run Tryz.prog w= .ok (.value (iv ((n:Nat):Int))) w:=by
 simp[Builtin.len_,go_sem,run_underlying Tryz.underlying77]
theorem nW {P:Program} {w:World} {t:TypeId} {y0 n y:Int} (hn:0<n) (h:(if 0<=y0 then y0%n else -(-y0%n))=y):(binOp .rem t (iv y0) (iv n)).run P w= .ok (iv y) w:=by
 subst h
 exact il hn
theorem E1 {s t:Int} (h:s<=t):cw s<=cw t:=by
 have i:=Rat.intCast_le_intCast.2 h
 have p:=fJ
 unfold cw
 rw[show((s:Int):Rat)/((12:Int):Rat)=((s:Int):Rat)*(1/12) by rw[Rat.div_def,show((12:Int):Rat)⁻¹ =1/12 by decide+kernel],show((t:Int):Rat)/((12:Int):Rat)=((t:Int):Rat)*(1/12) by rw[Rat.div_def,show((12:Int):Rat)⁻¹ =1/12 by decide+kernel]]
 have m:=Rat.mul_nonneg (a:=pyr) (b:=(((t:Int):Rat)-((s:Int):Rat))*(1/12)) (by grind) (by grind)
 grind
theorem yr {y m k:Int} (h:m<=k):fiE y m<=fiE y k:=by
 unfold fiE
 refine Rat.le_floor_iff.2 ?_
 have f:=cY (cw (12*(y+3044)+(m-2)))
 have u:=E1 (show 12*(y+3044)+(m-2)<=12*(y+3044)+(k-2) by omega)
 grind
theorem uE (y s:Int):s=fiS y (s-fiS y 1+1):=by unfold fiS;omega
def inB (y L:Int):Bool:=decide (fiS y 1<=smV L/\smV L<fiS y 1+12)
theorem D8 (y L:Int):inB y L=true↔fiE y ((smV L+1)%12+1)-5<=L/\L<=fiE y ((smV L+1)%12+1)+40:=by
 unfold inB
 rw[decide_eq_true_iff]
 have m0:1<=(smV L+1)%12+1:=by omega
 have m1:(smV L+1)%12+1<=12:=by omega
 constructor
 ·intro g
  have e:smV L=fiS y ((smV L+1)%12+1):=by unfold fiS at*;omega
  have w:=iB e
  omega
 ·intro g
  have e:=of_decide_eq_true ((EP m0 m1 g.2).2 ⟨g.1,rfl⟩)
  have f:=(CR m0 m1).1 e
  unfold fiS
  omega
noncomputable def inU (y d:Int):Nat->List Int
 |0=>[]
 |k+1=>inU y d k++(if inB y (moD d k)=true then[moD d k] else[])
theorem mJ {y d:Int} {k:Nat} (h:inB y (moD d k)=true):inU y d (k+1)=inU y d k++[moD d k]:=by show _++_=_;rw[if_pos h]
theorem lI {y d:Int} {k:Nat} (h:¬inB y (moD d k)=true):inU y d (k+1)=inU y d k:=by show _++_=_;rw[if_neg h,List.append_nil]
theorem vv (y d:Int):∀k,(inU y d k).length <=k
 |0=>Nat.le_refl _
 |k+1=>by
  have:=vv y d k
  by_cases h:inB y (moD d k)=true
  ·rw[mJ h,List.length_append];simp;omega
  ·rw[lI h];omega
noncomputable def inL (y:Int):List Int:=(List.range (yrN (fiS y 1))).map (moD (yfV (fiS y 1)))
theorem uD (y:Int):(inL y).length =yrN (fiS y 1):=by simp[inL]
theorem Gx {y:Int} {i:Nat} (h:i<yrN (fiS y 1)):(inL y).getD i 0=moD (yfV (fiS y 1)) i:=by
 simp[inL,List.getD_eq_getElem?_getD,h]
theorem tV (d:Int) (s:Nat):∀i,moD d (s+i)=moD (moD d s) i
 |0=>rfl
 |i+1=>by show az (moD d (s+i))=az (moD (moD d s) i);rw[tV d s i]
theorem ft {d:Int} (h:aF d=true) (k:Nat):aF (moD d k)=true:=by rw[<-fT];exact ec h k
theorem G9 {d:Int} (h:aF d=true) (k:Nat):d+28*((k:Nat):Int)<=moD d k:=by rw[<-fT];exact(Il h k).1
theorem Ea (y:Int):fiE y 1-39<=bm (((fiE y 1-5:Int)):Rat)/\bm (((fiE y 1-5:Int)):Rat)<=yfV (fiS y 1)/\aF (bm (((fiE y 1-5:Int)):Rat))=true:=by
 have s:=sl y 1
 refine⟨s.1,Int.not_lt.1 fun q=>?_,s.2.2⟩
 have u:=ow (Int.le_of_lt q)
 have v:=(dB (fiS y 1)).2.1
 have w:=iB (uE y (smV (bm (((fiE y 1-5:Int)):Rat))))
 have e:=yr (y:=y) (show 1<=smV (bm (((fiE y 1-5:Int)):Rat))-fiS y 1+1 by omega)
 omega
theorem DV {y L:Int} (h:fiE y 12+40<L):fiS y 1+12<=smV L:=by
 refine Int.not_lt.1 fun q=>?_
 have w:=iB (uE y (smV L))
 have e:=yr (y:=y) (show smV L-fiS y 1+1<=12 by omega)
 omega
theorem Fm {y d:Int} (h:aF d=true) (l:d<=yfV (fiS y 1)) {k:Nat} (hk:fiS y 1+12<=smV (moD d k)):inU y d k=inL y:=by
 have c:=(dB (fiS y 1)).1
 have t:=cA (show d+1<=yfV (fiS y 1)+1 by omega)
 obtain⟨s,hs⟩:∃s:Nat,moD d s=yfV (fiS y 1):=⟨(aD (yfV (fiS y 1)+1)-aD (d+1)).toNat,by rw[<-fT];exact(ov h c (by omega)).symm⟩
 have ts:aD (yfV (fiS y 1)+1)=aD (d+1)+((s:Nat):Int):=by rw[<-hs,<-fT,fE h]
 have lo:∀j,j<=s->inU y d j=[]:=by
  intro j
  induction j with
  |zero=>intro _;rfl
  |succ j ih=>
   intro hj
   rw[lI,ih (by omega)]
   unfold inB
   rw[decide_eq_true_iff]
   intro g
   have q:=(lZ (fiS y 1) (ft h j)).1 g.1
   have r:=(rq (ft h j) c).2 (by rw[ts,<-fT,fE h];omega)
   omega
 have inn:∀i,inB y (moD d (s+i))=true↔i<yrN (fiS y 1):=by
  intro i
  have cm:aF (moD (yfV (fiS y 1)) i)=true:=ft c i
  unfold inB
  rw[decide_eq_true_iff,tV,hs,CC _ cm]
  refine⟨fun⟨j,hj,e⟩=>?_,fun hi=>⟨i,hi,(fT _ i).symm⟩⟩
  have a:=fE c i
  have b:=fE c j
  rw[fT,e,b] at a
  omega
 have hi:∀i,inU y d (s+i)=(List.range (min i (yrN (fiS y 1)))).map (moD (yfV (fiS y 1))):=by
  intro i
  induction i with
  |zero=>rw[Nat.add_zero,lo s (Nat.le_refl _),Nat.zero_min];rfl
  |succ i ih=>
   rw[<-Nat.add_assoc]
   by_cases g:i<yrN (fiS y 1)
   ·rw[mJ ((inn i).2 g),ih,show min (i+1) (yrN (fiS y 1))=i+1 by omega,show min i (yrN (fiS y 1))=i by omega,List.range_succ,List.map_append,tV,hs]
    rfl
   ·rw[lI (fun e=>g ((inn i).1 e)),ih,show min (i+1) (yrN (fiS y 1))=min i (yrN (fiS y 1)) by omega]
 have ks:s<=k:=Int.ofNat_le.1 (Int.not_lt.1 fun q=>by
  have r:=(rq (ft h k) c).2 (by rw[ts,<-fT,fE h];omega)
  have:=(lZ (fiS y 1) (ft h k)).1 (by omega)
  omega)
 obtain⟨i,rfl⟩:∃i,k=s+i:=⟨k-s,by omega⟩
 have ni:yrN (fiS y 1)<=i:=Nat.not_lt.1 fun q=>by
  have:=of_decide_eq_true (p:=fiS y 1<=smV (moD d (s+i))/\smV (moD d (s+i))<fiS y 1+12) ((inn i).2 q)
  omega
 rw[hi,show min i (yrN (fiS y 1))=yrN (fiS y 1) by omega]
 rfl
theorem ol (y L:Int):inB y L=true↔fiE y ((smV L%12+1)%12+1)-5<=L/\L<=fiE y ((smV L%12+1)%12+1)+40:=by
 rw[show(smV L%12+1)%12+1=(smV L+1)%12+1 by omega]
 exact D8 y L
theorem FG {y D:Int} {N i:Nat} (hD:yfV (fiS y 1)=D) (hN:yrN (fiS y 1)=N) (h:i<N) (more:List Value):((gZ (inL y)++more).drop (4*i)).take 4=moC (moD D i) (moD D (i+1)):=by
 subst hD hN
 rw[vG (inL y) more (by rw[uD];exact h),Gx h]
 rfl
theorem tp (v1:Value) (qt:Rat) (k:Nat) (w:World) (hT:aY w) (h1:Rq w v1 qt) (hl:ag qt k) (hk:k<=100):CV 80 #[v1] w (iv (tiV qt%30+1)):=by
 rw[<-Ga]
 exact wB v1 qt k w hT h1 hl hk
theorem DN {v1:Value} {qt:Rat} {k:Nat} {L:Int} (w:World) (hT:aY w) (h1:Rq w v1 qt) (hl:ag qt k) (hk:k<=100) (hf0: -90000000<=Rat.floor qt) (hf1:Rat.floor qt<=90000000) (e:bm qt=L):CV 39 #[v1] w (.agg #[iv L,iv (az L),iv (smV L%12),iv (smV (az L)%12)]):=by
 subst e
 exact sF v1 qt k w hT h1 hl hk hf0 hf1
theorem ug (n xa xb xc xd X:Int) (w:World) (hT:aY w) (hok:aZ xa xb xc xd) (hn0: -3850000<=n) (hn1:n<=3850000) (hX:amX n xa xb xc xd=X):
 CV 32 #[iv n,.agg #[iv xa,iv xb,iv xc,iv xd]] w (iv (X%30+1)):=by
 refine gs2 (nt:=9) Tryz.func32 rfl rfl rfl fun a st hF=>wq<|bx st hF 1 rfl rfl fun g3 w1 a st hF=>?_
 refine oC hF rfl fun a hF=>nq<|oM hF 2 rfl rfl fun a hF=>oL hF st 2 0 aO rfl rfl rfl rfl fun a hF=>S.ck st hF (rgc k55 (aK hF.p hF.o)) (aB (eX n xa xb xc xd _ (hT.below st.bel) (by first|assumption|constructor<;>omega) (by omega) (by omega)) (fX (by first|assumption|constructor<;>omega) (by omega) (by omega))) Rl.cl rfl fun vv3 w2 a st hF=>?_
 obtain⟨r5,rfl⟩:=Rq.fo (st.f 0 rfl).1
 refine cX st hF (rgc k80 (aC hF.o)) (tp _ _ 3 _ (hT.below st.bel) (st.f 0 rfl).1 (st.f 0 rfl).2 (by omega)) rfl fun w6 a st hF=>?_
 refine oE hF 0 rfl rfl fun a hF=>nr ?_
 have bel:=st.bel
 refine rt Tryz.results32 hF 0 rfl ?_
 refine⟨bU ?_,bel⟩
 rw[<-hX]
 rfl
theorem wG (n m:Int) (w:World) (hT:aY w) (hn0: -3800000<=n) (hn1:n<=3800000):
 CV 101 #[iv n,iv m] w (iv (nL n m)):=by
 have hka:=Ci (n:=n+180) (by omega) (by omega)
 have hkb:=Ci (n:=n+ -1) (by omega) (by omega)
 refine gs2 (nt:=20) Tryz.func101 rfl rfl rfl fun a st hF=>wq ?_
 refine oC hF rfl fun a hF=>nq ?_
 refine oM hF 1 rfl rfl fun a hF=>oV hF (ao hF.o ah ab (aU (by omega) (by omega))) rfl fun a hF=>oA hF 0 rfl rfl fun a hF=>ns<|wq<|oM hF 5 rfl rfl fun a hF=>?_
 by_cases hc1:m=1
 ·first
  |(exfalso;omega)
  |(refine oT hF 0 (bq (c:=true) (aJ hc1)) rfl rfl fun a hF=>?_
    refine oM hF 0 rfl rfl fun a hF=>nu hF 0 rfl rfl rfl fun a hF=>nu hF 1 rfl rfl rfl fun a hF=>oV hF (aV hF.q ah) rfl fun a hF=>E.nil<|wp_cond_true hF.o<|E.seq ?_
    refine oM hF 10 rfl rfl fun a hF=>oV hF (ao hF.o ah ab (aU (by omega) (by omega))) rfl fun a hF=>oE hF 0 rfl rfl fun a hF=>nq<|oM hF 0 rfl rfl fun a hF=>S.ck st hF (rgc k40 (aC hF.o)) cH Rl.cl rfl fun vv3 w2 a st hF=>?_
    obtain⟨r5,rfl⟩:=Rq.fo (st.f 0 rfl).1
    refine cX st hF (rgc tg (aC hF.o)) (fR _ _ 2 _ (hT.below st.bel) (st.f 0 rfl).1 (st.f 0 rfl).2 (by omega) (by omega) (by omega)) rfl fun w6 a st hF=>?_
    refine oV hF (ao hF.o ah ab (bM (by omega) (by omega))) rfl fun a hF=>oE hF 0 rfl rfl fun a hF=>nr ?_
    have bel:=st.bel
    refine rt Tryz.results101 hF 0 rfl ?_
    refine⟨bU ?_,bel⟩
    unfold nL
    rw[if_pos (by omega)]
    omega)
 ·first
  |(exfalso;omega)
  |(refine oT hF 0 (bq (c:=false) (aH hc1)) rfl rfl fun a hF=>?_
    refine oM hF 0 rfl rfl fun a hF=>og hF (aG (hF.at 8 rfl)) 0 rfl rfl rfl fun a hF=>?_
    by_cases hc7:m=2
    ·first
     |(exfalso;omega)
     |(refine og hF (ao hF.o ah ab (aL (bq (c:=true) (aJ hc7)) (by simp))) 1 rfl rfl rfl fun a hF=>?_
       refine oV hF (aP hF.q hF.o) rfl fun a hF=>E.nil<|wp_cond_true hF.o<|E.seq ?_
       refine oM hF 10 rfl rfl fun a hF=>oV hF (ao hF.o ah ab (aU (by omega) (by omega))) rfl fun a hF=>oE hF 0 rfl rfl fun a hF=>nq<|oM hF 0 rfl rfl fun a hF=>S.ck st hF (rgc k40 (aC hF.o)) cH Rl.cl rfl fun vv9 w8 a st hF=>?_
       obtain⟨r11,rfl⟩:=Rq.fo (st.f 0 rfl).1
       refine cX st hF (rgc tg (aC hF.o)) (fR _ _ 2 _ (hT.below st.bel) (st.f 0 rfl).1 (st.f 0 rfl).2 (by omega) (by omega) (by omega)) rfl fun w12 a st hF=>?_
       refine oV hF (ao hF.o ah ab (bM (by omega) (by omega))) rfl fun a hF=>oE hF 0 rfl rfl fun a hF=>nr ?_
       have bel:=st.bel
       refine rt Tryz.results101 hF 0 rfl ?_
       refine⟨bU ?_,bel⟩
       unfold nL
       rw[if_pos (by omega)]
       omega)
    ·first
     |(exfalso;omega)
     |(refine og hF (ao hF.o ah ab (aL (bq (c:=false) (aH hc7)) (by simp))) 1 rfl rfl rfl fun a hF=>?_
       refine oV hF (aP hF.q hF.o) rfl fun a hF=>E.nil<|wp_cond_false hF.o<|wp_skip<|E.norm<|wq<|oM hF 6 rfl rfl fun a hF=>S.ck st hF (rgc k40 (aC hF.o)) cH Rl.cl rfl fun vv14 w13 a st hF=>?_
       obtain⟨r16,rfl⟩:=Rq.fo (st.f 0 rfl).1
       refine cX st hF (rgc tg (aC hF.o)) (fR _ _ 2 _ (hT.below st.bel) (st.f 0 rfl).1 (st.f 0 rfl).2 (by omega) (by omega) (by omega)) rfl fun w17 a st hF=>?_
       refine oV hF (ao hF.o ah ab (bM (by omega) (by omega))) rfl fun a hF=>oE hF 0 rfl rfl fun a hF=>nr ?_
       have bel:=st.bel
       refine rt Tryz.results101 hF 0 rfl ?_
       refine⟨bU ?_,bel⟩
       unfold nL
       rw[if_neg (by omega),show n-1=n+ -1 from Int.sub_eq_add_neg]
       omega))
theorem jP (n xa xb xc xd L X Y:Int) (w:World) (hT:aY w) (hok:aZ xa xb xc xd) (hn0: -3800000<=n) (hn1:n<=3800000) (hL:amL n xa xb xc xd=L) (hX:amX n xa xb xc xd=X) (hY:amX (n-1) xa xb xc xd=Y):
 CV 44 #[iv n,.agg #[iv xa,iv xb,iv xc,iv xd]] w (.agg #[iv ((smV L+1)/12-1955883044),iv ((smV L+1)%12+1),.bool (decide (smV (az L)=smV L)),iv (X%30+1),.bool (decide (Y=X))]):=by
 have hst:=EN hok (n-1)
 rw[show n-1+1=n by omega,hX,hY] at hst
 have hsm:=kl (nU n xa xb xc xd)
 rw[hL] at hsm
 have hyr:=EF hok hL
 refine gs2 (nt:=32) Tryz.func44 rfl rfl rfl fun a st hF=>wq<|bx st hF 1 rfl rfl fun g3 w1 a st hF=>S.alloc st hF sU rfl rfl fun g4 w2 a st hF=>nq<|oM hF 2 rfl rfl fun a hF=>oL hF st 2 1 aO rfl rfl rfl rfl fun a hF=>S.ck st hF (rgc k55 (aK hF.p hF.o)) (aB (eX n xa xb xc xd _ (hT.below st.bel) (by first|assumption|constructor<;>omega) (by omega) (by omega)) (fX (by first|assumption|constructor<;>omega) (by omega) (by omega))) Rl.cl rfl fun vv4 w3 a st hF=>?_
 obtain⟨r6,rfl⟩:=Rq.fo (st.f 0 rfl).1
 refine S.new st hF 0 rfl aa rfl rfl rfl rfl rfl fun g5 w7 a st hF=>ns ?_
 refine E.rga 5 aI hF [12,13,14,15,6] [_,_,_,_,kb w7 [iv 0,iv 0,iv 0,iv 0]] [4] ⟨fun _ _ ⟨g,e,_,o⟩=>⟨g,e,o.lt⟩,trivial⟩ (by decide+kernel) rfl rfl rfl ⟨rb st aa 0 0 rfl,ck st k39 rfl fun _ s=>bJ (DN _ (hT.below s.bel) (s.f 0 rfl).1 (s.f 0 rfl).2 (by omega) (by have:=ru hok n;omega) (by have:=ru hok n;omega) hL),rb st aa 0 0 rfl,ck st k80 rfl fun _ s=>bJ (tp _ (bK (dF n xa xb xc xd)) 3 _ (hT.below s.bel) (s.f 0 rfl).1 (s.f 0 rfl).2 (by omega)),rai bN rfl,trivial⟩ ?_
 intro a w8 hF bb hall hne
 have s0:=st
 replace st:=st.to bb
 replace hF:=rE hall hF 1 rfl rfl
 replace hF:=rE hall hF 3 rfl rfl
 obtain⟨_,e6,g6,rfl,ge6,o6⟩:=sS hall 4 6 rfl rfl
 replace st:=st.push o6 (Nat.le_trans s0.bel.size ge6) (s0.ne ge6)
 clear o6
 replace hF:=hF.add e6
 clear hall bb hne s0
 refine S.stoI st hF 0 rfl hF.o hF.q bN rfl rfl rfl fun w9 a st hF=>?_
 refine oA hF 1 rfl rfl fun a hF=>nq<|oL hF st 1 0 bN rfl rfl rfl rfl fun a hF=>cX st hF (rgc k99 (aC hF.o)) (gF L (az L) (smV L%12) (smV (az L)%12) _ (by omega) (by omega)) rfl fun w10 a st hF=>?_
 refine oA hF 0 rfl rfl fun a hF=>ns ?_
 refine E.rg 14 aI hF [18,19,20,21,22,23,24,25,26,27,28,29,30,31] [_,_,_,_,_,_,_,_,.ex (iv (n-1)),_,_,_,.ex (.bool (decide (Y%30+1=tiV (bK (dF n xa xb xc xd))%30+1))),.ex (.agg #[iv (nL n (((smV L%12)+1)%12+1)),iv (((smV L%12)+1)%12+1),.bool (decide ((smV L%12)=(smV (az L)%12))),iv (tiV (bK (dF n xa xb xc xd))%30+1),.bool (decide (Y%30+1=tiV (bK (dF n xa xb xc xd))%30+1))])] (by decide+kernel) rfl rfl rfl ⟨rm 13 rfl,rm 0 rfl,ck st It rfl fun _ s=>bJ (wG n (((smV L%12)+1)%12+1) _ (hT.below s.bel) (by omega) (by omega)),rm 0 rfl,rb st bN 4 0 rfl,ck st F2 rfl fun _ s=>bJ (oG L (az L) (smV L%12) (smV (az L)%12) _),rm 3 rfl,rm 13 rfl,(by intro a' w' hF' hb hd;have e25:=tE hd 0 rfl;exact dv0 (ao e25 ah ab (bM (by omega) (by omega))) rfl rfl rfl),rb st aO 12 3 rfl,ck st k32 rfl fun _ s=>bJ (ug (n-1) xa xb xc xd Y _ (hT.below s.bel) (by first|assumption|constructor<;>omega) (by omega) (by omega) hY),rm 3 rfl,(by intro a' w' hF' hb hd;have e28:=tE hd 0 rfl;have e29:=tE hd 1 rfl;exact dv0 (ao e28 e29 ab (aL (bq (c:=decide (Y%30+1=tiV (bK (dF n xa xb xc xd))%30+1)) rfl) (by simp))) rfl rfl rfl),(by intro a' w' hF' hb hd;have e20:=tE hd 0 rfl;have e21:=tE hd 1 rfl;have e23:=tE hd 2 rfl;have e24:=tE hd 3 rfl;have e30:=tE hd 4 rfl;exact dv0 (bB (Cj e20 e21 e23 e24 e30) (sI _ _ _ _ _ _)) rfl rfl rfl),trivial⟩ ?_
 intro a w11 hF bb hall
 replace st:=st.to bb
 replace hF:=rE hall hF 13 rfl rfl
 clear hall bb
 refine S.stoI st hF 2 rfl (hF.at 12 rfl) hF.o sU rfl rfl rfl fun w12 a st hF=>nr<|rs Tryz.results44 st hF 12 2 sU rfl rfl rfl ?_
 refine⟨Hv ?_ ?_ ?_ ?_ ?_,st.bel⟩
 ·rw[show(smV L%12+1)%12+1=(smV L+1)%12+1 by omega,hyr]
 ·omega
 ·exact decide_eq_decide.2 (by omega)
 ·rw[<-hX];rfl
 ·rw[show tiV (bK (dF n xa xb xc xd))=X from hX];exact decide_eq_decide.2 (by omega)
end Go.Proofs.YtgdpkknapcgcbaaGreatDoor
