import Derived.Test.YtgdpkknapcgcbaaGreatDoorKC2
import Derived.IntWalk
import Derived.Laws.StructEq
namespace Go.Proofs.YtgdpkknapcgcbaaGreatDoor
open Go.RowKit
set_option maxRecDepth 100000
set_option linter.unusedVariables false
set_option maxHeartbeats 8000000
section
section
def Blk (w:World) (g:Nat) (cs:List Value):Prop:=∃T,w.heap[g]?=some (.cells cs.toArray T (0,0))
theorem Own.blk {w:World} {g:Nat} {cs:List Value} (h:Own w g cs):Blk w g cs:=h.1
theorem Blk.lt {w:World} {g:Nat} {cs:List Value} (h:Blk w g cs):g<w.heap.size:=by
 obtain⟨T,h⟩:=h
 exact(Array.getElem?_eq_some_iff.1 h).1
theorem Blk.below {w w':World} {g:Nat} {cs:List Value} (h:Blk w g cs) (hb:Below w.heap.size w w'):Blk w' g cs:=by
 have hlt:=h.lt
 obtain⟨T,h⟩:=h
 exact⟨T,by rw[hb.block g hlt];exact h⟩
theorem Blk.range {w:World} {g:Nat} {cs:List Value} (h:Blk w g cs) (o:Nat) (vs:List Value) (hv:(cs.drop o).take vs.length=vs):w.rangeAt g o vs:=by
 obtain⟨T,h⟩:=h
 intro j v hj
 rw[cell_of_row w g (o+j) _ _ _ h,List.getElem?_toArray]
 have hlt:=(List.getElem?_eq_some_iff.1 hj).1
 rw[<-hv] at hj
 rw[List.getElem?_take,if_pos hlt,List.getElem?_drop] at hj
 exact hj
theorem dV.blk {g g2:Nat} {w w':World} {cs:List Value} (h:dV g w w') (ho:Blk w g2 cs) (hne:g2≠g):Blk w' g2 cs:=by
 obtain⟨T,h1⟩:=ho
 exact⟨T,by rw[h.block g2 hne];exact h1⟩
theorem Blk.ne_new {w:World} {g:Nat} {cs:List Value} (h:Blk w g cs):g≠w.heap.size:=Nat.ne_of_lt h.lt
def Cel (w:World) (g i:Nat) (v:Value):Prop:=w.cell? ⟨g,i,none⟩=some v
theorem Cel.lt {w:World} {g i:Nat} {v:Value} (h:Cel w g i v):g<w.heap.size:=by
 unfold Cel World.cell? at h
 cases hq:w.heap[g]? with
 |none=>simp[hq] at h
 |some b=>exact(Array.getElem?_eq_some_iff.1 hq).1
theorem Cel.below {w w':World} {g i:Nat} {v:Value} (h:Cel w g i v) (hb:Below w.heap.size w w'):Cel w' g i v:=by
 have hlt:=h.lt
 unfold Cel at*
 rw[<-h]
 exact World.cell?_of_block (w:=w) (hb.block g hlt)
section
variable {P:Program}
theorem mR {w:World} {g o n:Nat} {cs vs:List Value} {T:TypeId} {d:TypeDesc} (h:Blk w g cs) (hv:(cs.drop o).take n=vs) (hl:vs.length=n) (hu:P.underlying T=some d) (hd:d.isRow=true) (hi:(P.info? T).map (·.size)=some n):
 (Instr.loadAt T (.pointer (some ⟨g,o,none⟩))).run P w= .ok (.agg vs.toArray) w:=by
 subst hl
 exact run_loadAt_mid w g o T vs d (h.range o vs hv) hu hd hi
theorem uL {w:World} {g o:Nat} {v:Value} {T:TypeId} {d:TypeDesc} (hc:w.cell? ⟨g,o,none⟩=some v) (hu:P.underlying T=some d) (hd:d.isRow=false):
 (Instr.loadAt T (.pointer (some ⟨g,o,none⟩))).run P w= .ok v w:=by
 have hagg:(isAgg T).run P w= .ok false w:=by
  unfold isAgg
  rw[Sem.run_bind,run_underlying hu w]
  cases d <;> simp_all
 simp[Instr.loadAt,Instr.sureAddr,loadVar,Sem.run_bind,hagg,hc,go_sem]
theorem nl {w:World} {g o:Nat} {cs:List Value} {v:Value} {T:TypeId} {d:TypeDesc} (h:Blk w g cs) (hv:cs[o]?=some v) (hu:P.underlying T=some d) (hd:d.isRow=false):
 (Instr.loadAt T (.pointer (some ⟨g,o,none⟩))).run P w= .ok v w:=by
 obtain⟨T',h⟩:=h
 have hc:w.cell? ⟨g,o,none⟩=some v:=by rw[cell_of_row w g o _ _ _ h,List.getElem?_toArray];exact hv
 exact uL hc hu hd
theorem iL {w:World} {g o n:Nat} {cs vs ws:List Value} {T:TypeId} (h:Blk w g cs) (hi:(P.info? T).map (·.size)=some n) (hl:vs.length=n) (ho:Nat.ble (o+n) cs.length=true) (h1:∀v∈vs,v.oneCell'=true)
 (hw:cs.take o++vs++cs.drop (o+n)=ws):
 ∃w',(∀v:Value,v.cells=vs.toArray->(Instr.storeAt T (.pointer (some ⟨g,o,none⟩)) v).run P w= .ok () w')/\dV g w w'/\Blk w' g ws:=by
 subst hl
 have hle:o+vs.length<=cs.length:=by simpa using ho
 obtain⟨T',hh⟩:=h
 refine⟨w.setRow g ws.toArray,?_,?_,?_⟩
 ·intro v hv
  have hst:=run_storeCells_at P g o T' vs 0 cs.toArray w hh (by simpa using hle) h1
  simp only [Nat.add_zero] at hst
  cases hq:P.info? T with
  |none=>simp[hq] at hi
  |some i=>
   have hs:vs.length=i.size:=by simp[hq] at hi;omega
   simp only [Instr.storeAt,Instr.sureAddr,Sem.run_bind,Sem.run_pure,Result.andThen_ok,storeVar,hv,sizeOf,typeInfo]
   simp[hs,hq]
   rw[hst,<-hw]
 ·refine⟨rfl,rfl,rfl,?_,?_⟩
  ·simp[World.setRow]
  ·intro k hk
   simp only [World.setRow,Array.getElem?_modify]
   rw[if_neg (by omega)]
 ·exact⟨T',setRow_heap w g _ _ T' (0,0) hh⟩
theorem ec {w:World} {cs:List Value} (T:TypeId):Blk (w.alloc (.cells cs.toArray T)) w.heap.size cs/\Below w.heap.size w (w.alloc (.cells cs.toArray T)):=
 ⟨⟨T,heap_alloc_new w _⟩,(Below.refl _ _).alloc (Nat.le_refl _) _⟩
theorem CD {w:World} {cs:List Value} {v:Value} (T:TypeId) (hv:v.cells=cs.toArray):
 ∃g w',w.heap.size=g/\(Instr.box T v).run P w= .ok (.pointer (some ⟨g,0,none⟩)) w'/\Below w.heap.size w w'/\Blk w' g cs:=by
 refine⟨w.heap.size,w.alloc (.cells cs.toArray T),rfl,?_,(ec T).2,(ec T).1⟩
 simp only [Instr.box,newVar,hv]
 simp[newRow,go_sem]
theorem jI {w:World} {cs:List Value} {v:Value} (T:TypeId) (hz:(P.info? T).bind (·.zero)=some v) (hv:v.cells=cs.toArray):
 ∃g w',w.heap.size=g/\(Instr.alloc T true (.tuple #[])).run P w= .ok (.pointer (some ⟨g,0,none⟩)) w'/\Below w.heap.size w w'/\Blk w' g cs:=by
 refine⟨w.heap.size,w.alloc (.cells cs.toArray T),rfl,?_,(ec T).2,(ec T).1⟩
 cases hq:P.info? T with
 |none=>simp[hq] at hz
 |some i=>
  have hz':i.zero=some v:=by simpa[hq] using hz
  have h0:(zeroValue T).run P w= .ok v w:=by simp[zeroValue,typeInfo,hq,hz',go_sem]
  simp only [Instr.alloc,Sem.run_bind,h0,Result.andThen_ok,newVar,hv]
  simp[newRow,go_sem]
end
theorem ocI {k:IntKind} {z:Int} {l:List Value} (h:∀v∈l,v.oneCell'=true):∀v∈(.int k z::l),v.oneCell'=true:=by
 intro v hv
 rcases List.mem_cons.1 hv with rfl|hv
 ·rfl
 ·exact h v hv
section
variable {P:Program} {w:World}
theorem zh (a:Int) {b:Int} (_:0<b):a.tdiv b=if 0<=a then a/b else -(-a/b):=by
 split
 ·rename_i h;exact Int.tdiv_eq_ediv_of_nonneg h
 ·rename_i h
  have:(-a).tdiv b= -a/b:=Int.tdiv_eq_ediv_of_nonneg (by omega)
  rw[Int.neg_tdiv] at this
  omega
theorem Ho (a:Int) {b:Int} (_:0<b):a.tmod b=if 0<=a then a%b else -(-a%b):=by
 split
 ·rename_i h;exact Int.tmod_eq_emod_of_nonneg h
 ·rename_i h
  have:(-a).tmod b= -a%b:=Int.tmod_eq_emod_of_nonneg (by omega)
  rw[Int.neg_tmod] at this
  omega
theorem Mx {a b:Int} (hb:0<b) (h0: -9223372036854775808<=a) (h1:a<=9223372036854775807): -9223372036854775808<=a.tdiv b/\a.tdiv b<=9223372036854775807:=by
 rw[zh a hb]
 split
 ·rename_i h
  have:=Int.ediv_nonneg h (by omega:0<=b)
  have:=Int.ediv_le_self (a:=a) b h
  omega
 ·rename_i h
  have:=Int.ediv_nonneg (a:= -a) (by omega) (by omega:0<=b)
  have:=Int.ediv_le_self (a:= -a) b (by omega)
  omega
theorem PH {t:TypeId} {a b:Int} (hb:0<b) (h0: -9223372036854775808<=a) (h1:a<=9223372036854775807):(binOp .quo t (.int .i64 a) (.int .i64 b)).run P w= .ok (.int .i64 (if 0<=a then a/b else -(-a/b))) w:=by
 have hr:=Mx hb h0 h1
 have hne:b≠0:=by omega
 simp only [binOp,Op.intDiv,ne_eq,not_true_eq_false,if_false,if_neg hne]
 rw[show IntKind.i64.wrap (a.tdiv b)=a.tdiv b from IntWalk.i64_in _ hr,zh a hb]
 rfl
theorem iU {t:TypeId} {a b:Int} (hb:0<b):(binOp .rem t (.int .i64 a) (.int .i64 b)).run P w= .ok (.int .i64 (if 0<=a then a%b else -(-a%b))) w:=by
 have hne:b≠0:=by omega
 simp only [binOp,Op.intDiv,ne_eq,not_true_eq_false,if_false,if_neg hne]
 rw[Ho a hb]
 rfl
theorem Ln {t:TypeId} {a b:Int} (hb:0<b) (ha:0<=a) (h0: -9223372036854775808<=a) (h1:a<=9223372036854775807):(binOp .quo t (.int .i64 a) (.int .i64 b)).run P w= .ok (.int .i64 (a/b)) w:=by
 rw[PH hb h0 h1,if_pos ha]
theorem eK {t:TypeId} {a b:Int} (hb:0<b) (ha:0<=a):(binOp .rem t (.int .i64 a) (.int .i64 b)).run P w= .ok (.int .i64 (a%b)) w:=by
 rw[iU hb,if_pos ha]
theorem ix {t:TypeId} {a:Int} {n:Nat} (hn:n<63) {d m:Int} (hd:(2:Int)^n=d) (hm:d-1=m):(binOp .and t (.int .i64 a) (.int .i64 m)).run P w= .ok (.int .i64 (a%d)) w:=by
 subst hd hm
 have hp:(2:Int)^n=((2^n:Nat):Int):=by simp
 have h1:(1:Nat)<=2^n:=Nat.one_le_two_pow
 have h2:(2:Nat)^n<=2^62:=Nat.pow_le_pow_right (by decide) (by omega)
 have e:(BitVec.ofInt 64 a &&& BitVec.ofInt 64 ((2:Int)^n-1)).toNat =(a%2^n).toNat :=by
  rw[BitVec.toNat_and,BitVec.toNat_ofInt,BitVec.toNat_ofInt]
  have e1:(((2:Int)^n-1)%((2^64:Nat):Int)).toNat =2^n-1:=by rw[hp];omega
  rw[e1,Nat.and_two_pow_sub_one_eq_mod]
  have hd:((2^n:Nat):Int) ∣ ((2^64:Nat):Int):=by
   refine Int.natCast_dvd_natCast.2 (Nat.pow_dvd_pow 2 (by omega))
  have e2:(a%((2^64:Nat):Int))%((2^n:Nat):Int)=a%((2^n:Nat):Int):=Int.emod_emod_of_dvd a hd
  have nn:=Int.emod_nonneg a (by decide:((2^64:Nat):Int)≠0)
  rw[hp,<-e2]
  generalize a%((2^64:Nat):Int)=x at*
  obtain⟨y,rfl⟩:=Int.eq_ofNat_of_zero_le nn
  rw[Int.toNat_natCast,<-Int.natCast_emod,Int.toNat_natCast]
 have b1:=Int.emod_nonneg a (show(2:Int)^n≠0 by rw[hp];omega)
 have b2:=Int.emod_lt_of_pos a (show 0<(2:Int)^n by rw[hp];omega)
 show(pure (.int .i64 (IntKind.i64.wrap (((BitVec.ofInt 64 a &&& BitVec.ofInt 64 ((2:Int)^n-1)).toNat :Nat):Int))):Sem Value).run P w=_
 rw[e,show(((a%2^n).toNat :Nat):Int)=a%2^n from Int.toNat_of_nonneg b1]
 rw[show IntKind.i64.wrap (a%2^n)=a%2^n from IntWalk.i64_in _ ⟨by omega,by rw[hp] at*;omega⟩]
 rfl
theorem rC {t:TypeId} {ts:Array TypeId} {cs:Array Bool} {a b:Int}:(builtin .min ts t cs #[.int .i64 a,.int .i64 b]).run P w= .ok (.value (.int .i64 (min a b))) w:=by
 have e:(if b<a then b else a)=min a b:=by omega
 simp[Builtin.min_,Builtin.min2,e,go_sem]
theorem zd {t:TypeId} {ts:Array TypeId} {cs:Array Bool} {a b:Int}:(builtin .max ts t cs #[.int .i64 a,.int .i64 b]).run P w= .ok (.value (.int .i64 (max a b))) w:=by
 have e:(if a<b then b else a)=max a b:=by omega
 simp[Builtin.max_,Builtin.max2,e,go_sem]
theorem aI {p:Prop} [Decidable p] (h:p):decide p=true:=decide_eq_true h
theorem aJ {p:Prop} [Decidable p] (h:¬p):decide p=false:=decide_eq_false h
end
theorem yE {P:Program} {w:World} {t:TypeId} {d:TypeDesc} (hu:P.underlying t=some d) (hd:d.isRow=false) {xs:Array Value} {off:Nat} {v:Value} (hv:xs[off]?=some v):(part t xs off).run P w= .ok v w:=by
 have hagg:(isAgg t).run P w= .ok false w:=by
  unfold isAgg
  rw[Sem.run_bind,run_underlying hu w]
  cases d <;> simp_all
 simp[part,Sem.run_bind,hagg,hv]
theorem Ls {P:Program} {w:World} {d:Nat} {xs ys:Array Value}:(Op.eqFields d xs ys []).run P w= .ok true w:=by simp[Op.eqFields]
theorem rI {P:Program} {w:World} {d:Nat} {xs ys:Array Value} {f:Field} {fs:List Field} {s:Bool} {a b:Int} {k k':IntKind} (hn:(f.name != "_")=true) (hu:P.underlying f.type=some (.int k')) (h1:xs[f.offset]?=some (.int k a)) (h2:ys[f.offset]?=some (.int k b))
 (hr:(Op.eqFields (d+1) xs ys fs).run P w= .ok s w):(Op.eqFields (d+1) xs ys (f::fs)).run P w= .ok (decide (a=b) && s) w:=by
 have hn':f.name≠ "_":=by simpa using hn
 simp only [Op.eqFields,Sem.run_bind,Sem.run_ite,if_pos hn',yE hu rfl h1,yE hu rfl h2,Result.andThen_ok,run_equalIn_int w d f.type k k' a b hu]
 by_cases e:a=b
 ·subst e;simp[hr]
 ·simp[e]
theorem L2 {p q:Prop} [Decidable p] [Decidable q]:(decide p && decide q)=decide (p/\q):=by simp
theorem ch {a b:Int} (h:a=b):Ending.returned (.int .i64 a)= .returned (.int .i64 b):=by rw[h]
theorem iz {a b:Bool} (h:a=b):Ending.returned (.bool a)= .returned (.bool b):=by rw[h]
def wk (w:World) (v:Value):Ending->World->Prop:=fun e w'=>e= .returned v/\Below w.heap.size w w'
end
section
theorem dz:(Tryz.prog.info? 2).map (·.size)=some 1:=by kernel_rfl
theorem bl {w:World} {g o:Nat} {cs:List Value} {v:Value} (h:Blk w g cs) (hv:cs[o]?=some v):(Instr.loadAt 2 (.pointer (some ⟨g,o,none⟩))).run Tryz.prog w= .ok v w:=nl h hv Tryz.underlying2 rfl
theorem gV:(Tryz.prog.info? 3).map (·.size)=some 1:=by kernel_rfl
theorem bQ {w:World} {g o:Nat} {cs:List Value} {v:Value} (h:Blk w g cs) (hv:cs[o]?=some v):(Instr.loadAt 3 (.pointer (some ⟨g,o,none⟩))).run Tryz.prog w= .ok v w:=nl h hv Tryz.underlying3 rfl
theorem vG {w:World} {g o:Nat} {v:Value} (h:w.cell? ⟨g,o,none⟩=some v):(Instr.loadAt 3 (.pointer (some ⟨g,o,none⟩))).run Tryz.prog w= .ok v w:=uL h Tryz.underlying3 rfl
end
section
section
variable {P:Program} {ops:Array Oper} {Q:Exit->Act->World->Prop} {o:Oper} {a:Act} {w:World} {v:Value} {Hs:List (World->Value->Prop)} {al:List Nat} {i:Nat} {N:Prop} {f:FuncId} {args:Array Value} {H:World->Value->Prop} {Z:Nat->List Value}
theorem uN {C:Prop} (h:al.contains i=false):al.contains i=true->C:=fun e=>by rw[h] at e;cases e
theorem dv1 (hw:Region.wanted o (yielded ops a.tmps)=true) (hr:(execOp a.eval o).run P w= .ok (.value v) w) (h:Hat Hs i w v) (ha:al.contains i=false):
 if Region.wanted o (yielded ops a.tmps)=true then bG P Q o a w (fun v w'=>Hat Hs i w' v/\Below w.heap.size w w'/\(al.contains i=true->v= .pointer (some ⟨w.heap.size,0,none⟩))) else N:=
 bX hw (bG.vals hr ⟨h,Below.refl _ _,uN ha⟩)
theorem dv0 (hr:(execOp a.eval o).run P w= .ok (.value v) w) (h:Hat Hs i w v) (ha:al.contains i=false) (hg:o.guard=none):
 if Region.wanted o (yielded ops a.tmps)=true then bG P Q o a w (fun v w'=>Hat Hs i w' v/\Below w.heap.size w w'/\(al.contains i=true->v= .pointer (some ⟨w.heap.size,0,none⟩))) else N:=dv1 (aR hg) hr h ha
theorem dw1 (hw:Region.wanted o (yielded ops a.tmps)=true) (hr:(execOp a.eval o).run P w= .ok (.value v) w) (h:Hat Hs i w v) (ha:al.contains i=false):
 if Region.wanted o (yielded ops a.tmps)=true then bG P Q o a w (fun v w'=>(al.contains i=false->Hat Hs i w' v)/\Below w.heap.size w w'/\(al.contains i=true->v= .pointer (some ⟨w.heap.size,0,none⟩)/\Own w' w.heap.size (Z i))) else N:=
 bX hw (bG.vals hr ⟨fun _=>h,Below.refl _ _,uN ha⟩)
theorem dw0 (hr:(execOp a.eval o).run P w= .ok (.value v) w) (h:Hat Hs i w v) (ha:al.contains i=false) (hg:o.guard=none):
 if Region.wanted o (yielded ops a.tmps)=true then bG P Q o a w (fun v w'=>(al.contains i=false->Hat Hs i w' v)/\Below w.heap.size w w'/\(al.contains i=true->v= .pointer (some ⟨w.heap.size,0,none⟩)/\Own w' w.heap.size (Z i))) else N:=dw1 (aR hg) hr h ha
theorem dc1 (hw:Region.wanted o (yielded ops a.tmps)=true) (hr:(execOp a.eval o).run P w= .ok (.enter f args) w) (hc:Calls P f args w fun e w'=>∃v,e= .returned v/\Hat Hs i w' v/\Below w.heap.size w w') (ha:al.contains i=false):
 if Region.wanted o (yielded ops a.tmps)=true then bG P Q o a w (fun v w'=>Hat Hs i w' v/\Below w.heap.size w w'/\(al.contains i=true->v= .pointer (some ⟨w.heap.size,0,none⟩))) else N:=
 bX hw (bG.calls hr hc fun _ _ ⟨v,e,h,b⟩=>⟨v,e,h,b,uN ha⟩)
theorem dc0 (hr:(execOp a.eval o).run P w= .ok (.enter f args) w) (hc:Calls P f args w fun e w'=>∃v,e= .returned v/\Hat Hs i w' v/\Below w.heap.size w w') (ha:al.contains i=false) (hg:o.guard=none):
 if Region.wanted o (yielded ops a.tmps)=true then bG P Q o a w (fun v w'=>Hat Hs i w' v/\Below w.heap.size w w'/\(al.contains i=true->v= .pointer (some ⟨w.heap.size,0,none⟩))) else N:=dc1 (aR hg) hr hc ha
theorem dk1 (hw:Region.wanted o (yielded ops a.tmps)=true) (hr:(execOp a.eval o).run P w= .ok (.enter f args) w) (hc:Calls P f args w fun e w'=>∃v,e= .returned v/\Hat Hs i w' v/\Below w.heap.size w w') (ha:al.contains i=false):
 if Region.wanted o (yielded ops a.tmps)=true then bG P Q o a w (fun v w'=>(al.contains i=false->Hat Hs i w' v)/\Below w.heap.size w w'/\(al.contains i=true->v= .pointer (some ⟨w.heap.size,0,none⟩)/\Own w' w.heap.size (Z i))) else N:=
 bX hw (bG.calls hr hc fun _ _ ⟨v,e,h,b⟩=>⟨v,e,fun _=>h,b,uN ha⟩)
theorem dk0 (hr:(execOp a.eval o).run P w= .ok (.enter f args) w) (hc:Calls P f args w fun e w'=>∃v,e= .returned v/\Hat Hs i w' v/\Below w.heap.size w w') (ha:al.contains i=false) (hg:o.guard=none):
 if Region.wanted o (yielded ops a.tmps)=true then bG P Q o a w (fun v w'=>(al.contains i=false->Hat Hs i w' v)/\Below w.heap.size w w'/\(al.contains i=true->v= .pointer (some ⟨w.heap.size,0,none⟩)/\Own w' w.heap.size (Z i))) else N:=dk1 (aR hg) hr hc ha
theorem JV (hw:Region.wanted o (yielded ops a.tmps)=true) (hr:(execOp a.eval o).run P w= .ok (.enter f args) w) (hc:Calls P f args w fun e w'=>e= .returned v/\Below w.heap.size w w') (h:∀w',Hat Hs i w' v) (ha:al.contains i=false):
 if Region.wanted o (yielded ops a.tmps)=true then bG P Q o a w (fun v w'=>Hat Hs i w' v/\Below w.heap.size w w'/\(al.contains i=true->v= .pointer (some ⟨w.heap.size,0,none⟩))) else N:=
 bX hw (bG.calls hr hc fun _ w' ⟨e,b⟩=>⟨v,e,h w',b,uN ha⟩)
theorem Sw (hr:(execOp a.eval o).run P w= .ok (.enter f args) w) (hc:Calls P f args w fun e w'=>e= .returned v/\Below w.heap.size w w') (h:∀w',Hat Hs i w' v) (ha:al.contains i=false) (hg:o.guard=none):
 if Region.wanted o (yielded ops a.tmps)=true then bG P Q o a w (fun v w'=>Hat Hs i w' v/\Below w.heap.size w w'/\(al.contains i=true->v= .pointer (some ⟨w.heap.size,0,none⟩))) else N:=JV (aR hg) hr hc h ha
variable {ds:List Nat} {ds2:List (Option Nat)} {x:Value}
theorem lO {H:World->Value->Prop} (hH:Hs[i]?=some H) (h:Hat Hs i w v):H w v:=by
 unfold Hat at h;rw[hH] at h;exact h
theorem sS (hall:∀(i s:Nat),ds[i]?=some s->Hat Hs i w (a.tmps.getD s undef)) (i s:Nat) (hs:ds[i]?=some s) (hH:Hs[i]?=some H):∃v,a.tmps.getD s undef=v/\H w v:=⟨_,rfl,lO hH (hall i s hs)⟩
theorem sSe (hall:∀(i s:Nat),ds[i]?=some s->Hat Hs i w (a.tmps.getD s undef)) (i s:Nat) (hs:ds[i]?=some s) (hH:Hs[i]?=some fun _ v=>v=x):a.tmps.getD s undef=x:=lO hH (hall i s hs)
theorem sS2 (hall:∀(i s:Nat),al.contains i=false->ds2[i]?=some (some s)->Hat Hs i w (a.tmps.getD s undef)) (i s:Nat) (ha:al.contains i=false) (hs:ds2[i]?=some (some s)) (hH:Hs[i]?=some H):∃v,a.tmps.getD s undef=v/\H w v:=⟨_,rfl,lO hH (hall i s ha hs)⟩
theorem OL (hall:∀(i s:Nat),al.contains i=false->ds2[i]?=some (some s)->Hat Hs i w (a.tmps.getD s undef)) (i s:Nat) (ha:al.contains i=false) (hs:ds2[i]?=some (some s)) (hH:Hs[i]?=some fun _ v=>v=x):a.tmps.getD s undef=x:=lO hH (hall i s ha hs)
theorem sH {e:Edge} (hd:∀(e:Edge) (s:Nat),e∈o.after->Region.binds .any e=true->ds[e.on]?=some s->Hat Hs e.on w (a.tmps.getD s undef)) (p s:Nat) (he:o.after[p]?=some e) (hb:Region.binds .any e=true) (hs:ds[e.on]?=some s) (hH:Hs[e.on]?=some H):∃v,a.tmps.getD s undef=v/\H w v:=⟨_,rfl,lO hH (hd e s (Array.mem_of_getElem? he) hb hs)⟩
theorem sHe {e:Edge} (hd:∀(e:Edge) (s:Nat),e∈o.after->Region.binds .any e=true->ds[e.on]?=some s->Hat Hs e.on w (a.tmps.getD s undef)) (p s:Nat) (he:o.after[p]?=some e) (hb:Region.binds .any e=true) (hs:ds[e.on]?=some s) (hH:Hs[e.on]?=some fun _ v=>v=x):a.tmps.getD s undef=x:=lO hH (hd e s (Array.mem_of_getElem? he) hb hs)
theorem sH2 {e:Edge} (hd:∀(e:Edge) (s:Nat),e∈o.after->Region.binds .any e=true->al.contains e.on=false->ds2[e.on]?=some (some s)->Hat Hs e.on w (a.tmps.getD s undef)) (p s:Nat) (he:o.after[p]?=some e) (hb:Region.binds .any e=true) (ha:al.contains e.on=false) (hs:ds2[e.on]?=some (some s)) (hH:Hs[e.on]?=some H):∃v,a.tmps.getD s undef=v/\H w v:=⟨_,rfl,lO hH (hd e s (Array.mem_of_getElem? he) hb ha hs)⟩
theorem wj {e:Edge} (hd:∀(e:Edge) (s:Nat),e∈o.after->Region.binds .any e=true->al.contains e.on=false->ds2[e.on]?=some (some s)->Hat Hs e.on w (a.tmps.getD s undef)) (p s:Nat) (he:o.after[p]?=some e) (hb:Region.binds .any e=true) (ha:al.contains e.on=false) (hs:ds2[e.on]?=some (some s)) (hH:Hs[e.on]?=some fun _ v=>v=x):a.tmps.getD s undef=x:=lO hH (hd e s (Array.mem_of_getElem? he) hb ha hs)
end
end
section
def Cl (P:World->Prop):Prop:=∀w w',P w->eO w w'->P w'
def cN:Value->Bool
 | .bool _=>true
 | .slice _ _ _=>true
 |_=>false
theorem cN.ni {cs:List Value} (h:cs.all cN=true):∀v∈cs,dT v:=by
 intro v hv
 have:=List.all_eq_true.1 h v hv
 cases v <;> first|(cases this;done)|(intro k n e;cases e)
theorem cN.oc {cs:List Value} (h:cs.all cN=true):∀v∈cs,v.oneCell'=true:=by
 intro v hv
 have:=List.all_eq_true.1 h v hv
 cases v <;> first|(cases this;done)|rfl
def jz:Value->Bool
 | .bool _=>true
 | .slice _ _ _=>true
 | .int _ _=>true
 |_=>false
theorem jz.oc {cs:List Value} (h:cs.all jz=true):∀v∈cs,v.oneCell'=true:=by
 intro v hv
 have:=List.all_eq_true.1 h v hv
 cases v <;> first|(cases this;done)|rfl
structure St (W w:World) (bs:List (Nat×List Value)) (fs:List (World->Prop)):Prop where
 bel:Below W.heap.size W w
 own:∀p∈bs,Blk w p.1 p.2
 low:∀p∈bs,W.heap.size<=p.1
 apart:bs.Pairwise fun p q=>p.1≠q.1
 facts:∀F∈fs,F w
 cl:∀F∈fs,Cl F
section
variable {W w w':World} {bs:List (Nat×List Value)} {fs:List (World->Prop)}
theorem St.start (w:World):St w w [] []:=⟨Below.refl _ _,(fun _ h=>by cases h),(fun _ h=>by cases h),List.Pairwise.nil,(fun _ h=>by cases h),(fun _ h=>by cases h)⟩
theorem St.b (st:St W w bs fs) (i:Nat) {g:Nat} {cs:List Value} (h:bs[i]?=some (g,cs)) (hc:cs.all cN=true):Own w g cs:=⟨st.own _ (List.mem_of_getElem? h),cN.ni hc⟩
theorem St.bk (st:St W w bs fs) (i:Nat) {g:Nat} {cs:List Value} (h:bs[i]?=some (g,cs)):Blk w g cs:=st.own _ (List.mem_of_getElem? h)
theorem St.f (st:St W w bs fs) (i:Nat) {F:World->Prop} (h:fs[i]?=some F):F w:=st.facts _ (List.mem_of_getElem? h)
theorem St.to (st:St W w bs fs) (hb:Below w.heap.size w w'):St W w' bs fs:=
 ⟨aF st.bel hb,fun p hp=>(st.own p hp).below hb,st.low,st.apart,fun F hF=>st.cl F hF w w' (st.facts F hF) (Below.keep hb),st.cl⟩
theorem St.add (st:St W w bs fs) {F:World->Prop} (h:F w) (hc:Cl F):St W w bs (F::fs):=
 ⟨st.bel,st.own,st.low,st.apart,(fun G hG=>by rcases List.mem_cons.1 hG with rfl|hG;exact h;exact st.facts G hG),(fun G hG=>by rcases List.mem_cons.1 hG with rfl|hG;exact hc;exact st.cl G hG)⟩
theorem St.push (st:St W w bs fs) {g:Nat} {cs:List Value} (ho:Blk w g cs) (hg:W.heap.size<=g) (hne:∀p∈bs,p.1≠g):St W w ((g,cs)::bs) fs:=
 ⟨st.bel,(fun p hp=>by rcases List.mem_cons.1 hp with rfl|hp;exact ho;exact st.own p hp),(fun p hp=>by rcases List.mem_cons.1 hp with rfl|hp;exact hg;exact st.low p hp),
  List.pairwise_cons.2 ⟨fun p hp e=>hne p hp e.symm,st.apart⟩,st.facts,st.cl⟩
theorem St.ne (st:St W w bs fs) {g:Nat} (hg:w.heap.size<=g):∀p∈bs,p.1≠g:=fun p hp e=>by have:=(st.own p hp).lt;omega
theorem sd {g:Nat} {p:Nat×List Value} (h:p.1≠g) (hb:∀p∈bs,p.1≠g):∀q∈p::bs,q.1≠g:=fun q hq=>by rcases List.mem_cons.1 hq with rfl|hq;exact h;exact hb q hq
theorem St.new (st:St W w bs fs) {cs:List Value} {g:Nat} (hg:w.heap.size=g) (hb:Below w.heap.size w w') (ho:Blk w' g cs):St W w' ((g,cs)::bs) fs:=
 (st.to hb).push ho (by rw[<-hg];exact st.bel.size) (st.ne (by omega))
theorem St.pick (st:St W w bs fs) (is js:List Nat) {bs':List (Nat×List Value)} {fs':List (World->Prop)} (hb:is.map (bs[·]?)=bs'.map some) (hf:js.map (fs[·]?)=fs'.map some) (hn:is.Pairwise fun a b=>a≠b):St W w bs' fs':=by
 have mb:∀(k:Nat) p,bs'[k]?=some p->∃i,is[k]?=some i/\bs[i]?=some p:=by
  intro k p hp
  have h1:(bs'.map some)[k]?=some (some p):=by rw[List.getElem?_map,hp];rfl
  rw[<-hb,List.getElem?_map] at h1
  cases hq:is[k]? with
  |none=>rw[hq] at h1;cases h1
  |some i=>rw[hq] at h1;exact⟨i,rfl,by simpa using h1⟩
 have mf:∀F∈fs',F∈fs:=by
  intro F hF
  have h1:some F∈fs'.map some:=List.mem_map_of_mem hF
  rw[<-hf] at h1
  obtain⟨j,_,hj⟩:=List.mem_map.1 h1
  exact List.mem_of_getElem? hj
 have mm:∀p∈bs',p∈bs:=fun p hp=>by
  obtain⟨k,hk⟩:=List.mem_iff_getElem?.1 hp
  obtain⟨i,_,hi⟩:=mb k p hk
  exact List.mem_of_getElem? hi
 refine⟨st.bel,fun p hp=>st.own p (mm p hp),fun p hp=>st.low p (mm p hp),?_,fun F hF=>st.facts F (mf F hF),fun F hF=>st.cl F (mf F hF)⟩
 rw[List.pairwise_iff_getElem]
 intro x y hx hy hxy
 obtain⟨i,hi,hi'⟩:=mb x _ (List.getElem?_eq_getElem hx)
 obtain⟨j,hj,hj'⟩:=mb y _ (List.getElem?_eq_getElem hy)
 have hij:i≠j:=by
  obtain⟨a,ea⟩:=List.getElem?_eq_some_iff.1 hi
  obtain⟨b,eb⟩:=List.getElem?_eq_some_iff.1 hj
  rw[<-ea,<-eb]
  exact List.pairwise_iff_getElem.1 hn x y a b hxy
 obtain⟨a,ea⟩:=List.getElem?_eq_some_iff.1 hi'
 obtain⟨b,eb⟩:=List.getElem?_eq_some_iff.1 hj'
 rw[<-ea,<-eb]
 rcases Nat.lt_or_gt_of_ne hij with h|h
 ·exact List.pairwise_iff_getElem.1 st.apart i j a b h
 ·exact fun e=>List.pairwise_iff_getElem.1 st.apart j i b a h e.symm
theorem St.setI (st:St W w bs fs) (i:Nat) {g:Nat} {cs ws:List Value} (h:bs[i]?=some (g,cs)) (tu:dV g w w') (ho:Blk w' g ws):St W w' (bs.set i (g,ws)) []:=by
 obtain⟨hi,e⟩:=List.getElem?_eq_some_iff.1 h
 have ne:∀j p,bs[j]?=some p->j≠i->p.1≠g:=by
  intro j p hj hne
  obtain⟨hj',ej⟩:=List.getElem?_eq_some_iff.1 hj
  have:=List.pairwise_iff_getElem.1 st.apart
  rcases Nat.lt_or_gt_of_ne hne with q|q
  ·have:=this j i hj' hi q;rw[e,ej] at this;exact this
  ·have:=this i j hi hj' q;rw[e,ej] at this;exact fun e=>this e.symm
 have mem:∀p∈bs.set i (g,ws),p=(g,ws)\/(p∈bs/\p.1≠g):=by
  intro p hp
  obtain⟨j,hj⟩:=List.mem_iff_getElem?.1 hp
  by_cases q:j=i
  ·subst q;rw[List.getElem?_set_self hi] at hj;left;injection hj with hj;exact hj.symm
  ·rw[List.getElem?_set_ne (fun e=>q e.symm)] at hj;right;exact⟨List.mem_of_getElem? hj,ne j p hj q⟩
 have hlow:W.heap.size<=g:=st.low _ (List.mem_of_getElem? h)
 refine⟨tu.below st.bel hlow,?_,?_,?_,(fun _ h=>by cases h),(fun _ h=>by cases h)⟩
 ·intro p hp
  rcases mem p hp with rfl|⟨hp,hne⟩
  ·exact ho
  ·exact tu.blk (st.own p hp) hne
 ·intro p hp
  rcases mem p hp with rfl|⟨hp,hne⟩
  ·exact hlow
  ·exact st.low p hp
 ·rw[List.pairwise_iff_getElem]
  intro x y hx hy hxy
  have px:=List.getElem?_eq_getElem hx
  have py:=List.getElem?_eq_getElem hy
  generalize (bs.set i (g,ws))[x]=p at px ⊢
  generalize (bs.set i (g,ws))[y]=q at py ⊢
  have at_:∀z r,(bs.set i (g,ws))[z]?=some r->(z=i/\r.1=g)\/(z≠i/\bs[z]?=some r):=by
   intro z r hz
   by_cases k:z=i
   ·subst k;rw[List.getElem?_set_self hi] at hz;injection hz with hz;left;exact⟨rfl,by rw[<-hz]⟩
   ·rw[List.getElem?_set_ne (fun e=>k e.symm)] at hz;right;exact⟨k,hz⟩
  rcases at_ x p px with⟨rfl,hp⟩|⟨kx,hp⟩ <;> rcases at_ y q py with⟨rfl,hq⟩|⟨ky,hq⟩
  ·omega
  ·rw[hp];exact fun e=>ne y q hq ky e.symm
  ·rw[hq];exact ne x p hp kx
  ·obtain⟨ax,ex⟩:=List.getElem?_eq_some_iff.1 hp
   obtain⟨ay,ey⟩:=List.getElem?_eq_some_iff.1 hq
   rw[<-ex,<-ey]
   exact List.pairwise_iff_getElem.1 st.apart x y ax ay hxy
theorem St.set (st:St W w bs fs) (i:Nat) {g:Nat} {cs ws:List Value} (h:bs[i]?=some (g,cs)) (hc:cs.all cN=true) (tu:dV g w w') (ho:Blk w' g ws):St W w' (bs.set i (g,ws)) fs:=
 let s:=st.setI i h tu ho
 ⟨s.bel,s.own,s.low,s.apart,fun F hF=>st.cl F hF w w' (st.facts F hF) (tu.keep (st.b i h hc)),st.cl⟩
end
theorem Fr.pick {nt:Nat} {a:Act} {L L':List (Nat×Value)} (h:Fr nt a L) (is:List Nat) (e:is.map (L[·]?)=L'.map some):Fr nt a L':=
 h.sub fun p hp=>by
  have h1:some p∈L'.map some:=List.mem_map_of_mem hp
  rw[<-e] at h1
  obtain⟨j,_,hj⟩:=List.mem_map.1 h1
  exact List.mem_of_getElem? hj
structure Ty (P:Program) (T:TypeId) (n:Nat) (z:List Value):Prop where
 u:∃d,P.underlying T=some d/\d.isRow=true
 s:(P.info? T).map (·.size)=some n
 z:(P.info? T).bind (·.zero)=some (.agg z.toArray)
section
variable {P:Program} {ops:Array Oper} {Q:Exit->Act->World->Prop} {W w:World} {bs:List (Nat×List Value)} {fs:List (World->Prop)} {nt d:Nat} {L:List (Nat×Value)} {rest:List Oper} {a:Act} {T:TypeId} {x y:Operand} {v:Value} {cs vs zs:List Value} {g n:Nat} {ty:TypeId} {pos:String} {af:Array Edge}
theorem S.box (st:St W w bs fs) (hF:Fr nt a L) (he:a.eval x= .agg cs.toArray) (hlt:Nat.blt d nt=true) (hf:bz d L=true)
 (k:∀g w' a',St W w' ((g,cs)::bs) fs->Fr nt a' ((d,.pointer (some ⟨g,0,none⟩))::L)->wpS P ops Q rest a' w'):wpS P ops Q (⟨some d,.box T x,ty,pos,af,none⟩::rest) a w:=by
 obtain⟨g,w1,ge,hr,bb,o⟩:=CD (P:=P) (w:=w) (cs:=cs) (v:= .agg cs.toArray) T rfl
 exact E.opv hF (nj he hr) rfl rfl hlt hf fun a' hF'=>k g w1 a' (st.new ge bb o) hF'
theorem S.alloc (st:St W w bs fs) (hF:Fr nt a L) (hT:Ty P T n zs) (hlt:Nat.blt d nt=true) (hf:bz d L=true)
 (k:∀g w' a',St W w' ((g,zs)::bs) fs->Fr nt a' ((d,.pointer (some ⟨g,0,none⟩))::L)->wpS P ops Q rest a' w'):wpS P ops Q (⟨some d,.alloc T,ty,pos,af,none⟩::rest) a w:=by
 obtain⟨g,w1,ge,hr,bb,o⟩:=jI (P:=P) (w:=w) (cs:=zs) (v:= .agg zs.toArray) T hT.z rfl
 exact E.opv hF (dP hr) rfl rfl hlt hf fun a' hF'=>k g w1 a' (st.new ge bb o) hF'
theorem S.new {s:Nat} {ty':TypeId} {pos':String} {af':Array Edge} (st:St W w bs fs) (hF:Fr nt a L) (j:Nat) (hj:L[j]?=some (s,.agg vs.toArray)) (hT:Ty P T n zs) (hl:vs.length=n) (hz:zs.length=n) (hc:vs.all jz=true) (hlt:Nat.blt d nt=true) (hf:bz d L=true)
 (k:∀g w' a',St W w' ((g,vs)::bs) fs->Fr nt a' ((d,.pointer (some ⟨g,0,none⟩))::L)->wpS P ops Q rest a' w'):wpS P ops Q (⟨some d,.alloc T,ty,pos,af,none⟩::⟨none,.store T (.tmp d) (.tmp s),ty',pos',af',none⟩::rest) a w:=by
 obtain⟨g,w1,ge,hr,bb,o⟩:=jI (P:=P) (w:=w) (cs:=zs) (v:= .agg zs.toArray) T hT.z rfl
 refine E.opv hF (dP hr) rfl rfl hlt hf fun a1 hF1=>?_
 obtain⟨w2,hr2,tu,on⟩:=iL (P:=P) (o:=0) (ws:=vs) o hT.s hl (by simp[hz]) (jz.oc hc) (by subst hl;simp[hz])
 refine E.st hF1 (cT (cw (hF1.at 0 rfl)) (cw (hF1.at (j+1) hj)) (hr2 _ rfl)) rfl rfl fun a2 hF2=>?_
 have b2:Below w.heap.size w w2:=tu.below bb (Nat.le_of_eq ge)
 exact k g w2 a2 (st.new ge b2 on) hF2
theorem bK (hT:Ty P T n zs) (ho:Blk w g cs) (hn:cs.length=n):(Instr.loadAt T (.pointer (some ⟨g,0,none⟩))).run P w= .ok (.agg cs.toArray) w:=by
 obtain⟨d,hu,hd⟩:=hT.u
 exact mR ho (by rw[List.drop_zero,<-hn,List.take_length]) hn hu hd hT.s
theorem S.sto (st:St W w bs fs) (hF:Fr nt a L) (i:Nat) (hb:bs[i]?=some (g,cs)) (he:a.eval x= .pointer (some ⟨g,0,none⟩)) (hv:a.eval y= .agg vs.toArray) (hT:Ty P T n zs) (hl:vs.length=n) (hl':cs.length=n) (hc:cs.all cN=true) (hc':vs.all cN=true)
 (k:∀w' a',St W w' (bs.set i (g,vs)) fs->Fr nt a' L->wpS P ops Q rest a' w'):wpS P ops Q (⟨none,.store T x y,ty,pos,af,none⟩::rest) a w:=by
 obtain⟨w1,hr,tu,on⟩:=gY (P:=P) (o:=0) (ws:=vs) (st.b i hb hc) hT.s hl (by simp[hl']) (cN.oc hc') (cN.ni hc') (by subst hl;simp[hl'])
 exact E.st hF (cT he hv (hr _ rfl)) rfl rfl fun a' hF'=>k w1 a' (st.set i hb hc tu on.blk) hF'
theorem S.stoI (st:St W w bs fs) (hF:Fr nt a L) (i:Nat) (hb:bs[i]?=some (g,cs)) (he:a.eval x= .pointer (some ⟨g,0,none⟩)) (hv:a.eval y= .agg vs.toArray) (hT:Ty P T n zs) (hl:vs.length=n) (hl':cs.length=n) (hc':vs.all jz=true)
 (k:∀w' a',St W w' (bs.set i (g,vs)) []->Fr nt a' L->wpS P ops Q rest a' w'):wpS P ops Q (⟨none,.store T x y,ty,pos,af,none⟩::rest) a w:=by
 obtain⟨w1,hr,tu,on⟩:=iL (P:=P) (o:=0) (ws:=vs) (st.bk i hb) hT.s hl (by simp[hl']) (jz.oc hc') (by subst hl;simp[hl'])
 exact E.st hF (cT he hv (hr _ rfl)) rfl rfl fun a' hF'=>k w1 a' (st.setI i hb tu on) hF'
theorem S.stoo {o:Nat} {ws:List Value} (st:St W w bs fs) (hF:Fr nt a L) (i:Nat) (hb:bs[i]?=some (g,cs)) (he:a.eval x= .pointer (some ⟨g,o,none⟩)) (hv:a.eval y=v) (hcv:v.cells=vs.toArray) (hT:(P.info? T).map (·.size)=some n) (hl:vs.length=n) (ho:Nat.ble (o+n) cs.length=true) (hc:cs.all cN=true) (hc':vs.all cN=true) (hw:cs.take o++vs++cs.drop (o+n)=ws)
 (k:∀w' a',St W w' (bs.set i (g,ws)) fs->Fr nt a' L->wpS P ops Q rest a' w'):wpS P ops Q (⟨none,.store T x y,ty,pos,af,none⟩::rest) a w:=by
 obtain⟨w1,hr,tu,on⟩:=gY (P:=P) (o:=o) (ws:=ws) (st.b i hb hc) hT hl ho (cN.oc hc') (cN.ni hc') hw
 exact E.st hF (cT he hv (hr _ hcv)) rfl rfl fun a' hF'=>k w1 a' (st.set i hb hc tu on.blk) hF'
theorem S.callt {f:FuncId} {args:Array Value} {R:Ending->World->Prop} {H:Value->World->Prop} {t:Value->Value} {o:Oper} (st:St W w bs fs) (hF:Fr nt a L) (hr:(execOp a.eval o).run P w= .ok (.enter f args) w) (hc:Calls P f args w R)
 (hR:∀e w',R e w'->∃v,e= .returned (t v)/\H v w'/\Below w.heap.size w w') (hcl:∀v,Cl (H v)) (hg:o.guard=none) (hd:o.dst=some d) (hlt:Nat.blt d nt=true) (hf:bz d L=true)
 (k:∀v w' a',St W w' bs (H v::fs)->Fr nt a' ((d,t v)::L)->wpS P ops Q rest a' w'):wpS P ops Q (o::rest) a w:=
 E.call hF hr hc hg hd hlt hf fun e w' r=>by
  obtain⟨v,he,h,bb⟩:=hR e w' r
  exact⟨t v,he,fun a' hF'=>k v w' a' ((st.to bb).add h (hcl v)) hF'⟩
theorem S.call2 {f:FuncId} {args:Array Value} {R:Ending->World->Prop} {H G:Value->World->Prop} {o:Oper} (st:St W w bs fs) (hF:Fr nt a L) (hr:(execOp a.eval o).run P w= .ok (.enter f args) w) (hc:Calls P f args w R)
 (hR:∀e w',R e w'->∃v u,e= .returned (.tuple #[v,u])/\H v w'/\G u w'/\Below w.heap.size w w') (hcl:∀v,Cl (H v)) (hcl':∀v,Cl (G v)) (hg:o.guard=none) (hd:o.dst=some d) (hlt:Nat.blt d nt=true) (hf:bz d L=true)
 (k:∀v u w' a',St W w' bs (H v::G u::fs)->Fr nt a' ((d,.tuple #[v,u])::L)->wpS P ops Q rest a' w'):wpS P ops Q (o::rest) a w:=
 E.call hF hr hc hg hd hlt hf fun e w' r=>by
  obtain⟨v,u,he,h,h',bb⟩:=hR e w' r
  exact⟨_,he,fun a' hF'=>k v u w' a' (((st.to bb).add h' (hcl' u)).add h (hcl v)) hF'⟩
theorem AE {f:FuncId} {args:Array Value} (h:Calls P f args w (sx w v)):Calls P f args w fun e w'=>e= .returned v/\Below w.heap.size w w':=h.mono fun _ _ h=>⟨(jw h).1,(jw h).2.1⟩
theorem S.call {f:FuncId} {args:Array Value} {R:Ending->World->Prop} {H:Value->World->Prop} {o:Oper} (st:St W w bs fs) (hF:Fr nt a L) (hr:(execOp a.eval o).run P w= .ok (.enter f args) w) (hc:Calls P f args w R)
 (hR:∀e w',R e w'->∃v,e= .returned v/\H v w'/\Below w.heap.size w w') (hcl:∀v,Cl (H v)) (hg:o.guard=none) (hd:o.dst=some d) (hlt:Nat.blt d nt=true) (hf:bz d L=true)
 (k:∀v w' a',St W w' bs (H v::fs)->Fr nt a' ((d,v)::L)->wpS P ops Q rest a' w'):wpS P ops Q (o::rest) a w:=
 E.call hF hr hc hg hd hlt hf fun e w' r=>by
  obtain⟨v,he,h,bb⟩:=hR e w' r
  exact⟨v,he,fun a' hF'=>k v w' a' ((st.to bb).add h (hcl v)) hF'⟩
theorem S.callx {f:FuncId} {args:Array Value} {o:Oper} (st:St W w bs fs) (hF:Fr nt a L) (hr:(execOp a.eval o).run P w= .ok (.enter f args) w) (hc:Calls P f args w fun e w'=>e= .returned v/\Below w.heap.size w w') (hg:o.guard=none) (hd:o.dst=some d) (hlt:Nat.blt d nt=true) (hf:bz d L=true)
 (k:∀w' a',St W w' bs fs->Fr nt a' ((d,v)::L)->wpS P ops Q rest a' w'):wpS P ops Q (o::rest) a w:=
 E.call hF hr hc hg hd hlt hf fun e w' ⟨he,bb⟩=>⟨v,he,fun a' hF'=>k w' a' (st.to bb) hF'⟩
theorem S.callg {f:FuncId} {args:Array Value} {R:Ending->World->Prop} {H:Value->World->Prop} {o:Oper} (st:St W w bs fs) (hF:Fr nt a L) (hg:Region.wanted o (yielded ops a.tmps)=true) (hr:(execOp a.eval o).run P w= .ok (.enter f args) w) (hc:Calls P f args w R)
 (hR:∀e w',R e w'->∃v,e= .returned v/\H v w'/\Below w.heap.size w w') (hcl:∀v,Cl (H v)) (hd:o.dst=some d) (hlt:Nat.blt d nt=true) (hf:bz d L=true)
 (k:∀v w' a',St W w' bs (H v::fs)->Fr nt a' ((d,v)::L)->wpS P ops Q rest a' w'):wpS P ops Q (o::rest) a w:=
 E.callg hF hr hc hg hd hlt hf fun e w' r=>by
  obtain⟨v,he,h,bb⟩:=hR e w' r
  exact⟨v,he,fun a' hF'=>k v w' a' ((st.to bb).add h (hcl v)) hF'⟩
theorem S.callxg {f:FuncId} {args:Array Value} {o:Oper} (st:St W w bs fs) (hF:Fr nt a L) (hg:Region.wanted o (yielded ops a.tmps)=true) (hr:(execOp a.eval o).run P w= .ok (.enter f args) w) (hc:Calls P f args w fun e w'=>e= .returned v/\Below w.heap.size w w') (hd:o.dst=some d) (hlt:Nat.blt d nt=true) (hf:bz d L=true)
 (k:∀w' a',St W w' bs fs->Fr nt a' ((d,v)::L)->wpS P ops Q rest a' w'):wpS P ops Q (o::rest) a w:=
 E.callg hF hr hc hg hd hlt hf fun e w' ⟨he,bb⟩=>⟨v,he,fun a' hF'=>k w' a' (st.to bb) hF'⟩
theorem SR {Hs:List (World->Value->Prop)} {al:List Nat} {i:Nat} {N:Prop} {w':World} {B:Nat} (hT:Ty P T n zs) (hB:B<=w'.heap.size) (hH:Hs[i]?=some fun w v=>∃g,v= .pointer (some ⟨g,0,none⟩)/\B<=g/\Blk w g zs):
 if Region.wanted ⟨some d,.alloc T,ty,pos,af,none⟩ (yielded ops a.tmps)=true then bG P Q ⟨some d,.alloc T,ty,pos,af,none⟩ a w' (fun v w''=>Hat Hs i w'' v/\Below w'.heap.size w' w''/\(al.contains i=true->v= .pointer (some ⟨w'.heap.size,0,none⟩))) else N:=by
 obtain⟨g,w2,ge,hr,bb,on⟩:=jI (P:=P) (w:=w') (cs:=zs) (v:= .agg zs.toArray) T hT.z rfl
 subst ge
 exact bX (aR rfl) (bG.vals (dP hr) ⟨by unfold Hat;rw[hH];exact⟨_,rfl,hB,on⟩,bb,fun _=>rfl⟩)
theorem da0 {Hs:List (World->Value->Prop)} {al:List Nat} {i:Nat} {N:Prop} {w':World} {B:Nat} (hT:Ty P T n zs) (hc:zs.all cN=true) (hB:B<=w'.heap.size) (hH:Hs[i]?=some fun w v=>∃g,v= .pointer (some ⟨g,0,none⟩)/\B<=g/\Own w g zs):
 if Region.wanted ⟨some d,.alloc T,ty,pos,af,none⟩ (yielded ops a.tmps)=true then bG P Q ⟨some d,.alloc T,ty,pos,af,none⟩ a w' (fun v w''=>Hat Hs i w'' v/\Below w'.heap.size w' w''/\(al.contains i=true->v= .pointer (some ⟨w'.heap.size,0,none⟩))) else N:=by
 obtain⟨g,w2,ge,hr,bb,on⟩:=eo (P:=P) (w:=w') (cs:=zs) (v:= .agg zs.toArray) T hT.z rfl (cN.ni hc)
 subst ge
 exact bX (aR rfl) (bG.vals (dP hr) ⟨by unfold Hat;rw[hH];exact⟨_,rfl,hB,on⟩,bb,fun _=>rfl⟩)
theorem S.ret {fn:Func} {Ro:Ending->World->Prop} {s:Nat} (h:fn.results=#[.cell s T]) (st:St W w bs fs) (hF:Fr nt a L) (he:a.tmps.getD s undef= .pointer (some ⟨g,0,none⟩)) (i:Nat) (hb:bs[i]?=some (g,cs)) (hT:Ty P T n zs) (hn:cs.length=n) (hd:a.defers=[]) (hR:Ro (.returned (.agg cs.toArray)) w):bodyPost P fn Ro .ret a w:=
 bodyPost_ret (kN h he (bK hT (st.bk i hb) hn)) hd hR
end
end
end
end Go.Proofs.YtgdpkknapcgcbaaGreatDoor
