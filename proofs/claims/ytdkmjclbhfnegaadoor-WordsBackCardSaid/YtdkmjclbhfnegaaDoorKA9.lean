import Derived.Test.YtdkmjclbhfnegaaDoorKA3
import Derived.IntWalk
import Derived.Laws.StructEq
namespace Go.Proofs.YtdkmjclbhfnegaaDoor
open Go.RowKit
set_option maxRecDepth 100000
set_option linter.unusedVariables false
set_option maxHeartbeats 8000000
section
section
def Blk (w:World) (g:Nat) (cs:List Value):Prop:=∃T,w.heap[g]?=some (.cells cs.toArray T (0,0))
theorem Blk.lt {w:World} {g:Nat} {cs:List Value} (h:Blk w g cs):g<w.heap.size:=by
 obtain⟨T,h⟩:=h
 exact(Array.getElem?_eq_some_iff.1 h).1
theorem Blk.below {w w':World} {g:Nat} {cs:List Value} (h:Blk w g cs) (hb:Below w.heap.size w w'):Blk w' g cs:=by
 have hlt:=h.lt
 obtain⟨T,h⟩:=h
 exact⟨T,by rw[hb.block g hlt];exact h⟩
theorem Blk.range {w:World} {g:Nat} {cs:List Value} (h:Blk w g cs) (o:Nat) (vs:List Value) (hv:(cs.drop o).take vs.length=vs):w.rangeAt g o vs:=by
 obtain⟨T,h⟩:=h
 intro j v hj
 rw[cell_of_row w g (o+j) _ _ _ h,List.getElem?_toArray]
 have hlt:=(List.getElem?_eq_some_iff.1 hj).1
 rw[←hv] at hj
 rw[List.getElem?_take,if_pos hlt,List.getElem?_drop] at hj
 exact hj
section
variable {P:Program}
theorem blk_load {w:World} {g o n:Nat} {cs vs:List Value} {T:TypeId} {d:TypeDesc} (h:Blk w g cs) (hv:(cs.drop o).take n=vs) (hl:vs.length=n) (hu:P.underlying T=some d) (hd:d.isRow=true) (hi:(P.info? T).map (·.size)=some n):
 (Instr.loadAt T (.pointer (some ⟨g,o,none⟩))).run P w= .ok (.agg vs.toArray) w:=by
 subst hl
 exact run_loadAt_mid w g o T vs d (h.range o vs hv) hu hd hi
theorem cell_load1 {w:World} {g o:Nat} {v:Value} {T:TypeId} {d:TypeDesc} (hc:w.cell? ⟨g,o,none⟩=some v) (hu:P.underlying T=some d) (hd:d.isRow=false):
 (Instr.loadAt T (.pointer (some ⟨g,o,none⟩))).run P w= .ok v w:=by
 have hagg:(isAgg T).run P w= .ok false w:=by
  unfold isAgg
  rw[Sem.run_bind,run_underlying hu w]
  cases d <;> simp_all
 simp[Instr.loadAt,Instr.sureAddr,loadVar,Sem.run_bind,hagg,hc,go_sem]
theorem blk_load1 {w:World} {g o:Nat} {cs:List Value} {v:Value} {T:TypeId} {d:TypeDesc} (h:Blk w g cs) (hv:cs[o]?=some v) (hu:P.underlying T=some d) (hd:d.isRow=false):
 (Instr.loadAt T (.pointer (some ⟨g,o,none⟩))).run P w= .ok v w:=by
 obtain⟨T',h⟩:=h
 have hc:w.cell? ⟨g,o,none⟩=some v:=by rw[cell_of_row w g o _ _ _ h,List.getElem?_toArray];exact hv
 exact cell_load1 hc hu hd
theorem blk_store {w:World} {g o n:Nat} {cs vs ws:List Value} {T:TypeId} (h:Blk w g cs) (hi:(P.info? T).map (·.size)=some n) (hl:vs.length=n) (ho:Nat.ble (o+n) cs.length=true) (h1:∀v∈vs,v.oneCell'=true)
 (hw:cs.take o++vs++cs.drop (o+n)=ws):
 ∃w',(∀v:Value,v.cells=vs.toArray→(Instr.storeAt T (.pointer (some ⟨g,o,none⟩)) v).run P w= .ok () w')∧Turned g w w'∧Blk w' g ws:=by
 subst hl
 have hle:o+vs.length≤cs.length:=by simpa using ho
 obtain⟨T',hh⟩:=h
 refine⟨w.setRow g ws.toArray,?_,?_,?_⟩
 ·intro v hv
  have hst:=run_storeCells_at P g o T' vs 0 cs.toArray w hh (by simpa using hle) h1
  simp only [Nat.add_zero] at hst
  cases hq:P.info? T with
  |none=>simp[hq] at hi
  |some i=>
   have hs:vs.length=i.size:=by simp[hq] at hi;omega
   simp only [Instr.storeAt,Instr.sureAddr,Sem.run_bind,Sem.run_pure,Result.andThen_ok,storeVar,hv,sizeOf,typeInfo]
   simp[hs,hq]
   rw[hst,←hw]
 ·refine⟨rfl,rfl,rfl,?_,?_⟩
  ·simp[World.setRow]
  ·intro k hk
   simp only [World.setRow,Array.getElem?_modify]
   rw[if_neg (by omega)]
 ·exact⟨T',setRow_heap w g _ _ T' (0,0) hh⟩
theorem blk_new {w:World} {cs:List Value} (T:TypeId):Blk (w.alloc (.cells cs.toArray T)) w.heap.size cs∧Below w.heap.size w (w.alloc (.cells cs.toArray T)):=
 ⟨⟨T,heap_alloc_new w _⟩,(Below.refl _ _).alloc (Nat.le_refl _) _⟩
theorem blk_alloc {w:World} {cs:List Value} {v:Value} (T:TypeId) (hz:(P.info? T).bind (·.zero)=some v) (hv:v.cells=cs.toArray):
 ∃g w',w.heap.size=g∧(Instr.alloc T true (.tuple #[])).run P w= .ok (.pointer (some ⟨g,0,none⟩)) w'∧Below w.heap.size w w'∧Blk w' g cs:=by
 refine⟨w.heap.size,w.alloc (.cells cs.toArray T),rfl,?_,(blk_new T).2,(blk_new T).1⟩
 cases hq:P.info? T with
 |none=>simp[hq] at hz
 |some i=>
  have hz':i.zero=some v:=by simpa[hq] using hz
  have h0:(zeroValue T).run P w= .ok v w:=by simp[zeroValue,typeInfo,hq,hz',go_sem]
  simp only [Instr.alloc,Sem.run_bind,h0,Result.andThen_ok,newVar,hv]
  simp[newRow,go_sem]
end
section
variable {P:Program} {w:World}
theorem tmod_pos (a:Int) {b:Int} (_:0<b):a.tmod b=if 0≤a then a%b else -(-a%b):=by
 split
 ·rename_i h;exact Int.tmod_eq_emod_of_nonneg h
 ·rename_i h
  have:(-a).tmod b= -a%b:=Int.tmod_eq_emod_of_nonneg (by omega)
  rw[Int.neg_tmod] at this
  omega
theorem id_rem {t:TypeId} {a b:Int} (hb:0<b):(binOp .rem t (.int .i64 a) (.int .i64 b)).run P w= .ok (.int .i64 (if 0≤a then a%b else -(-a%b))) w:=by
 have hne:b≠0:=by omega
 simp only [binOp,Op.intDiv,ne_eq,not_true_eq_false,if_false,if_neg hne]
 rw[tmod_pos a hb]
 rfl
theorem id_remn {t:TypeId} {a b:Int} (hb:0<b) (ha:0≤a):(binOp .rem t (.int .i64 a) (.int .i64 b)).run P w= .ok (.int .i64 (a%b)) w:=by
 rw[id_rem hb,if_pos ha]
theorem id_and {t:TypeId} {a:Int} {n:Nat} (hn:n<63) {d m:Int} (hd:(2:Int)^n=d) (hm:d-1=m):(binOp .and t (.int .i64 a) (.int .i64 m)).run P w= .ok (.int .i64 (a%d)) w:=by
 subst hd hm
 have hp:(2:Int)^n=((2^n:Nat):Int):=by simp
 have h1:(1:Nat)≤2^n:=Nat.one_le_two_pow
 have h2:(2:Nat)^n≤2^62:=Nat.pow_le_pow_right (by decide) (by omega)
 have e:(BitVec.ofInt 64 a &&& BitVec.ofInt 64 ((2:Int)^n-1)).toNat =(a%2^n).toNat :=by
  rw[BitVec.toNat_and,BitVec.toNat_ofInt,BitVec.toNat_ofInt]
  have e1:(((2:Int)^n-1)%((2^64:Nat):Int)).toNat =2^n-1:=by rw[hp];omega
  rw[e1,Nat.and_two_pow_sub_one_eq_mod]
  have hd:((2^n:Nat):Int) ∣ ((2^64:Nat):Int):=by
   refine Int.natCast_dvd_natCast.2 (Nat.pow_dvd_pow 2 (by omega))
  have e2:(a%((2^64:Nat):Int))%((2^n:Nat):Int)=a%((2^n:Nat):Int):=Int.emod_emod_of_dvd a hd
  have nn:=Int.emod_nonneg a (by decide:((2^64:Nat):Int)≠0)
  rw[hp,←e2]
  generalize a%((2^64:Nat):Int)=x at*
  obtain⟨y,rfl⟩:=Int.eq_ofNat_of_zero_le nn
  rw[Int.toNat_natCast,←Int.natCast_emod,Int.toNat_natCast]
 have b1:=Int.emod_nonneg a (show(2:Int)^n≠0 by rw[hp];omega)
 have b2:=Int.emod_lt_of_pos a (show 0<(2:Int)^n by rw[hp];omega)
 show(pure (.int .i64 (IntKind.i64.wrap (((BitVec.ofInt 64 a &&& BitVec.ofInt 64 ((2:Int)^n-1)).toNat :Nat):Int))):Sem Value).run P w=_
 rw[e,show(((a%2^n).toNat :Nat):Int)=a%2^n from Int.toNat_of_nonneg b1]
 rw[show IntKind.i64.wrap (a%2^n)=a%2^n from IntWalk.i64_in _ ⟨by omega,by rw[hp] at*;omega⟩]
 rfl
theorem bl_max {t:TypeId} {ts:Array TypeId} {cs:Array Bool} {a b:Int}:(builtin .max ts t cs #[.int .i64 a,.int .i64 b]).run P w= .ok (.value (.int .i64 (max a b))) w:=by
 have e:(if a<b then b else a)=max a b:=by omega
 simp[Builtin.max_,Builtin.max2,e,go_sem]
theorem dec_tt {p:Prop} [Decidable p] (h:p):decide p=true:=decide_eq_true h
theorem dec_ff {p:Prop} [Decidable p] (h:¬p):decide p=false:=decide_eq_false h
end
def ValPost (w:World) (v:Value):Ending→World→Prop:=fun e w'=>e= .returned v∧Below w.heap.size w w'
end
section
end
section
section
variable {P:Program} {ops:Array Oper} {Q:Exit→Act→World→Prop} {o:Oper} {a:Act} {w:World} {v:Value} {Hs:List (World→Value→Prop)} {al:List Nat} {i:Nat} {N:Prop} {f:FuncId} {args:Array Value} {H:World→Value→Prop} {Z:Nat→List Value}
theorem no_al {C:Prop} (h:al.contains i=false):al.contains i=true→C:=fun e=>by rw[h] at e;cases e
theorem dv1 (hw:Region.wanted o (yielded ops a.tmps)=true) (hr:(execOp a.eval o).run P w= .ok (.value v) w) (h:Hat Hs i w v) (ha:al.contains i=false):
 if Region.wanted o (yielded ops a.tmps)=true then Does P Q o a w (fun v w'=>Hat Hs i w' v∧Below w.heap.size w w'∧(al.contains i=true→v= .pointer (some ⟨w.heap.size,0,none⟩))) else N:=
 if_does hw (Does.vals hr ⟨h,Below.refl _ _,no_al ha⟩)
theorem dv0 (hr:(execOp a.eval o).run P w= .ok (.value v) w) (h:Hat Hs i w v) (ha:al.contains i=false) (hg:o.guard=none):
 if Region.wanted o (yielded ops a.tmps)=true then Does P Q o a w (fun v w'=>Hat Hs i w' v∧Below w.heap.size w w'∧(al.contains i=true→v= .pointer (some ⟨w.heap.size,0,none⟩))) else N:=dv1 (wanted_free hg) hr h ha
variable {ds:List Nat} {ds2:List (Option Nat)} {x:Value}
theorem hat_at {H:World→Value→Prop} (hH:Hs[i]?=some H) (h:Hat Hs i w v):H w v:=by
 unfold Hat at h;rw[hH] at h;exact h
theorem sSe (hall:∀(i s:Nat),ds[i]?=some s→Hat Hs i w (a.tmps.getD s undef)) (i s:Nat) (hs:ds[i]?=some s) (hH:Hs[i]?=some fun _ v=>v=x):a.tmps.getD s undef=x:=hat_at hH (hall i s hs)
theorem sHe {e:Edge} (hd:∀(e:Edge) (s:Nat),e∈o.after→Region.binds .any e=true→ds[e.on]?=some s→Hat Hs e.on w (a.tmps.getD s undef)) (p s:Nat) (he:o.after[p]?=some e) (hb:Region.binds .any e=true) (hs:ds[e.on]?=some s) (hH:Hs[e.on]?=some fun _ v=>v=x):a.tmps.getD s undef=x:=hat_at hH (hd e s (Array.mem_of_getElem? he) hb hs)
end
end
section
def Cl (P:World→Prop):Prop:=∀w w',P w→Keep w w'→P w'
def cellOk:Value→Bool
 | .bool _=>true
 | .slice _ _ _=>true
 |_=>false
theorem cellOk.oc {cs:List Value} (h:cs.all cellOk=true):∀v∈cs,v.oneCell'=true:=by
 intro v hv
 have:=List.all_eq_true.1 h v hv
 cases v <;> first|(cases this;done)|rfl
structure St (W w:World) (bs:List (Nat×List Value)) (fs:List (World→Prop)):Prop where
 bel:Below W.heap.size W w
 own:∀p∈bs,Blk w p.1 p.2
 low:∀p∈bs,W.heap.size≤p.1
 apart:bs.Pairwise fun p q=>p.1≠q.1
 facts:∀F∈fs,F w
 cl:∀F∈fs,Cl F
section
variable {W w w':World} {bs:List (Nat×List Value)} {fs:List (World→Prop)}
theorem St.start (w:World):St w w [] []:=⟨Below.refl _ _,(fun _ h=>by cases h),(fun _ h=>by cases h),List.Pairwise.nil,(fun _ h=>by cases h),(fun _ h=>by cases h)⟩
theorem St.bk (st:St W w bs fs) (i:Nat) {g:Nat} {cs:List Value} (h:bs[i]?=some (g,cs)):Blk w g cs:=st.own _ (List.mem_of_getElem? h)
theorem St.to (st:St W w bs fs) (hb:Below w.heap.size w w'):St W w' bs fs:=
 ⟨below_to st.bel hb,fun p hp=>(st.own p hp).below hb,st.low,st.apart,fun F hF=>st.cl F hF w w' (st.facts F hF) (Below.keep hb),st.cl⟩
theorem St.push (st:St W w bs fs) {g:Nat} {cs:List Value} (ho:Blk w g cs) (hg:W.heap.size≤g) (hne:∀p∈bs,p.1≠g):St W w ((g,cs)::bs) fs:=
 ⟨st.bel,(fun p hp=>by rcases List.mem_cons.1 hp with rfl|hp;exact ho;exact st.own p hp),(fun p hp=>by rcases List.mem_cons.1 hp with rfl|hp;exact hg;exact st.low p hp),
  List.pairwise_cons.2 ⟨fun p hp e=>hne p hp e.symm,st.apart⟩,st.facts,st.cl⟩
theorem St.ne (st:St W w bs fs) {g:Nat} (hg:w.heap.size≤g):∀p∈bs,p.1≠g:=fun p hp e=>by have:=(st.own p hp).lt;omega
theorem St.new (st:St W w bs fs) {cs:List Value} {g:Nat} (hg:w.heap.size=g) (hb:Below w.heap.size w w') (ho:Blk w' g cs):St W w' ((g,cs)::bs) fs:=
 (st.to hb).push ho (by rw[←hg];exact st.bel.size) (st.ne (by omega))
theorem St.pick (st:St W w bs fs) (is js:List Nat) {bs':List (Nat×List Value)} {fs':List (World→Prop)} (hb:is.map (bs[·]?)=bs'.map some) (hf:js.map (fs[·]?)=fs'.map some) (hn:is.Pairwise fun a b=>a≠b):St W w bs' fs':=by
 have mb:∀(k:Nat) p,bs'[k]?=some p→∃i,is[k]?=some i∧bs[i]?=some p:=by
  intro k p hp
  have h1:(bs'.map some)[k]?=some (some p):=by rw[List.getElem?_map,hp];rfl
  rw[←hb,List.getElem?_map] at h1
  cases hq:is[k]? with
  |none=>rw[hq] at h1;cases h1
  |some i=>rw[hq] at h1;exact⟨i,rfl,by simpa using h1⟩
 have mf:∀F∈fs',F∈fs:=by
  intro F hF
  have h1:some F∈fs'.map some:=List.mem_map_of_mem hF
  rw[←hf] at h1
  obtain⟨j,_,hj⟩:=List.mem_map.1 h1
  exact List.mem_of_getElem? hj
 have mm:∀p∈bs',p∈bs:=fun p hp=>by
  obtain⟨k,hk⟩:=List.mem_iff_getElem?.1 hp
  obtain⟨i,_,hi⟩:=mb k p hk
  exact List.mem_of_getElem? hi
 refine⟨st.bel,fun p hp=>st.own p (mm p hp),fun p hp=>st.low p (mm p hp),?_,fun F hF=>st.facts F (mf F hF),fun F hF=>st.cl F (mf F hF)⟩
 rw[List.pairwise_iff_getElem]
 intro x y hx hy hxy
 obtain⟨i,hi,hi'⟩:=mb x _ (List.getElem?_eq_getElem hx)
 obtain⟨j,hj,hj'⟩:=mb y _ (List.getElem?_eq_getElem hy)
 have hij:i≠j:=by
  obtain⟨a,ea⟩:=List.getElem?_eq_some_iff.1 hi
  obtain⟨b,eb⟩:=List.getElem?_eq_some_iff.1 hj
  rw[←ea,←eb]
  exact List.pairwise_iff_getElem.1 hn x y a b hxy
 obtain⟨a,ea⟩:=List.getElem?_eq_some_iff.1 hi'
 obtain⟨b,eb⟩:=List.getElem?_eq_some_iff.1 hj'
 rw[←ea,←eb]
 rcases Nat.lt_or_gt_of_ne hij with h|h
 ·exact List.pairwise_iff_getElem.1 st.apart i j a b h
 ·exact fun e=>List.pairwise_iff_getElem.1 st.apart j i b a h e.symm
end
theorem Fr.pick {nt:Nat} {a:Act} {L L':List (Nat×Value)} (h:Fr nt a L) (is:List Nat) (e:is.map (L[·]?)=L'.map some):Fr nt a L':=
 h.sub fun p hp=>by
  have h1:some p∈L'.map some:=List.mem_map_of_mem hp
  rw[←e] at h1
  obtain⟨j,_,hj⟩:=List.mem_map.1 h1
  exact List.mem_of_getElem? hj
structure Ty (P:Program) (T:TypeId) (n:Nat) (z:List Value):Prop where
 u:∃d,P.underlying T=some d∧d.isRow=true
 s:(P.info? T).map (·.size)=some n
 z:(P.info? T).bind (·.zero)=some (.agg z.toArray)
section
variable {P:Program} {ops:Array Oper} {Q:Exit→Act→World→Prop} {W w:World} {bs:List (Nat×List Value)} {fs:List (World→Prop)} {nt d:Nat} {L:List (Nat×Value)} {rest:List Oper} {a:Act} {T:TypeId} {x y:Operand} {v:Value} {cs vs zs:List Value} {g n:Nat} {ty:TypeId} {pos:String} {af:Array Edge}
theorem S.alloc (st:St W w bs fs) (hF:Fr nt a L) (hT:Ty P T n zs) (hlt:Nat.blt d nt=true) (hf:freshIn d L=true)
 (k:∀g w' a',St W w' ((g,zs)::bs) fs→Fr nt a' ((d,.pointer (some ⟨g,0,none⟩))::L)→wpS P ops Q rest a' w'):wpS P ops Q (⟨some d,.alloc T,ty,pos,af,none⟩::rest) a w:=by
 obtain⟨g,w1,ge,hr,bb,o⟩:=blk_alloc (P:=P) (w:=w) (cs:=zs) (v:= .agg zs.toArray) T hT.z rfl
 exact E.opv hF (r_alloc hr) rfl rfl hlt hf fun a' hF'=>k g w1 a' (st.new ge bb o) hF'
theorem ld_all (hT:Ty P T n zs) (ho:Blk w g cs) (hn:cs.length=n):(Instr.loadAt T (.pointer (some ⟨g,0,none⟩))).run P w= .ok (.agg cs.toArray) w:=by
 obtain⟨d,hu,hd⟩:=hT.u
 exact blk_load ho (by rw[List.drop_zero,←hn,List.take_length]) hn hu hd hT.s
theorem S.callx {f:FuncId} {args:Array Value} {o:Oper} (st:St W w bs fs) (hF:Fr nt a L) (hr:(execOp a.eval o).run P w= .ok (.enter f args) w) (hc:Calls P f args w fun e w'=>e= .returned v∧Below w.heap.size w w') (hg:o.guard=none) (hd:o.dst=some d) (hlt:Nat.blt d nt=true) (hf:freshIn d L=true)
 (k:∀w' a',St W w' bs fs→Fr nt a' ((d,v)::L)→wpS P ops Q rest a' w'):wpS P ops Q (o::rest) a w:=
 E.call hF hr hc hg hd hlt hf fun e w' ⟨he,bb⟩=>⟨v,he,fun a' hF'=>k w' a' (st.to bb) hF'⟩
theorem S.callxg {f:FuncId} {args:Array Value} {o:Oper} (st:St W w bs fs) (hF:Fr nt a L) (hg:Region.wanted o (yielded ops a.tmps)=true) (hr:(execOp a.eval o).run P w= .ok (.enter f args) w) (hc:Calls P f args w fun e w'=>e= .returned v∧Below w.heap.size w w') (hd:o.dst=some d) (hlt:Nat.blt d nt=true) (hf:freshIn d L=true)
 (k:∀w' a',St W w' bs fs→Fr nt a' ((d,v)::L)→wpS P ops Q rest a' w'):wpS P ops Q (o::rest) a w:=
 E.callg hF hr hc hg hd hlt hf fun e w' ⟨he,bb⟩=>⟨v,he,fun a' hF'=>k w' a' (st.to bb) hF'⟩
end
end
end
end Go.Proofs.YtdkmjclbhfnegaaDoor
