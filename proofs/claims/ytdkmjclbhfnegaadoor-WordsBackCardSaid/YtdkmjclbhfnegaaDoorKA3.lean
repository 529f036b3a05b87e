import Derived.Test.YtdkmjclbhfnegaaDoorKA2
import Derived.Deep.MidRow
import Derived.Laws.CopyRow
import Derived.Laws.Small
import Derived.IntWalk
import Derived.Test.YtdkmjclbhfnegaaDoorRows
namespace Go.Proofs.YtdkmjclbhfnegaaDoor
open Go.RowKit
set_option maxRecDepth 100000
set_option linter.unusedVariables false
set_option maxHeartbeats 8000000
section
section
structure Fr (nt:Nat) (a:Act) (L:List (Nat×Value)):Prop where
 size:a.tmps.size=nt
 dfr:a.defers=[]
 all:∀p∈L,a.tmps.getD p.1 undef=p.2
def freshIn (d:Nat) (L:List (Nat×Value)):Bool:=L.all fun p=>!(Nat.beq p.1 d)
theorem Fr.at {nt:Nat} {a:Act} {L:List (Nat×Value)} (h:Fr nt a L) (k:Nat) {s:Nat} {v:Value} (e:L[k]?=some (s,v)):a.tmps.getD s undef=v:=
 h.all (s,v) (List.mem_of_getElem? e)
theorem getD_put_same {a:Act} {d:Nat} {v:Value} (h:d<a.tmps.size):(a.put (some d) v).tmps.getD d undef=v:=by
 simp[Act.put,h]
theorem getD_put_ne {a:Act} {d s:Nat} {v:Value} (h:d≠s):(a.put (some d) v).tmps.getD s undef=a.tmps.getD s undef:=by
 simp[Act.put,Array.getElem?_setIfInBounds_ne h]
theorem Fr.put {nt:Nat} {a:Act} {L:List (Nat×Value)} (h:Fr nt a L) {d:Nat} {v:Value} (hd:Nat.blt d nt=true) (hf:freshIn d L=true):Fr nt (a.put (some d) v) ((d,v)::L):=by
 have hlt:d<nt:=by simpa using hd
 refine⟨by simp[Act.put,h.size],h.dfr,fun p hp=>?_⟩
 rcases List.mem_cons.1 hp with rfl|hp
 ·exact getD_put_same (by rw[h.size];exact hlt)
 ·have hne:d≠p.1:=by
   unfold freshIn at hf
   rw[List.all_eq_true] at hf
   have:=hf p hp
   intro e
   simp[e] at this
  rw[getD_put_ne hne]
  exact h.all p hp
theorem Fr.set {nt:Nat} {a:Act} {L:List (Nat×Value)} (h:Fr nt a L) {d:Nat} {v:Value} (hd:Nat.blt d nt=true):Fr nt (a.put (some d) v) ((d,v)::L.filter fun p=>!(Nat.beq p.1 d)):=by
 have h2:Fr nt a (L.filter fun p=>!(Nat.beq p.1 d)):=⟨h.size,h.dfr,fun p hp=>h.all p (List.mem_filter.1 hp).1⟩
 refine h2.put hd ?_
 unfold freshIn
 rw[List.all_eq_true]
 intro p hp
 exact(List.mem_filter.1 hp).2
theorem Fr.sub {nt:Nat} {a:Act} {L L':List (Nat×Value)} (h:Fr nt a L) (hs:∀p∈L',p∈L):Fr nt a L':=⟨h.size,h.dfr,fun p hp=>h.all p (hs p hp)⟩
theorem Fr.add {nt:Nat} {a:Act} {L:List (Nat×Value)} (h:Fr nt a L) {d:Nat} {v:Value} (e:a.tmps.getD d undef=v):Fr nt a ((d,v)::L):=by
 refine⟨h.size,h.dfr,fun p hp=>?_⟩
 rcases List.mem_cons.1 hp with rfl|hp
 ·exact e
 ·exact h.all p hp
theorem Fr.enter {nt n:Nat} {args:Array Value} {L:List (Nat×Value)} (hn:args.size+n=nt) (hL:∀p∈L,args[p.1]?=some p.2):Fr nt {tmps:=args++Array.replicate n undef,defers:=[]} L:=by
 refine⟨by simp;omega,rfl,fun p hp=>?_⟩
 have h:=hL p hp
 have hlt:p.1<args.size:=(Array.getElem?_eq_some_iff.1 h).1
 rw[Array.getD_eq_getD_getElem?,Array.getElem?_append_left hlt,h]
 rfl
section
variable {P:Program} {ops:Array Oper} {Q:Exit→Act→World→Prop}
def Does (P:Program) (Q:Exit→Act→World→Prop) (o:Oper) (a:Act) (w:World) (R:Value→World→Prop):Prop:=
 ∀K:Act→World→Prop,(∀v w',R v w'→K (a.put o.dst v) w')→Oper.wp P o a w K Q
theorem Does.val {o:Oper} {a:Act} {w w':World} {v:Value} (hr:(execOp a.eval o).run P w= .ok (.value v) w'):Does P Q o a w (fun x y=>x=v∧y=w'):=by
 intro K hK
 unfold Oper.wp
 rw[hr]
 exact hK v w' ⟨rfl,rfl⟩
theorem Does.call {o:Oper} {a:Act} {w:World} {f:FuncId} {args:Array Value} {R:Value→World→Prop} (hr:(execOp a.eval o).run P w= .ok (.enter f args) w)
 (hc:Calls P f args w fun e w'=>∃v,e= .returned v∧R v w'):Does P Q o a w R:=by
 intro K hK
 unfold Oper.wp
 rw[hr]
 refine hc.mono ?_
 rintro e w' ⟨v,rfl,h⟩
 exact hK v w' h
def wpS (P:Program) (ops:Array Oper) (Q:Exit→Act→World→Prop):List Oper→Act→World→Prop
 |[],a,w=>Q .normal a w
 |o::rest,a,w=>if Region.wanted o (yielded ops a.tmps)=true then Oper.wp P o a w (wpS P ops Q rest) Q else wpS P ops Q rest (a.put o.dst undef) w
theorem wpS.list:∀(l:List Oper) (a:Act) (w:World),wpS P ops Q l a w→wpList P ops Q l a w
 |[],_,_,h=>h
 |o::rest,a,w,h=>by
  unfold wpS at h
  refine wpList_step fun K hK=>?_
  split
  ·rename_i hw
   rw[if_pos hw] at h
   exact Oper.wp_mono (fun a w h=>hK a w (wpS.list rest a w h)) h
  ·rename_i hw
   rw[if_neg hw] at h
   exact hK _ _ (wpS.list rest _ _ h)
theorem wpS_plain {o:Oper} {rest:List Oper} {a:Act} {w:World} (hg:o.guard=none) (h:Oper.wp P o a w (wpS P ops Q rest) Q):wpS P ops Q (o::rest) a w:=by
 unfold wpS
 rw[if_pos (by simp[Region.wanted,hg])]
 exact h
theorem E.seq {id:Nat} {l:List Oper} {a:Act} {w:World} (h:wpS P l.toArray Q l a w):(Code.region id l.toArray false).wp P Q a w:=
 wp_region_lit (wpS.list _ _ _ h)
theorem E.op {nt d:Nat} {L:List (Nat×Value)} {rest:List Oper} {o:Oper} {a:Act} {w:World} {R:Value→World→Prop} (hF:Fr nt a L) (hD:Does P Q o a w R) (hg:o.guard=none) (hd:o.dst=some d) (hlt:Nat.blt d nt=true) (hf:freshIn d L=true)
 (h:∀v a' w',R v w'→Fr nt a' ((d,v)::L)→wpS P ops Q rest a' w'):wpS P ops Q (o::rest) a w:=
 wpS_plain hg (hD _ fun v w' r=>h v _ w' r (by rw[hd];exact hF.put hlt hf))
theorem E.opv {nt d:Nat} {L:List (Nat×Value)} {rest:List Oper} {o:Oper} {a:Act} {w w':World} {v:Value} (hF:Fr nt a L) (hr:(execOp a.eval o).run P w= .ok (.value v) w') (hg:o.guard=none) (hd:o.dst=some d) (hlt:Nat.blt d nt=true) (hf:freshIn d L=true)
 (h:∀a',Fr nt a' ((d,v)::L)→wpS P ops Q rest a' w'):wpS P ops Q (o::rest) a w:=
 E.op hF (Does.val hr) hg hd hlt hf fun v' a' w' ⟨e1,e2⟩ hF'=>by subst e1;subst e2;exact h a' hF'
theorem E.opset {nt d:Nat} {L L':List (Nat×Value)} {rest:List Oper} {o:Oper} {a:Act} {w w':World} {v:Value} (hF:Fr nt a L) (hr:(execOp a.eval o).run P w= .ok (.value v) w') (hg:o.guard=none) (hd:o.dst=some d) (hlt:Nat.blt d nt=true) (hL:(d,v)::L.filter (fun p=>!(Nat.beq p.1 d))=L')
 (h:∀a',Fr nt a' L'→wpS P ops Q rest a' w'):wpS P ops Q (o::rest) a w:=
 wpS_plain hg (by
  unfold Oper.wp
  rw[hr]
  refine h _ ?_
  rw[←hL,hd]
  exact hF.set hlt)
theorem E.st {nt:Nat} {L:List (Nat×Value)} {rest:List Oper} {o:Oper} {a:Act} {w w':World} (hF:Fr nt a L) (hr:(execOp a.eval o).run P w= .ok .skip w') (hg:o.guard=none) (hd:o.dst=none)
 (h:∀a',Fr nt a' L→wpS P ops Q rest a' w'):wpS P ops Q (o::rest) a w:=
 wpS_plain hg (by
  unfold Oper.wp
  rw[hr]
  refine h _ ?_
  rw[hd]
  exact hF)
theorem E.call {nt d:Nat} {L:List (Nat×Value)} {rest:List Oper} {o:Oper} {a:Act} {w:World} {f:FuncId} {args:Array Value} {R:Ending→World→Prop} (hF:Fr nt a L) (hr:(execOp a.eval o).run P w= .ok (.enter f args) w) (hc:Calls P f args w R) (hg:o.guard=none) (hd:o.dst=some d) (hlt:Nat.blt d nt=true) (hf:freshIn d L=true)
 (h:∀e w',R e w'→∃v,e= .returned v∧∀a',Fr nt a' ((d,v)::L)→wpS P ops Q rest a' w'):wpS P ops Q (o::rest) a w:=
 E.op (R:=fun v w'=>∀a',Fr nt a' ((d,v)::L)→wpS P ops Q rest a' w') hF (Does.call hr (hc.mono fun e w' r=>h e w' r)) hg hd hlt hf fun _ a' _ k hF'=>k a' hF'
theorem Does.calls {o:Oper} {a:Act} {w:World} {f:FuncId} {args:Array Value} {R:Ending→World→Prop} {S:Value→World→Prop} (hr:(execOp a.eval o).run P w= .ok (.enter f args) w) (hc:Calls P f args w R)
 (h:∀e w',R e w'→∃v,e= .returned v∧S v w'):Does P Q o a w S:=Does.call hr (hc.mono fun e w' r=>h e w' r)
theorem Does.vals {o:Oper} {a:Act} {w w':World} {v:Value} {S:Value→World→Prop} (hr:(execOp a.eval o).run P w= .ok (.value v) w') (h:S v w'):Does P Q o a w S:=
 fun K hK=>(Does.val hr) K fun x y ⟨e1,e2⟩=>hK x y (by subst e1;subst e2;exact h)
theorem wpS_wanted {o:Oper} {rest:List Oper} {a:Act} {w:World} (hg:Region.wanted o (yielded ops a.tmps)=true) (h:Oper.wp P o a w (wpS P ops Q rest) Q):wpS P ops Q (o::rest) a w:=by
 unfold wpS
 rw[if_pos hg]
 exact h
theorem E.opvg {nt d:Nat} {L:List (Nat×Value)} {rest:List Oper} {o:Oper} {a:Act} {w w':World} {v:Value} (hF:Fr nt a L) (hr:(execOp a.eval o).run P w= .ok (.value v) w') (hg:Region.wanted o (yielded ops a.tmps)=true) (hd:o.dst=some d) (hlt:Nat.blt d nt=true) (hf:freshIn d L=true)
 (h:∀a',Fr nt a' ((d,v)::L)→wpS P ops Q rest a' w'):wpS P ops Q (o::rest) a w:=
 wpS_wanted hg ((Does.val hr) _ fun v' w' ⟨e1,e2⟩=>by subst e1;subst e2;rw[hd];exact h _ (hF.put hlt hf))
theorem E.callg {nt d:Nat} {L:List (Nat×Value)} {rest:List Oper} {o:Oper} {a:Act} {w:World} {f:FuncId} {args:Array Value} {R:Ending→World→Prop} (hF:Fr nt a L) (hr:(execOp a.eval o).run P w= .ok (.enter f args) w) (hc:Calls P f args w R) (hg:Region.wanted o (yielded ops a.tmps)=true) (hd:o.dst=some d) (hlt:Nat.blt d nt=true) (hf:freshIn d L=true)
 (h:∀e w',R e w'→∃v,e= .returned v∧∀a',Fr nt a' ((d,v)::L)→wpS P ops Q rest a' w'):wpS P ops Q (o::rest) a w:=
 wpS_wanted hg (Does.call (R:=fun v w'=>∀a',Fr nt a' ((d,v)::L)→wpS P ops Q rest a' w') hr (hc.mono fun e w' r=>h e w' r) _ fun v w' k=>by rw[hd];exact k _ (hF.put hlt hf))
theorem E.unwanted {nt d:Nat} {L:List (Nat×Value)} {rest:List Oper} {o:Oper} {a:Act} {w:World} (hF:Fr nt a L) (hg:Region.wanted o (yielded ops a.tmps)=false) (hd:o.dst=some d) (hlt:Nat.blt d nt=true) (hf:freshIn d L=true)
 (h:∀a',Fr nt a' ((d,undef)::L)→wpS P ops Q rest a' w):wpS P ops Q (o::rest) a w:=by
 unfold wpS
 rw[if_neg (by rw[hg];decide),hd]
 exact h _ (hF.put hlt hf)
theorem if_does {o:Oper} {a:Act} {w:World} {S:Value→World→Prop} {N:Prop} (hw:Region.wanted o (yielded ops a.tmps)=true) (h:Does P Q o a w S):if Region.wanted o (yielded ops a.tmps)=true then Does P Q o a w S else N:=by
 rw[if_pos hw];exact h
theorem wanted_free {o:Oper} {a:Act} (hg:o.guard=none):Region.wanted o (yielded ops a.tmps)=true:=by simp[Region.wanted,hg]
theorem yielded_of {a:Act} {j s:Nat} {b:Bool} (hd:(ops[j]?).bind (·.dst)=some s) (h:a.tmps.getD s undef= .bool b):yielded ops a.tmps j=some b:=by
 unfold yielded
 rw[hd,Option.bind_some]
 rw[Array.getD_eq_getD_getElem?] at h
 cases hs:a.tmps[s]? with
 |none=>rw[hs] at h;cases h
 |some v=>rw[hs] at h;simp only [Option.getD_some] at h;subst h;rfl
theorem wanted_by {o:Oper} {a:Act} {j s:Nat} {b c:Bool} (hg:o.guard=some (j,c)) (hd:(ops[j]?).bind (·.dst)=some s) (h:a.tmps.getD s undef= .bool b) {r:Bool} (hr:(b == c)=r):Region.wanted o (yielded ops a.tmps)=r:=by
 unfold Region.wanted
 rw[hg]
 simp only [yielded_of hd h]
 cases b <;> cases c <;> simp_all
theorem E.norm {a:Act} {w:World} {K:Act→World→Prop} {Q':Exit→Act→World→Prop} (h:K a w):Exit.then K Q' .normal a w:=h
theorem E.enter {f:FuncId} {fn:Func} {c:Code} {args:Array Value} {w:World} {R:Ending→World→Prop} {nt n:Nat} {L:List (Nat×Value)} (hf:P.funcs[f]?=some fn) (hb:fn.body=some c) (hn:fn.ntmps-args.size=n) (hs:args.size+n=nt) (hL:∀p∈L,args[p.1]?=some p.2)
 (h:∀a,Fr nt a L→c.wp P (bodyPost P fn R) a w):Calls P f args w R:=by
 refine calls_of_wp hf hb (h _ ?_)
 rw[hn]
 exact Fr.enter hs hL
theorem args_nil {args:Array Value}:∀p∈([]:List (Nat×Value)),args[p.1]?=some p.2:=fun _ h=>by cases h
theorem args_cons {args:Array Value} {L:List (Nat×Value)} {i:Nat} {v:Value} (h:args[i]?=some v) (hL:∀p∈L,args[p.1]?=some p.2):∀p∈(i,v)::L,args[p.1]?=some p.2:=by
 intro p hp
 rcases List.mem_cons.1 hp with rfl|hp
 ·exact h
 ·exact hL p hp
theorem res_tmp {fn:Func} {a:Act} {w:World} {t:Tmp} {v:Value} (h:fn.results=#[.tmp t]) (ha:a.tmps.getD t undef=v):(results fn a.tmps).run P w= .ok v w:=by
 rw[results_tmp h,ha]
theorem res_tmp2 {fn:Func} {a:Act} {w:World} {t u:Tmp} {v x:Value} (h:fn.results=#[.tmp t,.tmp u]) (ha:a.tmps.getD t undef=v) (hx:a.tmps.getD u undef=x):(results fn a.tmps).run P w= .ok (.tuple #[v,x]) w:=by
 rw[results_tmp2 h,ha,hx]
theorem res_cell {fn:Func} {a:Act} {w:World} {t:Tmp} {T:TypeId} {p:Addr} {v:Value} (h:fn.results=#[.cell t T]) (ha:a.tmps.getD t undef= .pointer (some p)) (hl:(Instr.loadAt T (.pointer (some p))).run P w= .ok v w):(results fn a.tmps).run P w= .ok v w:=by
 have hl':(loadVar T p).run P w= .ok v w:=hl
 have e:(asAddr (a.tmps.getD t undef)).run P w= .ok p w:=by rw[ha];rfl
 simp only [results,h,List.mapM_toArray,List.mapM_cons,List.mapM_nil,Sem.run_bind,e,Result.andThen_ok,hl',Sem.run_pure,Sem.run_map]
 rfl
theorem map0 {a:Act}:(#[]:Array Operand).map a.eval=#[]:=by simp
theorem map1 {a:Act} {x:Operand} {u:Value} (h:a.eval x=u):#[x].map a.eval=#[u]:=by simp[h]
theorem map2 {a:Act} {x y:Operand} {u v:Value} (h:a.eval x=u) (k:a.eval y=v):#[x,y].map a.eval=#[u,v]:=by simp[h,k]
theorem pair1 {a:Act} {i:Nat} {x:Operand} {u:Value} (h:a.eval x=u):(#[(i,x)].map fun(p:Nat×Operand)=>(p.1,a.eval p.2))=#[(i,u)]:=by simp[h]
theorem E.nil {a:Act} {w:World} {K:Act→World→Prop} {Q':Exit→Act→World→Prop} (h:K a w):wpS P ops (Exit.then K Q') [] a w:=h
theorem run_v {w w':World} {s:Sem Value} {v:Value} (h:s.run P w= .ok v w'):(do pure (.value (←s)):Sem Next).run P w= .ok (.value v) w':=by
 rw[Sem.run_bind,h];rfl
theorem run_u {w w':World} {s:Sem Unit} (h:s.run P w= .ok () w'):(do s;pure .skip :Sem Next).run P w= .ok .skip w':=by
 rw[Sem.run_bind,h];rfl
theorem ev_c {a:Act} {v:Value}:a.eval (.const v)=v:=rfl
variable {a:Act} {w:World} {dst:Option Tmp} {ty:TypeId} {pos:String} {af:Array Edge} {gd:Option (Nat×Bool)}
theorem r_move {x:Operand} {v:Value} (h:a.eval x=v):(execOp a.eval ⟨dst,.move x,ty,pos,af,gd⟩).run P w= .ok (.value v) w:=by
 rw[←h];rfl
theorem r_assign {x:Operand} {v:Value} (h:a.eval x=v):(execOp a.eval ⟨dst,.assign x,ty,pos,af,gd⟩).run P w= .ok (.value v) w:=by
 rw[←h];rfl
theorem r_extract {x:Operand} {i:Nat} {vs:Array Value} {v:Value} (h:a.eval x= .tuple vs) (hv:vs[i]?=some v):(execOp a.eval ⟨dst,.extract x i,ty,pos,af,gd⟩).run P w= .ok (.value v) w:=by
 simp only [execOp,h]
 exact run_v (by simp[Instr.extract,hv,go_sem])
theorem r_pick_t {c x y:Operand} {v:Value} (hc:a.eval c= .bool true) (h:a.eval x=v):(execOp a.eval ⟨dst,.pick c x y,ty,pos,af,gd⟩).run P w= .ok (.value v) w:=by
 simp only [execOp,hc,h];rfl
theorem r_pick_f {c x y:Operand} {v:Value} (hc:a.eval c= .bool false) (h:a.eval y=v):(execOp a.eval ⟨dst,.pick c x y,ty,pos,af,gd⟩).run P w= .ok (.value v) w:=by
 simp only [execOp,hc,h];rfl
theorem r_load {t:TypeId} {x:Operand} {p v:Value} (h:a.eval x=p) (hl:(Instr.loadAt t p).run P w= .ok v w):(execOp a.eval ⟨dst,.load t x,ty,pos,af,gd⟩).run P w= .ok (.value v) w:=by
 simp only [execOp,h]
 exact run_v hl
theorem r_store {t:TypeId} {x y:Operand} {p v:Value} {w':World} (h:a.eval x=p) (h2:a.eval y=v) (hl:(Instr.storeAt t p v).run P w= .ok () w'):(execOp a.eval ⟨dst,.store t x y,ty,pos,af,gd⟩).run P w= .ok .skip w':=by
 simp only [execOp,h,h2]
 exact run_u hl
theorem r_alloc {t:TypeId} {p:Value} {w':World} (hl:(Instr.alloc t true (.tuple #[])).run P w= .ok p w'):(execOp a.eval ⟨dst,.alloc t,ty,pos,af,gd⟩).run P w= .ok (.value p) w':=by
 simp only [execOp]
 exact run_v hl
theorem r_un {op:UnOp} {t:TypeId} {x:Operand} {p v:Value} (h:a.eval x=p) (hl:(Op.unary op p).run P w= .ok v w):(execOp a.eval ⟨dst,.unOp op t x,ty,pos,af,gd⟩).run P w= .ok (.value v) w:=by
 simp only [execOp,h]
 exact run_v hl
theorem r_bin {op:BinOp} {t u:TypeId} {x y:Operand} {p q v:Value} (h:a.eval x=p) (h2:a.eval y=q) (hg:(eqGuard op t x y p q).run P w= .ok () w) (hl:(binOp op t p q).run P w= .ok v w):(execOp a.eval ⟨dst,.binOp op t x y u,ty,pos,af,gd⟩).run P w= .ok (.value v) w:=by
 simp only [execOp,h,h2]
 refine run_v ?_
 rw[Sem.run_bind,hg];exact hl
theorem r_build {t:TypeId} {ps:Array (Nat×Operand)} {qs:Array (Nat×Value)} {v:Value} (h:(ps.map fun(p:Nat×Operand)=>(p.1,a.eval p.2))=qs) (hl:(Instr.build t qs).run P w= .ok v w):(execOp a.eval ⟨dst,.build t ps,ty,pos,af,gd⟩).run P w= .ok (.value v) w:=by
 simp only [execOp,h]
 exact run_v hl
theorem r_buildSlice {t:TypeId} {n:Nat} {ps:Array (Nat×Operand)} {qs:Array (Nat×Value)} {v:Value} {w':World} (h:(ps.map fun(p:Nat×Operand)=>(p.1,a.eval p.2))=qs) (hl:(Instr.buildSlice t n qs).run P w= .ok v w'):(execOp a.eval ⟨dst,.buildSlice t n ps,ty,pos,af,gd⟩).run P w= .ok (.value v) w':=by
 simp only [execOp,h]
 exact run_v hl
theorem r_builtin {b:Builtin} {xs:Array Operand} {ts:Array TypeId} {args:Array Value} {v:Value} {w':World} (h:xs.map a.eval=args)
 (hl:(builtin b ts ty (xs.map fun| .const _=>true|_=>false) args).run P w= .ok (.value v) w'):
 (execOp a.eval ⟨dst,.call ⟨.builtin b,xs,ts⟩,ty,pos,af,gd⟩).run P w= .ok (.value v) w':=by
 subst h
 simp only [execOp,resolve,Sem.run_bind]
 exact hl
theorem r_call {f:FuncId} {fn:Func} {xs:Array Operand} {ts:Array TypeId} {args:Array Value} (hf:P.funcs[f]?=some fn) (hn:(fn.name == "runtime.NumGoroutine")=false) (hb:fn.body.isNone=false) (h:xs.map a.eval=args):
 (execOp a.eval ⟨dst,.call ⟨.value (.func f),xs,ts⟩,ty,pos,af,gd⟩).run P w= .ok (.enter f args) w:=by
 have hn':fn.name≠ "runtime.NumGoroutine":=by simpa using hn
 have hb':fn.body≠none:=by
  intro e
  rw[e] at hb
  cases hb
 simp only [execOp,resolve,h]
 simp[Act.eval,Deferred.ofValue,invoke,callFunc,hf,hn',hb',go_sem]
end
end
section
section
variable {P:Program} {ops:Array Oper} {Q:Exit→Act→World→Prop}
def hasEdge (ops:Array Oper) (k j:Nat):Bool:=((ops[k]?).map (·.after.any fun e=>Region.binds .any e && e.on == j)).getD false
def waitsAll (ops:Array Oper) (n:Nat):Bool:=
 (List.range ops.size).all fun k=>Nat.blt k n || (List.range k).all fun j=>(List.range (k+1)).any fun m=>Nat.blt j m && hasEdge ops m j
def Shut (ops:Array Oper) (d:Nat→Bool):Prop:=∀m j,hasEdge ops m j=true→d m=true→d j=true
theorem hasEdge_of {k j:Nat} {o:Oper} (h:ops[k]?=some o):hasEdge ops k j=true↔∃e∈o.after,Region.binds .any e=true∧e.on=j:=by
 unfold hasEdge
 rw[h]
 simp only [Option.map_some,Option.getD_some,Array.any_eq_true',Bool.and_eq_true,beq_iff_eq]
theorem all_before {n k:Nat} (hw:waitsAll ops n=true) (hk:k<ops.size) (hnk:n≤k) {d:Nat→Bool} (hs:Shut ops d) (hd:∀j,hasEdge ops k j=true→d j=true):∀j,j<k→d j=true:=by
 unfold waitsAll at hw
 rw[List.all_eq_true] at hw
 have h1:=hw k (List.mem_range.2 hk)
 rw[Bool.or_eq_true] at h1
 rcases h1 with h1|h1
 ·have:k<n:=by simpa using h1
  omega
 ·rw[List.all_eq_true] at h1
  have key:∀t j,j+t=k→0<t→d j=true:=by
   intro t
   induction t using Nat.strongRecOn with
   |_ t ih=>
    intro j hj ht
    have h2:=h1 j (List.mem_range.2 (by omega))
    rw[List.any_eq_true] at h2
    obtain⟨m,hm,h3⟩:=h2
    rw[Bool.and_eq_true] at h3
    have hjm:j<m:=by simpa using h3.1
    have hmk:m<k+1:=List.mem_range.1 hm
    by_cases e:m=k
    ·subst e;exact hd j h3.2
    ·exact hs m j h3.2 (ih (k-m) (by omega) m (by omega) (by omega))
  intro j hj
  exact key (k-j) j (by omega) (by omega)
def dstsOf (ops:Array Oper) (n:Nat):List (Option Nat):=(ops.toList.take n).map (·.dst)
theorem dst_of {n i:Nat} {o:Oper} {ds:List Nat} (h:dstsOf ops n=ds.map some) (hi:i<n) (ho:ops[i]?=some o):∃s,ds[i]?=some s∧o.dst=some s:=by
 have h1:(dstsOf ops n)[i]?=some o.dst:=by
  unfold dstsOf
  rw[List.getElem?_map,List.getElem?_take,if_pos hi]
  simp[ho]
 rw[h,List.getElem?_map] at h1
 cases hs:ds[i]? with
 |none=>rw[hs] at h1;cases h1
 |some s=>
  rw[hs] at h1
  exact⟨s,rfl,by simpa using h1.symm⟩
def nodupB:List Nat→Bool
 |[]=>true
 |d::l=>l.all (fun x=>!(Nat.beq x d)) && nodupB l
theorem nodupB_spec:∀(l:List Nat),nodupB l=true→l.Nodup
 |[],_=>List.nodup_nil
 |d::l,h=>by
  unfold nodupB at h
  rw[Bool.and_eq_true,List.all_eq_true] at h
  refine List.nodup_cons.2 ⟨fun hd=>?_,nodupB_spec l h.2⟩
  have:=h.1 d hd
  simp at this
def apartIn (ds:List Nat) (nt:Nat) (L:List (Nat×Value)):Bool:=nodupB ds && ds.all fun d=>Nat.blt d nt && freshIn d L
structure Pre (ops:Array Oper) (nt n:Nat) (L:List (Nat×Value)) (ds:List Nat) (al:Nat→Bool) (H:Nat→World→Value→Prop) (W:World) (d:Nat→Bool) (a:Act) (w:World):Prop where
 fr:Fr nt a L
 bel:Below W.heap.size W w
 has:∀i s,i<n→ds[i]?=some s→d i=true→H i w (a.tmps.getD s undef)
 ne:∀i j s t,i<n→j<n→al i=true→al j=true→i≠j→ds[i]?=some s→ds[j]?=some t→d i=true→d j=true→a.tmps.getD s undef≠a.tmps.getD t undef
theorem Fr.over {nt:Nat} {a:Act} {L:List (Nat×Value)} (h:Fr nt a L) {d:Nat} {v:Value} (hf:freshIn d L=true):Fr nt (a.put (some d) v) L:=by
 refine⟨by simp[Act.put,h.size],h.dfr,fun p hp=>?_⟩
 have hne:d≠p.1:=by
  unfold freshIn at hf
  rw[List.all_eq_true] at hf
  have:=hf p hp
  intro e
  simp[e] at this
 rw[getD_put_ne hne]
 exact h.all p hp
theorem Pre.one {nt n:Nat} {L:List (Nat×Value)} {ds:List Nat} {al:Nat→Bool} {H:Nat→World→Value→Prop} {W:World} {d:Nat→Bool} {a:Act} {w w':World} {i s:Nat} {v:Value}
 (hmono:∀i w w' v,H i w v→Below w.heap.size w w'→H i w' v) (hal:∀i w v,al i=true→H i w v→∃g,v= .pointer (some ⟨g,0,none⟩)∧g<w.heap.size)
 (hap:apartIn ds nt L=true) (hp:Pre ops nt n L ds al H W d a w) (hs:ds[i]?=some s) (hd:d i=false) (hb:Below w.heap.size w w') (hv:H i w' v) (ha:al i=true→v= .pointer (some ⟨w.heap.size,0,none⟩)):
 Pre ops nt n L ds al H W (up d i) (a.put (some s) v) w':=by
 have hap2:=hap
 unfold apartIn at hap
 rw[Bool.and_eq_true,List.all_eq_true] at hap
 obtain⟨hnd,hall⟩:=hap
 have hnd:ds.Nodup:=nodupB_spec ds hnd
 have h1:=hall s (List.mem_of_getElem? hs)
 rw[Bool.and_eq_true] at h1
 have hlt:s<nt:=by simpa using h1.1
 have hsame:(a.put (some s) v).tmps.getD s undef=v:=getD_put_same (by rw[hp.fr.size];exact hlt)
 have hdiff:∀j t,ds[j]?=some t→j≠i→(a.put (some s) v).tmps.getD t undef=a.tmps.getD t undef:=by
  intro j t ht hne
  refine getD_put_ne ?_
  intro e
  subst e
  have hj:=(List.getElem?_eq_some_iff.1 ht).1
  have hi:=(List.getElem?_eq_some_iff.1 hs).1
  exact hne ((List.getElem?_inj hj hnd).1 (by rw[ht,hs]))
 refine⟨hp.fr.over h1.2,hp.bel.trans (hb.mono hp.bel.size),?_,?_⟩
 ·intro j t hj ht hdj
  by_cases e:j=i
  ·subst e
   rw[hs] at ht
   obtain rfl:=Option.some.inj ht
   rw[hsame];exact hv
  ·rw[hdiff j t ht e]
   exact hmono _ _ _ _ (hp.has j t hj ht (up_ne hdj e)) hb
 ·intro j k t u hj hk aj ak hjk ht hu dj dk
  have old:∀m x,m<n→al m=true→ds[m]?=some x→m≠i→up d i m=true→al i=true→(a.put (some s) v).tmps.getD x undef≠v:=by
   intro m x hm am hx hne dm ai
   rw[hdiff m x hx hne,ha ai]
   obtain⟨g,e1,e2⟩:=hal m _ _ am (hp.has m x hm hx (up_ne dm hne))
   rw[e1]
   intro e
   injection e with e;injection e with e;injection e with e
   omega
  by_cases e:j=i
  ·subst e
   rw[hs] at ht
   obtain rfl:=Option.some.inj ht
   rw[hsame]
   exact(old k u hk ak hu (Ne.symm hjk) dk aj).symm
  ·by_cases e':k=i
   ·subst e'
    rw[hs] at hu
    obtain rfl:=Option.some.inj hu
    rw[hsame]
    exact old j t hj aj ht e dj ak
   ·rw[hdiff j t ht e,hdiff k u hu e']
    exact hp.ne j k t u hj hk aj ak hjk ht hu (up_ne dj e) (up_ne dk e')
theorem Shut.one {d:Nat→Bool} (h:Shut ops d) {i:Nat} (hi:∀j,hasEdge ops i j=true→d j=true):Shut ops (up d i):=by
 intro m j he hm
 unfold up at*
 by_cases e:j=i
 ·rw[if_pos e]
 ·rw[if_neg e]
  by_cases e':m=i
  ·subst e';exact hi j he
  ·rw[if_neg e'] at hm;exact h m j he hm
theorem E.region {nt n id:Nat} {L:List (Nat×Value)} {a:Act} {w:World} (hm:P.follows .mixedOrders =true) (hF:Fr nt a L) (ds:List Nat) (al:Nat→Bool) (H:Nat→World→Value→Prop)
 (hback:waitsBack ops=true) (hw:waitsAll ops n=true) (hn:Nat.ble n ops.size=true) (hds:dstsOf ops n=ds.map some) (hap:apartIn ds nt L=true)
 (hmono:∀i w w' v,H i w v→Below w.heap.size w w'→H i w' v) (hal:∀i w v,al i=true→H i w v→∃g,v= .pointer (some ⟨g,0,none⟩)∧g<w.heap.size)
 (step:∀(i:Nat) (o:Oper),i<n→ops[i]?=some o→∀(a':Act) (w':World),Fr nt a' L→Below w.heap.size w w'→(∀(e:Edge) (s:Nat),e∈o.after→Region.binds .any e=true→ds[e.on]?=some s→H e.on w' (a'.tmps.getD s undef))→
   if Region.wanted o (yielded ops a'.tmps)=true then Does P Q o a' w' (fun v w''=>H i w'' v∧Below w'.heap.size w' w''∧(al i=true→v= .pointer (some ⟨w'.heap.size,0,none⟩))) else H i w' undef∧al i=false)
 (tail:∀(a':Act) (w':World),Fr nt a' L→Below w.heap.size w w'→(∀(i s:Nat),ds[i]?=some s→H i w' (a'.tmps.getD s undef))→
   (∀(i j s t:Nat),al i=true→al j=true→i≠j→ds[i]?=some s→ds[j]?=some t→a'.tmps.getD s undef≠a'.tmps.getD t undef)→wpS P ops Q (ops.toList.drop n) a' w'):
 (Code.region id ops true).wp P Q a w:=by
 have hn':n≤ops.size:=by simpa using hn
 have hlen:ds.length=n:=by
  have:=congrArg List.length hds
  unfold dstsOf at this
  simp at this
  omega
 have tail':∀(d:Nat→Bool) (a':Act) (w':World),(∀j,j<n→d j=true)→Pre ops nt n L ds al H w d a' w'→wpS P ops Q (ops.toList.drop n) a' w':=by
  intro d a' w' hd hp
  have lt:∀i s,ds[i]?=some s→i<n:=fun i s h=>by have:=(List.getElem?_eq_some_iff.1 h).1;omega
  exact tail a' w' hp.fr hp.bel (fun i s hs=>hp.has i s (lt i s hs) hs (hd i (lt i s hs))) (fun i j s t ai aj hij hs ht=>hp.ne i j s t (lt i s hs) (lt j t ht) ai aj hij hs ht (hd i (lt i s hs)) (hd j (lt j t ht)))
 refine wp_region_inv hm hback (fun d a' w'=>Shut ops d∧(((∀j,n≤j→d j=false)∧Pre ops nt n L ds al H w d a' w')∨(∃k,n≤k∧(∀j,d j=decide (j<k))∧wpS P ops Q (ops.toList.drop k) a' w'))) ?_ ?_ ?_
 ·refine⟨(fun m j _ h=>by cases h),.inl ⟨fun _ _=>rfl,?_⟩⟩
  exact⟨hF,(Below.refl _ _).drew,(fun _ _ _ _ h=>by cases h),(fun _ _ _ _ _ _ _ _ _ _ _ h=>by cases h)⟩
 ·rintro d a' w' ⟨hs,hI⟩ i o ho hdi hdep K hK
  have hi:i<ops.size:=(Array.getElem?_eq_some_iff.1 ho).1
  have hdep':∀j,hasEdge ops i j=true→d j=true:=by
   intro j hj
   obtain⟨e,he,hb,rfl⟩:=(hasEdge_of ho).1 hj
   exact hdep e he hb
  have two:∀k,n≤k→(∀j,d j=decide (j<k))→wpS P ops Q (ops.toList.drop k) a' w'→if Region.wanted o (yielded ops a'.tmps)=true then Oper.wp P o a' w' K Q else K (a'.put o.dst undef) w':=by
   intro k hnk hdk h
   have hki:k≤i:=by
    have h1:=hdk i
    rw[hdi] at h1
    have:¬i<k:=by simpa using h1.symm
    omega
   have hik:i=k:=by
    by_cases e:i=k
    ·exact e
    ·exfalso
     have h1:=all_before hw hi (by omega) hs hdep' k (by omega)
     rw[hdk k,decide_eq_false (by omega)] at h1
     cases h1
   subst hik
   have hdrop:ops.toList.drop i=o::ops.toList.drop (i+1):=by
    rw[List.drop_eq_getElem_cons (by simpa using hi)]
    congr 1
    rw[Array.getElem?_eq_getElem hi] at ho
    simpa using ho
   rw[hdrop] at h
   unfold wpS at h
   have next:∀j,up d i j=decide (j<i+1):=by
    intro j
    unfold up
    by_cases e:j=i
    ·rw[if_pos e];exact(decide_eq_true (by omega)).symm
    ·rw[if_neg e,hdk j]
     by_cases e':j<i
     ·rw[decide_eq_true e',decide_eq_true (by omega)]
     ·rw[decide_eq_false e',decide_eq_false (by omega)]
   split
   ·rename_i hwd
    rw[if_pos hwd] at h
    exact Oper.wp_mono (fun a w h=>hK a w ⟨hs.one hdep',.inr ⟨i+1,by omega,next,h⟩⟩) h
   ·rename_i hwd
    rw[if_neg hwd] at h
    exact hK _ _ ⟨hs.one hdep',.inr ⟨i+1,by omega,next,h⟩⟩
  rcases hI with⟨hno,hp⟩|⟨k,hnk,hdk,h⟩
  ·by_cases hin:i<n
   ·obtain⟨s,hsi,hdst⟩:=dst_of hds hin ho
    have hst:=step i o hin ho a' w' hp.fr hp.bel (fun e t he hb ht=>hp.has e.on t (by have:=(List.getElem?_eq_some_iff.1 ht).1;omega) ht (hdep e he hb))
    have hno':∀j,n≤j→up d i j=false:=fun j hj=>by unfold up;rw[if_neg (by omega)];exact hno j hj
    split
    ·rename_i hwd
     rw[if_pos hwd] at hst
     refine hst K fun v w'' ⟨hv,hb,ha⟩=>hK _ _ ⟨hs.one hdep',.inl ⟨hno',?_⟩⟩
     rw[hdst]
     exact hp.one hmono hal hap hsi hdi hb hv ha
    ·rename_i hwd
     rw[if_neg hwd] at hst
     refine hK _ _ ⟨hs.one hdep',.inl ⟨hno',?_⟩⟩
     rw[hdst]
     exact hp.one hmono hal hap hsi hdi (Below.refl _ _) hst.1 (fun h=>by rw[hst.2] at h;cases h)
   ·have hall:=all_before hw hi (by omega) hs hdep'
    have hni:n=i:=by
     by_cases e:n=i
     ·exact e
     ·exfalso
      have h1:=hall n (by omega)
      rw[hno n (Nat.le_refl n)] at h1
      cases h1
    refine two n (Nat.le_refl n) (fun j=>?_) (tail' d a' w' (fun j hj=>hall j (by omega)) hp)
    by_cases e:j<n
    ·rw[hall j (by omega),decide_eq_true e]
    ·rw[hno j (by omega),decide_eq_false e]
  ·exact two k hnk hdk h
 ·rintro d a' w' ⟨hs,hI⟩ hall
  rcases hI with⟨hno,hp⟩|⟨k,hnk,hdk,h⟩
  ·have e:n=ops.size:=by
    by_cases e:n=ops.size
    ·exact e
    ·exfalso
     have h1:=hall n (by omega)
     rw[hno n (Nat.le_refl n)] at h1
     cases h1
   have h:=tail' d a' w' (fun j hj=>hall j (by omega)) hp
   rw[List.drop_eq_nil_of_le (by simp;omega)] at h
   exact h
  ·have hk:ops.size≤k:=by
    by_cases e:ops.size≤k
    ·exact e
    ·exfalso
     have h1:=hall k (by omega)
     rw[hdk k,decide_eq_false (by omega)] at h1
     cases h1
   rw[List.drop_eq_nil_of_le (by simpa using hk)] at h
   exact h
def Hat (Hs:List (World→Value→Prop)) (i:Nat):World→Value→Prop:=(Hs[i]?).getD fun _ _=>True
def Mb (R:World→Value→Prop):Prop:=∀w w' v,R w v→Below w.heap.size w w'→R w' v
def AllM:List (World→Value→Prop)→Prop
 |[]=>True
 |R::l=>Mb R∧AllM l
theorem AllM.at:∀(Hs:List (World→Value→Prop)),AllM Hs→∀i,Mb (Hat Hs i)
 |[],_,_=>fun _ _ _ _ _=>trivial
 |R::l,h,0=>h.1
 |R::l,h,i+1=>AllM.at l h.2 i
theorem Mb.eq (u:Value):Mb (fun _ v=>v=u):=fun _ _ _ h _=>h
theorem Mb.any:Mb (fun _ _=>True):=fun _ _ _ h _=>h
def StepOk (P:Program) (ops:Array Oper) (Q:Exit→Act→World→Prop) (nt:Nat) (L:List (Nat×Value)) (W:World) (ds:List Nat) (Hs:List (World→Value→Prop)) (al:List Nat) (i:Nat) (o:Oper):Prop:=
 ∀(a':Act) (w':World),Fr nt a' L→Below W.heap.size W w'→(∀(e:Edge) (s:Nat),e∈o.after→Region.binds .any e=true→ds[e.on]?=some s→Hat Hs e.on w' (a'.tmps.getD s undef))→
  if Region.wanted o (yielded ops a'.tmps)=true then Does P Q o a' w' (fun v w''=>Hat Hs i w'' v∧Below w'.heap.size w' w''∧(al.contains i=true→v= .pointer (some ⟨w'.heap.size,0,none⟩))) else Hat Hs i w' undef∧al.contains i=false
def Steps (P:Program) (ops:Array Oper) (Q:Exit→Act→World→Prop) (nt:Nat) (L:List (Nat×Value)) (W:World) (ds:List Nat) (Hs:List (World→Value→Prop)) (al:List Nat):Nat→List Oper→Prop
 |_,[]=>True
 |i,o::l=>StepOk P ops Q nt L W ds Hs al i o∧Steps P ops Q nt L W ds Hs al (i+1) l
theorem Steps.at {nt:Nat} {L:List (Nat×Value)} {W:World} {ds:List Nat} {Hs:List (World→Value→Prop)} {al:List Nat}:∀(l:List Oper) (k:Nat),Steps P ops Q nt L W ds Hs al k l→∀i o,l[i]?=some o→StepOk P ops Q nt L W ds Hs al (k+i) o
 |[],_,_,_,_,h=>by cases h
 |x::l,k,h,0,o,ho=>by
  obtain rfl:x=o:=by simpa using ho
  exact h.1
 |x::l,k,h,i+1,o,ho=>by
  have:=Steps.at l (k+1) h.2 i o (by simpa using ho)
  rw[show k+(i+1)=k+1+i by omega]
  exact this
def AllA (Hs:List (World→Value→Prop)):List Nat→Prop
 |[]=>True
 |i::l=>(∀w v,Hat Hs i w v→∃g,v= .pointer (some ⟨g,0,none⟩)∧g<w.heap.size)∧AllA Hs l
theorem AllA.at {Hs:List (World→Value→Prop)}:∀(l:List Nat),AllA Hs l→∀i w v,l.contains i=true→Hat Hs i w v→∃g,v= .pointer (some ⟨g,0,none⟩)∧g<w.heap.size
 |[],_,_,_,_,h,_=>by cases h
 |x::l,h,i,w,v,hc,hv=>by
  rw[List.contains_cons,Bool.or_eq_true] at hc
  rcases hc with hc|hc
  ·have:i=x:=by simpa using hc
   subst this
   exact h.1 w v hv
  ·exact AllA.at l h.2 i w v hc hv
theorem E.drawn {nt id:Nat} (n:Nat) {l:List Oper} {L:List (Nat×Value)} {a:Act} {w:World} (hm:P.follows .mixedOrders =true) (hF:Fr nt a L) (ds:List Nat) (Hs:List (World→Value→Prop)) (al:List Nat)
 (hback:waitsBack l.toArray=true) (hw:waitsAll l.toArray n=true) (hn:Nat.ble n l.length=true) (hds:dstsOf l.toArray n=ds.map some) (hap:apartIn ds nt L=true) (hM:AllM Hs) (hA:AllA Hs al)
 (steps:Steps P l.toArray Q nt L w ds Hs al 0 (l.take n))
 (tail:∀(a':Act) (w':World),Fr nt a' L→Below w.heap.size w w'→(∀(i s:Nat),ds[i]?=some s→Hat Hs i w' (a'.tmps.getD s undef))→
   (∀(i j s t:Nat),al.contains i=true→al.contains j=true→i≠j→ds[i]?=some s→ds[j]?=some t→a'.tmps.getD s undef≠a'.tmps.getD t undef)→wpS P l.toArray Q (l.drop n) a' w'):
 (Code.region id l.toArray true).wp P Q a w:=by
 refine E.region hm hF ds (fun i=>al.contains i) (Hat Hs) hback hw (by simpa using hn) hds hap (fun i w w' v h hb=>AllM.at Hs hM i w w' v h hb) (fun i w v h=>AllA.at al hA i w v h) ?_ tail
 intro i o hi ho
 have h1:(l.take n)[i]?=some o:=by
  rw[List.getElem?_take,if_pos hi]
  simpa using ho
 have h2:=Steps.at _ _ steps i o h1
 rw[Nat.zero_add] at h2
 exact h2
end
end
section
structure Turned (g:Nat) (w w':World):Prop where
 os:w'.os=w.os
 tape:w'.tape=w.tape
 output:w'.output=w.output
 size:w'.heap.size=w.heap.size
 block:∀k,k≠g→w'.heap[k]?=w.heap[k]?
theorem Turned.below {g B:Nat} {W w w':World} (h:Turned g w w') (hb:Below B W w) (hg:B≤g):Below B W w':=
 hb.trans ⟨h.os,h.tape,h.output,by rw[h.size];exact Nat.le_refl _,fun k hk=>h.block k (by omega)⟩
section
variable {P:Program}
theorem oc0:∀v∈([]:List Value),v.oneCell'=true:=fun _ h=>by cases h
end
end
section
theorem size_run {P:Program} {T:TypeId} {n:Nat} (h:(P.info? T).map (·.size)=some n) (w:World):(sizeOf T).run P w= .ok n w:=by
 cases hq:P.info? T with
 |none=>simp[hq] at h
 |some i=>
  have hs:i.size=n:=by simpa[hq] using h
  simp[sizeOf,typeInfo,hq,hs,go_sem]
theorem zero_run {P:Program} {T:TypeId} {v:Value} (h:(P.info? T).bind (·.zero)=some v) (w:World):(zeroValue T).run P w= .ok v w:=by
 cases hq:P.info? T with
 |none=>simp[hq] at h
 |some i=>
  have hs:i.zero=some v:=by simpa[hq] using h
  simp[zeroValue,typeInfo,hq,hs,go_sem]
theorem mixed:Tryd.prog.follows .mixedOrders =true:=by kernel_rfl
section
variable {P:Program} {w:World}
theorem bn_not (b c:Bool) (h:(!b)=c):(Op.unary .not (.bool b)).run P w= .ok (.bool c) w:=by subst h;rfl
theorem eg_scalar {op:BinOp} {t:TypeId} {x y:Operand} {k l:IntKind} {a b:Int}:(eqGuard op t x y (.int k a) (.int l b)).run P w= .ok () w:=by
 unfold eqGuard;split <;> rfl
theorem eg_bool {op:BinOp} {t:TypeId} {x y:Operand} {a b:Bool}:(eqGuard op t x y (.bool a) (.bool b)).run P w= .ok () w:=by
 unfold eqGuard;split <;> rfl
theorem bi_int {op:BinOp} {t:TypeId} {k:IntKind} {a b:Int} {c:Bool} (h:(Op.intCmp op a b).run P w= .ok (.bool c) w) (ho:op= .eql ∨op= .neq ∨op= .lss ∨op= .leq ∨op= .gtr ∨op= .geq):(binOp op t (.int k a) (.int k b)).run P w= .ok (.bool c) w:=by
 rcases ho with rfl|rfl|rfl|rfl|rfl|rfl <;> simpa[binOp] using h
theorem ia_add {t:TypeId} {a b:Int} (h0: -9223372036854775808≤a+b) (h1:a+b≤9223372036854775807):(binOp .add t (.int .i64 a) (.int .i64 b)).run P w= .ok (.int .i64 (a+b)) w:=by
 simp only [binOp,Op.intArith,ne_eq,not_true_eq_false,if_false]
 rw[show(IntKind.i64.wrap (a+b))=a+b from IntWalk.i64_in _ ⟨h0,by omega⟩]
 rfl
theorem ia_sub {t:TypeId} {a b:Int} (h0: -9223372036854775808≤a-b) (h1:a-b≤9223372036854775807):(binOp .sub t (.int .i64 a) (.int .i64 b)).run P w= .ok (.int .i64 (a-b)) w:=by
 simp only [binOp,Op.intArith,ne_eq,not_true_eq_false,if_false]
 rw[show(IntKind.i64.wrap (a-b))=a-b from IntWalk.i64_in _ ⟨h0,by omega⟩]
 rfl
theorem ic_eql {a b:Int} {c:Bool} (h:decide (a=b)=c):(Op.intCmp .eql a b).run P w= .ok (.bool c) w:=by
 subst h
 simp only [Op.intCmp]
 by_cases e:a=b <;> simp[e,go_sem]
theorem ic_neq {a b:Int} {c:Bool} (h:decide (a≠b)=c):(Op.intCmp .neq a b).run P w= .ok (.bool c) w:=by
 subst h
 simp only [Op.intCmp]
 by_cases e:a=b <;> simp[e,go_sem]
theorem ic_lss {a b:Int} {c:Bool} (h:decide (a<b)=c):(Op.intCmp .lss a b).run P w= .ok (.bool c) w:=by
 subst h;simp[Op.intCmp,go_sem]
theorem ic_gtr {a b:Int} {c:Bool} (h:decide (b<a)=c):(Op.intCmp .gtr a b).run P w= .ok (.bool c) w:=by
 subst h;simp[Op.intCmp,go_sem]
theorem ic_geq {a b:Int} {c:Bool} (h:decide (b≤a)=c):(Op.intCmp .geq a b).run P w= .ok (.bool c) w:=by
 subst h;simp[Op.intCmp,go_sem]
end
theorem bb_eql {w:World} {b c d:Bool} (h:(b == c)=d):(binOp .eql 4 (.bool b) (.bool c)).run Tryd.prog w= .ok (.bool d) w:=by
 subst h
 have h1:=run_equal_bool (P:=Tryd.prog) w 4 b c Tryd.underlying4
 simp only [binOp,Sem.run_bind,h1,Result.andThen_ok,Sem.run_pure]
end
section
end
section
section
variable {P:Program} {ops:Array Oper} {Q:Exit→Act→World→Prop}
end
end
section
theorem r_index {P:Program} {a:Act} {w:World} {dst:Option Tmp} {ty:TypeId} {pos:String} {af:Array Edge} {gd:Option (Nat×Bool)} {t:TypeId} {x y:Operand} {p q v:Value} (h:a.eval x=p) (h2:a.eval y=q) (hl:(Instr.indexAt t p q).run P w= .ok v w):(execOp a.eval ⟨dst,.indexAddr t x y,ty,pos,af,gd⟩).run P w= .ok (.value v) w:=by
 simp only [execOp,h,h2]
 exact run_v hl
section
variable {P:Program} {ops:Array Oper} {Q:Exit→Act→World→Prop}
theorem least {p:Nat→Prop}:∀m,p m→∃m,p m∧∀k,p k→m≤k:=by
 intro m
 induction m using Nat.strongRecOn with
 |ind m ih=>
  intro h
  by_cases hh:∃k,k<m∧p k
  ·obtain⟨k,h1,h2⟩:=hh;exact ih k h1 h2
  ·exact⟨m,h,fun k hk=>Nat.le_of_not_lt fun h'=>hh ⟨k,h',hk⟩⟩
noncomputable def lst (p:Nat→Prop):Nat:=Classical.epsilon fun m=>p m∧∀k,p k→m≤k
theorem lst_spec {p:Nat→Prop} {m:Nat} (h:p m):p (lst p)∧∀k,p k→lst p≤k:=Classical.epsilon_spec (least m h)
theorem E.loop (I:Nat→Act→World→Prop) (m:Nat) {a:Act} {w:World} {c:Code} (h0:I m a w)
 (hs:∀m a w,I m a w→c.wp P (Exit.then (fun a' w'=>∃m',m'<m∧I m' a' w') Q) a w):c.loop.wp P Q a w:=by
 refine wp_loop (fun a w=>∃m,I m a w) (fun a w=>lst fun m=>I m a w) ⟨m,h0⟩ ?_
 rintro a w ⟨m,h⟩
 have hl:=lst_spec (p:=fun m=>I m a w) h
 refine wp_mono (hs _ a w hl.1) ?_
 intro e a' w' h'
 cases e with
 |normal=>obtain⟨m',h1,h2⟩:=h';exact⟨⟨m',h2⟩,Nat.lt_of_le_of_lt ((lst_spec (p:=fun m=>I m a' w') h2).2 _ h2) h1⟩
 |_=>exact h'
theorem E.nil0 {a:Act} {w:World} (h:Q .normal a w):wpS P ops Q [] a w:=h
theorem E.blk {a:Act} {w:World} {id:Nat} (h:Q .normal a w):Exit.inBlock id Q .normal a w:=h
theorem E.out {a:Act} {w:World} {id:Nat} (h:Q .normal a w):Exit.inBlock id Q (.exit id) a w:=by
 show(if id=id then Q .normal a w else Q (.exit id) a w)
 rw[if_pos rfl];exact h
theorem E.past {R:Act→World→Prop} {a:Act} {w:World} {id:Nat} (h:Q (.exit id) a w):Exit.then R Q (.exit id) a w:=h
end
end
end
end Go.Proofs.YtdkmjclbhfnegaaDoor
