import Derived.Test.YtgdpkknapcgcbaaGreatDoorKC1
import Derived.Deep.MidRow
import Derived.Laws.CopyRow
import Derived.Laws.Small
import Derived.IntWalk
import Derived.Test.YtgdpkknapcgcbaaGreatDoorRows
namespace Go.Proofs.YtgdpkknapcgcbaaGreatDoor
open Go.RowKit
set_option maxRecDepth 100000
set_option linter.unusedVariables false
set_option maxHeartbeats 8000000
section
section
structure Fr (nt:Nat) (a:Act) (L:List (Nat×Value)):Prop where
 size:a.tmps.size=nt
 dfr:a.defers=[]
 all:∀p∈L,a.tmps.getD p.1 undef=p.2
def bz (d:Nat) (L:List (Nat×Value)):Bool:=L.all fun p=>!(Nat.beq p.1 d)
theorem Fr.at {nt:Nat} {a:Act} {L:List (Nat×Value)} (h:Fr nt a L) (k:Nat) {s:Nat} {v:Value} (e:L[k]?=some (s,v)):a.tmps.getD s undef=v:=
 h.all (s,v) (List.mem_of_getElem? e)
theorem fY {a:Act} {d:Nat} {v:Value} (h:d<a.tmps.size):(a.put (some d) v).tmps.getD d undef=v:=by
 simp[Act.put,h]
theorem gy {a:Act} {d s:Nat} {v:Value} (h:d≠s):(a.put (some d) v).tmps.getD s undef=a.tmps.getD s undef:=by
 simp[Act.put,Array.getElem?_setIfInBounds_ne h]
theorem Fr.put {nt:Nat} {a:Act} {L:List (Nat×Value)} (h:Fr nt a L) {d:Nat} {v:Value} (hd:Nat.blt d nt=true) (hf:bz d L=true):Fr nt (a.put (some d) v) ((d,v)::L):=by
 have hlt:d<nt:=by simpa using hd
 refine⟨by simp[Act.put,h.size],h.dfr,fun p hp=>?_⟩
 rcases List.mem_cons.1 hp with rfl|hp
 ·exact fY (by rw[h.size];exact hlt)
 ·have hne:d≠p.1:=by
   unfold bz at hf
   rw[List.all_eq_true] at hf
   have:=hf p hp
   intro e
   simp[e] at this
  rw[gy hne]
  exact h.all p hp
theorem Fr.set {nt:Nat} {a:Act} {L:List (Nat×Value)} (h:Fr nt a L) {d:Nat} {v:Value} (hd:Nat.blt d nt=true):Fr nt (a.put (some d) v) ((d,v)::L.filter fun p=>!(Nat.beq p.1 d)):=by
 have h2:Fr nt a (L.filter fun p=>!(Nat.beq p.1 d)):=⟨h.size,h.dfr,fun p hp=>h.all p (List.mem_filter.1 hp).1⟩
 refine h2.put hd ?_
 unfold bz
 rw[List.all_eq_true]
 intro p hp
 exact(List.mem_filter.1 hp).2
theorem Fr.sub {nt:Nat} {a:Act} {L L':List (Nat×Value)} (h:Fr nt a L) (hs:∀p∈L',p∈L):Fr nt a L':=⟨h.size,h.dfr,fun p hp=>h.all p (hs p hp)⟩
theorem Fr.add {nt:Nat} {a:Act} {L:List (Nat×Value)} (h:Fr nt a L) {d:Nat} {v:Value} (e:a.tmps.getD d undef=v):Fr nt a ((d,v)::L):=by
 refine⟨h.size,h.dfr,fun p hp=>?_⟩
 rcases List.mem_cons.1 hp with rfl|hp
 ·exact e
 ·exact h.all p hp
theorem Fr.enter {nt n:Nat} {args:Array Value} {L:List (Nat×Value)} (hn:args.size+n=nt) (hL:∀p∈L,args[p.1]?=some p.2):Fr nt {tmps:=args++Array.replicate n undef,defers:=[]} L:=by
 refine⟨by simp;omega,rfl,fun p hp=>?_⟩
 have h:=hL p hp
 have hlt:p.1<args.size:=(Array.getElem?_eq_some_iff.1 h).1
 rw[Array.getD_eq_getD_getElem?,Array.getElem?_append_left hlt,h]
 rfl
section
variable {P:Program} {ops:Array Oper} {Q:Exit->Act->World->Prop}
def bG (P:Program) (Q:Exit->Act->World->Prop) (o:Oper) (a:Act) (w:World) (R:Value->World->Prop):Prop:=
 ∀K:Act->World->Prop,(∀v w',R v w'->K (a.put o.dst v) w')->Oper.wp P o a w K Q
theorem bG.val {o:Oper} {a:Act} {w w':World} {v:Value} (hr:(execOp a.eval o).run P w= .ok (.value v) w'):bG P Q o a w (fun x y=>x=v/\y=w'):=by
 intro K hK
 unfold Oper.wp
 rw[hr]
 exact hK v w' ⟨rfl,rfl⟩
theorem bG.skip {o:Oper} {a:Act} {w w':World} (hr:(execOp a.eval o).run P w= .ok .skip w'):bG P Q o a w (fun x y=>x=undef/\y=w'):=by
 intro K hK
 unfold Oper.wp
 rw[hr]
 exact hK undef w' ⟨rfl,rfl⟩
theorem bG.call {o:Oper} {a:Act} {w:World} {f:FuncId} {args:Array Value} {R:Value->World->Prop} (hr:(execOp a.eval o).run P w= .ok (.enter f args) w)
 (hc:Calls P f args w fun e w'=>∃v,e= .returned v/\R v w'):bG P Q o a w R:=by
 intro K hK
 unfold Oper.wp
 rw[hr]
 refine hc.mono ?_
 rintro e w' ⟨v,rfl,h⟩
 exact hK v w' h
def wpS (P:Program) (ops:Array Oper) (Q:Exit->Act->World->Prop):List Oper->Act->World->Prop
 |[],a,w=>Q .normal a w
 |o::rest,a,w=>if Region.wanted o (yielded ops a.tmps)=true then Oper.wp P o a w (wpS P ops Q rest) Q else wpS P ops Q rest (a.put o.dst undef) w
theorem wpS.list:∀(l:List Oper) (a:Act) (w:World),wpS P ops Q l a w->wpList P ops Q l a w
 |[],_,_,h=>h
 |o::rest,a,w,h=>by
  unfold wpS at h
  refine wpList_step fun K hK=>?_
  split
  ·rename_i hw
   rw[if_pos hw] at h
   exact Oper.wp_mono (fun a w h=>hK a w (wpS.list rest a w h)) h
  ·rename_i hw
   rw[if_neg hw] at h
   exact hK _ _ (wpS.list rest _ _ h)
theorem rh {o:Oper} {rest:List Oper} {a:Act} {w:World} (hg:o.guard=none) (h:Oper.wp P o a w (wpS P ops Q rest) Q):wpS P ops Q (o::rest) a w:=by
 unfold wpS
 rw[if_pos (by simp[Region.wanted,hg])]
 exact h
theorem E.seq {id:Nat} {l:List Oper} {a:Act} {w:World} (h:wpS P l.toArray Q l a w):(Code.region id l.toArray false).wp P Q a w:=
 wp_region_lit (wpS.list _ _ _ h)
theorem E.op {nt d:Nat} {L:List (Nat×Value)} {rest:List Oper} {o:Oper} {a:Act} {w:World} {R:Value->World->Prop} (hF:Fr nt a L) (hD:bG P Q o a w R) (hg:o.guard=none) (hd:o.dst=some d) (hlt:Nat.blt d nt=true) (hf:bz d L=true)
 (h:∀v a' w',R v w'->Fr nt a' ((d,v)::L)->wpS P ops Q rest a' w'):wpS P ops Q (o::rest) a w:=
 rh hg (hD _ fun v w' r=>h v _ w' r (by rw[hd];exact hF.put hlt hf))
theorem E.opv {nt d:Nat} {L:List (Nat×Value)} {rest:List Oper} {o:Oper} {a:Act} {w w':World} {v:Value} (hF:Fr nt a L) (hr:(execOp a.eval o).run P w= .ok (.value v) w') (hg:o.guard=none) (hd:o.dst=some d) (hlt:Nat.blt d nt=true) (hf:bz d L=true)
 (h:∀a',Fr nt a' ((d,v)::L)->wpS P ops Q rest a' w'):wpS P ops Q (o::rest) a w:=
 E.op hF (bG.val hr) hg hd hlt hf fun v' a' w' ⟨e1,e2⟩ hF'=>by subst e1;subst e2;exact h a' hF'
theorem E.opset {nt d:Nat} {L L':List (Nat×Value)} {rest:List Oper} {o:Oper} {a:Act} {w w':World} {v:Value} (hF:Fr nt a L) (hr:(execOp a.eval o).run P w= .ok (.value v) w') (hg:o.guard=none) (hd:o.dst=some d) (hlt:Nat.blt d nt=true) (hL:(d,v)::L.filter (fun p=>!(Nat.beq p.1 d))=L')
 (h:∀a',Fr nt a' L'->wpS P ops Q rest a' w'):wpS P ops Q (o::rest) a w:=
 rh hg (by
  unfold Oper.wp
  rw[hr]
  refine h _ ?_
  rw[<-hL,hd]
  exact hF.set hlt)
theorem E.st {nt:Nat} {L:List (Nat×Value)} {rest:List Oper} {o:Oper} {a:Act} {w w':World} (hF:Fr nt a L) (hr:(execOp a.eval o).run P w= .ok .skip w') (hg:o.guard=none) (hd:o.dst=none)
 (h:∀a',Fr nt a' L->wpS P ops Q rest a' w'):wpS P ops Q (o::rest) a w:=
 rh hg (by
  unfold Oper.wp
  rw[hr]
  refine h _ ?_
  rw[hd]
  exact hF)
theorem E.call {nt d:Nat} {L:List (Nat×Value)} {rest:List Oper} {o:Oper} {a:Act} {w:World} {f:FuncId} {args:Array Value} {R:Ending->World->Prop} (hF:Fr nt a L) (hr:(execOp a.eval o).run P w= .ok (.enter f args) w) (hc:Calls P f args w R) (hg:o.guard=none) (hd:o.dst=some d) (hlt:Nat.blt d nt=true) (hf:bz d L=true)
 (h:∀e w',R e w'->∃v,e= .returned v/\∀a',Fr nt a' ((d,v)::L)->wpS P ops Q rest a' w'):wpS P ops Q (o::rest) a w:=
 E.op (R:=fun v w'=>∀a',Fr nt a' ((d,v)::L)->wpS P ops Q rest a' w') hF (bG.call hr (hc.mono fun e w' r=>h e w' r)) hg hd hlt hf fun _ a' _ k hF'=>k a' hF'
theorem bG.calls {o:Oper} {a:Act} {w:World} {f:FuncId} {args:Array Value} {R:Ending->World->Prop} {S:Value->World->Prop} (hr:(execOp a.eval o).run P w= .ok (.enter f args) w) (hc:Calls P f args w R)
 (h:∀e w',R e w'->∃v,e= .returned v/\S v w'):bG P Q o a w S:=bG.call hr (hc.mono fun e w' r=>h e w' r)
theorem bG.vals {o:Oper} {a:Act} {w w':World} {v:Value} {S:Value->World->Prop} (hr:(execOp a.eval o).run P w= .ok (.value v) w') (h:S v w'):bG P Q o a w S:=
 fun K hK=>(bG.val hr) K fun x y ⟨e1,e2⟩=>hK x y (by subst e1;subst e2;exact h)
theorem uE {o:Oper} {rest:List Oper} {a:Act} {w:World} (hg:Region.wanted o (yielded ops a.tmps)=true) (h:Oper.wp P o a w (wpS P ops Q rest) Q):wpS P ops Q (o::rest) a w:=by
 unfold wpS
 rw[if_pos hg]
 exact h
theorem E.opvg {nt d:Nat} {L:List (Nat×Value)} {rest:List Oper} {o:Oper} {a:Act} {w w':World} {v:Value} (hF:Fr nt a L) (hr:(execOp a.eval o).run P w= .ok (.value v) w') (hg:Region.wanted o (yielded ops a.tmps)=true) (hd:o.dst=some d) (hlt:Nat.blt d nt=true) (hf:bz d L=true)
 (h:∀a',Fr nt a' ((d,v)::L)->wpS P ops Q rest a' w'):wpS P ops Q (o::rest) a w:=
 uE hg ((bG.val hr) _ fun v' w' ⟨e1,e2⟩=>by subst e1;subst e2;rw[hd];exact h _ (hF.put hlt hf))
theorem E.callg {nt d:Nat} {L:List (Nat×Value)} {rest:List Oper} {o:Oper} {a:Act} {w:World} {f:FuncId} {args:Array Value} {R:Ending->World->Prop} (hF:Fr nt a L) (hr:(execOp a.eval o).run P w= .ok (.enter f args) w) (hc:Calls P f args w R) (hg:Region.wanted o (yielded ops a.tmps)=true) (hd:o.dst=some d) (hlt:Nat.blt d nt=true) (hf:bz d L=true)
 (h:∀e w',R e w'->∃v,e= .returned v/\∀a',Fr nt a' ((d,v)::L)->wpS P ops Q rest a' w'):wpS P ops Q (o::rest) a w:=
 uE hg (bG.call (R:=fun v w'=>∀a',Fr nt a' ((d,v)::L)->wpS P ops Q rest a' w') hr (hc.mono fun e w' r=>h e w' r) _ fun v w' k=>by rw[hd];exact k _ (hF.put hlt hf))
theorem E.unwanted {nt d:Nat} {L:List (Nat×Value)} {rest:List Oper} {o:Oper} {a:Act} {w:World} (hF:Fr nt a L) (hg:Region.wanted o (yielded ops a.tmps)=false) (hd:o.dst=some d) (hlt:Nat.blt d nt=true) (hf:bz d L=true)
 (h:∀a',Fr nt a' ((d,undef)::L)->wpS P ops Q rest a' w):wpS P ops Q (o::rest) a w:=by
 unfold wpS
 rw[if_neg (by rw[hg];decide),hd]
 exact h _ (hF.put hlt hf)
theorem bX {o:Oper} {a:Act} {w:World} {S:Value->World->Prop} {N:Prop} (hw:Region.wanted o (yielded ops a.tmps)=true) (h:bG P Q o a w S):if Region.wanted o (yielded ops a.tmps)=true then bG P Q o a w S else N:=by
 rw[if_pos hw];exact h
theorem bA {o:Oper} {a:Act} {w:World} {S:Value->World->Prop} {N:Prop} (hw:Region.wanted o (yielded ops a.tmps)=false) (h:N):if Region.wanted o (yielded ops a.tmps)=true then bG P Q o a w S else N:=by
 rw[if_neg (by rw[hw];decide)];exact h
theorem aR {o:Oper} {a:Act} (hg:o.guard=none):Region.wanted o (yielded ops a.tmps)=true:=by simp[Region.wanted,hg]
theorem CU {a:Act} {j s:Nat} {b:Bool} (hd:(ops[j]?).bind (·.dst)=some s) (h:a.tmps.getD s undef= .bool b):yielded ops a.tmps j=some b:=by
 unfold yielded
 rw[hd,Option.bind_some]
 rw[Array.getD_eq_getD_getElem?] at h
 cases hs:a.tmps[s]? with
 |none=>rw[hs] at h;cases h
 |some v=>rw[hs] at h;simp only [Option.getD_some] at h;subst h;rfl
theorem au {o:Oper} {a:Act} {j s:Nat} {b c:Bool} (hg:o.guard=some (j,c)) (hd:(ops[j]?).bind (·.dst)=some s) (h:a.tmps.getD s undef= .bool b) {r:Bool} (hr:(b == c)=r):Region.wanted o (yielded ops a.tmps)=r:=by
 unfold Region.wanted
 rw[hg]
 simp only [CU hd h]
 cases b <;> cases c <;> simp_all
theorem bJ {o:Oper} {a:Act} {j s:Nat} {c:Bool} (hg:o.guard=some (j,c)) (hd:(ops[j]?).bind (·.dst)=some s) (h:a.tmps.getD s undef=undef):Region.wanted o (yielded ops a.tmps)=false:=by
 have hy:yielded ops a.tmps j=none:=by
  unfold yielded
  rw[hd,Option.bind_some]
  rw[Array.getD_eq_getD_getElem?] at h
  cases hs:a.tmps[s]? with
  |none=>rfl
  |some v=>
   rw[hs] at h
   simp only [Option.getD_some] at h
   subst h
   rfl
 unfold Region.wanted
 rw[hg]
 simp[hy]
theorem E.norm {a:Act} {w:World} {K:Act->World->Prop} {Q':Exit->Act->World->Prop} (h:K a w):Exit.then K Q' .normal a w:=h
theorem E.enter {f:FuncId} {fn:Func} {c:Code} {args:Array Value} {w:World} {R:Ending->World->Prop} {nt n:Nat} {L:List (Nat×Value)} (hf:P.funcs[f]?=some fn) (hb:fn.body=some c) (hn:fn.ntmps-args.size=n) (hs:args.size+n=nt) (hL:∀p∈L,args[p.1]?=some p.2)
 (h:∀a,Fr nt a L->c.wp P (bodyPost P fn R) a w):Calls P f args w R:=by
 refine calls_of_wp hf hb (h _ ?_)
 rw[hn]
 exact Fr.enter hs hL
theorem cC {args:Array Value}:∀p∈([]:List (Nat×Value)),args[p.1]?=some p.2:=fun _ h=>by cases h
theorem aC {args:Array Value} {L:List (Nat×Value)} {i:Nat} {v:Value} (h:args[i]?=some v) (hL:∀p∈L,args[p.1]?=some p.2):∀p∈(i,v)::L,args[p.1]?=some p.2:=by
 intro p hp
 rcases List.mem_cons.1 hp with rfl|hp
 ·exact h
 ·exact hL p hp
theorem Ml {fn:Func} {a:Act} {w:World} {t:Tmp} {v:Value} (h:fn.results=#[.tmp t]) (ha:a.tmps.getD t undef=v):(results fn a.tmps).run P w= .ok v w:=by
 rw[results_tmp h,ha]
theorem eJ {fn:Func} {a:Act} {w:World} {t u:Tmp} {v x:Value} (h:fn.results=#[.tmp t,.tmp u]) (ha:a.tmps.getD t undef=v) (hx:a.tmps.getD u undef=x):(results fn a.tmps).run P w= .ok (.tuple #[v,x]) w:=by
 rw[results_tmp2 h,ha,hx]
theorem kN {fn:Func} {a:Act} {w:World} {t:Tmp} {T:TypeId} {p:Addr} {v:Value} (h:fn.results=#[.cell t T]) (ha:a.tmps.getD t undef= .pointer (some p)) (hl:(Instr.loadAt T (.pointer (some p))).run P w= .ok v w):(results fn a.tmps).run P w= .ok v w:=by
 have hl':(loadVar T p).run P w= .ok v w:=hl
 have e:(asAddr (a.tmps.getD t undef)).run P w= .ok p w:=by rw[ha];rfl
 simp only [results,h,List.mapM_toArray,List.mapM_cons,List.mapM_nil,Sem.run_bind,e,Result.andThen_ok,hl',Sem.run_pure,Sem.run_map]
 rfl
theorem gh {fn:Func} {a:Act} {w:World} {t u:Tmp} {T U:TypeId} {p q:Addr} {v x:Value} (h:fn.results=#[.cell t T,.cell u U]) (ha:a.tmps.getD t undef= .pointer (some p)) (hl:(Instr.loadAt T (.pointer (some p))).run P w= .ok v w)
 (hb:a.tmps.getD u undef= .pointer (some q)) (hm:(Instr.loadAt U (.pointer (some q))).run P w= .ok x w):(results fn a.tmps).run P w= .ok (.tuple #[v,x]) w:=by
 have hl':(loadVar T p).run P w= .ok v w:=hl
 have hm':(loadVar U q).run P w= .ok x w:=hm
 have e:(asAddr (a.tmps.getD t undef)).run P w= .ok p w:=by rw[ha];rfl
 have f:(asAddr (a.tmps.getD u undef)).run P w= .ok q w:=by rw[hb];rfl
 simp only [results,h,List.mapM_toArray,List.mapM_cons,List.mapM_nil,Sem.run_bind,e,f,Result.andThen_ok,hl',hm',Sem.run_pure,Sem.run_map]
 rfl
theorem fR {a:Act}:(#[]:Array Operand).map a.eval=#[]:=by simp
theorem aG {a:Act} {x:Operand} {u:Value} (h:a.eval x=u):#[x].map a.eval=#[u]:=by simp[h]
theorem aL {a:Act} {x y:Operand} {u v:Value} (h:a.eval x=u) (k:a.eval y=v):#[x,y].map a.eval=#[u,v]:=by simp[h,k]
theorem vo {a:Act} {x y z:Operand} {u v t:Value} (h:a.eval x=u) (k:a.eval y=v) (l:a.eval z=t):#[x,y,z].map a.eval=#[u,v,t]:=by simp[h,k,l]
theorem eQ {a:Act} {i:Nat} {x:Operand} {u:Value} (h:a.eval x=u):(#[(i,x)].map fun(p:Nat×Operand)=>(p.1,a.eval p.2))=#[(i,u)]:=by simp[h]
theorem gG {a:Act} {i j:Nat} {x y:Operand} {u v:Value} (h:a.eval x=u) (k:a.eval y=v):(#[(i,x),(j,y)].map fun(p:Nat×Operand)=>(p.1,a.eval p.2))=#[(i,u),(j,v)]:=by simp[h,k]
theorem E.nil {a:Act} {w:World} {K:Act->World->Prop} {Q':Exit->Act->World->Prop} (h:K a w):wpS P ops (Exit.then K Q') [] a w:=h
theorem jy {w w':World} {s:Sem Value} {v:Value} (h:s.run P w= .ok v w'):(do pure (.value (<-s)):Sem Next).run P w= .ok (.value v) w':=by
 rw[Sem.run_bind,h];rfl
theorem QC {w w':World} {s:Sem Unit} (h:s.run P w= .ok () w'):(do s;pure .skip :Sem Next).run P w= .ok .skip w':=by
 rw[Sem.run_bind,h];rfl
theorem ao {a:Act} {v:Value}:a.eval (.const v)=v:=rfl
theorem cw {a:Act} {s:Nat} {v:Value} (h:a.tmps.getD s undef=v):a.eval (.tmp s)=v:=h
variable {a:Act} {w:World} {dst:Option Tmp} {ty:TypeId} {pos:String} {af:Array Edge} {gd:Option (Nat×Bool)}
theorem aD {x:Operand} {v:Value} (h:a.eval x=v):(execOp a.eval ⟨dst,.move x,ty,pos,af,gd⟩).run P w= .ok (.value v) w:=by
 rw[<-h];rfl
theorem aZ {x:Operand} {v:Value} (h:a.eval x=v):(execOp a.eval ⟨dst,.assign x,ty,pos,af,gd⟩).run P w= .ok (.value v) w:=by
 rw[<-h];rfl
theorem aH {x:Operand} {i:Nat} {vs:Array Value} {v:Value} (h:a.eval x= .tuple vs) (hv:vs[i]?=some v):(execOp a.eval ⟨dst,.extract x i,ty,pos,af,gd⟩).run P w= .ok (.value v) w:=by
 simp only [execOp,h]
 exact jy (by simp[Instr.extract,hv,go_sem])
theorem aK {c x y:Operand} {v:Value} (hc:a.eval c= .bool true) (h:a.eval x=v):(execOp a.eval ⟨dst,.pick c x y,ty,pos,af,gd⟩).run P w= .ok (.value v) w:=by
 simp only [execOp,hc,h];rfl
theorem aQ {c x y:Operand} {v:Value} (hc:a.eval c= .bool false) (h:a.eval y=v):(execOp a.eval ⟨dst,.pick c x y,ty,pos,af,gd⟩).run P w= .ok (.value v) w:=by
 simp only [execOp,hc,h];rfl
theorem ar {t:TypeId} {x:Operand} {p v:Value} (h:a.eval x=p) (hl:(Instr.loadAt t p).run P w= .ok v w):(execOp a.eval ⟨dst,.load t x,ty,pos,af,gd⟩).run P w= .ok (.value v) w:=by
 simp only [execOp,h]
 exact jy hl
theorem cT {t:TypeId} {x y:Operand} {p v:Value} {w':World} (h:a.eval x=p) (h2:a.eval y=v) (hl:(Instr.storeAt t p v).run P w= .ok () w'):(execOp a.eval ⟨dst,.store t x y,ty,pos,af,gd⟩).run P w= .ok .skip w':=by
 simp only [execOp,h,h2]
 exact QC hl
theorem az {t:TypeId} {x:Operand} {f:Nat} {p v:Value} (h:a.eval x=p) (hl:(Instr.fieldAt t p f).run P w= .ok v w):(execOp a.eval ⟨dst,.fieldAddr t x f,ty,pos,af,gd⟩).run P w= .ok (.value v) w:=by
 simp only [execOp,h]
 exact jy hl
theorem nj {t:TypeId} {x:Operand} {v p:Value} {w':World} (h:a.eval x=v) (hl:(Instr.box t v).run P w= .ok p w'):(execOp a.eval ⟨dst,.box t x,ty,pos,af,gd⟩).run P w= .ok (.value p) w':=by
 simp only [execOp,h]
 exact jy hl
theorem dP {t:TypeId} {p:Value} {w':World} (hl:(Instr.alloc t true (.tuple #[])).run P w= .ok p w'):(execOp a.eval ⟨dst,.alloc t,ty,pos,af,gd⟩).run P w= .ok (.value p) w':=by
 simp only [execOp]
 exact jy hl
theorem dF {op:UnOp} {t:TypeId} {x:Operand} {p v:Value} (h:a.eval x=p) (hl:(Op.unary op p).run P w= .ok v w):(execOp a.eval ⟨dst,.unOp op t x,ty,pos,af,gd⟩).run P w= .ok (.value v) w:=by
 simp only [execOp,h]
 exact jy hl
theorem aq {op:BinOp} {t u:TypeId} {x y:Operand} {p q v:Value} (h:a.eval x=p) (h2:a.eval y=q) (hg:(eqGuard op t x y p q).run P w= .ok () w) (hl:(binOp op t p q).run P w= .ok v w):(execOp a.eval ⟨dst,.binOp op t x y u,ty,pos,af,gd⟩).run P w= .ok (.value v) w:=by
 simp only [execOp,h,h2]
 refine jy ?_
 rw[Sem.run_bind,hg];exact hl
theorem go {s t:TypeId} {x:Operand} {p v:Value} (h:a.eval x=p) (hl:(convert s t p).run P w= .ok v w):(execOp a.eval ⟨dst,.convert s t x,ty,pos,af,gd⟩).run P w= .ok (.value v) w:=by
 simp only [execOp,h]
 exact jy hl
theorem bn {t:TypeId} {ps:Array (Nat×Operand)} {qs:Array (Nat×Value)} {v:Value} (h:(ps.map fun(p:Nat×Operand)=>(p.1,a.eval p.2))=qs) (hl:(Instr.build t qs).run P w= .ok v w):(execOp a.eval ⟨dst,.build t ps,ty,pos,af,gd⟩).run P w= .ok (.value v) w:=by
 simp only [execOp,h]
 exact jy hl
theorem bO {t:TypeId} {n:Nat} {ps:Array (Nat×Operand)} {qs:Array (Nat×Value)} {v:Value} {w':World} (h:(ps.map fun(p:Nat×Operand)=>(p.1,a.eval p.2))=qs) (hl:(Instr.buildSlice t n qs).run P w= .ok v w'):(execOp a.eval ⟨dst,.buildSlice t n ps,ty,pos,af,gd⟩).run P w= .ok (.value v) w':=by
 simp only [execOp,h]
 exact jy hl
theorem aW {b:Builtin} {xs:Array Operand} {ts:Array TypeId} {args:Array Value} {v:Value} {w':World} (h:xs.map a.eval=args)
 (hl:(builtin b ts ty (xs.map fun| .const _=>true|_=>false) args).run P w= .ok (.value v) w'):
 (execOp a.eval ⟨dst,.call ⟨.builtin b,xs,ts⟩,ty,pos,af,gd⟩).run P w= .ok (.value v) w':=by
 subst h
 simp only [execOp,resolve,Sem.run_bind]
 exact hl
theorem Ap {f:FuncId} {fn:Func} {xs:Array Operand} {ts:Array TypeId} {args:Array Value} (hf:P.funcs[f]?=some fn) (hn:(fn.name == "runtime.NumGoroutine")=false) (hb:fn.body.isNone=false) (h:xs.map a.eval=args):
 (execOp a.eval ⟨dst,.call ⟨.value (.func f),xs,ts⟩,ty,pos,af,gd⟩).run P w= .ok (.enter f args) w:=by
 have hn':fn.name≠ "runtime.NumGoroutine":=by simpa using hn
 have hb':fn.body≠none:=by
  intro e
  rw[e] at hb
  cases hb
 simp only [execOp,resolve,h]
 simp[Act.eval,Deferred.ofValue,invoke,callFunc,hf,hn',hb',go_sem]
end
end
section
section
variable {P:Program} {ops:Array Oper} {Q:Exit->Act->World->Prop}
def de (ops:Array Oper) (k j:Nat):Bool:=((ops[k]?).map (·.after.any fun e=>Region.binds .any e && e.on == j)).getD false
def eX (ops:Array Oper) (n:Nat):Bool:=
 (List.range ops.size).all fun k=>Nat.blt k n || (List.range k).all fun j=>(List.range (k+1)).any fun m=>Nat.blt j m && de ops m j
def qT (ops:Array Oper) (d:Nat->Bool):Prop:=∀m j,de ops m j=true->d m=true->d j=true
theorem me {k j:Nat} {o:Oper} (h:ops[k]?=some o):de ops k j=true↔∃e∈o.after,Region.binds .any e=true/\e.on=j:=by
 unfold de
 rw[h]
 simp only [Option.map_some,Option.getD_some,Array.any_eq_true',Bool.and_eq_true,beq_iff_eq]
theorem ic {n k:Nat} (hw:eX ops n=true) (hk:k<ops.size) (hnk:n<=k) {d:Nat->Bool} (hs:qT ops d) (hd:∀j,de ops k j=true->d j=true):∀j,j<k->d j=true:=by
 unfold eX at hw
 rw[List.all_eq_true] at hw
 have h1:=hw k (List.mem_range.2 hk)
 rw[Bool.or_eq_true] at h1
 rcases h1 with h1|h1
 ·have:k<n:=by simpa using h1
  omega
 ·rw[List.all_eq_true] at h1
  have key:∀t j,j+t=k->0<t->d j=true:=by
   intro t
   induction t using Nat.strongRecOn with
   |_ t ih=>
    intro j hj ht
    have h2:=h1 j (List.mem_range.2 (by omega))
    rw[List.any_eq_true] at h2
    obtain⟨m,hm,h3⟩:=h2
    rw[Bool.and_eq_true] at h3
    have hjm:j<m:=by simpa using h3.1
    have hmk:m<k+1:=List.mem_range.1 hm
    by_cases e:m=k
    ·subst e;exact hd j h3.2
    ·exact hs m j h3.2 (ih (k-m) (by omega) m (by omega) (by omega))
  intro j hj
  exact key (k-j) j (by omega) (by omega)
def eR (ops:Array Oper) (n:Nat):List (Option Nat):=(ops.toList.take n).map (·.dst)
theorem Fi {n i:Nat} {o:Oper} {ds:List Nat} (h:eR ops n=ds.map some) (hi:i<n) (ho:ops[i]?=some o):∃s,ds[i]?=some s/\o.dst=some s:=by
 have h1:(eR ops n)[i]?=some o.dst:=by
  unfold eR
  rw[List.getElem?_map,List.getElem?_take,if_pos hi]
  simp[ho]
 rw[h,List.getElem?_map] at h1
 cases hs:ds[i]? with
 |none=>rw[hs] at h1;cases h1
 |some s=>
  rw[hs] at h1
  exact⟨s,rfl,by simpa using h1.symm⟩
def kC:List Nat->Bool
 |[]=>true
 |d::l=>l.all (fun x=>!(Nat.beq x d)) && kC l
theorem th:∀(l:List Nat),kC l=true->l.Nodup
 |[],_=>List.nodup_nil
 |d::l,h=>by
  unfold kC at h
  rw[Bool.and_eq_true,List.all_eq_true] at h
  refine List.nodup_cons.2 ⟨fun hd=>?_,th l h.2⟩
  have:=h.1 d hd
  simp at this
def gI (ds:List Nat) (nt:Nat) (L:List (Nat×Value)):Bool:=kC ds && ds.all fun d=>Nat.blt d nt && bz d L
structure Pre (ops:Array Oper) (nt n:Nat) (L:List (Nat×Value)) (ds:List Nat) (al:Nat->Bool) (H:Nat->World->Value->Prop) (W:World) (d:Nat->Bool) (a:Act) (w:World):Prop where
 fr:Fr nt a L
 bel:Below W.heap.size W w
 has:∀i s,i<n->ds[i]?=some s->d i=true->H i w (a.tmps.getD s undef)
 ne:∀i j s t,i<n->j<n->al i=true->al j=true->i≠j->ds[i]?=some s->ds[j]?=some t->d i=true->d j=true->a.tmps.getD s undef≠a.tmps.getD t undef
theorem Fr.over {nt:Nat} {a:Act} {L:List (Nat×Value)} (h:Fr nt a L) {d:Nat} {v:Value} (hf:bz d L=true):Fr nt (a.put (some d) v) L:=by
 refine⟨by simp[Act.put,h.size],h.dfr,fun p hp=>?_⟩
 have hne:d≠p.1:=by
  unfold bz at hf
  rw[List.all_eq_true] at hf
  have:=hf p hp
  intro e
  simp[e] at this
 rw[gy hne]
 exact h.all p hp
theorem Pre.one {nt n:Nat} {L:List (Nat×Value)} {ds:List Nat} {al:Nat->Bool} {H:Nat->World->Value->Prop} {W:World} {d:Nat->Bool} {a:Act} {w w':World} {i s:Nat} {v:Value}
 (hmono:∀i w w' v,H i w v->Below w.heap.size w w'->H i w' v) (hal:∀i w v,al i=true->H i w v->∃g,v= .pointer (some ⟨g,0,none⟩)/\g<w.heap.size)
 (hap:gI ds nt L=true) (hp:Pre ops nt n L ds al H W d a w) (hs:ds[i]?=some s) (hd:d i=false) (hb:Below w.heap.size w w') (hv:H i w' v) (ha:al i=true->v= .pointer (some ⟨w.heap.size,0,none⟩)):
 Pre ops nt n L ds al H W (up d i) (a.put (some s) v) w':=by
 have hap2:=hap
 unfold gI at hap
 rw[Bool.and_eq_true,List.all_eq_true] at hap
 obtain⟨hnd,hall⟩:=hap
 have hnd:ds.Nodup:=th ds hnd
 have h1:=hall s (List.mem_of_getElem? hs)
 rw[Bool.and_eq_true] at h1
 have hlt:s<nt:=by simpa using h1.1
 have hsame:(a.put (some s) v).tmps.getD s undef=v:=fY (by rw[hp.fr.size];exact hlt)
 have hdiff:∀j t,ds[j]?=some t->j≠i->(a.put (some s) v).tmps.getD t undef=a.tmps.getD t undef:=by
  intro j t ht hne
  refine gy ?_
  intro e
  subst e
  have hj:=(List.getElem?_eq_some_iff.1 ht).1
  have hi:=(List.getElem?_eq_some_iff.1 hs).1
  exact hne ((List.getElem?_inj hj hnd).1 (by rw[ht,hs]))
 refine⟨hp.fr.over h1.2,hp.bel.trans (hb.mono hp.bel.size),?_,?_⟩
 ·intro j t hj ht hdj
  by_cases e:j=i
  ·subst e
   rw[hs] at ht
   obtain rfl:=Option.some.inj ht
   rw[hsame];exact hv
  ·rw[hdiff j t ht e]
   exact hmono _ _ _ _ (hp.has j t hj ht (fV hdj e)) hb
 ·intro j k t u hj hk aj ak hjk ht hu dj dk
  have old:∀m x,m<n->al m=true->ds[m]?=some x->m≠i->up d i m=true->al i=true->(a.put (some s) v).tmps.getD x undef≠v:=by
   intro m x hm am hx hne dm ai
   rw[hdiff m x hx hne,ha ai]
   obtain⟨g,e1,e2⟩:=hal m _ _ am (hp.has m x hm hx (fV dm hne))
   rw[e1]
   intro e
   injection e with e;injection e with e;injection e with e
   omega
  by_cases e:j=i
  ·subst e
   rw[hs] at ht
   obtain rfl:=Option.some.inj ht
   rw[hsame]
   exact(old k u hk ak hu (Ne.symm hjk) dk aj).symm
  ·by_cases e':k=i
   ·subst e'
    rw[hs] at hu
    obtain rfl:=Option.some.inj hu
    rw[hsame]
    exact old j t hj aj ht e dj ak
   ·rw[hdiff j t ht e,hdiff k u hu e']
    exact hp.ne j k t u hj hk aj ak hjk ht hu (fV dj e) (fV dk e')
theorem qT.one {d:Nat->Bool} (h:qT ops d) {i:Nat} (hi:∀j,de ops i j=true->d j=true):qT ops (up d i):=by
 intro m j he hm
 unfold up at*
 by_cases e:j=i
 ·rw[if_pos e]
 ·rw[if_neg e]
  by_cases e':m=i
  ·subst e';exact hi j he
  ·rw[if_neg e'] at hm;exact h m j he hm
theorem E.region {nt n id:Nat} {L:List (Nat×Value)} {a:Act} {w:World} (hm:P.follows .mixedOrders =true) (hF:Fr nt a L) (ds:List Nat) (al:Nat->Bool) (H:Nat->World->Value->Prop)
 (hback:dc ops=true) (hw:eX ops n=true) (hn:Nat.ble n ops.size=true) (hds:eR ops n=ds.map some) (hap:gI ds nt L=true)
 (hmono:∀i w w' v,H i w v->Below w.heap.size w w'->H i w' v) (hal:∀i w v,al i=true->H i w v->∃g,v= .pointer (some ⟨g,0,none⟩)/\g<w.heap.size)
 (step:∀(i:Nat) (o:Oper),i<n->ops[i]?=some o->∀(a':Act) (w':World),Fr nt a' L->Below w.heap.size w w'->(∀(e:Edge) (s:Nat),e∈o.after->Region.binds .any e=true->ds[e.on]?=some s->H e.on w' (a'.tmps.getD s undef))->
   if Region.wanted o (yielded ops a'.tmps)=true then bG P Q o a' w' (fun v w''=>H i w'' v/\Below w'.heap.size w' w''/\(al i=true->v= .pointer (some ⟨w'.heap.size,0,none⟩))) else H i w' undef/\al i=false)
 (tail:∀(a':Act) (w':World),Fr nt a' L->Below w.heap.size w w'->(∀(i s:Nat),ds[i]?=some s->H i w' (a'.tmps.getD s undef))->
   (∀(i j s t:Nat),al i=true->al j=true->i≠j->ds[i]?=some s->ds[j]?=some t->a'.tmps.getD s undef≠a'.tmps.getD t undef)->wpS P ops Q (ops.toList.drop n) a' w'):
 (Code.region id ops true).wp P Q a w:=by
 have hn':n<=ops.size:=by simpa using hn
 have hlen:ds.length=n:=by
  have:=congrArg List.length hds
  unfold eR at this
  simp at this
  omega
 have tail':∀(d:Nat->Bool) (a':Act) (w':World),(∀j,j<n->d j=true)->Pre ops nt n L ds al H w d a' w'->wpS P ops Q (ops.toList.drop n) a' w':=by
  intro d a' w' hd hp
  have lt:∀i s,ds[i]?=some s->i<n:=fun i s h=>by have:=(List.getElem?_eq_some_iff.1 h).1;omega
  exact tail a' w' hp.fr hp.bel (fun i s hs=>hp.has i s (lt i s hs) hs (hd i (lt i s hs))) (fun i j s t ai aj hij hs ht=>hp.ne i j s t (lt i s hs) (lt j t ht) ai aj hij hs ht (hd i (lt i s hs)) (hd j (lt j t ht)))
 refine iu hm hback (fun d a' w'=>qT ops d/\(((∀j,n<=j->d j=false)/\Pre ops nt n L ds al H w d a' w')\/(∃k,n<=k/\(∀j,d j=decide (j<k))/\wpS P ops Q (ops.toList.drop k) a' w'))) ?_ ?_ ?_
 ·refine⟨(fun m j _ h=>by cases h),.inl ⟨fun _ _=>rfl,?_⟩⟩
  exact⟨hF,(Below.refl _ _).drew,(fun _ _ _ _ h=>by cases h),(fun _ _ _ _ _ _ _ _ _ _ _ h=>by cases h)⟩
 ·rintro d a' w' ⟨hs,hI⟩ i o ho hdi hdep K hK
  have hi:i<ops.size:=(Array.getElem?_eq_some_iff.1 ho).1
  have hdep':∀j,de ops i j=true->d j=true:=by
   intro j hj
   obtain⟨e,he,hb,rfl⟩:=(me ho).1 hj
   exact hdep e he hb
  have two:∀k,n<=k->(∀j,d j=decide (j<k))->wpS P ops Q (ops.toList.drop k) a' w'->if Region.wanted o (yielded ops a'.tmps)=true then Oper.wp P o a' w' K Q else K (a'.put o.dst undef) w':=by
   intro k hnk hdk h
   have hki:k<=i:=by
    have h1:=hdk i
    rw[hdi] at h1
    have:¬i<k:=by simpa using h1.symm
    omega
   have hik:i=k:=by
    by_cases e:i=k
    ·exact e
    ·exfalso
     have h1:=ic hw hi (by omega) hs hdep' k (by omega)
     rw[hdk k,decide_eq_false (by omega)] at h1
     cases h1
   subst hik
   have hdrop:ops.toList.drop i=o::ops.toList.drop (i+1):=by
    rw[List.drop_eq_getElem_cons (by simpa using hi)]
    congr 1
    rw[Array.getElem?_eq_getElem hi] at ho
    simpa using ho
   rw[hdrop] at h
   unfold wpS at h
   have next:∀j,up d i j=decide (j<i+1):=by
    intro j
    unfold up
    by_cases e:j=i
    ·rw[if_pos e];exact(decide_eq_true (by omega)).symm
    ·rw[if_neg e,hdk j]
     by_cases e':j<i
     ·rw[decide_eq_true e',decide_eq_true (by omega)]
     ·rw[decide_eq_false e',decide_eq_false (by omega)]
   split
   ·rename_i hwd
    rw[if_pos hwd] at h
    exact Oper.wp_mono (fun a w h=>hK a w ⟨hs.one hdep',.inr ⟨i+1,by omega,next,h⟩⟩) h
   ·rename_i hwd
    rw[if_neg hwd] at h
    exact hK _ _ ⟨hs.one hdep',.inr ⟨i+1,by omega,next,h⟩⟩
  rcases hI with⟨hno,hp⟩|⟨k,hnk,hdk,h⟩
  ·by_cases hin:i<n
   ·obtain⟨s,hsi,hdst⟩:=Fi hds hin ho
    have hst:=step i o hin ho a' w' hp.fr hp.bel (fun e t he hb ht=>hp.has e.on t (by have:=(List.getElem?_eq_some_iff.1 ht).1;omega) ht (hdep e he hb))
    have hno':∀j,n<=j->up d i j=false:=fun j hj=>by unfold up;rw[if_neg (by omega)];exact hno j hj
    split
    ·rename_i hwd
     rw[if_pos hwd] at hst
     refine hst K fun v w'' ⟨hv,hb,ha⟩=>hK _ _ ⟨hs.one hdep',.inl ⟨hno',?_⟩⟩
     rw[hdst]
     exact hp.one hmono hal hap hsi hdi hb hv ha
    ·rename_i hwd
     rw[if_neg hwd] at hst
     refine hK _ _ ⟨hs.one hdep',.inl ⟨hno',?_⟩⟩
     rw[hdst]
     exact hp.one hmono hal hap hsi hdi (Below.refl _ _) hst.1 (fun h=>by rw[hst.2] at h;cases h)
   ·have hall:=ic hw hi (by omega) hs hdep'
    have hni:n=i:=by
     by_cases e:n=i
     ·exact e
     ·exfalso
      have h1:=hall n (by omega)
      rw[hno n (Nat.le_refl n)] at h1
      cases h1
    refine two n (Nat.le_refl n) (fun j=>?_) (tail' d a' w' (fun j hj=>hall j (by omega)) hp)
    by_cases e:j<n
    ·rw[hall j (by omega),decide_eq_true e]
    ·rw[hno j (by omega),decide_eq_false e]
  ·exact two k hnk hdk h
 ·rintro d a' w' ⟨hs,hI⟩ hall
  rcases hI with⟨hno,hp⟩|⟨k,hnk,hdk,h⟩
  ·have e:n=ops.size:=by
    by_cases e:n=ops.size
    ·exact e
    ·exfalso
     have h1:=hall n (by omega)
     rw[hno n (Nat.le_refl n)] at h1
     cases h1
   have h:=tail' d a' w' (fun j hj=>hall j (by omega)) hp
   rw[List.drop_eq_nil_of_le (by simp;omega)] at h
   exact h
  ·have hk:ops.size<=k:=by
    by_cases e:ops.size<=k
    ·exact e
    ·exfalso
     have h1:=hall k (by omega)
     rw[hdk k,decide_eq_false (by omega)] at h1
     cases h1
   rw[List.drop_eq_nil_of_le (by simpa using hk)] at h
   exact h
def Hat (Hs:List (World->Value->Prop)) (i:Nat):World->Value->Prop:=(Hs[i]?).getD fun _ _=>True
def Mb (R:World->Value->Prop):Prop:=∀w w' v,R w v->Below w.heap.size w w'->R w' v
def nJ:List (World->Value->Prop)->Prop
 |[]=>True
 |R::l=>Mb R/\nJ l
theorem nJ.at:∀(Hs:List (World->Value->Prop)),nJ Hs->∀i,Mb (Hat Hs i)
 |[],_,_=>fun _ _ _ _ _=>trivial
 |R::l,h,0=>h.1
 |R::l,h,i+1=>nJ.at l h.2 i
theorem Mb.eq (u:Value):Mb (fun _ v=>v=u):=fun _ _ _ h _=>h
theorem Mb.any:Mb (fun _ _=>True):=fun _ _ _ h _=>h
def gM (P:Program) (ops:Array Oper) (Q:Exit->Act->World->Prop) (nt:Nat) (L:List (Nat×Value)) (W:World) (ds:List Nat) (Hs:List (World->Value->Prop)) (al:List Nat) (i:Nat) (o:Oper):Prop:=
 ∀(a':Act) (w':World),Fr nt a' L->Below W.heap.size W w'->(∀(e:Edge) (s:Nat),e∈o.after->Region.binds .any e=true->ds[e.on]?=some s->Hat Hs e.on w' (a'.tmps.getD s undef))->
  if Region.wanted o (yielded ops a'.tmps)=true then bG P Q o a' w' (fun v w''=>Hat Hs i w'' v/\Below w'.heap.size w' w''/\(al.contains i=true->v= .pointer (some ⟨w'.heap.size,0,none⟩))) else Hat Hs i w' undef/\al.contains i=false
def jl (P:Program) (ops:Array Oper) (Q:Exit->Act->World->Prop) (nt:Nat) (L:List (Nat×Value)) (W:World) (ds:List Nat) (Hs:List (World->Value->Prop)) (al:List Nat):Nat->List Oper->Prop
 |_,[]=>True
 |i,o::l=>gM P ops Q nt L W ds Hs al i o/\jl P ops Q nt L W ds Hs al (i+1) l
theorem jl.at {nt:Nat} {L:List (Nat×Value)} {W:World} {ds:List Nat} {Hs:List (World->Value->Prop)} {al:List Nat}:∀(l:List Oper) (k:Nat),jl P ops Q nt L W ds Hs al k l->∀i o,l[i]?=some o->gM P ops Q nt L W ds Hs al (k+i) o
 |[],_,_,_,_,h=>by cases h
 |x::l,k,h,0,o,ho=>by
  obtain rfl:x=o:=by simpa using ho
  exact h.1
 |x::l,k,h,i+1,o,ho=>by
  have:=jl.at l (k+1) h.2 i o (by simpa using ho)
  rw[show k+(i+1)=k+1+i by omega]
  exact this
def nF (Hs:List (World->Value->Prop)):List Nat->Prop
 |[]=>True
 |i::l=>(∀w v,Hat Hs i w v->∃g,v= .pointer (some ⟨g,0,none⟩)/\g<w.heap.size)/\nF Hs l
theorem nF.at {Hs:List (World->Value->Prop)}:∀(l:List Nat),nF Hs l->∀i w v,l.contains i=true->Hat Hs i w v->∃g,v= .pointer (some ⟨g,0,none⟩)/\g<w.heap.size
 |[],_,_,_,_,h,_=>by cases h
 |x::l,h,i,w,v,hc,hv=>by
  rw[List.contains_cons,Bool.or_eq_true] at hc
  rcases hc with hc|hc
  ·have:i=x:=by simpa using hc
   subst this
   exact h.1 w v hv
  ·exact nF.at l h.2 i w v hc hv
theorem E.drawn {nt id:Nat} (n:Nat) {l:List Oper} {L:List (Nat×Value)} {a:Act} {w:World} (hm:P.follows .mixedOrders =true) (hF:Fr nt a L) (ds:List Nat) (Hs:List (World->Value->Prop)) (al:List Nat)
 (hback:dc l.toArray=true) (hw:eX l.toArray n=true) (hn:Nat.ble n l.length=true) (hds:eR l.toArray n=ds.map some) (hap:gI ds nt L=true) (hM:nJ Hs) (hA:nF Hs al)
 (steps:jl P l.toArray Q nt L w ds Hs al 0 (l.take n))
 (tail:∀(a':Act) (w':World),Fr nt a' L->Below w.heap.size w w'->(∀(i s:Nat),ds[i]?=some s->Hat Hs i w' (a'.tmps.getD s undef))->
   (∀(i j s t:Nat),al.contains i=true->al.contains j=true->i≠j->ds[i]?=some s->ds[j]?=some t->a'.tmps.getD s undef≠a'.tmps.getD t undef)->wpS P l.toArray Q (l.drop n) a' w'):
 (Code.region id l.toArray true).wp P Q a w:=by
 refine E.region hm hF ds (fun i=>al.contains i) (Hat Hs) hback hw (by simpa using hn) hds hap (fun i w w' v h hb=>nJ.at Hs hM i w w' v h hb) (fun i w v h=>nF.at al hA i w v h) ?_ tail
 intro i o hi ho
 have h1:(l.take n)[i]?=some o:=by
  rw[List.getElem?_take,if_pos hi]
  simpa using ho
 have h2:=jl.at _ _ steps i o h1
 rw[Nat.zero_add] at h2
 exact h2
end
end
section
def Own (w:World) (g:Nat) (cs:List Value):Prop:=(∃T,w.heap[g]?=some (.cells cs.toArray T (0,0)))/\∀v∈cs,dT v
theorem Own.lt {w:World} {g:Nat} {cs:List Value} (h:Own w g cs):g<w.heap.size:=by
 obtain⟨⟨T,h⟩,_⟩:=h
 exact(Array.getElem?_eq_some_iff.1 h).1
theorem Own.below {w w':World} {g:Nat} {cs:List Value} (h:Own w g cs) (hb:Below w.heap.size w w'):Own w' g cs:=by
 have hlt:=h.lt
 obtain⟨⟨T,h⟩,hn⟩:=h
 exact⟨⟨T,by rw[hb.block g hlt];exact h⟩,hn⟩
theorem Own.range {w:World} {g:Nat} {cs:List Value} (h:Own w g cs) (o:Nat) (vs:List Value) (hv:(cs.drop o).take vs.length=vs):w.rangeAt g o vs:=by
 obtain⟨⟨T,h⟩,_⟩:=h
 intro j v hj
 rw[cell_of_row w g (o+j) _ _ _ h,List.getElem?_toArray]
 have hlt:=(List.getElem?_eq_some_iff.1 hj).1
 rw[<-hv] at hj
 rw[List.getElem?_take,if_pos hlt,List.getElem?_drop] at hj
 exact hj
structure dV (g:Nat) (w w':World):Prop where
 os:w'.os=w.os
 tape:w'.tape=w.tape
 output:w'.output=w.output
 size:w'.heap.size=w.heap.size
 block:∀k,k≠g->w'.heap[k]?=w.heap[k]?
theorem dV.below {g B:Nat} {W w w':World} (h:dV g w w') (hb:Below B W w) (hg:B<=g):Below B W w':=
 hb.trans ⟨h.os,h.tape,h.output,by rw[h.size];exact Nat.le_refl _,fun k hk=>h.block k (by omega)⟩
theorem dV.own {g g2:Nat} {w w':World} {cs:List Value} (h:dV g w w') (ho:Own w g2 cs) (hne:g2≠g):Own w' g2 cs:=by
 obtain⟨⟨T,h1⟩,hn⟩:=ho
 exact⟨⟨T,by rw[h.block g2 hne];exact h1⟩,hn⟩
theorem Own.noInt {w:World} {g:Nat} {cs:List Value} (h:Own w g cs):dD w g:=by
 obtain⟨⟨T,h⟩,hn⟩:=h
 intro j k n e
 rw[cell_of_row w g j _ _ _ h,List.getElem?_toArray] at e
 exact hn _ (List.mem_of_getElem? e) k n rfl
theorem dV.keep {g:Nat} {w w':World} {cs:List Value} (h:dV g w w') (ho:Own w g cs):eO w w':=by
 have hno:=ho.noInt
 intro k ad xs hr
 refine⟨fun i hi=>?_⟩
 obtain⟨b,off,h1,h2,h3⟩:=hr.cell i hi
 have hne:b≠g:=by
  intro e
  subst e
  exact hno _ _ _ h3
 refine⟨b,off,h1,by rw[h.size];exact h2,?_⟩
 rw[<-h3]
 exact World.cell?_of_block (w:=w) (h.block b hne)
section
variable {P:Program}
theorem mD {w:World} {g o n:Nat} {cs vs:List Value} {T:TypeId} {d:TypeDesc} (h:Own w g cs) (hv:(cs.drop o).take n=vs) (hl:vs.length=n) (hu:P.underlying T=some d) (hd:d.isRow=true) (hi:(P.info? T).map (·.size)=some n):
 (Instr.loadAt T (.pointer (some ⟨g,o,none⟩))).run P w= .ok (.agg vs.toArray) w:=by
 subst hl
 exact run_loadAt_mid w g o T vs d (h.range o vs hv) hu hd hi
theorem qy {w:World} {g o:Nat} {cs:List Value} {v:Value} {T:TypeId} {d:TypeDesc} (h:Own w g cs) (hv:cs[o]?=some v) (hu:P.underlying T=some d) (hd:d.isRow=false):
 (Instr.loadAt T (.pointer (some ⟨g,o,none⟩))).run P w= .ok v w:=by
 obtain⟨⟨T',h⟩,_⟩:=h
 have hc:w.cell? ⟨g,o,none⟩=some v:=by rw[cell_of_row w g o _ _ _ h,List.getElem?_toArray];exact hv
 have hagg:(isAgg T).run P w= .ok false w:=by
  unfold isAgg
  rw[Sem.run_bind,run_underlying hu w]
  cases d <;> simp_all
 simp[Instr.loadAt,Instr.sureAddr,loadVar,Sem.run_bind,hagg,hc,go_sem]
theorem gY {w:World} {g o n:Nat} {cs vs ws:List Value} {T:TypeId} (h:Own w g cs) (hi:(P.info? T).map (·.size)=some n) (hl:vs.length=n) (ho:Nat.ble (o+n) cs.length=true) (h1:∀v∈vs,v.oneCell'=true) (hn:∀v∈vs,dT v)
 (hw:cs.take o++vs++cs.drop (o+n)=ws):
 ∃w',(∀v:Value,v.cells=vs.toArray->(Instr.storeAt T (.pointer (some ⟨g,o,none⟩)) v).run P w= .ok () w')/\dV g w w'/\Own w' g ws:=by
 subst hl
 have hle:o+vs.length<=cs.length:=by simpa using ho
 obtain⟨⟨T',hh⟩,hcs⟩:=h
 refine⟨w.setRow g ws.toArray,?_,?_,?_⟩
 ·intro v hv
  have hst:=run_storeCells_at P g o T' vs 0 cs.toArray w hh (by simpa using hle) h1
  simp only [Nat.add_zero] at hst
  cases hq:P.info? T with
  |none=>simp[hq] at hi
  |some i=>
   have hs:vs.length=i.size:=by simp[hq] at hi;omega
   simp only [Instr.storeAt,Instr.sureAddr,Sem.run_bind,Sem.run_pure,Result.andThen_ok,storeVar,hv,sizeOf,typeInfo]
   simp[hs,hq]
   rw[hst,<-hw]
 ·refine⟨rfl,rfl,rfl,?_,?_⟩
  ·simp[World.setRow]
  ·intro k hk
   simp only [World.setRow,Array.getElem?_modify]
   rw[if_neg (by omega)]
 ·refine⟨⟨T',setRow_heap w g _ _ T' (0,0) hh⟩,?_⟩
  intro v hv
  rw[<-hw] at hv
  simp only [List.mem_append] at hv
  rcases hv with(hv|hv)|hv
  ·exact hcs v (List.mem_of_mem_take hv)
  ·exact hn v hv
  ·exact hcs v (List.mem_of_mem_drop hv)
theorem ou {w:World} {cs:List Value} (T:TypeId) (hn:∀v∈cs,dT v):Own (w.alloc (.cells cs.toArray T)) w.heap.size cs/\Below w.heap.size w (w.alloc (.cells cs.toArray T)):=
 ⟨⟨⟨T,heap_alloc_new w _⟩,hn⟩,(Below.refl _ _).alloc (Nat.le_refl _) _⟩
theorem Own.ne_new {w:World} {g:Nat} {cs:List Value} (h:Own w g cs):g≠w.heap.size:=Nat.ne_of_lt h.lt
theorem mo {w:World} {cs:List Value} {v:Value} (T:TypeId) (hv:v.cells=cs.toArray) (hn:∀v∈cs,dT v):
 ∃g w',w.heap.size=g/\(Instr.box T v).run P w= .ok (.pointer (some ⟨g,0,none⟩)) w'/\Below w.heap.size w w'/\Own w' g cs:=by
 refine⟨w.heap.size,w.alloc (.cells cs.toArray T),rfl,?_,(ou T hn).2,(ou T hn).1⟩
 simp only [Instr.box,newVar,hv]
 simp[newRow,go_sem]
theorem eo {w:World} {cs:List Value} {v:Value} (T:TypeId) (hz:(P.info? T).bind (·.zero)=some v) (hv:v.cells=cs.toArray) (hn:∀v∈cs,dT v):
 ∃g w',w.heap.size=g/\(Instr.alloc T true (.tuple #[])).run P w= .ok (.pointer (some ⟨g,0,none⟩)) w'/\Below w.heap.size w w'/\Own w' g cs:=by
 refine⟨w.heap.size,w.alloc (.cells cs.toArray T),rfl,?_,(ou T hn).2,(ou T hn).1⟩
 cases hq:P.info? T with
 |none=>simp[hq] at hz
 |some i=>
  have hz':i.zero=some v:=by simpa[hq] using hz
  have h0:(zeroValue T).run P w= .ok v w:=by simp[zeroValue,typeInfo,hq,hz',go_sem]
  simp only [Instr.alloc,Sem.run_bind,h0,Result.andThen_ok,newVar,hv]
  simp[newRow,go_sem]
theorem ni0:∀v∈([]:List Value),dT v:=fun _ h=>by cases h
theorem niB {b:Bool} {l:List Value} (h:∀v∈l,dT v):∀v∈(.bool b::l),dT v:=by
 intro v hv
 rcases List.mem_cons.1 hv with rfl|hv
 ·exact cJ b
 ·exact h v hv
theorem niS {ad:Option Addr} {n c:Nat} {l:List Value} (h:∀v∈l,dT v):∀v∈(.slice ad n c::l),dT v:=by
 intro v hv
 rcases List.mem_cons.1 hv with rfl|hv
 ·exact eB ad n c
 ·exact h v hv
theorem oc0:∀v∈([]:List Value),v.oneCell'=true:=fun _ h=>by cases h
theorem ocB {b:Bool} {l:List Value} (h:∀v∈l,v.oneCell'=true):∀v∈(.bool b::l),v.oneCell'=true:=by
 intro v hv
 rcases List.mem_cons.1 hv with rfl|hv
 ·rfl
 ·exact h v hv
theorem ocS {ad:Option Addr} {n c:Nat} {l:List Value} (h:∀v∈l,v.oneCell'=true):∀v∈(.slice ad n c::l),v.oneCell'=true:=by
 intro v hv
 rcases List.mem_cons.1 hv with rfl|hv
 ·rfl
 ·exact h v hv
theorem bp {w:World} {g o f k n:Nat} {T:TypeId} {fs:Array Field} {fd:Field} (hu:P.underlying T=some (.struct fs)) (hf:fs[f]?=some fd) (hk:fd.offset=k) (hi:(P.info? fd.type).map (·.size)=some n) (hn:Nat.ble 1 n=true) (p:Nat) (hp:o+k=p):
 (Instr.fieldAt T (.pointer (some ⟨g,o,none⟩)) f).run P w= .ok (.pointer (some ⟨g,p,none⟩)) w:=by
 subst hk hp
 cases hq:P.info? fd.type with
 |none=>simp[hq] at hi
 |some i=>
  have hs:i.size=n:=by simpa[hq] using hi
  have:i.size≠0:=by have:1≤n:=by simpa using hn
                    omega
  have e:(⟨g,o,none⟩:Addr).add fd.offset=⟨g,o+fd.offset,none⟩:=Addr.add_mid g o fd.offset
  simp only [Instr.fieldAt,Sem.run_bind,run_underlying hu,Result.andThen_ok,hf,Instr.sureAddr,Sem.run_pure,fieldPlace,sizeOf,typeInfo]
  simp[hq,this,e,go_sem]
end
end
section
theorem bh {P:Program} {T:TypeId} {n:Nat} (h:(P.info? T).map (·.size)=some n) (w:World):(sizeOf T).run P w= .ok n w:=by
 cases hq:P.info? T with
 |none=>simp[hq] at h
 |some i=>
  have hs:i.size=n:=by simpa[hq] using h
  simp[sizeOf,typeInfo,hq,hs,go_sem]
theorem dr {P:Program} {T:TypeId} {v:Value} (h:(P.info? T).bind (·.zero)=some v) (w:World):(zeroValue T).run P w= .ok v w:=by
 cases hq:P.info? T with
 |none=>simp[hq] at h
 |some i=>
  have hs:i.zero=some v:=by simpa[hq] using h
  simp[zeroValue,typeInfo,hq,hs,go_sem]
theorem aM:Tryz.prog.follows .mixedOrders =true:=by kernel_rfl
section
variable {P:Program} {w:World}
theorem cO (b c:Bool) (h:(!b)=c):(Op.unary .not (.bool b)).run P w= .ok (.bool c) w:=by subst h;rfl
theorem uM {a:Int} (h0: -9223372036854775808<= -a) (h1: -a<=9223372036854775807):(Op.unary .neg (.int .i64 a)).run P w= .ok (.int .i64 (-a)) w:=by
 have e:IntKind.i64.wrap (-a)= -a:=IntWalk.i64_in _ ⟨h0,by omega⟩
 have e2:(0:Int)-a= -a:=by omega
 show(Op.intArith .sub .i64 0 a).run P w=_
 simp only [Op.intArith,e2,e]
 rfl
theorem aa {op:BinOp} {t:TypeId} {x y:Operand} {k l:IntKind} {a b:Int}:(eqGuard op t x y (.int k a) (.int l b)).run P w= .ok () w:=by
 unfold eqGuard;split <;> rfl
theorem cZ {op:BinOp} {t:TypeId} {x y:Operand} {a b:Bool}:(eqGuard op t x y (.bool a) (.bool b)).run P w= .ok () w:=by
 unfold eqGuard;split <;> rfl
theorem aO {op:BinOp} {t:TypeId} {k:IntKind} {a b:Int} {c:Bool} (h:(Op.intCmp op a b).run P w= .ok (.bool c) w) (ho:op= .eql \/op= .neq \/op= .lss \/op= .leq \/op= .gtr \/op= .geq):(binOp op t (.int k a) (.int k b)).run P w= .ok (.bool c) w:=by
 rcases ho with rfl|rfl|rfl|rfl|rfl|rfl <;> simpa[binOp] using h
theorem aX {t:TypeId} {a b:Int} (h0: -9223372036854775808<=a+b) (h1:a+b<=9223372036854775807):(binOp .add t (.int .i64 a) (.int .i64 b)).run P w= .ok (.int .i64 (a+b)) w:=by
 simp only [binOp,Op.intArith,ne_eq,not_true_eq_false,if_false]
 rw[show(IntKind.i64.wrap (a+b))=a+b from IntWalk.i64_in _ ⟨h0,by omega⟩]
 rfl
theorem bB {t:TypeId} {a b:Int} (h0: -9223372036854775808<=a-b) (h1:a-b<=9223372036854775807):(binOp .sub t (.int .i64 a) (.int .i64 b)).run P w= .ok (.int .i64 (a-b)) w:=by
 simp only [binOp,Op.intArith,ne_eq,not_true_eq_false,if_false]
 rw[show(IntKind.i64.wrap (a-b))=a-b from IntWalk.i64_in _ ⟨h0,by omega⟩]
 rfl
theorem gT {t:TypeId} {a b:Int} (h0: -9223372036854775808<=a*b) (h1:a*b<=9223372036854775807):(binOp .mul t (.int .i64 a) (.int .i64 b)).run P w= .ok (.int .i64 (a*b)) w:=by
 simp only [binOp,Op.intArith,ne_eq,not_true_eq_false,if_false]
 rw[show(IntKind.i64.wrap (a*b))=a*b from IntWalk.i64_in _ ⟨h0,by omega⟩]
 rfl
theorem aV {a b:Int} {c:Bool} (h:decide (a=b)=c):(Op.intCmp .eql a b).run P w= .ok (.bool c) w:=by
 subst h
 simp only [Op.intCmp]
 by_cases e:a=b <;> simp[e,go_sem]
theorem db {a b:Int} {c:Bool} (h:decide (a≠b)=c):(Op.intCmp .neq a b).run P w= .ok (.bool c) w:=by
 subst h
 simp only [Op.intCmp]
 by_cases e:a=b <;> simp[e,go_sem]
theorem aY {a b:Int} {c:Bool} (h:decide (a<b)=c):(Op.intCmp .lss a b).run P w= .ok (.bool c) w:=by
 subst h;simp[Op.intCmp,go_sem]
theorem cg {a b:Int} {c:Bool} (h:decide (a<=b)=c):(Op.intCmp .leq a b).run P w= .ok (.bool c) w:=by
 subst h;simp[Op.intCmp,go_sem]
theorem bT {a b:Int} {c:Bool} (h:decide (b<a)=c):(Op.intCmp .gtr a b).run P w= .ok (.bool c) w:=by
 subst h;simp[Op.intCmp,go_sem]
theorem dI {a b:Int} {c:Bool} (h:decide (b<=a)=c):(Op.intCmp .geq a b).run P w= .ok (.bool c) w:=by
 subst h;simp[Op.intCmp,go_sem]
end
theorem iQ {w:World} {b c d:Bool} (h:(b !=c)=d):(binOp .neq 4 (.bool b) (.bool c)).run Tryz.prog w= .ok (.bool d) w:=by
 subst h
 have h1:=run_equal_bool (P:=Tryz.prog) w 4 b c Tryz.underlying4
 simp only [binOp,Sem.run_bind,h1,Result.andThen_ok,Sem.run_pure]
 cases b <;> cases c <;> rfl
theorem iw {w:World} {b c d:Bool} (h:(b == c)=d):(binOp .eql 4 (.bool b) (.bool c)).run Tryz.prog w= .ok (.bool d) w:=by
 subst h
 have h1:=run_equal_bool (P:=Tryz.prog) w 4 b c Tryz.underlying4
 simp only [binOp,Sem.run_bind,h1,Result.andThen_ok,Sem.run_pure]
theorem yY {w:World} {t:TypeId} {ad:Option Addr} {n c:Nat}:(builtin .len #[29] t #[false] #[.slice ad n c]).run Tryz.prog w= .ok (.value (.int .i64 n)) w:=by
 simp[Builtin.len_,go_sem]
theorem kE {w:World} {t:TypeId} {ad:Option Addr} {n c:Nat}:(builtin .len #[41] t #[false] #[.slice ad n c]).run Tryz.prog w= .ok (.value (.int .i64 n)) w:=by
 simp[Builtin.len_,go_sem]
theorem fb:(Tryz.prog.info? 4).map (·.size)=some 1:=by kernel_rfl
theorem bR {w:World} {g o:Nat} {cs:List Value} {v:Value} (h:Own w g cs) (hv:cs[o]?=some v):(Instr.loadAt 4 (.pointer (some ⟨g,o,none⟩))).run Tryz.prog w= .ok v w:=qy h hv Tryz.underlying4 rfl
theorem mN:(Tryz.prog.info? 29).map (·.size)=some 1:=by kernel_rfl
theorem cW {w:World} {g o:Nat} {cs:List Value} {v:Value} (h:Own w g cs) (hv:cs[o]?=some v):(Instr.loadAt 29 (.pointer (some ⟨g,o,none⟩))).run Tryz.prog w= .ok v w:=qy h hv Tryz.underlying29 rfl
theorem MN:(Tryz.prog.info? 28).map (·.size)=some 1:=by kernel_rfl
theorem qz:(Tryz.prog.info? 41).map (·.size)=some 1:=by kernel_rfl
theorem cB {w:World} {g o:Nat} {cs:List Value} {v:Value} (h:Own w g cs) (hv:cs[o]?=some v):(Instr.loadAt 41 (.pointer (some ⟨g,o,none⟩))).run Tryz.prog w= .ok v w:=qy h hv Tryz.underlying41 rfl
theorem mJ:(Tryz.prog.info? 31).map (·.size)=some 2:=by kernel_rfl
theorem mF:(Tryz.prog.info? 31).bind (·.zero)=some (.agg #[.bool false,.slice none 0 0]):=by kernel_rfl
theorem iX {w:World} {g o:Nat} {cs vs:List Value} (h:Own w g cs) (hv:(cs.drop o).take 2=vs) (hl:vs.length=2):(Instr.loadAt 31 (.pointer (some ⟨g,o,none⟩))).run Tryz.prog w= .ok (.agg vs.toArray) w:=mD h hv hl Tryz.underlying31 rfl mJ
theorem EE {w:World} {g o:Nat} {cs ws vs:List Value} (h:Own w g cs) (hl:vs.length=2) (ho:Nat.ble (o+2) cs.length=true) (h1:∀v∈vs,v.oneCell'=true) (hn:∀v∈vs,dT v) (hw:cs.take o++vs++cs.drop (o+2)=ws):∃w',(∀v:Value,v.cells=vs.toArray->(Instr.storeAt 31 (.pointer (some ⟨g,o,none⟩)) v).run Tryz.prog w= .ok () w')/\dV g w w'/\Own w' g ws:=gY h mJ hl ho h1 hn hw
theorem cL {w:World} {g o p:Nat} (hp:o+0=p):(Instr.fieldAt 31 (.pointer (some ⟨g,o,none⟩)) 0).run Tryz.prog w= .ok (.pointer (some ⟨g,p,none⟩)) w:=bp Tryz.underlying31 rfl rfl fb rfl p hp
theorem cI {w:World} {g o p:Nat} (hp:o+1=p):(Instr.fieldAt 31 (.pointer (some ⟨g,o,none⟩)) 1).run Tryz.prog w= .ok (.pointer (some ⟨g,p,none⟩)) w:=bp Tryz.underlying31 rfl rfl mN rfl p hp
theorem qV (b00:Bool) (a10:Option Addr) (n10 c10:Nat) (w:World):(Instr.build 31 #[(0,.bool b00),(1,.slice a10 n10 c10)]).run Tryz.prog w= .ok (.agg #[.bool b00,.slice a10 n10 c10]) w:=by
 have hz:=dr mF w
 have h_bool:∀w,(sizeOf 4).run Tryz.prog w= .ok 1 w:=fun w=>bh fb w
 have h_Nat:∀w,(sizeOf 29).run Tryz.prog w= .ok 1 w:=fun w=>bh mN w
 simp only [Instr.build,Sem.run_bind,hz,Result.andThen_ok,run_underlying Tryz.underlying31,List.mapM_toArray,List.mapM_cons,List.mapM_nil,Sem.run_map,h_Nat,h_bool,Sem.run_pure]
 rfl
theorem ub (a10:Option Addr) (n10 c10:Nat) (w:World):(Instr.build 31 #[(1,.slice a10 n10 c10)]).run Tryz.prog w= .ok (.agg #[.bool false,.slice a10 n10 c10]) w:=by
 have hz:=dr mF w
 have h_bool:∀w,(sizeOf 4).run Tryz.prog w= .ok 1 w:=fun w=>bh fb w
 have h_Nat:∀w,(sizeOf 29).run Tryz.prog w= .ok 1 w:=fun w=>bh mN w
 simp only [Instr.build,Sem.run_bind,hz,Result.andThen_ok,run_underlying Tryz.underlying31,List.mapM_toArray,List.mapM_cons,List.mapM_nil,Sem.run_map,h_Nat,h_bool,Sem.run_pure]
 rfl
theorem oP:(Tryz.prog.info? 43).map (·.size)=some 2:=by kernel_rfl
theorem nS:(Tryz.prog.info? 43).bind (·.zero)=some (.agg #[.bool false,.slice none 0 0]):=by kernel_rfl
theorem gQ {w:World} {g o:Nat} {cs vs:List Value} (h:Own w g cs) (hv:(cs.drop o).take 2=vs) (hl:vs.length=2):(Instr.loadAt 43 (.pointer (some ⟨g,o,none⟩))).run Tryz.prog w= .ok (.agg vs.toArray) w:=mD h hv hl Tryz.underlying43 rfl oP
theorem eu {w:World} {g o p:Nat} (hp:o+0=p):(Instr.fieldAt 43 (.pointer (some ⟨g,o,none⟩)) 0).run Tryz.prog w= .ok (.pointer (some ⟨g,p,none⟩)) w:=bp Tryz.underlying43 rfl rfl fb rfl p hp
theorem cj {w:World} {g o p:Nat} (hp:o+1=p):(Instr.fieldAt 43 (.pointer (some ⟨g,o,none⟩)) 1).run Tryz.prog w= .ok (.pointer (some ⟨g,p,none⟩)) w:=bp Tryz.underlying43 rfl rfl qz rfl p hp
theorem pI (w:World):(Instr.build 43 #[]).run Tryz.prog w= .ok (.agg #[.bool false,.slice none 0 0]) w:=by
 have hz:=dr nS w
 have h_bool:∀w,(sizeOf 4).run Tryz.prog w= .ok 1 w:=fun w=>bh fb w
 have h_Num:∀w,(sizeOf 41).run Tryz.prog w= .ok 1 w:=fun w=>bh qz w
 simp only [Instr.build,Sem.run_bind,hz,Result.andThen_ok,run_underlying Tryz.underlying43,List.mapM_toArray,List.mapM_cons,List.mapM_nil,Sem.run_map,h_Num,h_bool,Sem.run_pure]
 rfl
theorem hC (a10:Option Addr) (n10 c10:Nat) (w:World):(Instr.build 43 #[(1,.slice a10 n10 c10)]).run Tryz.prog w= .ok (.agg #[.bool false,.slice a10 n10 c10]) w:=by
 have hz:=dr nS w
 have h_bool:∀w,(sizeOf 4).run Tryz.prog w= .ok 1 w:=fun w=>bh fb w
 have h_Num:∀w,(sizeOf 41).run Tryz.prog w= .ok 1 w:=fun w=>bh qz w
 simp only [Instr.build,Sem.run_bind,hz,Result.andThen_ok,run_underlying Tryz.underlying43,List.mapM_toArray,List.mapM_cons,List.mapM_nil,Sem.run_map,h_Num,h_bool,Sem.run_pure]
 rfl
theorem rB:(Tryz.prog.info? 161).map (·.size)=some 2:=by kernel_rfl
theorem E6:(Tryz.prog.info? 161).bind (·.zero)=some (.agg #[.bool false,.slice none 0 0]):=by kernel_rfl
theorem Eh {w:World} {g o:Nat} {cs vs:List Value} (h:Own w g cs) (hv:(cs.drop o).take 2=vs) (hl:vs.length=2):(Instr.loadAt 161 (.pointer (some ⟨g,o,none⟩))).run Tryz.prog w= .ok (.agg vs.toArray) w:=mD h hv hl Tryz.underlying161 rfl rB
theorem xk (b00:Bool) (a10:Option Addr) (n10 c10:Nat) (w:World):(Instr.build 161 #[(0,.bool b00),(1,.slice a10 n10 c10)]).run Tryz.prog w= .ok (.agg #[.bool b00,.slice a10 n10 c10]) w:=by
 have hz:=dr E6 w
 have h_u32s:∀w,(sizeOf 28).run Tryz.prog w= .ok 1 w:=fun w=>bh MN w
 have h_bool:∀w,(sizeOf 4).run Tryz.prog w= .ok 1 w:=fun w=>bh fb w
 simp only [Instr.build,Sem.run_bind,hz,Result.andThen_ok,run_underlying Tryz.underlying161,List.mapM_toArray,List.mapM_cons,List.mapM_nil,Sem.run_map,h_bool,h_u32s,Sem.run_pure]
 rfl
theorem kd:(Tryz.prog.info? 33).map (·.size)=some 3:=by kernel_rfl
theorem lE:(Tryz.prog.info? 33).bind (·.zero)=some (.agg #[.bool false,.slice none 0 0,.slice none 0 0]):=by kernel_rfl
theorem fM {w:World} {g o:Nat} {cs vs:List Value} (h:Own w g cs) (hv:(cs.drop o).take 3=vs) (hl:vs.length=3):(Instr.loadAt 33 (.pointer (some ⟨g,o,none⟩))).run Tryz.prog w= .ok (.agg vs.toArray) w:=mD h hv hl Tryz.underlying33 rfl kd
theorem qn {w:World} {g o:Nat} {cs ws vs:List Value} (h:Own w g cs) (hl:vs.length=3) (ho:Nat.ble (o+3) cs.length=true) (h1:∀v∈vs,v.oneCell'=true) (hn:∀v∈vs,dT v) (hw:cs.take o++vs++cs.drop (o+3)=ws):∃w',(∀v:Value,v.cells=vs.toArray->(Instr.storeAt 33 (.pointer (some ⟨g,o,none⟩)) v).run Tryz.prog w= .ok () w')/\dV g w w'/\Own w' g ws:=gY h kd hl ho h1 hn hw
theorem dH {w:World} {g o p:Nat} (hp:o+0=p):(Instr.fieldAt 33 (.pointer (some ⟨g,o,none⟩)) 0).run Tryz.prog w= .ok (.pointer (some ⟨g,p,none⟩)) w:=bp Tryz.underlying33 rfl rfl mJ rfl p hp
theorem pT {w:World} {g o p:Nat} (hp:o+2=p):(Instr.fieldAt 33 (.pointer (some ⟨g,o,none⟩)) 1).run Tryz.prog w= .ok (.pointer (some ⟨g,p,none⟩)) w:=bp Tryz.underlying33 rfl rfl mN rfl p hp
theorem jK (w:World):(Instr.build 33 #[]).run Tryz.prog w= .ok (.agg #[.bool false,.slice none 0 0,.slice none 0 0]) w:=by
 have hz:=dr lE w
 have h_Nat:∀w,(sizeOf 29).run Tryz.prog w= .ok 1 w:=fun w=>bh mN w
 have h_Int:∀w,(sizeOf 31).run Tryz.prog w= .ok 2 w:=fun w=>bh mJ w
 simp only [Instr.build,Sem.run_bind,hz,Result.andThen_ok,run_underlying Tryz.underlying33,List.mapM_toArray,List.mapM_cons,List.mapM_nil,Sem.run_map,h_Int,h_Nat,Sem.run_pure]
 rfl
theorem wO (b00:Bool) (a01:Option Addr) (n01 c01:Nat) (a10:Option Addr) (n10 c10:Nat) (w:World):(Instr.build 33 #[(0,.agg #[.bool b00,.slice a01 n01 c01]),(1,.slice a10 n10 c10)]).run Tryz.prog w= .ok (.agg #[.bool b00,.slice a01 n01 c01,.slice a10 n10 c10]) w:=by
 have hz:=dr lE w
 have h_Nat:∀w,(sizeOf 29).run Tryz.prog w= .ok 1 w:=fun w=>bh mN w
 have h_Int:∀w,(sizeOf 31).run Tryz.prog w= .ok 2 w:=fun w=>bh mJ w
 simp only [Instr.build,Sem.run_bind,hz,Result.andThen_ok,run_underlying Tryz.underlying33,List.mapM_toArray,List.mapM_cons,List.mapM_nil,Sem.run_map,h_Int,h_Nat,Sem.run_pure]
 rfl
theorem mh:(Tryz.prog.info? 45).map (·.size)=some 3:=by kernel_rfl
theorem sC:(Tryz.prog.info? 45).bind (·.zero)=some (.agg #[.bool false,.slice none 0 0,.slice none 0 0]):=by kernel_rfl
theorem ml {w:World} {g o:Nat} {cs vs:List Value} (h:Own w g cs) (hv:(cs.drop o).take 3=vs) (hl:vs.length=3):(Instr.loadAt 45 (.pointer (some ⟨g,o,none⟩))).run Tryz.prog w= .ok (.agg vs.toArray) w:=mD h hv hl Tryz.underlying45 rfl mh
theorem vS {w:World} {g o:Nat} {cs ws vs:List Value} (h:Own w g cs) (hl:vs.length=3) (ho:Nat.ble (o+3) cs.length=true) (h1:∀v∈vs,v.oneCell'=true) (hn:∀v∈vs,dT v) (hw:cs.take o++vs++cs.drop (o+3)=ws):∃w',(∀v:Value,v.cells=vs.toArray->(Instr.storeAt 45 (.pointer (some ⟨g,o,none⟩)) v).run Tryz.prog w= .ok () w')/\dV g w w'/\Own w' g ws:=gY h mh hl ho h1 hn hw
theorem fi {w:World} {g o p:Nat} (hp:o+0=p):(Instr.fieldAt 45 (.pointer (some ⟨g,o,none⟩)) 0).run Tryz.prog w= .ok (.pointer (some ⟨g,p,none⟩)) w:=bp Tryz.underlying45 rfl rfl oP rfl p hp
theorem fE {w:World} {g o p:Nat} (hp:o+2=p):(Instr.fieldAt 45 (.pointer (some ⟨g,o,none⟩)) 1).run Tryz.prog w= .ok (.pointer (some ⟨g,p,none⟩)) w:=bp Tryz.underlying45 rfl rfl qz rfl p hp
theorem kr (b00:Bool) (a01:Option Addr) (n01 c01:Nat) (a10:Option Addr) (n10 c10:Nat) (w:World):(Instr.build 45 #[(0,.agg #[.bool b00,.slice a01 n01 c01]),(1,.slice a10 n10 c10)]).run Tryz.prog w= .ok (.agg #[.bool b00,.slice a01 n01 c01,.slice a10 n10 c10]) w:=by
 have hz:=dr sC w
 have h_Num:∀w,(sizeOf 41).run Tryz.prog w= .ok 1 w:=fun w=>bh qz w
 have h_RInt:∀w,(sizeOf 43).run Tryz.prog w= .ok 2 w:=fun w=>bh oP w
 simp only [Instr.build,Sem.run_bind,hz,Result.andThen_ok,run_underlying Tryz.underlying45,List.mapM_toArray,List.mapM_cons,List.mapM_nil,Sem.run_map,h_Num,h_RInt,Sem.run_pure]
 rfl
theorem MM:(Tryz.prog.info? 164).bind (·.zero)=some (.agg #[.bool false,.slice none 0 0,.bool false,.slice none 0 0]):=by kernel_rfl
theorem EK {w:World} {g o p:Nat} (hp:o+0=p):(Instr.fieldAt 164 (.pointer (some ⟨g,o,none⟩)) 0).run Tryz.prog w= .ok (.pointer (some ⟨g,p,none⟩)) w:=bp Tryz.underlying164 rfl rfl rB rfl p hp
theorem E3 {w:World} {g o p:Nat} (hp:o+2=p):(Instr.fieldAt 164 (.pointer (some ⟨g,o,none⟩)) 1).run Tryz.prog w= .ok (.pointer (some ⟨g,p,none⟩)) w:=bp Tryz.underlying164 rfl rfl rB rfl p hp
theorem Ea (b00:Bool) (a01:Option Addr) (n01 c01:Nat) (b10:Bool) (a11:Option Addr) (n11 c11:Nat) (w:World):(Instr.build 164 #[(0,.agg #[.bool b00,.slice a01 n01 c01]),(1,.agg #[.bool b10,.slice a11 n11 c11])]).run Tryz.prog w= .ok (.agg #[.bool b00,.slice a01 n01 c01,.bool b10,.slice a11 n11 c11]) w:=by
 have hz:=dr MM w
 have h_Raw:∀w,(sizeOf 161).run Tryz.prog w= .ok 2 w:=fun w=>bh rB w
 simp only [Instr.build,Sem.run_bind,hz,Result.andThen_ok,run_underlying Tryz.underlying164,List.mapM_toArray,List.mapM_cons,List.mapM_nil,Sem.run_map,h_Raw,Sem.run_pure]
 rfl
end
section
end
section
section
variable {P:Program} {ops:Array Oper} {Q:Exit->Act->World->Prop}
def Mk (R:World->Value->Prop):Prop:=∀w w' v,R w v->eO w w'->R w' v
def tV:List (World->Value->Prop)->Prop
 |[]=>True
 |R::l=>Mk R/\tV l
theorem tV.at:∀(Hs:List (World->Value->Prop)),tV Hs->∀i,Mk (Hat Hs i)
 |[],_,_=>fun _ _ _ _ _=>trivial
 |R::l,h,0=>h.1
 |R::l,h,i+1=>tV.at l h.2 i
theorem Mk.eq (u:Value):Mk (fun _ v=>v=u):=fun _ _ _ h _=>h
theorem Mk.any:Mk (fun _ _=>True):=fun _ _ _ h _=>h
structure Sto where
 at_:Nat
 blk:Nat
 val:Nat
def Jc (st:List Sto) (Z:Nat->List Value) (ds:List (Option Nat)) (d:Nat->Bool) (a:Act) (i:Nat) (cs:List Value):Prop:=
 ((∀t∈st,t.blk≠i)->cs=Z i)/\∀t∈st,t.blk=i->(d t.at_=false->cs=Z i)/\(d t.at_=true->∀s,ds[t.val]?=some (some s)->(a.tmps.getD s undef).cells =cs.toArray)
structure rc (nt n:Nat) (L:List (Nat×Value)) (ds:List (Option Nat)) (al:List Nat) (st:List Sto) (Z:Nat->List Value) (H:Nat->World->Value->Prop) (W:World) (d:Nat->Bool) (a:Act) (w:World):Prop where
 fr:Fr nt a L
 bel:Below W.heap.size W w
 has:∀i s,i<n->ds[i]?=some (some s)->al.contains i=false->d i=true->H i w (a.tmps.getD s undef)
 blk:∀i s,i<n->ds[i]?=some (some s)->al.contains i=true->d i=true->∃g cs,a.tmps.getD s undef= .pointer (some ⟨g,0,none⟩)/\W.heap.size<=g/\Own w g cs/\Jc st Z ds d a i cs
 ne:∀i j s t,i<n->j<n->al.contains i=true->al.contains j=true->i≠j->ds[i]?=some (some s)->ds[j]?=some (some t)->d i=true->d j=true->a.tmps.getD s undef≠a.tmps.getD t undef
 vald:∀t∈st,d t.at_=true->d t.val=true
def mi (ds:List (Option Nat)):List Nat:=ds.filterMap id
def oX (ds:List (Option Nat)) (nt:Nat) (L:List (Nat×Value)):Bool:=kC (mi ds) && (mi ds).all fun d=>Nat.blt d nt && bz d L
theorem tp:∀(ds:List (Option Nat)),kC (mi ds)=true->∀i j s:Nat,ds[i]?=some (some s)->ds[j]?=some (some s)->i=j
 |[],_,i,_,_,h,_=>by simp at h
 |none::l,h,i,j,s,hi,hj=>by
  match i,j with
  |0,_=>simp at hi
  |_,0=>simp at hj
  |i+1,j+1=>rw[tp l h i j s (by simpa using hi) (by simpa using hj)]
 |some x::l,h,i,j,s,hi,hj=>by
  have h2:(l.filterMap id).all (fun y=>!(Nat.beq y x))=true/\kC (mi l)=true:=by
   unfold mi at h
   rw[List.filterMap_cons_some (by rfl)] at h
   unfold kC at h
   rw[Bool.and_eq_true] at h
   exact h
  have far:∀k:Nat,l[k]?=some (some x)->False:=by
   intro k hk
   have hm:x∈l.filterMap id:=List.mem_filterMap.2 ⟨some x,List.mem_of_getElem? hk,rfl⟩
   have:=(List.all_eq_true.1 h2.1) x hm
   simp at this
  match i,j with
  |0,0=>rfl
  |0,j+1=>
   have e:x=s:=by simpa using hi
   subst e
   exact(far j (by simpa using hj)).elim
  |i+1,0=>
   have e:x=s:=by simpa using hj
   subst e
   exact(far i (by simpa using hi)).elim
  |i+1,j+1=>rw[tp l h2.2 i j s (by simpa using hi) (by simpa using hj)]
theorem GO {ds:List (Option Nat)} {nt:Nat} {L:List (Nat×Value)} (h:oX ds nt L=true) {i s:Nat} (hs:ds[i]?=some (some s)):s<nt/\bz s L=true:=by
 unfold oX at h
 rw[Bool.and_eq_true,List.all_eq_true] at h
 have:=h.2 s (List.mem_filterMap.2 ⟨some s,List.mem_of_getElem? hs,rfl⟩)
 rw[Bool.and_eq_true] at this
 exact⟨by simpa using this.1,this.2⟩
theorem rc.one {nt n:Nat} {L:List (Nat×Value)} {ds:List (Option Nat)} {al:List Nat} {st:List Sto} {Z:Nat->List Value} {H:Nat->World->Value->Prop} {W:World} {d:Nat->Bool} {a:Act} {w w':World} {i s:Nat} {v:Value}
 (hmono:∀i,Mk (H i)) (hap:oX ds nt L=true) (hst:∀t∈st,ds[t.at_]?=some none) (hp:rc nt n L ds al st Z H W d a w) (hs:ds[i]?=some (some s)) (hd:d i=false) (hb:Below w.heap.size w w')
 (hv:al.contains i=false->H i w' v) (ha:al.contains i=true->v= .pointer (some ⟨w.heap.size,0,none⟩)/\Own w' w.heap.size (Z i)) (hnb:∀t∈st,t.blk=i->d t.at_=false):
 rc nt n L ds al st Z H W (up d i) (a.put (some s) v) w':=by
 obtain⟨hlt,hfr⟩:=GO hap hs
 have hnd:kC (mi ds)=true:=by unfold oX at hap;rw[Bool.and_eq_true] at hap;exact hap.1
 have hsame:(a.put (some s) v).tmps.getD s undef=v:=fY (by rw[hp.fr.size];exact hlt)
 have hdiff:∀j t,ds[j]?=some (some t)->j≠i->(a.put (some s) v).tmps.getD t undef=a.tmps.getD t undef:=by
  intro j t ht hne
  refine gy ?_
  intro e
  subst e
  exact hne (tp ds hnd j i s ht hs)
 have hat:∀t∈st,t.at_≠i:=by
  intro t ht e
  have:=hst t ht
  rw[e,hs] at this
  cases this
 have hupat:∀t∈st,up d i t.at_=d t.at_:=fun t ht=>by unfold up;rw[if_neg (hat t ht)]
 have kp:eO w w':=Below.keep hb
 refine⟨hp.fr.over hfr,hp.bel.trans (hb.mono hp.bel.size),?_,?_,?_,?_⟩
 ·intro j t hj ht hal hdj
  by_cases e:j=i
  ·subst e
   rw[hs] at ht
   obtain rfl:s=t:=by injection ht with ht;injection ht
   rw[hsame];exact hv hal
  ·rw[hdiff j t ht e]
   exact hmono _ _ _ _ (hp.has j t hj ht hal (fV hdj e)) kp
 ·intro j t hj ht hal hdj
  by_cases e:j=i
  ·subst e
   rw[hs] at ht
   obtain rfl:s=t:=by injection ht with ht;injection ht
   obtain⟨e1,e2⟩:=ha hal
   refine⟨w.heap.size,Z j,by rw[hsame];exact e1,hp.bel.size,e2,fun _=>rfl,fun t ht hb=>⟨fun _=>rfl,fun hdt=>?_⟩⟩
   rw[hupat t ht,hnb t ht hb] at hdt
   cases hdt
  ·obtain⟨g,cs,h1,h2,h3,h4,h5⟩:=hp.blk j t hj ht hal (fV hdj e)
   refine⟨g,cs,by rw[hdiff j t ht e];exact h1,h2,h3.below hb,h4,fun t ht hb=>⟨fun hdt=>(h5 t ht hb).1 (by rw[<-hupat t ht];exact hdt),fun hdt s' hs'=>?_⟩⟩
   rw[hupat t ht] at hdt
   have hvi:t.val≠i:=by
    intro e'
    have:=hp.vald t ht hdt
    rw[e',hd] at this
    cases this
   rw[hdiff t.val s' hs' hvi]
   exact(h5 t ht hb).2 hdt s' hs'
 ·intro j k t u hj hk aj ak hjk ht hu dj dk
  have old:∀m x,m<n->al.contains m=true->ds[m]?=some (some x)->m≠i->up d i m=true->al.contains i=true->(a.put (some s) v).tmps.getD x undef≠v:=by
   intro m x hm am hx hne dm ai
   rw[hdiff m x hx hne,(ha ai).1]
   obtain⟨g,cs,e1,_,e3,_⟩:=hp.blk m x hm hx am (fV dm hne)
   rw[e1]
   intro e
   injection e with e;injection e with e;injection e with e
   have:=e3.lt
   omega
  by_cases e:j=i
  ·subst e
   rw[hs] at ht
   obtain rfl:s=t:=by injection ht with ht;injection ht
   rw[hsame]
   exact(old k u hk ak hu (Ne.symm hjk) dk aj).symm
  ·by_cases e':k=i
   ·subst e'
    rw[hs] at hu
    obtain rfl:s=u:=by injection hu with hu;injection hu
    rw[hsame]
    exact old j t hj aj ht e dj ak
   ·rw[hdiff j t ht e,hdiff k u hu e']
    exact hp.ne j k t u hj hk aj ak hjk ht hu (fV dj e) (fV dk e')
 ·intro t ht hdt
  rw[hupat t ht] at hdt
  have:=hp.vald t ht hdt
  unfold up
  split
  ·rfl
  ·exact this
theorem rc.sto {nt n:Nat} {L:List (Nat×Value)} {ds:List (Option Nat)} {al:List Nat} {st:List Sto} {Z:Nat->List Value} {H:Nat->World->Value->Prop} {W:World} {d:Nat->Bool} {a:Act} {w w':World} {t:Sto} {sb sv g:Nat} {cs:List Value}
 (hmono:∀i,Mk (H i)) (hst:∀t∈st,ds[t.at_]?=some none) (huniq:∀t∈st,∀u∈st,t.blk=u.blk->t=u) (hinj:∀t∈st,∀u∈st,t.at_=u.at_->t=u) (hp:rc nt n L ds al st Z H W d a w) (ht:t∈st) (hbn:t.blk<n) (hal:al.contains t.blk=true)
 (hsb:ds[t.blk]?=some (some sb)) (hsv:ds[t.val]?=some (some sv)) (hdb:d t.blk=true) (hdv:d t.val=true) (hg:a.tmps.getD sb undef= .pointer (some ⟨g,0,none⟩)) {zs:List Value} (ho:Own w g zs) (htu:dV g w w') (hown:Own w' g cs) (hcs:(a.tmps.getD sv undef).cells =cs.toArray) (hWg:W.heap.size<=g):
 rc nt n L ds al st Z H W (up d t.at_) a w':=by
 have kp:=htu.keep ho
 have hne:∀j s,ds[j]?=some (some s)->j≠t.at_:=by
  intro j s hj e
  rw[e,hst t ht] at hj
  cases hj
 refine⟨hp.fr,htu.below hp.bel hWg,?_,?_,?_,?_⟩
 ·intro j s hj hs ha hdj
  exact hmono _ _ _ _ (hp.has j s hj hs ha (fV hdj (hne j s hs))) kp
 ·intro j s hj hs ha hdj
  obtain⟨g',cs',h1,h2,h3,h4,h5⟩:=hp.blk j s hj hs ha (fV hdj (hne j s hs))
  by_cases e:j=t.blk
  ·subst e
   rw[hsb] at hs
   obtain rfl:sb=s:=by injection hs with hs;injection hs
   refine⟨g,cs,hg,hWg,hown,fun hn=>absurd rfl (hn t ht),fun u hu hb=>?_⟩
   obtain rfl:=huniq t ht u hu hb.symm
   refine⟨fun hdt=>?_,fun _ s' hs'=>?_⟩
   ·rw[ww] at hdt;cases hdt
   ·rw[hsv] at hs'
    obtain rfl:sv=s':=by injection hs' with hs';injection hs'
    exact hcs
  ·have hgg:g'≠g:=by
    intro e'
    refine hp.ne j t.blk s sb hj hbn ha hal e hs hsb (fV hdj (hne j s hs)) hdb ?_
    rw[h1,hg,e']
   refine⟨g',cs',h1,h2,htu.own h3 hgg,h4,fun u hu hb=>?_⟩
   have hua:u.at_≠t.at_:=fun e'=>e (by rw[<-hb,hinj u hu t ht e'])
   have hup:up d t.at_ u.at_=d u.at_:=by unfold up;rw[if_neg hua]
   rw[hup]
   exact h5 u hu hb
 ·intro j k s u hj hk aj ak hjk hs hu dj dk
  exact hp.ne j k s u hj hk aj ak hjk hs hu (fV dj (hne j s hs)) (fV dk (hne k u hu))
 ·intro u hu hdu
  by_cases e:u.at_=t.at_
  ·obtain rfl:=hinj u hu t ht e
   unfold up;split
   ·rfl
   ·exact hdv
  ·have:=hp.vald u hu (fV hdu e)
   unfold up;split
   ·rfl
   ·exact this
def od (P:Program) (ops:Array Oper) (Q:Exit->Act->World->Prop) (nt:Nat) (L:List (Nat×Value)) (W:World) (ds:List (Option Nat)) (Hs:List (World->Value->Prop)) (al:List Nat) (st:List Sto) (Z:Nat->List Value) (i:Nat) (o:Oper):Prop:=
 (∀t∈st,t.at_=i->∃(T:TypeId) (sb sv k:Nat),o.op= .store T (.tmp sb) (.tmp sv)/\o.guard=none/\o.dst=none/\ds[t.blk]?=some (some sb)/\ds[t.val]?=some (some sv)/\(P.info? T).map (·.size)=some k/\(Z t.blk).length =k/\al.contains t.blk=true/\al.contains t.val=false/\
   (∀w v,Hat Hs t.val w v->∃cs:List Value,v.cells=cs.toArray/\cs.length=k/\(∀x∈cs,dT x)/\(∀x∈cs,x.oneCell'=true)))/\
 ((∀t∈st,t.at_≠i)->∀(a':Act) (w':World),Fr nt a' L->Below W.heap.size W w'->(∀(e:Edge) (s:Nat),e∈o.after->Region.binds .any e=true->al.contains e.on=false->ds[e.on]?=some (some s)->Hat Hs e.on w' (a'.tmps.getD s undef))->
   if Region.wanted o (yielded ops a'.tmps)=true then bG P Q o a' w' (fun v w''=>(al.contains i=false->Hat Hs i w'' v)/\Below w'.heap.size w' w''/\(al.contains i=true->v= .pointer (some ⟨w'.heap.size,0,none⟩)/\Own w'' w'.heap.size (Z i))) else Hat Hs i w' undef/\al.contains i=false)
def I2 (ops:Array Oper) (n:Nat) (ds:List (Option Nat)) (al:List Nat) (st:List Sto):Bool:=
 st.all fun t=>Nat.blt t.at_ n && Nat.blt t.blk n && Nat.blt t.val n && (ds[t.at_]? == some none) && de ops t.at_ t.blk && de ops t.at_ t.val && st.all fun u=>(!(Nat.beq t.blk u.blk) || Nat.beq t.at_ u.at_) && (!(Nat.beq t.at_ u.at_) || (Nat.beq t.blk u.blk && Nat.beq t.val u.val))
def HJ (ds:List (Option Nat)) (st:List Sto):Bool:=(List.range ds.length).all fun i=>(ds[i]? !=some none) || st.any fun t=>Nat.beq t.at_ i
theorem E.region2 {nt n id:Nat} {L:List (Nat×Value)} {a:Act} {w:World} (hm:P.follows .mixedOrders =true) (hF:Fr nt a L) (ds:List (Option Nat)) (al:List Nat) (st:List Sto) (Z:Nat->List Value) (Hs:List (World->Value->Prop))
 (hback:dc ops=true) (hw:eX ops n=true) (hn:Nat.ble n ops.size=true) (hds:eR ops n=ds) (hap:oX ds nt L=true) (hso:I2 ops n ds al st=true) (hdo:HJ ds st=true)
 (hmono:tV Hs)
 (step:∀(i:Nat) (o:Oper),i<n->ops[i]?=some o->od P ops Q nt L w ds Hs al st Z i o)
 (tail:∀(a':Act) (w':World),Fr nt a' L->Below w.heap.size w w'->(∀(i s:Nat),al.contains i=false->ds[i]?=some (some s)->Hat Hs i w' (a'.tmps.getD s undef))->
   (∀(i s:Nat),al.contains i=true->ds[i]?=some (some s)->∃g cs,a'.tmps.getD s undef= .pointer (some ⟨g,0,none⟩)/\w.heap.size<=g/\Own w' g cs/\Jc st Z ds (fun _=>true) a' i cs)->
   (∀(i j s t:Nat),al.contains i=true->al.contains j=true->i≠j->ds[i]?=some (some s)->ds[j]?=some (some t)->a'.tmps.getD s undef≠a'.tmps.getD t undef)->wpS P ops Q (ops.toList.drop n) a' w'):
 (Code.region id ops true).wp P Q a w:=by
 have hn':n<=ops.size:=by simpa using hn
 have hlen:ds.length=n:=by
  have:=congrArg List.length hds
  unfold eR at this
  simp at this
  omega
 have hso':∀t∈st,t.at_<n/\t.blk<n/\t.val<n/\ds[t.at_]?=some none/\de ops t.at_ t.blk=true/\de ops t.at_ t.val=true/\∀u∈st,(t.blk=u.blk->t.at_=u.at_)/\(t.at_=u.at_->t.blk=u.blk/\t.val=u.val):=by
  intro t ht
  unfold I2 at hso
  rw[List.all_eq_true] at hso
  have h:=hso t ht
  simp only [Bool.and_eq_true,List.all_eq_true,Bool.or_eq_true,Bool.not_eq_true',Nat.blt_eq,beq_iff_eq] at h
  obtain⟨⟨⟨⟨⟨⟨h1,h2⟩,h3⟩,h4⟩,h5⟩,h6⟩,h7⟩:=h
  refine⟨h1,h2,h3,h4,h5,h6,fun u hu=>⟨fun e=>?_,fun e=>?_⟩⟩
  ·rcases(h7 u hu).1 with h8|h8
   ·rw[e] at h8;simp at h8
   ·simpa using h8
  ·rcases(h7 u hu).2 with h8|h8
   ·rw[e] at h8;simp at h8
   ·exact⟨by simpa using h8.1,by simpa using h8.2⟩
 have hst:∀t∈st,ds[t.at_]?=some none:=fun t ht=>(hso' t ht).2.2.2.1
 have hinj:∀t∈st,∀u∈st,t.at_=u.at_->t=u:=by
  intro t ht u hu e
  obtain⟨h1,h2⟩:=((hso' t ht).2.2.2.2.2.2 u hu).2 e
  cases t;cases u;simp_all
 have huniq:∀t∈st,∀u∈st,t.blk=u.blk->t=u:=fun t ht u hu e=>hinj t ht u hu (((hso' t ht).2.2.2.2.2.2 u hu).1 e)
 have isst:∀i,i<n->ds[i]?=some none->∃t∈st,t.at_=i:=by
  intro i hi h
  unfold HJ at hdo
  rw[List.all_eq_true] at hdo
  have:=hdo i (List.mem_range.2 (by omega))
  rw[h] at this
  simp only [bne_self_eq_false,Bool.false_or,List.any_eq_true] at this
  obtain⟨t,ht,e⟩:=this
  exact⟨t,ht,by simpa using e⟩
 have hmk:∀i,Mk (Hat Hs i):=fun i=>tV.at Hs hmono i
 have tail':∀(d:Nat->Bool) (a':Act) (w':World),(∀j,j<n->d j=true)->rc nt n L ds al st Z (Hat Hs) w d a' w'->wpS P ops Q (ops.toList.drop n) a' w':=by
  intro d a' w' hd hp
  have lt:∀i s,ds[i]?=some (some s)->i<n:=fun i s h=>by have:=(List.getElem?_eq_some_iff.1 h).1;omega
  refine tail a' w' hp.fr hp.bel (fun i s ha hs=>hp.has i s (lt i s hs) hs ha (hd i (lt i s hs))) (fun i s ha hs=>?_) (fun i j s t ai aj hij hs ht=>hp.ne i j s t (lt i s hs) (lt j t ht) ai aj hij hs ht (hd i (lt i s hs)) (hd j (lt j t ht)))
  obtain⟨g,cs,h1,h2,h3,h4,h5⟩:=hp.blk i s (lt i s hs) hs ha (hd i (lt i s hs))
  exact⟨g,cs,h1,h2,h3,h4,fun t ht hb=>⟨(fun h=>by cases h),fun _=>(h5 t ht hb).2 (hd _ (hso' t ht).1)⟩⟩
 refine iu hm hback (fun d a' w'=>qT ops d/\(((∀j,n<=j->d j=false)/\rc nt n L ds al st Z (Hat Hs) w d a' w')\/(∃k,n<=k/\(∀j,d j=decide (j<k))/\wpS P ops Q (ops.toList.drop k) a' w'))) ?_ ?_ ?_
 ·refine⟨(fun m j _ h=>by cases h),.inl ⟨fun _ _=>rfl,?_⟩⟩
  exact⟨hF,(Below.refl _ _).drew,(fun _ _ _ _ _ h=>by cases h),(fun _ _ _ _ _ h=>by cases h),(fun _ _ _ _ _ _ _ _ _ _ _ h=>by cases h),(fun _ _ h=>by cases h)⟩
 ·rintro d a' w' ⟨hs,hI⟩ i o ho hdi hdep K hK
  have hi:i<ops.size:=(Array.getElem?_eq_some_iff.1 ho).1
  have hdep':∀j,de ops i j=true->d j=true:=by
   intro j hj
   obtain⟨e,he,hb,rfl⟩:=(me ho).1 hj
   exact hdep e he hb
  have two:∀k,n<=k->(∀j,d j=decide (j<k))->wpS P ops Q (ops.toList.drop k) a' w'->if Region.wanted o (yielded ops a'.tmps)=true then Oper.wp P o a' w' K Q else K (a'.put o.dst undef) w':=by
   intro k hnk hdk h
   have hki:k<=i:=by
    have h1:=hdk i
    rw[hdi] at h1
    have:¬i<k:=by simpa using h1.symm
    omega
   have hik:i=k:=by
    by_cases e:i=k
    ·exact e
    ·exfalso
     have h1:=ic hw hi (by omega) hs hdep' k (by omega)
     rw[hdk k,decide_eq_false (by omega)] at h1
     cases h1
   subst hik
   have hdrop:ops.toList.drop i=o::ops.toList.drop (i+1):=by
    rw[List.drop_eq_getElem_cons (by simpa using hi)]
    congr 1
    rw[Array.getElem?_eq_getElem hi] at ho
    simpa using ho
   rw[hdrop] at h
   unfold wpS at h
   have next:∀j,up d i j=decide (j<i+1):=by
    intro j
    unfold up
    by_cases e:j=i
    ·rw[if_pos e];exact(decide_eq_true (by omega)).symm
    ·rw[if_neg e,hdk j]
     by_cases e':j<i
     ·rw[decide_eq_true e',decide_eq_true (by omega)]
     ·rw[decide_eq_false e',decide_eq_false (by omega)]
   split
   ·rename_i hwd
    rw[if_pos hwd] at h
    exact Oper.wp_mono (fun a w h=>hK a w ⟨hs.one hdep',.inr ⟨i+1,by omega,next,h⟩⟩) h
   ·rename_i hwd
    rw[if_neg hwd] at h
    exact hK _ _ ⟨hs.one hdep',.inr ⟨i+1,by omega,next,h⟩⟩
  rcases hI with⟨hno,hp⟩|⟨k,hnk,hdk,h⟩
  ·by_cases hin:i<n
   ·have hno':∀j,n<=j->up d i j=false:=fun j hj=>by unfold up;rw[if_neg (by omega)];exact hno j hj
    have hdsi:ds[i]?=some o.dst:=by
     rw[<-hds]
     unfold eR
     rw[List.getElem?_map,List.getElem?_take,if_pos hin]
     simp[ho]
    obtain⟨hS1,hS2⟩:=step i o hin ho
    cases hdst:o.dst with
    |none=>
     rw[hdst] at hdsi
     obtain⟨t,ht,e⟩:=isst i hin hdsi
     obtain⟨T,sb,sv,k,hop,hgd,_,hsb,hsv,hsz,hzl,hab,hav,hcell⟩:=hS1 t ht e
     subst e
     obtain⟨_,hbn,hvn,_,heb,hev,_⟩:=hso' t ht
     obtain⟨g,zs,hg,hWg,hown,_,hc2⟩:=hp.blk t.blk sb hbn hsb hab (hdep' _ heb)
     have hz:zs=Z t.blk:=(hc2 t ht rfl).1 hdi
     obtain⟨cs,hcs,hcl,hcn,hc1⟩:=hcell _ _ (hp.has t.val sv hvn hsv hav (hdep' _ hev))
     subst hz
     obtain⟨w2,hr,htu,ho2⟩:=gY (P:=P) (o:=0) (vs:=cs) (ws:=cs) (T:=T) hown hsz hcl (by simp[hzl]) hc1 hcn (by simp[List.drop_eq_nil_of_le,hzl])
     rw[if_pos (by simp[Region.wanted,hgd])]
     have hrun:(execOp a'.eval o).run P w'= .ok .skip w2:=by
      obtain⟨odst,oop,oty,opos,oaf,ogd⟩:=o
      simp only at hop
      subst hop
      exact cT (p:= .pointer (some ⟨g,0,none⟩)) hg rfl (hr _ hcs)
     unfold Oper.wp
     rw[hrun]
     refine hK _ _ ⟨hs.one hdep',.inl ⟨hno',?_⟩⟩
     rw[hdst]
     exact hp.sto hmk hst huniq hinj ht hbn hab hsb hsv (hdep' _ heb) (hdep' _ hev) hg hown htu ho2 hcs hWg
    |some s=>
     rw[hdst] at hdsi
     have hnst:∀t∈st,t.at_≠i:=fun t ht e=>by
      have h1:=hst t ht
      rw[e,hdsi] at h1
      cases h1
     have hnb:∀t∈st,t.blk=i->d t.at_=false:=by
      intro t ht e
      cases hdt:d t.at_ with
      |false=>rfl
      |true=>
       have:=hs _ _ (hso' t ht).2.2.2.2.1 hdt
       rw[e,hdi] at this
       cases this
     have hst2:=hS2 hnst a' w' hp.fr hp.bel (fun e t he hb ha ht=>hp.has e.on t (by have:=(List.getElem?_eq_some_iff.1 ht).1;omega) ht ha (hdep e he hb))
     split
     ·rename_i hwd
      rw[if_pos hwd] at hst2
      refine hst2 K fun v w'' ⟨hv,hb,ha⟩=>hK _ _ ⟨hs.one hdep',.inl ⟨hno',?_⟩⟩
      rw[hdst]
      exact hp.one hmk hap hst hdsi hdi hb hv ha hnb
     ·rename_i hwd
      rw[if_neg hwd] at hst2
      refine hK _ _ ⟨hs.one hdep',.inl ⟨hno',?_⟩⟩
      exact hp.one hmk hap hst hdsi hdi (Below.refl _ _) (fun _=>hst2.1) (fun h=>by rw[hst2.2] at h;cases h) hnb
   ·have hall:=ic hw hi (by omega) hs hdep'
    have hni:n=i:=by
     by_cases e:n=i
     ·exact e
     ·exfalso
      have h1:=hall n (by omega)
      rw[hno n (Nat.le_refl n)] at h1
      cases h1
    refine two n (Nat.le_refl n) (fun j=>?_) (tail' d a' w' (fun j hj=>hall j (by omega)) hp)
    by_cases e:j<n
    ·rw[hall j (by omega),decide_eq_true e]
    ·rw[hno j (by omega),decide_eq_false e]
  ·exact two k hnk hdk h
 ·rintro d a' w' ⟨hs,hI⟩ hall
  rcases hI with⟨hno,hp⟩|⟨k,hnk,hdk,h⟩
  ·have e:n=ops.size:=by
    by_cases e:n=ops.size
    ·exact e
    ·exfalso
     have h1:=hall n (by omega)
     rw[hno n (Nat.le_refl n)] at h1
     cases h1
   have h:=tail' d a' w' (fun j hj=>hall j (by omega)) hp
   rw[List.drop_eq_nil_of_le (by simp;omega)] at h
   exact h
  ·have hk:ops.size<=k:=by
    by_cases e:ops.size<=k
    ·exact e
    ·exfalso
     have h1:=hall k (by omega)
     rw[hdk k,decide_eq_false (by omega)] at h1
     cases h1
   rw[List.drop_eq_nil_of_le (by simpa using hk)] at h
   exact h
def oR (P:Program) (ops:Array Oper) (Q:Exit->Act->World->Prop) (nt:Nat) (L:List (Nat×Value)) (W:World) (ds:List (Option Nat)) (Hs:List (World->Value->Prop)) (al:List Nat) (st:List Sto) (Z:Nat->List Value):Nat->List Oper->Prop
 |_,[]=>True
 |i,o::l=>od P ops Q nt L W ds Hs al st Z i o/\oR P ops Q nt L W ds Hs al st Z (i+1) l
theorem oR.at {nt:Nat} {L:List (Nat×Value)} {W:World} {ds:List (Option Nat)} {Hs:List (World->Value->Prop)} {al:List Nat} {st:List Sto} {Z:Nat->List Value}:∀(l:List Oper) (k:Nat),oR P ops Q nt L W ds Hs al st Z k l->∀i o,l[i]?=some o->od P ops Q nt L W ds Hs al st Z (k+i) o
 |[],_,_,_,_,h=>by cases h
 |x::l,k,h,0,o,ho=>by
  obtain rfl:x=o:=by simpa using ho
  exact h.1
 |x::l,k,h,i+1,o,ho=>by
  have:=oR.at l (k+1) h.2 i o (by simpa using ho)
  rw[show k+(i+1)=k+1+i by omega]
  exact this
def zof (Zs:List (List Value)) (i:Nat):List Value:=(Zs[i]?).getD []
def K6 (st:List Sto) (i:Nat):Bool:=st.all fun t=>!(Nat.beq t.at_ i)
def Ey (st:List Sto) (i b v:Nat):Bool:=st.all fun t=>!(Nat.beq t.at_ i) || (Nat.beq t.blk b && Nat.beq t.val v)
def E9 (st:List Sto) (i:Nat):Bool:=st.all fun t=>!(Nat.beq t.blk i)
theorem sX {st:List Sto} {i:Nat} (h:E9 st i=true):∀t∈st,t.blk≠i:=by
 intro t ht e
 unfold E9 at h
 have:=(List.all_eq_true.1 h) t ht
 simp[e] at this
theorem cV {nt:Nat} {L:List (Nat×Value)} {W:World} {ds:List (Option Nat)} {Hs:List (World->Value->Prop)} {al:List Nat} {st:List Sto} {Z:Nat->List Value} {i:Nat} {o:Oper} (hst:K6 st i=true)
 (h:∀(a':Act) (w':World),Fr nt a' L->Below W.heap.size W w'->(∀(e:Edge) (s:Nat),e∈o.after->Region.binds .any e=true->al.contains e.on=false->ds[e.on]?=some (some s)->Hat Hs e.on w' (a'.tmps.getD s undef))->
   if Region.wanted o (yielded ops a'.tmps)=true then bG P Q o a' w' (fun v w''=>(al.contains i=false->Hat Hs i w'' v)/\Below w'.heap.size w' w''/\(al.contains i=true->v= .pointer (some ⟨w'.heap.size,0,none⟩)/\Own w'' w'.heap.size (Z i))) else Hat Hs i w' undef/\al.contains i=false):
 od P ops Q nt L W ds Hs al st Z i o:=
 ⟨fun t ht e=>by
  unfold K6 at hst
  have:=(List.all_eq_true.1 hst) t ht
  simp[e] at this,fun _=>h⟩
theorem wT {nt:Nat} {L:List (Nat×Value)} {W:World} {ds:List (Option Nat)} {Hs:List (World->Value->Prop)} {al:List Nat} {st:List Sto} {Z:Nat->List Value} {i b v sb sv k:Nat} {T:TypeId} {o:Oper} (hat:∃t∈st,t.at_=i) (hst:Ey st i b v=true)
 (hop:o.op= .store T (.tmp sb) (.tmp sv)) (hg:o.guard=none) (hd:o.dst=none) (hsb:ds[b]?=some (some sb)) (hsv:ds[v]?=some (some sv)) (hsz:(P.info? T).map (·.size)=some k) (hz:(Z b).length =k) (hab:al.contains b=true) (hav:al.contains v=false)
 (hc:∀w x,Hat Hs v w x->∃cs:List Value,x.cells=cs.toArray/\cs.length=k/\(∀x∈cs,dT x)/\(∀x∈cs,x.oneCell'=true)):
 od P ops Q nt L W ds Hs al st Z i o:=by
 refine⟨fun t ht e=>?_,fun hn=>?_⟩
 ·unfold Ey at hst
  have h:=(List.all_eq_true.1 hst) t ht
  simp[e] at h
  obtain⟨h1,h2⟩:=h
  subst h1;subst h2
  exact⟨T,sb,sv,k,hop,hg,hd,hsb,hsv,hsz,hz,hab,hav,hc⟩
 ·obtain⟨t,ht,e⟩:=hat
  exact absurd e (hn t ht)
theorem Nd {v:Value} (h:∃b ad n c,v= .agg #[.bool b,.slice ad n c]):∃cs:List Value,v.cells=cs.toArray/\cs.length=2/\(∀x∈cs,dT x)/\(∀x∈cs,x.oneCell'=true):=by
 obtain⟨b,ad,n,c,rfl⟩:=h
 exact⟨[.bool b,.slice ad n c],rfl,rfl,niB (niS ni0),ocB (ocS oc0)⟩
theorem E.drawn2 {nt id:Nat} (n:Nat) {l:List Oper} {L:List (Nat×Value)} {a:Act} {w:World} (hm:P.follows .mixedOrders =true) (hF:Fr nt a L) (ds:List (Option Nat)) (Hs:List (World->Value->Prop)) (al:List Nat) (st:List Sto) (Zs:List (List Value))
 (hback:dc l.toArray=true) (hw:eX l.toArray n=true) (hn:Nat.ble n l.length=true) (hds:eR l.toArray n=ds) (hap:oX ds nt L=true) (hso:I2 l.toArray n ds al st=true) (hdo:HJ ds st=true) (hM:tV Hs)
 (steps:oR P l.toArray Q nt L w ds Hs al st (zof Zs) 0 (l.take n))
 (tail:∀(a':Act) (w':World),Fr nt a' L->Below w.heap.size w w'->(∀(i s:Nat),al.contains i=false->ds[i]?=some (some s)->Hat Hs i w' (a'.tmps.getD s undef))->
   (∀(i s:Nat),al.contains i=true->ds[i]?=some (some s)->∃g cs,a'.tmps.getD s undef= .pointer (some ⟨g,0,none⟩)/\w.heap.size<=g/\Own w' g cs/\Jc st (zof Zs) ds (fun _=>true) a' i cs)->
   (∀(i j s t:Nat),al.contains i=true->al.contains j=true->i≠j->ds[i]?=some (some s)->ds[j]?=some (some t)->a'.tmps.getD s undef≠a'.tmps.getD t undef)->wpS P l.toArray Q (l.drop n) a' w'):
 (Code.region id l.toArray true).wp P Q a w:=by
 refine E.region2 hm hF ds al st (zof Zs) Hs hback hw (by simpa using hn) hds hap hso hdo hM ?_ tail
 intro i o hi ho
 have h1:(l.take n)[i]?=some o:=by
  rw[List.getElem?_take,if_pos hi]
  simpa using ho
 have h2:=oR.at _ _ steps i o h1
 rw[Nat.zero_add] at h2
 exact h2
end
end
section
structure jW (gs:List Nat) (w1 w:World):Prop where
 size:w1.heap.size<=w.heap.size
 block:∀k,k<w1.heap.size->k ∉ gs->w.heap[k]?=w1.heap[k]?
theorem jW.refl (gs:List Nat) (w:World):jW gs w w:=⟨Nat.le_refl _,fun _ _ _=>rfl⟩
theorem jW.below {gs:List Nat} {w1 w w':World} (h:jW gs w1 w) (hb:Below w.heap.size w w'):jW gs w1 w':=
 ⟨Nat.le_trans h.size hb.size,fun k hk hn=>by rw[hb.block k (Nat.lt_of_lt_of_le hk h.size)];exact h.block k hk hn⟩
theorem jW.turned {gs:List Nat} {w1 w w':World} {g:Nat} (h:jW gs w1 w) (ht:dV g w w') (hg:g∈gs\/w1.heap.size<=g):jW gs w1 w':=
 ⟨by rw[ht.size];exact h.size,fun k hk hn=>by
  have hne:k≠g:=by
   intro e
   rcases hg with hg|hg
   ·exact hn (e▸hg)
   ·omega
  rw[ht.block k hne];exact h.block k hk hn⟩
theorem jW.own {gs:List Nat} {w1 w:World} {g:Nat} {cs:List Value} (h:jW gs w1 w) (ho:Own w1 g cs) (hg:g ∉ gs):Own w g cs:=by
 have hlt:=ho.lt
 obtain⟨⟨T,h1⟩,hn⟩:=ho
 exact⟨⟨T,by rw[h.block g hlt hg];exact h1⟩,hn⟩
theorem jW.keep {gs:List Nat} {w1 w:World} (h:jW gs w1 w) (hn:∀g∈gs,dD w1 g):eO w1 w:=by
 intro k ad xs hr
 refine⟨fun i hi=>?_⟩
 obtain⟨b,off,h1,h2,h3⟩:=hr.cell i hi
 have hne:b ∉ gs:=fun hb=>hn b hb _ _ _ h3
 refine⟨b,off,h1,Nat.lt_of_lt_of_le h2 h.size,?_⟩
 rw[<-h3]
 exact World.cell?_of_block (w:=w1) (h.block b h2 hne)
theorem bS {P:Program} {a:Act} {w:World} {dst:Option Tmp} {ty:TypeId} {pos:String} {af:Array Edge} {gd:Option (Nat×Bool)} {t:TypeId} {x y:Operand} {p q v:Value} (h:a.eval x=p) (h2:a.eval y=q) (hl:(Instr.indexAt t p q).run P w= .ok v w):(execOp a.eval ⟨dst,.indexAddr t x y,ty,pos,af,gd⟩).run P w= .ok (.value v) w:=by
 simp only [execOp,h,h2]
 exact jy hl
theorem lX {a:Act} {i j k:Nat} {x y z:Operand} {u v t:Value} (h:a.eval x=u) (h2:a.eval y=v) (h3:a.eval z=t):(#[(i,x),(j,y),(k,z)].map fun(p:Nat×Operand)=>(p.1,a.eval p.2))=#[(i,u),(j,v),(k,t)]:=by simp[h,h2,h3]
theorem nn1 {w:World} {g:Nat} (h:dD w g):∀x∈[g],dD w x:=by
 intro x hx
 rw[List.mem_singleton] at hx
 rw[hx];exact h
section
variable {P:Program} {ops:Array Oper} {Q:Exit->Act->World->Prop}
theorem QP {p:Nat->Prop}:∀m,p m->∃m,p m/\∀k,p k->m<=k:=by
 intro m
 induction m using Nat.strongRecOn with
 |ind m ih=>
  intro h
  by_cases hh:∃k,k<m/\p k
  ·obtain⟨k,h1,h2⟩:=hh;exact ih k h1 h2
  ·exact⟨m,h,fun k hk=>Nat.le_of_not_lt fun h'=>hh ⟨k,h',hk⟩⟩
noncomputable def lst (p:Nat->Prop):Nat:=Classical.epsilon fun m=>p m/\∀k,p k->m<=k
theorem pB {p:Nat->Prop} {m:Nat} (h:p m):p (lst p)/\∀k,p k->lst p<=k:=Classical.epsilon_spec (QP m h)
theorem E.loop (I:Nat->Act->World->Prop) (m:Nat) {a:Act} {w:World} {c:Code} (h0:I m a w)
 (hs:∀m a w,I m a w->c.wp P (Exit.then (fun a' w'=>∃m',m'<m/\I m' a' w') Q) a w):c.loop.wp P Q a w:=by
 refine wp_loop (fun a w=>∃m,I m a w) (fun a w=>lst fun m=>I m a w) ⟨m,h0⟩ ?_
 rintro a w ⟨m,h⟩
 have hl:=pB (p:=fun m=>I m a w) h
 refine wp_mono (hs _ a w hl.1) ?_
 intro e a' w' h'
 cases e with
 |normal=>obtain⟨m',h1,h2⟩:=h';exact⟨⟨m',h2⟩,Nat.lt_of_le_of_lt ((pB (p:=fun m=>I m a' w') h2).2 _ h2) h1⟩
 |_=>exact h'
theorem E.nil0 {a:Act} {w:World} (h:Q .normal a w):wpS P ops Q [] a w:=h
theorem E.blk {a:Act} {w:World} {id:Nat} (h:Q .normal a w):Exit.inBlock id Q .normal a w:=h
theorem E.out {a:Act} {w:World} {id:Nat} (h:Q .normal a w):Exit.inBlock id Q (.exit id) a w:=by
 show(if id=id then Q .normal a w else Q (.exit id) a w)
 rw[if_pos rfl];exact h
theorem E.past {R:Act->World->Prop} {a:Act} {w:World} {id:Nat} (h:Q (.exit id) a w):Exit.then R Q (.exit id) a w:=h
theorem E.pastb {a:Act} {w:World} {i id:Nat} (hi:id≠i) (h:Q (.exit id) a w):Exit.inBlock i Q (.exit id) a w:=by
 show(if id=i then Q .normal a w else Q (.exit id) a w)
 rw[if_neg hi];exact h
end
end
end
end Go.Proofs.YtgdpkknapcgcbaaGreatDoor
