import Derived.Test.YtdkmjclbhfnegaaDoorKA22
import Derived.Test.YtdkmjclbhfnegaaDoorKA24
namespace Go.Proofs.YtdkmjclbhfnegaaDoor
open Go.RowKit
set_option maxRecDepth 100000
set_option linter.unusedVariables false
set_option maxHeartbeats 8000000
def noU (v:Value):Prop:=∀z,v≠ .int .u32 z
def NoU (w:World) (g:Nat):Prop:=∀j z,w.cell? ⟨g,j,none⟩≠some (.int .u32 z)
theorem nu0:∀v∈([]:List Value),noU v:=fun _ h=>by cases h
theorem nuC {u:Value} {l:List Value} (hu:noU u) (h:∀v∈l,noU v):∀v∈(u::l),noU v:=by
 intro v hv
 rcases List.mem_cons.1 hv with rfl|hv
 ·exact hu
 ·exact h v hv
def AccU (w:World) (m T base:Nat) (v:Value) (n:Nat) (rs:List Value):Prop:=w.ownsRow base T m v n rs∧∀g,v.ownBlock=some g→NoU w g
theorem keepU_grown {w w':World} {row:Option Nat} (hg:w.grownBy w' row) (hn:∀g,row=some g→NoU w g):KeepU w w':=by
 intro ad xs hr
 refine⟨fun i hi=>?_⟩
 obtain⟨b,off,h1,h2,h3⟩:=hr.cell i hi
 have hne:some b≠row:=fun e=>hn b e.symm _ _ h3
 exact⟨b,off,h1,Nat.lt_of_lt_of_le h2 hg.size,by rw[←h3];exact World.cell?_of_block (w:=w) (hg.block b h2 hne)⟩
theorem AccU.nil (w:World) (m T base:Nat):AccU w m T base (.slice none 0 0) 0 []:=⟨World.ownsRow_nil w base T m,fun g h=>by cases h⟩
theorem noU_of_all {w:World} {g T:Nat} {cs:List Value} (h:w.heap[g]?=some (.cells cs.toArray T (0,0))) (hn:∀u∈cs,noU u):NoU w g:=by
 intro j z e
 rw[cell_of_row w g j _ _ _ h,List.getElem?_toArray] at e
 exact hn _ (List.mem_of_getElem? e) z rfl
theorem AccU.all {w:World} {m T base:Nat} {v:Value} {n:Nat} {rs:List Value} (h:AccU w m T base v n rs) {g cap:Nat} {cur:Array Value} (hv:v= .slice (some ⟨g,0,none⟩) n cap) (hg:w.heap[g]?=some (.cells cur T (0,0))):∀u∈cur.toList,noU u:=by
 subst hv
 have hn:=h.2 g rfl
 intro u hu z e
 subst e
 obtain⟨j,hj⟩:=List.getElem?_of_mem hu
 exact hn j z (by rw[cell_of_row w g j _ _ _ hg];simpa using hj)
theorem zero_allU {z:Array Value} (hz:∀u∈z.toList,noU u) (n:Nat):∀u∈(Builtin.zeroCells z n).toList,noU u:=by
 intro u hu
 rw[Array.mem_toList_iff] at hu
 unfold Builtin.zeroCells at hu
 obtain⟨a,ha,rfl⟩:=Array.mem_map.1 hu
 rw[Array.mem_range] at ha
 have hp:0<z.size:=by
  rcases Nat.eq_zero_or_pos z.size with e|e
  ·rw[e] at ha;simp at ha
  ·exact e
 have hlt:=Nat.mod_lt a hp
 rw[getElem!_pos z (a%z.size) hlt]
 exact hz _ (by simp)
theorem AccU.app {P:Program} {w:World} {t T ty:TypeId} {m bytes base:Nat} (ht:P.underlying t=some (.slice T)) (hq:∃i z,P.info? T=some i∧i.zero=some z∧i.size=m∧i.bytes=bytes∧z.cells.size=m∧∀u∈z.cells.toList,noU u) (hm:0<m) (hbb:bytes≤200)
 {v:Value} {n:Nat} {rs:List Value} (h:AccU w m T base v n rs) {gs:Nat} {es:List Value} (hsrc:Blk w gs es) (hsn:∀u∈es,noU u) (he:es.length=m) (h1:∀u∈es,u.oneCell'=true) (hl:n≤1000000) (hbase:base≤w.heap.size):
 ∃ad cap w',(Builtin.append_ #[t,t] ty #[v,.slice (some ⟨gs,0,none⟩) 1 1]).run P w= .ok (.slice ad (n+1) cap) w'∧AccU w' m T base (.slice ad (n+1) cap) (n+1) (rs++es)∧w.grownBy w' v.ownBlock∧∀b,b<w.heap.size→v.ownBlock≠some b→(Value.slice ad (n+1) cap).ownBlock ≠some b:=by
 obtain⟨i,z,hi,hz,hs,hby,hzs,hzn⟩:=hq
 obtain⟨Ts,hsr⟩:=hsrc
 have hnews:∀j u,es[j]?=some u→w.cell? ((⟨gs,0,none⟩:Addr).add j)=some u:=by
  intro j u hj
  rw[Addr.add_mid,Nat.zero_add,cell_of_row w gs j _ _ _ hsr,List.getElem?_toArray];exact hj
 have hll:es.length=1*m:=by rw[he,Nat.one_mul]
 have hb1:(n+1)*bytes≤140737488355328:=by
  have:=Nat.mul_le_mul (show n+1≤1000001 by omega) hbb
  omega
 obtain⟨v',w',hr,h2,h3,_⟩:=run_append_own (P:=P) w base t ty T i z m bytes ht hi hz hs hby hzs hm v n rs h.1 ⟨gs,0,none⟩ 1 1 es hll hnews h1 (by unfold maxLen;omega) hb1 hbase
 have hll':es.length=1*i.size:=by rw[hs];exact hll
 have hall:∀u∈rs,noU u:=by
  rcases h.1.2 with⟨_,h0⟩|⟨g,cap,cur,hv,_,hg,_,_,_,htake⟩
  ·have hx:rs=[]:=List.eq_nil_of_length_eq_zero (by rw[h.1.1,h0,Nat.zero_mul])
   subst hx
   exact fun _ hu=>by cases hu
  ·intro u hu
   rw[←htake] at hu
   exact h.all hv hg u (List.mem_of_mem_take hu)
 have fresh:∀(cs:List Value),cs=rs→∀k,NoU (w.drew.alloc (.cells (cs.toArray++es.toArray++Builtin.zeroCells z.cells k) T)) w.heap.size:=by
  intro cs hcs k
  subst hcs
  have e:=heap_alloc_new w.drew (.cells (cs.toArray++es.toArray++Builtin.zeroCells z.cells k) T)
  refine noU_of_all (T:=T) (cs:=cs++es++(Builtin.zeroCells z.cells k).toList) (e.trans (by simp)) ?_
  intro u hu
  rcases List.mem_append.1 hu with hu|hu
  ·rcases List.mem_append.1 hu with hu|hu
   ·exact hall u hu
   ·exact hsn u hu
  ·exact zero_allU hzn k u hu
 rcases h.1.2 with⟨rfl,rfl⟩|⟨g,cap,cur,rfl,hbg,hg,hnc,hcm,hcs,htake⟩
 ·have hx:rs=[]:=List.eq_nil_of_length_eq_zero (by rw[h.1.1,Nat.zero_mul])
  have hr2:=run_append_nil (P:=P) w t ty T i z ht hi hz ⟨gs,0,none⟩ 1 1 es hll' hnews (by decide) (by decide) (by rw[hby];omega)
  rw[hr] at hr2
  injection hr2 with e1 e2
  subst e1 e2
  refine⟨_,_,_,hr,⟨h2,?_⟩,h3,fun b hb _ e=>by injection e with e;have e2:w.heap.size=b:=e;omega⟩
  intro g hg
  injection hg with hg
  subst hg
  simpa using fresh [] hx.symm (grownCap w 1 0 T-1)
 ·by_cases hroom:n+1≤cap
  ·have hfit:n*i.size+es.length≤cur.size:=by
    rw[hs,he,hcs]
    have:=Nat.mul_le_mul_right m hroom
    rwa[Nat.add_mul,Nat.one_mul] at this
   have hr2:=run_append_room (P:=P) w t ty T i ht hi g n cap cur hg ⟨gs,0,none⟩ 1 1 es hll' hnews h1 hroom hfit
   rw[hr] at hr2
   injection hr2 with e1 e2
   subst e1 e2
   refine⟨_,_,_,hr,⟨h2,?_⟩,h3,fun b _ h=>h⟩
   intro g' hg'
   injection hg' with hg'
   subst hg'
   have ha:=h.all rfl hg
   refine noU_of_all (setRow_heap w g _ _ T (0,0) hg) ?_
   intro u hu
   rcases List.mem_append.1 hu with hu|hu
   ·rcases List.mem_append.1 hu with hu|hu
    ·exact ha u (List.mem_of_mem_take hu)
    ·exact hsn u hu
   ·exact ha u (List.mem_of_mem_drop hu)
  ·have holds:∀j u,rs[j]?=some u→w.cell? ((⟨g,0,none⟩:Addr).add j)=some u:=h.1.cells (g:=g) rfl
   have hr2:=run_append_grow (P:=P) w t ty T i z ht hi hz ⟨g,0,none⟩ n cap rs (by rw[hs];exact h.1.1) holds ⟨gs,0,none⟩ 1 1 es hll' hnews (by omega) (by omega) (growslice_fits (by omega) (by rw[hby];exact hb1))
   rw[hr] at hr2
   injection hr2 with e1 e2
   subst e1 e2
   refine⟨_,_,_,hr,⟨h2,?_⟩,h3,fun b hb _ e=>by injection e with e;have e2:w.heap.size=b:=e;omega⟩
   intro g' hg'
   injection hg' with hg'
   subst hg'
   exact fresh rs rfl _
theorem AccU.below {w w':World} {m T base:Nat} {v:Value} {n:Nat} {rs:List Value} (h:AccU w m T base v n rs) (hb:Below w.heap.size w w'):AccU w' m T base v n rs:=by
 have hg:w.grownBy w' none:=⟨hb.os,hb.tape,hb.output,hb.size,fun k hk _=>hb.block k hk⟩
 refine⟨h.1.kept hg (by cases v.ownBlock <;> simp),fun g e=>?_⟩
 have hlt:=(h.1.lt g e).2
 intro j n hc
 refine h.2 g e j n ?_
 rw[←hc]
 exact(World.cell?_of_block (w:=w) (hb.block g hlt)).symm
theorem AccU.lt {w:World} {m T base:Nat} {v:Value} {n:Nat} {rs:List Value} (h:AccU w m T base v n rs):∀k,v.ownBlock=some k→base≤k∧k<w.heap.size:=h.1.lt
theorem AccU.low {w:World} {m T base b:Nat} {v:Value} {n:Nat} {rs:List Value} (h:AccU w m T base v n rs) (l:b≤base):AccU w m T b v n rs:=by
 refine⟨⟨h.1.1,?_⟩,h.2⟩
 rcases h.1.2 with x|⟨g,cap,cur,h1,h2,h3⟩
 ·exact .inl x
 ·exact .inr ⟨g,cap,cur,h1,by omega,h3⟩
theorem AccU.put {P:Program} {w:World} {t T ty:TypeId} {m bytes base:Nat} (ht:P.underlying t=some (.slice T)) (hq:∃i z,P.info? T=some i∧i.zero=some z∧i.size=m∧i.bytes=bytes∧z.cells.size=m∧∀u∈z.cells.toList,noU u) (hm:0<m) (hbb:bytes≤200)
 {v:Value} {n:Nat} {rs:List Value} (h:AccU w m T base v n rs) {gs:Nat} {es:List Value} (hsrc:Blk w gs es) (hsn:∀u∈es,noU u) (he:es.length=m) (h1:∀u∈es,u.oneCell'=true) (hl:n≤1000000) (hbase:base≤w.heap.size):
 ∃ad cap w',(builtin .append #[t,t] ty #[false,false] #[v,.slice (some ⟨gs,0,none⟩) 1 1]).run P w= .ok (.value (.slice ad (n+1) cap)) w'∧AccU w' m T base (.slice ad (n+1) cap) (n+1) (rs++es)∧w.grownBy w' v.ownBlock∧Below base w w'∧KeepU w w'∧∀b,b<w.heap.size→v.ownBlock≠some b→(Value.slice ad (n+1) cap).ownBlock ≠some b:=by
 obtain⟨ad,cap,w',hr,h2,h3,h4⟩:=AccU.app (ty:=ty) ht hq hm hbb h hsrc hsn he h1 hl hbase
 refine⟨ad,cap,w',?_,h2,h3,below_grownI h3 (fun g e=>(h.1.lt g e).1) hbase,keepU_grown h3 h.2,h4⟩
 show(do pure (.value (←Builtin.append_ #[t,t] ty #[v,.slice (some ⟨gs,0,none⟩) 1 1])):Sem Next).run P w=_
 rw[Sem.run_bind,hr];rfl
theorem AccU.row {w:World} {m T base:Nat} {ad:Option Addr} {n n' cap:Nat} {rs:List Value} (h:AccU w m T base (.slice ad n' cap) n rs) (hp:0<n):
 ∃g more,ad=some ⟨g,0,none⟩∧n'=n∧base≤g∧Blk w g (rs++more):=by
 rcases h.1.2 with⟨_,e⟩|⟨g,cap',cur,hv,hb,hg,_,_,_,htake⟩
 ·omega
 ·injection hv with e1 e2 e3
  refine⟨g,cur.toList.drop (n*m),e1,e2,hb,⟨T,?_⟩⟩
  rw[←htake,List.take_append_drop];simpa using hg
end Go.Proofs.YtdkmjclbhfnegaaDoor
