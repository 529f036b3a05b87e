import Derived.Test.YtdkmjclbhfnegaaDoorKA25
namespace Go.Proofs.YtdkmjclbhfnegaaDoor
open Go.RowKit
set_option maxRecDepth 100000
set_option linter.unusedVariables false
set_option maxHeartbeats 8000000
theorem AccU.cat {P:Program} {w:World} {t T ty:TypeId} {m bytes base:Nat} (ht:P.underlying t=some (.slice T)) (hq:∃i z,P.info? T=some i∧i.zero=some z∧i.size=m∧i.bytes=bytes∧z.cells.size=m∧∀u∈z.cells.toList,noU u) (hm:0<m) (hbb:bytes≤200)
 {v:Value} {n:Nat} {rs:List Value} (h:AccU w m T base v n rs) {gs k ck:Nat} {es more:List Value} (hsrc:Blk w gs (es++more)) (hsn:∀u∈es,noU u) (he:es.length=k*m) (h1:∀u∈es,u.oneCell'=true) (hk:0<k) (hkl:k≤1000) (hl:n≤1000000) (hbase:base≤w.heap.size):
 ∃ad cap w',(builtin .append #[t,t] ty #[false,false] #[v,.slice (some ⟨gs,0,none⟩) k ck]).run P w= .ok (.value (.slice ad (n+k) cap)) w'∧AccU w' m T base (.slice ad (n+k) cap) (n+k) (rs++es)∧w.grownBy w' v.ownBlock∧Below base w w'∧KeepU w w'∧∀b,b<w.heap.size→v.ownBlock≠some b→(Value.slice ad (n+k) cap).ownBlock ≠some b:=by
 obtain⟨i,z,hi,hz,hs,hby,hzs,hzn⟩:=hq
 obtain⟨Ts,hsr⟩:=hsrc
 have hnews:∀j u,es[j]?=some u→w.cell? ((⟨gs,0,none⟩:Addr).add j)=some u:=by
  intro j u hj
  rw[Addr.add_mid,Nat.zero_add,cell_of_row w gs j _ _ _ hsr,List.getElem?_toArray,List.getElem?_append_left (List.getElem?_eq_some_iff.1 hj).1];exact hj
 have hb1:(n+k)*bytes≤140737488355328:=by
  have:=Nat.mul_le_mul (show n+k≤1001000 by omega) hbb
  omega
 have hb2:k*bytes≤140737488355328:=by
  have:=Nat.mul_le_mul hkl hbb
  omega
 obtain⟨v',w',hr,h2,h3,_⟩:=run_append_own (P:=P) w base t ty T i z m bytes ht hi hz hs hby hzs hm v n rs h.1 ⟨gs,0,none⟩ k ck es he hnews h1 (by unfold maxLen;omega) hb1 hbase
 have hll':es.length=k*i.size:=by rw[hs];exact he
 have hall:∀u∈rs,noU u:=by
  rcases h.1.2 with⟨_,h0⟩|⟨g,cap,cur,hv,_,hg,_,_,_,htake⟩
  ·have hx:rs=[]:=List.eq_nil_of_length_eq_zero (by rw[h.1.1,h0,Nat.zero_mul])
   subst hx
   exact fun _ hu=>by cases hu
  ·intro u hu
   rw[←htake] at hu
   exact h.all hv hg u (List.mem_of_mem_take hu)
 have fresh:∀(cs:List Value),cs=rs→∀k,NoU (w.drew.alloc (.cells (cs.toArray++es.toArray++Builtin.zeroCells z.cells k) T)) w.heap.size:=by
  intro cs hcs k
  subst hcs
  have e:=heap_alloc_new w.drew (.cells (cs.toArray++es.toArray++Builtin.zeroCells z.cells k) T)
  refine noU_of_all (T:=T) (cs:=cs++es++(Builtin.zeroCells z.cells k).toList) (e.trans (by simp)) ?_
  intro u hu
  rcases List.mem_append.1 hu with hu|hu
  ·rcases List.mem_append.1 hu with hu|hu
   ·exact hall u hu
   ·exact hsn u hu
  ·exact zero_allU hzn k u hu
 have fin:∀ {ad:Option Addr} {cap:Nat} {w':World},(Builtin.append_ #[t,t] ty #[v,.slice (some ⟨gs,0,none⟩) k ck]).run P w= .ok (.slice ad (n+k) cap) w'→AccU w' m T base (.slice ad (n+k) cap) (n+k) (rs++es)→w.grownBy w' v.ownBlock→(∀b,b<w.heap.size→v.ownBlock≠some b→(Value.slice ad (n+k) cap).ownBlock ≠some b)→
  ∃ad cap w',(builtin .append #[t,t] ty #[false,false] #[v,.slice (some ⟨gs,0,none⟩) k ck]).run P w= .ok (.value (.slice ad (n+k) cap)) w'∧AccU w' m T base (.slice ad (n+k) cap) (n+k) (rs++es)∧w.grownBy w' v.ownBlock∧Below base w w'∧KeepU w w'∧∀b,b<w.heap.size→v.ownBlock≠some b→(Value.slice ad (n+k) cap).ownBlock ≠some b:=fun{ad} {cap} {w'} hr h2 h3 h4=>by
  refine⟨ad,cap,w',?_,h2,h3,below_grownI h3 (fun g e=>(h.1.lt g e).1) hbase,keepU_grown h3 h.2,h4⟩
  show(do pure (.value (←Builtin.append_ #[t,t] ty #[v,.slice (some ⟨gs,0,none⟩) k ck])):Sem Next).run P w=_
  rw[Sem.run_bind,hr];rfl
 rcases h.1.2 with⟨hv,hn⟩|⟨g,cap,cur,hv,hbg,hg,hnc,hcm,hcs,htake⟩
 ·subst hv hn
  have hx:rs=[]:=List.eq_nil_of_length_eq_zero (by rw[h.1.1,Nat.zero_mul])
  have hr2:=run_append_nil (P:=P) w t ty T i z ht hi hz ⟨gs,0,none⟩ k ck es hll' hnews hk (by omega) (by rw[hby];omega)
  have hr3:=hr
  rw[hr2] at hr3
  injection hr3 with e1 e2
  subst e1 e2
  refine fin (by rw[Nat.zero_add];exact hr2) ⟨by rw[Nat.zero_add] at h2 ⊢;exact h2,?_⟩ h3 (fun b hb _ e=>by injection e with e;have e2:w.heap.size=b:=e;omega)
  intro g hg
  injection hg with hg
  subst hg
  simpa using fresh [] hx.symm (grownCap w k 0 T-k)
 ·subst hv
  by_cases hroom:n+k≤cap
  ·have hfit:n*i.size+es.length≤cur.size:=by
    rw[hs,he,hcs]
    have:=Nat.mul_le_mul_right m hroom
    rwa[Nat.add_mul] at this
   have hr2:=run_append_room (P:=P) w t ty T i ht hi g n cap cur hg ⟨gs,0,none⟩ k ck es hll' hnews h1 hroom hfit
   have hr3:=hr
   rw[hr2] at hr3
   injection hr3 with e1 e2
   subst e1 e2
   refine fin hr2 ⟨h2,?_⟩ h3 (fun b _ h=>h)
   intro g' hg'
   injection hg' with hg'
   subst hg'
   have ha:=h.all rfl hg
   refine noU_of_all (setRow_heap w g _ _ T (0,0) hg) ?_
   intro u hu
   rcases List.mem_append.1 hu with hu|hu
   ·rcases List.mem_append.1 hu with hu|hu
    ·exact ha u (List.mem_of_mem_take hu)
    ·exact hsn u hu
   ·exact ha u (List.mem_of_mem_drop hu)
  ·have holds:∀j u,rs[j]?=some u→w.cell? ((⟨g,0,none⟩:Addr).add j)=some u:=h.1.cells (g:=g) rfl
   have hr2:=run_append_grow (P:=P) w t ty T i z ht hi hz ⟨g,0,none⟩ n cap rs (by rw[hs];exact h.1.1) holds ⟨gs,0,none⟩ k ck es hll' hnews (by omega) (by omega) (growslice_fits (by omega) (by rw[hby];exact hb1))
   have hr3:=hr
   rw[hr2] at hr3
   injection hr3 with e1 e2
   subst e1 e2
   refine fin hr2 ⟨h2,?_⟩ h3 (fun b hb _ e=>by injection e with e;have e2:w.heap.size=b:=e;omega)
   intro g' hg'
   injection hg' with hg'
   subst hg'
   exact fresh rs rfl _
end Go.Proofs.YtdkmjclbhfnegaaDoor
