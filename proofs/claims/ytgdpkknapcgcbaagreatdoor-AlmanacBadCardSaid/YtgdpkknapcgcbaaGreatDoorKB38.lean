import Derived.Test.YtgdpkknapcgcbaaGreatDoorKB37
namespace Go.Proofs.YtgdpkknapcgcbaaGreatDoor
open Go.RowKit
set_option maxRecDepth 100000
set_option linter.unusedVariables false
set_option maxHeartbeats 8000000
theorem cH.cat {P:Program} {w:World} {t T ty:TypeId} {m bytes base:Nat} (ht:P.underlying t=some (.slice T)) (hq:∃i z,P.info? T=some i/\i.zero=some z/\i.size=m/\i.bytes=bytes/\z.cells.size=m/\∀u∈z.cells.toList,noU u) (hm:0<m) (hbb:bytes<=200)
 {v:Value} {n:Nat} {rs:List Value} (h:cH w m T base v n rs) {gs k ck:Nat} {es more:List Value} (hsrc:Blk w gs (es++more)) (hsn:∀u∈es,noU u) (he:es.length=k*m) (h1:∀u∈es,u.oneCell'=true) (hk:0<k) (hkl:k<=1000) (hl:n<=1000000) (hbase:base<=w.heap.size):
 ∃ad cap w',(builtin .append #[t,t] ty #[false,false] #[v,.slice (some ⟨gs,0,none⟩) k ck]).run P w= .ok (.value (.slice ad (n+k) cap)) w'/\cH w' m T base (.slice ad (n+k) cap) (n+k) (rs++es)/\w.grownBy w' v.ownBlock/\Below base w w'/\eR w w'/\∀b,b<w.heap.size->v.ownBlock≠some b->(Value.slice ad (n+k) cap).ownBlock ≠some b:=by
 obtain⟨i,z,hi,hz,hs,hby,hzs,hzn⟩:=hq
 obtain⟨Ts,hsr⟩:=hsrc
 have hnews:∀j u,es[j]?=some u->w.cell? ((⟨gs,0,none⟩:Addr).add j)=some u:=by
  intro j u hj
  rw[Addr.add_mid,Nat.zero_add,cell_of_row w gs j _ _ _ hsr,List.getElem?_toArray,List.getElem?_append_left (List.getElem?_eq_some_iff.1 hj).1];exact hj
 have hb1:(n+k)*bytes<=140737488355328:=by
  have:=Nat.mul_le_mul (show n+k<=1001000 by omega) hbb
  omega
 have hb2:k*bytes<=140737488355328:=by
  have:=Nat.mul_le_mul hkl hbb
  omega
 obtain⟨v',w',hr,h2,h3,_⟩:=run_append_own (P:=P) w base t ty T i z m bytes ht hi hz hs hby hzs hm v n rs h.1 ⟨gs,0,none⟩ k ck es he hnews h1 (by unfold maxLen;omega) hb1 hbase
 have hll':es.length=k*i.size:=by rw[hs];exact he
 have hall:∀u∈rs,noU u:=by
  rcases h.1.2 with⟨_,h0⟩|⟨g,cap,cur,hv,_,hg,_,_,_,htake⟩
  ·have hx:rs=[]:=List.eq_nil_of_length_eq_zero (by rw[h.1.1,h0,Nat.zero_mul])
   subst hx
   exact fun _ hu=>by cases hu
  ·intro u hu
   rw[<-htake] at hu
   exact h.all hv hg u (List.mem_of_mem_take hu)
 have fresh:∀(cs:List Value),cs=rs->∀k,NoU (w.drew.alloc (.cells (cs.toArray++es.toArray++Builtin.zeroCells z.cells k) T)) w.heap.size:=by
  intro cs hcs k
  subst hcs
  have e:=heap_alloc_new w.drew (.cells (cs.toArray++es.toArray++Builtin.zeroCells z.cells k) T)
  refine fG (T:=T) (cs:=cs++es++(Builtin.zeroCells z.cells k).toList) (e.trans (by simp)) ?_
  intro u hu
  rcases List.mem_append.1 hu with hu|hu
  ·rcases List.mem_append.1 hu with hu|hu
   ·exact hall u hu
   ·exact hsn u hu
  ·exact pA hzn k u hu
 have fin:∀ {ad:Option Addr} {cap:Nat} {w':World},(Builtin.append_ #[t,t] ty #[v,.slice (some ⟨gs,0,none⟩) k ck]).run P w= .ok (.slice ad (n+k) cap) w'->cH w' m T base (.slice ad (n+k) cap) (n+k) (rs++es)->w.grownBy w' v.ownBlock->(∀b,b<w.heap.size->v.ownBlock≠some b->(Value.slice ad (n+k) cap).ownBlock ≠some b)->
  ∃ad cap w',(builtin .append #[t,t] ty #[false,false] #[v,.slice (some ⟨gs,0,none⟩) k ck]).run P w= .ok (.value (.slice ad (n+k) cap)) w'/\cH w' m T base (.slice ad (n+k) cap) (n+k) (rs++es)/\w.grownBy w' v.ownBlock/\Below base w w'/\eR w w'/\∀b,b<w.heap.size->v.ownBlock≠some b->(Value.slice ad (n+k) cap).ownBlock ≠some b:=fun{ad} {cap} {w'} hr h2 h3 h4=>by
  refine⟨ad,cap,w',?_,h2,h3,lF h3 (fun g e=>(h.1.lt g e).1) hbase,mp h3 h.2,h4⟩
  show(do pure (.value (<-Builtin.append_ #[t,t] ty #[v,.slice (some ⟨gs,0,none⟩) k ck])):Sem Next).run P w=_
  rw[Sem.run_bind,hr];rfl
 rcases h.1.2 with⟨hv,hn⟩|⟨g,cap,cur,hv,hbg,hg,hnc,hcm,hcs,htake⟩
 ·subst hv hn
  have hx:rs=[]:=List.eq_nil_of_length_eq_zero (by rw[h.1.1,Nat.zero_mul])
  have hr2:=run_append_nil (P:=P) w t ty T i z ht hi hz ⟨gs,0,none⟩ k ck es hll' hnews hk (by omega) (by rw[hby];omega)
  have hr3:=hr
  rw[hr2] at hr3
  injection hr3 with e1 e2
  subst e1 e2
  refine fin (by rw[Nat.zero_add];exact hr2) ⟨by rw[Nat.zero_add] at h2 ⊢;exact h2,?_⟩ h3 (fun b hb _ e=>by injection e with e;have e2:w.heap.size=b:=e;omega)
  intro g hg
  injection hg with hg
  subst hg
  simpa using fresh [] hx.symm (grownCap w k 0 T-k)
 ·subst hv
  by_cases hroom:n+k<=cap
  ·have hfit:n*i.size+es.length<=cur.size:=by
    rw[hs,he,hcs]
    have:=Nat.mul_le_mul_right m hroom
    rwa[Nat.add_mul] at this
   have hr2:=run_append_room (P:=P) w t ty T i ht hi g n cap cur hg ⟨gs,0,none⟩ k ck es hll' hnews h1 hroom hfit
   have hr3:=hr
   rw[hr2] at hr3
   injection hr3 with e1 e2
   subst e1 e2
   refine fin hr2 ⟨h2,?_⟩ h3 (fun b _ h=>h)
   intro g' hg'
   injection hg' with hg'
   subst hg'
   have ha:=h.all rfl hg
   refine fG (setRow_heap w g _ _ T (0,0) hg) ?_
   intro u hu
   rcases List.mem_append.1 hu with hu|hu
   ·rcases List.mem_append.1 hu with hu|hu
    ·exact ha u (List.mem_of_mem_take hu)
    ·exact hsn u hu
   ·exact ha u (List.mem_of_mem_drop hu)
  ·have holds:∀j u,rs[j]?=some u->w.cell? ((⟨g,0,none⟩:Addr).add j)=some u:=h.1.cells (g:=g) rfl
   have hr2:=run_append_grow (P:=P) w t ty T i z ht hi hz ⟨g,0,none⟩ n cap rs (by rw[hs];exact h.1.1) holds ⟨gs,0,none⟩ k ck es hll' hnews (by omega) (by omega) (growslice_fits (by omega) (by rw[hby];exact hb1))
   have hr3:=hr
   rw[hr2] at hr3
   injection hr3 with e1 e2
   subst e1 e2
   refine fin hr2 ⟨h2,?_⟩ h3 (fun b hb _ e=>by injection e with e;have e2:w.heap.size=b:=e;omega)
   intro g' hg'
   injection hg' with hg'
   subst hg'
   exact fresh rs rfl _
theorem PEl.takes {w:World} {cs:List Value} {qs:List Pt} (h:PEl w cs qs):∀k,k<=qs.length->(cs.take (8*k)).length =8*k/\(∀u∈cs.take (8*k),noU u)/\∀u∈cs.take (8*k),u.oneCell'=true
 |0,_=>⟨rfl,(fun u hu=>by simp at hu),(fun u hu=>by simp at hu)⟩
 |k+1,hk=>by
  obtain⟨a1,a2,a3⟩:=PEl.takes h k (by omega)
  obtain⟨c1,c2,c3⟩:=PtV.cells (h k _ (List.getElem?_eq_getElem (by omega)))
  rw[show 8*(k+1)=8*k+8 by omega,List.take_add]
  refine⟨by rw[List.length_append,a1,c1],fun u hu=>?_,fun u hu=>?_⟩
  ·rcases List.mem_append.1 hu with hu|hu
   ·exact a2 u hu
   ·exact c2 u hu
  ·rcases List.mem_append.1 hu with hu|hu
   ·exact a3 u hu
   ·exact c3 u hu
theorem bm.cat {w:World} {base:Nat} {v:Value} {ps:List Pt} (h:bm w base v ps) {gs k ck:Nat} {cs:List Value} {qs:List Pt} (hs:Blk w gs cs) (hq:PEl w cs qs) (hk:qs.length=k) (hk0:0<k) (hk1:k<=1000) {N:Nat} (hN:ps.length=N) (hl:N<=1000000) (bel:base<=w.heap.size) {ty:TypeId}:
 ∃ad cap w',(builtin .append #[34,34] ty #[false,false] #[v,.slice (some ⟨gs,0,none⟩) k ck]).run Tryz.prog w= .ok (.value (.slice ad (N+k) cap)) w'/\bm w' base (.slice ad (N+k) cap) (ps++qs)/\w.grownBy w' v.ownBlock/\Below base w w'/\eR w w'/\∀b,b<w.heap.size->v.ownBlock≠some b->(Value.slice ad (N+k) cap).ownBlock ≠some b:=by
 subst hN hk
 obtain⟨rs,h1,h2⟩:=h
 obtain⟨c1,c2,c3⟩:=hq.takes qs.length (Nat.le_refl _)
 rw[<-List.take_append_drop (8*qs.length) cs] at hs
 obtain⟨ad,cap,w',hr,ha,gg,bb,ku,hne⟩:=cH.cat (ty:=ty) Tryz.underlying34 pD (by decide) (by decide) h1 hs c2 (by rw[c1,Nat.mul_comm]) c3 hk0 hk1 hl bel
 refine⟨ad,cap,w',hr,⟨rs++cs.take (8*qs.length),by rw[List.length_append];exact ha,?_⟩,gg,bb,ku,hne⟩
 intro i q e
 have hrl:=h1.1.1
 rcases Nat.lt_or_ge i ps.length with k|k
 ·rw[List.getElem?_append_left k] at e
  rw[List.drop_append_of_le_length (by omega),List.take_append_of_le_length (by rw[List.length_drop];omega)]
  exact PtV.clU w w' (h2 i q e) ku
 ·rw[List.getElem?_append_right k] at e
  have hi:=(List.getElem?_eq_some_iff.1 e).1
  have x:=PtV.clU w w' (hq (i-ps.length) q e) ku
  rw[show 8*i=rs.length+8*(i-ps.length) by omega,<-List.drop_drop,List.drop_left,List.drop_take,List.take_take,Nat.min_eq_left (by omega)]
  exact x
theorem zr (w:World) (base:Nat) (hb:base<=w.heap.size) {z0 z1:Int} {b1:Bool} {a1:Option Addr} {n1 c1:Nat} {d1:Option Addr} {m1 e1:Nat} {b2:Bool} {a2:Option Addr} {n2 c2:Nat} {d2:Option Addr} {m2 e2:Nat} {p:Pt} (hp:PtV w [iv z0,iv z1,.bool b1,.slice a1 n1 c1,.slice d1 m1 e1,.bool b2,.slice a2 n2 c2,.slice d2 m2 e2] p):
 ∃g w',w.heap.size=g/\(Instr.buildSlice 34 1 #[(0,.agg #[iv z0,iv z1,.bool b1,.slice a1 n1 c1,.slice d1 m1 e1,.bool b2,.slice a2 n2 c2,.slice d2 m2 e2])]).run Tryz.prog w= .ok (.slice (some ⟨g,0,none⟩) 1 1) w'/\Below w.heap.size w w'/\bm w' base (.slice (some ⟨g,0,none⟩) 1 1) [p]:=by
 obtain⟨k1,k2,k3⟩:=hp.cells
 have hn:=gb (w:=w) (cs:=[iv z0,iv z1,.bool b1,.slice a1 n1 c1,.slice d1 m1 e1,.bool b2,.slice a2 n2 c2,.slice d2 m2 e2]) 57
 refine⟨w.heap.size,w.alloc (.cells #[iv z0,iv z1,.bool b1,.slice a1 n1 c1,.slice d1 m1 e1,.bool b2,.slice a2 n2 c2,.slice d2 m2 e2] 57),rfl,?_,hn.2,[iv z0,iv z1,.bool b1,.slice a1 n1 c1,.slice d1 m1 e1,.bool b2,.slice a2 n2 c2,.slice d2 m2 e2],⟨⟨rfl,.inr ⟨w.heap.size,1,#[iv z0,iv z1,.bool b1,.slice a1 n1 c1,.slice d1 m1 e1,.bool b2,.slice a2 n2 c2,.slice d2 m2 e2],rfl,hb,heap_alloc_new w _,Nat.le_refl _,by decide,rfl,rfl⟩⟩,fun g e=>?_⟩,fun i q h=>?_⟩
 ·have hs:=aL (P:=Tryz.prog) (T:=57) (n:=8) jF w
  simp[Instr.buildSlice,go_sem,hs,Instr.fill,Value.cells,newRow]
 ·injection e with e
  subst e
  exact fG (heap_alloc_new w _) k2
 ·match i,h with
  |0,h=>injection h with h;subst h;exact hp.keep (Below.keep hn.2)
  |i+1,h=>simp at h
noncomputable def prP (c:Int) (t:Rat) (j:Nat):List Pt:=(List.range j).map fun i=>pt4 c (paF c t i)
theorem Cm (c:Int) (t:Rat) (j:Nat):prP c t (j+1)=prP c t j++[pt4 c (paF c t j)]:=by simp[prP,List.range_succ]
theorem BR (c:Int) (t:Rat) (j:Nat):(prP c t j).length =j:=by simp[prP]
theorem B0 {c:Int} {t u:Rat} {j:Nat} (h:j=paN c t u):prP c t (j+1)=prC c t u:=by subst h;rfl
noncomputable def prK (t u:Rat):Nat->List Pt
 |0=>[]
 |k+1=>prK t u k++prC (((k:Nat):Int)+1) t u
theorem jS (t u:Rat):∀k,(prK t u k).length =paM t u k
 |0=>rfl
 |k+1=>by show(prK t u k++_).length =paM t u k+_;rw[List.length_append,jS t u k,fF]
theorem AQ (t u:Rat):prK t u 4++prS t u=prA t u:=by
 unfold prA
 simp only [prK,List.nil_append]
 rfl
theorem A3 {t u:Rat} (h:kI 0 u=kI 0 t):prK t u 4=prA t u:=by
 rw[<-AQ]
 unfold prS
 rw[if_pos h,List.append_nil]
theorem CR {t u:Rat} (h:¬kI 0 u=kI 0 t):prK t u 4++[pt4 0 t]=prA t u:=by
 rw[<-AQ]
 unfold prS
 rw[if_neg h]
theorem Ez:(Tryz.prog.info? 156).bind (·.zero)=some (.agg #[iv 0,iv 0,iv 0,iv 0]):=by kernel_rfl
theorem oa {place:Nat->Option (Nat×Nat)} {cells:Array Value} {i off:Nat} {k:IntKind} {z:Int} {rest:List (Nat×Value)} (hp:place i=some (off,1)) (hc:off+1<=cells.size):
 Instr.fill place cells ((i,.int k z)::rest)=Instr.fill place (cells.setIfInBounds off (.int k z)) rest:=by
 conv=>lhs;unfold Instr.fill
 rw[hp]
 have h1:(Value.int k z).cells =#[.int k z]:=rfl
 simp only [h1]
 rw[if_neg (by simp;omega)]
 rfl
theorem EH (z0 z1 z2 z3:Int) (w:World):(Instr.build 156 #[(0,iv z0),(1,iv z1),(2,iv z2),(3,iv z3)]).run Tryz.prog w= .ok (.agg #[iv z0,iv z1,iv z2,iv z3]) w:=by
 have hz:=bW Ez w
 have hs:∀w,(sizeOf 3).run Tryz.prog w= .ok 1 w:=fun w=>aL dG w
 simp only [Instr.build,Sem.run_bind,hz,Result.andThen_ok,run_underlying Tryz.underlying156,hs]
 rw[show(Value.agg #[Value.int .i64 0,Value.int .i64 0,Value.int .i64 0,Value.int .i64 0]).cells =#[Value.int .i64 0,Value.int .i64 0,Value.int .i64 0,Value.int .i64 0] from rfl]
 rw[oa (off:=0) rfl (by simp),oa (off:=1) rfl (by simp),oa (off:=2) rfl (by simp),oa (off:=3) rfl (by simp)]
 simp only [List.setIfInBounds_toArray,List.set_cons_zero,List.set_cons_succ]
 rfl
theorem Ev {P:Program} {w:World} {a:Act} {dst:Option Tmp} {ty:TypeId} {pos:String} {af:Array Edge} {gd:Option (Nat×Bool)} {t:TypeId} {x i:Operand} {p q v:Value} (h:a.eval x=p) (h2:a.eval i=q) (hl:(Instr.index t p q).run P w= .ok v w):
 (execOp a.eval ⟨dst,.index t x i,ty,pos,af,gd⟩).run P w= .ok (.value v) w:=by
 simp only [execOp,h,h2]
 exact fD hl
theorem Fp {w:World} {z:Int} {k:Nat} (hz:z=((k:Nat):Int)) (hk:k<4):(Instr.index 156 (.agg #[iv 1,iv 2,iv 3,iv 4]) (iv z)).run Tryz.prog w= .ok (iv (((k:Nat):Int)+1)) w:=by
 subst hz
 have hs:∀w,(sizeOf 3).run Tryz.prog w= .ok 1 w:=fun w=>aL dG w
 unfold Instr.index
 simp only [asIntOf,Sem.run_bind,Sem.run_pure,Result.andThen_ok,run_underlying Tryz.underlying156]
 rw[if_pos (by omega)]
 have hkk:k=0\/k=1\/k=2\/k=3:=by omega
 rcases hkk with rfl|rfl|rfl|rfl <;> (simp[hs,part,go_sem];try rfl)
end Go.Proofs.YtgdpkknapcgcbaaGreatDoor
