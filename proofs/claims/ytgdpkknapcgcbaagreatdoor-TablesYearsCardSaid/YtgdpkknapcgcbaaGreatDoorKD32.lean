import Derived.Test.YtgdpkknapcgcbaaGreatDoorKD31
namespace Go.Proofs.YtgdpkknapcgcbaaGreatDoor
open Go.RowKit
set_option maxRecDepth 100000
set_option linter.unusedVariables false
set_option maxHeartbeats 8000000
section
section
def ig (w w':World):Prop:=∀ad xs,Rd w .u32 ad xs->Rd w' .u32 ad xs
def ClU (F:World->Prop):Prop:=∀w w',F w->ig w w'->F w'
theorem pC:∀F∈([]:List (World->Prop)),ClU F:=fun _ h=>by cases h
section
variable {W w w':World} {bs:List (Nat×List Value)} {fs:List (World->Prop)}
end
section
variable {P:Program} {ops:Array Oper} {Q:Exit->Act->World->Prop} {W w:World} {bs:List (Nat×List Value)} {fs:List (World->Prop)} {nt d:Nat} {L:List (Nat×Value)} {rest:List Oper} {a:Act} {T:TypeId} {x y:Operand} {ty:TypeId} {pos:String} {af:Array Edge}
end
section
variable {P:Program} {ops:Array Oper} {Q:Exit->Act->World->Prop} {W w:World} {bs:List (Nat×List Value)} {fs:List (World->Prop)} {nt d:Nat} {L:List (Nat×Value)} {rest:List Oper} {a:Act} {T:TypeId} {ty:TypeId} {pos:String} {af:Array Edge}
end
end
end
section
section
section
variable {P:Program} {ops:Array Oper} {Q:Exit->Act->World->Prop}
end
def rz:Value->Bool
 | .int .u32 _=>false
 |_=>true
theorem db.keepU2 {g:Nat} {w w':World} {cs:List Value} (h:db g w w') (hb:Blk w g cs) (hc:cs.all rz=true):ig w w':=by
 obtain⟨T,hg⟩:=hb
 intro ad xs hr
 refine⟨fun i hi=>?_⟩
 obtain⟨b,off,h1,h2,h3⟩:=hr.cell i hi
 have hne:b≠g:=by
  intro e
  subst e
  rw[cell_of_row w b (off+i) _ _ _ hg,List.getElem?_toArray] at h3
  have:=List.all_eq_true.1 hc _ (List.mem_of_getElem? h3)
  cases this
 refine⟨b,off,h1,by rw[h.size];exact h2,?_⟩
 rw[<-h3]
 exact World.cell?_of_block (w:=w) (h.block b hne)
section
variable {W w w':World} {bs:List (Nat×List Value)} {fs:List (World->Prop)}
theorem St.setU2 (st:St W w bs fs) (i:Nat) {g:Nat} {cs ws:List Value} (h:bs[i]?=some (g,cs)) (hc:cs.all rz=true) (hU:∀F∈fs,ClU F) (tu:db g w w') (ho:Blk w' g ws):St W w' (bs.set i (g,ws)) fs:=
 let s:=st.setI i h tu ho
 ⟨s.bel,s.own,s.low,s.apart,fun F hF=>hU F hF w w' (st.facts F hF) (tu.keepU2 (st.bk i h) hc),st.cl⟩
end
section
variable {P:Program} {ops:Array Oper} {Q:Exit->Act->World->Prop} {W w:World} {bs:List (Nat×List Value)} {fs:List (World->Prop)} {nt d n g:Nat} {L:List (Nat×Value)} {rest:List Oper} {a:Act} {T:TypeId} {x y:Operand} {ty:TypeId} {pos:String} {af:Array Edge} {cs vs zs:List Value}
end
end
end
def noU (v:Value):Prop:=∀z,v≠ .int .u32 z
def NoU (w:World) (g:Nat):Prop:=∀j z,w.cell? ⟨g,j,none⟩≠some (.int .u32 z)
theorem nu0:∀v∈([]:List Value),noU v:=fun _ h=>by cases h
theorem nuC {u:Value} {l:List Value} (hu:noU u) (h:∀v∈l,noU v):∀v∈(u::l),noU v:=by
 intro v hv
 rcases List.mem_cons.1 hv with rfl|hv
 ·exact hu
 ·exact h v hv
theorem nuI {z:Int}:noU (iv z):=fun y e=>by injection e with e;cases e
theorem nuB {b:Bool}:noU (.bool b):=fun y e=>by cases e
def cd (w:World) (m T base:Nat) (v:Value) (n:Nat) (rs:List Value):Prop:=w.ownsRow base T m v n rs/\∀g,v.ownBlock=some g->NoU w g
theorem ux {w w':World} {row:Option Nat} (hg:w.grownBy w' row) (hn:∀g,row=some g->NoU w g):ig w w':=by
 intro ad xs hr
 refine⟨fun i hi=>?_⟩
 obtain⟨b,off,h1,h2,h3⟩:=hr.cell i hi
 have hne:some b≠row:=fun e=>hn b e.symm _ _ h3
 exact⟨b,off,h1,Nat.lt_of_lt_of_le h2 hg.size,by rw[<-h3];exact World.cell?_of_block (w:=w) (hg.block b h2 hne)⟩
theorem iT {w:World} {g T:Nat} {cs:List Value} (h:w.heap[g]?=some (.cells cs.toArray T (0,0))) (hn:∀u∈cs,noU u):NoU w g:=by
 intro j z e
 rw[cell_of_row w g j _ _ _ h,List.getElem?_toArray] at e
 exact hn _ (List.mem_of_getElem? e) z rfl
theorem cd.all {w:World} {m T base:Nat} {v:Value} {n:Nat} {rs:List Value} (h:cd w m T base v n rs) {g cap:Nat} {cur:Array Value} (hv:v= .slice (some ⟨g,0,none⟩) n cap) (hg:w.heap[g]?=some (.cells cur T (0,0))):∀u∈cur.toList,noU u:=by
 subst hv
 have hn:=h.2 g rfl
 intro u hu z e
 subst e
 obtain⟨j,hj⟩:=List.getElem?_of_mem hu
 exact hn j z (by rw[cell_of_row w g j _ _ _ hg];simpa using hj)
theorem yM {z:Array Value} (hz:∀u∈z.toList,noU u) (n:Nat):∀u∈(Builtin.zeroCells z n).toList,noU u:=by
 intro u hu
 rw[Array.mem_toList_iff] at hu
 unfold Builtin.zeroCells at hu
 obtain⟨a,ha,rfl⟩:=Array.mem_map.1 hu
 rw[Array.mem_range] at ha
 have hp:0<z.size:=by
  rcases Nat.eq_zero_or_pos z.size with e|e
  ·rw[e] at ha;simp at ha
  ·exact e
 have hlt:=Nat.mod_lt a hp
 rw[getElem!_pos z (a%z.size) hlt]
 exact hz _ (by simp)
theorem cd.app {P:Program} {w:World} {t T ty:TypeId} {m bytes base:Nat} (ht:P.underlying t=some (.slice T)) (hq:∃i z,P.info? T=some i/\i.zero=some z/\i.size=m/\i.bytes=bytes/\z.cells.size=m/\∀u∈z.cells.toList,noU u) (hm:0<m) (hbb:bytes<=200)
 {v:Value} {n:Nat} {rs:List Value} (h:cd w m T base v n rs) {gs:Nat} {es:List Value} (hsrc:Blk w gs es) (hsn:∀u∈es,noU u) (he:es.length=m) (h1:∀u∈es,u.oneCell'=true) (hl:n<=1000000) (hbase:base<=w.heap.size):
 ∃ad cap w',(Builtin.append_ #[t,t] ty #[v,.slice (some ⟨gs,0,none⟩) 1 1]).run P w= .ok (.slice ad (n+1) cap) w'/\cd w' m T base (.slice ad (n+1) cap) (n+1) (rs++es)/\w.grownBy w' v.ownBlock/\∀b,b<w.heap.size->v.ownBlock≠some b->(Value.slice ad (n+1) cap).ownBlock ≠some b:=by
 obtain⟨i,z,hi,hz,hs,hby,hzs,hzn⟩:=hq
 obtain⟨Ts,hsr⟩:=hsrc
 have hnews:∀j u,es[j]?=some u->w.cell? ((⟨gs,0,none⟩:Addr).add j)=some u:=by
  intro j u hj
  rw[Addr.add_mid,Nat.zero_add,cell_of_row w gs j _ _ _ hsr,List.getElem?_toArray];exact hj
 have hll:es.length=1*m:=by rw[he,Nat.one_mul]
 have hb1:(n+1)*bytes<=140737488355328:=by
  have:=Nat.mul_le_mul (show n+1<=1000001 by omega) hbb
  omega
 obtain⟨v',w',hr,h2,h3,_⟩:=run_append_own (P:=P) w base t ty T i z m bytes ht hi hz hs hby hzs hm v n rs h.1 ⟨gs,0,none⟩ 1 1 es hll hnews h1 (by unfold maxLen;omega) hb1 hbase
 have hll':es.length=1*i.size:=by rw[hs];exact hll
 have hall:∀u∈rs,noU u:=by
  rcases h.1.2 with⟨_,h0⟩|⟨g,cap,cur,hv,_,hg,_,_,_,htake⟩
  ·have hx:rs=[]:=List.eq_nil_of_length_eq_zero (by rw[h.1.1,h0,Nat.zero_mul])
   subst hx
   exact fun _ hu=>by cases hu
  ·intro u hu
   rw[<-htake] at hu
   exact h.all hv hg u (List.mem_of_mem_take hu)
 have fresh:∀(cs:List Value),cs=rs->∀k,NoU (w.drew.alloc (.cells (cs.toArray++es.toArray++Builtin.zeroCells z.cells k) T)) w.heap.size:=by
  intro cs hcs k
  subst hcs
  have e:=heap_alloc_new w.drew (.cells (cs.toArray++es.toArray++Builtin.zeroCells z.cells k) T)
  refine iT (T:=T) (cs:=cs++es++(Builtin.zeroCells z.cells k).toList) (e.trans (by simp)) ?_
  intro u hu
  rcases List.mem_append.1 hu with hu|hu
  ·rcases List.mem_append.1 hu with hu|hu
   ·exact hall u hu
   ·exact hsn u hu
  ·exact yM hzn k u hu
 rcases h.1.2 with⟨rfl,rfl⟩|⟨g,cap,cur,rfl,hbg,hg,hnc,hcm,hcs,htake⟩
 ·have hx:rs=[]:=List.eq_nil_of_length_eq_zero (by rw[h.1.1,Nat.zero_mul])
  have hr2:=run_append_nil (P:=P) w t ty T i z ht hi hz ⟨gs,0,none⟩ 1 1 es hll' hnews (by decide) (by decide) (by rw[hby];omega)
  rw[hr] at hr2
  injection hr2 with e1 e2
  subst e1 e2
  refine⟨_,_,_,hr,⟨h2,?_⟩,h3,fun b hb _ e=>by injection e with e;have e2:w.heap.size=b:=e;omega⟩
  intro g hg
  injection hg with hg
  subst hg
  simpa using fresh [] hx.symm (grownCap w 1 0 T-1)
 ·by_cases hroom:n+1<=cap
  ·have hfit:n*i.size+es.length<=cur.size:=by
    rw[hs,he,hcs]
    have:=Nat.mul_le_mul_right m hroom
    rwa[Nat.add_mul,Nat.one_mul] at this
   have hr2:=run_append_room (P:=P) w t ty T i ht hi g n cap cur hg ⟨gs,0,none⟩ 1 1 es hll' hnews h1 hroom hfit
   rw[hr] at hr2
   injection hr2 with e1 e2
   subst e1 e2
   refine⟨_,_,_,hr,⟨h2,?_⟩,h3,fun b _ h=>h⟩
   intro g' hg'
   injection hg' with hg'
   subst hg'
   have ha:=h.all rfl hg
   refine iT (setRow_heap w g _ _ T (0,0) hg) ?_
   intro u hu
   rcases List.mem_append.1 hu with hu|hu
   ·rcases List.mem_append.1 hu with hu|hu
    ·exact ha u (List.mem_of_mem_take hu)
    ·exact hsn u hu
   ·exact ha u (List.mem_of_mem_drop hu)
  ·have holds:∀j u,rs[j]?=some u->w.cell? ((⟨g,0,none⟩:Addr).add j)=some u:=h.1.cells (g:=g) rfl
   have hr2:=run_append_grow (P:=P) w t ty T i z ht hi hz ⟨g,0,none⟩ n cap rs (by rw[hs];exact h.1.1) holds ⟨gs,0,none⟩ 1 1 es hll' hnews (by omega) (by omega) (growslice_fits (by omega) (by rw[hby];exact hb1))
   rw[hr] at hr2
   injection hr2 with e1 e2
   subst e1 e2
   refine⟨_,_,_,hr,⟨h2,?_⟩,h3,fun b hb _ e=>by injection e with e;have e2:w.heap.size=b:=e;omega⟩
   intro g' hg'
   injection hg' with hg'
   subst hg'
   exact fresh rs rfl _
theorem cd.lt {w:World} {m T base:Nat} {v:Value} {n:Nat} {rs:List Value} (h:cd w m T base v n rs):∀k,v.ownBlock=some k->base<=k/\k<w.heap.size:=h.1.lt
theorem cd.put {P:Program} {w:World} {t T ty:TypeId} {m bytes base:Nat} (ht:P.underlying t=some (.slice T)) (hq:∃i z,P.info? T=some i/\i.zero=some z/\i.size=m/\i.bytes=bytes/\z.cells.size=m/\∀u∈z.cells.toList,noU u) (hm:0<m) (hbb:bytes<=200)
 {v:Value} {n:Nat} {rs:List Value} (h:cd w m T base v n rs) {gs:Nat} {es:List Value} (hsrc:Blk w gs es) (hsn:∀u∈es,noU u) (he:es.length=m) (h1:∀u∈es,u.oneCell'=true) (hl:n<=1000000) (hbase:base<=w.heap.size):
 ∃ad cap w',(builtin .append #[t,t] ty #[false,false] #[v,.slice (some ⟨gs,0,none⟩) 1 1]).run P w= .ok (.value (.slice ad (n+1) cap)) w'/\cd w' m T base (.slice ad (n+1) cap) (n+1) (rs++es)/\w.grownBy w' v.ownBlock/\Below base w w'/\ig w w'/\∀b,b<w.heap.size->v.ownBlock≠some b->(Value.slice ad (n+1) cap).ownBlock ≠some b:=by
 obtain⟨ad,cap,w',hr,h2,h3,h4⟩:=cd.app (ty:=ty) ht hq hm hbb h hsrc hsn he h1 hl hbase
 refine⟨ad,cap,w',?_,h2,h3,sB h3 (fun g e=>(h.1.lt g e).1) hbase,ux h3 h.2,h4⟩
 show(do pure (.value (<-Builtin.append_ #[t,t] ty #[v,.slice (some ⟨gs,0,none⟩) 1 1])):Sem Next).run P w=_
 rw[Sem.run_bind,hr];rfl
section
section
def GCl (v:Value) (G:World->Prop):Prop:=∀w w',G w->(∀b,v.ownBlock=some b->w'.heap[b]?=w.heap[b]?)->w.heap.size<=w'.heap.size->ig w w'->G w'
theorem Below.keepU {w w':World} (h:Below w.heap.size w w'):ig w w':=fun ad xs r=>Below.keep h _ _ _ r
structure Sg (W w:World) (bs:List (Nat×List Value)) (fs:List (World->Prop)) (v0:Value) (G0:World->Prop):Prop extends St W w bs fs where
 g:G0 w
 gc:GCl v0 G0
 gl:∀w,G0 w->∀b,v0.ownBlock=some b->W.heap.size<=b/\b<w.heap.size
 gn:∀p∈bs,v0.ownBlock≠some p.1
section
variable {W w w':World} {bs:List (Nat×List Value)} {fs:List (World->Prop)} {v0:Value} {G0:World->Prop}
theorem St.grow0 (st:St W w bs fs) {v:Value} {G:World->Prop} (g:G w) (gc:GCl v G) (gl:∀w,G w->∀b,v.ownBlock=some b->W.heap.size<=b/\b<w.heap.size) (gn:∀p∈bs,v.ownBlock≠some p.1):Sg W w bs fs v G:=⟨st,g,gc,gl,gn⟩
theorem Sg.gat (st:Sg W w bs fs v0 G0) (h:∀b,v0.ownBlock=some b->w'.heap[b]?=w.heap[b]?) (hs:w.heap.size<=w'.heap.size) (k:ig w w'):G0 w':=st.gc w w' st.g h hs k
theorem Sg.to (st:Sg W w bs fs v0 G0) (hb:Below w.heap.size w w'):Sg W w' bs fs v0 G0:=
 ⟨st.toSt.to hb,st.gat (fun b e=>hb.block b (st.gl w st.g b e).2) hb.size (Below.keepU hb),st.gc,st.gl,st.gn⟩
theorem Sg.add (st:Sg W w bs fs v0 G0) {F:World->Prop} (h:F w) (hc:Cl F):Sg W w bs (F::fs) v0 G0:=⟨st.toSt.add h hc,st.g,st.gc,st.gl,st.gn⟩
theorem Sg.push (st:Sg W w bs fs v0 G0) {g:Nat} {cs:List Value} (ho:Blk w g cs) (hg:W.heap.size<=g) (hne:∀p∈bs,p.1≠g) (hv:v0.ownBlock≠some g):Sg W w ((g,cs)::bs) fs v0 G0:=
 ⟨st.toSt.push ho hg hne,st.g,st.gc,st.gl,fun p hp=>by rcases List.mem_cons.1 hp with rfl|hp;exact hv;exact st.gn p hp⟩
theorem Sg.away (st:Sg W w bs fs v0 G0) {g:Nat} (hg:w.heap.size<=g):v0.ownBlock≠some g:=fun e=>by have:=(st.gl w st.g g e).2;omega
theorem Sg.new (st:Sg W w bs fs v0 G0) {cs:List Value} {g:Nat} (hg:w.heap.size=g) (hb:Below w.heap.size w w') (ho:Blk w' g cs):Sg W w' ((g,cs)::bs) fs v0 G0:=
 (st.to hb).push ho (by rw[<-hg];exact st.bel.size) (st.ne (by omega)) (st.away (by omega))
theorem Sg.pick (st:Sg W w bs fs v0 G0) (is js:List Nat) {bs':List (Nat×List Value)} {fs':List (World->Prop)} (hb:is.map (bs[·]?)=bs'.map some) (hf:js.map (fs[·]?)=fs'.map some) (hn:is.Pairwise fun a b=>a≠b):Sg W w bs' fs' v0 G0:=by
 refine⟨st.toSt.pick is js hb hf hn,st.g,st.gc,st.gl,fun p hp=>st.gn p ?_⟩
 have h1:some p∈bs'.map some:=List.mem_map_of_mem hp
 rw[<-hb] at h1
 obtain⟨j,_,hj⟩:=List.mem_map.1 h1
 exact List.mem_of_getElem? hj
theorem Sg.cast (st:Sg W w bs fs v0 G0) {G1:World->Prop} (e:G0=G1):Sg W w bs fs v0 G1:=e▸st
theorem GA {i:Nat} {g:Nat} {cs ws:List Value} (h:bs[i]?=some (g,cs)) (gn:∀p∈bs,v0.ownBlock≠some p.1):∀p∈bs.set i (g,ws),v0.ownBlock≠some p.1:=by
 intro p hp
 rcases List.mem_or_eq_of_mem_set hp with hp|rfl
 ·exact gn p hp
 ·exact gn (g,cs) (List.mem_of_getElem? h)
theorem Sg.setU2 (st:Sg W w bs fs v0 G0) (i:Nat) {g:Nat} {cs ws:List Value} (h:bs[i]?=some (g,cs)) (hc:cs.all rz=true) (hU:∀F∈fs,ClU F) (tu:db g w w') (ho:Blk w' g ws):Sg W w' (bs.set i (g,ws)) fs v0 G0:=
 ⟨st.toSt.setU2 i h hc hU tu ho,st.gat (fun b e=>tu.block b (fun e2=>st.gn (g,cs) (List.mem_of_getElem? h) (by rw[e,e2]))) (Nat.le_of_eq tu.size.symm) (tu.keepU2 (st.bk i h) hc),st.gc,st.gl,GA h st.gn⟩
theorem Sg.grow (st:Sg W w bs fs v0 G0) {v1:Value} {G1:World->Prop} (gg:w.grownBy w' v0.ownBlock) (bb:Below W.heap.size w w') (ku:ig w w') (hU:∀F∈fs,ClU F) (g1:G1 w') (gc:GCl v1 G1) (gl:∀w,G1 w->∀b,v1.ownBlock=some b->W.heap.size<=b/\b<w.heap.size)
 (hne:∀b,b<w.heap.size->v0.ownBlock≠some b->v1.ownBlock≠some b):Sg W w' bs fs v1 G1:=
 ⟨⟨st.bel.trans bb,fun p hp=>Blk.grown (st.own p hp) gg (fun e=>st.gn p hp e.symm),st.low,st.apart,fun F hF=>hU F hF w w' (st.facts F hF) ku,st.cl⟩,g1,gc,gl,fun p hp=>hne p.1 (st.own p hp).lt (st.gn p hp)⟩
end
section
variable {P:Program} {ops:Array Oper} {Q:Exit->Act->World->Prop} {W w:World} {bs:List (Nat×List Value)} {fs:List (World->Prop)} {v0:Value} {G0:World->Prop} {nt d s:Nat} {L:List (Nat×Value)} {rest:List Oper} {a:Act} {T:TypeId} {x y:Operand} {v:Value} {cs vs zs:List Value} {g n:Nat} {ty:TypeId} {pos:String} {af:Array Edge} {H:World->Value->Prop} {ds:List Nat} {Hs:List (World->Value->Prop)}
theorem SG.new {s:Nat} {ty':TypeId} {pos':String} {af':Array Edge} (st:Sg W w bs fs v0 G0) (hF:Fr nt a L) (j:Nat) (hj:L[j]?=some (s,.agg vs.toArray)) (hT:Ty P T n zs) (hl:vs.length=n) (hz:zs.length=n) (hc:vs.all ie=true) (hlt:Nat.blt d nt=true) (hf:a5 d L=true)
 (k:∀g w' a',Sg W w' ((g,vs)::bs) fs v0 G0->Fr nt a' ((d,.pointer (some ⟨g,0,none⟩))::L)->wpS P ops Q rest a' w'):wpS P ops Q (⟨some d,.alloc T,ty,pos,af,none⟩::⟨none,.store T (.tmp d) (.tmp s),ty',pos',af',none⟩::rest) a w:=by
 obtain⟨g,w1,ge,hr,bb,o⟩:=iw (P:=P) (w:=w) (cs:=zs) (v:= .agg zs.toArray) T hT.z rfl
 refine E.opv hF (eB hr) rfl rfl hlt hf fun a1 hF1=>?_
 obtain⟨w2,hr2,tu,on⟩:=iE (P:=P) (o:=0) (ws:=vs) o hT.s hl (by simp[hz]) (ie.oc hc) (by subst hl;simp[hz])
 refine E.st hF1 (dD (bH (hF1.at 0 rfl)) (bH (hF1.at (j+1) hj)) (hr2 _ rfl)) rfl rfl fun a2 hF2=>?_
 have b2:Below w.heap.size w w2:=tu.below bb (Nat.le_of_eq ge)
 exact k g w2 a2 (st.new ge b2 on) hF2
theorem SG.call {f:FuncId} {args:Array Value} {R:Ending->World->Prop} {H:Value->World->Prop} {o:Oper} (st:Sg W w bs fs v0 G0) (hF:Fr nt a L) (hr:(execOp a.eval o).run P w= .ok (.enter f args) w) (hc:Calls P f args w R)
 (hR:∀e w',R e w'->∃v,e= .returned v/\H v w'/\Below w.heap.size w w') (hcl:∀v,Cl (H v)) (hg:o.guard=none) (hd:o.dst=some d) (hlt:Nat.blt d nt=true) (hf:a5 d L=true)
 (k:∀v w' a',Sg W w' bs (H v::fs) v0 G0->Fr nt a' ((d,v)::L)->wpS P ops Q rest a' w'):wpS P ops Q (o::rest) a w:=
 E.call hF hr hc hg hd hlt hf fun e w' r=>by
  obtain⟨v,he,h,bb⟩:=hR e w' r
  exact⟨v,he,fun a' hF'=>k v w' a' ((st.to bb).add h (hcl v)) hF'⟩
theorem SG.callx {f:FuncId} {args:Array Value} {o:Oper} (st:Sg W w bs fs v0 G0) (hF:Fr nt a L) (hr:(execOp a.eval o).run P w= .ok (.enter f args) w) (hc:Calls P f args w fun e w'=>e= .returned v/\Below w.heap.size w w') (hg:o.guard=none) (hd:o.dst=some d) (hlt:Nat.blt d nt=true) (hf:a5 d L=true)
 (k:∀w' a',Sg W w' bs fs v0 G0->Fr nt a' ((d,v)::L)->wpS P ops Q rest a' w'):wpS P ops Q (o::rest) a w:=
 E.call hF hr hc hg hd hlt hf fun e w' ⟨he,bb⟩=>⟨v,he,fun a' hF'=>k w' a' (st.to bb) hF'⟩
theorem SG.ck {f:FuncId} {args:Array Value} {m:Mb H} {op:Op} {ty:TypeId} {pos:String} {af:Array Edge} (st:Sg W w bs fs v0 G0) (hF:Fr nt a L) (hr:(execOp a.eval ⟨some d,op,ty,pos,af,none⟩).run P w= .ok (.enter f args) w) (hc:Calls P f args w (Ret (.of H m) w)) (hcl:∀v,Cl fun w=>H w v) (hk:(Nat.blt d nt && a5 d L)=true)
 (k:∀v w' a',Sg W w' bs ((fun w=>H w v)::fs) v0 G0->Fr nt a' ((d,v)::L)->wpS P ops Q rest a' w'):wpS P ops Q (⟨some d,op,ty,pos,af,none⟩::rest) a w:=
 SG.call (H:=fun v w=>H w v) st hF hr hc (fun _ _ h=>h) hcl rfl rfl (rg2 hk).1 (rg2 hk).2 k
theorem SG.stoIU (st:Sg W w bs fs v0 G0) (hF:Fr nt a L) (i:Nat) (hb:bs[i]?=some (g,cs)) (hcu:cs.all rz=true) (hU:∀F∈fs,ClU F) (he:a.eval x= .pointer (some ⟨g,0,none⟩)) (hv:a.eval y= .agg vs.toArray) (hT:Ty P T n zs) (hl:vs.length=n) (hl':cs.length=n) (hc':vs.all ie=true)
 (k:∀w' a',Sg W w' (bs.set i (g,vs)) fs v0 G0->Fr nt a' L->wpS P ops Q rest a' w'):wpS P ops Q (⟨none,.store T x y,ty,pos,af,none⟩::rest) a w:=by
 obtain⟨w1,hr,tu,on⟩:=iE (P:=P) (o:=0) (ws:=vs) (st.bk i hb) hT.s hl (by simp[hl']) (ie.oc hc') (by subst hl;simp[hl'])
 exact E.st hF (dD he hv (hr _ rfl)) rfl rfl fun a' hF'=>k w1 a' (st.setU2 i hb hcu hU tu on) hF'
end
end
end
end Go.Proofs.YtgdpkknapcgcbaaGreatDoor
