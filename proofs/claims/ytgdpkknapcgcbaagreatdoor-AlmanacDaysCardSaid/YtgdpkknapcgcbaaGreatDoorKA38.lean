import Derived.Test.YtgdpkknapcgcbaaGreatDoorKA37
namespace Go.Proofs.YtgdpkknapcgcbaaGreatDoor
open Go.RowKit
set_option maxRecDepth 100000
set_option linter.unusedVariables false
set_option maxHeartbeats 8000000
def fN (w:World) (m T base:Nat) (v:Value) (n:Nat) (rs:List Value):Prop:=gP w m T base v n rs\/(n=0/\rs=[]/\∃g,v= .slice (some ⟨g,0,none⟩) 0 0/\g<w.heap.size)
def Apt (v u:Value):Prop:=∀g,v.ownBlock=some g->u.ownBlock≠some g
theorem Apt.symm {v u:Value} (h:Apt v u):Apt u v:=fun g e1 e2=>h g e2 e1
theorem fN.lt {w:World} {m T base:Nat} {v:Value} {n:Nat} {rs:List Value} (h:fN w m T base v n rs):∀k,v.ownBlock=some k->k<w.heap.size:=by
 rcases h with h|⟨_,_,g,rfl,hg⟩
 ·exact fun k e=>(h.lt k e).2
 ·intro k e
  injection e with e
  have e2:g=k:=e
  omega
theorem fN.kept {w w':World} {row:Option Nat} {m T base:Nat} {v:Value} {n:Nat} {rs:List Value} (h:fN w m T base v n rs) (hg:w.grownBy w' row) (hne:∀g,row=some g->v.ownBlock≠some g):fN w' m T base v n rs:=by
 rcases h with h|⟨e1,e2,g,e3,hl⟩
 ·refine .inl (World.ownsRow.kept h hg ?_)
  cases row with
  |none=>cases hv:v.ownBlock <;> simp
  |some r=>exact .inr (hne r rfl)
 ·exact .inr ⟨e1,e2,g,e3,Nat.lt_of_lt_of_le hl hg.size⟩
theorem fN.below {w w':World} {m T base:Nat} {v:Value} {n:Nat} {rs:List Value} (h:fN w m T base v n rs) (hb:Below w.heap.size w w'):fN w' m T base v n rs:=
 h.kept (row:=none) ⟨hb.os,hb.tape,hb.output,hb.size,fun k hk _=>hb.block k hk⟩ (fun g e=>by cases e)
theorem fN.full {w:World} {m T base:Nat} {v:Value} {n:Nat} {rs:List Value} (h:fN w m T base v n rs) (hn:0<n):gP w m T base v n rs:=by
 rcases h with h|⟨e,_⟩
 ·exact h
 ·omega
def jW (w:World) (v:Value):Prop:=∃g,v= .slice (some ⟨g,0,none⟩) 0 0/\g<w.heap.size
theorem jW.below {w w':World} {v:Value} (h:jW w v) (hb:Below w.heap.size w w'):jW w' v:=by
 obtain⟨g,e,l⟩:=h
 exact⟨g,e,Nat.lt_of_lt_of_le l hb.size⟩
theorem jW.turned {w w':World} {v:Value} {b:Nat} (h:jW w v) (tu:db b w w'):jW w' v:=by
 obtain⟨g,e,l⟩:=h
 exact⟨g,e,by rw[tu.size];exact l⟩
theorem jW.z {w:World} {m T base:Nat} {v:Value} (h:jW w v):fN w m T base v 0 []:= .inr ⟨rfl,rfl,h⟩
theorem GW {w:World} {ga gb:Nat} (h:jW w (.slice (some ⟨ga,0,none⟩) 0 0)) (e:w.heap.size=gb):Apt (.slice (some ⟨ga,0,none⟩) 0 0) (.slice (some ⟨gb,0,none⟩) 0 0):=by
 obtain⟨g,e1,l⟩:=h
 injection e1 with e1;injection e1 with e1;injection e1 with e1
 intro k e2 e3
 have e4:ga=k:=by injection e2
 have e5:gb=k:=by injection e3
 omega
theorem gP.low {w:World} {m T base b:Nat} {v:Value} {n:Nat} {rs:List Value} (h:gP w m T base v n rs) (l:b<=base):gP w m T b v n rs:=by
 refine⟨h.1,?_⟩
 rcases h.2 with x|⟨g,cap,cur,h1,h2,h3⟩
 ·exact .inl x
 ·exact .inr ⟨g,cap,cur,h1,by omega,h3⟩
theorem fN.app {P:Program} {w:World} {t T ty:TypeId} {m bytes base:Nat} (ht:P.underlying t=some (.slice T)) (hq:∃i z,P.info? T=some i/\i.zero=some z/\i.size=m/\i.bytes=bytes/\z.cells.size=m) (hm:0<m) (hbb:bytes<=64)
 {v:Value} {n:Nat} {rs:List Value} (h:fN w m T base v n rs) {gs:Nat} {es:List Value} (hsrc:Blk w gs es) (he:es.length=m) (h1:∀u∈es,u.oneCell'=true) (hl:n<=1000000) (hbase:base<=w.heap.size):
 ∃ad cap w' row,(builtin .append #[t,t] ty #[false,false] #[v,.slice (some ⟨gs,0,none⟩) 1 1]).run P w= .ok (.value (.slice ad (n+1) cap)) w'/\fN w' m T base (.slice ad (n+1) cap) (n+1) (rs++es)/\w.grownBy w' row/\(∀g,row=some g->v.ownBlock=some g)/\Below base w w'/\∀b,b<w.heap.size->v.ownBlock≠some b->(Value.slice ad (n+1) cap).ownBlock ≠some b:=by
 rcases h with h|⟨rfl,rfl,g,rfl,hg⟩
 ·obtain⟨ad,cap,w',hr,h2,h3,h4,h5⟩:=gP.app (ty:=ty) ht hq hm hbb h hsrc he h1 hl hbase
  exact⟨ad,cap,w',_,hr,.inl h2,h3,fun g e=>e,h4,h5⟩
 ·obtain⟨i,z,hi,hz,hs,hby,hzs⟩:=hq
  obtain⟨Ts,hsr⟩:=hsrc
  have hnews:∀j u,es[j]?=some u->w.cell? ((⟨gs,0,none⟩:Addr).add j)=some u:=by
   intro j u hj
   rw[Addr.add_mid,Nat.zero_add,cell_of_row w gs j _ _ _ hsr,List.getElem?_toArray];exact hj
  have hll:es.length=1*i.size:=by rw[he,hs,Nat.one_mul]
  have hr:=run_append_grow (P:=P) w t ty T i z ht hi hz ⟨g,0,none⟩ 0 0 [] (by simp) (by simp) ⟨gs,0,none⟩ 1 1 es hll hnews (by decide) (by decide) (growslice_fits (by decide) (by rw[hby];omega))
  simp only [Nat.zero_add] at hr ⊢
  have hge:=grownCap_ge w 1 0 T
  have hcm:grownCap w 1 0 T<=maxLen:=grownCap_le_maxLen w 1 0 T (by decide)
  have hgr:w.grownBy (w.drew.alloc (.cells (([]:List Value).toArray ++es.toArray++Builtin.zeroCells z.cells (grownCap w 1 0 T-1)) T)) none:=⟨rfl,rfl,rfl,by simp,fun k hk hr=>(World.grownBy_alloc w.drew _ none).block k hk hr⟩
  refine⟨_,_,_,none,(by show(do pure (.value (<-Builtin.append_ #[t,t] ty #[.slice (some ⟨g,0,none⟩) 0 0,.slice (some ⟨gs,0,none⟩) 1 1])):Sem Next).run P w=_;rw[Sem.run_bind,hr];rfl),.inl ⟨by rw[List.nil_append,he,Nat.one_mul],.inr ⟨w.heap.size,_,_,rfl,hbase,heap_alloc_new w.drew _,hge,hcm,?_,?_⟩⟩,hgr,(fun _ e=>by cases e),ip hgr (fun _ e=>by cases e) hbase,fun b hb _ e=>by injection e with e;have e2:w.heap.size=b:=e;omega⟩
  ·simp only [List.size_toArray,Array.size_append,size_zeroCells,hzs,he,List.length_nil]
   have:(1+(grownCap w 1 0 T-1))*m=grownCap w 1 0 T*m:=by congr 1;omega
   rw[<-this,Nat.add_mul,Nat.one_mul,Nat.zero_add]
  ·simp only [Array.toList_append,List.nil_append]
   rw[show 1*m=es.length by rw[he,Nat.one_mul]]
   exact List.take_left
def ixL (t:Rat):Nat->List Value
 |0=>[]
 |k+1=>ixL t k++[iv (kX ((k:Nat):Int) t)]
theorem lH (t:Rat):∀k,(ixL t k).length =k
 |0=>rfl
 |k+1=>by show(ixL t k++_).length =_;rw[List.length_append,lH t k];rfl
theorem tr {c:Int} (h0:0<=c) (h1:c<=4) (t:Rat):0<=kI c t/\kI c t<kN c:=by
 have n:=mF c
 rw[gV h0 h1]
 exact⟨Int.emod_nonneg _ (by omega),Int.emod_lt_of_pos _ (by omega)⟩
def p8 (M:Nat) (w:World) (v:Value):Prop:=∃ad cap,v= .slice ad M cap
theorem p8.mb (M:Nat):Mb (p8 M):=fun _ _ _ h _=>h
theorem gu (t:Rat) (more:List Value) {k j:Nat} (h:j<k):(ixL t k++more)[j]?=some (iv (kX ((j:Nat):Int) t)):=by
 rw[List.getElem?_append_left (by rw[lH];exact h)]
 induction k with
 |zero=>omega
 |succ k ih=>
  show(ixL t k++_)[j]?=_
  by_cases e:j<k
  ·rw[List.getElem?_append_left (by rw[lH];exact e)];exact ih e
  ·obtain rfl:j=k:=by omega
   rw[List.getElem?_append_right (by rw[lH];exact Nat.le_refl _),lH,Nat.sub_self];rfl
theorem qj:∃i z,Tryz.prog.info? 3=some i/\i.zero=some z/\i.size=1/\i.bytes=8/\z.cells.size=1:=by
 have h1:(Tryz.prog.info? 3).map (·.size)=some 1:=by kernel_rfl
 have h2:(Tryz.prog.info? 3).bind (·.zero)=some (iv 0):=by kernel_rfl
 have h3:(Tryz.prog.info? 3).map (·.bytes)=some 8:=by kernel_rfl
 cases hq:Tryz.prog.info? 3 with
 |none=>rw[hq] at h1;cases h1
 |some i=>exact⟨i,iv 0,rfl,by simpa[hq] using h2,by simpa[hq] using h1,by simpa[hq] using h3,rfl⟩
theorem xQ (w:World):∃g w',w.heap.size=g/\(Instr.buildSlice 40 0 #[]).run Tryz.prog w= .ok (.slice (some ⟨g,0,none⟩) 0 0) w'/\Below w.heap.size w w'/\g<w'.heap.size:=by
 have hn:=d8 (w:=w) (cs:=[]) 3
 refine⟨w.heap.size,w.alloc (.cells #[] 3),rfl,?_,hn.2,hn.1.lt⟩
 have hs:=aH (P:=Tryz.prog) (T:=3) (n:=1) cE w
 simp[Instr.buildSlice,go_sem,hs,Instr.fill,newRow]
theorem xY (w:World) (z:Int):∃g w',w.heap.size=g/\(Instr.buildSlice 40 1 #[(0,iv z)]).run Tryz.prog w= .ok (.slice (some ⟨g,0,none⟩) 1 1) w'/\Below w.heap.size w w'/\Blk w' g [iv z]:=by
 have hb:=d8 (w:=w) (cs:=[iv z]) 3
 refine⟨w.heap.size,w.alloc (.cells #[iv z] 3),rfl,?_,hb.2,hb.1⟩
 have hs:=aH (P:=Tryz.prog) (T:=3) (n:=1) cE w
 simp[Instr.buildSlice,go_sem,hs,Instr.fill,Value.cells,newRow]
theorem f5 {w:World} {g n c i:Nat} {z:Int} (hz:z=((i:Nat):Int)) (hi:i<n):(Instr.indexAt 40 (.slice (some ⟨g,0,none⟩) n c) (iv z)).run Tryz.prog w= .ok (.pointer (some ⟨g,i,none⟩)) w:=by
 subst hz
 simp[Instr.indexAt,asIntOf,run_underlying Tryz.underlying40,Sem.run_bind,Addr.add_mid,hi]
def DyV (w:World) (base:Nat) (v:Value) (n wd:Int) (r s u:Rat) (N:Nat) (ps:List Pt):Prop:=
 ∃b1 a1 n1 c1 d1 m1 e1 b2 a2 n2 c2 d2 m2 e2 b3 a3 n3 c3 d3 m3 e3 ad cap,v= .agg #[iv n,iv wd,.bool b1,.slice a1 n1 c1,.slice d1 m1 e1,.bool b2,.slice a2 n2 c2,.slice d2 m2 e2,.bool b3,.slice a3 n3 c3,.slice d3 m3 e3,.slice ad N cap]/\
  Rl r 3 w (.agg #[.bool b1,.slice a1 n1 c1,.slice d1 m1 e1])/\Rl s 3 w (.agg #[.bool b2,.slice a2 n2 c2,.slice d2 m2 e2])/\Rl u 3 w (.agg #[.bool b3,.slice a3 n3 c3,.slice d3 m3 e3])/\bN w base (.slice ad N cap) ps
theorem PtV.clU {cs:List Value} {p:Pt}:ClU fun w=>PtV w cs p:=by
 rintro w w' ⟨b1,a1,n1,c1,d1,m1,e1,b2,a2,n2,c2,d2,m2,e2,h0,h1,h2⟩ kp
 exact⟨b1,a1,n1,c1,d1,m1,e1,b2,a2,n2,c2,d2,m2,e2,h0,⟨h1.1.keepU kp,h1.2⟩,⟨h2.1.keepU kp,h2.2⟩⟩
theorem PEl.clU {cs:List Value} {ps:List Pt}:ClU fun w=>PEl w cs ps:=fun w w' h kp i p e=>PtV.clU w w' (h i p e) kp
theorem Gy (t u:Rat):4<=(prA t u).length :=by rw[rD];simp only [paM];omega
theorem dt.gc {m T base n:Nat} {v:Value} {rs:List Value}:GCl v fun w=>dt w m T base v n rs:=by
 rintro w w' ⟨h1,h2⟩ hb hs ku
 refine⟨⟨h1.1,?_⟩,fun g e j z hc=>h2 g e j z (by rw[<-hc];exact(World.cell?_of_block (w:=w) (hb g e)).symm)⟩
 rcases h1.2 with hn|⟨g,cap,cur,rfl,hbg,hgg,rest⟩
 ·exact .inl hn
 ·exact .inr ⟨g,cap,cur,rfl,hbg,by rw[hb g rfl];exact hgg,rest⟩
theorem bN.gc {base:Nat} {v:Value} {ps:List Pt}:GCl v fun w=>bN w base v ps:=by
 rintro w w' ⟨rs,h1,h2⟩ hb hs ku
 exact⟨rs,dt.gc w w' h1 hb hs ku,PEl.clU w w' h2 ku⟩
theorem bN.gl {base:Nat} {v:Value} {ps:List Pt}:∀w,bN w base v ps->∀b,v.ownBlock=some b->base<=b/\b<w.heap.size:=by
 rintro w ⟨rs,h1,_⟩
 exact h1.lt
theorem St.gnew {W w:World} {bs:List (Nat×List Value)} {fs:List (World->Prop)} (st:St W w bs fs) {g n c:Nat} (e:w.heap.size=g):∀p∈bs,(Value.slice (some ⟨g,0,none⟩) n c).ownBlock ≠some p.1:=fun p hp h=>st.ne (Nat.le_of_eq e) p hp (by injection h with h;exact h.symm)
theorem sA:∃i z,Tryz.prog.info? 57=some i/\i.zero=some z/\i.size=8/\i.bytes=128/\z.cells.size=8/\∀u∈z.cells.toList,noU u:=by
 have h1:(Tryz.prog.info? 57).map (·.size)=some 8:=by kernel_rfl
 have h2:(Tryz.prog.info? 57).bind (·.zero)=some (.agg #[iv 0,iv 0,.bool false,.slice none 0 0,.slice none 0 0,.bool false,.slice none 0 0,.slice none 0 0]):=by kernel_rfl
 have h3:(Tryz.prog.info? 57).map (·.bytes)=some 128:=by kernel_rfl
 cases hq:Tryz.prog.info? 57 with
 |none=>rw[hq] at h1;cases h1
 |some i=>exact⟨i,.agg #[iv 0,iv 0,.bool false,.slice none 0 0,.slice none 0 0,.bool false,.slice none 0 0,.slice none 0 0],rfl,by simpa[hq] using h2,by simpa[hq] using h1,by simpa[hq] using h3,rfl,(show ∀u∈[Value.int .i64 0,iv 0,.bool false,.slice none 0 0,.slice none 0 0,.bool false,.slice none 0 0,.slice none 0 0],noU u from nuC nuI (nuC nuI (nuC nuB (nuC nuS (nuC nuS (nuC nuB (nuC nuS (nuC nuS nu0))))))))⟩
theorem PtV.cells {w:World} {es:List Value} {p:Pt} (h:PtV w es p):es.length=8/\(∀u∈es,noU u)/\∀u∈es,u.oneCell'=true:=by
 obtain⟨b1,a1,n1,c1,d1,m1,e1,b2,a2,n2,c2,d2,m2,e2,rfl,_,_⟩:=h
 exact⟨rfl,nuC nuI (nuC nuI (nuC nuB (nuC nuS (nuC nuS (nuC nuB (nuC nuS (nuC nuS nu0))))))),ocI (ocI (ocB (ocS (ocS (ocB (ocS (ocS oc0)))))))⟩
theorem bN.put {w:World} {base:Nat} {v:Value} {ps:List Pt} (h:bN w base v ps) {gs:Nat} {es:List Value} {p:Pt} (hs:Blk w gs es) (hp:PtV w es p) {N:Nat} (hN:ps.length=N) (hl:N<=1000000) (bel:base<=w.heap.size) {ty:TypeId}:
 ∃ad cap w',(builtin .append #[34,34] ty #[false,false] #[v,.slice (some ⟨gs,0,none⟩) 1 1]).run Tryz.prog w= .ok (.value (.slice ad (N+1) cap)) w'/\bN w' base (.slice ad (N+1) cap) (ps++[p])/\w.grownBy w' v.ownBlock/\Below base w w'/\fW w w'/\∀b,b<w.heap.size->v.ownBlock≠some b->(Value.slice ad (N+1) cap).ownBlock ≠some b:=by
 subst hN
 obtain⟨rs,h1,h2⟩:=h
 obtain⟨c1,c2,c3⟩:=hp.cells
 obtain⟨ad,cap,w',hr,ha,gg,bb,ku,hne⟩:=dt.put (ty:=ty) Tryz.underlying34 sA (by decide) (by decide) h1 hs c2 c1 c3 hl bel
 refine⟨ad,cap,w',hr,⟨rs++es,by rw[List.length_append];exact ha,?_⟩,gg,bb,ku,hne⟩
 intro i q e
 have hrl:=h1.1.1
 rcases Nat.lt_or_ge i ps.length with k|k
 ·rw[List.getElem?_append_left k] at e
  rw[List.drop_append_of_le_length (by omega),List.take_append_of_le_length (by rw[List.length_drop];omega)]
  exact PtV.clU w w' (h2 i q e) ku
 ·have hi:i=ps.length:=by
   have:=(List.getElem?_eq_some_iff.1 e).1
   simp at this
   omega
  subst hi
  rw[List.getElem?_append_right (Nat.le_refl _),Nat.sub_self] at e
  injection e with e
  subst e
  rw[show 8*ps.length=rs.length by omega,List.drop_left,<-c1,List.take_length]
  exact PtV.clU w w' hp ku
theorem vw (w:World) (base:Nat) (hb:base<=w.heap.size):∃g w',w.heap.size=g/\(Instr.buildSlice 34 0 #[]).run Tryz.prog w= .ok (.slice (some ⟨g,0,none⟩) 0 0) w'/\Below w.heap.size w w'/\bN w' base (.slice (some ⟨g,0,none⟩) 0 0) []:=by
 have hn:=d8 (w:=w) (cs:=[]) 57
 refine⟨w.heap.size,w.alloc (.cells #[] 57),rfl,?_,hn.2,[],⟨⟨rfl,.inr ⟨w.heap.size,0,#[],rfl,hb,heap_alloc_new w _,Nat.le_refl _,Nat.zero_le _,rfl,rfl⟩⟩,fun g e=>?_⟩,fun i p h=>by simp at h⟩
 ·have hs:=aH (P:=Tryz.prog) (T:=57) (n:=8) li w
  simp[Instr.buildSlice,go_sem,hs,Instr.fill,newRow]
 ·injection e with e
  subst e
  exact gL (cs:=[]) (heap_alloc_new w _) nu0
theorem pf (w:World) (z0 z1:Int) (b1:Bool) (a1:Option Addr) (n1 c1:Nat) (d1:Option Addr) (m1 e1:Nat) (b2:Bool) (a2:Option Addr) (n2 c2:Nat) (d2:Option Addr) (m2 e2:Nat):∃g w',w.heap.size=g/\(Instr.buildSlice 34 1 #[(0,.agg #[iv z0,iv z1,.bool b1,.slice a1 n1 c1,.slice d1 m1 e1,.bool b2,.slice a2 n2 c2,.slice d2 m2 e2])]).run Tryz.prog w= .ok (.slice (some ⟨g,0,none⟩) 1 1) w'/\Below w.heap.size w w'/\Blk w' g [iv z0,iv z1,.bool b1,.slice a1 n1 c1,.slice d1 m1 e1,.bool b2,.slice a2 n2 c2,.slice d2 m2 e2]:=by
 have hb:=d8 (w:=w) (cs:=[iv z0,iv z1,.bool b1,.slice a1 n1 c1,.slice d1 m1 e1,.bool b2,.slice a2 n2 c2,.slice d2 m2 e2]) 57
 refine⟨w.heap.size,w.alloc (.cells #[iv z0,iv z1,.bool b1,.slice a1 n1 c1,.slice d1 m1 e1,.bool b2,.slice a2 n2 c2,.slice d2 m2 e2] 57),rfl,?_,hb.2,hb.1⟩
 have hs:=aH (P:=Tryz.prog) (T:=57) (n:=8) li w
 simp[Instr.buildSlice,go_sem,hs,Instr.fill,Value.cells,newRow]
theorem Fn (k:Int) (ps:List Pt):ofK k (ps.take 0)=[]:=by rw[List.take_zero];rfl
theorem yd {k:Int} {ps:List Pt} {i:Nat} {p:Pt} (h:ps[i]?=some p) (e:p.1=k):ofK k (ps.take (i+1))=ofK k (ps.take i)++[p]:=by
 rw[List.take_add_one,h,fF]
 congr 1
 exact List.filter_cons_of_pos (decide_eq_true e)
theorem zZ {k:Int} {ps:List Pt} {i:Nat} {p:Pt} (h:ps[i]?=some p) (e:¬p.1=k):ofK k (ps.take (i+1))=ofK k (ps.take i):=by
 rw[List.take_add_one,h,fF,show ofK k (some p).toList =[] from List.filter_cons_of_neg (by rw[decide_eq_true_iff];exact e),List.append_nil]
theorem Hp {k:Int} {ps:List Pt} {i:Nat} (h:ps.length<=i):ofK k (ps.take i)=ofK k ps:=by rw[List.take_of_length_le h]
theorem H5 (k:Int) (ps:List Pt) (i:Nat):(ofK k (ps.take i)).length <=i:=by
 refine Nat.le_trans (List.length_filter_le ..) ?_
 rw[List.length_take]
 omega
theorem dt.cat {P:Program} {w:World} {t T ty:TypeId} {m bytes base:Nat} (ht:P.underlying t=some (.slice T)) (hq:∃i z,P.info? T=some i/\i.zero=some z/\i.size=m/\i.bytes=bytes/\z.cells.size=m/\∀u∈z.cells.toList,noU u) (hm:0<m) (hbb:bytes<=200)
 {v:Value} {n:Nat} {rs:List Value} (h:dt w m T base v n rs) {gs k ck:Nat} {es more:List Value} (hsrc:Blk w gs (es++more)) (hsn:∀u∈es,noU u) (he:es.length=k*m) (h1:∀u∈es,u.oneCell'=true) (hk:0<k) (hkl:k<=1000) (hl:n<=1000000) (hbase:base<=w.heap.size):
 ∃ad cap w',(builtin .append #[t,t] ty #[false,false] #[v,.slice (some ⟨gs,0,none⟩) k ck]).run P w= .ok (.value (.slice ad (n+k) cap)) w'/\dt w' m T base (.slice ad (n+k) cap) (n+k) (rs++es)/\w.grownBy w' v.ownBlock/\Below base w w'/\fW w w'/\∀b,b<w.heap.size->v.ownBlock≠some b->(Value.slice ad (n+k) cap).ownBlock ≠some b:=by
 obtain⟨i,z,hi,hz,hs,hby,hzs,hzn⟩:=hq
 obtain⟨Ts,hsr⟩:=hsrc
 have hnews:∀j u,es[j]?=some u->w.cell? ((⟨gs,0,none⟩:Addr).add j)=some u:=by
  intro j u hj
  rw[Addr.add_mid,Nat.zero_add,cell_of_row w gs j _ _ _ hsr,List.getElem?_toArray,List.getElem?_append_left (List.getElem?_eq_some_iff.1 hj).1];exact hj
 have hb1:(n+k)*bytes<=140737488355328:=by
  have:=Nat.mul_le_mul (show n+k<=1001000 by omega) hbb
  omega
 have hb2:k*bytes<=140737488355328:=by
  have:=Nat.mul_le_mul hkl hbb
  omega
 obtain⟨v',w',hr,h2,h3,_⟩:=run_append_own (P:=P) w base t ty T i z m bytes ht hi hz hs hby hzs hm v n rs h.1 ⟨gs,0,none⟩ k ck es he hnews h1 (by unfold maxLen;omega) hb1 hbase
 have hll':es.length=k*i.size:=by rw[hs];exact he
 have hall:∀u∈rs,noU u:=by
  rcases h.1.2 with⟨_,h0⟩|⟨g,cap,cur,hv,_,hg,_,_,_,htake⟩
  ·have hx:rs=[]:=List.eq_nil_of_length_eq_zero (by rw[h.1.1,h0,Nat.zero_mul])
   subst hx
   exact fun _ hu=>by cases hu
  ·intro u hu
   rw[<-htake] at hu
   exact h.all hv hg u (List.mem_of_mem_take hu)
 have fresh:∀(cs:List Value),cs=rs->∀k,NoU (w.drew.alloc (.cells (cs.toArray++es.toArray++Builtin.zeroCells z.cells k) T)) w.heap.size:=by
  intro cs hcs k
  subst hcs
  have e:=heap_alloc_new w.drew (.cells (cs.toArray++es.toArray++Builtin.zeroCells z.cells k) T)
  refine gL (T:=T) (cs:=cs++es++(Builtin.zeroCells z.cells k).toList) (e.trans (by simp)) ?_
  intro u hu
  rcases List.mem_append.1 hu with hu|hu
  ·rcases List.mem_append.1 hu with hu|hu
   ·exact hall u hu
   ·exact hsn u hu
  ·exact sV hzn k u hu
 have fin:∀ {ad:Option Addr} {cap:Nat} {w':World},(Builtin.append_ #[t,t] ty #[v,.slice (some ⟨gs,0,none⟩) k ck]).run P w= .ok (.slice ad (n+k) cap) w'->dt w' m T base (.slice ad (n+k) cap) (n+k) (rs++es)->w.grownBy w' v.ownBlock->(∀b,b<w.heap.size->v.ownBlock≠some b->(Value.slice ad (n+k) cap).ownBlock ≠some b)->
  ∃ad cap w',(builtin .append #[t,t] ty #[false,false] #[v,.slice (some ⟨gs,0,none⟩) k ck]).run P w= .ok (.value (.slice ad (n+k) cap)) w'/\dt w' m T base (.slice ad (n+k) cap) (n+k) (rs++es)/\w.grownBy w' v.ownBlock/\Below base w w'/\fW w w'/\∀b,b<w.heap.size->v.ownBlock≠some b->(Value.slice ad (n+k) cap).ownBlock ≠some b:=fun{ad} {cap} {w'} hr h2 h3 h4=>by
  refine⟨ad,cap,w',?_,h2,h3,ip h3 (fun g e=>(h.1.lt g e).1) hbase,oW h3 h.2,h4⟩
  show(do pure (.value (<-Builtin.append_ #[t,t] ty #[v,.slice (some ⟨gs,0,none⟩) k ck])):Sem Next).run P w=_
  rw[Sem.run_bind,hr];rfl
 rcases h.1.2 with⟨hv,hn⟩|⟨g,cap,cur,hv,hbg,hg,hnc,hcm,hcs,htake⟩
 ·subst hv hn
  have hx:rs=[]:=List.eq_nil_of_length_eq_zero (by rw[h.1.1,Nat.zero_mul])
  have hr2:=run_append_nil (P:=P) w t ty T i z ht hi hz ⟨gs,0,none⟩ k ck es hll' hnews hk (by omega) (by rw[hby];omega)
  have hr3:=hr
  rw[hr2] at hr3
  injection hr3 with e1 e2
  subst e1 e2
  refine fin (by rw[Nat.zero_add];exact hr2) ⟨by rw[Nat.zero_add] at h2 ⊢;exact h2,?_⟩ h3 (fun b hb _ e=>by injection e with e;have e2:w.heap.size=b:=e;omega)
  intro g hg
  injection hg with hg
  subst hg
  simpa using fresh [] hx.symm (grownCap w k 0 T-k)
 ·subst hv
  by_cases hroom:n+k<=cap
  ·have hfit:n*i.size+es.length<=cur.size:=by
    rw[hs,he,hcs]
    have:=Nat.mul_le_mul_right m hroom
    rwa[Nat.add_mul] at this
   have hr2:=run_append_room (P:=P) w t ty T i ht hi g n cap cur hg ⟨gs,0,none⟩ k ck es hll' hnews h1 hroom hfit
   have hr3:=hr
   rw[hr2] at hr3
   injection hr3 with e1 e2
   subst e1 e2
   refine fin hr2 ⟨h2,?_⟩ h3 (fun b _ h=>h)
   intro g' hg'
   injection hg' with hg'
   subst hg'
   have ha:=h.all rfl hg
   refine gL (setRow_heap w g _ _ T (0,0) hg) ?_
   intro u hu
   rcases List.mem_append.1 hu with hu|hu
   ·rcases List.mem_append.1 hu with hu|hu
    ·exact ha u (List.mem_of_mem_take hu)
    ·exact hsn u hu
   ·exact ha u (List.mem_of_mem_drop hu)
  ·have holds:∀j u,rs[j]?=some u->w.cell? ((⟨g,0,none⟩:Addr).add j)=some u:=h.1.cells (g:=g) rfl
   have hr2:=run_append_grow (P:=P) w t ty T i z ht hi hz ⟨g,0,none⟩ n cap rs (by rw[hs];exact h.1.1) holds ⟨gs,0,none⟩ k ck es hll' hnews (by omega) (by omega) (growslice_fits (by omega) (by rw[hby];exact hb1))
   have hr3:=hr
   rw[hr2] at hr3
   injection hr3 with e1 e2
   subst e1 e2
   refine fin hr2 ⟨h2,?_⟩ h3 (fun b hb _ e=>by injection e with e;have e2:w.heap.size=b:=e;omega)
   intro g' hg'
   injection hg' with hg'
   subst hg'
   exact fresh rs rfl _
theorem PEl.takes {w:World} {cs:List Value} {qs:List Pt} (h:PEl w cs qs):∀k,k<=qs.length->(cs.take (8*k)).length =8*k/\(∀u∈cs.take (8*k),noU u)/\∀u∈cs.take (8*k),u.oneCell'=true
 |0,_=>⟨rfl,(fun u hu=>by simp at hu),(fun u hu=>by simp at hu)⟩
 |k+1,hk=>by
  obtain⟨a1,a2,a3⟩:=PEl.takes h k (by omega)
  obtain⟨c1,c2,c3⟩:=PtV.cells (h k _ (List.getElem?_eq_getElem (by omega)))
  rw[show 8*(k+1)=8*k+8 by omega,List.take_add]
  refine⟨by rw[List.length_append,a1,c1],fun u hu=>?_,fun u hu=>?_⟩
  ·rcases List.mem_append.1 hu with hu|hu
   ·exact a2 u hu
   ·exact c2 u hu
  ·rcases List.mem_append.1 hu with hu|hu
   ·exact a3 u hu
   ·exact c3 u hu
theorem bN.cat {w:World} {base:Nat} {v:Value} {ps:List Pt} (h:bN w base v ps) {gs k ck:Nat} {cs:List Value} {qs:List Pt} (hs:Blk w gs cs) (hq:PEl w cs qs) (hk:qs.length=k) (hk0:0<k) (hk1:k<=1000) {N:Nat} (hN:ps.length=N) (hl:N<=1000000) (bel:base<=w.heap.size) {ty:TypeId}:
 ∃ad cap w',(builtin .append #[34,34] ty #[false,false] #[v,.slice (some ⟨gs,0,none⟩) k ck]).run Tryz.prog w= .ok (.value (.slice ad (N+k) cap)) w'/\bN w' base (.slice ad (N+k) cap) (ps++qs)/\w.grownBy w' v.ownBlock/\Below base w w'/\fW w w'/\∀b,b<w.heap.size->v.ownBlock≠some b->(Value.slice ad (N+k) cap).ownBlock ≠some b:=by
 subst hN hk
 obtain⟨rs,h1,h2⟩:=h
 obtain⟨c1,c2,c3⟩:=hq.takes qs.length (Nat.le_refl _)
 rw[<-List.take_append_drop (8*qs.length) cs] at hs
 obtain⟨ad,cap,w',hr,ha,gg,bb,ku,hne⟩:=dt.cat (ty:=ty) Tryz.underlying34 sA (by decide) (by decide) h1 hs c2 (by rw[c1,Nat.mul_comm]) c3 hk0 hk1 hl bel
 refine⟨ad,cap,w',hr,⟨rs++cs.take (8*qs.length),by rw[List.length_append];exact ha,?_⟩,gg,bb,ku,hne⟩
 intro i q e
 have hrl:=h1.1.1
 rcases Nat.lt_or_ge i ps.length with k|k
 ·rw[List.getElem?_append_left k] at e
  rw[List.drop_append_of_le_length (by omega),List.take_append_of_le_length (by rw[List.length_drop];omega)]
  exact PtV.clU w w' (h2 i q e) ku
 ·rw[List.getElem?_append_right k] at e
  have hi:=(List.getElem?_eq_some_iff.1 e).1
  have x:=PtV.clU w w' (hq (i-ps.length) q e) ku
  rw[show 8*i=rs.length+8*(i-ps.length) by omega,<-List.drop_drop,List.drop_left,List.drop_take,List.take_take,Nat.min_eq_left (by omega)]
  exact x
theorem Ca (w:World) (base:Nat) (hb:base<=w.heap.size) {z0 z1:Int} {b1:Bool} {a1:Option Addr} {n1 c1:Nat} {d1:Option Addr} {m1 e1:Nat} {b2:Bool} {a2:Option Addr} {n2 c2:Nat} {d2:Option Addr} {m2 e2:Nat} {p:Pt} (hp:PtV w [iv z0,iv z1,.bool b1,.slice a1 n1 c1,.slice d1 m1 e1,.bool b2,.slice a2 n2 c2,.slice d2 m2 e2] p):
 ∃g w',w.heap.size=g/\(Instr.buildSlice 34 1 #[(0,.agg #[iv z0,iv z1,.bool b1,.slice a1 n1 c1,.slice d1 m1 e1,.bool b2,.slice a2 n2 c2,.slice d2 m2 e2])]).run Tryz.prog w= .ok (.slice (some ⟨g,0,none⟩) 1 1) w'/\Below w.heap.size w w'/\bN w' base (.slice (some ⟨g,0,none⟩) 1 1) [p]:=by
 obtain⟨k1,k2,k3⟩:=hp.cells
 have hn:=d8 (w:=w) (cs:=[iv z0,iv z1,.bool b1,.slice a1 n1 c1,.slice d1 m1 e1,.bool b2,.slice a2 n2 c2,.slice d2 m2 e2]) 57
 refine⟨w.heap.size,w.alloc (.cells #[iv z0,iv z1,.bool b1,.slice a1 n1 c1,.slice d1 m1 e1,.bool b2,.slice a2 n2 c2,.slice d2 m2 e2] 57),rfl,?_,hn.2,[iv z0,iv z1,.bool b1,.slice a1 n1 c1,.slice d1 m1 e1,.bool b2,.slice a2 n2 c2,.slice d2 m2 e2],⟨⟨rfl,.inr ⟨w.heap.size,1,#[iv z0,iv z1,.bool b1,.slice a1 n1 c1,.slice d1 m1 e1,.bool b2,.slice a2 n2 c2,.slice d2 m2 e2],rfl,hb,heap_alloc_new w _,Nat.le_refl _,by decide,rfl,rfl⟩⟩,fun g e=>?_⟩,fun i q h=>?_⟩
 ·have hs:=aH (P:=Tryz.prog) (T:=57) (n:=8) li w
  simp[Instr.buildSlice,go_sem,hs,Instr.fill,Value.cells,newRow]
 ·injection e with e
  subst e
  exact gL (heap_alloc_new w _) k2
 ·match i,h with
  |0,h=>injection h with h;subst h;exact hp.keep (Below.keep hn.2)
  |i+1,h=>simp at h
noncomputable def prP (c:Int) (t:Rat) (j:Nat):List Pt:=(List.range j).map fun i=>pt4 c (paF c t i)
theorem GG (c:Int) (t:Rat) (j:Nat):prP c t (j+1)=prP c t j++[pt4 c (paF c t j)]:=by simp[prP,List.range_succ]
theorem GR (c:Int) (t:Rat) (j:Nat):(prP c t j).length =j:=by simp[prP]
theorem Gp {c:Int} {t u:Rat} {j:Nat} (h:j=paN c t u):prP c t (j+1)=prC c t u:=by subst h;rfl
noncomputable def prK (t u:Rat):Nat->List Pt
 |0=>[]
 |k+1=>prK t u k++prC (((k:Nat):Int)+1) t u
theorem lf (t u:Rat):∀k,(prK t u k).length =paM t u k
 |0=>rfl
 |k+1=>by show(prK t u k++_).length =paM t u k+_;rw[List.length_append,lf t u k,jR]
theorem Fx (t u:Rat):prK t u 4++prS t u=prA t u:=by
 unfold prA
 simp only [prK,List.nil_append]
 rfl
theorem FI {t u:Rat} (h:kI 0 u=kI 0 t):prK t u 4=prA t u:=by
 rw[<-Fx]
 unfold prS
 rw[if_pos h,List.append_nil]
theorem Jp {t u:Rat} (h:¬kI 0 u=kI 0 t):prK t u 4++[pt4 0 t]=prA t u:=by
 rw[<-Fx]
 unfold prS
 rw[if_neg h]
theorem LJ:(Tryz.prog.info? 156).bind (·.zero)=some (.agg #[iv 0,iv 0,iv 0,iv 0]):=by kernel_rfl
theorem qf {place:Nat->Option (Nat×Nat)} {cells:Array Value} {i off:Nat} {k:IntKind} {z:Int} {rest:List (Nat×Value)} (hp:place i=some (off,1)) (hc:off+1<=cells.size):
 Instr.fill place cells ((i,.int k z)::rest)=Instr.fill place (cells.setIfInBounds off (.int k z)) rest:=by
 conv=>lhs;unfold Instr.fill
 rw[hp]
 have h1:(Value.int k z).cells =#[.int k z]:=rfl
 simp only [h1]
 rw[if_neg (by simp;omega)]
 rfl
theorem K1 (z0 z1 z2 z3:Int) (w:World):(Instr.build 156 #[(0,iv z0),(1,iv z1),(2,iv z2),(3,iv z3)]).run Tryz.prog w= .ok (.agg #[iv z0,iv z1,iv z2,iv z3]) w:=by
 have hz:=bO LJ w
 have hs:∀w,(sizeOf 3).run Tryz.prog w= .ok 1 w:=fun w=>aH cE w
 simp only [Instr.build,Sem.run_bind,hz,Result.andThen_ok,run_underlying Tryz.underlying156,hs]
 rw[show(Value.agg #[Value.int .i64 0,Value.int .i64 0,Value.int .i64 0,Value.int .i64 0]).cells =#[Value.int .i64 0,Value.int .i64 0,Value.int .i64 0,Value.int .i64 0] from rfl]
 rw[qf (off:=0) rfl (by simp),qf (off:=1) rfl (by simp),qf (off:=2) rfl (by simp),qf (off:=3) rfl (by simp)]
 simp only [List.setIfInBounds_toArray,List.set_cons_zero,List.set_cons_succ]
 rfl
theorem LM {P:Program} {w:World} {a:Act} {dst:Option Tmp} {ty:TypeId} {pos:String} {af:Array Edge} {gd:Option (Nat×Bool)} {t:TypeId} {x i:Operand} {p q v:Value} (h:a.eval x=p) (h2:a.eval i=q) (hl:(Instr.index t p q).run P w= .ok v w):
 (execOp a.eval ⟨dst,.index t x i,ty,pos,af,gd⟩).run P w= .ok (.value v) w:=by
 simp only [execOp,h,h2]
 exact gN hl
theorem K8 {w:World} {z:Int} {k:Nat} (hz:z=((k:Nat):Int)) (hk:k<4):(Instr.index 156 (.agg #[iv 1,iv 2,iv 3,iv 4]) (iv z)).run Tryz.prog w= .ok (iv (((k:Nat):Int)+1)) w:=by
 subst hz
 have hs:∀w,(sizeOf 3).run Tryz.prog w= .ok 1 w:=fun w=>aH cE w
 unfold Instr.index
 simp only [asIntOf,Sem.run_bind,Sem.run_pure,Result.andThen_ok,run_underlying Tryz.underlying156]
 rw[if_pos (by omega)]
 have hkk:k=0\/k=1\/k=2\/k=3:=by omega
 rcases hkk with rfl|rfl|rfl|rfl <;> (simp[hs,part,go_sem];try rfl)
end Go.Proofs.YtgdpkknapcgcbaaGreatDoor
