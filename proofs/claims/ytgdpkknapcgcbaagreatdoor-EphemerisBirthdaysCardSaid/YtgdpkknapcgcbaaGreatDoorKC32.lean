import Derived.Test.YtgdpkknapcgcbaaGreatDoorKC31
import Derived.Laws.StructEq
namespace Go.Proofs.YtgdpkknapcgcbaaGreatDoor
open Go.RowKit
set_option maxRecDepth 100000
set_option linter.unusedVariables false
set_option maxHeartbeats 8000000
section
section
section
variable {P:Program} {ops:Array Oper} {Q:Exit->Act->World->Prop}
def zt (ops:Array Oper) (n lo:Nat):Bool:=(List.range n).all fun j=>Nat.beq j lo || de ops n j
theorem AR {n lo:Nat} (h:zt ops n lo=true) {d:Nat->Bool} (hd:∀j,de ops n j=true->d j=true):∀j,j<n->j≠lo->d j=true:=by
 intro j hj hne
 have h1:=List.all_eq_true.1 h j (List.mem_range.2 hj)
 rw[Bool.or_eq_true] at h1
 rcases h1 with h1|h1
 ·exact absurd (Nat.eq_of_beq_eq_true h1) hne
 ·exact hd j h1
theorem E.regionL {nt n lo id:Nat} {L:List (Nat×Value)} {a:Act} {w:World} (hm:P.follows .mixedOrders =true) (hF:Fr nt a L) (ds:List Nat) (al:Nat->Bool) (H:Nat->World->Value->Prop)
 (hback:dc ops=true) (hw:eX ops (n+1)=true) (hbut:zt ops n lo=true) (hlo:lo<n) (hn:n<ops.size) (hds:eR ops n=ds.map some) (hap:gI ds nt L=true)
 (hmono:∀i w w' v,H i w v->Below w.heap.size w w'->H i w' v) (hal:∀i w v,al i=true->H i w v->∃g,v= .pointer (some ⟨g,0,none⟩)/\g<w.heap.size) (hlal:al lo=false)
 (step:∀(i:Nat) (o:Oper),i<n->ops[i]?=some o->∀(a':Act) (w':World),Fr nt a' L->Below w.heap.size w w'->(∀(e:Edge) (s:Nat),e∈o.after->Region.binds .any e=true->ds[e.on]?=some s->H e.on w' (a'.tmps.getD s undef))->
   if Region.wanted o (yielded ops a'.tmps)=true then bG P Q o a' w' (fun v w''=>H i w'' v/\Below w'.heap.size w' w''/\(al i=true->v= .pointer (some ⟨w'.heap.size,0,none⟩))) else H i w' undef/\al i=false)
 (tail:∀(a':Act) (w':World),Fr nt a' L->Below w.heap.size w w'->(∀(i s:Nat),ds[i]?=some s->H i w' (a'.tmps.getD s undef))->
   (∀(i j s t:Nat),al i=true->al j=true->i≠j->ds[i]?=some s->ds[j]?=some t->a'.tmps.getD s undef≠a'.tmps.getD t undef)->wpS P ops Q (ops.toList.drop n) a' w')
 (tailL:∀(oL:Oper),ops[lo]?=some oL->∀(oN:Oper),ops[n]?=some oN->∀(a':Act) (w':World),Fr nt a' L->Below w.heap.size w w'->(∀(i s:Nat),i≠lo->ds[i]?=some s->H i w' (a'.tmps.getD s undef))->
   (∀(i j s t:Nat),al i=true->al j=true->i≠j->ds[i]?=some s->ds[j]?=some t->a'.tmps.getD s undef≠a'.tmps.getD t undef)->wpS P ops Q (oN::oL::ops.toList.drop (n+1)) a' w'):
 (Code.region id ops true).wp P Q a w:=by
 have lt:∀i s,ds[i]?=some s->i<n:=by
  intro i s h
  have hlen:ds.length=n:=by
   have:=congrArg List.length hds
   unfold eR at this
   simp at this
   omega
  have:=(List.getElem?_eq_some_iff.1 h).1
  omega
 have hdrop:∀i o,ops[i]?=some o->ops.toList.drop i=o::ops.toList.drop (i+1):=by
  intro i o ho
  have hi:i<ops.size:=(Array.getElem?_eq_some_iff.1 ho).1
  rw[List.drop_eq_getElem_cons (by simpa using hi)]
  congr 1
  rw[Array.getElem?_eq_getElem hi] at ho
  simpa using ho
 refine iu hm hback (fun d a' w'=>qT ops d/\(((∀j,n<=j->d j=false)/\Pre ops nt n L ds al H w d a' w')\/(∃k,n<k/\(∀j,d j=decide (j<k))/\wpS P ops Q (ops.toList.drop k) a' w')\/
  ((∀j,d j=decide (j<=n/\j≠lo))/\∀oL,ops[lo]?=some oL->wpS P ops Q (oL::ops.toList.drop (n+1)) a' w'))) ?_ ?_ ?_
 ·refine⟨(fun m j _ h=>by cases h),.inl ⟨fun _ _=>rfl,?_⟩⟩
  exact⟨hF,(Below.refl _ _).drew,(fun _ _ _ _ h=>by cases h),(fun _ _ _ _ _ _ _ _ _ _ _ h=>by cases h)⟩
 ·rintro d a' w' ⟨hs,hI⟩ i o ho hdi hdep K hK
  have hi:i<ops.size:=(Array.getElem?_eq_some_iff.1 ho).1
  have hdep':∀j,de ops i j=true->d j=true:=by
   intro j hj
   obtain⟨e,he,hb,rfl⟩:=(me ho).1 hj
   exact hdep e he hb
  have run:∀rest,wpS P ops Q (o::rest) a' w'->(∀a2 w2,wpS P ops Q rest a2 w2->K a2 w2)->if Region.wanted o (yielded ops a'.tmps)=true then Oper.wp P o a' w' K Q else K (a'.put o.dst undef) w':=by
   intro rest h kk
   unfold wpS at h
   split
   ·rename_i hwd
    rw[if_pos hwd] at h
    exact Oper.wp_mono (fun a w h=>kk a w h) h
   ·rename_i hwd
    rw[if_neg hwd] at h
    exact kk _ _ h
  rcases hI with⟨hno,hp⟩|⟨k,hnk,hdk,h⟩|⟨hdc,h⟩
  ·by_cases hin:i<n
   ·obtain⟨s,hsi,hdst⟩:=Fi hds hin ho
    have hst:=step i o hin ho a' w' hp.fr hp.bel (fun e t he hb ht=>hp.has e.on t (lt _ _ ht) ht (hdep e he hb))
    have hno':∀j,n<=j->up d i j=false:=fun j hj=>by unfold up;rw[if_neg (by omega)];exact hno j hj
    split
    ·rename_i hwd
     rw[if_pos hwd] at hst
     refine hst K fun v w'' ⟨hv,hb,ha⟩=>hK _ _ ⟨hs.one hdep',.inl ⟨hno',?_⟩⟩
     rw[hdst]
     exact hp.one hmono hal hap hsi hdi hb hv ha
    ·rename_i hwd
     rw[if_neg hwd] at hst
     refine hK _ _ ⟨hs.one hdep',.inl ⟨hno',?_⟩⟩
     rw[hdst]
     exact hp.one hmono hal hap hsi hdi (Below.refl _ _) hst.1 (fun h=>by rw[hst.2] at h;cases h)
   ·have hni:i=n:=by
     by_cases e:i=n
     ·exact e
     ·exfalso
      have h1:=ic hw hi (by omega) hs hdep' n (by omega)
      rw[hno n (Nat.le_refl n)] at h1
      cases h1
    subst hni
    have hb:=AR hbut hdep'
    cases hl:d lo with
    |true=>
     have hall:∀j,j<i->d j=true:=fun j hj=>by
      by_cases e:j=lo
      ·rw[e,hl]
      ·exact hb j hj e
     have h:=tail a' w' hp.fr hp.bel (fun j s hs=>hp.has j s (lt j s hs) hs (hall j (lt j s hs))) (fun j k s t aj ak hjk hs ht=>hp.ne j k s t (lt j s hs) (lt k t ht) aj ak hjk hs ht (hall j (lt j s hs)) (hall k (lt k t ht)))
     rw[hdrop i o ho] at h
     refine run _ h fun a2 w2 h2=>hK _ _ ⟨hs.one hdep',.inr (.inl ⟨i+1,by omega,fun j=>?_,h2⟩)⟩
     unfold up
     by_cases e:j=i
     ·rw[if_pos e];exact(decide_eq_true (by omega)).symm
     ·rw[if_neg e]
      by_cases e':j<i
      ·rw[hall j e',decide_eq_true (by omega)]
      ·rw[hno j (by omega),decide_eq_false (by omega)]
    |false=>
     have h:=tailL _ (Array.getElem?_eq_getElem (show lo<ops.size by omega)) o ho a' w' hp.fr hp.bel (fun j s hne hs=>hp.has j s (lt j s hs) hs (hb j (lt j s hs) hne)) (fun j k s t aj ak hjk hs ht=>hp.ne j k s t (lt j s hs) (lt k t ht) aj ak hjk hs ht (hb j (lt j s hs) (fun e=>by rw[e,hlal] at aj;cases aj)) (hb k (lt k t ht) (fun e=>by rw[e,hlal] at ak;cases ak)))
     refine run _ h fun a2 w2 h2=>hK _ _ ⟨hs.one hdep',.inr (.inr ⟨fun j=>?_,fun oL hoL=>?_⟩)⟩
     ·unfold up
      by_cases e:j=i
      ·rw[if_pos e];exact(decide_eq_true ⟨by omega,by omega⟩).symm
      ·rw[if_neg e]
       by_cases e':j<i
       ·by_cases e2:j=lo
        ·rw[e2,hl,decide_eq_false (by omega)]
        ·rw[hb j e' e2,decide_eq_true ⟨by omega,e2⟩]
       ·rw[hno j (by omega),decide_eq_false (by omega)]
     ·rw[Array.getElem?_eq_getElem (show lo<ops.size by omega)] at hoL
      obtain rfl:=Option.some.inj hoL
      exact h2
  ·have hki:k<=i:=by
    have h1:=hdk i
    rw[hdi] at h1
    have:¬i<k:=by simpa using h1.symm
    omega
   have hik:i=k:=by
    by_cases e:i=k
    ·exact e
    ·exfalso
     have h1:=ic hw hi (by omega) hs hdep' k (by omega)
     rw[hdk k,decide_eq_false (by omega)] at h1
     cases h1
   subst hik
   rw[hdrop i o ho] at h
   refine run _ h fun a2 w2 h2=>hK _ _ ⟨hs.one hdep',.inr (.inl ⟨i+1,by omega,fun j=>?_,h2⟩)⟩
   unfold up
   by_cases e:j=i
   ·rw[if_pos e];exact(decide_eq_true (by omega)).symm
   ·rw[if_neg e,hdk j]
    by_cases e':j<i
    ·rw[decide_eq_true e',decide_eq_true (by omega)]
    ·rw[decide_eq_false e',decide_eq_false (by omega)]
  ·have hil:i=lo:=by
    by_cases e:i=lo
    ·exact e
    ·exfalso
     have h1:=hdc i
     rw[hdi] at h1
     have h2:¬(i<=n/\i≠lo):=by simpa using h1.symm
     have h3:=ic hw hi (by omega) hs hdep' lo (by omega)
     rw[hdc lo,decide_eq_false (by omega)] at h3
     cases h3
   subst hil
   refine run _ (h o ho) fun a2 w2 h2=>hK _ _ ⟨hs.one hdep',.inr (.inl ⟨n+1,by omega,fun j=>?_,h2⟩)⟩
   unfold up
   by_cases e:j=i
   ·rw[if_pos e];exact(decide_eq_true (by omega)).symm
   ·rw[if_neg e,hdc j]
    by_cases e':j<=n
    ·rw[decide_eq_true ⟨e',e⟩,decide_eq_true (by omega)]
    ·rw[decide_eq_false (by omega),decide_eq_false (by omega)]
 ·rintro d a' w' ⟨hs,hI⟩ hall
  rcases hI with⟨hno,hp⟩|⟨k,hnk,hdk,h⟩|⟨hdc,h⟩
  ·have h1:=hall n hn
   rw[hno n (Nat.le_refl n)] at h1
   cases h1
  ·have hk:ops.size<=k:=by
    by_cases e:ops.size<=k
    ·exact e
    ·exfalso
     have h1:=hall k (by omega)
     rw[hdk k,decide_eq_false (by omega)] at h1
     cases h1
   rw[List.drop_eq_nil_of_le (by simpa using hk)] at h
   exact h
  ·have h1:=hall lo (by omega)
   rw[hdc lo,decide_eq_false (by omega)] at h1
   cases h1
theorem LI (Hs:List (World->Value->Prop)) (lo i:Nat):Hat (Hs.set lo fun _ _=>True) i=if i=lo then fun _ _=>True else Hat Hs i:=by
 unfold Hat
 rw[List.getElem?_set]
 by_cases e:lo=i
 ·rw[if_pos e,if_pos e.symm]
  split
  ·rfl
  ·rfl
 ·rw[if_neg e,if_neg (fun h=>e h.symm)]
theorem E.drawnL {nt id:Nat} (n lo:Nat) {l:List Oper} {oL oN:Oper} {L:List (Nat×Value)} {a:Act} {w:World} (hm:P.follows .mixedOrders =true) (hF:Fr nt a L) (ds:List Nat) (Hs:List (World->Value->Prop)) (al:List Nat)
 (hback:(dc l.toArray && eX l.toArray (n+1) && zt l.toArray n lo && Nat.blt lo n && Nat.blt n l.length && !al.contains lo)=true) (hds:eR l.toArray n=ds.map some) (hap:gI ds nt L=true) (hM:nJ Hs) (hA:nF Hs al) (hL:l[lo]?=some oL) (hN:l[n]?=some oN)
 (steps:jl P l.toArray Q nt L w ds Hs al 0 (l.take n))
 (tail:∀(a':Act) (w':World),Fr nt a' L->Below w.heap.size w w'->(∀(i s:Nat),ds[i]?=some s->Hat Hs i w' (a'.tmps.getD s undef))->
   (∀(i j s t:Nat),al.contains i=true->al.contains j=true->i≠j->ds[i]?=some s->ds[j]?=some t->a'.tmps.getD s undef≠a'.tmps.getD t undef)->wpS P l.toArray Q (l.drop n) a' w')
 (tailL:∀(a':Act) (w':World),Fr nt a' L->Below w.heap.size w w'->(∀(i s:Nat),ds[i]?=some s->Hat (Hs.set lo fun _ _=>True) i w' (a'.tmps.getD s undef))->
   (∀(i j s t:Nat),al.contains i=true->al.contains j=true->i≠j->ds[i]?=some s->ds[j]?=some t->a'.tmps.getD s undef≠a'.tmps.getD t undef)->wpS P l.toArray Q (oN::oL::l.drop (n+1)) a' w'):
 (Code.region id l.toArray true).wp P Q a w:=by
 simp only [Bool.and_eq_true,Bool.not_eq_true'] at hback
 obtain⟨⟨⟨⟨⟨h1,h2⟩,h3⟩,h4⟩,h5⟩,h6⟩:=hback
 have h4:lo<n:=by simpa using h4
 have h5:n<l.length:=by simpa using h5
 refine E.regionL (lo:=lo) hm hF ds (fun i=>al.contains i) (Hat Hs) h1 h2 h3 h4 (by simpa using h5) hds hap (fun i w w' v h hb=>nJ.at Hs hM i w w' v h hb) (fun i w v h=>nF.at al hA i w v h) h6 ?_ tail ?_
 ·intro i o hi ho
  have g1:(l.take n)[i]?=some o:=by
   rw[List.getElem?_take,if_pos hi]
   simpa using ho
  have g2:=jl.at _ _ steps i o g1
  rw[Nat.zero_add] at g2
  exact g2
 ·intro o2 ho2 o3 ho3 a' w' hf hb hh hne
  rw[show(l.toArray)[lo]?=l[lo]? by simp,hL] at ho2
  rw[show(l.toArray)[n]?=l[n]? by simp,hN] at ho3
  obtain rfl:=Option.some.inj ho2
  obtain rfl:=Option.some.inj ho3
  refine tailL a' w' hf hb (fun i s hs=>?_) hne
  rw[LI]
  by_cases e:i=lo
  ·rw[if_pos e];trivial
  ·rw[if_neg e];exact hh i s e hs
end
def xH:Value->Bool
 | .int .u32 _=>false
 |_=>true
theorem dV.keepU2 {g:Nat} {w w':World} {cs:List Value} (h:dV g w w') (hb:Blk w g cs) (hc:cs.all xH=true):jV w w':=by
 obtain⟨T,hg⟩:=hb
 intro ad xs hr
 refine⟨fun i hi=>?_⟩
 obtain⟨b,off,h1,h2,h3⟩:=hr.cell i hi
 have hne:b≠g:=by
  intro e
  subst e
  rw[cell_of_row w b (off+i) _ _ _ hg,List.getElem?_toArray] at h3
  have:=List.all_eq_true.1 hc _ (List.mem_of_getElem? h3)
  cases this
 refine⟨b,off,h1,by rw[h.size];exact h2,?_⟩
 rw[<-h3]
 exact World.cell?_of_block (w:=w) (h.block b hne)
section
variable {W w w':World} {bs:List (Nat×List Value)} {fs:List (World->Prop)}
theorem St.setU2 (st:St W w bs fs) (i:Nat) {g:Nat} {cs ws:List Value} (h:bs[i]?=some (g,cs)) (hc:cs.all xH=true) (hU:∀F∈fs,ClU F) (tu:dV g w w') (ho:Blk w' g ws):St W w' (bs.set i (g,ws)) fs:=
 let s:=st.setI i h tu ho
 ⟨s.bel,s.own,s.low,s.apart,fun F hF=>hU F hF w w' (st.facts F hF) (tu.keepU2 (st.bk i h) hc),st.cl⟩
end
section
variable {P:Program} {ops:Array Oper} {Q:Exit->Act->World->Prop} {W w:World} {bs:List (Nat×List Value)} {fs:List (World->Prop)} {nt d n g:Nat} {L:List (Nat×Value)} {rest:List Oper} {a:Act} {T:TypeId} {x y:Operand} {ty:TypeId} {pos:String} {af:Array Edge} {cs vs zs:List Value}
end
end
end
section
section
def GCl (v:Value) (G:World->Prop):Prop:=∀w w',G w->(∀b,v.ownBlock=some b->w'.heap[b]?=w.heap[b]?)->w.heap.size<=w'.heap.size->jV w w'->G w'
theorem Below.keepU {w w':World} (h:Below w.heap.size w w'):jV w w':=fun ad xs r=>Below.keep h _ _ _ r
structure Sg (W w:World) (bs:List (Nat×List Value)) (fs:List (World->Prop)) (v0:Value) (G0:World->Prop):Prop extends St W w bs fs where
 g:G0 w
 gc:GCl v0 G0
 gl:∀w,G0 w->∀b,v0.ownBlock=some b->W.heap.size<=b/\b<w.heap.size
 gn:∀p∈bs,v0.ownBlock≠some p.1
section
variable {W w w':World} {bs:List (Nat×List Value)} {fs:List (World->Prop)} {v0:Value} {G0:World->Prop}
theorem St.grow0 (st:St W w bs fs) {v:Value} {G:World->Prop} (g:G w) (gc:GCl v G) (gl:∀w,G w->∀b,v.ownBlock=some b->W.heap.size<=b/\b<w.heap.size) (gn:∀p∈bs,v.ownBlock≠some p.1):Sg W w bs fs v G:=⟨st,g,gc,gl,gn⟩
theorem Sg.gat (st:Sg W w bs fs v0 G0) (h:∀b,v0.ownBlock=some b->w'.heap[b]?=w.heap[b]?) (hs:w.heap.size<=w'.heap.size) (k:jV w w'):G0 w':=st.gc w w' st.g h hs k
theorem Sg.to (st:Sg W w bs fs v0 G0) (hb:Below w.heap.size w w'):Sg W w' bs fs v0 G0:=
 ⟨st.toSt.to hb,st.gat (fun b e=>hb.block b (st.gl w st.g b e).2) hb.size (Below.keepU hb),st.gc,st.gl,st.gn⟩
theorem Sg.add (st:Sg W w bs fs v0 G0) {F:World->Prop} (h:F w) (hc:Cl F):Sg W w bs (F::fs) v0 G0:=⟨st.toSt.add h hc,st.g,st.gc,st.gl,st.gn⟩
theorem Sg.push (st:Sg W w bs fs v0 G0) {g:Nat} {cs:List Value} (ho:Blk w g cs) (hg:W.heap.size<=g) (hne:∀p∈bs,p.1≠g) (hv:v0.ownBlock≠some g):Sg W w ((g,cs)::bs) fs v0 G0:=
 ⟨st.toSt.push ho hg hne,st.g,st.gc,st.gl,fun p hp=>by rcases List.mem_cons.1 hp with rfl|hp;exact hv;exact st.gn p hp⟩
theorem Sg.away (st:Sg W w bs fs v0 G0) {g:Nat} (hg:w.heap.size<=g):v0.ownBlock≠some g:=fun e=>by have:=(st.gl w st.g g e).2;omega
theorem Sg.new (st:Sg W w bs fs v0 G0) {cs:List Value} {g:Nat} (hg:w.heap.size=g) (hb:Below w.heap.size w w') (ho:Blk w' g cs):Sg W w' ((g,cs)::bs) fs v0 G0:=
 (st.to hb).push ho (by rw[<-hg];exact st.bel.size) (st.ne (by omega)) (st.away (by omega))
theorem Sg.pick (st:Sg W w bs fs v0 G0) (is js:List Nat) {bs':List (Nat×List Value)} {fs':List (World->Prop)} (hb:is.map (bs[·]?)=bs'.map some) (hf:js.map (fs[·]?)=fs'.map some) (hn:is.Pairwise fun a b=>a≠b):Sg W w bs' fs' v0 G0:=by
 refine⟨st.toSt.pick is js hb hf hn,st.g,st.gc,st.gl,fun p hp=>st.gn p ?_⟩
 have h1:some p∈bs'.map some:=List.mem_map_of_mem hp
 rw[<-hb] at h1
 obtain⟨j,_,hj⟩:=List.mem_map.1 h1
 exact List.mem_of_getElem? hj
theorem Sg.cast (st:Sg W w bs fs v0 G0) {G1:World->Prop} (e:G0=G1):Sg W w bs fs v0 G1:=e▸st
theorem Pi {i:Nat} {g:Nat} {cs ws:List Value} (h:bs[i]?=some (g,cs)) (gn:∀p∈bs,v0.ownBlock≠some p.1):∀p∈bs.set i (g,ws),v0.ownBlock≠some p.1:=by
 intro p hp
 rcases List.mem_or_eq_of_mem_set hp with hp|rfl
 ·exact gn p hp
 ·exact gn (g,cs) (List.mem_of_getElem? h)
theorem Sg.setU2 (st:Sg W w bs fs v0 G0) (i:Nat) {g:Nat} {cs ws:List Value} (h:bs[i]?=some (g,cs)) (hc:cs.all xH=true) (hU:∀F∈fs,ClU F) (tu:dV g w w') (ho:Blk w' g ws):Sg W w' (bs.set i (g,ws)) fs v0 G0:=
 ⟨st.toSt.setU2 i h hc hU tu ho,st.gat (fun b e=>tu.block b (fun e2=>st.gn (g,cs) (List.mem_of_getElem? h) (by rw[e,e2]))) (Nat.le_of_eq tu.size.symm) (tu.keepU2 (st.bk i h) hc),st.gc,st.gl,Pi h st.gn⟩
theorem Sg.grow (st:Sg W w bs fs v0 G0) {v1:Value} {G1:World->Prop} (gg:w.grownBy w' v0.ownBlock) (bb:Below W.heap.size w w') (ku:jV w w') (hU:∀F∈fs,ClU F) (g1:G1 w') (gc:GCl v1 G1) (gl:∀w,G1 w->∀b,v1.ownBlock=some b->W.heap.size<=b/\b<w.heap.size)
 (hne:∀b,b<w.heap.size->v0.ownBlock≠some b->v1.ownBlock≠some b):Sg W w' bs fs v1 G1:=
 ⟨⟨st.bel.trans bb,fun p hp=>Blk.grown (st.own p hp) gg (fun e=>st.gn p hp e.symm),st.low,st.apart,fun F hF=>hU F hF w w' (st.facts F hF) ku,st.cl⟩,g1,gc,gl,fun p hp=>hne p.1 (st.own p hp).lt (st.gn p hp)⟩
end
section
variable {P:Program} {ops:Array Oper} {Q:Exit->Act->World->Prop} {W w:World} {bs:List (Nat×List Value)} {fs:List (World->Prop)} {v0:Value} {G0:World->Prop} {nt d s:Nat} {L:List (Nat×Value)} {rest:List Oper} {a:Act} {T:TypeId} {x y:Operand} {v:Value} {cs vs zs:List Value} {g n:Nat} {ty:TypeId} {pos:String} {af:Array Edge} {H:World->Value->Prop} {ds:List Nat} {Hs:List (World->Value->Prop)}
theorem SG.new {s:Nat} {ty':TypeId} {pos':String} {af':Array Edge} (st:Sg W w bs fs v0 G0) (hF:Fr nt a L) (j:Nat) (hj:L[j]?=some (s,.agg vs.toArray)) (hT:Ty P T n zs) (hl:vs.length=n) (hz:zs.length=n) (hc:vs.all jz=true) (hlt:Nat.blt d nt=true) (hf:bz d L=true)
 (k:∀g w' a',Sg W w' ((g,vs)::bs) fs v0 G0->Fr nt a' ((d,.pointer (some ⟨g,0,none⟩))::L)->wpS P ops Q rest a' w'):wpS P ops Q (⟨some d,.alloc T,ty,pos,af,none⟩::⟨none,.store T (.tmp d) (.tmp s),ty',pos',af',none⟩::rest) a w:=by
 obtain⟨g,w1,ge,hr,bb,o⟩:=jI (P:=P) (w:=w) (cs:=zs) (v:= .agg zs.toArray) T hT.z rfl
 refine E.opv hF (dP hr) rfl rfl hlt hf fun a1 hF1=>?_
 obtain⟨w2,hr2,tu,on⟩:=iL (P:=P) (o:=0) (ws:=vs) o hT.s hl (by simp[hz]) (jz.oc hc) (by subst hl;simp[hz])
 refine E.st hF1 (cT (cw (hF1.at 0 rfl)) (cw (hF1.at (j+1) hj)) (hr2 _ rfl)) rfl rfl fun a2 hF2=>?_
 have b2:Below w.heap.size w w2:=tu.below bb (Nat.le_of_eq ge)
 exact k g w2 a2 (st.new ge b2 on) hF2
theorem SG.call {f:FuncId} {args:Array Value} {R:Ending->World->Prop} {H:Value->World->Prop} {o:Oper} (st:Sg W w bs fs v0 G0) (hF:Fr nt a L) (hr:(execOp a.eval o).run P w= .ok (.enter f args) w) (hc:Calls P f args w R)
 (hR:∀e w',R e w'->∃v,e= .returned v/\H v w'/\Below w.heap.size w w') (hcl:∀v,Cl (H v)) (hg:o.guard=none) (hd:o.dst=some d) (hlt:Nat.blt d nt=true) (hf:bz d L=true)
 (k:∀v w' a',Sg W w' bs (H v::fs) v0 G0->Fr nt a' ((d,v)::L)->wpS P ops Q rest a' w'):wpS P ops Q (o::rest) a w:=
 E.call hF hr hc hg hd hlt hf fun e w' r=>by
  obtain⟨v,he,h,bb⟩:=hR e w' r
  exact⟨v,he,fun a' hF'=>k v w' a' ((st.to bb).add h (hcl v)) hF'⟩
theorem SG.callx {f:FuncId} {args:Array Value} {o:Oper} (st:Sg W w bs fs v0 G0) (hF:Fr nt a L) (hr:(execOp a.eval o).run P w= .ok (.enter f args) w) (hc:Calls P f args w fun e w'=>e= .returned v/\Below w.heap.size w w') (hg:o.guard=none) (hd:o.dst=some d) (hlt:Nat.blt d nt=true) (hf:bz d L=true)
 (k:∀w' a',Sg W w' bs fs v0 G0->Fr nt a' ((d,v)::L)->wpS P ops Q rest a' w'):wpS P ops Q (o::rest) a w:=
 E.call hF hr hc hg hd hlt hf fun e w' ⟨he,bb⟩=>⟨v,he,fun a' hF'=>k w' a' (st.to bb) hF'⟩
theorem SG.ck {f:FuncId} {args:Array Value} {m:Mb H} {op:Op} {ty:TypeId} {pos:String} {af:Array Edge} (st:Sg W w bs fs v0 G0) (hF:Fr nt a L) (hr:(execOp a.eval ⟨some d,op,ty,pos,af,none⟩).run P w= .ok (.enter f args) w) (hc:Calls P f args w (Ret (.of H m) w)) (hcl:∀v,Cl fun w=>H w v) (hk:(Nat.blt d nt && bz d L)=true)
 (k:∀v w' a',Sg W w' bs ((fun w=>H w v)::fs) v0 G0->Fr nt a' ((d,v)::L)->wpS P ops Q rest a' w'):wpS P ops Q (⟨some d,op,ty,pos,af,none⟩::rest) a w:=
 SG.call (H:=fun v w=>H w v) st hF hr hc (fun _ _ h=>h) hcl rfl rfl (rg2 hk).1 (rg2 hk).2 k
theorem SG.stoIU (st:Sg W w bs fs v0 G0) (hF:Fr nt a L) (i:Nat) (hb:bs[i]?=some (g,cs)) (hcu:cs.all xH=true) (hU:∀F∈fs,ClU F) (he:a.eval x= .pointer (some ⟨g,0,none⟩)) (hv:a.eval y= .agg vs.toArray) (hT:Ty P T n zs) (hl:vs.length=n) (hl':cs.length=n) (hc':vs.all jz=true)
 (k:∀w' a',Sg W w' (bs.set i (g,vs)) fs v0 G0->Fr nt a' L->wpS P ops Q rest a' w'):wpS P ops Q (⟨none,.store T x y,ty,pos,af,none⟩::rest) a w:=by
 obtain⟨w1,hr,tu,on⟩:=iL (P:=P) (o:=0) (ws:=vs) (st.bk i hb) hT.s hl (by simp[hl']) (jz.oc hc') (by subst hl;simp[hl'])
 exact E.st hF (cT he hv (hr _ rfl)) rfl rfl fun a' hF'=>k w1 a' (st.setU2 i hb hcu hU tu on) hF'
end
end
end
def amX (n a b c d:Int):Int:=tiV (dU (gK n a b c d))
noncomputable def amL (n a b c d:Int):Int:=aA (dU (gK n a b c d))
def tR (n m:Int):Int:=kaV (((if m=1\/m=2 then n+180 else n-1:Int)):Rat)/12-1955883044
theorem QM (n a b c d:Int):dU (gK n a b c d)=riV (((a:Int):Rat)/((b:Int):Rat)) (((c:Int):Rat)/((d:Int):Rat)) n:=rfl
theorem vY {a b c d:Int} (h:bN a b c d) (n:Int):amX n a b c d<=amX (n+1) a b c d/\amX (n+1) a b c d<=amX n a b c d+2:=Cp _ h.la.1 h.la.2 n
theorem NZ {a b c d:Int} (h:bN a b c d) (n:Int):amX (n-1) a b c d<amX (n+1) a b c d:=by
 have t:amX (n-1) a b c d<amX (n-1+1+1) a b c d:=NW (((c:Int):Rat)/((d:Int):Rat)) h.la.1 h.la.2 (n-1)
 rwa[show n-1+1+1=n+1 by omega] at t
theorem mQ (n a b c d:Int):aN (amL n a b c d)=true:=gD _
theorem sL {a b c d:Int} (h:bN a b c d) (n:Int):n-1<=(dU (gK n a b c d)).floor /\(dU (gK n a b c d)).floor <=n+2:=by
 have r:=oG h.la.1 h.la.2 h.lo.1 h.lo.2 n
 rw[QM]
 generalize riV (((a:Int):Rat)/((b:Int):Rat)) (((c:Int):Rat)/((d:Int):Rat)) n=x at*
 have l:n-1<=x.floor:=Rat.le_floor_iff.2 (by rw[Rat.intCast_sub,Rat.intCast_one];grind)
 have g:x.floor<n+2:=Rat.floor_lt_iff.2 (by rw[Rat.intCast_add,show((2:Int):Rat)=2 from rfl];grind)
 omega
theorem vO {a b c d:Int} (h:bN a b c d) (n:Int):amL n a b c d<=n+2/\n<=aw (amL n a b c d)+1/\n-40<=amL n a b c d:=Nq h.la.1 h.la.2 h.lo.1 h.lo.2 n
theorem KG {n:Int} (h0: -3900000<=n) (h1:n<=3900000):12*(1955880000+3179-11000)<=kaV ((n:Int):Rat)/\kaV ((n:Int):Rat)<12*(1955880000+3179+11000):=by
 have a:=Rat.intCast_le_intCast.2 h0
 have b:=Rat.intCast_le_intCast.2 h1
 rw[show((-3900000:Int):Rat)= -3900000 from rfl] at a
 rw[show((3900000:Int):Rat)=3900000 from rfl] at b
 exact QZ (by grind) (by grind)
theorem Mh {a b c d:Int} (h:bN a b c d) {n L:Int} (e:amL n a b c d=L):tR n ((smV L+1)%12+1)=(smV L+1)/12-1955883044:=by
 subst e
 unfold tR
 by_cases g:1<=smV (amL n a b c d)%12/\smV (amL n a b c d)%12<=10
 ·rw[if_neg (by omega),show kaV (((n-1:Int)):Rat)/12=(smV (amL n a b c d)+1)/12 from JA h.la.1 h.la.2 h.lo.1 h.lo.2 n g.1 g.2]
 ·rw[if_pos (by omega),show kaV (((n+180:Int)):Rat)/12=(smV (amL n a b c d)+1)/12 from Ij h.la.1 h.la.2 h.lo.1 h.lo.2 n g]
theorem Q9 {y m d y' m' d':Int} {l g l' g':Bool} (hy:y=y') (hm:m=m') (hl:l=l') (hd:d=d') (hg:g=g'):Ending.returned (.agg #[iv y,iv m,.bool l,iv d,.bool g])= .returned (.agg #[iv y',iv m',.bool l',iv d',.bool g']):=by rw[hy,hm,hl,hd,hg]
theorem ev {w:World} {g o:Nat} {cs:List Value} {v:Value} (h:Blk w g cs) (hv:cs[o]?=some v):(Instr.loadAt 4 (.pointer (some ⟨g,o,none⟩))).run Tryz.prog w= .ok v w:=nl h hv Tryz.underlying4 rfl
theorem dW.low {w:World} {m T base b:Nat} {v:Value} {n:Nat} {rs:List Value} (h:dW w m T base v n rs) (l:b<=base):dW w m T b v n rs:=by
 refine⟨h.1,?_⟩
 rcases h.2 with x|⟨g,cap,cur,h1,h2,h3⟩
 ·exact .inl x
 ·exact .inr ⟨g,cap,cur,h1,by omega,h3⟩
theorem cU.gc {m T base n:Nat} {v:Value} {rs:List Value}:GCl v fun w=>cU w m T base v n rs:=by
 rintro w w' ⟨h1,h2⟩ hb hs ku
 refine⟨⟨h1.1,?_⟩,fun g e j z hc=>h2 g e j z (by rw[<-hc];exact(World.cell?_of_block (w:=w) (hb g e)).symm)⟩
 rcases h1.2 with hn|⟨g,cap,cur,rfl,hbg,hgg,rest⟩
 ·exact .inl hn
 ·exact .inr ⟨g,cap,cur,rfl,hbg,by rw[hb g rfl];exact hgg,rest⟩
theorem St.gnew {W w:World} {bs:List (Nat×List Value)} {fs:List (World->Prop)} (st:St W w bs fs) {g n c:Nat} (e:w.heap.size=g):∀p∈bs,(Value.slice (some ⟨g,0,none⟩) n c).ownBlock ≠some p.1:=fun p hp h=>st.ne (Nat.le_of_eq e) p hp (by injection h with h;exact h.symm)
theorem PM:(Tryz.prog.info? 83).map (·.size)=some 5:=by kernel_rfl
theorem zu:(Tryz.prog.info? 83).bind (·.zero)=some (.agg #[iv 0,iv 0,.bool false,iv 0,.bool false]):=by kernel_rfl
theorem ik {w:World} {g o p:Nat} (hp:o+0=p):(Instr.fieldAt 83 (.pointer (some ⟨g,o,none⟩)) 0).run Tryz.prog w= .ok (.pointer (some ⟨g,p,none⟩)) w:=bp Tryz.underlying83 rfl rfl dz rfl p hp
theorem ig {w:World} {g o p:Nat} (hp:o+1=p):(Instr.fieldAt 83 (.pointer (some ⟨g,o,none⟩)) 1).run Tryz.prog w= .ok (.pointer (some ⟨g,p,none⟩)) w:=bp Tryz.underlying83 rfl rfl gV rfl p hp
theorem jF {w:World} {g o p:Nat} (hp:o+2=p):(Instr.fieldAt 83 (.pointer (some ⟨g,o,none⟩)) 2).run Tryz.prog w= .ok (.pointer (some ⟨g,p,none⟩)) w:=bp Tryz.underlying83 rfl rfl fb rfl p hp
theorem qf {w:World} {g o p:Nat} (hp:o+3=p):(Instr.fieldAt 83 (.pointer (some ⟨g,o,none⟩)) 3).run Tryz.prog w= .ok (.pointer (some ⟨g,p,none⟩)) w:=bp Tryz.underlying83 rfl rfl gV rfl p hp
theorem zp {w:World} {g o p:Nat} (hp:o+4=p):(Instr.fieldAt 83 (.pointer (some ⟨g,o,none⟩)) 4).run Tryz.prog w= .ok (.pointer (some ⟨g,p,none⟩)) w:=bp Tryz.underlying83 rfl rfl fb rfl p hp
theorem yi (z00:Int) (z10:Int) (b20:Bool) (z30:Int) (b40:Bool) (w:World):(Instr.build 83 #[(0,iv z00),(1,iv z10),(2,.bool b20),(3,iv z30),(4,.bool b40)]).run Tryz.prog w= .ok (.agg #[iv z00,iv z10,.bool b20,iv z30,.bool b40]) w:=by
 have hz:=dr zu w
 have h_bool:∀w,(sizeOf 4).run Tryz.prog w= .ok 1 w:=fun w=>bh fb w
 have h_int:∀w,(sizeOf 3).run Tryz.prog w= .ok 1 w:=fun w=>bh gV w
 have h_i64:∀w,(sizeOf 2).run Tryz.prog w= .ok 1 w:=fun w=>bh dz w
 simp only [Instr.build,Sem.run_bind,hz,Result.andThen_ok,run_underlying Tryz.underlying83,List.mapM_toArray,List.mapM_cons,List.mapM_nil,Sem.run_map,h_bool,h_i64,h_int,Sem.run_pure]
 rfl
theorem gO:Ty Tryz.prog 83 5 [iv 0,iv 0,.bool false,iv 0,.bool false]:=⟨⟨_,Tryz.underlying83,rfl⟩,PM,zu⟩
theorem uZ:(Tryz.prog.info? 81).map (·.size)=some 4:=by kernel_rfl
theorem GT:(Tryz.prog.info? 81).bind (·.zero)=some (.agg #[iv 0,.bool false,iv 0,iv 0]):=by kernel_rfl
theorem BW {w:World} {g o:Nat} {cs vs:List Value} (h:Blk w g cs) (hv:(cs.drop o).take 4=vs) (hl:vs.length=4):(Instr.loadAt 81 (.pointer (some ⟨g,o,none⟩))).run Tryz.prog w= .ok (.agg vs.toArray) w:=mR h hv hl Tryz.underlying81 rfl uZ
theorem yS {w:World} {g o p:Nat} (hp:o+0=p):(Instr.fieldAt 81 (.pointer (some ⟨g,o,none⟩)) 0).run Tryz.prog w= .ok (.pointer (some ⟨g,p,none⟩)) w:=bp Tryz.underlying81 rfl rfl gV rfl p hp
theorem zo {w:World} {g o p:Nat} (hp:o+1=p):(Instr.fieldAt 81 (.pointer (some ⟨g,o,none⟩)) 1).run Tryz.prog w= .ok (.pointer (some ⟨g,p,none⟩)) w:=bp Tryz.underlying81 rfl rfl fb rfl p hp
theorem pK {w:World} {g o p:Nat} (hp:o+2=p):(Instr.fieldAt 81 (.pointer (some ⟨g,o,none⟩)) 2).run Tryz.prog w= .ok (.pointer (some ⟨g,p,none⟩)) w:=bp Tryz.underlying81 rfl rfl dz rfl p hp
theorem mA {w:World} {g o p:Nat} (hp:o+3=p):(Instr.fieldAt 81 (.pointer (some ⟨g,o,none⟩)) 3).run Tryz.prog w= .ok (.pointer (some ⟨g,p,none⟩)) w:=bp Tryz.underlying81 rfl rfl gV rfl p hp
theorem AK (z00:Int) (b10:Bool) (z20:Int) (z30:Int) (w:World):(Instr.build 81 #[(0,iv z00),(1,.bool b10),(2,iv z20),(3,iv z30)]).run Tryz.prog w= .ok (.agg #[iv z00,.bool b10,iv z20,iv z30]) w:=by
 have hz:=dr GT w
 have h_bool:∀w,(sizeOf 4).run Tryz.prog w= .ok 1 w:=fun w=>bh fb w
 have h_int:∀w,(sizeOf 3).run Tryz.prog w= .ok 1 w:=fun w=>bh gV w
 have h_i64:∀w,(sizeOf 2).run Tryz.prog w= .ok 1 w:=fun w=>bh dz w
 simp only [Instr.build,Sem.run_bind,hz,Result.andThen_ok,run_underlying Tryz.underlying81,List.mapM_toArray,List.mapM_cons,List.mapM_nil,Sem.run_map,h_bool,h_i64,h_int,Sem.run_pure]
 rfl
theorem uG:(Tryz.prog.info? 97).map (·.size)=some 3:=by kernel_rfl
theorem GE:(Tryz.prog.info? 97).bind (·.zero)=some (.agg #[iv 0,iv 0,.bool false]):=by kernel_rfl
theorem rT {w:World} {g o:Nat} {cs vs:List Value} (h:Blk w g cs) (hv:(cs.drop o).take 3=vs) (hl:vs.length=3):(Instr.loadAt 97 (.pointer (some ⟨g,o,none⟩))).run Tryz.prog w= .ok (.agg vs.toArray) w:=mR h hv hl Tryz.underlying97 rfl uG
theorem fJ {w:World} {g o p:Nat} (hp:o+0=p):(Instr.fieldAt 97 (.pointer (some ⟨g,o,none⟩)) 0).run Tryz.prog w= .ok (.pointer (some ⟨g,p,none⟩)) w:=bp Tryz.underlying97 rfl rfl dz rfl p hp
theorem jA {w:World} {g o p:Nat} (hp:o+1=p):(Instr.fieldAt 97 (.pointer (some ⟨g,o,none⟩)) 1).run Tryz.prog w= .ok (.pointer (some ⟨g,p,none⟩)) w:=bp Tryz.underlying97 rfl rfl gV rfl p hp
theorem ul {w:World} {g o p:Nat} (hp:o+2=p):(Instr.fieldAt 97 (.pointer (some ⟨g,o,none⟩)) 2).run Tryz.prog w= .ok (.pointer (some ⟨g,p,none⟩)) w:=bp Tryz.underlying97 rfl rfl fb rfl p hp
theorem Dc (z00:Int) (z10:Int) (b20:Bool) (w:World):(Instr.build 97 #[(0,iv z00),(1,iv z10),(2,.bool b20)]).run Tryz.prog w= .ok (.agg #[iv z00,iv z10,.bool b20]) w:=by
 have hz:=dr GE w
 have h_bool:∀w,(sizeOf 4).run Tryz.prog w= .ok 1 w:=fun w=>bh fb w
 have h_int:∀w,(sizeOf 3).run Tryz.prog w= .ok 1 w:=fun w=>bh gV w
 have h_i64:∀w,(sizeOf 2).run Tryz.prog w= .ok 1 w:=fun w=>bh dz w
 simp only [Instr.build,Sem.run_bind,hz,Result.andThen_ok,run_underlying Tryz.underlying97,List.mapM_toArray,List.mapM_cons,List.mapM_nil,Sem.run_map,h_bool,h_i64,h_int,Sem.run_pure]
 rfl
theorem zn:Ty Tryz.prog 81 4 [iv 0,.bool false,iv 0,iv 0]:=⟨⟨_,Tryz.underlying81,rfl⟩,uZ,GT⟩
theorem qS:Ty Tryz.prog 97 3 [iv 0,iv 0,.bool false]:=⟨⟨_,Tryz.underlying97,rfl⟩,uG,GE⟩
def fiB (y m n:Int):Bool:=decide (smV n=fiS y m)
noncomputable def fiU (y m d:Int):Nat->List Int
 |0=>[]
 |k+1=>fiU y m d k++(if fiB y m (moD d k)=true then[moD d k] else[])
noncomputable def fiL (y m:Int):List Int:=fiU y m (aA (((fiE y m-5:Int)):Rat)) 3
noncomputable def iJ:List Int->List Value
 |[]=>[]
 |n::l=>moC n (aw n)++iJ l
theorem tO:∀k l:List Int,iJ (k++l)=iJ k++iJ l
 |[],_=>rfl
 |n::k,l=>by show moC n (aw n)++iJ (k++l)=(moC n (aw n)++iJ k)++iJ l;rw[tO k l,List.append_assoc]
theorem kJ (y m:Int):fiE y m-39<=aA (((fiE y m-5:Int)):Rat)/\aA (((fiE y m-5:Int)):Rat)<=fiE y m-5/\aN (aA (((fiE y m-5:Int)):Rat))=true:=by
 have b:=pO (((fiE y m-5:Int)):Rat)
 rw[Rat.floor_intCast] at b
 exact⟨by omega,b.2,gD _⟩
theorem BM {y m n:Int} (hm:1<=m) (hm2:m<=12) (h1:n<=fiE y m+40):fiB y m n=true↔fiE y m-5<=n/\(smV n+1)%12+1=m:=by
 unfold fiB
 rw[decide_eq_true_iff]
 constructor
 ·intro e
  have w:=fw e
  have:=(DH (s:=smV n) (y:=y) hm hm2).1 e
  omega
 ·intro e
  exact Qj e.1 h1 e.2
theorem Bp {y m d:Int} {k:Nat} (h:fiB y m (moD d k)=true):fiU y m d (k+1)=fiU y m d k++[moD d k]:=by
 show fiU y m d k++_=_
 rw[if_pos h]
theorem vd {y m d:Int} {k:Nat} (h:¬fiB y m (moD d k)=true):fiU y m d (k+1)=fiU y m d k:=by
 show fiU y m d k++_=_
 rw[if_neg h,List.append_nil]
theorem BO {d:Int} (h:aN d=true) {D:Int} (hD:aN D=true):∀k:Nat,d<=D->D<moD d k->∃j,j<k/\D=moD d j
 |0,l,g=>by have:moD d 0=d:=rfl;omega
 |k+1,l,g=>by
  by_cases q:D<moD d k
  ·obtain⟨j,hj,e⟩:=BO h hD k l q
   exact⟨j,by omega,e⟩
  ·refine⟨k,by omega,?_⟩
   have s:=bC (ja h k)
   have t:moD d (k+1)=aw (moD d k):=rfl
   by_cases e:D=moD d k
   ·exact e
   ·exact absurd hD (s.2.2.2 D (by omega) (by omega))
theorem vg {y m d:Int} {D:Int}:∀k,D∈fiU y m d k↔∃j,j<k/\D=moD d j/\fiB y m D=true
 |0=>⟨fun h=>(List.not_mem_nil h).elim,fun⟨j,h,_⟩=>absurd h (Nat.not_lt_zero j)⟩
 |k+1=>by
  show D∈fiU y m d k++_↔_
  rw[List.mem_append,vg k]
  constructor
  ·rintro(⟨j,h,e⟩|h)
   ·exact⟨j,by omega,e⟩
   ·split at h
    ·rename_i q
     rw[List.mem_singleton] at h
     exact⟨k,by omega,h,by rw[h];exact q⟩
    ·exact(List.not_mem_nil h).elim
  ·rintro⟨j,h,e,q⟩
   by_cases t:j=k
   ·subst t
    right
    rw[if_pos (by rw[<-e];exact q),List.mem_singleton];exact e
   ·exact .inl ⟨j,by omega,e,q⟩
theorem Po {y m D:Int}:D∈fiL y m->aN D=true/\smV D=fiS y m:=by
 intro h
 obtain⟨j,_,e,q⟩:=(vg 3).1 h
 exact⟨by rw[e];exact ja (kJ y m).2.2 j,of_decide_eq_true q⟩
theorem NH {y m D:Int} (h:aN D=true) (e:smV D=fiS y m):D∈fiL y m:=by
 have s:=kJ y m
 have w:=fw e
 have b:=vc s.2.2 3
 obtain⟨j,hj,q⟩:=BO s.2.2 h 3 (by omega) (by omega)
 exact(vg 3).2 ⟨j,hj,q,decide_eq_true e⟩
theorem ti (y m:Int):fiL y m=[]\/(∃D,fiL y m=[D]/\aN D=true/\smV D=fiS y m/\smV (aw D)≠smV D)\/(∃D,fiL y m=[D,aw D]/\aN D=true/\smV D=fiS y m/\smV (aw D)=smV D/\smV (aw (aw D))≠smV D):=by
 have st:=kJ y m
 have s:=st.2.2
 have b3:=vc s 3
 have w:smV (moD (aA (((fiE y m-5:Int)):Rat)) 3)≠fiS y m:=fun e=>by have:=fw e;omega
 unfold fiL
 generalize aA (((fiE y m-5:Int)):Rat)=d at*
 have c1:=ja s 1
 have c2:=ja s 2
 have n0:aw d=moD d 1:=rfl
 have n1:aw (moD d 1)=moD d 2:=rfl
 have n2:aw (moD d 2)=moD d 3:=rfl
 have u:fiU y m d 3=((([]:List Int)++if fiB y m d=true then[d] else[])++if fiB y m (moD d 1)=true then[moD d 1] else[])++if fiB y m (moD d 2)=true then[moD d 2] else[]:=rfl
 rw[u]
 have t0:=rl s
 have t1:=rl c1
 rw[n0,n1] at t0
 rw[n1,n2] at t1
 have yes:∀ {n:Int} {l:List Int},smV n=fiS y m->(if fiB y m n=true then l else[])=l:=fun e=>if_pos (decide_eq_true e)
 have no:∀ {n:Int} {l:List Int},smV n≠fiS y m->(if fiB y m n=true then l else[])=[]:=fun e=>if_neg (by unfold fiB;rw[decide_eq_false e];decide)
 by_cases e0:smV d=fiS y m
 ·have x2:smV (moD d 2)≠fiS y m:=by omega
  by_cases e1:smV (moD d 1)=fiS y m
  ·rw[yes e0,yes e1,no x2]
   exact .inr (.inr ⟨d,rfl,s,e0,by rw[n0,e1,e0],by rw[n0,n1];omega⟩)
  ·rw[yes e0,no e1,no x2]
   exact .inr (.inl ⟨d,rfl,s,e0,by rw[n0];omega⟩)
 ·by_cases e1:smV (moD d 1)=fiS y m
  ·by_cases e2:smV (moD d 2)=fiS y m
   ·rw[no e0,yes e1,yes e2]
    exact .inr (.inr ⟨moD d 1,rfl,c1,e1,by rw[n1,e2,e1],by rw[n1,n2];omega⟩)
   ·rw[no e0,yes e1,no e2]
    exact .inr (.inl ⟨moD d 1,rfl,c1,e1,by rw[n1];omega⟩)
  ·by_cases e2:smV (moD d 2)=fiS y m
   ·rw[no e0,no e1,yes e2]
    exact .inr (.inl ⟨moD d 2,rfl,c2,e2,by rw[n2];omega⟩)
   ·rw[no e0,no e1,no e2]
    exact .inl rfl
theorem ju {y m:Int} (h0: -9000<=y) (h1:y<=9000) (hm:1<=m) (hm2:m<=12): -3400000<=fiE y m/\fiE y m<=3400000:=by
 have a:=Rat.intCast_le_intCast.2 (show 12*(-9000+3044)-1<=12*(y+3044)+(m-2) by omega)
 have b:=Rat.intCast_le_intCast.2 (show 12*(y+3044)+(m-2)<=12*(9000+3044)+10 by omega)
 have p:pyr=1577917828000/4320000000:=rfl
 unfold fiE
 constructor
 ·refine Rat.le_floor_iff.2 ?_
  unfold gu
  rw[show((12:Int):Rat)=12 from rfl,show((-1132959:Int):Rat)= -1132959 from rfl,show((-3400000:Int):Rat)= -3400000 from rfl,p]
  rw[show((12*(-9000+3044)-1:Int):Rat)=12*(-9000+3044)-1 by decide+kernel] at a
  grind
 ·refine Int.lt_add_one_iff.1 (Rat.floor_lt_iff.2 ?_)
  unfold gu
  rw[show((12:Int):Rat)=12 from rfl,show((-1132959:Int):Rat)= -1132959 from rfl,show((3400000+1:Int):Rat)=3400001 from rfl,p]
  rw[show((12*(9000+3044)+10:Int):Rat)=12*(9000+3044)+10 by decide+kernel] at b
  grind
theorem Ot (y m:Int):Rat.floor (((12*(y+3044)+m-2:Int):Rat)/((12:Int):Rat)*pyr+((-1132959:Int):Rat))=fiE y m:=by
 unfold fiE gu
 rw[show 12*(y+3044)+m-2=12*(y+3044)+(m-2) by omega,Rat.mul_comm pyr]
theorem oF:∀(l:List Int) (more:List Value) {i:Nat},i<l.length->((iJ l++more).drop (4*i)).take 4=moC (l.getD i 0) (aw (l.getD i 0))
 |[],_,i,h=>absurd h (Nat.not_lt_zero i)
 |n::l,more,0,_=>rfl
 |n::l,more,i+1,h=>by
  show(((moC n (aw n)++iJ l)++more).drop (4*(i+1))).take 4=moC (l.getD i 0) (aw (l.getD i 0))
  rw[List.append_assoc,show 4*(i+1)=4+4*i by omega,<-List.drop_drop]
  exact oF l more (Nat.lt_of_succ_lt_succ h)
noncomputable def fiD (y m:Int) (i:Nat):Int:=(fiL y m).getD i 0
theorem Lo {y m:Int} {i:Nat} (h:i<(fiL y m).length):fiD y m i∈fiL y m:=by
 unfold fiD
 rw[List.getD_eq_getElem?_getD,List.getElem?_eq_getElem h]
 exact List.getElem_mem h
theorem mM {y m:Int} {i:Nat} (h:i<(fiL y m).length):aN (fiD y m i)=true/\smV (fiD y m i)=fiS y m:=Po (Lo h)
theorem AA {y m:Int} {i:Nat} (h:i<(fiL y m).length):fiE y m-4<=fiD y m i/\fiD y m i<=fiE y m+35:=fw (mM h).2
theorem sE {y m D:Int} (h:aN D=true) (e:smV D=fiS y m):∃i,i<(fiL y m).length /\D=fiD y m i:=by
 obtain⟨i,hi,q⟩:=List.getElem_of_mem (NH h e)
 refine⟨i,hi,?_⟩
 unfold fiD
 rw[List.getD_eq_getElem?_getD,List.getElem?_eq_getElem hi]
 exact q.symm
theorem vH (y m:Int):(fiL y m).length <=2:=by
 rcases ti y m with h|⟨D,h,_⟩|⟨D,h,_⟩ <;> rw[h] <;> simp
theorem Ma (y m d:Int):∀ {k:Nat},k<=3->(fiU y m d k).length <=3
 |0,_=>Nat.zero_le _
 |k+1,h=>by
  have aux:∀j,(fiU y m d j).length <=j:=by
   intro j
   induction j with
   |zero=>exact Nat.le_refl _
   |succ j ih=>
    show(fiU y m d j++_).length <=_
    rw[List.length_append]
    split <;> simp <;> omega
  have:=aux (k+1)
  omega
def ff (y m x a b c d:Int):Int:=if plE a b c d≠0 then plE a b c d else if m<1\/12<m\/x<1\/30<x then 4 else if y< -9000\/9000<y then 2 else 0
theorem Re {y m x a b c d:Int} (h:plE a b c d=0) (k:m<1\/12<m\/x<1\/30<x):ff y m x a b c d=4:=by unfold ff;rw[if_neg (by omega),if_pos k]
theorem ux {y m x a b c d:Int} (h:plE a b c d=0) (k:¬(m<1\/12<m\/x<1\/30<x)) (j:¬(y< -9000\/9000<y)):ff y m x a b c d=0:=by unfold ff;rw[if_neg (by omega),if_neg k,if_neg j]
theorem Qh {t:Rat} (h0: -3001000<=t) (h1:t<=3001000):12*(1955880000-5200)<=kaV t/\kaV t<12*(1955880000+11400):=by
 have n:=cv (jC t)
 rw[show((22:Int):Rat)/((10:Int):Rat)=22/10 by decide+kernel] at n
 have p:=jf
 have a:(-3001000-cre)/pyr<=br t pyr:=by
  unfold br
  exact Rat.not_lt.1 fun q=>by rw[Rat.div_lt_iff p,Rat.div_mul_cancel (by grind)] at q;grind
 have b:br t pyr<=(3001000-cre)/pyr:=by
  unfold br
  exact Rat.not_lt.1 fun q=>by rw[Rat.div_lt_iff p,Rat.div_mul_cancel (by grind)] at q;grind
 have a2:1955880000-5199<=(-3001000-cre)/pyr:=by decide+kernel
 have b2:(3001000-cre)/pyr<=1955880000+11399:=by decide+kernel
 constructor
 ·refine pM ?_
  unfold cz
  rw[show((360:Int):Rat)=360 from rfl,show((12*(1955880000-5200):Int):Rat)=12*(1955880000-5200) by decide+kernel]
  grind
 ·refine sm ?_
  unfold cz
  rw[show((360:Int):Rat)=360 from rfl,show((12*(1955880000+11400):Int):Rat)=12*(1955880000+11400) by decide+kernel]
  grind
theorem RJ {a b c d:Int} (h:bN a b c d) {n L:Int} (h0: -3000000<=n) (h1:n<=3000000) (e:amL n a b c d=L):12*(1955880000-5200)<=smV L/\smV L<12*(1955880000+11400):=by
 subst e
 have r:=vO h n
 have bd:=eT (amL n a b c d)
 have c0:=Rat.intCast_le_intCast.2 (show -3000040<=amL n a b c d by omega)
 have c1:=Rat.intCast_le_intCast.2 (show amL n a b c d<=3000002 by omega)
 rw[show((-3000040:Int):Rat)= -3000040 from rfl] at c0
 rw[show((3000002:Int):Rat)=3000002 from rfl] at c1
 exact Qh (t:=nmR (amL n a b c d)) (by grind) (by grind)
theorem Hn {y m:Int} {i:Nat} (h:i<(fiL y m).length):(smV (fiD y m i)%12=smV (aw (fiD y m i))%12)↔((fiL y m).length =2/\i=0):=by
 have n:=gS (mM h).1
 have key:smV (aw (fiD y m i))=smV (fiD y m i)↔((fiL y m).length =2/\i=0):=by
  unfold fiD at*
  rcases ti y m with e|⟨D,e,_,_,q⟩|⟨D,e,_,_,q,r⟩
  ·rw[e] at h;exact absurd h (Nat.not_lt_zero i)
  ·rw[e] at h ⊢
   have i0:i=0:=Nat.lt_one_iff.1 h
   subst i0
   exact⟨fun z=>absurd z q,fun z=>absurd z.1 (by simp)⟩
  ·rw[e] at h ⊢
   have i1:i<2:=h
   by_cases z:i=0
   ·subst z
    exact⟨fun _=>⟨rfl,rfl⟩,fun _=>q⟩
   ·have i1:i=1:=by omega
    subst i1
    refine⟨fun w=>absurd w ?_,fun w=>absurd w.2 (by decide)⟩
    show ¬smV (aw (aw D))=smV (aw D)
    omega
 omega
end Go.Proofs.YtgdpkknapcgcbaaGreatDoor
