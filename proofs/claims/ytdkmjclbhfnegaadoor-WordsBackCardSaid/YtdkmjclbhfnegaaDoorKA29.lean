import Derived.Test.YtdkmjclbhfnegaaDoorKA24
import Derived.Test.YtdkmjclbhfnegaaDoorKA28
namespace Go.Proofs.YtdkmjclbhfnegaaDoor
open Go.RowKit
set_option maxRecDepth 100000
set_option linter.unusedVariables false
set_option maxHeartbeats 8000000
section
section
def GCl (v:Value) (G:World→Prop):Prop:=∀w w',G w→(∀b,v.ownBlock=some b→w'.heap[b]?=w.heap[b]?)→w.heap.size≤w'.heap.size→KeepU w w'→G w'
theorem Below.keepU {w w':World} (h:Below w.heap.size w w'):KeepU w w':=fun ad xs r=>Below.keep h _ _ _ r
structure Sg (W w:World) (bs:List (Nat×List Value)) (fs:List (World→Prop)) (v0:Value) (G0:World→Prop):Prop extends St W w bs fs where
 g:G0 w
 gc:GCl v0 G0
 gl:∀w,G0 w→∀b,v0.ownBlock=some b→W.heap.size≤b∧b<w.heap.size
 gn:∀p∈bs,v0.ownBlock≠some p.1
section
variable {W w w':World} {bs:List (Nat×List Value)} {fs:List (World→Prop)} {v0:Value} {G0:World→Prop}
theorem St.grow0 (st:St W w bs fs) {v:Value} {G:World→Prop} (g:G w) (gc:GCl v G) (gl:∀w,G w→∀b,v.ownBlock=some b→W.heap.size≤b∧b<w.heap.size) (gn:∀p∈bs,v.ownBlock≠some p.1):Sg W w bs fs v G:=⟨st,g,gc,gl,gn⟩
theorem Sg.gat (st:Sg W w bs fs v0 G0) (h:∀b,v0.ownBlock=some b→w'.heap[b]?=w.heap[b]?) (hs:w.heap.size≤w'.heap.size) (k:KeepU w w'):G0 w':=st.gc w w' st.g h hs k
theorem Sg.to (st:Sg W w bs fs v0 G0) (hb:Below w.heap.size w w'):Sg W w' bs fs v0 G0:=
 ⟨st.toSt.to hb,st.gat (fun b e=>hb.block b (st.gl w st.g b e).2) hb.size (Below.keepU hb),st.gc,st.gl,st.gn⟩
theorem Sg.push (st:Sg W w bs fs v0 G0) {g:Nat} {cs:List Value} (ho:Blk w g cs) (hg:W.heap.size≤g) (hne:∀p∈bs,p.1≠g) (hv:v0.ownBlock≠some g):Sg W w ((g,cs)::bs) fs v0 G0:=
 ⟨st.toSt.push ho hg hne,st.g,st.gc,st.gl,fun p hp=>by rcases List.mem_cons.1 hp with rfl|hp;exact hv;exact st.gn p hp⟩
theorem Sg.away (st:Sg W w bs fs v0 G0) {g:Nat} (hg:w.heap.size≤g):v0.ownBlock≠some g:=fun e=>by have:=(st.gl w st.g g e).2;omega
theorem Sg.new (st:Sg W w bs fs v0 G0) {cs:List Value} {g:Nat} (hg:w.heap.size=g) (hb:Below w.heap.size w w') (ho:Blk w' g cs):Sg W w' ((g,cs)::bs) fs v0 G0:=
 (st.to hb).push ho (by rw[←hg];exact st.bel.size) (st.ne (by omega)) (st.away (by omega))
theorem Sg.pick (st:Sg W w bs fs v0 G0) (is js:List Nat) {bs':List (Nat×List Value)} {fs':List (World→Prop)} (hb:is.map (bs[·]?)=bs'.map some) (hf:js.map (fs[·]?)=fs'.map some) (hn:is.Pairwise fun a b=>a≠b):Sg W w bs' fs' v0 G0:=by
 refine⟨st.toSt.pick is js hb hf hn,st.g,st.gc,st.gl,fun p hp=>st.gn p ?_⟩
 have h1:some p∈bs'.map some:=List.mem_map_of_mem hp
 rw[←hb] at h1
 obtain⟨j,_,hj⟩:=List.mem_map.1 h1
 exact List.mem_of_getElem? hj
theorem Sg.cast (st:Sg W w bs fs v0 G0) {G1:World→Prop} (e:G0=G1):Sg W w bs fs v0 G1:=e▸st
theorem Sg.grow (st:Sg W w bs fs v0 G0) {v1:Value} {G1:World→Prop} (gg:w.grownBy w' v0.ownBlock) (bb:Below W.heap.size w w') (ku:KeepU w w') (hU:∀F∈fs,ClU F) (g1:G1 w') (gc:GCl v1 G1) (gl:∀w,G1 w→∀b,v1.ownBlock=some b→W.heap.size≤b∧b<w.heap.size)
 (hne:∀b,b<w.heap.size→v0.ownBlock≠some b→v1.ownBlock≠some b):Sg W w' bs fs v1 G1:=
 ⟨⟨st.bel.trans bb,fun p hp=>Blk.grown (st.own p hp) gg (fun e=>st.gn p hp e.symm),st.low,st.apart,fun F hF=>hU F hF w w' (st.facts F hF) ku,st.cl⟩,g1,gc,gl,fun p hp=>hne p.1 (st.own p hp).lt (st.gn p hp)⟩
end
section
variable {P:Program} {ops:Array Oper} {Q:Exit→Act→World→Prop} {W w:World} {bs:List (Nat×List Value)} {fs:List (World→Prop)} {v0:Value} {G0:World→Prop} {nt d s:Nat} {L:List (Nat×Value)} {rest:List Oper} {a:Act} {T:TypeId} {x y:Operand} {v:Value} {cs vs zs:List Value} {g n:Nat} {ty:TypeId} {pos:String} {af:Array Edge} {H:World→Value→Prop} {ds:List Nat} {Hs:List (World→Value→Prop)}
end
end
end
end Go.Proofs.YtdkmjclbhfnegaaDoor
