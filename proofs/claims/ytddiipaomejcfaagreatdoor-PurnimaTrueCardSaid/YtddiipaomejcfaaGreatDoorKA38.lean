import Derived.Test.YtddiipaomejcfaaGreatDoorKA35
namespace Go.Proofs.YtddiipaomejcfaaGreatDoor
open Go.RowKit
set_option maxRecDepth 100000
set_option linter.unusedVariables false
set_option maxHeartbeats 8000000
theorem mE (m k:Int) (w:World) (hm0:1<=m) (hm1:m<=12) (hk0:0<=k) (hk1:k<=12):
 CV 116 #[iv m,iv k] w (iv ((m-1-k+12)%12+1)):=by
 refine gs2 (nt:=12) Tryz.func116 rfl rfl rfl fun a st hF=>wq ?_
 refine oC hF rfl fun a hF=>nq<|oM hF 1 rfl rfl fun a hF=>oV hF (ao hF.o aq ah (bT (by omega) (by omega))) rfl fun a hF=>oM hF 4 rfl rfl fun a hF=>oV hF (ao hF.p hF.o ah (bT (by omega) (by omega))) rfl fun a hF=>oV hF (ao hF.o aq ah (aU (by omega) (by omega))) rfl fun a hF=>oV hF (ao hF.o aq ah (dT (a:=((m-1)-k)+12) (b:=12) (by omega) (by omega))) rfl fun a hF=>oV hF (ao hF.o aq ah (aU (by omega) (by omega))) rfl fun a hF=>?_
 refine oE hF 0 rfl rfl fun a hF=>nr ?_
 have bel:=st.bel
 refine rt Tryz.results116 hF 0 rfl ?_
 exact⟨rfl,bel⟩
theorem Bt (w:World) (z:Int):∃g w',w.heap.size=g/\(Instr.buildSlice 42 1 #[(0,iv z)]).run Tryz.prog w= .ok (.slice (some ⟨g,0,none⟩) 1 1) w'/\Below w.heap.size w w'/\Blk w' g [iv z]:=by
 have hb:=eS (w:=w) (cs:=[iv z]) 3
 refine⟨w.heap.size,w.alloc (.cells #[iv z] 3),rfl,?_,hb.2,hb.1⟩
 have hs:=bh (P:=Tryz.prog) (T:=3) (n:=1) cT w
 simp[Instr.buildSlice,go_sem,hs,Instr.fill,Value.cells,newRow]
theorem Fo (w:World) (z u:Int):∃g w',w.heap.size=g/\(Instr.buildSlice 42 2 #[(0,iv z),(1,iv u)]).run Tryz.prog w= .ok (.slice (some ⟨g,0,none⟩) 2 2) w'/\Below w.heap.size w w'/\Blk w' g [iv z,iv u]:=by
 have hb:=eS (w:=w) (cs:=[iv z,iv u]) 3
 refine⟨w.heap.size,w.alloc (.cells #[iv z,iv u] 3),rfl,?_,hb.2,hb.1⟩
 have hs:=bh (P:=Tryz.prog) (T:=3) (n:=1) cT w
 simp[Instr.buildSlice,go_sem,hs,Instr.fill,Value.cells,newRow]
theorem Dk {w:World} {g n c i:Nat} {z:Int} (hz:z=((i:Nat):Int)) (hi:i<n):(Instr.indexAt 42 (.slice (some ⟨g,0,none⟩) n c) (iv z)).run Tryz.prog w= .ok (.pointer (some ⟨g,i,none⟩)) w:=by
 subst hz
 simp[Instr.indexAt,asIntOf,run_underlying Tryz.underlying42,Sem.run_bind,Addr.add_mid,hi]
theorem CJ {w:World} {ty:TypeId} {a:Option Addr} {n c:Nat}:(builtin .len #[42] ty #[false] #[.slice a n c]).run Tryz.prog w= .ok (.value (iv ((n:Nat):Int))) w:=by
 simp[Builtin.len_,go_sem,run_underlying Tryz.underlying42]
theorem qr (y m:Int) (l:Bool) (x:Int) (u:Bool) (w:World) (hm0:1<=m) (hm1:m<=12):
 CP 74 #[.agg #[iv y,iv m,.bool l,iv x,.bool u]] w (fun e w'=>∃g,e= .returned (.slice (some ⟨g,0,none⟩) (puL m l x).length (puL m l x).length)/\w.heap.size<=g/\Blk w' g ((puL m l x).map fun z=>Value.int .i64 z)/\Below w.heap.size w w'):=by
 have bel:Below w.heap.size w w:=Below.refl _ _
 refine go1 (nt:=20) Tryz.func74 rfl rfl rfl fun a hF=>wq ?_
 obtain⟨g1,w1,ge1,hr,bb,o1⟩:=oN (P:=Tryz.prog) (w:=w) (cs:=[iv y,iv m,.bool l,iv x,.bool u]) (v:= .agg #[iv y,iv m,.bool l,iv x,.bool u]) 29 rfl
 replace ge1:w.heap.size<=g1:=by rw[<-ge1];exact bel.size
 refine oV hF (qC hF.o hr) rfl fun a hF=>?_
 clear hr
 replace bel:=aR bel bb
 clear bb
 refine oC hF rfl fun a hF=>ns<|wq<|oV hF (az hF.p (cS (p:=3) rfl)) rfl fun a hF=>oV hF (aw hF.o (bj (v:= iv x) o1 rfl)) rfl fun a hF=>?_
 by_cases hc2:x<=15
 ·refine oT hF 0 (bp (c:=true) (aA hc2)) rfl rfl fun a hF=>oM hF 0 rfl rfl fun a hF=>nu hF 0 rfl rfl rfl fun a hF=>nu hF 1 rfl rfl rfl fun a hF=>oV hF (aB hF.q aq) rfl fun a hF=>E.nil<|wp_cond_true hF.o<|wq<|oV hF (az (hF.at 8 rfl) (ce (p:=1) rfl)) rfl fun a hF=>oV hF (aw hF.o (bj (v:= iv m) o1 rfl)) rfl fun a hF=>?_
  obtain⟨gl3,w4,egl3,hr,bb,ogl3⟩:=Bt w1 m
  have gegl3:w.heap.size<=gl3:=by rw[<-egl3];exact bel.size
  refine oV hF (cM (jx hF.o) hr) rfl fun a hF=>?_
  clear hr egl3
  replace o1:=o1.below bb
  replace bel:=aR bel bb
  clear bb
  refine oE hF 0 rfl rfl fun a hF=>nr<|E.pastr<|rt Tryz.results74 hF 0 rfl ?_
  have hpl:puL m l x=[m]:=if_pos (.inl hc2)
  exact⟨_,by rw[hpl];rfl,gegl3,by rw[hpl];exact ogl3,bel⟩
 ·refine oT hF 0 (bp (c:=false) (aK hc2)) rfl rfl fun a hF=>oM hF 0 rfl rfl fun a hF=>og hF (az (hF.at 5 rfl) (d8 (p:=2) rfl)) 0 rfl rfl rfl fun a hF=>og hF (aw hF.o (fB (v:= .bool l) o1 rfl)) 1 rfl rfl rfl fun a hF=>oV hF (aX hF.q hF.o) rfl fun a hF=>E.nil ?_
  by_cases hc5:l=true
  ·refine wp_cond_true (Eq.trans hF.o (congrArg Value.bool hc5)) ?_
   refine wq<|oV hF (az (hF.at 8 rfl) (ce (p:=1) rfl)) rfl fun a hF=>oV hF (aw hF.o (bj (v:= iv m) o1 rfl)) rfl fun a hF=>?_
   obtain⟨gl6,w7,egl6,hr,bb,ogl6⟩:=Bt w1 m
   have gegl6:w.heap.size<=gl6:=by rw[<-egl6];exact bel.size
   refine oV hF (cM (jx hF.o) hr) rfl fun a hF=>?_
   clear hr egl6
   replace o1:=o1.below bb
   replace bel:=aR bel bb
   clear bb
   refine oE hF 0 rfl rfl fun a hF=>nr<|E.pastr<|rt Tryz.results74 hF 0 rfl ?_
   have hpl:puL m l x=[m]:=if_pos (.inr hc5)
   exact⟨_,by rw[hpl];rfl,gegl6,by rw[hpl];exact ogl6,bel⟩
  ·refine wp_cond_false (Eq.trans hF.o (congrArg Value.bool (eq_false_of_ne_true hc5))) ?_
   refine wp_skip<|E.norm<|wp_seq ?_
   refine eD 5 aP hF [13,14,15,16,17] [(Iz (.pointer (some ⟨g1,1,none⟩))),(Iz (iv m)),(Iz (iv ((m-1-1+12)%12+1))),(Iz (.pointer (some ⟨g1,1,none⟩))),(Iz (iv m))] [] (by decide+kernel) rfl rfl trivial ⟨?_,?_,?_,?_,?_,trivial⟩ ?_
   ·intro a' w' hF' hb hd
    exact dv0 (az (hF'.at 8 rfl) (ce (p:=1) rfl)) rfl rfl rfl
   ·intro a' w' hF' hb hd
    have e13:=tE hd 0 rfl
    exact dv0 (aw e13 (bj (v:= iv m) (o1.below hb) rfl)) rfl rfl rfl
   ·intro a' w' hF' hb hd
    have e14:=tE hd 0 rfl
    exact GD (rk Bs (aH e14 aq)) (mE m 1 _ (by omega) (by omega) (by omega) (by omega)) (fun _=>rfl) rfl rfl
   ·intro a' w' hF' hb hd
    exact dv0 (az (hF'.at 8 rfl) (ce (p:=1) rfl)) rfl rfl rfl
   ·intro a' w' hF' hb hd
    have e16:=tE hd 0 rfl
    exact dv0 (aw e16 (bj (v:= iv m) (o1.below hb) rfl)) rfl rfl rfl
   intro a w8 hF bb hall hne
   replace hF:=aE hall hF 2 rfl rfl
   replace hF:=aE hall hF 4 rfl rfl
   clear hall hne
   replace bel:=aR bel bb
   clear bb
   refine E.call hF (rk Bs (aH hF.o aq)) (mE m 2 _ (by omega) (by omega) (by omega) (by omega)) rfl rfl rfl rfl ?_
   rintro e w9 ⟨rfl,bb⟩
   refine⟨_,rfl,?_⟩
   intro a hF
   replace bel:=aR bel bb
   clear bb
   obtain⟨gl10,w11,egl10,hr,bb,ogl10⟩:=Fo w9 ((m-1-1+12)%12+1) ((m-1-2+12)%12+1)
   have gegl10:w.heap.size<=gl10:=by rw[<-egl10];exact bel.size
   refine oV hF (cM (ju hF.q hF.o) hr) rfl fun a hF=>?_
   clear hr egl10
   replace bel:=aR bel bb
   clear bb
   refine oE hF 0 rfl rfl fun a hF=>nr<|rt Tryz.results74 hF 0 rfl ?_
   have hpl:puL m l x=[(m-1-1+12)%12+1,(m-1-2+12)%12+1]:=if_neg (fun e=>e.elim hc2 hc5)
   exact⟨_,by rw[hpl];rfl,gegl10,by rw[hpl];exact ogl10,bel⟩
end Go.Proofs.YtddiipaomejcfaaGreatDoor
