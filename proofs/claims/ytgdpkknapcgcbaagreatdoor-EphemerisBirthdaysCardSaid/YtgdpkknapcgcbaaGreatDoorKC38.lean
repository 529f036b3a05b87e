import Derived.Test.YtgdpkknapcgcbaaGreatDoorKC36
import Derived.Test.YtgdpkknapcgcbaaGreatDoorKC37
namespace Go.Proofs.YtgdpkknapcgcbaaGreatDoor
open Go.RowKit
set_option maxRecDepth 100000
set_option linter.unusedVariables false
set_option maxHeartbeats 8000000
theorem cU.gl {m T base n:Nat} {v:Value} {rs:List Value}:∀w,cU w m T base v n rs->∀b,v.ownBlock=some b->base<=b/\b<w.heap.size:=fun _ h=>h.lt
def DI (base:Nat) (cs:List Value) (w:World) (v:Value):Prop:=∃g,v= .slice (some ⟨g,0,none⟩) 1 1/\base<=g/\Blk w g cs
theorem DI.mb {base:Nat} {cs:List Value}:Mb (DI base cs):=fun _ _ _ ⟨g,e,l,h⟩ hb=>⟨g,e,l,h.below hb⟩
theorem Mr:∃i z,Tryz.prog.info? 97=some i/\i.zero=some z/\i.size=3/\i.bytes=24/\z.cells.size=3/\∀u∈z.cells.toList,noU u:=by
 have h1:(Tryz.prog.info? 97).map (·.size)=some 3:=by kernel_rfl
 have h2:(Tryz.prog.info? 97).bind (·.zero)=some (.agg #[Value.int .i64 0,Value.int .i64 0,Value.bool false]):=by kernel_rfl
 have h3:(Tryz.prog.info? 97).map (·.bytes)=some 24:=by kernel_rfl
 cases hq:Tryz.prog.info? 97 with
 |none=>rw[hq] at h1;cases h1
 |some i=>exact⟨i,.agg #[Value.int .i64 0,Value.int .i64 0,Value.bool false],rfl,by simpa[hq] using h2,by simpa[hq] using h1,by simpa[hq] using h3,rfl,(show ∀u∈[Value.int .i64 0,Value.int .i64 0,Value.bool false],noU u from(nuC nuI (nuC nuI (nuC nuB nu0))))⟩
theorem OI (w:World) (base:Nat) (hb:base<=w.heap.size):∃g w',w.heap.size=g/\(Instr.buildSlice 93 0 #[]).run Tryz.prog w= .ok (.slice (some ⟨g,0,none⟩) 0 0) w'/\Below w.heap.size w w'/\cU w' 3 97 base (.slice (some ⟨g,0,none⟩) 0 0) 0 []:=by
 have hn:=ec (w:=w) (cs:=[]) 97
 refine⟨w.heap.size,w.alloc (.cells #[] 97),rfl,?_,hn.2,⟨⟨rfl,.inr ⟨w.heap.size,0,#[],rfl,hb,heap_alloc_new w _,Nat.le_refl _,Nat.zero_le _,rfl,rfl⟩⟩,fun g e=>?_⟩⟩
 ·have hs:=bh (P:=Tryz.prog) (T:=97) (n:=3) uG w
  simp[Instr.buildSlice,go_sem,hs,Instr.fill,newRow]
 ·injection e with e
  subst e
  exact kB (cs:=[]) (heap_alloc_new w _) nu0
theorem PL {w:World} {base:Nat} {v:Value} {n:Nat} {rs:List Value} (h:cU w 3 97 base v n rs) {gs:Nat} {z0:Int} {z1:Int} {z2:Bool} (hs:Blk w gs [iv z0,iv z1,.bool z2]) (hl:n<=1000000) (bel:base<=w.heap.size) {ty:TypeId}:
 ∃ad cap w',(builtin .append #[93,93] ty #[false,false] #[v,.slice (some ⟨gs,0,none⟩) 1 1]).run Tryz.prog w= .ok (.value (.slice ad (n+1) cap)) w'/\cU w' 3 97 base (.slice ad (n+1) cap) (n+1) (rs++[iv z0,iv z1,.bool z2])/\w.grownBy w' v.ownBlock/\Below base w w'/\jV w w'/\∀b,b<w.heap.size->v.ownBlock≠some b->(Value.slice ad (n+1) cap).ownBlock ≠some b:=
 cU.put Tryz.underlying93 Mr (by decide) (by decide) h hs (nuC nuI (nuC nuI (nuC nuB nu0))) rfl (ocI (ocI (ocB oc0))) hl bel
theorem RF (w:World) (z0:Int) (z1:Int) (z2:Bool):∃g w',(Instr.buildSlice 93 1 #[(0,.agg #[iv z0,iv z1,.bool z2])]).run Tryz.prog w= .ok (.slice (some ⟨g,0,none⟩) 1 1) w'/\w.heap.size=g/\Below w.heap.size w w'/\Blk w' g [iv z0,iv z1,.bool z2]:=by
 have hb:=ec (w:=w) (cs:=[iv z0,iv z1,.bool z2]) 97
 refine⟨w.heap.size,w.alloc (.cells #[iv z0,iv z1,.bool z2] 97),?_,rfl,hb.2,hb.1⟩
 have hs:=bh (P:=Tryz.prog) (T:=97) (n:=3) uG w
 simp[Instr.buildSlice,go_sem,hs,Instr.fill,Value.cells,newRow]
theorem Mp:∃i z,Tryz.prog.info? 81=some i/\i.zero=some z/\i.size=4/\i.bytes=32/\z.cells.size=4/\∀u∈z.cells.toList,noU u:=by
 have h1:(Tryz.prog.info? 81).map (·.size)=some 4:=by kernel_rfl
 have h2:(Tryz.prog.info? 81).bind (·.zero)=some (.agg #[Value.int .i64 0,Value.bool false,Value.int .i64 0,Value.int .i64 0]):=by kernel_rfl
 have h3:(Tryz.prog.info? 81).map (·.bytes)=some 32:=by kernel_rfl
 cases hq:Tryz.prog.info? 81 with
 |none=>rw[hq] at h1;cases h1
 |some i=>exact⟨i,.agg #[Value.int .i64 0,Value.bool false,Value.int .i64 0,Value.int .i64 0],rfl,by simpa[hq] using h2,by simpa[hq] using h1,by simpa[hq] using h3,rfl,(show ∀u∈[Value.int .i64 0,Value.bool false,Value.int .i64 0,Value.int .i64 0],noU u from(nuC nuI (nuC nuB (nuC nuI (nuC nuI nu0)))))⟩
theorem Pr (w:World) (base:Nat) (hb:base<=w.heap.size):∃g w',w.heap.size=g/\(Instr.buildSlice 77 0 #[]).run Tryz.prog w= .ok (.slice (some ⟨g,0,none⟩) 0 0) w'/\Below w.heap.size w w'/\cU w' 4 81 base (.slice (some ⟨g,0,none⟩) 0 0) 0 []:=by
 have hn:=ec (w:=w) (cs:=[]) 81
 refine⟨w.heap.size,w.alloc (.cells #[] 81),rfl,?_,hn.2,⟨⟨rfl,.inr ⟨w.heap.size,0,#[],rfl,hb,heap_alloc_new w _,Nat.le_refl _,Nat.zero_le _,rfl,rfl⟩⟩,fun g e=>?_⟩⟩
 ·have hs:=bh (P:=Tryz.prog) (T:=81) (n:=4) uZ w
  simp[Instr.buildSlice,go_sem,hs,Instr.fill,newRow]
 ·injection e with e
  subst e
  exact kB (cs:=[]) (heap_alloc_new w _) nu0
theorem NY {w:World} {base:Nat} {v:Value} {n:Nat} {rs:List Value} (h:cU w 4 81 base v n rs) {gs:Nat} {z0:Int} {z1:Bool} {z2:Int} {z3:Int} (hs:Blk w gs [iv z0,.bool z1,iv z2,iv z3]) (hl:n<=1000000) (bel:base<=w.heap.size) {ty:TypeId}:
 ∃ad cap w',(builtin .append #[77,77] ty #[false,false] #[v,.slice (some ⟨gs,0,none⟩) 1 1]).run Tryz.prog w= .ok (.value (.slice ad (n+1) cap)) w'/\cU w' 4 81 base (.slice ad (n+1) cap) (n+1) (rs++[iv z0,.bool z1,iv z2,iv z3])/\w.grownBy w' v.ownBlock/\Below base w w'/\jV w w'/\∀b,b<w.heap.size->v.ownBlock≠some b->(Value.slice ad (n+1) cap).ownBlock ≠some b:=
 cU.put Tryz.underlying77 Mp (by decide) (by decide) h hs (nuC nuI (nuC nuB (nuC nuI (nuC nuI nu0)))) rfl (ocI (ocB (ocI (ocI oc0)))) hl bel
theorem RC (w:World) (z0:Int) (z1:Bool) (z2:Int) (z3:Int):∃g w',(Instr.buildSlice 77 1 #[(0,.agg #[iv z0,.bool z1,iv z2,iv z3])]).run Tryz.prog w= .ok (.slice (some ⟨g,0,none⟩) 1 1) w'/\w.heap.size=g/\Below w.heap.size w w'/\Blk w' g [iv z0,.bool z1,iv z2,iv z3]:=by
 have hb:=ec (w:=w) (cs:=[iv z0,.bool z1,iv z2,iv z3]) 81
 refine⟨w.heap.size,w.alloc (.cells #[iv z0,.bool z1,iv z2,iv z3] 81),?_,rfl,hb.2,hb.1⟩
 have hs:=bh (P:=Tryz.prog) (T:=81) (n:=4) uZ w
 simp[Instr.buildSlice,go_sem,hs,Instr.fill,Value.cells,newRow]
theorem MH:∃i z,Tryz.prog.info? 72=some i/\i.zero=some z/\i.size=4/\i.bytes=32/\z.cells.size=4/\∀u∈z.cells.toList,noU u:=by
 have h1:(Tryz.prog.info? 72).map (·.size)=some 4:=by kernel_rfl
 have h2:(Tryz.prog.info? 72).bind (·.zero)=some (.agg #[Value.int .i64 0,Value.int .i64 0,Value.int .i64 0,Value.int .i64 0]):=by kernel_rfl
 have h3:(Tryz.prog.info? 72).map (·.bytes)=some 32:=by kernel_rfl
 cases hq:Tryz.prog.info? 72 with
 |none=>rw[hq] at h1;cases h1
 |some i=>exact⟨i,.agg #[Value.int .i64 0,Value.int .i64 0,Value.int .i64 0,Value.int .i64 0],rfl,by simpa[hq] using h2,by simpa[hq] using h1,by simpa[hq] using h3,rfl,(show ∀u∈[Value.int .i64 0,Value.int .i64 0,Value.int .i64 0,Value.int .i64 0],noU u from(nuC nuI (nuC nuI (nuC nuI (nuC nuI nu0)))))⟩
theorem NX (w:World) (base:Nat) (hb:base<=w.heap.size):∃g w',w.heap.size=g/\(Instr.buildSlice 139 0 #[]).run Tryz.prog w= .ok (.slice (some ⟨g,0,none⟩) 0 0) w'/\Below w.heap.size w w'/\cU w' 4 72 base (.slice (some ⟨g,0,none⟩) 0 0) 0 []:=by
 have hn:=ec (w:=w) (cs:=[]) 72
 refine⟨w.heap.size,w.alloc (.cells #[] 72),rfl,?_,hn.2,⟨⟨rfl,.inr ⟨w.heap.size,0,#[],rfl,hb,heap_alloc_new w _,Nat.le_refl _,Nat.zero_le _,rfl,rfl⟩⟩,fun g e=>?_⟩⟩
 ·have hs:=bh (P:=Tryz.prog) (T:=72) (n:=4) jU w
  simp[Instr.buildSlice,go_sem,hs,Instr.fill,newRow]
 ·injection e with e
  subst e
  exact kB (cs:=[]) (heap_alloc_new w _) nu0
theorem PD {w:World} {base:Nat} {v:Value} {n:Nat} {rs:List Value} (h:cU w 4 72 base v n rs) {gs:Nat} {z0:Int} {z1:Int} {z2:Int} {z3:Int} (hs:Blk w gs [iv z0,iv z1,iv z2,iv z3]) (hl:n<=1000000) (bel:base<=w.heap.size) {ty:TypeId}:
 ∃ad cap w',(builtin .append #[139,139] ty #[false,false] #[v,.slice (some ⟨gs,0,none⟩) 1 1]).run Tryz.prog w= .ok (.value (.slice ad (n+1) cap)) w'/\cU w' 4 72 base (.slice ad (n+1) cap) (n+1) (rs++[iv z0,iv z1,iv z2,iv z3])/\w.grownBy w' v.ownBlock/\Below base w w'/\jV w w'/\∀b,b<w.heap.size->v.ownBlock≠some b->(Value.slice ad (n+1) cap).ownBlock ≠some b:=
 cU.put Tryz.underlying139 MH (by decide) (by decide) h hs (nuC nuI (nuC nuI (nuC nuI (nuC nuI nu0)))) rfl (ocI (ocI (ocI (ocI oc0)))) hl bel
theorem RG (w:World) (z0:Int) (z1:Int) (z2:Int) (z3:Int):∃g w',(Instr.buildSlice 139 1 #[(0,.agg #[iv z0,iv z1,iv z2,iv z3])]).run Tryz.prog w= .ok (.slice (some ⟨g,0,none⟩) 1 1) w'/\w.heap.size=g/\Below w.heap.size w w'/\Blk w' g [iv z0,iv z1,iv z2,iv z3]:=by
 have hb:=ec (w:=w) (cs:=[iv z0,iv z1,iv z2,iv z3]) 72
 refine⟨w.heap.size,w.alloc (.cells #[iv z0,iv z1,iv z2,iv z3] 72),?_,rfl,hb.2,hb.1⟩
 have hs:=bh (P:=Tryz.prog) (T:=72) (n:=4) jU w
 simp[Instr.buildSlice,go_sem,hs,Instr.fill,Value.cells,newRow]
theorem tf (z0 xa xb xc xd:Int) (w:World) (hT:bE w) (hok:bN xa xb xc xd) (hc:aN z0=true) (hz0: -3800000<=z0) (hz1:z0<=3800000) (B:Int) (hB:beV xa xb xc xd z0=B):
 CV 94 #[iv z0,.agg #[iv xa,iv xb,iv xc,iv xd]] w (iv B):=by
 have hbi:=fun t=>ri hok hc t
 have hbn:=fj hok hc
 rw[hB] at hbn
 simp only [hB] at hbi
 have heq:∀t,t=B->amL t xa xb xc xd=z0:=fun t e=>by rw[e,<-hB];exact DC hok hc
 refine gs2 (nt:=21) Tryz.func94 rfl rfl rfl fun a st hF=>wq<|bx st hF 1 rfl rfl fun g3 w1 a st hF=>?_
 refine oC hF rfl fun a hF=>ns<|wq<|oC hF rfl fun a hF=>E.nil<|wp_block ?_
 refine E.loop (fun mq a wv=>∃(j:Int), -1<=j/\j<=3/\z0+j<=B/\Fr 21 a [(5,iv j),(3,.pointer (some ⟨g3,0,none⟩)),(0,iv z0)]/\St w wv [(g3,[iv xa,iv xb,iv xc,iv xd])] []/\mq=(3-j:Int).toNat) ((3-((-1)):Int).toNat) ?_ ?_
 ·exact⟨((-1):Int),(by omega),(by omega),(by omega),Fr.pick (L':=[(5,iv (-1)),(3,.pointer (some ⟨g3,0,none⟩)),(0,iv z0)]) hF [0,2,3] rfl,st.pick [0] [] rfl rfl (by decide),rfl⟩
 ·rintro mq a w2 ⟨j,hj0,hj3,hjB,hF,st,hm⟩
  refine wp_seq<|wq<|oM hF 0 rfl rfl fun a hF=>?_
  by_cases hc3:j<=2
  ·first
   |(exfalso;omega)
   |(refine oT hF 0 (cg (c:=true) (aI hc3)) rfl rfl fun a hF=>?_
     refine E.nil<|wp_cond_true hF.o<|wp_skip<|E.norm<|wp_seq<|wp_block<|wq ?_
     refine oM hF 4 rfl rfl fun a hF=>oM hF 3 rfl rfl fun a hF=>oV hF (aq hF.p hF.o aa (aX (by omega) (by omega))) rfl fun a hF=>oA hF 0 rfl rfl fun a hF=>nq<|oM hF 0 rfl rfl fun a hF=>oL hF st 8 0 be rfl rfl rfl rfl fun a hF=>S.ck st hF (rgc k55 (aL hF.p hF.o)) (bf (lR (z0+j) xa xb xc xd _ (hT.below st.bel) (by first|assumption|constructor<;>omega) (by omega) (by omega)) (mP (by first|assumption|constructor<;>omega) (by omega) (by omega))) Rl.cl rfl fun vv5 w4 a st hF=>?_
     obtain⟨r7,rfl⟩:=Rq.fo (st.f 0 rfl).1
     refine cX st hF (rgc k92 (aG hF.o)) (uJ _ _ 3 _ (hT.below st.bel) (st.f 0 rfl).1 (st.f 0 rfl).2 (by omega) (by have:=sL hok (z0+j);omega) (by have:=sL hok (z0+j);omega)) rfl fun w8 a st hF=>oM hF 12 rfl rfl fun a hF=>?_
     by_cases hc9:amL (z0+j) xa xb xc xd=z0
     ·first
      |(exfalso;omega)
      |(refine oU hF 1 0 (aV (c:=true) (aI hc9)) rfl rfl rfl fun a hF=>?_
        refine E.nil<|wp_cond_true hF.o<|wq ?_
        refine oM hF 6 rfl rfl fun a hF=>oA hF 0 rfl rfl fun a hF=>nr ?_
        have bel:=st.bel
        refine rt Tryz.results94 hF 0 rfl ?_
        have:=hbi (z0+j)
        exact⟨ch (by omega),bel⟩)
     ·first
      |(exfalso;omega)
      |(refine oU hF 1 0 (aV (c:=false) (aJ hc9)) rfl rfl rfl fun a hF=>?_
        refine E.nil<|wp_cond_false hF.o<|wp_skip<|E.blk<|E.norm<|E.seq<|oM hF 12 rfl rfl fun a hF=>oV hF (aq hF.o ao aa (aX (by omega) (by omega))) rfl fun a hF=>oE hF 0 rfl rfl fun a hF=>E.nil0<|E.norm ?_
        exact⟨(3-(j+1):Int).toNat,by omega,⟨(j+1:Int),(by omega),(by omega),(by have:=heq (z0+j);omega),Fr.pick (L':=[(5,iv (j+1)),(3,.pointer (some ⟨g3,0,none⟩)),(0,iv z0)]) hF [0,15,16] rfl,st.pick [0] [] rfl rfl (by decide),rfl⟩⟩))
  ·first
   |(exfalso;omega)
   |(refine oT hF 0 (cg (c:=false) (aJ hc3)) rfl rfl fun a hF=>?_
     refine E.nil<|wp_cond_false hF.o<|wp_exit<|E.past<|E.past<|E.out (id:=0)<|E.norm<|wq ?_
     refine oC hF rfl fun a hF=>nr ?_
     have bel:=st.bel
     refine rt Tryz.results94 hF 0 rfl ?_
     exfalso;omega)
theorem td (z0 z1 z2 z3 xa xb xc xd:Int) (w:World) (hT:bE w) (hok:bN xa xb xc xd) (hc:aN z0=true) (hz0: -3800000<=z0) (hz1:z0<=3800000) (B:Int) (hB:beV xa xb xc xd z0=B):
 CV 41 #[.agg #[iv z0,iv z1,iv z2,iv z3],.agg #[iv xa,iv xb,iv xc,iv xd]] w (iv B):=by
 refine gs2 (nt:=9) Tryz.func41 rfl rfl rfl fun a st hF=>wq<|bx st hF 0 rfl rfl fun g2 w1 a st hF=>bx st hF 2 rfl rfl fun g3 w2 a st hF=>?_
 refine oC hF rfl fun a hF=>nq<|oV hF (az hF.q (jD (p:=0) rfl)) rfl fun a hF=>oV hF (ar hF.o (bl (v:= iv z0) (st.bk 1 rfl) rfl)) rfl fun a hF=>oL hF st 3 0 be rfl rfl rfl rfl fun a hF=>cX st hF (rgc k94 (aL hF.p hF.o)) (tf z0 xa xb xc xd _ (hT.below st.bel) (by first|assumption|constructor<;>omega) hc (by omega) (by omega) B hB) rfl fun w3 a st hF=>?_
 refine oE hF 0 rfl rfl fun a hF=>nr ?_
 have bel:=st.bel
 refine rt Tryz.results41 hF 0 rfl ?_
 exact⟨rfl,bel⟩
theorem pV (z0 z1 z2 z3 xa xb xc xd:Int) (w:World) (hT:bE w) (hok:bN xa xb xc xd) (hc:aN z0=true) (hz0: -3700000<=z0) (hz1:z0<=3700000) (hn:aw z0=z1) (B B2:Int) (hB:beV xa xb xc xd z0=B) (hB2:beV xa xb xc xd z1=B2):
 CV 98 #[.agg #[iv z0,iv z1,iv z2,iv z3],.agg #[iv xa,iv xb,iv xc,iv xd]] w (.tuple #[iv B,iv B2]):=by
 have hns:=bC hc
 rw[hn] at hns
 have hc1:=hns.2.2.1
 refine gs2 (nt:=13) Tryz.func98 rfl rfl rfl fun a st hF=>wq<|bx st hF 0 rfl rfl fun g2 w1 a st hF=>bx st hF 2 rfl rfl fun g3 w2 a st hF=>?_
 refine oC hF rfl fun a hF=>oC hF rfl fun a hF=>ns ?_
 refine E.rg 6 aM hF [6,7,8,9,10,11] [_,_,_,_,_,_] (by decide+kernel) rfl rfl rfl ⟨rb st bV 3 1 rfl,rb st be 2 0 rfl,ck st k41 rfl fun _ s=>bD (td z0 z1 z2 z3 xa xb xc xd _ (hT.below s.bel) (by first|assumption|constructor<;>omega) hc (by omega) (by omega) B hB),rfd 3 (fun _=>zT (p:=1) rfl) rfl,rld rfl fun _ hb=>(bl (v:= iv z1) ((st.bk 1 rfl).below hb) rfl),rb st be 2 0 rfl,trivial⟩ ?_
 intro a w3 hF bb hall
 replace st:=st.to bb
 replace hF:=rE hall hF 2 rfl rfl
 replace hF:=rE hall hF 4 rfl rfl
 replace hF:=rE hall hF 5 rfl rfl
 clear hall bb
 refine cX st hF (rgc k94 (aL hF.p hF.o)) (tf z1 xa xb xc xd _ (hT.below st.bel) (by first|assumption|constructor<;>omega) hc1 (by omega) (by omega) B2 hB2) rfl fun w4 a st hF=>?_
 refine oE hF 3 rfl rfl fun a hF=>oE hF 1 rfl rfl fun a hF=>nr ?_
 have bel:=st.bel
 refine bodyPost_ret (eJ Tryz.results98 hF.p hF.o) hF.dfr ?_
 exact⟨rfl,bel⟩
theorem gj (z00:Int) (z10:Int) (z30:Int) (w:World):(Instr.build 83 #[(0,iv z00),(1,iv z10),(3,iv z30)]).run Tryz.prog w= .ok (.agg #[iv z00,iv z10,.bool false,iv z30,.bool false]) w:=by
 have hz:=dr zu w
 have h_bool:∀w,(sizeOf 4).run Tryz.prog w= .ok 1 w:=fun w=>bh fb w
 have h_int:∀w,(sizeOf 3).run Tryz.prog w= .ok 1 w:=fun w=>bh gV w
 have h_i64:∀w,(sizeOf 2).run Tryz.prog w= .ok 1 w:=fun w=>bh dz w
 simp only [Instr.build,Sem.run_bind,hz,Result.andThen_ok,run_underlying Tryz.underlying83,List.mapM_toArray,List.mapM_cons,List.mapM_nil,Sem.run_map,h_bool,h_i64,h_int,Sem.run_pure]
 rfl
theorem xg (y xa xb xc xd:Int) (w:World):
 CV 96 #[iv y,.agg #[iv xa,iv xb,iv xc,iv xd]] w (iv (ff y 1 1 xa xb xc xd)):=by
 refine gs2 (nt:=9) Tryz.func96 rfl rfl rfl fun a st hF=>wq<|bx st hF 1 rfl rfl fun g3 w1 a st hF=>?_
 refine oC hF rfl fun a hF=>nq<|oM hF 2 rfl rfl fun a hF=>oV hF (bn (lX hF.o ao ao) (gj _ _ _ _)) rfl fun a hF=>oL hF st 3 0 be rfl rfl rfl rfl fun a hF=>cX st hF (rgc rf (aL hF.p hF.o)) (hO y 1 false 1 false xa xb xc xd _) rfl fun w2 a st hF=>?_
 refine oE hF 0 rfl rfl fun a hF=>nr ?_
 have bel:=st.bel
 refine rt Tryz.results96 hF 0 rfl ?_
 exact⟨rfl,bel⟩
theorem vj {v1:Value} {qt:Rat} {k:Nat} {fd:Int} (w:World) (hT:bE w) (h1:Rq w v1 qt) (hl:av qt k) (hk:k<=100) (hf0: -90000000<=Rat.floor qt) (hf1:Rat.floor qt<=90000000) (e:aA qt=fd):CV 39 #[v1] w (.agg #[iv fd,iv (aw fd),iv (smV fd%12),iv (smV (aw fd)%12)]):=by
 subst e
 exact ug v1 qt k w hT h1 hl hk hf0 hf1
theorem IK (y:Int) (N:Nat) (w:World) (hT:bE w) (hy0: -9000<=y) (hy1:y<=9000) (hN:yrN (fiS y 1)=N):
 CP 97 #[iv y] w (fun e w'=>∃ad cap,e= .returned (.slice ad N cap)/\dW w' 4 72 w.heap.size (.slice ad N cap) N (iJ (inL y))/\Below w.heap.size w w'):=by
 obtain⟨d0,hd0⟩:∃z:Int,aA (((fiE y 1-5:Int)):Rat)=z:=⟨_,rfl⟩
 have hin:=Lh y
 rw[hd0] at hin
 have hdc:=hin.2.2
 have hdy:=hin.2.1
 have hfa:=ju (m:=1) hy0 hy1 (by decide) (by decide)
 have hfb:=ju (m:=12) hy0 hy1 (by decide) (by decide)
 have hdx:d0<=3500000:=by have s:=kJ y 1;rw[hd0] at s;omega
 have hnx0:aw d0<=d0+31/\d0+28<=aw d0:=by have s:=bC hdc;omega
 refine gs1 (nt:=32) Tryz.func97 rfl rfl rfl fun a st hF=>wq ?_
 refine oC hF rfl fun a hF=>nq ?_
 obtain⟨glu1,w2,ge,hr,bb,hpa⟩:=NX w w.heap.size st.bel.size
 refine oV hF (bO (by simp) hr) rfl fun a hF=>?_
 replace st:=(st.to bb).grow0 hpa cU.gc cU.gl (st.gnew ge)
 clear hr bb hpa ge
 refine oA hF 0 rfl rfl fun a hF=>nq<|oM hF 3 rfl rfl fun a hF=>?_
 refine SG.callx st hF (rgc DP (aL hF.o ao)) (jr y 1 _ (by omega) (by omega) (by omega) (by omega)) rfl rfl rfl rfl fun w3 a st hF=>?_
 refine oV hF (aq hF.o ao aa (bB (by omega) (by omega))) rfl fun a hF=>?_
 refine SG.ck st hF (rgc k40 (aG hF.o)) dM Rl.cl rfl fun vv5 w4 a st hF=>?_
 obtain⟨r7,rfl⟩:=Rq.fo (st.f 0 rfl).1
 refine SG.new st hF 0 rfl ab rfl rfl rfl rfl rfl fun g4 w8 a st hF=>?_
 refine nq<|oM hF 8 rfl rfl fun a hF=>?_
 refine SG.callx st hF (rgc DP (aL hF.o ao)) (jr y 12 _ (by omega) (by omega) (by omega) (by omega)) rfl rfl rfl rfl fun w9 a st hF=>?_
 refine oV hF (aq hF.o ao aa (aX (by omega) (by omega))) rfl fun a hF=>oA hF 0 rfl rfl fun a hF=>ns<|wq<|oV hF (ar (hF.at 4 rfl) (bK ab (st.bk 0 rfl) rfl)) rfl fun a hF=>?_
 refine SG.callx st hF (rgc k39 (aG hF.o)) (vj _ (hT.below st.bel) (st.f 0 rfl).1 (st.f 0 rfl).2 (by omega) (by rw[Rat.floor_intCast];omega) (by rw[Rat.floor_intCast];omega) hd0) rfl rfl rfl rfl fun w10 a st hF=>?_
 refine SG.new st hF 0 rfl bV rfl rfl rfl rfl rfl fun g6 w11 a st hF=>?_
 refine E.nil<|wp_block ?_
 refine E.loop (fun mq a wv=>∃(k:Nat) (n:Nat) (la:Option Addr) (lc:Nat) (g6:Nat),n=(inU y d0 k).length /\Fr 32 a [(6,.pointer (some ⟨g6,0,none⟩)),(5,iv ((fiE y 12)+40)),(3,.slice la n lc),(2,.slice none 0 0),(0,iv y)]/\Sg w wv [(g6,[iv (moD d0 k),iv (moD d0 (k+1)),iv (smV (moD d0 k)%12),iv (smV (moD d0 (k+1))%12)])] [] (.slice la n lc) (fun wx=>cU wx 4 72 w.heap.size (.slice la n lc) n (iJ (inU y d0 k)))/\mq=(fiE y 12+41-moD d0 k).toNat) ((fiE y 12+41-moD d0 0).toNat) ?_ ?_
 ·exact⟨0,0,(some ⟨glu1,0,none⟩),0,g6,rfl,Fr.pick (L':=[(6,.pointer (some ⟨g6,0,none⟩)),(5,iv ((fiE y 12)+40)),(3,.slice (some ⟨glu1,0,none⟩) 0 0),(2,.slice none 0 0),(0,iv y)]) hF [0,3,12,14,15] rfl,((st.pick [0] [] rfl rfl (by decide)).cast rfl),rfl⟩
 ·rintro mq a w12 ⟨k,n,la,lc,g6,hn,hF,st,hm⟩
  have hul:=Cd y d0 k
  have hmu:=RN hdc k
  have hmx:moD d0 k+28<=moD d0 (k+1)/\moD d0 (k+1)<=moD d0 k+31:=by have s:=bC (iR hdc k);show _<=aw _/\aw _<=_;omega
  rw[<-hn] at hul
  refine wp_seq<|wq<|oV hF (az hF.o (jD (p:=0) rfl)) rfl fun a hF=>oV hF (ar hF.o (bl (v:= iv (moD d0 k)) (st.bk 0 rfl) rfl)) rfl fun a hF=>oM hF 3 rfl rfl fun a hF=>?_
  by_cases hc13:moD d0 k<=fiE y 12+40
  ·refine oU hF 1 0 (cg (c:=true) (aI (hc13))) rfl rfl rfl fun a hF=>E.nil<|wp_cond_true hF.o<|wp_skip<|E.norm<|wp_seq<|wp_block<|wq<|oV hF (ar (hF.at 4 rfl) (bK bV (st.bk 0 rfl) rfl)) rfl fun a hF=>oM hF 9 rfl rfl fun a hF=>?_
   by_cases hc14:inB y (moD d0 k)=true
   ·refine SG.callx st hF (rgc OA (aL hF.p hF.o)) (xj (moD d0 k) (moD d0 (k+1)) (smV (moD d0 k)%12) (smV (moD d0 (k+1))%12) y _ hy0 hy1 (by omega) (by omega) ((tQ y (moD d0 k)).1 hc14).1 ((tQ y (moD d0 k)).1 hc14).2) rfl rfl rfl rfl fun w15 a st hF=>?_
    refine E.nil<|wp_cond_true hF.o<|E.seq<|oM hF 9 rfl rfl fun a hF=>oV hF (ar (hF.at 8 rfl) (bK bV (st.bk 0 rfl) rfl)) rfl fun a hF=>?_
    obtain⟨glu16,w17,hr,ge,bb,hbk⟩:=RG w15 _ _ _ _
    refine oV hF (bO (eQ hF.o) hr) rfl fun a hF=>?_
    replace st:=st.new ge bb hbk
    clear hr bb hbk ge
    obtain⟨lau18,lcu18,w19,hr,hpa,gg,bb,ku,hne⟩:=PD st.g (st.bk 0 rfl) (by omega) st.bel.size
    refine oV hF (aW (aL hF.q hF.o) hr) rfl fun a hF=>?_
    replace st:=st.grow gg bb ku tY hpa cU.gc cU.gl hne
    clear hr gg bb ku hne hpa
    refine oE hF 0 rfl rfl fun a hF=>E.nil0<|E.blk<|E.norm<|wp_seq<|wq<|oV hF (ar (hF.at 12 rfl) (bK bV (st.bk 1 rfl) rfl)) rfl fun a hF=>E.nil<|E.seq ?_
    replace hF:=Fr.pick (L':=[(30,.agg #[iv (moD d0 k),iv (moD d0 (k+1)),iv (smV (moD d0 k)%12),iv (smV (moD d0 (k+1))%12)]),(3,.slice lau18 (n+1) lcu18),(29,.slice lau18 (n+1) lcu18),(28,.slice (some ⟨glu16,0,none⟩) 1 1),(27,.agg #[iv (moD d0 k),iv (moD d0 (k+1)),iv (smV (moD d0 k)%12),iv (smV (moD d0 (k+1))%12)]),(26,.slice la n lc),(25,.bool true),(24,iv y),(23,.agg #[iv (moD d0 k),iv (moD d0 (k+1)),iv (smV (moD d0 k)%12),iv (smV (moD d0 (k+1))%12)]),(20,.bool true),(19,iv ((fiE y 12)+40)),(18,iv (moD d0 k)),(17,.pointer (some ⟨g6,0,none⟩)),(5,iv ((fiE y 12)+40)),(2,.slice none 0 0),(0,iv y)]) hF [0,1,2,3,4,5,6,7,8,9,10,11,12,14,15,16] rfl
    refine SG.new st hF 0 rfl bV rfl rfl rfl rfl rfl fun g6 w20 a st hF=>?_
    refine E.nil<|E.seq<|oV hF (ar hF.o (bK bV (st.bk 0 rfl) rfl)) rfl fun a hF=>?_
    refine SG.callx st hF (rgc OJ (aG hF.o)) (nK (moD d0 k) (moD d0 (k+1)) (smV (moD d0 k)%12) (smV (moD d0 (k+1))%12) _ (hT.below st.bel) (by omega) (by omega) (iR hdc (k+1))) rfl rfl rfl rfl fun w21 a st hF=>?_
    refine SG.stoIU st hF 0 rfl rfl tY hF.q hF.o bV rfl rfl rfl fun w22 a st hF=>?_
    refine E.nil0<|E.norm ?_
    exact⟨(fiE y 12+41-moD d0 (k+1)).toNat,by omega,⟨(k+1),(n+1),lau18,lcu18,g6,(by rw[rR hc14,List.length_append,<-hn];rfl),Fr.pick (L':=[(6,.pointer (some ⟨g6,0,none⟩)),(5,iv ((fiE y 12)+40)),(3,.slice lau18 (n+1) lcu18),(2,.slice none 0 0),(0,iv y)]) hF [2,16,4,17,18] rfl,((st.pick [0] [] rfl rfl (by decide)).cast (by rw[rR hc14,tO];rfl)),rfl⟩⟩
   ·refine SG.callx st hF (rgc OA (aL hF.p hF.o)) (wZ (moD d0 k) (moD d0 (k+1)) (smV (moD d0 k)%12) (smV (moD d0 (k+1))%12) y _ hy0 hy1 (by omega) (by omega) (fun e=>hc14 ((tQ y (moD d0 k)).2 e))) rfl rfl rfl rfl fun w23 a st hF=>?_
    refine E.nil<|wp_cond_false hF.o<|wp_skip<|E.blk<|E.norm<|wp_seq<|wq<|oV hF (ar (hF.at 7 rfl) (bK bV (st.bk 0 rfl) rfl)) rfl fun a hF=>E.nil<|E.seq ?_
    replace hF:=Fr.pick (L':=[(30,.agg #[iv (moD d0 k),iv (moD d0 (k+1)),iv (smV (moD d0 k)%12),iv (smV (moD d0 (k+1))%12)]),(25,.bool false),(24,iv y),(23,.agg #[iv (moD d0 k),iv (moD d0 (k+1)),iv (smV (moD d0 k)%12),iv (smV (moD d0 (k+1))%12)]),(20,.bool true),(19,iv ((fiE y 12)+40)),(18,iv (moD d0 k)),(17,.pointer (some ⟨g6,0,none⟩)),(5,iv ((fiE y 12)+40)),(3,.slice la n lc),(2,.slice none 0 0),(0,iv y)]) hF [0,1,2,3,4,5,6,7,9,10,11,12] rfl
    refine SG.new st hF 0 rfl bV rfl rfl rfl rfl rfl fun g6 w24 a st hF=>?_
    refine E.nil<|E.seq<|oV hF (ar hF.o (bK bV (st.bk 0 rfl) rfl)) rfl fun a hF=>?_
    refine SG.callx st hF (rgc OJ (aG hF.o)) (nK (moD d0 k) (moD d0 (k+1)) (smV (moD d0 k)%12) (smV (moD d0 (k+1))%12) _ (hT.below st.bel) (by omega) (by omega) (iR hdc (k+1))) rfl rfl rfl rfl fun w25 a st hF=>?_
    refine SG.stoIU st hF 0 rfl rfl tY hF.q hF.o bV rfl rfl rfl fun w26 a st hF=>?_
    refine E.nil0<|E.norm ?_
    exact⟨(fiE y 12+41-moD d0 (k+1)).toNat,by omega,⟨(k+1),n,la,lc,g6,(by rw[qJ hc14];exact hn),Fr.pick (L':=[(6,.pointer (some ⟨g6,0,none⟩)),(5,iv ((fiE y 12)+40)),(3,.slice la n lc),(2,.slice none 0 0),(0,iv y)]) hF [2,11,12,13,14] rfl,((st.pick [0] [] rfl rfl (by decide)).cast (by rw[qJ hc14])),rfl⟩⟩
  ·refine oU hF 1 0 (cg (c:=false) (aJ (hc13))) rfl rfl rfl fun a hF=>E.nil<|wp_cond_false hF.o<|wp_exit<|E.past<|E.past<|E.out (id:=0)<|E.norm<|wq ?_
   refine oM hF 6 rfl rfl fun a hF=>oE hF 0 rfl rfl fun a hF=>nr ?_
   have bel:=st.bel
   refine rt Tryz.results97 hF 0 rfl ?_
   have e1:inU y d0 k=inL y:=NM hdc hdy (MX (Int.not_le.1 hc13))
   have e2:n=N:=by rw[hn,e1,Bw,hN]
   subst e2
   exact⟨_,_,rfl,e1▸st.g.1,bel⟩
end Go.Proofs.YtgdpkknapcgcbaaGreatDoor
