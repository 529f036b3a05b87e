import Derived.Test.YtgdpkknapcgcbaaGreatDoorKD39
namespace Go.Proofs.YtgdpkknapcgcbaaGreatDoor
open Go.RowKit
set_option maxRecDepth 100000
set_option linter.unusedVariables false
set_option maxHeartbeats 8000000
theorem cd.gl {m T base n:Nat} {v:Value} {rs:List Value}:∀w,cd w m T base v n rs->∀b,v.ownBlock=some b->base<=b/\b<w.heap.size:=fun _ h=>h.lt
def xq (base:Nat) (cs:List Value) (w:World) (v:Value):Prop:=∃g,v= .slice (some ⟨g,0,none⟩) 1 1/\base<=g/\Blk w g cs
theorem xq.mb {base:Nat} {cs:List Value}:Mb (xq base cs):=fun _ _ _ ⟨g,e,l,h⟩ hb=>⟨g,e,l,h.below hb⟩
theorem Et:∃i z,Tryz.prog.info? 81=some i/\i.zero=some z/\i.size=4/\i.bytes=32/\z.cells.size=4/\∀u∈z.cells.toList,noU u:=by
 have h1:(Tryz.prog.info? 81).map (·.size)=some 4:=by kernel_rfl
 have h2:(Tryz.prog.info? 81).bind (·.zero)=some (.agg #[Value.int .i64 0,Value.bool false,Value.int .i64 0,Value.int .i64 0]):=by kernel_rfl
 have h3:(Tryz.prog.info? 81).map (·.bytes)=some 32:=by kernel_rfl
 cases hq:Tryz.prog.info? 81 with
 |none=>rw[hq] at h1;cases h1
 |some i=>exact⟨i,.agg #[Value.int .i64 0,Value.bool false,Value.int .i64 0,Value.int .i64 0],rfl,by simpa[hq] using h2,by simpa[hq] using h1,by simpa[hq] using h3,rfl,(show ∀u∈[Value.int .i64 0,Value.bool false,Value.int .i64 0,Value.int .i64 0],noU u from(nuC nuI (nuC nuB (nuC nuI (nuC nuI nu0)))))⟩
theorem zw (w:World) (base:Nat) (hb:base<=w.heap.size):∃g w',w.heap.size=g/\(Instr.buildSlice 77 0 #[]).run Tryz.prog w= .ok (.slice (some ⟨g,0,none⟩) 0 0) w'/\Below w.heap.size w w'/\cd w' 4 81 base (.slice (some ⟨g,0,none⟩) 0 0) 0 []:=by
 have hn:=gi (w:=w) (cs:=[]) 81
 refine⟨w.heap.size,w.alloc (.cells #[] 81),rfl,?_,hn.2,⟨⟨rfl,.inr ⟨w.heap.size,0,#[],rfl,hb,heap_alloc_new w _,Nat.le_refl _,Nat.zero_le _,rfl,rfl⟩⟩,fun g e=>?_⟩⟩
 ·have hs:=a8 (P:=Tryz.prog) (T:=81) (n:=4) pe w
  simp[Instr.buildSlice,go_sem,hs,Instr.fill,newRow]
 ·injection e with e
  subst e
  exact iT (cs:=[]) (heap_alloc_new w _) nu0
theorem s3 {w:World} {base:Nat} {v:Value} {n:Nat} {rs:List Value} (h:cd w 4 81 base v n rs) {gs:Nat} {z0:Int} {z1:Bool} {z2:Int} {z3:Int} (hs:Blk w gs [iv z0,.bool z1,iv z2,iv z3]) (hl:n<=1000000) (bel:base<=w.heap.size) {ty:TypeId}:
 ∃ad cap w',(builtin .append #[77,77] ty #[false,false] #[v,.slice (some ⟨gs,0,none⟩) 1 1]).run Tryz.prog w= .ok (.value (.slice ad (n+1) cap)) w'/\cd w' 4 81 base (.slice ad (n+1) cap) (n+1) (rs++[iv z0,.bool z1,iv z2,iv z3])/\w.grownBy w' v.ownBlock/\Below base w w'/\ig w w'/\∀b,b<w.heap.size->v.ownBlock≠some b->(Value.slice ad (n+1) cap).ownBlock ≠some b:=
 cd.put Tryz.underlying77 Et (by decide) (by decide) h hs (nuC nuI (nuC nuB (nuC nuI (nuC nuI nu0)))) rfl (ocI (ocB (ocI (ocI oc0)))) hl bel
theorem xg (w:World) (z0:Int) (z1:Bool) (z2:Int) (z3:Int):∃g w',(Instr.buildSlice 77 1 #[(0,.agg #[iv z0,.bool z1,iv z2,iv z3])]).run Tryz.prog w= .ok (.slice (some ⟨g,0,none⟩) 1 1) w'/\w.heap.size=g/\Below w.heap.size w w'/\Blk w' g [iv z0,.bool z1,iv z2,iv z3]:=by
 have hb:=gi (w:=w) (cs:=[iv z0,.bool z1,iv z2,iv z3]) 81
 refine⟨w.heap.size,w.alloc (.cells #[iv z0,.bool z1,iv z2,iv z3] 81),?_,rfl,hb.2,hb.1⟩
 have hs:=a8 (P:=Tryz.prog) (T:=81) (n:=4) pe w
 simp[Instr.buildSlice,go_sem,hs,Instr.fill,Value.cells,newRow]
theorem Eo:∃i z,Tryz.prog.info? 72=some i/\i.zero=some z/\i.size=4/\i.bytes=32/\z.cells.size=4/\∀u∈z.cells.toList,noU u:=by
 have h1:(Tryz.prog.info? 72).map (·.size)=some 4:=by kernel_rfl
 have h2:(Tryz.prog.info? 72).bind (·.zero)=some (.agg #[Value.int .i64 0,Value.int .i64 0,Value.int .i64 0,Value.int .i64 0]):=by kernel_rfl
 have h3:(Tryz.prog.info? 72).map (·.bytes)=some 32:=by kernel_rfl
 cases hq:Tryz.prog.info? 72 with
 |none=>rw[hq] at h1;cases h1
 |some i=>exact⟨i,.agg #[Value.int .i64 0,Value.int .i64 0,Value.int .i64 0,Value.int .i64 0],rfl,by simpa[hq] using h2,by simpa[hq] using h1,by simpa[hq] using h3,rfl,(show ∀u∈[Value.int .i64 0,Value.int .i64 0,Value.int .i64 0,Value.int .i64 0],noU u from(nuC nuI (nuC nuI (nuC nuI (nuC nuI nu0)))))⟩
theorem FV (w:World) (base:Nat) (hb:base<=w.heap.size):∃g w',w.heap.size=g/\(Instr.buildSlice 139 0 #[]).run Tryz.prog w= .ok (.slice (some ⟨g,0,none⟩) 0 0) w'/\Below w.heap.size w w'/\cd w' 4 72 base (.slice (some ⟨g,0,none⟩) 0 0) 0 []:=by
 have hn:=gi (w:=w) (cs:=[]) 72
 refine⟨w.heap.size,w.alloc (.cells #[] 72),rfl,?_,hn.2,⟨⟨rfl,.inr ⟨w.heap.size,0,#[],rfl,hb,heap_alloc_new w _,Nat.le_refl _,Nat.zero_le _,rfl,rfl⟩⟩,fun g e=>?_⟩⟩
 ·have hs:=a8 (P:=Tryz.prog) (T:=72) (n:=4) oX w
  simp[Instr.buildSlice,go_sem,hs,Instr.fill,newRow]
 ·injection e with e
  subst e
  exact iT (cs:=[]) (heap_alloc_new w _) nu0
theorem GC {w:World} {base:Nat} {v:Value} {n:Nat} {rs:List Value} (h:cd w 4 72 base v n rs) {gs:Nat} {z0:Int} {z1:Int} {z2:Int} {z3:Int} (hs:Blk w gs [iv z0,iv z1,iv z2,iv z3]) (hl:n<=1000000) (bel:base<=w.heap.size) {ty:TypeId}:
 ∃ad cap w',(builtin .append #[139,139] ty #[false,false] #[v,.slice (some ⟨gs,0,none⟩) 1 1]).run Tryz.prog w= .ok (.value (.slice ad (n+1) cap)) w'/\cd w' 4 72 base (.slice ad (n+1) cap) (n+1) (rs++[iv z0,iv z1,iv z2,iv z3])/\w.grownBy w' v.ownBlock/\Below base w w'/\ig w w'/\∀b,b<w.heap.size->v.ownBlock≠some b->(Value.slice ad (n+1) cap).ownBlock ≠some b:=
 cd.put Tryz.underlying139 Eo (by decide) (by decide) h hs (nuC nuI (nuC nuI (nuC nuI (nuC nuI nu0)))) rfl (ocI (ocI (ocI (ocI oc0)))) hl bel
theorem H8 (w:World) (z0:Int) (z1:Int) (z2:Int) (z3:Int):∃g w',(Instr.buildSlice 139 1 #[(0,.agg #[iv z0,iv z1,iv z2,iv z3])]).run Tryz.prog w= .ok (.slice (some ⟨g,0,none⟩) 1 1) w'/\w.heap.size=g/\Below w.heap.size w w'/\Blk w' g [iv z0,iv z1,iv z2,iv z3]:=by
 have hb:=gi (w:=w) (cs:=[iv z0,iv z1,iv z2,iv z3]) 72
 refine⟨w.heap.size,w.alloc (.cells #[iv z0,iv z1,iv z2,iv z3] 72),?_,rfl,hb.2,hb.1⟩
 have hs:=a8 (P:=Tryz.prog) (T:=72) (n:=4) oX w
 simp[Instr.buildSlice,go_sem,hs,Instr.fill,Value.cells,newRow]
theorem mY (z0 xa xb xc xd:Int) (w:World) (hT:aY w) (hok:aZ xa xb xc xd) (hc:aF z0=true) (hz0: -3800000<=z0) (hz1:z0<=3800000) (B:Int) (hB:beV xa xb xc xd z0=B):
 CV 94 #[iv z0,.agg #[iv xa,iv xb,iv xc,iv xd]] w (iv B):=by
 have hbi:=fun t=>ph hok hc t
 have hbn:=kk hok hc
 rw[hB] at hbn
 simp only [hB] at hbi
 have heq:∀t,t=B->amL t xa xb xc xd=z0:=fun t e=>by rw[e,<-hB];exact wC hok hc
 refine gs2 (nt:=21) Tryz.func94 rfl rfl rfl fun a st hF=>wq<|bx st hF 1 rfl rfl fun g3 w1 a st hF=>?_
 refine oC hF rfl fun a hF=>ns<|wq<|oC hF rfl fun a hF=>E.nil<|wp_block ?_
 refine E.loop (fun mq a wv=>∃(j:Int), -1<=j/\j<=3/\z0+j<=B/\Fr 21 a [(5,iv j),(3,.pointer (some ⟨g3,0,none⟩)),(0,iv z0)]/\St w wv [(g3,[iv xa,iv xb,iv xc,iv xd])] []/\mq=(3-j:Int).toNat) ((3-((-1)):Int).toNat) ?_ ?_
 ·exact⟨((-1):Int),(by omega),(by omega),(by omega),Fr.pick (L':=[(5,iv (-1)),(3,.pointer (some ⟨g3,0,none⟩)),(0,iv z0)]) hF [0,2,3] rfl,st.pick [0] [] rfl rfl (by decide),rfl⟩
 ·rintro mq a w2 ⟨j,hj0,hj3,hjB,hF,st,hm⟩
  refine wp_seq<|wq<|oM hF 0 rfl rfl fun a hF=>?_
  by_cases hc3:j<=2
  ·first
   |(exfalso;omega)
   |(refine oT hF 0 (bP (c:=true) (aJ hc3)) rfl rfl fun a hF=>?_
     refine E.nil<|wp_cond_true hF.o<|wp_skip<|E.norm<|wp_seq<|wp_block<|wq ?_
     refine oM hF 4 rfl rfl fun a hF=>oM hF 3 rfl rfl fun a hF=>oV hF (ao hF.p hF.o ab (aU (by omega) (by omega))) rfl fun a hF=>oA hF 0 rfl rfl fun a hF=>nq<|oM hF 0 rfl rfl fun a hF=>oL hF st 8 0 aO rfl rfl rfl rfl fun a hF=>S.ck st hF (rgc k55 (aK hF.p hF.o)) (aB (eX (z0+j) xa xb xc xd _ (hT.below st.bel) (by first|assumption|constructor<;>omega) (by omega) (by omega)) (fX (by first|assumption|constructor<;>omega) (by omega) (by omega))) Rl.cl rfl fun vv5 w4 a st hF=>?_
     obtain⟨r7,rfl⟩:=Rq.fo (st.f 0 rfl).1
     refine cX st hF (rgc k92 (aC hF.o)) (oQ _ _ 3 _ (hT.below st.bel) (st.f 0 rfl).1 (st.f 0 rfl).2 (by omega) (by have:=ru hok (z0+j);omega) (by have:=ru hok (z0+j);omega)) rfl fun w8 a st hF=>oM hF 12 rfl rfl fun a hF=>?_
     by_cases hc9:amL (z0+j) xa xb xc xd=z0
     ·first
      |(exfalso;omega)
      |(refine oU hF 1 0 (bq (c:=true) (aJ hc9)) rfl rfl rfl fun a hF=>?_
        refine E.nil<|wp_cond_true hF.o<|wq ?_
        refine oM hF 6 rfl rfl fun a hF=>oA hF 0 rfl rfl fun a hF=>nr ?_
        have bel:=st.bel
        refine rt Tryz.results94 hF 0 rfl ?_
        have:=hbi (z0+j)
        exact⟨bU (by omega),bel⟩)
     ·first
      |(exfalso;omega)
      |(refine oU hF 1 0 (bq (c:=false) (aH hc9)) rfl rfl rfl fun a hF=>?_
        refine E.nil<|wp_cond_false hF.o<|wp_skip<|E.blk<|E.norm<|E.seq<|oM hF 12 rfl rfl fun a hF=>oV hF (ao hF.o ah ab (aU (by omega) (by omega))) rfl fun a hF=>oE hF 0 rfl rfl fun a hF=>E.nil0<|E.norm ?_
        exact⟨(3-(j+1):Int).toNat,by omega,⟨(j+1:Int),(by omega),(by omega),(by have:=heq (z0+j);omega),Fr.pick (L':=[(5,iv (j+1)),(3,.pointer (some ⟨g3,0,none⟩)),(0,iv z0)]) hF [0,15,16] rfl,st.pick [0] [] rfl rfl (by decide),rfl⟩⟩))
  ·first
   |(exfalso;omega)
   |(refine oT hF 0 (bP (c:=false) (aH hc3)) rfl rfl fun a hF=>?_
     refine E.nil<|wp_cond_false hF.o<|wp_exit<|E.past<|E.past<|E.out (id:=0)<|E.norm<|wq ?_
     refine oC hF rfl fun a hF=>nr ?_
     have bel:=st.bel
     refine rt Tryz.results94 hF 0 rfl ?_
     exfalso;omega)
theorem uf (z0 z1 z2 z3 xa xb xc xd:Int) (w:World) (hT:aY w) (hok:aZ xa xb xc xd) (hc:aF z0=true) (hz0: -3800000<=z0) (hz1:z0<=3800000) (B:Int) (hB:beV xa xb xc xd z0=B):
 CV 41 #[.agg #[iv z0,iv z1,iv z2,iv z3],.agg #[iv xa,iv xb,iv xc,iv xd]] w (iv B):=by
 refine gs2 (nt:=9) Tryz.func41 rfl rfl rfl fun a st hF=>wq<|bx st hF 0 rfl rfl fun g2 w1 a st hF=>bx st hF 2 rfl rfl fun g3 w2 a st hF=>?_
 refine oC hF rfl fun a hF=>nq<|oV hF (au hF.q (gX (p:=0) rfl)) rfl fun a hF=>oV hF (ar hF.o (bi (v:= iv z0) (st.bk 1 rfl) rfl)) rfl fun a hF=>oL hF st 3 0 aO rfl rfl rfl rfl fun a hF=>cX st hF (rgc k94 (aK hF.p hF.o)) (mY z0 xa xb xc xd _ (hT.below st.bel) (by first|assumption|constructor<;>omega) hc (by omega) (by omega) B hB) rfl fun w3 a st hF=>?_
 refine oE hF 0 rfl rfl fun a hF=>nr ?_
 have bel:=st.bel
 refine rt Tryz.results41 hF 0 rfl ?_
 exact⟨rfl,bel⟩
theorem wI (z0 z1 z2 z3 xa xb xc xd:Int) (w:World) (hT:aY w) (hok:aZ xa xb xc xd) (hc:aF z0=true) (hz0: -3700000<=z0) (hz1:z0<=3700000) (hn:az z0=z1) (B B2:Int) (hB:beV xa xb xc xd z0=B) (hB2:beV xa xb xc xd z1=B2):
 CV 98 #[.agg #[iv z0,iv z1,iv z2,iv z3],.agg #[iv xa,iv xb,iv xc,iv xd]] w (.tuple #[iv B,iv B2]):=by
 have hns:=bD hc
 rw[hn] at hns
 have hc1:=hns.2.2.1
 refine gs2 (nt:=13) Tryz.func98 rfl rfl rfl fun a st hF=>wq<|bx st hF 0 rfl rfl fun g2 w1 a st hF=>bx st hF 2 rfl rfl fun g3 w2 a st hF=>?_
 refine oC hF rfl fun a hF=>oC hF rfl fun a hF=>ns ?_
 refine E.rg 6 aI hF [6,7,8,9,10,11] [_,_,_,_,_,_] (by decide+kernel) rfl rfl rfl ⟨rb st bN 3 1 rfl,rb st aO 2 0 rfl,ck st k41 rfl fun _ s=>bJ (uf z0 z1 z2 z3 xa xb xc xd _ (hT.below s.bel) (by first|assumption|constructor<;>omega) hc (by omega) (by omega) B hB),rfd 3 (fun _=>rI (p:=1) rfl) rfl,rld rfl fun _ hb=>(bi (v:= iv z1) ((st.bk 1 rfl).below hb) rfl),rb st aO 2 0 rfl,trivial⟩ ?_
 intro a w3 hF bb hall
 replace st:=st.to bb
 replace hF:=rE hall hF 2 rfl rfl
 replace hF:=rE hall hF 4 rfl rfl
 replace hF:=rE hall hF 5 rfl rfl
 clear hall bb
 refine cX st hF (rgc k94 (aK hF.p hF.o)) (mY z1 xa xb xc xd _ (hT.below st.bel) (by first|assumption|constructor<;>omega) hc1 (by omega) (by omega) B2 hB2) rfl fun w4 a st hF=>?_
 refine oE hF 3 rfl rfl fun a hF=>oE hF 1 rfl rfl fun a hF=>nr ?_
 have bel:=st.bel
 refine bodyPost_ret (fA Tryz.results98 hF.p hF.o) hF.dfr ?_
 exact⟨rfl,bel⟩
theorem oB (z00:Int) (z10:Int) (z30:Int) (w:World):(Instr.build 83 #[(0,iv z00),(1,iv z10),(3,iv z30)]).run Tryz.prog w= .ok (.agg #[iv z00,iv z10,.bool false,iv z30,.bool false]) w:=by
 have hz:=cW rM w
 have h_bool:∀w,(sizeOf 4).run Tryz.prog w= .ok 1 w:=fun w=>a8 gq w
 have h_int:∀w,(sizeOf 3).run Tryz.prog w= .ok 1 w:=fun w=>a8 fb w
 have h_i64:∀w,(sizeOf 2).run Tryz.prog w= .ok 1 w:=fun w=>a8 cD w
 simp only [Instr.build,Sem.run_bind,hz,Result.andThen_ok,run_underlying Tryz.underlying83,List.mapM_toArray,List.mapM_cons,List.mapM_nil,Sem.run_map,h_bool,h_i64,h_int,Sem.run_pure]
 rfl
theorem lA (y xa xb xc xd:Int) (w:World):
 CV 96 #[iv y,.agg #[iv xa,iv xb,iv xc,iv xd]] w (iv (eu y 1 1 xa xb xc xd)):=by
 refine gs2 (nt:=9) Tryz.func96 rfl rfl rfl fun a st hF=>wq<|bx st hF 1 rfl rfl fun g3 w1 a st hF=>?_
 refine oC hF rfl fun a hF=>nq<|oM hF 2 rfl rfl fun a hF=>oV hF (bB (lv hF.o ah ah) (oB _ _ _ _)) rfl fun a hF=>oL hF st 3 0 aO rfl rfl rfl rfl fun a hF=>cX st hF (rgc E6 (aK hF.p hF.o)) (qD y 1 false 1 false xa xb xc xd _) rfl fun w2 a st hF=>?_
 refine oE hF 0 rfl rfl fun a hF=>nr ?_
 have bel:=st.bel
 refine rt Tryz.results96 hF 0 rfl ?_
 exact⟨rfl,bel⟩
theorem ED {v1:Value} {qt:Rat} {k:Nat} {fd:Int} (w:World) (hT:aY w) (h1:Rq w v1 qt) (hl:ag qt k) (hk:k<=100) (hf0: -90000000<=Rat.floor qt) (hf1:Rat.floor qt<=90000000) (e:bm qt=fd):CV 39 #[v1] w (.agg #[iv fd,iv (az fd),iv (smV fd%12),iv (smV (az fd)%12)]):=by
 subst e
 exact sF v1 qt k w hT h1 hl hk hf0 hf1
theorem Ai (y:Int) (N:Nat) (w:World) (hT:aY w) (hy0: -9000<=y) (hy1:y<=9000) (hN:yrN (fiS y 1)=N):
 CP 97 #[iv y] w (fun e w'=>∃ad cap,e= .returned (.slice ad N cap)/\kV w' 4 72 w.heap.size (.slice ad N cap) N (gZ (inL y))/\Below w.heap.size w w'):=by
 obtain⟨d0,hd0⟩:∃z:Int,bm (((fiE y 1-5:Int)):Rat)=z:=⟨_,rfl⟩
 have hin:=Ea y
 rw[hd0] at hin
 have hdc:=hin.2.2
 have hdy:=hin.2.1
 have hfa:=kD (m:=1) hy0 hy1 (by decide) (by decide)
 have hfb:=kD (m:=12) hy0 hy1 (by decide) (by decide)
 have hdx:d0<=3500000:=by have s:=sl y 1;rw[hd0] at s;omega
 have hnx0:az d0<=d0+31/\d0+28<=az d0:=by have s:=bD hdc;omega
 refine gs1 (nt:=32) Tryz.func97 rfl rfl rfl fun a st hF=>wq ?_
 refine oC hF rfl fun a hF=>nq ?_
 obtain⟨glu1,w2,ge,hr,bb,hpa⟩:=FV w w.heap.size st.bel.size
 refine oV hF (du (by simp) hr) rfl fun a hF=>?_
 replace st:=(st.to bb).grow0 hpa cd.gc cd.gl (st.gnew ge)
 clear hr bb hpa ge
 refine oA hF 0 rfl rfl fun a hF=>nq<|oM hF 3 rfl rfl fun a hF=>?_
 refine SG.callx st hF (rgc wU (aK hF.o ah)) (ib y 1 _ (by omega) (by omega) (by omega) (by omega)) rfl rfl rfl rfl fun w3 a st hF=>?_
 refine oV hF (ao hF.o ah ab (bM (by omega) (by omega))) rfl fun a hF=>?_
 refine SG.ck st hF (rgc k40 (aC hF.o)) cH Rl.cl rfl fun vv5 w4 a st hF=>?_
 obtain⟨r7,rfl⟩:=Rq.fo (st.f 0 rfl).1
 refine SG.new st hF 0 rfl aa rfl rfl rfl rfl rfl fun g4 w8 a st hF=>?_
 refine nq<|oM hF 8 rfl rfl fun a hF=>?_
 refine SG.callx st hF (rgc wU (aK hF.o ah)) (ib y 12 _ (by omega) (by omega) (by omega) (by omega)) rfl rfl rfl rfl fun w9 a st hF=>?_
 refine oV hF (ao hF.o ah ab (aU (by omega) (by omega))) rfl fun a hF=>oA hF 0 rfl rfl fun a hF=>ns<|wq<|oV hF (ar (hF.at 4 rfl) (bh aa (st.bk 0 rfl) rfl)) rfl fun a hF=>?_
 refine SG.callx st hF (rgc k39 (aC hF.o)) (ED _ (hT.below st.bel) (st.f 0 rfl).1 (st.f 0 rfl).2 (by omega) (by rw[Rat.floor_intCast];omega) (by rw[Rat.floor_intCast];omega) hd0) rfl rfl rfl rfl fun w10 a st hF=>?_
 refine SG.new st hF 0 rfl bN rfl rfl rfl rfl rfl fun g6 w11 a st hF=>?_
 refine E.nil<|wp_block ?_
 refine E.loop (fun mq a wv=>∃(k:Nat) (n:Nat) (la:Option Addr) (lc:Nat) (g6:Nat),n=(inU y d0 k).length /\Fr 32 a [(6,.pointer (some ⟨g6,0,none⟩)),(5,iv ((fiE y 12)+40)),(3,.slice la n lc),(2,.slice none 0 0),(0,iv y)]/\Sg w wv [(g6,[iv (moD d0 k),iv (moD d0 (k+1)),iv (smV (moD d0 k)%12),iv (smV (moD d0 (k+1))%12)])] [] (.slice la n lc) (fun wx=>cd wx 4 72 w.heap.size (.slice la n lc) n (gZ (inU y d0 k)))/\mq=(fiE y 12+41-moD d0 k).toNat) ((fiE y 12+41-moD d0 0).toNat) ?_ ?_
 ·exact⟨0,0,(some ⟨glu1,0,none⟩),0,g6,rfl,Fr.pick (L':=[(6,.pointer (some ⟨g6,0,none⟩)),(5,iv ((fiE y 12)+40)),(3,.slice (some ⟨glu1,0,none⟩) 0 0),(2,.slice none 0 0),(0,iv y)]) hF [0,3,12,14,15] rfl,((st.pick [0] [] rfl rfl (by decide)).cast rfl),rfl⟩
 ·rintro mq a w12 ⟨k,n,la,lc,g6,hn,hF,st,hm⟩
  have hul:=vv y d0 k
  have hmu:=G9 hdc k
  have hmx:moD d0 k+28<=moD d0 (k+1)/\moD d0 (k+1)<=moD d0 k+31:=by have s:=bD (ft hdc k);show _<=az _/\az _<=_;omega
  rw[<-hn] at hul
  refine wp_seq<|wq<|oV hF (au hF.o (gX (p:=0) rfl)) rfl fun a hF=>oV hF (ar hF.o (bi (v:= iv (moD d0 k)) (st.bk 0 rfl) rfl)) rfl fun a hF=>oM hF 3 rfl rfl fun a hF=>?_
  by_cases hc13:moD d0 k<=fiE y 12+40
  ·refine oU hF 1 0 (bP (c:=true) (aJ (hc13))) rfl rfl rfl fun a hF=>E.nil<|wp_cond_true hF.o<|wp_skip<|E.norm<|wp_seq<|wp_block<|wq<|oV hF (ar (hF.at 4 rfl) (bh bN (st.bk 0 rfl) rfl)) rfl fun a hF=>oM hF 9 rfl rfl fun a hF=>?_
   by_cases hc14:inB y (moD d0 k)=true
   ·refine SG.callx st hF (rgc F6 (aK hF.p hF.o)) (xJ (moD d0 k) (moD d0 (k+1)) (smV (moD d0 k)%12) (smV (moD d0 (k+1))%12) y _ hy0 hy1 (by omega) (by omega) ((ol y (moD d0 k)).1 hc14).1 ((ol y (moD d0 k)).1 hc14).2) rfl rfl rfl rfl fun w15 a st hF=>?_
    refine E.nil<|wp_cond_true hF.o<|E.seq<|oM hF 9 rfl rfl fun a hF=>oV hF (ar (hF.at 8 rfl) (bh bN (st.bk 0 rfl) rfl)) rfl fun a hF=>?_
    obtain⟨glu16,w17,hr,ge,bb,hbk⟩:=H8 w15 _ _ _ _
    refine oV hF (du (mT hF.o) hr) rfl fun a hF=>?_
    replace st:=st.new ge bb hbk
    clear hr bb hbk ge
    obtain⟨lau18,lcu18,w19,hr,hpa,gg,bb,ku,hne⟩:=GC st.g (st.bk 0 rfl) (by omega) st.bel.size
    refine oV hF (bI (aK hF.q hF.o) hr) rfl fun a hF=>?_
    replace st:=st.grow gg bb ku pC hpa cd.gc cd.gl hne
    clear hr gg bb ku hne hpa
    refine oE hF 0 rfl rfl fun a hF=>E.nil0<|E.blk<|E.norm<|wp_seq<|wq<|oV hF (ar (hF.at 12 rfl) (bh bN (st.bk 1 rfl) rfl)) rfl fun a hF=>E.nil<|E.seq ?_
    replace hF:=Fr.pick (L':=[(30,.agg #[iv (moD d0 k),iv (moD d0 (k+1)),iv (smV (moD d0 k)%12),iv (smV (moD d0 (k+1))%12)]),(3,.slice lau18 (n+1) lcu18),(29,.slice lau18 (n+1) lcu18),(28,.slice (some ⟨glu16,0,none⟩) 1 1),(27,.agg #[iv (moD d0 k),iv (moD d0 (k+1)),iv (smV (moD d0 k)%12),iv (smV (moD d0 (k+1))%12)]),(26,.slice la n lc),(25,.bool true),(24,iv y),(23,.agg #[iv (moD d0 k),iv (moD d0 (k+1)),iv (smV (moD d0 k)%12),iv (smV (moD d0 (k+1))%12)]),(20,.bool true),(19,iv ((fiE y 12)+40)),(18,iv (moD d0 k)),(17,.pointer (some ⟨g6,0,none⟩)),(5,iv ((fiE y 12)+40)),(2,.slice none 0 0),(0,iv y)]) hF [0,1,2,3,4,5,6,7,8,9,10,11,12,14,15,16] rfl
    refine SG.new st hF 0 rfl bN rfl rfl rfl rfl rfl fun g6 w20 a st hF=>?_
    refine E.nil<|E.seq<|oV hF (ar hF.o (bh bN (st.bk 0 rfl) rfl)) rfl fun a hF=>?_
    refine SG.callx st hF (rgc Gy (aC hF.o)) (na (moD d0 k) (moD d0 (k+1)) (smV (moD d0 k)%12) (smV (moD d0 (k+1))%12) _ (hT.below st.bel) (by omega) (by omega) (ft hdc (k+1))) rfl rfl rfl rfl fun w21 a st hF=>?_
    refine SG.stoIU st hF 0 rfl rfl pC hF.q hF.o bN rfl rfl rfl fun w22 a st hF=>?_
    refine E.nil0<|E.norm ?_
    exact⟨(fiE y 12+41-moD d0 (k+1)).toNat,by omega,⟨(k+1),(n+1),lau18,lcu18,g6,(by rw[mJ hc14,List.length_append,<-hn];rfl),Fr.pick (L':=[(6,.pointer (some ⟨g6,0,none⟩)),(5,iv ((fiE y 12)+40)),(3,.slice lau18 (n+1) lcu18),(2,.slice none 0 0),(0,iv y)]) hF [2,16,4,17,18] rfl,((st.pick [0] [] rfl rfl (by decide)).cast (by rw[mJ hc14,tm];rfl)),rfl⟩⟩
   ·refine SG.callx st hF (rgc F6 (aK hF.p hF.o)) (yP (moD d0 k) (moD d0 (k+1)) (smV (moD d0 k)%12) (smV (moD d0 (k+1))%12) y _ hy0 hy1 (by omega) (by omega) (fun e=>hc14 ((ol y (moD d0 k)).2 e))) rfl rfl rfl rfl fun w23 a st hF=>?_
    refine E.nil<|wp_cond_false hF.o<|wp_skip<|E.blk<|E.norm<|wp_seq<|wq<|oV hF (ar (hF.at 7 rfl) (bh bN (st.bk 0 rfl) rfl)) rfl fun a hF=>E.nil<|E.seq ?_
    replace hF:=Fr.pick (L':=[(30,.agg #[iv (moD d0 k),iv (moD d0 (k+1)),iv (smV (moD d0 k)%12),iv (smV (moD d0 (k+1))%12)]),(25,.bool false),(24,iv y),(23,.agg #[iv (moD d0 k),iv (moD d0 (k+1)),iv (smV (moD d0 k)%12),iv (smV (moD d0 (k+1))%12)]),(20,.bool true),(19,iv ((fiE y 12)+40)),(18,iv (moD d0 k)),(17,.pointer (some ⟨g6,0,none⟩)),(5,iv ((fiE y 12)+40)),(3,.slice la n lc),(2,.slice none 0 0),(0,iv y)]) hF [0,1,2,3,4,5,6,7,9,10,11,12] rfl
    refine SG.new st hF 0 rfl bN rfl rfl rfl rfl rfl fun g6 w24 a st hF=>?_
    refine E.nil<|E.seq<|oV hF (ar hF.o (bh bN (st.bk 0 rfl) rfl)) rfl fun a hF=>?_
    refine SG.callx st hF (rgc Gy (aC hF.o)) (na (moD d0 k) (moD d0 (k+1)) (smV (moD d0 k)%12) (smV (moD d0 (k+1))%12) _ (hT.below st.bel) (by omega) (by omega) (ft hdc (k+1))) rfl rfl rfl rfl fun w25 a st hF=>?_
    refine SG.stoIU st hF 0 rfl rfl pC hF.q hF.o bN rfl rfl rfl fun w26 a st hF=>?_
    refine E.nil0<|E.norm ?_
    exact⟨(fiE y 12+41-moD d0 (k+1)).toNat,by omega,⟨(k+1),n,la,lc,g6,(by rw[lI hc14];exact hn),Fr.pick (L':=[(6,.pointer (some ⟨g6,0,none⟩)),(5,iv ((fiE y 12)+40)),(3,.slice la n lc),(2,.slice none 0 0),(0,iv y)]) hF [2,11,12,13,14] rfl,((st.pick [0] [] rfl rfl (by decide)).cast (by rw[lI hc14])),rfl⟩⟩
  ·refine oU hF 1 0 (bP (c:=false) (aH (hc13))) rfl rfl rfl fun a hF=>E.nil<|wp_cond_false hF.o<|wp_exit<|E.past<|E.past<|E.out (id:=0)<|E.norm<|wq ?_
   refine oM hF 6 rfl rfl fun a hF=>oE hF 0 rfl rfl fun a hF=>nr ?_
   have bel:=st.bel
   refine rt Tryz.results97 hF 0 rfl ?_
   have e1:inU y d0 k=inL y:=Fm hdc hdy (DV (Int.not_le.1 hc13))
   have e2:n=N:=by rw[hn,e1,uD,hN]
   subst e2
   exact⟨_,_,rfl,e1▸st.g.1,bel⟩
end Go.Proofs.YtgdpkknapcgcbaaGreatDoor
