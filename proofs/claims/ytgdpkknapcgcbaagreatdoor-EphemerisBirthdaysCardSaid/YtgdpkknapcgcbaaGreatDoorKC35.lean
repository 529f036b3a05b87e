import Derived.Test.YtgdpkknapcgcbaaGreatDoorKC31
namespace Go.Proofs.YtgdpkknapcgcbaaGreatDoor
open Go.RowKit
set_option maxRecDepth 100000
set_option linter.unusedVariables false
set_option maxHeartbeats 8000000
theorem Lb:∃i z,Tryz.prog.info? 72=some i/\i.zero=some z/\i.size=4/\i.bytes=32/\z.cells.size=4:=by
 have h1:(Tryz.prog.info? 72).map (·.size)=some 4:=by kernel_rfl
 have h2:(Tryz.prog.info? 72).bind (·.zero)=some (.agg #[iv 0,iv 0,iv 0,iv 0]):=by kernel_rfl
 have h3:(Tryz.prog.info? 72).map (·.bytes)=some 32:=by kernel_rfl
 cases hq:Tryz.prog.info? 72 with
 |none=>rw[hq] at h1;cases h1
 |some i=>exact⟨i,.agg #[iv 0,iv 0,iv 0,iv 0],rfl,by simpa[hq] using h2,by simpa[hq] using h1,by simpa[hq] using h3,rfl⟩
theorem P9 (w:World) (base:Nat) (hb:base<=w.heap.size):∃g w',w.heap.size=g/\(Instr.buildSlice 139 0 #[]).run Tryz.prog w= .ok (.slice (some ⟨g,0,none⟩) 0 0) w'/\Below w.heap.size w w'/\dW w' 4 72 base (.slice (some ⟨g,0,none⟩) 0 0) 0 []:=by
 have hn:=ec (w:=w) (cs:=[]) 72
 refine⟨w.heap.size,w.alloc (.cells #[] 72),rfl,?_,hn.2,rfl,.inr ⟨w.heap.size,0,#[],rfl,hb,heap_alloc_new w _,Nat.le_refl _,Nat.zero_le _,rfl,rfl⟩⟩
 have hs:=bh (P:=Tryz.prog) (T:=72) (n:=4) jU w
 simp[Instr.buildSlice,go_sem,hs,Instr.fill,newRow]
theorem F4 (w:World) (z0 z1 z2 z3:Int):∃g w',w.heap.size=g/\(Instr.buildSlice 139 1 #[(0,.agg #[iv z0,iv z1,iv z2,iv z3])]).run Tryz.prog w= .ok (.slice (some ⟨g,0,none⟩) 1 1) w'/\Below w.heap.size w w'/\Blk w' g [iv z0,iv z1,iv z2,iv z3]:=by
 have hb:=ec (w:=w) (cs:=[iv z0,iv z1,iv z2,iv z3]) 72
 refine⟨w.heap.size,w.alloc (.cells #[iv z0,iv z1,iv z2,iv z3] 72),rfl,?_,hb.2,hb.1⟩
 have hs:=bh (P:=Tryz.prog) (T:=72) (n:=4) jU w
 simp[Instr.buildSlice,go_sem,hs,Instr.fill,Value.cells,newRow]
theorem FM {w:World} {base:Nat} {v:Value} {n:Nat} {rs:List Value} (h:dW w 4 72 base v n rs) {gs:Nat} {z0 z1 z2 z3:Int} (hs:Blk w gs [iv z0,iv z1,iv z2,iv z3]) (hl:n<=1000000) (bel:base<=w.heap.size) {ty:TypeId}:
 ∃ad cap w',(builtin .append #[139,139] ty #[false,false] #[v,.slice (some ⟨gs,0,none⟩) 1 1]).run Tryz.prog w= .ok (.value (.slice ad (n+1) cap)) w'/\dW w' 4 72 base (.slice ad (n+1) cap) (n+1) (rs++[iv z0,iv z1,iv z2,iv z3])/\w.grownBy w' v.ownBlock/\Below base w w'/\∀b,b<w.heap.size->v.ownBlock≠some b->(Value.slice ad (n+1) cap).ownBlock ≠some b:=
 dW.app Tryz.underlying139 Lb (by decide) (by decide) h hs rfl (ocI (ocI (ocI (ocI oc0)))) hl bel
theorem Rj {w:World} {g n c i:Nat} {z:Int} (hz:z=((i:Nat):Int)) (hi:i<n):(Instr.indexAt 139 (.slice (some ⟨g,0,none⟩) n c) (iv z)).run Tryz.prog w= .ok (.pointer (some ⟨g,4*i,none⟩)) w:=by
 subst hz
 simp[Instr.indexAt,asIntOf,run_underlying Tryz.underlying139,Sem.run_bind,Addr.add_mid,hi,Nat.mul_comm]
theorem Fa (n:Int) (N:Nat) (v1:Value) (qt:Rat) (k:Nat) (w:World) (hT:bE w) (h1:Rq w v1 qt) (hl:av qt k) (hk:k<=100) (hf0: -9000000<=Rat.floor qt) (hf1:Rat.floor qt<=9000000) (hN:max (min n 40) 0=((N:Nat):Int)):
 CP 177 #[v1,iv n] w (fun e w'=>∃ad cap,e= .returned (.slice ad N cap)/\dW w' 4 72 w.heap.size (.slice ad N cap) N (moR (aA qt) N)/\Below w.heap.size w w'):=by
 have hlv:=pO qt
 have hmb:=fun k=>vc (gD qt) k
 have bel:Below w.heap.size w w:=Below.refl _ _
 refine go2 (nt:=31) Tryz.func177 rfl rfl rfl fun a hF=>wq ?_
 obtain⟨b1,ad1,n1,c1,ae1,m1,d1,rfl,hn1,hd1⟩:=Rq.shape h1
 have hf2:=Wc.abs hn1
 obtain⟨g2,w3,ge2,hr,bb,o2⟩:=mo (P:=Tryz.prog) (w:=w) (cs:=[.bool b1,.slice ad1 n1 c1,.slice ae1 m1 d1]) (v:= .agg #[.bool b1,.slice ad1 n1 c1,.slice ae1 m1 d1]) 33 rfl (niB (niS (niS ni0)))
 replace ge2:w.heap.size<=g2:=by rw[<-ge2];exact bel.size
 refine oV hF (nj hF.o hr) rfl fun a hF=>?_
 clear hr
 replace bel:=aF bel bb
 clear bb
 refine oC hF rfl fun a hF=>nq ?_
 obtain⟨gl4,w5,egl4,hr,bb,hia0⟩:=P9 w3 w.heap.size bel.size
 refine oV hF (bO (by simp) hr) rfl fun a hF=>?_
 clear hr
 have hnv2:(Value.slice (some ⟨gl4,0,none⟩) 0 0).ownBlock ≠some g2:=fun e=>by injection e with e;have:=o2.lt;have e2:gl4=g2:=e;omega
 replace o2:=o2.below bb
 replace bel:=aF bel bb
 clear bb
 refine oA hF 0 rfl rfl fun a hF=>ns<|wq<|oM hF 5 rfl rfl fun a hF=>oV hF (aW (aL hF.o ao) rC) rfl fun a hF=>oV hF (aD ao) rfl fun a hF=>E.nil<|wp_block ?_
 refine E.loop (fun mq a wv=>∃(i:Nat) (la:Option Addr) (lc:Nat),i<=N/\(Value.slice la i lc).ownBlock ≠some g2/\Fr 31 a [(10,iv ((i:Nat):Int)),(9,iv (min n 40)),(5,.slice la i lc),(4,.slice none 0 0),(2,.pointer (some ⟨g2,0,none⟩))]/\Below w.heap.size w wv/\dW wv 4 72 w.heap.size (.slice la i lc) i (moR (aA qt) i)/\Own wv g2 [.bool b1,.slice ad1 n1 c1,.slice ae1 m1 d1]/\mq=N-i) (N-0) ?_ ?_
 ·exact⟨0,((some ⟨gl4,0,none⟩)),0,(Nat.zero_le _),hnv2,Fr.sub (L':=[(10,iv ((0:Nat):Int)),(9,iv (min n 40)),(5,.slice (some ⟨gl4,0,none⟩) 0 0),(4,.slice none 0 0),(2,.pointer (some ⟨g2,0,none⟩))]) hF (by intro p hp;simp only [List.mem_cons,List.not_mem_nil,or_false] at hp ⊢;rcases hp with rfl|rfl|rfl|rfl|rfl <;> simp),bel,hia0,o2,rfl⟩
 ·rintro mq a w6 ⟨i,la,lc,hi,hnv2,hF,bel,hia,o2,hm⟩
  by_cases hlt:i<N
  ·refine wp_seq<|E.seq ?_
   refine oU hF 0 1 (aY (c:=true) (aI (by omega))) rfl rfl rfl fun a hF=>ns<|wp_cond_true hF.o<|wp_skip<|E.norm<|wp_seq<|wp_block<|wq ?_
   refine oM hF 1 rfl rfl fun a hF=>oA hF 0 rfl rfl fun a hF=>ns<|wq<|oM hF 0 rfl rfl fun a hF=>?_
   by_cases hc7:((i:Nat):Int)=0
   ·refine oT hF 0 (aV (c:=true) (aI hc7)) rfl rfl fun a hF=>E.nil<|wp_cond_true hF.o<|wp_seq ?_
    obtain rfl:i=0:=by omega
    refine E.seq<|oM hF 7 rfl rfl fun a hF=>oV hF (ar (hF.at 10 rfl) (fM (vs:=[.bool b1,.slice ad1 n1 c1,.slice ae1 m1 d1]) o2 rfl rfl)) rfl fun a hF=>?_
    refine E.call hF (rk NU (aG hF.o)) (ug _ (qt) k _ (hT.below bel) (h1.below bel) hl (by omega) (by omega) (by omega)) rfl rfl rfl rfl ?_
    rintro e w8 ⟨rfl,bb⟩
    refine⟨_,rfl,?_⟩
    intro a hF
    replace hia:=hia.below bb
    replace o2:=o2.below bb
    replace bel:=aF bel bb
    clear bb
    obtain⟨gl9,w10,egl9,hr,bb,ogl9⟩:=F4 w8 (aA (qt)) (aw (aA (qt))) (smV (aA (qt))%12) (smV (aw (aA (qt)))%12)
    refine oV hF (bO (eQ hF.o) hr) rfl fun a hF=>?_
    clear hr egl9
    replace hia:=hia.below bb
    replace o2:=o2.below bb
    replace bel:=aF bel bb
    clear bb
    obtain⟨la11,lc12,w13,hr,hib,gg,bb,hne⟩:=FM hia ogl9 (by omega) bel.size
    refine oV hF (aW (aL (hF.at 3 rfl) hF.o) hr) rfl fun a hF=>?_
    clear hr
    have hmv2:=hne _ o2.lt hnv2
    replace o2:=vf o2 gg (fun e=>hnv2 e.symm)
    replace hnv2:=hmv2
    clear hmv2
    replace bel:=bel.trans bb
    clear bb gg hne
    refine E.opset (L':=[(5,.slice la11 (0+1) lc12),(19,.slice la11 (0+1) lc12),(18,.slice (some ⟨gl9,0,none⟩) 1 1),(17,.agg #[iv (aA (qt)),iv (aw (aA (qt))),iv (smV (aA (qt))%12),iv (smV (aw (aA (qt)))%12)]),(16,.agg #[.bool b1,.slice ad1 n1 c1,.slice ae1 m1 d1]),(15,.slice la 0 lc),(14,.bool true),(13,iv ((0:Nat):Int)),(6,iv ((0:Nat):Int)),(12,iv ((0:Nat):Int)),(11,.bool true),(10,iv ((0:Nat):Int)),(9,iv (min n 40)),(4,.slice none 0 0),(2,.pointer (some ⟨g2,0,none⟩))]) hF (aZ hF.o) rfl rfl rfl rfl fun a hF=>?_
    refine E.nil<|wp_exit<|E.past<|E.out (id:=1)<|E.norm<|E.seq<|oV hF (aq (hF.at 11 rfl) ao aa (aX (by omega) (by omega))) rfl fun a hF=>?_
    refine E.opset (L':=[(10,iv (((0:Nat):Int)+1)),(29,iv (((0:Nat):Int)+1)),(5,.slice la11 (0+1) lc12),(19,.slice la11 (0+1) lc12),(18,.slice (some ⟨gl9,0,none⟩) 1 1),(17,.agg #[iv (aA (qt)),iv (aw (aA (qt))),iv (smV (aA (qt))%12),iv (smV (aw (aA (qt)))%12)]),(16,.agg #[.bool b1,.slice ad1 n1 c1,.slice ae1 m1 d1]),(15,.slice la 0 lc),(14,.bool true),(13,iv ((0:Nat):Int)),(6,iv ((0:Nat):Int)),(12,iv ((0:Nat):Int)),(11,.bool true),(9,iv (min n 40)),(4,.slice none 0 0),(2,.pointer (some ⟨g2,0,none⟩))]) hF (aD hF.o) rfl rfl rfl rfl fun a hF=>?_
    refine E.nil0<|E.norm ?_
    exact⟨(N-(0+1)),by omega,⟨(0+1),la11,lc12,(by omega),hnv2,(by rw[show(((0+1:Nat)):Int)=((0:Nat):Int)+1 from by omega];exact Fr.sub (L':=[(10,iv (((0:Nat):Int)+1)),(9,iv (min n 40)),(5,.slice la11 (0+1) lc12),(4,.slice none 0 0),(2,.pointer (some ⟨g2,0,none⟩))]) hF (by intro p hp;simp only [List.mem_cons,List.not_mem_nil,or_false] at hp ⊢;rcases hp with rfl|rfl|rfl|rfl|rfl <;> simp)),bel,hib,o2,rfl⟩⟩
   ·refine oT hF 0 (aV (c:=false) (aJ hc7)) rfl rfl fun a hF=>E.nil<|wp_cond_false hF.o<|wp_skip<|E.norm ?_
    obtain⟨j,rfl⟩:∃j,i=j+1:=⟨i-1,by omega⟩
    refine E.seq<|oM hF 7 rfl rfl fun a hF=>oM hF 8 rfl rfl fun a hF=>oM hF 4 rfl rfl fun a hF=>oV hF (aq hF.o ao aa (bB (by omega) (by omega))) rfl fun a hF=>?_
    obtain⟨gr,more,ead,_,hgr,orow⟩:=hia.row (by omega)
    subst ead
    have hmj:=hmb (j+1)
    refine oV hF (bS hF.q hF.o (Rj (i:=j) (by omega) (by omega))) rfl fun a hF=>oV hF (ar hF.o (jn (vs:=[iv (moD (aA qt) j),iv (moD (aA qt) (j+1)),iv (smV (moD (aA qt) j)%12),iv (smV (moD (aA qt) (j+1))%12)]) orow (Av _ _ (by omega)) rfl)) rfl fun a hF=>?_
    refine E.call hF (rk Qy (aG hF.o)) (nK (moD (aA qt) j) (moD (aA qt) (j+1)) (smV (moD (aA qt) j)%12) (smV (moD (aA qt) (j+1))%12) _ (hT.below bel) (by omega) (by omega) (ja (gD qt) _)) rfl rfl rfl rfl ?_
    rintro e w14 ⟨rfl,bb⟩
    refine⟨_,rfl,?_⟩
    intro a hF
    replace hia:=hia.below bb
    replace o2:=o2.below bb
    replace bel:=aF bel bb
    clear bb
    obtain⟨gl15,w16,egl15,hr,bb,ogl15⟩:=F4 w14 (moD (aA qt) (j+1)) (aw (moD (aA qt) (j+1))) (smV (moD (aA qt) (j+1))%12) (smV (aw (moD (aA qt) (j+1)))%12)
    refine oV hF (bO (eQ hF.o) hr) rfl fun a hF=>?_
    clear hr egl15
    replace hia:=hia.below bb
    replace o2:=o2.below bb
    replace bel:=aF bel bb
    clear bb
    obtain⟨la17,lc18,w19,hr,hib,gg,bb,hne⟩:=FM hia ogl15 (by omega) bel.size
    refine oV hF (aW (aL (hF.at 7 rfl) hF.o) hr) rfl fun a hF=>?_
    clear hr
    have hmv2:=hne _ o2.lt hnv2
    replace o2:=vf o2 gg (fun e=>hnv2 e.symm)
    replace hnv2:=hmv2
    clear hmv2
    replace bel:=bel.trans bb
    clear bb gg hne
    refine E.opset (L':=[(5,.slice la17 ((j+1)+1) lc18),(28,.slice la17 ((j+1)+1) lc18),(27,.slice (some ⟨gl15,0,none⟩) 1 1),(26,.agg #[iv (moD (aA qt) (j+1)),iv (aw (moD (aA qt) (j+1))),iv (smV (moD (aA qt) (j+1))%12),iv (smV (aw (moD (aA qt) (j+1)))%12)]),(25,.agg #[iv (moD (aA qt) j),iv (moD (aA qt) (j+1)),iv (smV (moD (aA qt) j)%12),iv (smV (moD (aA qt) (j+1))%12)]),(24,.pointer (some ⟨gr,4*j,none⟩)),(23,iv ((((j+1):Nat):Int)-1)),(22,iv (((j+1):Nat):Int)),(21,.slice (some ⟨gr,0,none⟩) (j+1) lc),(20,.slice (some ⟨gr,0,none⟩) (j+1) lc),(14,.bool false),(13,iv (((j+1):Nat):Int)),(6,iv (((j+1):Nat):Int)),(12,iv (((j+1):Nat):Int)),(11,.bool true),(10,iv (((j+1):Nat):Int)),(9,iv (min n 40)),(4,.slice none 0 0),(2,.pointer (some ⟨g2,0,none⟩))]) hF (aZ hF.o) rfl rfl rfl rfl fun a hF=>?_
    refine E.nil0<|E.blk<|E.norm<|E.seq<|oV hF (aq (hF.at 15 rfl) ao aa (aX (by omega) (by omega))) rfl fun a hF=>?_
    refine E.opset (L':=[(10,iv ((((j+1):Nat):Int)+1)),(29,iv ((((j+1):Nat):Int)+1)),(5,.slice la17 ((j+1)+1) lc18),(28,.slice la17 ((j+1)+1) lc18),(27,.slice (some ⟨gl15,0,none⟩) 1 1),(26,.agg #[iv (moD (aA qt) (j+1)),iv (aw (moD (aA qt) (j+1))),iv (smV (moD (aA qt) (j+1))%12),iv (smV (aw (moD (aA qt) (j+1)))%12)]),(25,.agg #[iv (moD (aA qt) j),iv (moD (aA qt) (j+1)),iv (smV (moD (aA qt) j)%12),iv (smV (moD (aA qt) (j+1))%12)]),(24,.pointer (some ⟨gr,4*j,none⟩)),(23,iv ((((j+1):Nat):Int)-1)),(22,iv (((j+1):Nat):Int)),(21,.slice (some ⟨gr,0,none⟩) (j+1) lc),(20,.slice (some ⟨gr,0,none⟩) (j+1) lc),(14,.bool false),(13,iv (((j+1):Nat):Int)),(6,iv (((j+1):Nat):Int)),(12,iv (((j+1):Nat):Int)),(11,.bool true),(9,iv (min n 40)),(4,.slice none 0 0),(2,.pointer (some ⟨g2,0,none⟩))]) hF (aD hF.o) rfl rfl rfl rfl fun a hF=>?_
    refine E.nil0<|E.norm ?_
    exact⟨(N-((j+1)+1)),by omega,⟨((j+1)+1),la17,lc18,(by omega),hnv2,(by rw[show((((j+1)+1:Nat)):Int)=(((j+1):Nat):Int)+1 from by omega];exact Fr.sub (L':=[(10,iv ((((j+1):Nat):Int)+1)),(9,iv (min n 40)),(5,.slice la17 ((j+1)+1) lc18),(4,.slice none 0 0),(2,.pointer (some ⟨g2,0,none⟩))]) hF (by intro p hp;simp only [List.mem_cons,List.not_mem_nil,or_false] at hp ⊢;rcases hp with rfl|rfl|rfl|rfl|rfl <;> simp)),bel,hib,o2,rfl⟩⟩
  ·refine wp_seq<|E.seq ?_
   refine oU hF 0 1 (aY (c:=false) (aJ (by omega))) rfl rfl rfl fun a hF=>ns<|wp_cond_false hF.o<|wp_exit<|E.past<|E.past<|E.out (id:=0)<|E.norm<|wq<|oM hF 3 rfl rfl fun a hF=>?_
   refine E.opset (L':=[(4,.slice la i lc),(30,.slice la i lc),(11,.bool false),(10,iv ((i:Nat):Int)),(9,iv (min n 40)),(5,.slice la i lc),(2,.pointer (some ⟨g2,0,none⟩))]) hF (aZ hF.o) rfl rfl rfl rfl fun a hF=>?_
   refine nr<|rt Tryz.results177 hF 0 rfl ?_
   obtain rfl:i=N:=by omega
   exact⟨_,_,rfl,hia,bel⟩
end Go.Proofs.YtgdpkknapcgcbaaGreatDoor
