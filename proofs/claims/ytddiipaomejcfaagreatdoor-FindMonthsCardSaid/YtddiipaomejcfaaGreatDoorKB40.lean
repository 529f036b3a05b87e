import Derived.Test.YtddiipaomejcfaaGreatDoorKB37
namespace Go.Proofs.YtddiipaomejcfaaGreatDoor
open Go.RowKit
set_option maxRecDepth 100000
set_option linter.unusedVariables false
set_option maxHeartbeats 8000000
theorem kW (y m:Int) (w:World) (hy0: -9000<=y) (hy1:y<=9000) (hm0:1<=m) (hm1:m<=12):
 CV 26 #[iv y,iv m] w (iv (fiE y m)):=by
 have hfe:=fR hy0 hy1 hm0 hm1
 refine gs2 (nt:=19) Tryz.func26 rfl rfl rfl fun a st hF=>wq ?_
 refine oC hF rfl fun a hF=>nq<|oM hF 1 rfl rfl fun a hF=>oV hF (aq hF.o ao aa (aO (by omega) (by omega))) rfl fun a hF=>oV hF (aq ao hF.o aa (dG (by omega) (by omega))) rfl fun a hF=>oM hF 5 rfl rfl fun a hF=>oV hF (aq hF.p hF.o aa (aO (by omega) (by omega))) rfl fun a hF=>oV hF (aq hF.o ao aa (bE (by omega) (by omega))) rfl fun a hF=>S.ck st hF (rgc k55 (aF hF.o ao)) cH Rh.cl rfl fun vv2 w1 a st hF=>?_
 obtain⟨r4,rfl⟩:=Rr.fo (st.f 0 rfl).1
 refine S.ck st hF (rgc k66 hZ) (oY) Rh.cl rfl fun vv6 w5 a st hF=>?_
 obtain⟨r8,rfl⟩:=Rr.fo (st.f 0 rfl).1
 refine S.ck st hF (rgc k65 (aF hF.p hF.o)) (ce (st.f 1 rfl) (st.f 0 rfl)) Rh.cl rfl fun vv10 w9 a st hF=>?_
 obtain⟨r12,rfl⟩:=Rr.fo (st.f 0 rfl).1
 refine S.new st hF 0 rfl ah rfl rfl rfl rfl rfl fun g5 w13 a st hF=>ns ?_
 refine E.rg 4 aG hF [15,16,17,18] [_,_,_,_] (by decide+kernel) rfl rfl rfl ⟨rb st ah 0 0 rfl,ck st k55 rfl fun _ s=>cY,ck st k68 rfl fun _ s _ x16=>iR (s.f 0 rfl) x16,ck st k67 rfl fun _ s _ x17=>a7 (rO _ (((((((12*(y+3044))+m)-2:Int):Rat)/((12:Int):Rat))*(pyr))+((((-1132959):Int):Rat))) 12 (fiE y m) _ x17.1 (by omega) (by omega) (Ly y m) (by omega) (by omega)),trivial⟩ ?_
 intro a w14 hF bb hall
 replace st:=st.to bb
 replace hF:=rE hall hF 3 rfl rfl
 clear hall bb
 refine oE hF 0 rfl rfl fun a hF=>nr ?_
 have bel:=st.bel
 refine rt Tryz.results26 hF 0 rfl ?_
 exact⟨rfl,bel⟩
theorem Bu:∃i z,Tryz.prog.info? 63=some i/\i.zero=some z/\i.size=4/\i.bytes=32/\z.cells.size=4:=by
 have h1:(Tryz.prog.info? 63).map (·.size)=some 4:=by kernel_rfl
 have h2:(Tryz.prog.info? 63).bind (·.zero)=some (.agg #[iv 0,iv 0,iv 0,iv 0]):=by kernel_rfl
 have h3:(Tryz.prog.info? 63).map (·.bytes)=some 32:=by kernel_rfl
 cases hq:Tryz.prog.info? 63 with
 |none=>rw[hq] at h1;cases h1
 |some i=>exact⟨i,.agg #[iv 0,iv 0,iv 0,iv 0],rfl,by simpa[hq] using h2,by simpa[hq] using h1,by simpa[hq] using h3,rfl⟩
theorem Eo (w:World) (base:Nat) (hb:base<=w.heap.size):∃g w',w.heap.size=g/\(Instr.buildSlice 56 0 #[]).run Tryz.prog w= .ok (.slice (some ⟨g,0,none⟩) 0 0) w'/\Below w.heap.size w w'/\df w' 4 63 base (.slice (some ⟨g,0,none⟩) 0 0) 0 []:=by
 have hn:=eg (w:=w) (cs:=[]) 63
 refine⟨w.heap.size,w.alloc (.cells #[] 63),rfl,?_,hn.2,rfl,.inr ⟨w.heap.size,0,#[],rfl,hb,heap_alloc_new w _,Nat.le_refl _,Nat.zero_le _,rfl,rfl⟩⟩
 have hs:=aV (P:=Tryz.prog) (T:=63) (n:=4) rH w
 simp[Instr.buildSlice,go_sem,hs,Instr.fill,newRow]
theorem Fb (w:World) (z0 z1 z2 z3:Int):∃g w',w.heap.size=g/\(Instr.buildSlice 56 1 #[(0,.agg #[iv z0,iv z1,iv z2,iv z3])]).run Tryz.prog w= .ok (.slice (some ⟨g,0,none⟩) 1 1) w'/\Below w.heap.size w w'/\Blk w' g [iv z0,iv z1,iv z2,iv z3]:=by
 have hb:=eg (w:=w) (cs:=[iv z0,iv z1,iv z2,iv z3]) 63
 refine⟨w.heap.size,w.alloc (.cells #[iv z0,iv z1,iv z2,iv z3] 63),rfl,?_,hb.2,hb.1⟩
 have hs:=aV (P:=Tryz.prog) (T:=63) (n:=4) rH w
 simp[Instr.buildSlice,go_sem,hs,Instr.fill,Value.cells,newRow]
theorem E7 {w:World} {base:Nat} {v:Value} {n:Nat} {rs:List Value} (h:df w 4 63 base v n rs) {gs:Nat} {z0 z1 z2 z3:Int} (hs:Blk w gs [iv z0,iv z1,iv z2,iv z3]) (hl:n<=1000000) (bel:base<=w.heap.size) {ty:TypeId}:
 ∃ad cap w',(builtin .append #[56,56] ty #[false,false] #[v,.slice (some ⟨gs,0,none⟩) 1 1]).run Tryz.prog w= .ok (.value (.slice ad (n+1) cap)) w'/\df w' 4 63 base (.slice ad (n+1) cap) (n+1) (rs++[iv z0,iv z1,iv z2,iv z3])/\w.grownBy w' v.ownBlock/\Below base w w'/\∀b,b<w.heap.size->v.ownBlock≠some b->(Value.slice ad (n+1) cap).ownBlock ≠some b:=
 df.app Tryz.underlying56 Bu (by decide) (by decide) h hs rfl (ocI (ocI (ocI (ocI oc0)))) hl bel
theorem eM {w:World} {g n c i:Nat} {z:Int} (hz:z=((i:Nat):Int)) (hi:i<n):(Instr.indexAt 56 (.slice (some ⟨g,0,none⟩) n c) (iv z)).run Tryz.prog w= .ok (.pointer (some ⟨g,4*i,none⟩)) w:=by
 subst hz
 simp[Instr.indexAt,asIntOf,run_underlying Tryz.underlying56,Sem.run_bind,Addr.add_mid,hi,Nat.mul_comm]
theorem qn {w:World} {ty:TypeId} {a:Option Addr} {n c:Nat}:(builtin .len #[56] ty #[false] #[.slice a n c]).run Tryz.prog w= .ok (.value (iv ((n:Nat):Int))) w:=by
 simp[Builtin.len_,go_sem,run_underlying Tryz.underlying56]
theorem jR (y m:Int) (w:World) (hy0: -9000<=y) (hy1:y<=9000) (hm0:1<=m) (hm1:m<=12):
 CP 24 #[iv y,iv m] w (fun e w'=>∃ad cap,e= .returned (.slice ad (fiL y m).length cap)/\df w' 4 63 w.heap.size (.slice ad (fiL y m).length cap) (fiL y m).length (fM (fiL y m))/\Below w.heap.size w w'):=by
 have hst:=ir y m
 have hfe:=fR hy0 hy1 hm0 hm1
 have bel:Below w.heap.size w w:=Below.refl _ _
 refine go2 (nt:=39) Tryz.func24 rfl rfl rfl fun a hF=>wq ?_
 refine oC hF rfl fun a hF=>nq ?_
 obtain⟨gl1,w2,egl1,hr,bb,hia0⟩:=Eo w w.heap.size bel.size
 refine oV hF (bQ (by simp) hr) rfl fun a hF=>?_
 clear hr
 replace bel:=aC bel bb
 clear bb
 refine oA hF 0 rfl rfl fun a hF=>nq<|oM hF 3 rfl rfl fun a hF=>oM hF 5 rfl rfl fun a hF=>?_
 refine E.call hF (rk N6 (aF hF.p hF.o)) (kW y m _ (by omega) (by omega) (by omega) (by omega)) rfl rfl rfl rfl ?_
 rintro e w3 ⟨rfl,bb⟩
 refine⟨_,rfl,?_⟩
 intro a hF
 have hfe2:=fR (y:=y) (m:=m) (by omega) (by omega) (by omega) (by omega)
 replace hia0:=hia0.below bb
 replace bel:=aC bel bb
 clear bb
 refine oA hF 0 rfl rfl fun a hF=>ns<|wq<|oM hF 0 rfl rfl fun a hF=>oV hF (aq hF.o ao aa (bE (by omega) (by omega))) rfl fun a hF=>?_
 refine E.call hF (rk vK (aF hF.o ao)) (fp ((fiE y m)-5) _ (by omega) (by omega)) rfl rfl rfl rfl ?_
 rintro e w4 ⟨vv5,rfl,hh6,bb⟩
 refine⟨_,rfl,?_⟩
 intro a hF
 replace hia0:=hia0.below bb
 replace bel:=aC bel bb
 clear bb
 obtain⟨b7,ad7,n7,c7,ae7,m7,d7,z7,D7,rfl,hn7,hd7,hD7,hq7,lz7,lD7⟩:=Rr.shape hh6
 have ha7:=hn7.abs
 refine E.call hF (rk Oa (aD hF.o)) (p8 _ _ 2 2 _ hh6 (dE (by omega) (by omega)) (by omega) (by omega) (by omega) (by rw[Rat.floor_intCast];omega) (by rw[Rat.floor_intCast];omega)) rfl rfl rfl rfl ?_
 rintro e w8 ⟨rfl,bb⟩
 refine⟨_,rfl,?_⟩
 intro a hF
 have hlv15:=ji ((((fiE y m)-5:Int):Rat))
 replace hia0:=hia0.below bb
 replace bel:=aC bel bb
 clear bb
 refine oA hF 0 rfl rfl fun a hF=>E.nil<|wp_block ?_
 refine E.loop (fun mq a wv=>∃(k:Nat) (la:Option Addr) (lc:Nat),k<=3/\Fr 39 a [(7,iv (moD (ar (((fiE y m-5:Int)):Rat)) k)),(6,iv (fiE y m)),(5,.slice la (fiU y m (ar (((fiE y m-5:Int)):Rat)) k).length lc),(4,.slice none 0 0),(1,iv m)]/\Below w.heap.size w wv/\df wv 4 63 w.heap.size (.slice la (fiU y m (ar (((fiE y m-5:Int)):Rat)) k).length lc) (fiU y m (ar (((fiE y m-5:Int)):Rat)) k).length (fM (fiU y m (ar (((fiE y m-5:Int)):Rat)) k))/\mq=3-k) (3-0) ?_ ?_
 ·exact⟨0,((some ⟨gl1,0,none⟩)),0,(by omega),Fr.sub (L':=[(7,iv (ar (((fiE y m-5:Int)):Rat))),(6,iv (fiE y m)),(5,.slice (some ⟨gl1,0,none⟩) 0 0),(4,.slice none 0 0),(1,iv m)]) hF (by intro p hp;simp only [List.mem_cons,List.not_mem_nil,or_false] at hp ⊢;rcases hp with rfl|rfl|rfl|rfl|rfl <;> simp),bel,hia0,rfl⟩
 ·rintro mq a w9 ⟨k,la,lc,hk,hF,bel,hia,hm⟩
  have hmb:=lS hst.2.2 k
  have hul:(fiU y m (ar (((fiE y m-5:Int)):Rat)) k).length <=3:=zf y m _ hk
  refine wp_seq<|wq<|oM hF 0 rfl rfl fun a hF=>oM hF 2 rfl rfl fun a hF=>oV hF (aq hF.o ao aa (aO (by omega) (by omega))) rfl fun a hF=>?_
  by_cases hc10:moD (ar (((fiE y m-5:Int)):Rat)) k<=(fiE y m)+40
  ·refine oU hF 2 0 (bv (c:=true) (aK hc10)) rfl rfl rfl fun a hF=>E.nil<|wp_cond_true hF.o<|wp_skip<|E.norm<|wp_seq<|wp_block<|wq<|oM hF 4 rfl rfl fun a hF=>oM hF 6 rfl rfl fun a hF=>oV hF (aq hF.o ao aa (bE (by omega) (by omega))) rfl fun a hF=>?_
   by_cases hc11:(fiE y m)-5<=moD (ar (((fiE y m-5:Int)):Rat)) k
   ·refine oU hF 2 0 (cJ (c:=true) (aK hc11)) rfl rfl rfl fun a hF=>oM hF 0 rfl rfl fun a hF=>og hF (aB (hF.at 9 rfl)) 0 rfl rfl rfl fun a hF=>?_
    refine E.callg hF (rk NC (aD hF.o)) (jU (moD (ar (((fiE y m-5:Int)):Rat)) k) _ (by omega) (by omega)) (ag rfl rfl hF.p rfl) rfl rfl rfl ?_
    rintro e w12 ⟨rfl,bb⟩
    refine⟨_,rfl,?_⟩
    intro a hF
    replace hia:=hia.below bb
    replace bel:=aC bel bb
    clear bb
    refine E.callg hF (rk NH (aD hF.o)) (jV (smV (moD (ar (((fiE y m-5:Int)):Rat)) k)%12) _ (by omega) (by omega)) (ag rfl rfl hF.q rfl) rfl rfl rfl ?_
    rintro e w13 ⟨rfl,bb⟩
    refine⟨_,rfl,?_⟩
    intro a hF
    replace hia:=hia.below bb
    replace bel:=aC bel bb
    clear bb
    refine og hF (aB (hF.at 16 rfl)) 3 rfl rfl rfl fun a hF=>?_
    by_cases hc14:(smV (moD (ar (((fiE y m-5:Int)):Rat)) k)%12+1)%12+1=m
    ·refine og hF (aq hF.p hF.o aa (aI (aQ (c:=true) (aK hc14)) (by simp))) 4 rfl rfl rfl fun a hF=>oV hF (aH (hF.at 5 rfl) hF.o) rfl fun a hF=>E.nil<|wp_cond_true hF.o<|E.seq<|oM hF 17 rfl rfl fun a hF=>oM hF 16 rfl rfl fun a hF=>?_
     refine E.call hF (rk Od (aD hF.o)) (ug (moD (ar (((fiE y m-5:Int)):Rat)) k) _ (by omega) (by omega) (dN hst.2.2 _)) rfl rfl rfl rfl ?_
     rintro e w15 ⟨rfl,bb⟩
     refine⟨_,rfl,?_⟩
     intro a hF
     replace hia:=hia.below bb
     replace bel:=aC bel bb
     clear bb
     obtain⟨gl16,w17,egl16,hr,bb,ogl16⟩:=Fb w15 (moD (ar (((fiE y m-5:Int)):Rat)) k) (au (moD (ar (((fiE y m-5:Int)):Rat)) k)) (smV (moD (ar (((fiE y m-5:Int)):Rat)) k)%12) (smV (au (moD (ar (((fiE y m-5:Int)):Rat)) k))%12)
     refine oV hF (bQ (eZ hF.o) hr) rfl fun a hF=>?_
     clear hr egl16
     replace hia:=hia.below bb
     replace bel:=aC bel bb
     clear bb
     obtain⟨la18,lc19,w20,hr,hib,gg,bb,hne⟩:=E7 hia ogl16 (by omega) bel.size
     refine oV hF (aW (aF (hF.at 3 rfl) hF.o) hr) rfl fun a hF=>?_
     clear hr
     replace bel:=bel.trans bb
     clear bb gg hne
     refine E.opset (L':=[(5,.slice la18 ((fiU y m (ar (((fiE y m-5:Int)):Rat)) k).length +1) lc19),(37,.slice la18 ((fiU y m (ar (((fiE y m-5:Int)):Rat)) k).length +1) lc19),(36,.slice (some ⟨gl16,0,none⟩) 1 1),(35,.agg #[iv (moD (ar (((fiE y m-5:Int)):Rat)) k),iv (au (moD (ar (((fiE y m-5:Int)):Rat)) k)),iv (smV (moD (ar (((fiE y m-5:Int)):Rat)) k)%12),iv (smV (au (moD (ar (((fiE y m-5:Int)):Rat)) k))%12)]),(34,iv (moD (ar (((fiE y m-5:Int)):Rat)) k)),(33,.slice la (fiU y m (ar (((fiE y m-5:Int)):Rat)) k).length lc),(32,.bool true),(31,.bool true),(30,iv m),(29,iv ((smV (moD (ar (((fiE y m-5:Int)):Rat)) k)%12+1)%12+1)),(28,iv (smV (moD (ar (((fiE y m-5:Int)):Rat)) k)%12)),(27,iv (moD (ar (((fiE y m-5:Int)):Rat)) k)),(26,.bool true),(25,.bool true),(24,iv ((fiE y m)-5)),(23,iv (fiE y m)),(22,iv (moD (ar (((fiE y m-5:Int)):Rat)) k)),(19,.bool true),(18,iv ((fiE y m)+40)),(17,iv (fiE y m)),(16,iv (moD (ar (((fiE y m-5:Int)):Rat)) k)),(7,iv (moD (ar (((fiE y m-5:Int)):Rat)) k)),(6,iv (fiE y m)),(4,.slice none 0 0),(1,iv m)]) hF (aZ hF.o) rfl rfl rfl rfl fun a hF=>?_
     refine E.nil0<|E.blk<|E.norm<|E.seq<|oM hF 21 rfl rfl fun a hF=>?_
     refine E.call hF (rk Fy (aD hF.o)) (jv (moD (ar (((fiE y m-5:Int)):Rat)) k) _ (by omega) (by omega) (dN hst.2.2 _)) rfl rfl rfl rfl ?_
     rintro e w21 ⟨rfl,bb⟩
     refine⟨_,rfl,?_⟩
     intro a hF
     replace hib:=hib.below bb
     replace bel:=aC bel bb
     clear bb
     refine E.opset (L':=[(7,iv (au (moD (ar (((fiE y m-5:Int)):Rat)) k))),(21,iv (au (moD (ar (((fiE y m-5:Int)):Rat)) k))),(20,iv (moD (ar (((fiE y m-5:Int)):Rat)) k)),(5,.slice la18 ((fiU y m (ar (((fiE y m-5:Int)):Rat)) k).length +1) lc19),(37,.slice la18 ((fiU y m (ar (((fiE y m-5:Int)):Rat)) k).length +1) lc19),(36,.slice (some ⟨gl16,0,none⟩) 1 1),(35,.agg #[iv (moD (ar (((fiE y m-5:Int)):Rat)) k),iv (au (moD (ar (((fiE y m-5:Int)):Rat)) k)),iv (smV (moD (ar (((fiE y m-5:Int)):Rat)) k)%12),iv (smV (au (moD (ar (((fiE y m-5:Int)):Rat)) k))%12)]),(34,iv (moD (ar (((fiE y m-5:Int)):Rat)) k)),(33,.slice la (fiU y m (ar (((fiE y m-5:Int)):Rat)) k).length lc),(32,.bool true),(31,.bool true),(30,iv m),(29,iv ((smV (moD (ar (((fiE y m-5:Int)):Rat)) k)%12+1)%12+1)),(28,iv (smV (moD (ar (((fiE y m-5:Int)):Rat)) k)%12)),(27,iv (moD (ar (((fiE y m-5:Int)):Rat)) k)),(26,.bool true),(25,.bool true),(24,iv ((fiE y m)-5)),(23,iv (fiE y m)),(22,iv (moD (ar (((fiE y m-5:Int)):Rat)) k)),(19,.bool true),(18,iv ((fiE y m)+40)),(17,iv (fiE y m)),(16,iv (moD (ar (((fiE y m-5:Int)):Rat)) k)),(6,iv (fiE y m)),(4,.slice none 0 0),(1,iv m)]) hF (aZ hF.o) rfl rfl rfl rfl fun a hF=>?_
     refine E.nil0<|E.norm ?_
     have hb:fiB y m (moD (ar (((fiE y m-5:Int)):Rat)) k)=true:=(pL hm0 hm1 hc10).2 ⟨hc11,by have:=hc14;omega⟩
     have hlen:(fiU y m (ar (((fiE y m-5:Int)):Rat)) (k+1)).length =((fiU y m (ar (((fiE y m-5:Int)):Rat)) k).length +1):=(by rw[pB hb,List.length_append];rfl)
     exact⟨(3-(k+1)),by omega,⟨(k+1),la18,lc19,(AC hc10),(by rw[hlen];exact Fr.sub (L':=[(7,iv (au (moD (ar (((fiE y m-5:Int)):Rat)) k))),(6,iv (fiE y m)),(5,.slice la18 ((fiU y m (ar (((fiE y m-5:Int)):Rat)) k).length +1) lc19),(4,.slice none 0 0),(1,iv m)]) hF (by intro p hp;simp only [List.mem_cons,List.not_mem_nil,or_false] at hp ⊢;rcases hp with rfl|rfl|rfl|rfl|rfl <;> simp)),bel,(by rw[hlen];exact hib.castM rfl (by rw[pB hb,qX];rfl)),rfl⟩⟩
    ·refine og hF (aq hF.p hF.o aa (aI (aQ (c:=false) (aL hc14)) (by simp))) 4 rfl rfl rfl fun a hF=>oV hF (aH (hF.at 5 rfl) hF.o) rfl fun a hF=>E.nil<|wp_cond_false hF.o<|wp_skip<|E.blk<|E.norm<|E.seq<|oM hF 15 rfl rfl fun a hF=>?_
     refine E.call hF (rk Fy (aD hF.o)) (jv (moD (ar (((fiE y m-5:Int)):Rat)) k) _ (by omega) (by omega) (dN hst.2.2 _)) rfl rfl rfl rfl ?_
     rintro e w22 ⟨rfl,bb⟩
     refine⟨_,rfl,?_⟩
     intro a hF
     replace hia:=hia.below bb
     replace bel:=aC bel bb
     clear bb
     refine E.opset (L':=[(7,iv (au (moD (ar (((fiE y m-5:Int)):Rat)) k))),(21,iv (au (moD (ar (((fiE y m-5:Int)):Rat)) k))),(20,iv (moD (ar (((fiE y m-5:Int)):Rat)) k)),(32,.bool false),(31,.bool false),(30,iv m),(29,iv ((smV (moD (ar (((fiE y m-5:Int)):Rat)) k)%12+1)%12+1)),(28,iv (smV (moD (ar (((fiE y m-5:Int)):Rat)) k)%12)),(27,iv (moD (ar (((fiE y m-5:Int)):Rat)) k)),(26,.bool true),(25,.bool true),(24,iv ((fiE y m)-5)),(23,iv (fiE y m)),(22,iv (moD (ar (((fiE y m-5:Int)):Rat)) k)),(19,.bool true),(18,iv ((fiE y m)+40)),(17,iv (fiE y m)),(16,iv (moD (ar (((fiE y m-5:Int)):Rat)) k)),(6,iv (fiE y m)),(5,.slice la (fiU y m (ar (((fiE y m-5:Int)):Rat)) k).length lc),(4,.slice none 0 0),(1,iv m)]) hF (aZ hF.o) rfl rfl rfl rfl fun a hF=>?_
     refine E.nil0<|E.norm ?_
     have hb:¬fiB y m (moD (ar (((fiE y m-5:Int)):Rat)) k)=true:=fun e=>hc14 (by have:=((pL hm0 hm1 hc10).1 e).2;omega)
     have hlen:(fiU y m (ar (((fiE y m-5:Int)):Rat)) (k+1)).length =(fiU y m (ar (((fiE y m-5:Int)):Rat)) k).length :=(by rw[iI hb])
     exact⟨(3-(k+1)),by omega,⟨(k+1),la,lc,(AC hc10),(by rw[hlen];exact Fr.sub (L':=[(7,iv (au (moD (ar (((fiE y m-5:Int)):Rat)) k))),(6,iv (fiE y m)),(5,.slice la (fiU y m (ar (((fiE y m-5:Int)):Rat)) k).length lc),(4,.slice none 0 0),(1,iv m)]) hF (by intro p hp;simp only [List.mem_cons,List.not_mem_nil,or_false] at hp ⊢;rcases hp with rfl|rfl|rfl|rfl|rfl <;> simp)),bel,(by rw[hlen];exact hia.castM rfl (by rw[iI hb])),rfl⟩⟩
   ·refine oU hF 2 0 (cJ (c:=false) (aL hc11)) rfl rfl rfl fun a hF=>oM hF 0 rfl rfl fun a hF=>nu hF 0 rfl rfl rfl fun a hF=>nu hF 1 rfl rfl rfl fun a hF=>nu hF 2 rfl rfl rfl fun a hF=>nu hF 3 rfl rfl rfl fun a hF=>nu hF 4 rfl rfl rfl fun a hF=>oV hF (aJ (hF.at 5 rfl) ao) rfl fun a hF=>E.nil<|wp_cond_false hF.o<|wp_skip<|E.blk ?_
    refine E.norm<|E.seq<|oM hF 15 rfl rfl fun a hF=>?_
    refine E.call hF (rk Fy (aD hF.o)) (jv (moD (ar (((fiE y m-5:Int)):Rat)) k) _ (by omega) (by omega) (dN hst.2.2 _)) rfl rfl rfl rfl ?_
    rintro e w23 ⟨rfl,bb⟩
    refine⟨_,rfl,?_⟩
    intro a hF
    replace hia:=hia.below bb
    replace bel:=aC bel bb
    clear bb
    refine E.opset (L':=[(7,iv (au (moD (ar (((fiE y m-5:Int)):Rat)) k))),(21,iv (au (moD (ar (((fiE y m-5:Int)):Rat)) k))),(20,iv (moD (ar (((fiE y m-5:Int)):Rat)) k)),(32,.bool false),(31,undef),(30,undef),(29,undef),(28,undef),(27,undef),(26,.bool false),(25,.bool false),(24,iv ((fiE y m)-5)),(23,iv (fiE y m)),(22,iv (moD (ar (((fiE y m-5:Int)):Rat)) k)),(19,.bool true),(18,iv ((fiE y m)+40)),(17,iv (fiE y m)),(16,iv (moD (ar (((fiE y m-5:Int)):Rat)) k)),(6,iv (fiE y m)),(5,.slice la (fiU y m (ar (((fiE y m-5:Int)):Rat)) k).length lc),(4,.slice none 0 0),(1,iv m)]) hF (aZ hF.o) rfl rfl rfl rfl fun a hF=>?_
    refine E.nil0<|E.norm ?_
    have hb:¬fiB y m (moD (ar (((fiE y m-5:Int)):Rat)) k)=true:=fun e=>hc11 ((pL hm0 hm1 hc10).1 e).1
    have hlen:(fiU y m (ar (((fiE y m-5:Int)):Rat)) (k+1)).length =(fiU y m (ar (((fiE y m-5:Int)):Rat)) k).length :=(by rw[iI hb])
    exact⟨(3-(k+1)),by omega,⟨(k+1),la,lc,(AC hc10),(by rw[hlen];exact Fr.sub (L':=[(7,iv (au (moD (ar (((fiE y m-5:Int)):Rat)) k))),(6,iv (fiE y m)),(5,.slice la (fiU y m (ar (((fiE y m-5:Int)):Rat)) k).length lc),(4,.slice none 0 0),(1,iv m)]) hF (by intro p hp;simp only [List.mem_cons,List.not_mem_nil,or_false] at hp ⊢;rcases hp with rfl|rfl|rfl|rfl|rfl <;> simp)),bel,(by rw[hlen];exact hia.castM rfl (by rw[iI hb])),rfl⟩⟩
  ·refine oU hF 2 0 (bv (c:=false) (aL hc10)) rfl rfl rfl fun a hF=>E.nil<|wp_cond_false hF.o<|wp_exit<|E.past<|E.past<|E.out (id:=0)<|E.norm<|wq<|oM hF 6 rfl rfl fun a hF=>?_
   refine E.opset (L':=[(4,.slice la (fiU y m (ar (((fiE y m-5:Int)):Rat)) k).length lc),(38,.slice la (fiU y m (ar (((fiE y m-5:Int)):Rat)) k).length lc),(19,.bool false),(18,iv ((fiE y m)+40)),(17,iv (fiE y m)),(16,iv (moD (ar (((fiE y m-5:Int)):Rat)) k)),(7,iv (moD (ar (((fiE y m-5:Int)):Rat)) k)),(6,iv (fiE y m)),(5,.slice la (fiU y m (ar (((fiE y m-5:Int)):Rat)) k).length lc),(1,iv m)]) hF (aZ hF.o) rfl rfl rfl rfl fun a hF=>?_
   refine nr<|rt Tryz.results24 hF 0 rfl ?_
   have hend:=Lh hk (Int.not_le.1 hc10)
   rw[hend] at hia ⊢
   exact⟨_,_,rfl,hia,bel⟩
end Go.Proofs.YtddiipaomejcfaaGreatDoor
