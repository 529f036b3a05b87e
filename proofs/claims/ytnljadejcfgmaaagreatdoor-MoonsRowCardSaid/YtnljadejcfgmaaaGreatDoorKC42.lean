import Derived.Test.YtnljadejcfgmaaaGreatDoorKC37
namespace Go.Proofs.YtnljadejcfgmaaaGreatDoor
open Go.RowKit
set_option maxRecDepth 100000
set_option linter.unusedVariables false
set_option maxHeartbeats 8000000
section
section
end
section
end
section
end
end
def AccI (w:World) (m T base:Nat) (v:Value) (n:Nat) (rs:List Value):Prop:=w.ownsRow base T m v n rs
theorem AccI.below {w w':World} {m T base:Nat} {v:Value} {n:Nat} {rs:List Value} (h:AccI w m T base v n rs) (hb:Below w.heap.size w w'):AccI w' m T base v n rs:=
 World.ownsRow.kept h (row:=none) ⟨hb.os,hb.tape,hb.output,hb.size,fun k hk _=>hb.block k hk⟩ (by cases v.ownBlock <;> simp)
theorem Blk.grown {w w':World} {row:Option Nat} {g:Nat} {cs:List Value} (h:Blk w g cs) (hg:w.grownBy w' row) (hne:some g≠row):Blk w' g cs:=by
 have hlt:=h.lt
 obtain⟨T,h1⟩:=h
 exact⟨T,by rw[hg.block g hlt hne];exact h1⟩
theorem own_grownI {w w':World} {row:Option Nat} {g:Nat} {cs:List Value} (h:Own w g cs) (hg:w.grownBy w' row) (hne:some g≠row):Own w' g cs:=⟨Blk.grown h.1 hg hne,h.2⟩
theorem below_grownI {w w':World} {row:Option Nat} {base:Nat} (hg:w.grownBy w' row) (hb:∀g,row=some g→base≤g) (hw:base≤w.heap.size):Below base w w':=
 ⟨hg.os,hg.tape,hg.output,hg.size,fun k hk=>hg.block k (by omega) (fun e=>by have:=hb k e.symm;omega)⟩
theorem AccI.row {w:World} {m T base:Nat} {ad:Option Addr} {n n' cap:Nat} {rs:List Value} (h:AccI w m T base (.slice ad n' cap) n rs) (hp:0<n):
 ∃g more,ad=some ⟨g,0,none⟩∧n'=n∧base≤g∧Blk w g (rs++more):=by
 rcases h.2 with⟨_,e⟩|⟨g,cap',cur,hv,hb,hg,_,_,_,htake⟩
 ·omega
 ·injection hv with e1 e2 e3
  refine⟨g,cur.toList.drop (n*m),e1,e2,hb,⟨T,?_⟩⟩
  rw[←htake,List.take_append_drop];simpa using hg
theorem AccI.app {P:Program} {w:World} {t T ty:TypeId} {m bytes base:Nat} (ht:P.underlying t=some (.slice T)) (hq:∃i z,P.info? T=some i∧i.zero=some z∧i.size=m∧i.bytes=bytes∧z.cells.size=m) (hm:0<m) (hbb:bytes≤64)
 {v:Value} {n:Nat} {rs:List Value} (h:AccI w m T base v n rs) {gs:Nat} {es:List Value} (hsrc:Blk w gs es) (he:es.length=m) (h1:∀u∈es,u.oneCell'=true) (hl:n≤1000000) (hbase:base≤w.heap.size):
 ∃ad cap w',(builtin .append #[t,t] ty #[false,false] #[v,.slice (some ⟨gs,0,none⟩) 1 1]).run P w= .ok (.value (.slice ad (n+1) cap)) w'∧AccI w' m T base (.slice ad (n+1) cap) (n+1) (rs++es)∧w.grownBy w' v.ownBlock∧Below base w w'∧∀b,b<w.heap.size→v.ownBlock≠some b→(Value.slice ad (n+1) cap).ownBlock ≠some b:=by
 obtain⟨i,z,hi,hz,hs,hby,hzs⟩:=hq
 obtain⟨Ts,hsr⟩:=hsrc
 have hnews:∀j u,es[j]?=some u→w.cell? ((⟨gs,0,none⟩:Addr).add j)=some u:=by
  intro j u hj
  rw[Addr.add_mid,Nat.zero_add,cell_of_row w gs j _ _ _ hsr,List.getElem?_toArray];exact hj
 have hll:es.length=1*m:=by rw[he,Nat.one_mul]
 have hb1:(n+1)*bytes≤140737488355328:=by
  have:=Nat.mul_le_mul (show n+1≤1000001 by omega) hbb
  omega
 obtain⟨v',w',hr,h2,h3,_⟩:=run_append_own (P:=P) w base t ty T i z m bytes ht hi hz hs hby hzs hm v n rs h ⟨gs,0,none⟩ 1 1 es hll hnews h1 (by unfold maxLen;omega) hb1 hbase
 have hll':es.length=1*i.size:=by rw[hs];exact hll
 have fin:∀ {ad cap},v'= .slice ad (n+1) cap→(∀b,b<w.heap.size→v.ownBlock≠some b→(Value.slice ad (n+1) cap).ownBlock ≠some b)→∃ad cap w',(builtin .append #[t,t] ty #[false,false] #[v,.slice (some ⟨gs,0,none⟩) 1 1]).run P w= .ok (.value (.slice ad (n+1) cap)) w'∧AccI w' m T base (.slice ad (n+1) cap) (n+1) (rs++es)∧w.grownBy w' v.ownBlock∧Below base w w'∧∀b,b<w.heap.size→v.ownBlock≠some b→(Value.slice ad (n+1) cap).ownBlock ≠some b:=by
  intro ad cap e hb
  subst e
  refine⟨ad,cap,w',?_,h2,h3,below_grownI h3 (fun g e=>(World.ownsRow.lt h g e).1) hbase,hb⟩
  show(do pure (.value (←Builtin.append_ #[t,t] ty #[v,.slice (some ⟨gs,0,none⟩) 1 1])):Sem Next).run P w=_
  rw[Sem.run_bind,hr];rfl
 rcases h.2 with⟨rfl,rfl⟩|⟨g,cap,cur,rfl,hbg,hg,hnc,hcm,hcs,htake⟩
 ·have hr2:=run_append_nil (P:=P) w t ty T i z ht hi hz ⟨gs,0,none⟩ 1 1 es hll' hnews (by decide) (by decide) (by rw[hby];omega)
  rw[hr] at hr2
  injection hr2 with e1 e2
  exact fin e1 fun b hb _ e=>by injection e with e;have e2:w.heap.size=b:=e;omega
 ·by_cases hroom:n+1≤cap
  ·have hfit:n*i.size+es.length≤cur.size:=by
    rw[hs,he,hcs]
    have:=Nat.mul_le_mul_right m hroom
    rwa[Nat.add_mul,Nat.one_mul] at this
   have hr2:=run_append_room (P:=P) w t ty T i ht hi g n cap cur hg ⟨gs,0,none⟩ 1 1 es hll' hnews h1 hroom hfit
   rw[hr] at hr2
   injection hr2 with e1 e2
   exact fin e1 fun b _ h=>h
  ·have holds:∀j u,rs[j]?=some u→w.cell? ((⟨g,0,none⟩:Addr).add j)=some u:=World.ownsRow.cells h (g:=g) rfl
   have hr2:=run_append_grow (P:=P) w t ty T i z ht hi hz ⟨g,0,none⟩ n cap rs (by rw[hs];exact h.1) holds ⟨gs,0,none⟩ 1 1 es hll' hnews (by omega) (by omega) (growslice_fits (by omega) (by rw[hby];exact hb1))
   rw[hr] at hr2
   injection hr2 with e1 e2
   exact fin e1 fun b hb _ e=>by injection e with e;have e2:w.heap.size=b:=e;omega
theorem info_mo:∃i z,Tryz.prog.info? 70=some i∧i.zero=some z∧i.size=4∧i.bytes=32∧z.cells.size=4:=by
 have h1:(Tryz.prog.info? 70).map (·.size)=some 4:=by kernel_rfl
 have h2:(Tryz.prog.info? 70).bind (·.zero)=some (.agg #[.int .i64 0,.int .i64 0,.int .i64 0,.int .i64 0]):=by kernel_rfl
 have h3:(Tryz.prog.info? 70).map (·.bytes)=some 32:=by kernel_rfl
 cases hq:Tryz.prog.info? 70 with
 |none=>rw[hq] at h1;cases h1
 |some i=>exact⟨i,.agg #[.int .i64 0,.int .i64 0,.int .i64 0,.int .i64 0],rfl,by simpa[hq] using h2,by simpa[hq] using h1,by simpa[hq] using h3,rfl⟩
theorem bs_mo0 (w:World) (base:Nat) (hb:base≤w.heap.size):∃g w',w.heap.size=g∧(Instr.buildSlice 79 0 #[]).run Tryz.prog w= .ok (.slice (some ⟨g,0,none⟩) 0 0) w'∧Below w.heap.size w w'∧AccI w' 4 70 base (.slice (some ⟨g,0,none⟩) 0 0) 0 []:=by
 have hn:=blk_new (w:=w) (cs:=[]) 70
 refine⟨w.heap.size,w.alloc (.cells #[] 70),rfl,?_,hn.2,rfl,.inr ⟨w.heap.size,0,#[],rfl,hb,heap_alloc_new w _,Nat.le_refl _,Nat.zero_le _,rfl,rfl⟩⟩
 have hs:=size_run (P:=Tryz.prog) (T:=70) (n:=4) sz_MMO w
 simp[Instr.buildSlice,go_sem,hs,Instr.fill,newRow]
theorem bs_mo1 (w:World) (z0 z1 z2 z3:Int):∃g w',w.heap.size=g∧(Instr.buildSlice 79 1 #[(0,.agg #[.int .i64 z0,.int .i64 z1,.int .i64 z2,.int .i64 z3])]).run Tryz.prog w= .ok (.slice (some ⟨g,0,none⟩) 1 1) w'∧Below w.heap.size w w'∧Blk w' g [.int .i64 z0,.int .i64 z1,.int .i64 z2,.int .i64 z3]:=by
 have hb:=blk_new (w:=w) (cs:=[.int .i64 z0,.int .i64 z1,.int .i64 z2,.int .i64 z3]) 70
 refine⟨w.heap.size,w.alloc (.cells #[.int .i64 z0,.int .i64 z1,.int .i64 z2,.int .i64 z3] 70),rfl,?_,hb.2,hb.1⟩
 have hs:=size_run (P:=Tryz.prog) (T:=70) (n:=4) sz_MMO w
 simp[Instr.buildSlice,go_sem,hs,Instr.fill,Value.cells,newRow]
theorem app_mo {w:World} {base:Nat} {v:Value} {n:Nat} {rs:List Value} (h:AccI w 4 70 base v n rs) {gs:Nat} {z0 z1 z2 z3:Int} (hs:Blk w gs [.int .i64 z0,.int .i64 z1,.int .i64 z2,.int .i64 z3]) (hl:n≤1000000) (bel:base≤w.heap.size) {ty:TypeId}:
 ∃ad cap w',(builtin .append #[79,79] ty #[false,false] #[v,.slice (some ⟨gs,0,none⟩) 1 1]).run Tryz.prog w= .ok (.value (.slice ad (n+1) cap)) w'∧AccI w' 4 70 base (.slice ad (n+1) cap) (n+1) (rs++[.int .i64 z0,.int .i64 z1,.int .i64 z2,.int .i64 z3])∧w.grownBy w' v.ownBlock∧Below base w w'∧∀b,b<w.heap.size→v.ownBlock≠some b→(Value.slice ad (n+1) cap).ownBlock ≠some b:=
 AccI.app Tryz.underlying79 info_mo (by decide) (by decide) h hs rfl (ocI (ocI (ocI (ocI oc0)))) hl bel
theorem ix_mo {w:World} {g n c i:Nat} {z:Int} (hz:z=((i:Nat):Int)) (hi:i<n):(Instr.indexAt 79 (.slice (some ⟨g,0,none⟩) n c) (.int .i64 z)).run Tryz.prog w= .ok (.pointer (some ⟨g,4*i,none⟩)) w:=by
 subst hz
 simp[Instr.indexAt,asIntOf,run_underlying Tryz.underlying79,Sem.run_bind,Addr.add_mid,hi,Nat.mul_comm]
theorem bl_mos {w:World} {ty:TypeId} {a:Option Addr} {n c:Nat}:(builtin .len #[79] ty #[false] #[.slice a n c]).run Tryz.prog w= .ok (.value (.int .i64 ((n:Nat):Int))) w:=by
 simp[Builtin.len_,go_sem,run_underlying Tryz.underlying79]
theorem moR_at1 (d:Int) (more:List Value) {k j:Nat} (h0:0<j) (h:j≤k):((moR d k++more).drop (4*(j-1))).take 4=moC (moD d (j-1)) (moD d j):=by
 have e:=moR_at d more (k:=k) (i:=j-1) (by omega)
 rwa[show j-1+1=j by omega] at e
theorem moRow_any (n:Int) (N:Nat) (v1:Value) (qt:Rat) (k:Nat) (w:World) (hT:TabD w) (h1:Rq w v1 qt) (hl:RLim qt k) (hk:k≤100) (hf0: -9000000≤Rat.floor qt) (hf1:Rat.floor qt≤9000000) (hN:max (min n 40) 0=((N:Nat):Int)):
 Calls Tryz.prog 39 #[v1,.int .i64 n] w (fun e w'=>∃ad cap,e= .returned (.slice ad N cap)∧AccI w' 4 70 w.heap.size (.slice ad N cap) N (moR (lastV qt) N)∧Below w.heap.size w w'):=by
 have hlv:=lastV_bd qt
 have hmb:=fun k=>moD_bd (lastV_comes qt) k
 have bel:Below w.heap.size w w:=Below.refl _ _
 refine E.enter (nt:=31) (L:=[(0,v1),(1,.int .i64 n)]) Tryz.func39 rfl rfl rfl (args_cons (i:=0) rfl (args_cons (i:=1) rfl args_nil)) ?_
 intro a hF
 refine wp_seq ?_
 refine E.seq ?_
 obtain⟨b1,ad1,n1,c1,ae1,m1,d1,rfl,hn1,hd1⟩:=Rq.shape h1
 have hf2:=Wc.abs hn1
 obtain⟨g2,w3,ge2,hr,bb,o2⟩:=own_box (P:=Tryz.prog) (w:=w) (cs:=[.bool b1,.slice ad1 n1 c1,.slice ae1 m1 d1]) (v:= .agg #[.bool b1,.slice ad1 n1 c1,.slice ae1 m1 d1]) 33 rfl (niB (niS (niS ni0)))
 replace ge2:w.heap.size≤g2:=by rw[←ge2];exact bel.size
 refine E.opv hF (r_box (hF.at 0 rfl) hr) rfl rfl rfl rfl fun a hF=>?_
 clear hr
 replace bel:=below_to bel bb
 clear bb
 refine E.opv hF (r_assign ev_c) rfl rfl rfl rfl fun a hF=>?_
 refine E.nil ?_
 refine wp_seq ?_
 refine E.seq ?_
 obtain⟨gl4,w5,egl4,hr,bb,hia0⟩:=bs_mo0 w3 w.heap.size bel.size
 refine E.opv hF (r_buildSlice (by simp) hr) rfl rfl rfl rfl fun a hF=>?_
 clear hr
 have hnv2:(Value.slice (some ⟨gl4,0,none⟩) 0 0).ownBlock ≠some g2:=fun e=>by injection e with e;have:=o2.lt;have e2:gl4=g2:=e;omega
 replace o2:=o2.below bb
 replace bel:=below_to bel bb
 clear bb
 refine E.opv hF (r_assign (hF.at 0 rfl)) rfl rfl rfl rfl fun a hF=>?_
 refine E.nil ?_
 refine wp_seq ?_
 refine wp_seq ?_
 refine E.seq ?_
 refine E.opv hF (r_move (hF.at 5 rfl)) rfl rfl rfl rfl fun a hF=>?_
 refine E.opv hF (r_builtin (map2 (hF.at 0 rfl) ev_c) bl_min) rfl rfl rfl rfl fun a hF=>?_
 refine E.opv hF (r_move ev_c) rfl rfl rfl rfl fun a hF=>?_
 refine E.nil ?_
 refine wp_block ?_
 refine E.loop (fun mq a wv=>∃(i:Nat) (la:Option Addr) (lc:Nat),i≤N∧(Value.slice la i lc).ownBlock ≠some g2∧Fr 31 a [(10,.int .i64 ((i:Nat):Int)),(9,.int .i64 (min n 40)),(5,.slice la i lc),(4,.slice none 0 0),(2,.pointer (some ⟨g2,0,none⟩))]∧Below w.heap.size w wv∧AccI wv 4 70 w.heap.size (.slice la i lc) i (moR (lastV qt) i)∧Own wv g2 [.bool b1,.slice ad1 n1 c1,.slice ae1 m1 d1]∧mq=N-i) (N-0) ?_ ?_
 ·exact⟨0,((some ⟨gl4,0,none⟩)),0,(Nat.zero_le _),hnv2,Fr.sub (L':=[(10,.int .i64 ((0:Nat):Int)),(9,.int .i64 (min n 40)),(5,.slice (some ⟨gl4,0,none⟩) 0 0),(4,.slice none 0 0),(2,.pointer (some ⟨g2,0,none⟩))]) hF (by intro p hp;simp only [List.mem_cons,List.not_mem_nil,or_false] at hp ⊢;rcases hp with rfl|rfl|rfl|rfl|rfl <;> simp),bel,hia0,o2,rfl⟩
 ·rintro mq a w6 ⟨i,la,lc,hi,hnv2,hF,bel,hia,o2,hm⟩
  by_cases hlt:i<N
  ·refine wp_seq ?_
   refine E.seq ?_
   refine E.opv hF (r_bin (hF.at 0 rfl) (hF.at 1 rfl) eg_scalar (bi_int (ic_lss (c:=true) (dec_tt (by omega))) (by simp))) rfl rfl rfl rfl fun a hF=>?_
   refine E.nil ?_
   refine wp_seq ?_
   refine wp_cond_true (hF.at 0 rfl) ?_
   refine wp_skip ?_
   refine E.norm ?_
   refine wp_seq ?_
   refine wp_block ?_
   refine wp_seq ?_
   refine E.seq ?_
   refine E.opv hF (r_move (hF.at 1 rfl)) rfl rfl rfl rfl fun a hF=>?_
   refine E.opv hF (r_assign (hF.at 0 rfl)) rfl rfl rfl rfl fun a hF=>?_
   refine E.nil ?_
   refine wp_seq ?_
   refine wp_seq ?_
   refine E.seq ?_
   refine E.opv hF (r_move (hF.at 0 rfl)) rfl rfl rfl rfl fun a hF=>?_
   by_cases hc7:((i:Nat):Int)=0
   ·refine E.opv hF (r_bin (hF.at 0 rfl) ev_c eg_scalar (bi_int (ic_eql (c:=true) (dec_tt hc7)) (by simp))) rfl rfl rfl rfl fun a hF=>?_
    refine E.nil ?_
    refine wp_cond_true (hF.at 0 rfl) ?_
    refine wp_seq ?_
    obtain rfl:i=0:=by omega
    refine E.seq ?_
    refine E.opv hF (r_move (hF.at 7 rfl)) rfl rfl rfl rfl fun a hF=>?_
    refine E.opv hF (r_load (hF.at 10 rfl) (ld_Rat (vs:=[.bool b1,.slice ad1 n1 c1,.slice ae1 m1 d1]) o2 rfl rfl)) rfl rfl rfl rfl fun a hF=>?_
    refine E.call hF (r_call Tryz.func34 en34.1 en34.2 (map1 (hF.at 0 rfl))) (moAt_any _ (qt) k _ (hT.below bel) (h1.below bel) hl (by omega) (by omega) (by omega)) rfl rfl rfl rfl ?_
    rintro e w8 ⟨rfl,bb⟩
    refine⟨_,rfl,?_⟩
    intro a hF
    replace hia:=hia.below bb
    replace o2:=o2.below bb
    replace bel:=below_to bel bb
    clear bb
    obtain⟨gl9,w10,egl9,hr,bb,ogl9⟩:=bs_mo1 w8 (lastV (qt)) (nextD (lastV (qt))) (smV (lastV (qt))%12) (smV (nextD (lastV (qt)))%12)
    refine E.opv hF (r_buildSlice (pair1 (hF.at 0 rfl)) hr) rfl rfl rfl rfl fun a hF=>?_
    clear hr egl9
    replace hia:=hia.below bb
    replace o2:=o2.below bb
    replace bel:=below_to bel bb
    clear bb
    obtain⟨la11,lc12,w13,hr,hib,gg,bb,hne⟩:=app_mo hia ogl9 (by omega) bel.size
    refine E.opv hF (r_builtin (map2 (hF.at 3 rfl) (hF.at 0 rfl)) hr) rfl rfl rfl rfl fun a hF=>?_
    clear hr
    have hmv2:=hne _ o2.lt hnv2
    replace o2:=own_grownI o2 gg (fun e=>hnv2 e.symm)
    replace hnv2:=hmv2
    clear hmv2
    replace bel:=bel.trans bb
    clear bb gg hne
    refine E.opset (L':=[(5,.slice la11 (0+1) lc12),(19,.slice la11 (0+1) lc12),(18,.slice (some ⟨gl9,0,none⟩) 1 1),(17,.agg #[.int .i64 (lastV (qt)),.int .i64 (nextD (lastV (qt))),.int .i64 (smV (lastV (qt))%12),.int .i64 (smV (nextD (lastV (qt)))%12)]),(16,.agg #[.bool b1,.slice ad1 n1 c1,.slice ae1 m1 d1]),(15,.slice la 0 lc),(14,.bool true),(13,.int .i64 ((0:Nat):Int)),(6,.int .i64 ((0:Nat):Int)),(12,.int .i64 ((0:Nat):Int)),(11,.bool true),(10,.int .i64 ((0:Nat):Int)),(9,.int .i64 (min n 40)),(4,.slice none 0 0),(2,.pointer (some ⟨g2,0,none⟩))]) hF (r_assign (hF.at 0 rfl)) rfl rfl rfl rfl fun a hF=>?_
    refine E.nil ?_
    refine wp_exit ?_
    refine E.past ?_
    refine E.out (id:=1) ?_
    refine E.norm ?_
    refine E.seq ?_
    refine E.opv hF (r_bin (hF.at 11 rfl) ev_c eg_scalar (ia_add (by omega) (by omega))) rfl rfl rfl rfl fun a hF=>?_
    refine E.opset (L':=[(10,.int .i64 (((0:Nat):Int)+1)),(29,.int .i64 (((0:Nat):Int)+1)),(5,.slice la11 (0+1) lc12),(19,.slice la11 (0+1) lc12),(18,.slice (some ⟨gl9,0,none⟩) 1 1),(17,.agg #[.int .i64 (lastV (qt)),.int .i64 (nextD (lastV (qt))),.int .i64 (smV (lastV (qt))%12),.int .i64 (smV (nextD (lastV (qt)))%12)]),(16,.agg #[.bool b1,.slice ad1 n1 c1,.slice ae1 m1 d1]),(15,.slice la 0 lc),(14,.bool true),(13,.int .i64 ((0:Nat):Int)),(6,.int .i64 ((0:Nat):Int)),(12,.int .i64 ((0:Nat):Int)),(11,.bool true),(9,.int .i64 (min n 40)),(4,.slice none 0 0),(2,.pointer (some ⟨g2,0,none⟩))]) hF (r_move (hF.at 0 rfl)) rfl rfl rfl rfl fun a hF=>?_
    refine E.nil0 ?_
    refine E.norm ?_
    exact⟨(N-(0+1)),by omega,⟨(0+1),la11,lc12,(by omega),hnv2,(by rw[show(((0+1:Nat)):Int)=((0:Nat):Int)+1 from by omega];exact Fr.sub (L':=[(10,.int .i64 (((0:Nat):Int)+1)),(9,.int .i64 (min n 40)),(5,.slice la11 (0+1) lc12),(4,.slice none 0 0),(2,.pointer (some ⟨g2,0,none⟩))]) hF (by intro p hp;simp only [List.mem_cons,List.not_mem_nil,or_false] at hp ⊢;rcases hp with rfl|rfl|rfl|rfl|rfl <;> simp)),bel,hib,o2,rfl⟩⟩
   ·refine E.opv hF (r_bin (hF.at 0 rfl) ev_c eg_scalar (bi_int (ic_eql (c:=false) (dec_ff hc7)) (by simp))) rfl rfl rfl rfl fun a hF=>?_
    refine E.nil ?_
    refine wp_cond_false (hF.at 0 rfl) ?_
    refine wp_skip ?_
    refine E.norm ?_
    obtain⟨j,rfl⟩:∃j,i=j+1:=⟨i-1,by omega⟩
    refine E.seq ?_
    refine E.opv hF (r_move (hF.at 7 rfl)) rfl rfl rfl rfl fun a hF=>?_
    refine E.opv hF (r_move (hF.at 8 rfl)) rfl rfl rfl rfl fun a hF=>?_
    refine E.opv hF (r_move (hF.at 4 rfl)) rfl rfl rfl rfl fun a hF=>?_
    refine E.opv hF (r_bin (hF.at 0 rfl) ev_c eg_scalar (ia_sub (by omega) (by omega))) rfl rfl rfl rfl fun a hF=>?_
    obtain⟨gr,more,ead,_,hgr,orow⟩:=hia.row (by omega)
    subst ead
    have hmj:=hmb (j+1)
    refine E.opv hF (r_index (hF.at 2 rfl) (hF.at 0 rfl) (ix_mo (i:=j) (by omega) (by omega))) rfl rfl rfl rfl fun a hF=>?_
    refine E.opv hF (r_load (hF.at 0 rfl) (ldb_MMO (vs:=[.int .i64 (moD (lastV qt) j),.int .i64 (moD (lastV qt) (j+1)),.int .i64 (smV (moD (lastV qt) j)%12),.int .i64 (smV (moD (lastV qt) (j+1))%12)]) orow (moR_at _ _ (by omega)) rfl)) rfl rfl rfl rfl fun a hF=>?_
    refine E.call hF (r_call Tryz.func45 en45.1 en45.2 (map1 (hF.at 0 rfl))) (moAfter_any (moD (lastV qt) j) (moD (lastV qt) (j+1)) (smV (moD (lastV qt) j)%12) (smV (moD (lastV qt) (j+1))%12) _ (hT.below bel) (by omega) (by omega) (moD_comes (lastV_comes qt) _)) rfl rfl rfl rfl ?_
    rintro e w14 ⟨rfl,bb⟩
    refine⟨_,rfl,?_⟩
    intro a hF
    replace hia:=hia.below bb
    replace o2:=o2.below bb
    replace bel:=below_to bel bb
    clear bb
    obtain⟨gl15,w16,egl15,hr,bb,ogl15⟩:=bs_mo1 w14 (moD (lastV qt) (j+1)) (nextD (moD (lastV qt) (j+1))) (smV (moD (lastV qt) (j+1))%12) (smV (nextD (moD (lastV qt) (j+1)))%12)
    refine E.opv hF (r_buildSlice (pair1 (hF.at 0 rfl)) hr) rfl rfl rfl rfl fun a hF=>?_
    clear hr egl15
    replace hia:=hia.below bb
    replace o2:=o2.below bb
    replace bel:=below_to bel bb
    clear bb
    obtain⟨la17,lc18,w19,hr,hib,gg,bb,hne⟩:=app_mo hia ogl15 (by omega) bel.size
    refine E.opv hF (r_builtin (map2 (hF.at 7 rfl) (hF.at 0 rfl)) hr) rfl rfl rfl rfl fun a hF=>?_
    clear hr
    have hmv2:=hne _ o2.lt hnv2
    replace o2:=own_grownI o2 gg (fun e=>hnv2 e.symm)
    replace hnv2:=hmv2
    clear hmv2
    replace bel:=bel.trans bb
    clear bb gg hne
    refine E.opset (L':=[(5,.slice la17 ((j+1)+1) lc18),(28,.slice la17 ((j+1)+1) lc18),(27,.slice (some ⟨gl15,0,none⟩) 1 1),(26,.agg #[.int .i64 (moD (lastV qt) (j+1)),.int .i64 (nextD (moD (lastV qt) (j+1))),.int .i64 (smV (moD (lastV qt) (j+1))%12),.int .i64 (smV (nextD (moD (lastV qt) (j+1)))%12)]),(25,.agg #[.int .i64 (moD (lastV qt) j),.int .i64 (moD (lastV qt) (j+1)),.int .i64 (smV (moD (lastV qt) j)%12),.int .i64 (smV (moD (lastV qt) (j+1))%12)]),(24,.pointer (some ⟨gr,4*j,none⟩)),(23,.int .i64 ((((j+1):Nat):Int)-1)),(22,.int .i64 (((j+1):Nat):Int)),(21,.slice (some ⟨gr,0,none⟩) (j+1) lc),(20,.slice (some ⟨gr,0,none⟩) (j+1) lc),(14,.bool false),(13,.int .i64 (((j+1):Nat):Int)),(6,.int .i64 (((j+1):Nat):Int)),(12,.int .i64 (((j+1):Nat):Int)),(11,.bool true),(10,.int .i64 (((j+1):Nat):Int)),(9,.int .i64 (min n 40)),(4,.slice none 0 0),(2,.pointer (some ⟨g2,0,none⟩))]) hF (r_assign (hF.at 0 rfl)) rfl rfl rfl rfl fun a hF=>?_
    refine E.nil0 ?_
    refine E.blk ?_
    refine E.norm ?_
    refine E.seq ?_
    refine E.opv hF (r_bin (hF.at 15 rfl) ev_c eg_scalar (ia_add (by omega) (by omega))) rfl rfl rfl rfl fun a hF=>?_
    refine E.opset (L':=[(10,.int .i64 ((((j+1):Nat):Int)+1)),(29,.int .i64 ((((j+1):Nat):Int)+1)),(5,.slice la17 ((j+1)+1) lc18),(28,.slice la17 ((j+1)+1) lc18),(27,.slice (some ⟨gl15,0,none⟩) 1 1),(26,.agg #[.int .i64 (moD (lastV qt) (j+1)),.int .i64 (nextD (moD (lastV qt) (j+1))),.int .i64 (smV (moD (lastV qt) (j+1))%12),.int .i64 (smV (nextD (moD (lastV qt) (j+1)))%12)]),(25,.agg #[.int .i64 (moD (lastV qt) j),.int .i64 (moD (lastV qt) (j+1)),.int .i64 (smV (moD (lastV qt) j)%12),.int .i64 (smV (moD (lastV qt) (j+1))%12)]),(24,.pointer (some ⟨gr,4*j,none⟩)),(23,.int .i64 ((((j+1):Nat):Int)-1)),(22,.int .i64 (((j+1):Nat):Int)),(21,.slice (some ⟨gr,0,none⟩) (j+1) lc),(20,.slice (some ⟨gr,0,none⟩) (j+1) lc),(14,.bool false),(13,.int .i64 (((j+1):Nat):Int)),(6,.int .i64 (((j+1):Nat):Int)),(12,.int .i64 (((j+1):Nat):Int)),(11,.bool true),(9,.int .i64 (min n 40)),(4,.slice none 0 0),(2,.pointer (some ⟨g2,0,none⟩))]) hF (r_move (hF.at 0 rfl)) rfl rfl rfl rfl fun a hF=>?_
    refine E.nil0 ?_
    refine E.norm ?_
    exact⟨(N-((j+1)+1)),by omega,⟨((j+1)+1),la17,lc18,(by omega),hnv2,(by rw[show((((j+1)+1:Nat)):Int)=(((j+1):Nat):Int)+1 from by omega];exact Fr.sub (L':=[(10,.int .i64 ((((j+1):Nat):Int)+1)),(9,.int .i64 (min n 40)),(5,.slice la17 ((j+1)+1) lc18),(4,.slice none 0 0),(2,.pointer (some ⟨g2,0,none⟩))]) hF (by intro p hp;simp only [List.mem_cons,List.not_mem_nil,or_false] at hp ⊢;rcases hp with rfl|rfl|rfl|rfl|rfl <;> simp)),bel,hib,o2,rfl⟩⟩
  ·refine wp_seq ?_
   refine E.seq ?_
   refine E.opv hF (r_bin (hF.at 0 rfl) (hF.at 1 rfl) eg_scalar (bi_int (ic_lss (c:=false) (dec_ff (by omega))) (by simp))) rfl rfl rfl rfl fun a hF=>?_
   refine E.nil ?_
   refine wp_seq ?_
   refine wp_cond_false (hF.at 0 rfl) ?_
   refine wp_exit ?_
   refine E.past ?_
   refine E.past ?_
   refine E.out (id:=0) ?_
   refine E.norm ?_
   refine wp_seq ?_
   refine E.seq ?_
   refine E.opv hF (r_move (hF.at 3 rfl)) rfl rfl rfl rfl fun a hF=>?_
   refine E.opset (L':=[(4,.slice la i lc),(30,.slice la i lc),(11,.bool false),(10,.int .i64 ((i:Nat):Int)),(9,.int .i64 (min n 40)),(5,.slice la i lc),(2,.pointer (some ⟨g2,0,none⟩))]) hF (r_assign (hF.at 0 rfl)) rfl rfl rfl rfl fun a hF=>?_
   refine E.nil ?_
   refine wp_ret ?_
   refine bodyPost_ret (res_tmp Tryz.results39 (hF.at 0 rfl)) hF.dfr ?_
   obtain rfl:i=N:=by omega
   exact⟨_,_,rfl,hia,bel⟩
end Go.Proofs.YtnljadejcfgmaaaGreatDoor
