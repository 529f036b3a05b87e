import Derived.Test.YtdkmjclbhfnegaaDoorKA34
namespace Go.Proofs.YtdkmjclbhfnegaaDoor
open Go.RowKit
set_option maxRecDepth 100000
set_option linter.unusedVariables false
set_option maxHeartbeats 8000000
section
theorem sz_S8:(Tryd.prog.info? 33).map (·.size)=some 8:=by kernel_rfl
theorem sz_SL:(Tryd.prog.info? 23).map (·.size)=some 1:=by kernel_rfl
theorem ze_S8:(Tryd.prog.info? 33).bind (·.zero)=some (.agg #[.slice none 0 0,.slice none 0 0,.slice none 0 0,.slice none 0 0,.slice none 0 0,.slice none 0 0,.slice none 0 0,.slice none 0 0]):=by kernel_rfl
theorem ty_S8:Ty Tryd.prog 33 8 [.slice none 0 0,.slice none 0 0,.slice none 0 0,.slice none 0 0,.slice none 0 0,.slice none 0 0,.slice none 0 0,.slice none 0 0]:=⟨⟨_,Tryd.underlying33,rfl⟩,sz_S8,ze_S8⟩
theorem fill1s {place:Nat→Option (Nat×Nat)} {cells:Array Value} {i off:Nat} {ad:Option Addr} {n c:Nat} {rest:List (Nat×Value)} (hp:place i=some (off,1)) (hc:off+1≤cells.size):
 Instr.fill place cells ((i,.slice ad n c)::rest)=Instr.fill place (cells.setIfInBounds off (.slice ad n c)) rest:=by
 conv=>lhs;unfold Instr.fill
 rw[hp]
 have h1:(Value.slice ad n c).cells =#[.slice ad n c]:=rfl
 simp only [h1]
 rw[if_neg (by simp;omega)]
 rfl
theorem bd_S8 (ad:Nat→Option Addr) (n c:Nat→Nat) (w:World):(Instr.build 33 #[(0,.slice (ad 0) (n 0) (c 0)),(1,.slice (ad 1) (n 1) (c 1)),(2,.slice (ad 2) (n 2) (c 2)),(3,.slice (ad 3) (n 3) (c 3)),(4,.slice (ad 4) (n 4) (c 4)),(5,.slice (ad 5) (n 5) (c 5)),(6,.slice (ad 6) (n 6) (c 6)),(7,.slice (ad 7) (n 7) (c 7))]).run Tryd.prog w
 = .ok (.agg #[.slice (ad 0) (n 0) (c 0),.slice (ad 1) (n 1) (c 1),.slice (ad 2) (n 2) (c 2),.slice (ad 3) (n 3) (c 3),.slice (ad 4) (n 4) (c 4),.slice (ad 5) (n 5) (c 5),.slice (ad 6) (n 6) (c 6),.slice (ad 7) (n 7) (c 7)]) w:=by
 have hz:=zero_run ze_S8 w
 have hs:∀w,(sizeOf 23).run Tryd.prog w= .ok 1 w:=fun w=>size_run sz_SL w
 simp only [Instr.build,Sem.run_bind,hz,Result.andThen_ok,run_underlying Tryd.underlying33,hs]
 rw[show(Value.agg #[Value.slice none 0 0,Value.slice none 0 0,Value.slice none 0 0,Value.slice none 0 0,Value.slice none 0 0,Value.slice none 0 0,Value.slice none 0 0,Value.slice none 0 0]).cells =#[Value.slice none 0 0,Value.slice none 0 0,Value.slice none 0 0,Value.slice none 0 0,Value.slice none 0 0,Value.slice none 0 0,Value.slice none 0 0,Value.slice none 0 0] from rfl]
 rw[fill1s (off:=0) rfl (by simp),fill1s (off:=1) rfl (by simp),fill1s (off:=2) rfl (by simp),fill1s (off:=3) rfl (by simp),fill1s (off:=4) rfl (by simp),fill1s (off:=5) rfl (by simp),fill1s (off:=6) rfl (by simp),fill1s (off:=7) rfl (by simp)]
 simp only [List.setIfInBounds_toArray,List.set_cons_zero,List.set_cons_succ]
 rfl
theorem ix_S8 {f:Nat→Value} {w:World} {z:Int} {k:Nat} (hz:z=((k:Nat):Int)) (hk:k<8) (h1:∀k,k<8→∃ad n c,f k= .slice ad n c):(Instr.index 33 (.agg #[f 0,f 1,f 2,f 3,f 4,f 5,f 6,f 7]) (.int .i64 z)).run Tryd.prog w= .ok (f k) w:=by
 subst hz
 have hs:∀w,(sizeOf 23).run Tryd.prog w= .ok 1 w:=fun w=>size_run sz_SL w
 unfold Instr.index
 simp only [asIntOf,Sem.run_bind,Sem.run_pure,Result.andThen_ok,run_underlying Tryd.underlying33]
 rw[if_pos (by omega)]
 obtain⟨a0,n0,c0,e0⟩:=h1 0 (by decide)
 obtain⟨a1,n1,c1,e1⟩:=h1 1 (by decide)
 obtain⟨a2,n2,c2,e2⟩:=h1 2 (by decide)
 obtain⟨a3,n3,c3,e3⟩:=h1 3 (by decide)
 obtain⟨a4,n4,c4,e4⟩:=h1 4 (by decide)
 obtain⟨a5,n5,c5,e5⟩:=h1 5 (by decide)
 obtain⟨a6,n6,c6,e6⟩:=h1 6 (by decide)
 obtain⟨a7,n7,c7,e7⟩:=h1 7 (by decide)
 have hkk:k=0∨k=1∨k=2∨k=3∨k=4∨k=5∨k=6∨k=7:=by omega
 rw[e0,e1,e2,e3,e4,e5,e6,e7]
 rcases hkk with rfl|rfl|rfl|rfl|rfl|rfl|rfl|rfl <;> simp only [hs,Sem.run_bind,Result.andThen_ok,e0,e1,e2,e3,e4,e5,e6,e7] <;> rfl
theorem r_ixb {P:Program} {w:World} {a:Act} {dst:Option Tmp} {ty:TypeId} {pos:String} {af:Array Edge} {gd:Option (Nat×Bool)} {t:TypeId} {x i:Operand} {p q v:Value} (h:a.eval x=p) (h2:a.eval i=q) (hl:(Instr.index t p q).run P w= .ok v w):
 (execOp a.eval ⟨dst,.index t x i,ty,pos,af,gd⟩).run P w= .ok (.value v) w:=by
 simp only [execOp,h,h2]
 exact run_v hl
structure SRs (W w:World) (g:Nat) (cs:List Value) (rs:List (Value×List (List Nat))):Prop where
 bel:Below W.heap.size W w
 own:Blk w g cs
 low:W.heap.size≤g
 acc:∀p∈rs,AccU w 1 9 (g+1) p.1 p.2.length (strC p.2)
 apart:rs.Pairwise fun p q=>∀k,p.1.ownBlock=some k→q.1.ownBlock≠some k
section
variable {W w w':World} {g:Nat} {cs:List Value} {rs:List (Value×List (List Nat))}
theorem St.rows0 (st:St W w [(g,cs)] []):SRs W w g cs []:=⟨st.bel,st.bk 0 rfl,st.low _ (List.mem_singleton.2 rfl),fun _ h=>(by cases h),List.Pairwise.nil⟩
theorem SRs.row (s:SRs W w g cs rs) {L:List (List Nat)} {ad:Option Addr} {cap:Nat} (h:AccU w' 1 9 w.heap.size (.slice ad L.length cap) L.length (strC L)) (bb:Below w.heap.size w w'):SRs W w' g cs ((.slice ad L.length cap,L)::rs):=by
 refine⟨below_to s.bel bb,s.own.below bb,s.low,fun p hp=>?_,List.pairwise_cons.2 ⟨fun q hq k hk hk2=>?_,s.apart⟩⟩
 ·rcases List.mem_cons.1 hp with rfl|hp
  ·exact h.low s.own.lt
  ·exact(s.acc p hp).below bb
 ·have h1:=(h.lt k hk).1
  have h2:=((s.acc q hq).lt k hk2).2
  omega
theorem SRs.cat {L5 L4:List (List Nat)} {ad5 ad4:Option Addr} {c5 c4:Nat} {ty:TypeId} (s:SRs W w g cs ((.slice ad5 L5.length c5,L5)::(.slice ad4 L4.length c4,L4)::rs)) (h5:0<L5.length) (l5:L5.length≤1000) (l4:L4.length≤1000000):
 ∃ad cap w',(builtin .append #[23,23] ty #[false,false] #[.slice ad4 L4.length c4,.slice ad5 L5.length c5]).run Tryd.prog w= .ok (.value (.slice ad (L4++L5).length cap)) w'∧SRs W w' g cs ((.slice ad (L4++L5).length cap,L4++L5)::rs):=by
 have a5:=s.acc _ List.mem_cons_self
 have a4:=s.acc _ (List.mem_cons_of_mem _ List.mem_cons_self)
 obtain⟨ap5,ap⟩:=List.pairwise_cons.1 s.apart
 obtain⟨ap4,apr⟩:=List.pairwise_cons.1 ap
 obtain⟨gs,more,rfl, -,hgs,hsrc⟩:=a5.row h5
 obtain⟨ad,cap,w',hr,hacc,gg,bb,ku,hne⟩:=AccU.cat (ty:=ty) Tryd.underlying23 infoU_t (by decide) (by decide) a4 hsrc (strC_noU L5) (by rw[strC_len,Nat.mul_one]) (strC_oc L5) h5 l5 l4 s.own.lt (ck:=c5)
 refine⟨ad,cap,w',by rw[List.length_append];exact hr,?_⟩
 have hacc2:AccU w' 1 9 (g+1) (.slice ad (L4++L5).length cap) (L4++L5).length (strC (L4++L5)):=by rw[List.length_append,strC_app];exact hacc
 have hk4:∀k,(Value.slice ad4 L4.length c4).ownBlock =some k→g+1≤k:=fun k e=>(a4.lt k e).1
 refine⟨s.bel.trans (below_grownI gg (fun k e=>by have:=hk4 k e;have:=s.low;omega) s.bel.size),Blk.grown s.own gg (fun e=>by have:=hk4 g e.symm;omega),s.low,fun p hp=>?_,List.pairwise_cons.2 ⟨fun q hq k hk hk2=>?_,apr⟩⟩
 ·rcases List.mem_cons.1 hp with rfl|hp
  ·exact hacc2
  ·have ha:=s.acc p (List.mem_cons_of_mem _ (List.mem_cons_of_mem _ hp))
   have hno:∀k,p.1.ownBlock=some k→(Value.slice ad4 L4.length c4).ownBlock ≠some k:=fun k e e4=>ap4 p hp k e4 e
   refine⟨ha.1.kept gg ?_,fun b e j z hc=>ha.2 b e j z (by rw[←hc];exact(World.cell?_of_block (w:=w) (gg.block b (ha.lt b e).2 (fun e2=>hno b e e2.symm))).symm)⟩
   cases hp1:p.1.ownBlock with
   |none=>exact .inl rfl
   |some k=>exact .inr (fun e=>hno k hp1 e.symm)
 ·have ha:=s.acc q (List.mem_cons_of_mem _ (List.mem_cons_of_mem _ hq))
  exact hne k (ha.lt k hk2).2 (fun e4=>ap4 q hq k e4 hk2) (by simp only [List.length_append] at hk;exact hk)
theorem SRs.sto {vs:List Value} {T n:Nat} {zs:List Value} (s:SRs W w g cs rs) (hT:Ty Tryd.prog T n zs) (hl:vs.length=n) (hl':cs.length=n) (hc:cs.all cellOk=true) (hc':vs.all cellOk=true):
 ∃w',(Instr.storeAt T (.pointer (some ⟨g,0,none⟩)) (.agg vs.toArray)).run Tryd.prog w= .ok () w'∧SRs W w' g vs rs:=by
 obtain⟨w',hr,tu,on⟩:=blk_store (P:=Tryd.prog) (o:=0) (ws:=vs) s.own hT.s hl (by simp[hl']) (cellOk.oc hc') (by subst hl;simp[hl'])
 refine⟨w',hr _ rfl,tu.below s.bel s.low,on,s.low,fun p hp=>?_,s.apart⟩
 have ha:=s.acc p hp
 have gg:w.grownBy w' (some g):=⟨tu.os,tu.tape,tu.output,Nat.le_of_eq tu.size.symm,fun k _ hk=>tu.block k (fun e=>hk (by rw[e]))⟩
 have hno:p.1.ownBlock≠some g:=fun e=>by have:=(ha.lt g e).1;omega
 exact⟨ha.1.kept gg (.inr hno),fun b e j z hc=>ha.2 b e j z (by rw[←hc];exact(World.cell?_of_block (w:=w) (tu.block b (fun e2=>hno (by rw[e,e2])))).symm)⟩
theorem SRs.at (s:SRs W w g cs rs) (i:Nat) {v:Value} {L:List (List Nat)} (h:rs[i]?=some (v,L)):AccU w 1 9 W.heap.size v L.length (strC L):=(s.acc _ (List.mem_of_getElem? h)).low (by have:=s.low;omega)
end
theorem pair8 {a:Act} {x0 x1 x2 x3 x4 x5 x6 x7:Operand} {u0 u1 u2 u3 u4 u5 u6 u7:Value} (h0:a.eval x0=u0) (h1:a.eval x1=u1) (h2:a.eval x2=u2) (h3:a.eval x3=u3) (h4:a.eval x4=u4) (h5:a.eval x5=u5) (h6:a.eval x6=u6) (h7:a.eval x7=u7):#[(0,x0),(1,x1),(2,x2),(3,x3),(4,x4),(5,x5),(6,x6),(7,x7)].map (fun p=>(p.1,a.eval p.2))=#[(0,u0),(1,u1),(2,u2),(3,u3),(4,u4),(5,u5),(6,u6),(7,u7)]:=by simp[h0,h1,h2,h3,h4,h5,h6,h7]
theorem wLists_any (w:World) (hT:TabA w):
 Calls Tryd.prog 13 #[] w (fun e w'=>∃f:Nat→Value,e= .returned (.agg #[f 0,f 1,f 2,f 3,f 4,f 5,f 6,f 7])∧(∀k,k<8→∃ad cap,f k= .slice ad (nmL k).length cap∧AccU w' 1 9 w.heap.size (f k) (nmL k).length (strC (nmL k)))∧Below w.heap.size w w'):=by
 have st:=St.start w
 refine E.enter (nt:=12) (L:=[]) Tryd.func13 rfl rfl rfl args_nil ?_
 intro a hF
 refine wp_seq ?_
 refine E.seq ?_
 refine S.alloc st hF ty_S8 rfl rfl fun g0 w0 a st hF=>?_
 replace st:=st.rows0
 refine E.nil ?_
 refine wp_seq ?_
 refine E.seq ?_
 refine E.call hF (rgc k15 (map1 ev_c)) (wFields_rows nt0 _ (hT.below st.bel) (by kernel_rfl) (by kernel_rfl) (by kernel_rfl) (by decide+kernel) (by decide)) rfl rfl rfl rfl ?_
 rintro e w1 ⟨ad0,cp0,rfl,hac,bb⟩
 refine⟨_,rfl,?_⟩
 intro a hF
 replace st:=st.row hac bb
 clear hac bb
 refine E.call hF (rgc k15 (map1 ev_c)) (wFields_rows nt1 _ (hT.below st.bel) (by kernel_rfl) (by kernel_rfl) (by kernel_rfl) (by decide+kernel) (by decide)) rfl rfl rfl rfl ?_
 rintro e w2 ⟨ad1,cp1,rfl,hac,bb⟩
 refine⟨_,rfl,?_⟩
 intro a hF
 replace st:=st.row hac bb
 clear hac bb
 refine E.call hF (rgc k15 (map1 ev_c)) (wFields_rows nt2 _ (hT.below st.bel) (by kernel_rfl) (by kernel_rfl) (by kernel_rfl) (by decide+kernel) (by decide)) rfl rfl rfl rfl ?_
 rintro e w3 ⟨ad2,cp2,rfl,hac,bb⟩
 refine⟨_,rfl,?_⟩
 intro a hF
 replace st:=st.row hac bb
 clear hac bb
 refine E.call hF (rgc k16 (map2 ev_c ev_c)) (wHalf_any ntS ntP _ (hT.below st.bel) (by decide)) rfl rfl rfl rfl ?_
 rintro e w4 ⟨ad3,cp3,rfl,hac,bb⟩
 refine⟨_,rfl,?_⟩
 intro a hF
 replace st:=st.row hac bb
 clear hac bb
 refine E.call hF (rgc k16 (map2 ev_c ev_c)) (wHalf_any ntK ntA _ (hT.below st.bel) (by decide)) rfl rfl rfl rfl ?_
 rintro e w5 ⟨ad4,cp4,rfl,hac,bb⟩
 refine⟨_,rfl,?_⟩
 intro a hF
 replace st:=st.row hac bb
 clear hac bb
 obtain⟨adc,cpc,w5b,hr,st⟩:=st.cat (ty:=_) (by decide) (by decide) (by decide)
 refine E.opv hF (r_builtin (map2 (hF.at 1 rfl) (hF.at 0 rfl)) hr) rfl rfl rfl rfl fun a hF=>?_
 clear hr
 refine E.call hF (rgc k15 (map1 ev_c)) (wFields_rows nt4 _ (hT.below st.bel) (by kernel_rfl) (by kernel_rfl) (by kernel_rfl) (by decide+kernel) (by decide)) rfl rfl rfl rfl ?_
 rintro e w6 ⟨ad5,cp5,rfl,hac,bb⟩
 refine⟨_,rfl,?_⟩
 intro a hF
 replace st:=st.row hac bb
 clear hac bb
 refine E.call hF (rgc k15 (map1 ev_c)) (wFields_rows nt5 _ (hT.below st.bel) (by kernel_rfl) (by kernel_rfl) (by kernel_rfl) (by decide+kernel) (by decide)) rfl rfl rfl rfl ?_
 rintro e w7 ⟨ad6,cp6,rfl,hac,bb⟩
 refine⟨_,rfl,?_⟩
 intro a hF
 replace st:=st.row hac bb
 clear hac bb
 refine E.call hF (rgc k15 (map1 ev_c)) (wFields_rows nt6 _ (hT.below st.bel) (by kernel_rfl) (by kernel_rfl) (by kernel_rfl) (by decide+kernel) (by decide)) rfl rfl rfl rfl ?_
 rintro e w8 ⟨ad7,cp7,rfl,hac,bb⟩
 refine⟨_,rfl,?_⟩
 intro a hF
 replace st:=st.row hac bb
 clear hac bb
 refine E.call hF (rgc k15 (map1 ev_c)) (wFields_rows nt7 _ (hT.below st.bel) (by kernel_rfl) (by kernel_rfl) (by kernel_rfl) (by decide+kernel) (by decide)) rfl rfl rfl rfl ?_
 rintro e w9 ⟨ad8,cp8,rfl,hac,bb⟩
 refine⟨_,rfl,?_⟩
 intro a hF
 replace st:=st.row hac bb
 clear hac bb
 refine E.opv hF (r_build (pair8 (hF.at 9 rfl) (hF.at 8 rfl) (hF.at 7 rfl) (hF.at 4 rfl) (hF.at 3 rfl) (hF.at 2 rfl) (hF.at 1 rfl) (hF.at 0 rfl)) (bd_S8 (fun k=>[ad0,ad1,ad2,adc,ad5,ad6,ad7,ad8].getD k none) (fun k=>[nt0.length,nt1.length,nt2.length,(nt3.map (ntS++ ·)++[ntP]++(nt3.map (ntK++ ·)++[ntA])).length,nt4.length,nt5.length,nt6.length,nt7.length].getD k 0) (fun k=>[cp0,cp1,cp2,cpc,cp5,cp6,cp7,cp8].getD k 0) _)) rfl rfl rfl rfl fun a hF=>?_
 obtain⟨w10,hr,st⟩:=st.sto (vs:=[.slice ad0 nt0.length cp0,.slice ad1 nt1.length cp1,.slice ad2 nt2.length cp2,.slice adc (nt3.map (ntS++ ·)++[ntP]++(nt3.map (ntK++ ·)++[ntA])).length cpc,.slice ad5 nt4.length cp5,.slice ad6 nt5.length cp6,.slice ad7 nt6.length cp7,.slice ad8 nt7.length cp8]) ty_S8 rfl rfl rfl rfl
 refine E.st hF (r_store (hF.at 11 rfl) (hF.at 0 rfl) hr) rfl rfl fun a hF=>?_
 refine E.nil ?_
 refine wp_ret ?_
 refine bodyPost_ret (res_cell Tryd.results13 (hF.at 11 rfl) (ld_all ty_S8 st.own rfl)) hF.dfr ?_
 refine⟨fun k=>[.slice ad0 nt0.length cp0,.slice ad1 nt1.length cp1,.slice ad2 nt2.length cp2,.slice adc (nt3.map (ntS++ ·)++[ntP]++(nt3.map (ntK++ ·)++[ntA])).length cpc,.slice ad5 nt4.length cp5,.slice ad6 nt5.length cp6,.slice ad7 nt6.length cp7,.slice ad8 nt7.length cp8].getD k (.slice none 0 0),rfl,fun k hk=>?_,st.bel⟩
 have hkk:k=0∨k=1∨k=2∨k=3∨k=4∨k=5∨k=6∨k=7:=by omega
 rcases hkk with rfl|rfl|rfl|rfl|rfl|rfl|rfl|rfl
 ·exact⟨_,_,rfl,st.at 7 rfl⟩
 ·exact⟨_,_,rfl,st.at 6 rfl⟩
 ·exact⟨_,_,rfl,st.at 5 rfl⟩
 ·exact⟨_,_,rfl,st.at 4 rfl⟩
 ·exact⟨_,_,rfl,st.at 3 rfl⟩
 ·exact⟨_,_,rfl,st.at 2 rfl⟩
 ·exact⟨_,_,rfl,st.at 1 rfl⟩
 ·exact⟨_,_,rfl,st.at 0 rfl⟩
end
end Go.Proofs.YtdkmjclbhfnegaaDoor
