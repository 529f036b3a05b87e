import Derived.Test.YtplngpfpcheofaaKC30
namespace Go.Proofs.Ytplngpfpcheofaa
open Go.RowKit
set_option maxRecDepth 100000
set_option linter.unusedVariables false
set_option maxHeartbeats 8000000
section
section
def KeepU (w w':World):Prop:=∀ad xs,Rd w .u32 ad xs→Rd w' .u32 ad xs
def ClU (F:World→Prop):Prop:=∀w w',F w→KeepU w w'→F w'
theorem Dg.keepU {w w':World} {v:Value} {b n:Nat} (h:Dg w .u32 b v n) (kp:KeepU w w'):Dg w' .u32 b v n:=by
 obtain⟨ad,cap,h1,h2,h3⟩:=h
 exact⟨ad,cap,h1,kp _ _ h2,h3⟩
theorem Rq.keepU {w w':World} {v:Value} {q:Rat} (h:Rq w v q) (kp:KeepU w w'):Rq w' v q:=by
 obtain⟨b,ad,n,c,ae,m,d,h1,⟨a,h2,h4⟩,h3⟩:=h
 exact⟨b,ad,n,c,ae,m,d,h1,⟨a,h2,Dg.keepU h4 kp⟩,Dg.keepU h3 kp⟩
theorem Rq.clU {v:Value} {q:Rat}:ClU fun w=>Rq w v q:=fun _ _ h kp=>h.keepU kp
theorem clU0:∀F∈([]:List (World→Prop)),ClU F:=fun _ h=>by cases h
theorem clU1 {F:World→Prop} {fs:List (World→Prop)} (h:ClU F) (hs:∀G∈fs,ClU G):∀G∈F::fs,ClU G:=fun G hG=>by rcases List.mem_cons.1 hG with rfl|hG;exact h;exact hs G hG
theorem Turned.keepU {g:Nat} {w w':World} {z:Int} (h:Turned g w w') (hb:Blk w g [.int .i64 z]):KeepU w w':=by
 obtain⟨T,hg⟩:=hb
 intro ad xs hr
 refine⟨fun i hi=>?_⟩
 obtain⟨b,off,h1,h2,h3⟩:=hr.cell i hi
 have hne:b≠g:=by
  intro e
  subst e
  rw[cell_of_row w b (off+i) _ _ _ hg,List.getElem?_toArray] at h3
  have:=List.mem_of_getElem? h3
  rw[List.mem_singleton] at this
  injection this with e1 e2
  cases e1
 refine⟨b,off,h1,by rw[h.size];exact h2,?_⟩
 rw[←h3]
 exact World.cell?_of_block (w:=w) (h.block b hne)
section
variable {W w w':World} {bs:List (Nat×List Value)} {fs:List (World→Prop)}
theorem St.pickD (st:St W w bs fs) (n m:Nat) (is js:List Nat) {bs':List (Nat×List Value)} {fs':List (World→Prop)} (hb:is.map (bs[·]?)=bs'.map some) (hf:js.map (fs[·]?)=fs'.map some) (hn:is.Pairwise fun a b=>a≠b) (hlt:(is.all fun i=>Nat.blt i n)=true):St W w (bs'++bs.drop n) (fs'++fs.drop m):=by
 have rest:∀ {α:Type} (l:List α) (k:Nat),(List.range' k (l.length-k)).map (l[·]?)=(l.drop k).map some:=by
  intro α l k
  apply List.ext_getElem?
  intro i
  simp only [List.getElem?_map,List.getElem?_drop]
  by_cases h:i<l.length-k
  ·rw[List.getElem?_range' h,List.getElem?_eq_getElem (show k+i<l.length by omega)]
   simp[List.getElem?_eq_getElem (show k+i<l.length by omega)]
  ·rw[List.getElem?_eq_none (by simp;omega),List.getElem?_eq_none (show l.length≤k+i by omega)];rfl
 refine st.pick (is++List.range' n (bs.length-n)) (js++List.range' m (fs.length-m)) ?_ ?_ ?_
 ·rw[List.map_append,List.map_append,hb,rest]
 ·rw[List.map_append,List.map_append,hf,rest]
 ·refine List.pairwise_append.2 ⟨hn,List.Pairwise.imp (fun h=>Nat.ne_of_lt h) List.pairwise_lt_range',fun a ha b hb'=>?_⟩
  have h1:=List.all_eq_true.1 hlt a ha
  have h2:=(List.mem_range'_1.1 hb').1
  simp at h1
  omega
theorem St.setU (st:St W w bs fs) (i:Nat) {g:Nat} {z:Int} {ws:List Value} (h:bs[i]?=some (g,[.int .i64 z])) (hU:∀F∈fs,ClU F) (tu:Turned g w w') (ho:Blk w' g ws):St W w' (bs.set i (g,ws)) fs:=
 let s:=st.setI i h tu ho
 ⟨s.bel,s.own,s.low,s.apart,fun F hF=>hU F hF w w' (st.facts F hF) (tu.keepU (st.bk i h)),st.cl⟩
end
section
variable {P:Program} {ops:Array Oper} {Q:Exit→Act→World→Prop} {W w:World} {bs:List (Nat×List Value)} {fs:List (World→Prop)} {nt d:Nat} {L:List (Nat×Value)} {rest:List Oper} {a:Act} {T:TypeId} {x y:Operand} {ty:TypeId} {pos:String} {af:Array Edge}
theorem S.stoU {g:Nat} {z u:Int} (st:St W w bs fs) (hF:Fr nt a L) (i:Nat) (hb:bs[i]?=some (g,[.int .i64 z])) (hU:∀F∈fs,ClU F) (he:a.eval x= .pointer (some ⟨g,0,none⟩)) (hv:a.eval y= .int .i64 u) (hs:(P.info? T).map (·.size)=some 1)
 (k:∀w' a',St W w' (bs.set i (g,[.int .i64 u])) fs→Fr nt a' L→wpS P ops Q rest a' w'):wpS P ops Q (⟨none,.store T x y,ty,pos,af,none⟩::rest) a w:=by
 obtain⟨w1,hr,tu,on⟩:=blk_store (P:=P) (o:=0) (vs:=[.int .i64 u]) (ws:=[.int .i64 u]) (st.bk i hb) hs rfl rfl (by intro v hv;rw[List.mem_singleton] at hv;subst hv;rfl) rfl
 exact E.st hF (r_store he hv (hr _ rfl)) rfl rfl fun a' hF'=>k w1 a' (st.setU i hb hU tu on) hF'
end
section
variable {P:Program} {ops:Array Oper} {Q:Exit→Act→World→Prop} {W w:World} {bs:List (Nat×List Value)} {fs:List (World→Prop)} {nt d:Nat} {L:List (Nat×Value)} {rest:List Oper} {a:Act} {T:TypeId} {ty:TypeId} {pos:String} {af:Array Edge}
theorem S.newC {z:Int} {ty':TypeId} {pos':String} {af':Array Edge} (st:St W w bs fs) (hF:Fr nt a L) (hs:(P.info? T).map (·.size)=some 1) (hz:(P.info? T).bind (·.zero)=some (.int .i64 0)) (hlt:Nat.blt d nt=true) (hf:freshIn d L=true)
 (k:∀g w' a',St W w' ((g,[.int .i64 z])::bs) fs→Fr nt a' ((d,.pointer (some ⟨g,0,none⟩))::L)→wpS P ops Q rest a' w'):wpS P ops Q (⟨some d,.alloc T,ty,pos,af,none⟩::⟨none,.store T (.tmp d) (.const (.int .i64 z)),ty',pos',af',none⟩::rest) a w:=by
 obtain⟨g,w1,ge,hr,bb,o⟩:=blk_alloc (P:=P) (w:=w) (cs:=[.int .i64 0]) (v:= .int .i64 0) T hz rfl
 refine E.opv hF (r_alloc hr) rfl rfl hlt hf fun a1 hF1=>?_
 obtain⟨w2,hr2,tu,on⟩:=blk_store (P:=P) (o:=0) (vs:=[.int .i64 z]) (ws:=[.int .i64 z]) o hs rfl rfl (by intro v hv;rw[List.mem_singleton] at hv;subst hv;rfl) rfl
 refine E.st hF1 (r_store (eval_tmp (hF1.at 0 rfl)) ev_c (hr2 _ rfl)) rfl rfl fun a2 hF2=>?_
 exact k g w2 a2 (st.new ge (tu.below bb (Nat.le_of_eq ge)) on) hF2
end
structure AskT (W:World) (bs:List (Nat×List Value)) (fs:List (World→Prop)) (i0 gc:Nat) (f:FuncId) (cap:Array Value) (K:Nat) (p:Rat→Bool):Prop where
 fn:∃fn,Try.prog.funcs[f]?=some fn∧(fn.name == "runtime.NumGoroutine")=false∧fn.body.isNone=false
 lt:i0<bs.length
 ask:∀(v:Value) (q:Rat) (w:World) (z:Int) (A:List (Nat×List Value)) (F:List (World→Prop)),(∀G∈F,ClU G)→St W w (A++bs.set i0 (gc,[.int .i64 z])) (F++fs)→0≤z→z≤1000→Rq w v q→RLim q K→
  Calls Try.prog f (#[v]++cap) w fun e w'=>e= .returned (.bool (p q))∧St W w' (A++bs.set i0 (gc,[.int .i64 (z+1)])) (F++fs)
theorem getset {α:Type} {l:List α} {i:Nat} {x:α} (h:i<l.length):(l.set i x)[i]?=some x:=List.getElem?_set_self h
theorem bis2_any (W:World) (bs:List (Nat×List Value)) (fs:List (World→Prop)) (i0 gc:Nat) (v1 v2:Value) (q1 q2:Rat) (k j:Nat) (h:Int) (N:Nat) (kf:FuncId) (cap:Array Value) (p:Rat→Bool) (w:World) (st:St W w (bs.set i0 (gc,[.int .i64 0])) ((fun w=>Rq w v1 q1)::(fun w=>Rq w v2 q2)::fs)) (hU:∀F∈fs,ClU F) (l1:RLim q1 k) (l2:RLim q2 j) (hk:k≤300) (hj:j≤300) (hN:min (max h 0) 64=((N:Nat):Int)) (hN2:N≤64) (hask:AskT W bs fs i0 gc kf cap (2*k+j+8) p):
 Calls Try.prog 6 #[v1,v2,.int .i64 h,.func (.func kf) #[] cap] w (fun e w'=>∃v u,e= .returned (.tuple #[v,u])∧St W w' (bs.set i0 (gc,[.int .i64 ((N:Nat):Int)])) ((fun w=>Rq w v (hlo p q1 q2 N))::(fun w=>Rq w u (hhi p q1 q2 N))::fs)):=by
 obtain⟨fn,hfn1,hfn2,hfn3⟩:=hask.fn
 have h1:Rq w v1 q1:=st.f 0 rfl
 have h2:Rq w v2 q2:=st.f 1 rfl
 refine E.enter (nt:=33) (L:=[(0,v1),(1,v2),(2,.int .i64 h),(3,.func (.func kf) #[] cap)]) Try.func6 rfl rfl rfl (args_cons (i:=0) rfl (args_cons (i:=1) rfl (args_cons (i:=2) rfl (args_cons (i:=3) rfl args_nil)))) ?_
 intro a hF
 refine wp_seq ?_
 refine E.seq ?_
 obtain⟨b2,ad2,n2,c2,ae2,m2,d2,rfl⟩:=Rq.form h1
 refine S.box st hF (hF.at 0 rfl) rfl rfl fun g4 w1 a st hF=>?_
 obtain⟨b4,ad4,n4,c4,ae4,m4,d4,rfl⟩:=Rq.form h2
 refine S.box st hF (hF.at 2 rfl) rfl rfl fun g5 w3 a st hF=>?_
 refine S.alloc st hF ty_Rat rfl rfl fun g8 w5 a st hF=>?_
 refine S.alloc st hF ty_Rat rfl rfl fun g9 w6 a st hF=>?_
 refine E.nil ?_
 refine E.scope (fun mq a wv=>∃(i:Nat) (bb5:Bool) (aa5:Option Addr) (nn5:Nat) (cc5:Nat) (ee5:Option Addr) (mm5:Nat) (dd5:Nat) (bb4:Bool) (aa4:Option Addr) (nn4:Nat) (cc4:Nat) (ee4:Option Addr) (mm4:Nat) (dd4:Nat),i≤N∧Fr 33 a [(10,.int .i64 (((N:Nat):Int)-((i:Nat):Int))),(9,.pointer (some ⟨g9,0,none⟩)),(8,.pointer (some ⟨g8,0,none⟩)),(5,.pointer (some ⟨g5,0,none⟩)),(4,.pointer (some ⟨g4,0,none⟩)),(3,.func (.func kf) #[] cap)]∧St W wv ((g9,[.bool false,.slice none 0 0,.slice none 0 0])::(g8,[.bool false,.slice none 0 0,.slice none 0 0])::(g5,[.bool bb5,.slice aa5 nn5 cc5,.slice ee5 mm5 dd5])::(g4,[.bool bb4,.slice aa4 nn4 cc4,.slice ee4 mm4 dd4])::bs.set i0 (gc,[.int .i64 (((i:Nat):Int))])) ((fun w=>Rq w (.agg #[.bool bb5,.slice aa5 nn5 cc5,.slice ee5 mm5 dd5]) (hhi p q1 q2 i))::(fun w=>Rq w (.agg #[.bool bb4,.slice aa4 nn4 cc4,.slice ee4 mm4 dd4]) (hlo p q1 q2 i))::fs)∧mq=N-i) rfl ?_ ?_
 ·refine E.seq ?_
  refine E.opv hF (r_move (hF.at 6 rfl)) rfl rfl rfl rfl fun a hF=>?_
  refine E.opv hF (r_builtin (map2 (hF.at 0 rfl) ev_c) bl_max) rfl rfl rfl rfl fun a hF=>?_
  refine E.opv hF (r_builtin (map2 (hF.at 0 rfl) ev_c) bl_min) rfl rfl rfl rfl fun a hF=>?_
  refine E.opv hF (r_assign (hF.at 0 rfl)) rfl rfl rfl rfl fun a hF=>?_
  refine E.nil0 ?_
  replace hF:Fr 33 a [(10,.int .i64 (((N:Nat):Int)-((0:Nat):Int))),(14,.int .i64 (min (max h 0) 64)),(13,.int .i64 (max h 0)),(12,.int .i64 h),(9,.pointer (some ⟨g9,0,none⟩)),(8,.pointer (some ⟨g8,0,none⟩)),(5,.pointer (some ⟨g5,0,none⟩)),(4,.pointer (some ⟨g4,0,none⟩)),(0,.agg #[.bool b2,.slice ad2 n2 c2,.slice ae2 m2 d2]),(1,.agg #[.bool b4,.slice ad4 n4 c4,.slice ae4 m4 d4]),(2,.int .i64 h),(3,.func (.func kf) #[] cap)]:=by rw[show((N:Nat):Int)-((0:Nat):Int)=min (max h 0) 64 from by rw[hN];simp];exact hF
  refine E.norm ?_
  exact⟨(N-0),0,_,_,_,_,_,_,_,_,_,_,_,_,_,_,(by omega),Fr.pick (L':=[(10,.int .i64 (((N:Nat):Int)-((0:Nat):Int))),(9,.pointer (some ⟨g9,0,none⟩)),(8,.pointer (some ⟨g8,0,none⟩)),(5,.pointer (some ⟨g5,0,none⟩)),(4,.pointer (some ⟨g4,0,none⟩)),(3,.func (.func kf) #[] cap)]) hF [0,4,5,6,7,11] rfl,((st.add (Rq.castM (st.f 0 rfl) (hlo_zero p q1 q2).symm) (Rq.cl _)).add (Rq.castM (st.f 1 rfl) (hhi_zero p q1 q2).symm) (Rq.cl _)).pickD (bs':=[_,_,_,_]) (fs':=[_,_]) 4 4 [0,1,2,3] [0,1] rfl rfl (by decide) rfl,rfl⟩
 ·rintro mq a w7 ⟨i,bb5,aa5,nn5,cc5,ee5,mm5,dd5,bb4,aa4,nn4,cc4,ee4,mm4,dd4,hi,hF,st,hm⟩
  refine wp_seq ?_
  refine wp_seq ?_
  refine E.seq ?_
  refine E.opv hF (r_move (hF.at 0 rfl)) rfl rfl rfl rfl fun a hF=>?_
  by_cases hc8:((N:Nat):Int)-((i:Nat):Int)=0
  ·first
   |(exfalso;omega)
   |(refine E.opv hF (r_bin (hF.at 0 rfl) ev_c eg_scalar (bi_int (ic_eql (c:=true) (dec_tt hc8)) (by simp))) rfl rfl rfl rfl fun a hF=>?_
     refine E.nil ?_
     refine wp_cond_true (hF.at 0 rfl) ?_
     refine wp_seq ?_
     refine E.ret2 (i0:=3) (i1:=2) (j0:=1) (j1:=0) mixed st hF ty_Rat (fun a hF=>eval_tmp (hF.at 6 rfl)) (fun a hF=>eval_tmp (hF.at 5 rfl)) (fun a hF=>eval_tmp (hF.at 4 rfl)) (fun a hF=>eval_tmp (hF.at 3 rfl)) rfl rfl rfl rfl rfl rfl rfl rfl rfl rfl rfl rfl (by decide) (by decide) (by decide) (by decide) (by decide) (by decide) rfl rfl rfl rfl (by decide+kernel) (by decide+kernel) (by decide+kernel) fun w9 a st hF=>?_
     refine E.norm ?_
     refine wp_ret ?_
     refine E.pastr ?_
     refine E.jumpr ?_
     refine bodyPost_ret (res_cell2 Try.results6 (hF.at 4 rfl) (ld_all ty_Rat (st.bk 1 rfl) rfl) (hF.at 3 rfl) (ld_all ty_Rat (st.bk 0 rfl) rfl)) hF.dfr ?_
     have e:i=N:=by omega
     subst e
     exact⟨_,_,rfl,st.pickD (bs':=[]) (fs':=[_,_]) 4 2 [] [1,0] rfl rfl List.Pairwise.nil rfl⟩)
  ·first
   |(exfalso;omega)
   |(refine E.opv hF (r_bin (hF.at 0 rfl) ev_c eg_scalar (bi_int (ic_eql (c:=false) (dec_ff hc8)) (by simp))) rfl rfl rfl rfl fun a hF=>?_
     refine E.nil ?_
     refine wp_cond_false (hF.at 0 rfl) ?_
     refine wp_skip ?_
     refine E.norm ?_
     refine wp_seq ?_
     refine E.seq ?_
     refine E.opv hF (r_move (hF.at 2 rfl)) rfl rfl rfl rfl fun a hF=>?_
     refine E.opv hF (r_bin (hF.at 0 rfl) ev_c eg_scalar (ia_sub (by omega) (by omega))) rfl rfl rfl rfl fun a hF=>?_
     refine E.opset (L':=[(10,.int .i64 ((((N:Nat):Int)-((i:Nat):Int))-1)),(20,.int .i64 ((((N:Nat):Int)-((i:Nat):Int))-1)),(19,.int .i64 (((N:Nat):Int)-((i:Nat):Int))),(16,.bool false),(15,.int .i64 (((N:Nat):Int)-((i:Nat):Int))),(9,.pointer (some ⟨g9,0,none⟩)),(8,.pointer (some ⟨g8,0,none⟩)),(5,.pointer (some ⟨g5,0,none⟩)),(4,.pointer (some ⟨g4,0,none⟩)),(3,.func (.func kf) #[] cap)]) hF (r_assign (hF.at 0 rfl)) rfl rfl rfl rfl fun a hF=>?_
     refine E.nil ?_
     refine wp_seq ?_
     refine wp_seq ?_
     refine E.seq ?_
     refine E.opv hF (r_load (hF.at 8 rfl) (ld_all ty_Rat (st.bk 3 rfl) rfl)) rfl rfl rfl rfl fun a hF=>?_
     refine E.opv hF (r_load (hF.at 8 rfl) (ld_all ty_Rat (st.bk 2 rfl) rfl)) rfl rfl rfl rfl fun a hF=>?_
     refine S.call st hF (r_call Try.func19 en19.1 en19.2 (map2 (hF.at 1 rfl) (hF.at 0 rfl))) (bmid_any p _ _ q1 q2 i (2*k+j+8) (2*k+j+8) _ (st.f 1 rfl) (st.f 0 rfl) (hlo_lim (p:=p) l1 l2 (by omega)) (hhi_lim (p:=p) l1 l2 (by omega)) (by omega) (by omega)) (fun _ _ h=>h) Rq.cl rfl rfl rfl rfl fun vv11 w10 a st hF=>?_
     obtain⟨b13,ad13,n13,c13,ae13,m13,d13,rfl⟩:=Rq.form (st.f 0 rfl)
     refine S.new st hF 0 rfl ty_Rat rfl rfl rfl rfl rfl fun g11 w14 a st hF=>?_
     refine E.nil ?_
     refine wp_seq ?_
     refine E.seq ?_
     refine E.opv hF (r_move (hF.at 13 rfl)) rfl rfl rfl rfl fun a hF=>?_
     refine E.opv hF (r_bin (hF.at 0 rfl) ev_c eg_func fn_neq) rfl rfl rfl rfl fun a hF=>?_
     refine E.opv hF (r_move (hF.at 0 rfl)) rfl rfl rfl rfl fun a hF=>?_
     refine E.opvg hF (r_move (hF.at 16 rfl)) (wanted_by rfl rfl (hF.at 0 rfl) rfl) rfl rfl rfl fun a hF=>?_
     refine E.opvg hF (r_load (hF.at 4 rfl) (ld_all ty_Rat (st.bk 0 rfl) rfl)) (wanted_by rfl rfl (hF.at 1 rfl) rfl) rfl rfl rfl fun a hF=>?_
     refine E.callg hF (r_callv (hF.at 1 rfl) hfn1 hfn2 hfn3 (map1 (hF.at 0 rfl))) (hask.ask _ (hmi p q1 q2 i) _ ((i:Nat):Int) [_,_,_,_,_] [_,_,_] (clU1 Rq.clU (clU1 Rq.clU (clU1 Rq.clU clU0))) st (by omega) (by omega) (st.f 0 rfl) ((hmi_lim (p:=p) l1 l2 (by omega)).up _ (by omega))) (wanted_by rfl rfl (hF.at 2 rfl) rfl) rfl rfl rfl ?_
     rintro e w15 ⟨rfl,st⟩
     refine⟨_,rfl,fun a hF=>?_⟩
     replace st:St W w15 (_::_::_::_::_::bs.set i0 (gc,[.int .i64 (((i+1:Nat)):Int)])) (_::_::_::fs):=st
     refine E.opv hF (r_pick_t (hF.at 3 rfl) (hF.at 0 rfl)) rfl rfl rfl rfl fun a hF=>?_
     refine E.nil ?_
     by_cases hc16:p (hmi p q1 q2 i)=true
     ·first
      |(exfalso;omega)
      |(refine wp_cond_true (Eq.trans (hF.at 0 rfl) (congrArg Value.bool hc16)) ?_
        refine E.seq ?_
        refine E.opv hF (r_load (hF.at 7 rfl) (ld_all ty_Rat (st.bk 0 rfl) rfl)) rfl rfl rfl rfl fun a hF=>?_
        refine S.sto st hF 3 rfl (hF.at 19 rfl) (hF.at 0 rfl) ty_Rat rfl rfl rfl rfl fun w17 a st hF=>?_
        refine E.nil ?_
        refine wp_goto ?_
        refine E.jump ?_
        replace hF:Fr 33 a [(31,.agg #[.bool b13,.slice ad13 n13 c13,.slice ae13 m13 d13]),(30,.bool (p (hmi p q1 q2 i))),(29,.bool (p (hmi p q1 q2 i))),(28,.agg #[.bool b13,.slice ad13 n13 c13,.slice ae13 m13 d13]),(27,.func (.func kf) #[] cap),(26,.bool true),(25,.bool true),(24,.func (.func kf) #[] cap),(11,.pointer (some ⟨g11,0,none⟩)),(23,.agg #[.bool b13,.slice ad13 n13 c13,.slice ae13 m13 d13]),(22,.agg #[.bool bb5,.slice aa5 nn5 cc5,.slice ee5 mm5 dd5]),(21,.agg #[.bool bb4,.slice aa4 nn4 cc4,.slice ee4 mm4 dd4]),(10,.int .i64 (((N:Nat):Int)-((i+1:Nat):Int))),(20,.int .i64 ((((N:Nat):Int)-((i:Nat):Int))-1)),(19,.int .i64 (((N:Nat):Int)-((i:Nat):Int))),(16,.bool false),(15,.int .i64 (((N:Nat):Int)-((i:Nat):Int))),(9,.pointer (some ⟨g9,0,none⟩)),(8,.pointer (some ⟨g8,0,none⟩)),(5,.pointer (some ⟨g5,0,none⟩)),(4,.pointer (some ⟨g4,0,none⟩)),(3,.func (.func kf) #[] cap)]:=by rw[show((N:Nat):Int)-((i+1:Nat):Int)=((N:Nat):Int)-((i:Nat):Int)-1 from by omega];exact hF
        exact⟨(N-(i+1)),by omega,⟨(i+1),_,_,_,_,_,_,_,_,_,_,_,_,_,_,(by omega),Fr.pick (L':=[(10,.int .i64 (((N:Nat):Int)-((i+1:Nat):Int))),(9,.pointer (some ⟨g9,0,none⟩)),(8,.pointer (some ⟨g8,0,none⟩)),(5,.pointer (some ⟨g5,0,none⟩)),(4,.pointer (some ⟨g4,0,none⟩)),(3,.func (.func kf) #[] cap)]) hF [12,17,18,19,20,21] rfl,((st.add (Rq.castM (st.f 2 rfl) (hlo_t hc16).symm) (Rq.cl _)).add (Rq.castM (st.f 0 rfl) (hhi_t hc16).symm) (Rq.cl _)).pickD (bs':=[_,_,_,_]) (fs':=[_,_]) 5 5 [1,2,3,4] [0,1] rfl rfl (by decide) rfl,rfl⟩⟩)
     ·first
      |(exfalso;omega)
      |(refine wp_cond_false (Eq.trans (hF.at 0 rfl) (congrArg Value.bool (eq_false_of_ne_true hc16))) ?_
        refine E.seq ?_
        refine E.opv hF (r_load (hF.at 7 rfl) (ld_all ty_Rat (st.bk 0 rfl) rfl)) rfl rfl rfl rfl fun a hF=>?_
        refine S.sto st hF 4 rfl (hF.at 20 rfl) (hF.at 0 rfl) ty_Rat rfl rfl rfl rfl fun w18 a st hF=>?_
        refine E.nil ?_
        refine wp_goto ?_
        refine E.jump ?_
        replace hF:Fr 33 a [(32,.agg #[.bool b13,.slice ad13 n13 c13,.slice ae13 m13 d13]),(30,.bool (p (hmi p q1 q2 i))),(29,.bool (p (hmi p q1 q2 i))),(28,.agg #[.bool b13,.slice ad13 n13 c13,.slice ae13 m13 d13]),(27,.func (.func kf) #[] cap),(26,.bool true),(25,.bool true),(24,.func (.func kf) #[] cap),(11,.pointer (some ⟨g11,0,none⟩)),(23,.agg #[.bool b13,.slice ad13 n13 c13,.slice ae13 m13 d13]),(22,.agg #[.bool bb5,.slice aa5 nn5 cc5,.slice ee5 mm5 dd5]),(21,.agg #[.bool bb4,.slice aa4 nn4 cc4,.slice ee4 mm4 dd4]),(10,.int .i64 (((N:Nat):Int)-((i+1:Nat):Int))),(20,.int .i64 ((((N:Nat):Int)-((i:Nat):Int))-1)),(19,.int .i64 (((N:Nat):Int)-((i:Nat):Int))),(16,.bool false),(15,.int .i64 (((N:Nat):Int)-((i:Nat):Int))),(9,.pointer (some ⟨g9,0,none⟩)),(8,.pointer (some ⟨g8,0,none⟩)),(5,.pointer (some ⟨g5,0,none⟩)),(4,.pointer (some ⟨g4,0,none⟩)),(3,.func (.func kf) #[] cap)]:=by rw[show((N:Nat):Int)-((i+1:Nat):Int)=((N:Nat):Int)-((i:Nat):Int)-1 from by omega];exact hF
        exact⟨(N-(i+1)),by omega,⟨(i+1),_,_,_,_,_,_,_,_,_,_,_,_,_,_,(by omega),Fr.pick (L':=[(10,.int .i64 (((N:Nat):Int)-((i+1:Nat):Int))),(9,.pointer (some ⟨g9,0,none⟩)),(8,.pointer (some ⟨g8,0,none⟩)),(5,.pointer (some ⟨g5,0,none⟩)),(4,.pointer (some ⟨g4,0,none⟩)),(3,.func (.func kf) #[] cap)]) hF [12,17,18,19,20,21] rfl,((st.add (Rq.castM (st.f 0 rfl) (hlo_f (eq_false_of_ne_true hc16)).symm) (Rq.cl _)).add (Rq.castM (st.f 1 rfl) (hhi_f (eq_false_of_ne_true hc16)).symm) (Rq.cl _)).pickD (bs':=[_,_,_,_]) (fs':=[_,_]) 5 5 [1,2,3,4] [0,1] rfl rfl (by decide) rfl,rfl⟩⟩))
end
end
end Go.Proofs.Ytplngpfpcheofaa
