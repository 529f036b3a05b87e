import Derived.Test.YtnljadejcfgmaaaGreatDoorKA13
namespace Go.Proofs.YtnljadejcfgmaaaGreatDoor
open Go.RowKit
set_option maxRecDepth 100000
set_option linter.unusedVariables false
set_option maxHeartbeats 8000000
section
section
end
section
end
section
end
section
end
end
section
section
end
section
theorem rSame_true (v1 v2:Value) (q1 q2:Rat) (w:World) (h1:Rq w v1 q1) (h2:Rq w v2 q2) (h:q1=q2):Calls Tryz.prog 52 #[v1,v2] w (BoolPost w true):=by
 have:=rSame_any v1 v2 q1 q2 w h1 h2
 rw[decide_eq_true h] at this
 exact this
end
section
theorem qc_def (a b:Rat):qc a b=if a<b then -1 else if b<a then 1 else 0:=by
 unfold qc ci
 simp only [←Rat.lt_iff]
theorem sz_def (q:Rat):sz q.num=if q<0 then -1 else if 0<q then 1 else 0:=by
 have h1:q<0↔q.num<0:=by rw[Rat.lt_iff];simp
 have h2:0<q↔0<q.num:=by rw[Rat.lt_iff];simp
 simp only [h1,h2]
 unfold sz
 split
 ·rename_i e;rw[e];simp
 ·split
  ·rfl
  ·rw[if_pos (by omega)]
end
end
theorem limz_fdiv {x:Int} {a:Nat} (y:Int) (h:Lim x.natAbs a):Lim (x.fdiv y).natAbs (a+1):=by
 refine Nat.lt_of_le_of_lt (m:=x.natAbs+1) ?_ ?_
 ·rw[Int.fdiv_eq_ediv]
  have h1:(x/y).natAbs ≤x.natAbs:=Int.natAbs_ediv_le_natAbs x y
  split <;> omega
 ·have h1:B32^a+1≤B32^(a+1):=by
   rw[Nat.pow_succ]
   have h2:0<B32^a:=Nat.pow_pos (by decide)
   have h3:B32^a*2≤B32^a*B32:=Nat.mul_le_mul_left _ (by decide)
   omega
  unfold Lim at h
  omega
section
section
variable {P:Program} {ops:Array Oper} {Q:Exit→Act→World→Prop} {W w:World} {bs:List (Nat×List Value)} {fs:List (World→Prop)} {nt d:Nat} {L:List (Nat×Value)} {rest:List Oper} {a:Act} {T:TypeId} {x y:Operand} {v:Value} {cs vs zs:List Value} {g n:Nat} {ty:TypeId} {pos:String} {af:Array Edge}
theorem S.stooI {o:Nat} {ws:List Value} (st:St W w bs fs) (hF:Fr nt a L) (i:Nat) (hb:bs[i]?=some (g,cs)) (he:a.eval x= .pointer (some ⟨g,o,none⟩)) (hv:a.eval y=v) (hcv:v.cells=vs.toArray) (hT:(P.info? T).map (·.size)=some n) (hl:vs.length=n) (ho:Nat.ble (o+n) cs.length=true) (hc':vs.all cell1=true) (hw:cs.take o++vs++cs.drop (o+n)=ws)
 (k:∀w' a',St W w' (bs.set i (g,ws)) []→Fr nt a' L→wpS P ops Q rest a' w'):wpS P ops Q (⟨none,.store T x y,ty,pos,af,none⟩::rest) a w:=by
 obtain⟨w1,hr,tu,on⟩:=blk_store (P:=P) (o:=o) (ws:=ws) (st.bk i hb) hT hl ho (cell1.oc hc') hw
 exact E.st hF (r_store he hv (hr _ hcv)) rfl rfl fun a' hF'=>k w1 a' (st.setI i hb tu on) hF'
end
end
theorem into_bd {k n:Int} (h:0<n):0≤k%n∧k%n<n:=⟨Int.emod_nonneg k (by omega),Int.emod_lt_of_pos k h⟩
theorem rem_bd {k n:Int} (h:0<n): -n<(if 0≤k then k%n else -(-k%n))∧(if 0≤k then k%n else -(-k%n))<n:=by
 have a:=into_bd (k:=k) h
 have b:=into_bd (k:= -k) h
 split <;> omega
def inD (n:Int):Int:=if(if 0≤n then n%6000001 else -(-n%6000001))< -3000000 then(if 0≤n then n%6000001 else -(-n%6000001))+6000000+1 else if 3000000<(if 0≤n then n%6000001 else -(-n%6000001)) then(if 0≤n then n%6000001 else -(-n%6000001))-6000000-1 else(if 0≤n then n%6000001 else -(-n%6000001))
theorem inD_bd (n:Int): -3000000≤inD n∧inD n≤3000000:=by
 unfold inD
 have:=rem_bd (k:=n) (n:=6000001) (by decide)
 generalize (if 0≤n then n%6000001 else -(-n%6000001))=r at*
 split <;> (try split) <;> omega
theorem inD_any (n:Int) (w:World):
 Calls Tryz.prog 14 #[.int .i64 n] w (ValPost w (.int .i64 (inD n))):=by
 have hrb:=rem_bd (k:=n) (n:=6000001) (by decide)
 have st:=St.start w
 refine E.enter (nt:=17) (L:=[(0,.int .i64 n)]) Tryz.func14 rfl rfl rfl (args_cons (i:=0) rfl args_nil) ?_
 intro a hF
 refine wp_seq ?_
 refine E.seq ?_
 refine E.opv hF (r_assign ev_c) rfl rfl rfl rfl fun a hF=>?_
 refine E.nil ?_
 refine wp_seq ?_
 refine E.seq ?_
 refine E.opv hF (r_move (hF.at 1 rfl)) rfl rfl rfl rfl fun a hF=>?_
 refine E.opv hF (r_bin (hF.at 0 rfl) ev_c eg_scalar (id_rem (a:=n) (b:=6000001) (by omega))) rfl rfl rfl rfl fun a hF=>?_
 refine E.opv hF (r_assign (hF.at 0 rfl)) rfl rfl rfl rfl fun a hF=>?_
 refine E.nil ?_
 refine wp_seq ?_
 refine wp_seq ?_
 refine E.seq ?_
 refine E.opv hF (r_move (hF.at 0 rfl)) rfl rfl rfl rfl fun a hF=>?_
 by_cases hc1:(if 0≤n then n%6000001 else -(-n%6000001))<(-3000000)
 ·refine E.opv hF (r_bin (hF.at 0 rfl) ev_c eg_scalar (bi_int (ic_lss (c:=true) (dec_tt hc1)) (by simp))) rfl rfl rfl rfl fun a hF=>?_
  refine E.nil ?_
  refine wp_cond_true (hF.at 0 rfl) ?_
  refine wp_seq ?_
  refine E.seq ?_
  refine E.opv hF (r_move (hF.at 2 rfl)) rfl rfl rfl rfl fun a hF=>?_
  refine E.opv hF (r_bin (hF.at 0 rfl) ev_c eg_scalar (ia_add (by omega) (by omega))) rfl rfl rfl rfl fun a hF=>?_
  refine E.opv hF (r_bin (hF.at 0 rfl) ev_c eg_scalar (ia_add (by omega) (by omega))) rfl rfl rfl rfl fun a hF=>?_
  refine E.opset (L':=[(2,.int .i64 (((if 0≤n then n%6000001 else -(-n%6000001))+6000000)+1)),(10,.int .i64 (((if 0≤n then n%6000001 else -(-n%6000001))+6000000)+1)),(9,.int .i64 ((if 0≤n then n%6000001 else -(-n%6000001))+6000000)),(8,.int .i64 (if 0≤n then n%6000001 else -(-n%6000001))),(7,.bool true),(6,.int .i64 (if 0≤n then n%6000001 else -(-n%6000001))),(3,.int .i64 (if 0≤n then n%6000001 else -(-n%6000001))),(5,.int .i64 (if 0≤n then n%6000001 else -(-n%6000001))),(4,.int .i64 n),(0,.int .i64 n)]) hF (r_assign (hF.at 0 rfl)) rfl rfl rfl rfl fun a hF=>?_
  refine E.nil ?_
  refine wp_ret ?_
  have bel:=st.bel
  refine bodyPost_ret (res_tmp Tryz.results14 (hF.at 0 rfl)) hF.dfr ?_
  refine⟨rv_int ?_,bel⟩
  unfold inD
  rw[if_pos hc1]
 ·refine E.opv hF (r_bin (hF.at 0 rfl) ev_c eg_scalar (bi_int (ic_lss (c:=false) (dec_ff hc1)) (by simp))) rfl rfl rfl rfl fun a hF=>?_
  refine E.nil ?_
  refine wp_cond_false (hF.at 0 rfl) ?_
  refine wp_skip ?_
  refine E.norm ?_
  refine wp_seq ?_
  refine wp_seq ?_
  refine E.seq ?_
  refine E.opv hF (r_move (hF.at 2 rfl)) rfl rfl rfl rfl fun a hF=>?_
  by_cases hc2:3000000<(if 0≤n then n%6000001 else -(-n%6000001))
  ·refine E.opv hF (r_bin (hF.at 0 rfl) ev_c eg_scalar (bi_int (ic_gtr (c:=true) (dec_tt hc2)) (by simp))) rfl rfl rfl rfl fun a hF=>?_
   refine E.nil ?_
   refine wp_cond_true (hF.at 0 rfl) ?_
   refine wp_seq ?_
   refine E.seq ?_
   refine E.opv hF (r_move (hF.at 4 rfl)) rfl rfl rfl rfl fun a hF=>?_
   refine E.opv hF (r_bin (hF.at 0 rfl) ev_c eg_scalar (ia_sub (by omega) (by omega))) rfl rfl rfl rfl fun a hF=>?_
   refine E.opv hF (r_bin (hF.at 0 rfl) ev_c eg_scalar (ia_sub (by omega) (by omega))) rfl rfl rfl rfl fun a hF=>?_
   refine E.opset (L':=[(2,.int .i64 (((if 0≤n then n%6000001 else -(-n%6000001))-6000000)-1)),(15,.int .i64 (((if 0≤n then n%6000001 else -(-n%6000001))-6000000)-1)),(14,.int .i64 ((if 0≤n then n%6000001 else -(-n%6000001))-6000000)),(13,.int .i64 (if 0≤n then n%6000001 else -(-n%6000001))),(12,.bool true),(11,.int .i64 (if 0≤n then n%6000001 else -(-n%6000001))),(7,.bool false),(6,.int .i64 (if 0≤n then n%6000001 else -(-n%6000001))),(3,.int .i64 (if 0≤n then n%6000001 else -(-n%6000001))),(5,.int .i64 (if 0≤n then n%6000001 else -(-n%6000001))),(4,.int .i64 n),(0,.int .i64 n)]) hF (r_assign (hF.at 0 rfl)) rfl rfl rfl rfl fun a hF=>?_
   refine E.nil ?_
   refine wp_ret ?_
   have bel:=st.bel
   refine bodyPost_ret (res_tmp Tryz.results14 (hF.at 0 rfl)) hF.dfr ?_
   refine⟨rv_int ?_,bel⟩
   unfold inD
   rw[if_neg hc1,if_pos hc2]
  ·refine E.opv hF (r_bin (hF.at 0 rfl) ev_c eg_scalar (bi_int (ic_gtr (c:=false) (dec_ff hc2)) (by simp))) rfl rfl rfl rfl fun a hF=>?_
   refine E.nil ?_
   refine wp_cond_false (hF.at 0 rfl) ?_
   refine wp_skip ?_
   refine E.norm ?_
   refine wp_seq ?_
   refine E.seq ?_
   refine E.opv hF (r_move (hF.at 4 rfl)) rfl rfl rfl rfl fun a hF=>?_
   refine E.opset (L':=[(2,.int .i64 (if 0≤n then n%6000001 else -(-n%6000001))),(16,.int .i64 (if 0≤n then n%6000001 else -(-n%6000001))),(12,.bool false),(11,.int .i64 (if 0≤n then n%6000001 else -(-n%6000001))),(7,.bool false),(6,.int .i64 (if 0≤n then n%6000001 else -(-n%6000001))),(3,.int .i64 (if 0≤n then n%6000001 else -(-n%6000001))),(5,.int .i64 (if 0≤n then n%6000001 else -(-n%6000001))),(4,.int .i64 n),(0,.int .i64 n)]) hF (r_assign (hF.at 0 rfl)) rfl rfl rfl rfl fun a hF=>?_
   refine E.nil ?_
   refine wp_ret ?_
   have bel:=st.bel
   refine bodyPost_ret (res_tmp Tryz.results14 (hF.at 0 rfl)) hF.dfr ?_
   refine⟨rv_int ?_,bel⟩
   unfold inD
   rw[if_neg hc1,if_neg hc2]
end Go.Proofs.YtnljadejcfgmaaaGreatDoor
