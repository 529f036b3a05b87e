import Derived.Test.YtpkhdajnppoinaaGreatKC25
import Derived.Test.YtpkhdajnppoinaaGreatKC27
import Derived.Test.YtpkhdajnppoinaaGreatShc
namespace Go.Proofs.YtpkhdajnppoinaaGreat
open Go.RowKit
set_option maxRecDepth 100000
set_option linter.unusedVariables false
set_option maxHeartbeats 8000000
theorem en19:(Tryz.f19.name == "runtime.NumGoroutine")=false∧Tryz.f19.body.isNone=false:=⟨by decide+kernel,by kernel_rfl⟩
def MLen (w:World):Prop:=∃m:Int,w.cell? ⟨0,0,none⟩=some (.int .i64 m)
theorem MLen.below {w w':World} (h:MLen w) (hb:Below w.heap.size w w'):MLen w':=by
 obtain⟨m,hm⟩:=h
 refine⟨m,?_⟩
 rw[←hm]
 refine World.cell?_of_block (w:=w) (hb.block _ ?_)
 unfold World.cell? at hm
 cases hq:w.heap[0]? with
 |none=>simp[hq] at hm
 |some b=>exact(Array.getElem?_eq_some_iff.1 hq).1
def ci47:List Nat→Nat
 |[]=>0
 |x::l=>if x=47 then 0 else ci47 l+1
theorem ci47_le:∀xs,ci47 xs≤xs.length
 |[]=>by simp[ci47]
 |x::l=>by unfold ci47;have:=ci47_le l;split <;> simp <;> omega
def has47 (xs:List Nat):Bool:=decide (ci47 xs<xs.length)
def hd47 (xs:List Nat):List Nat:=xs.take (ci47 xs)
def tl47 (xs:List Nat):List Nat:=if has47 xs then xs.drop (ci47 xs+1) else[]
theorem idx47:∀xs:List Nat,okb 256 xs→Lib.index (xs.map UInt8.ofNat) [(47:UInt8)]=if ci47 xs<xs.length then((ci47 xs:Nat):Int) else -1
 |[],_=>by simp[Lib.index,ci47]
 |x::l,h=>by
  have ih:=idx47 l (fun y hy=>h y (List.mem_cons_of_mem _ hy))
  have hx:x<256:=h x List.mem_cons_self
  have e:([(47:UInt8)].isPrefixOf (UInt8.ofNat x::l.map UInt8.ofNat))=decide (x=47):=by
   have:(UInt8.ofNat x=47)↔x=47:=by
    constructor
    ·intro e
     have:=congrArg UInt8.toNat e
     rw[UInt8.toNat_ofNat',Nat.mod_eq_of_lt hx] at this
     exact this
    ·rintro rfl;rfl
   by_cases c:x=47
   ·subst c;rfl
   ·have c2:¬UInt8.ofNat x=47:=fun e=>c (this.1 e)
    simp[List.isPrefixOf,c,Ne.symm c2]
  rw[List.map_cons]
  unfold Lib.index
  rw[e,ih,show ci47 (x::l)=if x=47 then 0 else ci47 l+1 from rfl]
  have hl:=ci47_le l
  by_cases c:x=47
  ·rw[if_pos (by simpa using c),if_pos c];simp
  ·simp only [c,decide_false,Bool.false_eq_true,if_false,List.length_cons,beq_iff_eq]
   by_cases c2:ci47 l<l.length
   ·rw[if_pos c2,if_neg (by omega),if_pos (by omega)];omega
   ·rw[if_neg c2,if_pos rfl,if_neg (by omega)]
theorem scut_any (xs:List Nat) (w:World) (hM:MLen w) (h8:okb 256 xs) (hl:xs.length≤1000000000):Calls Tryz.prog 19 #[.string (bstr xs),.string (bstr [47])] w (ValPost w (.tuple #[.string (bstr (hd47 xs)),.string (bstr (tl47 xs)),.bool (has47 xs)])):=by
 obtain⟨m,hm⟩:=hM
 refine(shc_strings_Cut (bstr xs) (bstr [47]) m w (by rw[bstr_size];omega) hm).mono ?_
 rintro e w' ⟨rfl,n,rfl⟩
 refine⟨?_,⟨rfl,rfl,rfl,Nat.le_refl _,fun _ _=>rfl⟩⟩
 have hi:=idx47 xs h8
 have e1:(bstr xs).data.toList =xs.map UInt8.ofNat:=by simp[bstr]
 have e2:(bstr [47]).data.toList =[(47:UInt8)]:=by rfl
 rw[e1,e2]
 unfold Lib.cut
 rw[hi]
 unfold hd47 tl47 has47
 have:=ci47_le xs
 by_cases c:ci47 xs<xs.length
 ·rw[if_pos c,if_pos (by omega),decide_eq_true c]
  simp only [Int.toNat_natCast,←List.map_take,←List.map_drop,List.length_cons,List.length_nil,if_true]
  rfl
 ·rw[if_neg c,if_neg (by decide),decide_eq_false c,show ci47 xs=xs.length by omega,List.take_length]
  rfl
theorem okb_hd {xs:List Nat} (h:okb 256 xs):okb 256 (hd47 xs):=okb_take h _
theorem okb_tl {xs:List Nat} (h:okb 256 xs):okb 256 (tl47 xs):=by unfold tl47;split;exact okb_drop h _;exact okb_nil _
theorem hd_len (xs:List Nat):(hd47 xs).length ≤xs.length:=by unfold hd47;rw[List.length_take];omega
theorem tl_len (xs:List Nat):(tl47 xs).length ≤xs.length:=by unfold tl47;split <;> simp
theorem pz_limC (xs:List Nat):Lim (pz xs).natAbs 106:=by
 unfold pz
 split
 ·rename_i h
  refine sg_lim _ ?_
  unfold pe at h
  split at h
  ·cases h
  ·rename_i h1
   split at h
   ·cases h
   ·rename_i h2
    refine lim_dv (dig_of ?_) (by omega)
    by_cases e:xs=[48]
    ·exact .inl e
    ·exact .inr (Classical.byContradiction fun k=>h1 ⟨e,k⟩)
 ·exact Nat.pow_pos B32_pos
def ce (xs:List Nat):Int:=if pe (hd47 xs)≠0 then pe (hd47 xs) else if has47 xs=false then 0 else if pe (tl47 xs)≠0 then pe (tl47 xs) else if sz (pz (tl47 xs))<0 then 1 else if sz (pz (tl47 xs))=0 then 4 else 0
def cz (xs:List Nat):Rat:=if ce xs≠0 then 0 else if has47 xs=false then(pz (hd47 xs):Rat) else(pz (hd47 xs):Rat)/(pz (tl47 xs):Rat)
def CparsePost (w:World) (xs:List Nat):Ending→World→Prop:=fun e w'=>∃v,e= .returned (.tuple #[v,.int .i64 (ce xs)])∧Rq w' v (cz xs)∧Below w.heap.size w w'
theorem ce_1 {xs:List Nat} (h:pe (hd47 xs)≠0):pe (hd47 xs)=ce xs∧(0:Rat)=cz xs:=by
 have e:ce xs=pe (hd47 xs):=by unfold ce;rw[if_pos h]
 exact⟨e.symm,by unfold cz;rw[if_pos (by rw[e];exact h)]⟩
theorem ce_2 {xs:List Nat} (h:¬pe (hd47 xs)≠0) (k:has47 xs=false):(0:Int)=ce xs∧((pz (hd47 xs):Int):Rat)=cz xs:=by
 have e:ce xs=0:=by unfold ce;rw[if_neg h,if_pos k]
 exact⟨e.symm,by unfold cz;rw[if_neg (by rw[e];simp),if_pos k]⟩
theorem ce_3 {xs:List Nat} (h:¬pe (hd47 xs)≠0) (k:¬has47 xs=false) (l:pe (tl47 xs)≠0):pe (tl47 xs)=ce xs∧(0:Rat)=cz xs:=by
 have e:ce xs=pe (tl47 xs):=by unfold ce;rw[if_neg h,if_neg k,if_pos l]
 exact⟨e.symm,by unfold cz;rw[if_pos (by rw[e];exact l)]⟩
theorem ce_4 {xs:List Nat} (h:¬pe (hd47 xs)≠0) (k:¬has47 xs=false) (l:¬pe (tl47 xs)≠0) (s:sz (pz (tl47 xs))<0):(1:Int)=ce xs∧(0:Rat)=cz xs:=by
 have e:ce xs=1:=by unfold ce;rw[if_neg h,if_neg k,if_neg l,if_pos s]
 exact⟨e.symm,by unfold cz;rw[if_pos (by rw[e];decide)]⟩
theorem ce_5 {xs:List Nat} (h:¬pe (hd47 xs)≠0) (k:¬has47 xs=false) (l:¬pe (tl47 xs)≠0) (s:¬sz (pz (tl47 xs))<0) (t:sz (pz (tl47 xs))=0):(4:Int)=ce xs∧(0:Rat)=cz xs:=by
 have e:ce xs=4:=by unfold ce;rw[if_neg h,if_neg k,if_neg l,if_neg s,if_pos t]
 exact⟨e.symm,by unfold cz;rw[if_pos (by rw[e];decide)]⟩
theorem ce_6 {xs:List Nat} (h:¬pe (hd47 xs)≠0) (k:¬has47 xs=false) (l:¬pe (tl47 xs)≠0) (s:¬sz (pz (tl47 xs))<0) (t:¬sz (pz (tl47 xs))=0):(0:Int)=ce xs∧((pz (hd47 xs):Int):Rat)/((pz (tl47 xs):Int):Rat)=cz xs:=by
 have e:ce xs=0:=by unfold ce;rw[if_neg h,if_neg k,if_neg l,if_neg s,if_neg t]
 exact⟨e.symm,by unfold cz;rw[if_neg (by rw[e];simp),if_neg k]⟩
theorem rv_vi {v:Value} {a b:Int} (h:a=b):Ending.returned (.tuple #[v,.int .i64 a])= .returned (.tuple #[v,.int .i64 b]):=by rw[h]
theorem hasf {xs:List Nat} (h:¬has47 xs=true):has47 xs=false:=by simpa using h
theorem hast {xs:List Nat} (h:has47 xs=true):¬has47 xs=false:=by rw[h];decide
theorem cparse_any (xs:List Nat) (w:World) (hM:MLen w) (h8:okb 256 xs) (hl:xs.length≤1000000000):
 Calls Tryz.prog 44 #[.string (bstr xs)] w (CparsePost w xs):=by
 have bel:Below w.heap.size w w:=Below.refl _ _
 refine E.enter (nt:=52) (L:=[(0,.string (bstr xs))]) Tryz.func44 rfl rfl rfl (args_cons (i:=0) rfl args_nil) ?_
 intro a hF
 refine wp_seq ?_
 refine E.seq ?_
 obtain⟨g2,w1,ge2,hr,bb,o2⟩:=own_alloc (P:=Tryz.prog) (w:=w) (cs:=[.bool false,.slice none 0 0,.slice none 0 0]) 46 ze_Rat rfl (niB (niS (niS ni0)))
 replace ge2:w.heap.size≤g2:=by rw[←ge2];exact bel.size
 refine E.opv hF (r_alloc hr) rfl rfl rfl rfl fun a hF=>?_
 clear hr
 replace bel:=below_to bel bb
 clear bb
 refine E.opv hF (r_assign ev_c) rfl rfl rfl rfl fun a hF=>?_
 refine E.nil ?_
 refine wp_seq ?_
 refine E.seq ?_
 refine E.opv hF (r_move (hF.at 2 rfl)) rfl rfl rfl rfl fun a hF=>?_
 refine E.call hF (r_call Tryz.func19 en19.1 en19.2 (map2 (hF.at 0 rfl) ev_c)) (scut_any (xs) _ (hM.below bel) h8 (by first|omega|decide)) rfl rfl rfl rfl ?_
 rintro e w2 ⟨rfl,bb⟩
 refine⟨_,rfl,?_⟩
 intro a hF
 have hhl:=hd_len (xs)
 have htl:=tl_len (xs)
 replace o2:=o2.below bb
 replace bel:=below_to bel bb
 clear bb
 refine E.opv hF (r_move (hF.at 0 rfl)) rfl rfl rfl rfl fun a hF=>?_
 refine E.opv hF (r_extract (v:= .string (bstr (hd47 (xs)))) (hF.at 0 rfl) rfl) rfl rfl rfl rfl fun a hF=>?_
 refine E.opv hF (r_extract (v:= .string (bstr (tl47 (xs)))) (hF.at 1 rfl) rfl) rfl rfl rfl rfl fun a hF=>?_
 refine E.opv hF (r_extract (v:= .bool (has47 (xs))) (hF.at 2 rfl) rfl) rfl rfl rfl rfl fun a hF=>?_
 refine E.opv hF (r_assign (hF.at 2 rfl)) rfl rfl rfl rfl fun a hF=>?_
 refine E.opv hF (r_assign (hF.at 2 rfl)) rfl rfl rfl rfl fun a hF=>?_
 refine E.opv hF (r_assign (hF.at 2 rfl)) rfl rfl rfl rfl fun a hF=>?_
 refine E.nil ?_
 refine wp_seq ?_
 refine E.seq ?_
 refine E.opv hF (r_move (hF.at 2 rfl)) rfl rfl rfl rfl fun a hF=>?_
 refine E.call hF (r_call Tryz.func73 en73.1 en73.2 (map1 (hF.at 0 rfl))) (parse_any ((hd47 (xs))) _ (okb_hd h8) (by first|omega|decide)) rfl rfl rfl rfl ?_
 rintro e w3 ⟨vv4,rfl,hh5,bb⟩
 refine⟨_,rfl,?_⟩
 intro a hF
 replace o2:=o2.below bb
 replace bel:=below_to bel bb
 clear bb
 obtain⟨ad6,n6,c6,rfl,_⟩:=Wc.shape hh5
 refine E.opv hF (r_move (hF.at 0 rfl)) rfl rfl rfl rfl fun a hF=>?_
 refine E.opv hF (r_extract (v:= .agg #[.bool (decide (pz ((hd47 (xs)))<0)),.slice ad6 n6 c6]) (hF.at 0 rfl) rfl) rfl rfl rfl rfl fun a hF=>?_
 refine E.opv hF (r_extract (v:= .int .i64 (pe ((hd47 (xs))))) (hF.at 1 rfl) rfl) rfl rfl rfl rfl fun a hF=>?_
 obtain⟨g7,w7,ge7,hr,bb,o7⟩:=own_alloc (P:=Tryz.prog) (w:=w3) (cs:=[.bool false,.slice none 0 0]) 44 ze_Int rfl (niB (niS ni0))
 have ne2_7:g2≠g7:=by rw[←ge7];exact o2.ne_new
 replace ge7:w.heap.size≤g7:=by rw[←ge7];exact bel.size
 refine E.opv hF (r_alloc hr) rfl rfl rfl rfl fun a hF=>?_
 clear hr
 replace hh5:=hh5.below bb
 replace o2:=o2.below bb
 replace bel:=below_to bel bb
 clear bb
 obtain⟨w8,hr,tu,on⟩:=st_Int (vs:=[.bool (decide (pz ((hd47 (xs)))<0)),.slice ad6 n6 c6]) o7 rfl rfl (ocB (ocS oc0)) (niB (niS ni0)) (o:=0) rfl
 have kp:=tu.keep o7
 refine E.st hF (r_store (hF.at 0 rfl) (hF.at 2 rfl) (hr _ rfl)) rfl rfl fun a hF=>?_
 clear hr
 replace hh5:=hh5.keep kp
 replace o2:=tu.own o2 ne2_7
 replace bel:=tu.below bel ge7
 clear tu kp
 replace o7:=on
 clear on
 have hf9:=Wc.abs hh5
 refine E.opv hF (r_assign (hF.at 1 rfl)) rfl rfl rfl rfl fun a hF=>?_
 refine E.nil ?_
 refine wp_seq ?_
 refine wp_seq ?_
 refine E.seq ?_
 refine E.opv hF (r_move (hF.at 0 rfl)) rfl rfl rfl rfl fun a hF=>?_
 by_cases hc10:pe ((hd47 (xs)))≠0
 ·refine E.opv hF (r_bin (hF.at 0 rfl) ev_c eg_scalar (bi_int (ic_neq (c:=true) (dec_tt hc10)) (by simp))) rfl rfl rfl rfl fun a hF=>?_
  refine E.nil ?_
  refine wp_cond_true (hF.at 0 rfl) ?_
  refine wp_seq ?_
  refine E.seq ?_
  refine E.opv hF (r_build (by simp) (bd_Rat_ _)) rfl rfl rfl rfl fun a hF=>?_
  refine E.opv hF (r_move (hF.at 3 rfl)) rfl rfl rfl rfl fun a hF=>?_
  obtain⟨w11,hr,tu,on⟩:=st_Rat (vs:=[.bool false,.slice none 0 0,.slice none 0 0]) o2 rfl rfl (ocB (ocS (ocS oc0))) (niB (niS (niS ni0))) (o:=0) rfl
  have kp:=tu.keep o2
  refine E.st hF (r_store (hF.at 21 rfl) (hF.at 1 rfl) (hr _ rfl)) rfl rfl fun a hF=>?_
  clear hr
  replace hf9:=hf9.keep kp
  replace hh5:=hh5.keep kp
  replace o7:=tu.own o7 (Ne.symm ne2_7)
  replace bel:=tu.below bel ge2
  clear tu kp
  replace o2:=on
  clear on
  refine E.opset (L':=[(3,.int .i64 (pe ((hd47 (xs))))),(24,.int .i64 (pe ((hd47 (xs))))),(23,.agg #[.bool false,.slice none 0 0,.slice none 0 0]),(22,.bool true),(21,.int .i64 (pe ((hd47 (xs))))),(8,.int .i64 (pe ((hd47 (xs))))),(7,.pointer (some ⟨g7,0,none⟩)),(20,.int .i64 (pe ((hd47 (xs))))),(19,.agg #[.bool (decide (pz ((hd47 (xs)))<0)),.slice ad6 n6 c6]),(16,.tuple #[.agg #[.bool (decide (pz ((hd47 (xs)))<0)),.slice ad6 n6 c6],.int .i64 (pe ((hd47 (xs))))]),(18,.tuple #[.agg #[.bool (decide (pz ((hd47 (xs)))<0)),.slice ad6 n6 c6],.int .i64 (pe ((hd47 (xs))))]),(17,.string (bstr (hd47 (xs)))),(6,.bool (has47 (xs))),(5,.string (bstr (tl47 (xs)))),(4,.string (bstr (hd47 (xs)))),(15,.bool (has47 (xs))),(14,.string (bstr (tl47 (xs)))),(13,.string (bstr (hd47 (xs)))),(10,.tuple #[.string (bstr (hd47 (xs))),.string (bstr (tl47 (xs))),.bool (has47 (xs))]),(12,.tuple #[.string (bstr (hd47 (xs))),.string (bstr (tl47 (xs))),.bool (has47 (xs))]),(11,.string (bstr xs)),(2,.pointer (some ⟨g2,0,none⟩)),(0,.string (bstr xs))]) hF (r_assign (hF.at 0 rfl)) rfl rfl rfl rfl fun a hF=>?_
  refine E.nil ?_
  refine wp_ret ?_
  refine bodyPost_ret (res_celltmp Tryz.results44 (hF.at 21 rfl) (ld_Rat (vs:=[.bool false,.slice none 0 0,.slice none 0 0]) o2 rfl rfl) (hF.at 0 rfl)) hF.dfr ?_
  have hc:=ce_1 hc10
  exact⟨_,rv_vi hc.1,Rq.castM (Rq.zero _) hc.2,bel⟩
 ·refine E.opv hF (r_bin (hF.at 0 rfl) ev_c eg_scalar (bi_int (ic_neq (c:=false) (dec_ff hc10)) (by simp))) rfl rfl rfl rfl fun a hF=>?_
  refine E.nil ?_
  refine wp_cond_false (hF.at 0 rfl) ?_
  refine wp_skip ?_
  refine E.norm ?_
  refine wp_seq ?_
  refine wp_seq ?_
  refine E.seq ?_
  refine E.opv hF (r_move (hF.at 9 rfl)) rfl rfl rfl rfl fun a hF=>?_
  by_cases hc12:has47 (xs)=true
  ·refine E.opv hF (r_un (Eq.trans (hF.at 0 rfl) (congrArg Value.bool hc12)) (bn_not _ false rfl)) rfl rfl rfl rfl fun a hF=>?_
   refine E.nil ?_
   refine wp_cond_false (hF.at 0 rfl) ?_
   refine wp_skip ?_
   refine E.norm ?_
   refine wp_seq ?_
   refine E.seq ?_
   refine E.opv hF (r_move (hF.at 12 rfl)) rfl rfl rfl rfl fun a hF=>?_
   refine E.call hF (r_call Tryz.func73 en73.1 en73.2 (map1 (hF.at 0 rfl))) (parse_any ((tl47 (xs))) _ (okb_tl h8) (by first|omega|decide)) rfl rfl rfl rfl ?_
   rintro e w13 ⟨vv14,rfl,hh15,bb⟩
   refine⟨_,rfl,?_⟩
   intro a hF
   replace hf9:=hf9.below bb
   replace hh5:=hh5.below bb
   replace o2:=o2.below bb
   replace o7:=o7.below bb
   replace bel:=below_to bel bb
   clear bb
   obtain⟨ad16,n16,c16,rfl,_⟩:=Wc.shape hh15
   refine E.opv hF (r_move (hF.at 0 rfl)) rfl rfl rfl rfl fun a hF=>?_
   refine E.opv hF (r_extract (v:= .agg #[.bool (decide (pz ((tl47 (xs)))<0)),.slice ad16 n16 c16]) (hF.at 0 rfl) rfl) rfl rfl rfl rfl fun a hF=>?_
   refine E.opv hF (r_extract (v:= .int .i64 (pe ((tl47 (xs))))) (hF.at 1 rfl) rfl) rfl rfl rfl rfl fun a hF=>?_
   obtain⟨g9,w17,ge9,hr,bb,o9⟩:=own_alloc (P:=Tryz.prog) (w:=w13) (cs:=[.bool false,.slice none 0 0]) 44 ze_Int rfl (niB (niS ni0))
   have ne2_9:g2≠g9:=by rw[←ge9];exact o2.ne_new
   have ne7_9:g7≠g9:=by rw[←ge9];exact o7.ne_new
   replace ge9:w.heap.size≤g9:=by rw[←ge9];exact bel.size
   refine E.opv hF (r_alloc hr) rfl rfl rfl rfl fun a hF=>?_
   clear hr
   replace hh15:=hh15.below bb
   replace hf9:=hf9.below bb
   replace hh5:=hh5.below bb
   replace o2:=o2.below bb
   replace o7:=o7.below bb
   replace bel:=below_to bel bb
   clear bb
   obtain⟨w18,hr,tu,on⟩:=st_Int (vs:=[.bool (decide (pz ((tl47 (xs)))<0)),.slice ad16 n16 c16]) o9 rfl rfl (ocB (ocS oc0)) (niB (niS ni0)) (o:=0) rfl
   have kp:=tu.keep o9
   refine E.st hF (r_store (hF.at 0 rfl) (hF.at 2 rfl) (hr _ rfl)) rfl rfl fun a hF=>?_
   clear hr
   replace hf9:=hf9.keep kp
   replace hh5:=hh5.keep kp
   replace hh15:=hh15.keep kp
   replace o2:=tu.own o2 ne2_9
   replace o7:=tu.own o7 ne7_9
   replace bel:=tu.below bel ge9
   clear tu kp
   replace o9:=on
   clear on
   have hf19:=Wc.abs hh15
   refine E.opset (L':=[(8,.int .i64 (pe ((tl47 (xs))))),(9,.pointer (some ⟨g9,0,none⟩)),(33,.int .i64 (pe ((tl47 (xs))))),(32,.agg #[.bool (decide (pz ((tl47 (xs)))<0)),.slice ad16 n16 c16]),(29,.tuple #[.agg #[.bool (decide (pz ((tl47 (xs)))<0)),.slice ad16 n16 c16],.int .i64 (pe ((tl47 (xs))))]),(31,.tuple #[.agg #[.bool (decide (pz ((tl47 (xs)))<0)),.slice ad16 n16 c16],.int .i64 (pe ((tl47 (xs))))]),(30,.string (bstr (tl47 (xs)))),(26,.bool false),(25,.bool (has47 (xs))),(22,.bool false),(21,.int .i64 (pe ((hd47 (xs))))),(7,.pointer (some ⟨g7,0,none⟩)),(20,.int .i64 (pe ((hd47 (xs))))),(19,.agg #[.bool (decide (pz ((hd47 (xs)))<0)),.slice ad6 n6 c6]),(16,.tuple #[.agg #[.bool (decide (pz ((hd47 (xs)))<0)),.slice ad6 n6 c6],.int .i64 (pe ((hd47 (xs))))]),(18,.tuple #[.agg #[.bool (decide (pz ((hd47 (xs)))<0)),.slice ad6 n6 c6],.int .i64 (pe ((hd47 (xs))))]),(17,.string (bstr (hd47 (xs)))),(6,.bool (has47 (xs))),(5,.string (bstr (tl47 (xs)))),(4,.string (bstr (hd47 (xs)))),(15,.bool (has47 (xs))),(14,.string (bstr (tl47 (xs)))),(13,.string (bstr (hd47 (xs)))),(10,.tuple #[.string (bstr (hd47 (xs))),.string (bstr (tl47 (xs))),.bool (has47 (xs))]),(12,.tuple #[.string (bstr (hd47 (xs))),.string (bstr (tl47 (xs))),.bool (has47 (xs))]),(11,.string (bstr xs)),(3,.int .i64 0),(2,.pointer (some ⟨g2,0,none⟩)),(0,.string (bstr xs))]) hF (r_assign (hF.at 1 rfl)) rfl rfl rfl rfl fun a hF=>?_
   refine E.nil ?_
   refine wp_seq ?_
   refine wp_block ?_
   refine wp_seq ?_
   refine E.seq ?_
   refine E.opv hF (r_move (hF.at 0 rfl)) rfl rfl rfl rfl fun a hF=>?_
   by_cases hc20:pe ((tl47 (xs)))≠0
   ·refine E.opv hF (r_bin (hF.at 0 rfl) ev_c eg_scalar (bi_int (ic_neq (c:=true) (dec_tt hc20)) (by simp))) rfl rfl rfl rfl fun a hF=>?_
    refine E.opv hF (r_assign (hF.at 0 rfl)) rfl rfl rfl rfl fun a hF=>?_
    refine E.nil ?_
    refine wp_cond_true (hF.at 0 rfl) ?_
    refine wp_seq ?_
    refine E.seq ?_
    refine E.opv hF (r_build (by simp) (bd_Rat_ _)) rfl rfl rfl rfl fun a hF=>?_
    refine E.opv hF (r_move (hF.at 4 rfl)) rfl rfl rfl rfl fun a hF=>?_
    obtain⟨w21,hr,tu,on⟩:=st_Rat (vs:=[.bool false,.slice none 0 0,.slice none 0 0]) o2 rfl rfl (ocB (ocS (ocS oc0))) (niB (niS (niS ni0))) (o:=0) rfl
    have kp:=tu.keep o2
    refine E.st hF (r_store (hF.at 32 rfl) (hF.at 1 rfl) (hr _ rfl)) rfl rfl fun a hF=>?_
    clear hr
    replace hf9:=hf9.keep kp
    replace hh5:=hh5.keep kp
    replace hf19:=hf19.keep kp
    replace hh15:=hh15.keep kp
    replace o7:=tu.own o7 (Ne.symm ne2_7)
    replace o9:=tu.own o9 (Ne.symm ne2_9)
    replace bel:=tu.below bel ge2
    clear tu kp
    replace o2:=on
    clear on
    refine E.opset (L':=[(3,.int .i64 (pe ((tl47 (xs))))),(38,.int .i64 (pe ((tl47 (xs))))),(37,.agg #[.bool false,.slice none 0 0,.slice none 0 0]),(34,.bool true),(36,.bool true),(35,.int .i64 (pe ((tl47 (xs))))),(8,.int .i64 (pe ((tl47 (xs))))),(9,.pointer (some ⟨g9,0,none⟩)),(33,.int .i64 (pe ((tl47 (xs))))),(32,.agg #[.bool (decide (pz ((tl47 (xs)))<0)),.slice ad16 n16 c16]),(29,.tuple #[.agg #[.bool (decide (pz ((tl47 (xs)))<0)),.slice ad16 n16 c16],.int .i64 (pe ((tl47 (xs))))]),(31,.tuple #[.agg #[.bool (decide (pz ((tl47 (xs)))<0)),.slice ad16 n16 c16],.int .i64 (pe ((tl47 (xs))))]),(30,.string (bstr (tl47 (xs)))),(26,.bool false),(25,.bool (has47 (xs))),(22,.bool false),(21,.int .i64 (pe ((hd47 (xs))))),(7,.pointer (some ⟨g7,0,none⟩)),(20,.int .i64 (pe ((hd47 (xs))))),(19,.agg #[.bool (decide (pz ((hd47 (xs)))<0)),.slice ad6 n6 c6]),(16,.tuple #[.agg #[.bool (decide (pz ((hd47 (xs)))<0)),.slice ad6 n6 c6],.int .i64 (pe ((hd47 (xs))))]),(18,.tuple #[.agg #[.bool (decide (pz ((hd47 (xs)))<0)),.slice ad6 n6 c6],.int .i64 (pe ((hd47 (xs))))]),(17,.string (bstr (hd47 (xs)))),(6,.bool (has47 (xs))),(5,.string (bstr (tl47 (xs)))),(4,.string (bstr (hd47 (xs)))),(15,.bool (has47 (xs))),(14,.string (bstr (tl47 (xs)))),(13,.string (bstr (hd47 (xs)))),(10,.tuple #[.string (bstr (hd47 (xs))),.string (bstr (tl47 (xs))),.bool (has47 (xs))]),(12,.tuple #[.string (bstr (hd47 (xs))),.string (bstr (tl47 (xs))),.bool (has47 (xs))]),(11,.string (bstr xs)),(2,.pointer (some ⟨g2,0,none⟩)),(0,.string (bstr xs))]) hF (r_assign (hF.at 0 rfl)) rfl rfl rfl rfl fun a hF=>?_
    refine E.nil ?_
    refine wp_ret ?_
    refine bodyPost_ret (res_celltmp Tryz.results44 (hF.at 32 rfl) (ld_Rat (vs:=[.bool false,.slice none 0 0,.slice none 0 0]) o2 rfl rfl) (hF.at 0 rfl)) hF.dfr ?_
    have hc:=ce_3 hc10 (hast hc12) hc20
    exact⟨_,rv_vi hc.1,Rq.castM (Rq.zero _) hc.2,bel⟩
   ·refine E.opv hF (r_bin (hF.at 0 rfl) ev_c eg_scalar (bi_int (ic_neq (c:=false) (dec_ff hc20)) (by simp))) rfl rfl rfl rfl fun a hF=>?_
    refine E.opv hF (r_assign (hF.at 0 rfl)) rfl rfl rfl rfl fun a hF=>?_
    refine E.nil ?_
    refine wp_cond_false (hF.at 0 rfl) ?_
    refine wp_seq ?_
    refine E.seq ?_
    refine E.opv hF (r_load (hF.at 4 rfl) (ld_Int (vs:=[.bool (decide (pz ((tl47 (xs)))<0)),.slice ad16 n16 c16]) o9 rfl rfl)) rfl rfl rfl rfl fun a hF=>?_
    refine E.call hF (r_call Tryz.func39 en39.1 en39.2 (map1 (hF.at 0 rfl))) (whSign_any _ _ _ (Wc.wz hh15)) rfl rfl rfl rfl ?_
    rintro e w22 ⟨rfl,bb⟩
    refine⟨_,rfl,?_⟩
    intro a hF
    replace hf9:=hf9.below bb
    replace hh5:=hh5.below bb
    replace hf19:=hf19.below bb
    replace hh15:=hh15.below bb
    replace o2:=o2.below bb
    replace o7:=o7.below bb
    replace o9:=o9.below bb
    replace bel:=below_to bel bb
    clear bb
    by_cases hc23:sz (pz ((tl47 (xs))))<0
    ·refine E.opv hF (r_bin (hF.at 0 rfl) ev_c eg_scalar (bi_int (ic_lss (c:=true) (dec_tt hc23)) (by simp))) rfl rfl rfl rfl fun a hF=>?_
     refine E.opv hF (r_assign (hF.at 0 rfl)) rfl rfl rfl rfl fun a hF=>?_
     refine E.nil ?_
     refine wp_cond_true (hF.at 0 rfl) ?_
     refine wp_seq ?_
     refine E.seq ?_
     refine E.opv hF (r_build (by simp) (bd_Rat_ _)) rfl rfl rfl rfl fun a hF=>?_
     obtain⟨w24,hr,tu,on⟩:=st_Rat (vs:=[.bool false,.slice none 0 0,.slice none 0 0]) o2 rfl rfl (ocB (ocS (ocS oc0))) (niB (niS (niS ni0))) (o:=0) rfl
     have kp:=tu.keep o2
     refine E.st hF (r_store (hF.at 35 rfl) (hF.at 0 rfl) (hr _ rfl)) rfl rfl fun a hF=>?_
     clear hr
     replace hf9:=hf9.keep kp
     replace hh5:=hh5.keep kp
     replace hf19:=hf19.keep kp
     replace hh15:=hh15.keep kp
     replace o7:=tu.own o7 (Ne.symm ne2_7)
     replace o9:=tu.own o9 (Ne.symm ne2_9)
     replace bel:=tu.below bel ge2
     clear tu kp
     replace o2:=on
     clear on
     refine E.opset (L':=[(3,.int .i64 1),(43,.agg #[.bool false,.slice none 0 0,.slice none 0 0]),(39,.bool true),(42,.bool true),(41,.int .i64 (sz (pz ((tl47 (xs)))))),(40,.agg #[.bool (decide (pz ((tl47 (xs)))<0)),.slice ad16 n16 c16]),(34,.bool false),(36,.bool false),(35,.int .i64 (pe ((tl47 (xs))))),(8,.int .i64 (pe ((tl47 (xs))))),(9,.pointer (some ⟨g9,0,none⟩)),(33,.int .i64 (pe ((tl47 (xs))))),(32,.agg #[.bool (decide (pz ((tl47 (xs)))<0)),.slice ad16 n16 c16]),(29,.tuple #[.agg #[.bool (decide (pz ((tl47 (xs)))<0)),.slice ad16 n16 c16],.int .i64 (pe ((tl47 (xs))))]),(31,.tuple #[.agg #[.bool (decide (pz ((tl47 (xs)))<0)),.slice ad16 n16 c16],.int .i64 (pe ((tl47 (xs))))]),(30,.string (bstr (tl47 (xs)))),(26,.bool false),(25,.bool (has47 (xs))),(22,.bool false),(21,.int .i64 (pe ((hd47 (xs))))),(7,.pointer (some ⟨g7,0,none⟩)),(20,.int .i64 (pe ((hd47 (xs))))),(19,.agg #[.bool (decide (pz ((hd47 (xs)))<0)),.slice ad6 n6 c6]),(16,.tuple #[.agg #[.bool (decide (pz ((hd47 (xs)))<0)),.slice ad6 n6 c6],.int .i64 (pe ((hd47 (xs))))]),(18,.tuple #[.agg #[.bool (decide (pz ((hd47 (xs)))<0)),.slice ad6 n6 c6],.int .i64 (pe ((hd47 (xs))))]),(17,.string (bstr (hd47 (xs)))),(6,.bool (has47 (xs))),(5,.string (bstr (tl47 (xs)))),(4,.string (bstr (hd47 (xs)))),(15,.bool (has47 (xs))),(14,.string (bstr (tl47 (xs)))),(13,.string (bstr (hd47 (xs)))),(10,.tuple #[.string (bstr (hd47 (xs))),.string (bstr (tl47 (xs))),.bool (has47 (xs))]),(12,.tuple #[.string (bstr (hd47 (xs))),.string (bstr (tl47 (xs))),.bool (has47 (xs))]),(11,.string (bstr xs)),(2,.pointer (some ⟨g2,0,none⟩)),(0,.string (bstr xs))]) hF (r_assign ev_c) rfl rfl rfl rfl fun a hF=>?_
     refine E.nil ?_
     refine wp_ret ?_
     refine bodyPost_ret (res_celltmp Tryz.results44 (hF.at 35 rfl) (ld_Rat (vs:=[.bool false,.slice none 0 0,.slice none 0 0]) o2 rfl rfl) (hF.at 0 rfl)) hF.dfr ?_
     have hc:=ce_4 hc10 (hast hc12) hc20 hc23
     exact⟨_,rv_vi hc.1,Rq.castM (Rq.zero _) hc.2,bel⟩
    ·refine E.opv hF (r_bin (hF.at 0 rfl) ev_c eg_scalar (bi_int (ic_lss (c:=false) (dec_ff hc23)) (by simp))) rfl rfl rfl rfl fun a hF=>?_
     refine E.opv hF (r_assign (hF.at 0 rfl)) rfl rfl rfl rfl fun a hF=>?_
     refine E.nil ?_
     refine wp_cond_false (hF.at 0 rfl) ?_
     refine wp_seq ?_
     refine E.seq ?_
     refine E.opv hF (r_load (hF.at 8 rfl) (ld_Int (vs:=[.bool (decide (pz ((tl47 (xs)))<0)),.slice ad16 n16 c16]) o9 rfl rfl)) rfl rfl rfl rfl fun a hF=>?_
     refine E.call hF (r_call Tryz.func39 en39.1 en39.2 (map1 (hF.at 0 rfl))) (whSign_any _ _ _ (Wc.wz hh15)) rfl rfl rfl rfl ?_
     rintro e w25 ⟨rfl,bb⟩
     refine⟨_,rfl,?_⟩
     intro a hF
     replace hf9:=hf9.below bb
     replace hh5:=hh5.below bb
     replace hf19:=hf19.below bb
     replace hh15:=hh15.below bb
     replace o2:=o2.below bb
     replace o7:=o7.below bb
     replace o9:=o9.below bb
     replace bel:=below_to bel bb
     clear bb
     by_cases hc26:sz (pz ((tl47 (xs))))=0
     ·refine E.opv hF (r_bin (hF.at 0 rfl) ev_c eg_scalar (bi_int (ic_eql (c:=true) (dec_tt hc26)) (by simp))) rfl rfl rfl rfl fun a hF=>?_
      refine E.opv hF (r_assign (hF.at 0 rfl)) rfl rfl rfl rfl fun a hF=>?_
      refine E.nil ?_
      refine wp_cond_true (hF.at 0 rfl) ?_
      refine wp_seq ?_
      refine E.seq ?_
      refine E.opv hF (r_build (by simp) (bd_Rat_ _)) rfl rfl rfl rfl fun a hF=>?_
      obtain⟨w27,hr,tu,on⟩:=st_Rat (vs:=[.bool false,.slice none 0 0,.slice none 0 0]) o2 rfl rfl (ocB (ocS (ocS oc0))) (niB (niS (niS ni0))) (o:=0) rfl
      have kp:=tu.keep o2
      refine E.st hF (r_store (hF.at 39 rfl) (hF.at 0 rfl) (hr _ rfl)) rfl rfl fun a hF=>?_
      clear hr
      replace hf9:=hf9.keep kp
      replace hh5:=hh5.keep kp
      replace hf19:=hf19.keep kp
      replace hh15:=hh15.keep kp
      replace o7:=tu.own o7 (Ne.symm ne2_7)
      replace o9:=tu.own o9 (Ne.symm ne2_9)
      replace bel:=tu.below bel ge2
      clear tu kp
      replace o2:=on
      clear on
      refine E.opset (L':=[(3,.int .i64 4),(48,.agg #[.bool false,.slice none 0 0,.slice none 0 0]),(44,.bool true),(47,.bool true),(46,.int .i64 (sz (pz ((tl47 (xs)))))),(45,.agg #[.bool (decide (pz ((tl47 (xs)))<0)),.slice ad16 n16 c16]),(39,.bool false),(42,.bool false),(41,.int .i64 (sz (pz ((tl47 (xs)))))),(40,.agg #[.bool (decide (pz ((tl47 (xs)))<0)),.slice ad16 n16 c16]),(34,.bool false),(36,.bool false),(35,.int .i64 (pe ((tl47 (xs))))),(8,.int .i64 (pe ((tl47 (xs))))),(9,.pointer (some ⟨g9,0,none⟩)),(33,.int .i64 (pe ((tl47 (xs))))),(32,.agg #[.bool (decide (pz ((tl47 (xs)))<0)),.slice ad16 n16 c16]),(29,.tuple #[.agg #[.bool (decide (pz ((tl47 (xs)))<0)),.slice ad16 n16 c16],.int .i64 (pe ((tl47 (xs))))]),(31,.tuple #[.agg #[.bool (decide (pz ((tl47 (xs)))<0)),.slice ad16 n16 c16],.int .i64 (pe ((tl47 (xs))))]),(30,.string (bstr (tl47 (xs)))),(26,.bool false),(25,.bool (has47 (xs))),(22,.bool false),(21,.int .i64 (pe ((hd47 (xs))))),(7,.pointer (some ⟨g7,0,none⟩)),(20,.int .i64 (pe ((hd47 (xs))))),(19,.agg #[.bool (decide (pz ((hd47 (xs)))<0)),.slice ad6 n6 c6]),(16,.tuple #[.agg #[.bool (decide (pz ((hd47 (xs)))<0)),.slice ad6 n6 c6],.int .i64 (pe ((hd47 (xs))))]),(18,.tuple #[.agg #[.bool (decide (pz ((hd47 (xs)))<0)),.slice ad6 n6 c6],.int .i64 (pe ((hd47 (xs))))]),(17,.string (bstr (hd47 (xs)))),(6,.bool (has47 (xs))),(5,.string (bstr (tl47 (xs)))),(4,.string (bstr (hd47 (xs)))),(15,.bool (has47 (xs))),(14,.string (bstr (tl47 (xs)))),(13,.string (bstr (hd47 (xs)))),(10,.tuple #[.string (bstr (hd47 (xs))),.string (bstr (tl47 (xs))),.bool (has47 (xs))]),(12,.tuple #[.string (bstr (hd47 (xs))),.string (bstr (tl47 (xs))),.bool (has47 (xs))]),(11,.string (bstr xs)),(2,.pointer (some ⟨g2,0,none⟩)),(0,.string (bstr xs))]) hF (r_assign ev_c) rfl rfl rfl rfl fun a hF=>?_
      refine E.nil ?_
      refine wp_ret ?_
      refine bodyPost_ret (res_celltmp Tryz.results44 (hF.at 39 rfl) (ld_Rat (vs:=[.bool false,.slice none 0 0,.slice none 0 0]) o2 rfl rfl) (hF.at 0 rfl)) hF.dfr ?_
      have hc:=ce_5 hc10 (hast hc12) hc20 hc23 hc26
      exact⟨_,rv_vi hc.1,Rq.castM (Rq.zero _) hc.2,bel⟩
     ·refine E.opv hF (r_bin (hF.at 0 rfl) ev_c eg_scalar (bi_int (ic_eql (c:=false) (dec_ff hc26)) (by simp))) rfl rfl rfl rfl fun a hF=>?_
      refine E.opv hF (r_assign (hF.at 0 rfl)) rfl rfl rfl rfl fun a hF=>?_
      refine E.nil ?_
      refine wp_cond_false (hF.at 0 rfl) ?_
      refine wp_skip ?_
      refine E.blk ?_
      refine E.norm ?_
      refine wp_seq ?_
      refine E.seq ?_
      refine E.opv hF (r_load (hF.at 22 rfl) (ld_Int (vs:=[.bool (decide (pz ((hd47 (xs)))<0)),.slice ad6 n6 c6]) o7 rfl rfl)) rfl rfl rfl rfl fun a hF=>?_
      refine E.opv hF (r_load (hF.at 13 rfl) (ld_Int (vs:=[.bool (decide (pz ((tl47 (xs)))<0)),.slice ad16 n16 c16]) o9 rfl rfl)) rfl rfl rfl rfl fun a hF=>?_
      refine E.call hF (r_call Tryz.func36 en36.1 en36.2 (map2 (hF.at 1 rfl) (hF.at 0 rfl))) (rmk_any _ _ (pz ((hd47 (xs)))) (pz ((tl47 (xs)))) _ (Wc.wz hh5) (Wc.wz hh15)) rfl rfl rfl rfl ?_
      rintro e w28 ⟨vv29,rfl,hh30,bb⟩
      refine⟨_,rfl,?_⟩
      intro a hF
      replace o2:=o2.below bb
      replace bel:=below_to bel bb
      clear bb
      obtain⟨b31,ad31,n31,c31,ae31,m31,d31,rfl,hn31,hd31⟩:=Rq.shape hh30
      have hf32:=Wc.abs hn31
      obtain⟨w33,hr,tu,on⟩:=st_Rat (vs:=[.bool b31,.slice ad31 n31 c31,.slice ae31 m31 d31]) o2 rfl rfl (ocB (ocS (ocS oc0))) (niB (niS (niS ni0))) (o:=0) rfl
      have kp:=tu.keep o2
      refine E.st hF (r_store (hF.at 41 rfl) (hF.at 0 rfl) (hr _ rfl)) rfl rfl fun a hF=>?_
      clear hr
      replace hh30:=hh30.keep kp
      replace hn31:=hn31.keep kp
      replace hf32:=hf32.keep kp
      replace hd31:=hd31.keep kp
      replace bel:=tu.below bel ge2
      clear tu kp
      replace o2:=on
      clear on
      refine E.opset (L':=[(3,.int .i64 0),(51,.agg #[.bool b31,.slice ad31 n31 c31,.slice ae31 m31 d31]),(50,.agg #[.bool (decide (pz ((tl47 (xs)))<0)),.slice ad16 n16 c16]),(49,.agg #[.bool (decide (pz ((hd47 (xs)))<0)),.slice ad6 n6 c6]),(44,.bool false),(47,.bool false),(46,.int .i64 (sz (pz ((tl47 (xs)))))),(45,.agg #[.bool (decide (pz ((tl47 (xs)))<0)),.slice ad16 n16 c16]),(39,.bool false),(42,.bool false),(41,.int .i64 (sz (pz ((tl47 (xs)))))),(40,.agg #[.bool (decide (pz ((tl47 (xs)))<0)),.slice ad16 n16 c16]),(34,.bool false),(36,.bool false),(35,.int .i64 (pe ((tl47 (xs))))),(8,.int .i64 (pe ((tl47 (xs))))),(9,.pointer (some ⟨g9,0,none⟩)),(33,.int .i64 (pe ((tl47 (xs))))),(32,.agg #[.bool (decide (pz ((tl47 (xs)))<0)),.slice ad16 n16 c16]),(29,.tuple #[.agg #[.bool (decide (pz ((tl47 (xs)))<0)),.slice ad16 n16 c16],.int .i64 (pe ((tl47 (xs))))]),(31,.tuple #[.agg #[.bool (decide (pz ((tl47 (xs)))<0)),.slice ad16 n16 c16],.int .i64 (pe ((tl47 (xs))))]),(30,.string (bstr (tl47 (xs)))),(26,.bool false),(25,.bool (has47 (xs))),(22,.bool false),(21,.int .i64 (pe ((hd47 (xs))))),(7,.pointer (some ⟨g7,0,none⟩)),(20,.int .i64 (pe ((hd47 (xs))))),(19,.agg #[.bool (decide (pz ((hd47 (xs)))<0)),.slice ad6 n6 c6]),(16,.tuple #[.agg #[.bool (decide (pz ((hd47 (xs)))<0)),.slice ad6 n6 c6],.int .i64 (pe ((hd47 (xs))))]),(18,.tuple #[.agg #[.bool (decide (pz ((hd47 (xs)))<0)),.slice ad6 n6 c6],.int .i64 (pe ((hd47 (xs))))]),(17,.string (bstr (hd47 (xs)))),(6,.bool (has47 (xs))),(5,.string (bstr (tl47 (xs)))),(4,.string (bstr (hd47 (xs)))),(15,.bool (has47 (xs))),(14,.string (bstr (tl47 (xs)))),(13,.string (bstr (hd47 (xs)))),(10,.tuple #[.string (bstr (hd47 (xs))),.string (bstr (tl47 (xs))),.bool (has47 (xs))]),(12,.tuple #[.string (bstr (hd47 (xs))),.string (bstr (tl47 (xs))),.bool (has47 (xs))]),(11,.string (bstr xs)),(2,.pointer (some ⟨g2,0,none⟩)),(0,.string (bstr xs))]) hF (r_assign ev_c) rfl rfl rfl rfl fun a hF=>?_
      refine E.nil ?_
      refine wp_ret ?_
      refine bodyPost_ret (res_celltmp Tryz.results44 (hF.at 41 rfl) (ld_Rat (vs:=[.bool b31,.slice ad31 n31 c31,.slice ae31 m31 d31]) o2 rfl rfl) (hF.at 0 rfl)) hF.dfr ?_
      have hc:=ce_6 hc10 (hast hc12) hc20 hc23 hc26
      exact⟨_,rv_vi hc.1,Rq.castM hh30 hc.2,bel⟩
  ·refine E.opv hF (r_un (Eq.trans (hF.at 0 rfl) (congrArg Value.bool (eq_false_of_ne_true hc12))) (bn_not _ true rfl)) rfl rfl rfl rfl fun a hF=>?_
   refine E.nil ?_
   refine wp_cond_true (hF.at 0 rfl) ?_
   refine wp_seq ?_
   refine E.seq ?_
   refine E.opv hF (r_load (hF.at 5 rfl) (ld_Int (vs:=[.bool (decide (pz ((hd47 (xs)))<0)),.slice ad6 n6 c6]) o7 rfl rfl)) rfl rfl rfl rfl fun a hF=>?_
   refine E.call hF (r_call Tryz.func74 en74.1 en74.2 (map1 (hF.at 0 rfl))) (cOf_any _ (pz ((hd47 (xs)))) _ (Wc.wz hh5)) rfl rfl rfl rfl ?_
   rintro e w34 ⟨vv35,rfl,hh36,bb⟩
   refine⟨_,rfl,?_⟩
   intro a hF
   replace hf9:=hf9.below bb
   replace hh5:=hh5.below bb
   replace o2:=o2.below bb
   replace o7:=o7.below bb
   replace bel:=below_to bel bb
   clear bb
   obtain⟨b37,ad37,n37,c37,ae37,m37,d37,rfl,hn37,hd37⟩:=Rq.shape hh36
   have hf38:=Wc.abs hn37
   obtain⟨w39,hr,tu,on⟩:=st_Rat (vs:=[.bool b37,.slice ad37 n37 c37,.slice ae37 m37 d37]) o2 rfl rfl (ocB (ocS (ocS oc0))) (niB (niS (niS ni0))) (o:=0) rfl
   have kp:=tu.keep o2
   refine E.st hF (r_store (hF.at 23 rfl) (hF.at 0 rfl) (hr _ rfl)) rfl rfl fun a hF=>?_
   clear hr
   replace hf9:=hf9.keep kp
   replace hh5:=hh5.keep kp
   replace hh36:=hh36.keep kp
   replace hn37:=hn37.keep kp
   replace hf38:=hf38.keep kp
   replace hd37:=hd37.keep kp
   replace o7:=tu.own o7 (Ne.symm ne2_7)
   replace bel:=tu.below bel ge2
   clear tu kp
   replace o2:=on
   clear on
   refine E.opset (L':=[(3,.int .i64 0),(28,.agg #[.bool b37,.slice ad37 n37 c37,.slice ae37 m37 d37]),(27,.agg #[.bool (decide (pz ((hd47 (xs)))<0)),.slice ad6 n6 c6]),(26,.bool true),(25,.bool (has47 (xs))),(22,.bool false),(21,.int .i64 (pe ((hd47 (xs))))),(8,.int .i64 (pe ((hd47 (xs))))),(7,.pointer (some ⟨g7,0,none⟩)),(20,.int .i64 (pe ((hd47 (xs))))),(19,.agg #[.bool (decide (pz ((hd47 (xs)))<0)),.slice ad6 n6 c6]),(16,.tuple #[.agg #[.bool (decide (pz ((hd47 (xs)))<0)),.slice ad6 n6 c6],.int .i64 (pe ((hd47 (xs))))]),(18,.tuple #[.agg #[.bool (decide (pz ((hd47 (xs)))<0)),.slice ad6 n6 c6],.int .i64 (pe ((hd47 (xs))))]),(17,.string (bstr (hd47 (xs)))),(6,.bool (has47 (xs))),(5,.string (bstr (tl47 (xs)))),(4,.string (bstr (hd47 (xs)))),(15,.bool (has47 (xs))),(14,.string (bstr (tl47 (xs)))),(13,.string (bstr (hd47 (xs)))),(10,.tuple #[.string (bstr (hd47 (xs))),.string (bstr (tl47 (xs))),.bool (has47 (xs))]),(12,.tuple #[.string (bstr (hd47 (xs))),.string (bstr (tl47 (xs))),.bool (has47 (xs))]),(11,.string (bstr xs)),(2,.pointer (some ⟨g2,0,none⟩)),(0,.string (bstr xs))]) hF (r_assign ev_c) rfl rfl rfl rfl fun a hF=>?_
   refine E.nil ?_
   refine wp_ret ?_
   refine bodyPost_ret (res_celltmp Tryz.results44 (hF.at 23 rfl) (ld_Rat (vs:=[.bool b37,.slice ad37 n37 c37,.slice ae37 m37 d37]) o2 rfl rfl) (hF.at 0 rfl)) hF.dfr ?_
   have hc:=ce_2 hc10 (hasf hc12)
   exact⟨_,rv_vi hc.1,Rq.castM hh36 hc.2,bel⟩
end Go.Proofs.YtpkhdajnppoinaaGreat
