import Derived.Test.YtpkhdajnppoinaaGreatKC28
import Derived.Test.YtpkhdajnppoinaaGreatKC34
import Derived.Test.YtpkhdajnppoinaaGreatKC41
namespace Go.Proofs.YtpkhdajnppoinaaGreat
open Go.RowKit
set_option maxRecDepth 100000
set_option linter.unusedVariables false
set_option maxHeartbeats 8000000
theorem ci47_drop {xs:List Nat} {m:Nat} (hm:m<xs.length):ci47 (List.drop m xs)=if lg xs m=47 then 0 else ci47 (List.drop (m+1) xs)+1:=by
 rw[List.drop_eq_getElem_cons hm,lg_get hm]
 rfl
theorem rz_len0 {w:World} {b:Bool} {ad:Option Addr} {n c:Nat} {z:Int} (h:Rz w (.agg #[.bool b,.slice ad n c]) z):((n:Nat):Int)=0↔z=0:=by
 have ha:=h.abs
 constructor
 ·intro e
  rcases Nat.eq_zero_or_pos z.natAbs with k|k
  ·omega
  ·have:=Dg.lenp (by decide) ha k;omega
 ·intro e
  rw[e] at ha
  have:=Dg.len0 ha;omega
theorem rz_neg {w:World} {b:Bool} {v:Value} {z:Int} (h:Rz w (.agg #[.bool b,v]) z):b=true↔sz z<0:=by
 rw[Rz.neg h,decide_eq_true_iff]
 unfold sz;split
 ·constructor <;> intro <;> omega
 ·split <;> constructor <;> intro <;> omega
def RcpPost (w:World) (xs:List Nat):Ending→World→Prop:=fun e w'=>∃v,e= .returned (.tuple #[v,.int .i64 (ce xs)])∧Rr w' v (cz xs) 110∧Below w.heap.size w w'
theorem zero_o1:((0:Int):Rat)/((1:Int):Rat)=0:=by decide+kernel
theorem rcparse_any (xs:List Nat) (w:World) (h8:okb 256 xs) (hl:xs.length≤1000000000):
 Calls Tryz.prog 22 #[.string (bstr xs)] w (RcpPost w xs):=by
 have hci:=ci47_le xs
 have bel:Below w.heap.size w w:=Below.refl _ _
 refine E.enter (nt:=64) (L:=[(0,.string (bstr xs))]) Tryz.func22 rfl rfl rfl (args_cons (i:=0) rfl args_nil) ?_
 intro a hF
 refine wp_seq ?_
 refine E.seq ?_
 obtain⟨g2,w1,ge2,hr,bb,o2⟩:=own_alloc (P:=Tryz.prog) (w:=w) (cs:=[.bool false,.slice none 0 0,.slice none 0 0]) 34 ze_RRat rfl (niB (niS (niS ni0)))
 replace ge2:w.heap.size≤g2:=by rw[←ge2];exact bel.size
 refine E.opv hF (r_alloc hr) rfl rfl rfl rfl fun a hF=>?_
 clear hr
 replace bel:=below_to bel bb
 clear bb
 refine E.opv hF (r_assign ev_c) rfl rfl rfl rfl fun a hF=>?_
 refine E.nil ?_
 refine wp_seq ?_
 refine E.seq ?_
 refine E.opv hF (r_move (hF.at 2 rfl)) rfl rfl rfl rfl fun a hF=>?_
 refine E.opv hF (r_builtin (map1 (hF.at 0 rfl)) (bl_str Tryz.underlying9)) rfl rfl rfl rfl fun a hF=>?_
 refine E.opv hF (r_assign (hF.at 0 rfl)) rfl rfl rfl rfl fun a hF=>?_
 refine E.nil ?_
 refine E.mid (I:=fun a wv=>Fr 64 a [(4,.int .i64 ((ci47 xs:Nat):Int)),(3,.int .i64 0),(2,.pointer (some ⟨g2,0,none⟩)),(0,.string (bstr xs))]∧Below w.heap.size w wv∧Own wv g2 [.bool false,.slice none 0 0,.slice none 0 0]) ?_ ?_
 ·refine wp_seq ?_
  refine E.seq ?_
  refine E.opv hF (r_move (hF.at 5 rfl)) rfl rfl rfl rfl fun a hF=>?_
  refine E.opv hF (r_builtin (map1 (hF.at 0 rfl)) (bl_str Tryz.underlying9)) rfl rfl rfl rfl fun a hF=>?_
  refine E.opv hF (r_bin (hF.at 0 rfl) ev_c eg_scalar (ia_sub (by omega) (by omega))) rfl rfl rfl rfl fun a hF=>?_
  refine E.opv hF (r_assign (hF.at 0 rfl)) rfl rfl rfl rfl fun a hF=>?_
  refine E.nil ?_
  refine wp_block ?_
  refine E.loop (fun mq a wv=>∃(m:Nat) (p:Nat),m≤xs.length∧p=m+ci47 (List.drop m xs)∧Fr 64 a [(5,.int .i64 (((m:Nat):Int)-1)),(4,.int .i64 ((p:Nat):Int)),(3,.int .i64 0),(2,.pointer (some ⟨g2,0,none⟩)),(0,.string (bstr xs))]∧Below w1.heap.size w1 wv∧Below w.heap.size w wv∧mq=m) (xs.length) ?_ ?_
  ·exact⟨xs.length,xs.length,(Nat.le_refl _),(by rw[List.drop_length];rfl),Fr.sub (L':=[(5,.int .i64 (((xs.length:Nat):Int)-1)),(4,.int .i64 ((List.length (xs):Nat):Int)),(3,.int .i64 0),(2,.pointer (some ⟨g2,0,none⟩)),(0,.string (bstr xs))]) hF (by intro p hp;simp only [List.mem_cons,List.not_mem_nil,or_false] at hp ⊢;rcases hp with rfl|rfl|rfl|rfl|rfl <;> simp),Below.refl _ _,bel,rfl⟩
  ·rintro mq a w2 ⟨m,p,hm,hp,hF,sty,bel,hm⟩
   replace o2:=o2.below sty
   by_cases hm0:0<m
   ·refine wp_seq ?_
    refine wp_seq ?_
    refine E.seq ?_
    refine E.opv hF (r_move (hF.at 0 rfl)) rfl rfl rfl rfl fun a hF=>?_
    refine E.opv hF (r_bin (hF.at 0 rfl) ev_c eg_scalar (bi_int (ic_geq (c:=true) (dec_tt (by omega))) (by simp))) rfl rfl rfl rfl fun a hF=>?_
    refine E.nil ?_
    refine wp_cond_true (hF.at 0 rfl) ?_
    refine wp_skip ?_
    refine E.norm ?_
    refine wp_seq ?_
    refine wp_block ?_
    refine wp_seq ?_
    refine E.seq ?_
    refine E.opv hF (r_move (hF.at 6 rfl)) rfl rfl rfl rfl fun a hF=>?_
    refine E.opv hF (r_move (hF.at 3 rfl)) rfl rfl rfl rfl fun a hF=>?_
    refine E.opv hF (r_ixv (hF.at 1 rfl) (hF.at 0 rfl) (ixs (xs:=xs) (j:=(((m:Nat):Int)-1).toNat) Tryz.underlying9 (by omega) (by omega) h8)) rfl rfl rfl rfl fun a hF=>?_
    by_cases hc3:((lg (xs) ((((m:Nat):Int)-1).toNat):Nat):Int)=47
    ·first
     |(exfalso;omega)
     |(refine E.opv hF (r_bin (hF.at 0 rfl) ev_c eg_scalar (bi_int (ic_eql (c:=true) (dec_tt hc3)) (by simp))) rfl rfl rfl rfl fun a hF=>?_
       refine E.nil ?_
       refine wp_cond_true (hF.at 0 rfl) ?_
       refine E.seq ?_
       refine E.opv hF (r_move (hF.at 6 rfl)) rfl rfl rfl rfl fun a hF=>?_
       refine E.opset (L':=[(4,.int .i64 (((m:Nat):Int)-1)),(23,.int .i64 (((m:Nat):Int)-1)),(22,.bool true),(21,.int .u8 ((lg (xs) ((((m:Nat):Int)-1).toNat):Nat):Int)),(20,.int .i64 (((m:Nat):Int)-1)),(19,.string (bstr xs)),(16,.bool true),(15,.int .i64 (((m:Nat):Int)-1)),(5,.int .i64 (((m:Nat):Int)-1)),(3,.int .i64 0),(2,.pointer (some ⟨g2,0,none⟩)),(0,.string (bstr xs))]) hF (r_assign (hF.at 0 rfl)) rfl rfl rfl rfl fun a hF=>?_
       refine E.nil0 ?_
       refine E.blk ?_
       refine E.norm ?_
       refine E.seq ?_
       refine E.opv hF (r_move (hF.at 8 rfl)) rfl rfl rfl rfl fun a hF=>?_
       refine E.opv hF (r_bin (hF.at 0 rfl) ev_c eg_scalar (ia_sub (by omega) (by omega))) rfl rfl rfl rfl fun a hF=>?_
       refine E.opset (L':=[(5,.int .i64 ((((m:Nat):Int)-1)-1)),(18,.int .i64 ((((m:Nat):Int)-1)-1)),(17,.int .i64 (((m:Nat):Int)-1)),(4,.int .i64 (((m:Nat):Int)-1)),(23,.int .i64 (((m:Nat):Int)-1)),(22,.bool true),(21,.int .u8 ((lg (xs) ((((m:Nat):Int)-1).toNat):Nat):Int)),(20,.int .i64 (((m:Nat):Int)-1)),(19,.string (bstr xs)),(16,.bool true),(15,.int .i64 (((m:Nat):Int)-1)),(3,.int .i64 0),(2,.pointer (some ⟨g2,0,none⟩)),(0,.string (bstr xs))]) hF (r_assign (hF.at 0 rfl)) rfl rfl rfl rfl fun a hF=>?_
       refine E.nil0 ?_
       refine E.norm ?_
       exact⟨m-1,by omega,⟨(m-1),(m-1),(by omega),(by have em:(((m:Nat):Int)-1).toNat =m-1:=(by omega);have hx:=hc3;rw[em] at hx;have hd:=ci47_drop (xs:=xs) (m:=m-1) (by omega);rw[if_pos (by omega)] at hd;omega),(by rw[show((m-1:Nat):Int)=((m:Nat):Int)-1 from by omega];exact Fr.sub (L':=[(5,.int .i64 ((((m:Nat):Int)-1)-1)),(4,.int .i64 (((m:Nat):Int)-1)),(3,.int .i64 0),(2,.pointer (some ⟨g2,0,none⟩)),(0,.string (bstr xs))]) hF (by intro p hp;simp only [List.mem_cons,List.not_mem_nil,or_false] at hp ⊢;rcases hp with rfl|rfl|rfl|rfl|rfl <;> simp)),sty,bel,rfl⟩⟩)
    ·first
     |(exfalso;omega)
     |(refine E.opv hF (r_bin (hF.at 0 rfl) ev_c eg_scalar (bi_int (ic_eql (c:=false) (dec_ff hc3)) (by simp))) rfl rfl rfl rfl fun a hF=>?_
       refine E.nil ?_
       refine wp_cond_false (hF.at 0 rfl) ?_
       refine wp_skip ?_
       refine E.blk ?_
       refine E.norm ?_
       refine E.seq ?_
       refine E.opv hF (r_move (hF.at 6 rfl)) rfl rfl rfl rfl fun a hF=>?_
       refine E.opv hF (r_bin (hF.at 0 rfl) ev_c eg_scalar (ia_sub (by omega) (by omega))) rfl rfl rfl rfl fun a hF=>?_
       refine E.opset (L':=[(5,.int .i64 ((((m:Nat):Int)-1)-1)),(18,.int .i64 ((((m:Nat):Int)-1)-1)),(17,.int .i64 (((m:Nat):Int)-1)),(22,.bool false),(21,.int .u8 ((lg (xs) ((((m:Nat):Int)-1).toNat):Nat):Int)),(20,.int .i64 (((m:Nat):Int)-1)),(19,.string (bstr xs)),(16,.bool true),(15,.int .i64 (((m:Nat):Int)-1)),(4,.int .i64 ((p:Nat):Int)),(3,.int .i64 0),(2,.pointer (some ⟨g2,0,none⟩)),(0,.string (bstr xs))]) hF (r_assign (hF.at 0 rfl)) rfl rfl rfl rfl fun a hF=>?_
       refine E.nil0 ?_
       refine E.norm ?_
       exact⟨m-1,by omega,⟨(m-1),p,(by omega),(by have em:(((m:Nat):Int)-1).toNat =m-1:=(by omega);have hx:=hc3;rw[em] at hx;have hd:=ci47_drop (xs:=xs) (m:=m-1) (by omega);rw[if_neg (by omega),show m-1+1=m from by omega] at hd;omega),(by rw[show((m-1:Nat):Int)=((m:Nat):Int)-1 from by omega];exact Fr.sub (L':=[(5,.int .i64 ((((m:Nat):Int)-1)-1)),(4,.int .i64 ((p:Nat):Int)),(3,.int .i64 0),(2,.pointer (some ⟨g2,0,none⟩)),(0,.string (bstr xs))]) hF (by intro p hp;simp only [List.mem_cons,List.not_mem_nil,or_false] at hp ⊢;rcases hp with rfl|rfl|rfl|rfl|rfl <;> simp)),sty,bel,rfl⟩⟩)
   ·refine wp_seq ?_
    refine wp_seq ?_
    refine E.seq ?_
    refine E.opv hF (r_move (hF.at 0 rfl)) rfl rfl rfl rfl fun a hF=>?_
    refine E.opv hF (r_bin (hF.at 0 rfl) ev_c eg_scalar (bi_int (ic_geq (c:=false) (dec_ff (by omega))) (by simp))) rfl rfl rfl rfl fun a hF=>?_
    refine E.nil ?_
    refine wp_cond_false (hF.at 0 rfl) ?_
    refine wp_exit ?_
    refine E.past ?_
    refine E.past ?_
    refine E.out (id:=0) ?_
    refine E.norm ?_
    exact⟨(by have hm0:m=0:=(by omega);rw[hm0,List.drop_zero] at hp;rw[show((ci47 xs:Nat):Int)=((p:Nat):Int) from by omega];exact Fr.sub (L':=[(4,.int .i64 ((p:Nat):Int)),(3,.int .i64 0),(2,.pointer (some ⟨g2,0,none⟩)),(0,.string (bstr xs))]) hF (by intro p hp;simp only [List.mem_cons,List.not_mem_nil,or_false] at hp ⊢;rcases hp with rfl|rfl|rfl|rfl <;> simp)),bel,o2⟩
 ·rintro a w3 ⟨hF,bel,o2⟩
  refine wp_seq ?_
  refine E.seq ?_
  refine E.opv hF (r_move (hF.at 3 rfl)) rfl rfl rfl rfl fun a hF=>?_
  refine E.opv hF (r_move (hF.at 1 rfl)) rfl rfl rfl rfl fun a hF=>?_
  refine E.opv hF (r_slice (hF.at 1 rfl) (hF.at 0 rfl) (sls_hi (xs:=xs) (j:=ci47 xs) Tryz.underlying9 (by first|rfl|omega) (by omega))) rfl rfl rfl rfl fun a hF=>?_
  refine E.call hF (r_call Tryz.func46 en46.1 en46.2 (map1 (hF.at 0 rfl))) (rparse_any ((List.take (ci47 xs) (xs))) _ (okb_take h8 _) (by first|omega|decide|(simp only [List.length_take];omega)|(simp only [List.length_drop];omega))) rfl rfl rfl rfl ?_
  rintro e w4 ⟨vv5,rfl,hh6,bb⟩
  refine⟨_,rfl,?_⟩
  intro a hF
  replace o2:=o2.below bb
  replace bel:=below_to bel bb
  clear bb
  obtain⟨b7,ad7,n7,c7,rfl⟩:=Rz.form hh6
  refine E.opv hF (r_move (hF.at 0 rfl)) rfl rfl rfl rfl fun a hF=>?_
  refine E.opv hF (r_extract (v:= .agg #[.bool b7,.slice ad7 n7 c7]) (hF.at 0 rfl) rfl) rfl rfl rfl rfl fun a hF=>?_
  refine E.opv hF (r_extract (v:= .int .i64 (pe ((List.take (ci47 xs) (xs))))) (hF.at 1 rfl) rfl) rfl rfl rfl rfl fun a hF=>?_
  obtain⟨g6,w8,ge6,hr,bb,o6⟩:=own_alloc (P:=Tryz.prog) (w:=w4) (cs:=[.bool false,.slice none 0 0]) 32 ze_RInt rfl (niB (niS ni0))
  have ne2_6:g2≠g6:=by rw[←ge6];exact o2.ne_new
  replace ge6:w.heap.size≤g6:=by rw[←ge6];exact bel.size
  refine E.opv hF (r_alloc hr) rfl rfl rfl rfl fun a hF=>?_
  clear hr
  replace hh6:=hh6.below bb
  replace o2:=o2.below bb
  replace bel:=below_to bel bb
  clear bb
  obtain⟨w9,hr,tu,on⟩:=st_RInt (vs:=[.bool b7,.slice ad7 n7 c7]) o6 rfl rfl (ocB (ocS oc0)) (niB (niS ni0)) (o:=0) rfl
  have kp:=tu.keep o6
  refine E.st hF (r_store (hF.at 0 rfl) (hF.at 2 rfl) (hr _ rfl)) rfl rfl fun a hF=>?_
  clear hr
  replace hh6:=hh6.keep kp
  replace o2:=tu.own o2 ne2_6
  replace bel:=tu.below bel ge6
  clear tu kp
  replace o6:=on
  clear on
  have hf10:=Rz.abs hh6
  refine E.opv hF (r_assign (hF.at 1 rfl)) rfl rfl rfl rfl fun a hF=>?_
  refine E.nil ?_
  refine wp_seq ?_
  refine wp_seq ?_
  refine E.seq ?_
  refine E.opv hF (r_move (hF.at 0 rfl)) rfl rfl rfl rfl fun a hF=>?_
  by_cases hc11:pe ((List.take (ci47 xs) (xs)))≠0
  ·first
   |(exfalso;omega)
   |(refine E.opv hF (r_bin (hF.at 0 rfl) ev_c eg_scalar (bi_int (ic_neq (c:=true) (dec_tt hc11)) (by simp))) rfl rfl rfl rfl fun a hF=>?_
     refine E.nil ?_
     refine wp_cond_true (hF.at 0 rfl) ?_
     refine wp_seq ?_
     refine E.seq ?_
     refine E.call hF (r_call Tryz.func47 en47.1 en47.2 (map2 ev_c ev_c)) (dOf_any (0) (1) _ (by decide) (by decide) (by decide) (by decide)) rfl rfl rfl rfl ?_
     rintro e w12 ⟨vv13,rfl,hh14,bb⟩
     refine⟨_,rfl,?_⟩
     intro a hF
     replace hf10:=hf10.below bb
     replace hh6:=hh6.below bb
     replace o2:=o2.below bb
     replace o6:=o6.below bb
     replace bel:=below_to bel bb
     clear bb
     obtain⟨b15,ad15,n15,c15,ae15,m15,d15,z15,D15,rfl,hn15,hd15,hD15,hq15,lz15,lD15⟩:=Rr.shape hh14
     have ha15:=hn15.abs
     refine E.opv hF (r_move (hF.at 3 rfl)) rfl rfl rfl rfl fun a hF=>?_
     obtain⟨w16,hr,tu,on⟩:=st_RRat (vs:=[.bool b15,.slice ad15 n15 c15,.slice ae15 m15 d15]) o2 rfl rfl (ocB (ocS (ocS oc0))) (niB (niS (niS ni0))) (o:=0) rfl
     have kp:=tu.keep o2
     refine E.st hF (r_store (hF.at 15 rfl) (hF.at 1 rfl) (hr _ rfl)) rfl rfl fun a hF=>?_
     clear hr
     replace hf10:=hf10.keep kp
     replace hh6:=hh6.keep kp
     replace hh14:=hh14.keep kp
     replace hn15:=hn15.keep kp
     replace ha15:=ha15.keep kp
     replace hd15:=hd15.keep kp
     replace o6:=tu.own o6 (Ne.symm ne2_6)
     replace bel:=tu.below bel ge2
     clear tu kp
     replace o2:=on
     clear on
     refine E.opset (L':=[(3,.int .i64 (pe ((List.take (ci47 xs) (xs))))),(34,.int .i64 (pe ((List.take (ci47 xs) (xs))))),(33,.agg #[.bool b15,.slice ad15 n15 c15,.slice ae15 m15 d15]),(32,.bool true),(31,.int .i64 (pe ((List.take (ci47 xs) (xs))))),(7,.int .i64 (pe ((List.take (ci47 xs) (xs))))),(6,.pointer (some ⟨g6,0,none⟩)),(30,.int .i64 (pe ((List.take (ci47 xs) (xs))))),(29,.agg #[.bool b7,.slice ad7 n7 c7]),(24,.tuple #[.agg #[.bool b7,.slice ad7 n7 c7],.int .i64 (pe ((List.take (ci47 xs) (xs))))]),(28,.tuple #[.agg #[.bool b7,.slice ad7 n7 c7],.int .i64 (pe ((List.take (ci47 xs) (xs))))]),(27,.string (bstr (List.take (ci47 xs) (xs)))),(26,.int .i64 ((ci47 xs:Nat):Int)),(25,.string (bstr xs)),(4,.int .i64 ((ci47 xs:Nat):Int)),(2,.pointer (some ⟨g2,0,none⟩)),(0,.string (bstr xs))]) hF (r_assign (hF.at 0 rfl)) rfl rfl rfl rfl fun a hF=>?_
     refine E.nil ?_
     refine wp_ret ?_
     refine bodyPost_ret (res_celltmp Tryz.results22 (hF.at 15 rfl) (ld_RRat (vs:=[.bool b15,.slice ad15 n15 c15,.slice ae15 m15 d15]) o2 rfl rfl) (hF.at 0 rfl)) hF.dfr ?_
     have hc:=ce_1 (xs:=xs) hc11
     exact⟨_,rv_vi hc.1,Rr.cast (Rr.up hh14 _ (by omega)) (zero_o1.trans hc.2),bel⟩)
  ·first
   |(exfalso;omega)
   |(refine E.opv hF (r_bin (hF.at 0 rfl) ev_c eg_scalar (bi_int (ic_neq (c:=false) (dec_ff hc11)) (by simp))) rfl rfl rfl rfl fun a hF=>?_
     refine E.nil ?_
     refine wp_cond_false (hF.at 0 rfl) ?_
     refine wp_skip ?_
     refine E.norm ?_
     refine wp_seq ?_
     refine wp_seq ?_
     refine E.seq ?_
     refine E.opv hF (r_move (hF.at 11 rfl)) rfl rfl rfl rfl fun a hF=>?_
     refine E.opv hF (r_move (hF.at 15 rfl)) rfl rfl rfl rfl fun a hF=>?_
     refine E.opv hF (r_builtin (map1 (hF.at 0 rfl)) (bl_str Tryz.underlying9)) rfl rfl rfl rfl fun a hF=>?_
     by_cases hc17:((ci47 xs:Nat):Int)=((List.length (xs):Nat):Int)
     ·first
      |(exfalso;omega)
      |(refine E.opv hF (r_bin (hF.at 2 rfl) (hF.at 0 rfl) eg_scalar (bi_int (ic_eql (c:=true) (dec_tt hc17)) (by simp))) rfl rfl rfl rfl fun a hF=>?_
        refine E.nil ?_
        refine wp_cond_true (hF.at 0 rfl) ?_
        refine wp_seq ?_
        refine E.seq ?_
        refine E.opv hF (r_load (hF.at 7 rfl) (ld_RInt (vs:=[.bool b7,.slice ad7 n7 c7]) o6 rfl rfl)) rfl rfl rfl rfl fun a hF=>?_
        refine E.call hF (r_call Tryz.func48 en48.1 en48.2 (map1 (hF.at 0 rfl))) (dWhole_any _ (pz ((List.take (ci47 xs) (xs)))) (106+1) _ hh6 (Lim.up (pz_limC ((List.take (ci47 xs) (xs)))) _ (by omega)) (by omega)) rfl rfl rfl rfl ?_
        rintro e w18 ⟨vv19,rfl,hh20,bb⟩
        refine⟨_,rfl,?_⟩
        intro a hF
        replace hf10:=hf10.below bb
        replace hh6:=hh6.below bb
        replace o2:=o2.below bb
        replace o6:=o6.below bb
        replace bel:=below_to bel bb
        clear bb
        obtain⟨b21,ad21,n21,c21,ae21,m21,d21,z21,D21,rfl,hn21,hd21,hD21,hq21,lz21,lD21⟩:=Rr.shape hh20
        have ha21:=hn21.abs
        obtain⟨w22,hr,tu,on⟩:=st_RRat (vs:=[.bool b21,.slice ad21 n21 c21,.slice ae21 m21 d21]) o2 rfl rfl (ocB (ocS (ocS oc0))) (niB (niS (niS ni0))) (o:=0) rfl
        have kp:=tu.keep o2
        refine E.st hF (r_store (hF.at 19 rfl) (hF.at 0 rfl) (hr _ rfl)) rfl rfl fun a hF=>?_
        clear hr
        replace hf10:=hf10.keep kp
        replace hh6:=hh6.keep kp
        replace hh20:=hh20.keep kp
        replace hn21:=hn21.keep kp
        replace ha21:=ha21.keep kp
        replace hd21:=hd21.keep kp
        replace o6:=tu.own o6 (Ne.symm ne2_6)
        replace bel:=tu.below bel ge2
        clear tu kp
        replace o2:=on
        clear on
        refine E.opset (L':=[(3,.int .i64 0),(40,.agg #[.bool b21,.slice ad21 n21 c21,.slice ae21 m21 d21]),(39,.agg #[.bool b7,.slice ad7 n7 c7]),(38,.bool true),(37,.int .i64 ((List.length (xs):Nat):Int)),(36,.string (bstr xs)),(35,.int .i64 ((ci47 xs:Nat):Int)),(32,.bool false),(31,.int .i64 (pe ((List.take (ci47 xs) (xs))))),(7,.int .i64 (pe ((List.take (ci47 xs) (xs))))),(6,.pointer (some ⟨g6,0,none⟩)),(30,.int .i64 (pe ((List.take (ci47 xs) (xs))))),(29,.agg #[.bool b7,.slice ad7 n7 c7]),(24,.tuple #[.agg #[.bool b7,.slice ad7 n7 c7],.int .i64 (pe ((List.take (ci47 xs) (xs))))]),(28,.tuple #[.agg #[.bool b7,.slice ad7 n7 c7],.int .i64 (pe ((List.take (ci47 xs) (xs))))]),(27,.string (bstr (List.take (ci47 xs) (xs)))),(26,.int .i64 ((ci47 xs:Nat):Int)),(25,.string (bstr xs)),(4,.int .i64 ((ci47 xs:Nat):Int)),(2,.pointer (some ⟨g2,0,none⟩)),(0,.string (bstr xs))]) hF (r_assign ev_c) rfl rfl rfl rfl fun a hF=>?_
        refine E.nil ?_
        refine wp_ret ?_
        refine bodyPost_ret (res_celltmp Tryz.results22 (hF.at 19 rfl) (ld_RRat (vs:=[.bool b21,.slice ad21 n21 c21,.slice ae21 m21 d21]) o2 rfl rfl) (hF.at 0 rfl)) hF.dfr ?_
        have hs:has47 xs=false:=decide_eq_false (by omega)
        have hc:=ce_2 (xs:=xs) hc11 hs
        exact⟨_,rv_vi hc.1,Rr.cast (Rr.up hh20 _ (by omega)) hc.2,bel⟩)
     ·first
      |(exfalso;omega)
      |(refine E.opv hF (r_bin (hF.at 2 rfl) (hF.at 0 rfl) eg_scalar (bi_int (ic_eql (c:=false) (dec_ff hc17)) (by simp))) rfl rfl rfl rfl fun a hF=>?_
        refine E.nil ?_
        refine wp_cond_false (hF.at 0 rfl) ?_
        refine wp_skip ?_
        refine E.norm ?_
        refine wp_seq ?_
        refine E.seq ?_
        refine E.opv hF (r_move (hF.at 18 rfl)) rfl rfl rfl rfl fun a hF=>?_
        refine E.opv hF (r_move (hF.at 16 rfl)) rfl rfl rfl rfl fun a hF=>?_
        refine E.opv hF (r_bin (hF.at 0 rfl) ev_c eg_scalar (ia_add (by omega) (by omega))) rfl rfl rfl rfl fun a hF=>?_
        refine E.opv hF (r_sliceL (hF.at 2 rfl) (hF.at 0 rfl) (sls_lo (xs:=xs) (j:=ci47 xs+1) Tryz.underlying9 (by first|rfl|omega) (by omega))) rfl rfl rfl rfl fun a hF=>?_
        refine E.call hF (r_call Tryz.func46 en46.1 en46.2 (map1 (hF.at 0 rfl))) (rparse_any ((List.drop (ci47 xs+1) (xs))) _ (okb_drop h8 _) (by first|omega|decide|(simp only [List.length_take];omega)|(simp only [List.length_drop];omega))) rfl rfl rfl rfl ?_
        rintro e w23 ⟨vv24,rfl,hh25,bb⟩
        refine⟨_,rfl,?_⟩
        intro a hF
        replace hf10:=hf10.below bb
        replace hh6:=hh6.below bb
        replace o2:=o2.below bb
        replace o6:=o6.below bb
        replace bel:=below_to bel bb
        clear bb
        obtain⟨b26,ad26,n26,c26,rfl⟩:=Rz.form hh25
        refine E.opv hF (r_move (hF.at 0 rfl)) rfl rfl rfl rfl fun a hF=>?_
        refine E.opv hF (r_extract (v:= .agg #[.bool b26,.slice ad26 n26 c26]) (hF.at 0 rfl) rfl) rfl rfl rfl rfl fun a hF=>?_
        refine E.opv hF (r_extract (v:= .int .i64 (pe ((List.drop (ci47 xs+1) (xs))))) (hF.at 1 rfl) rfl) rfl rfl rfl rfl fun a hF=>?_
        obtain⟨g8,w27,ge8,hr,bb,o8⟩:=own_alloc (P:=Tryz.prog) (w:=w23) (cs:=[.bool false,.slice none 0 0]) 32 ze_RInt rfl (niB (niS ni0))
        have ne2_8:g2≠g8:=by rw[←ge8];exact o2.ne_new
        have ne6_8:g6≠g8:=by rw[←ge8];exact o6.ne_new
        replace ge8:w.heap.size≤g8:=by rw[←ge8];exact bel.size
        refine E.opv hF (r_alloc hr) rfl rfl rfl rfl fun a hF=>?_
        clear hr
        replace hh25:=hh25.below bb
        replace hf10:=hf10.below bb
        replace hh6:=hh6.below bb
        replace o2:=o2.below bb
        replace o6:=o6.below bb
        replace bel:=below_to bel bb
        clear bb
        obtain⟨w28,hr,tu,on⟩:=st_RInt (vs:=[.bool b26,.slice ad26 n26 c26]) o8 rfl rfl (ocB (ocS oc0)) (niB (niS ni0)) (o:=0) rfl
        have kp:=tu.keep o8
        refine E.st hF (r_store (hF.at 0 rfl) (hF.at 2 rfl) (hr _ rfl)) rfl rfl fun a hF=>?_
        clear hr
        replace hf10:=hf10.keep kp
        replace hh6:=hh6.keep kp
        replace hh25:=hh25.keep kp
        replace o2:=tu.own o2 ne2_8
        replace o6:=tu.own o6 ne6_8
        replace bel:=tu.below bel ge8
        clear tu kp
        replace o8:=on
        clear on
        have hf29:=Rz.abs hh25
        refine E.opv hF (r_assign (hF.at 1 rfl)) rfl rfl rfl rfl fun a hF=>?_
        refine E.nil ?_
        refine wp_seq ?_
        refine wp_seq ?_
        refine E.seq ?_
        refine E.opv hF (r_move (hF.at 0 rfl)) rfl rfl rfl rfl fun a hF=>?_
        by_cases hc30:pe ((List.drop (ci47 xs+1) (xs)))≠0
        ·first
         |(exfalso;omega)
         |(refine E.opv hF (r_bin (hF.at 0 rfl) ev_c eg_scalar (bi_int (ic_neq (c:=true) (dec_tt hc30)) (by simp))) rfl rfl rfl rfl fun a hF=>?_
           refine E.nil ?_
           refine wp_cond_true (hF.at 0 rfl) ?_
           refine wp_seq ?_
           refine E.seq ?_
           refine E.call hF (r_call Tryz.func47 en47.1 en47.2 (map2 ev_c ev_c)) (dOf_any (0) (1) _ (by decide) (by decide) (by decide) (by decide)) rfl rfl rfl rfl ?_
           rintro e w31 ⟨vv32,rfl,hh33,bb⟩
           refine⟨_,rfl,?_⟩
           intro a hF
           replace hf10:=hf10.below bb
           replace hh6:=hh6.below bb
           replace hf29:=hf29.below bb
           replace hh25:=hh25.below bb
           replace o2:=o2.below bb
           replace o6:=o6.below bb
           replace o8:=o8.below bb
           replace bel:=below_to bel bb
           clear bb
           obtain⟨b34,ad34,n34,c34,ae34,m34,d34,z34,D34,rfl,hn34,hd34,hD34,hq34,lz34,lD34⟩:=Rr.shape hh33
           have ha34:=hn34.abs
           refine E.opv hF (r_move (hF.at 3 rfl)) rfl rfl rfl rfl fun a hF=>?_
           obtain⟨w35,hr,tu,on⟩:=st_RRat (vs:=[.bool b34,.slice ad34 n34 c34,.slice ae34 m34 d34]) o2 rfl rfl (ocB (ocS (ocS oc0))) (niB (niS (niS ni0))) (o:=0) rfl
           have kp:=tu.keep o2
           refine E.st hF (r_store (hF.at 31 rfl) (hF.at 1 rfl) (hr _ rfl)) rfl rfl fun a hF=>?_
           clear hr
           replace hf10:=hf10.keep kp
           replace hh6:=hh6.keep kp
           replace hf29:=hf29.keep kp
           replace hh25:=hh25.keep kp
           replace hh33:=hh33.keep kp
           replace hn34:=hn34.keep kp
           replace ha34:=ha34.keep kp
           replace hd34:=hd34.keep kp
           replace o6:=tu.own o6 (Ne.symm ne2_6)
           replace o8:=tu.own o8 (Ne.symm ne2_8)
           replace bel:=tu.below bel ge2
           clear tu kp
           replace o2:=on
           clear on
           refine E.opset (L':=[(3,.int .i64 (pe ((List.drop (ci47 xs+1) (xs))))),(52,.int .i64 (pe ((List.drop (ci47 xs+1) (xs))))),(51,.agg #[.bool b34,.slice ad34 n34 c34,.slice ae34 m34 d34]),(50,.bool true),(49,.int .i64 (pe ((List.drop (ci47 xs+1) (xs))))),(9,.int .i64 (pe ((List.drop (ci47 xs+1) (xs))))),(8,.pointer (some ⟨g8,0,none⟩)),(48,.int .i64 (pe ((List.drop (ci47 xs+1) (xs))))),(47,.agg #[.bool b26,.slice ad26 n26 c26]),(41,.tuple #[.agg #[.bool b26,.slice ad26 n26 c26],.int .i64 (pe ((List.drop (ci47 xs+1) (xs))))]),(46,.tuple #[.agg #[.bool b26,.slice ad26 n26 c26],.int .i64 (pe ((List.drop (ci47 xs+1) (xs))))]),(45,.string (bstr (List.drop (ci47 xs+1) (xs)))),(44,.int .i64 (((ci47 xs:Nat):Int)+1)),(43,.int .i64 ((ci47 xs:Nat):Int)),(42,.string (bstr xs)),(38,.bool false),(37,.int .i64 ((List.length (xs):Nat):Int)),(36,.string (bstr xs)),(35,.int .i64 ((ci47 xs:Nat):Int)),(32,.bool false),(31,.int .i64 (pe ((List.take (ci47 xs) (xs))))),(7,.int .i64 (pe ((List.take (ci47 xs) (xs))))),(6,.pointer (some ⟨g6,0,none⟩)),(30,.int .i64 (pe ((List.take (ci47 xs) (xs))))),(29,.agg #[.bool b7,.slice ad7 n7 c7]),(24,.tuple #[.agg #[.bool b7,.slice ad7 n7 c7],.int .i64 (pe ((List.take (ci47 xs) (xs))))]),(28,.tuple #[.agg #[.bool b7,.slice ad7 n7 c7],.int .i64 (pe ((List.take (ci47 xs) (xs))))]),(27,.string (bstr (List.take (ci47 xs) (xs)))),(26,.int .i64 ((ci47 xs:Nat):Int)),(25,.string (bstr xs)),(4,.int .i64 ((ci47 xs:Nat):Int)),(2,.pointer (some ⟨g2,0,none⟩)),(0,.string (bstr xs))]) hF (r_assign (hF.at 0 rfl)) rfl rfl rfl rfl fun a hF=>?_
           refine E.nil ?_
           refine wp_ret ?_
           refine bodyPost_ret (res_celltmp Tryz.results22 (hF.at 31 rfl) (ld_RRat (vs:=[.bool b34,.slice ad34 n34 c34,.slice ae34 m34 d34]) o2 rfl rfl) (hF.at 0 rfl)) hF.dfr ?_
           have hs:has47 xs=true:=decide_eq_true (by omega)
           have ht:tl47 xs=List.drop (ci47 xs+1) xs:=by unfold tl47;rw[if_pos hs]
           have hc:=ce_3 (xs:=xs) hc11 (hast hs) (by rw[ht];exact hc30)
           rw[ht] at hc
           exact⟨_,rv_vi hc.1,Rr.cast (Rr.up hh33 _ (by omega)) (zero_o1.trans hc.2),bel⟩)
        ·first
         |(exfalso;omega)
         |(refine E.opv hF (r_bin (hF.at 0 rfl) ev_c eg_scalar (bi_int (ic_neq (c:=false) (dec_ff hc30)) (by simp))) rfl rfl rfl rfl fun a hF=>?_
           refine E.nil ?_
           refine wp_cond_false (hF.at 0 rfl) ?_
           refine wp_skip ?_
           refine E.norm ?_
           refine wp_seq ?_
           refine wp_seq ?_
           refine E.seq ?_
           refine E.opv hF (r_field (hF.at 3 rfl) (fa_RInt_0 (p:=0) rfl)) rfl rfl rfl rfl fun a hF=>?_
           refine E.opv hF (r_load (hF.at 0 rfl) (ld_bool (v:= .bool b26) o8 rfl)) rfl rfl rfl rfl fun a hF=>?_
           refine E.nil ?_
           by_cases hc36:b26=true
           ·first
            |(exfalso;omega)
            |(refine wp_cond_true (Eq.trans (hF.at 0 rfl) (congrArg Value.bool hc36)) ?_
              refine wp_seq ?_
              refine E.seq ?_
              refine E.call hF (r_call Tryz.func47 en47.1 en47.2 (map2 ev_c ev_c)) (dOf_any (0) (1) _ (by decide) (by decide) (by decide) (by decide)) rfl rfl rfl rfl ?_
              rintro e w37 ⟨vv38,rfl,hh39,bb⟩
              refine⟨_,rfl,?_⟩
              intro a hF
              replace hf10:=hf10.below bb
              replace hh6:=hh6.below bb
              replace hf29:=hf29.below bb
              replace hh25:=hh25.below bb
              replace o2:=o2.below bb
              replace o6:=o6.below bb
              replace o8:=o8.below bb
              replace bel:=below_to bel bb
              clear bb
              obtain⟨b40,ad40,n40,c40,ae40,m40,d40,z40,D40,rfl,hn40,hd40,hD40,hq40,lz40,lD40⟩:=Rr.shape hh39
              have ha40:=hn40.abs
              obtain⟨w41,hr,tu,on⟩:=st_RRat (vs:=[.bool b40,.slice ad40 n40 c40,.slice ae40 m40 d40]) o2 rfl rfl (ocB (ocS (ocS oc0))) (niB (niS (niS ni0))) (o:=0) rfl
              have kp:=tu.keep o2
              refine E.st hF (r_store (hF.at 32 rfl) (hF.at 0 rfl) (hr _ rfl)) rfl rfl fun a hF=>?_
              clear hr
              replace hf10:=hf10.keep kp
              replace hh6:=hh6.keep kp
              replace hf29:=hf29.keep kp
              replace hh25:=hh25.keep kp
              replace hh39:=hh39.keep kp
              replace hn40:=hn40.keep kp
              replace ha40:=ha40.keep kp
              replace hd40:=hd40.keep kp
              replace o6:=tu.own o6 (Ne.symm ne2_6)
              replace o8:=tu.own o8 (Ne.symm ne2_8)
              replace bel:=tu.below bel ge2
              clear tu kp
              replace o2:=on
              clear on
              refine E.opset (L':=[(3,.int .i64 1),(55,.agg #[.bool b40,.slice ad40 n40 c40,.slice ae40 m40 d40]),(54,.bool b26),(53,.pointer (some ⟨g8,0,none⟩)),(50,.bool false),(49,.int .i64 (pe ((List.drop (ci47 xs+1) (xs))))),(9,.int .i64 (pe ((List.drop (ci47 xs+1) (xs))))),(8,.pointer (some ⟨g8,0,none⟩)),(48,.int .i64 (pe ((List.drop (ci47 xs+1) (xs))))),(47,.agg #[.bool b26,.slice ad26 n26 c26]),(41,.tuple #[.agg #[.bool b26,.slice ad26 n26 c26],.int .i64 (pe ((List.drop (ci47 xs+1) (xs))))]),(46,.tuple #[.agg #[.bool b26,.slice ad26 n26 c26],.int .i64 (pe ((List.drop (ci47 xs+1) (xs))))]),(45,.string (bstr (List.drop (ci47 xs+1) (xs)))),(44,.int .i64 (((ci47 xs:Nat):Int)+1)),(43,.int .i64 ((ci47 xs:Nat):Int)),(42,.string (bstr xs)),(38,.bool false),(37,.int .i64 ((List.length (xs):Nat):Int)),(36,.string (bstr xs)),(35,.int .i64 ((ci47 xs:Nat):Int)),(32,.bool false),(31,.int .i64 (pe ((List.take (ci47 xs) (xs))))),(7,.int .i64 (pe ((List.take (ci47 xs) (xs))))),(6,.pointer (some ⟨g6,0,none⟩)),(30,.int .i64 (pe ((List.take (ci47 xs) (xs))))),(29,.agg #[.bool b7,.slice ad7 n7 c7]),(24,.tuple #[.agg #[.bool b7,.slice ad7 n7 c7],.int .i64 (pe ((List.take (ci47 xs) (xs))))]),(28,.tuple #[.agg #[.bool b7,.slice ad7 n7 c7],.int .i64 (pe ((List.take (ci47 xs) (xs))))]),(27,.string (bstr (List.take (ci47 xs) (xs)))),(26,.int .i64 ((ci47 xs:Nat):Int)),(25,.string (bstr xs)),(4,.int .i64 ((ci47 xs:Nat):Int)),(2,.pointer (some ⟨g2,0,none⟩)),(0,.string (bstr xs))]) hF (r_assign ev_c) rfl rfl rfl rfl fun a hF=>?_
              refine E.nil ?_
              refine wp_ret ?_
              refine bodyPost_ret (res_celltmp Tryz.results22 (hF.at 32 rfl) (ld_RRat (vs:=[.bool b40,.slice ad40 n40 c40,.slice ae40 m40 d40]) o2 rfl rfl) (hF.at 0 rfl)) hF.dfr ?_
              have hs:has47 xs=true:=decide_eq_true (by omega)
              have ht:tl47 xs=List.drop (ci47 xs+1) xs:=by unfold tl47;rw[if_pos hs]
              have hbn:=rz_neg hh25
              have hc:=ce_4 (xs:=xs) hc11 (hast hs) (by rw[ht];exact hc30) (by rw[ht];exact hbn.1 hc36)
              exact⟨_,rv_vi hc.1,Rr.cast (Rr.up hh39 _ (by omega)) (zero_o1.trans hc.2),bel⟩)
           ·first
            |(exfalso;omega)
            |(refine wp_cond_false (Eq.trans (hF.at 0 rfl) (congrArg Value.bool (eq_false_of_ne_true hc36))) ?_
              refine wp_skip ?_
              refine E.norm ?_
              refine wp_seq ?_
              refine wp_seq ?_
              refine E.seq ?_
              refine E.opv hF (r_field (hF.at 5 rfl) (fa_RInt_1 (p:=1) rfl)) rfl rfl rfl rfl fun a hF=>?_
              refine E.opv hF (r_load (hF.at 0 rfl) (ld_Num (v:= .slice ad26 n26 c26) o8 rfl)) rfl rfl rfl rfl fun a hF=>?_
              refine E.opv hF (r_builtin (map1 (hF.at 0 rfl)) bl_num) rfl rfl rfl rfl fun a hF=>?_
              by_cases hc42:((n26:Nat):Int)=0
              ·first
               |(exfalso;omega)
               |(refine E.opv hF (r_bin (hF.at 0 rfl) ev_c eg_scalar (bi_int (ic_eql (c:=true) (dec_tt hc42)) (by simp))) rfl rfl rfl rfl fun a hF=>?_
                 refine E.nil ?_
                 refine wp_cond_true (hF.at 0 rfl) ?_
                 refine wp_seq ?_
                 refine E.seq ?_
                 refine E.call hF (r_call Tryz.func47 en47.1 en47.2 (map2 ev_c ev_c)) (dOf_any (0) (1) _ (by decide) (by decide) (by decide) (by decide)) rfl rfl rfl rfl ?_
                 rintro e w43 ⟨vv44,rfl,hh45,bb⟩
                 refine⟨_,rfl,?_⟩
                 intro a hF
                 replace hf10:=hf10.below bb
                 replace hh6:=hh6.below bb
                 replace hf29:=hf29.below bb
                 replace hh25:=hh25.below bb
                 replace o2:=o2.below bb
                 replace o6:=o6.below bb
                 replace o8:=o8.below bb
                 replace bel:=below_to bel bb
                 clear bb
                 obtain⟨b46,ad46,n46,c46,ae46,m46,d46,z46,D46,rfl,hn46,hd46,hD46,hq46,lz46,lD46⟩:=Rr.shape hh45
                 have ha46:=hn46.abs
                 obtain⟨w47,hr,tu,on⟩:=st_RRat (vs:=[.bool b46,.slice ad46 n46 c46,.slice ae46 m46 d46]) o2 rfl rfl (ocB (ocS (ocS oc0))) (niB (niS (niS ni0))) (o:=0) rfl
                 have kp:=tu.keep o2
                 refine E.st hF (r_store (hF.at 36 rfl) (hF.at 0 rfl) (hr _ rfl)) rfl rfl fun a hF=>?_
                 clear hr
                 replace hf10:=hf10.keep kp
                 replace hh6:=hh6.keep kp
                 replace hf29:=hf29.keep kp
                 replace hh25:=hh25.keep kp
                 replace hh45:=hh45.keep kp
                 replace hn46:=hn46.keep kp
                 replace ha46:=ha46.keep kp
                 replace hd46:=hd46.keep kp
                 replace o6:=tu.own o6 (Ne.symm ne2_6)
                 replace o8:=tu.own o8 (Ne.symm ne2_8)
                 replace bel:=tu.below bel ge2
                 clear tu kp
                 replace o2:=on
                 clear on
                 refine E.opset (L':=[(3,.int .i64 4),(60,.agg #[.bool b46,.slice ad46 n46 c46,.slice ae46 m46 d46]),(59,.bool true),(58,.int .i64 ((n26:Nat):Int)),(57,.slice ad26 n26 c26),(56,.pointer (some ⟨g8,1,none⟩)),(54,.bool b26),(53,.pointer (some ⟨g8,0,none⟩)),(50,.bool false),(49,.int .i64 (pe ((List.drop (ci47 xs+1) (xs))))),(9,.int .i64 (pe ((List.drop (ci47 xs+1) (xs))))),(8,.pointer (some ⟨g8,0,none⟩)),(48,.int .i64 (pe ((List.drop (ci47 xs+1) (xs))))),(47,.agg #[.bool b26,.slice ad26 n26 c26]),(41,.tuple #[.agg #[.bool b26,.slice ad26 n26 c26],.int .i64 (pe ((List.drop (ci47 xs+1) (xs))))]),(46,.tuple #[.agg #[.bool b26,.slice ad26 n26 c26],.int .i64 (pe ((List.drop (ci47 xs+1) (xs))))]),(45,.string (bstr (List.drop (ci47 xs+1) (xs)))),(44,.int .i64 (((ci47 xs:Nat):Int)+1)),(43,.int .i64 ((ci47 xs:Nat):Int)),(42,.string (bstr xs)),(38,.bool false),(37,.int .i64 ((List.length (xs):Nat):Int)),(36,.string (bstr xs)),(35,.int .i64 ((ci47 xs:Nat):Int)),(32,.bool false),(31,.int .i64 (pe ((List.take (ci47 xs) (xs))))),(7,.int .i64 (pe ((List.take (ci47 xs) (xs))))),(6,.pointer (some ⟨g6,0,none⟩)),(30,.int .i64 (pe ((List.take (ci47 xs) (xs))))),(29,.agg #[.bool b7,.slice ad7 n7 c7]),(24,.tuple #[.agg #[.bool b7,.slice ad7 n7 c7],.int .i64 (pe ((List.take (ci47 xs) (xs))))]),(28,.tuple #[.agg #[.bool b7,.slice ad7 n7 c7],.int .i64 (pe ((List.take (ci47 xs) (xs))))]),(27,.string (bstr (List.take (ci47 xs) (xs)))),(26,.int .i64 ((ci47 xs:Nat):Int)),(25,.string (bstr xs)),(4,.int .i64 ((ci47 xs:Nat):Int)),(2,.pointer (some ⟨g2,0,none⟩)),(0,.string (bstr xs))]) hF (r_assign ev_c) rfl rfl rfl rfl fun a hF=>?_
                 refine E.nil ?_
                 refine wp_ret ?_
                 refine bodyPost_ret (res_celltmp Tryz.results22 (hF.at 36 rfl) (ld_RRat (vs:=[.bool b46,.slice ad46 n46 c46,.slice ae46 m46 d46]) o2 rfl rfl) (hF.at 0 rfl)) hF.dfr ?_
                 have hs:has47 xs=true:=decide_eq_true (by omega)
                 have ht:tl47 xs=List.drop (ci47 xs+1) xs:=by unfold tl47;rw[if_pos hs]
                 have hbn:=rz_neg hh25
                 have hbl:=rz_len0 hh25
                 have hc:=ce_5 (xs:=xs) hc11 (hast hs) (by rw[ht];exact hc30) (by rw[ht];exact fun e=>hc36 (hbn.2 e)) (by rw[ht];exact sz_eq0.2 (hbl.1 hc42))
                 exact⟨_,rv_vi hc.1,Rr.cast (Rr.up hh45 _ (by omega)) (zero_o1.trans hc.2),bel⟩)
              ·first
               |(exfalso;omega)
               |(refine E.opv hF (r_bin (hF.at 0 rfl) ev_c eg_scalar (bi_int (ic_eql (c:=false) (dec_ff hc42)) (by simp))) rfl rfl rfl rfl fun a hF=>?_
                 refine E.nil ?_
                 refine wp_cond_false (hF.at 0 rfl) ?_
                 refine wp_skip ?_
                 refine E.norm ?_
                 refine wp_seq ?_
                 refine E.seq ?_
                 refine E.opv hF (r_load (hF.at 25 rfl) (ld_RInt (vs:=[.bool b7,.slice ad7 n7 c7]) o6 rfl rfl)) rfl rfl rfl rfl fun a hF=>?_
                 refine E.opv hF (r_load (hF.at 10 rfl) (ld_RInt (vs:=[.bool b26,.slice ad26 n26 c26]) o8 rfl rfl)) rfl rfl rfl rfl fun a hF=>?_
                 refine E.call hF (r_call Tryz.func49 en49.1 en49.2 (map2 (hF.at 1 rfl) (hF.at 0 rfl))) (dmk_any _ _ (pz ((List.take (ci47 xs) (xs)))) (pz ((List.drop (ci47 xs+1) (xs)))) 106 _ hh6 hh25 (Lim.up (pz_limC ((List.take (ci47 xs) (xs)))) _ (by omega)) (Lim.up (pz_limC ((List.drop (ci47 xs+1) (xs)))) _ (by omega)) (by omega)) rfl rfl rfl rfl ?_
                 rintro e w48 ⟨vv49,rfl,hh50,bb⟩
                 refine⟨_,rfl,?_⟩
                 intro a hF
                 replace o2:=o2.below bb
                 replace bel:=below_to bel bb
                 clear bb
                 obtain⟨b51,ad51,n51,c51,ae51,m51,d51,z51,D51,rfl,hn51,hd51,hD51,hq51,lz51,lD51⟩:=Rr.shape hh50
                 have ha51:=hn51.abs
                 obtain⟨w52,hr,tu,on⟩:=st_RRat (vs:=[.bool b51,.slice ad51 n51 c51,.slice ae51 m51 d51]) o2 rfl rfl (ocB (ocS (ocS oc0))) (niB (niS (niS ni0))) (o:=0) rfl
                 have kp:=tu.keep o2
                 refine E.st hF (r_store (hF.at 38 rfl) (hF.at 0 rfl) (hr _ rfl)) rfl rfl fun a hF=>?_
                 clear hr
                 replace hh50:=hh50.keep kp
                 replace hn51:=hn51.keep kp
                 replace ha51:=ha51.keep kp
                 replace hd51:=hd51.keep kp
                 replace bel:=tu.below bel ge2
                 clear tu kp
                 replace o2:=on
                 clear on
                 refine E.opset (L':=[(3,.int .i64 0),(63,.agg #[.bool b51,.slice ad51 n51 c51,.slice ae51 m51 d51]),(62,.agg #[.bool b26,.slice ad26 n26 c26]),(61,.agg #[.bool b7,.slice ad7 n7 c7]),(59,.bool false),(58,.int .i64 ((n26:Nat):Int)),(57,.slice ad26 n26 c26),(56,.pointer (some ⟨g8,1,none⟩)),(54,.bool b26),(53,.pointer (some ⟨g8,0,none⟩)),(50,.bool false),(49,.int .i64 (pe ((List.drop (ci47 xs+1) (xs))))),(9,.int .i64 (pe ((List.drop (ci47 xs+1) (xs))))),(8,.pointer (some ⟨g8,0,none⟩)),(48,.int .i64 (pe ((List.drop (ci47 xs+1) (xs))))),(47,.agg #[.bool b26,.slice ad26 n26 c26]),(41,.tuple #[.agg #[.bool b26,.slice ad26 n26 c26],.int .i64 (pe ((List.drop (ci47 xs+1) (xs))))]),(46,.tuple #[.agg #[.bool b26,.slice ad26 n26 c26],.int .i64 (pe ((List.drop (ci47 xs+1) (xs))))]),(45,.string (bstr (List.drop (ci47 xs+1) (xs)))),(44,.int .i64 (((ci47 xs:Nat):Int)+1)),(43,.int .i64 ((ci47 xs:Nat):Int)),(42,.string (bstr xs)),(38,.bool false),(37,.int .i64 ((List.length (xs):Nat):Int)),(36,.string (bstr xs)),(35,.int .i64 ((ci47 xs:Nat):Int)),(32,.bool false),(31,.int .i64 (pe ((List.take (ci47 xs) (xs))))),(7,.int .i64 (pe ((List.take (ci47 xs) (xs))))),(6,.pointer (some ⟨g6,0,none⟩)),(30,.int .i64 (pe ((List.take (ci47 xs) (xs))))),(29,.agg #[.bool b7,.slice ad7 n7 c7]),(24,.tuple #[.agg #[.bool b7,.slice ad7 n7 c7],.int .i64 (pe ((List.take (ci47 xs) (xs))))]),(28,.tuple #[.agg #[.bool b7,.slice ad7 n7 c7],.int .i64 (pe ((List.take (ci47 xs) (xs))))]),(27,.string (bstr (List.take (ci47 xs) (xs)))),(26,.int .i64 ((ci47 xs:Nat):Int)),(25,.string (bstr xs)),(4,.int .i64 ((ci47 xs:Nat):Int)),(2,.pointer (some ⟨g2,0,none⟩)),(0,.string (bstr xs))]) hF (r_assign ev_c) rfl rfl rfl rfl fun a hF=>?_
                 refine E.nil ?_
                 refine wp_ret ?_
                 refine bodyPost_ret (res_celltmp Tryz.results22 (hF.at 38 rfl) (ld_RRat (vs:=[.bool b51,.slice ad51 n51 c51,.slice ae51 m51 d51]) o2 rfl rfl) (hF.at 0 rfl)) hF.dfr ?_
                 have hs:has47 xs=true:=decide_eq_true (by omega)
                 have ht:tl47 xs=List.drop (ci47 xs+1) xs:=by unfold tl47;rw[if_pos hs]
                 have hbn:=rz_neg hh25
                 have hbl:=rz_len0 hh25
                 have hc:=ce_6 (xs:=xs) hc11 (hast hs) (by rw[ht];exact hc30) (by rw[ht];exact fun e=>hc36 (hbn.2 e)) (by rw[ht];exact fun e=>hc42 (hbl.2 (sz_eq0.1 e)))
                 exact⟨_,rv_vi hc.1,Rr.cast (Rr.up hh50 _ (by omega)) (by rw[←hc.2,ht];rfl),bel⟩)))))
end Go.Proofs.YtpkhdajnppoinaaGreat
