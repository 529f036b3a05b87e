import Derived.Test.YtplngpfpcheofaaKC36
namespace Go.Proofs.Ytplngpfpcheofaa
open Go.RowKit
set_option maxRecDepth 100000
set_option linter.unusedVariables false
set_option maxHeartbeats 8000000
theorem two21:(2:Int)^21=2097152:=by decide+kernel
def awp (q:Rat):Bool:=decide (0<qc q (((1:Int):Rat)/((3:Int):Rat)))
theorem qc_pos15 {a b:Rat}:0<qc a b↔b<a:=by
 rw[qc_def]
 split
 ·exact⟨fun h=>absurd h (by decide),fun h=>by grind⟩
 ·split
  ·exact⟨fun _=>by assumption,fun _=>by decide⟩
  ·exact⟨fun h=>absurd h (by decide),fun h=>by contradiction⟩
theorem awp_t {q:Rat}:awp q=true↔1/3<q:=by unfold awp;rw[decide_eq_true_iff,qc_pos15,show((1:Int):Rat)/((3:Int):Rat)=1/3 by decide+kernel]
theorem aw_k:hlv awp 0 ((1:Int):Rat) 21=699050:=by
 have a:=hlv_left (p:=awp) (lo:=0) ((1:Int):Rat) (eq_false_of_ne_true fun e=>by have:=awp_t.1 e;revert this;decide+kernel) 21
 have b:=hlv_right (p:=awp) 0 (hi:=((1:Int):Rat)) (awp_t.2 (by decide+kernel)) 21
 have b:=awp_t.1 b
 have a:¬1/3<hlo awp 0 ((1:Int):Rat) 21:=fun e=>by rw[awp_t.2 e] at a;cases a
 unfold hhi atR at b
 unfold hlo atR at a
 rw[two21,show((2097152:Int):Rat)=2097152 from rfl,show((1:Int):Rat)=1 from rfl] at a b
 rw[Rat.intCast_add,show((1:Int):Rat)=1 from rfl] at b
 generalize hlv awp 0 1 21=k at*
 have u:((3*k:Int):Rat)≤((2097152:Int):Rat):=by rw[Rat.intCast_mul,show((3:Int):Rat)=3 from rfl,show((2097152:Int):Rat)=2097152 from rfl];grind
 have v:((2097152:Int):Rat)<((3*k+3:Int):Rat):=by rw[Rat.intCast_add,Rat.intCast_mul,show((3:Int):Rat)=3 from rfl,show((2097152:Int):Rat)=2097152 from rfl];grind
 have:=Rat.intCast_le_intCast.1 u
 have:=Rat.intCast_lt_intCast.1 v
 omega
theorem aw_lo:hlo awp 0 ((1:Int):Rat) 21=((699050:Int):Rat)/((2097152:Int):Rat):=by
 unfold hlo
 rw[aw_k,two21]
 decide+kernel
theorem aw_hi:hhi awp 0 ((1:Int):Rat) 21=((699051:Int):Rat)/((2097152:Int):Rat):=by
 unfold hhi
 rw[aw_k,two21]
 decide+kernel
end Go.Proofs.Ytplngpfpcheofaa
