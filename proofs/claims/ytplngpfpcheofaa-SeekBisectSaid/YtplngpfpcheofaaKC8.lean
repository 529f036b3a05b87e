import Derived.Test.YtplngpfpcheofaaKC5
import Derived.Test.YtplngpfpcheofaaKC7
namespace Go.Proofs.Ytplngpfpcheofaa
open Go.RowKit
set_option maxRecDepth 100000
set_option linter.unusedVariables false
set_option maxHeartbeats 8000000
section
section
theorem few_any (ad:Option Addr) (n cap:Nat) (xs:List Nat) (m:Nat) (w:World) (hn:n=xs.length) (hr:Rd w .u32 ad xs) (hcap:xs.length≤cap) (hcm:cap≤maxLen) (hnil:ad=none→cap=0) (hm:m≤1099511627776):
 Calls Try.prog 33 #[.slice ad n cap,.int .i64 m] w (AccPost w .u32 62 (xs.take m)):=by
 subst hn
 unfold maxLen at hcm
 obtain⟨i0,hi,hz0,hz1,hz2⟩:=info_parts Try.info62
 have e0:=Acc.empty w .u32 62 w.heap.size (Nat.le_refl _)
 have hbl:=(Below.refl w.heap.size w).alloc (Nat.le_refl _) (.cells #[] 62)
 cases ad with
 |none=>
  have h0:=hnil rfl
  subst h0
  have:xs=[]:=List.length_eq_zero_iff.1 (by omega)
  subst this
  go_enter Try.func33,Try.ntmps33
  go_wp2_with (at_builtin;refine wpList_append_own_none rfl _ _ 22 rfl w.heap.size 62 i0 1 Try.underlying22 hi _ 0 [] rfl e0.own rfl ?_)
  go_ret
  exact⟨_,rfl,by simpa using e0,hbl⟩
 |some a=>
  by_cases hlt:m<xs.length
  ·have hlen:(xs.take m).length =m:=by simp;omega
   have HLN:=Lib.hid hlen
   have hr':=(hr.take m).below hbl
   clear hlen
   go_enter Try.func33,Try.ntmps33
   go_wp2_with (at_builtin;refine wp_accs _ rfl _ _ 22 rfl .u32 62 i0 4 Try.underlying22 hi hz0 hz1 hz2 (by decide) w.heap.size _ [] e0 rfl a m _ (xs.take m) HLN.out.symm rfl hr' (by simp) ?_ (by simp) ?_)
   ·rw[HLN.out];omega
   ·intro v' w' hacc2 hbel2 _
    go_wp2
    go_ret
    exact⟨_,rfl,by simpa using hacc2,hbl.trans hbel2⟩
  ·have hlen:xs.take m=xs:=List.take_of_length_le (by omega)
   have HLN:=Lib.hid hlen
   have hr':=hr.below hbl
   clear hlen
   go_enter Try.func33,Try.ntmps33
   go_wp2_with (at_builtin;refine wp_accs _ rfl _ _ 22 rfl .u32 62 i0 4 Try.underlying22 hi hz0 hz1 hz2 (by decide) w.heap.size _ [] e0 rfl a xs.length cap xs rfl rfl hr' (by simp) ?_ (by simp) ?_)
   ·omega
   ·intro v' w' hacc2 hbel2 _
    go_wp2
    go_ret
    exact⟨_,rfl,by rw[HLN.out];simpa using hacc2,hbl.trans hbel2⟩
end
section
theorem c3_range (p q:Nat): -1≤c3 p q∧c3 p q≤1:=by unfold c3;split <;> (try split) <;> omega
theorem add_small {N M m:Nat} (h1:N<B32^m) (h2:M<B32^m):N+M<B32^(m+1):=by
 rw[Nat.pow_succ,B32_eq];rw[B32_eq] at h1 h2;omega
end
section
end
end
end Go.Proofs.Ytplngpfpcheofaa
