import Derived.Test.YtacnedknihlfnaaKB22
namespace Go.Proofs.Ytacnedknihlfnaa
open Go.RowKit
set_option maxRecDepth 100000
set_option linter.unusedVariables false
set_option maxHeartbeats 8000000
section
section
end
section
theorem rSame_true (v1 v2:Value) (q1 q2:Rat) (w:World) (h1:Rq w v1 q1) (h2:Rq w v2 q2) (h:q1=q2):Calls Try.prog 19 #[v1,v2] w (BoolPost w true):=by
 have:=rSame_any v1 v2 q1 q2 w h1 h2
 rw[decide_eq_true h] at this
 exact this
end
section
theorem sz_def (q:Rat):sz q.num=if q<0 then -1 else if 0<q then 1 else 0:=by
 have h1:q<0↔q.num<0:=by rw[Rat.lt_iff];simp
 have h2:0<q↔0<q.num:=by rw[Rat.lt_iff];simp
 simp only [h1,h2]
 unfold sz
 split
 ·rename_i e;rw[e];simp
 ·split
  ·rfl
  ·rw[if_pos (by omega)]
end
end
end Go.Proofs.Ytacnedknihlfnaa
