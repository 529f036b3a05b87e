import Derived.Test.YtplngpfpcheofaaGreatDoorKB22
namespace Go.Proofs.YtplngpfpcheofaaGreatDoor
open Go.RowKit
set_option maxRecDepth 100000
set_option linter.unusedVariables false
set_option maxHeartbeats 8000000
section
section
end
section
end
section
theorem qc_def (a b:Rat):qc a b=if a<b then -1 else if b<a then 1 else 0:=by
 unfold qc ci
 simp only [←Rat.lt_iff]
theorem sz_def (q:Rat):sz q.num=if q<0 then -1 else if 0<q then 1 else 0:=by
 have h1:q<0↔q.num<0:=by rw[Rat.lt_iff];simp
 have h2:0<q↔0<q.num:=by rw[Rat.lt_iff];simp
 simp only [h1,h2]
 unfold sz
 split
 ·rename_i e;rw[e];simp
 ·split
  ·rfl
  ·rw[if_pos (by omega)]
end
end
end Go.Proofs.YtplngpfpcheofaaGreatDoor
