import Derived.Test.YtdkmjclbhfnegaaDoorKA25
import Derived.Test.YtdkmjclbhfnegaaDoorKA29
namespace Go.Proofs.YtdkmjclbhfnegaaDoor
open Go.RowKit
set_option maxRecDepth 100000
set_option linter.unusedVariables false
set_option maxHeartbeats 8000000
theorem AccU.gc {m T base n:Nat} {v:Value} {rs:List Value}:GCl v fun w=>AccU w m T base v n rs:=by
 rintro w w' ⟨h1,h2⟩ hb hs ku
 refine⟨⟨h1.1,?_⟩,fun g e j z hc=>h2 g e j z (by rw[←hc];exact(World.cell?_of_block (w:=w) (hb g e)).symm)⟩
 rcases h1.2 with hn|⟨g,cap,cur,rfl,hbg,hgg,rest⟩
 ·exact .inl hn
 ·exact .inr ⟨g,cap,cur,rfl,hbg,by rw[hb g rfl];exact hgg,rest⟩
theorem St.gnew {W w:World} {bs:List (Nat×List Value)} {fs:List (World→Prop)} (st:St W w bs fs) {g n c:Nat} (e:w.heap.size=g):∀p∈bs,(Value.slice (some ⟨g,0,none⟩) n c).ownBlock ≠some p.1:=fun p hp h=>st.ne (Nat.le_of_eq e) p hp (by injection h with h;exact h.symm)
theorem AccU.gl {m T base n:Nat} {v:Value} {rs:List Value}:∀w,AccU w m T base v n rs→∀b,v.ownBlock=some b→base≤b∧b<w.heap.size:=fun _ h=>h.lt
end Go.Proofs.YtdkmjclbhfnegaaDoor
