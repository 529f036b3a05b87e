import Derived.WalkKit
import Derived.WalkSpells
import Derived.WalkLawsBesides
import Derived.Lib.Hide
import Derived.Laws.CopyOwn
import Derived.Laws.AppendOwnNone
import Derived.StillTailTactics
import Derived.Deep.QuietTactic
import Derived.BigQuiet
import Derived.Deep.RegionWith
namespace Go.Proofs.YtdkmjclbhfnegaaDoor
open Go.RowKit
set_option maxRecDepth 100000
set_option linter.unusedVariables false
set_option maxHeartbeats 8000000
section
section
def lg (xs:List Nat) (i:Nat):Nat:=xs.getD i 0
def vl (b:Nat):List Nat→Nat
 |[]=>0
 |x::xs=>x+b*vl b xs
def okb (b:Nat) (xs:List Nat):Prop:=∀x∈xs,x<b
theorem lg_out {xs:List Nat} {i:Nat} (h:xs.length≤i):lg xs i=0:=by
 unfold lg;simp[List.getD,List.getElem?_eq_none h]
theorem lg_get {xs:List Nat} {i:Nat} (h:i<xs.length):lg xs i=xs[i]:=by
 unfold lg;simp[List.getD,List.getElem?_eq_getElem h]
theorem lg_mem {xs:List Nat} {i:Nat} (h:i<xs.length):lg xs i∈xs:=by rw[lg_get h];exact List.getElem_mem h
theorem lg_lt {b:Nat} {xs:List Nat} (ho:okb b xs) (hb:0<b) (i:Nat):lg xs i<b:=by
 by_cases h:i<xs.length
 ·exact ho _ (lg_mem h)
 ·rw[lg_out (by omega)];exact hb
theorem okb_nil (b:Nat):okb b []:=fun _ h=>absurd h (by simp)
theorem okb_take {b:Nat} {xs:List Nat} (h:okb b xs) (k:Nat):okb b (xs.take k):=fun x hx=>h x (List.mem_of_mem_take hx)
def c3 (m n:Nat):Int:=if m<n then -1 else if n<m then 1 else 0
end
section
def B32:Nat:=4294967296
def cl (k:IntKind) (xs:List Nat):List Value:=xs.map (fun n=>Value.int k (n:Nat))
structure Rd (w:World) (k:IntKind) (ad:Option Addr) (xs:List Nat):Prop where
 cell:∀i,i<xs.length→∃b off,ad=some ⟨b,off,none⟩∧b<w.heap.size∧w.cell? ⟨b,off+i,none⟩=some (.int k (lg xs i:Nat))
theorem Rd.below {w w':World} {k:IntKind} {ad:Option Addr} {xs:List Nat} (h:Rd w k ad xs) (hb:Below w.heap.size w w'):Rd w' k ad xs:=by
 refine⟨fun i hi=>?_⟩
 obtain⟨b,off,ha,hlt,hc⟩:=h.cell i hi
 exact⟨b,off,ha,Nat.lt_of_lt_of_le hlt hb.size,by rw[hb.cell (p:=⟨b,off+i,none⟩) hlt];exact hc⟩
end
section
theorem below_to {w0 w w':World} (h:Below w0.heap.size w0 w) (k:Below w.heap.size w w'):Below w0.heap.size w0 w':=h.trans (k.mono h.size)
def Keep (w w':World):Prop:=∀k ad xs,Rd w k ad xs→Rd w' k ad xs
theorem Below.keep {w w':World} (h:Below w.heap.size w w'):Keep w w':=fun _ _ _ r=>r.below h
end
end
end Go.Proofs.YtdkmjclbhfnegaaDoor
