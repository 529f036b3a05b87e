import Derived.Test.YtplngpfpcheofaaGreatDoorKE5
import Derived.Deep.LoopGhost
namespace Go.Proofs.YtplngpfpcheofaaGreatDoor
open Go.RowKit
set_option maxRecDepth 100000
set_option linter.unusedVariables false
set_option maxHeartbeats 8000000
theorem Tryz.info3:(Tryz.prog.info? 3).map (fun i=>(i.zero,i.size,i.bytes))=some (some (.int .i64 0),1,8):=by kernel_rfl
def nw (b:Nat) (w:World) (ad:Option Addr) (cap:Nat) (xs:List Nat) (e:Ending) (w':World):Prop:=
 e= .returned (.slice ad (dl b (vl b xs)) cap)∧w'=w
theorem kT {b:Nat} {w:World} {ad:Option Addr} {cap n:Nat} {xs:List Nat} {v:Value} (hb:2≤b) (ho:okb b xs) (hn:n≤xs.length) (h0:0<n→lg xs (n-1)≠0) (hz:∀i,n≤i→lg xs i=0) (hv:v= .slice ad n cap):
 nw b w ad cap xs (.returned v) w:=by
 rw[(lI hb ho hn h0 hz).2] at hv
 exact⟨by rw[hv],rfl⟩
section
section
theorem mS {b N M j:Nat} (hb:2≤b) (ha:∀i,j<i→lg (dg b N) i=lg (dg b M) i) (h:lg (dg b N) j<lg (dg b M) j):N<M:=by
 have:=il (bn hb N) (by omega) h ha
 rwa[bm hb,bm hb] at this
theorem rI {b N M:Nat} (hb:2≤b) (h:∀j,lg (dg b N) j=lg (dg b M) j):N=M:=by
 have:=fi b h
 rwa[bm hb,bm hb] at this
end
section
end
section
theorem Rd.drop {w:World} {k:IntKind} {b off:Nat} {xs:List Nat} (h:Rd w k (some ⟨b,off,none⟩) xs) (n:Nat):Rd w k (some ⟨b,off+n,none⟩) (xs.drop n):=by
 refine⟨fun i hi=>?_⟩
 simp at hi
 obtain⟨b',off',ha,hlt,hc⟩:=h.cell (n+i) (by omega)
 simp at ha
 obtain⟨rfl,rfl⟩:=ha
 exact⟨b,off+n,rfl,hlt,by rw[ed,Nat.add_assoc];exact hc⟩
end
end
end Go.Proofs.YtplngpfpcheofaaGreatDoor
