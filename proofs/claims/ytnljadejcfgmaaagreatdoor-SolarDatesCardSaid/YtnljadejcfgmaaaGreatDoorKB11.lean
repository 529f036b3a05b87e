import Derived.Test.YtnljadejcfgmaaaGreatDoorKB3
import Derived.Test.YtnljadejcfgmaaaGreatDoorKB10
import Derived.Deep.RegionHeld3
namespace Go.Proofs.YtnljadejcfgmaaaGreatDoor
open Go.RowKit
set_option maxRecDepth 100000
set_option linter.unusedVariables false
set_option maxHeartbeats 8000000
structure InX (w:World) (a:Option Addr) (n c:Nat) (xs:List Nat):Prop where
 len:n=xs.length
 rd:Rd w .u32 a xs
 ok:okb B32 xs
 cap:xs.length≤c
 max:c≤maxLen
 nil:a=none→c=0
theorem InX.below {w w':World} {a:Option Addr} {n c:Nat} {xs:List Nat} (h:InX w a n c xs) (hb:Below w.heap.size w w'):InX w' a n c xs:=
 ⟨h.len,h.rd.below hb,h.ok,h.cap,h.max,h.nil⟩
def hO (neg:Bool) (xs:List Nat) (m:Nat):Int:=sg neg (vl B32 (xs.take m))
theorem Hp (a:Option Addr) (n c m:Nat) (xs:List Nat) (w:World) (h:InX w a n c xs) (hm:m≤1000):
 Calls Tryz.prog 216 #[.slice a n c,.int .i64 m] w (Gd w (xs.take m)):=
 Gp a n c xs m w h.len h.rd h.cap h.max h.nil hm
theorem rO (neg:Bool) (a:Option Addr) (n c m:Nat) (xs:List Nat) (w:World) (h:InX w a n c xs) (hm:m≤1000):
 Calls Tryz.prog 175 #[.agg #[.bool neg,.slice a n c],.int .i64 m] w (iY w (hO neg xs m)):=by
 have hb0:=((Below.refl w.heap.size w).alloc (Nat.le_refl _) (.cells #[.bool neg,.slice a n c] 140)).alloc (by first|(simp;done)|(simp;omega)|omega) (.cells #[.bool false,.slice none 0 0] 38)
 have ni9:bC ((w.alloc (.cells #[.bool neg,.slice a n c] 140)).alloc (.cells #[.bool false,.slice none 0 0] 38)) (w.heap.size+1):=by
  have k0:=bC.box (w:=(w.alloc (.cells #[.bool neg,.slice a n c] 140))) (l:=[.bool false,.slice none 0 0]) (T:=38) (by simp[aV,bM])
  have e0:(w.alloc (.cells #[.bool neg,.slice a n c] 140)).heap.size =(w.heap.size+1):=by simp
  rw[e0] at k0
  exact k0
 have h':=h.below hb0
 have hne:w.heap.size+1≠w.heap.size:=by omega
 have ok:=Lib.hid (iw h.ok m)
 have lx:(xs.take m).length ≤1073741824:=by simp;omega
 have s00:(w.alloc (.cells #[.bool neg,.slice a n c] 140)).cell? ⟨w.heap.size,0,none⟩=some (.bool neg):=by simp
 replace s00:=(World.cell?_alloc_old (w.alloc (.cells #[.bool neg,.slice a n c] 140)) (.cells #[.bool false,.slice none 0 0] 38) ⟨w.heap.size,0,none⟩ (by first|(simp;done)|(simp;omega)|omega)).trans s00
 have s01:(w.alloc (.cells #[.bool neg,.slice a n c] 140)).cell? ⟨w.heap.size,1,none⟩=some (.slice a n c):=by simp
 replace s01:=(World.cell?_alloc_old (w.alloc (.cells #[.bool neg,.slice a n c] 140)) (.cells #[.bool false,.slice none 0 0] 38) ⟨w.heap.size,1,none⟩ (by first|(simp;done)|(simp;omega)|omega)).trans s01
 go_enter Tryz.func175,Tryz.ntmps175
 go_wp2_with fail
 have bd:=jJ s00
 replace h':=h'.below bd
 replace s00:=(bd.cell (p:=⟨w.heap.size,0,none⟩) (aM s00)).trans s00
 replace s01:=(bd.cell (p:=⟨w.heap.size,1,none⟩) (aM s01)).trans s01
 have bel:=bd
 clear bd
 go_region_held3 (fun w'=>w'.cell? ⟨w.heap.size,0,none⟩=some (.bool neg)∧w'.cell? ⟨w.heap.size,1,none⟩=some (.slice a n c)) (first|exact⟨s00,s01⟩|go_keep)
  (first
  |(go_at_call 216;refine(Hp _ _ _ m xs _ h' hm).mono ?_;rintro e w1 ⟨v3,rfl,d3,bb⟩;replace h':=h'.below bb;replace s00:=(bb.cell (p:=⟨w.heap.size,0,none⟩) (aM s00)).trans s00;replace s01:=(bb.cell (p:=⟨w.heap.size,1,none⟩) (aM s01)).trans s01;replace bel:=ar bel bb;clear bb)
  |(go_at_call 72;refine(q8 _ _ _ d3 ok.out lx).mono ?_;rintro e w2 ⟨v4,rfl,d4,bb⟩;replace h':=h'.below bb;replace d3:=d3.below bb;replace s00:=(bb.cell (p:=⟨w.heap.size,0,none⟩) (aM s00)).trans s00;replace s01:=(bb.cell (p:=⟨w.heap.size,1,none⟩) (aM s01)).trans s01;replace bel:=ar bel bb;clear bb)
  |(go_at_call 71;refine(dD _ _ _ _ d4).mono ?_;rintro e w3 ⟨v9,rfl,h9,bb⟩;replace h':=h'.below bb;replace d3:=d3.below bb;replace d4:=d4.below bb;replace s00:=(bb.cell (p:=⟨w.heap.size,0,none⟩) (aM s00)).trans s00;replace s01:=(bb.cell (p:=⟨w.heap.size,1,none⟩) (aM s01)).trans s01;replace bel:=ar bel bb;clear bb;obtain⟨b9,ad9,n9,cap9,rfl⟩:=h9.form;obtain⟨hc,hf⟩:=bW bel))
 obtain⟨bel9,kp⟩:=dV hb0 (by first|(simp;done)|(simp;omega)|omega) (by first|(simp;done)|(simp;omega)|omega) ni9 bel (.bool b9) (.slice ad9 n9 cap9) (aV _)
 go_wp2
 exact bodyPost_ret (by simp[results,Tryz.results175,go_sem,hc]) rfl ⟨_,rfl,kp.rz h9,bel9⟩
section
section
variable {P:Program} {ops:Array Oper} {Q:Exit→Act→World→Prop}
end
theorem Wz.form {w:World} {v:Value} {z:Int} (h:Wz w v z):∃(b:Bool) (ad:Option Addr) (n cap:Nat),v= .agg #[.bool b,.slice ad n cap]:=by
 obtain⟨b,ad,n,cap,_,h1,_⟩:=h.shape
 exact⟨b,ad,n,cap,h1⟩
end
theorem lU {x y:Int} {a b:Nat} (h1:Lim x.natAbs a) (h2:Lim y.natAbs b) (c:Nat) (ha:a<c) (hb:b<c):Lim (x+y).natAbs c:=(h1.add h2 c ha hb).le (Int.natAbs_add_le x y)
theorem jW {x:Int} {a:Nat} (h:Lim x.natAbs a):Lim (-x).natAbs a:=by rw[Int.natAbs_neg];exact h
theorem cG {x y:Int} {a b:Nat} (h1:Lim x.natAbs a) (h2:Lim y.natAbs b):Lim (x*y).natAbs (a+b):=by rw[Int.natAbs_mul];exact h1.mul h2
theorem Dg.form {w:World} {k:IntKind} {b:Nat} {v:Value} {n:Nat} (h:Dg w k b v n):∃ad m c,v= .slice ad m c:=by
 obtain⟨ad,cap,rfl,_⟩:=h
 exact⟨ad,_,cap,rfl⟩
theorem Nt.form {w:World} {v:Value} {n:Nat} (h:Nt w v n):∃ad m c,v= .slice ad m c:=h.shape
theorem Dg.keep {w w':World} {k:IntKind} {b:Nat} {v:Value} {n:Nat} (h:Dg w k b v n) (kp:dA w w'):Dg w' k b v n:=kp.dg h
theorem Wc.keep {w w':World} {v:Value} {z:Int} (h:Wc w v z) (kp:dA w w'):Wc w' v z:=kp.wc h
theorem Rz.keep {w w':World} {v:Value} {z:Int} (h:Rz w v z) (kp:dA w w'):Rz w' v z:=kp.rz h
theorem InX.keep {w w':World} {ad:Option Addr} {n c:Nat} {xs:List Nat} (h:InX w ad n c xs) (kp:dA w w'):InX w' ad n c xs:=by
 exact⟨h.len,kp _ _ _ h.rd,h.ok,h.cap,h.max,h.nil⟩
theorem Wc.abs {w:World} {b:Bool} {a:Value} {z:Int} (h:Wc w (.agg #[.bool b,a]) z):Dg w .u32 B32 a z.natAbs:=by
 obtain⟨a',h1,h2⟩:=h
 injection h1 with h1
 simp only [Array.mk.injEq,List.cons.injEq,and_true] at h1
 obtain⟨_,rfl⟩:=h1
 exact h2
theorem Wc.neg {w:World} {b:Bool} {a:Value} {z:Int} (h:Wc w (.agg #[.bool b,a]) z):b=decide (z<0):=by
 obtain⟨a',h1,h2⟩:=h
 injection h1 with h1
 simp only [Array.mk.injEq,List.cons.injEq,and_true,Value.bool.injEq] at h1
 exact h1.1
theorem Wz.abso {w:World} {b:Bool} {a:Value} {z:Int} (h:Wz w (.agg #[.bool b,a]) z):Nt w a z.natAbs:=by
 obtain⟨b',a',N,h1,h2,h3⟩:=h
 injection h1 with h1
 simp only [Array.mk.injEq,List.cons.injEq,and_true] at h1
 obtain⟨_,rfl⟩:=h1
 rw[h3,dG];exact h2
theorem Rz.abs {w:World} {b:Bool} {a:Value} {z:Int} (h:Rz w (.agg #[.bool b,a]) z):Dg w .i64 65536 a z.natAbs:=by
 obtain⟨a',h1,h2⟩:=h
 injection h1 with h1
 simp only [Array.mk.injEq,List.cons.injEq,and_true] at h1
 obtain⟨_,rfl⟩:=h1
 exact h2
def Wg (w:World) (v:Value) (b:Bool) (N:Nat):Prop:=∃s,v= .agg #[.bool b,s]∧Dg w .u32 B32 s N
theorem Wg.mk {w:World} {s:Value} {b:Bool} {N:Nat} (h:Dg w .u32 B32 s N):Wg w (.agg #[.bool b,s]) b N:=⟨s,rfl,h⟩
theorem Wg.below {w w':World} {v:Value} {b:Bool} {N:Nat} (h:Wg w v b N) (hb:Below w.heap.size w w'):Wg w' v b N:=by
 obtain⟨s,rfl,h⟩:=h;exact⟨s,rfl,h.below hb⟩
theorem Wg.wz {w:World} {v:Value} {b:Bool} {N:Nat} (h:Wg w v b N):Wz w v (sg b N):=by
 obtain⟨s,rfl,h⟩:=h;exact⟨b,s,N,rfl,h.nt,rfl⟩
theorem Wz.mk {w:World} {s:Value} {b:Bool} {N:Nat} (h:Nt w s N):Wz w (.agg #[.bool b,s]) (sg b N):=⟨b,s,N,rfl,h,rfl⟩
theorem Dg.nil (w:World):Dg w .u32 B32 (.slice none 0 0) 0:=Dg.zero _ _ _ _ (by unfold maxLen;omega) (fun _=>rfl)
theorem eU {N k:Nat} (b:Bool) (h:Lim N k):Lim (sg b N).natAbs k:=by rw[dG];exact h
theorem qe {n:Int} (h:n.natAbs<18446744073709551616):Lim n.natAbs 2:=Lim.of64 h
theorem qB (neg:Bool) {xs:List Nat} (h:okb B32 xs) (m:Nat):Lim (hO neg xs m).natAbs m:=by
 unfold hO
 rw[dG]
 exact Lim.of_sq (iw h m) (by simp;omega)
theorem CB {p:Prop} [Decidable p] (h:¬p):decide p=false:=decide_eq_false h
theorem CU {p:Prop} [Decidable p] (h:p):decide p=true:=decide_eq_true h
theorem ne0 {x:Int} (h:x=0):decide (x≠0)=false:=by subst h;rfl
theorem eq0 {x:Int} (h:x=0):decide (x=0)=true:=by subst h;rfl
theorem qA {x y:Int} (h:x=y):ci x y=0:=by subst h;unfold ci;split <;> (try split) <;> omega
end Go.Proofs.YtnljadejcfgmaaaGreatDoor
