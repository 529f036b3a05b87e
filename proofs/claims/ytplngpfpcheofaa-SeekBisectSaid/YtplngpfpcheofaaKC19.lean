import Derived.Test.YtplngpfpcheofaaKC18
import Derived.Deep.RegionHeld3
namespace Go.Proofs.Ytplngpfpcheofaa
open Go.RowKit
set_option maxRecDepth 100000
set_option linter.unusedVariables false
set_option maxHeartbeats 8000000
structure InX (w:World) (a:Option Addr) (n c:Nat) (xs:List Nat):Prop where
 len:n=xs.length
 rd:Rd w .u32 a xs
 ok:okb B32 xs
 cap:xs.length≤c
 max:c≤maxLen
 nil:a=none→c=0
theorem InX.below {w w':World} {a:Option Addr} {n c:Nat} {xs:List Nat} (h:InX w a n c xs) (hb:Below w.heap.size w w'):InX w' a n c xs:=
 ⟨h.len,h.rd.below hb,h.ok,h.cap,h.max,h.nil⟩
theorem In32.x {w:World} {a:Option Addr} {n c:Nat} (h:In32 w a n c):∃xs,InX w a n c xs:=by
 obtain⟨xs,h1,h2,h3,h4,h5,h6⟩:=h
 exact⟨xs,h1,h2,h3,h4,h5,h6⟩
def rawZ (neg:Bool) (xs:List Nat) (m:Nat):Int:=sg neg (vl B32 (xs.take m))
theorem few_x (a:Option Addr) (n c m:Nat) (xs:List Nat) (w:World) (h:InX w a n c xs) (hm:m≤1000):
 Calls Try.prog 33 #[.slice a n c,.int .i64 m] w (SqPost w (xs.take m)):=
 few_in a n c xs m w h.len h.rd h.cap h.max h.nil hm
theorem Sq.form {w:World} {k:IntKind} {v:Value} {xs:List Nat} (h:Sq w k v xs):∃ad n cap,v= .slice ad n cap:=by
 obtain⟨ad,cap,h1,_⟩:=h
 exact⟨ad,_,cap,h1⟩
def WzPost (w:World) (z:Int) (e:Ending) (w':World):Prop:=∃v,e= .returned v∧Wz w' v z∧Below w.heap.size w w'
theorem own_any (neg:Bool) (a:Option Addr) (n c m:Nat) (xs:List Nat) (w:World) (h:InX w a n c xs) (hm:m≤1000):
 Calls Try.prog 18 #[.agg #[.bool neg,.slice a n c],.int .i64 m] w (WzPost w (rawZ neg xs m)):=by
 have hb0:=((Below.refl w.heap.size w).alloc (Nat.le_refl _) (.cells #[.bool neg,.slice a n c] 24)).alloc (by first|(simp;done)|(simp;omega)|omega) (.cells #[.bool false,.slice none 0 0] 30)
 have ni9:NoInt ((w.alloc (.cells #[.bool neg,.slice a n c] 24)).alloc (.cells #[.bool false,.slice none 0 0] 30)) (w.heap.size+1):=by
  have k0:=NoInt.box (w:=(w.alloc (.cells #[.bool neg,.slice a n c] 24))) (l:=[.bool false,.slice none 0 0]) (T:=30) (by simp[notInt_bool,notInt_slice])
  have e0:(w.alloc (.cells #[.bool neg,.slice a n c] 24)).heap.size =(w.heap.size+1):=by simp
  rw[e0] at k0
  exact k0
 have h':=h.below hb0
 have hne:w.heap.size+1≠w.heap.size:=by omega
 have ok:=Lib.hid (okb_take h.ok m)
 have s00:(w.alloc (.cells #[.bool neg,.slice a n c] 24)).cell? ⟨w.heap.size,0,none⟩=some (.bool neg):=by simp
 replace s00:=(World.cell?_alloc_old (w.alloc (.cells #[.bool neg,.slice a n c] 24)) (.cells #[.bool false,.slice none 0 0] 30) ⟨w.heap.size,0,none⟩ (by first|(simp;done)|(simp;omega)|omega)).trans s00
 have s01:(w.alloc (.cells #[.bool neg,.slice a n c] 24)).cell? ⟨w.heap.size,1,none⟩=some (.slice a n c):=by simp
 replace s01:=(World.cell?_alloc_old (w.alloc (.cells #[.bool neg,.slice a n c] 24)) (.cells #[.bool false,.slice none 0 0] 30) ⟨w.heap.size,1,none⟩ (by first|(simp;done)|(simp;omega)|omega)).trans s01
 go_enter Try.func18,Try.ntmps18
 go_wp2_with fail
 have bd:=cell_bd s00
 replace h':=h'.below bd
 replace s00:=(bd.cell (p:=⟨w.heap.size,0,none⟩) (cell_lt s00)).trans s00
 replace s01:=(bd.cell (p:=⟨w.heap.size,1,none⟩) (cell_lt s01)).trans s01
 have bel:=bd
 clear bd
 go_region_held3 (fun w'=>w'.cell? ⟨w.heap.size,0,none⟩=some (.bool neg)∧w'.cell? ⟨w.heap.size,1,none⟩=some (.slice a n c)) (first|exact⟨s00,s01⟩|go_keep)
  (first
  |(go_at_call 33;refine(few_x _ _ _ m xs _ h' hm).mono ?_;rintro e w1 ⟨v3,rfl,d3,bb⟩;replace h':=h'.below bb;replace s00:=(bb.cell (p:=⟨w.heap.size,0,none⟩) (cell_lt s00)).trans s00;replace s01:=(bb.cell (p:=⟨w.heap.size,1,none⟩) (cell_lt s01)).trans s01;replace bel:=below_to bel bb;clear bb;obtain⟨ad9,n9,cap9,rfl⟩:=d3.form;obtain⟨hc,hf⟩:=bcell bel))
 have hz:Wz _ (.agg #[.bool neg,.slice ad9 n9 cap9]) (rawZ neg xs m):=⟨neg,_,_,rfl,d3.nt ok.out,rfl⟩
 obtain⟨bel9,kp⟩:=store2 hb0 (by first|(simp;done)|(simp;omega)|omega) (by first|(simp;done)|(simp;omega)|omega) ni9 bel (.bool neg) (.slice ad9 n9 cap9) (notInt_bool _)
 go_wp2
 exact bodyPost_ret (by simp[results,Try.results18,go_sem,hc]) rfl ⟨_,rfl,kp.wz hz,bel9⟩
end Go.Proofs.Ytplngpfpcheofaa
