import Derived.Test.YtgdpkknapcgcbaaGreatDoorKC4
import Derived.Laws.BitsAllLaws
import Derived.Shelf.Small.Bits
import Derived.Lib.Walk
import Derived.Lib.SliceRun
import Derived.Deep.DeepCutAuto
import Derived.Deep.LoopGhost
import Derived.BigRegion
import Derived.Deep.RegionHeld3
import Derived.Test.YtgdpkknapcgcbaaGreatDoorRows
namespace Go.Proofs.YtgdpkknapcgcbaaGreatDoor
open Go.RowKit
set_option maxRecDepth 100000
set_option linter.unusedVariables false
set_option maxHeartbeats 8000000
section
section
theorem Qz {v:Nat} (h:v<4294967296):v/2147483648=(v.testBit 31).toNat :=by
 rw[Nat.testBit_eq_decide_div_mod_eq]
 have e:(2:Nat)^31=2147483648:=by decide
 rw[e]
 by_cases h1:v<2147483648
 ·rw[Nat.div_eq_of_lt h1];rfl
 ·have:v/2147483648=1:=by omega
  rw[this];rfl
theorem tX {v:Nat} (h:v<4294967296):v.testBit 31=decide (2147483648<=v):=by
 rw[Nat.testBit_eq_decide_div_mod_eq]
 have e:(2:Nat)^31=2147483648:=by decide
 rw[e,decide_eq_decide]
 omega
theorem Ou:IntKind.u32.max=((4294967295:Nat):Int):=by decide
theorem JL (x y c:Nat) (hx:x<4294967296) (hy:y<4294967296) (hc:c<=1):
 bits BinOp.or IntKind.u32 (bits BinOp.and IntKind.u32 (bits BinOp.xor IntKind.u32 IntKind.u32.max (x:Int)) (y:Int))
  (bits BinOp.and IntKind.u32 (bits BinOp.xor IntKind.u32 IntKind.u32.max (bits BinOp.xor IntKind.u32 (x:Int) (y:Int))) (((x:Int)-(y:Int)-(c:Int))%4294967296))/2147483648=
  ((if x<y+c then 1 else 0:Nat):Int):=by
 obtain⟨d,hd⟩:∃d:Nat,d=(x+8589934592-y-c)%4294967296:=⟨_,rfl⟩
 have hd1:d<4294967296:=by omega
 have e1:((x:Int)-(y:Int)-(c:Int))%4294967296=(d:Int):=by omega
 rw[e1,Ou,u32_xor_nat _ _ (by decide) hx,u32_xor_nat _ _ hx hy]
 have p1:x^^^y<4294967296:=Nat.xor_lt_two_pow (n:=32) hx hy
 have p2:4294967295^^^x<4294967296:=Nat.xor_lt_two_pow (n:=32) (by decide) hx
 rw[u32_xor_nat _ _ (by decide) p1,u32_and_nat _ _ p2 hy]
 have p3:4294967295^^^(x^^^y)<4294967296:=Nat.xor_lt_two_pow (n:=32) (by decide) p1
 rw[u32_and_nat _ _ p3 hd1]
 have p4:(4294967295^^^x) &&& y<4294967296:=Nat.and_lt_two_pow (n:=32) _ hy
 have p5:(4294967295^^^(x^^^y)) &&& d<4294967296:=Nat.and_lt_two_pow (n:=32) _ hd1
 rw[u32_or_nat _ _ p4 p5]
 have p6:(4294967295^^^x) &&& y |||(4294967295^^^(x^^^y)) &&& d<4294967296:=Nat.or_lt_two_pow (n:=32) p4 p5
 have key:((4294967295^^^x) &&& y |||(4294967295^^^(x^^^y)) &&& d)/2147483648=(if x<y+c then 1 else 0):=by
  rw[Qz p6]
  simp only [Nat.testBit_or,Nat.testBit_and,Nat.testBit_xor]
  rw[tX hx,tX hy,tX hd1,show Nat.testBit 4294967295 31=true by decide]
  by_cases a:2147483648<=x <;> by_cases b:2147483648<=y <;> by_cases k:x<y+c <;> by_cases q:2147483648<=d <;> simp[a,b,k,q] <;> omega
 rw[<-key];rfl
theorem ph (a b:Nat) (ha:a<4294967296) (hb:b<4294967296):bits BinOp.or IntKind.u64 ((a:Int)*4294967296) (b:Int)=((a*4294967296+b:Nat):Int):=by
 have e:(a:Int)*4294967296=((a*4294967296:Nat):Int):=by omega
 rw[e,u64_or_nat _ _ (by omega) (by omega),nat_join 32 _ _ (by omega) (by omega)]
theorem tb {n:Int} (h0:0<=n) (h1:n<18446744073709551616):IntKind.u64.wrap n=n:=by
 rw[IntKind.wrap_u64];omega
theorem zV (a r:Nat):(a:Int)/2^r=((a/2^r:Nat):Int):=by push_cast;rfl
end
section
end
end
section
section
theorem ve (ad:Option Addr) (n cap:Nat) (xs:List Nat) (i:Nat) (w:World) (hn:n=xs.length) (hr:Rd w .u32 ad xs) (hl:xs.length<=1099511627777) (hi:i<=1099511627777):
 CP 263 #[.slice ad n cap,.int .i64 i] w fun e w'=>e= .returned (.int .u32 (lg xs i:Nat))/\w'=w:=by
 subst hn
 by_cases h:i<xs.length
 ·obtain⟨b,off,rfl,hb,hc⟩:=hr.get (by omega)
  have hc:=hc i h
  clear hr
  go_enter Tryz.func263,Tryz.ntmps263
  go_wp2
  go_ret
  exact⟨rfl,rfl⟩
 ·go_enter Tryz.func263,Tryz.ntmps263
  go_wp2
  go_ret
  exact⟨by rw[eS (by omega)];rfl,rfl⟩
def om (w:World) (ad:Option Addr) (cap:Nat) (xs:List Nat) (e:Ending) (w':World):Prop:=
 e= .returned (.slice ad (dl B32 (vl B32 xs)) cap)/\w'=w
theorem wh {w:World} {ad:Option Addr} {cap n:Nat} {xs:List Nat} {v:Value} (ho:okb B32 xs) (hn:n<=xs.length) (h0:0<n->lg xs (n-1)≠0) (hz:∀i,n<=i->lg xs i=0) (hv:v= .slice ad n cap):
 om w ad cap xs (.returned v) w:=by
 rw[(wA aU ho hn h0 hz).2] at hv
 exact⟨by rw[hv],rfl⟩
theorem gL (ad:Option Addr) (n cap:Nat) (xs:List Nat) (w:World) (hn:n=xs.length) (hr:Rd w .u32 ad xs) (ho:okb B32 xs) (hl:xs.length<=1099511627777) (hcap:xs.length<=cap) (hnil:ad=none->cap=0):
 CP 129 #[.slice ad n cap] w (om w ad cap xs):=by
 subst hn
 go_enter Tryz.func129,Tryz.ntmps129
 go_wp2
 go_loop [3] (fun n=>∃k:Nat,k<=xs.length/\n= .int .i64 k/\Hid (∀i,k<=i->lg xs i=0)) (fun n=>(intOf n).toNat)
 case atStart=>exact⟨_,Nat.le_refl _,rfl,Lib.hid (fun i hi=>eS (by omega))⟩
 case round=>
  obtain⟨k,hk,rfl,hz⟩:=hrel
  by_cases hp:0<k
  ·obtain⟨b,off,rfl,hb,hc⟩:=hr.get (by omega)
   have hc:=hc (k-1) (by omega)
   clear hr hnil
   go_wp2
   ·have ht:((lg xs (k-1):Nat) == (0:Int))=true:=by assumption
    go_round
    case rel=>exact⟨k-1,by omega,by go_num,fun i hi=>by
     by_cases e:i=k-1
     ·subst e;simpa using ht
     ·exact hz i (by omega)⟩
    case measure=>simp[intOf];omega
   ·have ht:((lg xs (k-1):Nat) == (0:Int))=false:=by assumption
    go_ret
    exact wh ho hk (fun _=>by simpa using ht) hz rfl
  ·obtain rfl:k=0:=by omega
   cases ad with
   |none=>
    have hc0:=hnil rfl
    subst hc0
    go_wp2
    go_ret
    exact wh ho hk (fun h=>by omega) hz rfl
   |some a=>
    go_wp2
    go_ret
    exact wh ho hk (fun h=>by omega) hz rfl
theorem xe (x y c:Nat) (w:World) (hx:x<4294967296) (hy:y<4294967296) (hc:c<=1):
 CP 237 #[.int .u32 x,.int .u32 y,.int .u32 c] w fun e w'=>e= .returned (.tuple #[.int .u32 ((x+y+c)%4294967296:Nat),.int .u32 ((x+y+c)/4294967296:Nat)])/\w'=w:=by
 go_enter Tryz.func237,Tryz.ntmps237
 go_wp2
 go_ret2
 exact⟨Cq (by omega) (by omega),rfl⟩
theorem Tryz.info167:(Tryz.prog.info? 167).map (fun i=>(i.zero,i.size,i.bytes))=some (some (.int .u32 0),1,4):=by kernel_rfl
def qq (x y c:Nat) (w:World) (e:Ending) (w':World):Prop:=
 e= .returned (.tuple #[.int .u32 ((x+8589934592-y-c)%4294967296:Nat),.int .u32 (if x<y+c then 1 else 0:Nat)])/\w'=w
theorem wI (x y c:Nat) (w:World) (hx:x<4294967296) (hy:y<4294967296) (hc:c<=1):
 CP 236 #[.int .u32 x,.int .u32 y,.int .u32 c] w (qq x y c w):=by
 go_enter Tryz.func236,Tryz.ntmps236
 go_wp2
 go_ret2
 exact⟨Cq (by omega) (JL x y c hx hy hc),rfl⟩
theorem AZ (x y:Nat) (w:World):
 CP 133 #[.int .i64 x,.int .i64 y] w fun e w'=>e= .returned (.int .i64 (c3 x y))/\w'=w:=by
 by_cases h:x<y
 ·rw[lU h]
  go_enter Tryz.func133,Tryz.ntmps133
  go_wp2
  go_ret
  exact⟨rfl,rfl⟩
 ·by_cases h2:y<x
  ·rw[nc h2]
   go_enter Tryz.func133,Tryz.ntmps133
   go_wp2
   go_ret
   exact⟨rfl,rfl⟩
  ·rw[xJ (by omega)]
   go_enter Tryz.func133,Tryz.ntmps133
   go_wp2
   go_ret
   exact⟨rfl,rfl⟩
theorem AW (x y:Nat) (w:World):
 CP 134 #[.int .u32 x,.int .u32 y] w fun e w'=>e= .returned (.int .i64 (c3 x y))/\w'=w:=by
 by_cases h:x<y
 ·rw[lU h]
  go_enter Tryz.func134,Tryz.ntmps134
  go_wp2
  go_ret
  exact⟨rfl,rfl⟩
 ·by_cases h2:y<x
  ·rw[nc h2]
   go_enter Tryz.func134,Tryz.ntmps134
   go_wp2
   go_ret
   exact⟨rfl,rfl⟩
  ·rw[xJ (by omega)]
   go_enter Tryz.func134,Tryz.ntmps134
   go_wp2
   go_ret
   exact⟨rfl,rfl⟩
end
section
theorem xm (x:Nat) (h:x<2^64):Lib.bitLen x=dl 2 x:=by
 induction x using Nat.strongRecOn with
 |_ x ih=>
  by_cases h0:x=0
  ·subst h0;rw[gb];decide
  ·rw[Lib.bitLen_half x h0 h,ih (x/2) (by omega) (by omega)]
   unfold dl
   rw[lv (by omega) (show 0<x by omega)]
   simp;omega
set_option maxRecDepth 100000 in
theorem Ge (x:Int) (w:World) (h0:0<=x) (h1:x<=4294967295):
 CP 130 #[.int .u32 x] w fun e w'=>e= .returned (.int .i64 (Lib.bitLen x.toNat:Nat))/\w'=w:=by
 by_cases h16:65536<=x
 ·by_cases h8:256<=x/65536
  ·have hix:=fun(w:World)=>Lib.run_index_len8tab (P:=Tryz.prog) w 9 .u8 (x/65536/256) Tryz.underlying9 (by omega) (by omega)
   have hb:=Lib.len8_of (x/65536/256) (by omega) (by omega)
   have hl:=Lib.bitLen_le8' (x/65536/256) (by omega) (by omega)
   have HB:=Lib.hid hb;have HL:=Lib.hid hl
   clear hb hl
   go_enter Tryz.func130,Tryz.ntmps130
   go_wp2
   go_ret
   have hb:=HB.out;have hl:=HL.out
   refine⟨dQ ?_,rfl⟩
   rw[hb]
   have hs:=Lib.bitLen_shift24 x.toNat (by omega) (by omega)
   rw[show(x/65536/256).toNat =x.toNat/16777216 from by omega] at hl ⊢
   unfold wrap64
   omega
  ·have hix:=fun(w:World)=>Lib.run_index_len8tab (P:=Tryz.prog) w 9 .u8 (x/65536) Tryz.underlying9 (by omega) (by omega)
   have hb:=Lib.len8_of (x/65536) (by omega) (by omega)
   have hl:=Lib.bitLen_le8' (x/65536) (by omega) (by omega)
   have HB:=Lib.hid hb;have HL:=Lib.hid hl
   clear hb hl
   go_enter Tryz.func130,Tryz.ntmps130
   go_wp2
   go_ret
   have hb:=HB.out;have hl:=HL.out
   refine⟨dQ ?_,rfl⟩
   rw[hb]
   have hs:=Lib.bitLen_shift16 x.toNat (by omega) (by omega)
   rw[show(x/65536).toNat =x.toNat/65536 from by omega] at hl ⊢
   unfold wrap64
   omega
 ·by_cases h8:256<=x
  ·have hix:=fun(w:World)=>Lib.run_index_len8tab (P:=Tryz.prog) w 9 .u8 (x/256) Tryz.underlying9 (by omega) (by omega)
   have hb:=Lib.len8_of (x/256) (by omega) (by omega)
   have hl:=Lib.bitLen_le8' (x/256) (by omega) (by omega)
   have HB:=Lib.hid hb;have HL:=Lib.hid hl
   clear hb hl
   go_enter Tryz.func130,Tryz.ntmps130
   go_wp2
   go_ret
   have hb:=HB.out;have hl:=HL.out
   refine⟨dQ ?_,rfl⟩
   rw[hb]
   have hs:=Lib.bitLen_shift8 x.toNat (by omega) (by omega)
   rw[show(x/256).toNat =x.toNat/256 from by omega] at hl ⊢
   unfold wrap64
   omega
  ·have hix:=fun(w:World)=>Lib.run_index_len8tab (P:=Tryz.prog) w 9 .u8 (x) Tryz.underlying9 (by omega) (by omega)
   have hb:=Lib.len8_of (x) (by omega) (by omega)
   have hl:=Lib.bitLen_le8' (x) (by omega) (by omega)
   have HB:=Lib.hid hb;have HL:=Lib.hid hl
   clear hb hl
   go_enter Tryz.func130,Tryz.ntmps130
   go_wp2
   go_ret
   have hb:=HB.out;have hl:=HL.out
   refine⟨dQ ?_,rfl⟩
   rw[hb]
   unfold wrap64
   omega
theorem Gm (x:Nat) (w:World) (hx:x<4294967296):
 CP 130 #[.int .u32 x] w fun e w'=>e= .returned (.int .i64 (dl 2 x:Nat))/\w'=w:=by
 have h:=Ge (x:Int) w (by omega) (by omega)
 rw[Int.toNat_natCast,xm x (Nat.lt_of_lt_of_le hx (by decide))] at h
 exact h
theorem Gx (ad:Option Addr) (n cap:Nat) (xs:List Nat) (w:World) (hn:n=xs.length) (hr:Rd w .u32 ad xs) (hl:xs.length<=1099511627777) (hnil:ad=none->n=0):
 CP 185 #[.slice ad n cap] w fun e w'=>∃v,e= .returned v/\Acc w' .u32 167 w.heap.size v xs/\Below w.heap.size w w':=by
 show Calls _ _ _ _ (wm w .u32 167 xs)
 subst hn
 obtain⟨i0,hi,hz0,hz1,hz2⟩:=info_parts Tryz.info167
 have hq:=fun(w:World) (a:Option Addr) (n c:Nat)=>Lib.run_eql_slice_nil (P:=Tryz.prog) w 29 167 a n c 0 0 Tryz.underlying29
 cases ad with
 |none=>
  have h0:=hnil rfl
  have:xs=[]:=List.length_eq_zero_iff.1 h0
  subst this
  go_enter Tryz.func185,Tryz.ntmps185
  go_wp2
  go_ret
  exact⟨_,rfl,⟨World.ownsRow_nil _ _ _ _⟩,Below.refl _ _⟩
 |some a=>
  go_enter Tryz.func185,Tryz.ntmps185
  go_wp2_with (at_builtin;refine sD _ rfl _ _ 29 rfl .u32 167 i0 4 Tryz.underlying29 hi hz0 hz1 hz2 (by decide) w.heap.size _ [] (Acc.empty w .u32 167 w.heap.size (Nat.le_refl _)) rfl a _ cap xs rfl rfl ?_ (by simp) (by omega) (by simp) ?_)
  ·exact hr.below ((Below.refl _ _).alloc (Nat.le_refl _) _)
  ·intro v' w' hacc hbel _
   go_wp2
   go_ret
   exact⟨_,rfl,hacc,((Below.refl _ _).alloc (Nat.le_refl _) _).trans hbel⟩
theorem tv (v:Value) (N:Nat) (w:World) (h:Nt w v N):CP 128 #[v] w (wm w .u32 167 (dg B32 N)):=by
 obtain⟨xs,ox,rfl,ad,cap,rfl,r1,c1,m1,l1,n1⟩:=h
 have dx:=cE aU ox
 have hz:ad=none->dl B32 (vl B32 xs)=0:=fun h=>by have:=n1 h;omega
 go_enter Tryz.func128,Tryz.ntmps128
 go_wp2_with fail
 refine(gL ad _ cap xs _ rfl r1 ox (by omega) c1 n1).mono ?_
 rintro e w' ⟨rfl,hw⟩
 have hw:=hw.symm;subst hw
 go_wp2_with fail
 refine(Gx ad _ cap (dg B32 (vl B32 xs)) _ rfl (r1.dg ox) (by rw[aB];omega) hz).mono ?_
 rintro e w' ⟨v,rfl,ha,hb⟩
 go_wp2
 go_ret
 exact⟨_,rfl,ha,hb⟩
def kD (w:World) (N:Nat) (e:Ending) (w':World):Prop:=∃v,e= .returned v/\Dg w' .u32 B32 v N/\Below w.heap.size w w'
theorem NQ {n:Nat} (h:n<18446744073709551616):okb B32 [n%4294967296,n/4294967296]/\vl B32 [n%4294967296,n/4294967296]=n:=by
 refine⟨?_,?_⟩
 ·intro x hx;simp at hx;rw[dw];omega
 ·simp only [vl];rw[dw];omega
theorem rF (n:Nat) (w:World) (hn:n<18446744073709551616):CP 66 #[.int .u64 n] w (kD w n):=by
 have hon:=NQ hn
 have hrow:∀w:World,Row (w.alloc (.cells #[.int .u32 ((n:Int)%4294967296),.int .u32 ((n:Int)/4294967296)] 167)) .u32 167 w.heap.size w.heap.size 2 [n%4294967296,n/4294967296]:=fun w=>
  ⟨World.ownsRow_lit w #[.int .u32 ((n:Int)%4294967296),.int .u32 ((n:Int)/4294967296)] 2 (Nat.le_refl _) (by unfold maxLen;omega) (by simp)⟩
 have HN:=Lib.hid hon;have HR:=Lib.hid hrow
 clear hon hrow
 go_enter Tryz.func66,Tryz.ntmps66
 go_wp2_with fail
 refine(gL _ _ _ _ _ rfl (HR.out w).rd HN.out.1 (by simp) (Nat.le_refl _) (fun h=>by cases h)).mono ?_
 rintro e w' ⟨rfl,hw⟩
 have hw:=hw.symm;subst hw
 have hrd:=(HR.out w).rd.dg HN.out.1
 have hle:=cE aU HN.out.1
 rw[HN.out.2] at hrd hle ⊢
 simp only [List.length_cons,List.length_nil] at hle
 go_wp2
 go_ret
 exact⟨_,rfl,⟨_,_,rfl,hrd,by rw[aB];omega,by unfold maxLen;omega,by rw[aB];omega,fun h=>by cases h⟩,(Below.refl _ _).alloc (Nat.le_refl _) _⟩
theorem He {N:Nat} (h:0<dl B32 N):dl 2 N=32*(dl B32 N-1)+dl 2 (lg (dg B32 N) (dl B32 N-1)):=by
 obtain⟨h1,h2⟩:=lD aU h
 have e:B32^(dl B32 N-1)=2^(32*(dl B32 N-1)):=by rw[Nat.pow_mul];rfl
 have h3:=Nl h2 (k:=32*(dl B32 N-1)) (r:=N%B32^(dl B32 N-1)) (by rw[<-e];exact Nat.mod_lt _ (Nat.pow_pos bi))
 rw[<-e,<-h1] at h3
 exact h3
theorem jB (v:Value) (N:Nat) (w:World) (h:Nt w v N):CP 63 #[v] w fun e w'=>e= .returned (.int .i64 (dl 2 N:Nat))/\w'=w:=by
 obtain⟨xs,ox,vx,ad,cap,rfl,r1,c1,m1,l1,n1⟩:=h
 have HX:=Lib.hid vx;clear vx
 have dx:=cE aU ox
 have rX:=r1.dg ox
 go_enter Tryz.func63,Tryz.ntmps63
 go_wp2_with fail
 refine(gL ad _ cap xs _ rfl r1 ox (by omega) c1 n1).mono ?_
 rintro e w' ⟨rfl,hw⟩
 have hw:=hw.symm;subst hw
 rw[HX.out] at rX dx ⊢
 clear r1 n1 ox HX
 by_cases h0:0<dl B32 N
 ·have HB:=Lib.hid (He h0)
  obtain⟨b,off,rfl,hb,hc⟩:=rX.get h0
  have hc:=hc (dl B32 N-1) (by rw[aB];omega)
  have hlt:=di (cG aU N) bi (dl B32 N-1)
  have hdl:dl 2 (lg (dg B32 N) (dl B32 N-1))<=32:=fT (by omega) (by rw[dw] at hlt;exact hlt)
  have h00:((dl B32 N:Int) == 0)=false:=by simp;omega
  clear rX
  go_wp2_with (go_at_call 130;refine(Gm (lg (dg B32 N) (dl B32 N-1)) _ hlt).mono ?_;rintro e w' ⟨rfl,hw⟩;have hw:=hw.symm;subst hw)
  go_ret
  exact⟨dQ (by rw[HB.out];omega),rfl⟩
 ·have hz:dl B32 N=0:=by omega
  have h2:N=0:=C8 aU hz
  have H2:=Lib.hid h2;clear h2 h0
  clear rX dx
  rw[hz]
  clear hz
  go_wp2
  go_ret
  exact⟨by rw[H2.out,gb];rfl,rfl⟩
def tr (N:Nat) (w:World) (e:Ending) (w':World):Prop:=
 e= .returned (.tuple #[.int .u64 (if dl 2 N<=64 then N else 0:Nat),.bool (decide (dl 2 N<=64))])/\w'=w
theorem Fg {xs:List Nat} (ho:okb B32 xs):dl 2 (vl B32 xs)<=32*xs.length:=by
 apply fT (by omega)
 have h1:=ie ho
 have h2:B32^xs.length=2^(32*xs.length):=by rw[Nat.pow_mul];rfl
 rwa[h2] at h1
theorem Jo {xs:List Nat} (ho:okb B32 xs) (h:dl 2 (vl B32 xs)<=64):lg xs 1*4294967296+lg xs 0=vl B32 xs:=by
 have h1:=jx (b:=2) (by omega) (vl B32 xs)
 have h2:(2:Nat)^dl 2 (vl B32 xs)<=2^64:=Nat.pow_le_pow_right (by omega) h
 have h3:vl B32 xs<18446744073709551616:=Nat.lt_of_lt_of_le h1 h2
 rw[uD ho bi,uD ho bi,dw]
 rw[dw] at h3
 simp only [Nat.pow_one,Nat.pow_zero,Nat.div_one]
 omega
theorem xW (v:Value) (N:Nat) (w:World) (h:Nt w v N):CP 222 #[v] w (tr N w):=by
 have HN:=Lib.hid h
 obtain⟨xs,ox,vx,ad,cap,rfl,r1,c1,m1,l1,n1⟩:=h
 have HX:=Lib.hid vx;clear vx
 have hb:=jB _ N w HN.out
 obtain⟨d,hd⟩:∃d,d=dl 2 N:=⟨_,rfl⟩
 rw[<-hd] at hb
 have HD:=Lib.hid hd;clear hd
 have HBI:=Lib.hid hb;clear hb
 by_cases hle:d<=64
 ·have hu:=Jo ox (by rw[HX.out,<-HD.out];exact hle)
  rw[HX.out] at hu
  have HU:=Lib.hid hu;clear hu
  have a1:=di ox bi 1
  have a0:=di ox bi 0
  rw[dw] at a1 a0
  have ho:=ph _ _ a1 a0
  have HO:=Lib.hid ho;clear ho
  go_enter Tryz.func222,Tryz.ntmps222
  go_wp2_with fail
  refine(HBI.out).mono ?_
  rintro e w' ⟨rfl,hw⟩
  have hw:=hw.symm;subst hw
  go_wp2_with fail
  refine(ve ad _ cap xs 1 _ rfl r1 (by omega) (by omega)).mono ?_
  rintro e w' ⟨rfl,hw⟩
  have hw:=hw.symm;subst hw
  go_wp2_with fail
  refine(ve ad _ cap xs 0 _ rfl r1 (by omega) (by omega)).mono ?_
  rintro e w' ⟨rfl,hw⟩
  have hw:=hw.symm;subst hw
  go_wp2_with fail
  go_ret2
  refine⟨?_,rfl⟩
  rw[if_pos (by rw[<-HD.out];exact hle)]
  have h2:decide (dl 2 N<=64)=true:=by rw[<-HD.out];simpa using hle
  rw[h2,<-HU.out,<-HO.out]
  rfl
 ·have hdb:=Fg ox
  rw[HX.out,<-HD.out] at hdb
  go_enter Tryz.func222,Tryz.ntmps222
  go_wp2_with fail
  refine(HBI.out).mono ?_
  rintro e w' ⟨rfl,hw⟩
  have hw:=hw.symm;subst hw
  go_wp2_with fail
  go_ret2
  refine⟨?_,rfl⟩
  rw[if_neg (by rw[<-HD.out];exact hle)]
  have h2:decide (dl 2 N<=64)=false:=by rw[<-HD.out];simpa using hle
  rw[h2]
  rfl
end
section
def Ph (w:World) (N M:Nat) (s0 s1:Value) (wc:World):Prop:=
 w=wc/\∃ad cap X ad' cap' Y,s0= .slice ad (dl B32 X) cap/\s1= .slice ad' (dl B32 Y) cap'/\Rd w .u32 ad (dg B32 X)/\Rd w .u32 ad' (dg B32 Y)/\dl B32 Y<=dl B32 X/\X+Y=N+M/\
  dl B32 X<=1099511627776/\dl B32 X<=cap/\dl B32 Y<=cap'
def O5 (w:World) (g d X Y:Nat) (c i:Value) (wr:World):Prop:=
 ∃(k cc:Nat) (zs:List Nat),k<=d/\i= .int .i64 k/\c= .int .u32 cc/\cc<=1/\zs.length=d+1/\okb B32 zs/\Row wr .u32 167 w.heap.size g (d+1) zs/\Below w.heap.size w wr/\
  vl B32 (zs.take k)+cc*B32^k=vl B32 ((dg B32 X).take k)+vl B32 ((dg B32 Y).take k)
theorem Bh (v1 v2:Value) (N M:Nat) (w:World) (h1:Nt w v1 N) (h2:Nt w v2 M) (hb:dl B32 (N+M)<=1099511627776):
 CP 253 #[v1,v2] w (kD w (N+M)):=by
 obtain⟨xs,ox,vx,ad1,cap1,rfl,r1,c1,m1,l1,n1⟩:=h1
 obtain⟨ys,oy,vy,ad2,cap2,rfl,r2,c2,m2,l2,n2⟩:=h2
 have HX:=Lib.hid vx;have HY:=Lib.hid vy;clear vx vy
 have dx:=cE aU ox
 have dy:=cE aU oy
 obtain⟨i0,hi,hz0,hz1,hz2⟩:=info_parts Tryz.info167
 go_enter Tryz.func253,Tryz.ntmps253
 go_wp2_with fail
 refine(gL ad1 _ cap1 xs _ rfl r1 ox (by omega) c1 n1).mono ?_
 rintro e w' ⟨rfl,rfl⟩
 go_wp2_with fail
 refine(gL ad2 _ cap2 ys _ rfl r2 oy (by omega) c2 n2).mono ?_
 rintro e w' ⟨rfl,rfl⟩
 go_upto_if 16 with fail
 go_cut [0,1] (fun s0 s1 wc=>Ph w' N M s0 s1 wc)
 case first=>
  go_wp2
  ·have ht:dl B32 (vl B32 xs)<dl B32 (vl B32 ys):=by assumption
   go_meet
   exact⟨rfl,ad2,cap2,vl B32 ys,ad1,cap1,vl B32 xs,rfl,rfl,r2.dg oy,r1.dg ox,by omega,by rw[HX.out,HY.out,Nat.add_comm],by omega,by omega,by omega⟩
  ·have ht:¬dl B32 (vl B32 xs)<dl B32 (vl B32 ys):=by assumption
   go_meet
   exact⟨rfl,ad1,cap1,vl B32 xs,ad2,cap2,vl B32 ys,rfl,rfl,r1.dg ox,r2.dg oy,by omega,by rw[HX.out,HY.out],by omega,by omega,by omega⟩
 case rest=>
  obtain⟨rfl,ad,cap,X,ad',cap',Y,rfl,rfl,rX,rY,hYX,hS,hLX,hcX,hcY⟩:=hcut
  clear r1 r2 c1 c2 m1 m2 n1 n2 l1 l2 HX HY dx dy ox oy
  have HS:=Lib.hid hS;clear hS
  obtain⟨d,hd⟩:∃d,d=dl B32 X:=⟨_,rfl⟩
  rw[<-hd] at hYX hLX hcX
  rw[<-hd]
  have HD:=Lib.hid hd;clear hd
  go_wp2_with (at_make;refine wpList_make_full _ rfl _ _ 29 rfl w'.heap.size 167 i0 (.int .u32 0) 1 Tryz.underlying29 hi hz0 hz1 .i64 .i64 _ _ (d+1) rfl rfl (by omega) (by omega) (by rw[hz2];omega) (by unfold maxLen;omega) (Nat.le_refl _) ?_)
  intro w1 hown hgrow
  have hrow:=Row.of_made hown
  have hb1:Below w'.heap.size w' w1:=(Below.refl _ _).grown hgrow (Nat.le_refl _) (fun k h=>by cases h)
  clear hown hgrow
  obtain⟨g,hg⟩:∃g,g=w'.heap.size:=⟨_,rfl⟩
  rw[<-hg] at hrow
  rw[<-hg]
  have HG:=Lib.hid hg;clear hg
  go_wp2
  go_loopw [6,25] (fun c i wr=>O5 w' g d X Y c i wr) (fun _ i _=>d-(intOf i).toNat)
  case atStart=>exact⟨0,0,_,Nat.zero_le _,rfl,rfl,by omega,by simp,fX bi _,hrow.rebase (Nat.le_of_eq HG.out.symm),hb1,by simp[vl]⟩
  case round=>
   obtain⟨k,cc,zs,hk,rfl,rfl,hcc,hzl,hzo,hro,hbe,hmath⟩:=hrel
   by_cases hlt:k<d
   ·have HM:=Lib.hid hmath;clear hmath
    have HZ:=Lib.hid hzl
    have hX:=(rX.below hbe).get (by rw[aB,<-HD.out];omega)
    obtain⟨b,off,ha,hbs,hcx⟩:=hX
    have hcx:=hcx k (by rw[aB,<-HD.out];omega)
    have hbb:b<g:=by
     obtain⟨b',off',ha',hb',_⟩:=rX.get (by rw[aB,<-HD.out];omega)
     rw[ha] at ha';simp at ha';rw[HG.out];omega
    subst ha
    have hcs:=hro.cell (j:=k) (by omega)
    have hfr:=hro.free k
    have lx:=di (cG aU X) bi k
    have ly:=di (cG aU Y) bi k
    have rY':=(rY.below hbe).drew
    clear rX rY hzl
    go_upto_region 9 with fail
    have HRO:=Lib.hid hro;have HBE:=Lib.hid hbe
    clear hro hbe hb1 hrow
    go_region_with (first|(go_at_call 263;refine(ve ad' (dl B32 Y) cap' (dg B32 Y) k _ rfl (by assumption) (by rw[aB];omega) (by omega)).mono ?_;rintro e w' ⟨rfl,hw⟩;have hw:=hw.symm;subst hw)|(go_at_call 237;refine(xe (lg (dg B32 X) k) (lg (dg B32 Y) k) cc _ lx ly hcc).mono ?_;rintro e w' ⟨rfl,hw⟩;have hw:=hw.symm;subst hw))
    all_goals
     go_wp2
     go_roundw
     case rel=>
      refine⟨k+1,(lg (dg B32 X) k+lg (dg B32 Y) k+cc)/B32,zs.set k ((lg (dg B32 X) k+lg (dg B32 Y) k+cc)%B32),by omega,by go_num,by rw[dw];go_num,by rw[dw] at lx ly ⊢;omega,by rw[List.length_set];exact HZ.out,
       iy hzo (Nat.mod_lt _ bi),?_,?_,?_⟩
      ·have hs:=(HRO.out.set k ((lg (dg B32 X) k+lg (dg B32 Y) k+cc)%B32)).drew
       rw[show(((lg (dg B32 X) k+lg (dg B32 Y) k+cc)%B32:Nat):Int)=((lg (dg B32 X) k:Nat)+(lg (dg B32 Y) k:Nat)+(cc:Nat):Int)%4294967296 from by rw[dw];omega] at hs
       exact hs
      ·exact(HBE.out.setCell (p:=⟨g,k,none⟩) (Nat.le_of_eq HG.out.symm) _).drew
      ·rw[kZ _ _ (by rw[HZ.out];omega),bI,bI];exact yW HM.out
     case measure=>simp[intOf];omega
   ·obtain rfl:k=d:=by omega
    have hcs:=hro.cell (j:=k) (by omega)
    have hfr:=hro.free k
    have HM:=Lib.hid hmath;clear hmath
    have hset:=hro.set k cc
    have hbs:=hbe.setCell (p:=⟨g,k,none⟩) (Nat.le_of_eq HG.out.symm) (.int .u32 (cc:Nat))
    have ho2:=iy hzo (i:=k) (x:=cc) (b:=B32) (by unfold B32;omega)
    have hv:vl B32 (zs.set k cc)=N+M:=by
     rw[<-cd (k:=k+1) (by rw[List.length_set];omega),kZ _ _ (by omega),HM.out]
     have e1:=cd (b:=B32) (xs:=dg B32 X) (k:=k) (by rw[aB,<-HD.out];omega)
     have e2:=cd (b:=B32) (xs:=dg B32 Y) (k:=k) (by rw[aB];omega)
     rw[e1,e2,cF aU,cF aU,HS.out]
    have HL:=Lib.hid (show(zs.set k cc).length =zs.length from by simp)
    have HV:=Lib.hid hv
    clear rX rY hv hro hbe hzo hb1 hrow
    go_wp2_with fail
    refine(gL _ _ _ (zs.set k cc) _ (by rw[HL.out,hzl]) hset.rd ho2 (by rw[HL.out];omega) (by rw[HL.out];omega) (fun h=>by cases h)).mono ?_
    rintro e w2 ⟨rfl,hw⟩
    have hw:=hw.symm;subst hw
    have hrd:=hset.rd.dg ho2
    have hle:=cE aU ho2
    rw[HV.out] at hrd hle ⊢
    go_wp2
    go_ret
    exact⟨_,rfl,⟨_,_,rfl,hrd,by rw[aB];have:=HL.out;omega,by unfold maxLen;omega,hb,fun h=>by cases h⟩,hbs⟩
end
section
def NT (w:World) (X Y:Nat) (i:Value) (wr:World):Prop:=
 ∃(k n:Nat),k<=dl B32 X/\i= .int .i64 ((k:Int)-1)/\(∀j,k<=j->lg (dg B32 X) j=lg (dg B32 Y) j)/\wr=w.drewN n
theorem Cj {w:World} {X Y n:Nat} {e:Ending} {z:Int} (hz:z=c3 X Y) (he:e= .returned (.int .i64 z)):sx w (.int .i64 (c3 X Y)) e (w.drewN n):=⟨by rw[he,hz],n,rfl⟩
theorem Je {w:World} {X Y:Nat} {e:Ending} {z:Int} (hz:z=c3 X Y) (he:e= .returned (.int .i64 z)):sx w (.int .i64 (c3 X Y)) e w:=⟨by rw[he,hz],0,rfl⟩
theorem IX {X Y i:Nat} (ha:∀j,i<j->lg (dg B32 X) j=lg (dg B32 Y) j) (hne:¬lg (dg B32 X) i=lg (dg B32 Y) i):c3 (lg (dg B32 X) i) (lg (dg B32 Y) i)=c3 X Y:=by
 by_cases h:lg (dg B32 X) i<lg (dg B32 Y) i
 ·have:=nD (cG aU X) bi h ha
  rw[cF aU,cF aU] at this
  rw[lU h,lU this]
 ·have h':lg (dg B32 Y) i<lg (dg B32 X) i:=by omega
  have:=nD (cG aU Y) bi h' (fun j hj=>(ha j hj).symm)
  rw[cF aU,cF aU] at this
  rw[nc h',nc this]
theorem Qp {X Y:Nat} (h:¬dl B32 X=dl B32 Y):c3 (dl B32 X) (dl B32 Y)=c3 X Y:=by
 by_cases h1:dl B32 X<dl B32 Y
 ·rw[lU h1,lU (pD aU h1)]
 ·have h2:dl B32 Y<dl B32 X:=by omega
  rw[nc h2,nc (pD aU h2)]
theorem zI {X Y:Nat} (h:∀j,0<=j->lg (dg B32 X) j=lg (dg B32 Y) j):X=Y:=by
 have:=jd B32 (fun j=>h j (Nat.zero_le j))
 rwa[cF aU,cF aU] at this
theorem vU (v1 v2:Value) (N M:Nat) (w:World) (h1:Nt w v1 N) (h2:Nt w v2 M):
 CP 65 #[v1,v2] w (sx w (.int .i64 (c3 N M))):=by
 obtain⟨xs,ox,rfl,ad1,cap1,rfl,r1,c1,m1,l1,n1⟩:=h1
 obtain⟨ys,oy,rfl,ad2,cap2,rfl,r2,c2,m2,l2,n2⟩:=h2
 have dx:=cE aU ox
 have dy:=cE aU oy
 have rX:=r1.dg ox
 have rY:=r2.dg oy
 go_enter Tryz.func65,Tryz.ntmps65
 go_wp2_with fail
 refine(gL ad1 _ cap1 xs _ rfl r1 ox (by omega) c1 n1).mono ?_
 rintro e w' ⟨rfl,hw⟩
 have hw:=hw.symm;subst hw
 go_wp2_with fail
 refine(gL ad2 _ cap2 ys _ rfl r2 oy (by omega) c2 n2).mono ?_
 rintro e w' ⟨rfl,hw⟩
 have hw:=hw.symm;subst hw
 clear r1 r2 c1 c2 m1 m2 n1 n2
 generalize vl B32 xs=X at*
 generalize vl B32 ys=Y at*
 by_cases hl:dl B32 X=dl B32 Y
 ·have HL:=Lib.hid hl
  obtain⟨d,hd⟩:∃d,d=dl B32 X:=⟨_,rfl⟩
  rw[<-hl,<-hd]
  rw[<-hd] at dx
  have HD:=Lib.hid hd;clear hd hl dy
  go_wp2
  go_loopw [5] (fun i wr=>NT w X Y i wr) (fun i _=>(intOf i+1).toNat)
  case atStart=>exact⟨dl B32 X,0,Nat.le_refl _,by rw[HD.out],fun j hj=>by rw[eS hj,eS (by rw[aB,<-HL.out];exact hj)],rfl⟩
  case round=>
   obtain⟨k,n,hk,rfl,ha,rfl⟩:=hrel
   rw[<-HD.out] at hk
   by_cases hp:0<k
   ·obtain⟨j,rfl⟩:∃j,k=j+1:=⟨k-1,by omega⟩
    have HA:=Lib.hid ha;clear ha
    obtain⟨b,off,rfl,hb,hc⟩:=rX.get (by rw[aB,<-HD.out];omega)
    obtain⟨b',off',rfl,hb',hc'⟩:=rY.get (by rw[aB,<-HL.out,<-HD.out];omega)
    have hcx:=hc j (by rw[aB,<-HD.out];omega)
    have hcy:=hc' j (by rw[aB,<-HL.out,<-HD.out];omega)
    clear hc hc' rX rY
    rw[show((j+1:Nat):Int)-1=(j:Int) from by omega]
    by_cases hne:lg (dg B32 X) j=lg (dg B32 Y) j
    ·go_upto_region 7 with fail
     go_quiet (fail)
     have HN:=Lib.hid hne
     clear hne
     go_wp2
     go_roundw
     case rel=>exact⟨j,n+nq,by rw[<-HD.out];omega,by go_num,fun i hi=>by
      by_cases e:i=j
      ·subst e;exact HN.out
      ·exact HA.out i (by omega),rfl⟩
     case measure=>simp[intOf]
    ·go_upto_region 7 with fail
     go_quiet (fail)
     go_wp2
     rw[World.drewN_drewN]
     obtain⟨wq,hq⟩:∃wq,wq=w.drewN (n+nq):=⟨_,rfl⟩
     have hcx':wq.cell? ⟨b,off+j,none⟩=some (.int .u32 (lg (dg B32 X) j:Nat)):=by rw[hq];exact hcx
     have hcy':wq.cell? ⟨b',off'+j,none⟩=some (.int .u32 (lg (dg B32 Y) j:Nat)):=by rw[hq];exact hcy
     rw[<-hq]
     have HQ:=Lib.hid hq
     clear hq hcx hcy
     have hjd:(j:Int)<(d:Int):=by omega
     have HC:=Lib.hid (IX (fun i hi=>HA.out i (by omega)) hne)
     clear hne
     go_quiet ((go_at_call 134;exact Calls.quiet_of_same (AW _ _ _)))
     go_wp2
     go_ret
     rw[HQ.out,World.drewN_drewN]
     exact Cj HC.out rfl
   ·obtain rfl:k=0:=by omega
    clear rX rY
    go_wp2
    go_ret
    exact Cj (xJ (zI ha)).symm rfl
 ·have HL:=Lib.hid hl
  clear rX rY
  by_cases hl2:dl B32 X<dl B32 Y
  all_goals
   go_wp2_with (go_at_call 133;refine(AZ (dl B32 X) (dl B32 Y) _).mono ?_;rintro e w' ⟨rfl,hw⟩;have hw:=hw.symm;subst hw)
   go_ret
   exact Je (Qp HL.out) rfl
def PJ (w:World) (g d X Y:Nat) (c i:Value) (wr:World):Prop:=
 ∃(k cc:Nat) (zs:List Nat),k<=d/\i= .int .i64 k/\c= .int .u32 cc/\cc<=1/\zs.length=d/\okb B32 zs/\Row wr .u32 167 w.heap.size g d zs/\Below w.heap.size w wr/\
  vl B32 (zs.take k)+vl B32 ((dg B32 Y).take k)=vl B32 ((dg B32 X).take k)+cc*B32^k
def Mi (w:World) (N M:Nat) (e:Ending) (w':World):Prop:=
 (N<M/\e= .returned (.tuple #[.slice none 0 0,.bool false])/\Below w.heap.size w w')\/
 (M<=N/\∃v,e= .returned (.tuple #[v,.bool true])/\Dg w' .u32 B32 v (N-M)/\Below w.heap.size w w')
theorem IU {d cc Z X Y:Nat} (h:Z+Y=X+cc*B32^d) (hz:Z<B32^d) (hcc:cc<=1) (hle:Y<=X):Z=X-Y:=by
 by_cases hc:cc=0
 ·subst hc;omega
 ·obtain rfl:cc=1:=by omega
  omega
theorem Nm (v1 v2:Value) (N M:Nat) (w:World) (h1:Nt w v1 N) (h2:Nt w v2 M):
 CP 254 #[v1,v2] w (Mi w N M):=by
 by_cases hlt:N<M
 ·have hc:=Lib.hid (lU hlt)
  have HL:=Lib.hid hlt
  clear hlt
  go_enter Tryz.func254,Tryz.ntmps254
  go_wp2_with fail
  refine(vU v1 v2 N M _ h1 h2).mono ?_
  rw[hc.out]
  rintro e w' ⟨rfl,n,rfl⟩
  go_wp2_with fail
  go_ret2
  exact Or.inl ⟨HL.out,rfl,nC (Below.refl _ _) n⟩
 ·have hc:c3 N M=(if M<N then 1 else 0):=by unfold c3;rw[if_neg hlt]
  have hc0:0<=c3 N M:=by rw[hc];split <;> decide
  obtain⟨z,hz⟩:∃z,z=c3 N M:=⟨_,rfl⟩
  rw[<-hz] at hc0
  have HZ:=Lib.hid hz
  have HLT:=Lib.hid hlt
  clear hc hz hlt
  have HH1:=Lib.hid h1;have HH2:=Lib.hid h2
  obtain⟨xs,ox,vx,ad1,cap1,rfl,r1,c1,m1,l1,n1⟩:=h1
  obtain⟨ys,oy,vy,ad2,cap2,rfl,r2,c2,m2,l2,n2⟩:=h2
  have HX:=Lib.hid vx;have HY:=Lib.hid vy;clear vx vy
  have dx:=cE aU ox
  have dy:=cE aU oy
  obtain⟨i0,hi,hz0,hz1,hz2⟩:=info_parts Tryz.info167
  go_enter Tryz.func254,Tryz.ntmps254
  go_wp2_with fail
  refine(vU _ _ N M _ HH1.out HH2.out).mono ?_
  rw[<-HZ.out]
  intro e wq hq
  obtain⟨rfl,hbq,hsz⟩:=jw hq
  clear hq
  have HSZ:=Lib.hid hsz;clear hsz
  have r1':=r1.below hbq
  have r2':=r2.below hbq
  clear r1 r2
  go_wp2_with fail
  refine(gL ad1 _ cap1 xs _ rfl r1' ox (by omega) c1 n1).mono ?_
  rintro e w' ⟨rfl,hw⟩
  have hw:=hw.symm;subst hw
  go_wp2_with fail
  refine(gL ad2 _ cap2 ys _ rfl r2' oy (by omega) c2 n2).mono ?_
  rintro e w' ⟨rfl,hw⟩
  have hw:=hw.symm;subst hw
  have rX:=r1'.dg ox
  have rY:=r2'.dg oy
  have ox':=HX.out;have oy':=HY.out
  rw[ox'] at rX dx;rw[oy'] at rY dy
  rw[ox',oy']
  clear r1' r2' ox oy ox' oy' n1 n2 HX HY HH1 HH2
  obtain⟨d,hd⟩:∃d,d=dl B32 N:=⟨_,rfl⟩
  have hYX:dl B32 M<=d:=by rw[hd];exact jq aU (by have:=HLT.out;omega)
  rw[<-hd] at dx
  rw[<-hd]
  have HD:=Lib.hid hd;clear hd
  go_wp2_with (at_make;refine wpList_make_full _ rfl _ _ 29 rfl wq.heap.size 167 i0 (.int .u32 0) 1 Tryz.underlying29 hi hz0 hz1 .i64 .i64 _ _ d rfl rfl (by omega) (by omega) (by rw[hz2];omega) (by unfold maxLen;omega) (Nat.le_refl _) ?_)
  intro w1 hown hgrow
  have hrow:=Row.of_made hown
  have hb1:Below wq.heap.size wq w1:=(Below.refl _ _).grown hgrow (Nat.le_refl _) (fun k h=>by cases h)
  clear hown hgrow
  obtain⟨g,hg⟩:∃g,g=wq.heap.size:=⟨_,rfl⟩
  rw[<-hg] at hrow
  rw[<-hg]
  have HG:=Lib.hid hg;clear hg
  go_wp2
  go_loopw [7,22] (fun c i wr=>PJ wq g d N M c i wr) (fun _ i _=>d-(intOf i).toNat)
  case atStart=>exact⟨0,0,_,Nat.zero_le _,rfl,rfl,by omega,by simp,fX bi _,hrow.rebase (Nat.le_of_eq HG.out.symm),hb1,by simp[vl]⟩
  case round=>
   obtain⟨k,cc,zs,hk,rfl,rfl,hcc,hzl,hzo,hro,hbe,hmath⟩:=hrel
   have HM:=Lib.hid hmath;clear hmath
   have HZ2:=Lib.hid hzl
   by_cases hlt:k<d
   ·have hX:=(rX.below hbe).get (by rw[aB,<-HD.out];omega)
    obtain⟨b,off,ha,hbs,hcx⟩:=hX
    have hcx:=hcx k (by rw[aB,<-HD.out];omega)
    have hbb:b<g:=by
     obtain⟨b',off',ha',hb',_⟩:=rX.get (by rw[aB,<-HD.out];omega)
     rw[ha] at ha';simp at ha';rw[HG.out];omega
    subst ha
    have hcs:=hro.cell (j:=k) (by omega)
    have hfr:=hro.free k
    have lx:=di (cG aU N) bi k
    have ly:=di (cG aU M) bi k
    have rY':=(rY.below hbe).drew
    have HRO:=Lib.hid hro;have HBE:=Lib.hid hbe
    clear rX rY hzl hro hbe hb1 hrow
    obtain⟨r,hr⟩:∃r,r=(lg (dg B32 N) k+8589934592-lg (dg B32 M) k-cc)%4294967296:=⟨_,rfl⟩
    obtain⟨c',hc'⟩:∃c',c'=(if lg (dg B32 N) k<lg (dg B32 M) k+cc then 1 else 0):=⟨_,rfl⟩
    have hrb:r<B32:=by rw[hr,dw];exact Nat.mod_lt _ (by decide)
    have hcb:c'<=1:=by rw[hc'];split <;> decide
    have hsum:Hid (r+lg (dg B32 M) k+cc=lg (dg B32 N) k+c'*B32):=by
     unfold Hid;rw[hr,hc',dw];rw[dw] at lx ly;split <;> omega
    have hsub:=wI (lg (dg B32 N) k) (lg (dg B32 M) k) cc wr.drew lx ly hcc
    unfold qq at hsub
    rw[<-hr,<-hc'] at hsub
    have HSUB:=Lib.hid hsub
    clear hsub hr hc'
    go_upto_region 9 with fail
    go_region_with (first|(go_at_call 263;refine(ve ad2 (dl B32 M) cap2 (dg B32 M) k _ rfl (by assumption) (by rw[aB];omega) (by omega)).mono ?_;rintro e w' ⟨rfl,hw⟩;have hw:=hw.symm;subst hw)|(go_at_call 236;refine(HSUB.out).mono ?_;rintro e w' ⟨rfl,hw⟩;have hw:=hw.symm;subst hw))
    all_goals
     go_wp2
     go_roundw
     case rel=>
      refine⟨k+1,c',zs.set k r,by omega,by go_num,rfl,hcb,by rw[List.length_set];exact HZ2.out,iy hzo hrb,?_,?_,?_⟩
      ·exact(HRO.out.set k r).drew
      ·exact(HBE.out.setCell (p:=⟨g,k,none⟩) (Nat.le_of_eq HG.out.symm) _).drew
      ·rw[kZ _ _ (by rw[HZ2.out];omega),bI,bI];exact zX HM.out hsum.out
     case measure=>simp[intOf];omega
   ·obtain rfl:k=d:=by omega
    have hv:vl B32 zs=N-M:=by
     have e1:=cd (b:=B32) (xs:=dg B32 N) (k:=k) (by rw[aB,<-HD.out];omega)
     have e2:=cd (b:=B32) (xs:=dg B32 M) (k:=k) (by rw[aB];omega)
     have e3:=cd (b:=B32) (xs:=zs) (k:=k) (by omega)
     have hm:=HM.out
     rw[e1,e2,e3,cF aU,cF aU] at hm
     have hz:=ie hzo
     rw[hzl] at hz
     exact IU hm hz hcc (by have:=HLT.out;omega)
    have HV:=Lib.hid hv
    clear rX rY hv hb1 hrow
    go_wp2_with fail
    refine(gL _ _ _ zs _ (by rw[hzl]) hro.rd hzo (by omega) (by omega) (fun h=>by cases h)).mono ?_
    rintro e w2 ⟨rfl,hw⟩
    have hw:=hw.symm;subst hw
    have hrd:=hro.rd.dg hzo
    have hle:=cE aU hzo
    rw[HV.out] at hrd hle ⊢
    go_wp2
    go_ret2
    refine Or.inr ⟨by have:=HLT.out;omega,_,rfl,⟨_,_,rfl,hrd,by rw[aB];omega,by unfold maxLen;omega,by rw[aB];omega,fun h=>by cases h⟩,hbq.trans ?_⟩
    exact hbe.mono (Nat.le_of_eq HSZ.out.symm)
end
section
end
section
end
section
end
end
end Go.Proofs.YtgdpkknapcgcbaaGreatDoor
