import Derived.Test.YtpkhdajnppoinaaGreatKC28
import Derived.Test.YtpkhdajnppoinaaGreatKC32
namespace Go.Proofs.YtpkhdajnppoinaaGreat
open Go.RowKit
set_option maxRecDepth 100000
set_option linter.unusedVariables false
set_option maxHeartbeats 8000000
def ci44:List Nat→Nat
 |[]=>0
 |x::l=>if x=44 then 0 else ci44 l+1
theorem ci44_le:∀xs,ci44 xs≤xs.length
 |[]=>by simp[ci44]
 |x::l=>by unfold ci44;have:=ci44_le l;split <;> simp <;> omega
def has44 (xs:List Nat):Bool:=decide (ci44 xs<xs.length)
def hd44 (xs:List Nat):List Nat:=xs.take (ci44 xs)
def tl44 (xs:List Nat):List Nat:=if has44 xs then xs.drop (ci44 xs+1) else[]
theorem idx44:∀xs:List Nat,okb 256 xs→Lib.index (xs.map UInt8.ofNat) [(44:UInt8)]=if ci44 xs<xs.length then((ci44 xs:Nat):Int) else -1
 |[],_=>by simp[Lib.index,ci44]
 |x::l,h=>by
  have ih:=idx44 l (fun y hy=>h y (List.mem_cons_of_mem _ hy))
  have hx:x<256:=h x List.mem_cons_self
  have e:([(44:UInt8)].isPrefixOf (UInt8.ofNat x::l.map UInt8.ofNat))=decide (x=44):=by
   have:(UInt8.ofNat x=44)↔x=44:=by
    constructor
    ·intro e
     have:=congrArg UInt8.toNat e
     rw[UInt8.toNat_ofNat',Nat.mod_eq_of_lt hx] at this
     exact this
    ·rintro rfl;rfl
   by_cases c:x=44
   ·subst c;rfl
   ·have c2:¬UInt8.ofNat x=44:=fun e=>c (this.1 e)
    simp[List.isPrefixOf,c,Ne.symm c2]
  rw[List.map_cons]
  unfold Lib.index
  rw[e,ih,show ci44 (x::l)=if x=44 then 0 else ci44 l+1 from rfl]
  have hl:=ci44_le l
  by_cases c:x=44
  ·rw[if_pos (by simpa using c),if_pos c];simp
  ·simp only [c,decide_false,Bool.false_eq_true,if_false,List.length_cons,beq_iff_eq]
   by_cases c2:ci44 l<l.length
   ·rw[if_pos c2,if_neg (by omega),if_pos (by omega)];omega
   ·rw[if_neg c2,if_pos rfl,if_neg (by omega)]
theorem scut44_any (xs:List Nat) (w:World) (hM:MLen w) (h8:okb 256 xs) (hl:xs.length≤1000000000):Calls Tryz.prog 19 #[.string (bstr xs),.string (bstr [44])] w (ValPost w (.tuple #[.string (bstr (hd44 xs)),.string (bstr (tl44 xs)),.bool (has44 xs)])):=by
 obtain⟨m,hm⟩:=hM
 refine(shc_strings_Cut (bstr xs) (bstr [44]) m w (by rw[bstr_size];omega) hm).mono ?_
 rintro e w' ⟨rfl,n,rfl⟩
 refine⟨?_,⟨rfl,rfl,rfl,Nat.le_refl _,fun _ _=>rfl⟩⟩
 have hi:=idx44 xs h8
 have e1:(bstr xs).data.toList =xs.map UInt8.ofNat:=by simp[bstr]
 have e2:(bstr [44]).data.toList =[(44:UInt8)]:=by rfl
 rw[e1,e2]
 unfold Lib.cut
 rw[hi]
 unfold hd44 tl44 has44
 have:=ci44_le xs
 by_cases c:ci44 xs<xs.length
 ·rw[if_pos c,if_pos (by omega),decide_eq_true c]
  simp only [Int.toNat_natCast,←List.map_take,←List.map_drop,List.length_cons,List.length_nil,if_true]
  rfl
 ·rw[if_neg c,if_neg (by decide),decide_eq_false c,show ci44 xs=xs.length by omega,List.take_length]
  rfl
theorem okb_hd44 {xs:List Nat} (h:okb 256 xs):okb 256 (hd44 xs):=okb_take h _
theorem okb_tl44 {xs:List Nat} (h:okb 256 xs):okb 256 (tl44 xs):=by unfold tl44;split;exact okb_drop h _;exact okb_nil _
theorem hd_len44 (xs:List Nat):(hd44 xs).length ≤xs.length:=by unfold hd44;rw[List.length_take];omega
theorem tl_len44 (xs:List Nat):(tl44 xs).length ≤xs.length:=by unfold tl44;split <;> simp
end Go.Proofs.YtpkhdajnppoinaaGreat
