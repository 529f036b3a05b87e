import Derived.Test.YtgdpkknapcgcbaaGreatDoorKA27
import Derived.Test.YtgdpkknapcgcbaaGreatDoorKA33
import Derived.Laws.BytesString
import Derived.Laws.StructEq
namespace Go.Proofs.YtgdpkknapcgcbaaGreatDoor
open Go.RowKit
set_option maxRecDepth 100000
set_option linter.unusedVariables false
set_option maxHeartbeats 8000000
section
section
end
section
section
variable {P:Program} {w:World}
theorem KV {a:Int} (h0:0<=a) (h1:a<=18446744073709551615):IntKind.u64.wrap a=a:=IntWalk.u64_in _ ⟨h0,h1⟩
theorem G6 {s t:TypeId} {k k0 k':IntKind} {a:Int} (hs:P.underlying s=some (.int k0)) (ht:P.underlying t=some (.int k')) (h:k'.wrap a=a):(convert s t (.int k a)).run P w= .ok (.int k' a) w:=by
 unfold convert
 simp only [Sem.run_bind,run_underlying hs,run_underlying ht,Result.andThen_ok]
 show(Conv.intToInt k' a).run P w=_
 unfold Conv.intToInt
 rw[h]
 rfl
end
end
section
end
section
end
section
section
variable {P:Program} {ops:Array Oper} {Q:Exit->Act->World->Prop}
end
section
variable {ops:Array Oper} {nt:Nat} {L:List (Nat×Value)} {rval:Nat->Value} {St:List Nat->World->Prop} {ys z1 z2:List Nat} {d:Nat->Bool} {a:Act} {w w':World}
end
end
section
end
section
end
section
end
end
theorem InX.cl {a:Option Addr} {n c:Nat} {xs:List Nat}:Cl fun w=>InX w a n c xs:=fun _ _ h kp=>h.keep kp
theorem xm {P:Program} {w:World} {s t:TypeId} {k k0 k':IntKind} {a:Int} (hs:P.underlying s=some (.int k0)) (ht:P.underlying t=some (.int k')):(convert s t (.int k a)).run P w= .ok (.int k' (k'.wrap a)) w:=by
 unfold convert
 simp only [Sem.run_bind,run_underlying hs,run_underlying ht,Result.andThen_ok]
 rfl
theorem Ad (a:Int):IntKind.u64.wrap a=a%18446744073709551616:=by simp[IntKind.wrap,IntKind.signed,IntKind.bits]
theorem IJ (a:Int):IntKind.u32.wrap a=a%4294967296:=by simp[IntKind.wrap,IntKind.signed,IntKind.bits]
theorem F4 {P:Program} {w:World} {s t:TypeId} {k k0:IntKind} {N:Nat} (hs:P.underlying s=some (.int k0)) (ht:P.underlying t=some (.int .u64)) (h0:0<N) (h1:N<=9223372036854775808):(convert s t (.int k (-((N:Nat):Int)))).run P w= .ok (.int .u64 (18446744073709551616-((N:Nat):Int))) w:=by
 rw[xm hs ht,Ad,show -((N:Nat):Int)%18446744073709551616=18446744073709551616-((N:Nat):Int) by omega]
theorem qR {P:Program} {w:World} {s t:TypeId} {k k0:IntKind} {N:Nat} (hs:P.underlying s=some (.int k0)) (ht:P.underlying t=some (.int .u32)):(convert s t (.int k ((N:Nat):Int))).run P w= .ok (.int .u32 ((N%4294967296:Nat):Int)) w:=by
 rw[xm hs ht,IJ,Int.natCast_emod];rfl
theorem Ki {P:Program} {w:World} {N:Nat} (h0:0<N) (h1:N<=9223372036854775808):(Op.unary .neg (.int .u64 (18446744073709551616-((N:Nat):Int)))).run P w= .ok (.int .u64 ((N:Nat):Int)) w:=by
 show(Op.intArith .sub .u64 0 (18446744073709551616-((N:Nat):Int))).run P w=_
 simp only [Op.intArith]
 rw[Ad,show(0-(18446744073709551616-((N:Nat):Int)))%18446744073709551616=((N:Nat):Int) by omega]
 rfl
theorem Bx {P:Program} {w:World} {t:TypeId} {N:Nat}:(binOp .shr t (.int .u64 ((N:Nat):Int)) (.int .u64 32)).run P w= .ok (.int .u64 ((N/4294967296:Nat):Int)) w:=by
 have e:min ((32:Int).toNat) IntKind.u64.bits=32:=by simp[IntKind.bits]
 have h0:¬((32:Int)<0):=by omega
 simp only [binOp,Op.shift,if_neg h0,e]
 rw[Int.fdiv_eq_ediv_of_nonneg _ (by exact Int.le_of_lt (Int.pow_pos (by decide)))]
 rfl
theorem BM (w:World) (x y:Nat) (hx:x<4294967296) (hy:y<4294967296):∃g w',(Instr.buildSlice 28 2 #[(0,.int .u32 ((x:Nat):Int)),(1,.int .u32 ((y:Nat):Int))]).run Tryz.prog w= .ok (.slice (some ⟨g,0,none⟩) 2 2) w'/\Below w.heap.size w w'/\InX w' (some ⟨g,0,none⟩) 2 2 [x,y]:=by
 have hb:=d8 (w:=w) (cs:=[.int .u32 ((x:Nat):Int),.int .u32 ((y:Nat):Int)]) 167
 refine⟨w.heap.size,w.alloc (.cells #[.int .u32 ((x:Nat):Int),.int .u32 ((y:Nat):Int)] 167),?_,hb.2,rfl,⟨?_⟩,?_,Nat.le_refl _,by unfold maxLen;omega,fun h=>by cases h⟩
 ·have hs:=aH (P:=Tryz.prog) (T:=167) (n:=1) (by kernel_rfl) w
  simp[Instr.buildSlice,go_sem,hs,Instr.fill,Value.cells,newRow,run_underlying (P:=Tryz.prog) Tryz.underlying28]
 ·intro i hi
  refine⟨w.heap.size,0,rfl,hb.1.lt,?_⟩
  obtain⟨T,hh⟩:=hb.1
  rw[cell_of_row _ _ _ _ _ _ hh,List.getElem?_toArray]
  have hi':i<2:=hi
  match i,hi' with
  |0,_=>rfl
  |1,_=>rfl
 ·intro z hz
  rcases List.mem_cons.1 hz with rfl|hz
  ·exact hx
  ·rcases List.mem_cons.1 hz with rfl|hz
   ·exact hy
   ·cases hz
def pg (w:World) (b:Bool) (N:Nat):Ending->World->Prop:=fun e w'=>∃g,e= .returned (.agg #[.bool b,.slice (some ⟨g,0,none⟩) 2 2])/\InX w' (some ⟨g,0,none⟩) 2 2 [N%4294967296,N/4294967296]/\Below w.heap.size w w'
theorem Cb (b:Bool) (N:Nat):iz b [N%4294967296,N/4294967296] 2=sg b N:=by
 have e:vl B32 ([N%4294967296,N/4294967296].take 2)=N:=by
  show N%4294967296+4294967296*(N/4294967296+4294967296*0)=N
  have:=Nat.mod_add_div N 4294967296
  omega
 unfold iz;rw[e]
theorem FT (N:Nat) (w:World) (h1:N<=9223372036854775807):
 CP 125 #[iv ((N:Nat):Int)] w (pg w false N):=by
 refine gs1 (nt:=19) Tryz.func125 rfl rfl rfl fun a st hF=>wq<|S.alloc st hF lK rfl rfl fun g2 w1 a st hF=>nq ?_
 refine oM hF 1 rfl rfl fun a hF=>oV hF (il hF.o (G6 (k':= .u64) Tryz.underlying2 Tryz.underlying113 (KV (by omega) (by omega)))) rfl fun a hF=>oA hF 0 rfl rfl fun a hF=>ns<|wq<|oM hF 4 rfl rfl fun a hF=>oT hF 0 (bQ (c:=false) (aJ (by omega))) rfl rfl fun a hF=>E.nil<|wp_cond_false hF.o<|wp_skip<|E.norm<|wq<|oM hF 6 rfl rfl fun a hF=>oT hF 0 (bQ (c:=false) (aJ (by omega))) rfl rfl fun a hF=>oM hF 4 rfl rfl fun a hF=>oV hF (il hF.o (qR (N:=N) Tryz.underlying113 Tryz.underlying167)) rfl fun a hF=>oM hF 6 rfl rfl fun a hF=>oV hF (au hF.o ao ag Bx) rfl fun a hF=>oV hF (il hF.o (qR (N:=N/4294967296) Tryz.underlying113 Tryz.underlying167)) rfl fun a hF=>?_
 obtain⟨gr,w2,hr,bb,hix⟩:=BM w1 (N%4294967296) (N/4294967296%4294967296) (by omega) (by omega)
 refine oV hF (bp (dX (hF.at 3 rfl) hF.o) hr) rfl fun a hF=>?_
 clear hr
 replace st:=(st.to bb).add hix InX.cl
 clear bb hix
 refine oV hF (aM (dX (hF.at 6 rfl) hF.o) (s6 _ _ _ _ _)) rfl fun a hF=>so st hF 0 14 0 lK rfl rfl rfl rfl fun w3 a st hF=>nr<|rs Tryz.results125 st hF 14 0 lK rfl rfl rfl ?_
 have bel:=st.bel
 have hix:=(st.f 0 rfl)
 exact⟨_,rfl,(by rw[show N/4294967296=N/4294967296%4294967296 from by omega];exact hix),bel⟩
theorem F8 (N:Nat) (w:World) (h0:0<N) (h1:N<=9223372036854775808):
 CP 125 #[iv (-((N:Nat):Int))] w (pg w true N):=by
 refine gs1 (nt:=19) Tryz.func125 rfl rfl rfl fun a st hF=>wq<|S.alloc st hF lK rfl rfl fun g2 w1 a st hF=>nq ?_
 refine oM hF 1 rfl rfl fun a hF=>oV hF (il hF.o (F4 Tryz.underlying2 Tryz.underlying113 h0 h1)) rfl fun a hF=>oA hF 0 rfl rfl fun a hF=>ns<|wq<|oM hF 4 rfl rfl fun a hF=>oT hF 0 (bQ (c:=true) (aK (by omega))) rfl rfl fun a hF=>E.nil<|wp_cond_true hF.o<|E.seq ?_
 refine oM hF 2 rfl rfl fun a hF=>oV hF (ju hF.o (Ki h0 h1)) rfl fun a hF=>oE hF 0 rfl rfl fun a hF=>nq<|oM hF 8 rfl rfl fun a hF=>oT hF 0 (bQ (c:=true) (aK (by omega))) rfl rfl fun a hF=>oM hF 2 rfl rfl fun a hF=>oV hF (il hF.o (qR (N:=N) Tryz.underlying113 Tryz.underlying167)) rfl fun a hF=>oM hF 4 rfl rfl fun a hF=>oV hF (au hF.o ao ag Bx) rfl fun a hF=>oV hF (il hF.o (qR (N:=N/4294967296) Tryz.underlying113 Tryz.underlying167)) rfl fun a hF=>?_
 obtain⟨gr,w2,hr,bb,hix⟩:=BM w1 (N%4294967296) (N/4294967296%4294967296) (by omega) (by omega)
 refine oV hF (bp (dX (hF.at 3 rfl) hF.o) hr) rfl fun a hF=>?_
 clear hr
 replace st:=(st.to bb).add hix InX.cl
 clear bb hix
 refine oV hF (aM (dX (hF.at 6 rfl) hF.o) (s6 _ _ _ _ _)) rfl fun a hF=>so st hF 0 16 0 lK rfl rfl rfl rfl fun w3 a st hF=>nr<|rs Tryz.results125 st hF 16 0 lK rfl rfl rfl ?_
 have bel:=st.bel
 have hix:=(st.f 0 rfl)
 exact⟨_,rfl,(by rw[show N/4294967296=N/4294967296%4294967296 from by omega];exact hix),bel⟩
theorem wV (n:Int) (w:World) (h0: -9223372036854775808<=n) (h1:n<=9223372036854775807):CP 125 #[iv n] w (pg w (decide (n<0)) n.natAbs):=by
 by_cases h:n<0
 ·have:=F8 n.natAbs w (by omega) (by omega)
  rwa[show -((n.natAbs:Nat):Int)=n by omega,show true=decide (n<0) from(decide_eq_true h).symm] at this
 ·have:=FT n.natAbs w (by omega)
  rwa[show((n.natAbs:Nat):Int)=n by omega,show false=decide (n<0) from(decide_eq_false h).symm] at this
theorem ui (n:Int):iz (decide (n<0)) [n.natAbs%4294967296,n.natAbs/4294967296] 2=n:=by rw[Cb,jh]
theorem wQ (n d:Int) (w:World) (hn0: -9223372036854775808<=n) (hn1:n<=9223372036854775807) (hd0: -9223372036854775808<=d) (hd1:d<=9223372036854775807):
 CP 59 #[iv n,iv d] w (bh w (((n:Int):Rat)/((d:Int):Rat)) 2):=by
 have bel:Below w.heap.size w w:=Below.refl _ _
 refine go2 (nt:=11) Tryz.func59 rfl rfl rfl fun a hF=>wq ?_
 obtain⟨g4,w1,ge4,hr,bb,o4⟩:=dE (P:=Tryz.prog) (w:=w) (cs:=[.bool false,.slice none 0 0,.slice none 0 0]) 45 jS rfl (niB (niS (niS ni0)))
 replace ge4:w.heap.size<=g4:=by rw[<-ge4];exact bel.size
 refine oV hF (de hr) rfl fun a hF=>?_
 clear hr
 replace bel:=aA bel bb
 clear bb
 refine nq<|oM hF 1 rfl rfl fun a hF=>?_
 refine E.call hF (rk EI (aD hF.o)) (wV n _ hn0 hn1) rfl rfl rfl rfl ?_
 rintro e w2 ⟨vv3,rfl,hh4,bb⟩
 refine⟨_,rfl,?_⟩
 intro a hF
 replace o4:=o4.below bb
 replace bel:=aA bel bb
 clear bb
 refine oM hF 4 rfl rfl fun a hF=>?_
 refine E.call hF (rk EI (aD hF.o)) (wV d _ hd0 hd1) rfl rfl rfl rfl ?_
 rintro e w5 ⟨vv6,rfl,hh7,bb⟩
 refine⟨_,rfl,?_⟩
 intro a hF
 replace hh4:=hh4.below bb
 replace o4:=o4.below bb
 replace bel:=aA bel bb
 clear bb
 refine oV hF (aM (dX hF.q hF.o) (zt _ _ _ _ _ _ _ _ _)) rfl fun a hF=>?_
 refine E.call hF (rk Lo (aB hF.o ao)) (z7 (decide (n<0)) (some ⟨vv3,0,none⟩) 2 2 [Int.natAbs n%4294967296,Int.natAbs n/4294967296] (decide (d<0)) (some ⟨vv6,0,none⟩) 2 2 [Int.natAbs d%4294967296,Int.natAbs d/4294967296] 2 _ hh4 hh7 (by omega) (by omega)) rfl rfl rfl rfl ?_
 rintro e w8 ⟨vv9,rfl,hh10,bb⟩
 refine⟨_,rfl,?_⟩
 intro a hF
 replace o4:=o4.below bb
 replace bel:=aA bel bb
 clear bb
 obtain⟨b11,ad11,n11,c11,ae11,m11,d11,z11,D11,rfl,hn11,hd11,hD11,hq11,lz11,lD11⟩:=Rr.shape hh10
 have ha11:=hn11.abs
 obtain⟨w12,hr,tu,on⟩:=k8 (vs:=[.bool b11,.slice ad11 n11 c11,.slice ae11 m11 d11]) o4 rfl rfl (ocB (ocS (ocS oc0))) (niB (niS (niS ni0))) (o:=0) rfl
 have kp:=tu.keep o4
 refine E.st hF (cF (hF.at 6 rfl) hF.o (hr _ rfl)) rfl rfl fun a hF=>?_
 clear hr
 replace hh10:=hh10.keep kp
 replace hn11:=hn11.keep kp
 replace ha11:=ha11.keep kp
 replace hd11:=hd11.keep kp
 replace bel:=tu.below bel ge4
 clear tu kp
 replace o4:=on
 clear on
 refine nr ?_
 refine bodyPost_ret (ke Tryz.results59 (hF.at 6 rfl) (hZ (vs:=[.bool b11,.slice ad11 n11 c11,.slice ae11 m11 d11]) o4 rfl rfl)) hF.dfr ?_
 exact⟨_,rfl,Rr.cast hh10 (by rw[ui,ui]),bel⟩
theorem Bs:(Tryz.prog.info? 47).map (·.size)=some 6:=by kernel_rfl
theorem Ax:(Tryz.prog.info? 47).bind (·.zero)=some (.agg #[.bool false,.slice none 0 0,.slice none 0 0,.bool false,.slice none 0 0,.slice none 0 0]):=by kernel_rfl
theorem AK {w:World} {g o:Nat} {cs vs:List Value} (h:Own w g cs) (hv:(cs.drop o).take 6=vs) (hl:vs.length=6):(Instr.loadAt 47 (.pointer (some ⟨g,o,none⟩))).run Tryz.prog w= .ok (.agg vs.toArray) w:=iR h hv hl Tryz.underlying47 rfl Bs
theorem Cm {w:World} {g o p:Nat} (hp:o+0=p):(Instr.fieldAt 47 (.pointer (some ⟨g,o,none⟩)) 0).run Tryz.prog w= .ok (.pointer (some ⟨g,p,none⟩)) w:=aQ Tryz.underlying47 rfl rfl jL rfl p hp
theorem DM {w:World} {g o p:Nat} (hp:o+3=p):(Instr.fieldAt 47 (.pointer (some ⟨g,o,none⟩)) 1).run Tryz.prog w= .ok (.pointer (some ⟨g,p,none⟩)) w:=aQ Tryz.underlying47 rfl rfl jL rfl p hp
theorem Bo {place:Nat->Option (Nat×Nat)} {cells:Array Value} {i off:Nat} {x y z:Value} {rest:List (Nat×Value)} (hp:place i=some (off,3)) (hc:off+3<=cells.size):
 Instr.fill place cells ((i,.agg #[x,y,z])::rest)=Instr.fill place (((cells.setIfInBounds off x).setIfInBounds (off+1) y).setIfInBounds (off+2) z) rest:=by
 conv=>lhs;unfold Instr.fill
 rw[hp]
 have h1:(Value.agg #[x,y,z]).cells =#[x,y,z]:=rfl
 simp only [h1]
 rw[if_neg (by simp;omega)]
 have h2:∀f:Array Value->Value×Nat->Array Value,Array.foldl f cells #[x,y,z].zipIdx =f (f (f cells (x,0)) (y,1)) (z,2):=fun f=>rfl
 rw[h2]
 rfl
theorem AG (b00:Bool) (a01:Option Addr) (n01 c01:Nat) (a02:Option Addr) (n02 c02:Nat) (b10:Bool) (a11:Option Addr) (n11 c11:Nat) (a12:Option Addr) (n12 c12:Nat) (w:World):(Instr.build 47 #[(0,.agg #[.bool b00,.slice a01 n01 c01,.slice a02 n02 c02]),(1,.agg #[.bool b10,.slice a11 n11 c11,.slice a12 n12 c12])]).run Tryz.prog w= .ok (.agg #[.bool b00,.slice a01 n01 c01,.slice a02 n02 c02,.bool b10,.slice a11 n11 c11,.slice a12 n12 c12]) w:=by
 have hz:=bO Ax w
 have h_RRat:∀w,(sizeOf 45).run Tryz.prog w= .ok 3 w:=fun w=>aH jL w
 simp only [Instr.build,Sem.run_bind,hz,Result.andThen_ok,run_underlying Tryz.underlying47,List.mapM_toArray,List.mapM_cons,List.mapM_nil,Sem.run_map,h_RRat,Sem.run_pure]
 rw[show(Value.agg #[Value.bool false,Value.slice none 0 0,Value.slice none 0 0,Value.bool false,Value.slice none 0 0,Value.slice none 0 0]).cells =#[Value.bool false,Value.slice none 0 0,Value.slice none 0 0,Value.bool false,Value.slice none 0 0,Value.slice none 0 0] from rfl]
 rw[Bo (off:=0) rfl (by simp),Bo (off:=3) rfl (by simp)]
 simp only [List.setIfInBounds_toArray,List.set_cons_zero,List.set_cons_succ,Nat.reduceAdd,Nat.zero_add]
 rfl
def RPl (w:World) (v:Value) (p q:Rat) (k:Nat):Prop:=
 ∃b1 a1 n1 c1 d1 m1 e1 b2 a2 n2 c2 d2 m2 e2,v= .agg #[.bool b1,.slice a1 n1 c1,.slice d1 m1 e1,.bool b2,.slice a2 n2 c2,.slice d2 m2 e2]/\Rr w (.agg #[.bool b1,.slice a1 n1 c1,.slice d1 m1 e1]) p k/\Rr w (.agg #[.bool b2,.slice a2 n2 c2,.slice d2 m2 e2]) q k
theorem RPl.below {w w':World} {v:Value} {p q:Rat} {k:Nat} (h:RPl w v p q k) (hb:Below w.heap.size w w'):RPl w' v p q k:=by
 obtain⟨b1,a1,n1,c1,d1,m1,e1,b2,a2,n2,c2,d2,m2,e2,h0,h1,h2⟩:=h
 exact⟨b1,a1,n1,c1,d1,m1,e1,b2,a2,n2,c2,d2,m2,e2,h0,h1.below hb,h2.below hb⟩
theorem RPl.keep {w w':World} {v:Value} {p q:Rat} {k:Nat} (h:RPl w v p q k) (kp:dr w w'):RPl w' v p q k:=by
 obtain⟨b1,a1,n1,c1,d1,m1,e1,b2,a2,n2,c2,d2,m2,e2,h0,h1,h2⟩:=h
 exact⟨b1,a1,n1,c1,d1,m1,e1,b2,a2,n2,c2,d2,m2,e2,h0,h1.keep kp,h2.keep kp⟩
theorem RPl.cl {p q:Rat} {k:Nat} (v:Value):Cl fun w=>RPl w v p q k:=fun _ _ h kp=>h.keep kp
theorem RPl.shape {w:World} {v:Value} {p q:Rat} {k:Nat} (h:RPl w v p q k):∃b1 a1 n1 c1 d1 m1 e1 b2 a2 n2 c2 d2 m2 e2,v= .agg #[.bool b1,.slice a1 n1 c1,.slice d1 m1 e1,.bool b2,.slice a2 n2 c2,.slice d2 m2 e2]/\Rr w (.agg #[.bool b1,.slice a1 n1 c1,.slice d1 m1 e1]) p k/\Rr w (.agg #[.bool b2,.slice a2 n2 c2,.slice d2 m2 e2]) q k:=h
theorem RPl.mono (p q:Rat) (k:Nat):∀w w' v,RPl w v p q k->Below w.heap.size w w'->RPl w' v p q k:=fun _ _ _ h hb=>h.below hb
def Hl (w:World) (p q:Rat) (k:Nat) (e:Ending) (w':World):Prop:=∃v,e= .returned v/\RPl w' v p q k/\Below w.heap.size w w'
theorem fC:Ty Tryz.prog 47 6 [.bool false,.slice none 0 0,.slice none 0 0,.bool false,.slice none 0 0,.slice none 0 0]:=⟨⟨_,Tryz.underlying47,rfl⟩,Bs,Ax⟩
theorem yw (v1 v2 v3:Value) (q1 q2 q3:Rat) (k i:Nat) (w:World) (h1:Rr w v1 q1 k) (h2:Rr w v2 q2 2) (h3:Rr w v3 q3 2) (li1:ah q1 i) (li2:ah q2 2) (li3:ah q3 2) (hp:1<=k) (hk:k<=1000) (hi:i<=1000):
 CP 286 #[v1,v2,v3] w (bh w (cO q1 q2 q3) (k+i+30)):=by
 obtain⟨b1,ad1,n1,c1,ae1,m1,d1,z1,D1,rfl,hn1,hd1,hD1,hq1,lz1,lD1⟩:=h1.shape
 have ha1:=hn1.abs
 have hb1:=hn1.neg
 replace hq1:=Lib.hid hq1
 obtain⟨b2,ad2,n2,c2,ae2,m2,d2,z2,D2,rfl,hn2,hd2,hD2,hq2,lz2,lD2⟩:=h2.shape
 have ha2:=hn2.abs
 have hb2:=hn2.neg
 replace hq2:=Lib.hid hq2
 obtain⟨b3,ad3,n3,c3,ae3,m3,d3,z3,D3,rfl,hn3,hd3,hD3,hq3,lz3,lD3⟩:=h3.shape
 have ha3:=hn3.abs
 have hb3:=hn3.neg
 replace hq3:=Lib.hid hq3
 by_cases h0:sz (Rat.num ((q3)-(q2)))<=0
 ·have st:=St.start w
  refine go3 (nt:=21) Tryz.func286 rfl rfl rfl fun a hF=>wq<|bx st hF 0 rfl rfl fun g3 w1 a st hF=>bx st hF 2 rfl rfl fun g4 w2 a st hF=>bx st hF 4 rfl rfl fun g5 w3 a st hF=>S.alloc st hF ab rfl rfl fun g6 w4 a st hF=>ns<|wq<|oL hF st 2 2 ab rfl rfl rfl rfl fun a hF=>oL hF st 2 1 ab rfl rfl rfl rfl fun a hF=>?_
  refine cX st hF (rk Fu (aB hF.p hF.o)) (nH _ _ (q2) (q3) 2 2 _ (h2.below st.bel) (h3.below st.bel) (by omega) (by omega)) rfl fun w5 a st hF=>oT hF 0 (fv (c:=true) (aK (BC.2 h0))) rfl rfl fun a hF=>E.nil<|wp_cond_true hF.o<|wq ?_
  refine ca st hF (rk tx (aB ao ao)) (fb (0) _ (by decide) (by decide)) (fun _ _ h=>h) Rr.cl rfl fun vv7 w6 a st hF=>?_
  obtain⟨r9,rfl⟩:=Rr.fo (st.f 0 rfl)
  refine so st hF 0 5 0 ab rfl rfl rfl rfl fun w10 a st hF=>nr<|rs Tryz.results286 st hF 5 0 ab rfl rfl rfl ?_
  exact⟨_,rfl,Rr.cast (Rr.up (st.f 0 rfl) _ (by omega)) (Rat.intCast_zero.trans (uC h0)),st.bel⟩
 ·have st:=St.start w
  refine go3 (nt:=21) Tryz.func286 rfl rfl rfl fun a hF=>wq<|bx st hF 0 rfl rfl fun g3 w1 a st hF=>bx st hF 2 rfl rfl fun g4 w2 a st hF=>bx st hF 4 rfl rfl fun g5 w3 a st hF=>S.alloc st hF ab rfl rfl fun g6 w4 a st hF=>ns<|wq<|oL hF st 2 2 ab rfl rfl rfl rfl fun a hF=>oL hF st 2 1 ab rfl rfl rfl rfl fun a hF=>?_
  refine cX st hF (rk Fu (aB hF.p hF.o)) (nH _ _ (q2) (q3) 2 2 _ (h2.below st.bel) (h3.below st.bel) (by omega) (by omega)) rfl fun w5 a st hF=>oT hF 0 (fv (c:=false) (aJ (fun e=>h0 (BC.1 e)))) rfl rfl fun a hF=>E.nil<|wp_cond_false hF.o<|wp_skip<|E.norm<|wp_seq ?_
  refine eD 9 az hF [12,13,14,15,16,17,18,19,20] [(Iz (.agg #[.bool b2,.slice ad2 n2 c2,.slice ae2 m2 d2])),(Iz (.agg #[.bool b1,.slice ad1 n1 c1,.slice ae1 m1 d1])),(Iz (.agg #[.bool b2,.slice ad2 n2 c2,.slice ae2 m2 d2])),(Ir ((q1)-(q2)) ((k+2+1))),(Iz (.agg #[.bool b3,.slice ad3 n3 c3,.slice ae3 m3 d3])),(Iz (.agg #[.bool b2,.slice ad2 n2 c2,.slice ae2 m2 d2])),(Ir ((q3)-(q2)) ((2+2+1))),(Ir (rmod ((q1)-(q2)) ((q3)-(q2))) (((k+2+1)+(2+2+1)+(i+2+1)+(2+2+1)+3))),(Ir ((q2)+(rmod ((q1)-(q2)) ((q3)-(q2)))) ((2+((k+2+1)+(2+2+1)+(i+2+1)+(2+2+1)+3)+1)))] [] (by decide+kernel) rfl rfl trivial ⟨?_,?_,?_,?_,?_,?_,?_,?_,?_,trivial⟩ ?_
  ·exact qL st 6 2 ab rfl rfl rfl rfl rfl
  ·exact qL st 7 3 ab rfl rfl rfl rfl rfl
  ·exact qL st 6 2 ab rfl rfl rfl rfl rfl
  ·intro a' w' hF' hb hd
   have e13:=tE hd 0 rfl
   have e14:=tE hd 1 rfl
   exact dc0 (rk Fd (aB e13 e14)) (jb _ _ (q1) (q2) k 2 _ (h1.below (aA st.bel hb)) (h2.below (aA st.bel hb)) (by omega) (by omega) (by omega) (by omega)) rfl rfl
  ·exact qL st 5 1 ab rfl rfl rfl rfl rfl
  ·exact qL st 6 2 ab rfl rfl rfl rfl rfl
  ·intro a' w' hF' hb hd
   have e16:=tE hd 0 rfl
   have e17:=tE hd 1 rfl
   exact dc0 (rk Fd (aB e16 e17)) (jb _ _ (q3) (q2) 2 2 _ (h3.below (aA st.bel hb)) (h2.below (aA st.bel hb)) (by omega) (by omega) (by omega) (by omega)) rfl rfl
  ·intro a' w' hF' hb hd
   obtain⟨v15_0,e15,h15_1⟩:=tH hd 0 rfl
   obtain⟨v18_0,e18,h18_1⟩:=tH hd 1 rfl
   exact dc0 (rk LR (aB e15 e18)) (kR _ _ _ _ (k+2+1) (2+2+1) (i+2+1) (2+2+1) _ h15_1 h18_1 (bH li1 li2) (bH li3 li2) (by omega) (by omega) (by omega) (by omega) (by omega) (by omega)) rfl rfl
  ·intro a' w' hF' hb hd
   have e12:=tE hd 0 rfl
   obtain⟨v19_0,e19,h19_1⟩:=tH hd 1 rfl
   exact dc0 (rk KN (aB e12 e19)) (kC _ _ (q2) _ 2 ((k+2+1)+(2+2+1)+(i+2+1)+(2+2+1)+3) _ (h2.below (aA st.bel hb)) h19_1 (by omega) (by omega) (by omega) (by omega)) rfl rfl
  intro a w6 hF bb hall hne
  replace st:=st.to bb
  obtain⟨vv7,hF,st⟩:=aS hall hF st 8 rfl rfl Rr.cl
  clear hall hne bb
  obtain⟨r9,rfl⟩:=Rr.fo (st.f 0 rfl)
  refine so st hF 0 5 0 ab rfl rfl rfl rfl fun w10 a st hF=>nr<|rs Tryz.results286 st hF 5 0 ab rfl rfl rfl ?_
  exact⟨_,rfl,Rr.cast (Rr.up (st.f 0 rfl) _ (by omega)) (sw h0),st.bel⟩
theorem zg (xa xb xc xd:Int) (w:World) (hxa0: -9223372036854775808<=xa) (hxa1:xa<=9223372036854775807) (hxb0: -9223372036854775808<=xb) (hxb1:xb<=9223372036854775807) (hxc0: -9223372036854775808<=xc) (hxc1:xc<=9223372036854775807) (hxd0: -9223372036854775808<=xd) (hxd1:xd<=9223372036854775807):
 CP 19 #[.agg #[iv xa,iv xb,iv xc,iv xd]] w (Hl w (((xa:Int):Rat)/((xb:Int):Rat)) (((xc:Int):Rat)/((xd:Int):Rat)) 2):=by
 refine gs1 (nt:=14) Tryz.func19 rfl rfl rfl fun a st hF=>wq<|bx st hF 0 rfl rfl fun g1 w1 a st hF=>S.alloc st hF fC rfl rfl fun g2 w2 a st hF=>ns ?_
 refine E.drawn 11 az hF [3,4,5,6,7,8,9,10,11,12,13] [(fun _ v=>v= .pointer (some ⟨g1,0,none⟩)),(fun _ v=>v= iv xa),(fun _ v=>v= .pointer (some ⟨g1,1,none⟩)),(fun _ v=>v= iv xb),(fun w v=>Rr w v (((xa:Int):Rat)/((xb:Int):Rat)) (2)),(fun _ v=>v= .pointer (some ⟨g1,2,none⟩)),(fun _ v=>v= iv xc),(fun _ v=>v= .pointer (some ⟨g1,3,none⟩)),(fun _ v=>v= iv xd),(fun w v=>Rr w v (((xc:Int):Rat)/((xd:Int):Rat)) (2)),(fun w v=>RPl w v (((xa:Int):Rat)/((xb:Int):Rat)) (((xc:Int):Rat)/((xd:Int):Rat)) (2))] [] (by decide+kernel) (by decide+kernel) rfl rfl rfl ⟨(Mb.eq _),(Mb.eq _),(Mb.eq _),(Mb.eq _),(fun _ _ _ h hb=>h.below hb),(Mb.eq _),(Mb.eq _),(Mb.eq _),(Mb.eq _),(fun _ _ _ h hb=>h.below hb),(RPl.mono _ _ _),trivial⟩ trivial ⟨?_,?_,?_,?_,?_,?_,?_,?_,?_,?_,?_,trivial⟩ ?_
 ·intro a' w' hF' hb hd
  exact dv0 (av (hF'.at 1 rfl) (pW (p:=0) rfl)) rfl rfl rfl
 ·intro a' w' hF' hb hd
  have e3:=tE hd 0 rfl
  exact dv0 (ar e3 (cY (v:= iv xa) ((st.bk 1 rfl).below hb) rfl)) rfl rfl rfl
 ·intro a' w' hF' hb hd
  exact dv0 (av (hF'.at 1 rfl) (pX (p:=1) rfl)) rfl rfl rfl
 ·intro a' w' hF' hb hd
  have e5:=tE hd 0 rfl
  exact dv0 (ar e5 (cY (v:= iv xb) ((st.bk 1 rfl).below hb) rfl)) rfl rfl rfl
 ·intro a' w' hF' hb hd
  have e4:=tE hd 0 rfl
  have e6:=tE hd 1 rfl
  exact dc0 (rk J4 (aB e4 e6)) (wQ xa xb _ hxa0 hxa1 hxb0 hxb1) rfl rfl
 ·intro a' w' hF' hb hd
  exact dv0 (av (hF'.at 1 rfl) (pH (p:=2) rfl)) rfl rfl rfl
 ·intro a' w' hF' hb hd
  have e8:=tE hd 0 rfl
  exact dv0 (ar e8 (cY (v:= iv xc) ((st.bk 1 rfl).below hb) rfl)) rfl rfl rfl
 ·intro a' w' hF' hb hd
  exact dv0 (av (hF'.at 1 rfl) (pt (p:=3) rfl)) rfl rfl rfl
 ·intro a' w' hF' hb hd
  have e10:=tE hd 0 rfl
  exact dv0 (ar e10 (cY (v:= iv xd) ((st.bk 1 rfl).below hb) rfl)) rfl rfl rfl
 ·intro a' w' hF' hb hd
  have e9:=tE hd 0 rfl
  have e11:=tE hd 1 rfl
  exact dc0 (rk J4 (aB e9 e11)) (wQ xc xd _ hxc0 hxc1 hxd0 hxd1) rfl rfl
 ·intro a' w' hF' hb hd
  obtain⟨v7_0,e7,h7_1⟩:=tH hd 0 rfl
  obtain⟨v12_0,e12,h12_1⟩:=tH hd 1 rfl
  obtain⟨r3,rfl⟩:=Rr.fo h7_1
  obtain⟨r4,rfl⟩:=Rr.fo h12_1
  exact dv0 (aM (dX e7 e12) (AG _ _ _ _ _ _ _ _ _ _ _ _ _ _ _)) ⟨_,_,_,_,_,_,_,_,_,_,_,_,_,_,rfl,h7_1,h12_1⟩ rfl rfl
 intro a w5 hF bb hall hne
 replace st:=st.to bb
 obtain⟨vv6,hF,st⟩:=aS hall hF st 10 rfl rfl RPl.cl
 clear hall hne bb
 obtain⟨b9x,ad9x,n9x,c9x,ae9x,m9x,d9x,b9y,ad9y,n9y,c9y,ae9y,m9y,d9y,rfl,hp9x,hp9y⟩:=RPl.shape (st.f 0 rfl)
 refine so st hF 0 1 0 fC rfl rfl rfl rfl fun w10 a st hF=>nr<|rs Tryz.results19 st hF 1 0 fC rfl rfl rfl ?_
 exact⟨_,rfl,(st.f 0 rfl),st.bel⟩
end Go.Proofs.YtgdpkknapcgcbaaGreatDoor
