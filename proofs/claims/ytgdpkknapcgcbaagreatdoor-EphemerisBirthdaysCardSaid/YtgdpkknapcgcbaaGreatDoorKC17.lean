import Derived.Test.YtgdpkknapcgcbaaGreatDoorKC16
namespace Go.Proofs.YtgdpkknapcgcbaaGreatDoor
open Go.RowKit
set_option maxRecDepth 100000
set_option linter.unusedVariables false
set_option maxHeartbeats 8000000
theorem rM {a:Act} {i j k l:Nat} {x y z u:Operand} {p q r s:Value} (h:a.eval x=p) (h2:a.eval y=q) (h3:a.eval z=r) (h4:a.eval u=s):(#[(i,x),(j,y),(k,z),(l,u)].map fun(p:Nat×Operand)=>(p.1,a.eval p.2))=#[(i,p),(j,q),(k,r),(l,s)]:=by simp[h,h2,h3,h4]
theorem J5 {a:Act} {i j k l m:Nat} {x y z u v:Operand} {p q r s t:Value} (h:a.eval x=p) (h2:a.eval y=q) (h3:a.eval z=r) (h4:a.eval u=s) (h5:a.eval v=t):(#[(i,x),(j,y),(k,z),(l,u),(m,v)].map fun(p:Nat×Operand)=>(p.1,a.eval p.2))=#[(i,p),(j,q),(k,r),(l,s),(m,t)]:=by simp[h,h2,h3,h4,h5]
theorem Pq:(Tryz.prog.info? 187).map (·.size)=some 12:=by kernel_rfl
theorem FE:(Tryz.prog.info? 187).bind (·.zero)=some (.agg #[.bool false,.slice none 0 0,.slice none 0 0,.bool false,.slice none 0 0,.slice none 0 0,.bool false,.slice none 0 0,.slice none 0 0,.bool false,.slice none 0 0,.slice none 0 0]):=by kernel_rfl
theorem Hz {w:World} {g o p:Nat} (hp:o+0=p):(Instr.fieldAt 187 (.pointer (some ⟨g,o,none⟩)) 0).run Tryz.prog w= .ok (.pointer (some ⟨g,p,none⟩)) w:=bp Tryz.underlying187 rfl rfl kd rfl p hp
theorem JG {w:World} {g o p:Nat} (hp:o+3=p):(Instr.fieldAt 187 (.pointer (some ⟨g,o,none⟩)) 1).run Tryz.prog w= .ok (.pointer (some ⟨g,p,none⟩)) w:=bp Tryz.underlying187 rfl rfl kd rfl p hp
theorem xY {w:World} {g o p:Nat} (hp:o+6=p):(Instr.fieldAt 187 (.pointer (some ⟨g,o,none⟩)) 2).run Tryz.prog w= .ok (.pointer (some ⟨g,p,none⟩)) w:=bp Tryz.underlying187 rfl rfl kd rfl p hp
theorem Hq {w:World} {g o p:Nat} (hp:o+9=p):(Instr.fieldAt 187 (.pointer (some ⟨g,o,none⟩)) 3).run Tryz.prog w= .ok (.pointer (some ⟨g,p,none⟩)) w:=bp Tryz.underlying187 rfl rfl kd rfl p hp
theorem xK {place:Nat->Option (Nat×Nat)} {cells:Array Value} {i off:Nat} {x y z:Value} {rest:List (Nat×Value)} (hp:place i=some (off,3)) (hc:off+3<=cells.size):
 Instr.fill place cells ((i,.agg #[x,y,z])::rest)=Instr.fill place (((cells.setIfInBounds off x).setIfInBounds (off+1) y).setIfInBounds (off+2) z) rest:=by
 conv=>lhs;unfold Instr.fill
 rw[hp]
 have h1:(Value.agg #[x,y,z]).cells =#[x,y,z]:=rfl
 simp only [h1]
 rw[if_neg (by simp;omega)]
 have h2:∀f:Array Value->Value×Nat->Array Value,Array.foldl f cells #[x,y,z].zipIdx =f (f (f cells (x,0)) (y,1)) (z,2):=fun f=>rfl
 rw[h2]
 rfl
theorem sV (b00:Bool) (a01:Option Addr) (n01 c01:Nat) (a02:Option Addr) (n02 c02:Nat) (b10:Bool) (a11:Option Addr) (n11 c11:Nat) (a12:Option Addr) (n12 c12:Nat) (b20:Bool) (a21:Option Addr) (n21 c21:Nat) (a22:Option Addr) (n22 c22:Nat) (b30:Bool) (a31:Option Addr) (n31 c31:Nat) (a32:Option Addr) (n32 c32:Nat) (w:World):(Instr.build 187 #[(0,.agg #[.bool b00,.slice a01 n01 c01,.slice a02 n02 c02]),(1,.agg #[.bool b10,.slice a11 n11 c11,.slice a12 n12 c12]),(2,.agg #[.bool b20,.slice a21 n21 c21,.slice a22 n22 c22]),(3,.agg #[.bool b30,.slice a31 n31 c31,.slice a32 n32 c32])]).run Tryz.prog w= .ok (.agg #[.bool b00,.slice a01 n01 c01,.slice a02 n02 c02,.bool b10,.slice a11 n11 c11,.slice a12 n12 c12,.bool b20,.slice a21 n21 c21,.slice a22 n22 c22,.bool b30,.slice a31 n31 c31,.slice a32 n32 c32]) w:=by
 have hz:=dr FE w
 have h_Rat:∀w,(sizeOf 33).run Tryz.prog w= .ok 3 w:=fun w=>bh kd w
 simp only [Instr.build,Sem.run_bind,hz,Result.andThen_ok,run_underlying Tryz.underlying187,List.mapM_toArray,List.mapM_cons,List.mapM_nil,Sem.run_map,h_Rat,Sem.run_pure]
 rw[show(Value.agg #[Value.bool false,Value.slice none 0 0,Value.slice none 0 0,Value.bool false,Value.slice none 0 0,Value.slice none 0 0,Value.bool false,Value.slice none 0 0,Value.slice none 0 0,Value.bool false,Value.slice none 0 0,Value.slice none 0 0]).cells =#[Value.bool false,Value.slice none 0 0,Value.slice none 0 0,Value.bool false,Value.slice none 0 0,Value.slice none 0 0,Value.bool false,Value.slice none 0 0,Value.slice none 0 0,Value.bool false,Value.slice none 0 0,Value.slice none 0 0] from rfl]
 rw[xK (off:=0) rfl (by simp),xK (off:=3) rfl (by simp),xK (off:=6) rfl (by simp),xK (off:=9) rfl (by simp)]
 simp only [List.setIfInBounds_toArray,List.set_cons_zero,List.set_cons_succ,Nat.reduceAdd,Nat.zero_add]
 rfl
def Orb (w:World) (v:Value) (p an s c:Rat):Prop:=
 ∃b1 a1 n1 c1 d1 m1 e1 b2 a2 n2 c2 d2 m2 e2 b3 a3 n3 c3 d3 m3 e3 b4 a4 n4 c4 d4 m4 e4,v= .agg #[.bool b1,.slice a1 n1 c1,.slice d1 m1 e1,.bool b2,.slice a2 n2 c2,.slice d2 m2 e2,.bool b3,.slice a3 n3 c3,.slice d3 m3 e3,.bool b4,.slice a4 n4 c4,.slice d4 m4 e4]/\
  Rq w (.agg #[.bool b1,.slice a1 n1 c1,.slice d1 m1 e1]) p/\Rq w (.agg #[.bool b2,.slice a2 n2 c2,.slice d2 m2 e2]) an/\Rq w (.agg #[.bool b3,.slice a3 n3 c3,.slice d3 m3 e3]) s/\Rq w (.agg #[.bool b4,.slice a4 n4 c4,.slice d4 m4 e4]) c
theorem Orb.below {w w':World} {v:Value} {p an s c:Rat} (h:Orb w v p an s c) (hb:Below w.heap.size w w'):Orb w' v p an s c:=by
 obtain⟨b1,a1,n1,c1,d1,m1,e1,b2,a2,n2,c2,d2,m2,e2,b3,a3,n3,c3,d3,m3,e3,b4,a4,n4,c4,d4,m4,e4,h0,h1,h2,h3,h4⟩:=h
 exact⟨b1,a1,n1,c1,d1,m1,e1,b2,a2,n2,c2,d2,m2,e2,b3,a3,n3,c3,d3,m3,e3,b4,a4,n4,c4,d4,m4,e4,h0,h1.below hb,h2.below hb,h3.below hb,h4.below hb⟩
def B4 (w:World) (p an s c:Rat) (e:Ending) (w':World):Prop:=∃v,e= .returned v/\Orb w' v p an s c/\Below w.heap.size w w'
theorem mI:Ty Tryz.prog 187 12 [.bool false,.slice none 0 0,.slice none 0 0,.bool false,.slice none 0 0,.slice none 0 0,.bool false,.slice none 0 0,.slice none 0 0,.bool false,.slice none 0 0,.slice none 0 0]:=⟨⟨_,Tryz.underlying187,rfl⟩,Pq,FE⟩
theorem mt {k n:Int} (h:0<n):0<=k%n/\k%n<n:=⟨Int.emod_nonneg k (by omega),Int.emod_lt_of_pos k h⟩
theorem mO {k n:Int} (h:0<n): -n<(if 0<=k then k%n else -(-k%n))/\(if 0<=k then k%n else -(-k%n))<n:=by
 have a:=mt (k:=k) h
 have b:=mt (k:= -k) h
 split <;> omega
def inD (n:Int):Int:=if(if 0<=n then n%6000001 else -(-n%6000001))< -3000000 then(if 0<=n then n%6000001 else -(-n%6000001))+6000000+1 else if 3000000<(if 0<=n then n%6000001 else -(-n%6000001)) then(if 0<=n then n%6000001 else -(-n%6000001))-6000000-1 else(if 0<=n then n%6000001 else -(-n%6000001))
theorem Fh (n:Int): -3000000<=inD n/\inD n<=3000000:=by
 unfold inD
 have:=mO (k:=n) (n:=6000001) (by decide)
 generalize (if 0<=n then n%6000001 else -(-n%6000001))=r at*
 split <;> (try split) <;> omega
theorem MF (n:Int) (w:World):
 CV 16 #[iv n] w (iv (inD n)):=by
 have hrb:=mO (k:=n) (n:=6000001) (by decide)
 refine gs1 (nt:=17) Tryz.func16 rfl rfl rfl fun a st hF=>wq ?_
 refine oC hF rfl fun a hF=>nq ?_
 refine oM hF 1 rfl rfl fun a hF=>oV hF (aq hF.o ao aa (iU (a:=n) (b:=6000001) (by omega))) rfl fun a hF=>oA hF 0 rfl rfl fun a hF=>ns<|wq<|oM hF 0 rfl rfl fun a hF=>?_
 by_cases hc1:(if 0<=n then n%6000001 else -(-n%6000001))<(-3000000)
 ·refine oT hF 0 (aY (c:=true) (aI hc1)) rfl rfl fun a hF=>E.nil<|wp_cond_true hF.o<|wq ?_
  refine oM hF 2 rfl rfl fun a hF=>oV hF (aq hF.o ao aa (aX (by omega) (by omega))) rfl fun a hF=>oV hF (aq hF.o ao aa (aX (by omega) (by omega))) rfl fun a hF=>oE hF 0 rfl rfl fun a hF=>nr ?_
  have bel:=st.bel
  refine rt Tryz.results16 hF 0 rfl ?_
  refine⟨ch ?_,bel⟩
  unfold inD
  rw[if_pos hc1]
 ·refine oT hF 0 (aY (c:=false) (aJ hc1)) rfl rfl fun a hF=>E.nil<|wp_cond_false hF.o<|wp_skip<|E.norm<|wp_seq<|wq<|oM hF 2 rfl rfl fun a hF=>?_
  by_cases hc2:3000000<(if 0<=n then n%6000001 else -(-n%6000001))
  ·refine oT hF 0 (bT (c:=true) (aI hc2)) rfl rfl fun a hF=>E.nil<|wp_cond_true hF.o<|wq ?_
   refine oM hF 4 rfl rfl fun a hF=>oV hF (aq hF.o ao aa (bB (by omega) (by omega))) rfl fun a hF=>oV hF (aq hF.o ao aa (bB (by omega) (by omega))) rfl fun a hF=>oE hF 0 rfl rfl fun a hF=>nr ?_
   have bel:=st.bel
   refine rt Tryz.results16 hF 0 rfl ?_
   refine⟨ch ?_,bel⟩
   unfold inD
   rw[if_neg hc1,if_pos hc2]
  ·refine oT hF 0 (bT (c:=false) (aJ hc2)) rfl rfl fun a hF=>E.nil<|wp_cond_false hF.o<|wp_skip<|E.norm<|wq ?_
   refine oM hF 4 rfl rfl fun a hF=>oE hF 0 rfl rfl fun a hF=>nr ?_
   have bel:=st.bel
   refine rt Tryz.results16 hF 0 rfl ?_
   refine⟨ch ?_,bel⟩
   unfold inD
   rw[if_neg hc1,if_neg hc2]
theorem Fc:(Tryz.prog.info? 26).map (·.size)=some 4:=by kernel_rfl
theorem Gb:(Tryz.prog.info? 26).bind (·.zero)=some (.agg #[iv 0,iv 0,iv 0,iv 0]):=by kernel_rfl
theorem vR {w:World} {g o:Nat} {cs vs:List Value} (h:Blk w g cs) (hv:(cs.drop o).take 4=vs) (hl:vs.length=4):(Instr.loadAt 26 (.pointer (some ⟨g,o,none⟩))).run Tryz.prog w= .ok (.agg vs.toArray) w:=mR h hv hl Tryz.underlying26 rfl Fc
theorem tW {w:World} {g o p:Nat} (hp:o+0=p):(Instr.fieldAt 26 (.pointer (some ⟨g,o,none⟩)) 0).run Tryz.prog w= .ok (.pointer (some ⟨g,p,none⟩)) w:=bp Tryz.underlying26 rfl rfl dz rfl p hp
theorem ue {w:World} {g o p:Nat} (hp:o+1=p):(Instr.fieldAt 26 (.pointer (some ⟨g,o,none⟩)) 1).run Tryz.prog w= .ok (.pointer (some ⟨g,p,none⟩)) w:=bp Tryz.underlying26 rfl rfl dz rfl p hp
theorem tw {w:World} {g o p:Nat} (hp:o+2=p):(Instr.fieldAt 26 (.pointer (some ⟨g,o,none⟩)) 2).run Tryz.prog w= .ok (.pointer (some ⟨g,p,none⟩)) w:=bp Tryz.underlying26 rfl rfl dz rfl p hp
theorem um {w:World} {g o p:Nat} (hp:o+3=p):(Instr.fieldAt 26 (.pointer (some ⟨g,o,none⟩)) 3).run Tryz.prog w= .ok (.pointer (some ⟨g,p,none⟩)) w:=bp Tryz.underlying26 rfl rfl dz rfl p hp
theorem sW (z00:Int) (z10:Int) (z20:Int) (z30:Int) (w:World):(Instr.build 26 #[(0,iv z00),(1,iv z10),(2,iv z20),(3,iv z30)]).run Tryz.prog w= .ok (.agg #[iv z00,iv z10,iv z20,iv z30]) w:=by
 have hz:=dr Gb w
 have h_i64:∀w,(sizeOf 2).run Tryz.prog w= .ok 1 w:=fun w=>bh dz w
 simp only [Instr.build,Sem.run_bind,hz,Result.andThen_ok,run_underlying Tryz.underlying26,List.mapM_toArray,List.mapM_cons,List.mapM_nil,Sem.run_map,h_i64,Sem.run_pure]
 rfl
theorem be:Ty Tryz.prog 26 4 [iv 0,iv 0,iv 0,iv 0]:=⟨⟨_,Tryz.underlying26,rfl⟩,Fc,Gb⟩
section
section
variable {P:Program} {ops:Array Oper} {Q:Exit->Act->World->Prop} {W w:World} {bs:List (Nat×List Value)} {fs:List (World->Prop)} {nt d:Nat} {L:List (Nat×Value)} {rest:List Oper} {a:Act} {T:TypeId} {x y:Operand} {v:Value} {cs vs zs:List Value} {g n:Nat} {ty:TypeId} {pos:String} {af:Array Edge}
theorem S.stooI {o:Nat} {ws:List Value} (st:St W w bs fs) (hF:Fr nt a L) (i:Nat) (hb:bs[i]?=some (g,cs)) (he:a.eval x= .pointer (some ⟨g,o,none⟩)) (hv:a.eval y=v) (hcv:v.cells=vs.toArray) (hT:(P.info? T).map (·.size)=some n) (hl:vs.length=n) (ho:Nat.ble (o+n) cs.length=true) (hc':vs.all jz=true) (hw:cs.take o++vs++cs.drop (o+n)=ws)
 (k:∀w' a',St W w' (bs.set i (g,ws)) []->Fr nt a' L->wpS P ops Q rest a' w'):wpS P ops Q (⟨none,.store T x y,ty,pos,af,none⟩::rest) a w:=by
 obtain⟨w1,hr,tu,on⟩:=iL (P:=P) (o:=o) (ws:=ws) (st.bk i hb) hT hl ho (jz.oc hc') hw
 exact E.st hF (cT he hv (hr _ hcv)) rfl rfl fun a' hF'=>k w1 a' (st.setI i hb tu on) hF'
end
end
def gB (y:Int):Int:=1+y%3600
def gA (m m2 x y:Int):Int:=x%(m2*gB y+1)-m*gB y
theorem qe (y:Int):1<=gB y/\gB y<=3600:=by unfold gB;omega
theorem KY {m m2 x y:Int} (h:m2=2*m) (h0:0<=m): -(m*gB y)<=gA m m2 x y/\gA m m2 x y<=m*gB y:=by
 have b:=qe y
 have p:=Int.mul_nonneg h0 (show 0<=gB y by omega)
 have e:m2*gB y=2*(m*gB y):=by rw[h,Int.mul_assoc]
 unfold gA
 rw[e]
 have h1:=Int.emod_nonneg x (show 2*(m*gB y)+1≠0 by omega)
 have h2:=Int.emod_lt_of_pos x (show 0<2*(m*gB y)+1 by omega)
 omega
theorem vr (x y:Int): -60*gB y<=gA 60 120 x y/\gA 60 120 x y<=60*gB y:=by
 have:=KY (m:=60) (m2:=120) (x:=x) (y:=y) (by omega) (by omega);omega
theorem wg (x y:Int): -180*gB y<=gA 180 360 x y/\gA 180 360 x y<=180*gB y:=by
 have:=KY (m:=180) (m2:=360) (x:=x) (y:=y) (by omega) (by omega);omega
theorem L7 {k n:Int} (h:0<n):(if 0<=(if 0<=k then k%n else -(-k%n))+n then((if 0<=k then k%n else -(-k%n))+n)%n else -(-((if 0<=k then k%n else -(-k%n))+n)%n))=k%n:=by
 have a:=mO (k:=k) h
 rw[if_pos (by omega),Int.add_emod_right]
 split
 ·exact Int.emod_emod_of_dvd k (Int.dvd_refl n)
 ·have e:=Int.emod_add_mul_ediv (-k) n
  have e2: -(-k%n)=k+n*(-k/n):=by omega
  rw[e2,Int.add_mul_emod_self_left]
theorem Ak {k n:Int} (h:0<n) (h2:n<=1000000000): -9223372036854775808<=(if 0<=k then k%n else -(-k%n))+n/\(if 0<=k then k%n else -(-k%n))+n<=9223372036854775807:=by
 have a:=mO (k:=k) h;omega
def wiB (m n d:Int):Bool:=decide (1<=d/\d<=3600/\ -m*d<=n/\n<=m*d)
def plE (a b c d:Int):Int:=if wiB 60 a b=true/\wiB 180 c d=true then 0 else 2
theorem Kp {x c b:Rat} (hc:0<c) (h:x<=b*c):x/c<=b:=Rat.not_lt.1 fun q=>by rw[Rat.lt_div_iff hc] at q;grind
theorem Ku {x c b:Rat} (hc:0<c) (h:b*c<=x):b<=x/c:=Rat.not_lt.1 fun q=>by rw[Rat.div_lt_iff hc] at q;grind
theorem Ow {a b:Int} (h:1<=b) (h0: -60*b<=a) (h1:a<=60*b): -60<=((a:Int):Rat)/((b:Int):Rat)/\((a:Int):Rat)/((b:Int):Rat)<=60:=by
 have p:(0:Rat)<((b:Int):Rat):=Rat.intCast_pos.2 (by omega)
 have a0:((-60*b:Int):Rat)<=((a:Int):Rat):=Rat.intCast_le_intCast.2 h0
 have a1:((a:Int):Rat)<=((60*b:Int):Rat):=Rat.intCast_le_intCast.2 h1
 rw[Rat.intCast_mul] at a0 a1
 rw[show((-60:Int):Rat)= -60 from rfl] at a0
 rw[show((60:Int):Rat)=60 from rfl] at a1
 exact⟨Ku p (by grind),Kp p (by grind)⟩
theorem Pn {a b:Int} (h:1<=b) (h0: -180*b<=a) (h1:a<=180*b): -180<=((a:Int):Rat)/((b:Int):Rat)/\((a:Int):Rat)/((b:Int):Rat)<=180:=by
 have p:(0:Rat)<((b:Int):Rat):=Rat.intCast_pos.2 (by omega)
 have a0:((-180*b:Int):Rat)<=((a:Int):Rat):=Rat.intCast_le_intCast.2 h0
 have a1:((a:Int):Rat)<=((180*b:Int):Rat):=Rat.intCast_le_intCast.2 h1
 rw[Rat.intCast_mul] at a0 a1
 rw[show((-180:Int):Rat)= -180 from rfl] at a0
 rw[show((180:Int):Rat)=180 from rfl] at a1
 exact⟨Ku p (by grind),Kp p (by grind)⟩
structure bN (a b c d:Int):Prop where
 b0:1<=b
 b1:b<=3600
 a0: -60*b<=a
 a1:a<=60*b
 d0:1<=d
 d1:d<=3600
 c0: -180*d<=c
 c1:c<=180*d
theorem mj (x y u v:Int):bN (gA 60 120 x y) (gB y) (gA 180 360 u v) (gB v):=⟨(qe y).1,(qe y).2,(vr x y).1,(vr x y).2,(qe v).1,(qe v).2,(wg u v).1,(wg u v).2⟩
theorem bN.la {a b c d:Int} (h:bN a b c d): -60<=((a:Int):Rat)/((b:Int):Rat)/\((a:Int):Rat)/((b:Int):Rat)<=60:=Ow h.b0 h.a0 h.a1
theorem bN.lo {a b c d:Int} (h:bN a b c d): -180<=((c:Int):Rat)/((d:Int):Rat)/\((c:Int):Rat)/((d:Int):Rat)<=180:=Pn h.d0 h.c0 h.c1
theorem fB {a:Act} {x0 x1 x2 x3:Operand} {u0 u1 u2 u3:Value} (h0:a.eval x0=u0) (h1:a.eval x1=u1) (h2:a.eval x2=u2) (h3:a.eval x3=u3):#[x0,x1,x2,x3].map a.eval=#[u0,u1,u2,u3]:=by simp[h0,h1,h2,h3]
theorem oW {n d:Int} (h0: -9223372036854775808<=n) (h1:n<=9223372036854775807) (g0: -9223372036854775808<=d) (g1:d<=9223372036854775807):av (((n:Int):Rat)/((d:Int):Rat)) 2:=(fO (co h0 h1) (co g0 g1)).up 2 (by decide)
theorem sl (w:World):
 CV 90 #[] w (.agg #[iv 463,iv 20,iv 45461,iv 600]):=by
 refine gs0 (nt:=2) Tryz.func90 rfl rfl fun a st hF=>wq<|S.alloc st hF be rfl rfl fun g0 w1 a st hF=>nq<|oV hF (bn (rM ao ao ao ao) (sW _ _ _ _ _)) rfl fun a hF=>S.stoI st hF 0 rfl hF.p hF.o be rfl rfl rfl fun w2 a st hF=>nr<|rs Tryz.results90 st hF 1 0 be rfl rfl rfl ?_
 exact⟨rfl,st.bel⟩
theorem xA (xa xb xc xd:Int) (w:World) (hxa0: -9223372036854775808<=xa) (hxa1:xa<=9223372036854775807) (hxb0: -9223372036854775808<=xb) (hxb1:xb<=9223372036854775807):
 CQ 268 #[.agg #[iv xa,iv xb,iv xc,iv xd]] w (((xa:Int):Rat)/((xb:Int):Rat)):=by
 refine gs1 (nt:=8) Tryz.func268 rfl rfl rfl fun a st hF=>wq<|bx st hF 0 rfl rfl fun g1 w1 a st hF=>S.alloc st hF ab rfl rfl fun g2 w2 a st hF=>nq<|oV hF (az hF.p (tW (p:=0) rfl)) rfl fun a hF=>oV hF (ar hF.o (bl (v:= iv xa) (st.bk 1 rfl) rfl)) rfl fun a hF=>oV hF (az (hF.at 3 rfl) (ue (p:=1) rfl)) rfl fun a hF=>oV hF (ar hF.o (bl (v:= iv xb) (st.bk 1 rfl) rfl)) rfl fun a hF=>?_
 refine ca st hF (rk IL (aL hF.q hF.o)) (kX (xa) (xb) _ hxa0 hxa1 hxb0 hxb1) (fun _ _ h=>h) Rq.cl rfl fun vv4 w3 a st hF=>?_
 obtain⟨r6,rfl⟩:=Rq.fo (st.f 0 rfl)
 refine so st hF 0 5 0 ab rfl rfl rfl rfl fun w7 a st hF=>nr<|rs Tryz.results268 st hF 5 0 ab rfl rfl rfl ?_
 exact⟨_,rfl,(st.f 0 rfl),st.bel⟩
theorem oY (xa xb xc xd:Int) (w:World) (hxc0: -9223372036854775808<=xc) (hxc1:xc<=9223372036854775807) (hxd0: -9223372036854775808<=xd) (hxd1:xd<=9223372036854775807):
 CQ 228 #[.agg #[iv xa,iv xb,iv xc,iv xd]] w (((xc:Int):Rat)/((xd:Int):Rat)):=by
 refine gs1 (nt:=8) Tryz.func228 rfl rfl rfl fun a st hF=>wq<|bx st hF 0 rfl rfl fun g1 w1 a st hF=>S.alloc st hF ab rfl rfl fun g2 w2 a st hF=>nq<|oV hF (az hF.p (tw (p:=2) rfl)) rfl fun a hF=>oV hF (ar hF.o (bl (v:= iv xc) (st.bk 1 rfl) rfl)) rfl fun a hF=>oV hF (az (hF.at 3 rfl) (um (p:=3) rfl)) rfl fun a hF=>oV hF (ar hF.o (bl (v:= iv xd) (st.bk 1 rfl) rfl)) rfl fun a hF=>?_
 refine ca st hF (rk IL (aL hF.q hF.o)) (kX (xc) (xd) _ hxc0 hxc1 hxd0 hxd1) (fun _ _ h=>h) Rq.cl rfl fun vv4 w3 a st hF=>?_
 obtain⟨r6,rfl⟩:=Rq.fo (st.f 0 rfl)
 refine so st hF 0 5 0 ab rfl rfl rfl rfl fun w7 a st hF=>nr<|rs Tryz.results228 st hF 5 0 ab rfl rfl rfl ?_
 exact⟨_,rfl,(st.f 0 rfl),st.bel⟩
theorem pW (k n:Int) (w:World) (hn:0<n) (hn2:n<=1000000000):
 CV 117 #[iv k,iv n] w (iv (k%n)):=by
 refine gs2 (nt:=12) Tryz.func117 rfl rfl rfl fun a st hF=>wq ?_
 refine oC hF rfl fun a hF=>nq<|oM hF 1 rfl rfl fun a hF=>oM hF 3 rfl rfl fun a hF=>oV hF (aq hF.p hF.o aa (iU (a:=k) (b:=n) hn)) rfl fun a hF=>oM hF 5 rfl rfl fun a hF=>oV hF (aq hF.p hF.o aa (aX (Ak hn hn2).1 (Ak hn hn2).2)) rfl fun a hF=>oM hF 7 rfl rfl fun a hF=>oV hF (aq hF.p hF.o aa (iU (a:=(if 0<=k then k%n else -(-k%n))+n) (b:=n) hn)) rfl fun a hF=>?_
 refine oE hF 0 rfl rfl fun a hF=>nr ?_
 have bel:=st.bel
 refine rt Tryz.results117 hF 0 rfl ?_
 exact⟨ch (L7 hn),bel⟩
theorem yl (x y u v:Int) (w:World):
 CV 53 #[iv x,iv y,iv u,iv v] w (.agg #[iv (gA 60 120 x y),iv (gB y),iv (gA 180 360 u v),iv (gB v)]):=by
 have st:=St.start w
 refine E.enter (nt:=36) (L:=[(0,iv x),(1,iv y),(2,iv u),(3,iv v)]) Tryz.func53 rfl rfl rfl (aC (i:=0) rfl (aC (i:=1) rfl (aC (i:=2) rfl (aC (i:=3) rfl cC)))) ?_
 intro a hF
 refine wq<|S.alloc st hF be rfl rfl fun g8 w1 a st hF=>nq<|oM hF 2 rfl rfl fun a hF=>cX st hF (rk xQ (aL hF.o ao)) (pW y 3600 _ (by omega) (by omega)) rfl fun w2 a st hF=>?_
 have hib3142:=mt (k:=y) (n:=3600) (by omega)
 refine oV hF (aq ao hF.o aa (aX (by omega) (by omega))) rfl fun a hF=>oM hF 7 rfl rfl fun a hF=>cX st hF (rk xQ (aL hF.o ao)) (pW v 3600 _ (by omega) (by omega)) rfl fun w3 a st hF=>?_
 have hib446:=mt (k:=v) (n:=3600) (by omega)
 refine oV hF (aq ao hF.o aa (aX (by omega) (by omega))) rfl fun a hF=>oA hF 3 rfl rfl fun a hF=>oA hF 1 rfl rfl fun a hF=>nq<|oM hF 9 rfl rfl fun a hF=>oM hF 2 rfl rfl fun a hF=>oV hF (aq ao hF.o aa (gT (by omega) (by omega))) rfl fun a hF=>oV hF (aq hF.o ao aa (aX (by omega) (by omega))) rfl fun a hF=>cX st hF (rk xQ (aL (hF.at 3 rfl) hF.o)) (pW x ((120*(1+(y%3600)))+1) _ (by omega) (by omega)) rfl fun w4 a st hF=>?_
 have hib545:=mt (k:=x) (n:=(120*(1+(y%3600)))+1) (by omega)
 refine oM hF 6 rfl rfl fun a hF=>oV hF (aq ao hF.o aa (gT (by omega) (by omega))) rfl fun a hF=>oV hF (aq hF.q hF.o aa (bB (by omega) (by omega))) rfl fun a hF=>oM hF 9 rfl rfl fun a hF=>oM hF 20 rfl rfl fun a hF=>oM hF 10 rfl rfl fun a hF=>oV hF (aq ao hF.o aa (gT (by omega) (by omega))) rfl fun a hF=>oV hF (aq hF.o ao aa (aX (by omega) (by omega))) rfl fun a hF=>cX st hF (rk xQ (aL (hF.at 3 rfl) hF.o)) (pW u ((360*(1+(v%3600)))+1) _ (by omega) (by omega)) rfl fun w5 a st hF=>?_
 have hib8212:=mt (k:=u) (n:=(360*(1+(v%3600)))+1) (by omega)
 refine oM hF 14 rfl rfl fun a hF=>oV hF (aq ao hF.o aa (gT (by omega) (by omega))) rfl fun a hF=>oV hF (aq hF.q hF.o aa (bB (by omega) (by omega))) rfl fun a hF=>oM hF 17 rfl rfl fun a hF=>oV hF (bn (rM (hF.at 10 rfl) (hF.at 9 rfl) hF.p hF.o) (sW _ _ _ _ _)) rfl fun a hF=>S.stoI st hF 0 rfl (hF.at 27 rfl) hF.o be rfl rfl rfl fun w6 a st hF=>nr<|rs Tryz.results53 st hF 27 0 be rfl rfl rfl ?_
 exact⟨rfl,st.bel⟩
theorem oD {x y u v pa pb pc pd:Int} (w:World) (ha:gA 60 120 x y=pa) (hb:gB y=pb) (hc:gA 180 360 u v=pc) (hd:gB v=pd):CV 53 #[iv x,iv y,iv u,iv v] w (.agg #[iv pa,iv pb,iv pc,iv pd]):=by
 subst ha hb hc hd
 exact yl x y u v w
section
section
theorem F1 (nega1:Bool) (aa1:Option Addr) (na1 ca1:Nat) (xa1:List Nat) (negb1:Bool) (ab1:Option Addr) (nb1 cb1:Nat) (xb1:List Nat) (m:Nat) (w:World) (ia1:InX w aa1 na1 ca1 xa1) (ib1:InX w ab1 nb1 cb1 xb1) (hm:m<=1000) (hm1:1<=m):
 CP 124 #[.agg #[.bool nega1,.slice aa1 na1 ca1,.bool negb1,.slice ab1 nb1 cb1],iv (m:Nat)] w (cf w ((jX nega1 xa1 m:Rat)/(jX negb1 xb1 m:Rat)) m):=by
 have oka1:=ia1.ok
 have okb1:=ib1.ok
 refine gs2 (nt:=14) Tryz.func124 rfl rfl rfl fun a st hF=>wq<|bx st hF 0 rfl rfl fun g2 w1 a st hF=>S.alloc st hF ag rfl rfl fun g4 w2 a st hF=>ns ?_
 refine E.drawn 9 aM hF [5,6,7,8,9,10,11,12,13] [(fun _ v=>v= .pointer (some ⟨g2,0,none⟩)),(fun _ v=>v= .agg #[.bool nega1,.slice aa1 na1 ca1]),(fun _ v=>v= iv ((m:Nat):Int)),(fun w v=>Rz w v (jX nega1 xa1 m)),(fun _ v=>v= .pointer (some ⟨g2,2,none⟩)),(fun _ v=>v= .agg #[.bool negb1,.slice ab1 nb1 cb1]),(fun _ v=>v= iv ((m:Nat):Int)),(fun w v=>Rz w v (jX negb1 xb1 m)),(fun w v=>Rr w v (((jX nega1 xa1 m:Int):Rat)/((jX negb1 xb1 m:Int):Rat)) (m))] [] (by decide+kernel) (by decide+kernel) rfl rfl rfl ⟨(Mb.eq _),(Mb.eq _),(Mb.eq _),(fun _ _ _ h hb=>h.below hb),(Mb.eq _),(Mb.eq _),(Mb.eq _),(fun _ _ _ h hb=>h.below hb),(fun _ _ _ h hb=>h.below hb),trivial⟩ trivial ⟨?_,?_,?_,?_,?_,?_,?_,?_,?_,trivial⟩ ?_
 ·intro a' w' hF' hb hd
  exact dv0 (az (hF'.at 1 rfl) (EK (p:=0) rfl)) rfl rfl rfl
 ·intro a' w' hF' hb hd
  have e5:=tE hd 0 rfl
  exact dv0 (ar e5 (Eh (vs:=[.bool nega1,.slice aa1 na1 ca1]) ((st.b 1 rfl rfl).below hb) rfl rfl)) rfl rfl rfl
 ·exact qM 3 rfl rfl rfl
 ·intro a' w' hF' hb hd
  have e6:=tE hd 0 rfl
  have e7:=tE hd 1 rfl
  exact dc0 (rk Kz (aL e6 e7)) (yN nega1 aa1 na1 ca1 m xa1 _ (ia1.below (aF st.bel hb)) (by omega)) rfl rfl
 ·intro a' w' hF' hb hd
  exact dv0 (az (hF'.at 1 rfl) (E3 (p:=2) rfl)) rfl rfl rfl
 ·intro a' w' hF' hb hd
  have e9:=tE hd 0 rfl
  exact dv0 (ar e9 (Eh (vs:=[.bool negb1,.slice ab1 nb1 cb1]) ((st.b 1 rfl rfl).below hb) rfl rfl)) rfl rfl rfl
 ·exact qM 3 rfl rfl rfl
 ·intro a' w' hF' hb hd
  have e10:=tE hd 0 rfl
  have e11:=tE hd 1 rfl
  exact dc0 (rk Kz (aL e10 e11)) (yN negb1 ab1 nb1 cb1 m xb1 _ (ib1.below (aF st.bel hb)) (by omega)) rfl rfl
 ·intro a' w' hF' hb hd
  obtain⟨v8_0,e8,h8_1⟩:=tH hd 0 rfl
  obtain⟨v12_0,e12,h12_1⟩:=tH hd 1 rfl
  exact dc0 (rk Kr (aL e8 e12)) (nT _ _ (jX nega1 xa1 m) (jX negb1 xb1 m) m _ h8_1 h12_1 (Lim.up (wF nega1 oka1 m) _ (by omega)) (Lim.up (wF negb1 okb1 m) _ (by omega)) (by omega)) rfl rfl
 intro a w3 hF bb hall hne
 replace st:=st.to bb
 obtain⟨vv4,hF,st⟩:=aS hall hF st 8 rfl rfl Rr.cl
 clear hall hne bb
 obtain⟨r6,rfl⟩:=Rr.fo (st.f 0 rfl)
 refine so st hF 0 1 0 ag rfl rfl rfl rfl fun w7 a st hF=>nr<|rs Tryz.results124 st hF 1 0 ag rfl rfl rfl ?_
 exact⟨_,rfl,(st.f 0 rfl),st.bel⟩
end
section
end
section
theorem yU (a b:Rat):qc a b=if a<b then -1 else if b<a then 1 else 0:=by
 unfold qc ci
 simp only [<-Rat.lt_iff]
theorem nm (z:Int): -1<=sz z/\sz z<=1:=by unfold sz;split <;> (try split) <;> omega
theorem GF (q:Rat):sz q.num=if q<0 then -1 else if 0<q then 1 else 0:=by
 have h1:q<0↔q.num<0:=by rw[Rat.lt_iff];simp
 have h2:0<q↔0<q.num:=by rw[Rat.lt_iff];simp
 simp only [h1,h2]
 unfold sz
 split
 ·rename_i e;rw[e];simp
 ·split
  ·rfl
  ·rw[if_pos (by omega)]
theorem nf {a b:Int} (ha: -1<=a/\a<=1) (hb: -1<=b/\b<=1): -9223372036854775808<=a*b/\a*b<=9223372036854775807:=by
 obtain⟨a1,a2⟩:=ha
 obtain⟨b1,b2⟩:=hb
 have h:a= -1\/a=0\/a=1:=by omega
 rcases h with rfl|rfl|rfl <;> constructor <;> omega
end
end
theorem EZ {x:Int} {a:Nat} (y:Int) (h:Lim x.natAbs a):Lim (x.fdiv y).natAbs (a+1):=by
 refine Nat.lt_of_le_of_lt (m:=x.natAbs+1) ?_ ?_
 ·rw[Int.fdiv_eq_ediv]
  have h1:(x/y).natAbs <=x.natAbs:=Int.natAbs_ediv_le_natAbs x y
  split <;> omega
 ·have h1:B32^a+1<=B32^(a+1):=by
   rw[Nat.pow_succ]
   have h2:0<B32^a:=Nat.pow_pos (by decide)
   have h3:B32^a*2<=B32^a*B32:=Nat.mul_le_mul_left _ (by decide)
   omega
  unfold Lim at h
  omega
theorem tq (z y:Int) (h:y≠0):∃r,z=sg (decide (z<0) !=decide (y<0)) (z.natAbs/y.natAbs)*y+r/\r.natAbs<y.natAbs/\(0<=z->0<=r)/\(z<=0->r<=0):=by
 have h1:=Nat.div_add_mod z.natAbs y.natAbs
 have h2:=Nat.mod_lt z.natAbs (show 0<y.natAbs by omega)
 generalize z.natAbs/y.natAbs=q at*
 generalize z.natAbs%y.natAbs=r at*
 have h3:((y.natAbs*q:Nat):Int)=(y.natAbs:Int)*(q:Int):=by simp
 by_cases hz:z<0 <;> by_cases hy:y<0
 ·refine⟨-(r:Int),?_,by omega,by omega,by omega⟩
  rw[decide_eq_true hz,decide_eq_true hy]
  have e:(y.natAbs:Int)= -y:=by omega
  rw[e,Int.neg_mul] at h3
  show z=(q:Int)*y+_
  rw[Int.mul_comm];omega
 ·refine⟨-(r:Int),?_,by omega,by omega,by omega⟩
  rw[decide_eq_true hz,decide_eq_false hy]
  have e:(y.natAbs:Int)=y:=by omega
  rw[e] at h3
  show z= -(q:Int)*y+_
  rw[Int.neg_mul,Int.mul_comm];omega
 ·refine⟨(r:Int),?_,by omega,by omega,by omega⟩
  rw[decide_eq_false hz,decide_eq_true hy]
  have e:(y.natAbs:Int)= -y:=by omega
  rw[e,Int.neg_mul] at h3
  show z= -(q:Int)*y+_
  rw[Int.neg_mul,Int.mul_comm];omega
 ·refine⟨(r:Int),?_,by omega,by omega,by omega⟩
  rw[decide_eq_false hz,decide_eq_false hy]
  have e:(y.natAbs:Int)=y:=by omega
  rw[e] at h3
  show z=(q:Int)*y+_
  rw[Int.mul_comm];omega
theorem OT {z y q r:Int} (h:y≠0) (e:z=q*y+r) (h1:0<y->0<=r/\r<y) (h2:y<0->r<=0/\y<r):q=Int.fdiv z y/\r=fr z y:=by
 unfold fr
 rw[if_neg h]
 rcases Int.lt_or_gt_of_ne h with h'|h'
 ·obtain⟨a,b⟩:=xF (a:=z) (b:=y) (q:=q) (r:=r) (by rw[e,Int.mul_comm]) (h2 h').1 (h2 h').2
  exact⟨a.symm,b.symm⟩
 ·obtain⟨a,b⟩:=uO (a:=z) (b:=y) (q:=q) (r:=r) (by rw[e,Int.mul_comm]) (h1 h').1 (h1 h').2
  exact⟨a.symm,b.symm⟩
theorem Ks {a b:Int}:sz a*sz b<0↔(a<0/\0<b)\/(0<a/\b<0):=by
 unfold sz
 split <;> split <;> (try split) <;> (try split) <;> omega
theorem MG {z y q:Int} (hq:q=sg (decide (z<0) !=decide (y<0)) (z.natAbs/y.natAbs)) (h:y≠0) (ht:sz (z+ -(q*y))*sz y<0):q+ -1=Int.fdiv z y/\z+ -((q+ -1)*y)=fr z y:=by
 obtain⟨r,e,h1,h2,h3⟩:=tq z y h
 rw[<-hq] at e
 have er:z+ -(q*y)=r:=by omega
 rw[er,Ks] at ht
 have e2:(q+ -1)*y=q*y-y:=by rw[Int.add_mul];omega
 have:=OT (z:=z) (y:=y) (q:=q+ -1) (r:=r+y) h (by rw[e2];omega) (by omega) (by omega)
 exact⟨this.1,by rw[e2,<-this.2];omega⟩
theorem Mu {z y q:Int} (hq:q=sg (decide (z<0) !=decide (y<0)) (z.natAbs/y.natAbs)) (h:y≠0) (ht:¬sz (z+ -(q*y))*sz y<0):q=Int.fdiv z y/\z+ -(q*y)=fr z y:=by
 obtain⟨r,e,h1,h2,h3⟩:=tq z y h
 rw[<-hq] at e
 have er:z+ -(q*y)=r:=by omega
 rw[er,Ks] at ht
 rw[er]
 exact OT h e (by omega) (by omega)
theorem Rz.cast {w:World} {v:Value} {z z':Int} (h:Rz w v z) (e:z=z'):Rz w v z':=by subst e;exact h
def O4 (w:World) (z1 z2:Int) (e:Ending) (w':World):Prop:=∃v1 v2,e= .returned (.tuple #[v1,v2])/\Rz w' v1 (z1.fdiv z2)/\Rz w' v2 (fr z1 z2)/\Below w.heap.size w w'
theorem InX.cl {a:Option Addr} {n c:Nat} {xs:List Nat}:Cl fun w=>InX w a n c xs:=fun _ _ h kp=>h.keep kp
theorem Bo {P:Program} {w:World} {s t:TypeId} {k k0 k':IntKind} {a:Int} (hs:P.underlying s=some (.int k0)) (ht:P.underlying t=some (.int k')):(convert s t (.int k a)).run P w= .ok (.int k' (k'.wrap a)) w:=by
 unfold convert
 simp only [Sem.run_bind,run_underlying hs,run_underlying ht,Result.andThen_ok]
 rfl
theorem EH (a:Int):IntKind.u64.wrap a=a%18446744073709551616:=by simp[IntKind.wrap,IntKind.signed,IntKind.bits]
theorem OW (a:Int):IntKind.u32.wrap a=a%4294967296:=by simp[IntKind.wrap,IntKind.signed,IntKind.bits]
theorem Np {P:Program} {w:World} {s t:TypeId} {k k0:IntKind} {N:Nat} (hs:P.underlying s=some (.int k0)) (ht:P.underlying t=some (.int .u64)) (h0:0<N) (h1:N<=9223372036854775808):(convert s t (.int k (-((N:Nat):Int)))).run P w= .ok (.int .u64 (18446744073709551616-((N:Nat):Int))) w:=by
 rw[Bo hs ht,EH,show -((N:Nat):Int)%18446744073709551616=18446744073709551616-((N:Nat):Int) by omega]
theorem uw {P:Program} {w:World} {s t:TypeId} {k k0:IntKind} {N:Nat} (hs:P.underlying s=some (.int k0)) (ht:P.underlying t=some (.int .u32)):(convert s t (.int k ((N:Nat):Int))).run P w= .ok (.int .u32 ((N%4294967296:Nat):Int)) w:=by
 rw[Bo hs ht,OW,Int.natCast_emod];rfl
theorem OS {P:Program} {w:World} {N:Nat} (h0:0<N) (h1:N<=9223372036854775808):(Op.unary .neg (.int .u64 (18446744073709551616-((N:Nat):Int)))).run P w= .ok (.int .u64 ((N:Nat):Int)) w:=by
 show(Op.intArith .sub .u64 0 (18446744073709551616-((N:Nat):Int))).run P w=_
 simp only [Op.intArith]
 rw[EH,show(0-(18446744073709551616-((N:Nat):Int)))%18446744073709551616=((N:Nat):Int) by omega]
 rfl
theorem FY {P:Program} {w:World} {t:TypeId} {N:Nat}:(binOp .shr t (.int .u64 ((N:Nat):Int)) (.int .u64 32)).run P w= .ok (.int .u64 ((N/4294967296:Nat):Int)) w:=by
 have e:min ((32:Int).toNat) IntKind.u64.bits=32:=by simp[IntKind.bits]
 have h0:¬((32:Int)<0):=by omega
 simp only [binOp,Op.shift,if_neg h0,e]
 rw[Int.fdiv_eq_ediv_of_nonneg _ (by exact Int.le_of_lt (Int.pow_pos (by decide)))]
 rfl
theorem F5 (w:World) (x y:Nat) (hx:x<4294967296) (hy:y<4294967296):∃g w',(Instr.buildSlice 28 2 #[(0,.int .u32 ((x:Nat):Int)),(1,.int .u32 ((y:Nat):Int))]).run Tryz.prog w= .ok (.slice (some ⟨g,0,none⟩) 2 2) w'/\Below w.heap.size w w'/\InX w' (some ⟨g,0,none⟩) 2 2 [x,y]:=by
 have hb:=ec (w:=w) (cs:=[.int .u32 ((x:Nat):Int),.int .u32 ((y:Nat):Int)]) 167
 refine⟨w.heap.size,w.alloc (.cells #[.int .u32 ((x:Nat):Int),.int .u32 ((y:Nat):Int)] 167),?_,hb.2,rfl,⟨?_⟩,?_,Nat.le_refl _,by unfold maxLen;omega,fun h=>by cases h⟩
 ·have hs:=bh (P:=Tryz.prog) (T:=167) (n:=1) (by kernel_rfl) w
  simp[Instr.buildSlice,go_sem,hs,Instr.fill,Value.cells,newRow,run_underlying (P:=Tryz.prog) Tryz.underlying28]
 ·intro i hi
  refine⟨w.heap.size,0,rfl,hb.1.lt,?_⟩
  obtain⟨T,hh⟩:=hb.1
  rw[cell_of_row _ _ _ _ _ _ hh,List.getElem?_toArray]
  have hi':i<2:=hi
  match i,hi' with
  |0,_=>rfl
  |1,_=>rfl
 ·intro z hz
  rcases List.mem_cons.1 hz with rfl|hz
  ·exact hx
  ·rcases List.mem_cons.1 hz with rfl|hz
   ·exact hy
   ·cases hz
def tC (w:World) (b:Bool) (N:Nat):Ending->World->Prop:=fun e w'=>∃g,e= .returned (.agg #[.bool b,.slice (some ⟨g,0,none⟩) 2 2])/\InX w' (some ⟨g,0,none⟩) 2 2 [N%4294967296,N/4294967296]/\Below w.heap.size w w'
theorem Jj (b:Bool) (N:Nat):jX b [N%4294967296,N/4294967296] 2=sg b N:=by
 have e:vl B32 ([N%4294967296,N/4294967296].take 2)=N:=by
  show N%4294967296+4294967296*(N/4294967296+4294967296*0)=N
  have:=Nat.mod_add_div N 4294967296
  omega
 unfold jX;rw[e]
theorem Mo (N:Nat) (w:World) (h1:N<=9223372036854775807):
 CP 125 #[iv ((N:Nat):Int)] w (tC w false N):=by
 refine gs1 (nt:=19) Tryz.func125 rfl rfl rfl fun a st hF=>wq<|S.alloc st hF oK rfl rfl fun g2 w1 a st hF=>nq ?_
 refine oM hF 1 rfl rfl fun a hF=>oV hF (go hF.o (CF (k':= .u64) Tryz.underlying2 Tryz.underlying113 (Rb (by omega) (by omega)))) rfl fun a hF=>oA hF 0 rfl rfl fun a hF=>ns<|wq<|oM hF 4 rfl rfl fun a hF=>oT hF 0 (aY (c:=false) (aJ (by omega))) rfl rfl fun a hF=>E.nil<|wp_cond_false hF.o<|wp_skip<|E.norm<|wq<|oM hF 6 rfl rfl fun a hF=>oT hF 0 (aY (c:=false) (aJ (by omega))) rfl rfl fun a hF=>oM hF 4 rfl rfl fun a hF=>oV hF (go hF.o (uw (N:=N) Tryz.underlying113 Tryz.underlying167)) rfl fun a hF=>oM hF 6 rfl rfl fun a hF=>oV hF (aq hF.o ao aa FY) rfl fun a hF=>oV hF (go hF.o (uw (N:=N/4294967296) Tryz.underlying113 Tryz.underlying167)) rfl fun a hF=>?_
 obtain⟨gr,w2,hr,bb,hix⟩:=F5 w1 (N%4294967296) (N/4294967296%4294967296) (by omega) (by omega)
 refine oV hF (bO (gG (hF.at 3 rfl) hF.o) hr) rfl fun a hF=>?_
 clear hr
 replace st:=(st.to bb).add hix InX.cl
 clear bb hix
 refine oV hF (bn (gG (hF.at 6 rfl) hF.o) (xk _ _ _ _ _)) rfl fun a hF=>so st hF 0 14 0 oK rfl rfl rfl rfl fun w3 a st hF=>nr<|rs Tryz.results125 st hF 14 0 oK rfl rfl rfl ?_
 have bel:=st.bel
 have hix:=(st.f 0 rfl)
 exact⟨_,rfl,(by rw[show N/4294967296=N/4294967296%4294967296 from by omega];exact hix),bel⟩
theorem Lg (N:Nat) (w:World) (h0:0<N) (h1:N<=9223372036854775808):
 CP 125 #[iv (-((N:Nat):Int))] w (tC w true N):=by
 refine gs1 (nt:=19) Tryz.func125 rfl rfl rfl fun a st hF=>wq<|S.alloc st hF oK rfl rfl fun g2 w1 a st hF=>nq ?_
 refine oM hF 1 rfl rfl fun a hF=>oV hF (go hF.o (Np Tryz.underlying2 Tryz.underlying113 h0 h1)) rfl fun a hF=>oA hF 0 rfl rfl fun a hF=>ns<|wq<|oM hF 4 rfl rfl fun a hF=>oT hF 0 (aY (c:=true) (aI (by omega))) rfl rfl fun a hF=>E.nil<|wp_cond_true hF.o<|E.seq ?_
 refine oM hF 2 rfl rfl fun a hF=>oV hF (dF hF.o (OS h0 h1)) rfl fun a hF=>oE hF 0 rfl rfl fun a hF=>nq<|oM hF 8 rfl rfl fun a hF=>oT hF 0 (aY (c:=true) (aI (by omega))) rfl rfl fun a hF=>oM hF 2 rfl rfl fun a hF=>oV hF (go hF.o (uw (N:=N) Tryz.underlying113 Tryz.underlying167)) rfl fun a hF=>oM hF 4 rfl rfl fun a hF=>oV hF (aq hF.o ao aa FY) rfl fun a hF=>oV hF (go hF.o (uw (N:=N/4294967296) Tryz.underlying113 Tryz.underlying167)) rfl fun a hF=>?_
 obtain⟨gr,w2,hr,bb,hix⟩:=F5 w1 (N%4294967296) (N/4294967296%4294967296) (by omega) (by omega)
 refine oV hF (bO (gG (hF.at 3 rfl) hF.o) hr) rfl fun a hF=>?_
 clear hr
 replace st:=(st.to bb).add hix InX.cl
 clear bb hix
 refine oV hF (bn (gG (hF.at 6 rfl) hF.o) (xk _ _ _ _ _)) rfl fun a hF=>so st hF 0 16 0 oK rfl rfl rfl rfl fun w3 a st hF=>nr<|rs Tryz.results125 st hF 16 0 oK rfl rfl rfl ?_
 have bel:=st.bel
 have hix:=(st.f 0 rfl)
 exact⟨_,rfl,(by rw[show N/4294967296=N/4294967296%4294967296 from by omega];exact hix),bel⟩
theorem Cb (n:Int) (w:World) (h0: -9223372036854775808<=n) (h1:n<=9223372036854775807):CP 125 #[iv n] w (tC w (decide (n<0)) n.natAbs):=by
 by_cases h:n<0
 ·have:=Lg n.natAbs w (by omega) (by omega)
  rwa[show -((n.natAbs:Nat):Int)=n by omega,show true=decide (n<0) from(decide_eq_true h).symm] at this
 ·have:=Mo n.natAbs w (by omega)
  rwa[show((n.natAbs:Nat):Int)=n by omega,show false=decide (n<0) from(decide_eq_false h).symm] at this
theorem yD (n:Int):jX (decide (n<0)) [n.natAbs%4294967296,n.natAbs/4294967296] 2=n:=by rw[Jj,mU]
theorem BR (n d:Int) (w:World) (hn0: -9223372036854775808<=n) (hn1:n<=9223372036854775807) (hd0: -9223372036854775808<=d) (hd1:d<=9223372036854775807):
 CP 59 #[iv n,iv d] w (cf w (((n:Int):Rat)/((d:Int):Rat)) 2):=by
 have bel:Below w.heap.size w w:=Below.refl _ _
 refine go2 (nt:=11) Tryz.func59 rfl rfl rfl fun a hF=>wq ?_
 obtain⟨g4,w1,ge4,hr,bb,o4⟩:=eo (P:=Tryz.prog) (w:=w) (cs:=[.bool false,.slice none 0 0,.slice none 0 0]) 45 sC rfl (niB (niS (niS ni0)))
 replace ge4:w.heap.size<=g4:=by rw[<-ge4];exact bel.size
 refine oV hF (dP hr) rfl fun a hF=>?_
 clear hr
 replace bel:=aF bel bb
 clear bb
 refine nq<|oM hF 1 rfl rfl fun a hF=>?_
 refine E.call hF (rk J9 (aG hF.o)) (Cb n _ hn0 hn1) rfl rfl rfl rfl ?_
 rintro e w2 ⟨vv3,rfl,hh4,bb⟩
 refine⟨_,rfl,?_⟩
 intro a hF
 replace o4:=o4.below bb
 replace bel:=aF bel bb
 clear bb
 refine oM hF 4 rfl rfl fun a hF=>?_
 refine E.call hF (rk J9 (aG hF.o)) (Cb d _ hd0 hd1) rfl rfl rfl rfl ?_
 rintro e w5 ⟨vv6,rfl,hh7,bb⟩
 refine⟨_,rfl,?_⟩
 intro a hF
 replace hh4:=hh4.below bb
 replace o4:=o4.below bb
 replace bel:=aF bel bb
 clear bb
 refine oV hF (bn (gG hF.q hF.o) (Ea _ _ _ _ _ _ _ _ _)) rfl fun a hF=>?_
 refine E.call hF (rk Ry (aL hF.o ao)) (F1 (decide (n<0)) (some ⟨vv3,0,none⟩) 2 2 [Int.natAbs n%4294967296,Int.natAbs n/4294967296] (decide (d<0)) (some ⟨vv6,0,none⟩) 2 2 [Int.natAbs d%4294967296,Int.natAbs d/4294967296] 2 _ hh4 hh7 (by omega) (by omega)) rfl rfl rfl rfl ?_
 rintro e w8 ⟨vv9,rfl,hh10,bb⟩
 refine⟨_,rfl,?_⟩
 intro a hF
 replace o4:=o4.below bb
 replace bel:=aF bel bb
 clear bb
 obtain⟨b11,ad11,n11,c11,ae11,m11,d11,z11,D11,rfl,hn11,hd11,hD11,hq11,lz11,lD11⟩:=Rr.shape hh10
 have ha11:=hn11.abs
 obtain⟨w12,hr,tu,on⟩:=vS (vs:=[.bool b11,.slice ad11 n11 c11,.slice ae11 m11 d11]) o4 rfl rfl (ocB (ocS (ocS oc0))) (niB (niS (niS ni0))) (o:=0) rfl
 have kp:=tu.keep o4
 refine E.st hF (cT (hF.at 6 rfl) hF.o (hr _ rfl)) rfl rfl fun a hF=>?_
 clear hr
 replace hh10:=hh10.keep kp
 replace hn11:=hn11.keep kp
 replace ha11:=ha11.keep kp
 replace hd11:=hd11.keep kp
 replace bel:=tu.below bel ge4
 clear tu kp
 replace o4:=on
 clear on
 refine nr ?_
 refine bodyPost_ret (kN Tryz.results59 (hF.at 6 rfl) (ml (vs:=[.bool b11,.slice ad11 n11 c11,.slice ae11 m11 d11]) o4 rfl rfl)) hF.dfr ?_
 exact⟨_,rfl,Rr.cast hh10 (by rw[yD,yD]),bel⟩
end Go.Proofs.YtgdpkknapcgcbaaGreatDoor
