import Derived.Test.YtnljadejcfgmaaaGreatDoorKB33
import Derived.Laws.BytesString
import Derived.Laws.StructEq
namespace Go.Proofs.YtnljadejcfgmaaaGreatDoor
open Go.RowKit
set_option maxRecDepth 100000
set_option linter.unusedVariables false
set_option maxHeartbeats 8000000
theorem jE {k n:Int} (h:0<n):0≤k%n∧k%n<n:=⟨Int.emod_nonneg k (by omega),Int.emod_lt_of_pos k h⟩
theorem pK {k n:Int} (h:0<n): -n<(if 0≤k then k%n else -(-k%n))∧(if 0≤k then k%n else -(-k%n))<n:=by
 have a:=jE (k:=k) h
 have b:=jE (k:= -k) h
 split <;> omega
def inD (n:Int):Int:=if(if 0≤n then n%6000001 else -(-n%6000001))< -3000000 then(if 0≤n then n%6000001 else -(-n%6000001))+6000000+1 else if 3000000<(if 0≤n then n%6000001 else -(-n%6000001)) then(if 0≤n then n%6000001 else -(-n%6000001))-6000000-1 else(if 0≤n then n%6000001 else -(-n%6000001))
theorem xT (n:Int): -3000000≤inD n∧inD n≤3000000:=by
 unfold inD
 have:=pK (k:=n) (n:=6000001) (by decide)
 generalize (if 0≤n then n%6000001 else -(-n%6000001))=r at*
 split <;> (try split) <;> omega
theorem Ds (n:Int) (w:World):
 Calls Tryz.prog 14 #[.int .i64 n] w (aR w (.int .i64 (inD n))):=by
 have hrb:=pK (k:=n) (n:=6000001) (by decide)
 have st:=St.start w
 refine go1 (nt:=17) Tryz.func14 rfl rfl rfl fun a hF=>?_
 refine wq ?_
 refine oC hF rfl fun a hF=>?_
 refine nq ?_
 refine oM hF 1 rfl rfl fun a hF=>?_
 refine oV hF (aq (hF.at 0 rfl) ao ab (gG (a:=n) (b:=6000001) (by omega))) rfl fun a hF=>?_
 refine oA hF 0 rfl rfl fun a hF=>?_
 refine ns ?_
 refine wq ?_
 refine oM hF 0 rfl rfl fun a hF=>?_
 by_cases hc1:(if 0≤n then n%6000001 else -(-n%6000001))<(-3000000)
 ·refine oV hF (aq (hF.at 0 rfl) ao ab (aw (a6 (c:=true) (aU hc1)) (by simp))) rfl fun a hF=>?_
  refine E.nil ?_
  refine wp_cond_true (hF.at 0 rfl) ?_
  refine wq ?_
  refine oM hF 2 rfl rfl fun a hF=>?_
  refine oV hF (aq (hF.at 0 rfl) ao ab (bq (by omega) (by omega))) rfl fun a hF=>?_
  refine oV hF (aq (hF.at 0 rfl) ao ab (bq (by omega) (by omega))) rfl fun a hF=>?_
  refine oE hF 0 rfl rfl fun a hF=>?_
  refine nr ?_
  have bel:=st.bel
  refine rt Tryz.results14 hF 0 rfl ?_
  refine⟨cm ?_,bel⟩
  unfold inD
  rw[if_pos hc1]
 ·refine oV hF (aq (hF.at 0 rfl) ao ab (aw (a6 (c:=false) (aK hc1)) (by simp))) rfl fun a hF=>?_
  refine E.nil ?_
  refine wp_cond_false (hF.at 0 rfl) ?_
  refine wp_skip ?_
  refine E.norm ?_
  refine wp_seq ?_
  refine wq ?_
  refine oM hF 2 rfl rfl fun a hF=>?_
  by_cases hc2:3000000<(if 0≤n then n%6000001 else -(-n%6000001))
  ·refine oV hF (aq (hF.at 0 rfl) ao ab (aw (bS (c:=true) (aU hc2)) (by simp))) rfl fun a hF=>?_
   refine E.nil ?_
   refine wp_cond_true (hF.at 0 rfl) ?_
   refine wq ?_
   refine oM hF 4 rfl rfl fun a hF=>?_
   refine oV hF (aq (hF.at 0 rfl) ao ab (cv (by omega) (by omega))) rfl fun a hF=>?_
   refine oV hF (aq (hF.at 0 rfl) ao ab (cv (by omega) (by omega))) rfl fun a hF=>?_
   refine oE hF 0 rfl rfl fun a hF=>?_
   refine nr ?_
   have bel:=st.bel
   refine rt Tryz.results14 hF 0 rfl ?_
   refine⟨cm ?_,bel⟩
   unfold inD
   rw[if_neg hc1,if_pos hc2]
  ·refine oV hF (aq (hF.at 0 rfl) ao ab (aw (bS (c:=false) (aK hc2)) (by simp))) rfl fun a hF=>?_
   refine E.nil ?_
   refine wp_cond_false (hF.at 0 rfl) ?_
   refine wp_skip ?_
   refine E.norm ?_
   refine wq ?_
   refine oM hF 4 rfl rfl fun a hF=>?_
   refine oE hF 0 rfl rfl fun a hF=>?_
   refine nr ?_
   have bel:=st.bel
   refine rt Tryz.results14 hF 0 rfl ?_
   refine⟨cm ?_,bel⟩
   unfold inD
   rw[if_neg hc1,if_neg hc2]
theorem xQ:(Tryz.prog.info? 26).map (·.size)=some 4:=by kernel_rfl
theorem tw:(Tryz.prog.info? 26).bind (·.zero)=some (.agg #[.int .i64 0,.int .i64 0,.int .i64 0,.int .i64 0]):=by kernel_rfl
theorem Dy {w:World} {g o:Nat} {cs vs:List Value} (h:Blk w g cs) (hv:(cs.drop o).take 4=vs) (hl:vs.length=4):(Instr.loadAt 26 (.pointer (some ⟨g,o,none⟩))).run Tryz.prog w= .ok (.agg vs.toArray) w:=sk h hv hl Tryz.underlying26 rfl xQ
theorem lW {w:World} {g o p:Nat} (hp:o+0=p):(Instr.fieldAt 26 (.pointer (some ⟨g,o,none⟩)) 0).run Tryz.prog w= .ok (.pointer (some ⟨g,p,none⟩)) w:=bz Tryz.underlying26 rfl rfl dU rfl p hp
theorem l9 {w:World} {g o p:Nat} (hp:o+1=p):(Instr.fieldAt 26 (.pointer (some ⟨g,o,none⟩)) 1).run Tryz.prog w= .ok (.pointer (some ⟨g,p,none⟩)) w:=bz Tryz.underlying26 rfl rfl dU rfl p hp
theorem mc {w:World} {g o p:Nat} (hp:o+2=p):(Instr.fieldAt 26 (.pointer (some ⟨g,o,none⟩)) 2).run Tryz.prog w= .ok (.pointer (some ⟨g,p,none⟩)) w:=bz Tryz.underlying26 rfl rfl dU rfl p hp
theorem lR {w:World} {g o p:Nat} (hp:o+3=p):(Instr.fieldAt 26 (.pointer (some ⟨g,o,none⟩)) 3).run Tryz.prog w= .ok (.pointer (some ⟨g,p,none⟩)) w:=bz Tryz.underlying26 rfl rfl dU rfl p hp
theorem DB (w:World):(Instr.build 26 #[]).run Tryz.prog w= .ok (.agg #[.int .i64 0,.int .i64 0,.int .i64 0,.int .i64 0]) w:=by
 have hz:=cH tw w
 have h_i64:∀w,(sizeOf 2).run Tryz.prog w= .ok 1 w:=fun w=>bB dU w
 simp only [Instr.build,Sem.run_bind,hz,Result.andThen_ok,run_underlying Tryz.underlying26,List.mapM_toArray,List.mapM_cons,List.mapM_nil,Sem.run_map,h_i64,Sem.run_pure]
 rfl
theorem nZ (z00:Int) (z10:Int) (z20:Int) (z30:Int) (w:World):(Instr.build 26 #[(0,.int .i64 z00),(1,.int .i64 z10),(2,.int .i64 z20),(3,.int .i64 z30)]).run Tryz.prog w= .ok (.agg #[.int .i64 z00,.int .i64 z10,.int .i64 z20,.int .i64 z30]) w:=by
 have hz:=cH tw w
 have h_i64:∀w,(sizeOf 2).run Tryz.prog w= .ok 1 w:=fun w=>bB dU w
 simp only [Instr.build,Sem.run_bind,hz,Result.andThen_ok,run_underlying Tryz.underlying26,List.mapM_toArray,List.mapM_cons,List.mapM_nil,Sem.run_map,h_i64,Sem.run_pure]
 rfl
theorem be:Ty Tryz.prog 26 4 [.int .i64 0,.int .i64 0,.int .i64 0,.int .i64 0]:=⟨⟨_,Tryz.underlying26,rfl⟩,xQ,tw⟩
section
section
variable {P:Program} {ops:Array Oper} {Q:Exit→Act→World→Prop} {W w:World} {bs:List (Nat×List Value)} {fs:List (World→Prop)} {nt d:Nat} {L:List (Nat×Value)} {rest:List Oper} {a:Act} {T:TypeId} {x y:Operand} {v:Value} {cs vs zs:List Value} {g n:Nat} {ty:TypeId} {pos:String} {af:Array Edge}
end
end
def gB (y:Int):Int:=1+y%3600
def gA (m m2 x y:Int):Int:=x%(m2*gB y+1)-m*gB y
theorem lM (y:Int):1≤gB y∧gB y≤3600:=by unfold gB;omega
theorem Cp {m m2 x y:Int} (h:m2=2*m) (h0:0≤m): -(m*gB y)≤gA m m2 x y∧gA m m2 x y≤m*gB y:=by
 have b:=lM y
 have p:=Int.mul_nonneg h0 (show 0≤gB y by omega)
 have e:m2*gB y=2*(m*gB y):=by rw[h,Int.mul_assoc]
 unfold gA
 rw[e]
 have h1:=Int.emod_nonneg x (show 2*(m*gB y)+1≠0 by omega)
 have h2:=Int.emod_lt_of_pos x (show 0<2*(m*gB y)+1 by omega)
 omega
theorem pZ (x y:Int): -60*gB y≤gA 60 120 x y∧gA 60 120 x y≤60*gB y:=by
 have:=Cp (m:=60) (m2:=120) (x:=x) (y:=y) (by omega) (by omega);omega
theorem qg (x y:Int): -180*gB y≤gA 180 360 x y∧gA 180 360 x y≤180*gB y:=by
 have:=Cp (m:=180) (m2:=360) (x:=x) (y:=y) (by omega) (by omega);omega
theorem Dd {k n:Int} (h:0<n):(if 0≤(if 0≤k then k%n else -(-k%n))+n then((if 0≤k then k%n else -(-k%n))+n)%n else -(-((if 0≤k then k%n else -(-k%n))+n)%n))=k%n:=by
 have a:=pK (k:=k) h
 rw[if_pos (by omega),Int.add_emod_right]
 split
 ·exact Int.emod_emod_of_dvd k (Int.dvd_refl n)
 ·have e:=Int.emod_add_mul_ediv (-k) n
  have e2: -(-k%n)=k+n*(-k/n):=by omega
  rw[e2,Int.add_mul_emod_self_left]
theorem sd {k n:Int} (h:0<n) (h2:n≤1000000000): -9223372036854775808≤(if 0≤k then k%n else -(-k%n))+n∧(if 0≤k then k%n else -(-k%n))+n≤9223372036854775807:=by
 have a:=pK (k:=k) h;omega
def wiB (m n d:Int):Bool:=decide (1≤d∧d≤3600∧ -m*d≤n∧n≤m*d)
def plE (a b c d:Int):Int:=if wiB 60 a b=true∧wiB 180 c d=true then 0 else 2
theorem CZ {x c b:Rat} (hc:0<c) (h:x≤b*c):x/c≤b:=Rat.not_lt.1 fun q=>by rw[Rat.lt_div_iff hc] at q;grind
theorem Ct {x c b:Rat} (hc:0<c) (h:b*c≤x):b≤x/c:=Rat.not_lt.1 fun q=>by rw[Rat.div_lt_iff hc] at q;grind
theorem Fn {a b:Int} (h:1≤b) (h0: -60*b≤a) (h1:a≤60*b): -60≤((a:Int):Rat)/((b:Int):Rat)∧((a:Int):Rat)/((b:Int):Rat)≤60:=by
 have p:(0:Rat)<((b:Int):Rat):=Rat.intCast_pos.2 (by omega)
 have a0:((-60*b:Int):Rat)≤((a:Int):Rat):=Rat.intCast_le_intCast.2 h0
 have a1:((a:Int):Rat)≤((60*b:Int):Rat):=Rat.intCast_le_intCast.2 h1
 rw[Rat.intCast_mul] at a0 a1
 rw[show((-60:Int):Rat)= -60 from rfl] at a0
 rw[show((60:Int):Rat)=60 from rfl] at a1
 exact⟨Ct p (by grind),CZ p (by grind)⟩
theorem FR {a b:Int} (h:1≤b) (h0: -180*b≤a) (h1:a≤180*b): -180≤((a:Int):Rat)/((b:Int):Rat)∧((a:Int):Rat)/((b:Int):Rat)≤180:=by
 have p:(0:Rat)<((b:Int):Rat):=Rat.intCast_pos.2 (by omega)
 have a0:((-180*b:Int):Rat)≤((a:Int):Rat):=Rat.intCast_le_intCast.2 h0
 have a1:((a:Int):Rat)≤((180*b:Int):Rat):=Rat.intCast_le_intCast.2 h1
 rw[Rat.intCast_mul] at a0 a1
 rw[show((-180:Int):Rat)= -180 from rfl] at a0
 rw[show((180:Int):Rat)=180 from rfl] at a1
 exact⟨Ct p (by grind),CZ p (by grind)⟩
structure cj (a b c d:Int):Prop where
 b0:1≤b
 b1:b≤3600
 a0: -60*b≤a
 a1:a≤60*b
 d0:1≤d
 d1:d≤3600
 c0: -180*d≤c
 c1:c≤180*d
theorem nc (x y u v:Int):cj (gA 60 120 x y) (gB y) (gA 180 360 u v) (gB v):=⟨(lM y).1,(lM y).2,(pZ x y).1,(pZ x y).2,(lM v).1,(lM v).2,(qg u v).1,(qg u v).2⟩
theorem cj.la {a b c d:Int} (h:cj a b c d): -60≤((a:Int):Rat)/((b:Int):Rat)∧((a:Int):Rat)/((b:Int):Rat)≤60:=Fn h.b0 h.a0 h.a1
theorem cj.lo {a b c d:Int} (h:cj a b c d): -180≤((c:Int):Rat)/((d:Int):Rat)∧((c:Int):Rat)/((d:Int):Rat)≤180:=FR h.d0 h.c0 h.c1
theorem wQ {a:Act} {x0 x1 x2 x3:Operand} {u0 u1 u2 u3:Value} (h0:a.eval x0=u0) (h1:a.eval x1=u1) (h2:a.eval x2=u2) (h3:a.eval x3=u3):#[x0,x1,x2,x3].map a.eval=#[u0,u1,u2,u3]:=by simp[h0,h1,h2,h3]
theorem gc {n d:Int} (h0: -9223372036854775808≤n) (h1:n≤9223372036854775807) (g0: -9223372036854775808≤d) (g1:d≤9223372036854775807):au (((n:Int):Rat)/((d:Int):Rat)) 2:=(aJ (az h0 h1) (az g0 g1)).up 2 (by decide)
theorem pU (w:World):
 Calls Tryz.prog 51 #[] w (aR w (.agg #[.int .i64 463,.int .i64 20,.int .i64 45461,.int .i64 600])):=by
 have st:=St.start w
 refine go0 (nt:=2) Tryz.func51 rfl rfl fun a hF=>?_
 refine wq ?_
 refine S.alloc st hF be rfl rfl fun g0 w1 a st hF=>?_
 refine nq ?_
 refine oV hF (bh (xi ao ao ao ao) (nZ _ _ _ _ _)) rfl fun a hF=>?_
 refine S.stoI st hF 0 rfl (hF.at 1 rfl) (hF.at 0 rfl) be rfl rfl rfl fun w2 a st hF=>?_
 refine nr ?_
 refine rs Tryz.results51 st hF 1 0 be rfl rfl rfl ?_
 have bel:=st.bel
 exact⟨rfl,bel⟩
theorem rl (xa xb xc xd:Int) (w:World) (hxa0: -9223372036854775808≤xa) (hxa1:xa≤9223372036854775807) (hxb0: -9223372036854775808≤xb) (hxb1:xb≤9223372036854775807):
 Calls Tryz.prog 238 #[.agg #[.int .i64 xa,.int .i64 xb,.int .i64 xc,.int .i64 xd]] w (bl w (((xa:Int):Rat)/((xb:Int):Rat))):=by
 have st:=St.start w
 refine go1 (nt:=8) Tryz.func238 rfl rfl rfl fun a hF=>?_
 refine wq ?_
 refine bx st hF 0 rfl rfl fun g1 w1 a st hF=>?_
 refine S.alloc st hF ah rfl rfl fun g2 w2 a st hF=>?_
 refine nq ?_
 refine oV hF (aA (hF.at 1 rfl) (lW (p:=0) rfl)) rfl fun a hF=>?_
 refine oV hF (av (hF.at 0 rfl) (bF (v:= .int .i64 xa) (st.bk 1 rfl) rfl)) rfl fun a hF=>?_
 refine oV hF (aA (hF.at 3 rfl) (l9 (p:=1) rfl)) rfl fun a hF=>?_
 refine oV hF (av (hF.at 0 rfl) (bF (v:= .int .i64 xb) (st.bk 1 rfl) rfl)) rfl fun a hF=>?_
 refine ca st hF (rk B6 (aC (hF.at 2 rfl) (hF.at 0 rfl))) (bw (xa) (xb) _ hxa0 hxa1 hxb0 hxb1) (fun _ _ h=>h) Rq.cl rfl fun vv4 w3 a st hF=>?_
 obtain⟨r6,rfl⟩:=Rq.fo (st.f 0 rfl)
 refine so st hF 0 5 0 ah rfl rfl rfl rfl fun w7 a st hF=>?_
 refine nr ?_
 refine rs Tryz.results238 st hF 5 0 ah rfl rfl rfl ?_
 have bel:=st.bel
 exact⟨_,rfl,(st.f 0 rfl),bel⟩
theorem gp (xa xb xc xd:Int) (w:World) (hxc0: -9223372036854775808≤xc) (hxc1:xc≤9223372036854775807) (hxd0: -9223372036854775808≤xd) (hxd1:xd≤9223372036854775807):
 Calls Tryz.prog 203 #[.agg #[.int .i64 xa,.int .i64 xb,.int .i64 xc,.int .i64 xd]] w (bl w (((xc:Int):Rat)/((xd:Int):Rat))):=by
 have st:=St.start w
 refine go1 (nt:=8) Tryz.func203 rfl rfl rfl fun a hF=>?_
 refine wq ?_
 refine bx st hF 0 rfl rfl fun g1 w1 a st hF=>?_
 refine S.alloc st hF ah rfl rfl fun g2 w2 a st hF=>?_
 refine nq ?_
 refine oV hF (aA (hF.at 1 rfl) (mc (p:=2) rfl)) rfl fun a hF=>?_
 refine oV hF (av (hF.at 0 rfl) (bF (v:= .int .i64 xc) (st.bk 1 rfl) rfl)) rfl fun a hF=>?_
 refine oV hF (aA (hF.at 3 rfl) (lR (p:=3) rfl)) rfl fun a hF=>?_
 refine oV hF (av (hF.at 0 rfl) (bF (v:= .int .i64 xd) (st.bk 1 rfl) rfl)) rfl fun a hF=>?_
 refine ca st hF (rk B6 (aC (hF.at 2 rfl) (hF.at 0 rfl))) (bw (xc) (xd) _ hxc0 hxc1 hxd0 hxd1) (fun _ _ h=>h) Rq.cl rfl fun vv4 w3 a st hF=>?_
 obtain⟨r6,rfl⟩:=Rq.fo (st.f 0 rfl)
 refine so st hF 0 5 0 ah rfl rfl rfl rfl fun w7 a st hF=>?_
 refine nr ?_
 refine rs Tryz.results203 st hF 5 0 ah rfl rfl rfl ?_
 have bel:=st.bel
 exact⟨_,rfl,(st.f 0 rfl),bel⟩
theorem lZ (k n:Int) (w:World) (hn:0<n) (hn2:n≤1000000000):
 Calls Tryz.prog 113 #[.int .i64 k,.int .i64 n] w (aR w (.int .i64 (k%n))):=by
 have st:=St.start w
 refine go2 (nt:=12) Tryz.func113 rfl rfl rfl fun a hF=>?_
 refine wq ?_
 refine oC hF rfl fun a hF=>?_
 refine nq ?_
 refine oM hF 1 rfl rfl fun a hF=>?_
 refine oM hF 3 rfl rfl fun a hF=>?_
 refine oV hF (aq (hF.at 1 rfl) (hF.at 0 rfl) ab (gG (a:=k) (b:=n) hn)) rfl fun a hF=>?_
 refine oM hF 5 rfl rfl fun a hF=>?_
 refine oV hF (aq (hF.at 1 rfl) (hF.at 0 rfl) ab (bq (sd hn hn2).1 (sd hn hn2).2)) rfl fun a hF=>?_
 refine oM hF 7 rfl rfl fun a hF=>?_
 refine oV hF (aq (hF.at 1 rfl) (hF.at 0 rfl) ab (gG (a:=(if 0≤k then k%n else -(-k%n))+n) (b:=n) hn)) rfl fun a hF=>?_
 refine oE hF 0 rfl rfl fun a hF=>?_
 refine nr ?_
 have bel:=st.bel
 refine rt Tryz.results113 hF 0 rfl ?_
 exact⟨cm (Dd hn),bel⟩
theorem Cc (x y u v:Int) (w:World):
 Calls Tryz.prog 50 #[.int .i64 x,.int .i64 y,.int .i64 u,.int .i64 v] w (aR w (.agg #[.int .i64 (gA 60 120 x y),.int .i64 (gB y),.int .i64 (gA 180 360 u v),.int .i64 (gB v)])):=by
 have st:=St.start w
 refine E.enter (nt:=36) (L:=[(0,.int .i64 x),(1,.int .i64 y),(2,.int .i64 u),(3,.int .i64 v)]) Tryz.func50 rfl rfl rfl (a8 (i:=0) rfl (a8 (i:=1) rfl (a8 (i:=2) rfl (a8 (i:=3) rfl dY)))) ?_
 intro a hF
 refine wq ?_
 refine S.alloc st hF be rfl rfl fun g8 w1 a st hF=>?_
 refine nq ?_
 refine oM hF 2 rfl rfl fun a hF=>?_
 refine cX st hF (rk rv (aC (hF.at 0 rfl) ao)) (lZ y 3600 _ (by omega) (by omega)) rfl fun w2 a st hF=>?_
 have hib3142:=jE (k:=y) (n:=3600) (by omega)
 refine oV hF (aq ao (hF.at 0 rfl) ab (bq (by omega) (by omega))) rfl fun a hF=>?_
 refine oM hF 7 rfl rfl fun a hF=>?_
 refine cX st hF (rk rv (aC (hF.at 0 rfl) ao)) (lZ v 3600 _ (by omega) (by omega)) rfl fun w3 a st hF=>?_
 have hib446:=jE (k:=v) (n:=3600) (by omega)
 refine oV hF (aq ao (hF.at 0 rfl) ab (bq (by omega) (by omega))) rfl fun a hF=>?_
 refine oA hF 3 rfl rfl fun a hF=>?_
 refine oA hF 1 rfl rfl fun a hF=>?_
 refine nq ?_
 refine oM hF 9 rfl rfl fun a hF=>?_
 refine oM hF 2 rfl rfl fun a hF=>?_
 refine oV hF (aq ao (hF.at 0 rfl) ab (dZ (by omega) (by omega))) rfl fun a hF=>?_
 refine oV hF (aq (hF.at 0 rfl) ao ab (bq (by omega) (by omega))) rfl fun a hF=>?_
 refine cX st hF (rk rv (aC (hF.at 3 rfl) (hF.at 0 rfl))) (lZ x ((120*(1+(y%3600)))+1) _ (by omega) (by omega)) rfl fun w4 a st hF=>?_
 have hib545:=jE (k:=x) (n:=(120*(1+(y%3600)))+1) (by omega)
 refine oM hF 6 rfl rfl fun a hF=>?_
 refine oV hF (aq ao (hF.at 0 rfl) ab (dZ (by omega) (by omega))) rfl fun a hF=>?_
 refine oV hF (aq (hF.at 2 rfl) (hF.at 0 rfl) ab (cv (by omega) (by omega))) rfl fun a hF=>?_
 refine oM hF 9 rfl rfl fun a hF=>?_
 refine oM hF 20 rfl rfl fun a hF=>?_
 refine oM hF 10 rfl rfl fun a hF=>?_
 refine oV hF (aq ao (hF.at 0 rfl) ab (dZ (by omega) (by omega))) rfl fun a hF=>?_
 refine oV hF (aq (hF.at 0 rfl) ao ab (bq (by omega) (by omega))) rfl fun a hF=>?_
 refine cX st hF (rk rv (aC (hF.at 3 rfl) (hF.at 0 rfl))) (lZ u ((360*(1+(v%3600)))+1) _ (by omega) (by omega)) rfl fun w5 a st hF=>?_
 have hib8212:=jE (k:=u) (n:=(360*(1+(v%3600)))+1) (by omega)
 refine oM hF 14 rfl rfl fun a hF=>?_
 refine oV hF (aq ao (hF.at 0 rfl) ab (dZ (by omega) (by omega))) rfl fun a hF=>?_
 refine oV hF (aq (hF.at 2 rfl) (hF.at 0 rfl) ab (cv (by omega) (by omega))) rfl fun a hF=>?_
 refine oM hF 17 rfl rfl fun a hF=>?_
 refine oV hF (bh (xi (hF.at 10 rfl) (hF.at 9 rfl) (hF.at 1 rfl) (hF.at 0 rfl)) (nZ _ _ _ _ _)) rfl fun a hF=>?_
 refine S.stoI st hF 0 rfl (hF.at 27 rfl) (hF.at 0 rfl) be rfl rfl rfl fun w6 a st hF=>?_
 refine nr ?_
 refine rs Tryz.results50 st hF 27 0 be rfl rfl rfl ?_
 have bel:=st.bel
 exact⟨rfl,bel⟩
section
section
end
section
section
variable {P:Program} {w:World}
theorem Hu {a:Int} (h0:0≤a) (h1:a≤18446744073709551615):IntKind.u64.wrap a=a:=IntWalk.u64_in _ ⟨h0,h1⟩
theorem Dh {s t:TypeId} {k k0 k':IntKind} {a:Int} (hs:P.underlying s=some (.int k0)) (ht:P.underlying t=some (.int k')) (h:k'.wrap a=a):(convert s t (.int k a)).run P w= .ok (.int k' a) w:=by
 unfold convert
 simp only [Sem.run_bind,run_underlying hs,run_underlying ht,Result.andThen_ok]
 show(Conv.intToInt k' a).run P w=_
 unfold Conv.intToInt
 rw[h]
 rfl
end
end
section
end
section
end
section
section
variable {P:Program} {ops:Array Oper} {Q:Exit→Act→World→Prop}
end
section
variable {ops:Array Oper} {nt:Nat} {L:List (Nat×Value)} {rval:Nat→Value} {St:List Nat→World→Prop} {ys z1 z2:List Nat} {d:Nat→Bool} {a:Act} {w w':World}
end
end
section
end
section
end
section
end
end
theorem InX.cl {a:Option Addr} {n c:Nat} {xs:List Nat}:Cl fun w=>InX w a n c xs:=fun _ _ h kp=>h.keep kp
theorem vo {P:Program} {w:World} {s t:TypeId} {k k0 k':IntKind} {a:Int} (hs:P.underlying s=some (.int k0)) (ht:P.underlying t=some (.int k')):(convert s t (.int k a)).run P w= .ok (.int k' (k'.wrap a)) w:=by
 unfold convert
 simp only [Sem.run_bind,run_underlying hs,run_underlying ht,Result.andThen_ok]
 rfl
theorem yo (a:Int):IntKind.u64.wrap a=a%18446744073709551616:=by simp[IntKind.wrap,IntKind.signed,IntKind.bits]
theorem FN (a:Int):IntKind.u32.wrap a=a%4294967296:=by simp[IntKind.wrap,IntKind.signed,IntKind.bits]
theorem Dw {P:Program} {w:World} {s t:TypeId} {k k0:IntKind} {N:Nat} (hs:P.underlying s=some (.int k0)) (ht:P.underlying t=some (.int .u64)) (h0:0<N) (h1:N≤9223372036854775808):(convert s t (.int k (-((N:Nat):Int)))).run P w= .ok (.int .u64 (18446744073709551616-((N:Nat):Int))) w:=by
 rw[vo hs ht,yo,show -((N:Nat):Int)%18446744073709551616=18446744073709551616-((N:Nat):Int) by omega]
theorem pI {P:Program} {w:World} {s t:TypeId} {k k0:IntKind} {N:Nat} (hs:P.underlying s=some (.int k0)) (ht:P.underlying t=some (.int .u32)):(convert s t (.int k ((N:Nat):Int))).run P w= .ok (.int .u32 ((N%4294967296:Nat):Int)) w:=by
 rw[vo hs ht,FN,Int.natCast_emod];rfl
theorem F4 {P:Program} {w:World} {N:Nat} (h0:0<N) (h1:N≤9223372036854775808):(Op.unary .neg (.int .u64 (18446744073709551616-((N:Nat):Int)))).run P w= .ok (.int .u64 ((N:Nat):Int)) w:=by
 show(Op.intArith .sub .u64 0 (18446744073709551616-((N:Nat):Int))).run P w=_
 simp only [Op.intArith]
 rw[yo,show(0-(18446744073709551616-((N:Nat):Int)))%18446744073709551616=((N:Nat):Int) by omega]
 rfl
theorem yq {P:Program} {w:World} {t:TypeId} {N:Nat}:(binOp .shr t (.int .u64 ((N:Nat):Int)) (.int .u64 32)).run P w= .ok (.int .u64 ((N/4294967296:Nat):Int)) w:=by
 have e:min ((32:Int).toNat) IntKind.u64.bits=32:=by simp[IntKind.bits]
 have h0:¬((32:Int)<0):=by omega
 simp only [binOp,Op.shift,if_neg h0,e]
 rw[Int.fdiv_eq_ediv_of_nonneg _ (by exact Int.le_of_lt (Int.pow_pos (by decide)))]
 rfl
theorem y9 (w:World) (x y:Nat) (hx:x<4294967296) (hy:y<4294967296):∃g w',(Instr.buildSlice 28 2 #[(0,.int .u32 ((x:Nat):Int)),(1,.int .u32 ((y:Nat):Int))]).run Tryz.prog w= .ok (.slice (some ⟨g,0,none⟩) 2 2) w'∧Below w.heap.size w w'∧InX w' (some ⟨g,0,none⟩) 2 2 [x,y]:=by
 have hb:=iq (w:=w) (cs:=[.int .u32 ((x:Nat):Int),.int .u32 ((y:Nat):Int)]) 146
 refine⟨w.heap.size,w.alloc (.cells #[.int .u32 ((x:Nat):Int),.int .u32 ((y:Nat):Int)] 146),?_,hb.2,rfl,⟨?_⟩,?_,Nat.le_refl _,by unfold maxLen;omega,fun h=>by cases h⟩
 ·have hs:=bB (P:=Tryz.prog) (T:=146) (n:=1) (by kernel_rfl) w
  simp[Instr.buildSlice,go_sem,hs,Instr.fill,Value.cells,newRow,run_underlying (P:=Tryz.prog) Tryz.underlying28]
 ·intro i hi
  refine⟨w.heap.size,0,rfl,hb.1.lt,?_⟩
  obtain⟨T,hh⟩:=hb.1
  rw[cell_of_row _ _ _ _ _ _ hh,List.getElem?_toArray]
  have hi':i<2:=hi
  match i,hi' with
  |0,_=>rfl
  |1,_=>rfl
 ·intro z hz
  rcases List.mem_cons.1 hz with rfl|hz
  ·exact hx
  ·rcases List.mem_cons.1 hz with rfl|hz
   ·exact hy
   ·cases hz
def oO (w:World) (b:Bool) (N:Nat):Ending→World→Prop:=fun e w'=>∃g,e= .returned (.agg #[.bool b,.slice (some ⟨g,0,none⟩) 2 2])∧InX w' (some ⟨g,0,none⟩) 2 2 [N%4294967296,N/4294967296]∧Below w.heap.size w w'
theorem Bk (b:Bool) (N:Nat):hO b [N%4294967296,N/4294967296] 2=sg b N:=by
 have e:vl B32 ([N%4294967296,N/4294967296].take 2)=N:=by
  show N%4294967296+4294967296*(N/4294967296+4294967296*0)=N
  have:=Nat.mod_add_div N 4294967296
  omega
 unfold hO;rw[e]
theorem Ex (N:Nat) (w:World) (h1:N≤9223372036854775807):
 Calls Tryz.prog 129 #[.int .i64 ((N:Nat):Int)] w (oO w false N):=by
 have st:=St.start w
 refine go1 (nt:=19) Tryz.func129 rfl rfl rfl fun a hF=>?_
 refine wq ?_
 refine S.alloc st hF ln rfl rfl fun g2 w1 a st hF=>?_
 refine nq ?_
 refine oM hF 1 rfl rfl fun a hF=>?_
 refine oV hF (fX (hF.at 0 rfl) (Dh (k':= .u64) Tryz.underlying2 Tryz.underlying103 (Hu (by omega) (by omega)))) rfl fun a hF=>?_
 refine oA hF 0 rfl rfl fun a hF=>?_
 refine ns ?_
 refine wq ?_
 refine oM hF 4 rfl rfl fun a hF=>?_
 refine oV hF (aq (hF.at 0 rfl) ao ab (aw (a6 (c:=false) (aK (by omega))) (by simp))) rfl fun a hF=>?_
 refine E.nil ?_
 refine wp_cond_false (hF.at 0 rfl) ?_
 refine wp_skip ?_
 refine E.norm ?_
 refine wq ?_
 refine oM hF 6 rfl rfl fun a hF=>?_
 refine oV hF (aq (hF.at 0 rfl) ao ab (aw (a6 (c:=false) (aK (by omega))) (by simp))) rfl fun a hF=>?_
 refine oM hF 4 rfl rfl fun a hF=>?_
 refine oV hF (fX (hF.at 0 rfl) (pI (N:=N) Tryz.underlying103 Tryz.underlying146)) rfl fun a hF=>?_
 refine oM hF 6 rfl rfl fun a hF=>?_
 refine oV hF (aq (hF.at 0 rfl) ao ab yq) rfl fun a hF=>?_
 refine oV hF (fX (hF.at 0 rfl) (pI (N:=N/4294967296) Tryz.underlying103 Tryz.underlying146)) rfl fun a hF=>?_
 obtain⟨gr,w2,hr,bb,hix⟩:=y9 w1 (N%4294967296) (N/4294967296%4294967296) (by omega) (by omega)
 refine oV hF (cY (eL (hF.at 3 rfl) (hF.at 0 rfl)) hr) rfl fun a hF=>?_
 clear hr
 replace st:=(st.to bb).add hix InX.cl
 clear bb hix
 refine oV hF (bh (eL (hF.at 6 rfl) (hF.at 0 rfl)) (qE _ _ _ _ _)) rfl fun a hF=>?_
 refine so st hF 0 14 0 ln rfl rfl rfl rfl fun w3 a st hF=>?_
 refine nr ?_
 refine rs Tryz.results129 st hF 14 0 ln rfl rfl rfl ?_
 have bel:=st.bel
 have hix:=(st.f 0 rfl)
 exact⟨_,rfl,(by rw[show N/4294967296=N/4294967296%4294967296 from by omega];exact hix),bel⟩
theorem ED (N:Nat) (w:World) (h0:0<N) (h1:N≤9223372036854775808):
 Calls Tryz.prog 129 #[.int .i64 (-((N:Nat):Int))] w (oO w true N):=by
 have st:=St.start w
 refine go1 (nt:=19) Tryz.func129 rfl rfl rfl fun a hF=>?_
 refine wq ?_
 refine S.alloc st hF ln rfl rfl fun g2 w1 a st hF=>?_
 refine nq ?_
 refine oM hF 1 rfl rfl fun a hF=>?_
 refine oV hF (fX (hF.at 0 rfl) (Dw Tryz.underlying2 Tryz.underlying103 h0 h1)) rfl fun a hF=>?_
 refine oA hF 0 rfl rfl fun a hF=>?_
 refine ns ?_
 refine wq ?_
 refine oM hF 4 rfl rfl fun a hF=>?_
 refine oV hF (aq (hF.at 0 rfl) ao ab (aw (a6 (c:=true) (aU (by omega))) (by simp))) rfl fun a hF=>?_
 refine E.nil ?_
 refine wp_cond_true (hF.at 0 rfl) ?_
 refine E.seq ?_
 refine oM hF 2 rfl rfl fun a hF=>?_
 refine oV hF (fi (hF.at 0 rfl) (F4 h0 h1)) rfl fun a hF=>?_
 refine oE hF 0 rfl rfl fun a hF=>?_
 refine nq ?_
 refine oM hF 8 rfl rfl fun a hF=>?_
 refine oV hF (aq (hF.at 0 rfl) ao ab (aw (a6 (c:=true) (aU (by omega))) (by simp))) rfl fun a hF=>?_
 refine oM hF 2 rfl rfl fun a hF=>?_
 refine oV hF (fX (hF.at 0 rfl) (pI (N:=N) Tryz.underlying103 Tryz.underlying146)) rfl fun a hF=>?_
 refine oM hF 4 rfl rfl fun a hF=>?_
 refine oV hF (aq (hF.at 0 rfl) ao ab yq) rfl fun a hF=>?_
 refine oV hF (fX (hF.at 0 rfl) (pI (N:=N/4294967296) Tryz.underlying103 Tryz.underlying146)) rfl fun a hF=>?_
 obtain⟨gr,w2,hr,bb,hix⟩:=y9 w1 (N%4294967296) (N/4294967296%4294967296) (by omega) (by omega)
 refine oV hF (cY (eL (hF.at 3 rfl) (hF.at 0 rfl)) hr) rfl fun a hF=>?_
 clear hr
 replace st:=(st.to bb).add hix InX.cl
 clear bb hix
 refine oV hF (bh (eL (hF.at 6 rfl) (hF.at 0 rfl)) (qE _ _ _ _ _)) rfl fun a hF=>?_
 refine so st hF 0 16 0 ln rfl rfl rfl rfl fun w3 a st hF=>?_
 refine nr ?_
 refine rs Tryz.results129 st hF 16 0 ln rfl rfl rfl ?_
 have bel:=st.bel
 have hix:=(st.f 0 rfl)
 exact⟨_,rfl,(by rw[show N/4294967296=N/4294967296%4294967296 from by omega];exact hix),bel⟩
theorem vd (n:Int) (w:World) (h0: -9223372036854775808≤n) (h1:n≤9223372036854775807):Calls Tryz.prog 129 #[.int .i64 n] w (oO w (decide (n<0)) n.natAbs):=by
 by_cases h:n<0
 ·have:=ED n.natAbs w (by omega) (by omega)
  rwa[show -((n.natAbs:Nat):Int)=n by omega,show true=decide (n<0) from(decide_eq_true h).symm] at this
 ·have:=Ex n.natAbs w (by omega)
  rwa[show((n.natAbs:Nat):Int)=n by omega,show false=decide (n<0) from(decide_eq_false h).symm] at this
theorem th (n:Int):hO (decide (n<0)) [n.natAbs%4294967296,n.natAbs/4294967296] 2=n:=by rw[Bk,k5]
theorem nM (n d:Int) (w:World) (hn0: -9223372036854775808≤n) (hn1:n≤9223372036854775807) (hd0: -9223372036854775808≤d) (hd1:d≤9223372036854775807):
 Calls Tryz.prog 64 #[.int .i64 n,.int .i64 d] w (bK w (((n:Int):Rat)/((d:Int):Rat)) 2):=by
 have bel:Below w.heap.size w w:=Below.refl _ _
 refine go2 (nt:=11) Tryz.func64 rfl rfl rfl fun a hF=>?_
 refine wq ?_
 obtain⟨g4,w1,ge4,hr,bb,o4⟩:=bP (P:=Tryz.prog) (w:=w) (cs:=[.bool false,.slice none 0 0,.slice none 0 0]) 40 nH rfl (niB (niS (niS ni0)))
 replace ge4:w.heap.size≤g4:=by rw[←ge4];exact bel.size
 refine oV hF (cf hr) rfl fun a hF=>?_
 clear hr
 replace bel:=ar bel bb
 clear bb
 refine nq ?_
 refine oM hF 1 rfl rfl fun a hF=>?_
 refine E.call hF (rk Cx (aI (hF.at 0 rfl))) (vd n _ hn0 hn1) rfl rfl rfl rfl ?_
 rintro e w2 ⟨vv3,rfl,hh4,bb⟩
 refine⟨_,rfl,?_⟩
 intro a hF
 replace o4:=o4.below bb
 replace bel:=ar bel bb
 clear bb
 refine oM hF 4 rfl rfl fun a hF=>?_
 refine E.call hF (rk Cx (aI (hF.at 0 rfl))) (vd d _ hd0 hd1) rfl rfl rfl rfl ?_
 rintro e w5 ⟨vv6,rfl,hh7,bb⟩
 refine⟨_,rfl,?_⟩
 intro a hF
 replace hh4:=hh4.below bb
 replace o4:=o4.below bb
 replace bel:=ar bel bb
 clear bb
 refine oV hF (bh (eL (hF.at 2 rfl) (hF.at 0 rfl)) (wA _ _ _ _ _ _ _ _ _)) rfl fun a hF=>?_
 refine E.call hF (rk HJ (aC (hF.at 0 rfl) ao)) (yD (decide (n<0)) (some ⟨vv3,0,none⟩) 2 2 [Int.natAbs n%4294967296,Int.natAbs n/4294967296] (decide (d<0)) (some ⟨vv6,0,none⟩) 2 2 [Int.natAbs d%4294967296,Int.natAbs d/4294967296] 2 _ hh4 hh7 (by omega) (by omega)) rfl rfl rfl rfl ?_
 rintro e w8 ⟨vv9,rfl,hh10,bb⟩
 refine⟨_,rfl,?_⟩
 intro a hF
 replace o4:=o4.below bb
 replace bel:=ar bel bb
 clear bb
 obtain⟨b11,ad11,n11,c11,ae11,m11,d11,z11,D11,rfl,hn11,hd11,hD11,hq11,lz11,lD11⟩:=Rr.shape hh10
 have ha11:=hn11.abs
 obtain⟨w12,hr,tu,on⟩:=pW (vs:=[.bool b11,.slice ad11 n11 c11,.slice ae11 m11 d11]) o4 rfl rfl (ocB (ocS (ocS oc0))) (niB (niS (niS ni0))) (o:=0) rfl
 have kp:=tu.keep o4
 refine E.st hF (cd (hF.at 6 rfl) (hF.at 0 rfl) (hr _ rfl)) rfl rfl fun a hF=>?_
 clear hr
 replace hh10:=hh10.keep kp
 replace hn11:=hn11.keep kp
 replace ha11:=ha11.keep kp
 replace hd11:=hd11.keep kp
 replace bel:=tu.below bel ge4
 clear tu kp
 replace o4:=on
 clear on
 refine nr ?_
 refine bodyPost_ret (fU Tryz.results64 (hF.at 6 rfl) (gV (vs:=[.bool b11,.slice ad11 n11 c11,.slice ae11 m11 d11]) o4 rfl rfl)) hF.dfr ?_
 exact⟨_,rfl,Rr.cast hh10 (by rw[th,th]),bel⟩
end Go.Proofs.YtnljadejcfgmaaaGreatDoor
