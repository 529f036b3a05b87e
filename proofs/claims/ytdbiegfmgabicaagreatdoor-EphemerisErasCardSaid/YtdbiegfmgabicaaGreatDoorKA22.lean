import Derived.Test.YtdbiegfmgabicaaGreatDoorKA20
namespace Go.Proofs.YtdbiegfmgabicaaGreatDoor
open Go.RowKit
set_option maxRecDepth 100000
set_option linter.unusedVariables false
set_option maxHeartbeats 8000000
theorem kr {k n:Int} (h:0<n):0≤k%n∧k%n<n:=⟨Int.emod_nonneg k (by omega),Int.emod_lt_of_pos k h⟩
theorem mA {k n:Int} (h:0<n): -n<(if 0≤k then k%n else -(-k%n))∧(if 0≤k then k%n else -(-k%n))<n:=by
 have a:=kr (k:=k) h
 have b:=kr (k:= -k) h
 split <;> omega
def inD (n:Int):Int:=if(if 0≤n then n%6000001 else -(-n%6000001))< -3000000 then(if 0≤n then n%6000001 else -(-n%6000001))+6000000+1 else if 3000000<(if 0≤n then n%6000001 else -(-n%6000001)) then(if 0≤n then n%6000001 else -(-n%6000001))-6000000-1 else(if 0≤n then n%6000001 else -(-n%6000001))
theorem oH (n:Int): -3000000≤inD n∧inD n≤3000000:=by
 unfold inD
 have:=mA (k:=n) (n:=6000001) (by decide)
 generalize (if 0≤n then n%6000001 else -(-n%6000001))=r at*
 split <;> (try split) <;> omega
theorem Ji (n:Int) (w:World):
 Calls Tryz.prog 10 #[.int .i64 n] w (aG w (.int .i64 (inD n))):=by
 have hrb:=mA (k:=n) (n:=6000001) (by decide)
 have st:=St.start w
 refine go1 (nt:=17) Tryz.func10 rfl rfl rfl fun a hF=>?_
 refine wq ?_
 refine oC hF rfl fun a hF=>nq ?_
 refine oM hF 1 rfl rfl fun a hF=>oV hF (aq hF.o ar ab (gT (a:=n) (b:=6000001) (by omega))) rfl fun a hF=>oA hF 0 rfl rfl fun a hF=>ns ?_
 refine wq ?_
 refine oM hF 0 rfl rfl fun a hF=>?_
 by_cases hc1:(if 0≤n then n%6000001 else -(-n%6000001))<(-3000000)
 ·refine oT hF 0 (bM (c:=true) (aL hc1)) rfl rfl fun a hF=>?_
  refine E.nil ?_
  refine wp_cond_true hF.o ?_
  refine wq ?_
  refine oM hF 2 rfl rfl fun a hF=>oV hF (aq hF.o ar ab (bj (by omega) (by omega))) rfl fun a hF=>oV hF (aq hF.o ar ab (bj (by omega) (by omega))) rfl fun a hF=>oE hF 0 rfl rfl fun a hF=>nr ?_
  have bel:=st.bel
  refine rt Tryz.results10 hF 0 rfl ?_
  refine⟨bS ?_,bel⟩
  unfold inD
  rw[if_pos hc1]
 ·refine oT hF 0 (bM (c:=false) (aV hc1)) rfl rfl fun a hF=>?_
  refine E.nil ?_
  refine wp_cond_false hF.o ?_
  refine wp_skip ?_
  refine E.norm ?_
  refine wp_seq ?_
  refine wq ?_
  refine oM hF 2 rfl rfl fun a hF=>?_
  by_cases hc2:3000000<(if 0≤n then n%6000001 else -(-n%6000001))
  ·refine oT hF 0 (db (c:=true) (aL hc2)) rfl rfl fun a hF=>?_
   refine E.nil ?_
   refine wp_cond_true hF.o ?_
   refine wq ?_
   refine oM hF 4 rfl rfl fun a hF=>oV hF (aq hF.o ar ab (bN (by omega) (by omega))) rfl fun a hF=>oV hF (aq hF.o ar ab (bN (by omega) (by omega))) rfl fun a hF=>oE hF 0 rfl rfl fun a hF=>nr ?_
   have bel:=st.bel
   refine rt Tryz.results10 hF 0 rfl ?_
   refine⟨bS ?_,bel⟩
   unfold inD
   rw[if_neg hc1,if_pos hc2]
  ·refine oT hF 0 (db (c:=false) (aV hc2)) rfl rfl fun a hF=>?_
   refine E.nil ?_
   refine wp_cond_false hF.o ?_
   refine wp_skip ?_
   refine E.norm ?_
   refine wq ?_
   refine oM hF 4 rfl rfl fun a hF=>oE hF 0 rfl rfl fun a hF=>nr ?_
   have bel:=st.bel
   refine rt Tryz.results10 hF 0 rfl ?_
   refine⟨bS ?_,bel⟩
   unfold inD
   rw[if_neg hc1,if_neg hc2]
theorem C7:(Tryz.prog.info? 26).map (·.size)=some 4:=by kernel_rfl
theorem vw:(Tryz.prog.info? 26).bind (·.zero)=some (.agg #[.int .i64 0,.int .i64 0,.int .i64 0,.int .i64 0]):=by kernel_rfl
theorem Jh {w:World} {g o:Nat} {cs vs:List Value} (h:Blk w g cs) (hv:(cs.drop o).take 4=vs) (hl:vs.length=4):(Instr.loadAt 26 (.pointer (some ⟨g,o,none⟩))).run Tryz.prog w= .ok (.agg vs.toArray) w:=xo h hv hl Tryz.underlying26 rfl C7
theorem gn {w:World} {g o p:Nat} (hp:o+0=p):(Instr.fieldAt 26 (.pointer (some ⟨g,o,none⟩)) 0).run Tryz.prog w= .ok (.pointer (some ⟨g,p,none⟩)) w:=br Tryz.underlying26 rfl rfl cM rfl p hp
theorem q9 {w:World} {g o p:Nat} (hp:o+1=p):(Instr.fieldAt 26 (.pointer (some ⟨g,o,none⟩)) 1).run Tryz.prog w= .ok (.pointer (some ⟨g,p,none⟩)) w:=br Tryz.underlying26 rfl rfl cM rfl p hp
theorem gv {w:World} {g o p:Nat} (hp:o+2=p):(Instr.fieldAt 26 (.pointer (some ⟨g,o,none⟩)) 2).run Tryz.prog w= .ok (.pointer (some ⟨g,p,none⟩)) w:=br Tryz.underlying26 rfl rfl cM rfl p hp
theorem qA {w:World} {g o p:Nat} (hp:o+3=p):(Instr.fieldAt 26 (.pointer (some ⟨g,o,none⟩)) 3).run Tryz.prog w= .ok (.pointer (some ⟨g,p,none⟩)) w:=br Tryz.underlying26 rfl rfl cM rfl p hp
theorem pZ (z00:Int) (z10:Int) (z20:Int) (z30:Int) (w:World):(Instr.build 26 #[(0,.int .i64 z00),(1,.int .i64 z10),(2,.int .i64 z20),(3,.int .i64 z30)]).run Tryz.prog w= .ok (.agg #[.int .i64 z00,.int .i64 z10,.int .i64 z20,.int .i64 z30]) w:=by
 have hz:=cI vw w
 have h_i64:∀w,(sizeOf 2).run Tryz.prog w= .ok 1 w:=fun w=>bn cM w
 simp only [Instr.build,Sem.run_bind,hz,Result.andThen_ok,run_underlying Tryz.underlying26,List.mapM_toArray,List.mapM_cons,List.mapM_nil,Sem.run_map,h_i64,Sem.run_pure]
 rfl
theorem aZ:Ty Tryz.prog 26 4 [.int .i64 0,.int .i64 0,.int .i64 0,.int .i64 0]:=⟨⟨_,Tryz.underlying26,rfl⟩,C7,vw⟩
section
section
variable {P:Program} {ops:Array Oper} {Q:Exit→Act→World→Prop} {W w:World} {bs:List (Nat×List Value)} {fs:List (World→Prop)} {nt d:Nat} {L:List (Nat×Value)} {rest:List Oper} {a:Act} {T:TypeId} {x y:Operand} {v:Value} {cs vs zs:List Value} {g n:Nat} {ty:TypeId} {pos:String} {af:Array Edge}
theorem S.stooI {o:Nat} {ws:List Value} (st:St W w bs fs) (hF:Fr nt a L) (i:Nat) (hb:bs[i]?=some (g,cs)) (he:a.eval x= .pointer (some ⟨g,o,none⟩)) (hv:a.eval y=v) (hcv:v.cells=vs.toArray) (hT:(P.info? T).map (·.size)=some n) (hl:vs.length=n) (ho:Nat.ble (o+n) cs.length=true) (hc':vs.all lM=true) (hw:cs.take o++vs++cs.drop (o+n)=ws)
 (k:∀w' a',St W w' (bs.set i (g,ws)) []→Fr nt a' L→wpS P ops Q rest a' w'):wpS P ops Q (⟨none,.store T x y,ty,pos,af,none⟩::rest) a w:=by
 obtain⟨w1,hr,tu,on⟩:=lP (P:=P) (o:=o) (ws:=ws) (st.bk i hb) hT hl ho (lM.oc hc') hw
 exact E.st hF (df he hv (hr _ hcv)) rfl rfl fun a' hF'=>k w1 a' (st.setI i hb tu on) hF'
end
end
def gB (y:Int):Int:=1+y%3600
def gA (m m2 x y:Int):Int:=x%(m2*gB y+1)-m*gB y
theorem mX (y:Int):1≤gB y∧gB y≤3600:=by unfold gB;omega
theorem Ge {m m2 x y:Int} (h:m2=2*m) (h0:0≤m): -(m*gB y)≤gA m m2 x y∧gA m m2 x y≤m*gB y:=by
 have b:=mX y
 have p:=Int.mul_nonneg h0 (show 0≤gB y by omega)
 have e:m2*gB y=2*(m*gB y):=by rw[h,Int.mul_assoc]
 unfold gA
 rw[e]
 have h1:=Int.emod_nonneg x (show 2*(m*gB y)+1≠0 by omega)
 have h2:=Int.emod_lt_of_pos x (show 0<2*(m*gB y)+1 by omega)
 omega
theorem sY (x y:Int): -60*gB y≤gA 60 120 x y∧gA 60 120 x y≤60*gB y:=by
 have:=Ge (m:=60) (m2:=120) (x:=x) (y:=y) (by omega) (by omega);omega
theorem sG (x y:Int): -180*gB y≤gA 180 360 x y∧gA 180 360 x y≤180*gB y:=by
 have:=Ge (m:=180) (m2:=360) (x:=x) (y:=y) (by omega) (by omega);omega
theorem Hm {k n:Int} (h:0<n):(if 0≤(if 0≤k then k%n else -(-k%n))+n then((if 0≤k then k%n else -(-k%n))+n)%n else -(-((if 0≤k then k%n else -(-k%n))+n)%n))=k%n:=by
 have a:=mA (k:=k) h
 rw[if_pos (by omega),Int.add_emod_right]
 split
 ·exact Int.emod_emod_of_dvd k (Int.dvd_refl n)
 ·have e:=Int.emod_add_mul_ediv (-k) n
  have e2: -(-k%n)=k+n*(-k/n):=by omega
  rw[e2,Int.add_mul_emod_self_left]
theorem xm {k n:Int} (h:0<n) (h2:n≤1000000000): -9223372036854775808≤(if 0≤k then k%n else -(-k%n))+n∧(if 0≤k then k%n else -(-k%n))+n≤9223372036854775807:=by
 have a:=mA (k:=k) h;omega
def wiB (m n d:Int):Bool:=decide (1≤d∧d≤3600∧ -m*d≤n∧n≤m*d)
def plE (a b c d:Int):Int:=if wiB 60 a b=true∧wiB 180 c d=true then 0 else 2
theorem Cx {m n d:Int} (h:wiB m n d=true):1≤d∧d≤3600∧ -m*d≤n∧n≤m*d:=of_decide_eq_true h
theorem G3 {x c b:Rat} (hc:0<c) (h:x≤b*c):x/c≤b:=Rat.not_lt.1 fun q=>by rw[Rat.lt_div_iff hc] at q;grind
theorem Gn {x c b:Rat} (hc:0<c) (h:b*c≤x):b≤x/c:=Rat.not_lt.1 fun q=>by rw[Rat.div_lt_iff hc] at q;grind
theorem KY {a b:Int} (h:1≤b) (h0: -60*b≤a) (h1:a≤60*b): -60≤((a:Int):Rat)/((b:Int):Rat)∧((a:Int):Rat)/((b:Int):Rat)≤60:=by
 have p:(0:Rat)<((b:Int):Rat):=Rat.intCast_pos.2 (by omega)
 have a0:((-60*b:Int):Rat)≤((a:Int):Rat):=Rat.intCast_le_intCast.2 h0
 have a1:((a:Int):Rat)≤((60*b:Int):Rat):=Rat.intCast_le_intCast.2 h1
 rw[Rat.intCast_mul] at a0 a1
 rw[show((-60:Int):Rat)= -60 from rfl] at a0
 rw[show((60:Int):Rat)=60 from rfl] at a1
 exact⟨Gn p (by grind),G3 p (by grind)⟩
theorem Kj {a b:Int} (h:1≤b) (h0: -180*b≤a) (h1:a≤180*b): -180≤((a:Int):Rat)/((b:Int):Rat)∧((a:Int):Rat)/((b:Int):Rat)≤180:=by
 have p:(0:Rat)<((b:Int):Rat):=Rat.intCast_pos.2 (by omega)
 have a0:((-180*b:Int):Rat)≤((a:Int):Rat):=Rat.intCast_le_intCast.2 h0
 have a1:((a:Int):Rat)≤((180*b:Int):Rat):=Rat.intCast_le_intCast.2 h1
 rw[Rat.intCast_mul] at a0 a1
 rw[show((-180:Int):Rat)= -180 from rfl] at a0
 rw[show((180:Int):Rat)=180 from rfl] at a1
 exact⟨Gn p (by grind),G3 p (by grind)⟩
structure cf (a b c d:Int):Prop where
 b0:1≤b
 b1:b≤3600
 a0: -60*b≤a
 a1:a≤60*b
 d0:1≤d
 d1:d≤3600
 c0: -180*d≤c
 c1:c≤180*d
theorem jz (x y u v:Int):cf (gA 60 120 x y) (gB y) (gA 180 360 u v) (gB v):=⟨(mX y).1,(mX y).2,(sY x y).1,(sY x y).2,(mX v).1,(mX v).2,(sG u v).1,(sG u v).2⟩
theorem cf.la {a b c d:Int} (h:cf a b c d): -60≤((a:Int):Rat)/((b:Int):Rat)∧((a:Int):Rat)/((b:Int):Rat)≤60:=KY h.b0 h.a0 h.a1
theorem cf.lo {a b c d:Int} (h:cf a b c d): -180≤((c:Int):Rat)/((d:Int):Rat)∧((c:Int):Rat)/((d:Int):Rat)≤180:=Kj h.d0 h.c0 h.c1
theorem lZ {a:Act} {x0 x1 x2 x3:Operand} {u0 u1 u2 u3:Value} (h0:a.eval x0=u0) (h1:a.eval x1=u1) (h2:a.eval x2=u2) (h3:a.eval x3=u3):#[x0,x1,x2,x3].map a.eval=#[u0,u1,u2,u3]:=by simp[h0,h1,h2,h3]
theorem gz {n d:Int} (h0: -9223372036854775808≤n) (h1:n≤9223372036854775807) (g0: -9223372036854775808≤d) (g1:d≤9223372036854775807):ah (((n:Int):Rat)/((d:Int):Rat)) 2:=(aK (ao h0 h1) (ao g0 g1)).up 2 (by decide)
theorem I8 (w:World):
 Calls Tryz.prog 142 #[] w (aG w (.agg #[.int .i64 463,.int .i64 20,.int .i64 45461,.int .i64 600])):=by
 have st:=St.start w
 refine go0 (nt:=2) Tryz.func142 rfl rfl fun a hF=>?_
 refine wq ?_
 refine S.alloc st hF aZ rfl rfl fun g0 w1 a st hF=>?_
 refine nq ?_
 refine oV hF (bh (pi ar ar ar ar) (pZ _ _ _ _ _)) rfl fun a hF=>?_
 refine S.stoI st hF 0 rfl hF.p hF.o aZ rfl rfl rfl fun w2 a st hF=>?_
 refine nr ?_
 refine rs Tryz.results142 st hF 1 0 aZ rfl rfl rfl ?_
 have bel:=st.bel
 exact⟨rfl,bel⟩
theorem ur (xa xb xc xd:Int) (w:World) (hxa0: -9223372036854775808≤xa) (hxa1:xa≤9223372036854775807) (hxb0: -9223372036854775808≤xb) (hxb1:xb≤9223372036854775807):
 Calls Tryz.prog 197 #[.agg #[.int .i64 xa,.int .i64 xb,.int .i64 xc,.int .i64 xd]] w (bl w (((xa:Int):Rat)/((xb:Int):Rat))):=by
 have st:=St.start w
 refine go1 (nt:=8) Tryz.func197 rfl rfl rfl fun a hF=>?_
 refine wq ?_
 refine bx st hF 0 rfl rfl fun g1 w1 a st hF=>?_
 refine S.alloc st hF aa rfl rfl fun g2 w2 a st hF=>?_
 refine nq ?_
 refine oV hF (av hF.p (gn (p:=0) rfl)) rfl fun a hF=>oV hF (au hF.o (bQ (v:= .int .i64 xa) (st.bk 1 rfl) rfl)) rfl fun a hF=>oV hF (av (hF.at 3 rfl) (q9 (p:=1) rfl)) rfl fun a hF=>oV hF (au hF.o (bQ (v:= .int .i64 xb) (st.bk 1 rfl) rfl)) rfl fun a hF=>?_
 refine ca st hF (rk Fn (aI hF.q hF.o)) (bz (xa) (xb) _ hxa0 hxa1 hxb0 hxb1) (fun _ _ h=>h) Rq.cl rfl fun vv4 w3 a st hF=>?_
 obtain⟨r6,rfl⟩:=Rq.fo (st.f 0 rfl)
 refine so st hF 0 5 0 aa rfl rfl rfl rfl fun w7 a st hF=>?_
 refine nr ?_
 refine rs Tryz.results197 st hF 5 0 aa rfl rfl rfl ?_
 have bel:=st.bel
 exact⟨_,rfl,(st.f 0 rfl),bel⟩
theorem dQ (xa xb xc xd:Int) (w:World) (hxc0: -9223372036854775808≤xc) (hxc1:xc≤9223372036854775807) (hxd0: -9223372036854775808≤xd) (hxd1:xd≤9223372036854775807):
 Calls Tryz.prog 26 #[.agg #[.int .i64 xa,.int .i64 xb,.int .i64 xc,.int .i64 xd]] w (bl w (((xc:Int):Rat)/((xd:Int):Rat))):=by
 have st:=St.start w
 refine go1 (nt:=8) Tryz.func26 rfl rfl rfl fun a hF=>?_
 refine wq ?_
 refine bx st hF 0 rfl rfl fun g1 w1 a st hF=>?_
 refine S.alloc st hF aa rfl rfl fun g2 w2 a st hF=>?_
 refine nq ?_
 refine oV hF (av hF.p (gv (p:=2) rfl)) rfl fun a hF=>oV hF (au hF.o (bQ (v:= .int .i64 xc) (st.bk 1 rfl) rfl)) rfl fun a hF=>oV hF (av (hF.at 3 rfl) (qA (p:=3) rfl)) rfl fun a hF=>oV hF (au hF.o (bQ (v:= .int .i64 xd) (st.bk 1 rfl) rfl)) rfl fun a hF=>?_
 refine ca st hF (rk Fn (aI hF.q hF.o)) (bz (xc) (xd) _ hxc0 hxc1 hxd0 hxd1) (fun _ _ h=>h) Rq.cl rfl fun vv4 w3 a st hF=>?_
 obtain⟨r6,rfl⟩:=Rq.fo (st.f 0 rfl)
 refine so st hF 0 5 0 aa rfl rfl rfl rfl fun w7 a st hF=>?_
 refine nr ?_
 refine rs Tryz.results26 st hF 5 0 aa rfl rfl rfl ?_
 have bel:=st.bel
 exact⟨_,rfl,(st.f 0 rfl),bel⟩
theorem mZ (k n:Int) (w:World) (hn:0<n) (hn2:n≤1000000000):
 Calls Tryz.prog 49 #[.int .i64 k,.int .i64 n] w (aG w (.int .i64 (k%n))):=by
 have st:=St.start w
 refine go2 (nt:=12) Tryz.func49 rfl rfl rfl fun a hF=>?_
 refine wq ?_
 refine oC hF rfl fun a hF=>nq ?_
 refine oM hF 1 rfl rfl fun a hF=>oM hF 3 rfl rfl fun a hF=>oV hF (aq hF.p hF.o ab (gT (a:=k) (b:=n) hn)) rfl fun a hF=>oM hF 5 rfl rfl fun a hF=>oV hF (aq hF.p hF.o ab (bj (xm hn hn2).1 (xm hn hn2).2)) rfl fun a hF=>oM hF 7 rfl rfl fun a hF=>oV hF (aq hF.p hF.o ab (gT (a:=(if 0≤k then k%n else -(-k%n))+n) (b:=n) hn)) rfl fun a hF=>?_
 refine oE hF 0 rfl rfl fun a hF=>nr ?_
 have bel:=st.bel
 refine rt Tryz.results49 hF 0 rfl ?_
 exact⟨bS (Hm hn),bel⟩
theorem wP (x y u v:Int) (w:World):
 Calls Tryz.prog 25 #[.int .i64 x,.int .i64 y,.int .i64 u,.int .i64 v] w (aG w (.agg #[.int .i64 (gA 60 120 x y),.int .i64 (gB y),.int .i64 (gA 180 360 u v),.int .i64 (gB v)])):=by
 have st:=St.start w
 refine E.enter (nt:=36) (L:=[(0,.int .i64 x),(1,.int .i64 y),(2,.int .i64 u),(3,.int .i64 v)]) Tryz.func25 rfl rfl rfl (aP (i:=0) rfl (aP (i:=1) rfl (aP (i:=2) rfl (aP (i:=3) rfl dP)))) ?_
 intro a hF
 refine wq ?_
 refine S.alloc st hF aZ rfl rfl fun g8 w1 a st hF=>?_
 refine nq ?_
 refine oM hF 2 rfl rfl fun a hF=>?_
 refine cX st hF (rk Aw (aI hF.o ar)) (mZ y 3600 _ (by omega) (by omega)) rfl fun w2 a st hF=>?_
 have hib3142:=kr (k:=y) (n:=3600) (by omega)
 refine oV hF (aq ar hF.o ab (bj (by omega) (by omega))) rfl fun a hF=>oM hF 7 rfl rfl fun a hF=>?_
 refine cX st hF (rk Aw (aI hF.o ar)) (mZ v 3600 _ (by omega) (by omega)) rfl fun w3 a st hF=>?_
 have hib446:=kr (k:=v) (n:=3600) (by omega)
 refine oV hF (aq ar hF.o ab (bj (by omega) (by omega))) rfl fun a hF=>oA hF 3 rfl rfl fun a hF=>oA hF 1 rfl rfl fun a hF=>nq ?_
 refine oM hF 9 rfl rfl fun a hF=>oM hF 2 rfl rfl fun a hF=>oV hF (aq ar hF.o ab (eL (by omega) (by omega))) rfl fun a hF=>oV hF (aq hF.o ar ab (bj (by omega) (by omega))) rfl fun a hF=>?_
 refine cX st hF (rk Aw (aI (hF.at 3 rfl) hF.o)) (mZ x ((120*(1+(y%3600)))+1) _ (by omega) (by omega)) rfl fun w4 a st hF=>?_
 have hib545:=kr (k:=x) (n:=(120*(1+(y%3600)))+1) (by omega)
 refine oM hF 6 rfl rfl fun a hF=>oV hF (aq ar hF.o ab (eL (by omega) (by omega))) rfl fun a hF=>oV hF (aq hF.q hF.o ab (bN (by omega) (by omega))) rfl fun a hF=>oM hF 9 rfl rfl fun a hF=>oM hF 20 rfl rfl fun a hF=>oM hF 10 rfl rfl fun a hF=>oV hF (aq ar hF.o ab (eL (by omega) (by omega))) rfl fun a hF=>?_
 refine oV hF (aq hF.o ar ab (bj (by omega) (by omega))) rfl fun a hF=>?_
 refine cX st hF (rk Aw (aI (hF.at 3 rfl) hF.o)) (mZ u ((360*(1+(v%3600)))+1) _ (by omega) (by omega)) rfl fun w5 a st hF=>?_
 have hib8212:=kr (k:=u) (n:=(360*(1+(v%3600)))+1) (by omega)
 refine oM hF 14 rfl rfl fun a hF=>oV hF (aq ar hF.o ab (eL (by omega) (by omega))) rfl fun a hF=>oV hF (aq hF.q hF.o ab (bN (by omega) (by omega))) rfl fun a hF=>oM hF 17 rfl rfl fun a hF=>oV hF (bh (pi (hF.at 10 rfl) (hF.at 9 rfl) hF.p hF.o) (pZ _ _ _ _ _)) rfl fun a hF=>?_
 refine S.stoI st hF 0 rfl (hF.at 27 rfl) hF.o aZ rfl rfl rfl fun w6 a st hF=>?_
 refine nr ?_
 refine rs Tryz.results25 st hF 27 0 aZ rfl rfl rfl ?_
 have bel:=st.bel
 exact⟨rfl,bel⟩
theorem ve (n d:Int) (w:World):
 Calls Tryz.prog 46 #[.int .i64 n,.int .i64 d,.int .i64 60] w (aG w (.bool (wiB 60 n d))):=by
 have st:=St.start w
 refine go3 (nt:=28) Tryz.func46 rfl rfl rfl fun a hF=>?_
 refine wq ?_
 refine oC hF rfl fun a hF=>nq ?_
 refine oM hF 2 rfl rfl fun a hF=>?_
 by_cases hc1:1≤d
 ·refine oV hF (aq ar hF.o ab (aU (cj (c:=true) (aL hc1)) (by simp))) rfl fun a hF=>oM hF 0 rfl rfl fun a hF=>og hF (aN (hF.at 5 rfl)) 0 rfl rfl rfl fun a hF=>?_
  by_cases hc2:d≤3600
  ·refine og hF (aq hF.o ar ab (aU (cj (c:=true) (aL hc2)) (by simp))) 1 rfl rfl rfl fun a hF=>oV hF (aH hF.q hF.o) rfl fun a hF=>oM hF 0 rfl rfl fun a hF=>og hF (aN (hF.at 10 rfl)) 0 rfl rfl rfl fun a hF=>og hF (cF hF.o (rI (by omega) (by omega))) 1 rfl rfl rfl fun a hF=>og hF (aN (hF.at 11 rfl)) 2 rfl rfl rfl fun a hF=>og hF (aq hF.p hF.o ab (eL (by omega) (by omega))) 3 rfl rfl rfl fun a hF=>?_
   refine og hF (aN (hF.at 12 rfl)) 4 rfl rfl rfl fun a hF=>?_
   by_cases hc3:(-60)*d≤n
   ·refine og hF (aq hF.p hF.o ab (aU (cj (c:=true) (aL hc3)) (by simp))) 5 rfl rfl rfl fun a hF=>oV hF (aH (hF.at 6 rfl) hF.o) rfl fun a hF=>oM hF 0 rfl rfl fun a hF=>og hF (aN (hF.at 16 rfl)) 0 rfl rfl rfl fun a hF=>og hF (aN (hF.at 19 rfl)) 1 rfl rfl rfl fun a hF=>og hF (aN (hF.at 19 rfl)) 2 rfl rfl rfl fun a hF=>og hF (aq hF.p hF.o ab (eL (by omega) (by omega))) 3 rfl rfl rfl fun a hF=>?_
    by_cases hc4:n≤60*d
    ·refine og hF (aq (hF.at 3 rfl) hF.o ab (aU (cj (c:=true) (aL hc4)) (by simp))) 4 rfl rfl rfl fun a hF=>oV hF (aH (hF.at 5 rfl) hF.o) rfl fun a hF=>oE hF 0 rfl rfl fun a hF=>nr ?_
     have bel:=st.bel
     refine rt Tryz.results46 hF 0 rfl ?_
     refine⟨gG ?_,bel⟩
     unfold wiB
     first|exact(decide_eq_true (by omega)).symm |exact(decide_eq_false (by omega)).symm |exact decide_eq_decide.2 (by omega)
    ·refine og hF (aq (hF.at 3 rfl) hF.o ab (aU (cj (c:=false) (aV hc4)) (by simp))) 4 rfl rfl rfl fun a hF=>oV hF (aH (hF.at 5 rfl) hF.o) rfl fun a hF=>oE hF 0 rfl rfl fun a hF=>nr ?_
     have bel:=st.bel
     refine rt Tryz.results46 hF 0 rfl ?_
     refine⟨gG ?_,bel⟩
     unfold wiB
     first|exact(decide_eq_true (by omega)).symm |exact(decide_eq_false (by omega)).symm |exact decide_eq_decide.2 (by omega)
   ·refine og hF (aq hF.p hF.o ab (aU (cj (c:=false) (aV hc3)) (by simp))) 5 rfl rfl rfl fun a hF=>oV hF (aH (hF.at 6 rfl) hF.o) rfl fun a hF=>oM hF 0 rfl rfl fun a hF=>nu hF 0 rfl rfl rfl fun a hF=>nu hF 1 rfl rfl rfl fun a hF=>nu hF 2 rfl rfl rfl fun a hF=>nu hF 3 rfl rfl rfl fun a hF=>?_
    refine nu hF 4 rfl rfl rfl fun a hF=>oV hF (bp (hF.at 5 rfl) ar) rfl fun a hF=>oE hF 0 rfl rfl fun a hF=>nr ?_
    have bel:=st.bel
    refine rt Tryz.results46 hF 0 rfl ?_
    refine⟨gG ?_,bel⟩
    unfold wiB
    first|exact(decide_eq_true (by omega)).symm |exact(decide_eq_false (by omega)).symm |exact decide_eq_decide.2 (by omega)
  ·refine og hF (aq hF.o ar ab (aU (cj (c:=false) (aV hc2)) (by simp))) 1 rfl rfl rfl fun a hF=>oV hF (aH hF.q hF.o) rfl fun a hF=>oM hF 0 rfl rfl fun a hF=>nu hF 0 rfl rfl rfl fun a hF=>nu hF 1 rfl rfl rfl fun a hF=>nu hF 2 rfl rfl rfl fun a hF=>nu hF 3 rfl rfl rfl fun a hF=>?_
   refine nu hF 4 rfl rfl rfl fun a hF=>nu hF 5 rfl rfl rfl fun a hF=>oV hF (bp (hF.at 6 rfl) ar) rfl fun a hF=>oM hF 0 rfl rfl fun a hF=>nu hF 0 rfl rfl rfl fun a hF=>nu hF 1 rfl rfl rfl fun a hF=>nu hF 2 rfl rfl rfl fun a hF=>?_
   refine nu hF 3 rfl rfl rfl fun a hF=>nu hF 4 rfl rfl rfl fun a hF=>oV hF (bp (hF.at 5 rfl) ar) rfl fun a hF=>oE hF 0 rfl rfl fun a hF=>nr ?_
   have bel:=st.bel
   refine rt Tryz.results46 hF 0 rfl ?_
   refine⟨gG ?_,bel⟩
   unfold wiB
   first|exact(decide_eq_true (by omega)).symm |exact(decide_eq_false (by omega)).symm |exact decide_eq_decide.2 (by omega)
 ·refine oV hF (aq ar hF.o ab (aU (cj (c:=false) (aV hc1)) (by simp))) rfl fun a hF=>oM hF 0 rfl rfl fun a hF=>nu hF 0 rfl rfl rfl fun a hF=>nu hF 1 rfl rfl rfl fun a hF=>oV hF (bp hF.q ar) rfl fun a hF=>oM hF 0 rfl rfl fun a hF=>nu hF 0 rfl rfl rfl fun a hF=>?_
  refine nu hF 1 rfl rfl rfl fun a hF=>nu hF 2 rfl rfl rfl fun a hF=>nu hF 3 rfl rfl rfl fun a hF=>nu hF 4 rfl rfl rfl fun a hF=>nu hF 5 rfl rfl rfl fun a hF=>oV hF (bp (hF.at 6 rfl) ar) rfl fun a hF=>oM hF 0 rfl rfl fun a hF=>?_
  refine nu hF 0 rfl rfl rfl fun a hF=>nu hF 1 rfl rfl rfl fun a hF=>nu hF 2 rfl rfl rfl fun a hF=>nu hF 3 rfl rfl rfl fun a hF=>nu hF 4 rfl rfl rfl fun a hF=>oV hF (bp (hF.at 5 rfl) ar) rfl fun a hF=>oE hF 0 rfl rfl fun a hF=>?_
  refine nr ?_
  have bel:=st.bel
  refine rt Tryz.results46 hF 0 rfl ?_
  refine⟨gG ?_,bel⟩
  unfold wiB
  first|exact(decide_eq_true (by omega)).symm |exact(decide_eq_false (by omega)).symm |exact decide_eq_decide.2 (by omega)
theorem uq (n d:Int) (w:World):
 Calls Tryz.prog 46 #[.int .i64 n,.int .i64 d,.int .i64 180] w (aG w (.bool (wiB 180 n d))):=by
 have st:=St.start w
 refine go3 (nt:=28) Tryz.func46 rfl rfl rfl fun a hF=>?_
 refine wq ?_
 refine oC hF rfl fun a hF=>nq ?_
 refine oM hF 2 rfl rfl fun a hF=>?_
 by_cases hc1:1≤d
 ·refine oV hF (aq ar hF.o ab (aU (cj (c:=true) (aL hc1)) (by simp))) rfl fun a hF=>oM hF 0 rfl rfl fun a hF=>og hF (aN (hF.at 5 rfl)) 0 rfl rfl rfl fun a hF=>?_
  by_cases hc2:d≤3600
  ·refine og hF (aq hF.o ar ab (aU (cj (c:=true) (aL hc2)) (by simp))) 1 rfl rfl rfl fun a hF=>oV hF (aH hF.q hF.o) rfl fun a hF=>oM hF 0 rfl rfl fun a hF=>og hF (aN (hF.at 10 rfl)) 0 rfl rfl rfl fun a hF=>og hF (cF hF.o (rI (by omega) (by omega))) 1 rfl rfl rfl fun a hF=>og hF (aN (hF.at 11 rfl)) 2 rfl rfl rfl fun a hF=>og hF (aq hF.p hF.o ab (eL (by omega) (by omega))) 3 rfl rfl rfl fun a hF=>?_
   refine og hF (aN (hF.at 12 rfl)) 4 rfl rfl rfl fun a hF=>?_
   by_cases hc3:(-180)*d≤n
   ·refine og hF (aq hF.p hF.o ab (aU (cj (c:=true) (aL hc3)) (by simp))) 5 rfl rfl rfl fun a hF=>oV hF (aH (hF.at 6 rfl) hF.o) rfl fun a hF=>oM hF 0 rfl rfl fun a hF=>og hF (aN (hF.at 16 rfl)) 0 rfl rfl rfl fun a hF=>og hF (aN (hF.at 19 rfl)) 1 rfl rfl rfl fun a hF=>og hF (aN (hF.at 19 rfl)) 2 rfl rfl rfl fun a hF=>og hF (aq hF.p hF.o ab (eL (by omega) (by omega))) 3 rfl rfl rfl fun a hF=>?_
    by_cases hc4:n≤180*d
    ·refine og hF (aq (hF.at 3 rfl) hF.o ab (aU (cj (c:=true) (aL hc4)) (by simp))) 4 rfl rfl rfl fun a hF=>oV hF (aH (hF.at 5 rfl) hF.o) rfl fun a hF=>oE hF 0 rfl rfl fun a hF=>nr ?_
     have bel:=st.bel
     refine rt Tryz.results46 hF 0 rfl ?_
     refine⟨gG ?_,bel⟩
     unfold wiB
     first|exact(decide_eq_true (by omega)).symm |exact(decide_eq_false (by omega)).symm |exact decide_eq_decide.2 (by omega)
    ·refine og hF (aq (hF.at 3 rfl) hF.o ab (aU (cj (c:=false) (aV hc4)) (by simp))) 4 rfl rfl rfl fun a hF=>oV hF (aH (hF.at 5 rfl) hF.o) rfl fun a hF=>oE hF 0 rfl rfl fun a hF=>nr ?_
     have bel:=st.bel
     refine rt Tryz.results46 hF 0 rfl ?_
     refine⟨gG ?_,bel⟩
     unfold wiB
     first|exact(decide_eq_true (by omega)).symm |exact(decide_eq_false (by omega)).symm |exact decide_eq_decide.2 (by omega)
   ·refine og hF (aq hF.p hF.o ab (aU (cj (c:=false) (aV hc3)) (by simp))) 5 rfl rfl rfl fun a hF=>oV hF (aH (hF.at 6 rfl) hF.o) rfl fun a hF=>oM hF 0 rfl rfl fun a hF=>nu hF 0 rfl rfl rfl fun a hF=>nu hF 1 rfl rfl rfl fun a hF=>nu hF 2 rfl rfl rfl fun a hF=>nu hF 3 rfl rfl rfl fun a hF=>?_
    refine nu hF 4 rfl rfl rfl fun a hF=>oV hF (bp (hF.at 5 rfl) ar) rfl fun a hF=>oE hF 0 rfl rfl fun a hF=>nr ?_
    have bel:=st.bel
    refine rt Tryz.results46 hF 0 rfl ?_
    refine⟨gG ?_,bel⟩
    unfold wiB
    first|exact(decide_eq_true (by omega)).symm |exact(decide_eq_false (by omega)).symm |exact decide_eq_decide.2 (by omega)
  ·refine og hF (aq hF.o ar ab (aU (cj (c:=false) (aV hc2)) (by simp))) 1 rfl rfl rfl fun a hF=>oV hF (aH hF.q hF.o) rfl fun a hF=>oM hF 0 rfl rfl fun a hF=>nu hF 0 rfl rfl rfl fun a hF=>nu hF 1 rfl rfl rfl fun a hF=>nu hF 2 rfl rfl rfl fun a hF=>nu hF 3 rfl rfl rfl fun a hF=>?_
   refine nu hF 4 rfl rfl rfl fun a hF=>nu hF 5 rfl rfl rfl fun a hF=>oV hF (bp (hF.at 6 rfl) ar) rfl fun a hF=>oM hF 0 rfl rfl fun a hF=>nu hF 0 rfl rfl rfl fun a hF=>nu hF 1 rfl rfl rfl fun a hF=>nu hF 2 rfl rfl rfl fun a hF=>?_
   refine nu hF 3 rfl rfl rfl fun a hF=>nu hF 4 rfl rfl rfl fun a hF=>oV hF (bp (hF.at 5 rfl) ar) rfl fun a hF=>oE hF 0 rfl rfl fun a hF=>nr ?_
   have bel:=st.bel
   refine rt Tryz.results46 hF 0 rfl ?_
   refine⟨gG ?_,bel⟩
   unfold wiB
   first|exact(decide_eq_true (by omega)).symm |exact(decide_eq_false (by omega)).symm |exact decide_eq_decide.2 (by omega)
 ·refine oV hF (aq ar hF.o ab (aU (cj (c:=false) (aV hc1)) (by simp))) rfl fun a hF=>oM hF 0 rfl rfl fun a hF=>nu hF 0 rfl rfl rfl fun a hF=>nu hF 1 rfl rfl rfl fun a hF=>oV hF (bp hF.q ar) rfl fun a hF=>oM hF 0 rfl rfl fun a hF=>nu hF 0 rfl rfl rfl fun a hF=>?_
  refine nu hF 1 rfl rfl rfl fun a hF=>nu hF 2 rfl rfl rfl fun a hF=>nu hF 3 rfl rfl rfl fun a hF=>nu hF 4 rfl rfl rfl fun a hF=>nu hF 5 rfl rfl rfl fun a hF=>oV hF (bp (hF.at 6 rfl) ar) rfl fun a hF=>oM hF 0 rfl rfl fun a hF=>?_
  refine nu hF 0 rfl rfl rfl fun a hF=>nu hF 1 rfl rfl rfl fun a hF=>nu hF 2 rfl rfl rfl fun a hF=>nu hF 3 rfl rfl rfl fun a hF=>nu hF 4 rfl rfl rfl fun a hF=>oV hF (bp (hF.at 5 rfl) ar) rfl fun a hF=>oE hF 0 rfl rfl fun a hF=>?_
  refine nr ?_
  have bel:=st.bel
  refine rt Tryz.results46 hF 0 rfl ?_
  refine⟨gG ?_,bel⟩
  unfold wiB
  first|exact(decide_eq_true (by omega)).symm |exact(decide_eq_false (by omega)).symm |exact decide_eq_decide.2 (by omega)
theorem gl (xa xb xc xd:Int) (w:World):
 Calls Tryz.prog 23 #[.agg #[.int .i64 xa,.int .i64 xb,.int .i64 xc,.int .i64 xd]] w (aG w (.int .i64 (plE xa xb xc xd))):=by
 have st:=St.start w
 refine go1 (nt:=17) Tryz.func23 rfl rfl rfl fun a hF=>?_
 refine wq ?_
 refine bx st hF 0 rfl rfl fun g1 w1 a st hF=>?_
 refine oC hF rfl fun a hF=>ns ?_
 refine wq ?_
 refine oV hF (av hF.p (gn (p:=0) rfl)) rfl fun a hF=>oV hF (au hF.o (bQ (v:= .int .i64 xa) (st.bk 0 rfl) rfl)) rfl fun a hF=>oV hF (av (hF.at 3 rfl) (q9 (p:=1) rfl)) rfl fun a hF=>oV hF (au hF.o (bQ (v:= .int .i64 xb) (st.bk 0 rfl) rfl)) rfl fun a hF=>?_
 refine cX st hF (rk Ku (sV hF.q hF.o ar)) (ve xa xb _) rfl fun w2 a st hF=>?_
 by_cases hc3:wiB 60 xa xb=true
 ·refine oV hF (cF (Eq.trans hF.o (congrArg Value.bool hc3)) (bT _ false rfl)) rfl fun a hF=>oM hF 0 rfl rfl fun a hF=>og hF (av (hF.at 8 rfl) (gv (p:=2) rfl)) 0 rfl rfl rfl fun a hF=>og hF (au hF.o (bQ (v:= .int .i64 xc) (st.bk 0 rfl) rfl)) 1 rfl rfl rfl fun a hF=>og hF (av (hF.at 10 rfl) (qA (p:=3) rfl)) 2 rfl rfl rfl fun a hF=>og hF (au hF.o (bQ (v:= .int .i64 xd) (st.bk 0 rfl) rfl)) 3 rfl rfl rfl fun a hF=>?_
  refine S.callxg st hF (aA rfl rfl (hF.at 4 rfl) rfl) (rk Ku (sV hF.q hF.o ar)) (uq xc xd _) rfl rfl rfl fun w4 a st hF=>?_
  by_cases hc5:wiB 180 xc xd=true
  ·refine og hF (cF (Eq.trans hF.o (congrArg Value.bool hc5)) (bT _ false rfl)) 5 rfl rfl rfl fun a hF=>oV hF (bp (hF.at 6 rfl) hF.o) rfl fun a hF=>?_
   refine E.nil ?_
   refine wp_cond_false hF.o ?_
   refine wp_skip ?_
   refine E.norm ?_
   refine wq ?_
   refine oS hF (a8 ar) rfl fun a hF=>nr ?_
   have bel:=st.bel
   refine rt Tryz.results23 hF 0 rfl ?_
   refine⟨bS ?_,bel⟩
   unfold plE
   rw[if_pos ⟨by assumption,by assumption⟩]
  ·refine og hF (cF (Eq.trans hF.o (congrArg Value.bool (eq_false_of_ne_true hc5))) (bT _ true rfl)) 5 rfl rfl rfl fun a hF=>oV hF (bp (hF.at 6 rfl) hF.o) rfl fun a hF=>?_
   refine E.nil ?_
   refine wp_cond_true hF.o ?_
   refine wq ?_
   refine oS hF (a8 ar) rfl fun a hF=>nr ?_
   have bel:=st.bel
   refine rt Tryz.results23 hF 0 rfl ?_
   refine⟨bS ?_,bel⟩
   unfold plE
   rw[if_neg (by rintro⟨e1,e2⟩;simp_all)]
 ·refine oV hF (cF (Eq.trans hF.o (congrArg Value.bool (eq_false_of_ne_true hc3))) (bT _ true rfl)) rfl fun a hF=>oM hF 0 rfl rfl fun a hF=>nu hF 0 rfl rfl rfl fun a hF=>nu hF 1 rfl rfl rfl fun a hF=>nu hF 2 rfl rfl rfl fun a hF=>nu hF 3 rfl rfl rfl fun a hF=>nu hF 4 rfl rfl rfl fun a hF=>?_
  refine nu hF 5 rfl rfl rfl fun a hF=>oV hF (aH (hF.at 6 rfl) ar) rfl fun a hF=>?_
  refine E.nil ?_
  refine wp_cond_true hF.o ?_
  refine wq ?_
  refine oS hF (a8 ar) rfl fun a hF=>nr ?_
  have bel:=st.bel
  refine rt Tryz.results23 hF 0 rfl ?_
  refine⟨bS ?_,bel⟩
  unfold plE
  rw[if_neg (by rintro⟨e1,e2⟩;simp_all)]
end Go.Proofs.YtdbiegfmgabicaaGreatDoor
