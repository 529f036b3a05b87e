import Derived.Test.YtdbiegfmgabicaaGreatDoorKA26
import Derived.ScopeJumps
namespace Go.Proofs.YtdbiegfmgabicaaGreatDoor
open Go.RowKit
set_option maxRecDepth 100000
set_option linter.unusedVariables false
set_option maxHeartbeats 8000000
section
section
section
variable {P:Program} {Q:Exit→Act→World→Prop} {a:Act} {w:World}
theorem E.scope {A rest:Code} {l:Nat} (I:Nat→Act→World→Prop) (hf:findLabel (A.seq ((Code.label l).seq rest)) l=some (Code.skip.seq rest))
 (h1:A.wp P (Exit.then (fun a' w'=>∃m,I m a' w') (Exit.jump l (fun a' w'=>∃m,I m a' w') Q)) a w)
 (h2:∀m a w,I m a w→rest.wp P (Exit.jump l (fun a' w'=>∃m',m'<m∧I m' a' w') Q) a w):(Code.scope (A.seq ((Code.label l).seq rest))).wp P Q a w:=by
 have pass:∀a w,(∃m,I m a w)→rest.wp P (Exit.jump l (fun a' w'=>(∃m,I m a' w')∧lst (fun m=>I m a' w')<lst fun m=>I m a w) Q) a w:=by
  rintro a w ⟨m,h⟩
  have hl:=nj (p:=fun m=>I m a w) h
  refine Code.wp_mono (fun e a' w' h'=>?_) (h2 _ a w hl.1)
  cases e with
  |goto l'=>
   obtain⟨e,m',h3,h4⟩:=h'
   exact⟨e,⟨m',h4⟩,Nat.lt_of_le_of_lt ((nj (p:=fun m=>I m a' w') h4).2 _ h4) h3⟩
  |_=>exact h'
 refine wp_scope_jumps l (fun a w=>∃m,I m a w) (fun a w=>lst fun m=>I m a w) hf (wp_seq ?_) fun a w h=>wp_seq (wp_skip (pass a w h))
 refine Code.wp_mono (fun e a' w' h'=>?_) h1
 cases e with
 |normal=>
  refine wp_seq (wp_label ?_)
  refine Code.wp_mono (fun e a'' w'' h3=>?_) (pass a' w' h')
  cases e with
  |goto l'=>exact⟨h3.1,h3.2.1⟩
  |_=>exact h3
 |_=>exact h'
theorem E.jump {l:Nat} {J:Act→World→Prop} (h:J a w):Exit.jump l J Q (.goto l) a w:=⟨rfl,h⟩
end
section
variable {P:Program} {dst:Option Tmp} {ty:TypeId} {pos:String} {af:Array Edge} {gd:Option (Nat×Bool)} {a:Act} {w:World}
theorem zM {f:FuncId} {xs ys:Array Operand} {us vs:Array Value} (h1:xs.map a.eval=us) (h2:ys.map a.eval=vs):(execOp a.eval ⟨dst,.makeFunc (.func f) xs ys,ty,pos,af,gd⟩).run P w= .ok (.value (.func (.func f) us vs)) w:=by
 subst h1;subst h2
 rfl
theorem yH {x:Operand} {f:FuncId} {fn:Func} {xs:Array Operand} {ts:Array TypeId} {args cap:Array Value} (hx:a.eval x= .func (.func f) #[] cap) (hf:P.funcs[f]?=some fn) (hn:(fn.name == "runtime.NumGoroutine")=false) (hb:fn.body.isNone=false) (h:xs.map a.eval=args):
 (execOp a.eval ⟨dst,.call ⟨.value x,xs,ts⟩,ty,pos,af,gd⟩).run P w= .ok (.enter f (args++cap)) w:=by
 have hn':fn.name≠ "runtime.NumGoroutine":=by simpa using hn
 have hb':fn.body≠none:=by
  intro e
  rw[e] at hb
  cases hb
 simp only [execOp,resolve,h,hx]
 simp[Deferred.ofValue,invoke,callFunc,hf,hn',hb',go_sem]
end
structure mL (W:World) (f:FuncId) (cap:Array Value) (K:Nat) (p:Rat→Bool):Prop where
 fn:∃fn,Tryz.prog.funcs[f]?=some fn∧(fn.name == "runtime.NumGoroutine")=false∧fn.body.isNone=false
 ask:∀v q w,Below W.heap.size W w→Rq w v q→ah q K→Calls Tryz.prog f (#[v]++cap) w (aG w (.bool (p q)))
theorem mL.below {W W':World} {f:FuncId} {cap:Array Value} {K:Nat} {p:Rat→Bool} (h:mL W f cap K p) (hb:Below W.heap.size W W'):mL W' f cap K p:=
 ⟨h.fn,fun v q w b=>h.ask v q w (hb.trans (b.mono hb.size))⟩
theorem mL.to {W:World} {f:FuncId} {cap:Array Value} {K K':Nat} {p:Rat→Bool} (h:mL W f cap K p) (hk:K'≤K):mL W f cap K' p:=
 ⟨h.fn,fun v q w b hv hl=>h.ask v q w b hv (hl.up _ hk)⟩
theorem Nb {f:FuncId} {us vs:Array Value} {w:World}:(Op.equal 149 (.func (.func f) us vs) .nilFunc).run Tryz.prog w= .ok false w:=by
 unfold Op.equal
 rw[show Op.maxDepth=(Op.maxDepth-1)+1 from rfl]
 unfold Op.equalIn
 simp[go_sem,run_underlying Tryz.underlying149]
theorem JW {f:FuncId} {us vs:Array Value} {w:World}:(binOp .neq 149 (.func (.func f) us vs) .nilFunc).run Tryz.prog w= .ok (.bool true) w:=by
 simp[binOp,go_sem,Nb]
section
variable {P:Program} {ops:Array Oper} {Q:Exit→Act→World→Prop} {W w:World} {bs:List (Nat×List Value)} {fs:List (World→Prop)} {nt d:Nat} {L:List (Nat×Value)} {rest:List Oper} {a:Act} {T:TypeId} {x y:Operand} {ty:TypeId} {pos:String} {af:Array Edge}
theorem S.boxI {z:Int} (st:St W w bs fs) (hF:Fr nt a L) (he:a.eval x= .int .i64 z) (hlt:Nat.blt d nt=true) (hf:bB d L=true)
 (k:∀g w' a',St W w' ((g,[.int .i64 z])::bs) fs→Fr nt a' ((d,.pointer (some ⟨g,0,none⟩))::L)→wpS P ops Q rest a' w'):wpS P ops Q (⟨some d,.box T x,ty,pos,af,none⟩::rest) a w:=by
 obtain⟨g,w1,ge,hr,bb,o⟩:=zh (P:=P) (w:=w) (cs:=[.int .i64 z]) (v:= .int .i64 z) T rfl
 exact E.opv hF (mY he hr) rfl rfl hlt hf fun a' hF'=>k g w1 a' (st.new ge bb o) hF'
theorem S.newI {z:Int} {s:Nat} {ty':TypeId} {pos':String} {af':Array Edge} (st:St W w bs fs) (hF:Fr nt a L) (j:Nat) (hj:L[j]?=some (s,.int .i64 z)) (hs:(P.info? T).map (·.size)=some 1) (hz:(P.info? T).bind (·.zero)=some (.int .i64 0)) (hlt:Nat.blt d nt=true) (hf:bB d L=true)
 (k:∀g w' a',St W w' ((g,[.int .i64 z])::bs) fs→Fr nt a' ((d,.pointer (some ⟨g,0,none⟩))::L)→wpS P ops Q rest a' w'):wpS P ops Q (⟨some d,.alloc T,ty,pos,af,none⟩::⟨none,.store T (.tmp d) (.tmp s),ty',pos',af',none⟩::rest) a w:=by
 obtain⟨g,w1,ge,hr,bb,o⟩:=lA (P:=P) (w:=w) (cs:=[.int .i64 0]) (v:= .int .i64 0) T hz rfl
 refine E.opv hF (d8 hr) rfl rfl hlt hf fun a1 hF1=>?_
 obtain⟨w2,hr2,tu,on⟩:=lP (P:=P) (o:=0) (vs:=[.int .i64 z]) (ws:=[.int .i64 z]) o hs rfl rfl (by intro v hv;rw[List.mem_singleton] at hv;subst hv;rfl) rfl
 refine E.st hF1 (df (ch (hF1.at 0 rfl)) (ch (hF1.at (j+1) hj)) (hr2 _ rfl)) rfl rfl fun a2 hF2=>?_
 have b2:Below w.heap.size w w2:=tu.below bb (Nat.le_of_eq ge)
 exact k g w2 a2 (st.new ge b2 on) hF2
end
theorem I9 {op:BinOp} {t:TypeId} {x y:Operand} {f:FuncId} {us vs:Array Value} {w:World} {P:Program}:(eqGuard op t x y (.func (.func f) us vs) .nilFunc).run P w= .ok () w:=by
 simp[eqGuard,go_sem]
section
variable {P:Program} {Q:Exit→Act→World→Prop} {W w:World} {bs:List (Nat×List Value)} {fs:List (World→Prop)} {nt n:Nat} {L:List (Nat×Value)} {a:Act} {T:TypeId} {zs:List Value}
def bs2 (bs:List (Nat×List Value)) (j0 j1:Nat) (p0 p1:Nat×List Value) (b2 b3:Bool):List (Nat×List Value):=
 let b:=if b2=true then bs.set j0 p0 else bs
 if b3=true then b.set j1 p1 else b
theorem Dp {j0 j1 i:Nat} {p0 p1:Nat×List Value} {b2 b3:Bool} (h0:i≠j0) (h1:i≠j1):(bs2 bs j0 j1 p0 p1 b2 b3)[i]?=bs[i]?:=by
 unfold bs2
 cases b2 <;> cases b3 <;> simp[List.getElem?_set_ne (Ne.symm h0),List.getElem?_set_ne (Ne.symm h1)]
theorem Nk {j0 j1:Nat} {p0 p1:Nat×List Value} {b3:Bool} (h:j0≠j1):(bs2 bs j0 j1 p0 p1 false b3)[j0]?=bs[j0]?:=by
 unfold bs2
 cases b3 <;> simp[List.getElem?_set_ne (Ne.symm h)]
theorem MT {j0 j1:Nat} {p0 p1:Nat×List Value} {b2:Bool} (h:j0≠j1):(bs2 bs j0 j1 p0 p1 b2 false)[j1]?=bs[j1]?:=by
 unfold bs2
 cases b2 <;> simp[List.getElem?_set_ne h]
theorem vj {v:Value}:a.put none v=a:=rfl
theorem E.ret2 {id s0 s1 i0 i1 j0 j1 g0 g1 r0 r1:Nat} {x0 x1 y0 y1:Operand} {ty0 ty1 ty2 ty3:TypeId} {po0 po1 po2 po3:String} {af0 af1 af2 af3:Array Edge} {c0 c1 z0 z1:List Value}
 (hm:P.follows .mixedOrders =true) (st:St W w bs fs) (hF:Fr nt a L) (hT:Ty P T n zs)
 (hx0:∀a,Fr nt a L→a.eval x0= .pointer (some ⟨g0,0,none⟩)) (hx1:∀a,Fr nt a L→a.eval x1= .pointer (some ⟨g1,0,none⟩)) (hy0:∀a,Fr nt a L→a.eval y0= .pointer (some ⟨r0,0,none⟩)) (hy1:∀a,Fr nt a L→a.eval y1= .pointer (some ⟨r1,0,none⟩))
 (hb0:bs[i0]?=some (g0,c0)) (hb1:bs[i1]?=some (g1,c1)) (hr0:bs[j0]?=some (r0,z0)) (hr1:bs[j1]?=some (r1,z1))
 (l0:c0.length=n) (l1:c1.length=n) (m0:z0.length=n) (m1:z1.length=n) (k0:c0.all cK=true) (k1:c1.all cK=true) (q0:z0.all cK=true) (q1:z1.all cK=true)
 (d1:i0≠j0) (d2:i0≠j1) (d3:i1≠j0) (d4:i1≠j1) (d5:j0≠j1) (hs:s0≠s1) (lt0:Nat.blt s0 nt=true) (lt1:Nat.blt s1 nt=true) (f0:bB s0 L=true) (f1:bB s1 L=true)
 (hback:dR #[⟨some s0,.load T x0,ty0,po0,af0,none⟩,⟨some s1,.load T x1,ty1,po1,af1,none⟩,⟨none,.store T y0 (.tmp s0),ty2,po2,af2,none⟩,⟨none,.store T y1 (.tmp s1),ty3,po3,af3,none⟩]=true)
 (e2:(af2.any fun e=>Region.binds .any e && e.on == 0)=true) (e3:(af3.any fun e=>Region.binds .any e && e.on == 1)=true)
 (k:∀w' a',St W w' ((bs.set j0 (r0,c0)).set j1 (r1,c1)) fs→Fr nt a' L→Q .normal a' w'):
 (Code.region id #[⟨some s0,.load T x0,ty0,po0,af0,none⟩,⟨some s1,.load T x1,ty1,po1,af1,none⟩,⟨none,.store T y0 (.tmp s0),ty2,po2,af2,none⟩,⟨none,.store T y1 (.tmp s1),ty3,po3,af3,none⟩] true).wp P Q a w:=by
 have lt0':s0<nt:=by simpa using lt0
 have lt1':s1<nt:=by simpa using lt1
 refine iG hm hback (fun d a' w'=>Fr nt a' L∧(d 0=true→a'.tmps.getD s0 undef= .agg c0.toArray)∧(d 1=true→a'.tmps.getD s1 undef= .agg c1.toArray)∧St W w' (bs2 bs j0 j1 (r0,c0) (r1,c1) (d 2) (d 3)) fs) ?_ ?_ ?_
 ·exact⟨hF,(fun h=>by cases h),(fun h=>by cases h),st.to (Below.refl _ _).drew⟩
 ·rintro d a' w' ⟨hF',h0,h1,s⟩ i o ho hd hdep K hK
  have hi:i<4:=(Array.getElem?_eq_some_iff.1 ho).1
  have ups:∀j m,j≠m→up d j m=d m:=fun j m h=>by unfold up;rw[if_neg (Ne.symm h)]
  have upm:∀j,up d j j=true:=fun j=>by unfold up;rw[if_pos rfl]
  match i,hi with
  |0,_=>
   obtain rfl:=Option.some.inj ho
   rw[if_pos (aM rfl)]
   refine bH.val (au (hx0 _ hF') (bF hT (s.bk i0 ((Dp d1 d2).trans hb0)) l0)) K ?_
   rintro v w'' ⟨rfl,rfl⟩
   refine hK _ _ ⟨hF'.over f0,fun _=>fu (by rw[hF'.size];exact lt0'),fun h=>?_,by rw[ups 0 2 (by decide),ups 0 3 (by decide)];exact s⟩
   rw[show(a'.put (some s0) (.agg c0.toArray)).tmps.getD s1 undef=a'.tmps.getD s1 undef from fL hs]
   exact h1 (by rwa[ups 0 1 (by decide)] at h)
  |1,_=>
   obtain rfl:=Option.some.inj ho
   rw[if_pos (aM rfl)]
   refine bH.val (au (hx1 _ hF') (bF hT (s.bk i1 ((Dp d3 d4).trans hb1)) l1)) K ?_
   rintro v w'' ⟨rfl,rfl⟩
   refine hK _ _ ⟨hF'.over f1,fun h=>?_,fun _=>fu (by rw[hF'.size];exact lt1'),by rw[ups 1 2 (by decide),ups 1 3 (by decide)];exact s⟩
   rw[show(a'.put (some s1) (.agg c1.toArray)).tmps.getD s0 undef=a'.tmps.getD s0 undef from fL (Ne.symm hs)]
   exact h0 (by rwa[ups 1 0 (by decide)] at h)
  |2,_=>
   obtain rfl:=Option.some.inj ho
   rw[if_pos (aM rfl)]
   have hd0:d 0=true:=by
    obtain⟨e,he,hb⟩:=Array.any_eq_true'.1 e2
    rw[Bool.and_eq_true,beq_iff_eq] at hb
    have:=hdep e he hb.1
    rwa[hb.2] at this
   have hd2:d 2=false:=hd
   rw[hd2] at s
   have hj:(bs2 bs j0 j1 (r0,c0) (r1,c1) false (d 3))[j0]?=some (r0,z0):=(Nk d5).trans hr0
   obtain⟨w1,hr,tu,on⟩:=gg (P:=P) (o:=0) (ws:=c0) (s.b j0 hj q0) hT.s l0 (by simp[m0]) (cK.oc k0) (cK.ni k0) (by subst l0;simp[m0])
   refine bH.skip (df (hy0 _ hF') (show a'.eval (.tmp s0)= .agg c0.toArray from ch (h0 hd0)) (hr _ rfl)) K ?_
   rintro v w'' ⟨rfl,rfl⟩
   have s2:=s.set j0 hj q0 tu on.blk
   rw[vj]
   refine hK _ _ ⟨hF',fun h=>h0 (by rwa[ups 2 0 (by decide)] at h),fun h=>h1 (by rwa[ups 2 1 (by decide)] at h),?_⟩
   rw[upm,ups 2 3 (by decide)]
   have e:(bs2 bs j0 j1 (r0,c0) (r1,c1) false (d 3)).set j0 (r0,c0)=bs2 bs j0 j1 (r0,c0) (r1,c1) true (d 3):=by
    unfold bs2
    cases d 3
    ·rfl
    ·exact List.set_comm _ _ (Ne.symm d5)
   rw[←e];exact s2
  |3,_=>
   obtain rfl:=Option.some.inj ho
   rw[if_pos (aM rfl)]
   have hd1:d 1=true:=by
    obtain⟨e,he,hb⟩:=Array.any_eq_true'.1 e3
    rw[Bool.and_eq_true,beq_iff_eq] at hb
    have:=hdep e he hb.1
    rwa[hb.2] at this
   have hd3:d 3=false:=hd
   rw[hd3] at s
   have hj:(bs2 bs j0 j1 (r0,c0) (r1,c1) (d 2) false)[j1]?=some (r1,z1):=(MT d5).trans hr1
   obtain⟨w1,hr,tu,on⟩:=gg (P:=P) (o:=0) (ws:=c1) (s.b j1 hj q1) hT.s l1 (by simp[m1]) (cK.oc k1) (cK.ni k1) (by subst l1;simp[m1])
   refine bH.skip (df (hy1 _ hF') (show a'.eval (.tmp s1)= .agg c1.toArray from ch (h1 hd1)) (hr _ rfl)) K ?_
   rintro v w'' ⟨rfl,rfl⟩
   have s2:=s.set j1 hj q1 tu on.blk
   rw[vj]
   refine hK _ _ ⟨hF',fun h=>h0 (by rwa[ups 3 0 (by decide)] at h),fun h=>h1 (by rwa[ups 3 1 (by decide)] at h),?_⟩
   rw[upm,ups 3 2 (by decide)]
   have e:(bs2 bs j0 j1 (r0,c0) (r1,c1) (d 2) false).set j1 (r1,c1)=bs2 bs j0 j1 (r0,c0) (r1,c1) (d 2) true:=by
    unfold bs2
    cases d 2 <;> rfl
   rw[←e];exact s2
 ·rintro d a' w' ⟨hF',h0,h1,s⟩ hall
  refine k w' a' ?_ hF'
  rw[hall 2 (by show 2<4;decide),hall 3 (by show 3<4;decide)] at s
  exact s
end
theorem GN {a:Act} {x0 x1 x2 x3:Operand} {u0 u1 u2 u3:Value} (h0:a.eval x0=u0) (h1:a.eval x1=u1) (h2:a.eval x2=u2) (h3:a.eval x3=u3):#[x0,x1,x2,x3].map a.eval=#[u0,u1,u2,u3]:=by simp[h0,h1,h2,h3]
end
end
theorem Dl:(Tryz.prog.info? 2).bind (·.zero)=some (.int .i64 0):=by kernel_rfl
structure u6 (W:World) (f:FuncId) (cap:Array Value) (n:Int) (p:Int→Bool):Prop where
 fn:∃fn,Tryz.prog.funcs[f]?=some fn∧(fn.name == "runtime.NumGoroutine")=false∧fn.body.isNone=false
 ask:∀h w,Below W.heap.size W w→0≤h→h<n→Calls Tryz.prog f (#[.int .i64 h]++cap) w (aG w (.bool (p h)))
theorem u6.below {W W':World} {f:FuncId} {cap:Array Value} {n:Int} {p:Int→Bool} (h:u6 W f cap n p) (hb:Below W.heap.size W W'):u6 W' f cap n p:=
 ⟨h.fn,fun v w b h0 h1=>h.ask v w (hb.trans (b.mono hb.size)) h0 h1⟩
theorem Kr {P:Program} {w:World} {t:TypeId} {a:Int} {k:IntKind} {n:Nat} (hn:n<64) {d:Int} (hd:(2:Int)^n=d):(binOp .shr t (.int .u64 a) (.int k (n:Nat))).run P w= .ok (.int .u64 (a/d)) w:=by
 subst hd
 have e:min (((n:Nat):Int).toNat) IntKind.u64.bits=n:=by simp[IntKind.bits];omega
 have h0:¬(((n:Nat):Int)<0):=by omega
 simp only [binOp,Op.shift,if_neg h0,e]
 rw[Int.fdiv_eq_ediv_of_nonneg _ (by exact Int.le_of_lt (Int.pow_pos (by decide)))]
 rfl
theorem zo {P:Program} {w:World} {s t:TypeId} {k k0 k':IntKind} {a:Int} (hs:P.underlying s=some (.int k0)) (ht:P.underlying t=some (.int k')) (h:k'.wrap a=a):(convert s t (.int k a)).run P w= .ok (.int k' a) w:=by
 unfold convert
 simp only [Sem.run_bind,run_underlying hs,run_underlying ht,Result.andThen_ok]
 show(Conv.intToInt k' a).run P w=_
 unfold Conv.intToInt
 rw[h]
 rfl
theorem Af (n k:Int) (kf:FuncId) (cap:Array Value) (p:Int→Bool) (w:World) (hn:n≤1000000) (hk0:0≤k) (hk:k≤n) (hp:∀h,0≤h→h<n→(p h=true↔k≤h)) (hask:u6 w kf cap n p):
 Calls Tryz.prog 112 #[.int .i64 n,.func (.func kf) #[] cap] w (aG w (.int .i64 k)):=by
 obtain⟨fn,hfn1,hfn2,hfn3⟩:=hask.fn
 have st:=St.start w
 refine go2 (nt:=26) Tryz.func112 rfl rfl rfl fun a hF=>?_
 refine wq ?_
 refine oC hF rfl fun a hF=>nq ?_
 refine oM hF 1 rfl rfl fun a hF=>oC hF rfl fun a hF=>oA hF 1 rfl rfl fun a hF=>ns ?_
 refine wp_block ?_
 refine E.loop (fun mq a wv=>∃(i:Int) (j:Int),0≤i∧i≤k∧k≤j∧j≤n∧Fr 26 a [(6,.int .i64 j),(5,.int .i64 i),(4,.int .i64 0),(1,.func (.func kf) #[] cap)]∧St w wv [] []∧mq=(j-i:Int).toNat) (((n)-(0):Int).toNat) ?_ ?_
 ·exact⟨(0:Int),(n:Int),(by omega),(by omega),(by omega),(by omega),Fr.pick (L':=[(6,.int .i64 n),(5,.int .i64 0),(4,.int .i64 0),(1,.func (.func kf) #[] cap)]) hF [0,1,3,5] rfl,st.pick [] [] rfl rfl (by decide),rfl⟩
 ·rintro mq a w1 ⟨i,j,hi0,hik,hkj,hjn,hF,st,hm⟩
  refine wp_seq ?_
  refine wq ?_
  refine oM hF 1 rfl rfl fun a hF=>oM hF 1 rfl rfl fun a hF=>?_
  by_cases hc2:i<j
  ·refine oU hF 1 0 (bM (c:=true) (aL hc2)) rfl rfl rfl fun a hF=>?_
   refine E.nil ?_
   refine wp_cond_true hF.o ?_
   refine wp_skip ?_
   refine E.norm ?_
   refine wp_block ?_
   refine wq ?_
   refine oM hF 4 rfl rfl fun a hF=>oM hF 4 rfl rfl fun a hF=>oV hF (aq hF.p hF.o ab (bj (by omega) (by omega))) rfl fun a hF=>oV hF (fA hF.o (zo (k':= .u64) Tryz.underlying3 Tryz.underlying127 (IntWalk.u64_in _ ⟨by omega,by omega⟩))) rfl fun a hF=>oV hF (aq hF.o ar ab (Kr (n:=1) (by decide) (d:=2) (by decide))) rfl fun a hF=>oV hF (fA hF.o (zo (k':= .i64) Tryz.underlying127 Tryz.underlying3 (IntWalk.i64_in _ ⟨by omega,by omega⟩))) rfl fun a hF=>oA hF 0 rfl rfl fun a hF=>?_
   refine nq ?_
   refine oM hF 13 rfl rfl fun a hF=>oM hF 1 rfl rfl fun a hF=>?_
   refine cX st hF (yH hF.p hfn1 hfn2 hfn3 (aD hF.o)) ((hask.below st.bel).ask ((i+j)/2) _ (Below.refl _ _) (by omega) (by omega)) rfl fun w3 a st hF=>?_
   by_cases hc4:p ((i+j)/2)=true
   ·refine oV hF (cF (Eq.trans hF.o (congrArg Value.bool hc4)) (bT _ false rfl)) rfl fun a hF=>?_
    refine E.nil ?_
    refine wp_cond_false hF.o ?_
    refine E.seq ?_
    refine oM hF 4 rfl rfl fun a hF=>oE hF 0 rfl rfl fun a hF=>?_
    refine E.nil0 ?_
    refine E.blk ?_
    refine E.norm ?_
    have hq:=hp ((i+j)/2) (by omega) (by omega)
    have hq2:=hq.1 hc4
    exact⟨(((i+j)/2)-(i):Int).toNat,by omega,⟨(i:Int),((i+j)/2:Int),(by omega),(by omega),(by omega),(by omega),Fr.pick (L':=[(6,.int .i64 ((i+j)/2)),(5,.int .i64 i),(4,.int .i64 0),(1,.func (.func kf) #[] cap)]) hF [0,16,17,18] rfl,st.pick [] [] rfl rfl (by decide),rfl⟩⟩
   ·refine oV hF (cF (Eq.trans hF.o (congrArg Value.bool (eq_false_of_ne_true hc4))) (bT _ true rfl)) rfl fun a hF=>?_
    refine E.nil ?_
    refine wp_cond_true hF.o ?_
    refine E.seq ?_
    refine oM hF 4 rfl rfl fun a hF=>oV hF (aq hF.o ar ab (bj (by omega) (by omega))) rfl fun a hF=>oE hF 0 rfl rfl fun a hF=>?_
    refine E.nil0 ?_
    refine E.blk ?_
    refine E.norm ?_
    have hq:=hp ((i+j)/2) (by omega) (by omega)
    have hq2:¬k≤((i+j)/2):=fun e=>hc4 (hq.2 e)
    exact⟨((j)-(((i+j)/2)+1):Int).toNat,by omega,⟨(((i+j)/2)+1:Int),(j:Int),(by omega),(by omega),(by omega),(by omega),Fr.pick (L':=[(6,.int .i64 j),(5,.int .i64 (((i+j)/2)+1)),(4,.int .i64 0),(1,.func (.func kf) #[] cap)]) hF [17,0,18,19] rfl,st.pick [] [] rfl rfl (by decide),rfl⟩⟩
  ·refine oU hF 1 0 (bM (c:=false) (aV hc2)) rfl rfl rfl fun a hF=>?_
   refine E.nil ?_
   refine wp_cond_false hF.o ?_
   refine wp_exit ?_
   refine E.past ?_
   refine E.past ?_
   refine E.out (id:=0) ?_
   refine E.norm ?_
   refine wq ?_
   refine oM hF 4 rfl rfl fun a hF=>oE hF 0 rfl rfl fun a hF=>nr ?_
   have bel:=st.bel
   refine rt Tryz.results112 hF 0 rfl ?_
   refine⟨bS ?_,bel⟩
   omega
def atR (lo hi:Rat) (k n:Int):Rat:=lo+(hi-lo)*(((k:Int):Rat)/((n:Int):Rat))
def hlv (p:Rat→Bool) (lo hi:Rat):Nat→Int
 |0=>0
 |n+1=>if p (atR lo hi (2*hlv p lo hi n+1) (2^(n+1)))=true then 2*hlv p lo hi n else 2*hlv p lo hi n+1
theorem eU (n:Nat):(0:Int)<2^n:=Int.pow_pos (by decide)
theorem fi (n:Nat):(2:Int)^(n+1)=2*2^n:=by rw[Int.pow_succ,Int.mul_comm]
theorem gE (p:Rat→Bool) (lo hi:Rat) (n:Nat):0≤hlv p lo hi n∧hlv p lo hi n<2^n:=by
 induction n with
 |zero=>exact⟨Int.le_refl _,by show(0:Int)<1;decide⟩
 |succ n ih=>
  have e:=fi n
  unfold hlv
  split <;> omega
theorem pj {n:Int} (h:n≠0):((n:Int):Rat)≠0:=fun e=>h (Rat.intCast_inj.1 (by rw[e,Rat.intCast_zero]))
theorem AE (k:Int) {n c:Int} (hn:n≠0) (hc:c≠0):((k*c:Int):Rat)/((n*c:Int):Rat)=((k:Int):Rat)/((n:Int):Rat):=by
 have h1:=pj hn
 have h2:=pj hc
 rw[Rat.intCast_mul,Rat.intCast_mul]
 generalize ((n:Int):Rat)=x at*
 generalize ((c:Int):Rat)=y at*
 generalize ((k:Int):Rat)=z at*
 grind
theorem oK (lo hi:Rat) (k:Int) {n c:Int} (hn:n≠0) (hc:c≠0):atR lo hi (k*c) (n*c)=atR lo hi k n:=by unfold atR;rw[AE k hn hc]
theorem Jt (lo hi:Rat) (k:Int) {n:Int} (hn:n≠0):(atR lo hi k n+atR lo hi (k+1) n)*(((1:Int):Rat)/((2:Int):Rat))=atR lo hi (2*k+1) (2*n):=by
 have h1:=pj hn
 unfold atR
 rw[Rat.intCast_add,Rat.intCast_add,Rat.intCast_mul,Rat.intCast_mul,show((1:Int):Rat)=1 from rfl,show((2:Int):Rat)=2 from rfl]
 generalize ((n:Int):Rat)=x at*
 generalize ((k:Int):Rat)=z at*
 grind
theorem Jw (lo hi:Rat) (k:Int) {n:Int} (hn:n≠0):atR lo hi (k+1) n-atR lo hi k n=(hi-lo)*(((1:Int):Rat)/((n:Int):Rat)):=by
 have h1:=pj hn
 unfold atR
 rw[Rat.intCast_add,show((1:Int):Rat)=1 from rfl]
 generalize ((n:Int):Rat)=x at*
 generalize ((k:Int):Rat)=z at*
 grind
theorem Eb (lo hi:Rat) (n:Int):atR lo hi 0 n=lo:=by unfold atR;rw[Rat.intCast_zero,Rat.div_def,Rat.zero_mul,Rat.mul_zero,Rat.add_zero]
theorem Hv (lo hi:Rat):atR lo hi 1 1=hi:=by unfold atR;rw[show((1:Int):Rat)/((1:Int):Rat)=1 by decide+kernel];grind
def hlo (p:Rat→Bool) (lo hi:Rat) (n:Nat):Rat:=atR lo hi (hlv p lo hi n) (2^n)
def hhi (p:Rat→Bool) (lo hi:Rat) (n:Nat):Rat:=atR lo hi (hlv p lo hi n+1) (2^n)
def hmi (p:Rat→Bool) (lo hi:Rat) (n:Nat):Rat:=atR lo hi (2*hlv p lo hi n+1) (2^(n+1))
theorem wI (p:Rat→Bool) (lo hi:Rat):hlo p lo hi 0=lo:=Eb lo hi _
theorem wR (p:Rat→Bool) (lo hi:Rat):hhi p lo hi 0=hi:=Hv lo hi
theorem Iu (p:Rat→Bool) (lo hi:Rat) (n:Nat):(hlo p lo hi n+hhi p lo hi n)*(((1:Int):Rat)/((2:Int):Rat))=hmi p lo hi n:=by
 unfold hlo hhi hmi
 rw[Jt lo hi _ (by have:=eU n;omega),fi]
theorem zB {p:Rat→Bool} {lo hi:Rat} {n:Nat} (h:p (hmi p lo hi n)=true):hlv p lo hi (n+1)=2*hlv p lo hi n:=by show(if _ then _ else _)=_;exact if_pos h
theorem zU {p:Rat→Bool} {lo hi:Rat} {n:Nat} (h:p (hmi p lo hi n)=false):hlv p lo hi (n+1)=2*hlv p lo hi n+1:=by show(if _ then _ else _)=_;exact if_neg (by rw[show p (atR lo hi (2*hlv p lo hi n+1) (2^(n+1)))=false from h];simp)
theorem Gq {p:Rat→Bool} {lo hi:Rat} {n:Nat} (h:p (hmi p lo hi n)=true):hlo p lo hi (n+1)=hlo p lo hi n:=by
 unfold hlo
 rw[zB h,fi,Int.mul_comm 2 (hlv p lo hi n),Int.mul_comm 2 (2^n)]
 exact oK lo hi _ (by have:=eU n;omega) (by decide)
theorem Gj {p:Rat→Bool} {lo hi:Rat} {n:Nat} (h:p (hmi p lo hi n)=true):hhi p lo hi (n+1)=hmi p lo hi n:=by unfold hhi hmi;rw[zB h]
theorem Gt {p:Rat→Bool} {lo hi:Rat} {n:Nat} (h:p (hmi p lo hi n)=false):hlo p lo hi (n+1)=hmi p lo hi n:=by unfold hlo hmi;rw[zU h]
theorem Gp {p:Rat→Bool} {lo hi:Rat} {n:Nat} (h:p (hmi p lo hi n)=false):hhi p lo hi (n+1)=hhi p lo hi n:=by
 unfold hhi
 rw[zU h,fi,show 2*hlv p lo hi n+1+1=(hlv p lo hi n+1)*2 by omega,Int.mul_comm 2 (2^n)]
 exact oK lo hi _ (by have:=eU n;omega) (by decide)
theorem DX {p:Rat→Bool} {lo:Rat} (hi:Rat) (h:p lo=false) (n:Nat):p (hlo p lo hi n)=false:=by
 induction n with
 |zero=>rw[wI];exact h
 |succ n ih=>
  cases hm:p (hmi p lo hi n) with
  |true=>rw[Gq hm];exact ih
  |false=>rw[Gt hm];exact hm
theorem Cz {p:Rat→Bool} (lo:Rat) {hi:Rat} (h:p hi=true) (n:Nat):p (hhi p lo hi n)=true:=by
 induction n with
 |zero=>rw[wR];exact h
 |succ n ih=>
  cases hm:p (hmi p lo hi n) with
  |true=>rw[Gj hm];exact hm
  |false=>rw[Gp hm];exact ih
theorem H9 (p:Rat→Bool) (lo hi:Rat) (n:Nat):hhi p lo hi n-hlo p lo hi n=(hi-lo)*(((1:Int):Rat)/(((2^n:Int):Int):Rat)):=Jw lo hi _ (by have:=eU n;omega)
def dsz (m i:Nat):Int:=if i<m then 2^(m-1-i) else 0
def dct (p:Rat→Bool) (lo hi:Rat) (m i:Nat):Int:=hlv p lo hi i*2^(m-i)
theorem ii {m i:Nat}:0<dsz m i↔i<m:=by
 unfold dsz
 split
 ·rename_i h;exact⟨fun _=>h,fun _=>eU _⟩
 ·rename_i h;exact⟨fun e=>by omega,fun e=>absurd e h⟩
theorem Ew {m i:Nat} (h:i<m):(dsz m i).tdiv 2=dsz m (i+1):=by
 unfold dsz
 rw[if_pos h]
 split
 ·rename_i h2
  rw[show m-1-i=(m-1-(i+1))+1 by omega,fi]
  exact Int.mul_tdiv_cancel_left _ (by decide)
 ·rename_i h2
  rw[show m-1-i=0 by omega];rfl
theorem FB (p:Rat→Bool) (lo hi:Rat) (m:Nat):dct p lo hi m 0=0:=Int.zero_mul _
theorem Jc (p:Rat→Bool) (lo hi:Rat) (m:Nat):dct p lo hi m m=hlv p lo hi m:=by unfold dct;rw[Nat.sub_self];exact Int.mul_one _
theorem Hx (p:Rat→Bool) (lo hi:Rat) {m i:Nat} (h:i<m):atR lo hi (dct p lo hi m i+dsz m i) (2^m)=hmi p lo hi i:=by
 unfold dct dsz hmi
 rw[if_pos h]
 have e:(2:Int)^(m-i)=2*2^(m-1-i):=by rw[show m-i=(m-1-i)+1 by omega,fi]
 have e2:(2:Int)^m=2^(i+1)*2^(m-1-i):=by rw[←Int.pow_add];congr 1;omega
 rw[e,e2,show hlv p lo hi i*(2*2^(m-1-i))+2^(m-1-i)=(2*hlv p lo hi i+1)*2^(m-1-i) by grind]
 exact oK lo hi _ (by have:=eU (i+1);omega) (by have:=eU (m-1-i);omega)
theorem MJ {p:Rat→Bool} {lo hi:Rat} {m i:Nat} (h:i<m) (hp:p (hmi p lo hi i)=true):dct p lo hi m (i+1)=dct p lo hi m i:=by
 unfold dct
 rw[zB hp,show(2:Int)^(m-i)=2*2^(m-(i+1)) by rw[show m-i=(m-(i+1))+1 by omega,fi]]
 grind
theorem MS {p:Rat→Bool} {lo hi:Rat} {m i:Nat} (h:i<m) (hp:p (hmi p lo hi i)=false):dct p lo hi m (i+1)=dct p lo hi m i+dsz m i:=by
 unfold dct dsz
 rw[if_pos h,zU hp,show(2:Int)^(m-i)=2*2^(m-(i+1)) by rw[show m-i=(m-(i+1))+1 by omega,fi],show m-1-i=m-(i+1) by omega]
 grind
theorem BN (p:Rat→Bool) (lo hi:Rat) {m i:Nat} (h:i≤m):0≤dct p lo hi m i∧dct p lo hi m i<2^m:=by
 have b:=gE p lo hi i
 have q:=eU (m-i)
 unfold dct
 have e2:(2:Int)^m=2^i*2^(m-i):=by rw[←Int.pow_add];congr 1;omega
 refine⟨Int.mul_nonneg b.1 (by omega),?_⟩
 rw[e2]
 exact Int.mul_lt_mul_of_pos_right b.2 q
theorem CT {m i:Nat}:0≤dsz m i∧dsz m i≤2^m:=by
 unfold dsz
 split
 ·rename_i h
  have:=eU (m-1-i)
  have e:(2:Int)^m=2^(i+1)*2^(m-1-i):=by rw[←Int.pow_add];congr 1;omega
  have q:=eU (i+1)
  refine⟨by omega,?_⟩
  have h2:=Int.mul_le_mul_of_nonneg_right (show(1:Int)≤2^(i+1) by omega) (Int.le_of_lt this)
  rw[e];omega
 ·have:=eU m;omega
theorem sE {n:Nat} (h:n≤64):(2:Int)^n≤18446744073709551616:=by
 have:(2:Nat)^n≤2^64:=Nat.pow_le_pow_right (by decide) h
 have e:((2^n:Nat):Int)=(2:Int)^n:=by rw[Int.natCast_pow];rfl
 rw[←e];exact Int.ofNat_le.2 this
theorem J8 {n d:Int} {k:Nat} (h:n.natAbs<B32^k) (g:d.natAbs<B32^k) (hk:1≤k):ah (((n:Int):Rat)/((d:Int):Rat)) (k+k):=dF (aW h hk) (aW g hk)
theorem ti {lo hi:Rat} {k n:Int} {i j:Nat} (h1:ah lo i) (h2:ah hi j) (hk:0≤k) (hk2:k≤n) (hn2:n≤18446744073709551616):ah (atR lo hi k n) (2*i+j+8):=by
 have b:(18446744073709551616:Nat)<B32^3:=by decide+kernel
 exact(bL h1 (bf (cA h2 h1) (J8 (n:=k) (d:=n) (k:=3) (by omega) (by omega) (by decide)))).up _ (by omega)
theorem Hj {p:Rat→Bool} {lo hi:Rat} {i j n:Nat} (h1:ah lo i) (h2:ah hi j) (hn:n≤64):ah (hlo p lo hi n) (2*i+j+8):=
 ti h1 h2 (gE p lo hi n).1 (by have:=gE p lo hi n;omega) (sE hn)
theorem yG {p:Rat→Bool} {lo hi:Rat} {i j n:Nat} (h1:ah lo i) (h2:ah hi j) (hn:n≤64):ah (hhi p lo hi n) (2*i+j+8):=
 ti h1 h2 (by have:=gE p lo hi n;omega) (by have:=gE p lo hi n;omega) (sE hn)
theorem Hl {p:Rat→Bool} {lo hi:Rat} {i j n:Nat} (h1:ah lo i) (h2:ah hi j) (hn:n<64):ah (hmi p lo hi n) (2*i+j+8):=
 ti h1 h2 (by have:=gE p lo hi n;omega) (by have:=gE p lo hi n;have:=fi n;omega) (sE hn)
theorem tS {x:Rat} {n:Int} (hn:0<n):prt (rmod x ((360:Int):Rat)) n=(x*(((n:Int):Rat)/((360:Int):Rat))).floor %n:=by
 have np:(0:Rat)<((n:Int):Rat):=Rat.intCast_pos.2 hn
 have e:(rmod x ((360:Int):Rat))*(((n:Int):Rat)/((360:Int):Rat))=x*(((n:Int):Rat)/((360:Int):Rat))+((n*(-(x/((360:Int):Rat)).floor):Int):Rat):=by
  rw[iq bC,Rat.intCast_mul,Rat.div_def ((n:Int):Rat),fb];grind
 have b:=gW (x:=rmod x ((360:Int):Rat)) hn (dE bC) (cZ bC)
 unfold prt at b ⊢
 rw[e,Rat.floor_add_intCast] at b ⊢
 have h:=Int.emod_eq_of_lt (b:=n) b.1 b.2
 rw[←h,Int.add_mul_emod_self_left]
def skp (x:Rat):Int:=(x*(((1:Int):Rat)/((14:Int):Rat))).floor
theorem vF:((1:Int):Rat)/((14:Int):Rat)=1/14:=by decide+kernel
theorem uG {x:Rat} {m:Int} (h:x≤134/10*((m:Int):Rat)) (hm:0<m):skp x≤m-1:=by
 have c:=Rat.intCast_lt_intCast.2 hm
 have:skp x<m:=Rat.floor_lt_iff.2 (by rw[vF];rw[Rat.intCast_zero] at c;grind)
 omega
theorem vo {x:Rat} (h:0≤x):0≤skp x:=Rat.le_floor_iff.2 (by rw[vF,Rat.intCast_zero];grind)
theorem yR {a b:Int} (h:a≤b):phU ((b:Int):Rat)-phU ((a:Int):Rat)≤134/10*(((b-a:Int)):Rat):=by
 have c:0≤(((b-a:Int)):Rat):=Rat.intCast_nonneg.2 (by omega)
 have r:=(jm ((a:Int):Rat) c).2
 have e:((a:Int):Rat)+(((b-a:Int)):Rat)=((b:Int):Rat):=by rw[←Rat.intCast_add];congr 1;omega
 rwa[e] at r
theorem A1 {n L:Int} (h:L<n) (hc:bw L=true) (hn:∀m,L<m→m<n→¬bw m=true):0≤skp (bi ((n:Int):Rat))∧skp (bi ((n:Int):Rat))≤n-L-1:=by
 refine⟨vo (jy _).1,?_⟩
 have t1:bO n=bO (L+1):=hC (by omega) fun m h1 h2=>hn m (by omega) h2
 have t2:=(cY L).1 hc
 have a:=(dT ((L:Int):Rat)).2
 have q:=jc ((n:Int):Rat)
 have r:=yR (Int.le_of_lt h)
 have e:((turn ((n:Int):Rat):Int):Rat)=((turn ((L:Int):Rat):Int):Rat)+1:=by
  rw[show turn ((n:Int):Rat)=turn ((L:Int):Rat)+1 from t1.trans t2,Rat.intCast_add];rfl
 rw[e] at q
 rw[show((360:Int):Rat)=360 from rfl] at a q
 exact uG (by grind) (by omega)
theorem Bb {n M:Int} (h:n<M) (hc:bw M=true) (hn:∀k,n<k→k<M→¬bw k=true):0≤skp (((360:Int):Rat)-bi (((n+1:Int)):Rat))∧n+1+skp (((360:Int):Rat)-bi (((n+1:Int)):Rat))≤M:=by
 have p:=jy (((n+1:Int)):Rat)
 rw[show((360:Int):Rat)=360 from rfl]
 refine⟨vo (by grind),?_⟩
 have t1:bO M=bO (n+1):=hC (by omega) fun m h1 h2=>hn m (by omega) h2
 have t2:=(cY M).1 hc
 have a:=(dT (((M+1:Int)):Rat)).1
 have q:=jc (((n+1:Int)):Rat)
 have r:=yR (a:=n+1) (b:=M+1) (by omega)
 have e:((turn (((M+1:Int)):Rat):Int):Rat)=((turn (((n+1:Int)):Rat):Int):Rat)+1:=by
  rw[show turn (((M+1:Int)):Rat)=turn (((n+1:Int)):Rat)+1 from by rw[show turn (((M+1:Int)):Rat)=bO (M+1) from rfl,t2,t1];rfl,Rat.intCast_add];rfl
 rw[e] at a
 rw[show((360:Int):Rat)=360 from rfl] at a q
 have:=uG (x:=360-bi (((n+1:Int)):Rat)) (m:=M+1-(n+1)) (by grind) (by omega)
 omega
noncomputable def dV (f:Int):Int:=Classical.choose (yr f)
theorem fC (f:Int):f-34≤dV f∧dV f<f∧bw (dV f)=true∧∀m,dV f<m→m<f→¬bw m=true:=Classical.choose_spec (yr f)
def gi (t:Rat):Bool:=full ((t.floor:Int):Rat) && !full t
noncomputable def bJ (t:Rat):Int:=if gi t=true then t.floor else dV t.floor
theorem lE {t:Rat} (h:gi t=true):bJ t=t.floor:=if_pos h
theorem lr {t:Rat} (h:¬gi t=true):bJ t=dV t.floor:=if_neg h
theorem qV (t:Rat):t.floor-34≤bJ t∧bJ t≤t.floor:=by
 have s:=fC t.floor
 unfold bJ
 split <;> omega
theorem qB {f n:Int} (h:dV f≤n) (hn:n<f) (hc:bw n=true):n=dV f:=by
 have s:=fC f
 by_cases e:dV f<n
 ·exact absurd hc (s.2.2.2 n e hn)
 ·omega
theorem qG {f n:Int} (h:dV f≤n) (hc:¬bw n=true):dV f<n:=by
 have s:=fC f
 by_cases e:n=dV f
 ·rw[e] at hc;exact absurd s.2.2.1 hc
 ·omega
noncomputable def aQ (n:Int):Int:=if h:bw n=true then Classical.choose (yK h) else 0
theorem cT {n:Int} (h:bw n=true):n+28≤aQ n∧aQ n≤n+31∧bw (aQ n)=true∧∀k,n<k→k<aQ n→¬bw k=true:=by
 unfold aQ
 rw[dif_pos h]
 exact Classical.choose_spec (yK h)
theorem wj {n m:Int} (h:bw n=true) (h1:n<m) (h2:m≤aQ n) (hc:bw m=true):m=aQ n:=by
 have s:=cT h
 by_cases e:m<aQ n
 ·exact absurd hc (s.2.2.2 m h1 e)
 ·omega
theorem Eg (p:Rat→Bool) (v1 v2:Value) (q1 q2:Rat) (i k j:Nat) (w:World) (h1:Rq w v1 (hlo p q1 q2 i)) (h2:Rq w v2 (hhi p q1 q2 i)) (hl:ah (hlo p q1 q2 i) k) (hm:ah (hhi p q1 q2 i) j) (hk:k≤1000) (hj:j≤1000):
 Calls Tryz.prog 243 #[v1,v2] w (bl w (hmi p q1 q2 i)):=by
 have h:=ER v1 v2 _ _ k j w h1 h2 hl hm hk hj
 rwa[Iu] at h
theorem IG (v1 v2:Value) (q1 q2:Rat) (k j:Nat) (h:Int) (N:Nat) (kf:FuncId) (cap:Array Value) (p:Rat→Bool) (w:World) (h1:Rq w v1 q1) (h2:Rq w v2 q2) (l1:ah q1 k) (l2:ah q2 j) (hk:k≤300) (hj:j≤300) (hN:min (max h 0) 64=((N:Nat):Int)) (hN2:N≤64) (hask:mL w kf cap (2*k+j+8) p):
 Calls Tryz.prog 234 #[v1,v2,.int .i64 h,.func (.func kf) #[] cap] w ((fun e w'=>∃v u,e= .returned (.tuple #[v,u])∧Rq w' v (hlo p q1 q2 N)∧Rq w' u (hhi p q1 q2 N)∧Below w.heap.size w w')):=by
 obtain⟨fn,hfn1,hfn2,hfn3⟩:=hask.fn
 have st:=St.start w
 refine E.enter (nt:=33) (L:=[(0,v1),(1,v2),(2,.int .i64 h),(3,.func (.func kf) #[] cap)]) Tryz.func234 rfl rfl rfl (aP (i:=0) rfl (aP (i:=1) rfl (aP (i:=2) rfl (aP (i:=3) rfl dP)))) ?_
 intro a hF
 refine wq ?_
 obtain⟨r2,rfl⟩:=Rq.fo h1
 refine bx st hF 0 rfl rfl fun g4 w1 a st hF=>?_
 obtain⟨r4,rfl⟩:=Rq.fo h2
 refine bx st hF 2 rfl rfl fun g5 w3 a st hF=>?_
 refine S.alloc st hF aa rfl rfl fun g8 w5 a st hF=>?_
 refine S.alloc st hF aa rfl rfl fun g9 w6 a st hF=>?_
 refine E.nil ?_
 refine E.scope (fun mq a wv=>∃(i:Nat) (bb5:Bool) (aa5:Option Addr) (nn5:Nat) (cc5:Nat) (ee5:Option Addr) (mm5:Nat) (dd5:Nat) (bb4:Bool) (aa4:Option Addr) (nn4:Nat) (cc4:Nat) (ee4:Option Addr) (mm4:Nat) (dd4:Nat),i≤N∧Fr 33 a [(10,.int .i64 (((N:Nat):Int)-((i:Nat):Int))),(9,.pointer (some ⟨g9,0,none⟩)),(8,.pointer (some ⟨g8,0,none⟩)),(5,.pointer (some ⟨g5,0,none⟩)),(4,.pointer (some ⟨g4,0,none⟩)),(3,.func (.func kf) #[] cap)]∧St w wv [(g9,[.bool false,.slice none 0 0,.slice none 0 0]),(g8,[.bool false,.slice none 0 0,.slice none 0 0]),(g5,[.bool bb5,.slice aa5 nn5 cc5,.slice ee5 mm5 dd5]),(g4,[.bool bb4,.slice aa4 nn4 cc4,.slice ee4 mm4 dd4])] [fun w=>Rq w (.agg #[.bool bb5,.slice aa5 nn5 cc5,.slice ee5 mm5 dd5]) (hhi p q1 q2 i),fun w=>Rq w (.agg #[.bool bb4,.slice aa4 nn4 cc4,.slice ee4 mm4 dd4]) (hlo p q1 q2 i)]∧mq=N-i) rfl ?_ ?_
 ·refine E.seq ?_
  refine oM hF 6 rfl rfl fun a hF=>oV hF (bI (aI hF.o ar) rT) rfl fun a hF=>oV hF (bI (aI hF.o ar) mt) rfl fun a hF=>oA hF 0 rfl rfl fun a hF=>?_
  refine E.nil0 ?_
  replace hF:Fr 33 a [(10,.int .i64 (((N:Nat):Int)-((0:Nat):Int))),(14,.int .i64 (min (max h 0) 64)),(13,.int .i64 (max h 0)),(12,.int .i64 h),(9,.pointer (some ⟨g9,0,none⟩)),(8,.pointer (some ⟨g8,0,none⟩)),(5,.pointer (some ⟨g5,0,none⟩)),(4,.pointer (some ⟨g4,0,none⟩)),(0,r2.v),(1,r4.v),(2,.int .i64 h),(3,.func (.func kf) #[] cap)]:=by rw[show((N:Nat):Int)-((0:Nat):Int)=min (max h 0) 64 from by rw[hN];simp];exact hF
  refine E.norm ?_
  exact⟨(N-0),0,_,_,_,_,_,_,_,_,_,_,_,_,_,_,(by omega),Fr.pick (L':=[(10,.int .i64 (((N:Nat):Int)-((0:Nat):Int))),(9,.pointer (some ⟨g9,0,none⟩)),(8,.pointer (some ⟨g8,0,none⟩)),(5,.pointer (some ⟨g5,0,none⟩)),(4,.pointer (some ⟨g4,0,none⟩)),(3,.func (.func kf) #[] cap)]) hF [0,4,5,6,7,11] rfl,((st.add (Rq.castM (h1.below st.bel) (wI p q1 q2).symm) (Rq.cl _)).add (Rq.castM (h2.below st.bel) (wR p q1 q2).symm) (Rq.cl _)).pick [0,1,2,3] [0,1] rfl rfl (by decide),rfl⟩
 ·rintro mq a w7 ⟨i,bb5,aa5,nn5,cc5,ee5,mm5,dd5,bb4,aa4,nn4,cc4,ee4,mm4,dd4,hi,hF,st,hm⟩
  refine wp_seq ?_
  refine wq ?_
  refine oM hF 0 rfl rfl fun a hF=>?_
  by_cases hc8:((N:Nat):Int)-((i:Nat):Int)=0
  ·refine oT hF 0 (a6 (c:=true) (aL hc8)) rfl rfl fun a hF=>?_
   refine E.nil ?_
   refine wp_cond_true hF.o ?_
   refine wp_seq ?_
   refine E.ret2 (i0:=3) (i1:=2) (j0:=1) (j1:=0) aF st hF aa (fun a hF=>ch (hF.at 6 rfl)) (fun a hF=>ch (hF.at 5 rfl)) (fun a hF=>ch (hF.at 4 rfl)) (fun a hF=>ch (hF.at 3 rfl)) rfl rfl rfl rfl rfl rfl rfl rfl rfl rfl rfl rfl (by decide) (by decide) (by decide) (by decide) (by decide) (by decide) rfl rfl rfl rfl (by decide+kernel) (by decide+kernel) (by decide+kernel) fun w9 a st hF=>?_
   refine E.norm ?_
   refine wp_ret ?_
   refine E.pastr ?_
   refine E.jumpr ?_
   have bel:=st.bel
   refine bodyPost_ret (fF Tryz.results234 (hF.at 4 rfl) (bF aa (st.bk 1 rfl) rfl) (hF.at 3 rfl) (bF aa (st.bk 0 rfl) rfl)) hF.dfr ?_
   have e:i=N:=by omega
   subst e
   exact⟨_,_,rfl,(st.f 1 rfl),(st.f 0 rfl),bel⟩
  ·refine oT hF 0 (a6 (c:=false) (aV hc8)) rfl rfl fun a hF=>?_
   refine E.nil ?_
   refine wp_cond_false hF.o ?_
   refine wp_skip ?_
   refine E.norm ?_
   refine wq ?_
   refine oM hF 2 rfl rfl fun a hF=>oV hF (aq hF.o ar ab (bN (by omega) (by omega))) rfl fun a hF=>oE hF 0 rfl rfl fun a hF=>ns ?_
   refine wq ?_
   refine oL hF st 8 3 aa rfl rfl rfl rfl fun a hF=>oL hF st 8 2 aa rfl rfl rfl rfl fun a hF=>?_
   refine ca st hF (rk MN (aI hF.p hF.o)) (Eg p _ _ q1 q2 i (2*k+j+8) (2*k+j+8) _ (st.f 1 rfl) (st.f 0 rfl) (Hj (p:=p) l1 l2 (by omega)) (yG (p:=p) l1 l2 (by omega)) (by omega) (by omega)) (fun _ _ h=>h) Rq.cl rfl fun vv11 w10 a st hF=>?_
   obtain⟨r13,rfl⟩:=Rq.fo (st.f 0 rfl)
   refine S.new st hF 0 rfl aa rfl rfl rfl rfl rfl fun g11 w14 a st hF=>?_
   refine nq ?_
   refine oM hF 13 rfl rfl fun a hF=>oV hF (aq hF.o ar I9 JW) rfl fun a hF=>oM hF 0 rfl rfl fun a hF=>og hF (aN (hF.at 16 rfl)) 0 rfl rfl rfl fun a hF=>og hF (au (hF.at 4 rfl) (bF aa (st.bk 0 rfl) rfl)) 1 rfl rfl rfl fun a hF=>?_
   refine S.callxg st hF (aA rfl rfl hF.q rfl) (yH hF.p hfn1 hfn2 hfn3 (aD hF.o)) ((hask.below st.bel).ask _ (hmi p q1 q2 i) _ (Below.refl _ _) (st.f 0 rfl) ((Hl (p:=p) l1 l2 (by omega)).up _ (by omega))) rfl rfl rfl fun w15 a st hF=>?_
   refine oV hF (aH (hF.at 3 rfl) hF.o) rfl fun a hF=>?_
   refine E.nil ?_
   by_cases hc16:p (hmi p q1 q2 i)=true
   ·refine wp_cond_true (Eq.trans hF.o (congrArg Value.bool hc16)) ?_
    refine E.seq ?_
    refine oL hF st 7 0 aa rfl rfl rfl rfl fun a hF=>?_
    refine so st hF 3 19 0 aa rfl rfl rfl rfl fun w17 a st hF=>?_
    refine E.nil ?_
    refine wp_goto ?_
    refine E.jump ?_
    replace hF:Fr 33 a [(31,r13.v),(30,.bool (p (hmi p q1 q2 i))),(29,.bool (p (hmi p q1 q2 i))),(28,r13.v),(27,.func (.func kf) #[] cap),(26,.bool true),(25,.bool true),(24,.func (.func kf) #[] cap),(11,.pointer (some ⟨g11,0,none⟩)),(23,r13.v),(22,.agg #[.bool bb5,.slice aa5 nn5 cc5,.slice ee5 mm5 dd5]),(21,.agg #[.bool bb4,.slice aa4 nn4 cc4,.slice ee4 mm4 dd4]),(10,.int .i64 (((N:Nat):Int)-((i+1:Nat):Int))),(20,.int .i64 ((((N:Nat):Int)-((i:Nat):Int))-1)),(19,.int .i64 (((N:Nat):Int)-((i:Nat):Int))),(16,.bool false),(15,.int .i64 (((N:Nat):Int)-((i:Nat):Int))),(9,.pointer (some ⟨g9,0,none⟩)),(8,.pointer (some ⟨g8,0,none⟩)),(5,.pointer (some ⟨g5,0,none⟩)),(4,.pointer (some ⟨g4,0,none⟩)),(3,.func (.func kf) #[] cap)]:=by rw[show((N:Nat):Int)-((i+1:Nat):Int)=((N:Nat):Int)-((i:Nat):Int)-1 from by omega];exact hF
    exact⟨(N-(i+1)),by omega,⟨(i+1),_,_,_,_,_,_,_,_,_,_,_,_,_,_,(by omega),Fr.pick (L':=[(10,.int .i64 (((N:Nat):Int)-((i+1:Nat):Int))),(9,.pointer (some ⟨g9,0,none⟩)),(8,.pointer (some ⟨g8,0,none⟩)),(5,.pointer (some ⟨g5,0,none⟩)),(4,.pointer (some ⟨g4,0,none⟩)),(3,.func (.func kf) #[] cap)]) hF [12,17,18,19,20,21] rfl,((st.add (Rq.castM (st.f 2 rfl) (Gq hc16).symm) (Rq.cl _)).add (Rq.castM (st.f 0 rfl) (Gj hc16).symm) (Rq.cl _)).pick [1,2,3,4] [0,1] rfl rfl (by decide),rfl⟩⟩
   ·refine wp_cond_false (Eq.trans hF.o (congrArg Value.bool (eq_false_of_ne_true hc16))) ?_
    refine E.seq ?_
    refine oL hF st 7 0 aa rfl rfl rfl rfl fun a hF=>?_
    refine so st hF 4 20 0 aa rfl rfl rfl rfl fun w18 a st hF=>?_
    refine E.nil ?_
    refine wp_goto ?_
    refine E.jump ?_
    replace hF:Fr 33 a [(32,r13.v),(30,.bool (p (hmi p q1 q2 i))),(29,.bool (p (hmi p q1 q2 i))),(28,r13.v),(27,.func (.func kf) #[] cap),(26,.bool true),(25,.bool true),(24,.func (.func kf) #[] cap),(11,.pointer (some ⟨g11,0,none⟩)),(23,r13.v),(22,.agg #[.bool bb5,.slice aa5 nn5 cc5,.slice ee5 mm5 dd5]),(21,.agg #[.bool bb4,.slice aa4 nn4 cc4,.slice ee4 mm4 dd4]),(10,.int .i64 (((N:Nat):Int)-((i+1:Nat):Int))),(20,.int .i64 ((((N:Nat):Int)-((i:Nat):Int))-1)),(19,.int .i64 (((N:Nat):Int)-((i:Nat):Int))),(16,.bool false),(15,.int .i64 (((N:Nat):Int)-((i:Nat):Int))),(9,.pointer (some ⟨g9,0,none⟩)),(8,.pointer (some ⟨g8,0,none⟩)),(5,.pointer (some ⟨g5,0,none⟩)),(4,.pointer (some ⟨g4,0,none⟩)),(3,.func (.func kf) #[] cap)]:=by rw[show((N:Nat):Int)-((i+1:Nat):Int)=((N:Nat):Int)-((i:Nat):Int)-1 from by omega];exact hF
    exact⟨(N-(i+1)),by omega,⟨(i+1),_,_,_,_,_,_,_,_,_,_,_,_,_,_,(by omega),Fr.pick (L':=[(10,.int .i64 (((N:Nat):Int)-((i+1:Nat):Int))),(9,.pointer (some ⟨g9,0,none⟩)),(8,.pointer (some ⟨g8,0,none⟩)),(5,.pointer (some ⟨g5,0,none⟩)),(4,.pointer (some ⟨g4,0,none⟩)),(3,.func (.func kf) #[] cap)]) hF [12,17,18,19,20,21] rfl,((st.add (Rq.castM (st.f 0 rfl) (Gt (eq_false_of_ne_true hc16)).symm) (Rq.cl _)).add (Rq.castM (st.f 1 rfl) (Gp (eq_false_of_ne_true hc16)).symm) (Rq.cl _)).pick [1,2,3,4] [0,1] rfl rfl (by decide),rfl⟩⟩
end Go.Proofs.YtdbiegfmgabicaaGreatDoor
