import Derived.Test.YtgdpkknapcgcbaaGreatDoorKD15
import Derived.ScopeJumps
namespace Go.Proofs.YtgdpkknapcgcbaaGreatDoor
open Go.RowKit
set_option maxRecDepth 100000
set_option linter.unusedVariables false
set_option maxHeartbeats 8000000
section
section
section
variable {P:Program} {Q:Exit->Act->World->Prop} {a:Act} {w:World}
theorem E.scope {A rest:Code} {l:Nat} (I:Nat->Act->World->Prop) (hf:findLabel (A.seq ((Code.label l).seq rest)) l=some (Code.skip.seq rest))
 (h1:A.wp P (Exit.then (fun a' w'=>∃m,I m a' w') (Exit.jump l (fun a' w'=>∃m,I m a' w') Q)) a w)
 (h2:∀m a w,I m a w->rest.wp P (Exit.jump l (fun a' w'=>∃m',m'<m/\I m' a' w') Q) a w):(Code.scope (A.seq ((Code.label l).seq rest))).wp P Q a w:=by
 have pass:∀a w,(∃m,I m a w)->rest.wp P (Exit.jump l (fun a' w'=>(∃m,I m a' w')/\lst (fun m=>I m a' w')<lst fun m=>I m a w) Q) a w:=by
  rintro a w ⟨m,h⟩
  have hl:=kR (p:=fun m=>I m a w) h
  refine Code.wp_mono (fun e a' w' h'=>?_) (h2 _ a w hl.1)
  cases e with
  |goto l'=>
   obtain⟨e,m',h3,h4⟩:=h'
   exact⟨e,⟨m',h4⟩,Nat.lt_of_le_of_lt ((kR (p:=fun m=>I m a' w') h4).2 _ h4) h3⟩
  |_=>exact h'
 refine wp_scope_jumps l (fun a w=>∃m,I m a w) (fun a w=>lst fun m=>I m a w) hf (wp_seq ?_) fun a w h=>wp_seq (wp_skip (pass a w h))
 refine Code.wp_mono (fun e a' w' h'=>?_) h1
 cases e with
 |normal=>
  refine wp_seq (wp_label ?_)
  refine Code.wp_mono (fun e a'' w'' h3=>?_) (pass a' w' h')
  cases e with
  |goto l'=>exact⟨h3.1,h3.2.1⟩
  |_=>exact h3
 |_=>exact h'
theorem E.jump {l:Nat} {J:Act->World->Prop} (h:J a w):Exit.jump l J Q (.goto l) a w:=⟨rfl,h⟩
end
section
variable {P:Program} {dst:Option Tmp} {ty:TypeId} {pos:String} {af:Array Edge} {gd:Option (Nat×Bool)} {a:Act} {w:World}
theorem wO {f:FuncId} {xs ys:Array Operand} {us vs:Array Value} (h1:xs.map a.eval=us) (h2:ys.map a.eval=vs):(execOp a.eval ⟨dst,.makeFunc (.func f) xs ys,ty,pos,af,gd⟩).run P w= .ok (.value (.func (.func f) us vs)) w:=by
 subst h1;subst h2
 rfl
theorem uN {x:Operand} {f:FuncId} {fn:Func} {xs:Array Operand} {ts:Array TypeId} {args cap:Array Value} (hx:a.eval x= .func (.func f) #[] cap) (hf:P.funcs[f]?=some fn) (hn:(fn.name == "runtime.NumGoroutine")=false) (hb:fn.body.isNone=false) (h:xs.map a.eval=args):
 (execOp a.eval ⟨dst,.call ⟨.value x,xs,ts⟩,ty,pos,af,gd⟩).run P w= .ok (.enter f (args++cap)) w:=by
 have hn':fn.name≠ "runtime.NumGoroutine":=by simpa using hn
 have hb':fn.body≠none:=by
  intro e
  rw[e] at hb
  cases hb
 simp only [execOp,resolve,h,hx]
 simp[Deferred.ofValue,invoke,callFunc,hf,hn',hb',go_sem]
end
structure lh (W:World) (f:FuncId) (cap:Array Value) (K:Nat) (p:Rat->Bool):Prop where
 fn:∃fn,Tryz.prog.funcs[f]?=some fn/\(fn.name == "runtime.NumGoroutine")=false/\fn.body.isNone=false
 ask:∀v q w,Below W.heap.size W w->Rq w v q->ag q K->Calls Tryz.prog f (#[v]++cap) w (pR w (.bool (p q)))
theorem lh.below {W W':World} {f:FuncId} {cap:Array Value} {K:Nat} {p:Rat->Bool} (h:lh W f cap K p) (hb:Below W.heap.size W W'):lh W' f cap K p:=
 ⟨h.fn,fun v q w b=>h.ask v q w (hb.trans (b.mono hb.size))⟩
theorem lh.to {W:World} {f:FuncId} {cap:Array Value} {K K':Nat} {p:Rat->Bool} (h:lh W f cap K p) (hk:K'<=K):lh W f cap K' p:=
 ⟨h.fn,fun v q w b hv hl=>h.ask v q w b hv (hl.up _ hk)⟩
theorem H5 {f:FuncId} {us vs:Array Value} {w:World}:(Op.equal 61 (.func (.func f) us vs) .nilFunc).run Tryz.prog w= .ok false w:=by
 unfold Op.equal
 rw[show Op.maxDepth=(Op.maxDepth-1)+1 from rfl]
 unfold Op.equalIn
 simp[go_sem,run_underlying Tryz.underlying61]
theorem E7 {f:FuncId} {us vs:Array Value} {w:World}:(binOp .neq 61 (.func (.func f) us vs) .nilFunc).run Tryz.prog w= .ok (.bool true) w:=by
 simp[binOp,go_sem,H5]
section
variable {P:Program} {ops:Array Oper} {Q:Exit->Act->World->Prop} {W w:World} {bs:List (Nat×List Value)} {fs:List (World->Prop)} {nt d:Nat} {L:List (Nat×Value)} {rest:List Oper} {a:Act} {T:TypeId} {x y:Operand} {ty:TypeId} {pos:String} {af:Array Edge}
theorem S.boxI {z:Int} (st:St W w bs fs) (hF:Fr nt a L) (he:a.eval x= iv z) (hlt:Nat.blt d nt=true) (hf:a5 d L=true)
 (k:∀g w' a',St W w' ((g,[iv z])::bs) fs->Fr nt a' ((d,.pointer (some ⟨g,0,none⟩))::L)->wpS P ops Q rest a' w'):wpS P ops Q (⟨some d,.box T x,ty,pos,af,none⟩::rest) a w:=by
 obtain⟨g,w1,ge,hr,bb,o⟩:=uF (P:=P) (w:=w) (cs:=[iv z]) (v:= iv z) T rfl
 exact E.opv hF (CE he hr) rfl rfl hlt hf fun a' hF'=>k g w1 a' (st.new ge bb o) hF'
theorem S.newI {z:Int} {s:Nat} {ty':TypeId} {pos':String} {af':Array Edge} (st:St W w bs fs) (hF:Fr nt a L) (j:Nat) (hj:L[j]?=some (s,iv z)) (hs:(P.info? T).map (·.size)=some 1) (hz:(P.info? T).bind (·.zero)=some (iv 0)) (hlt:Nat.blt d nt=true) (hf:a5 d L=true)
 (k:∀g w' a',St W w' ((g,[iv z])::bs) fs->Fr nt a' ((d,.pointer (some ⟨g,0,none⟩))::L)->wpS P ops Q rest a' w'):wpS P ops Q (⟨some d,.alloc T,ty,pos,af,none⟩::⟨none,.store T (.tmp d) (.tmp s),ty',pos',af',none⟩::rest) a w:=by
 obtain⟨g,w1,ge,hr,bb,o⟩:=iw (P:=P) (w:=w) (cs:=[iv 0]) (v:= iv 0) T hz rfl
 refine E.opv hF (eB hr) rfl rfl hlt hf fun a1 hF1=>?_
 obtain⟨w2,hr2,tu,on⟩:=iE (P:=P) (o:=0) (vs:=[iv z]) (ws:=[iv z]) o hs rfl rfl (by intro v hv;rw[List.mem_singleton] at hv;subst hv;rfl) rfl
 refine E.st hF1 (dD (bH (hF1.at 0 rfl)) (bH (hF1.at (j+1) hj)) (hr2 _ rfl)) rfl rfl fun a2 hF2=>?_
 have b2:Below w.heap.size w w2:=tu.below bb (Nat.le_of_eq ge)
 exact k g w2 a2 (st.new ge b2 on) hF2
end
theorem EQ {op:BinOp} {t:TypeId} {x y:Operand} {f:FuncId} {us vs:Array Value} {w:World} {P:Program}:(eqGuard op t x y (.func (.func f) us vs) .nilFunc).run P w= .ok () w:=by
 simp[eqGuard,go_sem]
section
variable {P:Program} {Q:Exit->Act->World->Prop} {W w:World} {bs:List (Nat×List Value)} {fs:List (World->Prop)} {nt n:Nat} {L:List (Nat×Value)} {a:Act} {T:TypeId} {zs:List Value}
def bs2 (bs:List (Nat×List Value)) (j0 j1:Nat) (p0 p1:Nat×List Value) (b2 b3:Bool):List (Nat×List Value):=
 let b:=if b2=true then bs.set j0 p0 else bs
 if b3=true then b.set j1 p1 else b
theorem zI {j0 j1 i:Nat} {p0 p1:Nat×List Value} {b2 b3:Bool} (h0:i≠j0) (h1:i≠j1):(bs2 bs j0 j1 p0 p1 b2 b3)[i]?=bs[i]?:=by
 unfold bs2
 cases b2 <;> cases b3 <;> simp[List.getElem?_set_ne (Ne.symm h0),List.getElem?_set_ne (Ne.symm h1)]
theorem Hi {j0 j1:Nat} {p0 p1:Nat×List Value} {b3:Bool} (h:j0≠j1):(bs2 bs j0 j1 p0 p1 false b3)[j0]?=bs[j0]?:=by
 unfold bs2
 cases b3 <;> simp[List.getElem?_set_ne (Ne.symm h)]
theorem Hm {j0 j1:Nat} {p0 p1:Nat×List Value} {b2:Bool} (h:j0≠j1):(bs2 bs j0 j1 p0 p1 b2 false)[j1]?=bs[j1]?:=by
 unfold bs2
 cases b2 <;> simp[List.getElem?_set_ne h]
theorem tA {v:Value}:a.put none v=a:=rfl
theorem E.ret2 {id s0 s1 i0 i1 j0 j1 g0 g1 r0 r1:Nat} {x0 x1 y0 y1:Operand} {ty0 ty1 ty2 ty3:TypeId} {po0 po1 po2 po3:String} {af0 af1 af2 af3:Array Edge} {c0 c1 z0 z1:List Value}
 (hm:P.follows .mixedOrders =true) (st:St W w bs fs) (hF:Fr nt a L) (hT:Ty P T n zs)
 (hx0:∀a,Fr nt a L->a.eval x0= .pointer (some ⟨g0,0,none⟩)) (hx1:∀a,Fr nt a L->a.eval x1= .pointer (some ⟨g1,0,none⟩)) (hy0:∀a,Fr nt a L->a.eval y0= .pointer (some ⟨r0,0,none⟩)) (hy1:∀a,Fr nt a L->a.eval y1= .pointer (some ⟨r1,0,none⟩))
 (hb0:bs[i0]?=some (g0,c0)) (hb1:bs[i1]?=some (g1,c1)) (hr0:bs[j0]?=some (r0,z0)) (hr1:bs[j1]?=some (r1,z1))
 (l0:c0.length=n) (l1:c1.length=n) (m0:z0.length=n) (m1:z1.length=n) (k0:c0.all bR=true) (k1:c1.all bR=true) (q0:z0.all bR=true) (q1:z1.all bR=true)
 (d1:i0≠j0) (d2:i0≠j1) (d3:i1≠j0) (d4:i1≠j1) (d5:j0≠j1) (hs:s0≠s1) (lt0:Nat.blt s0 nt=true) (lt1:Nat.blt s1 nt=true) (f0:a5 s0 L=true) (f1:a5 s1 L=true)
 (hback:cT #[⟨some s0,.load T x0,ty0,po0,af0,none⟩,⟨some s1,.load T x1,ty1,po1,af1,none⟩,⟨none,.store T y0 (.tmp s0),ty2,po2,af2,none⟩,⟨none,.store T y1 (.tmp s1),ty3,po3,af3,none⟩]=true)
 (e2:(af2.any fun e=>Region.binds .any e && e.on == 0)=true) (e3:(af3.any fun e=>Region.binds .any e && e.on == 1)=true)
 (k:∀w' a',St W w' ((bs.set j0 (r0,c0)).set j1 (r1,c1)) fs->Fr nt a' L->Q .normal a' w'):
 (Code.region id #[⟨some s0,.load T x0,ty0,po0,af0,none⟩,⟨some s1,.load T x1,ty1,po1,af1,none⟩,⟨none,.store T y0 (.tmp s0),ty2,po2,af2,none⟩,⟨none,.store T y1 (.tmp s1),ty3,po3,af3,none⟩] true).wp P Q a w:=by
 have lt0':s0<nt:=by simpa using lt0
 have lt1':s1<nt:=by simpa using lt1
 refine iH hm hback (fun d a' w'=>Fr nt a' L/\(d 0=true->a'.tmps.getD s0 undef= .agg c0.toArray)/\(d 1=true->a'.tmps.getD s1 undef= .agg c1.toArray)/\St W w' (bs2 bs j0 j1 (r0,c0) (r1,c1) (d 2) (d 3)) fs) ?_ ?_ ?_
 ·exact⟨hF,(fun h=>by cases h),(fun h=>by cases h),st.to (Below.refl _ _).drew⟩
 ·rintro d a' w' ⟨hF',h0,h1,s⟩ i o ho hd hdep K hK
  have hi:i<4:=(Array.getElem?_eq_some_iff.1 ho).1
  have ups:∀j m,j≠m->up d j m=d m:=fun j m h=>by unfold up;rw[if_neg (Ne.symm h)]
  have upm:∀j,up d j j=true:=fun j=>by unfold up;rw[if_pos rfl]
  match i,hi with
  |0,_=>
   obtain rfl:=Option.some.inj ho
   rw[if_pos (bF rfl)]
   refine bA.val (ar (hx0 _ hF') (bh hT (s.bk i0 ((zI d1 d2).trans hb0)) l0)) K ?_
   rintro v w'' ⟨rfl,rfl⟩
   refine hK _ _ ⟨hF'.over f0,fun _=>eZ (by rw[hF'.size];exact lt0'),fun h=>?_,by rw[ups 0 2 (by decide),ups 0 3 (by decide)];exact s⟩
   rw[show(a'.put (some s0) (.agg c0.toArray)).tmps.getD s1 undef=a'.tmps.getD s1 undef from fi hs]
   exact h1 (by rwa[ups 0 1 (by decide)] at h)
  |1,_=>
   obtain rfl:=Option.some.inj ho
   rw[if_pos (bF rfl)]
   refine bA.val (ar (hx1 _ hF') (bh hT (s.bk i1 ((zI d3 d4).trans hb1)) l1)) K ?_
   rintro v w'' ⟨rfl,rfl⟩
   refine hK _ _ ⟨hF'.over f1,fun h=>?_,fun _=>eZ (by rw[hF'.size];exact lt1'),by rw[ups 1 2 (by decide),ups 1 3 (by decide)];exact s⟩
   rw[show(a'.put (some s1) (.agg c1.toArray)).tmps.getD s0 undef=a'.tmps.getD s0 undef from fi (Ne.symm hs)]
   exact h0 (by rwa[ups 1 0 (by decide)] at h)
  |2,_=>
   obtain rfl:=Option.some.inj ho
   rw[if_pos (bF rfl)]
   have hd0:d 0=true:=by
    obtain⟨e,he,hb⟩:=Array.any_eq_true'.1 e2
    rw[Bool.and_eq_true,beq_iff_eq] at hb
    have:=hdep e he hb.1
    rwa[hb.2] at this
   have hd2:d 2=false:=hd
   rw[hd2] at s
   have hj:(bs2 bs j0 j1 (r0,c0) (r1,c1) false (d 3))[j0]?=some (r0,z0):=(Hi d5).trans hr0
   obtain⟨w1,hr,tu,on⟩:=gp (P:=P) (o:=0) (ws:=c0) (s.b j0 hj q0) hT.s l0 (by simp[m0]) (bR.oc k0) (bR.ni k0) (by subst l0;simp[m0])
   refine bA.skip (dD (hy0 _ hF') (show a'.eval (.tmp s0)= .agg c0.toArray from bH (h0 hd0)) (hr _ rfl)) K ?_
   rintro v w'' ⟨rfl,rfl⟩
   have s2:=s.set j0 hj q0 tu on.blk
   rw[tA]
   refine hK _ _ ⟨hF',fun h=>h0 (by rwa[ups 2 0 (by decide)] at h),fun h=>h1 (by rwa[ups 2 1 (by decide)] at h),?_⟩
   rw[upm,ups 2 3 (by decide)]
   have e:(bs2 bs j0 j1 (r0,c0) (r1,c1) false (d 3)).set j0 (r0,c0)=bs2 bs j0 j1 (r0,c0) (r1,c1) true (d 3):=by
    unfold bs2
    cases d 3
    ·rfl
    ·exact List.set_comm _ _ (Ne.symm d5)
   rw[<-e];exact s2
  |3,_=>
   obtain rfl:=Option.some.inj ho
   rw[if_pos (bF rfl)]
   have hd1:d 1=true:=by
    obtain⟨e,he,hb⟩:=Array.any_eq_true'.1 e3
    rw[Bool.and_eq_true,beq_iff_eq] at hb
    have:=hdep e he hb.1
    rwa[hb.2] at this
   have hd3:d 3=false:=hd
   rw[hd3] at s
   have hj:(bs2 bs j0 j1 (r0,c0) (r1,c1) (d 2) false)[j1]?=some (r1,z1):=(Hm d5).trans hr1
   obtain⟨w1,hr,tu,on⟩:=gp (P:=P) (o:=0) (ws:=c1) (s.b j1 hj q1) hT.s l1 (by simp[m1]) (bR.oc k1) (bR.ni k1) (by subst l1;simp[m1])
   refine bA.skip (dD (hy1 _ hF') (show a'.eval (.tmp s1)= .agg c1.toArray from bH (h1 hd1)) (hr _ rfl)) K ?_
   rintro v w'' ⟨rfl,rfl⟩
   have s2:=s.set j1 hj q1 tu on.blk
   rw[tA]
   refine hK _ _ ⟨hF',fun h=>h0 (by rwa[ups 3 0 (by decide)] at h),fun h=>h1 (by rwa[ups 3 1 (by decide)] at h),?_⟩
   rw[upm,ups 3 2 (by decide)]
   have e:(bs2 bs j0 j1 (r0,c0) (r1,c1) (d 2) false).set j1 (r1,c1)=bs2 bs j0 j1 (r0,c0) (r1,c1) (d 2) true:=by
    unfold bs2
    cases d 2 <;> rfl
   rw[<-e];exact s2
 ·rintro d a' w' ⟨hF',h0,h1,s⟩ hall
  refine k w' a' ?_ hF'
  rw[hall 2 (by show 2<4;decide),hall 3 (by show 3<4;decide)] at s
  exact s
end
theorem C1 {a:Act} {x0 x1 x2 x3:Operand} {u0 u1 u2 u3:Value} (h0:a.eval x0=u0) (h1:a.eval x1=u1) (h2:a.eval x2=u2) (h3:a.eval x3=u3):#[x0,x1,x2,x3].map a.eval=#[u0,u1,u2,u3]:=by simp[h0,h1,h2,h3]
end
end
theorem y8:(Tryz.prog.info? 2).bind (·.zero)=some (iv 0):=by kernel_rfl
structure rH (W:World) (f:FuncId) (cap:Array Value) (n:Int) (p:Int->Bool):Prop where
 fn:∃fn,Tryz.prog.funcs[f]?=some fn/\(fn.name == "runtime.NumGoroutine")=false/\fn.body.isNone=false
 ask:∀h w,Below W.heap.size W w->0<=h->h<n->Calls Tryz.prog f (#[iv h]++cap) w (pR w (.bool (p h)))
theorem rH.below {W W':World} {f:FuncId} {cap:Array Value} {n:Int} {p:Int->Bool} (h:rH W f cap n p) (hb:Below W.heap.size W W'):rH W' f cap n p:=
 ⟨h.fn,fun v w b h0 h1=>h.ask v w (hb.trans (b.mono hb.size)) h0 h1⟩
theorem Fy {P:Program} {w:World} {t:TypeId} {a:Int} {k:IntKind} {n:Nat} (hn:n<64) {d:Int} (hd:(2:Int)^n=d):(binOp .shr t (.int .u64 a) (.int k (n:Nat))).run P w= .ok (.int .u64 (a/d)) w:=by
 subst hd
 have e:min (((n:Nat):Int).toNat) IntKind.u64.bits=n:=by simp[IntKind.bits];omega
 have h0:¬(((n:Nat):Int)<0):=by omega
 simp only [binOp,Op.shift,if_neg h0,e]
 rw[Int.fdiv_eq_ediv_of_nonneg _ (by exact Int.le_of_lt (Int.pow_pos (by decide)))]
 rfl
theorem uH {P:Program} {w:World} {s t:TypeId} {k k0 k':IntKind} {a:Int} (hs:P.underlying s=some (.int k0)) (ht:P.underlying t=some (.int k')) (h:k'.wrap a=a):(convert s t (.int k a)).run P w= .ok (.int k' a) w:=by
 unfold convert
 simp only [Sem.run_bind,run_underlying hs,run_underlying ht,Result.andThen_ok]
 show(Conv.intToInt k' a).run P w=_
 unfold Conv.intToInt
 rw[h]
 rfl
theorem wY (n k:Int) (kf:FuncId) (cap:Array Value) (p:Int->Bool) (w:World) (hn:n<=1000000) (hk0:0<=k) (hk:k<=n) (hp:∀h,0<=h->h<n->(p h=true↔k<=h)) (hask:rH w kf cap n p):
 CV 106 #[iv n,.func (.func kf) #[] cap] w (iv k):=by
 obtain⟨fn,hfn1,hfn2,hfn3⟩:=hask.fn
 refine gs2 (nt:=26) Tryz.func106 rfl rfl rfl fun a st hF=>wq ?_
 refine oC hF rfl fun a hF=>nq ?_
 refine oM hF 1 rfl rfl fun a hF=>oC hF rfl fun a hF=>oA hF 1 rfl rfl fun a hF=>ns<|wp_block ?_
 refine E.loop (fun mq a wv=>∃(i:Int) (j:Int),0<=i/\i<=k/\k<=j/\j<=n/\Fr 26 a [(6,iv j),(5,iv i),(4,iv 0),(1,.func (.func kf) #[] cap)]/\St w wv [] []/\mq=(j-i:Int).toNat) (((n)-(0):Int).toNat) ?_ ?_
 ·exact⟨(0:Int),(n:Int),(by omega),(by omega),(by omega),(by omega),Fr.pick (L':=[(6,iv n),(5,iv 0),(4,iv 0),(1,.func (.func kf) #[] cap)]) hF [0,1,3,5] rfl,st.pick [] [] rfl rfl (by decide),rfl⟩
 ·rintro mq a w1 ⟨i,j,hi0,hik,hkj,hjn,hF,st,hm⟩
  refine wp_seq<|wq<|oM hF 1 rfl rfl fun a hF=>oM hF 1 rfl rfl fun a hF=>?_
  by_cases hc2:i<j
  ·refine oU hF 1 0 (bC (c:=true) (aJ hc2)) rfl rfl rfl fun a hF=>E.nil<|wp_cond_true hF.o<|wp_skip<|E.norm<|wp_block<|wq<|oM hF 4 rfl rfl fun a hF=>oM hF 4 rfl rfl fun a hF=>oV hF (ao hF.p hF.o ab (aU (by omega) (by omega))) rfl fun a hF=>oV hF (lW hF.o (uH (k':= .u64) Tryz.underlying3 Tryz.underlying172 (IntWalk.u64_in _ ⟨by omega,by omega⟩))) rfl fun a hF=>oV hF (ao hF.o ah ab (Fy (n:=1) (by decide) (d:=2) (by decide))) rfl fun a hF=>oV hF (lW hF.o (uH (k':= .i64) Tryz.underlying172 Tryz.underlying3 (IntWalk.i64_in _ ⟨by omega,by omega⟩))) rfl fun a hF=>oA hF 0 rfl rfl fun a hF=>?_
   refine nq<|oM hF 13 rfl rfl fun a hF=>oM hF 1 rfl rfl fun a hF=>cX st hF (uN hF.p hfn1 hfn2 hfn3 (aC hF.o)) ((hask.below st.bel).ask ((i+j)/2) _ (Below.refl _ _) (by omega) (by omega)) rfl fun w3 a st hF=>?_
   by_cases hc4:p ((i+j)/2)=true
   ·refine oV hF (fZ (Eq.trans hF.o (congrArg Value.bool hc4)) (eo _ false rfl)) rfl fun a hF=>E.nil<|wp_cond_false hF.o<|E.seq<|oM hF 4 rfl rfl fun a hF=>oE hF 0 rfl rfl fun a hF=>E.nil0<|E.blk<|E.norm ?_
    have hq:=hp ((i+j)/2) (by omega) (by omega)
    have hq2:=hq.1 hc4
    exact⟨(((i+j)/2)-(i):Int).toNat,by omega,⟨(i:Int),((i+j)/2:Int),(by omega),(by omega),(by omega),(by omega),Fr.pick (L':=[(6,iv ((i+j)/2)),(5,iv i),(4,iv 0),(1,.func (.func kf) #[] cap)]) hF [0,16,17,18] rfl,st.pick [] [] rfl rfl (by decide),rfl⟩⟩
   ·refine oV hF (fZ (Eq.trans hF.o (congrArg Value.bool (eq_false_of_ne_true hc4))) (eo _ true rfl)) rfl fun a hF=>E.nil<|wp_cond_true hF.o<|E.seq<|oM hF 4 rfl rfl fun a hF=>oV hF (ao hF.o ah ab (aU (by omega) (by omega))) rfl fun a hF=>oE hF 0 rfl rfl fun a hF=>E.nil0<|E.blk<|E.norm ?_
    have hq:=hp ((i+j)/2) (by omega) (by omega)
    have hq2:¬k<=((i+j)/2):=fun e=>hc4 (hq.2 e)
    exact⟨((j)-(((i+j)/2)+1):Int).toNat,by omega,⟨(((i+j)/2)+1:Int),(j:Int),(by omega),(by omega),(by omega),(by omega),Fr.pick (L':=[(6,iv j),(5,iv (((i+j)/2)+1)),(4,iv 0),(1,.func (.func kf) #[] cap)]) hF [17,0,18,19] rfl,st.pick [] [] rfl rfl (by decide),rfl⟩⟩
  ·refine oU hF 1 0 (bC (c:=false) (aH hc2)) rfl rfl rfl fun a hF=>E.nil<|wp_cond_false hF.o<|wp_exit<|E.past<|E.past<|E.out (id:=0)<|E.norm<|wq ?_
   refine oM hF 4 rfl rfl fun a hF=>oE hF 0 rfl rfl fun a hF=>nr ?_
   have bel:=st.bel
   refine rt Tryz.results106 hF 0 rfl ?_
   refine⟨bU ?_,bel⟩
   omega
end Go.Proofs.YtgdpkknapcgcbaaGreatDoor
