import Derived.Test.YtgdpkknapcgcbaaGreatDoorKA24
import Derived.ScopeJumps
namespace Go.Proofs.YtgdpkknapcgcbaaGreatDoor
open Go.RowKit
set_option maxRecDepth 100000
set_option linter.unusedVariables false
set_option maxHeartbeats 8000000
section
section
section
variable {P:Program} {Q:Exit->Act->World->Prop} {a:Act} {w:World}
theorem E.scope {A rest:Code} {l:Nat} (I:Nat->Act->World->Prop) (hf:findLabel (A.seq ((Code.label l).seq rest)) l=some (Code.skip.seq rest))
 (h1:A.wp P (Exit.then (fun a' w'=>∃m,I m a' w') (Exit.jump l (fun a' w'=>∃m,I m a' w') Q)) a w)
 (h2:∀m a w,I m a w->rest.wp P (Exit.jump l (fun a' w'=>∃m',m'<m/\I m' a' w') Q) a w):(Code.scope (A.seq ((Code.label l).seq rest))).wp P Q a w:=by
 have pass:∀a w,(∃m,I m a w)->rest.wp P (Exit.jump l (fun a' w'=>(∃m,I m a' w')/\lst (fun m=>I m a' w')<lst fun m=>I m a w) Q) a w:=by
  rintro a w ⟨m,h⟩
  have hl:=me (p:=fun m=>I m a w) h
  refine Code.wp_mono (fun e a' w' h'=>?_) (h2 _ a w hl.1)
  cases e with
  |goto l'=>
   obtain⟨e,m',h3,h4⟩:=h'
   exact⟨e,⟨m',h4⟩,Nat.lt_of_le_of_lt ((me (p:=fun m=>I m a' w') h4).2 _ h4) h3⟩
  |_=>exact h'
 refine wp_scope_jumps l (fun a w=>∃m,I m a w) (fun a w=>lst fun m=>I m a w) hf (wp_seq ?_) fun a w h=>wp_seq (wp_skip (pass a w h))
 refine Code.wp_mono (fun e a' w' h'=>?_) h1
 cases e with
 |normal=>
  refine wp_seq (wp_label ?_)
  refine Code.wp_mono (fun e a'' w'' h3=>?_) (pass a' w' h')
  cases e with
  |goto l'=>exact⟨h3.1,h3.2.1⟩
  |_=>exact h3
 |_=>exact h'
theorem E.jump {l:Nat} {J:Act->World->Prop} (h:J a w):Exit.jump l J Q (.goto l) a w:=⟨rfl,h⟩
end
section
variable {P:Program} {dst:Option Tmp} {ty:TypeId} {pos:String} {af:Array Edge} {gd:Option (Nat×Bool)} {a:Act} {w:World}
theorem yY {f:FuncId} {xs ys:Array Operand} {us vs:Array Value} (h1:xs.map a.eval=us) (h2:ys.map a.eval=vs):(execOp a.eval ⟨dst,.makeFunc (.func f) xs ys,ty,pos,af,gd⟩).run P w= .ok (.value (.func (.func f) us vs)) w:=by
 subst h1;subst h2
 rfl
theorem xH {x:Operand} {f:FuncId} {fn:Func} {xs:Array Operand} {ts:Array TypeId} {args cap:Array Value} (hx:a.eval x= .func (.func f) #[] cap) (hf:P.funcs[f]?=some fn) (hn:(fn.name == "runtime.NumGoroutine")=false) (hb:fn.body.isNone=false) (h:xs.map a.eval=args):
 (execOp a.eval ⟨dst,.call ⟨.value x,xs,ts⟩,ty,pos,af,gd⟩).run P w= .ok (.enter f (args++cap)) w:=by
 have hn':fn.name≠ "runtime.NumGoroutine":=by simpa using hn
 have hb':fn.body≠none:=by
  intro e
  rw[e] at hb
  cases hb
 simp only [execOp,resolve,h,hx]
 simp[Deferred.ofValue,invoke,callFunc,hf,hn',hb',go_sem]
end
structure mW (W:World) (f:FuncId) (cap:Array Value) (K:Nat) (p:Rat->Bool):Prop where
 fn:∃fn,Tryz.prog.funcs[f]?=some fn/\(fn.name == "runtime.NumGoroutine")=false/\fn.body.isNone=false
 ask:∀v q w,Below W.heap.size W w->Rq w v q->ah q K->Calls Tryz.prog f (#[v]++cap) w (yi w (.bool (p q)))
theorem mW.below {W W':World} {f:FuncId} {cap:Array Value} {K:Nat} {p:Rat->Bool} (h:mW W f cap K p) (hb:Below W.heap.size W W'):mW W' f cap K p:=
 ⟨h.fn,fun v q w b=>h.ask v q w (hb.trans (b.mono hb.size))⟩
theorem mW.to {W:World} {f:FuncId} {cap:Array Value} {K K':Nat} {p:Rat->Bool} (h:mW W f cap K p) (hk:K'<=K):mW W f cap K' p:=
 ⟨h.fn,fun v q w b hv hl=>h.ask v q w b hv (hl.up _ hk)⟩
theorem Lt {f:FuncId} {us vs:Array Value} {w:World}:(Op.equal 61 (.func (.func f) us vs) .nilFunc).run Tryz.prog w= .ok false w:=by
 unfold Op.equal
 rw[show Op.maxDepth=(Op.maxDepth-1)+1 from rfl]
 unfold Op.equalIn
 simp[go_sem,run_underlying Tryz.underlying61]
theorem Jk {f:FuncId} {us vs:Array Value} {w:World}:(binOp .neq 61 (.func (.func f) us vs) .nilFunc).run Tryz.prog w= .ok (.bool true) w:=by
 simp[binOp,go_sem,Lt]
section
variable {P:Program} {ops:Array Oper} {Q:Exit->Act->World->Prop} {W w:World} {bs:List (Nat×List Value)} {fs:List (World->Prop)} {nt d:Nat} {L:List (Nat×Value)} {rest:List Oper} {a:Act} {T:TypeId} {x y:Operand} {ty:TypeId} {pos:String} {af:Array Edge}
theorem S.boxI {z:Int} (st:St W w bs fs) (hF:Fr nt a L) (he:a.eval x= iv z) (hlt:Nat.blt d nt=true) (hf:aZ d L=true)
 (k:∀g w' a',St W w' ((g,[iv z])::bs) fs->Fr nt a' ((d,.pointer (some ⟨g,0,none⟩))::L)->wpS P ops Q rest a' w'):wpS P ops Q (⟨some d,.box T x,ty,pos,af,none⟩::rest) a w:=by
 obtain⟨g,w1,ge,hr,bb,o⟩:=xr (P:=P) (w:=w) (cs:=[iv z]) (v:= iv z) T rfl
 exact E.opv hF (qH he hr) rfl rfl hlt hf fun a' hF'=>k g w1 a' (st.new ge bb o) hF'
theorem S.newI {z:Int} {s:Nat} {ty':TypeId} {pos':String} {af':Array Edge} (st:St W w bs fs) (hF:Fr nt a L) (j:Nat) (hj:L[j]?=some (s,iv z)) (hs:(P.info? T).map (·.size)=some 1) (hz:(P.info? T).bind (·.zero)=some (iv 0)) (hlt:Nat.blt d nt=true) (hf:aZ d L=true)
 (k:∀g w' a',St W w' ((g,[iv z])::bs) fs->Fr nt a' ((d,.pointer (some ⟨g,0,none⟩))::L)->wpS P ops Q rest a' w'):wpS P ops Q (⟨some d,.alloc T,ty,pos,af,none⟩::⟨none,.store T (.tmp d) (.tmp s),ty',pos',af',none⟩::rest) a w:=by
 obtain⟨g,w1,ge,hr,bb,o⟩:=jn (P:=P) (w:=w) (cs:=[iv 0]) (v:= iv 0) T hz rfl
 refine E.opv hF (de hr) rfl rfl hlt hf fun a1 hF1=>?_
 obtain⟨w2,hr2,tu,on⟩:=hO (P:=P) (o:=0) (vs:=[iv z]) (ws:=[iv z]) o hs rfl rfl (by intro v hv;rw[List.mem_singleton] at hv;subst hv;rfl) rfl
 refine E.st hF1 (cF (bS (hF1.at 0 rfl)) (bS (hF1.at (j+1) hj)) (hr2 _ rfl)) rfl rfl fun a2 hF2=>?_
 have b2:Below w.heap.size w w2:=tu.below bb (Nat.le_of_eq ge)
 exact k g w2 a2 (st.new ge b2 on) hF2
end
theorem Hn {op:BinOp} {t:TypeId} {x y:Operand} {f:FuncId} {us vs:Array Value} {w:World} {P:Program}:(eqGuard op t x y (.func (.func f) us vs) .nilFunc).run P w= .ok () w:=by
 simp[eqGuard,go_sem]
section
variable {P:Program} {Q:Exit->Act->World->Prop} {W w:World} {bs:List (Nat×List Value)} {fs:List (World->Prop)} {nt n:Nat} {L:List (Nat×Value)} {a:Act} {T:TypeId} {zs:List Value}
def bs2 (bs:List (Nat×List Value)) (j0 j1:Nat) (p0 p1:Nat×List Value) (b2 b3:Bool):List (Nat×List Value):=
 let b:=if b2=true then bs.set j0 p0 else bs
 if b3=true then b.set j1 p1 else b
theorem Ai {j0 j1 i:Nat} {p0 p1:Nat×List Value} {b2 b3:Bool} (h0:i≠j0) (h1:i≠j1):(bs2 bs j0 j1 p0 p1 b2 b3)[i]?=bs[i]?:=by
 unfold bs2
 cases b2 <;> cases b3 <;> simp[List.getElem?_set_ne (Ne.symm h0),List.getElem?_set_ne (Ne.symm h1)]
theorem KB {j0 j1:Nat} {p0 p1:Nat×List Value} {b3:Bool} (h:j0≠j1):(bs2 bs j0 j1 p0 p1 false b3)[j0]?=bs[j0]?:=by
 unfold bs2
 cases b3 <;> simp[List.getElem?_set_ne (Ne.symm h)]
theorem Lh {j0 j1:Nat} {p0 p1:Nat×List Value} {b2:Bool} (h:j0≠j1):(bs2 bs j0 j1 p0 p1 b2 false)[j1]?=bs[j1]?:=by
 unfold bs2
 cases b2 <;> simp[List.getElem?_set_ne h]
theorem vz {v:Value}:a.put none v=a:=rfl
theorem E.ret2 {id s0 s1 i0 i1 j0 j1 g0 g1 r0 r1:Nat} {x0 x1 y0 y1:Operand} {ty0 ty1 ty2 ty3:TypeId} {po0 po1 po2 po3:String} {af0 af1 af2 af3:Array Edge} {c0 c1 z0 z1:List Value}
 (hm:P.follows .mixedOrders =true) (st:St W w bs fs) (hF:Fr nt a L) (hT:Ty P T n zs)
 (hx0:∀a,Fr nt a L->a.eval x0= .pointer (some ⟨g0,0,none⟩)) (hx1:∀a,Fr nt a L->a.eval x1= .pointer (some ⟨g1,0,none⟩)) (hy0:∀a,Fr nt a L->a.eval y0= .pointer (some ⟨r0,0,none⟩)) (hy1:∀a,Fr nt a L->a.eval y1= .pointer (some ⟨r1,0,none⟩))
 (hb0:bs[i0]?=some (g0,c0)) (hb1:bs[i1]?=some (g1,c1)) (hr0:bs[j0]?=some (r0,z0)) (hr1:bs[j1]?=some (r1,z1))
 (l0:c0.length=n) (l1:c1.length=n) (m0:z0.length=n) (m1:z1.length=n) (k0:c0.all bZ=true) (k1:c1.all bZ=true) (q0:z0.all bZ=true) (q1:z1.all bZ=true)
 (d1:i0≠j0) (d2:i0≠j1) (d3:i1≠j0) (d4:i1≠j1) (d5:j0≠j1) (hs:s0≠s1) (lt0:Nat.blt s0 nt=true) (lt1:Nat.blt s1 nt=true) (f0:aZ s0 L=true) (f1:aZ s1 L=true)
 (hback:df #[⟨some s0,.load T x0,ty0,po0,af0,none⟩,⟨some s1,.load T x1,ty1,po1,af1,none⟩,⟨none,.store T y0 (.tmp s0),ty2,po2,af2,none⟩,⟨none,.store T y1 (.tmp s1),ty3,po3,af3,none⟩]=true)
 (e2:(af2.any fun e=>Region.binds .any e && e.on == 0)=true) (e3:(af3.any fun e=>Region.binds .any e && e.on == 1)=true)
 (k:∀w' a',St W w' ((bs.set j0 (r0,c0)).set j1 (r1,c1)) fs->Fr nt a' L->Q .normal a' w'):
 (Code.region id #[⟨some s0,.load T x0,ty0,po0,af0,none⟩,⟨some s1,.load T x1,ty1,po1,af1,none⟩,⟨none,.store T y0 (.tmp s0),ty2,po2,af2,none⟩,⟨none,.store T y1 (.tmp s1),ty3,po3,af3,none⟩] true).wp P Q a w:=by
 have lt0':s0<nt:=by simpa using lt0
 have lt1':s1<nt:=by simpa using lt1
 refine jr hm hback (fun d a' w'=>Fr nt a' L/\(d 0=true->a'.tmps.getD s0 undef= .agg c0.toArray)/\(d 1=true->a'.tmps.getD s1 undef= .agg c1.toArray)/\St W w' (bs2 bs j0 j1 (r0,c0) (r1,c1) (d 2) (d 3)) fs) ?_ ?_ ?_
 ·exact⟨hF,(fun h=>by cases h),(fun h=>by cases h),st.to (Below.refl _ _).drew⟩
 ·rintro d a' w' ⟨hF',h0,h1,s⟩ i o ho hd hdep K hK
  have hi:i<4:=(Array.getElem?_eq_some_iff.1 ho).1
  have ups:∀j m,j≠m->up d j m=d m:=fun j m h=>by unfold up;rw[if_neg (Ne.symm h)]
  have upm:∀j,up d j j=true:=fun j=>by unfold up;rw[if_pos rfl]
  match i,hi with
  |0,_=>
   obtain rfl:=Option.some.inj ho
   rw[if_pos (bf rfl)]
   refine bz.val (ar (hx0 _ hF') (a8 hT (s.bk i0 ((Ai d1 d2).trans hb0)) l0)) K ?_
   rintro v w'' ⟨rfl,rfl⟩
   refine hK _ _ ⟨hF'.over f0,fun _=>fx (by rw[hF'.size];exact lt0'),fun h=>?_,by rw[ups 0 2 (by decide),ups 0 3 (by decide)];exact s⟩
   rw[show(a'.put (some s0) (.agg c0.toArray)).tmps.getD s1 undef=a'.tmps.getD s1 undef from fG hs]
   exact h1 (by rwa[ups 0 1 (by decide)] at h)
  |1,_=>
   obtain rfl:=Option.some.inj ho
   rw[if_pos (bf rfl)]
   refine bz.val (ar (hx1 _ hF') (a8 hT (s.bk i1 ((Ai d3 d4).trans hb1)) l1)) K ?_
   rintro v w'' ⟨rfl,rfl⟩
   refine hK _ _ ⟨hF'.over f1,fun h=>?_,fun _=>fx (by rw[hF'.size];exact lt1'),by rw[ups 1 2 (by decide),ups 1 3 (by decide)];exact s⟩
   rw[show(a'.put (some s1) (.agg c1.toArray)).tmps.getD s0 undef=a'.tmps.getD s0 undef from fG (Ne.symm hs)]
   exact h0 (by rwa[ups 1 0 (by decide)] at h)
  |2,_=>
   obtain rfl:=Option.some.inj ho
   rw[if_pos (bf rfl)]
   have hd0:d 0=true:=by
    obtain⟨e,he,hb⟩:=Array.any_eq_true'.1 e2
    rw[Bool.and_eq_true,beq_iff_eq] at hb
    have:=hdep e he hb.1
    rwa[hb.2] at this
   have hd2:d 2=false:=hd
   rw[hd2] at s
   have hj:(bs2 bs j0 j1 (r0,c0) (r1,c1) false (d 3))[j0]?=some (r0,z0):=(KB d5).trans hr0
   obtain⟨w1,hr,tu,on⟩:=fZ (P:=P) (o:=0) (ws:=c0) (s.b j0 hj q0) hT.s l0 (by simp[m0]) (bZ.oc k0) (bZ.ni k0) (by subst l0;simp[m0])
   refine bz.skip (cF (hy0 _ hF') (show a'.eval (.tmp s0)= .agg c0.toArray from bS (h0 hd0)) (hr _ rfl)) K ?_
   rintro v w'' ⟨rfl,rfl⟩
   have s2:=s.set j0 hj q0 tu on.blk
   rw[vz]
   refine hK _ _ ⟨hF',fun h=>h0 (by rwa[ups 2 0 (by decide)] at h),fun h=>h1 (by rwa[ups 2 1 (by decide)] at h),?_⟩
   rw[upm,ups 2 3 (by decide)]
   have e:(bs2 bs j0 j1 (r0,c0) (r1,c1) false (d 3)).set j0 (r0,c0)=bs2 bs j0 j1 (r0,c0) (r1,c1) true (d 3):=by
    unfold bs2
    cases d 3
    ·rfl
    ·exact List.set_comm _ _ (Ne.symm d5)
   rw[<-e];exact s2
  |3,_=>
   obtain rfl:=Option.some.inj ho
   rw[if_pos (bf rfl)]
   have hd1:d 1=true:=by
    obtain⟨e,he,hb⟩:=Array.any_eq_true'.1 e3
    rw[Bool.and_eq_true,beq_iff_eq] at hb
    have:=hdep e he hb.1
    rwa[hb.2] at this
   have hd3:d 3=false:=hd
   rw[hd3] at s
   have hj:(bs2 bs j0 j1 (r0,c0) (r1,c1) (d 2) false)[j1]?=some (r1,z1):=(Lh d5).trans hr1
   obtain⟨w1,hr,tu,on⟩:=fZ (P:=P) (o:=0) (ws:=c1) (s.b j1 hj q1) hT.s l1 (by simp[m1]) (bZ.oc k1) (bZ.ni k1) (by subst l1;simp[m1])
   refine bz.skip (cF (hy1 _ hF') (show a'.eval (.tmp s1)= .agg c1.toArray from bS (h1 hd1)) (hr _ rfl)) K ?_
   rintro v w'' ⟨rfl,rfl⟩
   have s2:=s.set j1 hj q1 tu on.blk
   rw[vz]
   refine hK _ _ ⟨hF',fun h=>h0 (by rwa[ups 3 0 (by decide)] at h),fun h=>h1 (by rwa[ups 3 1 (by decide)] at h),?_⟩
   rw[upm,ups 3 2 (by decide)]
   have e:(bs2 bs j0 j1 (r0,c0) (r1,c1) (d 2) false).set j1 (r1,c1)=bs2 bs j0 j1 (r0,c0) (r1,c1) (d 2) true:=by
    unfold bs2
    cases d 2 <;> rfl
   rw[<-e];exact s2
 ·rintro d a' w' ⟨hF',h0,h1,s⟩ hall
  refine k w' a' ?_ hF'
  rw[hall 2 (by show 2<4;decide),hall 3 (by show 3<4;decide)] at s
  exact s
end
theorem Jm:(Tryz.prog.info? 3).bind (·.zero)=some (iv 0):=by kernel_rfl
theorem K6 {a:Act} {x0 x1 x2 x3:Operand} {u0 u1 u2 u3:Value} (h0:a.eval x0=u0) (h1:a.eval x1=u1) (h2:a.eval x2=u2) (h3:a.eval x3=u3):#[x0,x1,x2,x3].map a.eval=#[u0,u1,u2,u3]:=by simp[h0,h1,h2,h3]
end
end
def atR (lo hi:Rat) (k n:Int):Rat:=lo+(hi-lo)*(((k:Int):Rat)/((n:Int):Rat))
def hlv (p:Rat->Bool) (lo hi:Rat):Nat->Int
 |0=>0
 |n+1=>if p (atR lo hi (2*hlv p lo hi n+1) (2^(n+1)))=true then 2*hlv p lo hi n else 2*hlv p lo hi n+1
theorem lL (n:Nat):(0:Int)<2^n:=Int.pow_pos (by decide)
theorem kk (n:Nat):(2:Int)^(n+1)=2*2^n:=by rw[Int.pow_succ,Int.mul_comm]
theorem ja (p:Rat->Bool) (lo hi:Rat) (n:Nat):0<=hlv p lo hi n/\hlv p lo hi n<2^n:=by
 induction n with
 |zero=>exact⟨Int.le_refl _,by show(0:Int)<1;decide⟩
 |succ n ih=>
  have e:=kk n
  unfold hlv
  split <;> omega
theorem nX {n:Int} (h:n≠0):((n:Int):Rat)≠0:=fun e=>h (Rat.intCast_inj.1 (by rw[e,Rat.intCast_zero]))
theorem zi (k:Int) {n c:Int} (hn:n≠0) (hc:c≠0):((k*c:Int):Rat)/((n*c:Int):Rat)=((k:Int):Rat)/((n:Int):Rat):=by
 have h1:=nX hn
 have h2:=nX hc
 rw[Rat.intCast_mul,Rat.intCast_mul]
 generalize ((n:Int):Rat)=x at*
 generalize ((c:Int):Rat)=y at*
 generalize ((k:Int):Rat)=z at*
 grind
theorem sF (lo hi:Rat) (k:Int) {n c:Int} (hn:n≠0) (hc:c≠0):atR lo hi (k*c) (n*c)=atR lo hi k n:=by unfold atR;rw[zi k hn hc]
theorem Gh (lo hi:Rat) (k:Int) {n:Int} (hn:n≠0):(atR lo hi k n+atR lo hi (k+1) n)*(((1:Int):Rat)/((2:Int):Rat))=atR lo hi (2*k+1) (2*n):=by
 have h1:=nX hn
 unfold atR
 rw[Rat.intCast_add,Rat.intCast_add,Rat.intCast_mul,Rat.intCast_mul,show((1:Int):Rat)=1 from rfl,show((2:Int):Rat)=2 from rfl]
 generalize ((n:Int):Rat)=x at*
 generalize ((k:Int):Rat)=z at*
 grind
theorem FF (lo hi:Rat) (k:Int) {n:Int} (hn:n≠0):atR lo hi (k+1) n-atR lo hi k n=(hi-lo)*(((1:Int):Rat)/((n:Int):Rat)):=by
 have h1:=nX hn
 unfold atR
 rw[Rat.intCast_add,show((1:Int):Rat)=1 from rfl]
 generalize ((n:Int):Rat)=x at*
 generalize ((k:Int):Rat)=z at*
 grind
theorem EA (lo hi:Rat) (n:Int):atR lo hi 0 n=lo:=by unfold atR;rw[Rat.intCast_zero,Rat.div_def,Rat.zero_mul,Rat.mul_zero,Rat.add_zero]
theorem Gv (lo hi:Rat):atR lo hi 1 1=hi:=by unfold atR;rw[show((1:Int):Rat)/((1:Int):Rat)=1 by decide+kernel];grind
def hlo (p:Rat->Bool) (lo hi:Rat) (n:Nat):Rat:=atR lo hi (hlv p lo hi n) (2^n)
def hhi (p:Rat->Bool) (lo hi:Rat) (n:Nat):Rat:=atR lo hi (hlv p lo hi n+1) (2^n)
def hmi (p:Rat->Bool) (lo hi:Rat) (n:Nat):Rat:=atR lo hi (2*hlv p lo hi n+1) (2^(n+1))
theorem ux (p:Rat->Bool) (lo hi:Rat):hlo p lo hi 0=lo:=EA lo hi _
theorem vI (p:Rat->Bool) (lo hi:Rat):hhi p lo hi 0=hi:=Gv lo hi
theorem HH (p:Rat->Bool) (lo hi:Rat) (n:Nat):(hlo p lo hi n+hhi p lo hi n)*(((1:Int):Rat)/((2:Int):Rat))=hmi p lo hi n:=by
 unfold hlo hhi hmi
 rw[Gh lo hi _ (by have:=lL n;omega),kk]
theorem EQ {p:Rat->Bool} {lo hi:Rat} {n:Nat} (h:p (hmi p lo hi n)=true):hlv p lo hi (n+1)=2*hlv p lo hi n:=by show(if _ then _ else _)=_;exact if_pos h
theorem E3 {p:Rat->Bool} {lo hi:Rat} {n:Nat} (h:p (hmi p lo hi n)=false):hlv p lo hi (n+1)=2*hlv p lo hi n+1:=by show(if _ then _ else _)=_;exact if_neg (by rw[show p (atR lo hi (2*hlv p lo hi n+1) (2^(n+1)))=false from h];simp)
theorem EZ {p:Rat->Bool} {lo hi:Rat} {n:Nat} (h:p (hmi p lo hi n)=true):hlo p lo hi (n+1)=hlo p lo hi n:=by
 unfold hlo
 rw[EQ h,kk,Int.mul_comm 2 (hlv p lo hi n),Int.mul_comm 2 (2^n)]
 exact sF lo hi _ (by have:=lL n;omega) (by decide)
theorem FA {p:Rat->Bool} {lo hi:Rat} {n:Nat} (h:p (hmi p lo hi n)=true):hhi p lo hi (n+1)=hmi p lo hi n:=by unfold hhi hmi;rw[EQ h]
theorem EP {p:Rat->Bool} {lo hi:Rat} {n:Nat} (h:p (hmi p lo hi n)=false):hlo p lo hi (n+1)=hmi p lo hi n:=by unfold hlo hmi;rw[E3 h]
theorem EE {p:Rat->Bool} {lo hi:Rat} {n:Nat} (h:p (hmi p lo hi n)=false):hhi p lo hi (n+1)=hhi p lo hi n:=by
 unfold hhi
 rw[E3 h,kk,show 2*hlv p lo hi n+1+1=(hlv p lo hi n+1)*2 by omega,Int.mul_comm 2 (2^n)]
 exact sF lo hi _ (by have:=lL n;omega) (by decide)
theorem CX {p:Rat->Bool} {lo:Rat} (hi:Rat) (h:p lo=false) (n:Nat):p (hlo p lo hi n)=false:=by
 induction n with
 |zero=>rw[ux];exact h
 |succ n ih=>
  cases hm:p (hmi p lo hi n) with
  |true=>rw[EZ hm];exact ih
  |false=>rw[EP hm];exact hm
theorem BH {p:Rat->Bool} (lo:Rat) {hi:Rat} (h:p hi=true) (n:Nat):p (hhi p lo hi n)=true:=by
 induction n with
 |zero=>rw[vI];exact h
 |succ n ih=>
  cases hm:p (hmi p lo hi n) with
  |true=>rw[FA hm];exact hm
  |false=>rw[EE hm];exact ih
theorem FH (p:Rat->Bool) (lo hi:Rat) (n:Nat):hhi p lo hi n-hlo p lo hi n=(hi-lo)*(((1:Int):Rat)/(((2^n:Int):Int):Rat)):=FF lo hi _ (by have:=lL n;omega)
theorem qY {n:Nat} (h:n<=64):(2:Int)^n<=18446744073709551616:=by
 have:(2:Nat)^n<=2^64:=Nat.pow_le_pow_right (by decide) h
 have e:((2^n:Nat):Int)=(2:Int)^n:=by rw[Int.natCast_pow];rfl
 rw[<-e];exact Int.ofNat_le.2 this
theorem AB {n d:Int} {k:Nat} (h:n.natAbs<B32^k) (g:d.natAbs<B32^k) (hk:1<=k):ah (((n:Int):Rat)/((d:Int):Rat)) (k+k):=cU (ce h hk) (ce g hk)
theorem rJ {lo hi:Rat} {k n:Int} {i j:Nat} (h1:ah lo i) (h2:ah hi j) (hk:0<=k) (hk2:k<=n) (hn2:n<=18446744073709551616):ah (atR lo hi k n) (2*i+j+8):=by
 have b:(18446744073709551616:Nat)<B32^3:=by decide+kernel
 exact(a6 h1 (aL (bH h2 h1) (AB (n:=k) (d:=n) (k:=3) (by omega) (by omega) (by decide)))).up _ (by omega)
theorem G8 {p:Rat->Bool} {lo hi:Rat} {i j n:Nat} (h1:ah lo i) (h2:ah hi j) (hn:n<=64):ah (hlo p lo hi n) (2*i+j+8):=
 rJ h1 h2 (ja p lo hi n).1 (by have:=ja p lo hi n;omega) (qY hn)
theorem GZ {p:Rat->Bool} {lo hi:Rat} {i j n:Nat} (h1:ah lo i) (h2:ah hi j) (hn:n<=64):ah (hhi p lo hi n) (2*i+j+8):=
 rJ h1 h2 (by have:=ja p lo hi n;omega) (by have:=ja p lo hi n;omega) (qY hn)
theorem Hz {p:Rat->Bool} {lo hi:Rat} {i j n:Nat} (h1:ah lo i) (h2:ah hi j) (hn:n<64):ah (hmi p lo hi n) (2*i+j+8):=
 rJ h1 h2 (by have:=ja p lo hi n;omega) (by have:=ja p lo hi n;have:=kk n;omega) (qY hn)
def ov (c:Int):Int:=if c=0 then 1 else 4
def pcs (c:Int) (t:Rat) (i:Int):Rat:=t+((i:Int):Rat)/((ov c:Int):Rat)
theorem LB (c:Int):((1:Int):Rat)/((ov c:Int):Rat)=kQ c:=by
 unfold ov kQ
 split <;> decide+kernel
theorem KD (c:Int):1<=ov c/\ov c<=4:=by unfold ov;split <;> omega
theorem mu (c:Int) (t:Rat):pcs c t 0=t:=by unfold pcs;rw[Rat.intCast_zero,Rat.div_def,Rat.zero_mul,Rat.add_zero]
theorem lO (c:Int) (t:Rat) (i:Int):pcs c t i=t+((i:Int):Rat)*kQ c:=by
 rw[<-LB];unfold pcs
 rw[Rat.div_def,Rat.div_def,show((1:Int):Rat)=1 from rfl,Rat.one_mul]
theorem j3 (c:Int) (t:Rat) (i:Int):pcs c t (i+1)=pcs c t i+kQ c:=by
 rw[lO,lO,Rat.intCast_add,show((1:Int):Rat)=1 from rfl]
 generalize kQ c=q
 generalize ((i:Int):Rat)=x
 grind
theorem ET (c:Int):0<=kQ c/\kQ c<=1:=by unfold kQ;split <;> exact⟨by decide+kernel,by decide+kernel⟩
theorem JT {a n:Int} (h:2<=n):(a+1)%n≠a%n:=by
 intro e
 have h1:(a+1-a)%n=0:=Int.emod_eq_emod_iff_emod_sub_eq_zero.1 e
 rw[show a+1-a=1 by omega,Int.emod_eq_of_lt (by decide) (by omega)] at h1
 cases h1
theorem xW {c:Int} (h0:0<=c) (h1:c<=4) (t:Rat) {d:Rat} (hd:0<=d) (hq:d<=kQ c) (e:kI c (t+d)=kI c t):kS c (t+d)=kS c t:=by
 rcases xV h0 h1 t hd hq with q|q
 ·exact q
 ·exfalso
  rw[gV h0 h1,gV h0 h1,q] at e
  exact JT (by have:=mF c;omega) e
theorem Gs {c:Int} (h0:0<=c) (h1:c<=4) (t:Rat) {d:Rat} (hd:0<=d) (hq:d<=kQ c) (e:kI c (t+d)≠kI c t):kS c (t+d)=kS c t+1:=by
 rcases xV h0 h1 t hd hq with q|q
 ·exact absurd (by rw[gV h0 h1,gV h0 h1,q]) e
 ·exact q
theorem vo {c:Int} (h0:0<=c) (h1:c<=4) (t:Rat):∀k:Nat,(∀i:Nat,i<=k->kI c (pcs c t ((i:Nat):Int))=kI c t)->kS c (pcs c t ((k:Nat):Int))=kS c t:=by
 intro k
 induction k with
 |zero=>intro _;rw[show(((0:Nat)):Int)=0 from rfl,mu]
 |succ k ih=>
  intro h
  rw[<-ih fun i hi=>h i (by omega),show(((k+1:Nat)):Int)=((k:Nat):Int)+1 by omega,j3]
  refine xW h0 h1 _ (ET c).1 (Rat.le_refl) ?_
  rw[<-j3,show((k:Nat):Int)+1=(((k+1:Nat)):Int) by omega,h (k+1) (by omega),h k (by omega)]
theorem uJ {c:Int} (h0:0<=c) (h1:c<=4) (t:Rat):∃k:Nat,((k:Nat):Int)<kM c/\(∀i:Nat,i<=k->kI c (pcs c t ((i:Nat):Int))=kI c t)/\kI c (pcs c t (((k:Nat):Int)+1))≠kI c t:=by
 have key:∀m:Nat,(∀i:Nat,i<=m->kI c (pcs c t ((i:Nat):Int))=kI c t)\/∃k:Nat,k<m/\(∀i:Nat,i<=k->kI c (pcs c t ((i:Nat):Int))=kI c t)/\kI c (pcs c t (((k:Nat):Int)+1))≠kI c t:=by
  intro m
  induction m with
  |zero=>left;intro i hi;rw[show i=0 by omega,show(((0:Nat)):Int)=0 from rfl,mu]
  |succ m ih=>
   rcases ih with ih|⟨k,hk,a⟩
   ·by_cases e:kI c (pcs c t (((m:Nat):Int)+1))=kI c t
    ·left;intro i hi
     by_cases q:i<=m
     ·exact ih i q
     ·rw[show((i:Nat):Int)=((m:Nat):Int)+1 by omega];exact e
    ·exact .inr ⟨m,by omega,ih,e⟩
   ·exact .inr ⟨k,by omega,a⟩
 have hM:(((kM c).toNat :Nat):Int)=kM c:=by unfold kM;split <;> rfl
 rcases key (kM c).toNat with h|⟨k,hk,a⟩
 ·exfalso
  have e:=vo h0 h1 t _ h
  rw[hM,lO] at e
  have:=It h0 h1 t
  omega
 ·exact⟨k,by omega,a⟩
noncomputable def cy (c:Int) (t:Rat):Nat:=if h:0<=c/\c<=4 then Classical.choose (uJ h.1 h.2 t) else 0
theorem fi {c:Int} (h0:0<=c) (h1:c<=4) (t:Rat):((cy c t:Nat):Int)<kM c/\(∀i:Nat,i<=cy c t->kI c (pcs c t ((i:Nat):Int))=kI c t)/\kI c (pcs c t (((cy c t:Nat):Int)+1))≠kI c t:=by
 unfold cy
 rw[dif_pos ⟨h0,h1⟩]
 exact Classical.choose_spec (uJ h0 h1 t)
theorem zn {c:Int} (h0:0<=c) (h1:c<=4) (t:Rat):kS c (pcs c t ((cy c t:Nat):Int))=kS c t:=vo h0 h1 t _ (fi h0 h1 t).2.1
noncomputable def elo (c:Int) (t:Rat):Rat:=pcs c t ((cy c t:Nat):Int)
noncomputable def ehi (c:Int) (t:Rat):Rat:=pcs c t (((cy c t:Nat):Int)+1)
def iP (c was:Int) (x:Rat):Bool:=decide (kI c x≠was)
noncomputable def dS (c:Int) (t:Rat):Rat:=hlo (iP c (kI c t)) (elo c t) (ehi c t) 21
noncomputable def dU (c:Int) (t:Rat):Rat:=hhi (iP c (kI c t)) (elo c t) (ehi c t) 21
theorem lj (c:Int) (t:Rat):ehi c t=elo c t+kQ c:=j3 c t _
theorem vT {c was:Int} {x:Rat}:iP c was x=false↔kI c x=was:=by unfold iP;rw[decide_eq_false_iff_not];exact Decidable.not_not
theorem Az {c was:Int} {x:Rat}:iP c was x=true↔kI c x≠was:=decide_eq_true_iff
theorem Fh {c:Int} (h0:0<=c) (h1:c<=4) (t:Rat):iP c (kI c t) (elo c t)=false:=vT.2 ((fi h0 h1 t).2.1 _ (Nat.le_refl _))
theorem KH {c:Int} (h0:0<=c) (h1:c<=4) (t:Rat):iP c (kI c t) (ehi c t)=true:=Az.2 (fi h0 h1 t).2.2
theorem A9 {c:Int} (h0:0<=c) (h1:c<=4) (t:Rat):kI c (dS c t)=kI c t:=vT.1 (CX _ (Fh h0 h1 t) 21)
theorem J2 {c:Int} (h0:0<=c) (h1:c<=4) (t:Rat):kI c (dU c t)≠kI c t:=Az.1 (BH _ (KH h0 h1 t) 21)
theorem F6 (c:Int) (t:Rat):dU c t-dS c t=kQ c*(1/2097152):=by
 have h:=FH (iP c (kI c t)) (elo c t) (ehi c t) 21
 rw[lj,show((1:Int):Rat)/(((2^21:Int):Int):Rat)=1/2097152 by decide+kernel] at h
 rw[show dU c t-dS c t=(elo c t+kQ c-elo c t)*(1/2097152) from by rw[<-lj] at*;exact h]
 generalize kQ c=q
 grind
theorem DA {c:Int} (h0:0<=c) (h1:c<=4) {t:Rat} {i:Nat} (h:i<=cy c t) (e:kI c (pcs c t (((i:Nat):Int)+1))=kI c t):i+1<=cy c t:=by
 have s:=fi h0 h1 t
 by_cases q:i=cy c t
 ·rw[q] at e;exact absurd e s.2.2
 ·omega
theorem yD {c:Int} (h0:0<=c) (h1:c<=4) {t:Rat} {i:Nat} (h:i<=cy c t) (e:kI c (pcs c t (((i:Nat):Int)+1))≠kI c t):i=cy c t:=by
 have s:=fi h0 h1 t
 by_cases q:i+1<=cy c t
 ·have:=s.2.1 (i+1) q
  rw[show(((i+1:Nat)):Int)=((i:Nat):Int)+1 by omega] at this
  exact absurd this e
 ·omega
theorem EH (c:Int):kM c<=34:=by unfold kM;split <;> omega
theorem oi {c:Int} {t:Rat} {k:Nat} {i:Int} (h:ah t k) (h0:0<=i) (h1:i<=1000):ah (pcs c t i) (k+3):=by
 have o:=KD c
 have e:B32^1=4294967296:=rfl
 exact(a6 h (AB (n:=i) (d:=ov c) (k:=1) (by omega) (by omega) (by decide))).up _ (by omega)
theorem Cn (p:Rat->Bool) (v1 v2:Value) (q1 q2:Rat) (i k j:Nat) (w:World) (h1:Rq w v1 (hlo p q1 q2 i)) (h2:Rq w v2 (hhi p q1 q2 i)) (hl:ah (hlo p q1 q2 i) k) (hm:ah (hhi p q1 q2 i) j) (hk:k<=1000) (hj:j<=1000):
 CQ 149 #[v1,v2] w (hmi p q1 q2 i):=by
 have h:=CT v1 v2 _ _ k j w h1 h2 hl hm hk hj
 rwa[HH] at h
theorem FE (v1 v2:Value) (q1 q2:Rat) (k j:Nat) (h:Int) (N:Nat) (kf:FuncId) (cap:Array Value) (p:Rat->Bool) (w:World) (h1:Rq w v1 q1) (h2:Rq w v2 q2) (l1:ah q1 k) (l2:ah q2 j) (hk:k<=300) (hj:j<=300) (hN:min (max h 0) 64=((N:Nat):Int)) (hN2:N<=64) (hask:mW w kf cap (2*k+j+8) p):
 CP 78 #[v1,v2,iv h,.func (.func kf) #[] cap] w ((fun e w'=>∃v u,e= .returned (.tuple #[v,u])/\Rq w' v (hlo p q1 q2 N)/\Rq w' u (hhi p q1 q2 N)/\Below w.heap.size w w')):=by
 obtain⟨fn,hfn1,hfn2,hfn3⟩:=hask.fn
 have st:=St.start w
 refine E.enter (nt:=33) (L:=[(0,v1),(1,v2),(2,iv h),(3,.func (.func kf) #[] cap)]) Tryz.func78 rfl rfl rfl (bn (i:=0) rfl (bn (i:=1) rfl (bn (i:=2) rfl (bn (i:=3) rfl fe)))) ?_
 intro a hF
 refine wq ?_
 obtain⟨r2,rfl⟩:=Rq.fo h1
 refine bx st hF 0 rfl rfl fun g4 w1 a st hF=>?_
 obtain⟨r4,rfl⟩:=Rq.fo h2
 refine bx st hF 2 rfl rfl fun g5 w3 a st hF=>S.alloc st hF aa rfl rfl fun g8 w5 a st hF=>S.alloc st hF aa rfl rfl fun g9 w6 a st hF=>E.nil ?_
 refine E.scope (fun mq a wv=>∃(i:Nat) (bb5:Bool) (aa5:Option Addr) (nn5:Nat) (cc5:Nat) (ee5:Option Addr) (mm5:Nat) (dd5:Nat) (bb4:Bool) (aa4:Option Addr) (nn4:Nat) (cc4:Nat) (ee4:Option Addr) (mm4:Nat) (dd4:Nat),i<=N/\Fr 33 a [(10,iv (((N:Nat):Int)-((i:Nat):Int))),(9,.pointer (some ⟨g9,0,none⟩)),(8,.pointer (some ⟨g8,0,none⟩)),(5,.pointer (some ⟨g5,0,none⟩)),(4,.pointer (some ⟨g4,0,none⟩)),(3,.func (.func kf) #[] cap)]/\St w wv [(g9,[.bool false,.slice none 0 0,.slice none 0 0]),(g8,[.bool false,.slice none 0 0,.slice none 0 0]),(g5,[.bool bb5,.slice aa5 nn5 cc5,.slice ee5 mm5 dd5]),(g4,[.bool bb4,.slice aa4 nn4 cc4,.slice ee4 mm4 dd4])] [fun w=>Rq w (.agg #[.bool bb5,.slice aa5 nn5 cc5,.slice ee5 mm5 dd5]) (hhi p q1 q2 i),fun w=>Rq w (.agg #[.bool bb4,.slice aa4 nn4 cc4,.slice ee4 mm4 dd4]) (hlo p q1 q2 i)]/\mq=N-i) rfl ?_ ?_
 ·refine E.seq<|oM hF 6 rfl rfl fun a hF=>oV hF (aU (aB hF.o ao) uG) rfl fun a hF=>oV hF (aU (aB hF.o ao) vv) rfl fun a hF=>oA hF 0 rfl rfl fun a hF=>E.nil0 ?_
  replace hF:Fr 33 a [(10,iv (((N:Nat):Int)-((0:Nat):Int))),(14,iv (min (max h 0) 64)),(13,iv (max h 0)),(12,iv h),(9,.pointer (some ⟨g9,0,none⟩)),(8,.pointer (some ⟨g8,0,none⟩)),(5,.pointer (some ⟨g5,0,none⟩)),(4,.pointer (some ⟨g4,0,none⟩)),(0,r2.v),(1,r4.v),(2,iv h),(3,.func (.func kf) #[] cap)]:=by rw[show((N:Nat):Int)-((0:Nat):Int)=min (max h 0) 64 from by rw[hN];simp];exact hF
  refine E.norm ?_
  exact⟨(N-0),0,_,_,_,_,_,_,_,_,_,_,_,_,_,_,(by omega),Fr.pick (L':=[(10,iv (((N:Nat):Int)-((0:Nat):Int))),(9,.pointer (some ⟨g9,0,none⟩)),(8,.pointer (some ⟨g8,0,none⟩)),(5,.pointer (some ⟨g5,0,none⟩)),(4,.pointer (some ⟨g4,0,none⟩)),(3,.func (.func kf) #[] cap)]) hF [0,4,5,6,7,11] rfl,((st.add (Rq.castM (h1.below st.bel) (ux p q1 q2).symm) (Rq.cl _)).add (Rq.castM (h2.below st.bel) (vI p q1 q2).symm) (Rq.cl _)).pick [0,1,2,3] [0,1] rfl rfl (by decide),rfl⟩
 ·rintro mq a w7 ⟨i,bb5,aa5,nn5,cc5,ee5,mm5,dd5,bb4,aa4,nn4,cc4,ee4,mm4,dd4,hi,hF,st,hm⟩
  refine wp_seq<|wq<|oM hF 0 rfl rfl fun a hF=>?_
  by_cases hc8:((N:Nat):Int)-((i:Nat):Int)=0
  ·refine oT hF 0 (aX (c:=true) (aK hc8)) rfl rfl fun a hF=>E.nil<|wp_cond_true hF.o<|wp_seq ?_
   refine E.ret2 (i0:=3) (i1:=2) (j0:=1) (j1:=0) az st hF aa (fun a hF=>bS (hF.at 6 rfl)) (fun a hF=>bS (hF.at 5 rfl)) (fun a hF=>bS (hF.at 4 rfl)) (fun a hF=>bS (hF.at 3 rfl)) rfl rfl rfl rfl rfl rfl rfl rfl rfl rfl rfl rfl (by decide) (by decide) (by decide) (by decide) (by decide) (by decide) rfl rfl rfl rfl (by decide+kernel) (by decide+kernel) (by decide+kernel) fun w9 a st hF=>?_
   refine E.norm<|wp_ret<|E.pastr ?_
   refine E.jumpr ?_
   have bel:=st.bel
   refine bodyPost_ret (fc Tryz.results78 (hF.at 4 rfl) (a8 aa (st.bk 1 rfl) rfl) (hF.at 3 rfl) (a8 aa (st.bk 0 rfl) rfl)) hF.dfr ?_
   have e:i=N:=by omega
   subst e
   exact⟨_,_,rfl,(st.f 1 rfl),(st.f 0 rfl),bel⟩
  ·refine oT hF 0 (aX (c:=false) (aJ hc8)) rfl rfl fun a hF=>E.nil<|wp_cond_false hF.o<|wp_skip<|E.norm<|wq ?_
   refine oM hF 2 rfl rfl fun a hF=>oV hF (au hF.o ao ag (cw (by omega) (by omega))) rfl fun a hF=>oE hF 0 rfl rfl fun a hF=>ns<|wq<|oL hF st 8 3 aa rfl rfl rfl rfl fun a hF=>oL hF st 8 2 aa rfl rfl rfl rfl fun a hF=>?_
   refine ca st hF (rk Ld (aB hF.p hF.o)) (Cn p _ _ q1 q2 i (2*k+j+8) (2*k+j+8) _ (st.f 1 rfl) (st.f 0 rfl) (G8 (p:=p) l1 l2 (by omega)) (GZ (p:=p) l1 l2 (by omega)) (by omega) (by omega)) (fun _ _ h=>h) Rq.cl rfl fun vv11 w10 a st hF=>?_
   obtain⟨r13,rfl⟩:=Rq.fo (st.f 0 rfl)
   refine S.new st hF 0 rfl aa rfl rfl rfl rfl rfl fun g11 w14 a st hF=>nq<|oM hF 13 rfl rfl fun a hF=>oV hF (au hF.o ao Hn Jk) rfl fun a hF=>oM hF 0 rfl rfl fun a hF=>og hF (aO (hF.at 16 rfl)) 0 rfl rfl rfl fun a hF=>og hF (ar (hF.at 4 rfl) (a8 aa (st.bk 0 rfl) rfl)) 1 rfl rfl rfl fun a hF=>?_
   refine S.callxg st hF (aw rfl rfl hF.q rfl) (xH hF.p hfn1 hfn2 hfn3 (aD hF.o)) ((hask.below st.bel).ask _ (hmi p q1 q2 i) _ (Below.refl _ _) (st.f 0 rfl) ((Hz (p:=p) l1 l2 (by omega)).up _ (by omega))) rfl rfl rfl fun w15 a st hF=>?_
   refine oV hF (bF (hF.at 3 rfl) hF.o) rfl fun a hF=>E.nil ?_
   by_cases hc16:p (hmi p q1 q2 i)=true
   ·refine wp_cond_true (Eq.trans hF.o (congrArg Value.bool hc16)) ?_
    refine E.seq<|oL hF st 7 0 aa rfl rfl rfl rfl fun a hF=>so st hF 3 19 0 aa rfl rfl rfl rfl fun w17 a st hF=>E.nil ?_
    refine wp_goto ?_
    refine E.jump ?_
    replace hF:Fr 33 a [(31,r13.v),(30,.bool (p (hmi p q1 q2 i))),(29,.bool (p (hmi p q1 q2 i))),(28,r13.v),(27,.func (.func kf) #[] cap),(26,.bool true),(25,.bool true),(24,.func (.func kf) #[] cap),(11,.pointer (some ⟨g11,0,none⟩)),(23,r13.v),(22,.agg #[.bool bb5,.slice aa5 nn5 cc5,.slice ee5 mm5 dd5]),(21,.agg #[.bool bb4,.slice aa4 nn4 cc4,.slice ee4 mm4 dd4]),(10,iv (((N:Nat):Int)-((i+1:Nat):Int))),(20,iv ((((N:Nat):Int)-((i:Nat):Int))-1)),(19,iv (((N:Nat):Int)-((i:Nat):Int))),(16,.bool false),(15,iv (((N:Nat):Int)-((i:Nat):Int))),(9,.pointer (some ⟨g9,0,none⟩)),(8,.pointer (some ⟨g8,0,none⟩)),(5,.pointer (some ⟨g5,0,none⟩)),(4,.pointer (some ⟨g4,0,none⟩)),(3,.func (.func kf) #[] cap)]:=by rw[show((N:Nat):Int)-((i+1:Nat):Int)=((N:Nat):Int)-((i:Nat):Int)-1 from by omega];exact hF
    exact⟨(N-(i+1)),by omega,⟨(i+1),_,_,_,_,_,_,_,_,_,_,_,_,_,_,(by omega),Fr.pick (L':=[(10,iv (((N:Nat):Int)-((i+1:Nat):Int))),(9,.pointer (some ⟨g9,0,none⟩)),(8,.pointer (some ⟨g8,0,none⟩)),(5,.pointer (some ⟨g5,0,none⟩)),(4,.pointer (some ⟨g4,0,none⟩)),(3,.func (.func kf) #[] cap)]) hF [12,17,18,19,20,21] rfl,((st.add (Rq.castM (st.f 2 rfl) (EZ hc16).symm) (Rq.cl _)).add (Rq.castM (st.f 0 rfl) (FA hc16).symm) (Rq.cl _)).pick [1,2,3,4] [0,1] rfl rfl (by decide),rfl⟩⟩
   ·refine wp_cond_false (Eq.trans hF.o (congrArg Value.bool (eq_false_of_ne_true hc16))) ?_
    refine E.seq<|oL hF st 7 0 aa rfl rfl rfl rfl fun a hF=>so st hF 4 20 0 aa rfl rfl rfl rfl fun w18 a st hF=>E.nil ?_
    refine wp_goto ?_
    refine E.jump ?_
    replace hF:Fr 33 a [(32,r13.v),(30,.bool (p (hmi p q1 q2 i))),(29,.bool (p (hmi p q1 q2 i))),(28,r13.v),(27,.func (.func kf) #[] cap),(26,.bool true),(25,.bool true),(24,.func (.func kf) #[] cap),(11,.pointer (some ⟨g11,0,none⟩)),(23,r13.v),(22,.agg #[.bool bb5,.slice aa5 nn5 cc5,.slice ee5 mm5 dd5]),(21,.agg #[.bool bb4,.slice aa4 nn4 cc4,.slice ee4 mm4 dd4]),(10,iv (((N:Nat):Int)-((i+1:Nat):Int))),(20,iv ((((N:Nat):Int)-((i:Nat):Int))-1)),(19,iv (((N:Nat):Int)-((i:Nat):Int))),(16,.bool false),(15,iv (((N:Nat):Int)-((i:Nat):Int))),(9,.pointer (some ⟨g9,0,none⟩)),(8,.pointer (some ⟨g8,0,none⟩)),(5,.pointer (some ⟨g5,0,none⟩)),(4,.pointer (some ⟨g4,0,none⟩)),(3,.func (.func kf) #[] cap)]:=by rw[show((N:Nat):Int)-((i+1:Nat):Int)=((N:Nat):Int)-((i:Nat):Int)-1 from by omega];exact hF
    exact⟨(N-(i+1)),by omega,⟨(i+1),_,_,_,_,_,_,_,_,_,_,_,_,_,_,(by omega),Fr.pick (L':=[(10,iv (((N:Nat):Int)-((i+1:Nat):Int))),(9,.pointer (some ⟨g9,0,none⟩)),(8,.pointer (some ⟨g8,0,none⟩)),(5,.pointer (some ⟨g5,0,none⟩)),(4,.pointer (some ⟨g4,0,none⟩)),(3,.func (.func kf) #[] cap)]) hF [12,17,18,19,20,21] rfl,((st.add (Rq.castM (st.f 0 rfl) (EP (eq_false_of_ne_true hc16)).symm) (Rq.cl _)).add (Rq.castM (st.f 1 rfl) (EE (eq_false_of_ne_true hc16)).symm) (Rq.cl _)).pick [1,2,3,4] [0,1] rfl rfl (by decide),rfl⟩⟩
end Go.Proofs.YtgdpkknapcgcbaaGreatDoor
