import Derived.Test.YtnljadejcfgmaaaGreatDoorKB17
import Derived.ScopeJumps
namespace Go.Proofs.YtnljadejcfgmaaaGreatDoor
open Go.RowKit
set_option maxRecDepth 100000
set_option linter.unusedVariables false
set_option maxHeartbeats 8000000
section
section
section
variable {P:Program} {Q:Exit→Act→World→Prop} {a:Act} {w:World}
end
section
variable {P:Program} {dst:Option Tmp} {ty:TypeId} {pos:String} {af:Array Edge} {gd:Option (Nat×Bool)} {a:Act} {w:World}
theorem xB {f:FuncId} {xs ys:Array Operand} {us vs:Array Value} (h1:xs.map a.eval=us) (h2:ys.map a.eval=vs):(execOp a.eval ⟨dst,.makeFunc (.func f) xs ys,ty,pos,af,gd⟩).run P w= .ok (.value (.func (.func f) us vs)) w:=by
 subst h1;subst h2
 rfl
theorem Ep {x:Operand} {f:FuncId} {fn:Func} {xs:Array Operand} {ts:Array TypeId} {args cap:Array Value} (hx:a.eval x= .func (.func f) #[] cap) (hf:P.funcs[f]?=some fn) (hn:(fn.name == "runtime.NumGoroutine")=false) (hb:fn.body.isNone=false) (h:xs.map a.eval=args):
 (execOp a.eval ⟨dst,.call ⟨.value x,xs,ts⟩,ty,pos,af,gd⟩).run P w= .ok (.enter f (args++cap)) w:=by
 have hn':fn.name≠ "runtime.NumGoroutine":=by simpa using hn
 have hb':fn.body≠none:=by
  intro e
  rw[e] at hb
  cases hb
 simp only [execOp,resolve,h,hx]
 simp[Deferred.ofValue,invoke,callFunc,hf,hn',hb',go_sem]
end
section
variable {P:Program} {ops:Array Oper} {Q:Exit→Act→World→Prop} {W w:World} {bs:List (Nat×List Value)} {fs:List (World→Prop)} {nt d:Nat} {L:List (Nat×Value)} {rest:List Oper} {a:Act} {T:TypeId} {x y:Operand} {ty:TypeId} {pos:String} {af:Array Edge}
theorem S.boxI {z:Int} (st:St W w bs fs) (hF:Fr nt a L) (he:a.eval x= .int .i64 z) (hlt:Nat.blt d nt=true) (hf:bI d L=true)
 (k:∀g w' a',St W w' ((g,[.int .i64 z])::bs) fs→Fr nt a' ((d,.pointer (some ⟨g,0,none⟩))::L)→wpS P ops Q rest a' w'):wpS P ops Q (⟨some d,.box T x,ty,pos,af,none⟩::rest) a w:=by
 obtain⟨g,w1,ge,hr,bb,o⟩:=uZ (P:=P) (w:=w) (cs:=[.int .i64 z]) (v:= .int .i64 z) T rfl
 exact E.opv hF (eJ he hr) rfl rfl hlt hf fun a' hF'=>k g w1 a' (st.new ge bb o) hF'
theorem S.newI {z:Int} {s:Nat} {ty':TypeId} {pos':String} {af':Array Edge} (st:St W w bs fs) (hF:Fr nt a L) (j:Nat) (hj:L[j]?=some (s,.int .i64 z)) (hs:(P.info? T).map (·.size)=some 1) (hz:(P.info? T).bind (·.zero)=some (.int .i64 0)) (hlt:Nat.blt d nt=true) (hf:bI d L=true)
 (k:∀g w' a',St W w' ((g,[.int .i64 z])::bs) fs→Fr nt a' ((d,.pointer (some ⟨g,0,none⟩))::L)→wpS P ops Q rest a' w'):wpS P ops Q (⟨some d,.alloc T,ty,pos,af,none⟩::⟨none,.store T (.tmp d) (.tmp s),ty',pos',af',none⟩::rest) a w:=by
 obtain⟨g,w1,ge,hr,bb,o⟩:=km (P:=P) (w:=w) (cs:=[.int .i64 0]) (v:= .int .i64 0) T hz rfl
 refine E.opv hF (cf hr) rfl rfl hlt hf fun a1 hF1=>?_
 obtain⟨w2,hr2,tu,on⟩:=mV (P:=P) (o:=0) (vs:=[.int .i64 z]) (ws:=[.int .i64 z]) o hs rfl rfl (by intro v hv;rw[List.mem_singleton] at hv;subst hv;rfl) rfl
 refine E.st hF1 (cd (dK (hF1.at 0 rfl)) (dK (hF1.at (j+1) hj)) (hr2 _ rfl)) rfl rfl fun a2 hF2=>?_
 have b2:Below w.heap.size w w2:=tu.below bb (Nat.le_of_eq ge)
 exact k g w2 a2 (st.new ge b2 on) hF2
end
section
variable {P:Program} {Q:Exit→Act→World→Prop} {W w:World} {bs:List (Nat×List Value)} {fs:List (World→Prop)} {nt n:Nat} {L:List (Nat×Value)} {a:Act} {T:TypeId} {zs:List Value}
end
theorem G0 {a:Act} {x0 x1 x2 x3:Operand} {u0 u1 u2 u3:Value} (h0:a.eval x0=u0) (h1:a.eval x1=u1) (h2:a.eval x2=u2) (h3:a.eval x3=u3):#[x0,x1,x2,x3].map a.eval=#[u0,u1,u2,u3]:=by simp[h0,h1,h2,h3]
end
end
theorem Aa:(Tryz.prog.info? 2).bind (·.zero)=some (.int .i64 0):=by kernel_rfl
structure sM (W:World) (f:FuncId) (cap:Array Value) (n:Int) (p:Int→Bool):Prop where
 fn:∃fn,Tryz.prog.funcs[f]?=some fn∧(fn.name == "runtime.NumGoroutine")=false∧fn.body.isNone=false
 ask:∀h w,Below W.heap.size W w→0≤h→h<n→Calls Tryz.prog f (#[.int .i64 h]++cap) w (aR w (.bool (p h)))
theorem sM.below {W W':World} {f:FuncId} {cap:Array Value} {n:Int} {p:Int→Bool} (h:sM W f cap n p) (hb:Below W.heap.size W W'):sM W' f cap n p:=
 ⟨h.fn,fun v w b h0 h1=>h.ask v w (hb.trans (b.mono hb.size)) h0 h1⟩
theorem F6 {P:Program} {w:World} {t:TypeId} {a:Int} {k:IntKind} {n:Nat} (hn:n<64) {d:Int} (hd:(2:Int)^n=d):(binOp .shr t (.int .u64 a) (.int k (n:Nat))).run P w= .ok (.int .u64 (a/d)) w:=by
 subst hd
 have e:min (((n:Nat):Int).toNat) IntKind.u64.bits=n:=by simp[IntKind.bits];omega
 have h0:¬(((n:Nat):Int)<0):=by omega
 simp only [binOp,Op.shift,if_neg h0,e]
 rw[Int.fdiv_eq_ediv_of_nonneg _ (by exact Int.le_of_lt (Int.pow_pos (by decide)))]
 rfl
theorem vw {P:Program} {w:World} {s t:TypeId} {k k0 k':IntKind} {a:Int} (hs:P.underlying s=some (.int k0)) (ht:P.underlying t=some (.int k')) (h:k'.wrap a=a):(convert s t (.int k a)).run P w= .ok (.int k' a) w:=by
 unfold convert
 simp only [Sem.run_bind,run_underlying hs,run_underlying ht,Result.andThen_ok]
 show(Conv.intToInt k' a).run P w=_
 unfold Conv.intToInt
 rw[h]
 rfl
theorem xF (n k:Int) (kf:FuncId) (cap:Array Value) (p:Int→Bool) (w:World) (hn:n≤1000000) (hk0:0≤k) (hk:k≤n) (hp:∀h,0≤h→h<n→(p h=true↔k≤h)) (hask:sM w kf cap n p):
 Calls Tryz.prog 90 #[.int .i64 n,.func (.func kf) #[] cap] w (aR w (.int .i64 k)):=by
 obtain⟨fn,hfn1,hfn2,hfn3⟩:=hask.fn
 have st:=St.start w
 refine go2 (nt:=26) Tryz.func90 rfl rfl rfl fun a hF=>?_
 refine wq ?_
 refine oC hF rfl fun a hF=>?_
 refine nq ?_
 refine oM hF 1 rfl rfl fun a hF=>?_
 refine oC hF rfl fun a hF=>?_
 refine oA hF 1 rfl rfl fun a hF=>?_
 refine ns ?_
 refine wp_block ?_
 refine E.loop (fun mq a wv=>∃(i:Int) (j:Int),0≤i∧i≤k∧k≤j∧j≤n∧Fr 26 a [(6,.int .i64 j),(5,.int .i64 i),(4,.int .i64 0),(1,.func (.func kf) #[] cap)]∧St w wv [] []∧mq=(j-i:Int).toNat) (((n)-(0):Int).toNat) ?_ ?_
 ·exact⟨(0:Int),(n:Int),(by omega),(by omega),(by omega),(by omega),Fr.pick (L':=[(6,.int .i64 n),(5,.int .i64 0),(4,.int .i64 0),(1,.func (.func kf) #[] cap)]) hF [0,1,3,5] rfl,st.pick [] [] rfl rfl (by decide),rfl⟩
 ·rintro mq a w1 ⟨i,j,hi0,hik,hkj,hjn,hF,st,hm⟩
  refine wp_seq ?_
  refine wq ?_
  refine oM hF 1 rfl rfl fun a hF=>?_
  refine oM hF 1 rfl rfl fun a hF=>?_
  by_cases hc2:i<j
  ·refine oV hF (aq (hF.at 1 rfl) (hF.at 0 rfl) ab (aw (a6 (c:=true) (aU hc2)) (by simp))) rfl fun a hF=>?_
   refine E.nil ?_
   refine wp_cond_true (hF.at 0 rfl) ?_
   refine wp_skip ?_
   refine E.norm ?_
   refine wp_block ?_
   refine wq ?_
   refine oM hF 4 rfl rfl fun a hF=>?_
   refine oM hF 4 rfl rfl fun a hF=>?_
   refine oV hF (aq (hF.at 1 rfl) (hF.at 0 rfl) ab (bq (by omega) (by omega))) rfl fun a hF=>?_
   refine oV hF (fX (hF.at 0 rfl) (vw (k':= .u64) Tryz.underlying3 Tryz.underlying151 (IntWalk.u64_in _ ⟨by omega,by omega⟩))) rfl fun a hF=>?_
   refine oV hF (aq (hF.at 0 rfl) ao ab (F6 (n:=1) (by decide) (d:=2) (by decide))) rfl fun a hF=>?_
   refine oV hF (fX (hF.at 0 rfl) (vw (k':= .i64) Tryz.underlying151 Tryz.underlying3 (IntWalk.i64_in _ ⟨by omega,by omega⟩))) rfl fun a hF=>?_
   refine oA hF 0 rfl rfl fun a hF=>?_
   refine nq ?_
   refine oM hF 13 rfl rfl fun a hF=>?_
   refine oM hF 1 rfl rfl fun a hF=>?_
   refine cX st hF (Ep (hF.at 1 rfl) hfn1 hfn2 hfn3 (aI (hF.at 0 rfl))) ((hask.below st.bel).ask ((i+j)/2) _ (Below.refl _ _) (by omega) (by omega)) rfl fun w3 a st hF=>?_
   by_cases hc4:p ((i+j)/2)=true
   ·refine oV hF (fi (Eq.trans (hF.at 0 rfl) (congrArg Value.bool hc4)) (eK _ false rfl)) rfl fun a hF=>?_
    refine E.nil ?_
    refine wp_cond_false (hF.at 0 rfl) ?_
    refine E.seq ?_
    refine oM hF 4 rfl rfl fun a hF=>?_
    refine oE hF 0 rfl rfl fun a hF=>?_
    refine E.nil0 ?_
    refine E.blk ?_
    refine E.norm ?_
    have hq:=hp ((i+j)/2) (by omega) (by omega)
    have hq2:=hq.1 hc4
    exact⟨(((i+j)/2)-(i):Int).toNat,by omega,⟨(i:Int),((i+j)/2:Int),(by omega),(by omega),(by omega),(by omega),Fr.pick (L':=[(6,.int .i64 ((i+j)/2)),(5,.int .i64 i),(4,.int .i64 0),(1,.func (.func kf) #[] cap)]) hF [0,16,17,18] rfl,st.pick [] [] rfl rfl (by decide),rfl⟩⟩
   ·refine oV hF (fi (Eq.trans (hF.at 0 rfl) (congrArg Value.bool (eq_false_of_ne_true hc4))) (eK _ true rfl)) rfl fun a hF=>?_
    refine E.nil ?_
    refine wp_cond_true (hF.at 0 rfl) ?_
    refine E.seq ?_
    refine oM hF 4 rfl rfl fun a hF=>?_
    refine oV hF (aq (hF.at 0 rfl) ao ab (bq (by omega) (by omega))) rfl fun a hF=>?_
    refine oE hF 0 rfl rfl fun a hF=>?_
    refine E.nil0 ?_
    refine E.blk ?_
    refine E.norm ?_
    have hq:=hp ((i+j)/2) (by omega) (by omega)
    have hq2:¬k≤((i+j)/2):=fun e=>hc4 (hq.2 e)
    exact⟨((j)-(((i+j)/2)+1):Int).toNat,by omega,⟨(((i+j)/2)+1:Int),(j:Int),(by omega),(by omega),(by omega),(by omega),Fr.pick (L':=[(6,.int .i64 j),(5,.int .i64 (((i+j)/2)+1)),(4,.int .i64 0),(1,.func (.func kf) #[] cap)]) hF [17,0,18,19] rfl,st.pick [] [] rfl rfl (by decide),rfl⟩⟩
  ·refine oV hF (aq (hF.at 1 rfl) (hF.at 0 rfl) ab (aw (a6 (c:=false) (aK hc2)) (by simp))) rfl fun a hF=>?_
   refine E.nil ?_
   refine wp_cond_false (hF.at 0 rfl) ?_
   refine wp_exit ?_
   refine E.past ?_
   refine E.past ?_
   refine E.out (id:=0) ?_
   refine E.norm ?_
   refine wq ?_
   refine oM hF 4 rfl rfl fun a hF=>?_
   refine oE hF 0 rfl rfl fun a hF=>?_
   refine nr ?_
   have bel:=st.bel
   refine rt Tryz.results90 hF 0 rfl ?_
   refine⟨cm ?_,bel⟩
   omega
end Go.Proofs.YtnljadejcfgmaaaGreatDoor
