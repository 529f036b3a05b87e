import Derived.Test.YtgdpkknapcgcbaaGreatDoorKB35
import Derived.Test.YtgdpkknapcgcbaaGreatDoorKB36
namespace Go.Proofs.YtgdpkknapcgcbaaGreatDoor
open Go.RowKit
set_option maxRecDepth 100000
set_option linter.unusedVariables false
set_option maxHeartbeats 8000000
def PtV (w:World) (cs:List Value) (p:Pt):Prop:=
 ∃b1 a1 n1 c1 d1 m1 e1 b2 a2 n2 c2 d2 m2 e2,cs=[iv p.1,iv p.2.1,.bool b1,.slice a1 n1 c1,.slice d1 m1 e1,.bool b2,.slice a2 n2 c2,.slice d2 m2 e2]/\
  Rl p.2.2.1 2 w (.agg #[.bool b1,.slice a1 n1 c1,.slice d1 m1 e1])/\Rl p.2.2.2 2 w (.agg #[.bool b2,.slice a2 n2 c2,.slice d2 m2 e2])
theorem PtV.keep {w w':World} {cs:List Value} {p:Pt} (h:PtV w cs p) (kp:dt w w'):PtV w' cs p:=by
 obtain⟨b1,a1,n1,c1,d1,m1,e1,b2,a2,n2,c2,d2,m2,e2,h0,h1,h2⟩:=h
 exact⟨b1,a1,n1,c1,d1,m1,e1,b2,a2,n2,c2,d2,m2,e2,h0,⟨h1.1.keep kp,h1.2⟩,⟨h2.1.keep kp,h2.2⟩⟩
def PEl (w:World) (cs:List Value) (ps:List Pt):Prop:=∀i p,ps[i]?=some p->PtV w ((cs.drop (8*i)).take 8) p
theorem PEl.keep {w w':World} {cs:List Value} {ps:List Pt} (h:PEl w cs ps) (kp:dt w w'):PEl w' cs ps:=fun i p e=>(h i p e).keep kp
theorem PEl.cl {ps:List Pt} (cs:List Value):Cl fun w=>PEl w cs ps:=fun _ _ h kp=>h.keep kp
theorem PEl.below {w w':World} {cs:List Value} {ps:List Pt} (h:PEl w cs ps) (hb:Below w.heap.size w w'):PEl w' cs ps:=h.keep (Below.keep hb)
def bm (w:World) (base:Nat) (v:Value) (ps:List Pt):Prop:=∃rs,cH w 8 57 base v ps.length rs/\PEl w rs ps
theorem bm.below {w w':World} {base:Nat} {v:Value} {ps:List Pt} (h:bm w base v ps) (hb:Below w.heap.size w w'):bm w' base v ps:=by
 obtain⟨rs,h1,h2⟩:=h
 exact⟨rs,h1.below hb,h2.below hb⟩
theorem bm.low {w:World} {base b:Nat} {v:Value} {ps:List Pt} (h:bm w base v ps) (l:b<=base):bm w b v ps:=by
 obtain⟨rs,h1,h2⟩:=h
 exact⟨rs,h1.low l,h2⟩
theorem PEl.at4 {w:World} {cs:List Value} {ps:List Pt} (h:PEl w cs ps) {i:Nat} {c:Int} {f:Rat} (e:ps[i]?=some (pt4 c f)):
 ∃b1 a1 n1 c1 d1 m1 e1 b2 a2 n2 c2 d2 m2 e2,(cs.drop (8*i)).take 8=[iv c,iv (kI c f),.bool b1,.slice a1 n1 c1,.slice d1 m1 e1,.bool b2,.slice a2 n2 c2,.slice d2 m2 e2]/\
  Rl (cC c f) 2 w (.agg #[.bool b1,.slice a1 n1 c1,.slice d1 m1 e1])/\Rl (bZ c f) 2 w (.agg #[.bool b2,.slice a2 n2 c2,.slice d2 m2 e2]):=h i _ e
theorem PEl.more {w:World} {cs:List Value} {ps:List Pt} (h:PEl w cs ps) (l:cs.length=ps.length*8) (ms:List Value):PEl w (cs++ms) ps:=by
 intro i p e
 have hi:i<ps.length:=(List.getElem?_eq_some_iff.1 e).1
 rw[List.drop_append_of_le_length (by omega),List.take_append_of_le_length (by rw[List.length_drop];omega)]
 exact h i p e
theorem bm.row {w:World} {base:Nat} {ad:Option Addr} {n cap:Nat} {ps:List Pt} (h:bm w base (.slice ad n cap) ps) (hp:0<ps.length):
 ∃g cs,ad=some ⟨g,0,none⟩/\n=ps.length/\base<=g/\Blk w g cs/\PEl w cs ps:=by
 obtain⟨rs,h1,h2⟩:=h
 obtain⟨g,more,e1,e2,hge,hb⟩:=h1.row hp
 exact⟨g,rs++more,e1,e2,hge,hb,h2.more h1.1.1 more⟩
theorem lO {cs vs:List Value} {o k n:Nat} {v:Value} (h:(cs.drop o).take n=vs) (hk:k<n) (hv:vs[k]?=some v):cs[o+k]?=some v:=by
 rw[<-h,List.getElem?_take_of_lt hk,List.getElem?_drop] at hv
 exact hv
theorem fV {w:World} {g n c i:Nat} {z:Int} (hz:z=((i:Nat):Int)) (hi:i<n):(Instr.indexAt 34 (.slice (some ⟨g,0,none⟩) n c) (iv z)).run Tryz.prog w= .ok (.pointer (some ⟨g,8*i,none⟩)) w:=by
 subst hz
 simp[Instr.indexAt,asIntOf,run_underlying Tryz.underlying34,Sem.run_bind,Addr.add_mid,hi,Nat.mul_comm]
theorem cf {w:World} {t:TypeId} {ad:Option Addr} {n c:Nat}:(builtin .len #[34] t #[false] #[.slice ad n c]).run Tryz.prog w= .ok (.value (iv n)) w:=by
 simp[Builtin.len_,go_sem]
def jh (ps:List Pt):Int:=match ofK 1 ps with|[_,p,_]=>p.2.1+1|_=>0
theorem za {t u:Rat} (h:paN 1 t u=2):jh (prA t u)=(kI 1 t+1)%30+1:=by
 unfold jh
 rw[nR (by decide) (by decide)]
 unfold prC
 rw[h]
 show kI 1 (paF 1 t 1)+1=_
 rw[E6 (by decide) (by decide)]
 rfl
theorem B8 {t u:Rat} (h:paN 1 t u≠2):jh (prA t u)=0:=by
 unfold jh
 rw[nR (by decide) (by decide)]
 have l:=fF 1 t u
 split
 ·next e=>rw[e] at l;simp at l;omega
 ·rfl
theorem kh {c:Int} (h0:0<=c) (h1:c<=4) (t:Rat):0<=kI c t/\kI c t<kN c:=by
 have n:=j2 c
 rw[dc h0 h1]
 exact⟨Int.emod_nonneg _ (by omega),Int.emod_lt_of_pos _ (by omega)⟩
def DyV (w:World) (base:Nat) (v:Value) (n wd:Int) (r s u:Rat) (N:Nat) (ps:List Pt):Prop:=
 ∃b1 a1 n1 c1 d1 m1 e1 b2 a2 n2 c2 d2 m2 e2 b3 a3 n3 c3 d3 m3 e3 ad cap,v= .agg #[iv n,iv wd,.bool b1,.slice a1 n1 c1,.slice d1 m1 e1,.bool b2,.slice a2 n2 c2,.slice d2 m2 e2,.bool b3,.slice a3 n3 c3,.slice d3 m3 e3,.slice ad N cap]/\
  Rl r 3 w (.agg #[.bool b1,.slice a1 n1 c1,.slice d1 m1 e1])/\Rl s 3 w (.agg #[.bool b2,.slice a2 n2 c2,.slice d2 m2 e2])/\Rl u 3 w (.agg #[.bool b3,.slice a3 n3 c3,.slice d3 m3 e3])/\bm w base (.slice ad N cap) ps
theorem DyV.below {w w':World} {base:Nat} {v:Value} {n wd:Int} {r s u:Rat} {N:Nat} {ps:List Pt} (h:DyV w base v n wd r s u N ps) (hb:Below w.heap.size w w'):DyV w' base v n wd r s u N ps:=by
 obtain⟨b1,a1,n1,c1,d1,m1,e1,b2,a2,n2,c2,d2,m2,e2,b3,a3,n3,c3,d3,m3,e3,ad,cap,h0,h1,h2,h3,h4⟩:=h
 exact⟨b1,a1,n1,c1,d1,m1,e1,b2,a2,n2,c2,d2,m2,e2,b3,a3,n3,c3,d3,m3,e3,ad,cap,h0,h1.below hb,h2.below hb,h3.below hb,h4.below hb⟩
theorem DyV.low {w:World} {base b:Nat} {v:Value} {n wd:Int} {r s u:Rat} {N:Nat} {ps:List Pt} (h:DyV w base v n wd r s u N ps) (l:b<=base):DyV w b v n wd r s u N ps:=by
 obtain⟨b1,a1,n1,c1,d1,m1,e1,b2,a2,n2,c2,d2,m2,e2,b3,a3,n3,c3,d3,m3,e3,ad,cap,h0,h1,h2,h3,h4⟩:=h
 exact⟨b1,a1,n1,c1,d1,m1,e1,b2,a2,n2,c2,d2,m2,e2,b3,a3,n3,c3,d3,m3,e3,ad,cap,h0,h1,h2,h3,h4.low l⟩
def DyT (base:Nat) (n wd:Int) (r s u:Rat) (N:Nat) (ps:List Pt) (w:World) (v:Value):Prop:=∃d,v= .tuple #[d,iv 0]/\DyV w base d n wd r s u N ps
theorem DyT.mb {base:Nat} {n wd:Int} {r s u:Rat} {N:Nat} {ps:List Pt}:Mb (DyT base n wd r s u N ps):=fun _ _ _ ⟨d,e,h⟩ hb=>⟨d,e,h.below hb⟩
theorem tG {P:Program} {f:FuncId} {args:Array Value} {w:World} {base:Nat} {n wd:Int} {r s u:Rat} {N:Nat} {ps:List Pt} (h:Calls P f args w (fun e w'=>∃v,e= .returned (.tuple #[v,iv 0])/\DyV w' w.heap.size v n wd r s u N ps/\Below w.heap.size w w')) (l:base<=w.heap.size):
 Calls P f args w (fun e w'=>∃v,e= .returned v/\DyT base n wd r s u N ps w' v/\Below w.heap.size w w'):=h.mono fun _ _ ⟨v,e,h,b⟩=>⟨_,e,⟨v,rfl,h.low l⟩,b⟩
theorem PtV.clU {cs:List Value} {p:Pt}:ClU fun w=>PtV w cs p:=by
 rintro w w' ⟨b1,a1,n1,c1,d1,m1,e1,b2,a2,n2,c2,d2,m2,e2,h0,h1,h2⟩ kp
 exact⟨b1,a1,n1,c1,d1,m1,e1,b2,a2,n2,c2,d2,m2,e2,h0,⟨h1.1.keepU kp,h1.2⟩,⟨h2.1.keepU kp,h2.2⟩⟩
theorem PEl.clU {cs:List Value} {ps:List Pt}:ClU fun w=>PEl w cs ps:=fun w w' h kp i p e=>PtV.clU w w' (h i p e) kp
theorem oG (t u:Rat):4<=(prA t u).length :=by rw[uc];simp only [paM];omega
theorem jk {w:World} {g h:Nat} {cs:List Value} {zs:List Value} {p:Pt} {ps:List Pt} (h1:Blk w g cs) (he:PEl w cs (p::ps)) (h2:Blk w h (iv 0::zs)) (hp:p.1≠0):g≠h:=by
 intro e
 subst e
 obtain⟨T1,e1⟩:=h1
 obtain⟨T2,e2⟩:=h2
 rw[e1] at e2
 injection e2 with e2
 injection e2 with e3 e4
 have e5:cs= iv 0::zs:=by simpa using congrArg Array.toList e3
 obtain⟨_,_,_,_,_,_,_,_,_,_,_,_,_,_,h0,_⟩:=he 0 p rfl
 rw[e5] at h0
 have h0:Value.int .i64 0::zs.take 7=_:=h0
 injection h0 with h0 _
 injection h0 with _ h0
 exact hp h0.symm
theorem kg (t u:Rat):∃p ps,prA t u=p::ps/\p.1=1:=by
 unfold prA prC
 rw[List.range_succ_eq_map]
 exact⟨_,_,rfl,rfl⟩
theorem cH.gc {m T base n:Nat} {v:Value} {rs:List Value}:GCl v fun w=>cH w m T base v n rs:=by
 rintro w w' ⟨h1,h2⟩ hb hs ku
 refine⟨⟨h1.1,?_⟩,fun g e j z hc=>h2 g e j z (by rw[<-hc];exact(World.cell?_of_block (w:=w) (hb g e)).symm)⟩
 rcases h1.2 with hn|⟨g,cap,cur,rfl,hbg,hgg,rest⟩
 ·exact .inl hn
 ·exact .inr ⟨g,cap,cur,rfl,hbg,by rw[hb g rfl];exact hgg,rest⟩
theorem bm.gc {base:Nat} {v:Value} {ps:List Pt}:GCl v fun w=>bm w base v ps:=by
 rintro w w' ⟨rs,h1,h2⟩ hb hs ku
 exact⟨rs,cH.gc w w' h1 hb hs ku,PEl.clU w w' h2 ku⟩
theorem bm.gl {base:Nat} {v:Value} {ps:List Pt}:∀w,bm w base v ps->∀b,v.ownBlock=some b->base<=b/\b<w.heap.size:=by
 rintro w ⟨rs,h1,_⟩
 exact h1.lt
theorem St.gnew {W w:World} {bs:List (Nat×List Value)} {fs:List (World->Prop)} (st:St W w bs fs) {g n c:Nat} (e:w.heap.size=g):∀p∈bs,(Value.slice (some ⟨g,0,none⟩) n c).ownBlock ≠some p.1:=fun p hp h=>st.ne (Nat.le_of_eq e) p hp (by injection h with h;exact h.symm)
theorem pD:∃i z,Tryz.prog.info? 57=some i/\i.zero=some z/\i.size=8/\i.bytes=128/\z.cells.size=8/\∀u∈z.cells.toList,noU u:=by
 have h1:(Tryz.prog.info? 57).map (·.size)=some 8:=by kernel_rfl
 have h2:(Tryz.prog.info? 57).bind (·.zero)=some (.agg #[iv 0,iv 0,.bool false,.slice none 0 0,.slice none 0 0,.bool false,.slice none 0 0,.slice none 0 0]):=by kernel_rfl
 have h3:(Tryz.prog.info? 57).map (·.bytes)=some 128:=by kernel_rfl
 cases hq:Tryz.prog.info? 57 with
 |none=>rw[hq] at h1;cases h1
 |some i=>exact⟨i,.agg #[iv 0,iv 0,.bool false,.slice none 0 0,.slice none 0 0,.bool false,.slice none 0 0,.slice none 0 0],rfl,by simpa[hq] using h2,by simpa[hq] using h1,by simpa[hq] using h3,rfl,(show ∀u∈[Value.int .i64 0,iv 0,.bool false,.slice none 0 0,.slice none 0 0,.bool false,.slice none 0 0,.slice none 0 0],noU u from nuC nuI (nuC nuI (nuC nuB (nuC nuS (nuC nuS (nuC nuB (nuC nuS (nuC nuS nu0))))))))⟩
theorem PtV.cells {w:World} {es:List Value} {p:Pt} (h:PtV w es p):es.length=8/\(∀u∈es,noU u)/\∀u∈es,u.oneCell'=true:=by
 obtain⟨b1,a1,n1,c1,d1,m1,e1,b2,a2,n2,c2,d2,m2,e2,rfl,_,_⟩:=h
 exact⟨rfl,nuC nuI (nuC nuI (nuC nuB (nuC nuS (nuC nuS (nuC nuB (nuC nuS (nuC nuS nu0))))))),ocI (ocI (ocB (ocS (ocS (ocB (ocS (ocS oc0)))))))⟩
theorem bm.put {w:World} {base:Nat} {v:Value} {ps:List Pt} (h:bm w base v ps) {gs:Nat} {es:List Value} {p:Pt} (hs:Blk w gs es) (hp:PtV w es p) {N:Nat} (hN:ps.length=N) (hl:N<=1000000) (bel:base<=w.heap.size) {ty:TypeId}:
 ∃ad cap w',(builtin .append #[34,34] ty #[false,false] #[v,.slice (some ⟨gs,0,none⟩) 1 1]).run Tryz.prog w= .ok (.value (.slice ad (N+1) cap)) w'/\bm w' base (.slice ad (N+1) cap) (ps++[p])/\w.grownBy w' v.ownBlock/\Below base w w'/\eR w w'/\∀b,b<w.heap.size->v.ownBlock≠some b->(Value.slice ad (N+1) cap).ownBlock ≠some b:=by
 subst hN
 obtain⟨rs,h1,h2⟩:=h
 obtain⟨c1,c2,c3⟩:=hp.cells
 obtain⟨ad,cap,w',hr,ha,gg,bb,ku,hne⟩:=cH.put (ty:=ty) Tryz.underlying34 pD (by decide) (by decide) h1 hs c2 c1 c3 hl bel
 refine⟨ad,cap,w',hr,⟨rs++es,by rw[List.length_append];exact ha,?_⟩,gg,bb,ku,hne⟩
 intro i q e
 have hrl:=h1.1.1
 rcases Nat.lt_or_ge i ps.length with k|k
 ·rw[List.getElem?_append_left k] at e
  rw[List.drop_append_of_le_length (by omega),List.take_append_of_le_length (by rw[List.length_drop];omega)]
  exact PtV.clU w w' (h2 i q e) ku
 ·have hi:i=ps.length:=by
   have:=(List.getElem?_eq_some_iff.1 e).1
   simp at this
   omega
  subst hi
  rw[List.getElem?_append_right (Nat.le_refl _),Nat.sub_self] at e
  injection e with e
  subst e
  rw[show 8*ps.length=rs.length by omega,List.drop_left,<-c1,List.take_length]
  exact PtV.clU w w' hp ku
theorem qQ (w:World) (base:Nat) (hb:base<=w.heap.size):∃g w',w.heap.size=g/\(Instr.buildSlice 34 0 #[]).run Tryz.prog w= .ok (.slice (some ⟨g,0,none⟩) 0 0) w'/\Below w.heap.size w w'/\bm w' base (.slice (some ⟨g,0,none⟩) 0 0) []:=by
 have hn:=gb (w:=w) (cs:=[]) 57
 refine⟨w.heap.size,w.alloc (.cells #[] 57),rfl,?_,hn.2,[],⟨⟨rfl,.inr ⟨w.heap.size,0,#[],rfl,hb,heap_alloc_new w _,Nat.le_refl _,Nat.zero_le _,rfl,rfl⟩⟩,fun g e=>?_⟩,fun i p h=>by simp at h⟩
 ·have hs:=aL (P:=Tryz.prog) (T:=57) (n:=8) jF w
  simp[Instr.buildSlice,go_sem,hs,Instr.fill,newRow]
 ·injection e with e
  subst e
  exact fG (cs:=[]) (heap_alloc_new w _) nu0
theorem mE (w:World) (z0 z1:Int) (b1:Bool) (a1:Option Addr) (n1 c1:Nat) (d1:Option Addr) (m1 e1:Nat) (b2:Bool) (a2:Option Addr) (n2 c2:Nat) (d2:Option Addr) (m2 e2:Nat):∃g w',w.heap.size=g/\(Instr.buildSlice 34 1 #[(0,.agg #[iv z0,iv z1,.bool b1,.slice a1 n1 c1,.slice d1 m1 e1,.bool b2,.slice a2 n2 c2,.slice d2 m2 e2])]).run Tryz.prog w= .ok (.slice (some ⟨g,0,none⟩) 1 1) w'/\Below w.heap.size w w'/\Blk w' g [iv z0,iv z1,.bool b1,.slice a1 n1 c1,.slice d1 m1 e1,.bool b2,.slice a2 n2 c2,.slice d2 m2 e2]:=by
 have hb:=gb (w:=w) (cs:=[iv z0,iv z1,.bool b1,.slice a1 n1 c1,.slice d1 m1 e1,.bool b2,.slice a2 n2 c2,.slice d2 m2 e2]) 57
 refine⟨w.heap.size,w.alloc (.cells #[iv z0,iv z1,.bool b1,.slice a1 n1 c1,.slice d1 m1 e1,.bool b2,.slice a2 n2 c2,.slice d2 m2 e2] 57),rfl,?_,hb.2,hb.1⟩
 have hs:=aL (P:=Tryz.prog) (T:=57) (n:=8) jF w
 simp[Instr.buildSlice,go_sem,hs,Instr.fill,Value.cells,newRow]
theorem AX (k:Int) (ps:List Pt):ofK k (ps.take 0)=[]:=by rw[List.take_zero];rfl
theorem tt {k:Int} {ps:List Pt} {i:Nat} {p:Pt} (h:ps[i]?=some p) (e:p.1=k):ofK k (ps.take (i+1))=ofK k (ps.take i)++[p]:=by
 rw[List.take_add_one,h,eK]
 congr 1
 exact List.filter_cons_of_pos (decide_eq_true e)
theorem wl {k:Int} {ps:List Pt} {i:Nat} {p:Pt} (h:ps[i]?=some p) (e:¬p.1=k):ofK k (ps.take (i+1))=ofK k (ps.take i):=by
 rw[List.take_add_one,h,eK,show ofK k (some p).toList =[] from List.filter_cons_of_neg (by rw[decide_eq_true_iff];exact e),List.append_nil]
theorem Bh {k:Int} {ps:List Pt} {i:Nat} (h:ps.length<=i):ofK k (ps.take i)=ofK k ps:=by rw[List.take_of_length_le h]
theorem Bt (k:Int) (ps:List Pt) (i:Nat):(ofK k (ps.take i)).length <=i:=by
 refine Nat.le_trans (List.length_filter_le ..) ?_
 rw[List.length_take]
 omega
end Go.Proofs.YtgdpkknapcgcbaaGreatDoor
