import Derived.Test.YtgdpkknapcgcbaaGreatDoorKD29
import Derived.Test.YtgdpkknapcgcbaaGreatDoorKD30
import Derived.Laws.StructEq
namespace Go.Proofs.YtgdpkknapcgcbaaGreatDoor
open Go.RowKit
set_option maxRecDepth 100000
set_option linter.unusedVariables false
set_option maxHeartbeats 8000000
section
section
def QEl (w:World) (cs:List Value) (qs:List Rat):Prop:=
 ∀i,i<qs.length->∃b ad n c ae m d,(cs.drop (3*i)).take 3=[.bool b,.slice ad n c,.slice ae m d]/\Rq w (.agg #[.bool b,.slice ad n c,.slice ae m d]) (qs.getD i 0)
theorem QEl.below {w w':World} {cs:List Value} {qs:List Rat} (h:QEl w cs qs) (hb:Below w.heap.size w w'):QEl w' cs qs:=by
 intro i hi
 obtain⟨b,ad,n,c,ae,m,d,h1,h2⟩:=h i hi
 exact⟨b,ad,n,c,ae,m,d,h1,h2.below hb⟩
theorem QEl.keep {w w':World} {cs:List Value} {qs:List Rat} (h:QEl w cs qs) (kp:dY w w'):QEl w' cs qs:=by
 intro i hi
 obtain⟨b,ad,n,c,ae,m,d,h1,h2⟩:=h i hi
 exact⟨b,ad,n,c,ae,m,d,h1,h2.keep kp⟩
def jz (w:World) (v:Value) (qs:List Rat):Prop:=∃g cs,v= .slice (some ⟨g,0,none⟩) qs.length qs.length/\Own w g cs/\QEl w cs qs
theorem jz.below {w w':World} {v:Value} {qs:List Rat} (h:jz w v qs) (hb:Below w.heap.size w w'):jz w' v qs:=by
 obtain⟨g,cs,h1,h2,h3⟩:=h
 exact⟨g,cs,h1,h2.below hb,h3.below hb⟩
def nK (qs:List Rat):Nat->Rat
 |0=>0
 |i+1=>nK qs i+qs.getD i 0
theorem Ep {t:TypeId} {w:World} {ad:Option Addr} {n c:Nat}:(builtin .len #[246] t #[false] #[.slice ad n c]).run Tryz.prog w= .ok (.value (iv n)) w:=by
 have hu:=run_underlying (P:=Tryz.prog) Tryz.underlying246 w
 simp[Builtin.len_,Sem.run_bind,hu,go_sem]
theorem C8 {w:World} {g n c i:Nat} (hi:i<n):(Instr.indexAt 246 (.slice (some ⟨g,0,none⟩) n c) (iv (i:Nat))).run Tryz.prog w= .ok (.pointer (some ⟨g,3*i,none⟩)) w:=by
 have hu:=run_underlying (P:=Tryz.prog) Tryz.underlying246 w
 unfold Instr.indexAt
 simp[Sem.run_bind,asIntOf,go_sem,hu,hi,Addr.add]
 split
 ·obtain rfl:i=0:=by omega
  rfl
 ·rw[Nat.mul_comm]
end
section
theorem Aa (v1:Value) (qs:List Rat) (k:Nat) (w:World) (h1:jz w v1 qs) (hl1:∀i,i<=qs.length->ag (nK qs i) k) (hl2:∀i,i<qs.length->ag (qs.getD i 0) k) (hk:k<=100000) (hn:qs.length<=1000000):
 CQ 232 #[v1] w (nK qs qs.length):=by
 obtain⟨gr,cs,rfl,orow,hel⟩:=h1
 have bel:Below w.heap.size w w:=Below.refl _ _
 refine go1 (nt:=18) Tryz.func232 rfl rfl rfl fun a hF=>wq ?_
 obtain⟨g2,w1,ge2,hr,bb,o2⟩:=f8 (P:=Tryz.prog) (w:=w) (cs:=[.bool false,.slice none 0 0,.slice none 0 0]) 33 jx rfl (niB (niS (niS ni0)))
 have nerow_2:gr≠g2:=by rw[<-ge2];exact orow.ne_new
 replace ge2:w.heap.size<=g2:=by rw[<-ge2];exact bel.size
 refine oV hF (eB hr) rfl fun a hF=>?_
 clear hr
 replace hel:=hel.below bb
 replace orow:=orow.below bb
 replace bel:=bv bel bb
 clear bb
 refine nq<|oV hF (bB (by simp) (gS _)) rfl fun a hF=>?_
 obtain⟨g3,w2,ge3,hr,bb,o3⟩:=f8 (P:=Tryz.prog) (w:=w1) (cs:=[.bool false,.slice none 0 0,.slice none 0 0]) 33 jx rfl (niB (niS (niS ni0)))
 have nerow_3:gr≠g3:=by rw[<-ge3];exact orow.ne_new
 have ne2_3:g2≠g3:=by rw[<-ge3];exact o2.ne_new
 replace ge3:w.heap.size<=g3:=by rw[<-ge3];exact bel.size
 refine oV hF (eB hr) rfl fun a hF=>?_
 clear hr
 replace hel:=hel.below bb
 replace orow:=orow.below bb
 replace o2:=o2.below bb
 replace bel:=bv bel bb
 clear bb
 obtain⟨w3,hr,tu,on⟩:=oW (vs:=[.bool false,.slice none 0 0,.slice none 0 0]) o3 rfl rfl (ocB (ocS (ocS oc0))) (niB (niS (niS ni0))) (o:=0) rfl
 have kp:=tu.keep o3
 refine E.st hF (dD hF.o hF.p (hr _ rfl)) rfl rfl fun a hF=>?_
 clear hr
 replace hel:=hel.keep kp
 replace orow:=tu.own orow nerow_3
 replace o2:=tu.own o2 ne2_3
 replace bel:=tu.below bel ge3
 clear tu kp
 replace o3:=on
 clear on
 refine ns<|wq<|oM hF 3 rfl rfl fun a hF=>oV hF (bI (aC hF.o) Ep) rfl fun a hF=>oV hF (aG ah) rfl fun a hF=>E.nil<|wp_block ?_
 have nint:=nn1 o3.noInt
 refine E.loop (fun m a wv=>∃(i:Nat) (sb:Bool) (sa:Option Addr) (sn:Nat) (sc:Nat) (ta:Option Addr) (tn:Nat) (tc:Nat),i<=qs.length/\Fr 18 a [(9,iv ((i:Nat):Int)),(8,iv ((qs.length:Nat):Int)),(7,.slice (some ⟨gr,0,none⟩) qs.length qs.length),(3,.pointer (some ⟨g3,0,none⟩)),(2,.pointer (some ⟨g2,0,none⟩))]/\gz [g3] w3 wv/\Below w.heap.size w wv/\Own wv g3 [.bool sb,.slice sa sn sc,.slice ta tn tc]/\Rq wv (.agg #[.bool sb,.slice sa sn sc,.slice ta tn tc]) (nK qs i)/\m=qs.length-i) (qs.length-0) ?_ ?_
 ·exact⟨0,_,_,_,_,_,_,_,Nat.zero_le _,hF.sub (by intro p hp;simp only [List.mem_cons,List.not_mem_nil,or_false] at hp ⊢;rcases hp with rfl|rfl|rfl|rfl|rfl <;> simp),gz.refl _ _,bel,o3,(Rq.zero _),rfl⟩
 ·rintro m a w4 ⟨i,sb,sa,sn,sc,ta,tn,tc,hi0,hF,sty,bel,o3,hs,hm⟩
  have kps:=sty.keep nint
  replace hel:=hel.keep kps
  replace orow:=sty.own orow (by simp only [List.mem_cons,List.not_mem_nil,or_false];first|exact nerow_3|(intro e;exact nerow_3 e))
  replace o2:=sty.own o2 (by simp only [List.mem_cons,List.not_mem_nil,or_false];first|exact ne2_3|(intro e;exact ne2_3 e))
  clear kps
  by_cases hi:i<qs.length
  ·refine wp_seq<|E.seq ?_
   refine oU hF 0 1 (bC (c:=true) (by simp only [decide_eq_true_eq];omega)) rfl rfl rfl fun a hF=>ns<|wp_cond_true hF.o<|wp_skip<|E.norm<|wp_seq<|wp_block<|wq ?_
   obtain⟨xb,xa,xn,xc,ya,yn,yc,hcut,hx⟩:=hel i hi
   refine oV hF (dz (hF.at 3 rfl) hF.p (C8 hi)) rfl fun a hF=>oV hF (ar hF.o (fQ (vs:=[.bool xb,.slice xa xn xc,.slice ya yn yc]) orow hcut rfl)) rfl fun a hF=>?_
   obtain⟨g5,w5,ge5,hr,bb,o5⟩:=f8 (P:=Tryz.prog) (w:=w4) (cs:=[.bool false,.slice none 0 0,.slice none 0 0]) 33 jx rfl (niB (niS (niS ni0)))
   have nerow_5:gr≠g5:=by rw[<-ge5];exact orow.ne_new
   have ne2_5:g2≠g5:=by rw[<-ge5];exact o2.ne_new
   have ne3_5:g3≠g5:=by rw[<-ge5];exact o3.ne_new
   have gl5:w3.heap.size<=g5:=by rw[<-ge5];exact sty.size
   replace ge5:w.heap.size<=g5:=by rw[<-ge5];exact bel.size
   refine oV hF (eB hr) rfl fun a hF=>?_
   clear hr
   replace hx:=hx.below bb
   replace hel:=hel.below bb
   replace hs:=hs.below bb
   replace orow:=orow.below bb
   replace o2:=o2.below bb
   replace o3:=o3.below bb
   replace bel:=bv bel bb
   replace sty:=sty.below bb
   clear bb
   obtain⟨w6,hr,tu,on⟩:=oW (vs:=[.bool xb,.slice xa xn xc,.slice ya yn yc]) o5 rfl rfl (ocB (ocS (ocS oc0))) (niB (niS (niS ni0))) (o:=0) rfl
   have kp:=tu.keep o5
   refine E.st hF (dD hF.o hF.p (hr _ rfl)) rfl rfl fun a hF=>?_
   clear hr
   replace hx:=hx.keep kp
   replace hel:=hel.keep kp
   replace hs:=hs.keep kp
   replace orow:=tu.own orow nerow_5
   replace o2:=tu.own o2 ne2_5
   replace o3:=tu.own o3 ne3_5
   replace bel:=tu.below bel ge5
   replace sty:=sty.turned tu (.inr gl5)
   clear tu kp
   replace o5:=on
   clear on
   refine E.nil<|E.seq<|oV hF (ar (hF.at 7 rfl) (fQ (vs:=[.bool sb,.slice sa sn sc,.slice ta tn tc]) o3 rfl rfl)) rfl fun a hF=>oV hF (ar hF.p (fQ (vs:=[.bool xb,.slice xa xn xc,.slice ya yn yc]) o5 rfl rfl)) rfl fun a hF=>?_
   refine E.call hF (rk IA (aK hF.p hF.o)) (om _ _ (nK qs i) (qs.getD i 0) k _ hs hx ((hl1 i hi0).up _ (by omega)) ((hl2 i hi).up _ (by omega)) (by omega)) rfl rfl rfl rfl ?_
   rintro e w7 ⟨vv8,rfl,hh9,bb⟩
   refine⟨_,rfl,?_⟩
   intro a hF
   replace hx:=hx.below bb
   replace hs:=hs.below bb
   replace hel:=hel.below bb
   replace orow:=orow.below bb
   replace o2:=o2.below bb
   replace o3:=o3.below bb
   replace o5:=o5.below bb
   replace bel:=bv bel bb
   replace sty:=sty.below bb
   clear bb
   obtain⟨b10,ad10,n10,c10,ae10,m10,d10,rfl,hn10,hd10⟩:=Rq.shape hh9
   have hf11:=Wc.abs hn10
   obtain⟨w12,hr,tu,on⟩:=oW (vs:=[.bool b10,.slice ad10 n10 c10,.slice ae10 m10 d10]) o3 rfl rfl (ocB (ocS (ocS oc0))) (niB (niS (niS ni0))) (o:=0) rfl
   have kp:=tu.keep o3
   refine E.st hF (dD (hF.at 10 rfl) hF.o (hr _ rfl)) rfl rfl fun a hF=>?_
   clear hr
   replace hh9:=hh9.keep kp
   replace hn10:=hn10.keep kp
   replace hf11:=hf11.keep kp
   replace hd10:=hd10.keep kp
   replace hx:=hx.keep kp
   replace hs:=hs.keep kp
   replace hel:=hel.keep kp
   replace orow:=tu.own orow nerow_3
   replace o2:=tu.own o2 ne2_3
   replace o5:=tu.own o5 (Ne.symm ne3_5)
   replace bel:=tu.below bel ge3
   replace sty:=sty.turned tu (.inl (by simp))
   clear tu kp
   replace o3:=on
   clear on
   refine E.nil0<|E.blk<|E.norm<|E.seq<|oV hF (ao (hF.at 7 rfl) ah ab (aU (by omega) (by omega))) rfl fun a hF=>?_
   refine E.opset (L':=[(9,iv (((i:Nat):Int)+1)),(16,iv (((i:Nat):Int)+1)),(15,.agg #[.bool b10,.slice ad10 n10 c10,.slice ae10 m10 d10]),(14,.agg #[.bool xb,.slice xa xn xc,.slice ya yn yc]),(13,.agg #[.bool sb,.slice sa sn sc,.slice ta tn tc]),(5,.pointer (some ⟨g5,0,none⟩)),(12,.agg #[.bool xb,.slice xa xn xc,.slice ya yn yc]),(11,.pointer (some ⟨gr,3*i,none⟩)),(10,.bool true),(8,iv ((qs.length:Nat):Int)),(7,.slice (some ⟨gr,0,none⟩) qs.length qs.length),(3,.pointer (some ⟨g3,0,none⟩)),(2,.pointer (some ⟨g2,0,none⟩))]) hF (aG hF.o) rfl rfl rfl rfl fun a hF=>?_
   refine E.nil0<|E.norm ?_
   exact⟨qs.length-(i+1),by omega,⟨i+1,_,_,_,_,_,_,_,hi,(by rw[show(((i+1:Nat)):Int)=((i:Nat):Int)+1 from by omega];exact Fr.sub (L':=[(9,iv (((i:Nat):Int)+1)),(8,iv ((qs.length:Nat):Int)),(7,.slice (some ⟨gr,0,none⟩) qs.length qs.length),(3,.pointer (some ⟨g3,0,none⟩)),(2,.pointer (some ⟨g2,0,none⟩))]) hF (by intro p hp;simp only [List.mem_cons,List.not_mem_nil,or_false] at hp ⊢;rcases hp with rfl|rfl|rfl|rfl|rfl <;> simp)),sty,bel,o3,hh9,rfl⟩⟩
  ·refine wp_seq<|E.seq ?_
   refine oU hF 0 1 (bC (c:=false) (by simp only [decide_eq_false_iff_not];omega)) rfl rfl rfl fun a hF=>ns<|wp_cond_false hF.o<|wp_exit<|E.past<|E.past<|E.out (id:=0)<|E.norm<|wq<|oV hF (ar (hF.at 4 rfl) (fQ (vs:=[.bool sb,.slice sa sn sc,.slice ta tn tc]) o3 rfl rfl)) rfl fun a hF=>?_
   obtain⟨w5,hr,tu,on⟩:=oW (vs:=[.bool sb,.slice sa sn sc,.slice ta tn tc]) o2 rfl rfl (ocB (ocS (ocS oc0))) (niB (niS (niS ni0))) (o:=0) rfl
   have kp:=tu.keep o2
   refine E.st hF (dD (hF.at 6 rfl) hF.o (hr _ rfl)) rfl rfl fun a hF=>?_
   clear hr
   replace hs:=hs.keep kp
   replace bel:=tu.below bel ge2
   clear tu kp
   replace o2:=on
   clear on
   refine nr ?_
   refine bodyPost_ret (tN Tryz.results232 (hF.at 6 rfl) (fQ (vs:=[.bool sb,.slice sa sn sc,.slice ta tn tc]) o2 rfl rfl)) hF.dfr ?_
   exact⟨_,rfl,by rw[show qs.length=i from by omega];exact hs,bel⟩
end
section
theorem jz.mono (qs:List Rat):∀w w' v,jz w v qs->Below w.heap.size w w'->jz w' v qs:=fun _ _ _ h hb=>h.below hb
end
end
theorem oX:(Tryz.prog.info? 72).map (·.size)=some 4:=by kernel_rfl
theorem yK:(Tryz.prog.info? 72).bind (·.zero)=some (.agg #[iv 0,iv 0,iv 0,iv 0]):=by kernel_rfl
theorem DL {w:World} {g o:Nat} {cs vs:List Value} (h:Blk w g cs) (hv:(cs.drop o).take 4=vs) (hl:vs.length=4):(Instr.loadAt 72 (.pointer (some ⟨g,o,none⟩))).run Tryz.prog w= .ok (.agg vs.toArray) w:=kL h hv hl Tryz.underlying72 rfl oX
theorem gX {w:World} {g o p:Nat} (hp:o+0=p):(Instr.fieldAt 72 (.pointer (some ⟨g,o,none⟩)) 0).run Tryz.prog w= .ok (.pointer (some ⟨g,p,none⟩)) w:=bl Tryz.underlying72 rfl rfl cD rfl p hp
theorem rI {w:World} {g o p:Nat} (hp:o+1=p):(Instr.fieldAt 72 (.pointer (some ⟨g,o,none⟩)) 1).run Tryz.prog w= .ok (.pointer (some ⟨g,p,none⟩)) w:=bl Tryz.underlying72 rfl rfl cD rfl p hp
theorem tT {w:World} {g o p:Nat} (hp:o+2=p):(Instr.fieldAt 72 (.pointer (some ⟨g,o,none⟩)) 2).run Tryz.prog w= .ok (.pointer (some ⟨g,p,none⟩)) w:=bl Tryz.underlying72 rfl rfl fb rfl p hp
theorem Ca {w:World} {g o p:Nat} (hp:o+3=p):(Instr.fieldAt 72 (.pointer (some ⟨g,o,none⟩)) 3).run Tryz.prog w= .ok (.pointer (some ⟨g,p,none⟩)) w:=bl Tryz.underlying72 rfl rfl fb rfl p hp
theorem uj (z00:Int) (z10:Int) (z20:Int) (z30:Int) (w:World):(Instr.build 72 #[(0,iv z00),(1,iv z10),(2,iv z20),(3,iv z30)]).run Tryz.prog w= .ok (.agg #[iv z00,iv z10,iv z20,iv z30]) w:=by
 have hz:=cW yK w
 have h_int:∀w,(sizeOf 3).run Tryz.prog w= .ok 1 w:=fun w=>a8 fb w
 have h_i64:∀w,(sizeOf 2).run Tryz.prog w= .ok 1 w:=fun w=>a8 cD w
 simp only [Instr.build,Sem.run_bind,hz,Result.andThen_ok,run_underlying Tryz.underlying72,List.mapM_toArray,List.mapM_cons,List.mapM_nil,Sem.run_map,h_i64,h_int,Sem.run_pure]
 rfl
theorem bN:Ty Tryz.prog 72 4 [iv 0,iv 0,iv 0,iv 0]:=⟨⟨_,Tryz.underlying72,rfl⟩,oX,yK⟩
theorem gF (z0 z1 z2 z3:Int) (w:World) (h0:0<=z2) (h1:z2<=11):
 CV 99 #[.agg #[iv z0,iv z1,iv z2,iv z3]] w (iv ((z2+1)%12+1)):=by
 refine gs1 (nt:=8) Tryz.func99 rfl rfl rfl fun a st hF=>wq<|bx st hF 0 rfl rfl fun g1 w1 a st hF=>?_
 refine oC hF rfl fun a hF=>nq ?_
 refine oV hF (au hF.p (tT (p:=2) rfl)) rfl fun a hF=>oV hF (ar hF.o (cr (v:= iv z2) (st.bk 0 rfl) rfl)) rfl fun a hF=>oV hF (ao hF.o ah ab (aU (by omega) (by omega))) rfl fun a hF=>oV hF (ao hF.o ah ab (mw (a:=z2+1) (b:=12) (by omega) (by omega))) rfl fun a hF=>oV hF (ao hF.o ah ab (aU (by omega) (by omega))) rfl fun a hF=>oE hF 0 rfl rfl fun a hF=>nr ?_
 have bel:=st.bel
 refine rt Tryz.results99 hF 0 rfl ?_
 exact⟨rfl,bel⟩
theorem oG (z0 z1 z2 z3:Int) (w:World):
 CV 100 #[.agg #[iv z0,iv z1,iv z2,iv z3]] w (.bool (decide (z2=z3))):=by
 refine gs1 (nt:=8) Tryz.func100 rfl rfl rfl fun a st hF=>wq<|bx st hF 0 rfl rfl fun g1 w1 a st hF=>?_
 refine oC hF rfl fun a hF=>nq ?_
 refine oV hF (au hF.p (tT (p:=2) rfl)) rfl fun a hF=>oV hF (ar hF.o (cr (v:= iv z2) (st.bk 0 rfl) rfl)) rfl fun a hF=>oV hF (au (hF.at 3 rfl) (Ca (p:=3) rfl)) rfl fun a hF=>oV hF (ar hF.o (cr (v:= iv z3) (st.bk 0 rfl) rfl)) rfl fun a hF=>oU hF 2 0 (bq (c:=decide (z2=z3)) rfl) rfl rfl rfl fun a hF=>oE hF 0 rfl rfl fun a hF=>nr ?_
 have bel:=st.bel
 refine rt Tryz.results100 hF 0 rfl ?_
 exact⟨rfl,bel⟩
def kV (w:World) (m T base:Nat) (v:Value) (n:Nat) (rs:List Value):Prop:=w.ownsRow base T m v n rs
theorem kV.castM {w:World} {m T base:Nat} {v:Value} {n n':Nat} {rs rs':List Value} (h:kV w m T base v n rs) (e:n=n') (f:rs=rs'):kV w m T base v n' rs':=by subst e f;exact h
theorem Blk.grown {w w':World} {row:Option Nat} {g:Nat} {cs:List Value} (h:Blk w g cs) (hg:w.grownBy w' row) (hne:some g≠row):Blk w' g cs:=by
 have hlt:=h.lt
 obtain⟨T,h1⟩:=h
 exact⟨T,by rw[hg.block g hlt hne];exact h1⟩
theorem sB {w w':World} {row:Option Nat} {base:Nat} (hg:w.grownBy w' row) (hb:∀g,row=some g->base<=g) (hw:base<=w.heap.size):Below base w w':=
 ⟨hg.os,hg.tape,hg.output,hg.size,fun k hk=>hg.block k (by omega) (fun e=>by have:=hb k e.symm;omega)⟩
theorem kV.row {w:World} {m T base:Nat} {ad:Option Addr} {n n' cap:Nat} {rs:List Value} (h:kV w m T base (.slice ad n' cap) n rs) (hp:0<n):
 ∃g more,ad=some ⟨g,0,none⟩/\n'=n/\base<=g/\Blk w g (rs++more):=by
 rcases h.2 with⟨_,e⟩|⟨g,cap',cur,hv,hb,hg,_,_,_,htake⟩
 ·omega
 ·injection hv with e1 e2 e3
  refine⟨g,cur.toList.drop (n*m),e1,e2,hb,⟨T,?_⟩⟩
  rw[<-htake,List.take_append_drop];simpa using hg
theorem Ef {w:World} {g n c i:Nat} {z:Int} (hz:z=((i:Nat):Int)) (hi:i<n):(Instr.indexAt 139 (.slice (some ⟨g,0,none⟩) n c) (iv z)).run Tryz.prog w= .ok (.pointer (some ⟨g,4*i,none⟩)) w:=by
 subst hz
 simp[Instr.indexAt,asIntOf,run_underlying Tryz.underlying139,Sem.run_bind,Addr.add_mid,hi,Nat.mul_comm]
theorem Bo {w:World} {ty:TypeId} {a:Option Addr} {n c:Nat}:(builtin .len #[139] ty #[false] #[.slice a n c]).run Tryz.prog w= .ok (.value (iv ((n:Nat):Int))) w:=by
 simp[Builtin.len_,go_sem,run_underlying Tryz.underlying139]
theorem Dl {k n:Int} (h0:0<=k) (h1:k<=n) (hn:0<n):0<=((k:Int):Rat)/((n:Int):Rat)/\((k:Int):Rat)/((n:Int):Rat)<=1:=by
 have a:0<=((k:Int):Rat):=Rat.intCast_nonneg.2 h0
 have b:((k:Int):Rat)<=((n:Int):Rat):=Rat.intCast_le_intCast.2 h1
 have c:0<((n:Int):Rat):=Rat.intCast_pos.2 hn
 have d:0<((n:Int):Rat)⁻¹ :=Rat.inv_pos.2 c
 have e:((n:Int):Rat)*((n:Int):Rat)⁻¹ =1:=Rat.mul_inv_cancel _ (by grind)
 rw[Rat.div_def]
 generalize ((n:Int):Rat)⁻¹ =y at*
 generalize ((n:Int):Rat)=x at*
 generalize ((k:Int):Rat)=z at*
 refine⟨Rat.mul_nonneg a (Rat.le_of_lt d),?_⟩
 have:=Rat.mul_le_mul_of_nonneg_right b (Rat.le_of_lt d)
 grind
theorem GQ {lo hi:Rat} (h:lo<=hi) {k n:Int} (h0:0<=k) (h1:k<=n) (hn:0<n):lo<=atR lo hi k n/\atR lo hi k n<=hi:=by
 have f:=Dl h0 h1 hn
 unfold atR
 generalize ((k:Int):Rat)/((n:Int):Rat)=y at*
 have g:0<=hi-lo:=by grind
 have a:=Rat.mul_nonneg g f.1
 have b:=Rat.mul_le_mul_of_nonneg_left f.2 g
 constructor <;> grind
theorem yb (p:Rat->Bool) {lo hi:Rat} (h:lo<=hi) (n:Nat):lo<=hlo p lo hi n/\hlo p lo hi n<=hi:=GQ h (gG p lo hi n).1 (by have:=gG p lo hi n;omega) (ke n)
theorem Ck {t:Rat}:wax t=false↔full t=true:=by unfold wax;cases full t <;> simp
theorem Cf {t:Rat}:wax t=true↔full t=false:=by unfold wax;cases full t <;> simp
theorem tG {n:Int} (h:aF n=true):wax ((n:Int):Rat)=false/\wax (((n+1:Int)):Rat)=true:=by
 unfold aF at h
 rw[Bool.and_eq_true,Bool.not_eq_true'] at h
 exact⟨Ck.2 h.1,Cf.2 h.2⟩
def nmL (n:Int):Rat:=hlo wax ((n:Int):Rat) (((n+1:Int)):Rat) 10
def nmR (n:Int):Rat:=hhi wax ((n:Int):Rat) (((n+1:Int)):Rat) 10
theorem Ir {n:Int} (h:aF n=true):wax (nmL n)=false:=A4 _ (tG h).1 10
theorem Hw {n:Int} (h:aF n=true):wax (nmR n)=true:=yL _ (tG h).2 10
theorem ki (n:Int):nmR n=nmL n+1/1024:=by
 have h:=DR wax ((n:Int):Rat) (((n+1:Int)):Rat) 10
 rw[show((1:Int):Rat)/(((2^10:Int):Int):Rat)=1/1024 by decide+kernel,cQ] at h
 unfold nmR nmL
 rw[cQ]
 grind
theorem qC {t:Rat} (h:kQ t=true):aF t.floor=true:=by
 unfold kQ at h
 rw[Bool.and_eq_true,Bool.not_eq_true'] at h
 have f0:=cY t
 have f1:=dr t
 have e:((t.floor:Int):Rat)+(t-((t.floor:Int):Rat))=t:=by grind
 have i:=(lr ((t.floor:Int):Rat) (d:=t-((t.floor:Int):Rat)) (by grind) (by grind)).1 ⟨h.1,by rw[e];exact h.2⟩
 rw[e] at i
 refine(bZ _).2 ?_
 have s:=gw t.floor
 have u:=jI t (d:=((t.floor:Int):Rat)+1-t) (by grind) (by grind)
 rw[show t+(((t.floor:Int):Rat)+1-t)=(((t.floor+1:Int)):Rat) by rw[cQ];grind] at u
 unfold aD at*
 rcases u with u|u <;> omega
theorem fO (t:Rat):aF (bm t)=true:=by
 by_cases h:kQ t=true
 ·rw[lT h];exact qC h
 ·rw[nX h];exact(bE _).2.2.1
theorem dR (n:Int):((n:Int):Rat)<nmR n/\nmR n<=((n:Int):Rat)+1:=by
 have b:=gG wax ((n:Int):Rat) (((n+1:Int)):Rat) 10
 rw[show(2:Int)^10=1024 from rfl] at b
 unfold nmR hhi atR
 generalize hlv wax ((n:Int):Rat) (((n+1:Int)):Rat) 10=k at*
 have a:=Rat.intCast_le_intCast.2 (show 1<=k+1 by omega)
 have c:=Rat.intCast_le_intCast.2 (show k+1<=1024 by omega)
 rw[cQ,show((2^10:Int):Rat)=1024 by decide+kernel]
 rw[show((1:Int):Rat)=1 from rfl] at a
 rw[show((1024:Int):Rat)=1024 from rfl] at c
 constructor <;> grind
def smV (n:Int):Int:=kaV (nmR n)
theorem Dc {n:Int} (h:aF n=true):nmR n+27<=nmR (az n)/\nmR (az n)<=nmR n+32:=by
 have s:=bD h
 have a:=dR n
 have b:=dR (az n)
 have l:=Rat.intCast_le_intCast.2 s.1
 have g:=Rat.intCast_le_intCast.2 s.2.1
 rw[Rat.intCast_add,show((28:Int):Rat)=28 from rfl] at l
 rw[Rat.intCast_add,show((31:Int):Rat)=31 from rfl] at g
 constructor <;> grind
theorem kl {n:Int} (h:aF n=true):smV n<=smV (az n)/\smV (az n)<=smV n+2:=by
 have g:=Dc h
 exact Eb g.1 g.2
theorem zx {n:Int} (h:aF n=true):smV n<smV (az (az n)):=by
 have s:=bD h
 have t:=bD s.2.2.1
 have a:=dR n
 have b:=dR (az (az n))
 have l:=Rat.intCast_le_intCast.2 (show n+56<=az (az n) by omega)
 rw[Rat.intCast_add,show((56:Int):Rat)=56 from rfl] at l
 exact BD (by grind)
noncomputable def moD (d:Int):Nat->Int
 |0=>d
 |k+1=>az (moD d k)
def moC (n m:Int):List Value:=[iv n,iv m,iv (smV n%12),iv (smV m%12)]
theorem tL (v1:Value) (qt:Rat) (k:Nat) (w:World) (hT:aY w) (h1:Rq w v1 qt) (hl:ag qt k) (hk:k<=100):CV 34 #[v1] w (iv (kaV qt%12)):=by
 rw[<-uU]
 exact qX v1 qt k w hT h1 hl hk
theorem lM (n:Int) (w:World) (hT:aY w) (hn0: -100000000<=n) (hn1:n<=100000000):
 CV 160 #[iv n] w (iv (smV n%12)):=by
 refine gs1 (nt:=12) Tryz.func160 rfl rfl rfl fun a st hF=>wq ?_
 refine oC hF rfl fun a hF=>nq<|oM hF 1 rfl rfl fun a hF=>?_
 refine S.call2 st hF (rgc Jd (aC hF.o)) (xO n _ (hT.below st.bel) (by omega) (by omega)) (fun _ _ h=>h) Rq.cl Rq.cl rfl rfl rfl rfl fun vv2 vv3 w1 a st hF=>?_
 obtain⟨r6,rfl⟩:=Rq.fo (st.f 0 rfl)
 obtain⟨r7,rfl⟩:=Rq.fo (st.f 1 rfl)
 refine oM hF 0 rfl rfl fun a hF=>oV hF (aA (v:= r6.v) hF.o rfl) rfl fun a hF=>oV hF (aA (v:= r7.v) hF.p rfl) rfl fun a hF=>S.alloc st hF aa rfl rfl fun g3 w8 a st hF=>S.alloc st hF aa rfl rfl fun g4 w9 a st hF=>so st hF 1 1 3 aa rfl rfl rfl rfl fun w10 a st hF=>so st hF 0 0 2 aa rfl rfl rfl rfl fun w11 a st hF=>nq<|oL hF st 0 0 aa rfl rfl rfl rfl fun a hF=>?_
 refine cX st hF (rgc k34 (aC hF.o)) (tL _ _ 14 _ (hT.below st.bel) (st.f 1 rfl) (vC (p:=wax) (i:=2) (j:=2) (el (n:=n) (by omega) (by omega)) (mh (n:=n) (by omega) (by omega)) (by decide)) (by omega)) rfl fun w12 a st hF=>?_
 refine oE hF 0 rfl rfl fun a hF=>nr ?_
 have bel:=st.bel
 refine rt Tryz.results160 hF 0 rfl ?_
 exact⟨bU rfl,bel⟩
theorem rB (n:Int) (w:World) (hT:aY w) (hn0: -99000000<=n) (hn1:n<=99000000) (hc:aF n=true):
 CV 91 #[iv n] w (.agg #[iv n,iv (az n),iv (smV n%12),iv (smV (az n)%12)]):=by
 have hns:=bD hc
 refine gs1 (nt:=13) Tryz.func91 rfl rfl rfl fun a st hF=>wq<|S.alloc st hF bN rfl rfl fun g2 w1 a st hF=>nq<|oM hF 1 rfl rfl fun a hF=>cX st hF (rgc IC (aC hF.o)) (wV n _ (hT.below st.bel) (by omega) (by omega) hc) rfl fun w2 a st hF=>?_
 refine oA hF 0 rfl rfl fun a hF=>nq<|oM hF 4 rfl rfl fun a hF=>oM hF 1 rfl rfl fun a hF=>oM hF 6 rfl rfl fun a hF=>cX st hF (rgc Gw (aC hF.o)) (lM n _ (hT.below st.bel) (by omega) (by omega)) rfl fun w3 a st hF=>oM hF 4 rfl rfl fun a hF=>cX st hF (rgc Gw (aC hF.o)) (lM (az n) _ (hT.below st.bel) (by omega) (by omega)) rfl fun w4 a st hF=>oV hF (bB (mK (hF.at 5 rfl) (hF.at 4 rfl) hF.q hF.o) (uj _ _ _ _ _)) rfl fun a hF=>?_
 refine S.stoI st hF 0 rfl (hF.at 10 rfl) hF.o bN rfl rfl rfl fun w5 a st hF=>nr<|rs Tryz.results91 st hF 10 0 bN rfl rfl rfl ?_
 exact⟨rfl,st.bel⟩
theorem sF (v1:Value) (qt:Rat) (k:Nat) (w:World) (hT:aY w) (h1:Rq w v1 qt) (hl:ag qt k) (hk:k<=100) (hf0: -90000000<=Rat.floor qt) (hf1:Rat.floor qt<=90000000):
 CV 39 #[v1] w (.agg #[iv (bm qt),iv (az (bm qt)),iv (smV (bm qt)%12),iv (smV (az (bm qt))%12)]):=by
 have hlv:=su qt
 refine gs1 (nt:=6) Tryz.func39 rfl rfl rfl fun a st hF=>wq ?_
 obtain⟨r2,rfl⟩:=Rq.fo h1
 refine bx st hF 0 rfl rfl fun g1 w1 a st hF=>S.alloc st hF bN rfl rfl fun g2 w3 a st hF=>nq<|oL hF st 1 1 aa rfl rfl rfl rfl fun a hF=>cX st hF (rgc k92 (aC hF.o)) (oQ _ (qt) k _ (hT.below st.bel) (h1.below st.bel) hl (by omega) (by omega) (by omega)) rfl fun w4 a st hF=>cX st hF (rgc k91 (aC hF.o)) (rB (bm (qt)) _ (hT.below st.bel) (by omega) (by omega) (fO qt)) rfl fun w5 a st hF=>S.stoI st hF 0 rfl (hF.at 3 rfl) hF.o bN rfl rfl rfl fun w6 a st hF=>nr ?_
 refine rs Tryz.results39 st hF 3 0 bN rfl rfl rfl ?_
 exact⟨rfl,st.bel⟩
theorem na (z0 z1 z2 z3:Int) (w:World) (hT:aY w) (hn0: -99000000<=z1) (hn1:z1<=99000000) (hc:aF z1=true):
 CV 170 #[.agg #[iv z0,iv z1,iv z2,iv z3]] w (.agg #[iv z1,iv (az z1),iv (smV z1%12),iv (smV (az z1)%12)]):=by
 refine gs1 (nt:=6) Tryz.func170 rfl rfl rfl fun a st hF=>wq<|bx st hF 0 rfl rfl fun g1 w1 a st hF=>S.alloc st hF bN rfl rfl fun g2 w2 a st hF=>nq<|oV hF (au hF.p (rI (p:=1) rfl)) rfl fun a hF=>oV hF (ar hF.o (bi (v:= iv z1) (st.bk 1 rfl) rfl)) rfl fun a hF=>cX st hF (rgc k91 (aC hF.o)) (rB z1 _ (hT.below st.bel) (by omega) (by omega) hc) rfl fun w3 a st hF=>S.stoI st hF 0 rfl (hF.at 3 rfl) hF.o bN rfl rfl rfl fun w4 a st hF=>?_
 refine nr<|rs Tryz.results170 st hF 3 0 bN rfl rfl rfl ?_
 exact⟨rfl,st.bel⟩
end Go.Proofs.YtgdpkknapcgcbaaGreatDoor
