import Derived.Test.YtgdpkknapcgcbaaGreatDoorKB15
namespace Go.Proofs.YtgdpkknapcgcbaaGreatDoor
open Go.RowKit
set_option maxRecDepth 100000
set_option linter.unusedVariables false
set_option maxHeartbeats 8000000
section
section
def QEl (w:World) (cs:List Value) (qs:List Rat):Prop:=
 ∀i,i<qs.length->∃b ad n c ae m d,(cs.drop (3*i)).take 3=[.bool b,.slice ad n c,.slice ae m d]/\Rq w (.agg #[.bool b,.slice ad n c,.slice ae m d]) (qs.getD i 0)
theorem QEl.below {w w':World} {cs:List Value} {qs:List Rat} (h:QEl w cs qs) (hb:Below w.heap.size w w'):QEl w' cs qs:=by
 intro i hi
 obtain⟨b,ad,n,c,ae,m,d,h1,h2⟩:=h i hi
 exact⟨b,ad,n,c,ae,m,d,h1,h2.below hb⟩
theorem QEl.keep {w w':World} {cs:List Value} {qs:List Rat} (h:QEl w cs qs) (kp:dt w w'):QEl w' cs qs:=by
 intro i hi
 obtain⟨b,ad,n,c,ae,m,d,h1,h2⟩:=h i hi
 exact⟨b,ad,n,c,ae,m,d,h1,h2.keep kp⟩
def iV (w:World) (v:Value) (qs:List Rat):Prop:=∃g cs,v= .slice (some ⟨g,0,none⟩) qs.length qs.length/\Own w g cs/\QEl w cs qs
theorem iV.below {w w':World} {v:Value} {qs:List Rat} (h:iV w v qs) (hb:Below w.heap.size w w'):iV w' v qs:=by
 obtain⟨g,cs,h1,h2,h3⟩:=h
 exact⟨g,cs,h1,h2.below hb,h3.below hb⟩
def mM (qs:List Rat):Nat->Rat
 |0=>0
 |i+1=>mM qs i+qs.getD i 0
theorem Be {t:TypeId} {w:World} {ad:Option Addr} {n c:Nat}:(builtin .len #[246] t #[false] #[.slice ad n c]).run Tryz.prog w= .ok (.value (iv n)) w:=by
 have hu:=run_underlying (P:=Tryz.prog) Tryz.underlying246 w
 simp[Builtin.len_,Sem.run_bind,hu,go_sem]
theorem Bk {w:World} {g n c i:Nat} (hi:i<n):(Instr.indexAt 246 (.slice (some ⟨g,0,none⟩) n c) (iv (i:Nat))).run Tryz.prog w= .ok (.pointer (some ⟨g,3*i,none⟩)) w:=by
 have hu:=run_underlying (P:=Tryz.prog) Tryz.underlying246 w
 unfold Instr.indexAt
 simp[Sem.run_bind,asIntOf,go_sem,hu,hi,Addr.add]
 split
 ·obtain rfl:i=0:=by omega
  rfl
 ·rw[Nat.mul_comm]
end
section
theorem zF (v1:Value) (qs:List Rat) (k:Nat) (w:World) (h1:iV w v1 qs) (hl1:∀i,i<=qs.length->ag (mM qs i) k) (hl2:∀i,i<qs.length->ag (qs.getD i 0) k) (hk:k<=100000) (hn:qs.length<=1000000):
 CQ 232 #[v1] w (mM qs qs.length):=by
 obtain⟨gr,cs,rfl,orow,hel⟩:=h1
 have bel:Below w.heap.size w w:=Below.refl _ _
 refine go1 (nt:=18) Tryz.func232 rfl rfl rfl fun a hF=>wq ?_
 obtain⟨g2,w1,ge2,hr,bb,o2⟩:=ga (P:=Tryz.prog) (w:=w) (cs:=[.bool false,.slice none 0 0,.slice none 0 0]) 33 iL rfl (niB (niS (niS ni0)))
 have nerow_2:gr≠g2:=by rw[<-ge2];exact orow.ne_new
 replace ge2:w.heap.size<=g2:=by rw[<-ge2];exact bel.size
 refine oV hF (dW hr) rfl fun a hF=>?_
 clear hr
 replace hel:=hel.below bb
 replace orow:=orow.below bb
 replace bel:=a5 bel bb
 clear bb
 refine nq<|oV hF (a7 (by simp) (gL _)) rfl fun a hF=>?_
 obtain⟨g3,w2,ge3,hr,bb,o3⟩:=ga (P:=Tryz.prog) (w:=w1) (cs:=[.bool false,.slice none 0 0,.slice none 0 0]) 33 iL rfl (niB (niS (niS ni0)))
 have nerow_3:gr≠g3:=by rw[<-ge3];exact orow.ne_new
 have ne2_3:g2≠g3:=by rw[<-ge3];exact o2.ne_new
 replace ge3:w.heap.size<=g3:=by rw[<-ge3];exact bel.size
 refine oV hF (dW hr) rfl fun a hF=>?_
 clear hr
 replace hel:=hel.below bb
 replace orow:=orow.below bb
 replace o2:=o2.below bb
 replace bel:=a5 bel bb
 clear bb
 obtain⟨w3,hr,tu,on⟩:=nD (vs:=[.bool false,.slice none 0 0,.slice none 0 0]) o3 rfl rfl (ocB (ocS (ocS oc0))) (niB (niS (niS ni0))) (o:=0) rfl
 have kp:=tu.keep o3
 refine E.st hF (cM hF.o hF.p (hr _ rfl)) rfl rfl fun a hF=>?_
 clear hr
 replace hel:=hel.keep kp
 replace orow:=tu.own orow nerow_3
 replace o2:=tu.own o2 ne2_3
 replace bel:=tu.below bel ge3
 clear tu kp
 replace o3:=on
 clear on
 refine ns<|wq<|oM hF 3 rfl rfl fun a hF=>oV hF (aR (aB hF.o) Be) rfl fun a hF=>oV hF (aI ah) rfl fun a hF=>E.nil<|wp_block ?_
 have nint:=nn1 o3.noInt
 refine E.loop (fun m a wv=>∃(i:Nat) (sb:Bool) (sa:Option Addr) (sn:Nat) (sc:Nat) (ta:Option Addr) (tn:Nat) (tc:Nat),i<=qs.length/\Fr 18 a [(9,iv ((i:Nat):Int)),(8,iv ((qs.length:Nat):Int)),(7,.slice (some ⟨gr,0,none⟩) qs.length qs.length),(3,.pointer (some ⟨g3,0,none⟩)),(2,.pointer (some ⟨g2,0,none⟩))]/\gu [g3] w3 wv/\Below w.heap.size w wv/\Own wv g3 [.bool sb,.slice sa sn sc,.slice ta tn tc]/\Rq wv (.agg #[.bool sb,.slice sa sn sc,.slice ta tn tc]) (mM qs i)/\m=qs.length-i) (qs.length-0) ?_ ?_
 ·exact⟨0,_,_,_,_,_,_,_,Nat.zero_le _,hF.sub (by intro p hp;simp only [List.mem_cons,List.not_mem_nil,or_false] at hp ⊢;rcases hp with rfl|rfl|rfl|rfl|rfl <;> simp),gu.refl _ _,bel,o3,(Rq.zero _),rfl⟩
 ·rintro m a w4 ⟨i,sb,sa,sn,sc,ta,tn,tc,hi0,hF,sty,bel,o3,hs,hm⟩
  have kps:=sty.keep nint
  replace hel:=hel.keep kps
  replace orow:=sty.own orow (by simp only [List.mem_cons,List.not_mem_nil,or_false];first|exact nerow_3|(intro e;exact nerow_3 e))
  replace o2:=sty.own o2 (by simp only [List.mem_cons,List.not_mem_nil,or_false];first|exact ne2_3|(intro e;exact ne2_3 e))
  clear kps
  by_cases hi:i<qs.length
  ·refine wp_seq<|E.seq ?_
   refine oU hF 0 1 (cw (c:=true) (by simp only [decide_eq_true_eq];omega)) rfl rfl rfl fun a hF=>ns<|wp_cond_true hF.o<|wp_skip<|E.norm<|wp_seq<|wp_block<|wq ?_
   obtain⟨xb,xa,xn,xc,ya,yn,yc,hcut,hx⟩:=hel i hi
   refine oV hF (dY (hF.at 3 rfl) hF.p (Bk hi)) rfl fun a hF=>oV hF (aq hF.o (fP (vs:=[.bool xb,.slice xa xn xc,.slice ya yn yc]) orow hcut rfl)) rfl fun a hF=>?_
   obtain⟨g5,w5,ge5,hr,bb,o5⟩:=ga (P:=Tryz.prog) (w:=w4) (cs:=[.bool false,.slice none 0 0,.slice none 0 0]) 33 iL rfl (niB (niS (niS ni0)))
   have nerow_5:gr≠g5:=by rw[<-ge5];exact orow.ne_new
   have ne2_5:g2≠g5:=by rw[<-ge5];exact o2.ne_new
   have ne3_5:g3≠g5:=by rw[<-ge5];exact o3.ne_new
   have gl5:w3.heap.size<=g5:=by rw[<-ge5];exact sty.size
   replace ge5:w.heap.size<=g5:=by rw[<-ge5];exact bel.size
   refine oV hF (dW hr) rfl fun a hF=>?_
   clear hr
   replace hx:=hx.below bb
   replace hel:=hel.below bb
   replace hs:=hs.below bb
   replace orow:=orow.below bb
   replace o2:=o2.below bb
   replace o3:=o3.below bb
   replace bel:=a5 bel bb
   replace sty:=sty.below bb
   clear bb
   obtain⟨w6,hr,tu,on⟩:=nD (vs:=[.bool xb,.slice xa xn xc,.slice ya yn yc]) o5 rfl rfl (ocB (ocS (ocS oc0))) (niB (niS (niS ni0))) (o:=0) rfl
   have kp:=tu.keep o5
   refine E.st hF (cM hF.o hF.p (hr _ rfl)) rfl rfl fun a hF=>?_
   clear hr
   replace hx:=hx.keep kp
   replace hel:=hel.keep kp
   replace hs:=hs.keep kp
   replace orow:=tu.own orow nerow_5
   replace o2:=tu.own o2 ne2_5
   replace o3:=tu.own o3 ne3_5
   replace bel:=tu.below bel ge5
   replace sty:=sty.turned tu (.inr gl5)
   clear tu kp
   replace o5:=on
   clear on
   refine E.nil<|E.seq<|oV hF (aq (hF.at 7 rfl) (fP (vs:=[.bool sb,.slice sa sn sc,.slice ta tn tc]) o3 rfl rfl)) rfl fun a hF=>oV hF (aq hF.p (fP (vs:=[.bool xb,.slice xa xn xc,.slice ya yn yc]) o5 rfl rfl)) rfl fun a hF=>?_
   refine E.call hF (rk F4 (aA hF.p hF.o)) (mW _ _ (mM qs i) (qs.getD i 0) k _ hs hx ((hl1 i hi0).up _ (by omega)) ((hl2 i hi).up _ (by omega)) (by omega)) rfl rfl rfl rfl ?_
   rintro e w7 ⟨vv8,rfl,hh9,bb⟩
   refine⟨_,rfl,?_⟩
   intro a hF
   replace hx:=hx.below bb
   replace hs:=hs.below bb
   replace hel:=hel.below bb
   replace orow:=orow.below bb
   replace o2:=o2.below bb
   replace o3:=o3.below bb
   replace o5:=o5.below bb
   replace bel:=a5 bel bb
   replace sty:=sty.below bb
   clear bb
   obtain⟨b10,ad10,n10,c10,ae10,m10,d10,rfl,hn10,hd10⟩:=Rq.shape hh9
   have hf11:=Wc.abs hn10
   obtain⟨w12,hr,tu,on⟩:=nD (vs:=[.bool b10,.slice ad10 n10 c10,.slice ae10 m10 d10]) o3 rfl rfl (ocB (ocS (ocS oc0))) (niB (niS (niS ni0))) (o:=0) rfl
   have kp:=tu.keep o3
   refine E.st hF (cM (hF.at 10 rfl) hF.o (hr _ rfl)) rfl rfl fun a hF=>?_
   clear hr
   replace hh9:=hh9.keep kp
   replace hn10:=hn10.keep kp
   replace hf11:=hf11.keep kp
   replace hd10:=hd10.keep kp
   replace hx:=hx.keep kp
   replace hs:=hs.keep kp
   replace hel:=hel.keep kp
   replace orow:=tu.own orow nerow_3
   replace o2:=tu.own o2 ne2_3
   replace o5:=tu.own o5 (Ne.symm ne3_5)
   replace bel:=tu.below bel ge3
   replace sty:=sty.turned tu (.inl (by simp))
   clear tu kp
   replace o3:=on
   clear on
   refine E.nil0<|E.blk<|E.norm<|E.seq<|oV hF (ar (hF.at 7 rfl) ah ab (bl (by omega) (by omega))) rfl fun a hF=>?_
   refine E.opset (L':=[(9,iv (((i:Nat):Int)+1)),(16,iv (((i:Nat):Int)+1)),(15,.agg #[.bool b10,.slice ad10 n10 c10,.slice ae10 m10 d10]),(14,.agg #[.bool xb,.slice xa xn xc,.slice ya yn yc]),(13,.agg #[.bool sb,.slice sa sn sc,.slice ta tn tc]),(5,.pointer (some ⟨g5,0,none⟩)),(12,.agg #[.bool xb,.slice xa xn xc,.slice ya yn yc]),(11,.pointer (some ⟨gr,3*i,none⟩)),(10,.bool true),(8,iv ((qs.length:Nat):Int)),(7,.slice (some ⟨gr,0,none⟩) qs.length qs.length),(3,.pointer (some ⟨g3,0,none⟩)),(2,.pointer (some ⟨g2,0,none⟩))]) hF (aI hF.o) rfl rfl rfl rfl fun a hF=>?_
   refine E.nil0<|E.norm ?_
   exact⟨qs.length-(i+1),by omega,⟨i+1,_,_,_,_,_,_,_,hi,(by rw[show(((i+1:Nat)):Int)=((i:Nat):Int)+1 from by omega];exact Fr.sub (L':=[(9,iv (((i:Nat):Int)+1)),(8,iv ((qs.length:Nat):Int)),(7,.slice (some ⟨gr,0,none⟩) qs.length qs.length),(3,.pointer (some ⟨g3,0,none⟩)),(2,.pointer (some ⟨g2,0,none⟩))]) hF (by intro p hp;simp only [List.mem_cons,List.not_mem_nil,or_false] at hp ⊢;rcases hp with rfl|rfl|rfl|rfl|rfl <;> simp)),sty,bel,o3,hh9,rfl⟩⟩
  ·refine wp_seq<|E.seq ?_
   refine oU hF 0 1 (cw (c:=false) (by simp only [decide_eq_false_iff_not];omega)) rfl rfl rfl fun a hF=>ns<|wp_cond_false hF.o<|wp_exit<|E.past<|E.past<|E.out (id:=0)<|E.norm<|wq<|oV hF (aq (hF.at 4 rfl) (fP (vs:=[.bool sb,.slice sa sn sc,.slice ta tn tc]) o3 rfl rfl)) rfl fun a hF=>?_
   obtain⟨w5,hr,tu,on⟩:=nD (vs:=[.bool sb,.slice sa sn sc,.slice ta tn tc]) o2 rfl rfl (ocB (ocS (ocS oc0))) (niB (niS (niS ni0))) (o:=0) rfl
   have kp:=tu.keep o2
   refine E.st hF (cM (hF.at 6 rfl) hF.o (hr _ rfl)) rfl rfl fun a hF=>?_
   clear hr
   replace hs:=hs.keep kp
   replace bel:=tu.below bel ge2
   clear tu kp
   replace o2:=on
   clear on
   refine nr ?_
   refine bodyPost_ret (rC Tryz.results232 (hF.at 6 rfl) (fP (vs:=[.bool sb,.slice sa sn sc,.slice ta tn tc]) o2 rfl rfl)) hF.dfr ?_
   exact⟨_,rfl,by rw[show qs.length=i from by omega];exact hs,bel⟩
end
section
theorem iV.mono (qs:List Rat):∀w w' v,iV w v qs->Below w.heap.size w w'->iV w' v qs:=fun _ _ _ h hb=>h.below hb
end
end
end Go.Proofs.YtgdpkknapcgcbaaGreatDoor
