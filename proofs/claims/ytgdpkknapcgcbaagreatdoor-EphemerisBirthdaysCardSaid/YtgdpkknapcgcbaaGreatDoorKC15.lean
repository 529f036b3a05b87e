import Derived.Test.YtgdpkknapcgcbaaGreatDoorKC13
import Derived.Laws.StructEq
namespace Go.Proofs.YtgdpkknapcgcbaaGreatDoor
open Go.RowKit
set_option maxRecDepth 100000
set_option linter.unusedVariables false
set_option maxHeartbeats 8000000
section
section
def QEl (w:World) (cs:List Value) (qs:List Rat):Prop:=
 ∀i,i<qs.length->∃b ad n c ae m d,(cs.drop (3*i)).take 3=[.bool b,.slice ad n c,.slice ae m d]/\Rq w (.agg #[.bool b,.slice ad n c,.slice ae m d]) (qs.getD i 0)
theorem QEl.below {w w':World} {cs:List Value} {qs:List Rat} (h:QEl w cs qs) (hb:Below w.heap.size w w'):QEl w' cs qs:=by
 intro i hi
 obtain⟨b,ad,n,c,ae,m,d,h1,h2⟩:=h i hi
 exact⟨b,ad,n,c,ae,m,d,h1,h2.below hb⟩
theorem QEl.keep {w w':World} {cs:List Value} {qs:List Rat} (h:QEl w cs qs) (kp:eO w w'):QEl w' cs qs:=by
 intro i hi
 obtain⟨b,ad,n,c,ae,m,d,h1,h2⟩:=h i hi
 exact⟨b,ad,n,c,ae,m,d,h1,h2.keep kp⟩
def mC (w:World) (v:Value) (qs:List Rat):Prop:=∃g cs,v= .slice (some ⟨g,0,none⟩) qs.length qs.length/\Own w g cs/\QEl w cs qs
theorem mC.below {w w':World} {v:Value} {qs:List Rat} (h:mC w v qs) (hb:Below w.heap.size w w'):mC w' v qs:=by
 obtain⟨g,cs,h1,h2,h3⟩:=h
 exact⟨g,cs,h1,h2.below hb,h3.below hb⟩
def uk (qs:List Rat):Nat->Rat
 |0=>0
 |i+1=>uk qs i+qs.getD i 0
theorem MK {t:TypeId} {w:World} {ad:Option Addr} {n c:Nat}:(builtin .len #[246] t #[false] #[.slice ad n c]).run Tryz.prog w= .ok (.value (iv n)) w:=by
 have hu:=run_underlying (P:=Tryz.prog) Tryz.underlying246 w
 simp[Builtin.len_,Sem.run_bind,hu,go_sem]
theorem Lq {w:World} {g n c i:Nat} (hi:i<n):(Instr.indexAt 246 (.slice (some ⟨g,0,none⟩) n c) (iv (i:Nat))).run Tryz.prog w= .ok (.pointer (some ⟨g,3*i,none⟩)) w:=by
 have hu:=run_underlying (P:=Tryz.prog) Tryz.underlying246 w
 unfold Instr.indexAt
 simp[Sem.run_bind,asIntOf,go_sem,hu,hi,Addr.add]
 split
 ·obtain rfl:i=0:=by omega
  rfl
 ·rw[Nat.mul_comm]
end
section
theorem H9 (v1:Value) (qs:List Rat) (k:Nat) (w:World) (h1:mC w v1 qs) (hl1:∀i,i<=qs.length->av (uk qs i) k) (hl2:∀i,i<qs.length->av (qs.getD i 0) k) (hk:k<=100000) (hn:qs.length<=1000000):
 CQ 232 #[v1] w (uk qs qs.length):=by
 obtain⟨gr,cs,rfl,orow,hel⟩:=h1
 have bel:Below w.heap.size w w:=Below.refl _ _
 refine go1 (nt:=18) Tryz.func232 rfl rfl rfl fun a hF=>wq ?_
 obtain⟨g2,w1,ge2,hr,bb,o2⟩:=eo (P:=Tryz.prog) (w:=w) (cs:=[.bool false,.slice none 0 0,.slice none 0 0]) 33 lE rfl (niB (niS (niS ni0)))
 have nerow_2:gr≠g2:=by rw[<-ge2];exact orow.ne_new
 replace ge2:w.heap.size<=g2:=by rw[<-ge2];exact bel.size
 refine oV hF (dP hr) rfl fun a hF=>?_
 clear hr
 replace hel:=hel.below bb
 replace orow:=orow.below bb
 replace bel:=aF bel bb
 clear bb
 refine nq<|oV hF (bn (by simp) (jK _)) rfl fun a hF=>?_
 obtain⟨g3,w2,ge3,hr,bb,o3⟩:=eo (P:=Tryz.prog) (w:=w1) (cs:=[.bool false,.slice none 0 0,.slice none 0 0]) 33 lE rfl (niB (niS (niS ni0)))
 have nerow_3:gr≠g3:=by rw[<-ge3];exact orow.ne_new
 have ne2_3:g2≠g3:=by rw[<-ge3];exact o2.ne_new
 replace ge3:w.heap.size<=g3:=by rw[<-ge3];exact bel.size
 refine oV hF (dP hr) rfl fun a hF=>?_
 clear hr
 replace hel:=hel.below bb
 replace orow:=orow.below bb
 replace o2:=o2.below bb
 replace bel:=aF bel bb
 clear bb
 obtain⟨w3,hr,tu,on⟩:=qn (vs:=[.bool false,.slice none 0 0,.slice none 0 0]) o3 rfl rfl (ocB (ocS (ocS oc0))) (niB (niS (niS ni0))) (o:=0) rfl
 have kp:=tu.keep o3
 refine E.st hF (cT hF.o hF.p (hr _ rfl)) rfl rfl fun a hF=>?_
 clear hr
 replace hel:=hel.keep kp
 replace orow:=tu.own orow nerow_3
 replace o2:=tu.own o2 ne2_3
 replace bel:=tu.below bel ge3
 clear tu kp
 replace o3:=on
 clear on
 refine ns<|wq<|oM hF 3 rfl rfl fun a hF=>oV hF (aW (aG hF.o) MK) rfl fun a hF=>oV hF (aD ao) rfl fun a hF=>E.nil<|wp_block ?_
 have nint:=nn1 o3.noInt
 refine E.loop (fun m a wv=>∃(i:Nat) (sb:Bool) (sa:Option Addr) (sn:Nat) (sc:Nat) (ta:Option Addr) (tn:Nat) (tc:Nat),i<=qs.length/\Fr 18 a [(9,iv ((i:Nat):Int)),(8,iv ((qs.length:Nat):Int)),(7,.slice (some ⟨gr,0,none⟩) qs.length qs.length),(3,.pointer (some ⟨g3,0,none⟩)),(2,.pointer (some ⟨g2,0,none⟩))]/\jW [g3] w3 wv/\Below w.heap.size w wv/\Own wv g3 [.bool sb,.slice sa sn sc,.slice ta tn tc]/\Rq wv (.agg #[.bool sb,.slice sa sn sc,.slice ta tn tc]) (uk qs i)/\m=qs.length-i) (qs.length-0) ?_ ?_
 ·exact⟨0,_,_,_,_,_,_,_,Nat.zero_le _,hF.sub (by intro p hp;simp only [List.mem_cons,List.not_mem_nil,or_false] at hp ⊢;rcases hp with rfl|rfl|rfl|rfl|rfl <;> simp),jW.refl _ _,bel,o3,(Rq.zero _),rfl⟩
 ·rintro m a w4 ⟨i,sb,sa,sn,sc,ta,tn,tc,hi0,hF,sty,bel,o3,hs,hm⟩
  have kps:=sty.keep nint
  replace hel:=hel.keep kps
  replace orow:=sty.own orow (by simp only [List.mem_cons,List.not_mem_nil,or_false];first|exact nerow_3|(intro e;exact nerow_3 e))
  replace o2:=sty.own o2 (by simp only [List.mem_cons,List.not_mem_nil,or_false];first|exact ne2_3|(intro e;exact ne2_3 e))
  clear kps
  by_cases hi:i<qs.length
  ·refine wp_seq<|E.seq ?_
   refine oU hF 0 1 (aY (c:=true) (by simp only [decide_eq_true_eq];omega)) rfl rfl rfl fun a hF=>ns<|wp_cond_true hF.o<|wp_skip<|E.norm<|wp_seq<|wp_block<|wq ?_
   obtain⟨xb,xa,xn,xc,ya,yn,yc,hcut,hx⟩:=hel i hi
   refine oV hF (bS (hF.at 3 rfl) hF.p (Lq hi)) rfl fun a hF=>oV hF (ar hF.o (fM (vs:=[.bool xb,.slice xa xn xc,.slice ya yn yc]) orow hcut rfl)) rfl fun a hF=>?_
   obtain⟨g5,w5,ge5,hr,bb,o5⟩:=eo (P:=Tryz.prog) (w:=w4) (cs:=[.bool false,.slice none 0 0,.slice none 0 0]) 33 lE rfl (niB (niS (niS ni0)))
   have nerow_5:gr≠g5:=by rw[<-ge5];exact orow.ne_new
   have ne2_5:g2≠g5:=by rw[<-ge5];exact o2.ne_new
   have ne3_5:g3≠g5:=by rw[<-ge5];exact o3.ne_new
   have gl5:w3.heap.size<=g5:=by rw[<-ge5];exact sty.size
   replace ge5:w.heap.size<=g5:=by rw[<-ge5];exact bel.size
   refine oV hF (dP hr) rfl fun a hF=>?_
   clear hr
   replace hx:=hx.below bb
   replace hel:=hel.below bb
   replace hs:=hs.below bb
   replace orow:=orow.below bb
   replace o2:=o2.below bb
   replace o3:=o3.below bb
   replace bel:=aF bel bb
   replace sty:=sty.below bb
   clear bb
   obtain⟨w6,hr,tu,on⟩:=qn (vs:=[.bool xb,.slice xa xn xc,.slice ya yn yc]) o5 rfl rfl (ocB (ocS (ocS oc0))) (niB (niS (niS ni0))) (o:=0) rfl
   have kp:=tu.keep o5
   refine E.st hF (cT hF.o hF.p (hr _ rfl)) rfl rfl fun a hF=>?_
   clear hr
   replace hx:=hx.keep kp
   replace hel:=hel.keep kp
   replace hs:=hs.keep kp
   replace orow:=tu.own orow nerow_5
   replace o2:=tu.own o2 ne2_5
   replace o3:=tu.own o3 ne3_5
   replace bel:=tu.below bel ge5
   replace sty:=sty.turned tu (.inr gl5)
   clear tu kp
   replace o5:=on
   clear on
   refine E.nil<|E.seq<|oV hF (ar (hF.at 7 rfl) (fM (vs:=[.bool sb,.slice sa sn sc,.slice ta tn tc]) o3 rfl rfl)) rfl fun a hF=>oV hF (ar hF.p (fM (vs:=[.bool xb,.slice xa xn xc,.slice ya yn yc]) o5 rfl rfl)) rfl fun a hF=>?_
   refine E.call hF (rk Sa (aL hF.p hF.o)) (tN _ _ (uk qs i) (qs.getD i 0) k _ hs hx ((hl1 i hi0).up _ (by omega)) ((hl2 i hi).up _ (by omega)) (by omega)) rfl rfl rfl rfl ?_
   rintro e w7 ⟨vv8,rfl,hh9,bb⟩
   refine⟨_,rfl,?_⟩
   intro a hF
   replace hx:=hx.below bb
   replace hs:=hs.below bb
   replace hel:=hel.below bb
   replace orow:=orow.below bb
   replace o2:=o2.below bb
   replace o3:=o3.below bb
   replace o5:=o5.below bb
   replace bel:=aF bel bb
   replace sty:=sty.below bb
   clear bb
   obtain⟨b10,ad10,n10,c10,ae10,m10,d10,rfl,hn10,hd10⟩:=Rq.shape hh9
   have hf11:=Wc.abs hn10
   obtain⟨w12,hr,tu,on⟩:=qn (vs:=[.bool b10,.slice ad10 n10 c10,.slice ae10 m10 d10]) o3 rfl rfl (ocB (ocS (ocS oc0))) (niB (niS (niS ni0))) (o:=0) rfl
   have kp:=tu.keep o3
   refine E.st hF (cT (hF.at 10 rfl) hF.o (hr _ rfl)) rfl rfl fun a hF=>?_
   clear hr
   replace hh9:=hh9.keep kp
   replace hn10:=hn10.keep kp
   replace hf11:=hf11.keep kp
   replace hd10:=hd10.keep kp
   replace hx:=hx.keep kp
   replace hs:=hs.keep kp
   replace hel:=hel.keep kp
   replace orow:=tu.own orow nerow_3
   replace o2:=tu.own o2 ne2_3
   replace o5:=tu.own o5 (Ne.symm ne3_5)
   replace bel:=tu.below bel ge3
   replace sty:=sty.turned tu (.inl (by simp))
   clear tu kp
   replace o3:=on
   clear on
   refine E.nil0<|E.blk<|E.norm<|E.seq<|oV hF (aq (hF.at 7 rfl) ao aa (aX (by omega) (by omega))) rfl fun a hF=>?_
   refine E.opset (L':=[(9,iv (((i:Nat):Int)+1)),(16,iv (((i:Nat):Int)+1)),(15,.agg #[.bool b10,.slice ad10 n10 c10,.slice ae10 m10 d10]),(14,.agg #[.bool xb,.slice xa xn xc,.slice ya yn yc]),(13,.agg #[.bool sb,.slice sa sn sc,.slice ta tn tc]),(5,.pointer (some ⟨g5,0,none⟩)),(12,.agg #[.bool xb,.slice xa xn xc,.slice ya yn yc]),(11,.pointer (some ⟨gr,3*i,none⟩)),(10,.bool true),(8,iv ((qs.length:Nat):Int)),(7,.slice (some ⟨gr,0,none⟩) qs.length qs.length),(3,.pointer (some ⟨g3,0,none⟩)),(2,.pointer (some ⟨g2,0,none⟩))]) hF (aD hF.o) rfl rfl rfl rfl fun a hF=>?_
   refine E.nil0<|E.norm ?_
   exact⟨qs.length-(i+1),by omega,⟨i+1,_,_,_,_,_,_,_,hi,(by rw[show(((i+1:Nat)):Int)=((i:Nat):Int)+1 from by omega];exact Fr.sub (L':=[(9,iv (((i:Nat):Int)+1)),(8,iv ((qs.length:Nat):Int)),(7,.slice (some ⟨gr,0,none⟩) qs.length qs.length),(3,.pointer (some ⟨g3,0,none⟩)),(2,.pointer (some ⟨g2,0,none⟩))]) hF (by intro p hp;simp only [List.mem_cons,List.not_mem_nil,or_false] at hp ⊢;rcases hp with rfl|rfl|rfl|rfl|rfl <;> simp)),sty,bel,o3,hh9,rfl⟩⟩
  ·refine wp_seq<|E.seq ?_
   refine oU hF 0 1 (aY (c:=false) (by simp only [decide_eq_false_iff_not];omega)) rfl rfl rfl fun a hF=>ns<|wp_cond_false hF.o<|wp_exit<|E.past<|E.past<|E.out (id:=0)<|E.norm<|wq<|oV hF (ar (hF.at 4 rfl) (fM (vs:=[.bool sb,.slice sa sn sc,.slice ta tn tc]) o3 rfl rfl)) rfl fun a hF=>?_
   obtain⟨w5,hr,tu,on⟩:=qn (vs:=[.bool sb,.slice sa sn sc,.slice ta tn tc]) o2 rfl rfl (ocB (ocS (ocS oc0))) (niB (niS (niS ni0))) (o:=0) rfl
   have kp:=tu.keep o2
   refine E.st hF (cT (hF.at 6 rfl) hF.o (hr _ rfl)) rfl rfl fun a hF=>?_
   clear hr
   replace hs:=hs.keep kp
   replace bel:=tu.below bel ge2
   clear tu kp
   replace o2:=on
   clear on
   refine nr ?_
   refine bodyPost_ret (kN Tryz.results232 (hF.at 6 rfl) (fM (vs:=[.bool sb,.slice sa sn sc,.slice ta tn tc]) o2 rfl rfl)) hF.dfr ?_
   exact⟨_,rfl,by rw[show qs.length=i from by omega];exact hs,bel⟩
end
section
theorem mC.mono (qs:List Rat):∀w w' v,mC w v qs->Below w.heap.size w w'->mC w' v qs:=fun _ _ _ h hb=>h.below hb
end
end
def dW (w:World) (m T base:Nat) (v:Value) (n:Nat) (rs:List Value):Prop:=w.ownsRow base T m v n rs
theorem dW.below {w w':World} {m T base:Nat} {v:Value} {n:Nat} {rs:List Value} (h:dW w m T base v n rs) (hb:Below w.heap.size w w'):dW w' m T base v n rs:=
 World.ownsRow.kept h (row:=none) ⟨hb.os,hb.tape,hb.output,hb.size,fun k hk _=>hb.block k hk⟩ (by cases v.ownBlock <;> simp)
theorem dW.lt {w:World} {m T base:Nat} {v:Value} {n:Nat} {rs:List Value} (h:dW w m T base v n rs):∀k,v.ownBlock=some k->base<=k/\k<w.heap.size:=World.ownsRow.lt h
theorem dW.castM {w:World} {m T base:Nat} {v:Value} {n n':Nat} {rs rs':List Value} (h:dW w m T base v n rs) (e:n=n') (f:rs=rs'):dW w m T base v n' rs':=by subst e f;exact h
theorem Blk.grown {w w':World} {row:Option Nat} {g:Nat} {cs:List Value} (h:Blk w g cs) (hg:w.grownBy w' row) (hne:some g≠row):Blk w' g cs:=by
 have hlt:=h.lt
 obtain⟨T,h1⟩:=h
 exact⟨T,by rw[hg.block g hlt hne];exact h1⟩
theorem vf {w w':World} {row:Option Nat} {g:Nat} {cs:List Value} (h:Own w g cs) (hg:w.grownBy w' row) (hne:some g≠row):Own w' g cs:=⟨Blk.grown h.1 hg hne,h.2⟩
theorem qQ {w w':World} {row:Option Nat} {base:Nat} (hg:w.grownBy w' row) (hb:∀g,row=some g->base<=g) (hw:base<=w.heap.size):Below base w w':=
 ⟨hg.os,hg.tape,hg.output,hg.size,fun k hk=>hg.block k (by omega) (fun e=>by have:=hb k e.symm;omega)⟩
theorem dW.row {w:World} {m T base:Nat} {ad:Option Addr} {n n' cap:Nat} {rs:List Value} (h:dW w m T base (.slice ad n' cap) n rs) (hp:0<n):
 ∃g more,ad=some ⟨g,0,none⟩/\n'=n/\base<=g/\Blk w g (rs++more):=by
 rcases h.2 with⟨_,e⟩|⟨g,cap',cur,hv,hb,hg,_,_,_,htake⟩
 ·omega
 ·injection hv with e1 e2 e3
  refine⟨g,cur.toList.drop (n*m),e1,e2,hb,⟨T,?_⟩⟩
  rw[<-htake,List.take_append_drop];simpa using hg
theorem dW.app {P:Program} {w:World} {t T ty:TypeId} {m bytes base:Nat} (ht:P.underlying t=some (.slice T)) (hq:∃i z,P.info? T=some i/\i.zero=some z/\i.size=m/\i.bytes=bytes/\z.cells.size=m) (hm:0<m) (hbb:bytes<=64)
 {v:Value} {n:Nat} {rs:List Value} (h:dW w m T base v n rs) {gs:Nat} {es:List Value} (hsrc:Blk w gs es) (he:es.length=m) (h1:∀u∈es,u.oneCell'=true) (hl:n<=1000000) (hbase:base<=w.heap.size):
 ∃ad cap w',(builtin .append #[t,t] ty #[false,false] #[v,.slice (some ⟨gs,0,none⟩) 1 1]).run P w= .ok (.value (.slice ad (n+1) cap)) w'/\dW w' m T base (.slice ad (n+1) cap) (n+1) (rs++es)/\w.grownBy w' v.ownBlock/\Below base w w'/\∀b,b<w.heap.size->v.ownBlock≠some b->(Value.slice ad (n+1) cap).ownBlock ≠some b:=by
 obtain⟨i,z,hi,hz,hs,hby,hzs⟩:=hq
 obtain⟨Ts,hsr⟩:=hsrc
 have hnews:∀j u,es[j]?=some u->w.cell? ((⟨gs,0,none⟩:Addr).add j)=some u:=by
  intro j u hj
  rw[Addr.add_mid,Nat.zero_add,cell_of_row w gs j _ _ _ hsr,List.getElem?_toArray];exact hj
 have hll:es.length=1*m:=by rw[he,Nat.one_mul]
 have hb1:(n+1)*bytes<=140737488355328:=by
  have:=Nat.mul_le_mul (show n+1<=1000001 by omega) hbb
  omega
 obtain⟨v',w',hr,h2,h3,_⟩:=run_append_own (P:=P) w base t ty T i z m bytes ht hi hz hs hby hzs hm v n rs h ⟨gs,0,none⟩ 1 1 es hll hnews h1 (by unfold maxLen;omega) hb1 hbase
 have hll':es.length=1*i.size:=by rw[hs];exact hll
 have fin:∀ {ad cap},v'= .slice ad (n+1) cap->(∀b,b<w.heap.size->v.ownBlock≠some b->(Value.slice ad (n+1) cap).ownBlock ≠some b)->∃ad cap w',(builtin .append #[t,t] ty #[false,false] #[v,.slice (some ⟨gs,0,none⟩) 1 1]).run P w= .ok (.value (.slice ad (n+1) cap)) w'/\dW w' m T base (.slice ad (n+1) cap) (n+1) (rs++es)/\w.grownBy w' v.ownBlock/\Below base w w'/\∀b,b<w.heap.size->v.ownBlock≠some b->(Value.slice ad (n+1) cap).ownBlock ≠some b:=by
  intro ad cap e hb
  subst e
  refine⟨ad,cap,w',?_,h2,h3,qQ h3 (fun g e=>(World.ownsRow.lt h g e).1) hbase,hb⟩
  show(do pure (.value (<-Builtin.append_ #[t,t] ty #[v,.slice (some ⟨gs,0,none⟩) 1 1])):Sem Next).run P w=_
  rw[Sem.run_bind,hr];rfl
 rcases h.2 with⟨rfl,rfl⟩|⟨g,cap,cur,rfl,hbg,hg,hnc,hcm,hcs,htake⟩
 ·have hr2:=run_append_nil (P:=P) w t ty T i z ht hi hz ⟨gs,0,none⟩ 1 1 es hll' hnews (by decide) (by decide) (by rw[hby];omega)
  rw[hr] at hr2
  injection hr2 with e1 e2
  exact fin e1 fun b hb _ e=>by injection e with e;have e2:w.heap.size=b:=e;omega
 ·by_cases hroom:n+1<=cap
  ·have hfit:n*i.size+es.length<=cur.size:=by
    rw[hs,he,hcs]
    have:=Nat.mul_le_mul_right m hroom
    rwa[Nat.add_mul,Nat.one_mul] at this
   have hr2:=run_append_room (P:=P) w t ty T i ht hi g n cap cur hg ⟨gs,0,none⟩ 1 1 es hll' hnews h1 hroom hfit
   rw[hr] at hr2
   injection hr2 with e1 e2
   exact fin e1 fun b _ h=>h
  ·have holds:∀j u,rs[j]?=some u->w.cell? ((⟨g,0,none⟩:Addr).add j)=some u:=World.ownsRow.cells h (g:=g) rfl
   have hr2:=run_append_grow (P:=P) w t ty T i z ht hi hz ⟨g,0,none⟩ n cap rs (by rw[hs];exact h.1) holds ⟨gs,0,none⟩ 1 1 es hll' hnews (by omega) (by omega) (growslice_fits (by omega) (by rw[hby];exact hb1))
   rw[hr] at hr2
   injection hr2 with e1 e2
   exact fin e1 fun b hb _ e=>by injection e with e;have e2:w.heap.size=b:=e;omega
theorem jU:(Tryz.prog.info? 72).map (·.size)=some 4:=by kernel_rfl
theorem zY:(Tryz.prog.info? 72).bind (·.zero)=some (.agg #[iv 0,iv 0,iv 0,iv 0]):=by kernel_rfl
theorem jn {w:World} {g o:Nat} {cs vs:List Value} (h:Blk w g cs) (hv:(cs.drop o).take 4=vs) (hl:vs.length=4):(Instr.loadAt 72 (.pointer (some ⟨g,o,none⟩))).run Tryz.prog w= .ok (.agg vs.toArray) w:=mR h hv hl Tryz.underlying72 rfl jU
theorem ML {w:World} {g o:Nat} {cs ws vs:List Value} (h:Blk w g cs) (hl:vs.length=4) (ho:Nat.ble (o+4) cs.length=true) (h1:∀v∈vs,v.oneCell'=true) (hw:cs.take o++vs++cs.drop (o+4)=ws):∃w',(∀v:Value,v.cells=vs.toArray->(Instr.storeAt 72 (.pointer (some ⟨g,o,none⟩)) v).run Tryz.prog w= .ok () w')/\dV g w w'/\Blk w' g ws:=iL h jU hl ho h1 hw
theorem jD {w:World} {g o p:Nat} (hp:o+0=p):(Instr.fieldAt 72 (.pointer (some ⟨g,o,none⟩)) 0).run Tryz.prog w= .ok (.pointer (some ⟨g,p,none⟩)) w:=bp Tryz.underlying72 rfl rfl dz rfl p hp
theorem zT {w:World} {g o p:Nat} (hp:o+1=p):(Instr.fieldAt 72 (.pointer (some ⟨g,o,none⟩)) 1).run Tryz.prog w= .ok (.pointer (some ⟨g,p,none⟩)) w:=bp Tryz.underlying72 rfl rfl dz rfl p hp
theorem zW {w:World} {g o p:Nat} (hp:o+2=p):(Instr.fieldAt 72 (.pointer (some ⟨g,o,none⟩)) 2).run Tryz.prog w= .ok (.pointer (some ⟨g,p,none⟩)) w:=bp Tryz.underlying72 rfl rfl gV rfl p hp
theorem I5 {w:World} {g o p:Nat} (hp:o+3=p):(Instr.fieldAt 72 (.pointer (some ⟨g,o,none⟩)) 3).run Tryz.prog w= .ok (.pointer (some ⟨g,p,none⟩)) w:=bp Tryz.underlying72 rfl rfl gV rfl p hp
theorem Bc (z00:Int) (z10:Int) (z20:Int) (z30:Int) (w:World):(Instr.build 72 #[(0,iv z00),(1,iv z10),(2,iv z20),(3,iv z30)]).run Tryz.prog w= .ok (.agg #[iv z00,iv z10,iv z20,iv z30]) w:=by
 have hz:=dr zY w
 have h_int:∀w,(sizeOf 3).run Tryz.prog w= .ok 1 w:=fun w=>bh gV w
 have h_i64:∀w,(sizeOf 2).run Tryz.prog w= .ok 1 w:=fun w=>bh dz w
 simp only [Instr.build,Sem.run_bind,hz,Result.andThen_ok,run_underlying Tryz.underlying72,List.mapM_toArray,List.mapM_cons,List.mapM_nil,Sem.run_map,h_i64,h_int,Sem.run_pure]
 rfl
theorem bV:Ty Tryz.prog 72 4 [iv 0,iv 0,iv 0,iv 0]:=⟨⟨_,Tryz.underlying72,rfl⟩,jU,zY⟩
theorem Pj {w:World} {op:BinOp} {x y:Operand} {xs ys:Array Value}:(eqGuard op 72 x y (.agg xs) (.agg ys)).run Tryz.prog w= .ok () w:=run_eqGuard_agg w op _ x y xs ys (by kernel_rfl)
theorem MS (w:World) {zx0:Int} {zx1:Int} {zx2:Int} {zx3:Int} {zy0:Int} {zy1:Int} {zy2:Int} {zy3:Int}:(Op.equalIn 10000 72 (.agg #[iv zx0,iv zx1,iv zx2,iv zx3]) (.agg #[iv zy0,iv zy1,iv zy2,iv zy3])).run Tryz.prog w= .ok (decide (zx0=zy0/\zx1=zy1/\zx2=zy2/\zx3=zy3)) w:=by
 rw[run_equalIn_agg w 9999 _ _ _ (by kernel_rfl) (by kernel_rfl)]
 have hf:(Tryz.prog.fieldsOf 72).toList =(match Tryz.prog.underlying 72 with|some (.struct fs)=>fs.toList|_=>[]):=by kernel_rfl
 rw[hf,Tryz.underlying72]
 have hx:(Op.eqFields 9999 #[iv zx0,iv zx1,iv zx2,iv zx3] #[iv zy0,iv zy1,iv zy2,iv zy3] (match Tryz.prog.underlying 72 with|some (.struct fs)=>fs.toList|_=>[])).run Tryz.prog w= .ok ((decide (zx0=zy0) && (decide (zx1=zy1) && (decide (zx2=zy2) && (decide (zx3=zy3) && true))))) w:=by
  rw[Tryz.underlying72]
  exact rI (by decide) Tryz.underlying2 rfl rfl (rI (by decide) Tryz.underlying2 rfl rfl (rI (by decide) Tryz.underlying3 rfl rfl (rI (by decide) Tryz.underlying3 rfl rfl (Ls))))
 rw[Tryz.underlying72] at hx
 rw[hx]
 simp only [Bool.and_true,L2]
theorem Pp {w:World} {zx0:Int} {zx1:Int} {zx2:Int} {zx3:Int} {zy0:Int} {zy1:Int} {zy2:Int} {zy3:Int} {c:Bool} (h:decide (zx0=zy0/\zx1=zy1/\zx2=zy2/\zx3=zy3)=c):(binOp .eql 72 (.agg #[iv zx0,iv zx1,iv zx2,iv zx3]) (.agg #[iv zy0,iv zy1,iv zy2,iv zy3])).run Tryz.prog w= .ok (.bool c) w:=by
 subst h
 rw[run_eql_struct,MS]
 rfl
theorem FU:∃i z,Tryz.prog.info? 72=some i/\i.zero=some z/\i.size=4/\i.bytes=32/\z.cells.size=4:=by
 have h1:(Tryz.prog.info? 72).map (·.size)=some 4:=by kernel_rfl
 have h2:(Tryz.prog.info? 72).bind (·.zero)=some (.agg #[iv 0,iv 0,iv 0,iv 0]):=by kernel_rfl
 have h3:(Tryz.prog.info? 72).map (·.bytes)=some 32:=by kernel_rfl
 cases hq:Tryz.prog.info? 72 with
 |none=>rw[hq] at h1;cases h1
 |some i=>exact⟨i,.agg #[iv 0,iv 0,iv 0,iv 0],rfl,by simpa[hq] using h2,by simpa[hq] using h1,by simpa[hq] using h3,rfl⟩
theorem H4 (w:World) (base:Nat) (hb:base<=w.heap.size):∃g w',w.heap.size=g/\(Instr.buildSlice 139 0 #[]).run Tryz.prog w= .ok (.slice (some ⟨g,0,none⟩) 0 0) w'/\Below w.heap.size w w'/\dW w' 4 72 base (.slice (some ⟨g,0,none⟩) 0 0) 0 []:=by
 have hn:=ec (w:=w) (cs:=[]) 72
 refine⟨w.heap.size,w.alloc (.cells #[] 72),rfl,?_,hn.2,rfl,.inr ⟨w.heap.size,0,#[],rfl,hb,heap_alloc_new w _,Nat.le_refl _,Nat.zero_le _,rfl,rfl⟩⟩
 have hs:=bh (P:=Tryz.prog) (T:=72) (n:=4) jU w
 simp[Instr.buildSlice,go_sem,hs,Instr.fill,newRow]
theorem JN (w:World) (z0 z1 z2 z3:Int):∃g w',w.heap.size=g/\(Instr.buildSlice 139 1 #[(0,.agg #[iv z0,iv z1,iv z2,iv z3])]).run Tryz.prog w= .ok (.slice (some ⟨g,0,none⟩) 1 1) w'/\Below w.heap.size w w'/\Blk w' g [iv z0,iv z1,iv z2,iv z3]:=by
 have hb:=ec (w:=w) (cs:=[iv z0,iv z1,iv z2,iv z3]) 72
 refine⟨w.heap.size,w.alloc (.cells #[iv z0,iv z1,iv z2,iv z3] 72),rfl,?_,hb.2,hb.1⟩
 have hs:=bh (P:=Tryz.prog) (T:=72) (n:=4) jU w
 simp[Instr.buildSlice,go_sem,hs,Instr.fill,Value.cells,newRow]
theorem Hy {w:World} {base:Nat} {v:Value} {n:Nat} {rs:List Value} (h:dW w 4 72 base v n rs) {gs:Nat} {z0 z1 z2 z3:Int} (hs:Blk w gs [iv z0,iv z1,iv z2,iv z3]) (hl:n<=1000000) (bel:base<=w.heap.size) {ty:TypeId}:
 ∃ad cap w',(builtin .append #[139,139] ty #[false,false] #[v,.slice (some ⟨gs,0,none⟩) 1 1]).run Tryz.prog w= .ok (.value (.slice ad (n+1) cap)) w'/\dW w' 4 72 base (.slice ad (n+1) cap) (n+1) (rs++[iv z0,iv z1,iv z2,iv z3])/\w.grownBy w' v.ownBlock/\Below base w w'/\∀b,b<w.heap.size->v.ownBlock≠some b->(Value.slice ad (n+1) cap).ownBlock ≠some b:=
 dW.app Tryz.underlying139 FU (by decide) (by decide) h hs rfl (ocI (ocI (ocI (ocI oc0)))) hl bel
theorem oe {w:World} {g n c i:Nat} {z:Int} (hz:z=((i:Nat):Int)) (hi:i<n):(Instr.indexAt 139 (.slice (some ⟨g,0,none⟩) n c) (iv z)).run Tryz.prog w= .ok (.pointer (some ⟨g,4*i,none⟩)) w:=by
 subst hz
 simp[Instr.indexAt,asIntOf,run_underlying Tryz.underlying139,Sem.run_bind,Addr.add_mid,hi,Nat.mul_comm]
theorem iY {w:World} {ty:TypeId} {a:Option Addr} {n c:Nat}:(builtin .len #[139] ty #[false] #[.slice a n c]).run Tryz.prog w= .ok (.value (iv ((n:Nat):Int))) w:=by
 simp[Builtin.len_,go_sem,run_underlying Tryz.underlying139]
end Go.Proofs.YtgdpkknapcgcbaaGreatDoor
