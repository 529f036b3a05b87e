import Derived.Test.YtgdpkknapcgcbaaGreatDoorKA28
namespace Go.Proofs.YtgdpkknapcgcbaaGreatDoor
open Go.RowKit
set_option maxRecDepth 100000
set_option linter.unusedVariables false
set_option maxHeartbeats 8000000
section
section
def QEl (w:World) (cs:List Value) (qs:List Rat):Prop:=
 ∀i,i<qs.length->∃b ad n c ae m d,(cs.drop (3*i)).take 3=[.bool b,.slice ad n c,.slice ae m d]/\Rq w (.agg #[.bool b,.slice ad n c,.slice ae m d]) (qs.getD i 0)
theorem QEl.below {w w':World} {cs:List Value} {qs:List Rat} (h:QEl w cs qs) (hb:Below w.heap.size w w'):QEl w' cs qs:=by
 intro i hi
 obtain⟨b,ad,n,c,ae,m,d,h1,h2⟩:=h i hi
 exact⟨b,ad,n,c,ae,m,d,h1,h2.below hb⟩
theorem QEl.keep {w w':World} {cs:List Value} {qs:List Rat} (h:QEl w cs qs) (kp:dr w w'):QEl w' cs qs:=by
 intro i hi
 obtain⟨b,ad,n,c,ae,m,d,h1,h2⟩:=h i hi
 exact⟨b,ad,n,c,ae,m,d,h1,h2.keep kp⟩
def jU (w:World) (v:Value) (qs:List Rat):Prop:=∃g cs,v= .slice (some ⟨g,0,none⟩) qs.length qs.length/\Own w g cs/\QEl w cs qs
theorem jU.below {w w':World} {v:Value} {qs:List Rat} (h:jU w v qs) (hb:Below w.heap.size w w'):jU w' v qs:=by
 obtain⟨g,cs,h1,h2,h3⟩:=h
 exact⟨g,cs,h1,h2.below hb,h3.below hb⟩
def pn (qs:List Rat):Nat->Rat
 |0=>0
 |i+1=>pn qs i+qs.getD i 0
theorem FP {t:TypeId} {w:World} {ad:Option Addr} {n c:Nat}:(builtin .len #[246] t #[false] #[.slice ad n c]).run Tryz.prog w= .ok (.value (iv n)) w:=by
 have hu:=run_underlying (P:=Tryz.prog) Tryz.underlying246 w
 simp[Builtin.len_,Sem.run_bind,hu,go_sem]
theorem G4 {w:World} {g n c i:Nat} (hi:i<n):(Instr.indexAt 246 (.slice (some ⟨g,0,none⟩) n c) (iv (i:Nat))).run Tryz.prog w= .ok (.pointer (some ⟨g,3*i,none⟩)) w:=by
 have hu:=run_underlying (P:=Tryz.prog) Tryz.underlying246 w
 unfold Instr.indexAt
 simp[Sem.run_bind,asIntOf,go_sem,hu,hi,Addr.add]
 split
 ·obtain rfl:i=0:=by omega
  rfl
 ·rw[Nat.mul_comm]
end
section
theorem Cq (v1:Value) (qs:List Rat) (k:Nat) (w:World) (h1:jU w v1 qs) (hl1:∀i,i<=qs.length->ah (pn qs i) k) (hl2:∀i,i<qs.length->ah (qs.getD i 0) k) (hk:k<=100000) (hn:qs.length<=1000000):
 CQ 232 #[v1] w (pn qs qs.length):=by
 obtain⟨gr,cs,rfl,orow,hel⟩:=h1
 have bel:Below w.heap.size w w:=Below.refl _ _
 refine go1 (nt:=18) Tryz.func232 rfl rfl rfl fun a hF=>wq ?_
 obtain⟨g2,w1,ge2,hr,bb,o2⟩:=dE (P:=Tryz.prog) (w:=w) (cs:=[.bool false,.slice none 0 0,.slice none 0 0]) 33 j2 rfl (niB (niS (niS ni0)))
 have nerow_2:gr≠g2:=by rw[<-ge2];exact orow.ne_new
 replace ge2:w.heap.size<=g2:=by rw[<-ge2];exact bel.size
 refine oV hF (de hr) rfl fun a hF=>?_
 clear hr
 replace hel:=hel.below bb
 replace orow:=orow.below bb
 replace bel:=aA bel bb
 clear bb
 refine nq<|oV hF (aM (by simp) (iH _)) rfl fun a hF=>?_
 obtain⟨g3,w2,ge3,hr,bb,o3⟩:=dE (P:=Tryz.prog) (w:=w1) (cs:=[.bool false,.slice none 0 0,.slice none 0 0]) 33 j2 rfl (niB (niS (niS ni0)))
 have nerow_3:gr≠g3:=by rw[<-ge3];exact orow.ne_new
 have ne2_3:g2≠g3:=by rw[<-ge3];exact o2.ne_new
 replace ge3:w.heap.size<=g3:=by rw[<-ge3];exact bel.size
 refine oV hF (de hr) rfl fun a hF=>?_
 clear hr
 replace hel:=hel.below bb
 replace orow:=orow.below bb
 replace o2:=o2.below bb
 replace bel:=aA bel bb
 clear bb
 obtain⟨w3,hr,tu,on⟩:=qS (vs:=[.bool false,.slice none 0 0,.slice none 0 0]) o3 rfl rfl (ocB (ocS (ocS oc0))) (niB (niS (niS ni0))) (o:=0) rfl
 have kp:=tu.keep o3
 refine E.st hF (cF hF.o hF.p (hr _ rfl)) rfl rfl fun a hF=>?_
 clear hr
 replace hel:=hel.keep kp
 replace orow:=tu.own orow nerow_3
 replace o2:=tu.own o2 ne2_3
 replace bel:=tu.below bel ge3
 clear tu kp
 replace o3:=on
 clear on
 refine ns<|wq<|oM hF 3 rfl rfl fun a hF=>oV hF (aU (aD hF.o) FP) rfl fun a hF=>oV hF (aO ao) rfl fun a hF=>E.nil<|wp_block ?_
 have nint:=nn1 o3.noInt
 refine E.loop (fun m a wv=>∃(i:Nat) (sb:Bool) (sa:Option Addr) (sn:Nat) (sc:Nat) (ta:Option Addr) (tn:Nat) (tc:Nat),i<=qs.length/\Fr 18 a [(9,iv ((i:Nat):Int)),(8,iv ((qs.length:Nat):Int)),(7,.slice (some ⟨gr,0,none⟩) qs.length qs.length),(3,.pointer (some ⟨g3,0,none⟩)),(2,.pointer (some ⟨g2,0,none⟩))]/\iC [g3] w3 wv/\Below w.heap.size w wv/\Own wv g3 [.bool sb,.slice sa sn sc,.slice ta tn tc]/\Rq wv (.agg #[.bool sb,.slice sa sn sc,.slice ta tn tc]) (pn qs i)/\m=qs.length-i) (qs.length-0) ?_ ?_
 ·exact⟨0,_,_,_,_,_,_,_,Nat.zero_le _,hF.sub (by intro p hp;simp only [List.mem_cons,List.not_mem_nil,or_false] at hp ⊢;rcases hp with rfl|rfl|rfl|rfl|rfl <;> simp),iC.refl _ _,bel,o3,(Rq.zero _),rfl⟩
 ·rintro m a w4 ⟨i,sb,sa,sn,sc,ta,tn,tc,hi0,hF,sty,bel,o3,hs,hm⟩
  have kps:=sty.keep nint
  replace hel:=hel.keep kps
  replace orow:=sty.own orow (by simp only [List.mem_cons,List.not_mem_nil,or_false];first|exact nerow_3|(intro e;exact nerow_3 e))
  replace o2:=sty.own o2 (by simp only [List.mem_cons,List.not_mem_nil,or_false];first|exact ne2_3|(intro e;exact ne2_3 e))
  clear kps
  by_cases hi:i<qs.length
  ·refine wp_seq<|E.seq ?_
   refine oU hF 0 1 (bQ (c:=true) (by simp only [decide_eq_true_eq];omega)) rfl rfl rfl fun a hF=>ns<|wp_cond_true hF.o<|wp_skip<|E.norm<|wp_seq<|wp_block<|wq ?_
   obtain⟨xb,xa,xn,xc,ya,yn,yc,hcut,hx⟩:=hel i hi
   refine oV hF (cx (hF.at 3 rfl) hF.p (G4 hi)) rfl fun a hF=>oV hF (ar hF.o (gR (vs:=[.bool xb,.slice xa xn xc,.slice ya yn yc]) orow hcut rfl)) rfl fun a hF=>?_
   obtain⟨g5,w5,ge5,hr,bb,o5⟩:=dE (P:=Tryz.prog) (w:=w4) (cs:=[.bool false,.slice none 0 0,.slice none 0 0]) 33 j2 rfl (niB (niS (niS ni0)))
   have nerow_5:gr≠g5:=by rw[<-ge5];exact orow.ne_new
   have ne2_5:g2≠g5:=by rw[<-ge5];exact o2.ne_new
   have ne3_5:g3≠g5:=by rw[<-ge5];exact o3.ne_new
   have gl5:w3.heap.size<=g5:=by rw[<-ge5];exact sty.size
   replace ge5:w.heap.size<=g5:=by rw[<-ge5];exact bel.size
   refine oV hF (de hr) rfl fun a hF=>?_
   clear hr
   replace hx:=hx.below bb
   replace hel:=hel.below bb
   replace hs:=hs.below bb
   replace orow:=orow.below bb
   replace o2:=o2.below bb
   replace o3:=o3.below bb
   replace bel:=aA bel bb
   replace sty:=sty.below bb
   clear bb
   obtain⟨w6,hr,tu,on⟩:=qS (vs:=[.bool xb,.slice xa xn xc,.slice ya yn yc]) o5 rfl rfl (ocB (ocS (ocS oc0))) (niB (niS (niS ni0))) (o:=0) rfl
   have kp:=tu.keep o5
   refine E.st hF (cF hF.o hF.p (hr _ rfl)) rfl rfl fun a hF=>?_
   clear hr
   replace hx:=hx.keep kp
   replace hel:=hel.keep kp
   replace hs:=hs.keep kp
   replace orow:=tu.own orow nerow_5
   replace o2:=tu.own o2 ne2_5
   replace o3:=tu.own o3 ne3_5
   replace bel:=tu.below bel ge5
   replace sty:=sty.turned tu (.inr gl5)
   clear tu kp
   replace o5:=on
   clear on
   refine E.nil<|E.seq<|oV hF (ar (hF.at 7 rfl) (gR (vs:=[.bool sb,.slice sa sn sc,.slice ta tn tc]) o3 rfl rfl)) rfl fun a hF=>oV hF (ar hF.p (gR (vs:=[.bool xb,.slice xa xn xc,.slice ya yn yc]) o5 rfl rfl)) rfl fun a hF=>?_
   refine E.call hF (rk LY (aB hF.p hF.o)) (pG _ _ (pn qs i) (qs.getD i 0) k _ hs hx ((hl1 i hi0).up _ (by omega)) ((hl2 i hi).up _ (by omega)) (by omega)) rfl rfl rfl rfl ?_
   rintro e w7 ⟨vv8,rfl,hh9,bb⟩
   refine⟨_,rfl,?_⟩
   intro a hF
   replace hx:=hx.below bb
   replace hs:=hs.below bb
   replace hel:=hel.below bb
   replace orow:=orow.below bb
   replace o2:=o2.below bb
   replace o3:=o3.below bb
   replace o5:=o5.below bb
   replace bel:=aA bel bb
   replace sty:=sty.below bb
   clear bb
   obtain⟨b10,ad10,n10,c10,ae10,m10,d10,rfl,hn10,hd10⟩:=Rq.shape hh9
   have hf11:=Wc.abs hn10
   obtain⟨w12,hr,tu,on⟩:=qS (vs:=[.bool b10,.slice ad10 n10 c10,.slice ae10 m10 d10]) o3 rfl rfl (ocB (ocS (ocS oc0))) (niB (niS (niS ni0))) (o:=0) rfl
   have kp:=tu.keep o3
   refine E.st hF (cF (hF.at 10 rfl) hF.o (hr _ rfl)) rfl rfl fun a hF=>?_
   clear hr
   replace hh9:=hh9.keep kp
   replace hn10:=hn10.keep kp
   replace hf11:=hf11.keep kp
   replace hd10:=hd10.keep kp
   replace hx:=hx.keep kp
   replace hs:=hs.keep kp
   replace hel:=hel.keep kp
   replace orow:=tu.own orow nerow_3
   replace o2:=tu.own o2 ne2_3
   replace o5:=tu.own o5 (Ne.symm ne3_5)
   replace bel:=tu.below bel ge3
   replace sty:=sty.turned tu (.inl (by simp))
   clear tu kp
   replace o3:=on
   clear on
   refine E.nil0<|E.blk<|E.norm<|E.seq<|oV hF (au (hF.at 7 rfl) ao ag (a9 (by omega) (by omega))) rfl fun a hF=>?_
   refine E.opset (L':=[(9,iv (((i:Nat):Int)+1)),(16,iv (((i:Nat):Int)+1)),(15,.agg #[.bool b10,.slice ad10 n10 c10,.slice ae10 m10 d10]),(14,.agg #[.bool xb,.slice xa xn xc,.slice ya yn yc]),(13,.agg #[.bool sb,.slice sa sn sc,.slice ta tn tc]),(5,.pointer (some ⟨g5,0,none⟩)),(12,.agg #[.bool xb,.slice xa xn xc,.slice ya yn yc]),(11,.pointer (some ⟨gr,3*i,none⟩)),(10,.bool true),(8,iv ((qs.length:Nat):Int)),(7,.slice (some ⟨gr,0,none⟩) qs.length qs.length),(3,.pointer (some ⟨g3,0,none⟩)),(2,.pointer (some ⟨g2,0,none⟩))]) hF (aO hF.o) rfl rfl rfl rfl fun a hF=>?_
   refine E.nil0<|E.norm ?_
   exact⟨qs.length-(i+1),by omega,⟨i+1,_,_,_,_,_,_,_,hi,(by rw[show(((i+1:Nat)):Int)=((i:Nat):Int)+1 from by omega];exact Fr.sub (L':=[(9,iv (((i:Nat):Int)+1)),(8,iv ((qs.length:Nat):Int)),(7,.slice (some ⟨gr,0,none⟩) qs.length qs.length),(3,.pointer (some ⟨g3,0,none⟩)),(2,.pointer (some ⟨g2,0,none⟩))]) hF (by intro p hp;simp only [List.mem_cons,List.not_mem_nil,or_false] at hp ⊢;rcases hp with rfl|rfl|rfl|rfl|rfl <;> simp)),sty,bel,o3,hh9,rfl⟩⟩
  ·refine wp_seq<|E.seq ?_
   refine oU hF 0 1 (bQ (c:=false) (by simp only [decide_eq_false_iff_not];omega)) rfl rfl rfl fun a hF=>ns<|wp_cond_false hF.o<|wp_exit<|E.past<|E.past<|E.out (id:=0)<|E.norm<|wq<|oV hF (ar (hF.at 4 rfl) (gR (vs:=[.bool sb,.slice sa sn sc,.slice ta tn tc]) o3 rfl rfl)) rfl fun a hF=>?_
   obtain⟨w5,hr,tu,on⟩:=qS (vs:=[.bool sb,.slice sa sn sc,.slice ta tn tc]) o2 rfl rfl (ocB (ocS (ocS oc0))) (niB (niS (niS ni0))) (o:=0) rfl
   have kp:=tu.keep o2
   refine E.st hF (cF (hF.at 6 rfl) hF.o (hr _ rfl)) rfl rfl fun a hF=>?_
   clear hr
   replace hs:=hs.keep kp
   replace bel:=tu.below bel ge2
   clear tu kp
   replace o2:=on
   clear on
   refine nr ?_
   refine bodyPost_ret (ke Tryz.results232 (hF.at 6 rfl) (gR (vs:=[.bool sb,.slice sa sn sc,.slice ta tn tc]) o2 rfl rfl)) hF.dfr ?_
   exact⟨_,rfl,by rw[show qs.length=i from by omega];exact hs,bel⟩
end
section
theorem jU.mono (qs:List Rat):∀w w' v,jU w v qs->Below w.heap.size w w'->jU w' v qs:=fun _ _ _ h hb=>h.below hb
end
end
def gP (w:World) (m T base:Nat) (v:Value) (n:Nat) (rs:List Value):Prop:=w.ownsRow base T m v n rs
theorem gP.lt {w:World} {m T base:Nat} {v:Value} {n:Nat} {rs:List Value} (h:gP w m T base v n rs):∀k,v.ownBlock=some k->base<=k/\k<w.heap.size:=World.ownsRow.lt h
theorem Blk.grown {w w':World} {row:Option Nat} {g:Nat} {cs:List Value} (h:Blk w g cs) (hg:w.grownBy w' row) (hne:some g≠row):Blk w' g cs:=by
 have hlt:=h.lt
 obtain⟨T,h1⟩:=h
 exact⟨T,by rw[hg.block g hlt hne];exact h1⟩
theorem ip {w w':World} {row:Option Nat} {base:Nat} (hg:w.grownBy w' row) (hb:∀g,row=some g->base<=g) (hw:base<=w.heap.size):Below base w w':=
 ⟨hg.os,hg.tape,hg.output,hg.size,fun k hk=>hg.block k (by omega) (fun e=>by have:=hb k e.symm;omega)⟩
theorem gP.row {w:World} {m T base:Nat} {ad:Option Addr} {n n' cap:Nat} {rs:List Value} (h:gP w m T base (.slice ad n' cap) n rs) (hp:0<n):
 ∃g more,ad=some ⟨g,0,none⟩/\n'=n/\base<=g/\Blk w g (rs++more):=by
 rcases h.2 with⟨_,e⟩|⟨g,cap',cur,hv,hb,hg,_,_,_,htake⟩
 ·omega
 ·injection hv with e1 e2 e3
  refine⟨g,cur.toList.drop (n*m),e1,e2,hb,⟨T,?_⟩⟩
  rw[<-htake,List.take_append_drop];simpa using hg
theorem gP.app {P:Program} {w:World} {t T ty:TypeId} {m bytes base:Nat} (ht:P.underlying t=some (.slice T)) (hq:∃i z,P.info? T=some i/\i.zero=some z/\i.size=m/\i.bytes=bytes/\z.cells.size=m) (hm:0<m) (hbb:bytes<=64)
 {v:Value} {n:Nat} {rs:List Value} (h:gP w m T base v n rs) {gs:Nat} {es:List Value} (hsrc:Blk w gs es) (he:es.length=m) (h1:∀u∈es,u.oneCell'=true) (hl:n<=1000000) (hbase:base<=w.heap.size):
 ∃ad cap w',(builtin .append #[t,t] ty #[false,false] #[v,.slice (some ⟨gs,0,none⟩) 1 1]).run P w= .ok (.value (.slice ad (n+1) cap)) w'/\gP w' m T base (.slice ad (n+1) cap) (n+1) (rs++es)/\w.grownBy w' v.ownBlock/\Below base w w'/\∀b,b<w.heap.size->v.ownBlock≠some b->(Value.slice ad (n+1) cap).ownBlock ≠some b:=by
 obtain⟨i,z,hi,hz,hs,hby,hzs⟩:=hq
 obtain⟨Ts,hsr⟩:=hsrc
 have hnews:∀j u,es[j]?=some u->w.cell? ((⟨gs,0,none⟩:Addr).add j)=some u:=by
  intro j u hj
  rw[Addr.add_mid,Nat.zero_add,cell_of_row w gs j _ _ _ hsr,List.getElem?_toArray];exact hj
 have hll:es.length=1*m:=by rw[he,Nat.one_mul]
 have hb1:(n+1)*bytes<=140737488355328:=by
  have:=Nat.mul_le_mul (show n+1<=1000001 by omega) hbb
  omega
 obtain⟨v',w',hr,h2,h3,_⟩:=run_append_own (P:=P) w base t ty T i z m bytes ht hi hz hs hby hzs hm v n rs h ⟨gs,0,none⟩ 1 1 es hll hnews h1 (by unfold maxLen;omega) hb1 hbase
 have hll':es.length=1*i.size:=by rw[hs];exact hll
 have fin:∀ {ad cap},v'= .slice ad (n+1) cap->(∀b,b<w.heap.size->v.ownBlock≠some b->(Value.slice ad (n+1) cap).ownBlock ≠some b)->∃ad cap w',(builtin .append #[t,t] ty #[false,false] #[v,.slice (some ⟨gs,0,none⟩) 1 1]).run P w= .ok (.value (.slice ad (n+1) cap)) w'/\gP w' m T base (.slice ad (n+1) cap) (n+1) (rs++es)/\w.grownBy w' v.ownBlock/\Below base w w'/\∀b,b<w.heap.size->v.ownBlock≠some b->(Value.slice ad (n+1) cap).ownBlock ≠some b:=by
  intro ad cap e hb
  subst e
  refine⟨ad,cap,w',?_,h2,h3,ip h3 (fun g e=>(World.ownsRow.lt h g e).1) hbase,hb⟩
  show(do pure (.value (<-Builtin.append_ #[t,t] ty #[v,.slice (some ⟨gs,0,none⟩) 1 1])):Sem Next).run P w=_
  rw[Sem.run_bind,hr];rfl
 rcases h.2 with⟨rfl,rfl⟩|⟨g,cap,cur,rfl,hbg,hg,hnc,hcm,hcs,htake⟩
 ·have hr2:=run_append_nil (P:=P) w t ty T i z ht hi hz ⟨gs,0,none⟩ 1 1 es hll' hnews (by decide) (by decide) (by rw[hby];omega)
  rw[hr] at hr2
  injection hr2 with e1 e2
  exact fin e1 fun b hb _ e=>by injection e with e;have e2:w.heap.size=b:=e;omega
 ·by_cases hroom:n+1<=cap
  ·have hfit:n*i.size+es.length<=cur.size:=by
    rw[hs,he,hcs]
    have:=Nat.mul_le_mul_right m hroom
    rwa[Nat.add_mul,Nat.one_mul] at this
   have hr2:=run_append_room (P:=P) w t ty T i ht hi g n cap cur hg ⟨gs,0,none⟩ 1 1 es hll' hnews h1 hroom hfit
   rw[hr] at hr2
   injection hr2 with e1 e2
   exact fin e1 fun b _ h=>h
  ·have holds:∀j u,rs[j]?=some u->w.cell? ((⟨g,0,none⟩:Addr).add j)=some u:=World.ownsRow.cells h (g:=g) rfl
   have hr2:=run_append_grow (P:=P) w t ty T i z ht hi hz ⟨g,0,none⟩ n cap rs (by rw[hs];exact h.1) holds ⟨gs,0,none⟩ 1 1 es hll' hnews (by omega) (by omega) (growslice_fits (by omega) (by rw[hby];exact hb1))
   rw[hr] at hr2
   injection hr2 with e1 e2
   exact fin e1 fun b hb _ e=>by injection e with e;have e2:w.heap.size=b:=e;omega
section
section
def fW (w w':World):Prop:=∀ad xs,Rd w .u32 ad xs->Rd w' .u32 ad xs
def ClU (F:World->Prop):Prop:=∀w w',F w->fW w w'->F w'
theorem Dg.keepU {w w':World} {v:Value} {b n:Nat} (h:Dg w .u32 b v n) (kp:fW w w'):Dg w' .u32 b v n:=by
 obtain⟨ad,cap,h1,h2,h3⟩:=h
 exact⟨ad,cap,h1,kp _ _ h2,h3⟩
theorem Rq.keepU {w w':World} {v:Value} {q:Rat} (h:Rq w v q) (kp:fW w w'):Rq w' v q:=by
 obtain⟨b,ad,n,c,ae,m,d,h1,⟨a,h2,h4⟩,h3⟩:=h
 exact⟨b,ad,n,c,ae,m,d,h1,⟨a,h2,Dg.keepU h4 kp⟩,Dg.keepU h3 kp⟩
theorem Rq.clU {v:Value} {q:Rat}:ClU fun w=>Rq w v q:=fun _ _ h kp=>h.keepU kp
theorem pK:∀F∈([]:List (World->Prop)),ClU F:=fun _ h=>by cases h
theorem fU {F:World->Prop} {fs:List (World->Prop)} (h:ClU F) (hs:∀G∈fs,ClU G):∀G∈F::fs,ClU G:=fun G hG=>by rcases List.mem_cons.1 hG with rfl|hG;exact h;exact hs G hG
section
variable {W w w':World} {bs:List (Nat×List Value)} {fs:List (World->Prop)}
end
section
variable {P:Program} {ops:Array Oper} {Q:Exit->Act->World->Prop} {W w:World} {bs:List (Nat×List Value)} {fs:List (World->Prop)} {nt d:Nat} {L:List (Nat×Value)} {rest:List Oper} {a:Act} {T:TypeId} {x y:Operand} {ty:TypeId} {pos:String} {af:Array Edge}
end
section
variable {P:Program} {ops:Array Oper} {Q:Exit->Act->World->Prop} {W w:World} {bs:List (Nat×List Value)} {fs:List (World->Prop)} {nt d:Nat} {L:List (Nat×Value)} {rest:List Oper} {a:Act} {T:TypeId} {ty:TypeId} {pos:String} {af:Array Edge}
end
end
end
section
section
section
variable {P:Program} {ops:Array Oper} {Q:Exit->Act->World->Prop}
end
def qD:Value->Bool
 | .int .u32 _=>false
 |_=>true
theorem db.keepU2 {g:Nat} {w w':World} {cs:List Value} (h:db g w w') (hb:Blk w g cs) (hc:cs.all qD=true):fW w w':=by
 obtain⟨T,hg⟩:=hb
 intro ad xs hr
 refine⟨fun i hi=>?_⟩
 obtain⟨b,off,h1,h2,h3⟩:=hr.cell i hi
 have hne:b≠g:=by
  intro e
  subst e
  rw[cell_of_row w b (off+i) _ _ _ hg,List.getElem?_toArray] at h3
  have:=List.all_eq_true.1 hc _ (List.mem_of_getElem? h3)
  cases this
 refine⟨b,off,h1,by rw[h.size];exact h2,?_⟩
 rw[<-h3]
 exact World.cell?_of_block (w:=w) (h.block b hne)
section
variable {W w w':World} {bs:List (Nat×List Value)} {fs:List (World->Prop)}
theorem St.setU2 (st:St W w bs fs) (i:Nat) {g:Nat} {cs ws:List Value} (h:bs[i]?=some (g,cs)) (hc:cs.all qD=true) (hU:∀F∈fs,ClU F) (tu:db g w w') (ho:Blk w' g ws):St W w' (bs.set i (g,ws)) fs:=
 let s:=st.setI i h tu ho
 ⟨s.bel,s.own,s.low,s.apart,fun F hF=>hU F hF w w' (st.facts F hF) (tu.keepU2 (st.bk i h) hc),st.cl⟩
end
section
variable {P:Program} {ops:Array Oper} {Q:Exit->Act->World->Prop} {W w:World} {bs:List (Nat×List Value)} {fs:List (World->Prop)} {nt d n g:Nat} {L:List (Nat×Value)} {rest:List Oper} {a:Act} {T:TypeId} {x y:Operand} {ty:TypeId} {pos:String} {af:Array Edge} {cs vs zs:List Value}
theorem S.stoIU (st:St W w bs fs) (hF:Fr nt a L) (i:Nat) (hb:bs[i]?=some (g,cs)) (hcu:cs.all qD=true) (hU:∀F∈fs,ClU F) (he:a.eval x= .pointer (some ⟨g,0,none⟩)) (hv:a.eval y= .agg vs.toArray) (hT:Ty P T n zs) (hl:vs.length=n) (hl':cs.length=n) (hc':vs.all gX=true)
 (k:∀w' a',St W w' (bs.set i (g,vs)) fs->Fr nt a' L->wpS P ops Q rest a' w'):wpS P ops Q (⟨none,.store T x y,ty,pos,af,none⟩::rest) a w:=by
 obtain⟨w1,hr,tu,on⟩:=hO (P:=P) (o:=0) (ws:=vs) (st.bk i hb) hT.s hl (by simp[hl']) (gX.oc hc') (by subst hl;simp[hl'])
 exact E.st hF (cF he hv (hr _ rfl)) rfl rfl fun a' hF'=>k w1 a' (st.setU2 i hb hcu hU tu on) hF'
end
theorem Rl.clU {q:Rat} {k:Nat} {v:Value}:ClU fun w=>Rl q k w v:=fun _ _ h kp=>⟨h.1.keepU kp,h.2⟩
end
end
section
section
def GCl (v:Value) (G:World->Prop):Prop:=∀w w',G w->(∀b,v.ownBlock=some b->w'.heap[b]?=w.heap[b]?)->w.heap.size<=w'.heap.size->fW w w'->G w'
theorem Below.keepU {w w':World} (h:Below w.heap.size w w'):fW w w':=fun ad xs r=>Below.keep h _ _ _ r
structure Sg (W w:World) (bs:List (Nat×List Value)) (fs:List (World->Prop)) (v0:Value) (G0:World->Prop):Prop extends St W w bs fs where
 g:G0 w
 gc:GCl v0 G0
 gl:∀w,G0 w->∀b,v0.ownBlock=some b->W.heap.size<=b/\b<w.heap.size
 gn:∀p∈bs,v0.ownBlock≠some p.1
section
variable {W w w':World} {bs:List (Nat×List Value)} {fs:List (World->Prop)} {v0:Value} {G0:World->Prop}
theorem St.grow0 (st:St W w bs fs) {v:Value} {G:World->Prop} (g:G w) (gc:GCl v G) (gl:∀w,G w->∀b,v.ownBlock=some b->W.heap.size<=b/\b<w.heap.size) (gn:∀p∈bs,v.ownBlock≠some p.1):Sg W w bs fs v G:=⟨st,g,gc,gl,gn⟩
theorem Sg.gat (st:Sg W w bs fs v0 G0) (h:∀b,v0.ownBlock=some b->w'.heap[b]?=w.heap[b]?) (hs:w.heap.size<=w'.heap.size) (k:fW w w'):G0 w':=st.gc w w' st.g h hs k
theorem Sg.to (st:Sg W w bs fs v0 G0) (hb:Below w.heap.size w w'):Sg W w' bs fs v0 G0:=
 ⟨st.toSt.to hb,st.gat (fun b e=>hb.block b (st.gl w st.g b e).2) hb.size (Below.keepU hb),st.gc,st.gl,st.gn⟩
theorem Sg.add (st:Sg W w bs fs v0 G0) {F:World->Prop} (h:F w) (hc:Cl F):Sg W w bs (F::fs) v0 G0:=⟨st.toSt.add h hc,st.g,st.gc,st.gl,st.gn⟩
theorem Sg.push (st:Sg W w bs fs v0 G0) {g:Nat} {cs:List Value} (ho:Blk w g cs) (hg:W.heap.size<=g) (hne:∀p∈bs,p.1≠g) (hv:v0.ownBlock≠some g):Sg W w ((g,cs)::bs) fs v0 G0:=
 ⟨st.toSt.push ho hg hne,st.g,st.gc,st.gl,fun p hp=>by rcases List.mem_cons.1 hp with rfl|hp;exact hv;exact st.gn p hp⟩
theorem Sg.away (st:Sg W w bs fs v0 G0) {g:Nat} (hg:w.heap.size<=g):v0.ownBlock≠some g:=fun e=>by have:=(st.gl w st.g g e).2;omega
theorem Sg.new (st:Sg W w bs fs v0 G0) {cs:List Value} {g:Nat} (hg:w.heap.size=g) (hb:Below w.heap.size w w') (ho:Blk w' g cs):Sg W w' ((g,cs)::bs) fs v0 G0:=
 (st.to hb).push ho (by rw[<-hg];exact st.bel.size) (st.ne (by omega)) (st.away (by omega))
theorem Sg.pick (st:Sg W w bs fs v0 G0) (is js:List Nat) {bs':List (Nat×List Value)} {fs':List (World->Prop)} (hb:is.map (bs[·]?)=bs'.map some) (hf:js.map (fs[·]?)=fs'.map some) (hn:is.Pairwise fun a b=>a≠b):Sg W w bs' fs' v0 G0:=by
 refine⟨st.toSt.pick is js hb hf hn,st.g,st.gc,st.gl,fun p hp=>st.gn p ?_⟩
 have h1:some p∈bs'.map some:=List.mem_map_of_mem hp
 rw[<-hb] at h1
 obtain⟨j,_,hj⟩:=List.mem_map.1 h1
 exact List.mem_of_getElem? hj
theorem Sg.cast (st:Sg W w bs fs v0 G0) {G1:World->Prop} (e:G0=G1):Sg W w bs fs v0 G1:=e▸st
theorem Iu {i:Nat} {g:Nat} {cs ws:List Value} (h:bs[i]?=some (g,cs)) (gn:∀p∈bs,v0.ownBlock≠some p.1):∀p∈bs.set i (g,ws),v0.ownBlock≠some p.1:=by
 intro p hp
 rcases List.mem_or_eq_of_mem_set hp with hp|rfl
 ·exact gn p hp
 ·exact gn (g,cs) (List.mem_of_getElem? h)
theorem Sg.setU2 (st:Sg W w bs fs v0 G0) (i:Nat) {g:Nat} {cs ws:List Value} (h:bs[i]?=some (g,cs)) (hc:cs.all qD=true) (hU:∀F∈fs,ClU F) (tu:db g w w') (ho:Blk w' g ws):Sg W w' (bs.set i (g,ws)) fs v0 G0:=
 ⟨st.toSt.setU2 i h hc hU tu ho,st.gat (fun b e=>tu.block b (fun e2=>st.gn (g,cs) (List.mem_of_getElem? h) (by rw[e,e2]))) (Nat.le_of_eq tu.size.symm) (tu.keepU2 (st.bk i h) hc),st.gc,st.gl,Iu h st.gn⟩
theorem Sg.grow (st:Sg W w bs fs v0 G0) {v1:Value} {G1:World->Prop} (gg:w.grownBy w' v0.ownBlock) (bb:Below W.heap.size w w') (ku:fW w w') (hU:∀F∈fs,ClU F) (g1:G1 w') (gc:GCl v1 G1) (gl:∀w,G1 w->∀b,v1.ownBlock=some b->W.heap.size<=b/\b<w.heap.size)
 (hne:∀b,b<w.heap.size->v0.ownBlock≠some b->v1.ownBlock≠some b):Sg W w' bs fs v1 G1:=
 ⟨⟨st.bel.trans bb,fun p hp=>Blk.grown (st.own p hp) gg (fun e=>st.gn p hp e.symm),st.low,st.apart,fun F hF=>hU F hF w w' (st.facts F hF) ku,st.cl⟩,g1,gc,gl,fun p hp=>hne p.1 (st.own p hp).lt (st.gn p hp)⟩
end
section
variable {P:Program} {ops:Array Oper} {Q:Exit->Act->World->Prop} {W w:World} {bs:List (Nat×List Value)} {fs:List (World->Prop)} {v0:Value} {G0:World->Prop} {nt d s:Nat} {L:List (Nat×Value)} {rest:List Oper} {a:Act} {T:TypeId} {x y:Operand} {v:Value} {cs vs zs:List Value} {g n:Nat} {ty:TypeId} {pos:String} {af:Array Edge} {H:World->Value->Prop} {ds:List Nat} {Hs:List (World->Value->Prop)}
theorem SG.new {s:Nat} {ty':TypeId} {pos':String} {af':Array Edge} (st:Sg W w bs fs v0 G0) (hF:Fr nt a L) (j:Nat) (hj:L[j]?=some (s,.agg vs.toArray)) (hT:Ty P T n zs) (hl:vs.length=n) (hz:zs.length=n) (hc:vs.all gX=true) (hlt:Nat.blt d nt=true) (hf:aZ d L=true)
 (k:∀g w' a',Sg W w' ((g,vs)::bs) fs v0 G0->Fr nt a' ((d,.pointer (some ⟨g,0,none⟩))::L)->wpS P ops Q rest a' w'):wpS P ops Q (⟨some d,.alloc T,ty,pos,af,none⟩::⟨none,.store T (.tmp d) (.tmp s),ty',pos',af',none⟩::rest) a w:=by
 obtain⟨g,w1,ge,hr,bb,o⟩:=jn (P:=P) (w:=w) (cs:=zs) (v:= .agg zs.toArray) T hT.z rfl
 refine E.opv hF (de hr) rfl rfl hlt hf fun a1 hF1=>?_
 obtain⟨w2,hr2,tu,on⟩:=hO (P:=P) (o:=0) (ws:=vs) o hT.s hl (by simp[hz]) (gX.oc hc) (by subst hl;simp[hz])
 refine E.st hF1 (cF (bS (hF1.at 0 rfl)) (bS (hF1.at (j+1) hj)) (hr2 _ rfl)) rfl rfl fun a2 hF2=>?_
 have b2:Below w.heap.size w w2:=tu.below bb (Nat.le_of_eq ge)
 exact k g w2 a2 (st.new ge b2 on) hF2
theorem SG.callx {f:FuncId} {args:Array Value} {o:Oper} (st:Sg W w bs fs v0 G0) (hF:Fr nt a L) (hr:(execOp a.eval o).run P w= .ok (.enter f args) w) (hc:Calls P f args w fun e w'=>e= .returned v/\Below w.heap.size w w') (hg:o.guard=none) (hd:o.dst=some d) (hlt:Nat.blt d nt=true) (hf:aZ d L=true)
 (k:∀w' a',Sg W w' bs fs v0 G0->Fr nt a' ((d,v)::L)->wpS P ops Q rest a' w'):wpS P ops Q (o::rest) a w:=
 E.call hF hr hc hg hd hlt hf fun e w' ⟨he,bb⟩=>⟨v,he,fun a' hF'=>k w' a' (st.to bb) hF'⟩
theorem SG.stoIU (st:Sg W w bs fs v0 G0) (hF:Fr nt a L) (i:Nat) (hb:bs[i]?=some (g,cs)) (hcu:cs.all qD=true) (hU:∀F∈fs,ClU F) (he:a.eval x= .pointer (some ⟨g,0,none⟩)) (hv:a.eval y= .agg vs.toArray) (hT:Ty P T n zs) (hl:vs.length=n) (hl':cs.length=n) (hc':vs.all gX=true)
 (k:∀w' a',Sg W w' (bs.set i (g,vs)) fs v0 G0->Fr nt a' L->wpS P ops Q rest a' w'):wpS P ops Q (⟨none,.store T x y,ty,pos,af,none⟩::rest) a w:=by
 obtain⟨w1,hr,tu,on⟩:=hO (P:=P) (o:=0) (ws:=vs) (st.bk i hb) hT.s hl (by simp[hl']) (gX.oc hc') (by subst hl;simp[hl'])
 exact E.st hF (cF he hv (hr _ rfl)) rfl rfl fun a' hF'=>k w1 a' (st.setU2 i hb hcu hU tu on) hF'
end
end
end
end Go.Proofs.YtgdpkknapcgcbaaGreatDoor
