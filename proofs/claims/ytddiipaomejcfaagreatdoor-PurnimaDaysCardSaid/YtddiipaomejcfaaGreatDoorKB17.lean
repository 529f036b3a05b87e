import Derived.Test.YtddiipaomejcfaaGreatDoorKB16
import Derived.Laws.StructEq
namespace Go.Proofs.YtddiipaomejcfaaGreatDoor
open Go.RowKit
set_option maxRecDepth 100000
set_option linter.unusedVariables false
set_option maxHeartbeats 8000000
section
section
def QEl (w:World) (cs:List Value) (qs:List Rat):Prop:=
 ∀i,i<qs.length->∃b ad n c ae m d,(cs.drop (3*i)).take 3=[.bool b,.slice ad n c,.slice ae m d]/\Rq w (.agg #[.bool b,.slice ad n c,.slice ae m d]) (qs.getD i 0)
theorem QEl.below {w w':World} {cs:List Value} {qs:List Rat} (h:QEl w cs qs) (hb:Below w.heap.size w w'):QEl w' cs qs:=by
 intro i hi
 obtain⟨b,ad,n,c,ae,m,d,h1,h2⟩:=h i hi
 exact⟨b,ad,n,c,ae,m,d,h1,h2.below hb⟩
theorem QEl.keep {w w':World} {cs:List Value} {qs:List Rat} (h:QEl w cs qs) (kp:dQ w w'):QEl w' cs qs:=by
 intro i hi
 obtain⟨b,ad,n,c,ae,m,d,h1,h2⟩:=h i hi
 exact⟨b,ad,n,c,ae,m,d,h1,h2.keep kp⟩
def kS (w:World) (v:Value) (qs:List Rat):Prop:=∃g cs,v= .slice (some ⟨g,0,none⟩) qs.length qs.length/\Own w g cs/\QEl w cs qs
theorem kS.below {w w':World} {v:Value} {qs:List Rat} (h:kS w v qs) (hb:Below w.heap.size w w'):kS w' v qs:=by
 obtain⟨g,cs,h1,h2,h3⟩:=h
 exact⟨g,cs,h1,h2.below hb,h3.below hb⟩
def qD (qs:List Rat):Nat->Rat
 |0=>0
 |i+1=>qD qs i+qs.getD i 0
theorem Hn {t:TypeId} {w:World} {ad:Option Addr} {n c:Nat}:(builtin .len #[192] t #[false] #[.slice ad n c]).run Tryz.prog w= .ok (.value (iv n)) w:=by
 have hu:=run_underlying (P:=Tryz.prog) Tryz.underlying192 w
 simp[Builtin.len_,Sem.run_bind,hu,go_sem]
theorem Im {w:World} {g n c i:Nat} (hi:i<n):(Instr.indexAt 192 (.slice (some ⟨g,0,none⟩) n c) (iv (i:Nat))).run Tryz.prog w= .ok (.pointer (some ⟨g,3*i,none⟩)) w:=by
 have hu:=run_underlying (P:=Tryz.prog) Tryz.underlying192 w
 unfold Instr.indexAt
 simp[Sem.run_bind,asIntOf,go_sem,hu,hi,Addr.add]
 split
 ·obtain rfl:i=0:=by omega
  rfl
 ·rw[Nat.mul_comm]
end
section
theorem Fi (v1:Value) (qs:List Rat) (k:Nat) (w:World) (h1:kS w v1 qs) (hl1:∀i,i<=qs.length->aw (qD qs i) k) (hl2:∀i,i<qs.length->aw (qs.getD i 0) k) (hk:k<=100000) (hn:qs.length<=1000000):
 CQ 171 #[v1] w (qD qs qs.length):=by
 obtain⟨gr,cs,rfl,orow,hel⟩:=h1
 have bel:Below w.heap.size w w:=Below.refl _ _
 refine go1 (nt:=18) Tryz.func171 rfl rfl rfl fun a hF=>wq ?_
 obtain⟨g2,w1,ge2,hr,bb,o2⟩:=dZ (P:=Tryz.prog) (w:=w) (cs:=[.bool false,.slice none 0 0,.slice none 0 0]) 78 jO rfl (niB (niS (niS ni0)))
 have nerow_2:gr≠g2:=by rw[<-ge2];exact orow.ne_new
 replace ge2:w.heap.size<=g2:=by rw[<-ge2];exact bel.size
 refine oV hF (dV hr) rfl fun a hF=>?_
 clear hr
 replace hel:=hel.below bb
 replace orow:=orow.below bb
 replace bel:=aC bel bb
 clear bb
 refine nq<|oV hF (be (by simp) (jm _)) rfl fun a hF=>?_
 obtain⟨g3,w2,ge3,hr,bb,o3⟩:=dZ (P:=Tryz.prog) (w:=w1) (cs:=[.bool false,.slice none 0 0,.slice none 0 0]) 78 jO rfl (niB (niS (niS ni0)))
 have nerow_3:gr≠g3:=by rw[<-ge3];exact orow.ne_new
 have ne2_3:g2≠g3:=by rw[<-ge3];exact o2.ne_new
 replace ge3:w.heap.size<=g3:=by rw[<-ge3];exact bel.size
 refine oV hF (dV hr) rfl fun a hF=>?_
 clear hr
 replace hel:=hel.below bb
 replace orow:=orow.below bb
 replace o2:=o2.below bb
 replace bel:=aC bel bb
 clear bb
 obtain⟨w3,hr,tu,on⟩:=nV (vs:=[.bool false,.slice none 0 0,.slice none 0 0]) o3 rfl rfl (ocB (ocS (ocS oc0))) (niB (niS (niS ni0))) (o:=0) rfl
 have kp:=tu.keep o3
 refine E.st hF (dA hF.o hF.p (hr _ rfl)) rfl rfl fun a hF=>?_
 clear hr
 replace hel:=hel.keep kp
 replace orow:=tu.own orow nerow_3
 replace o2:=tu.own o2 ne2_3
 replace bel:=tu.below bel ge3
 clear tu kp
 replace o3:=on
 clear on
 refine ns<|wq<|oM hF 3 rfl rfl fun a hF=>oV hF (aW (aD hF.o) Hn) rfl fun a hF=>oV hF (aB ao) rfl fun a hF=>E.nil<|wp_block ?_
 have nint:=nn1 o3.noInt
 refine E.loop (fun m a wv=>∃(i:Nat) (sb:Bool) (sa:Option Addr) (sn:Nat) (sc:Nat) (ta:Option Addr) (tn:Nat) (tc:Nat),i<=qs.length/\Fr 18 a [(9,iv ((i:Nat):Int)),(8,iv ((qs.length:Nat):Int)),(7,.slice (some ⟨gr,0,none⟩) qs.length qs.length),(3,.pointer (some ⟨g3,0,none⟩)),(2,.pointer (some ⟨g2,0,none⟩))]/\iK [g3] w3 wv/\Below w.heap.size w wv/\Own wv g3 [.bool sb,.slice sa sn sc,.slice ta tn tc]/\Rq wv (.agg #[.bool sb,.slice sa sn sc,.slice ta tn tc]) (qD qs i)/\m=qs.length-i) (qs.length-0) ?_ ?_
 ·exact⟨0,_,_,_,_,_,_,_,Nat.zero_le _,hF.sub (by intro p hp;simp only [List.mem_cons,List.not_mem_nil,or_false] at hp ⊢;rcases hp with rfl|rfl|rfl|rfl|rfl <;> simp),iK.refl _ _,bel,o3,(Rq.zero _),rfl⟩
 ·rintro m a w4 ⟨i,sb,sa,sn,sc,ta,tn,tc,hi0,hF,sty,bel,o3,hs,hm⟩
  have kps:=sty.keep nint
  replace hel:=hel.keep kps
  replace orow:=sty.own orow (by simp only [List.mem_cons,List.not_mem_nil,or_false];first|exact nerow_3|(intro e;exact nerow_3 e))
  replace o2:=sty.own o2 (by simp only [List.mem_cons,List.not_mem_nil,or_false];first|exact ne2_3|(intro e;exact ne2_3 e))
  clear kps
  by_cases hi:i<qs.length
  ·refine wp_seq<|E.seq ?_
   refine oU hF 0 1 (a9 (c:=true) (by simp only [decide_eq_true_eq];omega)) rfl rfl rfl fun a hF=>ns<|wp_cond_true hF.o<|wp_skip<|E.norm<|wp_seq<|wp_block<|wq ?_
   obtain⟨xb,xa,xn,xc,ya,yn,yc,hcut,hx⟩:=hel i hi
   refine oV hF (cf (hF.at 3 rfl) hF.p (Im hi)) rfl fun a hF=>oV hF (av hF.o (gi (vs:=[.bool xb,.slice xa xn xc,.slice ya yn yc]) orow hcut rfl)) rfl fun a hF=>?_
   obtain⟨g5,w5,ge5,hr,bb,o5⟩:=dZ (P:=Tryz.prog) (w:=w4) (cs:=[.bool false,.slice none 0 0,.slice none 0 0]) 78 jO rfl (niB (niS (niS ni0)))
   have nerow_5:gr≠g5:=by rw[<-ge5];exact orow.ne_new
   have ne2_5:g2≠g5:=by rw[<-ge5];exact o2.ne_new
   have ne3_5:g3≠g5:=by rw[<-ge5];exact o3.ne_new
   have gl5:w3.heap.size<=g5:=by rw[<-ge5];exact sty.size
   replace ge5:w.heap.size<=g5:=by rw[<-ge5];exact bel.size
   refine oV hF (dV hr) rfl fun a hF=>?_
   clear hr
   replace hx:=hx.below bb
   replace hel:=hel.below bb
   replace hs:=hs.below bb
   replace orow:=orow.below bb
   replace o2:=o2.below bb
   replace o3:=o3.below bb
   replace bel:=aC bel bb
   replace sty:=sty.below bb
   clear bb
   obtain⟨w6,hr,tu,on⟩:=nV (vs:=[.bool xb,.slice xa xn xc,.slice ya yn yc]) o5 rfl rfl (ocB (ocS (ocS oc0))) (niB (niS (niS ni0))) (o:=0) rfl
   have kp:=tu.keep o5
   refine E.st hF (dA hF.o hF.p (hr _ rfl)) rfl rfl fun a hF=>?_
   clear hr
   replace hx:=hx.keep kp
   replace hel:=hel.keep kp
   replace hs:=hs.keep kp
   replace orow:=tu.own orow nerow_5
   replace o2:=tu.own o2 ne2_5
   replace o3:=tu.own o3 ne3_5
   replace bel:=tu.below bel ge5
   replace sty:=sty.turned tu (.inr gl5)
   clear tu kp
   replace o5:=on
   clear on
   refine E.nil<|E.seq<|oV hF (av (hF.at 7 rfl) (gi (vs:=[.bool sb,.slice sa sn sc,.slice ta tn tc]) o3 rfl rfl)) rfl fun a hF=>oV hF (av hF.p (gi (vs:=[.bool xb,.slice xa xn xc,.slice ya yn yc]) o5 rfl rfl)) rfl fun a hF=>?_
   refine E.call hF (rk Nr (aF hF.p hF.o)) (qR _ _ (qD qs i) (qs.getD i 0) k _ hs hx ((hl1 i hi0).up _ (by omega)) ((hl2 i hi).up _ (by omega)) (by omega)) rfl rfl rfl rfl ?_
   rintro e w7 ⟨vv8,rfl,hh9,bb⟩
   refine⟨_,rfl,?_⟩
   intro a hF
   replace hx:=hx.below bb
   replace hs:=hs.below bb
   replace hel:=hel.below bb
   replace orow:=orow.below bb
   replace o2:=o2.below bb
   replace o3:=o3.below bb
   replace o5:=o5.below bb
   replace bel:=aC bel bb
   replace sty:=sty.below bb
   clear bb
   obtain⟨b10,ad10,n10,c10,ae10,m10,d10,rfl,hn10,hd10⟩:=Rq.shape hh9
   have hf11:=Wc.abs hn10
   obtain⟨w12,hr,tu,on⟩:=nV (vs:=[.bool b10,.slice ad10 n10 c10,.slice ae10 m10 d10]) o3 rfl rfl (ocB (ocS (ocS oc0))) (niB (niS (niS ni0))) (o:=0) rfl
   have kp:=tu.keep o3
   refine E.st hF (dA (hF.at 10 rfl) hF.o (hr _ rfl)) rfl rfl fun a hF=>?_
   clear hr
   replace hh9:=hh9.keep kp
   replace hn10:=hn10.keep kp
   replace hf11:=hf11.keep kp
   replace hd10:=hd10.keep kp
   replace hx:=hx.keep kp
   replace hs:=hs.keep kp
   replace hel:=hel.keep kp
   replace orow:=tu.own orow nerow_3
   replace o2:=tu.own o2 ne2_3
   replace o5:=tu.own o5 (Ne.symm ne3_5)
   replace bel:=tu.below bel ge3
   replace sty:=sty.turned tu (.inl (by simp))
   clear tu kp
   replace o3:=on
   clear on
   refine E.nil0<|E.blk<|E.norm<|E.seq<|oV hF (aq (hF.at 7 rfl) ao aa (aO (by omega) (by omega))) rfl fun a hF=>?_
   refine E.opset (L':=[(9,iv (((i:Nat):Int)+1)),(16,iv (((i:Nat):Int)+1)),(15,.agg #[.bool b10,.slice ad10 n10 c10,.slice ae10 m10 d10]),(14,.agg #[.bool xb,.slice xa xn xc,.slice ya yn yc]),(13,.agg #[.bool sb,.slice sa sn sc,.slice ta tn tc]),(5,.pointer (some ⟨g5,0,none⟩)),(12,.agg #[.bool xb,.slice xa xn xc,.slice ya yn yc]),(11,.pointer (some ⟨gr,3*i,none⟩)),(10,.bool true),(8,iv ((qs.length:Nat):Int)),(7,.slice (some ⟨gr,0,none⟩) qs.length qs.length),(3,.pointer (some ⟨g3,0,none⟩)),(2,.pointer (some ⟨g2,0,none⟩))]) hF (aB hF.o) rfl rfl rfl rfl fun a hF=>?_
   refine E.nil0<|E.norm ?_
   exact⟨qs.length-(i+1),by omega,⟨i+1,_,_,_,_,_,_,_,hi,(by rw[show(((i+1:Nat)):Int)=((i:Nat):Int)+1 from by omega];exact Fr.sub (L':=[(9,iv (((i:Nat):Int)+1)),(8,iv ((qs.length:Nat):Int)),(7,.slice (some ⟨gr,0,none⟩) qs.length qs.length),(3,.pointer (some ⟨g3,0,none⟩)),(2,.pointer (some ⟨g2,0,none⟩))]) hF (by intro p hp;simp only [List.mem_cons,List.not_mem_nil,or_false] at hp ⊢;rcases hp with rfl|rfl|rfl|rfl|rfl <;> simp)),sty,bel,o3,hh9,rfl⟩⟩
  ·refine wp_seq<|E.seq ?_
   refine oU hF 0 1 (a9 (c:=false) (by simp only [decide_eq_false_iff_not];omega)) rfl rfl rfl fun a hF=>ns<|wp_cond_false hF.o<|wp_exit<|E.past<|E.past<|E.out (id:=0)<|E.norm<|wq<|oV hF (av (hF.at 4 rfl) (gi (vs:=[.bool sb,.slice sa sn sc,.slice ta tn tc]) o3 rfl rfl)) rfl fun a hF=>?_
   obtain⟨w5,hr,tu,on⟩:=nV (vs:=[.bool sb,.slice sa sn sc,.slice ta tn tc]) o2 rfl rfl (ocB (ocS (ocS oc0))) (niB (niS (niS ni0))) (o:=0) rfl
   have kp:=tu.keep o2
   refine E.st hF (dA (hF.at 6 rfl) hF.o (hr _ rfl)) rfl rfl fun a hF=>?_
   clear hr
   replace hs:=hs.keep kp
   replace bel:=tu.below bel ge2
   clear tu kp
   replace o2:=on
   clear on
   refine nr ?_
   refine bodyPost_ret (kX Tryz.results171 (hF.at 6 rfl) (gi (vs:=[.bool sb,.slice sa sn sc,.slice ta tn tc]) o2 rfl rfl)) hF.dfr ?_
   exact⟨_,rfl,by rw[show qs.length=i from by omega];exact hs,bel⟩
end
section
theorem kS.mono (qs:List Rat):∀w w' v,kS w v qs->Below w.heap.size w w'->kS w' v qs:=fun _ _ _ h hb=>h.below hb
end
end
def df (w:World) (m T base:Nat) (v:Value) (n:Nat) (rs:List Value):Prop:=w.ownsRow base T m v n rs
theorem df.below {w w':World} {m T base:Nat} {v:Value} {n:Nat} {rs:List Value} (h:df w m T base v n rs) (hb:Below w.heap.size w w'):df w' m T base v n rs:=
 World.ownsRow.kept h (row:=none) ⟨hb.os,hb.tape,hb.output,hb.size,fun k hk _=>hb.block k hk⟩ (by cases v.ownBlock <;> simp)
theorem df.lt {w:World} {m T base:Nat} {v:Value} {n:Nat} {rs:List Value} (h:df w m T base v n rs):∀k,v.ownBlock=some k->base<=k/\k<w.heap.size:=World.ownsRow.lt h
theorem df.castM {w:World} {m T base:Nat} {v:Value} {n n':Nat} {rs rs':List Value} (h:df w m T base v n rs) (e:n=n') (f:rs=rs'):df w m T base v n' rs':=by subst e f;exact h
theorem Blk.grown {w w':World} {row:Option Nat} {g:Nat} {cs:List Value} (h:Blk w g cs) (hg:w.grownBy w' row) (hne:some g≠row):Blk w' g cs:=by
 have hlt:=h.lt
 obtain⟨T,h1⟩:=h
 exact⟨T,by rw[hg.block g hlt hne];exact h1⟩
theorem rK {w w':World} {row:Option Nat} {g:Nat} {cs:List Value} (h:Own w g cs) (hg:w.grownBy w' row) (hne:some g≠row):Own w' g cs:=⟨Blk.grown h.1 hg hne,h.2⟩
theorem wm {w w':World} {row:Option Nat} {base:Nat} (hg:w.grownBy w' row) (hb:∀g,row=some g->base<=g) (hw:base<=w.heap.size):Below base w w':=
 ⟨hg.os,hg.tape,hg.output,hg.size,fun k hk=>hg.block k (by omega) (fun e=>by have:=hb k e.symm;omega)⟩
theorem df.row {w:World} {m T base:Nat} {ad:Option Addr} {n n' cap:Nat} {rs:List Value} (h:df w m T base (.slice ad n' cap) n rs) (hp:0<n):
 ∃g more,ad=some ⟨g,0,none⟩/\n'=n/\base<=g/\Blk w g (rs++more):=by
 rcases h.2 with⟨_,e⟩|⟨g,cap',cur,hv,hb,hg,_,_,_,htake⟩
 ·omega
 ·injection hv with e1 e2 e3
  refine⟨g,cur.toList.drop (n*m),e1,e2,hb,⟨T,?_⟩⟩
  rw[<-htake,List.take_append_drop];simpa using hg
theorem df.app {P:Program} {w:World} {t T ty:TypeId} {m bytes base:Nat} (ht:P.underlying t=some (.slice T)) (hq:∃i z,P.info? T=some i/\i.zero=some z/\i.size=m/\i.bytes=bytes/\z.cells.size=m) (hm:0<m) (hbb:bytes<=64)
 {v:Value} {n:Nat} {rs:List Value} (h:df w m T base v n rs) {gs:Nat} {es:List Value} (hsrc:Blk w gs es) (he:es.length=m) (h1:∀u∈es,u.oneCell'=true) (hl:n<=1000000) (hbase:base<=w.heap.size):
 ∃ad cap w',(builtin .append #[t,t] ty #[false,false] #[v,.slice (some ⟨gs,0,none⟩) 1 1]).run P w= .ok (.value (.slice ad (n+1) cap)) w'/\df w' m T base (.slice ad (n+1) cap) (n+1) (rs++es)/\w.grownBy w' v.ownBlock/\Below base w w'/\∀b,b<w.heap.size->v.ownBlock≠some b->(Value.slice ad (n+1) cap).ownBlock ≠some b:=by
 obtain⟨i,z,hi,hz,hs,hby,hzs⟩:=hq
 obtain⟨Ts,hsr⟩:=hsrc
 have hnews:∀j u,es[j]?=some u->w.cell? ((⟨gs,0,none⟩:Addr).add j)=some u:=by
  intro j u hj
  rw[Addr.add_mid,Nat.zero_add,cell_of_row w gs j _ _ _ hsr,List.getElem?_toArray];exact hj
 have hll:es.length=1*m:=by rw[he,Nat.one_mul]
 have hb1:(n+1)*bytes<=140737488355328:=by
  have:=Nat.mul_le_mul (show n+1<=1000001 by omega) hbb
  omega
 obtain⟨v',w',hr,h2,h3,_⟩:=run_append_own (P:=P) w base t ty T i z m bytes ht hi hz hs hby hzs hm v n rs h ⟨gs,0,none⟩ 1 1 es hll hnews h1 (by unfold maxLen;omega) hb1 hbase
 have hll':es.length=1*i.size:=by rw[hs];exact hll
 have fin:∀ {ad cap},v'= .slice ad (n+1) cap->(∀b,b<w.heap.size->v.ownBlock≠some b->(Value.slice ad (n+1) cap).ownBlock ≠some b)->∃ad cap w',(builtin .append #[t,t] ty #[false,false] #[v,.slice (some ⟨gs,0,none⟩) 1 1]).run P w= .ok (.value (.slice ad (n+1) cap)) w'/\df w' m T base (.slice ad (n+1) cap) (n+1) (rs++es)/\w.grownBy w' v.ownBlock/\Below base w w'/\∀b,b<w.heap.size->v.ownBlock≠some b->(Value.slice ad (n+1) cap).ownBlock ≠some b:=by
  intro ad cap e hb
  subst e
  refine⟨ad,cap,w',?_,h2,h3,wm h3 (fun g e=>(World.ownsRow.lt h g e).1) hbase,hb⟩
  show(do pure (.value (<-Builtin.append_ #[t,t] ty #[v,.slice (some ⟨gs,0,none⟩) 1 1])):Sem Next).run P w=_
  rw[Sem.run_bind,hr];rfl
 rcases h.2 with⟨rfl,rfl⟩|⟨g,cap,cur,rfl,hbg,hg,hnc,hcm,hcs,htake⟩
 ·have hr2:=run_append_nil (P:=P) w t ty T i z ht hi hz ⟨gs,0,none⟩ 1 1 es hll' hnews (by decide) (by decide) (by rw[hby];omega)
  rw[hr] at hr2
  injection hr2 with e1 e2
  exact fin e1 fun b hb _ e=>by injection e with e;have e2:w.heap.size=b:=e;omega
 ·by_cases hroom:n+1<=cap
  ·have hfit:n*i.size+es.length<=cur.size:=by
    rw[hs,he,hcs]
    have:=Nat.mul_le_mul_right m hroom
    rwa[Nat.add_mul,Nat.one_mul] at this
   have hr2:=run_append_room (P:=P) w t ty T i ht hi g n cap cur hg ⟨gs,0,none⟩ 1 1 es hll' hnews h1 hroom hfit
   rw[hr] at hr2
   injection hr2 with e1 e2
   exact fin e1 fun b _ h=>h
  ·have holds:∀j u,rs[j]?=some u->w.cell? ((⟨g,0,none⟩:Addr).add j)=some u:=World.ownsRow.cells h (g:=g) rfl
   have hr2:=run_append_grow (P:=P) w t ty T i z ht hi hz ⟨g,0,none⟩ n cap rs (by rw[hs];exact h.1) holds ⟨gs,0,none⟩ 1 1 es hll' hnews (by omega) (by omega) (growslice_fits (by omega) (by rw[hby];exact hb1))
   rw[hr] at hr2
   injection hr2 with e1 e2
   exact fin e1 fun b hb _ e=>by injection e with e;have e2:w.heap.size=b:=e;omega
theorem kU:(Tryz.prog.info? 61).map (·.size)=some 4:=by kernel_rfl
theorem rG:(Tryz.prog.info? 61).bind (·.zero)=some (.agg #[iv 0,iv 0,iv 0,iv 0]):=by kernel_rfl
theorem i8 {w:World} {g o:Nat} {cs vs:List Value} (h:Blk w g cs) (hv:(cs.drop o).take 4=vs) (hl:vs.length=4):(Instr.loadAt 61 (.pointer (some ⟨g,o,none⟩))).run Tryz.prog w= .ok (.agg vs.toArray) w:=kJ h hv hl Tryz.underlying61 rfl kU
theorem Jo {w:World} {g o:Nat} {cs ws vs:List Value} (h:Blk w g cs) (hl:vs.length=4) (ho:Nat.ble (o+4) cs.length=true) (h1:∀v∈vs,v.oneCell'=true) (hw:cs.take o++vs++cs.drop (o+4)=ws):∃w',(∀v:Value,v.cells=vs.toArray->(Instr.storeAt 61 (.pointer (some ⟨g,o,none⟩)) v).run Tryz.prog w= .ok () w')/\ec g w w'/\Blk w' g ws:=lf h kU hl ho h1 hw
theorem gC {w:World} {g o p:Nat} (hp:o+0=p):(Instr.fieldAt 61 (.pointer (some ⟨g,o,none⟩)) 0).run Tryz.prog w= .ok (.pointer (some ⟨g,p,none⟩)) w:=a8 Tryz.underlying61 rfl rfl dz rfl p hp
theorem mQ {w:World} {g o p:Nat} (hp:o+1=p):(Instr.fieldAt 61 (.pointer (some ⟨g,o,none⟩)) 1).run Tryz.prog w= .ok (.pointer (some ⟨g,p,none⟩)) w:=a8 Tryz.underlying61 rfl rfl dz rfl p hp
theorem kC {w:World} {g o p:Nat} (hp:o+2=p):(Instr.fieldAt 61 (.pointer (some ⟨g,o,none⟩)) 2).run Tryz.prog w= .ok (.pointer (some ⟨g,p,none⟩)) w:=a8 Tryz.underlying61 rfl rfl cW rfl p hp
theorem kK {w:World} {g o p:Nat} (hp:o+3=p):(Instr.fieldAt 61 (.pointer (some ⟨g,o,none⟩)) 3).run Tryz.prog w= .ok (.pointer (some ⟨g,p,none⟩)) w:=a8 Tryz.underlying61 rfl rfl cW rfl p hp
theorem xS (z00:Int) (z10:Int) (z20:Int) (z30:Int) (w:World):(Instr.build 61 #[(0,iv z00),(1,iv z10),(2,iv z20),(3,iv z30)]).run Tryz.prog w= .ok (.agg #[iv z00,iv z10,iv z20,iv z30]) w:=by
 have hz:=cj rG w
 have h_int:∀w,(sizeOf 3).run Tryz.prog w= .ok 1 w:=fun w=>aV cW w
 have h_i64:∀w,(sizeOf 2).run Tryz.prog w= .ok 1 w:=fun w=>aV dz w
 simp only [Instr.build,Sem.run_bind,hz,Result.andThen_ok,run_underlying Tryz.underlying61,List.mapM_toArray,List.mapM_cons,List.mapM_nil,Sem.run_map,h_i64,h_int,Sem.run_pure]
 rfl
theorem rH:(Tryz.prog.info? 63).map (·.size)=some 4:=by kernel_rfl
theorem DE:(Tryz.prog.info? 63).bind (·.zero)=some (.agg #[iv 0,iv 0,iv 0,iv 0]):=by kernel_rfl
theorem IV {w:World} {g o:Nat} {cs vs:List Value} (h:Blk w g cs) (hv:(cs.drop o).take 4=vs) (hl:vs.length=4):(Instr.loadAt 63 (.pointer (some ⟨g,o,none⟩))).run Tryz.prog w= .ok (.agg vs.toArray) w:=kJ h hv hl Tryz.underlying63 rfl rH
theorem kH {w:World} {g o p:Nat} (hp:o+0=p):(Instr.fieldAt 63 (.pointer (some ⟨g,o,none⟩)) 0).run Tryz.prog w= .ok (.pointer (some ⟨g,p,none⟩)) w:=a8 Tryz.underlying63 rfl rfl cW rfl p hp
theorem qg {w:World} {g o p:Nat} (hp:o+1=p):(Instr.fieldAt 63 (.pointer (some ⟨g,o,none⟩)) 1).run Tryz.prog w= .ok (.pointer (some ⟨g,p,none⟩)) w:=a8 Tryz.underlying63 rfl rfl cW rfl p hp
theorem jh {w:World} {g o p:Nat} (hp:o+2=p):(Instr.fieldAt 63 (.pointer (some ⟨g,o,none⟩)) 2).run Tryz.prog w= .ok (.pointer (some ⟨g,p,none⟩)) w:=a8 Tryz.underlying63 rfl rfl cW rfl p hp
theorem kP {w:World} {g o p:Nat} (hp:o+3=p):(Instr.fieldAt 63 (.pointer (some ⟨g,o,none⟩)) 3).run Tryz.prog w= .ok (.pointer (some ⟨g,p,none⟩)) w:=a8 Tryz.underlying63 rfl rfl cW rfl p hp
theorem xT (z00:Int) (z10:Int) (z20:Int) (z30:Int) (w:World):(Instr.build 63 #[(0,iv z00),(1,iv z10),(2,iv z20),(3,iv z30)]).run Tryz.prog w= .ok (.agg #[iv z00,iv z10,iv z20,iv z30]) w:=by
 have hz:=cj DE w
 have h_int:∀w,(sizeOf 3).run Tryz.prog w= .ok 1 w:=fun w=>aV cW w
 simp only [Instr.build,Sem.run_bind,hz,Result.andThen_ok,run_underlying Tryz.underlying63,List.mapM_toArray,List.mapM_cons,List.mapM_nil,Sem.run_map,h_int,Sem.run_pure]
 rfl
theorem EB (zx0:Int) (zx1:Int) (zx2:Int) (zx3:Int) (w:World):(Instr.field 63 (.agg #[iv zx0,iv zx1,iv zx2,iv zx3]) 3).run Tryz.prog w= .ok (iv zx3) w:=by
 have ha:(isAgg 3).run Tryz.prog w= .ok false w:=by
  unfold isAgg
  rw[Sem.run_bind,run_underlying Tryz.underlying3 w]
  rfl
 simp only [Instr.field,Sem.run_bind,run_underlying Tryz.underlying63,Result.andThen_ok]
 show((part 3 #[iv zx0,iv zx1,iv zx2,iv zx3] 3).run Tryz.prog w)=_
 simp only [part,Sem.run_bind,ha,Result.andThen_ok]
 rfl
theorem bX:Ty Tryz.prog 61 4 [iv 0,iv 0,iv 0,iv 0]:=⟨⟨_,Tryz.underlying61,rfl⟩,kU,rG⟩
theorem jK:Ty Tryz.prog 63 4 [iv 0,iv 0,iv 0,iv 0]:=⟨⟨_,Tryz.underlying63,rfl⟩,rH,DE⟩
theorem Bo:∃i z,Tryz.prog.info? 61=some i/\i.zero=some z/\i.size=4/\i.bytes=32/\z.cells.size=4:=by
 have h1:(Tryz.prog.info? 61).map (·.size)=some 4:=by kernel_rfl
 have h2:(Tryz.prog.info? 61).bind (·.zero)=some (.agg #[iv 0,iv 0,iv 0,iv 0]):=by kernel_rfl
 have h3:(Tryz.prog.info? 61).map (·.bytes)=some 32:=by kernel_rfl
 cases hq:Tryz.prog.info? 61 with
 |none=>rw[hq] at h1;cases h1
 |some i=>exact⟨i,.agg #[iv 0,iv 0,iv 0,iv 0],rfl,by simpa[hq] using h2,by simpa[hq] using h1,by simpa[hq] using h3,rfl⟩
theorem EA (w:World) (base:Nat) (hb:base<=w.heap.size):∃g w',w.heap.size=g/\(Instr.buildSlice 54 0 #[]).run Tryz.prog w= .ok (.slice (some ⟨g,0,none⟩) 0 0) w'/\Below w.heap.size w w'/\df w' 4 61 base (.slice (some ⟨g,0,none⟩) 0 0) 0 []:=by
 have hn:=eg (w:=w) (cs:=[]) 61
 refine⟨w.heap.size,w.alloc (.cells #[] 61),rfl,?_,hn.2,rfl,.inr ⟨w.heap.size,0,#[],rfl,hb,heap_alloc_new w _,Nat.le_refl _,Nat.zero_le _,rfl,rfl⟩⟩
 have hs:=aV (P:=Tryz.prog) (T:=61) (n:=4) kU w
 simp[Instr.buildSlice,go_sem,hs,Instr.fill,newRow]
theorem Ep (w:World) (z0 z1 z2 z3:Int):∃g w',w.heap.size=g/\(Instr.buildSlice 54 1 #[(0,.agg #[iv z0,iv z1,iv z2,iv z3])]).run Tryz.prog w= .ok (.slice (some ⟨g,0,none⟩) 1 1) w'/\Below w.heap.size w w'/\Blk w' g [iv z0,iv z1,iv z2,iv z3]:=by
 have hb:=eg (w:=w) (cs:=[iv z0,iv z1,iv z2,iv z3]) 61
 refine⟨w.heap.size,w.alloc (.cells #[iv z0,iv z1,iv z2,iv z3] 61),rfl,?_,hb.2,hb.1⟩
 have hs:=aV (P:=Tryz.prog) (T:=61) (n:=4) kU w
 simp[Instr.buildSlice,go_sem,hs,Instr.fill,Value.cells,newRow]
theorem F5 {w:World} {base:Nat} {v:Value} {n:Nat} {rs:List Value} (h:df w 4 61 base v n rs) {gs:Nat} {z0 z1 z2 z3:Int} (hs:Blk w gs [iv z0,iv z1,iv z2,iv z3]) (hl:n<=1000000) (bel:base<=w.heap.size) {ty:TypeId}:
 ∃ad cap w',(builtin .append #[54,54] ty #[false,false] #[v,.slice (some ⟨gs,0,none⟩) 1 1]).run Tryz.prog w= .ok (.value (.slice ad (n+1) cap)) w'/\df w' 4 61 base (.slice ad (n+1) cap) (n+1) (rs++[iv z0,iv z1,iv z2,iv z3])/\w.grownBy w' v.ownBlock/\Below base w w'/\∀b,b<w.heap.size->v.ownBlock≠some b->(Value.slice ad (n+1) cap).ownBlock ≠some b:=
 df.app Tryz.underlying54 Bo (by decide) (by decide) h hs rfl (ocI (ocI (ocI (ocI oc0)))) hl bel
theorem s4 {w:World} {g n c i:Nat} {z:Int} (hz:z=((i:Nat):Int)) (hi:i<n):(Instr.indexAt 54 (.slice (some ⟨g,0,none⟩) n c) (iv z)).run Tryz.prog w= .ok (.pointer (some ⟨g,4*i,none⟩)) w:=by
 subst hz
 simp[Instr.indexAt,asIntOf,run_underlying Tryz.underlying54,Sem.run_bind,Addr.add_mid,hi,Nat.mul_comm]
theorem fw {w:World} {ty:TypeId} {a:Option Addr} {n c:Nat}:(builtin .len #[54] ty #[false] #[.slice a n c]).run Tryz.prog w= .ok (.value (iv ((n:Nat):Int))) w:=by
 simp[Builtin.len_,go_sem,run_underlying Tryz.underlying54]
end Go.Proofs.YtddiipaomejcfaaGreatDoor
