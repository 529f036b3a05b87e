import Derived.Test.YtgdpkknapcgcbaaGreatDoorKA31
import Derived.Test.YtgdpkknapcgcbaaGreatDoorKA36
namespace Go.Proofs.YtgdpkknapcgcbaaGreatDoor
open Go.RowKit
set_option maxRecDepth 100000
set_option linter.unusedVariables false
set_option maxHeartbeats 8000000
def noU (v:Value):Prop:=∀z,v≠ .int .u32 z
def NoU (w:World) (g:Nat):Prop:=∀j z,w.cell? ⟨g,j,none⟩≠some (.int .u32 z)
theorem nu0:∀v∈([]:List Value),noU v:=fun _ h=>by cases h
theorem nuC {u:Value} {l:List Value} (hu:noU u) (h:∀v∈l,noU v):∀v∈(u::l),noU v:=by
 intro v hv
 rcases List.mem_cons.1 hv with rfl|hv
 ·exact hu
 ·exact h v hv
theorem nuI {z:Int}:noU (iv z):=fun y e=>by injection e with e;cases e
theorem nuB {b:Bool}:noU (.bool b):=fun y e=>by cases e
theorem nuS {ad:Option Addr} {n c:Nat}:noU (.slice ad n c):=fun y e=>by cases e
def dt (w:World) (m T base:Nat) (v:Value) (n:Nat) (rs:List Value):Prop:=w.ownsRow base T m v n rs/\∀g,v.ownBlock=some g->NoU w g
theorem oW {w w':World} {row:Option Nat} (hg:w.grownBy w' row) (hn:∀g,row=some g->NoU w g):fW w w':=by
 intro ad xs hr
 refine⟨fun i hi=>?_⟩
 obtain⟨b,off,h1,h2,h3⟩:=hr.cell i hi
 have hne:some b≠row:=fun e=>hn b e.symm _ _ h3
 exact⟨b,off,h1,Nat.lt_of_lt_of_le h2 hg.size,by rw[<-h3];exact World.cell?_of_block (w:=w) (hg.block b h2 hne)⟩
theorem gL {w:World} {g T:Nat} {cs:List Value} (h:w.heap[g]?=some (.cells cs.toArray T (0,0))) (hn:∀u∈cs,noU u):NoU w g:=by
 intro j z e
 rw[cell_of_row w g j _ _ _ h,List.getElem?_toArray] at e
 exact hn _ (List.mem_of_getElem? e) z rfl
theorem dt.all {w:World} {m T base:Nat} {v:Value} {n:Nat} {rs:List Value} (h:dt w m T base v n rs) {g cap:Nat} {cur:Array Value} (hv:v= .slice (some ⟨g,0,none⟩) n cap) (hg:w.heap[g]?=some (.cells cur T (0,0))):∀u∈cur.toList,noU u:=by
 subst hv
 have hn:=h.2 g rfl
 intro u hu z e
 subst e
 obtain⟨j,hj⟩:=List.getElem?_of_mem hu
 exact hn j z (by rw[cell_of_row w g j _ _ _ hg];simpa using hj)
theorem sV {z:Array Value} (hz:∀u∈z.toList,noU u) (n:Nat):∀u∈(Builtin.zeroCells z n).toList,noU u:=by
 intro u hu
 rw[Array.mem_toList_iff] at hu
 unfold Builtin.zeroCells at hu
 obtain⟨a,ha,rfl⟩:=Array.mem_map.1 hu
 rw[Array.mem_range] at ha
 have hp:0<z.size:=by
  rcases Nat.eq_zero_or_pos z.size with e|e
  ·rw[e] at ha;simp at ha
  ·exact e
 have hlt:=Nat.mod_lt a hp
 rw[getElem!_pos z (a%z.size) hlt]
 exact hz _ (by simp)
theorem dt.app {P:Program} {w:World} {t T ty:TypeId} {m bytes base:Nat} (ht:P.underlying t=some (.slice T)) (hq:∃i z,P.info? T=some i/\i.zero=some z/\i.size=m/\i.bytes=bytes/\z.cells.size=m/\∀u∈z.cells.toList,noU u) (hm:0<m) (hbb:bytes<=200)
 {v:Value} {n:Nat} {rs:List Value} (h:dt w m T base v n rs) {gs:Nat} {es:List Value} (hsrc:Blk w gs es) (hsn:∀u∈es,noU u) (he:es.length=m) (h1:∀u∈es,u.oneCell'=true) (hl:n<=1000000) (hbase:base<=w.heap.size):
 ∃ad cap w',(Builtin.append_ #[t,t] ty #[v,.slice (some ⟨gs,0,none⟩) 1 1]).run P w= .ok (.slice ad (n+1) cap) w'/\dt w' m T base (.slice ad (n+1) cap) (n+1) (rs++es)/\w.grownBy w' v.ownBlock/\∀b,b<w.heap.size->v.ownBlock≠some b->(Value.slice ad (n+1) cap).ownBlock ≠some b:=by
 obtain⟨i,z,hi,hz,hs,hby,hzs,hzn⟩:=hq
 obtain⟨Ts,hsr⟩:=hsrc
 have hnews:∀j u,es[j]?=some u->w.cell? ((⟨gs,0,none⟩:Addr).add j)=some u:=by
  intro j u hj
  rw[Addr.add_mid,Nat.zero_add,cell_of_row w gs j _ _ _ hsr,List.getElem?_toArray];exact hj
 have hll:es.length=1*m:=by rw[he,Nat.one_mul]
 have hb1:(n+1)*bytes<=140737488355328:=by
  have:=Nat.mul_le_mul (show n+1<=1000001 by omega) hbb
  omega
 obtain⟨v',w',hr,h2,h3,_⟩:=run_append_own (P:=P) w base t ty T i z m bytes ht hi hz hs hby hzs hm v n rs h.1 ⟨gs,0,none⟩ 1 1 es hll hnews h1 (by unfold maxLen;omega) hb1 hbase
 have hll':es.length=1*i.size:=by rw[hs];exact hll
 have hall:∀u∈rs,noU u:=by
  rcases h.1.2 with⟨_,h0⟩|⟨g,cap,cur,hv,_,hg,_,_,_,htake⟩
  ·have hx:rs=[]:=List.eq_nil_of_length_eq_zero (by rw[h.1.1,h0,Nat.zero_mul])
   subst hx
   exact fun _ hu=>by cases hu
  ·intro u hu
   rw[<-htake] at hu
   exact h.all hv hg u (List.mem_of_mem_take hu)
 have fresh:∀(cs:List Value),cs=rs->∀k,NoU (w.drew.alloc (.cells (cs.toArray++es.toArray++Builtin.zeroCells z.cells k) T)) w.heap.size:=by
  intro cs hcs k
  subst hcs
  have e:=heap_alloc_new w.drew (.cells (cs.toArray++es.toArray++Builtin.zeroCells z.cells k) T)
  refine gL (T:=T) (cs:=cs++es++(Builtin.zeroCells z.cells k).toList) (e.trans (by simp)) ?_
  intro u hu
  rcases List.mem_append.1 hu with hu|hu
  ·rcases List.mem_append.1 hu with hu|hu
   ·exact hall u hu
   ·exact hsn u hu
  ·exact sV hzn k u hu
 rcases h.1.2 with⟨rfl,rfl⟩|⟨g,cap,cur,rfl,hbg,hg,hnc,hcm,hcs,htake⟩
 ·have hx:rs=[]:=List.eq_nil_of_length_eq_zero (by rw[h.1.1,Nat.zero_mul])
  have hr2:=run_append_nil (P:=P) w t ty T i z ht hi hz ⟨gs,0,none⟩ 1 1 es hll' hnews (by decide) (by decide) (by rw[hby];omega)
  rw[hr] at hr2
  injection hr2 with e1 e2
  subst e1 e2
  refine⟨_,_,_,hr,⟨h2,?_⟩,h3,fun b hb _ e=>by injection e with e;have e2:w.heap.size=b:=e;omega⟩
  intro g hg
  injection hg with hg
  subst hg
  simpa using fresh [] hx.symm (grownCap w 1 0 T-1)
 ·by_cases hroom:n+1<=cap
  ·have hfit:n*i.size+es.length<=cur.size:=by
    rw[hs,he,hcs]
    have:=Nat.mul_le_mul_right m hroom
    rwa[Nat.add_mul,Nat.one_mul] at this
   have hr2:=run_append_room (P:=P) w t ty T i ht hi g n cap cur hg ⟨gs,0,none⟩ 1 1 es hll' hnews h1 hroom hfit
   rw[hr] at hr2
   injection hr2 with e1 e2
   subst e1 e2
   refine⟨_,_,_,hr,⟨h2,?_⟩,h3,fun b _ h=>h⟩
   intro g' hg'
   injection hg' with hg'
   subst hg'
   have ha:=h.all rfl hg
   refine gL (setRow_heap w g _ _ T (0,0) hg) ?_
   intro u hu
   rcases List.mem_append.1 hu with hu|hu
   ·rcases List.mem_append.1 hu with hu|hu
    ·exact ha u (List.mem_of_mem_take hu)
    ·exact hsn u hu
   ·exact ha u (List.mem_of_mem_drop hu)
  ·have holds:∀j u,rs[j]?=some u->w.cell? ((⟨g,0,none⟩:Addr).add j)=some u:=h.1.cells (g:=g) rfl
   have hr2:=run_append_grow (P:=P) w t ty T i z ht hi hz ⟨g,0,none⟩ n cap rs (by rw[hs];exact h.1.1) holds ⟨gs,0,none⟩ 1 1 es hll' hnews (by omega) (by omega) (growslice_fits (by omega) (by rw[hby];exact hb1))
   rw[hr] at hr2
   injection hr2 with e1 e2
   subst e1 e2
   refine⟨_,_,_,hr,⟨h2,?_⟩,h3,fun b hb _ e=>by injection e with e;have e2:w.heap.size=b:=e;omega⟩
   intro g' hg'
   injection hg' with hg'
   subst hg'
   exact fresh rs rfl _
theorem dt.below {w w':World} {m T base:Nat} {v:Value} {n:Nat} {rs:List Value} (h:dt w m T base v n rs) (hb:Below w.heap.size w w'):dt w' m T base v n rs:=by
 have hg:w.grownBy w' none:=⟨hb.os,hb.tape,hb.output,hb.size,fun k hk _=>hb.block k hk⟩
 refine⟨h.1.kept hg (by cases v.ownBlock <;> simp),fun g e=>?_⟩
 have hlt:=(h.1.lt g e).2
 intro j n hc
 refine h.2 g e j n ?_
 rw[<-hc]
 exact(World.cell?_of_block (w:=w) (hb.block g hlt)).symm
theorem dt.lt {w:World} {m T base:Nat} {v:Value} {n:Nat} {rs:List Value} (h:dt w m T base v n rs):∀k,v.ownBlock=some k->base<=k/\k<w.heap.size:=h.1.lt
theorem dt.low {w:World} {m T base b:Nat} {v:Value} {n:Nat} {rs:List Value} (h:dt w m T base v n rs) (l:b<=base):dt w m T b v n rs:=by
 refine⟨⟨h.1.1,?_⟩,h.2⟩
 rcases h.1.2 with x|⟨g,cap,cur,h1,h2,h3⟩
 ·exact .inl x
 ·exact .inr ⟨g,cap,cur,h1,by omega,h3⟩
theorem dt.put {P:Program} {w:World} {t T ty:TypeId} {m bytes base:Nat} (ht:P.underlying t=some (.slice T)) (hq:∃i z,P.info? T=some i/\i.zero=some z/\i.size=m/\i.bytes=bytes/\z.cells.size=m/\∀u∈z.cells.toList,noU u) (hm:0<m) (hbb:bytes<=200)
 {v:Value} {n:Nat} {rs:List Value} (h:dt w m T base v n rs) {gs:Nat} {es:List Value} (hsrc:Blk w gs es) (hsn:∀u∈es,noU u) (he:es.length=m) (h1:∀u∈es,u.oneCell'=true) (hl:n<=1000000) (hbase:base<=w.heap.size):
 ∃ad cap w',(builtin .append #[t,t] ty #[false,false] #[v,.slice (some ⟨gs,0,none⟩) 1 1]).run P w= .ok (.value (.slice ad (n+1) cap)) w'/\dt w' m T base (.slice ad (n+1) cap) (n+1) (rs++es)/\w.grownBy w' v.ownBlock/\Below base w w'/\fW w w'/\∀b,b<w.heap.size->v.ownBlock≠some b->(Value.slice ad (n+1) cap).ownBlock ≠some b:=by
 obtain⟨ad,cap,w',hr,h2,h3,h4⟩:=dt.app (ty:=ty) ht hq hm hbb h hsrc hsn he h1 hl hbase
 refine⟨ad,cap,w',?_,h2,h3,ip h3 (fun g e=>(h.1.lt g e).1) hbase,oW h3 h.2,h4⟩
 show(do pure (.value (<-Builtin.append_ #[t,t] ty #[v,.slice (some ⟨gs,0,none⟩) 1 1])):Sem Next).run P w=_
 rw[Sem.run_bind,hr];rfl
theorem dt.row {w:World} {m T base:Nat} {ad:Option Addr} {n n' cap:Nat} {rs:List Value} (h:dt w m T base (.slice ad n' cap) n rs) (hp:0<n):
 ∃g more,ad=some ⟨g,0,none⟩/\n'=n/\base<=g/\Blk w g (rs++more):=by
 rcases h.1.2 with⟨_,e⟩|⟨g,cap',cur,hv,hb,hg,_,_,_,htake⟩
 ·omega
 ·injection hv with e1 e2 e3
  refine⟨g,cur.toList.drop (n*m),e1,e2,hb,⟨T,?_⟩⟩
  rw[<-htake,List.take_append_drop];simpa using hg
theorem vn {c:Int} {x:Rat} (h:Gr c x) (b0: -8000000<=x) (b1:x<=8000000):ah x 2:=by
 obtain⟨m,rfl⟩:=h
 have inv:∀x:Rat,x/((8388608:Int):Rat)=x*(1/8388608):=fun x=>by
  rw[Rat.div_def x,show(((8388608:Int):Rat))⁻¹ =1/8388608 by decide+kernel]
 have key:∀k:Int,1<=k->k<=4->kG c=((k:Int):Rat)*(1/8388608)->ah (((m:Int):Rat)*kG c) 2:=by
  intro k k0 k1 e
  have q:((m:Int):Rat)*kG c=((m*k:Int):Rat)/((8388608:Int):Rat):=by
   rw[e,Rat.intCast_mul,inv];grind
  have g0:((-67108864000000:Int):Rat)<=((m*k:Int):Rat):=by
   rw[q,inv] at b0
   rw[show((-67108864000000:Int):Rat)= -67108864000000 from rfl]
   grind
  have g1:((m*k:Int):Rat)<=((67108864000000:Int):Rat):=by
   rw[q,inv] at b1
   rw[show((67108864000000:Int):Rat)=67108864000000 from rfl]
   grind
  have h0:=Rat.intCast_le_intCast.1 g0
  have h1:=Rat.intCast_le_intCast.1 g1
  rw[q]
  exact ii (by omega) (by omega) (by decide) (by decide)
 by_cases e:c=0
 ·exact key 4 (by decide) (by decide) (by unfold kG kQ;rw[if_pos e];decide+kernel)
 ·exact key 1 (by decide) (by decide) (by unfold kG kQ;rw[if_neg e];decide+kernel)
theorem yq {c:Int} (h0:0<=c) (h1:c<=4) (x:Rat):dS c x<=x+35:=by
 have a:=(rp c x).2
 have p:=(fi h0 h1 x).1
 have m:=EH c
 have e:elo c x=x+((((cy c x:Nat):Int):Int):Rat)*kQ c:=lO c x _
 have q0:(0:Rat)<=kQ c:=by unfold kQ;split <;> decide+kernel
 have q1:kQ c<=1:=by unfold kQ;split <;> decide+kernel
 have r:((((cy c x:Nat):Int):Int):Rat)<=((34:Int):Rat):=Rat.intCast_le_intCast.2 (by omega)
 have r0:((0:Int):Rat)<=((((cy c x:Nat):Int):Int):Rat):=Rat.intCast_le_intCast.2 (by omega)
 have s:=Rat.mul_le_mul_of_nonneg_left (c:=((((cy c x:Nat):Int):Int):Rat)) q1 r0
 rw[show((34:Int):Rat)=34 from rfl] at r
 grind
theorem yt {c:Int} (h0:0<=c) (h1:c<=4) (x:Rat):dU c x<=x+36:=by
 have a:=yq h0 h1 x
 have b:=Dc c x
 grind
theorem wN (c:Int) (x:Rat):x<=dU c x:=by
 have a:=wW c x
 have k:=AZ c
 rw[uR]
 grind
theorem Ae {c:Int} (h0:0<=c) (h1:c<=4) (t:Rat):∀j:Nat,t<=paF c t j/\paF c t j<=t+36*((((j:Nat):Int):Int):Rat)
 |0=>⟨Rat.le_refl,by show t<=_;rw[show((((0:Nat):Int):Int):Rat)=0 from rfl];grind⟩
 |j+1=>by
  have a:=Ae h0 h1 t j
  have b:=yt h0 h1 (paF c t j)
  have d:=wN c (paF c t j)
  have e:((((j+1:Nat):Int):Int):Rat)=((((j:Nat):Int):Int):Rat)+1:=by rw[show(((j+1:Nat)):Int)=((j:Nat):Int)+1 by omega,Rat.intCast_add,Rat.intCast_one]
  show t<=dU c (paF c t j)/\dU c (paF c t j)<=_
  rw[e]
  constructor <;> grind
theorem jK {c:Int} (h0:0<=c) (h1:c<=4) {t:Rat} (h:Gr c t) (b0: -4000000<=t) (b1:t<=4000000) {j:Nat} (hj:j<=5):ah (paF c t j) 2/\ah (dS c (paF c t j)) 2/\ah (dU c (paF c t j)) 2:=by
 have p:=Ae h0 h1 t j
 have r:((((j:Nat):Int):Int):Rat)<=((5:Int):Rat):=Rat.intCast_le_intCast.2 (by omega)
 rw[show((5:Int):Rat)=5 from rfl] at r
 have g:=tJ h j
 have a0:=wW c (paF c t j)
 have a1:=yq h0 h1 (paF c t j)
 have d0:=wN c (paF c t j)
 have d1:=yt h0 h1 (paF c t j)
 refine⟨vn g ?_ ?_,vn (rH g) ?_ ?_,vn (wU g) ?_ ?_⟩ <;> grind
abbrev Pt:=Int×Int×Rat×Rat
noncomputable def pt4 (c:Int) (f:Rat):Pt:=(c,kI c f,dS c f,dU c f)
noncomputable def prC (c:Int) (t u:Rat):List Pt:=(List.range (paN c t u+1)).map fun j=>pt4 c (paF c t j)
noncomputable def prS (t u:Rat):List Pt:=if kI 0 u=kI 0 t then[] else[pt4 0 t]
noncomputable def prA (t u:Rat):List Pt:=prC 1 t u++prC 2 t u++prC 3 t u++prC 4 t u++prS t u
def ofK (k:Int) (ps:List Pt):List Pt:=ps.filter fun p=>decide (p.1=k)
theorem jR (c:Int) (t u:Rat):(prC c t u).length =paN c t u+1:=by simp[prC]
theorem J8 {c:Int} {t u:Rat} {j:Nat} (h:j<paN c t u+1):(prC c t u)[j]?=some (pt4 c (paF c t j)):=by simp[prC,h]
theorem fF (k:Int) (a b:List Pt):ofK k (a++b)=ofK k a++ofK k b:=List.filter_append ..
theorem kF (k c:Int) (t u:Rat):ofK k (prC c t u)=if c=k then prC c t u else[]:=by
 unfold ofK
 split
 ·next h=>exact List.filter_eq_self.2 fun p hp=>by obtain⟨j,_,rfl⟩:=List.mem_map.1 hp;exact decide_eq_true h
 ·next h=>exact List.filter_eq_nil_iff.2 fun p hp=>by obtain⟨j,_,rfl⟩:=List.mem_map.1 hp;rw[decide_eq_true_iff];exact h
theorem Fc (k:Int) (t u:Rat):ofK k (prS t u)=if k=0 then prS t u else[]:=by
 unfold ofK prS
 by_cases e:kI 0 u=kI 0 t
 ·rw[if_pos e];simp
 ·rw[if_neg e]
  by_cases h:k=0
  ·subst h;rw[if_pos rfl];rfl
  ·rw[if_neg h];simp[pt4];omega
theorem J1 {k:Int} (h0:1<=k) (h1:k<=4) (t u:Rat):ofK k (prA t u)=prC k t u:=by
 unfold prA
 rw[fF,fF,fF,fF,kF,kF,kF,kF,Fc,if_neg (by omega:¬k=0)]
 have h:k=1\/k=2\/k=3\/k=4:=by omega
 rcases h with rfl|rfl|rfl|rfl <;> simp
theorem xi (t u:Rat):ofK 0 (prA t u)=prS t u:=by
 unfold prA
 rw[fF,fF,fF,fF,kF,kF,kF,kF,Fc]
 simp
def paM (t u:Rat):Nat->Nat
 |0=>0
 |k+1=>paM t u k+(paN (((k:Nat):Int)+1) t u+1)
theorem rD (t u:Rat):(prA t u).length =paM t u 4+if kI 0 u=kI 0 t then 0 else 1:=by
 unfold prA prS
 simp only [List.length_append,jR,paM]
 rw[show(((0:Nat):Int)+1)=1 from rfl,show(((1:Nat):Int)+1)=2 from rfl,show(((2:Nat):Int)+1)=3 from rfl,show(((3:Nat):Int)+1)=4 from rfl]
 split <;> simp <;> omega
theorem xy {t u:Rat} (l:t<=u) (d:u-t<=102/100):(((prS t u).length :Nat):Int)=(kI 0 u-kI 0 t)%12:=by
 have s:=u6 (c:=0) (by decide) (by decide) l d
 have f:=uE (c:=0) (by decide) (by decide) l d
 have z:=f.2.2.1 rfl
 rw[show kN 0=12 from rfl] at s
 have m0:=gV (c:=0) (by decide) (by decide) t
 have m1:=gV (c:=0) (by decide) (by decide) u
 rw[show kN 0=12 from rfl] at m0 m1
 unfold prS
 split
 ·next e=>rw[s];simp;omega
 ·next e=>
  rw[s]
  have:kS 0 u≠kS 0 t:=fun e2=>e (by rw[m0,m1,e2])
  simp;omega
theorem iq {c:Int} (h0:0<=c) (h1:c<=4) {t u:Rat} (l:t<=u) (d:u-t<=102/100):((paN c t u:Nat):Int)=(kI c u-kI c t)%kN c/\paN c t u<=3:=by
 have s:=u6 h0 h1 l d
 have f:=uE h0 h1 l d
 unfold paN
 rw[s]
 omega
theorem GY {t u:Rat} (l:t<=u) (d:u-t<=102/100):(prA t u).length <=17:=by
 rw[rD]
 simp only [paM]
 have h1:=(iq (c:=((0:Nat):Int)+1) (by decide) (by decide) l d).2
 have h2:=(iq (c:=((1:Nat):Int)+1) (by decide) (by decide) l d).2
 have h3:=(iq (c:=((2:Nat):Int)+1) (by decide) (by decide) l d).2
 have h4:=(iq (c:=((3:Nat):Int)+1) (by decide) (by decide) l d).2
 split <;> omega
theorem xB {a b c d:Int} (h:cS a b c d) (n:Int):bi (cT n a b c d)<=bi (cT (n+1) a b c d)/\bi (cT (n+1) a b c d)-bi (cT n a b c d)<=102/100:=by
 have s:=FR (lat:=((a:Int):Rat)/((b:Int):Rat)) (((c:Int):Rat)/((d:Int):Rat)) h.la.1 h.la.2 n
 have e:∀m,riV (((a:Int):Rat)/((b:Int):Rat)) (((c:Int):Rat)/((d:Int):Rat)) m=bi (cT m a b c d):=fun _=>rfl
 rw[e,e] at s
 constructor <;> grind
theorem Fp {a b c d:Int} (h:cS a b c d) {n:Int} (h0: -3500000<=n) (h1:n<=3500000): -4000000<=bi (cT n a b c d)/\bi (cT n a b c d)<=4000000:=by
 have f:=Ly h n
 have a1:=fl (bi (cT n a b c d))
 have a2:=gE (bi (cT n a b c d))
 have b0:((-3500001:Int):Rat)<=(((bi (cT n a b c d)).floor :Int):Rat):=Rat.intCast_le_intCast.2 (by omega)
 have b1:(((bi (cT n a b c d)).floor :Int):Rat)<=((3500002:Int):Rat):=Rat.intCast_le_intCast.2 (by omega)
 rw[show((-3500001:Int):Rat)= -3500001 from rfl] at b0
 rw[show((3500002:Int):Rat)=3500002 from rfl] at b1
 constructor <;> grind
def PtV (w:World) (cs:List Value) (p:Pt):Prop:=
 ∃b1 a1 n1 c1 d1 m1 e1 b2 a2 n2 c2 d2 m2 e2,cs=[iv p.1,iv p.2.1,.bool b1,.slice a1 n1 c1,.slice d1 m1 e1,.bool b2,.slice a2 n2 c2,.slice d2 m2 e2]/\
  Rl p.2.2.1 2 w (.agg #[.bool b1,.slice a1 n1 c1,.slice d1 m1 e1])/\Rl p.2.2.2 2 w (.agg #[.bool b2,.slice a2 n2 c2,.slice d2 m2 e2])
theorem PtV.keep {w w':World} {cs:List Value} {p:Pt} (h:PtV w cs p) (kp:dr w w'):PtV w' cs p:=by
 obtain⟨b1,a1,n1,c1,d1,m1,e1,b2,a2,n2,c2,d2,m2,e2,h0,h1,h2⟩:=h
 exact⟨b1,a1,n1,c1,d1,m1,e1,b2,a2,n2,c2,d2,m2,e2,h0,⟨h1.1.keep kp,h1.2⟩,⟨h2.1.keep kp,h2.2⟩⟩
def PEl (w:World) (cs:List Value) (ps:List Pt):Prop:=∀i p,ps[i]?=some p->PtV w ((cs.drop (8*i)).take 8) p
theorem PEl.keep {w w':World} {cs:List Value} {ps:List Pt} (h:PEl w cs ps) (kp:dr w w'):PEl w' cs ps:=fun i p e=>(h i p e).keep kp
theorem PEl.cl {ps:List Pt} (cs:List Value):Cl fun w=>PEl w cs ps:=fun _ _ h kp=>h.keep kp
theorem PEl.below {w w':World} {cs:List Value} {ps:List Pt} (h:PEl w cs ps) (hb:Below w.heap.size w w'):PEl w' cs ps:=h.keep (Below.keep hb)
def bN (w:World) (base:Nat) (v:Value) (ps:List Pt):Prop:=∃rs,dt w 8 57 base v ps.length rs/\PEl w rs ps
theorem bN.below {w w':World} {base:Nat} {v:Value} {ps:List Pt} (h:bN w base v ps) (hb:Below w.heap.size w w'):bN w' base v ps:=by
 obtain⟨rs,h1,h2⟩:=h
 exact⟨rs,h1.below hb,h2.below hb⟩
theorem bN.low {w:World} {base b:Nat} {v:Value} {ps:List Pt} (h:bN w base v ps) (l:b<=base):bN w b v ps:=by
 obtain⟨rs,h1,h2⟩:=h
 exact⟨rs,h1.low l,h2⟩
theorem PEl.at4 {w:World} {cs:List Value} {ps:List Pt} (h:PEl w cs ps) {i:Nat} {c:Int} {f:Rat} (e:ps[i]?=some (pt4 c f)):
 ∃b1 a1 n1 c1 d1 m1 e1 b2 a2 n2 c2 d2 m2 e2,(cs.drop (8*i)).take 8=[iv c,iv (kI c f),.bool b1,.slice a1 n1 c1,.slice d1 m1 e1,.bool b2,.slice a2 n2 c2,.slice d2 m2 e2]/\
  Rl (dS c f) 2 w (.agg #[.bool b1,.slice a1 n1 c1,.slice d1 m1 e1])/\Rl (dU c f) 2 w (.agg #[.bool b2,.slice a2 n2 c2,.slice d2 m2 e2]):=h i _ e
theorem PEl.more {w:World} {cs:List Value} {ps:List Pt} (h:PEl w cs ps) (l:cs.length=ps.length*8) (ms:List Value):PEl w (cs++ms) ps:=by
 intro i p e
 have hi:i<ps.length:=(List.getElem?_eq_some_iff.1 e).1
 rw[List.drop_append_of_le_length (by omega),List.take_append_of_le_length (by rw[List.length_drop];omega)]
 exact h i p e
theorem bN.row {w:World} {base:Nat} {ad:Option Addr} {n cap:Nat} {ps:List Pt} (h:bN w base (.slice ad n cap) ps) (hp:0<ps.length):
 ∃g cs,ad=some ⟨g,0,none⟩/\n=ps.length/\base<=g/\Blk w g cs/\PEl w cs ps:=by
 obtain⟨rs,h1,h2⟩:=h
 obtain⟨g,more,e1,e2,hge,hb⟩:=h1.row hp
 exact⟨g,rs++more,e1,e2,hge,hb,h2.more h1.1.1 more⟩
theorem ym {cs vs:List Value} {o k n:Nat} {v:Value} (h:(cs.drop o).take n=vs) (hk:k<n) (hv:vs[k]?=some v):cs[o+k]?=some v:=by
 rw[<-h,List.getElem?_take_of_lt hk,List.getElem?_drop] at hv
 exact hv
theorem ph {w:World} {g n c i:Nat} {z:Int} (hz:z=((i:Nat):Int)) (hi:i<n):(Instr.indexAt 34 (.slice (some ⟨g,0,none⟩) n c) (iv z)).run Tryz.prog w= .ok (.pointer (some ⟨g,8*i,none⟩)) w:=by
 subst hz
 simp[Instr.indexAt,asIntOf,run_underlying Tryz.underlying34,Sem.run_bind,Addr.add_mid,hi,Nat.mul_comm]
theorem ec {w:World} {t:TypeId} {ad:Option Addr} {n c:Nat}:(builtin .len #[34] t #[false] #[.slice ad n c]).run Tryz.prog w= .ok (.value (iv n)) w:=by
 simp[Builtin.len_,go_sem]
def tz (ps:List Pt):Int:=match ofK 1 ps with|[_,p,_]=>p.2.1+1|_=>0
end Go.Proofs.YtgdpkknapcgcbaaGreatDoor
