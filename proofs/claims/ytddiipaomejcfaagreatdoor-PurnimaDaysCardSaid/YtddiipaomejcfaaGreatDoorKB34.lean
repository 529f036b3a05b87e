import Derived.Test.YtddiipaomejcfaaGreatDoorKB33
namespace Go.Proofs.YtddiipaomejcfaaGreatDoor
open Go.RowKit
set_option maxRecDepth 100000
set_option linter.unusedVariables false
set_option maxHeartbeats 8000000
theorem Ji {k n:Int} (h0:0<=k) (h1:k<=n) (hn:0<n):0<=((k:Int):Rat)/((n:Int):Rat)/\((k:Int):Rat)/((n:Int):Rat)<=1:=by
 have a:0<=((k:Int):Rat):=Rat.intCast_nonneg.2 h0
 have b:((k:Int):Rat)<=((n:Int):Rat):=Rat.intCast_le_intCast.2 h1
 have c:0<((n:Int):Rat):=Rat.intCast_pos.2 hn
 have d:0<((n:Int):Rat)⁻¹ :=Rat.inv_pos.2 c
 have e:((n:Int):Rat)*((n:Int):Rat)⁻¹ =1:=Rat.mul_inv_cancel _ (by grind)
 rw[Rat.div_def]
 generalize ((n:Int):Rat)⁻¹ =y at*
 generalize ((n:Int):Rat)=x at*
 generalize ((k:Int):Rat)=z at*
 refine⟨Rat.mul_nonneg a (Rat.le_of_lt d),?_⟩
 have:=Rat.mul_le_mul_of_nonneg_right b (Rat.le_of_lt d)
 grind
theorem Ks {lo hi:Rat} (h:lo<=hi) {k n:Int} (h0:0<=k) (h1:k<=n) (hn:0<n):lo<=atR lo hi k n/\atR lo hi k n<=hi:=by
 have f:=Ji h0 h1 hn
 unfold atR
 generalize ((k:Int):Rat)/((n:Int):Rat)=y at*
 have g:0<=hi-lo:=by grind
 have a:=Rat.mul_nonneg g f.1
 have b:=Rat.mul_le_mul_of_nonneg_left f.2 g
 constructor <;> grind
theorem LF (p:Rat->Bool) {lo hi:Rat} (h:lo<=hi) (n:Nat):lo<=hlo p lo hi n/\hlo p lo hi n<=hi:=Ks h (gj p lo hi n).1 (by have:=gj p lo hi n;omega) (eN n)
theorem Is (t:Rat):decide (0<=qc (bf t) ((180:Int):Rat))=full t:=by
 have h:=B0 t
 unfold wax at h
 cases e:full t with
 |true=>rw[e] at h;exact decide_eq_true (by have:=of_decide_eq_false h;omega)
 |false=>rw[e] at h;exact decide_eq_false (by have:=of_decide_eq_true h;omega)
theorem Av {t:Rat}:wax t=false↔full t=true:=by unfold wax;cases full t <;> simp
theorem Ai {t:Rat}:wax t=true↔full t=false:=by unfold wax;cases full t <;> simp
theorem xM {n:Int} (h:aY n=true):wax ((n:Int):Rat)=false/\wax (((n+1:Int)):Rat)=true:=by
 unfold aY at h
 rw[Bool.and_eq_true,Bool.not_eq_true'] at h
 exact⟨Av.2 h.1,Ai.2 h.2⟩
def nmL (n:Int):Rat:=hlo wax ((n:Int):Rat) (((n+1:Int)):Rat) 10
def nmR (n:Int):Rat:=hhi wax ((n:Int):Rat) (((n+1:Int)):Rat) 10
theorem Na {n:Int} (h:aY n=true):wax (nmL n)=false:=FU _ (xM h).1 10
theorem M0 {n:Int} (h:aY n=true):wax (nmR n)=true:=BE _ (xM h).2 10
theorem oJ (n:Int):nmR n=nmL n+1/1024:=by
 have h:=IK wax ((n:Int):Rat) (((n+1:Int)):Rat) 10
 rw[show((1:Int):Rat)/(((2^10:Int):Int):Rat)=1/1024 by decide+kernel,fX] at h
 unfold nmR nmL
 rw[fX]
 grind
def sk (t:Rat):Int:=min (t.floor-1) ((t-bf t*(((10:Int):Rat)/((135:Int):Rat))).floor)
theorem xA {t:Rat} (no:¬ga t=true):dR t.floor<=sk t/\sk t<=t.floor-1/\t.floor-34<=dR t.floor:=by
 have s:=ff t.floor
 have f:=BL (t:=t) (f:=t.floor) (L:=dR t.floor) rfl (by unfold ga at no;rw[Bool.and_eq_true,Bool.not_eq_true'] at no;exact no) s.2.1 s.2.2.1 s.2.2.2
 unfold sk
 omega
theorem xG (t:Rat):t.floor-30<=((t-bf t*(((10:Int):Rat)/((135:Int):Rat))).floor)/\((t-bf t*(((10:Int):Rat)/((135:Int):Rat))).floor)<=t.floor:=by
 have b:=jg t
 have a:=eI t
 have c:=fk t
 rw[show((10:Int):Rat)/((135:Int):Rat)=10/135 by decide+kernel]
 constructor
 ·exact Rat.le_floor_iff.2 (by rw[Rat.intCast_sub,show((30:Int):Rat)=30 from rfl];grind)
 ·have:(t-bf t*(10/135)).floor <t.floor+1:=Rat.floor_lt_iff.2 (by rw[Rat.intCast_add,Rat.intCast_one];grind)
  omega
theorem tW {t:Rat} (h:ga t=true):aY t.floor=true:=by
 unfold ga at h
 rw[Bool.and_eq_true,Bool.not_eq_true'] at h
 have f0:=eI t
 have f1:=fk t
 have e:((t.floor:Int):Rat)+(t-((t.floor:Int):Rat))=t:=by grind
 have i:=(kv ((t.floor:Int):Rat) (d:=t-((t.floor:Int):Rat)) (by grind) (by grind)).1 ⟨h.1,by rw[e];exact h.2⟩
 rw[e] at i
 refine(cG _).2 ?_
 have s:=iM t.floor
 have u:=jN t (d:=((t.floor:Int):Rat)+1-t) (by grind) (by grind)
 rw[show t+(((t.floor:Int):Rat)+1-t)=(((t.floor+1:Int)):Rat) by rw[fX];grind] at u
 unfold bA at*
 rcases u with u|u <;> omega
theorem dX (t:Rat):aY (ar t)=true:=by
 by_cases h:ga t=true
 ·rw[lh h];exact tW h
 ·rw[mJ h];exact(ff _).2.2.1
theorem gh (n:Int):((n:Int):Rat)<nmR n/\nmR n<=((n:Int):Rat)+1:=by
 have b:=gj wax ((n:Int):Rat) (((n+1:Int)):Rat) 10
 rw[show(2:Int)^10=1024 from rfl] at b
 unfold nmR hhi atR
 generalize hlv wax ((n:Int):Rat) (((n+1:Int)):Rat) 10=k at*
 have a:=Rat.intCast_le_intCast.2 (show 1<=k+1 by omega)
 have c:=Rat.intCast_le_intCast.2 (show k+1<=1024 by omega)
 rw[fX,show((2^10:Int):Rat)=1024 by decide+kernel]
 rw[show((1:Int):Rat)=1 from rfl] at a
 rw[show((1024:Int):Rat)=1024 from rfl] at c
 constructor <;> grind
def smV (n:Int):Int:=kaV (nmR n)
theorem JR {n:Int} (h:aY n=true):nmR n+27<=nmR (au n)/\nmR (au n)<=nmR n+32:=by
 have s:=bR h
 have a:=gh n
 have b:=gh (au n)
 have l:=Rat.intCast_le_intCast.2 s.1
 have g:=Rat.intCast_le_intCast.2 s.2.1
 rw[Rat.intCast_add,show((28:Int):Rat)=28 from rfl] at l
 rw[Rat.intCast_add,show((31:Int):Rat)=31 from rfl] at g
 constructor <;> grind
theorem iy {n:Int} (h:aY n=true):smV n<=smV (au n)/\smV (au n)<=smV n+2:=by
 have g:=JR h
 exact Hw g.1 g.2
theorem vt {n:Int} (h:aY n=true):smV n<smV (au (au n)):=by
 have s:=bR h
 have t:=bR s.2.2.1
 have a:=gh n
 have b:=gh (au (au n))
 have l:=Rat.intCast_le_intCast.2 (show n+56<=au (au n) by omega)
 rw[Rat.intCast_add,show((56:Int):Rat)=56 from rfl] at l
 exact wl (by grind)
noncomputable def moD (d:Int):Nat->Int
 |0=>d
 |k+1=>au (moD d k)
theorem dN {d:Int} (h:aY d=true):∀k,aY (moD d k)=true
 |0=>h
 |k+1=>(bR (dN h k)).2.2.1
theorem lS {d:Int} (h:aY d=true) (k:Nat):d+28*((k:Nat):Int)<=moD d k/\moD d k<=d+31*((k:Nat):Int):=by
 induction k with
 |zero=>show d+28*0<=d/\d<=d+31*0;omega
 |succ k ih=>
  have s:=bR (dN h k)
  show d+28*(((k+1:Nat)):Int)<=au (moD d k)/\au (moD d k)<=d+31*(((k+1:Nat)):Int)
  omega
def moC (n m:Int):List Value:=[iv n,iv m,iv (smV n%12),iv (smV m%12)]
noncomputable def moR (d:Int):Nat->List Value
 |0=>[]
 |k+1=>moR d k++moC (moD d k) (moD d (k+1))
theorem zD (d:Int):∀k,(moR d k).length =4*k
 |0=>rfl
 |k+1=>by show(moR d k++moC _ _).length =_;rw[List.length_append,zD d k];rfl
theorem v7 (d:Int) (more:List Value):∀ {k i:Nat},i<k->((moR d k++more).drop (4*i)).take 4=moC (moD d i) (moD d (i+1))
 |0,_,h=>absurd h (Nat.not_lt_zero _)
 |k+1,i,h=>by
  by_cases e:i=k
  ·subst e
   show(((moR d i++moC (moD d i) (moD d (i+1)))++more).drop (4*i)).take 4=_
   rw[List.append_assoc,<-zD d i,List.drop_left];rfl
  ·show(((moR d k++moC (moD d k) (moD d (k+1)))++more).drop (4*i)).take 4=_
   rw[List.append_assoc]
   exact v7 d _ (by omega)
theorem vi (v1:Value) (qt:Rat) (k:Nat) (w:World) (hT:bn w) (h1:Rq w v1 qt) (hl:aw qt k) (hk:k<=100):CV 162 #[v1] w (iv (kaV qt%12)):=by
 rw[<-yQ]
 exact Dz v1 qt k w hT h1 hl hk
theorem nP (n:Int) (w:World) (hT:bn w) (hn0: -100000000<=n) (hn1:n<=100000000):
 CV 118 #[iv n] w (iv (smV n%12)):=by
 refine gs1 (nt:=12) Tryz.func118 rfl rfl rfl fun a st hF=>wq ?_
 refine oC hF rfl fun a hF=>nq<|oM hF 1 rfl rfl fun a hF=>?_
 refine S.call2 st hF (rgc N8 (aD hF.o)) (DA n _ (hT.below st.bel) (by omega) (by omega)) (fun _ _ h=>h) Rq.cl Rq.cl rfl rfl rfl rfl fun vv2 vv3 w1 a st hF=>?_
 obtain⟨r6,rfl⟩:=Rq.fo (st.f 0 rfl)
 obtain⟨r7,rfl⟩:=Rq.fo (st.f 1 rfl)
 refine oM hF 0 rfl rfl fun a hF=>oV hF (aM (v:= r6.v) hF.o rfl) rfl fun a hF=>oV hF (aM (v:= r7.v) hF.p rfl) rfl fun a hF=>S.alloc st hF ab rfl rfl fun g3 w8 a st hF=>S.alloc st hF ab rfl rfl fun g4 w9 a st hF=>so st hF 1 1 3 ab rfl rfl rfl rfl fun w10 a st hF=>so st hF 0 0 2 ab rfl rfl rfl rfl fun w11 a st hF=>nq<|oL hF st 0 0 ab rfl rfl rfl rfl fun a hF=>?_
 refine cX st hF (rgc NW (aD hF.o)) (vi _ _ 14 _ (hT.below st.bel) (st.f 1 rfl) (zu (p:=wax) (i:=2) (j:=2) (dE (n:=n) (by omega) (by omega)) (oq (n:=n) (by omega) (by omega)) (by decide)) (by omega)) rfl fun w12 a st hF=>?_
 refine oE hF 0 rfl rfl fun a hF=>nr ?_
 have bel:=st.bel
 refine rt Tryz.results118 hF 0 rfl ?_
 exact⟨bC rfl,bel⟩
theorem xB (n:Int) (w:World) (hT:bn w) (hn0: -99000000<=n) (hn1:n<=99000000) (hc:aY n=true):
 CV 75 #[iv n] w (.agg #[iv n,iv (au n),iv (smV n%12),iv (smV (au n)%12)]):=by
 have hns:=bR hc
 refine gs1 (nt:=13) Tryz.func75 rfl rfl rfl fun a st hF=>wq<|S.alloc st hF bX rfl rfl fun g2 w1 a st hF=>nq<|oM hF 1 rfl rfl fun a hF=>cX st hF (rgc Oi (aD hF.o)) (z9 n _ (hT.below st.bel) (by omega) (by omega) hc) rfl fun w2 a st hF=>?_
 refine oA hF 0 rfl rfl fun a hF=>nq<|oM hF 4 rfl rfl fun a hF=>oM hF 1 rfl rfl fun a hF=>oM hF 6 rfl rfl fun a hF=>cX st hF (rgc KB (aD hF.o)) (nP n _ (hT.below st.bel) (by omega) (by omega)) rfl fun w3 a st hF=>oM hF 4 rfl rfl fun a hF=>cX st hF (rgc KB (aD hF.o)) (nP (au n) _ (hT.below st.bel) (by omega) (by omega)) rfl fun w4 a st hF=>oV hF (be (pE (hF.at 5 rfl) (hF.at 4 rfl) hF.q hF.o) (xS _ _ _ _ _)) rfl fun a hF=>?_
 refine S.stoI st hF 0 rfl (hF.at 10 rfl) hF.o bX rfl rfl rfl fun w5 a st hF=>nr<|rs Tryz.results75 st hF 10 0 bX rfl rfl rfl ?_
 exact⟨rfl,st.bel⟩
theorem xi (v1:Value) (qt:Rat) (k:Nat) (w:World) (hT:bn w) (h1:Rq w v1 qt) (hl:aw qt k) (hk:k<=100) (hf0: -90000000<=Rat.floor qt) (hf1:Rat.floor qt<=90000000):
 CV 37 #[v1] w (.agg #[iv (ar qt),iv (au (ar qt)),iv (smV (ar qt)%12),iv (smV (au (ar qt))%12)]):=by
 have hlv:=ji qt
 refine gs1 (nt:=6) Tryz.func37 rfl rfl rfl fun a st hF=>wq ?_
 obtain⟨r2,rfl⟩:=Rq.fo h1
 refine bx st hF 0 rfl rfl fun g1 w1 a st hF=>S.alloc st hF bX rfl rfl fun g2 w3 a st hF=>nq<|oL hF st 1 1 ab rfl rfl rfl rfl fun a hF=>cX st hF (rgc k76 (aD hF.o)) (AN _ (qt) k _ (hT.below st.bel) (h1.below st.bel) hl (by omega) (by omega) (by omega)) rfl fun w4 a st hF=>cX st hF (rgc k75 (aD hF.o)) (xB (ar (qt)) _ (hT.below st.bel) (by omega) (by omega) (dX qt)) rfl fun w5 a st hF=>S.stoI st hF 0 rfl (hF.at 3 rfl) hF.o bX rfl rfl rfl fun w6 a st hF=>nr ?_
 refine rs Tryz.results37 st hF 3 0 bX rfl rfl rfl ?_
 exact⟨rfl,st.bel⟩
theorem yq (z0 z1 z2 z3:Int) (w:World) (hT:bn w) (hn0: -99000000<=z1) (hn1:z1<=99000000) (hc:aY z1=true):
 CV 92 #[.agg #[iv z0,iv z1,iv z2,iv z3]] w (.agg #[iv z1,iv (au z1),iv (smV z1%12),iv (smV (au z1)%12)]):=by
 refine gs1 (nt:=6) Tryz.func92 rfl rfl rfl fun a st hF=>wq<|bx st hF 0 rfl rfl fun g1 w1 a st hF=>S.alloc st hF bX rfl rfl fun g2 w2 a st hF=>nq<|oV hF (az hF.p (mQ (p:=1) rfl)) rfl fun a hF=>oV hF (av hF.o (bD (v:= iv z1) (st.bk 1 rfl) rfl)) rfl fun a hF=>cX st hF (rgc k75 (aD hF.o)) (xB z1 _ (hT.below st.bel) (by omega) (by omega) hc) rfl fun w3 a st hF=>S.stoI st hF 0 rfl (hF.at 3 rfl) hF.o bX rfl rfl rfl fun w4 a st hF=>?_
 refine nr<|rs Tryz.results92 st hF 3 0 bX rfl rfl rfl ?_
 exact⟨rfl,st.bel⟩
theorem JO:∃i z,Tryz.prog.info? 61=some i/\i.zero=some z/\i.size=4/\i.bytes=32/\z.cells.size=4:=by
 have h1:(Tryz.prog.info? 61).map (·.size)=some 4:=by kernel_rfl
 have h2:(Tryz.prog.info? 61).bind (·.zero)=some (.agg #[iv 0,iv 0,iv 0,iv 0]):=by kernel_rfl
 have h3:(Tryz.prog.info? 61).map (·.bytes)=some 32:=by kernel_rfl
 cases hq:Tryz.prog.info? 61 with
 |none=>rw[hq] at h1;cases h1
 |some i=>exact⟨i,.agg #[iv 0,iv 0,iv 0,iv 0],rfl,by simpa[hq] using h2,by simpa[hq] using h1,by simpa[hq] using h3,rfl⟩
theorem Ka (w:World) (base:Nat) (hb:base<=w.heap.size):∃g w',w.heap.size=g/\(Instr.buildSlice 54 0 #[]).run Tryz.prog w= .ok (.slice (some ⟨g,0,none⟩) 0 0) w'/\Below w.heap.size w w'/\df w' 4 61 base (.slice (some ⟨g,0,none⟩) 0 0) 0 []:=by
 have hn:=eg (w:=w) (cs:=[]) 61
 refine⟨w.heap.size,w.alloc (.cells #[] 61),rfl,?_,hn.2,rfl,.inr ⟨w.heap.size,0,#[],rfl,hb,heap_alloc_new w _,Nat.le_refl _,Nat.zero_le _,rfl,rfl⟩⟩
 have hs:=aV (P:=Tryz.prog) (T:=61) (n:=4) kU w
 simp[Instr.buildSlice,go_sem,hs,Instr.fill,newRow]
theorem DK (w:World) (z0 z1 z2 z3:Int):∃g w',w.heap.size=g/\(Instr.buildSlice 54 1 #[(0,.agg #[iv z0,iv z1,iv z2,iv z3])]).run Tryz.prog w= .ok (.slice (some ⟨g,0,none⟩) 1 1) w'/\Below w.heap.size w w'/\Blk w' g [iv z0,iv z1,iv z2,iv z3]:=by
 have hb:=eg (w:=w) (cs:=[iv z0,iv z1,iv z2,iv z3]) 61
 refine⟨w.heap.size,w.alloc (.cells #[iv z0,iv z1,iv z2,iv z3] 61),rfl,?_,hb.2,hb.1⟩
 have hs:=aV (P:=Tryz.prog) (T:=61) (n:=4) kU w
 simp[Instr.buildSlice,go_sem,hs,Instr.fill,Value.cells,newRow]
theorem Dr {w:World} {base:Nat} {v:Value} {n:Nat} {rs:List Value} (h:df w 4 61 base v n rs) {gs:Nat} {z0 z1 z2 z3:Int} (hs:Blk w gs [iv z0,iv z1,iv z2,iv z3]) (hl:n<=1000000) (bel:base<=w.heap.size) {ty:TypeId}:
 ∃ad cap w',(builtin .append #[54,54] ty #[false,false] #[v,.slice (some ⟨gs,0,none⟩) 1 1]).run Tryz.prog w= .ok (.value (.slice ad (n+1) cap)) w'/\df w' 4 61 base (.slice ad (n+1) cap) (n+1) (rs++[iv z0,iv z1,iv z2,iv z3])/\w.grownBy w' v.ownBlock/\Below base w w'/\∀b,b<w.heap.size->v.ownBlock≠some b->(Value.slice ad (n+1) cap).ownBlock ≠some b:=
 df.app Tryz.underlying54 JO (by decide) (by decide) h hs rfl (ocI (ocI (ocI (ocI oc0)))) hl bel
theorem Mz {w:World} {g n c i:Nat} {z:Int} (hz:z=((i:Nat):Int)) (hi:i<n):(Instr.indexAt 54 (.slice (some ⟨g,0,none⟩) n c) (iv z)).run Tryz.prog w= .ok (.pointer (some ⟨g,4*i,none⟩)) w:=by
 subst hz
 simp[Instr.indexAt,asIntOf,run_underlying Tryz.underlying54,Sem.run_bind,Addr.add_mid,hi,Nat.mul_comm]
theorem Dy (n:Int) (N:Nat) (v1:Value) (qt:Rat) (k:Nat) (w:World) (hT:bn w) (h1:Rq w v1 qt) (hl:aw qt k) (hk:k<=100) (hf0: -9000000<=Rat.floor qt) (hf1:Rat.floor qt<=9000000) (hN:max (min n 40) 0=((N:Nat):Int)):
 CP 53 #[v1,iv n] w (fun e w'=>∃ad cap,e= .returned (.slice ad N cap)/\df w' 4 61 w.heap.size (.slice ad N cap) N (moR (ar qt) N)/\Below w.heap.size w w'):=by
 have hlv:=ji qt
 have hmb:=fun k=>lS (dX qt) k
 have bel:Below w.heap.size w w:=Below.refl _ _
 refine go2 (nt:=31) Tryz.func53 rfl rfl rfl fun a hF=>wq ?_
 obtain⟨b1,ad1,n1,c1,ae1,m1,d1,rfl,hn1,hd1⟩:=Rq.shape h1
 have hf2:=Wc.abs hn1
 obtain⟨g2,w3,ge2,hr,bb,o2⟩:=tl (P:=Tryz.prog) (w:=w) (cs:=[.bool b1,.slice ad1 n1 c1,.slice ae1 m1 d1]) (v:= .agg #[.bool b1,.slice ad1 n1 c1,.slice ae1 m1 d1]) 78 rfl (niB (niS (niS ni0)))
 replace ge2:w.heap.size<=g2:=by rw[<-ge2];exact bel.size
 refine oV hF (uG hF.o hr) rfl fun a hF=>?_
 clear hr
 replace bel:=aC bel bb
 clear bb
 refine oC hF rfl fun a hF=>nq ?_
 obtain⟨gl4,w5,egl4,hr,bb,hia0⟩:=Ka w3 w.heap.size bel.size
 refine oV hF (bQ (by simp) hr) rfl fun a hF=>?_
 clear hr
 have hnv2:(Value.slice (some ⟨gl4,0,none⟩) 0 0).ownBlock ≠some g2:=fun e=>by injection e with e;have:=o2.lt;have e2:gl4=g2:=e;omega
 replace o2:=o2.below bb
 replace bel:=aC bel bb
 clear bb
 refine oA hF 0 rfl rfl fun a hF=>ns<|wq<|oM hF 5 rfl rfl fun a hF=>oV hF (aW (aF hF.o ao) mi) rfl fun a hF=>oV hF (aB ao) rfl fun a hF=>E.nil<|wp_block ?_
 refine E.loop (fun mq a wv=>∃(i:Nat) (la:Option Addr) (lc:Nat),i<=N/\(Value.slice la i lc).ownBlock ≠some g2/\Fr 31 a [(10,iv ((i:Nat):Int)),(9,iv (min n 40)),(5,.slice la i lc),(4,.slice none 0 0),(2,.pointer (some ⟨g2,0,none⟩))]/\Below w.heap.size w wv/\df wv 4 61 w.heap.size (.slice la i lc) i (moR (ar qt) i)/\Own wv g2 [.bool b1,.slice ad1 n1 c1,.slice ae1 m1 d1]/\mq=N-i) (N-0) ?_ ?_
 ·exact⟨0,((some ⟨gl4,0,none⟩)),0,(Nat.zero_le _),hnv2,Fr.sub (L':=[(10,iv ((0:Nat):Int)),(9,iv (min n 40)),(5,.slice (some ⟨gl4,0,none⟩) 0 0),(4,.slice none 0 0),(2,.pointer (some ⟨g2,0,none⟩))]) hF (by intro p hp;simp only [List.mem_cons,List.not_mem_nil,or_false] at hp ⊢;rcases hp with rfl|rfl|rfl|rfl|rfl <;> simp),bel,hia0,o2,rfl⟩
 ·rintro mq a w6 ⟨i,la,lc,hi,hnv2,hF,bel,hia,o2,hm⟩
  by_cases hlt:i<N
  ·refine wp_seq<|E.seq ?_
   refine oU hF 0 1 (a9 (c:=true) (aK (by omega))) rfl rfl rfl fun a hF=>ns<|wp_cond_true hF.o<|wp_skip<|E.norm<|wp_seq<|wp_block<|wq ?_
   refine oM hF 1 rfl rfl fun a hF=>oA hF 0 rfl rfl fun a hF=>ns<|wq<|oM hF 0 rfl rfl fun a hF=>?_
   by_cases hc7:((i:Nat):Int)=0
   ·refine oT hF 0 (aQ (c:=true) (aK hc7)) rfl rfl fun a hF=>E.nil<|wp_cond_true hF.o<|wp_seq ?_
    obtain rfl:i=0:=by omega
    refine E.seq<|oM hF 7 rfl rfl fun a hF=>oV hF (av (hF.at 10 rfl) (gi (vs:=[.bool b1,.slice ad1 n1 c1,.slice ae1 m1 d1]) o2 rfl rfl)) rfl fun a hF=>?_
    refine E.call hF (rk Oy (aD hF.o)) (xi _ (qt) k _ (hT.below bel) (h1.below bel) hl (by omega) (by omega) (by omega)) rfl rfl rfl rfl ?_
    rintro e w8 ⟨rfl,bb⟩
    refine⟨_,rfl,?_⟩
    intro a hF
    replace hia:=hia.below bb
    replace o2:=o2.below bb
    replace bel:=aC bel bb
    clear bb
    obtain⟨gl9,w10,egl9,hr,bb,ogl9⟩:=DK w8 (ar (qt)) (au (ar (qt))) (smV (ar (qt))%12) (smV (au (ar (qt)))%12)
    refine oV hF (bQ (eZ hF.o) hr) rfl fun a hF=>?_
    clear hr egl9
    replace hia:=hia.below bb
    replace o2:=o2.below bb
    replace bel:=aC bel bb
    clear bb
    obtain⟨la11,lc12,w13,hr,hib,gg,bb,hne⟩:=Dr hia ogl9 (by omega) bel.size
    refine oV hF (aW (aF (hF.at 3 rfl) hF.o) hr) rfl fun a hF=>?_
    clear hr
    have hmv2:=hne _ o2.lt hnv2
    replace o2:=rK o2 gg (fun e=>hnv2 e.symm)
    replace hnv2:=hmv2
    clear hmv2
    replace bel:=bel.trans bb
    clear bb gg hne
    refine E.opset (L':=[(5,.slice la11 (0+1) lc12),(19,.slice la11 (0+1) lc12),(18,.slice (some ⟨gl9,0,none⟩) 1 1),(17,.agg #[iv (ar (qt)),iv (au (ar (qt))),iv (smV (ar (qt))%12),iv (smV (au (ar (qt)))%12)]),(16,.agg #[.bool b1,.slice ad1 n1 c1,.slice ae1 m1 d1]),(15,.slice la 0 lc),(14,.bool true),(13,iv ((0:Nat):Int)),(6,iv ((0:Nat):Int)),(12,iv ((0:Nat):Int)),(11,.bool true),(10,iv ((0:Nat):Int)),(9,iv (min n 40)),(4,.slice none 0 0),(2,.pointer (some ⟨g2,0,none⟩))]) hF (aZ hF.o) rfl rfl rfl rfl fun a hF=>?_
    refine E.nil<|wp_exit<|E.past<|E.out (id:=1)<|E.norm<|E.seq<|oV hF (aq (hF.at 11 rfl) ao aa (aO (by omega) (by omega))) rfl fun a hF=>?_
    refine E.opset (L':=[(10,iv (((0:Nat):Int)+1)),(29,iv (((0:Nat):Int)+1)),(5,.slice la11 (0+1) lc12),(19,.slice la11 (0+1) lc12),(18,.slice (some ⟨gl9,0,none⟩) 1 1),(17,.agg #[iv (ar (qt)),iv (au (ar (qt))),iv (smV (ar (qt))%12),iv (smV (au (ar (qt)))%12)]),(16,.agg #[.bool b1,.slice ad1 n1 c1,.slice ae1 m1 d1]),(15,.slice la 0 lc),(14,.bool true),(13,iv ((0:Nat):Int)),(6,iv ((0:Nat):Int)),(12,iv ((0:Nat):Int)),(11,.bool true),(9,iv (min n 40)),(4,.slice none 0 0),(2,.pointer (some ⟨g2,0,none⟩))]) hF (aB hF.o) rfl rfl rfl rfl fun a hF=>?_
    refine E.nil0<|E.norm ?_
    exact⟨(N-(0+1)),by omega,⟨(0+1),la11,lc12,(by omega),hnv2,(by rw[show(((0+1:Nat)):Int)=((0:Nat):Int)+1 from by omega];exact Fr.sub (L':=[(10,iv (((0:Nat):Int)+1)),(9,iv (min n 40)),(5,.slice la11 (0+1) lc12),(4,.slice none 0 0),(2,.pointer (some ⟨g2,0,none⟩))]) hF (by intro p hp;simp only [List.mem_cons,List.not_mem_nil,or_false] at hp ⊢;rcases hp with rfl|rfl|rfl|rfl|rfl <;> simp)),bel,hib,o2,rfl⟩⟩
   ·refine oT hF 0 (aQ (c:=false) (aL hc7)) rfl rfl fun a hF=>E.nil<|wp_cond_false hF.o<|wp_skip<|E.norm ?_
    obtain⟨j,rfl⟩:∃j,i=j+1:=⟨i-1,by omega⟩
    refine E.seq<|oM hF 7 rfl rfl fun a hF=>oM hF 8 rfl rfl fun a hF=>oM hF 4 rfl rfl fun a hF=>oV hF (aq hF.o ao aa (bE (by omega) (by omega))) rfl fun a hF=>?_
    obtain⟨gr,more,ead,_,hgr,orow⟩:=hia.row (by omega)
    subst ead
    have hmj:=hmb (j+1)
    refine oV hF (cf hF.q hF.o (Mz (i:=j) (by omega) (by omega))) rfl fun a hF=>oV hF (av hF.o (i8 (vs:=[iv (moD (ar qt) j),iv (moD (ar qt) (j+1)),iv (smV (moD (ar qt) j)%12),iv (smV (moD (ar qt) (j+1))%12)]) orow (v7 _ _ (by omega)) rfl)) rfl fun a hF=>?_
    refine E.call hF (rk Nw (aD hF.o)) (yq (moD (ar qt) j) (moD (ar qt) (j+1)) (smV (moD (ar qt) j)%12) (smV (moD (ar qt) (j+1))%12) _ (hT.below bel) (by omega) (by omega) (dN (dX qt) _)) rfl rfl rfl rfl ?_
    rintro e w14 ⟨rfl,bb⟩
    refine⟨_,rfl,?_⟩
    intro a hF
    replace hia:=hia.below bb
    replace o2:=o2.below bb
    replace bel:=aC bel bb
    clear bb
    obtain⟨gl15,w16,egl15,hr,bb,ogl15⟩:=DK w14 (moD (ar qt) (j+1)) (au (moD (ar qt) (j+1))) (smV (moD (ar qt) (j+1))%12) (smV (au (moD (ar qt) (j+1)))%12)
    refine oV hF (bQ (eZ hF.o) hr) rfl fun a hF=>?_
    clear hr egl15
    replace hia:=hia.below bb
    replace o2:=o2.below bb
    replace bel:=aC bel bb
    clear bb
    obtain⟨la17,lc18,w19,hr,hib,gg,bb,hne⟩:=Dr hia ogl15 (by omega) bel.size
    refine oV hF (aW (aF (hF.at 7 rfl) hF.o) hr) rfl fun a hF=>?_
    clear hr
    have hmv2:=hne _ o2.lt hnv2
    replace o2:=rK o2 gg (fun e=>hnv2 e.symm)
    replace hnv2:=hmv2
    clear hmv2
    replace bel:=bel.trans bb
    clear bb gg hne
    refine E.opset (L':=[(5,.slice la17 ((j+1)+1) lc18),(28,.slice la17 ((j+1)+1) lc18),(27,.slice (some ⟨gl15,0,none⟩) 1 1),(26,.agg #[iv (moD (ar qt) (j+1)),iv (au (moD (ar qt) (j+1))),iv (smV (moD (ar qt) (j+1))%12),iv (smV (au (moD (ar qt) (j+1)))%12)]),(25,.agg #[iv (moD (ar qt) j),iv (moD (ar qt) (j+1)),iv (smV (moD (ar qt) j)%12),iv (smV (moD (ar qt) (j+1))%12)]),(24,.pointer (some ⟨gr,4*j,none⟩)),(23,iv ((((j+1):Nat):Int)-1)),(22,iv (((j+1):Nat):Int)),(21,.slice (some ⟨gr,0,none⟩) (j+1) lc),(20,.slice (some ⟨gr,0,none⟩) (j+1) lc),(14,.bool false),(13,iv (((j+1):Nat):Int)),(6,iv (((j+1):Nat):Int)),(12,iv (((j+1):Nat):Int)),(11,.bool true),(10,iv (((j+1):Nat):Int)),(9,iv (min n 40)),(4,.slice none 0 0),(2,.pointer (some ⟨g2,0,none⟩))]) hF (aZ hF.o) rfl rfl rfl rfl fun a hF=>?_
    refine E.nil0<|E.blk<|E.norm<|E.seq<|oV hF (aq (hF.at 15 rfl) ao aa (aO (by omega) (by omega))) rfl fun a hF=>?_
    refine E.opset (L':=[(10,iv ((((j+1):Nat):Int)+1)),(29,iv ((((j+1):Nat):Int)+1)),(5,.slice la17 ((j+1)+1) lc18),(28,.slice la17 ((j+1)+1) lc18),(27,.slice (some ⟨gl15,0,none⟩) 1 1),(26,.agg #[iv (moD (ar qt) (j+1)),iv (au (moD (ar qt) (j+1))),iv (smV (moD (ar qt) (j+1))%12),iv (smV (au (moD (ar qt) (j+1)))%12)]),(25,.agg #[iv (moD (ar qt) j),iv (moD (ar qt) (j+1)),iv (smV (moD (ar qt) j)%12),iv (smV (moD (ar qt) (j+1))%12)]),(24,.pointer (some ⟨gr,4*j,none⟩)),(23,iv ((((j+1):Nat):Int)-1)),(22,iv (((j+1):Nat):Int)),(21,.slice (some ⟨gr,0,none⟩) (j+1) lc),(20,.slice (some ⟨gr,0,none⟩) (j+1) lc),(14,.bool false),(13,iv (((j+1):Nat):Int)),(6,iv (((j+1):Nat):Int)),(12,iv (((j+1):Nat):Int)),(11,.bool true),(9,iv (min n 40)),(4,.slice none 0 0),(2,.pointer (some ⟨g2,0,none⟩))]) hF (aB hF.o) rfl rfl rfl rfl fun a hF=>?_
    refine E.nil0<|E.norm ?_
    exact⟨(N-((j+1)+1)),by omega,⟨((j+1)+1),la17,lc18,(by omega),hnv2,(by rw[show((((j+1)+1:Nat)):Int)=(((j+1):Nat):Int)+1 from by omega];exact Fr.sub (L':=[(10,iv ((((j+1):Nat):Int)+1)),(9,iv (min n 40)),(5,.slice la17 ((j+1)+1) lc18),(4,.slice none 0 0),(2,.pointer (some ⟨g2,0,none⟩))]) hF (by intro p hp;simp only [List.mem_cons,List.not_mem_nil,or_false] at hp ⊢;rcases hp with rfl|rfl|rfl|rfl|rfl <;> simp)),bel,hib,o2,rfl⟩⟩
  ·refine wp_seq<|E.seq ?_
   refine oU hF 0 1 (a9 (c:=false) (aL (by omega))) rfl rfl rfl fun a hF=>ns<|wp_cond_false hF.o<|wp_exit<|E.past<|E.past<|E.out (id:=0)<|E.norm<|wq<|oM hF 3 rfl rfl fun a hF=>?_
   refine E.opset (L':=[(4,.slice la i lc),(30,.slice la i lc),(11,.bool false),(10,iv ((i:Nat):Int)),(9,iv (min n 40)),(5,.slice la i lc),(2,.pointer (some ⟨g2,0,none⟩))]) hF (aZ hF.o) rfl rfl rfl rfl fun a hF=>?_
   refine nr<|rt Tryz.results53 hF 0 rfl ?_
   obtain rfl:i=N:=by omega
   exact⟨_,_,rfl,hia,bel⟩
end Go.Proofs.YtddiipaomejcfaaGreatDoor
