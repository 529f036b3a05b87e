import Derived.Test.YtnljadejcfgmaaaGreatDoorKC10
import Derived.Test.YtnljadejcfgmaaaGreatDoorKC26
namespace Go.Proofs.YtnljadejcfgmaaaGreatDoor
open Go.RowKit
set_option maxRecDepth 100000
set_option linter.unusedVariables false
set_option maxHeartbeats 8000000
section
section
def lin (S:Int→Int) (y:Rat):Rat:=(S y.floor:Rat)+(y-(y.floor:Rat))*((S (y.floor+1):Rat)-(S y.floor:Rat))
theorem lin_more {S:Int→Int} {n:Int} (h:∀k,S (k+n)=S k) (y:Rat):lin S (y+(n:Rat))=lin S y:=by
 unfold lin
 rw[Rat.floor_add_intCast,h,show y.floor+n+1=y.floor+1+n by omega,h,Rat.intCast_add]
 grind
theorem up_le {S:Int→Int} (h:∀k,S k≤S (k+1)) {a b:Int} (hab:a≤b):S a≤S b:=by
 obtain⟨n,rfl⟩:∃n:Nat,b=a+n:=⟨(b-a).toNat,by omega⟩
 clear hab
 induction n with
 |zero=>simp
 |succ n ih=>
  have:=h (a+n)
  rw[show a+((n+1:Nat):Int)=a+n+1 by omega]
  omega
theorem cast_le {a b:Int} (h:a≤b):(a:Rat)≤(b:Rat):=Rat.intCast_le_intCast.2 h
theorem lin_low {S:Int→Int} {y:Rat} (h:S y.floor≤S (y.floor+1)):(S y.floor:Rat)≤lin S y:=by
 have h1:=fl_le y
 have h2:=cast_le h
 have:=Rat.mul_nonneg (show 0≤y-(y.floor:Rat) by grind) (show 0≤(S (y.floor+1):Rat)-(S y.floor:Rat) by grind)
 unfold lin;grind
theorem lin_high {S:Int→Int} {y:Rat} (h:S y.floor≤S (y.floor+1)):lin S y≤(S (y.floor+1):Rat):=by
 have h1:=fl_lt y
 have h2:=cast_le h
 have:=Rat.mul_nonneg (show 0≤(y.floor:Rat)+1-y by grind) (show 0≤(S (y.floor+1):Rat)-(S y.floor:Rat) by grind)
 unfold lin;grind
theorem lin_up {S:Int→Int} (h:∀k,S k≤S (k+1)) {y z:Rat} (hyz:y≤z):lin S y≤lin S z:=by
 by_cases e:y.floor=z.floor
 ·have h2:=cast_le (h z.floor)
  have:=Rat.mul_nonneg (show 0≤z-y by grind) (show 0≤(S (z.floor+1):Rat)-(S z.floor:Rat) by grind)
  unfold lin;rw[e];grind
 ·have hm:=Rat.floor_monotone hyz
  have h1:=lin_high (h y.floor)
  have h2:=lin_low (h z.floor)
  have h3:=cast_le (up_le h (show y.floor+1≤z.floor by omega))
  grind
theorem lin_comb (S:Int→Int) (c d:Int) (y:Rat):lin (fun k=>c*k+d*S k) y=(c:Rat)*y+(d:Rat)*lin S y:=by
 unfold lin
 simp only [Rat.intCast_add,Rat.intCast_mul,Rat.intCast_one]
 grind
theorem lin_lip {S:Int→Int} (c:Int) (h:∀k, -c≤S (k+1)-S k∧S (k+1)-S k≤c) {y z:Rat} (hyz:y≤z):(lin S y-lin S z).abs ≤(c:Rat)*(z-y):=by
 have h1:=lin_up (S:=fun k=>c*k+1*S k) (fun k=>by have:=h k;show c*k+1*S k≤c*(k+1)+1*S (k+1);rw[Int.mul_add];omega) hyz
 have h2:=lin_up (S:=fun k=>c*k+(-1)*S k) (fun k=>by have:=h k;show c*k+(-1)*S k≤c*(k+1)+(-1)*S (k+1);rw[Int.mul_add];omega) hyz
 rw[lin_comb,lin_comb] at h1 h2
 rw[Rat.intCast_one] at h1
 rw[Rat.intCast_neg,Rat.intCast_one] at h2
 unfold Rat.abs
 split <;> grind
theorem lin_bd {S:Int→Int} (c:Int) (h:∀k, -c≤S k∧S k≤c) (y:Rat): -(c:Rat)≤lin S y∧lin S y≤(c:Rat):=by
 have a1:=h y.floor
 have a2:=h (y.floor+1)
 have f1:=fl_le y
 have f2:=fl_lt y
 have b1:=cast_le a1.1;have b2:=cast_le a1.2;have b3:=cast_le a2.1;have b4:=cast_le a2.2
 rw[Rat.intCast_neg] at b1 b3
 have m1:=Rat.mul_nonneg (show 0≤(y.floor:Rat)+1-y by grind) (show 0≤(c:Rat)-(S y.floor:Rat) by grind)
 have m2:=Rat.mul_nonneg (show 0≤y-(y.floor:Rat) by grind) (show 0≤(c:Rat)-(S (y.floor+1):Rat) by grind)
 have m3:=Rat.mul_nonneg (show 0≤(y.floor:Rat)+1-y by grind) (show 0≤(S y.floor:Rat)+(c:Rat) by grind)
 have m4:=Rat.mul_nonneg (show 0≤y-(y.floor:Rat) by grind) (show 0≤(S (y.floor+1):Rat)+(c:Rat) by grind)
 unfold lin
 constructor <;> grind
def ykf (h:Rat):Nat→Nat→Nat
 |0,k=>k
 |n+1,k=>if h≤(spk ((k:Int)+1):Rat) then k else ykf h n (k+1)
def yk (h:Rat):Nat:=ykf h 24 0
def ay (h:Rat):Rat:=if yk h<24 then(h-(spk (yk h):Rat))/((spk ((yk h:Nat)+1:Int)-spk (yk h):Int):Rat)+((yk h:Nat):Int) else((24:Int):Rat)
def ap (a:Rat):Rat:=if a<0 then -ay (-a) else ay a
def wd:Rat:=((360:Int):Rat)/((96:Int):Rat)
theorem wd_eq:wd=15/4:=by decide+kernel
def sof (x:Rat):Rat:=lin spk (x/wd)/((3438:Int):Rat)
def arcv (a:Rat):Rat:=ap (a*((3438:Int):Rat))*wd
theorem c3438:((3438:Int):Rat)=3438:=rfl
theorem lin_around (y:Rat) (n:Int):lin spk (y+((96*n:Int):Rat))=lin spk y:=lin_more (fun k=>sp_more k n) y
theorem lin_rmod (y:Rat):lin spk (rmod y ((96:Int):Rat))=lin spk y:=by
 unfold rmod
 rw[if_neg (by decide+kernel)]
 have:=lin_around y (-(y/((96:Int):Rat)).floor)
 rw[←this]
 congr 1
 rw[Rat.intCast_mul,Rat.intCast_neg];grind
theorem sof_eq (x:Rat):(((spk (rmod (x/wd) ((96:Int):Rat)).floor :Int):Rat)+(rmod (x/wd) ((96:Int):Rat)-(((rmod (x/wd) ((96:Int):Rat)).floor :Int):Rat))*((spk ((rmod (x/wd) ((96:Int):Rat)).floor +1)-spk (rmod (x/wd) ((96:Int):Rat)).floor :Int):Rat))/((3438:Int):Rat)=sof x:=by
 unfold sof
 rw[←lin_rmod (x/wd)]
 unfold lin
 rw[Rat.intCast_sub]
theorem div_wd (a b:Rat):(a+b)/wd=a/wd+b/wd:=by rw[wd_eq];grind
theorem sof_turn (p:Rat) (n:Int):sof (p+((360:Int):Rat)*(n:Rat))=sof p:=by
 unfold sof
 rw[div_wd,show((360:Int):Rat)*(n:Rat)/wd=((96*n:Int):Rat) by rw[wd_eq,Rat.intCast_mul,show((360:Int):Rat)=360 from rfl,show((96:Int):Rat)=96 from rfl];grind,lin_around]
theorem sof_bd (p:Rat): -1≤sof p∧sof p≤1:=by
 have:=lin_bd (S:=spk) 3438 sp_bd (p/wd)
 unfold sof
 rw[c3438] at*
 constructor <;> grind
theorem lin_sof (p:Rat):sof p*((3438:Int):Rat)=lin spk (p/wd):=by unfold sof;rw[c3438];grind
theorem abs_le {a b:Rat} (h1: -b≤a) (h2:a≤b):a.abs≤b:=by unfold Rat.abs;split <;> grind
theorem le_abs (a:Rat):a≤a.abs∧ -a≤a.abs∧(a.abs=a∨a.abs= -a):=by unfold Rat.abs;split <;> grind
theorem sof_lip (p q:Rat):(sof p-sof q).abs ≤(p-q).abs *(((60:Int):Rat)/((3438:Int):Rat)):=by
 have key:∀ {p q:Rat},p≤q→ -((q-p)*(60/3438))≤sof p-sof q∧sof p-sof q≤(q-p)*(60/3438):=by
  intro p q h
  have hw:p/wd≤q/wd:=by rw[wd_eq];grind
  have:=lin_lip (S:=spk) 225 sp_step hw
  obtain⟨l1,l2,_⟩:=le_abs (lin spk (p/wd)-lin spk (q/wd))
  have e:((225:Int):Rat)*(q/wd-p/wd)=60*(q-p):=by rw[wd_eq,show((225:Int):Rat)=225 from rfl];grind
  rw[e] at this
  have s1:=lin_sof p
  have s2:=lin_sof q
  rw[c3438] at s1 s2
  constructor <;> grind
 have e:((60:Int):Rat)/((3438:Int):Rat)=60/3438:=by decide+kernel
 rw[e]
 by_cases h:p≤q
 ·obtain⟨a,b⟩:=key h
  have:(p-q).abs =q-p:=by unfold Rat.abs;split <;> grind
  rw[this];exact abs_le a b
 ·obtain⟨a,b⟩:=key (show q≤p by grind)
  have:(p-q).abs =p-q:=by unfold Rat.abs;split <;> grind
  rw[this];exact abs_le (by grind) (by grind)
def pk (x:Rat):Int:=(rmod (x/wd) ((96:Int):Rat)).floor
def pfr (x:Rat):Rat:=rmod (x/wd) ((96:Int):Rat)-((pk x:Int):Rat)
theorem pk_bd (x:Rat):0≤pk x∧pk x<96:=by
 have h:(0:Rat)<((96:Int):Rat):=by decide+kernel
 have h1:=rmod_low (x:=x/wd) h
 have h2:=rmod_high (x:=x/wd) h
 refine⟨Rat.le_floor_iff.2 (by rw[Rat.intCast_zero];exact h1),Rat.floor_lt_iff.2 h2⟩
theorem pk_sm (x:Rat):sm64 (rmod (x/wd) ((96:Int):Rat)).floor =pk x:=sm64_t (by have:=pk_bd x;unfold pk at this;omega) (by have:=pk_bd x;unfold pk at this;omega)
theorem sof_pk (x:Rat):(((spk (pk x):Int):Rat)+pfr x*((spk (pk x+1)-spk (pk x):Int):Rat))/((3438:Int):Rat)=sof x:=sof_eq x
theorem wd_lim:RLim wd 2:=(rlim_mk2 (limz_64 (by decide) (by decide)) (limz_64 (by decide) (by decide))).up 2 (by decide)
theorem lim64 {n:Int} (h0: -9223372036854775808≤n) (h1:n≤9223372036854775807):RLim ((n:Int):Rat) 2:=rlim_int (limz_64 h0 h1) (by decide)
theorem around_lim {x:Rat} {k:Nat} (h:RLim x k):RLim (rmod (x/wd) ((96:Int):Rat)) (2*k+20):=(rmod_lim (rlim_div h wd_lim) (lim64 (by decide) (by decide))).up _ (by omega)
theorem pfr_lim {x:Rat} {k:Nat} (h:RLim x k):RLim (pfr x) (4*k+50):=(frac_lim (around_lim h)).up _ (by omega)
theorem spk64 (k:Int): -9223372036854775808≤spk k∧spk k≤9223372036854775807:=by have:=sp_bd k;omega
theorem dif64 (k:Int): -9223372036854775808≤spk (k+1)-spk k∧spk (k+1)-spk k≤9223372036854775807:=by have:=sp_step k;omega
theorem ay_lim {h:Rat} {k:Nat} (l:RLim h k):RLim (ay h) (k+10):=by
 unfold ay
 split
 ·exact(rlim_add (rlim_div (rlim_sub l (lim64 (spk64 _).1 (spk64 _).2)) (lim64 (dif64 _).1 (dif64 _).2)) (lim64 (by omega) (by omega))).up _ (by omega)
 ·exact(lim64 (by decide) (by decide)).up _ (by omega)
theorem arcv_lim {x:Rat} {k:Nat} (l:RLim x k):RLim (arcv x) (k+20):=by
 have h:=rlim_mul l (lim64 (n:=3438) (by decide) (by decide))
 unfold arcv ap
 refine(rlim_mul (k:=k+12) ?_ wd_lim).up _ (by omega)
 split
 ·exact rlim_neg (ay_lim (rlim_neg h))
 ·exact ay_lim h
theorem hiv_spk {k:Int} (h0:0≤k) (h1:k≤24):hiT.getD (max 0 (min k 24)).toNat 0=spk k:=by
 have t:∀n:Nat,n<25→hiT.getD (max 0 (min (n:Int) 24)).toNat 0=spk (n:Int):=by decide+kernel
 have:=t k.toNat (by omega)
 rwa[show((k.toNat:Nat):Int)=k by omega] at this
theorem qc_pos {a b:Rat}:0<qc a b↔b<a:=by
 rw[qc_def]
 split
 ·constructor
  ·intro h;omega
  ·intro h;grind
 ·split
  ·constructor
   ·intro;assumption
   ·intro;omega
  ·constructor
   ·intro h;omega
   ·intro h;contradiction
theorem yk_next {h:Rat} {j:Nat} (hj:j<24) (e:ykf h (24-j) j=yk h) (hc:0<qc h ((spk (((j:Nat):Int)+1):Int):Rat)):ykf h (24-(j+1)) (j+1)=yk h:=by
 rw[←e,show 24-j=(24-(j+1))+1 by omega]
 show _=if h≤_ then _ else _
 have:=qc_pos.1 hc
 rw[if_neg (by grind)]
theorem yk_here {h:Rat} {j:Nat} (hj:j<24) (e:ykf h (24-j) j=yk h) (hc:¬0<qc h ((spk (((j:Nat):Int)+1):Int):Rat)):yk h=j:=by
 rw[←e,show 24-j=(24-(j+1))+1 by omega]
 show(if h≤_ then _ else _)=_
 have:¬_<_:=fun q=>hc (qc_pos.2 q)
 rw[if_pos (by grind)]
theorem arc_here {x:Rat} {j:Nat} (hx:¬x<0) (hj:j<24) (e:yk (x*((3438:Int):Rat))=j):((x*((3438:Int):Rat)-((spk ((j:Nat):Int):Int):Rat))/((spk (((j:Nat):Int)+1)-spk ((j:Nat):Int):Int):Rat)+((((j:Nat):Int):Int):Rat))*wd=arcv x:=by
 unfold arcv ap
 rw[if_neg (by rw[c3438];grind)]
 unfold ay
 rw[e,if_pos hj]
theorem arc_end {x:Rat} (hx:¬x<0) (e:yk (x*((3438:Int):Rat))=24):((90:Int):Rat)=arcv x:=by
 unfold arcv ap
 rw[if_neg (by rw[c3438];grind)]
 unfold ay
 rw[e,if_neg (by decide)]
 decide+kernel
theorem arc_neg {x:Rat} (hx:x<0): -(arcv (-x))=arcv x:=by
 unfold arcv ap
 rw[if_neg (by rw[c3438];grind),if_pos (by rw[c3438];grind),show -x*((3438:Int):Rat)= -(x*((3438:Int):Rat)) by grind]
 grind
theorem sz_lt0 {q:Rat}:sz q.num<0↔q<0:=by
 rw[sz_def]
 split
 ·constructor <;> intro <;> first|assumption|omega
 ·split
  ·constructor <;> intro <;> first|contradiction|omega
  ·constructor <;> intro <;> first|contradiction|omega
theorem neg_not {q:Rat} (h:q<0):¬sz (-q).num <0:=by
 rw[sz_lt0];grind
def PlacePost (w:World) (x:Rat):Ending→World→Prop:=fun e w'=>∃v,e= .returned (.tuple #[.int .i64 (pk x),v])∧Rq w' v (pfr x)∧Below w.heap.size w w'
theorem rv_iv {a b:Int} {v:Value} (h:a=b):Ending.returned (.tuple #[.int .i64 a,v])= .returned (.tuple #[.int .i64 b,v]):=by rw[h]
theorem res_tmpcell {P:Program} {fn:Func} {a:Act} {w:World} {t u:Tmp} {T:TypeId} {p:Addr} {v x:Value} (h:fn.results=#[.tmp t,.cell u T]) (hx:a.tmps.getD t undef=x) (ha:a.tmps.getD u undef= .pointer (some p)) (hl:(Instr.loadAt T (.pointer (some p))).run P w= .ok v w):
 (results fn a.tmps).run P w= .ok (.tuple #[x,v]) w:=by
 have hl':(loadVar T p).run P w= .ok v w:=hl
 have e:(asAddr (a.tmps.getD u undef)).run P w= .ok p w:=by rw[ha];rfl
 simp only [results,h,List.mapM_toArray,List.mapM_cons,List.mapM_nil,Sem.run_bind,e,Result.andThen_ok,hl',Sem.run_pure,Sem.run_map,hx]
 rfl
end
section
theorem high_spk (k:Int) (w:World) (hT:TabD w) (h0:0≤k) (h1:k≤24):Calls Tryz.prog 247 #[.int .i64 k] w (ValPost w (.int .i64 (spk k))):=by
 have:=high_any k w hT
 rwa[show hiv k=spk k from hiv_spk h0 h1] at this
theorem width_any (w:World):
 Calls Tryz.prog 248 #[] w (RqPost w wd):=by
 have st:=St.start w
 refine E.enter (nt:=2) (L:=[]) Tryz.func248 rfl rfl rfl args_nil ?_
 intro a hF
 refine wp_seq ?_
 refine E.seq ?_
 refine S.alloc st hF ty_Rat rfl rfl fun g0 w1 a st hF=>?_
 refine E.nil ?_
 refine wp_seq ?_
 refine E.seq ?_
 refine S.ck st hF (rgc k35 (map2 ev_c ev_c)) (rq_ret (rOf2_any (360) (96) _ (by decide) (by decide) (by decide) (by decide)) (RLim.up (rlim_mk2 (limz_64 (by decide) (by decide)) (limz_64 (by decide) (by decide))) 2 (by decide))) Rl.cl rfl fun vv3 w2 a st hF=>?_
 obtain⟨b5,ad5,n5,c5,ae5,m5,d5,rfl⟩:=Rq.form (st.f 0 rfl).1
 refine S.sto st hF 0 rfl (hF.at 1 rfl) (hF.at 0 rfl) ty_Rat rfl rfl rfl rfl fun w6 a st hF=>?_
 refine E.nil ?_
 refine wp_ret ?_
 refine S.ret Tryz.results248 st hF (hF.at 1 rfl) 0 rfl ty_Rat rfl hF.dfr ?_
 have bel:=st.bel
 exact⟨_,rfl,(st.f 0 rfl).1,bel⟩
theorem rise_any (k:Int) (w:World) (hT:TabD w) (h0: -1000000≤k) (h1:k≤1000000):
 Calls Tryz.prog 246 #[.int .i64 k] w (ValPost w (.int .i64 (spk (k+1)-spk k))):=by
 have hsa:=sp_bd k
 have hsb:=sp_bd (k+1)
 have st:=St.start w
 refine E.enter (nt:=9) (L:=[(0,.int .i64 k)]) Tryz.func246 rfl rfl rfl (args_cons (i:=0) rfl args_nil) ?_
 intro a hF
 refine wp_seq ?_
 refine E.seq ?_
 refine E.opv hF (r_assign ev_c) rfl rfl rfl rfl fun a hF=>?_
 refine E.nil ?_
 refine wp_seq ?_
 refine E.seq ?_
 refine E.opv hF (r_move (hF.at 1 rfl)) rfl rfl rfl rfl fun a hF=>?_
 refine E.opv hF (r_bin (hF.at 0 rfl) ev_c eg_scalar (ia_add (by omega) (by omega))) rfl rfl rfl rfl fun a hF=>?_
 refine S.callx st hF (rgc k245 (map1 (hF.at 0 rfl))) (dsine_any (k+1) _ (hT.below st.bel)) rfl rfl rfl rfl fun w1 a st hF=>?_
 refine E.opv hF (r_move (hF.at 4 rfl)) rfl rfl rfl rfl fun a hF=>?_
 refine S.callx st hF (rgc k245 (map1 (hF.at 0 rfl))) (dsine_any k _ (hT.below st.bel)) rfl rfl rfl rfl fun w2 a st hF=>?_
 refine E.opv hF (r_bin (hF.at 2 rfl) (hF.at 0 rfl) eg_scalar (ia_sub (by omega) (by omega))) rfl rfl rfl rfl fun a hF=>?_
 refine E.opset (L':=[(2,.int .i64 ((spk (k+1))-(spk k))),(8,.int .i64 ((spk (k+1))-(spk k))),(7,.int .i64 (spk k)),(6,.int .i64 k),(5,.int .i64 (spk (k+1))),(4,.int .i64 (k+1)),(3,.int .i64 k),(0,.int .i64 k)]) hF (r_assign (hF.at 0 rfl)) rfl rfl rfl rfl fun a hF=>?_
 refine E.nil ?_
 refine wp_ret ?_
 have bel:=st.bel
 refine bodyPost_ret (res_tmp Tryz.results246 (hF.at 0 rfl)) hF.dfr ?_
 exact⟨rfl,bel⟩
theorem place_any (v1:Value) (qx:Rat) (k:Nat) (w:World) (h1:Rq w v1 qx) (hl:RLim qx k) (hk:k≤900):
 Calls Tryz.prog 244 #[v1] w (PlacePost w qx):=by
 have st:=St.start w
 refine E.enter (nt:=20) (L:=[(0,v1)]) Tryz.func244 rfl rfl rfl (args_cons (i:=0) rfl args_nil) ?_
 intro a hF
 refine wp_seq ?_
 refine E.seq ?_
 obtain⟨b2,ad2,n2,c2,ae2,m2,d2,rfl⟩:=Rq.form h1
 refine S.box st hF (hF.at 0 rfl) rfl rfl fun g1 w1 a st hF=>?_
 refine E.opv hF (r_assign ev_c) rfl rfl rfl rfl fun a hF=>?_
 refine S.alloc st hF ty_Rat rfl rfl fun g3 w3 a st hF=>?_
 refine E.nil ?_
 refine wp_seq ?_
 refine E.rga 6 mixed hF [7,8,9,10,11,4] [_,_,_,_,_,kn w3 [.bool false,.slice none 0 0,.slice none 0 0]] [5] ⟨fun _ _ ⟨g,e,_,o⟩=>⟨g,e,o.lt⟩,trivial⟩ (by decide+kernel) rfl rfl rfl ⟨rb st ty_Rat 2 1 rfl,ck st k248 rfl fun _ s=>rq_ret (width_any _) wd_lim,ck st k75 rfl fun _ s _ x8=>qDiv ⟨(h1.below s.bel),hl⟩ x8,ck st k40 rfl fun _ s=>rq_ret (rWhole_any (96) _ (by decide) (by decide)) (rlim_int (limz_64 (by decide) (by decide)) (by omega)),ck st k220 rfl fun _ s _ x9 _ x10=>qMod x9 x10,ra ty_Rat rfl rfl,trivial⟩ ?_
 intro a w4 hF bb hall hne
 have s0:=st
 replace st:=st.to bb
 obtain⟨vv5,hF,st⟩:=rS hall hF st 4 rfl rfl Rl.cl
 obtain⟨b7,ad7,n7,c7,ae7,m7,d7,rfl⟩:=Rq.form (st.f 0 rfl).1
 obtain⟨_,e4,g4,rfl,ge4,o4⟩:=sS hall 5 4 rfl rfl
 replace st:=st.push o4.blk (Nat.le_trans s0.bel.size ge4) (s0.ne ge4)
 clear o4
 replace hF:=hF.add e4
 clear hall bb hne s0
 refine S.sto st hF 0 rfl (hF.at 0 rfl) (hF.at 1 rfl) ty_Rat rfl rfl rfl rfl fun w8 a st hF=>?_
 refine E.nil ?_
 refine wp_seq ?_
 refine E.seq ?_
 refine E.opv hF (r_load (hF.at 0 rfl) (ld_all ty_Rat (st.bk 0 rfl) rfl)) rfl rfl rfl rfl fun a hF=>?_
 refine S.callx st hF (rgc k89 (map1 (hF.at 0 rfl))) (cDays_any _ _ ((k+2)+(k+2)+2+2+3) _ (st.f 0 rfl).1 (st.f 0 rfl).2 (by omega)) rfl rfl rfl rfl fun w9 a st hF=>?_
 refine E.opv hF (r_move (hF.at 0 rfl)) rfl rfl rfl rfl fun a hF=>?_
 refine E.opv hF (r_extract (v:= .int .i64 (sm64 (Rat.floor (rmod ((qx)/(wd)) (((96:Int):Rat)))))) (hF.at 0 rfl) rfl) rfl rfl rfl rfl fun a hF=>?_
 refine E.opv hF (r_extract (v:= .bool (fit64 (Rat.floor (rmod ((qx)/(wd)) (((96:Int):Rat)))))) (hF.at 1 rfl) rfl) rfl rfl rfl rfl fun a hF=>?_
 refine E.opv hF (r_assign (hF.at 1 rfl)) rfl rfl rfl rfl fun a hF=>?_
 refine E.opv hF (r_assign (hF.at 1 rfl)) rfl rfl rfl rfl fun a hF=>?_
 refine E.nil ?_
 refine wp_seq ?_
 refine E.seq ?_
 refine E.opv hF (r_move (hF.at 1 rfl)) rfl rfl rfl rfl fun a hF=>?_
 refine E.opv hF (r_load (hF.at 8 rfl) (ld_all ty_Rat (st.bk 0 rfl) rfl)) rfl rfl rfl rfl fun a hF=>?_
 refine S.ck st hF (rgc k221 (map1 (hF.at 0 rfl))) (qFrac (st.f 0 rfl)) Rl.cl rfl fun vv11 w10 a st hF=>?_
 obtain⟨b13,ad13,n13,c13,ae13,m13,d13,rfl⟩:=Rq.form (st.f 0 rfl).1
 refine E.opset (L':=[(2,.int .i64 (sm64 (Rat.floor (rmod ((qx)/(wd)) (((96:Int):Rat)))))),(19,.agg #[.bool b13,.slice ad13 n13 c13,.slice ae13 m13 d13]),(18,.agg #[.bool b7,.slice ad7 n7 c7,.slice ae7 m7 d7]),(17,.int .i64 (sm64 (Rat.floor (rmod ((qx)/(wd)) (((96:Int):Rat)))))),(6,.bool (fit64 (Rat.floor (rmod ((qx)/(wd)) (((96:Int):Rat)))))),(5,.int .i64 (sm64 (Rat.floor (rmod ((qx)/(wd)) (((96:Int):Rat)))))),(16,.bool (fit64 (Rat.floor (rmod ((qx)/(wd)) (((96:Int):Rat)))))),(15,.int .i64 (sm64 (Rat.floor (rmod ((qx)/(wd)) (((96:Int):Rat)))))),(12,.tuple #[.int .i64 (sm64 (Rat.floor (rmod ((qx)/(wd)) (((96:Int):Rat))))),.bool (fit64 (Rat.floor (rmod ((qx)/(wd)) (((96:Int):Rat)))))]),(14,.tuple #[.int .i64 (sm64 (Rat.floor (rmod ((qx)/(wd)) (((96:Int):Rat))))),.bool (fit64 (Rat.floor (rmod ((qx)/(wd)) (((96:Int):Rat)))))]),(13,.agg #[.bool b7,.slice ad7 n7 c7,.slice ae7 m7 d7]),(4,.pointer (some ⟨g4,0,none⟩)),(11,.agg #[.bool b7,.slice ad7 n7 c7,.slice ae7 m7 d7]),(3,.pointer (some ⟨g3,0,none⟩)),(1,.pointer (some ⟨g1,0,none⟩)),(0,.agg #[.bool b2,.slice ad2 n2 c2,.slice ae2 m2 d2])]) hF (r_assign (hF.at 2 rfl)) rfl rfl rfl rfl fun a hF=>?_
 refine S.sto st hF 1 rfl (hF.at 13 rfl) (hF.at 1 rfl) ty_Rat rfl rfl rfl rfl fun w14 a st hF=>?_
 refine E.nil ?_
 refine wp_ret ?_
 have bel:=st.bel
 refine bodyPost_ret (res_tmpcell Tryz.results244 (hF.at 0 rfl) (hF.at 13 rfl) (ld_all ty_Rat (st.bk 1 rfl) rfl)) hF.dfr ?_
 exact⟨_,rv_iv (pk_sm qx),(st.f 0 rfl).1,bel⟩
theorem sof_any (v1:Value) (qx:Rat) (k:Nat) (w:World) (hT:TabD w) (h1:Rq w v1 qx) (hl:RLim qx k) (hk:k≤800):
 Calls Tryz.prog 223 #[v1] w (RqPost w (sof qx)):=by
 have st:=St.start w
 refine E.enter (nt:=23) (L:=[(0,v1)]) Tryz.func223 rfl rfl rfl (args_cons (i:=0) rfl args_nil) ?_
 intro a hF
 refine wp_seq ?_
 refine E.seq ?_
 obtain⟨b2,ad2,n2,c2,ae2,m2,d2,rfl⟩:=Rq.form h1
 refine S.box st hF (hF.at 0 rfl) rfl rfl fun g1 w1 a st hF=>?_
 refine S.alloc st hF ty_Rat rfl rfl fun g2 w3 a st hF=>?_
 refine E.nil ?_
 refine wp_seq ?_
 refine E.seq ?_
 refine E.opv hF (r_load (hF.at 1 rfl) (ld_all ty_Rat (st.bk 1 rfl) rfl)) rfl rfl rfl rfl fun a hF=>?_
 refine S.callt st hF (rgc k244 (map1 (hF.at 0 rfl))) (place_any _ (qx) k _ (h1.below st.bel) hl (by omega)) (fun _ _ h=>h) Rq.cl rfl rfl rfl rfl fun vv5 w4 a st hF=>?_
 have hpk:=pk_bd (qx)
 obtain⟨b7,ad7,n7,c7,ae7,m7,d7,rfl⟩:=Rq.form (st.f 0 rfl)
 refine E.opv hF (r_move (hF.at 0 rfl)) rfl rfl rfl rfl fun a hF=>?_
 refine E.opv hF (r_extract (v:= .int .i64 (pk (qx))) (hF.at 0 rfl) rfl) rfl rfl rfl rfl fun a hF=>?_
 refine E.opv hF (r_extract (v:= .agg #[.bool b7,.slice ad7 n7 c7,.slice ae7 m7 d7]) (hF.at 1 rfl) rfl) rfl rfl rfl rfl fun a hF=>?_
 refine S.alloc st hF ty_Rat rfl rfl fun g4 w8 a st hF=>?_
 refine E.opv hF (r_assign (hF.at 2 rfl)) rfl rfl rfl rfl fun a hF=>?_
 refine S.sto st hF 0 rfl (hF.at 1 rfl) (hF.at 2 rfl) ty_Rat rfl rfl rfl rfl fun w9 a st hF=>?_
 refine E.nil ?_
 refine wp_seq ?_
 refine E.rga 10 mixed hF [11,12,13,14,15,16,17,18,19,5] [_,_,_,_,_,_,_,_,_,kn w9 [.bool false,.slice none 0 0,.slice none 0 0]] [9] ⟨fun _ _ ⟨g,e,_,o⟩=>⟨g,e,o.lt⟩,trivial⟩ (by decide+kernel) rfl rfl rfl ⟨rm 0 rfl,ck st k245 rfl fun _ s=>ex_ret (dsine_any (pk (qx)) _ (hT.below s.bel)),ck st k40 rfl fun _ s=>rq_ret (rWhole_any (spk (pk (qx))) _ (spk64 (pk (qx))).1 (spk64 (pk (qx))).2) (rlim_int (limz_64 (spk64 (pk (qx))).1 (spk64 (pk (qx))).2) (by omega)),rb st ty_Rat 1 0 rfl,rm 0 rfl,ck st k246 rfl fun _ s=>ex_ret (rise_any (pk (qx)) _ (hT.below s.bel) (by omega) (by omega)),ck st k40 rfl fun _ s=>rq_ret (rWhole_any (spk (pk (qx)+1)-spk (pk (qx))) _ (dif64 (pk (qx))).1 (dif64 (pk (qx))).2) (rlim_int (limz_64 (dif64 (pk (qx))).1 (dif64 (pk (qx))).2) (by omega)),ck st k58 rfl fun _ s _ x17=>qMul ⟨(s.f 0 rfl),(pfr_lim hl)⟩ x17,ck st k56 rfl fun _ s _ x13 _ x18=>qAdd x13 x18,ra ty_Rat rfl rfl,trivial⟩ ?_
 intro a w10 hF bb hall hne
 have s0:=st
 replace st:=st.to bb
 obtain⟨vv11,hF,st⟩:=rS hall hF st 8 rfl rfl Rl.cl
 obtain⟨b13,ad13,n13,c13,ae13,m13,d13,rfl⟩:=Rq.form (st.f 0 rfl).1
 obtain⟨_,e5,g5,rfl,ge5,o5⟩:=sS hall 9 5 rfl rfl
 replace st:=st.push o5.blk (Nat.le_trans s0.bel.size ge5) (s0.ne ge5)
 clear o5
 replace hF:=hF.add e5
 clear hall bb hne s0
 refine S.sto st hF 0 rfl (hF.at 0 rfl) (hF.at 1 rfl) ty_Rat rfl rfl rfl rfl fun w14 a st hF=>?_
 refine E.nil ?_
 refine wp_seq ?_
 refine E.rg 3 mixed hF [20,21,22] [_,_,_] (by decide+kernel) rfl rfl rfl ⟨rb st ty_Rat 0 0 rfl,ck st k40 rfl fun _ s=>rq_ret (rWhole_any (3438) _ (by decide) (by decide)) (rlim_int (limz_64 (by decide) (by decide)) (by omega)),ck st k75 rfl fun _ s _ x21=>qDiv (s.f 0 rfl) x21,trivial⟩ ?_
 intro a w15 hF bb hall
 replace st:=st.to bb
 obtain⟨vv16,hF,st⟩:=rS hall hF st 2 rfl rfl Rl.cl
 obtain⟨b18,ad18,n18,c18,ae18,m18,d18,rfl⟩:=Rq.form (st.f 0 rfl).1
 clear hall bb
 refine S.sto st hF 2 rfl (hF.at 10 rfl) (hF.at 0 rfl) ty_Rat rfl rfl rfl rfl fun w19 a st hF=>?_
 refine E.nil ?_
 refine wp_ret ?_
 refine S.ret Tryz.results223 st hF (hF.at 10 rfl) 2 rfl ty_Rat rfl hF.dfr ?_
 have bel:=st.bel
 exact⟨_,rfl,Rq.castM (st.f 0 rfl).1 (sof_pk qx),bel⟩
theorem arc_pos (v1:Value) (qx:Rat) (k:Nat) (w:World) (hT:TabD w) (h1:Rq w v1 qx) (hl:RLim qx k) (hk:k≤1000) (hn:¬sz (Rat.num qx)<0):
 Calls Tryz.prog 225 #[v1] w (RqPost w (arcv qx)):=by
 have hx:¬qx<0:=fun e=>hn (sz_lt0.2 e)
 have st:=St.start w
 refine E.enter (nt:=45) (L:=[(0,v1)]) Tryz.func225 rfl rfl rfl (args_cons (i:=0) rfl args_nil) ?_
 intro a hF
 refine wp_seq ?_
 refine E.seq ?_
 obtain⟨b2,ad2,n2,c2,ae2,m2,d2,rfl⟩:=Rq.form h1
 refine S.box st hF (hF.at 0 rfl) rfl rfl fun g1 w1 a st hF=>?_
 refine S.alloc st hF ty_Rat rfl rfl fun g2 w3 a st hF=>?_
 refine E.nil ?_
 refine wp_seq ?_
 refine wp_seq ?_
 refine E.seq ?_
 refine E.opv hF (r_load (hF.at 1 rfl) (ld_all ty_Rat (st.bk 1 rfl) rfl)) rfl rfl rfl rfl fun a hF=>?_
 refine S.callx st hF (rgc k141 (map1 (hF.at 0 rfl))) (rsgn_any _ (qx) _ (h1.below st.bel)) rfl rfl rfl rfl fun w4 a st hF=>?_
 refine E.opv hF (r_bin (hF.at 0 rfl) ev_c eg_scalar (bi_int (ic_lss (c:=false) (dec_ff hn)) (by simp))) rfl rfl rfl rfl fun a hF=>?_
 refine E.nil ?_
 refine wp_cond_false (hF.at 0 rfl) ?_
 refine wp_skip ?_
 refine E.norm ?_
 refine wp_seq ?_
 refine E.rga 4 mixed hF [14,15,16,3] [_,_,_,kn w4 [.bool false,.slice none 0 0,.slice none 0 0]] [3] ⟨fun _ _ ⟨g,e,_,o⟩=>⟨g,e,o.lt⟩,trivial⟩ (by decide+kernel) rfl rfl rfl ⟨rb st ty_Rat 4 1 rfl,ck st k40 rfl fun _ s=>rq_ret (rWhole_any (3438) _ (by decide) (by decide)) (rlim_int (limz_64 (by decide) (by decide)) (by omega)),ck st k58 rfl fun _ s _ x15=>qMul ⟨(h1.below s.bel),hl⟩ x15,ra ty_Rat rfl rfl,trivial⟩ ?_
 intro a w5 hF bb hall hne
 have s0:=st
 replace st:=st.to bb
 obtain⟨vv6,hF,st⟩:=rS hall hF st 2 rfl rfl Rl.cl
 obtain⟨b8,ad8,n8,c8,ae8,m8,d8,rfl⟩:=Rq.form (st.f 0 rfl).1
 obtain⟨_,e3,g3,rfl,ge3,o3⟩:=sS hall 3 3 rfl rfl
 replace st:=st.push o3.blk (Nat.le_trans s0.bel.size ge3) (s0.ne ge3)
 clear o3
 replace hF:=hF.add e3
 clear hall bb hne s0
 refine S.sto st hF 0 rfl (hF.at 0 rfl) (hF.at 1 rfl) ty_Rat rfl rfl rfl rfl fun w9 a st hF=>?_
 refine E.nil ?_
 refine wp_seq ?_
 refine wp_seq ?_
 refine E.seq ?_
 refine E.opv hF (r_move ev_c) rfl rfl rfl rfl fun a hF=>?_
 refine E.nil ?_
 refine wp_block ?_
 refine E.loop (fun mq a wv=>∃(j:Nat),j≤24∧ykf (qx*((3438:Int):Rat)) (24-j) j=yk (qx*((3438:Int):Rat))∧Fr 45 a [(17,.int .i64 ((j:Nat):Int)),(3,.pointer (some ⟨g3,0,none⟩)),(2,.pointer (some ⟨g2,0,none⟩))]∧St w wv [(g3,[.bool b8,.slice ad8 n8 c8,.slice ae8 m8 d8]),(g2,[.bool false,.slice none 0 0,.slice none 0 0])] [fun w=>Rq w (.agg #[.bool false,.slice none 0 0,.slice none 0 0]) 0,fun w=>Rl ((qx)*(((3438:Int):Rat))) ((k+2)) w (.agg #[.bool b8,.slice ad8 n8 c8,.slice ae8 m8 d8])]∧mq=24-j) (24-0) ?_ ?_
 ·exact⟨0,(by omega),rfl,Fr.pick (L':=[(17,.int .i64 0),(3,.pointer (some ⟨g3,0,none⟩)),(2,.pointer (some ⟨g2,0,none⟩))]) hF [0,1,6] rfl,(st.add (Rq.zero _) (Rq.cl _)).pick [0,1] [0,1] rfl rfl (by decide),rfl⟩
 ·rintro mq a w10 ⟨j,hj,hyk,hF,st,hm⟩
  by_cases hjn:j<24
  ·refine wp_seq ?_
   refine E.seq ?_
   refine E.opv hF (r_bin (hF.at 0 rfl) ev_c eg_scalar (bi_int (ic_lss (c:=true) (dec_tt (by omega))) (by simp))) rfl rfl rfl rfl fun a hF=>?_
   refine E.nil ?_
   refine wp_seq ?_
   refine wp_cond_true (hF.at 0 rfl) ?_
   refine wp_skip ?_
   refine E.norm ?_
   refine wp_seq ?_
   refine wp_block ?_
   refine wp_seq ?_
   refine E.seq ?_
   refine E.opv hF (r_move (hF.at 1 rfl)) rfl rfl rfl rfl fun a hF=>?_
   refine E.opv hF (r_assign (hF.at 0 rfl)) rfl rfl rfl rfl fun a hF=>?_
   refine E.nil ?_
   refine wp_seq ?_
   refine wp_seq ?_
   by_cases hc11:0<qc ((qx)*(((3438:Int):Rat))) (((spk (((j:Nat):Int)+1):Int):Rat))
   ·refine E.rg 7 mixed hF [20,21,22,23,24,25,26] [_,_,.ex (.int .i64 (((j:Nat):Int)+1)),_,_,_,.ex (.bool true)] (by decide+kernel) rfl rfl rfl ⟨rb st ty_Rat 4 0 rfl,rm 0 rfl,(by intro a' w' hF' hb hd;have e21:=sHe hd 0 21 rfl rfl rfl rfl;exact dv0 (r_bin e21 ev_c eg_scalar (ia_add (by omega) (by omega))) rfl rfl rfl),ck st k247 rfl fun _ s=>ex_ret (high_spk (((j:Nat):Int)+1) _ (hT.below s.bel) (by omega) (by omega)),ck st k40 rfl fun _ s=>rq_ret (rWhole_any (spk (((j:Nat):Int)+1)) _ (spk64 (((j:Nat):Int)+1)).1 (spk64 (((j:Nat):Int)+1)).2) (rlim_int (limz_64 (spk64 (((j:Nat):Int)+1)).1 (spk64 (((j:Nat):Int)+1)).2) (by omega)),ck st k30 rfl fun _ s _ x24=>ex_ret (rCmp_any _ _ ((qx)*(((3438:Int):Rat))) (((spk (((j:Nat):Int)+1):Int):Rat)) (max (k+2) 2) _ (s.f 1 rfl).1 x24.1 ((s.f 1 rfl).2.up _ (by omega)) (x24.2.up _ (by omega)) (by omega)),(by intro a' w' hF' hb hd;have e25:=sHe hd 0 25 rfl rfl rfl rfl;exact dv0 (r_bin e25 ev_c eg_scalar (bi_int (ic_gtr (c:=true) (dec_tt hc11)) (by simp))) rfl rfl rfl),trivial⟩ ?_
    intro a w12 hF bb hall
    replace st:=st.to bb
    replace hF:=rE hall hF 6 rfl rfl
    clear hall bb
    refine E.nil ?_
    refine wp_cond_true (hF.at 0 rfl) ?_
    refine wp_exit ?_
    refine E.past ?_
    refine E.out (id:=1) ?_
    refine E.norm ?_
    refine E.seq ?_
    refine E.opv hF (r_bin (hF.at 4 rfl) ev_c eg_scalar (ia_add (by omega) (by omega))) rfl rfl rfl rfl fun a hF=>?_
    refine E.opset (L':=[(17,.int .i64 (((j:Nat):Int)+1)),(43,.int .i64 (((j:Nat):Int)+1)),(26,.bool true),(4,.int .i64 ((j:Nat):Int)),(19,.int .i64 ((j:Nat):Int)),(18,.bool true),(3,.pointer (some ⟨g3,0,none⟩)),(2,.pointer (some ⟨g2,0,none⟩))]) hF (r_move (hF.at 0 rfl)) rfl rfl rfl rfl fun a hF=>?_
    refine E.nil0 ?_
    refine E.norm ?_
    exact⟨24-(j+1),by omega,⟨(j+1),(by omega),(yk_next (by omega) hyk hc11),(by rw[show((j+1:Nat):Int)=((j:Nat):Int)+1 from by omega];exact Fr.pick (L':=[(17,.int .i64 (((j:Nat):Int)+1)),(3,.pointer (some ⟨g3,0,none⟩)),(2,.pointer (some ⟨g2,0,none⟩))]) hF [0,6,7] rfl),(st.add (st.f 0 rfl) (Rq.cl _)).pick [0,1] [0,2] rfl rfl (by decide),rfl⟩⟩
   ·refine E.rg 7 mixed hF [20,21,22,23,24,25,26] [_,_,.ex (.int .i64 (((j:Nat):Int)+1)),_,_,_,.ex (.bool false)] (by decide+kernel) rfl rfl rfl ⟨rb st ty_Rat 4 0 rfl,rm 0 rfl,(by intro a' w' hF' hb hd;have e21:=sHe hd 0 21 rfl rfl rfl rfl;exact dv0 (r_bin e21 ev_c eg_scalar (ia_add (by omega) (by omega))) rfl rfl rfl),ck st k247 rfl fun _ s=>ex_ret (high_spk (((j:Nat):Int)+1) _ (hT.below s.bel) (by omega) (by omega)),ck st k40 rfl fun _ s=>rq_ret (rWhole_any (spk (((j:Nat):Int)+1)) _ (spk64 (((j:Nat):Int)+1)).1 (spk64 (((j:Nat):Int)+1)).2) (rlim_int (limz_64 (spk64 (((j:Nat):Int)+1)).1 (spk64 (((j:Nat):Int)+1)).2) (by omega)),ck st k30 rfl fun _ s _ x24=>ex_ret (rCmp_any _ _ ((qx)*(((3438:Int):Rat))) (((spk (((j:Nat):Int)+1):Int):Rat)) (max (k+2) 2) _ (s.f 1 rfl).1 x24.1 ((s.f 1 rfl).2.up _ (by omega)) (x24.2.up _ (by omega)) (by omega)),(by intro a' w' hF' hb hd;have e25:=sHe hd 0 25 rfl rfl rfl rfl;exact dv0 (r_bin e25 ev_c eg_scalar (bi_int (ic_gtr (c:=false) (dec_ff hc11)) (by simp))) rfl rfl rfl),trivial⟩ ?_
    intro a w13 hF bb hall
    replace st:=st.to bb
    replace hF:=rE hall hF 6 rfl rfl
    clear hall bb
    refine E.nil ?_
    refine wp_cond_false (hF.at 0 rfl) ?_
    refine wp_skip ?_
    refine E.norm ?_
    refine wp_seq ?_
    refine E.rga 6 mixed hF [27,28,29,30,31,5] [_,_,_,_,_,kn w13 [.bool false,.slice none 0 0,.slice none 0 0]] [5] ⟨fun _ _ ⟨g,e,_,o⟩=>⟨g,e,o.lt⟩,trivial⟩ (by decide+kernel) rfl rfl rfl ⟨rb st ty_Rat 5 0 rfl,rm 1 rfl,ck st k247 rfl fun _ s=>ex_ret (high_spk ((j:Nat):Int) _ (hT.below s.bel) (by omega) (by omega)),ck st k40 rfl fun _ s=>rq_ret (rWhole_any (spk ((j:Nat):Int)) _ (spk64 ((j:Nat):Int)).1 (spk64 ((j:Nat):Int)).2) (rlim_int (limz_64 (spk64 ((j:Nat):Int)).1 (spk64 ((j:Nat):Int)).2) (by omega)),ck st k57 rfl fun _ s _ x30=>qSub (s.f 1 rfl) x30,ra ty_Rat rfl rfl,trivial⟩ ?_
    intro a w14 hF bb hall hne
    have s0:=st
    replace st:=st.to bb
    obtain⟨vv15,hF,st⟩:=rS hall hF st 4 rfl rfl Rl.cl
    obtain⟨b17,ad17,n17,c17,ae17,m17,d17,rfl⟩:=Rq.form (st.f 0 rfl).1
    obtain⟨_,e5,g5,rfl,ge5,o5⟩:=sS hall 5 5 rfl rfl
    replace st:=st.push o5.blk (Nat.le_trans s0.bel.size ge5) (s0.ne ge5)
    clear o5
    replace hF:=hF.add e5
    clear hall bb hne s0
    refine S.sto st hF 0 rfl (hF.at 0 rfl) (hF.at 1 rfl) ty_Rat rfl rfl rfl rfl fun w18 a st hF=>?_
    refine E.nil ?_
    refine wp_seq ?_
    refine E.rga 6 mixed hF [32,33,34,35,36,6] [_,_,_,_,_,kn w18 [.bool false,.slice none 0 0,.slice none 0 0]] [5] ⟨fun _ _ ⟨g,e,_,o⟩=>⟨g,e,o.lt⟩,trivial⟩ (by decide+kernel) rfl rfl rfl ⟨rb st ty_Rat 0 0 rfl,rm 3 rfl,ck st k246 rfl fun _ s=>ex_ret (rise_any ((j:Nat):Int) _ (hT.below s.bel) (by omega) (by omega)),ck st k40 rfl fun _ s=>rq_ret (rWhole_any (spk (((j:Nat):Int)+1)-spk ((j:Nat):Int)) _ (dif64 (((j:Nat):Int))).1 (dif64 (((j:Nat):Int))).2) (rlim_int (limz_64 (dif64 (((j:Nat):Int))).1 (dif64 (((j:Nat):Int))).2) (by omega)),ck st k75 rfl fun _ s _ x35=>qDiv (s.f 0 rfl) x35,ra ty_Rat rfl rfl,trivial⟩ ?_
    intro a w19 hF bb hall hne
    have s0:=st
    replace st:=st.to bb
    obtain⟨vv20,hF,st⟩:=rS hall hF st 4 rfl rfl Rl.cl
    obtain⟨b22,ad22,n22,c22,ae22,m22,d22,rfl⟩:=Rq.form (st.f 0 rfl).1
    obtain⟨_,e6,g6,rfl,ge6,o6⟩:=sS hall 5 6 rfl rfl
    replace st:=st.push o6.blk (Nat.le_trans s0.bel.size ge6) (s0.ne ge6)
    clear o6
    replace hF:=hF.add e6
    clear hall bb hne s0
    refine S.sto st hF 0 rfl (hF.at 0 rfl) (hF.at 1 rfl) ty_Rat rfl rfl rfl rfl fun w23 a st hF=>?_
    refine E.nil ?_
    refine wp_seq ?_
    refine E.rg 6 mixed hF [37,38,39,40,41,42] [_,_,_,_,_,_] (by decide+kernel) rfl rfl rfl ⟨rb st ty_Rat 0 0 rfl,rm 5 rfl,ck st k40 rfl fun _ s=>rq_ret (rWhole_any (((j:Nat):Int)) _ (by omega) (by omega)) (rlim_int (limz_64 (by omega) (by omega)) (by omega)),ck st k56 rfl fun _ s _ x39=>qAdd (s.f 0 rfl) x39,ck st k248 rfl fun _ s=>rq_ret (width_any _) wd_lim,ck st k58 rfl fun _ s _ x40 _ x41=>qMul x40 x41,trivial⟩ ?_
    intro a w24 hF bb hall
    replace st:=st.to bb
    obtain⟨vv25,hF,st⟩:=rS hall hF st 5 rfl rfl Rl.cl
    obtain⟨b27,ad27,n27,c27,ae27,m27,d27,rfl⟩:=Rq.form (st.f 0 rfl).1
    clear hall bb
    refine S.sto st hF 3 rfl (hF.at 11 rfl) (hF.at 0 rfl) ty_Rat rfl rfl rfl rfl fun w28 a st hF=>?_
    refine E.nil ?_
    refine wp_ret ?_
    refine S.ret Tryz.results225 st hF (hF.at 11 rfl) 3 rfl ty_Rat rfl hF.dfr ?_
    have bel:=st.bel
    exact⟨_,rfl,Rq.castM (st.f 0 rfl).1 (arc_here hx hjn (yk_here hjn hyk hc11)),bel⟩
  ·refine wp_seq ?_
   refine E.seq ?_
   refine E.opv hF (r_bin (hF.at 0 rfl) ev_c eg_scalar (bi_int (ic_lss (c:=false) (dec_ff (by omega))) (by simp))) rfl rfl rfl rfl fun a hF=>?_
   refine E.nil ?_
   refine wp_seq ?_
   refine wp_cond_false (hF.at 0 rfl) ?_
   refine wp_exit ?_
   refine E.past ?_
   refine E.past ?_
   refine E.out (id:=0) ?_
   refine E.norm ?_
   refine wp_seq ?_
   refine E.seq ?_
   refine S.ck st hF (rgc k40 (map1 ev_c)) (rq_ret (rWhole_any (90) _ (by decide) (by decide)) (rlim_int (limz_64 (by decide) (by decide)) (by omega))) Rl.cl rfl fun vv30 w29 a st hF=>?_
   obtain⟨b32,ad32,n32,c32,ae32,m32,d32,rfl⟩:=Rq.form (st.f 0 rfl).1
   refine S.sto st hF 1 rfl (hF.at 4 rfl) (hF.at 0 rfl) ty_Rat rfl rfl rfl rfl fun w33 a st hF=>?_
   refine E.nil ?_
   refine wp_ret ?_
   refine S.ret Tryz.results225 st hF (hF.at 4 rfl) 1 rfl ty_Rat rfl hF.dfr ?_
   have bel:=st.bel
   have e24:j=24:=by omega
   subst e24
   exact⟨_,rfl,Rq.castM (st.f 0 rfl).1 (arc_end hx hyk.symm),bel⟩
theorem arc_neg_any (v1:Value) (qx:Rat) (k:Nat) (w:World) (hT:TabD w) (h1:Rq w v1 qx) (hl:RLim qx k) (hk:k≤1000) (hn:sz (Rat.num qx)<0):
 Calls Tryz.prog 225 #[v1] w (RqPost w (arcv qx)):=by
 have hx:qx<0:=sz_lt0.1 hn
 have st:=St.start w
 refine E.enter (nt:=45) (L:=[(0,v1)]) Tryz.func225 rfl rfl rfl (args_cons (i:=0) rfl args_nil) ?_
 intro a hF
 refine wp_seq ?_
 refine E.seq ?_
 obtain⟨b2,ad2,n2,c2,ae2,m2,d2,rfl⟩:=Rq.form h1
 refine S.box st hF (hF.at 0 rfl) rfl rfl fun g1 w1 a st hF=>?_
 refine S.alloc st hF ty_Rat rfl rfl fun g2 w3 a st hF=>?_
 refine E.nil ?_
 refine wp_seq ?_
 refine wp_seq ?_
 refine E.seq ?_
 refine E.opv hF (r_load (hF.at 1 rfl) (ld_all ty_Rat (st.bk 1 rfl) rfl)) rfl rfl rfl rfl fun a hF=>?_
 refine S.callx st hF (rgc k141 (map1 (hF.at 0 rfl))) (rsgn_any _ (qx) _ (h1.below st.bel)) rfl rfl rfl rfl fun w4 a st hF=>?_
 refine E.opv hF (r_bin (hF.at 0 rfl) ev_c eg_scalar (bi_int (ic_lss (c:=true) (dec_tt hn)) (by simp))) rfl rfl rfl rfl fun a hF=>?_
 refine E.nil ?_
 refine wp_cond_true (hF.at 0 rfl) ?_
 refine wp_seq ?_
 refine E.seq ?_
 refine E.opv hF (r_load (hF.at 4 rfl) (ld_all ty_Rat (st.bk 1 rfl) rfl)) rfl rfl rfl rfl fun a hF=>?_
 refine S.ck st hF (rgc k121 (map1 (hF.at 0 rfl))) (qOpp ⟨(h1.below st.bel),hl⟩) Rl.cl rfl fun vv6 w5 a st hF=>?_
 obtain⟨b8,ad8,n8,c8,ae8,m8,d8,rfl⟩:=Rq.form (st.f 0 rfl).1
 refine S.call st hF (rgc k225 (map1 (hF.at 0 rfl))) (arc_pos _ (-(qx)) k _ (hT.below st.bel) (st.f 0 rfl).1 (st.f 0 rfl).2 (by omega) (neg_not hx)) (fun _ _ h=>h) Rq.cl rfl rfl rfl rfl fun vv10 w9 a st hF=>?_
 obtain⟨b12,ad12,n12,c12,ae12,m12,d12,rfl⟩:=Rq.form (st.f 0 rfl)
 refine S.call st hF (rgc k121 (map1 (hF.at 0 rfl))) (rOpp_any _ _ _ (st.f 0 rfl)) (fun _ _ h=>h) Rq.cl rfl rfl rfl rfl fun vv14 w13 a st hF=>?_
 obtain⟨b16,ad16,n16,c16,ae16,m16,d16,rfl⟩:=Rq.form (st.f 0 rfl)
 refine S.sto st hF 0 rfl (hF.at 7 rfl) (hF.at 0 rfl) ty_Rat rfl rfl rfl rfl fun w17 a st hF=>?_
 refine E.nil ?_
 refine wp_ret ?_
 refine S.ret Tryz.results225 st hF (hF.at 7 rfl) 0 rfl ty_Rat rfl hF.dfr ?_
 have bel:=st.bel
 exact⟨_,rfl,Rq.castM (st.f 0 rfl) (arc_neg hx),bel⟩
theorem sarc_any (v1:Value) (qx:Rat) (k:Nat) (w:World) (hT:TabD w) (h1:Rq w v1 qx) (hl:RLim qx k) (hk:k≤1000):Calls Tryz.prog 225 #[v1] w (RqPost w (arcv qx)):=by
 by_cases hn:sz (Rat.num qx)<0
 ·exact arc_neg_any v1 qx k w hT h1 hl hk hn
 ·exact arc_pos v1 qx k w hT h1 hl hk hn
end
end
end Go.Proofs.YtnljadejcfgmaaaGreatDoor
