import Derived.Test.YtplngpfpcheofaaGreatDoorKA8
import Derived.Test.YtplngpfpcheofaaGreatDoorKA20
namespace Go.Proofs.YtplngpfpcheofaaGreatDoor
open Go.RowKit
set_option maxRecDepth 100000
set_option linter.unusedVariables false
set_option maxHeartbeats 8000000
section
section
def lin (S:Int→Int) (y:Rat):Rat:=(S y.floor:Rat)+(y-(y.floor:Rat))*((S (y.floor+1):Rat)-(S y.floor:Rat))
theorem lin_more {S:Int→Int} {n:Int} (h:∀k,S (k+n)=S k) (y:Rat):lin S (y+(n:Rat))=lin S y:=by
 unfold lin
 rw[Rat.floor_add_intCast,h,show y.floor+n+1=y.floor+1+n by omega,h,Rat.intCast_add]
 grind
theorem up_le {S:Int→Int} (h:∀k,S k≤S (k+1)) {a b:Int} (hab:a≤b):S a≤S b:=by
 obtain⟨n,rfl⟩:∃n:Nat,b=a+n:=⟨(b-a).toNat,by omega⟩
 clear hab
 induction n with
 |zero=>simp
 |succ n ih=>
  have:=h (a+n)
  rw[show a+((n+1:Nat):Int)=a+n+1 by omega]
  omega
theorem cast_le {a b:Int} (h:a≤b):(a:Rat)≤(b:Rat):=Rat.intCast_le_intCast.2 h
theorem lin_low {S:Int→Int} {y:Rat} (h:S y.floor≤S (y.floor+1)):(S y.floor:Rat)≤lin S y:=by
 have h1:=fl_le y
 have h2:=cast_le h
 have:=Rat.mul_nonneg (show 0≤y-(y.floor:Rat) by grind) (show 0≤(S (y.floor+1):Rat)-(S y.floor:Rat) by grind)
 unfold lin;grind
theorem lin_high {S:Int→Int} {y:Rat} (h:S y.floor≤S (y.floor+1)):lin S y≤(S (y.floor+1):Rat):=by
 have h1:=fl_lt y
 have h2:=cast_le h
 have:=Rat.mul_nonneg (show 0≤(y.floor:Rat)+1-y by grind) (show 0≤(S (y.floor+1):Rat)-(S y.floor:Rat) by grind)
 unfold lin;grind
theorem lin_up {S:Int→Int} (h:∀k,S k≤S (k+1)) {y z:Rat} (hyz:y≤z):lin S y≤lin S z:=by
 by_cases e:y.floor=z.floor
 ·have h2:=cast_le (h z.floor)
  have:=Rat.mul_nonneg (show 0≤z-y by grind) (show 0≤(S (z.floor+1):Rat)-(S z.floor:Rat) by grind)
  unfold lin;rw[e];grind
 ·have hm:=Rat.floor_monotone hyz
  have h1:=lin_high (h y.floor)
  have h2:=lin_low (h z.floor)
  have h3:=cast_le (up_le h (show y.floor+1≤z.floor by omega))
  grind
theorem lin_comb (S:Int→Int) (c d:Int) (y:Rat):lin (fun k=>c*k+d*S k) y=(c:Rat)*y+(d:Rat)*lin S y:=by
 unfold lin
 simp only [Rat.intCast_add,Rat.intCast_mul,Rat.intCast_one]
 grind
theorem lin_lip {S:Int→Int} (c:Int) (h:∀k, -c≤S (k+1)-S k∧S (k+1)-S k≤c) {y z:Rat} (hyz:y≤z):(lin S y-lin S z).abs ≤(c:Rat)*(z-y):=by
 have h1:=lin_up (S:=fun k=>c*k+1*S k) (fun k=>by have:=h k;show c*k+1*S k≤c*(k+1)+1*S (k+1);rw[Int.mul_add];omega) hyz
 have h2:=lin_up (S:=fun k=>c*k+(-1)*S k) (fun k=>by have:=h k;show c*k+(-1)*S k≤c*(k+1)+(-1)*S (k+1);rw[Int.mul_add];omega) hyz
 rw[lin_comb,lin_comb] at h1 h2
 rw[Rat.intCast_one] at h1
 rw[Rat.intCast_neg,Rat.intCast_one] at h2
 unfold Rat.abs
 split <;> grind
theorem lin_bd {S:Int→Int} (c:Int) (h:∀k, -c≤S k∧S k≤c) (y:Rat): -(c:Rat)≤lin S y∧lin S y≤(c:Rat):=by
 have a1:=h y.floor
 have a2:=h (y.floor+1)
 have f1:=fl_le y
 have f2:=fl_lt y
 have b1:=cast_le a1.1;have b2:=cast_le a1.2;have b3:=cast_le a2.1;have b4:=cast_le a2.2
 rw[Rat.intCast_neg] at b1 b3
 have m1:=Rat.mul_nonneg (show 0≤(y.floor:Rat)+1-y by grind) (show 0≤(c:Rat)-(S y.floor:Rat) by grind)
 have m2:=Rat.mul_nonneg (show 0≤y-(y.floor:Rat) by grind) (show 0≤(c:Rat)-(S (y.floor+1):Rat) by grind)
 have m3:=Rat.mul_nonneg (show 0≤(y.floor:Rat)+1-y by grind) (show 0≤(S y.floor:Rat)+(c:Rat) by grind)
 have m4:=Rat.mul_nonneg (show 0≤y-(y.floor:Rat) by grind) (show 0≤(S (y.floor+1):Rat)+(c:Rat) by grind)
 unfold lin
 constructor <;> grind
def ykf (h:Rat):Nat→Nat→Nat
 |0,k=>k
 |n+1,k=>if h≤(spk ((k:Int)+1):Rat) then k else ykf h n (k+1)
def yk (h:Rat):Nat:=ykf h 24 0
def ay (h:Rat):Rat:=if yk h<24 then(h-(spk (yk h):Rat))/((spk ((yk h:Nat)+1:Int)-spk (yk h):Int):Rat)+((yk h:Nat):Int) else((24:Int):Rat)
def ap (a:Rat):Rat:=if a<0 then -ay (-a) else ay a
def wd:Rat:=((360:Int):Rat)/((96:Int):Rat)
theorem wd_eq:wd=15/4:=by decide+kernel
def sof (x:Rat):Rat:=lin spk (x/wd)/((3438:Int):Rat)
def arcv (a:Rat):Rat:=ap (a*((3438:Int):Rat))*wd
theorem c3438:((3438:Int):Rat)=3438:=rfl
theorem lin_around (y:Rat) (n:Int):lin spk (y+((96*n:Int):Rat))=lin spk y:=lin_more (fun k=>sp_more k n) y
theorem lin_rmod (y:Rat):lin spk (rmod y ((96:Int):Rat))=lin spk y:=by
 unfold rmod
 rw[if_neg (by decide+kernel)]
 have:=lin_around y (-(y/((96:Int):Rat)).floor)
 rw[←this]
 congr 1
 rw[Rat.intCast_mul,Rat.intCast_neg];grind
theorem sof_eq (x:Rat):(((spk (rmod (x/wd) ((96:Int):Rat)).floor :Int):Rat)+(rmod (x/wd) ((96:Int):Rat)-(((rmod (x/wd) ((96:Int):Rat)).floor :Int):Rat))*((spk ((rmod (x/wd) ((96:Int):Rat)).floor +1)-spk (rmod (x/wd) ((96:Int):Rat)).floor :Int):Rat))/((3438:Int):Rat)=sof x:=by
 unfold sof
 rw[←lin_rmod (x/wd)]
 unfold lin
 rw[Rat.intCast_sub]
theorem div_wd (a b:Rat):(a+b)/wd=a/wd+b/wd:=by rw[wd_eq];grind
theorem sof_turn (p:Rat) (n:Int):sof (p+((360:Int):Rat)*(n:Rat))=sof p:=by
 unfold sof
 rw[div_wd,show((360:Int):Rat)*(n:Rat)/wd=((96*n:Int):Rat) by rw[wd_eq,Rat.intCast_mul,show((360:Int):Rat)=360 from rfl,show((96:Int):Rat)=96 from rfl];grind,lin_around]
theorem sof_bd (p:Rat): -1≤sof p∧sof p≤1:=by
 have:=lin_bd (S:=spk) 3438 sp_bd (p/wd)
 unfold sof
 rw[c3438] at*
 constructor <;> grind
theorem lin_sof (p:Rat):sof p*((3438:Int):Rat)=lin spk (p/wd):=by unfold sof;rw[c3438];grind
theorem abs_le {a b:Rat} (h1: -b≤a) (h2:a≤b):a.abs≤b:=by unfold Rat.abs;split <;> grind
theorem le_abs (a:Rat):a≤a.abs∧ -a≤a.abs∧(a.abs=a∨a.abs= -a):=by unfold Rat.abs;split <;> grind
theorem sof_lip (p q:Rat):(sof p-sof q).abs ≤(p-q).abs *(((60:Int):Rat)/((3438:Int):Rat)):=by
 have key:∀ {p q:Rat},p≤q→ -((q-p)*(60/3438))≤sof p-sof q∧sof p-sof q≤(q-p)*(60/3438):=by
  intro p q h
  have hw:p/wd≤q/wd:=by rw[wd_eq];grind
  have:=lin_lip (S:=spk) 225 sp_step hw
  obtain⟨l1,l2,_⟩:=le_abs (lin spk (p/wd)-lin spk (q/wd))
  have e:((225:Int):Rat)*(q/wd-p/wd)=60*(q-p):=by rw[wd_eq,show((225:Int):Rat)=225 from rfl];grind
  rw[e] at this
  have s1:=lin_sof p
  have s2:=lin_sof q
  rw[c3438] at s1 s2
  constructor <;> grind
 have e:((60:Int):Rat)/((3438:Int):Rat)=60/3438:=by decide+kernel
 rw[e]
 by_cases h:p≤q
 ·obtain⟨a,b⟩:=key h
  have:(p-q).abs =q-p:=by unfold Rat.abs;split <;> grind
  rw[this];exact abs_le a b
 ·obtain⟨a,b⟩:=key (show q≤p by grind)
  have:(p-q).abs =p-q:=by unfold Rat.abs;split <;> grind
  rw[this];exact abs_le (by grind) (by grind)
def pk (x:Rat):Int:=(rmod (x/wd) ((96:Int):Rat)).floor
def pfr (x:Rat):Rat:=rmod (x/wd) ((96:Int):Rat)-((pk x:Int):Rat)
theorem pk_bd (x:Rat):0≤pk x∧pk x<96:=by
 have h:(0:Rat)<((96:Int):Rat):=by decide+kernel
 have h1:=rmod_low (x:=x/wd) h
 have h2:=rmod_high (x:=x/wd) h
 refine⟨Rat.le_floor_iff.2 (by rw[Rat.intCast_zero];exact h1),Rat.floor_lt_iff.2 h2⟩
theorem pk_sm (x:Rat):sm64 (rmod (x/wd) ((96:Int):Rat)).floor =pk x:=sm64_t (by have:=pk_bd x;unfold pk at this;omega) (by have:=pk_bd x;unfold pk at this;omega)
theorem sof_pk (x:Rat):(((spk (pk x):Int):Rat)+pfr x*((spk (pk x+1)-spk (pk x):Int):Rat))/((3438:Int):Rat)=sof x:=sof_eq x
theorem wd_lim:RLim wd 2:=(rlim_mk2 (limz_64 (by decide) (by decide)) (limz_64 (by decide) (by decide))).up 2 (by decide)
theorem lim64 {n:Int} (h0: -9223372036854775808≤n) (h1:n≤9223372036854775807):RLim ((n:Int):Rat) 2:=rlim_int (limz_64 h0 h1) (by decide)
theorem around_lim {x:Rat} {k:Nat} (h:RLim x k):RLim (rmod (x/wd) ((96:Int):Rat)) (2*k+20):=(rmod_lim (rlim_div h wd_lim) (lim64 (by decide) (by decide))).up _ (by omega)
theorem pfr_lim {x:Rat} {k:Nat} (h:RLim x k):RLim (pfr x) (4*k+50):=(frac_lim (around_lim h)).up _ (by omega)
theorem spk64 (k:Int): -9223372036854775808≤spk k∧spk k≤9223372036854775807:=by have:=sp_bd k;omega
theorem dif64 (k:Int): -9223372036854775808≤spk (k+1)-spk k∧spk (k+1)-spk k≤9223372036854775807:=by have:=sp_step k;omega
theorem ay_lim {h:Rat} {k:Nat} (l:RLim h k):RLim (ay h) (k+10):=by
 unfold ay
 split
 ·exact(rlim_add (rlim_div (rlim_sub l (lim64 (spk64 _).1 (spk64 _).2)) (lim64 (dif64 _).1 (dif64 _).2)) (lim64 (by omega) (by omega))).up _ (by omega)
 ·exact(lim64 (by decide) (by decide)).up _ (by omega)
theorem arcv_lim {x:Rat} {k:Nat} (l:RLim x k):RLim (arcv x) (k+20):=by
 have h:=rlim_mul l (lim64 (n:=3438) (by decide) (by decide))
 unfold arcv ap
 refine(rlim_mul (k:=k+12) ?_ wd_lim).up _ (by omega)
 split
 ·exact rlim_neg (ay_lim (rlim_neg h))
 ·exact ay_lim h
theorem hiv_spk {k:Int} (h0:0≤k) (h1:k≤24):hiT.getD (max 0 (min k 24)).toNat 0=spk k:=by
 have t:∀n:Nat,n<25→hiT.getD (max 0 (min (n:Int) 24)).toNat 0=spk (n:Int):=by decide+kernel
 have:=t k.toNat (by omega)
 rwa[show((k.toNat:Nat):Int)=k by omega] at this
theorem qc_pos {a b:Rat}:0<qc a b↔b<a:=by
 rw[qc_def]
 split
 ·constructor
  ·intro h;omega
  ·intro h;grind
 ·split
  ·constructor
   ·intro;assumption
   ·intro;omega
  ·constructor
   ·intro h;omega
   ·intro h;contradiction
theorem yk_next {h:Rat} {j:Nat} (hj:j<24) (e:ykf h (24-j) j=yk h) (hc:0<qc h ((spk (((j:Nat):Int)+1):Int):Rat)):ykf h (24-(j+1)) (j+1)=yk h:=by
 rw[←e,show 24-j=(24-(j+1))+1 by omega]
 show _=if h≤_ then _ else _
 have:=qc_pos.1 hc
 rw[if_neg (by grind)]
theorem yk_here {h:Rat} {j:Nat} (hj:j<24) (e:ykf h (24-j) j=yk h) (hc:¬0<qc h ((spk (((j:Nat):Int)+1):Int):Rat)):yk h=j:=by
 rw[←e,show 24-j=(24-(j+1))+1 by omega]
 show(if h≤_ then _ else _)=_
 have:¬_<_:=fun q=>hc (qc_pos.2 q)
 rw[if_pos (by grind)]
theorem arc_here {x:Rat} {j:Nat} (hx:¬x<0) (hj:j<24) (e:yk (x*((3438:Int):Rat))=j):((x*((3438:Int):Rat)-((spk ((j:Nat):Int):Int):Rat))/((spk (((j:Nat):Int)+1)-spk ((j:Nat):Int):Int):Rat)+((((j:Nat):Int):Int):Rat))*wd=arcv x:=by
 unfold arcv ap
 rw[if_neg (by rw[c3438];grind)]
 unfold ay
 rw[e,if_pos hj]
theorem arc_end {x:Rat} (hx:¬x<0) (e:yk (x*((3438:Int):Rat))=24):((90:Int):Rat)=arcv x:=by
 unfold arcv ap
 rw[if_neg (by rw[c3438];grind)]
 unfold ay
 rw[e,if_neg (by decide)]
 decide+kernel
theorem arc_neg {x:Rat} (hx:x<0): -(arcv (-x))=arcv x:=by
 unfold arcv ap
 rw[if_neg (by rw[c3438];grind),if_pos (by rw[c3438];grind),show -x*((3438:Int):Rat)= -(x*((3438:Int):Rat)) by grind]
 grind
theorem sz_lt0 {q:Rat}:sz q.num<0↔q<0:=by
 rw[sz_def]
 split
 ·constructor <;> intro <;> first|assumption|omega
 ·split
  ·constructor <;> intro <;> first|contradiction|omega
  ·constructor <;> intro <;> first|contradiction|omega
theorem neg_not {q:Rat} (h:q<0):¬sz (-q).num <0:=by
 rw[sz_lt0];grind
def PlacePost (w:World) (x:Rat):Ending→World→Prop:=fun e w'=>∃v,e= .returned (.tuple #[.int .i64 (pk x),v])∧Rq w' v (pfr x)∧Below w.heap.size w w'
theorem rv_iv {a b:Int} {v:Value} (h:a=b):Ending.returned (.tuple #[.int .i64 a,v])= .returned (.tuple #[.int .i64 b,v]):=by rw[h]
theorem res_tmpcell {P:Program} {fn:Func} {a:Act} {w:World} {t u:Tmp} {T:TypeId} {p:Addr} {v x:Value} (h:fn.results=#[.tmp t,.cell u T]) (hx:a.tmps.getD t undef=x) (ha:a.tmps.getD u undef= .pointer (some p)) (hl:(Instr.loadAt T (.pointer (some p))).run P w= .ok v w):
 (results fn a.tmps).run P w= .ok (.tuple #[x,v]) w:=by
 have hl':(loadVar T p).run P w= .ok v w:=hl
 have e:(asAddr (a.tmps.getD u undef)).run P w= .ok p w:=by rw[ha];rfl
 simp only [results,h,List.mapM_toArray,List.mapM_cons,List.mapM_nil,Sem.run_bind,e,Result.andThen_ok,hl',Sem.run_pure,Sem.run_map,hx]
 rfl
end
section
theorem en183:(Tryz.f183.name == "runtime.NumGoroutine")=false∧Tryz.f183.body.isNone=false:=⟨by decide+kernel,by kernel_rfl⟩
theorem en179:(Tryz.f179.name == "runtime.NumGoroutine")=false∧Tryz.f179.body.isNone=false:=⟨by decide+kernel,by kernel_rfl⟩
theorem en181:(Tryz.f181.name == "runtime.NumGoroutine")=false∧Tryz.f181.body.isNone=false:=⟨by decide+kernel,by kernel_rfl⟩
theorem en164:(Tryz.f164.name == "runtime.NumGoroutine")=false∧Tryz.f164.body.isNone=false:=⟨by decide+kernel,by kernel_rfl⟩
theorem en165:(Tryz.f165.name == "runtime.NumGoroutine")=false∧Tryz.f165.body.isNone=false:=⟨by decide+kernel,by kernel_rfl⟩
theorem high_spk (k:Int) (w:World) (hT:TabD w) (h0:0≤k) (h1:k≤24):Calls Tryz.prog 182 #[.int .i64 k] w (ValPost w (.int .i64 (spk k))):=by
 have:=high_any k w hT
 rwa[show hiv k=spk k from hiv_spk h0 h1] at this
theorem width_any (w:World):
 Calls Tryz.prog 183 #[] w (RqPost w wd):=by
 have st:=St.start w
 refine E.enter (nt:=2) (L:=[]) Tryz.func183 rfl rfl rfl args_nil ?_
 intro a hF
 refine wp_seq ?_
 refine E.seq ?_
 refine S.alloc st hF ty_Rat rfl rfl fun g0 w1 a st hF=>?_
 refine E.nil ?_
 refine wp_seq ?_
 refine E.seq ?_
 refine S.call st hF (r_call Tryz.func22 en22.1 en22.2 (map2 ev_c ev_c)) (rOf2_any (360) (96) _ (by decide) (by decide) (by decide) (by decide)) (fun _ _ h=>h) Rq.cl rfl rfl rfl rfl fun vv3 w2 a st hF=>?_
 obtain⟨b5,ad5,n5,c5,ae5,m5,d5,rfl⟩:=Rq.form (st.f 0 rfl)
 refine S.sto st hF 0 rfl (hF.at 1 rfl) (hF.at 0 rfl) ty_Rat rfl rfl rfl rfl fun w6 a st hF=>?_
 refine E.nil ?_
 refine wp_ret ?_
 refine S.ret Tryz.results183 st hF (hF.at 1 rfl) 0 rfl ty_Rat rfl hF.dfr ?_
 have bel:=st.bel
 exact⟨_,rfl,(st.f 0 rfl),bel⟩
theorem rise_any (k:Int) (w:World) (hT:TabD w) (h0: -1000000≤k) (h1:k≤1000000):
 Calls Tryz.prog 181 #[.int .i64 k] w (ValPost w (.int .i64 (spk (k+1)-spk k))):=by
 have hsa:=sp_bd k
 have hsb:=sp_bd (k+1)
 have st:=St.start w
 refine E.enter (nt:=9) (L:=[(0,.int .i64 k)]) Tryz.func181 rfl rfl rfl (args_cons (i:=0) rfl args_nil) ?_
 intro a hF
 refine wp_seq ?_
 refine E.seq ?_
 refine E.opv hF (r_assign ev_c) rfl rfl rfl rfl fun a hF=>?_
 refine E.nil ?_
 refine wp_seq ?_
 refine E.seq ?_
 refine E.opv hF (r_move (hF.at 1 rfl)) rfl rfl rfl rfl fun a hF=>?_
 refine E.opv hF (r_bin (hF.at 0 rfl) ev_c eg_scalar (ia_add (by omega) (by omega))) rfl rfl rfl rfl fun a hF=>?_
 refine S.callx st hF (r_call Tryz.func180 en180.1 en180.2 (map1 (hF.at 0 rfl))) (dsine_any (k+1) _ (hT.below st.bel)) rfl rfl rfl rfl fun w1 a st hF=>?_
 refine E.opv hF (r_move (hF.at 4 rfl)) rfl rfl rfl rfl fun a hF=>?_
 refine S.callx st hF (r_call Tryz.func180 en180.1 en180.2 (map1 (hF.at 0 rfl))) (dsine_any k _ (hT.below st.bel)) rfl rfl rfl rfl fun w2 a st hF=>?_
 refine E.opv hF (r_bin (hF.at 2 rfl) (hF.at 0 rfl) eg_scalar (ia_sub (by omega) (by omega))) rfl rfl rfl rfl fun a hF=>?_
 refine E.opset (L':=[(2,.int .i64 ((spk (k+1))-(spk k))),(8,.int .i64 ((spk (k+1))-(spk k))),(7,.int .i64 (spk k)),(6,.int .i64 k),(5,.int .i64 (spk (k+1))),(4,.int .i64 (k+1)),(3,.int .i64 k),(0,.int .i64 k)]) hF (r_assign (hF.at 0 rfl)) rfl rfl rfl rfl fun a hF=>?_
 refine E.nil ?_
 refine wp_ret ?_
 have bel:=st.bel
 refine bodyPost_ret (res_tmp Tryz.results181 (hF.at 0 rfl)) hF.dfr ?_
 exact⟨rfl,bel⟩
theorem place_any (v1:Value) (qx:Rat) (k:Nat) (w:World) (h1:Rq w v1 qx) (hl:RLim qx k) (hk:k≤900):
 Calls Tryz.prog 179 #[v1] w (PlacePost w qx):=by
 have st:=St.start w
 refine E.enter (nt:=20) (L:=[(0,v1)]) Tryz.func179 rfl rfl rfl (args_cons (i:=0) rfl args_nil) ?_
 intro a hF
 refine wp_seq ?_
 refine E.seq ?_
 obtain⟨b2,ad2,n2,c2,ae2,m2,d2,rfl⟩:=Rq.form h1
 refine S.box st hF (hF.at 0 rfl) rfl rfl fun g1 w1 a st hF=>?_
 refine E.opv hF (r_assign ev_c) rfl rfl rfl rfl fun a hF=>?_
 refine S.alloc st hF ty_Rat rfl rfl fun g3 w3 a st hF=>?_
 refine E.nil ?_
 refine wp_seq ?_
 refine E.drawn 6 mixed hF [7,8,9,10,11,4] [(fun _ v=>v= .agg #[.bool b2,.slice ad2 n2 c2,.slice ae2 m2 d2]),(fun w v=>Rq w v (wd)),(fun w v=>Rq w v ((qx)/(wd))),(fun w v=>Rq w v (((96:Int):Rat))),(fun w v=>Rq w v (rmod ((qx)/(wd)) (((96:Int):Rat)))),(fun w v=>∃g,v= .pointer (some ⟨g,0,none⟩)∧w3.heap.size≤g∧Own w g [.bool false,.slice none 0 0,.slice none 0 0])] [5] (by decide+kernel) (by decide+kernel) rfl rfl rfl ⟨(Mb.eq _),(fun _ _ _ h hb=>h.below hb),(fun _ _ _ h hb=>h.below hb),(fun _ _ _ h hb=>h.below hb),(fun _ _ _ h hb=>h.below hb),(fun _ _ _ ⟨g,e,l,o⟩ hb=>⟨g,e,l,o.below hb⟩),trivial⟩ ⟨fun _ _ ⟨g,e,_,o⟩=>⟨g,e,o.lt⟩,trivial⟩ ⟨?_,?_,?_,?_,?_,?_,trivial⟩ ?_
 ·intro a' w' hF' hb hd
  exact dv0 (r_load (hF'.at 2 rfl) (ld_all ty_Rat ((st.bk 1 rfl).below hb) rfl)) rfl rfl rfl
 ·intro a' w' hF' hb hd
  exact dc0 (r_call Tryz.func183 en183.1 en183.2 map0) (width_any _) rfl rfl
 ·intro a' w' hF' hb hd
  have e7:=sHe hd 0 7 rfl rfl rfl rfl
  obtain⟨v8_0,e8,h8_1⟩:=sH hd 1 8 rfl rfl rfl rfl
  exact dc0 (r_call Tryz.func131 en131.1 en131.2 (map2 e7 e8)) (rDiv_any _ _ (qx) (wd) (max k 2) _ (h1.below (below_to st.bel hb)) h8_1 (hl.up _ (by omega)) (wd_lim.up _ (by omega)) (by omega)) rfl rfl
 ·intro a' w' hF' hb hd
  exact dc0 (r_call Tryz.func20 en20.1 en20.2 (map1 ev_c)) (rWhole_any (96) _ (by decide) (by decide)) rfl rfl
 ·intro a' w' hF' hb hd
  obtain⟨v9_0,e9,h9_1⟩:=sH hd 0 9 rfl rfl rfl rfl
  obtain⟨v10_0,e10,h10_1⟩:=sH hd 1 10 rfl rfl rfl rfl
  exact dc0 (r_call Tryz.func94 en94.1 en94.2 (map2 e9 e10)) (cMod_any _ _ _ _ (k+2) 2 _ h9_1 h10_1 (rlim_div hl wd_lim) (rlim_int (limz_64 (by decide) (by decide)) (by omega)) (by omega) (by omega)) rfl rfl
 ·intro a' w' hF' hb hd
  exact da0 ty_Rat rfl hb.size rfl
 intro a w4 hF bb hall hne
 have s0:=st
 replace st:=st.to bb
 obtain⟨vv5,e11,hh6⟩:=sS hall 4 11 rfl rfl
 replace st:=st.add hh6 (Rq.cl _)
 clear hh6
 obtain⟨_,e4,g4,rfl,ge4,o4⟩:=sS hall 5 4 rfl rfl
 replace st:=st.push o4.blk (Nat.le_trans s0.bel.size ge4) (s0.ne ge4)
 clear o4
 clear hall hne bb s0
 obtain⟨b7,ad7,n7,c7,ae7,m7,d7,rfl⟩:=Rq.form (st.f 0 rfl)
 replace hF:=hF.add e11
 clear e11
 replace hF:=hF.add e4
 clear e4
 refine S.sto st hF 0 rfl (hF.at 0 rfl) (hF.at 1 rfl) ty_Rat rfl rfl rfl rfl fun w8 a st hF=>?_
 refine E.nil ?_
 refine wp_seq ?_
 refine E.seq ?_
 refine E.opv hF (r_load (hF.at 0 rfl) (ld_all ty_Rat (st.bk 0 rfl) rfl)) rfl rfl rfl rfl fun a hF=>?_
 refine S.callx st hF (r_call Tryz.func64 en64.1 en64.2 (map1 (hF.at 0 rfl))) (cDays_any _ _ ((k+2)+(k+2)+2+2+3) _ (st.f 0 rfl) (rmod_lim (k:=(k+2)) (j:=2) (rlim_div hl wd_lim) (rlim_int (limz_64 (by decide) (by decide)) (by omega))) (by omega)) rfl rfl rfl rfl fun w9 a st hF=>?_
 refine E.opv hF (r_move (hF.at 0 rfl)) rfl rfl rfl rfl fun a hF=>?_
 refine E.opv hF (r_extract (v:= .int .i64 (sm64 (Rat.floor (rmod ((qx)/(wd)) (((96:Int):Rat)))))) (hF.at 0 rfl) rfl) rfl rfl rfl rfl fun a hF=>?_
 refine E.opv hF (r_extract (v:= .bool (fit64 (Rat.floor (rmod ((qx)/(wd)) (((96:Int):Rat)))))) (hF.at 1 rfl) rfl) rfl rfl rfl rfl fun a hF=>?_
 refine E.opv hF (r_assign (hF.at 1 rfl)) rfl rfl rfl rfl fun a hF=>?_
 refine E.opv hF (r_assign (hF.at 1 rfl)) rfl rfl rfl rfl fun a hF=>?_
 refine E.nil ?_
 refine wp_seq ?_
 refine E.seq ?_
 refine E.opv hF (r_move (hF.at 1 rfl)) rfl rfl rfl rfl fun a hF=>?_
 refine E.opv hF (r_load (hF.at 8 rfl) (ld_all ty_Rat (st.bk 0 rfl) rfl)) rfl rfl rfl rfl fun a hF=>?_
 refine S.call st hF (r_call Tryz.func162 en162.1 en162.2 (map1 (hF.at 0 rfl))) (cFrac_any _ _ ((k+2)+(k+2)+2+2+3) _ (st.f 0 rfl) (rmod_lim (k:=(k+2)) (j:=2) (rlim_div hl wd_lim) (rlim_int (limz_64 (by decide) (by decide)) (by omega))) (by omega)) (fun _ _ h=>h) Rq.cl rfl rfl rfl rfl fun vv11 w10 a st hF=>?_
 obtain⟨b13,ad13,n13,c13,ae13,m13,d13,rfl⟩:=Rq.form (st.f 0 rfl)
 refine E.opset (L':=[(2,.int .i64 (sm64 (Rat.floor (rmod ((qx)/(wd)) (((96:Int):Rat)))))),(19,.agg #[.bool b13,.slice ad13 n13 c13,.slice ae13 m13 d13]),(18,.agg #[.bool b7,.slice ad7 n7 c7,.slice ae7 m7 d7]),(17,.int .i64 (sm64 (Rat.floor (rmod ((qx)/(wd)) (((96:Int):Rat)))))),(6,.bool (fit64 (Rat.floor (rmod ((qx)/(wd)) (((96:Int):Rat)))))),(5,.int .i64 (sm64 (Rat.floor (rmod ((qx)/(wd)) (((96:Int):Rat)))))),(16,.bool (fit64 (Rat.floor (rmod ((qx)/(wd)) (((96:Int):Rat)))))),(15,.int .i64 (sm64 (Rat.floor (rmod ((qx)/(wd)) (((96:Int):Rat)))))),(12,.tuple #[.int .i64 (sm64 (Rat.floor (rmod ((qx)/(wd)) (((96:Int):Rat))))),.bool (fit64 (Rat.floor (rmod ((qx)/(wd)) (((96:Int):Rat)))))]),(14,.tuple #[.int .i64 (sm64 (Rat.floor (rmod ((qx)/(wd)) (((96:Int):Rat))))),.bool (fit64 (Rat.floor (rmod ((qx)/(wd)) (((96:Int):Rat)))))]),(13,.agg #[.bool b7,.slice ad7 n7 c7,.slice ae7 m7 d7]),(4,.pointer (some ⟨g4,0,none⟩)),(11,.agg #[.bool b7,.slice ad7 n7 c7,.slice ae7 m7 d7]),(3,.pointer (some ⟨g3,0,none⟩)),(1,.pointer (some ⟨g1,0,none⟩)),(0,.agg #[.bool b2,.slice ad2 n2 c2,.slice ae2 m2 d2])]) hF (r_assign (hF.at 2 rfl)) rfl rfl rfl rfl fun a hF=>?_
 refine S.sto st hF 1 rfl (hF.at 13 rfl) (hF.at 1 rfl) ty_Rat rfl rfl rfl rfl fun w14 a st hF=>?_
 refine E.nil ?_
 refine wp_ret ?_
 have bel:=st.bel
 refine bodyPost_ret (res_tmpcell Tryz.results179 (hF.at 0 rfl) (hF.at 13 rfl) (ld_all ty_Rat (st.bk 1 rfl) rfl)) hF.dfr ?_
 exact⟨_,rv_iv (pk_sm qx),(st.f 0 rfl),bel⟩
theorem sof_any (v1:Value) (qx:Rat) (k:Nat) (w:World) (hT:TabD w) (h1:Rq w v1 qx) (hl:RLim qx k) (hk:k≤800):
 Calls Tryz.prog 164 #[v1] w (RqPost w (sof qx)):=by
 have st:=St.start w
 refine E.enter (nt:=23) (L:=[(0,v1)]) Tryz.func164 rfl rfl rfl (args_cons (i:=0) rfl args_nil) ?_
 intro a hF
 refine wp_seq ?_
 refine E.seq ?_
 obtain⟨b2,ad2,n2,c2,ae2,m2,d2,rfl⟩:=Rq.form h1
 refine S.box st hF (hF.at 0 rfl) rfl rfl fun g1 w1 a st hF=>?_
 refine S.alloc st hF ty_Rat rfl rfl fun g2 w3 a st hF=>?_
 refine E.nil ?_
 refine wp_seq ?_
 refine E.seq ?_
 refine E.opv hF (r_load (hF.at 1 rfl) (ld_all ty_Rat (st.bk 1 rfl) rfl)) rfl rfl rfl rfl fun a hF=>?_
 refine S.callt st hF (r_call Tryz.func179 en179.1 en179.2 (map1 (hF.at 0 rfl))) (place_any _ (qx) k _ (h1.below st.bel) hl (by omega)) (fun _ _ h=>h) Rq.cl rfl rfl rfl rfl fun vv5 w4 a st hF=>?_
 have hpk:=pk_bd (qx)
 obtain⟨b7,ad7,n7,c7,ae7,m7,d7,rfl⟩:=Rq.form (st.f 0 rfl)
 refine E.opv hF (r_move (hF.at 0 rfl)) rfl rfl rfl rfl fun a hF=>?_
 refine E.opv hF (r_extract (v:= .int .i64 (pk (qx))) (hF.at 0 rfl) rfl) rfl rfl rfl rfl fun a hF=>?_
 refine E.opv hF (r_extract (v:= .agg #[.bool b7,.slice ad7 n7 c7,.slice ae7 m7 d7]) (hF.at 1 rfl) rfl) rfl rfl rfl rfl fun a hF=>?_
 refine S.alloc st hF ty_Rat rfl rfl fun g4 w8 a st hF=>?_
 refine E.opv hF (r_assign (hF.at 2 rfl)) rfl rfl rfl rfl fun a hF=>?_
 refine S.sto st hF 0 rfl (hF.at 1 rfl) (hF.at 2 rfl) ty_Rat rfl rfl rfl rfl fun w9 a st hF=>?_
 refine E.nil ?_
 refine wp_seq ?_
 refine E.drawn 10 mixed hF [11,12,13,14,15,16,17,18,19,5] [(fun _ v=>v= .int .i64 (pk (qx))),(fun _ v=>v= .int .i64 (spk (pk (qx)))),(fun w v=>Rq w v (((spk (pk (qx)):Int):Rat))),(fun _ v=>v= .agg #[.bool b7,.slice ad7 n7 c7,.slice ae7 m7 d7]),(fun _ v=>v= .int .i64 (pk (qx))),(fun _ v=>v= .int .i64 (spk (pk (qx)+1)-spk (pk (qx)))),(fun w v=>Rq w v (((spk (pk (qx)+1)-spk (pk (qx)):Int):Rat))),(fun w v=>Rq w v ((pfr (qx))*(((spk (pk (qx)+1)-spk (pk (qx)):Int):Rat)))),(fun w v=>Rq w v ((((spk (pk (qx)):Int):Rat))+((pfr (qx))*(((spk (pk (qx)+1)-spk (pk (qx)):Int):Rat))))),(fun w v=>∃g,v= .pointer (some ⟨g,0,none⟩)∧w9.heap.size≤g∧Own w g [.bool false,.slice none 0 0,.slice none 0 0])] [9] (by decide+kernel) (by decide+kernel) rfl rfl rfl ⟨(Mb.eq _),(Mb.eq _),(fun _ _ _ h hb=>h.below hb),(Mb.eq _),(Mb.eq _),(Mb.eq _),(fun _ _ _ h hb=>h.below hb),(fun _ _ _ h hb=>h.below hb),(fun _ _ _ h hb=>h.below hb),(fun _ _ _ ⟨g,e,l,o⟩ hb=>⟨g,e,l,o.below hb⟩),trivial⟩ ⟨fun _ _ ⟨g,e,_,o⟩=>⟨g,e,o.lt⟩,trivial⟩ ⟨?_,?_,?_,?_,?_,?_,?_,?_,?_,?_,trivial⟩ ?_
 ·intro a' w' hF' hb hd
  exact dv0 (r_move (hF'.at 0 rfl)) rfl rfl rfl
 ·intro a' w' hF' hb hd
  have e11:=sHe hd 0 11 rfl rfl rfl rfl
  exact dcx0 (r_call Tryz.func180 en180.1 en180.2 (map1 e11)) (dsine_any (pk (qx)) _ (hT.below (below_to st.bel hb))) (fun _=>rfl) rfl rfl
 ·intro a' w' hF' hb hd
  have e12:=sHe hd 0 12 rfl rfl rfl rfl
  exact dc0 (r_call Tryz.func20 en20.1 en20.2 (map1 e12)) (rWhole_any (spk (pk (qx))) _ (spk64 (pk (qx))).1 (spk64 (pk (qx))).2) rfl rfl
 ·intro a' w' hF' hb hd
  exact dv0 (r_load (hF'.at 1 rfl) (ld_all ty_Rat ((st.bk 0 rfl).below hb) rfl)) rfl rfl rfl
 ·intro a' w' hF' hb hd
  exact dv0 (r_move (hF'.at 0 rfl)) rfl rfl rfl
 ·intro a' w' hF' hb hd
  have e15:=sHe hd 0 15 rfl rfl rfl rfl
  exact dcx0 (r_call Tryz.func181 en181.1 en181.2 (map1 e15)) (rise_any (pk (qx)) _ (hT.below (below_to st.bel hb)) (by omega) (by omega)) (fun _=>rfl) rfl rfl
 ·intro a' w' hF' hb hd
  have e16:=sHe hd 0 16 rfl rfl rfl rfl
  exact dc0 (r_call Tryz.func20 en20.1 en20.2 (map1 e16)) (rWhole_any (spk (pk (qx)+1)-spk (pk (qx))) _ (dif64 (pk (qx))).1 (dif64 (pk (qx))).2) rfl rfl
 ·intro a' w' hF' hb hd
  have e14:=sHe hd 0 14 rfl rfl rfl rfl
  obtain⟨v17_0,e17,h17_1⟩:=sH hd 1 17 rfl rfl rfl rfl
  exact dc0 (r_call Tryz.func104 en104.1 en104.2 (map2 e14 e17)) (rMul_any _ _ (pfr (qx)) _ (max (4*k+50) 2) _ ((st.f 0 rfl).below hb) h17_1 ((pfr_lim hl).up _ (by omega)) ((rlim_int (limz_64 (dif64 (pk (qx))).1 (dif64 (pk (qx))).2) (by omega)).up _ (by omega)) (by omega)) rfl rfl
 ·intro a' w' hF' hb hd
  obtain⟨v13_0,e13,h13_1⟩:=sH hd 0 13 rfl rfl rfl rfl
  obtain⟨v18_0,e18,h18_1⟩:=sH hd 1 18 rfl rfl rfl rfl
  exact dc0 (r_call Tryz.func75 en75.1 en75.2 (map2 e13 e18)) (rAdd_any _ _ _ _ (max 2 ((4*k+50)+2)) _ h13_1 h18_1 ((rlim_int (limz_64 (spk64 (pk (qx))).1 (spk64 (pk (qx))).2) (by omega)).up _ (by omega)) ((rlim_mul (pfr_lim hl) (rlim_int (limz_64 (dif64 (pk (qx))).1 (dif64 (pk (qx))).2) (by omega))).up _ (by omega)) (by omega)) rfl rfl
 ·intro a' w' hF' hb hd
  exact da0 ty_Rat rfl hb.size rfl
 intro a w10 hF bb hall hne
 have s0:=st
 replace st:=st.to bb
 obtain⟨vv11,e19,hh12⟩:=sS hall 8 19 rfl rfl
 replace st:=st.add hh12 (Rq.cl _)
 clear hh12
 obtain⟨_,e5,g5,rfl,ge5,o5⟩:=sS hall 9 5 rfl rfl
 replace st:=st.push o5.blk (Nat.le_trans s0.bel.size ge5) (s0.ne ge5)
 clear o5
 clear hall hne bb s0
 obtain⟨b13,ad13,n13,c13,ae13,m13,d13,rfl⟩:=Rq.form (st.f 0 rfl)
 replace hF:=hF.add e19
 clear e19
 replace hF:=hF.add e5
 clear e5
 refine S.sto st hF 0 rfl (hF.at 0 rfl) (hF.at 1 rfl) ty_Rat rfl rfl rfl rfl fun w14 a st hF=>?_
 refine E.nil ?_
 refine wp_seq ?_
 refine E.drawn 3 mixed hF [20,21,22] [(fun _ v=>v= .agg #[.bool b13,.slice ad13 n13 c13,.slice ae13 m13 d13]),(fun w v=>Rq w v (((3438:Int):Rat))),(fun w v=>Rq w v (((((spk (pk (qx)):Int):Rat))+((pfr (qx))*(((spk (pk (qx)+1)-spk (pk (qx)):Int):Rat))))/(((3438:Int):Rat))))] [] (by decide+kernel) (by decide+kernel) rfl rfl rfl ⟨(Mb.eq _),(fun _ _ _ h hb=>h.below hb),(fun _ _ _ h hb=>h.below hb),trivial⟩ trivial ⟨?_,?_,?_,trivial⟩ ?_
 ·intro a' w' hF' hb hd
  exact dv0 (r_load (hF'.at 0 rfl) (ld_all ty_Rat ((st.bk 0 rfl).below hb) rfl)) rfl rfl rfl
 ·intro a' w' hF' hb hd
  exact dc0 (r_call Tryz.func20 en20.1 en20.2 (map1 ev_c)) (rWhole_any (3438) _ (by decide) (by decide)) rfl rfl
 ·intro a' w' hF' hb hd
  have e20:=sHe hd 0 20 rfl rfl rfl rfl
  obtain⟨v21_0,e21,h21_1⟩:=sH hd 1 21 rfl rfl rfl rfl
  exact dc0 (r_call Tryz.func131 en131.1 en131.2 (map2 e20 e21)) (rDiv_any _ _ _ _ (max (2+((4*k+50)+2)+1) 2) _ ((st.f 0 rfl).below hb) h21_1 ((rlim_add (rlim_int (limz_64 (spk64 (pk (qx))).1 (spk64 (pk (qx))).2) (by omega)) (rlim_mul (pfr_lim hl) (rlim_int (limz_64 (dif64 (pk (qx))).1 (dif64 (pk (qx))).2) (by omega)))).up _ (by omega)) ((rlim_int (limz_64 (by decide) (by decide)) (by omega)).up _ (by omega)) (by omega)) rfl rfl
 intro a w15 hF bb hall hne
 replace st:=st.to bb
 obtain⟨vv16,e22,hh17⟩:=sS hall 2 22 rfl rfl
 replace st:=st.add hh17 (Rq.cl _)
 clear hh17
 clear hall hne bb
 obtain⟨b18,ad18,n18,c18,ae18,m18,d18,rfl⟩:=Rq.form (st.f 0 rfl)
 replace hF:=hF.add e22
 clear e22
 refine S.sto st hF 2 rfl (hF.at 10 rfl) (hF.at 0 rfl) ty_Rat rfl rfl rfl rfl fun w19 a st hF=>?_
 refine E.nil ?_
 refine wp_ret ?_
 refine S.ret Tryz.results164 st hF (hF.at 10 rfl) 2 rfl ty_Rat rfl hF.dfr ?_
 have bel:=st.bel
 exact⟨_,rfl,Rq.castM (st.f 0 rfl) (sof_pk qx),bel⟩
theorem arc_pos (v1:Value) (qx:Rat) (k:Nat) (w:World) (hT:TabD w) (h1:Rq w v1 qx) (hl:RLim qx k) (hk:k≤1000) (hn:¬sz (Rat.num qx)<0):
 Calls Tryz.prog 165 #[v1] w (RqPost w (arcv qx)):=by
 have hx:¬qx<0:=fun e=>hn (sz_lt0.2 e)
 have st:=St.start w
 refine E.enter (nt:=45) (L:=[(0,v1)]) Tryz.func165 rfl rfl rfl (args_cons (i:=0) rfl args_nil) ?_
 intro a hF
 refine wp_seq ?_
 refine E.seq ?_
 obtain⟨b2,ad2,n2,c2,ae2,m2,d2,rfl⟩:=Rq.form h1
 refine S.box st hF (hF.at 0 rfl) rfl rfl fun g1 w1 a st hF=>?_
 refine S.alloc st hF ty_Rat rfl rfl fun g2 w3 a st hF=>?_
 refine E.nil ?_
 refine wp_seq ?_
 refine wp_seq ?_
 refine E.seq ?_
 refine E.opv hF (r_load (hF.at 1 rfl) (ld_all ty_Rat (st.bk 1 rfl) rfl)) rfl rfl rfl rfl fun a hF=>?_
 refine S.callx st hF (r_call Tryz.func32 en32.1 en32.2 (map1 (hF.at 0 rfl))) (rsgn_any _ (qx) _ (h1.below st.bel)) rfl rfl rfl rfl fun w4 a st hF=>?_
 refine E.opv hF (r_bin (hF.at 0 rfl) ev_c eg_scalar (bi_int (ic_lss (c:=false) (dec_ff hn)) (by simp))) rfl rfl rfl rfl fun a hF=>?_
 refine E.nil ?_
 refine wp_cond_false (hF.at 0 rfl) ?_
 refine wp_skip ?_
 refine E.norm ?_
 refine wp_seq ?_
 refine E.drawn 4 mixed hF [14,15,16,3] [(fun _ v=>v= .agg #[.bool b2,.slice ad2 n2 c2,.slice ae2 m2 d2]),(fun w v=>Rq w v (((3438:Int):Rat))),(fun w v=>Rq w v ((qx)*(((3438:Int):Rat)))),(fun w v=>∃g,v= .pointer (some ⟨g,0,none⟩)∧w4.heap.size≤g∧Own w g [.bool false,.slice none 0 0,.slice none 0 0])] [3] (by decide+kernel) (by decide+kernel) rfl rfl rfl ⟨(Mb.eq _),(fun _ _ _ h hb=>h.below hb),(fun _ _ _ h hb=>h.below hb),(fun _ _ _ ⟨g,e,l,o⟩ hb=>⟨g,e,l,o.below hb⟩),trivial⟩ ⟨fun _ _ ⟨g,e,_,o⟩=>⟨g,e,o.lt⟩,trivial⟩ ⟨?_,?_,?_,?_,trivial⟩ ?_
 ·intro a' w' hF' hb hd
  exact dv0 (r_load (hF'.at 4 rfl) (ld_all ty_Rat ((st.bk 1 rfl).below hb) rfl)) rfl rfl rfl
 ·intro a' w' hF' hb hd
  exact dc0 (r_call Tryz.func20 en20.1 en20.2 (map1 ev_c)) (rWhole_any (3438) _ (by decide) (by decide)) rfl rfl
 ·intro a' w' hF' hb hd
  have e14:=sHe hd 0 14 rfl rfl rfl rfl
  obtain⟨v15_0,e15,h15_1⟩:=sH hd 1 15 rfl rfl rfl rfl
  exact dc0 (r_call Tryz.func104 en104.1 en104.2 (map2 e14 e15)) (rMul_any _ _ (qx) _ (max k 2) _ (h1.below (below_to st.bel hb)) h15_1 (hl.up _ (by omega)) ((rlim_int (limz_64 (by decide) (by decide)) (by omega)).up _ (by omega)) (by omega)) rfl rfl
 ·intro a' w' hF' hb hd
  exact da0 ty_Rat rfl hb.size rfl
 intro a w5 hF bb hall hne
 have s0:=st
 replace st:=st.to bb
 obtain⟨vv6,e16,hh7⟩:=sS hall 2 16 rfl rfl
 replace st:=st.add hh7 (Rq.cl _)
 clear hh7
 obtain⟨_,e3,g3,rfl,ge3,o3⟩:=sS hall 3 3 rfl rfl
 replace st:=st.push o3.blk (Nat.le_trans s0.bel.size ge3) (s0.ne ge3)
 clear o3
 clear hall hne bb s0
 obtain⟨b8,ad8,n8,c8,ae8,m8,d8,rfl⟩:=Rq.form (st.f 0 rfl)
 replace hF:=hF.add e16
 clear e16
 replace hF:=hF.add e3
 clear e3
 refine S.sto st hF 0 rfl (hF.at 0 rfl) (hF.at 1 rfl) ty_Rat rfl rfl rfl rfl fun w9 a st hF=>?_
 refine E.nil ?_
 refine wp_seq ?_
 refine wp_seq ?_
 refine E.seq ?_
 refine E.opv hF (r_move ev_c) rfl rfl rfl rfl fun a hF=>?_
 refine E.nil ?_
 refine wp_block ?_
 refine E.loop (fun mq a wv=>∃(j:Nat),j≤24∧ykf (qx*((3438:Int):Rat)) (24-j) j=yk (qx*((3438:Int):Rat))∧Fr 45 a [(17,.int .i64 ((j:Nat):Int)),(3,.pointer (some ⟨g3,0,none⟩)),(2,.pointer (some ⟨g2,0,none⟩))]∧St w wv [(g3,[.bool b8,.slice ad8 n8 c8,.slice ae8 m8 d8]),(g2,[.bool false,.slice none 0 0,.slice none 0 0])] [fun w=>Rq w (.agg #[.bool false,.slice none 0 0,.slice none 0 0]) 0,fun w=>Rq w (.agg #[.bool b8,.slice ad8 n8 c8,.slice ae8 m8 d8]) ((qx)*(((3438:Int):Rat)))]∧mq=24-j) (24-0) ?_ ?_
 ·exact⟨0,(by omega),rfl,Fr.pick (L':=[(17,.int .i64 0),(3,.pointer (some ⟨g3,0,none⟩)),(2,.pointer (some ⟨g2,0,none⟩))]) hF [0,1,6] rfl,(st.add (Rq.zero _) (Rq.cl _)).pick [0,1] [0,1] rfl rfl (by decide),rfl⟩
 ·rintro mq a w10 ⟨j,hj,hyk,hF,st,hm⟩
  by_cases hjn:j<24
  ·refine wp_seq ?_
   refine E.seq ?_
   refine E.opv hF (r_bin (hF.at 0 rfl) ev_c eg_scalar (bi_int (ic_lss (c:=true) (dec_tt (by omega))) (by simp))) rfl rfl rfl rfl fun a hF=>?_
   refine E.nil ?_
   refine wp_seq ?_
   refine wp_cond_true (hF.at 0 rfl) ?_
   refine wp_skip ?_
   refine E.norm ?_
   refine wp_seq ?_
   refine wp_block ?_
   refine wp_seq ?_
   refine E.seq ?_
   refine E.opv hF (r_move (hF.at 1 rfl)) rfl rfl rfl rfl fun a hF=>?_
   refine E.opv hF (r_assign (hF.at 0 rfl)) rfl rfl rfl rfl fun a hF=>?_
   refine E.nil ?_
   refine wp_seq ?_
   refine wp_seq ?_
   by_cases hc11:0<qc ((qx)*(((3438:Int):Rat))) (((spk (((j:Nat):Int)+1):Int):Rat))
   ·refine E.drawn 7 mixed hF [20,21,22,23,24,25,26] [(fun _ v=>v= .agg #[.bool b8,.slice ad8 n8 c8,.slice ae8 m8 d8]),(fun _ v=>v= .int .i64 ((j:Nat):Int)),(fun _ v=>v= .int .i64 (((j:Nat):Int)+1)),(fun _ v=>v= .int .i64 (spk (((j:Nat):Int)+1))),(fun w v=>Rq w v (((spk (((j:Nat):Int)+1):Int):Rat))),(fun _ v=>v= .int .i64 (qc ((qx)*(((3438:Int):Rat))) (((spk (((j:Nat):Int)+1):Int):Rat)))),(fun _ v=>v= .bool true)] [] (by decide+kernel) (by decide+kernel) rfl rfl rfl ⟨(Mb.eq _),(Mb.eq _),(Mb.eq _),(Mb.eq _),(fun _ _ _ h hb=>h.below hb),(Mb.eq _),(Mb.eq _),trivial⟩ trivial ⟨?_,?_,?_,?_,?_,?_,?_,trivial⟩ ?_
    ·intro a' w' hF' hb hd
     exact dv0 (r_load (hF'.at 4 rfl) (ld_all ty_Rat ((st.bk 0 rfl).below hb) rfl)) rfl rfl rfl
    ·intro a' w' hF' hb hd
     exact dv0 (r_move (hF'.at 0 rfl)) rfl rfl rfl
    ·intro a' w' hF' hb hd
     have e21:=sHe hd 0 21 rfl rfl rfl rfl
     exact dv0 (r_bin e21 ev_c eg_scalar (ia_add (by omega) (by omega))) rfl rfl rfl
    ·intro a' w' hF' hb hd
     have e22:=sHe hd 0 22 rfl rfl rfl rfl
     exact dcx0 (r_call Tryz.func182 en182.1 en182.2 (map1 e22)) (high_spk (((j:Nat):Int)+1) _ (hT.below (below_to st.bel hb)) (by omega) (by omega)) (fun _=>rfl) rfl rfl
    ·intro a' w' hF' hb hd
     have e23:=sHe hd 0 23 rfl rfl rfl rfl
     exact dc0 (r_call Tryz.func20 en20.1 en20.2 (map1 e23)) (rWhole_any (spk (((j:Nat):Int)+1)) _ (spk64 (((j:Nat):Int)+1)).1 (spk64 (((j:Nat):Int)+1)).2) rfl rfl
    ·intro a' w' hF' hb hd
     have e20:=sHe hd 0 20 rfl rfl rfl rfl
     obtain⟨v24_0,e24,h24_1⟩:=sH hd 1 24 rfl rfl rfl rfl
     exact dcx0 (r_call Tryz.func19 en19.1 en19.2 (map2 e20 e24)) (rCmp_any _ _ _ _ (max (k+2) 2) _ ((st.f 1 rfl).below hb) h24_1 ((rlim_mul hl (rlim_int (limz_64 (by decide) (by decide)) (by omega))).up _ (by omega)) ((rlim_int (limz_64 (spk64 (((j:Nat):Int)+1)).1 (spk64 (((j:Nat):Int)+1)).2) (by omega)).up _ (by omega)) (by omega)) (fun _=>rfl) rfl rfl
    ·intro a' w' hF' hb hd
     have e25:=sHe hd 0 25 rfl rfl rfl rfl
     exact dv0 (r_bin e25 ev_c eg_scalar (bi_int (ic_gtr (c:=true) (dec_tt hc11)) (by simp))) rfl rfl rfl
    intro a w12 hF bb hall hne
    replace st:=st.to bb
    have e26:=sSe hall 6 26 rfl rfl
    clear hall hne bb
    replace hF:=hF.add e26
    clear e26
    refine E.nil ?_
    refine wp_cond_true (hF.at 0 rfl) ?_
    refine wp_exit ?_
    refine E.past ?_
    refine E.out (id:=1) ?_
    refine E.norm ?_
    refine E.seq ?_
    refine E.opv hF (r_bin (hF.at 4 rfl) ev_c eg_scalar (ia_add (by omega) (by omega))) rfl rfl rfl rfl fun a hF=>?_
    refine E.opset (L':=[(17,.int .i64 (((j:Nat):Int)+1)),(43,.int .i64 (((j:Nat):Int)+1)),(26,.bool true),(4,.int .i64 ((j:Nat):Int)),(19,.int .i64 ((j:Nat):Int)),(18,.bool true),(3,.pointer (some ⟨g3,0,none⟩)),(2,.pointer (some ⟨g2,0,none⟩))]) hF (r_move (hF.at 0 rfl)) rfl rfl rfl rfl fun a hF=>?_
    refine E.nil0 ?_
    refine E.norm ?_
    exact⟨24-(j+1),by omega,⟨(j+1),(by omega),(yk_next (by omega) hyk hc11),(by rw[show((j+1:Nat):Int)=((j:Nat):Int)+1 from by omega];exact Fr.pick (L':=[(17,.int .i64 (((j:Nat):Int)+1)),(3,.pointer (some ⟨g3,0,none⟩)),(2,.pointer (some ⟨g2,0,none⟩))]) hF [0,6,7] rfl),(st.add (st.f 0 rfl) (Rq.cl _)).pick [0,1] [0,2] rfl rfl (by decide),rfl⟩⟩
   ·refine E.drawn 7 mixed hF [20,21,22,23,24,25,26] [(fun _ v=>v= .agg #[.bool b8,.slice ad8 n8 c8,.slice ae8 m8 d8]),(fun _ v=>v= .int .i64 ((j:Nat):Int)),(fun _ v=>v= .int .i64 (((j:Nat):Int)+1)),(fun _ v=>v= .int .i64 (spk (((j:Nat):Int)+1))),(fun w v=>Rq w v (((spk (((j:Nat):Int)+1):Int):Rat))),(fun _ v=>v= .int .i64 (qc ((qx)*(((3438:Int):Rat))) (((spk (((j:Nat):Int)+1):Int):Rat)))),(fun _ v=>v= .bool false)] [] (by decide+kernel) (by decide+kernel) rfl rfl rfl ⟨(Mb.eq _),(Mb.eq _),(Mb.eq _),(Mb.eq _),(fun _ _ _ h hb=>h.below hb),(Mb.eq _),(Mb.eq _),trivial⟩ trivial ⟨?_,?_,?_,?_,?_,?_,?_,trivial⟩ ?_
    ·intro a' w' hF' hb hd
     exact dv0 (r_load (hF'.at 4 rfl) (ld_all ty_Rat ((st.bk 0 rfl).below hb) rfl)) rfl rfl rfl
    ·intro a' w' hF' hb hd
     exact dv0 (r_move (hF'.at 0 rfl)) rfl rfl rfl
    ·intro a' w' hF' hb hd
     have e21:=sHe hd 0 21 rfl rfl rfl rfl
     exact dv0 (r_bin e21 ev_c eg_scalar (ia_add (by omega) (by omega))) rfl rfl rfl
    ·intro a' w' hF' hb hd
     have e22:=sHe hd 0 22 rfl rfl rfl rfl
     exact dcx0 (r_call Tryz.func182 en182.1 en182.2 (map1 e22)) (high_spk (((j:Nat):Int)+1) _ (hT.below (below_to st.bel hb)) (by omega) (by omega)) (fun _=>rfl) rfl rfl
    ·intro a' w' hF' hb hd
     have e23:=sHe hd 0 23 rfl rfl rfl rfl
     exact dc0 (r_call Tryz.func20 en20.1 en20.2 (map1 e23)) (rWhole_any (spk (((j:Nat):Int)+1)) _ (spk64 (((j:Nat):Int)+1)).1 (spk64 (((j:Nat):Int)+1)).2) rfl rfl
    ·intro a' w' hF' hb hd
     have e20:=sHe hd 0 20 rfl rfl rfl rfl
     obtain⟨v24_0,e24,h24_1⟩:=sH hd 1 24 rfl rfl rfl rfl
     exact dcx0 (r_call Tryz.func19 en19.1 en19.2 (map2 e20 e24)) (rCmp_any _ _ _ _ (max (k+2) 2) _ ((st.f 1 rfl).below hb) h24_1 ((rlim_mul hl (rlim_int (limz_64 (by decide) (by decide)) (by omega))).up _ (by omega)) ((rlim_int (limz_64 (spk64 (((j:Nat):Int)+1)).1 (spk64 (((j:Nat):Int)+1)).2) (by omega)).up _ (by omega)) (by omega)) (fun _=>rfl) rfl rfl
    ·intro a' w' hF' hb hd
     have e25:=sHe hd 0 25 rfl rfl rfl rfl
     exact dv0 (r_bin e25 ev_c eg_scalar (bi_int (ic_gtr (c:=false) (dec_ff hc11)) (by simp))) rfl rfl rfl
    intro a w13 hF bb hall hne
    replace st:=st.to bb
    have e26:=sSe hall 6 26 rfl rfl
    clear hall hne bb
    replace hF:=hF.add e26
    clear e26
    refine E.nil ?_
    refine wp_cond_false (hF.at 0 rfl) ?_
    refine wp_skip ?_
    refine E.norm ?_
    refine wp_seq ?_
    refine E.drawn 6 mixed hF [27,28,29,30,31,5] [(fun _ v=>v= .agg #[.bool b8,.slice ad8 n8 c8,.slice ae8 m8 d8]),(fun _ v=>v= .int .i64 ((j:Nat):Int)),(fun _ v=>v= .int .i64 (spk ((j:Nat):Int))),(fun w v=>Rq w v (((spk ((j:Nat):Int):Int):Rat))),(fun w v=>Rq w v (((qx)*(((3438:Int):Rat)))-(((spk ((j:Nat):Int):Int):Rat)))),(fun w v=>∃g,v= .pointer (some ⟨g,0,none⟩)∧w13.heap.size≤g∧Own w g [.bool false,.slice none 0 0,.slice none 0 0])] [5] (by decide+kernel) (by decide+kernel) rfl rfl rfl ⟨(Mb.eq _),(Mb.eq _),(Mb.eq _),(fun _ _ _ h hb=>h.below hb),(fun _ _ _ h hb=>h.below hb),(fun _ _ _ ⟨g,e,l,o⟩ hb=>⟨g,e,l,o.below hb⟩),trivial⟩ ⟨fun _ _ ⟨g,e,_,o⟩=>⟨g,e,o.lt⟩,trivial⟩ ⟨?_,?_,?_,?_,?_,?_,trivial⟩ ?_
    ·intro a' w' hF' hb hd
     exact dv0 (r_load (hF'.at 5 rfl) (ld_all ty_Rat ((st.bk 0 rfl).below hb) rfl)) rfl rfl rfl
    ·intro a' w' hF' hb hd
     exact dv0 (r_move (hF'.at 1 rfl)) rfl rfl rfl
    ·intro a' w' hF' hb hd
     have e28:=sHe hd 0 28 rfl rfl rfl rfl
     exact dcx0 (r_call Tryz.func182 en182.1 en182.2 (map1 e28)) (high_spk ((j:Nat):Int) _ (hT.below (below_to st.bel hb)) (by omega) (by omega)) (fun _=>rfl) rfl rfl
    ·intro a' w' hF' hb hd
     have e29:=sHe hd 0 29 rfl rfl rfl rfl
     exact dc0 (r_call Tryz.func20 en20.1 en20.2 (map1 e29)) (rWhole_any (spk ((j:Nat):Int)) _ (spk64 ((j:Nat):Int)).1 (spk64 ((j:Nat):Int)).2) rfl rfl
    ·intro a' w' hF' hb hd
     have e27:=sHe hd 0 27 rfl rfl rfl rfl
     obtain⟨v30_0,e30,h30_1⟩:=sH hd 1 30 rfl rfl rfl rfl
     exact dc0 (r_call Tryz.func37 en37.1 en37.2 (map2 e27 e30)) (rSub_any _ _ _ _ (max (k+2) 2) _ ((st.f 1 rfl).below hb) h30_1 ((rlim_mul hl (rlim_int (limz_64 (by decide) (by decide)) (by omega))).up _ (by omega)) ((rlim_int (limz_64 (spk64 ((j:Nat):Int)).1 (spk64 ((j:Nat):Int)).2) (by omega)).up _ (by omega)) (by omega)) rfl rfl
    ·intro a' w' hF' hb hd
     exact da0 ty_Rat rfl hb.size rfl
    intro a w14 hF bb hall hne
    have s0:=st
    replace st:=st.to bb
    obtain⟨vv15,e31,hh16⟩:=sS hall 4 31 rfl rfl
    replace st:=st.add hh16 (Rq.cl _)
    clear hh16
    obtain⟨_,e5,g5,rfl,ge5,o5⟩:=sS hall 5 5 rfl rfl
    replace st:=st.push o5.blk (Nat.le_trans s0.bel.size ge5) (s0.ne ge5)
    clear o5
    clear hall hne bb s0
    obtain⟨b17,ad17,n17,c17,ae17,m17,d17,rfl⟩:=Rq.form (st.f 0 rfl)
    replace hF:=hF.add e31
    clear e31
    replace hF:=hF.add e5
    clear e5
    refine S.sto st hF 0 rfl (hF.at 0 rfl) (hF.at 1 rfl) ty_Rat rfl rfl rfl rfl fun w18 a st hF=>?_
    refine E.nil ?_
    refine wp_seq ?_
    refine E.drawn 6 mixed hF [32,33,34,35,36,6] [(fun _ v=>v= .agg #[.bool b17,.slice ad17 n17 c17,.slice ae17 m17 d17]),(fun _ v=>v= .int .i64 ((j:Nat):Int)),(fun _ v=>v= .int .i64 (spk (((j:Nat):Int)+1)-spk ((j:Nat):Int))),(fun w v=>Rq w v (((spk (((j:Nat):Int)+1)-spk ((j:Nat):Int):Int):Rat))),(fun w v=>Rq w v ((((qx)*(((3438:Int):Rat)))-(((spk ((j:Nat):Int):Int):Rat)))/(((spk (((j:Nat):Int)+1)-spk ((j:Nat):Int):Int):Rat)))),(fun w v=>∃g,v= .pointer (some ⟨g,0,none⟩)∧w18.heap.size≤g∧Own w g [.bool false,.slice none 0 0,.slice none 0 0])] [5] (by decide+kernel) (by decide+kernel) rfl rfl rfl ⟨(Mb.eq _),(Mb.eq _),(Mb.eq _),(fun _ _ _ h hb=>h.below hb),(fun _ _ _ h hb=>h.below hb),(fun _ _ _ ⟨g,e,l,o⟩ hb=>⟨g,e,l,o.below hb⟩),trivial⟩ ⟨fun _ _ ⟨g,e,_,o⟩=>⟨g,e,o.lt⟩,trivial⟩ ⟨?_,?_,?_,?_,?_,?_,trivial⟩ ?_
    ·intro a' w' hF' hb hd
     exact dv0 (r_load (hF'.at 0 rfl) (ld_all ty_Rat ((st.bk 0 rfl).below hb) rfl)) rfl rfl rfl
    ·intro a' w' hF' hb hd
     exact dv0 (r_move (hF'.at 3 rfl)) rfl rfl rfl
    ·intro a' w' hF' hb hd
     have e33:=sHe hd 0 33 rfl rfl rfl rfl
     exact dcx0 (r_call Tryz.func181 en181.1 en181.2 (map1 e33)) (rise_any ((j:Nat):Int) _ (hT.below (below_to st.bel hb)) (by omega) (by omega)) (fun _=>rfl) rfl rfl
    ·intro a' w' hF' hb hd
     have e34:=sHe hd 0 34 rfl rfl rfl rfl
     exact dc0 (r_call Tryz.func20 en20.1 en20.2 (map1 e34)) (rWhole_any (spk (((j:Nat):Int)+1)-spk ((j:Nat):Int)) _ (dif64 (((j:Nat):Int))).1 (dif64 (((j:Nat):Int))).2) rfl rfl
    ·intro a' w' hF' hb hd
     have e32:=sHe hd 0 32 rfl rfl rfl rfl
     obtain⟨v35_0,e35,h35_1⟩:=sH hd 1 35 rfl rfl rfl rfl
     exact dc0 (r_call Tryz.func131 en131.1 en131.2 (map2 e32 e35)) (rDiv_any _ _ _ _ (max ((k+2)+2+1) 2) _ ((st.f 0 rfl).below hb) h35_1 ((rlim_sub (rlim_mul hl (rlim_int (limz_64 (by decide) (by decide)) (by omega))) (rlim_int (limz_64 (spk64 ((j:Nat):Int)).1 (spk64 ((j:Nat):Int)).2) (by omega))).up _ (by omega)) ((rlim_int (limz_64 (dif64 (((j:Nat):Int))).1 (dif64 (((j:Nat):Int))).2) (by omega)).up _ (by omega)) (by omega)) rfl rfl
    ·intro a' w' hF' hb hd
     exact da0 ty_Rat rfl hb.size rfl
    intro a w19 hF bb hall hne
    have s0:=st
    replace st:=st.to bb
    obtain⟨vv20,e36,hh21⟩:=sS hall 4 36 rfl rfl
    replace st:=st.add hh21 (Rq.cl _)
    clear hh21
    obtain⟨_,e6,g6,rfl,ge6,o6⟩:=sS hall 5 6 rfl rfl
    replace st:=st.push o6.blk (Nat.le_trans s0.bel.size ge6) (s0.ne ge6)
    clear o6
    clear hall hne bb s0
    obtain⟨b22,ad22,n22,c22,ae22,m22,d22,rfl⟩:=Rq.form (st.f 0 rfl)
    replace hF:=hF.add e36
    clear e36
    replace hF:=hF.add e6
    clear e6
    refine S.sto st hF 0 rfl (hF.at 0 rfl) (hF.at 1 rfl) ty_Rat rfl rfl rfl rfl fun w23 a st hF=>?_
    refine E.nil ?_
    refine wp_seq ?_
    refine E.drawn 6 mixed hF [37,38,39,40,41,42] [(fun _ v=>v= .agg #[.bool b22,.slice ad22 n22 c22,.slice ae22 m22 d22]),(fun _ v=>v= .int .i64 ((j:Nat):Int)),(fun w v=>Rq w v (((((j:Nat):Int):Int):Rat))),(fun w v=>Rq w v (((((qx)*(((3438:Int):Rat)))-(((spk ((j:Nat):Int):Int):Rat)))/(((spk (((j:Nat):Int)+1)-spk ((j:Nat):Int):Int):Rat)))+(((((j:Nat):Int):Int):Rat)))),(fun w v=>Rq w v (wd)),(fun w v=>Rq w v ((((((qx)*(((3438:Int):Rat)))-(((spk ((j:Nat):Int):Int):Rat)))/(((spk (((j:Nat):Int)+1)-spk ((j:Nat):Int):Int):Rat)))+(((((j:Nat):Int):Int):Rat)))*(wd)))] [] (by decide+kernel) (by decide+kernel) rfl rfl rfl ⟨(Mb.eq _),(Mb.eq _),(fun _ _ _ h hb=>h.below hb),(fun _ _ _ h hb=>h.below hb),(fun _ _ _ h hb=>h.below hb),(fun _ _ _ h hb=>h.below hb),trivial⟩ trivial ⟨?_,?_,?_,?_,?_,?_,trivial⟩ ?_
    ·intro a' w' hF' hb hd
     exact dv0 (r_load (hF'.at 0 rfl) (ld_all ty_Rat ((st.bk 0 rfl).below hb) rfl)) rfl rfl rfl
    ·intro a' w' hF' hb hd
     exact dv0 (r_move (hF'.at 5 rfl)) rfl rfl rfl
    ·intro a' w' hF' hb hd
     have e38:=sHe hd 0 38 rfl rfl rfl rfl
     exact dc0 (r_call Tryz.func20 en20.1 en20.2 (map1 e38)) (rWhole_any (((j:Nat):Int)) _ (by omega) (by omega)) rfl rfl
    ·intro a' w' hF' hb hd
     have e37:=sHe hd 0 37 rfl rfl rfl rfl
     obtain⟨v39_0,e39,h39_1⟩:=sH hd 1 39 rfl rfl rfl rfl
     exact dc0 (r_call Tryz.func75 en75.1 en75.2 (map2 e37 e39)) (rAdd_any _ _ _ _ (max (((k+2)+2+1)+2) 2) _ ((st.f 0 rfl).below hb) h39_1 ((rlim_div (rlim_sub (rlim_mul hl (rlim_int (limz_64 (by decide) (by decide)) (by omega))) (rlim_int (limz_64 (spk64 ((j:Nat):Int)).1 (spk64 ((j:Nat):Int)).2) (by omega))) (rlim_int (limz_64 (dif64 (((j:Nat):Int))).1 (dif64 (((j:Nat):Int))).2) (by omega))).up _ (by omega)) ((rlim_int (limz_64 (by omega) (by omega)) (by omega)).up _ (by omega)) (by omega)) rfl rfl
    ·intro a' w' hF' hb hd
     exact dc0 (r_call Tryz.func183 en183.1 en183.2 map0) (width_any _) rfl rfl
    ·intro a' w' hF' hb hd
     obtain⟨v40_0,e40,h40_1⟩:=sH hd 0 40 rfl rfl rfl rfl
     obtain⟨v41_0,e41,h41_1⟩:=sH hd 1 41 rfl rfl rfl rfl
     exact dc0 (r_call Tryz.func104 en104.1 en104.2 (map2 e40 e41)) (rMul_any _ _ _ (wd) (max ((((k+2)+2+1)+2)+2+1) 2) _ h40_1 h41_1 ((rlim_add (rlim_div (rlim_sub (rlim_mul hl (rlim_int (limz_64 (by decide) (by decide)) (by omega))) (rlim_int (limz_64 (spk64 ((j:Nat):Int)).1 (spk64 ((j:Nat):Int)).2) (by omega))) (rlim_int (limz_64 (dif64 (((j:Nat):Int))).1 (dif64 (((j:Nat):Int))).2) (by omega))) (rlim_int (limz_64 (by omega) (by omega)) (by omega))).up _ (by omega)) (wd_lim.up _ (by omega)) (by omega)) rfl rfl
    intro a w24 hF bb hall hne
    replace st:=st.to bb
    obtain⟨vv25,e42,hh26⟩:=sS hall 5 42 rfl rfl
    replace st:=st.add hh26 (Rq.cl _)
    clear hh26
    clear hall hne bb
    obtain⟨b27,ad27,n27,c27,ae27,m27,d27,rfl⟩:=Rq.form (st.f 0 rfl)
    replace hF:=hF.add e42
    clear e42
    refine S.sto st hF 3 rfl (hF.at 11 rfl) (hF.at 0 rfl) ty_Rat rfl rfl rfl rfl fun w28 a st hF=>?_
    refine E.nil ?_
    refine wp_ret ?_
    refine S.ret Tryz.results165 st hF (hF.at 11 rfl) 3 rfl ty_Rat rfl hF.dfr ?_
    have bel:=st.bel
    exact⟨_,rfl,Rq.castM (st.f 0 rfl) (arc_here hx hjn (yk_here hjn hyk hc11)),bel⟩
  ·refine wp_seq ?_
   refine E.seq ?_
   refine E.opv hF (r_bin (hF.at 0 rfl) ev_c eg_scalar (bi_int (ic_lss (c:=false) (dec_ff (by omega))) (by simp))) rfl rfl rfl rfl fun a hF=>?_
   refine E.nil ?_
   refine wp_seq ?_
   refine wp_cond_false (hF.at 0 rfl) ?_
   refine wp_exit ?_
   refine E.past ?_
   refine E.past ?_
   refine E.out (id:=0) ?_
   refine E.norm ?_
   refine wp_seq ?_
   refine E.seq ?_
   refine S.call st hF (r_call Tryz.func20 en20.1 en20.2 (map1 ev_c)) (rWhole_any (90) _ (by decide) (by decide)) (fun _ _ h=>h) Rq.cl rfl rfl rfl rfl fun vv30 w29 a st hF=>?_
   obtain⟨b32,ad32,n32,c32,ae32,m32,d32,rfl⟩:=Rq.form (st.f 0 rfl)
   refine S.sto st hF 1 rfl (hF.at 4 rfl) (hF.at 0 rfl) ty_Rat rfl rfl rfl rfl fun w33 a st hF=>?_
   refine E.nil ?_
   refine wp_ret ?_
   refine S.ret Tryz.results165 st hF (hF.at 4 rfl) 1 rfl ty_Rat rfl hF.dfr ?_
   have bel:=st.bel
   have e24:j=24:=by omega
   subst e24
   exact⟨_,rfl,Rq.castM (st.f 0 rfl) (arc_end hx hyk.symm),bel⟩
theorem arc_neg_any (v1:Value) (qx:Rat) (k:Nat) (w:World) (hT:TabD w) (h1:Rq w v1 qx) (hl:RLim qx k) (hk:k≤1000) (hn:sz (Rat.num qx)<0):
 Calls Tryz.prog 165 #[v1] w (RqPost w (arcv qx)):=by
 have hx:qx<0:=sz_lt0.1 hn
 have st:=St.start w
 refine E.enter (nt:=45) (L:=[(0,v1)]) Tryz.func165 rfl rfl rfl (args_cons (i:=0) rfl args_nil) ?_
 intro a hF
 refine wp_seq ?_
 refine E.seq ?_
 obtain⟨b2,ad2,n2,c2,ae2,m2,d2,rfl⟩:=Rq.form h1
 refine S.box st hF (hF.at 0 rfl) rfl rfl fun g1 w1 a st hF=>?_
 refine S.alloc st hF ty_Rat rfl rfl fun g2 w3 a st hF=>?_
 refine E.nil ?_
 refine wp_seq ?_
 refine wp_seq ?_
 refine E.seq ?_
 refine E.opv hF (r_load (hF.at 1 rfl) (ld_all ty_Rat (st.bk 1 rfl) rfl)) rfl rfl rfl rfl fun a hF=>?_
 refine S.callx st hF (r_call Tryz.func32 en32.1 en32.2 (map1 (hF.at 0 rfl))) (rsgn_any _ (qx) _ (h1.below st.bel)) rfl rfl rfl rfl fun w4 a st hF=>?_
 refine E.opv hF (r_bin (hF.at 0 rfl) ev_c eg_scalar (bi_int (ic_lss (c:=true) (dec_tt hn)) (by simp))) rfl rfl rfl rfl fun a hF=>?_
 refine E.nil ?_
 refine wp_cond_true (hF.at 0 rfl) ?_
 refine wp_seq ?_
 refine E.seq ?_
 refine E.opv hF (r_load (hF.at 4 rfl) (ld_all ty_Rat (st.bk 1 rfl) rfl)) rfl rfl rfl rfl fun a hF=>?_
 refine S.call st hF (r_call Tryz.func80 en80.1 en80.2 (map1 (hF.at 0 rfl))) (rOpp_any _ (qx) _ (h1.below st.bel)) (fun _ _ h=>h) Rq.cl rfl rfl rfl rfl fun vv6 w5 a st hF=>?_
 obtain⟨b8,ad8,n8,c8,ae8,m8,d8,rfl⟩:=Rq.form (st.f 0 rfl)
 refine S.call st hF (r_call Tryz.func165 en165.1 en165.2 (map1 (hF.at 0 rfl))) (arc_pos _ (-(qx)) k _ (hT.below st.bel) (st.f 0 rfl) (rlim_neg hl) (by omega) (neg_not hx)) (fun _ _ h=>h) Rq.cl rfl rfl rfl rfl fun vv10 w9 a st hF=>?_
 obtain⟨b12,ad12,n12,c12,ae12,m12,d12,rfl⟩:=Rq.form (st.f 0 rfl)
 refine S.call st hF (r_call Tryz.func80 en80.1 en80.2 (map1 (hF.at 0 rfl))) (rOpp_any _ _ _ (st.f 0 rfl)) (fun _ _ h=>h) Rq.cl rfl rfl rfl rfl fun vv14 w13 a st hF=>?_
 obtain⟨b16,ad16,n16,c16,ae16,m16,d16,rfl⟩:=Rq.form (st.f 0 rfl)
 refine S.sto st hF 0 rfl (hF.at 7 rfl) (hF.at 0 rfl) ty_Rat rfl rfl rfl rfl fun w17 a st hF=>?_
 refine E.nil ?_
 refine wp_ret ?_
 refine S.ret Tryz.results165 st hF (hF.at 7 rfl) 0 rfl ty_Rat rfl hF.dfr ?_
 have bel:=st.bel
 exact⟨_,rfl,Rq.castM (st.f 0 rfl) (arc_neg hx),bel⟩
theorem sarc_any (v1:Value) (qx:Rat) (k:Nat) (w:World) (hT:TabD w) (h1:Rq w v1 qx) (hl:RLim qx k) (hk:k≤1000):Calls Tryz.prog 165 #[v1] w (RqPost w (arcv qx)):=by
 by_cases hn:sz (Rat.num qx)<0
 ·exact arc_neg_any v1 qx k w hT h1 hl hk hn
 ·exact arc_pos v1 qx k w hT h1 hl hk hn
end
end
end Go.Proofs.YtplngpfpcheofaaGreatDoor
