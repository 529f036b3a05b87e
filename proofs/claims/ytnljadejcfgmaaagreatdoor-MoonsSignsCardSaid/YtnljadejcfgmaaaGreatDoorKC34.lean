import Derived.Test.YtnljadejcfgmaaaGreatDoorKC25
import Derived.Test.YtnljadejcfgmaaaGreatDoorKC33
namespace Go.Proofs.YtnljadejcfgmaaaGreatDoor
open Go.RowKit
set_option maxRecDepth 100000
set_option linter.unusedVariables false
set_option maxHeartbeats 8000000
theorem into_bd {k n:Int} (h:0<n):0≤k%n∧k%n<n:=⟨Int.emod_nonneg k (by omega),Int.emod_lt_of_pos k h⟩
theorem rem_bd {k n:Int} (h:0<n): -n<(if 0≤k then k%n else -(-k%n))∧(if 0≤k then k%n else -(-k%n))<n:=by
 have a:=into_bd (k:=k) h
 have b:=into_bd (k:= -k) h
 split <;> omega
def inD (n:Int):Int:=if(if 0≤n then n%6000001 else -(-n%6000001))< -3000000 then(if 0≤n then n%6000001 else -(-n%6000001))+6000000+1 else if 3000000<(if 0≤n then n%6000001 else -(-n%6000001)) then(if 0≤n then n%6000001 else -(-n%6000001))-6000000-1 else(if 0≤n then n%6000001 else -(-n%6000001))
theorem inD_bd (n:Int): -3000000≤inD n∧inD n≤3000000:=by
 unfold inD
 have:=rem_bd (k:=n) (n:=6000001) (by decide)
 generalize (if 0≤n then n%6000001 else -(-n%6000001))=r at*
 split <;> (try split) <;> omega
theorem en14:(Tryz.f14.name == "runtime.NumGoroutine")=false∧Tryz.f14.body.isNone=false:=⟨by decide+kernel,by kernel_rfl⟩
theorem inD_any (n:Int) (w:World):
 Calls Tryz.prog 14 #[.int .i64 n] w (ValPost w (.int .i64 (inD n))):=by
 have hrb:=rem_bd (k:=n) (n:=6000001) (by decide)
 have st:=St.start w
 refine E.enter (nt:=17) (L:=[(0,.int .i64 n)]) Tryz.func14 rfl rfl rfl (args_cons (i:=0) rfl args_nil) ?_
 intro a hF
 refine wp_seq ?_
 refine E.seq ?_
 refine E.opv hF (r_assign ev_c) rfl rfl rfl rfl fun a hF=>?_
 refine E.nil ?_
 refine wp_seq ?_
 refine E.seq ?_
 refine E.opv hF (r_move (hF.at 1 rfl)) rfl rfl rfl rfl fun a hF=>?_
 refine E.opv hF (r_bin (hF.at 0 rfl) ev_c eg_scalar (id_rem (a:=n) (b:=6000001) (by omega))) rfl rfl rfl rfl fun a hF=>?_
 refine E.opv hF (r_assign (hF.at 0 rfl)) rfl rfl rfl rfl fun a hF=>?_
 refine E.nil ?_
 refine wp_seq ?_
 refine wp_seq ?_
 refine E.seq ?_
 refine E.opv hF (r_move (hF.at 0 rfl)) rfl rfl rfl rfl fun a hF=>?_
 by_cases hc1:(if 0≤n then n%6000001 else -(-n%6000001))<(-3000000)
 ·refine E.opv hF (r_bin (hF.at 0 rfl) ev_c eg_scalar (bi_int (ic_lss (c:=true) (dec_tt hc1)) (by simp))) rfl rfl rfl rfl fun a hF=>?_
  refine E.nil ?_
  refine wp_cond_true (hF.at 0 rfl) ?_
  refine wp_seq ?_
  refine E.seq ?_
  refine E.opv hF (r_move (hF.at 2 rfl)) rfl rfl rfl rfl fun a hF=>?_
  refine E.opv hF (r_bin (hF.at 0 rfl) ev_c eg_scalar (ia_add (by omega) (by omega))) rfl rfl rfl rfl fun a hF=>?_
  refine E.opv hF (r_bin (hF.at 0 rfl) ev_c eg_scalar (ia_add (by omega) (by omega))) rfl rfl rfl rfl fun a hF=>?_
  refine E.opset (L':=[(2,.int .i64 (((if 0≤n then n%6000001 else -(-n%6000001))+6000000)+1)),(10,.int .i64 (((if 0≤n then n%6000001 else -(-n%6000001))+6000000)+1)),(9,.int .i64 ((if 0≤n then n%6000001 else -(-n%6000001))+6000000)),(8,.int .i64 (if 0≤n then n%6000001 else -(-n%6000001))),(7,.bool true),(6,.int .i64 (if 0≤n then n%6000001 else -(-n%6000001))),(3,.int .i64 (if 0≤n then n%6000001 else -(-n%6000001))),(5,.int .i64 (if 0≤n then n%6000001 else -(-n%6000001))),(4,.int .i64 n),(0,.int .i64 n)]) hF (r_assign (hF.at 0 rfl)) rfl rfl rfl rfl fun a hF=>?_
  refine E.nil ?_
  refine wp_ret ?_
  have bel:=st.bel
  refine bodyPost_ret (res_tmp Tryz.results14 (hF.at 0 rfl)) hF.dfr ?_
  refine⟨rv_int ?_,bel⟩
  unfold inD
  rw[if_pos hc1]
 ·refine E.opv hF (r_bin (hF.at 0 rfl) ev_c eg_scalar (bi_int (ic_lss (c:=false) (dec_ff hc1)) (by simp))) rfl rfl rfl rfl fun a hF=>?_
  refine E.nil ?_
  refine wp_cond_false (hF.at 0 rfl) ?_
  refine wp_skip ?_
  refine E.norm ?_
  refine wp_seq ?_
  refine wp_seq ?_
  refine E.seq ?_
  refine E.opv hF (r_move (hF.at 2 rfl)) rfl rfl rfl rfl fun a hF=>?_
  by_cases hc2:3000000<(if 0≤n then n%6000001 else -(-n%6000001))
  ·refine E.opv hF (r_bin (hF.at 0 rfl) ev_c eg_scalar (bi_int (ic_gtr (c:=true) (dec_tt hc2)) (by simp))) rfl rfl rfl rfl fun a hF=>?_
   refine E.nil ?_
   refine wp_cond_true (hF.at 0 rfl) ?_
   refine wp_seq ?_
   refine E.seq ?_
   refine E.opv hF (r_move (hF.at 4 rfl)) rfl rfl rfl rfl fun a hF=>?_
   refine E.opv hF (r_bin (hF.at 0 rfl) ev_c eg_scalar (ia_sub (by omega) (by omega))) rfl rfl rfl rfl fun a hF=>?_
   refine E.opv hF (r_bin (hF.at 0 rfl) ev_c eg_scalar (ia_sub (by omega) (by omega))) rfl rfl rfl rfl fun a hF=>?_
   refine E.opset (L':=[(2,.int .i64 (((if 0≤n then n%6000001 else -(-n%6000001))-6000000)-1)),(15,.int .i64 (((if 0≤n then n%6000001 else -(-n%6000001))-6000000)-1)),(14,.int .i64 ((if 0≤n then n%6000001 else -(-n%6000001))-6000000)),(13,.int .i64 (if 0≤n then n%6000001 else -(-n%6000001))),(12,.bool true),(11,.int .i64 (if 0≤n then n%6000001 else -(-n%6000001))),(7,.bool false),(6,.int .i64 (if 0≤n then n%6000001 else -(-n%6000001))),(3,.int .i64 (if 0≤n then n%6000001 else -(-n%6000001))),(5,.int .i64 (if 0≤n then n%6000001 else -(-n%6000001))),(4,.int .i64 n),(0,.int .i64 n)]) hF (r_assign (hF.at 0 rfl)) rfl rfl rfl rfl fun a hF=>?_
   refine E.nil ?_
   refine wp_ret ?_
   have bel:=st.bel
   refine bodyPost_ret (res_tmp Tryz.results14 (hF.at 0 rfl)) hF.dfr ?_
   refine⟨rv_int ?_,bel⟩
   unfold inD
   rw[if_neg hc1,if_pos hc2]
  ·refine E.opv hF (r_bin (hF.at 0 rfl) ev_c eg_scalar (bi_int (ic_gtr (c:=false) (dec_ff hc2)) (by simp))) rfl rfl rfl rfl fun a hF=>?_
   refine E.nil ?_
   refine wp_cond_false (hF.at 0 rfl) ?_
   refine wp_skip ?_
   refine E.norm ?_
   refine wp_seq ?_
   refine E.seq ?_
   refine E.opv hF (r_move (hF.at 4 rfl)) rfl rfl rfl rfl fun a hF=>?_
   refine E.opset (L':=[(2,.int .i64 (if 0≤n then n%6000001 else -(-n%6000001))),(16,.int .i64 (if 0≤n then n%6000001 else -(-n%6000001))),(12,.bool false),(11,.int .i64 (if 0≤n then n%6000001 else -(-n%6000001))),(7,.bool false),(6,.int .i64 (if 0≤n then n%6000001 else -(-n%6000001))),(3,.int .i64 (if 0≤n then n%6000001 else -(-n%6000001))),(5,.int .i64 (if 0≤n then n%6000001 else -(-n%6000001))),(4,.int .i64 n),(0,.int .i64 n)]) hF (r_assign (hF.at 0 rfl)) rfl rfl rfl rfl fun a hF=>?_
   refine E.nil ?_
   refine wp_ret ?_
   have bel:=st.bel
   refine bodyPost_ret (res_tmp Tryz.results14 (hF.at 0 rfl)) hF.dfr ?_
   refine⟨rv_int ?_,bel⟩
   unfold inD
   rw[if_neg hc1,if_neg hc2]
theorem pair4 {a:Act} {i j k l:Nat} {x y z u:Operand} {p q r s:Value} (h:a.eval x=p) (h2:a.eval y=q) (h3:a.eval z=r) (h4:a.eval u=s):(#[(i,x),(j,y),(k,z),(l,u)].map fun(p:Nat×Operand)=>(p.1,a.eval p.2))=#[(i,p),(j,q),(k,r),(l,s)]:=by simp[h,h2,h3,h4]
theorem sz_Orb:(Tryz.prog.info? 156).map (·.size)=some 12:=by kernel_rfl
theorem ze_Orb:(Tryz.prog.info? 156).bind (·.zero)=some (.agg #[.bool false,.slice none 0 0,.slice none 0 0,.bool false,.slice none 0 0,.slice none 0 0,.bool false,.slice none 0 0,.slice none 0 0,.bool false,.slice none 0 0,.slice none 0 0]):=by kernel_rfl
theorem fa_Orb_0 {w:World} {g o p:Nat} (hp:o+0=p):(Instr.fieldAt 156 (.pointer (some ⟨g,o,none⟩)) 0).run Tryz.prog w= .ok (.pointer (some ⟨g,p,none⟩)) w:=own_field Tryz.underlying156 rfl rfl sz_Rat rfl p hp
theorem fa_Orb_1 {w:World} {g o p:Nat} (hp:o+3=p):(Instr.fieldAt 156 (.pointer (some ⟨g,o,none⟩)) 1).run Tryz.prog w= .ok (.pointer (some ⟨g,p,none⟩)) w:=own_field Tryz.underlying156 rfl rfl sz_Rat rfl p hp
theorem fa_Orb_2 {w:World} {g o p:Nat} (hp:o+6=p):(Instr.fieldAt 156 (.pointer (some ⟨g,o,none⟩)) 2).run Tryz.prog w= .ok (.pointer (some ⟨g,p,none⟩)) w:=own_field Tryz.underlying156 rfl rfl sz_Rat rfl p hp
theorem fa_Orb_3 {w:World} {g o p:Nat} (hp:o+9=p):(Instr.fieldAt 156 (.pointer (some ⟨g,o,none⟩)) 3).run Tryz.prog w= .ok (.pointer (some ⟨g,p,none⟩)) w:=own_field Tryz.underlying156 rfl rfl sz_Rat rfl p hp
theorem fill3 {place:Nat→Option (Nat×Nat)} {cells:Array Value} {i off:Nat} {x y z:Value} {rest:List (Nat×Value)} (hp:place i=some (off,3)) (hc:off+3≤cells.size):
 Instr.fill place cells ((i,.agg #[x,y,z])::rest)=Instr.fill place (((cells.setIfInBounds off x).setIfInBounds (off+1) y).setIfInBounds (off+2) z) rest:=by
 conv=>lhs;unfold Instr.fill
 rw[hp]
 have h1:(Value.agg #[x,y,z]).cells =#[x,y,z]:=rfl
 simp only [h1]
 rw[if_neg (by simp;omega)]
 have h2:∀f:Array Value→Value×Nat→Array Value,Array.foldl f cells #[x,y,z].zipIdx =f (f (f cells (x,0)) (y,1)) (z,2):=fun f=>rfl
 rw[h2]
 rfl
theorem bd_Orb_0123 (b00:Bool) (a01:Option Addr) (n01 c01:Nat) (a02:Option Addr) (n02 c02:Nat) (b10:Bool) (a11:Option Addr) (n11 c11:Nat) (a12:Option Addr) (n12 c12:Nat) (b20:Bool) (a21:Option Addr) (n21 c21:Nat) (a22:Option Addr) (n22 c22:Nat) (b30:Bool) (a31:Option Addr) (n31 c31:Nat) (a32:Option Addr) (n32 c32:Nat) (w:World):(Instr.build 156 #[(0,.agg #[.bool b00,.slice a01 n01 c01,.slice a02 n02 c02]),(1,.agg #[.bool b10,.slice a11 n11 c11,.slice a12 n12 c12]),(2,.agg #[.bool b20,.slice a21 n21 c21,.slice a22 n22 c22]),(3,.agg #[.bool b30,.slice a31 n31 c31,.slice a32 n32 c32])]).run Tryz.prog w= .ok (.agg #[.bool b00,.slice a01 n01 c01,.slice a02 n02 c02,.bool b10,.slice a11 n11 c11,.slice a12 n12 c12,.bool b20,.slice a21 n21 c21,.slice a22 n22 c22,.bool b30,.slice a31 n31 c31,.slice a32 n32 c32]) w:=by
 have hz:=zero_run ze_Orb w
 have h_Rat:∀w,(sizeOf 33).run Tryz.prog w= .ok 3 w:=fun w=>size_run sz_Rat w
 simp only [Instr.build,Sem.run_bind,hz,Result.andThen_ok,run_underlying Tryz.underlying156,List.mapM_toArray,List.mapM_cons,List.mapM_nil,Sem.run_map,h_Rat,Sem.run_pure]
 rw[show(Value.agg #[Value.bool false,Value.slice none 0 0,Value.slice none 0 0,Value.bool false,Value.slice none 0 0,Value.slice none 0 0,Value.bool false,Value.slice none 0 0,Value.slice none 0 0,Value.bool false,Value.slice none 0 0,Value.slice none 0 0]).cells =#[Value.bool false,Value.slice none 0 0,Value.slice none 0 0,Value.bool false,Value.slice none 0 0,Value.slice none 0 0,Value.bool false,Value.slice none 0 0,Value.slice none 0 0,Value.bool false,Value.slice none 0 0,Value.slice none 0 0] from rfl]
 rw[fill3 (off:=0) rfl (by simp),fill3 (off:=3) rfl (by simp),fill3 (off:=6) rfl (by simp),fill3 (off:=9) rfl (by simp)]
 simp only [List.setIfInBounds_toArray,List.set_cons_zero,List.set_cons_succ,Nat.reduceAdd,Nat.zero_add]
 rfl
def Orb (w:World) (v:Value) (p an s c:Rat):Prop:=
 ∃b1 a1 n1 c1 d1 m1 e1 b2 a2 n2 c2 d2 m2 e2 b3 a3 n3 c3 d3 m3 e3 b4 a4 n4 c4 d4 m4 e4,v= .agg #[.bool b1,.slice a1 n1 c1,.slice d1 m1 e1,.bool b2,.slice a2 n2 c2,.slice d2 m2 e2,.bool b3,.slice a3 n3 c3,.slice d3 m3 e3,.bool b4,.slice a4 n4 c4,.slice d4 m4 e4]∧
  Rq w (.agg #[.bool b1,.slice a1 n1 c1,.slice d1 m1 e1]) p∧Rq w (.agg #[.bool b2,.slice a2 n2 c2,.slice d2 m2 e2]) an∧Rq w (.agg #[.bool b3,.slice a3 n3 c3,.slice d3 m3 e3]) s∧Rq w (.agg #[.bool b4,.slice a4 n4 c4,.slice d4 m4 e4]) c
theorem Orb.below {w w':World} {v:Value} {p an s c:Rat} (h:Orb w v p an s c) (hb:Below w.heap.size w w'):Orb w' v p an s c:=by
 obtain⟨b1,a1,n1,c1,d1,m1,e1,b2,a2,n2,c2,d2,m2,e2,b3,a3,n3,c3,d3,m3,e3,b4,a4,n4,c4,d4,m4,e4,h0,h1,h2,h3,h4⟩:=h
 exact⟨b1,a1,n1,c1,d1,m1,e1,b2,a2,n2,c2,d2,m2,e2,b3,a3,n3,c3,d3,m3,e3,b4,a4,n4,c4,d4,m4,e4,h0,h1.below hb,h2.below hb,h3.below hb,h4.below hb⟩
def OrbPost (w:World) (p an s c:Rat) (e:Ending) (w':World):Prop:=∃v,e= .returned v∧Orb w' v p an s c∧Below w.heap.size w w'
theorem ty_Orb:Ty Tryz.prog 156 12 [.bool false,.slice none 0 0,.slice none 0 0,.bool false,.slice none 0 0,.slice none 0 0,.bool false,.slice none 0 0,.slice none 0 0,.bool false,.slice none 0 0,.slice none 0 0]:=⟨⟨_,Tryz.underlying156,rfl⟩,sz_Orb,ze_Orb⟩
def kli:Rat:=((-1132959:Int):Rat)
def preY (t:Rat):Rat:=(t-kli)*(((600:Int):Rat)/((1577917828:Int):Rat))-((1:Int):Rat)/((4:Int):Rat)
def preX (t:Rat):Rat:=rinto (preY t) (((-1:Int):Rat)/((2:Int):Rat)) (((1:Int):Rat)/((2:Int):Rat))
def precV (t:Rat):Rat:=((27:Int):Rat)-((108:Int):Rat)*(preX t).abs
def tropV (t:Rat):Rat:=rmod (sunV t-precV t) ((360:Int):Rat)
def obl:Rat:=((1397:Int):Rat)/((3438:Int):Rat)
def hV (t:Rat):Rat:=obl*sof (tropV t)
def cosa (h:Rat):Rat:=sof (arcv h+((90:Int):Rat))
def eV (t lat:Rat):Rat:=hV t*sof lat/sof (lat+((90:Int):Rat))
def quo (t lat:Rat):Rat:=eV t lat/cosa (hV t)
section
section
variable {P:Program} {ops:Array Oper} {Q:Exit→Act→World→Prop} {W w:World} {bs:List (Nat×List Value)} {fs:List (World→Prop)} {nt d:Nat} {L:List (Nat×Value)} {rest:List Oper} {a:Act} {T:TypeId} {x y:Operand} {v:Value} {cs vs zs:List Value} {g n:Nat} {ty:TypeId} {pos:String} {af:Array Edge}
end
end
def hQ (x:Rat):Rat:=obl*sof x
theorem floor_mod {x:Rat} {n:Int} (hn:0<n):prt (rmod x ((360:Int):Rat)) n=(x*(((n:Int):Rat)/((360:Int):Rat))).floor %n:=by
 have np:(0:Rat)<((n:Int):Rat):=Rat.intCast_pos.2 hn
 have e:(rmod x ((360:Int):Rat))*(((n:Int):Rat)/((360:Int):Rat))=x*(((n:Int):Rat)/((360:Int):Rat))+((n*(-(x/((360:Int):Rat)).floor):Int):Rat):=by
  rw[rmod_fl c360_pos,Rat.intCast_mul,Rat.div_def ((n:Int):Rat),r360];grind
 have b:=prt_bd (x:=rmod x ((360:Int):Rat)) hn (rmod_low c360_pos) (rmod_high c360_pos)
 unfold prt at b ⊢
 rw[e,Rat.floor_add_intCast] at b ⊢
 have h:=Int.emod_eq_of_lt (b:=n) b.1 b.2
 rw[←h,Int.add_mul_emod_self_left]
def kI (c:Int) (t:Rat):Int:=if c=0 then prt (sunV t) 12 else if c=1 then prt (phaseV t) 30 else if c=2 then prt (moonV t) 27 else if c=3 then prt (rmod (moonV t+sunV t) ((360:Int):Rat)) 27 else prt (phaseV t) 60
def kaV (t:Rat):Int:=(sunU t*(1/30)).floor
theorem ka_bd (t:Rat):30*((kaV t:Int):Rat)≤sunU t∧sunU t<30*((kaV t:Int):Rat)+30:=by
 have a:=fl_le (sunU t*(1/30))
 have b:=fl_lt (sunU t*(1/30))
 unfold kaV
 constructor <;> grind
theorem ka_ge {t:Rat} {k:Int} (h:30*((k:Int):Rat)≤sunU t):k≤kaV t:=Rat.le_floor_iff.2 (by grind)
theorem ka_lt {t:Rat} {k:Int} (h:sunU t<30*((k:Int):Rat)):kaV t<k:=Rat.floor_lt_iff.2 (by grind)
theorem ka_sign (t:Rat):prt (sunV t) 12=kaV t%12:=by
 rw[sunV_U,floor_mod (by decide),show((12:Int):Rat)/((360:Int):Rat)=1/30 by decide+kernel]
 rfl
theorem sun_add {t u:Rat} (h:t≤u):9471/10000*(u-t)≤sunU u-sunU t∧sunU u-sunU t≤10242/10000*(u-t):=by
 have:=sun_rate t (d:=u-t) (by grind)
 rw[show t+(u-t)=u by grind] at this
 exact this
theorem ka_up {t u:Rat} (h:t≤u):kaV t≤kaV u:=by
 have s:=sun_add h
 have b:=ka_bd t
 exact ka_ge (by grind)
theorem ka_moon {t u:Rat} (h:t+27≤u) (g:u≤t+32):kaV t≤kaV u∧kaV u≤kaV t+2:=by
 have s:=sun_add (t:=t) (u:=u) (by grind)
 have b:=ka_bd t
 refine⟨ka_up (by grind),?_⟩
 have c:kaV u<kaV t+3:=ka_lt (by rw[Rat.intCast_add,show((3:Int):Rat)=3 from rfl];grind)
 omega
theorem ka_moons {t u:Rat} (h:t+55≤u):kaV t<kaV u:=by
 have s:=sun_add (t:=t) (u:=u) (by grind)
 have b:=ka_bd t
 have c:kaV t+1≤kaV u:=ka_ge (by rw[Rat.intCast_add,Rat.intCast_one];grind)
 omega
theorem ka_day {t u:Rat} (h:t≤u) (g:u≤t+1):kaV u=kaV t∨kaV u=kaV t+1:=by
 have s:=sun_add h
 have b:=ka_bd t
 have a:=ka_up h
 have c:kaV u<kaV t+2:=ka_lt (by rw[Rat.intCast_add,show((2:Int):Rat)=2 from rfl];grind)
 omega
def skp (x:Rat):Int:=(x*(((1:Int):Rat)/((14:Int):Rat))).floor
theorem fourteen:((1:Int):Rat)/((14:Int):Rat)=1/14:=by decide+kernel
theorem skp_le {x:Rat} {m:Int} (h:x≤134/10*((m:Int):Rat)) (hm:0<m):skp x≤m-1:=by
 have c:=Rat.intCast_lt_intCast.2 hm
 have:skp x<m:=Rat.floor_lt_iff.2 (by rw[fourteen];rw[Rat.intCast_zero] at c;grind)
 omega
theorem skp_ge {x:Rat} (h:0≤x):0≤skp x:=Rat.le_floor_iff.2 (by rw[fourteen,Rat.intCast_zero];grind)
theorem ph_days {a b:Int} (h:a≤b):phU ((b:Int):Rat)-phU ((a:Int):Rat)≤134/10*(((b-a:Int)):Rat):=by
 have c:0≤(((b-a:Int)):Rat):=Rat.intCast_nonneg.2 (by omega)
 have r:=(ph_rate ((a:Int):Rat) c).2
 have e:((a:Int):Rat)+(((b-a:Int)):Rat)=((b:Int):Rat):=by rw[←Rat.intCast_add];congr 1;omega
 rwa[e] at r
theorem last_skip {n L:Int} (h:L<n) (hc:comes L=true) (hn:∀m,L<m→m<n→¬comes m=true):0≤skp (phaseV ((n:Int):Rat))∧skp (phaseV ((n:Int):Rat))≤n-L-1:=by
 refine⟨skp_ge (phase_bd _).1,?_⟩
 have t1:dturn n=dturn (L+1):=none_between (by omega) fun m h1 h2=>hn m (by omega) h2
 have t2:=(comes_iff L).1 hc
 have a:=(turn_bd ((L:Int):Rat)).2
 have q:=phase_turn ((n:Int):Rat)
 have r:=ph_days (Int.le_of_lt h)
 have e:((turn ((n:Int):Rat):Int):Rat)=((turn ((L:Int):Rat):Int):Rat)+1:=by
  rw[show turn ((n:Int):Rat)=turn ((L:Int):Rat)+1 from t1.trans t2,Rat.intCast_add];rfl
 rw[e] at q
 rw[show((360:Int):Rat)=360 from rfl] at a q
 exact skp_le (by grind) (by omega)
theorem next_skip {n M:Int} (h:n<M) (hc:comes M=true) (hn:∀k,n<k→k<M→¬comes k=true):0≤skp (((360:Int):Rat)-phaseV (((n+1:Int)):Rat))∧n+1+skp (((360:Int):Rat)-phaseV (((n+1:Int)):Rat))≤M:=by
 have p:=phase_bd (((n+1:Int)):Rat)
 rw[show((360:Int):Rat)=360 from rfl]
 refine⟨skp_ge (by grind),?_⟩
 have t1:dturn M=dturn (n+1):=none_between (by omega) fun m h1 h2=>hn m (by omega) h2
 have t2:=(comes_iff M).1 hc
 have a:=(turn_bd (((M+1:Int)):Rat)).1
 have q:=phase_turn (((n+1:Int)):Rat)
 have r:=ph_days (a:=n+1) (b:=M+1) (by omega)
 have e:((turn (((M+1:Int)):Rat):Int):Rat)=((turn (((n+1:Int)):Rat):Int):Rat)+1:=by
  rw[show turn (((M+1:Int)):Rat)=turn (((n+1:Int)):Rat)+1 from by rw[show turn (((M+1:Int)):Rat)=dturn (M+1) from rfl,t2,t1];rfl,Rat.intCast_add];rfl
 rw[e] at a
 rw[show((360:Int):Rat)=360 from rfl] at a q
 have:=skp_le (x:=360-phaseV (((n+1:Int)):Rat)) (m:=M+1-(n+1)) (by grind) (by omega)
 omega
noncomputable def lastD (f:Int):Int:=Classical.choose (last_ex f)
theorem lastD_spec (f:Int):f-34≤lastD f∧lastD f<f∧comes (lastD f)=true∧∀m,lastD f<m→m<f→¬comes m=true:=Classical.choose_spec (last_ex f)
def nowC (t:Rat):Bool:=full ((t.floor:Int):Rat) && !full t
noncomputable def lastV (t:Rat):Int:=if nowC t=true then t.floor else lastD t.floor
theorem lastV_yes {t:Rat} (h:nowC t=true):lastV t=t.floor:=if_pos h
theorem lastV_no {t:Rat} (h:¬nowC t=true):lastV t=lastD t.floor:=if_neg h
theorem lastV_bd (t:Rat):t.floor-34≤lastV t∧lastV t≤t.floor:=by
 have s:=lastD_spec t.floor
 unfold lastV
 split <;> omega
theorem lastD_is {f n:Int} (h:lastD f≤n) (hn:n<f) (hc:comes n=true):n=lastD f:=by
 have s:=lastD_spec f
 by_cases e:lastD f<n
 ·exact absurd hc (s.2.2.2 n e hn)
 ·omega
theorem lastD_no {f n:Int} (h:lastD f≤n) (hc:¬comes n=true):lastD f<n:=by
 have s:=lastD_spec f
 by_cases e:n=lastD f
 ·rw[e] at hc;exact absurd s.2.2.1 hc
 ·omega
noncomputable def nextD (n:Int):Int:=if h:comes n=true then Classical.choose (next_ex h) else 0
theorem nextD_spec {n:Int} (h:comes n=true):n+28≤nextD n∧nextD n≤n+31∧comes (nextD n)=true∧∀k,n<k→k<nextD n→¬comes k=true:=by
 unfold nextD
 rw[dif_pos h]
 exact Classical.choose_spec (next_ex h)
theorem nextD_is {n m:Int} (h:comes n=true) (h1:n<m) (h2:m≤nextD n) (hc:comes m=true):m=nextD n:=by
 have s:=nextD_spec h
 by_cases e:m<nextD n
 ·exact absurd hc (s.2.2.2 m h1 e)
 ·omega
theorem nowC_int (n:Int):nowC ((n:Int):Rat)=false:=by
 unfold nowC
 rw[Rat.floor_intCast]
 cases full ((n:Int):Rat) <;> rfl
def notI (c was:Int) (x:Rat):Bool:=decide (kI c x≠was)
end Go.Proofs.YtnljadejcfgmaaaGreatDoor
