import Derived.Test.YtnljadejcfgmaaaGreatDoorKB17
import Derived.Test.YtnljadejcfgmaaaGreatDoorKB24
namespace Go.Proofs.YtnljadejcfgmaaaGreatDoor
open Go.RowKit
set_option maxRecDepth 100000
set_option linter.unusedVariables false
set_option maxHeartbeats 8000000
theorem k15:aG Tryz.prog 15:=⟨_,Tryz.func15,by decide+kernel,by kernel_rfl⟩
theorem Iv:aG Tryz.prog 143:=⟨_,Tryz.func143,by decide+kernel,by kernel_rfl⟩
theorem IX:aG Tryz.prog 187:=⟨_,Tryz.func187,by decide+kernel,by kernel_rfl⟩
theorem k32:aG Tryz.prog 32:=⟨_,Tryz.func32,by decide+kernel,by kernel_rfl⟩
theorem IA:aG Tryz.prog 238:=⟨_,Tryz.func238,by decide+kernel,by kernel_rfl⟩
theorem wk:aG Tryz.prog 203:=⟨_,Tryz.func203,by decide+kernel,by kernel_rfl⟩
theorem B8:aG Tryz.prog 224:=⟨_,Tryz.func224,by decide+kernel,by kernel_rfl⟩
theorem k56:aG Tryz.prog 56:=⟨_,Tryz.func56,by decide+kernel,by kernel_rfl⟩
theorem k30:aG Tryz.prog 30:=⟨_,Tryz.func30,by decide+kernel,by kernel_rfl⟩
theorem k75:aG Tryz.prog 75:=⟨_,Tryz.func75,by decide+kernel,by kernel_rfl⟩
theorem k58:aG Tryz.prog 58:=⟨_,Tryz.func58,by decide+kernel,by kernel_rfl⟩
theorem s4:aG Tryz.prog 121:=⟨_,Tryz.func121,by decide+kernel,by kernel_rfl⟩
theorem k52:aG Tryz.prog 52:=⟨_,Tryz.func52,by decide+kernel,by kernel_rfl⟩
theorem xe:aG Tryz.prog 141:=⟨_,Tryz.func141,by decide+kernel,by kernel_rfl⟩
theorem k57:aG Tryz.prog 57:=⟨_,Tryz.func57,by decide+kernel,by kernel_rfl⟩
theorem k79:aG Tryz.prog 79:=⟨_,Tryz.func79,by decide+kernel,by kernel_rfl⟩
theorem k89:aG Tryz.prog 89:=⟨_,Tryz.func89,by decide+kernel,by kernel_rfl⟩
theorem Iw:aG Tryz.prog 117:=⟨_,Tryz.func117,by decide+kernel,by kernel_rfl⟩
theorem Gt:aG Tryz.prog 221:=⟨_,Tryz.func221,by decide+kernel,by kernel_rfl⟩
theorem Ix:aG Tryz.prog 254:=⟨_,Tryz.func254,by decide+kernel,by kernel_rfl⟩
theorem AZ:aG Tryz.prog 220:=⟨_,Tryz.func220,by decide+kernel,by kernel_rfl⟩
theorem IM:aG Tryz.prog 116:=⟨_,Tryz.func116,by decide+kernel,by kernel_rfl⟩
theorem k77:aG Tryz.prog 77:=⟨_,Tryz.func77,by decide+kernel,by kernel_rfl⟩
theorem A1:aG Tryz.prog 247:=⟨_,Tryz.func247,by decide+kernel,by kernel_rfl⟩
theorem AW:aG Tryz.prog 245:=⟨_,Tryz.func245,by decide+kernel,by kernel_rfl⟩
theorem k19:aG Tryz.prog 19:=⟨_,Tryz.func19,by decide+kernel,by kernel_rfl⟩
theorem k14:aG Tryz.prog 14:=⟨_,Tryz.func14,by decide+kernel,by kernel_rfl⟩
theorem k50:aG Tryz.prog 50:=⟨_,Tryz.func50,by decide+kernel,by kernel_rfl⟩
theorem k18:aG Tryz.prog 18:=⟨_,Tryz.func18,by decide+kernel,by kernel_rfl⟩
theorem k13:aG Tryz.prog 13:=⟨_,Tryz.func13,by decide+kernel,by kernel_rfl⟩
theorem IK:aG Tryz.prog 148:=⟨_,Tryz.func148,by decide+kernel,by kernel_rfl⟩
theorem wh:aG Tryz.prog 191:=⟨_,Tryz.func191,by decide+kernel,by kernel_rfl⟩
theorem k62:aG Tryz.prog 62:=⟨_,Tryz.func62,by decide+kernel,by kernel_rfl⟩
theorem k81:aG Tryz.prog 81:=⟨_,Tryz.func81,by decide+kernel,by kernel_rfl⟩
theorem k63:aG Tryz.prog 63:=⟨_,Tryz.func63,by decide+kernel,by kernel_rfl⟩
theorem k38:aG Tryz.prog 38:=⟨_,Tryz.func38,by decide+kernel,by kernel_rfl⟩
theorem Bi:aG Tryz.prog 145:=⟨_,Tryz.func145,by decide+kernel,by kernel_rfl⟩
theorem xw:aG Tryz.prog 193:=⟨_,Tryz.func193,by decide+kernel,by kernel_rfl⟩
theorem k80:aG Tryz.prog 80:=⟨_,Tryz.func80,by decide+kernel,by kernel_rfl⟩
theorem A8:aG Tryz.prog 125:=⟨_,Tryz.func125,by decide+kernel,by kernel_rfl⟩
theorem k84:aG Tryz.prog 84:=⟨_,Tryz.func84,by decide+kernel,by kernel_rfl⟩
theorem IC:aG Tryz.prog 257:=⟨_,Tryz.func257,by decide+kernel,by kernel_rfl⟩
theorem qy:aG Tryz.prog 149:=⟨_,Tryz.func149,by decide+kernel,by kernel_rfl⟩
theorem Fk:aG Tryz.prog 124:=⟨_,Tryz.func124,by decide+kernel,by kernel_rfl⟩
theorem BX:aG Tryz.prog 227:=⟨_,Tryz.func227,by decide+kernel,by kernel_rfl⟩
theorem BL:aG Tryz.prog 192:=⟨_,Tryz.func192,by decide+kernel,by kernel_rfl⟩
theorem oi:aG Tryz.prog 189:=⟨_,Tryz.func189,by decide+kernel,by kernel_rfl⟩
theorem wO:aG Tryz.prog 226:=⟨_,Tryz.func226,by decide+kernel,by kernel_rfl⟩
theorem FK:aG Tryz.prog 228:=⟨_,Tryz.func228,by decide+kernel,by kernel_rfl⟩
theorem Gq:aG Tryz.prog 230:=⟨_,Tryz.func230,by decide+kernel,by kernel_rfl⟩
theorem BQ:aG Tryz.prog 147:=⟨_,Tryz.func147,by decide+kernel,by kernel_rfl⟩
theorem Il:aG Tryz.prog 229:=⟨_,Tryz.func229,by decide+kernel,by kernel_rfl⟩
theorem xl:aG Tryz.prog 190:=⟨_,Tryz.func190,by decide+kernel,by kernel_rfl⟩
theorem k82:aG Tryz.prog 82:=⟨_,Tryz.func82,by decide+kernel,by kernel_rfl⟩
theorem I3:aG Tryz.prog 146:=⟨_,Tryz.func146,by decide+kernel,by kernel_rfl⟩
theorem k85:aG Tryz.prog 85:=⟨_,Tryz.func85,by decide+kernel,by kernel_rfl⟩
theorem k83:aG Tryz.prog 83:=⟨_,Tryz.func83,by decide+kernel,by kernel_rfl⟩
theorem Ik:aG Tryz.prog 122:=⟨_,Tryz.func122,by decide+kernel,by kernel_rfl⟩
theorem FE:aG Tryz.prog 213:=⟨_,Tryz.func213,by decide+kernel,by kernel_rfl⟩
theorem I1:aG Tryz.prog 123:=⟨_,Tryz.func123,by decide+kernel,by kernel_rfl⟩
theorem Gc:aG Tryz.prog 214:=⟨_,Tryz.func214,by decide+kernel,by kernel_rfl⟩
theorem k61:aG Tryz.prog 61:=⟨_,Tryz.func61,by decide+kernel,by kernel_rfl⟩
theorem AB:aG Tryz.prog 211:=⟨_,Tryz.func211,by decide+kernel,by kernel_rfl⟩
theorem IV:aG Tryz.prog 255:=⟨_,Tryz.func255,by decide+kernel,by kernel_rfl⟩
theorem GD:aG Tryz.prog 212:=⟨_,Tryz.func212,by decide+kernel,by kernel_rfl⟩
theorem k59:aG Tryz.prog 59:=⟨_,Tryz.func59,by decide+kernel,by kernel_rfl⟩
theorem k60:aG Tryz.prog 60:=⟨_,Tryz.func60,by decide+kernel,by kernel_rfl⟩
theorem IB:aG Tryz.prog 240:=⟨_,Tryz.func240,by decide+kernel,by kernel_rfl⟩
theorem Fv:aG Tryz.prog 169:=⟨_,Tryz.func169,by decide+kernel,by kernel_rfl⟩
theorem k21:aG Tryz.prog 21:=⟨_,Tryz.func21,by decide+kernel,by kernel_rfl⟩
theorem k17:aG Tryz.prog 17:=⟨_,Tryz.func17,by decide+kernel,by kernel_rfl⟩
theorem k23:aG Tryz.prog 23:=⟨_,Tryz.func23,by decide+kernel,by kernel_rfl⟩
theorem k88:aG Tryz.prog 88:=⟨_,Tryz.func88,by decide+kernel,by kernel_rfl⟩
theorem Gk:aG Tryz.prog 184:=⟨_,Tryz.func184,by decide+kernel,by kernel_rfl⟩
theorem IU:aG Tryz.prog 243:=⟨_,Tryz.func243,by decide+kernel,by kernel_rfl⟩
theorem Bj:aG Tryz.prog 186:=⟨_,Tryz.func186,by decide+kernel,by kernel_rfl⟩
theorem Iy:aG Tryz.prog 222:=⟨_,Tryz.func222,by decide+kernel,by kernel_rfl⟩
theorem k76:aG Tryz.prog 76:=⟨_,Tryz.func76,by decide+kernel,by kernel_rfl⟩
theorem k31:aG Tryz.prog 31:=⟨_,Tryz.func31,by decide+kernel,by kernel_rfl⟩
theorem k78:aG Tryz.prog 78:=⟨_,Tryz.func78,by decide+kernel,by kernel_rfl⟩
theorem Iu:aG Tryz.prog 142:=⟨_,Tryz.func142,by decide+kernel,by kernel_rfl⟩
theorem Is:aG Tryz.prog 185:=⟨_,Tryz.func185,by decide+kernel,by kernel_rfl⟩
theorem k96:aG Tryz.prog 96:=⟨_,Tryz.func96,by decide+kernel,by kernel_rfl⟩
theorem k51:aG Tryz.prog 51:=⟨_,Tryz.func51,by decide+kernel,by kernel_rfl⟩
theorem k35:aG Tryz.prog 35:=⟨_,Tryz.func35,by decide+kernel,by kernel_rfl⟩
theorem E0:aG Tryz.prog 207:=⟨_,Tryz.func207,by decide+kernel,by kernel_rfl⟩
theorem k40:aG Tryz.prog 40:=⟨_,Tryz.func40,by decide+kernel,by kernel_rfl⟩
theorem I0:aG Tryz.prog 114:=⟨_,Tryz.func114,by decide+kernel,by kernel_rfl⟩
theorem IR:aG Tryz.prog 115:=⟨_,Tryz.func115,by decide+kernel,by kernel_rfl⟩
theorem k55:aG Tryz.prog 55:=⟨_,Tryz.func55,by decide+kernel,by kernel_rfl⟩
theorem IW:aG Tryz.prog 235:=⟨_,Tryz.func235,by decide+kernel,by kernel_rfl⟩
theorem k53:aG Tryz.prog 53:=⟨_,Tryz.func53,by decide+kernel,by kernel_rfl⟩
theorem k54:aG Tryz.prog 54:=⟨_,Tryz.func54,by decide+kernel,by kernel_rfl⟩
theorem FQ:aG Tryz.prog 202:=⟨_,Tryz.func202,by decide+kernel,by kernel_rfl⟩
theorem FJ:aG Tryz.prog 201:=⟨_,Tryz.func201,by decide+kernel,by kernel_rfl⟩
theorem Fm:aG Tryz.prog 164:=⟨_,Tryz.func164,by decide+kernel,by kernel_rfl⟩
theorem GG:aG Tryz.prog 206:=⟨_,Tryz.func206,by decide+kernel,by kernel_rfl⟩
theorem Fo:aG Tryz.prog 237:=⟨_,Tryz.func237,by decide+kernel,by kernel_rfl⟩
theorem GE:aG Tryz.prog 208:=⟨_,Tryz.func208,by decide+kernel,by kernel_rfl⟩
theorem AY:aG Tryz.prog 204:=⟨_,Tryz.func204,by decide+kernel,by kernel_rfl⟩
theorem Fg:aG Tryz.prog 205:=⟨_,Tryz.func205,by decide+kernel,by kernel_rfl⟩
theorem vY:aG Tryz.prog 225:=⟨_,Tryz.func225,by decide+kernel,by kernel_rfl⟩
theorem Fz:aG Tryz.prog 239:=⟨_,Tryz.func239,by decide+kernel,by kernel_rfl⟩
theorem qr:aG Tryz.prog 223:=⟨_,Tryz.func223,by decide+kernel,by kernel_rfl⟩
theorem IG:aG Tryz.prog 236:=⟨_,Tryz.func236,by decide+kernel,by kernel_rfl⟩
theorem FC:aG Tryz.prog 244:=⟨_,Tryz.func244,by decide+kernel,by kernel_rfl⟩
theorem Cb:aG Tryz.prog 246:=⟨_,Tryz.func246,by decide+kernel,by kernel_rfl⟩
theorem Gi:aG Tryz.prog 248:=⟨_,Tryz.func248,by decide+kernel,by kernel_rfl⟩
theorem k20:aG Tryz.prog 20:=⟨_,Tryz.func20,by decide+kernel,by kernel_rfl⟩
theorem k16:aG Tryz.prog 16:=⟨_,Tryz.func16,by decide+kernel,by kernel_rfl⟩
theorem k24:aG Tryz.prog 24:=⟨_,Tryz.func24,by decide+kernel,by kernel_rfl⟩
def cre:Rat:=((-714403429586:Int):Rat)
def mfr (q:Rat):Rat:=q-((q.floor:Int):Rat)
def bn (t p:Rat):Rat:=(t-cre)/p
def mof (t p:Rat):Rat:=if p≤0 then 0 else mfr (bn t p)*((360:Int):Rat)
def pyr:Rat:=((1577917828000:Int):Rat)/((4320000000:Int):Rat)
def pmo:Rat:=((1577917828:Int):Rat)/((57753336:Int):Rat)
def pay:Rat:=((1577917828000:Int):Rat)/((4319999613:Int):Rat)
theorem lN:((360:Int):Rat)=360:=rfl
theorem gR:0<pyr:=by decide+kernel
theorem iA:0<pay:=by decide+kernel
theorem Ej (q:Rat):0≤mfr q:=by have:=gi q;unfold mfr;grind
theorem BD (q:Rat):mfr q<1:=by have:=gI q;unfold mfr;grind
theorem BT (q:Rat) (n:Int):mfr (q+((n:Int):Rat))=mfr q:=by
 unfold mfr
 rw[Rat.floor_add_intCast,Rat.intCast_add]
 grind
theorem sR (q:Rat):mfr q=q+(((-q.floor:Int)):Rat):=by
 unfold mfr;rw[Rat.intCast_neg];grind
theorem pQ {t p:Rat} (h:0<p):mof t p=mfr (bn t p)*((360:Int):Rat):=by
 unfold mof;rw[if_neg (by grind)]
theorem Dk (t p:Rat):0≤mof t p:=by
 unfold mof
 split
 ·grind
 ·have:=Ej (bn t p);rw[lN];grind
theorem Cd (t p:Rat):mof t p<((360:Int):Rat):=by
 unfold mof
 split
 ·rw[lN];grind
 ·have:=BD (bn t p);rw[lN];grind
theorem kk {t p:Rat} (h:0<p):mof t p=((360:Int):Rat)*bn t p+((360:Int):Rat)*(((-(bn t p).floor :Int)):Rat):=by
 rw[pQ h,sR];grind
theorem qm {x m:Rat} (h0:0≤x) (h1:x<m):rmod x m=x:=by
 have:=Bv (x:=x) (a:=0) (b:=m) (by grind) h1
 unfold cO at this
 rw[if_neg (by grind),show x-0=x by grind,show m-0=m by grind] at this
 grind
theorem gO {x m:Rat} (h:0<m):rmod x m=x+m*(((-(x/m).floor :Int)):Rat):=by
 unfold rmod
 rw[if_neg (by grind),Rat.intCast_neg];grind
theorem A3 {x y m:Rat} (h:0<m):rmod (rmod x m+y) m=rmod (x+y) m:=by
 rw[gO (x:=x) h,show x+m*(((-(x/m).floor :Int)):Rat)+y=(x+y)+m*(((-(x/m).floor :Int)):Rat) by grind,kl _ h]
theorem Az {x y m:Rat} (h:0<m):rmod (x-rmod y m) m=rmod (x-y) m:=by
 rw[gO (x:=y) h,show x-(y+m*(((-(y/m).floor :Int)):Rat))=(x-y)+m*((((y/m).floor :Int)):Rat) by rw[Rat.intCast_neg];grind,kl _ h]
theorem bE:(0:Rat)<((360:Int):Rat):=by decide+kernel
theorem Ft (q:Rat):mfr q=mkRat (q.num%(q.den:Int)) q.den:=by
 have hm:q.num-q.floor*(q.den:Int)=q.num%(q.den:Int):=by
  rw[Rat.floor_def]
  have:=Int.mul_ediv_add_emod q.num (q.den:Int)
  rw[Int.mul_comm] at this
  omega
 unfold mfr
 rw[←hm,Rat.mkRat_eq_div,Rat.intCast_sub,Rat.intCast_mul,Rat.intCast_natCast]
 have h:(q.den:Rat)≠0:=by
  intro e
  have:=Rat.natCast_pos.2 q.den_pos
  grind
 have e:(q.num:Rat)=q*(q.den:Rat):=by
  have h1:q=(q.num:Rat)/(q.den:Rat):=by rw[←Rat.mkRat_eq_div,Rat.mkRat_self]
  have:q*(q.den:Rat)=(q.num:Rat)/(q.den:Rat)*(q.den:Rat):=by rw[←h1]
  rw[this,Rat.div_mul_cancel h]
 rw[e]
 grind
theorem qq {q:Rat} {k:Nat} (h:au q k):au (mfr q) k:=by
 rw[Ft]
 have h2:q.den<B32^k:=h.2
 have hd:=q.den_pos
 refine lw (show _<B32^k from ?_) h.2 (by omega)
 have h0:=Int.emod_nonneg q.num (b:=(q.den:Int)) (by omega)
 have h1:=Int.emod_lt_of_pos q.num (b:=(q.den:Int)) (by omega)
 omega
theorem tJ {n:Int} (h0: -9223372036854775808≤n) (h1:n≤9223372036854775807):au ((n:Int):Rat) 2:=a9 (az h0 h1) (by decide)
theorem pJ {n d:Int} (h0: -9223372036854775808≤n) (h1:n≤9223372036854775807) (g0: -9223372036854775808≤d) (g1:d≤9223372036854775807):au (((n:Int):Rat)/((d:Int):Rat)) 2:=(aJ (az h0 h1) (az g0 g1)).up 2 (by decide)
theorem pT:au cre 2:=tJ (by decide) (by decide)
theorem lj:au pyr 2:=pJ (by decide) (by decide) (by decide) (by decide)
theorem gX:au pay 2:=pJ (by decide) (by decide) (by decide) (by decide)
theorem qY {t p:Rat} {k j:Nat} (h:au t k) (hp:au p j):au (bn t p) (k+j+3):=(cF (bQ h pT) hp).up _ (by omega)
theorem gW {t p:Rat} {k j:Nat} (h:au t k) (hp:au p j):au (mof t p) (k+j+5):=by
 unfold mof
 split
 ·exact jg (by omega)
 ·exact(a7 (qq (qY h hp)) (tJ (n:=360) (by decide) (by decide))).up _ (by omega)
theorem gC {q:Rat} {k:Nat} (h:au q k):au (rmod q ((360:Int):Rat)) (k+4):=by
 have e:rmod q ((360:Int):Rat)=((360:Int):Rat)*mfr (q/((360:Int):Rat)):=by
  rw[gO bE,sR,lN];grind
 rw[e]
 have l:au ((360:Int):Rat) 2:=tJ (by decide) (by decide)
 exact(a7 l (qq (cF h l))).up _ (by omega)
theorem o0 {v1 v2:Value} {p1 p2:Rat} {k1 k2:Nat} {w:World} (x1:Rl p1 k1 w v1) (x2:Rl p2 k2 w v2) (a1:k1≤100000:=by omega) (a2:k2≤100000:=by omega):Calls Tryz.prog 56 #[v1,v2] w (Ret (kq ((p1)+(p2)) ((k1+k2+1))) w):=aD (j7 _ _ (p1) (p2) (max k1 k2) _ x1.1 x2.1 (x1.2.up _ (by omega)) (x2.2.up _ (by omega)) (by omega)) (bp x1.2 x2.2)
theorem gJ {v1 v2:Value} {p1 p2:Rat} {k1 k2:Nat} {w:World} (x1:Rl p1 k1 w v1) (x2:Rl p2 k2 w v2) (a1:k1≤100000:=by omega) (a2:k2≤100000:=by omega):Calls Tryz.prog 57 #[v1,v2] w (Ret (kq ((p1)-(p2)) ((k1+k2+1))) w):=aD (ix _ _ (p1) (p2) (max k1 k2) _ x1.1 x2.1 (x1.2.up _ (by omega)) (x2.2.up _ (by omega)) (by omega)) (bQ x1.2 x2.2)
theorem cB {v1 v2:Value} {p1 p2:Rat} {k1 k2:Nat} {w:World} (x1:Rl p1 k1 w v1) (x2:Rl p2 k2 w v2) (a1:k1≤100000:=by omega) (a2:k2≤100000:=by omega):Calls Tryz.prog 58 #[v1,v2] w (Ret (kq ((p1)*(p2)) ((k1+k2))) w):=aD (oa _ _ (p1) (p2) (max k1 k2) _ x1.1 x2.1 (x1.2.up _ (by omega)) (x2.2.up _ (by omega)) (by omega)) (a7 x1.2 x2.2)
theorem m8 {v1 v2:Value} {p1 p2:Rat} {k1 k2:Nat} {w:World} (x1:Rl p1 k1 w v1) (x2:Rl p2 k2 w v2) (a1:k1≤100000:=by omega) (a2:k2≤100000:=by omega):Calls Tryz.prog 75 #[v1,v2] w (Ret (kq ((p1)/(p2)) ((k1+k2))) w):=aD (sm _ _ (p1) (p2) (max k1 k2) _ x1.1 x2.1 (x1.2.up _ (by omega)) (x2.2.up _ (by omega)) (by omega)) (cF x1.2 x2.2)
theorem xp {v1:Value} {p1:Rat} {k1:Nat} {w:World} (x1:Rl p1 k1 w v1):Calls Tryz.prog 121 #[v1] w (Ret (kq (-(p1)) (k1)) w):=aD (oh _ (p1) _ x1.1) (eM x1.2)
theorem Bz {v1:Value} {p1:Rat} {k1:Nat} {w:World} (x1:Rl p1 k1 w v1):Calls Tryz.prog 224 #[v1] w (Ret (kq (Rat.abs (p1)) (k1)) w):=aD (Aj _ (p1) _ x1.1) (fq x1.2)
theorem CC {v1:Value} {p1:Rat} {k1:Nat} {w:World} (x1:Rl p1 k1 w v1) (a1:k1≤10000:=by omega):Calls Tryz.prog 221 #[v1] w (Ret (kq ((p1)-((Rat.floor (p1):Int):Rat)) ((k1+k1+3))) w):=aD (yg _ (p1) k1 _ x1.1 x1.2 (by omega)) (tx x1.2)
theorem IH {v1 v2:Value} {p1 p2:Rat} {k1 k2:Nat} {w:World} (x1:Rl p1 k1 w v1) (x2:Rl p2 k2 w v2) (a1:k1≤1000:=by omega) (a2:k2≤1000:=by omega):Calls Tryz.prog 220 #[v1,v2] w (Ret (kq (rmod (p1) (p2)) ((k1+k1+k2+k2+3))) w):=aD (oR _ _ (p1) (p2) k1 k2 _ x1.1 x2.1 x1.2 x2.2 (by omega) (by omega)) (jV (k:=k1) (j:=k2) x1.2 x2.2)
theorem G7 {v1 v2 v3:Value} {p1 p2 p3:Rat} {k1 k2 k3:Nat} {w:World} (x1:Rl p1 k1 w v1) (x2:Rl p2 k2 w v2) (x3:Rl p3 k3 w v3) (a1:k1≤400:=by omega) (a2:k2≤400:=by omega) (a3:k3≤400:=by omega):Calls Tryz.prog 254 #[v1,v2,v3] w (Ret (kq (cO (p1) (p2) (p3)) ((2*k1+5*k2+2*k3+8))) w):=aD (yR _ _ _ (p1) (p2) (p3) k1 k2 k3 _ x1.1 x2.1 x3.1 x1.2 x2.2 x3.2 (by omega) (by omega) (by omega)) (mw (k:=k1) (j:=k2) (i:=k3) x1.2 x2.2 x3.2)
theorem CL {v1 v2:Value} {p1:Rat} {k1 k2:Nat} {w:World} (x1:Rl p1 k1 w v1) (x2:Rl ((360:Int):Rat) k2 w v2) (a1:k1≤1000:=by omega) (a2:k2≤1000:=by omega):Calls Tryz.prog 220 #[v1,v2] w (Ret (kq (rmod p1 ((360:Int):Rat)) (k1+4)) w):=aD (oR _ _ _ _ k1 k2 _ x1.1 x2.1 x1.2 x2.2 a1 a2) (gC x1.2)
theorem zd (w:World):
 Calls Tryz.prog 76 #[] w (bl w pyr):=by
 have st:=St.start w
 refine go0 (nt:=2) Tryz.func76 rfl rfl fun a hF=>?_
 refine wq ?_
 refine S.alloc st hF ah rfl rfl fun g0 w1 a st hF=>?_
 refine nq ?_
 refine S.ck st hF (rgc k35 (aC ao ao)) (aD (bw (1577917828000) (4320000000) _ (by decide) (by decide) (by decide) (by decide)) (au.up (aJ (az (by decide) (by decide)) (az (by decide) (by decide))) 2 (by decide))) Rl.cl rfl fun vv3 w2 a st hF=>?_
 obtain⟨r5,rfl⟩:=Rq.fo (st.f 0 rfl).1
 refine so st hF 0 1 0 ah rfl rfl rfl rfl fun w6 a st hF=>?_
 refine nr ?_
 refine rs Tryz.results76 st hF 1 0 ah rfl rfl rfl ?_
 have bel:=st.bel
 exact⟨_,rfl,(st.f 0 rfl).1,bel⟩
theorem oe (w:World):
 Calls Tryz.prog 184 #[] w (bl w pay):=by
 have st:=St.start w
 refine go0 (nt:=2) Tryz.func184 rfl rfl fun a hF=>?_
 refine wq ?_
 refine S.alloc st hF ah rfl rfl fun g0 w1 a st hF=>?_
 refine nq ?_
 refine S.ck st hF (rgc k35 (aC ao ao)) (aD (bw (1577917828000) (4319999613) _ (by decide) (by decide) (by decide) (by decide)) (au.up (aJ (az (by decide) (by decide)) (az (by decide) (by decide))) 2 (by decide))) Rl.cl rfl fun vv3 w2 a st hF=>?_
 obtain⟨r5,rfl⟩:=Rq.fo (st.f 0 rfl).1
 refine so st hF 0 1 0 ah rfl rfl rfl rfl fun w6 a st hF=>?_
 refine nr ?_
 refine rs Tryz.results184 st hF 1 0 ah rfl rfl rfl ?_
 have bel:=st.bel
 exact⟨_,rfl,(st.f 0 rfl).1,bel⟩
theorem ro (w:World):
 Calls Tryz.prog 243 #[] w (bl w cre):=by
 have st:=St.start w
 refine go0 (nt:=2) Tryz.func243 rfl rfl fun a hF=>?_
 refine wq ?_
 refine S.alloc st hF ah rfl rfl fun g0 w1 a st hF=>?_
 refine nq ?_
 refine S.ck st hF (rgc k40 (aI ao)) (aD (bj ((-714403429586)) _ (by decide) (by decide)) (a9 (az (by decide) (by decide)) (by omega))) Rl.cl rfl fun vv3 w2 a st hF=>?_
 obtain⟨r5,rfl⟩:=Rq.fo (st.f 0 rfl).1
 refine so st hF 0 1 0 ah rfl rfl rfl rfl fun w6 a st hF=>?_
 refine nr ?_
 refine rs Tryz.results243 st hF 1 0 ah rfl rfl rfl ?_
 have bel:=st.bel
 exact⟨_,rfl,(st.f 0 rfl).1,bel⟩
theorem wg (v1 v2:Value) (qt qp:Rat) (k j:Nat) (w:World) (h1:Rq w v1 qt) (h2:Rq w v2 qp) (hl:au qt k) (hm:au qp j) (hk:k≤400) (hj:j≤400):
 Calls Tryz.prog 222 #[v1,v2] w (bl w (bn qt qp)):=by
 have st:=St.start w
 refine go2 (nt:=10) Tryz.func222 rfl rfl rfl fun a hF=>?_
 refine wq ?_
 obtain⟨r2,rfl⟩:=Rq.fo h1
 refine bx st hF 0 rfl rfl fun g2 w1 a st hF=>?_
 obtain⟨r4,rfl⟩:=Rq.fo h2
 refine bx st hF 2 rfl rfl fun g3 w3 a st hF=>?_
 refine S.alloc st hF ah rfl rfl fun g4 w5 a st hF=>?_
 refine ns ?_
 refine E.rg 5 aF hF [5,6,7,8,9] [_,_,_,_,_] (by decide+kernel) rfl rfl rfl ⟨rb st ah 2 2 rfl,ck st IU rfl fun _ s=>aD (ro _) pT,ck st k57 rfl fun _ s _ x6=>gJ ⟨(h1.below s.bel),hl⟩ x6,rb st ah 1 1 rfl,ck st k75 rfl fun _ s _ x7=>m8 x7 ⟨(h2.below s.bel),hm⟩,trivial⟩ ?_
 intro a w6 hF bb hall
 replace st:=st.to bb
 obtain⟨vv7,hF,st⟩:=rS hall hF st 4 rfl rfl Rl.cl
 obtain⟨r9,rfl⟩:=Rq.fo (st.f 0 rfl).1
 clear hall bb
 refine so st hF 0 1 0 ah rfl rfl rfl rfl fun w10 a st hF=>?_
 refine nr ?_
 refine rs Tryz.results222 st hF 1 0 ah rfl rfl rfl ?_
 have bel:=st.bel
 exact⟨_,rfl,(st.f 0 rfl).1,bel⟩
theorem xY {t p:Rat} (h:sz p.num≤0):(0:Rat)=mof t p:=by unfold mof;rw[if_pos (j6.1 h)]
theorem vF {t p:Rat} (h:¬sz p.num≤0):(bn t p-(((bn t p).floor :Int):Rat))*((360:Int):Rat)=mof t p:=by unfold mof mfr;rw[if_neg (fun e=>h (j6.2 e))]
theorem DX (v1 v2:Value) (qt qp:Rat) (k j:Nat) (w:World) (h1:Rq w v1 qt) (h2:Rq w v2 qp) (hl:au qt k) (hm:au qp j) (hk:k≤400) (hj:j≤400):
 Calls Tryz.prog 186 #[v1,v2] w (bl w (mof qt qp)):=by
 by_cases h0:sz (Rat.num (qp))≤0
 ·have st:=St.start w
  refine go2 (nt:=15) Tryz.func186 rfl rfl rfl fun a hF=>?_
  refine wq ?_
  obtain⟨r2,rfl⟩:=Rq.fo h1
  refine bx st hF 0 rfl rfl fun g2 w1 a st hF=>?_
  obtain⟨r4,rfl⟩:=Rq.fo h2
  refine bx st hF 2 rfl rfl fun g3 w3 a st hF=>?_
  refine S.alloc st hF ah rfl rfl fun g4 w5 a st hF=>?_
  refine ns ?_
  refine wq ?_
  refine oL hF st 1 1 ah rfl rfl rfl rfl fun a hF=>?_
  refine cX st hF (rgc xe (aI (hF.at 0 rfl))) (eO _ (qp) _ (h2.below st.bel)) rfl fun w6 a st hF=>?_
  refine oV hF (aq (hF.at 0 rfl) ao ab (aw (cn (c:=true) (aU h0)) (by simp))) rfl fun a hF=>?_
  refine E.nil ?_
  refine wp_cond_true (hF.at 0 rfl) ?_
  refine wq ?_
  refine oV hF (bh (by simp) (iC _)) rfl fun a hF=>?_
  refine so st hF 0 4 0 ah rfl rfl rfl rfl fun w7 a st hF=>?_
  refine nr ?_
  refine rs Tryz.results186 st hF 4 0 ah rfl rfl rfl ?_
  have bel:=st.bel
  exact⟨_,rfl,Rq.castM (Rq.zero _) (xY h0),bel⟩
 ·have st:=St.start w
  refine go2 (nt:=15) Tryz.func186 rfl rfl rfl fun a hF=>?_
  refine wq ?_
  obtain⟨r2,rfl⟩:=Rq.fo h1
  refine bx st hF 0 rfl rfl fun g2 w1 a st hF=>?_
  obtain⟨r4,rfl⟩:=Rq.fo h2
  refine bx st hF 2 rfl rfl fun g3 w3 a st hF=>?_
  refine S.alloc st hF ah rfl rfl fun g4 w5 a st hF=>?_
  refine ns ?_
  refine wq ?_
  refine oL hF st 1 1 ah rfl rfl rfl rfl fun a hF=>?_
  refine cX st hF (rgc xe (aI (hF.at 0 rfl))) (eO _ (qp) _ (h2.below st.bel)) rfl fun w6 a st hF=>?_
  refine oV hF (aq (hF.at 0 rfl) ao ab (aw (cn (c:=false) (aK h0)) (by simp))) rfl fun a hF=>?_
  refine E.nil ?_
  refine wp_cond_false (hF.at 0 rfl) ?_
  refine wp_skip ?_
  refine E.norm ?_
  refine wq ?_
  refine oL hF st 5 2 ah rfl rfl rfl rfl fun a hF=>?_
  refine oL hF st 5 1 ah rfl rfl rfl rfl fun a hF=>?_
  refine S.ck st hF (rgc Iy (aC (hF.at 1 rfl) (hF.at 0 rfl))) (aD (wg _ _ (qt) (qp) k j _ (h1.below st.bel) (h2.below st.bel) hl hm (by omega) (by omega)) (qY hl hm)) Rl.cl rfl fun vv8 w7 a st hF=>?_
  obtain⟨r10,rfl⟩:=Rq.fo (st.f 0 rfl).1
  refine S.ck st hF (rgc Gt (aI (hF.at 0 rfl))) (CC (st.f 0 rfl)) Rl.cl rfl fun vv12 w11 a st hF=>?_
  obtain⟨r14,rfl⟩:=Rq.fo (st.f 0 rfl).1
  refine S.ck st hF (rgc k40 (aI ao)) (aD (bj (360) _ (by decide) (by decide)) (a9 (az (by decide) (by decide)) (by omega))) Rl.cl rfl fun vv16 w15 a st hF=>?_
  obtain⟨r18,rfl⟩:=Rq.fo (st.f 0 rfl).1
  refine S.ck st hF (rgc k58 (aC (hF.at 1 rfl) (hF.at 0 rfl))) (cB (st.f 1 rfl) (st.f 0 rfl)) Rl.cl rfl fun vv20 w19 a st hF=>?_
  obtain⟨r22,rfl⟩:=Rq.fo (st.f 0 rfl).1
  refine so st hF 0 9 0 ah rfl rfl rfl rfl fun w23 a st hF=>?_
  refine nr ?_
  refine rs Tryz.results186 st hF 9 0 ah rfl rfl rfl ?_
  have bel:=st.bel
  exact⟨_,rfl,Rq.castM (st.f 0 rfl).1 (vF h0),bel⟩
theorem lc {w:World}:Calls Tryz.prog 76 #[] w (Ret (kq (pyr) (2)) w):=aD (zd _) lj
theorem ld {w:World}:Calls Tryz.prog 184 #[] w (Ret (kq (pay) (2)) w):=aD (oe _) gX
theorem xE {v1 v2:Value} {p1 p2:Rat} {k1 k2:Nat} {w:World} (x1:Rl p1 k1 w v1) (x2:Rl p2 k2 w v2) (a1:k1≤400:=by omega) (a2:k2≤400:=by omega):Calls Tryz.prog 186 #[v1,v2] w (Ret (kq (mof (p1) (p2)) ((k1+k2+5))) w):=aD (DX _ _ (p1) (p2) k1 k2 _ x1.1 x2.1 x1.2 x2.2 (by omega) (by omega)) (gW x1.2 x2.2)
end Go.Proofs.YtnljadejcfgmaaaGreatDoor
