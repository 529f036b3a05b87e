import Derived.Test.YtgdpkknapcgcbaaGreatDoorKD7
import Derived.Deep.LoopGhost
import Derived.OpenShut
import Derived.Deep.DeepCutAuto
namespace Go.Proofs.YtgdpkknapcgcbaaGreatDoor
open Go.RowKit
set_option maxRecDepth 100000
set_option linter.unusedVariables false
set_option maxHeartbeats 8000000
section
section
end
section
end
section
theorem Rd.drop {w:World} {k:IntKind} {b off:Nat} {xs:List Nat} (h:Rd w k (some ⟨b,off,none⟩) xs) (n:Nat):Rd w k (some ⟨b,off+n,none⟩) (xs.drop n):=by
 refine⟨fun i hi=>?_⟩
 simp at hi
 obtain⟨b',off',ha,hlt,hc⟩:=h.cell (n+i) (by omega)
 simp at ha
 obtain⟨rfl,rfl⟩:=ha
 exact⟨b,off+n,rfl,hlt,by rw[fh,Nat.add_assoc];exact hc⟩
end
end
section
section
end
section
theorem B4 (p q:Nat): -1<=c3 p q/\c3 p q<=1:=by unfold c3;split <;> (try split) <;> omega
theorem ze {N M m:Nat} (h1:N<B32^m) (h2:M<B32^m):N+M<B32^(m+1):=by
 rw[Nat.pow_succ,cE];rw[cE] at h1 h2;omega
end
section
end
end
section
section
end
section
end
end
section
section
end
section
end
end
def Lim (N k:Nat):Prop:=N<B32^k
theorem Lim.add {N M a b:Nat} (h1:Lim N a) (h2:Lim M b) (c:Nat) (ha:a<c) (hb:b<c):Lim (N+M) c:=by
 have k1:N<B32^(c-1):=Nat.lt_of_lt_of_le h1 (Nat.pow_le_pow_right aN (by omega))
 have k2:M<B32^(c-1):=Nat.lt_of_lt_of_le h2 (Nat.pow_le_pow_right aN (by omega))
 have:=ze k1 k2
 rwa[show c-1+1=c from by omega] at this
theorem Lim.mul {N M a b:Nat} (h1:Lim N a) (h2:Lim M b):Lim (N*M) (a+b):=by
 unfold Lim at*
 rw[Nat.pow_add]
 exact Nat.mul_lt_mul'' h1 h2
theorem Lim.le {N M a:Nat} (h:Lim M a) (hl:N<=M):Lim N a:=Nat.lt_of_le_of_lt hl h
theorem Lim.up {N a:Nat} (h:Lim N a) (b:Nat) (hl:a<=b):Lim N b:=Nat.lt_of_lt_of_le h (Nat.pow_le_pow_right aN hl)
theorem Lim.dl {N a:Nat} (h:Lim N a) (c:Nat) (hc:a<=c):dl B32 N<=c:=Nat.le_trans (ia aw h) hc
theorem Lim.of64 {N:Nat} (h:N<18446744073709551616):Lim N 2:=Nat.lt_of_lt_of_le h (by decide)
theorem Nt.shape {w:World} {v:Value} {N:Nat} (h:Nt w v N):∃ad n cap,v= .slice ad n cap:=by
 obtain⟨xs,_,_,ad,cap,h1,_⟩:=h
 exact⟨ad,_,cap,h1⟩
theorem dY.sq {w w':World} (h:dY w w') {k:IntKind} {v:Value} {xs:List Nat} (s:Sq w k v xs):Sq w' k v xs:=by
 obtain⟨ad,cap,h1,h2,h3⟩:=s
 exact⟨ad,cap,h1,h _ _ _ h2,h3⟩
theorem dY.dg {w w':World} (h:dY w w') {k:IntKind} {b:Nat} {v:Value} {n:Nat} (s:Dg w k b v n):Dg w' k b v n:=h.sq s
section
section
theorem wW (N:Nat):(dl 2 N+31)/32=dl B32 N:=by
 by_cases h:N=0
 ·subst h;rw[gk,gk]
 ·have hp:=fB (b:=2) (by omega) (show 0<N by omega)
  have:=B8 (N:=N) (m:=(dl 2 N+31)/32) (by omega) (by omega) (by omega)
  exact this.symm
theorem eL (ad:Option Addr) (n cap:Nat) (xs:List Nat) (w:World) (hn:n=xs.length) (hr:Rd w .u32 ad xs) (ho:okb B32 xs) (hl:xs.length<=1099511627776) (hcap:xs.length<=cap) (hcm:cap<=maxLen) (hnil:ad=none->cap=0):
 CP 132 #[.slice ad n cap] w (j7 w ad cap xs):=by
 subst hn
 have hb:=Lib.hid (jA (.slice ad xs.length cap) (vl B32 xs) w ⟨xs,ho,rfl,ad,cap,rfl,hr,hcap,hcm,hl,hnil⟩)
 have h2:=yG ho
 have hq:=wW (vl B32 xs)
 have hd:=bX aw ho
 have hfin:∀v,v= .slice ad (dl B32 (vl B32 xs)) cap->j7 w ad cap xs (.returned v) w:=fun v hv=>⟨by rw[hv],rfl⟩
 obtain⟨d,hdd⟩:∃d,d=dl B32 (vl B32 xs):=⟨_,rfl⟩
 obtain⟨b,hbb⟩:∃b,b=dl 2 (vl B32 xs):=⟨_,rfl⟩
 rw[<-hdd] at hq hd hfin
 rw[<-hbb] at hq h2 hb
 have e:((b:Int)+32-1)/32=(d:Int):=by omega
 have HF:=Lib.hid hfin
 clear hdd hbb hq hfin hr ho
 cases ad with
 |none=>
  have hc0:=hnil rfl
  subst hc0
  obtain rfl:d=0:=by omega
  go_enter Tryz.func132,Tryz.ntmps132
  go_wp2_with fail
  refine hb.out.mono ?_
  rintro e w' ⟨rfl,hw⟩
  have hw:=hw.symm;subst hw
  go_wp2
  go_ret
  exact HF.out _ rfl
 |some a=>
  go_enter Tryz.func132,Tryz.ntmps132
  go_wp2_with fail
  refine hb.out.mono ?_
  rintro e w' ⟨rfl,hw⟩
  have hw:=hw.symm;subst hw
  go_wp2
  go_ret
  exact HF.out _ rfl
theorem pj {a b:Nat} (ha:a<4294967296) (hb:b<4294967296):a*b<=18446744065119617025:=
 Nat.mul_le_mul (show a<=4294967295 by omega) (show b<=4294967295 by omega)
theorem An {zs:List Nat} {i j c a b Z0 T:Nat} (hlen:i+j<zs.length) (h:vl B32 zs+c*B32^(i+j)=T) (hT:Z0=c+a*b+lg zs (i+j)):
 vl B32 (zs.set (i+j) (Z0%B32))+Z0/B32*B32^(i+(j+1))=T+a*(b*B32^j)*B32^i:=by
 have h1:=j4 B32 (xs:=zs) (i:=i+j) (Z0%B32) hlen
 have h2:=hJ B32 (B32^(i+j)) Z0
 rw[<-Nat.pow_succ] at h2
 have h3:Z0*B32^(i+j)=c*B32^(i+j)+a*b*B32^(i+j)+lg zs (i+j)*B32^(i+j):=by rw[hT,Nat.add_mul,Nat.add_mul]
 have h4:a*(b*B32^j)*B32^i=a*b*B32^(i+j):=by
  rw[Nat.pow_add,<-Nat.mul_assoc a b,Nat.mul_assoc (a*b),Nat.mul_comm (B32^j)]
 rw[h4,show i+(j+1)=i+j+1 from by omega]
 simp only [Nat.succ_eq_add_one] at h2
 omega
def FD (w:World) (g d e X Y:Nat) (i:Value) (wr:World):Prop:=
 ∃(k:Nat) (zs:List Nat),k<=d/\i= .int .i64 k/\zs.length=d+e/\okb B32 zs/\Row wr .u32 167 w.heap.size g (d+e) zs/\Below w.heap.size w wr/\(∀t,k+e<=t->lg zs t=0)/\vl B32 zs=vl B32 ((dg B32 X).take k)*Y
def Hb (w:World) (g d e k a Y T:Nat) (c j:Value) (wr:World):Prop:=
 ∃(u cc:Nat) (zs:List Nat),u<=e/\j= .int .i64 u/\c= .int .u64 cc/\cc<4294967296/\zs.length=d+e/\okb B32 zs/\Row wr .u32 167 w.heap.size g (d+e) zs/\Below w.heap.size w wr/\(∀t,k+e<=t->lg zs t=0)/\
  vl B32 zs+cc*B32^(k+u)=T+a*vl B32 ((dg B32 Y).take u)*B32^k
set_option maxRecDepth 100000 in
theorem ms (v1 v2:Value) (X Y:Nat) (w:World) (h1:Nt w v1 X) (h2:Nt w v2 Y) (hs1:dl B32 X<=1000000) (hs2:dl B32 Y<=1000000):
 CP 148 #[v1,v2] w (gv w (X*Y)):=by
 obtain⟨xs,ox,vx,ad1,cap1,rfl,r1,c1,m1,l1,n1⟩:=h1
 obtain⟨ys,oy,vy,ad2,cap2,rfl,r2,c2,m2,l2,n2⟩:=h2
 have HX:=Lib.hid vx;have HY:=Lib.hid vy;clear vx vy
 have rX:=r1.dg ox
 have rY:=r2.dg oy
 obtain⟨i0,hi,hz0,hz1,hz2⟩:=info_parts Tryz.info167
 go_enter Tryz.func148,Tryz.ntmps148
 go_wp2_with fail
 refine(eL ad1 _ cap1 xs _ rfl r1 ox l1 c1 m1 n1).mono ?_
 rintro e w' ⟨rfl,hw⟩
 have hw:=hw.symm;subst hw
 go_wp2_with fail
 refine(eL ad2 _ cap2 ys _ rfl r2 oy l2 c2 m2 n2).mono ?_
 rintro e w' ⟨rfl,hw⟩
 have hw:=hw.symm;subst hw
 rw[HX.out] at rX ⊢
 rw[HY.out] at rY ⊢
 obtain⟨d,hd⟩:∃d,d=dl B32 X:=⟨_,rfl⟩
 obtain⟨e,he⟩:∃e,e=dl B32 Y:=⟨_,rfl⟩
 rw[<-hd] at hs1 ⊢
 rw[<-he] at hs2 ⊢
 have HD:=Lib.hid hd;have HE:=Lib.hid he
 clear hd he r1 r2 c1 c2 m1 m2 n1 n2 l1 l2 ox oy HX HY
 go_wp2_with (at_make;refine wpList_make_full _ rfl _ _ 29 rfl w.heap.size 167 i0 (.int .u32 0) 1 Tryz.underlying29 hi hz0 hz1 .i64 .i64 _ _ (d+e) rfl rfl (by omega) (by omega) (by rw[hz2];omega) (by unfold maxLen;omega) (Nat.le_refl _) ?_)
 intro w1 hown hgrow
 have hrow:=Row.of_made hown
 have hb1:Below w.heap.size w w1:=(Below.refl _ _).grown hgrow (Nat.le_refl _) (fun k h=>by cases h)
 clear hown hgrow
 obtain⟨g,hg⟩:∃g,g=w.heap.size:=⟨_,rfl⟩
 rw[<-hg] at hrow
 rw[<-hg]
 have HG:=Lib.hid hg;clear hg
 go_wp2
 go_loopw [23] (fun i wr=>FD w g d e X Y i wr) (fun i _=>d-(intOf i).toNat)
 case atStart=>
  have h0:∀j,lg (List.replicate (d+e) 0) j=0:=fun j=>by
   unfold lg;simp[List.getD,List.getElem?_replicate];split <;> rfl
  exact⟨0,_,Nat.zero_le _,rfl,by simp,fV aN _,hrow.rebase (Nat.le_of_eq HG.out.symm),hb1,fun j _=>h0 j,by
   rw[show vl B32 (List.replicate (d+e) 0)=vl B32 [] from gT B32 (fun j=>by rw[h0,F8])];simp[vl]⟩
 case round=>
  obtain⟨k,zs,hk,rfl,hzl,hzo,hro,hbe,hz,hv⟩:=hrel
  have HV:=Lib.hid hv;have HZ:=Lib.hid hz;have HZL:=Lib.hid hzl;have HZO:=Lib.hid hzo
  clear hv hz hzl hzo
  by_cases hlt:k<d
  ·obtain⟨b,off,ha,hbs,hcx⟩:=(rX.below hbe).get (by rw[av,<-HD.out];omega)
   have hcx:=hcx k (by rw[av,<-HD.out];omega)
   have RX:=Lib.hid rX;have RY:=Lib.hid rY
   subst ha
   have lx:lg (dg B32 X) k<4294967296:=dC (cR aw X) aN k
   obtain⟨a,haa⟩:∃a,a=lg (dg B32 X) k:=⟨_,rfl⟩
   rw[<-haa] at lx hcx
   have HA:=Lib.hid haa
   clear haa rX rY hrow hb1
   obtain⟨wo,rfl⟩:∃wo:World,wo=wr:=⟨_,rfl⟩
   go_wp2
   go_loopw [8,30] (fun c j wr=>Hb w g d e k a Y (vl B32 zs) c j wr) (fun _ j _=>e-(intOf j).toNat)
   case atStart=>exact⟨0,0,zs,Nat.zero_le _,rfl,rfl,by omega,HZL.out,HZO.out,hro,hbe,HZ.out,by simp[vl]⟩
   case round=>
    obtain⟨u,cc,zs',hu,rfl,rfl,hcc,hzl',hzo',hro',hbe',hz',hv'⟩:=hrel
    have HV':=Lib.hid hv';have HZ':=Lib.hid hz';have HZL':=Lib.hid hzl';have HZO':=Lib.hid hzo'
    clear hv' hz' hzl'
    by_cases hlu:u<e
    ·obtain⟨b2,off2,ha2,hbs2,hcy⟩:=(RY.out.below hbe').get (by rw[av,<-HE.out];omega)
     have hcy:=hcy u (by rw[av,<-HE.out];omega)
     subst ha2
     have ly:lg (dg B32 Y) u<4294967296:=dC (cR aw Y) aN u
     have lz:lg zs' (k+u)<4294967296:=dC hzo' aN (k+u)
     have hcs:=hro'.cell (j:=k+u) (by rw[HZL'.out];omega)
     have hfr:=hro'.free (k+u)
     obtain⟨m,hm⟩:∃m,m=a*lg (dg B32 Y) u:=⟨_,rfl⟩
     have hmb:=pj lx ly
     rw[<-hm] at hmb
     have em:(a:Int)*(lg (dg B32 Y) u:Int)=(m:Int):=by rw[hm];push_cast;rfl
     have HM:=Lib.hid hm
     have HRO:=Lib.hid hro';have HBE:=Lib.hid hbe'
     clear hm hzo' hro' hbe'
     go_wp2
     go_roundw
     case rel=>
      obtain⟨T,hT⟩:∃T,T=cc+a*lg (dg B32 Y) u+lg zs' (k+u):=⟨_,rfl⟩
      have hTm:T=cc+m+lg zs' (k+u):=by rw[hT,HM.out]
      have hst:=An (by rw[HZL'.out];omega) HV'.out hT
      have hrow2:=HRO.out.set (k+u) (T%B32)
      rw[show((T%B32:Nat):Int)=((cc:Int)+((m:Int)+(lg zs' (k+u):Int)))%4294967296 from by
       show((T%4294967296:Nat):Int)=_
       omega] at hrow2
      refine⟨u+1,T/B32,zs'.set (k+u) (T%B32),by omega,by go_num,?_,?_,by simp;exact HZL'.out,fM HZO'.out (Nat.mod_lt _ aN),hrow2,HBE.out.setCell (p:=⟨g,k+u,none⟩) (Nat.le_of_eq HG.out.symm) _,?_,?_⟩
      ·show _=Value.int .u64 ((T/4294967296:Nat):Int)
       congr 1
       omega
      ·show T/4294967296<4294967296
       omega
      ·intro t ht
       rw[ev _ (by omega)]
       exact HZ'.out t ht
      ·rw[hst,bG,Nat.mul_add,Nat.add_mul,Nat.add_assoc]
     case measure=>simp[intOf];omega
    ·obtain rfl:u=e:=by omega
     have hcs:=hro'.cell (j:=k+u) (by rw[HZL'.out];omega)
     have hfr:=hro'.free (k+u)
     have HRO:=Lib.hid hro';have HBE:=Lib.hid hbe'
     clear hzo' hro' hbe'
     go_wp2
     go_roundw
     case rel=>
      have h0:=HZ'.out (k+u) (by omega)
      have hset:=j4 B32 (xs:=zs') (i:=k+u) cc (by rw[HZL'.out];omega)
      rw[h0] at hset
      refine⟨k+1,zs'.set (k+u) cc,by omega,by go_num,by simp;exact HZL'.out,fM HZO'.out hcc,HRO.out.set (k+u) cc,HBE.out.setCell (p:=⟨g,k+u,none⟩) (Nat.le_of_eq HG.out.symm) _,?_,?_⟩
      ·intro t ht
       rw[ev _ (by omega)]
       exact HZ'.out t (by omega)
      ·have hv1:=HV'.out
       rw[b6 (by rw[av,<-HE.out];omega),cG aw,HV.out,HA.out] at hv1
       rw[bG,Nat.add_mul]
       have h5:lg (dg B32 X) k*Y*B32^k=lg (dg B32 X) k*B32^k*Y:=by rw[Nat.mul_assoc,Nat.mul_assoc,Nat.mul_comm Y]
       rw[h5] at hv1
       omega
     case measure=>simp[intOf];omega
  ·obtain rfl:k=d:=by omega
   have hvv:vl B32 zs=X*Y:=by rw[HV.out,b6 (by rw[av,<-HD.out];omega),cG aw]
   have HVV:=Lib.hid hvv
   have hle:=bX aw HZO.out
   rw[HVV.out,HZL.out] at hle
   have hrd:=hro.rd.dg HZO.out
   rw[HVV.out] at hrd
   have hpar:=hro.parts
   clear hvv rX rY hb1 hrow
   go_wp2_with fail
   refine(eL _ _ _ zs _ HZL.out.symm hro.rd HZO.out (by rw[HZL.out];omega) (by rw[HZL.out];omega) hpar.2.2.2 (fun h=>by cases h)).mono ?_
   rintro e w2 ⟨rfl,hw⟩
   have hw:=hw.symm;subst hw
   rw[HVV.out]
   go_wp2
   go_ret
   exact⟨_,rfl,⟨_,_,rfl,hrd,by rw[av];omega,hpar.2.2.2,by rw[av];omega,fun h=>by cases h⟩,hbe⟩
end
section
end
end
section
section
def sg (neg:Bool) (N:Nat):Int:=if neg then -(N:Int) else(N:Int)
theorem de (neg:Bool) (N:Nat):(sg neg N).natAbs =N:=by unfold sg;split <;> omega
theorem di (N:Nat):sg true N= -(N:Int):=rfl
theorem cK (N:Nat):sg false N=(N:Int):=rfl
theorem et (neg:Bool):sg neg 0=0:=by unfold sg;split <;> omega
theorem GG (neg:Bool) {N:Nat} (h:0<N):decide (sg neg N<0)=neg:=by
 unfold sg;cases neg <;> simp <;> omega
theorem u6 (z:Int):sg (decide (z<0)) z.natAbs=z:=by
 unfold sg
 by_cases h:z<0
 ·rw[if_pos (by simpa using h)];omega
 ·rw[if_neg (by simpa using h)];omega
def Wz (w:World) (v:Value) (z:Int):Prop:=∃neg a N,v= .agg #[.bool neg,a]/\Nt w a N/\z=sg neg N
def Wc (w:World) (v:Value) (z:Int):Prop:=∃a,v= .agg #[.bool (decide (z<0)),a]/\Dg w .u32 B32 a z.natAbs
theorem Wz.below {w w':World} {v:Value} {z:Int} (h:Wz w v z) (hb:Below w.heap.size w w'):Wz w' v z:=by
 obtain⟨neg,a,N,h1,h2,h3⟩:=h
 exact⟨neg,a,N,h1,h2.below hb,h3⟩
theorem Wc.below {w w':World} {v:Value} {z:Int} (h:Wc w v z) (hb:Below w.heap.size w w'):Wc w' v z:=by
 obtain⟨a,h1,h2⟩:=h
 exact⟨a,h1,h2.below hb⟩
theorem Wc.wz {w:World} {v:Value} {z:Int} (h:Wc w v z):Wz w v z:=by
 obtain⟨a,h1,h2⟩:=h
 exact⟨_,a,z.natAbs,h1,h2.nt,(u6 z).symm⟩
theorem dY.wc {w w':World} (k:dY w w') {v:Value} {z:Int} (h:Wc w v z):Wc w' v z:=by
 obtain⟨a,h1,h2⟩:=h
 exact⟨a,h1,k.dg h2⟩
theorem Wz.shape {w:World} {v:Value} {z:Int} (h:Wz w v z):∃neg ad n cap N,v= .agg #[.bool neg,.slice ad n cap]/\Nt w (.slice ad n cap) N/\z=sg neg N:=by
 obtain⟨neg,a,N,rfl,h2,h3⟩:=h
 obtain⟨ad,n,cap,rfl⟩:=h2.shape
 exact⟨neg,ad,n,cap,N,rfl,h2,h3⟩
def d8 (w:World) (z:Int) (e:Ending) (w':World):Prop:=∃v,e= .returned v/\Wc w' v z/\Below w.heap.size w w'
theorem Wc.zero (w:World):Wc w (.agg #[.bool false,.slice none 0 0]) 0:=
 ⟨_,rfl,Dg.zero _ _ _ _ (by unfold maxLen;omega) (fun _=>rfl)⟩
theorem Wc.sg {w:World} {neg:Bool} {v:Value} {N:Nat} (h:Dg w .u32 B32 v N) (hp:0<N):Wc w (.agg #[.bool neg,v]) (sg neg N):=
 ⟨v,by rw[GG neg hp],by rw[de];exact h⟩
theorem uY (v:Value) (N:Nat) (w:World) (h:Nt w v N):CP 128 #[v] w (gv w N):=by
 have hl:dl B32 N<=1099511627776:=by
  obtain⟨xs,ho,hv,_,_,_,_,_,_,hl,_⟩:=h
  have:=bX aw ho
  rw[hv] at this
  omega
 refine(ny v N w h).mono ?_
 rintro e w' ⟨v',h1,h2,h3⟩
 exact⟨v',h1,h2.sq (by rw[av];exact hl),h3⟩
theorem cI (neg:Bool) (v:Value) (N:Nat) (w:World) (h:Dg w .u32 B32 v N):
 CP 158 #[.bool neg,v] w (d8 w (sg neg N)):=by
 have H:=Lib.hid h
 obtain⟨ad,cap,rfl,_,_,_,hl,_⟩:=h
 rw[av] at hl ⊢
 by_cases h0:N=0
 ·subst h0
  rw[gk]
  have SZ:=Lib.hid (et neg)
  clear H hl
  go_enter Tryz.func158,Tryz.ntmps158
  go_wp2
  refine bodyPost_ret (v:= .agg #[.bool false,.slice none 0 0]) (by simp[results,Tryz.results158,go_sem]) rfl ⟨_,rfl,?_,(Below.refl _ _).alloc (Nat.le_refl _) _⟩
  rw[SZ.out];exact Wc.zero _
 ·have hp:=fB aw (show 0<N by omega)
  have HP:=Lib.hid (show 0<N by omega)
  obtain⟨d,hd⟩:∃d,d=dl B32 N:=⟨_,rfl⟩
  rw[<-hd] at hl hp ⊢
  have HD:=Lib.hid hd
  clear hd h0
  go_enter Tryz.func158,Tryz.ntmps158
  go_wp2
  have hbl:=(Below.refl w.heap.size w).alloc (Nat.le_refl _) (.cells #[.bool neg,.slice ad d cap] 31)
  refine bodyPost_ret (v:= .agg #[.bool neg,.slice ad d cap]) (by simp[results,Tryz.results158,go_sem]) rfl ⟨_,rfl,?_,hbl⟩
  refine Wc.sg (Dg.below ?_ hbl) HP.out
  have:=H.out
  rw[av,<-HD.out] at this
  exact this
theorem Wc.shape {w:World} {v:Value} {z:Int} (h:Wc w v z):∃ad n cap,v= .agg #[.bool (decide (z<0)),.slice ad n cap]/\Dg w .u32 B32 (.slice ad n cap) z.natAbs:=by
 obtain⟨a,rfl,h2⟩:=h
 have h3:=h2
 obtain⟨ad,cap,rfl,_⟩:=h3
 exact⟨ad,_,cap,rfl,h2⟩
theorem Wc.form {w:World} {v:Value} {z:Int} (h:Wc w v z):∃(b:Bool) (ad:Option Addr) (n cap:Nat),v= .agg #[.bool b,.slice ad n cap]:=by
 obtain⟨ad,n,cap,h1,_⟩:=h.shape
 exact⟨_,ad,n,cap,h1⟩
theorem nJ (neg:Bool) (v:Value) (N:Nat) (w:World) (h:Nt w v N):
 CP 127 #[.bool neg,v] w (d8 w (sg neg N)):=by
 have hsh:=h.shape
 obtain⟨ad,n,cap,rfl⟩:=hsh
 have hb0:=(Below.refl w.heap.size w).alloc (Nat.le_refl _) (.cells #[.bool false,.slice none 0 0] 31)
 go_enter Tryz.func127,Tryz.ntmps127
 go_wp2_with fail
 refine(uY _ N _ (h.below hb0)).mono ?_
 rintro e w1 ⟨v1,rfl,d1,b1⟩
 go_wp2_with fail
 refine(cI neg v1 N _ d1).mono ?_
 rintro e w2 ⟨v2,rfl,h2,b2⟩
 obtain⟨ad2,n2,cap2,rfl,d2⟩:=h2.shape
 have b3:=b1.trans (b2.mono b1.size)
 obtain⟨hc,hf⟩:=hZ b3
 obtain⟨bel,kp⟩:=pt hb0 (Nat.le_refl _) (by simp) (dA.box (l:=[.bool false,.slice none 0 0]) (by simp[dq,fw])) b3 (.bool (decide (sg neg N<0))) (.slice ad2 n2 cap2) (dq _)
 go_wp2
 refine bodyPost_ret (v:= .agg #[.bool (decide (sg neg N<0)),.slice ad2 n2 cap2]) (by simp[results,Tryz.results127,go_sem,hc]) rfl ⟨_,rfl,kp.wc h2,bel⟩
end
section
theorem k6 (n:Int) (w:World) (h0: -9223372036854775808<=n) (h1:n<=9223372036854775807):
 CP 88 #[.int .i64 n] w (d8 w n):=by
 have hb0:=(Below.refl w.heap.size w).alloc (Nat.le_refl _) (.cells #[.bool false,.slice none 0 0] 31)
 by_cases hn:n<0
 ·obtain⟨m,hm⟩:∃m:Nat,n= -(m:Int):=⟨(-n).toNat,by omega⟩
  have ew:IntKind.u64.wrap (-IntKind.u64.wrap n)=(m:Int):=by rw[IntKind.wrap_u64,IntKind.wrap_u64];omega
  have es:sg true m=n:=by rw[hm];rfl
  have hm2:m<18446744073709551616:=by omega
  have EW:=Lib.hid ew;have ES:=Lib.hid es
  clear ew es hm
  go_enter Tryz.func88,Tryz.ntmps88
  go_wp2_with fail
  rw[EW.out]
  refine(l8 m _ hm2).mono ?_
  rintro e w1 ⟨v1,rfl,d1,bel⟩
  go_wp2_with fail
  have kc:=cI true v1 m _ d1
  rw[ES.out] at kc
  refine kc.mono ?_
  rintro e w2 ⟨v9,rfl,h9,bb⟩
  replace bel:=bv bel bb
  clear kc bb d1
  obtain⟨b9,ad9,n9,cap9,rfl⟩:=h9.form
  obtain⟨hc,hf⟩:=hZ bel
  obtain⟨bel9,kp⟩:=pt hb0 (Nat.le_refl _) (by simp) (dA.box (l:=[.bool false,.slice none 0 0]) (by simp[dq,fw])) bel (.bool b9) (.slice ad9 n9 cap9) (dq _)
  go_wp2
  exact bodyPost_ret (by simp[results,Tryz.results88,go_sem,hc]) rfl ⟨_,rfl,kp.wc h9,bel9⟩
 ·obtain⟨m,rfl⟩:∃m:Nat,n=(m:Int):=⟨n.toNat,by omega⟩
  go_enter Tryz.func88,Tryz.ntmps88
  go_wp2_with fail
  refine(l8 m _ (by omega)).mono ?_
  rintro e w1 ⟨v1,rfl,d1,bel⟩
  go_wp2_with fail
  have kc:=cI false v1 m _ d1
  rw[cK] at kc
  refine kc.mono ?_
  rintro e w2 ⟨v9,rfl,h9,bb⟩
  replace bel:=bv bel bb
  clear kc bb d1
  obtain⟨b9,ad9,n9,cap9,rfl⟩:=h9.form
  obtain⟨hc,hf⟩:=hZ bel
  obtain⟨bel9,kp⟩:=pt hb0 (Nat.le_refl _) (by simp) (dA.box (l:=[.bool false,.slice none 0 0]) (by simp[dq,fw])) bel (.bool b9) (.slice ad9 n9 cap9) (dq _)
  go_wp2
  exact bodyPost_ret (by simp[results,Tryz.results88,go_sem,hc]) rfl ⟨_,rfl,kp.wc h9,bel9⟩
def sz (z:Int):Int:=if z=0 then 0 else if z<0 then -1 else 1
def mp (w:World) (n:Int) (e:Ending) (w':World):Prop:=e= .returned (.int .i64 n)/\Below w.heap.size w w'
theorem dt (v:Value) (z:Int) (w:World) (h:Wz w v z):
 CP 150 #[v] w (mp w (sz z)):=by
 obtain⟨neg,ad,n,cap,N,rfl,hN,rfl⟩:=h.shape
 have hb0:=(Below.refl w.heap.size w).alloc (Nat.le_refl _) (.cells #[.bool neg,.slice ad n cap] 31)
 have hN1:=hN.below hb0
 by_cases h0:N=0
 ·subst h0
  have es:sz (sg neg 0)=0:=by rw[et];rfl
  rw[es]
  clear es
  go_enter Tryz.func150,Tryz.ntmps150
  go_wp2_with fail
  have kc:=jA _ 0 _ hN1
  rw[gk] at kc
  refine kc.mono ?_
  rintro e w2 ⟨rfl,hw⟩
  have hw:=hw.symm;subst hw
  clear kc
  go_wp2
  go_ret
  exact⟨rfl,hb0⟩
 ·obtain⟨B,hB⟩:∃B,B=dl 2 N:=⟨_,rfl⟩
  have hbp:(((B:Nat):Int) == 0)=false:=by have:=fB (b:=2) (by omega) (show 0<N by omega);simp;omega
  have HB:=Lib.hid hB
  clear hB
  cases neg with
  |false=>
   have es:sz (sg false N)=1:=by unfold sz;rw[cK,if_neg (by omega),if_neg (by omega)]
   rw[es]
   clear es h0
   go_enter Tryz.func150,Tryz.ntmps150
   go_wp2_with fail
   have kc:=jA _ N _ hN1
   rw[<-HB.out] at kc
   refine kc.mono ?_
   rintro e w2 ⟨rfl,hw⟩
   have hw:=hw.symm;subst hw
   clear kc
   go_wp2
   go_ret
   exact⟨rfl,hb0⟩
  |true=>
   have es:sz (sg true N)= -1:=by unfold sz;rw[di,if_neg (by omega),if_pos (by omega)]
   rw[es]
   clear es h0
   go_enter Tryz.func150,Tryz.ntmps150
   go_wp2_with fail
   have kc:=jA _ N _ hN1
   rw[<-HB.out] at kc
   refine kc.mono ?_
   rintro e w2 ⟨rfl,hw⟩
   have hw:=hw.symm;subst hw
   clear kc
   go_wp2
   go_ret
   exact⟨rfl,hb0⟩
theorem yt (v:Value) (z:Int) (w:World) (h:Wz w v z):
 CP 157 #[v] w (d8 w (-z)):=by
 obtain⟨neg,ad,n,cap,N,rfl,hN,rfl⟩:=h.shape
 have hb0:=((Below.refl w.heap.size w).alloc (Nat.le_refl _) (.cells #[.bool neg,.slice ad n cap] 31)).alloc (by simp) (.cells #[.bool false,.slice none 0 0] 31)
 have hN1:=hN.below hb0
 have EO:=Lib.hid (show sg (!neg) N= - sg neg N from by cases neg <;> simp[sg])
 go_enter Tryz.func157,Tryz.ntmps157
 go_wp2_with fail
 have kc:=nJ (!neg) _ N _ hN1
 rw[EO.out] at kc
 refine kc.mono ?_
 rintro e w2 ⟨v9,rfl,h9,bel⟩
 clear kc
 have ni:dA ((w.alloc (.cells #[.bool neg,.slice ad n cap] 31)).alloc (.cells #[.bool false,.slice none 0 0] 31)) (w.heap.size+1):=by
  have:=dA.box (w:=w.alloc (.cells #[.bool neg,.slice ad n cap] 31)) (l:=[.bool false,.slice none 0 0]) (T:=31) (by simp[dq,fw])
  simpa using this
 obtain⟨b9,ad9,n9,cap9,rfl⟩:=h9.form
 obtain⟨hc,hf⟩:=hZ bel
 obtain⟨bel9,kp⟩:=pt hb0 (by omega) (by simp) ni bel (.bool b9) (.slice ad9 n9 cap9) (dq _)
 go_wp2
 exact bodyPost_ret (by simp[results,Tryz.results157,go_sem,hc]) rfl ⟨_,rfl,kp.wc h9,bel9⟩
end
section
end
section
end
end
end Go.Proofs.YtgdpkknapcgcbaaGreatDoor
