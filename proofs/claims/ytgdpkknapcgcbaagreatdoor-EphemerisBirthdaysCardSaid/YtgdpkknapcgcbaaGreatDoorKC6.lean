import Derived.Test.YtgdpkknapcgcbaaGreatDoorKC5
import Derived.OpenShut
import Derived.Deep.LoopGhost
namespace Go.Proofs.YtgdpkknapcgcbaaGreatDoor
open Go.RowKit
set_option maxRecDepth 100000
set_option linter.unusedVariables false
set_option maxHeartbeats 8000000
theorem jQ {w:World} {a:Addr} {v:Value} (h:w.cell? a=some v):a.block<w.heap.size:=by
 by_cases hc:a.block<w.heap.size
 ·exact hc
 ·exfalso
  have hn:w.heap[a.block]?=none:=Array.getElem?_eq_none (by omega)
  simp[World.cell?,hn] at h
section
section
theorem LR (ad:Option Addr) (n cap:Nat) (xs:List Nat) (m:Nat) (w:World) (hn:n=xs.length) (hr:Rd w .u32 ad xs) (hcap:xs.length<=cap) (hcm:cap<=maxLen) (hnil:ad=none->cap=0) (hm:m<=1099511627776):
 CP 234 #[.slice ad n cap,.int .i64 m] w (wm w .u32 167 (xs.take m)):=by
 subst hn
 unfold maxLen at hcm
 obtain⟨i0,hi,hz0,hz1,hz2⟩:=info_parts Tryz.info167
 have e0:=Acc.empty w .u32 167 w.heap.size (Nat.le_refl _)
 have hbl:=(Below.refl w.heap.size w).alloc (Nat.le_refl _) (.cells #[] 167)
 cases ad with
 |none=>
  have h0:=hnil rfl
  subst h0
  have:xs=[]:=List.length_eq_zero_iff.1 (by omega)
  subst this
  go_enter Tryz.func234,Tryz.ntmps234
  go_wp2_with (at_builtin;refine wpList_append_own_none rfl _ _ 28 rfl w.heap.size 167 i0 1 Tryz.underlying28 hi _ 0 [] rfl e0.own rfl ?_)
  go_ret
  exact⟨_,rfl,by simpa using e0,hbl⟩
 |some a=>
  by_cases hlt:m<xs.length
  ·have hlen:(xs.take m).length =m:=by simp;omega
   have HLN:=Lib.hid hlen
   have hr':=(hr.take m).below hbl
   clear hlen
   go_enter Tryz.func234,Tryz.ntmps234
   go_wp2_with (at_builtin;refine sD _ rfl _ _ 28 rfl .u32 167 i0 4 Tryz.underlying28 hi hz0 hz1 hz2 (by decide) w.heap.size _ [] e0 rfl a m _ (xs.take m) HLN.out.symm rfl hr' (by simp) ?_ (by simp) ?_)
   ·rw[HLN.out];omega
   ·intro v' w' hacc2 hbel2 _
    go_wp2
    go_ret
    exact⟨_,rfl,by simpa using hacc2,hbl.trans hbel2⟩
  ·have hlen:xs.take m=xs:=List.take_of_length_le (by omega)
   have HLN:=Lib.hid hlen
   have hr':=hr.below hbl
   clear hlen
   go_enter Tryz.func234,Tryz.ntmps234
   go_wp2_with (at_builtin;refine sD _ rfl _ _ 28 rfl .u32 167 i0 4 Tryz.underlying28 hi hz0 hz1 hz2 (by decide) w.heap.size _ [] e0 rfl a xs.length cap xs rfl rfl hr' (by simp) ?_ (by simp) ?_)
   ·omega
   ·intro v' w' hacc2 hbel2 _
    go_wp2
    go_ret
    exact⟨_,rfl,by rw[HLN.out];simpa using hacc2,hbl.trans hbel2⟩
end
section
theorem HK (p q:Nat): -1<=c3 p q/\c3 p q<=1:=by unfold c3;split <;> (try split) <;> omega
theorem Eu {N M m:Nat} (h1:N<B32^m) (h2:M<B32^m):N+M<B32^(m+1):=by
 rw[Nat.pow_succ,dw];rw[dw] at h1 h2;omega
end
section
theorem Ru {p q:Nat}:0<=c3 p q↔q<=p:=by unfold c3;split <;> (try split) <;> omega
end
end
theorem Tryz.info3:(Tryz.prog.info? 3).map (fun i=>(i.zero,i.size,i.bytes))=some (some (iv 0),1,8):=by kernel_rfl
def zZ (b:Nat) (w:World) (ad:Option Addr) (cap:Nat) (xs:List Nat) (e:Ending) (w':World):Prop:=
 e= .returned (.slice ad (dl b (vl b xs)) cap)/\w'=w
theorem uc {b:Nat} {w:World} {ad:Option Addr} {cap n:Nat} {xs:List Nat} {v:Value} (hb:2<=b) (ho:okb b xs) (hn:n<=xs.length) (h0:0<n->lg xs (n-1)≠0) (hz:∀i,n<=i->lg xs i=0) (hv:v= .slice ad n cap):
 zZ b w ad cap xs (.returned v) w:=by
 rw[(wA hb ho hn h0 hz).2] at hv
 exact⟨by rw[hv],rfl⟩
section
section
theorem zg {b N M j:Nat} (hb:2<=b) (ha:∀i,j<i->lg (dg b N) i=lg (dg b M) i) (h:lg (dg b N) j<lg (dg b M) j):N<M:=by
 have:=nD (cG hb N) (by omega) h ha
 rwa[cF hb,cF hb] at this
theorem Fq {b N M:Nat} (hb:2<=b) (h:∀j,lg (dg b N) j=lg (dg b M) j):N=M:=by
 have:=jd b h
 rwa[cF hb,cF hb] at this
end
section
end
section
theorem Rd.drop {w:World} {k:IntKind} {b off:Nat} {xs:List Nat} (h:Rd w k (some ⟨b,off,none⟩) xs) (n:Nat):Rd w k (some ⟨b,off+n,none⟩) (xs.drop n):=by
 refine⟨fun i hi=>?_⟩
 simp at hi
 obtain⟨b',off',ha,hlt,hc⟩:=h.cell (n+i) (by omega)
 simp at ha
 obtain⟨rfl,rfl⟩:=ha
 exact⟨b,off+n,rfl,hlt,by rw[fZ,Nat.add_assoc];exact hc⟩
end
end
theorem PK (a:Option Addr) (n c:Nat) (xs:List Nat) (m:Nat) (w:World) (e0:n=xs.length) (r0:Rd w .u32 a xs) (l0:xs.length<=c) (m0:c<=maxLen) (z0:a=none->c=0) (hm:m<=1000):
 CP 234 #[.slice a n c,iv m] w fun e w'=>∃v',e= .returned v'/\Sq w' .u32 v' (xs.take m)/\Below w.heap.size w w':=by
 refine(LR a n c xs m w e0 r0 l0 m0 z0 (by omega)).mono ?_
 rintro e w' ⟨v',h1,h2,h3⟩
 exact⟨v',h1,h2.sq (by simp;omega),h3⟩
section
section
theorem DM (N:Nat):(dl 2 N+31)/32=dl B32 N:=by
 by_cases h:N=0
 ·subst h;rw[gb,gb]
 ·have hp:=eU (b:=2) (by omega) (show 0<N by omega)
  have:=Jk (N:=N) (m:=(dl 2 N+31)/32) (by omega) (by omega) (by omega)
  exact this.symm
theorem gt (ad:Option Addr) (n cap:Nat) (xs:List Nat) (w:World) (hn:n=xs.length) (hr:Rd w .u32 ad xs) (ho:okb B32 xs) (hl:xs.length<=1099511627776) (hcap:xs.length<=cap) (hcm:cap<=maxLen) (hnil:ad=none->cap=0):
 CP 132 #[.slice ad n cap] w (om w ad cap xs):=by
 subst hn
 have hb:=Lib.hid (jB (.slice ad xs.length cap) (vl B32 xs) w ⟨xs,ho,rfl,ad,cap,rfl,hr,hcap,hcm,hl,hnil⟩)
 have h2:=Fg ho
 have hq:=DM (vl B32 xs)
 have hd:=cE aU ho
 have hfin:∀v,v= .slice ad (dl B32 (vl B32 xs)) cap->om w ad cap xs (.returned v) w:=fun v hv=>⟨by rw[hv],rfl⟩
 obtain⟨d,hdd⟩:∃d,d=dl B32 (vl B32 xs):=⟨_,rfl⟩
 obtain⟨b,hbb⟩:∃b,b=dl 2 (vl B32 xs):=⟨_,rfl⟩
 rw[<-hdd] at hq hd hfin
 rw[<-hbb] at hq h2 hb
 have e:((b:Int)+32-1)/32=(d:Int):=by omega
 have HF:=Lib.hid hfin
 clear hdd hbb hq hfin hr ho
 cases ad with
 |none=>
  have hc0:=hnil rfl
  subst hc0
  obtain rfl:d=0:=by omega
  go_enter Tryz.func132,Tryz.ntmps132
  go_wp2_with fail
  refine hb.out.mono ?_
  rintro e w' ⟨rfl,hw⟩
  have hw:=hw.symm;subst hw
  go_wp2
  go_ret
  exact HF.out _ rfl
 |some a=>
  go_enter Tryz.func132,Tryz.ntmps132
  go_wp2_with fail
  refine hb.out.mono ?_
  rintro e w' ⟨rfl,hw⟩
  have hw:=hw.symm;subst hw
  go_wp2
  go_ret
  exact HF.out _ rfl
theorem uv {a b:Nat} (ha:a<4294967296) (hb:b<4294967296):a*b<=18446744065119617025:=
 Nat.mul_le_mul (show a<=4294967295 by omega) (show b<=4294967295 by omega)
theorem Ig {zs:List Nat} {i j c a b Z0 T:Nat} (hlen:i+j<zs.length) (h:vl B32 zs+c*B32^(i+j)=T) (hT:Z0=c+a*b+lg zs (i+j)):
 vl B32 (zs.set (i+j) (Z0%B32))+Z0/B32*B32^(i+(j+1))=T+a*(b*B32^j)*B32^i:=by
 have h1:=ow B32 (xs:=zs) (i:=i+j) (Z0%B32) hlen
 have h2:=jt B32 (B32^(i+j)) Z0
 rw[<-Nat.pow_succ] at h2
 have h3:Z0*B32^(i+j)=c*B32^(i+j)+a*b*B32^(i+j)+lg zs (i+j)*B32^(i+j):=by rw[hT,Nat.add_mul,Nat.add_mul]
 have h4:a*(b*B32^j)*B32^i=a*b*B32^(i+j):=by
  rw[Nat.pow_add,<-Nat.mul_assoc a b,Nat.mul_assoc (a*b),Nat.mul_comm (B32^j)]
 rw[h4,show i+(j+1)=i+j+1 from by omega]
 simp only [Nat.succ_eq_add_one] at h2
 omega
def Oo (w:World) (g d e X Y:Nat) (i:Value) (wr:World):Prop:=
 ∃(k:Nat) (zs:List Nat),k<=d/\i= .int .i64 k/\zs.length=d+e/\okb B32 zs/\Row wr .u32 167 w.heap.size g (d+e) zs/\Below w.heap.size w wr/\(∀t,k+e<=t->lg zs t=0)/\vl B32 zs=vl B32 ((dg B32 X).take k)*Y
def Q5 (w:World) (g d e k a Y T:Nat) (c j:Value) (wr:World):Prop:=
 ∃(u cc:Nat) (zs:List Nat),u<=e/\j= .int .i64 u/\c= .int .u64 cc/\cc<4294967296/\zs.length=d+e/\okb B32 zs/\Row wr .u32 167 w.heap.size g (d+e) zs/\Below w.heap.size w wr/\(∀t,k+e<=t->lg zs t=0)/\
  vl B32 zs+cc*B32^(k+u)=T+a*vl B32 ((dg B32 Y).take u)*B32^k
set_option maxRecDepth 100000 in
theorem rJ (v1 v2:Value) (X Y:Nat) (w:World) (h1:Nt w v1 X) (h2:Nt w v2 Y) (hs1:dl B32 X<=1000000) (hs2:dl B32 Y<=1000000):
 CP 148 #[v1,v2] w (kD w (X*Y)):=by
 obtain⟨xs,ox,vx,ad1,cap1,rfl,r1,c1,m1,l1,n1⟩:=h1
 obtain⟨ys,oy,vy,ad2,cap2,rfl,r2,c2,m2,l2,n2⟩:=h2
 have HX:=Lib.hid vx;have HY:=Lib.hid vy;clear vx vy
 have rX:=r1.dg ox
 have rY:=r2.dg oy
 obtain⟨i0,hi,hz0,hz1,hz2⟩:=info_parts Tryz.info167
 go_enter Tryz.func148,Tryz.ntmps148
 go_wp2_with fail
 refine(gt ad1 _ cap1 xs _ rfl r1 ox l1 c1 m1 n1).mono ?_
 rintro e w' ⟨rfl,hw⟩
 have hw:=hw.symm;subst hw
 go_wp2_with fail
 refine(gt ad2 _ cap2 ys _ rfl r2 oy l2 c2 m2 n2).mono ?_
 rintro e w' ⟨rfl,hw⟩
 have hw:=hw.symm;subst hw
 rw[HX.out] at rX ⊢
 rw[HY.out] at rY ⊢
 obtain⟨d,hd⟩:∃d,d=dl B32 X:=⟨_,rfl⟩
 obtain⟨e,he⟩:∃e,e=dl B32 Y:=⟨_,rfl⟩
 rw[<-hd] at hs1 ⊢
 rw[<-he] at hs2 ⊢
 have HD:=Lib.hid hd;have HE:=Lib.hid he
 clear hd he r1 r2 c1 c2 m1 m2 n1 n2 l1 l2 ox oy HX HY
 go_wp2_with (at_make;refine wpList_make_full _ rfl _ _ 29 rfl w.heap.size 167 i0 (.int .u32 0) 1 Tryz.underlying29 hi hz0 hz1 .i64 .i64 _ _ (d+e) rfl rfl (by omega) (by omega) (by rw[hz2];omega) (by unfold maxLen;omega) (Nat.le_refl _) ?_)
 intro w1 hown hgrow
 have hrow:=Row.of_made hown
 have hb1:Below w.heap.size w w1:=(Below.refl _ _).grown hgrow (Nat.le_refl _) (fun k h=>by cases h)
 clear hown hgrow
 obtain⟨g,hg⟩:∃g,g=w.heap.size:=⟨_,rfl⟩
 rw[<-hg] at hrow
 rw[<-hg]
 have HG:=Lib.hid hg;clear hg
 go_wp2
 go_loopw [23] (fun i wr=>Oo w g d e X Y i wr) (fun i _=>d-(intOf i).toNat)
 case atStart=>
  have h0:∀j,lg (List.replicate (d+e) 0) j=0:=fun j=>by
   unfold lg;simp[List.getD,List.getElem?_replicate];split <;> rfl
  exact⟨0,_,Nat.zero_le _,rfl,by simp,fX bi _,hrow.rebase (Nat.le_of_eq HG.out.symm),hb1,fun j _=>h0 j,by
   rw[show vl B32 (List.replicate (d+e) 0)=vl B32 [] from jd B32 (fun j=>by rw[h0,NO])];simp[vl]⟩
 case round=>
  obtain⟨k,zs,hk,rfl,hzl,hzo,hro,hbe,hz,hv⟩:=hrel
  have HV:=Lib.hid hv;have HZ:=Lib.hid hz;have HZL:=Lib.hid hzl;have HZO:=Lib.hid hzo
  clear hv hz hzl hzo
  by_cases hlt:k<d
  ·obtain⟨b,off,ha,hbs,hcx⟩:=(rX.below hbe).get (by rw[aB,<-HD.out];omega)
   have hcx:=hcx k (by rw[aB,<-HD.out];omega)
   have RX:=Lib.hid rX;have RY:=Lib.hid rY
   subst ha
   have lx:lg (dg B32 X) k<4294967296:=di (cG aU X) bi k
   obtain⟨a,haa⟩:∃a,a=lg (dg B32 X) k:=⟨_,rfl⟩
   rw[<-haa] at lx hcx
   have HA:=Lib.hid haa
   clear haa rX rY hrow hb1
   obtain⟨wo,rfl⟩:∃wo:World,wo=wr:=⟨_,rfl⟩
   go_wp2
   go_loopw [8,30] (fun c j wr=>Q5 w g d e k a Y (vl B32 zs) c j wr) (fun _ j _=>e-(intOf j).toNat)
   case atStart=>exact⟨0,0,zs,Nat.zero_le _,rfl,rfl,by omega,HZL.out,HZO.out,hro,hbe,HZ.out,by simp[vl]⟩
   case round=>
    obtain⟨u,cc,zs',hu,rfl,rfl,hcc,hzl',hzo',hro',hbe',hz',hv'⟩:=hrel
    have HV':=Lib.hid hv';have HZ':=Lib.hid hz';have HZL':=Lib.hid hzl';have HZO':=Lib.hid hzo'
    clear hv' hz' hzl'
    by_cases hlu:u<e
    ·obtain⟨b2,off2,ha2,hbs2,hcy⟩:=(RY.out.below hbe').get (by rw[aB,<-HE.out];omega)
     have hcy:=hcy u (by rw[aB,<-HE.out];omega)
     subst ha2
     have ly:lg (dg B32 Y) u<4294967296:=di (cG aU Y) bi u
     have lz:lg zs' (k+u)<4294967296:=di hzo' bi (k+u)
     have hcs:=hro'.cell (j:=k+u) (by rw[HZL'.out];omega)
     have hfr:=hro'.free (k+u)
     obtain⟨m,hm⟩:∃m,m=a*lg (dg B32 Y) u:=⟨_,rfl⟩
     have hmb:=uv lx ly
     rw[<-hm] at hmb
     have em:(a:Int)*(lg (dg B32 Y) u:Int)=(m:Int):=by rw[hm];push_cast;rfl
     have HM:=Lib.hid hm
     have HRO:=Lib.hid hro';have HBE:=Lib.hid hbe'
     clear hm hzo' hro' hbe'
     go_wp2
     go_roundw
     case rel=>
      obtain⟨T,hT⟩:∃T,T=cc+a*lg (dg B32 Y) u+lg zs' (k+u):=⟨_,rfl⟩
      have hTm:T=cc+m+lg zs' (k+u):=by rw[hT,HM.out]
      have hst:=Ig (by rw[HZL'.out];omega) HV'.out hT
      have hrow2:=HRO.out.set (k+u) (T%B32)
      rw[show((T%B32:Nat):Int)=((cc:Int)+((m:Int)+(lg zs' (k+u):Int)))%4294967296 from by
       show((T%4294967296:Nat):Int)=_
       omega] at hrow2
      refine⟨u+1,T/B32,zs'.set (k+u) (T%B32),by omega,by go_num,?_,?_,by simp;exact HZL'.out,iy HZO'.out (Nat.mod_lt _ bi),hrow2,HBE.out.setCell (p:=⟨g,k+u,none⟩) (Nat.le_of_eq HG.out.symm) _,?_,?_⟩
      ·show _=Value.int .u64 ((T/4294967296:Nat):Int)
       congr 1
       omega
      ·show T/4294967296<4294967296
       omega
      ·intro t ht
       rw[eF _ (by omega)]
       exact HZ'.out t ht
      ·rw[hst,bI,Nat.mul_add,Nat.add_mul,Nat.add_assoc]
     case measure=>simp[intOf];omega
    ·obtain rfl:u=e:=by omega
     have hcs:=hro'.cell (j:=k+u) (by rw[HZL'.out];omega)
     have hfr:=hro'.free (k+u)
     have HRO:=Lib.hid hro';have HBE:=Lib.hid hbe'
     clear hzo' hro' hbe'
     go_wp2
     go_roundw
     case rel=>
      have h0:=HZ'.out (k+u) (by omega)
      have hset:=ow B32 (xs:=zs') (i:=k+u) cc (by rw[HZL'.out];omega)
      rw[h0] at hset
      refine⟨k+1,zs'.set (k+u) cc,by omega,by go_num,by simp;exact HZL'.out,iy HZO'.out hcc,HRO.out.set (k+u) cc,HBE.out.setCell (p:=⟨g,k+u,none⟩) (Nat.le_of_eq HG.out.symm) _,?_,?_⟩
      ·intro t ht
       rw[eF _ (by omega)]
       exact HZ'.out t (by omega)
      ·have hv1:=HV'.out
       rw[cd (by rw[aB,<-HE.out];omega),cF aU,HV.out,HA.out] at hv1
       rw[bI,Nat.add_mul]
       have h5:lg (dg B32 X) k*Y*B32^k=lg (dg B32 X) k*B32^k*Y:=by rw[Nat.mul_assoc,Nat.mul_assoc,Nat.mul_comm Y]
       rw[h5] at hv1
       omega
     case measure=>simp[intOf];omega
  ·obtain rfl:k=d:=by omega
   have hvv:vl B32 zs=X*Y:=by rw[HV.out,cd (by rw[aB,<-HD.out];omega),cF aU]
   have HVV:=Lib.hid hvv
   have hle:=cE aU HZO.out
   rw[HVV.out,HZL.out] at hle
   have hrd:=hro.rd.dg HZO.out
   rw[HVV.out] at hrd
   have hpar:=hro.parts
   clear hvv rX rY hb1 hrow
   go_wp2_with fail
   refine(gt _ _ _ zs _ HZL.out.symm hro.rd HZO.out (by rw[HZL.out];omega) (by rw[HZL.out];omega) hpar.2.2.2 (fun h=>by cases h)).mono ?_
   rintro e w2 ⟨rfl,hw⟩
   have hw:=hw.symm;subst hw
   rw[HVV.out]
   go_wp2
   go_ret
   exact⟨_,rfl,⟨_,_,rfl,hrd,by rw[aB];omega,hpar.2.2.2,by rw[aB];omega,fun h=>by cases h⟩,hbe⟩
end
section
def Fy (w:World) (N y:Nat) (e:Ending) (w':World):Prop:=
 ∃v,e= .returned (.tuple #[v,.int .u32 (if y=0 then 0 else N%y:Nat)])/\Dg w' .u32 B32 v (N/y)/\Below w.heap.size w w'
theorem Dq {x T y:Nat} (hy:0<y) (hx:x<4294967296):
 (x+B32*T)/y=(T%y*4294967296+x)/y+B32*(T/y)/\(x+B32*T)%y=(T%y*4294967296+x)%y/\(T%y*4294967296+x)/y<4294967296:=by
 have h1:=Nat.div_add_mod T y
 have e:x+B32*T=(T%y*4294967296+x)+y*(B32*(T/y)):=by
  rw[dw]
  have:4294967296*T=4294967296*(y*(T/y)+T%y):=by rw[h1]
  rw[this,Nat.mul_add,Nat.mul_left_comm]
  omega
 refine⟨?_,?_,?_⟩
 ·rw[e,Nat.add_mul_div_left _ _ hy]
 ·rw[e,Nat.add_mul_mod_self_left]
 ·apply Nat.div_lt_of_lt_mul
  have hm:=Nat.mod_lt T hy
  have:=Nat.mul_le_mul_right 4294967296 (show T%y+1<=y from hm)
  rw[Nat.add_mul] at this
  omega
def IC (w:World) (g d N y:Nat) (r i:Value) (wr:World):Prop:=
 ∃(k rr:Nat) (zs:List Nat),k<=d/\i= .int .i64 ((k:Int)-1)/\r= .int .u64 rr/\rr<y/\zs.length=d/\okb B32 zs/\Row wr .u32 167 w.heap.size g d zs/\Below w.heap.size w wr/\
  vl B32 (zs.drop k)=N/B32^k/y/\rr=N/B32^k%y
set_option maxRecDepth 100000 in
theorem Ek (v1:Value) (N y:Nat) (w:World) (h1:Nt w v1 N) (hy:y<4294967296):
 CP 264 #[v1,.int .u32 y] w (Fy w N y):=by
 obtain⟨xs,ox,vx,ad1,cap1,rfl,r1,c1,m1,l1,n1⟩:=h1
 have HX:=Lib.hid vx;clear vx
 by_cases hy0:y=0
 ·subst hy0
  clear r1
  go_enter Tryz.func264,Tryz.ntmps264
  go_wp2
  go_ret2
  exact⟨_,rfl,by rw[Nat.div_zero];exact Dg.zero _ _ _ _ (by unfold maxLen;omega) (fun _=>rfl),Below.refl _ _⟩
 ·have hyp:0<y:=by omega
  have hfin:(if y=0 then 0 else N%y:Nat)=N%y:=by rw[if_neg hy0]
  have HF:=Lib.hid hfin
  have hyb:((y:Int) == 0)=false:=by simp;omega
  obtain⟨d,hd⟩:∃d,d=xs.length:=⟨_,rfl⟩
  rw[<-hd] at c1 l1 ⊢
  have HD:=Lib.hid hd
  clear hfin hy0 hd
  obtain⟨i0,hi,hz0,hz1,hz2⟩:=info_parts Tryz.info167
  go_enter Tryz.func264,Tryz.ntmps264
  go_wp2_with (at_make;refine wpList_make_full _ rfl _ _ 29 rfl w.heap.size 167 i0 (.int .u32 0) 1 Tryz.underlying29 hi hz0 hz1 .i64 .i64 _ _ d rfl rfl (by omega) (by omega) (by rw[hz2];omega) (by unfold maxLen;omega) (Nat.le_refl _) ?_)
  intro w1 hown hgrow
  have hrow:=Row.of_made hown
  have hb1:Below w.heap.size w w1:=(Below.refl _ _).grown hgrow (Nat.le_refl _) (fun k h=>by cases h)
  clear hown hgrow
  obtain⟨g,hg⟩:∃g,g=w.heap.size:=⟨_,rfl⟩
  rw[<-hg] at hrow
  rw[<-hg]
  have HG:=Lib.hid hg;clear hg
  go_wp2
  go_loopw [7,8] (fun r i wr=>IC w g d N y r i wr) (fun _ i _=>(intOf i+1).toNat)
  case atStart=>
   have hz:N/B32^d=0:=Nat.div_eq_of_lt (by rw[<-HX.out,HD.out];exact ie ox)
   exact⟨d,0,_,Nat.le_refl _,rfl,rfl,hyp,by simp,fX bi _,hrow.rebase (Nat.le_of_eq HG.out.symm),hb1,by rw[hz];simp[vl],by rw[hz];simp⟩
  case round=>
   obtain⟨k,rr,zs,hk,rfl,rfl,hrr,hzl,hzo,hro,hbe,hq,hm⟩:=hrel
   have HQ:=Lib.hid hq;have HM:=Lib.hid hm;have HZL:=Lib.hid hzl;have HZO:=Lib.hid hzo
   clear hq hm hzl hzo
   by_cases hp:0<k
   ·obtain⟨j,rfl⟩:∃j,k=j+1:=⟨k-1,by omega⟩
    rw[show((j+1:Nat):Int)-1=(j:Int) from by omega]
    obtain⟨b,off,ha,hbs,hcx⟩:=(r1.below hbe).get (by rw[<-HD.out];omega)
    have hcx:=hcx j (by rw[<-HD.out];omega)
    have lx:lg xs j<4294967296:=di ox bi j
    have hr32:rr<4294967296:=by omega
    have hcs:=hro.cell (j:=j) (by rw[HZL.out];omega)
    have hfr:=hro.free j
    have ho:=ph _ _ hr32 lx
    obtain⟨T,hT⟩:∃T,T=rr*4294967296+lg xs j:=⟨_,rfl⟩
    have hTb:T<18446744073709551616:=by omega
    rw[<-hT] at ho
    have hT0:(0:Int)<=(T:Int)/(y:Int):=Int.ediv_nonneg (by omega) (by omega)
    have hdrop:N/B32^j=lg xs j+B32*(N/B32^(j+1)):=by
     rw[<-HX.out,<-vZ ox _ bi,<-vZ ox _ bi];exact fQ B32 xs j
    have hst:=Dq (x:=lg xs j) (T:=N/B32^(j+1)) hyp lx
    rw[<-HM.out,<-hT,<-hdrop] at hst
    obtain⟨hs1,hs2,hs3⟩:=hst
    obtain⟨qd,hqd⟩:∃qd,qd=T/y:=⟨_,rfl⟩
    obtain⟨rm,hrm⟩:∃rm,rm=T%y:=⟨_,rfl⟩
    have eq1:(T:Int)/(y:Int)=(qd:Int):=by rw[hqd];exact(Int.natCast_ediv T y).symm
    have eq2:(T:Int)%(y:Int)=(rm:Int):=by rw[hrm];exact(Int.natCast_emod T y).symm
    have hrml:rm<y:=by rw[hrm];exact Nat.mod_lt _ hyp
    rw[<-hqd] at hs1 hs3
    rw[<-hrm] at hs2
    have HS1:=Lib.hid hs1;have HS2:=Lib.hid hs2
    have HRO:=Lib.hid hro;have HBE:=Lib.hid hbe;have R1:=Lib.hid r1;have OX:=Lib.hid ox
    subst ha
    clear hs1 hs2 hqd hrm hT0 hro hbe r1 ox hdrop hrow hb1
    have HT:=Lib.hid hT;clear hT
    go_wp2
    go_roundw
    case rel=>
     refine⟨j,rm,zs.set j qd,by omega,by go_num,by rw[eq2],hrml,by simp;exact HZL.out,iy HZO.out hs3,?_,HBE.out.setCell (p:=⟨g,j,none⟩) (Nat.le_of_eq HG.out.symm) _,?_,HS2.out.symm⟩
     ·exact HRO.out.set j qd
     rw[fQ,lr _ (by rw[HZL.out];omega),HS1.out,<-HQ.out]
     congr 2
     exact jd B32 (fun t=>by rw[fZ,fZ,eF _ (by omega)])
    case measure=>simp[intOf]
   ·obtain rfl:k=0:=by omega
    have hvv:vl B32 zs=N/y:=by have:=HQ.out;simpa using this
    have hmm:rr=N%y:=by have:=HM.out;simpa using this
    have HVV:=Lib.hid hvv;have HMM:=Lib.hid hmm
    have hle:=cE aU HZO.out
    rw[HVV.out,HZL.out] at hle
    have hrd:=hro.rd.dg HZO.out
    rw[HVV.out] at hrd
    have hpar:=hro.parts
    have hr32:rr<4294967296:=by omega
    clear hvv hmm r1 hb1 hrow
    go_wp2_with fail
    refine(gt _ _ _ zs _ HZL.out.symm hro.rd HZO.out (by rw[HZL.out];omega) (by rw[HZL.out];omega) hpar.2.2.2 (fun h=>by cases h)).mono ?_
    rintro e w2 ⟨rfl,hw⟩
    have hw:=hw.symm;subst hw
    rw[HVV.out]
    go_wp2
    go_ret2
    refine⟨_,?_,⟨_,_,rfl,hrd,by rw[aB];omega,hpar.2.2.2,by rw[aB];omega,fun h=>by cases h⟩,hbe⟩
    rw[HF.out,<-HMM.out]
    rfl
end
end
end Go.Proofs.YtgdpkknapcgcbaaGreatDoor
