import Derived.Test.YtddiipaomejcfaaGreatDoorKB7
import Derived.OpenShut
import Derived.Deep.LoopGhost
import Derived.Deep.DeepCutAuto
namespace Go.Proofs.YtddiipaomejcfaaGreatDoor
open Go.RowKit
set_option maxRecDepth 100000
set_option linter.unusedVariables false
set_option maxHeartbeats 8000000
theorem iu {w:World} {a:Addr} {v:Value} (h:w.cell? a=some v):a.block<w.heap.size:=by
 by_cases hc:a.block<w.heap.size
 ·exact hc
 ·exfalso
  have hn:w.heap[a.block]?=none:=Array.getElem?_eq_none (by omega)
  simp[World.cell?,hn] at h
section
section
theorem JL (ad:Option Addr) (n cap:Nat) (xs:List Nat) (m:Nat) (w:World) (hn:n=xs.length) (hr:Rd w .u32 ad xs) (hcap:xs.length<=cap) (hcm:cap<=maxLen) (hnil:ad=none->cap=0) (hm:m<=1099511627776):
 CP 179 #[.slice ad n cap,.int .i64 m] w (s3 w .u32 143 (xs.take m)):=by
 subst hn
 unfold maxLen at hcm
 obtain⟨i0,hi,hz0,hz1,hz2⟩:=info_parts Tryz.info143
 have e0:=Acc.empty w .u32 143 w.heap.size (Nat.le_refl _)
 have hbl:=(Below.refl w.heap.size w).alloc (Nat.le_refl _) (.cells #[] 143)
 cases ad with
 |none=>
  have h0:=hnil rfl
  subst h0
  have:xs=[]:=List.length_eq_zero_iff.1 (by omega)
  subst this
  go_enter Tryz.func179,Tryz.ntmps179
  go_wp2_with (at_builtin;refine wpList_append_own_none rfl _ _ 73 rfl w.heap.size 143 i0 1 Tryz.underlying73 hi _ 0 [] rfl e0.own rfl ?_)
  go_ret
  exact⟨_,rfl,by simpa using e0,hbl⟩
 |some a=>
  by_cases hlt:m<xs.length
  ·have hlen:(xs.take m).length =m:=by simp;omega
   have HLN:=Lib.hid hlen
   have hr':=(hr.take m).below hbl
   clear hlen
   go_enter Tryz.func179,Tryz.ntmps179
   go_wp2_with (at_builtin;refine pI _ rfl _ _ 73 rfl .u32 143 i0 4 Tryz.underlying73 hi hz0 hz1 hz2 (by decide) w.heap.size _ [] e0 rfl a m _ (xs.take m) HLN.out.symm rfl hr' (by simp) ?_ (by simp) ?_)
   ·rw[HLN.out];omega
   ·intro v' w' hacc2 hbel2 _
    go_wp2
    go_ret
    exact⟨_,rfl,by simpa using hacc2,hbl.trans hbel2⟩
  ·have hlen:xs.take m=xs:=List.take_of_length_le (by omega)
   have HLN:=Lib.hid hlen
   have hr':=hr.below hbl
   clear hlen
   go_enter Tryz.func179,Tryz.ntmps179
   go_wp2_with (at_builtin;refine pI _ rfl _ _ 73 rfl .u32 143 i0 4 Tryz.underlying73 hi hz0 hz1 hz2 (by decide) w.heap.size _ [] e0 rfl a xs.length cap xs rfl rfl hr' (by simp) ?_ (by simp) ?_)
   ·omega
   ·intro v' w' hacc2 hbel2 _
    go_wp2
    go_ret
    exact⟨_,rfl,by rw[HLN.out];simpa using hacc2,hbl.trans hbel2⟩
end
section
theorem FF (p q:Nat): -1<=c3 p q/\c3 p q<=1:=by unfold c3;split <;> (try split) <;> omega
theorem BI {N M m:Nat} (h1:N<B32^m) (h2:M<B32^m):N+M<B32^(m+1):=by
 rw[Nat.pow_succ,cM];rw[cM] at h1 h2;omega
end
section
theorem M7 {p q:Nat}:0<=c3 p q↔q<=p:=by unfold c3;split <;> (try split) <;> omega
end
end
theorem Tryz.info3:(Tryz.prog.info? 3).map (fun i=>(i.zero,i.size,i.bytes))=some (some (iv 0),1,8):=by kernel_rfl
def uV (b:Nat) (w:World) (ad:Option Addr) (cap:Nat) (xs:List Nat) (e:Ending) (w':World):Prop:=
 e= .returned (.slice ad (dl b (vl b xs)) cap)/\w'=w
theorem qY {b:Nat} {w:World} {ad:Option Addr} {cap n:Nat} {xs:List Nat} {v:Value} (hb:2<=b) (ho:okb b xs) (hn:n<=xs.length) (h0:0<n->lg xs (n-1)≠0) (hz:∀i,n<=i->lg xs i=0) (hv:v= .slice ad n cap):
 uV b w ad cap xs (.returned v) w:=by
 rw[(sI hb ho hn h0 hz).2] at hv
 exact⟨by rw[hv],rfl⟩
section
section
theorem uO {b N M j:Nat} (hb:2<=b) (ha:∀i,j<i->lg (dg b N) i=lg (dg b M) i) (h:lg (dg b N) j<lg (dg b M) j):N<M:=by
 have:=lI (bU hb N) (by omega) h ha
 rwa[bT hb,bT hb] at this
theorem BU {b N M:Nat} (hb:2<=b) (h:∀j,lg (dg b N) j=lg (dg b M) j):N=M:=by
 have:=ip b h
 rwa[bT hb,bT hb] at this
end
section
end
section
theorem Rd.drop {w:World} {k:IntKind} {b off:Nat} {xs:List Nat} (h:Rd w k (some ⟨b,off,none⟩) xs) (n:Nat):Rd w k (some ⟨b,off+n,none⟩) (xs.drop n):=by
 refine⟨fun i hi=>?_⟩
 simp at hi
 obtain⟨b',off',ha,hlt,hc⟩:=h.cell (n+i) (by omega)
 simp at ha
 obtain⟨rfl,rfl⟩:=ha
 exact⟨b,off+n,rfl,hlt,by rw[gp,Nat.add_assoc];exact hc⟩
end
end
theorem LP (a:Option Addr) (n c:Nat) (xs:List Nat) (m:Nat) (w:World) (e0:n=xs.length) (r0:Rd w .u32 a xs) (l0:xs.length<=c) (m0:c<=maxLen) (z0:a=none->c=0) (hm:m<=1000):
 CP 179 #[.slice a n c,iv m] w fun e w'=>∃v',e= .returned v'/\Sq w' .u32 v' (xs.take m)/\Below w.heap.size w w':=by
 refine(JL a n c xs m w e0 r0 l0 m0 z0 (by omega)).mono ?_
 rintro e w' ⟨v',h1,h2,h3⟩
 exact⟨v',h1,h2.sq (by simp;omega),h3⟩
section
section
theorem Ae (N:Nat):(dl 2 N+31)/32=dl B32 N:=by
 by_cases h:N=0
 ·subst h;rw[fb,fb]
 ·have hp:=eE (b:=2) (by omega) (show 0<N by omega)
  have:=F9 (N:=N) (m:=(dl 2 N+31)/32) (by omega) (by omega) (by omega)
  exact this.symm
theorem fZ (ad:Option Addr) (n cap:Nat) (xs:List Nat) (w:World) (hn:n=xs.length) (hr:Rd w .u32 ad xs) (ho:okb B32 xs) (hl:xs.length<=1099511627776) (hcap:xs.length<=cap) (hcm:cap<=maxLen) (hnil:ad=none->cap=0):
 CP 145 #[.slice ad n cap] w (lP w ad cap xs):=by
 subst hn
 have hb:=Lib.hid (kN (.slice ad xs.length cap) (vl B32 xs) w ⟨xs,ho,rfl,ad,cap,rfl,hr,hcap,hcm,hl,hnil⟩)
 have h2:=BT ho
 have hq:=Ae (vl B32 xs)
 have hd:=bV aN ho
 have hfin:∀v,v= .slice ad (dl B32 (vl B32 xs)) cap->lP w ad cap xs (.returned v) w:=fun v hv=>⟨by rw[hv],rfl⟩
 obtain⟨d,hdd⟩:∃d,d=dl B32 (vl B32 xs):=⟨_,rfl⟩
 obtain⟨b,hbb⟩:∃b,b=dl 2 (vl B32 xs):=⟨_,rfl⟩
 rw[<-hdd] at hq hd hfin
 rw[<-hbb] at hq h2 hb
 have e:((b:Int)+32-1)/32=(d:Int):=by omega
 have HF:=Lib.hid hfin
 clear hdd hbb hq hfin hr ho
 cases ad with
 |none=>
  have hc0:=hnil rfl
  subst hc0
  obtain rfl:d=0:=by omega
  go_enter Tryz.func145,Tryz.ntmps145
  go_wp2_with fail
  refine hb.out.mono ?_
  rintro e w' ⟨rfl,hw⟩
  have hw:=hw.symm;subst hw
  go_wp2
  go_ret
  exact HF.out _ rfl
 |some a=>
  go_enter Tryz.func145,Tryz.ntmps145
  go_wp2_with fail
  refine hb.out.mono ?_
  rintro e w' ⟨rfl,hw⟩
  have hw:=hw.symm;subst hw
  go_wp2
  go_ret
  exact HF.out _ rfl
theorem ss {a b:Nat} (ha:a<4294967296) (hb:b<4294967296):a*b<=18446744065119617025:=
 Nat.mul_le_mul (show a<=4294967295 by omega) (show b<=4294967295 by omega)
theorem DX {zs:List Nat} {i j c a b Z0 T:Nat} (hlen:i+j<zs.length) (h:vl B32 zs+c*B32^(i+j)=T) (hT:Z0=c+a*b+lg zs (i+j)):
 vl B32 (zs.set (i+j) (Z0%B32))+Z0/B32*B32^(i+(j+1))=T+a*(b*B32^j)*B32^i:=by
 have h1:=md B32 (xs:=zs) (i:=i+j) (Z0%B32) hlen
 have h2:=ib B32 (B32^(i+j)) Z0
 rw[<-Nat.pow_succ] at h2
 have h3:Z0*B32^(i+j)=c*B32^(i+j)+a*b*B32^(i+j)+lg zs (i+j)*B32^(i+j):=by rw[hT,Nat.add_mul,Nat.add_mul]
 have h4:a*(b*B32^j)*B32^i=a*b*B32^(i+j):=by
  rw[Nat.pow_add,<-Nat.mul_assoc a b,Nat.mul_assoc (a*b),Nat.mul_comm (B32^j)]
 rw[h4,show i+(j+1)=i+j+1 from by omega]
 simp only [Nat.succ_eq_add_one] at h2
 omega
def JZ (w:World) (g d e X Y:Nat) (i:Value) (wr:World):Prop:=
 ∃(k:Nat) (zs:List Nat),k<=d/\i= .int .i64 k/\zs.length=d+e/\okb B32 zs/\Row wr .u32 143 w.heap.size g (d+e) zs/\Below w.heap.size w wr/\(∀t,k+e<=t->lg zs t=0)/\vl B32 zs=vl B32 ((dg B32 X).take k)*Y
def MR (w:World) (g d e k a Y T:Nat) (c j:Value) (wr:World):Prop:=
 ∃(u cc:Nat) (zs:List Nat),u<=e/\j= .int .i64 u/\c= .int .u64 cc/\cc<4294967296/\zs.length=d+e/\okb B32 zs/\Row wr .u32 143 w.heap.size g (d+e) zs/\Below w.heap.size w wr/\(∀t,k+e<=t->lg zs t=0)/\
  vl B32 zs+cc*B32^(k+u)=T+a*vl B32 ((dg B32 Y).take u)*B32^k
set_option maxRecDepth 100000 in
theorem po (v1 v2:Value) (X Y:Nat) (w:World) (h1:Nt w v1 X) (h2:Nt w v2 Y) (hs1:dl B32 X<=1000000) (hs2:dl B32 Y<=1000000):
 CP 102 #[v1,v2] w (iJ w (X*Y)):=by
 obtain⟨xs,ox,vx,ad1,cap1,rfl,r1,c1,m1,l1,n1⟩:=h1
 obtain⟨ys,oy,vy,ad2,cap2,rfl,r2,c2,m2,l2,n2⟩:=h2
 have HX:=Lib.hid vx;have HY:=Lib.hid vy;clear vx vy
 have rX:=r1.dg ox
 have rY:=r2.dg oy
 obtain⟨i0,hi,hz0,hz1,hz2⟩:=info_parts Tryz.info143
 go_enter Tryz.func102,Tryz.ntmps102
 go_wp2_with fail
 refine(fZ ad1 _ cap1 xs _ rfl r1 ox l1 c1 m1 n1).mono ?_
 rintro e w' ⟨rfl,hw⟩
 have hw:=hw.symm;subst hw
 go_wp2_with fail
 refine(fZ ad2 _ cap2 ys _ rfl r2 oy l2 c2 m2 n2).mono ?_
 rintro e w' ⟨rfl,hw⟩
 have hw:=hw.symm;subst hw
 rw[HX.out] at rX ⊢
 rw[HY.out] at rY ⊢
 obtain⟨d,hd⟩:∃d,d=dl B32 X:=⟨_,rfl⟩
 obtain⟨e,he⟩:∃e,e=dl B32 Y:=⟨_,rfl⟩
 rw[<-hd] at hs1 ⊢
 rw[<-he] at hs2 ⊢
 have HD:=Lib.hid hd;have HE:=Lib.hid he
 clear hd he r1 r2 c1 c2 m1 m2 n1 n2 l1 l2 ox oy HX HY
 go_wp2_with (at_make;refine wpList_make_full _ rfl _ _ 74 rfl w.heap.size 143 i0 (.int .u32 0) 1 Tryz.underlying74 hi hz0 hz1 .i64 .i64 _ _ (d+e) rfl rfl (by omega) (by omega) (by rw[hz2];omega) (by unfold maxLen;omega) (Nat.le_refl _) ?_)
 intro w1 hown hgrow
 have hrow:=Row.of_made hown
 have hb1:Below w.heap.size w w1:=(Below.refl _ _).grown hgrow (Nat.le_refl _) (fun k h=>by cases h)
 clear hown hgrow
 obtain⟨g,hg⟩:∃g,g=w.heap.size:=⟨_,rfl⟩
 rw[<-hg] at hrow
 rw[<-hg]
 have HG:=Lib.hid hg;clear hg
 go_wp2
 go_loopw [23] (fun i wr=>JZ w g d e X Y i wr) (fun i _=>d-(intOf i).toNat)
 case atStart=>
  have h0:∀j,lg (List.replicate (d+e) 0) j=0:=fun j=>by
   unfold lg;simp[List.getD,List.getElem?_replicate];split <;> rfl
  exact⟨0,_,Nat.zero_le _,rfl,by simp,gb a6 _,hrow.rebase (Nat.le_of_eq HG.out.symm),hb1,fun j _=>h0 j,by
   rw[show vl B32 (List.replicate (d+e) 0)=vl B32 [] from ip B32 (fun j=>by rw[h0,L3])];simp[vl]⟩
 case round=>
  obtain⟨k,zs,hk,rfl,hzl,hzo,hro,hbe,hz,hv⟩:=hrel
  have HV:=Lib.hid hv;have HZ:=Lib.hid hz;have HZL:=Lib.hid hzl;have HZO:=Lib.hid hzo
  clear hv hz hzl hzo
  by_cases hlt:k<d
  ·obtain⟨b,off,ha,hbs,hcx⟩:=(rX.below hbe).get (by rw[aA,<-HD.out];omega)
   have hcx:=hcx k (by rw[aA,<-HD.out];omega)
   have RX:=Lib.hid rX;have RY:=Lib.hid rY
   subst ha
   have lx:lg (dg B32 X) k<4294967296:=cD (bU aN X) a6 k
   obtain⟨a,haa⟩:∃a,a=lg (dg B32 X) k:=⟨_,rfl⟩
   rw[<-haa] at lx hcx
   have HA:=Lib.hid haa
   clear haa rX rY hrow hb1
   obtain⟨wo,rfl⟩:∃wo:World,wo=wr:=⟨_,rfl⟩
   go_wp2
   go_loopw [8,30] (fun c j wr=>MR w g d e k a Y (vl B32 zs) c j wr) (fun _ j _=>e-(intOf j).toNat)
   case atStart=>exact⟨0,0,zs,Nat.zero_le _,rfl,rfl,by omega,HZL.out,HZO.out,hro,hbe,HZ.out,by simp[vl]⟩
   case round=>
    obtain⟨u,cc,zs',hu,rfl,rfl,hcc,hzl',hzo',hro',hbe',hz',hv'⟩:=hrel
    have HV':=Lib.hid hv';have HZ':=Lib.hid hz';have HZL':=Lib.hid hzl';have HZO':=Lib.hid hzo'
    clear hv' hz' hzl'
    by_cases hlu:u<e
    ·obtain⟨b2,off2,ha2,hbs2,hcy⟩:=(RY.out.below hbe').get (by rw[aA,<-HE.out];omega)
     have hcy:=hcy u (by rw[aA,<-HE.out];omega)
     subst ha2
     have ly:lg (dg B32 Y) u<4294967296:=cD (bU aN Y) a6 u
     have lz:lg zs' (k+u)<4294967296:=cD hzo' a6 (k+u)
     have hcs:=hro'.cell (j:=k+u) (by rw[HZL'.out];omega)
     have hfr:=hro'.free (k+u)
     obtain⟨m,hm⟩:∃m,m=a*lg (dg B32 Y) u:=⟨_,rfl⟩
     have hmb:=ss lx ly
     rw[<-hm] at hmb
     have em:(a:Int)*(lg (dg B32 Y) u:Int)=(m:Int):=by rw[hm];push_cast;rfl
     have HM:=Lib.hid hm
     have HRO:=Lib.hid hro';have HBE:=Lib.hid hbe'
     clear hm hzo' hro' hbe'
     go_wp2
     go_roundw
     case rel=>
      obtain⟨T,hT⟩:∃T,T=cc+a*lg (dg B32 Y) u+lg zs' (k+u):=⟨_,rfl⟩
      have hTm:T=cc+m+lg zs' (k+u):=by rw[hT,HM.out]
      have hst:=DX (by rw[HZL'.out];omega) HV'.out hT
      have hrow2:=HRO.out.set (k+u) (T%B32)
      rw[show((T%B32:Nat):Int)=((cc:Int)+((m:Int)+(lg zs' (k+u):Int)))%4294967296 from by
       show((T%4294967296:Nat):Int)=_
       omega] at hrow2
      refine⟨u+1,T/B32,zs'.set (k+u) (T%B32),by omega,by go_num,?_,?_,by simp;exact HZL'.out,gU HZO'.out (Nat.mod_lt _ a6),hrow2,HBE.out.setCell (p:=⟨g,k+u,none⟩) (Nat.le_of_eq HG.out.symm) _,?_,?_⟩
      ·show _=Value.int .u64 ((T/4294967296:Nat):Int)
       congr 1
       omega
      ·show T/4294967296<4294967296
       omega
      ·intro t ht
       rw[fN _ (by omega)]
       exact HZ'.out t ht
      ·rw[hst,bm,Nat.mul_add,Nat.add_mul,Nat.add_assoc]
     case measure=>simp[intOf];omega
    ·obtain rfl:u=e:=by omega
     have hcs:=hro'.cell (j:=k+u) (by rw[HZL'.out];omega)
     have hfr:=hro'.free (k+u)
     have HRO:=Lib.hid hro';have HBE:=Lib.hid hbe'
     clear hzo' hro' hbe'
     go_wp2
     go_roundw
     case rel=>
      have h0:=HZ'.out (k+u) (by omega)
      have hset:=md B32 (xs:=zs') (i:=k+u) cc (by rw[HZL'.out];omega)
      rw[h0] at hset
      refine⟨k+1,zs'.set (k+u) cc,by omega,by go_num,by simp;exact HZL'.out,gU HZO'.out hcc,HRO.out.set (k+u) cc,HBE.out.setCell (p:=⟨g,k+u,none⟩) (Nat.le_of_eq HG.out.symm) _,?_,?_⟩
      ·intro t ht
       rw[fN _ (by omega)]
       exact HZ'.out t (by omega)
      ·have hv1:=HV'.out
       rw[bL (by rw[aA,<-HE.out];omega),bT aN,HV.out,HA.out] at hv1
       rw[bm,Nat.add_mul]
       have h5:lg (dg B32 X) k*Y*B32^k=lg (dg B32 X) k*B32^k*Y:=by rw[Nat.mul_assoc,Nat.mul_assoc,Nat.mul_comm Y]
       rw[h5] at hv1
       omega
     case measure=>simp[intOf];omega
  ·obtain rfl:k=d:=by omega
   have hvv:vl B32 zs=X*Y:=by rw[HV.out,bL (by rw[aA,<-HD.out];omega),bT aN]
   have HVV:=Lib.hid hvv
   have hle:=bV aN HZO.out
   rw[HVV.out,HZL.out] at hle
   have hrd:=hro.rd.dg HZO.out
   rw[HVV.out] at hrd
   have hpar:=hro.parts
   clear hvv rX rY hb1 hrow
   go_wp2_with fail
   refine(fZ _ _ _ zs _ HZL.out.symm hro.rd HZO.out (by rw[HZL.out];omega) (by rw[HZL.out];omega) hpar.2.2.2 (fun h=>by cases h)).mono ?_
   rintro e w2 ⟨rfl,hw⟩
   have hw:=hw.symm;subst hw
   rw[HVV.out]
   go_wp2
   go_ret
   exact⟨_,rfl,⟨_,_,rfl,hrd,by rw[aA];omega,hpar.2.2.2,by rw[aA];omega,fun h=>by cases h⟩,hbe⟩
end
section
end
end
section
section
theorem iB (b:Nat) (hb2:2<=b) (ad:Option Addr) (n cap:Nat) (xs:List Nat) (w:World) (hn:n=xs.length) (hr:Rd w .i64 ad xs) (ho:okb b xs) (hl:xs.length<=2199023255553) (hcap:xs.length<=cap) (hnil:ad=none->cap=0):
 CP 155 #[.slice ad n cap] w (uV b w ad cap xs):=by
 subst hn
 go_enter Tryz.func155,Tryz.ntmps155
 go_wp2
 go_loop [3] (fun n=>∃k:Nat,k<=xs.length/\n= .int .i64 k/\Hid (∀i,k<=i->lg xs i=0)) (fun n=>(intOf n).toNat)
 case atStart=>exact⟨_,Nat.le_refl _,rfl,Lib.hid (fun i hi=>dS (by omega))⟩
 case round=>
  obtain⟨k,hk,rfl,hz⟩:=hrel
  by_cases hp:0<k
  ·obtain⟨b',off,rfl,hb,hc⟩:=hr.get (by omega)
   have hc:=hc (k-1) (by omega)
   clear hr hnil
   go_wp2
   ·have ht:((lg xs (k-1):Nat) == (0:Int))=true:=by assumption
    go_round
    case rel=>exact⟨k-1,by omega,by go_num,fun i hi=>by
     by_cases e:i=k-1
     ·subst e;simpa using ht
     ·exact hz i (by omega)⟩
    case measure=>simp[intOf];omega
   ·have ht:((lg xs (k-1):Nat) == (0:Int))=false:=by assumption
    go_ret
    exact qY hb2 ho hk (fun _=>by simpa using ht) hz rfl
  ·obtain rfl:k=0:=by omega
   cases ad with
   |none=>
    have hc0:=hnil rfl
    subst hc0
    go_wp2
    go_ret
    exact qY hb2 ho hk (fun h=>by omega) hz rfl
   |some a=>
    go_wp2
    go_ret
    exact qY hb2 ho hk (fun h=>by omega) hz rfl
def iU (w:World) (N:Nat) (e:Ending) (w':World):Prop:=∃v,e= .returned v/\Dg w' .i64 65536 v N/\Below w.heap.size w w'
theorem lj {w0 wr:World} {L:List Nat} {ad:Option Addr} {cap N:Nat} (hok:okb 65536 L) (hv:vl 65536 L=N) (hrd:Rd wr .i64 ad L) (hc2:L.length<=cap) (hm2:cap<=maxLen) (hl:L.length<=1099511627776) (hn2:ad=none->cap=0) (hb:Below w0.heap.size w0 wr):
 iU w0 N (.returned (.slice ad (dl 65536 N) cap)) wr:=by
 subst hv
 have hpre:=hrd.take (dl 65536 (vl 65536 L))
 have hd2:=bV (b:=65536) (by omega) hok
 rw[yX (by omega) hok] at hpre
 exact⟨_,rfl,⟨_,_,rfl,hpre,by rw[aA];omega,hm2,by rw[aA];omega,hn2⟩,hb⟩
theorem Eu (j:Nat):(65536:Nat)^(2*j)=B32^j:=by rw[Nat.pow_mul];rfl
theorem Cz {L:List Nat} {j x T:Nat} (hl:L.length=2*j) (hv:vl 65536 L=T):vl 65536 (L++[x%65536,x/65536])=T+x*B32^j:=by
 rw[nH,hv,hl,Eu]
 simp only [vl,Nat.mul_zero,Nat.add_zero]
 rw[Nat.mod_add_div,Nat.mul_comm]
def I4 (w:World) (xs:List Nat) (o i:Value) (wr:World):Prop:=
 ∃(j:Nat) (L:List Nat),j<=xs.length/\i= .int .i64 j/\Acc wr .i64 3 w.heap.size o L/\okb 65536 L/\L.length=2*j/\vl 65536 L=vl B32 (xs.take j)/\Below w.heap.size w wr
theorem Jj (w:World) (x:Nat) (T:TypeId):Row (w.alloc (.cells #[.int .i64 ((x:Int)%65536),.int .i64 ((x:Int)/65536)] T)) .i64 T w.heap.size w.heap.size 2 [x%65536,x/65536]:=
 ⟨World.ownsRow_lit w #[.int .i64 ((x:Int)%65536),.int .i64 ((x:Int)/65536)] 2 (Nat.le_refl _) (by unfold maxLen;omega) (by simp)⟩
theorem BQ (v:Value) (xs:List Nat) (w:World) (h:Sq w .u32 v xs) (ho:okb B32 xs) (hl:xs.length<=1073741824):
 CP 178 #[v] w (iU w (vl B32 xs)):=by
 obtain⟨ad,cap,rfl,hr,_,_,_,_⟩:=h
 obtain⟨i0,hi,hz0,hz1,hz2⟩:=info_parts Tryz.info3
 go_enter Tryz.func178,Tryz.ntmps178
 go_wp2
 go_loopw [3,9] (fun o i wr=>I4 w xs o i wr) (fun _ i _=>xs.length-(intOf i).toNat)
 case atStart=>exact⟨0,[],Nat.zero_le _,rfl,Acc.empty w .i64 3 w.heap.size (Nat.le_refl _),lX _,rfl,by simp[vl],(Below.refl _ _).alloc (Nat.le_refl _) _⟩
 case round=>
  obtain⟨j,L,hj,rfl,hacc,hok,hlen,hv,hbe⟩:=hrel
  have HV:=Lib.hid hv;have HLN:=Lib.hid hlen
  have hll:L.length<=1099511627778:=by omega
  clear hv hlen
  by_cases hlt:j<xs.length
  ·obtain⟨b,off,ha,hbs,hcx⟩:=(hr.below hbe).get (by omega)
   have hcx:=hcx j hlt
   have lx:lg xs j<4294967296:=cD ho a6 j
   have HT:=Lib.hid (bm B32 xs j)
   have HST:=Lib.hid (Cz (x:=lg xs j) HLN.out HV.out)
   have hrow:=Jj wr (lg xs j) 3
   have hac:=hacc.below ((Below.refl wr.heap.size wr).alloc (Nat.le_refl _) (.cells #[.int .i64 ((lg xs j:Int)%65536),.int .i64 ((lg xs j:Int)/65536)] 3))
   have hb2:=hbe.alloc hbe.size (.cells #[.int .i64 ((lg xs j:Int)%65536),.int .i64 ((lg xs j:Int)/65536)] 3)
   have HR:=Lib.hid hr
   subst ha
   clear hr
   go_wp2_with (at_builtin;refine pI _ rfl _ _ 43 rfl .i64 3 i0 8 Tryz.underlying43 hi hz0 hz1 hz2 (by decide) w.heap.size _ L hac rfl ⟨wr.heap.size,0,none⟩ 2 2 [lg xs j%65536,lg xs j/65536] rfl rfl hrow.rd hll (by simp) hb2.size ?_)
   intro v' w' hacc2 hbel2 _
   have hb3:=hb2.trans hbel2
   clear hacc hac hrow hb2 hbel2
   go_wp2
   go_roundw
   case rel=>exact⟨j+1,_,by omega,by go_num,hacc2,gT hok (by intro x hx;simp at hx;omega),by simp;rw[HLN.out];omega,by rw[HST.out,HT.out],hb3⟩
   case measure=>simp[intOf];omega
  ·obtain rfl:j=xs.length:=by omega
   have hval:=HV.out
   rw[List.take_length] at hval
   have HVAL:=Lib.hid hval
   have hsq:=hacc.sq (by rw[HLN.out];omega)
   have hl4:L.length<=1099511627776:=by rw[HLN.out];omega
   clear hval hr hacc
   go_wp2_with fail
   obtain⟨ad3,cap3,hv3,hrd,hc3,hm3,hl3,hn3⟩:=hsq
   rw[hv3]
   refine(iB 65536 (by omega) _ _ _ L _ rfl hrd hok (by omega) hc3 hn3).mono ?_
   rintro e w1 ⟨rfl,hw⟩
   have hw:=hw.symm;subst hw
   rw[HVAL.out]
   have hend:=lj hok HVAL.out hrd hc3 hm3 hl4 hn3 hbe
   clear hv3
   go_wp2
   go_ret
   exact hend
end
section
theorem Mh {b:Nat} (hb:2<=b) {L:List Nat} (ho:okb b L) (h:L.length<=dl b (vl b L)):L=dg b (vl b L):=by
 have:=yX hb ho
 rwa[List.take_of_length_le h] at this
def yU (w:World) (mx N M:Nat) (o c i:Value) (wr:World):Prop:=
 ∃(k cc:Nat) (L:List Nat),k<=mx/\i= .int .i64 k/\c= .int .i64 cc/\cc<=1/\L.length=k/\okb 65536 L/\Acc wr .i64 3 w.heap.size o L/\Below w.heap.size w wr/\
  vl 65536 L+cc*65536^k=vl 65536 ((dg 65536 N).take k)+vl 65536 ((dg 65536 M).take k)
theorem BA {N M mx:Nat} {L:List Nat} (hok:okb 65536 L) (hl:L.length=mx) (h1:mx=dl 65536 N\/mx=dl 65536 M) (hv:vl 65536 L=N+M):L=dg 65536 (N+M):=by
 have:=Mh (b:=65536) (by omega) hok (by
  rw[hv,hl]
  rcases h1 with h|h
  ·rw[h];exact gS (by omega) (by omega)
  ·rw[h];exact gS (by omega) (by omega))
 rwa[hv] at this
theorem CU {N M mx:Nat} {L:List Nat} (hok:okb 65536 L) (hl:L.length=mx) (hv:vl 65536 L+1*65536^mx=N+M):L++[1]=dg 65536 (N+M):=by
 have hv2:vl 65536 (L++[1])=N+M:=by rw[ja,hl];exact hv
 have hn:norm (L++[1]):=by
  intro _
  rw[List.length_append,List.length_singleton,Nat.add_sub_cancel,Ib];omega
 have:=nA (b:=65536) (by omega) (gT hok (km (by omega))) hn
 rw[hv2] at this
 exact this.symm
set_option maxRecDepth 100000 in
theorem rj (v1 v2:Value) (N M:Nat) (w:World) (h1:Dg w .i64 65536 v1 N) (h2:Dg w .i64 65536 v2 M) (hb:dl 65536 N<=1000000/\dl 65536 M<=1000000):
 CP 153 #[v1,v2] w (iU w (N+M)):=by
 obtain⟨ad1,cap1,rfl,r1,c1,m1,l1,n1⟩:=h1
 obtain⟨ad2,cap2,rfl,r2,c2,m2,l2,n2⟩:=h2
 rw[aA] at l1 l2 c1 c2 ⊢
 rw[aA]
 obtain⟨i0,hi,hz0,hz1,hz2⟩:=info_parts Tryz.info3
 obtain⟨d1,hd1⟩:∃d1:Nat,d1=dl 65536 N:=⟨_,rfl⟩
 obtain⟨d2,hd2⟩:∃d2:Nat,d2=dl 65536 M:=⟨_,rfl⟩
 rw[<-hd1,<-hd2] at hb
 rw[<-hd1] at c1 l1 ⊢
 rw[<-hd2] at c2 l2 ⊢
 obtain⟨hb1,hb2⟩:=hb
 have HD1:=Lib.hid hd1;have HD2:=Lib.hid hd2
 clear hd1 hd2
 obtain⟨mx,hmx⟩:∃mx:Nat,mx=max d1 d2:=⟨_,rfl⟩
 have hm1:d1<=mx:=by omega
 have hm2:d2<=mx:=by omega
 have hml:mx<=1000000:=by omega
 have HMX:=Lib.hid (show mx=dl 65536 N\/mx=dl 65536 M from by rw[<-HD1.out,<-HD2.out];omega)
 have HMXX:=Lib.hid hmx
 clear hmx
 go_enter Tryz.func153,Tryz.ntmps153
 go_wp2
 go_loopw [5,6,7] (fun o c i wr=>yU w mx N M o c i wr) (fun _ _ i _=>mx-(intOf i).toNat)
 case atStart=>exact⟨0,0,[],by omega,rfl,rfl,by omega,rfl,lX _,Acc.empty w .i64 3 w.heap.size (Nat.le_refl _),(Below.refl _ _).alloc (Nat.le_refl _) _,by simp[vl]⟩
 case round=>
  obtain⟨k,cc,L,hk,rfl,rfl,hcc,hlen,hok,hacc,hbe,hmath⟩:=hrel
  have HM:=Lib.hid hmath;have HLN:=Lib.hid hlen
  have hll:L.length<=2199023255552:=by omega
  clear hmath hlen
  have x1:lg (dg 65536 N) k<65536:=cD (bU (b:=65536) (by omega) N) (by omega) k
  have x2:lg (dg 65536 M) k<65536:=cD (bU (b:=65536) (by omega) M) (by omega) k
  obtain⟨t,ht⟩:∃t:Nat,t=lg (dg 65536 N) k+lg (dg 65536 M) k+cc:=⟨_,rfl⟩
  have HT:=Lib.hid ht
  have htb:t<=131071:=by omega
  clear ht
  have hstep:=wC (x:=lg (dg 65536 N) k) (y:=lg (dg 65536 M) k) HM.out
  rw[<-HT.out] at hstep
  have HST:=Lib.hid hstep
  have hfin:k<mx->∀(o:Value) (w':World) (z zc:Int),Acc w' .i64 3 w.heap.size o (L++[t%65536])->Below w.heap.size wr w'->z=(k:Int)+1->zc=(t:Int)/65536->yU w mx N M o (.int .i64 zc) (.int .i64 z) w':=by
   intro hkm o w' z zc ha2 hb2 hz hzc
   refine⟨k+1,t/65536,L++[t%65536],by omega,by rw[hz];rfl,by rw[hzc];rfl,by omega,by simp;exact HLN.out,gT hok (km (Nat.mod_lt _ (by omega))),ha2,hbe.trans hb2,?_⟩
   rw[ja,HLN.out,bm,bm];exact HST.out
  have HF:=Lib.hid hfin
  clear hstep hfin
  by_cases hlt:k<mx
  ·have ways:(k<d1/\k<d2)\/(k<d1/\¬k<d2)\/(¬k<d1/\k<d2):=by have:=HMXX.out;omega
   rcases ways with⟨q1,q2⟩|⟨q1,q2⟩|⟨q1,q2⟩
   ·obtain⟨b,off,ha,_,hc⟩:=(r1.below hbe).get (by rw[aA,<-HD1.out];omega)
    have hc:=hc k (by rw[aA,<-HD1.out];exact q1)
    obtain⟨b',off',ha',_,hc'⟩:=(r2.below hbe).get (by rw[aA,<-HD2.out];omega)
    have hc':=hc' k (by rw[aA,<-HD2.out];exact q2)
    subst ha;subst ha'
    have et:(cc:Int)+(lg (dg 65536 N) k:Int)+(lg (dg 65536 M) k:Int)=(t:Int):=by have:=HT.out;omega
    clear r1 r2
    go_wp2_with (at_builtin;refine gc wr rfl _ _ 43 rfl .i64 3 i0 8 Tryz.underlying43 hi hz0 hz1 hz2 (by decide) w.heap.size _ L hacc rfl _ (t%65536) ?_ rfl hll hbe.size ?_)
    ·omega
    ·intro v' w' hacc2 hbel2
     clear hacc
     go_wp2
     go_roundw
     case rel=>exact HF.out hlt _ _ _ _ hacc2 hbel2 rfl (by omega)
     case measure=>simp[intOf];omega
   ·obtain⟨b,off,ha,_,hc⟩:=(r1.below hbe).get (by rw[aA,<-HD1.out];omega)
    have hc:=hc k (by rw[aA,<-HD1.out];exact q1)
    subst ha
    have z2:=dS (xs:=dg 65536 M) (i:=k) (by rw[aA,<-HD2.out];omega)
    have et:(cc:Int)+(lg (dg 65536 N) k:Int)=(t:Int):=by have:=HT.out;omega
    clear r1 r2 z2
    go_wp2_with (at_builtin;refine gc wr rfl _ _ 43 rfl .i64 3 i0 8 Tryz.underlying43 hi hz0 hz1 hz2 (by decide) w.heap.size _ L hacc rfl _ (t%65536) ?_ rfl hll hbe.size ?_)
    ·omega
    ·intro v' w' hacc2 hbel2
     clear hacc
     go_wp2
     go_roundw
     case rel=>exact HF.out hlt _ _ _ _ hacc2 hbel2 rfl (by omega)
     case measure=>simp[intOf];omega
   ·obtain⟨b,off,ha,_,hc⟩:=(r2.below hbe).get (by rw[aA,<-HD2.out];omega)
    have hc:=hc k (by rw[aA,<-HD2.out];exact q2)
    subst ha
    have z2:=dS (xs:=dg 65536 N) (i:=k) (by rw[aA,<-HD1.out];omega)
    have et:(cc:Int)+(lg (dg 65536 M) k:Int)=(t:Int):=by have:=HT.out;omega
    clear r1 r2 z2
    go_wp2_with (at_builtin;refine gc wr rfl _ _ 43 rfl .i64 3 i0 8 Tryz.underlying43 hi hz0 hz1 hz2 (by decide) w.heap.size _ L hacc rfl _ (t%65536) ?_ rfl hll hbe.size ?_)
    ·omega
    ·intro v' w' hacc2 hbel2
     clear hacc
     go_wp2
     go_roundw
     case rel=>exact HF.out hlt _ _ _ _ hacc2 hbel2 rfl (by omega)
     case measure=>simp[intOf];omega
  ·obtain rfl:k=mx:=by omega
   have hs:=HM.out
   rw[bL (by rw[aA,<-HD1.out];omega),bL (by rw[aA,<-HD2.out];omega),bT (by omega),bT (by omega)] at hs
   clear r1 r2
   by_cases hc0:cc=0
   ·have HE:=Lib.hid (BA hok HLN.out HMX.out (by rw[hc0] at hs;omega))
    clear hs
    subst hc0
    go_wp2
    go_ret
    exact⟨_,rfl,by rw[HE.out] at hacc;exact hacc.sq (by rw[<-HE.out,HLN.out];omega),hbe⟩
   ·obtain rfl:cc=1:=by omega
    have HE:=Lib.hid (CU hok HLN.out hs)
    clear hs hc0
    go_wp2_with (at_builtin;refine gc wr rfl _ _ 43 rfl .i64 3 i0 8 Tryz.underlying43 hi hz0 hz1 hz2 (by decide) w.heap.size _ L hacc rfl _ 1 rfl rfl hll hbe.size ?_)
    intro v' w' hacc2 hbel2
    clear hacc
    go_wp2
    go_ret
    rw[HE.out] at hacc2
    exact⟨_,rfl,hacc2.sq (by rw[<-HE.out];simp;rw[HLN.out];omega),hbe.trans hbel2⟩
def FP (w:World) (d up m N:Nat) (o c i:Value) (wr:World):Prop:=
 ∃(k cc:Nat) (L:List Nat),k<=d/\i= .int .i64 k/\c= .int .i64 cc/\cc<65536/\L.length=up+k/\okb 65536 L/\Acc wr .i64 3 w.heap.size o L/\Below w.heap.size w wr/\
  vl 65536 L+cc*65536^(up+k)=vl 65536 ((dg 65536 N).take k)*m*65536^up
def D5 (w:World) (up:Nat) (o i:Value) (wr:World):Prop:=
 ∃k:Nat,k<=up/\i= .int .i64 k/\Acc wr .i64 3 w.heap.size o (List.replicate k 0)/\Below w.heap.size w wr
theorem EP (b k:Nat):vl b (List.replicate k 0)=0:=by
 induction k with
 |zero=>rfl
 |succ k ih=>rw[List.replicate_succ];simp only [vl];rw[ih];simp
theorem A0 {L V x m c e up:Nat} (h:L+c*65536^(up+e)=V*m*65536^up):
 L+(c+x*m)%65536*65536^(up+e)+(c+x*m)/65536*65536^(up+(e+1))=(V+x*65536^e)*m*65536^up:=by
 have h2:=ib 65536 (65536^(up+e)) (c+x*m)
 rw[<-Nat.pow_succ,Nat.add_mul] at h2
 have h3:x*m*65536^(up+e)=x*65536^e*m*65536^up:=by
  rw[Nat.pow_add,Nat.mul_comm (65536^up),<-Nat.mul_assoc,Nat.mul_assoc x,Nat.mul_comm m,<-Nat.mul_assoc]
 rw[Nat.add_mul,Nat.add_mul,<-h3,show up+(e+1)=up+e+1 from by omega]
 simp only [Nat.succ_eq_add_one] at h2
 omega
set_option maxRecDepth 100000 in
theorem mW (v1:Value) (N m up:Nat) (w:World) (h1:Dg w .i64 65536 v1 N) (hm:m<65536) (hup:up<=1000000) (hd:dl 65536 N<=1000000):
 CP 154 #[v1,.int .i64 m,.int .i64 up] w (iU w (N*m*65536^up)):=by
 obtain⟨ad1,cap1,rfl,r1,c1,m1,l1,n1⟩:=h1
 rw[aA] at l1 c1 ⊢
 obtain⟨i0,hi,hz0,hz1,hz2⟩:=info_parts Tryz.info3
 obtain⟨d,hdd⟩:∃d:Nat,d=dl 65536 N:=⟨_,rfl⟩
 rw[<-hdd] at c1 l1 hd ⊢
 have HD:=Lib.hid hdd;clear hdd
 go_enter Tryz.func154,Tryz.ntmps154
 go_wp2
 go_loopw [7,8] (fun o i wr=>D5 w up o i wr) (fun _ i _=>up-(intOf i).toNat)
 case atStart=>exact⟨0,Nat.zero_le _,rfl,Acc.empty w .i64 3 w.heap.size (Nat.le_refl _),(Below.refl _ _).alloc (Nat.le_refl _) _⟩
 case round=>
  obtain⟨k,hk,rfl,hacc,hbe⟩:=hrel
  by_cases hlt:k<up
  ·go_wp2_with (at_builtin;refine gc wr rfl _ _ 43 rfl .i64 3 i0 8 Tryz.underlying43 hi hz0 hz1 hz2 (by decide) w.heap.size _ (List.replicate k 0) hacc rfl _ 0 rfl rfl ?_ hbe.size ?_)
   ·simp;omega
   ·intro v' w' hacc2 hbel2
    clear hacc
    go_wp2
    go_roundw
    case rel=>exact⟨k+1,by omega,by go_num,by rw[show List.replicate (k+1) 0=List.replicate k 0++[0] from List.replicate_succ'];exact hacc2,hbe.trans hbel2⟩
    case measure=>simp[intOf];omega
  ·obtain rfl:k=up:=by omega
   go_wp2
   go_loopw [7,9,23] (fun o c i wr=>FP w d k m N o c i wr) (fun _ _ i _=>d-(intOf i).toNat)
   case atStart=>exact⟨0,0,_,Nat.zero_le _,rfl,rfl,by omega,by simp,gb (by omega) _,hacc,hbe,by rw[EP];simp[vl]⟩
   case round=>
    obtain⟨u,cc,L,hu,rfl,rfl,hcc,hlen,hok,hacc',hbe',hmath⟩:=hrel
    have HM:=Lib.hid hmath;have HLN:=Lib.hid hlen
    have hll:L.length<=2199023255552:=by omega
    clear hmath hlen hacc
    by_cases hlu:u<d
    ·obtain⟨b,off,ha,_,hc⟩:=(r1.below hbe').get (by rw[aA,<-HD.out];omega)
     have hc:=hc u (by rw[aA,<-HD.out];exact hlu)
     have lx:lg (dg 65536 N) u<65536:=cD (bU (b:=65536) (by omega) N) (by omega) u
     subst ha
     obtain⟨p,hp⟩:∃p,p=lg (dg 65536 N) u*m:=⟨_,rfl⟩
     have hpb:p<=4294836225:=by rw[hp];exact Nat.mul_le_mul (show _<=65535 by omega) (show m<=65535 by omega)
     have ep:(lg (dg 65536 N) u:Int)*(m:Int)=(p:Int):=by rw[hp];push_cast;rfl
     have hst:=A0 (x:=lg (dg 65536 N) u) HM.out
     rw[<-hp] at hst
     have HST:=Lib.hid hst
     clear hst hp r1
     go_wp2_with (at_builtin;refine gc _ rfl _ _ 43 rfl .i64 3 i0 8 Tryz.underlying43 hi hz0 hz1 hz2 (by decide) w.heap.size _ L hacc' rfl _ ((cc+p)%65536) ?_ rfl hll hbe'.size ?_)
     ·omega
     ·intro v' w' hacc2 hbel2
      clear hacc'
      go_wp2
      go_roundw
      case rel=>
       refine⟨u+1,(cc+p)/65536,L++[(cc+p)%65536],by omega,by go_num,by go_num,by omega,by simp;rw[HLN.out];omega,gT hok (km (Nat.mod_lt _ (by omega))),hacc2,hbe'.trans hbel2,?_⟩
       rw[ja,HLN.out,bm];exact HST.out
      case measure=>simp[intOf];omega
    ·obtain rfl:u=d:=by omega
     have hs:=HM.out
     rw[bL (by rw[aA,<-HD.out];omega),bT (by omega)] at hs
     clear r1
     by_cases hc0:0<cc
     ·have HV:=Lib.hid (show vl 65536 (L++[cc])=N*m*65536^k from by rw[ja,HLN.out];exact hs)
      clear hs
      have hokc:=gT hok (km hcc)
      go_wp2_with (at_builtin;refine gc _ rfl _ _ 43 rfl .i64 3 i0 8 Tryz.underlying43 hi hz0 hz1 hz2 (by decide) w.heap.size _ L hacc' rfl _ cc rfl rfl hll hbe'.size ?_)
      intro v' w' hacc2 hbel2
      have hl4:(L++[cc]).length <=1099511627776:=by rw[List.length_append,HLN.out];simp;omega
      have hsq:=hacc2.sq hl4
      have hbb:=hbe'.trans hbel2
      clear hacc' hacc2
      go_wp2_with fail
      obtain⟨ad3,cap3,hv3,hrd,hc3,hm3,hl3,hn3⟩:=hsq
      rw[hv3]
      refine(iB 65536 (by omega) _ _ _ (L++[cc]) _ rfl hrd hokc (by omega) hc3 hn3).mono ?_
      rintro e w1 ⟨rfl,hw⟩
      have hw:=hw.symm;subst hw
      rw[HV.out]
      have hend:=lj hokc HV.out hrd hc3 hm3 hl4 hn3 hbb
      clear hv3
      go_wp2
      go_ret
      exact hend
     ·obtain rfl:cc=0:=by omega
      have HV:=Lib.hid (show vl 65536 L=N*m*65536^k from by omega)
      have hl4:L.length<=1099511627776:=by rw[HLN.out];omega
      have hsq:=hacc'.sq hl4
      clear hs hacc'
      go_wp2_with fail
      obtain⟨ad3,cap3,hv3,hrd,hc3,hm3,hl3,hn3⟩:=hsq
      rw[hv3]
      refine(iB 65536 (by omega) _ _ _ L _ rfl hrd hok (by omega) hc3 hn3).mono ?_
      rintro e w1 ⟨rfl,hw⟩
      have hw:=hw.symm;subst hw
      rw[HV.out]
      have hend:=lj hok HV.out hrd hc3 hm3 hl4 hn3 hbe'
      clear hv3
      go_wp2
      go_ret
      exact hend
end
end
def Hq (w:World) (d N M:Nat) (o i:Value) (wr:World):Prop:=
 ∃k:Nat,k<=d/\i= .int .i64 k/\Dg wr .i64 65536 o (N*vl 65536 ((dg 65536 M).take k))/\Below w.heap.size w wr
theorem uf {N M a b:Nat} (h1:dl 65536 N<=a) (h2:dl 65536 M<=b):dl 65536 (N*M)<=a+b:=by
 by_cases h0:M=0
 ·subst h0;rw[Nat.mul_zero,fb];omega
 apply fh (by omega)
 rw[Nat.pow_add]
 have e1:N<65536^a:=Nat.lt_of_lt_of_le (ik (by omega) N) (Nat.pow_le_pow_right (by omega) h1)
 have e2:M<65536^b:=Nat.lt_of_lt_of_le (ik (by omega) M) (Nat.pow_le_pow_right (by omega) h2)
 exact Nat.lt_of_lt_of_le (Nat.mul_lt_mul_of_pos_right e1 (by omega)) (Nat.mul_le_mul_left _ (by omega))
theorem wu (v1 v2:Value) (N M:Nat) (w:World) (h1:Dg w .i64 65536 v1 N) (h2:Dg w .i64 65536 v2 M) (hb1:dl 65536 N<=100000) (hb2:dl 65536 M<=100000):
 CP 110 #[v1,v2] w (iU w (N*M)):=by
 obtain⟨ad2,cap2,rfl,r2,c2,m2,l2,n2⟩:=h2
 rw[aA]
 obtain⟨d,hd⟩:∃d:Nat,d=dl 65536 M:=⟨_,rfl⟩
 rw[<-hd] at hb2 ⊢
 have HD:=Lib.hid hd;clear hd
 go_enter Tryz.func110,Tryz.ntmps110
 go_wp2
 go_loopw [5,11] (fun o i wr=>Hq w d N M o i wr) (fun _ i _=>d-(intOf i).toNat)
 case atStart=>exact⟨0,Nat.zero_le _,rfl,Dg.zero _ _ _ _ (by unfold maxLen;omega) (fun h=>by cases h),(Below.refl _ _).alloc (Nat.le_refl _) _⟩
 case round=>
  obtain⟨k,hk,rfl,ho,hbe⟩:=hrel
  by_cases hlt:k<d
  ·obtain⟨b,off,ha,_,hc⟩:=(r2.below hbe).get (by rw[aA,<-HD.out];omega)
   have hc:=hc k (by rw[aA,<-HD.out];exact hlt)
   have lx:lg (dg 65536 M) k<65536:=cD (bU (b:=65536) (by omega) M) (by omega) k
   have HT:=Lib.hid (bm 65536 (dg 65536 M) k)
   have b1:dl 65536 (vl 65536 ((dg 65536 M).take k))<=100000:=Nat.le_trans (bV (by omega) (i9 (bU (by omega) M) k)) (by simp;rw[aA,<-HD.out];omega)
   have b2:dl 65536 (lg (dg 65536 M) k*65536^k)<=100001:=by
    refine Nat.le_trans (fh (b:=65536) (by omega) (k:=k+1) ?_) (by omega)
    rw[Nat.pow_succ,Nat.mul_comm (65536^k)]
    exact Nat.mul_lt_mul_of_pos_right lx (Nat.pow_pos (by omega))
   have B1:=Lib.hid (uf hb1 b1)
   have B2:=Lib.hid (uf hb1 b2)
   have h1':=h1.below hbe
   subst ha
   clear b1 b2 r2
   go_wp2_with fail
   refine(mW v1 N (lg (dg 65536 M) k) k _ h1' lx (by omega) (by omega)).mono ?_
   rintro e w1 ⟨v3,rfl,d3,bb⟩
   have ho:=ho.below bb
   have hbe2:=aC hbe bb
   clear bb h1'
   go_wp2_with fail
   rw[Nat.mul_assoc] at d3
   refine(rj _ v3 _ _ _ ho d3 ⟨Nat.le_trans B1.out (by omega),Nat.le_trans B2.out (by omega)⟩).mono ?_
   rintro e w2 ⟨v4,rfl,d4,bb⟩
   have hbe3:=aC hbe2 bb
   rw[<-Nat.mul_add,<-HT.out] at d4
   clear bb ho d3 hbe2
   go_wp2
   go_roundw
   case rel=>exact⟨k+1,by omega,by go_num,d4,hbe3⟩
   case measure=>simp[intOf];omega
  ·obtain rfl:k=d:=by omega
   rw[bL (by rw[aA,<-HD.out];omega),bT (by omega)] at ho
   have hV:=Lib.hid (bT (b:=65536) (by omega) (N*M))
   clear r2
   go_wp2_with fail
   obtain⟨ad3,cap3,hv3,hrd,hc3,hm3,hl3,hn3⟩:=ho
   rw[hv3]
   refine(iB 65536 (by omega) _ _ _ (dg 65536 (N*M)) _ rfl hrd (bU (by omega) _) (by omega) hc3 hn3).mono ?_
   rintro e w1 ⟨rfl,hw⟩
   have hw:=hw.symm;subst hw
   rw[hV.out]
   clear hv3
   go_wp2
   go_ret
   exact⟨_,rfl,⟨_,_,rfl,hrd,hc3,hm3,hl3,hn3⟩,hbe⟩
def IL (w:World) (d N M:Nat) (i:Value) (wr:World):Prop:=
 ∃(k n:Nat),k<=d/\i= .int .i64 ((k:Int)-1)/\(∀j,k<=j->lg (dg 65536 N) j=lg (dg 65536 M) j)/\wr=w.drewN n
theorem wj (v1 v2:Value) (N M:Nat) (w:World) (h1:Dg w .i64 65536 v1 N) (h2:Dg w .i64 65536 v2 M):
 CP 157 #[v1,v2] w (oZ w (.int .i64 (c3 N M))):=by
 obtain⟨ad1,cap1,rfl,r1,c1,m1,l1,n1⟩:=h1
 obtain⟨ad2,cap2,rfl,r2,c2,m2,l2,n2⟩:=h2
 rw[aA] at l1 l2 c1 c2 ⊢
 rw[aA]
 by_cases hlt:dl 65536 N<dl 65536 M
 ·have HC:=Lib.hid (jZ (ng (b:=65536) (by omega) hlt))
  clear r1 r2
  go_enter Tryz.func157,Tryz.ntmps157
  go_wp2
  go_ret
  exact⟨cS HC.out.symm,0,rfl⟩
 ·by_cases hgt:dl 65536 M<dl 65536 N
  ·have HC:=Lib.hid (lA (ng (b:=65536) (by omega) hgt))
   clear r1 r2
   go_enter Tryz.func157,Tryz.ntmps157
   go_wp2
   go_ret
   exact⟨cS HC.out.symm,0,rfl⟩
  ·obtain⟨d,hd⟩:∃d:Nat,d=dl 65536 N:=⟨_,rfl⟩
   have hd2:d=dl 65536 M:=by omega
   rw[<-hd] at l1 c1 ⊢
   rw[<-hd2] at c2 ⊢
   have HD:=Lib.hid hd;have HD2:=Lib.hid hd2
   clear hd hd2 hlt hgt l2
   go_enter Tryz.func157,Tryz.ntmps157
   go_wp2
   go_loopw [5] (fun i wr=>IL w d N M i wr) (fun i _=>(intOf i+1).toNat)
   case atStart=>exact⟨d,0,Nat.le_refl _,rfl,fun j hj=>by rw[dS (by rw[aA,<-HD.out];exact hj),dS (by rw[aA,<-HD2.out];exact hj)],rfl⟩
   case round=>
    obtain⟨k,n,hk,rfl,ha,hw⟩:=hrel
    by_cases hp:0<k
    ·obtain⟨j,rfl⟩:∃j,k=j+1:=⟨k-1,by omega⟩
     have HA:=Lib.hid ha
     rw[show((j+1:Nat):Int)-1=(j:Int) from by omega]
     obtain⟨b,off,hx,_,hc⟩:=r1.get (by rw[aA,<-HD.out];omega)
     obtain⟨b',off',hy,_,hc'⟩:=r2.get (by rw[aA,<-HD2.out];omega)
     have hcx:wr.cell? ⟨b,off+j,none⟩=some (.int .i64 (lg (dg 65536 N) j:Nat)):=by rw[hw];exact hc j (by rw[aA,<-HD.out];omega)
     have hcy:wr.cell? ⟨b',off'+j,none⟩=some (.int .i64 (lg (dg 65536 M) j:Nat)):=by rw[hw];exact hc' j (by rw[aA,<-HD2.out];omega)
     have hjd:(j:Int)<(d:Int):=by omega
     have HW:=Lib.hid hw
     subst hx;subst hy
     clear hc hc' r1 r2 hw ha
     by_cases q1:lg (dg 65536 N) j<lg (dg 65536 M) j
     ·have HC:=Lib.hid (jZ (uO (b:=65536) (by omega) (fun i hi=>HA.out i (by omega)) q1))
      go_upto_region 8 with fail
      go_quiet (fail)
      go_wp2
      go_ret
      exact⟨cS HC.out.symm,n+nq,by rw[HW.out,World.drewN_drewN]⟩
     ·by_cases q2:lg (dg 65536 M) j<lg (dg 65536 N) j
      ·have HC:=Lib.hid (lA (uO (b:=65536) (by omega) (fun i hi=>(HA.out i (by omega)).symm) q2))
       go_upto_region 8 with fail
       go_quiet (fail)
       go_upto_region 10 with fail
       obtain⟨wq,hq⟩:∃wq,wq=wr.drewN nq:=⟨_,rfl⟩
       have hcx':wq.cell? ⟨b,off+j,none⟩=some (.int .i64 (lg (dg 65536 N) j:Nat)):=by rw[hq];exact hcx
       have hcy':wq.cell? ⟨b',off'+j,none⟩=some (.int .i64 (lg (dg 65536 M) j:Nat)):=by rw[hq];exact hcy
       rw[<-hq]
       have HQ:=Lib.hid (show ∃z,wq=w.drewN z from⟨n+nq,by rw[hq,HW.out,World.drewN_drewN]⟩)
       clear hq hcx hcy
       go_quiet (fail)
       go_wp2
       go_ret
       obtain⟨z,hz⟩:=HQ.out
       exact⟨cS HC.out.symm,z+nq,by rw[hz,World.drewN_drewN]⟩
      ·have he:lg (dg 65536 N) j=lg (dg 65536 M) j:=by omega
       have HE:=Lib.hid he
       clear he
       go_upto_region 8 with fail
       go_quiet (fail)
       go_upto_region 10 with fail
       obtain⟨wq,hq⟩:∃wq,wq=wr.drewN nq:=⟨_,rfl⟩
       have hcx':wq.cell? ⟨b,off+j,none⟩=some (.int .i64 (lg (dg 65536 N) j:Nat)):=by rw[hq];exact hcx
       have hcy':wq.cell? ⟨b',off'+j,none⟩=some (.int .i64 (lg (dg 65536 M) j:Nat)):=by rw[hq];exact hcy
       rw[<-hq]
       have HQ:=Lib.hid (show ∃z,wq=w.drewN z from⟨n+nq,by rw[hq,HW.out,World.drewN_drewN]⟩)
       clear hq hcx hcy
       go_quiet (fail)
       go_wp2
       go_roundw
       case rel=>
        obtain⟨z,hz⟩:=HQ.out
        exact⟨j,z+nq,by omega,by go_num,fun i hi=>by
         by_cases e:i=j
         ·subst e;exact HE.out
         ·exact HA.out i (by omega),by rw[hz,World.drewN_drewN]⟩
       case measure=>simp[intOf]
    ·obtain rfl:k=0:=by omega
     have HC:=Lib.hid (uE (BU (b:=65536) (by omega) (fun j=>ha j (Nat.zero_le j))))
     have HW:=Lib.hid hw
     clear r1 r2 hw ha
     go_wp2
     go_ret
     exact⟨cS HC.out.symm,n,HW.out⟩
end Go.Proofs.YtddiipaomejcfaaGreatDoor
