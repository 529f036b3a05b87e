import Derived.Test.YtgdpkknapcgcbaaGreatDoorKA15
namespace Go.Proofs.YtgdpkknapcgcbaaGreatDoor
open Go.RowKit
set_option maxRecDepth 100000
set_option linter.unusedVariables false
set_option maxHeartbeats 8000000
theorem k17:KO 17:=ko Tryz.func17
theorem Ju:KO 156:=ko Tryz.func156
theorem My:KO 214:=ko Tryz.func214
theorem k37:KO 37:=ko Tryz.func37
theorem LU:KO 268:=ko Tryz.func268
theorem JS:KO 228:=ko Tryz.func228
theorem Ce:KO 260:=ko Tryz.func260
theorem k76:KO 76:=ko Tryz.func76
theorem k31:KO 31:=ko Tryz.func31
theorem k62:KO 62:=ko Tryz.func62
theorem mP:KO 175:=ko Tryz.func175
theorem cQ:KO 104:=ko Tryz.func104
theorem k86:KO 86:=ko Tryz.func86
theorem kV:KO 223:=ko Tryz.func223
theorem k35:KO 35:=ko Tryz.func35
theorem Mc:KO 174:=ko Tryz.func174
theorem Ch:KO 105:=ko Tryz.func105
theorem yU:KO 173:=ko Tryz.func173
theorem Kc:KO 257:=ko Tryz.func257
theorem LX:KO 283:=ko Tryz.func283
theorem zw:KO 211:=ko Tryz.func211
theorem DT:KO 180:=ko Tryz.func180
theorem CO:KO 281:=ko Tryz.func281
theorem Dl:KO 279:=ko Tryz.func279
theorem k21:KO 21:=ko Tryz.func21
theorem k16:KO 16:=ko Tryz.func16
theorem k53:KO 53:=ko Tryz.func53
theorem k19:KO 19:=ko Tryz.func19
theorem Kt:KO 139:=ko Tryz.func139
theorem sm:KO 137:=ko Tryz.func137
theorem k69:KO 69:=ko Tryz.func69
theorem k70:KO 70:=ko Tryz.func70
theorem L1:KO 218:=ko Tryz.func218
theorem yH:KO 242:=ko Tryz.func242
theorem j6:KO 201:=ko Tryz.func201
theorem MC:KO 219:=ko Tryz.func219
theorem rA:KO 245:=ko Tryz.func245
theorem C7:KO 182:=ko Tryz.func182
theorem cK:KO 140:=ko Tryz.func140
theorem bj:KO 143:=ko Tryz.func143
theorem vj:KO 220:=ko Tryz.func220
theorem mQ:KO 252:=ko Tryz.func252
theorem fP:KO 166:=ko Tryz.func166
theorem zB:KO 142:=ko Tryz.func142
theorem Jo:KO 164:=ko Tryz.func164
theorem MD:KO 286:=ko Tryz.func286
theorem sr:KO 206:=ko Tryz.func206
theorem De:KO 141:=ko Tryz.func141
theorem DD:KO 287:=ko Tryz.func287
theorem Dq:KO 274:=ko Tryz.func274
theorem DF:KO 248:=ko Tryz.func248
theorem pl:KO 243:=ko Tryz.func243
theorem y4:KO 273:=ko Tryz.func273
theorem Kr:KO 244:=ko Tryz.func244
theorem Kd:KO 276:=ko Tryz.func276
theorem Mj:KO 251:=ko Tryz.func251
theorem DJ:KO 241:=ko Tryz.func241
theorem L0:KO 272:=ko Tryz.func272
theorem Mz:KO 250:=ko Tryz.func250
theorem zb:KO 240:=ko Tryz.func240
theorem y9:KO 246:=ko Tryz.func246
theorem Jt:KO 249:=ko Tryz.func249
theorem Mu:KO 205:=ko Tryz.func205
theorem uN:KO 207:=ko Tryz.func207
theorem Jx:KO 204:=ko Tryz.func204
theorem k72:KO 72:=ko Tryz.func72
theorem Mx:KO 202:=ko Tryz.func202
theorem k73:KO 73:=ko Tryz.func73
theorem L2:KO 203:=ko Tryz.func203
theorem k71:KO 71:=ko Tryz.func71
theorem IL:KO 199:=ko Tryz.func199
theorem Mt:KO 275:=ko Tryz.func275
theorem Ma:KO 200:=ko Tryz.func200
theorem LT:KO 247:=ko Tryz.func247
theorem JJ:KO 144:=ko Tryz.func144
theorem Ml:KO 256:=ko Tryz.func256
theorem IV:KO 212:=ko Tryz.func212
theorem LS:KO 277:=ko Tryz.func277
theorem MJ:KO 255:=ko Tryz.func255
theorem D4:KO 213:=ko Tryz.func213
theorem L7:KO 258:=ko Tryz.func258
theorem Df:KO 103:=ko Tryz.func103
theorem IR:KO 152:=ko Tryz.func152
theorem Mi:KO 210:=ko Tryz.func210
theorem Mv:KO 151:=ko Tryz.func151
theorem k34:KO 34:=ko Tryz.func34
theorem k85:KO 85:=ko Tryz.func85
theorem L3:KO 155:=ko Tryz.func155
theorem yW:KO 153:=ko Tryz.func153
theorem k84:KO 84:=ko Tryz.func84
theorem k90:KO 90:=ko Tryz.func90
theorem k87:KO 87:=ko Tryz.func87
theorem k36:KO 36:=ko Tryz.func36
theorem MN:KO 232:=ko Tryz.func232
theorem k40:KO 40:=ko Tryz.func40
theorem MO:KO 119:=ko Tryz.func119
theorem MI:KO 121:=ko Tryz.func121
theorem I3:KO 118:=ko Tryz.func118
theorem MP:KO 265:=ko Tryz.func265
theorem k55:KO 55:=ko Tryz.func55
theorem k57:KO 57:=ko Tryz.func57
theorem MF:KO 227:=ko Tryz.func227
theorem Mf:KO 226:=ko Tryz.func226
theorem Jh:KO 181:=ko Tryz.func181
theorem Mh:KO 231:=ko Tryz.func231
theorem JZ:KO 267:=ko Tryz.func267
theorem MB:KO 233:=ko Tryz.func233
theorem JI:KO 229:=ko Tryz.func229
theorem Md:KO 230:=ko Tryz.func230
theorem k78:KO 78:=ko Tryz.func78
theorem yI:KO 261:=ko Tryz.func261
theorem Jy:KO 269:=ko Tryz.func269
theorem q7:KO 259:=ko Tryz.func259
theorem MG:KO 266:=ko Tryz.func266
theorem Jv:KO 278:=ko Tryz.func278
theorem B9:KO 280:=ko Tryz.func280
theorem IZ:KO 282:=ko Tryz.func282
theorem k88:KO 88:=ko Tryz.func88
section
section
section
variable {P:Program} {f:FuncId} {args:Array Value} {w:World}
abbrev kDg (N:Nat):Pk:= .of (fun w v=>Dg w .u32 B32 v N) (fun _ _ _ h hb=>h.below hb)
abbrev kDh (N:Nat):Pk:= .of (fun w v=>Dg w .i64 65536 v N) (fun _ _ _ h hb=>h.below hb)
abbrev kRz (z:Int):Pk:= .of (fun w v=>Rz w v z) (fun _ _ _ h hb=>h.below hb)
abbrev kWc (z:Int):Pk:= .of (fun w v=>Wc w v z) (fun _ _ _ h hb=>h.below hb)
theorem br {N:Nat} (h:Calls P f args w (ik w N)):Calls P f args w (Ret (kDg N) w):=h
theorem nO {N:Nat} (h:Calls P f args w (gT w N)):Calls P f args w (Ret (kDh N) w):=h
theorem q9 {z:Int} (h:Calls P f args w (iB w z)):Calls P f args w (Ret (kRz z) w):=h
theorem eX {z:Int} (h:Calls P f args w (eZ w z)):Calls P f args w (Ret (kWc z) w):=h
end
section
variable {P:Program} {ops:Array Oper} {Q:Exit->Act->World->Prop} {nt:Nat} {L:List (Nat×Value)} {W:World} {ds:List Nat} {ks:List Pk} {al:List Nat} {i:Nat} {dst:Option Tmp} {ty:TypeId} {pos:String} {af:Array Edge}
theorem rfd {T:TypeId} {x:Operand} {f s g o p:Nat} (j:Nat) (fa:∀w:World,(Instr.fieldAt T (.pointer (some ⟨g,o,none⟩)) f).run P w= .ok (.pointer (some ⟨g,p,none⟩)) w) (h:(x,L[j]?,al.contains i,ks[i]?)=(.tmp s,some (s,.pointer (some ⟨g,o,none⟩)),false,some (.ex (.pointer (some ⟨g,p,none⟩))))):
 eO P ops Q nt L W ds (ks.map Pk.H) al i ⟨dst,.fieldAddr T x f,ty,pos,af,none⟩:=by
 simp only [Prod.mk.injEq] at h
 obtain⟨hx,hj,ha,hi⟩:=h
 exact rd ha hi fun a' w' hF hb=>by
  subst hx
  exact av (hF.at j hj) (fa w')
theorem rld {T:TypeId} {x:Operand} {g o:Nat} {v:Value} (h:(nk af ds x && !al.contains i,ks[i]?,uA L ds ks x)=(true,some (.ex v),.ex (.pointer (some ⟨g,o,none⟩)))) (hl:∀w':World,Below W.heap.size W w'->(Instr.loadAt T (.pointer (some ⟨g,o,none⟩))).run P w'= .ok v w'):
 eO P ops Q nt L W ds (ks.map Pk.H) al i ⟨dst,.load T x,ty,pos,af,none⟩:=by
 intro a' w' hF hb hd
 simp only [Prod.mk.injEq] at h
 obtain⟨h1,h2,h3⟩:=h
 rw[Bool.and_eq_true,Bool.not_eq_true'] at h1
 have hx:=uZ hF hd x h1.1
 rw[h3] at hx
 exact cN (bf rfl) (bz.vals (ar hx (hl w' hb)) ⟨by rw[lG,h2];rfl,Below.refl _ _,fun y=>by rw[h1.2] at y;cases y⟩)
end
end
end
theorem k33:KO 33:=ko Tryz.func33
theorem k25:KO 25:=ko Tryz.func25
theorem Kv:KO 253:=ko Tryz.func253
theorem B8:KO 254:=ko Tryz.func254
theorem L6:KO 128:=ko Tryz.func128
theorem k83:KO 83:=ko Tryz.func83
theorem ME:KO 147:=ko Tryz.func147
theorem k79:KO 79:=ko Tryz.func79
theorem L8:KO 154:=ko Tryz.func154
theorem LV:KO 157:=ko Tryz.func157
theorem vB:KO 150:=ko Tryz.func150
theorem k18:KO 18:=ko Tryz.func18
theorem Cf:KO 123:=ko Tryz.func123
theorem k58:KO 58:=ko Tryz.func58
theorem MA:KO 122:=ko Tryz.func122
theorem k56:KO 56:=ko Tryz.func56
theorem k15:KO 15:=ko Tryz.func15
theorem Ms:KO 193:=ko Tryz.func193
theorem Mp:KO 194:=ko Tryz.func194
theorem Me:KO 238:=ko Tryz.func238
theorem JA:KO 195:=ko Tryz.func195
theorem k67:KO 67:=ko Tryz.func67
theorem Ec:KO 198:=ko Tryz.func198
theorem uh:KO 138:=ko Tryz.func138
theorem rR:KO 136:=ko Tryz.func136
theorem k60:KO 60:=ko Tryz.func60
theorem MH:KO 145:=ko Tryz.func145
theorem k24:KO 24:=ko Tryz.func24
theorem k26:KO 26:=ko Tryz.func26
theorem Iw:KO 208:=ko Tryz.func208
theorem k64:KO 64:=ko Tryz.func64
theorem zC:KO 148:=ko Tryz.func148
theorem k66:KO 66:=ko Tryz.func66
theorem k54:KO 54:=ko Tryz.func54
theorem k81:KO 81:=ko Tryz.func81
theorem k80:KO 80:=ko Tryz.func80
theorem k5:KO 146:=ko Tryz.func146
theorem k93:KO 93:=ko Tryz.func93
theorem k82:KO 82:=ko Tryz.func82
theorem k28:KO 28:=ko Tryz.func28
theorem k30:KO 30:=ko Tryz.func30
theorem k27:KO 27:=ko Tryz.func27
theorem k77:KO 77:=ko Tryz.func77
theorem Ix:KO 127:=ko Tryz.func127
theorem L9:KO 209:=ko Tryz.func209
theorem k4:KO 158:=ko Tryz.func158
theorem rzc {w:World} {v:Value} {z z':Int} (h:Rz w v z) (e:z=z'):Rz w v z':=by subst e;exact h
theorem Au {x y:Int} {b c:Bool} (hb:b=decide (x<0)) (hc:c=decide (y<0)) (e:b=c):sg b (x.natAbs+y.natAbs)=x+y:=by
 subst hb hc
 by_cases h:x<0 <;> by_cases k:y<0 <;> simp[h,k] at e ⊢ <;> unfold sg <;> simp <;> omega
theorem yu {x y:Int} {b c:Bool} (hb:b=decide (x<0)) (hc:c=decide (y<0)) (e:¬b=c) (hle:y.natAbs<=x.natAbs):sg b (x.natAbs-y.natAbs)=x+y:=by
 subst hb hc
 by_cases h:x<0 <;> by_cases k:y<0 <;> simp[h,k] at e ⊢ <;> unfold sg <;> simp <;> omega
theorem J5 {m n:Nat} (h:0<=c3 m n):n<=m:=by unfold c3 at h;split at h <;> omega
theorem Gg {m n:Nat} (h:¬0<=c3 m n):m<=n:=by unfold c3 at h;split at h <;> (try split at h) <;> omega
theorem dw (v1 v2:Value) (z1 z2:Int) (ka kb:Nat) (w:World) (h1:Rz w v1 z1) (h2:Rz w v2 z2) (l1:Lim z1.natAbs ka) (l2:Lim z2.natAbs kb) (ha:ka<=50000) (hb:kb<=50000):
 CP 70 #[v1,v2] w (iB w (z1*z2)):=by
 obtain⟨b1,ad1,n1,c1,rfl⟩:=h1.form
 have ha1:=h1.abs
 have hb1:=h1.neg
 obtain⟨b2,ad2,n2,c2,rfl⟩:=h2.form
 have ha2:=h2.abs
 have hb2:=h2.neg
 refine gs2 (nt:=16) Tryz.func70 rfl rfl rfl fun a st hF=>wq<|bx st hF 0 rfl rfl fun g2 w1 a st hF=>bx st hF 2 rfl rfl fun g3 w2 a st hF=>S.alloc st hF aI rfl rfl fun g4 w3 a st hF=>ns ?_
 refine E.rg 11 az hF [5,6,7,8,9,10,11,12,13,14,15] [_,_,_,_,.ex (.bool (b1 !=b2)),_,_,_,_,_,_] (by decide+kernel) rfl rfl rfl ⟨rfd 2 (fun _=>dF (p:=0) rfl) rfl,rld rfl fun _ hb=>(bm (v:= .bool b1) ((st.b 2 rfl rfl).below hb) rfl),rfd 1 (fun _=>dF (p:=0) rfl) rfl,rld rfl fun _ hb=>(bm (v:= .bool b2) ((st.b 1 rfl rfl).below hb) rfl),(by intro a' w' hF' hb hd;have e6:=tE hd 0 rfl;have e8:=tE hd 1 rfl;exact dv0 (au e6 e8 en (gW (d:=(b1 !=b2)) rfl)) rfl rfl rfl),rfd 2 (fun _=>bG (p:=1) rfl) rfl,rld rfl fun _ hb=>(bL (v:= .slice ad1 n1 c1) ((st.b 2 rfl rfl).below hb) rfl),rfd 1 (fun _=>bG (p:=1) rfl) rfl,rld rfl fun _ hb=>(bL (v:= .slice ad2 n2 c2) ((st.b 1 rfl rfl).below hb) rfl),ck st Kt rfl fun _ s=>nO (ue _ _ _ _ _ (ha1.below s.bel) (ha2.below s.bel) (Lim.dh l1 _ (by omega)) (Lim.dh l2 _ (by omega))),ck st k67 rfl fun _ s _ x14=>cg (dP _ _ _ _ x14) (gQ _ (Lim.mul l1 l2)),trivial⟩ ?_
 intro a w4 hF bb hall
 replace st:=st.to bb
 obtain⟨vv5,hF,st⟩:=rS hall hF st 10 rfl rfl Zl.cl
 obtain⟨b7,ad7,n7,c7,rfl⟩:=Rz.form (st.f 0 rfl).1
 clear hall bb
 refine so st hF 0 1 0 aI rfl rfl rfl rfl fun w8 a st hF=>?_
 have hf9:=Rz.abs (st.f 0 rfl).1
 replace st:=st.add hf9 (Dg.cl _)
 clear hf9
 refine nr<|rs Tryz.results70 st hF 1 0 aI rfl rfl rfl ?_
 exact⟨_,rfl,rzc ((st.f 1 rfl).1) (by rw[show(b1 !=b2)=!(b1 == b2) from rfl,uk,hb1,hb2,jh,jh]),st.bel⟩
theorem gv (v1 v2:Value) (z1 z2:Int) (ka kb:Nat) (w:World) (h1:Rz w v1 z1) (h2:Rz w v2 z2) (l1:Lim z1.natAbs ka) (l2:Lim z2.natAbs kb) (ha:ka<=500000) (hb:kb<=500000):
 CP 137 #[v1,v2] w (iB w (z1+z2)):=by
 obtain⟨b1,ad1,n1,c1,rfl⟩:=h1.form
 have ha1:=h1.abs
 have hb1:=h1.neg
 obtain⟨b2,ad2,n2,c2,rfl⟩:=h2.form
 have ha2:=h2.abs
 have hb2:=h2.neg
 refine gs2 (nt:=40) Tryz.func137 rfl rfl rfl fun a st hF=>wq<|bx st hF 0 rfl rfl fun g2 w1 a st hF=>bx st hF 2 rfl rfl fun g3 w2 a st hF=>S.alloc st hF aI rfl rfl fun g4 w3 a st hF=>ns<|wq<|oV hF (av hF.q (dF (p:=0) rfl)) rfl fun a hF=>oV hF (ar hF.o (bm (v:= .bool b1) (st.b 2 rfl rfl) rfl)) rfl fun a hF=>oV hF (av (hF.at 3 rfl) (dF (p:=0) rfl)) rfl fun a hF=>oV hF (ar hF.o (bm (v:= .bool b2) (st.b 1 rfl rfl) rfl)) rfl fun a hF=>oV hF (au hF.q hF.o en (zP (d:=(b1 == b2)) rfl)) rfl fun a hF=>?_
 refine E.nil ?_
 by_cases hc4:(b1 == b2)=true
 ·refine wp_cond_true (Eq.trans hF.o (congrArg Value.bool hc4)) ?_
  refine wp_seq ?_
  refine E.rg 8 az hF [10,11,12,13,14,15,16,17] [_,_,_,_,_,_,_,_] (by decide+kernel) rfl rfl rfl ⟨rfd 7 (fun _=>dF (p:=0) rfl) rfl,rld rfl fun _ hb=>(bm (v:= .bool b1) ((st.b 2 rfl rfl).below hb) rfl),rfd 7 (fun _=>bG (p:=1) rfl) rfl,rld rfl fun _ hb=>(bL (v:= .slice ad1 n1 c1) ((st.b 2 rfl rfl).below hb) rfl),rfd 6 (fun _=>bG (p:=1) rfl) rfl,rld rfl fun _ hb=>(bL (v:= .slice ad2 n2 c2) ((st.b 1 rfl rfl).below hb) rfl),ck st Ms rfl fun _ s=>nO (pN _ _ _ _ _ (ha1.below s.bel) (ha2.below s.bel) ⟨Lim.dh l1 _ (by omega),Lim.dh l2 _ (by omega)⟩),ck st k67 rfl fun _ s _ x16=>q9 (dP _ _ _ _ x16),trivial⟩ ?_
  intro a w5 hF bb hall
  replace st:=st.to bb
  obtain⟨vv6,hF,st⟩:=rS hall hF st 7 rfl rfl Rz.cl
  obtain⟨b8,ad8,n8,c8,rfl⟩:=Rz.form (st.f 0 rfl)
  clear hall bb
  refine so st hF 0 6 0 aI rfl rfl rfl rfl fun w9 a st hF=>?_
  have hf10:=Rz.abs (st.f 0 rfl)
  replace st:=st.add hf10 (Dg.cl _)
  clear hf10
  refine nr<|rs Tryz.results137 st hF 6 0 aI rfl rfl rfl ?_
  exact⟨_,rfl,rzc (st.f 1 rfl) (Au hb1 hb2 (eq_of_beq hc4)),st.bel⟩
 ·refine wp_cond_false (Eq.trans hF.o (congrArg Value.bool (eq_false_of_ne_true hc4))) ?_
  refine wp_skip<|E.norm<|wp_seq<|wq<|oV hF (av (hF.at 7 rfl) (bG (p:=1) rfl)) rfl fun a hF=>oV hF (ar hF.o (bL (v:= .slice ad1 n1 c1) (st.b 2 rfl rfl) rfl)) rfl fun a hF=>oV hF (av (hF.at 8 rfl) (bG (p:=1) rfl)) rfl fun a hF=>oV hF (ar hF.o (bL (v:= .slice ad2 n2 c2) (st.b 1 rfl rfl) rfl)) rfl fun a hF=>cX st hF (rgc Mp (aB hF.q hF.o)) (oK (ug _ _ _ _ _ (ha1.below st.bel) (ha2.below st.bel))) rfl fun w11 a st hF=>?_
  by_cases hc12:0<=c3 (Int.natAbs (z1)) (Int.natAbs (z2))
  ·refine oT hF 0 (fv (c:=true) (aK hc12)) rfl rfl fun a hF=>E.nil<|wp_cond_true hF.o<|wp_seq ?_
   have hle:=J5 hc12
   refine E.rg 8 az hF [24,25,26,27,28,29,30,31] [_,_,_,_,_,_,_,_] (by decide+kernel) rfl rfl rfl ⟨rfd 13 (fun _=>dF (p:=0) rfl) rfl,rld rfl fun _ hb=>(bm (v:= .bool b1) ((st.b 2 rfl rfl).below hb) rfl),rfd 13 (fun _=>bG (p:=1) rfl) rfl,rld rfl fun _ hb=>(bL (v:= .slice ad1 n1 c1) ((st.b 2 rfl rfl).below hb) rfl),rfd 12 (fun _=>bG (p:=1) rfl) rfl,rld rfl fun _ hb=>(bL (v:= .slice ad2 n2 c2) ((st.b 1 rfl rfl).below hb) rfl),ck st JA rfl fun _ s=>nO (pB _ _ _ _ _ (ha1.below s.bel) (ha2.below s.bel) hle (Lim.dh l1 _ (by omega))),ck st k67 rfl fun _ s _ x30=>q9 (dP _ _ _ _ x30),trivial⟩ ?_
   intro a w13 hF bb hall
   replace st:=st.to bb
   obtain⟨vv14,hF,st⟩:=rS hall hF st 7 rfl rfl Rz.cl
   obtain⟨b16,ad16,n16,c16,rfl⟩:=Rz.form (st.f 0 rfl)
   clear hall bb
   refine so st hF 0 12 0 aI rfl rfl rfl rfl fun w17 a st hF=>?_
   have hf18:=Rz.abs (st.f 0 rfl)
   replace st:=st.add hf18 (Dg.cl _)
   clear hf18
   refine nr<|rs Tryz.results137 st hF 12 0 aI rfl rfl rfl ?_
   exact⟨_,rfl,rzc (st.f 1 rfl) (yu hb1 hb2 (fun k=>hc4 (beq_iff_eq.2 k)) hle),st.bel⟩
  ·refine oT hF 0 (fv (c:=false) (aJ hc12)) rfl rfl fun a hF=>E.nil<|wp_cond_false hF.o<|wp_skip<|E.norm<|wp_seq ?_
   have hle:=Gg hc12
   refine E.rg 8 az hF [32,33,34,35,36,37,38,39] [_,_,_,_,_,_,_,_] (by decide+kernel) rfl rfl rfl ⟨rfd 12 (fun _=>dF (p:=0) rfl) rfl,rld rfl fun _ hb=>(bm (v:= .bool b2) ((st.b 1 rfl rfl).below hb) rfl),rfd 12 (fun _=>bG (p:=1) rfl) rfl,rld rfl fun _ hb=>(bL (v:= .slice ad2 n2 c2) ((st.b 1 rfl rfl).below hb) rfl),rfd 13 (fun _=>bG (p:=1) rfl) rfl,rld rfl fun _ hb=>(bL (v:= .slice ad1 n1 c1) ((st.b 2 rfl rfl).below hb) rfl),ck st JA rfl fun _ s=>nO (pB _ _ _ _ _ (ha2.below s.bel) (ha1.below s.bel) hle (Lim.dh l2 _ (by omega))),ck st k67 rfl fun _ s _ x38=>q9 (dP _ _ _ _ x38),trivial⟩ ?_
   intro a w19 hF bb hall
   replace st:=st.to bb
   obtain⟨vv20,hF,st⟩:=rS hall hF st 7 rfl rfl Rz.cl
   obtain⟨b22,ad22,n22,c22,rfl⟩:=Rz.form (st.f 0 rfl)
   clear hall bb
   refine so st hF 0 12 0 aI rfl rfl rfl rfl fun w23 a st hF=>?_
   have hf24:=Rz.abs (st.f 0 rfl)
   replace st:=st.add hf24 (Dg.cl _)
   clear hf24
   refine nr<|rs Tryz.results137 st hF 12 0 aI rfl rfl rfl ?_
   exact⟨_,rfl,rzc (st.f 1 rfl) ((yu hb2 hb1 (fun k=>hc4 (beq_iff_eq.2 k.symm)) hle).trans (Int.add_comm _ _)),st.bel⟩
theorem sy (v1 v2:Value) (z1 z2:Int) (ka kb:Nat) (w:World) (h1:Rz w v1 z1) (h2:Rz w v2 z2) (l1:Lim z1.natAbs ka) (l2:Lim z2.natAbs kb) (ha:ka<=500000) (hb:kb<=500000):
 CP 69 #[v1,v2] w (ic w (ci z1 z2)):=by
 obtain⟨b1,ad1,n1,c1,rfl⟩:=h1.form
 have ha1:=h1.abs
 have hb1:=h1.neg
 obtain⟨b2,ad2,n2,c2,rfl⟩:=h2.form
 have ha2:=h2.abs
 have hb2:=h2.neg
 refine gs2 (nt:=10) Tryz.func69 rfl rfl rfl fun a st hF=>wq<|bx st hF 0 rfl rfl fun g2 w1 a st hF=>bx st hF 2 rfl rfl fun g3 w2 a st hF=>?_
 refine oC hF rfl fun a hF=>ns ?_
 refine E.rg 5 az hF [5,6,7,8,9] [_,_,_,_,_] (by decide+kernel) rfl rfl rfl ⟨rb st aI 2 1 rfl,rb st aI 1 0 rfl,ck st uh rfl fun _ s=>cg (iV _ _ _ (h2.below s.bel)) (iK l2),ck st sm rfl fun _ s _ x7=>cg (gv _ _ _ _ ka kb _ (h1.below s.bel) x7.1 l1 x7.2 (by omega) (by omega)) (ff l1 x7.2 ((max ka kb)+1) (by omega) (by omega)),ck st rR rfl fun _ s _ x8=>aY (hJ _ _ _ x8.1),trivial⟩ ?_
 intro a w3 hF bb hall
 replace st:=st.to bb
 replace hF:=rE hall hF 4 rfl rfl
 clear hall bb
 refine oE hF 0 rfl rfl fun a hF=>nr ?_
 have bel:=st.bel
 refine rt Tryz.results69 hF 0 rfl ?_
 exact⟨by rw[IM],bel⟩
end Go.Proofs.YtgdpkknapcgcbaaGreatDoor
