import Derived.Test.YtdbiegfmgabicaaGreatDoorKA12
namespace Go.Proofs.YtdbiegfmgabicaaGreatDoor
open Go.RowKit
set_option maxRecDepth 100000
set_option linter.unusedVariables false
set_option maxHeartbeats 8000000
theorem k11:aw Tryz.prog 11:=⟨_,Tryz.func11,by decide+kernel,by kernel_rfl⟩
theorem K7:aw Tryz.prog 164:=⟨_,Tryz.func164,by decide+kernel,by kernel_rfl⟩
theorem ON:aw Tryz.prog 209:=⟨_,Tryz.func209,by decide+kernel,by kernel_rfl⟩
theorem k23:aw Tryz.prog 23:=⟨_,Tryz.func23,by decide+kernel,by kernel_rfl⟩
theorem Oe:aw Tryz.prog 197:=⟨_,Tryz.func197,by decide+kernel,by kernel_rfl⟩
theorem k26:aw Tryz.prog 26:=⟨_,Tryz.func26,by decide+kernel,by kernel_rfl⟩
theorem Fv:aw Tryz.prog 228:=⟨_,Tryz.func228,by decide+kernel,by kernel_rfl⟩
theorem k50:aw Tryz.prog 50:=⟨_,Tryz.func50,by decide+kernel,by kernel_rfl⟩
theorem k29:aw Tryz.prog 29:=⟨_,Tryz.func29,by decide+kernel,by kernel_rfl⟩
theorem k99:aw Tryz.prog 99:=⟨_,Tryz.func99,by decide+kernel,by kernel_rfl⟩
theorem nl:aw Tryz.prog 107:=⟨_,Tryz.func107,by decide+kernel,by kernel_rfl⟩
theorem k82:aw Tryz.prog 82:=⟨_,Tryz.func82,by decide+kernel,by kernel_rfl⟩
theorem k51:aw Tryz.prog 51:=⟨_,Tryz.func51,by decide+kernel,by kernel_rfl⟩
theorem k28:aw Tryz.prog 28:=⟨_,Tryz.func28,by decide+kernel,by kernel_rfl⟩
theorem k27:aw Tryz.prog 27:=⟨_,Tryz.func27,by decide+kernel,by kernel_rfl⟩
theorem J2:aw Tryz.prog 111:=⟨_,Tryz.func111,by decide+kernel,by kernel_rfl⟩
theorem k86:aw Tryz.prog 86:=⟨_,Tryz.func86,by decide+kernel,by kernel_rfl⟩
theorem k81:aw Tryz.prog 81:=⟨_,Tryz.func81,by decide+kernel,by kernel_rfl⟩
theorem Ks:aw Tryz.prog 225:=⟨_,Tryz.func225,by decide+kernel,by kernel_rfl⟩
theorem N9:aw Tryz.prog 227:=⟨_,Tryz.func227,by decide+kernel,by kernel_rfl⟩
theorem zO:aw Tryz.prog 178:=⟨_,Tryz.func178,by decide+kernel,by kernel_rfl⟩
theorem k80:aw Tryz.prog 80:=⟨_,Tryz.func80,by decide+kernel,by kernel_rfl⟩
theorem N8:aw Tryz.prog 109:=⟨_,Tryz.func109,by decide+kernel,by kernel_rfl⟩
theorem Dy:aw Tryz.prog 232:=⟨_,Tryz.func232,by decide+kernel,by kernel_rfl⟩
theorem F2:aw Tryz.prog 231:=⟨_,Tryz.func231,by decide+kernel,by kernel_rfl⟩
theorem k10:aw Tryz.prog 10:=⟨_,Tryz.func10,by decide+kernel,by kernel_rfl⟩
theorem k25:aw Tryz.prog 25:=⟨_,Tryz.func25,by decide+kernel,by kernel_rfl⟩
theorem k13:aw Tryz.prog 13:=⟨_,Tryz.func13,by decide+kernel,by kernel_rfl⟩
theorem OS:aw Tryz.prog 132:=⟨_,Tryz.func132,by decide+kernel,by kernel_rfl⟩
theorem sR:aw Tryz.prog 176:=⟨_,Tryz.func176,by decide+kernel,by kernel_rfl⟩
theorem AB:aw Tryz.prog 131:=⟨_,Tryz.func131,by decide+kernel,by kernel_rfl⟩
theorem Ob:aw Tryz.prog 130:=⟨_,Tryz.func130,by decide+kernel,by kernel_rfl⟩
theorem zG:aw Tryz.prog 187:=⟨_,Tryz.func187,by decide+kernel,by kernel_rfl⟩
theorem lV:aw Tryz.prog 126:=⟨_,Tryz.func126,by decide+kernel,by kernel_rfl⟩
theorem Mf:aw Tryz.prog 170:=⟨_,Tryz.func170,by decide+kernel,by kernel_rfl⟩
theorem sF:aw Tryz.prog 124:=⟨_,Tryz.func124,by decide+kernel,by kernel_rfl⟩
theorem Ox:aw Tryz.prog 115:=⟨_,Tryz.func115,by decide+kernel,by kernel_rfl⟩
theorem k75:aw Tryz.prog 75:=⟨_,Tryz.func75,by decide+kernel,by kernel_rfl⟩
theorem k71:aw Tryz.prog 71:=⟨_,Tryz.func71,by decide+kernel,by kernel_rfl⟩
theorem Ao:aw Tryz.prog 134:=⟨_,Tryz.func134,by decide+kernel,by kernel_rfl⟩
theorem sJ:aw Tryz.prog 133:=⟨_,Tryz.func133,by decide+kernel,by kernel_rfl⟩
theorem k77:aw Tryz.prog 77:=⟨_,Tryz.func77,by decide+kernel,by kernel_rfl⟩
theorem Fh:aw Tryz.prog 122:=⟨_,Tryz.func122,by decide+kernel,by kernel_rfl⟩
theorem k74:aw Tryz.prog 74:=⟨_,Tryz.func74,by decide+kernel,by kernel_rfl⟩
theorem Ok:aw Tryz.prog 245:=⟨_,Tryz.func245,by decide+kernel,by kernel_rfl⟩
theorem k76:aw Tryz.prog 76:=⟨_,Tryz.func76,by decide+kernel,by kernel_rfl⟩
theorem Lo:aw Tryz.prog 121:=⟨_,Tryz.func121,by decide+kernel,by kernel_rfl⟩
theorem Fg:aw Tryz.prog 240:=⟨_,Tryz.func240,by decide+kernel,by kernel_rfl⟩
theorem Fj:aw Tryz.prog 220:=⟨_,Tryz.func220,by decide+kernel,by kernel_rfl⟩
theorem Fw:aw Tryz.prog 188:=⟨_,Tryz.func188,by decide+kernel,by kernel_rfl⟩
theorem qO:aw Tryz.prog 185:=⟨_,Tryz.func185,by decide+kernel,by kernel_rfl⟩
theorem An:aw Tryz.prog 219:=⟨_,Tryz.func219,by decide+kernel,by kernel_rfl⟩
theorem Kd:aw Tryz.prog 213:=⟨_,Tryz.func213,by decide+kernel,by kernel_rfl⟩
theorem Kh:aw Tryz.prog 222:=⟨_,Tryz.func222,by decide+kernel,by kernel_rfl⟩
theorem NS:aw Tryz.prog 137:=⟨_,Tryz.func137,by decide+kernel,by kernel_rfl⟩
theorem FQ:aw Tryz.prog 138:=⟨_,Tryz.func138,by decide+kernel,by kernel_rfl⟩
theorem OB:aw Tryz.prog 221:=⟨_,Tryz.func221,by decide+kernel,by kernel_rfl⟩
theorem NZ:aw Tryz.prog 136:=⟨_,Tryz.func136,by decide+kernel,by kernel_rfl⟩
theorem Al:aw Tryz.prog 186:=⟨_,Tryz.func186,by decide+kernel,by kernel_rfl⟩
theorem vT:aw Tryz.prog 125:=⟨_,Tryz.func125,by decide+kernel,by kernel_rfl⟩
theorem LC:aw Tryz.prog 135:=⟨_,Tryz.func135,by decide+kernel,by kernel_rfl⟩
theorem k78:aw Tryz.prog 78:=⟨_,Tryz.func78,by decide+kernel,by kernel_rfl⟩
theorem k40:aw Tryz.prog 40:=⟨_,Tryz.func40,by decide+kernel,by kernel_rfl⟩
theorem k41:aw Tryz.prog 41:=⟨_,Tryz.func41,by decide+kernel,by kernel_rfl⟩
theorem k79:aw Tryz.prog 79:=⟨_,Tryz.func79,by decide+kernel,by kernel_rfl⟩
theorem k69:aw Tryz.prog 69:=⟨_,Tryz.func69,by decide+kernel,by kernel_rfl⟩
theorem OI:aw Tryz.prog 174:=⟨_,Tryz.func174,by decide+kernel,by kernel_rfl⟩
theorem OD:aw Tryz.prog 175:=⟨_,Tryz.func175,by decide+kernel,by kernel_rfl⟩
theorem k68:aw Tryz.prog 68:=⟨_,Tryz.func68,by decide+kernel,by kernel_rfl⟩
theorem JP:aw Tryz.prog 172:=⟨_,Tryz.func172,by decide+kernel,by kernel_rfl⟩
theorem N7:aw Tryz.prog 237:=⟨_,Tryz.func237,by decide+kernel,by kernel_rfl⟩
theorem Ou:aw Tryz.prog 173:=⟨_,Tryz.func173,by decide+kernel,by kernel_rfl⟩
theorem k36:aw Tryz.prog 36:=⟨_,Tryz.func36,by decide+kernel,by kernel_rfl⟩
theorem On:aw Tryz.prog 214:=⟨_,Tryz.func214,by decide+kernel,by kernel_rfl⟩
theorem OH:aw Tryz.prog 123:=⟨_,Tryz.func123,by decide+kernel,by kernel_rfl⟩
theorem DP:aw Tryz.prog 120:=⟨_,Tryz.func120,by decide+kernel,by kernel_rfl⟩
theorem uM:aw Tryz.prog 119:=⟨_,Tryz.func119,by decide+kernel,by kernel_rfl⟩
theorem k70:aw Tryz.prog 70:=⟨_,Tryz.func70,by decide+kernel,by kernel_rfl⟩
theorem NI:aw Tryz.prog 218:=⟨_,Tryz.func218,by decide+kernel,by kernel_rfl⟩
theorem Ky:aw Tryz.prog 192:=⟨_,Tryz.func192,by decide+kernel,by kernel_rfl⟩
theorem NH:aw Tryz.prog 241:=⟨_,Tryz.func241,by decide+kernel,by kernel_rfl⟩
theorem OP:aw Tryz.prog 217:=⟨_,Tryz.func217,by decide+kernel,by kernel_rfl⟩
theorem D5:aw Tryz.prog 191:=⟨_,Tryz.func191,by decide+kernel,by kernel_rfl⟩
theorem NT:aw Tryz.prog 226:=⟨_,Tryz.func226,by decide+kernel,by kernel_rfl⟩
theorem wK:aw Tryz.prog 108:=⟨_,Tryz.func108,by decide+kernel,by kernel_rfl⟩
theorem OM:aw Tryz.prog 129:=⟨_,Tryz.func129,by decide+kernel,by kernel_rfl⟩
theorem Oh:aw Tryz.prog 179:=⟨_,Tryz.func179,by decide+kernel,by kernel_rfl⟩
theorem k73:aw Tryz.prog 73:=⟨_,Tryz.func73,by decide+kernel,by kernel_rfl⟩
theorem k62:aw Tryz.prog 62:=⟨_,Tryz.func62,by decide+kernel,by kernel_rfl⟩
theorem Ar:aw Tryz.prog 110:=⟨_,Tryz.func110,by decide+kernel,by kernel_rfl⟩
theorem OE:aw Tryz.prog 163:=⟨_,Tryz.func163,by decide+kernel,by kernel_rfl⟩
theorem J0:aw Tryz.prog 128:=⟨_,Tryz.func128,by decide+kernel,by kernel_rfl⟩
theorem k72:aw Tryz.prog 72:=⟨_,Tryz.func72,by decide+kernel,by kernel_rfl⟩
theorem OQ:aw Tryz.prog 142:=⟨_,Tryz.func142,by decide+kernel,by kernel_rfl⟩
theorem k93:aw Tryz.prog 93:=⟨_,Tryz.func93,by decide+kernel,by kernel_rfl⟩
theorem k48:aw Tryz.prog 48:=⟨_,Tryz.func48,by decide+kernel,by kernel_rfl⟩
theorem Oc:aw Tryz.prog 146:=⟨_,Tryz.func146,by decide+kernel,by kernel_rfl⟩
theorem k30:aw Tryz.prog 30:=⟨_,Tryz.func30,by decide+kernel,by kernel_rfl⟩
theorem k43:aw Tryz.prog 43:=⟨_,Tryz.func43,by decide+kernel,by kernel_rfl⟩
theorem OR:aw Tryz.prog 162:=⟨_,Tryz.func162,by decide+kernel,by kernel_rfl⟩
theorem k42:aw Tryz.prog 42:=⟨_,Tryz.func42,by decide+kernel,by kernel_rfl⟩
theorem Oz:aw Tryz.prog 193:=⟨_,Tryz.func193,by decide+kernel,by kernel_rfl⟩
theorem k19:aw Tryz.prog 19:=⟨_,Tryz.func19,by decide+kernel,by kernel_rfl⟩
theorem LP:aw Tryz.prog 106:=⟨_,Tryz.func106,by decide+kernel,by kernel_rfl⟩
theorem OC:aw Tryz.prog 141:=⟨_,Tryz.func141,by decide+kernel,by kernel_rfl⟩
theorem N0:aw Tryz.prog 140:=⟨_,Tryz.func140,by decide+kernel,by kernel_rfl⟩
theorem k83:aw Tryz.prog 83:=⟨_,Tryz.func83,by decide+kernel,by kernel_rfl⟩
theorem NJ:aw Tryz.prog 145:=⟨_,Tryz.func145,by decide+kernel,by kernel_rfl⟩
theorem Ml:aw Tryz.prog 195:=⟨_,Tryz.func195,by decide+kernel,by kernel_rfl⟩
theorem NO:aw Tryz.prog 147:=⟨_,Tryz.func147,by decide+kernel,by kernel_rfl⟩
theorem Kf:aw Tryz.prog 143:=⟨_,Tryz.func143,by decide+kernel,by kernel_rfl⟩
theorem OJ:aw Tryz.prog 144:=⟨_,Tryz.func144,by decide+kernel,by kernel_rfl⟩
theorem N5:aw Tryz.prog 234:=⟨_,Tryz.func234,by decide+kernel,by kernel_rfl⟩
theorem k89:aw Tryz.prog 89:=⟨_,Tryz.func89,by decide+kernel,by kernel_rfl⟩
theorem k87:aw Tryz.prog 87:=⟨_,Tryz.func87,by decide+kernel,by kernel_rfl⟩
theorem Kv:aw Tryz.prog 150:=⟨_,Tryz.func150,by decide+kernel,by kernel_rfl⟩
theorem Ov:aw Tryz.prog 200:=⟨_,Tryz.func200,by decide+kernel,by kernel_rfl⟩
theorem KS:aw Tryz.prog 149:=⟨_,Tryz.func149,by decide+kernel,by kernel_rfl⟩
theorem k88:aw Tryz.prog 88:=⟨_,Tryz.func88,by decide+kernel,by kernel_rfl⟩
theorem Ae:aw Tryz.prog 199:=⟨_,Tryz.func199,by decide+kernel,by kernel_rfl⟩
theorem Lq:aw Tryz.prog 198:=⟨_,Tryz.func198,by decide+kernel,by kernel_rfl⟩
theorem sW:aw Tryz.prog 196:=⟨_,Tryz.func196,by decide+kernel,by kernel_rfl⟩
theorem NR:aw Tryz.prog 194:=⟨_,Tryz.func194,by decide+kernel,by kernel_rfl⟩
theorem K2:aw Tryz.prog 229:=⟨_,Tryz.func229,by decide+kernel,by kernel_rfl⟩
theorem DY:aw Tryz.prog 230:=⟨_,Tryz.func230,by decide+kernel,by kernel_rfl⟩
theorem J6:aw Tryz.prog 233:=⟨_,Tryz.func233,by decide+kernel,by kernel_rfl⟩
theorem k61:aw Tryz.prog 61:=⟨_,Tryz.func61,by decide+kernel,by kernel_rfl⟩
theorem k60:aw Tryz.prog 60:=⟨_,Tryz.func60,by decide+kernel,by kernel_rfl⟩
theorem k31:aw Tryz.prog 31:=⟨_,Tryz.func31,by decide+kernel,by kernel_rfl⟩
theorem k57:aw Tryz.prog 57:=⟨_,Tryz.func57,by decide+kernel,by kernel_rfl⟩
theorem k22:aw Tryz.prog 22:=⟨_,Tryz.func22,by decide+kernel,by kernel_rfl⟩
theorem k21:aw Tryz.prog 21:=⟨_,Tryz.func21,by decide+kernel,by kernel_rfl⟩
theorem Ko:aw Tryz.prog 189:=⟨_,Tryz.func189,by decide+kernel,by kernel_rfl⟩
theorem FH:aw Tryz.prog 190:=⟨_,Tryz.func190,by decide+kernel,by kernel_rfl⟩
theorem NY:aw Tryz.prog 154:=⟨_,Tryz.func154,by decide+kernel,by kernel_rfl⟩
theorem k54:aw Tryz.prog 54:=⟨_,Tryz.func54,by decide+kernel,by kernel_rfl⟩
theorem k96:aw Tryz.prog 96:=⟨_,Tryz.func96,by decide+kernel,by kernel_rfl⟩
theorem k55:aw Tryz.prog 55:=⟨_,Tryz.func55,by decide+kernel,by kernel_rfl⟩
theorem OK:aw Tryz.prog 101:=⟨_,Tryz.func101,by decide+kernel,by kernel_rfl⟩
theorem k98:aw Tryz.prog 98:=⟨_,Tryz.func98,by decide+kernel,by kernel_rfl⟩
theorem k52:aw Tryz.prog 52:=⟨_,Tryz.func52,by decide+kernel,by kernel_rfl⟩
theorem k18:aw Tryz.prog 18:=⟨_,Tryz.func18,by decide+kernel,by kernel_rfl⟩
theorem k12:aw Tryz.prog 12:=⟨_,Tryz.func12,by decide+kernel,by kernel_rfl⟩
theorem k16:aw Tryz.prog 16:=⟨_,Tryz.func16,by decide+kernel,by kernel_rfl⟩
theorem k32:aw Tryz.prog 32:=⟨_,Tryz.func32,by decide+kernel,by kernel_rfl⟩
theorem k9:aw Tryz.prog 9:=⟨_,Tryz.func9,by decide+kernel,by kernel_rfl⟩
theorem N4:aw Tryz.prog 180:=⟨_,Tryz.func180,by decide+kernel,by kernel_rfl⟩
theorem OG:aw Tryz.prog 215:=⟨_,Tryz.func215,by decide+kernel,by kernel_rfl⟩
theorem OL:aw Tryz.prog 212:=⟨_,Tryz.func212,by decide+kernel,by kernel_rfl⟩
theorem JU:aw Tryz.prog 216:=⟨_,Tryz.func216,by decide+kernel,by kernel_rfl⟩
theorem vB:aw Tryz.prog 166:=⟨_,Tryz.func166,by decide+kernel,by kernel_rfl⟩
theorem DC:aw Tryz.prog 127:=⟨_,Tryz.func127,by decide+kernel,by kernel_rfl⟩
theorem wt:aw Tryz.prog 184:=⟨_,Tryz.func184,by decide+kernel,by kernel_rfl⟩
theorem tg:aw Tryz.prog 183:=⟨_,Tryz.func183,by decide+kernel,by kernel_rfl⟩
theorem k67:aw Tryz.prog 67:=⟨_,Tryz.func67,by decide+kernel,by kernel_rfl⟩
theorem Oy:aw Tryz.prog 169:=⟨_,Tryz.func169,by decide+kernel,by kernel_rfl⟩
theorem NM:aw Tryz.prog 117:=⟨_,Tryz.func117,by decide+kernel,by kernel_rfl⟩
theorem k35:aw Tryz.prog 35:=⟨_,Tryz.func35,by decide+kernel,by kernel_rfl⟩
theorem k37:aw Tryz.prog 37:=⟨_,Tryz.func37,by decide+kernel,by kernel_rfl⟩
theorem k66:aw Tryz.prog 66:=⟨_,Tryz.func66,by decide+kernel,by kernel_rfl⟩
theorem LF:aw Tryz.prog 118:=⟨_,Tryz.func118,by decide+kernel,by kernel_rfl⟩
theorem k17:aw Tryz.prog 17:=⟨_,Tryz.func17,by decide+kernel,by kernel_rfl⟩
theorem k38:aw Tryz.prog 38:=⟨_,Tryz.func38,by decide+kernel,by kernel_rfl⟩
theorem k24:aw Tryz.prog 24:=⟨_,Tryz.func24,by decide+kernel,by kernel_rfl⟩
theorem k20:aw Tryz.prog 20:=⟨_,Tryz.func20,by decide+kernel,by kernel_rfl⟩
theorem k44:aw Tryz.prog 44:=⟨_,Tryz.func44,by decide+kernel,by kernel_rfl⟩
theorem k85:aw Tryz.prog 85:=⟨_,Tryz.func85,by decide+kernel,by kernel_rfl⟩
theorem K8:aw Tryz.prog 157:=⟨_,Tryz.func157,by decide+kernel,by kernel_rfl⟩
theorem k94:aw Tryz.prog 94:=⟨_,Tryz.func94,by decide+kernel,by kernel_rfl⟩
theorem k97:aw Tryz.prog 97:=⟨_,Tryz.func97,by decide+kernel,by kernel_rfl⟩
theorem k58:aw Tryz.prog 58:=⟨_,Tryz.func58,by decide+kernel,by kernel_rfl⟩
theorem k33:aw Tryz.prog 33:=⟨_,Tryz.func33,by decide+kernel,by kernel_rfl⟩
theorem k39:aw Tryz.prog 39:=⟨_,Tryz.func39,by decide+kernel,by kernel_rfl⟩
theorem k95:aw Tryz.prog 95:=⟨_,Tryz.func95,by decide+kernel,by kernel_rfl⟩
theorem k56:aw Tryz.prog 56:=⟨_,Tryz.func56,by decide+kernel,by kernel_rfl⟩
theorem k53:aw Tryz.prog 53:=⟨_,Tryz.func53,by decide+kernel,by kernel_rfl⟩
theorem k45:aw Tryz.prog 45:=⟨_,Tryz.func45,by decide+kernel,by kernel_rfl⟩
theorem NN:aw Tryz.prog 148:=⟨_,Tryz.func148,by decide+kernel,by kernel_rfl⟩
theorem k84:aw Tryz.prog 84:=⟨_,Tryz.func84,by decide+kernel,by kernel_rfl⟩
theorem k63:aw Tryz.prog 63:=⟨_,Tryz.func63,by decide+kernel,by kernel_rfl⟩
theorem k59:aw Tryz.prog 59:=⟨_,Tryz.func59,by decide+kernel,by kernel_rfl⟩
theorem NL:aw Tryz.prog 114:=⟨_,Tryz.func114,by decide+kernel,by kernel_rfl⟩
theorem Lk:aw Tryz.prog 153:=⟨_,Tryz.func153,by decide+kernel,by kernel_rfl⟩
theorem Oo:aw Tryz.prog 158:=⟨_,Tryz.func158,by decide+kernel,by kernel_rfl⟩
theorem lR:aw Tryz.prog 104:=⟨_,Tryz.func104,by decide+kernel,by kernel_rfl⟩
theorem Om:aw Tryz.prog 112:=⟨_,Tryz.func112,by decide+kernel,by kernel_rfl⟩
section
section
section
variable {P:Program} {f:FuncId} {args:Array Value} {w:World}
abbrev kDg (N:Nat):Pk:= .of (fun w v=>Dg w .u32 B32 v N) (fun _ _ _ h hb=>h.below hb)
abbrev kDh (N:Nat):Pk:= .of (fun w v=>Dg w .i64 65536 v N) (fun _ _ _ h hb=>h.below hb)
abbrev kRz (z:Int):Pk:= .of (fun w v=>Rz w v z) (fun _ _ _ h hb=>h.below hb)
abbrev kWc (z:Int):Pk:= .of (fun w v=>Wc w v z) (fun _ _ _ h hb=>h.below hb)
theorem bU {N:Nat} (h:Calls P f args w (i9 w N)):Calls P f args w (Ret (kDg N) w):=h
theorem rj {N:Nat} (h:Calls P f args w (iX w N)):Calls P f args w (Ret (kDh N) w):=h
theorem sI {z:Int} (h:Calls P f args w (jk w z)):Calls P f args w (Ret (kRz z) w):=h
theorem fV {z:Int} (h:Calls P f args w (eZ w z)):Calls P f args w (Ret (kWc z) w):=h
end
section
variable {P:Program} {ops:Array Oper} {Q:Exit→Act→World→Prop} {nt:Nat} {L:List (Nat×Value)} {W:World} {ds:List Nat} {ks:List Pk} {al:List Nat} {i:Nat} {dst:Option Tmp} {ty:TypeId} {pos:String} {af:Array Edge}
theorem rfd {T:TypeId} {x:Operand} {f s g o p:Nat} (j:Nat) (fa:∀w:World,(Instr.fieldAt T (.pointer (some ⟨g,o,none⟩)) f).run P w= .ok (.pointer (some ⟨g,p,none⟩)) w) (h:(x,L[j]?,al.contains i,ks[i]?)=(.tmp s,some (s,.pointer (some ⟨g,o,none⟩)),false,some (.ex (.pointer (some ⟨g,p,none⟩))))):
 fQ P ops Q nt L W ds (ks.map Pk.H) al i ⟨dst,.fieldAddr T x f,ty,pos,af,none⟩:=by
 simp only [Prod.mk.injEq] at h
 obtain⟨hx,hj,ha,hi⟩:=h
 exact rd ha hi fun a' w' hF hb=>by
  subst hx
  exact av (hF.at j hj) (fa w')
theorem rld {T:TypeId} {x:Operand} {g o:Nat} {v:Value} (h:(nV af ds x && !al.contains i,ks[i]?,wh L ds ks x)=(true,some (.ex v),.ex (.pointer (some ⟨g,o,none⟩)))) (hl:∀w':World,Below W.heap.size W w'→(Instr.loadAt T (.pointer (some ⟨g,o,none⟩))).run P w'= .ok v w'):
 fQ P ops Q nt L W ds (ks.map Pk.H) al i ⟨dst,.load T x,ty,pos,af,none⟩:=by
 intro a' w' hF hb hd
 simp only [Prod.mk.injEq] at h
 obtain⟨h1,h2,h3⟩:=h
 rw[Bool.and_eq_true,Bool.not_eq_true'] at h1
 have hx:=uN hF hd x h1.1
 rw[h3] at hx
 exact cd (aM rfl) (bH.vals (au hx (hl w' hb)) ⟨by rw[my,h2];rfl,Below.refl _ _,fun y=>by rw[h1.2] at y;cases y⟩)
end
end
end
theorem rzc {w:World} {v:Value} {z z':Int} (h:Rz w v z) (e:z=z'):Rz w v z':=by subst e;exact h
theorem Bf {x y:Int} {b c:Bool} (hb:b=decide (x<0)) (hc:c=decide (y<0)) (e:b=c):sg b (x.natAbs+y.natAbs)=x+y:=by
 subst hb hc
 by_cases h:x<0 <;> by_cases k:y<0 <;> simp[h,k] at e ⊢ <;> unfold sg <;> simp <;> omega
theorem zg {x y:Int} {b c:Bool} (hb:b=decide (x<0)) (hc:c=decide (y<0)) (e:¬b=c) (hle:y.natAbs≤x.natAbs):sg b (x.natAbs-y.natAbs)=x+y:=by
 subst hb hc
 by_cases h:x<0 <;> by_cases k:y<0 <;> simp[h,k] at e ⊢ <;> unfold sg <;> simp <;> omega
theorem LQ {m n:Nat} (h:0≤c3 m n):n≤m:=by unfold c3 at h;split at h <;> omega
theorem JB {m n:Nat} (h:¬0≤c3 m n):m≤n:=by unfold c3 at h;split at h <;> (try split at h) <;> omega
theorem eJ (v1 v2:Value) (z1 z2:Int) (ka kb:Nat) (w:World) (h1:Rz w v1 z1) (h2:Rz w v2 z2) (l1:Lim z1.natAbs ka) (l2:Lim z2.natAbs kb) (ha:ka≤50000) (hb:kb≤50000):
 Calls Tryz.prog 131 #[v1,v2] w (jk w (z1*z2)):=by
 obtain⟨b1,ad1,n1,c1,rfl⟩:=h1.form
 have ha1:=h1.abs
 have hb1:=h1.neg
 obtain⟨b2,ad2,n2,c2,rfl⟩:=h2.form
 have ha2:=h2.abs
 have hb2:=h2.neg
 have st:=St.start w
 refine go2 (nt:=16) Tryz.func131 rfl rfl rfl fun a hF=>?_
 refine wq ?_
 refine bx st hF 0 rfl rfl fun g2 w1 a st hF=>?_
 refine bx st hF 2 rfl rfl fun g3 w2 a st hF=>?_
 refine S.alloc st hF aX rfl rfl fun g4 w3 a st hF=>?_
 refine ns ?_
 refine E.rg 11 aF hF [5,6,7,8,9,10,11,12,13,14,15] [_,_,_,_,.ex (.bool (b1 !=b2)),_,_,_,_,_,_] (by decide+kernel) rfl rfl rfl ⟨rfd 2 (fun _=>dS (p:=0) rfl) rfl,rld rfl fun _ hb=>(bR (v:= .bool b1) ((st.b 2 rfl rfl).below hb) rfl),rfd 1 (fun _=>dS (p:=0) rfl) rfl,rld rfl fun _ hb=>(bR (v:= .bool b2) ((st.b 1 rfl rfl).below hb) rfl),(by intro a' w' hF' hb hd;have e6:=tE hd 0 rfl;have e8:=tE hd 1 rfl;exact dv0 (aq e6 e8 ce (ix (d:=(b1 !=b2)) rfl)) rfl rfl rfl),rfd 2 (fun _=>bZ (p:=1) rfl) rfl,rld rfl fun _ hb=>(cn (v:= .slice ad1 n1 c1) ((st.b 2 rfl rfl).below hb) rfl),rfd 1 (fun _=>bZ (p:=1) rfl) rfl,rld rfl fun _ hb=>(cn (v:= .slice ad2 n2 c2) ((st.b 1 rfl rfl).below hb) rfl),ck st OS rfl fun _ s=>rj (wm _ _ _ _ _ (ha1.below s.bel) (ha2.below s.bel) (Lim.dh l1 _ (by omega)) (Lim.dh l2 _ (by omega))),ck st vB rfl fun _ s _ x14=>dt (eS _ _ _ _ x14) (jN _ (Lim.mul l1 l2)),trivial⟩ ?_
 intro a w4 hF bb hall
 replace st:=st.to bb
 obtain⟨vv5,hF,st⟩:=rS hall hF st 10 rfl rfl Zl.cl
 obtain⟨b7,ad7,n7,c7,rfl⟩:=Rz.form (st.f 0 rfl).1
 clear hall bb
 refine so st hF 0 1 0 aX rfl rfl rfl rfl fun w8 a st hF=>?_
 have hf9:=Rz.abs (st.f 0 rfl).1
 replace st:=st.add hf9 (Dg.cl _)
 clear hf9
 refine nr ?_
 refine rs Tryz.results131 st hF 1 0 aX rfl rfl rfl ?_
 have bel:=st.bel
 have hh6:=(st.f 1 rfl).1
 exact⟨_,rfl,rzc hh6 (by rw[show(b1 !=b2)=!(b1 == b2) from rfl,uJ,hb1,hb2,kI,kI]),bel⟩
theorem gZ (v1 v2:Value) (z1 z2:Int) (ka kb:Nat) (w:World) (h1:Rz w v1 z1) (h2:Rz w v2 z2) (l1:Lim z1.natAbs ka) (l2:Lim z2.natAbs kb) (ha:ka≤500000) (hb:kb≤500000):
 Calls Tryz.prog 176 #[v1,v2] w (jk w (z1+z2)):=by
 obtain⟨b1,ad1,n1,c1,rfl⟩:=h1.form
 have ha1:=h1.abs
 have hb1:=h1.neg
 obtain⟨b2,ad2,n2,c2,rfl⟩:=h2.form
 have ha2:=h2.abs
 have hb2:=h2.neg
 have st:=St.start w
 refine go2 (nt:=40) Tryz.func176 rfl rfl rfl fun a hF=>?_
 refine wq ?_
 refine bx st hF 0 rfl rfl fun g2 w1 a st hF=>?_
 refine bx st hF 2 rfl rfl fun g3 w2 a st hF=>?_
 refine S.alloc st hF aX rfl rfl fun g4 w3 a st hF=>?_
 refine ns ?_
 refine wq ?_
 refine oV hF (av hF.q (dS (p:=0) rfl)) rfl fun a hF=>oV hF (au hF.o (bR (v:= .bool b1) (st.b 2 rfl rfl) rfl)) rfl fun a hF=>oV hF (av (hF.at 3 rfl) (dS (p:=0) rfl)) rfl fun a hF=>oV hF (au hF.o (bR (v:= .bool b2) (st.b 1 rfl rfl) rfl)) rfl fun a hF=>oV hF (aq hF.q hF.o ce (dL (d:=(b1 == b2)) rfl)) rfl fun a hF=>?_
 refine E.nil ?_
 by_cases hc4:(b1 == b2)=true
 ·refine wp_cond_true (Eq.trans hF.o (congrArg Value.bool hc4)) ?_
  refine wp_seq ?_
  refine E.rg 8 aF hF [10,11,12,13,14,15,16,17] [_,_,_,_,_,_,_,_] (by decide+kernel) rfl rfl rfl ⟨rfd 7 (fun _=>dS (p:=0) rfl) rfl,rld rfl fun _ hb=>(bR (v:= .bool b1) ((st.b 2 rfl rfl).below hb) rfl),rfd 7 (fun _=>bZ (p:=1) rfl) rfl,rld rfl fun _ hb=>(cn (v:= .slice ad1 n1 c1) ((st.b 2 rfl rfl).below hb) rfl),rfd 6 (fun _=>bZ (p:=1) rfl) rfl,rld rfl fun _ hb=>(cn (v:= .slice ad2 n2 c2) ((st.b 1 rfl rfl).below hb) rfl),ck st N4 rfl fun _ s=>rj (ql _ _ _ _ _ (ha1.below s.bel) (ha2.below s.bel) ⟨Lim.dh l1 _ (by omega),Lim.dh l2 _ (by omega)⟩),ck st vB rfl fun _ s _ x16=>sI (eS _ _ _ _ x16),trivial⟩ ?_
  intro a w5 hF bb hall
  replace st:=st.to bb
  obtain⟨vv6,hF,st⟩:=rS hall hF st 7 rfl rfl Rz.cl
  obtain⟨b8,ad8,n8,c8,rfl⟩:=Rz.form (st.f 0 rfl)
  clear hall bb
  refine so st hF 0 6 0 aX rfl rfl rfl rfl fun w9 a st hF=>?_
  have hf10:=Rz.abs (st.f 0 rfl)
  replace st:=st.add hf10 (Dg.cl _)
  clear hf10
  refine nr ?_
  refine rs Tryz.results176 st hF 6 0 aX rfl rfl rfl ?_
  have bel:=st.bel
  have hh7:=(st.f 1 rfl)
  exact⟨_,rfl,rzc hh7 (Bf hb1 hb2 (eq_of_beq hc4)),bel⟩
 ·refine wp_cond_false (Eq.trans hF.o (congrArg Value.bool (eq_false_of_ne_true hc4))) ?_
  refine wp_skip ?_
  refine E.norm ?_
  refine wp_seq ?_
  refine wq ?_
  refine oV hF (av (hF.at 7 rfl) (bZ (p:=1) rfl)) rfl fun a hF=>oV hF (au hF.o (cn (v:= .slice ad1 n1 c1) (st.b 2 rfl rfl) rfl)) rfl fun a hF=>oV hF (av (hF.at 8 rfl) (bZ (p:=1) rfl)) rfl fun a hF=>oV hF (au hF.o (cn (v:= .slice ad2 n2 c2) (st.b 1 rfl rfl) rfl)) rfl fun a hF=>?_
  refine cX st hF (rgc OG (aI hF.q hF.o)) (xB (vc _ _ _ _ _ (ha1.below st.bel) (ha2.below st.bel))) rfl fun w11 a st hF=>?_
  by_cases hc12:0≤c3 (Int.natAbs (z1)) (Int.natAbs (z2))
  ·refine oT hF 0 (cJ (c:=true) (aL hc12)) rfl rfl fun a hF=>?_
   refine E.nil ?_
   refine wp_cond_true hF.o ?_
   refine wp_seq ?_
   have hle:=LQ hc12
   refine E.rg 8 aF hF [24,25,26,27,28,29,30,31] [_,_,_,_,_,_,_,_] (by decide+kernel) rfl rfl rfl ⟨rfd 13 (fun _=>dS (p:=0) rfl) rfl,rld rfl fun _ hb=>(bR (v:= .bool b1) ((st.b 2 rfl rfl).below hb) rfl),rfd 13 (fun _=>bZ (p:=1) rfl) rfl,rld rfl fun _ hb=>(cn (v:= .slice ad1 n1 c1) ((st.b 2 rfl rfl).below hb) rfl),rfd 12 (fun _=>bZ (p:=1) rfl) rfl,rld rfl fun _ hb=>(cn (v:= .slice ad2 n2 c2) ((st.b 1 rfl rfl).below hb) rfl),ck st JU rfl fun _ s=>rj (q7 _ _ _ _ _ (ha1.below s.bel) (ha2.below s.bel) hle (Lim.dh l1 _ (by omega))),ck st vB rfl fun _ s _ x30=>sI (eS _ _ _ _ x30),trivial⟩ ?_
   intro a w13 hF bb hall
   replace st:=st.to bb
   obtain⟨vv14,hF,st⟩:=rS hall hF st 7 rfl rfl Rz.cl
   obtain⟨b16,ad16,n16,c16,rfl⟩:=Rz.form (st.f 0 rfl)
   clear hall bb
   refine so st hF 0 12 0 aX rfl rfl rfl rfl fun w17 a st hF=>?_
   have hf18:=Rz.abs (st.f 0 rfl)
   replace st:=st.add hf18 (Dg.cl _)
   clear hf18
   refine nr ?_
   refine rs Tryz.results176 st hF 12 0 aX rfl rfl rfl ?_
   have bel:=st.bel
   have hh15:=(st.f 1 rfl)
   exact⟨_,rfl,rzc hh15 (zg hb1 hb2 (fun k=>hc4 (beq_iff_eq.2 k)) hle),bel⟩
  ·refine oT hF 0 (cJ (c:=false) (aV hc12)) rfl rfl fun a hF=>?_
   refine E.nil ?_
   refine wp_cond_false hF.o ?_
   refine wp_skip ?_
   refine E.norm ?_
   refine wp_seq ?_
   have hle:=JB hc12
   refine E.rg 8 aF hF [32,33,34,35,36,37,38,39] [_,_,_,_,_,_,_,_] (by decide+kernel) rfl rfl rfl ⟨rfd 12 (fun _=>dS (p:=0) rfl) rfl,rld rfl fun _ hb=>(bR (v:= .bool b2) ((st.b 1 rfl rfl).below hb) rfl),rfd 12 (fun _=>bZ (p:=1) rfl) rfl,rld rfl fun _ hb=>(cn (v:= .slice ad2 n2 c2) ((st.b 1 rfl rfl).below hb) rfl),rfd 13 (fun _=>bZ (p:=1) rfl) rfl,rld rfl fun _ hb=>(cn (v:= .slice ad1 n1 c1) ((st.b 2 rfl rfl).below hb) rfl),ck st JU rfl fun _ s=>rj (q7 _ _ _ _ _ (ha2.below s.bel) (ha1.below s.bel) hle (Lim.dh l2 _ (by omega))),ck st vB rfl fun _ s _ x38=>sI (eS _ _ _ _ x38),trivial⟩ ?_
   intro a w19 hF bb hall
   replace st:=st.to bb
   obtain⟨vv20,hF,st⟩:=rS hall hF st 7 rfl rfl Rz.cl
   obtain⟨b22,ad22,n22,c22,rfl⟩:=Rz.form (st.f 0 rfl)
   clear hall bb
   refine so st hF 0 12 0 aX rfl rfl rfl rfl fun w23 a st hF=>?_
   have hf24:=Rz.abs (st.f 0 rfl)
   replace st:=st.add hf24 (Dg.cl _)
   clear hf24
   refine nr ?_
   refine rs Tryz.results176 st hF 12 0 aX rfl rfl rfl ?_
   have bel:=st.bel
   have hh21:=(st.f 1 rfl)
   exact⟨_,rfl,rzc hh21 ((zg hb2 hb1 (fun k=>hc4 (beq_iff_eq.2 k.symm)) hle).trans (Int.add_comm _ _)),bel⟩
theorem Cn (v1 v2:Value) (z1 z2:Int) (ka kb:Nat) (w:World) (h1:Rz w v1 z1) (h2:Rz w v2 z2) (l1:Lim z1.natAbs ka) (l2:Lim z2.natAbs kb) (ha:ka≤500000) (hb:kb≤500000):
 Calls Tryz.prog 211 #[v1,v2] w (iL w (ci z1 z2)):=by
 obtain⟨b1,ad1,n1,c1,rfl⟩:=h1.form
 have ha1:=h1.abs
 have hb1:=h1.neg
 obtain⟨b2,ad2,n2,c2,rfl⟩:=h2.form
 have ha2:=h2.abs
 have hb2:=h2.neg
 have st:=St.start w
 refine go2 (nt:=10) Tryz.func211 rfl rfl rfl fun a hF=>?_
 refine wq ?_
 refine bx st hF 0 rfl rfl fun g2 w1 a st hF=>?_
 refine bx st hF 2 rfl rfl fun g3 w2 a st hF=>?_
 refine oC hF rfl fun a hF=>ns ?_
 refine E.rg 5 aF hF [5,6,7,8,9] [_,_,_,_,_] (by decide+kernel) rfl rfl rfl ⟨rb st aX 2 1 rfl,rb st aX 1 0 rfl,ck st wt rfl fun _ s=>dt (ju _ _ _ (h2.below s.bel)) (jA l2),ck st sR rfl fun _ s _ x7=>dt (gZ _ _ _ _ ka kb _ (h1.below s.bel) x7.1 l1 x7.2 (by omega) (by omega)) (gu l1 x7.2 ((max ka kb)+1) (by omega) (by omega)),ck st tg rfl fun _ s _ x8=>a9 (iK _ _ _ x8.1),trivial⟩ ?_
 intro a w3 hF bb hall
 replace st:=st.to bb
 replace hF:=rE hall hF 4 rfl rfl
 clear hall bb
 refine oE hF 0 rfl rfl fun a hF=>nr ?_
 have bel:=st.bel
 refine rt Tryz.results211 hF 0 rfl ?_
 exact⟨by rw[LX],bel⟩
end Go.Proofs.YtdbiegfmgabicaaGreatDoor
