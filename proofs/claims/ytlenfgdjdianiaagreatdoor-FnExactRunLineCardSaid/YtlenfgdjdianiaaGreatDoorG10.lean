/- Facts on which this claim rests, 10. -/
import Derived.Lib.ItoaLen
import Derived.Shelf.Strconv.ErrVarAll
import Derived.Shelf.Strconv.Itoa3
import Derived.Shelf.Strings.BuilderCap
import Derived.Shelf.Strings.Explode
import Derived.Shelf.Strings.OnBuilder
import Derived.Shelf.Strings.Prefix
import Derived.Shelf.Strings.Shaped
import Derived.Shelf.Strings.SplitShaped
import Derived.Test.YtlenfgdjdianiaaGreatDoorG9
set_option linter.all false
set_option maxHeartbeats 6400000
namespace Go.Proofs
open Go.Shelf
open Go.Proofs.YtlenfgdjdianiaaGreatDoor (om sI sO sD zK dC aS nC oh og zB zC zN Jh Jr Jd Jm oS oT nI nZ bR nJ nV)
open Go.Proofs.YtlenfgdjdianiaaGreatDoor.Tq Go.Proofs.Tryz
def Tryz.laysM171_ren:Go.Shelf.Ren:=⟨fun | 171=>133 | 243=>179 | 246=>222 | 283=>256 | 284=>257 | 285=>258 | 286=>259 | 129=>283 | 317=>282 | 318=>284 | 319=>285 | 320=>286 | 337=>298 | 338=>299 | n=>n,fun | 3=>3 | 9=>9 | 2=>2 | 4=>4 | 171=>233 | 0=>0 | 53=>226 | 37=>72 | 5=>5 | 173=>236 | 212=>266 | 51=>258 | 20=>20 | 213=>267 | 46=>225 | 232=>278 | 233=>279 | n=>n,fun | 17=>5 | 18=>6 | 19=>7 | n=>n⟩
theorem Tryz.laysM171:Go.Proofs.LaysM.n171 prog Tryz.laysM171_ren:={
 mixed:=zK
 f129:=func283.trans (congrArg some zK)
 f171:=func133.trans (congrArg some zK)
 f243:=func179.trans (congrArg some zK)
 f246:=func222.trans (congrArg some zK)
 f283:=func256.trans (congrArg some zK)
 f284:=func257.trans (congrArg some zK)
 f285:=func258.trans (congrArg some zK)
 f286:=func259.trans (congrArg some zK)
 f317:=func282.trans (congrArg some zK)
 f318:=func284.trans (congrArg some zK)
 f319:=func285.trans (congrArg some zK)
 f320:=func286.trans (congrArg some zK)
 f337:=func298.trans (congrArg some zK)
 f338:=func299.trans (congrArg some zK)
 t0:=underlying0
 a0:=Tryz.isAgg0
 z0:=Tryz.sizeOf0
 v0:=Tryz.zeroValue0
 t2:=underlying2
 a2:=Tryz.isAgg2
 z2:=Tryz.sizeOf2
 v2:=Tryz.zeroValue2
 t3:=underlying3
 a3:=Tryz.isAgg3
 z3:=Tryz.sizeOf3
 v3:=Tryz.zeroValue3
 t4:=underlying4
 a4:=Tryz.isAgg4
 z4:=Tryz.sizeOf4
 v4:=Tryz.zeroValue4
 t5:=underlying5
 a5:=Tryz.isAgg5
 z5:=Tryz.sizeOf5
 v5:=Tryz.zeroValue5
 t9:=underlying9
 a9:=Tryz.isAgg9
 z9:=Tryz.sizeOf9
 v9:=Tryz.zeroValue9
 t20:=underlying20
 a20:=Tryz.isAgg20
 z20:=Tryz.sizeOf20
 v20:=Tryz.zeroValue20
 t37:=underlying72
 a37:=Tryz.isAgg72
 z37:=Tryz.sizeOf72
 v37:=Tryz.zeroValue72
 t46:=underlying225
 a46:=Tryz.isAgg225
 z46:=Tryz.sizeOf225
 v46:=Tryz.zeroValue225
 t51:=underlying258
 a51:=Tryz.isAgg258
 z51:=Tryz.sizeOf258
 v51:=Tryz.zeroValue258
 t53:=underlying226
 a53:=Tryz.isAgg226
 z53:=Tryz.sizeOf226
 v53:=Tryz.zeroValue226
 t171:=underlying233
 a171:=Tryz.isAgg233
 z171:=Tryz.sizeOf233
 v171:=Tryz.zeroValue233
 t173:=underlying236
 a173:=Tryz.isAgg236
 z173:=Tryz.sizeOf236
 v173:=Tryz.zeroValue236
 t212:=underlying266
 a212:=Tryz.isAgg266
 z212:=Tryz.sizeOf266
 v212:=Tryz.zeroValue266
 t213:=underlying267
 a213:=Tryz.isAgg267
 z213:=Tryz.sizeOf267
 t232:=underlying278
 a232:=Tryz.isAgg278
 z232:=Tryz.sizeOf278
 v232:=Tryz.zeroValue278
 t233:=underlying279
 a233:=Tryz.isAgg279
 z233:=Tryz.sizeOf279
 v233:=Tryz.zeroValue279
 g17:=zK
 g18:=zK
 g19:=zK
 i0:=zK
 i2:=zK
 i3:=zK
 i4:=zK
 i5:=zK
 i9:=zK
 i20:=zK
 i37:=zK
 i46:=zK
 i51:=zK
 i53:=zK
 i171:=zK
 i173:=zK
 i212:=zK
 i232:=zK
 i233:=zK
 m17:=zK
 m18:=zK
 m19:=by kernel_rfl}
open Go.RowKit Go.Sort Go.Lib in
theorem Tryz.strconv_Itoa (n:Int) (h0:-9223372036854775808<=n) (h1:n<=9223372036854775807) (w:World) (htab:Lib.TabIs prog w "internal/strconv.uint64pow10" .u64 Lib.pow10Tab):
 Calls prog 133 #[n] w fun e w'=>e= .returned (.string ⟨(Lib.itoa n).toArray⟩)/\ ∃k os,w'=grow (w.drewN k) os:=Any.strconv_Itoa Tryz.laysM171 n h0 h1 w htab
def Tryz.laysC172_ren:Go.Shelf.Ren:=⟨fun | 172=>132 | 244=>177 | 245=>178 | 247=>217 | 279=>218 | 280=>219 | 281=>220 | 282=>221 | 287=>253 | 316=>254 | 171=>133 | 205=>255 | 321=>280 | 322=>281 | 243=>179 | 246=>222 | 283=>256 | 284=>257 | 285=>258 | 286=>259 | 129=>283 | 317=>282 | 318=>284 | 319=>285 | 320=>286 | 337=>298 | 338=>299 | n=>n,fun | 9=>9 | 3=>3 | 75=>146 | 76=>147 | 4=>4 | 5=>5 | 167=>196 | 37=>72 | 0=>0 | 85=>197 | 2=>2 | 168=>199 | 53=>226 | 175=>227 | 46=>225 | 210=>231 | 127=>253 | 145=>264 | 143=>262 | 21=>21 | 171=>233 | 173=>236 | 212=>266 | 51=>258 | 20=>20 | 213=>267 | 232=>278 | 233=>279 | 80=>221 | n=>n,fun | 15=>1 | 16=>2 | 17=>5 | 18=>6 | 19=>7 | n=>n⟩
theorem Tryz.laysC172:Go.Proofs.LaysC.n172 prog Tryz.laysC172_ren:={
 mixed:=zK
 f129:=func283.trans (congrArg some zK)
 f171:=func133.trans (congrArg some zK)
 f172:=func132.trans (congrArg some zK)
 f205:=func255.trans (congrArg some zK)
 f243:=func179.trans (congrArg some zK)
 f244:=func177.trans (congrArg some zK)
 f245:=func178.trans (congrArg some zK)
 f246:=func222.trans (congrArg some zK)
 f247:=func217.trans (congrArg some zK)
 f279:=func218.trans (congrArg some zK)
 f280:=func219.trans (congrArg some zK)
 f281:=func220.trans (congrArg some zK)
 f282:=func221.trans (congrArg some zK)
 f283:=func256.trans (congrArg some zK)
 f284:=func257.trans (congrArg some zK)
 f285:=func258.trans (congrArg some zK)
 f286:=func259.trans (congrArg some zK)
 f287:=func253.trans (congrArg some zK)
 f316:=func254.trans (congrArg some zK)
 f317:=func282.trans (congrArg some zK)
 f318:=func284.trans (congrArg some zK)
 f319:=func285.trans (congrArg some zK)
 f320:=func286.trans (congrArg some zK)
 f321:=func280.trans (congrArg some zK)
 f322:=func281.trans (congrArg some zK)
 f337:=func298.trans (congrArg some zK)
 f338:=func299.trans (congrArg some zK)
 t0:=underlying0
 a0:=Tryz.isAgg0
 z0:=Tryz.sizeOf0
 v0:=Tryz.zeroValue0
 t2:=underlying2
 a2:=Tryz.isAgg2
 z2:=Tryz.sizeOf2
 v2:=Tryz.zeroValue2
 t3:=underlying3
 a3:=Tryz.isAgg3
 z3:=Tryz.sizeOf3
 v3:=Tryz.zeroValue3
 t4:=underlying4
 a4:=Tryz.isAgg4
 z4:=Tryz.sizeOf4
 v4:=Tryz.zeroValue4
 t5:=underlying5
 a5:=Tryz.isAgg5
 z5:=Tryz.sizeOf5
 v5:=Tryz.zeroValue5
 t9:=underlying9
 a9:=Tryz.isAgg9
 z9:=Tryz.sizeOf9
 v9:=Tryz.zeroValue9
 t20:=underlying20
 a20:=Tryz.isAgg20
 z20:=Tryz.sizeOf20
 v20:=Tryz.zeroValue20
 t21:=underlying21
 a21:=Tryz.isAgg21
 z21:=Tryz.sizeOf21
 v21:=Tryz.zeroValue21
 t37:=underlying72
 a37:=Tryz.isAgg72
 z37:=Tryz.sizeOf72
 v37:=Tryz.zeroValue72
 t46:=underlying225
 a46:=Tryz.isAgg225
 z46:=Tryz.sizeOf225
 v46:=Tryz.zeroValue225
 t51:=underlying258
 a51:=Tryz.isAgg258
 z51:=Tryz.sizeOf258
 v51:=Tryz.zeroValue258
 t53:=underlying226
 a53:=Tryz.isAgg226
 z53:=Tryz.sizeOf226
 v53:=Tryz.zeroValue226
 t75:=underlying146
 a75:=Tryz.isAgg146
 z75:=Tryz.sizeOf146
 v75:=Tryz.zeroValue146
 t76:=underlying147
 a76:=Tryz.isAgg147
 z76:=Tryz.sizeOf147
 v76:=Tryz.zeroValue147
 t85:=underlying197
 a85:=Tryz.isAgg197
 z85:=Tryz.sizeOf197
 v85:=Tryz.zeroValue197
 t127:=underlying253
 a127:=Tryz.isAgg253
 z127:=Tryz.sizeOf253
 v127:=Tryz.zeroValue253
 t143:=underlying262
 a143:=Tryz.isAgg262
 z143:=Tryz.sizeOf262
 v143:=Tryz.zeroValue262
 t145:=underlying264
 a145:=Tryz.isAgg264
 z145:=Tryz.sizeOf264
 v145:=Tryz.zeroValue264
 t167:=underlying196
 a167:=Tryz.isAgg196
 z167:=Tryz.sizeOf196
 v167:=Tryz.zeroValue196
 t168:=underlying199
 a168:=Tryz.isAgg199
 z168:=Tryz.sizeOf199
 v168:=Tryz.zeroValue199
 t171:=underlying233
 a171:=Tryz.isAgg233
 z171:=Tryz.sizeOf233
 v171:=Tryz.zeroValue233
 t173:=underlying236
 a173:=Tryz.isAgg236
 z173:=Tryz.sizeOf236
 v173:=Tryz.zeroValue236
 t175:=underlying227
 a175:=Tryz.isAgg227
 z175:=Tryz.sizeOf227
 v175:=Tryz.zeroValue227
 t210:=underlying231
 a210:=Tryz.isAgg231
 z210:=Tryz.sizeOf231
 v210:=Tryz.zeroValue231
 t212:=underlying266
 a212:=Tryz.isAgg266
 z212:=Tryz.sizeOf266
 v212:=Tryz.zeroValue266
 t213:=underlying267
 a213:=Tryz.isAgg267
 z213:=Tryz.sizeOf267
 t232:=underlying278
 a232:=Tryz.isAgg278
 z232:=Tryz.sizeOf278
 v232:=Tryz.zeroValue278
 t233:=underlying279
 a233:=Tryz.isAgg279
 z233:=Tryz.sizeOf279
 v233:=Tryz.zeroValue279
 g15:=zK
 g16:=zK
 g17:=zK
 g18:=zK
 g19:=zK
 t80:=underlying221
 a80:=Tryz.isAgg221
 z80:=Tryz.sizeOf221
 v80:=Tryz.zeroValue221
 i0:=zK
 i2:=zK
 i3:=zK
 i4:=zK
 i5:=zK
 i9:=zK
 i20:=zK
 i21:=zK
 i37:=zK
 i46:=zK
 i51:=zK
 i53:=zK
 i75:=zK
 i76:=zK
 i80:=zK
 i85:=zK
 i127:=zK
 i143:=zK
 i145:=zK
 i167:=zK
 i168:=zK
 i171:=zK
 i173:=zK
 i175:=zK
 i210:=zK
 i212:=zK
 i232:=zK
 i233:=zK
 m15:=zK
 m16:=zK
 m17:=zK
 m18:=zK
 m19:=zK
 c0:=zK
 c2:=zK
 c3:=zK
 c4:=zK
 c5:=zK
 c9:=zK
 c20:=zK
 c21:=zK
 c37:=zK
 c46:=zK
 c51:=zK
 c53:=zK
 c75:=zK
 c76:=zK
 c80:=zK
 c85:=zK
 c127:=zK
 c143:=zK
 c145:=zK
 c167:=zK
 c168:=zK
 c171:=zK
 c173:=zK
 c175:=zK
 c210:=zK
 c212:=zK
 c213:=zK
 c232:=zK
 c233:=by kernel_rfl}
open Go.RowKit in
theorem Tryz.strconv_Atoi_ok (s:ByteArray) (hmax:s.size<=9223372036854775806) (v:Int) (h:Lib.atoiAll s.data.toList= .ok v) (w:World):
 Calls prog 132 #[.string s] w fun e w'=>e= .returned (.tuple #[v, .nilIface])/\(w'=w\/ ∃t,w'=Lib.bytesWorld w 5 t):=Any.strconv_Atoi_ok Tryz.laysC172 s hmax v h w
open Go.RowKit in
theorem Tryz.strconv_Atoi_syntax (s:ByteArray) (hlim:s.size<=281474976710656) (h:(∀v,Lib.atoiAll s.data.toList≠ .ok v)/\Lib.atoiAll s.data.toList≠ .range) (ev:Value) (w:World) (hv:w.cell? ⟨1,0,none⟩=some ev) (hev:ev= .nilIface\/ ∃te pe,ev= .iface te pe):
 Calls Tryz.prog 132 #[.string s] w fun e w'=> ∃N,e= .returned (.tuple #[.int .i64 (0), .iface 199 (.pointer (some ⟨N,0,none⟩))])/\w.heap.size<=N/\w'.heap[N]? =some (.cells #[.string ⟨#[65,116,111,105]⟩, .string s,ev] 231 (0,0))/\Below w.heap.size w w':=Any.strconv_Atoi_syntax Tryz.laysC172 s hlim (by rcases ha:Lib.atoiAll s.data.toList with v | _ | _;exact absurd ha (h.1 v);rfl;exact absurd ha h.2) ev w hv hev
open Go.RowKit in
theorem Tryz.strconv_Atoi_range (s:ByteArray) (hlim:s.size<=281474976710656) (h:Lib.atoiAll s.data.toList= .range) (ev:Value) (w:World) (hv:w.cell? ⟨2,0,none⟩=some ev) (hev:ev= .nilIface\/ ∃te pe,ev= .iface te pe):
 Calls Tryz.prog 132 #[.string s] w fun e w'=> ∃N,e= .returned (.tuple #[.int .i64 (Lib.atoiSat s.data.toList), .iface 199 (.pointer (some ⟨N,0,none⟩))])/\w.heap.size<=N/\w'.heap[N]? =some (.cells #[.string ⟨#[65,116,111,105]⟩, .string s,ev] 231 (0,0))/\Below w.heap.size w w':=Any.strconv_Atoi_range Tryz.laysC172 s hlim h ev w hv hev
def Tryz.lays147_ren:Go.Shelf.Ren:=⟨fun | 147=>75 | 221=>131 | 268=>174 | 138=>175 | 143=>176 | 195=>213 | 197=>214 | 218=>215 | 219=>216 | 260=>248 | 217=>249 | 225=>250 | 224=>251 | 267=>252 | 266=>278 | 314=>279 | n=>n,fun | 9=>9 | 3=>3 | 31=>50 | 4=>4 | 0=>0 | 105=>193 | 21=>21 | 5=>5 | 46=>225 | 119=>254 | 139=>257 | 138=>256 | 146=>259 | 51=>258 | n=>n,fun | 1=>0 | 3=>3 | 4=>4 | n=>n⟩
theorem Tryz.lays147:Go.Proofs.Lays.n147 prog Tryz.lays147_ren:={
 mixed:=zK
 f138:=func175.trans (congrArg some zK)
 f143:=func176.trans (congrArg some zK)
 f147:=func75.trans (congrArg some zK)
 f195:=func213.trans (congrArg some zK)
 f197:=func214.trans (congrArg some zK)
 f217:=func249.trans (congrArg some zK)
 f218:=func215.trans (congrArg some zK)
 f219:=func216.trans (congrArg some zK)
 f221:=func131.trans (congrArg some zK)
 f224:=func251.trans (congrArg some zK)
 f225:=func250.trans (congrArg some zK)
 f260:=func248.trans (congrArg some zK)
 f266:=func278.trans (congrArg some zK)
 f267:=func252.trans (congrArg some zK)
 f268:=func174.trans (congrArg some zK)
 f314:=func279.trans (congrArg some zK)
 t0:=underlying0
 a0:=Tryz.isAgg0
 z0:=Tryz.sizeOf0
 v0:=Tryz.zeroValue0
 t3:=underlying3
 a3:=Tryz.isAgg3
 z3:=Tryz.sizeOf3
 v3:=Tryz.zeroValue3
 t4:=underlying4
 a4:=Tryz.isAgg4
 z4:=Tryz.sizeOf4
 v4:=Tryz.zeroValue4
 t5:=underlying5
 a5:=Tryz.isAgg5
 z5:=Tryz.sizeOf5
 v5:=Tryz.zeroValue5
 t9:=underlying9
 a9:=Tryz.isAgg9
 z9:=Tryz.sizeOf9
 v9:=Tryz.zeroValue9
 t21:=underlying21
 a21:=Tryz.isAgg21
 z21:=Tryz.sizeOf21
 v21:=Tryz.zeroValue21
 t31:=underlying50
 a31:=Tryz.isAgg50
 z31:=Tryz.sizeOf50
 v31:=Tryz.zeroValue50
 t46:=underlying225
 a46:=Tryz.isAgg225
 z46:=Tryz.sizeOf225
 v46:=Tryz.zeroValue225
 t51:=underlying258
 a51:=Tryz.isAgg258
 z51:=Tryz.sizeOf258
 v51:=Tryz.zeroValue258
 t105:=underlying193
 a105:=Tryz.isAgg193
 z105:=Tryz.sizeOf193
 v105:=Tryz.zeroValue193
 t119:=underlying254
 a119:=Tryz.isAgg254
 z119:=Tryz.sizeOf254
 t138:=underlying256
 a138:=Tryz.isAgg256
 z138:=Tryz.sizeOf256
 v138:=Tryz.zeroValue256
 t139:=underlying257
 a139:=Tryz.isAgg257
 z139:=Tryz.sizeOf257
 v139:=Tryz.zeroValue257
 t146:=underlying259
 a146:=Tryz.isAgg259
 z146:=Tryz.sizeOf259
 v146:=Tryz.zeroValue259
 g1:=zK
 g3:=zK
 g4:=by kernel_rfl}
open Go.RowKit Go.Lib in
theorem Tryz.strings_SplitN (s sep:ByteArray) (n:Nat) (m:Int) (w:World) (hs:s.size<4294967281) (hm:w.cell? ⟨0,0,none⟩=some (.int .i64 m)) (h1:1<=sep.size) (hn:1<=n) (hn63:n<=9223372036854775807):
 Calls Tryz.prog 75 #[.string s, .string sep, .int .i64 n] w fun e w'=>
  e= .returned (.slice (some ⟨w.heap.size,0,none⟩) (Lib.splitB sep 0 (min n (s.size+1) - 1) s).length (min n (s.size+1)))/\w'=w.alloc (.cells (Lib.cellsOf (Lib.splitB sep 0 (min n (s.size+1) - 1) s) (min n (s.size+1))) 9):=Any.strings_SplitN Tryz.lays147 (by kernel_rfl) s sep n m w hs hm h1 hn hn63
def Tryz.lays102_ren:Go.Shelf.Ren:=⟨fun | 102=>167 | 209=>204 | 207=>246 | n=>n,fun | 9=>9 | 4=>4 | 3=>3 | n=>n,fun | n=>n⟩
theorem Tryz.lays102:Go.Proofs.Lays.n102 prog Tryz.lays102_ren:={
 mixed:=zK
 f102:=func167.trans (congrArg some zK)
 f207:=func246.trans (congrArg some zK)
 f209:=func204.trans (congrArg some zK)
 t3:=underlying3
 a3:=Tryz.isAgg3
 z3:=Tryz.sizeOf3
 v3:=Tryz.zeroValue3
 t4:=underlying4
 a4:=Tryz.isAgg4
 z4:=Tryz.sizeOf4
 v4:=Tryz.zeroValue4
 t9:=underlying9
 a9:=Tryz.isAgg9
 z9:=Tryz.sizeOf9
 v9:=Tryz.zeroValue9}
open Go.RowKit Go.Lib in
theorem Tryz.strings_TrimSuffix (s p:ByteArray) (w:World) (hs:s.size<=9223372036854775807):
 Calls prog 167 #[.string s, .string p] w fun e w'=>e= .returned (.string ⟨(Lib.trimSuffix s.data.toList p.data.toList).toArray⟩)/\w'=w:=Any.strings_TrimSuffix Tryz.lays102 s p w hs
def Tryz.lays155_ren:Go.Shelf.Ren:=⟨fun | 155=>169 | 154=>206 | 138=>175 | 165=>242 | 143=>176 | 166=>243 | 197=>214 | 169=>244 | 195=>213 | 218=>215 | 240=>276 | 241=>277 | 219=>216 | 260=>248 | 276=>296 | 277=>297 | 217=>249 | 225=>250 | 224=>251 | 267=>252 | 266=>278 | 314=>279 | n=>n,fun | 9=>9 | 3=>3 | 4=>4 | 72=>219 | 0=>0 | 76=>147 | 105=>193 | 21=>21 | 5=>5 | 70=>217 | 20=>20 | 37=>72 | 75=>146 | 127=>253 | 164=>273 | 46=>225 | 119=>254 | 139=>257 | 138=>256 | 146=>259 | 51=>258 | 80=>221 | n=>n,fun | 1=>0 | 3=>3 | 4=>4 | n=>n⟩
theorem Tryz.lays155:Go.Proofs.Lays.n155 prog Tryz.lays155_ren:={
 mixed:=zK
 f138:=func175.trans (congrArg some zK)
 f143:=func176.trans (congrArg some zK)
 f154:=func206.trans (congrArg some zK)
 f155:=func169.trans (congrArg some zK)
 f165:=func242.trans (congrArg some zK)
 f166:=func243.trans (congrArg some zK)
 f169:=func244.trans (congrArg some zK)
 f195:=func213.trans (congrArg some zK)
 f197:=func214.trans (congrArg some zK)
 f217:=func249.trans (congrArg some zK)
 f218:=func215.trans (congrArg some zK)
 f219:=func216.trans (congrArg some zK)
 f224:=func251.trans (congrArg some zK)
 f225:=func250.trans (congrArg some zK)
 f240:=func276.trans (congrArg some zK)
 f241:=func277.trans (congrArg some zK)
 f260:=func248.trans (congrArg some zK)
 f266:=func278.trans (congrArg some zK)
 f267:=func252.trans (congrArg some zK)
 f276:=func296.trans (congrArg some zK)
 f277:=func297.trans (congrArg some zK)
 f314:=func279.trans (congrArg some zK)
 t0:=underlying0
 a0:=Tryz.isAgg0
 z0:=Tryz.sizeOf0
 v0:=Tryz.zeroValue0
 t3:=underlying3
 a3:=Tryz.isAgg3
 z3:=Tryz.sizeOf3
 v3:=Tryz.zeroValue3
 t4:=underlying4
 a4:=Tryz.isAgg4
 z4:=Tryz.sizeOf4
 v4:=Tryz.zeroValue4
 t5:=underlying5
 a5:=Tryz.isAgg5
 z5:=Tryz.sizeOf5
 v5:=Tryz.zeroValue5
 t9:=underlying9
 a9:=Tryz.isAgg9
 z9:=Tryz.sizeOf9
 v9:=Tryz.zeroValue9
 t20:=underlying20
 a20:=Tryz.isAgg20
 z20:=Tryz.sizeOf20
 v20:=Tryz.zeroValue20
 t21:=underlying21
 a21:=Tryz.isAgg21
 z21:=Tryz.sizeOf21
 v21:=Tryz.zeroValue21
 t37:=underlying72
 a37:=Tryz.isAgg72
 z37:=Tryz.sizeOf72
 v37:=Tryz.zeroValue72
 t46:=underlying225
 a46:=Tryz.isAgg225
 z46:=Tryz.sizeOf225
 v46:=Tryz.zeroValue225
 t51:=underlying258
 a51:=Tryz.isAgg258
 z51:=Tryz.sizeOf258
 v51:=Tryz.zeroValue258
 t70:=underlying217
 a70:=Tryz.isAgg217
 z70:=Tryz.sizeOf217
 v70:=Tryz.zeroValue217
 t72:=underlying219
 a72:=Tryz.isAgg219
 z72:=Tryz.sizeOf219
 v72:=Tryz.zeroValue219
 t75:=underlying146
 a75:=Tryz.isAgg146
 z75:=Tryz.sizeOf146
 v75:=Tryz.zeroValue146
 t76:=underlying147
 a76:=Tryz.isAgg147
 z76:=Tryz.sizeOf147
 v76:=Tryz.zeroValue147
 t105:=underlying193
 a105:=Tryz.isAgg193
 z105:=Tryz.sizeOf193
 v105:=Tryz.zeroValue193
 t119:=underlying254
 a119:=Tryz.isAgg254
 z119:=Tryz.sizeOf254
 t127:=underlying253
 a127:=Tryz.isAgg253
 z127:=Tryz.sizeOf253
 v127:=Tryz.zeroValue253
 t138:=underlying256
 a138:=Tryz.isAgg256
 z138:=Tryz.sizeOf256
 v138:=Tryz.zeroValue256
 t139:=underlying257
 a139:=Tryz.isAgg257
 z139:=Tryz.sizeOf257
 v139:=Tryz.zeroValue257
 t146:=underlying259
 a146:=Tryz.isAgg259
 z146:=Tryz.sizeOf259
 v146:=Tryz.zeroValue259
 t164:=underlying273
 a164:=Tryz.isAgg273
 z164:=Tryz.sizeOf273
 v164:=Tryz.zeroValue273
 g1:=zK
 g3:=zK
 g4:=by kernel_rfl}
theorem Tryz.Builder_Extra_155:Builder.Extra prog Tryz.lays155_ren:={
 sizeBuilder:=zK
 liesBuilder:=zK
 t5:=underlying5
 a5:=Tryz.isAgg5
 z5:=Tryz.sizeOf5
 v5:=Tryz.zeroValue5
 infoByte:=zK
 cellsByte:=zK
 sizeByte:=zK
 neB5:=by decide}
open Go.RowKit Go.Lib in
theorem Tryz.strings_ReplaceAll (s old new:ByteArray) (m:Int) (w:World) (hs:s.size<4294967281) (hm:w.cell? ⟨0,0,none⟩=some (.int .i64 m)) (h1:1<=old.size) (hlen:s.size+Lib.countB s old*new.size<=140737488355328):
 Calls Tryz.prog 169 #[.string s, .string old, .string new] w fun e w'=>
  e= .returned (.string ⟨(Lib.replaceAll s.data.toList old.data.toList new.data.toList).toArray⟩)/\Below w.heap.size w w':=Any.strings_ReplaceAll Tryz.lays155 Tryz.Builder_Extra_155 s old new m w hs hm h1 hlen
def Tryz.lays156_ren:Go.Shelf.Ren:=⟨fun | 156=>202 | 165=>242 | 166=>243 | 169=>244 | 240=>276 | 241=>277 | 276=>296 | 277=>297 | n=>n,fun | 31=>50 | 9=>9 | 3=>3 | 4=>4 | 0=>0 | 20=>20 | 72=>219 | 76=>147 | 70=>217 | 37=>72 | 75=>146 | 127=>253 | 164=>273 | 5=>5 | 80=>221 | n=>n,fun | n=>n⟩
theorem Tryz.lays156:Go.Proofs.Lays.n156 prog Tryz.lays156_ren:={
 mixed:=zK
 f156:=func202.trans (congrArg some zK)
 f165:=func242.trans (congrArg some zK)
 f166:=func243.trans (congrArg some zK)
 f169:=func244.trans (congrArg some zK)
 f240:=func276.trans (congrArg some zK)
 f241:=func277.trans (congrArg some zK)
 f276:=func296.trans (congrArg some zK)
 f277:=func297.trans (congrArg some zK)
 t0:=underlying0
 a0:=Tryz.isAgg0
 z0:=Tryz.sizeOf0
 v0:=Tryz.zeroValue0
 t3:=underlying3
 a3:=Tryz.isAgg3
 z3:=Tryz.sizeOf3
 v3:=Tryz.zeroValue3
 t4:=underlying4
 a4:=Tryz.isAgg4
 z4:=Tryz.sizeOf4
 v4:=Tryz.zeroValue4
 t9:=underlying9
 a9:=Tryz.isAgg9
 z9:=Tryz.sizeOf9
 v9:=Tryz.zeroValue9
 t20:=underlying20
 a20:=Tryz.isAgg20
 z20:=Tryz.sizeOf20
 v20:=Tryz.zeroValue20
 t31:=underlying50
 a31:=Tryz.isAgg50
 z31:=Tryz.sizeOf50
 v31:=Tryz.zeroValue50
 t37:=underlying72
 a37:=Tryz.isAgg72
 z37:=Tryz.sizeOf72
 v37:=Tryz.zeroValue72
 t70:=underlying217
 a70:=Tryz.isAgg217
 z70:=Tryz.sizeOf217
 v70:=Tryz.zeroValue217
 t72:=underlying219
 a72:=Tryz.isAgg219
 z72:=Tryz.sizeOf219
 v72:=Tryz.zeroValue219
 t75:=underlying146
 a75:=Tryz.isAgg146
 z75:=Tryz.sizeOf146
 v75:=Tryz.zeroValue146
 t76:=underlying147
 a76:=Tryz.isAgg147
 z76:=Tryz.sizeOf147
 v76:=Tryz.zeroValue147
 t127:=underlying253
 a127:=Tryz.isAgg253
 z127:=Tryz.sizeOf253
 v127:=Tryz.zeroValue253
 t164:=underlying273
 a164:=Tryz.isAgg273
 z164:=Tryz.sizeOf273
 v164:=Tryz.zeroValue273}
theorem Tryz.Builder_Extra_156:Builder.Extra prog Tryz.lays156_ren:={
 sizeBuilder:=zK
 liesBuilder:=zK
 t5:=underlying5
 a5:=Tryz.isAgg5
 z5:=Tryz.sizeOf5
 v5:=Tryz.zeroValue5
 infoByte:=zK
 cellsByte:=zK
 sizeByte:=zK
 neB5:=by decide}
open Go.RowKit in
theorem Tryz.strings_Join (bk o c:Nat) (xs:List ByteArray) (sep:ByteArray) (w:World) (hcells: ∀(j:Nat) x,xs[j]? =some x->w.cell? (bk,o+j)=some (.string x)) (hbk:bk<w.heap.size) (hN:xs.length<=140737488355328) (hcap:xs.length<=c) (hlen:(Lib.join (xs.map (·.data.toList)) sep.data.toList).length<=140737488355328):
 Calls prog 202 #[.slice (some ↑(bk,o)) xs.length c, .string sep] w (zR (.string ⟨(Lib.join (xs.map (·.data.toList)) sep.data.toList).toArray⟩) w):=Any.strings_Join Tryz.lays156 Tryz.Builder_Extra_156 bk o c xs sep w hcells hbk hN hcap hlen
open Go.RowKit in
theorem Tryz.strings_Join_none (a:Option Addr) (c:Nat) (sep:ByteArray) (w:World):
 Calls prog 202 #[.slice a 0 c, .string sep] w fun e w'=>e= .returned (.string ⟨#[]⟩)/\w'=w:=Any.strings_Join_none Tryz.lays156 Tryz.Builder_Extra_156 a c sep w
end Go.Proofs
namespace Go.Proofs.YtlenfgdjdianiaaGreatDoor
section
open Go.RowKit Tq Go.Proofs.Tryz
variable {Q : Exit → Act → World → Prop} {a : Act} {o : Oper} {ops : Array Oper}
def jG (l:List Int):List UInt8:=Lib.join (l.map Lib.itoa) [32]
theorem Xe (v:Int):jG [v]=Lib.itoa v:=Lib.join_one _ _
theorem aI (w:World) (q:Nat) (os:Array Obj):Below w w (Sort.grow (w.drewN q) os):=
 ⟨rfl,rfl,rfl,by show w.heap.size<=(w.heap++os).size;rw [Array.size_append];omega,fun i hi=>by
  show ((w.drewN q).heap++os)[i]? =_;rw [Array.getElem?_append_left (by show i<w.heap.size;omega)]
  rfl⟩
theorem MV (n:Int) (w:World) (b:-9223372036854775808<=n) (h1:n<=9223372036854775807) (hL:qZ w):
 Calls prog 133 #[n] w (zR (.string ⟨(Lib.itoa n).toArray⟩) w):=
 (Tryz.strconv_Itoa n b h1 w hL.pow).mono fun e w' ⟨he,k,os,hw⟩=>⟨he,by rw [hw];exact aI w k os⟩
theorem Wd:(prog.info? 9).map (fun i=>(i.zero,i.size,i.bytes))=some (some (.string ⟨#[]⟩),1,16):=zK
theorem eT (w:World) {rest:List Oper}
 (hg:o.guard=none) (l c:Operand) (e:o.op=Op.makeSlice 50 l c) (s q:IntKind) (n:Nat) (hl:a.eval l= .int s (n:Int)) (hc:a.eval c= .int q (n:Int)) (hn:n<=1048576)
 (hK: ∀M:Array Value,M.size=n->wpList prog ops Q rest (a.put o.dst (.slice ↑w n n)) (w.alloc (.cells M 9))):
 wpList prog ops Q (o::rest) a w:=by
 obtain ⟨i,hi,f,g,j⟩:=info_parts Wd;refine wpList_plain hg fun K b=>?_;have hr:=run_make (P:=prog) w 50 9 i (.string ⟨#[]⟩) underlying50 hi f s q n n om (Int.le_refl _) (by rw [j];omega) om;simp only [Yu,g,Nat.mul_one] at hr;unfold Oper.wp;simp only [Value.cells] at hr;simp [execOp,e,hl,hc,hr,Result.andThen];exact b _ _ (hK _ (size_madeCells _ _))
theorem Ej (b:List UInt8) (f:b.length<=1): ∀(l:List (List UInt8)),(∀x,x ∈ l->x.length<=21)->(Lib.join l b).length<=22*l.length
 | [],_=>by simp [Lib.join,List.intercalate]
 | [x],h=>by
  rw [Lib.join_one];have:=h x sI;simp;omega
 | x::y::r,h=>by
  have g:=Ej b f (y::r) (fun z c=>h z (by simp at c⊢;rcases c with e | e <;>simp [e]));have h1:=h x sI
  have e:(Lib.join (x::y::r) b).length=x.length+b.length+(Lib.join (y::r) b).length:=by
   simp [Lib.join,List.intercalate];omega
  rw [e];simp only [List.length_cons] at g⊢;omega
set_option maxRecDepth 100000 in
theorem Zl (ad:Option Addr) (n O:Nat) (xs:List Int) (w:World) (hn:xs.length=n) (ha:Rd w ad xs) (hl:n<=4096) (hi: ∀x,x ∈ xs->-9223372036854775808<=x/\x<=9223372036854775807) (hL:qZ w):
 Calls prog 162 #[.slice ad n O] w (zR (.string ⟨(jG xs).toArray⟩) w):=by
 obtain ⟨c,HA,U,HL⟩:=JG hn ha hi hL;clear hn ha hi hL;go_in;go_wp2_with (at_make;refine eT _ rfl _ _ rfl .i64 .i64 n rfl rfl om ?_;intro M hM);obtain ⟨Y,u,V⟩:=JF (Blk.new w 9 M) (zM (Below.refl w w) (.cells M 9)) hM;clear hM
 go_loopw [11] (fun i wr=> ∃(k:Nat) (y:Array Value),k<=n/\i=↑k/\Blk wr w 9 y/\y.size=n/\(∀j,j<k->y[j]? =some (.string ⟨(Lib.itoa (xs.getD j 0)).toArray⟩))/\Below w w wr) (fun i _=>n - (intOf i).toNat)
 exact ⟨0,M,nZ,rfl,Y.Z,V.Z,fun j I=>om,u.Z⟩;obtain ⟨k,y,hk,rfl,B,E,D,hb⟩:=hrel;obtain ⟨N,L,X,t⟩:=JG B E D hb;clear B E D hb Y u V;by_cases C:k<n
 . obtain ⟨ba,oa,P,b0,z⟩:=(HA.Z.below t.Z).at (oh c)
   have h1:=z k (oh c);subst P;obtain ⟨v,b⟩: ∃v,xs.getD k 0=v:=⟨_,rfl⟩
   rw [b] at h1;have A:=U.Z v (by rw [<-b];simp [List.getD,Ya (show k<xs.length by have:=c.Z;omega)]);have HG:=Jh b;have J:=Jh (HL.Z.below t.Z);clear z b;have k0:(0:Int)<=(k:Int):=om;have k1:(k:Int)<(n:Int):=om;go_wp2_with fail;refine (MV v _ A.1 A.2 (by exact J.Z)).mono ?_;rintro e w1 ⟨rfl,hb⟩;have g:=Jh (N.Z.zA hb);have f:=Jh (zL t.Z hb);clear hb;have g2:w1.cell? (w,k)=some (y[k]'(by rw [L.Z];exact C)):=by rw [g.Z.cell];exact Array.getElem?_eq_getElem _
   have g3:=g.Z.frozen k
   go_wp2
   go_roundw
   . exact ⟨k+1,_,om,by go_num,by simpa using g.Z.set k (.string ⟨(Lib.itoa v).toArray⟩),by rw [Array.size_setIfInBounds];exact L.Z,fun j I=>by
     rw [Array.getElem?_setIfInBounds];by_cases e:k=j
     subst e;rw [if_pos rfl,if_pos (by rw [L.Z];exact C),HG.Z]
     rw [if_neg e];exact X.Z j om,by exact f.Z.setCell sI _⟩
   exact Jm
 obtain rfl:k=n:=om;go_wp2_with fail;by_cases hz:k=0
 . subst hz
   have R:xs=[]:=List.eq_nil_of_length_eq_zero c.Z;refine (Tryz.strings_Join_none ↑w 0 ⟨#[32]⟩ _).mono ?_;rintro e w1 ⟨rfl,rfl⟩
   go_wp2
   go_ret;exact ⟨by rw [R];rfl,t.Z⟩
 obtain ⟨T,q⟩:=zN (xs.map (fun v=>(⟨(Lib.itoa v).toArray⟩:ByteArray)):List ByteArray);have F:T.length=k:=by rw [q,List.length_map];exact c.Z
 have G:T.map (·.data.toList)=xs.map Lib.itoa:=by rw [q,List.map_map];simp
 have I:=Tryz.strings_Join w 0 k T ⟨#[32]⟩ wr (fun j x s=>by rw [Nat.zero_add,N.Z.cell];(have l:j<k:=by rw [<-F];exact (List.getElem?_eq_some_iff.1 s).1);rw [X.Z j l];rw [q,List.getElem?_map] at s;rw [Ya (by rw [c.Z];exact l)] at s;simp at s;subst s;simp [List.getD,Ya (show j<xs.length by rw [c.Z];exact l)]) N.Z.lt om om (by
  rw [G]
  have:=Ej [32] sI (xs.map Lib.itoa) (fun x s=>by
   obtain ⟨v,hv,rfl⟩:=List.mem_map.1 s;have:=U.Z v hv
   exact Lib.itoa_length_le v this.1 this.2)
  rw [List.length_map,c.Z] at this;simp at this⊢
  omega)
 rw [F,G] at I;refine I.mono ?_;rintro e w1 ⟨rfl,hb⟩;have f:=Jh (zL t.Z hb)
 go_wp2
 go_ret;exact ⟨rfl,f.Z⟩
end
section
variable {H H' W W' v : Int} {k m n : Nat} {xs ys : List Int}
open Tq Go.Proofs.Tryz
def jM (n:Nat) (v:Int):Int:=(v*(n:Int)*2+255)/510
def vD (W H:Int) (xs:List Int) (v:Int):Int:=if yD W H xs=true/\0<=v/\v<=255 then jM xs.length v else -1
def Ur (W H:Int) (xs:List Int) (W' H':Int) (ys:List Int):List Int:=if yD W H xs=true/\zT W' H' ys 255=true then ys.map (jM xs.length) else []
def wW (W H:Int) (xs ls:List Int) (tw:Int) (i:Nat):Int:=if vV W H xs ((i:Int) % tw) ((i:Int)/tw)<ls[i]?.getD 0 then 1 else 0
def Xb (W H:Int) (xs:List Int) (W' H':Int) (ys:List Int):Pic:=
 if yD W H xs=true/\zT W' H' ys 255=true then ⟨W',H',gen ys.length (wW W H xs (ys.map (jM xs.length)) W')⟩ else xF
def ES (xs ys:List Int) (i:Nat):Int:=255*ys[i]?.getD 0 - xs[i]?.getD 0
def QM (xs ys:List Int):Nat->Int
 | 0=>0
 | k+1=>QM xs ys k+ES xs ys k*ES xs ys k
def XL (W H:Int) (xs:List Int) (W' H':Int) (ys:List Int):Int:=if jc W H xs W' H' ys=true/\zT W' H' ys 1=true then QM xs ys ys.length else -1
theorem LH (h1:0<=v) (h2:v<=255) (h3:n<=256):0<=v*(n:Int)/\v*(n:Int)<=65280:=by
 constructor;exact Int.mul_nonneg h1 om;have:=Yr h2 (show (n:Int)<=256 by omega) om om;omega
theorem lK (h1:0<=v) (h2:v<=255) (h3:n<=256):0<=jM n v/\jM n v<=(n:Int):=by
 obtain ⟨b,b1⟩:=LH h1 h2 h3;have e:v*(n:Int)<=255*(n:Int):=Yo h2 om;unfold jM;omega
theorem Zm (h: ¬(yD W H xs=true/\0<=v/\v<=255)):vD W H xs v=-1:=by unfold vD;rw [if_neg h]
theorem VX (hn:xs.length=n) (h:yD W H xs=true) (h1:0<=v) (h2:v<=255):vD W H xs v=jM n v:=by unfold vD;rw [if_pos ⟨h,h1,h2⟩,hn]
theorem Gj (h: ¬(yD W H xs=true/\zT W' H' ys 255=true)):Ur W H xs W' H' ys=[]:=by unfold Ur;rw [if_neg h]
theorem Dn (hn:xs.length=n) (h:yD W H xs=true) (h2:zT W' H' ys 255=true):Ur W H xs W' H' ys=ys.map (jM n):=by unfold Ur;rw [if_pos ⟨h,h2⟩,hn]
theorem Js (h: ¬(yD W H xs=true/\zT W' H' ys 255=true)):Xb W H xs W' H' ys=xF:=by unfold Xb;rw [if_neg h]
theorem Dw (hn:xs.length=n) (hm:ys.length=m) (h:yD W H xs=true) (h2:zT W' H' ys 255=true):
 Xb W H xs W' H' ys=⟨W',H',gen m (wW W H xs (ys.map (jM n)) W')⟩:=by unfold Xb;rw [if_pos ⟨h,h2⟩,hn,hm]
theorem Uh (h: ¬(jc W H xs W' H' ys=true/\zT W' H' ys 1=true)):XL W H xs W' H' ys=-1:=by unfold XL;rw [if_neg h]
theorem ET (hn:ys.length=n) (h:jc W H xs W' H' ys=true) (h2:zT W' H' ys 1=true):XL W H xs W' H' ys=QM xs ys n:=by unfold XL;rw [if_pos ⟨h,h2⟩,hn]
theorem dR {d:Int} (b:-255<=d) (h1:d<=255):0<=d*d/\d*d<=65025:=by
 by_cases h:0<=d
 refine ⟨Int.mul_nonneg h h,?_⟩;have:=Yr h1 h1 h om;omega;have e:d*d=(-d)*(-d):=by rw [Int.neg_mul_neg]
 rw [e];refine ⟨Int.mul_nonneg om om,?_⟩;have:=Yr (show -d<=255 by omega) (show -d<=255 by omega) om om;omega
theorem Ij (b:xM xs 255=true) (c:xM ys 1=true) (h1:k<xs.length) (h2:k<ys.length):-255<=ES xs ys k/\ES xs ys k<=255:=by
 have:=jY b k h1;have:=jY c k h2;unfold ES;omega
theorem Ik (c:xM xs 255=true) (e:xM ys 1=true) (hn:ys.length<=xs.length) (k:Nat) (hk:k<=ys.length):0<=QM xs ys k/\QM xs ys k<=65025*k:=by
 induction k with
 | zero=>simp [QM]
 | succ k f=>
  have h:=f om;obtain ⟨b,d1⟩:=Ij c e (k:=k) om om;have:=dR b d1;simp only [QM];omega
end
section
open Go.RowKit Tq Go.Proofs.Tryz
variable {H H' W W' : Int} {xs ys : List Int}
theorem Gs (h: ¬zT W H xs 255=true):jc W H xs W' H' ys=false:=by unfold jc;simp [h]
theorem Gt (h: ¬zT W' H' ys 255=true):jc W H xs W' H' ys=false:=by unfold jc;simp [h]
theorem bS (h: ¬(W=W'/\H=H')):jc W H xs W' H' ys=false:=by unfold jc;rw [decide_eq_false h];simp
theorem bT (h:zT W H xs 255=true) (h2:zT W' H' ys 255=true) (h3:W=W'/\H=H'):jc W H xs W' H' ys=true:=by unfold jc;rw [h,h2,decide_eq_true h3];rfl
theorem vN (W H:Int) (c:Option Addr) (n b:Nat) (w:World):
 Calls prog 73 #[.agg #[W,H, .slice c n b]] w (zR (.agg #[W,H]) w):=by
 go_in
 go_wp2
 exact bodyPost_ret (v:= .agg #[W,H]) (Jr results73) rfl ⟨rfl,nV⟩
theorem UU (W H:Int) (D:Option Addr) (n u:Nat) (xs:List Int) (W' H':Int) (j:Option Addr) (x b:Nat) (ys:List Int) (w:World)
 (hn:xs.length=n) (ha:Rd w D xs) (hl:n<=↑Zn) (J:ys.length=x) (I:Rd w j ys) (B:x<=↑Zn):
 Calls prog 149 #[.agg #[W,H, .slice D n u], .agg #[W',H', .slice j x b]] w (zR (.bool (jc W H xs W' H' ys)) w):=by
 obtain ⟨G,F,A,z⟩:=JG hn ha J I;clear hn ha J I;by_cases hp:zT W H xs 255=true
 case neg=>
  have E:zT W H xs 255=false:=by simpa using hp
  rw [Gs hp];clear hp;go_in;go_wp2_with fail;refine (yj _ _ _ _ _ xs _ G.Z (by exact (F.Z.alloc _).alloc _) hl).mono ?_;rintro e w1 ⟨rfl,hb⟩;have c:=Jh (zL (zM (zM bR _) _) hb);have f:=Jh (((Blk.zD (g:=w.heap.size) 31 #[W,H, .slice D n u] (by first | rfl | simp)).alloc _).zA hb);have i:Hd (Blk w1 (w.heap.size+1) 31 #[W',H', .slice j x b]):=Jh ((Blk.zD (g:=w.heap.size+1) 31 #[W',H', .slice j x b] sI).zA hb);obtain ⟨L,c0,c1,c2⟩:=f.Z.c3;obtain ⟨M,y,d1,d2⟩:=i.Z.c3;clear hb;rw [E]
  go_wp2
  go_ret;exact ⟨rfl,c.Z⟩
 by_cases t:zT W' H' ys 255=true
 case neg=>
  have E:zT W' H' ys 255=false:=by simpa using t
  rw [Gt t];clear t;go_in;go_wp2_with fail;refine (yj _ _ _ _ _ xs _ G.Z (by exact (F.Z.alloc _).alloc _) hl).mono ?_;rintro e w1 ⟨rfl,hb⟩;have c:=Jh (zL (zM (zM bR _) _) hb);have f:=Jh (((Blk.zD (g:=w.heap.size) 31 #[W,H, .slice D n u] (by first | rfl | simp)).alloc _).zA hb);have i:Hd (Blk w1 (w.heap.size+1) 31 #[W',H', .slice j x b]):=Jh ((Blk.zD (g:=w.heap.size+1) 31 #[W',H', .slice j x b] sI).zA hb);obtain ⟨L,c0,c1,c2⟩:=f.Z.c3;obtain ⟨M,y,d1,d2⟩:=i.Z.c3;clear hb;rw [hp];go_wp2_with fail;refine (yj _ _ _ _ _ ys _ A.Z (by exact z.Z.below c.Z) B).mono ?_;rintro e w2 ⟨rfl,hb⟩;obtain ⟨l,q,s⟩:=JF (zL c.Z hb) (f.Z.zA hb) (i.Z.zA hb);clear c0 c1 c2 y d1 d2 hb;obtain ⟨N,c0,c1,c2⟩:=q.Z.c3;obtain ⟨O,y,d1,d2⟩:=s.Z.c3;rw [E]
  go_wp2
  go_ret;exact ⟨rfl,l.Z⟩
 by_cases C:W=W'/\H=H'
 case pos=>
  rw [bT hp t C];have P:(W==W')=true:=by simpa using C.1
  have R:(H==H')=true:=by simpa using C.2
  have T:=Jh C;clear C;go_in;go_wp2_with fail;refine (yj _ _ _ _ _ xs _ G.Z (by exact (F.Z.alloc _).alloc _) hl).mono ?_;rintro e w1 ⟨rfl,hb⟩;have c:=Jh (zL (zM (zM bR _) _) hb);have f:=Jh (((Blk.zD (g:=w.heap.size) 31 #[W,H, .slice D n u] (by first | rfl | simp)).alloc _).zA hb);have i:Hd (Blk w1 (w.heap.size+1) 31 #[W',H', .slice j x b]):=Jh ((Blk.zD (g:=w.heap.size+1) 31 #[W',H', .slice j x b] sI).zA hb);obtain ⟨L,c0,c1,c2⟩:=f.Z.c3;obtain ⟨M,y,d1,d2⟩:=i.Z.c3;clear hb;rw [hp];go_wp2_with fail;refine (yj _ _ _ _ _ ys _ A.Z (by exact z.Z.below c.Z) B).mono ?_;rintro e w2 ⟨rfl,hb⟩;obtain ⟨l,q,s⟩:=JF (zL c.Z hb) (f.Z.zA hb) (i.Z.zA hb);clear c0 c1 c2 y d1 d2 hb;obtain ⟨N,c0,c1,c2⟩:=q.Z.c3;obtain ⟨O,y,d1,d2⟩:=s.Z.c3;rw [t]
  go_wp2
  go_ret;exact ⟨rfl,l.Z⟩
 rw [bS C];by_cases hw:W=W'
 . have P:(W==W')=true:=by simpa using hw
   have R:(H==H')=false:=by
    rw [beq_eq_false_iff_ne];exact fun h=>C ⟨hw,h⟩
   clear C hw;go_in;go_wp2_with fail;refine (yj _ _ _ _ _ xs _ G.Z (by exact (F.Z.alloc _).alloc _) hl).mono ?_;rintro e w1 ⟨rfl,hb⟩;have c:=Jh (zL (zM (zM bR _) _) hb);have f:=Jh (((Blk.zD (g:=w.heap.size) 31 #[W,H, .slice D n u] (by first | rfl | simp)).alloc _).zA hb);have i:Hd (Blk w1 (w.heap.size+1) 31 #[W',H', .slice j x b]):=Jh ((Blk.zD (g:=w.heap.size+1) 31 #[W',H', .slice j x b] sI).zA hb);obtain ⟨L,c0,c1,c2⟩:=f.Z.c3;obtain ⟨M,y,d1,d2⟩:=i.Z.c3;clear hb;rw [hp];go_wp2_with fail;refine (yj _ _ _ _ _ ys _ A.Z (by exact z.Z.below c.Z) B).mono ?_;rintro e w2 ⟨rfl,hb⟩;obtain ⟨l,q,s⟩:=JF (zL c.Z hb) (f.Z.zA hb) (i.Z.zA hb);clear c0 c1 c2 y d1 d2 hb;obtain ⟨N,c0,c1,c2⟩:=q.Z.c3;obtain ⟨O,y,d1,d2⟩:=s.Z.c3;rw [t]
   go_wp2
   go_ret;exact ⟨rfl,l.Z⟩
 have P:(W==W')=false:=by simpa using hw
 clear C hw;go_in;go_wp2_with fail;refine (yj _ _ _ _ _ xs _ G.Z (by exact (F.Z.alloc _).alloc _) hl).mono ?_;rintro e w1 ⟨rfl,hb⟩;have c:=Jh (zL (zM (zM bR _) _) hb);have f:=Jh (((Blk.zD (g:=w.heap.size) 31 #[W,H, .slice D n u] (by first | rfl | simp)).alloc _).zA hb);have i:Hd (Blk w1 (w.heap.size+1) 31 #[W',H', .slice j x b]):=Jh ((Blk.zD (g:=w.heap.size+1) 31 #[W',H', .slice j x b] sI).zA hb);obtain ⟨L,c0,c1,c2⟩:=f.Z.c3;obtain ⟨M,y,d1,d2⟩:=i.Z.c3;clear hb;rw [hp];go_wp2_with fail;refine (yj _ _ _ _ _ ys _ A.Z (by exact z.Z.below c.Z) B).mono ?_;rintro e w2 ⟨rfl,hb⟩;obtain ⟨l,q,s⟩:=JF (zL c.Z hb) (f.Z.zA hb) (i.Z.zA hb);clear c0 c1 c2 y d1 d2 hb;obtain ⟨N,c0,c1,c2⟩:=q.Z.c3;obtain ⟨O,y,d1,d2⟩:=s.Z.c3;rw [t]
 go_wp2
 go_ret;exact ⟨rfl,l.Z⟩
end
end Go.Proofs.YtlenfgdjdianiaaGreatDoor
