/- Facts on which this claim rests, 9. -/
import Derived.HandedShaped
import Derived.Lay
import Derived.Lib.ItoaLen
import Derived.PinnedBridge
import Derived.Shelf.Strconv.ErrVarAll
import Derived.Shelf.Strconv.Itoa3
import Derived.Shelf.Strings.BuilderCap
import Derived.Shelf.Strings.Explode
import Derived.Shelf.Strings.OnBuilder
import Derived.Shelf.Strings.Prefix
import Derived.Shelf.Strings.Shaped
import Derived.Shelf.Strings.SplitShaped
import Derived.Stop.LaidErr
import Derived.Test.YtlenfgdjdianiaaGreatDoorCards
import Derived.Test.YtlenfgdjdianiaaGreatDoorTie
import Derived.Test.YtlenfgdjdianiaaGreatDoorF8
set_option linter.all false
set_option maxHeartbeats 6400000
namespace Go.Proofs.YtlenfgdjdianiaaGreatDoor
open Go.ChangeShapes Go.WideShapes Go.ChangeAt Go.RowKit Go.Lib Tq Go.Proofs.Tryz
variable {H : Type} {again apart fresh handsOn : Bool} {w w' : World}
def JN:List (String × DataW Unit):=[("math/bits.deBruijn32tab",Rows.laid_math_bits_deBruijn32tab),("math/bits.deBruijn64tab",Rows.laid_math_bits_deBruijn64tab),("internal/strconv.uint64pow10",Rows.laid_internal_strconv_uint64pow10),("unicode/utf8.acceptRanges",Rows.laid_unicode_utf8_acceptRanges),("strconv.ErrRange",Rows.laid_strconv_ErrRange),("strconv.ErrSyntax",Rows.laid_strconv_ErrSyntax),("unicode/utf8.first",Rows.laid_unicode_utf8_first)]
theorem gES:prog.globalNamed "strconv.ErrSyntax" =some 1:=zK
theorem gER:prog.globalNamed "strconv.ErrRange" =some 2:=zK
theorem zIX:prog.globalNamed "internal/strconv.uint64pow10" =some 5:=zK
theorem tES:(prog.globals[1]?).map (·.type)=some 146:=zK
theorem tER:(prog.globals[2]?).map (·.type)=some 146:=zK
structure jt (w:World):Prop where
 max: ∃m,w.cell? ⟨0,0,none⟩=some (.int .i64 m)
 es: ∃t p,w.cell? ⟨1,0,none⟩=some (.iface t p)
 er: ∃t p,w.cell? ⟨2,0,none⟩=some (.iface t p)
 pow:TabIs Tryz.prog w "internal/strconv.uint64pow10" .u64 pow10Tab
 size:6<=w.heap.size
theorem jt.below (h:jt w) (hb:Below w w w'):jt w':=by
 obtain ⟨⟨m,h1⟩,⟨e,f,h2⟩,⟨t2,c,h3⟩,h4,j⟩:=h;have b: ∀g i,g<6->w'.cell? ⟨g,i,none⟩=w.cell? ⟨g,i,none⟩:=fun g i hg=>hb.cell (by show g<_;omega);refine ⟨⟨m,(b _ _ om).trans h1⟩,⟨e,f,(b _ _ om).trans h2⟩,⟨t2,c,(b _ _ om).trans h3⟩,?_,Yx j hb.size⟩;unfold TabIs at h4⊢;exact var?_below hb zIX om h4
theorem zOD {enc:TypeId × Value->H} {a:Assume} {C:Checked} {os:Os} {f:FuncId} {q:Func} {s:ChangeSpec} {X:World->Array Value->Prop}
 (M: ∀(w w':World) (args:Array Value),w.heap=w'.heap->X w args->X w' args)
 (own:ownKnob C.prog.godebug=none) (g:os.Started) (u:C.prog.inits.idxOf? f=none) (I:C.prog.funcs[f]? =some q)
 (l: ∃(w:World) (tape:Tape) (i:Input),w.os=os/\(w.forCall tape i).Shaped C.prog/\i.vars=[]/\Input.okWide C.prog (w.forCall tape i) .any w.heap.size f i/\
  ((s.pre enc C.prog q [] apart (w.forCall tape i).memory i.args/\X (w.forCall tape i).memory i.args)/\sizedMet enc C.prog q (OpenSpec.ofChange s) apart (w.forCall tape i).memory i.args)/\a.holds C.prog (lone (Frame.enter C.prog f i.args .normal) [] (w.forCall tape i)))
 (c: ∀(W:World) (base:Nat) (args:Array Value) (F J:List (DataW H)) (b:List MemPlace),
  (∀(j:Nat) t v,q.params[j]? =some t->args[j]? =some v->Value.okWide C.prog W .any base t v)->
  DataW.Whole enc C.prog q.params.toList s.vars apart W args.toList F J b->X W args->W.ShapedOpen C.prog->
  Calls C.prog f args W fun e W'=> ∃v,e= .returned v/\s.post enc C.prog q apart fresh handsOn again W args v W'):
 ReturnsInHanded a C os f .any (fun w args=>(s.pre enc C.prog q [] apart w args/\X w args)/\sizedMet enc C.prog q (OpenSpec.ofChange s) apart w args) (s.post enc C.prog q apart fresh handsOn again):=by
 refine returnsInHanded_of_calls own g u l ?_;intro w tape i _ D _ B z A;obtain ⟨_,_,_,G,x,_,_,_,_,y⟩:=B;have e:G=q:=Yd (x.symm.trans I);subst e;obtain ⟨⟨⟨F,J,b,hw,hc⟩,L⟩,N⟩:=z;have E:=DataW.Whole.of_heap (w':=w.forCall tape i) (by rfl) hw;refine (c (w.forCall tape i) w.heap.size i.args F J b y E (M _ _ _ (by rfl) L) D).mono fun e W' ⟨v,he,hp⟩=>?_;subst he;exact ChangeSpec.post_blind hp
theorem zLs (u:TypeId) (h:prog.typeName? 3 u=some "*errors.errorString"):u=262:=
 typeName_ptr_named (nm:= "errors.errorString") (by rw [show "*" ++ "errors.errorString" = "*errors.errorString" by decide];kernel_rfl) zK dC u (by rw [show "*" ++ "errors.errorString" = "*errors.errorString" by decide];exact h)
theorem zNX (h:laidMetH prog JN w) (j:w.ShapedOpen prog):jt w:=by
 rw [MakeChecks.laidMetH_plain _ _ _ zK] at h;obtain ⟨a0,u,q,-,-,-⟩:=laid_sentinel h.tail.tail.tail.tail.tail gES tES underlying146 zLs underlying262 underlying264 rfl rfl underlying9 zK zK;obtain ⟨a1,s,i,-,-,-⟩:=laid_sentinel h.tail.tail.tail.tail gER tER underlying146 zLs underlying262 underlying264 rfl rfl underlying9 zK zK;refine ⟨?_,⟨_,_,by have e:=World.var?_cell gES q 0;simpa using e⟩,⟨_,_,by have e:=World.var?_cell gER i 0;simpa using e⟩,?_,?_⟩;exact cell_of_shapedOpen_int (g:=0) (t:=3) (zero:=#[Z0]) j (of_decide_eq_true zK) zK zK zK zK underlying3;obtain ⟨g,t,f,b,p,hg,l,hv,hd⟩:=Lib.laidMet.reads h (n:= "internal/strconv.uint64pow10") (d:=Rows.laid_internal_strconv_uint64pow10) (by simp [JN]);obtain rfl:=Yd (zIX.symm.trans hg);obtain rfl:=Yd ((show (prog.globals[5]?).map (·.type)=some 266 by kernel_rfl).symm.trans l);unfold TabIs
 have c:DataW.trod (fun _=>()) prog w 0 (fun _=>true) false b 266 f.toList=some (tabData .u64 pow10Tab,p):=by
  rw [hd];congr 2
 rw [hv,<-cells_of_tab underlying266 underlying226 zK zK c];obtain ⟨g,t,f,b,p,hg,l,hv,hd⟩:=Lib.laidMet.reads h (n:= "internal/strconv.uint64pow10") (d:=Rows.laid_internal_strconv_uint64pow10) (by simp [JN]);obtain rfl:=Yd (zIX.symm.trans hg);obtain rfl:=Yd ((show (prog.globals[5]?).map (·.type)=some 266 by kernel_rfl).symm.trans l)
 have c:DataW.trod (fun _=>()) prog w 0 (fun _=>true) false b 266 f.toList=some (tabData .u64 pow10Tab,p):=by
  rw [hd];congr 2
 have e:=World.var?_cell zIX hv 0;rw [show f[0]? =f.toList[0]? by simp,cells_of_tab underlying266 underlying226 zK zK c] at e;have:=lt_of_cell (e.trans rfl);simp at this;omega
end Go.Proofs.YtlenfgdjdianiaaGreatDoor
namespace Go.Proofs
open Go.Shelf
open Go.Proofs.YtlenfgdjdianiaaGreatDoor (om sI sO sD zK dC aS nC oh og zB zC zN Jh Jr Jd Jm oS oT nI nZ bR nJ nV)
open Go.Proofs.YtlenfgdjdianiaaGreatDoor.Tq Go.Proofs.Tryz
def Tryz.laysM171_ren:Go.Shelf.Ren:=⟨fun | 171=>133 | 243=>179 | 246=>222 | 283=>256 | 284=>257 | 285=>258 | 286=>259 | 129=>283 | 317=>282 | 318=>284 | 319=>285 | 320=>286 | 337=>298 | 338=>299 | n=>n,fun | 3=>3 | 9=>9 | 2=>2 | 4=>4 | 171=>233 | 0=>0 | 53=>226 | 37=>72 | 5=>5 | 173=>236 | 212=>266 | 51=>258 | 20=>20 | 213=>267 | 46=>225 | 232=>278 | 233=>279 | n=>n,fun | 17=>5 | 18=>6 | 19=>7 | n=>n⟩
theorem Tryz.laysM171:Go.Proofs.LaysM.n171 prog Tryz.laysM171_ren:={
 mixed:=zK
 f129:=func283.trans (congrArg some zK)
 f171:=func133.trans (congrArg some zK)
 f243:=func179.trans (congrArg some zK)
 f246:=func222.trans (congrArg some zK)
 f283:=func256.trans (congrArg some zK)
 f284:=func257.trans (congrArg some zK)
 f285:=func258.trans (congrArg some zK)
 f286:=func259.trans (congrArg some zK)
 f317:=func282.trans (congrArg some zK)
 f318:=func284.trans (congrArg some zK)
 f319:=func285.trans (congrArg some zK)
 f320:=func286.trans (congrArg some zK)
 f337:=func298.trans (congrArg some zK)
 f338:=func299.trans (congrArg some zK)
 t0:=underlying0
 a0:=Tryz.isAgg0
 z0:=Tryz.sizeOf0
 v0:=Tryz.zeroValue0
 t2:=underlying2
 a2:=Tryz.isAgg2
 z2:=Tryz.sizeOf2
 v2:=Tryz.zeroValue2
 t3:=underlying3
 a3:=Tryz.isAgg3
 z3:=Tryz.sizeOf3
 v3:=Tryz.zeroValue3
 t4:=underlying4
 a4:=Tryz.isAgg4
 z4:=Tryz.sizeOf4
 v4:=Tryz.zeroValue4
 t5:=underlying5
 a5:=Tryz.isAgg5
 z5:=Tryz.sizeOf5
 v5:=Tryz.zeroValue5
 t9:=underlying9
 a9:=Tryz.isAgg9
 z9:=Tryz.sizeOf9
 v9:=Tryz.zeroValue9
 t20:=underlying20
 a20:=Tryz.isAgg20
 z20:=Tryz.sizeOf20
 v20:=Tryz.zeroValue20
 t37:=underlying72
 a37:=Tryz.isAgg72
 z37:=Tryz.sizeOf72
 v37:=Tryz.zeroValue72
 t46:=underlying225
 a46:=Tryz.isAgg225
 z46:=Tryz.sizeOf225
 v46:=Tryz.zeroValue225
 t51:=underlying258
 a51:=Tryz.isAgg258
 z51:=Tryz.sizeOf258
 v51:=Tryz.zeroValue258
 t53:=underlying226
 a53:=Tryz.isAgg226
 z53:=Tryz.sizeOf226
 v53:=Tryz.zeroValue226
 t171:=underlying233
 a171:=Tryz.isAgg233
 z171:=Tryz.sizeOf233
 v171:=Tryz.zeroValue233
 t173:=underlying236
 a173:=Tryz.isAgg236
 z173:=Tryz.sizeOf236
 v173:=Tryz.zeroValue236
 t212:=underlying266
 a212:=Tryz.isAgg266
 z212:=Tryz.sizeOf266
 v212:=Tryz.zeroValue266
 t213:=underlying267
 a213:=Tryz.isAgg267
 z213:=Tryz.sizeOf267
 t232:=underlying278
 a232:=Tryz.isAgg278
 z232:=Tryz.sizeOf278
 v232:=Tryz.zeroValue278
 t233:=underlying279
 a233:=Tryz.isAgg279
 z233:=Tryz.sizeOf279
 v233:=Tryz.zeroValue279
 g17:=zK
 g18:=zK
 g19:=zK
 i0:=zK
 i2:=zK
 i3:=zK
 i4:=zK
 i5:=zK
 i9:=zK
 i20:=zK
 i37:=zK
 i46:=zK
 i51:=zK
 i53:=zK
 i171:=zK
 i173:=zK
 i212:=zK
 i232:=zK
 i233:=zK
 m17:=zK
 m18:=zK
 m19:=by kernel_rfl}
open Go.RowKit Go.Sort Go.Lib in
theorem Tryz.strconv_Itoa (n:Int) (h0:-9223372036854775808<=n) (h1:n<=9223372036854775807) (w:World) (htab:Lib.TabIs prog w "internal/strconv.uint64pow10" .u64 Lib.pow10Tab):
 Calls prog 133 #[n] w fun e w'=>e= .returned (.string ⟨(Lib.itoa n).toArray⟩)/\ ∃k os,w'=grow (w.drewN k) os:=Any.strconv_Itoa Tryz.laysM171 n h0 h1 w htab
def Tryz.laysC172_ren:Go.Shelf.Ren:=⟨fun | 172=>132 | 244=>177 | 245=>178 | 247=>217 | 279=>218 | 280=>219 | 281=>220 | 282=>221 | 287=>253 | 316=>254 | 171=>133 | 205=>255 | 321=>280 | 322=>281 | 243=>179 | 246=>222 | 283=>256 | 284=>257 | 285=>258 | 286=>259 | 129=>283 | 317=>282 | 318=>284 | 319=>285 | 320=>286 | 337=>298 | 338=>299 | n=>n,fun | 9=>9 | 3=>3 | 75=>146 | 76=>147 | 4=>4 | 5=>5 | 167=>196 | 37=>72 | 0=>0 | 85=>197 | 2=>2 | 168=>199 | 53=>226 | 175=>227 | 46=>225 | 210=>231 | 127=>253 | 145=>264 | 143=>262 | 21=>21 | 171=>233 | 173=>236 | 212=>266 | 51=>258 | 20=>20 | 213=>267 | 232=>278 | 233=>279 | 80=>221 | n=>n,fun | 15=>1 | 16=>2 | 17=>5 | 18=>6 | 19=>7 | n=>n⟩
theorem Tryz.laysC172:Go.Proofs.LaysC.n172 prog Tryz.laysC172_ren:={
 mixed:=zK
 f129:=func283.trans (congrArg some zK)
 f171:=func133.trans (congrArg some zK)
 f172:=func132.trans (congrArg some zK)
 f205:=func255.trans (congrArg some zK)
 f243:=func179.trans (congrArg some zK)
 f244:=func177.trans (congrArg some zK)
 f245:=func178.trans (congrArg some zK)
 f246:=func222.trans (congrArg some zK)
 f247:=func217.trans (congrArg some zK)
 f279:=func218.trans (congrArg some zK)
 f280:=func219.trans (congrArg some zK)
 f281:=func220.trans (congrArg some zK)
 f282:=func221.trans (congrArg some zK)
 f283:=func256.trans (congrArg some zK)
 f284:=func257.trans (congrArg some zK)
 f285:=func258.trans (congrArg some zK)
 f286:=func259.trans (congrArg some zK)
 f287:=func253.trans (congrArg some zK)
 f316:=func254.trans (congrArg some zK)
 f317:=func282.trans (congrArg some zK)
 f318:=func284.trans (congrArg some zK)
 f319:=func285.trans (congrArg some zK)
 f320:=func286.trans (congrArg some zK)
 f321:=func280.trans (congrArg some zK)
 f322:=func281.trans (congrArg some zK)
 f337:=func298.trans (congrArg some zK)
 f338:=func299.trans (congrArg some zK)
 t0:=underlying0
 a0:=Tryz.isAgg0
 z0:=Tryz.sizeOf0
 v0:=Tryz.zeroValue0
 t2:=underlying2
 a2:=Tryz.isAgg2
 z2:=Tryz.sizeOf2
 v2:=Tryz.zeroValue2
 t3:=underlying3
 a3:=Tryz.isAgg3
 z3:=Tryz.sizeOf3
 v3:=Tryz.zeroValue3
 t4:=underlying4
 a4:=Tryz.isAgg4
 z4:=Tryz.sizeOf4
 v4:=Tryz.zeroValue4
 t5:=underlying5
 a5:=Tryz.isAgg5
 z5:=Tryz.sizeOf5
 v5:=Tryz.zeroValue5
 t9:=underlying9
 a9:=Tryz.isAgg9
 z9:=Tryz.sizeOf9
 v9:=Tryz.zeroValue9
 t20:=underlying20
 a20:=Tryz.isAgg20
 z20:=Tryz.sizeOf20
 v20:=Tryz.zeroValue20
 t21:=underlying21
 a21:=Tryz.isAgg21
 z21:=Tryz.sizeOf21
 v21:=Tryz.zeroValue21
 t37:=underlying72
 a37:=Tryz.isAgg72
 z37:=Tryz.sizeOf72
 v37:=Tryz.zeroValue72
 t46:=underlying225
 a46:=Tryz.isAgg225
 z46:=Tryz.sizeOf225
 v46:=Tryz.zeroValue225
 t51:=underlying258
 a51:=Tryz.isAgg258
 z51:=Tryz.sizeOf258
 v51:=Tryz.zeroValue258
 t53:=underlying226
 a53:=Tryz.isAgg226
 z53:=Tryz.sizeOf226
 v53:=Tryz.zeroValue226
 t75:=underlying146
 a75:=Tryz.isAgg146
 z75:=Tryz.sizeOf146
 v75:=Tryz.zeroValue146
 t76:=underlying147
 a76:=Tryz.isAgg147
 z76:=Tryz.sizeOf147
 v76:=Tryz.zeroValue147
 t85:=underlying197
 a85:=Tryz.isAgg197
 z85:=Tryz.sizeOf197
 v85:=Tryz.zeroValue197
 t127:=underlying253
 a127:=Tryz.isAgg253
 z127:=Tryz.sizeOf253
 v127:=Tryz.zeroValue253
 t143:=underlying262
 a143:=Tryz.isAgg262
 z143:=Tryz.sizeOf262
 v143:=Tryz.zeroValue262
 t145:=underlying264
 a145:=Tryz.isAgg264
 z145:=Tryz.sizeOf264
 v145:=Tryz.zeroValue264
 t167:=underlying196
 a167:=Tryz.isAgg196
 z167:=Tryz.sizeOf196
 v167:=Tryz.zeroValue196
 t168:=underlying199
 a168:=Tryz.isAgg199
 z168:=Tryz.sizeOf199
 v168:=Tryz.zeroValue199
 t171:=underlying233
 a171:=Tryz.isAgg233
 z171:=Tryz.sizeOf233
 v171:=Tryz.zeroValue233
 t173:=underlying236
 a173:=Tryz.isAgg236
 z173:=Tryz.sizeOf236
 v173:=Tryz.zeroValue236
 t175:=underlying227
 a175:=Tryz.isAgg227
 z175:=Tryz.sizeOf227
 v175:=Tryz.zeroValue227
 t210:=underlying231
 a210:=Tryz.isAgg231
 z210:=Tryz.sizeOf231
 v210:=Tryz.zeroValue231
 t212:=underlying266
 a212:=Tryz.isAgg266
 z212:=Tryz.sizeOf266
 v212:=Tryz.zeroValue266
 t213:=underlying267
 a213:=Tryz.isAgg267
 z213:=Tryz.sizeOf267
 t232:=underlying278
 a232:=Tryz.isAgg278
 z232:=Tryz.sizeOf278
 v232:=Tryz.zeroValue278
 t233:=underlying279
 a233:=Tryz.isAgg279
 z233:=Tryz.sizeOf279
 v233:=Tryz.zeroValue279
 g15:=zK
 g16:=zK
 g17:=zK
 g18:=zK
 g19:=zK
 t80:=underlying221
 a80:=Tryz.isAgg221
 z80:=Tryz.sizeOf221
 v80:=Tryz.zeroValue221
 i0:=zK
 i2:=zK
 i3:=zK
 i4:=zK
 i5:=zK
 i9:=zK
 i20:=zK
 i21:=zK
 i37:=zK
 i46:=zK
 i51:=zK
 i53:=zK
 i75:=zK
 i76:=zK
 i80:=zK
 i85:=zK
 i127:=zK
 i143:=zK
 i145:=zK
 i167:=zK
 i168:=zK
 i171:=zK
 i173:=zK
 i175:=zK
 i210:=zK
 i212:=zK
 i232:=zK
 i233:=zK
 m15:=zK
 m16:=zK
 m17:=zK
 m18:=zK
 m19:=zK
 c0:=zK
 c2:=zK
 c3:=zK
 c4:=zK
 c5:=zK
 c9:=zK
 c20:=zK
 c21:=zK
 c37:=zK
 c46:=zK
 c51:=zK
 c53:=zK
 c75:=zK
 c76:=zK
 c80:=zK
 c85:=zK
 c127:=zK
 c143:=zK
 c145:=zK
 c167:=zK
 c168:=zK
 c171:=zK
 c173:=zK
 c175:=zK
 c210:=zK
 c212:=zK
 c213:=zK
 c232:=zK
 c233:=by kernel_rfl}
open Go.RowKit in
theorem Tryz.strconv_Atoi_ok (s:ByteArray) (hmax:s.size<=9223372036854775806) (v:Int) (h:Lib.atoiAll s.data.toList= .ok v) (w:World):
 Calls prog 132 #[.string s] w fun e w'=>e= .returned (.tuple #[v, .nilIface])/\(w'=w\/ ∃t,w'=Lib.bytesWorld w 5 t):=Any.strconv_Atoi_ok Tryz.laysC172 s hmax v h w
open Go.RowKit in
theorem Tryz.strconv_Atoi_syntax (s : ByteArray) (hlim : s.size ≤ 281474976710656) (h : (∀ v, Lib.atoiAll s.data.toList ≠ .ok v) ∧ Lib.atoiAll s.data.toList ≠ .range) (ev : Value) (w : World) (hv : w.cell? ⟨1, 0, none⟩ = some ev) (hev : ev = .nilIface ∨ ∃ te pe, ev = .iface te pe) :
    Calls Tryz.prog 132 #[.string s] w fun e w' => ∃ N, e = .returned (.tuple #[.int .i64 (0), .iface 199 (.pointer (some ⟨N, 0, none⟩))]) ∧ w.heap.size ≤ N ∧ w'.heap[N]? = some (.cells #[.string ⟨#[65, 116, 111, 105]⟩, .string s, ev] 231 (0, 0)) ∧ Below w.heap.size w w' := Any.strconv_Atoi_syntax Tryz.laysC172 s hlim (by rcases ha : Lib.atoiAll s.data.toList with v | _ | _; exact absurd ha (h.1 v); rfl; exact absurd ha h.2) ev w hv hev
open Go.RowKit in
theorem Tryz.strconv_Atoi_range (s : ByteArray) (hlim : s.size ≤ 281474976710656) (h : Lib.atoiAll s.data.toList = .range) (ev : Value) (w : World) (hv : w.cell? ⟨2, 0, none⟩ = some ev) (hev : ev = .nilIface ∨ ∃ te pe, ev = .iface te pe) :
    Calls Tryz.prog 132 #[.string s] w fun e w' => ∃ N, e = .returned (.tuple #[.int .i64 (Lib.atoiSat s.data.toList), .iface 199 (.pointer (some ⟨N, 0, none⟩))]) ∧ w.heap.size ≤ N ∧ w'.heap[N]? = some (.cells #[.string ⟨#[65, 116, 111, 105]⟩, .string s, ev] 231 (0, 0)) ∧ Below w.heap.size w w' := Any.strconv_Atoi_range Tryz.laysC172 s hlim h ev w hv hev
def Tryz.lays147_ren:Go.Shelf.Ren:=⟨fun | 147=>75 | 221=>131 | 268=>174 | 138=>175 | 143=>176 | 195=>213 | 197=>214 | 218=>215 | 219=>216 | 260=>248 | 217=>249 | 225=>250 | 224=>251 | 267=>252 | 266=>278 | 314=>279 | n=>n,fun | 9=>9 | 3=>3 | 31=>50 | 4=>4 | 0=>0 | 105=>193 | 21=>21 | 5=>5 | 46=>225 | 119=>254 | 139=>257 | 138=>256 | 146=>259 | 51=>258 | n=>n,fun | 1=>0 | 3=>3 | 4=>4 | n=>n⟩
theorem Tryz.lays147:Go.Proofs.Lays.n147 prog Tryz.lays147_ren:={
 mixed:=zK
 f138:=func175.trans (congrArg some zK)
 f143:=func176.trans (congrArg some zK)
 f147:=func75.trans (congrArg some zK)
 f195:=func213.trans (congrArg some zK)
 f197:=func214.trans (congrArg some zK)
 f217:=func249.trans (congrArg some zK)
 f218:=func215.trans (congrArg some zK)
 f219:=func216.trans (congrArg some zK)
 f221:=func131.trans (congrArg some zK)
 f224:=func251.trans (congrArg some zK)
 f225:=func250.trans (congrArg some zK)
 f260:=func248.trans (congrArg some zK)
 f266:=func278.trans (congrArg some zK)
 f267:=func252.trans (congrArg some zK)
 f268:=func174.trans (congrArg some zK)
 f314:=func279.trans (congrArg some zK)
 t0:=underlying0
 a0:=Tryz.isAgg0
 z0:=Tryz.sizeOf0
 v0:=Tryz.zeroValue0
 t3:=underlying3
 a3:=Tryz.isAgg3
 z3:=Tryz.sizeOf3
 v3:=Tryz.zeroValue3
 t4:=underlying4
 a4:=Tryz.isAgg4
 z4:=Tryz.sizeOf4
 v4:=Tryz.zeroValue4
 t5:=underlying5
 a5:=Tryz.isAgg5
 z5:=Tryz.sizeOf5
 v5:=Tryz.zeroValue5
 t9:=underlying9
 a9:=Tryz.isAgg9
 z9:=Tryz.sizeOf9
 v9:=Tryz.zeroValue9
 t21:=underlying21
 a21:=Tryz.isAgg21
 z21:=Tryz.sizeOf21
 v21:=Tryz.zeroValue21
 t31:=underlying50
 a31:=Tryz.isAgg50
 z31:=Tryz.sizeOf50
 v31:=Tryz.zeroValue50
 t46:=underlying225
 a46:=Tryz.isAgg225
 z46:=Tryz.sizeOf225
 v46:=Tryz.zeroValue225
 t51:=underlying258
 a51:=Tryz.isAgg258
 z51:=Tryz.sizeOf258
 v51:=Tryz.zeroValue258
 t105:=underlying193
 a105:=Tryz.isAgg193
 z105:=Tryz.sizeOf193
 v105:=Tryz.zeroValue193
 t119:=underlying254
 a119:=Tryz.isAgg254
 z119:=Tryz.sizeOf254
 t138:=underlying256
 a138:=Tryz.isAgg256
 z138:=Tryz.sizeOf256
 v138:=Tryz.zeroValue256
 t139:=underlying257
 a139:=Tryz.isAgg257
 z139:=Tryz.sizeOf257
 v139:=Tryz.zeroValue257
 t146:=underlying259
 a146:=Tryz.isAgg259
 z146:=Tryz.sizeOf259
 v146:=Tryz.zeroValue259
 g1:=zK
 g3:=zK
 g4:=by kernel_rfl}
open Go.RowKit Go.Lib in
theorem Tryz.strings_SplitN (s sep : ByteArray) (n : Nat) (m : Int) (w : World) (hs : s.size < 4294967281) (hm : w.cell? ⟨0, 0, none⟩ = some (.int .i64 m)) (h1 : 1 ≤ sep.size) (hn : 1 ≤ n) (hn63 : n ≤ 9223372036854775807) :
    Calls Tryz.prog 75 #[.string s, .string sep, .int .i64 n] w fun e w' =>
      e = .returned (.slice (some ⟨w.heap.size, 0, none⟩) (Lib.splitB sep 0 (min n (s.size + 1) - 1) s).length (min n (s.size + 1))) ∧ w' = w.alloc (.cells (Lib.cellsOf (Lib.splitB sep 0 (min n (s.size + 1) - 1) s) (min n (s.size + 1))) 9) := Any.strings_SplitN Tryz.lays147 (by kernel_rfl) s sep n m w hs hm h1 hn hn63
def Tryz.lays102_ren:Go.Shelf.Ren:=⟨fun | 102=>167 | 209=>204 | 207=>246 | n=>n,fun | 9=>9 | 4=>4 | 3=>3 | n=>n,fun | n=>n⟩
theorem Tryz.lays102:Go.Proofs.Lays.n102 prog Tryz.lays102_ren:={
 mixed:=zK
 f102:=func167.trans (congrArg some zK)
 f207:=func246.trans (congrArg some zK)
 f209:=func204.trans (congrArg some zK)
 t3:=underlying3
 a3:=Tryz.isAgg3
 z3:=Tryz.sizeOf3
 v3:=Tryz.zeroValue3
 t4:=underlying4
 a4:=Tryz.isAgg4
 z4:=Tryz.sizeOf4
 v4:=Tryz.zeroValue4
 t9:=underlying9
 a9:=Tryz.isAgg9
 z9:=Tryz.sizeOf9
 v9:=Tryz.zeroValue9}
open Go.RowKit Go.Lib in
theorem Tryz.strings_TrimSuffix (s p:ByteArray) (w:World) (hs:s.size<=9223372036854775807):
 Calls prog 167 #[.string s, .string p] w fun e w'=>e= .returned (.string ⟨(Lib.trimSuffix s.data.toList p.data.toList).toArray⟩)/\w'=w:=Any.strings_TrimSuffix Tryz.lays102 s p w hs
def Tryz.lays155_ren:Go.Shelf.Ren:=⟨fun | 155=>169 | 154=>206 | 138=>175 | 165=>242 | 143=>176 | 166=>243 | 197=>214 | 169=>244 | 195=>213 | 218=>215 | 240=>276 | 241=>277 | 219=>216 | 260=>248 | 276=>296 | 277=>297 | 217=>249 | 225=>250 | 224=>251 | 267=>252 | 266=>278 | 314=>279 | n=>n,fun | 9=>9 | 3=>3 | 4=>4 | 72=>219 | 0=>0 | 76=>147 | 105=>193 | 21=>21 | 5=>5 | 70=>217 | 20=>20 | 37=>72 | 75=>146 | 127=>253 | 164=>273 | 46=>225 | 119=>254 | 139=>257 | 138=>256 | 146=>259 | 51=>258 | 80=>221 | n=>n,fun | 1=>0 | 3=>3 | 4=>4 | n=>n⟩
theorem Tryz.lays155:Go.Proofs.Lays.n155 prog Tryz.lays155_ren:={
 mixed:=zK
 f138:=func175.trans (congrArg some zK)
 f143:=func176.trans (congrArg some zK)
 f154:=func206.trans (congrArg some zK)
 f155:=func169.trans (congrArg some zK)
 f165:=func242.trans (congrArg some zK)
 f166:=func243.trans (congrArg some zK)
 f169:=func244.trans (congrArg some zK)
 f195:=func213.trans (congrArg some zK)
 f197:=func214.trans (congrArg some zK)
 f217:=func249.trans (congrArg some zK)
 f218:=func215.trans (congrArg some zK)
 f219:=func216.trans (congrArg some zK)
 f224:=func251.trans (congrArg some zK)
 f225:=func250.trans (congrArg some zK)
 f240:=func276.trans (congrArg some zK)
 f241:=func277.trans (congrArg some zK)
 f260:=func248.trans (congrArg some zK)
 f266:=func278.trans (congrArg some zK)
 f267:=func252.trans (congrArg some zK)
 f276:=func296.trans (congrArg some zK)
 f277:=func297.trans (congrArg some zK)
 f314:=func279.trans (congrArg some zK)
 t0:=underlying0
 a0:=Tryz.isAgg0
 z0:=Tryz.sizeOf0
 v0:=Tryz.zeroValue0
 t3:=underlying3
 a3:=Tryz.isAgg3
 z3:=Tryz.sizeOf3
 v3:=Tryz.zeroValue3
 t4:=underlying4
 a4:=Tryz.isAgg4
 z4:=Tryz.sizeOf4
 v4:=Tryz.zeroValue4
 t5:=underlying5
 a5:=Tryz.isAgg5
 z5:=Tryz.sizeOf5
 v5:=Tryz.zeroValue5
 t9:=underlying9
 a9:=Tryz.isAgg9
 z9:=Tryz.sizeOf9
 v9:=Tryz.zeroValue9
 t20:=underlying20
 a20:=Tryz.isAgg20
 z20:=Tryz.sizeOf20
 v20:=Tryz.zeroValue20
 t21:=underlying21
 a21:=Tryz.isAgg21
 z21:=Tryz.sizeOf21
 v21:=Tryz.zeroValue21
 t37:=underlying72
 a37:=Tryz.isAgg72
 z37:=Tryz.sizeOf72
 v37:=Tryz.zeroValue72
 t46:=underlying225
 a46:=Tryz.isAgg225
 z46:=Tryz.sizeOf225
 v46:=Tryz.zeroValue225
 t51:=underlying258
 a51:=Tryz.isAgg258
 z51:=Tryz.sizeOf258
 v51:=Tryz.zeroValue258
 t70:=underlying217
 a70:=Tryz.isAgg217
 z70:=Tryz.sizeOf217
 v70:=Tryz.zeroValue217
 t72:=underlying219
 a72:=Tryz.isAgg219
 z72:=Tryz.sizeOf219
 v72:=Tryz.zeroValue219
 t75:=underlying146
 a75:=Tryz.isAgg146
 z75:=Tryz.sizeOf146
 v75:=Tryz.zeroValue146
 t76:=underlying147
 a76:=Tryz.isAgg147
 z76:=Tryz.sizeOf147
 v76:=Tryz.zeroValue147
 t105:=underlying193
 a105:=Tryz.isAgg193
 z105:=Tryz.sizeOf193
 v105:=Tryz.zeroValue193
 t119:=underlying254
 a119:=Tryz.isAgg254
 z119:=Tryz.sizeOf254
 t127:=underlying253
 a127:=Tryz.isAgg253
 z127:=Tryz.sizeOf253
 v127:=Tryz.zeroValue253
 t138:=underlying256
 a138:=Tryz.isAgg256
 z138:=Tryz.sizeOf256
 v138:=Tryz.zeroValue256
 t139:=underlying257
 a139:=Tryz.isAgg257
 z139:=Tryz.sizeOf257
 v139:=Tryz.zeroValue257
 t146:=underlying259
 a146:=Tryz.isAgg259
 z146:=Tryz.sizeOf259
 v146:=Tryz.zeroValue259
 t164:=underlying273
 a164:=Tryz.isAgg273
 z164:=Tryz.sizeOf273
 v164:=Tryz.zeroValue273
 g1:=zK
 g3:=zK
 g4:=by kernel_rfl}
theorem Tryz.Builder_Extra_155:Builder.Extra prog Tryz.lays155_ren:={
 sizeBuilder:=zK
 liesBuilder:=zK
 t5:=underlying5
 a5:=Tryz.isAgg5
 z5:=Tryz.sizeOf5
 v5:=Tryz.zeroValue5
 infoByte:=zK
 cellsByte:=zK
 sizeByte:=zK
 neB5:=by decide}
open Go.RowKit Go.Lib in
theorem Tryz.strings_ReplaceAll (s old new : ByteArray) (m : Int) (w : World) (hs : s.size < 4294967281) (hm : w.cell? ⟨0, 0, none⟩ = some (.int .i64 m)) (h1 : 1 ≤ old.size) (hlen : s.size + Lib.countB s old * new.size ≤ 140737488355328) :
    Calls Tryz.prog 169 #[.string s, .string old, .string new] w fun e w' =>
      e = .returned (.string ⟨(Lib.replaceAll s.data.toList old.data.toList new.data.toList).toArray⟩) ∧ Below w.heap.size w w' := Any.strings_ReplaceAll Tryz.lays155 Tryz.Builder_Extra_155 s old new m w hs hm h1 hlen
def Tryz.lays156_ren:Go.Shelf.Ren:=⟨fun | 156=>202 | 165=>242 | 166=>243 | 169=>244 | 240=>276 | 241=>277 | 276=>296 | 277=>297 | n=>n,fun | 31=>50 | 9=>9 | 3=>3 | 4=>4 | 0=>0 | 20=>20 | 72=>219 | 76=>147 | 70=>217 | 37=>72 | 75=>146 | 127=>253 | 164=>273 | 5=>5 | 80=>221 | n=>n,fun | n=>n⟩
theorem Tryz.lays156:Go.Proofs.Lays.n156 prog Tryz.lays156_ren:={
 mixed:=zK
 f156:=func202.trans (congrArg some zK)
 f165:=func242.trans (congrArg some zK)
 f166:=func243.trans (congrArg some zK)
 f169:=func244.trans (congrArg some zK)
 f240:=func276.trans (congrArg some zK)
 f241:=func277.trans (congrArg some zK)
 f276:=func296.trans (congrArg some zK)
 f277:=func297.trans (congrArg some zK)
 t0:=underlying0
 a0:=Tryz.isAgg0
 z0:=Tryz.sizeOf0
 v0:=Tryz.zeroValue0
 t3:=underlying3
 a3:=Tryz.isAgg3
 z3:=Tryz.sizeOf3
 v3:=Tryz.zeroValue3
 t4:=underlying4
 a4:=Tryz.isAgg4
 z4:=Tryz.sizeOf4
 v4:=Tryz.zeroValue4
 t9:=underlying9
 a9:=Tryz.isAgg9
 z9:=Tryz.sizeOf9
 v9:=Tryz.zeroValue9
 t20:=underlying20
 a20:=Tryz.isAgg20
 z20:=Tryz.sizeOf20
 v20:=Tryz.zeroValue20
 t31:=underlying50
 a31:=Tryz.isAgg50
 z31:=Tryz.sizeOf50
 v31:=Tryz.zeroValue50
 t37:=underlying72
 a37:=Tryz.isAgg72
 z37:=Tryz.sizeOf72
 v37:=Tryz.zeroValue72
 t70:=underlying217
 a70:=Tryz.isAgg217
 z70:=Tryz.sizeOf217
 v70:=Tryz.zeroValue217
 t72:=underlying219
 a72:=Tryz.isAgg219
 z72:=Tryz.sizeOf219
 v72:=Tryz.zeroValue219
 t75:=underlying146
 a75:=Tryz.isAgg146
 z75:=Tryz.sizeOf146
 v75:=Tryz.zeroValue146
 t76:=underlying147
 a76:=Tryz.isAgg147
 z76:=Tryz.sizeOf147
 v76:=Tryz.zeroValue147
 t127:=underlying253
 a127:=Tryz.isAgg253
 z127:=Tryz.sizeOf253
 v127:=Tryz.zeroValue253
 t164:=underlying273
 a164:=Tryz.isAgg273
 z164:=Tryz.sizeOf273
 v164:=Tryz.zeroValue273}
theorem Tryz.Builder_Extra_156:Builder.Extra prog Tryz.lays156_ren:={
 sizeBuilder:=zK
 liesBuilder:=zK
 t5:=underlying5
 a5:=Tryz.isAgg5
 z5:=Tryz.sizeOf5
 v5:=Tryz.zeroValue5
 infoByte:=zK
 cellsByte:=zK
 sizeByte:=zK
 neB5:=by decide}
open Go.RowKit in
theorem Tryz.strings_Join (bk o c:Nat) (xs:List ByteArray) (sep:ByteArray) (w:World) (hcells: ∀(j:Nat) x,xs[j]? =some x->w.cell? (bk,o+j)=some (.string x)) (hbk:bk<w.heap.size) (hN:xs.length<=140737488355328) (hcap:xs.length<=c) (hlen:(Lib.join (xs.map (·.data.toList)) sep.data.toList).length<=140737488355328):
 Calls prog 202 #[.slice (some ↑(bk,o)) xs.length c, .string sep] w (zR (.string ⟨(Lib.join (xs.map (·.data.toList)) sep.data.toList).toArray⟩) w):=Any.strings_Join Tryz.lays156 Tryz.Builder_Extra_156 bk o c xs sep w hcells hbk hN hcap hlen
open Go.RowKit in
theorem Tryz.strings_Join_none (a:Option Addr) (c:Nat) (sep:ByteArray) (w:World):
 Calls prog 202 #[.slice a 0 c, .string sep] w fun e w'=>e= .returned (.string ⟨#[]⟩)/\w'=w:=Any.strings_Join_none Tryz.lays156 Tryz.Builder_Extra_156 a c sep w
end Go.Proofs
namespace Go.Proofs.YtlenfgdjdianiaaGreatDoor
section
open Go.RowKit Tq Go.Proofs.Tryz
variable {Q : Exit → Act → World → Prop} {a : Act} {o : Oper} {ops : Array Oper}
def xI (l:List Int):List UInt8:=Lib.join (l.map Lib.itoa) [32]
theorem qz (v:Int):xI [v]=Lib.itoa v:=Lib.join_one _ _
theorem zIL (w:World) (q:Nat) (os:Array Obj):Below w w (Sort.grow (w.drewN q) os):=
 ⟨rfl,rfl,rfl,by show w.heap.size<=(w.heap++os).size;rw [Array.size_append];omega,fun i hi=>by
  show ((w.drewN q).heap++os)[i]? =_;rw [Array.getElem?_append_left (by show i<w.heap.size;omega)]
  rfl⟩
theorem zDC (n:Int) (w:World) (b:-9223372036854775808<=n) (h1:n<=9223372036854775807) (hL:jt w):
 Calls prog 133 #[n] w (zR (.string ⟨(Lib.itoa n).toArray⟩) w):=
 (Tryz.strconv_Itoa n b h1 w hL.pow).mono fun e w' ⟨he,k,os,hw⟩=>⟨he,by rw [hw];exact zIL w k os⟩
theorem zHr:(prog.info? 9).map (fun i=>(i.zero,i.size,i.bytes))=some (some (.string ⟨#[]⟩),1,16):=zK
theorem zJk (w:World) {rest:List Oper}
 (hg:o.guard=none) (l c:Operand) (b:o.op=Op.makeSlice 50 l c) (s q:IntKind) (n:Nat) (hl:a.eval l= .int s (n:Int)) (hc:a.eval c= .int q (n:Int)) (hn:n<=1048576)
 (hK: ∀M:Array Value,M.size=n->wpList prog ops Q rest (a.put o.dst (.slice ↑w n n)) (w.alloc (.cells M 9))):
 wpList prog ops Q (o::rest) a w:=by
 obtain ⟨i,hi,j,f,e⟩:=info_parts zHr;refine wpList_plain hg fun K g=>?_;have hr:=run_make (P:=prog) w 50 9 i (.string ⟨#[]⟩) underlying50 hi j s q n n om (Int.le_refl _) (by rw [e];omega) om;simp only [Yu,f,Nat.mul_one] at hr;unfold Oper.wp;simp only [Value.cells] at hr;simp [execOp,b,hl,hc,hr,Result.andThen];exact g _ _ (hK _ (size_madeCells _ _))
theorem JL (b:List UInt8) (g:b.length<=1): ∀(l:List (List UInt8)),(∀x,x ∈ l->x.length<=21)->(Lib.join l b).length<=22*l.length
 | [],_=>by simp [Lib.join,List.intercalate]
 | [x],h=>by
  rw [Lib.join_one];have:=h x sI;simp;omega
 | x::y::r,h=>by
  have f:=JL b g (y::r) (fun z c=>h z (by simp at c⊢;rcases c with e | e <;>simp [e]));have h1:=h x sI
  have e:(Lib.join (x::y::r) b).length=x.length+b.length+(Lib.join (y::r) b).length:=by
   simp [Lib.join,List.intercalate];omega
  rw [e];simp only [List.length_cons] at f⊢;omega
set_option maxRecDepth 100000 in
theorem ug (V:Option Addr) (n J:Nat) (xs:List Int) (w:World) (hn:xs.length=n) (ha:Rd w V xs) (hl:n<=4096) (hi: ∀x,x ∈ xs->-9223372036854775808<=x/\x<=9223372036854775807) (hL:jt w):
 Calls prog 162 #[.slice V n J] w (zR (.string ⟨(xI xs).toArray⟩) w):=by
 have c:=Jh hn;have HA:=Jh ha;have HI:=Jh hi;have HL:=Jh hL;clear hn ha hi hL;go_in;go_wp2_with (at_make;refine zJk _ rfl _ _ rfl .i64 .i64 n rfl rfl om ?_;intro M hM);have U:=Jh (Blk.new w 9 M);have u:=Jh (zJ (Below.refl w w) (.cells M 9));have X:=Jh hM;clear hM
 go_loopw [11] (fun i wr=> ∃(k:Nat) (t:Array Value),k<=n/\i=↑k/\Blk wr w 9 t/\t.size=n/\(∀j,j<k->t[j]? =some (.string ⟨(Lib.itoa (xs.getD j 0)).toArray⟩))/\Below w w wr) (fun i _=>n - (intOf i).toNat)
 case atStart=>exact ⟨0,M,nZ,rfl,U.Z,X.Z,fun j I=>om,u.Z⟩
 obtain ⟨k,t,hk,rfl,G,y,A,hb⟩:=hrel;have L:=Jh G;have R:=Jh y;have Y:=Jh A;have D:=Jh hb;clear G y A hb U u X;by_cases z:k<n
 . obtain ⟨ba,oa,P,b0,B⟩:=(HA.Z.below D.Z).at (oh c)
   have h1:=B k (oh c);subst P;obtain ⟨v,b⟩: ∃v,xs.getD k 0=v:=⟨_,rfl⟩
   rw [b] at h1;have E:=HI.Z v (by rw [<-b];simp [List.getD,Ya (show k<xs.length by have:=c.Z;omega)]);have HG:=Jh b;have T:=Jh (HL.Z.below D.Z);clear B b;have k0:(0:Int)<=(k:Int):=om;have k1:(k:Int)<(n:Int):=om;go_wp2_with fail;refine (zDC v _ E.1 E.2 (by exact T.Z)).mono ?_;rintro e w1 ⟨rfl,hb⟩;have q:=Jh (L.Z.zA hb);have s:=Jh (zI D.Z hb);clear hb;have g2:w1.cell? (w,k)=some (t[k]'(by rw [R.Z];exact z)):=by rw [q.Z.cell];exact Array.getElem?_eq_getElem _
   have g3:=q.Z.frozen k;go_wp2_with fail;go_roundw
   case rel=>exact ⟨k+1,_,om,by go_num,by simpa using q.Z.set k (.string ⟨(Lib.itoa v).toArray⟩),by rw [Array.size_setIfInBounds];exact R.Z,fun j I=>by
    rw [Array.getElem?_setIfInBounds];by_cases e:k=j
    subst e;rw [if_pos rfl,if_pos (by rw [R.Z];exact z),HG.Z]
    rw [if_neg e];exact Y.Z j om,by exact s.Z.setCell sI _⟩
   exact Jm
 obtain rfl:k=n:=om;go_wp2_with fail;by_cases hz:k=0
 . subst hz
   have N:xs=[]:=List.eq_nil_of_length_eq_zero c.Z;refine (Tryz.strings_Join_none ↑w 0 ⟨#[32]⟩ _).mono ?_;rintro e w1 ⟨rfl,rfl⟩;go_wp2_with fail;go_ret;exact ⟨by rw [N];rfl,D.Z⟩
 obtain ⟨O,f⟩:=zN (xs.map (fun v=>(⟨(Lib.itoa v).toArray⟩:ByteArray)):List ByteArray);have C:O.length=k:=by rw [f,List.length_map];exact c.Z
 have F:O.map (·.data.toList)=xs.map Lib.itoa:=by rw [f,List.map_map];simp
 have I:=Tryz.strings_Join w 0 k O ⟨#[32]⟩ wr (fun j x l=>by
  rw [Nat.zero_add,L.Z.cell];have g:j<k:=by rw [<-C];exact (List.getElem?_eq_some_iff.1 l).1
  rw [Y.Z j g];rw [f,List.getElem?_map] at l;rw [Ya (by rw [c.Z];exact g)] at l;simp at l;subst l
  simp [List.getD,Ya (show j<xs.length by rw [c.Z];exact g)]) L.Z.lt om om (by
  rw [F]
  have:=JL [32] sI (xs.map Lib.itoa) (fun x l=>by
   obtain ⟨v,hv,rfl⟩:=List.mem_map.1 l;have:=HI.Z v hv
   exact Lib.itoa_length_le v this.1 this.2)
  rw [List.length_map,c.Z] at this;simp at this⊢
  omega)
 rw [C,F] at I;refine I.mono ?_;rintro e w1 ⟨rfl,hb⟩;have s:=Jh (zI D.Z hb);go_wp2_with fail;go_ret;exact ⟨rfl,s.Z⟩
end
section
variable {H H' W W' v : Int} {k m n : Nat} {xs ys : List Int}
open Tq Go.Proofs.Tryz
def xh (n:Nat) (v:Int):Int:=(v*(n:Int)*2+255)/510
def kV (W H:Int) (xs:List Int) (v:Int):Int:=if zq W H xs=true/\0<=v/\v<=255 then xh xs.length v else -1
def Ke (W H:Int) (xs:List Int) (W' H':Int) (ys:List Int):List Int:=if zq W H xs=true/\zP W' H' ys 255=true then ys.map (xh xs.length) else []
def vn (W H:Int) (xs ls:List Int) (tw:Int) (i:Nat):Int:=if jA W H xs ((i:Int) % tw) ((i:Int)/tw)<ls[i]?.getD 0 then 1 else 0
def qG (W H:Int) (xs:List Int) (W' H':Int) (ys:List Int):Pic:=
 if zq W H xs=true/\zP W' H' ys 255=true then ⟨W',H',gen ys.length (vn W H xs (ys.map (xh xs.length)) W')⟩ else yb
def Qi (xs ys:List Int) (i:Nat):Int:=255*ys[i]?.getD 0 - xs[i]?.getD 0
def Kz (xs ys:List Int):Nat->Int
 | 0=>0
 | k+1=>Kz xs ys k+Qi xs ys k*Qi xs ys k
def qf (W H:Int) (xs:List Int) (W' H':Int) (ys:List Int):Int:=if kC W H xs W' H' ys=true/\zP W' H' ys 1=true then Kz xs ys ys.length else -1
theorem zCM (h1:0<=v) (h2:v<=255) (h3:n<=256):0<=v*(n:Int)/\v*(n:Int)<=65280:=by
 constructor;exact Int.mul_nonneg h1 om;have:=Yr h2 (show (n:Int)<=256 by omega) om om;omega
theorem zLH (h1:0<=v) (h2:v<=255) (h3:n<=256):0<=xh n v/\xh n v<=(n:Int):=by
 obtain ⟨b,b1⟩:=zCM h1 h2 h3;have e:v*(n:Int)<=255*(n:Int):=Yo h2 om;unfold xh;omega
theorem uh (h: ¬(zq W H xs=true/\0<=v/\v<=255)):kV W H xs v=-1:=by unfold kV;rw [if_neg h]
theorem YV (hn:xs.length=n) (h:zq W H xs=true) (h1:0<=v) (h2:v<=255):kV W H xs v=xh n v:=by unfold kV;rw [if_pos ⟨h,h1,h2⟩,hn]
theorem zAz (h: ¬(zq W H xs=true/\zP W' H' ys 255=true)):Ke W H xs W' H' ys=[]:=by unfold Ke;rw [if_neg h]
theorem QJ (hn:xs.length=n) (h:zq W H xs=true) (h2:zP W' H' ys 255=true):Ke W H xs W' H' ys=ys.map (xh n):=by unfold Ke;rw [if_pos ⟨h,h2⟩,hn]
theorem YD (h: ¬(zq W H xs=true/\zP W' H' ys 255=true)):qG W H xs W' H' ys=yb:=by unfold qG;rw [if_neg h]
theorem QX (hn:xs.length=n) (hm:ys.length=m) (h:zq W H xs=true) (h2:zP W' H' ys 255=true):
 qG W H xs W' H' ys=⟨W',H',gen m (vn W H xs (ys.map (xh n)) W')⟩:=by unfold qG;rw [if_pos ⟨h,h2⟩,hn,hm]
theorem KJ (h: ¬(kC W H xs W' H' ys=true/\zP W' H' ys 1=true)):qf W H xs W' H' ys=-1:=by unfold qf;rw [if_neg h]
theorem Qj (hn:ys.length=n) (h:kC W H xs W' H' ys=true) (h2:zP W' H' ys 1=true):qf W H xs W' H' ys=Kz xs ys n:=by unfold qf;rw [if_pos ⟨h,h2⟩,hn]
theorem zJU {d:Int} (b:-255<=d) (h1:d<=255):0<=d*d/\d*d<=65025:=by
 by_cases h:0<=d
 refine ⟨Int.mul_nonneg h h,?_⟩;have:=Yr h1 h1 h om;omega;have e:d*d=(-d)*(-d):=by rw [Int.neg_mul_neg]
 rw [e];refine ⟨Int.mul_nonneg om om,?_⟩;have:=Yr (show -d<=255 by omega) (show -d<=255 by omega) om om;omega
theorem zBw (c:yY xs 255=true) (b:yY ys 1=true) (h1:k<xs.length) (h2:k<ys.length):-255<=Qi xs ys k/\Qi xs ys k<=255:=by
 have:=xx c k h1;have:=xx b k h2;unfold Qi;omega
theorem zBx (e:yY xs 255=true) (b:yY ys 1=true) (hn:ys.length<=xs.length) (k:Nat) (hk:k<=ys.length):0<=Kz xs ys k/\Kz xs ys k<=65025*k:=by
 induction k with
 | zero=>simp [Kz]
 | succ k f=>
  have h:=f om;obtain ⟨c,d1⟩:=zBw e b (k:=k) om om;have:=zJU c d1;simp only [Kz];omega
end
end Go.Proofs.YtlenfgdjdianiaaGreatDoor
