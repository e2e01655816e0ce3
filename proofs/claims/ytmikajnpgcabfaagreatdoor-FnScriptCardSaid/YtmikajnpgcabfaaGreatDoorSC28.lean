/-
  Contracts and plain facts on which the theorem of this claim rests, text 28.
-/
import Derived.Deep.RegionWith
import Derived.Test.YtmikajnpgcabfaaGreatDoorSC5
import Derived.Test.YtmikajnpgcabfaaGreatDoorSC25
import Derived.Test.YtmikajnpgcabfaaGreatDoorSC27
namespace Go.Proofs.YtmikajnpgcabfaaGreatDoor
open Go.RowKit
set_option linter.unusedVariables false
set_option linter.unusedSimpArgs false
set_option maxHeartbeats 400000 in
theorem isNaN5 (x:Int) (w:World):
   Calls Tryz.prog 246 #[.int .i64 x] w fun e w'=>e= .returned (.bool false)∧w=w':=by
 have h:(x !=x)=false:=by simp
 go_enter Tryz.func246,Tryz.ntmps246
 go_wp2_with fail
 go_ret
 exact ⟨rfl,rfl⟩
set_option maxHeartbeats 800000 in
theorem cmp5 (x y:Int) (w:World):
   Calls Tryz.prog 201 #[.int .i64 x, .int .i64 y] w fun e w'=> ∃c:Int,e= .returned (.int .i64 c)∧(c<0↔x<y)∧w=w':=by
 go_enter Tryz.func201,Tryz.ntmps201
 go_wp2_with fail
 refine (isNaN5 _ _).mono ?_
 rintro e w1 ⟨rfl,rfl⟩
 go_wp2_with fail
 refine (isNaN5 _ _).mono ?_
 rintro e w1 ⟨rfl,rfl⟩
 by_cases h1:x<y
 · go_wp2_with fail
   go_ret
   exact ⟨-1,rfl,by constructor <;>intro <;>omega,rfl⟩
 · by_cases h2:y<x
   · go_wp2_with fail
     go_ret
     exact ⟨1,rfl,by constructor <;>intro <;>omega,rfl⟩
   · go_wp2_with fail
     go_ret
     exact ⟨0,rfl,by constructor <;>intro <;>omega,rfl⟩
set_option maxRecDepth 100000 in
set_option maxHeartbeats 1600000 in
theorem nearOrd {A B n g d a b p q:Int} (L:Lat A B n g d a b p q) (x y u v:Int) (bl:Nat) (w:World) (hb:bl<w.heap.size) (c0:w.cell? ⟨bl,0,none⟩=some (.int .i64 A)) (c1:w.cell? ⟨bl,1,none⟩=some (.int .i64 B)):
   Calls Tryz.prog 277 #[.agg #[.int .i64 x, .int .i64 y], .agg #[.int .i64 u, .int .i64 v], .pointer (some ⟨bl,0,none⟩)] w fun e w'=> ∃c:Int,e= .returned (.int .i64 c)∧(c<0↔nearF A B x y<nearF A B u v)∧Below w.heap.size w w':=by
 obtain ⟨R1,hR1⟩: ∃R,nearF A B x y=R:=⟨_,rfl⟩
 obtain ⟨R2,hR2⟩: ∃R,nearF A B u v=R:=⟨_,rfl⟩
 have HL:=Lib.hid L
 have H1:=Lib.hid hR1
 have H2:=Lib.hid hR2
 rw [hR1,hR2]
 clear L hR1 hR2
 go_enter Tryz.func277,Tryz.ntmps277
 go_wp2_with fail
 have KX:=Lib.hid ((Blk.new w 191 #[.int .i64 x, .int .i64 y]).alloc (.cells #[.int .i64 u, .int .i64 v] 191))
 have KU:=Lib.hid (Blk.new' (g:=w.heap.size+1) (w:=w.alloc (.cells #[.int .i64 x, .int .i64 y] 191)) 191 #[.int .i64 u, .int .i64 v] (by simp))
 have HBo:=Lib.hid (Joins.below_alloc2 w (.cells #[.int .i64 x, .int .i64 y] 191) (.cells #[.int .i64 u, .int .i64 v] 191))
 obtain ⟨wo,hwo⟩: ∃wo:World,wo=(w.alloc (.cells #[.int .i64 x, .int .i64 y] 191)).alloc (.cells #[.int .i64 u, .int .i64 v] 191):=⟨_,rfl⟩
 rw [←hwo] at KX KU HBo⊢
 have l0:wo.cell? ⟨bl,0,none⟩=some (.int .i64 A):=(HBo.out.cell (p:=⟨bl,0,none⟩) hb).trans c0
 have l1:wo.cell? ⟨bl,1,none⟩=some (.int .i64 B):=(HBo.out.cell (p:=⟨bl,1,none⟩) hb).trans c1
 have lz:bl<wo.heap.size:=Nat.lt_of_lt_of_le hb HBo.out.size
 clear hwo c0 c1 hb
 obtain ⟨z1,x0,x1⟩:=KX.out.c2
 obtain ⟨z2,u0,u1⟩:=KU.out.c2
 have MK:Hid (∀t,BelowL wo t→t.cell? ⟨bl,0,none⟩=some (.int .i64 A)∧t.cell? ⟨bl,1,none⟩=some (.int .i64 B)∧t.cell? ⟨w.heap.size,0,none⟩=some (.int .i64 x)∧t.cell? ⟨w.heap.size,1,none⟩=some (.int .i64 y)∧t.cell? ⟨w.heap.size+1,0,none⟩=some (.int .i64 u)∧t.cell? ⟨w.heap.size+1,1,none⟩=some (.int .i64 v)∧BelowL wo t):=Lib.hid (fun t h=>⟨(h.out.cell lz).trans l0,(h.out.cell lz).trans l1,(h.out.cell z1).trans x0,(h.out.cell z1).trans x1,(h.out.cell z2).trans u0,(h.out.cell z2).trans u1,h⟩)
 go_region_held3 (fun t=>t.cell? ⟨bl,0,none⟩=some (.int .i64 A)∧t.cell? ⟨bl,1,none⟩=some (.int .i64 B)∧t.cell? ⟨w.heap.size,0,none⟩=some (.int .i64 x)∧t.cell? ⟨w.heap.size,1,none⟩=some (.int .i64 y)∧t.cell? ⟨w.heap.size+1,0,none⟩=some (.int .i64 u)∧t.cell? ⟨w.heap.size+1,1,none⟩=some (.int .i64 v)∧BelowL wo t)
   (first | exact MK.out _ hb3 | exact MK.out _ hb2 | exact MK.out _ hb1 | exact MK.out _ (BelowL.start _))
   (first
     | (go_at_call_of 278 (Value.int IntKind.i64 x);((with_reducible refine (impl_nearSquare HL.out x y _ H1.out _).mono ?_);rintro e v1 ⟨rfl,hq1⟩;have hb1:=BelowL.call (limb7 (by assumption)) hq1))
     | (go_at_call_of 278 (Value.int IntKind.i64 u);((with_reducible refine (impl_nearSquare HL.out u v _ H2.out _).mono ?_);rintro e v2 ⟨rfl,hq2⟩;have hb2:=BelowL.call (limb7 (by assumption)) hq2))
     | (go_at_call 201;((with_reducible refine (cmp5 _ _ _).mono ?_);rintro e v3 ⟨c,rfl,hc,rfl⟩;have hb3:=limb7 (by assumption))))
 have HC:=Lib.hid hc
 have HBF:=Lib.hid (bTrans HBo.out hb3.out)
 clear hc hb1 hb2 hb3 MK
 go_wp2_with fail
 go_ret
 exact ⟨c,rfl,HC.out,HBF.out⟩
theorem enters5 (f:Nat) (fn:Func) (c:Code) (hf:Tryz.prog.funcs[f]?=some fn) (hname:(fn.name== "runtime.NumGoroutine")=false) (hb:fn.body=some c): ∀args w,(callFunc f args).run Tryz.prog w= .ok (.enter f args) w:=enters_of hf hname hb
set_option maxRecDepth 100000 in
set_option maxHeartbeats 1600000 in
theorem seqCellC (h:Nat) (lb:Array Value) (bo bs bi n i k:Nat) (xs ys:Nat→Int) (K:Prop) (w:World) (eh: ∀args w,(callFunc h args).run Tryz.prog w= .ok (.enter h args) w)
   (co:w.cell? ⟨bo,0,none⟩=some (.func (.func h) #[] lb)) (ck:w.cell? ⟨bs,0,none⟩=some (.slice (some ⟨bi,0,none⟩) n n)) (ci:(∀k,k<n→w.cell? ⟨bi,k*2,none⟩=some (.int .i64 (xs k))∧w.cell? ⟨bi,k*2+1,none⟩=some (.int .i64 (ys k)))) (zo:bo<w.heap.size) (zs:bs<w.heap.size) (zi:bi<w.heap.size) (hi:i<n) (hk:k<n)
   (hord: ∀v,Below w.heap.size w v→Calls Tryz.prog h (#[.agg #[.int .i64 (xs i), .int .i64 (ys i)], .agg #[.int .i64 (xs k), .int .i64 (ys k)]]++lb) v fun e v'=> ∃c:Int,e= .returned (.int .i64 c)∧(c<0↔K)∧Below v.heap.size v v'):
   Calls Tryz.prog 304 #[.int .i64 i, .int .i64 k, .pointer (some ⟨bo,0,none⟩), .pointer (some ⟨bs,0,none⟩)] w fun e w'=> ∃c:Int,e= .returned (.int .i64 c)∧(c<0↔K)∧Below w.heap.size w w':=by
 obtain ⟨x0,x1⟩:=ci i hi
 obtain ⟨x2,x3⟩:=ci k hk
 obtain ⟨XSI,hxsi⟩: ∃zz,zz=xs i:=⟨_,rfl⟩
 obtain ⟨YSI,hysi⟩: ∃zz,zz=ys i:=⟨_,rfl⟩
 obtain ⟨XSK,hxsk⟩: ∃zz,zz=xs k:=⟨_,rfl⟩
 obtain ⟨YSK,hysk⟩: ∃zz,zz=ys k:=⟨_,rfl⟩
 rw [←hxsi] at x0
 rw [←hysi] at x1
 rw [←hxsk] at x2
 rw [←hysk] at x3
 try rw [←hxsi] at hord
 try rw [←hysi] at hord
 try rw [←hxsk] at hord
 try rw [←hysk] at hord
 have MK:Hid (∀v,BelowL w v→v.cell? ⟨bo,0,none⟩=some (.func (.func h) #[] lb)∧v.cell? ⟨bs,0,none⟩=some (.slice (some ⟨bi,0,none⟩) n n)∧v.cell? ⟨bi,i*2,none⟩=some (.int .i64 XSI)∧v.cell? ⟨bi,i*2+1,none⟩=some (.int .i64 YSI)∧v.cell? ⟨bi,k*2,none⟩=some (.int .i64 XSK)∧v.cell? ⟨bi,k*2+1,none⟩=some (.int .i64 YSK)∧BelowL w v):=Lib.hid (fun v hh=>⟨(hh.out.cell zo).trans co,(hh.out.cell zs).trans ck,(hh.out.cell zi).trans x0,(hh.out.cell zi).trans x1,(hh.out.cell zi).trans x2,(hh.out.cell zi).trans x3,hh⟩)
 have CC:Hid (∀v,BelowL w v→Calls Tryz.prog h (#[.agg #[.int .i64 XSI, .int .i64 YSI], .agg #[.int .i64 XSK, .int .i64 YSK]]++lb) v fun e v'=> ∃c:Int,e= .returned (.int .i64 c)∧(c<0↔K)∧Below v.heap.size v v'):=Lib.hid (fun v hv=>hord v hv.out)
 have pi:(i:Int)<(n:Int):=by omega
 have pk:(k:Int)<(n:Int):=by omega
 clear hord ci hxsi hysi hxsk hysk
 go_enter Tryz.func304,Tryz.ntmps304
 go_wp2_with fail
 go_region_held3 (fun v=>v.cell? ⟨bo,0,none⟩=some (.func (.func h) #[] lb)∧v.cell? ⟨bs,0,none⟩=some (.slice (some ⟨bi,0,none⟩) n n)∧v.cell? ⟨bi,i*2,none⟩=some (.int .i64 XSI)∧v.cell? ⟨bi,i*2+1,none⟩=some (.int .i64 YSI)∧v.cell? ⟨bi,k*2,none⟩=some (.int .i64 XSK)∧v.cell? ⟨bi,k*2+1,none⟩=some (.int .i64 YSK)∧BelowL w v)
   (first | exact MK.out _ hb1 | exact MK.out _ (BelowL.start _))
   (first
     | (go_at_fn h;((with_reducible refine (CC.out _ (limb7 (by assumption))).mono ?_);rintro e v1 ⟨cc,rfl,hcc,hq1⟩;have hb1:=BelowL.call (limb7 (by assumption)) hq1)))
 have HC:=Lib.hid hcc
 have HBF:=Lib.hid hb1
 clear hcc hb1 MK CC
 go_wp2_with fail
 go_ret
 exact ⟨cc,rfl,HC.out,HBF.out.out⟩
set_option maxRecDepth 100000 in
set_option maxHeartbeats 1600000 in
theorem seqCell (h:Nat) (lb:Array Value) (bi n:Nat) (xs ys:Nat→Int) (key:Int→Int) (w:World) (eh: ∀args w,(callFunc h args).run Tryz.prog w= .ok (.enter h args) w) (hn:n≤100000) (hn0:0<n) (ci:(∀k,k<n→w.cell? ⟨bi,k*2,none⟩=some (.int .i64 (xs k))∧w.cell? ⟨bi,k*2+1,none⟩=some (.int .i64 (ys k)))) (zi:bi<w.heap.size)
   (hord: ∀v,Below w.heap.size w v→ ∀i k,i<n→k<n→Calls Tryz.prog h (#[.agg #[.int .i64 (xs i), .int .i64 (ys i)], .agg #[.int .i64 (xs k), .int .i64 (ys k)]]++lb) v fun e v'=> ∃c:Int,e= .returned (.int .i64 c)∧(c<0↔key i<key k)∧Below v.heap.size v v'):
   Calls Tryz.prog 279 #[.slice (some ⟨bi,0,none⟩) n n, .func (.func h) #[] lb] w fun e w'=> ∃(f:Nat→Int) (blk:Nat),e= .returned (.slice (some ⟨blk,0,none⟩) n n)∧w.heap.size≤blk∧Own w' blk n n (gen n f)∧Good key f 0 n∧Below w.heap.size w w':=by
 have CI:Aside _:=ci
 have OR:Aside _:=hord
 clear ci hord
 go_enter Tryz.func279,Tryz.ntmps279
 go_wp2_with (at_make;refine wp_make _ rfl _ _ rfl .i64 .i64 n n n rfl rfl rfl rfl (by omega) ?_;intro M hM)
 have HB0:=Lib.hid (bAlloc (bAlloc (Below.refl w.heap.size w) (.cells #[.slice (some ⟨bi,0,none⟩) n n] 255)) (.cells #[.func (.func h) #[] lb] 259))
 obtain ⟨wo,hwo⟩: ∃wo:World,wo=(w.alloc (.cells #[.slice (some ⟨bi,0,none⟩) n n] 255)).alloc (.cells #[.func (.func h) #[] lb] 259):=⟨_,rfl⟩
 have KS:Hid (Blk wo w.heap.size 255 #[.slice (some ⟨bi,0,none⟩) n n]):=Lib.hid (by rw [hwo];exact (Blk.new w _ _).alloc _)
 have KO:Hid (Blk wo (w.heap.size+1) 259 #[.func (.func h) #[] lb]):=Lib.hid (by rw [hwo];exact Blk.new' _ _ (by simp))
 have zw:wo.heap.size=w.heap.size+1+1:=by rw [hwo];simp
 try rw [←hwo] at hM
 rw [←hwo] at HB0⊢
 clear hwo
 have HM:Hid (Own (wo.alloc (.cells M 3)) (w.heap.size+1+1) n n (List.replicate n 0)):=Lib.hid (by have h:=hM.own wo;rw [zw] at h;exact h)
 have HMB:=Lib.hid (bAlloc (Below.refl wo.heap.size wo) (.cells M 3))
 clear hM
 have ZW:=Lib.hid zw
 clear zw
 go_wp2_with fail
 go_loopw [12] (fun i wr=> ∃k:Nat,k≤n∧i= .int .i64 k∧Hid (Own wr (w.heap.size+1+1) n n (filled (gen n (fun k=>(k:Int))) (List.replicate n 0) k))∧Hid (Below wo.heap.size wo wr)) (fun i _=>n - (intOf i).toNat)
 case atStart=>exact ⟨0,Nat.zero_le _,rfl,Lib.hid (by rw [filled_zero];exact HM.out),HMB⟩
 case round=>
   clear HM HMB
   obtain ⟨k,hk,rfl,ho,hg⟩:=hrel
   by_cases hlt:k<n
   · have h2:wr.cell? ⟨w.heap.size+1+1,k,none⟩=some (.int .i64 ((filled (gen n (fun k=>(k:Int))) (List.replicate n 0) k).getD k 0)):=ho.out.cell hlt
     have h3:wr.frozen? ⟨w.heap.size+1+1,k,none⟩=false:=ho.out.frozen k
     have hs:=ho.out.set k (k:Int)
     rw [filled_succ (gen n (fun k=>(k:Int))) _ k _ (by rw [gen_len];exact hlt) (by simp;omega) (gen_get _ _ _ hlt)] at hs
     have HS:=Lib.hid hs
     clear hs ho
     go_wp2_with fail
     go_roundw
     case rel=>exact ⟨k+1,by omega,by go_num,HS,Lib.hid (hg.out.setCell (by have:=ZW.out;show wo.heap.size≤w.heap.size+1+1;omega) _)⟩
     case measure=>simp [intOf];omega
   · obtain rfl:k=n:=by omega
     have HR:Hid (Own wr (w.heap.size+1+1) k k (gen k (fun k=>(k:Int)))):=Lib.hid (by have h:=ho.out;have e:=filled_all (gen k (fun k=>(k:Int))) (List.replicate k 0) (by simp [gen_len]);rw [gen_len] at e;rwa [e] at h)
     have HW:=Lib.hid (HB0.out.trans (hg.out.mono HB0.out.size))
     have KS2:=Lib.hid (KS.out.below hg.out KS.out.lt)
     have KO2:=Lib.hid (KO.out.below hg.out KO.out.lt)
     clear ho hg
     have CM:Hid (CmpN 304 #[.pointer (some ⟨w.heap.size+1,0,none⟩), .pointer (some ⟨w.heap.size,0,none⟩)] key (w.heap.size+1+1) k wr):=Lib.hid (by
       intro W hW x y x0 x1 y0 y1
       obtain ⟨i,rfl⟩: ∃i:Nat,x=i:=⟨x.toNat,by omega⟩
       obtain ⟨j,rfl⟩: ∃j:Nat,y=j:=⟨y.toNat,by omega⟩
       have zw:=ZW.out
       have zr:=HR.out.lt
       have o1:=KO2.out.grown hW (by intro e;have:=Option.some.inj e;omega)
       have s1:=KS2.out.grown hW (by intro e;have:=Option.some.inj e;omega)
       have wb:Below w.heap.size w W:=HW.out.grown hW (by omega) (by intro k hk;cases hk;omega)
       have hh:=seqCellC h lb (w.heap.size+1) w.heap.size bi k i j xs ys (key i<key j) W eh (by rw [o1.cell];rfl) (by rw [s1.cell];rfl) (fun t ht=>⟨(wb.cell (p:=⟨bi,t*2,none⟩) zi).trans (CI.out t ht).1,(wb.cell (p:=⟨bi,t*2+1,none⟩) zi).trans (CI.out t ht).2⟩) o1.lt s1.lt (Nat.lt_of_lt_of_le zi wb.size) (by omega) (by omega) (fun v hv=>OR.out v (wb.trans (hv.mono wb.size)) i j (by omega) (by omega))
       exact hh)
     have EG:Hid (∀args w,(callFunc 304 args).run Tryz.prog w= .ok (.enter 304 args) w):=Lib.hid (enters5 _ _ _ Tryz.func304 (by kernel_rfl) rfl)
     go_wp2_with fail
     refine (sortStable5 304 _ key (w.heap.size+1+1) k _ EG.out CM.out HR.out hn hn0).mono ?_
     rintro ex w2 ⟨f,rfl,ho,hg,hi⟩
     have HR2:=Lib.hid ho
     have HI2:=Lib.hid hi
     have HW2:=Lib.hid (HW.out.grown hg (by have:=HR.out.lt;have:=ZW.out;omega) (by intro k hk;cases hk;have:=ZW.out;omega))
     clear ho hg hi
     go_wp2_with fail
     go_ret
     exact ⟨f,_,rfl,by have:=ZW.out;omega,HR2.out,HI2.out,HW2.out⟩
set_option maxRecDepth 100000 in
set_option maxHeartbeats 1600000 in
theorem seqNumC (h:Nat) (lb:Array Value) (bo bs bi n i k:Nat) (xs:Nat→Int) (K:Prop) (w:World) (eh: ∀args w,(callFunc h args).run Tryz.prog w= .ok (.enter h args) w)
   (co:w.cell? ⟨bo,0,none⟩=some (.func (.func h) #[] lb)) (ck:w.cell? ⟨bs,0,none⟩=some (.slice (some ⟨bi,0,none⟩) n n)) (ci:(∀k,k<n→w.cell? ⟨bi,k,none⟩=some (.int .i64 (xs k)))) (zo:bo<w.heap.size) (zs:bs<w.heap.size) (zi:bi<w.heap.size) (hi:i<n) (hk:k<n)
   (hord: ∀v,Below w.heap.size w v→Calls Tryz.prog h (#[.int .i64 (xs i), .int .i64 (xs k)]++lb) v fun e v'=> ∃c:Int,e= .returned (.int .i64 c)∧(c<0↔K)∧Below v.heap.size v v'):
   Calls Tryz.prog 245 #[.int .i64 i, .int .i64 k, .pointer (some ⟨bo,0,none⟩), .pointer (some ⟨bs,0,none⟩)] w fun e w'=> ∃c:Int,e= .returned (.int .i64 c)∧(c<0↔K)∧Below w.heap.size w w':=by
 have x0:=ci i hi
 have x1:=ci k hk
 obtain ⟨XSI,hxsi⟩: ∃zz,zz=xs i:=⟨_,rfl⟩
 obtain ⟨XSK,hxsk⟩: ∃zz,zz=xs k:=⟨_,rfl⟩
 rw [←hxsi] at x0
 rw [←hxsk] at x1
 try rw [←hxsi] at hord
 try rw [←hxsk] at hord
 have MK:Hid (∀v,BelowL w v→v.cell? ⟨bo,0,none⟩=some (.func (.func h) #[] lb)∧v.cell? ⟨bs,0,none⟩=some (.slice (some ⟨bi,0,none⟩) n n)∧v.cell? ⟨bi,i,none⟩=some (.int .i64 XSI)∧v.cell? ⟨bi,k,none⟩=some (.int .i64 XSK)∧BelowL w v):=Lib.hid (fun v hh=>⟨(hh.out.cell zo).trans co,(hh.out.cell zs).trans ck,(hh.out.cell zi).trans x0,(hh.out.cell zi).trans x1,hh⟩)
 have CC:Hid (∀v,BelowL w v→Calls Tryz.prog h (#[.int .i64 XSI, .int .i64 XSK]++lb) v fun e v'=> ∃c:Int,e= .returned (.int .i64 c)∧(c<0↔K)∧Below v.heap.size v v'):=Lib.hid (fun v hv=>hord v hv.out)
 have pi:(i:Int)<(n:Int):=by omega
 have pk:(k:Int)<(n:Int):=by omega
 clear hord ci hxsi hxsk
 go_enter Tryz.func245,Tryz.ntmps245
 go_wp2_with fail
 go_region_held3 (fun v=>v.cell? ⟨bo,0,none⟩=some (.func (.func h) #[] lb)∧v.cell? ⟨bs,0,none⟩=some (.slice (some ⟨bi,0,none⟩) n n)∧v.cell? ⟨bi,i,none⟩=some (.int .i64 XSI)∧v.cell? ⟨bi,k,none⟩=some (.int .i64 XSK)∧BelowL w v)
   (first | exact MK.out _ hb1 | exact MK.out _ (BelowL.start _))
   (first
     | (go_at_fn h;((with_reducible refine (CC.out _ (limb5 (by assumption))).mono ?_);rintro e v1 ⟨cc,rfl,hcc,hq1⟩;have hb1:=BelowL.call (limb5 (by assumption)) hq1)))
 have HC:=Lib.hid hcc
 have HBF:=Lib.hid hb1
 clear hcc hb1 MK CC
 go_wp2_with fail
 go_ret
 exact ⟨cc,rfl,HC.out,HBF.out.out⟩
set_option maxRecDepth 100000 in
set_option maxHeartbeats 1600000 in
theorem seqNum (h:Nat) (lb:Array Value) (bi n:Nat) (xs:Nat→Int) (key:Int→Int) (w:World) (eh: ∀args w,(callFunc h args).run Tryz.prog w= .ok (.enter h args) w) (hn:n≤100000) (hn0:0<n) (ci:(∀k,k<n→w.cell? ⟨bi,k,none⟩=some (.int .i64 (xs k)))) (zi:bi<w.heap.size)
   (hord: ∀v,Below w.heap.size w v→ ∀i k,i<n→k<n→Calls Tryz.prog h (#[.int .i64 (xs i), .int .i64 (xs k)]++lb) v fun e v'=> ∃c:Int,e= .returned (.int .i64 c)∧(c<0↔key i<key k)∧Below v.heap.size v v'):
   Calls Tryz.prog 200 #[.slice (some ⟨bi,0,none⟩) n n, .func (.func h) #[] lb] w fun e w'=> ∃(f:Nat→Int) (blk:Nat),e= .returned (.slice (some ⟨blk,0,none⟩) n n)∧w.heap.size≤blk∧Own w' blk n n (gen n f)∧Good key f 0 n∧Below w.heap.size w w':=by
 have CI:Aside _:=ci
 have OR:Aside _:=hord
 clear ci hord
 go_enter Tryz.func200,Tryz.ntmps200
 go_wp2_with (at_make;refine wp_make _ rfl _ _ rfl .i64 .i64 n n n rfl rfl rfl rfl (by omega) ?_;intro M hM)
 have HB0:=Lib.hid (bAlloc (bAlloc (Below.refl w.heap.size w) (.cells #[.slice (some ⟨bi,0,none⟩) n n] 25)) (.cells #[.func (.func h) #[] lb] 72))
 obtain ⟨wo,hwo⟩: ∃wo:World,wo=(w.alloc (.cells #[.slice (some ⟨bi,0,none⟩) n n] 25)).alloc (.cells #[.func (.func h) #[] lb] 72):=⟨_,rfl⟩
 have KS:Hid (Blk wo w.heap.size 25 #[.slice (some ⟨bi,0,none⟩) n n]):=Lib.hid (by rw [hwo];exact (Blk.new w _ _).alloc _)
 have KO:Hid (Blk wo (w.heap.size+1) 72 #[.func (.func h) #[] lb]):=Lib.hid (by rw [hwo];exact Blk.new' _ _ (by simp))
 have zw:wo.heap.size=w.heap.size+1+1:=by rw [hwo];simp
 try rw [←hwo] at hM
 rw [←hwo] at HB0⊢
 clear hwo
 have HM:Hid (Own (wo.alloc (.cells M 3)) (w.heap.size+1+1) n n (List.replicate n 0)):=Lib.hid (by have h:=hM.own wo;rw [zw] at h;exact h)
 have HMB:=Lib.hid (bAlloc (Below.refl wo.heap.size wo) (.cells M 3))
 clear hM
 have ZW:=Lib.hid zw
 clear zw
 go_wp2_with fail
 go_loopw [12] (fun i wr=> ∃k:Nat,k≤n∧i= .int .i64 k∧Hid (Own wr (w.heap.size+1+1) n n (filled (gen n (fun k=>(k:Int))) (List.replicate n 0) k))∧Hid (Below wo.heap.size wo wr)) (fun i _=>n - (intOf i).toNat)
 case atStart=>exact ⟨0,Nat.zero_le _,rfl,Lib.hid (by rw [filled_zero];exact HM.out),HMB⟩
 case round=>
   clear HM HMB
   obtain ⟨k,hk,rfl,ho,hg⟩:=hrel
   by_cases hlt:k<n
   · have h2:wr.cell? ⟨w.heap.size+1+1,k,none⟩=some (.int .i64 ((filled (gen n (fun k=>(k:Int))) (List.replicate n 0) k).getD k 0)):=ho.out.cell hlt
     have h3:wr.frozen? ⟨w.heap.size+1+1,k,none⟩=false:=ho.out.frozen k
     have hs:=ho.out.set k (k:Int)
     rw [filled_succ (gen n (fun k=>(k:Int))) _ k _ (by rw [gen_len];exact hlt) (by simp;omega) (gen_get _ _ _ hlt)] at hs
     have HS:=Lib.hid hs
     clear hs ho
     go_wp2_with fail
     go_roundw
     case rel=>exact ⟨k+1,by omega,by go_num,HS,Lib.hid (hg.out.setCell (by have:=ZW.out;show wo.heap.size≤w.heap.size+1+1;omega) _)⟩
     case measure=>simp [intOf];omega
   · obtain rfl:k=n:=by omega
     have HR:Hid (Own wr (w.heap.size+1+1) k k (gen k (fun k=>(k:Int)))):=Lib.hid (by have h:=ho.out;have e:=filled_all (gen k (fun k=>(k:Int))) (List.replicate k 0) (by simp [gen_len]);rw [gen_len] at e;rwa [e] at h)
     have HW:=Lib.hid (HB0.out.trans (hg.out.mono HB0.out.size))
     have KS2:=Lib.hid (KS.out.below hg.out KS.out.lt)
     have KO2:=Lib.hid (KO.out.below hg.out KO.out.lt)
     clear ho hg
     have CM:Hid (CmpN 245 #[.pointer (some ⟨w.heap.size+1,0,none⟩), .pointer (some ⟨w.heap.size,0,none⟩)] key (w.heap.size+1+1) k wr):=Lib.hid (by
       intro W hW x y x0 x1 y0 y1
       obtain ⟨i,rfl⟩: ∃i:Nat,x=i:=⟨x.toNat,by omega⟩
       obtain ⟨j,rfl⟩: ∃j:Nat,y=j:=⟨y.toNat,by omega⟩
       have zw:=ZW.out
       have zr:=HR.out.lt
       have o1:=KO2.out.grown hW (by intro e;have:=Option.some.inj e;omega)
       have s1:=KS2.out.grown hW (by intro e;have:=Option.some.inj e;omega)
       have wb:Below w.heap.size w W:=HW.out.grown hW (by omega) (by intro k hk;cases hk;omega)
       have hh:=seqNumC h lb (w.heap.size+1) w.heap.size bi k i j xs (key i<key j) W eh (by rw [o1.cell];rfl) (by rw [s1.cell];rfl) (fun t ht=>(wb.cell (p:=⟨bi,t,none⟩) zi).trans (CI.out t ht)) o1.lt s1.lt (Nat.lt_of_lt_of_le zi wb.size) (by omega) (by omega) (fun v hv=>OR.out v (wb.trans (hv.mono wb.size)) i j (by omega) (by omega))
       exact hh)
     have EG:Hid (∀args w,(callFunc 245 args).run Tryz.prog w= .ok (.enter 245 args) w):=Lib.hid (enters5 _ _ _ Tryz.func245 (by kernel_rfl) rfl)
     go_wp2_with fail
     refine (sortStable5 245 _ key (w.heap.size+1+1) k _ EG.out CM.out HR.out hn hn0).mono ?_
     rintro ex w2 ⟨f,rfl,ho,hg,hi⟩
     have HR2:=Lib.hid ho
     have HI2:=Lib.hid hi
     have HW2:=Lib.hid (HW.out.grown hg (by have:=HR.out.lt;have:=ZW.out;omega) (by intro k hk;cases hk;have:=ZW.out;omega))
     clear ho hg hi
     go_wp2_with fail
     go_ret
     exact ⟨f,_,rfl,by have:=ZW.out;omega,HR2.out,HI2.out,HW2.out⟩
def ranksL (key:Int→Int) (n:Nat):List Int:=gen n (fun i=>(placeC key (i:Int) n:Int))
theorem put_row {W:World} {blk n cap:Nat} {F:Nat→Int} (h:Own W blk n cap (gen n F)) {t:Nat} (ht:t<n) (v:Int):Own (W.setCell ⟨blk,t,none⟩ (.int .i64 v)) blk n cap (gen n (fun i=>if i=t then v else F i)):=by
 have h1:=h.set t v
 rwa [gen_set n F (fun i=>if i=t then v else F i) t v ht (by simp) (fun i _ hi=>by simp [hi])] at h1
theorem zero_row {W:World} {blk n cap:Nat} (h:Own W blk n cap (List.replicate n 0)):Own W blk n cap (gen n (fun _=>0)):=by
 have e:List.replicate n (0:Int)=gen n (fun _=>0):=gen_ext n _ _ (by simp) (fun k hk=>by simp [List.getD,hk])
 rwa [e] at h
set_option maxRecDepth 100000 in
set_option maxHeartbeats 1600000 in
theorem placesIn5 (key:Int→Int) (f:Nat→Int) (blk n:Nat) (w:World) (ho:Own w blk n n (gen n f)) (hg:Good key f 0 n) (hn:n≤100000):
   Calls Tryz.prog 199 #[.slice (some ⟨blk,0,none⟩) n n] w fun e w'=> ∃nb:Nat,e= .returned (.slice (some ⟨nb,0,none⟩) n n)∧w.heap.size≤nb∧Own w' nb n n (ranksL key n)∧Below w.heap.size w w':=by
 have HO:=Lib.hid ho
 have HG:=Lib.hid hg
 clear ho hg
 go_enter Tryz.func199,Tryz.ntmps199
 go_wp2_with (at_make;refine wp_make _ rfl _ _ rfl .i64 .i64 n n n rfl rfl rfl rfl (by omega) ?_;intro M hM)
 have HM:=Lib.hid (zero_row (hM.own w))
 clear hM
 go_wp2_with fail
 go_loopw [11] (fun i wr=> ∃(k:Nat) (F:Nat→Int),k≤n∧i= .int .i64 k∧Hid (Own wr w.heap.size n n (gen n F))∧Hid (∀j,j<k→F (f j).toNat=(j:Int))∧Hid (Below w.heap.size w wr)) (fun i _=>n - (intOf i).toNat)
 case atStart=>exact ⟨0,_,Nat.zero_le _,rfl,HM,Lib.hid (fun j hj=>by omega),Lib.hid (bAlloc (Below.refl _ _) _)⟩
 case round=>
   clear HM
   obtain ⟨k,F,hk,rfl,HR,HF,HB⟩:=hrel
   by_cases hlt:k<n
   · obtain ⟨t,ht⟩: ∃t:Nat,f k=(t:Int):=⟨(f k).toNat,by have:=HG.out.2 k (Nat.zero_le _) hlt;omega⟩
     have tn:t<n:=by have:=HG.out.2 k (Nat.zero_le _) hlt;omega
     have c0:=own_c (HO.out.below HB.out HO.out.lt) hlt
     rw [ht] at c0
     have c1:=own_c HR.out tn
     have f1:=HR.out.frozen t
     have HP:=Lib.hid (put_row HR.out tn (k:Int))
     have HF2:Hid (∀j,j<k+1→(fun i=>if i=t then (k:Int) else F i) (f j).toNat=(j:Int)):=Lib.hid (by
       intro j hj
       by_cases e:j=k
       · subst e;simp [ht]
       · have h1:=HG.out.2 j (Nat.zero_le _) (by omega)
         have hne:(f j).toNat≠t:=by
           intro e2
           have e3:f j=f k:=by rw [ht];omega
           have:=HG.out.1 j k (Nat.zero_le _) (by omega) hlt
           rw [e3] at this
           exact RL.irrefl this
         simp only [hne,if_false]
         exact HF.out j (by omega))
     have tn2:(t:Int)<(n:Int):=by omega
     clear ht
     go_wp2_with fail
     go_roundw
     case rel=>exact ⟨k+1,_,by omega,by go_num,HP,HF2,Lib.hid (HB.out.setCell (Nat.le_refl _) _)⟩
     case measure=>simp [intOf];omega
   · obtain rfl:k=n:=by omega
     have HE:Hid (gen k F=ranksL key k):=Lib.hid (gen_congr (fun i hi=>places_of HG.out HF.out i hi))
     go_wp2_with fail
     go_ret
     exact ⟨w.heap.size,rfl,Nat.le_refl _,by rw [←HE.out];exact HR.out,HB.out⟩
theorem infoCell5:(Tryz.prog.info? 191).map (fun i=>(i.zero,i.size,i.bytes))=some (some (zeros 2),2,16):=by kernel_rfl
def nearK (A B d:Int) (i:Int):Int:=nearF A B (i % d) (i/d)
theorem getD_set2 {xs:List Int} {i:Nat} (v:Int) (h:i<xs.length):(xs.set i v).getD i 0=v:=by simp [List.getD,h]
theorem getD_set3 {xs:List Int} {i j:Nat} (v:Int) (h:i≠j):(xs.set i v).getD j 0=xs.getD j 0:=by simp [List.getD,List.getElem?_set,h]
set_option maxRecDepth 100000 in
set_option maxHeartbeats 1600000 in
theorem impl_SpotRanks_yes {A B d:Int} {N:Nat} {g a b p q:Int} (L:Lat A B (N:Int) g d a b p q) (w:World):
   Calls Tryz.prog 242 #[.agg #[.int .i64 A, .int .i64 B]] w fun e w'=> ∃nb:Nat,e= .returned (.slice (some ⟨nb,0,none⟩) N N)∧w.heap.size≤nb∧Own w' nb N N (ranksL (nearK A B d) N)∧Below w.heap.size w w':=by
 have n1:=L.n1;have n2:=L.n2;have d1:=L.w1;have d2:=L.w2
 have N1:0<N:=by omega
 have N2:N≤288:=by omega
 have HL:=Lib.hid L
 clear L
 go_enter Tryz.func242,Tryz.ntmps242
 go_wp2_with fail
 refine (impl_IsLattice _ _ _).mono ?_
 rw [lat_ok HL.out]
 rintro e w1 ⟨rfl,hb⟩
 have HB1:=Lib.hid (bTrans (Joins.below_alloc1 _ _) hb)
 have KB1:=Lib.hid ((Blk.new w 139 #[.int .i64 A, .int .i64 B]).below' hb)
 obtain ⟨z,c0,c1⟩:=KB1.out.c2
 clear hb
 go_wp2_with fail
 refine (impl_AreaOf_yes HL.out _).mono ?_
 rintro e w2 ⟨rfl,hb⟩
 have HB2:=Lib.hid (bTrans HB1.out hb)
 have KB2:=Lib.hid (KB1.out.below' hb)
 clear hb z c0 c1
 go_wp2_with (at_make;refine wp_makeT _ rfl 255 191 2 16 Tryz.underlying255 infoCell5 (by decide) (by decide) _ _ rfl .i64 .i64 N N N rfl rfl rfl rfl (by omega) ?_;intro w3 hr hb)
 have HB3:=Lib.hid (bTrans HB2.out hb)
 have KB3:=Lib.hid (KB2.out.below' hb)
 have HR0:=Lib.hid hr
 have zb:w.heap.size<w2.heap.size:=KB2.out.lt
 have zb2:w.heap.size≤w2.heap.size:=by omega
 clear hr hb
 go_wp2_with fail
 go_loopw [14] (fun i wr=> ∃(k:Nat) (xs:List Int),k≤N∧i= .int .i64 k∧Hid (RowT wr 191 2 w2.heap.size N N xs)∧Hid (∀j,j<k→xs.getD (j*2) 0=(j:Int) % d∧xs.getD (j*2+1) 0=(j:Int)/d)∧Hid (Blk wr w.heap.size 139 #[.int .i64 A, .int .i64 B])∧Hid (Below w.heap.size w wr)) (fun i _=>N - (intOf i).toNat)
 case atStart=>exact ⟨0,_,Nat.zero_le _,rfl,HR0,Lib.hid (fun j hj=>by omega),KB3,HB3⟩
 case round=>
   clear HR0 KB3 HB3
   obtain ⟨k,xs,hk,rfl,HR,HX,KB,HB⟩:=hrel
   obtain ⟨z,c0,c1⟩:=KB.out.c2
   by_cases hlt:k<N
   · obtain ⟨U,hU⟩: ∃U,(k:Int) % d=U:=⟨_,rfl⟩
     obtain ⟨V,hV⟩: ∃V,(k:Int)/d=V:=⟨_,rfl⟩
     have HU:=Lib.hid hU
     have HV:=Lib.hid hV
     clear hU hV
     have kn:(k:Int)<(N:Int):=by omega
     go_wp2_with fail
     refine (impl_PointOf_yes HL.out (k:Int) (by omega) (by omega) _).mono ?_
     rw [HU.out,HV.out]
     rintro e w4 ⟨rfl,hb⟩
     have HB4:=Lib.hid (bTrans HB.out hb)
     have KB4:=Lib.hid (KB.out.below' hb)
     have HR4:=Lib.hid (HR.out.below hb HR.out.lt)
     clear z c0 c1 hb
     have g0:=HR4.out.cell (j:=k*2) (by omega)
     have g1:=HR4.out.cell (j:=k*2+1) (by omega)
     have f0:=HR4.out.frozen (k*2)
     have f1:=HR4.out.frozen (k*2+1)
     have HR5:=Lib.hid ((HR4.out.set (k*2) U).set (k*2+1) V)
     have HX5:Hid (∀j,j<k+1→((xs.set (k*2) U).set (k*2+1) V).getD (j*2) 0=(j:Int) % d∧((xs.set (k*2) U).set (k*2+1) V).getD (j*2+1) 0=(j:Int)/d):=Lib.hid (by
       intro j hj
       have hl:=HR4.out.len
       by_cases e:j=k
       · subst e
         rw [HU.out,HV.out]
         exact ⟨by rw [getD_set3 V (by omega),getD_set2 U (by omega)],by rw [getD_set2 V (by simp;omega)]⟩
       · rw [getD_set3 V (by omega),getD_set3 U (by omega),getD_set3 V (by omega),getD_set3 U (by omega)]
         exact HX.out j (by omega))
     have KB5:=Lib.hid ((KB4.out.other (a:=⟨w2.heap.size,k*2,none⟩) (by simp;omega) (.int .i64 U)).other (a:=⟨w2.heap.size,k*2+1,none⟩) (by simp;omega) (.int .i64 V))
     have HB5:=Lib.hid ((HB4.out.setCell (p:=⟨w2.heap.size,k*2,none⟩) (by exact zb2) (.int .i64 U)).setCell (p:=⟨w2.heap.size,k*2+1,none⟩) (by exact zb2) (.int .i64 V))
     go_wp2_with fail
     go_roundw
     case rel=>exact ⟨k+1,_,by omega,by go_num,HR5,HX5,KB5,HB5⟩
     case measure=>simp [intOf];omega
   · obtain rfl:k=N:=by omega
     have EG:Hid (∀args w,(callFunc 277 args).run Tryz.prog w= .ok (.enter 277 args) w):=Lib.hid (enters5 _ _ _ Tryz.func277 (by kernel_rfl) rfl)
     have OR:Hid (∀v,Below wr.heap.size wr v→ ∀i j:Nat,i<k→j<k→Calls Tryz.prog 277 (#[.agg #[.int .i64 ((i:Int) % d), .int .i64 ((i:Int)/d)], .agg #[.int .i64 ((j:Int) % d), .int .i64 ((j:Int)/d)]]++#[.pointer (some ⟨w.heap.size,0,none⟩)]) v fun e v'=> ∃c:Int,e= .returned (.int .i64 c)∧(c<0↔nearK A B d (i:Int)<nearK A B d (j:Int))∧Below v.heap.size v v'):=Lib.hid (fun v hv i j hi hj=>by
       have kb:=KB.out.below' hv
       obtain ⟨z,c0,c1⟩:=kb.c2
       exact nearOrd HL.out _ _ _ _ w.heap.size v z c0 c1)
     have CI:Hid (∀t,t<k→wr.cell? ⟨w2.heap.size,t*2,none⟩=some (.int .i64 ((t:Int) % d))∧wr.cell? ⟨w2.heap.size,t*2+1,none⟩=some (.int .i64 ((t:Int)/d))):=Lib.hid (fun t ht=>by
       have h1:=HR.out.cell (j:=t*2) (by omega)
       have h2:=HR.out.cell (j:=t*2+1) (by omega)
       rw [(HX.out t ht).1] at h1
       rw [(HX.out t ht).2] at h2
       exact ⟨h1,h2⟩)
     have ZI:=Lib.hid HR.out.lt
     go_wp2_with fail
     refine (seqCell 277 #[.pointer (some ⟨w.heap.size,0,none⟩)] w2.heap.size k (fun t=>(t:Int) % d) (fun t=>(t:Int)/d) (nearK A B d) _ EG.out (by omega) N1 CI.out ZI.out OR.out).mono ?_
     rintro e w5 ⟨f,blk,rfl,hbl,ho,hg,hb⟩
     have HB6:=Lib.hid (bTrans HB.out hb)
     have HO6:=Lib.hid ho
     have HG6:=Lib.hid hg
     clear hbl ho hg hb
     go_wp2_with fail
     refine (placesIn5 (nearK A B d) f blk k _ HO6.out HG6.out (by omega)).mono ?_
     rintro e w6 ⟨nb,rfl,hnb,ho,hb⟩
     have HB7:=Lib.hid (bTrans HB6.out hb)
     have HO7:=Lib.hid ho
     have HN7:=Lib.hid (Nat.le_trans HB6.out.size hnb)
     clear hnb ho hb
     go_wp2_with fail
     go_ret
     exact ⟨nb,rfl,HN7.out,HO7.out,HB7.out⟩
end Go.Proofs.YtmikajnpgcabfaaGreatDoor
