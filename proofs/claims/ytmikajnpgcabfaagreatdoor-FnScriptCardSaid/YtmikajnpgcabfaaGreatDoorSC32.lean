/-
  Contracts and plain facts on which the theorem of this claim rests, text 32.
-/
import Derived.Deep.Cut
import Derived.Deep.RegionHeld3
import Derived.Shelf.Abstract
import Derived.Test.YtmikajnpgcabfaaGreatDoorSC4
import Derived.Test.YtmikajnpgcabfaaGreatDoorSC5
import Derived.Test.YtmikajnpgcabfaaGreatDoorSC6
import Derived.Test.YtmikajnpgcabfaaGreatDoorSC7
import Derived.Test.YtmikajnpgcabfaaGreatDoorSC12
import Derived.Test.YtmikajnpgcabfaaGreatDoorSC25
namespace Go.Proofs.YtmikajnpgcabfaaGreatDoor
open Go.RowKit
set_option linter.unusedVariables false
set_option linter.unusedSimpArgs false
theorem enters6 (f:Nat) (fn:Func) (c:Code) (hf:Tryz.prog.funcs[f]?=some fn) (hname:(fn.name== "runtime.NumGoroutine")=false) (hb:fn.body=some c): ∀args w,(callFunc f args).run Tryz.prog w= .ok (.enter f args) w:=enters_of hf hname hb
theorem isNaN6 (x:Int) (w:World):
   Calls Tryz.prog 246 #[.int .i64 x] w fun e w'=>e= .returned (.bool false)∧w=w':=by
 have h:(x !=x)=false:=by simp
 go_enter Tryz.func246,Tryz.ntmps246
 go_wp2_with fail
 go_ret
 exact ⟨rfl,rfl⟩
set_option maxHeartbeats 800000 in
theorem cmp6 (x y:Int) (w:World):
   Calls Tryz.prog 201 #[.int .i64 x, .int .i64 y] w fun e w'=> ∃c:Int,e= .returned (.int .i64 c)∧(c<0↔x<y)∧w=w':=by
 go_enter Tryz.func201,Tryz.ntmps201
 go_wp2_with fail
 refine (isNaN6 _ _).mono ?_
 rintro e w1 ⟨rfl,rfl⟩
 go_wp2_with fail
 refine (isNaN6 _ _).mono ?_
 rintro e w1 ⟨rfl,rfl⟩
 by_cases h1:x<y
 · go_wp2_with fail
   go_ret
   exact ⟨-1,rfl,by constructor <;>intro <;>omega,rfl⟩
 · by_cases h2:y<x
   · go_wp2_with fail
     go_ret
     exact ⟨1,rfl,by constructor <;>intro <;>omega,rfl⟩
   · go_wp2_with fail
     go_ret
     exact ⟨0,rfl,by constructor <;>intro <;>omega,rfl⟩
set_option maxRecDepth 100000 in
set_option maxHeartbeats 1600000 in
theorem seqC6 (h:Nat) (lb:Array Value) (bo bs bi n cp i k:Nat) (xs:Nat→Int) (K:Prop) (w:World) (eh: ∀args w,(callFunc h args).run Tryz.prog w= .ok (.enter h args) w)
   (co:w.cell? ⟨bo,0,none⟩=some (.func (.func h) #[] lb)) (ck:w.cell? ⟨bs,0,none⟩=some (.slice (some ⟨bi,0,none⟩) n cp)) (ci:(∀k,k<n→w.cell? ⟨bi,k,none⟩=some (.int .i64 (xs k)))) (zo:bo<w.heap.size) (zs:bs<w.heap.size) (zi:bi<w.heap.size) (hi:i<n) (hk:k<n)
   (hord: ∀v,Below w.heap.size w v→Calls Tryz.prog h (#[.int .i64 (xs i), .int .i64 (xs k)]++lb) v fun e v'=> ∃c:Int,e= .returned (.int .i64 c)∧(c<0↔K)∧Below v.heap.size v v'):
   Calls Tryz.prog 245 #[.int .i64 i, .int .i64 k, .pointer (some ⟨bo,0,none⟩), .pointer (some ⟨bs,0,none⟩)] w fun e w'=> ∃c:Int,e= .returned (.int .i64 c)∧(c<0↔K)∧Below w.heap.size w w':=by
 have x0:=ci i hi
 have x1:=ci k hk
 obtain ⟨XSI,hxsi⟩: ∃zz,zz=xs i:=⟨_,rfl⟩
 obtain ⟨XSK,hxsk⟩: ∃zz,zz=xs k:=⟨_,rfl⟩
 rw [←hxsi] at x0
 rw [←hxsk] at x1
 try rw [←hxsi] at hord
 try rw [←hxsk] at hord
 have MK:Hid (∀v,BelowL w v→v.cell? ⟨bo,0,none⟩=some (.func (.func h) #[] lb)∧v.cell? ⟨bs,0,none⟩=some (.slice (some ⟨bi,0,none⟩) n cp)∧v.cell? ⟨bi,i,none⟩=some (.int .i64 XSI)∧v.cell? ⟨bi,k,none⟩=some (.int .i64 XSK)∧BelowL w v):=Lib.hid (fun v hh=>⟨(hh.out.cell zo).trans co,(hh.out.cell zs).trans ck,(hh.out.cell zi).trans x0,(hh.out.cell zi).trans x1,hh⟩)
 have CC:Hid (∀v,BelowL w v→Calls Tryz.prog h (#[.int .i64 XSI, .int .i64 XSK]++lb) v fun e v'=> ∃c:Int,e= .returned (.int .i64 c)∧(c<0↔K)∧Below v.heap.size v v'):=Lib.hid (fun v hv=>hord v hv.out)
 have pi:(i:Int)<(n:Int):=by omega
 have pk:(k:Int)<(n:Int):=by omega
 clear hord ci hxsi hxsk
 go_enter Tryz.func245,Tryz.ntmps245
 go_wp2_with fail
 go_region_held3 (fun v=>v.cell? ⟨bo,0,none⟩=some (.func (.func h) #[] lb)∧v.cell? ⟨bs,0,none⟩=some (.slice (some ⟨bi,0,none⟩) n cp)∧v.cell? ⟨bi,i,none⟩=some (.int .i64 XSI)∧v.cell? ⟨bi,k,none⟩=some (.int .i64 XSK)∧BelowL w v)
   (first | exact MK.out _ hb1 | exact MK.out _ (BelowL.start _))
   (first
     | (go_at_fn h;((with_reducible refine (CC.out _ (limb5 (by assumption))).mono ?_);rintro e v1 ⟨cc,rfl,hcc,hq1⟩;have hb1:=BelowL.call (limb5 (by assumption)) hq1)))
 have HC:=Lib.hid hcc
 have HBF:=Lib.hid hb1
 clear hcc hb1 MK CC
 go_wp2_with fail
 go_ret
 exact ⟨cc,rfl,HC.out,HBF.out.out⟩
set_option maxRecDepth 100000 in
set_option maxHeartbeats 1600000 in
theorem seq6 (h:Nat) (lb:Array Value) (bi n cp:Nat) (xs:Nat→Int) (key:Int→Int) (w:World) (eh: ∀args w,(callFunc h args).run Tryz.prog w= .ok (.enter h args) w) (hn:n≤100000) (hn0:0<n) (ci:(∀k,k<n→w.cell? ⟨bi,k,none⟩=some (.int .i64 (xs k)))) (zi:bi<w.heap.size)
   (hord: ∀v,Below w.heap.size w v→ ∀i k,i<n→k<n→Calls Tryz.prog h (#[.int .i64 (xs i), .int .i64 (xs k)]++lb) v fun e v'=> ∃c:Int,e= .returned (.int .i64 c)∧(c<0↔key i<key k)∧Below v.heap.size v v'):
   Calls Tryz.prog 200 #[.slice (some ⟨bi,0,none⟩) n cp, .func (.func h) #[] lb] w fun e w'=> ∃(f:Nat→Int) (blk:Nat),e= .returned (.slice (some ⟨blk,0,none⟩) n n)∧w.heap.size≤blk∧Own w' blk n n (gen n f)∧Good key f 0 n∧Below w.heap.size w w':=by
 have CI:Aside _:=ci
 have OR:Aside _:=hord
 clear ci hord
 go_enter Tryz.func200,Tryz.ntmps200
 go_wp2_with (at_make;refine wp_make _ rfl _ _ rfl .i64 .i64 n n n rfl rfl rfl rfl (by omega) ?_;intro M hM)
 have HB0:=Lib.hid (bAlloc (bAlloc (Below.refl w.heap.size w) (.cells #[.slice (some ⟨bi,0,none⟩) n cp] 25)) (.cells #[.func (.func h) #[] lb] 72))
 obtain ⟨wo,hwo⟩: ∃wo:World,wo=(w.alloc (.cells #[.slice (some ⟨bi,0,none⟩) n cp] 25)).alloc (.cells #[.func (.func h) #[] lb] 72):=⟨_,rfl⟩
 have KS:Hid (Blk wo w.heap.size 25 #[.slice (some ⟨bi,0,none⟩) n cp]):=Lib.hid (by rw [hwo];exact (Blk.new w _ _).alloc _)
 have KO:Hid (Blk wo (w.heap.size+1) 72 #[.func (.func h) #[] lb]):=Lib.hid (by rw [hwo];exact Blk.new' _ _ (by simp))
 have zw:wo.heap.size=w.heap.size+1+1:=by rw [hwo];simp
 try rw [←hwo] at hM
 rw [←hwo] at HB0⊢
 clear hwo
 have HM:Hid (Own (wo.alloc (.cells M 3)) (w.heap.size+1+1) n n (List.replicate n 0)):=Lib.hid (by have h:=hM.own wo;rw [zw] at h;exact h)
 have HMB:=Lib.hid (bAlloc (Below.refl wo.heap.size wo) (.cells M 3))
 clear hM
 have ZW:=Lib.hid zw
 clear zw
 go_wp2_with fail
 go_loopw [12] (fun i wr=> ∃k:Nat,k≤n∧i= .int .i64 k∧Hid (Own wr (w.heap.size+1+1) n n (filled (gen n (fun k=>(k:Int))) (List.replicate n 0) k))∧Hid (Below wo.heap.size wo wr)) (fun i _=>n - (intOf i).toNat)
 case atStart=>exact ⟨0,Nat.zero_le _,rfl,Lib.hid (by rw [filled_zero];exact HM.out),HMB⟩
 case round=>
   clear HM HMB
   obtain ⟨k,hk,rfl,ho,hg⟩:=hrel
   by_cases hlt:k<n
   · have h2:wr.cell? ⟨w.heap.size+1+1,k,none⟩=some (.int .i64 ((filled (gen n (fun k=>(k:Int))) (List.replicate n 0) k).getD k 0)):=ho.out.cell hlt
     have h3:wr.frozen? ⟨w.heap.size+1+1,k,none⟩=false:=ho.out.frozen k
     have hs:=ho.out.set k (k:Int)
     rw [filled_succ (gen n (fun k=>(k:Int))) _ k _ (by rw [gen_len];exact hlt) (by simp;omega) (gen_get _ _ _ hlt)] at hs
     have HS:=Lib.hid hs
     clear hs ho
     go_wp2_with fail
     go_roundw
     case rel=>exact ⟨k+1,by omega,by go_num,HS,Lib.hid (hg.out.setCell (by have:=ZW.out;show wo.heap.size≤w.heap.size+1+1;omega) _)⟩
     case measure=>simp [intOf];omega
   · obtain rfl:k=n:=by omega
     have HR:Hid (Own wr (w.heap.size+1+1) k k (gen k (fun k=>(k:Int)))):=Lib.hid (by have h:=ho.out;have e:=filled_all (gen k (fun k=>(k:Int))) (List.replicate k 0) (by simp [gen_len]);rw [gen_len] at e;rwa [e] at h)
     have HW:=Lib.hid (HB0.out.trans (hg.out.mono HB0.out.size))
     have KS2:=Lib.hid (KS.out.below hg.out KS.out.lt)
     have KO2:=Lib.hid (KO.out.below hg.out KO.out.lt)
     clear ho hg
     have CM:Hid (CmpN 245 #[.pointer (some ⟨w.heap.size+1,0,none⟩), .pointer (some ⟨w.heap.size,0,none⟩)] key (w.heap.size+1+1) k wr):=Lib.hid (by
       intro W hW x y x0 x1 y0 y1
       obtain ⟨i,rfl⟩: ∃i:Nat,x=i:=⟨x.toNat,by omega⟩
       obtain ⟨j,rfl⟩: ∃j:Nat,y=j:=⟨y.toNat,by omega⟩
       have zw:=ZW.out
       have zr:=HR.out.lt
       have o1:=KO2.out.grown hW (by intro e;have:=Option.some.inj e;omega)
       have s1:=KS2.out.grown hW (by intro e;have:=Option.some.inj e;omega)
       have wb:Below w.heap.size w W:=HW.out.grown hW (by omega) (by intro k hk;cases hk;omega)
       have hh:=seqC6 h lb (w.heap.size+1) w.heap.size bi k cp i j xs (key i<key j) W eh (by rw [o1.cell];rfl) (by rw [s1.cell];rfl) (fun t ht=>(wb.cell (p:=⟨bi,t,none⟩) zi).trans (CI.out t ht)) o1.lt s1.lt (Nat.lt_of_lt_of_le zi wb.size) (by omega) (by omega) (fun v hv=>OR.out v (wb.trans (hv.mono wb.size)) i j (by omega) (by omega))
       exact hh)
     have EG:Hid (∀args w,(callFunc 245 args).run Tryz.prog w= .ok (.enter 245 args) w):=Lib.hid (enters6 _ _ _ Tryz.func245 (by kernel_rfl) rfl)
     go_wp2_with fail
     refine (sortStable5 245 _ key (w.heap.size+1+1) k _ EG.out CM.out HR.out hn hn0).mono ?_
     rintro ex w2 ⟨f,rfl,ho,hg,hi⟩
     have HR2:=Lib.hid ho
     have HI2:=Lib.hid hi
     have HW2:=Lib.hid (HW.out.grown hg (by have:=HR.out.lt;have:=ZW.out;omega) (by intro k hk;cases hk;have:=ZW.out;omega))
     clear ho hg hi
     go_wp2_with fail
     go_ret
     exact ⟨f,_,rfl,by have:=ZW.out;omega,HR2.out,HI2.out,HW2.out⟩
def placesTo (xs:List Int) (v:Int) (k:Nat):List Int:=((List.range k).filter (fun i=>decide (xs.getD i 0=v))).map (fun (i:Nat)=>(i:Int))
theorem places_yes {xs:List Int} {v:Int} {k:Nat} (h:xs.getD k 0=v):placesTo xs v (k+1)=placesTo xs v k++ [(k:Int)]:=by
 unfold placesTo
 rw [List.range_succ,List.filter_append]
 simp [List.getD] at h⊢
 simp [h]
theorem places_no {xs:List Int} {v:Int} {k:Nat} (h: ¬xs.getD k 0=v):placesTo xs v (k+1)=placesTo xs v k:=by
 unfold placesTo
 rw [List.range_succ,List.filter_append]
 simp [List.getD] at h⊢
 simp [h]
theorem places_len (xs:List Int) (v:Int) (k:Nat):(placesTo xs v k).length≤k:=by
 unfold placesTo
 have:=List.length_filter_le (fun i=>decide (xs.getD i 0=v)) (List.range k)
 simpa using this
theorem places_mem {xs:List Int} {v:Int} {k:Nat} {x:Int}:x ∈ placesTo xs v k↔ ∃i:Nat,x=i∧i<k∧xs.getD i 0=v:=by
 unfold placesTo
 simp only [List.mem_map,List.mem_filter,List.mem_range,decide_eq_true_eq]
 constructor
 · rintro ⟨i,⟨h1,h2⟩,rfl⟩;exact ⟨i,rfl,h1,h2⟩
 · rintro ⟨i,rfl,h1,h2⟩;exact ⟨i,⟨h1,h2⟩,rfl⟩
theorem places_at {xs:List Int} {v:Int} {k j:Nat} (h:j<(placesTo xs v k).length): ∃i:Nat,(placesTo xs v k).getD j 0=(i:Int)∧i<k∧xs.getD i 0=v:=by
 have hm:(placesTo xs v k).getD j 0 ∈ placesTo xs v k:=by
   simp [List.getD,List.getElem?_eq_getElem h]
 exact places_mem.1 hm
theorem places_up (xs:List Int) (v:Int) (k:Nat):(placesTo xs v k).Pairwise (·<·):=by
 unfold placesTo
 rw [List.pairwise_map]
 exact (List.Pairwise.filter _ (List.pairwise_lt_range)).imp (fun h=>by omega)
theorem places_lt {xs:List Int} {v:Int} {k i j:Nat} (h:i<j) (hj:j<(placesTo xs v k).length):(placesTo xs v k).getD i 0<(placesTo xs v k).getD j 0:=by
 have hp:=List.pairwise_iff_getElem.1 (places_up xs v k) i j (by omega) hj h
 simpa [List.getD,List.getElem?_eq_getElem hj,List.getElem?_eq_getElem (show i<(placesTo xs v k).length by omega)] using hp
theorem places_on {xs:List Int} {v:Int} {k i:Nat} (h1:i<k) (h2:xs.getD i 0=v): ∃j,j<(placesTo xs v k).length∧(placesTo xs v k).getD j 0=(i:Int):=by
 obtain ⟨j,hj,e⟩:=List.mem_iff_getElem.1 (places_mem.2 ⟨i,rfl,h1,h2⟩)
 exact ⟨j,hj,by simp [List.getD,List.getElem?_eq_getElem hj,e]⟩
theorem sorted_best {xs:List Int} {v:Int} {n:Nat} {c:Nat→Int} {f:Nat→Int} {d:Nat} (hd:(placesTo xs v n).length=d) (h0:0<d)
   (hg:Good (fun t=>c ((placesTo xs v n).getD t.toNat 0).toNat) f 0 d):BestIs n xs v c ((placesTo xs v n).getD (f 0).toNat 0):=by
 have hv: ∀k,k<d→(0:Int)≤f k∧f k<d:=fun k hk=>by have:=hg.2 k (Nat.zero_le _) hk;omega
 have f0:=hv 0 h0
 obtain ⟨i,e1,e2,e3⟩:=places_at (xs:=xs) (v:=v) (k:=n) (j:=(f 0).toNat) (by omega)
 refine Or.inr ⟨i,e1,e2,e3,fun j hj hjv=>?_⟩
 obtain ⟨q,q1,q2⟩:=places_on hj hjv
 obtain ⟨p,p1,p2⟩:=place_onto (i:=q) hg (by omega)
 have key0:c ((placesTo xs v n).getD (f 0).toNat 0).toNat=c i:=by rw [e1];rfl
 have keyp:c ((placesTo xs v n).getD (f p).toNat 0).toNat=c j:=by rw [p2,Int.toNat_natCast,q2];rfl
 by_cases hp:p=0
 · subst hp
   have:i=j:=by
     rw [p2,Int.toNat_natCast,q2] at e1
     omega
   subst this
   exact ⟨Int.le_refl _,fun h=>by omega⟩
 · have hr:=hg.1 0 p (Nat.le_refl _) (by omega) p1
   unfold RL at hr
   simp only [key0,keyp] at hr
   refine ⟨by omega,fun hji=>?_⟩
   rcases hr with h | ⟨h,hlt⟩
   · exact h
   · exfalso
     have:=places_lt (xs:=xs) (v:=v) (k:=n) (i:=(f 0).toNat) (j:=(f p).toNat) (by have:=hv p p1;omega) (by have:=hv p p1;omega)
     rw [e1,p2,Int.toNat_natCast,q2] at this
     omega
set_option maxHeartbeats 400000 in
theorem impl_shorterWay (a b n:Int) (w:World) (h1:1≤n) (h2:n≤256) (h3:0≤a) (h4:a≤256) (h5:0≤b) (h6:b≤256):
   Calls Tryz.prog 316 #[.int .i64 a, .int .i64 b, .int .i64 n] w fun e w'=>e= .returned (.int .i64 (wayG (b - a) n))∧w=w':=by
 have b1:=Int.emod_nonneg (b - a) (show n≠0 by omega)
 have b2:=Int.emod_lt_of_pos (b - a) (show 0<n by omega)
 go_enter Tryz.func316,Tryz.ntmps316
 go_wp2_with fail
 refine (impl_remainder _ _ _ h1 (by omega)).mono ?_
 rintro e w2 ⟨rfl,rfl⟩
 go_wp2_with fail
 all_goals (go_ret;exact ⟨ret_int (by unfold wayG;omega),rfl⟩)
theorem place_bd {W H:Int} {n i:Nat} (hW:1≤W) (hW2:W≤256) (hn:(n:Int)=W*H) (hn2:n≤256) (hi:i<n): ∃P Q:Int,(i:Int) % W=P∧(i:Int)/W=Q∧(i:Int).tmod W=P∧(i:Int).tdiv W=Q∧0≤P∧P≤255∧0≤Q∧Q≤255:=by
 refine ⟨_,_,rfl,rfl,Int.tmod_eq_emod_of_nonneg (by omega),Int.tdiv_eq_ediv_of_nonneg (by omega),Int.emod_nonneg _ (by omega),?_,Int.ediv_nonneg (by omega) (by omega),?_⟩
 · have:=Int.emod_lt_of_pos (i:Int) (show 0<W by omega);omega
 · have:=Int.ediv_le_self (b:=W) (show 0≤(i:Int) by omega);omega
set_option maxHeartbeats 800000 in
theorem impl_torusSquare (W H:Int) (n i k:Nat) (w:World) (hW:1≤W) (hW2:W≤256) (hH:1≤H) (hH2:H≤256) (hn:(n:Int)=W*H) (hn2:n≤256) (hi:i<n) (hk:k<n):
   Calls Tryz.prog 303 #[.int .i64 W, .int .i64 H, .agg #[.int .i64 ((i:Int) % W), .int .i64 ((i:Int)/W)], .agg #[.int .i64 ((k:Int) % W), .int .i64 ((k:Int)/W)]] w fun e w'=>e= .returned (.int .i64 (farG W H i k))∧Below w.heap.size w w':=by
 rw [farG_symm hW hH]
 obtain ⟨P,Q,hP,hQ,tP,tQ,p0,p1,q0,q1⟩:=place_bd hW hW2 hn hn2 hi
 obtain ⟨P',Q',hP',hQ',tP',tQ',p0',p1',q0',q1'⟩:=place_bd hW hW2 hn hn2 hk
 have HE:Hid (farG W H k i=wayG (P' - P) W*wayG (P' - P) W+wayG (Q' - Q) H*wayG (Q' - Q) H):=Lib.hid (by unfold farG;rw [hP,hQ,hP',hQ'])
 rw [hP,hQ,hP',hQ']
 obtain ⟨x1,x2⟩:=wayG_bd (d:=P' - P) hW
 obtain ⟨y1,y2⟩:=wayG_bd (d:=Q' - Q) hH
 obtain ⟨X,hX⟩: ∃X,wayG (P' - P) W=X:=⟨_,rfl⟩
 obtain ⟨Y,hY⟩: ∃Y,wayG (Q' - Q) H=Y:=⟨_,rfl⟩
 rw [hX] at x1 x2
 rw [hY] at y1 y2
 have m1:=Int.mul_le_mul x2 x2 x1 (by omega)
 have m2:=Int.mul_le_mul y2 y2 y1 (by omega)
 have m3:=Int.mul_le_mul hW2 hW2 (by omega) (by omega)
 have m4:=Int.mul_le_mul hH2 hH2 (by omega) (by omega)
 have m5:=sq_nn x1
 have m6:=sq_nn y1
 have u7:IntKind.i64.wrap (X*X)=X*X:=IntWalk.i64_in _ (by omega)
 have u8:IntKind.i64.wrap (Y*Y)=Y*Y:=IntWalk.i64_in _ (by omega)
 have u9:IntKind.i64.wrap (X*X+Y*Y)=X*X+Y*Y:=IntWalk.i64_in _ (by omega)
 rw [hX,hY] at HE
 have HX:=Lib.hid hX
 have HY:=Lib.hid hY
 clear hP hQ hP' hQ' tP tQ tP' tQ' hX hY m1 m2 m3 m4 m5 m6 hn hi hk
 go_enter Tryz.func303,Tryz.ntmps303
 go_wp2_with fail
 have ka:=(Blk.new w 191 #[.int .i64 P, .int .i64 Q]).alloc (.cells #[.int .i64 P', .int .i64 Q'] 191)
 have kb:=Blk.new' (g:=w.heap.size+1) (w:=w.alloc (.cells #[.int .i64 P, .int .i64 Q] 191)) 191 #[.int .i64 P', .int .i64 Q'] (by simp)
 have a0:=ka.cell 0
 have a1:=ka.cell 1
 have b0:=kb.cell 0
 have b1:=kb.cell 1
 simp only [List.getElem?_toArray,List.getElem?_cons_zero,List.getElem?_cons_succ] at a0 a1 b0 b1
 go_region_held3 (fun v=>v.cell? ⟨w.heap.size,0,none⟩=some (.int .i64 P)∧v.cell? ⟨w.heap.size,1,none⟩=some (.int .i64 Q)∧v.cell? ⟨w.heap.size+1,0,none⟩=some (.int .i64 P')∧v.cell? ⟨w.heap.size+1,1,none⟩=some (.int .i64 Q'))
   (first | exact ⟨a0,a1,b0,b1⟩)
   (first
     | (go_at_call 316;((with_reducible refine (impl_shorterWay _ _ _ _ (by omega) (by omega) (by omega) (by omega) (by omega) (by omega)).mono ?_);rintro e v1 ⟨rfl,rfl⟩;first | rw [HX.out] | rw [HY.out])))
 all_goals (
   go_wp2_with fail
   go_ret
   exact ⟨ret_int HE.out.symm,((Joins.below_alloc2 w _ _).drew)⟩)
set_option maxHeartbeats 400000 in
theorem impl_IsField (W H:Int) (ad:Option Addr) (n cap:Nat) (xs:List Int) (w:World) (hn:xs.length=n) (ha:Rd w ad xs) (hl:n≤9223372036854775807):
   Calls Tryz.prog 247 #[.agg #[.int .i64 W, .int .i64 H, .slice ad n cap]] w fun e w'=>e= .returned (.bool (fieldOk W H xs))∧Below w.heap.size w w':=by
 have HN:=Lib.hid hn
 have HA:=Lib.hid ha
 clear hn ha
 go_enter Tryz.func247,Tryz.ntmps247
 go_wp2_with fail
 refine (impl_IsPlate _ _ _ _ _ xs _ HN.out (by exact HA.out.alloc _) hl).mono ?_
 rintro e w1 ⟨rfl,hb⟩
 have HB1:=Lib.hid ((Joins.below_alloc1 _ _).trans (hb.mono (by simp)))
 have KP1:=Lib.hid ((Blk.new w 27 #[.int .i64 W, .int .i64 H, .slice ad n cap]).below' hb)
 obtain ⟨l1,c0,c1,c2⟩:=KP1.out.c3
 clear hb
 have E:Hid (fieldOk W H xs=(picOk W H xs 1 && decide (n≤256))):=Lib.hid (by unfold fieldOk;rw [HN.out])
 obtain ⟨P,hP⟩: ∃P,picOk W H xs 1=P:=⟨_,rfl⟩
 rw [hP] at E⊢
 clear hP
 cases P
 · go_wp2_with fail
   go_ret
   exact ⟨ret_bool (by rw [E.out];rfl),HB1.out⟩
 · go_wp2_with fail
   go_ret
   exact ⟨ret_bool (by rw [E.out,Bool.true_and];exact decide_eq_decide.2 (by omega)),HB1.out⟩
theorem far_bd {W H:Int} (hW:1≤W) (hW2:W≤256) (hH:1≤H) (hH2:H≤256) (i k:Nat):0≤farG W H i k∧farG W H i k≤131072:=by
 refine ⟨far_nn hW hH i k,?_⟩
 unfold farG
 obtain ⟨x1,x2⟩:=wayG_bd (d:=(i:Int) % W - (k:Int) % W) hW
 obtain ⟨y1,y2⟩:=wayG_bd (d:=(i:Int)/W - (k:Int)/W) hH
 have m1:=Int.mul_le_mul (show wayG ((i:Int) % W - (k:Int) % W) W≤256 by omega) (show wayG ((i:Int) % W - (k:Int) % W) W≤256 by omega) x1 (by omega)
 have m2:=Int.mul_le_mul (show wayG ((i:Int)/W - (k:Int)/W) H≤256 by omega) (show wayG ((i:Int)/W - (k:Int)/W) H≤256 by omega) y1 (by omega)
 omega
def PlateB (p:Pic):Prop:=p.ink=[]∨(1≤p.W∧p.W≤256∧1≤p.H∧p.H≤256∧(p.ink.length:Int)=p.W*p.H∧p.ink.length≤256)
theorem step_appendC {P:Program} (w:World) {ops:Array Oper} {o:Oper} {a:Act} {K:Act→World→Prop} {Q:Exit→Act→World→Prop} {E:Prop}
   (hgd:o.guard=none) (t e sz bytes:Nat) (ht:P.underlying t=some (.slice e)) (hi0:(P.info? e).map (fun i=>(i.zero,i.size,i.bytes))=some (some (zeros sz),sz,bytes)) (hsz:1≤sz) (hby:bytes≤4096)
   (s x:Operand) (hop:o.op= .call {callee:= .builtin .append,args:=#[s,x],argTypes:=#[t,t]})
   (B n cap:Nat) (ad:Option Addr) (xs:List Int) (hs:a.eval s= .slice ad n cap) (ho:RowA w e sz B ad n cap xs) (g:Nat) (vs:List Int) (hx:a.eval x= .slice (some ⟨g,0,none⟩) 1 1)
   (hv:vs.length=sz) (hc: ∀j,j<sz→w.cell? ⟨g,j,none⟩=some (.int .i64 (vs.getD j 0))) (hn:n≤1048576) (hB:B≤w.heap.size)
   (hK: ∀ad' cap' w',RowA w' e sz B ad' (n+1) cap' (xs++vs)→w.grownBy w' (blockOf ad)→K (a.put o.dst (.slice ad' (n+1) cap')) w'):
   if Region.wanted o (yielded ops a.tmps)=true then Oper.wp P o a w K Q else E:=by
 have hw:Region.wanted o (yielded ops a.tmps)=true:=by simp [Region.wanted,hgd]
 rw [if_pos hw]
 obtain ⟨i,hi,hz0,hz1,hz2⟩:=info_parts hi0
 have m1:(n+1)*bytes≤1048577*4096:=Nat.mul_le_mul (by omega) hby
 refine wp_append_own w s x t hop B e i (zeros sz) sz bytes ht hi hz0 hz1 hz2 (by simp [zeros,Value.cells]) (by omega) _ n (xs.map (Value.int .i64)) hs ho.toRow ⟨g,0,none⟩ 1 1 (vs.map (Value.int .i64)) hx (by simp [hv]) ?_ ?_ (by unfold maxLen;omega) (by omega) hB ?_
 · intro j u hj
   by_cases hjs:j<sz
   · have:=hc j hjs
     rw [List.getElem?_map,List.getElem?_eq_getElem (by omega)] at hj
     simp only [Option.map_some,Option.some.injEq] at hj
     subst hj
     rw [show (Addr.mk g 0 none).add j=⟨g,j,none⟩ by rw [Addr.add_lit];simp,this]
     simp [List.getD,List.getElem?_eq_getElem (show j<vs.length by omega)]
   · rw [List.getElem?_eq_none (by simp;omega)] at hj;cases hj
 · intro u hu
   obtain ⟨x,_,rfl⟩:=List.mem_map.1 hu
   rfl
 · intro v' w' h2 h3 _
   have h4:w'.ownsRow B e sz v' (n+1) ((xs++vs).map (Value.int .i64)):=by simpa using h2
   obtain ⟨ad',cap',rfl,h5⟩:=RowA.ofRow h4
   rw [blockOf_ownT] at h3
   exact hK ad' cap' w' h5 h3
def onesTo (xs:List Int) (k:Nat):List Nat:=(List.range k).filter (fun i=>decide (xs.getD i 0=1))
def flatC (W:Int) (ls:List Nat):List Int:=ls.flatMap (fun (i:Nat)=> [(i:Int) % W,(i:Int)/W])
theorem ones_yes {xs:List Int} {k:Nat} (h:xs.getD k 0=1):onesTo xs (k+1)=onesTo xs k++ [k]:=by
 unfold onesTo
 rw [List.range_succ,List.filter_append]
 simp [List.getD] at h⊢
 simp [h]
theorem ones_no {xs:List Int} {k:Nat} (h: ¬xs.getD k 0=1):onesTo xs (k+1)=onesTo xs k:=by
 unfold onesTo
 rw [List.range_succ,List.filter_append]
 simp [List.getD] at h⊢
 simp [h]
theorem ones_mem {xs:List Int} {k i:Nat}:i ∈ onesTo xs k↔i<k∧xs.getD i 0=1:=by
 unfold onesTo;simp
theorem ones_len (xs:List Int) (k:Nat):(onesTo xs k).length≤k:=by
 unfold onesTo
 have:=List.length_filter_le (fun i=>decide (xs.getD i 0=1)) (List.range k)
 simpa using this
theorem flatC_len (W:Int) (ls:List Nat):(flatC W ls).length=ls.length*2:=by
 induction ls with
 | nil=>rfl
 | cons a r ih=>unfold flatC at ih⊢;simp only [List.flatMap_cons,List.length_append,ih];simp;omega
theorem flatC_snoc (W:Int) (ls:List Nat) (k:Nat):flatC W (ls++ [k])=flatC W ls++ [(k:Int) % W,(k:Int)/W]:=by
 unfold flatC;simp
theorem flatC_at (W:Int): ∀(ls:List Nat) (k:Nat),k<ls.length→(flatC W ls).getD (k*2) 0=((ls.getD k 0:Nat):Int) % W∧(flatC W ls).getD (k*2+1) 0=((ls.getD k 0:Nat):Int)/W
 | [],k,h=>by simp at h
 | a::r,0,h=>by simp [flatC]
 | a::r,k+1,h=>by
   have ih:=flatC_at W r k (by simpa using h)
   have e1:(k+1)*2=k*2+1+1:=by omega
   have e2:flatC W (a::r)=(a:Int) % W::(a:Int)/W::flatC W r:=by simp [flatC]
   rw [e2,e1]
   simpa using ih
theorem rd_place {w:World} {ad:Option Addr} {W:Int} {ls:List Nat} (h:Rd w ad (flatC W ls)) {k:Nat} (hk:k<ls.length):
   ∃b off,ad=some ⟨b,off,none⟩∧b<w.heap.size∧w.cell? ⟨b,off+k*2,none⟩=some (.int .i64 (((ls.getD k 0:Nat):Int) % W))∧w.cell? ⟨b,off+k*2+1,none⟩=some (.int .i64 (((ls.getD k 0:Nat):Int)/W)):=by
 have hl:=flatC_len W ls
 obtain ⟨b,off,h1,h2,h3⟩:=h.at (by omega)
 obtain ⟨e1,e2⟩:=flatC_at W ls k hk
 refine ⟨b,off,h1,h2,?_,?_⟩
 · rw [←e1];exact h3 _ (by omega)
 · rw [←e2,Nat.add_assoc];exact h3 _ (by omega)
set_option maxRecDepth 100000 in
set_option maxHeartbeats 3200000 in
theorem impl_dotsOf (W H:Int) (ad:Option Addr) (n cap:Nat) (xs:List Int) (w:World) (hn:xs.length=n) (ha:Rd w ad xs) (hp:PlateB ⟨W,H,xs⟩):
   Calls Tryz.prog 283 #[.agg #[.int .i64 W, .int .i64 H, .slice ad n cap]] w fun e w'=>
     ∃a d c,e= .returned (.slice a d c)∧(onesTo xs n).length=d∧RowA w' 191 2 w.heap.size a d c (flatC W (onesTo xs n))∧Below w.heap.size w w':=by
 have HN:=Lib.hid hn
 have HP:=Lib.hid hp
 have RD2:=Lib.hid (ha.alloc (.cells #[.int .i64 W, .int .i64 H, .slice ad n cap] 27))
 have KM2:=Lib.hid (Blk.new w 27 #[.int .i64 W, .int .i64 H, .slice ad n cap])
 have HB2:=Lib.hid (Joins.below_alloc1 w (.cells #[.int .i64 W, .int .i64 H, .slice ad n cap] 27))
 have nb:n≤256:=by
   rcases hp with h | ⟨h1,h2,h3,h4,h5,h6⟩
   · simp only [] at h;rw [h] at hn;simp at hn;omega
   · simp only [] at h6;omega
 clear hn ha hp
 go_enter Tryz.func283,Tryz.ntmps283
 obtain ⟨w2,hw2⟩: ∃w2,w2=w.alloc (.cells #[.int .i64 W, .int .i64 H, .slice ad n cap] 27):=⟨_,rfl⟩
 have HSZ:Hid (w.heap.size<w2.heap.size):=Lib.hid (by rw [hw2];exact KM2.out.lt)
 rw [←hw2] at RD2 KM2 HB2
 go_wp2_with fail
 rw [←hw2]
 clear hw2
 go_loopw [3,9] (fun r i wr=> ∃(k d cp:Nat) (a:Option Addr),k≤n∧i= .int .i64 k∧r= .slice a d cp∧(onesTo xs k).length=d∧RowA wr 191 2 w2.heap.size a d cp (flatC W (onesTo xs k))∧Below w2.heap.size w2 wr) (fun _ i _=>n - (intOf i).toNat)
 case atStart=>exact ⟨0,0,0,none,Nat.zero_le _,rfl,rfl,rfl,RowA.none _ _ _ _,Below.refl _ _⟩
 case round=>
   obtain ⟨k,d,cp,a,hk,rfl,rfl,hd,ho,hwr⟩:=hrel
   have HD:=Lib.hid hd
   have HO:=Lib.hid ho
   have HWr:=Lib.hid hwr
   have KMr:=Lib.hid (KM2.out.below' hwr)
   have RDr:=Lib.hid (RD2.out.below hwr)
   clear hwr hd ho
   obtain ⟨l0,o0,o1,o2⟩:=KMr.out.c3
   by_cases hlt:k<n
   · obtain ⟨ba,oa,hae,hal,hac⟩:=RDr.out.at (by have:=HN.out;omega)
     subst hae
     have g1:=hac k (by have:=HN.out;omega)
     obtain ⟨V,hV⟩: ∃V,xs.getD k 0=V:=⟨_,rfl⟩
     rw [hV] at g1
     have HV:=Lib.hid hV
     clear hV hac
     by_cases hv1:V=1
     · subst hv1
       obtain ⟨b1,b2,b3,b4,b5,b6⟩:1≤W∧W≤256∧1≤H∧H≤256∧(n:Int)=W*H∧n≤256:=by
         rcases HP.out with h | ⟨h1,h2,h3,h4,h5,h6⟩
         · have:=HN.out;simp only [] at h;rw [h] at this;simp at this;omega
         · have:=HN.out;simp only [] at h5 h6;rw [this] at h5 h6;exact ⟨h1,h2,h3,h4,h5,h6⟩
       have B5:=Lib.hid b5
       obtain ⟨P,Q,hP,hQ,tP,tQ,p0,p1,q0,q1⟩:=place_bd b1 b2 b5 b6 hlt
       clear b5
       have u1:IntKind.i64.wrap P=P:=IntWalk.i64_in _ (by omega)
       have u2:IntKind.i64.wrap Q=Q:=IntWalk.i64_in _ (by omega)
       have z1: ¬W=0:=by omega
       have z2:(W==0)=false:=by simp;omega
       have EQ:Hid (flatC W (onesTo xs (k+1))=flatC W (onesTo xs k)++ [P,Q]):=Lib.hid (by rw [ones_yes HV.out,flatC_snoc,hP,hQ])
       have EL:Hid ((onesTo xs (k+1)).length=d+1):=Lib.hid (by rw [ones_yes HV.out,List.length_append,HD.out];rfl)
       have dle:d≤k:=by rw [←HD.out];exact ones_len _ _
       clear hP hQ
       have SZr:=Lib.hid HWr.out.size
       go_upto_region 6 with fail
       refine wp_region_held_drew (S:=fun v=>v.cell? ⟨w.heap.size,0,none⟩=some (.int .i64 W)) (by kernel_rfl) o0 ?_
       intro hHeld
       (refine' wpAnyH_take (i:=0) (v:=?_) rfl (by kernel_rfl) (by kernel_rfl) (by kernel_rfl) (fun _ _ _ h=>h) (Or.inl ⟨by rfl,?_⟩) (by assumption) ?_;rotate_left;(· (intro w hSw;(try dsimp only at hSw);go_simp;try with_reducible rfl));(try simp only [Act.put,List.setIfInBounds_toArray,List.set_cons_zero,List.set_cons_succ]))
       (refine' wpAnyH_take (i:=1) (v:=?_) rfl (by kernel_rfl) (by kernel_rfl) (by kernel_rfl) (fun _ _ _ h=>h) (Or.inl ⟨by rfl,?_⟩) (by assumption) ?_;rotate_left;(· (intro w hSw;(try dsimp only at hSw);go_simp;try with_reducible rfl));(try simp only [Act.put,List.setIfInBounds_toArray,List.set_cons_zero,List.set_cons_succ]))
       (refine' wpAnyH_take (i:=2) (v:=?_) rfl (by kernel_rfl) (by kernel_rfl) (by kernel_rfl) (fun _ _ _ h=>h) (Or.inl ⟨by rfl,?_⟩) (by assumption) ?_;rotate_left;(· (intro w hSw;(try dsimp only at hSw);go_simp;try with_reducible rfl));(try simp only [Act.put,List.setIfInBounds_toArray,List.set_cons_zero,List.set_cons_succ]))
       (refine' wpAnyH_take (i:=3) (v:=?_) rfl (by kernel_rfl) (by kernel_rfl) (by kernel_rfl) (fun _ _ _ h=>h) (Or.inl ⟨by rfl,?_⟩) (by assumption) ?_;rotate_left;(· (intro w hSw;(try dsimp only at hSw);go_simp;try with_reducible rfl));(try simp only [Act.put,List.setIfInBounds_toArray,List.set_cons_zero,List.set_cons_succ]))
       (refine' wpAnyH_take (i:=4) (v:=?_) rfl (by kernel_rfl) (by kernel_rfl) (by kernel_rfl) (fun _ _ _ h=>h) (Or.inl ⟨by rfl,?_⟩) (by assumption) ?_;rotate_left;(· (intro w hSw;(try dsimp only at hSw);go_simp;try with_reducible rfl));(try simp only [Act.put,List.setIfInBounds_toArray,List.set_cons_zero,List.set_cons_succ]))
       (refine' wpAnyH_take (i:=5) (v:=?_) rfl (by kernel_rfl) (by kernel_rfl) (by kernel_rfl) (fun _ _ _ h=>h) (Or.inl ⟨by rfl,?_⟩) (by assumption) ?_;rotate_left;(· (intro w hSw;(try dsimp only at hSw);go_simp;try with_reducible rfl));(try simp only [Act.put,List.setIfInBounds_toArray,List.set_cons_zero,List.set_cons_succ]))
       (refine' wpAnyH_take (i:=6) (v:=?_) rfl (by kernel_rfl) (by kernel_rfl) (by kernel_rfl) (fun _ _ _ h=>h) (Or.inl ⟨by rfl,?_⟩) (by assumption) ?_;rotate_left;(· (intro w hSw;(try dsimp only at hSw);go_simp;try with_reducible rfl));(try simp only [Act.put,List.setIfInBounds_toArray,List.set_cons_zero,List.set_cons_succ]))
       (refine' wpAnyH_take (i:=7) (v:=?_) rfl (by kernel_rfl) (by kernel_rfl) (by kernel_rfl) (fun _ _ _ h=>h) (Or.inl ⟨by rfl,?_⟩) (by assumption) ?_;rotate_left;(· (intro w hSw;(try dsimp only at hSw);go_simp;try with_reducible rfl));(try simp only [Act.put,List.setIfInBounds_toArray,List.set_cons_zero,List.set_cons_succ]))
       (refine' wpAnyH_take (i:=8) (v:=?_) rfl (by kernel_rfl) (by kernel_rfl) (by kernel_rfl) (fun _ _ _ h=>h) (Or.inl ⟨by rfl,?_⟩) (by assumption) ?_;rotate_left;(· (intro w hSw;(try dsimp only at hSw);go_simp;try with_reducible rfl));(try simp only [Act.put,List.setIfInBounds_toArray,List.set_cons_zero,List.set_cons_succ]))
       (refine' wpAnyH_take (i:=9) (v:=?_) rfl (by kernel_rfl) (by kernel_rfl) (by kernel_rfl) (fun _ _ _ h=>h) (Or.inl ⟨by rfl,?_⟩) (by assumption) ?_;rotate_left;(· (intro w hSw;(try dsimp only at hSw);go_simp;try with_reducible rfl));(try simp only [Act.put,List.setIfInBounds_toArray,List.set_cons_zero,List.set_cons_succ]))
       refine wpAnyH_ready (rs:=[10]) (by kernel_rfl) (by simp) ?_
       refine AllReadyH.cons rfl (fun K hK=>?_) AllReadyH.nil
       go_simp
       refine hK.out _ _ (by (try dsimp only);exact cell_al o0) (fun hHeld=>?_)
       clear hK K
       refine wpAnyH_ready (rs:=[11]) (by kernel_rfl) (by simp) ?_
       refine AllReadyH.cons rfl (fun K hK=>?_) AllReadyH.nil
       refine step_appendC _ rfl 255 191 2 16 Tryz.underlying255 infoCell (by decide) (by decide) (.tmp 16) (.tmp 26) rfl w2.heap.size d cp a (flatC W (onesTo xs k)) rfl ((HO.out.alloc _).drew) _ [P,Q] rfl rfl (fun j hj=>by
         refine ((Blk.new wr 191 #[.int .i64 P, .int .i64 Q]).cell j).trans ?_
         match j,hj with
         | 0,_=>rfl
         | 1,_=>rfl) (by omega) (by have:=SZr.out;simp;omega) ?_
       intro ad3 cp3 w4 ho3 hg3
       have KM4:=((KMr.out.alloc (.cells #[.int .i64 P, .int .i64 Q] 191)).drew).grownS hg3 (fun b hb=>by have:=HO.out.bd b hb;have:=HSZ.out;omega)
       have HB4:=Lib.hid (((HWr.out.alloc SZr.out (.cells #[.int .i64 P, .int .i64 Q] 191)).drew).grown hg3 (by have:=SZr.out;simp;omega) (fun b hb=>(HO.out.bd b hb).1))
       obtain ⟨m0,y0,y1,y2⟩:=KM4.c3
       (try dsimp only)
       refine hK.out _ _ (by (try dsimp only);exact y0) (fun hHeld=>?_)
       clear hK K
       (refine' wpAnyH_take (i:=12) (v:=?_) rfl (by kernel_rfl) (by kernel_rfl) (by kernel_rfl) (fun _ _ _ h=>h) (Or.inl ⟨by rfl,?_⟩) (by assumption) ?_;rotate_left;(· (intro w hSw;(try dsimp only at hSw);go_simp;try with_reducible rfl));(try simp only [Act.put,List.setIfInBounds_toArray,List.set_cons_zero,List.set_cons_succ]))
       refine wpAnyH_done (by kernel_rfl) ?_ _
       (try go_simp)
       go_wp2_with fail
       go_roundw
       case rel=>exact ⟨k+1,d+1,cp3,ad3,by omega,by go_num,rfl,EL.out,by rw [EQ.out];exact ho3,HB4.out⟩
       case measure=>simp [intOf];omega
     · have EQ:Hid (onesTo xs (k+1)=onesTo xs k):=Lib.hid (ones_no (fun h=>hv1 (HV.out.symm.trans h)))
       go_wp2_with fail
       go_roundw
       case rel=>exact ⟨k+1,d,cp,a,by omega,by go_num,rfl,by rw [EQ.out];exact HD.out,by rw [EQ.out];exact HO.out,HWr.out⟩
       case measure=>simp [intOf];omega
   · obtain rfl:n=k:=by omega
     go_wp2_with fail
     go_ret
     exact ⟨_,_,_,rfl,HD.out,HO.out.mono HB2.out.size,bTrans HB2.out HWr.out⟩
end Go.Proofs.YtmikajnpgcabfaaGreatDoor
