/-
  Contracts and plain facts on which the theorem of this claim rests, text 32.
-/
import Derived.Deep.RegionHeld3
import Derived.Shelf.Abstract
import Derived.Test.YtanccoopbgamdaaGreatDoorKC4
import Derived.Test.YtanccoopbgamdaaGreatDoorKC7
import Derived.Test.YtanccoopbgamdaaGreatDoorKC9
import Derived.Test.YtanccoopbgamdaaGreatDoorKC14
import Derived.Test.YtanccoopbgamdaaGreatDoorKC27
namespace Go.Proofs.YtanccoopbgamdaaGreatDoor
open Go.RowKit
set_option linter.unusedVariables false
set_option linter.unusedSimpArgs false
theorem set_self {xs:List Int} {i:Nat} {v:Int} (h:i<xs.length∧xs.getD i 0=v):xs.set i v=xs:=by
 apply List.ext_getElem?
 intro k
 rw [List.getElem?_set]
 by_cases e:i=k
 · subst e
   rw [if_pos rfl,if_pos h.1,List.getElem?_eq_getElem h.1]
   have h2:=h.2
   simp only [List.getD,List.getElem?_eq_getElem h.1,Option.getD_some] at h2
   rw [h2]
 · rw [if_neg e]
theorem filled_next (ys:List Int) (n k:Nat) (h:k<n) (hy:ys.length=n):k<(filled ys (List.replicate n 0) k).length∧(filled ys (List.replicate n 0) k).getD k 0=0:=by
 have hl:(ys.take k).length=k:=by rw [List.length_take];omega
 unfold filled
 refine ⟨by simp;omega,?_⟩
 rw [List.getD,List.getElem?_append_right (by omega),hl,Nat.sub_self,List.getElem?_drop]
 simp [h]
set_option maxHeartbeats 1600000 in
theorem impl_SeedField (W H e:Int) (w:World):
   Calls Tryz.prog 128 #[.int .i64 W, .int .i64 H, .int .i64 e] w (PicOut2 w (seedF W H e)):=by
 by_cases hs:sizeOk W H=true
 case neg=>
   have E:seedF W H e=(noPic,false):=by unfold seedF;rw [if_neg (fun h=>hs h.1)]
   rw [E]
   have HS:=Lib.hid hs
   clear hs E
   go_enter Tryz.func128,Tryz.ntmps128
   go_wp2_with fail
   refine (impl_isSize_no _ _ _ HS.out).mono ?_
   rintro e2 w1 ⟨rfl,rfl⟩
   have KR1:=Lib.hid (Blk.new w 27 #[.int .i64 0, .int .i64 0, .slice none 0 0])
   have HB1:=Lib.hid (Joins.below_alloc1 w (.cells #[.int .i64 0, .int .i64 0, .slice none 0 0] 27))
   obtain ⟨r0,r1,r2,r3⟩:=KR1.out.c3
   obtain ⟨q0,q1,q2⟩:=KR1.out.f3
   go_wp2_with fail
   exact bodyPost_ret (v:= .tuple #[.agg #[.int .i64 0, .int .i64 0, .slice none 0 0], .bool false]) (by simp [results,Tryz.results128,go_sem]) rfl ⟨none,0,0,rfl,OwnA.none _ _,by omega,
     by first | exact HB1.out | exact ((HB1.out.setCell (by first | (simp;done) | (simp;omega)) _).setCell (by first | (simp;done) | (simp;omega)) _).setCell (by first | (simp;done) | (simp;omega)) _⟩
 case pos=>
   obtain ⟨b1,b2,b3,b4,b5,b6⟩:=sizeOk_bd hs
   obtain ⟨n,hn⟩: ∃n:Nat,(n:Int)=W*H:=⟨(W*H).toNat,by omega⟩
   have u1:IntKind.i64.wrap (W*H)=(n:Int):=by rw [hn];exact IntWalk.i64_in _ (by omega)
   have hn1:1≤n:=by omega
   have HQ:=Lib.hid hn
   by_cases hm:n≤256
   case neg=>
     have E:seedF W H e=(noPic,false):=by unfold seedF;rw [if_neg (fun h=>hm (by have:=h.2.1;omega))]
     rw [E]
     have HS:=Lib.hid hs
     have hm2:256<(n:Int):=by omega
     clear hs E hm hn b5 b6
     go_enter Tryz.func128,Tryz.ntmps128
     go_wp2_with fail
     refine (impl_isSize_yes _ _ _ HS.out).mono ?_
     rintro e2 w1 ⟨rfl,rfl⟩
     have KR1:=Lib.hid (Blk.new w 27 #[.int .i64 0, .int .i64 0, .slice none 0 0])
     have HB1:=Lib.hid (Joins.below_alloc1 w (.cells #[.int .i64 0, .int .i64 0, .slice none 0 0] 27))
     obtain ⟨r0,r1,r2,r3⟩:=KR1.out.c3
     obtain ⟨q0,q1,q2⟩:=KR1.out.f3
     go_wp2_with fail
     exact bodyPost_ret (v:= .tuple #[.agg #[.int .i64 0, .int .i64 0, .slice none 0 0], .bool false]) (by simp [results,Tryz.results128,go_sem]) rfl ⟨none,0,0,rfl,OwnA.none _ _,by omega,
       by first | exact HB1.out | exact ((HB1.out.setCell (by first | (simp;done) | (simp;omega)) _).setCell (by first | (simp;done) | (simp;omega)) _).setCell (by first | (simp;done) | (simp;omega)) _⟩
   case pos=>
     have hm2:(n:Int)≤256:=by omega
     by_cases he:1≤e∧e≤100
     case neg=>
       have E:seedF W H e=(noPic,false):=by unfold seedF;rw [if_neg (fun h=>he h.2.2)]
       rw [E]
       have HS:=Lib.hid hs
       have HE:=Lib.hid he
       clear hs E hn b5 b6 hm he
       by_cases h0:e<1
       · clear HE
         go_enter Tryz.func128,Tryz.ntmps128
         go_wp2_with fail
         refine (impl_isSize_yes _ _ _ HS.out).mono ?_
         rintro e2 w1 ⟨rfl,rfl⟩
         have KR1:=Lib.hid (Blk.new w 27 #[.int .i64 0, .int .i64 0, .slice none 0 0])
         have HB1:=Lib.hid (Joins.below_alloc1 w (.cells #[.int .i64 0, .int .i64 0, .slice none 0 0] 27))
         obtain ⟨r0,r1,r2,r3⟩:=KR1.out.c3
         obtain ⟨q0,q1,q2⟩:=KR1.out.f3
         go_wp2_with fail
         exact bodyPost_ret (v:= .tuple #[.agg #[.int .i64 0, .int .i64 0, .slice none 0 0], .bool false]) (by simp [results,Tryz.results128,go_sem]) rfl ⟨none,0,0,rfl,OwnA.none _ _,by omega,
           by first | exact HB1.out | exact ((HB1.out.setCell (by first | (simp;done) | (simp;omega)) _).setCell (by first | (simp;done) | (simp;omega)) _).setCell (by first | (simp;done) | (simp;omega)) _⟩
       · have h1:1≤e:=by omega
         have h2:100<e:=by have:=HE.out;omega
         clear HE h0
         go_enter Tryz.func128,Tryz.ntmps128
         go_wp2_with fail
         refine (impl_isSize_yes _ _ _ HS.out).mono ?_
         rintro e2 w1 ⟨rfl,rfl⟩
         have KR1:=Lib.hid (Blk.new w 27 #[.int .i64 0, .int .i64 0, .slice none 0 0])
         have HB1:=Lib.hid (Joins.below_alloc1 w (.cells #[.int .i64 0, .int .i64 0, .slice none 0 0] 27))
         obtain ⟨r0,r1,r2,r3⟩:=KR1.out.c3
         obtain ⟨q0,q1,q2⟩:=KR1.out.f3
         go_wp2_with fail
         exact bodyPost_ret (v:= .tuple #[.agg #[.int .i64 0, .int .i64 0, .slice none 0 0], .bool false]) (by simp [results,Tryz.results128,go_sem]) rfl ⟨none,0,0,rfl,OwnA.none _ _,by omega,
           by first | exact HB1.out | exact ((HB1.out.setCell (by first | (simp;done) | (simp;omega)) _).setCell (by first | (simp;done) | (simp;omega)) _).setCell (by first | (simp;done) | (simp;omega)) _⟩
     case pos=>
       have E:seedF W H e=(⟨W,H,gen n (fun i=>if (i:Int)*7 % e=0 then 1 else 0)⟩,true):=by
         unfold seedF
         rw [if_pos ⟨hs,by omega,he.1,he.2⟩,show (W*H).toNat=n by omega]
       rw [E]
       obtain ⟨e1,e2⟩:=he
       have HS:=Lib.hid hs
       clear hs E hn b5 b6 hm
       go_enter Tryz.func128,Tryz.ntmps128
       go_wp2_with fail
       refine (impl_isSize_yes _ _ _ HS.out).mono ?_
       rintro e3 w1 ⟨rfl,rfl⟩
       go_wp2_with fail
       all_goals (try (exfalso;omega))
       refine (impl_blank W H n _ HS.out HQ.out).mono ?_
       rintro e3 w2 ⟨g,rfl,hg,ho,hb⟩
       have KR:=Lib.hid (((Blk.new w 27 #[.int .i64 0, .int .i64 0, .slice none 0 0]).below' hb).alloc (.cells #[.int .i64 W, .int .i64 H, .slice (some ⟨g,0,none⟩) n n] 27))
       have KO:=Lib.hid (Blk.new w2 27 #[.int .i64 W, .int .i64 H, .slice (some ⟨g,0,none⟩) n n])
       have HO:=Lib.hid (ho.alloc (.cells #[.int .i64 W, .int .i64 H, .slice (some ⟨g,0,none⟩) n n] 27))
       have HB:=Lib.hid (bAlloc (bTrans (Joins.below_alloc1 w _) hb) (.cells #[.int .i64 W, .int .i64 H, .slice (some ⟨g,0,none⟩) n n] 27))
       have HG:Hid (w.heap.size<g∧g<w2.heap.size):=Lib.hid ⟨by simp at hg;omega,ho.lt⟩
       clear hg ho hb
       obtain ⟨w3,hw3⟩: ∃w3,w3=w2.alloc (.cells #[.int .i64 W, .int .i64 H, .slice (some ⟨g,0,none⟩) n n] 27):=⟨_,rfl⟩
       obtain ⟨l0,o0,o1,o2⟩:=KO.out.c3
       go_wp2_with fail
       rw [←hw3] at KR KO HO HB l0 o0 o1 o2⊢
       clear hw3 l0 o0 o1 o2
       go_loopw [35] (fun i wr=> ∃k:Nat,k≤n∧i= .int .i64 k∧Hid (Own wr g n n (filled (gen n (fun i=>if (i:Int)*7 % e=0 then 1 else 0)) (List.replicate n 0) k))∧Hid (w3.grownBy wr (some g))) (fun i _=>n - (intOf i).toNat)
       case atStart=>exact ⟨0,Nat.zero_le _,rfl,Lib.hid (by rw [filled_zero];exact HO.out),Lib.hid (grown_refl _ _)⟩
       case round=>
         obtain ⟨k,hk,rfl,HK,HGR⟩:=hrel
         have KOr:=Lib.hid (KO.out.grown HGR.out (by have:=HG.out;intro e;have:=Option.some.inj e;omega))
         obtain ⟨l0,o0,o1,o2⟩:=KOr.out.c3
         by_cases hlt:k<n
         · have u2:IntKind.i64.wrap ((k:Int)*7)=(k:Int)*7:=IntWalk.i64_in _ (by omega)
           have z1: ¬e=0:=by omega
           have z2:(e==0)=false:=by simp;omega
           have u3:((k:Int)*7).tmod e=(k:Int)*7 % e:=Int.tmod_eq_emod_of_nonneg (by omega)
           have m0:0≤(k:Int)*7 % e:=Int.emod_nonneg _ z1
           have m1:(k:Int)*7 % e<e:=Int.emod_lt_of_pos _ (by omega)
           have hs:=filled_succ (gen n (fun i=>if (i:Int)*7 % e=0 then 1 else 0)) (List.replicate n 0) k _ (by rw [gen_len];exact hlt) (by simp;omega) (gen_get _ _ _ hlt)
           have h2c:=HK.out.cell hlt
           have h3c:=HK.out.frozen k
           have hx:=filled_next (gen n (fun i=>if (i:Int)*7 % e=0 then 1 else 0)) n k hlt (gen_len _ _)
           obtain ⟨R,hR⟩: ∃R,(k:Int)*7 % e=R:=⟨_,rfl⟩
           rw [hR] at u3 m0 m1 hs
           have u4:IntKind.i64.wrap R=R:=IntWalk.i64_in _ (by omega)
           have FR:=Lib.hid hR
           clear hR
           by_cases hz:R=0
           · subst hz
             rw [if_pos rfl] at hs
             have HS2:=Lib.hid hs
             have HN2:=Lib.hid (HK.out.set k 1)
             clear hs hx
             go_wp2_with fail
             go_roundw
             case rel=>exact ⟨k+1,by omega,by go_num,Lib.hid (by rw [←HS2.out];exact HN2.out),Lib.hid (grown_set HGR.out _)⟩
             case measure=>simp [intOf];omega
           · rw [if_neg hz] at hs
             have HS2:Hid (filled (gen n (fun i=>if (i:Int)*7 % e=0 then 1 else 0)) (List.replicate n 0) (k+1)=filled (gen n (fun i=>if (i:Int)*7 % e=0 then 1 else 0)) (List.replicate n 0) k):=Lib.hid (by rw [←hs,set_self hx])
             clear hs hx h2c h3c
             go_wp2_with fail
             go_roundw
             case rel=>exact ⟨k+1,by omega,by go_num,Lib.hid (by rw [HS2.out];exact HK.out),HGR⟩
             case measure=>simp [intOf];omega
         · obtain rfl:k=n:=by omega
           have HF:Hid (Own wr g k k (gen k (fun i=>if (i:Int)*7 % e=0 then 1 else 0))):=Lib.hid (by have h:=HK.out;rwa [filled_at _ _ _ (gen_len _ _) (by simp)] at h)
           have KRr:=Lib.hid (KR.out.grown HGR.out (by have:=HG.out;intro e;have:=Option.some.inj e;omega))
           have HBr:=Lib.hid (HB.out.grown HGR.out HB.out.size (by intro q hq;cases hq;have:=HG.out;omega))
           obtain ⟨z0,r0,r1,r2⟩:=KRr.out.c3
           obtain ⟨f0,f1,f2⟩:=KRr.out.f3
           go_wp2_with fail
           exact bodyPost_ret (v:= .tuple #[.agg #[.int .i64 W, .int .i64 H, .slice (some ⟨g,0,none⟩) k k], .bool true]) (by simp [results,Tryz.results128,go_sem,r0,r1,r2]) rfl
             ⟨_,_,_,rfl,OwnA.mk (((HF.out.other (by have:=HG.out;simp;omega) _).other (by have:=HG.out;simp;omega) _).other (by have:=HG.out;simp;omega) _) (by have:=HG.out;omega),by omega,
               ((HBr.out.setCell (by first | (simp;done) | (simp;omega)) _).setCell (by first | (simp;done) | (simp;omega)) _).setCell (by first | (simp;done) | (simp;omega)) _⟩
theorem enters6 (f:Nat) (fn:Func) (c:Code) (hf:Tryz.prog.funcs[f]? =some fn) (hname:(fn.name== "runtime.NumGoroutine")=false) (hb:fn.body=some c): ∀args w,(callFunc f args).run Tryz.prog w= .ok (.enter f args) w:=enters_of hf hname hb
theorem isNaN6 (x:Int) (w:World):
   Calls Tryz.prog 158 #[.int .i64 x] w fun e w'=>e= .returned (.bool false)∧w=w':=by
 have h:(x !=x)=false:=by simp
 go_enter Tryz.func158,Tryz.ntmps158
 go_wp2_with fail
 go_ret
 exact ⟨rfl,rfl⟩
set_option maxHeartbeats 800000 in
theorem cmp6 (x y:Int) (w:World):
   Calls Tryz.prog 127 #[.int .i64 x, .int .i64 y] w fun e w'=> ∃c:Int,e= .returned (.int .i64 c)∧(c<0↔x<y)∧w=w':=by
 go_enter Tryz.func127,Tryz.ntmps127
 go_wp2_with fail
 refine (isNaN6 _ _).mono ?_
 rintro e w1 ⟨rfl,rfl⟩
 go_wp2_with fail
 refine (isNaN6 _ _).mono ?_
 rintro e w1 ⟨rfl,rfl⟩
 by_cases h1:x<y
 · go_wp2_with fail
   go_ret
   exact ⟨-1,rfl,by constructor <;>intro <;>omega,rfl⟩
 · by_cases h2:y<x
   · go_wp2_with fail
     go_ret
     exact ⟨1,rfl,by constructor <;>intro <;>omega,rfl⟩
   · go_wp2_with fail
     go_ret
     exact ⟨0,rfl,by constructor <;>intro <;>omega,rfl⟩
set_option maxRecDepth 100000 in
set_option maxHeartbeats 1600000 in
theorem seqC6 (h:Nat) (lb:Array Value) (bo bs bi n cp i k:Nat) (xs:Nat→Int) (K:Prop) (w:World) (eh: ∀args w,(callFunc h args).run Tryz.prog w= .ok (.enter h args) w)
   (co:w.cell? ⟨bo,0,none⟩=some (.func (.func h) #[] lb)) (ck:w.cell? ⟨bs,0,none⟩=some (.slice (some ⟨bi,0,none⟩) n cp)) (ci:(∀k,k<n→w.cell? ⟨bi,k,none⟩=some (.int .i64 (xs k)))) (zo:bo<w.heap.size) (zs:bs<w.heap.size) (zi:bi<w.heap.size) (hi:i<n) (hk:k<n)
   (hord: ∀v,Below w.heap.size w v→Calls Tryz.prog h (#[.int .i64 (xs i), .int .i64 (xs k)]++lb) v fun e v'=> ∃c:Int,e= .returned (.int .i64 c)∧(c<0↔K)∧Below v.heap.size v v'):
   Calls Tryz.prog 157 #[.int .i64 i, .int .i64 k, .pointer (some ⟨bo,0,none⟩), .pointer (some ⟨bs,0,none⟩)] w fun e w'=> ∃c:Int,e= .returned (.int .i64 c)∧(c<0↔K)∧Below w.heap.size w w':=by
 have x0:=ci i hi
 have x1:=ci k hk
 obtain ⟨XSI,hxsi⟩: ∃zz,zz=xs i:=⟨_,rfl⟩
 obtain ⟨XSK,hxsk⟩: ∃zz,zz=xs k:=⟨_,rfl⟩
 rw [←hxsi] at x0
 rw [←hxsk] at x1
 try rw [←hxsi] at hord
 try rw [←hxsk] at hord
 have MK:Hid (∀v,BelowL w v→v.cell? ⟨bo,0,none⟩=some (.func (.func h) #[] lb)∧v.cell? ⟨bs,0,none⟩=some (.slice (some ⟨bi,0,none⟩) n cp)∧v.cell? ⟨bi,i,none⟩=some (.int .i64 XSI)∧v.cell? ⟨bi,k,none⟩=some (.int .i64 XSK)∧BelowL w v):=Lib.hid (fun v hh=>⟨(hh.out.cell zo).trans co,(hh.out.cell zs).trans ck,(hh.out.cell zi).trans x0,(hh.out.cell zi).trans x1,hh⟩)
 have CC:Hid (∀v,BelowL w v→Calls Tryz.prog h (#[.int .i64 XSI, .int .i64 XSK]++lb) v fun e v'=> ∃c:Int,e= .returned (.int .i64 c)∧(c<0↔K)∧Below v.heap.size v v'):=Lib.hid (fun v hv=>hord v hv.out)
 have pi:(i:Int)<(n:Int):=by omega
 have pk:(k:Int)<(n:Int):=by omega
 clear hord ci hxsi hxsk
 go_enter Tryz.func157,Tryz.ntmps157
 go_wp2_with fail
 go_region_held3 (fun v=>v.cell? ⟨bo,0,none⟩=some (.func (.func h) #[] lb)∧v.cell? ⟨bs,0,none⟩=some (.slice (some ⟨bi,0,none⟩) n cp)∧v.cell? ⟨bi,i,none⟩=some (.int .i64 XSI)∧v.cell? ⟨bi,k,none⟩=some (.int .i64 XSK)∧BelowL w v)
   (first | exact MK.out _ hb1 | exact MK.out _ (BelowL.start _))
   (first
     | (go_at_fn h;((with_reducible refine (CC.out _ (limb5 (by assumption))).mono ?_);rintro e v1 ⟨cc,rfl,hcc,hq1⟩;have hb1:=BelowL.call (limb5 (by assumption)) hq1)))
 have HC:=Lib.hid hcc
 have HBF:=Lib.hid hb1
 clear hcc hb1 MK CC
 go_wp2_with fail
 go_ret
 exact ⟨cc,rfl,HC.out,HBF.out.out⟩
set_option maxRecDepth 100000 in
set_option maxHeartbeats 1600000 in
theorem seq6 (h:Nat) (lb:Array Value) (bi n cp:Nat) (xs:Nat→Int) (key:Int→Int) (w:World) (eh: ∀args w,(callFunc h args).run Tryz.prog w= .ok (.enter h args) w) (hn:n≤100000) (hn0:0<n) (ci:(∀k,k<n→w.cell? ⟨bi,k,none⟩=some (.int .i64 (xs k)))) (zi:bi<w.heap.size)
   (hord: ∀v,Below w.heap.size w v→ ∀i k,i<n→k<n→Calls Tryz.prog h (#[.int .i64 (xs i), .int .i64 (xs k)]++lb) v fun e v'=> ∃c:Int,e= .returned (.int .i64 c)∧(c<0↔key i<key k)∧Below v.heap.size v v'):
   Calls Tryz.prog 126 #[.slice (some ⟨bi,0,none⟩) n cp, .func (.func h) #[] lb] w fun e w'=> ∃(f:Nat→Int) (blk:Nat),e= .returned (.slice (some ⟨blk,0,none⟩) n n)∧w.heap.size≤blk∧Own w' blk n n (gen n f)∧Good key f 0 n∧Below w.heap.size w w':=by
 have CI:Aside _:=ci
 have OR:Aside _:=hord
 clear ci hord
 go_enter Tryz.func126,Tryz.ntmps126
 go_wp2_with (at_make;refine wp_make _ rfl _ _ rfl .i64 .i64 n n n rfl rfl rfl rfl (by omega) ?_;intro M hM)
 have HB0:=Lib.hid (bAlloc (bAlloc (Below.refl w.heap.size w) (.cells #[.slice (some ⟨bi,0,none⟩) n cp] 25)) (.cells #[.func (.func h) #[] lb] 59))
 obtain ⟨wo,hwo⟩: ∃wo:World,wo=(w.alloc (.cells #[.slice (some ⟨bi,0,none⟩) n cp] 25)).alloc (.cells #[.func (.func h) #[] lb] 59):=⟨_,rfl⟩
 have KS:Hid (Blk wo w.heap.size 25 #[.slice (some ⟨bi,0,none⟩) n cp]):=Lib.hid (by rw [hwo];exact (Blk.new w _ _).alloc _)
 have KO:Hid (Blk wo (w.heap.size+1) 59 #[.func (.func h) #[] lb]):=Lib.hid (by rw [hwo];exact Blk.new' _ _ (by simp))
 have zw:wo.heap.size=w.heap.size+1+1:=by rw [hwo];simp
 try rw [←hwo] at hM
 rw [←hwo] at HB0⊢
 clear hwo
 have HM:Hid (Own (wo.alloc (.cells M 3)) (w.heap.size+1+1) n n (List.replicate n 0)):=Lib.hid (by have h:=hM.own wo;rw [zw] at h;exact h)
 have HMB:=Lib.hid (bAlloc (Below.refl wo.heap.size wo) (.cells M 3))
 clear hM
 have ZW:=Lib.hid zw
 clear zw
 go_wp2_with fail
 go_loopw [12] (fun i wr=> ∃k:Nat,k≤n∧i= .int .i64 k∧Hid (Own wr (w.heap.size+1+1) n n (filled (gen n (fun k=>(k:Int))) (List.replicate n 0) k))∧Hid (Below wo.heap.size wo wr)) (fun i _=>n - (intOf i).toNat)
 case atStart=>exact ⟨0,Nat.zero_le _,rfl,Lib.hid (by rw [filled_zero];exact HM.out),HMB⟩
 case round=>
   clear HM HMB
   obtain ⟨k,hk,rfl,ho,hg⟩:=hrel
   by_cases hlt:k<n
   · have h2:wr.cell? ⟨w.heap.size+1+1,k,none⟩=some (.int .i64 ((filled (gen n (fun k=>(k:Int))) (List.replicate n 0) k).getD k 0)):=ho.out.cell hlt
     have h3:wr.frozen? ⟨w.heap.size+1+1,k,none⟩=false:=ho.out.frozen k
     have hs:=ho.out.set k (k:Int)
     rw [filled_succ (gen n (fun k=>(k:Int))) _ k _ (by rw [gen_len];exact hlt) (by simp;omega) (gen_get _ _ _ hlt)] at hs
     have HS:=Lib.hid hs
     clear hs ho
     go_wp2_with fail
     go_roundw
     case rel=>exact ⟨k+1,by omega,by go_num,HS,Lib.hid (hg.out.setCell (by have:=ZW.out;show wo.heap.size≤w.heap.size+1+1;omega) _)⟩
     case measure=>simp [intOf];omega
   · obtain rfl:k=n:=by omega
     have HR:Hid (Own wr (w.heap.size+1+1) k k (gen k (fun k=>(k:Int)))):=Lib.hid (by have h:=ho.out;have e:=filled_all (gen k (fun k=>(k:Int))) (List.replicate k 0) (by simp [gen_len]);rw [gen_len] at e;rwa [e] at h)
     have HW:=Lib.hid (HB0.out.trans (hg.out.mono HB0.out.size))
     have KS2:=Lib.hid (KS.out.below hg.out KS.out.lt)
     have KO2:=Lib.hid (KO.out.below hg.out KO.out.lt)
     clear ho hg
     have CM:Hid (CmpN 157 #[.pointer (some ⟨w.heap.size+1,0,none⟩), .pointer (some ⟨w.heap.size,0,none⟩)] key (w.heap.size+1+1) k wr):=Lib.hid (by
       intro W hW x y x0 x1 y0 y1
       obtain ⟨i,rfl⟩: ∃i:Nat,x=i:=⟨x.toNat,by omega⟩
       obtain ⟨j,rfl⟩: ∃j:Nat,y=j:=⟨y.toNat,by omega⟩
       have zw:=ZW.out
       have zr:=HR.out.lt
       have o1:=KO2.out.grown hW (by intro e;have:=Option.some.inj e;omega)
       have s1:=KS2.out.grown hW (by intro e;have:=Option.some.inj e;omega)
       have wb:Below w.heap.size w W:=HW.out.grown hW (by omega) (by intro k hk;cases hk;omega)
       have hh:=seqC6 h lb (w.heap.size+1) w.heap.size bi k cp i j xs (key i<key j) W eh (by rw [o1.cell];rfl) (by rw [s1.cell];rfl) (fun t ht=>(wb.cell (p:=⟨bi,t,none⟩) zi).trans (CI.out t ht)) o1.lt s1.lt (Nat.lt_of_lt_of_le zi wb.size) (by omega) (by omega) (fun v hv=>OR.out v (wb.trans (hv.mono wb.size)) i j (by omega) (by omega))
       exact hh)
     have EG:Hid (∀args w,(callFunc 157 args).run Tryz.prog w= .ok (.enter 157 args) w):=Lib.hid (enters6 _ _ _ Tryz.func157 (by kernel_rfl) rfl)
     go_wp2_with fail
     refine (sortStable5 157 _ key (w.heap.size+1+1) k _ EG.out CM.out HR.out hn hn0).mono ?_
     rintro ex w2 ⟨f,rfl,ho,hg,hi⟩
     have HR2:=Lib.hid ho
     have HI2:=Lib.hid hi
     have HW2:=Lib.hid (HW.out.grown hg (by have:=HR.out.lt;have:=ZW.out;omega) (by intro k hk;cases hk;have:=ZW.out;omega))
     clear ho hg hi
     go_wp2_with fail
     go_ret
     exact ⟨f,_,rfl,by have:=ZW.out;omega,HR2.out,HI2.out,HW2.out⟩
def placesTo (xs:List Int) (v:Int) (k:Nat):List Int:=((List.range k).filter (fun i=>decide (xs.getD i 0=v))).map (fun (i:Nat)=>(i:Int))
theorem places_yes {xs:List Int} {v:Int} {k:Nat} (h:xs.getD k 0=v):placesTo xs v (k+1)=placesTo xs v k++ [(k:Int)]:=by
 unfold placesTo
 rw [List.range_succ,List.filter_append]
 simp [List.getD] at h⊢
 simp [h]
theorem places_no {xs:List Int} {v:Int} {k:Nat} (h: ¬xs.getD k 0=v):placesTo xs v (k+1)=placesTo xs v k:=by
 unfold placesTo
 rw [List.range_succ,List.filter_append]
 simp [List.getD] at h⊢
 simp [h]
theorem places_len (xs:List Int) (v:Int) (k:Nat):(placesTo xs v k).length≤k:=by
 unfold placesTo
 have:=List.length_filter_le (fun i=>decide (xs.getD i 0=v)) (List.range k)
 simpa using this
theorem places_mem {xs:List Int} {v:Int} {k:Nat} {x:Int}:x ∈ placesTo xs v k↔ ∃i:Nat,x=i∧i<k∧xs.getD i 0=v:=by
 unfold placesTo
 simp only [List.mem_map,List.mem_filter,List.mem_range,decide_eq_true_eq]
 constructor
 · rintro ⟨i,⟨h1,h2⟩,rfl⟩;exact ⟨i,rfl,h1,h2⟩
 · rintro ⟨i,rfl,h1,h2⟩;exact ⟨i,⟨h1,h2⟩,rfl⟩
theorem places_at {xs:List Int} {v:Int} {k j:Nat} (h:j<(placesTo xs v k).length): ∃i:Nat,(placesTo xs v k).getD j 0=(i:Int)∧i<k∧xs.getD i 0=v:=by
 have hm:(placesTo xs v k).getD j 0 ∈ placesTo xs v k:=by
   simp [List.getD,List.getElem?_eq_getElem h]
 exact places_mem.1 hm
theorem places_up (xs:List Int) (v:Int) (k:Nat):(placesTo xs v k).Pairwise (·<·):=by
 unfold placesTo
 rw [List.pairwise_map]
 exact (List.Pairwise.filter _ (List.pairwise_lt_range)).imp (fun h=>by omega)
theorem places_lt {xs:List Int} {v:Int} {k i j:Nat} (h:i<j) (hj:j<(placesTo xs v k).length):(placesTo xs v k).getD i 0<(placesTo xs v k).getD j 0:=by
 have hp:=List.pairwise_iff_getElem.1 (places_up xs v k) i j (by omega) hj h
 simpa [List.getD,List.getElem?_eq_getElem hj,List.getElem?_eq_getElem (show i<(placesTo xs v k).length by omega)] using hp
theorem places_on {xs:List Int} {v:Int} {k i:Nat} (h1:i<k) (h2:xs.getD i 0=v): ∃j,j<(placesTo xs v k).length∧(placesTo xs v k).getD j 0=(i:Int):=by
 obtain ⟨j,hj,e⟩:=List.mem_iff_getElem.1 (places_mem.2 ⟨i,rfl,h1,h2⟩)
 exact ⟨j,hj,by simp [List.getD,List.getElem?_eq_getElem hj,e]⟩
theorem sorted_best {xs:List Int} {v:Int} {n:Nat} {c:Nat→Int} {f:Nat→Int} {d:Nat} (hd:(placesTo xs v n).length=d) (h0:0<d)
   (hg:Good (fun t=>c ((placesTo xs v n).getD t.toNat 0).toNat) f 0 d):BestIs n xs v c ((placesTo xs v n).getD (f 0).toNat 0):=by
 have hv: ∀k,k<d→(0:Int)≤f k∧f k<d:=fun k hk=>by have:=hg.2 k (Nat.zero_le _) hk;omega
 have f0:=hv 0 h0
 obtain ⟨i,e1,e2,e3⟩:=places_at (xs:=xs) (v:=v) (k:=n) (j:=(f 0).toNat) (by omega)
 refine Or.inr ⟨i,e1,e2,e3,fun j hj hjv=>?_⟩
 obtain ⟨q,q1,q2⟩:=places_on hj hjv
 obtain ⟨p,p1,p2⟩:=place_onto (i:=q) hg (by omega)
 have key0:c ((placesTo xs v n).getD (f 0).toNat 0).toNat=c i:=by rw [e1];rfl
 have keyp:c ((placesTo xs v n).getD (f p).toNat 0).toNat=c j:=by rw [p2,Int.toNat_natCast,q2];rfl
 by_cases hp:p=0
 · subst hp
   have:i=j:=by
     rw [p2,Int.toNat_natCast,q2] at e1
     omega
   subst this
   exact ⟨Int.le_refl _,fun h=>by omega⟩
 · have hr:=hg.1 0 p (Nat.le_refl _) (by omega) p1
   unfold RL at hr
   simp only [key0,keyp] at hr
   refine ⟨by omega,fun hji=>?_⟩
   rcases hr with h | ⟨h,hlt⟩
   · exact h
   · exfalso
     have:=places_lt (xs:=xs) (v:=v) (k:=n) (i:=(f 0).toNat) (j:=(f p).toNat) (by have:=hv p p1;omega) (by have:=hv p p1;omega)
     rw [e1,p2,Int.toNat_natCast,q2] at this
     omega
set_option maxHeartbeats 400000 in
theorem impl_shorterWay (a b n:Int) (w:World) (h1:1≤n) (h2:n≤256) (h3:0≤a) (h4:a≤256) (h5:0≤b) (h6:b≤256):
   Calls Tryz.prog 225 #[.int .i64 a, .int .i64 b, .int .i64 n] w fun e w'=>e= .returned (.int .i64 (wayG (b - a) n))∧w=w':=by
 have b1:=Int.emod_nonneg (b - a) (show n≠0 by omega)
 have b2:=Int.emod_lt_of_pos (b - a) (show 0<n by omega)
 go_enter Tryz.func225,Tryz.ntmps225
 go_wp2_with fail
 refine (impl_remainder _ _ _ h1 (by omega)).mono ?_
 rintro e w2 ⟨rfl,rfl⟩
 go_wp2_with fail
 all_goals (go_ret;exact ⟨ret_int (by unfold wayG;omega),rfl⟩)
theorem place_bd {W H:Int} {n i:Nat} (hW:1≤W) (hW2:W≤256) (hn:(n:Int)=W*H) (hn2:n≤256) (hi:i<n): ∃P Q:Int,(i:Int) % W=P∧(i:Int)/W=Q∧(i:Int).tmod W=P∧(i:Int).tdiv W=Q∧0≤P∧P≤255∧0≤Q∧Q≤255:=by
 refine ⟨_,_,rfl,rfl,Int.tmod_eq_emod_of_nonneg (by omega),Int.tdiv_eq_ediv_of_nonneg (by omega),Int.emod_nonneg _ (by omega),?_,Int.ediv_nonneg (by omega) (by omega),?_⟩
 · have:=Int.emod_lt_of_pos (i:Int) (show 0<W by omega);omega
 · have:=Int.ediv_le_self (b:=W) (show 0≤(i:Int) by omega);omega
set_option maxHeartbeats 800000 in
theorem impl_torusSquare (W H:Int) (n i k:Nat) (w:World) (hW:1≤W) (hW2:W≤256) (hH:1≤H) (hH2:H≤256) (hn:(n:Int)=W*H) (hn2:n≤256) (hi:i<n) (hk:k<n):
   Calls Tryz.prog 213 #[.int .i64 W, .int .i64 H, .agg #[.int .i64 ((i:Int) % W), .int .i64 ((i:Int)/W)], .agg #[.int .i64 ((k:Int) % W), .int .i64 ((k:Int)/W)]] w fun e w'=>e= .returned (.int .i64 (farG W H i k))∧Below w.heap.size w w':=by
 rw [farG_symm hW hH]
 obtain ⟨P,Q,hP,hQ,tP,tQ,p0,p1,q0,q1⟩:=place_bd hW hW2 hn hn2 hi
 obtain ⟨P',Q',hP',hQ',tP',tQ',p0',p1',q0',q1'⟩:=place_bd hW hW2 hn hn2 hk
 have HE:Hid (farG W H k i=wayG (P' - P) W*wayG (P' - P) W+wayG (Q' - Q) H*wayG (Q' - Q) H):=Lib.hid (by unfold farG;rw [hP,hQ,hP',hQ'])
 rw [hP,hQ,hP',hQ']
 obtain ⟨x1,x2⟩:=wayG_bd (d:=P' - P) hW
 obtain ⟨y1,y2⟩:=wayG_bd (d:=Q' - Q) hH
 obtain ⟨X,hX⟩: ∃X,wayG (P' - P) W=X:=⟨_,rfl⟩
 obtain ⟨Y,hY⟩: ∃Y,wayG (Q' - Q) H=Y:=⟨_,rfl⟩
 rw [hX] at x1 x2
 rw [hY] at y1 y2
 have m1:=Int.mul_le_mul x2 x2 x1 (by omega)
 have m2:=Int.mul_le_mul y2 y2 y1 (by omega)
 have m3:=Int.mul_le_mul hW2 hW2 (by omega) (by omega)
 have m4:=Int.mul_le_mul hH2 hH2 (by omega) (by omega)
 have m5:=sq_nn x1
 have m6:=sq_nn y1
 have u7:IntKind.i64.wrap (X*X)=X*X:=IntWalk.i64_in _ (by omega)
 have u8:IntKind.i64.wrap (Y*Y)=Y*Y:=IntWalk.i64_in _ (by omega)
 have u9:IntKind.i64.wrap (X*X+Y*Y)=X*X+Y*Y:=IntWalk.i64_in _ (by omega)
 rw [hX,hY] at HE
 have HX:=Lib.hid hX
 have HY:=Lib.hid hY
 clear hP hQ hP' hQ' tP tQ tP' tQ' hX hY m1 m2 m3 m4 m5 m6 hn hi hk
 go_enter Tryz.func213,Tryz.ntmps213
 go_wp2_with fail
 have ka:=(Blk.new w 149 #[.int .i64 P, .int .i64 Q]).alloc (.cells #[.int .i64 P', .int .i64 Q'] 149)
 have kb:=Blk.new' (g:=w.heap.size+1) (w:=w.alloc (.cells #[.int .i64 P, .int .i64 Q] 149)) 149 #[.int .i64 P', .int .i64 Q'] (by simp)
 have a0:=ka.cell 0
 have a1:=ka.cell 1
 have b0:=kb.cell 0
 have b1:=kb.cell 1
 simp only [List.getElem?_toArray,List.getElem?_cons_zero,List.getElem?_cons_succ] at a0 a1 b0 b1
 go_region_held3 (fun v=>v.cell? ⟨w.heap.size,0,none⟩=some (.int .i64 P)∧v.cell? ⟨w.heap.size,1,none⟩=some (.int .i64 Q)∧v.cell? ⟨w.heap.size+1,0,none⟩=some (.int .i64 P')∧v.cell? ⟨w.heap.size+1,1,none⟩=some (.int .i64 Q'))
   (first | exact ⟨a0,a1,b0,b1⟩)
   (first
     | (go_at_call 225;((with_reducible refine (impl_shorterWay _ _ _ _ (by omega) (by omega) (by omega) (by omega) (by omega) (by omega)).mono ?_);rintro e v1 ⟨rfl,rfl⟩;first | rw [HX.out] | rw [HY.out])))
 all_goals (
   go_wp2_with fail
   go_ret
   exact ⟨ret_int HE.out.symm,((Joins.below_alloc2 w _ _).drew)⟩)
set_option maxHeartbeats 400000 in
theorem impl_IsField (W H:Int) (ad:Option Addr) (n cap:Nat) (xs:List Int) (w:World) (hn:xs.length=n) (ha:Rd w ad xs) (hl:n≤9223372036854775807):
   Calls Tryz.prog 159 #[.agg #[.int .i64 W, .int .i64 H, .slice ad n cap]] w fun e w'=>e= .returned (.bool (fieldOk W H xs))∧Below w.heap.size w w':=by
 have HN:=Lib.hid hn
 have HA:=Lib.hid ha
 clear hn ha
 go_enter Tryz.func159,Tryz.ntmps159
 go_wp2_with fail
 refine (impl_IsPlate _ _ _ _ _ xs _ HN.out (by exact HA.out.alloc _) hl).mono ?_
 rintro e w1 ⟨rfl,hb⟩
 have HB1:=Lib.hid ((Joins.below_alloc1 _ _).trans (hb.mono (by simp)))
 have KP1:=Lib.hid ((Blk.new w 27 #[.int .i64 W, .int .i64 H, .slice ad n cap]).below' hb)
 obtain ⟨l1,c0,c1,c2⟩:=KP1.out.c3
 clear hb
 have E:Hid (fieldOk W H xs=(picOk W H xs 1 && decide (n≤256))):=Lib.hid (by unfold fieldOk;rw [HN.out])
 obtain ⟨P,hP⟩: ∃P,picOk W H xs 1=P:=⟨_,rfl⟩
 rw [hP] at E⊢
 clear hP
 cases P
 · go_wp2_with fail
   go_ret
   exact ⟨ret_bool (by rw [E.out];rfl),HB1.out⟩
 · go_wp2_with fail
   go_ret
   exact ⟨ret_bool (by rw [E.out,Bool.true_and];exact decide_eq_decide.2 (by omega)),HB1.out⟩
theorem far_bd {W H:Int} (hW:1≤W) (hW2:W≤256) (hH:1≤H) (hH2:H≤256) (i k:Nat):0≤farG W H i k∧farG W H i k≤131072:=by
 refine ⟨far_nn hW hH i k,?_⟩
 unfold farG
 obtain ⟨x1,x2⟩:=wayG_bd (d:=(i:Int) % W - (k:Int) % W) hW
 obtain ⟨y1,y2⟩:=wayG_bd (d:=(i:Int)/W - (k:Int)/W) hH
 have m1:=Int.mul_le_mul (show wayG ((i:Int) % W - (k:Int) % W) W≤256 by omega) (show wayG ((i:Int) % W - (k:Int) % W) W≤256 by omega) x1 (by omega)
 have m2:=Int.mul_le_mul (show wayG ((i:Int)/W - (k:Int)/W) H≤256 by omega) (show wayG ((i:Int)/W - (k:Int)/W) H≤256 by omega) y1 (by omega)
 omega
end Go.Proofs.YtanccoopbgamdaaGreatDoor
