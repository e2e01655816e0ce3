/-
  Contracts and plain facts on which the theorem of this claim rests, text 29.
-/
import Derived.Deep.RegionWith
import Derived.Test.YtanccoopbgamdaaGreatDoorKC27
import Derived.Test.YtanccoopbgamdaaGreatDoorKC28
namespace Go.Proofs.YtanccoopbgamdaaGreatDoor
open Go.RowKit
set_option linter.unusedVariables false
set_option linter.unusedSimpArgs false
set_option maxHeartbeats 400000 in
theorem impl_way5 (a b n:Int) (w:World) (h1:1≤n) (h2:n≤1000) (h3:-1000000≤a) (h4:a≤1000000) (h5:-1000000≤b) (h6:b≤1000000):
   Calls Tryz.prog 225 #[.int .i64 a, .int .i64 b, .int .i64 n] w fun e w'=>e= .returned (.int .i64 (wayG (b - a) n))∧w=w':=by
 have b1:=Int.emod_nonneg (b - a) (show n≠0 by omega)
 have b2:=Int.emod_lt_of_pos (b - a) (show 0<n by omega)
 go_enter Tryz.func225,Tryz.ntmps225
 go_wp2_with fail
 refine (rem5 _ _ _ h1 (by omega)).mono ?_
 rintro e w2 ⟨rfl,rfl⟩
 go_wp2_with fail
 all_goals (go_ret;exact ⟨ret_int (by unfold wayG;omega),rfl⟩)
set_option maxHeartbeats 800000 in
theorem impl_torus5 (n X Y:Int) (w:World) (h1:1≤n) (h2:n≤1000) (h3:-1000000≤X) (h4:X≤1000000) (h5:-1000000≤Y) (h6:Y≤1000000):
   Calls Tryz.prog 213 #[.int .i64 n, .int .i64 n, .agg #[.int .i64 0, .int .i64 0], .agg #[.int .i64 X, .int .i64 Y]] w fun e w'=>e= .returned (.int .i64 (wayG X n*wayG X n+wayG Y n*wayG Y n))∧Below w.heap.size w w':=by
 obtain ⟨x1,x2⟩:=wayG_bd (d:=X) h1
 obtain ⟨y1,y2⟩:=wayG_bd (d:=Y) h1
 obtain ⟨S,hS⟩: ∃S,wayG X n=S:=⟨_,rfl⟩
 obtain ⟨T,hT⟩: ∃T,wayG Y n=T:=⟨_,rfl⟩
 rw [hS] at x1 x2⊢
 rw [hT] at y1 y2⊢
 obtain ⟨m1,m2⟩:=sq_bdN (x:=S) (m:=1000) (by omega) (by omega)
 obtain ⟨m3,m4⟩:=sq_bdN (x:=T) (m:=1000) (by omega) (by omega)
 have HX:Hid (wayG (X - 0) n=S):=Lib.hid (by rw [Int.sub_zero];exact hS)
 have HY:Hid (wayG (Y - 0) n=T):=Lib.hid (by rw [Int.sub_zero];exact hT)
 clear hS hT
 go_enter Tryz.func213,Tryz.ntmps213
 go_wp2_with fail
 have ka:=(Blk.new w 149 #[.int .i64 0, .int .i64 0]).alloc (.cells #[.int .i64 X, .int .i64 Y] 149)
 have kb:=Blk.new' (g:=w.heap.size+1) (w:=w.alloc (.cells #[.int .i64 0, .int .i64 0] 149)) 149 #[.int .i64 X, .int .i64 Y] (by simp)
 have a0:=ka.cell 0
 have a1:=ka.cell 1
 have b0:=kb.cell 0
 have b1:=kb.cell 1
 simp only [List.getElem?_toArray,List.getElem?_cons_zero,List.getElem?_cons_succ] at a0 a1 b0 b1
 go_region_held3 (fun v=>v.cell? ⟨w.heap.size,0,none⟩=some (.int .i64 0)∧v.cell? ⟨w.heap.size,1,none⟩=some (.int .i64 0)∧v.cell? ⟨w.heap.size+1,0,none⟩=some (.int .i64 X)∧v.cell? ⟨w.heap.size+1,1,none⟩=some (.int .i64 Y))
   (first | exact ⟨a0,a1,b0,b1⟩)
   (first
     | (go_at_call 225;((with_reducible refine (impl_way5 _ _ _ _ (by omega) (by omega) (by omega) (by omega) (by omega) (by omega)).mono ?_);rintro e v1 ⟨rfl,rfl⟩;first | rw [HX.out] | rw [HY.out])))
 all_goals (
   go_wp2_with fail
   go_ret
   exact ⟨rfl,((Joins.below_alloc2 w _ _).drew)⟩)
theorem near_mod2 {A B n g d a b p q:Int} (L:Lat A B n g d a b p q) (x y:Int):
   (wayG (x % n*A+y % n*B) n*wayG (x % n*A+y % n*B) n+wayG (y % n*A - x % n*B) n*wayG (y % n*A - x % n*B) n).tdiv n=nearF A B x y∧
   0≤wayG (x % n*A+y % n*B) n*wayG (x % n*A+y % n*B) n+wayG (y % n*A - x % n*B) n*wayG (y % n*A - x % n*B) n∧
   wayG (x % n*A+y % n*B) n*wayG (x % n*A+y % n*B) n+wayG (y % n*A - x % n*B) n*wayG (y % n*A - x % n*B) n≤200000:=by
 have hn:=L.n1;have hn2:=L.n2
 have h:=L.near_n (x % n) (y % n)
 rw [L.near_mod] at h
 obtain ⟨x1,x2⟩:=wayG_bd (d:=x % n*A+y % n*B) hn
 obtain ⟨y1,y2⟩:=wayG_bd (d:=y % n*A - x % n*B) hn
 obtain ⟨m1,m2⟩:=sq_bdN (x:=wayG (x % n*A+y % n*B) n) (m:=288) (by omega) (by omega)
 obtain ⟨m3,m4⟩:=sq_bdN (x:=wayG (y % n*A - x % n*B) n) (m:=288) (by omega) (by omega)
 refine ⟨?_,by omega,by omega⟩
 rw [←h]
 exact Int.mul_tdiv_cancel_left _ (by omega)
set_option maxHeartbeats 1600000 in
theorem impl_nearSquare {A B n g d a b p q:Int} (L:Lat A B n g d a b p q) (x y R:Int) (hR:nearF A B x y=R) (w:World):
   Calls Tryz.prog 189 #[.agg #[.int .i64 A, .int .i64 B], .agg #[.int .i64 x, .int .i64 y]] w fun e w'=>e= .returned (.int .i64 R)∧Below w.heap.size w w':=by
 have n1:=L.n1;have n2:=L.n2
 have a1:=L.a1;have a2:=L.a2;have b1:=L.b1;have b2:=L.b2
 obtain ⟨q1,q2,q3⟩:=near_mod2 L x y
 rw [hR] at q1
 obtain ⟨U,hU⟩: ∃U,x % n=U:=⟨_,rfl⟩
 obtain ⟨V,hV⟩: ∃V,y % n=V:=⟨_,rfl⟩
 have u1:=Int.emod_nonneg x (show n≠0 by omega)
 have u2:=Int.emod_lt_of_pos x (show 0<n by omega)
 have v1:=Int.emod_nonneg y (show n≠0 by omega)
 have v2:=Int.emod_lt_of_pos y (show 0<n by omega)
 rw [hU] at u1 u2 q1 q2 q3
 rw [hV] at v1 v2 q1 q2 q3
 obtain ⟨p1,p2⟩:=prod_bd (u:=U) (m:=288) (A:=A) (by omega) (by omega) (by omega) (by omega) a2
 obtain ⟨p3,p4⟩:=prod_bd (u:=U) (m:=288) (A:=B) (by omega) (by omega) (by omega) b1 b2
 obtain ⟨p5,p6⟩:=prod_bd (u:=V) (m:=288) (A:=A) (by omega) (by omega) (by omega) (by omega) a2
 obtain ⟨p7,p8⟩:=prod_bd (u:=V) (m:=288) (A:=B) (by omega) (by omega) (by omega) b1 b2
 obtain ⟨X,hX⟩: ∃X,U*A+V*B=X:=⟨_,rfl⟩
 obtain ⟨Y,hY⟩: ∃Y,V*A - U*B=Y:=⟨_,rfl⟩
 rw [hX,hY] at q1 q2 q3
 obtain ⟨D,hD⟩: ∃D,wayG X n*wayG X n+wayG Y n*wayG Y n=D:=⟨_,rfl⟩
 rw [hD] at q1 q2 q3
 have r0:0≤R:=by rw [←hR];exact L.near_nn x y
 have HL:=Lib.hid L
 have HU:=Lib.hid hU
 have HV:=Lib.hid hV
 have HD:=Lib.hid hD
 have HQ:=Lib.hid q1
 have z1: ¬n=0:=by omega
 have z2:(n==0)=false:=by simp;omega
 clear L hR hU hV hD q1
 go_enter Tryz.func189,Tryz.ntmps189
 go_wp2_with fail
 refine (impl_AreaOf_yes HL.out _).mono ?_
 rintro e w1 ⟨rfl,hb⟩
 have HB1:=Lib.hid (bTrans (Joins.below_alloc2 _ _ _) hb)
 have KA1:=Lib.hid (((Blk.new w 126 #[.int .i64 A, .int .i64 B]).alloc (.cells #[.int .i64 x, .int .i64 y] 149)).below' hb)
 have KC1:=Lib.hid ((Blk.new' (g:=w.heap.size+1) (w:=w.alloc (.cells #[.int .i64 A, .int .i64 B] 126)) 149 #[.int .i64 x, .int .i64 y] (by simp)).below' hb)
 obtain ⟨z,c0,c1⟩:=KA1.out.c2
 obtain ⟨y',d0,d1⟩:=KC1.out.c2
 clear hb
 go_wp2_with fail
 go_region_held3 (fun v=>v.cell? ⟨w.heap.size+1,0,none⟩=some (.int .i64 x)∧v.cell? ⟨w.heap.size+1,1,none⟩=some (.int .i64 y))
   (first | exact ⟨d0,d1⟩)
   (first
     | (go_at_call 68;((with_reducible refine (rem5 _ _ _ n1 (by omega)).mono ?_);rintro e v1 ⟨rfl,rfl⟩;first | rw [HU.out] | rw [HV.out])))
 have l0:w1.drew.cell? ⟨w.heap.size,0,none⟩=some (.int .i64 A):=c0
 have l1:w1.drew.cell? ⟨w.heap.size,1,none⟩=some (.int .i64 B):=c1
 go_wp2_with fail
 refine (impl_torus5 n X Y _ n1 (by omega) (by omega) (by omega) (by omega) (by omega)).mono ?_
 rw [HD.out]
 rintro e w2 ⟨rfl,hb⟩
 have HB2:=Lib.hid (bTrans (bAlloc HB1.out (.cells #[.int .i64 X, .int .i64 Y] 149)).drew hb)
 clear hb
 have e0:0≤D/n:=Int.ediv_nonneg q2 (by omega)
 have e1:D/n≤200000:=Int.le_trans (Int.ediv_le_self _ q2) q3
 have HE:Hid (D/n=R):=Lib.hid (by rw [←Int.tdiv_eq_ediv_of_nonneg q2];exact HQ.out)
 go_wp2_with fail
 go_ret
 exact ⟨ret_int HE.out,HB2.out⟩
set_option maxHeartbeats 400000 in
theorem isNaN5 (x:Int) (w:World):
   Calls Tryz.prog 158 #[.int .i64 x] w fun e w'=>e= .returned (.bool false)∧w=w':=by
 have h:(x !=x)=false:=by simp
 go_enter Tryz.func158,Tryz.ntmps158
 go_wp2_with fail
 go_ret
 exact ⟨rfl,rfl⟩
set_option maxHeartbeats 800000 in
theorem cmp5 (x y:Int) (w:World):
   Calls Tryz.prog 127 #[.int .i64 x, .int .i64 y] w fun e w'=> ∃c:Int,e= .returned (.int .i64 c)∧(c<0↔x<y)∧w=w':=by
 go_enter Tryz.func127,Tryz.ntmps127
 go_wp2_with fail
 refine (isNaN5 _ _).mono ?_
 rintro e w1 ⟨rfl,rfl⟩
 go_wp2_with fail
 refine (isNaN5 _ _).mono ?_
 rintro e w1 ⟨rfl,rfl⟩
 by_cases h1:x<y
 · go_wp2_with fail
   go_ret
   exact ⟨-1,rfl,by constructor <;>intro <;>omega,rfl⟩
 · by_cases h2:y<x
   · go_wp2_with fail
     go_ret
     exact ⟨1,rfl,by constructor <;>intro <;>omega,rfl⟩
   · go_wp2_with fail
     go_ret
     exact ⟨0,rfl,by constructor <;>intro <;>omega,rfl⟩
set_option maxRecDepth 100000 in
set_option maxHeartbeats 1600000 in
theorem nearOrd {A B n g d a b p q:Int} (L:Lat A B n g d a b p q) (x y u v:Int) (bl:Nat) (w:World) (hb:bl<w.heap.size) (c0:w.cell? ⟨bl,0,none⟩=some (.int .i64 A)) (c1:w.cell? ⟨bl,1,none⟩=some (.int .i64 B)):
   Calls Tryz.prog 188 #[.agg #[.int .i64 x, .int .i64 y], .agg #[.int .i64 u, .int .i64 v], .pointer (some ⟨bl,0,none⟩)] w fun e w'=> ∃c:Int,e= .returned (.int .i64 c)∧(c<0↔nearF A B x y<nearF A B u v)∧Below w.heap.size w w':=by
 obtain ⟨R1,hR1⟩: ∃R,nearF A B x y=R:=⟨_,rfl⟩
 obtain ⟨R2,hR2⟩: ∃R,nearF A B u v=R:=⟨_,rfl⟩
 have HL:=Lib.hid L
 have H1:=Lib.hid hR1
 have H2:=Lib.hid hR2
 rw [hR1,hR2]
 clear L hR1 hR2
 go_enter Tryz.func188,Tryz.ntmps188
 go_wp2_with fail
 have KX:=Lib.hid ((Blk.new w 149 #[.int .i64 x, .int .i64 y]).alloc (.cells #[.int .i64 u, .int .i64 v] 149))
 have KU:=Lib.hid (Blk.new' (g:=w.heap.size+1) (w:=w.alloc (.cells #[.int .i64 x, .int .i64 y] 149)) 149 #[.int .i64 u, .int .i64 v] (by simp))
 have HBo:=Lib.hid (Joins.below_alloc2 w (.cells #[.int .i64 x, .int .i64 y] 149) (.cells #[.int .i64 u, .int .i64 v] 149))
 obtain ⟨wo,hwo⟩: ∃wo:World,wo=(w.alloc (.cells #[.int .i64 x, .int .i64 y] 149)).alloc (.cells #[.int .i64 u, .int .i64 v] 149):=⟨_,rfl⟩
 rw [←hwo] at KX KU HBo⊢
 have l0:wo.cell? ⟨bl,0,none⟩=some (.int .i64 A):=(HBo.out.cell (p:=⟨bl,0,none⟩) hb).trans c0
 have l1:wo.cell? ⟨bl,1,none⟩=some (.int .i64 B):=(HBo.out.cell (p:=⟨bl,1,none⟩) hb).trans c1
 have lz:bl<wo.heap.size:=Nat.lt_of_lt_of_le hb HBo.out.size
 clear hwo c0 c1 hb
 obtain ⟨z1,x0,x1⟩:=KX.out.c2
 obtain ⟨z2,u0,u1⟩:=KU.out.c2
 have MK:Hid (∀t,BelowL wo t→t.cell? ⟨bl,0,none⟩=some (.int .i64 A)∧t.cell? ⟨bl,1,none⟩=some (.int .i64 B)∧t.cell? ⟨w.heap.size,0,none⟩=some (.int .i64 x)∧t.cell? ⟨w.heap.size,1,none⟩=some (.int .i64 y)∧t.cell? ⟨w.heap.size+1,0,none⟩=some (.int .i64 u)∧t.cell? ⟨w.heap.size+1,1,none⟩=some (.int .i64 v)∧BelowL wo t):=Lib.hid (fun t h=>⟨(h.out.cell lz).trans l0,(h.out.cell lz).trans l1,(h.out.cell z1).trans x0,(h.out.cell z1).trans x1,(h.out.cell z2).trans u0,(h.out.cell z2).trans u1,h⟩)
 go_region_held3 (fun t=>t.cell? ⟨bl,0,none⟩=some (.int .i64 A)∧t.cell? ⟨bl,1,none⟩=some (.int .i64 B)∧t.cell? ⟨w.heap.size,0,none⟩=some (.int .i64 x)∧t.cell? ⟨w.heap.size,1,none⟩=some (.int .i64 y)∧t.cell? ⟨w.heap.size+1,0,none⟩=some (.int .i64 u)∧t.cell? ⟨w.heap.size+1,1,none⟩=some (.int .i64 v)∧BelowL wo t)
   (first | exact MK.out _ hb3 | exact MK.out _ hb2 | exact MK.out _ hb1 | exact MK.out _ (BelowL.start _))
   (first
     | (go_at_call_of 189 (Value.int IntKind.i64 x);((with_reducible refine (impl_nearSquare HL.out x y _ H1.out _).mono ?_);rintro e v1 ⟨rfl,hq1⟩;have hb1:=BelowL.call (limb7 (by assumption)) hq1))
     | (go_at_call_of 189 (Value.int IntKind.i64 u);((with_reducible refine (impl_nearSquare HL.out u v _ H2.out _).mono ?_);rintro e v2 ⟨rfl,hq2⟩;have hb2:=BelowL.call (limb7 (by assumption)) hq2))
     | (go_at_call 127;((with_reducible refine (cmp5 _ _ _).mono ?_);rintro e v3 ⟨c,rfl,hc,rfl⟩;have hb3:=limb7 (by assumption))))
 have HC:=Lib.hid hc
 have HBF:=Lib.hid (bTrans HBo.out hb3.out)
 clear hc hb1 hb2 hb3 MK
 go_wp2_with fail
 go_ret
 exact ⟨c,rfl,HC.out,HBF.out⟩
theorem enters5 (f:Nat) (fn:Func) (c:Code) (hf:Tryz.prog.funcs[f]? =some fn) (hname:(fn.name== "runtime.NumGoroutine")=false) (hb:fn.body=some c): ∀args w,(callFunc f args).run Tryz.prog w= .ok (.enter f args) w:=enters_of hf hname hb
set_option maxRecDepth 100000 in
set_option maxHeartbeats 1600000 in
theorem seqCellC (h:Nat) (lb:Array Value) (bo bs bi n i k:Nat) (xs ys:Nat→Int) (K:Prop) (w:World) (eh: ∀args w,(callFunc h args).run Tryz.prog w= .ok (.enter h args) w)
   (co:w.cell? ⟨bo,0,none⟩=some (.func (.func h) #[] lb)) (ck:w.cell? ⟨bs,0,none⟩=some (.slice (some ⟨bi,0,none⟩) n n)) (ci:(∀k,k<n→w.cell? ⟨bi,k*2,none⟩=some (.int .i64 (xs k))∧w.cell? ⟨bi,k*2+1,none⟩=some (.int .i64 (ys k)))) (zo:bo<w.heap.size) (zs:bs<w.heap.size) (zi:bi<w.heap.size) (hi:i<n) (hk:k<n)
   (hord: ∀v,Below w.heap.size w v→Calls Tryz.prog h (#[.agg #[.int .i64 (xs i), .int .i64 (ys i)], .agg #[.int .i64 (xs k), .int .i64 (ys k)]]++lb) v fun e v'=> ∃c:Int,e= .returned (.int .i64 c)∧(c<0↔K)∧Below v.heap.size v v'):
   Calls Tryz.prog 214 #[.int .i64 i, .int .i64 k, .pointer (some ⟨bo,0,none⟩), .pointer (some ⟨bs,0,none⟩)] w fun e w'=> ∃c:Int,e= .returned (.int .i64 c)∧(c<0↔K)∧Below w.heap.size w w':=by
 obtain ⟨x0,x1⟩:=ci i hi
 obtain ⟨x2,x3⟩:=ci k hk
 obtain ⟨XSI,hxsi⟩: ∃zz,zz=xs i:=⟨_,rfl⟩
 obtain ⟨YSI,hysi⟩: ∃zz,zz=ys i:=⟨_,rfl⟩
 obtain ⟨XSK,hxsk⟩: ∃zz,zz=xs k:=⟨_,rfl⟩
 obtain ⟨YSK,hysk⟩: ∃zz,zz=ys k:=⟨_,rfl⟩
 rw [←hxsi] at x0
 rw [←hysi] at x1
 rw [←hxsk] at x2
 rw [←hysk] at x3
 try rw [←hxsi] at hord
 try rw [←hysi] at hord
 try rw [←hxsk] at hord
 try rw [←hysk] at hord
 have MK:Hid (∀v,BelowL w v→v.cell? ⟨bo,0,none⟩=some (.func (.func h) #[] lb)∧v.cell? ⟨bs,0,none⟩=some (.slice (some ⟨bi,0,none⟩) n n)∧v.cell? ⟨bi,i*2,none⟩=some (.int .i64 XSI)∧v.cell? ⟨bi,i*2+1,none⟩=some (.int .i64 YSI)∧v.cell? ⟨bi,k*2,none⟩=some (.int .i64 XSK)∧v.cell? ⟨bi,k*2+1,none⟩=some (.int .i64 YSK)∧BelowL w v):=Lib.hid (fun v hh=>⟨(hh.out.cell zo).trans co,(hh.out.cell zs).trans ck,(hh.out.cell zi).trans x0,(hh.out.cell zi).trans x1,(hh.out.cell zi).trans x2,(hh.out.cell zi).trans x3,hh⟩)
 have CC:Hid (∀v,BelowL w v→Calls Tryz.prog h (#[.agg #[.int .i64 XSI, .int .i64 YSI], .agg #[.int .i64 XSK, .int .i64 YSK]]++lb) v fun e v'=> ∃c:Int,e= .returned (.int .i64 c)∧(c<0↔K)∧Below v.heap.size v v'):=Lib.hid (fun v hv=>hord v hv.out)
 have pi:(i:Int)<(n:Int):=by omega
 have pk:(k:Int)<(n:Int):=by omega
 clear hord ci hxsi hysi hxsk hysk
 go_enter Tryz.func214,Tryz.ntmps214
 go_wp2_with fail
 go_region_held3 (fun v=>v.cell? ⟨bo,0,none⟩=some (.func (.func h) #[] lb)∧v.cell? ⟨bs,0,none⟩=some (.slice (some ⟨bi,0,none⟩) n n)∧v.cell? ⟨bi,i*2,none⟩=some (.int .i64 XSI)∧v.cell? ⟨bi,i*2+1,none⟩=some (.int .i64 YSI)∧v.cell? ⟨bi,k*2,none⟩=some (.int .i64 XSK)∧v.cell? ⟨bi,k*2+1,none⟩=some (.int .i64 YSK)∧BelowL w v)
   (first | exact MK.out _ hb1 | exact MK.out _ (BelowL.start _))
   (first
     | (go_at_fn h;((with_reducible refine (CC.out _ (limb7 (by assumption))).mono ?_);rintro e v1 ⟨cc,rfl,hcc,hq1⟩;have hb1:=BelowL.call (limb7 (by assumption)) hq1)))
 have HC:=Lib.hid hcc
 have HBF:=Lib.hid hb1
 clear hcc hb1 MK CC
 go_wp2_with fail
 go_ret
 exact ⟨cc,rfl,HC.out,HBF.out.out⟩
set_option maxRecDepth 100000 in
set_option maxHeartbeats 1600000 in
theorem seqCell (h:Nat) (lb:Array Value) (bi n:Nat) (xs ys:Nat→Int) (key:Int→Int) (w:World) (eh: ∀args w,(callFunc h args).run Tryz.prog w= .ok (.enter h args) w) (hn:n≤100000) (hn0:0<n) (ci:(∀k,k<n→w.cell? ⟨bi,k*2,none⟩=some (.int .i64 (xs k))∧w.cell? ⟨bi,k*2+1,none⟩=some (.int .i64 (ys k)))) (zi:bi<w.heap.size)
   (hord: ∀v,Below w.heap.size w v→ ∀i k,i<n→k<n→Calls Tryz.prog h (#[.agg #[.int .i64 (xs i), .int .i64 (ys i)], .agg #[.int .i64 (xs k), .int .i64 (ys k)]]++lb) v fun e v'=> ∃c:Int,e= .returned (.int .i64 c)∧(c<0↔key i<key k)∧Below v.heap.size v v'):
   Calls Tryz.prog 190 #[.slice (some ⟨bi,0,none⟩) n n, .func (.func h) #[] lb] w fun e w'=> ∃(f:Nat→Int) (blk:Nat),e= .returned (.slice (some ⟨blk,0,none⟩) n n)∧w.heap.size≤blk∧Own w' blk n n (gen n f)∧Good key f 0 n∧Below w.heap.size w w':=by
 have CI:Aside _:=ci
 have OR:Aside _:=hord
 clear ci hord
 go_enter Tryz.func190,Tryz.ntmps190
 go_wp2_with (at_make;refine wp_make _ rfl _ _ rfl .i64 .i64 n n n rfl rfl rfl rfl (by omega) ?_;intro M hM)
 have HB0:=Lib.hid (bAlloc (bAlloc (Below.refl w.heap.size w) (.cells #[.slice (some ⟨bi,0,none⟩) n n] 214)) (.cells #[.func (.func h) #[] lb] 218))
 obtain ⟨wo,hwo⟩: ∃wo:World,wo=(w.alloc (.cells #[.slice (some ⟨bi,0,none⟩) n n] 214)).alloc (.cells #[.func (.func h) #[] lb] 218):=⟨_,rfl⟩
 have KS:Hid (Blk wo w.heap.size 214 #[.slice (some ⟨bi,0,none⟩) n n]):=Lib.hid (by rw [hwo];exact (Blk.new w _ _).alloc _)
 have KO:Hid (Blk wo (w.heap.size+1) 218 #[.func (.func h) #[] lb]):=Lib.hid (by rw [hwo];exact Blk.new' _ _ (by simp))
 have zw:wo.heap.size=w.heap.size+1+1:=by rw [hwo];simp
 try rw [←hwo] at hM
 rw [←hwo] at HB0⊢
 clear hwo
 have HM:Hid (Own (wo.alloc (.cells M 3)) (w.heap.size+1+1) n n (List.replicate n 0)):=Lib.hid (by have h:=hM.own wo;rw [zw] at h;exact h)
 have HMB:=Lib.hid (bAlloc (Below.refl wo.heap.size wo) (.cells M 3))
 clear hM
 have ZW:=Lib.hid zw
 clear zw
 go_wp2_with fail
 go_loopw [12] (fun i wr=> ∃k:Nat,k≤n∧i= .int .i64 k∧Hid (Own wr (w.heap.size+1+1) n n (filled (gen n (fun k=>(k:Int))) (List.replicate n 0) k))∧Hid (Below wo.heap.size wo wr)) (fun i _=>n - (intOf i).toNat)
 case atStart=>exact ⟨0,Nat.zero_le _,rfl,Lib.hid (by rw [filled_zero];exact HM.out),HMB⟩
 case round=>
   clear HM HMB
   obtain ⟨k,hk,rfl,ho,hg⟩:=hrel
   by_cases hlt:k<n
   · have h2:wr.cell? ⟨w.heap.size+1+1,k,none⟩=some (.int .i64 ((filled (gen n (fun k=>(k:Int))) (List.replicate n 0) k).getD k 0)):=ho.out.cell hlt
     have h3:wr.frozen? ⟨w.heap.size+1+1,k,none⟩=false:=ho.out.frozen k
     have hs:=ho.out.set k (k:Int)
     rw [filled_succ (gen n (fun k=>(k:Int))) _ k _ (by rw [gen_len];exact hlt) (by simp;omega) (gen_get _ _ _ hlt)] at hs
     have HS:=Lib.hid hs
     clear hs ho
     go_wp2_with fail
     go_roundw
     case rel=>exact ⟨k+1,by omega,by go_num,HS,Lib.hid (hg.out.setCell (by have:=ZW.out;show wo.heap.size≤w.heap.size+1+1;omega) _)⟩
     case measure=>simp [intOf];omega
   · obtain rfl:k=n:=by omega
     have HR:Hid (Own wr (w.heap.size+1+1) k k (gen k (fun k=>(k:Int)))):=Lib.hid (by have h:=ho.out;have e:=filled_all (gen k (fun k=>(k:Int))) (List.replicate k 0) (by simp [gen_len]);rw [gen_len] at e;rwa [e] at h)
     have HW:=Lib.hid (HB0.out.trans (hg.out.mono HB0.out.size))
     have KS2:=Lib.hid (KS.out.below hg.out KS.out.lt)
     have KO2:=Lib.hid (KO.out.below hg.out KO.out.lt)
     clear ho hg
     have CM:Hid (CmpN 214 #[.pointer (some ⟨w.heap.size+1,0,none⟩), .pointer (some ⟨w.heap.size,0,none⟩)] key (w.heap.size+1+1) k wr):=Lib.hid (by
       intro W hW x y x0 x1 y0 y1
       obtain ⟨i,rfl⟩: ∃i:Nat,x=i:=⟨x.toNat,by omega⟩
       obtain ⟨j,rfl⟩: ∃j:Nat,y=j:=⟨y.toNat,by omega⟩
       have zw:=ZW.out
       have zr:=HR.out.lt
       have o1:=KO2.out.grown hW (by intro e;have:=Option.some.inj e;omega)
       have s1:=KS2.out.grown hW (by intro e;have:=Option.some.inj e;omega)
       have wb:Below w.heap.size w W:=HW.out.grown hW (by omega) (by intro k hk;cases hk;omega)
       have hh:=seqCellC h lb (w.heap.size+1) w.heap.size bi k i j xs ys (key i<key j) W eh (by rw [o1.cell];rfl) (by rw [s1.cell];rfl) (fun t ht=>⟨(wb.cell (p:=⟨bi,t*2,none⟩) zi).trans (CI.out t ht).1,(wb.cell (p:=⟨bi,t*2+1,none⟩) zi).trans (CI.out t ht).2⟩) o1.lt s1.lt (Nat.lt_of_lt_of_le zi wb.size) (by omega) (by omega) (fun v hv=>OR.out v (wb.trans (hv.mono wb.size)) i j (by omega) (by omega))
       exact hh)
     have EG:Hid (∀args w,(callFunc 214 args).run Tryz.prog w= .ok (.enter 214 args) w):=Lib.hid (enters5 _ _ _ Tryz.func214 (by kernel_rfl) rfl)
     go_wp2_with fail
     refine (sortStable5 214 _ key (w.heap.size+1+1) k _ EG.out CM.out HR.out hn hn0).mono ?_
     rintro ex w2 ⟨f,rfl,ho,hg,hi⟩
     have HR2:=Lib.hid ho
     have HI2:=Lib.hid hi
     have HW2:=Lib.hid (HW.out.grown hg (by have:=HR.out.lt;have:=ZW.out;omega) (by intro k hk;cases hk;have:=ZW.out;omega))
     clear ho hg hi
     go_wp2_with fail
     go_ret
     exact ⟨f,_,rfl,by have:=ZW.out;omega,HR2.out,HI2.out,HW2.out⟩
set_option maxRecDepth 100000 in
set_option maxHeartbeats 1600000 in
theorem seqNumC (h:Nat) (lb:Array Value) (bo bs bi n i k:Nat) (xs:Nat→Int) (K:Prop) (w:World) (eh: ∀args w,(callFunc h args).run Tryz.prog w= .ok (.enter h args) w)
   (co:w.cell? ⟨bo,0,none⟩=some (.func (.func h) #[] lb)) (ck:w.cell? ⟨bs,0,none⟩=some (.slice (some ⟨bi,0,none⟩) n n)) (ci:(∀k,k<n→w.cell? ⟨bi,k,none⟩=some (.int .i64 (xs k)))) (zo:bo<w.heap.size) (zs:bs<w.heap.size) (zi:bi<w.heap.size) (hi:i<n) (hk:k<n)
   (hord: ∀v,Below w.heap.size w v→Calls Tryz.prog h (#[.int .i64 (xs i), .int .i64 (xs k)]++lb) v fun e v'=> ∃c:Int,e= .returned (.int .i64 c)∧(c<0↔K)∧Below v.heap.size v v'):
   Calls Tryz.prog 157 #[.int .i64 i, .int .i64 k, .pointer (some ⟨bo,0,none⟩), .pointer (some ⟨bs,0,none⟩)] w fun e w'=> ∃c:Int,e= .returned (.int .i64 c)∧(c<0↔K)∧Below w.heap.size w w':=by
 have x0:=ci i hi
 have x1:=ci k hk
 obtain ⟨XSI,hxsi⟩: ∃zz,zz=xs i:=⟨_,rfl⟩
 obtain ⟨XSK,hxsk⟩: ∃zz,zz=xs k:=⟨_,rfl⟩
 rw [←hxsi] at x0
 rw [←hxsk] at x1
 try rw [←hxsi] at hord
 try rw [←hxsk] at hord
 have MK:Hid (∀v,BelowL w v→v.cell? ⟨bo,0,none⟩=some (.func (.func h) #[] lb)∧v.cell? ⟨bs,0,none⟩=some (.slice (some ⟨bi,0,none⟩) n n)∧v.cell? ⟨bi,i,none⟩=some (.int .i64 XSI)∧v.cell? ⟨bi,k,none⟩=some (.int .i64 XSK)∧BelowL w v):=Lib.hid (fun v hh=>⟨(hh.out.cell zo).trans co,(hh.out.cell zs).trans ck,(hh.out.cell zi).trans x0,(hh.out.cell zi).trans x1,hh⟩)
 have CC:Hid (∀v,BelowL w v→Calls Tryz.prog h (#[.int .i64 XSI, .int .i64 XSK]++lb) v fun e v'=> ∃c:Int,e= .returned (.int .i64 c)∧(c<0↔K)∧Below v.heap.size v v'):=Lib.hid (fun v hv=>hord v hv.out)
 have pi:(i:Int)<(n:Int):=by omega
 have pk:(k:Int)<(n:Int):=by omega
 clear hord ci hxsi hxsk
 go_enter Tryz.func157,Tryz.ntmps157
 go_wp2_with fail
 go_region_held3 (fun v=>v.cell? ⟨bo,0,none⟩=some (.func (.func h) #[] lb)∧v.cell? ⟨bs,0,none⟩=some (.slice (some ⟨bi,0,none⟩) n n)∧v.cell? ⟨bi,i,none⟩=some (.int .i64 XSI)∧v.cell? ⟨bi,k,none⟩=some (.int .i64 XSK)∧BelowL w v)
   (first | exact MK.out _ hb1 | exact MK.out _ (BelowL.start _))
   (first
     | (go_at_fn h;((with_reducible refine (CC.out _ (limb5 (by assumption))).mono ?_);rintro e v1 ⟨cc,rfl,hcc,hq1⟩;have hb1:=BelowL.call (limb5 (by assumption)) hq1)))
 have HC:=Lib.hid hcc
 have HBF:=Lib.hid hb1
 clear hcc hb1 MK CC
 go_wp2_with fail
 go_ret
 exact ⟨cc,rfl,HC.out,HBF.out.out⟩
set_option maxRecDepth 100000 in
set_option maxHeartbeats 1600000 in
theorem seqNum (h:Nat) (lb:Array Value) (bi n:Nat) (xs:Nat→Int) (key:Int→Int) (w:World) (eh: ∀args w,(callFunc h args).run Tryz.prog w= .ok (.enter h args) w) (hn:n≤100000) (hn0:0<n) (ci:(∀k,k<n→w.cell? ⟨bi,k,none⟩=some (.int .i64 (xs k)))) (zi:bi<w.heap.size)
   (hord: ∀v,Below w.heap.size w v→ ∀i k,i<n→k<n→Calls Tryz.prog h (#[.int .i64 (xs i), .int .i64 (xs k)]++lb) v fun e v'=> ∃c:Int,e= .returned (.int .i64 c)∧(c<0↔key i<key k)∧Below v.heap.size v v'):
   Calls Tryz.prog 126 #[.slice (some ⟨bi,0,none⟩) n n, .func (.func h) #[] lb] w fun e w'=> ∃(f:Nat→Int) (blk:Nat),e= .returned (.slice (some ⟨blk,0,none⟩) n n)∧w.heap.size≤blk∧Own w' blk n n (gen n f)∧Good key f 0 n∧Below w.heap.size w w':=by
 have CI:Aside _:=ci
 have OR:Aside _:=hord
 clear ci hord
 go_enter Tryz.func126,Tryz.ntmps126
 go_wp2_with (at_make;refine wp_make _ rfl _ _ rfl .i64 .i64 n n n rfl rfl rfl rfl (by omega) ?_;intro M hM)
 have HB0:=Lib.hid (bAlloc (bAlloc (Below.refl w.heap.size w) (.cells #[.slice (some ⟨bi,0,none⟩) n n] 25)) (.cells #[.func (.func h) #[] lb] 59))
 obtain ⟨wo,hwo⟩: ∃wo:World,wo=(w.alloc (.cells #[.slice (some ⟨bi,0,none⟩) n n] 25)).alloc (.cells #[.func (.func h) #[] lb] 59):=⟨_,rfl⟩
 have KS:Hid (Blk wo w.heap.size 25 #[.slice (some ⟨bi,0,none⟩) n n]):=Lib.hid (by rw [hwo];exact (Blk.new w _ _).alloc _)
 have KO:Hid (Blk wo (w.heap.size+1) 59 #[.func (.func h) #[] lb]):=Lib.hid (by rw [hwo];exact Blk.new' _ _ (by simp))
 have zw:wo.heap.size=w.heap.size+1+1:=by rw [hwo];simp
 try rw [←hwo] at hM
 rw [←hwo] at HB0⊢
 clear hwo
 have HM:Hid (Own (wo.alloc (.cells M 3)) (w.heap.size+1+1) n n (List.replicate n 0)):=Lib.hid (by have h:=hM.own wo;rw [zw] at h;exact h)
 have HMB:=Lib.hid (bAlloc (Below.refl wo.heap.size wo) (.cells M 3))
 clear hM
 have ZW:=Lib.hid zw
 clear zw
 go_wp2_with fail
 go_loopw [12] (fun i wr=> ∃k:Nat,k≤n∧i= .int .i64 k∧Hid (Own wr (w.heap.size+1+1) n n (filled (gen n (fun k=>(k:Int))) (List.replicate n 0) k))∧Hid (Below wo.heap.size wo wr)) (fun i _=>n - (intOf i).toNat)
 case atStart=>exact ⟨0,Nat.zero_le _,rfl,Lib.hid (by rw [filled_zero];exact HM.out),HMB⟩
 case round=>
   clear HM HMB
   obtain ⟨k,hk,rfl,ho,hg⟩:=hrel
   by_cases hlt:k<n
   · have h2:wr.cell? ⟨w.heap.size+1+1,k,none⟩=some (.int .i64 ((filled (gen n (fun k=>(k:Int))) (List.replicate n 0) k).getD k 0)):=ho.out.cell hlt
     have h3:wr.frozen? ⟨w.heap.size+1+1,k,none⟩=false:=ho.out.frozen k
     have hs:=ho.out.set k (k:Int)
     rw [filled_succ (gen n (fun k=>(k:Int))) _ k _ (by rw [gen_len];exact hlt) (by simp;omega) (gen_get _ _ _ hlt)] at hs
     have HS:=Lib.hid hs
     clear hs ho
     go_wp2_with fail
     go_roundw
     case rel=>exact ⟨k+1,by omega,by go_num,HS,Lib.hid (hg.out.setCell (by have:=ZW.out;show wo.heap.size≤w.heap.size+1+1;omega) _)⟩
     case measure=>simp [intOf];omega
   · obtain rfl:k=n:=by omega
     have HR:Hid (Own wr (w.heap.size+1+1) k k (gen k (fun k=>(k:Int)))):=Lib.hid (by have h:=ho.out;have e:=filled_all (gen k (fun k=>(k:Int))) (List.replicate k 0) (by simp [gen_len]);rw [gen_len] at e;rwa [e] at h)
     have HW:=Lib.hid (HB0.out.trans (hg.out.mono HB0.out.size))
     have KS2:=Lib.hid (KS.out.below hg.out KS.out.lt)
     have KO2:=Lib.hid (KO.out.below hg.out KO.out.lt)
     clear ho hg
     have CM:Hid (CmpN 157 #[.pointer (some ⟨w.heap.size+1,0,none⟩), .pointer (some ⟨w.heap.size,0,none⟩)] key (w.heap.size+1+1) k wr):=Lib.hid (by
       intro W hW x y x0 x1 y0 y1
       obtain ⟨i,rfl⟩: ∃i:Nat,x=i:=⟨x.toNat,by omega⟩
       obtain ⟨j,rfl⟩: ∃j:Nat,y=j:=⟨y.toNat,by omega⟩
       have zw:=ZW.out
       have zr:=HR.out.lt
       have o1:=KO2.out.grown hW (by intro e;have:=Option.some.inj e;omega)
       have s1:=KS2.out.grown hW (by intro e;have:=Option.some.inj e;omega)
       have wb:Below w.heap.size w W:=HW.out.grown hW (by omega) (by intro k hk;cases hk;omega)
       have hh:=seqNumC h lb (w.heap.size+1) w.heap.size bi k i j xs (key i<key j) W eh (by rw [o1.cell];rfl) (by rw [s1.cell];rfl) (fun t ht=>(wb.cell (p:=⟨bi,t,none⟩) zi).trans (CI.out t ht)) o1.lt s1.lt (Nat.lt_of_lt_of_le zi wb.size) (by omega) (by omega) (fun v hv=>OR.out v (wb.trans (hv.mono wb.size)) i j (by omega) (by omega))
       exact hh)
     have EG:Hid (∀args w,(callFunc 157 args).run Tryz.prog w= .ok (.enter 157 args) w):=Lib.hid (enters5 _ _ _ Tryz.func157 (by kernel_rfl) rfl)
     go_wp2_with fail
     refine (sortStable5 157 _ key (w.heap.size+1+1) k _ EG.out CM.out HR.out hn hn0).mono ?_
     rintro ex w2 ⟨f,rfl,ho,hg,hi⟩
     have HR2:=Lib.hid ho
     have HI2:=Lib.hid hi
     have HW2:=Lib.hid (HW.out.grown hg (by have:=HR.out.lt;have:=ZW.out;omega) (by intro k hk;cases hk;have:=ZW.out;omega))
     clear ho hg hi
     go_wp2_with fail
     go_ret
     exact ⟨f,_,rfl,by have:=ZW.out;omega,HR2.out,HI2.out,HW2.out⟩
end Go.Proofs.YtanccoopbgamdaaGreatDoor
