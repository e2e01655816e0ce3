/-
  Contracts and plain facts on which the theorem of this claim rests, text 41.
-/
import Derived.Maps.AppendAt
import Derived.Test.YtanccoopbgamdaaGreatDoorKC5
import Derived.Test.YtanccoopbgamdaaGreatDoorKC39
namespace Go.Proofs.YtanccoopbgamdaaGreatDoor
open Go.RowKit
set_option linter.unusedVariables false
set_option linter.unusedSimpArgs false
theorem step_appAt (w:World) {ops:Array Oper} {o:Oper} {a:Act} {K:Act→World→Prop} {Q:Exit→Act→World→Prop} {E:Prop}
   (hgd:o.guard=none) (s x:Operand) (hop:o.op= .call {callee:= .builtin .append,args:=#[s,x],argTypes:=#[25,25]})
   (B n cap:Nat) (ad:Option Addr) (xs:List Int) (hs:a.eval s= .slice ad n cap) (ho:OwnA w B ad n cap xs) (g:Nat) (v:Int) (hx:a.eval x= .slice (some ⟨g,0,none⟩) 1 1)
   (hc:w.cell? ⟨g,0,none⟩=some (.int .i64 v)) (hn:n≤1048576) (hB:B≤w.heap.size)
   (hK: ∀ad' cap' w',OwnA w' B ad' (n+1) cap' (xs++ [v])→w.grownBy w' (blockOf ad)→(blockOf ad'=blockOf ad∨blockOf ad'=some w.heap.size)→K (a.put o.dst (.slice ad' (n+1) cap')) w'):
   if Region.wanted o (yielded ops a.tmps)=true then Oper.wp Tryz.prog o a w K Q else E:=by
 have hw:Region.wanted o (yielded ops a.tmps)=true:=by simp [Region.wanted,hgd]
 rw [if_pos hw]
 obtain ⟨i,hi,hz0,hz1,hz2⟩:=info_parts infoInt
 obtain ⟨v',w',hr,h2,h3,_,h5⟩:=run_append_own_at (P:=Tryz.prog) w B 25 o.type 3 i (.int .i64 0) 1 8 Tryz.underlying25 hi hz0 hz1 hz2 rfl (by decide) _ n (xs.map (Value.int .i64)) ho.toRow ⟨g,0,none⟩ 1 1 [.int .i64 v] rfl (fun j u hj=>by
   match j,hj with
   | 0,hj=>simp at hj;subst hj;simpa [Addr.add] using hc) (fun u hu=>by simp at hu;subst hu;rfl) (by unfold maxLen;omega) (by omega) hB
 unfold Oper.wp execOp
 simp only [hop,resolve,invoke,builtin,Sem.run_bind,Sem.run_pure,Result.andThen_ok,List.map_toArray,List.map_cons,List.map_nil,hs,hx,hr]
 have h4:w'.ownsRow B 3 1 v' (n+1) ((xs++ [v]).map (Value.int .i64)):=by simpa using h2
 obtain ⟨ad',cap',rfl,h6⟩:=OwnA.ofRow h4
 rw [blockOf_own] at h3
 rw [blockOf_own,blockOf_own] at h5
 exact hK ad' cap' w' h6 h3 h5
theorem rotL_at {xs:List Int} {n s j:Nat} (hn:xs.length=n) (hs:s≤n) (hj:j<n):(rotL xs s).getD j 0=xs.getD ((j+s) % n) 0:=by
 unfold rotL
 by_cases h:j+s<n
 · rw [Nat.mod_eq_of_lt h]
   simp only [List.getD]
   rw [List.getElem?_append_left (by simp;omega),List.getElem?_drop,Nat.add_comm]
 · have e:(j+s) % n=j+s - n:=by rw [Nat.mod_eq_sub_mod (by omega),Nat.mod_eq_of_lt (by omega)]
   rw [e]
   simp only [List.getD]
   rw [List.getElem?_append_right (by simp;omega),List.length_drop,List.getElem?_take,if_pos (by omega)]
   congr 2
   omega
theorem rotL_len {xs:List Int} {n s:Nat} (hn:xs.length=n) (hs:s≤n):(rotL xs s).length=n:=by
 unfold rotL
 simp
 omega
def RowAt (w:World) (ad a:Option Addr) (xs:List Int):Prop:=Rd w a xs∧ ∀x,blockOf a=some x→x<w.heap.size∧blockOf ad≠some x
theorem rd_grownS {w w':World} {a:Option Addr} {row:Option Nat} {xs:List Int} (h:Rd w a xs) (hg:w.grownBy w' row) (ha: ∀x,blockOf a=some x→row≠some x):Rd w' a xs:=fun k hk=>by
 obtain ⟨b,off,h1,h2,h3⟩:=h k hk
 subst h1
 exact ⟨b,off,rfl,Nat.lt_of_lt_of_le h2 hg.size,(World.cell?_of_block (by exact hg.block b h2 (fun e=>ha b rfl e.symm))).trans h3⟩
theorem RowAt.step {w w':World} {ad ad' a:Option Addr} {xs:List Int} (h:RowAt w ad a xs) (hg:w.grownBy w' (blockOf ad)) (hz:blockOf ad'=blockOf ad∨blockOf ad'=some w.heap.size):RowAt w' ad' a xs:=
 ⟨rd_grownS h.1 hg (fun x hx=>(h.2 x hx).2),fun x hx=>by
   obtain ⟨h1,h2⟩:=h.2 x hx
   refine ⟨Nat.lt_of_lt_of_le h1 hg.size,?_⟩
   rcases hz with e | e
   · rw [e];exact h2
   · rw [e];intro e2;have:=Option.some.inj e2;omega⟩
theorem RowAt.alloc {w:World} {ad a:Option Addr} {xs:List Int} (h:RowAt w ad a xs) (o:Obj):RowAt (w.alloc o) ad a xs:=
 ⟨h.1.alloc o,fun x hx=>⟨by have:=(h.2 x hx).1;simp;omega,(h.2 x hx).2⟩⟩
theorem RowAt.drew {w:World} {ad a:Option Addr} {xs:List Int} (h:RowAt w ad a xs):RowAt w.drew ad a xs:=⟨h.1.drew,h.2⟩
theorem RowAt.mk' {w:World} {ad a:Option Addr} {xs:List Int} {B b k:Nat} (h:Rd w a xs) (hn:1≤xs.length) (ha: ∀x,blockOf a=some x→x=b∨k≤x) (hb:b<B) (hd: ∀x,blockOf ad=some x→B≤x∧x<k):RowAt w ad a xs:=
 ⟨h,fun x hx=>by
   obtain ⟨b2,off,h1,h2,_⟩:=h 0 (by omega)
   subst h1
   simp only [blockOf,Option.some.injEq] at hx
   subst hx
   refine ⟨h2,fun e=>?_⟩
   have:=hd b2 e
   rcases ha b2 rfl with q | q <;>omega⟩
def IntsOutN (w:World) (n:Nat) (ys:List Int) (e:Ending) (w':World):Prop:= ∃a c,e= .returned (.slice a n c)∧OwnA w' w.heap.size a n c ys∧Below w.heap.size w w'
theorem win_at {xs:List Int} {s l j:Nat} (hj:j<l):((xs.drop s).take l).getD j 0=xs.getD (s+j) 0:=by
 simp [List.getD,List.getElem?_take,List.getElem?_drop,hj]
theorem win_len {xs:List Int} {n s l:Nat} (hn:xs.length=n) (h:s+l≤n):((xs.drop s).take l).length=l:=by
 simp;omega
theorem cross_at {W H k j:Nat} {xs:List Int} (hj:j<W):nearS W H xs (W*k+j)=xs.getD (W*k+j) 0+xs.getD (W*k+(j+1) % W) 0+xs.getD (W*k+(j+(W - 1)) % W) 0+xs.getD (W*((k+1) % H)+j) 0+xs.getD (W*((k+(H - 1)) % H)+j) 0:=by
 unfold nearS rightI leftI downI upI
 rw [grid_div hj,grid_mod hj]
theorem rem_up {H k:Nat} (hk:k<H):((k:Int) - 1) % (H:Int)=(((k+(H - 1)) % H:Nat):Int):=by
 have h1:((k:Int) - 1) % (H:Int)=((k:Int) - 1+(H:Int)) % (H:Int):=by rw [Int.add_emod_right]
 have h2:(k:Int) - 1+(H:Int)=((k+(H - 1):Nat):Int):=by omega
 rw [h1,h2];norm_cast
theorem rem_down {H k:Nat}:((k:Int)+1) % (H:Int)=(((k+1) % H:Nat):Int):=by norm_cast
theorem row_fits {W H n y:Nat} (hq:n=W*H) (hy:y<H):W*y+W≤n:=by
 have:W*(y+1)≤W*H:=Nat.mul_le_mul_left _ hy
 rw [Nat.mul_succ] at this
 omega
theorem Rd.cellAt {w:World} {b off:Nat} {xs:List Int} (h:Rd w (some ⟨b,off,none⟩) xs) {k:Nat} (hk:k<xs.length):w.cell? ⟨b,off+k,none⟩=some (.int .i64 (xs.getD k 0)):=by
 obtain ⟨b',off',h1,_,h3⟩:=h k hk
 have e:=Option.some.inj h1
 simp only [Addr.mk.injEq] at e
 obtain ⟨rfl,rfl,_⟩:=e
 exact h3
theorem cell_alW {v:World} {a:Addr} {y:Value} (O:Obj) (h:v.cell? a=some y):(v.drew.alloc O).cell? a=some y:=by
 rw [World.cell?_alloc_some _ _ _ (by rw [show v.drew.cell? a=v.cell? a from rfl,h];rfl)]
 exact h
theorem gen_snocN (n:Nat) (f:Nat→Int) (v:Int) (h:f n=v):gen n f++ [v]=gen (n+1) f:=by rw [←h];exact gen_snoc n f
set_option maxRecDepth 100000 in
set_option maxHeartbeats 6400000 in
theorem impl_crossDots (W H:Nat) (b off n cap:Nat) (xs:List Int) (w:World) (hn:xs.length=n) (ha:Rd w (some ⟨b,off,none⟩) xs) (W1:1≤W) (W2:W≤64) (H1:1≤H) (H2:H≤64) (hq:n=W*H) (hn2:n≤1024) (hc:n≤cap) (hx:DotsN n xs):
   Calls Tryz.prog 136 #[.agg #[.int .i64 W, .int .i64 H, .slice (some ⟨b,off,none⟩) n cap]] w (IntsOutN w n (gen n (nearS W H xs))):=by
 have HN:=Lib.hid hn
 have HA:=Lib.hid ha
 have HX:=Lib.hid hx
 have HQ:=Lib.hid hq
 obtain ⟨b0,q0,e0,lb,_⟩:=ha.at (by have:1*1≤W*H:=Nat.mul_le_mul W1 H1;omega)
 have e1:=Option.some.inj e0
 simp only [Addr.mk.injEq] at e1
 obtain ⟨rfl,rfl,_⟩:=e1
 clear e0 hn ha hx hq
 have W3:(0:Int)≤(W:Int):=by omega
 go_enter Tryz.func136,Tryz.ntmps136
 go_wp2_with fail
 have KP:=Lib.hid (Blk.new w 27 #[.int .i64 W, .int .i64 H, .slice (some ⟨b,off,none⟩) n cap])
 obtain ⟨l0,o0,o1,o2⟩:=KP.out.c3
 have HB0:=Lib.hid (Joins.below_alloc1 w (.cells #[.int .i64 W, .int .i64 H, .slice (some ⟨b,off,none⟩) n cap] 27))
 obtain ⟨wo,hwo⟩: ∃wo,wo=w.alloc (.cells #[.int .i64 W, .int .i64 H, .slice (some ⟨b,off,none⟩) n cap] 27):=⟨_,rfl⟩
 have ZO:Hid (wo.heap.size=w.heap.size+1):=Lib.hid (by rw [hwo];simp)
 go_wp2_with fail
 rw [←hwo] at KP HB0 l0 o0 o1 o2⊢
 have HAo:=Lib.hid (HA.out.below HB0.out)
 clear hwo l0 o0 o1 o2
 go_loopw [3,14] (fun s i wr=> ∃(k m:Nat) (ad:Option Addr) (c:Nat),k≤H∧s= .slice ad m c∧i= .int .i64 k∧Hid (m=W*k)∧Hid (OwnA wr wo.heap.size ad m c (gen m (nearS W H xs)))∧Hid (Below wo.heap.size wo wr)) (fun _ i _=>H - (intOf i).toNat)
 case atStart=>exact ⟨0,0,none,0,Nat.zero_le _,rfl,rfl,Lib.hid (by simp),Lib.hid (OwnA.none _ _),Lib.hid (Below.refl _ _)⟩
 case round=>
   obtain ⟨k,m,ad,c,hk,rfl,rfl,HM,HO,HW⟩:=hrel
   have KPr:=Lib.hid (KP.out.below' HW.out)
   have HAr:=Lib.hid (HAo.out.below HW.out)
   obtain ⟨l0,o0,o1,o2⟩:=KPr.out.c3
   by_cases hlt:k<H
   · obtain ⟨U,hU⟩: ∃U,(k+(H - 1)) % H=U:=⟨_,rfl⟩
     obtain ⟨D,hD⟩: ∃D,(k+1) % H=D:=⟨_,rfl⟩
     have U1:U<H:=by rw [←hU];exact Nat.mod_lt _ (by omega)
     have D1:D<H:=by rw [←hD];exact Nat.mod_lt _ (by omega)
     have rU:=rem_up hlt
     have rD:=rem_down (H:=H) (k:=k)
     rw [hU] at rU
     rw [hD] at rD
     have fK:=row_fits HQ.out hlt
     have fU:=row_fits HQ.out U1
     have fD:=row_fits HQ.out D1
     have m1:=HM.out
     have CK:=Lib.hid (fun v:World=>impl_rowOf W H b off n cap k (k:Int) v rfl W1 (by omega) W2 (by rw [Nat.mul_comm];exact fK) hc (by omega))
     have CU:=Lib.hid (fun v:World=>impl_rowOf W H b off n cap U (U:Int) v rfl W1 (by omega) W2 (by rw [Nat.mul_comm];exact fU) hc (by omega))
     have CD:=Lib.hid (fun v:World=>impl_rowOf W H b off n cap D (D:Int) v rfl W1 (by omega) W2 (by rw [Nat.mul_comm];exact fD) hc (by omega))
     have RU:Hid (∀v:World,Calls Tryz.prog 68 #[.int .i64 ((k:Int) - 1), .int .i64 H] v fun e w'=>e= .returned (.int .i64 (U:Int))∧v=w'):=Lib.hid (fun v=>by have h:=impl_remainder ((k:Int) - 1) H v (by omega) (by omega);rwa [rU] at h)
     have RD:Hid (∀v:World,Calls Tryz.prog 68 #[.int .i64 ((k:Int)+1), .int .i64 H] v fun e w'=>e= .returned (.int .i64 (D:Int))∧v=w'):=Lib.hid (fun v=>by have h:=impl_remainder ((k:Int)+1) H v (by omega) (by omega);rwa [rD] at h)
     have k1:IntKind.i64.wrap ((k:Int) - 1)=(k:Int) - 1:=IntWalk.i64_in _ (by omega)
     have k2:IntKind.i64.wrap ((k:Int)+1)=(k:Int)+1:=IntWalk.i64_in _ (by omega)
     obtain ⟨pK,hpK⟩: ∃p,off+k*W=p:=⟨_,rfl⟩
     obtain ⟨pU,hpU⟩: ∃p,off+U*W=p:=⟨_,rfl⟩
     obtain ⟨pD,hpD⟩: ∃p,off+D*W=p:=⟨_,rfl⟩
     rw [hpK] at CK
     rw [hpU] at CU
     rw [hpD] at CD
     have LK:Hid (∀v,Rd v (some ⟨b,off,none⟩) xs→Rd v (some ⟨b,pK,none⟩) ((xs.drop (k*W)).take W)):=Lib.hid (fun v h=>by rw [←hpK];exact rd_window h _ _)
     have LU:Hid (∀v,Rd v (some ⟨b,off,none⟩) xs→Rd v (some ⟨b,pU,none⟩) ((xs.drop (U*W)).take W)):=Lib.hid (fun v h=>by rw [←hpU];exact rd_window h _ _)
     have LD:Hid (∀v,Rd v (some ⟨b,off,none⟩) xs→Rd v (some ⟨b,pD,none⟩) ((xs.drop (D*W)).take W)):=Lib.hid (fun v h=>by rw [←hpD];exact rd_window h _ _)
     have EU:=Lib.hid hU
     have ED:=Lib.hid hD
     have nK:Hid (((xs.drop (k*W)).take W).length=W):=Lib.hid (win_len HN.out (by rw [Nat.mul_comm];exact fK))
     have nU:Hid (((xs.drop (U*W)).take W).length=W):=Lib.hid (win_len HN.out (by rw [Nat.mul_comm];exact fU))
     have nD:Hid (((xs.drop (D*W)).take W).length=W):=Lib.hid (win_len HN.out (by rw [Nat.mul_comm];exact fD))
     clear hU hD rU rD hpK hpU hpD m1 fK fU fD
     go_wp2_with fail
     refine (CK.out _).mono ?_
     rintro e w3 ⟨rfl,hb⟩
     have HW3:=Lib.hid (bTrans HW.out hb)
     have KP3:=Lib.hid (KPr.out.below' hb)
     have HO3:=Lib.hid (HO.out.below' hb)
     clear hb l0 o0 o1 o2
     obtain ⟨l0,o0,o1,o2⟩:=KP3.out.c3
     go_wp2_with fail
     have MK:Hid (∀v,BelowL w3 v→v.cell? ⟨w.heap.size,0,none⟩=some (.int .i64 W)∧v.cell? ⟨w.heap.size,1,none⟩=some (.int .i64 H)∧v.cell? ⟨w.heap.size,2,none⟩=some (.slice (some ⟨b,off,none⟩) n cap)∧BelowL w3 v):=Lib.hid (fun v hB=>⟨(hB.out.cell l0).trans o0,(hB.out.cell l0).trans o1,(hB.out.cell l0).trans o2,hB⟩)
     go_region_held3 (fun v=>v.cell? ⟨w.heap.size,0,none⟩=some (.int .i64 W)∧v.cell? ⟨w.heap.size,1,none⟩=some (.int .i64 H)∧v.cell? ⟨w.heap.size,2,none⟩=some (.slice (some ⟨b,off,none⟩) n cap)∧BelowL w3 v)
       (first | exact MK.out _ (by assumption) | exact MK.out _ (BelowL.start _))
       (first
         | (go_at_call 68;((with_reducible refine (RU.out _).mono ?_);rintro e v1 ⟨rfl,rfl⟩))
         | (go_at_call 68;((with_reducible refine (RD.out _).mono ?_);rintro e v1 ⟨rfl,rfl⟩))
         | (go_at_call 30;((with_reducible refine (CU.out _).mono ?_);rintro e v2 ⟨rfl,hq2⟩;have hb2:=BelowL.call (limb4 (by assumption)) hq2))
         | (go_at_call 30;((with_reducible refine (CD.out _).mono ?_);rintro e v3 ⟨rfl,hq3⟩;have hb3:=BelowL.call (limb4 (by assumption)) hq3)))
     go_wp2_with fail
     have HW4:=Lib.hid (bTrans HW3.out hb3.out)
     have KP4:=Lib.hid (KP3.out.below' hb3.out)
     have HO4:=Lib.hid (HO3.out.below' hb3.out)
     have HA4:=Lib.hid (HAo.out.below HW4.out)
     have AD4:=Lib.hid HO4.out.bd
     refine (impl_roundFrom b pK W (W - 1) 1 ((W:Int) - 1) _ v3 (by omega) nK.out (by exact LK.out _ HA4.out) W1 W2 (by omega)).mono ?_
     rintro e w5 ⟨al,cl,rfl,hl5,al5,hb⟩
     have Z5:=Lib.hid hb.size
     have HW5:=Lib.hid (bTrans HW4.out hb)
     have KP5:=Lib.hid (KP4.out.below' hb)
     have HO5:=Lib.hid (HO4.out.below' hb)
     have HA5:=Lib.hid (HAo.out.below HW5.out)
     have QL5:=Lib.hid hl5
     have AL5:=Lib.hid al5
     clear hb hl5 al5 hq2 hq3 hb2 hb3 l0 o0 o1 o2
     go_wp2_with fail
     refine (impl_roundFrom b pK W 1 (W - 1) 1 _ w5 rfl nK.out (by exact LK.out _ HA5.out) W1 W2 (by omega)).mono ?_
     rintro e w6 ⟨ar,cr,rfl,hl6,al6,hb⟩
     have HW6:=Lib.hid (bTrans HW5.out hb)
     have KP6:=Lib.hid (KP5.out.below' hb)
     have HO6:=Lib.hid (HO5.out.below' hb)
     have HA6:=Lib.hid (HAo.out.below HW6.out)
     have QL6:=Lib.hid (QL5.out.below hb)
     have QR6:=Lib.hid hl6
     have AR6:=Lib.hid al6
     clear hb hl6 al6
     have nL:Hid ((rotL ((xs.drop (k*W)).take W) (W - 1)).length=W):=Lib.hid (rotL_len nK.out (by omega))
     have nR:Hid ((rotL ((xs.drop (k*W)).take W) 1).length=W):=Lib.hid (rotL_len nK.out W1)
     have LB:Hid (b<wo.heap.size):=Lib.hid (by have:=ZO.out;omega)
     have BD:Hid (∀x,blockOf ad=some x→wo.heap.size≤x∧x<v3.heap.size):=Lib.hid AD4.out
     have BD5:Hid (∀x,blockOf ad=some x→wo.heap.size≤x∧x<w5.heap.size):=Lib.hid (fun x hx=>by have:=AD4.out x hx;have:=Z5.out;omega)
     have PK:Hid (RowAt w6 ad (some ⟨b,pK,none⟩) ((xs.drop (k*W)).take W)):=Lib.hid (RowAt.mk' (B:=wo.heap.size) (b:=b) (k:=w5.heap.size) (LK.out _ HA6.out) (by rw [nK.out];exact W1) (fun x hx=>Or.inl (by simpa [blockOf] using hx.symm)) LB.out BD5.out)
     have PU:Hid (RowAt w6 ad (some ⟨b,pU,none⟩) ((xs.drop (U*W)).take W)):=Lib.hid (RowAt.mk' (B:=wo.heap.size) (b:=b) (k:=w5.heap.size) (LU.out _ HA6.out) (by rw [nU.out];exact W1) (fun x hx=>Or.inl (by simpa [blockOf] using hx.symm)) LB.out BD5.out)
     have PD:Hid (RowAt w6 ad (some ⟨b,pD,none⟩) ((xs.drop (D*W)).take W)):=Lib.hid (RowAt.mk' (B:=wo.heap.size) (b:=b) (k:=w5.heap.size) (LD.out _ HA6.out) (by rw [nD.out];exact W1) (fun x hx=>Or.inl (by simpa [blockOf] using hx.symm)) LB.out BD5.out)
     have PL:Hid (RowAt w6 ad al (rotL ((xs.drop (k*W)).take W) (W - 1))):=Lib.hid (RowAt.mk' (B:=wo.heap.size) (b:=b) (k:=v3.heap.size) QL6.out (by rw [nL.out];exact W1) AL5.out LB.out BD.out)
     have PR:Hid (RowAt w6 ad ar (rotL ((xs.drop (k*W)).take W) 1)):=Lib.hid (RowAt.mk' (B:=wo.heap.size) (b:=b) (k:=w5.heap.size) QR6.out (by rw [nR.out];exact W1) AR6.out LB.out BD5.out)
     clear QL5 AL5 QL6 QR6 AR6 BD BD5 HW3 KP3 HO3 HW4 KP4 HO4 HA4 HW5 KP5 HO5 HA5 AD4 Z5 MK
     go_wp2_with fail
     go_loopw [3,43] (fun s i wr=> ∃(j m':Nat) (ad':Option Addr) (c':Nat),j≤W∧s= .slice ad' m' c'∧i= .int .i64 j∧Hid (m'=m+j)∧Hid (OwnA wr wo.heap.size ad' m' c' (gen m' (nearS W H xs)))∧Hid (Below wo.heap.size wo wr)∧Hid (RowAt wr ad' (some ⟨b,pK,none⟩) ((xs.drop (k*W)).take W))∧Hid (RowAt wr ad' (some ⟨b,pU,none⟩) ((xs.drop (U*W)).take W))∧Hid (RowAt wr ad' (some ⟨b,pD,none⟩) ((xs.drop (D*W)).take W))∧Hid (RowAt wr ad' al (rotL ((xs.drop (k*W)).take W) (W - 1)))∧Hid (RowAt wr ad' ar (rotL ((xs.drop (k*W)).take W) 1))) (fun _ i _=>W - (intOf i).toNat)
     case atStart=>exact ⟨0,m,ad,c,Nat.zero_le _,rfl,rfl,Lib.hid rfl,HO6,HW6,PK,PU,PD,PL,PR⟩
     case round=>
       obtain ⟨j,m',ad',c',hj,rfl,rfl,HM',HOj,HWj,QK,QU,QD,QL,QR⟩:=hrel
       by_cases hjt:j<W
       · have cK:=QK.out.1.cellAt (k:=j) (by have:=nK.out;omega)
         have cU:=QU.out.1.cellAt (k:=j) (by have:=nU.out;omega)
         have cD:=QD.out.1.cellAt (k:=j) (by have:=nD.out;omega)
         obtain ⟨bl,ol,hal,ll,cL⟩:=QL.out.1 j (by have:=nL.out;omega)
         obtain ⟨br,or,har,lr,cR⟩:=QR.out.1 j (by have:=nR.out;omega)
         subst hal har
         have fK:=row_fits HQ.out hlt
         have fU:=row_fits HQ.out U1
         have fD:=row_fits HQ.out D1
         have m1:=HM.out
         have kL:=Nat.mod_lt (j+(W - 1)) (show 0<W by omega)
         have kR:=Nat.mod_lt (j+1) (show 0<W by omega)
         have eK:((xs.drop (k*W)).take W).getD j 0=xs.getD (W*k+j) 0:=by rw [win_at hjt,Nat.mul_comm]
         have eU:((xs.drop (U*W)).take W).getD j 0=xs.getD (W*U+j) 0:=by rw [win_at hjt,Nat.mul_comm]
         have eD:((xs.drop (D*W)).take W).getD j 0=xs.getD (W*D+j) 0:=by rw [win_at hjt,Nat.mul_comm]
         have eL:(rotL ((xs.drop (k*W)).take W) (W - 1)).getD j 0=xs.getD (W*k+(j+(W - 1)) % W) 0:=by rw [rotL_at nK.out (by omega) hjt,win_at kL,Nat.mul_comm]
         have eR:(rotL ((xs.drop (k*W)).take W) 1).getD j 0=xs.getD (W*k+(j+1) % W) 0:=by rw [rotL_at nK.out W1 hjt,win_at kR,Nat.mul_comm]
         have xK:=HX.out (W*k+j) (by omega)
         have xU:=HX.out (W*U+j) (by omega)
         have xD:=HX.out (W*D+j) (by omega)
         have xL:=HX.out (W*k+(j+(W - 1)) % W) (by omega)
         have xR:=HX.out (W*k+(j+1) % W) (by omega)
         have EN:=cross_at (W:=W) (H:=H) (k:=k) (xs:=xs) hjt
         rw [EU.out,ED.out,←m1] at EN
         rw [←m1] at eK eL eR xK xL xR
         rw [eK] at cK
         rw [eU] at cU
         rw [eD] at cD
         rw [eL] at cL
         rw [eR] at cR
         obtain ⟨a0,h0⟩: ∃a,xs.getD (m+j) 0=a:=⟨_,rfl⟩
         obtain ⟨a1,h1⟩: ∃a,xs.getD (W*U+j) 0=a:=⟨_,rfl⟩
         obtain ⟨a2,h2⟩: ∃a,xs.getD (W*D+j) 0=a:=⟨_,rfl⟩
         obtain ⟨a3,h3⟩: ∃a,xs.getD (m+(j+(W - 1)) % W) 0=a:=⟨_,rfl⟩
         obtain ⟨a4,h4⟩: ∃a,xs.getD (m+(j+1) % W) 0=a:=⟨_,rfl⟩
         rw [h0] at cK xK EN
         rw [h1] at cU xU EN
         rw [h2] at cD xD EN
         rw [h3] at cL xL EN
         rw [h4] at cR xR EN
         obtain ⟨y00,y01⟩:0≤a0∧a0≤1:=by omega
         obtain ⟨y10,y11⟩:0≤a1∧a1≤1:=by omega
         obtain ⟨y20,y21⟩:0≤a2∧a2≤1:=by omega
         obtain ⟨y30,y31⟩:0≤a3∧a3≤1:=by omega
         obtain ⟨y40,y41⟩:0≤a4∧a4≤1:=by omega
         have EN2:nearS W H xs (m+j)=a0+a1+a2+a3+a4:=by omega
         have EM:m'=m+j:=HM'.out
         rw [←EM] at EN2
         have EV:=Lib.hid EN2
         have w1:IntKind.i64.wrap (a0+a1)=a0+a1:=IntWalk.i64_in _ (by omega)
         have w2:IntKind.i64.wrap (a0+a1+a2)=a0+a1+a2:=IntWalk.i64_in _ (by omega)
         have w3:IntKind.i64.wrap (a0+a1+a2+a3)=a0+a1+a2+a3:=IntWalk.i64_in _ (by omega)
         have w4:IntKind.i64.wrap (a0+a1+a2+a3+a4)=a0+a1+a2+a3+a4:=IntWalk.i64_in _ (by omega)
         have mb:m'≤1024:=by omega
         have jt0:(0:Int)≤(j:Int):=by omega
         have jt1:(j:Int)<(W:Int):=by omega
         have WZ:=Lib.hid HWj.out.size
         have VU:Hid (((xs.drop (U*W)).take W).getD j 0=a1):=Lib.hid (by rw [eU,h1])
         have VD:Hid (((xs.drop (D*W)).take W).getD j 0=a2):=Lib.hid (by rw [eD,h2])
         have VL:Hid ((rotL ((xs.drop (k*W)).take W) (W - 1)).getD j 0=a3):=Lib.hid (by rw [eL,h3])
         have VR:Hid ((rotL ((xs.drop (k*W)).take W) 1).getD j 0=a4):=Lib.hid (by rw [eR,h4])
         clear eK eU eD eL eR xK xU xD xL xR h0 h1 h2 h3 h4 EN EN2 EM fK fU fD m1 kL kR
         go_upto_region 11 with fail
         refine wp_region_held_drew (S:=fun v=>v.cell? ⟨b,pU+j,none⟩=some (.int .i64 a1)∧v.cell? ⟨b,pD+j,none⟩=some (.int .i64 a2)∧v.cell? ⟨bl,ol+j,none⟩=some (.int .i64 a3)∧v.cell? ⟨br,or+j,none⟩=some (.int .i64 a4)) (by kernel_rfl) ⟨cU,cD,cL,cR⟩ ?_
         intro hHeld
         refine hTake 0 ?_
         refine hTake 1 ?_
         refine hTake 2 ?_
         refine hTake 3 ?_
         refine hTake 4 ?_
         refine hTake 5 ?_
         refine hTake 6 ?_
         refine hTake 7 ?_
         refine hTake 8 ?_
         refine hTake 9 ?_
         refine hTake 10 ?_
         refine hTake 11 ?_
         refine hTake 12 ?_
         refine hTake 13 ?_
         refine hTake 14 ?_
         refine hTake 15 ?_
         refine hTake 16 ?_
         refine hTake 17 ?_
         refine hTake 18 ?_
         refine hTake 19 ?_
         refine hTake 20 ?_
         refine hTake 21 ?_
         (try simp only [List.getElem_toArray,List.getElem_cons_succ,List.getElem_cons_zero,Act.put,List.setIfInBounds_toArray,List.set_cons_zero,List.set_cons_succ])
         refine hOne 22 (fun K hK=>?_)
         go_simp
         refine hK.out _ _ (by (try dsimp only);exact ⟨cell_alW _ cU,cell_alW _ cD,cell_alW _ cL,cell_alW _ cR⟩) (fun hHeld=>?_)
         clear hK K
         refine hOne 23 (fun K hK=>?_)
         refine step_appAt _ (by rfl) (.tmp 48) (.tmp 70) (by rfl) wo.heap.size m' c' ad' (gen m' (nearS W H xs)) (by rfl) ((HOj.out.drew).alloc _) wr.heap.size (a0+a1+a2+a3+a4) (by rfl) ((Blk.new wr.drew 3 #[.int .i64 (a0+a1+a2+a3+a4)]).cell 0) (by omega) (by have:=WZ.out;simp;omega) ?_
         intro ad2 cap2 w5 ho5 hg5 hz5
         rw [gen_snocN _ _ _ EV.out] at ho5
         have HO7:=Lib.hid ho5
         have HW7:=Lib.hid ((HWj.out.drew.alloc (by have:=WZ.out;simpa using this) (.cells #[.int .i64 (a0+a1+a2+a3+a4)] 3)).grown hg5 (by have:=WZ.out;simp;omega) (fun x hx=>(HOj.out.bd x hx).1))
         have TK:=Lib.hid ((QK.out.drew.alloc (.cells #[.int .i64 (a0+a1+a2+a3+a4)] 3)).step hg5 hz5)
         have TU:=Lib.hid ((QU.out.drew.alloc (.cells #[.int .i64 (a0+a1+a2+a3+a4)] 3)).step hg5 hz5)
         have TD:=Lib.hid ((QD.out.drew.alloc (.cells #[.int .i64 (a0+a1+a2+a3+a4)] 3)).step hg5 hz5)
         have TL:=Lib.hid ((QL.out.drew.alloc (.cells #[.int .i64 (a0+a1+a2+a3+a4)] 3)).step hg5 hz5)
         have TR:=Lib.hid ((QR.out.drew.alloc (.cells #[.int .i64 (a0+a1+a2+a3+a4)] 3)).step hg5 hz5)
         clear ho5 hg5 hz5
         have tU:=TU.out.1.cellAt (k:=j) (by have:=nU.out;omega)
         have tD:=TD.out.1.cellAt (k:=j) (by have:=nD.out;omega)
         have tL:=TL.out.1.cellAt (k:=j) (by have:=nL.out;omega)
         have tR:=TR.out.1.cellAt (k:=j) (by have:=nR.out;omega)
         rw [VU.out] at tU
         rw [VD.out] at tD
         rw [VL.out] at tL
         rw [VR.out] at tR
         (try simp only [List.getElem_toArray,List.getElem_cons_succ,List.getElem_cons_zero,Act.put,List.setIfInBounds_toArray,List.set_cons_zero,List.set_cons_succ])
         have tL2:w5.cell? ⟨bl,ol+j,none⟩=some (.int .i64 a3):=tL
         have tR2:w5.cell? ⟨br,or+j,none⟩=some (.int .i64 a4):=tR
         refine hK.out _ _ (by (try dsimp only);exact ⟨tU,tD,tL2,tR2⟩) (fun hHeld=>?_)
         clear hK K
         refine hTake 24 ?_
         (try simp only [List.getElem_toArray,List.getElem_cons_succ,List.getElem_cons_zero,Act.put,List.setIfInBounds_toArray,List.set_cons_zero,List.set_cons_succ])
         refine wpAnyH_done (by kernel_rfl) ?_ _
         clear tU tD tL tR tL2 tR2
         go_wp2_with fail
         go_roundw
         case rel=>exact ⟨j+1,m'+1,ad2,cap2,by omega,rfl,by go_num,Lib.hid (by have:=HM'.out;omega),HO7,HW7,TK,TU,TD,TL,TR⟩
         case measure=>simp [intOf];omega
       · obtain rfl:j=W:=by omega
         go_wp2_with fail
         go_roundw
         case rel=>exact ⟨k+1,m',ad',c',by omega,rfl,by go_num,Lib.hid (by have:=HM'.out;have:=HM.out;rw [Nat.mul_succ];omega),HOj,HWj⟩
         case measure=>simp [intOf];omega
   · obtain rfl:k=H:=by omega
     have EM:Hid (m=n):=Lib.hid (by have:=HM.out;have:=HQ.out;omega)
     go_wp2_with fail
     go_ret
     exact ⟨ad,c,by rw [EM.out];rfl,by rw [←EM.out];exact HO.out.mono (by have:=ZO.out;omega),HB0.out.trans (HW.out.mono (by have:=ZO.out;omega))⟩
end Go.Proofs.YtanccoopbgamdaaGreatDoor
