/-
  Contracts and plain facts on which the theorem of this claim rests, text 18.
-/
import Derived.Deep.QuietTactic
import Derived.Test.YtanccoopbgamdaaGreatDoorKC3
import Derived.Test.YtanccoopbgamdaaGreatDoorKC6
import Derived.Test.YtanccoopbgamdaaGreatDoorKC17
namespace Go.Proofs.YtanccoopbgamdaaGreatDoor
open Go.RowKit
set_option linter.unusedVariables false
set_option linter.unusedSimpArgs false
set_option maxHeartbeats 800000 in
theorem impl_WeightOf (ad:Option Addr) (n cap:Nat) (ks:List Prt) (w:World) (hn:ks.length=n) (ha:Rd w ad (flat ks)) (hl:n≤1048576) (hcap:n≤cap):
   Calls Tryz.prog 219 #[.slice ad n cap] w fun e w'=>e= .returned (.int .i64 (weightF ks))∧Below w.heap.size w w':=by
 have HN:=Lib.hid hn
 have HA:=Lib.hid ha
 clear hn ha
 by_cases hp:kernOk ks=true
 case neg=>
   rw [weightF_no hp]
   have hp2:kernOk ks=false:=by simpa using hp
   clear hp
   go_enter Tryz.func219,Tryz.ntmps219
   go_wp2_with fail
   refine (impl_IsKernel _ _ _ ks _ HN.out (by exact HA.out) hl hcap).mono ?_
   rintro e w1 ⟨rfl,hb⟩
   rw [hp2]
   have HB:=Lib.hid hb
   clear hb
   go_wp2_with fail
   go_ret
   exact ⟨rfl,HB.out⟩
 case pos=>
   rw [weightF_yes HN.out hp]
   obtain ⟨k1,k2,k3⟩:=kernOk_bd HN.out hp
   have HK:=Lib.hid k3
   clear k3
   go_enter Tryz.func219,Tryz.ntmps219
   go_wp2_with fail
   refine (impl_IsKernel _ _ _ ks _ HN.out (by exact HA.out) hl hcap).mono ?_
   rintro e w1 ⟨rfl,hb⟩
   rw [hp]
   have HB:=Lib.hid hb
   have HA1:=Lib.hid (HA.out.below hb)
   clear hb HA
   go_wp2_with fail
   go_loopw [3,11] (fun s i wr=> ∃k:Nat,k≤n∧i= .int .i64 k∧s= .int .i64 (wtTo ks k)∧Below w1.heap.size w1 wr) (fun _ i _=>n - (intOf i).toNat)
   case atStart=>exact ⟨0,Nat.zero_le _,rfl,rfl,Below.refl _ _⟩
   case round=>
     obtain ⟨k,hk,rfl,rfl,hwr⟩:=hrel
     obtain ⟨s1,s2⟩:=wtTo_bd HK.out k hk
     have HW:=Lib.hid hwr
     by_cases hlt:k<n
     · obtain ⟨ba,oa,hae,hal,c0,c1,c2⟩:=rd_part (HA1.out.below hwr) (k:=k) (by have:=HN.out;omega)
       subst hae
       obtain ⟨p,hp⟩: ∃p,prt ks k=p:=⟨_,rfl⟩
       have p1:=partOk_bd (kern_part HK.out hlt).1
       have e1:wtTo ks (k+1)=wtTo ks k+(prt ks k).wt:=rfl
       rw [hp] at c0 c1 c2 p1 e1
       obtain ⟨X,Y,T⟩:=p
       dsimp only at c0 c1 c2 p1 e1
       obtain ⟨_,_,_,_,_,t1,t2⟩:=p1
       have HE:=Lib.hid e1
       clear hp hwr e1
       go_wp2_with fail
       go_roundw
       case rel=>exact ⟨k+1,by omega,by go_num,by rw [HE.out],bAlloc HW.out _⟩
       case measure=>simp [intOf];omega
     · obtain rfl:n=k:=by omega
       go_wp2_with fail
       go_ret
       exact ⟨rfl,bTrans HB.out HW.out⟩
def steinK:List Prt:=[⟨1,0,7⟩,⟨-1,1,3⟩,⟨0,1,5⟩,⟨1,1,1⟩]
def plainK:List Prt:=[⟨1,0,1⟩]
theorem rowT_new {w:World} {T sz n:Nat} {M:Array Value} {xs:List Int} (h1:xs.length=n*sz) (h2:M.toList=xs.map (Value.int .i64)) (hn:n≤maxLen):RowT (w.alloc (.cells M T)) T sz w.heap.size n n xs:=
 ⟨h1,M,heap_alloc_new w _,Nat.le_refl _,hn,by have:=congrArg List.length h2;simpa [h1] using this,by rw [h2,List.take_of_length_le (by simp [h1])]⟩
set_option maxHeartbeats 400000 in
theorem impl_SteinKernel (w:World):Calls Tryz.prog 78 #[] w fun e w'=> ∃g,e= .returned (.slice (some ⟨g,0,none⟩) 4 4)∧w.heap.size≤g∧RowT w' 135 3 g 4 4 (flat steinK)∧Below w.heap.size w w':=by
 go_enter Tryz.func78,Tryz.ntmps78
 go_wp2_with fail
 go_ret
 exact ⟨_,rfl,Nat.le_refl _,rowT_new rfl rfl (by decide),Joins.below_alloc1 _ _⟩
set_option maxHeartbeats 400000 in
theorem impl_PlainKernel (w:World):Calls Tryz.prog 79 #[] w fun e w'=> ∃g,e= .returned (.slice (some ⟨g,0,none⟩) 1 1)∧w.heap.size≤g∧RowT w' 135 3 g 1 1 (flat plainK)∧Below w.heap.size w w':=by
 go_enter Tryz.func79,Tryz.ntmps79
 go_wp2_with fail
 go_ret
 exact ⟨_,rfl,Nat.le_refl _,rowT_new rfl rfl (by decide),Joins.below_alloc1 _ _⟩
theorem wp_cloneT {P:Program} (w:World) {ops:Array Oper} {rest:List Oper} {o:Oper} {a:Act} {Q:Exit→Act→World→Prop}
   (hgd:o.guard=none) (t e sz bytes:Nat) (z:Value) (ht:P.underlying t=some (.slice e)) (hi0:(P.info? e).map (fun i=>(i.zero,i.size,i.bytes))=some (some z,sz,bytes)) (hz:z.cells.size=sz) (hsz:1≤sz) (hby:bytes≤4096)
   (s x:Operand) (hop:o.op= .call {callee:= .builtin .append,args:=#[s,x],argTypes:=#[t,t]})
   (B cap:Nat) (ad:Option Addr) (hs:a.eval s= .slice ad 0 cap) (ho:RowA w e sz B ad 0 cap []) (b off m c:Nat) (vs:List Int) (hx:a.eval x= .slice (some ⟨b,off,none⟩) m c)
   (hv:vs.length=m*sz) (hc: ∀j,j<m*sz→w.cell? ⟨b,off+j,none⟩=some (.int .i64 (vs.getD j 0))) (hn:m≤1048576) (hB:B≤w.heap.size)
   (hK: ∀ad' cap' w',RowA w' e sz B ad' m cap' vs→w.grownBy w' (blockOf ad)→wpList P ops Q rest (a.put o.dst (.slice ad' m cap')) w'):
   wpList P ops Q (o::rest) a w:=by
 obtain ⟨i,hi,hz0,hz1,hz2⟩:=info_parts hi0
 have m1:m*bytes≤1048576*4096:=Nat.mul_le_mul (by omega) hby
 refine wpList_append_own w hgd s x t hop B e i z sz bytes ht hi hz0 hz1 hz2 hz (by omega) _ 0 (([]:List Int).map (Value.int .i64)) hs ho.toRow ⟨b,off,none⟩ m c (vs.map (Value.int .i64)) hx (by simp [hv]) ?_ ?_ (by unfold maxLen;omega) (by rw [Nat.zero_add];omega) hB ?_
 · intro j u hj
   by_cases hjs:j<m*sz
   · have:=hc j hjs
     rw [List.getElem?_map,List.getElem?_eq_getElem (by omega)] at hj
     simp only [Option.map_some,Option.some.injEq] at hj
     subst hj
     rw [show (Addr.mk b off none).add j=⟨b,off+j,none⟩ by rw [Addr.add_lit],this]
     simp [List.getD,List.getElem?_eq_getElem (show j<vs.length by omega)]
   · rw [List.getElem?_eq_none (by simp;omega)] at hj;cases hj
 · intro u hu
   obtain ⟨x,_,rfl⟩:=List.mem_map.1 hu
   rfl
 · intro v' w' h2 h3 _
   rw [Nat.zero_add] at h2
   have h4:w'.ownsRow B e sz v' m (vs.map (Value.int .i64)):=by simpa using h2
   obtain ⟨ad',cap',rfl,h5⟩:=RowA.ofRow h4
   rw [blockOf_ownT] at h3
   exact hK ad' cap' w' h5 h3
theorem rowT_empty (w:World) (T sz:Nat):RowT (w.alloc (.cells #[] T)) T sz w.heap.size 0 0 []:=⟨by simp,#[],heap_alloc_new w _,Nat.le_refl _,by unfold maxLen;omega,by simp,by simp⟩
end Go.Proofs.YtanccoopbgamdaaGreatDoor
namespace Go.Proofs.YtanccoopbgamdaaGreatDoor
set_option linter.unusedVariables false
set_option linter.unusedSimpArgs false
def wayAt (alt:Bool) (y:Int):Int:=if alt=true∧y % 2=1 then -1 else 1
def xAt (alt:Bool) (W:Int) (i:Nat):Int:=if alt=true∧(i:Int)/W % 2=1 then W - 1 - (i:Int) % W else (i:Int) % W
def posAt (alt:Bool) (W:Int) (i:Nat):Nat:=((i:Int)/W*W+xAt alt W i).toNat
theorem xAt_bd {alt:Bool} {W:Int} {i:Nat} (hW:1≤W):0≤xAt alt W i∧xAt alt W i<W:=by
 have h1:=Int.emod_nonneg (i:Int) (show W≠0 by omega)
 have h2:=Int.emod_lt_of_pos (i:Int) (show 0<W by omega)
 unfold xAt
 split <;>omega
theorem posAt_at {alt:Bool} {W H:Int} {n i:Nat} (hW:1≤W) (hn:(n:Int)=W*H) (hi:i<n):
   posAt alt W i<n∧((posAt alt W i:Nat):Int)=(i:Int)/W*W+xAt alt W i∧0≤(i:Int)/W∧(i:Int)/W<H∧((posAt alt W i:Nat):Int)/W=(i:Int)/W∧((posAt alt W i:Nat):Int) % W=xAt alt W i:=by
 obtain ⟨x,y,h1,h2,h3,h4,h5,h6,h7⟩:=split_dm (i:=(i:Int)) (W:=W) (H:=H) hW (by omega) (by omega)
 obtain ⟨b1,b2⟩:=xAt_bd (alt:=alt) (i:=i) hW
 obtain ⟨r1,r2⟩:=row_bd b1 b2 h3 h4
 have e:((posAt alt W i:Nat):Int)=(i:Int)/W*W+xAt alt W i:=by
   unfold posAt
   rw [h7]
   omega
 obtain ⟨d1,d2⟩:=join_dm (q:=(i:Int)/W) b1 b2
 refine ⟨by rw [h7] at e;omega,e,by omega,by omega,by rw [e];exact d1,by rw [e];exact d2⟩
theorem posAt_inv {alt:Bool} {W H:Int} {n i:Nat} (hW:1≤W) (hn:(n:Int)=W*H) (hi:i<n):posAt alt W (posAt alt W i)=i:=by
 obtain ⟨h1,h2,h3,h4,h5,h6⟩:=posAt_at (alt:=alt) hW hn hi
 have e:((posAt alt W (posAt alt W i):Nat):Int)=i:=by
   have:=(posAt_at (alt:=alt) hW hn h1).2.1
   rw [this,h5]
   have a:=Int.emod_add_mul_ediv (i:Int) W
   have c:xAt alt W (posAt alt W i)=(i:Int) % W:=by
     unfold xAt
     rw [h5,h6]
     unfold xAt
     split <;>omega
   rw [c,Int.mul_comm]
   omega
 omega
theorem posAt_inj {alt:Bool} {W H:Int} {n i k:Nat} (hW:1≤W) (hn:(n:Int)=W*H) (hi:i<n) (hk:k<n) (h:posAt alt W i=posAt alt W k):i=k:=by
 rw [←posAt_inv (alt:=alt) hW hn hi,←posAt_inv (alt:=alt) hW hn hk,h]
def tgt (W H x y way:Int) (p:Prt):Option Nat:=if 0≤x+way*p.dx∧x+way*p.dx<W∧0≤y+p.dy∧y+p.dy<H then some ((y+p.dy)*W+(x+way*p.dx)).toNat else none
def tgtAt (alt:Bool) (W H:Int) (i:Nat) (p:Prt):Option Nat:=tgt W H (xAt alt W i) ((i:Int)/W) (wayAt alt ((i:Int)/W)) p
theorem tgt_later {alt:Bool} {W H:Int} {n i j:Nat} {p:Prt} (hW:1≤W) (hn:(n:Int)=W*H) (hi:i<n) (hp:partOk p=true) (h:tgtAt alt W H i p=some j): ∃k,i<k∧k<n∧j=posAt alt W k:=by
 obtain ⟨p1,p2,p3,p4,p5,p6,p7⟩:=partOk_bd hp
 unfold tgtAt tgt at h
 split at h
 case isFalse=>cases h
 case isTrue c=>
 obtain ⟨c1,c2,c3,c4⟩:=c
 obtain ⟨q1,q2,q3,q4,q5,q6⟩:=posAt_at (alt:=alt) hW hn hi
 obtain ⟨r1,r2⟩:=row_bd c1 c2 c3 c4
 have hj:(j:Int)=((i:Int)/W+p.dy)*W+(xAt alt W i+wayAt alt ((i:Int)/W)*p.dx):=by
   have:=Option.some.inj h
   omega
 have hjn:j<n:=by omega
 obtain ⟨d1,d2⟩:=join_dm (q:=(i:Int)/W+p.dy) c1 c2
 rw [←hj] at d1 d2
 obtain ⟨k1,k2,k3,k4,k5,k6⟩:=posAt_at (alt:=alt) hW hn hjn
 refine ⟨posAt alt W j,?_,k1,(posAt_inv (alt:=alt) hW hn hjn).symm⟩
 have a:=Int.emod_add_mul_ediv (i:Int) W
 have b1:=Int.emod_nonneg (i:Int) (show W≠0 by omega)
 have b2:=Int.emod_lt_of_pos (i:Int) (show 0<W by omega)
 by_cases hy:p.dy=0
 · have hx:=p5 hy
   have e2:xAt alt W j=(i:Int) % W+p.dx:=by
     unfold xAt
     rw [d1,d2,hy]
     unfold xAt wayAt
     simp only [Int.add_zero]
     split <;>omega
   rw [d1,hy,e2] at k2
   simp only [Int.add_zero] at k2
   rw [Int.mul_comm] at k2
   omega
 · obtain ⟨x1,x2⟩:=xAt_bd (alt:=alt) (W:=W) (i:=j) hW
   rw [d1] at k2
   have m:=Int.mul_le_mul_of_nonneg_right (show (i:Int)/W+1≤(i:Int)/W+p.dy by omega) (show 0≤W by omega)
   rw [Int.add_mul ((i:Int)/W) 1 W,Int.one_mul] at m
   rw [Int.mul_comm] at a
   omega
theorem isum_set (xs:List Int) (j:Nat) (v:Int) (h:j<xs.length):isum (xs.set j v)=isum xs - xs.getD j 0+v:=by
 induction xs generalizing j with
 | nil=>simp at h
 | cons x xs ih=>
   cases j with
   | zero=>simp [isum];omega
   | succ j=>
     have:=ih j (by simpa using h)
     simp only [List.set_cons_succ,isum,this]
     simp
     omega
def asum (xs:List Int):Int:=isum (xs.map (fun v=>(v.natAbs:Int)))
theorem asum_set (xs:List Int) (j:Nat) (v:Int) (h:j<xs.length):asum (xs.set j v)=asum xs - ((xs.getD j 0).natAbs:Int)+(v.natAbs:Int):=by
 unfold asum
 rw [List.map_set,isum_set _ _ _ (by simpa using h)]
 simp [List.getD,h]
theorem isum_nonneg {xs:List Int} (h: ∀x ∈ xs,0≤x):0≤isum xs:=by
 induction xs with
 | nil=>simp [isum]
 | cons x xs ih=>
   have h1:=h x (by simp)
   have h2:=ih (fun y hy=>h y (by simp [hy]))
   simp only [isum];omega
theorem isum_mem {xs:List Int} (h: ∀x ∈ xs,0≤x) {x:Int} (hx:x ∈ xs):x≤isum xs:=by
 induction xs with
 | nil=>simp at hx
 | cons y xs ih=>
   have h1:=h y (by simp)
   have h2:=isum_nonneg (xs:=xs) (fun y hy=>h y (by simp [hy]))
   simp only [isum]
   rcases List.mem_cons.1 hx with rfl | hx
   · omega
   · have:=ih (fun y hy=>h y (by simp [hy])) hx;omega
theorem asum_at (xs:List Int) (j:Nat):((xs.getD j 0).natAbs:Int)≤asum xs:=by
 by_cases h:j<xs.length
 · unfold asum
   refine isum_mem (fun x hx=>?_) ?_
   · obtain ⟨y,_,rfl⟩:=List.mem_map.1 hx;omega
   · refine List.mem_map.2 ⟨xs[j],List.getElem_mem h,?_⟩
     simp [List.getD,h]
 · have:0≤asum xs:=isum_nonneg (fun x hx=>by obtain ⟨y,_,rfl⟩:=List.mem_map.1 hx;omega)
   rw [List.getD,List.getElem?_eq_none (by omega)]
   simpa using this
theorem asum_within {xs:List Int} (h:within xs 255=true):asum xs≤255*xs.length:=by
 have h2: ∀x ∈ xs,0≤x∧x≤255:=fun x hx=>by
   have:=List.all_eq_true.1 h x hx
   simpa using this
 clear h
 unfold asum
 induction xs with
 | nil=>simp [isum]
 | cons x xs ih=>
   have h1:=h2 x (by simp)
   have h3:=ih (fun y hy=>h2 y (by simp [hy]))
   simp only [List.map_cons,isum,List.length_cons]
   omega
def give (st:List Int × Int) (t:Option Nat) (s:Int):List Int × Int:=
 match t with
 | some j=>(st.1.set j (st.1.getD j 0+s),st.2)
 | none=>(st.1,st.2+s)
def gives (T:Nat→Option Nat) (sh:List Int) (st:List Int × Int):Nat→List Int × Int
 | 0=>st
 | k+1=>give (gives T sh st k) (T k) (sh.getD k 0)
def shTo (sh:List Int):Nat→Int
 | 0=>0
 | k+1=>shTo sh k+sh.getD k 0
def absTo (sh:List Int):Nat→Int
 | 0=>0
 | k+1=>absTo sh k+((sh.getD k 0).natAbs:Int)
theorem give_len (st:List Int × Int) (t:Option Nat) (s:Int):(give st t s).1.length=st.1.length:=by cases t <;>simp [give]
theorem gives_len (T:Nat→Option Nat) (sh:List Int) (st:List Int × Int) (k:Nat):(gives T sh st k).1.length=st.1.length:=by
 induction k with
 | zero=>rfl
 | succ k ih=>rw [gives,give_len,ih]
theorem gives_sum {T:Nat→Option Nat} {sh:List Int} {st:List Int × Int} {k:Nat} (h: ∀i j,i<k→T i=some j→j<st.1.length):isum (gives T sh st k).1+(gives T sh st k).2=isum st.1+st.2+shTo sh k:=by
 induction k with
 | zero=>simp [gives,shTo]
 | succ k ih=>
   have h1:=ih (fun i j hi=>h i j (by omega))
   simp only [gives,shTo]
   cases hT:T k with
   | none=>simp only [give];omega
   | some j=>
     simp only [give]
     rw [isum_set _ _ _ (by rw [gives_len];exact h k j (by omega) hT)]
     omega
theorem gives_abs {T:Nat→Option Nat} {sh:List Int} {st:List Int × Int} {k:Nat} (h: ∀i j,i<k→T i=some j→j<st.1.length):asum (gives T sh st k).1+((gives T sh st k).2.natAbs:Int)≤asum st.1+(st.2.natAbs:Int)+absTo sh k:=by
 induction k with
 | zero=>simp [gives,absTo]
 | succ k ih=>
   have h1:=ih (fun i j hi=>h i j (by omega))
   simp only [gives,absTo]
   cases hT:T k with
   | none=>simp only [give];omega
   | some j=>
     simp only [give]
     rw [asum_set _ _ _ (by rw [gives_len];exact h k j (by omega) hT)]
     omega
theorem gives_else {T:Nat→Option Nat} {sh:List Int} {st:List Int × Int} {k j:Nat} (h: ∀i,i<k→T i≠some j):(gives T sh st k).1.getD j 0=st.1.getD j 0:=by
 induction k with
 | zero=>rfl
 | succ k ih=>
   have h1:=ih (fun i hi=>h i (by omega))
   have h2:=h k (by omega)
   simp only [gives]
   cases hT:T k with
   | none=>simpa [give] using h1
   | some i=>
     have hne:i≠j:=fun e=>h2 (by rw [hT,e])
     simp only [give,List.getD,List.getElem?_set,if_neg hne]
     simpa [List.getD] using h1
theorem give_agree {S:Nat→Prop} {a b:List Int × Int} {t:Option Nat} {s:Int} (hl:a.1.length=b.1.length) (h: ∀j,S j→a.1.getD j 0=b.1.getD j 0): ∀j,S j→(give a t s).1.getD j 0=(give b t s).1.getD j 0:=by
 intro j hj
 cases t with
 | none=>exact h j hj
 | some i=>
   by_cases e:i=j
   · subst e
     by_cases hb:i<b.1.length
     · simp only [give]
       rw [getD_set _ _ _ _ (by omega),getD_set _ _ _ _ hb,if_pos rfl,if_pos rfl,h i hj]
     · simp only [give]
       simp only [List.getD]
       rw [List.getElem?_eq_none (by simp;omega),List.getElem?_eq_none (by simp;omega)]
   · have:=h j hj
     simp only [give,List.getD,List.getElem?_set,if_neg e]
     simpa [List.getD] using this
theorem give_lost (a b:List Int × Int) (t:Option Nat) (s:Int) (h:a.2=b.2):(give a t s).2=(give b t s).2:=by cases t <;>simp [give,h]
theorem shTo_gen {ks:List Prt} {W e:Int} (k:Nat) (hk:k≤ks.length):shTo (sharesG ks W e) k=shSum ks W e k+(if 1≤k then e - shSum ks W e ks.length else 0):=by
 induction k with
 | zero=>simp [shTo,shSum]
 | succ k ih=>
   have h1:=ih (by omega)
   simp only [shTo,shSum]
   rw [sharesG_at _ _ _ _ (by omega),h1]
   by_cases c:k=0
   · subst c;simp [shSum]
   · rw [if_pos (by omega),if_neg c,if_pos (by omega)];omega
theorem shTo_all {ks:List Prt} {W e:Int} {n:Nat} (hn:ks.length=n) (h1:1≤n):shTo (sharesG ks W e) n=e:=by
 rw [shTo_gen n (by omega),if_pos h1,hn];omega
theorem absTo_gen {ks:List Prt} {n:Nat} {e:Int} (hn:ks.length=n) (h:kernTo ks n=true) (k:Nat) (hk:k≤n):
   absTo (sharesG ks (wtTo ks n) e) k≤((shSum ks (wtTo ks n) e k).natAbs:Int)+(if 1≤k then ((e - shSum ks (wtTo ks n) e n).natAbs:Int) else 0)∧(0≤e→0≤shSum ks (wtTo ks n) e k)∧(e≤0→shSum ks (wtTo ks n) e k≤0):=by
 have hW:=(wtTo_bd h n (Nat.le_refl _)).1
 induction k with
 | zero=>simp [absTo,shSum]
 | succ k ih=>
   obtain ⟨a,b,c⟩:=ih (by omega)
   have hp:=partOk_bd (kern_part h (show k<n by omega)).1
   have s1:0≤e→0≤shareB ks (wtTo ks n) e k:=fun he=>Int.ediv_nonneg (Int.mul_nonneg he (by omega)) (by omega)
   have s2:e≤0→shareB ks (wtTo ks n) e k≤0:=fun he=>by
     unfold shareB
     exact Int.ediv_le_of_le_mul (by omega) (by
       have:=Int.mul_le_mul_of_nonneg_right he (show 0≤(prt ks k).wt by omega)
       omega)
   have hat:=sharesG_at ks (wtTo ks n) e k (by omega)
   rw [hn] at hat
   refine ⟨?_,fun he=>?_,fun he=>?_⟩
   · simp only [absTo,shSum]
     rw [hat,if_pos (show 1≤k+1 by omega)]
     by_cases hk0:k=0
     · subst hk0
       simp only [absTo,shSum] at a⊢
       simp
       omega
     · rw [if_pos (show 1≤k by omega)] at a
       rw [if_neg hk0]
       by_cases he:0≤e
       · have:=s1 he;have:=b he;omega
       · have:=s2 (by omega);have:=c (by omega);omega
   · have:=s1 he;have:=b he;simp only [shSum];omega
   · have:=s2 he;have:=c he;simp only [shSum];omega
theorem absTo_all {ks:List Prt} {n:Nat} {e:Int} (hn:ks.length=n) (h1:1≤n) (h2:n≤12) (h:kernTo ks n=true):absTo (sharesG ks (wtTo ks n) e) n≤(e.natAbs:Int)+24:=by
 obtain ⟨a,b,c⟩:=absTo_gen (e:=e) hn h n (Nat.le_refl _)
 obtain ⟨d1,d2⟩:=shSum_near (e:=e) h h1
 rw [if_pos h1] at a
 by_cases he:0≤e
 · have:=b he;omega
 · have:=c (by omega);omega
theorem share_bd {ks:List Prt} {n:Nat} {e:Int} (hn:ks.length=n) (h1:1≤n) (h2:n≤12) (h:kernTo ks n=true) (k:Nat) (hk:k<n):(((sharesG ks (wtTo ks n) e).getD k 0).natAbs:Int)≤(e.natAbs:Int)+24:=by
 have mono : ∀(sh:List Int) (a b:Nat),a≤b→absTo sh a≤absTo sh b:=by
   intro sh a b hab
   induction b with
   | zero => obtain rfl:a=0:=by omega
             exact Int.le_refl _
   | succ b ih=>
     by_cases c:a=b+1
     · subst c;exact Int.le_refl _
     · have:=ih (by omega);simp only [absTo];omega
 have m:=mono (sharesG ks (wtTo ks n) e) (k+1) n (by omega)
 have z:0≤absTo (sharesG ks (wtTo ks n) e) k:=by have:=mono (sharesG ks (wtTo ks n) e) 0 k (by omega);simpa [absTo] using this
 have a:=absTo_all (e:=e) hn h1 h2 h
 simp only [absTo] at m
 omega
structure Dif where
 dots:List Int
 pend:List Int
 errs:List Int
 lost:Int
def dotOf (v:Int):Int:=if 128≤v then 1 else 0
def errOf (v:Int):Int:=v - 255*dotOf v
def givesAt (alt:Bool) (ks:List Prt) (W H:Int) (i:Nat) (e:Int) (st:List Int × Int) (k:Nat):List Int × Int:=
 gives (fun q=>tgtAt alt W H i (prt ks q)) (sharesG ks (wtTo ks ks.length) e) st k
def passG (alt:Bool) (ks:List Prt) (W H:Int) (d:Dif) (i:Nat):Dif:=
 ⟨d.dots.set (posAt alt W i) (dotOf (d.pend.getD (posAt alt W i) 0)),
  (givesAt alt ks W H i (errOf (d.pend.getD (posAt alt W i) 0)) (d.pend.set (posAt alt W i) 0,d.lost) ks.length).1,
  d.errs.set (posAt alt W i) (errOf (d.pend.getD (posAt alt W i) 0)),
  (givesAt alt ks W H i (errOf (d.pend.getD (posAt alt W i) 0)) (d.pend.set (posAt alt W i) 0,d.lost) ks.length).2⟩
def runG (alt:Bool) (ks:List Prt) (W H:Int) (ink:List Int):Nat→Dif
 | 0=>⟨List.replicate ink.length 0,ink,List.replicate ink.length 0,0⟩
 | i+1=>passG alt ks W H (runG alt ks W H ink i) i
def diffF (ks:List Prt) (W H:Int) (xs:List Int) (alt:Bool):Pic × Int × Bool:=
 if kernOk ks=true∧picOk W H xs 255=true then (⟨W,H,(runG alt ks W H xs xs.length).dots⟩,(runG alt ks W H xs xs.length).lost,true) else (noPic,0,false)
theorem diffF_no {ks:List Prt} {W H:Int} {xs:List Int} {alt:Bool} (h: ¬(kernOk ks=true∧picOk W H xs 255=true)):diffF ks W H xs alt=(noPic,0,false):=by unfold diffF;rw [if_neg h]
theorem diffF_yes {ks:List Prt} {W H:Int} {xs:List Int} {alt:Bool} {n:Nat} (hn:xs.length=n) (h1:kernOk ks=true) (h2:picOk W H xs 255=true):diffF ks W H xs alt=(⟨W,H,(runG alt ks W H xs n).dots⟩,(runG alt ks W H xs n).lost,true):=by unfold diffF;rw [if_pos ⟨h1,h2⟩,hn]
theorem errOf_abs (v:Int):((errOf v).natAbs:Int)≤(v.natAbs:Int):=by unfold errOf dotOf;split <;>omega
theorem dotOf_bd (v:Int):0≤dotOf v∧dotOf v≤1:=by unfold dotOf;split <;>omega
theorem rep0 (m j:Nat):(List.replicate m (0:Int)).getD j 0=0:=by
 by_cases h:j<m
 · simp [List.getD,List.getElem?_replicate,h]
 · simp [List.getD,List.getElem?_replicate,h]
section
variable {alt : Bool} {ks : List Prt} {W H : Int} {ink : List Int} {n : Nat}
theorem givesAt_len {i:Nat} {e:Int} {st:List Int × Int} {k:Nat}:(givesAt alt ks W H i e st k).1.length=st.1.length:=gives_len _ _ _ _
theorem run_len (t:Nat):(runG alt ks W H ink t).dots.length=ink.length∧(runG alt ks W H ink t).pend.length=ink.length∧(runG alt ks W H ink t).errs.length=ink.length:=by
 induction t with
 | zero=>simp [runG]
 | succ t ih=>
   obtain ⟨a,b,c⟩:=ih
   simp only [runG,passG,givesAt_len,List.length_set]
   exact ⟨a,b,c⟩
structure RunOk (alt:Bool) (ks:List Prt) (W H:Int) (ink:List Int) (n:Nat):Prop where
 W1:1≤W
 hn:(n:Int)=W*H
 hl:ink.length=n
 hw:within ink 255=true
 nb:n≤1024
 hk:kernTo ks ks.length=true
 k1:1≤ks.length
 k2:ks.length≤12
theorem RunOk.of (hn:ink.length=n) (h1:kernOk ks=true) (h2:picOk W H ink 255=true):RunOk alt ks W H ink n:=by
 obtain ⟨a,b,c⟩:=picOk_bd hn h2
 obtain ⟨d,e,f⟩:=kernOk_bd rfl h1
 have s:=sizeOk_bd a
 exact ⟨s.1,b,hn,c,by omega,f,d,e⟩
theorem RunOk.tgt (h:RunOk alt ks W H ink n) {i q j:Nat} (hi:i<n) (hq:q<ks.length) (ht:tgtAt alt W H i (prt ks q)=some j): ∃k,i<k∧k<n∧j=posAt alt W k:=
 tgt_later h.W1 h.hn hi (kern_part h.hk hq).1 ht
theorem RunOk.pos (h:RunOk alt ks W H ink n) {i:Nat} (hi:i<n):posAt alt W i<n:=(posAt_at h.W1 h.hn hi).1
theorem RunOk.ne (h:RunOk alt ks W H ink n) {i k:Nat} (hi:i<n) (hk:k<n) (hne:i≠k):posAt alt W i≠posAt alt W k:=fun e=>hne (posAt_inj h.W1 h.hn hi hk e)
theorem getD_set_ne (ys:List Int) {a b:Nat} (v:Int) (h:a≠b):(ys.set a v).getD b 0=ys.getD b 0:=by
 simp [List.getD,List.getElem?_set,h]
theorem run_inv (h:RunOk alt ks W H ink n) (t:Nat) (ht:t≤n):
   asum (runG alt ks W H ink t).pend+((runG alt ks W H ink t).lost.natAbs:Int)≤255*(n:Int)+24*t∧
   (∀i,t≤i→i<n→(runG alt ks W H ink t).dots.getD (posAt alt W i) 0=0∧(runG alt ks W H ink t).errs.getD (posAt alt W i) 0=0)∧
   (∀i,i<t→(runG alt ks W H ink t).pend.getD (posAt alt W i) 0=0)∧
   (∀j,(((runG alt ks W H ink t).errs.getD j 0).natAbs:Int)≤255*(n:Int)+24*t)∧
   isum (runG alt ks W H ink t).pend+(runG alt ks W H ink t).lost+255*isum (runG alt ks W H ink t).dots=isum ink∧within (runG alt ks W H ink t).dots 1=true:=by
 induction t with
 | zero=>
   have a:=asum_within h.hw
   rw [h.hl] at a
   refine ⟨by simp only [runG];simpa using a,fun i _ hi=>?_,fun i hi=>by omega,fun j=>?_,?_,?_⟩
   · exact ⟨rep0 _ _,rep0 _ _⟩
   · simp only [runG]
     rw [rep0];simp;omega
   · have z: ∀m:Nat,isum (List.replicate m (0:Int))=0:=fun m=>by induction m with
       | zero=>rfl
       | succ m ih=>simp [List.replicate_succ,isum,ih]
     simp only [runG,z];omega
   · simp only [runG,within,List.all_eq_true]
     intro x hx
     have:=List.eq_of_mem_replicate hx
     subst this;decide
 | succ t ih=>
   obtain ⟨b1,b2,b3,b4,b5,b6⟩:=ih (by omega)
   obtain ⟨l1,l2,l3⟩:=run_len (alt:=alt) (ks:=ks) (W:=W) (H:=H) (ink:=ink) t
   obtain ⟨d,hd⟩: ∃d,runG alt ks W H ink t=d:=⟨_,rfl⟩
   have hr:runG alt ks W H ink (t+1)=passG alt ks W H d t:=by rw [runG,hd]
   rw [hd] at b1 b2 b3 b4 b5 b6 l1 l2 l3
   rw [hr]
   clear hr hd
   have hj:=h.pos (show t<n by omega)
   have hjl:posAt alt W t<d.pend.length:=by rw [l2,h.hl];exact hj
   obtain ⟨v,hv⟩: ∃v,d.pend.getD (posAt alt W t) 0=v:=⟨_,rfl⟩
   have e1:=errOf_abs v
   have T1: ∀q j,q<ks.length→tgtAt alt W H t (prt ks q)=some j→j<(d.pend.set (posAt alt W t) 0,d.lost).1.length:=fun q j hq ht'=>by
     obtain ⟨k,k1,k2,rfl⟩:=h.tgt (show t<n by omega) hq ht'
     have:=h.pos k2
     simp only [List.length_set]
     rw [l2,h.hl];exact this
   have S:=gives_sum (sh:=sharesG ks (wtTo ks ks.length) (errOf v)) T1
   have A:=gives_abs (sh:=sharesG ks (wtTo ks ks.length) (errOf v)) T1
   have A2:=absTo_all (e:=errOf v) rfl h.k1 h.k2 h.hk
   rw [shTo_all rfl h.k1] at S
   simp only at S A
   rw [isum_set _ _ _ hjl,hv] at S
   rw [asum_set _ _ _ hjl,hv] at A
   have P2: ∀i,i≤t→(gives (fun q=>tgtAt alt W H t (prt ks q)) (sharesG ks (wtTo ks ks.length) (errOf v)) (d.pend.set (posAt alt W t) 0,d.lost) ks.length).1.getD (posAt alt W i) 0=0:=fun i hi=>by
     rw [gives_else (fun q hq ht'=>by
       obtain ⟨k,k1,k2,k3⟩:=h.tgt (show t<n by omega) hq ht'
       exact h.ne (show i<n by omega) k2 (by omega) k3)]
     by_cases e:i=t
     · subst e
       simp only
       rw [getD_set _ _ _ _ hjl,if_pos rfl]
     · simp only
       rw [getD_set_ne _ _ (h.ne (by omega) (by omega) (by omega))]
       exact b3 i (by omega)
   simp only [passG,hv,givesAt]
   refine ⟨?_,fun i hi hin=>?_,fun i hi=>P2 i (by omega),fun j=>?_,?_,?_⟩
   · simp at A;omega
   · rw [getD_set_ne _ _ (h.ne (by omega) hin (by omega)),getD_set_ne _ _ (h.ne (by omega) hin (by omega))]
     exact b2 i (by omega) hin
   · by_cases e:posAt alt W t=j
     · subst e
       rw [getD_set _ _ _ _ (by rw [l3,h.hl];exact hj),if_pos rfl]
       have:=asum_at d.pend (posAt alt W t)
       rw [hv] at this
       omega
     · rw [getD_set_ne _ _ e]
       have:=b4 j
       omega
   · rw [isum_set _ _ _ (by rw [l1,h.hl];exact hj),(b2 t (Nat.le_refl _) (by omega)).1]
     unfold errOf at S⊢
     omega
   · have dd:=dotOf_bd v
     unfold within at b6⊢
     rw [List.all_eq_true] at b6⊢
     intro x hx
     rcases List.mem_or_eq_of_mem_set hx with hx | rfl
     · exact b6 x hx
     · simpa using dd
theorem run_val (h:RunOk alt ks W H ink n) (t:Nat) (ht:t≤n) (j:Nat):-300000≤(runG alt ks W H ink t).pend.getD j 0∧(runG alt ks W H ink t).pend.getD j 0≤300000∧-300000≤(runG alt ks W H ink t).errs.getD j 0∧(runG alt ks W H ink t).errs.getD j 0≤300000∧-300000≤(runG alt ks W H ink t).lost∧(runG alt ks W H ink t).lost≤300000:=by
 obtain ⟨b1,_,_,b4,_⟩:=run_inv h t ht
 have a:=asum_at (runG alt ks W H ink t).pend j
 have c:=b4 j
 have z:=asum_at (runG alt ks W H ink t).pend n
 have:=h.nb
 omega
theorem mid_val (h:RunOk alt ks W H ink n) (t:Nat) (ht:t<n) (k:Nat) (hk:k≤ks.length) (j:Nat):
   -300000≤(givesAt alt ks W H t (errOf ((runG alt ks W H ink t).pend.getD (posAt alt W t) 0)) ((runG alt ks W H ink t).pend.set (posAt alt W t) 0,(runG alt ks W H ink t).lost) k).1.getD j 0∧
   (givesAt alt ks W H t (errOf ((runG alt ks W H ink t).pend.getD (posAt alt W t) 0)) ((runG alt ks W H ink t).pend.set (posAt alt W t) 0,(runG alt ks W H ink t).lost) k).1.getD j 0≤300000∧
   -300000≤(givesAt alt ks W H t (errOf ((runG alt ks W H ink t).pend.getD (posAt alt W t) 0)) ((runG alt ks W H ink t).pend.set (posAt alt W t) 0,(runG alt ks W H ink t).lost) k).2∧
   (givesAt alt ks W H t (errOf ((runG alt ks W H ink t).pend.getD (posAt alt W t) 0)) ((runG alt ks W H ink t).pend.set (posAt alt W t) 0,(runG alt ks W H ink t).lost) k).2≤300000:=by
 obtain ⟨b1,_⟩:=run_inv h t (by omega)
 obtain ⟨l1,l2,l3⟩:=run_len (alt:=alt) (ks:=ks) (W:=W) (H:=H) (ink:=ink) t
 obtain ⟨d,hd⟩: ∃d,runG alt ks W H ink t=d:=⟨_,rfl⟩
 rw [hd] at b1 l2⊢
 have hjl:posAt alt W t<d.pend.length:=by rw [l2,h.hl];exact h.pos ht
 obtain ⟨v,hv⟩: ∃v,d.pend.getD (posAt alt W t) 0=v:=⟨_,rfl⟩
 rw [hv]
 have e1:=errOf_abs v
 have A:=gives_abs (k:=k) (T:=fun q=>tgtAt alt W H t (prt ks q)) (sh:=sharesG ks (wtTo ks ks.length) (errOf v)) (st:=(d.pend.set (posAt alt W t) 0,d.lost)) (fun q j hq ht'=>by
     obtain ⟨m,m1,m2,rfl⟩:=h.tgt ht (show q<ks.length by omega) ht'
     have:=h.pos m2
     simp only [List.length_set]
     rw [l2,h.hl];exact this)
 have A2:=absTo_all (e:=errOf v) rfl h.k1 h.k2 h.hk
 have mono : ∀(sh:List Int) (a b:Nat),a≤b→absTo sh a≤absTo sh b:=by
   intro sh a b hab
   induction b with
   | zero => obtain rfl:a=0:=by omega
             exact Int.le_refl _
   | succ b ih=>
     by_cases c:a=b+1
     · subst c;exact Int.le_refl _
     · have:=ih (by omega);simp only [absTo];omega
 have A3:=mono (sharesG ks (wtTo ks ks.length) (errOf v)) k ks.length hk
 simp only at A
 rw [asum_set _ _ _ hjl,hv] at A
 have a:=asum_at (gives (fun q=>tgtAt alt W H t (prt ks q)) (sharesG ks (wtTo ks ks.length) (errOf v)) (d.pend.set (posAt alt W t) 0,d.lost) k).1 j
 have:=h.nb
 unfold givesAt
 simp at A
 omega
end
end Go.Proofs.YtanccoopbgamdaaGreatDoor
