/-
  Contracts and plain facts on which the theorem of this claim rests, text 30.
-/
import Derived.Deep.DeepCutAuto
import Derived.Deep.LoopGhost
import Derived.Test.YtanccoopbgamdaaGreatDoorKC4
import Derived.Test.YtanccoopbgamdaaGreatDoorKC5
import Derived.Test.YtanccoopbgamdaaGreatDoorKC6
import Derived.Test.YtanccoopbgamdaaGreatDoorKC28
import Derived.Test.YtanccoopbgamdaaGreatDoorKC29
namespace Go.Proofs.YtanccoopbgamdaaGreatDoor
open Go.RowKit
set_option linter.unusedVariables false
set_option linter.unusedSimpArgs false
def ranksL (key:Int→Int) (n:Nat):List Int:=gen n (fun i=>(placeC key (i:Int) n:Int))
theorem put_row {W:World} {blk n cap:Nat} {F:Nat→Int} (h:Own W blk n cap (gen n F)) {t:Nat} (ht:t<n) (v:Int):Own (W.setCell ⟨blk,t,none⟩ (.int .i64 v)) blk n cap (gen n (fun i=>if i=t then v else F i)):=by
 have h1:=h.set t v
 rwa [gen_set n F (fun i=>if i=t then v else F i) t v ht (by simp) (fun i _ hi=>by simp [hi])] at h1
theorem zero_row {W:World} {blk n cap:Nat} (h:Own W blk n cap (List.replicate n 0)):Own W blk n cap (gen n (fun _=>0)):=by
 have e:List.replicate n (0:Int)=gen n (fun _=>0):=gen_ext n _ _ (by simp) (fun k hk=>by simp [List.getD,hk])
 rwa [e] at h
set_option maxRecDepth 100000 in
set_option maxHeartbeats 1600000 in
theorem placesIn5 (key:Int→Int) (f:Nat→Int) (blk n:Nat) (w:World) (ho:Own w blk n n (gen n f)) (hg:Good key f 0 n) (hn:n≤100000):
   Calls Tryz.prog 125 #[.slice (some ⟨blk,0,none⟩) n n] w fun e w'=> ∃nb:Nat,e= .returned (.slice (some ⟨nb,0,none⟩) n n)∧w.heap.size≤nb∧Own w' nb n n (ranksL key n)∧Below w.heap.size w w':=by
 have HO:=Lib.hid ho
 have HG:=Lib.hid hg
 clear ho hg
 go_enter Tryz.func125,Tryz.ntmps125
 go_wp2_with (at_make;refine wp_make _ rfl _ _ rfl .i64 .i64 n n n rfl rfl rfl rfl (by omega) ?_;intro M hM)
 have HM:=Lib.hid (zero_row (hM.own w))
 clear hM
 go_wp2_with fail
 go_loopw [11] (fun i wr=> ∃(k:Nat) (F:Nat→Int),k≤n∧i= .int .i64 k∧Hid (Own wr w.heap.size n n (gen n F))∧Hid (∀j,j<k→F (f j).toNat=(j:Int))∧Hid (Below w.heap.size w wr)) (fun i _=>n - (intOf i).toNat)
 case atStart=>exact ⟨0,_,Nat.zero_le _,rfl,HM,Lib.hid (fun j hj=>by omega),Lib.hid (bAlloc (Below.refl _ _) _)⟩
 case round=>
   clear HM
   obtain ⟨k,F,hk,rfl,HR,HF,HB⟩:=hrel
   by_cases hlt:k<n
   · obtain ⟨t,ht⟩: ∃t:Nat,f k=(t:Int):=⟨(f k).toNat,by have:=HG.out.2 k (Nat.zero_le _) hlt;omega⟩
     have tn:t<n:=by have:=HG.out.2 k (Nat.zero_le _) hlt;omega
     have c0:=own_c (HO.out.below HB.out HO.out.lt) hlt
     rw [ht] at c0
     have c1:=own_c HR.out tn
     have f1:=HR.out.frozen t
     have HP:=Lib.hid (put_row HR.out tn (k:Int))
     have HF2:Hid (∀j,j<k+1→(fun i=>if i=t then (k:Int) else F i) (f j).toNat=(j:Int)):=Lib.hid (by
       intro j hj
       by_cases e:j=k
       · subst e;simp [ht]
       · have h1:=HG.out.2 j (Nat.zero_le _) (by omega)
         have hne:(f j).toNat≠t:=by
           intro e2
           have e3:f j=f k:=by rw [ht];omega
           have:=HG.out.1 j k (Nat.zero_le _) (by omega) hlt
           rw [e3] at this
           exact RL.irrefl this
         simp only [hne,if_false]
         exact HF.out j (by omega))
     have tn2:(t:Int)<(n:Int):=by omega
     clear ht
     go_wp2_with fail
     go_roundw
     case rel=>exact ⟨k+1,_,by omega,by go_num,HP,HF2,Lib.hid (HB.out.setCell (Nat.le_refl _) _)⟩
     case measure=>simp [intOf];omega
   · obtain rfl:k=n:=by omega
     have HE:Hid (gen k F=ranksL key k):=Lib.hid (gen_congr (fun i hi=>places_of HG.out HF.out i hi))
     go_wp2_with fail
     go_ret
     exact ⟨w.heap.size,rfl,Nat.le_refl _,by rw [←HE.out];exact HR.out,HB.out⟩
theorem infoCell5:(Tryz.prog.info? 149).map (fun i=>(i.zero,i.size,i.bytes))=some (some (zeros 2),2,16):=by kernel_rfl
def nearK (A B d:Int) (i:Int):Int:=nearF A B (i % d) (i/d)
theorem getD_set2 {xs:List Int} {i:Nat} (v:Int) (h:i<xs.length):(xs.set i v).getD i 0=v:=by simp [List.getD,h]
theorem getD_set3 {xs:List Int} {i j:Nat} (v:Int) (h:i≠j):(xs.set i v).getD j 0=xs.getD j 0:=by simp [List.getD,List.getElem?_set,h]
set_option maxRecDepth 100000 in
set_option maxHeartbeats 1600000 in
theorem impl_SpotRanks_yes {A B d:Int} {N:Nat} {g a b p q:Int} (L:Lat A B (N:Int) g d a b p q) (w:World):
   Calls Tryz.prog 154 #[.agg #[.int .i64 A, .int .i64 B]] w fun e w'=> ∃nb:Nat,e= .returned (.slice (some ⟨nb,0,none⟩) N N)∧w.heap.size≤nb∧Own w' nb N N (ranksL (nearK A B d) N)∧Below w.heap.size w w':=by
 have n1:=L.n1;have n2:=L.n2;have d1:=L.w1;have d2:=L.w2
 have N1:0<N:=by omega
 have N2:N≤288:=by omega
 have HL:=Lib.hid L
 clear L
 go_enter Tryz.func154,Tryz.ntmps154
 go_wp2_with fail
 refine (impl_IsLattice _ _ _).mono ?_
 rw [lat_ok HL.out]
 rintro e w1 ⟨rfl,hb⟩
 have HB1:=Lib.hid (bTrans (Joins.below_alloc1 _ _) hb)
 have KB1:=Lib.hid ((Blk.new w 126 #[.int .i64 A, .int .i64 B]).below' hb)
 obtain ⟨z,c0,c1⟩:=KB1.out.c2
 clear hb
 go_wp2_with fail
 refine (impl_AreaOf_yes HL.out _).mono ?_
 rintro e w2 ⟨rfl,hb⟩
 have HB2:=Lib.hid (bTrans HB1.out hb)
 have KB2:=Lib.hid (KB1.out.below' hb)
 clear hb z c0 c1
 go_wp2_with (at_make;refine wp_makeT _ rfl 214 149 2 16 Tryz.underlying214 infoCell5 (by decide) (by decide) _ _ rfl .i64 .i64 N N N rfl rfl rfl rfl (by omega) ?_;intro w3 hr hb)
 have HB3:=Lib.hid (bTrans HB2.out hb)
 have KB3:=Lib.hid (KB2.out.below' hb)
 have HR0:=Lib.hid hr
 have zb:w.heap.size<w2.heap.size:=KB2.out.lt
 have zb2:w.heap.size≤w2.heap.size:=by omega
 clear hr hb
 go_wp2_with fail
 go_loopw [14] (fun i wr=> ∃(k:Nat) (xs:List Int),k≤N∧i= .int .i64 k∧Hid (RowT wr 149 2 w2.heap.size N N xs)∧Hid (∀j,j<k→xs.getD (j*2) 0=(j:Int) % d∧xs.getD (j*2+1) 0=(j:Int)/d)∧Hid (Blk wr w.heap.size 126 #[.int .i64 A, .int .i64 B])∧Hid (Below w.heap.size w wr)) (fun i _=>N - (intOf i).toNat)
 case atStart=>exact ⟨0,_,Nat.zero_le _,rfl,HR0,Lib.hid (fun j hj=>by omega),KB3,HB3⟩
 case round=>
   clear HR0 KB3 HB3
   obtain ⟨k,xs,hk,rfl,HR,HX,KB,HB⟩:=hrel
   obtain ⟨z,c0,c1⟩:=KB.out.c2
   by_cases hlt:k<N
   · obtain ⟨U,hU⟩: ∃U,(k:Int) % d=U:=⟨_,rfl⟩
     obtain ⟨V,hV⟩: ∃V,(k:Int)/d=V:=⟨_,rfl⟩
     have HU:=Lib.hid hU
     have HV:=Lib.hid hV
     clear hU hV
     have kn:(k:Int)<(N:Int):=by omega
     go_wp2_with fail
     refine (impl_PointOf_yes HL.out (k:Int) (by omega) (by omega) _).mono ?_
     rw [HU.out,HV.out]
     rintro e w4 ⟨rfl,hb⟩
     have HB4:=Lib.hid (bTrans HB.out hb)
     have KB4:=Lib.hid (KB.out.below' hb)
     have HR4:=Lib.hid (HR.out.below hb HR.out.lt)
     clear z c0 c1 hb
     have g0:=HR4.out.cell (j:=k*2) (by omega)
     have g1:=HR4.out.cell (j:=k*2+1) (by omega)
     have f0:=HR4.out.frozen (k*2)
     have f1:=HR4.out.frozen (k*2+1)
     have HR5:=Lib.hid ((HR4.out.set (k*2) U).set (k*2+1) V)
     have HX5:Hid (∀j,j<k+1→((xs.set (k*2) U).set (k*2+1) V).getD (j*2) 0=(j:Int) % d∧((xs.set (k*2) U).set (k*2+1) V).getD (j*2+1) 0=(j:Int)/d):=Lib.hid (by
       intro j hj
       have hl:=HR4.out.len
       by_cases e:j=k
       · subst e
         rw [HU.out,HV.out]
         exact ⟨by rw [getD_set3 V (by omega),getD_set2 U (by omega)],by rw [getD_set2 V (by simp;omega)]⟩
       · rw [getD_set3 V (by omega),getD_set3 U (by omega),getD_set3 V (by omega),getD_set3 U (by omega)]
         exact HX.out j (by omega))
     have KB5:=Lib.hid ((KB4.out.other (a:=⟨w2.heap.size,k*2,none⟩) (by simp;omega) (.int .i64 U)).other (a:=⟨w2.heap.size,k*2+1,none⟩) (by simp;omega) (.int .i64 V))
     have HB5:=Lib.hid ((HB4.out.setCell (p:=⟨w2.heap.size,k*2,none⟩) (by exact zb2) (.int .i64 U)).setCell (p:=⟨w2.heap.size,k*2+1,none⟩) (by exact zb2) (.int .i64 V))
     go_wp2_with fail
     go_roundw
     case rel=>exact ⟨k+1,_,by omega,by go_num,HR5,HX5,KB5,HB5⟩
     case measure=>simp [intOf];omega
   · obtain rfl:k=N:=by omega
     have EG:Hid (∀args w,(callFunc 188 args).run Tryz.prog w= .ok (.enter 188 args) w):=Lib.hid (enters5 _ _ _ Tryz.func188 (by kernel_rfl) rfl)
     have OR:Hid (∀v,Below wr.heap.size wr v→ ∀i j:Nat,i<k→j<k→Calls Tryz.prog 188 (#[.agg #[.int .i64 ((i:Int) % d), .int .i64 ((i:Int)/d)], .agg #[.int .i64 ((j:Int) % d), .int .i64 ((j:Int)/d)]]++#[.pointer (some ⟨w.heap.size,0,none⟩)]) v fun e v'=> ∃c:Int,e= .returned (.int .i64 c)∧(c<0↔nearK A B d (i:Int)<nearK A B d (j:Int))∧Below v.heap.size v v'):=Lib.hid (fun v hv i j hi hj=>by
       have kb:=KB.out.below' hv
       obtain ⟨z,c0,c1⟩:=kb.c2
       exact nearOrd HL.out _ _ _ _ w.heap.size v z c0 c1)
     have CI:Hid (∀t,t<k→wr.cell? ⟨w2.heap.size,t*2,none⟩=some (.int .i64 ((t:Int) % d))∧wr.cell? ⟨w2.heap.size,t*2+1,none⟩=some (.int .i64 ((t:Int)/d))):=Lib.hid (fun t ht=>by
       have h1:=HR.out.cell (j:=t*2) (by omega)
       have h2:=HR.out.cell (j:=t*2+1) (by omega)
       rw [(HX.out t ht).1] at h1
       rw [(HX.out t ht).2] at h2
       exact ⟨h1,h2⟩)
     have ZI:=Lib.hid HR.out.lt
     go_wp2_with fail
     refine (seqCell 188 #[.pointer (some ⟨w.heap.size,0,none⟩)] w2.heap.size k (fun t=>(t:Int) % d) (fun t=>(t:Int)/d) (nearK A B d) _ EG.out (by omega) N1 CI.out ZI.out OR.out).mono ?_
     rintro e w5 ⟨f,blk,rfl,hbl,ho,hg,hb⟩
     have HB6:=Lib.hid (bTrans HB.out hb)
     have HO6:=Lib.hid ho
     have HG6:=Lib.hid hg
     clear hbl ho hg hb
     go_wp2_with fail
     refine (placesIn5 (nearK A B d) f blk k _ HO6.out HG6.out (by omega)).mono ?_
     rintro e w6 ⟨nb,rfl,hnb,ho,hb⟩
     have HB7:=Lib.hid (bTrans HB6.out hb)
     have HO7:=Lib.hid ho
     have HN7:=Lib.hid (Nat.le_trans HB6.out.size hnb)
     clear hnb ho hb
     go_wp2_with fail
     go_ret
     exact ⟨nb,rfl,HN7.out,HO7.out,HB7.out⟩
end Go.Proofs.YtanccoopbgamdaaGreatDoor
namespace Go.Proofs.YtanccoopbgamdaaGreatDoor
set_option linter.unusedVariables false
set_option linter.unusedSimpArgs false
structure Eu where
 sx:Int
 sy:Int
 ox:Int
 oy:Int
deriving DecidableEq
def euNext (s:Eu):Eu:=⟨s.ox,s.oy,s.sx+s.ox*-(s.sy/s.oy),s.sy+s.oy*-(s.sy/s.oy)⟩
def euAt (A B:Int):Nat→Eu
 | 0=>⟨A,B,-B,A⟩
 | k+1=>if (euAt A B k).oy=0 then euAt A B k else euNext (euAt A B k)
def euOk (A B:Int) (k:Nat) (s:Eu):Bool:=
 decide (-1000≤s.sx) && decide (s.sx≤1000) && decide (0≤s.sy) && decide (s.sy≤1000) && decide (-1000≤s.ox) && decide (s.ox≤1000) && decide (0≤s.oy) && decide (s.oy≤1000) &&
 (decide (s.oy≠0) || (decide (s.sy=gI A B) && decide ((s.sx*A+s.sy*B) % areaI A B=0) && decide ((s.sy*A - s.sx*B) % areaI A B=0))) && (decide (s.oy=0) || (decide (k<9) && decide (0≤s.sy/s.oy) && decide (s.sy/s.oy≤1000) && decide (-1000≤s.ox*-(s.sy/s.oy)) && decide (s.ox*-(s.sy/s.oy)≤1000) && decide (-1000≤s.oy*-(s.sy/s.oy)) && decide (s.oy*-(s.sy/s.oy)≤1000)))
theorem eu_tab: ∀A:Fin 13,∀B:Fin 13,∀k:Fin 10,1≤A.val→euOk A.val B.val k.val (euAt A.val B.val k.val)=true:=by decide+kernel
theorem eu_at {A B n g w a b p q:Int} (L:Lat A B n g w a b p q) {k:Nat} (hk:k<10):euOk A B k (euAt A B k)=true:=by
 have a1:=L.a1;have a2:=L.a2;have b1:=L.b1;have b2:=L.b2
 obtain ⟨x,rfl⟩: ∃x:Nat,A=x:=⟨A.toNat,by omega⟩
 obtain ⟨y,rfl⟩: ∃y:Nat,B=y:=⟨B.toNat,by omega⟩
 exact eu_tab ⟨x,by omega⟩ ⟨y,by omega⟩ ⟨k,hk⟩ (by simp only;omega)
theorem eu_bd {A B n g w a b p q:Int} (L:Lat A B n g w a b p q) {k:Nat} (hk:k<10) {s:Eu} (hs:euAt A B k=s):
   -1000≤s.sx∧s.sx≤1000∧0≤s.sy∧s.sy≤1000∧-1000≤s.ox∧s.ox≤1000∧0≤s.oy∧s.oy≤1000∧(s.oy=0→s.sy=g∧HasL A B s.sx g)∧
   (s.oy≠0→k<9∧0≤s.sy/s.oy∧s.sy/s.oy≤1000∧-1000≤s.ox*-(s.sy/s.oy)∧s.ox*-(s.sy/s.oy)≤1000∧-1000≤s.oy*-(s.sy/s.oy)∧s.oy*-(s.sy/s.oy)≤1000∧euAt A B (k+1)=euNext s):=by
 have h:=eu_at L hk
 rw [hs] at h
 simp only [euOk,Bool.and_eq_true,Bool.or_eq_true,decide_eq_true_eq] at h
 obtain ⟨⟨⟨⟨⟨⟨⟨⟨⟨h1,h2⟩,h3⟩,h4⟩,h5⟩,h6⟩,h7⟩,h8⟩,h9⟩,h10⟩:=h
 refine ⟨h1,h2,h3,h4,h5,h6,h7,h8,fun e=>?_,fun e=>?_⟩
 · rcases h9 with h9 | ⟨⟨h9,h11⟩,h12⟩
   · exact absurd e h9
   · rw [L.hg] at h9
     rw [h9] at h11 h12
     exact ⟨h9,Int.dvd_of_emod_eq_zero h11,Int.dvd_of_emod_eq_zero h12⟩
 · rcases h10 with h10 | ⟨⟨⟨⟨⟨⟨h10,h11⟩,h12⟩,h13⟩,h14⟩,h15⟩,h16⟩
   · exact absurd h10 e
   · refine ⟨h10,h11,h12,h13,h14,h15,h16,?_⟩
     rw [euAt,hs,if_neg e]
end Go.Proofs.YtanccoopbgamdaaGreatDoor
namespace Go.Proofs.YtanccoopbgamdaaGreatDoor
open Go.RowKit
set_option linter.unusedVariables false
set_option linter.unusedSimpArgs false
set_option maxHeartbeats 400000 in
theorem impl_plus5 (x y u v:Int) (w:World) (h1:-10000000≤x) (h2:x≤10000000) (h3:-10000000≤y) (h4:y≤10000000) (h5:-10000000≤u) (h6:u≤10000000) (h7:-10000000≤v) (h8:v≤10000000):
   Calls Tryz.prog 119 #[.agg #[.int .i64 x, .int .i64 y], .agg #[.int .i64 u, .int .i64 v]] w fun e w'=>e= .returned (.agg #[.int .i64 (x+u), .int .i64 (y+v)])∧Below w.heap.size w w':=by
 go_enter Tryz.func119,Tryz.ntmps119
 go_wp2_with fail
 exact bodyPost_ret (v:= .agg #[.int .i64 (x+u), .int .i64 (y+v)]) (by simp [results,Tryz.results119,go_sem]) rfl ⟨rfl,(((Below.refl _ _).alloc (Nat.le_refl _) _).alloc (by simp) _).alloc (by simp;omega) _⟩
set_option maxHeartbeats 400000 in
theorem impl_times5 (x y u:Int) (w:World) (h1:-1000000≤x*u) (h2:x*u≤1000000) (h3:-1000000≤y*u) (h4:y*u≤1000000):
   Calls Tryz.prog 215 #[.agg #[.int .i64 x, .int .i64 y], .int .i64 u] w fun e w'=>e= .returned (.agg #[.int .i64 (x*u), .int .i64 (y*u)])∧Below w.heap.size w w':=by
 go_enter Tryz.func215,Tryz.ntmps215
 go_wp2_with fail
 exact bodyPost_ret (v:= .agg #[.int .i64 (x*u), .int .i64 (y*u)]) (by simp [results,Tryz.results215,go_sem]) rfl ⟨rfl,((Below.refl _ _).alloc (Nat.le_refl _) _).alloc (by simp) _⟩
def EuSt (w wx:World) (s:Eu) (v3 v4:Value):Prop:= ∃g1 g2:Nat,v3= .pointer (some ⟨g1,0,none⟩)∧v4= .pointer (some ⟨g2,0,none⟩)∧g1≠g2∧w.heap.size≤g1∧w.heap.size≤g2∧Blk wx g1 149 #[.int .i64 s.sx, .int .i64 s.sy]∧Blk wx g2 149 #[.int .i64 s.ox, .int .i64 s.oy]∧Below w.heap.size w wx
theorem eu_mk (w:World) (s:Eu):EuSt w (((w.alloc (.cells #[.int .i64 s.sx, .int .i64 s.sy] 149)).alloc (.cells #[.int .i64 s.ox, .int .i64 s.oy] 149)).drew) s (.pointer (some ⟨w.heap.size,0,none⟩)) (.pointer (some ⟨w.heap.size+1,0,none⟩)):=
 ⟨w.heap.size,w.heap.size+1,rfl,rfl,by omega,Nat.le_refl _,by omega,((Blk.new w _ _).alloc _).drew,(Blk.new' _ _ (by simp)).drew,(bAlloc (bAlloc (Below.refl w.heap.size w) _) _).drew⟩
theorem eu_mk' (w:World) (s:Eu):EuSt w (((w.alloc (.cells #[.int .i64 s.ox, .int .i64 s.oy] 149)).alloc (.cells #[.int .i64 s.sx, .int .i64 s.sy] 149)).drew) s (.pointer (some ⟨w.heap.size+1,0,none⟩)) (.pointer (some ⟨w.heap.size,0,none⟩)):=
 ⟨w.heap.size+1,w.heap.size,rfl,rfl,by omega,by omega,Nat.le_refl _,(Blk.new' _ _ (by simp)).drew,((Blk.new w _ _).alloc _).drew,(bAlloc (bAlloc (Below.refl w.heap.size w) _) _).drew⟩
set_option maxRecDepth 100000 in
set_option maxHeartbeats 1600000 in
theorem impl_stepDown {A B n g d a b p q:Int} (L:Lat A B n g d a b p q) (w:World):
   Calls Tryz.prog 192 #[.agg #[.int .i64 A, .int .i64 B]] w fun e w'=> ∃sx,e= .returned (.agg #[.int .i64 sx, .int .i64 g])∧HasL A B sx g∧-1000≤sx∧sx≤1000∧Below w.heap.size w w':=by
 have HL:=Lib.hid L
 have a1:=L.a1;have a2:=L.a2;have b1:=L.b1;have b2:=L.b2
 clear L
 go_enter Tryz.func192,Tryz.ntmps192
 go_upto_region 1 with fail
 have KP:=Lib.hid ((Blk.new w 126 #[.int .i64 A, .int .i64 B]).alloc (.cells #[.int .i64 0, .int .i64 0] 149))
 have KZ:=Lib.hid (Blk.new' (g:=w.heap.size+1) (w:=w.alloc (.cells #[.int .i64 A, .int .i64 B] 126)) 149 #[.int .i64 0, .int .i64 0] (by simp))
 have HBP:=Lib.hid (bAlloc (bAlloc (Below.refl w.heap.size w) (.cells #[.int .i64 A, .int .i64 B] 126)) (.cells #[.int .i64 0, .int .i64 0] 149))
 obtain ⟨wo,hwo⟩: ∃wo:World,wo=(w.alloc (.cells #[.int .i64 A, .int .i64 B] 126)).alloc (.cells #[.int .i64 0, .int .i64 0] 149):=⟨_,rfl⟩
 rw [←hwo] at KP KZ HBP⊢
 clear hwo
 go_cut [3,4] (fun s3 s4 wx=>EuSt wo wx ⟨A,B,-B,A⟩ s3 s4)
 case first=>
   obtain ⟨l0,o0,o1⟩:=KP.out.c2
   have t1:IntKind.i64.wrap (-B)=-B:=IntWalk.i64_in _ (by omega)
   have MK:Hid (∀v,BelowL wo v→v.cell? ⟨w.heap.size,0,none⟩=some (.int .i64 A)∧v.cell? ⟨w.heap.size,1,none⟩=some (.int .i64 B)∧BelowL wo v):=Lib.hid (fun v hB=>⟨(hB.out.cell l0).trans o0,(hB.out.cell l0).trans o1,hB⟩)
   refine wp_region_held_drew (S:=fun v=>v.cell? ⟨w.heap.size,0,none⟩=some (.int .i64 A)∧v.cell? ⟨w.heap.size,1,none⟩=some (.int .i64 B)∧BelowL wo v) (by kernel_rfl) (MK.out _ (BelowL.start _)) ?_
   intro hHeld
   have hb0:=limb3 hHeld
   refine hTake 0 ?_
   refine hTake 1 ?_
   refine hTake 2 ?_
   refine hTake 3 ?_
   refine hTake 4 ?_
   refine hTake 5 ?_
   refine hTake 6 ?_
   refine hTake 7 ?_
   refine hTake 8 ?_
   refine hTake 9 ?_
   refine hTake 10 ?_
   refine wpAnyH_ready (rs:=[11,12]) (by kernel_rfl) (by simp) ?_
   refine AllReadyH.cons rfl (fun K hK=>?_) (AllReadyH.cons rfl (fun K hK=>?_) AllReadyH.nil)
   · go_simp
     refine hK.out _ _ (by (try dsimp only);exact MK.out _ (BelowL.alloc hb0 _)) (fun hHeld=>?_)
     clear hK K
     refine hOne 12 (fun K hK=>?_)
     go_simp
     refine hK.out _ _ (by (try dsimp only);exact MK.out _ (BelowL.alloc (BelowL.alloc hb0 _) _)) (fun hHeld=>?_)
     clear hK K
     refine hOne 13 (fun K hK=>?_)
     go_simp
     refine hK.out _ _ (by (try dsimp only);exact MK.out _ (BelowL.alloc (BelowL.alloc hb0 _) _)) (fun hHeld=>?_)
     clear hK K
     refine hOne 14 (fun K hK=>?_)
     go_simp
     refine hK.out _ _ (by (try dsimp only);exact MK.out _ (BelowL.alloc (BelowL.alloc hb0 _) _)) (fun hHeld=>?_)
     clear hK K
     refine wpAnyH_done (by kernel_rfl) ?_ _
     (try go_simp)
     go_wp2_with fail
     go_meet
     exact eu_mk wo ⟨A,B,-B,A⟩
   · go_simp
     refine hK.out _ _ (by (try dsimp only);exact MK.out _ (BelowL.alloc hb0 _)) (fun hHeld=>?_)
     clear hK K
     refine hOne 11 (fun K hK=>?_)
     go_simp
     refine hK.out _ _ (by (try dsimp only);exact MK.out _ (BelowL.alloc (BelowL.alloc hb0 _) _)) (fun hHeld=>?_)
     clear hK K
     refine hOne 13 (fun K hK=>?_)
     go_simp
     refine hK.out _ _ (by (try dsimp only);exact MK.out _ (BelowL.alloc (BelowL.alloc hb0 _) _)) (fun hHeld=>?_)
     clear hK K
     refine hOne 14 (fun K hK=>?_)
     go_simp
     refine hK.out _ _ (by (try dsimp only);exact MK.out _ (BelowL.alloc (BelowL.alloc hb0 _) _)) (fun hHeld=>?_)
     clear hK K
     refine wpAnyH_done (by kernel_rfl) ?_ _
     (try go_simp)
     go_wp2_with fail
     go_meet
     exact eu_mk' wo ⟨A,B,-B,A⟩
 case rest=>
   obtain ⟨g1,g2,rfl,rfl,hne,h1,h2,k1,k2,hb⟩:=hcut
   have K1:=Lib.hid k1
   have K2:=Lib.hid k2
   have HB:=Lib.hid hb
   have hz:=KZ.out.lt
   clear k1 k2 hb
   go_wp2_with fail
   go_loopg [16] 10 (fun gh s16 wr=> ∃(k:Nat) (X Y O V:Int),k<10∧9≤k+gh∧Hid (euAt A B k=⟨X,Y,O,V⟩)∧Hid (Blk wr g1 149 #[.int .i64 X, .int .i64 Y])∧Hid (Blk wr g2 149 #[.int .i64 O, .int .i64 V])∧Hid (Below wo.heap.size wo wr))
   case atStart=>exact ⟨0,A,B,-B,A,by omega,by omega,Lib.hid rfl,K1,K2,HB⟩
   case round=>
     clear K1 K2 HB
     obtain ⟨k,X,Y,O,V,hk,hgh,HE,R1,R2,RB⟩:=hrel
     obtain ⟨e1,e2,e3,e4,e5,e6,e7,e8,e9,e10⟩:=eu_bd HL.out hk HE.out
     simp only at e1 e2 e3 e4 e5 e6 e7 e8 e9 e10
     obtain ⟨l1,p0,p1⟩:=R1.out.c2
     obtain ⟨l2,q0,q1⟩:=R2.out.c2
     by_cases hV:V=0
     · obtain ⟨rfl,hhas⟩:=e9 hV
       subst hV
       have HH:=Lib.hid hhas
       have KZr:=Lib.hid (KZ.out.below RB.out hz)
       obtain ⟨l3,r0,r1⟩:=KZr.out.c2
       have f0:=KZr.out.frozen 0
       have f1:=KZr.out.frozen 1
       clear e9 e10 hhas
       go_wp2_with fail
       exact bodyPost_ret (v:= .agg #[.int .i64 X, .int .i64 Y]) (by simp [results,Tryz.results192,go_sem,r0,r1]) rfl ⟨X,rfl,HH.out,e1,e2,((bTrans HBP.out RB.out).setCell (by simp) _).setCell (by simp) _⟩
     · obtain ⟨k9,d1,d2,d3,d4,d5,d6,d7⟩:=e10 hV
       have hv1:(V !=0)=true:=by simpa using hV
       have hv2:(V==0)=false:=by simpa using hV
       have HN:=Lib.hid d7
       obtain ⟨D,hD⟩: ∃D,Y/V=D:=⟨_,rfl⟩
       rw [hD] at d1 d2 d3 d4 d5 d6
       have t1:Y.tdiv V=D:=by rw [Int.tdiv_eq_ediv_of_nonneg e3];exact hD
       have t2:IntKind.i64.wrap D=D:=IntWalk.i64_in _ (by omega)
       have t3:IntKind.i64.wrap (-D)=-D:=IntWalk.i64_in _ (by omega)
       have HD:=Lib.hid hD
       clear e9 e10 d7 hD
       go_upto_region 3 with fail
       have MK:Hid (∀v,BelowL wr v→v.cell? ⟨g1,0,none⟩=some (.int .i64 X)∧v.cell? ⟨g1,1,none⟩=some (.int .i64 Y)∧v.cell? ⟨g2,0,none⟩=some (.int .i64 O)∧v.cell? ⟨g2,1,none⟩=some (.int .i64 V)∧BelowL wr v):=Lib.hid (fun v hB=>⟨(hB.out.cell l1).trans p0,(hB.out.cell l1).trans p1,(hB.out.cell l2).trans q0,(hB.out.cell l2).trans q1,hB⟩)
       refine wp_region_T 11 (fun v=>v.cell? ⟨g1,0,none⟩=some (.int .i64 X)∧v.cell? ⟨g1,1,none⟩=some (.int .i64 Y)∧v.cell? ⟨g2,0,none⟩=some (.int .i64 O)∧v.cell? ⟨g2,1,none⟩=some (.int .i64 V)∧BelowL wr v) (by kernel_rfl) (MK.out _ (BelowL.start _)) ?_
       intro hHeld
       have hb0:=limb5 hHeld
       refine tTake 0 ?_
       refine tTake 1 ?_
       refine tTake 2 ?_
       refine tTake 3 ?_
       refine tTake 4 ?_
       refine tTake 5 ?_
       refine tTake 6 ?_
       refine tTake 7 ?_
       refine tTake 8 ?_
       refine tOne 9 (fun K hK=>?_)
       go_simp
       go_at_call 215
       ((with_reducible refine (impl_times5 _ _ _ _ (by omega) (by omega) (by omega) (by omega)).mono ?_);rintro e v1 ⟨rfl,hq1⟩)
       have hb1:=BelowL.call hb0 hq1
       go_wp2_with fail
       refine hK.out _ _ (fun _=>by (try dsimp only);exact MK.out _ hb1) (fun hH2=>?_)
       clear hK K hHeld hH2
       refine tOne 10 (fun K hK=>?_)
       go_simp
       go_at_call 119
       ((with_reducible refine (impl_plus5 _ _ _ _ _ (by omega) (by omega) (by omega) (by omega) (by omega) (by omega) (by omega) (by omega)).mono ?_);rintro e v2 ⟨rfl,hq2⟩)
       have hb2:=BelowL.call hb1 hq2
       have S1:=Lib.hid (R1.out.below' hb2.out)
       have S2:=Lib.hid (R2.out.below' hb2.out)
       go_wp2_with fail
       refine hK.out _ _ (fun _=>by (try dsimp only);exact MK.out _ hb2) (fun hH2=>?_)
       clear hK K hH2
       clear p0 p1 q0 q1
       obtain ⟨l1,p0,p1⟩:=S1.out.c2
       obtain ⟨l2,q0,q1⟩:=S2.out.c2
       have f0:=S1.out.frozen 0
       have f1:=S1.out.frozen 1
       have f2:=S2.out.frozen 0
       have f3:=S2.out.frozen 1
       refine tOne 11 (fun K hK=>?_)
       go_simp
       have S3:=Lib.hid ((S1.out.set 0 (.int .i64 O)).set 1 (.int .i64 V))
       have S4:=Lib.hid ((S2.out.other (a:=⟨g1,0,none⟩) (by exact hne) (.int .i64 O)).other (a:=⟨g1,1,none⟩) (by exact hne) (.int .i64 V))
       have HB3:=Lib.hid (((bTrans RB.out hb2.out).setCell (p:=⟨g1,0,none⟩) (by exact h1) (.int .i64 O)).setCell (p:=⟨g1,1,none⟩) (by exact h1) (.int .i64 V))
       refine hK.out _ _ (fun h=>absurd h (by decide)) (fun hH2=>?_)
       clear hK K hH2
       clear l1 p0 p1 l2 q0 q1 f0 f1 f2 f3 hb0 hb1 hb2 hq1 hq2 S1 S2 MK
       obtain ⟨w3,hw3⟩: ∃w3,w3=(v2.setCell ⟨g1,0,none⟩ (.int .i64 O)).setCell ⟨g1,1,none⟩ (.int .i64 V):=⟨_,rfl⟩
       rw [←hw3] at S3 S4 HB3⊢
       clear hw3
       obtain ⟨l2,q0,q1⟩:=S4.out.c2
       have f2:=S4.out.frozen 0
       have f3:=S4.out.frozen 1
       refine tOne 12 (fun K hK=>?_)
       go_simp
       have S5:=Lib.hid ((S3.out.other (a:=⟨g2,0,none⟩) (by exact fun h=>hne h.symm) (.int .i64 (X+O*-D))).other (a:=⟨g2,1,none⟩) (by exact fun h=>hne h.symm) (.int .i64 (Y+V*-D)))
       have S6:=Lib.hid ((S4.out.set 0 (.int .i64 (X+O*-D))).set 1 (.int .i64 (Y+V*-D)))
       have HB4:=Lib.hid ((HB3.out.setCell (p:=⟨g2,0,none⟩) (by exact h2) (.int .i64 (X+O*-D))).setCell (p:=⟨g2,1,none⟩) (by exact h2) (.int .i64 (Y+V*-D)))
       refine hK.out _ _ (fun h=>absurd h (by decide)) (fun hH2=>?_)
       clear hK K hH2
       refine wpAnyT_done (by kernel_rfl) ?_ _
       (try go_simp)
       clear l2 q0 q1 f2 f3
       go_wp2_with fail
       go_roundg (8 - k)
       case measure=>omega
       case rel=>exact ⟨k+1,O,V,X+O*-D,Y+V*-D,by omega,by omega,Lib.hid (by rw [HN.out];unfold euNext;simp only [HD.out]),S5,S6,HB4⟩
end Go.Proofs.YtanccoopbgamdaaGreatDoor
