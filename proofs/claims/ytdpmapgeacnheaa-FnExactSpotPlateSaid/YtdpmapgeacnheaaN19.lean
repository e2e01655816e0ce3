/-
  Contracts of chapter 6: SpotPlate of the model.
-/
import Derived.Test.YtdpmapgeacnheaaN18
import Derived.Test.YtdpmapgeacnheaaN16
import Derived.Test.YtdpmapgeacnheaaC3
namespace Go.Proofs.Ytdpmapgeacnheaa
open Go.RowKit
set_option linter.unusedVariables false
set_option linter.unusedSimpArgs false

set_option maxRecDepth 100000 in
set_option maxHeartbeats 3200000 in
theorem spec_SpotPlate_yes {A B d : Int} {N : Nat} {g a b p q : Int} (L : Lat A B (N : Int) g d a b p q) (lv W H : Int) (n : Nat) (nm : Nat → Nat) (hnm : Named A B W n nm) (l1 : 0 ≤ lv) (l2 : lv ≤ N) (hs : sizeOk W H = true) (hq : (n : Int) = W * H) (w : World) :
    Calls Try.prog 35 #[.agg #[.int .i64 A, .int .i64 B], .int .i64 lv, .int .i64 W, .int .i64 H] w (PicOut2 w (⟨W, H, gen n (plateG A B d N nm lv)⟩, true)) := by
  obtain ⟨b1, b2, b3, b4, b5, b6⟩ := sizeOk_bd hs
  have n1 := L.n1; have n2 := L.n2
  have N1 : 0 < N := by omega
  have N2 : N ≤ 288 := by omega
  have nb1 : n ≤ 1024 := by omega
  have nb0 : 1 ≤ n := by omega
  have HL := Lib.hid L
  have HQ := Lib.hid hq
  have HS := Lib.hid hs
  have HNM : Aside _ := hnm
  clear L hq hs hnm
  go_enter Try.func35, Try.ntmps35
  go_wp2_with fail
  refine (spec_IsLattice _ _ _).mono ?_
  rw [lat_ok HL.out]
  rintro e w1 ⟨rfl, hb⟩
  have HB1 := Lib.hid (bTrans (Joins.below_alloc2 _ _ _) hb)
  have KL1 := Lib.hid (((Blk.new w 25 #[.int .i64 A, .int .i64 B]).alloc (.cells #[.int .i64 0, .int .i64 0, .slice none 0 0] 41)).below' hb)
  have KP1 := Lib.hid ((Blk.new' (g := w.heap.size + 1) (w := w.alloc (.cells #[.int .i64 A, .int .i64 B] 25)) 41 #[.int .i64 0, .int .i64 0, .slice none 0 0] (by simp)).below' hb)
  obtain ⟨z, c0, c1⟩ := KL1.out.c2
  clear hb
  go_wp2_with fail
  refine (spec_l5Area HL.out _).mono ?_
  rintro e w2 ⟨rfl, hb⟩
  have HB2 := Lib.hid (bTrans HB1.out hb)
  have KL2 := Lib.hid (KL1.out.below' hb)
  have KP2 := Lib.hid (KP1.out.below' hb)
  clear hb z c0 c1
  go_wp2_with fail
  refine (in5 _ _ _ _).mono ?_
  rw [decide_eq_true (show 0 ≤ lv ∧ lv ≤ (N : Int) by omega)]
  rintro e w2 ⟨rfl, rfl⟩
  go_wp2_with fail
  refine (spec_l1Size_yes _ _ _ HS.out).mono ?_
  rintro e w2 ⟨rfl, rfl⟩
  obtain ⟨z, c0, c1⟩ := KL2.out.c2
  go_wp2_with fail
  refine (spec_SpotRanks_yes HL.out _).mono ?_
  rintro e w3 ⟨a3, c3, rfl, ho, hb⟩
  obtain ⟨rb, hrb, rfl, ho2⟩ : ∃ rb, w2.heap.size ≤ rb ∧ a3 = some ⟨rb, 0, none⟩ ∧ Own w3 rb N c3 (gen N (fun i => (placeC (nearK2 A B d) (i : Int) N : Int))) := by
    rcases ho with ⟨_, h0, _⟩ | ⟨rb, h1, h2, h3⟩
    · omega
    · exact ⟨rb, h2, h1, h3⟩
  have HB3 := Lib.hid (bTrans HB2.out hb)
  have KL3 := Lib.hid (KL2.out.below' hb)
  have KP3 := Lib.hid (KP2.out.below' hb)
  have HR3 := Lib.hid ho2
  have o0 : w.heap.size + 1 < rb := Nat.lt_of_lt_of_le KP2.out.lt hrb
  have o00 : rb < w3.heap.size := ho2.lt
  clear hb ho ho2 hrb z c0 c1
  go_wp2_with fail
  refine (spec_l1Empty W H n _ HS.out HQ.out).mono ?_
  rintro e w4 ⟨gp, rfl, hgp, ho, hb⟩
  have HB4 := Lib.hid (bAlloc (bTrans HB3.out hb) (.cells #[.int .i64 W, .int .i64 H, .slice (some ⟨gp, 0, none⟩) n n] 41))
  have KL4 := Lib.hid ((KL3.out.below' hb).alloc (.cells #[.int .i64 W, .int .i64 H, .slice (some ⟨gp, 0, none⟩) n n] 41))
  have KP4 := Lib.hid ((KP3.out.below' hb).alloc (.cells #[.int .i64 W, .int .i64 H, .slice (some ⟨gp, 0, none⟩) n n] 41))
  have HR4 := Lib.hid ((HR3.out.below hb HR3.out.lt).alloc (.cells #[.int .i64 W, .int .i64 H, .slice (some ⟨gp, 0, none⟩) n n] 41))
  have KD4 := Lib.hid (Blk.new w4 41 #[.int .i64 W, .int .i64 H, .slice (some ⟨gp, 0, none⟩) n n])
  have HO4 : Hid (Own (w4.alloc (.cells #[.int .i64 W, .int .i64 H, .slice (some ⟨gp, 0, none⟩) n n] 41)) gp n n (gen n (upDot (plateG A B d N nm lv) 0))) := Lib.hid (by rw [upDot_zero]; exact (zero_row ho).alloc (.cells #[.int .i64 W, .int .i64 H, .slice (some ⟨gp, 0, none⟩) n n] 41))
  have o1 : rb < gp := Nat.lt_of_lt_of_le o00 hgp
  have o2 : gp < w4.heap.size := ho.lt
  clear hb ho hgp
  obtain ⟨z0, z1, z2, z3⟩ := KD4.out.c3
  go_wp2_with fail
  clear z0 z1 z2 z3
  go_loopw [38] (fun i wr => ∃ k : Nat, k ≤ n ∧ i = .int .i64 k ∧ Hid (Own wr gp n n (gen n (upDot (plateG A B d N nm lv) k))) ∧ Hid (Own wr rb N c3 (gen N (fun i => (placeC (nearK2 A B d) (i : Int) N : Int)))) ∧ Hid (Blk wr w.heap.size 25 #[.int .i64 A, .int .i64 B]) ∧ Hid (Blk wr (w.heap.size + 1) 41 #[.int .i64 0, .int .i64 0, .slice none 0 0]) ∧ Hid (Blk wr w4.heap.size 41 #[.int .i64 W, .int .i64 H, .slice (some ⟨gp, 0, none⟩) n n]) ∧ Hid (Below w.heap.size w wr)) (fun i _ => n - (intOf i).toNat)
  case atStart => exact ⟨0, Nat.zero_le _, rfl, HO4, HR4, KL4, KP4, KD4, HB4⟩
  case round =>
    clear HO4 HR4 KL4 KP4 KD4 HB4 HB3 KL3 KP3 HR3 HB2 KL2 KP2 HB1 KL1 KP1
    obtain ⟨k, hk, rfl, HO, HR, KL, KP, KD, HB⟩ := hrel
    by_cases hlt : k < n
    · obtain ⟨l0, c0, c1⟩ := KL.out.c2
      obtain ⟨u1, u2, v1, v2, t1, t2⟩ := cell_bd (W := W) b1 nb1 hlt
      have HNK := Lib.hid (HNM.out k hlt)
      obtain ⟨U, hU⟩ : ∃ U, (k : Int) % W = U := ⟨_, rfl⟩
      obtain ⟨V, hV⟩ : ∃ V, (k : Int) / W = V := ⟨_, rfl⟩
      rw [hU] at u1 u2 t1 HNK
      rw [hV] at v1 v2 t2 HNK
      obtain ⟨t, ht⟩ : ∃ t, nm k = t := ⟨_, rfl⟩
      rw [ht] at HNK
      have tN : t < N := by have := (HL.out.isName.1 HNK.out).2.1; omega
      have tN2 : (t : Int) < (N : Int) := by omega
      obtain ⟨R, hR⟩ : ∃ R, overF A B d N nm k = R := ⟨_, rfl⟩
      have cr := own_c HR.out tN
      have cr2 : ((placeC (nearK2 A B d) (t : Int) N : Nat) : Int) = R := by rw [← hR, ← ht]; rfl
      rw [cr2] at cr
      have g2 := own_c HO.out hlt
      have g3 := HO.out.frozen k
      have kn : (k : Int) < (n : Int) := by omega
      have t3 : IntKind.i64.wrap U = U := IntWalk.i64_in _ (by omega)
      have t4 : IntKind.i64.wrap V = V := IntWalk.i64_in _ (by omega)
      have z1 : ¬ W = 0 := by omega
      have z2 : (W == 0) = false := by simp; omega
      have HRR := Lib.hid hR
      clear hU hV ht hR cr2
      by_cases hlv : R < lv
      · have HP : Hid (plateG A B d N nm lv k = 1) := Lib.hid (by unfold plateG; rw [HRR.out, if_pos hlv])
        have HOn : Hid (∀ u : World, Below wr.heap.size wr u → Own (u.setCell ⟨gp, k, none⟩ (.int .i64 1)) gp n n (gen n (upDot (plateG A B d N nm lv) (k + 1)))) := Lib.hid (fun u hu => by
          have h := put_row (HO.out.below hu HO.out.lt) hlt (1 : Int)
          rw [← HP.out, upDot_put] at h
          rw [← HP.out]; exact h)
        go_upto_region 8 with fail
        have MK : Hid (∀ v, BelowL wr v → v.cell? ⟨w.heap.size, 0, none⟩ = some (.int .i64 A) ∧ v.cell? ⟨w.heap.size, 1, none⟩ = some (.int .i64 B) ∧ v.cell? ⟨rb, t, none⟩ = some (.int .i64 R) ∧ BelowL wr v) := Lib.hid (fun v h => ⟨(h.out.cell l0).trans c0, (h.out.cell l0).trans c1, (h.out.cell HR.out.lt).trans cr, h⟩)
        refine wp_region_T 12 (fun v => v.cell? ⟨w.heap.size, 0, none⟩ = some (.int .i64 A) ∧ v.cell? ⟨w.heap.size, 1, none⟩ = some (.int .i64 B) ∧ v.cell? ⟨rb, t, none⟩ = some (.int .i64 R) ∧ BelowL wr v) (by kernel_rfl) (MK.out _ (BelowL.start _)) ?_
        intro hHeld
        have hb0 := limb4 hHeld
        (refine' wpAnyT_take (i := 0) (v := ?_) rfl (by kernel_rfl) (by kernel_rfl) (by kernel_rfl) (by kernel_rfl) (fun _ _ _ h => h) (Or.inl ⟨by rfl, ?_⟩) (by assumption) ?_; rotate_left; (· (intro w hSw; (try dsimp only at hSw); go_simp; try with_reducible rfl)); (try simp only [Act.put, List.setIfInBounds_toArray, List.set_cons_zero, List.set_cons_succ]))
        (refine' wpAnyT_take (i := 1) (v := ?_) rfl (by kernel_rfl) (by kernel_rfl) (by kernel_rfl) (by kernel_rfl) (fun _ _ _ h => h) (Or.inl ⟨by rfl, ?_⟩) (by assumption) ?_; rotate_left; (· (intro w hSw; (try dsimp only at hSw); go_simp; try with_reducible rfl)); (try simp only [Act.put, List.setIfInBounds_toArray, List.set_cons_zero, List.set_cons_succ]))
        (refine' wpAnyT_take (i := 2) (v := ?_) rfl (by kernel_rfl) (by kernel_rfl) (by kernel_rfl) (by kernel_rfl) (fun _ _ _ h => h) (Or.inl ⟨by rfl, ?_⟩) (by assumption) ?_; rotate_left; (· (intro w hSw; (try dsimp only at hSw); go_simp; try with_reducible rfl)); (try simp only [Act.put, List.setIfInBounds_toArray, List.set_cons_zero, List.set_cons_succ]))
        (refine' wpAnyT_take (i := 3) (v := ?_) rfl (by kernel_rfl) (by kernel_rfl) (by kernel_rfl) (by kernel_rfl) (fun _ _ _ h => h) (Or.inl ⟨by rfl, ?_⟩) (by assumption) ?_; rotate_left; (· (intro w hSw; (try dsimp only at hSw); go_simp; try with_reducible rfl)); (try simp only [Act.put, List.setIfInBounds_toArray, List.set_cons_zero, List.set_cons_succ]))
        (refine' wpAnyT_take (i := 4) (v := ?_) rfl (by kernel_rfl) (by kernel_rfl) (by kernel_rfl) (by kernel_rfl) (fun _ _ _ h => h) (Or.inl ⟨by rfl, ?_⟩) (by assumption) ?_; rotate_left; (· (intro w hSw; (try dsimp only at hSw); go_simp; try with_reducible rfl)); (try simp only [Act.put, List.setIfInBounds_toArray, List.set_cons_zero, List.set_cons_succ]))
        (refine' wpAnyT_take (i := 5) (v := ?_) rfl (by kernel_rfl) (by kernel_rfl) (by kernel_rfl) (by kernel_rfl) (fun _ _ _ h => h) (Or.inl ⟨by rfl, ?_⟩) (by assumption) ?_; rotate_left; (· (intro w hSw; (try dsimp only at hSw); go_simp; try with_reducible rfl)); (try simp only [Act.put, List.setIfInBounds_toArray, List.set_cons_zero, List.set_cons_succ]))
        (refine' wpAnyT_take (i := 6) (v := ?_) rfl (by kernel_rfl) (by kernel_rfl) (by kernel_rfl) (by kernel_rfl) (fun _ _ _ h => h) (Or.inl ⟨by rfl, ?_⟩) (by assumption) ?_; rotate_left; (· (intro w hSw; (try dsimp only at hSw); go_simp; try with_reducible rfl)); (try simp only [Act.put, List.setIfInBounds_toArray, List.set_cons_zero, List.set_cons_succ]))
        (refine' wpAnyT_take (i := 7) (v := ?_) rfl (by kernel_rfl) (by kernel_rfl) (by kernel_rfl) (by kernel_rfl) (fun _ _ _ h => h) (Or.inl ⟨by rfl, ?_⟩) (by assumption) ?_; rotate_left; (· (intro w hSw; (try dsimp only at hSw); go_simp; try with_reducible rfl)); (try simp only [Act.put, List.setIfInBounds_toArray, List.set_cons_zero, List.set_cons_succ]))
        (refine' wpAnyT_take (i := 11) (v := ?_) rfl (by kernel_rfl) (by kernel_rfl) (by kernel_rfl) (by kernel_rfl) (fun _ _ _ h => h) (Or.inl ⟨by rfl, ?_⟩) (by assumption) ?_; rotate_left; (· (intro w hSw; (try dsimp only at hSw); go_simp; try with_reducible rfl)); (try simp only [Act.put, List.setIfInBounds_toArray, List.set_cons_zero, List.set_cons_succ]))
        refine wpAnyT_one (i := 8) (by kernel_rfl) rfl (fun K hK => ?_)
        go_simp
        go_at_call 54
        ((with_reducible refine (spec_l5Name HL.out U V _ HNK.out (by omega) (by omega) (by omega) (by omega) _).mono ?_); rintro e v1 ⟨rfl, hq1⟩)
        have hb1 := BelowL.call hb0 hq1
        go_wp2_with fail
        refine hK.out _ _ (fun _ => by (try dsimp only); exact MK.out _ hb1) (fun hH2 => ?_)
        clear hK K hHeld
        have hHeld := hH2 (by decide)
        (refine' wpAnyT_take (i := 9) (v := ?_) rfl (by kernel_rfl) (by kernel_rfl) (by kernel_rfl) (by kernel_rfl) (fun _ _ _ h => h) (Or.inl ⟨by rfl, ?_⟩) (by assumption) ?_; rotate_left; (· (intro w hSw; (try dsimp only at hSw); go_simp; try with_reducible rfl)); (try simp only [Act.put, List.setIfInBounds_toArray, List.set_cons_zero, List.set_cons_succ]))
        (refine' wpAnyT_take (i := 10) (v := ?_) rfl (by kernel_rfl) (by kernel_rfl) (by kernel_rfl) (by kernel_rfl) (fun _ _ _ h => h) (Or.inl ⟨by rfl, ?_⟩) (by assumption) ?_; rotate_left; (· (intro w hSw; (try dsimp only at hSw); go_simp; try with_reducible rfl)); (try simp only [Act.put, List.setIfInBounds_toArray, List.set_cons_zero, List.set_cons_succ]))
        have KLv := Lib.hid (KL.out.below hb1.out KL.out.lt)
        have KPv := Lib.hid (KP.out.below hb1.out KP.out.lt)
        have KDv := Lib.hid (KD.out.below hb1.out KD.out.lt)
        have HRv := Lib.hid (HR.out.below hb1.out HR.out.lt)
        have HBv := Lib.hid (bTrans HB.out hb1.out)
        have HOv := Lib.hid (HOn.out _ hb1.out)
        have g2 := (hb1.out.cell (p := ⟨gp, k, none⟩) HO.out.lt).trans g2
        have g3 := (hb1.out.frozen (p := ⟨gp, k, none⟩) HO.out.lt).trans g3
        obtain ⟨dz, d0, d1, d2⟩ := KDv.out.c3
        refine wpAnyT_one (i := 12) (by kernel_rfl) rfl (fun K hK => ?_)
        go_simp
        refine hK.out _ _ (fun h => absurd h (by decide)) (fun hH2 => ?_)
        clear hK K hH2
        refine wpAnyT_done (by kernel_rfl) ?_ _
        (try go_simp)
        go_wp2_with fail
        go_roundw
        case rel => exact ⟨k + 1, by omega, by go_num, HOv, Lib.hid (HRv.out.other (by simp; omega) _), Lib.hid (KLv.out.other (by simp; omega) _), Lib.hid (KPv.out.other (by simp; omega) _), Lib.hid (KDv.out.other (by simp; omega) _), Lib.hid (HBv.out.setCell (by simp; omega) _)⟩
        case measure => simp [intOf]; omega
      · have HP : Hid (plateG A B d N nm lv k = 0) := Lib.hid (by unfold plateG; rw [HRR.out, if_neg hlv])
        have HOn : Hid (Own wr gp n n (gen n (upDot (plateG A B d N nm lv) (k + 1)))) := Lib.hid (by rw [← upDot_skip HP.out]; exact HO.out)
        go_upto_region 8 with fail
        have MK : Hid (∀ v, BelowL wr v → v.cell? ⟨w.heap.size, 0, none⟩ = some (.int .i64 A) ∧ v.cell? ⟨w.heap.size, 1, none⟩ = some (.int .i64 B) ∧ v.cell? ⟨rb, t, none⟩ = some (.int .i64 R) ∧ BelowL wr v) := Lib.hid (fun v h => ⟨(h.out.cell l0).trans c0, (h.out.cell l0).trans c1, (h.out.cell HR.out.lt).trans cr, h⟩)
        refine wp_region_T 12 (fun v => v.cell? ⟨w.heap.size, 0, none⟩ = some (.int .i64 A) ∧ v.cell? ⟨w.heap.size, 1, none⟩ = some (.int .i64 B) ∧ v.cell? ⟨rb, t, none⟩ = some (.int .i64 R) ∧ BelowL wr v) (by kernel_rfl) (MK.out _ (BelowL.start _)) ?_
        intro hHeld
        have hb0 := limb4 hHeld
        (refine' wpAnyT_take (i := 0) (v := ?_) rfl (by kernel_rfl) (by kernel_rfl) (by kernel_rfl) (by kernel_rfl) (fun _ _ _ h => h) (Or.inl ⟨by rfl, ?_⟩) (by assumption) ?_; rotate_left; (· (intro w hSw; (try dsimp only at hSw); go_simp; try with_reducible rfl)); (try simp only [Act.put, List.setIfInBounds_toArray, List.set_cons_zero, List.set_cons_succ]))
        (refine' wpAnyT_take (i := 1) (v := ?_) rfl (by kernel_rfl) (by kernel_rfl) (by kernel_rfl) (by kernel_rfl) (fun _ _ _ h => h) (Or.inl ⟨by rfl, ?_⟩) (by assumption) ?_; rotate_left; (· (intro w hSw; (try dsimp only at hSw); go_simp; try with_reducible rfl)); (try simp only [Act.put, List.setIfInBounds_toArray, List.set_cons_zero, List.set_cons_succ]))
        (refine' wpAnyT_take (i := 2) (v := ?_) rfl (by kernel_rfl) (by kernel_rfl) (by kernel_rfl) (by kernel_rfl) (fun _ _ _ h => h) (Or.inl ⟨by rfl, ?_⟩) (by assumption) ?_; rotate_left; (· (intro w hSw; (try dsimp only at hSw); go_simp; try with_reducible rfl)); (try simp only [Act.put, List.setIfInBounds_toArray, List.set_cons_zero, List.set_cons_succ]))
        (refine' wpAnyT_take (i := 3) (v := ?_) rfl (by kernel_rfl) (by kernel_rfl) (by kernel_rfl) (by kernel_rfl) (fun _ _ _ h => h) (Or.inl ⟨by rfl, ?_⟩) (by assumption) ?_; rotate_left; (· (intro w hSw; (try dsimp only at hSw); go_simp; try with_reducible rfl)); (try simp only [Act.put, List.setIfInBounds_toArray, List.set_cons_zero, List.set_cons_succ]))
        (refine' wpAnyT_take (i := 4) (v := ?_) rfl (by kernel_rfl) (by kernel_rfl) (by kernel_rfl) (by kernel_rfl) (fun _ _ _ h => h) (Or.inl ⟨by rfl, ?_⟩) (by assumption) ?_; rotate_left; (· (intro w hSw; (try dsimp only at hSw); go_simp; try with_reducible rfl)); (try simp only [Act.put, List.setIfInBounds_toArray, List.set_cons_zero, List.set_cons_succ]))
        (refine' wpAnyT_take (i := 5) (v := ?_) rfl (by kernel_rfl) (by kernel_rfl) (by kernel_rfl) (by kernel_rfl) (fun _ _ _ h => h) (Or.inl ⟨by rfl, ?_⟩) (by assumption) ?_; rotate_left; (· (intro w hSw; (try dsimp only at hSw); go_simp; try with_reducible rfl)); (try simp only [Act.put, List.setIfInBounds_toArray, List.set_cons_zero, List.set_cons_succ]))
        (refine' wpAnyT_take (i := 6) (v := ?_) rfl (by kernel_rfl) (by kernel_rfl) (by kernel_rfl) (by kernel_rfl) (fun _ _ _ h => h) (Or.inl ⟨by rfl, ?_⟩) (by assumption) ?_; rotate_left; (· (intro w hSw; (try dsimp only at hSw); go_simp; try with_reducible rfl)); (try simp only [Act.put, List.setIfInBounds_toArray, List.set_cons_zero, List.set_cons_succ]))
        (refine' wpAnyT_take (i := 7) (v := ?_) rfl (by kernel_rfl) (by kernel_rfl) (by kernel_rfl) (by kernel_rfl) (fun _ _ _ h => h) (Or.inl ⟨by rfl, ?_⟩) (by assumption) ?_; rotate_left; (· (intro w hSw; (try dsimp only at hSw); go_simp; try with_reducible rfl)); (try simp only [Act.put, List.setIfInBounds_toArray, List.set_cons_zero, List.set_cons_succ]))
        (refine' wpAnyT_take (i := 11) (v := ?_) rfl (by kernel_rfl) (by kernel_rfl) (by kernel_rfl) (by kernel_rfl) (fun _ _ _ h => h) (Or.inl ⟨by rfl, ?_⟩) (by assumption) ?_; rotate_left; (· (intro w hSw; (try dsimp only at hSw); go_simp; try with_reducible rfl)); (try simp only [Act.put, List.setIfInBounds_toArray, List.set_cons_zero, List.set_cons_succ]))
        refine wpAnyT_one (i := 8) (by kernel_rfl) rfl (fun K hK => ?_)
        go_simp
        go_at_call 54
        ((with_reducible refine (spec_l5Name HL.out U V _ HNK.out (by omega) (by omega) (by omega) (by omega) _).mono ?_); rintro e v1 ⟨rfl, hq1⟩)
        have hb1 := BelowL.call hb0 hq1
        go_wp2_with fail
        refine hK.out _ _ (fun _ => by (try dsimp only); exact MK.out _ hb1) (fun hH2 => ?_)
        clear hK K hHeld
        have hHeld := hH2 (by decide)
        (refine' wpAnyT_take (i := 9) (v := ?_) rfl (by kernel_rfl) (by kernel_rfl) (by kernel_rfl) (by kernel_rfl) (fun _ _ _ h => h) (Or.inl ⟨by rfl, ?_⟩) (by assumption) ?_; rotate_left; (· (intro w hSw; (try dsimp only at hSw); go_simp; try with_reducible rfl)); (try simp only [Act.put, List.setIfInBounds_toArray, List.set_cons_zero, List.set_cons_succ]))
        (refine' wpAnyT_take (i := 10) (v := ?_) rfl (by kernel_rfl) (by kernel_rfl) (by kernel_rfl) (by kernel_rfl) (fun _ _ _ h => h) (Or.inl ⟨by rfl, ?_⟩) (by assumption) ?_; rotate_left; (· (intro w hSw; (try dsimp only at hSw); go_simp; try with_reducible rfl)); (try simp only [Act.put, List.setIfInBounds_toArray, List.set_cons_zero, List.set_cons_succ]))
        have KLv := Lib.hid (KL.out.below hb1.out KL.out.lt)
        have KPv := Lib.hid (KP.out.below hb1.out KP.out.lt)
        have KDv := Lib.hid (KD.out.below hb1.out KD.out.lt)
        have HRv := Lib.hid (HR.out.below hb1.out HR.out.lt)
        have HBv := Lib.hid (bTrans HB.out hb1.out)
        have HOv := Lib.hid (HOn.out.below hb1.out HOn.out.lt)
        refine wpAnyT_one (i := 12) (by kernel_rfl) rfl (fun K hK => ?_)
        go_simp
        refine hK.out _ _ (fun h => absurd h (by decide)) (fun hH2 => ?_)
        clear hK K hH2
        refine wpAnyT_done (by kernel_rfl) ?_ _
        (try go_simp)
        go_wp2_with fail
        go_roundw
        case rel => exact ⟨k + 1, by omega, by go_num, HOv, HRv, KLv, KPv, KDv, HBv⟩
        case measure => simp [intOf]; omega
    · obtain rfl : k = n := by omega
      have HE : Hid (Own wr gp k k (gen k (plateG A B d N nm lv))) := Lib.hid (by rw [← upDot_all]; exact HO.out)
      obtain ⟨dz, d0, d1, d2⟩ := KD.out.c3
      obtain ⟨r0, r1, r2, r3⟩ := KP.out.c3
      obtain ⟨q0, q1, q2⟩ := KP.out.f3
      go_wp2_with fail
      exact bodyPost_ret (v := .tuple #[.agg #[.int .i64 W, .int .i64 H, .slice (some ⟨gp, 0, none⟩) k k], .bool true]) (by simp [results, Try.results35, go_sem, r1, r2, r3]) rfl
        ⟨_, _, _, rfl, OwnA.mk (((HE.out.other (by simp; omega) _).other (by simp; omega) _).other (by simp; omega) _) (by omega), by omega,
          ((HB.out.setCell (by first | (simp; done) | (simp; omega)) _).setCell (by first | (simp; done) | (simp; omega)) _).setCell (by first | (simp; done) | (simp; omega)) _⟩

end Go.Proofs.Ytdpmapgeacnheaa
