/-
  Contracts of chapter 6: the ranks over a rectangle.
-/
import Derived.Test.YtflegojobchgdaaN15
import Derived.Test.YtflegojobchgdaaN10
namespace Go.Proofs.Ytflegojobchgdaa
open Go.RowKit
set_option linter.unusedVariables false
set_option linter.unusedSimpArgs false

/-- nm tells the names of the cells of a rectangle of width W. -/
def Named (A B W : Int) (n : Nat) (nm : Nat → Nat) : Prop := ∀ i, i < n → IsName A B ((i : Int) % W) ((i : Int) / W) (nm i : Int)

theorem named_ex {A B n g d a b p q : Int} (L : Lat A B n g d a b p q) (W : Int) (m : Nat) : ∃ nm, Named A B W m nm := by
  have h : ∀ i : Nat, ∃ K : Nat, IsName A B ((i : Int) % W) ((i : Int) / W) (K : Int) := fun i => by
    obtain ⟨K, hK⟩ := L.name_ex ((i : Int) % W) ((i : Int) / W)
    have h0 := (L.isName.1 hK).1
    exact ⟨K.toNat, by rw [show ((K.toNat : Nat) : Int) = K by omega]; exact hK⟩
  exact ⟨fun i => Classical.choose (h i), fun i _ => Classical.choose_spec (h i)⟩

theorem cell_bd {W : Int} {n i : Nat} (hW : 1 ≤ W) (hn : n ≤ 1024) (hi : i < n) : 0 ≤ (i : Int) % W ∧ (i : Int) % W ≤ 1024 ∧ 0 ≤ (i : Int) / W ∧ (i : Int) / W ≤ 1024 ∧ (i : Int).tmod W = (i : Int) % W ∧ (i : Int).tdiv W = (i : Int) / W := by
  have h1 := Int.emod_nonneg (i : Int) (show W ≠ 0 by omega)
  have h2 : (i : Int) % W ≤ i := Int.emod_le_self
  have h3 := Int.ediv_le_self W (show 0 ≤ (i : Int) by omega)
  exact ⟨h1, by omega, Int.ediv_nonneg (by omega) (by omega), by omega, Int.tmod_eq_emod_of_nonneg (by omega), Int.tdiv_eq_ediv_of_nonneg (by omega)⟩
where
  Int.emod_le_self {i : Nat} {W : Int} : (i : Int) % W ≤ i := by
    by_cases h : W = 0
    · subst h; simp
    · have := Int.mul_ediv_add_emod (i : Int) W
      rcases Int.lt_or_gt_of_ne h with c | c
      · have e : (i : Int) % W = (i : Int) % (-W) := by rw [Int.emod_neg]
        rw [e]
        have h4 := Int.mul_ediv_add_emod (i : Int) (-W)
        have h5 : 0 ≤ (i : Int) / (-W) := Int.ediv_nonneg (by omega) (by omega)
        have h6 : 0 ≤ (-W) * ((i : Int) / (-W)) := Int.mul_nonneg (by omega) h5
        omega
      · have h5 : 0 ≤ (i : Int) / W := Int.ediv_nonneg (by omega) (by omega)
        have h6 : 0 ≤ W * ((i : Int) / W) := Int.mul_nonneg (by omega) h5
        omega

/-- The SpotRank of the cell i. -/
def overF (A B d : Int) (N : Nat) (nm : Nat → Nat) (i : Nat) : Int := (placeC (nearK A B d) (nm i : Int) N : Int)

set_option maxRecDepth 100000 in
set_option maxHeartbeats 1600000 in
theorem impl_over {A B d : Int} {N : Nat} {g a b p q : Int} (L : Lat A B (N : Int) g d a b p q) (W H : Int) (n : Nat) (nm : Nat → Nat) (hnm : Named A B W n nm) (w1 : 1 ≤ W) (w2 : W ≤ 1024) (h1 : 1 ≤ H) (h2 : H ≤ 1024) (hq : (n : Int) = W * H) (hn : n ≤ 1024) (w : World) :
    Calls Try.prog 41 #[.agg #[.int .i64 A, .int .i64 B], .int .i64 W, .int .i64 H] w fun e w' => ∃ nb : Nat, e = .returned (.slice (some ⟨nb, 0, none⟩) n n) ∧ w.heap.size ≤ nb ∧ Own w' nb n n (gen n (overF A B d N nm)) ∧ Below w.heap.size w w' := by
  have n1 := L.n1; have n2 := L.n2
  have N1 : 0 < N := by omega
  have N2 : N ≤ 288 := by omega
  have HL := Lib.hid L
  have HQ := Lib.hid hq
  have HNM : Aside _ := hnm
  have hp0 : 0 ≤ W * H := by omega
  have hp1 : W * H ≤ 1024 := by omega
  clear L hq hnm
  go_enter Try.func41, Try.ntmps41
  go_wp2_with fail
  refine (impl_SpotRanks_yes HL.out _).mono ?_
  rintro e w2' ⟨rb, rfl, hrb, ho, hb⟩
  have HB2 := Lib.hid (bTrans (Joins.below_alloc1 _ _) hb)
  have KB2 := Lib.hid ((Blk.new w 24 #[.int .i64 A, .int .i64 B]).below' hb)
  have HR2 := Lib.hid ho
  clear hrb ho hb
  go_wp2_with (at_make; refine wp_make _ rfl _ _ rfl .i64 .i64 (W * H) (W * H) n rfl rfl HQ.out.symm HQ.out.symm (by omega) ?_; intro M hM)
  have HM := Lib.hid (hM.own w2')
  have HB3 := Lib.hid (bAlloc HB2.out (.cells M 3))
  have KB3 := Lib.hid (KB2.out.alloc (.cells M 3))
  have HR3 := Lib.hid (HR2.out.alloc (.cells M 3))
  have zr : rb < w2'.heap.size := HR2.out.lt
  have zl : w.heap.size < w2'.heap.size := KB2.out.lt
  clear hM
  go_wp2_with fail
  go_loopw [18] (fun i wr => ∃ k : Nat, k ≤ n ∧ i = .int .i64 k ∧ Hid (Own wr w2'.heap.size n n (filled (gen n (overF A B d N nm)) (List.replicate n 0) k)) ∧ Hid (Blk wr w.heap.size 24 #[.int .i64 A, .int .i64 B]) ∧ Hid (Own wr rb N N (ranksL (nearK A B d) N)) ∧ Hid (Below w.heap.size w wr)) (fun i _ => n - (intOf i).toNat)
  case atStart => exact ⟨0, Nat.zero_le _, rfl, Lib.hid (by rw [filled_zero]; exact HM.out), KB3, HR3, HB3⟩
  case round =>
    clear HM KB3 HR3 HB3
    obtain ⟨k, hk, rfl, HO, KB, HR, HB⟩ := hrel
    by_cases hlt : k < n
    · obtain ⟨l0, c0, c1⟩ := KB.out.c2
      obtain ⟨u1, u2, v1, v2, t1, t2⟩ := cell_bd (W := W) w1 hn hlt
      have HNK := Lib.hid (HNM.out k hlt)
      obtain ⟨U, hU⟩ : ∃ U, (k : Int) % W = U := ⟨_, rfl⟩
      obtain ⟨V, hV⟩ : ∃ V, (k : Int) / W = V := ⟨_, rfl⟩
      rw [hU] at u1 u2 t1 HNK
      rw [hV] at v1 v2 t2 HNK
      obtain ⟨t, ht⟩ : ∃ t, nm k = t := ⟨_, rfl⟩
      rw [ht] at HNK
      have tN : t < N := by have := (HL.out.isName.1 HNK.out).2.1; omega
      have tN2 : (t : Int) < (N : Int) := by omega
      obtain ⟨R, hR⟩ : ∃ R, overF A B d N nm k = R := ⟨_, rfl⟩
      have cr := own_c HR.out tN
      have cr2 : ((placeC (nearK A B d) (t : Int) N : Nat) : Int) = R := by rw [← hR, ← ht]; rfl
      rw [cr2] at cr
      have g2 := HO.out.cell hlt
      have g3 := HO.out.frozen k
      have kn : (k : Int) < (n : Int) := by omega
      have t3 : IntKind.i64.wrap U = U := IntWalk.i64_in _ (by omega)
      have t4 : IntKind.i64.wrap V = V := IntWalk.i64_in _ (by omega)
      have z1 : ¬ W = 0 := by omega
      have z2 : (W == 0) = false := by simp; omega
      have HRR := Lib.hid hR
      clear hU hV ht hR cr2
      go_upto_region 6 with fail
      have MK : Hid (∀ v, BelowL wr v → v.cell? ⟨w.heap.size, 0, none⟩ = some (.int .i64 A) ∧ v.cell? ⟨w.heap.size, 1, none⟩ = some (.int .i64 B) ∧ v.cell? ⟨rb, t, none⟩ = some (.int .i64 R) ∧ BelowL wr v) := Lib.hid (fun v h => ⟨(h.out.cell l0).trans c0, (h.out.cell l0).trans c1, (h.out.cell HR.out.lt).trans cr, h⟩)
      refine wp_region_T 14 (fun v => v.cell? ⟨w.heap.size, 0, none⟩ = some (.int .i64 A) ∧ v.cell? ⟨w.heap.size, 1, none⟩ = some (.int .i64 B) ∧ v.cell? ⟨rb, t, none⟩ = some (.int .i64 R) ∧ BelowL wr v) (by kernel_rfl) (MK.out _ (BelowL.start _)) ?_
      intro hHeld
      have hb0 := limb4 hHeld
      (refine' wpAnyT_take (i := 0) (v := ?_) rfl (by kernel_rfl) (by kernel_rfl) (by kernel_rfl) (by kernel_rfl) (fun _ _ _ h => h) (Or.inl ⟨by rfl, ?_⟩) (by assumption) ?_; rotate_left; (· (intro w hSw; (try dsimp only at hSw); go_simp; try with_reducible rfl)); (try simp only [Act.put, List.setIfInBounds_toArray, List.set_cons_zero, List.set_cons_succ]))
      (refine' wpAnyT_take (i := 1) (v := ?_) rfl (by kernel_rfl) (by kernel_rfl) (by kernel_rfl) (by kernel_rfl) (fun _ _ _ h => h) (Or.inl ⟨by rfl, ?_⟩) (by assumption) ?_; rotate_left; (· (intro w hSw; (try dsimp only at hSw); go_simp; try with_reducible rfl)); (try simp only [Act.put, List.setIfInBounds_toArray, List.set_cons_zero, List.set_cons_succ]))
      (refine' wpAnyT_take (i := 2) (v := ?_) rfl (by kernel_rfl) (by kernel_rfl) (by kernel_rfl) (by kernel_rfl) (fun _ _ _ h => h) (Or.inl ⟨by rfl, ?_⟩) (by assumption) ?_; rotate_left; (· (intro w hSw; (try dsimp only at hSw); go_simp; try with_reducible rfl)); (try simp only [Act.put, List.setIfInBounds_toArray, List.set_cons_zero, List.set_cons_succ]))
      (refine' wpAnyT_take (i := 3) (v := ?_) rfl (by kernel_rfl) (by kernel_rfl) (by kernel_rfl) (by kernel_rfl) (fun _ _ _ h => h) (Or.inl ⟨by rfl, ?_⟩) (by assumption) ?_; rotate_left; (· (intro w hSw; (try dsimp only at hSw); go_simp; try with_reducible rfl)); (try simp only [Act.put, List.setIfInBounds_toArray, List.set_cons_zero, List.set_cons_succ]))
      (refine' wpAnyT_take (i := 4) (v := ?_) rfl (by kernel_rfl) (by kernel_rfl) (by kernel_rfl) (by kernel_rfl) (fun _ _ _ h => h) (Or.inl ⟨by rfl, ?_⟩) (by assumption) ?_; rotate_left; (· (intro w hSw; (try dsimp only at hSw); go_simp; try with_reducible rfl)); (try simp only [Act.put, List.setIfInBounds_toArray, List.set_cons_zero, List.set_cons_succ]))
      (refine' wpAnyT_take (i := 5) (v := ?_) rfl (by kernel_rfl) (by kernel_rfl) (by kernel_rfl) (by kernel_rfl) (fun _ _ _ h => h) (Or.inl ⟨by rfl, ?_⟩) (by assumption) ?_; rotate_left; (· (intro w hSw; (try dsimp only at hSw); go_simp; try with_reducible rfl)); (try simp only [Act.put, List.setIfInBounds_toArray, List.set_cons_zero, List.set_cons_succ]))
      (refine' wpAnyT_take (i := 6) (v := ?_) rfl (by kernel_rfl) (by kernel_rfl) (by kernel_rfl) (by kernel_rfl) (fun _ _ _ h => h) (Or.inl ⟨by rfl, ?_⟩) (by assumption) ?_; rotate_left; (· (intro w hSw; (try dsimp only at hSw); go_simp; try with_reducible rfl)); (try simp only [Act.put, List.setIfInBounds_toArray, List.set_cons_zero, List.set_cons_succ]))
      (refine' wpAnyT_take (i := 7) (v := ?_) rfl (by kernel_rfl) (by kernel_rfl) (by kernel_rfl) (by kernel_rfl) (fun _ _ _ h => h) (Or.inl ⟨by rfl, ?_⟩) (by assumption) ?_; rotate_left; (· (intro w hSw; (try dsimp only at hSw); go_simp; try with_reducible rfl)); (try simp only [Act.put, List.setIfInBounds_toArray, List.set_cons_zero, List.set_cons_succ]))
      (refine' wpAnyT_take (i := 8) (v := ?_) rfl (by kernel_rfl) (by kernel_rfl) (by kernel_rfl) (by kernel_rfl) (fun _ _ _ h => h) (Or.inl ⟨by rfl, ?_⟩) (by assumption) ?_; rotate_left; (· (intro w hSw; (try dsimp only at hSw); go_simp; try with_reducible rfl)); (try simp only [Act.put, List.setIfInBounds_toArray, List.set_cons_zero, List.set_cons_succ]))
      (refine' wpAnyT_take (i := 9) (v := ?_) rfl (by kernel_rfl) (by kernel_rfl) (by kernel_rfl) (by kernel_rfl) (fun _ _ _ h => h) (Or.inl ⟨by rfl, ?_⟩) (by assumption) ?_; rotate_left; (· (intro w hSw; (try dsimp only at hSw); go_simp; try with_reducible rfl)); (try simp only [Act.put, List.setIfInBounds_toArray, List.set_cons_zero, List.set_cons_succ]))
      refine wpAnyT_one (i := 10) (by kernel_rfl) rfl (fun K hK => ?_)
      go_simp
      go_at_call 11
      ((with_reducible refine (impl_NameOf_yes HL.out U V _ (by omega) (by omega) (by omega) (by omega) HNK.out _).mono ?_); rintro e v1 ⟨rfl, hq1⟩)
      have hb1 := BelowL.call hb0 hq1
      go_wp2_with fail
      refine hK.out _ _ (fun _ => by (try dsimp only); exact MK.out _ hb1) (fun hH2 => ?_)
      clear hK K hHeld
      have hHeld := hH2 (by decide)
      (refine' wpAnyT_take (i := 11) (v := ?_) rfl (by kernel_rfl) (by kernel_rfl) (by kernel_rfl) (by kernel_rfl) (fun _ _ _ h => h) (Or.inl ⟨by rfl, ?_⟩) (by assumption) ?_; rotate_left; (· (intro w hSw; (try dsimp only at hSw); go_simp; try with_reducible rfl)); (try simp only [Act.put, List.setIfInBounds_toArray, List.set_cons_zero, List.set_cons_succ]))
      (refine' wpAnyT_take (i := 12) (v := ?_) rfl (by kernel_rfl) (by kernel_rfl) (by kernel_rfl) (by kernel_rfl) (fun _ _ _ h => h) (Or.inl ⟨by rfl, ?_⟩) (by assumption) ?_; rotate_left; (· (intro w hSw; (try dsimp only at hSw); go_simp; try with_reducible rfl)); (try simp only [Act.put, List.setIfInBounds_toArray, List.set_cons_zero, List.set_cons_succ]))
      (refine' wpAnyT_take (i := 13) (v := ?_) rfl (by kernel_rfl) (by kernel_rfl) (by kernel_rfl) (by kernel_rfl) (fun _ _ _ h => h) (Or.inl ⟨by rfl, ?_⟩) (by assumption) ?_; rotate_left; (· (intro w hSw; (try dsimp only at hSw); go_simp; try with_reducible rfl)); (try simp only [Act.put, List.setIfInBounds_toArray, List.set_cons_zero, List.set_cons_succ]))
      have g2 := (hb1.out.cell (p := ⟨w2'.heap.size, k, none⟩) HO.out.lt).trans g2
      have g3 := (hb1.out.frozen (p := ⟨w2'.heap.size, k, none⟩) HO.out.lt).trans g3
      refine wpAnyT_one (i := 14) (by kernel_rfl) rfl (fun K hK => ?_)
      go_simp
      have HO4 : Hid (Own (v1.setCell ⟨w2'.heap.size, k, none⟩ (.int .i64 R)) w2'.heap.size n n (filled (gen n (overF A B d N nm)) (List.replicate n 0) (k + 1))) := Lib.hid (by
        have h := (HO.out.below hb1.out HO.out.lt).set k R
        rwa [filled_succ (gen n (overF A B d N nm)) _ k _ (by rw [gen_len]; exact hlt) (by simp; omega) (by rw [gen_get _ _ _ hlt]; exact HRR.out)] at h)
      refine hK.out _ _ (fun h => absurd h (by decide)) (fun hH2 => ?_)
      clear hK K hH2
      refine wpAnyT_done (by kernel_rfl) ?_ _
      (try go_simp)
      go_wp2_with fail
      go_roundw
      case rel => exact ⟨k + 1, by omega, by go_num, HO4, Lib.hid ((KB.out.below hb1.out KB.out.lt).other (by simp; omega) _), Lib.hid ((HR.out.below hb1.out HR.out.lt).other (by simp; omega) _), Lib.hid ((bTrans HB.out hb1.out).setCell (by simp; omega) _)⟩
      case measure => simp [intOf]; omega
    · obtain rfl : k = n := by omega
      have HE : Hid (Own wr w2'.heap.size k k (gen k (overF A B d N nm))) := Lib.hid (by have h := HO.out; have e := filled_all (gen k (overF A B d N nm)) (List.replicate k 0) (by simp [gen_len]); rw [gen_len] at e; rwa [e] at h)
      go_wp2_with fail
      go_ret
      exact ⟨_, rfl, by omega, HE.out, HB.out⟩

end Go.Proofs.Ytflegojobchgdaa
