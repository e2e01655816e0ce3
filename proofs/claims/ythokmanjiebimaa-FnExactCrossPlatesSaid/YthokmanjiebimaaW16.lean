/-
  Contracts of chapter 8: MarkAt and MarkCounts (program and model).
-/
import Derived.Test.YthokmanjiebimaaW15
namespace Go.Proofs.Ythokmanjiebimaa
open Go.RowKit
set_option linter.unusedVariables false
set_option linter.unusedSimpArgs false

theorem markAt_no {L : List Pic} {x y : Int} (h : ¬ (stackOk L = true ∧ 0 ≤ x ∧ x < (L.getD 0 noPic).W ∧ 0 ≤ y ∧ y < (L.getD 0 noPic).H)) : markAtF L x y = -1 := by unfold markAtF; rw [if_neg h]

theorem markAt_yes {ps : List PV} {n N : Nat} {W H x y : Int} (T : Stk ps n N W H) (h1 : 0 ≤ x) (h2 : x < W) (h3 : 0 ≤ y) (h4 : y < H) : markAtF (picsV ps) x y = markG (picsV ps) (y * W + x).toNat := by
  unfold markAtF
  rw [T.pic0]
  unfold PV.pic
  simp only [T.W0, T.H0]
  rw [if_pos ⟨T.ok, h1, h2, h3, h4⟩]

theorem place_in {W H x y : Int} {N : Nat} (hq : (N : Int) = W * H) (h1 : 0 ≤ x) (h2 : x < W) (h3 : 0 ≤ y) (h4 : y < H) : 0 ≤ y * W ∧ 0 ≤ y * W + x ∧ y * W + x < N := by
  have e1 : 0 ≤ y * W := Int.mul_nonneg h3 (by omega)
  have e2 : (y + 1) * W ≤ H * W := Int.mul_le_mul_of_nonneg_right (by omega) (by omega)
  rw [Int.add_mul, Int.one_mul, Int.mul_comm H W, ← hq] at e2
  exact ⟨e1, by omega, by omega⟩

theorem marks_get {ps : List PV} {N i : Nat} (hi : i < N) : (marksL ps N).getD i 0 = markG (picsV ps) i := by
  unfold marksL
  rw [gen_get _ _ _ hi]

set_option maxRecDepth 100000 in
set_option maxHeartbeats 3200000 in
theorem spec_MarkAt (ad : Option Addr) (n cap : Nat) (ps : List PV) (x y : Int) (w : World) (hn : ps.length = n) (ha : RdV w ad ps) (hl : n ≤ 1048576) (h4 : ∀ k, k < ps.length → (pv ps k).n ≤ 1048576) :
    Calls Try.prog 20 #[.slice ad n cap, .int .i64 x, .int .i64 y] w fun e w' => e = .returned (.int .i64 (markAtF (picsV ps) x y)) ∧ Below w.heap.size w w' := by
  have HA := Lib.hid ha
  have CS := Lib.hid (spec_IsStack ad n cap ps w hn ha hl h4)
  by_cases hs : stackOk (picsV ps) = true
  case neg =>
    have hs2 : stackOk (picsV ps) = false := by simpa using hs
    rw [markAt_no (fun h => hs h.1)]
    rw [hs2] at CS
    clear hs hs2 hn ha h4
    go_enter Try.func20, Try.ntmps20
    go_wp2_with fail
    refine CS.out.mono ?_
    rintro e w1 ⟨rfl, hb⟩
    have HB1 := Lib.hid hb
    clear hb
    go_wp2_with fail
    go_ret
    exact ⟨rfl, HB1.out⟩
  case pos =>
    obtain ⟨N, W, H, T⟩ := stk_of hn hs
    rw [hs] at CS
    have HT := Lib.hid T
    have hn1 := T.n1
    have hn4 := T.n4
    obtain ⟨b1, b2, b3, b4, b5, b6⟩ := sizeOk_bd T.size
    have HQ := Lib.hid T.area
    have hN2 := T.N2
    have n0 : (0 : Int) < (n : Int) := by omega
    have n00 : 0 < n := by omega
    have EW : Hid (((picsV ps).getD 0 noPic).W = W ∧ ((picsV ps).getD 0 noPic).H = H) := Lib.hid (by rw [T.pic0]; exact ⟨T.W0, T.H0⟩)
    obtain ⟨b, off, hae, hal⟩ := ha.addr (by omega)
    subst hae
    clear b5 b6 hs hn ha h4
    by_cases hx : 0 ≤ x ∧ x < W
    case neg =>
      rw [markAt_no (fun h => hx ⟨h.2.1, by have := h.2.2.1; rw [EW.out.1] at this; exact this⟩)]
      have HX := Lib.hid hx
      clear hx T
      go_enter Try.func20, Try.ntmps20
      go_wp2_with fail
      refine CS.out.mono ?_
      rintro e w1 ⟨rfl, hb⟩
      have HB1 := Lib.hid hb
      have HA1 := Lib.hid (HA.out.below hb)
      clear hb
      obtain ⟨lz, c0, c1, c2⟩ := HA1.out.cells (k := 0) (by have := HT.out.len; omega)
      simp only [Nat.zero_mul, Nat.add_zero] at c0 c1 c2
      rw [HT.out.W0] at c0
      rw [HT.out.H0] at c1
      go_wp2_with fail
      refine (spec_l1In_no x 0 (W - 1) _ (by have := HX.out; omega)).mono ?_
      rintro e w2 ⟨rfl, rfl⟩
      go_wp2_with fail
      go_ret
      exact ⟨rfl, HB1.out⟩
    case pos =>
      by_cases hy : 0 ≤ y ∧ y < H
      case neg =>
        rw [markAt_no (fun h => hy ⟨h.2.2.2.1, by have := h.2.2.2.2; rw [EW.out.2] at this; exact this⟩)]
        have HY := Lib.hid hy
        obtain ⟨x0, x1⟩ := hx
        clear hy T
        go_enter Try.func20, Try.ntmps20
        go_wp2_with fail
        refine CS.out.mono ?_
        rintro e w1 ⟨rfl, hb⟩
        have HB1 := Lib.hid hb
        have HA1 := Lib.hid (HA.out.below hb)
        clear hb
        obtain ⟨lz, c0, c1, c2⟩ := HA1.out.cells (k := 0) (by have := HT.out.len; omega)
        simp only [Nat.zero_mul, Nat.add_zero] at c0 c1 c2
        rw [HT.out.W0] at c0
        rw [HT.out.H0] at c1
        go_wp2_with fail
        refine (spec_l1In_yes x 0 (W - 1) _ x0 (by omega)).mono ?_
        rintro e w2 ⟨rfl, rfl⟩
        go_wp2_with fail
        refine (spec_l1In_no y 0 (H - 1) _ (by have := HY.out; omega)).mono ?_
        rintro e w2 ⟨rfl, rfl⟩
        go_wp2_with fail
        go_ret
        exact ⟨rfl, HB1.out⟩
      case pos =>
        obtain ⟨x0, x1⟩ := hx
        obtain ⟨y0, y1⟩ := hy
        rw [markAt_yes T x0 x1 y0 y1]
        obtain ⟨i0, i1, i2⟩ := place_in T.area x0 x1 y0 y1
        obtain ⟨Z, hZ⟩ : ∃ Z, y * W = Z := ⟨_, rfl⟩
        rw [hZ] at i0 i1 i2 ⊢
        obtain ⟨I, hI⟩ : ∃ I : Nat, Z + x = I := ⟨(Z + x).toNat, by omega⟩
        have eI : (Z + x).toNat = I := by omega
        rw [eI]
        have hIN : I < N := by omega
        have wZ : IntKind.i64.wrap Z = Z := IntWalk.i64_in _ (by omega)
        have wI : IntKind.i64.wrap (I : Int) = (I : Int) := IntWalk.i64_in _ (by omega)
        have i3 : (0 : Int) ≤ (I : Int) := by omega
        have i4 : (I : Int) < (N : Int) := by omega
        clear eI T i1 i2
        go_enter Try.func20, Try.ntmps20
        go_wp2_with fail
        refine CS.out.mono ?_
        rintro e w1 ⟨rfl, hb⟩
        have HB1 := Lib.hid hb
        have HA1 := Lib.hid (HA.out.below hb)
        clear hb
        obtain ⟨lz, c0, c1, c2⟩ := HA1.out.cells (k := 0) (by have := HT.out.len; omega)
        simp only [Nat.zero_mul, Nat.add_zero] at c0 c1 c2
        rw [HT.out.W0] at c0
        rw [HT.out.H0] at c1
        go_wp2_with fail
        refine (spec_l1In_yes x 0 (W - 1) _ x0 (by omega)).mono ?_
        rintro e w2 ⟨rfl, rfl⟩
        go_wp2_with fail
        refine (spec_l1In_yes y 0 (H - 1) _ y0 (by omega)).mono ?_
        rintro e w2 ⟨rfl, rfl⟩
        go_wp2_with fail
        refine (spec_l7Mark HT.out (some ⟨b, off, none⟩) cap I w1 HA1.out hIN).mono ?_
        rintro e w2 ⟨rfl, hb⟩
        have HB2 := Lib.hid (bTrans HB1.out hb)
        clear hb
        go_wp2_with fail
        go_ret
        exact ⟨rfl, HB2.out⟩

set_option maxRecDepth 100000 in
set_option maxHeartbeats 3200000 in
theorem impl_MarkAt (ad : Option Addr) (n cap : Nat) (ps : List PV) (x y : Int) (w : World) (hn : ps.length = n) (ha : RdV w ad ps) (hl : n ≤ 1048576) (h4 : ∀ k, k < ps.length → (pv ps k).n ≤ 1048576) :
    Calls Try.prog 21 #[.slice ad n cap, .int .i64 x, .int .i64 y] w fun e w' => e = .returned (.int .i64 (markAtF (picsV ps) x y)) ∧ Below w.heap.size w w' := by
  have HA := Lib.hid ha
  have CS := Lib.hid (impl_IsStack ad n cap ps w hn ha hl h4)
  by_cases hs : stackOk (picsV ps) = true
  case neg =>
    have hs2 : stackOk (picsV ps) = false := by simpa using hs
    rw [markAt_no (fun h => hs h.1)]
    rw [hs2] at CS
    clear hs hs2 hn ha h4
    go_enter Try.func21, Try.ntmps21
    go_wp2_with fail
    refine CS.out.mono ?_
    rintro e w1 ⟨rfl, hb⟩
    have HB1 := Lib.hid hb
    clear hb
    go_wp2_with fail
    go_ret
    exact ⟨rfl, HB1.out⟩
  case pos =>
    obtain ⟨N, W, H, T⟩ := stk_of hn hs
    rw [hs] at CS
    have HT := Lib.hid T
    have hn1 := T.n1
    have hn4 := T.n4
    obtain ⟨b1, b2, b3, b4, b5, b6⟩ := sizeOk_bd T.size
    have HQ := Lib.hid T.area
    have hN2 := T.N2
    have n0 : (0 : Int) < (n : Int) := by omega
    have n00 : 0 < n := by omega
    have EW : Hid (((picsV ps).getD 0 noPic).W = W ∧ ((picsV ps).getD 0 noPic).H = H) := Lib.hid (by rw [T.pic0]; exact ⟨T.W0, T.H0⟩)
    obtain ⟨b, off, hae, hal⟩ := ha.addr (by omega)
    subst hae
    clear b5 b6 hs hn ha h4
    by_cases hx : 0 ≤ x ∧ x < W
    case neg =>
      rw [markAt_no (fun h => hx ⟨h.2.1, by have := h.2.2.1; rw [EW.out.1] at this; exact this⟩)]
      have HX := Lib.hid hx
      clear hx T
      go_enter Try.func21, Try.ntmps21
      go_wp2_with fail
      refine CS.out.mono ?_
      rintro e w1 ⟨rfl, hb⟩
      have HB1 := Lib.hid hb
      have HA1 := Lib.hid (HA.out.below hb)
      clear hb
      obtain ⟨lz, c0, c1, c2⟩ := HA1.out.cells (k := 0) (by have := HT.out.len; omega)
      simp only [Nat.zero_mul, Nat.add_zero] at c0 c1 c2
      rw [HT.out.W0] at c0
      rw [HT.out.H0] at c1
      go_wp2_with fail
      refine (impl_partFits_no x 1 W _ b1 b2 (by omega) (by have := HX.out; omega)).mono ?_
      rintro e w2 ⟨rfl, rfl⟩
      go_wp2_with fail
      go_ret
      exact ⟨rfl, HB1.out⟩
    case pos =>
      by_cases hy : 0 ≤ y ∧ y < H
      case neg =>
        rw [markAt_no (fun h => hy ⟨h.2.2.2.1, by have := h.2.2.2.2; rw [EW.out.2] at this; exact this⟩)]
        have HY := Lib.hid hy
        obtain ⟨x0, x1⟩ := hx
        clear hy T
        go_enter Try.func21, Try.ntmps21
        go_wp2_with fail
        refine CS.out.mono ?_
        rintro e w1 ⟨rfl, hb⟩
        have HB1 := Lib.hid hb
        have HA1 := Lib.hid (HA.out.below hb)
        clear hb
        obtain ⟨lz, c0, c1, c2⟩ := HA1.out.cells (k := 0) (by have := HT.out.len; omega)
        simp only [Nat.zero_mul, Nat.add_zero] at c0 c1 c2
        rw [HT.out.W0] at c0
        rw [HT.out.H0] at c1
        go_wp2_with fail
        refine (impl_partFits_yes x 1 W _ b1 b2 (by omega) x0 (by omega)).mono ?_
        rintro e w2 ⟨rfl, rfl⟩
        go_wp2_with fail
        refine (impl_partFits_no y 1 H _ b3 b4 (by omega) (by have := HY.out; omega)).mono ?_
        rintro e w2 ⟨rfl, rfl⟩
        go_wp2_with fail
        go_ret
        exact ⟨rfl, HB1.out⟩
      case pos =>
        obtain ⟨x0, x1⟩ := hx
        obtain ⟨y0, y1⟩ := hy
        rw [markAt_yes T x0 x1 y0 y1]
        obtain ⟨i0, i1, i2⟩ := place_in T.area x0 x1 y0 y1
        obtain ⟨Z, hZ⟩ : ∃ Z, y * W = Z := ⟨_, rfl⟩
        rw [hZ] at i0 i1 i2 ⊢
        obtain ⟨I, hI⟩ : ∃ I : Nat, Z + x = I := ⟨(Z + x).toNat, by omega⟩
        have eI : (Z + x).toNat = I := by omega
        rw [eI]
        have hIN : I < N := by omega
        have wZ : IntKind.i64.wrap Z = Z := IntWalk.i64_in _ (by omega)
        have wI : IntKind.i64.wrap (I : Int) = (I : Int) := IntWalk.i64_in _ (by omega)
        have i3 : (0 : Int) ≤ (I : Int) := by omega
        have i4 : (I : Int) < (N : Int) := by omega
        clear eI T i1 i2
        go_enter Try.func21, Try.ntmps21
        go_wp2_with fail
        refine CS.out.mono ?_
        rintro e w1 ⟨rfl, hb⟩
        have HB1 := Lib.hid hb
        have HA1 := Lib.hid (HA.out.below hb)
        clear hb
        obtain ⟨lz, c0, c1, c2⟩ := HA1.out.cells (k := 0) (by have := HT.out.len; omega)
        simp only [Nat.zero_mul, Nat.add_zero] at c0 c1 c2
        rw [HT.out.W0] at c0
        rw [HT.out.H0] at c1
        go_wp2_with fail
        refine (impl_partFits_yes x 1 W _ b1 b2 (by omega) x0 (by omega)).mono ?_
        rintro e w2 ⟨rfl, rfl⟩
        go_wp2_with fail
        refine (impl_partFits_yes y 1 H _ b3 b4 (by omega) y0 (by omega)).mono ?_
        rintro e w2 ⟨rfl, rfl⟩
        go_wp2_with fail
        have HM := Lib.hid (marks_get (ps := ps) hIN)
        refine wp_region_held_drew (S := fun v => v.cell? ⟨b, off, none⟩ = some (.int .i64 W)) (by kernel_rfl) c0 ?_
        intro hHeld
        (refine' wpAnyH_take (i := 0) (v := ?_) rfl (by kernel_rfl) (by kernel_rfl) (by kernel_rfl) (fun _ _ _ h => h) (Or.inl ⟨by rfl, ?_⟩) (by assumption) ?_; rotate_left; (· (intro w hSw; (try dsimp only at hSw); go_simp; try with_reducible rfl)); (try simp only [Act.put, List.setIfInBounds_toArray, List.set_cons_zero, List.set_cons_succ]))
        (refine' wpAnyH_take (i := 2) (v := ?_) rfl (by kernel_rfl) (by kernel_rfl) (by kernel_rfl) (fun _ _ _ h => h) (Or.inl ⟨by rfl, ?_⟩) (by assumption) ?_; rotate_left; (· (intro w hSw; (try dsimp only at hSw); go_simp; try with_reducible rfl)); (try simp only [Act.put, List.setIfInBounds_toArray, List.set_cons_zero, List.set_cons_succ]))
        (refine' wpAnyH_take (i := 3) (v := ?_) rfl (by kernel_rfl) (by kernel_rfl) (by kernel_rfl) (fun _ _ _ h => h) (Or.inl ⟨by rfl, ?_⟩) (by assumption) ?_; rotate_left; (· (intro w hSw; (try dsimp only at hSw); go_simp; try with_reducible rfl)); (try simp only [Act.put, List.setIfInBounds_toArray, List.set_cons_zero, List.set_cons_succ]))
        (refine' wpAnyH_take (i := 4) (v := ?_) rfl (by kernel_rfl) (by kernel_rfl) (by kernel_rfl) (fun _ _ _ h => h) (Or.inl ⟨by rfl, ?_⟩) (by assumption) ?_; rotate_left; (· (intro w hSw; (try dsimp only at hSw); go_simp; try with_reducible rfl)); (try simp only [Act.put, List.setIfInBounds_toArray, List.set_cons_zero, List.set_cons_succ]))
        (refine' wpAnyH_take (i := 5) (v := ?_) rfl (by kernel_rfl) (by kernel_rfl) (by kernel_rfl) (fun _ _ _ h => h) (Or.inl ⟨by rfl, ?_⟩) (by assumption) ?_; rotate_left; (· (intro w hSw; (try dsimp only at hSw); go_simp; try with_reducible rfl)); (try simp only [Act.put, List.setIfInBounds_toArray, List.set_cons_zero, List.set_cons_succ]))
        (refine' wpAnyH_take (i := 6) (v := ?_) rfl (by kernel_rfl) (by kernel_rfl) (by kernel_rfl) (fun _ _ _ h => h) (Or.inl ⟨by rfl, ?_⟩) (by assumption) ?_; rotate_left; (· (intro w hSw; (try dsimp only at hSw); go_simp; try with_reducible rfl)); (try simp only [Act.put, List.setIfInBounds_toArray, List.set_cons_zero, List.set_cons_succ]))
        (refine' wpAnyH_take (i := 7) (v := ?_) rfl (by kernel_rfl) (by kernel_rfl) (by kernel_rfl) (fun _ _ _ h => h) (Or.inl ⟨by rfl, ?_⟩) (by assumption) ?_; rotate_left; (· (intro w hSw; (try dsimp only at hSw); go_simp; try with_reducible rfl)); (try simp only [Act.put, List.setIfInBounds_toArray, List.set_cons_zero, List.set_cons_succ]))
        (refine' wpAnyH_take (i := 8) (v := ?_) rfl (by kernel_rfl) (by kernel_rfl) (by kernel_rfl) (fun _ _ _ h => h) (Or.inl ⟨by rfl, ?_⟩) (by assumption) ?_; rotate_left; (· (intro w hSw; (try dsimp only at hSw); go_simp; try with_reducible rfl)); (try simp only [Act.put, List.setIfInBounds_toArray, List.set_cons_zero, List.set_cons_succ]))
        (refine' wpAnyH_take (i := 9) (v := ?_) rfl (by kernel_rfl) (by kernel_rfl) (by kernel_rfl) (fun _ _ _ h => h) (Or.inl ⟨by rfl, ?_⟩) (by assumption) ?_; rotate_left; (· (intro w hSw; (try dsimp only at hSw); go_simp; try with_reducible rfl)); (try simp only [Act.put, List.setIfInBounds_toArray, List.set_cons_zero, List.set_cons_succ]))
        (try simp only [List.getElem_toArray, List.getElem_cons_succ, List.getElem_cons_zero, Act.put, List.setIfInBounds_toArray, List.set_cons_zero, List.set_cons_succ])
        refine wpAnyH_ready (rs := [1]) (by kernel_rfl) (by simp) ?_
        refine AllReadyH.cons rfl (fun K hK => ?_) AllReadyH.nil
        go_simp
        go_at_call 60
        ((with_reducible refine (impl_marksOf HT.out (some ⟨b, off, none⟩) cap _ (by exact HA1.out.drew)).mono ?_); rintro e v1 ⟨g, rfl, hg, ho, hq1⟩)
        have m2 := ho.cell hIN
        rw [HM.out] at m2
        have hS1 : v1.cell? ⟨b, off, none⟩ = some (.int .i64 W) := (hq1.cell lz).trans c0
        go_wp2_with fail
        refine hK.out _ _ hS1 (fun hHeld => ?_)
        clear hK K
        (try simp only [List.getElem_toArray, List.getElem_cons_succ, List.getElem_cons_zero, Act.put, List.setIfInBounds_toArray, List.set_cons_zero, List.set_cons_succ])
        refine wpAnyH_ready (rs := [10]) (by kernel_rfl) (by simp) ?_
        refine AllReadyH.cons rfl (fun K hK => ?_) AllReadyH.nil
        go_simp
        refine hK.out _ _ hS1 (fun hHeld => ?_)
        clear hK K
        (try simp only [List.getElem_toArray, List.getElem_cons_succ, List.getElem_cons_zero, Act.put, List.setIfInBounds_toArray, List.set_cons_zero, List.set_cons_succ])
        refine wpAnyH_ready (rs := [11]) (by kernel_rfl) (by simp) ?_
        refine AllReadyH.cons rfl (fun K hK => ?_) AllReadyH.nil
        go_simp
        refine hK.out _ _ hS1 (fun hHeld => ?_)
        clear hK K
        (try simp only [List.getElem_toArray, List.getElem_cons_succ, List.getElem_cons_zero, Act.put, List.setIfInBounds_toArray, List.set_cons_zero, List.set_cons_succ])
        (refine' wpAnyH_take (i := 12) (v := ?_) rfl (by kernel_rfl) (by kernel_rfl) (by kernel_rfl) (fun _ _ _ h => h) (Or.inl ⟨by rfl, ?_⟩) (by assumption) ?_; rotate_left; (· (intro w hSw; (try dsimp only at hSw); go_simp; try with_reducible rfl)); (try simp only [Act.put, List.setIfInBounds_toArray, List.set_cons_zero, List.set_cons_succ]))
        (try simp only [List.getElem_toArray, List.getElem_cons_succ, List.getElem_cons_zero, Act.put, List.setIfInBounds_toArray, List.set_cons_zero, List.set_cons_succ])
        refine wpAnyH_done (by kernel_rfl) ?_ _
        have HB5 := Lib.hid (HB1.out.drew.trans (hq1.mono HB1.out.size))
        clear hq1 m2 ho hg
        go_wp2_with fail
        go_ret
        exact ⟨rfl, HB5.out⟩

def cntL (ps : List PV) (M i : Nat) : List Int := gen M (fun r => cntI (markG (picsV ps)) r i)

theorem cntL_start (ps : List PV) (M : Nat) : List.replicate M 0 = cntL ps M 0 := by
  unfold cntL
  refine gen_ext M _ _ (by simp) (fun i hi => ?_)
  simp [cntI, List.getD, hi]

theorem cntL_step {ps : List PV} {M i m : Nat} (hm : markG (picsV ps) i = (m : Int)) (hM : m < M) {V : Int} (hV : cntI (markG (picsV ps)) m i = V) : (cntL ps M i).set m (V + 1) = cntL ps M (i + 1) := by
  unfold cntL
  refine gen_setW hM ?_ (fun r hr hne => ?_)
  · show cntI (markG (picsV ps)) m i + (if markG (picsV ps) i = m then 1 else 0) = V + 1
    rw [hm, if_pos rfl, hV]
  · show cntI (markG (picsV ps)) r i + (if markG (picsV ps) i = r then 1 else 0) = _
    rw [hm, if_neg (by omega), Int.add_zero]

theorem cntL_get {ps : List PV} {M i m : Nat} (hM : m < M) : (cntL ps M i).getD m 0 = cntI (markG (picsV ps)) m i := by
  unfold cntL
  rw [gen_get _ _ _ hM]

theorem counts_yes {ps : List PV} {n N : Nat} {W H : Int} (T : Stk ps n N W H) : markCountsF (picsV ps) = cntL ps (2 ^ n) N := by
  unfold markCountsF cntL
  rw [if_pos T.ok, picsV_len, T.len, T.inkLen]

theorem counts_no {L : List Pic} (h : stackOk L = false) : markCountsF L = [] := by unfold markCountsF; rw [h]; rfl

theorem mark_lt {ps : List PV} {n N : Nat} {W H : Int} (T : Stk ps n N W H) {i : Nat} (hi : i < N) : ∃ m : Nat, markG (picsV ps) i = m ∧ m < 2 ^ n := by
  obtain ⟨h1, h2⟩ := T.bits hi (Nat.le_refl n)
  rw [← T.mark] at h1 h2
  have e : (2 : Int) ^ n = ((2 ^ n : Nat) : Int) := by push_cast; rfl
  rw [e] at h2
  exact ⟨(markG (picsV ps) i).toNat, by omega, by omega⟩

theorem pow_nat {n : Nat} (h : n ≤ 4) : 1 ≤ 2 ^ n ∧ 2 ^ n ≤ 16 := by
  have := pow_small h
  have e : (2 : Int) ^ n = ((2 ^ n : Nat) : Int) := by push_cast; rfl
  omega

/-- A list of numbers of the call's own. -/
def CountsOut (w : World) (xs : List Int) (e : Ending) (w' : World) : Prop := ∃ a n c, e = .returned (.slice a n c) ∧ OwnA w' w.heap.size a n c xs ∧ n ≤ 1048576 ∧ Below w.heap.size w w'

set_option maxHeartbeats 3200000 in
theorem spec_MarkCounts (ad : Option Addr) (n cap : Nat) (ps : List PV) (w : World) (hn : ps.length = n) (ha : RdV w ad ps) (hl : n ≤ 1048576) (h4 : ∀ k, k < ps.length → (pv ps k).n ≤ 1048576) :
    Calls Try.prog 22 #[.slice ad n cap] w (CountsOut w (markCountsF (picsV ps))) := by
  have HA := Lib.hid ha
  have CS := Lib.hid (spec_IsStack ad n cap ps w hn ha hl h4)
  by_cases hs : stackOk (picsV ps) = true
  case neg =>
    have hs2 : stackOk (picsV ps) = false := by simpa using hs
    rw [counts_no hs2]
    rw [hs2] at CS
    clear hs hs2 hn ha h4
    go_enter Try.func22, Try.ntmps22
    go_wp2_with fail
    refine CS.out.mono ?_
    rintro e w1 ⟨rfl, hb⟩
    have HB1 := Lib.hid hb
    clear hb
    go_wp2_with fail
    go_ret
    exact ⟨none, 0, 0, rfl, OwnA.none _ _, by omega, HB1.out⟩
  case pos =>
    obtain ⟨N, W, H, T⟩ := stk_of hn hs
    rw [counts_yes T]
    rw [hs] at CS
    have HT := Lib.hid T
    have hn1 := T.n1
    have hn4 := T.n4
    have hN1 := T.N1
    have hN2 := T.N2
    obtain ⟨m1, m2⟩ := pow_nat hn4
    have E : Hid (((2 ^ n : Nat) : Int) = (2 : Int) ^ n) := Lib.hid (by push_cast; rfl)
    obtain ⟨M, hM⟩ : ∃ M, 2 ^ n = M := ⟨_, rfl⟩
    have hMl : ∀ i : Nat, i < N → ∃ m : Nat, markG (picsV ps) i = m ∧ m < M := fun i hi => by rw [← hM]; exact mark_lt T hi
    have HML := Lib.hid hMl
    rw [hM] at m1 m2 E ⊢
    have EM : (2 : Int) ^ n = (M : Int) := E.out.symm
    have n0 : (0 : Int) < (n : Int) := by omega
    have n3 : (n : Int) ≤ 4 := by omega
    obtain ⟨b, off, hae, hal⟩ := ha.addr (by omega)
    subst hae
    clear hs hn ha h4 T hM hMl
    go_enter Try.func22, Try.ntmps22
    go_wp2_with fail
    refine CS.out.mono ?_
    rintro e w1 ⟨rfl, hb⟩
    have HB1 := Lib.hid hb
    have HA1 := Lib.hid (HA.out.below hb)
    clear hb
    obtain ⟨_, c0, c1, c2⟩ := HA1.out.cells (k := 0) (by have := HT.out.len; omega)
    have ln0 := HA1.out.len (k := 0) (by have := HT.out.len; omega)
    have hnn : (pv ps 0).n = N := by have := (HT.out.ink 0 (by omega)).1; omega
    simp only [Nat.zero_mul, Nat.add_zero] at c0 c1 c2
    rw [hnn] at c2
    clear ln0 hnn
    go_wp2_with (at_make; refine wp_make _ rfl _ _ rfl .i64 .i64 _ _ M rfl rfl rfl rfl (by omega) ?_; intro MM hMM)
    have HO0 := Lib.hid (hMM.own w1)
    have HB2 := Lib.hid (bAlloc HB1.out (.cells MM 3))
    clear hMM c0 c1 c2
    obtain ⟨w2, hw2⟩ : ∃ w2, w2 = w1.alloc (.cells MM 3) := ⟨_, rfl⟩
    rw [← hw2] at HO0 HB2 ⊢
    clear hw2
    have GL : Hid (w.heap.size ≤ w1.heap.size) := Lib.hid HB1.out.size
    go_loopw [18] (fun i wr => ∃ k : Nat, k ≤ N ∧ i = .int .i64 k ∧ Hid (Own wr w1.heap.size M M (cntL ps M k)) ∧ Hid (Below w.heap.size w wr)) (fun i _ => N - (intOf i).toNat)
    case atStart => exact ⟨0, Nat.zero_le _, rfl, Lib.hid (by rw [← cntL_start]; exact HO0.out), HB2⟩
    case round =>
      obtain ⟨k, hk, rfl, HO, HW⟩ := hrel
      by_cases hlt : k < N
      · have CM := Lib.hid (spec_l7Mark HT.out (some ⟨b, off, none⟩) cap k wr (HA.out.below HW.out) hlt)
        obtain ⟨m, hm, hmM⟩ := HML.out k hlt
        have hcb := cntI_bd (markG (picsV ps)) m k
        obtain ⟨V, hV⟩ : ∃ V, cntI (markG (picsV ps)) m k = V := ⟨_, rfl⟩
        have HG : Hid ((cntL ps M k).getD m 0 = V) := Lib.hid (by rw [cntL_get hmM, hV])
        have HSE := Lib.hid (cntL_step hm hmM hV)
        rw [hV] at hcb
        rw [hm] at CM
        obtain ⟨V0, V1⟩ := hcb
        have mm0 : (m : Int) < (M : Int) := by omega
        clear hm hV
        go_wp2_with fail
        refine CM.out.mono ?_
        rintro e w5 ⟨rfl, hb⟩
        have HO5 := Lib.hid (HO.out.below hb HO.out.lt)
        have HW5 := Lib.hid (bTrans HW.out hb)
        have g2 := HO5.out.cell hmM
        have g3 := HO5.out.frozen m
        rw [HG.out] at g2
        have HS := Lib.hid (HO5.out.set m (V + 1))
        clear hb
        go_wp2_with fail
        go_roundw
        case rel => exact ⟨k + 1, by omega, by go_num, Lib.hid (by rw [← HSE.out]; exact HS.out), Lib.hid (HW5.out.setCell GL.out _)⟩
        case measure => simp [intOf]; omega
      · obtain rfl : k = N := by omega
        go_wp2_with fail
        go_ret
        exact ⟨_, _, _, rfl, OwnA.mk HO.out GL.out, by omega, HW.out⟩

end Go.Proofs.Ythokmanjiebimaa
