/-
  Contracts of chapter 6: Euclid's way in the program.
-/
import Derived.Test.YtflegojobchgdaaN8
import Derived.Test.YtflegojobchgdaaM32
import Derived.Test.YtflegojobchgdaaHeld
import Derived.Deep.LoopGhost
import Derived.Deep.DeepCutAuto
namespace Go.Proofs.Ytflegojobchgdaa
open Go.RowKit
set_option linter.unusedVariables false
set_option linter.unusedSimpArgs false

set_option maxHeartbeats 400000 in
theorem impl_plus5 (x y u v : Int) (w : World) (h1 : -10000000 ≤ x) (h2 : x ≤ 10000000) (h3 : -10000000 ≤ y) (h4 : y ≤ 10000000) (h5 : -10000000 ≤ u) (h6 : u ≤ 10000000) (h7 : -10000000 ≤ v) (h8 : v ≤ 10000000) :
    Calls Try.prog 52 #[.agg #[.int .i64 x, .int .i64 y], .agg #[.int .i64 u, .int .i64 v]] w fun e w' => e = .returned (.agg #[.int .i64 (x + u), .int .i64 (y + v)]) ∧ Below w.heap.size w w' := by
  go_enter Try.func52, Try.ntmps52
  go_wp2_with fail
  exact bodyPost_ret (v := .agg #[.int .i64 (x + u), .int .i64 (y + v)]) (by simp [results, Try.results52, go_sem]) rfl ⟨rfl, (((Below.refl _ _).alloc (Nat.le_refl _) _).alloc (by simp) _).alloc (by simp; omega) _⟩

set_option maxHeartbeats 400000 in
theorem impl_times5 (x y u : Int) (w : World) (h1 : -1000000 ≤ x * u) (h2 : x * u ≤ 1000000) (h3 : -1000000 ≤ y * u) (h4 : y * u ≤ 1000000) :
    Calls Try.prog 53 #[.agg #[.int .i64 x, .int .i64 y], .int .i64 u] w fun e w' => e = .returned (.agg #[.int .i64 (x * u), .int .i64 (y * u)]) ∧ Below w.heap.size w w' := by
  go_enter Try.func53, Try.ntmps53
  go_wp2_with fail
  exact bodyPost_ret (v := .agg #[.int .i64 (x * u), .int .i64 (y * u)]) (by simp [results, Try.results53, go_sem]) rfl ⟨rfl, ((Below.refl _ _).alloc (Nat.le_refl _) _).alloc (by simp) _⟩

/-- Two boxes of the walk's own hold the two points. -/
def EuSt (w wx : World) (s : Eu) (v3 v4 : Value) : Prop := ∃ g1 g2 : Nat, v3 = .pointer (some ⟨g1, 0, none⟩) ∧ v4 = .pointer (some ⟨g2, 0, none⟩) ∧ g1 ≠ g2 ∧ w.heap.size ≤ g1 ∧ w.heap.size ≤ g2 ∧ Blk wx g1 56 #[.int .i64 s.sx, .int .i64 s.sy] ∧ Blk wx g2 56 #[.int .i64 s.ox, .int .i64 s.oy] ∧ Below w.heap.size w wx

theorem eu_mk (w : World) (s : Eu) : EuSt w (((w.alloc (.cells #[.int .i64 s.sx, .int .i64 s.sy] 56)).alloc (.cells #[.int .i64 s.ox, .int .i64 s.oy] 56)).drew) s (.pointer (some ⟨w.heap.size, 0, none⟩)) (.pointer (some ⟨w.heap.size + 1, 0, none⟩)) :=
  ⟨w.heap.size, w.heap.size + 1, rfl, rfl, by omega, Nat.le_refl _, by omega, ((Blk.new w _ _).alloc _).drew, (Blk.new' _ _ (by simp)).drew, (bAlloc (bAlloc (Below.refl w.heap.size w) _) _).drew⟩

theorem eu_mk' (w : World) (s : Eu) : EuSt w (((w.alloc (.cells #[.int .i64 s.ox, .int .i64 s.oy] 56)).alloc (.cells #[.int .i64 s.sx, .int .i64 s.sy] 56)).drew) s (.pointer (some ⟨w.heap.size + 1, 0, none⟩)) (.pointer (some ⟨w.heap.size, 0, none⟩)) :=
  ⟨w.heap.size + 1, w.heap.size, rfl, rfl, by omega, by omega, Nat.le_refl _, (Blk.new' _ _ (by simp)).drew, ((Blk.new w _ _).alloc _).drew, (bAlloc (bAlloc (Below.refl w.heap.size w) _) _).drew⟩

set_option maxRecDepth 100000 in
set_option maxHeartbeats 1600000 in
theorem impl_stepDown {A B n g d a b p q : Int} (L : Lat A B n g d a b p q) (w : World) :
    Calls Try.prog 32 #[.agg #[.int .i64 A, .int .i64 B]] w fun e w' => ∃ sx, e = .returned (.agg #[.int .i64 sx, .int .i64 g]) ∧ HasL A B sx g ∧ -1000 ≤ sx ∧ sx ≤ 1000 ∧ Below w.heap.size w w' := by
  have HL := Lib.hid L
  have a1 := L.a1; have a2 := L.a2; have b1 := L.b1; have b2 := L.b2
  clear L
  go_enter Try.func32, Try.ntmps32
  go_upto_region 1 with fail
  have KP := Lib.hid ((Blk.new w 24 #[.int .i64 A, .int .i64 B]).alloc (.cells #[.int .i64 0, .int .i64 0] 56))
  have KZ := Lib.hid (Blk.new' (g := w.heap.size + 1) (w := w.alloc (.cells #[.int .i64 A, .int .i64 B] 24)) 56 #[.int .i64 0, .int .i64 0] (by simp))
  have HBP := Lib.hid (bAlloc (bAlloc (Below.refl w.heap.size w) (.cells #[.int .i64 A, .int .i64 B] 24)) (.cells #[.int .i64 0, .int .i64 0] 56))
  obtain ⟨wo, hwo⟩ : ∃ wo : World, wo = (w.alloc (.cells #[.int .i64 A, .int .i64 B] 24)).alloc (.cells #[.int .i64 0, .int .i64 0] 56) := ⟨_, rfl⟩
  rw [← hwo] at KP KZ HBP ⊢
  clear hwo
  go_cut [3, 4] (fun s3 s4 wx => EuSt wo wx ⟨A, B, -B, A⟩ s3 s4)
  case first =>
    obtain ⟨l0, o0, o1⟩ := KP.out.c2
    have t1 : IntKind.i64.wrap (-B) = -B := IntWalk.i64_in _ (by omega)
    have MK : Hid (∀ v, BelowL wo v → v.cell? ⟨w.heap.size, 0, none⟩ = some (.int .i64 A) ∧ v.cell? ⟨w.heap.size, 1, none⟩ = some (.int .i64 B) ∧ BelowL wo v) := Lib.hid (fun v hB => ⟨(hB.out.cell l0).trans o0, (hB.out.cell l0).trans o1, hB⟩)
    refine wp_region_held_drew (S := fun v => v.cell? ⟨w.heap.size, 0, none⟩ = some (.int .i64 A) ∧ v.cell? ⟨w.heap.size, 1, none⟩ = some (.int .i64 B) ∧ BelowL wo v) (by kernel_rfl) (MK.out _ (BelowL.start _)) ?_
    intro hHeld
    have hb0 := limb3 hHeld
    (refine' wpAnyH_take (i := 0) (v := ?_) rfl (by kernel_rfl) (by kernel_rfl) (by kernel_rfl) (fun _ _ _ h => h) (Or.inl ⟨by rfl, ?_⟩) (by assumption) ?_; rotate_left; (· (intro w hSw; (try dsimp only at hSw); go_simp; try with_reducible rfl)); (try simp only [Act.put, List.setIfInBounds_toArray, List.set_cons_zero, List.set_cons_succ]))
    (refine' wpAnyH_take (i := 1) (v := ?_) rfl (by kernel_rfl) (by kernel_rfl) (by kernel_rfl) (fun _ _ _ h => h) (Or.inl ⟨by rfl, ?_⟩) (by assumption) ?_; rotate_left; (· (intro w hSw; (try dsimp only at hSw); go_simp; try with_reducible rfl)); (try simp only [Act.put, List.setIfInBounds_toArray, List.set_cons_zero, List.set_cons_succ]))
    (refine' wpAnyH_take (i := 2) (v := ?_) rfl (by kernel_rfl) (by kernel_rfl) (by kernel_rfl) (fun _ _ _ h => h) (Or.inl ⟨by rfl, ?_⟩) (by assumption) ?_; rotate_left; (· (intro w hSw; (try dsimp only at hSw); go_simp; try with_reducible rfl)); (try simp only [Act.put, List.setIfInBounds_toArray, List.set_cons_zero, List.set_cons_succ]))
    (refine' wpAnyH_take (i := 3) (v := ?_) rfl (by kernel_rfl) (by kernel_rfl) (by kernel_rfl) (fun _ _ _ h => h) (Or.inl ⟨by rfl, ?_⟩) (by assumption) ?_; rotate_left; (· (intro w hSw; (try dsimp only at hSw); go_simp; try with_reducible rfl)); (try simp only [Act.put, List.setIfInBounds_toArray, List.set_cons_zero, List.set_cons_succ]))
    (refine' wpAnyH_take (i := 4) (v := ?_) rfl (by kernel_rfl) (by kernel_rfl) (by kernel_rfl) (fun _ _ _ h => h) (Or.inl ⟨by rfl, ?_⟩) (by assumption) ?_; rotate_left; (· (intro w hSw; (try dsimp only at hSw); go_simp; try with_reducible rfl)); (try simp only [Act.put, List.setIfInBounds_toArray, List.set_cons_zero, List.set_cons_succ]))
    (refine' wpAnyH_take (i := 5) (v := ?_) rfl (by kernel_rfl) (by kernel_rfl) (by kernel_rfl) (fun _ _ _ h => h) (Or.inl ⟨by rfl, ?_⟩) (by assumption) ?_; rotate_left; (· (intro w hSw; (try dsimp only at hSw); go_simp; try with_reducible rfl)); (try simp only [Act.put, List.setIfInBounds_toArray, List.set_cons_zero, List.set_cons_succ]))
    (refine' wpAnyH_take (i := 6) (v := ?_) rfl (by kernel_rfl) (by kernel_rfl) (by kernel_rfl) (fun _ _ _ h => h) (Or.inl ⟨by rfl, ?_⟩) (by assumption) ?_; rotate_left; (· (intro w hSw; (try dsimp only at hSw); go_simp; try with_reducible rfl)); (try simp only [Act.put, List.setIfInBounds_toArray, List.set_cons_zero, List.set_cons_succ]))
    (refine' wpAnyH_take (i := 7) (v := ?_) rfl (by kernel_rfl) (by kernel_rfl) (by kernel_rfl) (fun _ _ _ h => h) (Or.inl ⟨by rfl, ?_⟩) (by assumption) ?_; rotate_left; (· (intro w hSw; (try dsimp only at hSw); go_simp; try with_reducible rfl)); (try simp only [Act.put, List.setIfInBounds_toArray, List.set_cons_zero, List.set_cons_succ]))
    (refine' wpAnyH_take (i := 8) (v := ?_) rfl (by kernel_rfl) (by kernel_rfl) (by kernel_rfl) (fun _ _ _ h => h) (Or.inl ⟨by rfl, ?_⟩) (by assumption) ?_; rotate_left; (· (intro w hSw; (try dsimp only at hSw); go_simp; try with_reducible rfl)); (try simp only [Act.put, List.setIfInBounds_toArray, List.set_cons_zero, List.set_cons_succ]))
    (refine' wpAnyH_take (i := 9) (v := ?_) rfl (by kernel_rfl) (by kernel_rfl) (by kernel_rfl) (fun _ _ _ h => h) (Or.inl ⟨by rfl, ?_⟩) (by assumption) ?_; rotate_left; (· (intro w hSw; (try dsimp only at hSw); go_simp; try with_reducible rfl)); (try simp only [Act.put, List.setIfInBounds_toArray, List.set_cons_zero, List.set_cons_succ]))
    (refine' wpAnyH_take (i := 10) (v := ?_) rfl (by kernel_rfl) (by kernel_rfl) (by kernel_rfl) (fun _ _ _ h => h) (Or.inl ⟨by rfl, ?_⟩) (by assumption) ?_; rotate_left; (· (intro w hSw; (try dsimp only at hSw); go_simp; try with_reducible rfl)); (try simp only [Act.put, List.setIfInBounds_toArray, List.set_cons_zero, List.set_cons_succ]))
    refine wpAnyH_ready (rs := [11, 12]) (by kernel_rfl) (by simp) ?_
    refine AllReadyH.cons rfl (fun K hK => ?_) (AllReadyH.cons rfl (fun K hK => ?_) AllReadyH.nil)
    · go_simp
      refine hK.out _ _ (by (try dsimp only); exact MK.out _ (BelowL.alloc hb0 _)) (fun hHeld => ?_)
      clear hK K
      refine wpAnyH_ready (rs := [12]) (by kernel_rfl) (by simp) ?_
      refine AllReadyH.cons rfl (fun K hK => ?_) AllReadyH.nil
      go_simp
      refine hK.out _ _ (by (try dsimp only); exact MK.out _ (BelowL.alloc (BelowL.alloc hb0 _) _)) (fun hHeld => ?_)
      clear hK K
      refine wpAnyH_ready (rs := [13]) (by kernel_rfl) (by simp) ?_
      refine AllReadyH.cons rfl (fun K hK => ?_) AllReadyH.nil
      go_simp
      refine hK.out _ _ (by (try dsimp only); exact MK.out _ (BelowL.alloc (BelowL.alloc hb0 _) _)) (fun hHeld => ?_)
      clear hK K
      refine wpAnyH_ready (rs := [14]) (by kernel_rfl) (by simp) ?_
      refine AllReadyH.cons rfl (fun K hK => ?_) AllReadyH.nil
      go_simp
      refine hK.out _ _ (by (try dsimp only); exact MK.out _ (BelowL.alloc (BelowL.alloc hb0 _) _)) (fun hHeld => ?_)
      clear hK K
      refine wpAnyH_done (by kernel_rfl) ?_ _
      (try go_simp)
      go_wp2_with fail
      go_meet
      exact eu_mk wo ⟨A, B, -B, A⟩
    · go_simp
      refine hK.out _ _ (by (try dsimp only); exact MK.out _ (BelowL.alloc hb0 _)) (fun hHeld => ?_)
      clear hK K
      refine wpAnyH_ready (rs := [11]) (by kernel_rfl) (by simp) ?_
      refine AllReadyH.cons rfl (fun K hK => ?_) AllReadyH.nil
      go_simp
      refine hK.out _ _ (by (try dsimp only); exact MK.out _ (BelowL.alloc (BelowL.alloc hb0 _) _)) (fun hHeld => ?_)
      clear hK K
      refine wpAnyH_ready (rs := [13]) (by kernel_rfl) (by simp) ?_
      refine AllReadyH.cons rfl (fun K hK => ?_) AllReadyH.nil
      go_simp
      refine hK.out _ _ (by (try dsimp only); exact MK.out _ (BelowL.alloc (BelowL.alloc hb0 _) _)) (fun hHeld => ?_)
      clear hK K
      refine wpAnyH_ready (rs := [14]) (by kernel_rfl) (by simp) ?_
      refine AllReadyH.cons rfl (fun K hK => ?_) AllReadyH.nil
      go_simp
      refine hK.out _ _ (by (try dsimp only); exact MK.out _ (BelowL.alloc (BelowL.alloc hb0 _) _)) (fun hHeld => ?_)
      clear hK K
      refine wpAnyH_done (by kernel_rfl) ?_ _
      (try go_simp)
      go_wp2_with fail
      go_meet
      exact eu_mk' wo ⟨A, B, -B, A⟩
  case rest =>
    obtain ⟨g1, g2, rfl, rfl, hne, h1, h2, k1, k2, hb⟩ := hcut
    have K1 := Lib.hid k1
    have K2 := Lib.hid k2
    have HB := Lib.hid hb
    have hz := KZ.out.lt
    clear k1 k2 hb
    go_wp2_with fail
    go_loopg [16] 10 (fun gh s16 wr => ∃ (k : Nat) (X Y O V : Int), k < 10 ∧ 9 ≤ k + gh ∧ Hid (euAt A B k = ⟨X, Y, O, V⟩) ∧ Hid (Blk wr g1 56 #[.int .i64 X, .int .i64 Y]) ∧ Hid (Blk wr g2 56 #[.int .i64 O, .int .i64 V]) ∧ Hid (Below wo.heap.size wo wr)) 
    case atStart => exact ⟨0, A, B, -B, A, by omega, by omega, Lib.hid rfl, K1, K2, HB⟩
    case round =>
      clear K1 K2 HB
      obtain ⟨k, X, Y, O, V, hk, hgh, HE, R1, R2, RB⟩ := hrel
      obtain ⟨e1, e2, e3, e4, e5, e6, e7, e8, e9, e10⟩ := eu_bd HL.out hk HE.out
      simp only at e1 e2 e3 e4 e5 e6 e7 e8 e9 e10
      obtain ⟨l1, p0, p1⟩ := R1.out.c2
      obtain ⟨l2, q0, q1⟩ := R2.out.c2
      by_cases hV : V = 0
      · obtain ⟨rfl, hhas⟩ := e9 hV
        subst hV
        have HH := Lib.hid hhas
        have KZr := Lib.hid (KZ.out.below RB.out hz)
        obtain ⟨l3, r0, r1⟩ := KZr.out.c2
        have f0 := KZr.out.frozen 0
        have f1 := KZr.out.frozen 1
        clear e9 e10 hhas
        go_wp2_with fail
        exact bodyPost_ret (v := .agg #[.int .i64 X, .int .i64 Y]) (by simp [results, Try.results32, go_sem, r0, r1]) rfl ⟨X, rfl, HH.out, e1, e2, ((bTrans HBP.out RB.out).setCell (by simp) _).setCell (by simp) _⟩
      · obtain ⟨k9, d1, d2, d3, d4, d5, d6, d7⟩ := e10 hV
        have hv1 : (V != 0) = true := by simpa using hV
        have hv2 : (V == 0) = false := by simpa using hV
        have HN := Lib.hid d7
        obtain ⟨D, hD⟩ : ∃ D, Y / V = D := ⟨_, rfl⟩
        rw [hD] at d1 d2 d3 d4 d5 d6
        have t1 : Y.tdiv V = D := by rw [Int.tdiv_eq_ediv_of_nonneg e3]; exact hD
        have t2 : IntKind.i64.wrap D = D := IntWalk.i64_in _ (by omega)
        have t3 : IntKind.i64.wrap (-D) = -D := IntWalk.i64_in _ (by omega)
        have HD := Lib.hid hD
        clear e9 e10 d7 hD
        go_upto_region 3 with fail
        have MK : Hid (∀ v, BelowL wr v → v.cell? ⟨g1, 0, none⟩ = some (.int .i64 X) ∧ v.cell? ⟨g1, 1, none⟩ = some (.int .i64 Y) ∧ v.cell? ⟨g2, 0, none⟩ = some (.int .i64 O) ∧ v.cell? ⟨g2, 1, none⟩ = some (.int .i64 V) ∧ BelowL wr v) := Lib.hid (fun v hB => ⟨(hB.out.cell l1).trans p0, (hB.out.cell l1).trans p1, (hB.out.cell l2).trans q0, (hB.out.cell l2).trans q1, hB⟩)
        refine wp_region_T 11 (fun v => v.cell? ⟨g1, 0, none⟩ = some (.int .i64 X) ∧ v.cell? ⟨g1, 1, none⟩ = some (.int .i64 Y) ∧ v.cell? ⟨g2, 0, none⟩ = some (.int .i64 O) ∧ v.cell? ⟨g2, 1, none⟩ = some (.int .i64 V) ∧ BelowL wr v) (by kernel_rfl) (MK.out _ (BelowL.start _)) ?_
        intro hHeld
        have hb0 := limb5 hHeld
        (refine' wpAnyT_take (i := 0) (v := ?_) rfl (by kernel_rfl) (by kernel_rfl) (by kernel_rfl) (by kernel_rfl) (fun _ _ _ h => h) (Or.inl ⟨by rfl, ?_⟩) (by assumption) ?_; rotate_left; (· (intro w hSw; (try dsimp only at hSw); go_simp; try with_reducible rfl)); (try simp only [Act.put, List.setIfInBounds_toArray, List.set_cons_zero, List.set_cons_succ]))
        (refine' wpAnyT_take (i := 1) (v := ?_) rfl (by kernel_rfl) (by kernel_rfl) (by kernel_rfl) (by kernel_rfl) (fun _ _ _ h => h) (Or.inl ⟨by rfl, ?_⟩) (by assumption) ?_; rotate_left; (· (intro w hSw; (try dsimp only at hSw); go_simp; try with_reducible rfl)); (try simp only [Act.put, List.setIfInBounds_toArray, List.set_cons_zero, List.set_cons_succ]))
        (refine' wpAnyT_take (i := 2) (v := ?_) rfl (by kernel_rfl) (by kernel_rfl) (by kernel_rfl) (by kernel_rfl) (fun _ _ _ h => h) (Or.inl ⟨by rfl, ?_⟩) (by assumption) ?_; rotate_left; (· (intro w hSw; (try dsimp only at hSw); go_simp; try with_reducible rfl)); (try simp only [Act.put, List.setIfInBounds_toArray, List.set_cons_zero, List.set_cons_succ]))
        (refine' wpAnyT_take (i := 3) (v := ?_) rfl (by kernel_rfl) (by kernel_rfl) (by kernel_rfl) (by kernel_rfl) (fun _ _ _ h => h) (Or.inl ⟨by rfl, ?_⟩) (by assumption) ?_; rotate_left; (· (intro w hSw; (try dsimp only at hSw); go_simp; try with_reducible rfl)); (try simp only [Act.put, List.setIfInBounds_toArray, List.set_cons_zero, List.set_cons_succ]))
        (refine' wpAnyT_take (i := 4) (v := ?_) rfl (by kernel_rfl) (by kernel_rfl) (by kernel_rfl) (by kernel_rfl) (fun _ _ _ h => h) (Or.inl ⟨by rfl, ?_⟩) (by assumption) ?_; rotate_left; (· (intro w hSw; (try dsimp only at hSw); go_simp; try with_reducible rfl)); (try simp only [Act.put, List.setIfInBounds_toArray, List.set_cons_zero, List.set_cons_succ]))
        (refine' wpAnyT_take (i := 5) (v := ?_) rfl (by kernel_rfl) (by kernel_rfl) (by kernel_rfl) (by kernel_rfl) (fun _ _ _ h => h) (Or.inl ⟨by rfl, ?_⟩) (by assumption) ?_; rotate_left; (· (intro w hSw; (try dsimp only at hSw); go_simp; try with_reducible rfl)); (try simp only [Act.put, List.setIfInBounds_toArray, List.set_cons_zero, List.set_cons_succ]))
        (refine' wpAnyT_take (i := 6) (v := ?_) rfl (by kernel_rfl) (by kernel_rfl) (by kernel_rfl) (by kernel_rfl) (fun _ _ _ h => h) (Or.inl ⟨by rfl, ?_⟩) (by assumption) ?_; rotate_left; (· (intro w hSw; (try dsimp only at hSw); go_simp; try with_reducible rfl)); (try simp only [Act.put, List.setIfInBounds_toArray, List.set_cons_zero, List.set_cons_succ]))
        (refine' wpAnyT_take (i := 7) (v := ?_) rfl (by kernel_rfl) (by kernel_rfl) (by kernel_rfl) (by kernel_rfl) (fun _ _ _ h => h) (Or.inl ⟨by rfl, ?_⟩) (by assumption) ?_; rotate_left; (· (intro w hSw; (try dsimp only at hSw); go_simp; try with_reducible rfl)); (try simp only [Act.put, List.setIfInBounds_toArray, List.set_cons_zero, List.set_cons_succ]))
        (refine' wpAnyT_take (i := 8) (v := ?_) rfl (by kernel_rfl) (by kernel_rfl) (by kernel_rfl) (by kernel_rfl) (fun _ _ _ h => h) (Or.inl ⟨by rfl, ?_⟩) (by assumption) ?_; rotate_left; (· (intro w hSw; (try dsimp only at hSw); go_simp; try with_reducible rfl)); (try simp only [Act.put, List.setIfInBounds_toArray, List.set_cons_zero, List.set_cons_succ]))
        refine wpAnyT_one (i := 9) (by kernel_rfl) rfl (fun K hK => ?_)
        go_simp
        go_at_call 53
        ((with_reducible refine (impl_times5 _ _ _ _ (by omega) (by omega) (by omega) (by omega)).mono ?_); rintro e v1 ⟨rfl, hq1⟩)
        have hb1 := BelowL.call hb0 hq1
        go_wp2_with fail
        refine hK.out _ _ (fun _ => by (try dsimp only); exact MK.out _ hb1) (fun hH2 => ?_)
        clear hK K hHeld hH2
        refine wpAnyT_one (i := 10) (by kernel_rfl) rfl (fun K hK => ?_)
        go_simp
        go_at_call 52
        ((with_reducible refine (impl_plus5 _ _ _ _ _ (by omega) (by omega) (by omega) (by omega) (by omega) (by omega) (by omega) (by omega)).mono ?_); rintro e v2 ⟨rfl, hq2⟩)
        have hb2 := BelowL.call hb1 hq2
        have S1 := Lib.hid (R1.out.below' hb2.out)
        have S2 := Lib.hid (R2.out.below' hb2.out)
        go_wp2_with fail
        refine hK.out _ _ (fun _ => by (try dsimp only); exact MK.out _ hb2) (fun hH2 => ?_)
        clear hK K hH2
        clear p0 p1 q0 q1
        obtain ⟨l1, p0, p1⟩ := S1.out.c2
        obtain ⟨l2, q0, q1⟩ := S2.out.c2
        have f0 := S1.out.frozen 0
        have f1 := S1.out.frozen 1
        have f2 := S2.out.frozen 0
        have f3 := S2.out.frozen 1
        refine wpAnyT_one (i := 11) (by kernel_rfl) rfl (fun K hK => ?_)
        go_simp
        have S3 := Lib.hid ((S1.out.set 0 (.int .i64 O)).set 1 (.int .i64 V))
        have S4 := Lib.hid ((S2.out.other (a := ⟨g1, 0, none⟩) (by exact hne) (.int .i64 O)).other (a := ⟨g1, 1, none⟩) (by exact hne) (.int .i64 V))
        have HB3 := Lib.hid (((bTrans RB.out hb2.out).setCell (p := ⟨g1, 0, none⟩) (by exact h1) (.int .i64 O)).setCell (p := ⟨g1, 1, none⟩) (by exact h1) (.int .i64 V))
        refine hK.out _ _ (fun h => absurd h (by decide)) (fun hH2 => ?_)
        clear hK K hH2
        clear l1 p0 p1 l2 q0 q1 f0 f1 f2 f3 hb0 hb1 hb2 hq1 hq2 S1 S2 MK
        obtain ⟨w3, hw3⟩ : ∃ w3, w3 = (v2.setCell ⟨g1, 0, none⟩ (.int .i64 O)).setCell ⟨g1, 1, none⟩ (.int .i64 V) := ⟨_, rfl⟩
        rw [← hw3] at S3 S4 HB3 ⊢
        clear hw3
        obtain ⟨l2, q0, q1⟩ := S4.out.c2
        have f2 := S4.out.frozen 0
        have f3 := S4.out.frozen 1
        refine wpAnyT_one (i := 12) (by kernel_rfl) rfl (fun K hK => ?_)
        go_simp
        have S5 := Lib.hid ((S3.out.other (a := ⟨g2, 0, none⟩) (by exact fun h => hne h.symm) (.int .i64 (X + O * -D))).other (a := ⟨g2, 1, none⟩) (by exact fun h => hne h.symm) (.int .i64 (Y + V * -D)))
        have S6 := Lib.hid ((S4.out.set 0 (.int .i64 (X + O * -D))).set 1 (.int .i64 (Y + V * -D)))
        have HB4 := Lib.hid ((HB3.out.setCell (p := ⟨g2, 0, none⟩) (by exact h2) (.int .i64 (X + O * -D))).setCell (p := ⟨g2, 1, none⟩) (by exact h2) (.int .i64 (Y + V * -D)))
        refine hK.out _ _ (fun h => absurd h (by decide)) (fun hH2 => ?_)
        clear hK K hH2
        refine wpAnyT_done (by kernel_rfl) ?_ _
        (try go_simp)
        clear l2 q0 q1 f2 f3
        go_wp2_with fail
        go_roundg (8 - k)
        case measure => omega
        case rel => exact ⟨k + 1, O, V, X + O * -D, Y + V * -D, by omega, by omega, Lib.hid (by rw [HN.out]; unfold euNext; simp only [HD.out]), S5, S6, HB4⟩

end Go.Proofs.Ytflegojobchgdaa
