/-
  Contracts of chapter 6: sequences by an order, places in them.
-/
import Derived.Test.YtflegojobchgdaaS5
import Derived.Test.YtflegojobchgdaaM35
import Derived.Test.YtflegojobchgdaaN8
import Derived.Deep.RegionWith
namespace Go.Proofs.Ytflegojobchgdaa
open Go.RowKit
set_option linter.unusedVariables false
set_option linter.unusedSimpArgs false

set_option maxHeartbeats 400000 in
theorem isNaN5 (x : Int) (w : World) :
    Calls Try.prog 62 #[.int .i64 x] w fun e w' => e = .returned (.bool false) ∧ w = w' := by
  have h : (x != x) = false := by simp
  go_enter Try.func62, Try.ntmps62
  go_wp2_with fail
  go_ret
  exact ⟨rfl, rfl⟩

set_option maxHeartbeats 800000 in
theorem cmp5 (x y : Int) (w : World) :
    Calls Try.prog 47 #[.int .i64 x, .int .i64 y] w fun e w' => ∃ c : Int, e = .returned (.int .i64 c) ∧ (c < 0 ↔ x < y) ∧ w = w' := by
  go_enter Try.func47, Try.ntmps47
  go_wp2_with fail
  refine (isNaN5 _ _).mono ?_
  rintro e w1 ⟨rfl, rfl⟩
  go_wp2_with fail
  refine (isNaN5 _ _).mono ?_
  rintro e w1 ⟨rfl, rfl⟩
  by_cases h1 : x < y
  · go_wp2_with fail
    go_ret
    exact ⟨-1, rfl, by constructor <;> intro <;> omega, rfl⟩
  · by_cases h2 : y < x
    · go_wp2_with fail
      go_ret
      exact ⟨1, rfl, by constructor <;> intro <;> omega, rfl⟩
    · go_wp2_with fail
      go_ret
      exact ⟨0, rfl, by constructor <;> intro <;> omega, rfl⟩

set_option maxRecDepth 100000 in
set_option maxHeartbeats 1600000 in
/-- The order of names by their distances: a closure that has captured the lattice. -/
theorem nearOrd {A B n g d a b p q : Int} (L : Lat A B n g d a b p q) (x y u v : Int) (bl : Nat) (w : World) (hb : bl < w.heap.size) (c0 : w.cell? ⟨bl, 0, none⟩ = some (.int .i64 A)) (c1 : w.cell? ⟨bl, 1, none⟩ = some (.int .i64 B)) :
    Calls Try.prog 64 #[.agg #[.int .i64 x, .int .i64 y], .agg #[.int .i64 u, .int .i64 v], .pointer (some ⟨bl, 0, none⟩)] w fun e w' => ∃ c : Int, e = .returned (.int .i64 c) ∧ (c < 0 ↔ nearF A B x y < nearF A B u v) ∧ Below w.heap.size w w' := by
  obtain ⟨R1, hR1⟩ : ∃ R, nearF A B x y = R := ⟨_, rfl⟩
  obtain ⟨R2, hR2⟩ : ∃ R, nearF A B u v = R := ⟨_, rfl⟩
  have HL := Lib.hid L
  have H1 := Lib.hid hR1
  have H2 := Lib.hid hR2
  rw [hR1, hR2]
  clear L hR1 hR2
  go_enter Try.func64, Try.ntmps64
  go_wp2_with fail
  have KX := Lib.hid ((Blk.new w 56 #[.int .i64 x, .int .i64 y]).alloc (.cells #[.int .i64 u, .int .i64 v] 56))
  have KU := Lib.hid (Blk.new' (g := w.heap.size + 1) (w := w.alloc (.cells #[.int .i64 x, .int .i64 y] 56)) 56 #[.int .i64 u, .int .i64 v] (by simp))
  have HBo := Lib.hid (Joins.below_alloc2 w (.cells #[.int .i64 x, .int .i64 y] 56) (.cells #[.int .i64 u, .int .i64 v] 56))
  obtain ⟨wo, hwo⟩ : ∃ wo : World, wo = (w.alloc (.cells #[.int .i64 x, .int .i64 y] 56)).alloc (.cells #[.int .i64 u, .int .i64 v] 56) := ⟨_, rfl⟩
  rw [← hwo] at KX KU HBo ⊢
  have l0 : wo.cell? ⟨bl, 0, none⟩ = some (.int .i64 A) := (HBo.out.cell (p := ⟨bl, 0, none⟩) hb).trans c0
  have l1 : wo.cell? ⟨bl, 1, none⟩ = some (.int .i64 B) := (HBo.out.cell (p := ⟨bl, 1, none⟩) hb).trans c1
  have lz : bl < wo.heap.size := Nat.lt_of_lt_of_le hb HBo.out.size
  clear hwo c0 c1 hb
  obtain ⟨z1, x0, x1⟩ := KX.out.c2
  obtain ⟨z2, u0, u1⟩ := KU.out.c2
  have MK : Hid (∀ t, BelowL wo t → t.cell? ⟨bl, 0, none⟩ = some (.int .i64 A) ∧ t.cell? ⟨bl, 1, none⟩ = some (.int .i64 B) ∧ t.cell? ⟨w.heap.size, 0, none⟩ = some (.int .i64 x) ∧ t.cell? ⟨w.heap.size, 1, none⟩ = some (.int .i64 y) ∧ t.cell? ⟨w.heap.size + 1, 0, none⟩ = some (.int .i64 u) ∧ t.cell? ⟨w.heap.size + 1, 1, none⟩ = some (.int .i64 v) ∧ BelowL wo t) := Lib.hid (fun t h => ⟨(h.out.cell lz).trans l0, (h.out.cell lz).trans l1, (h.out.cell z1).trans x0, (h.out.cell z1).trans x1, (h.out.cell z2).trans u0, (h.out.cell z2).trans u1, h⟩)
  go_region_held3 (fun t => t.cell? ⟨bl, 0, none⟩ = some (.int .i64 A) ∧ t.cell? ⟨bl, 1, none⟩ = some (.int .i64 B) ∧ t.cell? ⟨w.heap.size, 0, none⟩ = some (.int .i64 x) ∧ t.cell? ⟨w.heap.size, 1, none⟩ = some (.int .i64 y) ∧ t.cell? ⟨w.heap.size + 1, 0, none⟩ = some (.int .i64 u) ∧ t.cell? ⟨w.heap.size + 1, 1, none⟩ = some (.int .i64 v) ∧ BelowL wo t)
    (first | exact MK.out _ hb3 | exact MK.out _ hb2 | exact MK.out _ hb1 | exact MK.out _ (BelowL.start _))
    (first
      | (go_at_call_of 34 (Value.int IntKind.i64 x); ((with_reducible refine (impl_nearSquare HL.out x y _ H1.out _).mono ?_); rintro e v1 ⟨rfl, hq1⟩; have hb1 := BelowL.call (limb7 (by assumption)) hq1))
      | (go_at_call_of 34 (Value.int IntKind.i64 u); ((with_reducible refine (impl_nearSquare HL.out u v _ H2.out _).mono ?_); rintro e v2 ⟨rfl, hq2⟩; have hb2 := BelowL.call (limb7 (by assumption)) hq2))
      | (go_at_call 47; ((with_reducible refine (cmp5 _ _ _).mono ?_); rintro e v3 ⟨c, rfl, hc, rfl⟩; have hb3 := limb7 (by assumption))))
  have HC := Lib.hid hc
  have HBF := Lib.hid (bTrans HBo.out hb3.out)
  clear hc hb1 hb2 hb3 MK
  go_wp2_with fail
  go_ret
  exact ⟨c, rfl, HC.out, HBF.out⟩

end Go.Proofs.Ytflegojobchgdaa
