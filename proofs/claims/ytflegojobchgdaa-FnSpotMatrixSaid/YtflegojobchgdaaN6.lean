/-
  Contracts of chapter 6: NameOf and TurnName of the model; places; NearOf's and TurnName's results said.
-/
import Derived.Test.YtflegojobchgdaaN5
namespace Go.Proofs.Ytflegojobchgdaa
open Go.RowKit
set_option linter.unusedVariables false
set_option linter.unusedSimpArgs false

def PlaceP (x y : Int) : Prop := -100000 ≤ x ∧ x ≤ 100000 ∧ -100000 ≤ y ∧ y ≤ 100000

/-- What NameOf answers. -/
def NameR (A B x y R : Int) : Prop := (latOk A B = true ∧ PlaceP x y ∧ IsName A B x y R) ∨ (¬ (latOk A B = true ∧ PlaceP x y) ∧ R = -1)

theorem nameR_ex (A B x y : Int) : ∃ R, NameR A B x y R := by
  by_cases h : latOk A B = true ∧ PlaceP x y
  · obtain ⟨n, g, d, a, b, p, q, L⟩ := lat_of h.1
    obtain ⟨K, hK⟩ := L.name_ex x y
    exact ⟨K, Or.inl ⟨h.1, h.2, hK⟩⟩
  · exact ⟨-1, Or.inr ⟨h, rfl⟩⟩

/-- What TurnName answers. -/
def TurnR (A B K R : Int) : Prop := (latOk A B = true ∧ (0 ≤ K ∧ K < areaI A B) ∧ IsName A B (-(K / perI A B)) (K % perI A B) R) ∨ (¬ (latOk A B = true ∧ 0 ≤ K ∧ K < areaI A B) ∧ R = -1)

theorem turnR_ex (A B K : Int) : ∃ R, TurnR A B K R := by
  by_cases h : latOk A B = true ∧ 0 ≤ K ∧ K < areaI A B
  · obtain ⟨n, g, d, a, b, p, q, L⟩ := lat_of h.1
    obtain ⟨R, hR⟩ := L.name_ex (-(K / perI A B)) (K % perI A B)
    exact ⟨R, Or.inl ⟨h.1, h.2, hR⟩⟩
  · exact ⟨-1, Or.inr ⟨h, rfl⟩⟩

/-- What NearOf answers. -/
def NearR (A B K R : Int) : Prop := (latOk A B = true ∧ (0 ≤ K ∧ K < areaI A B) ∧ nearF A B (K % perI A B) (K / perI A B) = R) ∨ (¬ (latOk A B = true ∧ 0 ≤ K ∧ K < areaI A B) ∧ R = -1)

theorem nearR_ex (A B K : Int) : ∃ R, NearR A B K R := by
  by_cases h : latOk A B = true ∧ 0 ≤ K ∧ K < areaI A B
  · exact ⟨_, Or.inl ⟨h.1, h.2, rfl⟩⟩
  · exact ⟨-1, Or.inr ⟨h, rfl⟩⟩

set_option maxHeartbeats 400000 in
theorem impl_isPlace (x : Int) (w : World) :
    Calls Try.prog 31 #[.int .i64 x] w fun e w' => e = .returned (.bool (decide (-100000 ≤ x ∧ x ≤ 100000))) ∧ w = w' := by
  go_enter Try.func31, Try.ntmps31
  go_wp2
  all_goals (go_ret; exact ⟨ret_bool (by first | (simp [*]; done) | (simp [*]; omega) | (simp; intros; omega)), rfl⟩)

theorem turn_bd {A B n g d a b p q K : Int} (L : Lat A B n g d a b p q) (h0 : 0 ≤ K) (h1 : K < n) : PlaceP (-(K / d)) (K % d) := by
  obtain ⟨a0, a1, a2, a3, _, _⟩ := div5 L h0 h1
  exact ⟨by omega, by omega, by omega, by omega⟩

end Go.Proofs.Ytflegojobchgdaa
