/-
  Euclid's way with two points that make the lattice, plain: by a table over all lattices. Nothing of the program.
-/
import Derived.Test.YtflegojobchgdaaM30
namespace Go.Proofs.Ytflegojobchgdaa
set_option linter.unusedVariables false
set_option linter.unusedSimpArgs false

structure Eu where
  sx : Int
  sy : Int
  ox : Int
  oy : Int
deriving DecidableEq

def euNext (s : Eu) : Eu := ⟨s.ox, s.oy, s.sx + s.ox * -(s.sy / s.oy), s.sy + s.oy * -(s.sy / s.oy)⟩

def euAt (A B : Int) : Nat → Eu
  | 0 => ⟨A, B, -B, A⟩
  | k + 1 => if (euAt A B k).oy = 0 then euAt A B k else euNext (euAt A B k)

def euOk (A B : Int) (k : Nat) (s : Eu) : Bool :=
  decide (-1000 ≤ s.sx) && decide (s.sx ≤ 1000) && decide (0 ≤ s.sy) && decide (s.sy ≤ 1000) && decide (-1000 ≤ s.ox) && decide (s.ox ≤ 1000) && decide (0 ≤ s.oy) && decide (s.oy ≤ 1000) &&
  (decide (s.oy ≠ 0) || (decide (s.sy = gI A B) && decide ((s.sx * A + s.sy * B) % areaI A B = 0) && decide ((s.sy * A - s.sx * B) % areaI A B = 0))) && (decide (s.oy = 0) || (decide (k < 9) && decide (0 ≤ s.sy / s.oy) && decide (s.sy / s.oy ≤ 1000) && decide (-1000 ≤ s.ox * -(s.sy / s.oy)) && decide (s.ox * -(s.sy / s.oy) ≤ 1000) && decide (-1000 ≤ s.oy * -(s.sy / s.oy)) && decide (s.oy * -(s.sy / s.oy) ≤ 1000)))

theorem eu_tab : ∀ A : Fin 13, ∀ B : Fin 13, ∀ k : Fin 10, 1 ≤ A.val → euOk A.val B.val k.val (euAt A.val B.val k.val) = true := by decide +kernel

theorem eu_at {A B n g w a b p q : Int} (L : Lat A B n g w a b p q) {k : Nat} (hk : k < 10) : euOk A B k (euAt A B k) = true := by
  have a1 := L.a1; have a2 := L.a2; have b1 := L.b1; have b2 := L.b2
  obtain ⟨x, rfl⟩ : ∃ x : Nat, A = x := ⟨A.toNat, by omega⟩
  obtain ⟨y, rfl⟩ : ∃ y : Nat, B = y := ⟨B.toNat, by omega⟩
  exact eu_tab ⟨x, by omega⟩ ⟨y, by omega⟩ ⟨k, hk⟩ (by simp only; omega)

theorem eu_bd {A B n g w a b p q : Int} (L : Lat A B n g w a b p q) {k : Nat} (hk : k < 10) {s : Eu} (hs : euAt A B k = s) :
    -1000 ≤ s.sx ∧ s.sx ≤ 1000 ∧ 0 ≤ s.sy ∧ s.sy ≤ 1000 ∧ -1000 ≤ s.ox ∧ s.ox ≤ 1000 ∧ 0 ≤ s.oy ∧ s.oy ≤ 1000 ∧ (s.oy = 0 → s.sy = g ∧ HasL A B s.sx g) ∧
    (s.oy ≠ 0 → k < 9 ∧ 0 ≤ s.sy / s.oy ∧ s.sy / s.oy ≤ 1000 ∧ -1000 ≤ s.ox * -(s.sy / s.oy) ∧ s.ox * -(s.sy / s.oy) ≤ 1000 ∧ -1000 ≤ s.oy * -(s.sy / s.oy) ∧ s.oy * -(s.sy / s.oy) ≤ 1000 ∧ euAt A B (k + 1) = euNext s) := by
  have h := eu_at L hk
  rw [hs] at h
  simp only [euOk, Bool.and_eq_true, Bool.or_eq_true, decide_eq_true_eq] at h
  obtain ⟨⟨⟨⟨⟨⟨⟨⟨⟨h1, h2⟩, h3⟩, h4⟩, h5⟩, h6⟩, h7⟩, h8⟩, h9⟩, h10⟩ := h
  refine ⟨h1, h2, h3, h4, h5, h6, h7, h8, fun e => ?_, fun e => ?_⟩
  · rcases h9 with h9 | ⟨⟨h9, h11⟩, h12⟩
    · exact absurd e h9
    · rw [L.hg] at h9
      rw [h9] at h11 h12
      exact ⟨h9, Int.dvd_of_emod_eq_zero h11, Int.dvd_of_emod_eq_zero h12⟩
  · rcases h10 with h10 | ⟨⟨⟨⟨⟨⟨h10, h11⟩, h12⟩, h13⟩, h14⟩, h15⟩, h16⟩
    · exact absurd h10 e
    · refine ⟨h10, h11, h12, h13, h14, h15, h16, ?_⟩
      rw [euAt, hs, if_neg e]

end Go.Proofs.Ytflegojobchgdaa
