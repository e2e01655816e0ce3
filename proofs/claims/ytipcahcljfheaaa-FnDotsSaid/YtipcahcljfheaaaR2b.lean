/-
  Contracts of the model's draws: pictures, plates, plates of a size.
-/
import Derived.Test.YtipcahcljfheaaaR1b
import Derived.Test.YtipcahcljfheaaaD6b
import Derived.Test.YtipcahcljfheaaaC3
namespace Go.Proofs.Ytipcahcljfheaaa
open Go.RowKit
set_option linter.unusedVariables false
set_option linter.unusedSimpArgs false

theorem within_set {xs : List Int} {m : Int} (h : within xs m = true) (k : Nat) (v : Int) (h0 : 0 ≤ v) (h1 : v ≤ m) : within (xs.set k v) m = true := by
  unfold within at h ⊢
  rw [List.all_eq_true] at h ⊢
  intro x hx
  rcases List.mem_or_eq_of_mem_set hx with h2 | h2
  · exact h x h2
  · subst h2; simp [h0, h1]

theorem within_zero (n : Nat) (m : Int) (h : 0 ≤ m) : within (List.replicate n 0) m = true := by
  unfold within
  rw [List.all_eq_true]
  intro x hx
  rw [List.mem_replicate] at hx
  rw [hx.2]; simp [h]

theorem grown_setNew {a b : World} {row : Option Nat} {p : Addr} (h : a.grownBy b row) (hp : a.heap.size ≤ p.block) (u : Value) : a.grownBy (b.setCell p u) row :=
  ⟨h.os, h.tape, h.output, by have := h.size; simp [World.setCell]; omega, fun i hi hr => (Below.heap_setCell b p u i (by omega)).trans (h.block i hi hr)⟩

theorem grown_bel {a b c : World} {row : Option Nat} (h : a.grownBy b row) (hb : Below b.heap.size b c) : a.grownBy c row := grown_trans h (grown_of_below hb)

theorem grown_to_below {w w1 w2 : World} {c : Nat} (h : Below w.heap.size w w1) (hg : w1.grownBy w2 (some c)) (hc : w.heap.size ≤ c) : Below w.heap.size w w2 :=
  h.grown hg h.size (fun k hk => by cases hk; exact hc)

theorem sizeOk_small {W H m : Int} (h1 : 1 ≤ W) (h2 : W ≤ m) (h3 : 1 ≤ H) (h4 : H ≤ m) (hm : m ≤ 16) : sizeOk W H = true := by
  have e : W * H ≤ 16 * 16 := Int.mul_le_mul (by omega) (by omega) (by omega) (by omega)
  unfold sizeOk
  rw [decide_eq_true_iff]
  omega

/-- A new picture is handed back by a function that moves the cursor c. -/
def DrawOut (w : World) (c : Nat) (ac : Option Addr) (nc capc : Nat) (bs : List Int) (most ink : Int) (e : Ending) (w' : World) : Prop :=
  ∃ (W H : Int) (g n : Nat) (xs : List Int), e = .returned (.agg #[.int .i64 W, .int .i64 H, .slice (some ⟨g, 0, none⟩) n n]) ∧ 1 ≤ W ∧ W ≤ most ∧ 1 ≤ H ∧ H ≤ most ∧ (n : Int) = W * H ∧ w.heap.size ≤ g ∧ Own w' g n n xs ∧ within xs ink = true ∧ Cur w' c ac nc capc bs ∧ w.grownBy w' (some c)

theorem rd_lit6 (w : World) (a b c d e f : Int) (T : Nat) : Rd (w.alloc (.cells #[.int .i64 a, .int .i64 b, .int .i64 c, .int .i64 d, .int .i64 e, .int .i64 f] T)) (some ⟨w.heap.size, 0, none⟩) [a, b, c, d, e, f] := by
  intro k hk
  refine ⟨w.heap.size, 0, rfl, by simp, ?_⟩
  rw [Nat.zero_add, (Blk.new w T _).cell k]
  match k, hk with
  | 0, _ => rfl
  | 1, _ => rfl
  | 2, _ => rfl
  | 3, _ => rfl
  | 4, _ => rfl
  | 5, _ => rfl

theorem ramp_bd' {W d : Int} {k : Nat} (hW : 1 ≤ W) (hd : 1 ≤ d) (hd2 : W - 1 ≤ d) : 0 ≤ (k : Int) % W * 255 / d ∧ (k : Int) % W * 255 / d ≤ 255 := by
  have e1 : 0 ≤ (k : Int) % W := Int.emod_nonneg _ (by omega)
  have e2 : (k : Int) % W < W := Int.emod_lt_of_pos _ (by omega)
  constructor
  · exact Int.ediv_nonneg (by omega) (by omega)
  · have : (k : Int) % W * 255 / d < 256 := Int.ediv_lt_of_lt_mul (by omega) (by omega)
    omega

/-- A new picture is handed back. -/
def MakeOut (w : World) (most ink : Int) (e : Ending) (w' : World) : Prop :=
  ∃ (W H : Int) (g n : Nat) (xs : List Int), e = .returned (.agg #[.int .i64 W, .int .i64 H, .slice (some ⟨g, 0, none⟩) n n]) ∧ 1 ≤ W ∧ W ≤ most ∧ 1 ≤ H ∧ H ≤ most ∧ (n : Int) = W * H ∧ w.heap.size ≤ g ∧ Own w' g n n xs ∧ within xs ink = true ∧ Below w.heap.size w w'

end Go.Proofs.Ytipcahcljfheaaa
