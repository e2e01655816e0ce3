/-
  Contracts of chapter 5: WeightOf of the program, the two kernels; the laws' own helpers over lists of parts.
-/
import Derived.Test.YtepaklcobkdfdaaK3
import Derived.Deep.QuietTactic
namespace Go.Proofs.Ytepaklcobkdfdaa
open Go.RowKit
set_option linter.unusedVariables false
set_option linter.unusedSimpArgs false

set_option maxHeartbeats 800000 in
theorem impl_WeightOf (ad : Option Addr) (n cap : Nat) (ks : List Prt) (w : World) (hn : ks.length = n) (ha : Rd w ad (flat ks)) (hl : n ≤ 1048576) (hcap : n ≤ cap) :
    Calls Try.prog 14 #[.slice ad n cap] w fun e w' => e = .returned (.int .i64 (weightF ks)) ∧ Below w.heap.size w w' := by
  have HN := Lib.hid hn
  have HA := Lib.hid ha
  clear hn ha
  by_cases hp : kernOk ks = true
  case neg =>
    rw [weightF_no hp]
    have hp2 : kernOk ks = false := by simpa using hp
    clear hp
    go_enter Try.func14, Try.ntmps14
    go_wp2_with fail
    refine (impl_IsKernel _ _ _ ks _ HN.out (by exact HA.out) hl hcap).mono ?_
    rintro e w1 ⟨rfl, hb⟩
    rw [hp2]
    have HB := Lib.hid hb
    clear hb
    go_wp2_with fail
    go_ret
    exact ⟨rfl, HB.out⟩
  case pos =>
    rw [weightF_yes HN.out hp]
    obtain ⟨k1, k2, k3⟩ := kernOk_bd HN.out hp
    have HK := Lib.hid k3
    clear k3
    go_enter Try.func14, Try.ntmps14
    go_wp2_with fail
    refine (impl_IsKernel _ _ _ ks _ HN.out (by exact HA.out) hl hcap).mono ?_
    rintro e w1 ⟨rfl, hb⟩
    rw [hp]
    have HB := Lib.hid hb
    have HA1 := Lib.hid (HA.out.below hb)
    clear hb HA
    go_wp2_with fail
    go_loopw [3, 11] (fun s i wr => ∃ k : Nat, k ≤ n ∧ i = .int .i64 k ∧ s = .int .i64 (wtTo ks k) ∧ Below w1.heap.size w1 wr) (fun _ i _ => n - (intOf i).toNat)
    case atStart => exact ⟨0, Nat.zero_le _, rfl, rfl, Below.refl _ _⟩
    case round =>
      obtain ⟨k, hk, rfl, rfl, hwr⟩ := hrel
      obtain ⟨s1, s2⟩ := wtTo_bd HK.out k hk
      have HW := Lib.hid hwr
      by_cases hlt : k < n
      · obtain ⟨ba, oa, hae, hal, c0, c1, c2⟩ := rd_part (HA1.out.below hwr) (k := k) (by have := HN.out; omega)
        subst hae
        obtain ⟨p, hp⟩ : ∃ p, prt ks k = p := ⟨_, rfl⟩
        have p1 := partOk_bd (kern_part HK.out hlt).1
        have e1 : wtTo ks (k + 1) = wtTo ks k + (prt ks k).wt := rfl
        rw [hp] at c0 c1 c2 p1 e1
        obtain ⟨X, Y, T⟩ := p
        dsimp only at c0 c1 c2 p1 e1
        obtain ⟨_, _, _, _, _, t1, t2⟩ := p1
        have HE := Lib.hid e1
        clear hp hwr e1
        go_wp2_with fail
        go_roundw
        case rel => exact ⟨k + 1, by omega, by go_num, by rw [HE.out], bAlloc HW.out _⟩
        case measure => simp [intOf]; omega
      · obtain rfl : n = k := by omega
        go_wp2_with fail
        go_ret
        exact ⟨rfl, bTrans HB.out HW.out⟩

def steinK : List Prt := [⟨1, 0, 7⟩, ⟨-1, 1, 3⟩, ⟨0, 1, 5⟩, ⟨1, 1, 1⟩]
def plainK : List Prt := [⟨1, 0, 1⟩]

theorem rowT_new {w : World} {T sz n : Nat} {M : Array Value} {xs : List Int} (h1 : xs.length = n * sz) (h2 : M.toList = xs.map (Value.int .i64)) (hn : n ≤ maxLen) : RowT (w.alloc (.cells M T)) T sz w.heap.size n n xs :=
  ⟨h1, M, heap_alloc_new w _, Nat.le_refl _, hn, by have := congrArg List.length h2; simpa [h1] using this, by rw [h2, List.take_of_length_le (by simp [h1])]⟩

set_option maxHeartbeats 400000 in
theorem spec_SteinKernel (w : World) : Calls Try.prog 68 #[] w fun e w' => ∃ g, e = .returned (.slice (some ⟨g, 0, none⟩) 4 4) ∧ w.heap.size ≤ g ∧ RowT w' 31 3 g 4 4 (flat steinK) ∧ Below w.heap.size w w' := by
  go_enter Try.func68, Try.ntmps68
  go_wp2_with fail
  go_ret
  exact ⟨_, rfl, Nat.le_refl _, rowT_new rfl rfl (by decide), Joins.below_alloc1 _ _⟩
set_option maxHeartbeats 400000 in
theorem impl_SteinKernel (w : World) : Calls Try.prog 31 #[] w fun e w' => ∃ g, e = .returned (.slice (some ⟨g, 0, none⟩) 4 4) ∧ w.heap.size ≤ g ∧ RowT w' 31 3 g 4 4 (flat steinK) ∧ Below w.heap.size w w' := by
  go_enter Try.func31, Try.ntmps31
  go_wp2_with fail
  go_ret
  exact ⟨_, rfl, Nat.le_refl _, rowT_new rfl rfl (by decide), Joins.below_alloc1 _ _⟩

set_option maxHeartbeats 400000 in
theorem spec_PlainKernel (w : World) : Calls Try.prog 69 #[] w fun e w' => ∃ g, e = .returned (.slice (some ⟨g, 0, none⟩) 1 1) ∧ w.heap.size ≤ g ∧ RowT w' 31 3 g 1 1 (flat plainK) ∧ Below w.heap.size w w' := by
  go_enter Try.func69, Try.ntmps69
  go_wp2_with fail
  go_ret
  exact ⟨_, rfl, Nat.le_refl _, rowT_new rfl rfl (by decide), Joins.below_alloc1 _ _⟩
set_option maxHeartbeats 400000 in
theorem impl_PlainKernel (w : World) : Calls Try.prog 44 #[] w fun e w' => ∃ g, e = .returned (.slice (some ⟨g, 0, none⟩) 1 1) ∧ w.heap.size ≤ g ∧ RowT w' 31 3 g 1 1 (flat plainK) ∧ Below w.heap.size w w' := by
  go_enter Try.func44, Try.ntmps44
  go_wp2_with fail
  go_ret
  exact ⟨_, rfl, Nat.le_refl _, rowT_new rfl rfl (by decide), Joins.below_alloc1 _ _⟩

/-! The laws' helpers. -/

theorem filled3 (ys xs : List Int) (k : Nat) (a b c : Int) (hk : k * 3 + 2 < ys.length) (hx : k * 3 + 2 < xs.length) (h0 : ys.getD (k * 3) 0 = a) (h1 : ys.getD (k * 3 + 1) 0 = b) (h2 : ys.getD (k * 3 + 2) 0 = c) :
    (((filled ys xs (k * 3)).set (k * 3) a).set (k * 3 + 1) b).set (k * 3 + 2) c = filled ys xs ((k + 1) * 3) := by
  rw [filled_succ ys xs (k * 3) a (by omega) (by omega) h0, filled_succ ys xs (k * 3 + 1) b (by omega) (by omega) h1, filled_succ ys xs (k * 3 + 2) c (by omega) (by omega) h2]
  congr 1; omega

theorem flat_at' (ks : List Prt) (k : Nat) (h : k < ks.length) : (flat ks).getD (k * 3) 0 = (prt ks k).dx ∧ (flat ks).getD (k * 3 + 1) 0 = (prt ks k).dy ∧ (flat ks).getD (k * 3 + 2) 0 = (prt ks k).wt := by
  have := flat_at ks k h
  rw [Nat.mul_comm 3 k] at this
  exact this

end Go.Proofs.Ytepaklcobkdfdaa
