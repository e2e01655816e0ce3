/-
  Chapter 8: the runs of a plate, as the law FnRuns calls for them.
-/
import Derived.Test.YtkjhpfgcmbigfaaW23
import Derived.Test.YtkjhpfgcmbigfaaW6
import Derived.Test.YtkjhpfgcmbigfaaW8
namespace Go.Proofs.Ytkjhpfgcmbigfaa
open Go.RowKit
set_option linter.unusedVariables false
set_option linter.unusedSimpArgs false

theorem le_isum {rs : List Int} (h : nnAll rs) : ∀ v, v ∈ rs → v ≤ isum rs := by
  induction rs with
  | nil => intro v hv; simp at hv
  | cons x rs ih =>
    intro v hv
    have h0 : 0 ≤ x := h x (by simp)
    have h1 : nnAll rs := fun u hu => h u (by simp [hu])
    have h2 := isum_nn h1
    have e : isum (x :: rs) = x + isum rs := rfl
    rcases List.mem_cons.1 hv with rfl | hv
    · omega
    · have := ih h1 v hv
      omega

theorem nn_within {rs : List Int} {m : Int} (h : nnAll rs) (hm : isum rs ≤ m) : within rs m = true := by
  unfold within
  rw [List.all_eq_true]
  intro v hv
  have h1 := h v hv
  have h2 := le_isum h v hv
  simp
  omega

theorem runs_len {xs : List Int} (hx : ∀ k, k < xs.length → xs.getD k 0 = 0 ∨ xs.getD k 0 = 1) : (runsG xs).length ≤ xs.length + 1 ∧ 1 ≤ (runsG xs).length := by
  obtain ⟨_, _, h3, h4⟩ := runsTo_inv hx xs.length (Nat.le_refl _)
  exact ⟨h3, h4⟩

theorem runs_head {rs xs : List Int} (h : runsOk rs = true) (e : spell 0 rs = xs) (h1 : 1 ≤ xs.length) : (rs.getD 0 0 = 0) = (xs.getD 0 0 = 1) := by
  cases rs with
  | nil => simp [runsOk] at h
  | cons r t =>
    obtain ⟨h0, ht⟩ := runsOk_cons h
    have e2 : spell 0 (r :: t) = List.replicate r.toNat 0 ++ spell (1 - 0) t := rfl
    by_cases hr : r = 0
    · subst hr
      have e3 : spell 0 (0 :: t) = spell 1 t := by rw [e2]; rfl
      rw [e3] at e
      cases t with
      | nil => rw [← e] at h1; simp [spell] at h1
      | cons s u =>
        have hs := ht s (by simp)
        have e4 : spell 1 (s :: u) = List.replicate s.toNat 1 ++ spell (1 - 1) u := rfl
        have e5 : s.toNat = (s.toNat - 1) + 1 := by omega
        rw [e4, e5, List.replicate_succ] at e
        rw [← e]
        simp
    · have e5 : r.toNat = (r.toNat - 1) + 1 := by omega
      rw [e2, e5, List.replicate_succ] at e
      rw [← e]
      simp [hr]

theorem runs_dots {rs xs : List Int} (h : nnAll rs) (e : spell 0 rs = xs) : sumJ (fun j => rs.getD j 0 * ((j : Int) % 2)) rs.length = isum xs := by
  rw [← e, spell_sum 0 (.inl rfl) rs h]
  refine sumJ_congr (fun j hj => ?_)
  unfold colR
  by_cases h2 : j % 2 = 0
  · rw [if_pos h2, show ((j : Int) % 2) = 0 by omega]
  · rw [if_neg h2, show ((j : Int) % 2) = 1 by omega]
    omega

theorem runs_call (W H : Int) (a : Option Addr) (n c : Nat) (xs rs : List Int) (w : World) (hl : xs.length = n) (ha : Rd w a xs) (hn : n ≤ 9223372036854775807) (hp : picOk W H xs 1 = true) (hr : runsG xs = rs) :
    Calls Try.prog 30 #[.agg #[.int .i64 W, .int .i64 H, .slice a n c]] w fun e w' => ∃ (b : Option Addr) (r k : Nat), e = .returned (.slice b r k) ∧ rs.length = r ∧ OwnA w' w.heap.size b r k rs ∧ Below w.heap.size w w' := by
  refine (impl_RunsOf W H a n c xs w hl ha hn).mono ?_
  have e1 : runsF W H xs = rs := by unfold runsF; rw [if_pos hp, hr]
  rw [e1]
  rintro e w' ⟨b, r, k, he, ho, hm, hb⟩
  exact ⟨b, r, k, he, ho.len, ho, hb⟩

theorem por_call (W H : Int) (a : Option Addr) (n c : Nat) (rs xs : List Int) (m : Nat) (w : World) (hn : rs.length = n) (ha : Rd w a rs) (hl : n ≤ 1048576) (h : porF W H rs = (⟨W, H, xs⟩, true)) (hm : xs.length = m) :
    Calls Try.prog 31 #[.int .i64 W, .int .i64 H, .slice a n c] w fun e w' => ∃ (b : Option Addr) (k : Nat), e = .returned (.tuple #[.agg #[.int .i64 W, .int .i64 H, .slice b m k], .bool true]) ∧ OwnA w' w.heap.size b m k xs ∧ Below w.heap.size w w' := by
  refine (impl_PlateOfRuns W H a n c rs w hn ha hl).mono ?_
  rw [h]
  rintro e w' ⟨b, r, k, he, ho, hq, hb⟩
  have hmn : r = m := by have := ho.len; exact this.symm.trans hm
  subst hmn
  exact ⟨b, k, he, ho, hb⟩

theorem porno_call (W H : Int) (a : Option Addr) (n c : Nat) (rs : List Int) (w : World) (hn : rs.length = n) (ha : Rd w a rs) (hl : n ≤ 1048576) (h : isum rs ≠ W * H) :
    Calls Try.prog 31 #[.int .i64 W, .int .i64 H, .slice a n c] w fun e w' => ∃ (b : Option Addr) (r k : Nat), e = .returned (.tuple #[.agg #[.int .i64 0, .int .i64 0, .slice b r k], .bool false]) ∧ Below w.heap.size w w' := by
  refine (impl_PlateOfRuns W H a n c rs w hn ha hl).mono ?_
  rw [por_no (fun _ _ h3 => h h3)]
  rintro e w' ⟨b, r, k, he, ho, hq, hb⟩
  exact ⟨b, r, k, he, hb⟩

end Go.Proofs.Ytkjhpfgcmbigfaa
