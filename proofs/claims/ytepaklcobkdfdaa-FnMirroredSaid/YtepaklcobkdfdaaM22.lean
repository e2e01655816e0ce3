/-
  Diffusion as plain mathematics: the walk's places, shares that are given, bounds, what is kept. Nothing of the program.
-/
import Derived.Test.YtepaklcobkdfdaaM21
namespace Go.Proofs.Ytepaklcobkdfdaa
set_option linter.unusedVariables false
set_option linter.unusedSimpArgs false

/-! The walk over the places. -/

def wayAt (alt : Bool) (y : Int) : Int := if alt = true ∧ y % 2 = 1 then -1 else 1
def xAt (alt : Bool) (W : Int) (i : Nat) : Int := if alt = true ∧ (i : Int) / W % 2 = 1 then W - 1 - (i : Int) % W else (i : Int) % W
def posAt (alt : Bool) (W : Int) (i : Nat) : Nat := ((i : Int) / W * W + xAt alt W i).toNat

theorem xAt_bd {alt : Bool} {W : Int} {i : Nat} (hW : 1 ≤ W) : 0 ≤ xAt alt W i ∧ xAt alt W i < W := by
  have h1 := Int.emod_nonneg (i : Int) (show W ≠ 0 by omega)
  have h2 := Int.emod_lt_of_pos (i : Int) (show 0 < W by omega)
  unfold xAt
  split <;> omega

theorem posAt_at {alt : Bool} {W H : Int} {n i : Nat} (hW : 1 ≤ W) (hn : (n : Int) = W * H) (hi : i < n) :
    posAt alt W i < n ∧ ((posAt alt W i : Nat) : Int) = (i : Int) / W * W + xAt alt W i ∧ 0 ≤ (i : Int) / W ∧ (i : Int) / W < H ∧ ((posAt alt W i : Nat) : Int) / W = (i : Int) / W ∧ ((posAt alt W i : Nat) : Int) % W = xAt alt W i := by
  obtain ⟨x, y, h1, h2, h3, h4, h5, h6, h7⟩ := split_dm (i := (i : Int)) (W := W) (H := H) hW (by omega) (by omega)
  obtain ⟨b1, b2⟩ := xAt_bd (alt := alt) (i := i) hW
  obtain ⟨r1, r2⟩ := row_bd b1 b2 h3 h4
  have e : ((posAt alt W i : Nat) : Int) = (i : Int) / W * W + xAt alt W i := by
    unfold posAt
    rw [h7]
    omega
  obtain ⟨d1, d2⟩ := join_dm (q := (i : Int) / W) b1 b2
  refine ⟨by rw [h7] at e; omega, e, by omega, by omega, by rw [e]; exact d1, by rw [e]; exact d2⟩

theorem posAt_inv {alt : Bool} {W H : Int} {n i : Nat} (hW : 1 ≤ W) (hn : (n : Int) = W * H) (hi : i < n) : posAt alt W (posAt alt W i) = i := by
  obtain ⟨h1, h2, h3, h4, h5, h6⟩ := posAt_at (alt := alt) hW hn hi
  have e : ((posAt alt W (posAt alt W i) : Nat) : Int) = i := by
    have := (posAt_at (alt := alt) hW hn h1).2.1
    rw [this, h5]
    have a := Int.emod_add_mul_ediv (i : Int) W
    have c : xAt alt W (posAt alt W i) = (i : Int) % W := by
      unfold xAt
      rw [h5, h6]
      unfold xAt
      split <;> omega
    rw [c, Int.mul_comm]
    omega
  omega

theorem posAt_inj {alt : Bool} {W H : Int} {n i k : Nat} (hW : 1 ≤ W) (hn : (n : Int) = W * H) (hi : i < n) (hk : k < n) (h : posAt alt W i = posAt alt W k) : i = k := by
  rw [← posAt_inv (alt := alt) hW hn hi, ← posAt_inv (alt := alt) hW hn hk, h]

/-! Where a share goes. -/

def tgt (W H x y way : Int) (p : Prt) : Option Nat := if 0 ≤ x + way * p.dx ∧ x + way * p.dx < W ∧ 0 ≤ y + p.dy ∧ y + p.dy < H then some ((y + p.dy) * W + (x + way * p.dx)).toNat else none
/-- The place of the part p for the walk's step i. -/
def tgtAt (alt : Bool) (W H : Int) (i : Nat) (p : Prt) : Option Nat := tgt W H (xAt alt W i) ((i : Int) / W) (wayAt alt ((i : Int) / W)) p

theorem tgt_later {alt : Bool} {W H : Int} {n i j : Nat} {p : Prt} (hW : 1 ≤ W) (hn : (n : Int) = W * H) (hi : i < n) (hp : partOk p = true) (h : tgtAt alt W H i p = some j) : ∃ k, i < k ∧ k < n ∧ j = posAt alt W k := by
  obtain ⟨p1, p2, p3, p4, p5, p6, p7⟩ := partOk_bd hp
  unfold tgtAt tgt at h
  split at h
  case isFalse => cases h
  case isTrue c =>
  obtain ⟨c1, c2, c3, c4⟩ := c
  obtain ⟨q1, q2, q3, q4, q5, q6⟩ := posAt_at (alt := alt) hW hn hi
  obtain ⟨r1, r2⟩ := row_bd c1 c2 c3 c4
  have hj : (j : Int) = ((i : Int) / W + p.dy) * W + (xAt alt W i + wayAt alt ((i : Int) / W) * p.dx) := by
    have := Option.some.inj h
    omega
  have hjn : j < n := by omega
  obtain ⟨d1, d2⟩ := join_dm (q := (i : Int) / W + p.dy) c1 c2
  rw [← hj] at d1 d2
  obtain ⟨k1, k2, k3, k4, k5, k6⟩ := posAt_at (alt := alt) hW hn hjn
  refine ⟨posAt alt W j, ?_, k1, (posAt_inv (alt := alt) hW hn hjn).symm⟩
  have a := Int.emod_add_mul_ediv (i : Int) W
  have b1 := Int.emod_nonneg (i : Int) (show W ≠ 0 by omega)
  have b2 := Int.emod_lt_of_pos (i : Int) (show 0 < W by omega)
  by_cases hy : p.dy = 0
  · have hx := p5 hy
    have e2 : xAt alt W j = (i : Int) % W + p.dx := by
      unfold xAt
      rw [d1, d2, hy]
      unfold xAt wayAt
      simp only [Int.add_zero]
      split <;> omega
    rw [d1, hy, e2] at k2
    simp only [Int.add_zero] at k2
    rw [Int.mul_comm] at k2
    omega
  · obtain ⟨x1, x2⟩ := xAt_bd (alt := alt) (W := W) (i := j) hW
    rw [d1] at k2
    have m := Int.mul_le_mul_of_nonneg_right (show (i : Int) / W + 1 ≤ (i : Int) / W + p.dy by omega) (show 0 ≤ W by omega)
    rw [Int.add_mul ((i : Int) / W) 1 W, Int.one_mul] at m
    rw [Int.mul_comm] at a
    omega

/-! Sums. -/

theorem isum_set (xs : List Int) (j : Nat) (v : Int) (h : j < xs.length) : isum (xs.set j v) = isum xs - xs.getD j 0 + v := by
  induction xs generalizing j with
  | nil => simp at h
  | cons x xs ih =>
    cases j with
    | zero => simp [isum]; omega
    | succ j =>
      have := ih j (by simpa using h)
      simp only [List.set_cons_succ, isum, this]
      simp
      omega

def asum (xs : List Int) : Int := isum (xs.map (fun v => (v.natAbs : Int)))

theorem asum_set (xs : List Int) (j : Nat) (v : Int) (h : j < xs.length) : asum (xs.set j v) = asum xs - ((xs.getD j 0).natAbs : Int) + (v.natAbs : Int) := by
  unfold asum
  rw [List.map_set, isum_set _ _ _ (by simpa using h)]
  simp [List.getD, h]

theorem isum_nonneg {xs : List Int} (h : ∀ x ∈ xs, 0 ≤ x) : 0 ≤ isum xs := by
  induction xs with
  | nil => simp [isum]
  | cons x xs ih =>
    have h1 := h x (by simp)
    have h2 := ih (fun y hy => h y (by simp [hy]))
    simp only [isum]; omega

theorem isum_mem {xs : List Int} (h : ∀ x ∈ xs, 0 ≤ x) {x : Int} (hx : x ∈ xs) : x ≤ isum xs := by
  induction xs with
  | nil => simp at hx
  | cons y xs ih =>
    have h1 := h y (by simp)
    have h2 := isum_nonneg (xs := xs) (fun y hy => h y (by simp [hy]))
    simp only [isum]
    rcases List.mem_cons.1 hx with rfl | hx
    · omega
    · have := ih (fun y hy => h y (by simp [hy])) hx; omega

theorem asum_at (xs : List Int) (j : Nat) : ((xs.getD j 0).natAbs : Int) ≤ asum xs := by
  by_cases h : j < xs.length
  · unfold asum
    refine isum_mem (fun x hx => ?_) ?_
    · obtain ⟨y, _, rfl⟩ := List.mem_map.1 hx; omega
    · refine List.mem_map.2 ⟨xs[j], List.getElem_mem h, ?_⟩
      simp [List.getD, h]
  · have : 0 ≤ asum xs := isum_nonneg (fun x hx => by obtain ⟨y, _, rfl⟩ := List.mem_map.1 hx; omega)
    rw [List.getD, List.getElem?_eq_none (by omega)]
    simpa using this

theorem asum_within {xs : List Int} (h : within xs 255 = true) : asum xs ≤ 255 * xs.length := by
  have h2 : ∀ x ∈ xs, 0 ≤ x ∧ x ≤ 255 := fun x hx => by
    have := List.all_eq_true.1 h x hx
    simpa using this
  clear h
  unfold asum
  induction xs with
  | nil => simp [isum]
  | cons x xs ih =>
    have h1 := h2 x (by simp)
    have h3 := ih (fun y hy => h2 y (by simp [hy]))
    simp only [List.map_cons, isum, List.length_cons]
    omega

/-! Giving. -/

def give (st : List Int × Int) (t : Option Nat) (s : Int) : List Int × Int :=
  match t with
  | some j => (st.1.set j (st.1.getD j 0 + s), st.2)
  | none => (st.1, st.2 + s)
def gives (T : Nat → Option Nat) (sh : List Int) (st : List Int × Int) : Nat → List Int × Int
  | 0 => st
  | k + 1 => give (gives T sh st k) (T k) (sh.getD k 0)
def shTo (sh : List Int) : Nat → Int
  | 0 => 0
  | k + 1 => shTo sh k + sh.getD k 0
def absTo (sh : List Int) : Nat → Int
  | 0 => 0
  | k + 1 => absTo sh k + ((sh.getD k 0).natAbs : Int)

theorem give_len (st : List Int × Int) (t : Option Nat) (s : Int) : (give st t s).1.length = st.1.length := by cases t <;> simp [give]

theorem gives_len (T : Nat → Option Nat) (sh : List Int) (st : List Int × Int) (k : Nat) : (gives T sh st k).1.length = st.1.length := by
  induction k with
  | zero => rfl
  | succ k ih => rw [gives, give_len, ih]

theorem gives_sum {T : Nat → Option Nat} {sh : List Int} {st : List Int × Int} {k : Nat} (h : ∀ i j, i < k → T i = some j → j < st.1.length) : isum (gives T sh st k).1 + (gives T sh st k).2 = isum st.1 + st.2 + shTo sh k := by
  induction k with
  | zero => simp [gives, shTo]
  | succ k ih =>
    have h1 := ih (fun i j hi => h i j (by omega))
    simp only [gives, shTo]
    cases hT : T k with
    | none => simp only [give]; omega
    | some j =>
      simp only [give]
      rw [isum_set _ _ _ (by rw [gives_len]; exact h k j (by omega) hT)]
      omega

theorem gives_abs {T : Nat → Option Nat} {sh : List Int} {st : List Int × Int} {k : Nat} (h : ∀ i j, i < k → T i = some j → j < st.1.length) : asum (gives T sh st k).1 + ((gives T sh st k).2.natAbs : Int) ≤ asum st.1 + (st.2.natAbs : Int) + absTo sh k := by
  induction k with
  | zero => simp [gives, absTo]
  | succ k ih =>
    have h1 := ih (fun i j hi => h i j (by omega))
    simp only [gives, absTo]
    cases hT : T k with
    | none => simp only [give]; omega
    | some j =>
      simp only [give]
      rw [asum_set _ _ _ (by rw [gives_len]; exact h k j (by omega) hT)]
      omega

/-- What is outside of the targets stays. -/
theorem gives_else {T : Nat → Option Nat} {sh : List Int} {st : List Int × Int} {k j : Nat} (h : ∀ i, i < k → T i ≠ some j) : (gives T sh st k).1.getD j 0 = st.1.getD j 0 := by
  induction k with
  | zero => rfl
  | succ k ih =>
    have h1 := ih (fun i hi => h i (by omega))
    have h2 := h k (by omega)
    simp only [gives]
    cases hT : T k with
    | none => simpa [give] using h1
    | some i =>
      have hne : i ≠ j := fun e => h2 (by rw [hT, e])
      simp only [give, List.getD, List.getElem?_set, if_neg hne]
      simpa [List.getD] using h1

theorem give_agree {S : Nat → Prop} {a b : List Int × Int} {t : Option Nat} {s : Int} (hl : a.1.length = b.1.length) (h : ∀ j, S j → a.1.getD j 0 = b.1.getD j 0) : ∀ j, S j → (give a t s).1.getD j 0 = (give b t s).1.getD j 0 := by
  intro j hj
  cases t with
  | none => exact h j hj
  | some i =>
    by_cases e : i = j
    · subst e
      by_cases hb : i < b.1.length
      · simp only [give]
        rw [getD_set _ _ _ _ (by omega), getD_set _ _ _ _ hb, if_pos rfl, if_pos rfl, h i hj]
      · simp only [give]
        simp only [List.getD]
        rw [List.getElem?_eq_none (by simp; omega), List.getElem?_eq_none (by simp; omega)]
    · have := h j hj
      simp only [give, List.getD, List.getElem?_set, if_neg e]
      simpa [List.getD] using this

theorem give_lost (a b : List Int × Int) (t : Option Nat) (s : Int) (h : a.2 = b.2) : (give a t s).2 = (give b t s).2 := by cases t <;> simp [give, h]

/-! The shares' sums. -/

theorem shTo_gen {ks : List Prt} {W e : Int} (k : Nat) (hk : k ≤ ks.length) : shTo (sharesG ks W e) k = shSum ks W e k + (if 1 ≤ k then e - shSum ks W e ks.length else 0) := by
  induction k with
  | zero => simp [shTo, shSum]
  | succ k ih =>
    have h1 := ih (by omega)
    simp only [shTo, shSum]
    rw [sharesG_at _ _ _ _ (by omega), h1]
    by_cases c : k = 0
    · subst c; simp [shSum]
    · rw [if_pos (by omega), if_neg c, if_pos (by omega)]; omega

theorem shTo_all {ks : List Prt} {W e : Int} {n : Nat} (hn : ks.length = n) (h1 : 1 ≤ n) : shTo (sharesG ks W e) n = e := by
  rw [shTo_gen n (by omega), if_pos h1, hn]; omega

theorem absTo_gen {ks : List Prt} {n : Nat} {e : Int} (hn : ks.length = n) (h : kernTo ks n = true) (k : Nat) (hk : k ≤ n) :
    absTo (sharesG ks (wtTo ks n) e) k ≤ ((shSum ks (wtTo ks n) e k).natAbs : Int) + (if 1 ≤ k then ((e - shSum ks (wtTo ks n) e n).natAbs : Int) else 0) ∧ (0 ≤ e → 0 ≤ shSum ks (wtTo ks n) e k) ∧ (e ≤ 0 → shSum ks (wtTo ks n) e k ≤ 0) := by
  have hW := (wtTo_bd h n (Nat.le_refl _)).1
  induction k with
  | zero => simp [absTo, shSum]
  | succ k ih =>
    obtain ⟨a, b, c⟩ := ih (by omega)
    have hp := partOk_bd (kern_part h (show k < n by omega)).1
    have s1 : 0 ≤ e → 0 ≤ shareB ks (wtTo ks n) e k := fun he => Int.ediv_nonneg (Int.mul_nonneg he (by omega)) (by omega)
    have s2 : e ≤ 0 → shareB ks (wtTo ks n) e k ≤ 0 := fun he => by
      unfold shareB
      exact Int.ediv_le_of_le_mul (by omega) (by
        have := Int.mul_le_mul_of_nonneg_right he (show 0 ≤ (prt ks k).wt by omega)
        omega)
    have hat := sharesG_at ks (wtTo ks n) e k (by omega)
    rw [hn] at hat
    refine ⟨?_, fun he => ?_, fun he => ?_⟩
    · simp only [absTo, shSum]
      rw [hat, if_pos (show 1 ≤ k + 1 by omega)]
      by_cases hk0 : k = 0
      · subst hk0
        simp only [absTo, shSum] at a ⊢
        simp
        omega
      · rw [if_pos (show 1 ≤ k by omega)] at a
        rw [if_neg hk0]
        by_cases he : 0 ≤ e
        · have := s1 he; have := b he; omega
        · have := s2 (by omega); have := c (by omega); omega
    · have := s1 he; have := b he; simp only [shSum]; omega
    · have := s2 he; have := c he; simp only [shSum]; omega

theorem absTo_all {ks : List Prt} {n : Nat} {e : Int} (hn : ks.length = n) (h1 : 1 ≤ n) (h2 : n ≤ 12) (h : kernTo ks n = true) : absTo (sharesG ks (wtTo ks n) e) n ≤ (e.natAbs : Int) + 24 := by
  obtain ⟨a, b, c⟩ := absTo_gen (e := e) hn h n (Nat.le_refl _)
  obtain ⟨d1, d2⟩ := shSum_near (e := e) h h1
  rw [if_pos h1] at a
  by_cases he : 0 ≤ e
  · have := b he; omega
  · have := c (by omega); omega

/-- One share lies within the error and some units. -/
theorem share_bd {ks : List Prt} {n : Nat} {e : Int} (hn : ks.length = n) (h1 : 1 ≤ n) (h2 : n ≤ 12) (h : kernTo ks n = true) (k : Nat) (hk : k < n) : (((sharesG ks (wtTo ks n) e).getD k 0).natAbs : Int) ≤ (e.natAbs : Int) + 24 := by
  have mono : ∀ (sh : List Int) (a b : Nat), a ≤ b → absTo sh a ≤ absTo sh b := by
    intro sh a b hab
    induction b with
    | zero => obtain rfl : a = 0 := by omega
              exact Int.le_refl _
    | succ b ih =>
      by_cases c : a = b + 1
      · subst c; exact Int.le_refl _
      · have := ih (by omega); simp only [absTo]; omega
  have m := mono (sharesG ks (wtTo ks n) e) (k + 1) n (by omega)
  have z : 0 ≤ absTo (sharesG ks (wtTo ks n) e) k := by have := mono (sharesG ks (wtTo ks n) e) 0 k (by omega); simpa [absTo] using this
  have a := absTo_all (e := e) hn h1 h2 h
  simp only [absTo] at m
  omega

end Go.Proofs.Ytepaklcobkdfdaa
