/-
  Kernels and shares as plain mathematics; nothing of the program.
-/
import Derived.Test.YtafjpmlakpfidaaM2
namespace Go.Proofs.Ytafjpmlakpfidaa
set_option linter.unusedVariables false
set_option linter.unusedSimpArgs false

/-- A part as plain data. -/
structure Prt where
  dx : Int
  dy : Int
  wt : Int

def noPrt : Prt := ⟨0, 0, 0⟩
def Prt.nums (p : Prt) : List Int := [p.dx, p.dy, p.wt]
/-- The numbers of a list of parts, three a part. -/
def flat (ks : List Prt) : List Int := ks.flatMap Prt.nums
def prt (ks : List Prt) (k : Nat) : Prt := ks.getD k noPrt

theorem flat_len (ks : List Prt) : (flat ks).length = 3 * ks.length := by
  induction ks with
  | nil => rfl
  | cons p ks ih => simp only [flat, List.flatMap_cons, List.length_append, List.length_cons] at ih ⊢; rw [ih]; simp [Prt.nums]; omega

theorem flat_cons (p : Prt) (ks : List Prt) : flat (p :: ks) = p.dx :: p.dy :: p.wt :: flat ks := rfl

theorem flat_append (a b : List Prt) : flat (a ++ b) = flat a ++ flat b := by simp [flat]

theorem prt_cons (p : Prt) (ks : List Prt) (k : Nat) : prt (p :: ks) (k + 1) = prt ks k := by simp [prt]

theorem flat_at (ks : List Prt) (k : Nat) (h : k < ks.length) : (flat ks).getD (3 * k) 0 = (prt ks k).dx ∧ (flat ks).getD (3 * k + 1) 0 = (prt ks k).dy ∧ (flat ks).getD (3 * k + 2) 0 = (prt ks k).wt := by
  induction ks generalizing k with
  | nil => simp at h
  | cons p ks ih =>
    cases k with
    | zero => exact ⟨rfl, rfl, rfl⟩
    | succ k =>
      have := ih k (by simpa using h)
      rw [flat_cons, prt_cons, show 3 * (k + 1) = 3 * k + 1 + 1 + 1 by omega]
      simpa [List.getD] using this

theorem flat_inj {a b : List Prt} (h : flat a = flat b) : a = b := by
  induction a generalizing b with
  | nil => cases b with
    | nil => rfl
    | cons q b => simp [flat_cons] at h; simp [flat] at h
  | cons p a ih => cases b with
    | nil => rw [flat_cons] at h; simp [flat] at h
    | cons q b =>
      rw [flat_cons, flat_cons] at h
      simp only [List.cons.injEq] at h
      obtain ⟨h1, h2, h3, h4⟩ := h
      rw [ih h4]
      obtain ⟨x, y, z⟩ := p
      obtain ⟨x', y', z'⟩ := q
      simp only at h1 h2 h3
      rw [h1, h2, h3]

/-- Numbers as parts: what is read in threes. -/
def unflat (xs : List Int) : Nat → List Prt
  | 0 => []
  | n + 1 => unflat xs n ++ [⟨xs.getD (3 * n) 0, xs.getD (3 * n + 1) 0, xs.getD (3 * n + 2) 0⟩]

theorem take_prt (ks : List Prt) (k : Nat) (h : k < ks.length) : ks.take (k + 1) = ks.take k ++ [prt ks k] := by
  rw [List.take_succ_eq_append_getElem h]
  simp [prt, h]

def partOk (p : Prt) : Bool := decide (-4 ≤ p.dx ∧ p.dx ≤ 4 ∧ 0 ≤ p.dy ∧ p.dy ≤ 4 ∧ (p.dy = 0 → 1 ≤ p.dx) ∧ 1 ≤ p.wt ∧ p.wt ≤ 100)
/-- One of the parts has this place. -/
def placed (L : List Prt) (x y : Int) : Bool := L.any (fun q => decide (q.dx = x ∧ q.dy = y))
def kernTo (ks : List Prt) (k : Nat) : Bool := (List.range k).all (fun i => partOk (prt ks i) && !placed (ks.take i) (prt ks i).dx (prt ks i).dy)
def kernOk (ks : List Prt) : Bool := decide (1 ≤ ks.length ∧ ks.length ≤ 12) && kernTo ks ks.length

theorem placed_nil (x y : Int) : placed [] x y = false := rfl

theorem placed_take (ks : List Prt) (k : Nat) (x y : Int) (h : k < ks.length) : placed (ks.take (k + 1)) x y = (placed (ks.take k) x y || decide ((prt ks k).dx = x ∧ (prt ks k).dy = y)) := by
  unfold placed
  rw [take_prt ks k h, List.any_append]
  simp

theorem placed_le {ks : List Prt} {k m : Nat} {x y : Int} (h : placed (ks.take k) x y = true) (hk : k ≤ m) : placed (ks.take m) x y = true := by
  unfold placed at *
  rw [List.any_eq_true] at *
  obtain ⟨q, hq, h2⟩ := h
  refine ⟨q, ?_, h2⟩
  have e : ks.take k = (ks.take m).take k := by rw [List.take_take]; congr 1; omega
  rw [e] at hq
  exact List.mem_of_mem_take hq

theorem kernTo_succ (ks : List Prt) (k : Nat) : kernTo ks (k + 1) = (kernTo ks k && (partOk (prt ks k) && !placed (ks.take k) (prt ks k).dx (prt ks k).dy)) := by
  unfold kernTo
  rw [List.range_succ, List.all_append]
  simp

theorem kernTo_le {ks : List Prt} {k m : Nat} (h : kernTo ks m = true) (hk : k ≤ m) : kernTo ks k = true := by
  unfold kernTo at *
  rw [List.all_eq_true] at *
  intro i hi
  exact h i (by simp at hi ⊢; omega)

theorem kernTo_no {ks : List Prt} {k m : Nat} (hk : k < m) (h : (partOk (prt ks k) && !placed (ks.take k) (prt ks k).dx (prt ks k).dy) = false) : kernTo ks m = false := by
  by_cases c : kernTo ks m = true
  · have := kernTo_le c (show k + 1 ≤ m by omega)
    rw [kernTo_succ, h] at this
    simp at this
  · simpa using c

theorem kernOk_no1 {ks : List Prt} {n : Nat} (hn : ks.length = n) (h : ¬ (1 ≤ n ∧ n ≤ 12)) : kernOk ks = false := by unfold kernOk; rw [hn, decide_eq_false h]; rfl

theorem kernOk_no2 {ks : List Prt} {n k : Nat} (hn : ks.length = n) (hk : k < n) (h : (partOk (prt ks k) && !placed (ks.take k) (prt ks k).dx (prt ks k).dy) = false) : kernOk ks = false := by
  unfold kernOk; rw [hn, kernTo_no hk h]; simp

theorem kernOk_yes {ks : List Prt} {n : Nat} (hn : ks.length = n) (h1 : 1 ≤ n) (h2 : n ≤ 12) (h : kernTo ks n = true) : kernOk ks = true := by
  unfold kernOk; rw [hn, h, decide_eq_true ⟨h1, h2⟩]; rfl

theorem kernOk_bd {ks : List Prt} {n : Nat} (hn : ks.length = n) (h : kernOk ks = true) : 1 ≤ n ∧ n ≤ 12 ∧ kernTo ks n = true := by
  unfold kernOk at h
  rw [hn] at h
  simp only [Bool.and_eq_true, decide_eq_true_eq] at h
  exact ⟨h.1.1, h.1.2, h.2⟩

theorem partOk_bd {p : Prt} (h : partOk p = true) : -4 ≤ p.dx ∧ p.dx ≤ 4 ∧ 0 ≤ p.dy ∧ p.dy ≤ 4 ∧ (p.dy = 0 → 1 ≤ p.dx) ∧ 1 ≤ p.wt ∧ p.wt ≤ 100 := of_decide_eq_true h

theorem kern_part {ks : List Prt} {n k : Nat} (h : kernTo ks n = true) (hk : k < n) : partOk (prt ks k) = true ∧ placed (ks.take k) (prt ks k).dx (prt ks k).dy = false := by
  have := kernTo_le h (show k + 1 ≤ n by omega)
  rw [kernTo_succ] at this
  simp only [Bool.and_eq_true, Bool.not_eq_true'] at this
  exact this.2

/-! Weights. -/

def wtTo (ks : List Prt) : Nat → Int
  | 0 => 0
  | k + 1 => wtTo ks k + (prt ks k).wt
def weightF (ks : List Prt) : Int := if kernOk ks = true then wtTo ks ks.length else 0

theorem weightF_no {ks : List Prt} (h : ¬ kernOk ks = true) : weightF ks = 0 := by unfold weightF; rw [if_neg h]

theorem weightF_yes {ks : List Prt} {n : Nat} (hn : ks.length = n) (h : kernOk ks = true) : weightF ks = wtTo ks n := by unfold weightF; rw [if_pos h, hn]

theorem wtTo_bd {ks : List Prt} {n : Nat} (h : kernTo ks n = true) (k : Nat) (hk : k ≤ n) : (k : Int) ≤ wtTo ks k ∧ wtTo ks k ≤ 100 * k := by
  induction k with
  | zero => simp [wtTo]
  | succ k ih =>
    have h1 := ih (by omega)
    have h2 := partOk_bd (kern_part h (show k < n by omega)).1
    simp only [wtTo]
    omega

/-! Shares. -/

def shareB (ks : List Prt) (W e : Int) (k : Nat) : Int := e * (prt ks k).wt / W
def shSum (ks : List Prt) (W e : Int) : Nat → Int
  | 0 => 0
  | k + 1 => shSum ks W e k + shareB ks W e k
/-- The shares of an error: the weights' parts rounded down, and what is missing for the first. -/
def sharesG (ks : List Prt) (W e : Int) : List Int := (gen ks.length (shareB ks W e)).set 0 (shareB ks W e 0 + (e - shSum ks W e ks.length))
def sharesF (ks : List Prt) (e : Int) : List Int := if kernOk ks = true ∧ -1000000 ≤ e ∧ e ≤ 1000000 then sharesG ks (wtTo ks ks.length) e else []

theorem sharesF_no {ks : List Prt} {e : Int} (h : ¬ (kernOk ks = true ∧ -1000000 ≤ e ∧ e ≤ 1000000)) : sharesF ks e = [] := by unfold sharesF; rw [if_neg h]

theorem sharesF_yes {ks : List Prt} {n : Nat} {e : Int} (hn : ks.length = n) (h : kernOk ks = true) (h1 : -1000000 ≤ e) (h2 : e ≤ 1000000) : sharesF ks e = sharesG ks (wtTo ks n) e := by unfold sharesF; rw [if_pos ⟨h, h1, h2⟩, hn]

theorem sharesG_len (ks : List Prt) (W e : Int) : (sharesG ks W e).length = ks.length := by simp [sharesG, gen_len]

theorem sharesG_at (ks : List Prt) (W e : Int) (k : Nat) (hk : k < ks.length) : (sharesG ks W e).getD k 0 = shareB ks W e k + (if k = 0 then e - shSum ks W e ks.length else 0) := by
  unfold sharesG
  rw [getD_set _ _ _ _ (by rw [gen_len]; omega)]
  by_cases h : k = 0
  · subst h; simp
  · rw [if_neg (by omega), if_neg h, gen_get _ _ _ hk]; omega

/-- One share: rounded down, and no further from 0 than the error. -/
theorem shareB_bd {ks : List Prt} {n : Nat} {e : Int} (h : kernTo ks n = true) (k : Nat) (hk : k < n) (hn : 1 ≤ n) :
    shareB ks (wtTo ks n) e k * wtTo ks n ≤ e * (prt ks k).wt ∧ e * (prt ks k).wt < shareB ks (wtTo ks n) e k * wtTo ks n + wtTo ks n := by
  have h1 := (wtTo_bd h n (Nat.le_refl _)).1
  unfold shareB
  have a := Int.emod_add_mul_ediv (e * (prt ks k).wt) (wtTo ks n)
  have b := Int.emod_nonneg (e * (prt ks k).wt) (show wtTo ks n ≠ 0 by omega)
  have c := Int.emod_lt_of_pos (e * (prt ks k).wt) (show 0 < wtTo ks n by omega)
  rw [Int.mul_comm (e * (prt ks k).wt / wtTo ks n)]
  omega

theorem mul_between {a b c : Int} (h1 : 1 ≤ b) (h2 : b ≤ c) (ha : 0 ≤ a) : 0 ≤ a * b ∧ a * b ≤ a * c := ⟨Int.mul_nonneg ha (by omega), Int.mul_le_mul_of_nonneg_left h2 ha⟩

theorem mul_abs {e b c : Int} (h1 : 1 ≤ b) (h2 : b ≤ 100) (hc : 0 ≤ c) (he1 : -c ≤ e) (he2 : e ≤ c) : -(c * 100) ≤ e * b ∧ e * b ≤ c * 100 := by
  have m1 := Int.mul_le_mul_of_nonneg_left h2 hc
  have m2 := Int.mul_le_mul_of_nonneg_right he2 (show 0 ≤ b by omega)
  have m3 := Int.mul_le_mul_of_nonneg_right he1 (show 0 ≤ b by omega)
  rw [Int.neg_mul] at m3
  omega

/-- Plain bounds for one share. -/
theorem shareB_wide {ks : List Prt} {n : Nat} {e : Int} (h : kernTo ks n = true) (k : Nat) (hk : k < n) (he1 : -1000000 ≤ e) (he2 : e ≤ 1000000) :
    -100000000 ≤ e * (prt ks k).wt ∧ e * (prt ks k).wt ≤ 100000000 ∧ -100000000 ≤ shareB ks (wtTo ks n) e k ∧ shareB ks (wtTo ks n) e k ≤ 100000000 := by
  have h1 := (wtTo_bd h n (Nat.le_refl _)).1
  have h2 := partOk_bd (kern_part h hk).1
  obtain ⟨m1, m2⟩ := mul_abs (e := e) (c := 1000000) h2.2.2.2.2.2.1 h2.2.2.2.2.2.2 (by omega) he1 he2
  refine ⟨by omega, by omega, ?_, ?_⟩
  · unfold shareB
    exact Int.le_ediv_of_mul_le (by omega) (by
      have := Int.mul_le_mul_of_nonneg_left (show (1 : Int) ≤ wtTo ks n by omega) (show (0 : Int) ≤ 100000000 by omega)
      rw [Int.neg_mul]; omega)
  · unfold shareB
    exact Int.ediv_le_of_le_mul (by omega) (by
      have := Int.mul_le_mul_of_nonneg_left (show (1 : Int) ≤ wtTo ks n by omega) (show (0 : Int) ≤ 100000000 by omega)
      omega)

theorem shSum_wide {ks : List Prt} {n : Nat} {e : Int} (h : kernTo ks n = true) (he1 : -1000000 ≤ e) (he2 : e ≤ 1000000) (k : Nat) (hk : k ≤ n) : -(100000000 * (k : Int)) ≤ shSum ks (wtTo ks n) e k ∧ shSum ks (wtTo ks n) e k ≤ 100000000 * k := by
  induction k with
  | zero => simp [shSum]
  | succ k ih =>
    have h1 := ih (by omega)
    have h2 := shareB_wide h k (by omega) he1 he2
    simp only [shSum]
    omega

/-- The sum of the rounded shares, against the error. -/
theorem shSum_mul {ks : List Prt} {n : Nat} {e : Int} (h : kernTo ks n = true) (k : Nat) (hk : k ≤ n) : shSum ks (wtTo ks n) e k * wtTo ks n ≤ e * wtTo ks k ∧ e * wtTo ks k ≤ shSum ks (wtTo ks n) e k * wtTo ks n + (k : Int) * (wtTo ks n - 1) := by
  induction k with
  | zero => simp [shSum, wtTo]
  | succ k ih =>
    obtain ⟨a, b⟩ := ih (by omega)
    obtain ⟨c, d⟩ := shareB_bd (e := e) h k (by omega) (by omega)
    simp only [shSum, wtTo]
    rw [Int.add_mul, Int.mul_add]
    have e1 : ((k + 1 : Nat) : Int) * (wtTo ks n - 1) = (k : Int) * (wtTo ks n - 1) + (wtTo ks n - 1) := by
      rw [Int.natCast_add, Int.add_mul]; simp
    rw [e1]
    omega

theorem shSum_near {ks : List Prt} {n : Nat} {e : Int} (h : kernTo ks n = true) (hn : 1 ≤ n) : shSum ks (wtTo ks n) e n ≤ e ∧ e ≤ shSum ks (wtTo ks n) e n + n - 1 := by
  obtain ⟨a, b⟩ := shSum_mul (e := e) h n (Nat.le_refl _)
  have h1 := (wtTo_bd h n (Nat.le_refl _)).1
  have hW : 0 < wtTo ks n := by omega
  refine ⟨Int.le_of_mul_le_mul_right a hW, ?_⟩
  have c : e * wtTo ks n < (shSum ks (wtTo ks n) e n + n) * wtTo ks n := by
    rw [Int.add_mul]
    rw [Int.mul_sub] at b
    omega
  have := Int.lt_of_mul_lt_mul_right c (by omega)
  omega

end Go.Proofs.Ytafjpmlakpfidaa
