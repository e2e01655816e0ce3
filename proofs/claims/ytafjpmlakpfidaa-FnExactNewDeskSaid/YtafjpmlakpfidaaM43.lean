/-
  Stacks of plates, plain: marks and their bits, how often each mark is met, sums over marks and over points. Nothing of the program.
-/
import Derived.Test.YtafjpmlakpfidaaM1
namespace Go.Proofs.Ytafjpmlakpfidaa
set_option linter.unusedVariables false
set_option linter.unusedSimpArgs false

/-! Sums. -/

def sumJ (f : Nat → Int) : Nat → Int
  | 0 => 0
  | n + 1 => sumJ f n + f n

theorem sumJ_congr {f g : Nat → Int} {n : Nat} (h : ∀ i, i < n → f i = g i) : sumJ f n = sumJ g n := by
  induction n with
  | zero => rfl
  | succ n ih => unfold sumJ; rw [ih (fun i hi => h i (by omega)), h n (by omega)]

theorem sumJ_add (f g : Nat → Int) (n : Nat) : sumJ (fun i => f i + g i) n = sumJ f n + sumJ g n := by
  induction n with
  | zero => rfl
  | succ n ih => unfold sumJ; rw [ih]; omega

theorem sumJ_zero (n : Nat) : sumJ (fun _ => 0) n = 0 := by
  induction n with
  | zero => rfl
  | succ n ih => unfold sumJ; rw [ih]; rfl

theorem sumJ_mul (f : Nat → Int) (c : Int) (n : Nat) : sumJ (fun i => c * f i) n = c * sumJ f n := by
  induction n with
  | zero => simp [sumJ]
  | succ n ih => unfold sumJ; rw [ih, Int.mul_add]

theorem sumJ_const (c : Int) (n : Nat) : sumJ (fun _ => c) n = c * n := by
  induction n with
  | zero => simp [sumJ]
  | succ n ih => unfold sumJ; rw [ih]; push_cast; rw [Int.mul_add, Int.mul_one]

theorem sumJ_one {c M : Nat} (g : Nat → Int) (h : c < M) : sumJ (fun r => if c = r then g r else 0) M = g c := by
  induction M with
  | zero => omega
  | succ M ih =>
    unfold sumJ
    by_cases e : c = M
    · subst e
      have : sumJ (fun r => if c = r then g r else 0) c = sumJ (fun _ => 0) c := sumJ_congr (fun i hi => if_neg (by omega))
      rw [this, sumJ_zero, if_pos rfl]; omega
    · rw [ih (by omega), if_neg e]; omega

theorem sumJ_le {f g : Nat → Int} {n : Nat} (h : ∀ i, i < n → f i ≤ g i) : sumJ f n ≤ sumJ g n := by
  induction n with
  | zero => exact Int.le_refl _
  | succ n ih =>
    have := ih (fun i hi => h i (by omega))
    have := h n (by omega)
    unfold sumJ; omega

theorem sumJ_nn {f : Nat → Int} {n : Nat} (h : ∀ i, i < n → 0 ≤ f i) : 0 ≤ sumJ f n := by
  have := sumJ_le (f := fun _ => 0) (g := f) (n := n) h
  rw [sumJ_zero] at this
  exact this

theorem sumJ_split (f : Nat → Int) (n m : Nat) : sumJ f (n + m) = sumJ f n + sumJ (fun i => f (n + i)) m := by
  induction m with
  | zero => simp [sumJ]
  | succ m ih =>
    rw [← Nat.add_assoc]
    show sumJ f (n + m) + f (n + m) = sumJ f n + (sumJ (fun i => f (n + i)) m + f (n + m))
    rw [ih]; omega

/-- Over a grid, row by row. -/
theorem sumJ_grid (f : Nat → Int) (W H : Nat) : sumJ f (W * H) = sumJ (fun y => sumJ (fun x => f (W * y + x)) W) H := by
  induction H with
  | zero => rfl
  | succ H ih =>
    rw [Nat.mul_succ, sumJ_split, ih]
    rfl

/-- A sum round a ring does not hang on where it begins. -/
theorem sumJ_ring (f : Nat → Int) (n : Nat) : sumJ (fun i => f ((i + 1) % (n + 1))) (n + 1) = sumJ f (n + 1) := by
  have e1 : sumJ (fun i => f ((i + 1) % (n + 1))) (n + 1) = sumJ (fun i => f ((i + 1) % (n + 1))) n + f ((n + 1) % (n + 1)) := rfl
  have e2 : sumJ (fun i => f ((i + 1) % (n + 1))) n = sumJ (fun i => f (1 + i)) n := sumJ_congr (fun i hi => by rw [Nat.mod_eq_of_lt (by omega), Nat.add_comm])
  have e3 : sumJ f (n + 1) = sumJ f 1 + sumJ (fun i => f (1 + i)) n := by rw [Nat.add_comm, sumJ_split]
  rw [e1, e2, e3, Nat.mod_self]
  simp [sumJ]
  omega

theorem sumJ_ring' (f : Nat → Int) (n : Nat) : sumJ (fun i => f ((i + n) % (n + 1))) (n + 1) = sumJ f (n + 1) := by
  have e3 : sumJ (fun i => f ((i + n) % (n + 1))) (n + 1) = sumJ (fun i => f ((i + n) % (n + 1))) 1 + sumJ (fun i => f ((1 + i + n) % (n + 1))) n := by rw [Nat.add_comm n 1, sumJ_split]
  have e2 : sumJ (fun i => f ((1 + i + n) % (n + 1))) n = sumJ f n := sumJ_congr (fun i hi => by
    rw [show 1 + i + n = i + (n + 1) by omega, Nat.add_mod_right, Nat.mod_eq_of_lt (by omega)])
  rw [e3, e2]
  simp [sumJ]
  omega

theorem isum_snocG (xs : List Int) (v : Int) : isum (xs ++ [v]) = isum xs + v := by
  rw [isum_append]; simp [isum]

theorem isum_gen (n : Nat) (f : Nat → Int) : isum (gen n f) = sumJ f n := by
  induction n with
  | zero => rfl
  | succ n ih =>
    have e : gen (n + 1) f = gen n f ++ [f n] := by simp [gen, List.range_succ]
    rw [e, isum_snocG, ih]
    rfl

theorem isum_list {xs : List Int} {n : Nat} (h : xs.length = n) : isum xs = sumJ (fun i => xs.getD i 0) n := by
  rw [← isum_gen, ← gen_ext n (fun i => xs.getD i 0) xs h (fun k hk => rfl)]

/-! Marks. -/

def stackOk (L : List Pic) : Bool := decide (1 ≤ L.length ∧ L.length ≤ 4) && L.all (fun p => picOk p.W p.H p.ink 1 && decide (p.W = (L.getD 0 noPic).W ∧ p.H = (L.getD 0 noPic).H))

theorem stack_bd {L : List Pic} (h : stackOk L = true) : 1 ≤ L.length ∧ L.length ≤ 4 ∧ ∀ k, k < L.length → picOk (L.getD k noPic).W (L.getD k noPic).H (L.getD k noPic).ink 1 = true ∧ (L.getD k noPic).W = (L.getD 0 noPic).W ∧ (L.getD k noPic).H = (L.getD 0 noPic).H := by
  unfold stackOk at h
  simp only [Bool.and_eq_true, decide_eq_true_eq, List.all_eq_true] at h
  refine ⟨h.1.1, h.1.2, fun k hk => ?_⟩
  have hm : L.getD k noPic ∈ L := by simp [List.getD, List.getElem?_eq_getElem hk]
  exact h.2 _ hm

theorem stack_mk {L : List Pic} (h1 : 1 ≤ L.length) (h2 : L.length ≤ 4) (h : ∀ k, k < L.length → picOk (L.getD k noPic).W (L.getD k noPic).H (L.getD k noPic).ink 1 = true ∧ (L.getD k noPic).W = (L.getD 0 noPic).W ∧ (L.getD k noPic).H = (L.getD 0 noPic).H) : stackOk L = true := by
  unfold stackOk
  simp only [Bool.and_eq_true, decide_eq_true_eq, List.all_eq_true]
  refine ⟨⟨h1, h2⟩, fun p hp => ?_⟩
  obtain ⟨k, hk, rfl⟩ := List.mem_iff_getElem.1 hp
  have := h k hk
  simp only [List.getD, List.getElem?_eq_getElem hk, Option.getD_some] at this ⊢
  exact this

/-- The number with these binary digits. -/
def bitsTo (b : Nat → Int) : Nat → Int
  | 0 => 0
  | k + 1 => bitsTo b k + b k * 2 ^ k

theorem pow2_pos (k : Nat) : 1 ≤ (2 : Int) ^ k := by
  induction k with
  | zero => simp
  | succ k ih => rw [Int.pow_succ]; omega

theorem bitsTo_bd {b : Nat → Int} {m : Nat} (h : ∀ k, k < m → b k = 0 ∨ b k = 1) : 0 ≤ bitsTo b m ∧ bitsTo b m < 2 ^ m := by
  induction m with
  | zero => simp [bitsTo]
  | succ m ih =>
    have a := ih (fun k hk => h k (by omega))
    have p := pow2_pos m
    unfold bitsTo
    rw [Int.pow_succ]
    rcases h m (by omega) with e | e <;> rw [e] <;> omega

theorem bitsTo_bit {b : Nat → Int} {m k : Nat} (h : ∀ k, k < m → b k = 0 ∨ b k = 1) (hk : k < m) : bitsTo b m / 2 ^ k % 2 = b k := by
  induction m with
  | zero => omega
  | succ m ih =>
    have hb := fun k hk => h k (Nat.lt_succ_of_lt hk)
    obtain ⟨a1, a2⟩ := bitsTo_bd hb
    have p := pow2_pos k
    unfold bitsTo
    by_cases e : k = m
    · subst e
      rw [Int.add_mul_ediv_right _ _ (by omega), Int.ediv_eq_zero_of_lt a1 a2]
      rcases h k (by omega) with e | e <;> rw [e] <;> rfl
    · obtain ⟨j, rfl⟩ : ∃ j, m = k + 1 + j := ⟨m - k - 1, by omega⟩
      have e2 : b (k + 1 + j) * 2 ^ (k + 1 + j) = (b (k + 1 + j) * 2 ^ j * 2) * 2 ^ k := by
        rw [show k + 1 + j = j + 1 + k by omega, Int.pow_add, Int.pow_succ]
        simp only [Int.mul_assoc]
      rw [e2, Int.add_mul_ediv_right _ _ (by omega), Int.add_mul_emod_self_right, ih hb (by omega)]

def markG (L : List Pic) (i : Nat) : Int := bitsTo (fun k => (L.getD k noPic).ink.getD i 0) L.length

theorem mark_digit {L : List Pic} {n i : Nat} (h : stackOk L = true) (hn : ((L.getD 0 noPic).ink.length) = n) (hi : i < n) (k : Nat) (hk : k < L.length) : (L.getD k noPic).ink.getD i 0 = 0 ∨ (L.getD k noPic).ink.getD i 0 = 1 := by
  obtain ⟨h1, h2, h3⟩ := stack_bd h
  obtain ⟨p0, _, _⟩ := h3 0 (by omega)
  obtain ⟨pk, w, ht⟩ := h3 k hk
  obtain ⟨_, q0, _⟩ := picOk_bd (n := n) hn p0
  obtain ⟨_, qk, wi⟩ := picOk_bd rfl pk
  have hl : (L.getD k noPic).ink.length = n := by rw [w, ht, ← q0] at qk; omega
  have := within_at wi i (by omega)
  simp only [List.getD_eq_getElem?_getD] at this ⊢
  omega

theorem mark_bd {L : List Pic} {n i : Nat} (h : stackOk L = true) (hn : ((L.getD 0 noPic).ink.length) = n) (hi : i < n) : 0 ≤ markG L i ∧ markG L i < 2 ^ L.length := bitsTo_bd (fun k hk => mark_digit h hn hi k hk)

theorem mark_bit {L : List Pic} {n i k : Nat} (h : stackOk L = true) (hn : ((L.getD 0 noPic).ink.length) = n) (hi : i < n) (hk : k < L.length) : markG L i / 2 ^ k % 2 = (L.getD k noPic).ink.getD i 0 := bitsTo_bit (fun k hk => mark_digit h hn hi k hk) hk

/-! How often each number is met. -/

def cntI (f : Nat → Int) (r : Int) : Nat → Int
  | 0 => 0
  | n + 1 => cntI f r n + (if f n = r then 1 else 0)

theorem cntI_bd (f : Nat → Int) (r : Int) (n : Nat) : 0 ≤ cntI f r n ∧ cntI f r n ≤ n := by
  induction n with
  | zero => simp [cntI]
  | succ n ih => unfold cntI; split <;> omega

theorem cnt_weight {f : Nat → Int} {n M : Nat} (hf : ∀ i, i < n → 0 ≤ f i ∧ f i < M) (g : Nat → Int) : sumJ (fun r => cntI f r n * g r) M = sumJ (fun i => g (f i).toNat) n := by
  induction n with
  | zero =>
    have : sumJ (fun r => cntI f r 0 * g r) M = sumJ (fun _ => 0) M := sumJ_congr (fun i _ => by simp [cntI])
    rw [this, sumJ_zero]; rfl
  | succ n ih =>
    obtain ⟨b1, b2⟩ := hf n (by omega)
    have e : sumJ (fun r => cntI f r (n + 1) * g r) M = sumJ (fun r => cntI f r n * g r + (if (f n).toNat = r then g r else 0)) M := sumJ_congr (fun r _ => by
      simp only [cntI]
      by_cases c : f n = (r : Int)
      · rw [if_pos c, if_pos (by omega), Int.add_mul, Int.one_mul]
      · rw [if_neg c, if_neg (by omega)]; simp)
    rw [e, sumJ_add, ih (fun i hi => hf i (by omega)), sumJ_one g (by omega)]
    rfl

theorem cnt_total {f : Nat → Int} {n M : Nat} (hf : ∀ i, i < n → 0 ≤ f i ∧ f i < M) : sumJ (fun r => cntI f r n) M = n := by
  have h := cnt_weight hf (fun _ => 1)
  rw [sumJ_const] at h
  have e : sumJ (fun r => cntI f r n * 1) M = sumJ (fun r => cntI f r n) M := sumJ_congr (fun i _ => Int.mul_one _)
  rw [e] at h
  omega

def markAtF (L : List Pic) (x y : Int) : Int := if stackOk L = true ∧ 0 ≤ x ∧ x < (L.getD 0 noPic).W ∧ 0 ≤ y ∧ y < (L.getD 0 noPic).H then markG L (y * (L.getD 0 noPic).W + x).toNat else -1
def markCountsF (L : List Pic) : List Int := if stackOk L = true then gen (2 ^ L.length) (fun r => cntI (markG L) r (L.getD 0 noPic).ink.length) else []

/-- The dots of plate k, told by the marks. -/
theorem marks_dots {L : List Pic} {n k : Nat} (h : stackOk L = true) (hn : ((L.getD 0 noPic).ink.length) = n) (hk : k < L.length) : sumJ (fun r => cntI (markG L) r n * ((r : Int) / 2 ^ k % 2)) (2 ^ L.length) = isum (L.getD k noPic).ink := by
  have hf : ∀ i, i < n → 0 ≤ markG L i ∧ markG L i < ((2 ^ L.length : Nat) : Int) := fun i hi => by
    have := mark_bd h hn hi
    push_cast
    exact this
  have hw := cnt_weight hf (fun r => (r : Int) / 2 ^ k % 2)
  rw [hw]
  obtain ⟨h1, h2, h3⟩ := stack_bd h
  obtain ⟨p0, _, _⟩ := h3 0 (by omega)
  obtain ⟨pk, w, ht⟩ := h3 k hk
  obtain ⟨_, q0, _⟩ := picOk_bd (n := n) hn p0
  obtain ⟨_, qk, _⟩ := picOk_bd rfl pk
  have hl : (L.getD k noPic).ink.length = n := by rw [w, ht, ← q0] at qk; omega
  rw [isum_list hl]
  exact sumJ_congr (fun i hi => by
    have := mark_bd h hn hi
    show (((markG L i).toNat : Nat) : Int) / 2 ^ k % 2 = _
    rw [show (((markG L i).toNat : Nat) : Int) = markG L i by omega]
    exact mark_bit h hn hi hk)

/-- Two plates that hold columns and rows: the points with dots of both. -/
theorem cross_sum (a b : Nat → Int) (W H : Nat) (hW : 0 < W) : sumJ (fun i => a (i % W) * b (i / W)) (W * H) = sumJ a W * sumJ b H := by
  rw [sumJ_grid]
  have e : sumJ (fun y => sumJ (fun x => a ((W * y + x) % W) * b ((W * y + x) / W)) W) H = sumJ (fun y => sumJ a W * b y) H := sumJ_congr (fun y _ => by
    have e2 : sumJ (fun x => a ((W * y + x) % W) * b ((W * y + x) / W)) W = sumJ (fun x => b y * a x) W := sumJ_congr (fun x hx => by
      rw [Nat.mul_add_mod, Nat.mod_eq_of_lt hx, Nat.mul_add_div hW, Nat.div_eq_of_lt hx, Nat.add_zero, Int.mul_comm])
    rw [e2, sumJ_mul, Int.mul_comm])
  rw [e, sumJ_mul]

theorem cross_cols (a : Nat → Int) (W H : Nat) (hW : 0 < W) : sumJ (fun i => a (i % W)) (W * H) = sumJ a W * H := by
  have h := cross_sum a (fun _ => 1) W H hW
  rw [sumJ_const, Int.one_mul] at h
  rw [← h]
  exact sumJ_congr (fun i _ => (Int.mul_one _).symm)

end Go.Proofs.Ytafjpmlakpfidaa
