/-
  Ranks of a field, plain: they are a matrix, begin with the field, and each is where the rule says. Nothing of the program.
-/
import Derived.Test.YtnhjdmdnicnmmaaM40
namespace Go.Proofs.Ytnhjdmdnicnmmaa
set_option linter.unusedVariables false
set_option linter.unusedSimpArgs false

section
variable {W H : Int} {xs : List Int} {n d : Nat}

/-- What happens to a place from step k to step m, taking dots away. -/
def DownAt (c r c' r' : Int) (d k m : Nat) : Prop :=
  (c = 0 → c' = 0 ∧ r' = r) ∧ (c = 1 → (c' = 1 ∧ r' = r) ∨ (c' = 0 ∧ (d : Int) - m ≤ r' ∧ r' < (d : Int) - k))

theorem down_step (h : fieldOk W H xs = true) (hd : icount 1 xs = d) (rs : List Int) (hr : rs.length = xs.length) {k : Nat} (hk : k < d) :
    ∃ a : Nat, tightF W H (downG W H xs d rs k).1 = a ∧ a < xs.length ∧ (downG W H xs d rs k).1.getD a 0 = 1 ∧ (downG W H xs d rs (k + 1)).1 = (downG W H xs d rs k).1.set a 0 ∧ (downG W H xs d rs (k + 1)).2 = (downG W H xs d rs k).2.set a ((d : Int) - 1 - k) := by
  subst hd
  obtain ⟨h1, h2, h3, h4⟩ := down_inv h rs k (by omega)
  obtain ⟨a, a1, a2, a3⟩ := tight_some (W := W) (H := H) (xs := (downG W H xs (icount 1 xs) rs k).1) (by omega)
  refine ⟨a, a1, by omega, a3, ?_, ?_⟩
  · simp only [downG, flipT, a1, Int.toNat_natCast]
  · simp only [downG, a1, Int.toNat_natCast]

theorem down_at (h : fieldOk W H xs = true) (hd : icount 1 xs = d) (rs : List Int) (hr : rs.length = xs.length) {k : Nat} {i : Nat} (hi : i < xs.length) (j : Nat) (hm : k + j ≤ d) :
    DownAt ((downG W H xs d rs k).1.getD i 0) ((downG W H xs d rs k).2.getD i 0) ((downG W H xs d rs (k + j)).1.getD i 0) ((downG W H xs d rs (k + j)).2.getD i 0) d k (k + j) := by
  induction j with
  | zero => exact ⟨fun e => ⟨e, rfl⟩, fun e => Or.inl ⟨e, rfl⟩⟩
  | succ j ih =>
    obtain ⟨i1, i2⟩ := ih (by omega)
    obtain ⟨a, a1, a2, a3, a4, a5⟩ := down_step h hd rs hr (k := k + j) (by omega)
    have l2 : (downG W H xs d rs (k + j)).1.length = xs.length := by subst hd; exact (down_inv h rs (k + j) (by omega)).2.1
    have l4 : (downG W H xs d rs (k + j)).2.length = xs.length := by subst hd; rw [(down_inv h rs (k + j) (by omega)).2.2.2, hr]
    rw [show k + (j + 1) = k + j + 1 by omega, a4, a5]
    unfold DownAt
    by_cases e : a = i
    · subst e
      rw [getD_set_eq (by omega), getD_set_eq (by omega)]
      refine ⟨fun e0 => ?_, fun e1 => Or.inr ⟨rfl, by omega, by omega⟩⟩
      have := (i1 e0).1
      omega
    · rw [getD_set_ne e, getD_set_ne e]
      refine ⟨i1, fun e1 => ?_⟩
      rcases i2 e1 with q | ⟨q1, q2, q3⟩
      · exact Or.inl q
      · exact Or.inr ⟨q1, by omega, q3⟩

def UpAt (c r c' r' : Int) (d k m : Nat) : Prop :=
  (c = 1 → c' = 1 ∧ r' = r) ∧ (c = 0 → (c' = 0 ∧ r' = r) ∨ (c' = 1 ∧ (d : Int) + k ≤ r' ∧ r' < (d : Int) + m))

theorem up_step (h : fieldOk W H xs = true) (hd : icount 1 xs = d) (rs : List Int) (hr : rs.length = xs.length) {k : Nat} (hk : d + k < xs.length) :
    ∃ a : Nat, wideF W H (upG W H xs d rs k).1 = a ∧ a < xs.length ∧ (upG W H xs d rs k).1.getD a 0 = 0 ∧ (upG W H xs d rs (k + 1)).1 = (upG W H xs d rs k).1.set a 1 ∧ (upG W H xs d rs (k + 1)).2 = (upG W H xs d rs k).2.set a ((d : Int) + k) := by
  obtain ⟨h1, h2, h3, h4⟩ := up_inv h d rs k (by omega)
  obtain ⟨a, a1, a2, a3⟩ := wide_some (W := W) (H := H) (xs := (upG W H xs d rs k).1) (dots_of (field_bd rfl h1).2.2.2.2.2.2.2.1) (by omega)
  refine ⟨a, a1, by omega, a3, ?_, ?_⟩
  · simp only [upG, flipW, a1, Int.toNat_natCast]
  · simp only [upG, a1, Int.toNat_natCast]

theorem up_at (h : fieldOk W H xs = true) (hd : icount 1 xs = d) (rs : List Int) (hr : rs.length = xs.length) {k : Nat} {i : Nat} (hi : i < xs.length) (j : Nat) (hm : d + (k + j) ≤ xs.length) :
    UpAt ((upG W H xs d rs k).1.getD i 0) ((upG W H xs d rs k).2.getD i 0) ((upG W H xs d rs (k + j)).1.getD i 0) ((upG W H xs d rs (k + j)).2.getD i 0) d k (k + j) := by
  induction j with
  | zero => exact ⟨fun e => ⟨e, rfl⟩, fun e => Or.inl ⟨e, rfl⟩⟩
  | succ j ih =>
    obtain ⟨i1, i2⟩ := ih (by omega)
    obtain ⟨a, a1, a2, a3, a4, a5⟩ := up_step h hd rs hr (k := k + j) (by omega)
    have l2 : (upG W H xs d rs (k + j)).1.length = xs.length := (up_inv h d rs (k + j) (by omega)).2.1
    have l4 : (upG W H xs d rs (k + j)).2.length = xs.length := by rw [(up_inv h d rs (k + j) (by omega)).2.2.2, hr]
    rw [show k + (j + 1) = k + j + 1 by omega, a4, a5]
    unfold UpAt
    by_cases e : a = i
    · subst e
      rw [getD_set_eq (by omega), getD_set_eq (by omega)]
      refine ⟨fun e0 => ?_, fun e1 => Or.inr ⟨rfl, by omega, by omega⟩⟩
      have := (i1 e0).1
      omega
    · rw [getD_set_ne e, getD_set_ne e]
      refine ⟨i1, fun e1 => ?_⟩
      rcases i2 e1 with q | ⟨q1, q2, q3⟩
      · exact Or.inl q
      · exact Or.inr ⟨q1, q2, by omega⟩

/-- The two rows of steps, and the ranks at their end. -/
structure Ranked (W H : Int) (xs : List Int) (n d : Nat) (rs : List Int) (D U : Nat → List Int) : Prop where
  len : rs.length = n
  dlen : ∀ k, k ≤ d → (D k).length = n ∧ fieldOk W H (D k) = true
  ulen : ∀ k, d + k ≤ n → (U k).length = n ∧ fieldOk W H (U k) = true
  one : ∀ i, i < n → xs.getD i 0 = 1 → 0 ≤ rs.getD i 0 ∧ rs.getD i 0 < d
  zero : ∀ i, i < n → xs.getD i 0 = 0 → (d : Int) ≤ rs.getD i 0 ∧ rs.getD i 0 < n
  down : ∀ k i, k ≤ d → i < n → (D k).getD i 0 = if rs.getD i 0 < (d : Int) - k then 1 else 0
  up : ∀ k i, d + k ≤ n → i < n → (U k).getD i 0 = if rs.getD i 0 < (d : Int) + k then 1 else 0
  tight : ∀ k, k < d → ∃ a : Nat, tightF W H (D k) = a ∧ a < n ∧ rs.getD a 0 = (d : Int) - 1 - k ∧ D (k + 1) = (D k).set a 0
  wide : ∀ k, d + k < n → ∃ a : Nat, wideF W H (U k) = a ∧ a < n ∧ rs.getD a 0 = (d : Int) + k ∧ U (k + 1) = (U k).set a 1

theorem ranked_is (h : fieldOk W H xs = true) (hn : xs.length = n) (hd : icount 1 xs = d) :
    ∃ D U, Ranked W H xs n d (ranksG W H xs) D U := by
  have dn : d ≤ n := by rw [← hd, ← hn]; exact icount_le _ _
  have hdots := dots_of (field_bd rfl h).2.2.2.2.2.2.2.1
  have hz : (List.replicate n (0 : Int)).length = xs.length := by simp [hn]
  obtain ⟨rz, hrz⟩ : ∃ rz, List.replicate n (0 : Int) = rz := ⟨_, rfl⟩
  rw [hrz] at hz
  have hfd := (down_inv h rz d (by omega))
  rw [hd] at hfd
  obtain ⟨rd, hrd⟩ : ∃ rd, (downG W H xs d rz d).2 = rd := ⟨_, rfl⟩
  rw [hrd] at hfd
  have hrl : rd.length = xs.length := by rw [hfd.2.2.2, hz]
  have hg : ranksG W H xs = (upG W H xs d rd (n - d)).2 := by unfold ranksG; rw [hd, hn, hrz, hrd]
  have huf := up_inv h d rd (n - d) (by omega)
  have noDots : ∀ i, i < n → (downG W H xs d rz d).1.getD i 0 = 0 := fun i hi => by
    have hd1 := dots_of (field_bd rfl hfd.1).2.2.2.2.2.2.2.1 i (by rw [hfd.2.1, hn]; exact hi)
    rcases hd1 with e | e
    · exact e
    · exfalso
      have h0 : icount 1 (downG W H xs d rz d).1 = 0 := by omega
      unfold icount at h0
      rw [List.length_eq_zero_iff, List.filter_eq_nil_iff] at h0
      have hlt : i < (downG W H xs d rz d).1.length := by rw [hfd.2.1, hn]; exact hi
      have := h0 ((downG W H xs d rz d).1[i]) (List.getElem_mem hlt)
      simp only [List.getD, List.getElem?_eq_getElem hlt, Option.getD_some] at e
      simp [e] at this
  have allDots : ∀ i, i < n → (upG W H xs d rd (n - d)).1.getD i 0 = 1 := fun i hi => by
    have hdd := dots_of (field_bd rfl huf.1).2.2.2.2.2.2.2.1
    rcases hdd i (by rw [huf.2.1, hn]; exact hi) with e | e
    · exfalso
      have hc := dots_count hdd
      have h0 : icount 0 (upG W H xs d rd (n - d)).1 = 0 := by rw [huf.2.1, huf.2.2.1] at hc; omega
      unfold icount at h0
      rw [List.length_eq_zero_iff, List.filter_eq_nil_iff] at h0
      have hlt : i < (upG W H xs d rd (n - d)).1.length := by rw [huf.2.1, hn]; exact hi
      have := h0 ((upG W H xs d rd (n - d)).1[i]) (List.getElem_mem hlt)
      simp only [List.getD, List.getElem?_eq_getElem hlt, Option.getD_some] at e
      simp [e] at this
    · exact e
  -- the ranks of dots and of voids
  have dAt := fun (k j i : Nat) (hi : i < xs.length) (hm : k + j ≤ d) => down_at h hd rz hz (k := k) hi j hm
  have uAt := fun (k j i : Nat) (hi : i < xs.length) (hm : d + (k + j) ≤ xs.length) => up_at h hd rd hrl (k := k) hi j hm
  have first : ∀ i, i < n → xs.getD i 0 = 1 → (ranksG W H xs).getD i 0 = rd.getD i 0 := fun i hi e => by
    have := uAt 0 (n - d) i (by omega) (by omega)
    rw [Nat.zero_add, ← hg] at this
    exact (this.1 e).2
  have one : ∀ i, i < n → xs.getD i 0 = 1 → 0 ≤ (ranksG W H xs).getD i 0 ∧ (ranksG W H xs).getD i 0 < d := fun i hi e => by
    have := dAt 0 d i (by omega) (by omega)
    rw [Nat.zero_add, hrd] at this
    rw [first i hi e]
    rcases this.2 e with ⟨q, _⟩ | ⟨_, q1, q2⟩
    · have := noDots i hi; omega
    · exact ⟨by omega, by omega⟩
  have zero : ∀ i, i < n → xs.getD i 0 = 0 → (d : Int) ≤ (ranksG W H xs).getD i 0 ∧ (ranksG W H xs).getD i 0 < n := fun i hi e => by
    have := uAt 0 (n - d) i (by omega) (by omega)
    rw [Nat.zero_add, ← hg] at this
    rcases this.2 e with ⟨q, _⟩ | ⟨_, q1, q2⟩
    · have := allDots i hi; omega
    · exact ⟨by omega, by omega⟩
  refine ⟨fun k => (downG W H xs d rz k).1, fun k => (upG W H xs d rd k).1, ?_, ?_, ?_, one, zero, ?_, ?_, ?_, ?_⟩
  · rw [hg, huf.2.2.2, hrl, hn]
  · intro k hk
    have := down_inv h rz k (by omega)
    rw [hd] at this
    exact ⟨by rw [this.2.1, hn], this.1⟩
  · intro k hk
    have := up_inv h d rd k (by omega)
    exact ⟨by rw [this.2.1, hn], this.1⟩
  · intro k i hk hi
    have t1 := dAt 0 k i (by omega) (by omega)
    have t2 := dAt k (d - k) i (by omega) (by omega)
    rw [Nat.zero_add] at t1
    rw [show k + (d - k) = d by omega, hrd] at t2
    have hv := noDots i hi
    rcases hdots i (by omega) with e | e
    · have c := t1.1 e
      have z := (zero i hi e).1
      rw [if_neg (by omega)]
      exact c.1
    · have r1 := first i hi e
      rcases t1.2 e with ⟨c, _⟩ | ⟨c, q1, q2⟩
      · rcases t2.2 c with ⟨c2, _⟩ | ⟨_, p1, p2⟩
        · omega
        · rw [if_pos (by omega)]; exact c
      · have p := t2.1 c
        rw [if_neg (by omega)]; exact c
  · intro k i hk hi
    have t1 := uAt 0 k i (by omega) (by omega)
    have t2 := uAt k (n - d - k) i (by omega) (by omega)
    rw [Nat.zero_add] at t1
    rw [show k + (n - d - k) = n - d by omega, ← hg] at t2
    have hv := allDots i hi
    rcases hdots i (by omega) with e | e
    · rcases t1.2 e with ⟨c, _⟩ | ⟨c, q1, q2⟩
      · rcases t2.2 c with ⟨c2, _⟩ | ⟨_, p1, p2⟩
        · omega
        · rw [if_neg (by omega)]; exact c
      · have p := t2.1 c
        rw [if_pos (by omega)]; exact c
    · have c := t1.1 e
      have z := (one i hi e).2
      rw [if_pos (by omega)]
      exact c.1
  · intro k hk
    obtain ⟨a, a1, a2, a3, a4, a5⟩ := down_step h hd rz hz hk
    refine ⟨a, a1, by omega, ?_, a4⟩
    have t2 := dAt (k + 1) (d - (k + 1)) a (by omega) (by omega)
    rw [show k + 1 + (d - (k + 1)) = d by omega, hrd] at t2
    have hx : xs.getD a 0 = 1 := by
      have t1 := dAt 0 k a (by omega) (by omega)
      rw [Nat.zero_add] at t1
      rcases hdots a (by omega) with e | e
      · have := (t1.1 e).1; omega
      · exact e
    have l1 : (downG W H xs d rz k).1.length = xs.length := by subst hd; exact (down_inv h rz k (by omega)).2.1
    have l2 : (downG W H xs d rz k).2.length = xs.length := by subst hd; rw [(down_inv h rz k (by omega)).2.2.2, hz]
    rw [a4, a5, getD_set_eq (by omega), getD_set_eq (by omega)] at t2
    rw [first a (by omega) hx]
    exact (t2.1 rfl).2
  · intro k hk
    obtain ⟨a, a1, a2, a3, a4, a5⟩ := up_step h hd rd hrl (k := k) (by omega)
    refine ⟨a, a1, by omega, ?_, a4⟩
    have t2 := uAt (k + 1) (n - d - (k + 1)) a (by omega) (by omega)
    rw [show k + 1 + (n - d - (k + 1)) = n - d by omega, ← hg] at t2
    have l1 : (upG W H xs d rd k).1.length = xs.length := (up_inv h d rd k (by omega)).2.1
    have l2 : (upG W H xs d rd k).2.length = xs.length := by rw [(up_inv h d rd k (by omega)).2.2.2, hrl]
    rw [a4, a5, getD_set_eq (by omega), getD_set_eq (by omega)] at t2
    exact (t2.1 rfl).2

end

theorem map_gen6 (xs : List Int) (f : Int → Int) (n : Nat) (h : xs.length = n) : xs.map f = gen n (fun i => f (xs.getD i 0)) := by
  refine gen_ext n _ _ (by simp [h]) (fun k hk => ?_)
  simp [List.getD, List.getElem?_map, List.getElem?_eq_getElem (show k < xs.length by omega)]

namespace Ranked
variable {W H : Int} {xs rs : List Int} {n d : Nat} {D U : Nat → List Int}

theorem range (R : Ranked W H xs n d rs D U) (hx : Dots xs) (hn : xs.length = n) (dn : d ≤ n) (i : Nat) (hi : i < n) : 0 ≤ rs.getD i 0 ∧ rs.getD i 0 < n := by
  rcases hx i (by omega) with e | e
  · have := R.zero i hi e; omega
  · have := R.one i hi e; omega

theorem lo (R : Ranked W H xs n d rs D U) {i : Nat} (hi : i < n) (h0 : 0 ≤ rs.getD i 0) (h : rs.getD i 0 < d) : tightF W H (rs.map (cellsG (rs.getD i 0 + 1))) = i ∧ fieldOk W H (rs.map (cellsG (rs.getD i 0 + 1))) = true := by
  obtain ⟨k, hk⟩ : ∃ k : Nat, (k : Int) = (d : Int) - 1 - rs.getD i 0 := ⟨((d : Int) - 1 - rs.getD i 0).toNat, by omega⟩
  obtain ⟨a, a1, a2, a3, a4⟩ := R.tight k (by omega)
  have l := R.dlen k (by omega)
  have e : rs.map (cellsG (rs.getD i 0 + 1)) = D k := by
    rw [map_gen6 rs _ n R.len]
    symm
    refine gen_ext n _ _ l.1 (fun j hj => ?_)
    rw [R.down k j (by omega) hj]
    unfold cellsG
    by_cases c : rs.getD j 0 < (d : Int) - k
    · rw [if_pos c, if_pos (by omega)]
    · rw [if_neg c, if_neg (by omega)]
  rw [e]
  refine ⟨?_, l.2⟩
  have : a = i := by
    by_cases c : a = i
    · exact c
    · exfalso
      have h1 := R.down (k + 1) i (by omega) hi
      rw [a4, getD_set_ne c, R.down k i (by omega) hi, if_pos (by omega), if_neg (by omega)] at h1
      omega
  rw [a1, this]

theorem hi (R : Ranked W H xs n d rs D U) {i : Nat} (hi : i < n) (h0 : (d : Int) ≤ rs.getD i 0) (h : rs.getD i 0 < n) : wideF W H (rs.map (cellsG (rs.getD i 0))) = i ∧ fieldOk W H (rs.map (cellsG (rs.getD i 0))) = true := by
  obtain ⟨k, hk⟩ : ∃ k : Nat, (k : Int) = rs.getD i 0 - d := ⟨(rs.getD i 0 - d).toNat, by omega⟩
  obtain ⟨a, a1, a2, a3, a4⟩ := R.wide k (by omega)
  have l := R.ulen k (by omega)
  have e : rs.map (cellsG (rs.getD i 0)) = U k := by
    rw [map_gen6 rs _ n R.len]
    symm
    refine gen_ext n _ _ l.1 (fun j hj => ?_)
    rw [R.up k j (by omega) hj]
    unfold cellsG
    by_cases c : rs.getD j 0 < (d : Int) + k
    · rw [if_pos c, if_pos (by omega)]
    · rw [if_neg c, if_neg (by omega)]
  rw [e]
  refine ⟨?_, l.2⟩
  have : a = i := by
    by_cases c : a = i
    · exact c
    · exfalso
      have h1 := R.up (k + 1) i (by omega) hi
      rw [a4, getD_set_ne c, R.up k i (by omega) hi, if_neg (by omega), if_pos (by omega)] at h1
      omega
  rw [a1, this]

theorem inj (R : Ranked W H xs n d rs D U) (hx : Dots xs) (hn : xs.length = n) (dn : d ≤ n) {i j : Nat} (hi : i < n) (hj : j < n) (e : rs.getD i 0 = rs.getD j 0) : i = j := by
  have b := R.range hx hn dn i hi
  by_cases c : rs.getD i 0 < d
  · have h1 := (R.lo hi b.1 c).1
    have h2 := (R.lo hj (by omega) (by omega)).1
    rw [← e, h1] at h2
    omega
  · have h1 := (R.hi hi (by omega) b.2).1
    have h2 := (R.hi hj (by omega) (by omega)).1
    rw [← e, h1] at h2
    omega

theorem mat (R : Ranked W H xs n d rs D U) (h : fieldOk W H xs = true) (hn : xs.length = n) (dn : d ≤ n) : matOk W H rs = true := by
  obtain ⟨b1, b2, b3, b4, b5, b6, b7, b8, _⟩ := field_bd hn h
  have hx := dots_of b8
  refine matOk_mk R.len (matSize_mk b1 b3 (by omega)) b5 ?_ ?_
  · refine inR_of (fun k hk => ?_)
    exact R.range hx hn dn k (by rw [R.len] at hk; exact hk)
  · rw [List.nodup_iff_pairwise_ne, List.pairwise_iff_getElem]
    intro i j hi hj hij e
    have := R.inj hx hn dn (i := i) (j := j) (by rw [R.len] at hi; exact hi) (by rw [R.len] at hj; exact hj) (by simp [List.getD, List.getElem?_eq_getElem hi, List.getElem?_eq_getElem hj, e])
    omega

theorem cells (R : Ranked W H xs n d rs D U) (hx : Dots xs) (hn : xs.length = n) : rs.map (cellsG d) = xs := by
  rw [map_gen6 rs _ n R.len]
  symm
  refine gen_ext n _ _ hn (fun j hj => ?_)
  unfold cellsG
  rcases hx j (by omega) with e | e
  · rw [if_neg (by have := R.zero j hj e; omega)]; exact e
  · rw [if_pos (R.one j hj e).2]; exact e

end Ranked

end Go.Proofs.Ytnhjdmdnicnmmaa
