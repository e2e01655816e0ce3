/-
  What the functions of chapter 3 come to, as plain functions on lists; nothing of the program.
-/
import Derived.Test.YtafjpmlakpfidaaM2
namespace Go.Proofs.Ytafjpmlakpfidaa
set_option linter.unusedVariables false
set_option linter.unusedSimpArgs false

def matSize (W H : Int) : Bool := decide (1 ≤ W ∧ W ≤ 256 ∧ 1 ≤ H ∧ H ≤ 256 ∧ W * H ≤ 256)
def inR (xs : List Int) (n : Nat) : Bool := xs.all (fun v => decide (0 ≤ v ∧ v < (n : Int)))
def permOk (xs : List Int) : Bool := inR xs xs.length && decide xs.Nodup
def matOk (W H : Int) (xs : List Int) : Bool := matSize W H && (decide ((xs.length : Int) = W * H) && permOk xs)

theorem mul_bdM (W H : Int) (h1 : 1 ≤ W) (h2 : W ≤ 256) (h3 : 1 ≤ H) (h4 : H ≤ 256) : 1 ≤ W * H ∧ W * H ≤ 65536 := by
  constructor
  · have := Int.mul_le_mul h1 h3 (by omega) (by omega); omega
  · have := Int.mul_le_mul h2 h4 (by omega) (by omega); omega

theorem matSize_in {W H : Int} (h1 : 1 ≤ W) (h2 : W ≤ 256) (h3 : 1 ≤ H) (h4 : H ≤ 256) : matSize W H = decide (W * H ≤ 256) := by unfold matSize; simp [h1, h2, h3, h4]

theorem matSize_out {W H : Int} (c : ¬ (1 ≤ W ∧ W ≤ 256 ∧ 1 ≤ H ∧ H ≤ 256)) : matSize W H = false := by
  unfold matSize; rw [decide_eq_false_iff_not]; exact fun h => c ⟨h.1, h.2.1, h.2.2.1, h.2.2.2.1⟩

theorem matSize_bd {W H : Int} (h : matSize W H = true) : 1 ≤ W ∧ W ≤ 256 ∧ 1 ≤ H ∧ H ≤ 256 ∧ W * H ≤ 256 ∧ 1 ≤ W * H := by
  unfold matSize at h
  have h := of_decide_eq_true h
  exact ⟨h.1, h.2.1, h.2.2.1, h.2.2.2.1, h.2.2.2.2, (mul_bdM W H h.1 h.2.1 h.2.2.1 h.2.2.2.1).1⟩

theorem matSize_mk {W H : Int} (h1 : 1 ≤ W) (h3 : 1 ≤ H) (h5 : W * H ≤ 256) : matSize W H = true := by
  have e1 : W * 1 ≤ W * H := Int.mul_le_mul_of_nonneg_left h3 (by omega)
  have e2 : 1 * H ≤ W * H := Int.mul_le_mul_of_nonneg_right h1 (by omega)
  unfold matSize
  rw [decide_eq_true_iff]
  omega

theorem toNat_mulM {W H : Int} (h : matSize W H = true) : ((W * H).toNat : Int) = W * H ∧ (W * H).toNat ≤ 256 := by
  obtain ⟨_, _, _, _, h5, h6⟩ := matSize_bd h
  omega

theorem inR_at {xs : List Int} {n : Nat} (h : inR xs n = true) (k : Nat) (hk : k < xs.length) : 0 ≤ xs[k]?.getD 0 ∧ xs[k]?.getD 0 < (n : Int) := by
  unfold inR at h
  have := List.all_eq_true.1 h xs[k] (List.getElem_mem hk)
  simpa [List.getElem?_eq_getElem hk] using this

theorem inR_no {xs : List Int} {n : Nat} (k : Nat) (hk : k < xs.length) (h : ¬ (0 ≤ xs[k]?.getD 0 ∧ xs[k]?.getD 0 < (n : Int))) : inR xs n = false := by
  unfold inR
  rw [List.all_eq_false]
  refine ⟨xs[k], List.getElem_mem hk, ?_⟩
  simpa [List.getElem?_eq_getElem hk] using h

theorem inR_of {xs : List Int} {n : Nat} (h : ∀ k, k < xs.length → 0 ≤ xs[k]?.getD 0 ∧ xs[k]?.getD 0 < (n : Int)) : inR xs n = true := by
  unfold inR
  rw [List.all_eq_true]
  intro v hv
  obtain ⟨k, hk, rfl⟩ := List.getElem_of_mem hv
  have := h k hk
  simpa [List.getElem?_eq_getElem hk] using this

theorem inR_snoc {xs : List Int} {n k : Nat} (hk : k < xs.length) (h : inR (xs.take k) n = true) (h0 : 0 ≤ xs[k]?.getD 0) (h1 : xs[k]?.getD 0 < (n : Int)) : inR (xs.take (k + 1)) n = true := by
  unfold inR at h ⊢
  rw [List.take_succ_eq_append_getElem hk, List.all_append, h]
  simp only [List.getElem?_eq_getElem hk, Option.getD_some] at h0 h1
  simp [h0, h1]

theorem permOk_noR {xs : List Int} {n : Nat} (hn : xs.length = n) (k : Nat) (hk : k < n) (h : ¬ (0 ≤ xs[k]?.getD 0 ∧ xs[k]?.getD 0 < (n : Int))) : permOk xs = false := by
  unfold permOk; rw [inR_no k (by omega) (by rw [hn]; exact h)]; rfl

theorem permOk_bd {xs : List Int} (h : permOk xs = true) : inR xs xs.length = true ∧ xs.Nodup := by
  unfold permOk at h
  simpa using h

theorem permOk_mk {xs : List Int} {n : Nat} (hn : xs.length = n) (h : inR xs n = true) (h2 : xs.Nodup) : permOk xs = true := by
  unfold permOk; rw [hn, h]; simpa using h2

theorem permOk_noD {xs : List Int} (h : ¬ xs.Nodup) : permOk xs = false := by
  unfold permOk; simp [h]

theorem nodup_take_no {xs : List Int} {k : Nat} (hk : k < xs.length) (h : xs[k]?.getD 0 ∈ xs.take k) : ¬ xs.Nodup := by
  intro hd
  have h2 : (xs.take (k + 1)).Nodup := hd.sublist (List.take_sublist _ _)
  rw [List.take_succ_eq_append_getElem hk, List.nodup_append] at h2
  simp only [List.getElem?_eq_getElem hk, Option.getD_some] at h
  exact h2.2.2 _ h _ (by simp) rfl

theorem nodup_take_succ {xs : List Int} {k : Nat} (hk : k < xs.length) (hd : (xs.take k).Nodup) (h : ¬ xs[k]?.getD 0 ∈ xs.take k) : (xs.take (k + 1)).Nodup := by
  rw [List.take_succ_eq_append_getElem hk, List.nodup_append]
  simp only [List.getElem?_eq_getElem hk, Option.getD_some] at h
  refine ⟨hd, by simp, ?_⟩
  intro a ha b hb
  simp at hb
  subst hb
  intro e
  subst e
  exact h ha

theorem matOk_no1 {W H : Int} {xs : List Int} (h : matSize W H = false) : matOk W H xs = false := by unfold matOk; simp [h]

theorem matOk_no2 {W H : Int} {xs : List Int} {n : Nat} (hn : xs.length = n) (h : ¬ (n : Int) = W * H) : matOk W H xs = false := by unfold matOk; rw [hn]; simp [h]

theorem matOk_in {W H : Int} {xs : List Int} {n : Nat} (hn : xs.length = n) (h1 : matSize W H = true) (h : (n : Int) = W * H) : matOk W H xs = permOk xs := by unfold matOk; rw [hn]; simp [h, h1]

theorem matOk_bd {W H : Int} {xs : List Int} {n : Nat} (hn : xs.length = n) (h : matOk W H xs = true) : matSize W H = true ∧ (n : Int) = W * H ∧ inR xs n = true ∧ xs.Nodup := by
  unfold matOk at h
  simp only [Bool.and_eq_true, decide_eq_true_eq] at h
  obtain ⟨h1, h2, h3⟩ := h
  obtain ⟨h4, h5⟩ := permOk_bd h3
  exact ⟨h1, by rw [← hn]; exact h2, by rw [← hn]; exact h4, h5⟩

theorem matOk_mk {W H : Int} {xs : List Int} {n : Nat} (hn : xs.length = n) (h1 : matSize W H = true) (h2 : (n : Int) = W * H) (h3 : inR xs n = true) (h4 : xs.Nodup) : matOk W H xs = true := by
  rw [matOk_in hn h1 h2]; exact permOk_mk hn h3 h4

/-! Counting. -/

theorem icount_cons (v x : Int) (xs : List Int) : icount v (x :: xs) = (if x = v then 1 else 0) + icount v xs := by
  unfold icount
  by_cases h : x = v
  · subst h; simp; omega
  · simp [h]

theorem icount_pos {v : Int} {xs : List Int} (h : v ∈ xs) : 1 ≤ icount v xs := by
  unfold icount
  exact List.length_pos_of_mem (List.mem_filter.2 ⟨h, by simp⟩)

theorem nodup_of_icount {xs : List Int} (h : ∀ v, icount v xs ≤ 1) : xs.Nodup := by
  induction xs with
  | nil => exact List.nodup_nil
  | cons x xs ih =>
    rw [List.nodup_cons]
    refine ⟨fun hm => ?_, ih (fun v => ?_)⟩
    · have h1 := h x
      rw [icount_cons, if_pos rfl] at h1
      have := icount_pos hm
      omega
    · have h1 := h v
      rw [icount_cons] at h1
      omega

theorem icount_nodup {xs : List Int} (h : xs.Nodup) (v : Int) : icount v xs ≤ 1 := by
  induction xs with
  | nil => simp [icount]
  | cons x xs ih =>
    rw [List.nodup_cons] at h
    rw [icount_cons]
    by_cases e : x = v
    · subst e
      have h0 : icount x xs = 0 := by
        unfold icount
        rw [List.length_eq_zero_iff, List.filter_eq_nil_iff]
        intro a ha hq
        simp at hq
        subst hq
        exact h.1 ha
      rw [if_pos rfl, h0]
      omega
    · rw [if_neg e]
      have := ih h.2
      omega

def sumTo (f : Nat → Nat) : Nat → Nat
  | 0 => 0
  | n + 1 => sumTo f n + f n

theorem sumTo_congr {f g : Nat → Nat} {n : Nat} (h : ∀ r, r < n → f r = g r) : sumTo f n = sumTo g n := by
  induction n with
  | zero => rfl
  | succ n ih => simp only [sumTo]; rw [ih (fun r hr => h r (by omega)), h n (by omega)]

theorem sumTo_add (f g : Nat → Nat) (n : Nat) : sumTo (fun r => f r + g r) n = sumTo f n + sumTo g n := by
  induction n with
  | zero => rfl
  | succ n ih => simp only [sumTo]; rw [ih]; omega

theorem sumTo_one (x : Nat) (n : Nat) : sumTo (fun r => if x = r then 1 else 0) n = if x < n then 1 else 0 := by
  induction n with
  | zero => rfl
  | succ n ih =>
    simp only [sumTo]; rw [ih]
    by_cases h1 : x < n
    · rw [if_pos h1, if_neg (by omega), if_pos (by omega)]
    · by_cases h2 : x = n
      · rw [if_neg h1, if_pos h2, if_pos (by omega)]
      · rw [if_neg h1, if_neg h2, if_neg (by omega)]

theorem sumTo_le {f : Nat → Nat} {n : Nat} (h : ∀ r, r < n → f r ≤ 1) : sumTo f n ≤ n := by
  induction n with
  | zero => exact Nat.le_refl 0
  | succ n ih =>
    simp only [sumTo]
    have := ih (fun r hr => h r (by omega))
    have := h n (by omega)
    omega

theorem sumTo_full {f : Nat → Nat} {n : Nat} (h : ∀ r, r < n → f r ≤ 1) (hs : sumTo f n = n) : ∀ r, r < n → f r = 1 := by
  induction n with
  | zero => intro r hr; omega
  | succ n ih =>
    simp only [sumTo] at hs
    have h1 := sumTo_le (f := f) (n := n) (fun r hr => h r (by omega))
    have h2 := h n (by omega)
    intro r hr
    by_cases e : r = n
    · subst e; omega
    · exact ih (fun r hr => h r (by omega)) (by omega) r (by omega)

/-- How many are below a number. -/
def below (n : Int) (xs : List Int) : Nat := (xs.filter (fun v => decide (v < n))).length

theorem sum_icount {xs : List Int} (h : ∀ v, v ∈ xs → 0 ≤ v) (n : Nat) : sumTo (fun r => icount (r : Int) xs) n = below n xs := by
  induction xs with
  | nil =>
    have : ∀ n, sumTo (fun _ => 0) n = 0 := by intro n; induction n with | zero => rfl | succ n ih => simp only [sumTo]; omega
    simpa [icount, below] using this n
  | cons x xs ih =>
    have hx := h x (by simp)
    have e1 : sumTo (fun r => icount (r : Int) (x :: xs)) n = sumTo (fun r => (if x.toNat = r then 1 else 0) + icount (r : Int) xs) n := by
      refine sumTo_congr (fun r hr => ?_)
      rw [icount_cons]
      by_cases e : x = r
      · rw [if_pos e, if_pos (by omega)]
      · rw [if_neg e, if_neg (by omega)]
    rw [e1, sumTo_add, sumTo_one, ih (fun v hv => h v (by simp [hv]))]
    unfold below
    by_cases e : x < n
    · rw [if_pos (by omega)]
      simp [e]; omega
    · rw [if_neg (by omega)]
      simp [e]

theorem below_all {xs : List Int} {n : Nat} (h : inR xs n = true) : below n xs = xs.length := by
  unfold below
  unfold inR at h
  rw [List.filter_eq_self.2]
  intro a ha
  have := List.all_eq_true.1 h a ha
  simp at this ⊢
  exact this.2

theorem inR_mem {xs : List Int} {n : Nat} (h : inR xs n = true) {v : Int} (hv : v ∈ xs) : 0 ≤ v ∧ v < (n : Int) := by
  unfold inR at h
  have := List.all_eq_true.1 h v hv
  simpa using this

theorem perm_icount {xs : List Int} {n : Nat} (hn : xs.length = n) (h : inR xs n = true) (hd : xs.Nodup) : ∀ r, r < n → icount (r : Int) xs = 1 := by
  refine sumTo_full (fun r _ => icount_nodup hd _) ?_
  rw [sum_icount (fun v hv => (inR_mem h hv).1) n, below_all h, hn]

theorem perm_below {xs : List Int} {n : Nat} (hn : xs.length = n) (h : inR xs n = true) (hd : xs.Nodup) (m : Nat) (hm : m ≤ n) : below m xs = m := by
  rw [← sum_icount (fun v hv => (inR_mem h hv).1) m]
  have e : sumTo (fun r => icount (r : Int) xs) m = sumTo (fun _ => 1) m := sumTo_congr (fun r hr => perm_icount hn h hd r (by omega))
  rw [e]
  clear e hm
  induction m with
  | zero => rfl
  | succ m ih => simp only [sumTo]; omega

theorem icount_out {xs : List Int} {n : Nat} (h : inR xs n = true) (v : Int) (hv : ¬ (0 ≤ v ∧ v < n)) : icount v xs = 0 := by
  unfold icount
  rw [List.length_eq_zero_iff, List.filter_eq_nil_iff]
  intro a ha hq
  simp at hq
  subst hq
  exact hv (inR_mem h ha)

/-- The counts of the ranks, and the array of ones, behind k ranks. -/
def cntRow (xs : List Int) (k : Nat) : List Int := gen 256 (fun r => (icount (r : Int) (xs.take k) : Int))
def onceRow (k : Nat) : List Int := gen 256 (fun i => if i < k then 1 else 0)

theorem gen_set (n : Nat) (f g : Nat → Int) (r : Nat) (v : Int) (hr : r < n) (hv : g r = v) (h : ∀ i, i < n → i ≠ r → g i = f i) : (gen n f).set r v = gen n g := by
  refine gen_ext n g _ (by simp [gen_len]) (fun k hk => ?_)
  rw [getD_set _ _ _ _ (by rw [gen_len]; exact hr)]
  by_cases e : r = k
  · subst e; rw [if_pos rfl, hv]
  · rw [if_neg e, gen_get _ _ _ hk, h k hk (by omega)]

theorem gen_congr {n : Nat} {f g : Nat → Int} (h : ∀ i, i < n → f i = g i) : gen n f = gen n g := by
  refine gen_ext n g _ (by simp [gen_len]) (fun k hk => ?_)
  rw [gen_get _ _ _ hk, h k hk]

theorem cntRow_zero (xs : List Int) : cntRow xs 0 = List.replicate 256 0 := by
  unfold cntRow
  refine (gen_ext 256 _ _ List.length_replicate (fun k hk => ?_)).symm
  simp only [List.getD, List.getElem?_replicate, if_pos hk, Option.getD_some, List.take_zero]
  rfl

theorem onceRow_zero : onceRow 0 = List.replicate 256 0 := by
  unfold onceRow
  refine (gen_ext 256 _ _ List.length_replicate (fun k hk => ?_)).symm
  simp only [List.getD, List.getElem?_replicate, if_pos hk, Option.getD_some]
  rfl

theorem cntRow_at (xs : List Int) (k r : Nat) (hr : r < 256) : (cntRow xs k)[r]?.getD 0 = (icount (r : Int) (xs.take k) : Int) := gen_get 256 _ r hr

theorem cntRow_succ (xs : List Int) (k r : Nat) (hk : k < xs.length) (hr : r < 256) (he : xs[k]?.getD 0 = (r : Int)) : (cntRow xs k).set r ((icount (r : Int) (xs.take k) : Int) + 1) = cntRow xs (k + 1) := by
  refine gen_set 256 _ _ r _ hr ?_ (fun i hi hne => ?_)
  · rw [icount_yes _ _ _ hk he]; omega
  · rw [icount_no _ _ _ hk (by rw [he]; omega)]

theorem onceRow_succ (k : Nat) (hk : k < 256) : (onceRow k).set k 1 = onceRow (k + 1) := by
  refine gen_set 256 _ _ k _ hk ?_ (fun i hi hne => ?_)
  · rw [if_pos (by omega)]
  · by_cases h : i < k
    · rw [if_pos h, if_pos (by omega)]
    · rw [if_neg h, if_neg (by omega)]

theorem rows_eq {xs : List Int} {n : Nat} (hn : xs.length = n) (hm : n ≤ 256) (h : inR xs n = true) : decide (cntRow xs n = onceRow n) = permOk xs := by
  have ht : xs.take n = xs := List.take_of_length_le (by omega)
  by_cases hd : xs.Nodup
  · rw [permOk_mk hn h hd, decide_eq_true_iff]
    refine gen_congr (fun r hr => ?_)
    rw [ht]
    by_cases hrn : r < n
    · rw [perm_icount hn h hd r hrn, if_pos hrn]; rfl
    · rw [icount_out h _ (by omega), if_neg hrn]; rfl
  · rw [permOk_noD hd, decide_eq_false_iff_not]
    intro he
    apply hd
    apply nodup_of_icount
    intro v
    by_cases hv : 0 ≤ v ∧ v < (n : Int)
    · obtain ⟨r, rfl⟩ : ∃ r : Nat, v = r := ⟨v.toNat, by omega⟩
      have e1 := cntRow_at xs n r (by omega)
      rw [he, ht] at e1
      have e2 : (onceRow n)[r]?.getD 0 = if r < n then 1 else 0 := gen_get 256 _ r (by omega)
      rw [e2, if_pos (by omega)] at e1
      omega
    · rw [icount_out h v hv]; omega

/-! Ranks at places. -/

structure Mat where
  W : Int
  H : Int
  ranks : List Int

def noMat : Mat := ⟨0, 0, []⟩
def rankOf (W H : Int) (xs : List Int) (x y : Int) : Int := xs.getD (y % H * W + x % W).toNat 0
def rankAtF (W H : Int) (xs : List Int) (x y : Int) : Int := if matOk W H xs = true then rankOf W H xs x y else -1
def quarter (a b : Int) : Int := if a = 0 then (if b = 0 then 0 else 3) else (if b = 0 then 2 else 1)
def dblG (W H : Int) (xs : List Int) (i : Nat) : Int := 4 * rankOf W H xs ((i : Int) % (2 * W)) ((i : Int) / (2 * W)) + quarter ((i : Int) % (2 * W) / W) ((i : Int) / (2 * W) / H)
def dblM (m : Mat) : Mat := ⟨2 * m.W, 2 * m.H, gen (4 * m.ranks.length) (dblG m.W m.H m.ranks)⟩
def doubleF (W H : Int) (xs : List Int) : Mat × Bool := if matOk W H xs = true ∧ 4 * xs.length ≤ 256 then (dblM ⟨W, H, xs⟩, true) else (noMat, false)
def bayerM : Nat → Mat
  | 0 => ⟨1, 1, [0]⟩
  | k + 1 => dblM (bayerM k)
def bayerF (k : Int) : Mat × Bool := if 0 ≤ k ∧ k ≤ 4 then (bayerM k.toNat, true) else (noMat, false)
def rowF (W H : Int) : Mat × Bool := if matSize W H = true then (⟨W, H, gen (W * H).toNat (fun i => (i : Int))⟩, true) else (noMat, false)
def revF (W H : Int) (xs : List Int) : Mat := if matOk W H xs = true then ⟨W, H, xs.map (fun v => (xs.length : Int) - 1 - v)⟩ else noMat
def shiftG (W H : Int) (xs : List Int) (dx dy : Int) (i : Nat) : Int := rankOf W H xs ((i : Int) % W - dx) ((i : Int) / W - dy)
def shiftF (W H : Int) (xs : List Int) (dx dy : Int) : Mat := if matOk W H xs = true ∧ -1000 ≤ dx ∧ dx ≤ 1000 ∧ -1000 ≤ dy ∧ dy ≤ 1000 then ⟨W, H, gen xs.length (shiftG W H xs dx dy)⟩ else noMat
def cellsG (level v : Int) : Int := if v < level then 1 else 0
def cellsF (W H : Int) (xs : List Int) (level : Int) : Pic := if matOk W H xs = true ∧ 0 ≤ level ∧ level ≤ (xs.length : Int) ∧ sizeOk W H = true then ⟨W, H, xs.map (cellsG level)⟩ else noPic

theorem mod_bd (a : Int) {n : Int} (h : 1 ≤ n) : 0 ≤ a % n ∧ a % n < n := ⟨Int.emod_nonneg _ (by omega), Int.emod_lt_of_pos _ (by omega)⟩

theorem rank_idx {W H : Int} {n : Nat} (hn : (n : Int) = W * H) (hW : 1 ≤ W) (hH : 1 ≤ H) (x y : Int) : 0 ≤ y % H * W ∧ 0 ≤ y % H * W + x % W ∧ y % H * W + x % W < (n : Int) ∧ (y % H * W + x % W).toNat < n := by
  obtain ⟨x0, x1⟩ := mod_bd x hW
  obtain ⟨y0, y1⟩ := mod_bd y hH
  obtain ⟨r0, r1⟩ := row_bd x0 x1 y0 y1
  omega

theorem rankOf_bd {W H : Int} {xs : List Int} {n m : Nat} (hl : xs.length = n) (hn : (n : Int) = W * H) (hW : 1 ≤ W) (hH : 1 ≤ H) (h : inR xs m = true) (x y : Int) : 0 ≤ rankOf W H xs x y ∧ rankOf W H xs x y < (m : Int) := by
  unfold rankOf
  obtain ⟨_, _, _, h3⟩ := rank_idx hn hW hH x y
  have := inR_at h (y % H * W + x % W).toNat (by omega)
  simpa [List.getD] using this

theorem rankAtF_no {W H : Int} {xs : List Int} {x y : Int} (h : ¬ matOk W H xs = true) : rankAtF W H xs x y = -1 := by unfold rankAtF; rw [if_neg h]

theorem rankAtF_yes {W H : Int} {xs : List Int} {x y : Int} (h : matOk W H xs = true) : rankAtF W H xs x y = rankOf W H xs x y := by unfold rankAtF; rw [if_pos h]

theorem rowF_no {W H : Int} (h : ¬ matSize W H = true) : rowF W H = (noMat, false) := by unfold rowF; rw [if_neg h]

theorem rowF_yes {W H : Int} {n : Nat} (h : matSize W H = true) (hn : (n : Int) = W * H) : rowF W H = (⟨W, H, gen n (fun i => (i : Int))⟩, true) := by
  unfold rowF; rw [if_pos h, ← hn]; simp

theorem revF_no {W H : Int} {xs : List Int} (h : ¬ matOk W H xs = true) : revF W H xs = noMat := by unfold revF; rw [if_neg h]

theorem revF_yes {W H : Int} {xs : List Int} {n : Nat} (hn : xs.length = n) (h : matOk W H xs = true) : revF W H xs = ⟨W, H, xs.map (fun v => (n : Int) - 1 - v)⟩ := by unfold revF; rw [if_pos h, hn]

theorem shiftF_no {W H : Int} {xs : List Int} {dx dy : Int} (h : ¬ (matOk W H xs = true ∧ -1000 ≤ dx ∧ dx ≤ 1000 ∧ -1000 ≤ dy ∧ dy ≤ 1000)) : shiftF W H xs dx dy = noMat := by unfold shiftF; rw [if_neg h]

theorem shiftF_yes {W H : Int} {xs : List Int} {dx dy : Int} {n : Nat} (hn : xs.length = n) (h : matOk W H xs = true) (h1 : -1000 ≤ dx) (h2 : dx ≤ 1000) (h3 : -1000 ≤ dy) (h4 : dy ≤ 1000) : shiftF W H xs dx dy = ⟨W, H, gen n (shiftG W H xs dx dy)⟩ := by
  unfold shiftF; rw [if_pos ⟨h, h1, h2, h3, h4⟩, hn]

theorem cellsF_no {W H : Int} {xs : List Int} {l : Int} (h : ¬ (matOk W H xs = true ∧ 0 ≤ l ∧ l ≤ (xs.length : Int) ∧ sizeOk W H = true)) : cellsF W H xs l = noPic := by unfold cellsF; rw [if_neg h]

theorem cellsF_yes {W H : Int} {xs : List Int} {l : Int} {n : Nat} (hn : xs.length = n) (h : matOk W H xs = true) (h1 : 0 ≤ l) (h2 : l ≤ (n : Int)) (h3 : sizeOk W H = true) : cellsF W H xs l = ⟨W, H, xs.map (cellsG l)⟩ := by
  unfold cellsF; rw [if_pos ⟨h, h1, by rw [hn]; exact h2, h3⟩]

theorem doubleF_no {W H : Int} {xs : List Int} (h : ¬ (matOk W H xs = true ∧ 4 * xs.length ≤ 256)) : doubleF W H xs = (noMat, false) := by unfold doubleF; rw [if_neg h]

theorem doubleF_yes {W H : Int} {xs : List Int} (h : matOk W H xs = true) (h2 : 4 * xs.length ≤ 256) : doubleF W H xs = (dblM ⟨W, H, xs⟩, true) := by unfold doubleF; rw [if_pos ⟨h, h2⟩]

theorem quarter_bd (a b : Int) : 0 ≤ quarter a b ∧ quarter a b ≤ 3 := by
  unfold quarter
  split <;> split <;> omega

/-- A doubled matrix's cells. -/
theorem dbl_bd {W H : Int} {xs : List Int} {n m : Nat} (hl : xs.length = n) (hn : (n : Int) = W * H) (hW : 1 ≤ W) (hH : 1 ≤ H) (h : inR xs m = true) (i : Nat) : 0 ≤ dblG W H xs i ∧ dblG W H xs i < ((4 * m : Nat) : Int) := by
  unfold dblG
  have := rankOf_bd hl hn hW hH h ((i : Int) % (2 * W)) ((i : Int) / (2 * W))
  have := quarter_bd ((i : Int) % (2 * W) / W) ((i : Int) / (2 * W) / H)
  omega

theorem inR_gen {n m : Nat} {f : Nat → Int} (h : ∀ i, i < n → 0 ≤ f i ∧ f i < (m : Int)) : inR (gen n f) m = true := by
  refine inR_of (fun k hk => ?_)
  rw [gen_len] at hk
  have e : (gen n f)[k]?.getD 0 = f k := gen_get n f k hk
  rw [e]
  exact h k hk

/-- A matrix as plain data is handed back, in new memory or none. -/
def MatOut (w : World) (R : Mat) (e : Ending) (w' : World) : Prop :=
  ∃ a n c, e = .returned (.agg #[.int .i64 R.W, .int .i64 R.H, .slice a n c]) ∧ OwnA w' w.heap.size a n c R.ranks ∧ n ≤ 1048576 ∧ Go.RowKit.Below w.heap.size w w'
/-- A matrix and a bool are handed back. -/
def MatOut2 (w : World) (R : Mat × Bool) (e : Ending) (w' : World) : Prop :=
  ∃ a n c, e = .returned (.tuple #[.agg #[.int .i64 R.1.W, .int .i64 R.1.H, .slice a n c], .bool R.2]) ∧ OwnA w' w.heap.size a n c R.1.ranks ∧ n ≤ 1048576 ∧ Go.RowKit.Below w.heap.size w w'

end Go.Proofs.Ytafjpmlakpfidaa
