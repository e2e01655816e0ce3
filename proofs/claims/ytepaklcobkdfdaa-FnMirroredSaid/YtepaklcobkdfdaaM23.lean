/-
  The run of a diffusion: step by step, what holds of it, what is kept. Nothing of the program.
-/
import Derived.Test.YtepaklcobkdfdaaM22
namespace Go.Proofs.Ytepaklcobkdfdaa
set_option linter.unusedVariables false
set_option linter.unusedSimpArgs false

/-- A diffusion under way: the dots, the values that are still to come (0 where the walk has been), the errors (0 where it has not), what is lost. -/
structure Dif where
  dots : List Int
  pend : List Int
  errs : List Int
  lost : Int

def dotOf (v : Int) : Int := if 128 ≤ v then 1 else 0
def errOf (v : Int) : Int := v - 255 * dotOf v
def givesAt (alt : Bool) (ks : List Prt) (W H : Int) (i : Nat) (e : Int) (st : List Int × Int) (k : Nat) : List Int × Int :=
  gives (fun q => tgtAt alt W H i (prt ks q)) (sharesG ks (wtTo ks ks.length) e) st k
def passG (alt : Bool) (ks : List Prt) (W H : Int) (d : Dif) (i : Nat) : Dif :=
  ⟨d.dots.set (posAt alt W i) (dotOf (d.pend.getD (posAt alt W i) 0)),
   (givesAt alt ks W H i (errOf (d.pend.getD (posAt alt W i) 0)) (d.pend.set (posAt alt W i) 0, d.lost) ks.length).1,
   d.errs.set (posAt alt W i) (errOf (d.pend.getD (posAt alt W i) 0)),
   (givesAt alt ks W H i (errOf (d.pend.getD (posAt alt W i) 0)) (d.pend.set (posAt alt W i) 0, d.lost) ks.length).2⟩
def runG (alt : Bool) (ks : List Prt) (W H : Int) (ink : List Int) : Nat → Dif
  | 0 => ⟨List.replicate ink.length 0, ink, List.replicate ink.length 0, 0⟩
  | i + 1 => passG alt ks W H (runG alt ks W H ink i) i

def diffF (ks : List Prt) (W H : Int) (xs : List Int) (alt : Bool) : Pic × Int × Bool :=
  if kernOk ks = true ∧ picOk W H xs 255 = true then (⟨W, H, (runG alt ks W H xs xs.length).dots⟩, (runG alt ks W H xs xs.length).lost, true) else (noPic, 0, false)
def errorsF (ks : List Prt) (W H : Int) (xs : List Int) (alt : Bool) : List Int :=
  if kernOk ks = true ∧ picOk W H xs 255 = true then (runG alt ks W H xs xs.length).errs else []

theorem diffF_no {ks : List Prt} {W H : Int} {xs : List Int} {alt : Bool} (h : ¬ (kernOk ks = true ∧ picOk W H xs 255 = true)) : diffF ks W H xs alt = (noPic, 0, false) := by unfold diffF; rw [if_neg h]
theorem diffF_yes {ks : List Prt} {W H : Int} {xs : List Int} {alt : Bool} {n : Nat} (hn : xs.length = n) (h1 : kernOk ks = true) (h2 : picOk W H xs 255 = true) : diffF ks W H xs alt = (⟨W, H, (runG alt ks W H xs n).dots⟩, (runG alt ks W H xs n).lost, true) := by unfold diffF; rw [if_pos ⟨h1, h2⟩, hn]
theorem errorsF_no {ks : List Prt} {W H : Int} {xs : List Int} {alt : Bool} (h : ¬ (kernOk ks = true ∧ picOk W H xs 255 = true)) : errorsF ks W H xs alt = [] := by unfold errorsF; rw [if_neg h]
theorem errorsF_yes {ks : List Prt} {W H : Int} {xs : List Int} {alt : Bool} {n : Nat} (hn : xs.length = n) (h1 : kernOk ks = true) (h2 : picOk W H xs 255 = true) : errorsF ks W H xs alt = (runG alt ks W H xs n).errs := by unfold errorsF; rw [if_pos ⟨h1, h2⟩, hn]

theorem errOf_abs (v : Int) : ((errOf v).natAbs : Int) ≤ (v.natAbs : Int) := by unfold errOf dotOf; split <;> omega

theorem dotOf_bd (v : Int) : 0 ≤ dotOf v ∧ dotOf v ≤ 1 := by unfold dotOf; split <;> omega

theorem rep0 (m j : Nat) : (List.replicate m (0 : Int)).getD j 0 = 0 := by
  by_cases h : j < m
  · simp [List.getD, List.getElem?_replicate, h]
  · simp [List.getD, List.getElem?_replicate, h]

section
variable {alt : Bool} {ks : List Prt} {W H : Int} {ink : List Int} {n : Nat}

theorem givesAt_len {i : Nat} {e : Int} {st : List Int × Int} {k : Nat} : (givesAt alt ks W H i e st k).1.length = st.1.length := gives_len _ _ _ _

theorem run_len (t : Nat) : (runG alt ks W H ink t).dots.length = ink.length ∧ (runG alt ks W H ink t).pend.length = ink.length ∧ (runG alt ks W H ink t).errs.length = ink.length := by
  induction t with
  | zero => simp [runG]
  | succ t ih =>
    obtain ⟨a, b, c⟩ := ih
    simp only [runG, passG, givesAt_len, List.length_set]
    exact ⟨a, b, c⟩

/-- What a run stands on. -/
structure RunOk (alt : Bool) (ks : List Prt) (W H : Int) (ink : List Int) (n : Nat) : Prop where
  W1 : 1 ≤ W
  hn : (n : Int) = W * H
  hl : ink.length = n
  hw : within ink 255 = true
  nb : n ≤ 1024
  hk : kernTo ks ks.length = true
  k1 : 1 ≤ ks.length
  k2 : ks.length ≤ 12

theorem RunOk.of (hn : ink.length = n) (h1 : kernOk ks = true) (h2 : picOk W H ink 255 = true) : RunOk alt ks W H ink n := by
  obtain ⟨a, b, c⟩ := picOk_bd hn h2
  obtain ⟨d, e, f⟩ := kernOk_bd rfl h1
  have s := sizeOk_bd a
  exact ⟨s.1, b, hn, c, by omega, f, d, e⟩

theorem RunOk.tgt (h : RunOk alt ks W H ink n) {i q j : Nat} (hi : i < n) (hq : q < ks.length) (ht : tgtAt alt W H i (prt ks q) = some j) : ∃ k, i < k ∧ k < n ∧ j = posAt alt W k :=
  tgt_later h.W1 h.hn hi (kern_part h.hk hq).1 ht

theorem RunOk.pos (h : RunOk alt ks W H ink n) {i : Nat} (hi : i < n) : posAt alt W i < n := (posAt_at h.W1 h.hn hi).1

theorem RunOk.ne (h : RunOk alt ks W H ink n) {i k : Nat} (hi : i < n) (hk : k < n) (hne : i ≠ k) : posAt alt W i ≠ posAt alt W k := fun e => hne (posAt_inj h.W1 h.hn hi hk e)

theorem getD_set_ne (ys : List Int) {a b : Nat} (v : Int) (h : a ≠ b) : (ys.set a v).getD b 0 = ys.getD b 0 := by
  simp [List.getD, List.getElem?_set, h]

/-- The bound, and where the walk has not been. -/
theorem run_inv (h : RunOk alt ks W H ink n) (t : Nat) (ht : t ≤ n) :
    asum (runG alt ks W H ink t).pend + ((runG alt ks W H ink t).lost.natAbs : Int) ≤ 255 * (n : Int) + 24 * t ∧
    (∀ i, t ≤ i → i < n → (runG alt ks W H ink t).dots.getD (posAt alt W i) 0 = 0 ∧ (runG alt ks W H ink t).errs.getD (posAt alt W i) 0 = 0) ∧
    (∀ i, i < t → (runG alt ks W H ink t).pend.getD (posAt alt W i) 0 = 0) ∧
    (∀ j, (((runG alt ks W H ink t).errs.getD j 0).natAbs : Int) ≤ 255 * (n : Int) + 24 * t) ∧
    isum (runG alt ks W H ink t).pend + (runG alt ks W H ink t).lost + 255 * isum (runG alt ks W H ink t).dots = isum ink ∧ within (runG alt ks W H ink t).dots 1 = true := by
  induction t with
  | zero =>
    have a := asum_within h.hw
    rw [h.hl] at a
    refine ⟨by simp only [runG]; simpa using a, fun i _ hi => ?_, fun i hi => by omega, fun j => ?_, ?_, ?_⟩
    · exact ⟨rep0 _ _, rep0 _ _⟩
    · simp only [runG]
      rw [rep0]; simp; omega
    · have z : ∀ m : Nat, isum (List.replicate m (0 : Int)) = 0 := fun m => by induction m with
        | zero => rfl
        | succ m ih => simp [List.replicate_succ, isum, ih]
      simp only [runG, z]; omega
    · simp only [runG, within, List.all_eq_true]
      intro x hx
      have := List.eq_of_mem_replicate hx
      subst this; decide
  | succ t ih =>
    obtain ⟨b1, b2, b3, b4, b5, b6⟩ := ih (by omega)
    obtain ⟨l1, l2, l3⟩ := run_len (alt := alt) (ks := ks) (W := W) (H := H) (ink := ink) t
    obtain ⟨d, hd⟩ : ∃ d, runG alt ks W H ink t = d := ⟨_, rfl⟩
    have hr : runG alt ks W H ink (t + 1) = passG alt ks W H d t := by rw [runG, hd]
    rw [hd] at b1 b2 b3 b4 b5 b6 l1 l2 l3
    rw [hr]
    clear hr hd
    have hj := h.pos (show t < n by omega)
    have hjl : posAt alt W t < d.pend.length := by rw [l2, h.hl]; exact hj
    obtain ⟨v, hv⟩ : ∃ v, d.pend.getD (posAt alt W t) 0 = v := ⟨_, rfl⟩
    have e1 := errOf_abs v
    have T1 : ∀ q j, q < ks.length → tgtAt alt W H t (prt ks q) = some j → j < (d.pend.set (posAt alt W t) 0, d.lost).1.length := fun q j hq ht' => by
      obtain ⟨k, k1, k2, rfl⟩ := h.tgt (show t < n by omega) hq ht'
      have := h.pos k2
      simp only [List.length_set]
      rw [l2, h.hl]; exact this
    have S := gives_sum (sh := sharesG ks (wtTo ks ks.length) (errOf v)) T1
    have A := gives_abs (sh := sharesG ks (wtTo ks ks.length) (errOf v)) T1
    have A2 := absTo_all (e := errOf v) rfl h.k1 h.k2 h.hk
    rw [shTo_all rfl h.k1] at S
    simp only at S A
    rw [isum_set _ _ _ hjl, hv] at S
    rw [asum_set _ _ _ hjl, hv] at A
    have P2 : ∀ i, i ≤ t → (gives (fun q => tgtAt alt W H t (prt ks q)) (sharesG ks (wtTo ks ks.length) (errOf v)) (d.pend.set (posAt alt W t) 0, d.lost) ks.length).1.getD (posAt alt W i) 0 = 0 := fun i hi => by
      rw [gives_else (fun q hq ht' => by
        obtain ⟨k, k1, k2, k3⟩ := h.tgt (show t < n by omega) hq ht'
        exact h.ne (show i < n by omega) k2 (by omega) k3)]
      by_cases e : i = t
      · subst e
        simp only
        rw [getD_set _ _ _ _ hjl, if_pos rfl]
      · simp only
        rw [getD_set_ne _ _ (h.ne (by omega) (by omega) (by omega))]
        exact b3 i (by omega)
    simp only [passG, hv, givesAt]
    refine ⟨?_, fun i hi hin => ?_, fun i hi => P2 i (by omega), fun j => ?_, ?_, ?_⟩
    · simp at A; omega
    · rw [getD_set_ne _ _ (h.ne (by omega) hin (by omega)), getD_set_ne _ _ (h.ne (by omega) hin (by omega))]
      exact b2 i (by omega) hin
    · by_cases e : posAt alt W t = j
      · subst e
        rw [getD_set _ _ _ _ (by rw [l3, h.hl]; exact hj), if_pos rfl]
        have := asum_at d.pend (posAt alt W t)
        rw [hv] at this
        omega
      · rw [getD_set_ne _ _ e]
        have := b4 j
        omega
    · rw [isum_set _ _ _ (by rw [l1, h.hl]; exact hj), (b2 t (Nat.le_refl _) (by omega)).1]
      unfold errOf at S ⊢
      omega
    · have dd := dotOf_bd v
      unfold within at b6 ⊢
      rw [List.all_eq_true] at b6 ⊢
      intro x hx
      rcases List.mem_or_eq_of_mem_set hx with hx | rfl
      · exact b6 x hx
      · simpa using dd

/-- A value on the way is no further from 0 than this. -/
theorem run_val (h : RunOk alt ks W H ink n) (t : Nat) (ht : t ≤ n) (j : Nat) : -300000 ≤ (runG alt ks W H ink t).pend.getD j 0 ∧ (runG alt ks W H ink t).pend.getD j 0 ≤ 300000 ∧ -300000 ≤ (runG alt ks W H ink t).errs.getD j 0 ∧ (runG alt ks W H ink t).errs.getD j 0 ≤ 300000 ∧ -300000 ≤ (runG alt ks W H ink t).lost ∧ (runG alt ks W H ink t).lost ≤ 300000 := by
  obtain ⟨b1, _, _, b4, _⟩ := run_inv h t ht
  have a := asum_at (runG alt ks W H ink t).pend j
  have c := b4 j
  have z := asum_at (runG alt ks W H ink t).pend n
  have := h.nb
  omega

/-- The same, behind the first k shares of a step. -/
theorem mid_val (h : RunOk alt ks W H ink n) (t : Nat) (ht : t < n) (k : Nat) (hk : k ≤ ks.length) (j : Nat) :
    -300000 ≤ (givesAt alt ks W H t (errOf ((runG alt ks W H ink t).pend.getD (posAt alt W t) 0)) ((runG alt ks W H ink t).pend.set (posAt alt W t) 0, (runG alt ks W H ink t).lost) k).1.getD j 0 ∧
    (givesAt alt ks W H t (errOf ((runG alt ks W H ink t).pend.getD (posAt alt W t) 0)) ((runG alt ks W H ink t).pend.set (posAt alt W t) 0, (runG alt ks W H ink t).lost) k).1.getD j 0 ≤ 300000 ∧
    -300000 ≤ (givesAt alt ks W H t (errOf ((runG alt ks W H ink t).pend.getD (posAt alt W t) 0)) ((runG alt ks W H ink t).pend.set (posAt alt W t) 0, (runG alt ks W H ink t).lost) k).2 ∧
    (givesAt alt ks W H t (errOf ((runG alt ks W H ink t).pend.getD (posAt alt W t) 0)) ((runG alt ks W H ink t).pend.set (posAt alt W t) 0, (runG alt ks W H ink t).lost) k).2 ≤ 300000 := by
  obtain ⟨b1, _⟩ := run_inv h t (by omega)
  obtain ⟨l1, l2, l3⟩ := run_len (alt := alt) (ks := ks) (W := W) (H := H) (ink := ink) t
  obtain ⟨d, hd⟩ : ∃ d, runG alt ks W H ink t = d := ⟨_, rfl⟩
  rw [hd] at b1 l2 ⊢
  have hjl : posAt alt W t < d.pend.length := by rw [l2, h.hl]; exact h.pos ht
  obtain ⟨v, hv⟩ : ∃ v, d.pend.getD (posAt alt W t) 0 = v := ⟨_, rfl⟩
  rw [hv]
  have e1 := errOf_abs v
  have A := gives_abs (k := k) (T := fun q => tgtAt alt W H t (prt ks q)) (sh := sharesG ks (wtTo ks ks.length) (errOf v)) (st := (d.pend.set (posAt alt W t) 0, d.lost)) (fun q j hq ht' => by
      obtain ⟨m, m1, m2, rfl⟩ := h.tgt ht (show q < ks.length by omega) ht'
      have := h.pos m2
      simp only [List.length_set]
      rw [l2, h.hl]; exact this)
  have A2 := absTo_all (e := errOf v) rfl h.k1 h.k2 h.hk
  have mono : ∀ (sh : List Int) (a b : Nat), a ≤ b → absTo sh a ≤ absTo sh b := by
    intro sh a b hab
    induction b with
    | zero => obtain rfl : a = 0 := by omega
              exact Int.le_refl _
    | succ b ih =>
      by_cases c : a = b + 1
      · subst c; exact Int.le_refl _
      · have := ih (by omega); simp only [absTo]; omega
  have A3 := mono (sharesG ks (wtTo ks ks.length) (errOf v)) k ks.length hk
  simp only at A
  rw [asum_set _ _ _ hjl, hv] at A
  have a := asum_at (gives (fun q => tgtAt alt W H t (prt ks q)) (sharesG ks (wtTo ks ks.length) (errOf v)) (d.pend.set (posAt alt W t) 0, d.lost) k).1 j
  have := h.nb
  unfold givesAt
  simp at A
  omega

/-- Behind the run nothing is to come. -/
theorem run_end (h : RunOk alt ks W H ink n) : isum (runG alt ks W H ink n).pend = 0 := by
  obtain ⟨_, _, b3, _⟩ := run_inv h n (Nat.le_refl _)
  have l2 := (run_len (alt := alt) (ks := ks) (W := W) (H := H) (ink := ink) n).2.1
  have z : ∀ x ∈ (runG alt ks W H ink n).pend, x = 0 := by
    intro x hx
    obtain ⟨j, hj, rfl⟩ := List.getElem_of_mem hx
    have hjn : j < n := by rw [l2, h.hl] at hj; exact hj
    have q := h.pos hjn
    have := b3 (posAt alt W j) q
    rw [posAt_inv h.W1 h.hn hjn] at this
    simpa [List.getD, hj] using this
  have : ∀ (xs : List Int), (∀ x ∈ xs, x = 0) → isum xs = 0 := by
    intro xs
    induction xs with
    | nil => intro _; rfl
    | cons x xs ih =>
      intro hz
      have h1 := hz x (by simp)
      have h2 := ih (fun y hy => hz y (by simp [hy]))
      simp only [isum]; omega
  exact this _ z

/-- Nothing is lost but what is told. -/
theorem run_kept (h : RunOk alt ks W H ink n) : (runG alt ks W H ink n).lost + 255 * isum (runG alt ks W H ink n).dots = isum ink := by
  have a := (run_inv h n (Nat.le_refl _)).2.2.2.2.1
  have b := run_end h
  omega

end
end Go.Proofs.Ytepaklcobkdfdaa
