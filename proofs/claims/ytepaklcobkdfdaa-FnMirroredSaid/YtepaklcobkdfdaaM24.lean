/-
  A run whose values lie in one row: where the walk has been, the errors; where it has not, what is to come. Nothing of the program.
-/
import Derived.Test.YtepaklcobkdfdaaM23
namespace Go.Proofs.Ytepaklcobkdfdaa
set_option linter.unusedVariables false
set_option linter.unusedSimpArgs false

section
variable {alt : Bool} {ks : List Prt} {W H : Int} {ink : List Int} {n : Nat}

/-- The state behind t steps: dots, one row of values, what is lost. -/
structure RunAt (alt : Bool) (ks : List Prt) (W H : Int) (ink : List Int) (n t : Nat) (ds rs : List Int) (L : Int) : Prop where
  hd : ds = (runG alt ks W H ink t).dots
  hL : L = (runG alt ks W H ink t).lost
  hl : rs.length = n
  old : ∀ i, i < t → i < n → rs.getD (posAt alt W i) 0 = (runG alt ks W H ink t).errs.getD (posAt alt W i) 0
  new : ∀ i, t ≤ i → i < n → rs.getD (posAt alt W i) 0 = (runG alt ks W H ink t).pend.getD (posAt alt W i) 0

theorem RunAt.start (h : RunOk alt ks W H ink n) : RunAt alt ks W H ink n 0 (List.replicate n 0) ink 0 :=
  ⟨by simp only [runG]; rw [h.hl], rfl, h.hl, fun i hi => by omega, fun i _ hi => rfl⟩

theorem gives_agree {S : Nat → Prop} {a b : List Int × Int} {T : Nat → Option Nat} {sh : List Int} (hl : a.1.length = b.1.length) (h : ∀ j, S j → a.1.getD j 0 = b.1.getD j 0) (h2 : a.2 = b.2) (k : Nat) :
    (∀ j, S j → (gives T sh a k).1.getD j 0 = (gives T sh b k).1.getD j 0) ∧ (gives T sh a k).2 = (gives T sh b k).2 := by
  induction k with
  | zero => exact ⟨h, h2⟩
  | succ k ih =>
    simp only [gives]
    exact ⟨give_agree (by rw [gives_len, gives_len, hl]) ih.1, give_lost _ _ _ _ ih.2⟩

/-- What a step finds. -/
theorem RunAt.here {t : Nat} {ds rs : List Int} {L : Int} (h : RunOk alt ks W H ink n) (r : RunAt alt ks W H ink n t ds rs L) (ht : t < n) :
    rs.getD (posAt alt W t) 0 = (runG alt ks W H ink t).pend.getD (posAt alt W t) 0 ∧ ds.getD (posAt alt W t) 0 = 0 ∧ -300000 ≤ rs.getD (posAt alt W t) 0 ∧ rs.getD (posAt alt W t) 0 ≤ 300000 := by
  have e := r.new t (Nat.le_refl _) ht
  have b := run_val h t (by omega) (posAt alt W t)
  have z := (run_inv h t (by omega)).2.1 t (Nat.le_refl _) ht
  exact ⟨e, by rw [r.hd]; exact z.1, by omega, by omega⟩

/-- What the shares of a step find. -/
theorem RunAt.mid {t : Nat} {ds rs : List Int} {L : Int} (h : RunOk alt ks W H ink n) (r : RunAt alt ks W H ink n t ds rs L) (ht : t < n) (k : Nat) (hk : k ≤ ks.length) :
    (∀ i, t < i → i < n → (givesAt alt ks W H t (errOf (rs.getD (posAt alt W t) 0)) (rs.set (posAt alt W t) (errOf (rs.getD (posAt alt W t) 0)), L) k).1.getD (posAt alt W i) 0 = (givesAt alt ks W H t (errOf ((runG alt ks W H ink t).pend.getD (posAt alt W t) 0)) ((runG alt ks W H ink t).pend.set (posAt alt W t) 0, (runG alt ks W H ink t).lost) k).1.getD (posAt alt W i) 0) ∧
    (givesAt alt ks W H t (errOf (rs.getD (posAt alt W t) 0)) (rs.set (posAt alt W t) (errOf (rs.getD (posAt alt W t) 0)), L) k).2 = (givesAt alt ks W H t (errOf ((runG alt ks W H ink t).pend.getD (posAt alt W t) 0)) ((runG alt ks W H ink t).pend.set (posAt alt W t) 0, (runG alt ks W H ink t).lost) k).2 := by
  have e := (r.here h ht).1
  rw [e]
  unfold givesAt
  have l2 := (run_len (alt := alt) (ks := ks) (W := W) (H := H) (ink := ink) t).2.1
  have g := gives_agree (S := fun j => ∃ i, t < i ∧ i < n ∧ j = posAt alt W i) (a := (rs.set (posAt alt W t) (errOf ((runG alt ks W H ink t).pend.getD (posAt alt W t) 0)), L)) (b := ((runG alt ks W H ink t).pend.set (posAt alt W t) 0, (runG alt ks W H ink t).lost))
    (T := fun q => tgtAt alt W H t (prt ks q)) (sh := sharesG ks (wtTo ks ks.length) (errOf ((runG alt ks W H ink t).pend.getD (posAt alt W t) 0)))
    (by simp only [List.length_set]; rw [r.hl, l2, h.hl]) (fun j hj => by
      obtain ⟨i, hi1, hi2, rfl⟩ := hj
      simp only
      rw [getD_set_ne _ _ (h.ne ht hi2 (by omega)), getD_set_ne _ _ (h.ne ht hi2 (by omega))]
      exact r.new i (by omega) hi2) r.hL k
  exact ⟨fun i h1 h2 => g.1 _ ⟨i, h1, h2, rfl⟩, g.2⟩

/-- A share stays in bounds. -/
theorem RunAt.safe {t : Nat} {ds rs : List Int} {L : Int} (h : RunOk alt ks W H ink n) (r : RunAt alt ks W H ink n t ds rs L) (ht : t < n) (k : Nat) (hk : k < ks.length) :
    -300000 ≤ (givesAt alt ks W H t (errOf (rs.getD (posAt alt W t) 0)) (rs.set (posAt alt W t) (errOf (rs.getD (posAt alt W t) 0)), L) k).2 ∧ (givesAt alt ks W H t (errOf (rs.getD (posAt alt W t) 0)) (rs.set (posAt alt W t) (errOf (rs.getD (posAt alt W t) 0)), L) k).2 ≤ 300000 ∧
    ∀ i, tgtAt alt W H t (prt ks k) = some i → -300000 ≤ (givesAt alt ks W H t (errOf (rs.getD (posAt alt W t) 0)) (rs.set (posAt alt W t) (errOf (rs.getD (posAt alt W t) 0)), L) k).1.getD i 0 ∧ (givesAt alt ks W H t (errOf (rs.getD (posAt alt W t) 0)) (rs.set (posAt alt W t) (errOf (rs.getD (posAt alt W t) 0)), L) k).1.getD i 0 ≤ 300000 := by
  obtain ⟨m1, m2⟩ := r.mid h ht k (by omega)
  have b := fun j => mid_val h t ht k (by omega) j
  refine ⟨by rw [m2]; exact (b 0).2.2.1, by rw [m2]; exact (b 0).2.2.2, fun i hi => ?_⟩
  obtain ⟨q, q1, q2, rfl⟩ := h.tgt ht hk hi
  rw [m1 q q1 q2]
  exact ⟨(b _).1, (b _).2.1⟩

/-- One step on. -/
theorem RunAt.step {t : Nat} {ds rs : List Int} {L : Int} (h : RunOk alt ks W H ink n) (r : RunAt alt ks W H ink n t ds rs L) (ht : t < n) :
    RunAt alt ks W H ink n (t + 1) (ds.set (posAt alt W t) (dotOf (rs.getD (posAt alt W t) 0)))
      (givesAt alt ks W H t (errOf (rs.getD (posAt alt W t) 0)) (rs.set (posAt alt W t) (errOf (rs.getD (posAt alt W t) 0)), L) ks.length).1
      (givesAt alt ks W H t (errOf (rs.getD (posAt alt W t) 0)) (rs.set (posAt alt W t) (errOf (rs.getD (posAt alt W t) 0)), L) ks.length).2 := by
  obtain ⟨m1, m2⟩ := r.mid h ht ks.length (Nat.le_refl _)
  have e := (r.here h ht).1
  obtain ⟨l1, l2, l3⟩ := run_len (alt := alt) (ks := ks) (W := W) (H := H) (ink := ink) t
  have hp := h.pos (alt := alt) ht
  refine ⟨by rw [r.hd, e]; rfl, by rw [m2]; rfl, by rw [givesAt_len]; simpa using r.hl, fun i hi hin => ?_, fun i hi hin => ?_⟩
  · have no : ∀ q, q < ks.length → tgtAt alt W H t (prt ks q) ≠ some (posAt alt W i) := fun q hq hT => by
      obtain ⟨m, k1, k2, k3⟩ := h.tgt ht hq hT
      exact h.ne hin k2 (by omega) k3
    have g : (givesAt alt ks W H t (errOf (rs.getD (posAt alt W t) 0)) (rs.set (posAt alt W t) (errOf (rs.getD (posAt alt W t) 0)), L) ks.length).1.getD (posAt alt W i) 0 = (rs.set (posAt alt W t) (errOf (rs.getD (posAt alt W t) 0))).getD (posAt alt W i) 0 := gives_else no
    rw [g]
    simp only [runG, passG]
    by_cases c : i = t
    · subst c
      rw [getD_set _ _ _ _ (by rw [r.hl]; exact hp), if_pos rfl, getD_set _ _ _ _ (by rw [l3, h.hl]; exact hp), if_pos rfl, e]
    · rw [getD_set_ne _ _ (h.ne ht hin (by omega)), getD_set_ne _ _ (h.ne ht hin (by omega))]
      exact r.old i (by omega) hin
  · rw [m1 i (by omega) hin]
    rfl

/-- Behind the last step. -/
theorem RunAt.done {ds rs : List Int} {L : Int} (h : RunOk alt ks W H ink n) (r : RunAt alt ks W H ink n n ds rs L) : ds = (runG alt ks W H ink n).dots ∧ rs = (runG alt ks W H ink n).errs ∧ L = (runG alt ks W H ink n).lost := by
  refine ⟨r.hd, ?_, r.hL⟩
  have l3 := (run_len (alt := alt) (ks := ks) (W := W) (H := H) (ink := ink) n).2.2
  have hlr := r.hl
  have hli := h.hl
  apply List.ext_getElem?
  intro j
  by_cases hj : j < n
  · have q := h.pos (alt := alt) hj
    have := r.old (posAt alt W j) q q
    rw [posAt_inv h.W1 h.hn hj] at this
    simp only [List.getD, List.getElem?_eq_getElem (show j < rs.length by omega), List.getElem?_eq_getElem (show j < (runG alt ks W H ink n).errs.length by omega), Option.getD_some] at this
    rw [List.getElem?_eq_getElem (show j < rs.length by omega), List.getElem?_eq_getElem (show j < (runG alt ks W H ink n).errs.length by omega), this]
  · rw [List.getElem?_eq_none (by omega), List.getElem?_eq_none (by omega)]

/-! A run whose errors lie in a row of their own. -/

structure SpecAt (alt : Bool) (ks : List Prt) (W H : Int) (ink : List Int) (n t : Nat) (ds es vs : List Int) (L : Int) : Prop where
  hd : ds = (runG alt ks W H ink t).dots
  he : es = (runG alt ks W H ink t).errs
  hL : L = (runG alt ks W H ink t).lost
  hl : vs.length = n
  new : ∀ i, t ≤ i → i < n → vs.getD (posAt alt W i) 0 = (runG alt ks W H ink t).pend.getD (posAt alt W i) 0

theorem SpecAt.start (h : RunOk alt ks W H ink n) : SpecAt alt ks W H ink n 0 (List.replicate n 0) (List.replicate n 0) ink 0 :=
  ⟨by simp only [runG]; rw [h.hl], by simp only [runG]; rw [h.hl], rfl, h.hl, fun i _ hi => rfl⟩

theorem SpecAt.here {t : Nat} {ds es vs : List Int} {L : Int} (h : RunOk alt ks W H ink n) (r : SpecAt alt ks W H ink n t ds es vs L) (ht : t < n) :
    vs.getD (posAt alt W t) 0 = (runG alt ks W H ink t).pend.getD (posAt alt W t) 0 ∧ ds.getD (posAt alt W t) 0 = 0 ∧ -300000 ≤ vs.getD (posAt alt W t) 0 ∧ vs.getD (posAt alt W t) 0 ≤ 300000 ∧ -300000 ≤ L ∧ L ≤ 300000 := by
  have e := r.new t (Nat.le_refl _) ht
  have b := run_val h t (by omega) (posAt alt W t)
  have z := (run_inv h t (by omega)).2.1 t (Nat.le_refl _) ht
  exact ⟨e, by rw [r.hd]; exact z.1, by omega, by omega, by rw [r.hL]; omega, by rw [r.hL]; omega⟩

theorem SpecAt.mid {t : Nat} {ds es vs : List Int} {L : Int} (h : RunOk alt ks W H ink n) (r : SpecAt alt ks W H ink n t ds es vs L) (ht : t < n) (k : Nat) :
    (∀ i, t < i → i < n → (givesAt alt ks W H t (errOf (vs.getD (posAt alt W t) 0)) (vs, L) k).1.getD (posAt alt W i) 0 = (givesAt alt ks W H t (errOf ((runG alt ks W H ink t).pend.getD (posAt alt W t) 0)) ((runG alt ks W H ink t).pend.set (posAt alt W t) 0, (runG alt ks W H ink t).lost) k).1.getD (posAt alt W i) 0) ∧
    (givesAt alt ks W H t (errOf (vs.getD (posAt alt W t) 0)) (vs, L) k).2 = (givesAt alt ks W H t (errOf ((runG alt ks W H ink t).pend.getD (posAt alt W t) 0)) ((runG alt ks W H ink t).pend.set (posAt alt W t) 0, (runG alt ks W H ink t).lost) k).2 := by
  have e := (r.here h ht).1
  rw [e]
  unfold givesAt
  have l2 := (run_len (alt := alt) (ks := ks) (W := W) (H := H) (ink := ink) t).2.1
  have g := gives_agree (S := fun j => ∃ i, t < i ∧ i < n ∧ j = posAt alt W i) (a := (vs, L)) (b := ((runG alt ks W H ink t).pend.set (posAt alt W t) 0, (runG alt ks W H ink t).lost))
    (T := fun q => tgtAt alt W H t (prt ks q)) (sh := sharesG ks (wtTo ks ks.length) (errOf ((runG alt ks W H ink t).pend.getD (posAt alt W t) 0)))
    (by simp only [List.length_set]; rw [r.hl, l2, h.hl]) (fun j hj => by
      obtain ⟨i, hi1, hi2, rfl⟩ := hj
      simp only
      rw [getD_set_ne _ _ (h.ne ht hi2 (by omega))]
      exact r.new i (by omega) hi2) r.hL k
  exact ⟨fun i h1 h2 => g.1 _ ⟨i, h1, h2, rfl⟩, g.2⟩

theorem SpecAt.safe {t : Nat} {ds es vs : List Int} {L : Int} (h : RunOk alt ks W H ink n) (r : SpecAt alt ks W H ink n t ds es vs L) (ht : t < n) (k : Nat) (hk : k < ks.length) :
    -300000 ≤ (givesAt alt ks W H t (errOf (vs.getD (posAt alt W t) 0)) (vs, L) k).2 ∧ (givesAt alt ks W H t (errOf (vs.getD (posAt alt W t) 0)) (vs, L) k).2 ≤ 300000 ∧
    ∀ i, tgtAt alt W H t (prt ks k) = some i → i < n ∧ -300000 ≤ (givesAt alt ks W H t (errOf (vs.getD (posAt alt W t) 0)) (vs, L) k).1.getD i 0 ∧ (givesAt alt ks W H t (errOf (vs.getD (posAt alt W t) 0)) (vs, L) k).1.getD i 0 ≤ 300000 := by
  obtain ⟨m1, m2⟩ := r.mid h ht k
  have b := fun j => mid_val h t ht k (by omega) j
  refine ⟨by rw [m2]; exact (b 0).2.2.1, by rw [m2]; exact (b 0).2.2.2, fun i hi => ?_⟩
  obtain ⟨q, q1, q2, rfl⟩ := h.tgt ht hk hi
  rw [m1 q q1 q2]
  exact ⟨h.pos q2, (b _).1, (b _).2.1⟩

theorem SpecAt.step {t : Nat} {ds es vs : List Int} {L : Int} (h : RunOk alt ks W H ink n) (r : SpecAt alt ks W H ink n t ds es vs L) (ht : t < n) :
    SpecAt alt ks W H ink n (t + 1) (ds.set (posAt alt W t) (dotOf (vs.getD (posAt alt W t) 0))) (es.set (posAt alt W t) (errOf (vs.getD (posAt alt W t) 0)))
      (givesAt alt ks W H t (errOf (vs.getD (posAt alt W t) 0)) (vs, L) ks.length).1 (givesAt alt ks W H t (errOf (vs.getD (posAt alt W t) 0)) (vs, L) ks.length).2 := by
  obtain ⟨m1, m2⟩ := r.mid h ht ks.length
  have e := (r.here h ht).1
  exact ⟨by rw [r.hd, e]; rfl, by rw [r.he, e]; rfl, by rw [m2]; rfl, by rw [givesAt_len]; exact r.hl, fun i hi hin => by rw [m1 i (by omega) hin]; rfl⟩

end
end Go.Proofs.Ytepaklcobkdfdaa
