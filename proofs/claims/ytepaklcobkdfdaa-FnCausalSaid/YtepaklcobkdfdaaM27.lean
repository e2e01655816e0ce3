/-
  What a run leaves where it has been; the run over an even picture of 0 or 255. Nothing of the program.
-/
import Derived.Test.YtepaklcobkdfdaaM23
namespace Go.Proofs.Ytepaklcobkdfdaa
set_option linter.unusedVariables false
set_option linter.unusedSimpArgs false

theorem pos_zero (alt : Bool) (W : Int) : posAt alt W 0 = 0 := by
  unfold posAt xAt
  simp

section
variable {alt : Bool} {ks : List Prt} {W H : Int} {ink : List Int} {n : Nat}

theorem run_done (h : RunOk alt ks W H ink n) {i : Nat} (t : Nat) (hi : i < t) (ht : t ≤ n) :
    (runG alt ks W H ink t).dots.getD (posAt alt W i) 0 = dotOf ((runG alt ks W H ink i).pend.getD (posAt alt W i) 0) ∧
    (runG alt ks W H ink t).errs.getD (posAt alt W i) 0 = errOf ((runG alt ks W H ink i).pend.getD (posAt alt W i) 0) := by
  induction t with
  | zero => omega
  | succ t ih =>
    obtain ⟨l1, l2, l3⟩ := run_len (alt := alt) (ks := ks) (W := W) (H := H) (ink := ink) t
    have hp := h.pos (show t < n by omega)
    have hl := h.hl
    simp only [runG, passG]
    by_cases e : i = t
    · subst e
      rw [getD_set _ _ _ _ (by omega), if_pos rfl, getD_set _ _ _ _ (by omega), if_pos rfl]
      exact ⟨rfl, rfl⟩
    · have hne := h.ne (show t < n by omega) (show i < n by omega) (fun q => e q.symm)
      rw [getD_set_ne _ _ hne, getD_set_ne _ _ hne]
      exact ih (by omega) (by omega)

theorem run_first (h : RunOk alt ks W H ink n) (hn : 1 ≤ n) :
    (runG alt ks W H ink n).errs.getD 0 0 = ink.getD 0 0 - 255 * (runG alt ks W H ink n).dots.getD 0 0 := by
  have h1 := run_done h (i := 0) n (by omega) (Nat.le_refl _)
  rw [pos_zero] at h1
  rw [h1.1, h1.2]
  rfl
end

theorem share_zero (ks : List Prt) (W : Int) (k : Nat) : (sharesG ks W 0).getD k 0 = 0 := by
  have hb : ∀ j, shareB ks W 0 j = 0 := fun j => by unfold shareB; simp
  have hs : ∀ j, shSum ks W 0 j = 0 := fun j => by
    induction j with
    | zero => rfl
    | succ j ih => rw [shSum, ih, hb]; rfl
  by_cases hk : k < ks.length
  · rw [sharesG_at ks W 0 k hk, hb, hs]
    split <;> rfl
  · have : (sharesG ks W 0).length ≤ k := by rw [sharesG_len]; omega
    simp [List.getD, List.getElem?_eq_none this]

theorem give_zero (st : List Int × Int) (t : Option Nat) : give st t 0 = st := by
  obtain ⟨l, x⟩ := st
  cases t with
  | none => simp [give]
  | some j =>
    simp only [give, Int.add_zero]
    congr 1
    apply List.ext_getElem?
    intro i
    rw [List.getElem?_set]
    by_cases e : j = i
    · subst e
      by_cases hl : j < l.length
      · simp [hl, List.getD]
      · simp [hl]
    · simp [e]

theorem gives_zero (T : Nat → Option Nat) {sh : List Int} (st : List Int × Int) (h : ∀ k, sh.getD k 0 = 0) (k : Nat) : gives T sh st k = st := by
  induction k with
  | zero => rfl
  | succ k ih => rw [gives, ih, h, give_zero]

theorem even_run {alt : Bool} {ks : List Prt} {W H v : Int} {n : Nat} (h : RunOk alt ks W H (List.replicate n v) n) (hv : errOf v = 0) (t : Nat) (ht : t ≤ n) :
    (∀ k, t ≤ k → k < n → (runG alt ks W H (List.replicate n v) t).pend.getD (posAt alt W k) 0 = v) ∧ (runG alt ks W H (List.replicate n v) t).lost = 0 := by
  induction t with
  | zero =>
    refine ⟨fun k _ hk => ?_, rfl⟩
    have hp := h.pos hk
    simp [runG, List.getD, hp]
  | succ t ih =>
    obtain ⟨a, b⟩ := ih (by omega)
    have e := a t (Nat.le_refl _) (by omega)
    simp only [runG, passG]
    rw [e, hv]
    unfold givesAt
    rw [gives_zero _ _ (share_zero ks _)]
    refine ⟨fun k hk hkn => ?_, b⟩
    rw [getD_set_ne _ _ (h.ne (by omega) hkn (by omega))]
    exact a k (by omega) hkn

theorem even_dots {alt : Bool} {ks : List Prt} {W H v : Int} {n : Nat} (h : RunOk alt ks W H (List.replicate n v) n) (hv : errOf v = 0) :
    (runG alt ks W H (List.replicate n v) n).dots = List.replicate n (dotOf v) ∧ (runG alt ks W H (List.replicate n v) n).lost = 0 := by
  refine ⟨?_, (even_run h hv n (Nat.le_refl _)).2⟩
  have hl : (runG alt ks W H (List.replicate n v) n).dots.length = n := by rw [(run_len n).1]; simp
  apply List.ext_getElem
  · rw [hl]; simp
  · intro j h1 h2
    have hj : j < n := by omega
    have p1 := h.pos hj
    have p2 := posAt_inv (alt := alt) h.W1 h.hn hj
    have d := (run_done h (i := posAt alt W j) n p1 (Nat.le_refl _)).1
    rw [p2] at d
    have e := (even_run h hv (posAt alt W j) (by omega)).1 (posAt alt W j) (Nat.le_refl _) p1
    rw [p2] at e
    rw [e] at d
    rw [List.getElem_replicate, ← d]
    simp [List.getD, List.getElem?_eq_getElem h1]

end Go.Proofs.Ytepaklcobkdfdaa
