/-
  Texts of plates, plain: the bytes of a plate's rows, and what a text gives back. Nothing of the program.
-/
import Derived.Test.YtipcahcljfheaaaM43
import Derived.Lib.Bytealg
namespace Go.Proofs.Ytipcahcljfheaaa
set_option linter.unusedVariables false
set_option linter.unusedSimpArgs false

def dotB (v : Int) : UInt8 := if v = 1 then 35 else 46
def textAt (w : Nat) (xs : List Int) (j : Nat) : UInt8 := if j % (w + 1) = w then 10 else dotB (xs.getD (j / (w + 1) * w + j % (w + 1)) 0)
def textG (w h : Nat) (xs : List Int) : List UInt8 := (List.range ((w + 1) * h)).map (textAt w xs)

theorem textG_len (w h : Nat) (xs : List Int) : (textG w h xs).length = (w + 1) * h := by simp [textG]

theorem textG_at {w h : Nat} {xs : List Int} {j : Nat} (hj : j < (w + 1) * h) : (textG w h xs)[j]? = some (textAt w xs j) := by
  simp [textG, hj]

theorem row_split {w i : Nat} (hw : 0 < w) : i = w * (i / w) + i % w ∧ i % w < w := ⟨(Nat.div_add_mod i w).symm, Nat.mod_lt _ hw⟩

theorem text_dot {w : Nat} {xs : List Int} {i : Nat} (hw : 0 < w) : textAt w xs (i + i / w) = dotB (xs.getD i 0) := by
  obtain ⟨h1, h2⟩ := row_split (i := i) hw
  have e : i + i / w = (w + 1) * (i / w) + i % w := by rw [Nat.add_mul]; omega
  unfold textAt
  rw [e, Nat.mul_add_mod, Nat.mod_eq_of_lt (by omega : i % w < w + 1), Nat.mul_add_div (by omega), Nat.div_eq_of_lt (by omega : i % w < w + 1), if_neg (by omega), Nat.add_zero, Nat.mul_comm, ← h1]

theorem text_nl {w : Nat} {xs : List Int} {i : Nat} (hw : 0 < w) (hi : i % w = w - 1) : textAt w xs (i + i / w + 1) = 10 := by
  obtain ⟨h1, h2⟩ := row_split (i := i) hw
  have e : i + i / w + 1 = (w + 1) * (i / w) + w := by rw [Nat.add_mul]; omega
  unfold textAt
  rw [e, Nat.mul_add_mod, Nat.mod_eq_of_lt (by omega : w < w + 1), if_pos rfl]

theorem row_next {w i : Nat} (hw : 0 < w) : (i % w = w - 1 → (i + 1) / w = i / w + 1) ∧ (¬ i % w = w - 1 → (i + 1) / w = i / w) := by
  obtain ⟨h1, h2⟩ := row_split (i := i) hw
  constructor
  · intro h
    have e : i + 1 = w * (i / w + 1) := by rw [Nat.mul_succ]; omega
    rw [e, Nat.mul_div_cancel_left _ hw]
  · intro h
    have e : i + 1 = w * (i / w) + (i % w + 1) := by omega
    rw [e, Nat.mul_add_div hw, Nat.div_eq_of_lt (by omega : i % w + 1 < w), Nat.add_zero]

theorem row_bound {w h i : Nat} (hw : 0 < w) (hi : i < w * h) : i / w < h ∧ i + i / w < (w + 1) * h ∧ (i % w = w - 1 → i + i / w + 1 < (w + 1) * h) := by
  obtain ⟨h1, h2⟩ := row_split (i := i) hw
  have hd : i / w < h := by rw [Nat.div_lt_iff_lt_mul hw, Nat.mul_comm]; exact hi
  have hm : (w + 1) * (i / w + 1) ≤ (w + 1) * h := Nat.mul_le_mul_left _ hd
  rw [Nat.mul_succ, Nat.add_mul w 1 (i / w)] at hm
  exact ⟨hd, by omega, fun _ => by omega⟩

/-- The bytes of the first i points, the newlines behind full rows with them. -/
def textTo (w h : Nat) (xs : List Int) (i : Nat) : List UInt8 := (textG w h xs).take (i + i / w)

theorem take_bytes {l : List UInt8} {k : Nat} {c : UInt8} (h : l[k]? = some c) : l.take (k + 1) = l.take k ++ [c] := by
  have hk := (List.getElem?_eq_some_iff.1 h).1
  rw [List.take_succ_eq_append_getElem hk]
  rw [List.getElem?_eq_getElem hk] at h
  rw [Option.some.inj h]

theorem textTo_succ {w h : Nat} {xs : List Int} {i : Nat} (hw : 0 < w) (hi : i < w * h) :
    textTo w h xs (i + 1) = textTo w h xs i ++ (if i % w = w - 1 then [dotB (xs.getD i 0), 10] else [dotB (xs.getD i 0)]) := by
  obtain ⟨b1, b2, b3⟩ := row_bound hw hi
  obtain ⟨n1, n2⟩ := row_next (i := i) hw
  have hd := textG_at (xs := xs) b2
  rw [text_dot hw] at hd
  unfold textTo
  by_cases e : i % w = w - 1
  · have hn := textG_at (xs := xs) (b3 e)
    rw [text_nl hw e] at hn
    rw [if_pos e, n1 e, show i + 1 + (i / w + 1) = i + i / w + 1 + 1 by omega, take_bytes hn, take_bytes hd]
    simp
  · rw [if_neg e, n2 e, show i + 1 + i / w = i + i / w + 1 by omega, take_bytes hd]

theorem textTo_zero (w h : Nat) (xs : List Int) : textTo w h xs 0 = [] := by simp [textTo]

theorem textTo_all {w h : Nat} {xs : List Int} (hw : 0 < w) : textTo w h xs (w * h) = textG w h xs := by
  unfold textTo
  rw [Nat.mul_div_cancel_left _ hw, List.take_of_length_le]
  rw [textG_len, Nat.add_mul]; omega

/-! What a text gives back. -/

def stepC (s : List Int × Nat × Nat) (b : UInt8) : List Int × Nat × Nat :=
  if b = 35 then (s.1 ++ [1], s.2.1, s.2.2) else if b = 46 then (s.1 ++ [0], s.2.1, s.2.2) else if b = 10 then (s.1, s.2.1 + 1, if s.2.1 = 0 then s.1.length else s.2.2) else s

def colL (l : List UInt8) : List Int × Nat × Nat := l.foldl stepC ([], 0, 0)

theorem colL_snoc (l : List UInt8) (b : UInt8) : colL (l ++ [b]) = stepC (colL l) b := by simp [colL]

theorem dots_takeN {xs : List Int} {i : Nat} (h : i < xs.length) : xs.take (i + 1) = xs.take i ++ [xs.getD i 0] := by
  rw [List.take_succ_eq_append_getElem h]
  simp [List.getD, List.getElem?_eq_getElem h]

theorem stepC_dot {v : Int} (hv : v = 0 ∨ v = 1) (s : List Int × Nat × Nat) : stepC s (dotB v) = (s.1 ++ [v], s.2.1, s.2.2) := by
  rcases hv with rfl | rfl
  · simp [stepC, dotB]
  · simp [stepC, dotB]

theorem stepC_nl (s : List Int × Nat × Nat) : stepC s 10 = (s.1, s.2.1 + 1, if s.2.1 = 0 then s.1.length else s.2.2) := by simp [stepC]

/-- What is collected out of a plate's text: its amounts, its rows, its width. -/
theorem col_text {w h : Nat} {xs : List Int} (hw : 0 < w) (hh : 0 < h) (hl : xs.length = w * h) (hx : ∀ k, k < xs.length → xs.getD k 0 = 0 ∨ xs.getD k 0 = 1) :
    colL (textG w h xs) = (xs, h, w) := by
  have key : ∀ i, i ≤ w * h → colL (textTo w h xs i) = (xs.take i, i / w, if i / w = 0 then 0 else w) := by
    intro i
    induction i with
    | zero => intro _; simp [textTo_zero, colL]
    | succ i ih =>
      intro hi
      have ih := ih (by omega)
      obtain ⟨n1, n2⟩ := row_next (i := i) hw
      rw [textTo_succ hw (by omega)]
      by_cases e : i % w = w - 1
      · rw [if_pos e, show [dotB (xs.getD i 0), 10] = [dotB (xs.getD i 0)] ++ [10] by rfl, ← List.append_assoc, colL_snoc, colL_snoc, ih, stepC_dot (hx i (by omega)), stepC_nl, n1 e]
        simp only
        rw [← dots_takeN (by omega : i < xs.length)]
        congr 2
        rw [if_neg (Nat.succ_ne_zero _)]
        by_cases e2 : i / w = 0
        · rw [if_pos e2, List.length_take]
          obtain ⟨h1, h2⟩ := row_split (i := i) hw
          rw [e2, Nat.mul_zero] at h1
          omega
        · rw [if_neg e2, if_neg e2]
      · rw [if_neg e, colL_snoc, ih, stepC_dot (hx i (by omega)), n2 e]
        simp only
        rw [← dots_takeN (by omega : i < xs.length)]
  have h1 := key (w * h) (Nat.le_refl _)
  rw [textTo_all hw, Nat.mul_div_cancel_left _ hw, if_neg (by omega : ¬ h = 0), List.take_of_length_le (by omega)] at h1
  exact h1

theorem dotB_ne (v : Int) : dotB v ≠ 10 := by unfold dotB; split <;> decide

theorem text_rows {w h : Nat} {xs : List Int} (hw : 0 < w) : Lib.countByte (textG w h xs) 10 = h := by
  have key : ∀ i, i ≤ w * h → (textTo w h xs i).count 10 = i / w := by
    intro i
    induction i with
    | zero => intro _; simp [textTo_zero]
    | succ i ih =>
      intro hi
      have ih := ih (by omega)
      obtain ⟨n1, n2⟩ := row_next (i := i) hw
      have hd : List.count (10 : UInt8) [dotB (xs.getD i 0)] = 0 := by
        rw [List.count_eq_zero]
        intro hm
        exact dotB_ne _ (List.mem_singleton.1 hm).symm
      rw [textTo_succ hw (by omega), List.count_append, ih]
      by_cases e : i % w = w - 1
      · rw [if_pos e, n1 e, show [dotB (xs.getD i 0), 10] = [dotB (xs.getD i 0)] ++ [10] by rfl, List.count_append, hd]
        simp
      · rw [if_neg e, n2 e, hd, Nat.add_zero]
  have h1 := key (w * h) (Nat.le_refl _)
  rw [textTo_all hw, Nat.mul_div_cancel_left _ hw] at h1
  exact h1

theorem index_at : ∀ (l : List UInt8) (c : UInt8) (k : Nat), l[k]? = some c → (∀ j, j < k → l[j]? ≠ some c) → Lib.indexByte l c = k
  | [], c, k, h, _ => by simp at h
  | b :: l, c, 0, h, _ => by
    simp at h
    subst h
    simp [Lib.indexByte]
  | b :: l, c, k + 1, h, hn => by
    have h0 : b ≠ c := fun e => hn 0 (by omega) (by simp [e])
    have ih := index_at l c k (by simpa using h) (fun j hj => by have := hn (j + 1) (by omega); simpa using this)
    unfold Lib.indexByte
    rw [ih]
    have e1 : (b == c) = false := by simpa using h0
    have e2 : (((k : Nat) : Int) == -1) = false := by simp
    rw [e1, e2]
    simp

theorem text_width {w h : Nat} {xs : List Int} (hw : 0 < w) (hh : 0 < h) : Lib.indexByte (textG w h xs) 10 = w := by
  have hb : (w + 1) * 1 ≤ (w + 1) * h := Nat.mul_le_mul_left _ hh
  refine index_at _ _ w ?_ (fun j hj => ?_)
  · rw [textG_at (by omega)]
    unfold textAt
    rw [Nat.mod_eq_of_lt (by omega), if_pos rfl]
  · rw [textG_at (by omega)]
    unfold textAt
    rw [Nat.mod_eq_of_lt (by omega), if_neg (by omega)]
    intro e
    exact dotB_ne _ (Option.some.inj e)

/-- The amounts at the places of a text of this width. -/
def inkT (w h : Nat) (s : List UInt8) : List Int := gen (w * h) (fun i => if s.getD (i + i / w) 0 = 35 then 1 else 0)

theorem ink_text {w h : Nat} {xs : List Int} (hw : 0 < w) (hl : xs.length = w * h) (hx : ∀ k, k < xs.length → xs.getD k 0 = 0 ∨ xs.getD k 0 = 1) : inkT w h (textG w h xs) = xs := by
  unfold inkT
  refine (gen_ext _ _ _ hl (fun i hi => ?_)).symm
  obtain ⟨b1, b2, b3⟩ := row_bound hw hi
  have hd := textG_at (xs := xs) b2
  rw [text_dot hw] at hd
  simp only [List.getD, hd, Option.getD_some]
  have := hx i (by omega)
  simp only [List.getD] at this
  rcases this with e | e <;> rw [e] <;> simp [dotB]

def parseF (s : List UInt8) : Pic × Bool :=
  if sizeOk (Lib.indexByte s 10) (Lib.countByte s 10 : Nat) = true ∧ s.length = ((Lib.indexByte s 10).toNat + 1) * Lib.countByte s 10 ∧ textG (Lib.indexByte s 10).toNat (Lib.countByte s 10) (inkT (Lib.indexByte s 10).toNat (Lib.countByte s 10) s) = s
  then (⟨Lib.indexByte s 10, (Lib.countByte s 10 : Nat), inkT (Lib.indexByte s 10).toNat (Lib.countByte s 10) s⟩, true) else (noPic, false)

theorem plate_dots {W H : Int} {xs : List Int} (h : picOk W H xs 1 = true) : ∃ w h : Nat, W = (w : Int) ∧ H = (h : Int) ∧ 1 ≤ w ∧ w ≤ 64 ∧ 1 ≤ h ∧ h ≤ 64 ∧ w * h ≤ 1024 ∧ xs.length = w * h ∧ sizeOk W H = true ∧ ∀ k, k < xs.length → xs.getD k 0 = 0 ∨ xs.getD k 0 = 1 := by
  obtain ⟨h1, h2, h3⟩ := picOk_bd rfl h
  obtain ⟨b1, b2, b3, b4, b5, b6⟩ := sizeOk_bd h1
  refine ⟨W.toNat, H.toNat, by omega, by omega, by omega, by omega, by omega, by omega, ?_, ?_, h1, fun k hk => ?_⟩
  · have e : ((W.toNat * H.toNat : Nat) : Int) = W * H := by rw [Int.natCast_mul, Int.toNat_of_nonneg (by omega), Int.toNat_of_nonneg (by omega)]
    omega
  · have e : ((W.toNat * H.toNat : Nat) : Int) = W * H := by rw [Int.natCast_mul, Int.toNat_of_nonneg (by omega), Int.toNat_of_nonneg (by omega)]
    omega
  · have := within_at h3 k hk
    simp only [List.getD_eq_getElem?_getD]
    omega

/-- A plate's text is read back. -/
theorem parse_text {w h : Nat} {xs : List Int} (hp : picOk (w : Int) (h : Int) xs 1 = true) : parseF (textG w h xs) = (⟨(w : Int), (h : Int), xs⟩, true) := by
  obtain ⟨w2, h2, e1, e2, b1, b2, b3, b4, b5, hl, hs, hx⟩ := plate_dots hp
  obtain rfl : w = w2 := by omega
  obtain rfl : h = h2 := by omega
  have hi := text_width (xs := xs) (w := w) (h := h) (by omega) (by omega)
  have hc := text_rows (xs := xs) (w := w) (h := h) (by omega)
  have hk := ink_text (by omega : 0 < w) hl hx
  unfold parseF
  rw [hi, hc, Int.toNat_natCast, hk, if_pos ⟨hs, by rw [textG_len], rfl⟩]

theorem inkT_dots (w h : Nat) (s : List UInt8) : ∀ v, v ∈ inkT w h s → v = 0 ∨ v = 1 := by
  intro v hv
  unfold inkT gen at hv
  obtain ⟨i, _, rfl⟩ := List.mem_map.1 hv
  split
  · exact Or.inr rfl
  · exact Or.inl rfl

theorem inkT_plate {w h : Nat} {s : List UInt8} (hs : sizeOk (w : Int) (h : Int) = true) : picOk (w : Int) (h : Int) (inkT w h s) 1 = true := by
  unfold picOk
  have hw : within (inkT w h s) 1 = true := by
    unfold within
    rw [List.all_eq_true]
    intro v hv
    have := inkT_dots w h s v hv
    simp only [decide_eq_true_eq]
    omega
  rw [hs, hw, decide_eq_true (by unfold inkT; rw [gen_len]; push_cast; rfl)]
  rfl

/-- What is read is a plate with that text. -/
theorem parse_some {s : List UInt8} {P : Pic} (h : parseF s = (P, true)) : picOk P.W P.H P.ink 1 = true ∧ textG P.W.toNat P.H.toNat P.ink = s := by
  unfold parseF at h
  split at h
  · rename_i hc
    obtain ⟨h1, h2, h3⟩ := hc
    obtain ⟨b1, _⟩ := sizeOk_bd h1
    obtain ⟨w, hw⟩ : ∃ w : Nat, Lib.indexByte s 10 = w := ⟨(Lib.indexByte s 10).toNat, by omega⟩
    rw [hw, Int.toNat_natCast] at h h3
    rw [hw] at h1
    simp only [Prod.mk.injEq, and_true] at h
    subst h
    exact ⟨inkT_plate h1, by simpa using h3⟩
  · simp at h

theorem parse_no {s : List UInt8} (h : ∀ w h : Nat, ∀ xs, picOk (w : Int) (h : Int) xs 1 = true → textG w h xs = s → False) : parseF s = (noPic, false) := by
  unfold parseF
  split
  · rename_i hc
    obtain ⟨h1, h2, h3⟩ := hc
    obtain ⟨b1, _⟩ := sizeOk_bd h1
    exfalso
    refine h (Lib.indexByte s 10).toNat (Lib.countByte s 10) _ (inkT_plate ?_) h3
    rw [Int.toNat_of_nonneg (by omega)]
    exact h1
  · rfl

/-- As the model reads: what is collected is a plate with that text, or nothing is read. -/
theorem parse_col {s : List UInt8} : parseF s = if picOk ((colL s).2.2 : Nat) ((colL s).2.1 : Nat) (colL s).1 1 = true ∧ textG (colL s).2.2 (colL s).2.1 (colL s).1 = s then (⟨((colL s).2.2 : Nat), ((colL s).2.1 : Nat), (colL s).1⟩, true) else (noPic, false) := by
  split
  · rename_i h
    obtain ⟨h1, h2⟩ := h
    have := parse_text h1
    rw [h2] at this
    exact this
  · rename_i h
    refine parse_no (fun w h2 xs hp ht => h ?_)
    obtain ⟨w2, h3, e1, e2, b1, b2, b3, b4, b5, hl, hs, hx⟩ := plate_dots hp
    obtain rfl : w = w2 := by omega
    obtain rfl : h2 = h3 := by omega
    have := col_text (by omega : 0 < w) (by omega : 0 < h2) hl hx
    rw [ht] at this
    rw [this]
    exact ⟨hp, ht⟩

/-- A text that is read is short. -/
theorem parse_len {s : List UInt8} (h : 2048 < s.length) : parseF s = (noPic, false) := by
  refine parse_no (fun w h2 xs hp ht => ?_)
  obtain ⟨w2, h3, e1, e2, b1, b2, b3, b4, b5, hl, hs, hx⟩ := plate_dots hp
  obtain rfl : w = w2 := by omega
  obtain rfl : h2 = h3 := by omega
  rw [← ht, textG_len, Nat.add_mul] at h
  omega

end Go.Proofs.Ytipcahcljfheaaa
