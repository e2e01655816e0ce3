/-
  A stable sort by blocks, plain. Nothing of the program.
-/
import Derived.Test.YtnhjdmdnicnmmaaM33
namespace Go.Proofs.Ytnhjdmdnicnmmaa
set_option linter.unusedVariables false
set_option linter.unusedSimpArgs false

/-- A block is sorted, and holds just numbers of its own. -/
def Good (key : Int → Int) (f : Nat → Int) (x y : Nat) : Prop := Srt key f x y ∧ ∀ k, x ≤ k → k < y → (x : Int) ≤ f k ∧ f k < y

def AllGood (key : Int → Int) (f : Nat → Int) (bs n : Nat) : Prop := ∀ s, bs ∣ s → s < n → Good key f s (min (s + bs) n)

theorem Good.congr {key : Int → Int} {f g : Nat → Int} {x y : Nat} (h : Good key f x y) (e : ∀ k, x ≤ k → k < y → g k = f k) : Good key g x y :=
  ⟨fun i j p q r => by rw [e i p (by omega), e j (by omega) r]; exact h.1 i j p q r, fun k p q => by rw [e k p q]; exact h.2 k p q⟩

theorem Good.less {key : Int → Int} {f : Nat → Int} {x m y : Nat} (h1 : Good key f x m) (h2 : Good key f m y) : LLess f x m y := fun i j p q r t => by
  have a := (h1.2 i p q).2
  have b := (h2.2 j r t).1
  omega

theorem Good.merged {key : Int → Int} {f g : Nat → Int} {x m y : Nat} (h1 : Good key f x m) (h2 : Good key f m y) (hxm : x ≤ m) (hmy : m ≤ y) (hm : Merged key g f x y) : Good key g x y := by
  refine ⟨hm.srt, fun k p q => ?_⟩
  obtain ⟨k0, a0, a1, a2⟩ := hm.frm k p q
  rw [a2]
  by_cases c : k0 < m
  · have := h1.2 k0 a0 c; omega
  · have := h2.2 k0 (by omega) a1; omega

theorem dvd_next {d s a : Nat} (hs : d ∣ s) (ha : d ∣ a) (h : s < a) : s + d ≤ a := by
  obtain ⟨x, rfl⟩ := hs
  obtain ⟨y, rfl⟩ := ha
  have hd : 0 < d := by
    rcases Nat.eq_zero_or_pos d with e | e
    · subst e; simp at h
    · exact e
  have hxy : x < y := Nat.lt_of_mul_lt_mul_left h
  have := Nat.mul_le_mul_left d (show x + 1 ≤ y by omega)
  rw [Nat.mul_add, Nat.mul_one] at this
  exact this

/-- The state of a pass over the blocks: those ahead of a are merged by twos. -/
structure Pass (key : Int → Int) (f : Nat → Int) (bs n a : Nat) : Prop where
  pos : 1 ≤ bs
  da : 2 * bs ∣ a
  an : a ≤ n
  done : ∀ s, 2 * bs ∣ s → s < a → Good key f s (s + 2 * bs)
  rest : ∀ s, bs ∣ s → a ≤ s → s < n → Good key f s (min (s + bs) n)

theorem Pass.start {key : Int → Int} {f : Nat → Int} {bs n : Nat} (h : AllGood key f bs n) (hb : 1 ≤ bs) : Pass key f bs n 0 :=
  ⟨hb, Nat.dvd_zero _, Nat.zero_le _, fun s _ h => by omega, fun s h1 _ h3 => h s h1 h3⟩

theorem dvd_half {bs a : Nat} (h : 2 * bs ∣ a) : bs ∣ a := Nat.dvd_trans ⟨2, by rw [Nat.mul_comm]⟩ h

theorem Pass.two {key : Int → Int} {f : Nat → Int} {bs n a : Nat} (P : Pass key f bs n a) {e : Nat} (h1 : a + bs < e) (h2 : e ≤ a + 2 * bs) (he : e = a + 2 * bs ∨ e = n) (hn : e ≤ n) : Good key f a (a + bs) ∧ Good key f (a + bs) e := by
  have pos := P.pos
  have g1 := P.rest a (dvd_half P.da) (Nat.le_refl _) (by omega)
  have g2 := P.rest (a + bs) (Nat.dvd_add (dvd_half P.da) (Nat.dvd_refl _)) (by omega) (by omega)
  rw [show min (a + bs) n = a + bs by omega] at g1
  rw [show min (a + bs + bs) n = e by omega] at g2
  exact ⟨g1, g2⟩

theorem Pass.step {key : Int → Int} {f g : Nat → Int} {bs n a : Nat} (P : Pass key f bs n a) (h1 : a + 2 * bs ≤ n) (hm : Merged key g f a (a + 2 * bs)) : Pass key g bs n (a + 2 * bs) := by
  have pos := P.pos
  obtain ⟨g1, g2⟩ := P.two (e := a + 2 * bs) (by omega) (Nat.le_refl _) (Or.inl rfl) h1
  have g3 := g1.merged g2 (by omega) (by omega) hm
  refine ⟨pos, Nat.dvd_add P.da (Nat.dvd_refl _), h1, fun s hs hlt => ?_, fun s hs h2 h3 => ?_⟩
  · by_cases c : s < a
    · have := dvd_next hs P.da c
      exact (P.done s hs c).congr (fun k p q => hm.same k (by omega))
    · have : s = a := by
        by_cases e : s = a
        · exact e
        · have := dvd_next P.da hs (by omega); omega
      subst this
      exact g3
  · exact (P.rest s hs (by omega) h3).congr (fun k p q => hm.same k (by omega))

/-- The end of a pass, where a last block is merged. -/
theorem Pass.last {key : Int → Int} {f g : Nat → Int} {bs n a : Nat} (P : Pass key f bs n a) (h1 : n < a + 2 * bs) (h2 : a + bs < n) (hm : Merged key g f a n) : AllGood key g (2 * bs) n := by
  have pos := P.pos
  obtain ⟨g1, g2⟩ := P.two (e := n) h2 (by omega) (Or.inr rfl) (Nat.le_refl _)
  have g3 := g1.merged g2 (by omega) (by omega) hm
  intro s hs hlt
  by_cases c : s < a
  · have := dvd_next hs P.da c
    rw [show min (s + 2 * bs) n = s + 2 * bs by have := P.an; omega]
    exact (P.done s hs c).congr (fun k p q => hm.same k (by omega))
  · have : s = a := by
      by_cases e : s = a
      · exact e
      · have := dvd_next P.da hs (by omega); omega
    subst this
    rw [show min (s + 2 * bs) n = n by omega]
    exact g3

/-- .. and where none is. -/
theorem Pass.end_ {key : Int → Int} {f : Nat → Int} {bs n a : Nat} (P : Pass key f bs n a) (h1 : n < a + 2 * bs) (h2 : ¬ a + bs < n) : AllGood key f (2 * bs) n := by
  have pos := P.pos
  intro s hs hlt
  by_cases c : s < a
  · have := dvd_next hs P.da c
    rw [show min (s + 2 * bs) n = s + 2 * bs by have := P.an; omega]
    exact P.done s hs c
  · have : s = a := by
      by_cases e : s = a
      · exact e
      · have := dvd_next P.da hs (by omega); omega
    subst this
    have g := P.rest s (dvd_half P.da) (Nat.le_refl _) hlt
    rw [show min (s + bs) n = n by omega] at g
    rw [show min (s + 2 * bs) n = n by omega]
    exact g

theorem AllGood.whole {key : Int → Int} {f : Nat → Int} {bs n : Nat} (h : AllGood key f bs n) (h1 : n ≤ bs) (hn : 0 < n) : Good key f 0 n := by
  have := h 0 (Nat.dvd_zero _) hn
  rwa [show min (0 + bs) n = n by omega] at this

theorem AllGood.inRow {key : Int → Int} {f : Nat → Int} {bs n : Nat} (h : AllGood key f bs n) (hb : 1 ≤ bs) (k : Nat) (hk : k < n) : 0 ≤ f k ∧ f k < n := by
  have e := Nat.div_add_mod k bs
  have l := Nat.mod_lt k (show 0 < bs by omega)
  have g := h (bs * (k / bs)) (Nat.dvd_mul_right _ _) (by omega)
  have := g.2 k (by omega) (by omega)
  omega

theorem Pass.inRow {key : Int → Int} {f : Nat → Int} {bs n a : Nat} (P : Pass key f bs n a) (k : Nat) (hk : k < n) : 0 ≤ f k ∧ f k < n := by
  have pos := P.pos
  by_cases c : k < a
  · have e := Nat.div_add_mod k (2 * bs)
    have l := Nat.mod_lt k (show 0 < 2 * bs by omega)
    have hs : 2 * bs ∣ 2 * bs * (k / (2 * bs)) := Nat.dvd_mul_right _ _
    have g := (P.done (2 * bs * (k / (2 * bs))) hs (by omega)).2 k (by omega) (by omega)
    have := dvd_next hs P.da (by omega)
    have := P.an
    omega
  · have e := Nat.div_add_mod k bs
    have l := Nat.mod_lt k (show 0 < bs by omega)
    have hs : bs ∣ bs * (k / bs) := Nat.dvd_mul_right _ _
    have h2 : a ≤ bs * (k / bs) := by
      by_cases d : a ≤ bs * (k / bs)
      · exact d
      · have := dvd_next hs (dvd_half P.da) (by omega); omega
    have g := (P.rest (bs * (k / bs)) hs h2 (by omega)).2 k (by omega) (by omega)
    omega

/-- The state of the first pass: blocks of 20 ahead of a. -/
structure First (key : Int → Int) (f : Nat → Int) (n a : Nat) : Prop where
  da : 20 ∣ a
  an : a ≤ n
  done : ∀ s, 20 ∣ s → s < a → Good key f s (s + 20)
  rest : ∀ k, a ≤ k → k < n → f k = (k : Int)

theorem First.step {key : Int → Int} {f g : Nat → Int} {n a : Nat} (P : First key f n a) (h1 : a + 20 ≤ n) (hs : Srt key g a (a + 20)) (hv : ∀ p, a ≤ p → p < a + 20 → (a : Int) ≤ g p ∧ g p < (a + 20 : Nat)) (ho : ∀ p, p < a ∨ a + 20 ≤ p → g p = f p) : First key g n (a + 20) := by
  refine ⟨Nat.dvd_add P.da (Nat.dvd_refl _), h1, fun s h2 h3 => ?_, fun k h2 h3 => by rw [ho k (by omega)]; exact P.rest k (by omega) h3⟩
  by_cases c : s < a
  · have := dvd_next h2 P.da c
    exact (P.done s h2 c).congr (fun k p q => ho k (by omega))
  · have : s = a := by
      by_cases e : s = a
      · exact e
      · have := dvd_next P.da h2 (by omega); omega
    subst this
    exact ⟨hs, hv⟩

theorem First.last {key : Int → Int} {f g : Nat → Int} {n a : Nat} (P : First key f n a) (h1 : n < a + 20) (hs : Srt key g a n) (hv : ∀ p, a ≤ p → p < n → (a : Int) ≤ g p ∧ g p < n) (ho : ∀ p, p < a ∨ n ≤ p → g p = f p) : AllGood key g 20 n := by
  intro s h2 h3
  by_cases c : s < a
  · have := dvd_next h2 P.da c
    rw [show min (s + 20) n = s + 20 by have := P.an; omega]
    exact (P.done s h2 c).congr (fun k p q => ho k (by omega))
  · have : s = a := by
      by_cases e : s = a
      · exact e
      · have := dvd_next P.da h2 (by omega); omega
    subst this
    rw [show min (s + 20) n = n by omega]
    exact ⟨hs, hv⟩

end Go.Proofs.Ytnhjdmdnicnmmaa
