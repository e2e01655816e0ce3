/-
  Contracts as FnCausal calls them: the first rows, equal pictures.
-/
import Derived.Test.YtepaklcobkdfdaaR19
import Derived.Test.YtepaklcobkdfdaaC7c
import Derived.Test.YtepaklcobkdfdaaU1
namespace Go.Proofs.Ytepaklcobkdfdaa
open Go.RowKit
set_option linter.unusedVariables false
set_option linter.unusedSimpArgs false

/-- What is taken of the first rows. -/
def topL (m : Nat) (xs : List Int) : List Int := gen m (fun i => xs.getD i 0)

theorem give_top {m : Nat} {a b : List Int × Int} {t u : Option Nat} {s : Int} (hm : m ≤ a.1.length) (hb : b.1.length = m) (htu : u = match t with | some j => if j < m then some j else none | none => none)
    (h : ∀ j, j < m → a.1.getD j 0 = b.1.getD j 0) : ∀ j, j < m → (give a t s).1.getD j 0 = (give b u s).1.getD j 0 := by
  intro j hj
  subst htu
  cases t with
  | none => exact h j hj
  | some i =>
    by_cases hi : i < m
    · simp only [hi, if_true]
      simp only [give]
      by_cases e : i = j
      · subst e
        rw [getD_set _ _ _ _ (by omega), getD_set _ _ _ _ (by omega), if_pos rfl, if_pos rfl, h i hj]
      · rw [getD_set_ne _ _ e, getD_set_ne _ _ e]; exact h j hj
    · simp only [hi, if_false]
      simp only [give]
      rw [getD_set_ne _ _ (by omega)]; exact h j hj

theorem gives_top {m : Nat} {T U : Nat → Option Nat} {sh : List Int} {a b : List Int × Int} (hm : m ≤ a.1.length) (hb : b.1.length = m) (k : Nat) (hTU : ∀ q, q < k → U q = match T q with | some j => if j < m then some j else none | none => none)
    (h : ∀ j, j < m → a.1.getD j 0 = b.1.getD j 0) : ∀ j, j < m → (gives T sh a k).1.getD j 0 = (gives U sh b k).1.getD j 0 := by
  induction k with
  | zero => exact h
  | succ k ih =>
    simp only [gives]
    exact give_top (by rw [gives_len]; exact hm) (by rw [gives_len]; exact hb) (hTU k (by omega)) (ih (fun q hq => hTU q (by omega)))

theorem tgt_top {alt : Bool} {W H h : Int} {m i : Nat} {p : Prt} (hW : 1 ≤ W) (hm : (m : Int) = W * h) (hh : h ≤ H) (hi : i < m) (hp : partOk p = true) :
    tgtAt alt W h i p = match tgtAt alt W H i p with | some j => if j < m then some j else none | none => none := by
  obtain ⟨p1, p2, p3, p4, p5, p6, p7⟩ := partOk_bd hp
  unfold tgtAt tgt
  have y0 : 0 ≤ (i : Int) / W := Int.ediv_nonneg (by omega) (by omega)
  obtain ⟨Y, hY⟩ : ∃ Y, (i : Int) / W = Y := ⟨_, rfl⟩
  obtain ⟨X, hX⟩ : ∃ X, xAt alt W i + wayAt alt Y * p.dx = X := ⟨_, rfl⟩
  rw [hY] at y0 ⊢
  rw [hX]
  by_cases c : 0 ≤ X ∧ X < W ∧ 0 ≤ Y + p.dy ∧ Y + p.dy < H
  · rw [if_pos c]
    obtain ⟨c1, c2, c3, c4⟩ := c
    have n0 : 0 ≤ (Y + p.dy) * W := Int.mul_nonneg c3 (by omega)
    by_cases d : Y + p.dy < h
    · rw [if_pos ⟨c1, c2, c3, d⟩]
      have e : (Y + p.dy) * W ≤ (h - 1) * W := Int.mul_le_mul_of_nonneg_right (by omega) (by omega)
      have e2 : (h - 1) * W = W * h - W := by rw [Int.sub_mul, Int.one_mul, Int.mul_comm]
      have : ((Y + p.dy) * W + X).toNat < m := by omega
      simp only [this, if_true]
    · rw [if_neg (fun q => d q.2.2.2)]
      have e : h * W ≤ (Y + p.dy) * W := Int.mul_le_mul_of_nonneg_right (by omega) (by omega)
      have e2 : h * W = W * h := Int.mul_comm _ _
      have : ¬ ((Y + p.dy) * W + X).toNat < m := by omega
      simp only [this, if_false]
  · rw [if_neg c, if_neg (fun q => c ⟨q.1, q.2.1, q.2.2.1, by omega⟩)]

theorem pos_top {alt : Bool} {W h : Int} {m i : Nat} (hW : 1 ≤ W) (hm : (m : Int) = W * h) (hi : m ≤ i) : m ≤ posAt alt W i := by
  obtain ⟨x1, x2⟩ := xAt_bd (alt := alt) (i := i) hW
  have d1 := Int.emod_add_mul_ediv (i : Int) W
  have d2 := Int.emod_nonneg (i : Int) (show W ≠ 0 by omega)
  have d3 := Int.emod_lt_of_pos (i : Int) (show 0 < W by omega)
  unfold posAt
  obtain ⟨Y, hY⟩ : ∃ Y, (i : Int) / W = Y := ⟨_, rfl⟩
  rw [hY] at d1 ⊢
  have hy : h ≤ Y := by
    by_cases c : h ≤ Y
    · exact c
    · have e : W * Y ≤ W * (h - 1) := Int.mul_le_mul_of_nonneg_left (by omega) (by omega)
      have e2 : W * (h - 1) = W * h - W := by rw [Int.mul_sub, Int.mul_one]
      omega
  have e : W * h ≤ W * Y := Int.mul_le_mul_of_nonneg_left hy (by omega)
  have e2 : Y * W = W * Y := Int.mul_comm _ _
  omega

section
variable {alt : Bool} {ks : List Prt} {W H h : Int} {ink : List Int} {n m : Nat}

theorem run_top (R : RunOk alt ks W H ink n) (S : RunOk alt ks W h (topL m ink) m) (hh : h ≤ H) (t : Nat) (ht : t ≤ m) :
    (∀ j, j < m → (runG alt ks W H ink t).pend.getD j 0 = (runG alt ks W h (topL m ink) t).pend.getD j 0) ∧ (∀ j, j < m → (runG alt ks W H ink t).dots.getD j 0 = (runG alt ks W h (topL m ink) t).dots.getD j 0) := by
  have hmn : m ≤ n := by
    have a := R.hn
    have b := S.hn
    have e : W * h ≤ W * H := Int.mul_le_mul_of_nonneg_left hh (by have := R.W1; omega)
    omega
  induction t with
  | zero =>
    refine ⟨fun j hj => ?_, fun j hj => ?_⟩
    · simp only [runG, topL]
      rw [gen_get _ _ _ hj]
    · simp only [runG]
      rw [rep0, rep0]
  | succ t ih =>
    obtain ⟨a, b⟩ := ih (by omega)
    obtain ⟨l1, l2, l3⟩ := run_len (alt := alt) (ks := ks) (W := W) (H := H) (ink := ink) t
    obtain ⟨k1, k2, k3⟩ := run_len (alt := alt) (ks := ks) (W := W) (H := h) (ink := topL m ink) t
    have hp := S.pos (show t < m by omega)
    have e := a _ hp
    have hl := R.hl
    have hl2 := S.hl
    have g := gives_top (T := fun q => tgtAt alt W H t (prt ks q)) (U := fun q => tgtAt alt W h t (prt ks q)) (sh := sharesG ks (wtTo ks ks.length) (errOf ((runG alt ks W h (topL m ink) t).pend.getD (posAt alt W t) 0)))
      (a := ((runG alt ks W H ink t).pend.set (posAt alt W t) 0, (runG alt ks W H ink t).lost)) (b := ((runG alt ks W h (topL m ink) t).pend.set (posAt alt W t) 0, (runG alt ks W h (topL m ink) t).lost)) (m := m)
      (by simp only [List.length_set]; omega) (by simp only [List.length_set]; omega) ks.length (fun q hq => tgt_top R.W1 S.hn hh (by omega) (kern_part R.hk hq).1)
      (fun j hj => by
        by_cases c : posAt alt W t = j
        · subst c
          rw [getD_set _ _ _ _ (by omega), getD_set _ _ _ _ (by omega), if_pos rfl, if_pos rfl]
        · rw [getD_set_ne _ _ c, getD_set_ne _ _ c]; exact a j hj)
    simp only [runG, passG]
    rw [e]
    refine ⟨g, fun j hj => ?_⟩
    by_cases c : posAt alt W t = j
    · subst c
      rw [getD_set _ _ _ _ (by omega), getD_set _ _ _ _ (by omega), if_pos rfl, if_pos rfl]
    · rw [getD_set_ne _ _ c, getD_set_ne _ _ c]; exact b j hj

theorem run_past (R : RunOk alt ks W H ink n) (hm : (m : Int) = W * h) (t : Nat) (ht : m ≤ t) (htn : t ≤ n) (j : Nat) (hj : j < m) : (runG alt ks W H ink t).dots.getD j 0 = (runG alt ks W H ink m).dots.getD j 0 := by
  induction t with
  | zero => obtain rfl : m = 0 := by omega
            rfl
  | succ t ih =>
    by_cases e : m = t + 1
    · rw [e]
    · rw [← ih (by omega) (by omega)]
      have := pos_top (alt := alt) (i := t) R.W1 hm (by omega)
      simp only [runG, passG]
      rw [getD_set_ne _ _ (by omega)]

theorem top_dots (R : RunOk alt ks W H ink n) (S : RunOk alt ks W h (topL m ink) m) (hh : h ≤ H) (hmn : m ≤ n) :
    topL m (runG alt ks W H ink n).dots = (runG alt ks W h (topL m ink) m).dots := by
  have hl : (runG alt ks W h (topL m ink) m).dots.length = m := by rw [(run_len m).1]; exact S.hl
  apply List.ext_getElem
  · rw [hl]; simp [topL, gen_len]
  · intro j h1 h2
    have hj : j < m := by omega
    have a := (run_top R S hh m (Nat.le_refl _)).2 j hj
    rw [← run_past R S.hn n hmn (Nat.le_refl _) j hj] at a
    have b : (topL m (runG alt ks W H ink n).dots).getD j 0 = (runG alt ks W H ink n).dots.getD j 0 := by unfold topL; rw [gen_get _ _ _ hj]
    rw [← b] at a
    simpa [List.getD, List.getElem?_eq_getElem h1, List.getElem?_eq_getElem h2] using a
end

/-- In one row both ways are one. -/
theorem row_ways {ks : List Prt} {W : Int} {ink : List Int} {n : Nat} (hn : (n : Int) = W) (t : Nat) (ht : t ≤ n) (alt : Bool) : runG alt ks W 1 ink t = runG false ks W 1 ink t := by
  induction t with
  | zero => rfl
  | succ t ih =>
    have z : (t : Int) / W = 0 := Int.ediv_eq_zero_of_lt (by omega) (by omega)
    have x : xAt alt W t = xAt false W t := by unfold xAt; rw [z]; simp
    have y : wayAt alt ((t : Int) / W) = wayAt false ((t : Int) / W) := by unfold wayAt; rw [z]; simp
    have p : posAt alt W t = posAt false W t := by unfold posAt; rw [x]
    have q : ∀ r, tgtAt alt W 1 t r = tgtAt false W 1 t r := fun r => by unfold tgtAt; rw [x, y]
    simp only [runG]
    rw [ih (by omega)]
    unfold passG givesAt
    rw [p]
    simp only [q]

theorem own_capB {w : World} {B n cap : Nat} {ad : Option Addr} {xs : List Int} (h : OwnA w B ad n cap xs) : n ≤ cap ∧ cap ≤ 9223372036854775807 := by
  rcases h with ⟨h1, h2, h3, h4⟩ | ⟨g, h1, h2, hl, cur, hg, r1, r2, r3⟩
  · omega
  · unfold maxLen at r2; omega

theorem within_leB {xs : List Int} (h : within xs 1 = true) : within xs 255 = true := by
  unfold within at *
  rw [List.all_eq_true] at *
  intro x hx
  have := of_decide_eq_true (h x hx)
  simp; omega

theorem at_callH (H : Int) (hH : 1 ≤ H) (B : Nat) (ac : Option Addr) (nc capc : Nat) (bs : List Int) (i : Int) (w : World) (hl : bs.length = nc) (hr : RdU B w ac bs) (hn : nc ≤ 1048576) (h0 : 0 ≤ i) (h1 : i ≤ 100) :
    Calls Try.prog 12 #[.slice ac nc capc, .int .i64 i] w fun e w' => ∃ v : Nat, e = .returned (.int .i64 (v : Int)) ∧ v ≤ 255 ∧ 0 ≤ (v : Int) % H ∧ (v : Int) % H < H ∧ Below w.heap.size w w' :=
  (at_callC B ac nc capc bs i w hl hr hn h0 h1).mono fun e w' ⟨v, h1, h2, h3⟩ => ⟨v, h1, h2, Int.emod_nonneg _ (by omega), Int.emod_lt_of_pos _ (by omega), h3⟩

theorem crop_top {W : Int} {m : Nat} {xs : List Int} (hW : 1 ≤ W) : gen m (cropG W xs 0 0 W) = topL m xs := by
  unfold gen topL gen
  apply List.map_congr_left
  intro i _
  unfold cropG
  have d1 := Int.emod_add_mul_ediv (i : Int) W
  have e : (0 + (i : Int) / W) * W + 0 + (i : Int) % W = i := by
    rw [Int.zero_add, Int.add_zero, Int.mul_comm]; omega
  rw [e]; simp

theorem topL_len (m : Nat) (xs : List Int) : (topL m xs).length = m := gen_len _ _

theorem topL_ok {W H h : Int} {n m : Nat} {xs : List Int} (hn : xs.length = n) (hp : picOk W H xs 255 = true) (h1 : 1 ≤ h) (h2 : h ≤ H) (hm : (m : Int) = W * h) : picOk W h (topL m xs) 255 = true := by
  obtain ⟨a, b, c⟩ := picOk_bd hn hp
  have s := sizeOk_bd a
  refine picOk_mkB (crop_size a s.1 (Int.le_refl _) h1 h2) (topL_len m xs) hm ?_
  unfold within
  rw [List.all_eq_true]
  intro x hx
  unfold topL gen at hx
  obtain ⟨i, hi, rfl⟩ := List.mem_map.1 hx
  have e : W * h ≤ W * H := Int.mul_le_mul_of_nonneg_left h2 (by omega)
  have := within_at c i (by simp at hi; omega)
  have e2 : xs[i]?.getD 0 = xs.getD i 0 := rfl
  rw [e2] at this
  simpa using this

theorem cropI_call (W H h : Int) (ad : Option Addr) (n cap m : Nat) (xs : List Int) (w : World) (hn : xs.length = n) (ha : Rd w ad xs) (hl : n ≤ 1048576) (hcap : n ≤ cap) (hcap2 : cap ≤ 9223372036854775807) (hp : picOk W H xs 255 = true) (h1 : 1 ≤ h) (h2 : h ≤ H) (hm : (m : Int) = W * h) :
    Calls Try.prog 23 #[.agg #[.int .i64 W, .int .i64 H, .slice ad n cap], .int .i64 0, .int .i64 0, .int .i64 W, .int .i64 h] w fun e w' =>
      ∃ a' c', e = .returned (.tuple #[.agg #[.int .i64 W, .int .i64 h, .slice a' m c'], .bool true]) ∧ OwnA w' w.heap.size a' m c' (topL m xs) ∧ Below w.heap.size w w' := by
  have s := sizeOk_bd (picOk_bd hn hp).1
  refine (impl_CropPicture W H ad n cap xs 0 0 W h w hn ha (by omega) hcap hcap2 (by omega) (by omega)).mono ?_
  rintro e w' ⟨a', k, c', he, ho, hk, hb⟩
  rw [cropF_yes ⟨hp, s.1, by omega, by omega, h1, by omega, by omega⟩ hm, crop_top s.1] at he ho
  obtain rfl : m = k := by rw [← ho.len]; exact (topL_len _ _).symm
  exact ⟨a', c', he, ho, hb⟩

theorem cropS_call (W H h : Int) (ad : Option Addr) (n cap m : Nat) (xs : List Int) (w : World) (hn : xs.length = n) (ha : Rd w ad xs) (hl : n ≤ 1048576) (hp : picOk W H xs 255 = true) (h1 : 1 ≤ h) (h2 : h ≤ H) (hm : (m : Int) = W * h) :
    Calls Try.prog 24 #[.agg #[.int .i64 W, .int .i64 H, .slice ad n cap], .int .i64 0, .int .i64 0, .int .i64 W, .int .i64 h] w fun e w' =>
      ∃ a' c', e = .returned (.tuple #[.agg #[.int .i64 W, .int .i64 h, .slice a' m c'], .bool true]) ∧ OwnA w' w.heap.size a' m c' (topL m xs) ∧ Below w.heap.size w w' := by
  have s := sizeOk_bd (picOk_bd hn hp).1
  refine (spec_CropPicture W H ad n cap xs 0 0 W h w hn ha (by omega)).mono ?_
  rintro e w' ⟨a', k, c', he, ho, hk, hb⟩
  rw [cropF_yes ⟨hp, s.1, by omega, by omega, h1, by omega, by omega⟩ hm, crop_top s.1] at he ho
  obtain rfl : m = k := by rw [← ho.len]; exact (topL_len _ _).symm
  exact ⟨a', c', he, ho, hb⟩

theorem same_callB (W H : Int) (a : Option Addr) (n cp : Nat) (xs : List Int) (a' : Option Addr) (n' cp' : Nat) (ys : List Int) (w : World) (hl : xs.length = n) (ha : Rd w a xs) (hn : n ≤ 9223372036854775807) (hl' : ys.length = n') (ha' : Rd w a' ys) (hn' : n' ≤ 9223372036854775807) (h : xs = ys) :
    Calls Try.prog 25 #[.agg #[.int .i64 W, .int .i64 H, .slice a n cp], .agg #[.int .i64 W, .int .i64 H, .slice a' n' cp']] w fun e w' => e = .returned (.bool true) ∧ Below w.heap.size w w' :=
  (laws_same W H a n cp xs W H a' n' cp' ys w hl ha hn hl' ha' hn').mono fun e w' ⟨he, hb⟩ => ⟨by rw [he]; exact ret_bool (by simp [h]), hb⟩

end Go.Proofs.Ytepaklcobkdfdaa
