/-
  Mirrored kernels, and the run over a mirrored picture. Nothing of the program but what K8b says of mirrored parts.
-/
import Derived.Test.YtepaklcobkdfdaaM23
import Derived.Test.YtepaklcobkdfdaaK8b
namespace Go.Proofs.Ytepaklcobkdfdaa
set_option linter.unusedVariables false
set_option linter.unusedSimpArgs false

/-- Every part lies below. -/
def downK (ks : List Prt) : Prop := ∀ q ∈ ks, 1 ≤ q.dy

theorem downK_at {ks : List Prt} (h : downK ks) {q : Nat} (hq : q < ks.length) : 1 ≤ (prt ks q).dy := by
  have e : prt ks q = ks[q] := by simp [prt, hq]
  rw [e]; exact h _ (List.getElem_mem hq)

theorem mir_part {p : Prt} (h : partOk p = true) (hd : 1 ≤ p.dy) : partOk (mirrorP p) = true := by
  obtain ⟨p1, p2, p3, p4, p5, p6, p7⟩ := partOk_bd h
  unfold partOk mirrorP
  simp only [decide_eq_true_eq]
  omega

theorem mir_placed (ks : List Prt) (i : Nat) (x y : Int) : placed ((mirrorK ks).take i) (-x) y = placed (ks.take i) x y := by
  unfold placed mirrorK
  rw [← List.map_take, List.any_map]
  congr 1
  funext q
  simp only [Function.comp, mirrorP]
  exact decide_eq_decide.2 ⟨fun h => ⟨by omega, h.2⟩, fun h => ⟨by omega, h.2⟩⟩

theorem mir_kern {ks : List Prt} (h : kernOk ks = true) (hd : downK ks) : kernOk (mirrorK ks) = true := by
  obtain ⟨k1, k2, k3⟩ := kernOk_bd rfl h
  refine kernOk_yes (mirrorK_len ks) k1 k2 ?_
  unfold kernTo
  rw [List.all_eq_true]
  intro i hi
  have hi : i < ks.length := List.mem_range.1 hi
  obtain ⟨a, b⟩ := kern_part k3 hi
  rw [mirrorK_at ks i hi, mir_part a (downK_at hd hi)]
  show (true && !placed ((mirrorK ks).take i) (-(prt ks i).dx) (prt ks i).dy) = true
  rw [mir_placed, b]; rfl

theorem mir_wt (ks : List Prt) (k : Nat) (hk : k ≤ ks.length) : wtTo (mirrorK ks) k = wtTo ks k := by
  induction k with
  | zero => rfl
  | succ k ih => simp only [wtTo]; rw [ih (by omega), mirrorK_at ks k (by omega)]; rfl

theorem mir_shSum (ks : List Prt) (W e : Int) (k : Nat) (hk : k ≤ ks.length) : shSum (mirrorK ks) W e k = shSum ks W e k := by
  induction k with
  | zero => rfl
  | succ k ih =>
    simp only [shSum]
    rw [ih (by omega)]
    unfold shareB
    rw [mirrorK_at ks k (by omega)]; rfl

theorem mir_shares (ks : List Prt) (e : Int) (k : Nat) (hk : k < ks.length) : (sharesG (mirrorK ks) (wtTo (mirrorK ks) (mirrorK ks).length) e).getD k 0 = (sharesG ks (wtTo ks ks.length) e).getD k 0 := by
  rw [mirrorK_len, mir_wt ks _ (Nat.le_refl _), sharesG_at _ _ _ _ (by rw [mirrorK_len]; exact hk), sharesG_at _ _ _ _ hk, mirrorK_len, mir_shSum ks _ _ _ (Nat.le_refl _)]
  unfold shareB
  rw [mirrorK_at ks k hk]; rfl

/-! Sums by steps. -/

def nsum (f : Nat → Int) : Nat → Int
  | 0 => 0
  | t + 1 => nsum f t + f t

theorem nsum_congr {f g : Nat → Int} (t : Nat) (h : ∀ i, i < t → f i = g i) : nsum f t = nsum g t := by
  induction t with
  | zero => rfl
  | succ t ih => rw [nsum, nsum, ih (fun i hi => h i (by omega)), h t (by omega)]

theorem nsum_add (f : Nat → Int) (a b : Nat) : nsum f (a + b) = nsum f a + nsum (fun x => f (a + x)) b := by
  induction b with
  | zero => simp [nsum]
  | succ b ih => rw [← Nat.add_assoc, nsum, nsum, ih]; omega

theorem nsum_front (f : Nat → Int) (t : Nat) : nsum f (t + 1) = f 0 + nsum (fun x => f (x + 1)) t := by
  have h := nsum_add f 1 t
  rw [Nat.add_comm] at h
  rw [h]
  have e : nsum (fun x => f (1 + x)) t = nsum (fun x => f (x + 1)) t := nsum_congr t (fun i _ => by rw [Nat.add_comm])
  rw [e]; simp [nsum]

theorem nsum_rev (w : Nat) : ∀ g : Nat → Int, nsum (fun x => g (w - 1 - x)) w = nsum g w := by
  induction w with
  | zero => intro g; rfl
  | succ w ih =>
    intro g
    have h := ih (fun z => g (z + 1))
    rw [nsum_front g w, ← h, nsum]
    have e : nsum (fun x => g (w + 1 - 1 - x)) w = nsum (fun x => g (w - 1 - x + 1)) w := nsum_congr w (fun i hi => by rw [show w + 1 - 1 - i = w - 1 - i + 1 by omega])
    rw [e, show w + 1 - 1 - w = 0 by omega]
    omega

theorem nsum_cut {f : Nat → Int} {a b : Nat} (hab : a ≤ b) (h : ∀ i, a ≤ i → i < b → f i = 0) : nsum f b = nsum f a := by
  induction b with
  | zero => obtain rfl : a = 0 := by omega
            rfl
  | succ b ih =>
    by_cases e : a = b + 1
    · rw [e]
    · rw [nsum, ih (by omega) (fun i h1 h2 => h i h1 (by omega)), h b (by omega) (by omega)]; omega

/-- The mirrored index. -/
def mirN (w i : Nat) : Nat := (mirT (w : Int) (i : Int)).toNat

theorem mirN_row {w Y x : Nat} (hx : x < w) : mirN w (Y * w + x) = Y * w + (w - 1 - x) := by
  unfold mirN mirT
  obtain ⟨j1, j2⟩ := join_dm (q := (Y : Int)) (r := (x : Int)) (m := (w : Int)) (by omega) (by omega)
  have e : ((Y * w + x : Nat) : Int) = (Y : Int) * (w : Int) + (x : Int) := by simp
  rw [e, j1, j2]
  obtain ⟨P, hP⟩ : ∃ P : Nat, Y * w = P := ⟨_, rfl⟩
  have e2 : (Y : Int) * (w : Int) = (P : Int) := by rw [← hP]; simp
  rw [e2, hP]; omega

theorem nsum_mir (w : Nat) (f : Nat → Int) (Y : Nat) : nsum (fun i => f (mirN w i)) (Y * w) = nsum f (Y * w) := by
  induction Y with
  | zero => simp [nsum]
  | succ Y ih =>
    rw [Nat.succ_mul, nsum_add, nsum_add, ih]
    have e : nsum (fun x => f (mirN w (Y * w + x))) w = nsum (fun x => (fun z => f (Y * w + z)) (w - 1 - x)) w := nsum_congr w (fun x hx => by rw [mirN_row hx])
    rw [e]
    exact congrArg (nsum f (Y * w) + ·) (nsum_rev w (fun z => f (Y * w + z)))

/-! What is put to a place. -/

def put (T : Nat → Option Nat) (sh : List Int) (o : Option Nat) : Nat → Int
  | 0 => 0
  | k + 1 => put T sh o k + if T k = o then sh.getD k 0 else 0

theorem gives_put {T : Nat → Option Nat} {sh : List Int} {st : List Int × Int} {j : Nat} (hj : j < st.1.length) (k : Nat) : (gives T sh st k).1.getD j 0 = st.1.getD j 0 + put T sh (some j) k ∧ (gives T sh st k).2 = st.2 + put T sh none k := by
  induction k with
  | zero => simp [gives, put]
  | succ k ih =>
    obtain ⟨a, b⟩ := ih
    simp only [gives, put]
    cases hT : T k with
    | none => simp only [give]; simp only [reduceCtorEq, if_false, if_true]; omega
    | some i =>
      simp only [give]
      simp only [reduceCtorEq, if_false, Option.some.injEq]
      refine ⟨?_, by omega⟩
      by_cases e : i = j
      · subst e
        rw [getD_set _ _ _ _ (by rw [gives_len]; exact hj), if_pos rfl, if_pos rfl]; omega
      · rw [getD_set_ne _ _ e, if_neg e]; omega

theorem put_no {T : Nat → Option Nat} {sh : List Int} {o : Option Nat} (k : Nat) (h : ∀ q, q < k → T q ≠ o) : put T sh o k = 0 := by
  induction k with
  | zero => rfl
  | succ k ih => rw [put, ih (fun q hq => h q (by omega)), if_neg (h k (by omega))]; rfl

theorem put_map {T U : Nat → Option Nat} {sh sh' : List Int} {o o' : Option Nat} (k : Nat) (h : ∀ q, q < k → (U q = o' ↔ T q = o)) (hs : ∀ q, q < k → sh'.getD q 0 = sh.getD q 0) : put U sh' o' k = put T sh o k := by
  induction k with
  | zero => rfl
  | succ k ih =>
    rw [put, put, ih (fun q hq => h q (by omega)) (fun q hq => hs q (by omega)), hs k (by omega)]
    by_cases e : T k = o
    · rw [if_pos e, if_pos ((h k (by omega)).2 e)]
    · rw [if_neg e, if_neg (fun c => e ((h k (by omega)).1 c))]

theorem pos_id {W : Int} (hW : 1 ≤ W) (i : Nat) : posAt false W i = i := by
  have a := Int.emod_add_mul_ediv (i : Int) W
  have b : xAt false W i = (i : Int) % W := by unfold xAt; simp
  unfold posAt
  rw [b, Int.mul_comm]
  omega

/-- A value as it is met, from the left. -/
def valAt (ks : List Prt) (W H : Int) (ink : List Int) (i : Nat) : Int := (runG false ks W H ink i).pend.getD i 0
/-- What the step i puts to a place. -/
def putAt (ks : List Prt) (W H : Int) (ink : List Int) (i : Nat) (o : Option Nat) : Int :=
  put (fun q => tgtAt false W H i (prt ks q)) (sharesG ks (wtTo ks ks.length) (errOf (valAt ks W H ink i))) o ks.length

theorem run_sum {ks : List Prt} {W H : Int} {ink : List Int} {n : Nat} (R : RunOk false ks W H ink n) (t : Nat) (ht : t ≤ n) :
    (∀ j, t ≤ j → j < n → (runG false ks W H ink t).pend.getD j 0 = ink.getD j 0 + nsum (fun i => putAt ks W H ink i (some j)) t) ∧ (runG false ks W H ink t).lost = nsum (fun i => putAt ks W H ink i none) t := by
  induction t with
  | zero => exact ⟨fun j _ _ => by simp [runG, nsum], rfl⟩
  | succ t ih =>
    obtain ⟨a, b⟩ := ih (by omega)
    have l2 := (run_len (alt := false) (ks := ks) (W := W) (H := H) (ink := ink) t).2.1
    have hl := R.hl
    simp only [runG, passG, nsum, givesAt]
    rw [pos_id R.W1]
    have g := fun j (hj : j < n) => gives_put (T := fun q => tgtAt false W H t (prt ks q)) (sh := sharesG ks (wtTo ks ks.length) (errOf ((runG false ks W H ink t).pend.getD t 0))) (st := ((runG false ks W H ink t).pend.set t 0, (runG false ks W H ink t).lost)) (j := j) (by simp only [List.length_set]; omega) ks.length
    refine ⟨fun j h1 h2 => ?_, ?_⟩
    · rw [(g j h2).1, getD_set_ne _ _ (by omega), a j (by omega) h2]
      unfold putAt valAt
      omega
    · rw [(g t (by omega)).2, b]
      rfl

theorem tgt_row {W H : Int} {i j : Nat} {p : Prt} (hW : 1 ≤ W) (h : tgtAt false W H i p = some j) : (j : Int) / W = (i : Int) / W + p.dy ∧ (j : Int) < W * H := by
  unfold tgtAt tgt at h
  split at h
  case isFalse => cases h
  case isTrue c =>
  obtain ⟨c1, c2, c3, c4⟩ := c
  obtain ⟨r1, r2⟩ := row_bd c1 c2 c3 c4
  have hj : (j : Int) = ((i : Int) / W + p.dy) * W + (xAt false W i + wayAt false ((i : Int) / W) * p.dx) := by
    have := Option.some.inj h
    omega
  obtain ⟨d1, d2⟩ := join_dm (q := (i : Int) / W + p.dy) c1 c2
  rw [← hj] at d1
  exact ⟨d1, by omega⟩

theorem tgt_mir {w : Nat} {H : Int} {i : Nat} {p : Prt} (hW : 1 ≤ (w : Int)) (hi : (i : Int) < w * H) : tgtAt false w H (mirN w i) (mirrorP p) = (tgtAt false w H i p).map (mirN w) := by
  obtain ⟨x, y, x0, x1, y0, y1, ei, eix, eiy⟩ := split_dm (i := (i : Int)) (W := (w : Int)) (H := H) hW (by omega) hi
  have em : ((mirN w i : Nat) : Int) = y * w + (w - 1 - x) := by
    obtain ⟨t0, t1, t2, t3, t4⟩ := mir_self (i := (i : Int)) hW (by omega) hi
    unfold mirN
    rw [Int.toNat_of_nonneg t0]
    unfold mirT
    rw [eix, eiy]; omega
  obtain ⟨d1, d2⟩ := join_dm (q := y) (r := (w : Int) - 1 - x) (m := (w : Int)) (by omega) (by omega)
  unfold tgtAt tgt
  have e1 : xAt false w i = x := by unfold xAt; simp [eix]
  have e2 : xAt false w (mirN w i) = w - 1 - x := by unfold xAt; simp only [em, d2]; simp
  have e3 : ∀ Y, wayAt false Y = 1 := fun Y => by unfold wayAt; simp
  rw [e1, e2, em, d1, eiy, e3]
  unfold mirrorP
  simp only [Int.one_mul]
  by_cases c : 0 ≤ x + p.dx ∧ x + p.dx < w ∧ 0 ≤ y + p.dy ∧ y + p.dy < H
  · rw [if_pos c, if_pos ⟨by omega, by omega, c.2.2.1, c.2.2.2⟩]
    obtain ⟨c1, c2, c3, c4⟩ := c
    obtain ⟨r1, r2⟩ := row_bd c1 c2 c3 c4
    simp only [Option.map_some, Option.some.injEq]
    unfold mirN mirT
    rw [Int.toNat_of_nonneg (by omega)]
    obtain ⟨j1, j2⟩ := join_dm (q := y + p.dy) c1 c2
    rw [j1, j2]
    congr 1; omega
  · rw [if_neg c, if_neg (fun q => c ⟨by omega, by omega, q.2.2.1, q.2.2.2⟩)]
    rfl

theorem mirN_in {w n i : Nat} {H : Int} (hW : 1 ≤ (w : Int)) (hn : (n : Int) = w * H) (hi : i < n) : mirN w i < n ∧ mirN w (mirN w i) = i := by
  obtain ⟨t0, t1, t2, t3, t4⟩ := mir_self (i := (i : Int)) (W := (w : Int)) (H := H) hW (by omega) (by omega)
  unfold mirN
  rw [Int.toNat_of_nonneg t0, t2]
  omega

/-- What is mirrored of a picture's points. -/
def mirB (W : Int) (n : Nat) (xs : List Int) : List Int := gen n (fun i => xs.getD (mirT W (i : Int)).toNat 0)

section
variable {ks : List Prt} {w : Nat} {H : Int} {ink : List Int} {n : Nat}

theorem put_mir (R : RunOk false ks w H ink n) {i : Nat} (hi : i < n) (hv : valAt (mirrorK ks) w H (mirB w n ink) (mirN w i) = valAt ks w H ink i) (o : Option Nat) (ho : ∀ j, o = some j → j < n) :
    putAt (mirrorK ks) w H (mirB w n ink) (mirN w i) (o.map (mirN w)) = putAt ks w H ink i o := by
  unfold putAt
  rw [hv]
  have hl := mirrorK_len ks
  have hn := R.hn
  have e := put_map (T := fun q => tgtAt false w H i (prt ks q)) (U := fun q => tgtAt false w H (mirN w i) (prt (mirrorK ks) q)) (o := o) (o' := o.map (mirN w))
    (sh := sharesG ks (wtTo ks ks.length) (errOf (valAt ks w H ink i))) (sh' := sharesG (mirrorK ks) (wtTo (mirrorK ks) (mirrorK ks).length) (errOf (valAt ks w H ink i))) ks.length
    (fun q hq => by
      show tgtAt false w H (mirN w i) (prt (mirrorK ks) q) = o.map (mirN w) ↔ tgtAt false w H i (prt ks q) = o
      rw [mirrorK_at ks q hq, tgt_mir R.W1 (by omega)]
      constructor
      · intro c
        cases ht : tgtAt false w H i (prt ks q) with
        | none => rw [ht] at c; cases o with
          | none => rfl
          | some j => cases c
        | some a => rw [ht] at c; cases o with
          | none => cases c
          | some j =>
            have c2 : mirN w a = mirN w j := Option.some.inj c
            have ha := (tgt_row R.W1 ht).2
            have a2 := (mirN_in R.W1 hn (show a < n by omega)).2
            have j2 := (mirN_in R.W1 hn (ho j rfl)).2
            rw [c2, j2] at a2
            rw [a2]
      · intro c; rw [c])
    (fun q hq => mir_shares ks _ q hq)
  rw [hl] at e ⊢
  exact e

theorem put_row (R : RunOk false ks w H ink n) (hd : downK ks) {i j : Nat} (h : (j / w) * w ≤ i) : putAt ks w H ink i (some j) = 0 := by
  unfold putAt
  refine put_no _ (fun q hq c => ?_)
  have hw := R.W1
  have a := (tgt_row R.W1 c).1
  have d := downK_at hd hq
  have b : j / w ≤ i / w := by
    rw [Nat.le_div_iff_mul_le (by omega)]
    exact h
  have e1 : (j : Int) / (w : Int) = ((j / w : Nat) : Int) := by simp
  have e2 : (i : Int) / (w : Int) = ((i / w : Nat) : Int) := by simp
  rw [e1, e2] at a
  omega

theorem mirN_div {i : Nat} (hw : 1 ≤ w) : (mirN w i) / w = i / w ∧ (i / w) * w ≤ mirN w i := by
  have a := Nat.div_add_mod i w
  have b := Nat.mod_lt i (show 0 < w by omega)
  have e : mirN w i = (i / w) * w + (w - 1 - i % w) := by
    rw [← mirN_row (Y := i / w) (x := i % w) b]
    congr 1
    rw [Nat.mul_comm]; exact a.symm
  refine ⟨?_, by omega⟩
  have z : (w - 1 - i % w) / w = 0 := Nat.div_eq_of_lt (by omega)
  rw [e, Nat.mul_comm, Nat.mul_add_div (by omega), z]
  rfl

theorem mir_vals (R : RunOk false ks w H ink n) (S : RunOk false (mirrorK ks) w H (mirB w n ink) n) (hd : downK ks) (Y : Nat) :
    ∀ i, i < n → i < Y * w → valAt (mirrorK ks) w H (mirB w n ink) (mirN w i) = valAt ks w H ink i := by
  have hw : 1 ≤ w := by have := R.W1; omega
  have hd' : downK (mirrorK ks) := by
    intro q hq
    obtain ⟨p, hp, rfl⟩ := List.mem_map.1 hq
    exact hd p hp
  induction Y with
  | zero => intro i _ h; omega
  | succ Y ih =>
    intro i hi hlt
    by_cases c : i < Y * w
    · exact ih i hi c
    · have hY : i / w = Y := by
        rw [Nat.div_eq_iff (by omega)]
        rw [Nat.succ_mul] at hlt
        omega
      obtain ⟨m1, m2⟩ := mirN_in R.W1 R.hn hi
      obtain ⟨q1, q2⟩ := mirN_div (i := i) hw
      have v1 : valAt ks w H ink i = ink.getD i 0 + nsum (fun a => putAt ks w H ink a (some i)) i := (run_sum R i (by omega)).1 i (Nat.le_refl _) hi
      have v2 : valAt (mirrorK ks) w H (mirB w n ink) (mirN w i) = (mirB w n ink).getD (mirN w i) 0 + nsum (fun a => putAt (mirrorK ks) w H (mirB w n ink) a (some (mirN w i))) (mirN w i) := (run_sum S (mirN w i) (by omega)).1 _ (Nat.le_refl _) m1
      rw [nsum_cut (show Y * w ≤ i by omega) (fun a ha _ => put_row R hd (by rw [hY]; exact ha))] at v1
      rw [nsum_cut (show Y * w ≤ mirN w i by rw [← hY]; exact q2) (fun a ha _ => put_row S hd' (by rw [q1, hY]; exact ha))] at v2
      rw [v1, v2]
      congr 1
      · unfold mirB
        rw [gen_get _ _ _ m1]
        show ink.getD (mirN w (mirN w i)) 0 = _
        rw [m2]
      · rw [← nsum_mir w (fun a => putAt (mirrorK ks) w H (mirB w n ink) a (some (mirN w i))) Y]
        refine nsum_congr _ (fun a ha => ?_)
        exact put_mir R (show a < n by omega) (ih a (by omega) ha) (some i) (fun j hj => by cases hj; exact hi)

theorem run_doneL (h : RunOk false ks w H ink n) {i : Nat} (t : Nat) (hi : i < t) (ht : t ≤ n) : (runG false ks w H ink t).dots.getD i 0 = dotOf (valAt ks w H ink i) := by
  induction t with
  | zero => omega
  | succ t ih =>
    obtain ⟨l1, l2, l3⟩ := run_len (alt := false) (ks := ks) (W := w) (H := H) (ink := ink) t
    have hl := h.hl
    simp only [runG, passG]
    rw [pos_id h.W1]
    by_cases e : i = t
    · subst e
      rw [getD_set _ _ _ _ (by omega), if_pos rfl]
      rfl
    · rw [getD_set_ne _ _ (by omega)]
      exact ih (by omega) (by omega)

/-- The run over the mirrored picture with the mirrored kernel. -/
theorem mir_run (R : RunOk false ks w H ink n) (S : RunOk false (mirrorK ks) w H (mirB w n ink) n) (hd : downK ks) :
    (runG false (mirrorK ks) w H (mirB w n ink) n).dots = mirB w n (runG false ks w H ink n).dots ∧ (runG false (mirrorK ks) w H (mirB w n ink) n).lost = (runG false ks w H ink n).lost := by
  have hw := R.W1
  have hn := R.hn
  have hN : n < (n / w + 1) * w := by
    have a := Nat.div_add_mod n w
    have b := Nat.mod_lt n (show 0 < w by omega)
    rw [Nat.succ_mul, Nat.mul_comm]; omega
  have V : ∀ i, i < n → valAt (mirrorK ks) w H (mirB w n ink) (mirN w i) = valAt ks w H ink i := fun i hi => mir_vals R S hd (n / w + 1) i hi (by omega)
  have hl : (runG false (mirrorK ks) w H (mirB w n ink) n).dots.length = n := by rw [(run_len n).1]; exact S.hl
  refine ⟨?_, ?_⟩
  · refine gen_ext n _ _ hl (fun k hk => ?_)
    obtain ⟨m1, m2⟩ := mirN_in R.W1 R.hn hk
    show _ = (runG false ks w H ink n).dots.getD (mirN w k) 0
    rw [run_doneL S n hk (Nat.le_refl _), run_doneL R n m1 (Nat.le_refl _)]
    have := V _ m1
    rw [m2] at this
    rw [this]
  · rw [(run_sum R n (Nat.le_refl _)).2, (run_sum S n (Nat.le_refl _)).2]
    obtain ⟨h, rfl⟩ : ∃ h : Nat, H = (h : Int) := ⟨H.toNat, by
      have : 0 ≤ H := by
        by_cases c : 0 ≤ H
        · exact c
        · have e : (w : Int) * H ≤ w * (-1) := Int.mul_le_mul_of_nonneg_left (by omega) (by omega)
          omega
      omega⟩
    have e : n = h * w := by
      have e2 : (n : Int) = ((h * w : Nat) : Int) := by rw [hn, Int.mul_comm]; simp
      exact Int.ofNat.inj e2
    have s := nsum_mir w (fun a => putAt (mirrorK ks) w h (mirB w n ink) a none) h
    rw [← e] at s
    rw [← s]
    exact nsum_congr _ (fun a ha => put_mir R ha (V a ha) none (fun j hj => by cases hj))
end

end Go.Proofs.Ytepaklcobkdfdaa
