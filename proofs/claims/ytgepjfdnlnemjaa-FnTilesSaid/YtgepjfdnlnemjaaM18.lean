/-
  A screened level has as many dots in every tile as it says, wherever the tile begins; nothing of the program.
-/
import Derived.Test.YtgepjfdnlnemjaaM17
import Derived.Test.YtgepjfdnlnemjaaM6
namespace Go.Proofs.Ytgepjfdnlnemjaa
set_option linter.unusedVariables false
set_option linter.unusedSimpArgs false

theorem isum_cells (l : Int) (xs : List Int) : isum (xs.map (cellsG l)) = (below l xs : Int) := by
  induction xs with
  | nil => rfl
  | cons x xs ih =>
    simp only [List.map_cons, isum, ih]
    unfold below cellsG
    by_cases h : x < l
    · simp [h]; omega
    · simp [h]

theorem full_sum {n : Nat} {rs : List Int} (hl : rs.length = n) (h : inR rs n = true) (hd : rs.Nodup) (l : Nat) (hln : l ≤ n) : sumR (fun i => cellsG l (rs.getD i 0)) n = (l : Int) := by
  rw [← isum_gen]
  have e : gen n (fun i => cellsG l (rs.getD i 0)) = rs.map (cellsG l) := by
    refine (gen_ext n _ _ (by simpa using hl) (fun k hk => ?_)).symm
    exact map_get rs _ k (by omega)
  rw [e, isum_cells, perm_below hl h hd l hln]

theorem sumR_shift (g : Nat → Int) (n : Nat) : sumR (fun c => g (c + 1)) n = sumR g n + g n - g 0 := by
  induction n with
  | zero => simp [sumR]
  | succ n ih => simp only [sumR]; rw [ih]; omega

theorem sumR_cyc (f : Nat → Int) (W X : Nat) (hW : 1 ≤ W) : sumR (fun c => f ((X + c) % W)) W = sumR f W := by
  induction X with
  | zero => exact sumR_congr (fun i hi => by rw [Nat.zero_add, Nat.mod_eq_of_lt hi])
  | succ X ih =>
    have h := sumR_shift (fun c => f ((X + c) % W)) W
    have e1 : sumR (fun c => f ((X + 1 + c) % W)) W = sumR (fun c => (fun c => f ((X + c) % W)) (c + 1)) W := sumR_congr (fun i hi => by show f ((X + 1 + i) % W) = f ((X + (i + 1)) % W); rw [Nat.add_right_comm X 1 i, Nat.add_assoc])
    rw [e1, h, ih]
    have e2 : (X + W) % W = X % W := Nat.add_mod_right X W
    simp only [e2, Nat.add_zero]
    omega

/-- The value of a block's cell. -/
def cellV (W H : Nat) (rs : List Int) (l x y : Nat) : Int := cellsG l (rs.getD (y % H * W + x % W) 0)

theorem block_sum {W H n : Nat} {rs : List Int} (hW : 1 ≤ W) (hH : 1 ≤ H) (hl : rs.length = n) (hn : n = W * H) (h : inR rs n = true) (hd : rs.Nodup) (l : Nat) (hln : l ≤ n) (X Y : Nat) :
    sumR (fun r => sumR (fun c => cellV W H rs l (X + c) (Y + r)) W) H = (l : Int) := by
  have e1 : sumR (fun r => sumR (fun c => cellV W H rs l (X + c) (Y + r)) W) H = sumR (fun r => (fun y => sumR (fun c => cellsG l (rs.getD (y * W + c) 0)) W) ((Y + r) % H)) H :=
    sumR_congr (fun r hr => sumR_cyc (fun x => cellsG l (rs.getD ((Y + r) % H * W + x) 0)) W X hW)
  refine e1.trans ((sumR_cyc (fun y => sumR (fun c => cellsG l (rs.getD (y * W + c) 0)) W) H Y hH).trans ?_)
  rw [← sumR_rows (fun i => cellsG l (rs.getD i 0)) W H, ← hn]
  exact full_sum hl h hd l hln

theorem rankOf_nat (W H : Nat) (rs : List Int) (x y : Nat) : rankOf W H rs x y = rs.getD (y % H * W + x % W) 0 := by
  unfold rankOf
  have e : ((y : Int) % (H : Int) * (W : Int) + (x : Int) % (W : Int)) = ((y % H * W + x % W : Nat) : Int) := by simp
  rw [e]
  rfl

/-- The screened level, point by point. -/
theorem plate_at {W H V N l : Nat} {rs : List Int} {j : Nat} (hj : j < N) : (gen N (dotG W H rs (List.replicate N (l : Int)) V)).getD j 0 = cellV W H rs l (j % V) (j / V) := by
  rw [gen_get _ _ _ hj]
  unfold dotG cellV cellsG
  have e1 : (j : Int) % (V : Int) = ((j % V : Nat) : Int) := by simp
  have e2 : (j : Int) / (V : Int) = ((j / V : Nat) : Int) := by simp
  rw [e1, e2, rankOf_nat, List.getElem?_replicate, if_pos hj]
  rfl

theorem cellV_mod {W H : Nat} {rs : List Int} {l x y a b : Nat} : cellV W H rs l (x % (a * W)) (y % (b * H)) = cellV W H rs l x y := by
  unfold cellV
  rw [Nat.mod_mod_of_dvd _ (Nat.dvd_mul_left W a), Nat.mod_mod_of_dvd _ (Nat.dvd_mul_left H b)]

theorem place_dm {V x y : Nat} (h : x < V) : (y * V + x) % V = x ∧ (y * V + x) / V = y := by
  constructor
  · rw [Nat.mul_comm, Nat.mul_add_mod, Nat.mod_eq_of_lt h]
  · rw [Nat.mul_comm, Nat.mul_add_div (by omega), Nat.div_eq_of_lt h, Nat.add_zero]

theorem tile_dots {W H V U N n l x y : Nat} {rs : List Int} (hW : 1 ≤ W) (hH : 1 ≤ H) (hl : rs.length = n) (hn : n = W * H) (h : inR rs n = true) (hd : rs.Nodup) (hln : l ≤ n) (hN : N = V * U) (hx : x + W ≤ V) (hy : y + H ≤ U) :
    tileS V (gen N (dotG W H rs (List.replicate N (l : Int)) V)) x y W H = (l : Int) := by
  unfold tileS
  refine Eq.trans ?_ (block_sum hW hH hl hn h hd l hln x y)
  refine sumR_congr (fun r hr => ?_)
  have hin := row_in hN hx hy hr
  rw [winS_sumR _ _ _ (by rw [gen_len]; exact hin)]
  refine sumR_congr (fun c hc => ?_)
  rw [plate_at (by omega), Nat.add_assoc]
  obtain ⟨e1, e2⟩ := place_dm (V := V) (x := x + c) (y := y + r) (by omega)
  rw [e1, e2]

theorem blur_dots {W H N n l a b i : Nat} {rs : List Int} (hW : 1 ≤ W) (hH : 1 ≤ H) (ha : 1 ≤ a) (hb : 1 ≤ b) (hl : rs.length = n) (hn : n = W * H) (h : inR rs n = true) (hd : rs.Nodup) (hln : l ≤ n) (hN : N = a * W * (b * H)) :
    blurS (a * W) (b * H) (gen N (dotG W H rs (List.replicate N (l : Int)) ((a * W : Nat) : Int))) W i (W * H) = (l : Int) := by
  have hV : 1 ≤ a * W := Nat.mul_le_mul ha hW
  have hU : 1 ≤ b * H := Nat.mul_le_mul hb hH
  unfold blurS
  rw [sumR_rows]
  refine Eq.trans ?_ (block_sum hW hH hl hn h hd l hln (i % (a * W)) (i / (a * W)))
  refine sumR_congr (fun r hr => sumR_congr (fun c hc => ?_))
  unfold blurP
  obtain ⟨k1, k2⟩ := place_dm (V := W) (x := c) (y := r) hc
  rw [k1, k2]
  have m1 : (i % (a * W) + c) % (a * W) < a * W := Nat.mod_lt _ (by omega)
  have m2 : (i / (a * W) + r) % (b * H) < b * H := Nat.mod_lt _ (by omega)
  have hin : (i / (a * W) + r) % (b * H) * (a * W) + (i % (a * W) + c) % (a * W) < N := by
    have e : ((i / (a * W) + r) % (b * H) + 1) * (a * W) ≤ b * H * (a * W) := Nat.mul_le_mul_right _ (by omega)
    rw [Nat.add_mul, Nat.one_mul, Nat.mul_comm (b * H), ← hN] at e
    omega
  rw [plate_at hin]
  obtain ⟨e1, e2⟩ := place_dm (V := a * W) (x := (i % (a * W) + c) % (a * W)) (y := (i / (a * W) + r) % (b * H)) m1
  rw [e1, e2, cellV_mod]

theorem tiles_all {W H N n l a b : Nat} {rs : List Int} (hW : 1 ≤ W) (hH : 1 ≤ H) (ha : 1 ≤ a) (hb : 1 ≤ b) (hl : rs.length = n) (hn : n = W * H) (h : inR rs n = true) (hd : rs.Nodup) (hln : l ≤ n) (hN : N = a * W * (b * H))
    (hp : picOk ((a * W : Nat) : Int) ((b * H : Nat) : Int) (gen N (dotG W H rs (List.replicate N (l : Int)) ((a * W : Nat) : Int))) 255 = true) :
    tileSumsF ((a * W : Nat) : Int) ((b * H : Nat) : Int) (gen N (dotG W H rs (List.replicate N (l : Int)) ((a * W : Nat) : Int))) W H = List.replicate (a * b) (l : Int) := by
  have d1 : a * W / W = a := Nat.mul_div_cancel _ (by omega)
  have d2 : b * H / H = b := Nat.mul_div_cancel _ (by omega)
  rw [tileSumsF_yes hp hW hH, d1, d2]
  refine (gen_ext _ _ _ (by simp) (fun k hk => ?_)).symm
  have e : (List.replicate (a * b) (l : Int)).getD k 0 = (l : Int) := by simp [List.getD, hk]
  rw [e]
  have k1 : k % a < a := Nat.mod_lt _ (by omega)
  have k2 : k / a < b := Nat.div_lt_of_lt_mul hk
  have a1 : (k % a + 1) * W ≤ a * W := Nat.mul_le_mul_right _ (by omega)
  have a2 : (k / a + 1) * H ≤ b * H := Nat.mul_le_mul_right _ (by omega)
  rw [Nat.add_mul, Nat.one_mul] at a1 a2
  exact (tile_dots hW hH hl hn h hd hln hN a1 a2).symm

theorem blur_all {W H N n l a b : Nat} {rs : List Int} (hW : 1 ≤ W) (hH : 1 ≤ H) (hW2 : W ≤ 16) (hH2 : H ≤ 16) (ha : 1 ≤ a) (hb : 1 ≤ b) (hl : rs.length = n) (hn : n = W * H) (h : inR rs n = true) (hd : rs.Nodup) (hln : l ≤ n) (hN : N = a * W * (b * H))
    (hp : picOk ((a * W : Nat) : Int) ((b * H : Nat) : Int) (gen N (dotG W H rs (List.replicate N (l : Int)) ((a * W : Nat) : Int))) 1 = true) :
    blurF ((a * W : Nat) : Int) ((b * H : Nat) : Int) (gen N (dotG W H rs (List.replicate N (l : Int)) ((a * W : Nat) : Int))) W H = (⟨((a * W : Nat) : Int), ((b * H : Nat) : Int), List.replicate N (255 * (l : Int) / (n : Int))⟩, true) := by
  rw [blurF_yes (gen_len _ _) hp hW hW2 hH hH2]
  congr 2
  refine (gen_ext _ _ _ (by simp) (fun k hk => ?_)).symm
  have e : (List.replicate N (255 * (l : Int) / (n : Int))).getD k 0 = 255 * (l : Int) / (n : Int) := by simp [List.getD, hk]
  rw [e]
  unfold blurG
  rw [blur_dots hW hH ha hb hl hn h hd hln hN, ← hn]

end Go.Proofs.Ytgepjfdnlnemjaa
