/-
  What the laws of chapter 3 say of plain matrices. Nothing of the program.
-/
import Derived.Test.YtepaklcobkdfdaaM3
import Derived.Test.YtepaklcobkdfdaaC10
import Derived.Test.YtepaklcobkdfdaaC4
namespace Go.Proofs.Ytepaklcobkdfdaa
set_option linter.unusedVariables false
set_option linter.unusedSimpArgs false

theorem size16 {W H : Int} (h : matSize W H = true) (h1 : W ≤ 16) (h2 : H ≤ 16) : sizeOk W H = true := by
  obtain ⟨a, _, b, _, _, _⟩ := matSize_bd h
  have e : W * H ≤ 16 * 16 := Int.mul_le_mul h1 h2 (by omega) (by omega)
  unfold sizeOk
  rw [decide_eq_true_iff]
  omega

theorem within_map {xs : List Int} {f : Int → Int} {m : Int} (h : ∀ v, v ∈ xs → 0 ≤ f v ∧ f v ≤ m) : within (xs.map f) m = true := by
  unfold within
  rw [List.all_eq_true]
  intro v hv
  obtain ⟨u, hu, rfl⟩ := List.mem_map.1 hv
  simpa using h u hu

theorem cellsG_bd (l v : Int) : 0 ≤ cellsG l v ∧ cellsG l v ≤ 1 := by unfold cellsG; split <;> omega

theorem picOk_mk {W H : Int} {xs : List Int} {m : Int} {n : Nat} (hs : sizeOk W H = true) (hn : xs.length = n) (hq : (n : Int) = W * H) (hw : within xs m = true) : picOk W H xs m = true := by
  rw [picOk_in hn hs hq]; exact hw

theorem icount_cells (l : Int) (xs : List Int) : icount 1 (xs.map (cellsG l)) = below l xs := by
  unfold icount below
  rw [List.filter_map, List.length_map]
  congr 1
  apply List.filter_congr
  intro v hv
  simp only [Function.comp, cellsG]
  by_cases h : v < l
  · simp [h]
  · simp [h]

theorem cells_ok {W H : Int} {xs : List Int} {n : Nat} (hl : xs.length = n) (mk : matOk W H xs = true) (hw : W ≤ 16) (hh : H ≤ 16) (l : Nat) (h : l ≤ n) :
    cellsF W H xs l = ⟨W, H, xs.map (cellsG l)⟩ ∧ picOk W H (xs.map (cellsG l)) 1 = true ∧ picOk W H (xs.map (cellsG l)) 255 = true ∧ countF W H (xs.map (cellsG l)) 1 = l := by
  obtain ⟨m1, m2, m3, m4⟩ := matOk_bd hl mk
  have hs := size16 m1 hw hh
  have hp : ∀ m, 1 ≤ m → picOk W H (xs.map (cellsG l)) m = true := by
    intro m hm
    refine picOk_mk hs (by simpa using hl) m2 (within_map (fun v hv => ?_))
    have := cellsG_bd l v
    omega
  refine ⟨cellsF_yes hl mk (by omega) (by omega) hs, hp 1 (by omega), hp 255 (by omega), ?_⟩
  unfold countF
  rw [if_pos (hp 255 (by omega)), icount_cells, perm_below hl m3 m4 l h]

theorem cells_cover {W H : Int} {xs : List Int} {n : Nat} (hl : xs.length = n) (mk : matOk W H xs = true) (hw : W ≤ 16) (hh : H ≤ 16) (a b : Nat) (hab : a ≤ b) (hb : b ≤ n) :
    coversF W H (xs.map (cellsG b)) W H (xs.map (cellsG a)) = true := by
  obtain ⟨_, _, p1, _⟩ := cells_ok hl mk hw hh a (by omega)
  obtain ⟨_, _, p2, _⟩ := cells_ok hl mk hw hh b hb
  have hc : coverB (xs.map (cellsG b)) (xs.map (cellsG a)) = true := by
    refine coverB_yes (fun i hi => ?_)
    have hi2 : i < xs.length := by simpa using hi
    rw [show (xs.map (cellsG a))[i]?.getD 0 = cellsG a (xs[i]?.getD 0) from map_get xs _ i hi2, show (xs.map (cellsG b))[i]?.getD 0 = cellsG b (xs[i]?.getD 0) from map_get xs _ i hi2]
    unfold cellsG
    split <;> split <;> omega
  unfold coversF pairOk
  rw [p1, p2]
  simpa [coverB] using hc

theorem rev_ok {W H : Int} {xs : List Int} {n : Nat} (hl : xs.length = n) (mk : matOk W H xs = true) :
    revF W H xs = ⟨W, H, xs.map (fun v => (n : Int) - 1 - v)⟩ ∧ matOk W H (xs.map (fun v => (n : Int) - 1 - v)) = true ∧ (xs.map (fun v => (n : Int) - 1 - v)).map (fun v => (n : Int) - 1 - v) = xs := by
  obtain ⟨m1, m2, m3, m4⟩ := matOk_bd hl mk
  refine ⟨revF_yes hl mk, matOk_mk (by simpa using hl) m1 m2 ?_ ?_, ?_⟩
  · unfold inR
    rw [List.all_eq_true]
    intro v hv
    obtain ⟨u, hu, rfl⟩ := List.mem_map.1 hv
    have := inR_mem m3 hu
    simp; omega
  · unfold List.Nodup
    rw [List.pairwise_map]
    exact m4.imp (fun h => by omega)
  · rw [List.map_map]
    have : ((fun v => (n : Int) - 1 - v) ∘ fun v => (n : Int) - 1 - v) = id := by funext v; simp only [Function.comp, id]; omega
    rw [this, List.map_id]

theorem rev_cells {xs : List Int} {n : Nat} (l : Int) :
    ((xs.map (fun v => (n : Int) - 1 - v)).map (cellsG l)) = (xs.map (cellsG ((n : Int) - l))).map (fun v => 1 - v) := by
  rw [List.map_map, List.map_map]
  congr 1
  funext v
  simp only [Function.comp, cellsG]
  by_cases h : v < (n : Int) - l
  · rw [if_pos h, if_neg (by omega)]; rfl
  · rw [if_neg h, if_pos (by omega)]; rfl

theorem cells_plate {W H : Int} {xs : List Int} {n : Nat} (hl : xs.length = n) (mk : matOk W H xs = true) (hw : W ≤ 16) (hh : H ≤ 16) (l : Int) : picOk W H (xs.map (cellsG l)) 1 = true := by
  obtain ⟨m1, m2, m3, m4⟩ := matOk_bd hl mk
  exact picOk_mk (size16 m1 hw hh) (by simpa using hl) m2 (within_map (fun v hv => cellsG_bd l v))

theorem sub_mod (x a n : Int) : (x % n - a) % n = (x - a) % n := by
  rw [Int.sub_emod (x % n) a n, Int.emod_emod_of_dvd x (Int.dvd_refl n), ← Int.sub_emod]

theorem nodup_at {xs : List Int} (h : xs.Nodup) {i j : Nat} (hi : i < xs.length) (hj : j < xs.length) (e : xs.getD i 0 = xs.getD j 0) : i = j := by
  unfold List.Nodup at h
  rw [List.pairwise_iff_getElem] at h
  simp only [List.getD, List.getElem?_eq_getElem hi, List.getElem?_eq_getElem hj, Option.getD_some] at e
  rcases Nat.lt_trichotomy i j with hlt | rfl | hlt
  · exact absurd e (h i j hi hj hlt)
  · rfl
  · exact absurd e.symm (h j i hj hi hlt)

theorem nodup_gen {xs : List Int} {n : Nat} {t : Nat → Nat} (h : xs.Nodup) (ht : ∀ i, i < n → t i < xs.length) (hi : ∀ i j, i < n → j < n → t i = t j → i = j) : (gen n (fun i => xs.getD (t i) 0)).Nodup := by
  unfold gen List.Nodup
  rw [List.pairwise_map]
  refine List.Pairwise.imp_of_mem (R := (· < ·)) ?_ List.pairwise_lt_range
  intro a b ha hb hab e
  have ha2 := List.mem_range.1 ha
  have hb2 := List.mem_range.1 hb
  have := hi a b ha2 hb2 (nodup_at h (ht a ha2) (ht b hb2) e)
  omega

theorem shift_ok {W H : Int} {xs : List Int} {n : Nat} (hl : xs.length = n) (mk : matOk W H xs = true) (a b : Int) : matOk W H (gen n (shiftG W H xs a b)) = true := by
  obtain ⟨m1, m2, m3, m4⟩ := matOk_bd hl mk
  obtain ⟨b1, b2, b3, b4, b5, b6⟩ := matSize_bd m1
  refine matOk_mk (gen_len _ _) m1 m2 (inR_gen (fun i hi => rankOf_bd hl m2 b1 b3 m3 _ _)) ?_
  refine nodup_gen (t := fun i => (((i : Int) / W - b) % H * W + ((i : Int) % W - a) % W).toNat) m4 (fun i hi => ?_) (fun i j hi hj e => ?_)
  · rw [hl]; exact (rank_idx m2 b1 b3 _ _).2.2.2
  · obtain ⟨i0, i1, i2, i3⟩ := rank_idx m2 b1 b3 ((i : Int) % W - a) ((i : Int) / W - b)
    obtain ⟨j0, j1, j2, j3⟩ := rank_idx m2 b1 b3 ((j : Int) % W - a) ((j : Int) / W - b)
    have e2 : ((i : Int) / W - b) % H * W + ((i : Int) % W - a) % W = ((j : Int) / W - b) % H * W + ((j : Int) % W - a) % W := by omega
    obtain ⟨p0, p1⟩ := mod_bd ((i : Int) % W - a) b1
    obtain ⟨q0, q1⟩ := mod_bd ((j : Int) % W - a) b1
    obtain ⟨d1, d2⟩ := join_dm (q := ((i : Int) / W - b) % H) p0 p1
    obtain ⟨d3, d4⟩ := join_dm (q := ((j : Int) / W - b) % H) q0 q1
    rw [e2] at d1 d2
    have ex : ((i : Int) % W - a) % W = ((j : Int) % W - a) % W := by rw [← d2, d4]
    have ey : ((i : Int) / W - b) % H = ((j : Int) / W - b) % H := by rw [← d1, d3]
    obtain ⟨x, y, x0, x1, y0, y1, ei, eix, eiy⟩ := split_dm (i := (i : Int)) (W := W) (H := H) b1 (by omega) (by omega)
    obtain ⟨x', y', x0', x1', y0', y1', ej, ejx, ejy⟩ := split_dm (i := (j : Int)) (W := W) (H := H) b1 (by omega) (by omega)
    rw [eix, ejx] at ex
    rw [eiy, ejy] at ey
    have hx : x = x' := by
      have h1 : (x - a + a) % W = (x' - a + a) % W := by rw [Int.add_emod, ex, ← Int.add_emod]
      rw [Int.sub_add_cancel, Int.sub_add_cancel, Int.emod_eq_of_lt x0 x1, Int.emod_eq_of_lt x0' x1'] at h1
      exact h1
    have hy : y = y' := by
      have h1 : (y - b + b) % H = (y' - b + b) % H := by rw [Int.add_emod, ey, ← Int.add_emod]
      rw [Int.sub_add_cancel, Int.sub_add_cancel, Int.emod_eq_of_lt y0 y1, Int.emod_eq_of_lt y0' y1'] at h1
      exact h1
    subst hx hy
    omega

theorem shift_rank {W H : Int} {xs : List Int} {n : Nat} (hl : xs.length = n) (mk : matOk W H xs = true) (a b x y : Int) : rankOf W H (gen n (shiftG W H xs a b)) x y = rankOf W H xs (x - a) (y - b) := by
  obtain ⟨m1, m2, m3, m4⟩ := matOk_bd hl mk
  obtain ⟨b1, b2, b3, b4, b5, b6⟩ := matSize_bd m1
  obtain ⟨i0, i1, i2, i3⟩ := rank_idx m2 b1 b3 x y
  obtain ⟨p0, p1⟩ := mod_bd x b1
  obtain ⟨d1, d2⟩ := join_dm (q := y % H) p0 p1
  have e : rankOf W H (gen n (shiftG W H xs a b)) x y = shiftG W H xs a b (y % H * W + x % W).toNat := by
    unfold rankOf
    exact gen_get n _ _ i3
  rw [e]
  unfold shiftG rankOf
  rw [Int.toNat_of_nonneg i1, d1, d2, sub_mod, sub_mod]

theorem shift_shift {W H : Int} {xs : List Int} {n : Nat} (hl : xs.length = n) (mk : matOk W H xs = true) (a b d e : Int) : gen n (shiftG W H (gen n (shiftG W H xs a b)) d e) = gen n (shiftG W H xs (a + d) (b + e)) := by
  refine gen_congr (fun i hi => ?_)
  have h := shift_rank hl mk a b ((i : Int) % W - d) ((i : Int) / W - e)
  have e1 : (i : Int) % W - d - a = (i : Int) % W - (a + d) := by omega
  have e2 : (i : Int) / W - e - b = (i : Int) / W - (b + e) := by omega
  rw [e1, e2] at h
  exact h

end Go.Proofs.Ytepaklcobkdfdaa
