/-
  Screened plates cover each other as their pictures do; nothing of the program.
-/
import Derived.Test.YtgepjfdnlnemjaaM14
import Derived.Test.YtgepjfdnlnemjaaD14
import Derived.Test.YtgepjfdnlnemjaaD15
import Derived.Test.YtgepjfdnlnemjaaR14
namespace Go.Proofs.Ytgepjfdnlnemjaa
open Go.RowKit
set_option linter.unusedVariables false
set_option linter.unusedSimpArgs false

theorem dotG_bd (W H : Int) (xs ls : List Int) (tw : Int) (i : Nat) : 0 ≤ dotG W H xs ls tw i ∧ dotG W H xs ls tw i ≤ 1 := by unfold dotG; split <;> omega

theorem dots_plate {W H tw th : Int} {xs ls : List Int} {m : Nat} (hs : sizeOk tw th = true) (hq : (m : Int) = tw * th) : picOk tw th (gen m (dotG W H xs ls tw)) 1 = true := by
  rw [picOk_in (gen_len _ _) hs hq]
  unfold within gen
  rw [List.all_eq_true]
  intro v hv
  obtain ⟨i, hi, rfl⟩ := List.mem_map.1 hv
  have := dotG_bd W H xs ls tw i
  simpa using this

theorem dots_cover {W H tw th : Int} {xs ls ks : List Int} {m : Nat} (hs : sizeOk tw th = true) (hq : (m : Int) = tw * th) (h : ∀ i, i < m → ls[i]?.getD 0 ≤ ks[i]?.getD 0) :
    coversF tw th (gen m (dotG W H xs ks tw)) tw th (gen m (dotG W H xs ls tw)) = true := by
  have p1 := picOk_le (dots_plate (W := W) (H := H) (xs := xs) (ls := ls) hs hq)
  have p2 := picOk_le (dots_plate (W := W) (H := H) (xs := xs) (ls := ks) hs hq)
  have hc : coverB (gen m (dotG W H xs ks tw)) (gen m (dotG W H xs ls tw)) = true := by
    refine coverB_yes (fun i hi => ?_)
    rw [gen_len] at hi
    rw [show (gen m (dotG W H xs ls tw))[i]?.getD 0 = dotG W H xs ls tw i from gen_get m _ i hi, show (gen m (dotG W H xs ks tw))[i]?.getD 0 = dotG W H xs ks tw i from gen_get m _ i hi]
    have := h i hi
    unfold dotG
    split <;> split <;> omega
  unfold coversF
  rw [pair_mk p2 p1]
  simpa [coverB] using hc

theorem map_at {xs : List Int} {n : Nat} {i : Nat} (h : i < xs.length) : (xs.map (levelG n))[i]?.getD 0 = levelG n (xs[i]?.getD 0) := map_get _ _ _ h

theorem sum_cover {W H tw th : Int} {xs ps ys : List Int} {n m : Nat} (hs : sizeOk tw th = true) (hq : (m : Int) = tw * th) (hp : ps.length = m) (hl : ys.length = m) (hx : within ps 255 = true) (hy : within ys 1 = true) :
    coversF tw th (gen m (dotG W H xs ((gen m (addG ps ys)).map (levelG n)) tw)) tw th (gen m (dotG W H xs (ps.map (levelG n)) tw)) = true := by
  refine dots_cover hs hq (fun i hi => ?_)
  rw [map_at (by omega), map_at (by rw [gen_len]; exact hi)]
  refine level_mono ?_
  have hg : (gen m (addG ps ys))[i]?.getD 0 = min (ps[i]?.getD 0 + ys[i]?.getD 0) 255 := gen_get m _ i hi
  rw [hg]
  have := within_at hx i (by omega)
  have := within_at hy i (by omega)
  omega

theorem scr_call (W H : Int) (a : Option Addr) (n cp : Nat) (xs : List Int) (V U : Int) (b : Option Addr) (m cq : Nat) (ps : List Int) (w : World) (hl : xs.length = n) (ha : Rd w a xs) (hn : n ≤ 9223372036854775807) (hl' : ps.length = m) (hb : Rd w b ps) (hm : m ≤ 9223372036854775807) (mk : matOk W H xs = true) (hp : picOk V U ps 255 = true) :
    Calls Try.prog 23 #[.agg #[.int .i64 W, .int .i64 H, .slice a n cp], .agg #[.int .i64 V, .int .i64 U, .slice b m cq]] w fun e w' =>
      ∃ a' c', e = .returned (.agg #[.int .i64 V, .int .i64 U, .slice a' m c']) ∧ OwnA w' w.heap.size a' m c' (gen m (dotG W H xs (ps.map (levelG n)) V)) ∧ Below w.heap.size w w' := by
  refine (impl_ScreenPicture W H a n cp xs V U b m cq ps w hl ha hn hl' hb hm).mono ?_
  rintro e w' ⟨a', k, c', he, ho, hk, hbb⟩
  rw [screenF_yes hl hl' mk hp] at he ho
  obtain rfl : m = k := by have := ho.len; simp [gen_len] at this; exact this
  exact ⟨a', c', he, ho, hbb⟩

theorem scl_call (W H : Int) (a : Option Addr) (n cp : Nat) (xs : List Int) (l V U : Int) (m : Nat) (w : World) (hl : xs.length = n) (ha : Rd w a xs) (hn : n ≤ 9223372036854775807) (mk : matOk W H xs = true) (h0 : 0 ≤ l) (h1 : l ≤ (n : Int)) (hs : sizeOk V U = true) (hq : (m : Int) = V * U) :
    Calls Try.prog 14 #[.agg #[.int .i64 W, .int .i64 H, .slice a n cp], .int .i64 l, .int .i64 V, .int .i64 U] w fun e w' =>
      ∃ a' c', e = .returned (.tuple #[.agg #[.int .i64 V, .int .i64 U, .slice a' m c'], .bool true]) ∧ OwnA w' w.heap.size a' m c' (gen m (dotG W H xs (List.replicate m l) V)) ∧ Below w.heap.size w w' := by
  refine (impl_ScreenLevel W H a n cp xs l V U w hl ha hn).mono ?_
  rintro e w' ⟨a', k, c', he, ho, hk, hbb⟩
  rw [screenLevelF_yes hl hq mk h0 h1 hs] at he ho
  obtain rfl : m = k := by have := ho.len; simp [gen_len] at this; exact this
  exact ⟨a', c', he, ho, hbb⟩

theorem flat_call (V U ink : Int) (m : Nat) (w : World) (hs : sizeOk V U = true) (hq : (m : Int) = V * U) (h0 : 0 ≤ ink) (h1 : ink ≤ 255) :
    Calls Try.prog 26 #[.int .i64 V, .int .i64 U, .int .i64 ink] w fun e w' =>
      ∃ a' c', e = .returned (.tuple #[.agg #[.int .i64 V, .int .i64 U, .slice a' m c'], .bool true]) ∧ OwnA w' w.heap.size a' m c' (List.replicate m ink) ∧ Below w.heap.size w w' := by
  refine (impl_FlatPicture V U ink w).mono ?_
  rintro e w' ⟨a', k, c', he, ho, hk, hbb⟩
  have e1 : flatF V U ink = (⟨V, U, List.replicate m ink⟩, true) := by unfold flatF; rw [if_pos ⟨hs, h0, h1⟩, ← hq]; simp
  rw [e1] at he ho
  obtain rfl : m = k := by have := ho.len; simp at this; exact this
  exact ⟨a', c', he, ho, hbb⟩

theorem lev_call (W H : Int) (a : Option Addr) (n cp : Nat) (xs : List Int) (v l : Int) (w : World) (hl : xs.length = n) (ha : Rd w a xs) (mk : matOk W H xs = true) (hn : n ≤ 9223372036854775807) (h0 : 0 ≤ v) (h1 : v ≤ 255) (h : levelG n v = l) :
    Calls Try.prog 27 #[.agg #[.int .i64 W, .int .i64 H, .slice a n cp], .int .i64 v] w fun e w' => e = .returned (.int .i64 l) ∧ Below w.heap.size w w' :=
  (impl_LevelOf W H a n cp xs v w hl ha hn).mono fun e w' ⟨he, hb⟩ => ⟨by rw [he, levelOfF_yes hl mk h0 h1, h], hb⟩

end Go.Proofs.Ytgepjfdnlnemjaa
