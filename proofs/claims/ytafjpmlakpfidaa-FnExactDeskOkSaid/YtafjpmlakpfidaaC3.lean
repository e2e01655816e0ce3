/-
  Contracts of FlatPicture and RampPicture, of the program (impl) and of the model (spec).
-/
import Derived.Test.YtafjpmlakpfidaaC1
import Derived.StillTailTactics
namespace Go.Proofs.Ytafjpmlakpfidaa
open Go.RowKit
set_option linter.unusedVariables false
set_option linter.unusedSimpArgs false

theorem flatF_no {W H v : Int} (h : ¬ (sizeOk W H = true ∧ 0 ≤ v ∧ v ≤ 255)) : flatF W H v = (noPic, false) := by unfold flatF; rw [if_neg h]

theorem flatF_yes {W H v : Int} {n : Nat} (h : sizeOk W H = true) (h2 : 0 ≤ v) (h3 : v ≤ 255) (hn : (n : Int) = W * H) : flatF W H v = (⟨W, H, List.replicate n v⟩, true) := by
  unfold flatF; rw [if_pos ⟨h, h2, h3⟩, ← hn]; simp

set_option maxHeartbeats 400000 in
theorem impl_FlatPicture (W H v : Int) (w : World) : Calls Try.prog 15 #[.int .i64 W, .int .i64 H, .int .i64 v] w (PicOut2 w (flatF W H v)) := by
  by_cases hc : sizeOk W H = true ∧ 0 ≤ v ∧ v ≤ 255
  case neg =>
    rw [flatF_no hc]
    by_cases hs : sizeOk W H = true
    · go_enter Try.func15, Try.ntmps15
      go_wp2_with (go_at_call 39; refine (impl_isSize _ _ _).mono ?_; rintro e w' ⟨rfl, rfl⟩)
      all_goals first | (exfalso; exact hc ⟨hs, by omega, by omega⟩) | skip
      all_goals (
        skip
        exact bodyPost_ret (v := .tuple #[.agg #[.int .i64 0, .int .i64 0, .slice none 0 0], .bool false]) (by simp [results, Try.results15, go_sem]) rfl ⟨none, 0, 0, rfl, OwnA.none _ _, by omega, Joins.below_alloc1 _ _⟩
        )
    · have hs2 : sizeOk W H = false := by simpa using hs
      clear hs hc
      go_enter Try.func15, Try.ntmps15
      go_wp2_with (go_at_call 39; refine (impl_isSize _ _ _).mono ?_; rintro e w' ⟨rfl, rfl⟩)
      exact bodyPost_ret (v := .tuple #[.agg #[.int .i64 0, .int .i64 0, .slice none 0 0], .bool false]) (by simp [results, Try.results15, go_sem]) rfl ⟨none, 0, 0, rfl, OwnA.none _ _, by omega, Joins.below_alloc1 _ _⟩
  case pos =>
    obtain ⟨hs, v1, v2⟩ := hc
    obtain ⟨n, hq⟩ : ∃ n : Nat, (n : Int) = W * H := ⟨_, (toNat_mul hs).1⟩
    obtain ⟨b1, b2, b3, b4, b5, b6⟩ := sizeOk_bd hs
    have hn1 : 1 ≤ n := by omega
    have hn2 : n ≤ 1024 := by omega
    rw [flatF_yes hs v1 v2 hq]
    have HQ := Lib.hid hq
    clear hq
    go_enter Try.func15, Try.ntmps15
    go_wp2_with (go_at_call 39; refine (impl_isSize _ _ _).mono ?_; rintro e w' ⟨rfl, rfl⟩)
    refine (impl_blank W H n _ hs HQ.out).mono ?_
    rintro e w2 ⟨g, rfl, hg, ho, hb⟩
    have HB2 := Lib.hid ((Joins.below_alloc1 _ _).trans (hb.mono (by simp)))
    have KR2 := Lib.hid ((Blk.new w 24 #[.int .i64 0, .int .i64 0, .slice none 0 0]).below' hb)
    have HO := Lib.hid ho
    have HG : Hid (w.heap.size + 1 ≤ g) := Lib.hid (by simpa using hg)
    clear hb ho hg
    go_wp2_with fail
    go_loopw [29] (fun i wr => ∃ k : Nat, k ≤ n ∧ i = .int .i64 k ∧ Own wr g n n (filled (List.replicate n v) (List.replicate n 0) k) ∧ (w2.alloc (.cells #[.int .i64 W, .int .i64 H, .slice (some ⟨g, 0, none⟩) n n] 24)).grownBy wr (some g)) (fun i _ => n - (intOf i).toNat)
    case atStart => exact ⟨0, Nat.zero_le _, rfl, by rw [filled_zero]; exact HO.out.alloc _, grown_refl _ _⟩
    case round =>
      obtain ⟨k, hk, rfl, ho, hg⟩ := hrel
      have HBr := Lib.hid ((HB2.out.alloc HB2.out.size _).grown hg (by have := HB2.out.size; simp; omega) (by intro k hk; cases hk; have := HG.out; omega))
      have KO := Lib.hid ((Blk.new w2 24 #[.int .i64 W, .int .i64 H, .slice (some ⟨g, 0, none⟩) n n]).grown hg (by have := HO.out.lt; simp; omega))
      obtain ⟨l0, o0, o1, o2⟩ := KO.out.c3
      by_cases hlt : k < n
      · have g2 : wr.cell? ⟨g, k, none⟩ = some (.int .i64 ((filled (List.replicate n v) (List.replicate n 0) k).getD k 0)) := ho.cell hlt
        have g3 : wr.frozen? ⟨g, k, none⟩ = false := ho.frozen k
        have hs := ho.set k (v)
        rw [filled_succ (List.replicate n v) _ k _ (by simp; omega) (by simp; omega) (by simp [List.getD, hlt])] at hs
        have HSt := Lib.hid hs
        clear hs ho
        go_wp2_with fail
        go_roundw
        case rel => exact ⟨k + 1, by omega, by go_num, by simpa using HSt.out, grown_set hg _⟩
        case measure => simp [intOf]; omega
      · obtain rfl : n = k := by omega
        have KR := Lib.hid ((KR2.out.alloc _).grown hg (by have := HG.out; have := KR2.out.lt; simp; omega))
        obtain ⟨r0, r1, r2, r3⟩ := KR.out.c3
        obtain ⟨q0, q1, q2⟩ := KR.out.f3
        rw [filled_at (List.replicate n v) _ n (by simp) (by simp)] at ho
        have HO3 := Lib.hid ho
        clear ho
        go_wp2_with fail
        exact bodyPost_ret (v := .tuple #[.agg #[.int .i64 W, .int .i64 H, .slice (some ⟨g, 0, none⟩) n n], .bool true]) (by simp [results, Try.results15, go_sem, r1, r2, r3]) rfl
          ⟨_, _, _, rfl, OwnA.mk (((HO3.out.other (by have := HG.out; simp; omega) _).other (by have := HG.out; simp; omega) _).other (by have := HG.out; simp; omega) _) (by have := HG.out; omega), by omega,
            ((HBr.out.setCell (by first | (simp; done) | (simp; omega)) _).setCell (by first | (simp; done) | (simp; omega)) _).setCell (by first | (simp; done) | (simp; omega)) _⟩

theorem spec_l1In_yes (x a b : Int) (w : World) (h1 : a ≤ x) (h2 : x ≤ b) :
    Calls Try.prog 49 #[.int .i64 x, .int .i64 a, .int .i64 b] w fun e w' => e = .returned (.bool true) ∧ w = w' :=
  (spec_l1In x a b w).mono fun e w' ⟨he, hw⟩ => ⟨by rw [he]; exact ret_bool (by simp [h1, h2]), hw⟩

theorem spec_l1In_no (x a b : Int) (w : World) (h : ¬ (a ≤ x ∧ x ≤ b)) :
    Calls Try.prog 49 #[.int .i64 x, .int .i64 a, .int .i64 b] w fun e w' => e = .returned (.bool false) ∧ w = w' :=
  (spec_l1In x a b w).mono fun e w' ⟨he, hw⟩ => ⟨by rw [he]; exact ret_bool (by simpa using h), hw⟩

theorem spec_l1Size_yes (W H : Int) (w : World) (h : sizeOk W H = true) :
    Calls Try.prog 58 #[.int .i64 W, .int .i64 H] w fun e w' => e = .returned (.bool true) ∧ w = w' :=
  (spec_l1Size W H w).mono fun e w' ⟨he, hw⟩ => ⟨by rw [he, h], hw⟩

theorem spec_l1Size_no (W H : Int) (w : World) (h : ¬ sizeOk W H = true) :
    Calls Try.prog 58 #[.int .i64 W, .int .i64 H] w fun e w' => e = .returned (.bool false) ∧ w = w' :=
  (spec_l1Size W H w).mono fun e w' ⟨he, hw⟩ => ⟨by rw [he]; exact ret_bool (by simpa using h), hw⟩

theorem impl_isSize_yes (W H : Int) (w : World) (h : sizeOk W H = true) :
    Calls Try.prog 39 #[.int .i64 W, .int .i64 H] w fun e w' => e = .returned (.bool true) ∧ w = w' :=
  (impl_isSize W H w).mono fun e w' ⟨he, hw⟩ => ⟨by rw [he, h], hw⟩

theorem impl_isSize_no (W H : Int) (w : World) (h : ¬ sizeOk W H = true) :
    Calls Try.prog 39 #[.int .i64 W, .int .i64 H] w fun e w' => e = .returned (.bool false) ∧ w = w' :=
  (impl_isSize W H w).mono fun e w' ⟨he, hw⟩ => ⟨by rw [he]; exact ret_bool (by simpa using h), hw⟩

theorem rampF_no {W H : Int} (h : ¬ sizeOk W H = true) : rampF W H = (noPic, false) := by unfold rampF; rw [if_neg h]

theorem gen_zero (n : Nat) (f : Nat → Int) (h : ∀ k, f k = 0) : gen n f = List.replicate n 0 := by
  symm; exact gen_ext n f _ (by simp) (fun k hk => by rw [h k]; simp [List.getD, hk])
def rampG (W : Int) (i : Nat) : Int := if 1 < W then (i : Int) % W * 255 / (W - 1) else 0

theorem rampF_yes {W H : Int} {n : Nat} (h : sizeOk W H = true) (hn : (n : Int) = W * H) : rampF W H = (⟨W, H, gen n (rampG W)⟩, true) := by
  unfold rampF; rw [if_pos h, ← hn]; simp; rfl

theorem ramp1 {W : Int} {k : Nat} (h : 1 < W) : (k : Int) % W * 255 / (W - 1) = rampG W k := by unfold rampG; rw [if_pos h]

theorem ramp0 {W : Int} {k : Nat} (h : ¬ 1 < W) : rampG W k = 0 := by unfold rampG; rw [if_neg h]

end Go.Proofs.Ytafjpmlakpfidaa
