/-
  Contracts of the laws' own helpers: the cells below a level.
-/
import Derived.Test.YtdcengccdoohbaaR6
import Derived.Test.YtdcengccdoohbaaR4
import Derived.Test.YtdcengccdoohbaaM6
namespace Go.Proofs.Ytdcengccdoohbaa
open Go.RowKit
set_option linter.unusedVariables false
set_option linter.unusedSimpArgs false

set_option maxHeartbeats 800000 in
theorem laws_below (W H : Int) (ad : Option Addr) (n cap : Nat) (xs : List Int) (l : Int) (w : World) (hn : xs.length = n) (ha : Rd w ad xs) (hl : n ≤ 1024) :
    Calls Try.prog 44 #[.agg #[.int .i64 W, .int .i64 H, .slice ad n cap], .int .i64 l] w (PicOut w ⟨W, H, xs.map (cellsG l)⟩) := by
  have HN := Lib.hid hn
  have HA := Lib.hid ha
  clear hn ha
  rw [gen_map xs (cellsG l) n HN.out]
  go_enter Try.func44, Try.ntmps44
  go_wp2_with fail
  go_loopw [16] (fun i wr => ∃ (k : Nat) (ad' : Option Addr) (cap' : Nat), k ≤ n ∧ i = .int .i64 k ∧ OwnA wr (w.heap.size + 2 + 1) ad' k cap' (gen k ((fun (i : Nat) => cellsG l (xs[i]?.getD 0)))) ∧ Blk wr (w.heap.size + 2) 25 #[.int .i64 (W), .int .i64 (H), .slice ad' k cap'] ∧ Below (w.heap.size + 2) ((w.alloc (.cells #[.int .i64 W, .int .i64 H, .slice ad n cap] 42)).alloc (.cells #[.int .i64 0, .int .i64 0, .slice none 0 0] 25)) wr) (fun i _ => n - (intOf i).toNat)
  case atStart => exact ⟨0, none, 0, Nat.zero_le _, rfl, OwnA.none _ _, by first | exact Blk.new _ _ _ | exact Blk.new' _ _ (by simp), by first | exact Joins.below_alloc1 _ _ | exact (Below.refl _ _).alloc (by simp) _⟩
  case round =>
    obtain ⟨k, ad', cap', hk, rfl, ho, hb', hw'⟩ := hrel
    have HO := Lib.hid ho
    have KB := Lib.hid hb'
    have HW := Lib.hid hw'
    obtain ⟨l0, o0, o1, o2⟩ := KB.out.c3
    clear ho hb' hw'
    have HBr := Lib.hid ((Joins.below_alloc2 w _ _).trans (HW.out.mono (by simp)))
    by_cases hlt : k < n
    · obtain ⟨ba, oa, hae, hal, hac⟩ := (HA.out.below HBr.out).at (by have := HN.out; omega)
      have h1 := hac (k) (by have := HN.out; omega)
      subst hae
      clear hac
      by_cases hv : xs[k]?.getD 0 < l
      · have HE := Lib.hid (show (1 : Int) = cellsG l (xs[k]?.getD 0) by unfold cellsG; rw [if_pos hv])
        go_wp2_with (at_builtin; refine wp_append _ rfl (.tmp 24) (.tmp 25) rfl (w.heap.size + 2 + 1) k cap' ad' _ rfl (HO.out.alloc _) wr.heap.size ((1 : Int)) rfl (by go_simp) (by omega) (by have := KB.out.lt; simp; omega) ?_; intro ad2 cap2 w5 ho5 hg5; have KB5 := Lib.hid (app_blk HO.out hg5 KB.out (by omega)); obtain ⟨l5, p0, p1, p2⟩ := KB5.out.c3; obtain ⟨f0, f1, f2⟩ := KB5.out.f3)
        have HW5 := Lib.hid (app_below HO.out hg5 HW.out (by omega) (by have := KB.out.lt; omega))
        have HO5 : Hid (OwnA w5 (w.heap.size + 2 + 1) ad2 (k + 1) cap2 (gen (k + 1) (fun (i : Nat) => cellsG l (xs[i]?.getD 0)))) := Lib.hid (by rw [← gen_snoc]; refine cast (congrArg (fun (v : Int) => OwnA w5 (w.heap.size + 2 + 1) ad2 (k + 1) cap2 (gen k (fun (i : Nat) => cellsG l (xs[i]?.getD 0)) ++ [v])) ?_) ho5; exact HE.out)
        clear ho5 hg5
        go_roundw
        case rel => exact ⟨k + 1, ad2, cap2, by omega, by go_num, HO5.out.other (by simp) _, by first | exact KB5.out.set 2 _ | (have h := KB5.out.set 2 (.slice ad2 (k + 1) cap2); simpa using h), HW5.out.setCell (by simp) _⟩
        case measure => simp [intOf]; omega
      · have HE := Lib.hid (show (0 : Int) = cellsG l (xs[k]?.getD 0) by unfold cellsG; rw [if_neg hv])
        go_wp2_with (at_builtin; refine wp_append _ rfl (.tmp 29) (.tmp 30) rfl (w.heap.size + 2 + 1) k cap' ad' _ rfl (HO.out.alloc _) wr.heap.size ((0 : Int)) rfl (by go_simp) (by omega) (by have := KB.out.lt; simp; omega) ?_; intro ad2 cap2 w5 ho5 hg5; have KB5 := Lib.hid (app_blk HO.out hg5 KB.out (by omega)); obtain ⟨l5, p0, p1, p2⟩ := KB5.out.c3; obtain ⟨f0, f1, f2⟩ := KB5.out.f3)
        have HW5 := Lib.hid (app_below HO.out hg5 HW.out (by omega) (by have := KB.out.lt; omega))
        have HO5 : Hid (OwnA w5 (w.heap.size + 2 + 1) ad2 (k + 1) cap2 (gen (k + 1) (fun (i : Nat) => cellsG l (xs[i]?.getD 0)))) := Lib.hid (by rw [← gen_snoc]; refine cast (congrArg (fun (v : Int) => OwnA w5 (w.heap.size + 2 + 1) ad2 (k + 1) cap2 (gen k (fun (i : Nat) => cellsG l (xs[i]?.getD 0)) ++ [v])) ?_) ho5; exact HE.out)
        clear ho5 hg5
        go_roundw
        case rel => exact ⟨k + 1, ad2, cap2, by omega, by go_num, HO5.out.other (by simp) _, by first | exact KB5.out.set 2 _ | (have h := KB5.out.set 2 (.slice ad2 (k + 1) cap2); simpa using h), HW5.out.setCell (by simp) _⟩
        case measure => simp [intOf]; omega
    · obtain rfl : n = k := by omega
      have KR : Hid (Blk wr (w.heap.size + 1) 25 #[.int .i64 0, .int .i64 0, .slice none 0 0]) := Lib.hid (Blk.below (Blk.new' _ _ (by simp)) HW.out (by simp))
      obtain ⟨r0, r1, r2, r3⟩ := KR.out.c3
      obtain ⟨q0, q1, q2⟩ := KR.out.f3
      go_wp2_with fail
      exact bodyPost_ret (v := .agg #[.int .i64 (W), .int .i64 (H), .slice ad' _ cap']) (by simp [results, Try.results44, go_sem, r1, r2, r3]) rfl
        ⟨_, _, _, rfl, (((HO.out.other (by simp; try omega) _).other (by simp; try omega) _).other (by simp; try omega) _).mono (by have := HBr.out.size; try simp; omega), by omega,
          ((HBr.out.setCell (by first | (simp; done) | (simp; omega)) _).setCell (by first | (simp; done) | (simp; omega)) _).setCell (by first | (simp; done) | (simp; omega)) _⟩

end Go.Proofs.Ytdcengccdoohbaa
