/-
  Contracts of chapter 5: DiffusePicture of the program and of the model.
-/
import Derived.Test.YtepaklcobkdfdaaK13
import Derived.Test.YtepaklcobkdfdaaK14
import Derived.Test.YtepaklcobkdfdaaC4
namespace Go.Proofs.Ytepaklcobkdfdaa
open Go.RowKit
set_option linter.unusedVariables false
set_option linter.unusedSimpArgs false

/-- A plate, what is lost, and a bool are handed back. -/
def DiffOut (w : World) (R : Pic × Int × Bool) (e : Ending) (w' : World) : Prop :=
  ∃ a n c, e = .returned (.tuple #[.agg #[.int .i64 R.1.W, .int .i64 R.1.H, .slice a n c], .int .i64 R.2.1, .bool R.2.2]) ∧ OwnA w' w.heap.size a n c R.1.ink ∧ n ≤ 1048576 ∧ Below w.heap.size w w'

set_option maxRecDepth 100000 in
set_option maxHeartbeats 3200000 in
theorem impl_DiffusePicture (kad : Option Addr) (kn kcap : Nat) (ks : List Prt) (W H : Int) (ad : Option Addr) (n cap : Nat) (xs : List Int) (alt : Bool) (w : World)
    (hkl : ks.length = kn) (hkr : Rd w kad (flat ks)) (hkm : kn ≤ 1048576) (hkc : kn ≤ kcap) (hn : xs.length = n) (ha : Rd w ad xs) (hl : n ≤ 9223372036854775807) :
    Calls Try.prog 18 #[.slice kad kn kcap, .agg #[.int .i64 W, .int .i64 H, .slice ad n cap], .bool alt] w (DiffOut w (diffF ks W H xs alt)) := by
  have HKL := Lib.hid hkl
  have HKR := Lib.hid ((hkr.alloc (.cells #[.int .i64 W, .int .i64 H, .slice ad n cap] 34)).alloc (.cells #[.int .i64 0, .int .i64 0, .slice none 0 0] 34))
  have HN := Lib.hid hn
  have HA := Lib.hid ((ha.alloc (.cells #[.int .i64 W, .int .i64 H, .slice ad n cap] 34)).alloc (.cells #[.int .i64 0, .int .i64 0, .slice none 0 0] 34))
  have HB0 := Lib.hid (Joins.below_alloc2 w (.cells #[.int .i64 W, .int .i64 H, .slice ad n cap] 34) (.cells #[.int .i64 0, .int .i64 0, .slice none 0 0] 34))
  have KP0 := Lib.hid ((Blk.new w 34 #[.int .i64 W, .int .i64 H, .slice ad n cap]).alloc (.cells #[.int .i64 0, .int .i64 0, .slice none 0 0] 34))
  have KR0 := Lib.hid (Blk.new' (g := w.heap.size + 1) (w := w.alloc (.cells #[.int .i64 W, .int .i64 H, .slice ad n cap] 34)) 34 #[.int .i64 0, .int .i64 0, .slice none 0 0] (by simp))
  obtain ⟨R, hR⟩ : ∃ R, diffF ks W H xs alt = R := ⟨_, rfl⟩
  rw [hR]
  have HR := Lib.hid hR
  clear hkl hkr hn ha hR
  go_enter Try.func18, Try.ntmps18
  go_wp2_with fail
  refine (impl_IsKernel _ _ _ ks _ HKL.out (by exact HKR.out) hkm hkc).mono ?_
  rintro e w1 ⟨rfl, hb⟩
  have HB1 := Lib.hid (HB0.out.trans (hb.mono (by simp; omega)))
  have KP1 := Lib.hid (KP0.out.below' hb)
  have KR1 := Lib.hid (KR0.out.below' hb)
  have HKR1 := Lib.hid (HKR.out.below hb)
  have HA1 := Lib.hid (HA.out.below hb)
  clear hb
  by_cases hk : kernOk ks = true
  case neg =>
    have hk2 : kernOk ks = false := by simpa using hk
    rw [hk2]
    have HB2 := HB1
    obtain rfl : R = (noPic, 0, false) := HR.out.symm.trans (diffF_no (fun h => hk h.1))
    clear hk hk2
    obtain ⟨m1, d0, d1, d2⟩ := KR1.out.c3
    obtain ⟨f0, f1, f2⟩ := KR1.out.f3
    go_wp2_with fail
    exact bodyPost_ret (v := .tuple #[.agg #[.int .i64 0, .int .i64 0, .slice none 0 0], .int .i64 0, .bool false]) (by simp [results, Try.results18, go_sem, d0, d1, d2]) rfl ⟨none, 0, 0, rfl, OwnA.none _ _, by omega, ((HB2.out.setCell (by simp) _).setCell (by simp) _).setCell (by simp) _⟩
  case pos =>
    rw [hk]
    have HKO := Lib.hid hk
    clear hk
    obtain ⟨l1, c0, c1, c2⟩ := KP1.out.c3
    go_wp2_with fail
    refine (impl_IsPicture _ _ _ _ _ xs _ HN.out (by exact HA1.out) hl).mono ?_
    rintro e w2 ⟨rfl, hb⟩
    have HB2 := Lib.hid (bTrans HB1.out hb)
    have KP2 := Lib.hid (KP1.out.below' hb)
    have KR2 := Lib.hid (KR1.out.below' hb)
    have HKR2 := Lib.hid (HKR1.out.below hb)
    have HA2 := Lib.hid (HA1.out.below hb)
    clear hb l1 c0 c1 c2
    by_cases hp : picOk W H xs 255 = true
    case neg =>
      have hp2 : picOk W H xs 255 = false := by simpa using hp
      rw [hp2]
      obtain rfl : R = (noPic, 0, false) := HR.out.symm.trans (diffF_no (fun h => hp h.2))
      clear hp hp2
      obtain ⟨m1, d0, d1, d2⟩ := KR2.out.c3
      obtain ⟨f0, f1, f2⟩ := KR2.out.f3
      go_wp2_with fail
      exact bodyPost_ret (v := .tuple #[.agg #[.int .i64 0, .int .i64 0, .slice none 0 0], .int .i64 0, .bool false]) (by simp [results, Try.results18, go_sem, d0, d1, d2]) rfl ⟨none, 0, 0, rfl, OwnA.none _ _, by omega, ((HB2.out.setCell (by simp) _).setCell (by simp) _).setCell (by simp) _⟩
    case pos =>
      rw [hp]
      have HP := Lib.hid hp
      have HRR := Lib.hid (HR.out.symm.trans (diffF_yes HN.out HKO.out hp))
      obtain ⟨hs, hq, hi⟩ := picOk_bd HN.out hp
      have hn2 : n ≤ 1048576 := by have := sizeOk_bd hs; omega
      clear hp hs hq hi
      obtain ⟨l1, c0, c1, c2⟩ := KP2.out.c3
      go_wp2_with fail
      refine (impl_diffused kad kn kcap W H ad n cap xs alt ks _ HKL.out (by exact HKR2.out) hkc HKO.out HN.out (by exact HA2.out) HP.out).mono ?_
      rintro e w3 ⟨gp, gr, rc, rfl, o1, o2, h1, h2, hb⟩
      have HO1 := Lib.hid o1
      have HB3 := Lib.hid (bTrans HB2.out hb)
      have KR3 := Lib.hid (KR2.out.below' hb)
      have HZ := Lib.hid (show w.heap.size + 1 < gp from Nat.lt_of_lt_of_le KR2.out.lt h1)
      clear o1 o2 h1 h2 hb l1 c0 c1 c2
      obtain ⟨m1, d0, d1, d2⟩ := KR3.out.c3
      obtain ⟨f0, f1, f2⟩ := KR3.out.f3
      go_wp2_with fail
      go_region
      go_wp2_with fail
      obtain rfl := HRR.out
      have HO2 := Lib.hid (((HO1.out.other (a := ⟨w.heap.size + 1, 0, none⟩) (by have := HZ.out; simp; omega) (.int .i64 W)).other (a := ⟨w.heap.size + 1, 1, none⟩) (by have := HZ.out; simp; omega) (.int .i64 H)).other (a := ⟨w.heap.size + 1, 2, none⟩) (by have := HZ.out; simp; omega) (.slice (some ⟨gp, 0, none⟩) n n))
      have HB4 := Lib.hid (((HB3.out.setCell (show w.heap.size ≤ (⟨w.heap.size + 1, 0, none⟩ : Addr).block by simp) (.int .i64 W)).setCell (show w.heap.size ≤ (⟨w.heap.size + 1, 1, none⟩ : Addr).block by simp) (.int .i64 H)).setCell (show w.heap.size ≤ (⟨w.heap.size + 1, 2, none⟩ : Addr).block by simp) (.slice (some ⟨gp, 0, none⟩) n n))
      exact bodyPost_ret (v := .tuple #[.agg #[.int .i64 W, .int .i64 H, .slice (some ⟨gp, 0, none⟩) n n], .int .i64 (runG alt ks W H xs n).lost, .bool true]) (by simp [results, Try.results18, go_sem, d0, d1, d2, m1, Nat.lt_of_lt_of_le m1]) rfl
        ⟨_, _, _, rfl, OwnA.mk ((HO2.out.alloc _).drewN 1) (by have := HZ.out; omega), hn2, (bAlloc HB4.out _).drew⟩

end Go.Proofs.Ytepaklcobkdfdaa
