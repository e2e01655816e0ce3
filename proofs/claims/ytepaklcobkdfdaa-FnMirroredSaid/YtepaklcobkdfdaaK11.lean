/-
  Contracts of chapter 5: a share given, of the program.
-/
import Derived.Test.YtepaklcobkdfdaaK10
import Derived.Test.YtepaklcobkdfdaaC1
import Derived.Deep.QuietTactic
import Derived.Deep.RegionHeld3
import Derived.Deep.RegionWith
import Derived.RegionTactic
namespace Go.Proofs.Ytepaklcobkdfdaa
open Go.RowKit
set_option linter.unusedVariables false
set_option linter.unusedSimpArgs false

set_option maxHeartbeats 400000 in
theorem impl_plus (X Y X2 Y2 : Int) (w : World) (h1 : -10000 ≤ X) (h2 : X ≤ 10000) (h3 : -10000 ≤ Y) (h4 : Y ≤ 10000) (h5 : -10000 ≤ X2) (h6 : X2 ≤ 10000) (h7 : -10000 ≤ Y2) (h8 : Y2 ≤ 10000) :
    Calls Try.prog 82 #[.agg #[.int .i64 X, .int .i64 Y], .agg #[.int .i64 X2, .int .i64 Y2]] w fun e w' => e = .returned (.agg #[.int .i64 (X + X2), .int .i64 (Y + Y2)]) ∧ Below w.heap.size w w' := by
  go_enter Try.func82, Try.ntmps82
  go_wp2_with fail
  exact bodyPost_ret (v := .agg #[.int .i64 (X + X2), .int .i64 (Y + Y2)]) (by simp [results, Try.results82, go_sem]) rfl ⟨rfl, (by exact (((Below.refl _ _).alloc (Nat.le_refl _) _).alloc (by simp) _).alloc (by simp; omega) _)⟩

theorem tgt_out {W H x y way : Int} {p : Prt} (h : ¬ (0 ≤ x + way * p.dx ∧ x + way * p.dx < W ∧ 0 ≤ y + p.dy ∧ y + p.dy < H)) : tgt W H x y way p = none := by unfold tgt; rw [if_neg h]

theorem tgt_in {W H x y way : Int} {p : Prt} (h : 0 ≤ x + way * p.dx ∧ x + way * p.dx < W ∧ 0 ≤ y + p.dy ∧ y + p.dy < H) : tgt W H x y way p = some ((y + p.dy) * W + (x + way * p.dx)).toNat := by unfold tgt; rw [if_pos h]

/-- A place lies on a side. -/
def fitsB (s side : Int) : Bool := decide (0 ≤ s ∧ s < side)

theorem fitsB_yes {s side : Int} (h1 : 0 ≤ s) (h2 : s < side) : fitsB s side = true := decide_eq_true ⟨h1, h2⟩

theorem fitsB_no {s side : Int} (h : ¬ (0 ≤ s ∧ s < side)) : fitsB s side = false := decide_eq_false h

theorem impl_fits (s side : Int) (w : World) (h1 : 1 ≤ side) (h2 : side ≤ 64) :
    Calls Try.prog 45 #[.int .i64 s, .int .i64 1, .int .i64 side] w fun e w' => e = .returned (.bool (fitsB s side)) ∧ w' = w := by
  by_cases h : 0 ≤ s ∧ s < side
  · rw [fitsB_yes h.1 h.2]
    exact (impl_partFits_yes s 1 side w h1 h2 (by omega) h.1 (by omega)).mono (fun e w' h => ⟨h.1, h.2.symm⟩)
  · rw [fitsB_no h]
    exact (impl_partFits_no s 1 side w h1 h2 (by omega) (by omega)).mono (fun e w' h => ⟨h.1, h.2.symm⟩)

/-- Where a place lies in the picture, or nowhere. -/
def slotOf (W H X Y : Int) : Option Nat := if 0 ≤ X ∧ X < W ∧ 0 ≤ Y ∧ Y < H then some (Y * W + X).toNat else none

theorem slotOf_out {W H X Y : Int} (h : ¬ (0 ≤ X ∧ X < W ∧ 0 ≤ Y ∧ Y < H)) : slotOf W H X Y = none := by unfold slotOf; rw [if_neg h]

theorem slotOf_in {W H X Y : Int} (h : 0 ≤ X ∧ X < W ∧ 0 ≤ Y ∧ Y < H) : slotOf W H X Y = some (Y * W + X).toNat := by unfold slotOf; rw [if_pos h]

theorem Trio.d {D gp gr : Nat} : Trio D gp gr D := .inl rfl
theorem Trio.p {D gp gr : Nat} : Trio D gp gr gp := .inr (.inl rfl)
theorem Trio.r {D gp gr : Nat} : Trio D gp gr gr := .inr (.inr rfl)

set_option maxHeartbeats 1600000 in
set_option maxRecDepth 100000 in
theorem impl_give (B D gp gr : Nat) (kad : Option Addr) (kn kcap : Nat) (W H : Int) (n rc : Nat) (ds rs : List Int) (L s X Y : Int) (w : World) (hd : DSt w B D gp gr kad kn kcap W H n rc ds rs L)
    (w1 : 1 ≤ W) (w2 : W ≤ 64) (h1 : 1 ≤ H) (h2 : H ≤ 64) (hn : (n : Int) = W * H) (hn2 : n ≤ 1024) (x1 : -10000 ≤ X) (x2 : X ≤ 10000) (y1 : -10000 ≤ Y) (y2 : Y ≤ 10000)
    (s1 : -1000000 ≤ s) (s2 : s ≤ 1000000) (l1 : -1000000 ≤ L) (l2 : L ≤ 1000000) (hv : ∀ j, slotOf W H X Y = some j → -1000000 ≤ rs.getD j 0 ∧ rs.getD j 0 ≤ 1000000) :
    Calls Try.prog 81 #[.pointer (some ⟨D, 0, none⟩), .int .i64 s, .agg #[.int .i64 X, .int .i64 Y]] w fun e w' => e = .returned (.tuple #[]) ∧ DSt w' B D gp gr kad kn kcap W H n rc ds (give (rs, L) (slotOf W H X Y) s).1 (give (rs, L) (slotOf W H X Y) s).2 ∧ Keep (Trio D gp gr) w w' := by
  have HD := Lib.hid hd
  have HNN := Lib.hid hn
  have dl := hd.box.lt
  obtain ⟨d0, c0, c1, c2, c3, c4, c5⟩ := hd.c6
  have f5 := hd.box.frozen 5
  clear hd hn
  by_cases hx : 0 ≤ X ∧ X < W
  case neg =>
    rw [slotOf_out (fun h => hx ⟨h.1, h.2.1⟩)]
    have HX := Lib.hid hx
    clear hx hv
    go_enter Try.func81, Try.ntmps81
    go_wp2_with fail
    go_quiet ((go_at_call 45; refine Calls.quiet_of_same ((impl_partFits_no X 1 W _ w1 w2 (by omega) (by have := HX.out; omega)).mono (fun e w' h => ⟨h.1, h.2.symm⟩))))
    go_wp2_with fail
    refine bodyPost_ret (results_none rfl _ _ _) rfl ?_
    exact ⟨rfl, ((HD.out.alloc _).drewN _).setLost (L + s), (((Keep.refl (Trio D gp gr) w).alloc _).drewN _).set (show Trio D gp gr D from Trio.d) _⟩
  case pos =>
    obtain ⟨hx1, hx2⟩ := hx
    by_cases hy : 0 ≤ Y ∧ Y < H
    case neg =>
      rw [slotOf_out (fun h => hy ⟨h.2.2.1, h.2.2.2⟩)]
      have HX := Lib.hid hy
      have k1 := fitsB_yes hx1 hx2
      have k2 := fitsB_no hy
      clear hy hv
      go_enter Try.func81, Try.ntmps81
      go_wp2_with fail
      go_quiet ((go_at_call 45; exact Calls.quiet_of_same (impl_fits _ _ _ (by omega) (by omega))))
      go_wp2_with fail
      refine bodyPost_ret (results_none rfl _ _ _) rfl ?_
      exact ⟨rfl, ((HD.out.alloc _).drewN _).setLost (L + s), (((Keep.refl (Trio D gp gr) w).alloc _).drewN _).set (show Trio D gp gr D from Trio.d) _⟩
    case pos =>
      obtain ⟨hy1, hy2⟩ := hy
      rw [slotOf_in ⟨hx1, hx2, hy1, hy2⟩] at hv ⊢
      obtain ⟨r1, r2⟩ := row_bd hx1 hx2 hy1 hy2
      obtain ⟨V, hV⟩ : ∃ V, Y * W = V := ⟨_, rfl⟩
      rw [hV] at r1 r2 hv ⊢
      have r3 : V + X < n := by rw [HNN.out]; exact r2
      obtain ⟨j, hj⟩ : ∃ j : Nat, V + X = (j : Int) := ⟨(V + X).toNat, by omega⟩
      have hjn : j < n := by omega
      have hjt : (V + X).toNat = j := by omega
      rw [hjt] at hv ⊢
      obtain ⟨v1, v2⟩ := hv j rfl
      have g1 := HD.out.rest.cell hjn
      have g2 := HD.out.rest.frozen j
      have gl := HD.out.rest.lt
      obtain ⟨Q, hQ⟩ : ∃ Q, rs.getD j 0 = Q := ⟨_, rfl⟩
      rw [hQ] at g1 v1 v2
      have HQ := Lib.hid hQ
      have u1 : IntKind.i64.wrap V = V := IntWalk.i64_in _ (by omega)
      have u2 : IntKind.i64.wrap (j : Int) = (j : Int) := IntWalk.i64_in _ (by omega)
      have u3 : IntKind.i64.wrap (Q + s) = Q + s := IntWalk.i64_in _ (by omega)
      have u4 : (0 : Int) ≤ (j : Int) := by omega
      have u5 : (j : Int) < (n : Int) := by omega
      have k1 := fitsB_yes hx1 hx2
      have k2 := fitsB_yes hy1 hy2
      clear hQ r2 hjt hv
      go_enter Try.func81, Try.ntmps81
      go_wp2_with fail
      go_quiet ((go_at_call 45; exact Calls.quiet_of_same (impl_fits _ _ _ (by omega) (by omega))))
      go_wp2_with fail
      go_region
      go_end0
      refine ⟨rfl, ?_⟩
      simp only [give, HQ.out]
      exact ⟨((HD.out.alloc _).drewN _).setRest j (Q + s), (((Keep.refl (Trio D gp gr) w).alloc _).drewN _).set (show Trio D gp gr gr from Trio.r) _⟩

end Go.Proofs.Ytepaklcobkdfdaa
