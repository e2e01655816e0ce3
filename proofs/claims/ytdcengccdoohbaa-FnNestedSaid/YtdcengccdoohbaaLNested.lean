/-
  FnNested: in any matrix that is drawn, the cells below a level are as many as the level says, and a greater level keeps them: the law returns true for every code. No conditions.
-/
import Derived.Test.YtdcengccdoohbaaR6
import Derived.Test.YtdcengccdoohbaaR4
import Derived.Test.YtdcengccdoohbaaM6
import Derived.Test.YtdcengccdoohbaaFrameB
namespace Go.Proofs.Ytdcengccdoohbaa.lNested
open Go.ChangeShapes Go.WideShapes Go.ChangeAt Go.RowKit
set_option linter.unusedVariables false
set_option linter.unusedSimpArgs false

theorem cells_call (W H : Int) (a : Option Addr) (n cp : Nat) (xs : List Int) (l : Nat) (w : World) (hl : xs.length = n) (ha : Rd w a xs) (mk : matOk W H xs = true) (mw : W ≤ 16) (mh : H ≤ 16) (h : l ≤ n) (hn : n ≤ 9223372036854775807) :
    Calls Try.prog 42 #[.agg #[.int .i64 W, .int .i64 H, .slice a n cp], .int .i64 (l : Int)] w fun e w' =>
      ∃ a' n' c', e = .returned (.agg #[.int .i64 W, .int .i64 H, .slice a' n' c']) ∧ OwnA w' w.heap.size a' n' c' (xs.map (cellsG l)) ∧ n' ≤ 1048576 ∧ Below w.heap.size w w' := by
  refine (impl_CellsBelow W H a n cp xs l w hl ha hn).mono ?_
  rintro e w' ⟨a', n', c', he, ho, hn', hb⟩
  rw [(cells_ok hl mk mw mh l h).1] at he ho
  exact ⟨a', n', c', he, ho, hn', hb⟩

theorem plate_call (W H : Int) (a : Option Addr) (n cp : Nat) (xs : List Int) (w : World) (hl : xs.length = n) (ha : Rd w a xs) (hn : n ≤ 9223372036854775807) (h : picOk W H xs 1 = true) :
    Calls Try.prog 28 #[.agg #[.int .i64 W, .int .i64 H, .slice a n cp]] w fun e w' => e = .returned (.bool true) ∧ Below w.heap.size w w' :=
  (impl_IsPlate W H a n cp xs w hl ha hn).mono fun e w' ⟨he, hb⟩ => ⟨by rw [he, h], hb⟩

theorem count_call (W H : Int) (a : Option Addr) (n cp : Nat) (xs : List Int) (l : Nat) (w : World) (hl : xs.length = n) (ha : Rd w a xs) (hn : n ≤ 9223372036854775807) (h : countF W H xs 1 = l) :
    Calls Try.prog 23 #[.agg #[.int .i64 W, .int .i64 H, .slice a n cp], .int .i64 1] w fun e w' => e = .returned (.int .i64 (l : Int)) ∧ Below w.heap.size w w' :=
  (impl_CountInk W H a n cp xs 1 w hl ha hn).mono fun e w' ⟨he, hb⟩ => ⟨by rw [he, h], hb⟩

theorem cover_call (W H : Int) (a : Option Addr) (n cp : Nat) (xs : List Int) (a' : Option Addr) (n' cp' : Nat) (ys : List Int) (w : World) (hl : xs.length = n) (ha : Rd w a xs) (hn : n ≤ 9223372036854775807) (hl' : ys.length = n') (ha' : Rd w a' ys) (hn' : n' ≤ 9223372036854775807) (h : coversF W H xs W H ys = true) :
    Calls Try.prog 31 #[.agg #[.int .i64 W, .int .i64 H, .slice a n cp], .agg #[.int .i64 W, .int .i64 H, .slice a' n' cp']] w fun e w' => e = .returned (.bool true) ∧ Below w.heap.size w w' :=
  (impl_CoversPicture W H a n cp xs W H a' n' cp' ys w hl ha hn hl' ha' hn').mono fun e w' ⟨he, hb⟩ => ⟨by rw [he, h], hb⟩

set_option maxHeartbeats 3200000 in
theorem ok (ad0 : Option Addr) (n0 cap0 : Nat) (bs0 : List Int) (w : World) (hn0 : bs0.length = n0) (hr0 : RdU w.heap.size w ad0 bs0) (hs0 : n0 ≤ 1048576) :
    Calls Try.prog 12 #[.slice ad0 n0 cap0] w fun e w' => e = .returned (.bool true) ∧ Below w.heap.size w w' := by
  have HL := Lib.hid hn0
  have HC := Lib.hid hr0
  clear hn0 hr0
  go_enter Try.func12, Try.ntmps12
  go_wp2_with fail
  refine (spec_MakeMatrix ad0 n0 cap0 bs0 _ HL.out (by exact HC.out) (by omega)).mono ?_
  rintro e w1 ⟨W, H, a, n, cp, xs, rfl, mk, mw, mh, ho, hb⟩
  obtain ⟨m1, m2, m3, m4⟩ := matOk_bd ho.len mk
  obtain ⟨b1, b2, b3, b4, b5, b6⟩ := matSize_bd m1
  have hn1 : 1 ≤ n := by omega
  have hn2 : n ≤ 256 := by omega
  have MK := Lib.hid mk
  have HX := Lib.hid ho.len
  have HB1 := Lib.hid hb
  have RD2 := Lib.hid (ho.rd.alloc (.cells #[.int .i64 W, .int .i64 H, .slice a n cp] 42))
  have KM2 := Lib.hid (Blk.new w1 42 #[.int .i64 W, .int .i64 H, .slice a n cp])
  have HB2 := Lib.hid (bAlloc HB1.out (.cells #[.int .i64 W, .int .i64 H, .slice a n cp] 42))
  clear mk ho hb m1 m2 m3 m4 b5 b6
  go_wp2_with fail
  refine (laws_at w.heap.size ad0 n0 cap0 bs0 1 _ HL.out (by exact HC.out.below HB2.out) hs0 (by omega)).mono ?_
  rintro e w2 ⟨v1, rfl, hv1, rfl⟩
  go_wp2_with fail
  refine (laws_at w.heap.size ad0 n0 cap0 bs0 2 _ HL.out (by exact HC.out.below HB2.out) hs0 (by omega)).mono ?_
  rintro e w2 ⟨v2, rfl, hv2, rfl⟩
  have a0 : 0 ≤ (v1 : Int) % ((n : Int) + 1) := Int.emod_nonneg _ (by omega)
  have a1 : (v1 : Int) % ((n : Int) + 1) < (n : Int) + 1 := Int.emod_lt_of_pos _ (by omega)
  have c0 : 0 ≤ (v2 : Int) % ((n : Int) + 1) := Int.emod_nonneg _ (by omega)
  have c1 : (v2 : Int) % ((n : Int) + 1) < (n : Int) + 1 := Int.emod_lt_of_pos _ (by omega)
  obtain ⟨A, hA⟩ : ∃ A : Nat, (v1 : Int) % ((n : Int) + 1) = (A : Int) := ⟨((v1 : Int) % ((n : Int) + 1)).toNat, by omega⟩
  obtain ⟨D, hD⟩ : ∃ D : Nat, (v2 : Int) % ((n : Int) + 1) = (D : Int) := ⟨((v2 : Int) % ((n : Int) + 1)).toNat, by omega⟩
  rw [hA] at a0 a1
  rw [hD] at c0 c1
  have hA2 : A ≤ n := by omega
  by_cases hB : A + D < n
  · have hB2 : (A : Int) + (D : Int) < (n : Int) := by omega
    have hAD : A + D ≤ n := by omega
    have hAD2 : A ≤ A + D := by omega
    obtain ⟨B, hBB⟩ : ∃ B : Nat, (A : Int) + (D : Int) = (B : Int) := ⟨A + D, by omega⟩
    have hBn : B ≤ n := by omega
    have hAB : A ≤ B := by omega
    go_wp2_with fail
    try rw [hBB]
    refine (cells_call W H a n cp xs A _ HX.out (by exact RD2.out) MK.out mw mh hA2 (by omega)).mono ?_
    rintro e w3 ⟨a3, n3, c3, rfl, ho3, hn3, hb3⟩
    have HB3 := Lib.hid (bAlloc (bTrans HB2.out hb3) (.cells #[.int .i64 W, .int .i64 H, .slice a3 n3 c3] 25))
    have RD3 := Lib.hid ((RD2.out.below hb3).alloc (.cells #[.int .i64 W, .int .i64 H, .slice a3 n3 c3] 25))
    have KM3 := Lib.hid (KM2.out.below' hb3)
    have LP := Lib.hid ho3.len
    have RP3 := Lib.hid (ho3.rd.alloc (.cells #[.int .i64 W, .int .i64 H, .slice a3 n3 c3] 25))
    have KP3 := Lib.hid (Blk.new w3 25 #[.int .i64 W, .int .i64 H, .slice a3 n3 c3])
    clear ho3 hb3
    obtain ⟨l3, o0, o1, o2⟩ := KM3.out.c3
    go_wp2_with fail
    refine (cells_call W H a n cp xs B _ HX.out (by exact RD3.out) MK.out mw mh hBn (by omega)).mono ?_
    rintro e w4 ⟨a4, n4, c4, rfl, ho4, hn4, hb4⟩
    have HB4 := Lib.hid (bAlloc (bTrans HB3.out hb4) (.cells #[.int .i64 W, .int .i64 H, .slice a4 n4 c4] 25))
    have KP4 := Lib.hid (KP3.out.below' hb4)
    have RP4 := Lib.hid ((RP3.out.below hb4).alloc (.cells #[.int .i64 W, .int .i64 H, .slice a4 n4 c4] 25))
    have LQ := Lib.hid ho4.len
    have RQ4 := Lib.hid (ho4.rd.alloc (.cells #[.int .i64 W, .int .i64 H, .slice a4 n4 c4] 25))
    have KQ4 := Lib.hid (Blk.new w4 25 #[.int .i64 W, .int .i64 H, .slice a4 n4 c4])
    clear ho4 hb4 o0 o1 o2 l3
    obtain ⟨l4, p0, p1, p2⟩ := KP4.out.c3
    go_wp2_with fail
    refine (plate_call W H a3 n3 c3 _ _ LP.out (by exact RP4.out) (by omega) (cells_ok HX.out MK.out mw mh A hA2).2.1).mono ?_
    rintro e w5 ⟨rfl, hb5⟩
    have HB5 := Lib.hid (bTrans HB4.out hb5)
    have KP5 := Lib.hid ((KP4.out.alloc (.cells #[.int .i64 W, .int .i64 H, .slice a4 n4 c4] 25)).below' hb5)
    have KQ5 := Lib.hid (KQ4.out.below' hb5)
    have RP5 := Lib.hid (RP4.out.below hb5)
    have RQ5 := Lib.hid (RQ4.out.below hb5)
    clear hb5 p0 p1 p2 l4
    obtain ⟨l4, p0, p1, p2⟩ := KP5.out.c3
    obtain ⟨l5, q0, q1, q2⟩ := KQ5.out.c3
    go_wp2_with fail
    refine (count_call W H a3 n3 c3 _ A _ LP.out (by exact RP5.out) (by omega) (cells_ok HX.out MK.out mw mh A hA2).2.2.2).mono ?_
    rintro e w6 ⟨rfl, hb6⟩
    have HB6 := Lib.hid (bTrans HB5.out hb6)
    have KP6 := Lib.hid (KP5.out.below' hb6)
    have KQ6 := Lib.hid (KQ5.out.below' hb6)
    have RP6 := Lib.hid (RP5.out.below hb6)
    have RQ6 := Lib.hid (RQ5.out.below hb6)
    clear hb6 p0 p1 p2 l4 q0 q1 q2 l5
    obtain ⟨l4, p0, p1, p2⟩ := KP6.out.c3
    obtain ⟨l5, q0, q1, q2⟩ := KQ6.out.c3
    go_wp2_with fail
    refine (count_call W H a4 n4 c4 _ B _ LQ.out (by exact RQ6.out) (by omega) (cells_ok HX.out MK.out mw mh B hBn).2.2.2).mono ?_
    rintro e w7 ⟨rfl, hb7⟩
    have HB7 := Lib.hid (bTrans HB6.out hb7)
    have KP7 := Lib.hid (KP6.out.below' hb7)
    have KQ7 := Lib.hid (KQ6.out.below' hb7)
    have RP7 := Lib.hid (RP6.out.below hb7)
    have RQ7 := Lib.hid (RQ6.out.below hb7)
    clear hb7 p0 p1 p2 l4 q0 q1 q2 l5
    obtain ⟨l4, p0, p1, p2⟩ := KP7.out.c3
    obtain ⟨l5, q0, q1, q2⟩ := KQ7.out.c3
    go_wp2_with fail
    refine (cover_call W H a4 n4 c4 _ a3 n3 c3 _ _ LQ.out (by exact RQ7.out) (by omega) LP.out (by exact RP7.out) (by omega) (cells_cover HX.out MK.out mw mh A B hAB hBn)).mono ?_
    rintro e w8 ⟨rfl, hb8⟩
    have HB8 := Lib.hid (bTrans HB7.out hb8)
    clear hb8
    go_wp2_with fail
    go_ret
    exact ⟨rfl, HB8.out⟩
  · have hB2 : (n : Int) ≤ (A : Int) + (D : Int) := by omega
    have hBn : n ≤ n := Nat.le_refl n
    have hAB : A ≤ n := hA2
    go_wp2_with fail
    refine (cells_call W H a n cp xs A _ HX.out (by exact RD2.out) MK.out mw mh hA2 (by omega)).mono ?_
    rintro e w3 ⟨a3, n3, c3, rfl, ho3, hn3, hb3⟩
    have HB3 := Lib.hid (bAlloc (bTrans HB2.out hb3) (.cells #[.int .i64 W, .int .i64 H, .slice a3 n3 c3] 25))
    have RD3 := Lib.hid ((RD2.out.below hb3).alloc (.cells #[.int .i64 W, .int .i64 H, .slice a3 n3 c3] 25))
    have KM3 := Lib.hid (KM2.out.below' hb3)
    have LP := Lib.hid ho3.len
    have RP3 := Lib.hid (ho3.rd.alloc (.cells #[.int .i64 W, .int .i64 H, .slice a3 n3 c3] 25))
    have KP3 := Lib.hid (Blk.new w3 25 #[.int .i64 W, .int .i64 H, .slice a3 n3 c3])
    clear ho3 hb3
    obtain ⟨l3, o0, o1, o2⟩ := KM3.out.c3
    go_wp2_with fail
    refine (cells_call W H a n cp xs n _ HX.out (by exact RD3.out) MK.out mw mh hBn (by omega)).mono ?_
    rintro e w4 ⟨a4, n4, c4, rfl, ho4, hn4, hb4⟩
    have HB4 := Lib.hid (bAlloc (bTrans HB3.out hb4) (.cells #[.int .i64 W, .int .i64 H, .slice a4 n4 c4] 25))
    have KP4 := Lib.hid (KP3.out.below' hb4)
    have RP4 := Lib.hid ((RP3.out.below hb4).alloc (.cells #[.int .i64 W, .int .i64 H, .slice a4 n4 c4] 25))
    have LQ := Lib.hid ho4.len
    have RQ4 := Lib.hid (ho4.rd.alloc (.cells #[.int .i64 W, .int .i64 H, .slice a4 n4 c4] 25))
    have KQ4 := Lib.hid (Blk.new w4 25 #[.int .i64 W, .int .i64 H, .slice a4 n4 c4])
    clear ho4 hb4 o0 o1 o2 l3
    obtain ⟨l4, p0, p1, p2⟩ := KP4.out.c3
    go_wp2_with fail
    refine (plate_call W H a3 n3 c3 _ _ LP.out (by exact RP4.out) (by omega) (cells_ok HX.out MK.out mw mh A hA2).2.1).mono ?_
    rintro e w5 ⟨rfl, hb5⟩
    have HB5 := Lib.hid (bTrans HB4.out hb5)
    have KP5 := Lib.hid ((KP4.out.alloc (.cells #[.int .i64 W, .int .i64 H, .slice a4 n4 c4] 25)).below' hb5)
    have KQ5 := Lib.hid (KQ4.out.below' hb5)
    have RP5 := Lib.hid (RP4.out.below hb5)
    have RQ5 := Lib.hid (RQ4.out.below hb5)
    clear hb5 p0 p1 p2 l4
    obtain ⟨l4, p0, p1, p2⟩ := KP5.out.c3
    obtain ⟨l5, q0, q1, q2⟩ := KQ5.out.c3
    go_wp2_with fail
    refine (count_call W H a3 n3 c3 _ A _ LP.out (by exact RP5.out) (by omega) (cells_ok HX.out MK.out mw mh A hA2).2.2.2).mono ?_
    rintro e w6 ⟨rfl, hb6⟩
    have HB6 := Lib.hid (bTrans HB5.out hb6)
    have KP6 := Lib.hid (KP5.out.below' hb6)
    have KQ6 := Lib.hid (KQ5.out.below' hb6)
    have RP6 := Lib.hid (RP5.out.below hb6)
    have RQ6 := Lib.hid (RQ5.out.below hb6)
    clear hb6 p0 p1 p2 l4 q0 q1 q2 l5
    obtain ⟨l4, p0, p1, p2⟩ := KP6.out.c3
    obtain ⟨l5, q0, q1, q2⟩ := KQ6.out.c3
    go_wp2_with fail
    refine (count_call W H a4 n4 c4 _ n _ LQ.out (by exact RQ6.out) (by omega) (cells_ok HX.out MK.out mw mh n hBn).2.2.2).mono ?_
    rintro e w7 ⟨rfl, hb7⟩
    have HB7 := Lib.hid (bTrans HB6.out hb7)
    have KP7 := Lib.hid (KP6.out.below' hb7)
    have KQ7 := Lib.hid (KQ6.out.below' hb7)
    have RP7 := Lib.hid (RP6.out.below hb7)
    have RQ7 := Lib.hid (RQ6.out.below hb7)
    clear hb7 p0 p1 p2 l4 q0 q1 q2 l5
    obtain ⟨l4, p0, p1, p2⟩ := KP7.out.c3
    obtain ⟨l5, q0, q1, q2⟩ := KQ7.out.c3
    go_wp2_with fail
    refine (cover_call W H a4 n4 c4 _ a3 n3 c3 _ _ LQ.out (by exact RQ7.out) (by omega) LP.out (by exact RP7.out) (by omega) (cells_cover HX.out MK.out mw mh A n hAB hBn)).mono ?_
    rintro e w8 ⟨rfl, hb8⟩
    have HB8 := Lib.hid (bTrans HB7.out hb8)
    clear hb8
    go_wp2_with fail
    go_ret
    exact ⟨rfl, HB8.out⟩

set_option maxHeartbeats 400000 in
theorem big (ad0 : Option Addr) (n0 cap0 : Nat) (w : World) (h : 1048576 < n0) (hl : n0 ≤ 9223372036854775807) :
    Calls Try.prog 12 #[.slice ad0 n0 cap0] w fun e w' => e = .returned (.bool true) ∧ Below w.heap.size w w' := by
  have h2 : (1048576 : Int) < (n0 : Int) := by omega
  go_enter Try.func12, Try.ntmps12
  go_wp2_with fail
  go_ret
  exact ⟨rfl, Below.refl _ _⟩

set_option maxRecDepth 100000 in
theorem lifted (os : Os) (started : os.Started) (H : Type) (enc : TypeId × Value → H) :
    ReturnsInHanded {} Try.checked os 12 .any (Rows.fnNestedSpec.pre6 enc Try.prog Try.f12 Rows.fnNestedRow.domain false) (Rows.fnNestedSpec.post enc Try.prog Try.f12 false true false false) := by
  refine returnsInHanded_of_change (C := Try.checked) own started (by kernel_rfl) Try.func12
    (ChangeSpec.witness6 (enc := enc) (C := Try.checked) false ⟨#[], #[.slice none 0 0], []⟩ 8 (by kernel_rfl) (by kernel_rfl) (by kernel_rfl) (by kernel_rfl)) ?_
  intro W base args ds gs before hval0 hW hcnd _
  have hval : ∀ (j : Nat) t v, Try.f12.params[j]? = some t → args[j]? = some v → Value.okWide Try.prog W .any base t v := hval0
  have hW' := hW
  have hlt := hW.lt
  obtain ⟨p, q, hA0, hV, rfl, hfz, hnd⟩ := hW
  have hA : DataW.TrodAll enc Try.prog W 0 (fun _ => true) true Try.f12.params.toList args.toList ds p := hA0
  rw [Try.params12] at hA hval
  obtain ⟨v0, vs0, d0, ds0, p0, q0, hargs, rfl, rfl, h0, r0⟩ := trodAll_cons hA
  obtain ⟨rfl, rfl, rfl⟩ := trodAll_nil r0
  obtain rfl : args = #[v0] := by cases args; simp_all
  obtain ⟨rfl, rfl⟩ := trodVars_none hV
  clear hA0 hval0
  obtain ⟨ad0, n0, cap0, bs0, rfl, hn0, hr0, hl0⟩ := open_code (hval 0 22 v0 rfl rfl) h0 (fun x hx => hlt x (by simp [hx]))
  have fin : ∀ (e : Ending) W', (e = .returned (.bool true) ∧ Below W.heap.size W W') → ∃ v, e = .returned v ∧ Rows.fnNestedSpec.post enc Try.prog Try.f12 false true false false W #[.slice ad0 n0 cap0] v W' := by
    rintro e W' ⟨rfl, hb⟩
    exact ⟨_, rfl, law_post rfl rfl hW' (by kernel_rfl) rfl hb⟩
  by_cases hs0 : n0 ≤ 1048576
  case neg => exact (big ad0 n0 cap0 W (by omega) hl0).mono fin
  case pos => exact (ok ad0 n0 cap0 bs0 W hn0 hr0 hs0).mono fin

theorem proved : Rows.FnNestedSaid :=
  OpenClaim.holds_of_wide 12 Try.f12 rfl rfl rfl rfl rfl rfl rfl ⟨rfl, rfl, rfl, rfl, rfl⟩ rfl rfl rfl rfl rfl (by kernel_rfl) Try.func12 (by kernel_rfl)
    (of_decide_eq_true (by kernel_rfl)) (by unfold Func.isWrapper; first | (rw [if_pos (by decide +kernel)]; kernel_rfl) | (rw [if_neg (by decide +kernel)]; exact ⟨rfl, rfl⟩))
    (fun os started H enc _ => lifted os started H enc)

end Go.Proofs.Ytdcengccdoohbaa.lNested
