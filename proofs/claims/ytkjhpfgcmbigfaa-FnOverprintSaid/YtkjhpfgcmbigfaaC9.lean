/-
  Contracts: whether two are pictures of one size (program); SamePicture (program).
-/
import Derived.Test.YtkjhpfgcmbigfaaC8
namespace Go.Proofs.Ytkjhpfgcmbigfaa
open Go.RowKit
set_option linter.unusedVariables false
set_option linter.unusedSimpArgs false

section
variable {P : Program} (w : World)
open Op in
theorem run_equalIn_arr2 (d : Nat) (t e : TypeId) (a b a' b' : Int) (i : TypeInfo) (ht : P.underlying t = some (.array 2 e)) (he : P.underlying e = some (.int .i64)) (hi : P.info? e = some i) (hs : i.size = 1) :
    (Op.equalIn (d + 2) t (.agg #[.int .i64 a, .int .i64 b]) (.agg #[.int .i64 a', .int .i64 b'])).run P w = .ok (a == a' && b == b') w := by
  have hone : ∀ (x y : Int) (w : World), (Op.equalIn (d + 1) e (.int .i64 x) (.int .i64 y)).run P w = .ok (x == y) w := by
    intro x y w
    simp [Op.equalIn, run_underlying he]
  have hsz : ∀ w : World, (sizeOf e).run P w = .ok 1 w := by
    intro w
    simp [sizeOf, typeInfo, hi, hs]
  have hag : ∀ w : World, (isAgg e).run P w = .ok false w := by
    intro w
    simp [isAgg, run_underlying he]
  have hp : ∀ (x y : Int) (j : Nat) (w : World), j < 2 → (part e #[.int .i64 x, .int .i64 y] (j * 1)).run P w = .ok (if j = 0 then .int .i64 x else .int .i64 y) w := by
    intro x y j w hj
    match j, hj with
    | 0, _ => simp [part, hag]
    | 1, _ => simp [part, hag]
  rw [Op.equalIn]
  simp only [Sem.run_bind, run_underlying ht, Result.andThen_ok, hsz]
  have hr : List.range' (0 : Nat) 2 1 = [0, 1] := rfl
  simp only [Std.Legacy.Range.forIn_eq_forIn_range', Std.Legacy.Range.size, Nat.sub_zero, Nat.add_sub_cancel, Nat.div_one, hr, List.forIn_cons, List.forIn_nil, Sem.run_bind, hp a b 0 _ (by omega), hp a' b' 0 _ (by omega), Result.andThen_ok, if_true, hone]
  cases h1 : (a == a') with
  | false => simp
  | true =>
    simp only [Bool.not_true, Bool.false_eq_true, if_false, Sem.run_pure, Result.andThen_ok, Sem.run_bind, hp a b 1 _ (by omega), hp a' b' 1 _ (by omega), hone, Nat.one_ne_zero]
    cases h2 : (b == b') with
    | false => simp
    | true => simp
end

theorem impl_IsPicture_yes (W H : Int) (ad : Option Addr) (n cap : Nat) (xs : List Int) (w : World) (hn : xs.length = n) (ha : Rd w ad xs) (hl : n ≤ 9223372036854775807) (h : picOk W H xs 255 = true) :
    Calls Try.prog 53 #[.agg #[.int .i64 W, .int .i64 H, .slice ad n cap]] w fun e w' => e = .returned (.bool true) ∧ Below w.heap.size w w' :=
  (impl_IsPicture W H ad n cap xs w hn ha hl).mono fun e w' ⟨he, hw⟩ => ⟨by rw [he, h], hw⟩

theorem impl_IsPicture_no (W H : Int) (ad : Option Addr) (n cap : Nat) (xs : List Int) (w : World) (hn : xs.length = n) (ha : Rd w ad xs) (hl : n ≤ 9223372036854775807) (h : ¬ picOk W H xs 255 = true) :
    Calls Try.prog 53 #[.agg #[.int .i64 W, .int .i64 H, .slice ad n cap]] w fun e w' => e = .returned (.bool false) ∧ Below w.heap.size w w' :=
  (impl_IsPicture W H ad n cap xs w hn ha hl).mono fun e w' ⟨he, hw⟩ => ⟨by rw [he]; exact ret_bool (by simpa using h), hw⟩

theorem infoIntAll : (Try.prog.info? 3).map (fun i => (i.zero, i.size, i.bytes)) = some (some (.int .i64 0), 1, 8) := by kernel_rfl

theorem arr_eq (W H W' H' : Int) (b : Bool) (hb : (W == W' && H == H') = b) : ∀ w, (Op.equalIn 10000 61 (.agg #[.int .i64 W, .int .i64 H]) (.agg #[.int .i64 W', .int .i64 H'])).run Try.prog w = .ok b w := by
  intro w
  obtain ⟨i, hi, _, hs, _⟩ := info_parts infoIntAll
  have hu : Try.prog.underlying 61 = some (.array 2 3) := by kernel_rfl
  rw [← hb]
  exact run_equalIn_arr2 w 9998 61 3 W H W' H' i hu Try.underlying3 hi hs

set_option maxHeartbeats 1600000 in
theorem impl_arePictures (W H : Int) (ad : Option Addr) (n cap : Nat) (xs : List Int) (W' H' : Int) (ad' : Option Addr) (n' cap' : Nat) (ys : List Int) (w : World)
    (hn : xs.length = n) (ha : Rd w ad xs) (hl : n ≤ 9223372036854775807) (hn' : ys.length = n') (ha' : Rd w ad' ys) (hl' : n' ≤ 9223372036854775807) :
    Calls Try.prog 55 #[.agg #[.int .i64 W, .int .i64 H, .slice ad n cap], .agg #[.int .i64 W', .int .i64 H', .slice ad' n' cap']] w fun e w' => e = .returned (.bool (pairOk W H xs W' H' ys)) ∧ Below w.heap.size w w' := by
  have HN := Lib.hid hn
  have HA := Lib.hid ha
  have HN' := Lib.hid hn'
  have HA' := Lib.hid ha'
  clear hn ha hn' ha'
  have p0 : ((w.alloc (.cells #[.int .i64 W, .int .i64 H, .slice ad n cap] 25)).alloc (.cells #[.int .i64 W', .int .i64 H', .slice ad' n' cap'] 25)).cell? ⟨w.heap.size, 0, none⟩ = some (.int .i64 W) := by go_simp
  have p1 : ((w.alloc (.cells #[.int .i64 W, .int .i64 H, .slice ad n cap] 25)).alloc (.cells #[.int .i64 W', .int .i64 H', .slice ad' n' cap'] 25)).cell? ⟨w.heap.size, 1, none⟩ = some (.int .i64 H) := by go_simp
  have p2 : ((w.alloc (.cells #[.int .i64 W, .int .i64 H, .slice ad n cap] 25)).alloc (.cells #[.int .i64 W', .int .i64 H', .slice ad' n' cap'] 25)).cell? ⟨w.heap.size, 2, none⟩ = some (.slice ad n cap) := by go_simp
  have q0 : ((w.alloc (.cells #[.int .i64 W, .int .i64 H, .slice ad n cap] 25)).alloc (.cells #[.int .i64 W', .int .i64 H', .slice ad' n' cap'] 25)).cell? ⟨w.heap.size + 1, 0, none⟩ = some (.int .i64 W') := by go_simp
  have q1 : ((w.alloc (.cells #[.int .i64 W, .int .i64 H, .slice ad n cap] 25)).alloc (.cells #[.int .i64 W', .int .i64 H', .slice ad' n' cap'] 25)).cell? ⟨w.heap.size + 1, 1, none⟩ = some (.int .i64 H') := by go_simp
  have q2 : ((w.alloc (.cells #[.int .i64 W, .int .i64 H, .slice ad n cap] 25)).alloc (.cells #[.int .i64 W', .int .i64 H', .slice ad' n' cap'] 25)).cell? ⟨w.heap.size + 1, 2, none⟩ = some (.slice ad' n' cap') := by go_simp
  have l1 : w.heap.size < ((w.alloc (.cells #[.int .i64 W, .int .i64 H, .slice ad n cap] 25)).alloc (.cells #[.int .i64 W', .int .i64 H', .slice ad' n' cap'] 25)).heap.size := by simp; omega
  have m1 : w.heap.size + 1 < ((w.alloc (.cells #[.int .i64 W, .int .i64 H, .slice ad n cap] 25)).alloc (.cells #[.int .i64 W', .int .i64 H', .slice ad' n' cap'] 25)).heap.size := by simp
  by_cases hp : picOk W H xs 255 = true
  case neg =>
    rw [pairOk_no1 hp]
    go_enter Try.func55, Try.ntmps55
    go_wp2_with fail
    go_region_with (first
      | (go_simp; go_at_call 53; (with_reducible refine (impl_IsPicture_no W H ad n cap xs _ HN.out (by exact ((HA.out.alloc _).alloc _).of_heap rfl) hl hp).mono ?_); rintro e v1 ⟨rfl, hb1⟩))
    all_goals go_wp2_with fail
    all_goals go_ret
    all_goals exact ⟨rfl, (bTrans (bAlloc (bAlloc (Below.refl _ _) _) _).drew hb1)⟩
  case pos =>
    by_cases hp' : picOk W' H' ys 255 = true
    case neg =>
      rw [pairOk_no2 hp']
      go_enter Try.func55, Try.ntmps55
      go_wp2_with fail
      go_region_with (first
        | (go_simp; go_at_call 53; (with_reducible refine (impl_IsPicture_yes W H ad n cap xs _ HN.out (by exact ((HA.out.alloc _).alloc _).of_heap rfl) hl hp).mono ?_); rintro e v1 ⟨rfl, hb1⟩; have u0 := (hb1.cell m1).trans q0; have u1 := (hb1.cell m1).trans q1; have u2 := (hb1.cell m1).trans q2)
        | (go_simp; go_at_call 53; (with_reducible refine (impl_IsPicture_no W' H' ad' n' cap' ys _ HN'.out (by exact (((HA'.out.alloc _).alloc _).drew.below hb1)) hl' hp').mono ?_); rintro e v2 ⟨rfl, hb2⟩))
      all_goals go_wp2_with fail
      all_goals go_ret
      all_goals exact ⟨rfl, (bTrans (bTrans (bAlloc (bAlloc (Below.refl _ _) _) _).drew hb1) hb2)⟩
    case pos =>
      obtain ⟨b, hb⟩ : ∃ b, b = (W == W' && H == H') := ⟨_, rfl⟩
      have hpo : pairOk W H xs W' H' ys = b := by
        rw [hb]; unfold pairOk; rw [hp, hp']
        cases h1 : (W == W') <;> cases h2 : (H == H') <;> simp_all
      rw [hpo]
      have hae := arr_eq W H W' H' b hb.symm
      clear hb hpo
      go_enter Try.func55, Try.ntmps55
      go_wp2_with fail
      go_region_held3 (fun v => v.cell? ⟨w.heap.size, 0, none⟩ = some (.int .i64 W) ∧ v.cell? ⟨w.heap.size, 1, none⟩ = some (.int .i64 H) ∧ v.cell? ⟨w.heap.size, 2, none⟩ = some (.slice ad n cap) ∧ v.cell? ⟨w.heap.size + 1, 0, none⟩ = some (.int .i64 W') ∧ v.cell? ⟨w.heap.size + 1, 1, none⟩ = some (.int .i64 H') ∧ v.cell? ⟨w.heap.size + 1, 2, none⟩ = some (.slice ad' n' cap'))
        (first | exact ⟨p0, p1, p2, q0, q1, q2⟩ | exact ⟨(hb1.cell l1).trans p0, (hb1.cell l1).trans p1, (hb1.cell l1).trans p2, (hb1.cell m1).trans q0, (hb1.cell m1).trans q1, (hb1.cell m1).trans q2⟩ | exact ⟨(hb2.cell (Nat.lt_of_lt_of_le l1 hb1.size)).trans ((hb1.cell l1).trans p0), (hb2.cell (Nat.lt_of_lt_of_le l1 hb1.size)).trans ((hb1.cell l1).trans p1), (hb2.cell (Nat.lt_of_lt_of_le l1 hb1.size)).trans ((hb1.cell l1).trans p2), (hb2.cell (Nat.lt_of_lt_of_le m1 hb1.size)).trans ((hb1.cell m1).trans q0), (hb2.cell (Nat.lt_of_lt_of_le m1 hb1.size)).trans ((hb1.cell m1).trans q1), (hb2.cell (Nat.lt_of_lt_of_le m1 hb1.size)).trans ((hb1.cell m1).trans q2)⟩ | exact ⟨(hb3.cell (Nat.lt_of_lt_of_le (Nat.lt_of_lt_of_le l1 hb1.size) hb2.size)).trans ((hb2.cell (Nat.lt_of_lt_of_le l1 hb1.size)).trans ((hb1.cell l1).trans p0)), (hb3.cell (Nat.lt_of_lt_of_le (Nat.lt_of_lt_of_le l1 hb1.size) hb2.size)).trans ((hb2.cell (Nat.lt_of_lt_of_le l1 hb1.size)).trans ((hb1.cell l1).trans p1)), (hb3.cell (Nat.lt_of_lt_of_le (Nat.lt_of_lt_of_le l1 hb1.size) hb2.size)).trans ((hb2.cell (Nat.lt_of_lt_of_le l1 hb1.size)).trans ((hb1.cell l1).trans p2)), (hb3.cell (Nat.lt_of_lt_of_le (Nat.lt_of_lt_of_le m1 hb1.size) hb2.size)).trans ((hb2.cell (Nat.lt_of_lt_of_le m1 hb1.size)).trans ((hb1.cell m1).trans q0)), (hb3.cell (Nat.lt_of_lt_of_le (Nat.lt_of_lt_of_le m1 hb1.size) hb2.size)).trans ((hb2.cell (Nat.lt_of_lt_of_le m1 hb1.size)).trans ((hb1.cell m1).trans q1)), (hb3.cell (Nat.lt_of_lt_of_le (Nat.lt_of_lt_of_le m1 hb1.size) hb2.size)).trans ((hb2.cell (Nat.lt_of_lt_of_le m1 hb1.size)).trans ((hb1.cell m1).trans q2))⟩ | exact ⟨(hb4.cell (Nat.lt_of_lt_of_le (Nat.lt_of_lt_of_le (Nat.lt_of_lt_of_le l1 hb1.size) hb2.size) hb3.size)).trans ((hb3.cell (Nat.lt_of_lt_of_le (Nat.lt_of_lt_of_le l1 hb1.size) hb2.size)).trans ((hb2.cell (Nat.lt_of_lt_of_le l1 hb1.size)).trans ((hb1.cell l1).trans p0))), (hb4.cell (Nat.lt_of_lt_of_le (Nat.lt_of_lt_of_le (Nat.lt_of_lt_of_le l1 hb1.size) hb2.size) hb3.size)).trans ((hb3.cell (Nat.lt_of_lt_of_le (Nat.lt_of_lt_of_le l1 hb1.size) hb2.size)).trans ((hb2.cell (Nat.lt_of_lt_of_le l1 hb1.size)).trans ((hb1.cell l1).trans p1))), (hb4.cell (Nat.lt_of_lt_of_le (Nat.lt_of_lt_of_le (Nat.lt_of_lt_of_le l1 hb1.size) hb2.size) hb3.size)).trans ((hb3.cell (Nat.lt_of_lt_of_le (Nat.lt_of_lt_of_le l1 hb1.size) hb2.size)).trans ((hb2.cell (Nat.lt_of_lt_of_le l1 hb1.size)).trans ((hb1.cell l1).trans p2))), (hb4.cell (Nat.lt_of_lt_of_le (Nat.lt_of_lt_of_le (Nat.lt_of_lt_of_le m1 hb1.size) hb2.size) hb3.size)).trans ((hb3.cell (Nat.lt_of_lt_of_le (Nat.lt_of_lt_of_le m1 hb1.size) hb2.size)).trans ((hb2.cell (Nat.lt_of_lt_of_le m1 hb1.size)).trans ((hb1.cell m1).trans q0))), (hb4.cell (Nat.lt_of_lt_of_le (Nat.lt_of_lt_of_le (Nat.lt_of_lt_of_le m1 hb1.size) hb2.size) hb3.size)).trans ((hb3.cell (Nat.lt_of_lt_of_le (Nat.lt_of_lt_of_le m1 hb1.size) hb2.size)).trans ((hb2.cell (Nat.lt_of_lt_of_le m1 hb1.size)).trans ((hb1.cell m1).trans q1))), (hb4.cell (Nat.lt_of_lt_of_le (Nat.lt_of_lt_of_le (Nat.lt_of_lt_of_le m1 hb1.size) hb2.size) hb3.size)).trans ((hb3.cell (Nat.lt_of_lt_of_le (Nat.lt_of_lt_of_le m1 hb1.size) hb2.size)).trans ((hb2.cell (Nat.lt_of_lt_of_le m1 hb1.size)).trans ((hb1.cell m1).trans q2)))⟩)
        (first
          | (go_at_call 53; (with_reducible refine (impl_IsPicture_yes W H ad n cap xs _ HN.out (by exact ((HA.out.alloc _).alloc _).of_heap rfl) hl hp).mono ?_); rintro e v1 ⟨rfl, hb1⟩)
          | (go_at_call 53; (with_reducible refine (impl_IsPicture_yes W' H' ad' n' cap' ys _ HN'.out (by exact (((HA'.out.alloc _).alloc _).drew.below hb1)) hl' hp').mono ?_); rintro e v2 ⟨rfl, hb2⟩)
          | (go_at_call 48; with_reducible refine (impl_sidesOf W H ad n cap _).mono ?_; rintro e v3 ⟨rfl, hb3⟩)
          | (go_at_call 48; with_reducible refine (impl_sidesOf W' H' ad' n' cap' _).mono ?_; rintro e v4 ⟨rfl, hb4⟩))
      go_wp2_with fail
      go_ret
      exact ⟨rfl, (bTrans (bTrans (bTrans (bTrans (bAlloc (bAlloc (Below.refl _ _) _) _).drew hb1) hb2) hb3) hb4)⟩

end Go.Proofs.Ytkjhpfgcmbigfaa
