/-
  Contracts: whether two are pictures of one size (program); SamePicture (program).
-/
import Derived.Test.YtafjpmlakpfidaaC8
namespace Go.Proofs.Ytafjpmlakpfidaa
open Go.RowKit
set_option linter.unusedVariables false
set_option linter.unusedSimpArgs false

section
variable {P : Program} (w : World)
open Op in
theorem run_equalIn_arr2 (d : Nat) (t e : TypeId) (a b a' b' : Int) (i : TypeInfo) (ht : P.underlying t = some (.array 2 e)) (he : P.underlying e = some (.int .i64)) (hi : P.info? e = some i) (hs : i.size = 1) :
    (Op.equalIn (d + 2) t (.agg #[.int .i64 a, .int .i64 b]) (.agg #[.int .i64 a', .int .i64 b'])).run P w = .ok (a == a' && b == b') w := by
  have hone : ∀ (x y : Int) (w : World), (Op.equalIn (d + 1) e (.int .i64 x) (.int .i64 y)).run P w = .ok (x == y) w := by
    intro x y w
    simp [Op.equalIn, run_underlying he]
  have hsz : ∀ w : World, (sizeOf e).run P w = .ok 1 w := by
    intro w
    simp [sizeOf, typeInfo, hi, hs]
  have hag : ∀ w : World, (isAgg e).run P w = .ok false w := by
    intro w
    simp [isAgg, run_underlying he]
  have hp : ∀ (x y : Int) (j : Nat) (w : World), j < 2 → (part e #[.int .i64 x, .int .i64 y] (j * 1)).run P w = .ok (if j = 0 then .int .i64 x else .int .i64 y) w := by
    intro x y j w hj
    match j, hj with
    | 0, _ => simp [part, hag]
    | 1, _ => simp [part, hag]
  rw [Op.equalIn]
  simp only [Sem.run_bind, run_underlying ht, Result.andThen_ok, hsz]
  have hr : List.range' (0 : Nat) 2 1 = [0, 1] := rfl
  simp only [Std.Legacy.Range.forIn_eq_forIn_range', Std.Legacy.Range.size, Nat.sub_zero, Nat.add_sub_cancel, Nat.div_one, hr, List.forIn_cons, List.forIn_nil, Sem.run_bind, hp a b 0 _ (by omega), hp a' b' 0 _ (by omega), Result.andThen_ok, if_true, hone]
  cases h1 : (a == a') with
  | false => simp
  | true =>
    simp only [Bool.not_true, Bool.false_eq_true, if_false, Sem.run_pure, Result.andThen_ok, Sem.run_bind, hp a b 1 _ (by omega), hp a' b' 1 _ (by omega), hone, Nat.one_ne_zero]
    cases h2 : (b == b') with
    | false => simp
    | true => simp
end

theorem impl_IsPicture_yes (W H : Int) (ad : Option Addr) (n cap : Nat) (xs : List Int) (w : World) (hn : xs.length = n) (ha : Rd w ad xs) (hl : n ≤ 9223372036854775807) (h : picOk W H xs 255 = true) :
    Calls Try.prog 35 #[.agg #[.int .i64 W, .int .i64 H, .slice ad n cap]] w fun e w' => e = .returned (.bool true) ∧ Below w.heap.size w w' :=
  (impl_IsPicture W H ad n cap xs w hn ha hl).mono fun e w' ⟨he, hw⟩ => ⟨by rw [he, h], hw⟩

theorem impl_IsPicture_no (W H : Int) (ad : Option Addr) (n cap : Nat) (xs : List Int) (w : World) (hn : xs.length = n) (ha : Rd w ad xs) (hl : n ≤ 9223372036854775807) (h : ¬ picOk W H xs 255 = true) :
    Calls Try.prog 35 #[.agg #[.int .i64 W, .int .i64 H, .slice ad n cap]] w fun e w' => e = .returned (.bool false) ∧ Below w.heap.size w w' :=
  (impl_IsPicture W H ad n cap xs w hn ha hl).mono fun e w' ⟨he, hw⟩ => ⟨by rw [he]; exact ret_bool (by simpa using h), hw⟩

theorem infoIntAll : (Try.prog.info? 3).map (fun i => (i.zero, i.size, i.bytes)) = some (some (.int .i64 0), 1, 8) := by kernel_rfl

theorem arr_eq (W H W' H' : Int) (b : Bool) (hb : (W == W' && H == H') = b) : ∀ w, (Op.equalIn 10000 63 (.agg #[.int .i64 W, .int .i64 H]) (.agg #[.int .i64 W', .int .i64 H'])).run Try.prog w = .ok b w := by
  intro w
  obtain ⟨i, hi, _, hs, _⟩ := info_parts infoIntAll
  have hu : Try.prog.underlying 63 = some (.array 2 3) := by kernel_rfl
  rw [← hb]
  exact run_equalIn_arr2 w 9998 63 3 W H W' H' i hu Try.underlying3 hi hs

end Go.Proofs.Ytafjpmlakpfidaa
