/-
  Contracts of chapter 3: whether each rank is there once, IsMatrix (program and model).
-/
import Derived.Test.YtipcahcljfheaaaD3
import Derived.Laws.Rows
import Derived.Outline
namespace Go.Proofs.Ytipcahcljfheaaa
open Go.RowKit
set_option linter.unusedVariables false
set_option linter.unusedSimpArgs false

def zeros256 : Array Value := (List.replicate 256 (Value.int .i64 0)).toArray

section
variable {P : Program} (w : World)
open Op in
theorem run_equalIn_ints (d N : Nat) (t e : TypeId) (xs ys : List Int) (i : TypeInfo) (ht : P.underlying t = some (.array N e)) (he : P.underlying e = some (.int .i64)) (hi : P.info? e = some i) (hs : i.size = 1)
    (hx : xs.length = N) (hy : ys.length = N) :
    (Op.equalIn (d + 2) t (.agg (xs.map (Value.int .i64)).toArray) (.agg (ys.map (Value.int .i64)).toArray)).run P w = .ok (decide (xs = ys)) w := by
  have hone : ∀ (x y : Int) (w : World), (Op.equalIn (d + 1) e (.int .i64 x) (.int .i64 y)).run P w = .ok (x == y) w := by
    intro x y w
    simp [Op.equalIn, run_underlying he]
  have hsz : ∀ w : World, (sizeOf e).run P w = .ok 1 w := by
    intro w
    simp [sizeOf, typeInfo, hi, hs]
  have hag : ∀ w : World, (isAgg e).run P w = .ok false w := by
    intro w
    simp [isAgg, run_underlying he]
  have hp : ∀ (zs : List Int) (j : Nat) (w : World), j < zs.length → (part e (zs.map (Value.int .i64)).toArray (j * 1)).run P w = .ok (.int .i64 (zs.getD j 0)) w := by
    intro zs j w hj
    simp [part, hag, hj]
  have key : ∀ (k s : Nat), s + k = N → xs.take s = ys.take s →
      (forIn (List.range' s k) ((none, ()) : Option Bool × Unit) (fun i (_ : Option Bool × Unit) => (do
        let a ← part e (xs.map (Value.int .i64)).toArray (i * 1)
        let b ← part e (ys.map (Value.int .i64)).toArray (i * 1)
        let c ← equalIn (d + 1) e a b
        if (!c) = true then pure (ForInStep.done (some false, ())) else pure (ForInStep.yield (none, ())) : Sem (ForInStep (Option Bool × Unit))))).run P w = .ok (if xs = ys then (none, ()) else (some false, ())) w := by
    intro k
    induction k with
    | zero =>
      intro s hs ht
      have e1 : xs = ys := by
        rwa [List.take_of_length_le (by omega), List.take_of_length_le (by omega)] at ht
      rw [if_pos e1]
      simp
    | succ k ih =>
      intro s hs ht
      rw [List.range'_succ, List.forIn_cons]
      simp only [Sem.run_bind, hp xs s _ (by omega), hp ys s _ (by omega), Result.andThen_ok, hone]
      by_cases h : xs.getD s 0 = ys.getD s 0
      · rw [beq_iff_eq.2 h]
        simp only [Bool.not_true, Bool.false_eq_true, if_false, Sem.run_pure, Result.andThen_ok]
        exact ih (s + 1) (by omega) (take_succ_eq (by omega) (by omega) ht h)
      · have h2 : (xs.getD s 0 == ys.getD s 0) = false := by simpa using h
        rw [h2]
        have h3 : ¬ xs = ys := fun he => h (by rw [he])
        rw [if_neg h3]
        simp
  rw [Op.equalIn]
  simp only [Sem.run_bind, run_underlying ht, Result.andThen_ok, hsz]
  simp only [Std.Legacy.Range.forIn_eq_forIn_range', Std.Legacy.Range.size, Nat.sub_zero, Nat.add_sub_cancel, Nat.div_one]
  have hk := key N 0 (by omega) rfl
  rw [hk]
  by_cases h : xs = ys
  · simp [h]
  · simp [h]
end

def rowA (zs : List Int) : Array Value := (zs.map (Value.int .i64)).toArray

theorem rowA_size (zs : List Int) : (rowA zs).size = zs.length := by simp [rowA]

theorem rowA_set (zs : List Int) (j : Nat) (v : Int) : (rowA zs).setIfInBounds j (.int .i64 v) = rowA (zs.set j v) := by
  unfold rowA
  rw [List.setIfInBounds_toArray, List.map_set]

theorem rowA_at (zs : List Int) (j : Nat) (h : j < zs.length) : (rowA zs)[j]? = some (.int .i64 (zs[j]?.getD 0)) := by
  simp [rowA, h]

theorem cntRow_len (xs : List Int) (k : Nat) : (cntRow xs k).length = 256 := gen_len _ _

theorem onceRow_len (k : Nat) : (onceRow k).length = 256 := gen_len _ _

def rowB (bs : List Bool) : Array Value := (bs.map Value.bool).toArray

theorem rowB_size (zs : List Bool) : (rowB zs).size = zs.length := by simp [rowB]

theorem rowB_set (zs : List Bool) (j : Nat) (v : Bool) : (rowB zs).setIfInBounds j (.bool v) = rowB (zs.set j v) := by
  unfold rowB
  rw [List.setIfInBounds_toArray, List.map_set]

theorem infoBool : (Try.prog.info? 4).map (fun i => (i.zero, i.size, i.bytes)) = some (some (.bool false), 1, 1) := by kernel_rfl

def seenRow (xs : List Int) (n k : Nat) : List Bool := (List.range n).map (fun (r : Nat) => decide ((r : Int) ∈ xs.take k))

theorem seenRow_zero (xs : List Int) (n : Nat) : seenRow xs n 0 = List.replicate n false := by
  unfold seenRow
  apply List.ext_getElem?
  intro i
  by_cases h : i < n
  · simp [h]
  · simp [h]

theorem seenRow_at (xs : List Int) (n k r : Nat) (h : r < n) : (rowB (seenRow xs n k))[r]? = some (.bool (decide ((r : Int) ∈ xs.take k))) := by
  simp [rowB, seenRow, h]

theorem seenRow_succ (xs : List Int) (n k r : Nat) (hk : k < xs.length) (he : xs[k]?.getD 0 = (r : Int)) : (seenRow xs n k).set r true = seenRow xs n (k + 1) := by
  simp only [List.getElem?_eq_getElem hk, Option.getD_some] at he
  unfold seenRow
  apply List.ext_getElem?
  intro i
  rw [List.getElem?_set, List.take_succ_eq_append_getElem hk, he]
  by_cases h : r = i
  · subst h
    by_cases h2 : r < n
    · simp [h2]
    · simp [h2]
  · rw [if_neg h]
    by_cases h2 : i < n
    · have : ¬ (i : Int) = (r : Int) := by omega
      simp [h2, this]
    · simp [h2]

end Go.Proofs.Ytipcahcljfheaaa
