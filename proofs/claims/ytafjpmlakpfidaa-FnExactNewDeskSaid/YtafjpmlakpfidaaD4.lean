/-
  Contracts of chapter 3: whether each rank is there once, IsMatrix (program and model).
-/
import Derived.Test.YtafjpmlakpfidaaD3
import Derived.Laws.Rows
import Derived.Outline
namespace Go.Proofs.Ytafjpmlakpfidaa
open Go.RowKit
set_option linter.unusedVariables false
set_option linter.unusedSimpArgs false

def zeros256 : Array Value := (List.replicate 256 (Value.int .i64 0)).toArray

theorem run_alloc256 (w : World) : (Instr.alloc 78 true (.tuple #[])).run Try.prog w = .ok (.pointer (some ⟨w.heap.size, 0, none⟩)) (w.alloc (.cells zeros256 78)) := by kernel_rfl

/-- 'var a [256]int'. -/
theorem wp_alloc256 (w : World) {ops : Array Oper} {rest : List Oper} {o : Oper} {a : Act} {Q : Exit → Act → World → Prop}
    (hg : o.guard = none) (hop : o.op = Op.alloc 78)
    (hK : ∀ C : Array Value, C = ((List.replicate 256 0).map (Value.int .i64)).toArray → wpList Try.prog ops Q rest (a.put o.dst (.pointer (some ⟨w.heap.size, 0, none⟩))) (w.alloc (.cells C 78))) :
    wpList Try.prog ops Q (o :: rest) a w := by
  refine wpList_plain hg fun K hK' => ?_
  have hr := run_alloc256 w
  unfold Oper.wp
  simp [execOp, hop, hr, Result.andThen]
  exact hK' _ _ (hK _ (by unfold zeros256; rw [List.map_replicate]))

section
variable {P : Program} (w : World)
open Op in
theorem run_equalIn_ints (d N : Nat) (t e : TypeId) (xs ys : List Int) (i : TypeInfo) (ht : P.underlying t = some (.array N e)) (he : P.underlying e = some (.int .i64)) (hi : P.info? e = some i) (hs : i.size = 1)
    (hx : xs.length = N) (hy : ys.length = N) :
    (Op.equalIn (d + 2) t (.agg (xs.map (Value.int .i64)).toArray) (.agg (ys.map (Value.int .i64)).toArray)).run P w = .ok (decide (xs = ys)) w := by
  have hone : ∀ (x y : Int) (w : World), (Op.equalIn (d + 1) e (.int .i64 x) (.int .i64 y)).run P w = .ok (x == y) w := by
    intro x y w
    simp [Op.equalIn, run_underlying he]
  have hsz : ∀ w : World, (sizeOf e).run P w = .ok 1 w := by
    intro w
    simp [sizeOf, typeInfo, hi, hs]
  have hag : ∀ w : World, (isAgg e).run P w = .ok false w := by
    intro w
    simp [isAgg, run_underlying he]
  have hp : ∀ (zs : List Int) (j : Nat) (w : World), j < zs.length → (part e (zs.map (Value.int .i64)).toArray (j * 1)).run P w = .ok (.int .i64 (zs.getD j 0)) w := by
    intro zs j w hj
    simp [part, hag, hj]
  have key : ∀ (k s : Nat), s + k = N → xs.take s = ys.take s →
      (forIn (List.range' s k) ((none, ()) : Option Bool × Unit) (fun i (_ : Option Bool × Unit) => (do
        let a ← part e (xs.map (Value.int .i64)).toArray (i * 1)
        let b ← part e (ys.map (Value.int .i64)).toArray (i * 1)
        let c ← equalIn (d + 1) e a b
        if (!c) = true then pure (ForInStep.done (some false, ())) else pure (ForInStep.yield (none, ())) : Sem (ForInStep (Option Bool × Unit))))).run P w = .ok (if xs = ys then (none, ()) else (some false, ())) w := by
    intro k
    induction k with
    | zero =>
      intro s hs ht
      have e1 : xs = ys := by
        rwa [List.take_of_length_le (by omega), List.take_of_length_le (by omega)] at ht
      rw [if_pos e1]
      simp
    | succ k ih =>
      intro s hs ht
      rw [List.range'_succ, List.forIn_cons]
      simp only [Sem.run_bind, hp xs s _ (by omega), hp ys s _ (by omega), Result.andThen_ok, hone]
      by_cases h : xs.getD s 0 = ys.getD s 0
      · rw [beq_iff_eq.2 h]
        simp only [Bool.not_true, Bool.false_eq_true, if_false, Sem.run_pure, Result.andThen_ok]
        exact ih (s + 1) (by omega) (take_succ_eq (by omega) (by omega) ht h)
      · have h2 : (xs.getD s 0 == ys.getD s 0) = false := by simpa using h
        rw [h2]
        have h3 : ¬ xs = ys := fun he => h (by rw [he])
        rw [if_neg h3]
        simp
  rw [Op.equalIn]
  simp only [Sem.run_bind, run_underlying ht, Result.andThen_ok, hsz]
  simp only [Std.Legacy.Range.forIn_eq_forIn_range', Std.Legacy.Range.size, Nat.sub_zero, Nat.add_sub_cancel, Nat.div_one]
  have hk := key N 0 (by omega) rfl
  rw [hk]
  by_cases h : xs = ys
  · simp [h]
  · simp [h]
end

def rowA (zs : List Int) : Array Value := (zs.map (Value.int .i64)).toArray

theorem rowA_size (zs : List Int) : (rowA zs).size = zs.length := by simp [rowA]

theorem rowA_set (zs : List Int) (j : Nat) (v : Int) : (rowA zs).setIfInBounds j (.int .i64 v) = rowA (zs.set j v) := by
  unfold rowA
  rw [List.setIfInBounds_toArray, List.map_set]

theorem rowA_at (zs : List Int) (j : Nat) (h : j < zs.length) : (rowA zs)[j]? = some (.int .i64 (zs[j]?.getD 0)) := by
  simp [rowA, h]

theorem under256 : Try.prog.underlying 78 = some (.array 256 3) := by kernel_rfl

theorem info256 : (Try.prog.info? 78).map (·.size) = some 256 := by kernel_rfl

theorem arr256_eq (xs ys : List Int) (hx : xs.length = 256) (hy : ys.length = 256) (b : Bool) (hb : decide (xs = ys) = b) : ∀ w, (Op.equalIn 10000 78 (.agg (rowA xs)) (.agg (rowA ys))).run Try.prog w = .ok b w := by
  intro w
  obtain ⟨i, hi, _, hs, _⟩ := info_parts infoInt
  rw [← hb]
  exact run_equalIn_ints w 9998 256 78 3 xs ys i under256 Try.underlying3 hi hs hx hy

theorem cntRow_len (xs : List Int) (k : Nat) : (cntRow xs k).length = 256 := gen_len _ _

theorem onceRow_len (k : Nat) : (onceRow k).length = 256 := gen_len _ _

set_option maxHeartbeats 800000 in
theorem impl_once (ad : Option Addr) (n cap : Nat) (xs : List Int) (w : World) (hn : xs.length = n) (ha : Rd w ad xs) (hm : n ≤ 256) :
    Calls Try.prog 54 #[.slice ad n cap] w fun e w' => e = .returned (.bool (permOk xs)) ∧ Below w.heap.size w w' := by
  have HN := Lib.hid hn
  have HA := Lib.hid ha
  clear hn ha
  go_enter Try.func54, Try.ntmps54
  iterate 11 go_step
  refine wp_alloc256 _ rfl rfl ?_
  intro C1 hC1
  refine wp_alloc256 _ rfl rfl ?_
  intro C2 hC2
  have HC1 : Hid (C1 = rowA (cntRow xs 0)) := Lib.hid (by rw [cntRow_zero]; exact hC1)
  have HC2 : Hid (C2 = rowA (onceRow 0)) := Lib.hid (by rw [onceRow_zero]; exact hC2)
  clear hC1 hC2
  go_wp2_with fail
  go_loopw [9] (fun i wr => ∃ k : Nat, k ≤ n ∧ i = .int .i64 k ∧ Hid (inR (xs.take k) n = true) ∧ Blk wr w.heap.size 78 (rowA (cntRow xs k)) ∧ Blk wr (w.heap.size + 1) 78 (rowA (onceRow k)) ∧ Below w.heap.size w wr) (fun i _ => n - (intOf i).toNat)
  case atStart => exact ⟨0, Nat.zero_le _, rfl, rfl, by rw [← HC1.out]; exact (Blk.new _ _ _).alloc _, by rw [← HC2.out]; exact Blk.new' _ _ (by simp), Joins.below_alloc2 _ _ _⟩
  case round =>
    obtain ⟨k, hk, rfl, HT, hb1, hb2, hw⟩ := hrel
    have K1 := Lib.hid hb1
    have K2 := Lib.hid hb2
    have HW := Lib.hid hw
    have z1 := K1.out.lt
    have z2 := K2.out.lt
    clear hb1 hb2 hw
    by_cases hlt : k < n
    · obtain ⟨ba, oa, hae, hal, hac⟩ := (HA.out.below HW.out).at (by have := HN.out; omega)
      subst hae
      have h1 := hac k (by have := HN.out; omega)
      clear hac
      by_cases hv : 0 ≤ xs[k]?.getD 0 ∧ xs[k]?.getD 0 < (n : Int)
      · obtain ⟨r, hr⟩ : ∃ r : Nat, xs[k]?.getD 0 = (r : Int) := ⟨(xs[k]?.getD 0).toNat, by omega⟩
        have h1r : wr.cell? ⟨ba, oa + k, none⟩ = some (.int .i64 (r : Int)) := by rw [← hr]; simpa [List.getD] using h1
        have HR := Lib.hid hr
        have hrn : (r : Int) < n := by omega
        have hr2 : r < 256 := by omega
        clear h1 hr hv
        have t2 := icount_take_bd (r : Int) xs k
        have c1 : wr.cell? ⟨w.heap.size, r, none⟩ = some (.int .i64 (icount (r : Int) (xs.take k) : Int)) := by
          rw [K1.out.cell, rowA_at _ _ (by rw [cntRow_len]; omega), cntRow_at _ _ _ hr2]
        have f1 := K1.out.frozen r
        have c2 : wr.cell? ⟨w.heap.size + 1, k, none⟩ = some (.int .i64 ((onceRow k)[k]?.getD 0)) := by
          rw [K2.out.cell, rowA_at _ _ (by rw [onceRow_len]; omega)]
        have f2 := K2.out.frozen k
        go_wp2_with fail
        go_roundw
        case rel =>
          refine ⟨k + 1, by omega, by go_num, inR_snoc (by have := HN.out; omega) HT.out (by rw [HR.out]; omega) (by rw [HR.out]; omega), ?_, ?_, (HW.out.setCell (by simp) _).setCell (by simp) _⟩
          · have h := (K1.out.set r (.int .i64 ((icount (r : Int) (xs.take k) : Int) + 1))).other (a := ⟨w.heap.size + 1, k, none⟩) (by simp) (.int .i64 1)
            rw [rowA_set, cntRow_succ _ _ _ (by have := HN.out; omega) hr2 HR.out] at h
            exact h
          · have h := (K2.out.other (a := ⟨w.heap.size, r, none⟩) (by simp) (.int .i64 ((icount (r : Int) (xs.take k) : Int) + 1))).set k (.int .i64 1)
            rw [rowA_set, onceRow_succ _ (by omega)] at h
            exact h
        case measure => simp [intOf]; omega
      · have HP := Lib.hid (permOk_noR HN.out k hlt hv)
        go_wp2_with fail
        all_goals (go_ret; first | exact ⟨ret_bool HP.out.symm, HW.out⟩ | (exfalso; exact hv ⟨by omega, by omega⟩))
    · obtain rfl : n = k := by omega
      have HT2 : Hid (inR xs n = true) := by
        have h := HT.out
        rw [List.take_of_length_le (by have := HN.out; omega)] at h
        exact h
      have he := arr256_eq (cntRow xs n) (onceRow n) (cntRow_len _ _) (onceRow_len _) _ (rows_eq HN.out hm HT2.out)
      have e1 : (Try.prog.info? 78).map (·.size) = some (rowA (cntRow xs n)).size := by rw [rowA_size, cntRow_len]; exact info256
      have e2 : (Try.prog.info? 78).map (·.size) = some (rowA (onceRow n)).size := by rw [rowA_size, onceRow_len]; exact info256
      have E1 := Lib.hid e1
      have E2 := Lib.hid e2
      clear e1 e2
      go_wp2_with (first | (refine wpList_load_row rfl 78 (.tmp 3) rfl w.heap.size rfl 78 _ (0, 0) _ K1.out under256 rfl E1.out ?_) | (refine wpList_load_row rfl 78 (.tmp 4) rfl (w.heap.size + 1) rfl 78 _ (0, 0) _ K2.out under256 rfl E2.out ?_))
      go_ret
      exact ⟨rfl, HW.out⟩

set_option maxHeartbeats 400000 in
theorem impl_IsMatrix (W H : Int) (ad : Option Addr) (n cap : Nat) (xs : List Int) (w : World) (hn : xs.length = n) (ha : Rd w ad xs) (hl : n ≤ 9223372036854775807) :
    Calls Try.prog 36 #[.agg #[.int .i64 W, .int .i64 H, .slice ad n cap]] w fun e w' => e = .returned (.bool (matOk W H xs)) ∧ Below w.heap.size w w' := by
  have HN := Lib.hid hn
  have HA := Lib.hid ha
  clear hn ha
  by_cases hs : matSize W H = true
  case neg =>
    have hs2 : matSize W H = false := by simpa using hs
    rw [matOk_no1 hs2]
    clear hs
    go_enter Try.func36, Try.ntmps36
    go_wp2_with (go_at_call 53; refine (impl_isMatrixSize _ _ _).mono ?_; rintro e w' ⟨rfl, rfl⟩)
    go_ret
    exact ⟨rfl, Joins.below_alloc1 _ _⟩
  case pos =>
    obtain ⟨b1, b2, b3, b4, b5, b6⟩ := matSize_bd hs
    by_cases hq : (n : Int) = W * H
    case neg =>
      rw [matOk_no2 HN.out hq]
      have hq2 : ((n : Int) == W * H) = false := by simpa using hq
      clear hq
      go_enter Try.func36, Try.ntmps36
      go_wp2_with (go_at_call 53; refine (impl_isMatrixSize _ _ _).mono ?_; rintro e w' ⟨rfl, rfl⟩)
      go_ret
      exact ⟨rfl, Joins.below_alloc1 _ _⟩
    case pos =>
      rw [matOk_in HN.out hs hq]
      have hn2 : n ≤ 256 := by omega
      have hq2 : ((n : Int) == W * H) = true := by simpa using hq
      clear hq
      go_enter Try.func36, Try.ntmps36
      go_wp2_with (go_at_call 53; refine (impl_isMatrixSize _ _ _).mono ?_; rintro e w' ⟨rfl, rfl⟩)
      refine (impl_once _ _ _ xs _ HN.out (HA.out.below (Joins.below_alloc1 _ _)) hn2).mono ?_
      rintro e w1 ⟨rfl, hb⟩
      have HB := Lib.hid (bTrans (Joins.below_alloc1 _ _) hb)
      clear hb
      go_wp2_with fail
      go_ret
      exact ⟨rfl, HB.out⟩

def rowB (bs : List Bool) : Array Value := (bs.map Value.bool).toArray

theorem rowB_size (zs : List Bool) : (rowB zs).size = zs.length := by simp [rowB]

theorem rowB_set (zs : List Bool) (j : Nat) (v : Bool) : (rowB zs).setIfInBounds j (.bool v) = rowB (zs.set j v) := by
  unfold rowB
  rw [List.setIfInBounds_toArray, List.map_set]

theorem infoBool : (Try.prog.info? 4).map (fun i => (i.zero, i.size, i.bytes)) = some (some (.bool false), 1, 1) := by kernel_rfl

/-- 'make([]bool, n)'. -/
theorem wp_makeB (w : World) {ops : Array Oper} {rest : List Oper} {o : Oper} {a : Act} {Q : Exit → Act → World → Prop}
    (hg : o.guard = none) (l c : Operand) (hop : o.op = Op.makeSlice 71 l c) (kl kc : IntKind) (L C : Int) (n : Nat) (hl : a.eval l = .int kl L) (hc : a.eval c = .int kc C) (hL : L = (n : Int)) (hC : C = (n : Int)) (hn : n ≤ 17592186044416)
    (hK : ∀ M : Array Value, M = rowB (List.replicate n false) → wpList Try.prog ops Q rest (a.put o.dst (.slice (some ⟨w.heap.size, 0, none⟩) n n)) (w.alloc (.cells M 4))) :
    wpList Try.prog ops Q (o :: rest) a w := by
  obtain ⟨i, hi, hz0, hz1, hz2⟩ := info_parts infoBool
  refine wpList_plain hg fun K hK' => ?_
  subst hL
  subst hC
  have hr := run_make (P := Try.prog) w 71 4 i (.bool false) Try.underlying71 hi hz0 kl kc n n (by omega) (Int.le_refl _) (by rw [hz2]; omega) (by omega)
  simp only [Int.toNat_natCast, hz1, Nat.mul_one] at hr
  have hm : madeCells #[.bool false] n = rowB (List.replicate n false) := by
    apply Array.ext'
    rw [toList_madeCells_one]
    simp [rowB]
  unfold Oper.wp
  simp only [Value.cells] at hr
  simp [execOp, hop, hl, hc, hr, Result.andThen]
  exact hK' _ _ (hK _ hm)

def seenRow (xs : List Int) (n k : Nat) : List Bool := (List.range n).map (fun (r : Nat) => decide ((r : Int) ∈ xs.take k))

theorem seenRow_zero (xs : List Int) (n : Nat) : seenRow xs n 0 = List.replicate n false := by
  unfold seenRow
  apply List.ext_getElem?
  intro i
  by_cases h : i < n
  · simp [h]
  · simp [h]

theorem seenRow_at (xs : List Int) (n k r : Nat) (h : r < n) : (rowB (seenRow xs n k))[r]? = some (.bool (decide ((r : Int) ∈ xs.take k))) := by
  simp [rowB, seenRow, h]

theorem seenRow_succ (xs : List Int) (n k r : Nat) (hk : k < xs.length) (he : xs[k]?.getD 0 = (r : Int)) : (seenRow xs n k).set r true = seenRow xs n (k + 1) := by
  simp only [List.getElem?_eq_getElem hk, Option.getD_some] at he
  unfold seenRow
  apply List.ext_getElem?
  intro i
  rw [List.getElem?_set, List.take_succ_eq_append_getElem hk, he]
  by_cases h : r = i
  · subst h
    by_cases h2 : r < n
    · simp [h2]
    · simp [h2]
  · rw [if_neg h]
    by_cases h2 : i < n
    · have : ¬ (i : Int) = (r : Int) := by omega
      simp [h2, this]
    · simp [h2]

set_option maxHeartbeats 800000 in
theorem spec_IsMatrix (W H : Int) (ad : Option Addr) (n cap : Nat) (xs : List Int) (w : World) (hn : xs.length = n) (ha : Rd w ad xs) (hl : n ≤ 9223372036854775807) :
    Calls Try.prog 30 #[.agg #[.int .i64 W, .int .i64 H, .slice ad n cap]] w fun e w' => e = .returned (.bool (matOk W H xs)) ∧ Below w.heap.size w w' := by
  have HN := Lib.hid hn
  have HA := Lib.hid ha
  clear hn ha
  by_cases hs : matSize W H = true
  case neg =>
    have hs2 : matSize W H = false := by simpa using hs
    rw [matOk_no1 hs2]
    go_enter Try.func30, Try.ntmps30
    go_wp2_with (go_at_call 48; refine (spec_l2Shape_no _ _ _ hs).mono ?_; rintro e w' ⟨rfl, rfl⟩)
    go_ret
    exact ⟨rfl, Joins.below_alloc1 _ _⟩
  case pos =>
    obtain ⟨b1, b2, b3, b4, b5, b6⟩ := matSize_bd hs
    by_cases hq : (n : Int) = W * H
    case neg =>
      rw [matOk_no2 HN.out hq]
      have hq2 : ((n : Int) != W * H) = true := by simpa using hq
      clear hq
      go_enter Try.func30, Try.ntmps30
      go_wp2_with (go_at_call 48; refine (spec_l2Shape_yes _ _ _ hs).mono ?_; rintro e w' ⟨rfl, rfl⟩)
      go_ret
      exact ⟨rfl, Joins.below_alloc1 _ _⟩
    case pos =>
      rw [matOk_in HN.out hs hq]
      have hn2 : n ≤ 256 := by omega
      have hn1 : 1 ≤ n := by omega
      have hq2 : ((n : Int) != W * H) = false := by simpa using hq
      clear hq
      go_enter Try.func30, Try.ntmps30
      go_wp2_with (first | (go_at_call 48; refine (spec_l2Shape_yes _ _ _ hs).mono ?_; rintro e w' ⟨rfl, rfl⟩) | (at_make; refine wp_makeB _ rfl _ _ rfl .i64 .i64 n n n rfl rfl rfl rfl (by omega) ?_; intro M hM))
      go_loopw [30] (fun i wr => ∃ k : Nat, k ≤ n ∧ i = .int .i64 k ∧ Hid (inR (xs.take k) n = true) ∧ Hid ((xs.take k).Nodup) ∧ Blk wr (w.heap.size + 1) 4 (rowB (seenRow xs n k)) ∧ Below (w.heap.size + 1) (w.alloc (.cells #[.int .i64 W, .int .i64 H, .slice ad n cap] 26)) wr) (fun i _ => n - (intOf i).toNat)
      case atStart => exact ⟨0, Nat.zero_le _, rfl, rfl, List.nodup_nil, by rw [seenRow_zero]; exact Blk.new' _ _ (by simp), by exact (Below.refl _ _).alloc (by first | exact Nat.le_refl _ | simp) _⟩
      case round =>
        obtain ⟨k, hk, rfl, HT, HD, hb1, hw⟩ := hrel
        have K1 := Lib.hid hb1
        have HW := Lib.hid hw
        have z1 := K1.out.lt
        have KP := Lib.hid ((Blk.new w 26 #[.int .i64 W, .int .i64 H, .slice ad n cap]).below HW.out (by simp))
        obtain ⟨l1, c0, c1, c2⟩ := KP.out.c3
        have HBr := Lib.hid ((Joins.below_alloc1 w _).trans (HW.out.mono (by simp)))
        clear hb1 hw
        by_cases hlt : k < n
        · obtain ⟨ba, oa, hae, hal, hac⟩ := (HA.out.below HBr.out).at (by have := HN.out; omega)
          subst hae
          have h1 := hac k (by have := HN.out; omega)
          clear hac
          by_cases hv : 0 ≤ xs[k]?.getD 0 ∧ xs[k]?.getD 0 < (n : Int)
          · obtain ⟨r, hr⟩ : ∃ r : Nat, xs[k]?.getD 0 = (r : Int) := ⟨(xs[k]?.getD 0).toNat, by omega⟩
            have h1r : wr.cell? ⟨ba, oa + k, none⟩ = some (.int .i64 (r : Int)) := by rw [← hr]; simpa [List.getD] using h1
            have HR := Lib.hid hr
            have hrn : (r : Int) < n := by omega
            have hrn2 : r < n := by omega
            have hv2 : decide (0 ≤ (r : Int) ∧ (r : Int) ≤ (n : Int) - 1) = true := by rw [decide_eq_true_iff]; omega
            clear h1 hr hv
            have d1 := (K1.out.cell r).trans (seenRow_at xs n k r hrn2)
            have f1 := K1.out.frozen r
            by_cases hm : (r : Int) ∈ xs.take k
            · have hm2 : decide ((r : Int) ∈ xs.take k) = true := by simpa using hm
              rw [hm2] at d1
              have HM2 := Lib.hid hm
              clear hm hm2
              go_wp2_with fail
              refine (spec_l1In _ _ _ _).mono ?_
              rintro e w' ⟨rfl, rfl⟩
              rw [hv2]
              clear hv2
              go_wp2_with fail
              go_ret
              exact ⟨ret_bool (permOk_noD (nodup_take_no (k := k) (by have := HN.out; omega) (by rw [HR.out]; exact HM2.out))).symm, HBr.out⟩
            · have hm2 : decide ((r : Int) ∈ xs.take k) = false := by simpa using hm
              rw [hm2] at d1
              have HM2 := Lib.hid hm
              clear hm hm2
              go_wp2_with fail
              refine (spec_l1In _ _ _ _).mono ?_
              rintro e w' ⟨rfl, rfl⟩
              rw [hv2]
              clear hv2
              go_wp2_with fail
              go_roundw
              case rel =>
                refine ⟨k + 1, by omega, by go_num, inR_snoc (by have := HN.out; omega) HT.out (by rw [HR.out]; omega) (by rw [HR.out]; omega), nodup_take_succ (by have := HN.out; omega) HD.out (by rw [HR.out]; exact HM2.out), ?_, HW.out.setCell (by simp) _⟩
                have h := K1.out.set r (.bool true)
                rw [rowB_set, seenRow_succ _ _ _ _ (by have := HN.out; omega) HR.out] at h
                exact h
              case measure => simp [intOf]; omega
          · have HP := Lib.hid (permOk_noR HN.out k hlt hv)
            have hv2 : decide (0 ≤ xs[k]?.getD 0 ∧ xs[k]?.getD 0 ≤ (n : Int) - 1) = false := by rw [decide_eq_false_iff_not]; omega
            clear hv
            go_wp2_with fail
            refine (spec_l1In _ _ _ _).mono ?_
            rintro e w' ⟨rfl, rfl⟩
            rw [hv2]
            clear hv2
            go_wp2_with fail
            go_ret
            exact ⟨ret_bool HP.out.symm, HBr.out⟩
        · obtain rfl : n = k := by omega
          have HP : Hid (permOk xs = true) := by
            have h := HT.out
            have h2 := HD.out
            rw [List.take_of_length_le (by have := HN.out; omega)] at h h2
            exact Lib.hid (permOk_mk HN.out h h2)
          go_wp2_with fail
          go_ret
          exact ⟨ret_bool HP.out.symm, HBr.out⟩

end Go.Proofs.Ytafjpmlakpfidaa
