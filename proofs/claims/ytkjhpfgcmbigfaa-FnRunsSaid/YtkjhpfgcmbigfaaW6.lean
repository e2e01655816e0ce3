/-
  Contracts of chapter 8: the runs of a plate (program and model).
-/
import Derived.Test.YtkjhpfgcmbigfaaC4
import Derived.Test.YtkjhpfgcmbigfaaD3
import Derived.Test.YtkjhpfgcmbigfaaM46
namespace Go.Proofs.Ytkjhpfgcmbigfaa
open Go.RowKit
set_option linter.unusedVariables false
set_option linter.unusedSimpArgs false

/-- A list of numbers of the call's own. -/
def IntsOutW (w : World) (xs : List Int) (e : Ending) (w' : World) : Prop := ∃ a n c, e = .returned (.slice a n c) ∧ OwnA w' w.heap.size a n c xs ∧ n ≤ 1048576 ∧ Below w.heap.size w w'

def runsF (W H : Int) (xs : List Int) : List Int := if picOk W H xs 1 = true then runsG xs else []

theorem own_some {w : World} {B n cap : Nat} {ad : Option Addr} {xs : List Int} (h : OwnA w B ad n cap xs) (hn : 1 ≤ n) : ∃ g, ad = some ⟨g, 0, none⟩ ∧ B ≤ g ∧ Own w g n cap xs := by
  rcases h with ⟨_, h0, _⟩ | h
  · omega
  · exact h

theorem elem_le_isum {rs : List Int} (h : nnAll rs) : ∀ {q : Nat}, q < rs.length → rs.getD q 0 ≤ isum rs := by
  induction rs with
  | nil => intro q hq; simp at hq
  | cons a r ih =>
    intro q hq
    have h0 := h a (by simp)
    have hr := isum_nn (rs := r) (fun v hv => h v (by simp [hv]))
    cases q with
    | zero => simp [isum]; omega
    | succ q =>
      have := ih (fun v hv => h v (by simp [hv])) (q := q) (by simpa using hq)
      simp only [List.getD, List.getElem?_cons_succ, isum] at this ⊢
      omega

theorem dots_ofR {n : Nat} {xs : List Int} (hn : xs.length = n) (h : within xs 1 = true) : ∀ k, k < xs.length → xs.getD k 0 = 0 ∨ xs.getD k 0 = 1 := fun k hk => by
  have := within_at h k hk
  simp only [List.getD_eq_getElem?_getD]
  omega

theorem runsTo_bd {xs : List Int} (hx : ∀ k, k < xs.length → xs.getD k 0 = 0 ∨ xs.getD k 0 = 1) {k q : Nat} (hk : k ≤ xs.length) (hq : q < (runsTo xs k).length) : 0 ≤ (runsTo xs k).getD q 0 ∧ (runsTo xs k).getD q 0 ≤ k := by
  obtain ⟨h1, h2, _⟩ := runsTo_inv hx k hk
  have hn := runsOk_nn h1
  have e := spell_len hn 0
  rw [h2, List.length_take] at e
  have := elem_le_isum hn hq
  exact ⟨hn _ (getD_mem hq), by omega⟩

theorem colR_next (q : Nat) : colR 0 (q + 1) = 1 - colR 0 q := by
  rw [colR_succ]
  unfold colR
  split <;> omega

theorem colR_bd (q : Nat) : 0 ≤ colR 0 q ∧ colR 0 q ≤ 1 := by
  unfold colR
  split <;> omega

theorem runsTo_same {xs : List Int} {k q : Nat} (hl : (runsTo xs k).length = q + 1) (h : xs.getD k 0 = colR 0 q) : runsTo xs (k + 1) = (runsTo xs k).set q ((runsTo xs k).getD q 0 + 1) := by
  show (if xs.getD k 0 = colR 0 ((runsTo xs k).length - 1) then (runsTo xs k).set ((runsTo xs k).length - 1) ((runsTo xs k).getD ((runsTo xs k).length - 1) 0 + 1) else runsTo xs k ++ [1]) = _
  rw [hl, Nat.add_sub_cancel, if_pos h]

theorem runsTo_turn {xs : List Int} {k q : Nat} (hl : (runsTo xs k).length = q + 1) (h : ¬ xs.getD k 0 = colR 0 q) : runsTo xs (k + 1) = (runsTo xs k ++ [0]).set (q + 1) 1 := by
  show (if xs.getD k 0 = colR 0 ((runsTo xs k).length - 1) then (runsTo xs k).set ((runsTo xs k).length - 1) ((runsTo xs k).getD ((runsTo xs k).length - 1) 0 + 1) else runsTo xs k ++ [1]) = _
  rw [hl, Nat.add_sub_cancel, if_neg h, List.set_append]
  simp [hl]

theorem app_last {r : List Int} {m : Nat} (h : r.length = m) (v : Int) : (r ++ [v]).getD m 0 = v := by
  subst h
  simp [List.getD]

set_option maxHeartbeats 400000 in
theorem impl_inkOfRun (q : Nat) (w : World) (hq : q ≤ 1048576) :
    Calls Try.prog 59 #[.int .i64 q] w fun e w' => e = .returned (.int .i64 (colR 0 q)) ∧ w = w' := by
  have e : (q : Int) % 2 = colR 0 q := by
    unfold colR
    split <;> omega
  have E := Lib.hid e
  clear e
  go_enter Try.func59, Try.ntmps59
  go_wp2_with fail
  go_ret
  exact ⟨ret_int E.out, rfl⟩

theorem own_one (w : World) (v : Int) : Own (w.alloc (.cells #[.int .i64 v] 3)) w.heap.size 1 1 [v] :=
  RowM.own (M := #[.int .i64 v]) ⟨rfl, by unfold maxLen; simp, rfl, rfl⟩ w

theorem CIX (q : Nat) : (∀ w : World, q ≤ 1048576 → Calls Try.prog 59 #[.int .i64 q] w fun e w' => e = .returned (.int .i64 (colR 0 q)) ∧ w = w') := fun w h => impl_inkOfRun q w h

theorem run_after {w1 wr w5 : World} {g q cp cap2 : Nat} {ad2 : Option Addr} {r : List Int} {O : Obj} (hw : Below w1.heap.size w1 wr) (ho : Own wr g (q + 1) cp r) (hg : w1.heap.size ≤ g) (ho5 : OwnA w5 w1.heap.size ad2 (q + 1 + 1) cap2 (r ++ [0])) (hg5 : (wr.alloc O).grownBy w5 (blockOf (some ⟨g, 0, none⟩))) :
    ∃ g5, ad2 = some ⟨g5, 0, none⟩ ∧ w1.heap.size ≤ g5 ∧ Own w5 g5 (q + 1 + 1) cap2 (r ++ [0]) ∧ Below w1.heap.size w1 w5 ∧ w5.cell? ⟨g5, q + 1, none⟩ = some (.int .i64 0) ∧ w5.frozen? ⟨g5, q + 1, none⟩ = false := by
  obtain ⟨g5, rfl, h1, h2⟩ := own_some ho5 (by omega)
  refine ⟨g5, rfl, h1, h2, (hw.alloc hw.size O).grown hg5 (by have := hw.size; simp; omega) (fun k hk => by simp only [blockOf, Option.some.injEq] at hk; omega), ?_, h2.frozen _⟩
  rw [h2.cell (by omega), app_last ho.len]

set_option maxHeartbeats 1600000 in
theorem impl_RunsOf (W H : Int) (ad : Option Addr) (n cap : Nat) (xs : List Int) (w : World) (hn : xs.length = n) (ha : Rd w ad xs) (hl : n ≤ 9223372036854775807) :
    Calls Try.prog 30 #[.agg #[.int .i64 W, .int .i64 H, .slice ad n cap]] w (IntsOutW w (runsF W H xs)) := by
  have HN := Lib.hid hn
  have HA := Lib.hid ha
  clear hn ha
  by_cases hp : picOk W H xs 1 = true
  case neg =>
    have hp2 : picOk W H xs 1 = false := by simpa using hp
    have e0 : runsF W H xs = [] := by unfold runsF; rw [if_neg hp]
    rw [e0]
    clear hp e0
    go_enter Try.func30, Try.ntmps30
    go_wp2_with fail
    refine (impl_IsPlate _ _ _ _ _ xs _ HN.out (by exact HA.out.alloc _) hl).mono ?_
    rintro e w1 ⟨rfl, hb⟩
    have HB1 := Lib.hid ((Joins.below_alloc1 _ _).trans (hb.mono (by simp)))
    clear hb
    rw [hp2]
    go_wp2_with fail
    go_ret
    exact ⟨none, 0, 0, rfl, OwnA.none _ _, by omega, HB1.out⟩
  case pos =>
    have e0 : runsF W H xs = runsTo xs n := by unfold runsF; rw [if_pos hp]; unfold runsG; rw [HN.out]
    rw [e0]
    clear e0
    obtain ⟨hs, hq, hi⟩ := picOk_bd HN.out hp
    obtain ⟨b1, b2, b3, b4, b5, b6⟩ := sizeOk_bd hs
    have HQ := Lib.hid hq
    have HI := Lib.hid hi
    have HS := Lib.hid hs
    have hn1 : 1 ≤ n := by omega
    have hn2 : n ≤ 1024 := by omega
    clear hq hi hs
    have HX := Lib.hid (dots_ofR HN.out HI.out)
    go_enter Try.func30, Try.ntmps30
    go_wp2_with fail
    refine (impl_IsPlate _ _ _ _ _ xs _ HN.out (by exact HA.out.alloc _) hl).mono ?_
    rintro e w1 ⟨rfl, hb⟩
    have HB1 := Lib.hid ((Joins.below_alloc1 _ _).trans (hb.mono (by simp)))
    have KP1 := Lib.hid ((Blk.new w 25 #[.int .i64 W, .int .i64 H, .slice ad n cap]).below' hb)
    obtain ⟨l1, c0, c1, c2⟩ := KP1.out.c3
    have HA1 := Lib.hid (HA.out.below HB1.out)
    clear hb
    rw [hp]
    go_wp2_with fail
    clear c0 c1 c2 l1
    go_loopw [3, 13] (fun s i wr => ∃ (k q g cp : Nat), k ≤ n ∧ q ≤ k ∧ s = .slice (some ⟨g, 0, none⟩) (q + 1) cp ∧ i = .int .i64 k ∧ w1.heap.size ≤ g ∧ Hid (Own wr g (q + 1) cp (runsTo xs k)) ∧ Hid (Below w1.heap.size w1 wr)) (fun _ i _ => n - (intOf i).toNat)
    case atStart =>
      exact ⟨0, 0, w1.heap.size, 1, Nat.zero_le _, Nat.zero_le _, rfl, rfl, Nat.le_refl _, Lib.hid (own_one w1 0), Lib.hid (Joins.below_alloc1 _ _)⟩
    case round =>
      obtain ⟨k, q, g, cp, hk, hqk, rfl, rfl, hgl, HO, HW⟩ := hrel
      have HA2 := Lib.hid (HA1.out.below HW.out)
      by_cases hlt : k < n
      · obtain ⟨ba, oa, hae, hal, hac⟩ := HA2.out.at (by have := HN.out; omega)
        have h1 := hac k (by have := HN.out; omega)
        subst hae
        have hv := HX.out k (by have := HN.out; omega)
        obtain ⟨x0, x1⟩ := runsTo_bd HX.out (k := k) (q := q) (by have := HN.out; omega) (by have := HO.out.len; omega)
        have CI := Lib.hid (CIX q)
        have hcb := colR_bd q
        have hcn := colR_next q
        have hsame := runsTo_same (xs := xs) (k := k) (q := q) HO.out.len
        have hturn := runsTo_turn (xs := xs) (k := k) (q := q) HO.out.len
        obtain ⟨v, hV⟩ : ∃ v, xs.getD k 0 = v := ⟨_, rfl⟩
        rw [hV] at h1 hv hsame hturn
        obtain ⟨C, hC⟩ : ∃ C, colR 0 q = C := ⟨_, rfl⟩
        rw [hC] at hcb hcn hsame hturn CI
        (try rw [hC])
        have HC := Lib.hid hC
        have HV := Lib.hid hV
        clear hac hV hC
        have v0 : 0 ≤ v := by omega
        have v1 : v ≤ 1 := by omega
        by_cases he : v = C
        · have HS := Lib.hid (hsame he)
          subst he
          clear hsame hturn hcn
          have g2 := HO.out.cell (j := q) (by omega)
          have g3 := HO.out.frozen q
          obtain ⟨X, hX⟩ : ∃ X, (runsTo xs k).getD q 0 = X := ⟨_, rfl⟩
          rw [hX] at g2 x0 x1 HS
          have HST := Lib.hid (HO.out.set q (X + 1))
          clear hX
          have nb : (v != v) = false := by simp
          go_wp2_with fail
          refine (CI.out _ (by omega)).mono ?_
          rintro e w5 ⟨rfl, rfl⟩
          go_wp2_with fail
          go_roundw
          case rel => exact ⟨k + 1, q, g, cp, by omega, by omega, rfl, by go_num, hgl, Lib.hid (by rw [HS.out]; first | exact HST.out | exact HST.out.drewN _), Lib.hid (by first | exact HW.out.setCell hgl _ | exact (HW.out.setCell hgl _).drewN _)⟩
          case measure => simp [intOf]; omega
        · have HS := Lib.hid (hturn he)
          have HC2 : Hid (colR 0 (q + 1) = v) := Lib.hid (by rw [hcn]; omega)
          have nb : (v != C) = true := by simpa using he
          clear hsame hturn hcn he
          go_wp2_with fail
          refine (CI.out _ (by omega)).mono ?_
          rintro e w5 ⟨rfl, rfl⟩
          go_wp2_with (at_builtin; refine wp_append _ rfl (.tmp 23) (.tmp 24) rfl w1.heap.size (q + 1) cp _ (runsTo xs k) rfl ((OwnA.mk HO.out hgl).alloc _) wr.heap.size 0 rfl (by go_simp) (by omega) (by have := HW.out.size; simp; omega) ?_; intro ad2 cap2 w5 ho5 hg5; have HX5 := Lib.hid (run_after HW.out HO.out hgl ho5 hg5); obtain ⟨g5, rfl, hgl5, HO5, HW5, h2, h3⟩ := HX5.out)
          have HO6 := Lib.hid (HO5.set (q + 1) 1)
          have HW6 := Lib.hid (HW5.setCell (show w1.heap.size ≤ (Addr.mk g5 (q + 1) none).block from hgl5) (.int .i64 1))
          clear ho5 hg5
          go_roundw
          case rel => exact ⟨k + 1, q + 1, g5, cap2, by omega, by omega, rfl, by go_num, hgl5, Lib.hid (by rw [HS.out]; first | exact HO6.out | exact HO6.out.drewN _), Lib.hid (by first | exact HW6.out | exact HW6.out.drewN _)⟩
          case measure => simp [intOf]; omega
      · obtain rfl : k = n := by omega
        have HB9 := Lib.hid (bTrans HB1.out HW.out)
        have HG9 : Hid (w.heap.size ≤ g) := Lib.hid (by have := HB1.out.size; omega)
        go_wp2_with fail
        go_ret
        exact ⟨_, _, _, rfl, OwnA.mk HO.out HG9.out, by omega, HB9.out⟩

end Go.Proofs.Ytkjhpfgcmbigfaa
