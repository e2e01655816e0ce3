/-
  FnRow: in one row with the plain kernel the error that is carried stays within 128: the law returns true for every code. No conditions.
-/
import Derived.Test.YtepaklcobkdfdaaR4
import Derived.Test.YtepaklcobkdfdaaM6
import Derived.Test.YtepaklcobkdfdaaM10
import Derived.Test.YtepaklcobkdfdaaD3
import Derived.Test.YtepaklcobkdfdaaK16
import Derived.Test.YtepaklcobkdfdaaM25
import Derived.Test.YtepaklcobkdfdaaFrameB
namespace Go.Proofs.Ytepaklcobkdfdaa.lRow
open Go.ChangeShapes Go.WideShapes Go.ChangeAt Go.RowKit
set_option linter.unusedVariables false
set_option linter.unusedSimpArgs false

theorem own_nil0 (w : World) : Own (w.alloc (.cells #[] 3)) w.heap.size 0 0 [] :=
  ⟨rfl, #[], heap_alloc_new w _, Nat.le_refl _, Nat.zero_le _, rfl, rfl⟩

theorem at_callR (B : Nat) (ac : Option Addr) (nc capc : Nat) (bs : List Int) (i : Int) (w : World) (hl : bs.length = nc) (hr : RdU B w ac bs) (hn : nc ≤ 1048576) (h0 : 0 ≤ i) (h1 : i ≤ 100) :
    Calls Try.prog 12 #[.slice ac nc capc, .int .i64 i] w fun e w' => ∃ v : Nat, e = .returned (.int .i64 (v : Int)) ∧ v ≤ 255 ∧ w = w' := by
  have h := laws_at B ac nc capc bs i.toNat w hl hr hn (by omega)
  rw [Int.toNat_of_nonneg h0] at h
  exact h

theorem row_pic {xs : List Int} {k : Nat} (hl : xs.length = k) (h1 : 1 ≤ k) (h2 : k ≤ 40) (hw : within xs 255 = true) : picOk k 1 xs 255 = true := by
  refine picOk_mk ?_ hl (by omega) hw
  rw [sizeOk_in (by omega) (by omega) (by omega) (by omega)]
  simp; omega

theorem row_dots {xs : List Int} {k : Nat} (hl : xs.length = k) (hp : picOk k 1 xs 255 = true) :
    ∃ ds, rowDotsF xs = ds ∧ ds.length = k ∧ ∀ j, j < k → ds.getD j 0 = rowD xs j := by
  refine ⟨_, rowDotsF_yes hl hp, ?_, fun j hj => ?_⟩
  · rw [(run_len _).1]; exact hl
  · exact (row_run hl k (Nat.le_refl _)).2.2 j hj

set_option maxRecDepth 100000 in
set_option maxHeartbeats 3200000 in
theorem ok (ad0 : Option Addr) (n0 cap0 : Nat) (bs0 : List Int) (w : World) (hn0 : bs0.length = n0) (hr0 : RdU w.heap.size w ad0 bs0) (hs0 : n0 ≤ 1048576) :
    Calls Try.prog 5 #[.slice ad0 n0 cap0] w fun e w' => e = .returned (.bool true) ∧ Below w.heap.size w w' := by
  have HL := Lib.hid hn0
  have HC := Lib.hid hr0
  clear hn0 hr0
  go_enter Try.func5, Try.ntmps5
  go_wp2_with fail
  go_loopw [3, 4] (fun s i wr => ∃ (k : Nat) (a : Option Addr) (c : Nat) (xs : List Int), k ≤ 40 ∧ i = .int .i64 k ∧ s = .slice a k c ∧ OwnA wr w.heap.size a k c xs ∧ within xs 255 = true ∧ Below w.heap.size w wr) (fun _ i _ => 40 - (intOf i).toNat)
  case atStart => exact ⟨0, _, _, [], by omega, rfl, rfl, OwnA.mk (own_nil0 _) (Nat.le_refl _), rfl, Joins.below_alloc1 _ _⟩
  case round =>
    obtain ⟨k, a, c, xs, hk, rfl, rfl, ho, hwi, hnx⟩ := hrel
    have HO := Lib.hid ho
    have HI := Lib.hid hwi
    have HW := Lib.hid hnx
    have HQ := Lib.hid (HC.out.below hnx)
    clear ho hwi hnx
    go_wp2_with fail
    refine (at_callR w.heap.size ad0 n0 cap0 bs0 0 _ HL.out (by exact HQ.out) (by omega) (by omega) (by omega)).mono ?_
    rintro e w1 ⟨v, rfl, hv, rfl⟩
    by_cases hlt : (k : Int) < 1 + (v : Int) % 40
    · go_wp2_with fail
      refine (at_callR w.heap.size ad0 n0 cap0 bs0 (k + 1) _ HL.out (by exact HQ.out) (by omega) (by omega) (by omega)).mono ?_
      rintro e w2 ⟨u, rfl, hu, rfl⟩
      go_wp2_with (at_builtin; refine wp_append _ rfl (.tmp 21) (.tmp 26) rfl w.heap.size k c a xs rfl (HO.out.alloc _) wr.heap.size (u : Int) rfl (by go_simp) (by omega) (by have := HW.out.size; simp; omega) ?_; intro ad2 cap2 w5 ho5 hg5)
      have HW5 := Lib.hid ((HW.out.alloc HW.out.size _).grown hg5 (by have := HW.out.size; simp; omega) (fun b hb => by have := HO.out.bd b hb; omega))
      have HO5 := Lib.hid ho5
      have HI5 : Hid (within (xs ++ [(u : Int)]) 255 = true) := Lib.hid (by have h := HI.out; unfold within at h ⊢; rw [List.all_append, h]; simp; omega)
      clear ho5 hg5
      go_roundw
      case rel => exact ⟨k + 1, ad2, cap2, _, by omega, by go_num, rfl, HO5.out, HI5.out, HW5.out⟩
      case measure => simp [intOf]; omega
    · have hk1 : 1 ≤ k := by omega
      have HP := Lib.hid (row_pic HO.out.len hk1 hk HI.out)
      obtain ⟨ds, hd1, hd2, hd3⟩ := row_dots HO.out.len HP.out
      have HD1 := Lib.hid hd1
      have HD2 := Lib.hid hd2
      have HD3 := Lib.hid hd3
      clear hd1 hd2 hd3
      go_wp2_with fail
      refine (impl_RowDots a k c xs _ HO.out.len (by exact HO.out.rd) (by omega)).mono ?_
      rintro e w2 ⟨a2, n2, c2, rfl, ho2, hn2, hb2⟩
      rw [HD1.out] at ho2
      have en : n2 = k := by rw [← ho2.len]; exact HD2.out
      subst en
      have HB2 := Lib.hid (bTrans HW.out hb2)
      have RX := Lib.hid (HO.out.rd.below hb2)
      have RD := Lib.hid ho2.rd
      clear ho2 hb2
      go_wp2_with fail
      go_loopw [6, 37] (fun r i wr => ∃ j : Nat, j ≤ n2 ∧ i = .int .i64 j ∧ r = .int .i64 (rowE xs j) ∧ wr = w2) (fun _ i _ => n2 - (intOf i).toNat)
      case atStart => exact ⟨0, by omega, rfl, rfl, rfl⟩
      case round =>
        obtain ⟨j, hj, rfl, rfl, rfl⟩ := hrel
        by_cases hlt2 : j < n2
        · obtain ⟨ba, oa, hae, hal, hac⟩ := RX.out.at (by have := HO.out.len; omega)
          obtain ⟨bd, od, hde, hdl, hdc⟩ := RD.out.at (by have := HD2.out; omega)
          have h1 := hac j (by have := HO.out.len; omega)
          have h2 := hdc j (by have := HD2.out; omega)
          subst hae hde
          clear hac hdc
          have h3 := HD3.out j hlt2
          rw [h3] at h2
          have e1 := rowE_bd HI.out j (by have := HO.out.len; omega)
          have e2 := rowE_bd HI.out (j + 1) (by have := HO.out.len; omega)
          have e3 := rowE_step xs j
          have e4 := within_getD HI.out j (by have := HO.out.len; omega)
          obtain ⟨x, hx⟩ : ∃ x, xs.getD j 0 = x := ⟨_, rfl⟩
          obtain ⟨d, hd⟩ : ∃ d, rowD xs j = d := ⟨_, rfl⟩
          obtain ⟨E, hE⟩ : ∃ E, rowE xs j = E := ⟨_, rfl⟩
          obtain ⟨E2, hE2⟩ : ∃ E, rowE xs (j + 1) = E := ⟨_, rfl⟩
          rw [hx] at h1 e3 e4
          rw [hd] at h2 e3
          rw [hE] at e1 e3
          rw [hE2] at e2 e3
          rw [hE]
          have HE2 := Lib.hid hE2
          clear h3 hx hd hE hE2
          have q1 : -1 ≤ d ∧ d ≤ 2 := by omega
          have q2 : E + x - 255 * d = E2 := e3
          have q3 : decide (128 < E2) = false := by simp; omega
          have q4 : decide (128 < -E2) = false := by simp; omega
          clear e3
          go_wp2_with fail
          go_roundw
          case rel => exact ⟨j + 1, by omega, by go_num, by rw [HE2.out], by first | rfl | trivial⟩
          case measure => simp [intOf]; omega
        · obtain rfl : j = n2 := by omega
          go_wp2_with fail
          go_ret
          exact ⟨rfl, HB2.out⟩

set_option maxHeartbeats 400000 in
theorem big (ad0 : Option Addr) (n0 cap0 : Nat) (w : World) (h : 1048576 < n0) (hl : n0 ≤ 9223372036854775807) :
    Calls Try.prog 5 #[.slice ad0 n0 cap0] w fun e w' => e = .returned (.bool true) ∧ Below w.heap.size w w' := by
  have h2 : (1048576 : Int) < (n0 : Int) := by omega
  go_enter Try.func5, Try.ntmps5
  go_wp2_with fail
  go_ret
  exact ⟨rfl, Below.refl _ _⟩

set_option maxRecDepth 100000 in
theorem lifted (os : Os) (started : os.Started) (H : Type) (enc : TypeId × Value → H) :
    ReturnsInHanded {} Try.checked os 5 .any (Rows.fnRowSpec.pre6 enc Try.prog Try.f5 Rows.fnRowRow.domain false) (Rows.fnRowSpec.post enc Try.prog Try.f5 false true false false) := by
  refine returnsInHanded_of_change (C := Try.checked) own started (by kernel_rfl) Try.func5
    (ChangeSpec.witness6 (enc := enc) (C := Try.checked) false ⟨#[], #[.slice none 0 0], []⟩ 8 (by kernel_rfl) (by kernel_rfl) (by kernel_rfl) (by kernel_rfl)) ?_
  intro W base args ds gs before hval0 hW hcnd _
  have hval : ∀ (j : Nat) t v, Try.f5.params[j]? = some t → args[j]? = some v → Value.okWide Try.prog W .any base t v := hval0
  have hW' := hW
  have hlt := hW.lt
  obtain ⟨p, q, hA0, hV, rfl, hfz, hnd⟩ := hW
  have hA : DataW.TrodAll enc Try.prog W 0 (fun _ => true) true Try.f5.params.toList args.toList ds p := hA0
  rw [Try.params5] at hA hval
  obtain ⟨v0, vs0, d0, ds0, p0, q0, hargs, rfl, rfl, h0, r0⟩ := trodAll_cons hA
  obtain ⟨rfl, rfl, rfl⟩ := trodAll_nil r0
  obtain rfl : args = #[v0] := by cases args; simp_all
  obtain ⟨rfl, rfl⟩ := trodVars_none hV
  clear hA0 hval0
  obtain ⟨ad0, n0, cap0, bs0, rfl, hn0, hr0, hl0⟩ := open_code (hval 0 22 v0 rfl rfl) h0 (fun x hx => hlt x (by simp [hx]))
  have fin : ∀ (e : Ending) W', (e = .returned (.bool true) ∧ Below W.heap.size W W') → ∃ v, e = .returned v ∧ Rows.fnRowSpec.post enc Try.prog Try.f5 false true false false W #[.slice ad0 n0 cap0] v W' := by
    rintro e W' ⟨rfl, hb⟩
    exact ⟨_, rfl, law_post rfl rfl hW' (by kernel_rfl) rfl hb⟩
  by_cases hs0 : n0 ≤ 1048576
  case neg => exact (big ad0 n0 cap0 W (by omega) hl0).mono fin
  case pos => exact (ok ad0 n0 cap0 bs0 W hn0 hr0 hs0).mono fin

theorem proved : Rows.FnRowSaid :=
  OpenClaim.holds_of_wide 5 Try.f5 rfl rfl rfl rfl rfl rfl rfl ⟨rfl, rfl, rfl, rfl, rfl⟩ rfl rfl rfl rfl rfl (by kernel_rfl) Try.func5 (by kernel_rfl)
    (of_decide_eq_true (by kernel_rfl)) (by unfold Func.isWrapper; first | (rw [if_pos (by decide +kernel)]; kernel_rfl) | (rw [if_neg (by decide +kernel)]; exact ⟨rfl, rfl⟩))
    (fun os started H enc _ => lifted os started H enc)

end Go.Proofs.Ytepaklcobkdfdaa.lRow
