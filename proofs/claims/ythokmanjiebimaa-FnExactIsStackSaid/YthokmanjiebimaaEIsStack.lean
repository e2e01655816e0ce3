/-
  The exact law of IsStack: the walk, and the row. laws.FnExactIsStack returns true for every input: the program answers as the model does, writes into no argument, and its answer owns its memory. No conditions.
-/
import Derived.Test.YthokmanjiebimaaW11
import Derived.Test.YthokmanjiebimaaW13
import Derived.Test.YthokmanjiebimaaW14
import Derived.Test.YthokmanjiebimaaFrameP
namespace Go.Proofs.Ythokmanjiebimaa.xIsStack
open Go.ChangeShapes Go.WideShapes Go.ChangeAt Go.RowKit
set_option linter.unusedVariables false
set_option linter.unusedSimpArgs false

set_option maxRecDepth 100000 in
set_option maxHeartbeats 400000 in
theorem no0 (ad0 : Option Addr) (n0 cap0 : Nat) (ps0 : List PV) (w : World)  (hn0 : ps0.length = n0) (ha0 : RdV w ad0 ps0) (h1 : 1048576 < (n0 : Int) + (inkV ps0 : Int)) (h3 : n0 ≤ 9223372036854775807) (h4 : ∀ k, k < ps0.length → (pv ps0 k).n ≤ 9223372036854775807) :
    Calls Try.prog 3 #[.slice ad0 n0 cap0] w fun e w' => e = .returned (.bool true) ∧ Below w.heap.size w w' := by
  have HN := Lib.hid hn0
  have HA := Lib.hid ha0
  have H4 := Lib.hid h4
  clear hn0 ha0 h4
  go_enter Try.func3, Try.ntmps3
  go_wp2_with fail
  refine (szPicS_no _ _ _ ps0 _ _ HN.out (by exact HA.out) (by omega) (by omega) (by omega) h3 H4.out).mono ?_
  rintro e w1 ⟨rfl, hb⟩
  have HB1 := Lib.hid hb
  clear hb
  go_wp2_with fail
  go_ret
  exact ⟨rfl, HB1.out⟩

set_option maxRecDepth 100000 in
set_option maxHeartbeats 4000000 in
theorem ok (ad0 : Option Addr) (n0 cap0 : Nat) (ps0 : List PV) (w : World) (hn0 : ps0.length = n0) (ha0 : RdV w ad0 ps0) (b0 : (n0 : Int) + (inkV ps0 : Int) ≤ 1048576) :
    Calls Try.prog 3 #[.slice ad0 n0 cap0] w fun e w' => e = .returned (.bool true) ∧ Below w.heap.size w w' := by
  have HN0 := Lib.hid hn0
  have HA0 := Lib.hid ha0
  clear hn0 ha0
  go_enter Try.func3, Try.ntmps3
  go_wp2_with fail
  refine (szPicS_ok _ _ _ ps0 _ _ HN0.out (by exact (HA0.out.below (Below.refl _ _))) (by omega) (by omega)).mono ?_
  rintro e w1 ⟨rfl, hb⟩
  have HB1 := Lib.hid (bTrans (Below.refl _ _) hb)
  have HZ1 : Hid (w.heap.size + 0 ≤ w1.heap.size) := Lib.hid (by have := hb.size; (try simp at this); omega)
  clear hb
  go_wp2_with fail
  refine (toPicS _ _ _ ps0 _ HN0.out (by exact (HA0.out.below HB1.out)) (by omega) (lenV_ink (by omega))).mono ?_
  rintro e w2 ⟨gs0, Qs0, rfl, ho, hs, hb⟩
  have HB2 := Lib.hid (bTrans HB1.out hb)
  have HZ2 : Hid (w1.heap.size + 0 ≤ w2.heap.size) := Lib.hid (by have := hb.size; (try simp at this); omega)
  have K2_s0 := Lib.hid (OwnV.mono (B' := w1.heap.size + 0) ho (by first | (simp; done) | (simp; omega)))
  have R2_s0 := Lib.hid K2_s0.out.bd
  clear hb ho
  have E_s0 : Hid (picsV Qs0 = picsV ps0) := Lib.hid hs.pics
  have i_s0 : inkV Qs0 ≤ 1048576 := by have := hs.ink; omega
  have z_s0 : sizeV Qs0 ≤ 4000000 := by have := hs.ink; have := K2_s0.out.len; rw [sizeV_ink]; omega
  clear hs
  go_wp2_with fail
  have C3 := Lib.hid (spec_IsStack (some ⟨gs0, 0, none⟩) n0 n0 Qs0 w2 K2_s0.out.len (by exact K2_s0.out.rd) (by omega) (lenV_ink (M := 1048576) (by omega)))
  rw [E_s0.out] at C3
  refine C3.out.mono ?_
  clear K2_s0
  rintro e w3 ⟨rfl, hb⟩
  have HB3 := Lib.hid (bTrans HB2.out hb)
  have HZ3 : Hid (w2.heap.size + 0 ≤ w3.heap.size) := Lib.hid (by have := hb.size; (try simp at this); omega)
  clear hb
  go_wp2_with fail
  refine (toPicS _ _ _ ps0 _ HN0.out (by exact (HA0.out.below HB3.out)) (by omega) (lenV_ink (by omega))).mono ?_
  rintro e w4 ⟨gx0, Qx0, rfl, ho, hs, hb⟩
  have HB4 := Lib.hid (bTrans HB3.out hb)
  have HZ4 : Hid (w3.heap.size + 0 ≤ w4.heap.size) := Lib.hid (by have := hb.size; (try simp at this); omega)
  have K4_x0 := Lib.hid (OwnV.mono (B' := w3.heap.size + 0) ho (by first | (simp; done) | (simp; omega)))
  have R4_x0 := Lib.hid K4_x0.out.bd
  clear hb ho
  have E_x0 : Hid (picsV Qx0 = picsV ps0) := Lib.hid hs.pics
  have i_x0 : inkV Qx0 ≤ 1048576 := by have := hs.ink; omega
  have z_x0 : sizeV Qx0 ≤ 4000000 := by have := hs.ink; have := K4_x0.out.len; rw [sizeV_ink]; omega
  clear hs
  go_wp2_with fail
  have C5 := Lib.hid (impl_IsStack (some ⟨gx0, 0, none⟩) n0 n0 Qx0 w4 K4_x0.out.len (by exact K4_x0.out.rd) (by omega) (lenV_ink (M := 1048576) (by omega)))
  rw [E_x0.out] at C5
  refine C5.out.mono ?_
  rintro e w5 ⟨rfl, hb⟩
  have HB5 := Lib.hid (bTrans HB4.out hb)
  have HZ5 : Hid (w4.heap.size + 0 ≤ w5.heap.size) := Lib.hid (by have := hb.size; (try simp at this); omega)
  have K5_x0 := Lib.hid (K4_x0.out.below' hb)
  clear K4_x0
  clear hb
  go_wp2_with fail
  refine (toPicS _ _ _ ps0 _ HN0.out (by exact (HA0.out.below HB5.out)) (by omega) (lenV_ink (by omega))).mono ?_
  rintro e w6 ⟨gt0, Qt0, rfl, ho, hs, hb⟩
  have HB6 := Lib.hid (bTrans HB5.out hb)
  have HZ6 : Hid (w5.heap.size + 0 ≤ w6.heap.size) := Lib.hid (by have := hb.size; (try simp at this); omega)
  have K6_x0 := Lib.hid (K5_x0.out.below' hb)
  clear K5_x0
  have K6_t0 := Lib.hid (OwnV.mono (B' := w5.heap.size + 0) ho (by first | (simp; done) | (simp; omega)))
  have R6_t0 := Lib.hid K6_t0.out.bd
  clear hb ho
  have E_t0 : Hid (picsV Qt0 = picsV ps0) := Lib.hid hs.pics
  have i_t0 : inkV Qt0 ≤ 1048576 := by have := hs.ink; omega
  have z_t0 : sizeV Qt0 ≤ 4000000 := by have := hs.ink; have := K6_t0.out.len; rw [sizeV_ink]; omega
  clear hs
  go_wp2_with fail
  have C7 := Lib.hid (eqPicS (some ⟨gx0, 0, none⟩) (some ⟨gt0, 0, none⟩) _ _ n0 n0 Qx0 Qt0 w6 K6_x0.out.len K6_t0.out.len (by exact K6_x0.out.rd) (by exact K6_t0.out.rd) (by omega) (by omega) (lenV_ink (by omega)) (lenV_ink (by omega)))
  rw [decide_eq_true (E_x0.out.trans E_t0.out.symm)] at C7
  refine C7.out.mono ?_
  rintro e w7 ⟨rfl, hb⟩
  have HB7 := Lib.hid (bTrans HB6.out hb)
  have HZ7 : Hid (w6.heap.size + 0 ≤ w7.heap.size) := Lib.hid (by have := hb.size; (try simp at this); omega)
  have K7_x0 := Lib.hid (K6_x0.out.below' hb)
  clear K6_x0
  have K7_t0 := Lib.hid (K6_t0.out.below' hb)
  clear K6_t0
  clear hb
  go_wp2_with fail
  clear K7_t0
  go_ret
  exact ⟨rfl, HB7.out⟩

set_option maxRecDepth 100000 in
theorem lifted (os : Os) (started : os.Started) (H : Type) (enc : TypeId × Value → H) :
    ReturnsInHanded {} Try.checked os 3 .any (Rows.fnExactIsStackSpec.pre6 enc Try.prog Try.f3 Rows.fnExactIsStackRow.domain false) (Rows.fnExactIsStackSpec.post enc Try.prog Try.f3 false true false false) := by
  refine returnsInHanded_of_change (C := Try.checked) own started (by kernel_rfl) Try.func3
    (ChangeSpec.witness6 (enc := enc) (C := Try.checked) false ⟨#[], #[.slice none 0 0], []⟩ 8 (by kernel_rfl) (by kernel_rfl) (by kernel_rfl) (by kernel_rfl)) ?_
  intro W base args ds gs before hval0 hW hcnd _
  have hval : ∀ (j : Nat) t v, Try.f3.params[j]? = some t → args[j]? = some v → Value.okWide Try.prog W .any base t v := hval0
  have hW' := hW
  have hlt := hW.lt
  obtain ⟨p, q, hA0, hV, rfl, hfz, hnd⟩ := hW
  have hA : DataW.TrodAll enc Try.prog W 0 (fun _ => true) true Try.f3.params.toList args.toList ds p := hA0
  rw [Try.params3] at hA hval
  obtain ⟨v0, vs0, d0, ds0, p0, q0, hargs, rfl, rfl, h0, r0⟩ := trodAll_cons hA
  obtain ⟨rfl, rfl, rfl⟩ := trodAll_nil r0
  obtain rfl : args = #[v0] := by cases args; simp_all
  obtain ⟨rfl, rfl⟩ := trodVars_none hV
  clear hA0 hval0
  obtain ⟨ad0, n0, cap0, ps0, rfl, hn0, hr0, hl0, hq0⟩ := open_lpics (hval 0 22 v0 rfl rfl) h0 (fun x hx => hlt x (by simp [hx]))
  have fin : ∀ (e : Ending) W', (e = .returned (.bool true) ∧ Below W.heap.size W W') → ∃ v, e = .returned v ∧ Rows.fnExactIsStackSpec.post enc Try.prog Try.f3 false true false false W #[.slice ad0 n0 cap0] v W' := by
    rintro e W' ⟨rfl, hb⟩
    exact ⟨_, rfl, law_post rfl rfl hW' (by kernel_rfl) rfl hb⟩
  by_cases b0 : (n0 : Int) + (inkV ps0 : Int) ≤ 1048576
  case neg => exact (no0 ad0 n0 cap0 ps0 W  hn0 hr0 (by omega) hl0 hq0).mono fin
  case pos =>
    exact (ok ad0 n0 cap0 ps0 W hn0 hr0 b0).mono fin

theorem proved : Rows.FnExactIsStackSaid :=
  OpenClaim.holds_of_wide 3 Try.f3 rfl rfl rfl rfl rfl rfl rfl ⟨rfl, rfl, rfl, rfl, rfl⟩ rfl rfl rfl rfl rfl (by kernel_rfl) Try.func3 (by kernel_rfl)
    (of_decide_eq_true (by kernel_rfl)) (by unfold Func.isWrapper; first | (rw [if_pos (by decide +kernel)]; kernel_rfl) | (rw [if_neg (by decide +kernel)]; exact ⟨rfl, rfl⟩))
    (fun os started H enc _ => lifted os started H enc)
end Go.Proofs.Ythokmanjiebimaa.xIsStack
