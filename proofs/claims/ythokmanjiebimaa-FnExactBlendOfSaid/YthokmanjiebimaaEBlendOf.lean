/-
  The exact law of BlendOf: the walk, and the row. laws.FnExactBlendOf returns true for every input: the program answers as the model does, writes into no argument, and its answer owns its memory. No conditions.
-/
import Derived.Test.YthokmanjiebimaaW11
import Derived.Test.YthokmanjiebimaaW18
import Derived.Test.YthokmanjiebimaaW19
import Derived.Test.YthokmanjiebimaaCut
import Derived.Test.YthokmanjiebimaaFrameP
namespace Go.Proofs.Ythokmanjiebimaa.xBlendOf
open Go.ChangeShapes Go.WideShapes Go.ChangeAt Go.RowKit
set_option linter.unusedVariables false
set_option linter.unusedSimpArgs false

set_option maxRecDepth 100000 in
set_option maxHeartbeats 400000 in
theorem no1 (ad0 : Option Addr) (n0 cap0 : Nat) (ps0 : List PV) (ad1 : Option Addr) (n1 cap1 : Nat) (xs1 : List Int) (w : World)  (h1 : 1048576 < (n1 : Int)) (h3 : n1 ≤ 9223372036854775807) :
    Calls Try.prog 6 #[.slice ad0 n0 cap0, .slice ad1 n1 cap1] w fun e w' => e = .returned (.bool true) ∧ Below w.heap.size w w' := by
  go_enter Try.func6, Try.ntmps6
  go_wp2_with fail
  go_ret
  exact ⟨rfl, Below.refl _ _⟩

set_option maxRecDepth 100000 in
set_option maxHeartbeats 400000 in
theorem no0 (ad0 : Option Addr) (n0 cap0 : Nat) (ps0 : List PV) (ad1 : Option Addr) (n1 cap1 : Nat) (xs1 : List Int) (w : World) (b1 : (n1 : Int) ≤ 1048576) (hn0 : ps0.length = n0) (ha0 : RdV w ad0 ps0) (h1 : 1048576 < (n0 : Int) + (inkV ps0 : Int)) (h3 : n0 ≤ 9223372036854775807) (h4 : ∀ k, k < ps0.length → (pv ps0 k).n ≤ 9223372036854775807) :
    Calls Try.prog 6 #[.slice ad0 n0 cap0, .slice ad1 n1 cap1] w fun e w' => e = .returned (.bool true) ∧ Below w.heap.size w w' := by
  have HN := Lib.hid hn0
  have HA := Lib.hid ha0
  have H4 := Lib.hid h4
  clear hn0 ha0 h4
  go_enter Try.func6, Try.ntmps6
  go_wp2_with fail
  refine (szPicS_no _ _ _ ps0 _ _ HN.out (by exact HA.out) (by omega) (by omega) (by omega) h3 H4.out).mono ?_
  rintro e w1 ⟨rfl, hb⟩
  have HB1 := Lib.hid hb
  clear hb
  go_wp2_with fail
  go_ret
  exact ⟨rfl, HB1.out⟩

set_option maxRecDepth 100000 in
set_option maxHeartbeats 4000000 in
theorem ok (ad0 : Option Addr) (n0 cap0 : Nat) (ps0 : List PV) (ad1 : Option Addr) (n1 cap1 : Nat) (xs1 : List Int) (w : World) (hn0 : ps0.length = n0) (ha0 : RdV w ad0 ps0) (hn1 : xs1.length = n1) (ha1 : Rd w ad1 xs1) (b1 : (n1 : Int) ≤ 1048576) (b0 : (n0 : Int) + (inkV ps0 : Int) ≤ 1048576) :
    Calls Try.prog 6 #[.slice ad0 n0 cap0, .slice ad1 n1 cap1] w fun e w' => e = .returned (.bool true) ∧ Below w.heap.size w w' := by
  have HN0 := Lib.hid hn0
  have HA0 := Lib.hid ha0
  clear hn0 ha0
  have HN1 := Lib.hid hn1
  have HA1 := Lib.hid ha1
  clear hn1 ha1
  go_enter Try.func6, Try.ntmps6
  go_wp2_with fail
  refine (szPicS_ok _ _ _ ps0 _ _ HN0.out (by exact (HA0.out.below (Below.refl _ _))) (by omega) (by omega)).mono ?_
  rintro e w1 ⟨rfl, hb⟩
  have HB1 := Lib.hid (bTrans (Below.refl _ _) hb)
  have HZ1 : Hid (w.heap.size + 0 ≤ w1.heap.size) := Lib.hid (by have := hb.size; (try simp at this); omega)
  clear hb
  go_wp2_with fail
  refine (toPicS _ _ _ ps0 _ HN0.out (by exact (HA0.out.below HB1.out)) (by omega) (lenV_ink (by omega))).mono ?_
  rintro e w2 ⟨gs0, Qs0, rfl, ho, hs, hb⟩
  have HB2 := Lib.hid (bTrans HB1.out hb)
  have HZ2 : Hid (w1.heap.size + 0 ≤ w2.heap.size) := Lib.hid (by have := hb.size; (try simp at this); omega)
  have K2_s0 := Lib.hid (OwnV.mono (B' := w1.heap.size + 0) ho (by first | (simp; done) | (simp; omega)))
  have R2_s0 := Lib.hid K2_s0.out.bd
  clear hb ho
  have E_s0 : Hid (picsV Qs0 = picsV ps0) := Lib.hid hs.pics
  have i_s0 : inkV Qs0 ≤ 1048576 := by have := hs.ink; omega
  have z_s0 : sizeV Qs0 ≤ 4000000 := by have := hs.ink; have := K2_s0.out.len; rw [sizeV_ink]; omega
  clear hs
  go_wp2_with fail
  refine (toInts _ _ _ xs1 _ HN1.out (by exact (HA1.out.below HB2.out)) (by omega)).mono ?_
  rintro e w3 ⟨rfl, ho, hb⟩
  have HB3 := Lib.hid (bTrans HB2.out hb)
  have HZ3 : Hid (w2.heap.size + 0 ≤ w3.heap.size) := Lib.hid (by have := hb.size; (try simp at this); omega)
  have K3_s0 := Lib.hid (K2_s0.out.below' hb)
  clear K2_s0
  have K3_s1 := Lib.hid (OwnA.mono (B' := w2.heap.size + 0) (OwnA.mk ho (Nat.le_refl _)) (by first | (simp; done) | (simp; omega)))
  have R3_s1 := Lib.hid K3_s1.out.bd
  clear hb ho
  go_wp2_with fail
  have C4 := Lib.hid (spec_BlendOf (some ⟨gs0, 0, none⟩) n0 n0 Qs0 _ n1 n1 xs1 w3 K3_s0.out.len (by exact K3_s0.out.rd) (by omega) (lenV_ink (M := 1048576) (by omega)) HN1.out (by exact K3_s1.out.rd) (by omega))
  rw [E_s0.out] at C4
  refine C4.out.mono ?_
  clear K3_s0
  clear K3_s1
  rintro e w4 ⟨rfl, hb⟩
  have HB4 := Lib.hid (bTrans HB3.out hb)
  have HZ4 : Hid (w3.heap.size + 0 ≤ w4.heap.size) := Lib.hid (by have := hb.size; (try simp at this); omega)
  clear hb
  go_wp2_with fail
  refine (toPicS _ _ _ ps0 _ HN0.out (by exact (HA0.out.below HB4.out)) (by omega) (lenV_ink (by omega))).mono ?_
  rintro e w5 ⟨gx0, Qx0, rfl, ho, hs, hb⟩
  have HB5 := Lib.hid (bTrans HB4.out hb)
  have HZ5 : Hid (w4.heap.size + 0 ≤ w5.heap.size) := Lib.hid (by have := hb.size; (try simp at this); omega)
  have K5_x0 := Lib.hid (OwnV.mono (B' := w4.heap.size + 0) ho (by first | (simp; done) | (simp; omega)))
  have R5_x0 := Lib.hid K5_x0.out.bd
  clear hb ho
  have E_x0 : Hid (picsV Qx0 = picsV ps0) := Lib.hid hs.pics
  have i_x0 : inkV Qx0 ≤ 1048576 := by have := hs.ink; omega
  have z_x0 : sizeV Qx0 ≤ 4000000 := by have := hs.ink; have := K5_x0.out.len; rw [sizeV_ink]; omega
  clear hs
  go_wp2_with fail
  refine (toInts _ _ _ xs1 _ HN1.out (by exact (HA1.out.below HB5.out)) (by omega)).mono ?_
  rintro e w6 ⟨rfl, ho, hb⟩
  have HB6 := Lib.hid (bTrans HB5.out hb)
  have HZ6 : Hid (w5.heap.size + 0 ≤ w6.heap.size) := Lib.hid (by have := hb.size; (try simp at this); omega)
  have K6_x0 := Lib.hid (K5_x0.out.below' hb)
  clear K5_x0
  have K6_x1 := Lib.hid (OwnA.mono (B' := w5.heap.size + 0) (OwnA.mk ho (Nat.le_refl _)) (by first | (simp; done) | (simp; omega)))
  have R6_x1 := Lib.hid K6_x1.out.bd
  clear hb ho
  go_wp2_with fail
  have C7 := Lib.hid (impl_BlendOf (some ⟨gx0, 0, none⟩) n0 n0 Qx0 _ n1 n1 xs1 w6 K6_x0.out.len (by exact K6_x0.out.rd) (by omega) (lenV_ink (M := 1048576) (by omega)) HN1.out (by exact K6_x1.out.rd) (by omega))
  rw [E_x0.out] at C7
  refine C7.out.mono ?_
  rintro e w7 ⟨rfl, hb⟩
  have HB7 := Lib.hid (bTrans HB6.out hb)
  have HZ7 : Hid (w6.heap.size + 0 ≤ w7.heap.size) := Lib.hid (by have := hb.size; (try simp at this); omega)
  have K7_x0 := Lib.hid (K6_x0.out.below' hb)
  clear K6_x0
  have K7_x1 := Lib.hid (K6_x1.out.below' hb)
  clear K6_x1
  clear hb
  go_wp2_with fail
  refine (toPicS _ _ _ ps0 _ HN0.out (by exact (HA0.out.below HB7.out)) (by omega) (lenV_ink (by omega))).mono ?_
  rintro e w8 ⟨gt0, Qt0, rfl, ho, hs, hb⟩
  have HB8 := Lib.hid (bTrans HB7.out hb)
  have HZ8 : Hid (w7.heap.size + 0 ≤ w8.heap.size) := Lib.hid (by have := hb.size; (try simp at this); omega)
  have K8_x0 := Lib.hid (K7_x0.out.below' hb)
  clear K7_x0
  have K8_x1 := Lib.hid (K7_x1.out.below' hb)
  clear K7_x1
  have K8_t0 := Lib.hid (OwnV.mono (B' := w7.heap.size + 0) ho (by first | (simp; done) | (simp; omega)))
  have R8_t0 := Lib.hid K8_t0.out.bd
  clear hb ho
  have E_t0 : Hid (picsV Qt0 = picsV ps0) := Lib.hid hs.pics
  have i_t0 : inkV Qt0 ≤ 1048576 := by have := hs.ink; omega
  have z_t0 : sizeV Qt0 ≤ 4000000 := by have := hs.ink; have := K8_t0.out.len; rw [sizeV_ink]; omega
  clear hs
  go_wp2_with fail
  have C9 := Lib.hid (eqPicS (some ⟨gx0, 0, none⟩) (some ⟨gt0, 0, none⟩) _ _ n0 n0 Qx0 Qt0 w8 K8_x0.out.len K8_t0.out.len (by exact K8_x0.out.rd) (by exact K8_t0.out.rd) (by omega) (by omega) (lenV_ink (by omega)) (lenV_ink (by omega)))
  rw [decide_eq_true (E_x0.out.trans E_t0.out.symm)] at C9
  refine C9.out.mono ?_
  rintro e w9 ⟨rfl, hb⟩
  have HB9 := Lib.hid (bTrans HB8.out hb)
  have HZ9 : Hid (w8.heap.size + 0 ≤ w9.heap.size) := Lib.hid (by have := hb.size; (try simp at this); omega)
  have K9_x0 := Lib.hid (K8_x0.out.below' hb)
  clear K8_x0
  have K9_x1 := Lib.hid (K8_x1.out.below' hb)
  clear K8_x1
  have K9_t0 := Lib.hid (K8_t0.out.below' hb)
  clear K8_t0
  clear hb
  go_wp2_with fail
  clear K9_t0
  refine (toInts _ _ _ xs1 _ HN1.out (by exact (HA1.out.below HB9.out)) (by omega)).mono ?_
  rintro e w10 ⟨rfl, ho, hb⟩
  have HB10 := Lib.hid (bTrans HB9.out hb)
  have HZ10 : Hid (w9.heap.size + 0 ≤ w10.heap.size) := Lib.hid (by have := hb.size; (try simp at this); omega)
  have K10_x0 := Lib.hid (K9_x0.out.below' hb)
  clear K9_x0
  have K10_x1 := Lib.hid (K9_x1.out.below' hb)
  clear K9_x1
  have K10_t1 := Lib.hid (OwnA.mono (B' := w9.heap.size + 0) (OwnA.mk ho (Nat.le_refl _)) (by first | (simp; done) | (simp; omega)))
  have R10_t1 := Lib.hid K10_t1.out.bd
  clear hb ho
  go_wp2_with fail
  refine (eqIntsB _ _ _ _ _ _ _ _ _ K10_x1.out.len K10_t1.out.len (by exact K10_x1.out.rd) (by exact K10_t1.out.rd) (by omega) (by omega)).mono ?_
  rintro e w11 ⟨rfl, hb⟩
  have HB11 := Lib.hid (bTrans HB10.out hb)
  have HZ11 : Hid (w10.heap.size + 0 ≤ w11.heap.size) := Lib.hid (by have := hb.size; (try simp at this); omega)
  have K11_x0 := Lib.hid (K10_x0.out.below' hb)
  clear K10_x0
  have K11_x1 := Lib.hid (K10_x1.out.below' hb)
  clear K10_x1
  have K11_t1 := Lib.hid (K10_t1.out.below' hb)
  clear K10_t1
  clear hb
  go_wp2_with fail
  clear K11_t1
  go_ret
  exact ⟨rfl, HB11.out⟩

set_option maxRecDepth 100000 in
theorem lifted (os : Os) (started : os.Started) (H : Type) (enc : TypeId × Value → H) :
    ReturnsInHanded {} Try.checked os 6 .any (Rows.fnExactBlendOfSpec.pre6 enc Try.prog Try.f6 Rows.fnExactBlendOfRow.domain false) (Rows.fnExactBlendOfSpec.post enc Try.prog Try.f6 false true false false) := by
  refine returnsInHanded_of_change (C := Try.checked) own started (by kernel_rfl) Try.func6
    (ChangeSpec.witness6 (enc := enc) (C := Try.checked) false ⟨#[], #[.slice none 0 0, .slice none 0 0], []⟩ 8 (by kernel_rfl) (by kernel_rfl) (by kernel_rfl) (by kernel_rfl)) ?_
  intro W base args ds gs before hval0 hW hcnd _
  have hval : ∀ (j : Nat) t v, Try.f6.params[j]? = some t → args[j]? = some v → Value.okWide Try.prog W .any base t v := hval0
  have hW' := hW
  have hlt := hW.lt
  obtain ⟨p, q, hA0, hV, rfl, hfz, hnd⟩ := hW
  have hA : DataW.TrodAll enc Try.prog W 0 (fun _ => true) true Try.f6.params.toList args.toList ds p := hA0
  rw [Try.params6] at hA hval
  obtain ⟨v0, vs0, d0, ds0, p0, q0, hargs, rfl, rfl, h0, r0⟩ := trodAll_cons hA
  obtain ⟨v1, vs1, d1, ds1, p1, q1, rfl, rfl, rfl, h1, r1⟩ := trodAll_cons r0
  obtain ⟨rfl, rfl, rfl⟩ := trodAll_nil r1
  obtain rfl : args = #[v0, v1] := by cases args; simp_all
  obtain ⟨rfl, rfl⟩ := trodVars_none hV
  clear hA0 hval0
  obtain ⟨ad0, n0, cap0, ps0, rfl, hn0, hr0, hl0, hq0⟩ := open_lpics (hval 0 22 v0 rfl rfl) h0 (fun x hx => hlt x (by simp [hx]))
  obtain ⟨ad1, n1, cap1, xs1, rfl, hn1, hr1, hl1, hx1⟩ := open_lintsP (hval 1 31 v1 rfl rfl) h1 (fun x hx => hlt x (by simp [hx]))
  have fin : ∀ (e : Ending) W', (e = .returned (.bool true) ∧ Below W.heap.size W W') → ∃ v, e = .returned v ∧ Rows.fnExactBlendOfSpec.post enc Try.prog Try.f6 false true false false W #[.slice ad0 n0 cap0, .slice ad1 n1 cap1] v W' := by
    rintro e W' ⟨rfl, hb⟩
    exact ⟨_, rfl, law_post rfl rfl hW' (by kernel_rfl) rfl hb⟩
  by_cases b1 : (n1 : Int) ≤ 1048576
  case neg => exact (no1 ad0 n0 cap0 ps0 ad1 n1 cap1 xs1 W  (by omega) hl1).mono fin
  case pos =>
    by_cases b0 : (n0 : Int) + (inkV ps0 : Int) ≤ 1048576
    case neg => exact (no0 ad0 n0 cap0 ps0 ad1 n1 cap1 xs1 W b1 hn0 hr0 (by omega) hl0 hq0).mono fin
    case pos =>
      exact (ok ad0 n0 cap0 ps0 ad1 n1 cap1 xs1 W hn0 hr0 hn1 hr1 b1 b0).mono fin

theorem proved : Rows.FnExactBlendOfSaid :=
  OpenClaim.holds_of_wide 6 Try.f6 rfl rfl rfl rfl rfl rfl rfl ⟨rfl, rfl, rfl, rfl, rfl⟩ rfl rfl rfl rfl rfl (by kernel_rfl) Try.func6 (by kernel_rfl)
    (of_decide_eq_true (by kernel_rfl)) (by unfold Func.isWrapper; first | (rw [if_pos (by decide +kernel)]; kernel_rfl) | (rw [if_neg (by decide +kernel)]; exact ⟨rfl, rfl⟩))
    (fun os started H enc _ => lifted os started H enc)
end Go.Proofs.Ythokmanjiebimaa.xBlendOf
