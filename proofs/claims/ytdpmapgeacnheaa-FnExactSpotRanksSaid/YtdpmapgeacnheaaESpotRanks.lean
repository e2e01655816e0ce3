/-
  The exact law of SpotRanks: the walk, and the row. laws.FnExactSpotRanks returns true for every input: the program answers as the model does. No conditions.
-/
import Derived.Test.YtdpmapgeacnheaaN15
import Derived.Test.YtdpmapgeacnheaaN16
import Derived.Test.YtdpmapgeacnheaaCut
import Derived.Test.YtdpmapgeacnheaaFrameL
namespace Go.Proofs.Ytdpmapgeacnheaa.xSpotRanks
open Go.ChangeShapes Go.WideShapes Go.ChangeAt Go.RowKit
set_option linter.unusedVariables false
set_option linter.unusedSimpArgs false

/-- What SpotRanks answers: a list of the call's own. -/
def Says (f : Nat) (A B : Int) (xs : List Int) : Prop := ∀ w, Calls Try.prog f #[.agg #[.int .i64 A, .int .i64 B]] w fun e w' => ∃ (a : Option Addr) (n c : Nat), e = .returned (.slice a n c) ∧ OwnA w' w.heap.size a n c xs ∧ n ≤ 288 ∧ Below w.heap.size w w'

theorem both (A B : Int) : ∃ xs : List Int, Says 30 A B xs ∧ Says 31 A B xs := by
  by_cases hok : latOk A B = true
  · obtain ⟨n, g, d, a, b, p, q, L⟩ := lat_of hok
    have n1 := L.n1; have n2 := L.n2
    obtain ⟨N, rfl⟩ : ∃ N : Nat, n = N := ⟨n.toNat, by omega⟩
    exact ⟨ranksL (nearK A B d) N, fun w => (spec_SpotRanks_yes L w).mono (fun e w' ⟨a3, c3, h1, h2, h3⟩ => ⟨a3, N, c3, h1, h2, by omega, h3⟩), fun w => (impl_SpotRanks_yes L w).mono (fun e w' ⟨nb, h1, h2, h3, h4⟩ => ⟨_, N, N, h1, OwnA.mk h3 h2, by omega, h4⟩)⟩
  · have ho : latOk A B = false := by simpa using hok
    exact ⟨[], fun w => (spec_SpotRanks_no ho w).mono (fun e w' ⟨h1, h2⟩ => ⟨none, 0, 0, h1, OwnA.none _ _, by omega, h2⟩), fun w => (impl_SpotRanks_no ho w).mono (fun e w' ⟨h1, h2⟩ => ⟨none, 0, 0, h1, OwnA.none _ _, by omega, h2⟩)⟩

set_option maxRecDepth 100000 in
set_option maxHeartbeats 1600000 in
theorem ok (A B : Int) (w : World) (hA : InI A) (hB : InI B) :
    Calls Try.prog 10 #[.agg #[.int .i64 A, .int .i64 B]] w fun e w' => e = .returned (.bool true) ∧ Below w.heap.size w w' := by
  obtain ⟨xs, hs, hi⟩ := both A B
  have HS := Lib.hid hs
  have HI := Lib.hid hi
  clear hs hi hA hB
  go_enter Try.func10, Try.ntmps10
  go_wp2_with fail
  refine (toLat _ _ _).mono ?_
  rintro e w1 ⟨rfl, hb⟩
  have HB1 := Lib.hid (bTrans (Joins.below_alloc1 _ _) hb)
  have HZ1 : Hid (w.heap.size + 1 ≤ w1.heap.size) := Lib.hid (by have := hb.size; simp at this; omega)
  have K1_KB := Lib.hid ((Blk.new w 23 #[.int .i64 A, .int .i64 B]).below' hb)
  try clear z c0 c1
  obtain ⟨z, c0, c1⟩ := K1_KB.out.c2
  clear hb
  go_wp2_with fail
  refine (HS.out _).mono ?_
  rintro e w2 ⟨a0, n0, q0, rfl, ho, hn0, hb⟩
  have HB2 := Lib.hid (bTrans HB1.out hb)
  have HZ2 : Hid (w1.heap.size ≤ w2.heap.size) := Lib.hid hb.size
  have K2_KB := Lib.hid (K1_KB.out.below' hb)
  clear K1_KB
  have K2_s0 := Lib.hid ho
  have R2_s0 := Lib.hid ho.bd
  clear ho
  try clear z c0 c1
  obtain ⟨z, c0, c1⟩ := K2_KB.out.c2
  clear hb
  go_wp2_with fail
  refine (toLat _ _ _).mono ?_
  rintro e w3 ⟨rfl, hb⟩
  have HB3 := Lib.hid (bTrans HB2.out hb)
  have HZ3 : Hid (w2.heap.size ≤ w3.heap.size) := Lib.hid hb.size
  have K3_KB := Lib.hid (K2_KB.out.below' hb)
  clear K2_KB
  have K3_s0 := Lib.hid (K2_s0.out.below' hb)
  clear K2_s0
  try clear z c0 c1
  obtain ⟨z, c0, c1⟩ := K3_KB.out.c2
  clear hb
  go_wp2_with fail
  refine (HI.out _).mono ?_
  rintro e w4 ⟨a1, n1, q1, rfl, ho, hn1, hb⟩
  have HB4 := Lib.hid (bTrans HB3.out hb)
  have HZ4 : Hid (w3.heap.size ≤ w4.heap.size) := Lib.hid hb.size
  have K4_KB := Lib.hid (K3_KB.out.below' hb)
  clear K3_KB
  have K4_s0 := Lib.hid (K3_s0.out.below' hb)
  clear K3_s0
  have K4_g0 := Lib.hid ho
  have R4_g0 := Lib.hid ho.bd
  clear ho
  try clear z c0 c1
  obtain ⟨z, c0, c1⟩ := K4_KB.out.c2
  clear hb
  go_wp2_with fail
  refine (eqIntsB _ _ _ _ _ _ xs xs _ K4_g0.out.len K4_s0.out.len K4_g0.out.rd K4_s0.out.rd (by omega) (by omega)).mono ?_
  rw [decide_eq_true rfl]
  rintro e w5 ⟨rfl, hb⟩
  have HB5 := Lib.hid (bTrans HB4.out hb)
  have HZ5 : Hid (w4.heap.size ≤ w5.heap.size) := Lib.hid hb.size
  have K5_KB := Lib.hid (K4_KB.out.below' hb)
  clear K4_KB
  have K5_s0 := Lib.hid (K4_s0.out.below' hb)
  clear K4_s0
  have K5_g0 := Lib.hid (K4_g0.out.below' hb)
  clear K4_g0
  try clear z c0 c1
  obtain ⟨z, c0, c1⟩ := K5_KB.out.c2
  clear hb
  go_wp2_with fail
  refine (markInts _ a1 n1 q1 1 xs _ K5_g0.out (by omega) (by omega)).mono ?_
  rintro e w6 ⟨rfl, ho, hb⟩
  have HB6 := Lib.hid (Below.grown HB5.out hb HB5.out.size (by intro b hb1; have := R4_g0.out b hb1; have := HZ1.out; have := HZ2.out; have := HZ3.out; have := HZ4.out; have := HZ5.out; omega))
  have HZ6 : Hid (w5.heap.size ≤ w6.heap.size) := Lib.hid hb.size
  have K6_s0 := Lib.hid (K5_s0.out.grownS hb (by intro b hb1 hb2; have := R4_g0.out b hb1; have := R2_s0.out b hb2; have := HZ1.out; have := HZ2.out; have := HZ3.out; have := HZ4.out; have := HZ5.out; omega))
  have K6_KB := Lib.hid (K5_KB.out.grownS hb (by intro b hb1; have := R4_g0.out b hb1; have := HZ1.out; have := HZ2.out; have := HZ3.out; have := HZ4.out; have := HZ5.out; omega))
  have K6_g0 := Lib.hid ho
  try clear z c0 c1
  obtain ⟨z, c0, c1⟩ := K6_KB.out.c2
  clear ho hb
  have qm : ((1 : Int) + (n1 : Int) != 1 + (n1 : Int)) = false := by simp
  go_wp2_with fail
  refine (heldIntsB a1 n1 q1 1 _ K6_g0.out.rd (by omega) (by omega)).mono ?_
  rintro e w7 ⟨rfl, hb⟩
  have HB7 := Lib.hid (bTrans HB6.out hb)
  have HZ7 : Hid (w6.heap.size ≤ w7.heap.size) := Lib.hid hb.size
  have K7_KB := Lib.hid (K6_KB.out.below' hb)
  clear K6_KB
  have K7_s0 := Lib.hid (K6_s0.out.below' hb)
  clear K6_s0
  have K7_g0 := Lib.hid (K6_g0.out.below' hb)
  clear K6_g0
  try clear z c0 c1
  obtain ⟨z, c0, c1⟩ := K7_KB.out.c2
  clear hb
  go_wp2_with fail
  refine (toLat _ _ _).mono ?_
  rintro e w8 ⟨rfl, hb⟩
  have HB8 := Lib.hid (bTrans HB7.out hb)
  have HZ8 : Hid (w7.heap.size ≤ w8.heap.size) := Lib.hid hb.size
  have K8_KB := Lib.hid (K7_KB.out.below' hb)
  clear K7_KB
  have K8_s0 := Lib.hid (K7_s0.out.below' hb)
  clear K7_s0
  have K8_g0 := Lib.hid (K7_g0.out.below' hb)
  clear K7_g0
  try clear z c0 c1
  obtain ⟨z, c0, c1⟩ := K8_KB.out.c2
  clear hb
  go_wp2_with fail
  refine (HI.out _).mono ?_
  rintro e w9 ⟨a2, n2, q2, rfl, ho, hn2, hb⟩
  have HB9 := Lib.hid (bTrans HB8.out hb)
  have HZ9 : Hid (w8.heap.size ≤ w9.heap.size) := Lib.hid hb.size
  have K9_KB := Lib.hid (K8_KB.out.below' hb)
  clear K8_KB
  have K9_s0 := Lib.hid (K8_s0.out.below' hb)
  clear K8_s0
  have K9_g0 := Lib.hid (K8_g0.out.below' hb)
  clear K8_g0
  have K9_h0 := Lib.hid ho
  have R9_h0 := Lib.hid ho.bd
  clear ho
  try clear z c0 c1
  obtain ⟨z, c0, c1⟩ := K9_KB.out.c2
  clear hb
  go_wp2_with fail
  refine (eqIntsB _ _ _ _ _ _ xs xs _ K9_h0.out.len K9_s0.out.len K9_h0.out.rd K9_s0.out.rd (by omega) (by omega)).mono ?_
  rw [decide_eq_true rfl]
  rintro e w10 ⟨rfl, hb⟩
  have HB10 := Lib.hid (bTrans HB9.out hb)
  have HZ10 : Hid (w9.heap.size ≤ w10.heap.size) := Lib.hid hb.size
  have K10_KB := Lib.hid (K9_KB.out.below' hb)
  clear K9_KB
  have K10_s0 := Lib.hid (K9_s0.out.below' hb)
  clear K9_s0
  have K10_g0 := Lib.hid (K9_g0.out.below' hb)
  clear K9_g0
  have K10_h0 := Lib.hid (K9_h0.out.below' hb)
  clear K9_h0
  try clear z c0 c1
  obtain ⟨z, c0, c1⟩ := K10_KB.out.c2
  clear hb
  go_wp2_with fail
  refine (heldIntsB a1 n1 q1 1 _ K10_g0.out.rd (by omega) (by omega)).mono ?_
  rintro e w11 ⟨rfl, hb⟩
  have HB11 := Lib.hid (bTrans HB10.out hb)
  have HZ11 : Hid (w10.heap.size ≤ w11.heap.size) := Lib.hid hb.size
  have K11_KB := Lib.hid (K10_KB.out.below' hb)
  clear K10_KB
  have K11_s0 := Lib.hid (K10_s0.out.below' hb)
  clear K10_s0
  have K11_g0 := Lib.hid (K10_g0.out.below' hb)
  clear K10_g0
  have K11_h0 := Lib.hid (K10_h0.out.below' hb)
  clear K10_h0
  try clear z c0 c1
  obtain ⟨z, c0, c1⟩ := K11_KB.out.c2
  clear hb
  go_wp2_with fail
  go_ret
  exact ⟨rfl, HB11.out⟩

set_option maxRecDepth 100000 in
theorem lifted (os : Os) (started : os.Started) (H : Type) (enc : TypeId × Value → H) :
    ReturnsInHanded {} Try.checked os 10 .any (Rows.fnExactSpotRanksSpec.pre6 enc Try.prog Try.f10 Rows.fnExactSpotRanksRow.domain false) (Rows.fnExactSpotRanksSpec.post enc Try.prog Try.f10 false true false false) := by
  refine returnsInHanded_of_change (C := Try.checked) own started (by kernel_rfl) Try.func10
    (ChangeSpec.witness6 (enc := enc) (C := Try.checked) false ⟨#[], #[.agg #[.int .i64 0, .int .i64 0]], []⟩ 8 (by kernel_rfl) (by kernel_rfl) (by kernel_rfl) (by kernel_rfl)) ?_
  intro W base args ds gs before hval0 hW hcnd _
  have hval : ∀ (j : Nat) t v, Try.f10.params[j]? = some t → args[j]? = some v → Value.okWide Try.prog W .any base t v := hval0
  have hW' := hW
  have hlt := hW.lt
  obtain ⟨p, q, hA0, hV, rfl, hfz, hnd⟩ := hW
  have hA : DataW.TrodAll enc Try.prog W 0 (fun _ => true) true Try.f10.params.toList args.toList ds p := hA0
  rw [Try.params10] at hA hval
  obtain ⟨v0, vs0, d0, ds0, p0, q0, hargs, rfl, rfl, h0, r0⟩ := trodAll_cons hA
  obtain ⟨rfl, rfl, rfl⟩ := trodAll_nil r0
  obtain rfl : args = #[v0] := by cases args; simp_all
  obtain ⟨rfl, rfl⟩ := trodVars_none hV
  clear hA0 hval0
  obtain ⟨A, B, rfl, wA, wB⟩ := open_llat (hval 0 23 v0 rfl rfl) h0
  have fin : ∀ (e : Ending) W', (e = .returned (.bool true) ∧ Below W.heap.size W W') → ∃ v, e = .returned v ∧ Rows.fnExactSpotRanksSpec.post enc Try.prog Try.f10 false true false false W #[.agg #[.int .i64 A, .int .i64 B]] v W' := by
    rintro e W' ⟨rfl, hb⟩
    exact ⟨_, rfl, law_post rfl rfl hW' (by kernel_rfl) rfl hb⟩
  exact (ok A B W wA wB).mono fin

theorem proved : Rows.FnExactSpotRanksSaid :=
  OpenClaim.holds_of_wide 10 Try.f10 rfl rfl rfl rfl rfl rfl rfl ⟨rfl, rfl, rfl, rfl, rfl⟩ rfl rfl rfl rfl rfl (by kernel_rfl) Try.func10 (by kernel_rfl)
    (of_decide_eq_true (by kernel_rfl)) (by unfold Func.isWrapper; first | (rw [if_pos (by decide +kernel)]; kernel_rfl) | (rw [if_neg (by decide +kernel)]; exact ⟨rfl, rfl⟩))
    (fun os started H enc _ => lifted os started H enc)
end Go.Proofs.Ytdpmapgeacnheaa.xSpotRanks
