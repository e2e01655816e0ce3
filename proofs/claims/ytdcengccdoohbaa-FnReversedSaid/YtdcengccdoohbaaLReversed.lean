/-
  FnReversed: of any matrix that is drawn, the reversed one is a matrix, reversed again it is the matrix itself, and its cells below a level are those that are not below the opposite level: the law returns true for every code. No conditions.
-/
import Derived.Test.YtdcengccdoohbaaR8
import Derived.Test.YtdcengccdoohbaaFrameB
import Derived.Deep.RegionHeld3
namespace Go.Proofs.Ytdcengccdoohbaa.lReversed
open Go.ChangeShapes Go.WideShapes Go.ChangeAt Go.RowKit
set_option linter.unusedVariables false
set_option linter.unusedSimpArgs false
attribute [local go_sem ↓] Go.wp_at_zero Go.wp_at_succ

set_option maxHeartbeats 3200000 in
theorem ok (ad0 : Option Addr) (n0 cap0 : Nat) (bs0 : List Int) (w : World) (hn0 : bs0.length = n0) (hr0 : RdU w.heap.size w ad0 bs0) (hs0 : n0 ≤ 1048576) :
    Calls Try.prog 9 #[.slice ad0 n0 cap0] w fun e w' => e = .returned (.bool true) ∧ Below w.heap.size w w' := by
  have HL := Lib.hid hn0
  have HC := Lib.hid hr0
  clear hn0 hr0
  go_enter Try.func9, Try.ntmps9
  go_wp2_with fail
  refine (spec_MakeMatrix ad0 n0 cap0 bs0 _ HL.out (by exact HC.out) (by omega)).mono ?_
  rintro e w1 ⟨W, H, a, n, cp, xs, rfl, mk, mw, mh, ho, hb⟩
  obtain ⟨m1, m2, m3, m4⟩ := matOk_bd ho.len mk
  obtain ⟨b1, b2, b3, b4, b5, b6⟩ := matSize_bd m1
  have hn1 : 1 ≤ n := by omega
  have hn2 : n ≤ 256 := by omega
  have MK := Lib.hid mk
  have HX := Lib.hid ho.len
  have HB1 := Lib.hid hb
  have RD2 := Lib.hid (ho.rd.alloc (.cells #[.int .i64 W, .int .i64 H, .slice a n cp] 42))
  have KM2 := Lib.hid (Blk.new w1 42 #[.int .i64 W, .int .i64 H, .slice a n cp])
  have HB2 := Lib.hid (bAlloc HB1.out (.cells #[.int .i64 W, .int .i64 H, .slice a n cp] 42))
  clear mk ho hb m1 m2 m3 m4 b5 b6
  go_wp2_with fail
  refine (rev_call W H a n cp xs _ HX.out (by exact RD2.out) MK.out (by omega)).mono ?_
  rintro e w3 ⟨a3, n3, c3, rfl, ho3, hn3, hb3⟩
  have HB3 := Lib.hid (bAlloc (bTrans HB2.out hb3) (.cells #[.int .i64 W, .int .i64 H, .slice a3 n3 c3] 42))
  have RD3 := Lib.hid ((RD2.out.below hb3).alloc (.cells #[.int .i64 W, .int .i64 H, .slice a3 n3 c3] 42))
  have KM3 := Lib.hid ((KM2.out.below' hb3).alloc (.cells #[.int .i64 W, .int .i64 H, .slice a3 n3 c3] 42))
  have LR := Lib.hid ho3.len
  have RR3 := Lib.hid (ho3.rd.alloc (.cells #[.int .i64 W, .int .i64 H, .slice a3 n3 c3] 42))
  have KR3 := Lib.hid (Blk.new w3 42 #[.int .i64 W, .int .i64 H, .slice a3 n3 c3])
  have HNN : Hid (n3 = n) := Lib.hid (by have := HX.out; have := LR.out; simp at this; omega)
  have hn3b : n3 ≤ 256 := by have := HNN.out; omega
  clear ho3 hb3
  obtain ⟨l3, o0, o1, o2⟩ := KM3.out.c3
  obtain ⟨l4, p0, p1, p2⟩ := KR3.out.c3
  go_wp2_with fail
  go_region_held3 (fun v => v.cell? ⟨w1.heap.size, 0, none⟩ = some (.int .i64 W) ∧ v.cell? ⟨w1.heap.size, 1, none⟩ = some (.int .i64 H) ∧ v.cell? ⟨w1.heap.size, 2, none⟩ = some (.slice a n cp) ∧ v.cell? ⟨w3.heap.size, 0, none⟩ = some (.int .i64 W) ∧ v.cell? ⟨w3.heap.size, 1, none⟩ = some (.int .i64 H) ∧ v.cell? ⟨w3.heap.size, 2, none⟩ = some (.slice a3 n3 c3))
    (first | exact ⟨o0, o1, o2, p0, p1, p2⟩ | exact ⟨z0, z1, z2, y0, y1, y2⟩)
    (first
      | (go_at_call 35; ((with_reducible refine (isM_call W H a3 n3 c3 (xs.map (fun v => (n : Int) - 1 - v)) _ LR.out (by exact RR3.out.drew) (rev_ok HX.out MK.out).2.1 (by omega)).mono ?_); rintro e v1 ⟨rfl, hq⟩; have HBq := Lib.hid (bTrans HB3.out.drew hq); have RDq := Lib.hid (RD3.out.drew.below hq); have RRq := Lib.hid (RR3.out.drew.below hq); have KMq := Lib.hid (KM3.out.drew.below' hq); have KRq := Lib.hid (KR3.out.drew.below' hq); obtain ⟨lz, z0, z1, z2⟩ := KMq.out.c3; obtain ⟨ly, y0, y1, y2⟩ := KRq.out.c3))
      | (go_at_call 41; ((with_reducible refine (rev_call W H a3 n3 c3 (xs.map (fun v => (n : Int) - 1 - v)) _ LR.out (by exact RRq.out) (rev_ok HX.out MK.out).2.1 (by omega)).mono ?_); rintro e v2 ⟨a5, n5, c5, rfl, ho5, hn5, hq⟩; have HB5 := Lib.hid (bTrans HBq.out hq); have RD5 := Lib.hid (RDq.out.below hq); have RR5 := Lib.hid (RRq.out.below hq); have KM5 := Lib.hid (KMq.out.below' hq); have KR5 := Lib.hid (KRq.out.below' hq); have RS5 := Lib.hid ho5.rd; have LS := Lib.hid ho5.len; obtain ⟨lz, z0, z1, z2⟩ := KM5.out.c3; obtain ⟨ly, y0, y1, y2⟩ := KR5.out.c3))
      | (go_at_call 39; ((with_reducible refine (alike_call W H a5 n5 c5 _ a n cp xs _ LS.out (by exact RS5.out) (by omega) HX.out (by exact RD5.out) (by omega) (by rw [HNN.out]; exact (rev_ok HX.out MK.out).2.2)).mono ?_); rintro e v3 ⟨rfl, hq⟩; have HB6 := Lib.hid (bTrans HB5.out hq); have RD6 := Lib.hid (RD5.out.below hq); have RR6 := Lib.hid (RR5.out.below hq); have KM6 := Lib.hid (KM5.out.below' hq); have KR6 := Lib.hid (KR5.out.below' hq); obtain ⟨lz, z0, z1, z2⟩ := KM6.out.c3; obtain ⟨ly, y0, y1, y2⟩ := KR6.out.c3)))
  go_wp2_with fail
  have hn0' : ((n : Int) + 1 == 0) = false := by simp; omega
  have hn1' : ¬ (n : Int) + 1 = 0 := by omega
  have hw1 : IntKind.i64.wrap ((n : Int) + 1) = (n : Int) + 1 := IntWalk.i64_in _ (by omega)
  go_region_held3 (fun v => v.cell? ⟨w1.heap.size, 2, none⟩ = some (.slice a n cp))
    (first | exact z2)
    (first
      | (go_at_call 15; ((with_reducible refine (at_call w.heap.size ad0 n0 cap0 bs0 1 _ HL.out (by exact (HC.out.below HB6.out.drew)) hs0 (by omega) (by omega)).mono ?_); rintro e v4 ⟨vl, rfl, hvl, rfl⟩)))
  clear hw1 hn0' hn1'
  have HB7 := Lib.hid HB6.out.drew
  have RD7 := Lib.hid RD6.out.drew
  have RR7 := Lib.hid RR6.out.drew
  have KM7 := Lib.hid KM6.out.drew
  have KR7 := Lib.hid KR6.out.drew
  have lv0 : 0 ≤ (vl : Int) % ((n : Int) + 1) := Int.emod_nonneg _ (by omega)
  have lv1 : (vl : Int) % ((n : Int) + 1) < (n : Int) + 1 := Int.emod_lt_of_pos _ (by omega)
  obtain ⟨L, hL⟩ : ∃ L : Nat, (vl : Int) % ((n : Int) + 1) = (L : Int) := ⟨((vl : Int) % ((n : Int) + 1)).toNat, by omega⟩
  rw [hL] at lv0 lv1
  have hLn : L ≤ n := by omega
  have hT : (vl : Int).tmod ((n : Int) + 1) = (L : Int) := by rw [Int.tmod_eq_emod_of_nonneg (by omega)]; exact hL
  clear hL
  go_wp2_with fail
  try rw [hT]
  obtain ⟨ly, y0, y1, y2⟩ := KR7.out.c3
  obtain ⟨lz, z0, z1, z2⟩ := KM7.out.c3
  go_region_held3 (fun v => v.cell? ⟨w1.heap.size, 0, none⟩ = some (.int .i64 W) ∧ v.cell? ⟨w1.heap.size, 1, none⟩ = some (.int .i64 H) ∧ v.cell? ⟨w1.heap.size, 2, none⟩ = some (.slice a n cp) ∧ v.cell? ⟨w3.heap.size, 0, none⟩ = some (.int .i64 W) ∧ v.cell? ⟨w3.heap.size, 1, none⟩ = some (.int .i64 H) ∧ v.cell? ⟨w3.heap.size, 2, none⟩ = some (.slice a3 n3 c3))
    (first | exact ⟨z0, z1, z2, y0, y1, y2⟩)
    (first
      | (go_at_call 42; ((with_reducible refine (cells_call W H a3 n3 c3 (xs.map (fun v => (n : Int) - 1 - v)) L _ LR.out (by exact RR7.out.drew) (rev_ok HX.out MK.out).2.1 mw mh (by rw [HNN.out]; exact hLn) (by omega)).mono ?_); rintro e v5 ⟨a7, n7, c7, rfl, ho7, hn7, hq⟩; have HB8 := Lib.hid (bTrans HB7.out.drew hq); have RD8 := Lib.hid (RD7.out.drew.below hq); have KM8 := Lib.hid (KM7.out.drew.below' hq); have KR8 := Lib.hid (KR7.out.drew.below' hq); have RP8 := Lib.hid ho7.rd; have LP := Lib.hid ho7.len; obtain ⟨lz, z0, z1, z2⟩ := KM8.out.c3; obtain ⟨ly, y0, y1, y2⟩ := KR8.out.c3))
      | (go_at_call 44; ((with_reducible refine (below_call W H a n cp xs _ _ HX.out (by exact RD8.out) (by omega)).mono ?_); rintro e v6 ⟨a8, n8, c8, rfl, ho8, hn8, hq⟩; have HB9 := Lib.hid (bTrans HB8.out hq); have KM9 := Lib.hid (KM8.out.below' hq); have KR9 := Lib.hid (KR8.out.below' hq); have RP9 := Lib.hid (RP8.out.below hq); have RQ9 := Lib.hid ho8.rd; have LQ := Lib.hid ho8.len; obtain ⟨lz, z0, z1, z2⟩ := KM9.out.c3; obtain ⟨ly, y0, y1, y2⟩ := KR9.out.c3))
      | (go_at_call 43; ((with_reducible refine (neg_call W H a8 n8 c8 _ _ LQ.out (by exact RQ9.out) (cells_plate HX.out MK.out mw mh _) (by omega)).mono ?_); rintro e v7 ⟨a9, n9, c9, rfl, ho9, hn9, hq⟩; have HBa := Lib.hid (bTrans HB9.out hq); have KMa := Lib.hid (KM9.out.below' hq); have KRa := Lib.hid (KR9.out.below' hq); have RPa := Lib.hid (RP9.out.below hq); have RNa := Lib.hid ho9.rd; have LN := Lib.hid ho9.len; obtain ⟨lz, z0, z1, z2⟩ := KMa.out.c3; obtain ⟨ly, y0, y1, y2⟩ := KRa.out.c3))
      | (go_at_call 20; ((with_reducible refine (same_call W H a7 n7 c7 _ a9 n9 c9 _ _ LP.out (by exact RPa.out) (by omega) LN.out (by exact RNa.out) (by omega) (by rw [IntWalk.i64_in _ (by omega)]; exact rev_cells _)).mono ?_); rintro e v8 ⟨rfl, hq⟩; have HBb := Lib.hid (bTrans HBa.out hq); have KMb := Lib.hid (KMa.out.below' hq); have KRb := Lib.hid (KRa.out.below' hq); obtain ⟨lz, z0, z1, z2⟩ := KMb.out.c3; obtain ⟨ly, y0, y1, y2⟩ := KRb.out.c3)))
  go_wp2_with fail
  go_ret
  exact ⟨rfl, HBb.out⟩

set_option maxHeartbeats 400000 in
theorem big (ad0 : Option Addr) (n0 cap0 : Nat) (w : World) (h : 1048576 < n0) (hl : n0 ≤ 9223372036854775807) :
    Calls Try.prog 9 #[.slice ad0 n0 cap0] w fun e w' => e = .returned (.bool true) ∧ Below w.heap.size w w' := by
  have h2 : (1048576 : Int) < (n0 : Int) := by omega
  go_enter Try.func9, Try.ntmps9
  go_wp2_with fail
  go_ret
  exact ⟨rfl, Below.refl _ _⟩

set_option maxRecDepth 100000 in
theorem lifted (os : Os) (started : os.Started) (H : Type) (enc : TypeId × Value → H) :
    ReturnsInHanded {} Try.checked os 9 .any (Rows.fnReversedSpec.pre6 enc Try.prog Try.f9 Rows.fnReversedRow.domain false) (Rows.fnReversedSpec.post enc Try.prog Try.f9 false true false false) := by
  refine returnsInHanded_of_change (C := Try.checked) own started (by kernel_rfl) Try.func9
    (ChangeSpec.witness6 (enc := enc) (C := Try.checked) false ⟨#[], #[.slice none 0 0], []⟩ 8 (by kernel_rfl) (by kernel_rfl) (by kernel_rfl) (by kernel_rfl)) ?_
  intro W base args ds gs before hval0 hW hcnd _
  have hval : ∀ (j : Nat) t v, Try.f9.params[j]? = some t → args[j]? = some v → Value.okWide Try.prog W .any base t v := hval0
  have hW' := hW
  have hlt := hW.lt
  obtain ⟨p, q, hA0, hV, rfl, hfz, hnd⟩ := hW
  have hA : DataW.TrodAll enc Try.prog W 0 (fun _ => true) true Try.f9.params.toList args.toList ds p := hA0
  rw [Try.params9] at hA hval
  obtain ⟨v0, vs0, d0, ds0, p0, q0, hargs, rfl, rfl, h0, r0⟩ := trodAll_cons hA
  obtain ⟨rfl, rfl, rfl⟩ := trodAll_nil r0
  obtain rfl : args = #[v0] := by cases args; simp_all
  obtain ⟨rfl, rfl⟩ := trodVars_none hV
  clear hA0 hval0
  obtain ⟨ad0, n0, cap0, bs0, rfl, hn0, hr0, hl0⟩ := open_code (hval 0 22 v0 rfl rfl) h0 (fun x hx => hlt x (by simp [hx]))
  have fin : ∀ (e : Ending) W', (e = .returned (.bool true) ∧ Below W.heap.size W W') → ∃ v, e = .returned v ∧ Rows.fnReversedSpec.post enc Try.prog Try.f9 false true false false W #[.slice ad0 n0 cap0] v W' := by
    rintro e W' ⟨rfl, hb⟩
    exact ⟨_, rfl, law_post rfl rfl hW' (by kernel_rfl) rfl hb⟩
  by_cases hs0 : n0 ≤ 1048576
  case neg => exact (big ad0 n0 cap0 W (by omega) hl0).mono fin
  case pos => exact (ok ad0 n0 cap0 bs0 W hn0 hr0 hs0).mono fin

theorem proved : Rows.FnReversedSaid :=
  OpenClaim.holds_of_wide 9 Try.f9 rfl rfl rfl rfl rfl rfl rfl ⟨rfl, rfl, rfl, rfl, rfl⟩ rfl rfl rfl rfl rfl (by kernel_rfl) Try.func9 (by kernel_rfl)
    (of_decide_eq_true (by kernel_rfl)) (by unfold Func.isWrapper; first | (rw [if_pos (by decide +kernel)]; kernel_rfl) | (rw [if_neg (by decide +kernel)]; exact ⟨rfl, rfl⟩))
    (fun os started H enc _ => lifted os started H enc)

end Go.Proofs.Ytdcengccdoohbaa.lReversed
