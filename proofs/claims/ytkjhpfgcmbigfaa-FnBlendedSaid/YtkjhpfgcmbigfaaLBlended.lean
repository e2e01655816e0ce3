/-
  FnBlended: the blend of colors that are sums over two plates is the sum of the shares of the plates: the law returns true for every code. No conditions.
-/
import Derived.Test.YtkjhpfgcmbigfaaW25
import Derived.Test.YtkjhpfgcmbigfaaFrameC
namespace Go.Proofs.Ytkjhpfgcmbigfaa.lBlended
open Go.ChangeShapes Go.WideShapes Go.ChangeAt Go.RowKit
set_option linter.unusedVariables false
set_option linter.unusedSimpArgs false

theorem lim3 {a b c : Prop} (x : a ∧ b ∧ c) : c := x.2.2

theorem limb4 {a b c d : Prop} (x : a ∧ b ∧ c ∧ d) : d := x.2.2.2

theorem rd_lit4 (w : World) (a b c d : Int) (T : Nat) : Rd (w.alloc (.cells #[.int .i64 a, .int .i64 b, .int .i64 c, .int .i64 d] T)) (some ⟨w.heap.size, 0, none⟩) [a, b, c, d] := by
  intro k hk
  refine ⟨w.heap.size, 0, rfl, by simp, ?_⟩
  rw [(Blk.new w T #[.int .i64 a, .int .i64 b, .int .i64 c, .int .i64 d]).cell]
  have hk4 : k < 4 := by simpa using hk
  rcases (show k = 0 ∨ k = 1 ∨ k = 2 ∨ k = 3 by omega) with rfl | rfl | rfl | rfl <;> rfl

set_option maxRecDepth 100000 in
set_option maxHeartbeats 3200000 in
theorem ok (ad0 : Option Addr) (n0 cap0 : Nat) (bs0 : List Int) (w : World) (hn0 : bs0.length = n0) (hr0 : RdU w.heap.size w ad0 bs0) (hs0 : n0 ≤ 1048576) :
    Calls Try.prog 4 #[.slice ad0 n0 cap0] w fun e w' => e = .returned (.bool true) ∧ Below w.heap.size w w' := by
  have HL := Lib.hid hn0
  have HC := Lib.hid hr0
  clear hn0 hr0
  go_enter Try.func4, Try.ntmps4
  go_wp2_with fail
  refine (mkpl_call ad0 n0 cap0 bs0 7 _ HL.out (by exact HC.out) (by omega) (by omega) (by omega)).mono ?_
  rintro e w1 ⟨W, H, g, n, xs, rfl, b1, b2, b3, b4, hq, n1, n64, hg, ho, hp, hb⟩
  have HN := Lib.hid ho.len
  have HP := Lib.hid hp
  have HX := Lib.hid (picOk_bd HN.out hp).2.2
  have HS := Lib.hid (picOk_bd HN.out hp).1
  have HO2 := Lib.hid (ho.alloc (.cells #[.int .i64 W, .int .i64 H, .slice (some ⟨g, 0, none⟩) n n] 25))
  have KP2 := Lib.hid (Blk.new w1 25 #[.int .i64 W, .int .i64 H, .slice (some ⟨g, 0, none⟩) n n])
  have HB2 := Lib.hid (bAlloc hb (.cells #[.int .i64 W, .int .i64 H, .slice (some ⟨g, 0, none⟩) n n] 25))
  have HQ := Lib.hid hq
  obtain ⟨lp, p0, p1, p2⟩ := KP2.out.c3
  clear ho hp hb hg hq
  obtain ⟨wo, hwo⟩ : ∃ wo : World, wo = w1.alloc (.cells #[.int .i64 W, .int .i64 H, .slice (some ⟨g, 0, none⟩) n n] 25) := ⟨_, rfl⟩
  go_upto_region 4 with fail
  rw [← hwo] at HO2 KP2 HB2 lp p0 p1 p2 ⊢
  clear hwo
  have MK : Hid (∀ v, BelowL wo v → v.cell? ⟨w1.heap.size, 0, none⟩ = some (.int .i64 W) ∧ v.cell? ⟨w1.heap.size, 1, none⟩ = some (.int .i64 H) ∧ v.cell? ⟨w1.heap.size, 2, none⟩ = some (.slice (some ⟨g, 0, none⟩) n n) ∧ BelowL wo v) := Lib.hid (fun v h => ⟨(h.out.cell lp).trans p0, (h.out.cell lp).trans p1, (h.out.cell lp).trans p2, h⟩)
  have CF : Hid (∀ v, BelowL wo v → Calls Try.prog 14 #[.slice ad0 n0 cap0, .int .i64 3] v (FreshOut v)) := Lib.hid (fun v hv => laws_fresh ad0 n0 cap0 bs0 w.heap.size v HL.out (HC.out.below (bTrans HB2.out hv.out)) (bTrans HB2.out hv.out).size hs0)
  go_region_held3 (fun v => v.cell? ⟨w1.heap.size, 0, none⟩ = some (.int .i64 W) ∧ v.cell? ⟨w1.heap.size, 1, none⟩ = some (.int .i64 H) ∧ v.cell? ⟨w1.heap.size, 2, none⟩ = some (.slice (some ⟨g, 0, none⟩) n n) ∧ BelowL wo v)
    (first | exact MK.out _ hb2 | exact MK.out _ hb1 | exact MK.out _ (BelowL.start _) | exact MK.out _ (BelowL.alloc hb2 _))
    (first
      | (go_at_call 14; ((with_reducible refine (CF.out _ (limb4 (by assumption))).mono ?_); rintro e v1 ⟨fa, nf, cf, fs, rfl, hfl, hfn, hfr, hq1⟩; have hb1 := BelowL.call (limb4 (by assumption)) hq1))
      | (go_at_call 13; ((with_reducible refine (spec_MakeLike fa nf cf fs W H (some ⟨g, 0, none⟩) n n n _ hfl hfr (by omega) HS.out HQ.out).mono ?_); rintro e v2 ⟨g2, ys, rfl, hg2, ho2, hy2, hq2⟩; have hb2 := BelowL.call (limb4 (by assumption)) hq2)))
  have HY := Lib.hid ho2.len
  have HW2 := Lib.hid hy2
  have PY : Hid (picOk W H ys 1 = true) := Lib.hid (picOk_mkW HS.out ho2.len HQ.out hy2)
  obtain ⟨w3, hw3⟩ : ∃ x : World, x = v2.alloc (.cells #[.int .i64 W, .int .i64 H, .slice (some ⟨g, 0, none⟩) n n, .int .i64 W, .int .i64 H, .slice (some ⟨g2, 0, none⟩) n n] 25) := ⟨_, rfl⟩
  obtain ⟨gl, hgl⟩ : ∃ x : Nat, x = v2.heap.size := ⟨_, rfl⟩
  have HB3 : Hid (Below wo.heap.size wo w3) := Lib.hid (by rw [hw3]; exact (hb2.alloc _).out)
  have OY3 : Hid (Own w3 g2 n n ys) := Lib.hid (by rw [hw3]; exact ho2.alloc _)
  have KL3 : Hid (Blk w3 gl 25 #[.int .i64 W, .int .i64 H, .slice (some ⟨g, 0, none⟩) n n, .int .i64 W, .int .i64 H, .slice (some ⟨g2, 0, none⟩) n n]) := Lib.hid (by rw [hw3, hgl]; exact Blk.new v2 _ _)
  rw [← hw3, ← hgl]
  clear hw3 hgl hq1 hq2 hb1 hb2 hfr hfl hfn ho2 hy2 hg2 CF
  have OX3 := Lib.hid (HO2.out.below HB3.out HO2.out.lt)
  have KP3 := Lib.hid (KP2.out.below' HB3.out)
  have HBW := Lib.hid (bTrans HB2.out HB3.out)
  clear lp p0 p1 p2 MK
  obtain ⟨lp, p0, p1, p2⟩ := KP3.out.c3
  have AB : ∀ i, atF bs0 n0 i ≤ 255 := by
    intro i
    unfold atF
    by_cases h1 : i < n0
    · rw [if_pos h1]
      obtain ⟨⟨u0, u1⟩, _⟩ := HC.out i (by have := HL.out; omega)
      omega
    · rw [if_neg h1]; omega
  have CA1 := Lib.hid (fun (v : World) (hv : Below w3.heap.size w3 v) => at_call6 w.heap.size ad0 n0 cap0 bs0 1 v HL.out (HC.out.below (bTrans HBW.out hv)) hs0 (by omega))
  have CA2 := Lib.hid (fun (v : World) (hv : Below w3.heap.size w3 v) => at_call6 w.heap.size ad0 n0 cap0 bs0 2 v HL.out (HC.out.below (bTrans HBW.out hv)) hs0 (by omega))
  have u1 := AB 1
  have v1 := AB 2
  obtain ⟨U, hU⟩ : ∃ x : Int, ((atF bs0 n0 1 : Nat) : Int) = x := ⟨_, rfl⟩
  obtain ⟨V, hV⟩ : ∃ x : Int, ((atF bs0 n0 2 : Nat) : Int) = x := ⟨_, rfl⟩
  rw [hU] at CA1
  rw [hV] at CA2
  obtain ⟨A, hA⟩ : ∃ x : Int, U * 100 = x := ⟨_, rfl⟩
  obtain ⟨B, hB⟩ : ∃ x : Int, V * 7 = x := ⟨_, rfl⟩
  have A0 : 0 ≤ A := by omega
  have A1 : A ≤ 25500 := by omega
  have B0 : 0 ≤ B := by omega
  have B1 : B ≤ 1785 := by omega
  have wa : IntKind.i64.wrap (U * 100) = A := by rw [hA]; exact IntWalk.i64_in _ (by omega)
  have wb : IntKind.i64.wrap (V * 7) = B := by rw [hB]; exact IntWalk.i64_in _ (by omega)
  have wc : IntKind.i64.wrap (A + B) = A + B := IntWalk.i64_in _ (by omega)
  clear AB u1 v1 hU hV hA hB
  go_wp2_with fail
  refine (CA1.out _ (Below.refl _ _)).mono ?_
  rintro e w4 ⟨rfl, hb⟩
  have HB4 := Lib.hid hb
  clear hb
  go_wp2_with fail
  refine (CA2.out _ (by exact HB4.out)).mono ?_
  rintro e w5 ⟨rfl, hb⟩
  have HB5 := Lib.hid (bTrans HB4.out hb)
  clear hb HB4 CA1 CA2
  go_wp2_with fail
  have EIX : ∃ X, isum xs = X := ⟨_, rfl⟩
  have EIY : ∃ Y, isum ys = Y := ⟨_, rfl⟩
  obtain ⟨X, hX⟩ := EIX
  obtain ⟨Y, hY⟩ := EIY
  have sx := sum_small HN.out HX.out
  have sy := sum_small HY.out HW2.out
  rw [hX] at sx
  rw [hY] at sy
  obtain ⟨AX, hAX⟩ : ∃ v, A * X = v := ⟨_, rfl⟩
  obtain ⟨BY, hBY⟩ : ∃ v, B * Y = v := ⟨_, rfl⟩
  have ax0 : 0 ≤ AX := by rw [← hAX]; exact Int.mul_nonneg A0 sx.1
  have by0 : 0 ≤ BY := by rw [← hBY]; exact Int.mul_nonneg B0 sy.1
  have ax1 : AX ≤ 25500 * 64 := by rw [← hAX]; exact Int.mul_le_mul A1 (by omega) sx.1 (by omega)
  have by1 : BY ≤ 1785 * 64 := by rw [← hBY]; exact Int.mul_le_mul B1 (by omega) sy.1 (by omega)
  have LST : ∀ v, Below w3.heap.size w3 v → RdV v (some ⟨gl, 0, none⟩) (two W H (some ⟨g, 0, none⟩) (some ⟨g2, 0, none⟩) n n n xs ys) := by
    intro v hv k hk
    have kb := KL3.out.below' hv
    have hk2 : k < 2 := by simpa [two] using hk
    rcases (show k = 0 ∨ k = 1 by omega) with rfl | rfl
    · exact ⟨gl, 0, rfl, kb.lt, by rw [kb.cell]; rfl, by rw [kb.cell]; rfl, by rw [kb.cell]; rfl, HN.out, OX3.out.rd.below hv⟩
    · exact ⟨gl, 0, rfl, kb.lt, by rw [kb.cell]; rfl, by rw [kb.cell]; rfl, by rw [kb.cell]; rfl, HY.out, OY3.out.rd.below hv⟩
  have HB6 := Lib.hid (bAlloc HB5.out (.cells #[.int .i64 0, .int .i64 A, .int .i64 B, .int .i64 (A + B)] 3))
  refine (blend2_call W H (some ⟨g, 0, none⟩) (some ⟨g2, 0, none⟩) (some ⟨gl, 0, none⟩) _ n n n 2 4 xs ys A B _ HN.out HY.out HP.out PY.out n1 n64 (by exact LST _ HB6.out) (by exact rd_lit4 _ _ _ _ _ _) A0 A1 B0 B1).mono ?_
  rw [hX, hY, hAX, hBY]
  rintro e w6 ⟨x, y, G, rfl, x0, x1, y1, yn, hm, hd, G1, Gn, hxg, hb⟩
  have HB7 := Lib.hid (bTrans HB6.out hb)
  have hyc : ¬ y < 1 := by omega
  have hy0 : (y == 0) = false := by simp; omega
  have wg : IntKind.i64.wrap (x * G) = AX + BY := by rw [hxg]; exact IntWalk.i64_in _ (by omega)
  have wax : IntKind.i64.wrap (A * X) = AX := by rw [hAX]; exact IntWalk.i64_in _ (by omega)
  have wby : IntKind.i64.wrap (B * Y) = BY := by rw [hBY]; exact IntWalk.i64_in _ (by omega)
  have wax2 : IntKind.i64.wrap AX = AX := IntWalk.i64_in _ (by omega)
  have wby2 : IntKind.i64.wrap BY = BY := IntWalk.i64_in _ (by omega)
  have wst : IntKind.i64.wrap (AX + BY) = AX + BY := IntWalk.i64_in _ (by omega)
  have wG : IntKind.i64.wrap G = G := IntWalk.i64_in _ (by omega)
  have KP7 := Lib.hid (KP3.out.below' HB7.out)
  have KL7 := Lib.hid (KL3.out.below' HB7.out)
  have OX7 := Lib.hid (OX3.out.below HB7.out OX3.out.lt)
  have OY7 := Lib.hid (OY3.out.below HB7.out OY3.out.lt)
  have HBZ := Lib.hid (bTrans HBW.out HB7.out)
  clear hb LST HB6 HB5 lp p0 p1 p2 KL3 KP3 OX3 OY3
  obtain ⟨lp, p0, p1, p2⟩ := KP7.out.c3
  have q5 := KL7.out.cell 5
  have lq := KL7.out.lt
  rw [show (#[Value.int .i64 W, .int .i64 H, .slice (some ⟨g, 0, none⟩) n n, .int .i64 W, .int .i64 H, .slice (some ⟨g2, 0, none⟩) n n] : Array Value)[5]? = some (.slice (some ⟨g2, 0, none⟩) n n) from rfl] at q5
  go_wp2_with fail
  have MK : Hid (∀ v, BelowL w6 v → v.cell? ⟨w1.heap.size, 2, none⟩ = some (.slice (some ⟨g, 0, none⟩) n n) ∧ v.cell? ⟨gl, 5, none⟩ = some (.slice (some ⟨g2, 0, none⟩) n n) ∧ BelowL w6 v) := Lib.hid (fun v h => ⟨(h.out.cell lp).trans p2, (h.out.cell lq).trans q5, h⟩)
  have XW : Hid (within xs 255 = true) := Lib.hid (within_255 HX.out)
  have YW : Hid (within ys 255 = true) := Lib.hid (within_255 HW2.out)
  have C1 : Hid (∀ v, BelowL w6 v → Calls Try.prog 18 #[.slice (some ⟨g, 0, none⟩) n n] v fun e v' => e = .returned (.int .i64 X) ∧ Below v.heap.size v v') := Lib.hid (fun v hv => totp_call _ n _ xs X v HN.out (OX7.out.rd.below hv.out) XW.out (by omega) hX)
  have C2 : Hid (∀ v, BelowL w6 v → Calls Try.prog 18 #[.slice (some ⟨g2, 0, none⟩) n n] v fun e v' => e = .returned (.int .i64 Y) ∧ Below v.heap.size v v') := Lib.hid (fun v hv => totp_call _ n _ ys Y v HY.out (OY7.out.rd.below hv.out) YW.out (by omega) hY)
  have hy1 : ¬ y = 0 := by omega
  go_region_held3 (fun v => v.cell? ⟨w1.heap.size, 2, none⟩ = some (.slice (some ⟨g, 0, none⟩) n n) ∧ v.cell? ⟨gl, 5, none⟩ = some (.slice (some ⟨g2, 0, none⟩) n n) ∧ BelowL w6 v)
    (first | exact MK.out _ hb2 | exact MK.out _ hb1 | exact MK.out _ (BelowL.start _))
    (first
      | (go_at_call 18; ((with_reducible refine (C1.out _ (lim3 (by assumption))).mono ?_); rintro e v1 ⟨rfl, hq1⟩; have hb1 := BelowL.call (lim3 (by assumption)) hq1))
      | (go_at_call 18; ((with_reducible refine (C2.out _ (lim3 (by assumption))).mono ?_); rintro e v2 ⟨rfl, hq2⟩; have hb2 := BelowL.call (lim3 (by assumption)) hq2)))
  have HBF := Lib.hid (bTrans HBZ.out hb2.out)
  go_wp2_with fail
  go_ret
  exact ⟨rfl, HBF.out⟩

set_option maxHeartbeats 400000 in
theorem big (ad0 : Option Addr) (n0 cap0 : Nat) (w : World) (h : 1048576 < n0) (hl : n0 ≤ 9223372036854775807) :
    Calls Try.prog 4 #[.slice ad0 n0 cap0] w fun e w' => e = .returned (.bool true) ∧ Below w.heap.size w w' := by
  have h2 : (1048576 : Int) < (n0 : Int) := by omega
  go_enter Try.func4, Try.ntmps4
  go_wp2_with fail
  go_ret
  exact ⟨rfl, Below.refl _ _⟩

set_option maxRecDepth 100000 in
theorem lifted (os : Os) (started : os.Started) (H : Type) (enc : TypeId × Value → H) :
    ReturnsInHanded {} Try.checked os 4 .any (Rows.fnBlendedSpec.pre6 enc Try.prog Try.f4 Rows.fnBlendedRow.domain false) (Rows.fnBlendedSpec.post enc Try.prog Try.f4 false true false false) := by
  refine returnsInHanded_of_change (C := Try.checked) own started (by kernel_rfl) Try.func4
    (ChangeSpec.witness6 (enc := enc) (C := Try.checked) false ⟨#[], #[.slice none 0 0], []⟩ 8 (by kernel_rfl) (by kernel_rfl) (by kernel_rfl) (by kernel_rfl)) ?_
  intro W base args ds gs before hval0 hW hcnd _
  have hval : ∀ (j : Nat) t v, Try.f4.params[j]? = some t → args[j]? = some v → Value.okWide Try.prog W .any base t v := hval0
  have hW' := hW
  have hlt := hW.lt
  obtain ⟨p, q, hA0, hV, rfl, hfz, hnd⟩ := hW
  have hA : DataW.TrodAll enc Try.prog W 0 (fun _ => true) true Try.f4.params.toList args.toList ds p := hA0
  rw [Try.params4] at hA hval
  obtain ⟨v0, vs0, d0, ds0, p0, q0, hargs, rfl, rfl, h0, r0⟩ := trodAll_cons hA
  obtain ⟨rfl, rfl, rfl⟩ := trodAll_nil r0
  obtain rfl : args = #[v0] := by cases args; simp_all
  obtain ⟨rfl, rfl⟩ := trodVars_none hV
  clear hA0 hval0
  obtain ⟨ad0, n0, cap0, bs0, rfl, hn0, hr0, hl0⟩ := open_code (hval 0 22 v0 rfl rfl) h0 (fun x hx => hlt x (by simp [hx]))
  have fin : ∀ (e : Ending) W', (e = .returned (.bool true) ∧ Below W.heap.size W W') → ∃ v, e = .returned v ∧ Rows.fnBlendedSpec.post enc Try.prog Try.f4 false true false false W #[.slice ad0 n0 cap0] v W' := by
    rintro e W' ⟨rfl, hb⟩
    exact ⟨_, rfl, law_post rfl rfl hW' (by kernel_rfl) rfl hb⟩
  by_cases hs0 : n0 ≤ 1048576
  case neg => exact (big ad0 n0 cap0 W (by omega) hl0).mono fin
  case pos => exact (ok ad0 n0 cap0 bs0 W hn0 hr0 hs0).mono fin

theorem proved : Rows.FnBlendedSaid :=
  OpenClaim.holds_of_wide 4 Try.f4 rfl rfl rfl rfl rfl rfl rfl ⟨rfl, rfl, rfl, rfl, rfl⟩ rfl rfl rfl rfl rfl (by kernel_rfl) Try.func4 (by kernel_rfl)
    (of_decide_eq_true (by kernel_rfl)) (by unfold Func.isWrapper; first | (rw [if_pos (by decide +kernel)]; kernel_rfl) | (rw [if_neg (by decide +kernel)]; exact ⟨rfl, rfl⟩))
    (fun os started H enc _ => lifted os started H enc)

end Go.Proofs.Ytkjhpfgcmbigfaa.lBlended
