/-
  The exact law of DeskOk: the walk, and the row. laws.FnExactDeskOk returns true for every input: the program answers as the model does, and writes into no argument. No conditions.
-/
import Derived.Test.YtafjpmlakpfidaaZ2
import Derived.Test.YtafjpmlakpfidaaZ3
import Derived.Test.YtafjpmlakpfidaaZ5
import Derived.Test.YtafjpmlakpfidaaFrameD
namespace Go.Proofs.Ytafjpmlakpfidaa.xDeskOk
open Go.ChangeShapes Go.WideShapes Go.ChangeAt Go.RowKit
set_option linter.unusedVariables false
set_option linter.unusedSimpArgs false

theorem limb15 {a b c d e f g h i j k l m n o : Prop} (x : a ∧ b ∧ c ∧ d ∧ e ∧ f ∧ g ∧ h ∧ i ∧ j ∧ k ∧ l ∧ m ∧ n ∧ o) : o := x.2.2.2.2.2.2.2.2.2.2.2.2.2.2

set_option maxRecDepth 100000 in
set_option maxHeartbeats 800000 in
theorem no0 (dW dH : Int) (da : Option Addr) (dn dc : Nat) (ds : List Int) (dmW dmH : Int) (dma : Option Addr) (dmn dmc : Nat) (dms : List Int) (dpa : Option Addr) (dpn dpc : Nat) (dps : List PV) (w : World) (hr : RdD w (⟨⟨dW, dH, da, dn, dc, ds⟩, ⟨dmW, dmH, dma, dmn, dmc, dms⟩, dpa, dpn, dpc, dps⟩ : Dsk)) (h1 : 1048576 < (dn : Int) + dmn + dpn + (inkV dps : Int)) (h3 : dn ≤ 9223372036854775807) (h4 : dmn ≤ 9223372036854775807) (h5 : dpn ≤ 9223372036854775807) (h6 : LenV dps 9223372036854775807) :
    Calls Try.prog 4 #[.agg #[.int .i64 dW, .int .i64 dH, .slice da dn dc, .int .i64 dmW, .int .i64 dmH, .slice dma dmn dmc, .slice dpa dpn dpc]] w fun e w' => e = .returned (.bool true) ∧ Below w.heap.size w w' := by
  have HR := Lib.hid hr
  have H6 := Lib.hid h6
  clear hr h6
  have HB0 := Lib.hid (bAlloc (Below.refl w.heap.size w) (.cells #[.int .i64 dW, .int .i64 dH, .slice da dn dc, .int .i64 dmW, .int .i64 dmH, .slice dma dmn dmc, .slice dpa dpn dpc] 38))
  go_enter Try.func4, Try.ntmps4
  go_wp2_with fail
  refine (szDesk_no (⟨⟨dW, dH, da, dn, dc, ds⟩, ⟨dmW, dmH, dma, dmn, dmc, dms⟩, dpa, dpn, dpc, dps⟩ : Dsk) 1048576 _ (by exact HR.out.below HB0.out) (by omega) h1 (by omega) h3 h4 h5 H6.out).mono ?_
  rintro e w1 ⟨rfl, hb⟩
  have HB1 := Lib.hid (bTrans HB0.out hb)
  go_wp2_with fail
  go_ret
  exact ⟨rfl, HB1.out⟩

set_option maxRecDepth 100000 in
set_option maxHeartbeats 3200000 in
theorem ok (dW dH : Int) (da : Option Addr) (dn dc : Nat) (ds : List Int) (dmW dmH : Int) (dma : Option Addr) (dmn dmc : Nat) (dms : List Int) (dpa : Option Addr) (dpn dpc : Nat) (dps : List PV) (w : World) (hr : RdD w (⟨⟨dW, dH, da, dn, dc, ds⟩, ⟨dmW, dmH, dma, dmn, dmc, dms⟩, dpa, dpn, dpc, dps⟩ : Dsk)) (h1 : (dn : Int) + dmn + dpn + (inkV dps : Int) ≤ 1048576) :
    Calls Try.prog 4 #[.agg #[.int .i64 dW, .int .i64 dH, .slice da dn dc, .int .i64 dmW, .int .i64 dmH, .slice dma dmn dmc, .slice dpa dpn dpc]] w fun e w' => e = .returned (.bool true) ∧ Below w.heap.size w w' := by
  have HR := Lib.hid hr
  have SM : Hid (SmallD (⟨⟨dW, dH, da, dn, dc, ds⟩, ⟨dmW, dmH, dma, dmn, dmc, dms⟩, dpa, dpn, dpc, dps⟩ : Dsk)) := Lib.hid ⟨by show dn ≤ 1048576; omega, by show dmn ≤ 1048576; omega, by show dpn ≤ 1048576; omega, fun k hk => by have := inkV_at dps k hk; show (pv dps k).n ≤ 1048576; omega⟩
  clear hr
  have KA := Lib.hid (Blk.new w 38 #[.int .i64 dW, .int .i64 dH, .slice da dn dc, .int .i64 dmW, .int .i64 dmH, .slice dma dmn dmc, .slice dpa dpn dpc])
  have HB0 := Lib.hid (bAlloc (Below.refl w.heap.size w) (.cells #[.int .i64 dW, .int .i64 dH, .slice da dn dc, .int .i64 dmW, .int .i64 dmH, .slice dma dmn dmc, .slice dpa dpn dpc] 38))
  go_enter Try.func4, Try.ntmps4
  go_wp2_with fail
  refine (szDesk_ok (⟨⟨dW, dH, da, dn, dc, ds⟩, ⟨dmW, dmH, dma, dmn, dmc, dms⟩, dpa, dpn, dpc, dps⟩ : Dsk) 1048576 _ (by exact HR.out.below HB0.out) h1 (by omega)).mono ?_
  rintro e w1 ⟨rfl, hb⟩
  have HB1 := Lib.hid (bTrans HB0.out hb)
  have KA1 := Lib.hid (KA.out.below' hb)
  clear hb KA
  obtain ⟨p0, p1, p2, p3, p4, p5, p6, p7⟩ := KA1.out.c7
  go_wp2_with fail
  refine (toDesk (⟨⟨dW, dH, da, dn, dc, ds⟩, ⟨dmW, dmH, dma, dmn, dmc, dms⟩, dpa, dpn, dpc, dps⟩ : Dsk) _ (by exact HR.out.below HB1.out) SM.out).mono ?_
  rintro e w2 ⟨⟨⟨xW, xH, xa, xn, xc, xs⟩, ⟨xmW, xmH, xma, xmn, xmc, xms⟩, xpa, xpn, xpc, xps⟩, rfl, ho, hd, unx, umx, upx, uix, hsmx, hb⟩
  dsimp only [Dsk.val]
  have HB2 := Lib.hid (bTrans HB1.out hb)
  have KA2 := Lib.hid (KA1.out.below' hb)
  have HX := Lib.hid ho
  have EX := Lib.hid hd
  have SX := Lib.hid hsmx
  clear hb ho hd hsmx unx umx upx uix KA1 p0 p1 p2 p3 p4 p5 p6 p7
  obtain ⟨p0, p1, p2, p3, p4, p5, p6, p7⟩ := KA2.out.c7
  go_wp2_with fail
  have CS := Lib.hid (spec_DeskOk (⟨⟨xW, xH, xa, xn, xc, xs⟩, ⟨xmW, xmH, xma, xmn, xmc, xms⟩, xpa, xpn, xpc, xps⟩ : Dsk) w2 HX.out.rd SX.out)
  rw [EX.out] at CS
  obtain ⟨R, hR⟩ : ∃ R, deskOk (⟨⟨dW, dH, da, dn, dc, ds⟩, ⟨dmW, dmH, dma, dmn, dmc, dms⟩, dpa, dpn, dpc, dps⟩ : Dsk).dat = R := ⟨_, rfl⟩
  rw [hR] at CS
  refine CS.out.mono ?_
  rintro e w3 ⟨rfl, hb⟩
  have HB3 := Lib.hid (bTrans HB2.out hb)
  have KA3 := Lib.hid (KA2.out.below' hb)
  clear hb CS HX EX SX KA2 p0 p1 p2 p3 p4 p5 p6 p7
  obtain ⟨p0, p1, p2, p3, p4, p5, p6, p7⟩ := KA3.out.c7
  go_wp2_with fail
  refine (toDesk (⟨⟨dW, dH, da, dn, dc, ds⟩, ⟨dmW, dmH, dma, dmn, dmc, dms⟩, dpa, dpn, dpc, dps⟩ : Dsk) _ (by exact HR.out.below HB3.out) SM.out).mono ?_
  rintro e w4 ⟨⟨⟨yW, yH, ya, yn, yc, ys⟩, ⟨ymW, ymH, yma, ymn, ymc, yms⟩, ypa, ypn, ypc, yps⟩, rfl, ho, hd, uny, umy, upy, uiy, hsmy, hb⟩
  dsimp only [Dsk.val]
  have HB4 := Lib.hid (bAlloc (bTrans HB3.out hb) (.cells #[.int .i64 yW, .int .i64 yH, .slice ya yn yc, .int .i64 ymW, .int .i64 ymH, .slice yma ymn ymc, .slice ypa ypn ypc] 29))
  have KA4 := Lib.hid ((KA3.out.below' hb).alloc (.cells #[.int .i64 yW, .int .i64 yH, .slice ya yn yc, .int .i64 ymW, .int .i64 ymH, .slice yma ymn ymc, .slice ypa ypn ypc] 29))
  have KY4 := Lib.hid (Blk.new w4 29 #[.int .i64 yW, .int .i64 yH, .slice ya yn yc, .int .i64 ymW, .int .i64 ymH, .slice yma ymn ymc, .slice ypa ypn ypc])
  have HY4 := Lib.hid (ho.alloc (.cells #[.int .i64 yW, .int .i64 yH, .slice ya yn yc, .int .i64 ymW, .int .i64 ymH, .slice yma ymn ymc, .slice ypa ypn ypc] 29))
  have EY := Lib.hid hd
  have SY := Lib.hid hsmy
  clear hb ho hd hsmy uny umy upy uiy KA3 p0 p1 p2 p3 p4 p5 p6 p7
  obtain ⟨p0, p1, p2, p3, p4, p5, p6, p7⟩ := KA4.out.c7
  obtain ⟨q0, q1, q2, q3, q4, q5, q6, q7⟩ := KY4.out.c7
  go_wp2_with fail
  have CI := Lib.hid (impl_DeskOk (⟨⟨yW, yH, ya, yn, yc, ys⟩, ⟨ymW, ymH, yma, ymn, ymc, yms⟩, ypa, ypn, ypc, yps⟩ : Dsk) _ HY4.out.rd SY.out)
  rw [EY.out, hR] at CI
  clear hR
  refine CI.out.mono ?_
  rintro e w5 ⟨rfl, hb⟩
  have HB5 := Lib.hid (bTrans HB4.out hb)
  have KA5 := Lib.hid (KA4.out.below' hb)
  have KY5 := Lib.hid (KY4.out.below' hb)
  have HY5 := Lib.hid (HY4.out.below hb)
  clear hb CI KA4 KY4 HY4 p0 p1 p2 p3 p4 p5 p6 p7 q0 q1 q2 q3 q4 q5 q6 q7
  obtain ⟨p0, p1, p2, p3, p4, p5, p6, p7⟩ := KA5.out.c7
  obtain ⟨q0, q1, q2, q3, q4, q5, q6, q7⟩ := KY5.out.c7
  cases R <;> (
  go_upto_region 10 with fail
  have MK : Hid (∀ v, BelowL w5 v → v.cell? ⟨w.heap.size, 0, none⟩ = some (.int .i64 dW) ∧ v.cell? ⟨w.heap.size, 1, none⟩ = some (.int .i64 dH) ∧ v.cell? ⟨w.heap.size, 2, none⟩ = some (.slice da dn dc) ∧ v.cell? ⟨w.heap.size, 3, none⟩ = some (.int .i64 dmW) ∧ v.cell? ⟨w.heap.size, 4, none⟩ = some (.int .i64 dmH) ∧ v.cell? ⟨w.heap.size, 5, none⟩ = some (.slice dma dmn dmc) ∧ v.cell? ⟨w.heap.size, 6, none⟩ = some (.slice dpa dpn dpc) ∧ v.cell? ⟨w4.heap.size, 0, none⟩ = some (.int .i64 yW) ∧ v.cell? ⟨w4.heap.size, 1, none⟩ = some (.int .i64 yH) ∧ v.cell? ⟨w4.heap.size, 2, none⟩ = some (.slice ya yn yc) ∧ v.cell? ⟨w4.heap.size, 3, none⟩ = some (.int .i64 ymW) ∧ v.cell? ⟨w4.heap.size, 4, none⟩ = some (.int .i64 ymH) ∧ v.cell? ⟨w4.heap.size, 5, none⟩ = some (.slice yma ymn ymc) ∧ v.cell? ⟨w4.heap.size, 6, none⟩ = some (.slice ypa ypn ypc) ∧ BelowL w5 v) := Lib.hid (fun v h => ⟨(h.out.cell p0).trans p1, (h.out.cell p0).trans p2, (h.out.cell p0).trans p3, (h.out.cell p0).trans p4, (h.out.cell p0).trans p5, (h.out.cell p0).trans p6, (h.out.cell p0).trans p7, (h.out.cell q0).trans q1, (h.out.cell q0).trans q2, (h.out.cell q0).trans q3, (h.out.cell q0).trans q4, (h.out.cell q0).trans q5, (h.out.cell q0).trans q6, (h.out.cell q0).trans q7, h⟩)
  go_region_held3 (fun v => v.cell? ⟨w.heap.size, 0, none⟩ = some (.int .i64 dW) ∧ v.cell? ⟨w.heap.size, 1, none⟩ = some (.int .i64 dH) ∧ v.cell? ⟨w.heap.size, 2, none⟩ = some (.slice da dn dc) ∧ v.cell? ⟨w.heap.size, 3, none⟩ = some (.int .i64 dmW) ∧ v.cell? ⟨w.heap.size, 4, none⟩ = some (.int .i64 dmH) ∧ v.cell? ⟨w.heap.size, 5, none⟩ = some (.slice dma dmn dmc) ∧ v.cell? ⟨w.heap.size, 6, none⟩ = some (.slice dpa dpn dpc) ∧ v.cell? ⟨w4.heap.size, 0, none⟩ = some (.int .i64 yW) ∧ v.cell? ⟨w4.heap.size, 1, none⟩ = some (.int .i64 yH) ∧ v.cell? ⟨w4.heap.size, 2, none⟩ = some (.slice ya yn yc) ∧ v.cell? ⟨w4.heap.size, 3, none⟩ = some (.int .i64 ymW) ∧ v.cell? ⟨w4.heap.size, 4, none⟩ = some (.int .i64 ymH) ∧ v.cell? ⟨w4.heap.size, 5, none⟩ = some (.slice yma ymn ymc) ∧ v.cell? ⟨w4.heap.size, 6, none⟩ = some (.slice ypa ypn ypc) ∧ BelowL w5 v)
    (first | exact MK.out _ hb2 | exact MK.out _ hb1 | exact MK.out _ (BelowL.start _))
    (first
      | (go_at_call 12; ((refine (toDesk (⟨⟨dW, dH, da, dn, dc, ds⟩, ⟨dmW, dmH, dma, dmn, dmc, dms⟩, dpa, dpn, dpc, dps⟩ : Dsk) _ (HR.out.below (bTrans HB5.out (BelowL.out (limb15 (by assumption))))) SM.out).mono ?_); rintro e v1 ⟨⟨⟨zW, zH, za, zn, zc, zs⟩, ⟨zmW, zmH, zma, zmn, zmc, zms⟩, zpa, zpn, zpc, zps⟩, rfl, ho, hd, unz, umz, upz, uiz, hsmz, hq1⟩; dsimp only [Dsk.val]; have hb1 := BelowL.call (limb15 (by assumption)) hq1))
      | (go_at_call 7; ((refine (eqDesk_yes (⟨⟨yW, yH, ya, yn, yc, ys⟩, ⟨ymW, ymH, yma, ymn, ymc, yms⟩, ypa, ypn, ypc, yps⟩ : Dsk) (⟨⟨zW, zH, za, zn, zc, zs⟩, ⟨zmW, zmH, zma, zmn, zmc, zms⟩, zpa, zpn, zpc, zps⟩ : Dsk) _ (HY5.out.below hb1.out).rd ho.rd SY.out hsmz (EY.out.trans hd.symm)).mono ?_); rintro e v2 ⟨rfl, hq2⟩; have hb2 := BelowL.call (limb15 (by assumption)) hq2)))
  have HBF := Lib.hid (bTrans HB5.out hb2.out)
  go_wp2_with fail
  go_ret
  exact ⟨rfl, HBF.out⟩)

set_option maxRecDepth 100000 in
theorem lifted (os : Os) (started : os.Started) (H : Type) (enc : TypeId × Value → H) :
    ReturnsInHanded {} Try.checked os 4 .any (Rows.fnExactDeskOkSpec.pre6 enc Try.prog Try.f4 Rows.fnExactDeskOkRow.domain false) (Rows.fnExactDeskOkSpec.post enc Try.prog Try.f4 false true false false) := by
  refine returnsInHanded_of_change (C := Try.checked) own started (by kernel_rfl) Try.func4
    (ChangeSpec.witness6 (enc := enc) (C := Try.checked) false ⟨#[], #[.agg #[.int .i64 0, .int .i64 0, .slice none 0 0, .int .i64 0, .int .i64 0, .slice none 0 0, .slice none 0 0]], []⟩ 8 (by kernel_rfl) (by kernel_rfl) (by kernel_rfl) (by kernel_rfl)) ?_
  intro W base args ds gs before hval0 hW hcnd _
  have hval : ∀ (j : Nat) t v, Try.f4.params[j]? = some t → args[j]? = some v → Value.okWide Try.prog W .any base t v := hval0
  have hW' := hW
  have hlt := hW.lt
  obtain ⟨p, q, hA0, hV, rfl, hfz, hnd⟩ := hW
  have hA : DataW.TrodAll enc Try.prog W 0 (fun _ => true) true Try.f4.params.toList args.toList ds p := hA0
  rw [Try.params4] at hA hval
  obtain ⟨v0, vs0, d0, ds0, p0, q0, hargs, rfl, rfl, h0, r0⟩ := trodAll_cons hA
  obtain ⟨rfl, rfl, rfl⟩ := trodAll_nil r0
  obtain rfl : args = #[v0] := by cases args; simp_all
  obtain ⟨rfl, rfl⟩ := trodVars_none hV
  clear hA0 hval0
  obtain ⟨⟨⟨dW, dH, da, dn, dc, ds⟩, ⟨dmW, dmH, dma, dmn, dmc, dms⟩, dpa, dpn, dpc, dps⟩, rfl, hr0, g1, g2, g3, g4⟩ := open_ldesk (hval 0 38 v0 rfl rfl) h0 (fun x hx => hlt x (by simp [hx]))
  have fin : ∀ (e : Ending) W', (e = .returned (.bool true) ∧ Below W.heap.size W W') → ∃ v, e = .returned v ∧ Rows.fnExactDeskOkSpec.post enc Try.prog Try.f4 false true false false W #[.agg #[.int .i64 dW, .int .i64 dH, .slice da dn dc, .int .i64 dmW, .int .i64 dmH, .slice dma dmn dmc, .slice dpa dpn dpc]] v W' := by
    rintro e W' ⟨rfl, hb⟩
    exact ⟨_, rfl, law_post rfl rfl hW' (by kernel_rfl) rfl hb⟩
  by_cases b0 : (dn : Int) + dmn + dpn + (inkV dps : Int) ≤ 1048576
  case neg => exact (no0 dW dH da dn dc ds dmW dmH dma dmn dmc dms dpa dpn dpc dps W hr0 (by omega) g1 g2 g3 g4).mono fin
  case pos =>
    exact (ok dW dH da dn dc ds dmW dmH dma dmn dmc dms dpa dpn dpc dps W hr0 b0).mono fin

theorem proved : Rows.FnExactDeskOkSaid :=
  OpenClaim.holds_of_wide 4 Try.f4 rfl rfl rfl rfl rfl rfl rfl ⟨rfl, rfl, rfl, rfl, rfl⟩ rfl rfl rfl rfl rfl (by kernel_rfl) Try.func4 (by kernel_rfl)
    (of_decide_eq_true (by kernel_rfl)) (by unfold Func.isWrapper; first | (rw [if_pos (by decide +kernel)]; kernel_rfl) | (rw [if_neg (by decide +kernel)]; exact ⟨rfl, rfl⟩))
    (fun os started H enc _ => lifted os started H enc)
end Go.Proofs.Ytafjpmlakpfidaa.xDeskOk
