/-
  The exact law of NewDesk: the walk, and the row. laws.FnExactNewDesk returns true: the program answers as the model does, and its answer owns its memory. No conditions.
-/
import Derived.Test.YtafjpmlakpfidaaZ6
import Derived.Test.YtafjpmlakpfidaaZ7
import Derived.Test.YtafjpmlakpfidaaFrameP
namespace Go.Proofs.Ytafjpmlakpfidaa.xNewDesk
open Go.ChangeShapes Go.WideShapes Go.ChangeAt Go.RowKit
set_option linter.unusedVariables false
set_option linter.unusedSimpArgs false

theorem size_new {D : Dsk} (h : D.dat = newDat) (hs : SmallD D) : sizeD D ≤ 3000000 := by
  have h1 : D.ps = [] := by
    have h2 : (picsV D.ps).length = 0 := by rw [show picsV D.ps = [] from congrArg (fun x => x.2.2) h]; rfl
    rw [picsV_len] at h2
    exact List.eq_nil_of_length_eq_zero h2
  have a := hs.p
  have b := hs.m
  unfold sizeD
  rw [h1]
  show D.P.n + D.M.n + 0 ≤ 3000000
  omega

set_option maxRecDepth 100000 in
set_option maxHeartbeats 1600000 in
theorem ok (w : World) : Calls Try.prog 3 #[] w fun e w' => e = .returned (.bool true) ∧ Below w.heap.size w w' := by
  go_enter Try.func3, Try.ntmps3
  go_wp2_with fail
  refine (spec_NewDesk _).mono ?_
  rintro e w1 ⟨⟨⟨xW, xH, xa, xn, xc, xs⟩, ⟨xmW, xmH, xma, xmn, xmc, xms⟩, xpa, xpn, xpc, xps⟩, rfl, ho, hd, hs, hb⟩
  dsimp only [Dsk.val]
  have HX1 := Lib.hid (ho.alloc (.cells #[.int .i64 xW, .int .i64 xH, .slice xa xn xc, .int .i64 xmW, .int .i64 xmH, .slice xma xmn xmc, .slice xpa xpn xpc] 29))
  have EX := Lib.hid hd
  have SX := Lib.hid hs
  have KX1 := Lib.hid (Blk.new w1 29 #[.int .i64 xW, .int .i64 xH, .slice xa xn xc, .int .i64 xmW, .int .i64 xmH, .slice xma xmn xmc, .slice xpa xpn xpc])
  have HB1 := Lib.hid (bAlloc hb (.cells #[.int .i64 xW, .int .i64 xH, .slice xa xn xc, .int .i64 xmW, .int .i64 xmH, .slice xma xmn xmc, .slice xpa xpn xpc] 29))
  have BX := Lib.hid ho.bd
  have Z1 := Lib.hid hb.size
  clear ho hd hs hb
  go_wp2_with fail
  refine (impl_NewDesk _).mono ?_
  rintro e w2 ⟨⟨⟨yW, yH, ya, yn, yc, ys⟩, ⟨ymW, ymH, yma, ymn, ymc, yms⟩, ypa, ypn, ypc, yps⟩, rfl, ho, hd, hs, hb⟩
  dsimp only [Dsk.val]
  have HX2 := Lib.hid ((HX1.out.below hb).alloc (.cells #[.int .i64 yW, .int .i64 yH, .slice ya yn yc, .int .i64 ymW, .int .i64 ymH, .slice yma ymn ymc, .slice ypa ypn ypc] 29))
  have KX2 := Lib.hid ((KX1.out.below' hb).alloc (.cells #[.int .i64 yW, .int .i64 yH, .slice ya yn yc, .int .i64 ymW, .int .i64 ymH, .slice yma ymn ymc, .slice ypa ypn ypc] 29))
  have HY2 := Lib.hid (ho.alloc (.cells #[.int .i64 yW, .int .i64 yH, .slice ya yn yc, .int .i64 ymW, .int .i64 ymH, .slice yma ymn ymc, .slice ypa ypn ypc] 29))
  have EY := Lib.hid hd
  have SY := Lib.hid hs
  have KY2 := Lib.hid (Blk.new w2 29 #[.int .i64 yW, .int .i64 yH, .slice ya yn yc, .int .i64 ymW, .int .i64 ymH, .slice yma ymn ymc, .slice ypa ypn ypc])
  have HB2 := Lib.hid (bAlloc (bTrans HB1.out hb) (.cells #[.int .i64 yW, .int .i64 yH, .slice ya yn yc, .int .i64 ymW, .int .i64 ymH, .slice yma ymn ymc, .slice ypa ypn ypc] 29))
  have BY := Lib.hid ho.bd
  have ZB : Hid (w.heap.size ≤ w1.heap.size ∧ w1.heap.size + 1 ≤ w2.heap.size) := Lib.hid ⟨Z1.out, by have := hb.size; simpa using this⟩
  have NY := Lib.hid (size_new hd hs)
  clear ho hd hs hb HX1 KX1 HB1
  obtain ⟨p0, p1, p2, p3, p4, p5, p6, p7⟩ := KX2.out.c7
  obtain ⟨q0, q1, q2, q3, q4, q5, q6, q7⟩ := KY2.out.c7
  go_wp2_with fail
  refine (eqDesk_yes (⟨⟨yW, yH, ya, yn, yc, ys⟩, ⟨ymW, ymH, yma, ymn, ymc, yms⟩, ypa, ypn, ypc, yps⟩ : Dsk) (⟨⟨xW, xH, xa, xn, xc, xs⟩, ⟨xmW, xmH, xma, xmn, xmc, xms⟩, xpa, xpn, xpc, xps⟩ : Dsk) _ (HY2.out.rd) (HX2.out.rd) SY.out SX.out (EY.out.trans EX.out.symm)).mono ?_
  rintro e w3 ⟨rfl, hb⟩
  have HX3 := Lib.hid (HX2.out.below hb)
  have KX3 := Lib.hid (KX2.out.below' hb)
  have HY3 := Lib.hid (HY2.out.below hb)
  have KY3 := Lib.hid (KY2.out.below' hb)
  have HB3 := Lib.hid (bTrans HB2.out hb)
  have Z3 : Hid (w2.heap.size + 1 ≤ w3.heap.size) := Lib.hid (by have := hb.size; simpa using this)
  clear hb HX2 HY2 KX2 KY2 HB2 p0 p1 p2 p3 p4 p5 p6 p7 q0 q1 q2 q3 q4 q5 q6 q7
  obtain ⟨q0, q1, q2, q3, q4, q5, q6, q7⟩ := KY3.out.c7
  go_wp2_with fail
  refine (markDesk (⟨⟨yW, yH, ya, yn, yc, ys⟩, ⟨ymW, ymH, yma, ymn, ymc, yms⟩, ypa, ypn, ypc, yps⟩ : Dsk) _ 1 _ (by exact HY3.out) (by omega) (by have := NY.out; omega)).mono ?_
  rintro e w4 ⟨rfl, ho, hk⟩
  have HY4 := Lib.hid ho
  have hz := ZB.out
  have KY4 := Lib.hid (KY3.out.keepS hk (fun b hb e => by have := BY.out b hb; omega))
  have KX4 := Lib.hid (KX3.out.keepS hk (fun b hb e => by have := BY.out b hb; simp at this; omega))
  have HX4 := Lib.hid (HX3.out.keep hk (fun b hb e => by have := BY.out b hb; have := BX.out b e; simp at *; omega))
  have HB4 := Lib.hid (below_keep HB3.out hk (fun b hb => by have := BY.out b hb; simp at this; omega))
  clear ho hk hz HX3 HY3 KX3 KY3 HB3 q0 q1 q2 q3 q4 q5 q6 q7
  obtain ⟨q0, q1, q2, q3, q4, q5, q6, q7⟩ := KY4.out.c7
  go_wp2_with fail
  refine (heldDesk (⟨⟨yW, yH, ya, yn, yc, ys⟩, ⟨ymW, ymH, yma, ymn, ymc, yms⟩, ypa, ypn, ypc, yps⟩ : Dsk) 1 _ (by exact HY4.out.rd) (by omega) (by have := NY.out; omega)).mono ?_
  rintro e w5 ⟨rfl, hb⟩
  have HX5 := Lib.hid (HX4.out.below hb)
  have KX5 := Lib.hid (KX4.out.below' hb)
  have HY5 := Lib.hid (HY4.out.below hb)
  have KY5 := Lib.hid (KY4.out.below' hb)
  have HB5 := Lib.hid (bTrans HB4.out hb)
  clear hb HX4 HY4 KX4 KY4 HB4
  clear q0 q1 q2 q3 q4 q5 q6 q7
  obtain ⟨p0, p1, p2, p3, p4, p5, p6, p7⟩ := KX5.out.c7
  go_wp2_with fail
  refine (impl_NewDesk _).mono ?_
  rintro e w6 ⟨⟨⟨zW, zH, za, zn, zc, zs⟩, ⟨zmW, zmH, zma, zmn, zmc, zms⟩, zpa, zpn, zpc, zps⟩, rfl, ho, hd, hs, hb⟩
  dsimp only [Dsk.val]
  have HZ6 := Lib.hid (ho.alloc (.cells #[.int .i64 zW, .int .i64 zH, .slice za zn zc, .int .i64 zmW, .int .i64 zmH, .slice zma zmn zmc, .slice zpa zpn zpc] 29))
  have EZ := Lib.hid hd
  have SZ := Lib.hid hs
  have KZ6 := Lib.hid (Blk.new w6 29 #[.int .i64 zW, .int .i64 zH, .slice za zn zc, .int .i64 zmW, .int .i64 zmH, .slice zma zmn zmc, .slice zpa zpn zpc])
  have HX6 := Lib.hid ((HX5.out.below hb).alloc (.cells #[.int .i64 zW, .int .i64 zH, .slice za zn zc, .int .i64 zmW, .int .i64 zmH, .slice zma zmn zmc, .slice zpa zpn zpc] 29))
  have KX6 := Lib.hid ((KX5.out.below' hb).alloc (.cells #[.int .i64 zW, .int .i64 zH, .slice za zn zc, .int .i64 zmW, .int .i64 zmH, .slice zma zmn zmc, .slice zpa zpn zpc] 29))
  have HY6 := Lib.hid ((HY5.out.below hb).alloc (.cells #[.int .i64 zW, .int .i64 zH, .slice za zn zc, .int .i64 zmW, .int .i64 zmH, .slice zma zmn zmc, .slice zpa zpn zpc] 29))
  have KY6 := Lib.hid ((KY5.out.below' hb).alloc (.cells #[.int .i64 zW, .int .i64 zH, .slice za zn zc, .int .i64 zmW, .int .i64 zmH, .slice zma zmn zmc, .slice zpa zpn zpc] 29))
  have HB6 := Lib.hid (bAlloc (bTrans HB5.out hb) (.cells #[.int .i64 zW, .int .i64 zH, .slice za zn zc, .int .i64 zmW, .int .i64 zmH, .slice zma zmn zmc, .slice zpa zpn zpc] 29))
  clear ho hd hs hb HX5 HY5 KX5 KY5 HB5 p0 p1 p2 p3 p4 p5 p6 p7
  obtain ⟨p0, p1, p2, p3, p4, p5, p6, p7⟩ := KX6.out.c7
  obtain ⟨s0, s1, s2, s3, s4, s5, s6, s7⟩ := KZ6.out.c7
  go_wp2_with fail
  refine (eqDesk_yes (⟨⟨zW, zH, za, zn, zc, zs⟩, ⟨zmW, zmH, zma, zmn, zmc, zms⟩, zpa, zpn, zpc, zps⟩ : Dsk) (⟨⟨xW, xH, xa, xn, xc, xs⟩, ⟨xmW, xmH, xma, xmn, xmc, xms⟩, xpa, xpn, xpc, xps⟩ : Dsk) _ (HZ6.out.rd) (HX6.out.rd) SZ.out SX.out (EZ.out.trans EX.out.symm)).mono ?_
  rintro e w7 ⟨rfl, hb⟩
  have KY7 := Lib.hid (KY6.out.below' hb)
  have HY7 := Lib.hid (HY6.out.below hb)
  have HB7 := Lib.hid (bTrans HB6.out hb)
  clear hb p0 p1 p2 p3 p4 p5 p6 p7 s0 s1 s2 s3 s4 s5 s6 s7 KY6 HY6 HB6
  obtain ⟨q0, q1, q2, q3, q4, q5, q6, q7⟩ := KY7.out.c7
  go_wp2_with fail
  refine (heldDesk (⟨⟨yW, yH, ya, yn, yc, ys⟩, ⟨ymW, ymH, yma, ymn, ymc, yms⟩, ypa, ypn, ypc, yps⟩ : Dsk) 1 _ (by exact HY7.out.rd) (by omega) (by have := NY.out; omega)).mono ?_
  rintro e w8 ⟨rfl, hb⟩
  have HB8 := Lib.hid (bTrans HB7.out hb)
  go_wp2_with fail
  go_ret
  exact ⟨rfl, HB8.out⟩

set_option maxRecDepth 100000 in
theorem lifted (os : Os) (started : os.Started) (H : Type) (enc : TypeId × Value → H) :
    ReturnsInHanded {} Try.checked os 3 .any (Rows.fnExactNewDeskSpec.pre6 enc Try.prog Try.f3 Rows.fnExactNewDeskRow.domain false) (Rows.fnExactNewDeskSpec.post enc Try.prog Try.f3 false true false false) := by
  refine returnsInHanded_of_change (C := Try.checked) own started (by kernel_rfl) Try.func3
    (ChangeSpec.witness6 (enc := enc) (C := Try.checked) false ⟨#[], #[], []⟩ 8 (by kernel_rfl) (by kernel_rfl) (by kernel_rfl) (by kernel_rfl)) ?_
  intro W base args ds gs before hval0 hW hcnd _
  have hval : ∀ (j : Nat) t v, Try.f3.params[j]? = some t → args[j]? = some v → Value.okWide Try.prog W .any base t v := hval0
  have hW' := hW
  have hlt := hW.lt
  obtain ⟨p, q, hA0, hV, rfl, hfz, hnd⟩ := hW
  have hA : DataW.TrodAll enc Try.prog W 0 (fun _ => true) true Try.f3.params.toList args.toList ds p := hA0
  rw [Try.params3] at hA hval
  obtain ⟨hargs, rfl, rfl⟩ := trodAll_nil hA
  obtain rfl : args = #[] := by cases args; simp_all
  obtain ⟨rfl, rfl⟩ := trodVars_none hV
  clear hA0 hval0
  have fin : ∀ (e : Ending) W', (e = .returned (.bool true) ∧ Below W.heap.size W W') → ∃ v, e = .returned v ∧ Rows.fnExactNewDeskSpec.post enc Try.prog Try.f3 false true false false W #[] v W' := by
    rintro e W' ⟨rfl, hb⟩
    exact ⟨_, rfl, law_post rfl rfl hW' (by kernel_rfl) rfl hb⟩
  exact (ok W).mono fin

theorem proved : Rows.FnExactNewDeskSaid :=
  OpenClaim.holds_of_wide 3 Try.f3 rfl rfl rfl rfl rfl rfl rfl ⟨rfl, rfl, rfl, rfl, rfl⟩ rfl rfl rfl rfl rfl (by kernel_rfl) Try.func3 (by kernel_rfl)
    (of_decide_eq_true (by kernel_rfl)) (by unfold Func.isWrapper; first | (rw [if_pos (by decide +kernel)]; kernel_rfl) | (rw [if_neg (by decide +kernel)]; exact ⟨rfl, rfl⟩))
    (fun os started H enc _ => lifted os started H enc)
end Go.Proofs.Ytafjpmlakpfidaa.xNewDesk
