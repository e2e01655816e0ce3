/-
  FnRanked: the ranks that are made from a field are a matrix of its size, whose cells below the number of dots are the field: the law returns true for every code. No conditions.
-/
import Derived.Test.YtnhjdmdnicnmmaaQ13
import Derived.Test.YtnhjdmdnicnmmaaM41
import Derived.Test.YtnhjdmdnicnmmaaQL
import Derived.Test.YtnhjdmdnicnmmaaFrameC
namespace Go.Proofs.Ytnhjdmdnicnmmaa.lRanked
open Go.ChangeShapes Go.WideShapes Go.ChangeAt Go.RowKit
set_option linter.unusedVariables false
set_option linter.unusedSimpArgs false

theorem limb7 {a b c d e f g : Prop} (h : a ∧ b ∧ c ∧ d ∧ e ∧ f ∧ g) : g := h.2.2.2.2.2.2

theorem rank_call (W H : Int) (b off n cap : Nat) (xs : List Int) (w : World) (hn : xs.length = n) (ha : Rd w (some ⟨b, off, none⟩) xs) (hok : fieldOk W H xs = true) (hl : (ranksG W H xs).length = n) :
    Calls Try.prog 8 #[.agg #[.int .i64 W, .int .i64 H, .slice (some ⟨b, off, none⟩) n cap]] w fun e w' => ∃ a c, e = .returned (.tuple #[.agg #[.int .i64 W, .int .i64 H, .slice a n c], .bool true]) ∧ OwnA w' w.heap.size a n c (ranksG W H xs) ∧ Below w.heap.size w w' := by
  have b6 := (field_bd hn hok).2.2.2.2.2.1
  refine (impl_RankField W H b off n cap xs w hn ha (by omega)).mono ?_
  have e1 : rankF W H xs = (⟨W, H, ranksG W H xs⟩, true) := by unfold rankF; rw [if_pos hok]
  rw [e1]
  rintro e w' ⟨a, m, c, rfl, ho, hm, hb⟩
  have h := ho.len
  rw [show (({ W := W, H := H, ranks := ranksG W H xs } : Mat), true).1.ranks = ranksG W H xs from rfl, hl] at h
  subst h
  exact ⟨a, c, rfl, ho, hb⟩

theorem cells_call (W H : Int) (a : Option Addr) (n c : Nat) (rs xs : List Int) (d : Nat) (w : World) (hn : rs.length = n) (hr : Rd w a rs) (hm : matOk W H rs = true) (hx : xs.length = n) (hc : rs.map (cellsG d) = xs) (hd : d ≤ n) (hs : sizeOk W H = true) (hl : n ≤ 256) :
    Calls Try.prog 11 #[.agg #[.int .i64 W, .int .i64 H, .slice a n c], .int .i64 d] w fun e w' => ∃ a' c', e = .returned (.agg #[.int .i64 W, .int .i64 H, .slice a' n c']) ∧ Rd w' a' xs ∧ Below w.heap.size w w' := by
  refine (impl_CellsBelow W H a n c rs d w hn hr (by omega)).mono ?_
  have e1 : cellsF W H rs d = ⟨W, H, xs⟩ := by rw [cellsF_yes hn hm (by omega) (by omega) hs, hc]
  rw [e1]
  rintro e w' ⟨a', m, c', rfl, ho, hm, hb⟩
  have h := ho.len
  rw [show ({ W := W, H := H, ink := xs } : Pic).ink = xs from rfl, hx] at h
  subst h
  exact ⟨a', c', rfl, ho.rd, hb⟩

set_option maxRecDepth 100000 in
set_option maxHeartbeats 3200000 in
theorem ok (ad0 : Option Addr) (n0 cap0 : Nat) (bs0 : List Int) (w : World) (hn0 : bs0.length = n0) (hr0 : RdU w.heap.size w ad0 bs0) (hs0 : n0 ≤ 1048576) :
    Calls Try.prog 3 #[.slice ad0 n0 cap0] w fun e w' => e = .returned (.bool true) ∧ Below w.heap.size w w' := by
  have HL := Lib.hid hn0
  have HC := Lib.hid hr0
  clear hn0 hr0
  go_enter Try.func3, Try.ntmps3
  go_wp2_with fail
  refine (mkfield_call ad0 n0 cap0 bs0 5 _ HL.out (by exact HC.out) (by omega) (by omega) (by omega)).mono ?_
  rintro e w1 ⟨W, H, g, n, xs, rfl, b1, b2, b3, b4, hq, n1, n36, hg, ho, hok, hb⟩
  have HN := Lib.hid ho.len
  have HOK := Lib.hid hok
  have HX := Lib.hid (field_bd HN.out hok).2.2.2.2.2.2.2.1
  have HSZ := Lib.hid (field_bd HN.out hok).2.2.2.2.2.2.2.2
  have HO2 := Lib.hid (ho.alloc (.cells #[.int .i64 W, .int .i64 H, .slice (some ⟨g, 0, none⟩) n n] 25))
  have KP2 := Lib.hid (Blk.new w1 25 #[.int .i64 W, .int .i64 H, .slice (some ⟨g, 0, none⟩) n n])
  have HB2 := Lib.hid (bAlloc hb (.cells #[.int .i64 W, .int .i64 H, .slice (some ⟨g, 0, none⟩) n n] 25))
  obtain ⟨d, hd⟩ : ∃ d, icount 1 xs = d := ⟨_, rfl⟩
  have dn : d ≤ n := by rw [← hd, ← HN.out]; exact icount_le _ _
  have HD := Lib.hid hd
  obtain ⟨D, U, R⟩ := ranked_is (W := W) (H := H) hok HN.out hd
  have RL := Lib.hid R.len
  have RM := Lib.hid (R.mat hok HN.out dn)
  have RC := Lib.hid (R.cells (dots_of HX.out) HN.out)
  have CR := Lib.hid (fun (v : World) hr => rank_call W H g 0 n n xs v HN.out hr hok R.len)
  obtain ⟨rs, hrs⟩ : ∃ rs, ranksG W H xs = rs := ⟨_, rfl⟩
  rw [hrs] at RL RM RC CR
  clear hg ho hok hb hq hd R hrs
  go_wp2_with fail
  refine (CR.out _ (by exact HO2.out.rd)).mono ?_
  rintro e w3 ⟨ma, mc, rfl, ho, hb⟩
  have KP4 := Lib.hid ((KP2.out.below' hb).alloc (.cells #[.int .i64 W, .int .i64 H, .slice ma n mc] 28))
  have HO4 := Lib.hid ((HO2.out.below hb HO2.out.lt).alloc (.cells #[.int .i64 W, .int .i64 H, .slice ma n mc] 28))
  have KM4 := Lib.hid (Blk.new w3 28 #[.int .i64 W, .int .i64 H, .slice ma n mc])
  have HM4 := Lib.hid (ho.rd.alloc (.cells #[.int .i64 W, .int .i64 H, .slice ma n mc] 28))
  have HB4 := Lib.hid (bAlloc (bTrans HB2.out hb) (.cells #[.int .i64 W, .int .i64 H, .slice ma n mc] 28))
  clear hb ho
  obtain ⟨wo, hwo⟩ : ∃ wo : World, wo = w3.alloc (.cells #[.int .i64 W, .int .i64 H, .slice ma n mc] 28) := ⟨_, rfl⟩
  go_upto_region 5 with fail
  rw [← hwo] at KP4 HO4 KM4 HM4 HB4 ⊢
  clear hwo
  obtain ⟨lp, p0, p1, p2⟩ := KP4.out.c3
  obtain ⟨lq, q0, q1, q2⟩ := KM4.out.c3
  have MK : Hid (∀ v, BelowL wo v → v.cell? ⟨w1.heap.size, 0, none⟩ = some (.int .i64 W) ∧ v.cell? ⟨w1.heap.size, 1, none⟩ = some (.int .i64 H) ∧ v.cell? ⟨w1.heap.size, 2, none⟩ = some (.slice (some ⟨g, 0, none⟩) n n) ∧ v.cell? ⟨w3.heap.size, 0, none⟩ = some (.int .i64 W) ∧ v.cell? ⟨w3.heap.size, 1, none⟩ = some (.int .i64 H) ∧ v.cell? ⟨w3.heap.size, 2, none⟩ = some (.slice ma n mc) ∧ BelowL wo v) := Lib.hid (fun v h => ⟨(h.out.cell lp).trans p0, (h.out.cell lp).trans p1, (h.out.cell lp).trans p2, (h.out.cell lq).trans q0, (h.out.cell lq).trans q1, (h.out.cell lq).trans q2, h⟩)
  have CI : Hid (∀ v, BelowL wo v → Calls Try.prog 9 #[.agg #[.int .i64 W, .int .i64 H, .slice ma n mc]] v fun e v' => e = .returned (.bool true) ∧ Below v.heap.size v v') := Lib.hid (fun v hv => by
    have h := impl_IsMatrix W H ma n mc rs v RL.out (HM4.out.below hv.out) (by omega)
    rw [RM.out] at h
    exact h)
  have CT : Hid (∀ v, BelowL wo v → Calls Try.prog 12 #[.slice (some ⟨g, 0, none⟩) n n] v fun e v' => e = .returned (.int .i64 (d : Int)) ∧ Below v.heap.size v v') := Lib.hid (fun v hv => total_call6 _ n n xs d v HN.out (HO4.out.rd.below hv.out) HX.out (by omega) HD.out)
  have CB : Hid (∀ v, BelowL wo v → Calls Try.prog 11 #[.agg #[.int .i64 W, .int .i64 H, .slice ma n mc], .int .i64 (d : Int)] v fun e v' => ∃ a' c', e = .returned (.agg #[.int .i64 W, .int .i64 H, .slice a' n c']) ∧ Rd v' a' xs ∧ Below v.heap.size v v') := Lib.hid (fun v hv => cells_call W H ma n mc rs xs d v RL.out (HM4.out.below hv.out) RM.out HN.out RC.out dn HSZ.out (by omega))
  have CS : Hid (∀ (v : World) (a' : Option Addr) (c' : Nat), BelowL wo v → Rd v a' xs → Calls Try.prog 10 #[.agg #[.int .i64 W, .int .i64 H, .slice a' n c'], .agg #[.int .i64 W, .int .i64 H, .slice (some ⟨g, 0, none⟩) n n]] v fun e v' => e = .returned (.bool true) ∧ Below v.heap.size v v') := Lib.hid (fun v a' c' hv hr => same_call6 W H a' n c' xs _ n n xs v HN.out hr (by omega) HN.out (HO4.out.rd.below hv.out) (by omega) rfl)
  go_region_held3 (fun v => v.cell? ⟨w1.heap.size, 0, none⟩ = some (.int .i64 W) ∧ v.cell? ⟨w1.heap.size, 1, none⟩ = some (.int .i64 H) ∧ v.cell? ⟨w1.heap.size, 2, none⟩ = some (.slice (some ⟨g, 0, none⟩) n n) ∧ v.cell? ⟨w3.heap.size, 0, none⟩ = some (.int .i64 W) ∧ v.cell? ⟨w3.heap.size, 1, none⟩ = some (.int .i64 H) ∧ v.cell? ⟨w3.heap.size, 2, none⟩ = some (.slice ma n mc) ∧ BelowL wo v)
    (first | exact MK.out _ hb4 | exact MK.out _ hb3 | exact MK.out _ hb2 | exact MK.out _ hb1 | exact MK.out _ (BelowL.start _))
    (first
      | (go_at_call 9; ((with_reducible refine (CI.out _ (limb7 (by assumption))).mono ?_); rintro e v1 ⟨rfl, hq1⟩; have hb1 := BelowL.call (limb7 (by assumption)) hq1))
      | (go_at_call 12; ((with_reducible refine (CT.out _ (limb7 (by assumption))).mono ?_); rintro e v2 ⟨rfl, hq2⟩; have hb2 := BelowL.call (limb7 (by assumption)) hq2))
      | (go_at_call 11; ((with_reducible refine (CB.out _ (limb7 (by assumption))).mono ?_); rintro e v3 ⟨ca, cc, rfl, hr3, hq3⟩; have hb3 := BelowL.call (limb7 (by assumption)) hq3; have HR3 := Lib.hid hr3; clear hr3))
      | (go_at_call 10; ((with_reducible refine (CS.out _ _ _ (limb7 (by assumption)) (by exact HR3.out)).mono ?_); rintro e v4 ⟨rfl, hq4⟩; have hb4 := BelowL.call (limb7 (by assumption)) hq4)))
  have HB5 := Lib.hid (bTrans HB4.out hb4.out)
  go_wp2_with fail
  go_ret
  exact ⟨rfl, HB5.out⟩

set_option maxHeartbeats 400000 in
theorem big (ad0 : Option Addr) (n0 cap0 : Nat) (w : World) (h : 1048576 < n0) (hl : n0 ≤ 9223372036854775807) :
    Calls Try.prog 3 #[.slice ad0 n0 cap0] w fun e w' => e = .returned (.bool true) ∧ Below w.heap.size w w' := by
  have h2 : (1048576 : Int) < (n0 : Int) := by omega
  go_enter Try.func3, Try.ntmps3
  go_wp2_with fail
  go_ret
  exact ⟨rfl, Below.refl _ _⟩

set_option maxRecDepth 100000 in
theorem lifted (os : Os) (started : os.Started) (H : Type) (enc : TypeId × Value → H) :
    ReturnsInHanded {} Try.checked os 3 .any (Rows.fnRankedSpec.pre6 enc Try.prog Try.f3 Rows.fnRankedRow.domain false) (Rows.fnRankedSpec.post enc Try.prog Try.f3 false true false false) := by
  refine returnsInHanded_of_change (C := Try.checked) own started (by kernel_rfl) Try.func3
    (ChangeSpec.witness6 (enc := enc) (C := Try.checked) false ⟨#[], #[.slice none 0 0], []⟩ 8 (by kernel_rfl) (by kernel_rfl) (by kernel_rfl) (by kernel_rfl)) ?_
  intro W base args ds gs before hval0 hW hcnd _
  have hval : ∀ (j : Nat) t v, Try.f3.params[j]? = some t → args[j]? = some v → Value.okWide Try.prog W .any base t v := hval0
  have hW' := hW
  have hlt := hW.lt
  obtain ⟨p, q, hA0, hV, rfl, hfz, hnd⟩ := hW
  have hA : DataW.TrodAll enc Try.prog W 0 (fun _ => true) true Try.f3.params.toList args.toList ds p := hA0
  rw [Try.params3] at hA hval
  obtain ⟨v0, vs0, d0, ds0, p0, q0, hargs, rfl, rfl, h0, r0⟩ := trodAll_cons hA
  obtain ⟨rfl, rfl, rfl⟩ := trodAll_nil r0
  obtain rfl : args = #[v0] := by cases args; simp_all
  obtain ⟨rfl, rfl⟩ := trodVars_none hV
  clear hA0 hval0
  obtain ⟨ad0, n0, cap0, bs0, rfl, hn0, hr0, hl0⟩ := open_code (hval 0 22 v0 rfl rfl) h0 (fun x hx => hlt x (by simp [hx]))
  have fin : ∀ (e : Ending) W', (e = .returned (.bool true) ∧ Below W.heap.size W W') → ∃ v, e = .returned v ∧ Rows.fnRankedSpec.post enc Try.prog Try.f3 false true false false W #[.slice ad0 n0 cap0] v W' := by
    rintro e W' ⟨rfl, hb⟩
    exact ⟨_, rfl, law_post rfl rfl hW' (by kernel_rfl) rfl hb⟩
  by_cases hs0 : n0 ≤ 1048576
  case neg => exact (big ad0 n0 cap0 W (by omega) hl0).mono fin
  case pos => exact (ok ad0 n0 cap0 bs0 W hn0 hr0 hs0).mono fin

theorem proved : Rows.FnRankedSaid :=
  OpenClaim.holds_of_wide 3 Try.f3 rfl rfl rfl rfl rfl rfl rfl ⟨rfl, rfl, rfl, rfl, rfl⟩ rfl rfl rfl rfl rfl (by kernel_rfl) Try.func3 (by kernel_rfl)
    (of_decide_eq_true (by kernel_rfl)) (by unfold Func.isWrapper; first | (rw [if_pos (by decide +kernel)]; kernel_rfl) | (rw [if_neg (by decide +kernel)]; exact ⟨rfl, rfl⟩))
    (fun os started H enc _ => lifted os started H enc)

end Go.Proofs.Ytnhjdmdnicnmmaa.lRanked
