/-
  FnEvened: a field that is evened out is a plate of its width with its dots, in at most 20 steps, and where the steps ended ahead of 20 a further step changes nothing: the law returns true for every code. No conditions.
-/
import Derived.Test.YtnhjdmdnicnmmaaQ12
import Derived.Test.YtnhjdmdnicnmmaaC2
import Derived.Test.YtnhjdmdnicnmmaaM42
import Derived.Test.YtnhjdmdnicnmmaaQL
import Derived.Test.YtnhjdmdnicnmmaaFrameC
namespace Go.Proofs.Ytnhjdmdnicnmmaa.lEvened
open Go.ChangeShapes Go.WideShapes Go.ChangeAt Go.RowKit
set_option linter.unusedVariables false
set_option linter.unusedSimpArgs false

theorem limb7 {a b c d e f : Prop} (h : a ∧ b ∧ c ∧ d ∧ e ∧ f) : f := h.2.2.2.2.2

set_option maxRecDepth 100000 in
set_option maxHeartbeats 3200000 in
theorem ok (ad0 : Option Addr) (n0 cap0 : Nat) (bs0 : List Int) (w : World) (hn0 : bs0.length = n0) (hr0 : RdU w.heap.size w ad0 bs0) (hs0 : n0 ≤ 1048576) :
    Calls Try.prog 5 #[.slice ad0 n0 cap0] w fun e w' => e = .returned (.bool true) ∧ Below w.heap.size w w' := by
  have HL := Lib.hid hn0
  have HC := Lib.hid hr0
  clear hn0 hr0
  go_enter Try.func5, Try.ntmps5
  go_wp2_with fail
  refine (mkfield_call ad0 n0 cap0 bs0 5 _ HL.out (by exact HC.out) (by omega) (by omega) (by omega)).mono ?_
  rintro e w1 ⟨W, H, g, n, xs, rfl, b1, b2, b3, b4, hq, n1, n36, hg, ho, hok, hb⟩
  have HN := Lib.hid ho.len
  have HOK := Lib.hid hok
  have HX := Lib.hid (field_bd HN.out hok).2.2.2.2.2.2.2.1
  have HO2 := Lib.hid (ho.alloc (.cells #[.int .i64 W, .int .i64 H, .slice (some ⟨g, 0, none⟩) n n] 25))
  have KP2 := Lib.hid (Blk.new w1 25 #[.int .i64 W, .int .i64 H, .slice (some ⟨g, 0, none⟩) n n])
  have HB2 := Lib.hid (bAlloc hb (.cells #[.int .i64 W, .int .i64 H, .slice (some ⟨g, 0, none⟩) n n] 25))
  have ER : Hid (evenR W H xs 20 = ((evenG W H 20 xs).1, ((evenG W H 20 xs).2 : Int))) := Lib.hid (by unfold evenR; rw [if_pos ⟨hok, by omega, by omega⟩]; rfl)
  have EL : Hid ((evenG W H 20 xs).1.length = n) := Lib.hid (by rw [even_len]; exact HN.out)
  have EF := Lib.hid (field_even 20 hok)
  have EC := Lib.hid (even_count 20 hok)
  have EN := even_le W H 20 xs
  have ES := Lib.hid (even_stop (W := W) (H := H) 20 (xs := xs))
  obtain ⟨Q, hQ⟩ : ∃ Q, (evenG W H 20 xs).1 = Q := ⟨_, rfl⟩
  obtain ⟨N, hN⟩ : ∃ N, (evenG W H 20 xs).2 = N := ⟨_, rfl⟩
  rw [hQ] at ER EL EF EC ES
  rw [hN] at ER EN ES
  obtain ⟨d, hd⟩ : ∃ d, icount 1 xs = d := ⟨_, rfl⟩
  rw [hd] at EC
  have HD := Lib.hid hd
  have HQ := Lib.hid hq
  clear hg ho hok hb hq hQ hN hd
  go_wp2_with fail
  refine (impl_EvenField W H g 0 n n xs 20 _ HN.out (by exact HO2.out.rd) (by omega)).mono ?_
  rw [ER.out]
  rintro e w3 ⟨qa, qc, rfl, ho, hb⟩
  obtain ⟨gq, rfl, hgq, hoq⟩ : ∃ g, qa = some ⟨g, 0, none⟩ ∧ 0 ≤ g ∧ Own w3 g n qc Q := by
    rcases ho with ⟨_, h, _⟩ | ⟨g, h1, h2, h3⟩
    · omega
    · exact ⟨g, h1, Nat.zero_le _, h3⟩
  have KP4 := Lib.hid ((KP2.out.below' hb).alloc (.cells #[.int .i64 W, .int .i64 H, .slice (some ⟨gq, 0, none⟩) n qc] 25))
  have HO4 := Lib.hid ((HO2.out.below hb HO2.out.lt).alloc (.cells #[.int .i64 W, .int .i64 H, .slice (some ⟨gq, 0, none⟩) n qc] 25))
  have KQ4 := Lib.hid (Blk.new w3 25 #[.int .i64 W, .int .i64 H, .slice (some ⟨gq, 0, none⟩) n qc])
  have HQ4 := Lib.hid (hoq.alloc (.cells #[.int .i64 W, .int .i64 H, .slice (some ⟨gq, 0, none⟩) n qc] 25))
  have HB4 := Lib.hid (bAlloc (bTrans HB2.out hb) (.cells #[.int .i64 W, .int .i64 H, .slice (some ⟨gq, 0, none⟩) n qc] 25))
  clear hb ho hoq hgq
  obtain ⟨wo, hwo⟩ : ∃ wo : World, wo = w3.alloc (.cells #[.int .i64 W, .int .i64 H, .slice (some ⟨gq, 0, none⟩) n qc] 25) := ⟨_, rfl⟩
  go_upto_region 5 with fail
  rw [← hwo] at KP4 HO4 KQ4 HQ4 HB4 ⊢
  clear hwo
  obtain ⟨lp, p0, p1, p2⟩ := KP4.out.c3
  obtain ⟨lq, q0, q1, q2⟩ := KQ4.out.c3
  have MK : Hid (∀ v, BelowL wo v → v.cell? ⟨w1.heap.size, 0, none⟩ = some (.int .i64 W) ∧ v.cell? ⟨w1.heap.size, 2, none⟩ = some (.slice (some ⟨g, 0, none⟩) n n) ∧ v.cell? ⟨w3.heap.size, 0, none⟩ = some (.int .i64 W) ∧ v.cell? ⟨w3.heap.size, 1, none⟩ = some (.int .i64 H) ∧ v.cell? ⟨w3.heap.size, 2, none⟩ = some (.slice (some ⟨gq, 0, none⟩) n qc) ∧ BelowL wo v) := Lib.hid (fun v h => ⟨(h.out.cell lp).trans p0, (h.out.cell lp).trans p2, (h.out.cell lq).trans q0, (h.out.cell lq).trans q1, (h.out.cell lq).trans q2, h⟩)
  have CP : Hid (∀ v, BelowL wo v → Calls Try.prog 18 #[.agg #[.int .i64 W, .int .i64 H, .slice (some ⟨gq, 0, none⟩) n qc]] v fun e v' => e = .returned (.bool true) ∧ Below v.heap.size v v') := Lib.hid (fun v hv => by
    have h := impl_IsPlate W H (some ⟨gq, 0, none⟩) n qc Q v EL.out (HQ4.out.rd.below hv.out) (by omega)
    have h2 := EF.out
    unfold fieldOk at h2
    simp only [Bool.and_eq_true] at h2
    rw [h2.1] at h
    exact h)
  have CC : Hid (∀ v, BelowL wo v → Calls Try.prog 19 #[.agg #[.int .i64 W, .int .i64 H, .slice (some ⟨gq, 0, none⟩) n qc], .int .i64 1] v fun e v' => e = .returned (.int .i64 (d : Int)) ∧ Below v.heap.size v v') := Lib.hid (fun v hv => by
    have h := impl_CountInk W H (some ⟨gq, 0, none⟩) n qc Q 1 v EL.out (HQ4.out.rd.below hv.out) (by omega)
    have h2 := EF.out
    unfold fieldOk at h2
    simp only [Bool.and_eq_true] at h2
    unfold countF at h
    rw [if_pos (picOk_le h2.1), EC.out] at h
    exact h)
  have CT : Hid (∀ v, BelowL wo v → Calls Try.prog 12 #[.slice (some ⟨g, 0, none⟩) n n] v fun e v' => e = .returned (.int .i64 (d : Int)) ∧ Below v.heap.size v v') := Lib.hid (fun v hv => total_call6 _ n n xs d v HN.out (HO4.out.rd.below hv.out) HX.out (by omega) HD.out)
  have en0 : 0 ≤ (N : Int) := by omega
  have en1 : (N : Int) ≤ 20 := by omega
  go_region_held3 (fun v => v.cell? ⟨w1.heap.size, 0, none⟩ = some (.int .i64 W) ∧ v.cell? ⟨w1.heap.size, 2, none⟩ = some (.slice (some ⟨g, 0, none⟩) n n) ∧ v.cell? ⟨w3.heap.size, 0, none⟩ = some (.int .i64 W) ∧ v.cell? ⟨w3.heap.size, 1, none⟩ = some (.int .i64 H) ∧ v.cell? ⟨w3.heap.size, 2, none⟩ = some (.slice (some ⟨gq, 0, none⟩) n qc) ∧ BelowL wo v)
    (first | exact MK.out _ hb3 | exact MK.out _ hb2 | exact MK.out _ hb1 | exact MK.out _ (BelowL.start _))
    (first
      | (go_at_call 18; ((with_reducible refine (CP.out _ (limb7 (by assumption))).mono ?_); rintro e v1 ⟨rfl, hq1⟩; have hb1 := BelowL.call (limb7 (by assumption)) hq1))
      | (go_at_call 19; ((with_reducible refine (CC.out _ (limb7 (by assumption))).mono ?_); rintro e v2 ⟨rfl, hq2⟩; have hb2 := BelowL.call (limb7 (by assumption)) hq2))
      | (go_at_call 12; ((with_reducible refine (CT.out _ (limb7 (by assumption))).mono ?_); rintro e v3 ⟨rfl, hq3⟩; have hb3 := BelowL.call (limb7 (by assumption)) hq3)))
  have HB5 := Lib.hid (bTrans HB4.out hb3.out)
  have KQ5 := Lib.hid (KQ4.out.below' hb3.out)
  have HQ5 := Lib.hid (HQ4.out.below hb3.out HQ4.out.lt)
  clear hq1 hq2 hq3 hb1 hb2 hb3 MK CP CC CT p0 p1 p2 q0 q1 q2 lp lq
  obtain ⟨lq, q0, q1, q2⟩ := KQ5.out.c3
  go_wp2_with fail
  all_goals (try (exfalso; omega))
  refine (impl_SwapStep W H gq 0 n qc Q _ EL.out (by exact HQ5.out.rd) (by omega)).mono ?_
  rw [swapR_yes EF.out]
  obtain ⟨S, hS⟩ : ∃ S, swapG W H Q = S := ⟨_, rfl⟩
  obtain ⟨S1, S2⟩ := S
  rw [hS]
  rintro e w6 ⟨sa, sc, rfl, ho, hb⟩
  dsimp only at ho
  have LS : Hid (S1.length = n) := Lib.hid (by have h := swap_len W H Q; rw [hS] at h; dsimp only at h; rw [h]; exact EL.out)
  have HS := Lib.hid hS
  have HS7 := Lib.hid (ho.alloc (.cells #[.int .i64 W, .int .i64 H, .slice sa n sc] 25))
  have KS7 := Lib.hid (Blk.new w6 25 #[.int .i64 W, .int .i64 H, .slice sa n sc])
  have KQ7 := Lib.hid ((KQ5.out.below' hb).alloc (.cells #[.int .i64 W, .int .i64 H, .slice sa n sc] 25))
  have HQ7 := Lib.hid ((HQ5.out.below hb HQ5.out.lt).alloc (.cells #[.int .i64 W, .int .i64 H, .slice sa n sc] 25))
  have HB7 := Lib.hid (bAlloc (bTrans HB5.out hb) (.cells #[.int .i64 W, .int .i64 H, .slice sa n sc] 25))
  clear ho hb hS lq q0 q1 q2
  obtain ⟨wr, hwr⟩ : ∃ wr : World, wr = w6.alloc (.cells #[.int .i64 W, .int .i64 H, .slice sa n sc] 25) := ⟨_, rfl⟩
  go_upto_region 8 with fail
  rw [← hwr] at HS7 KS7 KQ7 HQ7 HB7 ⊢
  clear hwr
  obtain ⟨lq, q0, q1, q2⟩ := KQ7.out.c3
  obtain ⟨ls, s0, s1, s2⟩ := KS7.out.c3
  by_cases h20 : N = 20
  · subst h20
    go_wp2_with fail
    go_ret
    exact ⟨rfl, HB7.out⟩
  · have hs2 : S2 = false := by
      have h := ES.out (by omega)
      rw [HS.out] at h
      exact h
    have hs1 : S1 = Q := by
      have h := swap_same (W := W) (H := H) (xs := Q) (by rw [HS.out]; exact hs2)
      rw [HS.out] at h
      exact h
    have HSQ := Lib.hid hs1
    have hq20 : ((N : Int) == 20) = false := by simp; omega
    subst hs2
    clear hs1 h20
    go_wp2_with fail
    refine (same_call6 W H sa n sc S1 _ n qc Q _ LS.out (by exact HS7.out.rd) (by omega) EL.out (by exact HQ7.out.rd) (by omega) HSQ.out).mono ?_
    rintro e w8 ⟨rfl, hb⟩
    have HB8 := Lib.hid (bTrans HB7.out hb)
    clear hb
    go_wp2_with fail
    go_ret
    exact ⟨rfl, HB8.out⟩

set_option maxHeartbeats 400000 in
theorem big (ad0 : Option Addr) (n0 cap0 : Nat) (w : World) (h : 1048576 < n0) (hl : n0 ≤ 9223372036854775807) :
    Calls Try.prog 5 #[.slice ad0 n0 cap0] w fun e w' => e = .returned (.bool true) ∧ Below w.heap.size w w' := by
  have h2 : (1048576 : Int) < (n0 : Int) := by omega
  go_enter Try.func5, Try.ntmps5
  go_wp2_with fail
  go_ret
  exact ⟨rfl, Below.refl _ _⟩

set_option maxRecDepth 100000 in
theorem lifted (os : Os) (started : os.Started) (H : Type) (enc : TypeId × Value → H) :
    ReturnsInHanded {} Try.checked os 5 .any (Rows.fnEvenedSpec.pre6 enc Try.prog Try.f5 Rows.fnEvenedRow.domain false) (Rows.fnEvenedSpec.post enc Try.prog Try.f5 false true false false) := by
  refine returnsInHanded_of_change (C := Try.checked) own started (by kernel_rfl) Try.func5
    (ChangeSpec.witness6 (enc := enc) (C := Try.checked) false ⟨#[], #[.slice none 0 0], []⟩ 8 (by kernel_rfl) (by kernel_rfl) (by kernel_rfl) (by kernel_rfl)) ?_
  intro W base args ds gs before hval0 hW hcnd _
  have hval : ∀ (j : Nat) t v, Try.f5.params[j]? = some t → args[j]? = some v → Value.okWide Try.prog W .any base t v := hval0
  have hW' := hW
  have hlt := hW.lt
  obtain ⟨p, q, hA0, hV, rfl, hfz, hnd⟩ := hW
  have hA : DataW.TrodAll enc Try.prog W 0 (fun _ => true) true Try.f5.params.toList args.toList ds p := hA0
  rw [Try.params5] at hA hval
  obtain ⟨v0, vs0, d0, ds0, p0, q0, hargs, rfl, rfl, h0, r0⟩ := trodAll_cons hA
  obtain ⟨rfl, rfl, rfl⟩ := trodAll_nil r0
  obtain rfl : args = #[v0] := by cases args; simp_all
  obtain ⟨rfl, rfl⟩ := trodVars_none hV
  clear hA0 hval0
  obtain ⟨ad0, n0, cap0, bs0, rfl, hn0, hr0, hl0⟩ := open_code (hval 0 22 v0 rfl rfl) h0 (fun x hx => hlt x (by simp [hx]))
  have fin : ∀ (e : Ending) W', (e = .returned (.bool true) ∧ Below W.heap.size W W') → ∃ v, e = .returned v ∧ Rows.fnEvenedSpec.post enc Try.prog Try.f5 false true false false W #[.slice ad0 n0 cap0] v W' := by
    rintro e W' ⟨rfl, hb⟩
    exact ⟨_, rfl, law_post rfl rfl hW' (by kernel_rfl) rfl hb⟩
  by_cases hs0 : n0 ≤ 1048576
  case neg => exact (big ad0 n0 cap0 W (by omega) hl0).mono fin
  case pos => exact (ok ad0 n0 cap0 bs0 W hn0 hr0 hs0).mono fin

theorem proved : Rows.FnEvenedSaid :=
  OpenClaim.holds_of_wide 5 Try.f5 rfl rfl rfl rfl rfl rfl rfl ⟨rfl, rfl, rfl, rfl, rfl⟩ rfl rfl rfl rfl rfl (by kernel_rfl) Try.func5 (by kernel_rfl)
    (of_decide_eq_true (by kernel_rfl)) (by unfold Func.isWrapper; first | (rw [if_pos (by decide +kernel)]; kernel_rfl) | (rw [if_neg (by decide +kernel)]; exact ⟨rfl, rfl⟩))
    (fun os started H enc _ => lifted os started H enc)

end Go.Proofs.Ytnhjdmdnicnmmaa.lEvened
