/-
  FnCrowds: the crowds at all points of a field add up to its dots times the weights of one point, weights do not depend on the order, and the weight of a point and itself is 4096: the law returns true for every code. No conditions.
-/
import Derived.Test.YtnhjdmdnicnmmaaQ2
import Derived.Test.YtnhjdmdnicnmmaaC2
import Derived.Test.YtnhjdmdnicnmmaaM42
import Derived.Test.YtnhjdmdnicnmmaaQL
import Derived.Test.YtnhjdmdnicnmmaaFrameC
namespace Go.Proofs.Ytnhjdmdnicnmmaa.lCrowds
open Go.ChangeShapes Go.WideShapes Go.ChangeAt Go.RowKit
set_option linter.unusedVariables false
set_option linter.unusedSimpArgs false

theorem crowd_call (W H : Int) (a : Option Addr) (n c : Nat) (xs : List Int) (i : Nat) (w : World) (hn : xs.length = n) (hr : Rd w a xs) (hok : fieldOk W H xs = true) (hi : i < n) :
    Calls Try.prog 21 #[.agg #[.int .i64 W, .int .i64 H, .slice a n c], .int .i64 i] w fun e w' => e = .returned (.int .i64 (crowdG W H xs i)) ∧ Below w.heap.size w w' := by
  have b6 := (field_bd hn hok).2.2.2.2.2.1
  have h := impl_CrowdAt W H a n c xs i w hn hr (by omega)
  have e : crowdF W H xs i = crowdG W H xs i := by
    unfold crowdF
    rw [if_pos ⟨hok, by omega, by omega⟩]
    rfl
  rw [e] at h
  exact h

theorem pair_call (W H : Int) (a : Option Addr) (n c : Nat) (xs : List Int) (i k : Nat) (w : World) (hn : xs.length = n) (hr : Rd w a xs) (hok : fieldOk W H xs = true) (hi : i < n) (hk : k < n) :
    Calls Try.prog 22 #[.agg #[.int .i64 W, .int .i64 H, .slice a n c], .int .i64 i, .int .i64 k] w fun e w' => e = .returned (.int .i64 (wtG W H i k)) ∧ Below w.heap.size w w' := by
  have b6 := (field_bd hn hok).2.2.2.2.2.1
  have h := impl_PairWeight W H a n c xs i k w hn hr (by omega)
  have e : pairF W H xs i k = wtG W H i k := by
    unfold pairF
    rw [if_pos ⟨hok, ⟨by omega, by omega⟩, by omega, by omega⟩]
    rfl
  rw [e] at h
  exact h

theorem sumI_symm {W H : Int} (hW : 1 ≤ W) (hH : 1 ≤ H) (n : Nat) : sumI (fun i => wtG W H i 0) n = sumI (fun i => wtG W H 0 i) n := sumI_congr (fun i _ => wt_symm hW hH i 0)

set_option maxRecDepth 100000 in
set_option maxHeartbeats 3200000 in
theorem ok (ad0 : Option Addr) (n0 cap0 : Nat) (bs0 : List Int) (w : World) (hn0 : bs0.length = n0) (hr0 : RdU w.heap.size w ad0 bs0) (hs0 : n0 ≤ 1048576) :
    Calls Try.prog 6 #[.slice ad0 n0 cap0] w fun e w' => e = .returned (.bool true) ∧ Below w.heap.size w w' := by
  have HL := Lib.hid hn0
  have HC := Lib.hid hr0
  clear hn0 hr0
  go_enter Try.func6, Try.ntmps6
  go_wp2_with fail
  refine (mkfield_call ad0 n0 cap0 bs0 6 _ HL.out (by exact HC.out) (by omega) (by omega) (by omega)).mono ?_
  rintro e w1 ⟨W, H, g, n, xs, rfl, b1, b2, b3, b4, hq, n1, n36, hg, ho, hok, hb⟩
  have HN := Lib.hid ho.len
  have HOK := Lib.hid hok
  have HX := Lib.hid (field_bd HN.out hok).2.2.2.2.2.2.2.1
  have HO2 := Lib.hid (ho.alloc (.cells #[.int .i64 W, .int .i64 H, .slice (some ⟨g, 0, none⟩) n n] 25))
  have KP2 := Lib.hid (Blk.new w1 25 #[.int .i64 W, .int .i64 H, .slice (some ⟨g, 0, none⟩) n n])
  have HB2 := Lib.hid (bAlloc hb (.cells #[.int .i64 W, .int .i64 H, .slice (some ⟨g, 0, none⟩) n n] 25))
  have SUM := Lib.hid (crowds_all (W := W) (H := H) (xs := xs) b1 b2 b3 b4 HN.out hq)
  have SYM := Lib.hid (sumI_symm (W := W) (H := H) b1 b3 n)
  obtain ⟨d, hd⟩ : ∃ d, icount 1 xs = d := ⟨_, rfl⟩
  rw [hd] at SUM
  have dn : d ≤ n := by rw [← hd, ← HN.out]; exact icount_le _ _
  have HD := Lib.hid hd
  have CB := Lib.hid (fun k (hk : k ≤ n) => sumI_bd (f := fun i => crowdG W H xs i) (n := n) (M := 1048576) (fun i _ => crowdG_bd HN.out hok i) k hk)
  have WB := Lib.hid (fun k (hk : k ≤ n) => sumI_bd (f := fun i => wtG W H 0 i) (n := n) (M := 4096) (fun i _ => wt_bd b1 b3 0 i) k hk)
  have HQ := Lib.hid hq
  have HQA := Lib.hid (Nat.mod_lt (atF bs0 n0 1) (show 0 < n by omega))
  have e9 : ((atF bs0 n0 1 : Nat) : Int).tmod (n : Int) = ((atF bs0 n0 1 % n : Nat) : Int) := by rw [Int.tmod_eq_emod_of_nonneg (by omega)]; simp
  have E9 := Lib.hid e9
  have CA := Lib.hid (fun (v : World) (hv : RdU w.heap.size v ad0 bs0) => at_call6 w.heap.size ad0 n0 cap0 bs0 1 v HL.out hv hs0 (by omega))
  have AB : Hid (((atF bs0 n0 1 : Nat) : Int) ≤ 1000) := Lib.hid (by
    unfold atF
    by_cases h1 : 1 < n0
    · rw [if_pos h1]
      obtain ⟨⟨u0, u1⟩, _⟩ := HC.out 1 (by have := HL.out; omega)
      omega
    · rw [if_neg h1]; omega)
  obtain ⟨K, hK⟩ : ∃ K, atF bs0 n0 1 % n = K := ⟨_, rfl⟩
  rw [hK] at HQA E9
  obtain ⟨A, hA⟩ : ∃ A : Int, ((atF bs0 n0 1 : Nat) : Int) = A := ⟨_, rfl⟩
  rw [hA] at E9 CA AB
  clear hg ho hok hb hq hd e9 hA hK
  have kn := HQA.out
  obtain ⟨w2, hw2⟩ : ∃ w2 : World, w2 = w1.alloc (.cells #[.int .i64 W, .int .i64 H, .slice (some ⟨g, 0, none⟩) n n] 25) := ⟨_, rfl⟩
  go_upto_region 4 with fail
  rw [← hw2] at HO2 KP2 HB2 ⊢
  clear hw2
  obtain ⟨lp, p0, p1, p2⟩ := KP2.out.c3
  go_wp2_with fail
  go_loopw [4, 5, 15] (fun s t i wr => ∃ k : Nat, k ≤ n ∧ i = .int .i64 k ∧ s = .int .i64 (sumI (fun i => crowdG W H xs i) k) ∧ t = .int .i64 (sumI (fun i => wtG W H 0 i) k) ∧ Hid (Below w2.heap.size w2 wr)) (fun _ _ i _ => n - (intOf i).toNat)
  case atStart => exact ⟨0, Nat.zero_le _, rfl, rfl, rfl, Lib.hid (Below.refl _ _)⟩
  case round =>
    obtain ⟨k, hk, rfl, rfl, rfl, HW⟩ := hrel
    have KPr := Lib.hid (KP2.out.below' HW.out)
    have HOr := Lib.hid (HO2.out.below HW.out HO2.out.lt)
    have HBr := Lib.hid (bTrans HB2.out HW.out)
    obtain ⟨s1, s2⟩ := CB.out k hk
    obtain ⟨t1, t2⟩ := WB.out k hk
    by_cases hlt : k < n
    · have ES : Hid (sumI (fun i => crowdG W H xs i) (k + 1) = sumI (fun i => crowdG W H xs i) k + crowdG W H xs k) := Lib.hid rfl
      have ET : Hid (sumI (fun i => wtG W H 0 i) (k + 1) = sumI (fun i => wtG W H 0 i) k + wtG W H 0 k) := Lib.hid rfl
      obtain ⟨c1, c2⟩ := crowdG_bd HN.out HOK.out k
      obtain ⟨v1, v2⟩ := wt_bd b1 b3 0 k
      have FC := Lib.hid (fun (v : World) hr => crowd_call W H (some ⟨g, 0, none⟩) n n xs k v HN.out hr HOK.out hlt)
      have FP := Lib.hid (fun (v : World) hr => pair_call W H (some ⟨g, 0, none⟩) n n xs 0 k v HN.out hr HOK.out (by omega) hlt)
      have F1 := Lib.hid (fun (v : World) hr => pair_call W H (some ⟨g, 0, none⟩) n n xs k K v HN.out hr HOK.out hlt kn)
      have F2 := Lib.hid (fun (v : World) hr => pair_call W H (some ⟨g, 0, none⟩) n n xs K k v HN.out hr HOK.out kn hlt)
      have hsy := wt_symm b1 b3 K k
      obtain ⟨S, hS⟩ : ∃ S, sumI (fun i => crowdG W H xs i) k = S := ⟨_, rfl⟩
      obtain ⟨T, hT⟩ : ∃ T, sumI (fun i => wtG W H 0 i) k = T := ⟨_, rfl⟩
      obtain ⟨C, hCC⟩ : ∃ C, crowdG W H xs k = C := ⟨_, rfl⟩
      obtain ⟨V, hV⟩ : ∃ V, wtG W H 0 k = V := ⟨_, rfl⟩
      obtain ⟨X, hX⟩ : ∃ X, wtG W H k K = X := ⟨_, rfl⟩
      rw [hS] at s1 s2 ES
      rw [hT] at t1 t2 ET
      rw [hCC] at c1 c2 ES FC
      rw [hV] at v1 v2 ET FP
      rw [hsy, hX] at F2
      rw [hX] at F1
      rw [hS, hT]
      have k36 : (k : Int) ≤ 36 := by omega
      have s3 : S ≤ 37748736 := by omega
      have t3 : T ≤ 147456 := by omega
      clear k36
      clear hS hT hCC hV hX hsy s2 t2 p0 p1 p2 lp
      obtain ⟨lp, p0, p1, p2⟩ := KPr.out.c3
      go_wp2_with fail
      refine (FC.out _ (by exact HOr.out.rd)).mono ?_
      rintro e w3 ⟨rfl, hb⟩
      have KP3 := Lib.hid (KPr.out.below' hb)
      have HO3 := Lib.hid (HOr.out.below hb HOr.out.lt)
      have HW3 := Lib.hid (bTrans HW.out hb)
      clear hb p0 p1 p2 lp
      obtain ⟨lp, p0, p1, p2⟩ := KP3.out.c3
      go_wp2_with fail
      refine (FP.out _ (by exact HO3.out.rd)).mono ?_
      rintro e w4 ⟨rfl, hb⟩
      have KP4 := Lib.hid (KP3.out.below' hb)
      have HO4 := Lib.hid (HO3.out.below hb HO3.out.lt)
      have HW4 := Lib.hid (bTrans HW3.out hb)
      clear hb p0 p1 p2 lp
      obtain ⟨lp, p0, p1, p2⟩ := KP4.out.c3
      go_upto_region 11 with fail
      have MK : Hid (∀ v, BelowL w4 v → v.cell? ⟨w1.heap.size, 0, none⟩ = some (.int .i64 W) ∧ v.cell? ⟨w1.heap.size, 1, none⟩ = some (.int .i64 H) ∧ v.cell? ⟨w1.heap.size, 2, none⟩ = some (.slice (some ⟨g, 0, none⟩) n n) ∧ BelowL w4 v) := Lib.hid (fun v h => ⟨(h.out.cell lp).trans p0, (h.out.cell lp).trans p1, (h.out.cell lp).trans p2, h⟩)
      have G1 : Hid (∀ v, BelowL w4 v → Calls Try.prog 22 #[.agg #[.int .i64 W, .int .i64 H, .slice (some ⟨g, 0, none⟩) n n], .int .i64 k, .int .i64 K] v fun e v' => e = .returned (.int .i64 X) ∧ Below v.heap.size v v') := Lib.hid (fun v hv => F1.out v (HO4.out.rd.below hv.out))
      have G2 : Hid (∀ v, BelowL w4 v → Calls Try.prog 22 #[.agg #[.int .i64 W, .int .i64 H, .slice (some ⟨g, 0, none⟩) n n], .int .i64 K, .int .i64 k] v fun e v' => e = .returned (.int .i64 X) ∧ Below v.heap.size v v') := Lib.hid (fun v hv => F2.out v (HO4.out.rd.below hv.out))
      have GA : Hid (∀ v, BelowL w4 v → Calls Try.prog 23 #[.slice ad0 n0 cap0, .int .i64 1] v fun e v' => e = .returned (.int .i64 A) ∧ Below v.heap.size v v') := Lib.hid (fun v hv => CA.out v (HC.out.below ((HB2.out.trans (HW4.out.mono HB2.out.size)).trans (hv.out.mono (Nat.le_trans HB2.out.size HW4.out.size)))))
      have e9 := E9.out
      have e8 : IntKind.i64.wrap (K : Int) = K := IntWalk.i64_in _ (by omega)
      have z1 : ¬ (n : Int) = 0 := by omega
      have z2 : ((n : Int) == 0) = false := by simp; omega
      have z3 : ¬ n = 0 := by omega
      have z4 : (n == 0) = false := by simp; omega
      go_region_held3 (fun v => v.cell? ⟨w1.heap.size, 0, none⟩ = some (.int .i64 W) ∧ v.cell? ⟨w1.heap.size, 1, none⟩ = some (.int .i64 H) ∧ v.cell? ⟨w1.heap.size, 2, none⟩ = some (.slice (some ⟨g, 0, none⟩) n n) ∧ BelowL w4 v)
        (first | exact MK.out _ hb4 | exact MK.out _ hb3 | exact MK.out _ hb2 | exact MK.out _ hb1 | exact MK.out _ (BelowL.start _))
        (first
          | (go_at_call 23; ((with_reducible refine (GA.out _ (limb4 (by assumption))).mono ?_); rintro e v1 ⟨rfl, hq1⟩; have hb1 := BelowL.call (limb4 (by assumption)) hq1))
          | (go_at_call 22; ((with_reducible refine (G1.out _ (limb4 (by assumption))).mono ?_); rintro e v2 ⟨rfl, hq2⟩; have hb2 := BelowL.call (limb4 (by assumption)) hq2))
          | (go_at_call 22; ((with_reducible refine (G2.out _ (limb4 (by assumption))).mono ?_); rintro e v4 ⟨rfl, hq4⟩; have hb4 := BelowL.call (limb4 (by assumption)) hq4)))
      have HW5 := Lib.hid (bTrans HW4.out hb4.out)
      clear e9 e8 z1 z2 z3 z4 MK G1 G2 GA
      go_wp2_with fail
      go_roundw
      case rel => exact ⟨k + 1, by omega, by go_num, by rw [ES.out], by rw [ET.out], HW5⟩
      case measure => simp [intOf]; omega
    · obtain rfl : n = k := by omega
      have e1 := SUM.out
      rw [SYM.out] at e1
      obtain ⟨S, hS⟩ : ∃ S, sumI (fun i => crowdG W H xs i) n = S := ⟨_, rfl⟩
      obtain ⟨T, hT⟩ : ∃ T, sumI (fun i => wtG W H 0 i) n = T := ⟨_, rfl⟩
      rw [hS] at s1 s2 e1 ⊢
      rw [hT] at e1 ⊢
      have n36i : (n : Int) ≤ 36 := by omega
      have u1 : IntKind.i64.wrap (T * (d : Int)) = S := by rw [← e1]; exact IntWalk.i64_in _ (by omega)
      have FP := Lib.hid (fun (v : World) hr => pair_call W H (some ⟨g, 0, none⟩) n n xs 0 0 v HN.out hr HOK.out (by omega) (by omega))
      rw [wt_self b1 b3 0] at FP
      have FT := Lib.hid (fun (v : World) hr => total_call6 (some ⟨g, 0, none⟩) n n xs d v HN.out hr HX.out (by omega) HD.out)
      clear e1 hS hT p0 p1 p2 lp hlt t1 t2 s1 s2
      obtain ⟨lp, p0, p1, p2⟩ := KPr.out.c3
      go_wp2_with fail
      refine (FT.out _ (by exact HOr.out.rd)).mono ?_
      rintro e w3 ⟨rfl, hb⟩
      have KP3 := Lib.hid (KPr.out.below' hb)
      have HO3 := Lib.hid (HOr.out.below hb HOr.out.lt)
      have HB3 := Lib.hid (bTrans HBr.out hb)
      clear hb p0 p1 p2 lp
      obtain ⟨lp, p0, p1, p2⟩ := KP3.out.c3
      go_wp2_with fail
      refine (FP.out _ (by exact HO3.out.rd)).mono ?_
      rintro e w4 ⟨rfl, hb⟩
      have HB4 := Lib.hid (bTrans HB3.out hb)
      clear hb
      go_wp2_with fail
      go_ret
      exact ⟨rfl, HB4.out⟩

set_option maxHeartbeats 400000 in
theorem big (ad0 : Option Addr) (n0 cap0 : Nat) (w : World) (h : 1048576 < n0) (hl : n0 ≤ 9223372036854775807) :
    Calls Try.prog 6 #[.slice ad0 n0 cap0] w fun e w' => e = .returned (.bool true) ∧ Below w.heap.size w w' := by
  have h2 : (1048576 : Int) < (n0 : Int) := by omega
  go_enter Try.func6, Try.ntmps6
  go_wp2_with fail
  go_ret
  exact ⟨rfl, Below.refl _ _⟩

set_option maxRecDepth 100000 in
theorem lifted (os : Os) (started : os.Started) (H : Type) (enc : TypeId × Value → H) :
    ReturnsInHanded {} Try.checked os 6 .any (Rows.fnCrowdsSpec.pre6 enc Try.prog Try.f6 Rows.fnCrowdsRow.domain false) (Rows.fnCrowdsSpec.post enc Try.prog Try.f6 false true false false) := by
  refine returnsInHanded_of_change (C := Try.checked) own started (by kernel_rfl) Try.func6
    (ChangeSpec.witness6 (enc := enc) (C := Try.checked) false ⟨#[], #[.slice none 0 0], []⟩ 8 (by kernel_rfl) (by kernel_rfl) (by kernel_rfl) (by kernel_rfl)) ?_
  intro W base args ds gs before hval0 hW hcnd _
  have hval : ∀ (j : Nat) t v, Try.f6.params[j]? = some t → args[j]? = some v → Value.okWide Try.prog W .any base t v := hval0
  have hW' := hW
  have hlt := hW.lt
  obtain ⟨p, q, hA0, hV, rfl, hfz, hnd⟩ := hW
  have hA : DataW.TrodAll enc Try.prog W 0 (fun _ => true) true Try.f6.params.toList args.toList ds p := hA0
  rw [Try.params6] at hA hval
  obtain ⟨v0, vs0, d0, ds0, p0, q0, hargs, rfl, rfl, h0, r0⟩ := trodAll_cons hA
  obtain ⟨rfl, rfl, rfl⟩ := trodAll_nil r0
  obtain rfl : args = #[v0] := by cases args; simp_all
  obtain ⟨rfl, rfl⟩ := trodVars_none hV
  clear hA0 hval0
  obtain ⟨ad0, n0, cap0, bs0, rfl, hn0, hr0, hl0⟩ := open_code (hval 0 22 v0 rfl rfl) h0 (fun x hx => hlt x (by simp [hx]))
  have fin : ∀ (e : Ending) W', (e = .returned (.bool true) ∧ Below W.heap.size W W') → ∃ v, e = .returned v ∧ Rows.fnCrowdsSpec.post enc Try.prog Try.f6 false true false false W #[.slice ad0 n0 cap0] v W' := by
    rintro e W' ⟨rfl, hb⟩
    exact ⟨_, rfl, law_post rfl rfl hW' (by kernel_rfl) rfl hb⟩
  by_cases hs0 : n0 ≤ 1048576
  case neg => exact (big ad0 n0 cap0 W (by omega) hl0).mono fin
  case pos => exact (ok ad0 n0 cap0 bs0 W hn0 hr0 hs0).mono fin

theorem proved : Rows.FnCrowdsSaid :=
  OpenClaim.holds_of_wide 6 Try.f6 rfl rfl rfl rfl rfl rfl rfl ⟨rfl, rfl, rfl, rfl, rfl⟩ rfl rfl rfl rfl rfl (by kernel_rfl) Try.func6 (by kernel_rfl)
    (of_decide_eq_true (by kernel_rfl)) (by unfold Func.isWrapper; first | (rw [if_pos (by decide +kernel)]; kernel_rfl) | (rw [if_neg (by decide +kernel)]; exact ⟨rfl, rfl⟩))
    (fun os started H enc _ => lifted os started H enc)

end Go.Proofs.Ytnhjdmdnicnmmaa.lCrowds
