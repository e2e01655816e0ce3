/-
  FnDots: the text of a plate is read back, and a text that is cut is read only if it is one of a plate: the law returns true for every code. No conditions.
-/
import Derived.Test.YtipcahcljfheaaaW31
import Derived.Test.YtipcahcljfheaaaW23a
import Derived.Test.YtipcahcljfheaaaFrameC
namespace Go.Proofs.Ytipcahcljfheaaa.lDots
open Go.ChangeShapes Go.WideShapes Go.ChangeAt Go.RowKit
set_option linter.unusedVariables false
set_option linter.unusedSimpArgs false

theorem at_callI (B : Nat) (ac : Option Addr) (nc capc : Nat) (bs : List Int) (i : Int) (w : World) (hl : bs.length = nc) (hr : RdU B w ac bs) (hn : nc ≤ 1048576) (h0 : 0 ≤ i) (h1 : i ≤ 100) :
    Calls Try.prog 7 #[.slice ac nc capc, .int .i64 i] w fun e w' => ∃ v : Nat, e = .returned (.int .i64 (v : Int)) ∧ v ≤ 255 ∧ Below w.heap.size w w' := by
  have h := at_call6 B ac nc capc bs i.toNat w hl hr hn (by omega)
  rw [Int.toNat_of_nonneg h0] at h
  refine h.mono (fun e w' ⟨he, hb⟩ => ⟨_, he, ?_, hb⟩)
  unfold atF
  by_cases h1 : i.toNat < nc
  · rw [if_pos h1]
    obtain ⟨⟨u0, u1⟩, _⟩ := hr i.toNat (by omega)
    omega
  · rw [if_neg h1]; omega

theorem text_of {W H : Int} {xs : List Int} (h : picOk W H xs 1 = true) : textF W H xs = textG W.toNat H.toNat xs := by
  unfold textF
  rw [if_pos h]

theorem back_of (s : ByteArray) : (⟨(bytesS s).toArray⟩ : ByteArray) = s := ByteArray.ext (by simp [bytesS])

set_option maxRecDepth 100000 in
set_option maxHeartbeats 3200000 in
theorem ok (ad0 : Option Addr) (n0 cap0 : Nat) (bs0 : List Int) (w : World) (hn0 : bs0.length = n0) (hr0 : RdU w.heap.size w ad0 bs0) (hs0 : n0 ≤ 1048576) :
    Calls Try.prog 4 #[.slice ad0 n0 cap0] w fun e w' => e = .returned (.bool true) ∧ Below w.heap.size w w' := by
  have HL := Lib.hid hn0
  have HC := Lib.hid hr0
  clear hn0 hr0
  go_enter Try.func4, Try.ntmps4
  go_wp2_with fail
  refine (mkpl_call ad0 n0 cap0 bs0 8 _ HL.out (by exact HC.out) (by omega) (by omega) (by omega)).mono ?_
  rintro e w1 ⟨W, H, g, n, xs, rfl, b1, b2, b3, b4, hq, n1, n64, hg, ho, hp, hb⟩
  obtain ⟨W, rfl⟩ : ∃ x : Nat, W = (x : Int) := ⟨W.toNat, by omega⟩
  obtain ⟨H, rfl⟩ : ∃ x : Nat, H = (x : Int) := ⟨H.toNat, by omega⟩
  have ET := text_of hp
  rw [Int.toNat_natCast, Int.toNat_natCast] at ET
  have hPT := parse_text hp
  have hTL := textG_len W H xs
  obtain ⟨T, hT⟩ : ∃ T, textG W H xs = T := ⟨_, rfl⟩
  rw [hT] at ET hPT hTL
  obtain ⟨s, hs⟩ : ∃ s : ByteArray, (⟨T.toArray⟩ : ByteArray) = s := ⟨_, rfl⟩
  have hbs : bytesS s = T := by rw [← hs]; simp [bytesS]
  rw [← hbs] at hPT hTL
  have hsz : s.size = (W + 1) * H := hTL
  have hsp : s.size = n + H := by
    rw [hsz, Nat.succ_mul]
    have : ((W * H : Nat) : Int) = (n : Int) := by rw [hq]; push_cast; rfl
    omega
  have hsi : ((s.size : Nat) : Int) = ((W : Int) + 1) * (H : Int) := by rw [hsz]; push_cast; rfl
  obtain ⟨L, hL⟩ : ∃ L, s.size = L := ⟨_, rfl⟩
  rw [hL] at hsp hsi
  have HN := Lib.hid ho.len
  have HO2 := Lib.hid (ho.alloc (.cells #[.int .i64 W, .int .i64 H, .slice (some ⟨g, 0, none⟩) n n] 25))
  have KP2 := Lib.hid (Blk.new w1 25 #[.int .i64 W, .int .i64 H, .slice (some ⟨g, 0, none⟩) n n])
  have HB2 := Lib.hid (bAlloc hb (.cells #[.int .i64 W, .int .i64 H, .slice (some ⟨g, 0, none⟩) n n] 25))
  have HT := Lib.hid ET
  have HPT := Lib.hid hPT
  have HSS := Lib.hid hs
  have HSL := Lib.hid hL
  have wL : IntKind.i64.wrap (((W : Int) + 1) * (H : Int)) = (L : Int) := by rw [← hsi]; exact IntWalk.i64_in _ (by omega)
  have L1 : 1 ≤ L := by omega
  have L2 : L ≤ 72 := by omega
  clear ho hp hb hg hq ET hPT hTL hT hs hbs hsz hsi hL hsp
  obtain ⟨lp, p0, p1, p2⟩ := KP2.out.c3
  go_wp2_with fail
  refine (impl_DotText (W : Int) (H : Int) (some ⟨g, 0, none⟩) n n xs _ HN.out (by exact HO2.out.rd) (by omega) (by omega)).mono ?_
  rw [HT.out, HSS.out]
  rintro e w3 ⟨rfl, hb⟩
  have HO3 := Lib.hid (HO2.out.below hb HO2.out.lt)
  have KP3 := Lib.hid (KP2.out.below' hb)
  have HB3 := Lib.hid (bTrans HB2.out hb)
  clear hb lp p0 p1 p2
  go_wp2_with fail
  refine (impl_ParseDots s _ (by rw [HSL.out]; omega)).mono ?_
  rw [HPT.out]
  rintro e w4 ⟨aq, nq, cq, rfl, hoq, hnq, hb⟩
  have HO4 := Lib.hid ((HO3.out.below hb HO3.out.lt).alloc (.cells #[.int .i64 W, .int .i64 H, .slice aq nq cq] 25))
  have KP4 := Lib.hid ((KP3.out.below' hb).alloc (.cells #[.int .i64 W, .int .i64 H, .slice aq nq cq] 25))
  have HQ4 := Lib.hid (hoq.alloc (.cells #[.int .i64 W, .int .i64 H, .slice aq nq cq] 25))
  have KQ4 := Lib.hid (Blk.new w4 25 #[.int .i64 W, .int .i64 H, .slice aq nq cq])
  have HB4 := Lib.hid (bAlloc (bTrans HB3.out hb) (.cells #[.int .i64 W, .int .i64 H, .slice aq nq cq] 25))
  clear hb hoq
  obtain ⟨lp, p0, p1, p2⟩ := KP4.out.c3
  obtain ⟨lq, q0, q1, q2⟩ := KQ4.out.c3
  go_wp2_with fail
  refine (same_call6 (W : Int) (H : Int) aq nq cq xs (some ⟨g, 0, none⟩) n n xs _ HQ4.out.len (by exact HQ4.out.rd) (by omega) HN.out (by exact HO4.out.rd) (by omega) rfl).mono ?_
  rintro e w5 ⟨rfl, hb⟩
  have KP5 := Lib.hid (KP4.out.below' hb)
  have HB5 := Lib.hid (bTrans HB4.out hb)
  clear hb lp p0 p1 p2 lq q0 q1 q2
  obtain ⟨lp, p0, p1, p2⟩ := KP5.out.c3
  have HSL2 : s.size = L := HSL.out
  go_wp2_with fail
  refine (at_callI w.heap.size ad0 n0 cap0 bs0 1 _ HL.out (by exact HC.out.below HB5.out) (by omega) (by omega) (by omega)).mono ?_
  rintro e w6 ⟨v, rfl, hv, hb⟩
  have HB6 := Lib.hid (bTrans HB5.out hb)
  clear hb lp p0 p1 p2
  obtain ⟨K, hK⟩ : ∃ K, v % L = K := ⟨_, rfl⟩
  have hK1 : K < L := by rw [← hK]; exact Nat.mod_lt _ L1
  have hK2 : (v : Int).tmod (L : Int) = (K : Int) := by rw [Int.tmod_eq_emod_of_nonneg (by omega), ← hK]; push_cast; rfl
  have hK3 : (v : Int) % (L : Int) = (K : Int) := by rw [← hK]; push_cast; rfl
  have lz : ((L : Int) == 0) = false := by simp; omega
  have lz2 : ¬ (L : Int) = 0 := by omega
  have wK : IntKind.i64.wrap (K : Int) = (K : Int) := IntWalk.i64_in _ (by omega)
  clear hK
  go_wp2_with fail
  obtain ⟨cut, hcut⟩ : ∃ c : ByteArray, s.extract 0 K = c := ⟨_, rfl⟩
  have hcs : cut.size ≤ 1048576 := by rw [← hcut, ByteArray.size_extract]; omega
  rw [hcut]
  clear hcut
  have hPS := fun (P : Pic) => parse_some (s := bytesS cut) (P := P)
  refine (impl_ParseDots cut _ hcs).mono ?_
  obtain ⟨R, hR⟩ : ∃ R, parseF (bytesS cut) = R := ⟨_, rfl⟩
  rw [hR]
  obtain ⟨⟨rW, rH, rI⟩, fine⟩ := R
  rintro e w7 ⟨ar, nr, cr, rfl, hor, hnr, hb⟩
  dsimp only at hor
  have hcap : nr ≤ cr := by
    rcases hor with ⟨_, h1, h2, _⟩ | ⟨_, _, _, h1⟩
    · omega
    · exact h1.2.choose_spec.2.1
  have HR7 := Lib.hid (hor.alloc (.cells #[.int .i64 rW, .int .i64 rH, .slice ar nr cr] 25))
  have KR7 := Lib.hid (Blk.new w7 25 #[.int .i64 rW, .int .i64 rH, .slice ar nr cr])
  have HB7 := Lib.hid (bAlloc (bTrans HB6.out hb) (.cells #[.int .i64 rW, .int .i64 rH, .slice ar nr cr] 25))
  clear hb hor
  obtain ⟨lr, r0, r1, r2⟩ := KR7.out.c3
  cases fine with
  | false =>
    clear hPS hR
    go_wp2_with fail
    go_ret
    exact ⟨rfl, HB7.out⟩
  | true =>
    obtain ⟨s1, s2⟩ := hPS _ hR
    have ETR : Hid ((⟨(textF rW rH rI).toArray⟩ : ByteArray) = cut) := Lib.hid (by rw [text_of s1]; dsimp only at s2; rw [s2]; exact back_of cut)
    clear hPS hR s1 s2
    go_wp2_with fail
    refine (impl_DotText rW rH ar nr cr rI _ HR7.out.len (by exact HR7.out.rd) (by omega) hcap).mono ?_
    rw [ETR.out]
    rintro e w8 ⟨rfl, hb⟩
    have HB8 := Lib.hid (bTrans HB7.out hb)
    go_wp2_with fail
    go_ret
    exact ⟨rfl, HB8.out⟩

set_option maxHeartbeats 400000 in
theorem big (ad0 : Option Addr) (n0 cap0 : Nat) (w : World) (h : 1048576 < n0) (hl : n0 ≤ 9223372036854775807) :
    Calls Try.prog 4 #[.slice ad0 n0 cap0] w fun e w' => e = .returned (.bool true) ∧ Below w.heap.size w w' := by
  have h2 : (1048576 : Int) < (n0 : Int) := by omega
  go_enter Try.func4, Try.ntmps4
  go_wp2_with fail
  go_ret
  exact ⟨rfl, Below.refl _ _⟩

set_option maxRecDepth 100000 in
theorem lifted (os : Os) (started : os.Started) (H : Type) (enc : TypeId × Value → H) :
    ReturnsInHanded {} Try.checked os 4 .any (Rows.fnDotsSpec.pre6 enc Try.prog Try.f4 Rows.fnDotsRow.domain false) (Rows.fnDotsSpec.post enc Try.prog Try.f4 false true false false) := by
  refine returnsInHanded_of_change (C := Try.checked) own started (by kernel_rfl) Try.func4
    (ChangeSpec.witness6 (enc := enc) (C := Try.checked) false ⟨#[], #[.slice none 0 0], []⟩ 8 (by kernel_rfl) (by kernel_rfl) (by kernel_rfl) (by kernel_rfl)) ?_
  intro W base args ds gs before hval0 hW hcnd _
  have hval : ∀ (j : Nat) t v, Try.f4.params[j]? = some t → args[j]? = some v → Value.okWide Try.prog W .any base t v := hval0
  have hW' := hW
  have hlt := hW.lt
  obtain ⟨p, q, hA0, hV, rfl, hfz, hnd⟩ := hW
  have hA : DataW.TrodAll enc Try.prog W 0 (fun _ => true) true Try.f4.params.toList args.toList ds p := hA0
  rw [Try.params4] at hA hval
  obtain ⟨v0, vs0, d0, ds0, p0, q0, hargs, rfl, rfl, h0, r0⟩ := trodAll_cons hA
  obtain ⟨rfl, rfl, rfl⟩ := trodAll_nil r0
  obtain rfl : args = #[v0] := by cases args; simp_all
  obtain ⟨rfl, rfl⟩ := trodVars_none hV
  clear hA0 hval0
  obtain ⟨ad0, n0, cap0, bs0, rfl, hn0, hr0, hl0⟩ := open_code (hval 0 22 v0 rfl rfl) h0 (fun x hx => hlt x (by simp [hx]))
  have fin : ∀ (e : Ending) W', (e = .returned (.bool true) ∧ Below W.heap.size W W') → ∃ v, e = .returned v ∧ Rows.fnDotsSpec.post enc Try.prog Try.f4 false true false false W #[.slice ad0 n0 cap0] v W' := by
    rintro e W' ⟨rfl, hb⟩
    exact ⟨_, rfl, law_post rfl rfl hW' (by kernel_rfl) rfl hb⟩
  by_cases hs0 : n0 ≤ 1048576
  case neg => exact (big ad0 n0 cap0 W (by omega) hl0).mono fin
  case pos => exact (ok ad0 n0 cap0 bs0 W hn0 hr0 hs0).mono fin

theorem proved : Rows.FnDotsSaid :=
  OpenClaim.holds_of_wide 4 Try.f4 rfl rfl rfl rfl rfl rfl rfl ⟨rfl, rfl, rfl, rfl, rfl⟩ rfl rfl rfl rfl rfl (by kernel_rfl) Try.func4 (by kernel_rfl)
    (of_decide_eq_true (by kernel_rfl)) (by unfold Func.isWrapper; first | (rw [if_pos (by decide +kernel)]; kernel_rfl) | (rw [if_neg (by decide +kernel)]; exact ⟨rfl, rfl⟩))
    (fun os started H enc _ => lifted os started H enc)

end Go.Proofs.Ytipcahcljfheaaa.lDots
