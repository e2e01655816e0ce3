/-
  FnMarks: the marks of a stack count every point once, and those with a plate in them count its dots: the law returns true for every code. No conditions.
-/
import Derived.Test.YtipcahcljfheaaaT5
import Derived.Test.YtipcahcljfheaaaU2
import Derived.Test.YtipcahcljfheaaaW17
import Derived.Test.YtipcahcljfheaaaW26
import Derived.Test.YtipcahcljfheaaaFrameC
import Derived.Test.YtipcahcljfheaaaHeld
namespace Go.Proofs.Ytipcahcljfheaaa.lMarks
open Go.ChangeShapes Go.WideShapes Go.ChangeAt Go.RowKit
set_option linter.unusedVariables false
set_option linter.unusedSimpArgs false

set_option maxHeartbeats 400000 in
theorem power_call (k : Nat) (w : World) (hk : k ≤ 8) :
    Calls Try.prog 12 #[.int .i64 k] w fun e w' => e = .returned (.int .i64 (2 ^ k)) ∧ Below w.heap.size w w' := by
  have hp : ∀ j : Nat, j ≤ 8 → (1 : Int) ≤ 2 ^ j ∧ (2 : Int) ^ j ≤ 256 := by
    intro j hj
    match j, hj with
    | 0, _ => decide
    | 1, _ => decide
    | 2, _ => decide
    | 3, _ => decide
    | 4, _ => decide
    | 5, _ => decide
    | 6, _ => decide
    | 7, _ => decide
    | 8, _ => decide
  have HP := Lib.hid hp
  clear hp
  go_enter Try.func12, Try.ntmps12
  go_wp2_with fail
  go_loop [0, 3] (fun i r => ∃ j : Nat, j ≤ k ∧ i = .int .i64 ((k : Int) - j) ∧ r = .int .i64 (2 ^ j)) (fun i _ => (intOf i).toNat)
  case atStart => exact ⟨0, Nat.zero_le _, by go_num, rfl⟩
  case round =>
    obtain ⟨j, hj, rfl, rfl⟩ := hrel
    obtain ⟨p0, p1⟩ := HP.out j (by omega)
    by_cases hlt : j < k
    · go_wp2_with fail
      go_round
      case rel => exact ⟨j + 1, by omega, by go_num, congrArg _ (by rw [Int.pow_succ, Int.mul_comm])⟩
      case measure => simp [intOf]; omega
    · obtain rfl : k = j := by omega
      go_wp2_with fail
      go_ret
      exact ⟨rfl, Below.refl _ _⟩

theorem infoPic : (Try.prog.info? 25).map (fun i => (i.zero, i.size, i.bytes)) = some (some (.agg #[.int .i64 0, .int .i64 0, .slice none 0 0]), 3, 40) := by kernel_rfl

/-- All plates of a list have one size. -/
def AllP (L : List PV) (W H : Int) (n : Nat) : Prop := ∀ j, j < L.length → (pv L j).W = W ∧ (pv L j).H = H ∧ (pv L j).n = n ∧ (pv L j).ink.length = n ∧ picOk W H (pv L j).ink 1 = true

theorem AllP.one {W H : Int} {a : Option Addr} {n c : Nat} {xs : List Int} (hl : xs.length = n) (hp : picOk W H xs 1 = true) : AllP [⟨W, H, a, n, c, xs⟩] W H n := by
  intro j hj
  obtain rfl : j = 0 := by simpa using hj
  exact ⟨rfl, rfl, rfl, hl, hp⟩

theorem AllP.snoc {L : List PV} {W H : Int} {a : Option Addr} {n c : Nat} {xs : List Int} (h : AllP L W H n) (hl : xs.length = n) (hp : picOk W H xs 1 = true) : AllP (L ++ [⟨W, H, a, n, c, xs⟩]) W H n := by
  intro j hj
  by_cases e : j < L.length
  · rw [pv_snoc_lt e]; exact h j e
  · obtain rfl : j = L.length := by simp at hj; omega
    rw [pv_snoc]
    exact ⟨rfl, rfl, rfl, hl, hp⟩

theorem AllP.stack {L : List PV} {W H : Int} {n : Nat} (h : AllP L W H n) (h1 : 1 ≤ L.length) (h4 : L.length ≤ 4) : stackOk (picsV L) = true := by
  have hw : ∀ k, k < L.length → ((picsV L).getD k noPic).W = W ∧ ((picsV L).getD k noPic).H = H := fun k hk => by
    rw [picsV_at L k hk]
    exact ⟨(h k hk).1, (h k hk).2.1⟩
  refine stack_mk (by rw [picsV_len]; exact h1) (by rw [picsV_len]; exact h4) (fun k hk => ?_)
  rw [picsV_len] at hk
  obtain ⟨e1, e2⟩ := hw k hk
  obtain ⟨e3, e4⟩ := hw 0 (by omega)
  rw [e1, e2, e3, e4]
  refine ⟨?_, rfl, rfl⟩
  rw [picsV_at L k hk]
  exact (h k hk).2.2.2.2

theorem gen_d {n r : Nat} (f : Nat → Int) (h : r < n) : (gen n f).getD r 0 = f r := by
  simp [gen, List.getD, h]

/-- What the counts of a stack are. -/
theorem marks_facts {L : List PV} {W H : Int} {n k : Nat} (hA : AllP L W H n) (hk : L.length = k) (k1 : 1 ≤ k) (k4 : k ≤ 4) (n64 : n ≤ 64) :
    ∃ (cs : List Int) (N : Nat), markCountsF (picsV L) = cs ∧ cs.length = N ∧ (N : Int) = 2 ^ k ∧ N ≤ 16 ∧ (∀ r, r < N → 0 ≤ cs.getD r 0 ∧ cs.getD r 0 ≤ 64) ∧ within cs 255 = true ∧ isum cs = n ∧
      ∀ j, j < k → sumJ (fun r => cs.getD r 0 * ((r : Int) / 2 ^ j % 2)) N = isum (pv L j).ink := by
  have ST := hA.stack (by omega) (by omega)
  have e0 : ((picsV L).getD 0 noPic).ink.length = n := by
    rw [picsV_at L 0 (by omega)]
    exact (hA 0 (by omega)).2.2.2.1
  have MC : markCountsF (picsV L) = gen (2 ^ k) (fun r => cntI (markG (picsV L)) r n) := by
    unfold markCountsF
    rw [if_pos ST, picsV_len, hk, e0]
  have hN : 2 ^ k ≤ 16 := by
    rcases (show k = 1 ∨ k = 2 ∨ k = 3 ∨ k = 4 by omega) with rfl | rfl | rfl | rfl <;> decide
  have hB : ∀ r : Nat, r < 2 ^ k → 0 ≤ (gen (2 ^ k) (fun r => cntI (markG (picsV L)) r n)).getD r 0 ∧ (gen (2 ^ k) (fun r => cntI (markG (picsV L)) r n)).getD r 0 ≤ 64 := by
    intro r hr
    rw [gen_d _ hr]
    have := cntI_bd (markG (picsV L)) (r : Int) n
    omega
  refine ⟨_, 2 ^ k, MC, gen_len _ _, by push_cast; rfl, hN, hB, ?_, ?_, ?_⟩
  · unfold within
    rw [List.all_eq_true]
    intro x hx
    obtain ⟨r, hr, rfl⟩ : ∃ r : Nat, r < 2 ^ k ∧ cntI (markG (picsV L)) (r : Int) n = x := by simpa [gen] using hx
    have := cntI_bd (markG (picsV L)) (r : Int) n
    simp only [decide_eq_true_eq]
    omega
  · rw [isum_gen]
    refine cnt_total (fun i hi => ?_)
    have h := mark_bd ST e0 hi
    rw [picsV_len, hk] at h
    exact ⟨h.1, by push_cast; exact h.2⟩
  · intro j hj
    have h := marks_dots ST e0 (k := j) (by rw [picsV_len, hk]; exact hj)
    rw [picsV_len, hk, picsV_at L j (by omega)] at h
    rw [show (pv L j).ink = (pv L j).pic.ink from rfl, ← h]
    exact sumJ_congr (fun r hr => by rw [gen_d _ hr])

set_option maxRecDepth 100000 in
set_option maxHeartbeats 3200000 in
theorem ok (ad0 : Option Addr) (n0 cap0 : Nat) (bs0 : List Int) (w : World) (hn0 : bs0.length = n0) (hr0 : RdU w.heap.size w ad0 bs0) (hs0 : n0 ≤ 1048576) :
    Calls Try.prog 3 #[.slice ad0 n0 cap0] w fun e w' => e = .returned (.bool true) ∧ Below w.heap.size w w' := by
  have HL := Lib.hid hn0
  have HC := Lib.hid hr0
  clear hn0 hr0
  go_enter Try.func3, Try.ntmps3
  go_wp2_with fail
  refine (mkpl_call ad0 n0 cap0 bs0 7 _ HL.out (by exact HC.out) (by omega) (by omega) (by omega)).mono ?_
  rintro e w1 ⟨W, H, g, n, xs, rfl, b1, b2, b3, b4, hq, n1, n64, hg, ho, hp, hb⟩
  have HN := Lib.hid ho.len
  have HS := Lib.hid (picOk_bd HN.out hp).1
  have HX := Lib.hid (picOk_bd HN.out hp).2.2
  have HQ := Lib.hid hq
  have OV0 := Lib.hid (OwnV.lit (B := w.heap.size) (w := w1.alloc (.cells #[.int .i64 W, .int .i64 H, .slice (some ⟨g, 0, none⟩) n n] 25)) (p := ⟨W, H, some ⟨g, 0, none⟩, n, n, xs⟩) (by have := hb.size; simp; omega) ((OwnA.mk ho hg).alloc _))
  have KP0 := Lib.hid ((Blk.new w1 25 #[.int .i64 W, .int .i64 H, .slice (some ⟨g, 0, none⟩) n n]).alloc (.cells #[.int .i64 W, .int .i64 H, .slice (some ⟨g, 0, none⟩) n n] 25))
  have HB0 := Lib.hid (bAlloc (bAlloc hb (.cells #[.int .i64 W, .int .i64 H, .slice (some ⟨g, 0, none⟩) n n] 25)) (.cells #[.int .i64 W, .int .i64 H, .slice (some ⟨g, 0, none⟩) n n] 25))
  have AL0 := Lib.hid (AllP.one (a := some ⟨g, 0, none⟩) (c := n) HN.out hp)
  have H1 := Lib.hid hb.size
  clear ho hp hb hg hq
  go_wp2_with fail
  go_loopw [4, 5] (fun s i wr => ∃ (k : Nat) (a : Option Addr) (c : Nat) (L : List PV), 1 ≤ k ∧ k ≤ 4 ∧ i = .int .i64 k ∧ s = .slice a k c ∧ OwnV wr w.heap.size a k c L ∧ AllP L W H n ∧ Blk wr w1.heap.size 25 #[.int .i64 W, .int .i64 H, .slice (some ⟨g, 0, none⟩) n n] ∧ Below w.heap.size w wr ∧ (∀ b, blockOf a = some b → w1.heap.size < b)) (fun _ i _ => 4 - (intOf i).toNat)
  case atStart => exact ⟨1, _, _, _, by omega, by omega, rfl, rfl, by simpa using OV0.out, AL0.out, by simpa using KP0.out, by simpa using HB0.out, fun b hb => by simp [blockOf] at hb; omega⟩
  case round =>
    obtain ⟨k, a, c, L, k1, k4, rfl, rfl, ho, hall, hkp, hnx, hsep⟩ := hrel
    have HO := Lib.hid ho
    have HA := Lib.hid hall
    have HW := Lib.hid hnx
    have KP := Lib.hid hkp
    have HP := Lib.hid hsep
    clear ho hall hnx hkp hsep OV0 KP0 HB0 AL0
    go_wp2_with fail
    refine (at_callI w.heap.size ad0 n0 cap0 bs0 1 _ HL.out (by exact HC.out.below HW.out) (by omega) (by omega) (by omega)).mono ?_
    rintro e w2 ⟨v, rfl, hv, hb⟩
    have HO1 := Lib.hid (HO.out.below hb)
    have KP1 := Lib.hid (KP.out.below' hb)
    have HW1 := Lib.hid (bTrans HW.out hb)
    clear hb HO KP HW
    by_cases hlt : (k : Int) < 1 + (v : Int) % 4
    · have k3 : k ≤ 3 := by omega
      go_upto_region 8 with fail
      obtain ⟨lp, p0, p1, p2⟩ := KP1.out.c3
      have MK : Hid (∀ v, BelowL w2 v → v.cell? ⟨w1.heap.size, 0, none⟩ = some (.int .i64 W) ∧ v.cell? ⟨w1.heap.size, 1, none⟩ = some (.int .i64 H) ∧ v.cell? ⟨w1.heap.size, 2, none⟩ = some (.slice (some ⟨g, 0, none⟩) n n) ∧ BelowL w2 v) := Lib.hid (fun v h => ⟨(h.out.cell lp).trans p0, (h.out.cell lp).trans p1, (h.out.cell lp).trans p2, h⟩)
      refine wp_region_T 7 (fun v => v.cell? ⟨w1.heap.size, 0, none⟩ = some (.int .i64 W) ∧ v.cell? ⟨w1.heap.size, 1, none⟩ = some (.int .i64 H) ∧ v.cell? ⟨w1.heap.size, 2, none⟩ = some (.slice (some ⟨g, 0, none⟩) n n) ∧ BelowL w2 v) (by kernel_rfl) (MK.out _ (BelowL.start _)) ?_
      intro hHeld
      have hb0 := limb4 hHeld
      (refine' wpAnyT_take (i := 0) (v := ?_) rfl (by kernel_rfl) (by kernel_rfl) (by kernel_rfl) (by kernel_rfl) (fun _ _ _ h => h) (Or.inl ⟨by rfl, ?_⟩) (by assumption) ?_; rotate_left; (· (intro w hSw; (try dsimp only at hSw); go_simp; try with_reducible rfl)); (try simp only [Act.put, List.setIfInBounds_toArray, List.set_cons_zero, List.set_cons_succ]))
      (refine' wpAnyT_take (i := 1) (v := ?_) rfl (by kernel_rfl) (by kernel_rfl) (by kernel_rfl) (by kernel_rfl) (fun _ _ _ h => h) (Or.inl ⟨by rfl, ?_⟩) (by assumption) ?_; rotate_left; (· (intro w hSw; (try dsimp only at hSw); go_simp; try with_reducible rfl)); (try simp only [Act.put, List.setIfInBounds_toArray, List.set_cons_zero, List.set_cons_succ]))
      (refine' wpAnyT_take (i := 2) (v := ?_) rfl (by kernel_rfl) (by kernel_rfl) (by kernel_rfl) (by kernel_rfl) (fun _ _ _ h => h) (Or.inl ⟨by rfl, ?_⟩) (by assumption) ?_; rotate_left; (· (intro w hSw; (try dsimp only at hSw); go_simp; try with_reducible rfl)); (try simp only [Act.put, List.setIfInBounds_toArray, List.set_cons_zero, List.set_cons_succ]))
      (refine' wpAnyT_take (i := 4) (v := ?_) rfl (by kernel_rfl) (by kernel_rfl) (by kernel_rfl) (by kernel_rfl) (fun _ _ _ h => h) (Or.inl ⟨by rfl, ?_⟩) (by assumption) ?_; rotate_left; (· (intro w hSw; (try dsimp only at hSw); go_simp; try with_reducible rfl)); (try simp only [Act.put, List.setIfInBounds_toArray, List.set_cons_zero, List.set_cons_succ]))
      refine wpAnyT_one (i := 3) (by kernel_rfl) rfl (fun K hK => ?_)
      go_simp
      go_at_call 9
      ((with_reducible refine (laws_freshS ad0 n0 cap0 bs0 (k : Int) w.heap.size _ HL.out (HC.out.below (bTrans HW1.out hb0.out)) (bTrans HW1.out hb0.out).size hs0 (by omega) (by omega)).mono ?_); rintro e v1 ⟨fa, nf, cf, fs, rfl, hfl, hfn, hfr, hq1⟩)
      have hb1 := BelowL.call hb0 hq1
      go_wp2_with fail
      refine hK.out _ _ (fun _ => by (try dsimp only); exact MK.out _ hb1) (fun hH2 => ?_)
      clear hK K hHeld
      have hHeld := hH2 (by decide)
      refine wpAnyT_one (i := 5) (by kernel_rfl) rfl (fun K hK => ?_)
      go_simp
      go_at_call 8
      ((with_reducible refine (spec_MakeLike fa nf cf fs W H (some ⟨g, 0, none⟩) n n n _ hfl hfr (by omega) HS.out HQ.out).mono ?_); rintro e v2 ⟨g2, ys, rfl, hg2, ho2, hy2, hq2⟩)
      have hb2 := BelowL.call hb1 hq2
      go_wp2_with fail
      refine hK.out _ _ (fun _ => by (try dsimp only); exact MK.out _ hb2) (fun hH2 => ?_)
      clear hK K hHeld
      have hHeld := hH2 (by decide)
      refine wpAnyT_one (i := 6) (by kernel_rfl) rfl (fun K hK => ?_)
      go_simp
      have hb3 := BelowL.alloc hb2 (.cells #[.int .i64 W, .int .i64 H, .slice (some ⟨g2, 0, none⟩) n n] 25)
      refine hK.out _ _ (fun _ => by (try dsimp only); exact MK.out _ hb3) (fun hH2 => ?_)
      clear hK K hHeld
      refine wpAnyT_one (i := 7) (by kernel_rfl) rfl (fun K hK => ?_)
      have HO3 := Lib.hid (HO1.out.below hb3.out)
      have PY : Hid (picOk W H ys 1 = true) := Lib.hid (picOk_mkW HS.out ho2.len HQ.out hy2)
      refine step_appV _ (by rfl) 27 Try.underlying27 infoPic (.tmp 27) (.tmp 33) (by rfl) w.heap.size k c a L (by rfl) HO3.out.toRowVA v2.heap.size ⟨W, H, some ⟨g2, 0, none⟩, n, n, ys⟩ (by rfl) (by first | go_simp | simp) (by first | go_simp | simp) (by first | go_simp | simp) (by omega) (by have := (bTrans HW1.out hb3.out).size; omega) ?_
      intro ad2 cap2 w5 ho5 hg5 hx5
      have HO5 : Hid (OwnV w5 w.heap.size ad2 (k + 1) cap2 (L ++ [⟨W, H, some ⟨g2, 0, none⟩, n, n, ys⟩])) := Lib.hid (OwnV.snoc HO3.out ho5 hg5
        (fun b hb => by
          rcases hx5 with e | e
          · rw [e] at hb; exact .inl hb
          · rw [e] at hb; injection hb with hb; exact .inr (by omega))
        (((OwnA.mk ho2 (by have := (bTrans HW1.out hb1.out).size; omega)).alloc _).grownS hg5 (fun b hb hb2 => by
          have h1 := (HO1.out.bd b (.inl hb)).2
          have h2 := hb1.le
          simp only [blockOf, Option.some.injEq] at hb2
          omega))
        (fun b hb => by
          simp only [blockOf, Option.some.injEq] at hb
          subst hb
          refine ⟨by have := ho2.lt; simp; omega, fun hbl => ?_⟩
          have h1 := (HO1.out.bd g2 hbl).2
          have h2 := hb1.le
          omega))
      have HA5 := Lib.hid (HA.out.snoc (a := some ⟨g2, 0, none⟩) (c := n) ho2.len PY.out)
      have HBw := Lib.hid (bTrans HW1.out hb3.out)
      have HW5 := Lib.hid (HBw.out.grown hg5 HBw.out.size (fun b hb => (HO1.out.bd b (.inl hb)).1))
      have KP5 := Lib.hid ((KP1.out.below' hb3.out).grown hg5 (fun e => by have := HP.out _ e.symm; omega))
      have HP5 : Hid (∀ b, blockOf ad2 = some b → w1.heap.size < b) := Lib.hid (fun b hb => by
        rcases hx5 with e | e
        · rw [e] at hb; exact HP.out b hb
        · rw [e] at hb; injection hb with hb; have := KP1.out.lt; have := hb3.le; omega)
      clear ho5 hg5 hx5 hb0 hb1 hb2 hb3 hq1 hq2 hfl hfn hfr ho2 hy2 hg2 lp p0 p1 p2 HO1 HO3 KP1 HW1 HBw
      refine hK.out _ _ (fun h => absurd h (by decide)) (fun hH2 => ?_)
      clear hK K
      refine wpAnyT_one (i := 8) (by kernel_rfl) rfl (fun K hK => ?_)
      go_simp
      refine hK.out _ _ (fun h => absurd h (by decide)) (fun hH2 => ?_)
      clear hK K hH2
      refine wpAnyT_done (by kernel_rfl) ?_ _
      (try go_simp)
      go_wp2_with fail
      go_roundw
      case rel => exact ⟨k + 1, ad2, cap2, _, by omega, by omega, by go_num, rfl, HO5.out, HA5.out, KP5.out, HW5.out, HP5.out⟩
      case measure => simp [intOf]; omega
    · have HLK := Lib.hid HO1.out.len
      have ST := Lib.hid (HA.out.stack (by rw [HO1.out.len]; exact k1) (by rw [HO1.out.len]; exact k4))
      have SZ : Hid (∀ q, q < L.length → (pv L q).n ≤ 1048576) := Lib.hid (fun q hq => by rw [(HA.out q hq).2.2.1]; omega)
      obtain ⟨cs, N, MC, cl, cN, N16, cb, cw, ct, cd⟩ := marks_facts HA.out HLK.out k1 k4 n64
      go_wp2_with fail
      refine (impl_MarkCounts a k c L _ HLK.out (by exact HO1.out.rd) (by omega) (by exact SZ.out)).mono ?_
      rw [MC]
      rintro e w3 ⟨am, nm, cm, rfl, hom, hnm, hb⟩
      have en : nm = N := hom.len.symm.trans cl
      subst en
      obtain ⟨gm, rfl, hgm, hon⟩ : ∃ g, am = some ⟨g, 0, none⟩ ∧ w2.heap.size ≤ g ∧ Own w3 g nm cm cs := by
        rcases hom with ⟨_, h0, _⟩ | ⟨g, h1, h2, h3⟩
        · exfalso
          rw [h0] at cN
          rcases (show k = 1 ∨ k = 2 ∨ k = 3 ∨ k = 4 by omega) with rfl | rfl | rfl | rfl <;> simp at cN
        · exact ⟨g, h1, h2, h3⟩
      have HM3 := Lib.hid hon
      have HO3 := Lib.hid (HO1.out.below hb)
      have KP3 := Lib.hid (KP1.out.below' hb)
      have HW3 := Lib.hid (bTrans HW1.out hb)
      have HCW := Lib.hid cw
      have HCB := Lib.hid cb
      have HCD := Lib.hid cd
      have HCT := Lib.hid ct
      have HCN := Lib.hid cN
      have HCL := Lib.hid cl
      clear hb hom hon cw cb cd ct MC HO1 KP1 HW1 hlt cN cl
      obtain ⟨lp, p0, p1, p2⟩ := KP3.out.c3
      have MK : Hid (∀ v, BelowL w3 v → v.cell? ⟨w1.heap.size, 2, none⟩ = some (.slice (some ⟨g, 0, none⟩) n n) ∧ BelowL w3 v) := Lib.hid (fun v h => ⟨(h.out.cell lp).trans p2, h⟩)
      have C1 : Hid (∀ v, BelowL w3 v → Calls Try.prog 11 #[.slice a k c] v fun e v' => e = .returned (.bool true) ∧ Below v.heap.size v v') := Lib.hid (fun v hv => by
        have h := impl_IsStack a k c L v HLK.out (HO3.out.below hv.out).rd (by omega) SZ.out
        rw [ST.out] at h
        exact h)
      have C2 : Hid (∀ v, BelowL w3 v → Calls Try.prog 12 #[.int .i64 (k : Int)] v fun e v' => e = .returned (.int .i64 (nm : Int)) ∧ Below v.heap.size v v') := Lib.hid (fun v hv => by rw [HCN.out]; exact power_call k v (by omega))
      have C3 : Hid (∀ v, BelowL w3 v → Calls Try.prog 13 #[.slice (some ⟨gm, 0, none⟩) nm cm] v fun e v' => e = .returned (.int .i64 (n : Int)) ∧ Below v.heap.size v v') := Lib.hid (fun v hv => totp_call _ nm cm cs n v HCL.out (HM3.out.rd.below hv.out) HCW.out (by omega) HCT.out)
      clear p0 p1 p2
      go_upto_region 10 with fail
      go_region_held3 (fun v => v.cell? ⟨w1.heap.size, 2, none⟩ = some (.slice (some ⟨g, 0, none⟩) n n) ∧ BelowL w3 v)
        (first | exact MK.out _ hb3 | exact MK.out _ hb2 | exact MK.out _ hb1 | exact MK.out _ (BelowL.start _))
        (first
          | (go_at_call 11; ((with_reducible refine (C1.out _ (limb2 (by assumption))).mono ?_); rintro e v1 ⟨rfl, hq1⟩; have hb1 := BelowL.call (limb2 (by assumption)) hq1))
          | (go_at_call 12; ((with_reducible refine (C2.out _ (limb2 (by assumption))).mono ?_); rintro e v2 ⟨rfl, hq2⟩; have hb2 := BelowL.call (limb2 (by assumption)) hq2))
          | (go_at_call 13; ((with_reducible refine (C3.out _ (limb2 (by assumption))).mono ?_); rintro e v3 ⟨rfl, hq3⟩; have hb3 := BelowL.call (limb2 (by assumption)) hq3)))
      have HO4 := Lib.hid (HO3.out.below hb3.out)
      have HM4 := Lib.hid (HM3.out.below hb3.out HM3.out.lt)
      have HW4 := Lib.hid (bTrans HW3.out hb3.out)
      clear hb1 hb2 hb3 hq1 hq2 hq3 C1 C2 C3 MK HO3 HM3 HW3 KP3 lp
      obtain ⟨b, off, hae, hal⟩ := HO4.out.rd.addr (by rw [HLK.out]; exact k1)
      subst hae
      go_wp2_with fail
      go_loopw [58] (fun i wr => ∃ j : Nat, j ≤ k ∧ i = .int .i64 j ∧ Hid (Below v3.heap.size v3 wr)) (fun i _ => k - (intOf i).toNat)
      case atStart => exact ⟨0, Nat.zero_le _, rfl, Lib.hid (Below.refl _ _)⟩
      case round =>
        obtain ⟨j, hj, rfl, HB⟩ := hrel
        by_cases hlt : j < k
        · have HR := Lib.hid (HO4.out.rd.below HB.out)
          obtain ⟨_, c0, c1, c2⟩ := HR.out.cells (k := j) (by rw [HLK.out]; exact hlt)
          have rd1 := HR.out.rd (k := j) (by rw [HLK.out]; exact hlt)
          obtain ⟨a1, a2, a3, a4, a5⟩ := HA.out j (by rw [HLK.out]; exact hlt)
          have sj := HCD.out j hlt
          obtain ⟨q, hq⟩ : ∃ q, pv L j = q := ⟨_, rfl⟩
          rw [hq] at c0 c1 c2 rd1 a1 a2 a3 a4 a5 sj
          obtain ⟨qW, qH, qa, qn, qc, qi⟩ := q
          dsimp only at c0 c1 c2 rd1 a1 a2 a3 a4 a5 sj
          subst a1 a2 a3
          have QI := Lib.hid (picOk_bd a4 a5).2.2
          have R1 := Lib.hid rd1
          have QL := Lib.hid a4
          have SJ := Lib.hid sj
          have KB := Lib.hid (Blk.new wr 25 #[.int .i64 qW, .int .i64 qH, .slice qa qn qc])
          have R2 := Lib.hid (R1.out.alloc (.cells #[.int .i64 qW, .int .i64 qH, .slice qa qn qc] 25))
          have HB2 := Lib.hid (bAlloc HB.out (.cells #[.int .i64 qW, .int .i64 qH, .slice qa qn qc] 25))
          clear hq rd1 a4 a5 sj
          have j0 : (0 : Int) ≤ (j : Int) := by omega
          have j1 : (j : Int) < (k : Int) := by omega
          go_wp2_with fail
          go_loopw [9, 65] (fun d i wr2 => ∃ m : Nat, m ≤ nm ∧ i = .int .i64 m ∧ d = .int .i64 (sumJ (fun r => cs.getD r 0 * ((r : Int) / 2 ^ j % 2)) m) ∧ BelowL (wr.alloc (.cells #[.int .i64 qW, .int .i64 qH, .slice qa qn qc] 25)) wr2) (fun _ i _ => nm - (intOf i).toNat)
          case atStart => exact ⟨0, Nat.zero_le _, rfl, rfl, BelowL.mk (Below.refl _ _)⟩
          case round =>
            obtain ⟨m, hm, rfl, rfl, hbl⟩ := hrel
            have HB3 := Lib.hid (bTrans HB2.out hbl.out)
            have HM5 := Lib.hid (HM4.out.below HB3.out HM4.out.lt)
            have sb0 : 0 ≤ sumJ (fun r => cs.getD r 0 * ((r : Int) / 2 ^ j % 2)) m := sumJ_nn (fun r hr => Int.mul_nonneg (HCB.out r (by omega)).1 (by omega))
            have sb1 : sumJ (fun r => cs.getD r 0 * ((r : Int) / 2 ^ j % 2)) m ≤ 64 * m := by
              have h := sumJ_le (f := fun r => cs.getD r 0 * ((r : Int) / 2 ^ j % 2)) (g := fun _ => 64) (n := m) (fun r hr => by
                have h1 := HCB.out r (by omega)
                have h2 : (r : Int) / 2 ^ j % 2 = 0 ∨ (r : Int) / 2 ^ j % 2 = 1 := by omega
                rcases h2 with e | e <;> simp only [e] <;> omega)
              rw [sumJ_const] at h
              exact h
            have e1 : sumJ (fun r => cs.getD r 0 * ((r : Int) / 2 ^ j % 2)) (m + 1) = sumJ (fun r => cs.getD r 0 * ((r : Int) / 2 ^ j % 2)) m + cs.getD m 0 * ((m : Int) / 2 ^ j % 2) := rfl
            have SJ2 : Hid (m = nm → sumJ (fun r => cs.getD r 0 * ((r : Int) / 2 ^ j % 2)) m = isum qi) := Lib.hid (fun e => by rw [e]; exact SJ.out)
            obtain ⟨D, hD⟩ : ∃ D, sumJ (fun r => cs.getD r 0 * ((r : Int) / 2 ^ j % 2)) m = D := ⟨_, rfl⟩
            rw [hD] at sb0 sb1 e1 SJ2 ⊢
            obtain ⟨S1, hS1⟩ : ∃ S1, sumJ (fun r => cs.getD r 0 * ((r : Int) / 2 ^ j % 2)) (m + 1) = S1 := ⟨_, rfl⟩
            rw [hS1] at e1
            have HS1 := Lib.hid hS1
            have E1 := Lib.hid e1
            clear hD e1 hS1
            by_cases hlt2 : m < nm
            · have cm0 := HM5.out.cell (j := m) (by omega)
              obtain ⟨cb0, cb1⟩ := HCB.out m (by omega)
              obtain ⟨V, hV⟩ : ∃ V, cs.getD m 0 = V := ⟨_, rfl⟩
              rw [hV] at cm0 cb0 cb1 E1
              clear hV
              have hP0 : (1 : Int) ≤ 2 ^ j := pow2_pos j
              have hQ0 : (0 : Int) ≤ (m : Int) / 2 ^ j := Int.ediv_nonneg (by omega) (by omega)
              have hQ1 : (m : Int) / 2 ^ j ≤ m := Int.ediv_le_self _ (by omega)
              have hQ2 : (m : Int).tdiv (2 ^ j) = (m : Int) / 2 ^ j := Int.tdiv_eq_ediv_of_nonneg (by omega)
              have PC := Lib.hid (power_call j wr (by omega))
              obtain ⟨P, hP⟩ : ∃ P, (2 : Int) ^ j = P := ⟨_, rfl⟩
              rw [hP] at hP0 hQ0 hQ1 hQ2 PC E1
              obtain ⟨Q, hQ⟩ : ∃ Q, (m : Int) / P = Q := ⟨_, rfl⟩
              rw [hQ] at hQ0 hQ1 hQ2 E1
              have pz : (P == 0) = false := by simp; omega
              have pz2 : ¬ P = 0 := by omega
              have wQ : IntKind.i64.wrap Q = Q := IntWalk.i64_in _ (by omega)
              clear hP hQ
              have m0 : (0 : Int) ≤ (m : Int) := by omega
              have m1 : (m : Int) < (nm : Int) := by omega
              go_wp2_with fail
              refine PC.out.mono ?_
              rintro e w6 ⟨rfl, hb⟩
              have hbl6 := BelowL.call hbl hb
              clear hb hbl PC
              by_cases hbit : Q % 2 = 1
              · go_wp2_with fail
                go_roundw
                case rel => exact ⟨m + 1, by omega, by go_num, by rw [HS1.out, E1.out, hbit]; go_num, hbl6⟩
                case measure => simp [intOf]; omega
              · have hbit2 : Q % 2 = 0 := by omega
                go_wp2_with fail
                go_roundw
                case rel => exact ⟨m + 1, by omega, by go_num, by rw [HS1.out, E1.out, hbit2]; go_num, hbl6⟩
                case measure => simp [intOf]; omega
            · have hmn : m = nm := by omega
              have SD := Lib.hid (SJ2.out hmn)
              obtain ⟨lk, k0, k1', k2⟩ := (KB.out.below' hbl.out).c3
              go_wp2_with fail
              refine (totp_call qa qn qc qi D _ QL.out (by exact R2.out.below hbl.out) (within_255 QI.out) (by omega) SD.out.symm).mono ?_
              rintro e w6 ⟨rfl, hb⟩
              have HB6 := Lib.hid (bTrans HB3.out hb)
              go_wp2_with fail
              go_roundw
              case rel => exact ⟨j + 1, by omega, by go_num, HB6⟩
              case measure => simp [intOf]; omega
        · go_wp2_with fail
          go_ret
          exact ⟨rfl, bTrans HW4.out HB.out⟩

set_option maxHeartbeats 400000 in
theorem big (ad0 : Option Addr) (n0 cap0 : Nat) (w : World) (h : 1048576 < n0) (hl : n0 ≤ 9223372036854775807) :
    Calls Try.prog 3 #[.slice ad0 n0 cap0] w fun e w' => e = .returned (.bool true) ∧ Below w.heap.size w w' := by
  have h2 : (1048576 : Int) < (n0 : Int) := by omega
  go_enter Try.func3, Try.ntmps3
  go_wp2_with fail
  go_ret
  exact ⟨rfl, Below.refl _ _⟩

set_option maxRecDepth 100000 in
theorem lifted (os : Os) (started : os.Started) (H : Type) (enc : TypeId × Value → H) :
    ReturnsInHanded {} Try.checked os 3 .any (Rows.fnMarksSpec.pre6 enc Try.prog Try.f3 Rows.fnMarksRow.domain false) (Rows.fnMarksSpec.post enc Try.prog Try.f3 false true false false) := by
  refine returnsInHanded_of_change (C := Try.checked) own started (by kernel_rfl) Try.func3
    (ChangeSpec.witness6 (enc := enc) (C := Try.checked) false ⟨#[], #[.slice none 0 0], []⟩ 8 (by kernel_rfl) (by kernel_rfl) (by kernel_rfl) (by kernel_rfl)) ?_
  intro W base args ds gs before hval0 hW hcnd _
  have hval : ∀ (j : Nat) t v, Try.f3.params[j]? = some t → args[j]? = some v → Value.okWide Try.prog W .any base t v := hval0
  have hW' := hW
  have hlt := hW.lt
  obtain ⟨p, q, hA0, hV, rfl, hfz, hnd⟩ := hW
  have hA : DataW.TrodAll enc Try.prog W 0 (fun _ => true) true Try.f3.params.toList args.toList ds p := hA0
  rw [Try.params3] at hA hval
  obtain ⟨v0, vs0, d0, ds0, p0, q0, hargs, rfl, rfl, h0, r0⟩ := trodAll_cons hA
  obtain ⟨rfl, rfl, rfl⟩ := trodAll_nil r0
  obtain rfl : args = #[v0] := by cases args; simp_all
  obtain ⟨rfl, rfl⟩ := trodVars_none hV
  clear hA0 hval0
  obtain ⟨ad0, n0, cap0, bs0, rfl, hn0, hr0, hl0⟩ := open_code (hval 0 22 v0 rfl rfl) h0 (fun x hx => hlt x (by simp [hx]))
  have fin : ∀ (e : Ending) W', (e = .returned (.bool true) ∧ Below W.heap.size W W') → ∃ v, e = .returned v ∧ Rows.fnMarksSpec.post enc Try.prog Try.f3 false true false false W #[.slice ad0 n0 cap0] v W' := by
    rintro e W' ⟨rfl, hb⟩
    exact ⟨_, rfl, law_post rfl rfl hW' (by kernel_rfl) rfl hb⟩
  by_cases hs0 : n0 ≤ 1048576
  case neg => exact (big ad0 n0 cap0 W (by omega) hl0).mono fin
  case pos => exact (ok ad0 n0 cap0 bs0 W hn0 hr0 hs0).mono fin

theorem proved : Rows.FnMarksSaid :=
  OpenClaim.holds_of_wide 3 Try.f3 rfl rfl rfl rfl rfl rfl rfl ⟨rfl, rfl, rfl, rfl, rfl⟩ rfl rfl rfl rfl rfl (by kernel_rfl) Try.func3 (by kernel_rfl)
    (of_decide_eq_true (by kernel_rfl)) (by unfold Func.isWrapper; first | (rw [if_pos (by decide +kernel)]; kernel_rfl) | (rw [if_neg (by decide +kernel)]; exact ⟨rfl, rfl⟩))
    (fun os started H enc _ => lifted os started H enc)

end Go.Proofs.Ytipcahcljfheaaa.lMarks
