/-
  Contracts of chapter 8: SharesMultiply (program and model).
-/
import Derived.Test.YtkjhpfgcmbigfaaW17
import Derived.Test.YtkjhpfgcmbigfaaC2
import Derived.Test.YtkjhpfgcmbigfaaN0
import Derived.Deep.Cut
import Derived.Deep.QuietTactic
import Derived.Deep.RegionHeld3
namespace Go.Proofs.Ytkjhpfgcmbigfaa
open Go.RowKit
set_option linter.unusedVariables false
set_option linter.unusedSimpArgs false

/-- Two pictures in a row of their own. -/
theorem rowV_two {w : World} (p q : PV) (hp : p.ink.length = p.n) (hq : q.ink.length = q.n) (rp : Rd w p.a p.ink) (rq : Rd w q.a q.ink) :
    RdV (w.alloc (.cells #[.int .i64 p.W, .int .i64 p.H, .slice p.a p.n p.c, .int .i64 q.W, .int .i64 q.H, .slice q.a q.n q.c] 25)) (some ⟨w.heap.size, 0, none⟩) [p, q] := by
  have KB := Blk.new w 25 #[.int .i64 p.W, .int .i64 p.H, .slice p.a p.n p.c, .int .i64 q.W, .int .i64 q.H, .slice q.a q.n q.c]
  intro k hk
  have h2 : k = 0 ∨ k = 1 := by simp at hk; omega
  rcases h2 with rfl | rfl
  · exact ⟨w.heap.size, 0, rfl, KB.lt, KB.cell 0, KB.cell 1, KB.cell 2, hp, rp.alloc _⟩
  · exact ⟨w.heap.size, 0, rfl, KB.lt, KB.cell 3, KB.cell 4, KB.cell 5, hq, rq.alloc _⟩

def sharesMF (W H : Int) (xs : List Int) (W' H' : Int) (ys : List Int) : Bool :=
  stackOk [⟨W, H, xs⟩, ⟨W', H', ys⟩] && decide ((markCountsF [⟨W, H, xs⟩, ⟨W', H', ys⟩]).getD 3 0 * (xs.length : Int) = isum xs * isum ys)

/-- Of a stack of two: the marks of each plate's dots. -/
theorem two_counts {p q : PV} {N : Nat} {W H : Int} (T : Stk [p, q] 2 N W H) : ∃ c1 c2 c3 : Int, (cntL [p, q] 4 N).getD 1 0 = c1 ∧ (cntL [p, q] 4 N).getD 2 0 = c2 ∧ (cntL [p, q] 4 N).getD 3 0 = c3 ∧ isum p.ink = c1 + c3 ∧ isum q.ink = c2 + c3 ∧ 0 ≤ c1 ∧ 0 ≤ c2 ∧ 0 ≤ c3 ∧ c1 ≤ N ∧ c2 ≤ N ∧ c3 ≤ N := by
  have hp : (picsV [p, q]).getD 0 noPic = p.pic := rfl
  have hq : (picsV [p, q]).getD 1 noPic = q.pic := rfl
  have d0 := marks_dots (L := picsV [p, q]) (n := N) (k := 0) T.ok T.inkLen (by rw [picsV_len]; simp)
  have d1 := marks_dots (L := picsV [p, q]) (n := N) (k := 1) T.ok T.inkLen (by rw [picsV_len]; simp)
  rw [hp] at d0
  rw [hq] at d1
  have hl : (picsV [p, q]).length = 2 := picsV_len _
  have s4 : ∀ f : Nat → Int, sumJ f (2 ^ 2) = f 0 + f 1 + f 2 + f 3 := fun f => by show 0 + f 0 + f 1 + f 2 + f 3 = _; omega
  rw [hl, s4] at d0 d1
  rw [show ((0 : Nat) : Int) / 2 ^ 0 % 2 = 0 by decide, show ((1 : Nat) : Int) / 2 ^ 0 % 2 = 1 by decide, show ((2 : Nat) : Int) / 2 ^ 0 % 2 = 0 by decide, show ((3 : Nat) : Int) / 2 ^ 0 % 2 = 1 by decide] at d0
  rw [show ((0 : Nat) : Int) / 2 ^ 1 % 2 = 0 by decide, show ((1 : Nat) : Int) / 2 ^ 1 % 2 = 0 by decide, show ((2 : Nat) : Int) / 2 ^ 1 % 2 = 1 by decide, show ((3 : Nat) : Int) / 2 ^ 1 % 2 = 1 by decide] at d1
  have b1 := cntI_bd (markG (picsV [p, q])) ((1 : Nat) : Int) N
  have b2 := cntI_bd (markG (picsV [p, q])) ((2 : Nat) : Int) N
  have b3 := cntI_bd (markG (picsV [p, q])) ((3 : Nat) : Int) N
  refine ⟨_, _, _, cntL_get (by decide), cntL_get (by decide), cntL_get (by decide), ?_, ?_, b1.1, b2.1, b3.1, b1.2, b2.2, b3.2⟩
  · show isum p.pic.ink = _
    rw [← d0]
    omega
  · show isum q.pic.ink = _
    rw [← d1]
    omega

theorem shares_no {W H W' H' : Int} {xs ys : List Int} (h : stackOk [⟨W, H, xs⟩, ⟨W', H', ys⟩] = false) : sharesMF W H xs W' H' ys = false := by unfold sharesMF; rw [h]; rfl

theorem shares_yes {p q : PV} {N : Nat} {W H : Int} (T : Stk [p, q] 2 N W H) : sharesMF p.W p.H p.ink q.W q.H q.ink = decide ((cntL [p, q] 4 N).getD 3 0 * (p.ink.length : Int) = isum p.ink * isum q.ink) := by
  unfold sharesMF
  have h1 : stackOk [⟨p.W, p.H, p.ink⟩, ⟨q.W, q.H, q.ink⟩] = true := T.ok
  have h2 : markCountsF [⟨p.W, p.H, p.ink⟩, ⟨q.W, q.H, q.ink⟩] = cntL [p, q] 4 N := counts_yes T
  rw [h1, h2]
  rfl

set_option maxRecDepth 100000 in
set_option maxHeartbeats 6400000 in
theorem impl_SharesMultiply (W H : Int) (ad : Option Addr) (n cap : Nat) (xs : List Int) (W' H' : Int) (ad' : Option Addr) (n' cap' : Nat) (ys : List Int) (w : World) (hn : xs.length = n) (ha : Rd w ad xs) (hl : n ≤ 1048576) (hn' : ys.length = n') (ha' : Rd w ad' ys) (hl' : n' ≤ 1048576) :
    Calls Try.prog 21 #[.agg #[.int .i64 W, .int .i64 H, .slice ad n cap], .agg #[.int .i64 W', .int .i64 H', .slice ad' n' cap']] w fun e w' => e = .returned (.bool (sharesMF W H xs W' H' ys)) ∧ Below w.heap.size w w' := by
  obtain ⟨p, hp⟩ : ∃ p : PV, p = ⟨W, H, ad, n, cap, xs⟩ := ⟨_, rfl⟩
  obtain ⟨q, hq⟩ : ∃ q : PV, q = ⟨W', H', ad', n', cap', ys⟩ := ⟨_, rfl⟩
  have eW : W = p.W := by rw [hp]
  have eH : H = p.H := by rw [hp]
  have ea : ad = p.a := by rw [hp]
  have en : n = p.n := by rw [hp]
  have ec : cap = p.c := by rw [hp]
  have ex : xs = p.ink := by rw [hp]
  have fW : W' = q.W := by rw [hq]
  have fH : H' = q.H := by rw [hq]
  have fa : ad' = q.a := by rw [hq]
  have fn : n' = q.n := by rw [hq]
  have fc : cap' = q.c := by rw [hq]
  have fx : ys = q.ink := by rw [hq]
  clear hp hq
  subst eW eH ea en ec ex fW fH fa fn fc fx
  have HN := Lib.hid hn
  have HA := Lib.hid ha
  have HN' := Lib.hid hn'
  have HA' := Lib.hid ha'
  have H4 : Hid (∀ k, k < [p, q].length → (pv [p, q] k).n ≤ 1048576) := Lib.hid (fun k hk => by
    have h2 : k = 0 ∨ k = 1 := by simp at hk; omega
    rcases h2 with rfl | rfl
    · exact hl
    · exact hl')
  clear hn ha hn' ha'
  have KA := Lib.hid ((Blk.new w 25 #[.int .i64 p.W, .int .i64 p.H, .slice p.a p.n p.c]).alloc (.cells #[.int .i64 q.W, .int .i64 q.H, .slice q.a q.n q.c] 25))
  have KB := Lib.hid (Blk.new' (g := w.heap.size + 1) (w := w.alloc (.cells #[.int .i64 p.W, .int .i64 p.H, .slice p.a p.n p.c] 25)) 25 #[.int .i64 q.W, .int .i64 q.H, .slice q.a q.n q.c] (by simp))
  have HB := Lib.hid (bAlloc (bAlloc (Below.refl w.heap.size w) (.cells #[.int .i64 p.W, .int .i64 p.H, .slice p.a p.n p.c] 25)) (.cells #[.int .i64 q.W, .int .i64 q.H, .slice q.a q.n q.c] 25))
  obtain ⟨w0, hw0⟩ : ∃ w0, w0 = (w.alloc (.cells #[.int .i64 p.W, .int .i64 p.H, .slice p.a p.n p.c] 25)).alloc (.cells #[.int .i64 q.W, .int .i64 q.H, .slice q.a q.n q.c] 25) := ⟨_, rfl⟩
  rw [← hw0] at KA KB HB
  have R0 := Lib.hid (HA.out.below HB.out)
  have R1 := Lib.hid (HA'.out.below HB.out)
  have HV := Lib.hid (rowV_two (w := w0) p q HN.out HN'.out R0.out R1.out)
  have HB1 := Lib.hid (bAlloc HB.out (.cells #[.int .i64 p.W, .int .i64 p.H, .slice p.a p.n p.c, .int .i64 q.W, .int .i64 q.H, .slice q.a q.n q.c] 25))
  have KA1 := Lib.hid (KA.out.alloc (.cells #[.int .i64 p.W, .int .i64 p.H, .slice p.a p.n p.c, .int .i64 q.W, .int .i64 q.H, .slice q.a q.n q.c] 25))
  have KB1 := Lib.hid (KB.out.alloc (.cells #[.int .i64 p.W, .int .i64 p.H, .slice p.a p.n p.c, .int .i64 q.W, .int .i64 q.H, .slice q.a q.n q.c] 25))
  obtain ⟨l0, o0, o1, o2⟩ := KA.out.c3
  obtain ⟨l1, q0, q1, q2⟩ := KB.out.c3
  have CS := Lib.hid (impl_IsStack (some ⟨w0.heap.size, 0, none⟩) 2 2 [p, q] _ rfl HV.out (by decide) H4.out)
  have CM := Lib.hid (fun (v : World) (h : RdV v (some ⟨w0.heap.size, 0, none⟩) [p, q]) => impl_MarkCounts (some ⟨w0.heap.size, 0, none⟩) 2 2 [p, q] v rfl h (by decide) H4.out)
  by_cases hs : stackOk (picsV [p, q]) = true
  case neg =>
    have hs2 : stackOk (picsV [p, q]) = false := by simpa using hs
    rw [shares_no hs2]
    rw [hs2] at CS
    clear hs hs2
    go_enter Try.func21, Try.ntmps21
    go_upto_region 1 with fail
    rw [← hw0]
    clear hw0
    go_wp2_with fail
    refine CS.out.mono ?_
    rintro e w1 ⟨rfl, hb⟩
    have HB2 := Lib.hid (bTrans HB1.out hb)
    clear hb
    go_wp2_with fail
    go_ret
    exact ⟨rfl, HB2.out⟩
  case pos =>
    obtain ⟨N, X, Y, T⟩ := stk_of (n := 2) rfl hs
    have hN2 := T.N2
    have hNp : p.ink.length = N := (T.ink 0 (by decide)).1
    obtain ⟨c1, c2, c3, e1, e2, e3, s1, s2, z1, z2, z3, y1, y2, y3⟩ := two_counts T
    have HE : Hid (markCountsF (picsV [p, q]) = cntL [p, q] 4 N) := Lib.hid (counts_yes T)
    rw [shares_yes T, e3, s1, s2, hNp]
    have EN : Hid (p.n = N) := Lib.hid (by have := HN.out; omega)
    have P0 : Hid (picOk p.W p.H p.ink 1 = true) := Lib.hid ((stackV.1 hs).2.2 0 (by simp)).1
    have P1 : Hid (picOk q.W q.H q.ink 1 = true) := Lib.hid ((stackV.1 hs).2.2 1 (by simp)).1
    rw [hs] at CS
    have E1 := Lib.hid e1
    have E2 := Lib.hid e2
    have E3 := Lib.hid e3
    have S1 := Lib.hid s1
    have S2 := Lib.hid s2
    obtain ⟨A, hA⟩ : ∃ A, c3 * (N : Int) = A := ⟨_, rfl⟩
    obtain ⟨B, hB⟩ : ∃ B, (c1 + c3) * (c2 + c3) = B := ⟨_, rfl⟩
    have a0 : 0 ≤ c3 * (N : Int) := Int.mul_nonneg z3 (by omega)
    have a1 : c3 * (N : Int) ≤ 1024 * 1024 := Int.mul_le_mul (by omega) (by omega) (by omega) (by omega)
    have b0 : 0 ≤ (c1 + c3) * (c2 + c3) := Int.mul_nonneg (by omega) (by omega)
    have b1 : (c1 + c3) * (c2 + c3) ≤ 2048 * 2048 := Int.mul_le_mul (by omega) (by omega) (by omega) (by omega)
    rw [hA] at a0 a1 ⊢
    rw [hB] at b0 b1 ⊢
    have wA : IntKind.i64.wrap A = A := IntWalk.i64_in _ (by omega)
    have wB : IntKind.i64.wrap B = B := IntWalk.i64_in _ (by omega)
    have w13 : IntKind.i64.wrap (c1 + c3) = c1 + c3 := IntWalk.i64_in _ (by omega)
    have w23 : IntKind.i64.wrap (c2 + c3) = c2 + c3 := IntWalk.i64_in _ (by omega)
    have ED : Hid (decide (A = B) = (A == B)) := Lib.hid (by cases h : (A == B) <;> simp_all)
    rw [ED.out]
    rw [EN.out] at KA KA1 o2 hw0 HV HB1 KB1
    clear hs e1 e2 e3 s1 s2 T hNp
    go_enter Try.func21, Try.ntmps21
    rw [EN.out]
    go_upto_region 1 with fail
    rw [← hw0]
    clear hw0
    go_wp2_with fail
    rw [EN.out] at CS
    refine CS.out.mono ?_
    rintro e w1 ⟨rfl, hb⟩
    have HB2 := Lib.hid (bTrans HB1.out hb)
    have KA2 := Lib.hid (KA1.out.below' hb)
    have KB2 := Lib.hid (KB1.out.below' hb)
    have HV2 := Lib.hid (HV.out.below hb)
    clear hb l0 o0 o1 o2 l1 q0 q1 q2
    go_wp2_with fail
    refine (CM.out _ (by exact HV2.out)).mono ?_
    rintro e w3 ⟨a3, n3, k3, rfl, ho, hn3, hb⟩
    rw [HE.out] at ho
    have hn3e : n3 = 4 := by have := ho.len; unfold cntL at this; rw [gen_len] at this; omega
    subst hn3e
    have HB3 := Lib.hid (bTrans HB2.out hb)
    have KA3 := Lib.hid (KA2.out.below' hb)
    have KB3 := Lib.hid (KB2.out.below' hb)
    obtain ⟨g3, rfl, hg3, ho3⟩ : ∃ g, a3 = some ⟨g, 0, none⟩ ∧ w1.heap.size ≤ g ∧ Own w3 g 4 k3 (cntL [p, q] 4 N) := by
      rcases ho with ⟨_, h0, _⟩ | h
      · omega
      · exact h
    have r1 := ho3.cell (j := 1) (by decide)
    have r2 := ho3.cell (j := 2) (by decide)
    have r3 := ho3.cell (j := 3) (by decide)
    rw [E1.out] at r1
    rw [E2.out] at r2
    rw [E3.out] at r3
    obtain ⟨l0, o0, o1, o2⟩ := KA3.out.c3
    obtain ⟨l1, q0, q1, q2⟩ := KB3.out.c3
    clear hb ho ho3 hg3
    go_wp2_with fail
    refine (impl_markLimit (some ⟨w0.heap.size, 0, none⟩) 2 2 _ (by decide)).mono ?_
    rintro e w9 ⟨rfl, rfl⟩
    go_wp2_with fail
    have SA : Hid (sumF p.W p.H p.ink = c1 + c3) := Lib.hid (by unfold sumF; rw [if_pos (picOk_le P0.out), S1.out])
    have SB : Hid (sumF q.W q.H q.ink = c2 + c3) := Lib.hid (by unfold sumF; rw [if_pos (picOk_le P1.out), S2.out])
    have RA3 := Lib.hid (HA.out.below HB3.out)
    have RB3 := Lib.hid (HA'.out.below HB3.out)
    have MK : Hid (∀ v, BelowL w3 v → v.cell? ⟨w.heap.size, 0, none⟩ = some (.int .i64 p.W) ∧ v.cell? ⟨w.heap.size, 1, none⟩ = some (.int .i64 p.H) ∧ v.cell? ⟨w.heap.size, 2, none⟩ = some (.slice p.a N p.c) ∧ v.cell? ⟨w.heap.size + 1, 0, none⟩ = some (.int .i64 q.W) ∧ v.cell? ⟨w.heap.size + 1, 1, none⟩ = some (.int .i64 q.H) ∧ v.cell? ⟨w.heap.size + 1, 2, none⟩ = some (.slice q.a q.n q.c) ∧ BelowL w3 v) := Lib.hid (fun v hB => ⟨(hB.out.cell l0).trans o0, (hB.out.cell l0).trans o1, (hB.out.cell l0).trans o2, (hB.out.cell l1).trans q0, (hB.out.cell l1).trans q1, (hB.out.cell l1).trans q2, hB⟩)
    go_region_held3 (fun v => v.cell? ⟨w.heap.size, 0, none⟩ = some (.int .i64 p.W) ∧ v.cell? ⟨w.heap.size, 1, none⟩ = some (.int .i64 p.H) ∧ v.cell? ⟨w.heap.size, 2, none⟩ = some (.slice p.a N p.c) ∧ v.cell? ⟨w.heap.size + 1, 0, none⟩ = some (.int .i64 q.W) ∧ v.cell? ⟨w.heap.size + 1, 1, none⟩ = some (.int .i64 q.H) ∧ v.cell? ⟨w.heap.size + 1, 2, none⟩ = some (.slice q.a q.n q.c) ∧ BelowL w3 v)
      (first | exact MK.out _ hb2 | exact MK.out _ hb1 | exact MK.out _ (BelowL.start _))
      (first
        | (go_at_call 29; ((with_reducible refine (impl_SumInk p.W p.H p.a N p.c p.ink _ (by have := HN.out; have := EN.out; omega) (by exact RA3.out.below (BelowL.out (limb7 (by assumption)))) (by omega)).mono ?_); rintro e v1 ⟨he, hq1⟩; (rw [SA.out] at he); subst he; have hb1 := BelowL.call (limb7 (by assumption)) hq1))
        | (go_at_call 29; ((with_reducible refine (impl_SumInk q.W q.H q.a q.n q.c q.ink _ HN'.out (by exact RB3.out.below (BelowL.out (limb7 (by assumption)))) (by omega)).mono ?_); rintro e v2 ⟨he, hq2⟩; (rw [SB.out] at he); subst he; have hb2 := BelowL.call (limb7 (by assumption)) hq2)))
    all_goals
      go_wp2_with fail
      go_ret
      exact ⟨rfl, bTrans HB3.out hb2.out⟩

end Go.Proofs.Ytkjhpfgcmbigfaa
