/-
  Contracts of chapter 8: BlendOf (program and model).
-/
import Derived.Test.YthokmanjiebimaaW17
namespace Go.Proofs.Ythokmanjiebimaa
open Go.RowKit
set_option linter.unusedVariables false
set_option linter.unusedSimpArgs false

/-- Two numbers and whether they are any. -/
def BlendOut (w : World) (R : Int × Int × Bool) (e : Ending) (w' : World) : Prop := e = .returned (.tuple #[.int .i64 R.1, .int .i64 R.2.1, .bool R.2.2]) ∧ Below w.heap.size w w'

set_option maxRecDepth 100000 in
set_option maxHeartbeats 6400000 in
theorem spec_BlendOf (ad : Option Addr) (n cap : Nat) (ps : List PV) (ac : Option Addr) (nc capc : Nat) (cs : List Int) (w : World) (hn : ps.length = n) (ha : RdV w ad ps) (hl : n ≤ 1048576) (h4 : ∀ k, k < ps.length → (pv ps k).n ≤ 1048576) (hc : cs.length = nc) (hac : Rd w ac cs) (hlc : nc ≤ 1048576) :
    Calls Try.prog 28 #[.slice ad n cap, .slice ac nc capc] w (BlendOut w (blendF (picsV ps) cs)) := by
  have HA := Lib.hid ha
  have CS := Lib.hid (spec_IsStack ad n cap ps w hn ha hl h4)
  by_cases hs : stackOk (picsV ps) = true
  case neg =>
    have hs2 : stackOk (picsV ps) = false := by simpa using hs
    rw [blend_no (fun h => hs h.1)]
    rw [hs2] at CS
    clear hs hs2 hn ha h4 hc hac
    go_enter Try.func28, Try.ntmps28
    go_wp2_with fail
    refine CS.out.mono ?_
    rintro e w1 ⟨rfl, hb⟩
    have HB1 := Lib.hid hb
    clear hb
    go_wp2_with fail
    exact bodyPost_ret (v := .tuple #[.int .i64 0, .int .i64 0, .bool false]) (by simp [results, Try.results28, go_sem]) rfl ⟨rfl, HB1.out⟩
  case pos =>
    obtain ⟨N, W, H, T⟩ := stk_of hn hs
    rw [hs] at CS
    have HT := Lib.hid T
    have hn1 := T.n1
    have hn4 := T.n4
    have hN1 := T.N1
    have hN2 := T.N2
    have n0 : (0 : Int) < (n : Int) := by omega
    have n00 : 0 < n := by omega
    have n3 : (n : Int) ≤ 4 := by omega
    obtain ⟨m1, m2⟩ := pow_nat hn4
    obtain ⟨b, off, hae, hal⟩ := ha.addr (by omega)
    subst hae
    have E : Hid (((2 ^ n : Nat) : Int) = (2 : Int) ^ n) := Lib.hid (by push_cast; rfl)
    have hLP : (picsV ps).length = n := by rw [picsV_len]; exact hn
    obtain ⟨M, hM⟩ : ∃ M, 2 ^ n = M := ⟨_, rfl⟩
    rw [hM] at m1 m2 E
    have EM : (2 : Int) ^ n = (M : Int) := E.out.symm
    by_cases hlen : nc = M
    case neg =>
      have ER : Hid (blendF (picsV ps) cs = (0, 0, false)) := Lib.hid (blend_no (fun h => hlen (by have := h.2.1; rw [hLP, hM] at this; omega)))
      rw [ER.out]
      have z1 : ((nc : Int) != (M : Int)) = true := by simp; omega
      have z2 : ((nc : Int) == (M : Int)) = false := by simp; omega
      clear hs T hM hlen hLP hn ha h4 hc hac
      go_enter Try.func28, Try.ntmps28
      go_wp2_with fail
      refine CS.out.mono ?_
      rintro e w1 ⟨rfl, hb⟩
      have HB1 := Lib.hid hb
      clear hb
      go_wp2_with fail
      exact bodyPost_ret (v := .tuple #[.int .i64 0, .int .i64 0, .bool false]) (by simp [results, Try.results28, go_sem]) rfl ⟨rfl, HB1.out⟩
    case pos =>
      subst hlen
      have HC := Lib.hid hc
      have HAC := Lib.hid hac
      have HLP := Lib.hid hLP
      have HM := Lib.hid hM
      have CM := Lib.hid (fun (v : World) (h : RdV v (some ⟨b, off, none⟩) ps) => spec_MarkCounts (some ⟨b, off, none⟩) n cap ps v hn h hl h4)
      have HCE := Lib.hid (counts_yes T)
      have z1 : ((nc : Int) != (nc : Int)) = false := by simp
      clear hs T hM hLP hn ha h4 hc hac
      go_enter Try.func28, Try.ntmps28
      go_wp2_with fail
      refine CS.out.mono ?_
      rintro e w1 ⟨rfl, hb⟩
      have HB1 := Lib.hid hb
      have HA1 := Lib.hid (HA.out.below hb)
      have HAC1 := Lib.hid (HAC.out.below hb)
      clear hb
      go_wp2_with fail
      go_loop [26] (fun i => ∃ k : Nat, k ≤ nc ∧ i = .int .i64 k ∧ Hid (∀ j, j < k → 0 ≤ cs.getD j 0 ∧ cs.getD j 0 ≤ 1000000)) (fun i => nc - (intOf i).toNat)
      case atStart => exact ⟨0, Nat.zero_le _, rfl, Lib.hid (fun j hj => by omega)⟩
      case round =>
        obtain ⟨k, hk, rfl, HALL⟩ := hrel
        by_cases hlt : k < nc
        · obtain ⟨bc, oc, hce, lc, cc⟩ := HAC1.out k (by have := HC.out; omega)
          subst hce
          obtain ⟨v, hv⟩ : ∃ v, cs.getD k 0 = v := ⟨_, rfl⟩
          rw [hv] at cc
          have HV := Lib.hid hv
          clear hv
          by_cases hvb : 0 ≤ v ∧ v ≤ 1000000
          · obtain ⟨v0, v1⟩ := hvb
            have HALL2 : Hid (∀ j, j < k + 1 → 0 ≤ cs.getD j 0 ∧ cs.getD j 0 ≤ 1000000) := Lib.hid (fun j hj => by
              by_cases e : j = k
              · subst e; rw [HV.out]; exact ⟨v0, v1⟩
              · exact HALL.out j (by omega))
            go_wp2_with fail
            refine (spec_l1In_yes _ _ _ _ v0 v1).mono ?_
            rintro e w5 ⟨rfl, rfl⟩
            go_wp2_with fail
            go_round
            case rel => exact ⟨k + 1, by omega, by go_num, HALL2⟩
            case measure => simp [intOf]; omega
          · have ER : Hid (blendF (picsV ps) cs = (0, 0, false)) := Lib.hid (blend_no (fun h => within_not (k := k) (m := 1000000) (by have := HC.out; omega) (by rw [HV.out]; exact hvb) h.2.2))
            have HVB := Lib.hid hvb
            clear hvb
            go_wp2_with fail
            refine (spec_l1In_no _ _ _ _ HVB.out).mono ?_
            rintro e w5 ⟨rfl, rfl⟩
            go_wp2_with fail
            exact bodyPost_ret (v := .tuple #[.int .i64 0, .int .i64 0, .bool false]) (by simp [results, Try.results28, go_sem]) rfl ⟨by rw [ER.out], HB1.out⟩
        · obtain rfl : k = nc := by omega
          have hw : within cs 1000000 = true := within_mkW (fun j hj => HALL.out j (by have := HC.out; omega))
          have hcl : cs.length = 2 ^ n := by rw [HM.out]; exact HC.out
          obtain ⟨S, hS, hS2⟩ := blend_nat HT.out hcl hw
          obtain ⟨G, hG⟩ : ∃ G, Nat.gcd S N = G := ⟨_, rfl⟩
          obtain ⟨g1, g2⟩ := gcd_facts hN1 hG hN2
          obtain ⟨A, hA1, hA2, hA3, hA4⟩ := quo_factsB (S := S) g1 (by omega)
          obtain ⟨B, hB1, hB2, hB3, hB4⟩ := quo_factsB (S := N) g1 (by omega)
          have ER : Hid (blendF (picsV ps) cs = ((A : Int), (B : Int), true)) := Lib.hid (by rw [blend_yes HT.out hcl hw hS hG, hA1, hB1])
          have EC : Hid (sumJ (fun r => cntI (markG (picsV ps)) r N * cs.getD r 0) k = (S : Int)) := Lib.hid (by have := blend_cnt HT.out cs; rw [HM.out] at this; rw [this, hS])
          have HG := Lib.hid hG
          have HA2 := Lib.hid hA2
          have HA3 := Lib.hid hA3
          have HBB2 := Lib.hid hB2
          have HBB3 := Lib.hid hB3
          have z3 : ¬ (G : Int) = 0 := by omega
          have z4 : ((G : Int) == 0) = false := by simp; omega
          clear hw hcl hS hG hA1 hA2 hA3 hB1 hB2 hB3
          go_wp2_with fail
          refine (CM.out _ (by exact HA1.out)).mono ?_
          rintro e w3 ⟨a3, n3', c3, rfl, ho, hn3, hb⟩
          rw [HCE.out, HM.out] at ho
          have hn3e : n3' = k := by have := ho.len; unfold cntL at this; rw [gen_len] at this; omega
          subst hn3e
          have HB3 := Lib.hid (bTrans HB1.out hb)
          have HA3' := Lib.hid (HA1.out.below hb)
          have HAC3 := Lib.hid (HAC1.out.below hb)
          have HO3 := Lib.hid ho.rd
          clear hb ho
          go_wp2_with fail
          go_loop [9, 37] (fun s i => ∃ (q : Nat) (V : Int), q ≤ n3' ∧ s = .int .i64 V ∧ i = .int .i64 q ∧ 0 ≤ V ∧ V ≤ 1024000000 * (q : Int) ∧ Hid (sumJ (fun r => cntI (markG (picsV ps)) r N * cs.getD r 0) q = V)) (fun _ i => n3' - (intOf i).toNat)
          case atStart => exact ⟨0, 0, Nat.zero_le _, rfl, rfl, by omega, by simp, Lib.hid rfl⟩
          case round =>
            obtain ⟨q, V, hq, rfl, rfl, V0, V1, HV⟩ := hrel
            by_cases hlt : q < n3'
            · obtain ⟨b3, o3, he3, l3, cc3⟩ := HO3.out q (by unfold cntL; rw [gen_len]; exact hlt)
              obtain ⟨bc, oc, hce, lc, cc⟩ := HAC3.out q (by have := HC.out; omega)
              subst he3 hce
              rw [cntL_get hlt] at cc3
              have hcb := cntI_bd (markG (picsV ps)) q N
              have hcv := HALL.out q hlt
              have hst : sumJ (fun r => cntI (markG (picsV ps)) r N * cs.getD r 0) (q + 1) = sumJ (fun r => cntI (markG (picsV ps)) r N * cs.getD r 0) q + cntI (markG (picsV ps)) q N * cs.getD q 0 := rfl
              obtain ⟨C, hC⟩ : ∃ C, cntI (markG (picsV ps)) q N = C := ⟨_, rfl⟩
              obtain ⟨D, hD⟩ : ∃ D, cs.getD q 0 = D := ⟨_, rfl⟩
              rw [hC] at hcb hst cc3
              rw [hD] at hcv hst cc
              have p0 : 0 ≤ C * D := Int.mul_nonneg (by omega) (by omega)
              have p1 : C * D ≤ 1024 * 1000000 := Int.mul_le_mul (by omega) (by omega) (by omega) (by omega)
              rw [HV.out] at hst
              obtain ⟨P, hP⟩ : ∃ P, C * D = P := ⟨_, rfl⟩
              rw [hP] at p0 p1 hst
              have HST := Lib.hid hst
              have q2 : (q : Int) ≤ 16 := by omega
              obtain ⟨C0, C1⟩ := hcb
              obtain ⟨D0, D1⟩ := hcv
              clear hst hC hD
              go_wp2_with fail
              go_round
              case rel => exact ⟨q + 1, V + P, by omega, rfl, by go_num, by omega, by push_cast; omega, HST⟩
              case measure => simp [intOf]; omega
            · obtain rfl : q = n3' := by omega
              have hVS : V = (S : Int) := by rw [← EC.out, ← HV.out]
              subst hVS
              obtain ⟨_, c0, c1, c2⟩ := HA3'.out.cells (k := 0) (by have := HT.out.len; omega)
              have ln0 := HA3'.out.len (k := 0) (by have := HT.out.len; omega)
              have hnn : (pv ps 0).n = N := by have := (HT.out.ink 0 (by omega)).1; omega
              simp only [Nat.zero_mul, Nat.add_zero] at c0 c1 c2
              rw [hnn] at c2
              clear ln0 hnn V0 V1
              go_wp2_with fail
              ((with_reducible refine (spec_l4GcdB S N _ (by omega) (by omega)).mono ?_); (try rw [HG.out]); rintro e w5 ⟨rfl, d5, rfl⟩)
              have a2 := HA2.out
              have a3 := HA3.out
              have b2 := HBB2.out
              have b3 := HBB3.out
              go_wp2_with fail
              go_quiet (fail)
              clear a2 a3 b2 b3
              go_wp2_with fail
              exact bodyPost_ret (v := .tuple #[.int .i64 A, .int .i64 B, .bool true]) (by simp [results, Try.results28, go_sem]) rfl ⟨by rw [ER.out], by first | exact below_drewN HB3.out _ | exact below_drewN (below_drewN HB3.out _) _⟩

end Go.Proofs.Ythokmanjiebimaa
