/-
  Contracts of chapter 5: split, SharesOf of the program and of the model.
-/
import Derived.Test.YtepaklcobkdfdaaK7
namespace Go.Proofs.Ytepaklcobkdfdaa
open Go.RowKit
set_option linter.unusedVariables false
set_option linter.unusedSimpArgs false

set_option maxHeartbeats 1600000 in
theorem impl_split (ad : Option Addr) (n cap : Nat) (ks : List Prt) (e : Int) (w : World) (hn : ks.length = n) (ha : Rd w ad (flat ks)) (hcap : n ≤ cap) (hk : kernOk ks = true) (he1 : -1000000 ≤ e) (he2 : e ≤ 1000000) :
    Calls Try.prog 39 #[.slice ad n cap, .int .i64 e] w (ListOut w (sharesG ks (wtTo ks n) e)) := by
  obtain ⟨h1, h2, hk2⟩ := kernOk_bd hn hk
  have HN := Lib.hid hn
  have HA := Lib.hid ha
  have HKO := Lib.hid hk
  have HK := Lib.hid hk2
  obtain ⟨w1, w2⟩ := wtTo_bd hk2 n (Nat.le_refl _)
  obtain ⟨W, hW⟩ : ∃ W, wtTo ks n = W := ⟨_, rfl⟩
  have HWD : Hid (W = wtTo ks n) := Lib.hid hW.symm
  rw [hW] at w1 w2 ⊢
  have hW1 : 1 ≤ W := by omega
  have hW2 : W ≤ 1200 := by omega
  have z1 : ¬ W = 0 := by omega
  have z2 : (W == 0) = false := by simp; omega
  clear hn ha hk hk2 hW w1 w2
  go_enter Try.func39, Try.ntmps39
  go_wp2_with fail
  refine (impl_WeightOf _ _ _ ks _ HN.out (by exact HA.out) (by omega) hcap).mono ?_
  rw [weightF_yes HN.out HKO.out, ← HWD.out]
  rintro e2 w3 ⟨rfl, hb⟩
  have HB := Lib.hid hb
  have HA2 := Lib.hid (HA.out.below hb)
  clear hb
  go_wp2_with (at_make; refine wp_make _ rfl _ _ rfl .i64 .i64 n n n rfl rfl rfl rfl (by omega) ?_; intro M hM)
  have HO0 := Lib.hid (hM.own w3)
  have HB3 := Lib.hid (bAlloc HB.out (.cells M 3))
  have HZ3 := Lib.hid HB.out.size
  obtain ⟨wo, hwo⟩ : ∃ wo : World, wo = w3.alloc (.cells M 3) := ⟨_, rfl⟩
  rw [← hwo] at HO0 HB3 ⊢
  obtain ⟨g, hg⟩ : ∃ g, w3.heap.size = g := ⟨_, rfl⟩
  rw [hg] at HO0 HZ3 ⊢
  clear hwo hM HA2
  go_loopw [7, 18] (fun r i wr => ∃ (k : Nat), k ≤ n ∧ i = .int .i64 k ∧ r = .int .i64 (e - shSum ks W e k) ∧ Own wr g n n (filled (gen n (shareB ks W e)) (List.replicate n 0) k) ∧ Below w.heap.size w wr) (fun _ i _ => n - (intOf i).toNat)
  case atStart => exact ⟨0, Nat.zero_le _, rfl, by simp [shSum], by rw [filled_zero]; exact HO0.out, HB3.out⟩
  case round =>
    obtain ⟨k, hk, rfl, rfl, ho, hw⟩ := hrel
    have HO := Lib.hid ho
    have HX := Lib.hid hw
    have sw := shSum_wide (e := e) HK.out he1 he2 k hk
    rw [← HWD.out] at sw
    by_cases hlt : k < n
    · obtain ⟨ba, oa, hae, hal, c0, c1, c2⟩ := rd_part (HA.out.below hw) (k := k) (by have := HN.out; omega)
      subst hae
      obtain ⟨p, hp⟩ : ∃ p, prt ks k = p := ⟨_, rfl⟩
      obtain ⟨q1, q2, q3, q4⟩ := shareB_wide (e := e) HK.out k hlt he1 he2
      have sq := shSum_wide (e := e) HK.out he1 he2 (k + 1) (by omega)
      rw [← HWD.out] at q3 q4 sq
      have HS : Hid (shSum ks W e (k + 1) = shSum ks W e k + shareB ks W e k) := Lib.hid rfl
      have HQ : Hid (shareB ks W e k = e * (prt ks k).wt / W) := Lib.hid rfl
      obtain ⟨Q, hQ⟩ : ∃ Q, shareB ks W e k = Q := ⟨_, rfl⟩
      rw [hp] at c0 c1 c2 q1 q2 HQ
      rw [hQ] at HS HQ q3 q4
      rw [HS.out] at sq
      obtain ⟨X, Y, T⟩ := p
      dsimp only at c0 c1 c2 q1 q2 HQ
      obtain ⟨S, hS⟩ : ∃ S, shSum ks W e k = S := ⟨_, rfl⟩
      rw [hS] at sw sq HS ⊢
      obtain ⟨V, hV⟩ : ∃ V, e * T = V := ⟨_, rfl⟩
      rw [hV] at q1 q2 HQ
      have hD : V / W = Q := HQ.out.symm
      have hs := ho.set k Q
      rw [filled_succ (gen n (shareB ks W e)) _ k _ (by rw [gen_len]; exact hlt) (by simp; omega) (by rw [gen_get _ _ _ hlt]; exact hQ)] at hs
      have HSE := Lib.hid hs
      have g2 := ho.cell hlt
      have g3 := ho.frozen k
      have gl := ho.lt
      have HS2 := Lib.hid hS
      have HD2 := Lib.hid hD
      clear hp hw hQ HQ hS ho hs hD
      go_wp2_with fail
      refine (impl_dividedDown V W _ hW1 (by omega) (by omega) (by omega)).mono ?_
      rw [HD2.out]
      rintro e2 w4 ⟨rfl, rfl⟩
      go_wp2_with fail
      go_roundw
      case rel => exact ⟨k + 1, by omega, by go_num, by rw [HS.out]; go_num, HSE.out.alloc _, bAlloc (HX.out.setCell HZ3.out _) _⟩
      case measure => simp [intOf]; omega
    · obtain rfl : k = n := by omega
      have hf := ho
      rw [filled_at _ _ _ (gen_len _ _) (by simp)] at hf
      obtain ⟨V, hV⟩ : ∃ V, (gen k (shareB ks W e)).getD 0 0 = V := ⟨_, rfl⟩
      have q0 := hf.cell (j := 0) (by omega)
      have f0 := hf.frozen 0
      rw [hV] at q0
      have HV := Lib.hid hV
      have q3 := (shareB_wide (e := e) HK.out 0 (by omega) he1 he2).2.2
      rw [← HWD.out] at q3
      rw [gen_get _ _ _ (by omega)] at hV
      rw [hV] at q3
      have HSET := Lib.hid (hf.set 0 (V + (e - shSum ks W e k)))
      obtain ⟨S, hS⟩ : ∃ S, shSum ks W e k = S := ⟨_, rfl⟩
      have HS := Lib.hid hS
      rw [hS] at sw HSET ⊢
      clear hw hV ho hf hS
      go_wp2_with fail
      go_ret
      refine ⟨_, _, _, rfl, OwnA.mk ?_ HZ3.out, by omega, HX.out.setCell HZ3.out _⟩
      have h := HSET.out
      rw [gen_set0 (f := shareB ks W e) HN.out h1 (by rw [HV.out, HS.out])] at h
      exact h

set_option maxHeartbeats 800000 in
theorem impl_SharesOf (ad : Option Addr) (n cap : Nat) (ks : List Prt) (e : Int) (w : World) (hn : ks.length = n) (ha : Rd w ad (flat ks)) (hl : n ≤ 1048576) (hcap : n ≤ cap) :
    Calls Try.prog 13 #[.slice ad n cap, .int .i64 e] w (ListOut w (sharesF ks e)) := by
  have HN := Lib.hid hn
  have HA := Lib.hid ha
  clear hn ha
  by_cases hk : kernOk ks = true
  case neg =>
    rw [sharesF_no (fun h => hk h.1)]
    have hk2 : kernOk ks = false := by simpa using hk
    clear hk
    go_enter Try.func13, Try.ntmps13
    go_wp2_with fail
    refine (impl_IsKernel _ _ _ ks _ HN.out (by exact HA.out) hl hcap).mono ?_
    rintro e2 w1 ⟨rfl, hb⟩
    rw [hk2]
    have HB := Lib.hid hb
    clear hb
    go_wp2_with fail
    go_ret
    exact ⟨_, _, _, rfl, OwnA.none _ _, by omega, HB.out⟩
  case pos =>
    by_cases he : -1000000 ≤ e ∧ e ≤ 1000000
    case neg =>
      rw [sharesF_no (fun h => he h.2)]
      have HE := Lib.hid he
      by_cases h1 : e < -1000000
      · clear he
        go_enter Try.func13, Try.ntmps13
        go_wp2_with fail
        refine (impl_IsKernel _ _ _ ks _ HN.out (by exact HA.out) hl hcap).mono ?_
        rintro e2 w1 ⟨rfl, hb⟩
        rw [hk]
        have HB := Lib.hid hb
        clear hb
        go_wp2_with fail
        go_ret
        exact ⟨_, _, _, rfl, OwnA.none _ _, by omega, HB.out⟩
      · have h2 : 1000000 < e := by omega
        clear he
        go_enter Try.func13, Try.ntmps13
        go_wp2_with fail
        refine (impl_IsKernel _ _ _ ks _ HN.out (by exact HA.out) hl hcap).mono ?_
        rintro e2 w1 ⟨rfl, hb⟩
        rw [hk]
        have HB := Lib.hid hb
        clear hb
        go_wp2_with fail
        go_ret
        exact ⟨_, _, _, rfl, OwnA.none _ _, by omega, HB.out⟩
    case pos =>
      obtain ⟨he1, he2⟩ := he
      rw [sharesF_yes HN.out hk he1 he2]
      have HK := Lib.hid hk
      go_enter Try.func13, Try.ntmps13
      go_wp2_with fail
      refine (impl_IsKernel _ _ _ ks _ HN.out (by exact HA.out) hl hcap).mono ?_
      rintro e2 w1 ⟨rfl, hb⟩
      rw [hk]
      have HB := Lib.hid hb
      clear hb hk
      go_wp2_with fail
      refine (impl_split _ _ _ ks _ _ HN.out (by exact HA.out.below HB.out) hcap HK.out he1 he2).mono ?_
      rintro e2 w2 ⟨a, m, c, rfl, ho, hm, hb⟩
      have HB2 := Lib.hid (bTrans HB.out hb)
      have HO := Lib.hid (ho.mono HB.out.size)
      clear ho hb
      go_wp2_with fail
      go_ret
      exact ⟨_, _, _, rfl, HO.out, hm, HB2.out⟩

end Go.Proofs.Ytepaklcobkdfdaa
