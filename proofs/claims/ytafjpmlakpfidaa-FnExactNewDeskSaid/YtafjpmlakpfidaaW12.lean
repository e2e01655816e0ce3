/-
  Contracts of the laws' own helpers over lists of pictures: marks written, marks found.
-/
import Derived.Test.YtafjpmlakpfidaaW11
namespace Go.Proofs.Ytafjpmlakpfidaa
open Go.RowKit
set_option linter.unusedVariables false
set_option linter.unusedSimpArgs false

theorem size_take (L : List PV) (k : Nat) (h : k < L.length) : sizeV (L.take (k + 1)) = sizeV (L.take k) + (pv L k).n + 2 := by
  rw [sizeV_take L k h]; omega

theorem mk_step (s : Int) (Q : List PV) {k : Nat} (h : k < Q.length) (q : PV) (hq : pv Q k = q) (S : Nat) (hS : sizeV (Q.take k) = S) :
    (((mkTo s Q k).set k { pv (mkTo s Q k) k with W := s + S }).set k { pv ((mkTo s Q k).set k { pv (mkTo s Q k) k with W := s + S }) k with H := s + S + 1 }).set k
      { pv (((mkTo s Q k).set k { pv (mkTo s Q k) k with W := s + S }).set k { pv ((mkTo s Q k).set k { pv (mkTo s Q k) k with W := s + S }) k with H := s + S + 1 }) k with ink := upFrom (s + S + 2) q.n } = mkTo s Q (k + 1) := by
  have hk : k < (mkTo s Q k).length := by rw [mkTo_len]; exact h
  have hk2 : k < ((mkTo s Q k).set k { pv (mkTo s Q k) k with W := s + S }).length := by rw [List.length_set]; exact hk
  rw [pv_set_eq hk]
  rw [pv_set_eq hk2, list_set_self, list_set_self, ← mkTo_succ s Q h, mkTo_at s Q h, markV_at s Q k h, hq, hS]

set_option maxHeartbeats 1600000 in
theorem markPicS (B : Nat) (ad : Option Addr) (n cap : Nat) (s : Int) (Q : List PV) (w : World) (ho : OwnV w B ad n cap Q) (h0 : 0 ≤ s) (hl : s + sizeV Q ≤ 17592186044416) :
    Calls Try.prog 22 #[.slice ad n cap, .int .i64 s] w fun e w' => e = .returned (.int .i64 (s + sizeV Q)) ∧ OwnV w' B ad n cap (markV s Q) ∧ KeepT (OwnV.blocks ad Q) w w' := by
  have hnb : 2 * n ≤ sizeV Q := by rw [sizeV_ink, ho.len]; omega
  have HO := Lib.hid ho
  clear ho
  go_enter Try.func22, Try.ntmps22
  go_wp2_with fail
  go_loopw [1, 5] (fun t i wr => ∃ k S : Nat, k ≤ n ∧ t = .int .i64 (s + S) ∧ i = .int .i64 k ∧ S ≤ sizeV Q ∧ Hid (sizeV (Q.take k) = S) ∧ Hid (OwnV wr B ad n cap (mkTo s Q k)) ∧ Hid (KeepT (OwnV.blocks ad Q) w wr)) (fun _ i _ => n - (intOf i).toNat)
  case atStart => exact ⟨0, 0, Nat.zero_le _, by simp, rfl, Nat.zero_le _, Lib.hid rfl, Lib.hid (by rw [mkTo_zero]; exact HO.out), Lib.hid (KeepT.refl _ _)⟩
  case round =>
    obtain ⟨k, S, hk, rfl, rfl, hS, HS, HM, HK⟩ := hrel
    have ln := HO.out.len
    by_cases hlt : k < n
    · rcases HM.out.row with ⟨_, h0, _⟩ | ⟨g, hg, hBg, hr⟩
      · exfalso; omega
      subst hg
      have hkl : k < (mkTo s Q k).length := by rw [mkTo_len]; omega
      obtain ⟨v0, v1, v2⟩ := flatV_at (mkTo s Q k) k hkl
      have q0 := hr.cellAt (j := k * 3) (by omega)
      have q1 := hr.cellAt (j := k * 3 + 1) (by omega)
      have q2 := hr.cellAt (j := k * 3 + 2) (by omega)
      rw [v0] at q0
      rw [v1] at q1
      rw [v2] at q2
      have f0 := hr.frozen (k * 3)
      have f1 := hr.frozen (k * 3 + 1)
      have ht := size_take Q k (by omega)
      have hle := sizeV_le Q (k + 1)
      have hat := mkTo_at s Q (k := k) (by omega)
      rw [hat] at q0 q1 q2
      obtain ⟨q, hq⟩ : ∃ q, pv Q k = q := ⟨_, rfl⟩
      rw [hq] at q0 q1 q2 ht hat
      rw [HS.out] at ht
      have hb1 : S + q.n + 2 ≤ sizeV Q := by omega
      have HT := Lib.hid ht
      have HST := Lib.hid (mk_step s Q (by omega) q hq S HS.out)
      have HAT := Lib.hid hat
      have HLK := Lib.hid hkl
      have M1 := Lib.hid (HM.out.setW hlt (s + S))
      have M2 := Lib.hid (M1.out.setH hlt (s + S + 1))
      have I2 := Lib.hid (M2.out.ink k hlt)
      have e2 : (pv (((mkTo s Q k).set k { pv (mkTo s Q k) k with W := s + S }).set k { pv ((mkTo s Q k).set k { pv (mkTo s Q k) k with W := s + S }) k with H := s + S + 1 }) k).a = q.a ∧ (pv (((mkTo s Q k).set k { pv (mkTo s Q k) k with W := s + S }).set k { pv ((mkTo s Q k).set k { pv (mkTo s Q k) k with W := s + S }) k with H := s + S + 1 }) k).n = q.n ∧ (pv (((mkTo s Q k).set k { pv (mkTo s Q k) k with W := s + S }).set k { pv ((mkTo s Q k).set k { pv (mkTo s Q k) k with W := s + S }) k with H := s + S + 1 }) k).c = q.c := by
        rw [pv_set_eq (by rw [List.length_set]; exact hkl), pv_set_eq hkl, hat]
        exact ⟨rfl, rfl, rfl⟩
      have E2 := Lib.hid e2
      have HK2 := Lib.hid ((HK.out.set (a := ⟨g, k * 3, none⟩) (.inl rfl) (.int .i64 (s + S))).set (a := ⟨g, k * 3 + 1, none⟩) (.inl rfl) (.int .i64 (s + S + 1)))
      have HBK : Hid (∀ b, blockOf q.a = some b → OwnV.blocks (some ⟨g, 0, none⟩) Q b) := Lib.hid (fun b hb => .inr ⟨k, by omega, by rw [hq]; exact hb⟩)
      clear v0 v1 v2 hr ht hle hat hq hkl e2 ln
      go_wp2_with fail
      have I3 := I2.out
      rw [E2.out.1, E2.out.2.1, E2.out.2.2] at I3
      have HI3 := Lib.hid I3
      clear I3
      ((with_reducible refine (markInts B q.a q.n q.c (s + S + 1 + 1) _ _ (by exact HI3.out) (by omega) (by omega)).mono ?_); rintro e w5 ⟨rfl, ho5, hg5⟩)
      rw [show s + (S : Int) + 1 + 1 = s + S + 2 by omega] at ho5
      have M3 := Lib.hid (M2.out.setInk hlt (w' := w5) (ys := upFrom (s + S + 2) q.n) (by rw [E2.out.1, E2.out.2.1, E2.out.2.2]; exact ho5) (by rw [E2.out.1]; exact hg5))
      have HK5 := Lib.hid (HK2.out.trans (KeepT.ofGrown hg5 HBK.out))
      clear ho5 hg5 q0 q1 q2 f0 f1
      go_wp2_with fail
      go_roundw
      case rel => exact ⟨k + 1, S + q.n + 2, by omega, by congr 1; omega, by go_num, hb1, HT, Lib.hid (by have h := M3.out; rw [HST.out] at h; exact h), HK5⟩
      case measure => simp [intOf]; omega
    · obtain rfl : k = n := by omega
      go_wp2_with fail
      go_ret
      exact ⟨ret_int (by have := HS.out; rw [List.take_of_length_le (by omega)] at this; omega), by have h := HM.out; rwa [mkTo_all s Q ln] at h, HK.out⟩

set_option maxHeartbeats 1600000 in
theorem heldPicS (ad : Option Addr) (n cap : Nat) (s : Int) (Q : List PV) (w : World) (hn : Q.length = n) (ha : RdV w ad (markV s Q)) (h0 : 0 ≤ s) (hl : s + sizeV Q ≤ 17592186044416) :
    Calls Try.prog 25 #[.slice ad n cap, .int .i64 s] w fun e w' => e = .returned (.int .i64 (s + sizeV Q)) ∧ w = w' := by
  have hnb : 2 * n ≤ sizeV Q := by rw [sizeV_ink, hn]; omega
  have HN := Lib.hid hn
  have HA := Lib.hid ha
  clear hn ha
  go_enter Try.func25, Try.ntmps25
  go_wp2_with fail
  go_loop [1, 5] (fun t i => ∃ k S : Nat, k ≤ n ∧ t = .int .i64 (s + S) ∧ i = .int .i64 k ∧ S ≤ sizeV Q ∧ Hid (sizeV (Q.take k) = S)) (fun _ i => n - (intOf i).toNat)
  case atStart => exact ⟨0, 0, Nat.zero_le _, by simp, rfl, Nat.zero_le _, Lib.hid rfl⟩
  case round =>
    obtain ⟨k, S, hk, rfl, rfl, hS, HS⟩ := hrel
    by_cases hlt : k < n
    · obtain ⟨b, off, hae, hal⟩ := HA.out.addr (by rw [markV_len]; have := HN.out; omega)
      subst hae
      have hkm : k < (markV s Q).length := by rw [markV_len]; have := HN.out; omega
      obtain ⟨_, c0, c1, c2⟩ := HA.out.cells hkm
      have hrd := HA.out.rd hkm
      have hat := markV_at s Q k (by have := HN.out; omega)
      have ht := size_take Q k (by have := HN.out; omega)
      have hle := sizeV_le Q (k + 1)
      rw [hat] at c0 c1 c2 hrd
      obtain ⟨q, hq⟩ : ∃ q, pv Q k = q := ⟨_, rfl⟩
      rw [hq, HS.out] at c0 c1 c2 hrd
      rw [hq, HS.out] at ht
      dsimp only at c0 c1 c2 hrd
      have hb1 : S + q.n + 2 ≤ sizeV Q := by omega
      have HT := Lib.hid ht
      have HRD := Lib.hid hrd
      have z1 : ((s + (S : Int)) != (s + (S : Int))) = false := by simp
      have z2 : ((s + (S : Int) + 1) != (s + (S : Int) + 1)) = false := by simp
      clear ht hle hat hq hkm hrd
      go_wp2_with fail
      ((with_reducible refine (heldInts q.a q.n q.c (s + S + 1 + 1) w (by rw [show s + (S : Int) + 1 + 1 = s + S + 2 by omega]; exact HRD.out) (by omega) (by omega)).mono ?_); rintro e w5 ⟨rfl, rfl⟩)
      have z3 : ¬ (s + (S : Int) + 1 + 1 + (q.n : Int) < 0) := by omega
      go_wp2_with fail
      go_round
      case rel => exact ⟨k + 1, S + q.n + 2, by omega, by congr 1; omega, by go_num, hb1, HT⟩
      case measure => simp [intOf]; omega
    · obtain rfl : k = n := by omega
      go_wp2_with fail
      go_ret
      exact ⟨ret_int (by have := HS.out; rw [List.take_of_length_le (by have := HN.out; omega)] at this; omega), rfl⟩

end Go.Proofs.Ytafjpmlakpfidaa
