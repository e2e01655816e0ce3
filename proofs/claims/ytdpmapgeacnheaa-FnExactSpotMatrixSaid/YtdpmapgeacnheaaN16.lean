/-
  Contracts of chapter 6: SpotRanks of the model.
-/
import Derived.Test.YtdpmapgeacnheaaM35
import Derived.Test.YtdpmapgeacnheaaN7
import Derived.Test.YtdpmapgeacnheaaD3
namespace Go.Proofs.Ytdpmapgeacnheaa
open Go.RowKit
set_option linter.unusedVariables false
set_option linter.unusedSimpArgs false

def nearK2 (A B d : Int) (i : Int) : Int := nearF A B (i % d) (i / d)

theorem own_nil5 (w : World) : Own (w.alloc (.cells #[] 3)) w.heap.size 0 0 [] :=
  ⟨rfl, #[], heap_alloc_new w _, Nat.le_refl _, Nat.zero_le _, rfl, rfl⟩

theorem place_yes {key : Int → Int} {i k : Nat} (h : key (k : Int) < key (i : Int) ∨ (key (k : Int) = key (i : Int) ∧ k < i)) : placeC key (i : Int) (k + 1) = placeC key (i : Int) k + 1 := by
  have : RLb key (k : Int) (i : Int) = true := RLb_iff.2 (by unfold RL; omega)
  rw [placeC, if_pos this]

theorem place_no {key : Int → Int} {i k : Nat} (h : ¬ (key (k : Int) < key (i : Int) ∨ (key (k : Int) = key (i : Int) ∧ k < i))) : placeC key (i : Int) (k + 1) = placeC key (i : Int) k := by
  have : ¬ RLb key (k : Int) (i : Int) = true := fun e => h (by have := RLb_iff.1 e; unfold RL at this; omega)
  rw [placeC, if_neg this, Nat.add_zero]

set_option maxRecDepth 100000 in
set_option maxHeartbeats 3200000 in
theorem spec_l5Places (key : Int → Int) (ad : Option Addr) (n cap : Nat) (w : World) (ha : Rd w ad (gen n (fun k => key (k : Int)))) (hn : n ≤ 100000) :
    Calls Try.prog 61 #[.slice ad n cap] w fun e w' => ∃ (a3 : Option Addr) (c3 : Nat), e = .returned (.slice a3 n c3) ∧ OwnA w' w.heap.size a3 n c3 (gen n (fun i => (placeC key (i : Int) n : Int))) ∧ Below w.heap.size w w' := by
  have HA := Lib.hid ha
  clear ha
  go_enter Try.func61, Try.ntmps61
  go_wp2_with fail
  go_loopw [3, 12] (fun s i wr => ∃ (k : Nat) (a3 : Option Addr) (c3 : Nat), k ≤ n ∧ i = .int .i64 k ∧ s = .slice a3 k c3 ∧ OwnA wr w.heap.size a3 k c3 (gen k (fun i => (placeC key (i : Int) n : Int))) ∧ Below w.heap.size w wr) (fun _ i _ => n - (intOf i).toNat)
  case atStart => exact ⟨0, _, 0, Nat.zero_le _, rfl, rfl, OwnA.mk (own_nil5 _) (Nat.le_refl _), Joins.below_alloc1 _ _⟩
  case round =>
    obtain ⟨k, a3, c3, hk, rfl, rfl, ho, hnx⟩ := hrel
    have HO := Lib.hid ho
    have HW := Lib.hid hnx
    clear ho hnx
    by_cases hlt : k < n
    · obtain ⟨ba, oa, hae, hal, hac⟩ := (HA.out.below HW.out).at (by rw [gen_len]; omega)
      subst hae
      have HAC := Lib.hid hac
      have h1 := hac k (by rw [gen_len]; exact hlt)
      rw [gen_get _ _ _ hlt] at h1
      obtain ⟨y, hy⟩ : ∃ y, key (k : Int) = y := ⟨_, rfl⟩
      rw [hy] at h1
      have HY := Lib.hid hy
      clear hac hy
      go_wp2_with fail
      go_loop [6, 19] (fun c i => ∃ j : Nat, j ≤ n ∧ i = .int .i64 j ∧ c = .int .i64 (placeC key (k : Int) j : Nat)) (fun _ i => n - (intOf i).toNat)
      case atStart => exact ⟨0, Nat.zero_le _, rfl, rfl⟩
      case round =>
        obtain ⟨j, hj, rfl, rfl⟩ := hrel
        have pl := placeC_le key (k : Int) j
        obtain ⟨P, hP⟩ : ∃ P : Nat, placeC key (k : Int) j = P := ⟨_, rfl⟩
        rw [hP] at pl ⊢
        have HP := Lib.hid hP
        clear hP
        by_cases hlt2 : j < n
        · have h2 := HAC.out j (by rw [gen_len]; exact hlt2)
          rw [gen_get _ _ _ hlt2] at h2
          obtain ⟨x, hx⟩ : ∃ x, key (j : Int) = x := ⟨_, rfl⟩
          rw [hx] at h2
          have HX := Lib.hid hx
          clear hx
          by_cases q1 : x < y
          · have HS := Lib.hid (place_yes (key := key) (i := k) (k := j) (Or.inl (by rw [HX.out, HY.out]; exact q1)))
            go_wp2_with fail
            go_round
            case rel => exact ⟨j + 1, by omega, by go_num, by rw [HS.out, HP.out]; go_num⟩
            case measure => simp [intOf]; omega
          · by_cases q2 : x = y
            · subst q2
              have q3 : (x == x) = true := by simp
              by_cases q4 : j < k
              · have HS := Lib.hid (place_yes (key := key) (i := k) (k := j) (Or.inr ⟨by rw [HX.out, HY.out], q4⟩))
                go_wp2_with fail
                go_round
                case rel => exact ⟨j + 1, by omega, by go_num, by rw [HS.out, HP.out]; go_num⟩
                case measure => simp [intOf]; omega
              · have HS := Lib.hid (place_no (key := key) (i := k) (k := j) (by rw [HX.out, HY.out]; omega))
                go_wp2_with fail
                go_round
                case rel => exact ⟨j + 1, by omega, by go_num, by rw [HS.out, HP.out]⟩
                case measure => simp [intOf]; omega
            · have q3 : (x == y) = false := by simpa using q2
              have HS := Lib.hid (place_no (key := key) (i := k) (k := j) (by rw [HX.out, HY.out]; omega))
              go_wp2_with fail
              go_round
              case rel => exact ⟨j + 1, by omega, by go_num, by rw [HS.out, HP.out]⟩
              case measure => simp [intOf]; omega
        · obtain rfl : j = n := by omega
          go_wp2_with (at_builtin; refine wp_append _ rfl (.tmp 40) (.tmp 42) rfl w.heap.size k c3 a3 _ rfl (HO.out.alloc _) wr.heap.size (P : Int) rfl (by go_simp) (by omega) (by have := HW.out.size; simp; omega) ?_; intro ad2 cap2 w5 ho5 hg5)
          have HW5 := Lib.hid (((HW.out.alloc HW.out.size _)).grown hg5 (by have := HW.out.size; simp; omega) (fun b hb => by have := HO.out.bd b hb; omega))
          rw [← HP.out, gen_snoc] at ho5
          have HO5 := Lib.hid ho5
          clear ho5 hg5
          go_roundw
          case rel => exact ⟨k + 1, ad2, cap2, by omega, by go_num, rfl, HO5.out, HW5.out⟩
          case measure => simp [intOf]; omega
    · go_wp2_with fail
      go_ret
      obtain rfl : n = k := by omega
      exact ⟨_, _, rfl, HO.out, HW.out⟩

set_option maxRecDepth 100000 in
set_option maxHeartbeats 3200000 in
theorem spec_SpotRanks_yes {A B d : Int} {N : Nat} {g a b p q : Int} (L : Lat A B (N : Int) g d a b p q) (w : World) :
    Calls Try.prog 30 #[.agg #[.int .i64 A, .int .i64 B]] w fun e w' => ∃ (a3 : Option Addr) (c3 : Nat), e = .returned (.slice a3 N c3) ∧ OwnA w' w.heap.size a3 N c3 (gen N (fun i => (placeC (nearK2 A B d) (i : Int) N : Int))) ∧ Below w.heap.size w w' := by
  have n1 := L.n1; have n2 := L.n2
  have N1 : 0 < N := by omega
  have N2 : N ≤ 288 := by omega
  have HL := Lib.hid L
  clear L
  go_enter Try.func30, Try.ntmps30
  go_wp2_with fail
  refine (spec_IsLattice _ _ _).mono ?_
  rw [lat_ok HL.out]
  rintro e w1 ⟨rfl, hb⟩
  have HB1 := Lib.hid (bTrans (Joins.below_alloc1 _ _) hb)
  have KB1 := Lib.hid ((Blk.new w 25 #[.int .i64 A, .int .i64 B]).below' hb)
  clear hb
  go_wp2_with fail
  go_loopw [3, 4] (fun s i wr => ∃ (k : Nat) (a3 : Option Addr) (c3 : Nat), k ≤ N ∧ i = .int .i64 k ∧ s = .slice a3 k c3 ∧ OwnA wr w1.heap.size a3 k c3 (gen k (fun i => nearK2 A B d (i : Int))) ∧ Below w1.heap.size w1 wr) (fun _ i _ => N - (intOf i).toNat)
  case atStart => exact ⟨0, _, 0, Nat.zero_le _, rfl, rfl, OwnA.mk (own_nil5 _) (Nat.le_refl _), Joins.below_alloc1 _ _⟩
  case round =>
    obtain ⟨k, a3, c3, hk, rfl, rfl, ho, hnx⟩ := hrel
    have HO := Lib.hid ho
    have HW := Lib.hid hnx
    have KR := Lib.hid (KB1.out.below' hnx)
    clear ho hnx
    obtain ⟨z, c0, c1⟩ := KR.out.c2
    go_wp2_with fail
    refine (spec_l5Area HL.out _).mono ?_
    rintro e w2 ⟨rfl, hb⟩
    have HW2 := Lib.hid (bTrans HW.out hb)
    have HO2 := Lib.hid (HO.out.below' hb)
    have KR2 := Lib.hid (KR.out.below' hb)
    clear hb z c0 c1 HW HO KR
    obtain ⟨z, c0, c1⟩ := KR2.out.c2
    by_cases hlt : k < N
    · have kn : (k : Int) < (N : Int) := by omega
      obtain ⟨R, hR⟩ : ∃ R, nearK2 A B d (k : Int) = R := ⟨_, rfl⟩
      have HRR := Lib.hid hR
      have HNR := Lib.hid (show nearF A B ((k : Int) % d) ((k : Int) / d) = R from hR)
      clear hR
      go_wp2_with fail
      refine (spec_l5Near HL.out (k : Int) R (by omega) (by omega) HNR.out _).mono ?_
      rintro e w3 ⟨rfl, hb⟩
      have HW3 := Lib.hid (bTrans HW2.out hb)
      have HO3 := Lib.hid (HO2.out.below' hb)
      clear hb z c0 c1
      go_wp2_with (at_builtin; refine wp_append _ rfl (.tmp 15) (.tmp 19) rfl w1.heap.size k c3 a3 _ rfl (HO3.out.alloc _) w3.heap.size R rfl (by go_simp) (by omega) (by have := HW3.out.size; simp; omega) ?_; intro ad2 cap2 w5 ho5 hg5)
      have HW5 := Lib.hid (((HW3.out.alloc HW3.out.size _)).grown hg5 (by have := HW3.out.size; simp; omega) (fun b hb => by have := HO3.out.bd b hb; omega))
      rw [← HRR.out, gen_snoc k (fun i => nearK2 A B d (i : Int))] at ho5
      have HO5 := Lib.hid ho5
      clear ho5 hg5
      go_roundw
      case rel => exact ⟨k + 1, ad2, cap2, by omega, by go_num, rfl, HO5.out, HW5.out⟩
      case measure => simp [intOf]; omega
    · obtain rfl : k = N := by omega
      have HBr := Lib.hid (bTrans HB1.out HW2.out)
      go_wp2_with fail
      refine (spec_l5Places (nearK2 A B d) a3 k c3 _ (by exact HO2.out.rd) (by omega)).mono ?_
      rintro e w3 ⟨a4, c4, rfl, ho, hb⟩
      have HB3 := Lib.hid (bTrans HBr.out hb)
      have HO3 := Lib.hid (ho.mono HBr.out.size)
      clear ho hb
      go_wp2_with fail
      go_ret
      exact ⟨_, _, rfl, HO3.out, HB3.out⟩

set_option maxHeartbeats 400000 in
theorem spec_SpotRanks_no {A B : Int} (h : latOk A B = false) (w : World) :
    Calls Try.prog 30 #[.agg #[.int .i64 A, .int .i64 B]] w fun e w' => e = .returned (.slice none 0 0) ∧ Below w.heap.size w w' := by
  have HL := Lib.hid h
  clear h
  go_enter Try.func30, Try.ntmps30
  go_wp2_with fail
  refine (spec_IsLattice _ _ _).mono ?_
  rw [HL.out]
  rintro e w1 ⟨rfl, hb⟩
  have HB1 := Lib.hid (bTrans (Joins.below_alloc1 _ _) hb)
  clear hb
  go_wp2_with fail
  go_ret
  exact ⟨rfl, HB1.out⟩

end Go.Proofs.Ytdpmapgeacnheaa
