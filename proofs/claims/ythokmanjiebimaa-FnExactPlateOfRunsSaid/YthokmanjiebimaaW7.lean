/-
  Contracts of chapter 8: plates out of runs (model).
-/
import Derived.Test.YthokmanjiebimaaW6
namespace Go.Proofs.Ythokmanjiebimaa
open Go.RowKit
set_option linter.unusedVariables false
set_option linter.unusedSimpArgs false

/-- The amounts laid while run k is gone through, d of it, no more than N + 1. -/
def inkZ (N : Nat) (rs : List Int) (k d : Nat) : List Int := (spell 0 (rs.take k) ++ List.replicate d (colR 0 k)).take (N + 1)

theorem inkZ_zero (N : Nat) (rs : List Int) : inkZ N rs 0 0 = [] := by simp [inkZ, spell]

theorem inkZ_step {N : Nat} {rs : List Int} {k d : Nat} (h : (inkZ N rs k d).length ≤ N) : inkZ N rs k (d + 1) = inkZ N rs k d ++ [colR 0 k] := by
  unfold inkZ at h ⊢
  rw [List.length_take] at h
  have hl : (spell 0 (rs.take k) ++ List.replicate d (colR 0 k)).length ≤ N := by omega
  rw [List.replicate_succ', ← List.append_assoc, List.take_of_length_le (l := spell 0 (rs.take k) ++ List.replicate d (colR 0 k)) (by omega), List.take_of_length_le (by rw [List.length_append]; simp only [List.length_singleton]; omega)]

theorem inkZ_full {N : Nat} {rs : List Int} {k d v : Nat} (h : N < (inkZ N rs k d).length) (hd : d ≤ v) : inkZ N rs k d = inkZ N rs k v := by
  unfold inkZ at h ⊢
  rw [List.length_take] at h
  obtain ⟨e, rfl⟩ : ∃ e, v = d + e := ⟨v - d, by omega⟩
  rw [← List.replicate_append_replicate, ← List.append_assoc, List.take_append_of_le_length (l₁ := spell 0 (rs.take k) ++ List.replicate d (colR 0 k)) (by omega)]

theorem inkZ_next {N : Nat} {rs : List Int} {k v : Nat} (hk : k < rs.length) (hv : (rs.getD k 0).toNat = v) : inkZ N rs k v = inkZ N rs (k + 1) 0 := by
  subst hv
  unfold inkZ
  rw [spell_take_succ rs k hk]
  simp

theorem inkZ_len (N : Nat) (rs : List Int) (k d : Nat) : (inkZ N rs k d).length ≤ N + 1 := by
  unfold inkZ
  rw [List.length_take]
  omega

theorem inkZ_end {N : Nat} {rs : List Int} {n : Nat} (hn : rs.length = n) : inkZ N rs n 0 = (spell 0 rs).take (N + 1) := by
  unfold inkZ
  rw [List.take_of_length_le (l := rs) (by omega)]
  simp

theorem por_end {W H : Int} {rs : List Int} {N : Nat} (hs : sizeOk W H = true) (hq : (N : Int) = W * H) (h : ∀ k, k < rs.length → 0 ≤ rs.getD k 0 ∧ (0 < k → 1 ≤ rs.getD k 0)) :
    porF W H rs = if picOk W H ((spell 0 rs).take (N + 1)) 1 = true then (⟨W, H, (spell 0 rs).take (N + 1)⟩, true) else (noPic, false) := by
  obtain ⟨b1, b2, b3, b4, b5, b6⟩ := sizeOk_bd hs
  have hnn : nnAll rs := by have := nn_take (rs := rs) (k := rs.length) (fun j hj => (h j hj).1) (Nat.le_refl _); rwa [List.take_length] at this
  have hl := spell_len hnn 0
  split
  · rename_i hp
    obtain ⟨_, h2, _⟩ := picOk_bd rfl hp
    rw [List.length_take] at h2
    have hlen : (spell 0 rs).length = N := by omega
    have hr : runsOk rs = true := runsOk_mk (by
      cases rs with
      | nil => simp [spell] at hlen; omega
      | cons a r => simp) h
    rw [por_yes hs hr (by omega), List.take_of_length_le (by omega)]
  · rename_i hp
    refine por_no (fun _ hr hi => hp ?_)
    rw [List.take_of_length_le (by omega)]
    exact por_plate hs hr hi

theorem por_bad {W H : Int} {rs : List Int} {N k : Nat} (hq : (N : Int) = W * H) (hk : k < rs.length) (h : ¬ (0 ≤ rs.getD k 0 ∧ rs.getD k 0 ≤ N) ∨ (rs.getD k 0 = 0 ∧ 0 < k)) : porF W H rs = (noPic, false) := by
  refine por_no (fun _ hr hi => ?_)
  have h1 := runsOk_at hr hk
  have h2 := elem_le_isum (runsOk_nn hr) hk
  rcases h with h | ⟨h3, h4⟩
  · exact h ⟨h1.1, by omega⟩
  · have := h1.2 h4; omega

theorem por_long {W H : Int} {rs : List Int} {N : Nat} (hq : (N : Int) = W * H) (h : N + 1 < rs.length) : porF W H rs = (noPic, false) := by
  refine por_no (fun _ hr hi => ?_)
  have := isum_len hr
  omega

theorem por_all {rs : List Int} {k : Nat} (h : ∀ j, j < k → 0 ≤ rs.getD j 0 ∧ (0 < j → 1 ≤ rs.getD j 0)) (hk : 0 ≤ rs.getD k 0 ∧ (0 < k → 1 ≤ rs.getD k 0)) : ∀ j, j < k + 1 → 0 ≤ rs.getD j 0 ∧ (0 < j → 1 ≤ rs.getD j 0) := fun j hj => by
  by_cases e : j = k
  · subst e; exact hk
  · exact h j (by omega)

theorem colR_mod (k : Nat) : (k : Int) % 2 = colR 0 k := by
  unfold colR
  split <;> omega

set_option maxRecDepth 100000 in
set_option maxHeartbeats 6400000 in
theorem spec_PlateOfRuns (W H : Int) (ad : Option Addr) (n cap : Nat) (rs : List Int) (w : World) (hn : rs.length = n) (ha : Rd w ad rs) (hl : n ≤ 1048576) :
    Calls Try.prog 49 #[.int .i64 W, .int .i64 H, .slice ad n cap] w (PicOut2 w (porF W H rs)) := by
  have HN := Lib.hid hn
  have HA := Lib.hid ha
  clear hn ha
  have KR1 := Lib.hid (Blk.new w 44 #[.int .i64 0, .int .i64 0, .slice none 0 0])
  have HB1 := Lib.hid (Joins.below_alloc1 w (.cells #[.int .i64 0, .int .i64 0, .slice none 0 0] 44))
  obtain ⟨w1, hw1⟩ : ∃ w1, w1 = w.alloc (.cells #[.int .i64 0, .int .i64 0, .slice none 0 0] 44) := ⟨_, rfl⟩
  by_cases hs : sizeOk W H = true
  case neg =>
    rw [por_no (fun h _ _ => hs h)]
    have HS := Lib.hid hs
    rw [← hw1] at KR1 HB1
    obtain ⟨m1, d0, d1, d2⟩ := KR1.out.c3
    obtain ⟨f0, f1, f2⟩ := KR1.out.f3
    clear hs
    go_enter Try.func49, Try.ntmps49
    go_wp2_with fail
    rw [← hw1]
    clear hw1
    refine (spec_l1Size_no _ _ _ HS.out).mono ?_
    rintro e w2 ⟨rfl, rfl⟩
    go_wp2_with fail
    exact bodyPost_ret (v := .tuple #[.agg #[.int .i64 0, .int .i64 0, .slice none 0 0], .bool false]) (by simp [results, Try.results49, go_sem, d0, d1, d2]) rfl ⟨none, 0, 0, rfl, OwnA.none _ _, by omega,
      ((HB1.out.setCell (by first | (simp; done) | (simp; omega)) _).setCell (by first | (simp; done) | (simp; omega)) _).setCell (by first | (simp; done) | (simp; omega)) _⟩
  case pos =>
    obtain ⟨b1, b2, b3, b4, b5, b6⟩ := sizeOk_bd hs
    obtain ⟨N, hN⟩ : ∃ N : Nat, (N : Int) = W * H := ⟨(W * H).toNat, by omega⟩
    have HS := Lib.hid hs
    have HQ := Lib.hid hN
    have eN : W * H = (N : Int) := hN.symm
    have n1 : 1 ≤ N := by omega
    have n2 : N ≤ 1024 := by omega
    clear hs hN b5 b6
    by_cases hlong : N + 1 < n
    case pos =>
      rw [por_long HQ.out (by have := HN.out; omega)]
      have hlong2 : (N : Int) + 1 < (n : Int) := by omega
      rw [← hw1] at KR1 HB1
      obtain ⟨m1, d0, d1, d2⟩ := KR1.out.c3
      obtain ⟨f0, f1, f2⟩ := KR1.out.f3
      go_enter Try.func49, Try.ntmps49
      go_wp2_with fail
      rw [← hw1]
      clear hw1
      refine (spec_l1Size_yes _ _ _ HS.out).mono ?_
      rintro e w2 ⟨rfl, rfl⟩
      go_wp2_with fail
      exact bodyPost_ret (v := .tuple #[.agg #[.int .i64 0, .int .i64 0, .slice none 0 0], .bool false]) (by simp [results, Try.results49, go_sem, d0, d1, d2]) rfl ⟨none, 0, 0, rfl, OwnA.none _ _, by omega,
        ((HB1.out.setCell (by first | (simp; done) | (simp; omega)) _).setCell (by first | (simp; done) | (simp; omega)) _).setCell (by first | (simp; done) | (simp; omega)) _⟩
    case neg =>
      have hlong2 : (n : Int) ≤ (N : Int) + 1 := by omega
      rw [← hw1] at KR1 HB1
      go_enter Try.func49, Try.ntmps49
      go_wp2_with fail
      rw [← hw1]
      have ZW : Hid (w1.heap.size = w.heap.size + 1) := Lib.hid (by rw [hw1]; simp)
      clear hw1
      refine (spec_l1Size_yes _ _ _ HS.out).mono ?_
      rintro e w2 ⟨rfl, rfl⟩
      have KP0 := Lib.hid (Blk.new w1 44 #[.int .i64 W, .int .i64 H, .slice none 0 0])
      have HB2 := Lib.hid (Joins.below_alloc1 w1 (.cells #[.int .i64 W, .int .i64 H, .slice none 0 0] 44))
      have HA2 := Lib.hid ((HA.out.below HB1.out).below HB2.out)
      obtain ⟨w2, hw2⟩ : ∃ w2, w2 = w1.alloc (.cells #[.int .i64 W, .int .i64 H, .slice none 0 0] 44) := ⟨_, rfl⟩
      go_wp2_with fail
      rw [← hw2] at KP0 HB2 HA2 ⊢
      have ZW2 : Hid (w2.heap.size = w1.heap.size + 1) := Lib.hid (by rw [hw2]; simp)
      have HAw2 := Lib.hid HA2.out
      clear hw2 HA2
      go_loopw [30] (fun i wr => ∃ (k m c : Nat) (a : Option Addr), k ≤ n ∧ i = .int .i64 k ∧ m ≤ N + 1 ∧ Hid (OwnA wr w2.heap.size a m c (inkZ N rs k 0)) ∧ Hid (Blk wr w1.heap.size 44 #[.int .i64 W, .int .i64 H, .slice a m c]) ∧ Hid (Below w1.heap.size w1 wr) ∧ Hid (w2.heap.size ≤ wr.heap.size) ∧ Hid (∀ j, j < k → 0 ≤ rs.getD j 0 ∧ (0 < j → 1 ≤ rs.getD j 0))) (fun i _ => n - (intOf i).toNat)
      case atStart => exact ⟨0, 0, 0, none, Nat.zero_le _, rfl, Nat.zero_le _, Lib.hid (by rw [inkZ_zero]; exact OwnA.none _ _), KP0, HB2, Lib.hid (Nat.le_refl _), Lib.hid (fun j hj => by omega)⟩
      case round =>
        obtain ⟨k, m, c, a, hk, rfl, hm, HO, KP, HW, HZ, HALL⟩ := hrel
        by_cases hlt : k < n
        · have KRr := Lib.hid (KR1.out.below HW.out KR1.out.lt)
          have HBr := Lib.hid (bTrans HB1.out HW.out)
          have HAr := Lib.hid (HA.out.below HBr.out)
          obtain ⟨ba, oa, hae, hal, hac⟩ := HAr.out.at (by have := HN.out; omega)
          have h1 := hac k (by have := HN.out; omega)
          subst hae
          obtain ⟨v, hv⟩ : ∃ v, rs.getD k 0 = v := ⟨_, rfl⟩
          rw [hv] at h1
          have HV := Lib.hid hv
          obtain ⟨l0, o0, o1, o2⟩ := KP.out.c3
          clear hv hac
          by_cases hr : 0 ≤ v ∧ v ≤ (N : Int)
          case neg =>
            rw [por_bad (k := k) HQ.out (by have := HN.out; omega) (Or.inl (by rw [HV.out]; exact hr))]
            have HR := Lib.hid hr
            obtain ⟨m1, d0, d1, d2⟩ := KRr.out.c3
            obtain ⟨f0, f1, f2⟩ := KRr.out.f3
            have HB1 := HBr
            clear hr
            go_wp2_with fail
            refine (spec_l1In_no _ _ _ _ HR.out).mono ?_
            rintro e w5 ⟨rfl, rfl⟩
            go_wp2_with fail
            exact bodyPost_ret (v := .tuple #[.agg #[.int .i64 0, .int .i64 0, .slice none 0 0], .bool false]) (by simp [results, Try.results49, go_sem, d0, d1, d2]) rfl ⟨none, 0, 0, rfl, OwnA.none _ _, by omega,
              ((HB1.out.setCell (by first | (simp; done) | (simp; omega)) _).setCell (by first | (simp; done) | (simp; omega)) _).setCell (by first | (simp; done) | (simp; omega)) _⟩
          case pos =>
            obtain ⟨r0, r1⟩ := hr
            by_cases hz : v = 0
            case pos =>
              by_cases hk0 : 0 < k
              case pos =>
                rw [por_bad (k := k) HQ.out (by have := HN.out; omega) (Or.inr ⟨by rw [HV.out]; exact hz, hk0⟩)]
                obtain ⟨m1, d0, d1, d2⟩ := KRr.out.c3
                obtain ⟨f0, f1, f2⟩ := KRr.out.f3
                have HB1 := HBr
                have hz0 : (v == 0) = true := by simpa using hz
                have hk1 : (0 : Int) < (k : Int) := by omega
                clear hz
                go_wp2_with fail
                refine (spec_l1In_yes _ _ _ _ r0 r1).mono ?_
                rintro e w5 ⟨rfl, rfl⟩
                go_wp2_with fail
                exact bodyPost_ret (v := .tuple #[.agg #[.int .i64 0, .int .i64 0, .slice none 0 0], .bool false]) (by simp [results, Try.results49, go_sem, d0, d1, d2]) rfl ⟨none, 0, 0, rfl, OwnA.none _ _, by omega,
                  ((HB1.out.setCell (by first | (simp; done) | (simp; omega)) _).setCell (by first | (simp; done) | (simp; omega)) _).setCell (by first | (simp; done) | (simp; omega)) _⟩
              case neg =>
                have hz0 : (v == 0) = true := by simpa using hz
                have hk1 : ¬ (0 : Int) < (k : Int) := by omega
                have hk2 : decide ((0 : Int) < (k : Int)) = false := by simpa using hk1
                have HG : Hid (0 ≤ v ∧ (0 < k → 1 ≤ v)) := Lib.hid ⟨r0, fun h => by omega⟩
                clear hz
                go_wp2_with fail
                refine (spec_l1In_yes _ _ _ _ r0 r1).mono ?_
                rintro e w5 ⟨rfl, rfl⟩
                go_wp2_with fail
                obtain ⟨vn, hvn⟩ : ∃ vn : Nat, v = vn := ⟨v.toNat, by omega⟩
                subst hvn
                clear l0 o0 o1 o2 h1 hz0
                go_loopw [10] (fun i wr => ∃ (e d m c : Nat) (a : Option Addr), e + d = vn ∧ i = .int .i64 e ∧ m ≤ N + 1 ∧ Hid (OwnA wr w2.heap.size a m c (inkZ N rs k d)) ∧ Hid (Blk wr w1.heap.size 44 #[.int .i64 W, .int .i64 H, .slice a m c]) ∧ Hid (Below w1.heap.size w1 wr) ∧ Hid (w2.heap.size ≤ wr.heap.size)) (fun i _ => (intOf i).toNat)
                case atStart => exact ⟨vn, 0, m, c, a, rfl, rfl, hm, HO, KP, HW, HZ⟩
                case round =>
                  obtain ⟨e, d, m, c, a, hed, rfl, hm, HO, KP, HW, HZ⟩ := hrel
                  have HED := Lib.hid hed
                  clear hed
                  by_cases he : e = 0
                  · subst he
                    have HZ1 : Hid (inkZ N rs k d = inkZ N rs (k + 1) 0) := Lib.hid (inkZ_next (by have := HN.out; omega) (by rw [HV.out]; have := HED.out; omega))
                    go_wp2_with fail
                    go_roundw
                    case rel => exact ⟨k + 1, m, c, a, by omega, by go_num, hm, Lib.hid (by rw [← HZ1.out]; exact HO.out), KP, HW, HZ, Lib.hid (por_all HALL.out (by rw [HV.out]; exact HG.out))⟩
                    case measure => simp [intOf]; omega
                  · obtain ⟨e, rfl⟩ : ∃ e2, e = e2 + 1 := ⟨e - 1, by omega⟩
                    clear he
                    have he1 : (0 : Int) < ((e : Int) + 1) := by omega
                    have heb : e ≤ 1024 := by have := HED.out; omega
                    obtain ⟨l0, o0, o1, o2⟩ := KP.out.c3
                    by_cases hmn : m ≤ N
                    · have hmn2 : (m : Int) ≤ (N : Int) := by omega
                      go_wp2_with (at_builtin; refine wp_append _ rfl (.tmp 64) (.tmp 67) rfl w2.heap.size m c a _ rfl (HO.out.alloc _) wr.heap.size ((k : Int) % 2) rfl (by go_simp) (by omega) (by have := HZ.out; simp; omega) ?_; intro ad2 cap2 w5 ho5 hg5; have KB5 := Lib.hid (app_blk HO.out hg5 KP.out (by have := ZW2.out; omega)); obtain ⟨l5, p0, p1, p2⟩ := KB5.out.c3; obtain ⟨f0, f1, f2⟩ := KB5.out.f3)
                      have HW5 := Lib.hid (app_below HO.out hg5 HW.out (by have := ZW2.out; omega) (by have := KP.out.lt; omega))
                      have HZ5 := Lib.hid (Nat.le_trans HZ.out (show wr.heap.size ≤ w5.heap.size by have := hg5.size; simp at this; omega))
                      rw [colR_mod, ← inkZ_step (by rw [HO.out.len]; exact hmn)] at ho5
                      have HO5 := Lib.hid ho5
                      clear ho5 hg5
                      go_roundw
                      case rel => exact ⟨e, d + 1, m + 1, cap2, ad2, by have := HED.out; omega, by first | rfl | go_num | (congr 1; omega), by omega, Lib.hid (HO5.out.other (by have := ZW2.out; simp; omega) _), Lib.hid (by first | exact KB5.out.set 2 _ | (have h := KB5.out.set 2 (.slice ad2 (m + 1) cap2); simpa using h)), Lib.hid (HW5.out.setCell (by simp) _), Lib.hid (by simpa [World.setCell] using HZ5.out)⟩
                      case measure => simp [intOf]
                    · have hmn2 : (N : Int) < (m : Int) := by omega
                      have HZ1 : Hid (inkZ N rs k d = inkZ N rs (k + 1) 0) := Lib.hid (by rw [inkZ_full (v := vn) (by rw [HO.out.len]; omega) (by have := HED.out; omega)]; exact inkZ_next (by have := HN.out; omega) (by rw [HV.out]; simp))
                      go_wp2_with fail
                      go_roundw
                      case rel => exact ⟨k + 1, m, c, a, by omega, by go_num, hm, Lib.hid (by rw [← HZ1.out]; exact HO.out), KP, HW, HZ, Lib.hid (por_all HALL.out (by rw [HV.out]; exact HG.out))⟩
                      case measure => simp [intOf]; omega
            case neg =>
              have hz0 : (v == 0) = false := by simpa using hz
              have HG : Hid (0 ≤ v ∧ (0 < k → 1 ≤ v)) := Lib.hid ⟨r0, fun h => by omega⟩
              clear hz
              go_wp2_with fail
              refine (spec_l1In_yes _ _ _ _ r0 r1).mono ?_
              rintro e w5 ⟨rfl, rfl⟩
              go_wp2_with fail
              obtain ⟨vn, hvn⟩ : ∃ vn : Nat, v = vn := ⟨v.toNat, by omega⟩
              subst hvn
              clear l0 o0 o1 o2 h1 hz0
              go_loopw [10] (fun i wr => ∃ (e d m c : Nat) (a : Option Addr), e + d = vn ∧ i = .int .i64 e ∧ m ≤ N + 1 ∧ Hid (OwnA wr w2.heap.size a m c (inkZ N rs k d)) ∧ Hid (Blk wr w1.heap.size 44 #[.int .i64 W, .int .i64 H, .slice a m c]) ∧ Hid (Below w1.heap.size w1 wr) ∧ Hid (w2.heap.size ≤ wr.heap.size)) (fun i _ => (intOf i).toNat)
              case atStart => exact ⟨vn, 0, m, c, a, rfl, rfl, hm, HO, KP, HW, HZ⟩
              case round =>
                obtain ⟨e, d, m, c, a, hed, rfl, hm, HO, KP, HW, HZ⟩ := hrel
                have HED := Lib.hid hed
                clear hed
                by_cases he : e = 0
                · subst he
                  have HZ1 : Hid (inkZ N rs k d = inkZ N rs (k + 1) 0) := Lib.hid (inkZ_next (by have := HN.out; omega) (by rw [HV.out]; have := HED.out; omega))
                  go_wp2_with fail
                  go_roundw
                  case rel => exact ⟨k + 1, m, c, a, by omega, by go_num, hm, Lib.hid (by rw [← HZ1.out]; exact HO.out), KP, HW, HZ, Lib.hid (por_all HALL.out (by rw [HV.out]; exact HG.out))⟩
                  case measure => simp [intOf]; omega
                · obtain ⟨e, rfl⟩ : ∃ e2, e = e2 + 1 := ⟨e - 1, by omega⟩
                  clear he
                  have he1 : (0 : Int) < ((e : Int) + 1) := by omega
                  have heb : e ≤ 1024 := by have := HED.out; omega
                  obtain ⟨l0, o0, o1, o2⟩ := KP.out.c3
                  by_cases hmn : m ≤ N
                  · have hmn2 : (m : Int) ≤ (N : Int) := by omega
                    go_wp2_with (at_builtin; refine wp_append _ rfl (.tmp 64) (.tmp 67) rfl w2.heap.size m c a _ rfl (HO.out.alloc _) wr.heap.size ((k : Int) % 2) rfl (by go_simp) (by omega) (by have := HZ.out; simp; omega) ?_; intro ad2 cap2 w5 ho5 hg5; have KB5 := Lib.hid (app_blk HO.out hg5 KP.out (by have := ZW2.out; omega)); obtain ⟨l5, p0, p1, p2⟩ := KB5.out.c3; obtain ⟨f0, f1, f2⟩ := KB5.out.f3)
                    have HW5 := Lib.hid (app_below HO.out hg5 HW.out (by have := ZW2.out; omega) (by have := KP.out.lt; omega))
                    have HZ5 := Lib.hid (Nat.le_trans HZ.out (show wr.heap.size ≤ w5.heap.size by have := hg5.size; simp at this; omega))
                    rw [colR_mod, ← inkZ_step (by rw [HO.out.len]; exact hmn)] at ho5
                    have HO5 := Lib.hid ho5
                    clear ho5 hg5
                    go_roundw
                    case rel => exact ⟨e, d + 1, m + 1, cap2, ad2, by have := HED.out; omega, by first | rfl | go_num | (congr 1; omega), by omega, Lib.hid (HO5.out.other (by have := ZW2.out; simp; omega) _), Lib.hid (by first | exact KB5.out.set 2 _ | (have h := KB5.out.set 2 (.slice ad2 (m + 1) cap2); simpa using h)), Lib.hid (HW5.out.setCell (by simp) _), Lib.hid (by simpa [World.setCell] using HZ5.out)⟩
                    case measure => simp [intOf]
                  · have hmn2 : (N : Int) < (m : Int) := by omega
                    have HZ1 : Hid (inkZ N rs k d = inkZ N rs (k + 1) 0) := Lib.hid (by rw [inkZ_full (v := vn) (by rw [HO.out.len]; omega) (by have := HED.out; omega)]; exact inkZ_next (by have := HN.out; omega) (by rw [HV.out]; simp))
                    go_wp2_with fail
                    go_roundw
                    case rel => exact ⟨k + 1, m, c, a, by omega, by go_num, hm, Lib.hid (by rw [← HZ1.out]; exact HO.out), KP, HW, HZ, Lib.hid (por_all HALL.out (by rw [HV.out]; exact HG.out))⟩
                    case measure => simp [intOf]; omega
        · obtain rfl : k = n := by omega
          have KRr := Lib.hid (KR1.out.below HW.out KR1.out.lt)
          have HBr := Lib.hid (bTrans HB1.out HW.out)
          have EP := Lib.hid (por_end (rs := rs) HS.out HQ.out (fun j hj => HALL.out j (by have := HN.out; omega)))
          have EZ := Lib.hid (inkZ_end (N := N) HN.out)
          obtain ⟨l0, o0, o1, o2⟩ := KP.out.c3
          go_wp2_with fail
          refine (spec_IsPlate W H a m c (inkZ N rs k 0) wr HO.out.len (by exact HO.out.rd) (by omega)).mono ?_
          rintro e w5 ⟨rfl, hb⟩
          have KR5 := Lib.hid (KRr.out.below' hb)
          have KP5 := Lib.hid (KP.out.below' hb)
          have HO5 := Lib.hid (HO.out.below' hb)
          have HB5 := Lib.hid (bTrans HBr.out hb)
          clear hb l0 o0 o1 o2
          obtain ⟨m1, d0, d1, d2⟩ := KR5.out.c3
          obtain ⟨f0, f1, f2⟩ := KR5.out.f3
          obtain ⟨l0, o0, o1, o2⟩ := KP5.out.c3
          have HB1 := HB5
          by_cases hp : picOk W H (inkZ N rs k 0) 1 = true
          · have ER : Hid (porF W H rs = (⟨W, H, inkZ N rs k 0⟩, true)) := Lib.hid (by rw [EP.out, ← EZ.out, if_pos hp])
            rw [hp]
            clear hp
            go_wp2_with fail
            exact bodyPost_ret (v := .tuple #[.agg #[.int .i64 W, .int .i64 H, .slice a m c], .bool true]) (by simp [results, Try.results49, go_sem, d0, d1, d2]) rfl
              ⟨a, m, c, by rw [ER.out], by rw [ER.out]; exact (((HO5.out.other (by have := ZW.out; have := ZW2.out; simp; omega) _).other (by have := ZW.out; have := ZW2.out; simp; omega) _).other (by have := ZW.out; have := ZW2.out; simp; omega) _).mono (by have := ZW.out; have := ZW2.out; omega), by omega,
                ((HB1.out.setCell (by first | (simp; done) | (simp; omega)) _).setCell (by first | (simp; done) | (simp; omega)) _).setCell (by first | (simp; done) | (simp; omega)) _⟩
          · have ER : Hid (porF W H rs = (noPic, false)) := Lib.hid (by rw [EP.out, ← EZ.out, if_neg hp])
            have hp2 : picOk W H (inkZ N rs k 0) 1 = false := by simpa using hp
            rw [hp2]
            clear hp hp2
            go_wp2_with fail
            exact bodyPost_ret (v := .tuple #[.agg #[.int .i64 0, .int .i64 0, .slice none 0 0], .bool false]) (by simp [results, Try.results49, go_sem, d0, d1, d2]) rfl
              ⟨none, 0, 0, by rw [ER.out]; rfl, by rw [ER.out]; exact OwnA.none _ _, by omega,
                ((HB1.out.setCell (by first | (simp; done) | (simp; omega)) _).setCell (by first | (simp; done) | (simp; omega)) _).setCell (by first | (simp; done) | (simp; omega)) _⟩

end Go.Proofs.Ythokmanjiebimaa
