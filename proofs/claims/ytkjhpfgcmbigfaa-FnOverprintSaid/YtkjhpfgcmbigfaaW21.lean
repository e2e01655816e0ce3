/-
  Contracts of chapter 8: CrossPlates, the parts that both have; the program's.
-/
import Derived.Test.YtkjhpfgcmbigfaaW20
import Derived.RegionTactic
namespace Go.Proofs.Ytkjhpfgcmbigfaa
open Go.RowKit
set_option linter.unusedVariables false
set_option linter.unusedSimpArgs false

/-- Plates of columns and of rows. -/
def crossC (rows cols : List Int) : List Int := gen (cols.length * rows.length) (fun i => cols.getD (i % cols.length) 0)
def crossR (rows cols : List Int) : List Int := gen (cols.length * rows.length) (fun i => rows.getD (i / cols.length) 0)

def crossF (rows cols : List Int) : List Pic × Bool :=
  if sizeOk cols.length rows.length = true ∧ within rows 1 = true ∧ within cols 1 = true then
    ([⟨cols.length, rows.length, crossC rows cols⟩, ⟨cols.length, rows.length, crossR rows cols⟩], true)
  else ([], false)

theorem cross_no {rows cols : List Int} (h : ¬ (sizeOk cols.length rows.length = true ∧ within rows 1 = true ∧ within cols 1 = true)) : crossF rows cols = ([], false) := by unfold crossF; rw [if_neg h]

theorem cross_yes {rows cols : List Int} {W H : Nat} (hW : cols.length = W) (hH : rows.length = H) (h : sizeOk W H = true) (h1 : within rows 1 = true) (h2 : within cols 1 = true) :
    crossF rows cols = ([⟨W, H, gen (W * H) (fun i => cols.getD (i % W) 0)⟩, ⟨W, H, gen (W * H) (fun i => rows.getD (i / W) 0)⟩], true) := by
  unfold crossF crossC crossR
  rw [hW, hH, if_pos ⟨h, h1, h2⟩]

/-- Two pictures, as a list of the call's own, and whether there are any. -/
def PicsOut2 (w : World) (R : List Pic × Bool) (e : Ending) (w' : World) : Prop := ∃ a n c Q, e = .returned (.tuple #[.slice a n c, .bool R.2]) ∧ OwnV w' w.heap.size a n c Q ∧ picsV Q = R.1 ∧ n ≤ 1048576 ∧ inkV Q ≤ 1048576 ∧ Below w.heap.size w w'

theorem pv_two0 (p q : PV) : pv [p, q] 0 = p := rfl
theorem pv_two1 (p q : PV) : pv [p, q] 1 = q := rfl

/-- Two pictures laid into a row of their own, their amounts their own and apart. -/
theorem ownV_two {w : World} {B g1 g2 N : Nat} {W H : Int} {xs ys : List Int} (h1 : Own w g1 N N xs) (h2 : Own w g2 N N ys) (b1 : B ≤ g1) (b2 : B ≤ g2) (hne : g1 ≠ g2) (hB : B ≤ w.heap.size) :
    OwnV (w.alloc (.cells #[.int .i64 W, .int .i64 H, .slice (some ⟨g1, 0, none⟩) N N, .int .i64 W, .int .i64 H, .slice (some ⟨g2, 0, none⟩) N N] 25)) B (some ⟨w.heap.size, 0, none⟩) 2 2 [⟨W, H, some ⟨g1, 0, none⟩, N, N, xs⟩, ⟨W, H, some ⟨g2, 0, none⟩, N, N, ys⟩] := by
  have KB := Blk.new w 25 #[.int .i64 W, .int .i64 H, .slice (some ⟨g1, 0, none⟩) N N, .int .i64 W, .int .i64 H, .slice (some ⟨g2, 0, none⟩) N N]
  have l1 := h1.lt
  have l2 := h2.lt
  refine ⟨rfl, .inr ⟨w.heap.size, rfl, hB, _, KB, Nat.le_refl _, by unfold maxLen; decide, rfl, rfl⟩, fun k hk => ?_, fun k b hk hb => ?_, fun j k b hjk hk hb => ?_⟩
  · have hk2 : k = 0 ∨ k = 1 := by omega
    rcases hk2 with rfl | rfl
    · exact OwnA.mk (h1.alloc _) b1
    · exact OwnA.mk (h2.alloc _) b2
  · have hk2 : k = 0 ∨ k = 1 := by omega
    intro e
    simp only [blockOf, Option.some.injEq] at e
    rcases hk2 with rfl | rfl
    · rw [pv_two0] at hb
      simp only [blockOf, Option.some.injEq] at hb
      omega
    · rw [pv_two1] at hb
      simp only [blockOf, Option.some.injEq] at hb
      omega
  · obtain rfl : j = 0 := by omega
    obtain rfl : k = 1 := by omega
    rw [pv_two0] at hb
    rw [pv_two1]
    simp only [blockOf, Option.some.injEq] at hb
    intro e
    simp only [blockOf, Option.some.injEq] at e
    omega

theorem filled_stepW {F : Nat → Int} {N k : Nat} {v : Int} (hk : k < N) (hv : F k = v) : (filled (gen N F) (List.replicate N 0) k).set k v = filled (gen N F) (List.replicate N 0) (k + 1) :=
  filled_succ (gen N F) _ k _ (by rw [gen_len]; exact hk) (by simp; omega) (by rw [gen_get _ _ _ hk, hv])

theorem filled_endW {F : Nat → Int} {N : Nat} : filled (gen N F) (List.replicate N 0) N = gen N F := filled_at _ _ _ (gen_len _ _) (by simp)

/-- A place's column and row. -/
theorem cross_place {W H k : Nat} (hk : k < W * H) (hW : 1 ≤ W) (hk2 : k ≤ 1048576) : ∃ X Y : Nat, k % W = X ∧ k / W = Y ∧ X < W ∧ Y < H ∧ ((k : Int).tmod (W : Int) = X) ∧ ((k : Int).tdiv (W : Int) = Y) ∧ IntKind.i64.wrap (X : Int) = X ∧ IntKind.i64.wrap (Y : Int) = Y := by
  have h1 := Nat.mod_lt k (show 0 < W by omega)
  have h4 := Nat.mod_le k W
  have h2 : k / W < H := by rw [Nat.div_lt_iff_lt_mul (by omega), Nat.mul_comm]; exact hk
  have h3 := Nat.div_le_self k W
  have e1 : (k : Int).tmod (W : Int) = ((k % W : Nat) : Int) := by rw [Int.tmod_eq_emod_of_nonneg (by omega)]; norm_cast
  have e2 : (k : Int).tdiv (W : Int) = ((k / W : Nat) : Int) := by rw [Int.tdiv_eq_ediv_of_nonneg (by omega)]; norm_cast
  obtain ⟨X, hX⟩ : ∃ X, k % W = X := ⟨_, rfl⟩
  obtain ⟨Y, hY⟩ : ∃ Y, k / W = Y := ⟨_, rfl⟩
  rw [hX] at h1 h4 e1
  rw [hY] at h2 h3 e2
  exact ⟨X, Y, hX, hY, h1, h2, e1, e2, IntWalk.i64_in _ (by omega), IntWalk.i64_in _ (by omega)⟩

theorem within_iff {cs : List Int} {m : Int} : within cs m = true ↔ ∀ k, k < cs.length → 0 ≤ cs.getD k 0 ∧ cs.getD k 0 ≤ m := by
  constructor
  · intro h k hk
    have := within_at h k hk
    simp only [List.getD_eq_getElem?_getD]
    exact this
  · exact within_mkW

theorem crossC_within {cols : List Int} {W H : Nat} (hc : cols.length = W) (hW : 1 ≤ W) (hH : 1 ≤ H) : within (gen (W * H) (fun i => cols.getD (i % W) 0)) 1 = within cols 1 := by
  have hWH : W * 1 ≤ W * H := Nat.mul_le_mul_left _ hH
  rw [Bool.eq_iff_iff, within_iff, within_iff]
  constructor
  · intro h k hk
    have := h k (by rw [gen_len]; omega)
    rw [gen_get _ _ _ (by omega), Nat.mod_eq_of_lt (by omega)] at this
    exact this
  · intro h k hk
    rw [gen_len] at hk
    rw [gen_get _ _ _ hk]
    exact h _ (by rw [hc]; exact Nat.mod_lt _ (by omega))

theorem crossR_within {rows : List Int} {W H : Nat} (hr : rows.length = H) (hW : 1 ≤ W) (hH : 1 ≤ H) : within (gen (W * H) (fun i => rows.getD (i / W) 0)) 1 = within rows 1 := by
  rw [Bool.eq_iff_iff, within_iff, within_iff]
  constructor
  · intro h k hk
    have hkW : W * (k + 1) ≤ W * H := Nat.mul_le_mul_left _ (by omega)
    rw [Nat.mul_succ] at hkW
    have := h (W * k) (by rw [gen_len]; omega)
    rw [gen_get _ _ _ (by omega), Nat.mul_div_cancel_left _ (by omega)] at this
    exact this
  · intro h k hk
    rw [gen_len] at hk
    rw [gen_get _ _ _ hk]
    exact h _ (by rw [hr, Nat.div_lt_iff_lt_mul (by omega), Nat.mul_comm]; exact hk)

theorem cross_stack {rows cols : List Int} {W H : Nat} (hc : cols.length = W) (hr : rows.length = H) (hs : sizeOk W H = true) :
    stackOk [⟨W, H, gen (W * H) (fun i => cols.getD (i % W) 0)⟩, ⟨W, H, gen (W * H) (fun i => rows.getD (i / W) 0)⟩] = (within cols 1 && within rows 1) := by
  obtain ⟨b1, b2, b3, b4, b5, b6⟩ := sizeOk_bd hs
  have e1 := crossC_within hc (by omega : 1 ≤ W) (by omega : 1 ≤ H)
  have e2 := crossR_within hr (by omega : 1 ≤ W) (by omega : 1 ≤ H)
  have p1 : picOk W H (gen (W * H) (fun i => cols.getD (i % W) 0)) 1 = within cols 1 := by
    unfold picOk
    rw [hs, decide_eq_true (by rw [gen_len]; push_cast; rfl), e1]
    rfl
  have p2 : picOk W H (gen (W * H) (fun i => rows.getD (i / W) 0)) 1 = within rows 1 := by
    unfold picOk
    rw [hs, decide_eq_true (by rw [gen_len]; push_cast; rfl), e2]
    rfl
  unfold stackOk
  simp only [List.all_cons, List.all_nil, p1, p2]
  simp

set_option maxRecDepth 100000 in
set_option maxHeartbeats 6400000 in
theorem impl_CrossPlates (ar : Option Addr) (H capr : Nat) (rows : List Int) (ac : Option Addr) (W capc : Nat) (cols : List Int) (w : World) (hr : rows.length = H) (har : Rd w ar rows) (hlr : H ≤ 1048576) (hc : cols.length = W) (hac : Rd w ac cols) (hlc : W ≤ 1048576) :
    Calls Try.prog 20 #[.slice ar H capr, .slice ac W capc] w (PicsOut2 w (crossF rows cols)) := by
  have HR := Lib.hid hr
  have HC := Lib.hid hc
  have HAR := Lib.hid har
  have HAC := Lib.hid hac
  clear hr hc har hac
  by_cases hs : sizeOk W H = true
  case neg =>
    rw [cross_no (fun h => hs (by have := h.1; rwa [HC.out, HR.out] at this))]
    have HS := Lib.hid hs
    clear hs
    go_enter Try.func20, Try.ntmps20
    go_wp2_with fail
    refine (impl_isSize_no _ _ _ HS.out).mono ?_
    rintro e w1 ⟨rfl, rfl⟩
    go_wp2_with fail
    exact bodyPost_ret (v := .tuple #[.slice none 0 0, .bool false]) (by simp [results, Try.results20, go_sem]) rfl ⟨none, 0, 0, [], rfl, OwnV.nil _ _, rfl, by omega, by simp [inkV], Below.refl _ _⟩
  case pos =>
    obtain ⟨b1, b2, b3, b4, b5, b6⟩ := sizeOk_bd hs
    obtain ⟨N, hN⟩ : ∃ N, W * H = N := ⟨_, rfl⟩
    have hq : (N : Int) = (W : Int) * (H : Int) := by rw [← hN]; push_cast; rfl
    have HQ := Lib.hid hq
    have hN1 : 1 ≤ N := by omega
    have hN2 : N ≤ 1024 := by omega
    have HS := Lib.hid hs
    have HNN := Lib.hid hN
    have bW : 1 ≤ W := by omega
    have bH : 1 ≤ H := by omega
    clear hq b5 b6
    by_cases hw1 : within rows 1 = true
    case neg =>
      rw [cross_no (fun h => hw1 h.2.1)]
      have hw2 : within rows 1 = false := by simpa using hw1
      have CW : Hid (∀ v : World, Rd v ar rows → Calls Try.prog 49 #[.slice ar H capr, .int .i64 1] v fun e w' => e = .returned (.bool false) ∧ v = w') := Lib.hid (fun v h => by have := impl_allWithin ar H capr rows 1 v HR.out h (by omega); rwa [hw2] at this)
      clear hw1 hw2 hs hN
      go_enter Try.func20, Try.ntmps20
      go_wp2_with fail
      refine (impl_isSize_yes _ _ _ HS.out).mono ?_
      rintro e w1 ⟨rfl, rfl⟩
      go_wp2_with fail
      refine (CW.out _ HAR.out).mono ?_
      rintro e w1 ⟨rfl, rfl⟩
      go_wp2_with fail
      exact bodyPost_ret (v := .tuple #[.slice none 0 0, .bool false]) (by simp [results, Try.results20, go_sem]) rfl ⟨none, 0, 0, [], rfl, OwnV.nil _ _, rfl, by omega, by simp [inkV], Below.refl _ _⟩
    case pos =>
      have CR : Hid (∀ v : World, Rd v ar rows → Calls Try.prog 49 #[.slice ar H capr, .int .i64 1] v fun e w' => e = .returned (.bool true) ∧ v = w') := Lib.hid (fun v h => by have := impl_allWithin ar H capr rows 1 v HR.out h (by omega); rwa [hw1] at this)
      by_cases hw3 : within cols 1 = true
      case neg =>
        rw [cross_no (fun h => hw3 h.2.2)]
        have hw2 : within cols 1 = false := by simpa using hw3
        have CW : Hid (∀ v : World, Rd v ac cols → Calls Try.prog 49 #[.slice ac W capc, .int .i64 1] v fun e w' => e = .returned (.bool false) ∧ v = w') := Lib.hid (fun v h => by have := impl_allWithin ac W capc cols 1 v HC.out h (by omega); rwa [hw2] at this)
        clear hw1 hw2 hw3 hs hN
        go_enter Try.func20, Try.ntmps20
        go_wp2_with fail
        refine (impl_isSize_yes _ _ _ HS.out).mono ?_
        rintro e w1 ⟨rfl, rfl⟩
        go_wp2_with fail
        refine (CR.out _ HAR.out).mono ?_
        rintro e w1 ⟨rfl, rfl⟩
        go_wp2_with fail
        refine (CW.out _ HAC.out).mono ?_
        rintro e w1 ⟨rfl, rfl⟩
        go_wp2_with fail
        exact bodyPost_ret (v := .tuple #[.slice none 0 0, .bool false]) (by simp [results, Try.results20, go_sem]) rfl ⟨none, 0, 0, [], rfl, OwnV.nil _ _, rfl, by omega, by simp [inkV], Below.refl _ _⟩
      case pos =>
        have CC : Hid (∀ v : World, Rd v ac cols → Calls Try.prog 49 #[.slice ac W capc, .int .i64 1] v fun e w' => e = .returned (.bool true) ∧ v = w') := Lib.hid (fun v h => by have := impl_allWithin ac W capc cols 1 v HC.out h (by omega); rwa [hw3] at this)
        have ER := Lib.hid (cross_yes HC.out HR.out hs hw1 hw3)
        rw [hN] at ER
        clear hw1 hw3 hs hN
        go_enter Try.func20, Try.ntmps20
        go_wp2_with fail
        refine (impl_isSize_yes _ _ _ HS.out).mono ?_
        rintro e w1 ⟨rfl, rfl⟩
        go_wp2_with fail
        refine (CR.out _ HAR.out).mono ?_
        rintro e w1 ⟨rfl, rfl⟩
        go_wp2_with fail
        refine (CC.out _ HAC.out).mono ?_
        rintro e w1 ⟨rfl, rfl⟩
        go_wp2_with fail
        refine (impl_blank W H N _ HS.out HQ.out).mono ?_
        rintro e w1 ⟨g1, rfl, hg1, ho1, hb1⟩
        have HB1 := Lib.hid hb1
        have G1 : Hid (w.heap.size ≤ g1 ∧ g1 < w1.heap.size) := Lib.hid ⟨hg1, ho1.lt⟩
        have O1 := Lib.hid ho1
        clear hg1 ho1 hb1
        go_wp2_with fail
        refine (impl_blank W H N _ HS.out HQ.out).mono ?_
        rintro e w2 ⟨g2, rfl, hg2, ho2, hb2⟩
        have HB2 := Lib.hid (bTrans HB1.out hb2)
        have G2 : Hid (w1.heap.size ≤ g2 ∧ g2 < w2.heap.size) := Lib.hid ⟨hg2, ho2.lt⟩
        have O2 := Lib.hid ho2
        have O1b := Lib.hid (O1.out.below hb2 O1.out.lt)
        clear hg2 ho2 hb2
        have KA := Lib.hid ((Blk.new w2 25 #[.int .i64 W, .int .i64 H, .slice (some ⟨g1, 0, none⟩) N N]).alloc (.cells #[.int .i64 W, .int .i64 H, .slice (some ⟨g2, 0, none⟩) N N] 25))
        have KB := Lib.hid (Blk.new' (g := w2.heap.size + 1) (w := w2.alloc (.cells #[.int .i64 W, .int .i64 H, .slice (some ⟨g1, 0, none⟩) N N] 25)) 25 #[.int .i64 W, .int .i64 H, .slice (some ⟨g2, 0, none⟩) N N] (by simp))
        have P1 := Lib.hid ((O1b.out.alloc (.cells #[.int .i64 W, .int .i64 H, .slice (some ⟨g1, 0, none⟩) N N] 25)).alloc (.cells #[.int .i64 W, .int .i64 H, .slice (some ⟨g2, 0, none⟩) N N] 25))
        have P2 := Lib.hid ((O2.out.alloc (.cells #[.int .i64 W, .int .i64 H, .slice (some ⟨g1, 0, none⟩) N N] 25)).alloc (.cells #[.int .i64 W, .int .i64 H, .slice (some ⟨g2, 0, none⟩) N N] 25))
        have HB4 := Lib.hid (bAlloc (bAlloc HB2.out (.cells #[.int .i64 W, .int .i64 H, .slice (some ⟨g1, 0, none⟩) N N] 25)) (.cells #[.int .i64 W, .int .i64 H, .slice (some ⟨g2, 0, none⟩) N N] 25))
        obtain ⟨w4, hw4⟩ : ∃ w4, w4 = (w2.alloc (.cells #[.int .i64 W, .int .i64 H, .slice (some ⟨g1, 0, none⟩) N N] 25)).alloc (.cells #[.int .i64 W, .int .i64 H, .slice (some ⟨g2, 0, none⟩) N N] 25) := ⟨_, rfl⟩
        have LA := Lib.hid ((show w2.heap.size = w2.heap.size from rfl))
        have GA : Hid (g1 < w2.heap.size ∧ g2 < w2.heap.size ∧ g1 < g2) := Lib.hid ⟨by have := G1.out; have := G2.out; omega, G2.out.2, by have := G1.out; have := G2.out; omega⟩
        obtain ⟨l0, o0, o1, o2⟩ := KA.out.c3
        obtain ⟨l1, q0, q1, q2⟩ := KB.out.c3
        go_wp2_with fail
        rw [← hw4] at KA KB P1 P2 HB4 ⊢
        clear hw4
        clear l0 o0 o1 o2 l1 q0 q1 q2
        go_loopw [38] (fun i wr => ∃ k : Nat, k ≤ N ∧ i = .int .i64 k ∧ Hid (Own wr g1 N N (filled (gen N (fun i => cols.getD (i % W) 0)) (List.replicate N 0) k)) ∧ Hid (Own wr g2 N N (filled (gen N (fun i => rows.getD (i / W) 0)) (List.replicate N 0) k)) ∧ Hid (KeepT (fun i => i = g1 ∨ i = g2) w4 wr)) (fun i _ => N - (intOf i).toNat)
        case atStart => exact ⟨0, Nat.zero_le _, rfl, Lib.hid (by rw [filled_zero]; exact P1.out), Lib.hid (by rw [filled_zero]; exact P2.out), Lib.hid (KeepT.refl _ _)⟩
        case round =>
          obtain ⟨k, hk, rfl, H1, H2, HK⟩ := hrel
          have KAr := Lib.hid (HK.out.blk KA.out (by have := GA.out; omega))
          have KBr := Lib.hid (HK.out.blk KB.out (by have := GA.out; omega))
          have HBr := Lib.hid (HB4.out.trans (HK.out.below (B := w.heap.size) (fun i hi => by have := G1.out; have := G2.out; have := HB1.out.size; rcases hi with e | e <;> omega) HB4.out.size))
          obtain ⟨l0, o0, o1, o2⟩ := KAr.out.c3
          obtain ⟨l1, q0, q1, q2⟩ := KBr.out.c3
          by_cases hlt : k < N
          · obtain ⟨X, Y, eX, eY, hX, hY, tX, tY, wX, wY⟩ := cross_place (k := k) (W := W) (H := H) (by rw [HNN.out]; exact hlt) bW (by omega)
            have eC : (fun i => cols.getD (i % W) 0) k = cols.getD X 0 := by show cols.getD (k % W) 0 = _; rw [eX]
            have eR : (fun i => rows.getD (i / W) 0) k = rows.getD Y 0 := by show rows.getD (k / W) 0 = _; rw [eY]
            obtain ⟨bc, oc, hce, lc, cc0⟩ := HAC.out X (by have := HC.out; omega)
            obtain ⟨br, or, hre, lr, cr0⟩ := HAR.out Y (by have := HR.out; omega)
            subst hce hre
            have cc := (HBr.out.cell (p := ⟨bc, oc + X, none⟩) lc).trans cc0
            have cr := (HBr.out.cell (p := ⟨br, or + Y, none⟩) lr).trans cr0
            clear cc0 cr0
            obtain ⟨C, hCv⟩ : ∃ C, cols.getD X 0 = C := ⟨_, rfl⟩
            obtain ⟨R, hRv⟩ : ∃ R, rows.getD Y 0 = R := ⟨_, rfl⟩
            rw [hCv] at cc eC
            rw [hRv] at cr eR
            have S1 := Lib.hid (filled_stepW (F := fun i => cols.getD (i % W) 0) hlt eC)
            have S2 := Lib.hid (filled_stepW (F := fun i => rows.getD (i / W) 0) hlt eR)
            have x1 := H1.out.cell hlt
            have x2 := H2.out.cell hlt
            have y1 := H1.out.frozen k
            have y2 := H2.out.frozen k
            have M1 := Lib.hid ((H1.out.set k C).other (a := ⟨g2, k, none⟩) (by have := GA.out; show g2 ≠ g1; omega) (.int .i64 R))
            have M2 := Lib.hid ((H2.out.other (a := ⟨g1, k, none⟩) (by have := GA.out; show g1 ≠ g2; omega) (.int .i64 C)).set k R)
            have HK5 := Lib.hid ((HK.out.set (a := ⟨g1, k, none⟩) (.inl rfl) (.int .i64 C)).set (a := ⟨g2, k, none⟩) (.inr rfl) (.int .i64 R))
            have ne1 : g1 ≠ g2 := by have := GA.out; omega
            have ne2 : g2 ≠ g1 := by have := GA.out; omega
            have ne3 : w2.heap.size ≠ g1 := by have := GA.out; omega
            have ne4 : w2.heap.size ≠ g2 := by have := GA.out; omega
            have ne5 : w2.heap.size + 1 ≠ g1 := by have := GA.out; omega
            have ne6 : w2.heap.size + 1 ≠ g2 := by have := GA.out; omega
            have ne7 : br ≠ g1 := by have := G1.out; omega
            have ne8 : br ≠ g2 := by have := G1.out; have := G2.out; omega
            have ne9 : bc ≠ g1 := by have := G1.out; omega
            have ne10 : bc ≠ g2 := by have := G1.out; have := G2.out; omega
            have z1 : ¬ (W : Int) = 0 := by omega
            have z2 : ((W : Int) == 0) = false := by simp; omega
            have i0 : (0 : Int) ≤ (X : Int) := by omega
            have i1 : (X : Int) < (W : Int) := by omega
            have i2 : (0 : Int) ≤ (Y : Int) := by omega
            have i3 : (Y : Int) < (H : Int) := by omega
            have i4 : (0 : Int) ≤ (k : Int) := by omega
            have i5 : (k : Int) < (N : Int) := by omega
            clear eX eY eC eR hCv hRv
            go_wp2_with fail
            go_region
            go_wp2_with fail
            go_region
            go_wp2_with fail
            go_roundw
            case rel => exact ⟨k + 1, by omega, by go_num, Lib.hid (by rw [← S1.out]; exact M1.out), Lib.hid (by rw [← S2.out]; exact M2.out), Lib.hid ⟨HK5.out.os, HK5.out.tape, HK5.out.output, HK5.out.size, HK5.out.block⟩⟩
            case measure => simp [intOf]; omega
          · obtain rfl : k = N := by omega
            have F1 := H1.out
            have F2 := H2.out
            rw [filled_endW] at F1 F2
            have HF1 := Lib.hid F1
            have HF2 := Lib.hid F2
            clear F1 F2
            go_wp2_with fail
            go_ret2
            refine ⟨_, 2, 2, _, by rw [ER.out]; rfl, ownV_two (W := W) (H := H) HF1.out HF2.out (by have := G1.out; omega) (by have := G1.out; have := G2.out; have := HB1.out.size; omega) (by have := GA.out; omega) HBr.out.size, by rw [ER.out]; rfl, by omega, by simp [inkV]; omega, bAlloc HBr.out _⟩

end Go.Proofs.Ytkjhpfgcmbigfaa
