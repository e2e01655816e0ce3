/-
  Contracts of the laws' own helpers over lists of pictures: sizes, copies, comparisons, marks.
-/
import Derived.Test.YtafjpmlakpfidaaT4
import Derived.Test.YtafjpmlakpfidaaPic
import Derived.Deep.RegionHeld3
namespace Go.Proofs.Ytafjpmlakpfidaa
open Go.RowKit
set_option linter.unusedVariables false
set_option linter.unusedSimpArgs false

/-- Each picture of a list has at most so many amounts. -/
def LenV (ps : List PV) (M : Nat) : Prop := ∀ k, k < ps.length → (pv ps k).n ≤ M

theorem lenV_ink {ps : List PV} {M : Nat} (h : inkV ps ≤ M) : LenV ps M := fun k hk => by have := inkV_at ps k hk; omega

set_option maxHeartbeats 800000 in
theorem szPicS_ok (ad : Option Addr) (n cap : Nat) (ps : List PV) (L : Int) (w : World) (hn : ps.length = n) (ha : RdV w ad ps) (h1 : (n : Int) + (inkV ps : Int) ≤ L) (h2 : L ≤ 1048576) :
    Calls Try.prog 28 #[.slice ad n cap, .int .i64 L] w fun e w' => e = .returned (.int .i64 (L - n - inkV ps)) ∧ Below w.heap.size w w' := by
  have HN := Lib.hid hn
  have HA := Lib.hid ha
  clear hn ha
  have n2 : (n : Int) ≤ L := by omega
  have n3 : (n : Int) ≤ 1048576 := by omega
  go_enter Try.func28, Try.ntmps28
  go_wp2_with fail
  go_loopw [1, 5] (fun t i wr => ∃ (k s : Nat), k ≤ n ∧ t = .int .i64 (L - n - s) ∧ i = .int .i64 k ∧ s ≤ inkV ps ∧ Hid (inkV (ps.take k) = s) ∧ Hid (Below w.heap.size w wr)) (fun _ i _ => n - (intOf i).toNat)
  case atStart => exact ⟨0, 0, Nat.zero_le _, by simp, rfl, Nat.zero_le _, Lib.hid (by simp [inkV]), Lib.hid (Below.refl _ _)⟩
  case round =>
    obtain ⟨k, s, hk, rfl, rfl, hs, HS, HW⟩ := hrel
    by_cases hlt : k < n
    · have HR := Lib.hid (HA.out.below HW.out)
      obtain ⟨b, off, hae, hal⟩ := HR.out.addr (by have := HN.out; omega)
      subst hae
      obtain ⟨_, c0, c1, c2⟩ := HR.out.cells (k := k) (by have := HN.out; omega)
      have ht := inkV_take ps k (by have := HN.out; omega)
      have hle := inkV_le ps (k + 1)
      obtain ⟨q, hq⟩ : ∃ q, pv ps k = q := ⟨_, rfl⟩
      rw [hq] at c0 c1 c2 ht
      rw [HS.out] at ht
      have hb1 : s + q.n ≤ inkV ps := by omega
      have HT := Lib.hid ht
      clear ht hle hq
      go_wp2_with fail
      refine (szPic_ok q.W q.H q.a q.n q.c _ wr (by omega) (by omega)).mono ?_
      rintro e w5 ⟨rfl, hb⟩
      have HW5 := Lib.hid (bTrans HW.out hb)
      clear hb
      go_wp2_with fail
      go_roundw
      case rel => exact ⟨k + 1, s + q.n, by omega, by congr 1; omega, by go_num, by omega, HT, HW5⟩
      case measure => simp [intOf]; omega
    · obtain rfl : k = n := by omega
      go_wp2_with fail
      go_ret
      exact ⟨ret_int (by have := HS.out; rw [List.take_of_length_le (by have := HN.out; omega)] at this; omega), HW.out⟩

set_option maxHeartbeats 800000 in
theorem szPicS_no (ad : Option Addr) (n cap : Nat) (ps : List PV) (L : Int) (w : World) (hn : ps.length = n) (ha : RdV w ad ps) (h0 : 0 ≤ L) (h1 : L < (n : Int) + (inkV ps : Int)) (h2 : L ≤ 1048576) (h3 : n ≤ 9223372036854775807) (h4 : LenV ps 9223372036854775807) :
    Calls Try.prog 28 #[.slice ad n cap, .int .i64 L] w fun e w' => e = .returned (.int .i64 (-1)) ∧ Below w.heap.size w w' := by
  have HN := Lib.hid hn
  have HA := Lib.hid ha
  have H4 := Lib.hid h4
  clear hn ha h4
  by_cases hbig : L < (n : Int)
  · go_enter Try.func28, Try.ntmps28
    go_wp2_with fail
    go_ret
    exact ⟨rfl, Below.refl _ _⟩
  · have n2 : (n : Int) ≤ L := by omega
    have n3 : (n : Int) ≤ 1048576 := by omega
    go_enter Try.func28, Try.ntmps28
    go_wp2_with fail
    go_loopw [1, 5] (fun t i wr => ∃ (k s : Nat), k ≤ n ∧ t = .int .i64 (L - n - s) ∧ i = .int .i64 k ∧ (n : Int) + s ≤ L ∧ Hid (inkV (ps.take k) = s) ∧ Hid (Below w.heap.size w wr)) (fun _ i _ => n - (intOf i).toNat)
    case atStart => exact ⟨0, 0, Nat.zero_le _, by simp, rfl, by simp; omega, Lib.hid (by simp [inkV]), Lib.hid (Below.refl _ _)⟩
    case round =>
      obtain ⟨k, s, hk, rfl, rfl, hs, HS, HW⟩ := hrel
      by_cases hlt : k < n
      · have HR := Lib.hid (HA.out.below HW.out)
        obtain ⟨b, off, hae, hal⟩ := HR.out.addr (by have := HN.out; omega)
        subst hae
        obtain ⟨_, c0, c1, c2⟩ := HR.out.cells (k := k) (by have := HN.out; omega)
        have ht := inkV_take ps k (by have := HN.out; omega)
        have h5 := H4.out k (by have := HN.out; omega)
        obtain ⟨q, hq⟩ : ∃ q, pv ps k = q := ⟨_, rfl⟩
        rw [hq] at c0 c1 c2 ht h5
        rw [HS.out] at ht
        have HT := Lib.hid ht
        clear ht hq
        by_cases hfit : (q.n : Int) ≤ L - n - s
        · go_wp2_with fail
          refine (szPic_ok q.W q.H q.a q.n q.c _ wr (by omega) (by omega)).mono ?_
          rintro e w5 ⟨rfl, hb⟩
          have HW5 := Lib.hid (bTrans HW.out hb)
          clear hb
          go_wp2_with fail
          go_roundw
          case rel => exact ⟨k + 1, s + q.n, by omega, by congr 1; omega, by go_num, by omega, HT, HW5⟩
          case measure => simp [intOf]; omega
        · go_wp2_with fail
          refine (szPic_no q.W q.H q.a q.n q.c _ wr (by omega) (by omega) (by omega) h5).mono ?_
          rintro e w5 ⟨rfl, hb⟩
          have HW5 := Lib.hid (bTrans HW.out hb)
          clear hb
          go_wp2_with fail
          go_ret
          exact ⟨rfl, HW5.out⟩
      · exfalso
        have := HS.out
        rw [List.take_of_length_le (by have := HN.out; omega)] at this
        omega

/-- A list of pictures of the call's own that reads as another one. -/
def PicsOut (w : World) (n : Nat) (ps : List PV) (e : Ending) (w' : World) : Prop := ∃ g Q, e = .returned (.slice (some ⟨g, 0, none⟩) n n) ∧ OwnV w' w.heap.size (some ⟨g, 0, none⟩) n n Q ∧ SameV ps Q ∧ Below w.heap.size w w'

theorem infoPicture : (Try.prog.info? 24).map (fun i => (i.zero, i.size, i.bytes)) = some (some (.agg #[.int .i64 0, .int .i64 0, .slice none 0 0]), 3, 40) := by kernel_rfl

set_option maxHeartbeats 1600000 in
theorem toPicS (ad : Option Addr) (n cap : Nat) (ps : List PV) (w : World) (hn : ps.length = n) (ha : RdV w ad ps) (hl : n ≤ 1048576) (h4 : LenV ps 1048576) :
    Calls Try.prog 34 #[.slice ad n cap] w (PicsOut w n ps) := by
  have HN := Lib.hid hn
  have HA := Lib.hid ha
  have H4 := Lib.hid h4
  clear hn ha h4
  go_enter Try.func34, Try.ntmps34
  go_wp2_with (at_make; refine wp_makeV _ rfl 27 Try.underlying27 infoPicture _ _ rfl .i64 .i64 n n n rfl rfl rfl rfl hl ?_; intro w1 hr hb hz)
  have HO1 := Lib.hid (ownV_start (B := w.heap.size) hr (Nat.le_refl _))
  have HB1 := Lib.hid hb
  clear hr hb hz
  go_loopw [4] (fun i wr => ∃ (k : Nat) (Q : List PV), k ≤ n ∧ i = .int .i64 k ∧ Hid (OwnV wr w.heap.size (some ⟨w.heap.size, 0, none⟩) n n Q) ∧ Hid (Below w.heap.size w wr) ∧ Hid (∀ j, j < k → (pv Q j).W = (pv ps j).W ∧ (pv Q j).H = (pv ps j).H ∧ (pv Q j).ink = (pv ps j).ink ∧ (pv Q j).n = (pv ps j).n ∧ (pv Q j).c = (pv ps j).n)) (fun i _ => n - (intOf i).toNat)
  case atStart => exact ⟨0, _, Nat.zero_le _, rfl, HO1, HB1, Lib.hid (fun j hj => by omega)⟩
  case round =>
    obtain ⟨k, Q, hk, rfl, HO, HW, HS⟩ := hrel
    by_cases hlt : k < n
    · have HR := Lib.hid (HA.out.below HW.out)
      obtain ⟨b, off, hae, hal⟩ := HR.out.addr (by have := HN.out; omega)
      subst hae
      obtain ⟨_, c0, c1, c2⟩ := HR.out.cells (k := k) (by have := HN.out; omega)
      have hln := HR.out.len (k := k) (by have := HN.out; omega)
      have hrd := HR.out.rd (k := k) (by have := HN.out; omega)
      have h5 := H4.out k (by have := HN.out; omega)
      obtain ⟨q, hq⟩ : ∃ q, pv ps k = q := ⟨_, rfl⟩
      rw [hq] at c0 c1 c2 hln hrd h5
      have HQ := Lib.hid hq
      have HLN := Lib.hid hln
      have HRD := Lib.hid hrd
      clear hq hln hrd
      go_wp2_with fail
      refine (toPic q.W q.H q.a q.n q.c q.ink wr HLN.out HRD.out (by omega)).mono ?_
      rintro e w5 ⟨g5, rfl, hg5, ho5, hb⟩
      have HO5 := Lib.hid (HO.out.below hb)
      have HW5 := Lib.hid (bTrans HW.out hb)
      have HG5 : Hid (∀ i, OwnV.blocks (some ⟨w.heap.size, 0, none⟩) Q i → i < g5) := Lib.hid (fun i hi => by have := (HO.out.bd i hi).2; omega)
      have HP : Hid (OwnV _ w.heap.size (some ⟨w.heap.size, 0, none⟩) n n (Q.set k ⟨q.W, q.H, some ⟨g5, 0, none⟩, q.n, q.n, q.ink⟩)) := Lib.hid (HO5.out.setPic hlt ⟨q.W, q.H, some ⟨g5, 0, none⟩, q.n, q.n, q.ink⟩ (OwnA.mk ho5 (by have := HW.out.size; omega)) (fun b hb => by
        simp only [blockOf, Option.some.injEq] at hb
        subst hb
        exact ⟨by have := HG5.out w.heap.size (.inl rfl); omega, fun h => by have := HG5.out _ h; omega⟩))
      have hrow := HO5.out.rowOf
      obtain ⟨v0, v1, v2⟩ := flatV_at Q k (by rw [HO5.out.len]; exact hlt)
      have q0 := hrow.cellAt (j := k * 3) (by rw [HO5.out.len]; omega)
      have q1 := hrow.cellAt (j := k * 3 + 1) (by rw [HO5.out.len]; omega)
      have q2 := hrow.cellAt (j := k * 3 + 2) (by rw [HO5.out.len]; omega)
      rw [v0] at q0
      rw [v1] at q1
      rw [v2] at q2
      have f0 := hrow.frozen (k * 3)
      have f1 := hrow.frozen (k * 3 + 1)
      have f2 := hrow.frozen (k * 3 + 2)
      have QL : Hid (Q.length = n) := Lib.hid HO5.out.len
      clear hb ho5 hg5 hrow v0 v1 v2 c0 c1 c2
      go_wp2_with fail
      go_roundw
      case rel =>
        refine ⟨k + 1, Q.set k ⟨q.W, q.H, some ⟨g5, 0, none⟩, q.n, q.n, q.ink⟩, by omega, by go_num, HP, Lib.hid (((HW5.out.setCell (Nat.le_refl _) _).setCell (Nat.le_refl _) _).setCell (Nat.le_refl _) _), Lib.hid (fun j hj => ?_)⟩
        by_cases e : k = j
        · subst e
          rw [pv_set_eq (by rw [QL.out]; exact hlt), HQ.out]
          exact ⟨rfl, rfl, rfl, rfl, rfl⟩
        · rw [pv_set_ne e]
          exact HS.out j (by omega)
      case measure => simp [intOf]; omega
    · obtain rfl : k = n := by omega
      go_wp2_with fail
      go_ret
      exact ⟨_, Q, rfl, HO.out, ⟨by rw [HO.out.len, HN.out], fun j hj => HS.out j (by rw [← HN.out]; exact hj)⟩, HW.out⟩

set_option maxHeartbeats 1600000 in
theorem eqPicS (a1 a2 : Option Addr) (n m c d : Nat) (ps qs : List PV) (w : World) (hn : ps.length = n) (hm : qs.length = m) (ha : RdV w a1 ps) (hb : RdV w a2 qs) (hl : n ≤ 1048576) (hl2 : m ≤ 1048576) (h4 : LenV ps 1048576) (h5 : LenV qs 1048576) :
    Calls Try.prog 19 #[.slice a1 n c, .slice a2 m d] w fun e w' => e = .returned (.bool (decide (picsV ps = picsV qs))) ∧ Below w.heap.size w w' := by
  by_cases hnm : n = m
  case neg =>
    have H : Hid (¬ picsV ps = picsV qs) := Lib.hid (fun h => hnm (by have := congrArg List.length h; rw [picsV_len, picsV_len] at this; omega))
    have hq : ((n : Int) == (m : Int)) = false := by simp; omega
    have hq2 : ((n : Int) != (m : Int)) = true := by simp; omega
    clear hn hm hnm ha hb h4 h5
    go_enter Try.func19, Try.ntmps19
    go_wp2_with fail
    go_ret
    exact ⟨by simp [H.out], Below.refl _ _⟩
  case pos =>
    subst hnm
    have HN := Lib.hid hn
    have HM := Lib.hid hm
    have HA := Lib.hid ha
    have HB := Lib.hid hb
    have H4 := Lib.hid h4
    have H5 := Lib.hid h5
    have HX := Lib.hid (picsV_ext (L := ps) (M := qs) (by omega))
    clear hn hm ha hb h4 h5
    go_enter Try.func19, Try.ntmps19
    go_wp2_with fail
    go_loopw [5] (fun i wr => ∃ k : Nat, k ≤ n ∧ i = .int .i64 k ∧ Hid (∀ j, j < k → (pv ps j).W = (pv qs j).W ∧ (pv ps j).H = (pv qs j).H ∧ (pv ps j).ink = (pv qs j).ink) ∧ Hid (Below w.heap.size w wr)) (fun i _ => n - (intOf i).toNat)
    case atStart => exact ⟨0, Nat.zero_le _, rfl, Lib.hid (fun j hj => by omega), Lib.hid (Below.refl _ _)⟩
    case round =>
      obtain ⟨k, hk, rfl, HE, HW⟩ := hrel
      by_cases hlt : k < n
      · have HR := Lib.hid (HA.out.below HW.out)
        have HR2 := Lib.hid (HB.out.below HW.out)
        obtain ⟨ba, oa, hae, hal⟩ := HR.out.addr (by have := HN.out; omega)
        obtain ⟨bb, ob, hbe, hbl⟩ := HR2.out.addr (by have := HM.out; omega)
        subst hae hbe
        obtain ⟨_, c0, c1, c2⟩ := HR.out.cells (k := k) (by have := HN.out; omega)
        obtain ⟨_, d0, d1, d2⟩ := HR2.out.cells (k := k) (by have := HM.out; omega)
        have ln1 := HR.out.len (k := k) (by have := HN.out; omega)
        have ln2 := HR2.out.len (k := k) (by have := HM.out; omega)
        have rd1 := HR.out.rd (k := k) (by have := HN.out; omega)
        have rd2 := HR2.out.rd (k := k) (by have := HM.out; omega)
        have l1 := H4.out k (by have := HN.out; omega)
        have l2 := H5.out k (by have := HM.out; omega)
        have hev := HE.out
        obtain ⟨p, hp⟩ : ∃ p, pv ps k = p := ⟨_, rfl⟩
        obtain ⟨q, hq⟩ : ∃ q, pv qs k = q := ⟨_, rfl⟩
        rw [hp] at c0 c1 c2 ln1 rd1 l1
        rw [hq] at d0 d1 d2 ln2 rd2 l2
        have HP := Lib.hid hp
        have HQ := Lib.hid hq
        have L1 := Lib.hid ln1
        have L2 := Lib.hid ln2
        have R1 := Lib.hid rd1
        have R2 := Lib.hid rd2
        have k0 : (0 : Int) ≤ (k : Int) := by omega
        have k1 : (k : Int) < (n : Int) := by omega
        clear hp hq ln1 ln2 rd1 rd2 hev
        have CE := Lib.hid (fun (v : World) (h1 : Rd v p.a p.ink) (h2 : Rd v q.a q.ink) => eqPic p.W p.H q.W q.H p.a q.a p.n q.n p.c q.c p.ink q.ink v L1.out L2.out h1 h2 (by omega) (by omega))
        obtain ⟨B, hB⟩ : ∃ B, decide (p.W = q.W ∧ p.H = q.H ∧ p.ink = q.ink) = B := ⟨_, rfl⟩
        rw [hB] at CE
        have HBB := Lib.hid hB
        clear hB
        cases B
        all_goals
          go_wp2_with fail
          go_region_held3 (fun v => v.cell? ⟨ba, oa + k * 3, none⟩ = some (.int .i64 p.W) ∧ v.cell? ⟨ba, oa + k * 3 + 1, none⟩ = some (.int .i64 p.H) ∧ v.cell? ⟨ba, oa + k * 3 + 2, none⟩ = some (.slice p.a p.n p.c) ∧ v.cell? ⟨bb, ob + k * 3, none⟩ = some (.int .i64 q.W) ∧ v.cell? ⟨bb, ob + k * 3 + 1, none⟩ = some (.int .i64 q.H) ∧ v.cell? ⟨bb, ob + k * 3 + 2, none⟩ = some (.slice q.a q.n q.c))
            (first | exact ⟨c0, c1, c2, d0, d1, d2⟩ | exact ⟨(hq1.cell hal).trans c0, (hq1.cell hal).trans c1, (hq1.cell hal).trans c2, (hq1.cell hbl).trans d0, (hq1.cell hbl).trans d1, (hq1.cell hbl).trans d2⟩)
            (first
              | (go_at_call 17; ((with_reducible refine (CE.out _ (by exact R1.out.drew) (by exact R2.out.drew)).mono ?_); rintro e v1 ⟨rfl, hq1⟩)))
          have HW5 := Lib.hid (HW.out.drew.trans (hq1.mono (by have := HW.out.size; exact this)))
          clear hq1 c0 c1 c2 d0 d1 d2
          go_wp2_with fail
        · go_ret
          refine ⟨ret_bool ?_, HW5.out⟩
          rw [decide_eq_false]
          intro h
          have := HX.out.1 h k (by rw [HN.out]; exact hlt)
          rw [HP.out, HQ.out] at this
          exact absurd this (of_decide_eq_false HBB.out)
        · go_roundw
          case rel =>
            refine ⟨k + 1, by omega, by go_num, Lib.hid (fun j hj => ?_), HW5⟩
            by_cases e : j = k
            · subst e; rw [HP.out, HQ.out]; exact of_decide_eq_true HBB.out
            · exact HE.out j (by omega)
          case measure => simp [intOf]; omega
      · obtain rfl : k = n := by omega
        go_wp2_with fail
        go_ret
        exact ⟨ret_bool (decide_eq_true (HX.out.2 (fun j hj => HE.out j (by rw [← HN.out]; exact hj)))).symm, HW.out⟩

end Go.Proofs.Ytafjpmlakpfidaa
