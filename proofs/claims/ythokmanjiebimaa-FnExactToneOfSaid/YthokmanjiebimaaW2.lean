/-
  Contracts of chapter 8: plates grown and shrunk (model).
-/
import Derived.Test.YthokmanjiebimaaW1
import Derived.Test.YthokmanjiebimaaC2
import Derived.Test.YthokmanjiebimaaD3
namespace Go.Proofs.Ythokmanjiebimaa
open Go.RowKit
set_option linter.unusedVariables false
set_option linter.unusedSimpArgs false

def growF (m : Int) (W H : Int) (xs : List Int) : Pic := if picOk W H xs 1 = true then ⟨W, H, leastG W.toNat H.toNat xs xs.length m⟩ else noPic
def gainF (W H : Int) (xs : List Int) : Int := if picOk W H xs 1 = true then isum (leastG W.toNat H.toNat xs xs.length 1) - isum xs else 0

theorem growF_no {m W H : Int} {xs : List Int} (h : ¬ picOk W H xs 1 = true) : growF m W H xs = noPic := by unfold growF; rw [if_neg h]

theorem growF_yes {m W H : Int} {xs : List Int} {n : Nat} (hn : xs.length = n) (h : picOk W H xs 1 = true) : growF m W H xs = ⟨W, H, leastG W.toNat H.toNat xs n m⟩ := by unfold growF; rw [if_pos h, hn]

theorem grown_callW {a b c : World} {row : Option Nat} (h : a.grownBy b row) (hb : Below b.heap.size b c) : a.grownBy c row :=
  grown_trans h ⟨hb.os, hb.tape, hb.output, hb.size, fun i hi _ => hb.block i hi⟩

theorem filled_skipW (ys xs : List Int) (k : Nat) (hk : k < ys.length) (hx : k < xs.length) (hv : ys.getD k 0 = xs.getD k 0) : filled ys xs k = filled ys xs (k + 1) := by
  rw [← filled_succ ys xs k _ hk hx rfl, hv]
  apply List.ext_getElem?
  intro i
  rw [List.getElem?_set]
  by_cases h : k = i
  · subst h
    rw [if_pos rfl, if_pos (by simp [filled]; omega)]
    simp only [filled]
    rw [List.getElem?_append_right (by simp; omega)]
    simp only [List.length_take, Nat.min_eq_left (Nat.le_of_lt hk), Nat.sub_self, List.getElem?_drop, Nat.add_zero]
    simp [List.getD, List.getElem?_eq_getElem hx]
  · rw [if_neg h]

theorem leastG_len (w h : Nat) (xs : List Int) (n : Nat) (m : Int) : (leastG w h xs n m).length = n := gen_len _ _

theorem leastG_at {w h : Nat} {xs : List Int} {n : Nat} {m : Int} {k : Nat} (hk : k < n) : (leastG w h xs n m).getD k 0 = if m ≤ nearS w h xs k then 1 else 0 := gen_get _ _ _ hk

set_option maxHeartbeats 1600000 in
theorem spec_l7Least (W H : Int) (ad : Option Addr) (n cap : Nat) (xs : List Int) (least : Int) (w : World) (hn : xs.length = n) (ha : Rd w ad xs) (hl : n ≤ 9223372036854775807) :
    Calls Try.prog 71 #[.agg #[.int .i64 W, .int .i64 H, .slice ad n cap], .int .i64 least] w (PicOut w (growF least W H xs)) := by
  have HN := Lib.hid hn
  have HA := Lib.hid ha
  clear hn ha
  by_cases hp : picOk W H xs 1 = true
  case neg =>
    have hp2 : picOk W H xs 1 = false := by simpa using hp
    rw [growF_no hp]
    clear hp
    go_enter Try.func71, Try.ntmps71
    go_wp2_with fail
    refine (spec_IsPlate _ _ _ _ _ xs _ HN.out (by exact (HA.out.alloc _).alloc _) hl).mono ?_
    rintro e w1 ⟨rfl, hb⟩
    have HB1 := Lib.hid ((Joins.below_alloc2 _ _ _).trans (hb.mono (by simp; omega)))
    have KP1 := Lib.hid (((Blk.new w 44 #[.int .i64 W, .int .i64 H, .slice ad n cap]).alloc _).below' hb)
    have KR1 : Hid (Blk w1 (w.heap.size + 1) 44 #[.int .i64 0, .int .i64 0, .slice none 0 0]) := by
      have h := (Blk.new (w.alloc (.cells #[.int .i64 W, .int .i64 H, .slice ad n cap] 44)) 44 #[.int .i64 0, .int .i64 0, .slice none 0 0]).below' hb
      exact Lib.hid (by simpa using h)
    obtain ⟨l1, c0, c1, c2⟩ := KP1.out.c3
    obtain ⟨m1, d0, d1, d2⟩ := KR1.out.c3
    obtain ⟨f0, f1, f2⟩ := KR1.out.f3
    clear hb
    rw [hp2]
    go_wp2_with fail
    exact bodyPost_ret (v := .agg #[.int .i64 0, .int .i64 0, .slice none 0 0]) (by simp [results, Try.results71, go_sem, d0, d1, d2]) rfl ⟨none, 0, 0, rfl, OwnA.none _ _, by omega,
      ((HB1.out.setCell (by first | (simp; done) | (simp; omega)) _).setCell (by first | (simp; done) | (simp; omega)) _).setCell (by first | (simp; done) | (simp; omega)) _⟩
  case pos =>
    rw [growF_yes HN.out hp]
    obtain ⟨hs, hq, hi⟩ := picOk_bd HN.out hp
    obtain ⟨b1, b2, b3, b4, b5, b6⟩ := sizeOk_bd hs
    have HQ := Lib.hid hq
    have HI := Lib.hid hi
    have HS := Lib.hid hs
    have hn1 : 1 ≤ n := by omega
    have hn2 : n ≤ 1024 := by omega
    clear hq hi hs
    have HX := Lib.hid (dotsN_of HN.out HI.out)
    go_enter Try.func71, Try.ntmps71
    go_wp2_with fail
    refine (spec_IsPlate _ _ _ _ _ xs _ HN.out (by exact (HA.out.alloc _).alloc _) hl).mono ?_
    rintro e w1 ⟨rfl, hb⟩
    have HB1 := Lib.hid ((Joins.below_alloc2 _ _ _).trans (hb.mono (by simp; omega)))
    have KP1 := Lib.hid (((Blk.new w 44 #[.int .i64 W, .int .i64 H, .slice ad n cap]).alloc _).below' hb)
    have KR1 : Hid (Blk w1 (w.heap.size + 1) 44 #[.int .i64 0, .int .i64 0, .slice none 0 0]) := by
      have h := (Blk.new (w.alloc (.cells #[.int .i64 W, .int .i64 H, .slice ad n cap] 44)) 44 #[.int .i64 0, .int .i64 0, .slice none 0 0]).below' hb
      exact Lib.hid (by simpa using h)
    obtain ⟨l1, c0, c1, c2⟩ := KP1.out.c3
    obtain ⟨m1, d0, d1, d2⟩ := KR1.out.c3
    obtain ⟨f0, f1, f2⟩ := KR1.out.f3
    clear hb
    rw [hp]
    go_wp2_with fail
    refine (spec_l1Empty W H n _ HS.out HQ.out).mono ?_
    rintro e w2 ⟨g, rfl, hg, ho, hb⟩
    have HB2 := Lib.hid (HB1.out.trans (hb.mono HB1.out.size))
    have KP2 := Lib.hid (KP1.out.below' hb)
    have KR2 := Lib.hid (KR1.out.below' hb)
    have HO := Lib.hid ho
    have HG : Hid (w1.heap.size ≤ g) := Lib.hid hg
    clear hb hg ho c0 c1 c2 d0 d1 d2 f0 f1 f2
    obtain ⟨l2, c0, c1, c2⟩ := KP2.out.c3
    go_wp2_with fail
    go_loopw [19] (fun i wr => ∃ k : Nat, k ≤ n ∧ i = .int .i64 k ∧ Own wr g n n (filled (leastG W.toNat H.toNat xs n least) (List.replicate n 0) k) ∧ (w2.alloc (.cells #[.int .i64 W, .int .i64 H, .slice (some ⟨g, 0, none⟩) n n] 44)).grownBy wr (some g)) (fun i _ => n - (intOf i).toNat)
    case atStart => exact ⟨0, Nat.zero_le _, rfl, by rw [filled_zero]; exact HO.out.alloc _, grown_refl _ _⟩
    case round =>
      obtain ⟨k, hk, rfl, ho, hg⟩ := hrel
      have HBr := Lib.hid ((HB2.out.alloc HB2.out.size _).grown hg (by have := HB2.out.size; simp; omega) (by intro k hk; cases hk; have := HG.out; omega))
      have KO := Lib.hid ((Blk.new w2 44 #[.int .i64 W, .int .i64 H, .slice (some ⟨g, 0, none⟩) n n]).grown hg (by have := HO.out.lt; simp; omega))
      obtain ⟨l0, o0, o1, o2⟩ := KO.out.c3
      have KP := Lib.hid ((KP2.out.alloc _).grown hg (by have := HG.out; have := KP1.out.lt; simp; omega))
      obtain ⟨l9, p0, p1, p2⟩ := KP.out.c3
      by_cases hlt : k < n
      · have CN := Lib.hid (spec_l7Near W H ad n cap xs k wr HN.out (HA.out.below HBr.out) b1 b2 b3 b4 HQ.out hn2 HX.out hlt)
        have EV := leastG_at (w := W.toNat) (h := H.toNat) (xs := xs) (m := least) hlt
        obtain ⟨V, hV⟩ : ∃ V, nearS W.toNat H.toNat xs k = V := ⟨_, rfl⟩
        rw [hV] at CN EV
        clear hV
        have HE := Lib.hid EV
        clear EV
        go_wp2_with fail
        refine CN.out.mono ?_
        rintro e w5 ⟨rfl, hb⟩
        have HO5 := Lib.hid (ho.below hb ho.lt)
        have HG5 := Lib.hid (grown_callW hg hb)
        have KO5 := Lib.hid (KO.out.below' hb)
        obtain ⟨l5, y0, y1, y2⟩ := KO5.out.c3
        clear hb ho hg p0 p1 p2 o0 o1 o2 l0
        by_cases le : least ≤ V
        · have g2 : w5.cell? ⟨g, k, none⟩ = some (.int .i64 ((filled (leastG W.toNat H.toNat xs n least) (List.replicate n 0) k).getD k 0)) := HO5.out.cell hlt
          have g3 : w5.frozen? ⟨g, k, none⟩ = false := HO5.out.frozen k
          have hs := HO5.out.set k 1
          rw [filled_succ (leastG W.toNat H.toNat xs n least) _ k _ (by rw [leastG_len]; exact hlt) (by simp; omega) (by rw [HE.out, if_pos le])] at hs
          have HSt := Lib.hid hs
          clear hs
          go_wp2_with fail
          go_roundw
          case rel => exact ⟨k + 1, by omega, by go_num, by simpa using HSt.out, grown_set HG5.out _⟩
          case measure => simp [intOf]; omega
        · have hs := filled_skipW (leastG W.toNat H.toNat xs n least) (List.replicate n 0) k (by rw [leastG_len]; exact hlt) (by simp; omega) (by rw [HE.out, if_neg le]; simp [List.getD, hlt])
          have HSt : Hid (Own w5 g n n (filled (leastG W.toNat H.toNat xs n least) (List.replicate n 0) (k + 1))) := Lib.hid (by rw [← hs]; exact HO5.out)
          clear hs
          go_wp2_with fail
          go_roundw
          case rel => exact ⟨k + 1, by omega, by go_num, HSt.out, HG5.out⟩
          case measure => simp [intOf]; omega
      · obtain rfl : n = k := by omega
        have KR := Lib.hid ((KR2.out.alloc _).grown hg (by have := HG.out; have := KR2.out.lt; simp; omega))
        obtain ⟨r0, r1, r2, r3⟩ := KR.out.c3
        obtain ⟨q0, q1, q2⟩ := KR.out.f3
        rw [filled_at (leastG W.toNat H.toNat xs n least) _ n (by exact leastG_len _ _ _ _ _) (by simp)] at ho
        have HO3 := Lib.hid ho
        clear ho
        go_wp2_with fail
        exact bodyPost_ret (v := .agg #[.int .i64 W, .int .i64 H, .slice (some ⟨g, 0, none⟩) n n]) (by simp [results, Try.results71, go_sem, r1, r2, r3]) rfl
          ⟨_, _, _, rfl, OwnA.mk (((HO3.out.other (by have := HG.out; simp; omega) _).other (by have := HG.out; simp; omega) _).other (by have := HG.out; simp; omega) _) (by have := HG.out; omega), by omega,
            ((HBr.out.setCell (by first | (simp; done) | (simp; omega)) _).setCell (by first | (simp; done) | (simp; omega)) _).setCell (by first | (simp; done) | (simp; omega)) _⟩

set_option maxHeartbeats 400000 in
theorem spec_GrowPlate (W H : Int) (ad : Option Addr) (n cap : Nat) (xs : List Int) (w : World) (hn : xs.length = n) (ha : Rd w ad xs) (hl : n ≤ 9223372036854775807) :
    Calls Try.prog 39 #[.agg #[.int .i64 W, .int .i64 H, .slice ad n cap]] w (PicOut w (growF 1 W H xs)) := by
  have HN := Lib.hid hn
  have HA := Lib.hid ha
  clear hn ha
  go_enter Try.func39, Try.ntmps39
  go_wp2_with fail
  refine (spec_l7Least W H ad n cap xs 1 _ HN.out (by exact (HA.out.alloc _).alloc _) hl).mono ?_
  rintro e w1 ⟨a, m, c, rfl, ho, hm, hb⟩
  have HB1 := Lib.hid (bTrans (bAlloc (bAlloc (Below.refl w.heap.size w) _) _) hb)
  have KR1 := Lib.hid ((Blk.new' (g := w.heap.size + 1) (w := w.alloc (.cells #[.int .i64 W, .int .i64 H, .slice ad n cap] 44)) 44 #[.int .i64 0, .int .i64 0, .slice none 0 0] (by simp)).below' hb)
  have HO1 := Lib.hid ho
  obtain ⟨m1, d0, d1, d2⟩ := KR1.out.c3
  obtain ⟨f0, f1, f2⟩ := KR1.out.f3
  clear ho hb
  go_wp2_with fail
  exact bodyPost_ret (v := .agg #[.int .i64 (growF 1 W H xs).W, .int .i64 (growF 1 W H xs).H, .slice a m c]) (by simp [results, Try.results39, go_sem, d0, d1, d2]) rfl
    ⟨a, m, c, rfl, (((HO1.out.other (by simp) _).other (by simp) _).other (by simp) _).mono (by simp; omega), hm, ((HB1.out.setCell (by first | (simp; done) | (simp; omega)) _).setCell (by first | (simp; done) | (simp; omega)) _).setCell (by first | (simp; done) | (simp; omega)) _⟩

set_option maxHeartbeats 400000 in
theorem spec_ShrinkPlate (W H : Int) (ad : Option Addr) (n cap : Nat) (xs : List Int) (w : World) (hn : xs.length = n) (ha : Rd w ad xs) (hl : n ≤ 9223372036854775807) :
    Calls Try.prog 43 #[.agg #[.int .i64 W, .int .i64 H, .slice ad n cap]] w (PicOut w (growF 5 W H xs)) := by
  have HN := Lib.hid hn
  have HA := Lib.hid ha
  clear hn ha
  go_enter Try.func43, Try.ntmps43
  go_wp2_with fail
  refine (spec_l7Least W H ad n cap xs 5 _ HN.out (by exact (HA.out.alloc _).alloc _) hl).mono ?_
  rintro e w1 ⟨a, m, c, rfl, ho, hm, hb⟩
  have HB1 := Lib.hid (bTrans (bAlloc (bAlloc (Below.refl w.heap.size w) _) _) hb)
  have KR1 := Lib.hid ((Blk.new' (g := w.heap.size + 1) (w := w.alloc (.cells #[.int .i64 W, .int .i64 H, .slice ad n cap] 44)) 44 #[.int .i64 0, .int .i64 0, .slice none 0 0] (by simp)).below' hb)
  have HO1 := Lib.hid ho
  obtain ⟨m1, d0, d1, d2⟩ := KR1.out.c3
  obtain ⟨f0, f1, f2⟩ := KR1.out.f3
  clear ho hb
  go_wp2_with fail
  exact bodyPost_ret (v := .agg #[.int .i64 (growF 5 W H xs).W, .int .i64 (growF 5 W H xs).H, .slice a m c]) (by simp [results, Try.results43, go_sem, d0, d1, d2]) rfl
    ⟨a, m, c, rfl, (((HO1.out.other (by simp) _).other (by simp) _).other (by simp) _).mono (by simp; omega), hm, ((HB1.out.setCell (by first | (simp; done) | (simp; omega)) _).setCell (by first | (simp; done) | (simp; omega)) _).setCell (by first | (simp; done) | (simp; omega)) _⟩

theorem grow_plate {m W H : Int} {xs : List Int} (h : picOk W H xs 1 = true) : picOk W H (leastG W.toNat H.toNat xs xs.length m) 1 = true := by
  obtain ⟨h1, h2, h3⟩ := picOk_bd rfl h
  unfold picOk
  rw [h1, decide_eq_true (by rw [leastG_len]; exact h2), least_within]
  rfl

theorem gain_small {W H : Int} {xs : List Int} {n : Nat} (hn : xs.length = n) (h : within xs 1 = true) (hn2 : n ≤ 1024) : 0 ≤ isum xs ∧ isum xs ≤ 1024 := by
  have h2 : ∀ ys : List Int, within ys 1 = true → 0 ≤ isum ys ∧ isum ys ≤ ys.length := by
    intro ys
    induction ys with
    | nil => intro _; exact ⟨Int.le_refl _, Int.le_refl _⟩
    | cons a r ih =>
      intro hw
      unfold within at hw ih
      simp only [List.all_cons, Bool.and_eq_true, decide_eq_true_eq] at hw
      have := ih hw.2
      unfold isum
      simp only [List.length_cons]
      omega
  have := h2 xs h
  omega

set_option maxHeartbeats 800000 in
theorem spec_GainOf (W H : Int) (ad : Option Addr) (n cap : Nat) (xs : List Int) (w : World) (hn : xs.length = n) (ha : Rd w ad xs) (hl : n ≤ 9223372036854775807) :
    Calls Try.prog 45 #[.agg #[.int .i64 W, .int .i64 H, .slice ad n cap]] w fun e w' => e = .returned (.int .i64 (gainF W H xs)) ∧ Below w.heap.size w w' := by
  have HN := Lib.hid hn
  have HA := Lib.hid ha
  clear hn ha
  by_cases hp : picOk W H xs 1 = true
  case neg =>
    have hp2 : picOk W H xs 1 = false := by simpa using hp
    have e0 : gainF W H xs = 0 := by unfold gainF; rw [if_neg hp]
    rw [e0]
    clear hp e0
    go_enter Try.func45, Try.ntmps45
    go_wp2_with fail
    refine (spec_IsPlate _ _ _ _ _ xs _ HN.out (by exact HA.out.alloc _) hl).mono ?_
    rintro e w1 ⟨rfl, hb⟩
    have HB1 := Lib.hid ((Joins.below_alloc1 _ _).trans (hb.mono (by simp)))
    clear hb
    rw [hp2]
    go_wp2_with fail
    go_ret
    exact ⟨rfl, HB1.out⟩
  case pos =>
    have HP := Lib.hid hp
    have e0 : gainF W H xs = isum (leastG W.toNat H.toNat xs n 1) - isum xs := by unfold gainF; rw [if_pos hp, HN.out]
    have eG : growF 1 W H xs = ⟨W, H, leastG W.toNat H.toNat xs n 1⟩ := growF_yes HN.out hp
    have eq : picOk W H (leastG W.toNat H.toNat xs n 1) 1 = true := by have := grow_plate (m := 1) hp; rwa [HN.out] at this
    have EG := Lib.hid eG
    have EQ := Lib.hid eq
    rw [e0]
    clear e0 eG eq
    obtain ⟨hs, hq, hi⟩ := picOk_bd HN.out hp
    obtain ⟨b1, b2, b3, b4, b5, b6⟩ := sizeOk_bd hs
    have HQ := Lib.hid hq
    have HI := Lib.hid hi
    have HS := Lib.hid hs
    have hn1 : 1 ≤ n := by omega
    have hn2 : n ≤ 1024 := by omega
    clear hq hi hs
    obtain ⟨s0, s1⟩ := gain_small (W := W) (H := H) HN.out HI.out hn2
    obtain ⟨q0, q1⟩ := gain_small (W := W) (H := H) (leastG_len W.toNat H.toNat xs n 1) (least_within _ _ _ _ _) hn2
    have S1 : Hid (sumF W H xs = isum xs) := Lib.hid (by unfold sumF; rw [if_pos (picOk_le HP.out)])
    have S2 : Hid (sumF W H (leastG W.toNat H.toNat xs n 1) = isum (leastG W.toNat H.toNat xs n 1)) := Lib.hid (by unfold sumF; rw [if_pos (picOk_le EQ.out)])
    obtain ⟨A, hA⟩ : ∃ A, isum (leastG W.toNat H.toNat xs n 1) = A := ⟨_, rfl⟩
    obtain ⟨B, hB⟩ : ∃ B, isum xs = B := ⟨_, rfl⟩
    rw [hA] at S2 q0 q1 ⊢
    rw [hB] at S1 s0 s1 ⊢
    clear hA hB
    go_enter Try.func45, Try.ntmps45
    go_wp2_with fail
    refine (spec_IsPlate _ _ _ _ _ xs _ HN.out (by exact HA.out.alloc _) hl).mono ?_
    rintro e w1 ⟨rfl, hb⟩
    have HB1 := Lib.hid ((Joins.below_alloc1 _ _).trans (hb.mono (by simp)))
    have KP1 := Lib.hid ((Blk.new w 44 #[.int .i64 W, .int .i64 H, .slice ad n cap]).below' hb)
    obtain ⟨l1, c0, c1, c2⟩ := KP1.out.c3
    clear hb
    rw [hp]
    go_wp2_with fail
    have HAw := Lib.hid (HA.out.below HB1.out)
    have wAB : IntKind.i64.wrap (A - B) = A - B := IntWalk.i64_in _ (by omega)
    have MK : Hid (∀ v, BelowL w1 v → v.cell? ⟨w.heap.size, 0, none⟩ = some (.int .i64 W) ∧ v.cell? ⟨w.heap.size, 1, none⟩ = some (.int .i64 H) ∧ v.cell? ⟨w.heap.size, 2, none⟩ = some (.slice ad n cap) ∧ BelowL w1 v) := Lib.hid (fun v hB => ⟨(hB.out.cell l1).trans c0, (hB.out.cell l1).trans c1, (hB.out.cell l1).trans c2, hB⟩)
    go_region_held3 (fun v => v.cell? ⟨w.heap.size, 0, none⟩ = some (.int .i64 W) ∧ v.cell? ⟨w.heap.size, 1, none⟩ = some (.int .i64 H) ∧ v.cell? ⟨w.heap.size, 2, none⟩ = some (.slice ad n cap) ∧ BelowL w1 v)
      (first | exact MK.out _ hb3 | exact MK.out _ hb2 | exact MK.out _ hb1 | exact MK.out _ (BelowL.start _))
      (first
        | (go_at_call 39; ((with_reducible refine (spec_GrowPlate W H ad n cap xs _ HN.out (by exact HAw.out.below (BelowL.out (limb4 (by assumption)))) hl).mono ?_); rintro e v1 ⟨ga, gn, gc, he, ho, hgn, hq1⟩; (rw [EG.out] at he ho); subst he; have hb1 := BelowL.call (limb4 (by assumption)) hq1; have HOA := Lib.hid ho; clear ho))
        | (go_at_call 73; ((with_reducible refine (spec_SumInk W H ad n cap xs _ HN.out (by exact HAw.out.below (BelowL.out (limb4 (by assumption)))) hl).mono ?_); rintro e v2 ⟨he, hq2⟩; (rw [S1.out] at he); subst he; have hb2 := BelowL.call (limb4 (by assumption)) hq2))
        | (go_at_call 73; ((with_reducible refine (spec_SumInk W H ga gn gc (leastG W.toNat H.toNat xs n 1) _ HOA.out.len (by exact HOA.out.rd) (by omega)).mono ?_); rintro e v3 ⟨he, hq3⟩; (rw [S2.out] at he); subst he; have hb3 := BelowL.call (limb4 (by assumption)) hq3)))
    all_goals
      go_wp2_with fail
      go_ret
      first
        | exact ⟨rfl, bTrans HB1.out hb3.out⟩
        | exact ⟨rfl, bTrans HB1.out hb2.out⟩

end Go.Proofs.Ythokmanjiebimaa
