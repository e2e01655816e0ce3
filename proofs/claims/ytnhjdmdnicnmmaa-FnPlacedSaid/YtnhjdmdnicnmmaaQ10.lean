/-
  Contracts of chapter 7 in the program: the point that is chosen, dots flipped, swaps.
-/
import Derived.Test.YtnhjdmdnicnmmaaQ8
import Derived.Test.YtnhjdmdnicnmmaaQ9
namespace Go.Proofs.Ytnhjdmdnicnmmaa
open Go.RowKit
set_option linter.unusedVariables false
set_option linter.unusedSimpArgs false

theorem limbS6 {a b c d e f : Prop} (h : a ∧ b ∧ c ∧ d ∧ e ∧ f) : f := h.2.2.2.2.2

/-- A function value that compares two numbers by a key, and does nothing else. -/
def OrdBy (h : Nat) (key : Int → Int) : Prop := ∀ (a b : Int) (u : World), Calls Try.prog h #[.int .i64 a, .int .i64 b] u fun e u' => ∃ c : Int, e = .returned (.int .i64 c) ∧ (c < 0 ↔ key a < key b) ∧ Below u.heap.size u u'

def keyT (a : Int) : Int := -(1 * a)
def keyW (a : Int) : Int := -(-1 * a)

theorem ordW : OrdBy 56 keyW := fun a b u => (cmp6 a b u).mono (fun e u' ⟨c, h1, h2, h3⟩ => ⟨c, h1, by unfold keyW; omega, by rw [← h3]; exact Below.refl _ _⟩)

theorem ordT : OrdBy 55 keyT := fun a b u => by
  go_enter Try.func55, Try.ntmps55
  go_wp2_with fail
  refine (cmp6 b a _).mono ?_
  rintro e w1 ⟨c, rfl, hc, rfl⟩
  go_wp2_with fail
  go_ret
  exact ⟨c, rfl, by unfold keyT; omega, Below.refl _ _⟩

theorem entT : ∀ args w, (callFunc 55 args).run Try.prog w = .ok (.enter 55 args) w := enters6 _ _ _ Try.func55 (by kernel_rfl) rfl
theorem entW : ∀ args w, (callFunc 56 args).run Try.prog w = .ok (.enter 56 args) w := enters6 _ _ _ Try.func56 (by kernel_rfl) rfl

set_option maxHeartbeats 400000 in
theorem impl_tightest (w : World) : Calls Try.prog 33 #[] w fun e w' => e = .returned (.agg #[.int .i64 1, .func (.func 55) #[] #[]]) ∧ Below w.heap.size w w' := by
  have hst := fun (v : World) (a : Addr) (m : Mode) => run_store Try.prog v a (.func (.func 55) #[] #[]) m rfl
  go_enter Try.func33, Try.ntmps33
  go_wp2_with fail
  exact bodyPost_ret (v := .agg #[.int .i64 1, .func (.func 55) #[] #[]]) (by simp [results, Try.results33, go_sem]) rfl ⟨rfl, by first | exact Joins.below_alloc1 _ _ | exact ((Joins.below_alloc1 _ _).setCell (by simp) _).setCell (by simp) _⟩

set_option maxHeartbeats 400000 in
theorem impl_widest (w : World) : Calls Try.prog 34 #[] w fun e w' => e = .returned (.agg #[.int .i64 0, .func (.func 56) #[] #[]]) ∧ Below w.heap.size w w' := by
  have hst := fun (v : World) (a : Addr) (m : Mode) => run_store Try.prog v a (.func (.func 56) #[] #[]) m rfl
  go_enter Try.func34, Try.ntmps34
  go_wp2_with fail
  exact bodyPost_ret (v := .agg #[.int .i64 0, .func (.func 56) #[] #[]]) (by simp [results, Try.results34, go_sem]) rfl ⟨rfl, by first | exact Joins.below_alloc1 _ _ | exact ((Joins.below_alloc1 _ _).setCell (by simp) _).setCell (by simp) _⟩

set_option maxRecDepth 100000 in
set_option maxHeartbeats 1600000 in
theorem chosenC (h : Nat) (bc bf fb gc n i k : Nat) (X Y : Int) (K : Prop) (w : World) (eh : ∀ args w, (callFunc h args).run Try.prog w = .ok (.enter h args) w)
    (cc : w.cell? ⟨bc, 1, none⟩ = some (.func (.func h) #[] #[])) (cf : w.cell? ⟨bf, 0, none⟩ = some (.pointer (some ⟨fb, 0, none⟩))) (cs : w.cell? ⟨fb, 3, none⟩ = some (.slice (some ⟨gc, 0, none⟩) n n)) (ci : w.cell? ⟨gc, i, none⟩ = some (.int .i64 X)) (ck : w.cell? ⟨gc, k, none⟩ = some (.int .i64 Y))
    (zc : bc < w.heap.size) (zf : bf < w.heap.size) (zb : fb < w.heap.size) (zg : gc < w.heap.size) (hi : i < n) (hk : k < n)
    (hord : ∀ v, Calls Try.prog h #[.int .i64 X, .int .i64 Y] v fun e v' => ∃ c : Int, e = .returned (.int .i64 c) ∧ (c < 0 ↔ K) ∧ Below v.heap.size v v') :
    Calls Try.prog 58 #[.int .i64 i, .int .i64 k, .pointer (some ⟨bc, 0, none⟩), .pointer (some ⟨bf, 0, none⟩)] w fun e w' => ∃ c : Int, e = .returned (.int .i64 c) ∧ (c < 0 ↔ K) ∧ Below w.heap.size w w' := by
  have MK : Hid (∀ v, BelowL w v → v.cell? ⟨bc, 1, none⟩ = some (.func (.func h) #[] #[]) ∧ v.cell? ⟨bf, 0, none⟩ = some (.pointer (some ⟨fb, 0, none⟩)) ∧ v.cell? ⟨fb, 3, none⟩ = some (.slice (some ⟨gc, 0, none⟩) n n) ∧ v.cell? ⟨gc, i, none⟩ = some (.int .i64 X) ∧ v.cell? ⟨gc, k, none⟩ = some (.int .i64 Y) ∧ BelowL w v) := Lib.hid (fun v hh => ⟨(hh.out.cell zc).trans cc, (hh.out.cell zf).trans cf, (hh.out.cell zb).trans cs, (hh.out.cell zg).trans ci, (hh.out.cell zg).trans ck, hh⟩)
  have CC := Lib.hid hord
  have pi : (i : Int) < (n : Int) := by omega
  have pk : (k : Int) < (n : Int) := by omega
  clear hord
  go_enter Try.func58, Try.ntmps58
  go_wp2_with fail
  go_region_held3 (fun v => v.cell? ⟨bc, 1, none⟩ = some (.func (.func h) #[] #[]) ∧ v.cell? ⟨bf, 0, none⟩ = some (.pointer (some ⟨fb, 0, none⟩)) ∧ v.cell? ⟨fb, 3, none⟩ = some (.slice (some ⟨gc, 0, none⟩) n n) ∧ v.cell? ⟨gc, i, none⟩ = some (.int .i64 X) ∧ v.cell? ⟨gc, k, none⟩ = some (.int .i64 Y) ∧ BelowL w v)
    (first | exact MK.out _ hb1 | exact MK.out _ (BelowL.start _))
    (first
      | (go_at_fn h; ((with_reducible refine (CC.out _).mono ?_); rintro e v1 ⟨cc, rfl, hcc, hq1⟩; have hb1 := BelowL.call (limbS6 (by assumption)) hq1)))
  have HC := Lib.hid hcc
  have HBF := Lib.hid hb1
  clear hcc hb1 MK CC
  go_wp2_with fail
  go_ret
  exact ⟨cc, rfl, HC.out, HBF.out.out⟩

set_option maxRecDepth 100000 in
set_option maxHeartbeats 3200000 in
theorem impl_chosen (h : Nat) (key : Int → Int) (v : Int) {w : World} {B f gi gc : Nat} {W H : Int} {n : Nat} {xs cs : List Int} (eh : ∀ args w, (callFunc h args).run Try.prog w = .ok (.enter h args) w) (ho : OrdBy h key) (F : FSt w B f gi gc W H n xs cs) (hn : n ≤ 256) :
    Calls Try.prog 43 #[.pointer (some ⟨f, 0, none⟩), .agg #[.int .i64 v, .func (.func h) #[] #[]]] w fun e w' => e = .returned (.int .i64 (bestTo xs v (fun j => key (cs.getD j 0)) n)) ∧ Below w.heap.size w w' := by
  have HO := Lib.hid ho
  have EH := Lib.hid eh
  have F2 := Lib.hid ((F.alloc (.cells #[.pointer (some ⟨f, 0, none⟩)] 51)).alloc (.cells #[.int .i64 v, .func (.func h) #[] #[]] 56))
  have KF := Lib.hid ((Blk.new w 51 #[.pointer (some ⟨f, 0, none⟩)]).alloc (.cells #[.int .i64 v, .func (.func h) #[] #[]] 56))
  have KC := Lib.hid (Blk.new' (g := w.heap.size + 1) (w := w.alloc (.cells #[.pointer (some ⟨f, 0, none⟩)] 51)) 56 #[.int .i64 v, .func (.func h) #[] #[]] (by simp))
  have HB := Lib.hid (bAlloc (bAlloc (Below.refl w.heap.size w) (.cells #[.pointer (some ⟨f, 0, none⟩)] 51)) (.cells #[.int .i64 v, .func (.func h) #[] #[]] 56))
  clear F ho eh
  go_enter Try.func43, Try.ntmps43
  go_upto_region 1 with fail
  obtain ⟨wo, hwo⟩ : ∃ wo : World, wo = (w.alloc (.cells #[.pointer (some ⟨f, 0, none⟩)] 51)).alloc (.cells #[.int .i64 v, .func (.func h) #[] #[]] 56) := ⟨_, rfl⟩
  have ZO : Hid (wo.heap.size = w.heap.size + 1 + 1) := Lib.hid (by rw [hwo]; simp)
  rw [← hwo] at F2 KF KC HB ⊢
  clear hwo
  obtain ⟨lf, p0, p1, p2, p3⟩ := F2.out.cells
  have lk := KF.out.lt
  have k0 : wo.cell? ⟨w.heap.size, 0, none⟩ = some (.pointer (some ⟨f, 0, none⟩)) := by rw [KF.out.cell]; rfl
  go_wp2_with fail
  go_loopw [5, 15] (fun r i wr => ∃ (k d cp : Nat) (a : Option Addr), k ≤ n ∧ i = .int .i64 k ∧ r = .slice a d cp ∧ (placesTo xs v k).length = d ∧ OwnA wr wo.heap.size a d cp (placesTo xs v k) ∧ Below wo.heap.size wo wr) (fun _ i _ => n - (intOf i).toNat)
  case atStart => exact ⟨0, 0, 0, none, Nat.zero_le _, rfl, rfl, rfl, OwnA.none _ _, Below.refl _ _⟩
  case round =>
    obtain ⟨k, d, cp, a, hk, rfl, rfl, hd, ho, hwr⟩ := hrel
    have HD := Lib.hid hd
    have HOW := Lib.hid ho
    have HWr := Lib.hid hwr
    have KCr := Lib.hid (KC.out.below' hwr)
    have Fr := Lib.hid (F2.out.below hwr)
    have KFr := Lib.hid (KF.out.below' hwr)
    have dle : d ≤ k := by rw [← hd]; exact places_len _ _ _
    clear hwr hd ho
    by_cases hlt : k < n
    · have g1 := Fr.out.ink.cell hlt
      obtain ⟨V, hV⟩ : ∃ V, xs.getD k 0 = V := ⟨_, rfl⟩
      rw [hV] at g1
      have HV := Lib.hid hV
      have lc := KCr.out.lt
      have c0 : wr.cell? ⟨w.heap.size + 1, 0, none⟩ = some (.int .i64 v) := by rw [KCr.out.cell]; rfl
      clear hV p0 p1 p2 p3 k0 lf lk
      by_cases hv1 : V = v
      · subst hv1
        have EQ : Hid (placesTo xs V (k + 1) = placesTo xs V k ++ [(k : Int)]) := Lib.hid (places_yes HV.out)
        go_wp2_with (at_builtin; refine wp_append _ rfl (.tmp 24) (.tmp 26) rfl wo.heap.size d cp a _ rfl (HOW.out.alloc _) wr.heap.size (k : Int) rfl (by go_simp) (by omega) (by have := HWr.out.size; simp; omega) ?_; intro ad2 cap2 w5 ho5 hg5)
        have HW5 := Lib.hid ((HWr.out.alloc HWr.out.size _).grown hg5 (by have := HWr.out.size; simp; omega) (fun b hb => by have := HOW.out.bd b hb; omega))
        have HO5 := Lib.hid ho5
        clear ho5 hg5
        go_roundw
        case rel => exact ⟨k + 1, d + 1, cap2, ad2, by omega, by go_num, rfl, by rw [EQ.out, List.length_append, HD.out]; rfl, by rw [EQ.out]; exact HO5.out, HW5.out⟩
        case measure => simp [intOf]; omega
      · have EQ : Hid (placesTo xs v (k + 1) = placesTo xs v k) := Lib.hid (places_no (by rw [HV.out]; exact hv1))
        go_wp2_with fail
        go_roundw
        case rel => exact ⟨k + 1, d, cp, a, by omega, by go_num, rfl, by rw [EQ.out]; exact HD.out, by rw [EQ.out]; exact HOW.out, HWr.out⟩
        case measure => simp [intOf]; omega
    · obtain rfl : k = n := by omega
      have HBF := Lib.hid (bTrans HB.out HWr.out)
      clear p0 p1 p2 p3 k0 lf lk
      by_cases hd0 : d = 0
      · subst hd0
        have E : Hid (bestTo xs v (fun j => key (cs.getD j 0)) k = -1) := Lib.hid (by
          rcases best_cases xs v (fun j => key (cs.getD j 0)) k with h | ⟨i, h1, h2, h3⟩
          · exact h.1
          · obtain ⟨q, hq, _⟩ := places_on h2 h3
            have := HD.out
            omega)
        go_wp2_with fail
        go_ret
        exact ⟨ret_int E.out.symm, HBF.out⟩
      · have hd1 : 0 < d := by omega
        obtain ⟨ga, rfl, hgB, hog⟩ : ∃ g, a = some ⟨g, 0, none⟩ ∧ wo.heap.size ≤ g ∧ Own wr g d cp (placesTo xs v k) := by
          rcases HOW.out with ⟨_, h, _⟩ | h
          · omega
          · exact h
        have HG := Lib.hid hog
        have hq0 : ((d : Int) == 0) = false := by simp; omega
        have EG : Hid (∀ args w, (callFunc 58 args).run Try.prog w = .ok (.enter 58 args) w) := Lib.hid (enters6 _ _ _ Try.func58 (by kernel_rfl) rfl)
        clear hog hd0
        go_wp2_with fail
        refine (seq6 58 #[.pointer (some ⟨w.heap.size + 1, 0, none⟩), .pointer (some ⟨w.heap.size, 0, none⟩)] ga d cp (fun t => (placesTo xs v k).getD t 0) (fun t => key (cs.getD ((placesTo xs v k).getD t.toNat 0).toNat 0)) wr EG.out (by omega) hd1 (fun t ht => HG.out.cell ht) HG.out.lt (by
          intro u hu i j hi hj
          obtain ⟨I, i1, i2, i3⟩ := places_at (xs := xs) (v := v) (k := k) (j := i) (by rw [HD.out]; exact hi)
          obtain ⟨J, j1, j2, j3⟩ := places_at (xs := xs) (v := v) (k := k) (j := j) (by rw [HD.out]; exact hj)
          simp only [Int.toNat_natCast]
          rw [i1, j1]
          simp only [Int.toNat_natCast]
          have Fu := Fr.out.below hu
          have Ku := KFr.out.below' hu
          have Cu := KCr.out.below' hu
          exact chosenC h (w.heap.size + 1) w.heap.size f gc k I J (cs.getD I 0) (cs.getD J 0) _ u EH.out (by rw [Cu.cell]; rfl) (by rw [Ku.cell]; rfl) Fu.cells.2.2.2.2 (Fu.crowds.cell i2) (Fu.crowds.cell j2) Cu.lt Ku.lt Fu.lts.1 Fu.lts.2.2 i2 j2 (fun y => HO.out (cs.getD I 0) (cs.getD J 0) y))).mono ?_
        rintro e w2 ⟨fq, blk, rfl, hbk, hob, hgd, hb⟩
        have HGD := Lib.hid hgd
        obtain ⟨q0, q1⟩ := hgd.2 0 (Nat.le_refl _) hd1
        obtain ⟨q, hq⟩ : ∃ q : Nat, fq 0 = (q : Int) := ⟨(fq 0).toNat, by simp at q0; omega⟩
        have hqd : q < d := by rw [hq] at q1; omega
        have s0 := hob.cell hd1
        rw [gen_get _ _ _ hd1, hq] at s0
        have s1 := (HG.out.below hb HG.out.lt).cell hqd
        have HB2 := Lib.hid (bTrans HBF.out hb)
        have HQ := Lib.hid hq
        have E : Hid ((placesTo xs v k).getD q 0 = bestTo xs v (fun j => key (cs.getD j 0)) k) := Lib.hid (by
          have h := sorted_best (c := fun j => key (cs.getD j 0)) HD.out hd1 HGD.out
          rw [HQ.out, Int.toNat_natCast] at h
          exact h.one (best_is _ _ _ _))
        obtain ⟨R, hR⟩ : ∃ R, (placesTo xs v k).getD q 0 = R := ⟨_, rfl⟩
        rw [hR] at s1 E
        clear hR hb hgd q0 q1 hq hob
        go_wp2_with fail
        go_ret
        exact ⟨ret_int E.out, HB2.out⟩

end Go.Proofs.Ytnhjdmdnicnmmaa
