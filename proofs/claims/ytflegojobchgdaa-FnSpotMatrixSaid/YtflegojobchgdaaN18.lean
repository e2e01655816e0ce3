/-
  Contracts of chapter 6: SpotPlate of the program.
-/
import Derived.Test.YtflegojobchgdaaN17
import Derived.Test.YtflegojobchgdaaC1
namespace Go.Proofs.Ytflegojobchgdaa
open Go.RowKit
set_option linter.unusedVariables false
set_option linter.unusedSimpArgs false

/-- The dots of a plate of spots. -/
def plateG (A B d : Int) (N : Nat) (nm : Nat → Nat) (lv : Int) (i : Nat) : Int := if overF A B d N nm i < lv then 1 else 0

/-- The first k of them. -/
def upDot (P : Nat → Int) (k : Nat) (i : Nat) : Int := if i < k then P i else 0

theorem upDot_zero (P : Nat → Int) (n : Nat) : gen n (upDot P 0) = gen n (fun _ => 0) := gen_congr (fun i hi => by unfold upDot; rw [if_neg (by omega)])

theorem upDot_skip {P : Nat → Int} {n k : Nat} (h : P k = 0) : gen n (upDot P k) = gen n (upDot P (k + 1)) := gen_congr (fun i hi => by
  unfold upDot
  by_cases c : i < k
  · rw [if_pos c, if_pos (by omega)]
  · rw [if_neg c]
    by_cases e : i = k
    · subst e; rw [if_pos (by omega), h]
    · rw [if_neg (by omega)])

theorem upDot_put {P : Nat → Int} {n k : Nat} : gen n (fun i => if i = k then P k else upDot P k i) = gen n (upDot P (k + 1)) := gen_congr (fun i hi => by
  unfold upDot
  by_cases e : i = k
  · subst e; rw [if_pos rfl, if_pos (by omega)]
  · rw [if_neg e]
    by_cases c : i < k
    · rw [if_pos c, if_pos (by omega)]
    · rw [if_neg c, if_neg (by omega)])

theorem upDot_all (P : Nat → Int) (n : Nat) : gen n (upDot P n) = gen n P := gen_congr (fun i hi => by unfold upDot; rw [if_pos hi])

set_option maxRecDepth 100000 in
set_option maxHeartbeats 3200000 in
theorem impl_SpotPlate_yes {A B d : Int} {N : Nat} {g a b p q : Int} (L : Lat A B (N : Int) g d a b p q) (lv W H : Int) (n : Nat) (nm : Nat → Nat) (hnm : Named A B W n nm) (l1 : 0 ≤ lv) (l2 : lv ≤ N) (hs : sizeOk W H = true) (hq : (n : Int) = W * H) (w : World) :
    Calls Try.prog 18 #[.agg #[.int .i64 A, .int .i64 B], .int .i64 lv, .int .i64 W, .int .i64 H] w (PicOut2 w (⟨W, H, gen n (plateG A B d N nm lv)⟩, true)) := by
  obtain ⟨b1, b2, b3, b4, b5, b6⟩ := sizeOk_bd hs
  have nb1 : n ≤ 1024 := by omega
  have nb0 : 1 ≤ n := by omega
  have HL := Lib.hid L
  have HQ := Lib.hid hq
  have HS := Lib.hid hs
  have HNM : Aside _ := hnm
  clear L hq hs hnm
  go_enter Try.func18, Try.ntmps18
  go_wp2_with fail
  refine (impl_IsLattice _ _ _).mono ?_
  rw [lat_ok HL.out]
  rintro e w1 ⟨rfl, hb⟩
  have HB1 := Lib.hid (bTrans (Joins.below_alloc2 _ _ _) hb)
  have KL1 := Lib.hid (((Blk.new w 24 #[.int .i64 A, .int .i64 B]).alloc (.cells #[.int .i64 0, .int .i64 0, .slice none 0 0] 35)).below' hb)
  have KP1 := Lib.hid ((Blk.new' (g := w.heap.size + 1) (w := w.alloc (.cells #[.int .i64 A, .int .i64 B] 24)) 35 #[.int .i64 0, .int .i64 0, .slice none 0 0] (by simp)).below' hb)
  obtain ⟨z, c0, c1⟩ := KL1.out.c2
  clear hb
  go_wp2_with fail
  refine (impl_AreaOf_yes HL.out _).mono ?_
  rintro e w2 ⟨rfl, hb⟩
  have HB2 := Lib.hid (bTrans HB1.out hb)
  have KL2 := Lib.hid (KL1.out.below' hb)
  have KP2 := Lib.hid (KP1.out.below' hb)
  clear hb z c0 c1
  go_wp2_with fail
  refine (impl_isSize _ _ _).mono ?_
  rw [HS.out]
  rintro e w2 ⟨rfl, rfl⟩
  go_wp2_with fail
  refine (impl_blank W H n _ HS.out HQ.out).mono ?_
  rintro e w3 ⟨gp, rfl, hgp, ho, hb⟩
  have HB3 := Lib.hid (bAlloc (bTrans HB2.out hb) (.cells #[.int .i64 W, .int .i64 H, .slice (some ⟨gp, 0, none⟩) n n] 35))
  have KL3 := Lib.hid ((KL2.out.below' hb).alloc (.cells #[.int .i64 W, .int .i64 H, .slice (some ⟨gp, 0, none⟩) n n] 35))
  have KP3 := Lib.hid ((KP2.out.below' hb).alloc (.cells #[.int .i64 W, .int .i64 H, .slice (some ⟨gp, 0, none⟩) n n] 35))
  have KD3 := Lib.hid (Blk.new w3 35 #[.int .i64 W, .int .i64 H, .slice (some ⟨gp, 0, none⟩) n n])
  have HO3 := Lib.hid ((zero_row ho).alloc (.cells #[.int .i64 W, .int .i64 H, .slice (some ⟨gp, 0, none⟩) n n] 35))
  have o1 : w.heap.size + 1 < gp := Nat.lt_of_lt_of_le KP2.out.lt hgp
  have o2 : gp < w3.heap.size := ho.lt
  clear hb ho hgp
  have kk := KL3.out
  obtain ⟨z, c0, c1⟩ := kk.c2
  clear kk
  go_wp2_with fail
  refine (impl_over HL.out W H n nm HNM.out b1 (by omega) b3 (by omega) HQ.out nb1 _).mono ?_
  rintro e w4 ⟨rb, rfl, hrb, ho, hb⟩
  have HB4 := Lib.hid (bTrans HB3.out hb)
  have KP4 := Lib.hid (KP3.out.below' hb)
  have KD4 := Lib.hid (KD3.out.below' hb)
  have HO4 : Hid (Own w4 gp n n (gen n (upDot (plateG A B d N nm lv) 0))) := Lib.hid (by rw [upDot_zero]; exact HO3.out.below hb HO3.out.lt)
  have HR4 := Lib.hid ho
  have o3 : w3.heap.size < rb := by simp at hrb; omega
  clear hb ho hrb z c0 c1
  go_wp2_with fail
  go_loopw [41] (fun i wr => ∃ k : Nat, k ≤ n ∧ i = .int .i64 k ∧ Hid (Own wr gp n n (gen n (upDot (plateG A B d N nm lv) k))) ∧ Hid (Own wr rb n n (gen n (overF A B d N nm))) ∧ Hid (Blk wr (w.heap.size + 1) 35 #[.int .i64 0, .int .i64 0, .slice none 0 0]) ∧ Hid (Blk wr w3.heap.size 35 #[.int .i64 W, .int .i64 H, .slice (some ⟨gp, 0, none⟩) n n]) ∧ Hid (Below w.heap.size w wr)) (fun i _ => n - (intOf i).toNat)
  case atStart => exact ⟨0, Nat.zero_le _, rfl, HO4, HR4, KP4, KD4, HB4⟩
  case round =>
    clear HO4 HR4 KP4 KD4 HB4
    obtain ⟨k, hk, rfl, HO, HR, KP, KD, HB⟩ := hrel
    obtain ⟨dz, d0, d1, d2⟩ := KD.out.c3
    by_cases hlt : k < n
    · have cr := own_c HR.out hlt
      obtain ⟨R, hR⟩ : ∃ R, overF A B d N nm k = R := ⟨_, rfl⟩
      rw [hR] at cr
      have kn : (k : Int) < (n : Int) := by omega
      by_cases hlv : R < lv
      · have HP : Hid (plateG A B d N nm lv k = 1) := Lib.hid (by unfold plateG; rw [hR, if_pos hlv])
        have g2 := own_c HO.out hlt
        have g3 := HO.out.frozen k
        have HOn : Hid (Own (wr.setCell ⟨gp, k, none⟩ (.int .i64 1)) gp n n (gen n (upDot (plateG A B d N nm lv) (k + 1)))) := Lib.hid (by
          have h := put_row HO.out hlt (1 : Int)
          rw [← HP.out, upDot_put] at h
          rw [← HP.out]; exact h)
        clear hR
        go_wp2_with fail
        go_roundw
        case rel => exact ⟨k + 1, by omega, by go_num, HOn, Lib.hid (HR.out.other (by simp; omega) _), Lib.hid (KP.out.other (by simp; omega) _), Lib.hid (KD.out.other (by simp; omega) _), Lib.hid (HB.out.setCell (by simp; omega) _)⟩
        case measure => simp [intOf]; omega
      · have HP : Hid (plateG A B d N nm lv k = 0) := Lib.hid (by unfold plateG; rw [hR, if_neg hlv])
        have HOn : Hid (Own wr gp n n (gen n (upDot (plateG A B d N nm lv) (k + 1)))) := Lib.hid (by rw [← upDot_skip HP.out]; exact HO.out)
        clear hR
        go_wp2_with fail
        go_roundw
        case rel => exact ⟨k + 1, by omega, by go_num, HOn, HR, KP, KD, HB⟩
        case measure => simp [intOf]; omega
    · obtain rfl : k = n := by omega
      have HE : Hid (Own wr gp k k (gen k (plateG A B d N nm lv))) := Lib.hid (by rw [← upDot_all]; exact HO.out)
      obtain ⟨r0, r1, r2, r3⟩ := KP.out.c3
      obtain ⟨q0, q1, q2⟩ := KP.out.f3
      go_wp2_with fail
      exact bodyPost_ret (v := .tuple #[.agg #[.int .i64 W, .int .i64 H, .slice (some ⟨gp, 0, none⟩) k k], .bool true]) (by simp [results, Try.results18, go_sem, r1, r2, r3]) rfl
        ⟨_, _, _, rfl, OwnA.mk (((HE.out.other (by simp; omega) _).other (by simp; omega) _).other (by simp; omega) _) (by omega), by omega,
          ((HB.out.setCell (by first | (simp; done) | (simp; omega)) _).setCell (by first | (simp; done) | (simp; omega)) _).setCell (by first | (simp; done) | (simp; omega)) _⟩

end Go.Proofs.Ytflegojobchgdaa
