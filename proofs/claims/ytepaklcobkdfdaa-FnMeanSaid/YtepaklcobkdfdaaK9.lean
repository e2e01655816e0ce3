/-
  Contracts of chapter 5: the greatest common divisor, MeanOf of the program and of the model.
-/
import Derived.Test.YtepaklcobkdfdaaC2
import Derived.Test.YtepaklcobkdfdaaC4
import Derived.Deep.RegionHeld3
import Derived.Deep.QuietTactic
namespace Go.Proofs.Ytepaklcobkdfdaa
open Go.RowKit
set_option linter.unusedVariables false
set_option linter.unusedSimpArgs false

def meanF (W H : Int) (xs : List Int) : Int × Int := if picOk W H xs 255 = true then (isum xs / (Nat.gcd (isum xs).toNat xs.length : Nat), (xs.length : Int) / (Nat.gcd (isum xs).toNat xs.length : Nat)) else (0, 0)

theorem meanF_no {W H : Int} {xs : List Int} (h : ¬ picOk W H xs 255 = true) : meanF W H xs = (0, 0) := by unfold meanF; rw [if_neg h]

theorem meanF_yes {W H : Int} {xs : List Int} {n S G : Nat} (hn : xs.length = n) (h : picOk W H xs 255 = true) (hS : isum xs = (S : Int)) (hG : Nat.gcd S n = G) : meanF W H xs = ((S : Int) / (G : Int), (n : Int) / (G : Int)) := by
  unfold meanF; rw [if_pos h, hn, hS]; simp [hG]

theorem gcd_go {a b : Nat} (hb : b ≠ 0) : Nat.gcd b (a % b) = Nat.gcd a b := by rw [Nat.gcd_comm b, ← Nat.gcd_rec, Nat.gcd_comm]

theorem cast_mod (a b : Nat) : ((a % b : Nat) : Int) = (a : Int) % (b : Int) := by simp

set_option maxHeartbeats 800000 in
theorem impl_greatestDivisor (a b : Nat) (w : World) (ha : a ≤ 1000000) (hb : b ≤ 1000000) :
    Calls Try.prog 62 #[.int .i64 a, .int .i64 b] w fun e w' => e = .returned (.int .i64 (Nat.gcd a b : Nat)) ∧ ∃ q, w' = w.drewN q := by
  go_enter Try.func62, Try.ntmps62
  go_wp2_with fail
  go_loopw [0, 1] (fun x y wr => ∃ a' b' : Nat, a' ≤ 1000000 ∧ b' ≤ 1000000 ∧ x = .int .i64 a' ∧ y = .int .i64 b' ∧ Hid (Nat.gcd a' b' = Nat.gcd a b) ∧ ∃ q, wr = w.drewN q) (fun _ y _ => (intOf y).toNat)
  case atStart => exact ⟨a, b, ha, hb, rfl, rfl, Lib.hid rfl, 0, rfl⟩
  case round =>
    obtain ⟨a', b', ha', hb', rfl, rfl, HG, q, rfl⟩ := hrel
    by_cases h0 : b' = 0
    · subst h0
      go_wp2_with fail
      go_ret
      exact ⟨ret_int (by have := HG.out; rw [Nat.gcd_zero_right] at this; rw [this]), q, rfl⟩
    · have h1 : ((b' : Int) != 0) = true := by simpa using h0
      have h2 : ((b' : Int) == 0) = false := by simpa using h0
      have h3 : ¬ (b' : Int) = 0 := by omega
      have HR := Lib.hid (gcd_go (a := a') h0)
      have m1 := Nat.mod_lt a' (show 0 < b' by omega)
      obtain ⟨M, hM⟩ : ∃ M : Nat, a' % b' = M := ⟨_, rfl⟩
      rw [hM] at m1 HR
      have t1 : (a' : Int).tmod (b' : Int) = (M : Int) := by rw [Int.tmod_eq_emod_of_nonneg (by omega), ← cast_mod, hM]
      have t2 : IntKind.i64.wrap (M : Int) = (M : Int) := IntWalk.i64_in _ (by omega)
      clear h0 hM
      go_wp2_with fail
      go_quiet (fail)
      clear t1 t2
      go_wp2_with fail
      go_roundw
      case rel => exact ⟨b', M, hb', by omega, rfl, rfl, Lib.hid (by rw [HR.out]; exact HG.out), by first | exact draws1 _ _ | exact draws2 _ _ _⟩
      case measure => simp [intOf]; omega

theorem sum_nat {xs : List Int} {n : Nat} (hn : xs.length = n) (h : within xs 255 = true) (hn2 : n ≤ 1024) : ∃ S : Nat, isum xs = (S : Int) ∧ S ≤ 261120 := by
  have := isum_take_bd h n
  rw [List.take_of_length_le (by omega)] at this
  exact ⟨(isum xs).toNat, by omega, by omega⟩

theorem gcd_facts {S n G : Nat} (hn : 1 ≤ n) (hG : Nat.gcd S n = G) (hn2 : n ≤ 1024) : 1 ≤ G ∧ G ≤ 1024 := by
  have h1 := Nat.gcd_pos_of_pos_right S (show 0 < n by omega)
  have h2 := Nat.gcd_le_right S (show 0 < n by omega)
  omega

theorem sumF_yes {W H : Int} {xs : List Int} (h : picOk W H xs 255 = true) : sumF W H xs = isum xs := by unfold sumF; rw [if_pos h]

theorem quo_facts {S G : Nat} (hG : 1 ≤ G) (hS : S ≤ 261120) : ∃ A : Nat, (S : Int) / (G : Int) = A ∧ (S : Int).tdiv (G : Int) = A ∧ IntKind.i64.wrap (A : Int) = A ∧ A ≤ 261120 := by
  have h := Nat.div_le_self S G
  have e : (S : Int) / (G : Int) = ((S / G : Nat) : Int) := by simp
  obtain ⟨A, hA⟩ : ∃ A, S / G = A := ⟨_, rfl⟩
  rw [hA] at h e
  exact ⟨A, e, by rw [Int.tdiv_eq_ediv_of_nonneg (by omega), e], IntWalk.i64_in _ (by omega), by omega⟩

theorem below_drewN {B : Nat} {w w' : World} (h : Below B w w') (n : Nat) : Below B w (w'.drewN n) := ⟨h.os, h.tape, h.output, h.size, h.block⟩

set_option maxHeartbeats 1600000 in
theorem impl_MeanOf (W H : Int) (ad : Option Addr) (n cap : Nat) (xs : List Int) (w : World) (hn : xs.length = n) (ha : Rd w ad xs) (hl : n ≤ 9223372036854775807) :
    Calls Try.prog 33 #[.agg #[.int .i64 W, .int .i64 H, .slice ad n cap]] w fun e w' => e = .returned (.tuple #[.int .i64 (meanF W H xs).1, .int .i64 (meanF W H xs).2]) ∧ Below w.heap.size w w' := by
  have HN := Lib.hid hn
  have HA := Lib.hid ha
  clear hn ha
  by_cases hp : picOk W H xs 255 = true
  case neg =>
    rw [meanF_no hp]
    have hp2 : picOk W H xs 255 = false := by simpa using hp
    clear hp
    go_enter Try.func33, Try.ntmps33
    go_wp2_with fail
    refine (impl_IsPicture _ _ _ _ _ xs _ HN.out (by exact HA.out.alloc _) hl).mono ?_
    rintro e w1 ⟨rfl, hb⟩
    have HB1 := Lib.hid ((Joins.below_alloc1 _ _).trans (hb.mono (by simp)))
    have KP1 := Lib.hid ((Blk.new w 34 #[.int .i64 W, .int .i64 H, .slice ad n cap]).below' hb)
    obtain ⟨l1, c0, c1, c2⟩ := KP1.out.c3
    clear hb
    rw [hp2]
    go_wp2_with fail
    go_ret2
    exact ⟨rfl, HB1.out⟩
  case pos =>
    obtain ⟨hs, hq, hi⟩ := picOk_bd HN.out hp
    obtain ⟨b1, b2, b3, b4, b5, b6⟩ := sizeOk_bd hs
    have HQ := Lib.hid hq
    have HI := Lib.hid hi
    have HS := Lib.hid hs
    have hn1 : 1 ≤ n := by omega
    have hn2 : n ≤ 1024 := by omega
    clear hq hi hs
    obtain ⟨S, hS, hS2⟩ := sum_nat HN.out HI.out hn2
    obtain ⟨G, hG⟩ : ∃ G, Nat.gcd S n = G := ⟨_, rfl⟩
    obtain ⟨g1, g2⟩ := gcd_facts hn1 hG hn2
    obtain ⟨A, hA1, hA2, hA3, hA4⟩ := quo_facts g1 hS2
    obtain ⟨B, hB1, hB2, hB3, hB4⟩ := quo_facts (S := n) g1 (by omega)
    rw [meanF_yes HN.out hp hS hG]
    have z1 : ¬ (G : Int) = 0 := by omega
    have z2 : ((G : Int) == 0) = false := by simp; omega
    have HP := Lib.hid hp
    have HSS := Lib.hid hS
    have HG := Lib.hid hG
    have HA1 := Lib.hid hA1
    have HA2 := Lib.hid hA2
    have HA3 := Lib.hid hA3
    have HBB1 := Lib.hid hB1
    have HBB2 := Lib.hid hB2
    have HBB3 := Lib.hid hB3
    clear hS hG hA1 hA2 hA3 hB1 hB2 hB3
    go_enter Try.func33, Try.ntmps33
    go_wp2_with fail
    refine (impl_IsPicture _ _ _ _ _ xs _ HN.out (by exact HA.out.alloc _) hl).mono ?_
    rintro e w1 ⟨rfl, hb⟩
    have HB1 := Lib.hid ((Joins.below_alloc1 _ _).trans (hb.mono (by simp)))
    have KP1 := Lib.hid ((Blk.new w 34 #[.int .i64 W, .int .i64 H, .slice ad n cap]).below' hb)
    obtain ⟨l1, c0, c1, c2⟩ := KP1.out.c3
    clear hb
    rw [hp]
    clear hp
    go_wp2_with fail
    go_region_held3 (fun v => v.cell? ⟨w.heap.size, 0, none⟩ = some (.int .i64 W) ∧ v.cell? ⟨w.heap.size, 1, none⟩ = some (.int .i64 H) ∧ v.cell? ⟨w.heap.size, 2, none⟩ = some (.slice ad n cap))
      (first | exact ⟨c0, c1, c2⟩ | exact ⟨(hb.cell l1).trans c0, (hb.cell l1).trans c1, (hb.cell l1).trans c2⟩)
      (first
        | (go_at_call 61; ((with_reducible refine (impl_SumInk _ _ _ _ _ xs _ HN.out (by exact (HA.out.below HB1.out).of_heap rfl) hl).mono ?_); rw [sumF_yes HP.out, HSS.out]; rintro e v1 ⟨rfl, hb⟩)))
    have HB2 := Lib.hid (bTrans HB1.out.drew hb)
    clear hb l1 c0 c1 c2
    go_wp2_with fail
    refine (impl_greatestDivisor S n _ (by omega) (by omega)).mono ?_
    rw [HG.out]
    rintro e w3 ⟨rfl, q, rfl⟩
    have a2 := HA2.out
    have a3 := HA3.out
    have b2 := HBB2.out
    have b3 := HBB3.out
    go_wp2_with fail
    go_quiet (fail)
    clear a2 a3 b2 b3
    go_wp2_with fail
    go_ret2
    exact ⟨by rw [HA1.out, HBB1.out]; rfl, by first | exact below_drewN HB2.out _ | exact below_drewN (below_drewN HB2.out _) _⟩

end Go.Proofs.Ytepaklcobkdfdaa
