/-
  Contracts of chapter 8: DotText (model).
-/
import Derived.Test.YtipcahcljfheaaaM47
import Derived.Test.YtipcahcljfheaaaC4
namespace Go.Proofs.Ytipcahcljfheaaa
open Go.RowKit
set_option linter.unusedVariables false
set_option linter.unusedSimpArgs false

def textF (W H : Int) (xs : List Int) : List UInt8 := if picOk W H xs 1 = true then textG W.toNat H.toNat xs else []

theorem strcat (l : List UInt8) (b : UInt8) : (⟨l.toArray⟩ : ByteArray) ++ (⟨#[b]⟩ : ByteArray) = ⟨(l ++ [b]).toArray⟩ := by
  apply ByteArray.ext
  simp

set_option maxRecDepth 100000 in
set_option maxHeartbeats 1600000 in
theorem spec_DotText (W H : Int) (ad : Option Addr) (n cap : Nat) (xs : List Int) (w : World) (hn : xs.length = n) (ha : Rd w ad xs) (hl : n ≤ 9223372036854775807) :
    Calls Try.prog 36 #[.agg #[.int .i64 W, .int .i64 H, .slice ad n cap]] w fun e w' => e = .returned (.string ⟨(textF W H xs).toArray⟩) ∧ Below w.heap.size w w' := by
  have HN := Lib.hid hn
  have HA := Lib.hid ha
  by_cases hp : picOk W H xs 1 = true
  case neg =>
    have e1 : textF W H xs = [] := by unfold textF; rw [if_neg hp]
    rw [e1]
    have hpf : picOk W H xs 1 = false := by simpa using hp
    have HPF := Lib.hid hpf
    clear hp hpf e1 hn ha
    go_enter Try.func36, Try.ntmps36
    go_wp2_with fail
    refine (spec_IsPlate W H ad n cap xs _ HN.out (by exact HA.out.alloc _) hl).mono ?_
    rw [HPF.out]
    rintro e w1 ⟨rfl, hb⟩
    have HB := Lib.hid (bTrans (Joins.below_alloc1 w (.cells #[.int .i64 W, .int .i64 H, .slice ad n cap] 25)) hb)
    clear hb
    go_wp2_with fail
    go_ret
    exact ⟨rfl, HB.out⟩
  case pos =>
    obtain ⟨w0, h0, e1, e2, b1, b2, b3, b4, b5, hlen, hs, hx⟩ := plate_dots hp
    subst e1 e2
    have hnn : n = w0 * h0 := by rw [← hn]; exact hlen
    have n1k : n ≤ 1024 := by omega
    have HNN := Lib.hid hnn
    clear hnn
    have e3 : textF (w0 : Int) (h0 : Int) xs = textG w0 h0 xs := by unfold textF; rw [if_pos hp]; rfl
    rw [e3]
    have HP := Lib.hid hp
    have HX := Lib.hid hx
    have KP1 := Lib.hid (Blk.new w 25 #[.int .i64 w0, .int .i64 h0, .slice ad n cap])
    have HA1 := Lib.hid (ha.alloc (.cells #[.int .i64 w0, .int .i64 h0, .slice ad n cap] 25))
    clear hp hx e3 ha hs hlen
    go_enter Try.func36, Try.ntmps36
    go_wp2_with fail
    refine (spec_IsPlate w0 h0 ad n cap xs _ HN.out (by exact HA1.out) hl).mono ?_
    rw [HP.out]
    rintro e w1 ⟨rfl, hb⟩
    have KP := Lib.hid (KP1.out.below' hb)
    have HA2 := Lib.hid (HA1.out.below hb)
    have HB := Lib.hid (bTrans (Joins.below_alloc1 w (.cells #[.int .i64 w0, .int .i64 h0, .slice ad n cap] 25)) hb)
    clear hb KP1 HA1
    obtain ⟨lp, p0, p1, p2⟩ := KP.out.c3
    go_wp2_with fail
    have HXN : Hid (∀ k, k < n → xs.getD k 0 = 0 ∨ xs.getD k 0 = 1) := Lib.hid (fun k hk => HX.out k (by have := HN.out; omega))
    obtain ⟨bA, oA, hAe, hAl⟩ : ∃ b off, ad = some ⟨b, off, none⟩ ∧ b < w1.heap.size := by
      obtain ⟨b, off, h1, h2, _⟩ := HA2.out 0 (by have := HN.out; have := HNN.out; have := Nat.mul_pos b1 b3; omega)
      exact ⟨b, off, h1, h2⟩
    subst hAe
    have HCELL : Hid (∀ k, k < n → w1.cell? ⟨bA, oA + k, none⟩ = some (.int .i64 (xs.getD k 0))) := Lib.hid (fun k hk => by
      obtain ⟨b, off, h1, _, h3⟩ := HA2.out k (by have := HN.out; omega)
      have e := Option.some.inj h1
      simp only [Addr.mk.injEq] at e
      obtain ⟨rfl, rfl, _⟩ := e
      exact h3)
    go_loopw [3, 12] (fun s i wr => ∃ k : Nat, k ≤ n ∧ i = .int .i64 k ∧ s = .string ⟨(textTo w0 h0 xs k).toArray⟩ ∧ Hid (Below w1.heap.size w1 wr)) (fun _ i _ => n - (intOf i).toNat)
    case atStart => exact ⟨0, Nat.zero_le _, rfl, by rw [textTo_zero], Lib.hid (Below.refl _ _)⟩
    case round =>
      obtain ⟨k, hk, rfl, rfl, HW⟩ := hrel
      obtain ⟨T, hT⟩ : ∃ l, textTo w0 h0 xs k = l := ⟨_, rfl⟩
      have HT := Lib.hid hT
      rw [hT]
      clear hT
      have KPr := Lib.hid (KP.out.below' HW.out)
      have HBr := Lib.hid (bTrans HB.out HW.out)
      clear lp p0 p1 p2
      obtain ⟨lp, p0, p1, p2⟩ := KPr.out.c3
      by_cases hlt : k < n
      · have c0 : wr.cell? ⟨bA, oA + k, none⟩ = some (.int .i64 (xs.getD k 0)) := (HW.out.cell (by exact hAl)).trans (HCELL.out k hlt)
        have hst := textTo_succ (w := w0) (h := h0) (xs := xs) (i := k) (by omega) (by have := HNN.out; omega)
        rw [HT.out] at hst
        have hd := HXN.out k hlt
        obtain ⟨x, hx⟩ : ∃ v, xs.getD k 0 = v := ⟨_, rfl⟩
        rw [hx] at c0 hst hd
        have HST := Lib.hid hst
        clear hx hst
        have HT1 : T.length ≤ 4096 := by
          rw [← HT.out]
          unfold textTo
          rw [List.length_take]
          have := Nat.div_le_self k w0
          omega
        obtain ⟨R, hR⟩ : ∃ r : Int, (k : Int).tmod (w0 : Int) = r := ⟨_, rfl⟩
        obtain ⟨Q, hQ⟩ : ∃ r : Int, (w0 : Int) - 1 = r := ⟨_, rfl⟩
        have hR2 : R = ((k % w0 : Nat) : Int) := by rw [← hR, Int.tmod_eq_emod_of_nonneg (by omega)]; simp
        have wQ : IntKind.i64.wrap ((w0 : Int) - 1) = Q := by rw [hQ]; exact IntWalk.i64_in _ (by omega)
        have wQ2 : IntKind.i64.wrap Q = Q := IntWalk.i64_in _ (by omega)
        have R0 : 0 ≤ R := by omega
        have R1 : R ≤ 4096 := by
          have := Nat.mod_lt k (show 0 < w0 by omega)
          omega
        have wR : IntKind.i64.wrap R = R := IntWalk.i64_in _ (by omega)
        have hz : ¬ (w0 : Int) = 0 := by omega
        by_cases hrq : k % w0 = w0 - 1
        · have hrb : (R == Q) = true := by simp; omega
          rcases hd with rfl | rfl
          · go_wp2_with fail
            go_quiet (fail)
            go_wp2_with fail
            go_roundw
            case rel => exact ⟨k + 1, by omega, by go_num, by rw [HST.out]; simp [strcat, dotB, hrq], by first | exact HW | exact Lib.hid ⟨HW.out.os, HW.out.tape, HW.out.output, HW.out.size, HW.out.block⟩⟩
            case measure => simp [intOf]; omega
          · go_wp2_with fail
            go_quiet (fail)
            go_wp2_with fail
            go_roundw
            case rel => exact ⟨k + 1, by omega, by go_num, by rw [HST.out]; simp [strcat, dotB, hrq], by first | exact HW | exact Lib.hid ⟨HW.out.os, HW.out.tape, HW.out.output, HW.out.size, HW.out.block⟩⟩
            case measure => simp [intOf]; omega
        · have hrb : (R == Q) = false := by simp; omega
          rcases hd with rfl | rfl
          · go_wp2_with fail
            go_quiet (fail)
            go_wp2_with fail
            go_roundw
            case rel => exact ⟨k + 1, by omega, by go_num, by rw [HST.out]; simp [strcat, dotB, hrq], by first | exact HW | exact Lib.hid ⟨HW.out.os, HW.out.tape, HW.out.output, HW.out.size, HW.out.block⟩⟩
            case measure => simp [intOf]; omega
          · go_wp2_with fail
            go_quiet (fail)
            go_wp2_with fail
            go_roundw
            case rel => exact ⟨k + 1, by omega, by go_num, by rw [HST.out]; simp [strcat, dotB, hrq], by first | exact HW | exact Lib.hid ⟨HW.out.os, HW.out.tape, HW.out.output, HW.out.size, HW.out.block⟩⟩
            case measure => simp [intOf]; omega
      · obtain rfl : k = n := by omega
        have hall : T = textG w0 h0 xs := by rw [← HT.out, HNN.out]; exact textTo_all (by omega)
        subst hall
        go_wp2_with fail
        go_ret
        exact ⟨rfl, HBr.out⟩

end Go.Proofs.Ytipcahcljfheaaa
