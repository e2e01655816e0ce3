/-
  The laws' fresh at any salt.
-/
import Derived.Test.YtipcahcljfheaaaU1b
namespace Go.Proofs.Ytipcahcljfheaaa
open Go.RowKit
set_option linter.unusedVariables false
set_option linter.unusedSimpArgs false

set_option maxRecDepth 100000 in
set_option maxHeartbeats 800000 in
theorem laws_freshS (ac : Option Addr) (nc capc : Nat) (bs : List Int) (s : Int) (B0 : Nat) (w : World) (hl : bs.length = nc) (hr : RdU B0 w ac bs) (hB0 : B0 ≤ w.heap.size) (hn : nc ≤ 1048576) (hs0 : 0 ≤ s) (hs1 : s ≤ 100) :
    Calls Try.prog 9 #[.slice ac nc capc, .int .i64 s] w (FreshOut w) := by
  have HL := Lib.hid hl
  have HC := Lib.hid (hr.mono hB0)
  clear hl hr hB0
  go_enter Try.func9, Try.ntmps9
  go_wp2_with fail
  go_loopw [5, 6] (fun r i wr => ∃ (k : Nat) (xs : List Int), k ≤ nc ∧ k ≤ 600 ∧ i = .int .i64 k ∧ OwnsU wr w.heap.size r (k + 1) xs ∧ bytesOk xs ∧ Below w.heap.size w wr) (fun _ i _ => nc - (intOf i).toNat)
  case atStart => exact ⟨0, _, Nat.zero_le _, by omega, rfl, OwnsU.new _ _, fun x hx => by (rw [List.mem_singleton] at hx); omega, Joins.below_alloc1 _ _⟩
  case round =>
    obtain ⟨k, xs, hk, hk6, rfl, ho, hy, hw⟩ := hrel
    obtain ⟨ad', cap', rfl, hlen, hrd⟩ := ho.rd hy
    have HO := Lib.hid ho
    have HY := Lib.hid hy
    have HW := Lib.hid hw
    have HR := Lib.hid hrd
    have HN := Lib.hid hlen
    have HK6 := Lib.hid hk6
    clear ho hy hw hrd hlen hk6
    by_cases hlt : k < nc
    · by_cases hlt6 : (k : Int) < 600
      · obtain ⟨hv, ba, oa, hae, hba, hal, hac⟩ := (HC.out.below HW.out) k (by have := HL.out; omega)
        obtain ⟨v0, v1⟩ := hv
        have hac2 := hac
        rw [show bs.getD k 0 = bs[k]?.getD 0 from rfl] at hac2 v0 v1
        obtain ⟨u, hu⟩ : ∃ u : Int, bs[k]?.getD 0 = u := ⟨_, rfl⟩
        rw [hu] at hac2 v0 v1
        clear hac hu
        subst hae
        go_wp2_with (at_builtin; refine wp_appendU _ rfl (.tmp 20) (.tmp 34) rfl w.heap.size (k + 1) _ xs rfl (HO.out.alloc _) wr.heap.size _ rfl (cell_new1 _ _ _) (by have := HK6.out; omega) (by have := HW.out.size; simp; omega) ?_; intro v2 w5 ho5 hg5)
        have HO5 := Lib.hid ho5
        have HG5 := Lib.hid hg5
        clear ho5 hg5
        go_roundw
        case rel => exact ⟨k + 1, _, by omega, by omega, by go_num, HO5.out, HY.out.snoc (u8_bd _).1 (u8_bd _).2, (HW.out.alloc HW.out.size _).grown HG5.out (by have := HW.out.size; simp; omega) (fun b hb => (HO.out.own b hb).1)⟩
        case measure => simp [intOf]; omega
      · go_wp2_with fail
        go_ret
        exact ⟨_, _, _, _, rfl, HN.out, by have := HK6.out; omega, HR.out, HW.out⟩
    · go_wp2_with fail
      go_ret
      exact ⟨_, _, _, _, rfl, HN.out, by have := HK6.out; omega, HR.out, HW.out⟩

end Go.Proofs.Ytipcahcljfheaaa
