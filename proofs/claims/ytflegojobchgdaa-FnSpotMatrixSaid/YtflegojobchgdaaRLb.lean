/-
  The lattice that a law draws, and the bytes that it reads: for a law over lattices.
-/
import Derived.Test.YtflegojobchgdaaR1b
import Derived.Test.YtflegojobchgdaaN1
namespace Go.Proofs.Ytflegojobchgdaa
open Go.RowKit
set_option linter.unusedVariables false
set_option linter.unusedSimpArgs false

def latList : List (Int × Int) := [(1, 0), (1, 1), (2, 0), (2, 1), (1, 2), (3, 1), (2, 2), (3, 2), (3, 0), (4, 0), (3, 3), (2, 3), (4, 2), (1, 3), (4, 4), (2, 4)]

set_option maxHeartbeats 400000 in
theorem at_callL (B : Nat) (ac : Option Addr) (nc capc : Nat) (bs : List Int) (i : Nat) (w : World) (hl : bs.length = nc) (hr : RdU B w ac bs) (hn : nc ≤ 1048576) (hi : i ≤ 100) :
    Calls Try.prog 10 #[.slice ac nc capc, .int .i64 i] w fun e w' => ∃ v : Nat, e = .returned (.int .i64 (v : Int)) ∧ v ≤ 255 ∧ w = w' := by
  by_cases hlt : i < nc
  · obtain ⟨⟨u0, u1⟩, bb, bo, hae, bl, bl2, hcell⟩ := hr i (by omega)
    subst hae
    obtain ⟨v, hv⟩ : ∃ v : Nat, bs.getD i 0 = (v : Int) := ⟨(bs.getD i 0).toNat, by omega⟩
    rw [hv] at hcell
    have hv2 : v ≤ 255 := by omega
    clear u0 u1 hv hr
    go_enter Try.func10, Try.ntmps10
    go_wp2
    go_ret
    exact ⟨v, rfl, hv2, rfl⟩
  · clear hr
    go_enter Try.func10, Try.ntmps10
    go_wp2
    go_ret
    exact ⟨(((i : Int) * 37 + (nc : Int) * 11) % 256).toNat, ret_int (by omega), by omega, rfl⟩

def latCells : Array Value := #[.int .i64 1, .int .i64 0, .int .i64 1, .int .i64 1, .int .i64 2, .int .i64 0, .int .i64 2, .int .i64 1, .int .i64 1, .int .i64 2, .int .i64 3, .int .i64 1, .int .i64 2, .int .i64 2, .int .i64 3, .int .i64 2, .int .i64 3, .int .i64 0, .int .i64 4, .int .i64 0, .int .i64 3, .int .i64 3, .int .i64 2, .int .i64 3, .int .i64 4, .int .i64 2, .int .i64 1, .int .i64 3, .int .i64 4, .int .i64 4, .int .i64 2, .int .i64 4]

theorem lat_cells : ∀ r : Nat, r < 16 → ∃ A B : Int, (A, B) ∈ latList ∧ latCells[r * 2]? = some (.int .i64 A) ∧ latCells[r * 2 + 1]? = some (.int .i64 B) := by
  intro r hr
  have h : r = 0 ∨ r = 1 ∨ r = 2 ∨ r = 3 ∨ r = 4 ∨ r = 5 ∨ r = 6 ∨ r = 7 ∨ r = 8 ∨ r = 9 ∨ r = 10 ∨ r = 11 ∨ r = 12 ∨ r = 13 ∨ r = 14 ∨ r = 15 := by omega
  rcases h with rfl | rfl | rfl | rfl | rfl | rfl | rfl | rfl | rfl | rfl | rfl | rfl | rfl | rfl | rfl | rfl
  all_goals exact ⟨_, _, by first | exact List.Mem.head _ | (repeat (first | exact List.Mem.head _ | apply List.Mem.tail)), rfl, rfl⟩

set_option maxRecDepth 100000 in
set_option maxHeartbeats 1600000 in
theorem lat_call (ac : Option Addr) (nc capc : Nat) (bs : List Int) (w : World) (hl : bs.length = nc) (hr : RdU w.heap.size w ac bs) (hn : nc ≤ 4611686018427387904) :
    Calls Try.prog 9 #[.slice ac nc capc] w fun e w' => ∃ A B : Int, e = .returned (.agg #[.int .i64 A, .int .i64 B]) ∧ (A, B) ∈ latList ∧ Below w.heap.size w w' := by
  have HL := Lib.hid hl
  have HR := Lib.hid hr
  clear hl hr
  go_enter Try.func9, Try.ntmps9
  go_wp2_with fail
  refine (spec_l01New ac nc capc bs _ HL.out (by exact (HR.out.below (Joins.below_alloc1 _ _)).mono (by simp)) hn).mono ?_
  rintro e w1 ⟨c, rfl, hc, hcur, hb⟩
  have HB1 := Lib.hid (bTrans (Joins.below_alloc1 _ _) hb)
  have HCU := Lib.hid hcur
  have KR1 := Lib.hid ((Blk.new w 24 #[.int .i64 0, .int .i64 0]).below' hb)
  have hcw : w.heap.size < c := by simp at hc; omega
  clear hb hcur
  go_wp2_with fail
  have hcl := HCU.out.lt
  refine (spec_l01Below c ac nc capc bs 16 _ (by exact HCU.out.alloc _) (by omega) (by omega)).mono ?_
  rintro e w2 ⟨v, rfl, v0, v1, hcur, hg⟩
  have KL : Blk w2 w1.heap.size 24 latCells := (Blk.new w1 24 latCells).grown hg (by simp; omega)
  have KR2 := Lib.hid ((KR1.out.alloc (.cells latCells 24)).grown hg (by simp; omega))
  have HB2 := Lib.hid ((bAlloc HB1.out (.cells latCells 24)).grown hg (by have := HB1.out.size; simp; omega) (by intro k hk; cases hk; omega))
  obtain ⟨r, rfl⟩ : ∃ r : Nat, v = r := ⟨v.toNat, by omega⟩
  obtain ⟨A, B, hm, q0, q1⟩ := lat_cells r (by omega)
  have HM := Lib.hid hm
  have c0 : w2.cell? ⟨w1.heap.size, r * 2, none⟩ = some (.int .i64 A) := by rw [KL.cell]; exact q0
  have c1 : w2.cell? ⟨w1.heap.size, r * 2 + 1, none⟩ = some (.int .i64 B) := by rw [KL.cell]; exact q1
  obtain ⟨z, r0, r1⟩ := KR2.out.c2
  have f0 := KR2.out.frozen 0
  have f1 := KR2.out.frozen 1
  clear KL q0 q1 hg hcur hm
  go_wp2_with fail
  exact bodyPost_ret (v := .agg #[.int .i64 A, .int .i64 B]) (by simp [results, Try.results9, go_sem, r0, r1]) rfl ⟨A, B, rfl, HM.out, (HB2.out.setCell (by simp) _).setCell (by simp) _⟩

theorem lat_list {A B : Int} (h : (A, B) ∈ latList) : 1 ≤ A ∧ A ≤ 4 ∧ 0 ≤ B ∧ B ≤ 4 ∧ latOk A B = true := by
  have h1 : ∀ p ∈ latList, 1 ≤ p.1 ∧ p.1 ≤ 4 ∧ 0 ≤ p.2 ∧ p.2 ≤ 4 ∧ latOk p.1 p.2 = true := by decide
  exact h1 _ h

end Go.Proofs.Ytflegojobchgdaa
