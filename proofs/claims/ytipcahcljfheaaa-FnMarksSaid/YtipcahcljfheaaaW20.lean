/-
  Contracts of chapter 8: SharesMultiply (program and model).
-/
import Derived.Test.YtipcahcljfheaaaW17
import Derived.Test.YtipcahcljfheaaaC2
import Derived.Test.YtipcahcljfheaaaN0
import Derived.Deep.Cut
import Derived.Deep.QuietTactic
import Derived.Deep.RegionHeld3
namespace Go.Proofs.Ytipcahcljfheaaa
open Go.RowKit
set_option linter.unusedVariables false
set_option linter.unusedSimpArgs false

/-- Two pictures in a row of their own. -/
theorem rowV_two {w : World} (p q : PV) (hp : p.ink.length = p.n) (hq : q.ink.length = q.n) (rp : Rd w p.a p.ink) (rq : Rd w q.a q.ink) :
    RdV (w.alloc (.cells #[.int .i64 p.W, .int .i64 p.H, .slice p.a p.n p.c, .int .i64 q.W, .int .i64 q.H, .slice q.a q.n q.c] 25)) (some ⟨w.heap.size, 0, none⟩) [p, q] := by
  have KB := Blk.new w 25 #[.int .i64 p.W, .int .i64 p.H, .slice p.a p.n p.c, .int .i64 q.W, .int .i64 q.H, .slice q.a q.n q.c]
  intro k hk
  have h2 : k = 0 ∨ k = 1 := by simp at hk; omega
  rcases h2 with rfl | rfl
  · exact ⟨w.heap.size, 0, rfl, KB.lt, KB.cell 0, KB.cell 1, KB.cell 2, hp, rp.alloc _⟩
  · exact ⟨w.heap.size, 0, rfl, KB.lt, KB.cell 3, KB.cell 4, KB.cell 5, hq, rq.alloc _⟩

def sharesMF (W H : Int) (xs : List Int) (W' H' : Int) (ys : List Int) : Bool :=
  stackOk [⟨W, H, xs⟩, ⟨W', H', ys⟩] && decide ((markCountsF [⟨W, H, xs⟩, ⟨W', H', ys⟩]).getD 3 0 * (xs.length : Int) = isum xs * isum ys)

/-- Of a stack of two: the marks of each plate's dots. -/
theorem two_counts {p q : PV} {N : Nat} {W H : Int} (T : Stk [p, q] 2 N W H) : ∃ c1 c2 c3 : Int, (cntL [p, q] 4 N).getD 1 0 = c1 ∧ (cntL [p, q] 4 N).getD 2 0 = c2 ∧ (cntL [p, q] 4 N).getD 3 0 = c3 ∧ isum p.ink = c1 + c3 ∧ isum q.ink = c2 + c3 ∧ 0 ≤ c1 ∧ 0 ≤ c2 ∧ 0 ≤ c3 ∧ c1 ≤ N ∧ c2 ≤ N ∧ c3 ≤ N := by
  have hp : (picsV [p, q]).getD 0 noPic = p.pic := rfl
  have hq : (picsV [p, q]).getD 1 noPic = q.pic := rfl
  have d0 := marks_dots (L := picsV [p, q]) (n := N) (k := 0) T.ok T.inkLen (by rw [picsV_len]; simp)
  have d1 := marks_dots (L := picsV [p, q]) (n := N) (k := 1) T.ok T.inkLen (by rw [picsV_len]; simp)
  rw [hp] at d0
  rw [hq] at d1
  have hl : (picsV [p, q]).length = 2 := picsV_len _
  have s4 : ∀ f : Nat → Int, sumJ f (2 ^ 2) = f 0 + f 1 + f 2 + f 3 := fun f => by show 0 + f 0 + f 1 + f 2 + f 3 = _; omega
  rw [hl, s4] at d0 d1
  rw [show ((0 : Nat) : Int) / 2 ^ 0 % 2 = 0 by decide, show ((1 : Nat) : Int) / 2 ^ 0 % 2 = 1 by decide, show ((2 : Nat) : Int) / 2 ^ 0 % 2 = 0 by decide, show ((3 : Nat) : Int) / 2 ^ 0 % 2 = 1 by decide] at d0
  rw [show ((0 : Nat) : Int) / 2 ^ 1 % 2 = 0 by decide, show ((1 : Nat) : Int) / 2 ^ 1 % 2 = 0 by decide, show ((2 : Nat) : Int) / 2 ^ 1 % 2 = 1 by decide, show ((3 : Nat) : Int) / 2 ^ 1 % 2 = 1 by decide] at d1
  have b1 := cntI_bd (markG (picsV [p, q])) ((1 : Nat) : Int) N
  have b2 := cntI_bd (markG (picsV [p, q])) ((2 : Nat) : Int) N
  have b3 := cntI_bd (markG (picsV [p, q])) ((3 : Nat) : Int) N
  refine ⟨_, _, _, cntL_get (by decide), cntL_get (by decide), cntL_get (by decide), ?_, ?_, b1.1, b2.1, b3.1, b1.2, b2.2, b3.2⟩
  · show isum p.pic.ink = _
    rw [← d0]
    omega
  · show isum q.pic.ink = _
    rw [← d1]
    omega

theorem shares_no {W H W' H' : Int} {xs ys : List Int} (h : stackOk [⟨W, H, xs⟩, ⟨W', H', ys⟩] = false) : sharesMF W H xs W' H' ys = false := by unfold sharesMF; rw [h]; rfl

theorem shares_yes {p q : PV} {N : Nat} {W H : Int} (T : Stk [p, q] 2 N W H) : sharesMF p.W p.H p.ink q.W q.H q.ink = decide ((cntL [p, q] 4 N).getD 3 0 * (p.ink.length : Int) = isum p.ink * isum q.ink) := by
  unfold sharesMF
  have h1 : stackOk [⟨p.W, p.H, p.ink⟩, ⟨q.W, q.H, q.ink⟩] = true := T.ok
  have h2 : markCountsF [⟨p.W, p.H, p.ink⟩, ⟨q.W, q.H, q.ink⟩] = cntL [p, q] 4 N := counts_yes T
  rw [h1, h2]
  rfl

end Go.Proofs.Ytipcahcljfheaaa
