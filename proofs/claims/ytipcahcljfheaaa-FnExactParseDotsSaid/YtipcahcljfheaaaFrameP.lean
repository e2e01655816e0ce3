/-
  Opening a list of pictures that came in, or a list of numbers; what marks leave of other objects.
-/
import Derived.Test.YtipcahcljfheaaaFrame
import Derived.Test.YtipcahcljfheaaaT4
import Derived.Deep.Slices
import Derived.Deep.Fields
namespace Go.Proofs.Ytipcahcljfheaaa
open Go.ChangeShapes Go.WideShapes Go.ChangeAt Go.RowKit Go.Joins Go.Deep
set_option linter.unusedVariables false
set_option linter.unusedSimpArgs false

theorem cellsIS : Try.prog.cellsOf 23 = 1 := by kernel_rfl

theorem one_intP {H : Type} {enc : TypeId × Value → H} {W : World} {fuel : Nat} {c : List Value} {y : DataW H × List MemPlace} (h : DataW.trod enc Try.prog W 0 (fun _ => true) true fuel 3 c = some y) : ∃ x, c = [.int .i64 x] := by
  obtain ⟨a, e0, _, _⟩ := DataW.trod_int Try.underlying3 h
  exact ⟨a, e0⟩

theorem pics_list {P : Nat → PV → Prop} (m : Nat) (h : ∀ i, i < m → ∃ p, P i p) : ∃ ps : List PV, ps.length = m ∧ ∀ i, i < m → P i (pv ps i) := by
  induction m with
  | zero => exact ⟨[], rfl, fun i hi => by omega⟩
  | succ m ih =>
    obtain ⟨ps, hl, hk⟩ := ih (fun i hi => h i (by omega))
    obtain ⟨p, hp⟩ := h m (by omega)
    refine ⟨ps ++ [p], by simp [hl], fun i hi => ?_⟩
    by_cases e : i = m
    · subst e
      rw [← hl, pv_snoc, hl]
      exact hp
    · rw [pv_snoc_lt (by omega)]
      exact hk i (by omega)

set_option maxRecDepth 100000 in
theorem open_lintsP {H : Type} {enc : TypeId × Value → H} {W : World} {base : Nat} {v : Value} {d : DataW H} {p : List MemPlace}
    (hv : Value.okWide Try.prog W .any base 23 v) (h : DataW.Trod enc Try.prog W 0 (fun _ => true) true 23 v d p) (hlt : ∀ x ∈ p, x.block < W.heap.size) :
    ∃ ad n cap xs, v = .slice ad n cap ∧ xs.length = n ∧ Rd W ad xs ∧ n ≤ 9223372036854775807 ∧ (∀ x ∈ xs, InI x) := by
  obtain ⟨a0, len0, cap0, rfl⟩ := okWide_slice Try.underlying23 hv
  obtain ⟨fuel, hf⟩ := h
  obtain ⟨ad, n, cap, xs, h1, h2⟩ := open_islice (y := (d, p)) (v := .slice a0 len0 cap0) (by simpa [Value.cells] using hf) hlt
  exact ⟨ad, n, cap, xs, h1, h2⟩

theorem OwnV.below' {w w' : World} {B n cap : Nat} {ad : Option Addr} {L : List PV} (h : OwnV w B ad n cap L) (hb : Below w.heap.size w w') : OwnV w' B ad n cap L := h.below hb

theorem OwnV.grownS {w w' : World} {B n cap : Nat} {ad o : Option Addr} {L : List PV} (h : OwnV w B ad n cap L) (hb : w.grownBy w' (blockOf o)) (hs : ∀ b, blockOf o = some b → OwnV.blocks ad L b → False) : OwnV w' B ad n cap L :=
  (KeepT.ofGrown (S := fun i => blockOf o = some i) hb (fun b hb => hb)).ownV h (fun i hi hS => hs i hS hi)

theorem OwnA.keepS {w w' : World} {S : Nat → Prop} {B n cap : Nat} {ad : Option Addr} {xs : List Int} (h : OwnA w B ad n cap xs) (hk : KeepT S w w') (hs : ∀ b, S b → blockOf ad = some b → False) : OwnA w' B ad n cap xs := hk.ownA h (fun b hb hS => hs b hS hb)

theorem OwnV.keepS {w w' : World} {S : Nat → Prop} {B n cap : Nat} {ad : Option Addr} {L : List PV} (h : OwnV w B ad n cap L) (hk : KeepT S w w') (hs : ∀ b, S b → OwnV.blocks ad L b → False) : OwnV w' B ad n cap L := hk.ownV h (fun b hb hS => hs b hS hb)

theorem Blk.keepS {w w' : World} {S : Nat → Prop} {g T : Nat} {cs : Array Value} (h : Blk w g T cs) (hk : KeepT S w w') (hs : ∀ b, S b → b = g → False) : Blk w' g T cs := hk.blk h (fun hS => hs g hS rfl)

theorem below_keep {w0 w w' : World} {S : Nat → Prop} (h : Below w0.heap.size w0 w) (hk : KeepT S w w') (hs : ∀ i, S i → w0.heap.size ≤ i) : Below w0.heap.size w0 w' := h.trans (hk.below hs h.size)

end Go.Proofs.Ytipcahcljfheaaa
