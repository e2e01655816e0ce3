/-
  For a statement whose calls stand beside the allocation of its own box: what each order leaves, said once. Lists of numbers as results.
-/
import Derived.Test.YtafjpmlakpfidaaCore
import Derived.Test.YtafjpmlakpfidaaD3
import Derived.Deep.RegionHeld3
import Derived.Deep.DeepCutAuto
namespace Go.Proofs.Ytafjpmlakpfidaa
open Go.RowKit
set_option linter.unusedVariables false
set_option linter.unusedSimpArgs false

/-- Below, as a limb of a region's condition. -/
def BelowH (w v : World) : Prop := Hid (Below w.heap.size w v)

namespace BelowH
variable {w v v' : World}
theorem out (h : BelowH w v) : Below w.heap.size w v := Hid.out h
theorem mk (h : Below w.heap.size w v) : BelowH w v := Lib.hid h
theorem start (w : World) : BelowH w w.drew := mk (Below.refl _ _).drew
theorem alloc (h : BelowH w v) (o : Obj) : BelowH w (v.alloc o) := mk (bAlloc h.out o)
theorem allocD (h : BelowH w v.drew) (o : Obj) : BelowH w (v.alloc o).drew := mk (bAlloc h.out o)
theorem call (h : BelowH w v) (hq : Below v.heap.size v v') : BelowH w v' := mk (bTrans h.out hq)
theorem le (h : BelowH w v) : w.heap.size ≤ v.heap.size := h.out.size
theorem le_call (h : BelowH w v) (hq : Below v.heap.size v v') : w.heap.size ≤ v.heap.size := h.out.size
theorem set (h : BelowH w v) {a : Addr} (ha : w.heap.size ≤ a.block) (u : Value) : BelowH w (v.setCell a u) := mk (h.out.setCell ha u)
end BelowH

theorem held3 {a b c : Prop} (h : a ∧ b ∧ c) : c := h.2.2
theorem held4 {a b c d : Prop} (h : a ∧ b ∧ c ∧ d) : d := h.2.2.2
theorem held5 {a b c d e : Prop} (h : a ∧ b ∧ c ∧ d ∧ e) : e := h.2.2.2.2
theorem held6 {a b c d e f : Prop} (h : a ∧ b ∧ c ∧ d ∧ e ∧ f) : f := h.2.2.2.2.2
theorem held7 {a b c d e f g : Prop} (h : a ∧ b ∧ c ∧ d ∧ e ∧ f ∧ g) : g := h.2.2.2.2.2.2
theorem held10 {a b c d e f g i j k : Prop} (h : a ∧ b ∧ c ∧ d ∧ e ∧ f ∧ g ∧ i ∧ j ∧ k) : k := h.2.2.2.2.2.2.2.2.2

theorem blk_after {X v : World} {cs : Array Value} {T : Nat} (hq : Below (X.alloc (.cells cs T)).heap.size (X.alloc (.cells cs T)) v) : Blk v X.heap.size T cs := (Blk.new X T cs).below' hq
theorem blk_afterD {X v : World} {cs : Array Value} {T : Nat} (hq : Below (X.alloc (.cells cs T)).drew.heap.size (X.alloc (.cells cs T)).drew v) : Blk v X.heap.size T cs := (Blk.new X T cs).drew.below' hq
theorem lt_after {X v : World} {o : Obj} (hq : Below (X.alloc o).heap.size (X.alloc o) v) : X.heap.size < (X.alloc o).heap.size := by simp
theorem lt_afterD {X v : World} {o : Obj} (hq : Below (X.alloc o).drew.heap.size (X.alloc o).drew v) : X.heap.size < (X.alloc o).drew.heap.size := by show X.heap.size < (X.alloc o).heap.size; simp
theorem kg_after {X v : World} {o : Obj} {n : Nat} (hq : Below (X.alloc o).heap.size (X.alloc o) v) (h : n ≤ X.heap.size) : n ≤ X.heap.size := h
theorem kg_afterD {X v : World} {o : Obj} {n : Nat} (hq : Below (X.alloc o).drew.heap.size (X.alloc o).drew v) (h : n ≤ X.heap.size) : n ≤ X.heap.size := h
theorem blk_lt {v v' : World} {g T : Nat} {cs : Array Value} (h : Blk v g T cs) (hq : Below v.heap.size v v') : g < v.heap.size := h.lt
theorem own_call {v v' : World} {g n cap : Nat} {xs : List Int} (h : Own v g n cap xs) (hq : Below v.heap.size v v') : Own v' g n cap xs := h.below hq h.lt
theorem own_callA {v v' : World} {o : Obj} {g n cap : Nat} {xs : List Int} (h : Own v g n cap xs) (hq : Below (v.alloc o).heap.size (v.alloc o) v') : Own v' g n cap xs := (h.alloc o).below hq (h.alloc o).lt

/-- A box of the statement's own that holds a picture (or matrix) in memory of the call's own. -/
def CutBox (w wx : World) (T : Nat) (W H : Int) (xs : List Int) (s : Value) : Prop :=
  ∃ gb a n c, s = .pointer (some ⟨gb, 0, none⟩) ∧ Blk wx gb T #[.int .i64 W, .int .i64 H, .slice a n c] ∧ w.heap.size ≤ gb ∧ OwnA wx w.heap.size a n c xs ∧
    (∀ b, blockOf a = some b → w.heap.size ≤ b ∧ b < wx.heap.size ∧ b ≠ gb) ∧ n ≤ 1048576 ∧ Below w.heap.size w wx

theorem cut_last {w v : World} {T B n c : Nat} {W H : Int} {xs : List Int} {a : Option Addr} (hB : BelowH w v) (ho : OwnA v B a n c xs) (hz : w.heap.size ≤ B) (hn : n ≤ 1048576) :
    CutBox w (v.alloc (.cells #[.int .i64 W, .int .i64 H, .slice a n c] T)) T W H xs (.pointer (some ⟨v.heap.size, 0, none⟩)) := by
  refine ⟨v.heap.size, a, n, c, rfl, Blk.new _ _ _, hB.le, (ho.alloc _).mono hz, fun b hb => ?_, hn, (hB.alloc _).out⟩
  have := ho.bd b hb
  refine ⟨by omega, by simp; omega, by omega⟩

theorem cut_set {w v : World} {T B n c gb : Nat} {W H : Int} {xs : List Int} {a : Option Addr} {x y z : Value} (hB : BelowH w v) (kb : Blk v gb T #[x, y, z]) (kg : w.heap.size ≤ gb) (kl : gb < B) (ho : OwnA v B a n c xs) (hz : w.heap.size ≤ B) (hn : n ≤ 1048576) :
    CutBox w (((v.setCell ⟨gb, 0, none⟩ (.int .i64 W)).setCell ⟨gb, 1, none⟩ (.int .i64 H)).setCell ⟨gb, 2, none⟩ (.slice a n c)) T W H xs (.pointer (some ⟨gb, 0, none⟩)) := by
  refine ⟨gb, a, n, c, rfl, by exact ((kb.set 0 _).set 1 _).set 2 _, kg, (((ho.other (by exact kl) _).other (by exact kl) _).other (by exact kl) _).mono hz, fun b hb => ?_, hn, (((hB.set (by exact kg) _).set (by exact kg) _).set (by exact kg) _).out⟩
  have := ho.bd b hb
  refine ⟨by omega, by simp [World.setCell]; omega, by omega⟩

/-! Lists of numbers as results. -/

theorem eqIntsB (a b : Option Addr) (n m c d : Nat) (xs ys : List Int) (w : World) (hn : xs.length = n) (hm : ys.length = m) (ha : Rd w a xs) (hb : Rd w b ys) (hl : n ≤ 9223372036854775807) (hl2 : m ≤ 9223372036854775807) :
    Calls Try.prog 43 #[.slice a n c, .slice b m d] w fun e w' => e = .returned (.bool (decide (xs = ys))) ∧ Below w.heap.size w w' :=
  (eqInts a b n m c d xs ys w hn hm ha hb hl hl2).mono (fun e w' ⟨h, q, hq⟩ => ⟨h, by rw [hq]; exact Joins.below_draws _ _ _⟩)

theorem heldIntsB (ad : Option Addr) (n cap : Nat) (s : Int) (w : World) (ha : Rd w ad (upFrom s n)) (h0 : 0 ≤ s) (hl : s + n ≤ 17592186044416) :
    Calls Try.prog 45 #[.slice ad n cap, .int .i64 s] w fun e w' => e = .returned (.int .i64 (s + n)) ∧ Below w.heap.size w w' :=
  (heldInts ad n cap s w ha h0 hl).mono (fun e w' ⟨h, hw⟩ => ⟨h, by rw [← hw]; exact Below.refl _ _⟩)

end Go.Proofs.Ytafjpmlakpfidaa
