/-
  Spellings: coercions that are gone once a term is elaborated, and premises that are shown where they are used.
-/
import Derived.WalkKit
import Derived.WalkSpells
import Derived.Lib.SmallJoins
import Derived.Deep.RegionHeld
namespace Go.Proofs.YtlenfgdjdianiaaGreatDoor
open Go Go.RowKit
def Hd (p : Prop) : Prop := p
theorem Hd.Z {p : Prop} (h : Hd p) : p := h
inductive Tq | JE (b k : Nat) | JA (v : World) (a : Nat) (x y z : Value) | JB (v : World) (a : Nat) (x y z : Value) (r : Prop) | Jc (v : World) (a : Addr) (x : Value) | Z0 | Z1 | Zp | Zd | zR (v : Value) (w : World)
instance : Coe Int Value := ⟨fun x => .int .i64 x⟩
instance : Coe Nat Value := ⟨fun x => .int .i64 (x : Int)⟩
instance : Coe World Nat := ⟨fun w => w.heap.size⟩
instance : Coe Nat Addr := ⟨fun b => ⟨b, 0, none⟩⟩
instance : Coe World Addr := ⟨fun b => ⟨b.heap.size, 0, none⟩⟩
instance (b k : Nat) : CoeDep (Nat × Nat) (b, k) Addr := ⟨⟨b, k, none⟩⟩
open Tq
instance (b k : Nat) : CoeDep Tq (JE b k) Addr := ⟨⟨b, k, none⟩⟩
instance : CoeDep Tq Z0 Value := ⟨.int .i64 0⟩
instance : CoeDep Tq Z1 Value := ⟨.int .i64 1⟩
instance : CoeDep Tq Zp (Array Value) := ⟨#[.int .i64 0, .int .i64 0, .slice none 0 0]⟩
instance : CoeDep Tq Zd (Array Value) := ⟨#[.int .i64 0, .int .i64 0, .slice none 0 0, .int .i64 0, .int .i64 0, .slice none 0 0, .slice none 0 0]⟩
instance (v : World) (a : Addr) (x : Value) : CoeDep Tq (Jc v a x) Prop := ⟨v.cell? a = some x⟩
instance (b : World) (k : Nat) : CoeDep (World × Nat) (b, k) Addr := ⟨⟨b.heap.size, k, none⟩⟩
instance (v : Value) (w : World) : CoeDep Tq (zR v w) (Ending → World → Prop) := ⟨fun e w' => e = .returned v ∧ Below w.heap.size w w'⟩
instance {R S : World → Prop} (m : Hd (∀ v, R v → S v)) : CoeDep (Hd (∀ v, R v → S v)) m (World → Prop) := ⟨S⟩
instance (v : World) (a : Nat) (x y z : Value) : CoeDep Tq (JA v a x y z) Prop := ⟨v.cell? ⟨a, 0, none⟩ = some x ∧ v.cell? ⟨a, 1, none⟩ = some y ∧ v.cell? ⟨a, 2, none⟩ = some z⟩
instance (v : World) (a : Nat) (x y z : Value) (r : Prop) : CoeDep Tq (JB v a x y z r) Prop := ⟨v.cell? ⟨a, 0, none⟩ = some x ∧ v.cell? ⟨a, 1, none⟩ = some y ∧ v.cell? ⟨a, 2, none⟩ = some z ∧ r⟩
theorem Jh {p : Prop} (h : p) : Hd p := h
theorem zN {α : Sort _} (a : α) : ∃ x, x = a := ⟨_, rfl⟩
variable {p q r s : Prop}
theorem om (h : p := by omega) : p := h
theorem sI (h : p := by simp) : p := h
theorem sO (h : p := by simp; omega) : p := h
theorem sD (h : p := by first | (simp; done) | (simp; omega)) : p := h
theorem zK (h : p := by kernel_rfl) : p := h
theorem dC (h : p := by decide) : p := h
theorem aS (h : p := by assumption) : p := h
theorem nC (h : p := by norm_cast) : p := h
theorem oh (h : Hd p) (k : p → q := by intro; omega) : q := k h
theorem Jm (h : p := by simp [intOf]; omega) : p := h
theorem Jr (h : p) (k : p → q := by intro h; simp [results, h, go_sem]) : q := k h
theorem Jd (h : p) (k : p → q := by intro h; (try dsimp only); exact h) : q := k h
theorem oS (h : p) (k : p → q := by intro; simp; omega) : q := k h
theorem oT (h : p) (g : q) (k : p → q → r := by intros; simp; omega) : r := k h g
theorem nI {n : Nat} : n ≤ n := Nat.le_refl n
theorem nZ {n : Nat} : 0 ≤ n := Nat.zero_le n
theorem bR {k : Nat} {w : World} : Below k w w := Below.refl k w
theorem nJ {w : World} {o : Obj} : Below w.heap.size w (w.alloc o) := Joins.below_alloc1 w o
theorem nV {w : World} {o k : Obj} : Below w.heap.size w ((w.alloc o).alloc k) := Joins.below_alloc2 w o k
theorem og (h : p) (k : p → q := by intro; omega) : q := k h
theorem zB (h : p) (g : q) (k : p → q → r := by intros; omega) : r := k h g
theorem zC (h : p) (g : q) (f : r) (k : p → q → r → s := by intros; omega) : s := k h g f
set_option linter.defProp false
def Ya := @List.getElem?_eq_getElem
def Yb := @Nat.lt_of_lt_of_le
def Yc := @IntWalk.i64_in
def Yd := @Option.some.inj
def Ye := @Int.emod_lt_of_pos
def Yf := @ByteArray.toList_eq
def Yg := @Int.emod_nonneg
def Yh := @List.getD_eq_getElem?_getD
def Yi := @List.getElem?_toArray
def Yj := @List.length_take
def Yk := @List.take_of_length_le
def Yl := @Int.tmod_eq_emod_of_nonneg
def Ym := @List.take_succ_eq_append_getElem
def Yn := @List.length_append
def Yo := @Int.mul_le_mul_of_nonneg_right
def Yp := @List.all_eq_true
def Yq := @Int.mul_assoc
def Yr := @Int.mul_le_mul
def Ys := @Int.mul_comm
def Yt := @Int.tdiv_eq_ediv_of_nonneg
def Yu := @Int.toNat_natCast
def Yv := @List.getElem?_eq_none
def Yw := @Int.ediv_nonneg
def Yx := @Nat.le_trans
def Yy := @Nat.add_zero
def Yz := @Option.getD_some
def YA := @Int.mul_le_mul_of_nonneg_left
end Go.Proofs.YtlenfgdjdianiaaGreatDoor
