/-
  Desks as data, and how they lie in memory. Nothing of the program but types' numbers.
-/
import Derived.Test.YtafjpmlakpfidaaT4
import Derived.Test.YtafjpmlakpfidaaM3
import Derived.Test.YtafjpmlakpfidaaM43
namespace Go.Proofs.Ytafjpmlakpfidaa
open Go.RowKit
set_option linter.unusedVariables false
set_option linter.unusedSimpArgs false

/-- Seven cells, as the walk wants them. -/
theorem Blk.c7 {w : World} {g T : Nat} {a b c d e f h : Value} (k : Blk w g T #[a, b, c, d, e, f, h]) : g < w.heap.size ∧ w.cell? ⟨g, 0, none⟩ = some a ∧ w.cell? ⟨g, 1, none⟩ = some b ∧ w.cell? ⟨g, 2, none⟩ = some c ∧ w.cell? ⟨g, 3, none⟩ = some d ∧ w.cell? ⟨g, 4, none⟩ = some e ∧ w.cell? ⟨g, 5, none⟩ = some f ∧ w.cell? ⟨g, 6, none⟩ = some h :=
  ⟨k.lt, by rw [k.cell]; rfl, by rw [k.cell]; rfl, by rw [k.cell]; rfl, by rw [k.cell]; rfl, by rw [k.cell]; rfl, by rw [k.cell]; rfl, by rw [k.cell]; rfl⟩

theorem Blk.f7 {w : World} {g T : Nat} {cs : Array Value} (h : Blk w g T cs) : w.frozen? ⟨g, 0, none⟩ = false ∧ w.frozen? ⟨g, 1, none⟩ = false ∧ w.frozen? ⟨g, 2, none⟩ = false ∧ w.frozen? ⟨g, 3, none⟩ = false ∧ w.frozen? ⟨g, 4, none⟩ = false ∧ w.frozen? ⟨g, 5, none⟩ = false ∧ w.frozen? ⟨g, 6, none⟩ = false :=
  ⟨h.frozen 0, h.frozen 1, h.frozen 2, h.frozen 3, h.frozen 4, h.frozen 5, h.frozen 6⟩

section
variable {w : World} {g T : Nat} {a b c d e f h : Value}
theorem Blk.putP (k : Blk w g T #[a, b, c, d, e, f, h]) (x y z : Value) : Blk (((w.setCell ⟨g, 0, none⟩ x).setCell ⟨g, 1, none⟩ y).setCell ⟨g, 2, none⟩ z) g T #[x, y, z, d, e, f, h] := by
  have := ((k.set 0 x).set 1 y).set 2 z
  simpa using this
theorem Blk.putM (k : Blk w g T #[a, b, c, d, e, f, h]) (x y z : Value) : Blk (((w.setCell ⟨g, 3, none⟩ x).setCell ⟨g, 4, none⟩ y).setCell ⟨g, 5, none⟩ z) g T #[a, b, c, x, y, z, h] := by
  have := ((k.set 3 x).set 4 y).set 5 z
  simpa using this
theorem Blk.putR (k : Blk w g T #[a, b, c, d, e, f, h]) (z : Value) : Blk (w.setCell ⟨g, 5, none⟩ z) g T #[a, b, c, d, e, z, h] := by
  have := k.set 5 z
  simpa using this
theorem Blk.putS (k : Blk w g T #[a, b, c, d, e, f, h]) (z : Value) : Blk (w.setCell ⟨g, 6, none⟩ z) g T #[a, b, c, d, e, f, z] := by
  have := k.set 6 z
  simpa using this
theorem Blk.put7 (k : Blk w g T #[a, b, c, d, e, f, h]) (a' b' c' d' e' f' h' : Value) : Blk (((((((w.setCell ⟨g, 0, none⟩ a').setCell ⟨g, 1, none⟩ b').setCell ⟨g, 2, none⟩ c').setCell ⟨g, 3, none⟩ d').setCell ⟨g, 4, none⟩ e').setCell ⟨g, 5, none⟩ f').setCell ⟨g, 6, none⟩ h') g T #[a', b', c', d', e', f', h'] := by
  have := ((((((k.set 0 a').set 1 b').set 2 c').set 3 d').set 4 e').set 5 f').set 6 h'
  simpa using this
end

/-- A desk: picture, matrix, plates. -/
structure Dsk where
  P : PV
  M : PV
  a : Option Addr
  n : Nat
  c : Nat
  ps : List PV

def Dsk.val (D : Dsk) : Value := .agg #[.int .i64 D.P.W, .int .i64 D.P.H, .slice D.P.a D.P.n D.P.c, .int .i64 D.M.W, .int .i64 D.M.H, .slice D.M.a D.M.n D.M.c, .slice D.a D.n D.c]
def Dsk.cells (D : Dsk) : Array Value := #[.int .i64 D.P.W, .int .i64 D.P.H, .slice D.P.a D.P.n D.P.c, .int .i64 D.M.W, .int .i64 D.M.H, .slice D.M.a D.M.n D.M.c, .slice D.a D.n D.c]
def Dsk.dat (D : Dsk) : Pic × Pic × List Pic := (D.P.pic, D.M.pic, picsV D.ps)

/-- It reads as data. -/
structure RdD (w : World) (D : Dsk) : Prop where
  pl : D.P.ink.length = D.P.n
  pr : Rd w D.P.a D.P.ink
  ml : D.M.ink.length = D.M.n
  mr : Rd w D.M.a D.M.ink
  sl : D.ps.length = D.n
  sr : RdV w D.a D.ps

theorem RdD.below {w w' : World} {D : Dsk} (h : RdD w D) (hb : Below w.heap.size w w') : RdD w' D :=
  ⟨h.pl, h.pr.below hb, h.ml, h.mr.below hb, h.sl, h.sr.below hb⟩

theorem RdD.alloc {w : World} {D : Dsk} (h : RdD w D) (o : Obj) : RdD (w.alloc o) D := h.below (Joins.below_alloc1 w o)

/-- No part is longer than a law lets in. -/
structure SmallD (D : Dsk) : Prop where
  p : D.P.n ≤ 1048576
  m : D.M.n ≤ 1048576
  n : D.n ≤ 1048576
  s : ∀ k, k < D.ps.length → (pv D.ps k).n ≤ 1048576

theorem ownA_other7 {w : World} {B n cap g : Nat} {ad : Option Addr} {xs : List Int} (h : OwnA w B ad n cap xs) (hg : g < B) (a' b' c' d' e' f' h' : Value) :
    OwnA (((((((w.setCell ⟨g, 0, none⟩ a').setCell ⟨g, 1, none⟩ b').setCell ⟨g, 2, none⟩ c').setCell ⟨g, 3, none⟩ d').setCell ⟨g, 4, none⟩ e').setCell ⟨g, 5, none⟩ f').setCell ⟨g, 6, none⟩ h') B ad n cap xs := by
  have q : ∀ {u : World} (k : OwnA u B ad n cap xs) (i : Nat) (v : Value), OwnA (u.setCell ⟨g, i, none⟩ v) B ad n cap xs := fun k i v => k.otherT (fun e => by have := k.bd _ e; simp at this; omega) v
  exact q (q (q (q (q (q (q h 0 a') 1 b') 2 c') 3 d') 4 e') 5 f') 6 h'

theorem below_set7 {B g : Nat} {w w' : World} (h : Below B w w') (hg : B ≤ g) (a' b' c' d' e' f' h' : Value) :
    Below B w (((((((w'.setCell ⟨g, 0, none⟩ a').setCell ⟨g, 1, none⟩ b').setCell ⟨g, 2, none⟩ c').setCell ⟨g, 3, none⟩ d').setCell ⟨g, 4, none⟩ e').setCell ⟨g, 5, none⟩ f').setCell ⟨g, 6, none⟩ h') :=
  ((((((h.setCell hg _).setCell hg _).setCell hg _).setCell hg _).setCell hg _).setCell hg _).setCell hg _

/-- A desk of the call's own, all its parts apart. -/
structure OwnD (w : World) (B : Nat) (D : Dsk) : Prop where
  p : OwnA w B D.P.a D.P.n D.P.c D.P.ink
  m : OwnA w B D.M.a D.M.n D.M.c D.M.ink
  s : OwnV w B D.a D.n D.c D.ps
  pm : ∀ b, blockOf D.P.a = some b → blockOf D.M.a ≠ some b
  ps : ∀ b, OwnV.blocks D.a D.ps b → blockOf D.P.a ≠ some b
  ms : ∀ b, OwnV.blocks D.a D.ps b → blockOf D.M.a ≠ some b

theorem OwnD.rd {w : World} {B : Nat} {D : Dsk} (h : OwnD w B D) : RdD w D :=
  ⟨h.p.len, h.p.rd, h.m.len, h.m.rd, h.s.len, h.s.rd⟩

theorem OwnD.below {w w' : World} {B : Nat} {D : Dsk} (h : OwnD w B D) (hb : Below w.heap.size w w') : OwnD w' B D :=
  ⟨h.p.below' hb, h.m.below' hb, h.s.below hb, h.pm, h.ps, h.ms⟩

theorem OwnD.mono {w : World} {B B' : Nat} {D : Dsk} (h : OwnD w B D) (hB : B' ≤ B) : OwnD w B' D :=
  ⟨h.p.mono hB, h.m.mono hB, h.s.mono hB, h.pm, h.ps, h.ms⟩

theorem OwnD.alloc {w : World} {B : Nat} {D : Dsk} (h : OwnD w B D) (o : Obj) : OwnD (w.alloc o) B D := h.below (Joins.below_alloc1 w o)

theorem OwnV.other {w : World} {B n cap : Nat} {ad : Option Addr} {L : List PV} (h : OwnV w B ad n cap L) {a : Addr} (ha : a.block < B) (u : Value) : OwnV (w.setCell a u) B ad n cap L := by
  have hk : KeepT (fun i => i = a.block) w (w.setCell a u) := KeepT.set (S := fun i => i = a.block) (KeepT.refl _ w) rfl u
  exact hk.ownV h (fun i hb e => by have := h.bd i hb; omega)

theorem OwnD.other {w : World} {B : Nat} {D : Dsk} (h : OwnD w B D) {a : Addr} (ha : a.block < B) (u : Value) : OwnD (w.setCell a u) B D :=
  ⟨h.p.otherT (fun e => by have := h.p.bd _ e; omega) u, h.m.otherT (fun e => by have := h.m.bd _ e; omega) u, h.s.other ha u, h.pm, h.ps, h.ms⟩

/-- All blocks of a desk. -/
def Dsk.blocks (D : Dsk) (b : Nat) : Prop := blockOf D.P.a = some b ∨ blockOf D.M.a = some b ∨ OwnV.blocks D.a D.ps b

theorem OwnD.bd {w : World} {B : Nat} {D : Dsk} (h : OwnD w B D) : ∀ b, D.blocks b → B ≤ b ∧ b < w.heap.size := by
  intro b hb
  rcases hb with hb | hb | hb
  · exact h.p.bd b hb
  · exact h.m.bd b hb
  · exact h.s.bd b hb

/-- A desk is valid. -/
def deskOk (d : Pic × Pic × List Pic) : Bool :=
  picOk d.1.W d.1.H d.1.ink 255 && matOk d.2.1.W d.2.1.H d.2.1.ink && (decide (d.2.2.length = 0) || (stackOk d.2.2 && decide ((d.2.2.getD 0 noPic).W = d.1.W ∧ (d.2.2.getD 0 noPic).H = d.1.H)))

theorem deskOk_p {d : Pic × Pic × List Pic} (h : ¬ picOk d.1.W d.1.H d.1.ink 255 = true) : deskOk d = false := by
  unfold deskOk
  simp [h]

theorem deskOk_m {d : Pic × Pic × List Pic} (h : ¬ matOk d.2.1.W d.2.1.H d.2.1.ink = true) : deskOk d = false := by
  unfold deskOk
  simp [h]

theorem deskOk_0 {d : Pic × Pic × List Pic} (h1 : picOk d.1.W d.1.H d.1.ink 255 = true) (h2 : matOk d.2.1.W d.2.1.H d.2.1.ink = true) (h3 : d.2.2.length = 0) : deskOk d = true := by
  unfold deskOk
  simp [h1, h2, h3]

theorem deskOk_s {d : Pic × Pic × List Pic} (h1 : picOk d.1.W d.1.H d.1.ink 255 = true) (h2 : matOk d.2.1.W d.2.1.H d.2.1.ink = true) (h3 : ¬ d.2.2.length = 0) :
    deskOk d = (stackOk d.2.2 && decide ((d.2.2.getD 0 noPic).W = d.1.W ∧ (d.2.2.getD 0 noPic).H = d.1.H)) := by
  unfold deskOk
  simp [h1, h2, h3]

end Go.Proofs.Ytafjpmlakpfidaa
