/-
  What a call leaves as it was but for some blocks; a list of numbers cloned; a diffusion in memory.
-/
import Derived.Test.YtepaklcobkdfdaaK8
import Derived.Test.YtepaklcobkdfdaaM23
namespace Go.Proofs.Ytepaklcobkdfdaa
open Go.RowKit
set_option linter.unusedVariables false
set_option linter.unusedSimpArgs false

/-- Everything that was there stands, but for the blocks of S. -/
structure Keep (S : Nat → Prop) (w w' : World) : Prop where
  os : w'.os = w.os
  tape : w'.tape = w.tape
  output : w'.output = w.output
  size : w.heap.size ≤ w'.heap.size
  block : ∀ i, i < w.heap.size → ¬ S i → w'.heap[i]? = w.heap[i]?

namespace Keep
variable {S : Nat → Prop} {w w' w2 : World}

theorem refl (S : Nat → Prop) (w : World) : Keep S w w := ⟨rfl, rfl, rfl, Nat.le_refl _, fun _ _ _ => rfl⟩

theorem trans (h : Keep S w w') (k : Keep S w' w2) : Keep S w w2 :=
  ⟨k.os.trans h.os, k.tape.trans h.tape, k.output.trans h.output, Nat.le_trans h.size k.size, fun i hi hs => (k.block i (Nat.lt_of_lt_of_le hi h.size) hs).trans (h.block i hi hs)⟩

theorem ofBelow (h : Below w.heap.size w w') : Keep S w w' := ⟨h.os, h.tape, h.output, h.size, fun i hi _ => h.block i hi⟩

theorem below {B : Nat} (h : Keep S w w') (hS : ∀ i, S i → B ≤ i) (hB : B ≤ w.heap.size) : Below B w w' :=
  ⟨h.os, h.tape, h.output, h.size, fun i hi => h.block i (by omega) (fun hs => by have := hS i hs; omega)⟩

theorem set (h : Keep S w w') {a : Addr} (ha : S a.block) (u : Value) : Keep S w (w'.setCell a u) :=
  ⟨h.os, h.tape, h.output, by simpa [World.setCell] using h.size, fun i hi hs => (Below.heap_setCell w' a u i (fun e => hs (by rw [e]; exact ha))).trans (h.block i hi hs)⟩

theorem alloc (h : Keep S w w') (o : Obj) : Keep S w (w'.alloc o) := h.trans (ofBelow (Joins.below_alloc1 w' o))

theorem drewN (h : Keep S w w') (n : Nat) : Keep S w (w'.drewN n) := ⟨h.os, h.tape, h.output, h.size, h.block⟩

theorem drew (h : Keep S w w') : Keep S w w'.drew := ⟨h.os, h.tape, h.output, h.size, h.block⟩

theorem mono {S2 : Nat → Prop} (h : Keep S w w') (hs : ∀ i, S i → S2 i) : Keep S2 w w' := ⟨h.os, h.tape, h.output, h.size, fun i hi h2 => h.block i hi (fun h3 => h2 (hs i h3))⟩

theorem blk {g T : Nat} {cs : Array Value} (h : Keep S w w') (hb : Blk w g T cs) (hs : ¬ S g) : Blk w' g T cs := hb.of_block (h.block g hb.lt hs)

theorem own {g n cap : Nat} {xs : List Int} (h : Keep S w w') (hb : Own w g n cap xs) (hs : ¬ S g) : Own w' g n cap xs := hb.of_block (h.block g hb.lt hs)

theorem ownA {B n cap : Nat} {ad : Option Addr} {xs : List Int} (h : Keep S w w') (hb : OwnA w B ad n cap xs) (hs : ∀ i, S i → i < B) : OwnA w' B ad n cap xs := by
  rcases hb with hb | ⟨g, h1, h2, hb⟩
  · exact .inl hb
  · exact .inr ⟨g, h1, h2, h.own hb (fun e => by have := hs g e; omega)⟩

end Keep

/-! A list of numbers cloned. -/

theorem RowA.toOwn {w : World} {B n cap : Nat} {ad : Option Addr} {xs : List Int} (h : RowA w 3 1 B ad n cap xs) : OwnA w B ad n cap xs := by
  rcases h with h | ⟨g, h1, h2, h3, cur, h4, h5, h6, h7, h8⟩
  · exact .inl h
  · exact .inr ⟨g, h1, h2, by omega, cur, h4, h5, h6, by omega, by rw [Nat.mul_one] at h8; exact h8⟩

theorem infoInt3 : (Try.prog.info? 3).map (fun i => (i.zero, i.size, i.bytes)) = some (some (.int .i64 0), 1, 8) := by kernel_rfl

set_option maxRecDepth 100000 in
set_option maxHeartbeats 800000 in
theorem clone_ints (b off n cap : Nat) (xs : List Int) (w : World) (hn : xs.length = n) (ha : Rd w (some ⟨b, off, none⟩) xs) (h1 : 1 ≤ n) (hl : n ≤ 1048576) :
    Calls Try.prog 72 #[.slice (some ⟨b, off, none⟩) n cap] w fun e w' => ∃ g c, e = .returned (.slice (some ⟨g, 0, none⟩) n c) ∧ Own w' g n c xs ∧ w.heap.size ≤ g ∧ Below w.heap.size w w' := by
  have HN := Lib.hid hn
  have HA := Lib.hid ha
  clear hn ha
  have hnil := fun v : World => Lib.run_eql_slice_nil (P := Try.prog) v (t := 26) (e := 3) (a := some ⟨b, off, none⟩) n cap 0 0 Try.underlying26
  go_enter Try.func72, Try.ntmps72
  go_wp2_with (at_builtin; refine wp_cloneT _ rfl 26 3 1 8 (.int .i64 0) Try.underlying26 infoInt3 rfl (by decide) (by decide) (.tmp 5) (.tmp 6) rfl w.heap.size 0 _ rfl (RowA.mk (rowT_empty w 3 1) (Nat.le_refl _)) b off n cap xs rfl (by have := HN.out; omega) (fun j hj => by
    obtain ⟨b2, o2, h3, h4, h5⟩ := (HA.out.alloc (.cells #[] 3)).at (by have := HN.out; omega)
    cases h3
    exact h5 j (by have := HN.out; omega)) hl (by simp) ?_; intro ad2 cap2 w5 ho5 hg5)
  have HB5 := Lib.hid ((Joins.below_alloc1 w (.cells #[] 3)).grown hg5 (by simp) (fun k hk => by simp [blockOf] at hk; omega))
  have HO5 := Lib.hid ho5.toOwn
  clear ho5 hg5
  obtain ⟨g, hg, hB, hr⟩ : ∃ g, ad2 = some ⟨g, 0, none⟩ ∧ w.heap.size ≤ g ∧ Own w5 g n cap2 xs := by
    rcases HO5.out with ⟨_, h, _, _⟩ | h
    · omega
    · exact h
  subst hg
  have HR := Lib.hid hr
  clear hr
  go_ret
  exact ⟨_, _, rfl, HR.out, hB, HB5.out⟩

/-! A diffusion in memory. -/

/-- Block D holds a diffusion: its kernel, its plate (row gp), its values (row gr), what is lost. -/
structure DSt (w : World) (B D gp gr : Nat) (kad : Option Addr) (kn kcap : Nat) (W H : Int) (n rc : Nat) (dots rs : List Int) (L : Int) : Prop where
  hD : B ≤ D
  hp : B ≤ gp
  hr : B ≤ gr
  n1 : D ≠ gp
  n2 : D ≠ gr
  n3 : gp ≠ gr
  box : Blk w D 65 #[.slice kad kn kcap, .int .i64 W, .int .i64 H, .slice (some ⟨gp, 0, none⟩) n n, .slice (some ⟨gr, 0, none⟩) n rc, .int .i64 L]
  dots : Own w gp n n dots
  rest : Own w gr n rc rs

def Trio (D gp gr : Nat) (i : Nat) : Prop := i = D ∨ i = gp ∨ i = gr

namespace DSt
variable {w w' : World} {B D gp gr : Nat} {kad : Option Addr} {kn kcap : Nat} {W H : Int} {n rc : Nat} {ds rs : List Int} {L : Int}

theorem below (h : DSt w B D gp gr kad kn kcap W H n rc ds rs L) (hb : Below w.heap.size w w') : DSt w' B D gp gr kad kn kcap W H n rc ds rs L :=
  ⟨h.hD, h.hp, h.hr, h.n1, h.n2, h.n3, h.box.below' hb, h.dots.below hb h.dots.lt, h.rest.below hb h.rest.lt⟩

theorem alloc (h : DSt w B D gp gr kad kn kcap W H n rc ds rs L) (o : Obj) : DSt (w.alloc o) B D gp gr kad kn kcap W H n rc ds rs L := h.below (Joins.below_alloc1 w o)

theorem drewN (h : DSt w B D gp gr kad kn kcap W H n rc ds rs L) (m : Nat) : DSt (w.drewN m) B D gp gr kad kn kcap W H n rc ds rs L :=
  ⟨h.hD, h.hp, h.hr, h.n1, h.n2, h.n3, h.box.drewN m, h.dots.drewN m, h.rest.drewN m⟩

theorem drew (h : DSt w B D gp gr kad kn kcap W H n rc ds rs L) : DSt w.drew B D gp gr kad kn kcap W H n rc ds rs L := h.drewN 1

theorem setDot (h : DSt w B D gp gr kad kn kcap W H n rc ds rs L) (j : Nat) (v : Int) : DSt (w.setCell ⟨gp, j, none⟩ (.int .i64 v)) B D gp gr kad kn kcap W H n rc (ds.set j v) rs L :=
  ⟨h.hD, h.hp, h.hr, h.n1, h.n2, h.n3, h.box.other (by simp; exact fun e => h.n1 e.symm) _, h.dots.set j v, h.rest.other (by simp; exact h.n3) _⟩

theorem setRest (h : DSt w B D gp gr kad kn kcap W H n rc ds rs L) (j : Nat) (v : Int) : DSt (w.setCell ⟨gr, j, none⟩ (.int .i64 v)) B D gp gr kad kn kcap W H n rc ds (rs.set j v) L :=
  ⟨h.hD, h.hp, h.hr, h.n1, h.n2, h.n3, h.box.other (by simp; exact fun e => h.n2 e.symm) _, h.dots.other (by simp; exact fun e => h.n3 e.symm) _, h.rest.set j v⟩

theorem setLost (h : DSt w B D gp gr kad kn kcap W H n rc ds rs L) (v : Int) : DSt (w.setCell ⟨D, 5, none⟩ (.int .i64 v)) B D gp gr kad kn kcap W H n rc ds rs v :=
  ⟨h.hD, h.hp, h.hr, h.n1, h.n2, h.n3, h.box.set 5 _, h.dots.other (by simp; exact h.n1) _, h.rest.other (by simp; exact h.n2) _⟩

theorem c6 (h : DSt w B D gp gr kad kn kcap W H n rc ds rs L) : D < w.heap.size ∧ w.cell? ⟨D, 0, none⟩ = some (.slice kad kn kcap) ∧ w.cell? ⟨D, 1, none⟩ = some (.int .i64 W) ∧ w.cell? ⟨D, 2, none⟩ = some (.int .i64 H) ∧ w.cell? ⟨D, 3, none⟩ = some (.slice (some ⟨gp, 0, none⟩) n n) ∧ w.cell? ⟨D, 4, none⟩ = some (.slice (some ⟨gr, 0, none⟩) n rc) ∧ w.cell? ⟨D, 5, none⟩ = some (.int .i64 L) :=
  ⟨h.box.lt, by rw [h.box.cell]; rfl, by rw [h.box.cell]; rfl, by rw [h.box.cell]; rfl, by rw [h.box.cell]; rfl, by rw [h.box.cell]; rfl, by rw [h.box.cell]; rfl⟩

theorem trio (h : DSt w B D gp gr kad kn kcap W H n rc ds rs L) : ∀ i, Trio D gp gr i → B ≤ i := by
  have := h.hD; have := h.hp; have := h.hr
  rintro i (rfl | rfl | rfl) <;> assumption

theorem trioLt (h : DSt w B D gp gr kad kn kcap W H n rc ds rs L) : ∀ i, Trio D gp gr i → i < w.heap.size := by
  have := h.box.lt; have := h.dots.lt; have := h.rest.lt
  rintro i (rfl | rfl | rfl) <;> assumption
end DSt

end Go.Proofs.Ytepaklcobkdfdaa
