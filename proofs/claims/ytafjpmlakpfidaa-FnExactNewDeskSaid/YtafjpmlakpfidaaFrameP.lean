/-
  Opening a list of pictures that came in, or a list of numbers; what marks leave of other objects.
-/
import Derived.Test.YtafjpmlakpfidaaFrame
import Derived.Test.YtafjpmlakpfidaaT4
import Derived.Deep.Slices
import Derived.Deep.Fields
namespace Go.Proofs.Ytafjpmlakpfidaa
open Go.ChangeShapes Go.WideShapes Go.ChangeAt Go.RowKit Go.Joins Go.Deep
set_option linter.unusedVariables false
set_option linter.unusedSimpArgs false

theorem cellsIS : Try.prog.cellsOf 22 = 1 := by kernel_rfl

theorem one_intP {H : Type} {enc : TypeId × Value → H} {W : World} {fuel : Nat} {c : List Value} {y : DataW H × List MemPlace} (h : DataW.trod enc Try.prog W 0 (fun _ => true) true fuel 3 c = some y) : ∃ x, c = [.int .i64 x] := by
  obtain ⟨a, e0, _, _⟩ := DataW.trod_int Try.underlying3 h
  exact ⟨a, e0⟩

theorem pics_list {P : Nat → PV → Prop} (m : Nat) (h : ∀ i, i < m → ∃ p, P i p) : ∃ ps : List PV, ps.length = m ∧ ∀ i, i < m → P i (pv ps i) := by
  induction m with
  | zero => exact ⟨[], rfl, fun i hi => by omega⟩
  | succ m ih =>
    obtain ⟨ps, hl, hk⟩ := ih (fun i hi => h i (by omega))
    obtain ⟨p, hp⟩ := h m (by omega)
    refine ⟨ps ++ [p], by simp [hl], fun i hi => ?_⟩
    by_cases e : i = m
    · subst e
      rw [← hl, pv_snoc, hl]
      exact hp
    · rw [pv_snoc_lt (by omega)]
      exact hk i (by omega)

set_option maxRecDepth 100000 in
theorem open_lpicsV {H : Type} {enc : TypeId × Value → H} {W : World} {v : Value} {d : DataW H} {p : List MemPlace} {fuel : Nat}
    (hv : ∃ a0 len0 cap0, v = .slice a0 len0 cap0) (hf : DataW.trod enc Try.prog W 0 (fun _ => true) true fuel 36 v.cells.toList = some (d, p)) (hlt : ∀ x ∈ p, x.block < W.heap.size) :
    ∃ ad n cap ps, v = .slice ad n cap ∧ ps.length = n ∧ RdV W ad ps ∧ n ≤ 9223372036854775807 ∧ (∀ k, k < ps.length → (pv ps k).n ≤ 9223372036854775807) := by
  obtain ⟨a0, len0, cap0, rfl⟩ := hv
  rcases open_slice Try.underlying36 hf with ⟨hcs, hx⟩ | ⟨a, len, cap, m, nn, D, Pl, hcs, _, hl, hm, hmm, hx, hi⟩
  · simp [Value.cells] at hcs
    obtain ⟨rfl, rfl, rfl⟩ := hcs
    exact ⟨none, 0, 0, [], rfl, rfl, RdV.nil _ _, by omega, fun k hk => by simp at hk⟩
  · simp [Value.cells] at hcs
    obtain ⟨rfl, rfl, rfl⟩ := hcs
    simp only [if_true] at hmm
    unfold maxLen at hm
    rw [cellsLPic] at hi hx
    obtain ⟨b, off, spot⟩ := a
    simp only [Prod.mk.injEq] at hx
    rw [hx.2] at hlt
    have each : ∀ i, i < m → ∃ q : PV, W.cell? ((Addr.mk b off spot).add (i * 3)) = some (.int .i64 q.W) ∧ W.cell? ((Addr.mk b off spot).add (i * 3 + 1)) = some (.int .i64 q.H) ∧ W.cell? ((Addr.mk b off spot).add (i * 3 + 2)) = some (.slice q.a q.n q.c) ∧ q.ink.length = q.n ∧ Rd W q.a q.ink ∧ q.n ≤ 9223372036854775807 := by
      intro i him
      obtain ⟨cs', hc, ht'⟩ := hi i him
      obtain ⟨ys, n', hn', hy, hlen, hyl, hfl⟩ := DataW.trod_struct Try.underlying34 ht'
      obtain ⟨_, hcl, hat⟩ := World.cells?_some hc
      have g0 : DataW.trod enc Try.prog W 0 (fun _ => true) true n' 3 ((cs'.drop 0).take (Try.prog.cellsOf 3)) = ys[0]? := hfl 0 _ rfl
      have g1 : DataW.trod enc Try.prog W 0 (fun _ => true) true n' 3 ((cs'.drop 1).take (Try.prog.cellsOf 3)) = ys[1]? := hfl 1 _ rfl
      have g2 : DataW.trod enc Try.prog W 0 (fun _ => true) true n' 22 ((cs'.drop 2).take (Try.prog.cellsOf 22)) = ys[2]? := hfl 2 _ rfl
      rw [cellsInt] at g0 g1
      rw [cellsIS] at g2
      have hyl3 : ys.length = 3 := hyl
      rw [List.getElem?_eq_getElem (show 0 < ys.length by omega)] at g0
      rw [List.getElem?_eq_getElem (show 1 < ys.length by omega)] at g1
      rw [List.getElem?_eq_getElem (show 2 < ys.length by omega)] at g2
      obtain ⟨x0, h0⟩ := one_intP g0
      obtain ⟨x1, h1⟩ := one_intP g1
      have hpl : Pl i = ys.flatMap (·.2) := by
        have := congrArg Prod.snd hy
        simpa using this
      match cs', hcl with
      | [u0, u1, u2], _ =>
        simp at h0 h1
        subst h0 h1
        have g3 : DataW.trod enc Try.prog W 0 (fun _ => true) true n' 22 [u2] = some ys[2] := by simpa using g2
        obtain ⟨ad, n, cp, xs, rfl, e1, e2, e3, _⟩ := open_islice g3 (fun x hx2 => hlt x (List.mem_append_right _ (List.mem_flatMap.2 ⟨i, List.mem_range.2 him, by rw [hpl]; exact List.mem_flatMap.2 ⟨ys[2], List.getElem_mem _, hx2⟩⟩)))
        refine ⟨⟨x0, x1, ad, n, cp, xs⟩, ?_, ?_, ?_, e1, e2, e3⟩
        · have := hat 0 (by omega); rw [Go.Deep.add_add, Nat.add_zero] at this; simpa using this
        · have := hat 1 (by omega); rw [Go.Deep.add_add] at this; simpa using this
        · have := hat 2 (by omega); rw [Go.Deep.add_add] at this; simpa using this
    by_cases hm0 : len0 = 0
    · subst hm0
      exact ⟨some ⟨b, off, spot⟩, 0, cap0, [], rfl, rfl, RdV.nil _ _, by omega, fun k hk => by simp at hk⟩
    have hspot : spot = none := by
      obtain ⟨q, h0, _⟩ := each 0 (by omega)
      simpa [Addr.add] using World.cell?_spot h0
    subst hspot
    have hbl : b < W.heap.size := hlt (.cell b off) (List.mem_append_left _ (MemPlace.mem_row.2 ⟨0, by omega, by simp⟩))
    obtain ⟨ps, hkl, hks⟩ := pics_list (P := fun i q => W.cell? ⟨b, off + i * 3, none⟩ = some (.int .i64 q.W) ∧ W.cell? ⟨b, off + i * 3 + 1, none⟩ = some (.int .i64 q.H) ∧ W.cell? ⟨b, off + i * 3 + 2, none⟩ = some (.slice q.a q.n q.c) ∧ q.ink.length = q.n ∧ Rd W q.a q.ink ∧ q.n ≤ 9223372036854775807) len0 (fun i hin => by
      obtain ⟨q, h0, h1, h2, h3⟩ := each i (by omega)
      rw [Addr.add_lit] at h0 h1 h2
      exact ⟨q, h0, h1, h2, h3⟩)
    refine ⟨_, len0, cap0, ps, rfl, hkl, fun k hk => ?_, by omega, fun k hk => (hks k (by omega)).2.2.2.2.2⟩
    obtain ⟨h0, h1, h2, h3, h4, _⟩ := hks k (by omega)
    exact ⟨b, off, rfl, hbl, h0, h1, h2, h3, h4⟩

theorem open_lpics {H : Type} {enc : TypeId × Value → H} {W : World} {base : Nat} {v : Value} {d : DataW H} {p : List MemPlace}
    (hv : Value.okWide Try.prog W .any base 36 v) (h : DataW.Trod enc Try.prog W 0 (fun _ => true) true 36 v d p) (hlt : ∀ x ∈ p, x.block < W.heap.size) :
    ∃ ad n cap ps, v = .slice ad n cap ∧ ps.length = n ∧ RdV W ad ps ∧ n ≤ 9223372036854775807 ∧ (∀ k, k < ps.length → (pv ps k).n ≤ 9223372036854775807) := by
  obtain ⟨fuel, hf⟩ := h
  exact open_lpicsV (okWide_slice Try.underlying36 hv) hf hlt

set_option maxRecDepth 100000 in
theorem open_lintsP {H : Type} {enc : TypeId × Value → H} {W : World} {base : Nat} {v : Value} {d : DataW H} {p : List MemPlace}
    (hv : Value.okWide Try.prog W .any base 22 v) (h : DataW.Trod enc Try.prog W 0 (fun _ => true) true 22 v d p) (hlt : ∀ x ∈ p, x.block < W.heap.size) :
    ∃ ad n cap xs, v = .slice ad n cap ∧ xs.length = n ∧ Rd W ad xs ∧ n ≤ 9223372036854775807 ∧ (∀ x ∈ xs, InI x) := by
  obtain ⟨a0, len0, cap0, rfl⟩ := okWide_slice Try.underlying22 hv
  obtain ⟨fuel, hf⟩ := h
  obtain ⟨ad, n, cap, xs, h1, h2⟩ := open_islice (y := (d, p)) (v := .slice a0 len0 cap0) (by simpa [Value.cells] using hf) hlt
  exact ⟨ad, n, cap, xs, h1, h2⟩

theorem OwnV.below' {w w' : World} {B n cap : Nat} {ad : Option Addr} {L : List PV} (h : OwnV w B ad n cap L) (hb : Below w.heap.size w w') : OwnV w' B ad n cap L := h.below hb

theorem OwnV.grownS {w w' : World} {B n cap : Nat} {ad o : Option Addr} {L : List PV} (h : OwnV w B ad n cap L) (hb : w.grownBy w' (blockOf o)) (hs : ∀ b, blockOf o = some b → OwnV.blocks ad L b → False) : OwnV w' B ad n cap L :=
  (KeepT.ofGrown (S := fun i => blockOf o = some i) hb (fun b hb => hb)).ownV h (fun i hi hS => hs i hS hi)

theorem OwnA.keepS {w w' : World} {S : Nat → Prop} {B n cap : Nat} {ad : Option Addr} {xs : List Int} (h : OwnA w B ad n cap xs) (hk : KeepT S w w') (hs : ∀ b, S b → blockOf ad = some b → False) : OwnA w' B ad n cap xs := hk.ownA h (fun b hb hS => hs b hS hb)

theorem OwnV.keepS {w w' : World} {S : Nat → Prop} {B n cap : Nat} {ad : Option Addr} {L : List PV} (h : OwnV w B ad n cap L) (hk : KeepT S w w') (hs : ∀ b, S b → OwnV.blocks ad L b → False) : OwnV w' B ad n cap L := hk.ownV h (fun b hb hS => hs b hS hb)

theorem Blk.keepS {w w' : World} {S : Nat → Prop} {g T : Nat} {cs : Array Value} (h : Blk w g T cs) (hk : KeepT S w w') (hs : ∀ b, S b → b = g → False) : Blk w' g T cs := hk.blk h (fun hS => hs g hS rfl)

theorem below_keep {w0 w w' : World} {S : Nat → Prop} (h : Below w0.heap.size w0 w) (hk : KeepT S w w') (hs : ∀ i, S i → w0.heap.size ≤ i) : Below w0.heap.size w0 w' := h.trans (hk.below hs h.size)

end Go.Proofs.Ytafjpmlakpfidaa
