/-
  A map of cells to bools that the call has made: what it answers at each place.
-/
import Derived.Test.YtgepjfdnlnemjaaCore
import Derived.Maps.Own
import Derived.DeepKeys4
import Derived.Maps.Views
namespace Go.Proofs.Ytgepjfdnlnemjaa
open Go.ChangeMaps Go.MapKept
open Go.Maps (Keyed)
set_option linter.unusedVariables false
set_option linter.unusedSimpArgs false

theorem cell_laid : laidOutB Try.prog = true := by kernel_rfl

theorem cell_row : (81 : TypeId) < Try.prog.types.size := of_decide_eq_true (by kernel_rfl)

theorem cell_wide : (match Try.prog.underlying 81 with | some (.array _ _) | some (.struct _) => true | _ => false) = true := by rw [Try.underlying81]

set_option maxRecDepth 100000 in
theorem cell_law : Keyed Try.prog 81 := Keyed.of_law (deep_law_laid cell_laid (m := 2) (by omega) cell_row (by kernel_rfl) cell_wide)

theorem cell_cells : Try.prog.cellsOf 81 = 2 := by kernel_rfl

theorem cell_key : Try.prog.keyType 81 = true := by kernel_rfl

/-- The cell as a value, and as a key's literal. -/
def cellV (x y : Int) : Value := .agg #[.int .i64 x, .int .i64 y]
def cellK (x y : Int) : Lit := .string (keyBytes [.int .i64 x, .int .i64 y])
def In64 (x : Int) : Prop := (Lit.int .i64 x).wf = true

theorem in64_of {x : Int} (h1 : -9223372036854775808 ≤ x) (h2 : x ≤ 9223372036854775807) : In64 x := by
  have e1 : IntKind.i64.min = -9223372036854775808 := by decide
  have e2 : IntKind.i64.max = 9223372036854775807 := by decide
  show (decide (IntKind.i64.min ≤ x) && decide (x ≤ IntKind.i64.max)) = true
  rw [e1, e2, Bool.and_eq_true]
  exact ⟨decide_eq_true h1, decide_eq_true h2⟩

theorem cell_int : Try.prog.cellsOf 3 = 1 := by kernel_rfl

theorem cell_lit {x : Int} (hx : In64 x) (d : Nat) : Try.prog.keyLits (d + 1) 3 [.int .i64 x] = some [.int .i64 x] := by
  unfold Program.keyLits
  rw [Try.underlying3]
  have hx' : (Lit.int .i64 x).wf = true := hx
  simp [hx']

theorem cell_keyOf {x y : Int} (hx : In64 x) (hy : In64 y) : keyOf Try.prog 81 (cellV x y) = some (cellK x y) := by
  have h1 : (Value.agg #[.int .i64 x, .int .i64 y]).formed Try.prog 81 = true := by simp [Value.formed, Try.underlying81, cell_cells]
  have h2 : ∀ d, Try.prog.keyLits (d + 2) 81 [.int .i64 x, .int .i64 y] = some [.int .i64 x, .int .i64 y] := by
    intro d
    unfold Program.keyLits
    rw [Try.underlying81]
    simp [cell_cells, cell_int, cell_lit hx, cell_lit hy]
  have hs : ∃ n, Try.prog.types.size + 1 = n + 2 := ⟨Try.prog.types.size - 1, by have h : (81 : Nat) < Try.prog.types.size := cell_row; omega⟩
  obtain ⟨n, hn⟩ := hs
  unfold keyOf cellV cellK
  rw [Try.underlying81, hn]
  simp [cell_key, h1, Value.cells, h2]

theorem cellK_inj {x y x' y' : Int} (hx : In64 x) (hy : In64 y) (hx' : In64 x') (hy' : In64 y') (h : cellK x y = cellK x' y') : x = x' ∧ y = y' := by
  have h1 := cell_keyOf hx hy
  rw [h] at h1
  have h2 := cell_law.inj h1 (cell_keyOf hx' hy')
  unfold cellV at h2
  simpa using h2

theorem cell_zero (w : World) : (zeroValue 4).run Try.prog w = .ok (.bool false) w := by kernel_rfl

theorem plainElem_bool_inv {H : Type} {P : Program} {e : TypeId} (he : P.underlying e = some .bool) {v : Value} {b : Bool} {ps : List MemPlace} (h : plainElem (H := H) P e v = some (.lit (.bool b), ps)) : v = .bool b := by
  unfold plainElem at h
  rw [he] at h
  cases v <;> simp at h
  rw [h.1]

/-- Block b is a map of at most n cells that answers S. -/
def VM (w : World) (b n : Nat) (S : Int → Int → Bool) : Prop :=
  ∃ D : DataW Unit, Maps.IsMap D ∧ w.ownsMap Try.prog 81 (plainElem Try.prog 4) b n D ∧ ∀ x y, In64 x → In64 y → D.atKey (cellK x y) (.lit (.bool false)) = .lit (.bool (S x y))

theorem vm_made (w : World) : VM (w.alloc (.map #[] 0)) w.heap.size 0 (fun _ _ => false) :=
  ⟨.map [], Maps.isMap_empty, World.ownsMap_made w _ _ _, fun x y _ _ => rfl⟩

theorem VM.kept {w w' : World} {b n : Nat} {S : Int → Int → Bool} {row : Option Nat} (h : VM w b n S) (hg : w.grownBy w' row) (hne : some b ≠ row) : VM w' b n S := by
  obtain ⟨D, h1, h2, h3⟩ := h
  exact ⟨D, h1, h2.kept hg hne, h3⟩

theorem VM.alloc {w : World} {b n : Nat} {S : Int → Int → Bool} (h : VM w b n S) (o : Obj) : VM (w.alloc o) b n S := h.kept (World.grownBy_alloc w o none) (by simp)

theorem VM.drew {w : World} {b n : Nat} {S : Int → Int → Bool} (h : VM w b n S) : VM w.drew b n S := h

theorem VM.lt {w : World} {b n : Nat} {S : Int → Int → Bool} (h : VM w b n S) : b < w.heap.size := by
  obtain ⟨D, h1, h2, h3⟩ := h
  exact h2.lt

theorem VM.look {w : World} {b n : Nat} {S : Int → Int → Bool} (h : VM w b n S) {x y : Int} (hx : In64 x) (hy : In64 y) :
    (Instr.lookup 79 (.map (some b)) (cellV x y) false).run Try.prog w = .ok (.bool (S x y)) w := by
  obtain ⟨D, h1, h2, h3⟩ := h
  obtain ⟨v, ps, hrun, hv⟩ := h2.lookup cell_law Try.underlying79 (cell_zero w) (plainElem_bool Try.underlying4 false) (cell_keyOf hx hy)
  rw [h3 x y hx hy] at hv
  rw [plainElem_bool_inv Try.underlying4 hv] at hrun
  exact hrun

def putS (S : Int → Int → Bool) (x y : Int) : Int → Int → Bool := fun u v => (decide (u = x) && decide (v = y)) || S u v

theorem wp_vmPut (w : World) {ops : Array Oper} {rest : List Oper} {o : Oper} {a : Act} {Q : Exit → Act → World → Prop}
    (hg : o.guard = none) (m x v : Operand) (hop : o.op = Op.mapUpdate 79 m x v)
    (b n : Nat) (S : Int → Int → Bool) (X Y : Int) (hm : a.eval m = .map (some b)) (hown : VM w b n S) (hn : n < maxLen) (hx : a.eval x = cellV X Y) (hv : a.eval v = .bool true) (hX : In64 X) (hY : In64 Y)
    (hK : ∀ w', VM w' b (n + 1) (putS S X Y) → w.grownBy w' (some b) → wpList Try.prog ops Q rest (a.put o.dst undef) w') :
    wpList Try.prog ops Q (o :: rest) a w := by
  obtain ⟨D, h1, h2, h3⟩ := hown
  refine wpList_mapUpdate_own w hg m x v _ hop _ _ cell_law Try.underlying79 _ b n D hm h2 hn _ _ _ hx hv (cell_keyOf hX hY) _ _ (plainElem_bool Try.underlying4 true) (fun w' r1 r2 => hK w' ⟨_, h1.put _ _, r1, ?_⟩ r2)
  intro u v hu hv
  by_cases e : u = X ∧ v = Y
  · obtain ⟨rfl, rfl⟩ := e
    rw [Maps.atKey_put_same h1 (cell_law.key (cell_keyOf hX hY))]
    simp [putS]
  · have hne : cellK u v ≠ cellK X Y := fun hh => e (cellK_inj hu hv hX hY hh)
    rw [Maps.atKey_put_other hne, h3 u v hu hv]
    have : (decide (u = X) && decide (v = Y)) = false := by
      simp only [Bool.and_eq_false_iff, decide_eq_false_iff_not]
      by_cases e1 : u = X
      · exact Or.inr (fun e2 => e ⟨e1, e2⟩)
      · exact Or.inl e1
    simp [putS, this]

theorem wp_makeMap (w : World) {ops : Array Oper} {rest : List Oper} {o : Oper} {a : Act} {Q : Exit → Act → World → Prop} {t : TypeId}
    (hg : o.guard = none) (hop : o.op = Op.makeMap t none)
    (hK : wpList Try.prog ops Q rest (a.put o.dst (.map (some w.heap.size))) (w.alloc (.map #[] 0))) : wpList Try.prog ops Q (o :: rest) a w := by
  refine wpList_plain hg fun K hK' => ?_
  have hr : (Instr.makeMap t none).run Try.prog w = .ok (.map (some w.heap.size)) (w.alloc (.map #[] 0)) := rfl
  unfold Oper.wp
  simp [execOp, hop, hr, Result.andThen]
  exact hK' _ _ hK

theorem VM.same {w w' : World} {b n : Nat} {S : Int → Int → Bool} (h : VM w b n S) (hb : w'.heap[b]? = w.heap[b]?) : VM w' b n S := by
  obtain ⟨D, h1, ⟨es, clock, h2, h3⟩, h4⟩ := h
  exact ⟨D, h1, ⟨es, clock, hb.trans h2, h3⟩, h4⟩

end Go.Proofs.Ytgepjfdnlnemjaa
