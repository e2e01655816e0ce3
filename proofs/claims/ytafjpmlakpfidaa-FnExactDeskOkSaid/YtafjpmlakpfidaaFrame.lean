/-
  The frame round a law's walk: opening the arguments, and the row's end where the walk leaves the old memory as it was.
-/
import Derived.Test.YtafjpmlakpfidaaRows
import Derived.Test.YtafjpmlakpfidaaLib
import Derived.ProofKit
import Derived.OpenShut
namespace Go.Proofs.Ytafjpmlakpfidaa
open Go.ChangeShapes Go.WideShapes Go.ChangeAt Go.RowKit Go.Joins Go.Deep
set_option linter.unusedVariables false
set_option linter.unusedSimpArgs false

theorem own : ownKnob Try.prog.godebug = none := by kernel_rfl

theorem laidOut : laidOutB Try.prog = true := by kernel_rfl

theorem cellsInt : Try.prog.cellsOf 3 = 1 := by kernel_rfl

theorem args_stay {H : Type} {enc : TypeId × Value → H} {P : Program} (hl : laidOutB P = true) {W W' : World} (hb : Below W.heap.size W W') : ∀ (ts : List TypeId) (vs : List Value) (ds : List (DataW H)) (ps : List MemPlace),
    (∀ t ∈ ts, P.readableRec t = true ∧ t < P.types.size) → DataW.TrodAll enc P W 0 (fun _ => true) true ts vs ds ps → (∀ x ∈ ps, x.block < W.heap.size) →
    DataW.TrodAll enc P W' 0 (fun b => decide (b < W.heap.size)) true ts vs ds ps := by
  intro ts
  induction ts with
  | nil =>
    intro vs ds ps _ h _
    obtain ⟨rfl, rfl, rfl⟩ := trodAll_nil h
    rfl
  | cons t ts ih =>
    intro vs ds ps ht h hlt
    obtain ⟨v, vs', d, ds', p, q, rfl, rfl, rfl, h0, h1⟩ := trodAll_cons h
    exact ⟨p, q, Below.trod hl (ht t (by simp)).1 (ht t (by simp)).2 h0 hb (fun x hx => hlt x (List.mem_append_left _ hx)),
      ih vs' ds' q (fun u hu => ht u (by simp [hu])) h1 (fun x hx => hlt x (List.mem_append_right _ hx)), rfl⟩

theorem readable_of {P : Program} {ts : List TypeId} (h : (ts.all fun t => P.readableRec t && decide (t < P.types.size)) = true) : ∀ t ∈ ts, P.readableRec t = true ∧ t < P.types.size := by
  intro t ht
  have := List.all_eq_true.1 h t ht
  simpa using this

theorem law_post {H : Type} {enc : TypeId × Value → H} {fn : Func} {s : ChangeSpec} {W W' : World} {args : Array Value} {ds gs : List (DataW H)} {before : List MemPlace}
    (hv : s.vars = []) (hres : fn.resultTypes = #[4]) (hW : DataW.Whole enc Try.prog fn.params.toList s.vars false W args.toList ds gs before)
    (hr : (fn.params.toList.all fun t => Try.prog.readableRec t && decide (t < Try.prog.types.size)) = true)
    (hs : (s.fn H (ds ++ [])) = { results := [.lit (.bool true)], args := ds }) (hb : Below W.heap.size W W') :
    s.post enc Try.prog fn false true false false W args (.bool true) W' := by
  have hlt := hW.lt
  have hW' := hW
  obtain ⟨p, q, hA, hV, rfl, _, _⟩ := hW
  rw [hv] at hV
  obtain ⟨rfl, rfl⟩ := trodVars_none hV
  simp only [List.append_nil] at hlt
  refine ⟨_, _, _, [], p, [], hW', ?_, ?_, ?_, hb.frame _, fun h => by cases h⟩
  · rw [hs, hres]
    exact trodAll_mk1 (shut_bool Try.underlying4 true)
  · rw [hs]
    exact args_stay laidOut hb _ _ _ _ (readable_of hr) hA hlt
  · rw [hs, hv]
    rfl

def InI (x : Int) : Prop := -9223372036854775808 ≤ x ∧ x ≤ 9223372036854775807

theorem inI_of_wf {x : Int} (h : (Lit.int .i64 x).wf = true) : InI x := by
  have h1 : IntKind.i64.min = -9223372036854775808 := rfl
  have h2 : IntKind.i64.max = 9223372036854775807 := rfl
  simp only [Lit.wf, Bool.and_eq_true, decide_eq_true_eq] at h
  unfold InI
  omega

/-- A slice of ints that came in, in a field. -/
theorem open_islice {H : Type} {enc : TypeId × Value → H} {W : World} {fuel : Nat} {v : Value} {y : DataW H × List MemPlace}
    (h : DataW.trod enc Try.prog W 0 (fun _ => true) true fuel 22 [v] = some y) (hlt : ∀ x ∈ y.2, x.block < W.heap.size) :
    ∃ ad n cap xs, v = .slice ad n cap ∧ xs.length = n ∧ Rd W ad xs ∧ n ≤ 9223372036854775807 ∧ (∀ x ∈ xs, InI x) := by
  rcases open_ints Try.underlying22 Try.underlying3 cellsInt h with ⟨hcs, hx⟩ | ⟨a, len, cap, zs, hcs, _, hl, hm, hz, hx, hcell, hwz⟩
  · simp only [List.cons.injEq, and_true] at hcs
    subst hcs
    exact ⟨none, 0, 0, [], rfl, rfl, Rd.nil _ _, by omega, by simp⟩
  · simp only [List.cons.injEq, and_true] at hcs
    subst hcs
    simp only [if_true] at hz
    unfold maxLen at hm
    refine ⟨some a, len, cap, zs.take len, rfl, by simp; omega, ?_, by omega, fun x hx => inI_of_wf (hwz x (List.mem_of_mem_take hx))⟩
    intro k hk
    have hk' : k < len := by simp at hk; omega
    have hc := hcell k (by omega)
    obtain ⟨b, off, spot⟩ := a
    have hspot : spot = none := by
      have h0 := hcell 0 (by omega)
      simpa [Addr.add] using World.cell?_spot h0
    subst hspot
    refine ⟨b, off, rfl, ?_, ?_⟩
    · subst hx
      exact hlt (.cell b off) (MemPlace.mem_row.2 ⟨0, by omega, by simp⟩)
    · rw [Addr.add_lit] at hc
      rw [hc]
      congr 2
      simp [List.getD, List.getElem?_take, hk']

theorem cellsLPic : Try.prog.cellsOf 34 = 3 := by kernel_rfl

theorem one_of_trodI {H : Type} {enc : TypeId × Value → H} {W : World} {fuel : Nat} {v : Value} {y : DataW H × List MemPlace}
    (h : DataW.trod enc Try.prog W 0 (fun _ => true) true fuel 3 [v] = some y) : ∃ x, v = .int .i64 x ∧ InI x := by
  obtain ⟨a, e0, _, wa⟩ := DataW.trod_int Try.underlying3 h
  simp only [List.cons.injEq, and_true] at e0
  exact ⟨a, e0, inI_of_wf wa⟩

set_option maxRecDepth 100000 in
/-- A picture (of the laws' own type) that came in. -/
theorem open_lpic {H : Type} {enc : TypeId × Value → H} {W : World} {base : Nat} {v : Value} {d : DataW H} {p : List MemPlace}
    (hv : Value.okWide Try.prog W .any base 34 v) (h : DataW.Trod enc Try.prog W 0 (fun _ => true) true 34 v d p) (hlt : ∀ x ∈ p, x.block < W.heap.size) :
    ∃ Wd Ht ad n cap xs, v = .agg #[.int .i64 Wd, .int .i64 Ht, .slice ad n cap] ∧ xs.length = n ∧ Rd W ad xs ∧ n ≤ 9223372036854775807 ∧ (∀ x ∈ xs, InI x) ∧ InI Wd ∧ InI Ht := by
  obtain ⟨v0, v1, v2, y0, y1, y2, m, rfl, rfl, rfl, h0, h1, h2⟩ := open_agg3 Try.underlying34 (by kernel_rfl) cellsLPic hv h
  obtain ⟨a, rfl, wa⟩ := one_of_trodI h0
  obtain ⟨b, rfl, wb⟩ := one_of_trodI h1
  obtain ⟨ad, n, cap, xs, rfl, hn, hr, hl, hx⟩ := open_islice h2 (fun x hx => hlt x (by simp [hx]))
  exact ⟨a, b, ad, n, cap, xs, rfl, hn, hr, hl, hx, wa, wb⟩

theorem cellsLMat : Try.prog.cellsOf 35 = 3 := by kernel_rfl

set_option maxRecDepth 100000 in
/-- A matrix (of the laws' own type) that came in. -/
theorem open_lmat {H : Type} {enc : TypeId × Value → H} {W : World} {base : Nat} {v : Value} {d : DataW H} {p : List MemPlace}
    (hv : Value.okWide Try.prog W .any base 35 v) (h : DataW.Trod enc Try.prog W 0 (fun _ => true) true 35 v d p) (hlt : ∀ x ∈ p, x.block < W.heap.size) :
    ∃ Wd Ht ad n cap xs, v = .agg #[.int .i64 Wd, .int .i64 Ht, .slice ad n cap] ∧ xs.length = n ∧ Rd W ad xs ∧ n ≤ 9223372036854775807 ∧ (∀ x ∈ xs, InI x) ∧ InI Wd ∧ InI Ht := by
  obtain ⟨v0, v1, v2, y0, y1, y2, m, rfl, rfl, rfl, h0, h1, h2⟩ := open_agg3 Try.underlying35 (by kernel_rfl) cellsLMat hv h
  obtain ⟨a, rfl, wa⟩ := one_of_trodI h0
  obtain ⟨b, rfl, wb⟩ := one_of_trodI h1
  obtain ⟨ad, n, cap, xs, rfl, hn, hr, hl, hx⟩ := open_islice h2 (fun x hx => hlt x (by simp [hx]))
  exact ⟨a, b, ad, n, cap, xs, rfl, hn, hr, hl, hx, wa, wb⟩

end Go.Proofs.Ytafjpmlakpfidaa
