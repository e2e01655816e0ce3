/-
  Contracts of chapter 7: the sequence of numbers in an order that a function value tells; comparisons; the first of a sequence.
-/
import Derived.Test.YtnhjdmdnicnmmaaS5
import Derived.Test.YtnhjdmdnicnmmaaM35
import Derived.Test.YtnhjdmdnicnmmaaM40
import Derived.Test.YtnhjdmdnicnmmaaN0
import Derived.Shelf.Abstract
import Derived.Deep.RegionHeld3
namespace Go.Proofs.Ytnhjdmdnicnmmaa
open Go.RowKit
set_option linter.unusedVariables false
set_option linter.unusedSimpArgs false

theorem enters6 (f : Nat) (fn : Func) (c : Code) (hf : Try.prog.funcs[f]? = some fn) (hname : (fn.name == "runtime.NumGoroutine") = false) (hb : fn.body = some c) : ∀ args w, (callFunc f args).run Try.prog w = .ok (.enter f args) w := enters_of hf hname hb

theorem isNaN6 (x : Int) (w : World) :
    Calls Try.prog 61 #[.int .i64 x] w fun e w' => e = .returned (.bool false) ∧ w = w' := by
  have h : (x != x) = false := by simp
  go_enter Try.func61, Try.ntmps61
  go_wp2_with fail
  go_ret
  exact ⟨rfl, rfl⟩

set_option maxHeartbeats 800000 in
theorem cmp6 (x y : Int) (w : World) :
    Calls Try.prog 56 #[.int .i64 x, .int .i64 y] w fun e w' => ∃ c : Int, e = .returned (.int .i64 c) ∧ (c < 0 ↔ x < y) ∧ w = w' := by
  go_enter Try.func56, Try.ntmps56
  go_wp2_with fail
  refine (isNaN6 _ _).mono ?_
  rintro e w1 ⟨rfl, rfl⟩
  go_wp2_with fail
  refine (isNaN6 _ _).mono ?_
  rintro e w1 ⟨rfl, rfl⟩
  by_cases h1 : x < y
  · go_wp2_with fail
    go_ret
    exact ⟨-1, rfl, by constructor <;> intro <;> omega, rfl⟩
  · by_cases h2 : y < x
    · go_wp2_with fail
      go_ret
      exact ⟨1, rfl, by constructor <;> intro <;> omega, rfl⟩
    · go_wp2_with fail
      go_ret
      exact ⟨0, rfl, by constructor <;> intro <;> omega, rfl⟩

set_option maxRecDepth 100000 in
set_option maxHeartbeats 1600000 in
theorem seqC6 (h : Nat) (lb : Array Value) (bo bs bi n cp i k : Nat) (xs : Nat → Int) (K : Prop) (w : World) (eh : ∀ args w, (callFunc h args).run Try.prog w = .ok (.enter h args) w)
    (co : w.cell? ⟨bo, 0, none⟩ = some (.func (.func h) #[] lb)) (ck : w.cell? ⟨bs, 0, none⟩ = some (.slice (some ⟨bi, 0, none⟩) n cp)) (ci : (∀ k, k < n → w.cell? ⟨bi, k, none⟩ = some (.int .i64 (xs k)))) (zo : bo < w.heap.size) (zs : bs < w.heap.size) (zi : bi < w.heap.size) (hi : i < n) (hk : k < n)
    (hord : ∀ v, Below w.heap.size w v → Calls Try.prog h (#[.int .i64 (xs i), .int .i64 (xs k)] ++ lb) v fun e v' => ∃ c : Int, e = .returned (.int .i64 c) ∧ (c < 0 ↔ K) ∧ Below v.heap.size v v') :
    Calls Try.prog 63 #[.int .i64 i, .int .i64 k, .pointer (some ⟨bo, 0, none⟩), .pointer (some ⟨bs, 0, none⟩)] w fun e w' => ∃ c : Int, e = .returned (.int .i64 c) ∧ (c < 0 ↔ K) ∧ Below w.heap.size w w' := by
  have x0 := ci i hi
  have x1 := ci k hk
  obtain ⟨XSI, hxsi⟩ : ∃ zz, zz = xs i := ⟨_, rfl⟩
  obtain ⟨XSK, hxsk⟩ : ∃ zz, zz = xs k := ⟨_, rfl⟩
  rw [← hxsi] at x0
  rw [← hxsk] at x1
  try rw [← hxsi] at hord
  try rw [← hxsk] at hord
  have MK : Hid (∀ v, BelowL w v → v.cell? ⟨bo, 0, none⟩ = some (.func (.func h) #[] lb) ∧ v.cell? ⟨bs, 0, none⟩ = some (.slice (some ⟨bi, 0, none⟩) n cp) ∧ v.cell? ⟨bi, i, none⟩ = some (.int .i64 XSI) ∧ v.cell? ⟨bi, k, none⟩ = some (.int .i64 XSK) ∧ BelowL w v) := Lib.hid (fun v hh => ⟨(hh.out.cell zo).trans co, (hh.out.cell zs).trans ck, (hh.out.cell zi).trans x0, (hh.out.cell zi).trans x1, hh⟩)
  have CC : Hid (∀ v, BelowL w v → Calls Try.prog h (#[.int .i64 XSI, .int .i64 XSK] ++ lb) v fun e v' => ∃ c : Int, e = .returned (.int .i64 c) ∧ (c < 0 ↔ K) ∧ Below v.heap.size v v') := Lib.hid (fun v hv => hord v hv.out)
  have pi : (i : Int) < (n : Int) := by omega
  have pk : (k : Int) < (n : Int) := by omega
  clear hord ci hxsi hxsk
  go_enter Try.func63, Try.ntmps63
  go_wp2_with fail
  go_region_held3 (fun v => v.cell? ⟨bo, 0, none⟩ = some (.func (.func h) #[] lb) ∧ v.cell? ⟨bs, 0, none⟩ = some (.slice (some ⟨bi, 0, none⟩) n cp) ∧ v.cell? ⟨bi, i, none⟩ = some (.int .i64 XSI) ∧ v.cell? ⟨bi, k, none⟩ = some (.int .i64 XSK) ∧ BelowL w v)
    (first | exact MK.out _ hb1 | exact MK.out _ (BelowL.start _))
    (first
      | (go_at_fn h; ((with_reducible refine (CC.out _ (limb5 (by assumption))).mono ?_); rintro e v1 ⟨cc, rfl, hcc, hq1⟩; have hb1 := BelowL.call (limb5 (by assumption)) hq1)))
  have HC := Lib.hid hcc
  have HBF := Lib.hid hb1
  clear hcc hb1 MK CC
  go_wp2_with fail
  go_ret
  exact ⟨cc, rfl, HC.out, HBF.out.out⟩

set_option maxRecDepth 100000 in
set_option maxHeartbeats 1600000 in
theorem seq6 (h : Nat) (lb : Array Value) (bi n cp : Nat) (xs : Nat → Int) (key : Int → Int) (w : World) (eh : ∀ args w, (callFunc h args).run Try.prog w = .ok (.enter h args) w) (hn : n ≤ 100000) (hn0 : 0 < n) (ci : (∀ k, k < n → w.cell? ⟨bi, k, none⟩ = some (.int .i64 (xs k)))) (zi : bi < w.heap.size)
    (hord : ∀ v, Below w.heap.size w v → ∀ i k, i < n → k < n → Calls Try.prog h (#[.int .i64 (xs i), .int .i64 (xs k)] ++ lb) v fun e v' => ∃ c : Int, e = .returned (.int .i64 c) ∧ (c < 0 ↔ key i < key k) ∧ Below v.heap.size v v') :
    Calls Try.prog 57 #[.slice (some ⟨bi, 0, none⟩) n cp, .func (.func h) #[] lb] w fun e w' => ∃ (f : Nat → Int) (blk : Nat), e = .returned (.slice (some ⟨blk, 0, none⟩) n n) ∧ w.heap.size ≤ blk ∧ Own w' blk n n (gen n f) ∧ Good key f 0 n ∧ Below w.heap.size w w' := by
  have CI : Aside _ := ci
  have OR : Aside _ := hord
  clear ci hord
  go_enter Try.func57, Try.ntmps57
  go_wp2_with (at_make; refine wp_make _ rfl _ _ rfl .i64 .i64 n n n rfl rfl rfl rfl (by omega) ?_; intro M hM)
  have HB0 := Lib.hid (bAlloc (bAlloc (Below.refl w.heap.size w) (.cells #[.slice (some ⟨bi, 0, none⟩) n cp] 23)) (.cells #[.func (.func h) #[] lb] 54))
  obtain ⟨wo, hwo⟩ : ∃ wo : World, wo = (w.alloc (.cells #[.slice (some ⟨bi, 0, none⟩) n cp] 23)).alloc (.cells #[.func (.func h) #[] lb] 54) := ⟨_, rfl⟩
  have KS : Hid (Blk wo w.heap.size 23 #[.slice (some ⟨bi, 0, none⟩) n cp]) := Lib.hid (by rw [hwo]; exact (Blk.new w _ _).alloc _)
  have KO : Hid (Blk wo (w.heap.size + 1) 54 #[.func (.func h) #[] lb]) := Lib.hid (by rw [hwo]; exact Blk.new' _ _ (by simp))
  have zw : wo.heap.size = w.heap.size + 1 + 1 := by rw [hwo]; simp
  try rw [← hwo] at hM
  rw [← hwo] at HB0 ⊢
  clear hwo
  have HM : Hid (Own (wo.alloc (.cells M 3)) (w.heap.size + 1 + 1) n n (List.replicate n 0)) := Lib.hid (by have h := hM.own wo; rw [zw] at h; exact h)
  have HMB := Lib.hid (bAlloc (Below.refl wo.heap.size wo) (.cells M 3))
  clear hM
  have ZW := Lib.hid zw
  clear zw
  go_wp2_with fail
  go_loopw [12] (fun i wr => ∃ k : Nat, k ≤ n ∧ i = .int .i64 k ∧ Hid (Own wr (w.heap.size + 1 + 1) n n (filled (gen n (fun k => (k : Int))) (List.replicate n 0) k)) ∧ Hid (Below wo.heap.size wo wr)) (fun i _ => n - (intOf i).toNat)
  case atStart => exact ⟨0, Nat.zero_le _, rfl, Lib.hid (by rw [filled_zero]; exact HM.out), HMB⟩
  case round =>
    clear HM HMB
    obtain ⟨k, hk, rfl, ho, hg⟩ := hrel
    by_cases hlt : k < n
    · have h2 : wr.cell? ⟨w.heap.size + 1 + 1, k, none⟩ = some (.int .i64 ((filled (gen n (fun k => (k : Int))) (List.replicate n 0) k).getD k 0)) := ho.out.cell hlt
      have h3 : wr.frozen? ⟨w.heap.size + 1 + 1, k, none⟩ = false := ho.out.frozen k
      have hs := ho.out.set k (k : Int)
      rw [filled_succ (gen n (fun k => (k : Int))) _ k _ (by rw [gen_len]; exact hlt) (by simp; omega) (gen_get _ _ _ hlt)] at hs
      have HS := Lib.hid hs
      clear hs ho
      go_wp2_with fail
      go_roundw
      case rel => exact ⟨k + 1, by omega, by go_num, HS, Lib.hid (hg.out.setCell (by have := ZW.out; show wo.heap.size ≤ w.heap.size + 1 + 1; omega) _)⟩
      case measure => simp [intOf]; omega
    · obtain rfl : k = n := by omega
      have HR : Hid (Own wr (w.heap.size + 1 + 1) k k (gen k (fun k => (k : Int)))) := Lib.hid (by have h := ho.out; have e := filled_all (gen k (fun k => (k : Int))) (List.replicate k 0) (by simp [gen_len]); rw [gen_len] at e; rwa [e] at h)
      have HW := Lib.hid (HB0.out.trans (hg.out.mono HB0.out.size))
      have KS2 := Lib.hid (KS.out.below hg.out KS.out.lt)
      have KO2 := Lib.hid (KO.out.below hg.out KO.out.lt)
      clear ho hg
      have CM : Hid (CmpN 63 #[.pointer (some ⟨w.heap.size + 1, 0, none⟩), .pointer (some ⟨w.heap.size, 0, none⟩)] key (w.heap.size + 1 + 1) k wr) := Lib.hid (by
        intro W hW x y x0 x1 y0 y1
        obtain ⟨i, rfl⟩ : ∃ i : Nat, x = i := ⟨x.toNat, by omega⟩
        obtain ⟨j, rfl⟩ : ∃ j : Nat, y = j := ⟨y.toNat, by omega⟩
        have zw := ZW.out
        have zr := HR.out.lt
        have o1 := KO2.out.grown hW (by intro e; have := Option.some.inj e; omega)
        have s1 := KS2.out.grown hW (by intro e; have := Option.some.inj e; omega)
        have wb : Below w.heap.size w W := HW.out.grown hW (by omega) (by intro k hk; cases hk; omega)
        have hh := seqC6 h lb (w.heap.size + 1) w.heap.size bi k cp i j xs (key i < key j) W eh (by rw [o1.cell]; rfl) (by rw [s1.cell]; rfl) (fun t ht => (wb.cell (p := ⟨bi, t, none⟩) zi).trans (CI.out t ht)) o1.lt s1.lt (Nat.lt_of_lt_of_le zi wb.size) (by omega) (by omega) (fun v hv => OR.out v (wb.trans (hv.mono wb.size)) i j (by omega) (by omega))
        exact hh)
      have EG : Hid (∀ args w, (callFunc 63 args).run Try.prog w = .ok (.enter 63 args) w) := Lib.hid (enters6 _ _ _ Try.func63 (by kernel_rfl) rfl)
      go_wp2_with fail
      refine (sortStable5 63 _ key (w.heap.size + 1 + 1) k _ EG.out CM.out HR.out hn hn0).mono ?_
      rintro ex w2 ⟨f, rfl, ho, hg, hi⟩
      have HR2 := Lib.hid ho
      have HI2 := Lib.hid hi
      have HW2 := Lib.hid (HW.out.grown hg (by have := HR.out.lt; have := ZW.out; omega) (by intro k hk; cases hk; have := ZW.out; omega))
      clear ho hg hi
      go_wp2_with fail
      go_ret
      exact ⟨f, _, rfl, by have := ZW.out; omega, HR2.out, HI2.out, HW2.out⟩

/-- The places with this amount among the first k. -/
def placesTo (xs : List Int) (v : Int) (k : Nat) : List Int := ((List.range k).filter (fun i => decide (xs.getD i 0 = v))).map (fun (i : Nat) => (i : Int))

theorem places_zero (xs : List Int) (v : Int) : placesTo xs v 0 = [] := rfl

theorem places_yes {xs : List Int} {v : Int} {k : Nat} (h : xs.getD k 0 = v) : placesTo xs v (k + 1) = placesTo xs v k ++ [(k : Int)] := by
  unfold placesTo
  rw [List.range_succ, List.filter_append]
  simp [List.getD] at h ⊢
  simp [h]

theorem places_no {xs : List Int} {v : Int} {k : Nat} (h : ¬ xs.getD k 0 = v) : placesTo xs v (k + 1) = placesTo xs v k := by
  unfold placesTo
  rw [List.range_succ, List.filter_append]
  simp [List.getD] at h ⊢
  simp [h]

theorem places_len (xs : List Int) (v : Int) (k : Nat) : (placesTo xs v k).length ≤ k := by
  unfold placesTo
  have := List.length_filter_le (fun i => decide (xs.getD i 0 = v)) (List.range k)
  simpa using this

theorem places_mem {xs : List Int} {v : Int} {k : Nat} {x : Int} : x ∈ placesTo xs v k ↔ ∃ i : Nat, x = i ∧ i < k ∧ xs.getD i 0 = v := by
  unfold placesTo
  simp only [List.mem_map, List.mem_filter, List.mem_range, decide_eq_true_eq]
  constructor
  · rintro ⟨i, ⟨h1, h2⟩, rfl⟩; exact ⟨i, rfl, h1, h2⟩
  · rintro ⟨i, rfl, h1, h2⟩; exact ⟨i, ⟨h1, h2⟩, rfl⟩

theorem places_at {xs : List Int} {v : Int} {k j : Nat} (h : j < (placesTo xs v k).length) : ∃ i : Nat, (placesTo xs v k).getD j 0 = (i : Int) ∧ i < k ∧ xs.getD i 0 = v := by
  have hm : (placesTo xs v k).getD j 0 ∈ placesTo xs v k := by
    simp [List.getD, List.getElem?_eq_getElem h]
  exact places_mem.1 hm

theorem places_up (xs : List Int) (v : Int) (k : Nat) : (placesTo xs v k).Pairwise (· < ·) := by
  unfold placesTo
  rw [List.pairwise_map]
  exact (List.Pairwise.filter _ (List.pairwise_lt_range)).imp (fun h => by omega)

theorem places_lt {xs : List Int} {v : Int} {k i j : Nat} (h : i < j) (hj : j < (placesTo xs v k).length) : (placesTo xs v k).getD i 0 < (placesTo xs v k).getD j 0 := by
  have hp := List.pairwise_iff_getElem.1 (places_up xs v k) i j (by omega) hj h
  simpa [List.getD, List.getElem?_eq_getElem hj, List.getElem?_eq_getElem (show i < (placesTo xs v k).length by omega)] using hp

theorem places_on {xs : List Int} {v : Int} {k i : Nat} (h1 : i < k) (h2 : xs.getD i 0 = v) : ∃ j, j < (placesTo xs v k).length ∧ (placesTo xs v k).getD j 0 = (i : Int) := by
  obtain ⟨j, hj, e⟩ := List.mem_iff_getElem.1 (places_mem.2 ⟨i, rfl, h1, h2⟩)
  exact ⟨j, hj, by simp [List.getD, List.getElem?_eq_getElem hj, e]⟩

/-- The first of the sorted sequence of the places is the best place. -/
theorem sorted_best {xs : List Int} {v : Int} {n : Nat} {c : Nat → Int} {f : Nat → Int} {d : Nat} (hd : (placesTo xs v n).length = d) (h0 : 0 < d)
    (hg : Good (fun t => c ((placesTo xs v n).getD t.toNat 0).toNat) f 0 d) : BestIs n xs v c ((placesTo xs v n).getD (f 0).toNat 0) := by
  have hv : ∀ k, k < d → (0 : Int) ≤ f k ∧ f k < d := fun k hk => by have := hg.2 k (Nat.zero_le _) hk; omega
  have f0 := hv 0 h0
  obtain ⟨i, e1, e2, e3⟩ := places_at (xs := xs) (v := v) (k := n) (j := (f 0).toNat) (by omega)
  refine Or.inr ⟨i, e1, e2, e3, fun j hj hjv => ?_⟩
  obtain ⟨q, q1, q2⟩ := places_on hj hjv
  obtain ⟨p, p1, p2⟩ := place_onto (i := q) hg (by omega)
  have key0 : c ((placesTo xs v n).getD (f 0).toNat 0).toNat = c i := by rw [e1]; rfl
  have keyp : c ((placesTo xs v n).getD (f p).toNat 0).toNat = c j := by rw [p2, Int.toNat_natCast, q2]; rfl
  by_cases hp : p = 0
  · subst hp
    have : i = j := by
      rw [p2, Int.toNat_natCast, q2] at e1
      omega
    subst this
    exact ⟨Int.le_refl _, fun h => by omega⟩
  · have hr := hg.1 0 p (Nat.le_refl _) (by omega) p1
    unfold RL at hr
    simp only [key0, keyp] at hr
    refine ⟨by omega, fun hji => ?_⟩
    rcases hr with h | ⟨h, hlt⟩
    · exact h
    · exfalso
      have := places_lt (xs := xs) (v := v) (k := n) (i := (f 0).toNat) (j := (f p).toNat) (by have := hv p p1; omega) (by have := hv p p1; omega)
      rw [e1, p2, Int.toNat_natCast, q2] at this
      omega

end Go.Proofs.Ytnhjdmdnicnmmaa
