/-
  Contracts of chapter 3: ShiftMatrix (program and model).
-/
import Derived.Test.YtgepjfdnlnemjaaD6
import Derived.Deep.RegionHeld3
import Derived.Deep.AppendLies
import Derived.Deep.RegionLaw
import Derived.Deep.DrawnRows
namespace Go.Proofs.Ytgepjfdnlnemjaa
open Go.RowKit
set_option linter.unusedVariables false
set_option linter.unusedSimpArgs false
attribute [local go_sem ↓] Go.wp_at_zero Go.wp_at_succ

theorem below_undrew {w v : World} {B : Nat} (h : Below B w.drew v) : Below B w v := ⟨h.os, h.tape, h.output, h.size, h.block⟩

theorem cell_far {v : World} {g b i j : Nat} {x y : Value} (h : v.cell? ⟨b, j, none⟩ = some y) (hne : g ≠ b) : (v.setCell ⟨g, i, none⟩ x).cell? ⟨b, j, none⟩ = some y := by
  rw [← h]
  exact World.cell?_of_block (Below.heap_setCell v _ x b (by simp; omega))

theorem cell_al {v : World} {a : Addr} {y : Value} {O : Obj} (h : v.cell? a = some y) : (v.alloc O).cell? a = some y := by
  rw [World.cell?_alloc_some _ _ _ (by rw [h]; rfl), h]

theorem cell_new1 (w : World) (v : Value) (T : Nat) : (w.alloc (.cells #[v] T)).cell? ⟨w.heap.size, 0, none⟩ = some v := (Blk.new w T #[v]).cell 0

theorem grown_of_below {w v : World} {row : Option Nat} (h : Below w.heap.size w v) : w.grownBy v row := ⟨h.os, h.tape, h.output, h.size, fun i hi _ => h.block i hi⟩

/-- 'xs = append(xs, v)' at a step of a region that draws. -/
theorem step_append (w : World) {ops : Array Oper} {o : Oper} {a : Act} {K : Act → World → Prop} {Q : Exit → Act → World → Prop} {E : Prop}
    (hgd : o.guard = none) (s x : Operand) (hop : o.op = .call { callee := .builtin .append, args := #[s, x], argTypes := #[23, 23] })
    (B n cap : Nat) (ad : Option Addr) (xs : List Int) (hs : a.eval s = .slice ad n cap) (ho : OwnA w B ad n cap xs) (g : Nat) (v : Int) (hx : a.eval x = .slice (some ⟨g, 0, none⟩) 1 1)
    (hc : w.cell? ⟨g, 0, none⟩ = some (.int .i64 v)) (hn : n ≤ 1048576) (hB : B ≤ w.heap.size)
    (hK : ∀ ad' cap' w', OwnA w' B ad' (n + 1) cap' (xs ++ [v]) → w.grownBy w' (blockOf ad) → K (a.put o.dst (.slice ad' (n + 1) cap')) w') :
    if Region.wanted o (yielded ops a.tmps) = true then Oper.wp Try.prog o a w K Q else E := by
  have hw : Region.wanted o (yielded ops a.tmps) = true := by simp [Region.wanted, hgd]
  rw [if_pos hw]
  obtain ⟨i, hi, hz0, hz1, hz2⟩ := info_parts infoInt
  refine wp_append_own w s x 23 hop B 3 i (.int .i64 0) 1 8 Try.underlying23 hi hz0 hz1 hz2 rfl (by decide) _ n (xs.map (Value.int .i64)) hs ho.toRow ⟨g, 0, none⟩ 1 1 [.int .i64 v] hx rfl ?_ ?_ (by unfold maxLen; omega) (by omega) hB ?_
  · intro j u hj
    match j, hj with
    | 0, hj => simp at hj; subst hj; simpa [Addr.add] using hc
  · intro u hu; simp at hu; subst hu; rfl
  · intro v' w' h2 h3 _
    have h4 : w'.ownsRow B 3 1 v' (n + 1) ((xs ++ [v]).map (Value.int .i64)) := by simpa using h2
    obtain ⟨ad', cap', rfl, h5⟩ := OwnA.ofRow h4
    rw [blockOf_own] at h3
    exact hK ad' cap' w' h5 h3

set_option maxHeartbeats 1600000 in
theorem spec_ShiftMatrix (W H : Int) (ad : Option Addr) (n cap : Nat) (xs : List Int) (dx dy : Int) (w : World) (hn : xs.length = n) (ha : Rd w ad xs) (hl : n ≤ 9223372036854775807) :
    Calls Try.prog 13 #[.agg #[.int .i64 W, .int .i64 H, .slice ad n cap], .int .i64 dx, .int .i64 dy] w (MatOut w (shiftF W H xs dx dy)) := by
  have HN := Lib.hid hn
  have HA := Lib.hid ha
  clear hn ha
  by_cases hp : matOk W H xs = true
  case neg =>
    have hp2 : matOk W H xs = false := by simpa using hp
    rw [shiftF_no (fun h => hp h.1)]
    clear hp
    go_enter Try.func13, Try.ntmps13
    go_wp2_with fail
    refine (spec_IsMatrix _ _ _ _ _ xs _ HN.out (by exact (HA.out.alloc _).alloc _) hl).mono ?_
    rintro e w1 ⟨rfl, hb⟩
    have HB1 := Lib.hid ((Joins.below_alloc2 _ _ _).trans (hb.mono (by simp; omega)))
    have KP1 := Lib.hid (((Blk.new w 25 #[.int .i64 W, .int .i64 H, .slice ad n cap]).alloc _).below' hb)
    have KR1 : Hid (Blk w1 (w.heap.size + 1) 25 #[.int .i64 0, .int .i64 0, .slice none 0 0]) := by
      have h := (Blk.new (w.alloc (.cells #[.int .i64 W, .int .i64 H, .slice ad n cap] 25)) 25 #[.int .i64 0, .int .i64 0, .slice none 0 0]).below' hb
      exact Lib.hid (by simpa using h)
    obtain ⟨l1, c0, c1, c2⟩ := KP1.out.c3
    obtain ⟨m1, d0, d1, d2⟩ := KR1.out.c3
    obtain ⟨f0, f1, f2⟩ := KR1.out.f3
    clear hb
    rw [hp2]
    go_wp2_with fail
    exact bodyPost_ret (v := .agg #[.int .i64 0, .int .i64 0, .slice none 0 0]) (by simp [results, Try.results13, go_sem, d0, d1, d2]) rfl ⟨none, 0, 0, rfl, OwnA.none _ _, by omega,
      ((HB1.out.setCell (by first | (simp; done) | (simp; omega)) _).setCell (by first | (simp; done) | (simp; omega)) _).setCell (by first | (simp; done) | (simp; omega)) _⟩
  case pos =>
    by_cases hx : -1000 ≤ dx ∧ dx ≤ 1000
    case neg =>
      rw [shiftF_no (fun h => hx ⟨h.2.1, h.2.2.1⟩)]
      have HX := Lib.hid hx
      clear hx
      go_enter Try.func13, Try.ntmps13
      go_wp2_with fail
      refine (spec_IsMatrix _ _ _ _ _ xs _ HN.out (by exact (HA.out.alloc _).alloc _) hl).mono ?_
      rintro e w1 ⟨rfl, hb⟩
      have HB1 := Lib.hid ((Joins.below_alloc2 _ _ _).trans (hb.mono (by simp; omega)))
      have KP1 := Lib.hid (((Blk.new w 25 #[.int .i64 W, .int .i64 H, .slice ad n cap]).alloc _).below' hb)
      have KR1 : Hid (Blk w1 (w.heap.size + 1) 25 #[.int .i64 0, .int .i64 0, .slice none 0 0]) := by
        have h := (Blk.new (w.alloc (.cells #[.int .i64 W, .int .i64 H, .slice ad n cap] 25)) 25 #[.int .i64 0, .int .i64 0, .slice none 0 0]).below' hb
        exact Lib.hid (by simpa using h)
      obtain ⟨l1, c0, c1, c2⟩ := KP1.out.c3
      obtain ⟨m1, d0, d1, d2⟩ := KR1.out.c3
      obtain ⟨f0, f1, f2⟩ := KR1.out.f3
      clear hb
      rw [hp]
      go_wp2_with fail
      refine (spec_l1In_no _ _ _ _ HX.out).mono ?_
      rintro e w2 ⟨rfl, rfl⟩
      go_wp2_with fail
      exact bodyPost_ret (v := .agg #[.int .i64 0, .int .i64 0, .slice none 0 0]) (by simp [results, Try.results13, go_sem, d0, d1, d2]) rfl ⟨none, 0, 0, rfl, OwnA.none _ _, by omega,
        ((HB1.out.setCell (by first | (simp; done) | (simp; omega)) _).setCell (by first | (simp; done) | (simp; omega)) _).setCell (by first | (simp; done) | (simp; omega)) _⟩
    case pos =>
      obtain ⟨hx1, hx2⟩ := hx
      by_cases hy : -1000 ≤ dy ∧ dy ≤ 1000
      case neg =>
        rw [shiftF_no (fun h => hy ⟨h.2.2.2.1, h.2.2.2.2⟩)]
        have HY := Lib.hid hy
        clear hy
        go_enter Try.func13, Try.ntmps13
        go_wp2_with fail
        refine (spec_IsMatrix _ _ _ _ _ xs _ HN.out (by exact (HA.out.alloc _).alloc _) hl).mono ?_
        rintro e w1 ⟨rfl, hb⟩
        have HB1 := Lib.hid ((Joins.below_alloc2 _ _ _).trans (hb.mono (by simp; omega)))
        have KP1 := Lib.hid (((Blk.new w 25 #[.int .i64 W, .int .i64 H, .slice ad n cap]).alloc _).below' hb)
        have KR1 : Hid (Blk w1 (w.heap.size + 1) 25 #[.int .i64 0, .int .i64 0, .slice none 0 0]) := by
          have h := (Blk.new (w.alloc (.cells #[.int .i64 W, .int .i64 H, .slice ad n cap] 25)) 25 #[.int .i64 0, .int .i64 0, .slice none 0 0]).below' hb
          exact Lib.hid (by simpa using h)
        obtain ⟨l1, c0, c1, c2⟩ := KP1.out.c3
        obtain ⟨m1, d0, d1, d2⟩ := KR1.out.c3
        obtain ⟨f0, f1, f2⟩ := KR1.out.f3
        clear hb
        rw [hp]
        go_wp2_with fail
        refine (spec_l1In_yes _ _ _ _ hx1 hx2).mono ?_
        rintro e w2 ⟨rfl, rfl⟩
        go_wp2_with fail
        refine (spec_l1In_no _ _ _ _ HY.out).mono ?_
        rintro e w2 ⟨rfl, rfl⟩
        go_wp2_with fail
        exact bodyPost_ret (v := .agg #[.int .i64 0, .int .i64 0, .slice none 0 0]) (by simp [results, Try.results13, go_sem, d0, d1, d2]) rfl ⟨none, 0, 0, rfl, OwnA.none _ _, by omega,
          ((HB1.out.setCell (by first | (simp; done) | (simp; omega)) _).setCell (by first | (simp; done) | (simp; omega)) _).setCell (by first | (simp; done) | (simp; omega)) _⟩
      case pos =>
        obtain ⟨hy1, hy2⟩ := hy
        rw [shiftF_yes HN.out hp hx1 hx2 hy1 hy2]
        obtain ⟨hs, hq, hi, hd⟩ := matOk_bd HN.out hp
        obtain ⟨b1, b2, b3, b4, b5, b6⟩ := matSize_bd hs
        have HQ := Lib.hid hq
        have HI := Lib.hid hi
        have HD := Lib.hid hd
        have HS := Lib.hid hs
        have hn1 : 1 ≤ n := by omega
        have hn2 : n ≤ 256 := by omega
        clear hq hi hs hd
        go_enter Try.func13, Try.ntmps13
        go_wp2_with fail
        refine (spec_IsMatrix _ _ _ _ _ xs _ HN.out (by exact (HA.out.alloc _).alloc _) hl).mono ?_
        rintro e w1 ⟨rfl, hb⟩
        have HB1 := Lib.hid ((Joins.below_alloc2 _ _ _).trans (hb.mono (by simp; omega)))
        have KP1 := Lib.hid (((Blk.new w 25 #[.int .i64 W, .int .i64 H, .slice ad n cap]).alloc _).below' hb)
        have KR1 : Hid (Blk w1 (w.heap.size + 1) 25 #[.int .i64 0, .int .i64 0, .slice none 0 0]) := by
          have h := (Blk.new (w.alloc (.cells #[.int .i64 W, .int .i64 H, .slice ad n cap] 25)) 25 #[.int .i64 0, .int .i64 0, .slice none 0 0]).below' hb
          exact Lib.hid (by simpa using h)
        obtain ⟨l1, c0, c1, c2⟩ := KP1.out.c3
        obtain ⟨m1, d0, d1, d2⟩ := KR1.out.c3
        obtain ⟨f0, f1, f2⟩ := KR1.out.f3
        clear hb
        rw [hp]
        go_wp2_with fail
        refine (spec_l1In_yes _ _ _ _ hx1 hx2).mono ?_
        rintro e w1b ⟨rfl, rfl⟩
        go_wp2_with fail
        refine (spec_l1In_yes _ _ _ _ hy1 hy2).mono ?_
        rintro e w1b ⟨rfl, rfl⟩
        go_wp2_with fail
        go_loopw [31] (fun i wr => ∃ (k : Nat) (ad' : Option Addr) (cap' : Nat), k ≤ n ∧ i = .int .i64 k ∧ OwnA wr (w1.heap.size + 1) ad' k cap' (gen k (shiftG W H xs dx dy)) ∧ Blk wr (w1.heap.size) 25 #[.int .i64 (W), .int .i64 (H), .slice ad' k cap'] ∧ Below (w1.heap.size) (w1) wr) (fun i _ => n - (intOf i).toNat)
        case atStart => exact ⟨0, none, 0, Nat.zero_le _, rfl, OwnA.none _ _, by first | exact Blk.new _ _ _ | exact Blk.new' _ _ (by simp), by first | exact Joins.below_alloc1 _ _ | exact (Below.refl _ _).alloc (by simp) _⟩
        case round =>
          obtain ⟨k, ad', cap', hk, rfl, ho, hb', hw'⟩ := hrel
          have HO := Lib.hid ho
          have KB := Lib.hid hb'
          have HW := Lib.hid hw'
          obtain ⟨l0, o0, o1, o2⟩ := KB.out.c3
          clear ho hb' hw'
          have HBr := Lib.hid (HB1.out.trans (HW.out.mono (by have := HB1.out.size; omega)))
          have KP := Lib.hid (KP1.out.below HW.out KP1.out.lt)
          obtain ⟨l9, s0, s1, s2⟩ := KP.out.c3
          by_cases hlt : k < n
          · have e1 : 0 ≤ (k : Int) % W := Int.emod_nonneg _ (by omega)
            have e2 : (k : Int) % W < W := Int.emod_lt_of_pos _ (by omega)
            have e3 : 0 ≤ (k : Int) / W := Int.ediv_nonneg (by omega) (by omega)
            have e4 : (k : Int) / W ≤ k := Int.ediv_le_self _ (by omega)
            have hW0 : (W == 0) = false := by simp; omega
            have hW1 : ¬ W = 0 := by omega
            go_wp2_with fail
            have NP : w1.heap.size ≠ w.heap.size := by have := KP1.out.lt; omega
            have LP := KP1.out.lt
            refine wp_region_held_drew (S := fun v => v.cell? ⟨w.heap.size, 0, none⟩ = some (.int .i64 W) ∧ v.cell? ⟨w.heap.size, 1, none⟩ = some (.int .i64 H) ∧ v.cell? ⟨w.heap.size, 2, none⟩ = some (.slice ad n cap)) (by kernel_rfl) ⟨s0, s1, s2⟩ ?_
            intro hHeld
            (refine' wpAnyH_take (i := 0) (v := ?_) rfl (by kernel_rfl) (by kernel_rfl) (by kernel_rfl) (fun _ _ _ h => h) (Or.inl ⟨by rfl, ?_⟩) (by assumption) ?_; rotate_left; (· (intro w hSw; (try dsimp only at hSw); go_simp; try with_reducible rfl)); (try simp only [Act.put, List.setIfInBounds_toArray, List.set_cons_zero, List.set_cons_succ]))
            (refine' wpAnyH_take (i := 2) (v := ?_) rfl (by kernel_rfl) (by kernel_rfl) (by kernel_rfl) (fun _ _ _ h => h) (Or.inl ⟨by rfl, ?_⟩) (by assumption) ?_; rotate_left; (· (intro w hSw; (try dsimp only at hSw); go_simp; try with_reducible rfl)); (try simp only [Act.put, List.setIfInBounds_toArray, List.set_cons_zero, List.set_cons_succ]))
            (refine' wpAnyH_take (i := 3) (v := ?_) rfl (by kernel_rfl) (by kernel_rfl) (by kernel_rfl) (fun _ _ _ h => h) (Or.inl ⟨by rfl, ?_⟩) (by assumption) ?_; rotate_left; (· (intro w hSw; (try dsimp only at hSw); go_simp; try with_reducible rfl)); (try simp only [Act.put, List.setIfInBounds_toArray, List.set_cons_zero, List.set_cons_succ]))
            (refine' wpAnyH_take (i := 4) (v := ?_) rfl (by kernel_rfl) (by kernel_rfl) (by kernel_rfl) (fun _ _ _ h => h) (Or.inl ⟨by rfl, ?_⟩) (by assumption) ?_; rotate_left; (· (intro w hSw; (try dsimp only at hSw); go_simp; try with_reducible rfl)); (try simp only [Act.put, List.setIfInBounds_toArray, List.set_cons_zero, List.set_cons_succ]))
            (refine' wpAnyH_take (i := 5) (v := ?_) rfl (by kernel_rfl) (by kernel_rfl) (by kernel_rfl) (fun _ _ _ h => h) (Or.inl ⟨by rfl, ?_⟩) (by assumption) ?_; rotate_left; (· (intro w hSw; (try dsimp only at hSw); go_simp; try with_reducible rfl)); (try simp only [Act.put, List.setIfInBounds_toArray, List.set_cons_zero, List.set_cons_succ]))
            (refine' wpAnyH_take (i := 6) (v := ?_) rfl (by kernel_rfl) (by kernel_rfl) (by kernel_rfl) (fun _ _ _ h => h) (Or.inl ⟨by rfl, ?_⟩) (by assumption) ?_; rotate_left; (· (intro w hSw; (try dsimp only at hSw); go_simp; try with_reducible rfl)); (try simp only [Act.put, List.setIfInBounds_toArray, List.set_cons_zero, List.set_cons_succ]))
            (refine' wpAnyH_take (i := 7) (v := ?_) rfl (by kernel_rfl) (by kernel_rfl) (by kernel_rfl) (fun _ _ _ h => h) (Or.inl ⟨by rfl, ?_⟩) (by assumption) ?_; rotate_left; (· (intro w hSw; (try dsimp only at hSw); go_simp; try with_reducible rfl)); (try simp only [Act.put, List.setIfInBounds_toArray, List.set_cons_zero, List.set_cons_succ]))
            (refine' wpAnyH_take (i := 8) (v := ?_) rfl (by kernel_rfl) (by kernel_rfl) (by kernel_rfl) (fun _ _ _ h => h) (Or.inl ⟨by rfl, ?_⟩) (by assumption) ?_; rotate_left; (· (intro w hSw; (try dsimp only at hSw); go_simp; try with_reducible rfl)); (try simp only [Act.put, List.setIfInBounds_toArray, List.set_cons_zero, List.set_cons_succ]))
            (refine' wpAnyH_take (i := 9) (v := ?_) rfl (by kernel_rfl) (by kernel_rfl) (by kernel_rfl) (fun _ _ _ h => h) (Or.inl ⟨by rfl, ?_⟩) (by assumption) ?_; rotate_left; (· (intro w hSw; (try dsimp only at hSw); go_simp; try with_reducible rfl)); (try simp only [Act.put, List.setIfInBounds_toArray, List.set_cons_zero, List.set_cons_succ]))
            (refine' wpAnyH_take (i := 10) (v := ?_) rfl (by kernel_rfl) (by kernel_rfl) (by kernel_rfl) (fun _ _ _ h => h) (Or.inl ⟨by rfl, ?_⟩) (by assumption) ?_; rotate_left; (· (intro w hSw; (try dsimp only at hSw); go_simp; try with_reducible rfl)); (try simp only [Act.put, List.setIfInBounds_toArray, List.set_cons_zero, List.set_cons_succ]))
            (refine' wpAnyH_take (i := 11) (v := ?_) rfl (by kernel_rfl) (by kernel_rfl) (by kernel_rfl) (fun _ _ _ h => h) (Or.inl ⟨by rfl, ?_⟩) (by assumption) ?_; rotate_left; (· (intro w hSw; (try dsimp only at hSw); go_simp; try with_reducible rfl)); (try simp only [Act.put, List.setIfInBounds_toArray, List.set_cons_zero, List.set_cons_succ]))
            (refine' wpAnyH_take (i := 12) (v := ?_) rfl (by kernel_rfl) (by kernel_rfl) (by kernel_rfl) (fun _ _ _ h => h) (Or.inl ⟨by rfl, ?_⟩) (by assumption) ?_; rotate_left; (· (intro w hSw; (try dsimp only at hSw); go_simp; try with_reducible rfl)); (try simp only [Act.put, List.setIfInBounds_toArray, List.set_cons_zero, List.set_cons_succ]))
            (refine' wpAnyH_take (i := 13) (v := ?_) rfl (by kernel_rfl) (by kernel_rfl) (by kernel_rfl) (fun _ _ _ h => h) (Or.inl ⟨by rfl, ?_⟩) (by assumption) ?_; rotate_left; (· (intro w hSw; (try dsimp only at hSw); go_simp; try with_reducible rfl)); (try simp only [Act.put, List.setIfInBounds_toArray, List.set_cons_zero, List.set_cons_succ]))
            (refine' wpAnyH_take (i := 14) (v := ?_) rfl (by kernel_rfl) (by kernel_rfl) (by kernel_rfl) (fun _ _ _ h => h) (Or.inl ⟨by rfl, ?_⟩) (by assumption) ?_; rotate_left; (· (intro w hSw; (try dsimp only at hSw); go_simp; try with_reducible rfl)); (try simp only [Act.put, List.setIfInBounds_toArray, List.set_cons_zero, List.set_cons_succ]))
            refine wpAnyH_ready (rs := [1, 15]) (by kernel_rfl) (by simp) ?_
            refine AllReadyH.cons rfl (fun K hK => ?_) (AllReadyH.cons rfl (fun K hK => ?_) AllReadyH.nil)
            · go_simp
              refine hK.out _ _ ?_ (fun hHeld => ?_)
              · ((try dsimp only); first | exact ⟨s0, s1, s2⟩ | exact ⟨y0, y1, y2⟩ | exact ⟨cell_al y0, cell_al y1, cell_al y2⟩ | exact ⟨z0, z1, z2⟩ | exact ⟨cell_far z0 NP, cell_far z1 NP, cell_far z2 NP⟩)
              clear hK K
              refine wpAnyH_ready (rs := [15]) (by kernel_rfl) (by simp) ?_
              refine AllReadyH.cons rfl (fun K hK => ?_) AllReadyH.nil
              go_simp
              go_at_call 46
              ((with_reducible refine (spec_l2Rank W H ad n cap xs _ _ _ HN.out (by exact (HA.out.below HBr.out).of_heap rfl) HQ.out b1 b3 hn2 b2 b4).mono ?_); rintro e v1 ⟨rfl, hq1⟩)
              have y0 := (hq1.cell l9).trans s0
              have y1 := (hq1.cell l9).trans s1
              have y2 := (hq1.cell l9).trans s2
              have y3 := (hq1.cell l0).trans o2
              have HOv := Lib.hid (HO.out.drew.below' hq1)
              have KBv := Lib.hid (KB.out.drew.below' hq1)
              have lv := KBv.out.lt
              go_wp2_with fail
              refine hK.out _ _ ?_ (fun hHeld => ?_)
              · ((try dsimp only); first | exact ⟨s0, s1, s2⟩ | exact ⟨y0, y1, y2⟩ | exact ⟨cell_al y0, cell_al y1, cell_al y2⟩ | exact ⟨z0, z1, z2⟩ | exact ⟨cell_far z0 NP, cell_far z1 NP, cell_far z2 NP⟩)
              clear hK K
              refine wpAnyH_ready (rs := [16]) (by kernel_rfl) (by simp) ?_
              refine AllReadyH.cons rfl (fun K hK => ?_) AllReadyH.nil
              go_simp
              refine hK.out _ _ ?_ (fun hHeld => ?_)
              · ((try dsimp only); first | exact ⟨s0, s1, s2⟩ | exact ⟨y0, y1, y2⟩ | exact ⟨cell_al y0, cell_al y1, cell_al y2⟩ | exact ⟨z0, z1, z2⟩ | exact ⟨cell_far z0 NP, cell_far z1 NP, cell_far z2 NP⟩)
              clear hK K
              refine wpAnyH_ready (rs := [17]) (by kernel_rfl) (by simp) ?_
              refine AllReadyH.cons rfl (fun K hK => ?_) AllReadyH.nil
              refine step_append _ (by rfl) (.tmp 35) (.tmp 50) (by rfl) (w1.heap.size + 1) k cap' ad' (gen k (shiftG W H xs dx dy)) (by rfl) (HOv.out.alloc _) v1.heap.size _ (by rfl) (cell_new1 _ _ _) (by omega) (by have := KBv.out.lt; simp; omega) ?_
              intro ad2 cap2 w5 ho5 hg5
              have KP5 := Lib.hid (app_blk HOv.out hg5 (KP.out.drew.below' hq1) (by omega))
              obtain ⟨l6, z0, z1, z2⟩ := KP5.out.c3
              have KB5 := Lib.hid (app_blk HOv.out hg5 KBv.out (by omega))
              obtain ⟨l5, t0, t1, t2⟩ := KB5.out.c3
              obtain ⟨f0, f1, f2⟩ := KB5.out.f3
              refine hK.out _ _ ?_ (fun hHeld => ?_)
              · ((try dsimp only); first | exact ⟨s0, s1, s2⟩ | exact ⟨y0, y1, y2⟩ | exact ⟨cell_al y0, cell_al y1, cell_al y2⟩ | exact ⟨z0, z1, z2⟩ | exact ⟨cell_far z0 NP, cell_far z1 NP, cell_far z2 NP⟩)
              clear hK K
              (refine' wpAnyH_take (i := 18) (v := ?_) rfl (by kernel_rfl) (by kernel_rfl) (by kernel_rfl) (fun _ _ _ h => h) (Or.inl ⟨by rfl, ?_⟩) (by assumption) ?_; rotate_left; (· (intro w hSw; (try dsimp only at hSw); go_simp; try with_reducible rfl)); (try simp only [Act.put, List.setIfInBounds_toArray, List.set_cons_zero, List.set_cons_succ]))
              refine wpAnyH_ready (rs := [19]) (by kernel_rfl) (by simp) ?_
              refine AllReadyH.cons rfl (fun K hK => ?_) AllReadyH.nil
              go_simp
              refine hK.out _ _ ?_ (fun hHeld => ?_)
              · ((try dsimp only); first | exact ⟨s0, s1, s2⟩ | exact ⟨y0, y1, y2⟩ | exact ⟨cell_al y0, cell_al y1, cell_al y2⟩ | exact ⟨z0, z1, z2⟩ | exact ⟨cell_far z0 NP, cell_far z1 NP, cell_far z2 NP⟩)
              clear hK K
              refine wpAnyH_done (by kernel_rfl) ?_ _
              have HWv := Lib.hid (HW.out.trans ((below_undrew hq1).mono (by have := KB.out.lt; have e0 : wr.drew.heap.size = wr.heap.size := rfl; omega)))
              have HW5 := Lib.hid (app_below HOv.out hg5 HWv.out (by omega) (by have := KBv.out.lt; omega))
              have HO5 : Hid (OwnA w5 (w1.heap.size + 1) ad2 (k + 1) cap2 (gen (k + 1) (shiftG W H xs dx dy))) := Lib.hid (by rw [← gen_snoc]; refine cast (congrArg (fun (v : Int) => OwnA w5 (w1.heap.size + 1) ad2 (k + 1) cap2 (gen k (shiftG W H xs dx dy) ++ [v])) ?_) ho5; (first | rfl | (unfold shiftG; rw [Int.tmod_eq_emod_of_nonneg (by omega), IntWalk.i64_in ((k : Int) / W) (by omega), IntWalk.i64_in ((k : Int) % W - dx) (by omega), IntWalk.i64_in ((k : Int) / W - dy) (by omega)])))
              clear ho5 hg5
              go_wp2_with fail
              go_roundw
              case rel => exact ⟨k + 1, ad2, cap2, by omega, by go_num, HO5.out.other (by simp) _, by first | exact KB5.out.set 2 _ | (have h := KB5.out.set 2 (.slice ad2 (k + 1) cap2); simpa using h), HW5.out.setCell (by simp) _⟩
              case measure => simp [intOf]; omega
            · go_simp
              go_at_call 46
              ((with_reducible refine (spec_l2Rank W H ad n cap xs _ _ _ HN.out (by exact (HA.out.below HBr.out).of_heap rfl) HQ.out b1 b3 hn2 b2 b4).mono ?_); rintro e v1 ⟨rfl, hq1⟩)
              have y0 := (hq1.cell l9).trans s0
              have y1 := (hq1.cell l9).trans s1
              have y2 := (hq1.cell l9).trans s2
              have y3 := (hq1.cell l0).trans o2
              have HOv := Lib.hid (HO.out.drew.below' hq1)
              have KBv := Lib.hid (KB.out.drew.below' hq1)
              have lv := KBv.out.lt
              go_wp2_with fail
              refine hK.out _ _ ?_ (fun hHeld => ?_)
              · ((try dsimp only); first | exact ⟨s0, s1, s2⟩ | exact ⟨y0, y1, y2⟩ | exact ⟨cell_al y0, cell_al y1, cell_al y2⟩ | exact ⟨z0, z1, z2⟩ | exact ⟨cell_far z0 NP, cell_far z1 NP, cell_far z2 NP⟩)
              clear hK K
              refine wpAnyH_ready (rs := [1, 16]) (by kernel_rfl) (by simp) ?_
              refine AllReadyH.cons rfl (fun K hK => ?_) (AllReadyH.cons rfl (fun K hK => ?_) AllReadyH.nil)
              · go_simp
                refine hK.out _ _ ?_ (fun hHeld => ?_)
                · ((try dsimp only); first | exact ⟨s0, s1, s2⟩ | exact ⟨y0, y1, y2⟩ | exact ⟨cell_al y0, cell_al y1, cell_al y2⟩ | exact ⟨z0, z1, z2⟩ | exact ⟨cell_far z0 NP, cell_far z1 NP, cell_far z2 NP⟩)
                clear hK K
                refine wpAnyH_ready (rs := [16]) (by kernel_rfl) (by simp) ?_
                refine AllReadyH.cons rfl (fun K hK => ?_) AllReadyH.nil
                go_simp
                refine hK.out _ _ ?_ (fun hHeld => ?_)
                · ((try dsimp only); first | exact ⟨s0, s1, s2⟩ | exact ⟨y0, y1, y2⟩ | exact ⟨cell_al y0, cell_al y1, cell_al y2⟩ | exact ⟨z0, z1, z2⟩ | exact ⟨cell_far z0 NP, cell_far z1 NP, cell_far z2 NP⟩)
                clear hK K
                refine wpAnyH_ready (rs := [17]) (by kernel_rfl) (by simp) ?_
                refine AllReadyH.cons rfl (fun K hK => ?_) AllReadyH.nil
                refine step_append _ (by rfl) (.tmp 35) (.tmp 50) (by rfl) (w1.heap.size + 1) k cap' ad' (gen k (shiftG W H xs dx dy)) (by rfl) (HOv.out.alloc _) v1.heap.size _ (by rfl) (cell_new1 _ _ _) (by omega) (by have := KBv.out.lt; simp; omega) ?_
                intro ad2 cap2 w5 ho5 hg5
                have KP5 := Lib.hid (app_blk HOv.out hg5 (KP.out.drew.below' hq1) (by omega))
                obtain ⟨l6, z0, z1, z2⟩ := KP5.out.c3
                have KB5 := Lib.hid (app_blk HOv.out hg5 KBv.out (by omega))
                obtain ⟨l5, t0, t1, t2⟩ := KB5.out.c3
                obtain ⟨f0, f1, f2⟩ := KB5.out.f3
                refine hK.out _ _ ?_ (fun hHeld => ?_)
                · ((try dsimp only); first | exact ⟨s0, s1, s2⟩ | exact ⟨y0, y1, y2⟩ | exact ⟨cell_al y0, cell_al y1, cell_al y2⟩ | exact ⟨z0, z1, z2⟩ | exact ⟨cell_far z0 NP, cell_far z1 NP, cell_far z2 NP⟩)
                clear hK K
                (refine' wpAnyH_take (i := 18) (v := ?_) rfl (by kernel_rfl) (by kernel_rfl) (by kernel_rfl) (fun _ _ _ h => h) (Or.inl ⟨by rfl, ?_⟩) (by assumption) ?_; rotate_left; (· (intro w hSw; (try dsimp only at hSw); go_simp; try with_reducible rfl)); (try simp only [Act.put, List.setIfInBounds_toArray, List.set_cons_zero, List.set_cons_succ]))
                refine wpAnyH_ready (rs := [19]) (by kernel_rfl) (by simp) ?_
                refine AllReadyH.cons rfl (fun K hK => ?_) AllReadyH.nil
                go_simp
                refine hK.out _ _ ?_ (fun hHeld => ?_)
                · ((try dsimp only); first | exact ⟨s0, s1, s2⟩ | exact ⟨y0, y1, y2⟩ | exact ⟨cell_al y0, cell_al y1, cell_al y2⟩ | exact ⟨z0, z1, z2⟩ | exact ⟨cell_far z0 NP, cell_far z1 NP, cell_far z2 NP⟩)
                clear hK K
                refine wpAnyH_done (by kernel_rfl) ?_ _
                have HWv := Lib.hid (HW.out.trans ((below_undrew hq1).mono (by have := KB.out.lt; have e0 : wr.drew.heap.size = wr.heap.size := rfl; omega)))
                have HW5 := Lib.hid (app_below HOv.out hg5 HWv.out (by omega) (by have := KBv.out.lt; omega))
                have HO5 : Hid (OwnA w5 (w1.heap.size + 1) ad2 (k + 1) cap2 (gen (k + 1) (shiftG W H xs dx dy))) := Lib.hid (by rw [← gen_snoc]; refine cast (congrArg (fun (v : Int) => OwnA w5 (w1.heap.size + 1) ad2 (k + 1) cap2 (gen k (shiftG W H xs dx dy) ++ [v])) ?_) ho5; (first | rfl | (unfold shiftG; rw [Int.tmod_eq_emod_of_nonneg (by omega), IntWalk.i64_in ((k : Int) / W) (by omega), IntWalk.i64_in ((k : Int) % W - dx) (by omega), IntWalk.i64_in ((k : Int) / W - dy) (by omega)])))
                clear ho5 hg5
                go_wp2_with fail
                go_roundw
                case rel => exact ⟨k + 1, ad2, cap2, by omega, by go_num, HO5.out.other (by simp) _, by first | exact KB5.out.set 2 _ | (have h := KB5.out.set 2 (.slice ad2 (k + 1) cap2); simpa using h), HW5.out.setCell (by simp) _⟩
                case measure => simp [intOf]; omega
              · go_simp
                refine hK.out _ _ ?_ (fun hHeld => ?_)
                · ((try dsimp only); first | exact ⟨s0, s1, s2⟩ | exact ⟨y0, y1, y2⟩ | exact ⟨cell_al y0, cell_al y1, cell_al y2⟩ | exact ⟨z0, z1, z2⟩ | exact ⟨cell_far z0 NP, cell_far z1 NP, cell_far z2 NP⟩)
                clear hK K
                refine wpAnyH_ready (rs := [1]) (by kernel_rfl) (by simp) ?_
                refine AllReadyH.cons rfl (fun K hK => ?_) AllReadyH.nil
                go_simp
                refine hK.out _ _ ?_ (fun hHeld => ?_)
                · ((try dsimp only); first | exact ⟨s0, s1, s2⟩ | exact ⟨y0, y1, y2⟩ | exact ⟨cell_al y0, cell_al y1, cell_al y2⟩ | exact ⟨z0, z1, z2⟩ | exact ⟨cell_far z0 NP, cell_far z1 NP, cell_far z2 NP⟩)
                clear hK K
                refine wpAnyH_ready (rs := [17]) (by kernel_rfl) (by simp) ?_
                refine AllReadyH.cons rfl (fun K hK => ?_) AllReadyH.nil
                refine step_append _ (by rfl) (.tmp 35) (.tmp 50) (by rfl) (w1.heap.size + 1) k cap' ad' (gen k (shiftG W H xs dx dy)) (by rfl) (HOv.out.alloc _) v1.heap.size _ (by rfl) (cell_new1 _ _ _) (by omega) (by have := KBv.out.lt; simp; omega) ?_
                intro ad2 cap2 w5 ho5 hg5
                have KP5 := Lib.hid (app_blk HOv.out hg5 (KP.out.drew.below' hq1) (by omega))
                obtain ⟨l6, z0, z1, z2⟩ := KP5.out.c3
                have KB5 := Lib.hid (app_blk HOv.out hg5 KBv.out (by omega))
                obtain ⟨l5, t0, t1, t2⟩ := KB5.out.c3
                obtain ⟨f0, f1, f2⟩ := KB5.out.f3
                refine hK.out _ _ ?_ (fun hHeld => ?_)
                · ((try dsimp only); first | exact ⟨s0, s1, s2⟩ | exact ⟨y0, y1, y2⟩ | exact ⟨cell_al y0, cell_al y1, cell_al y2⟩ | exact ⟨z0, z1, z2⟩ | exact ⟨cell_far z0 NP, cell_far z1 NP, cell_far z2 NP⟩)
                clear hK K
                (refine' wpAnyH_take (i := 18) (v := ?_) rfl (by kernel_rfl) (by kernel_rfl) (by kernel_rfl) (fun _ _ _ h => h) (Or.inl ⟨by rfl, ?_⟩) (by assumption) ?_; rotate_left; (· (intro w hSw; (try dsimp only at hSw); go_simp; try with_reducible rfl)); (try simp only [Act.put, List.setIfInBounds_toArray, List.set_cons_zero, List.set_cons_succ]))
                refine wpAnyH_ready (rs := [19]) (by kernel_rfl) (by simp) ?_
                refine AllReadyH.cons rfl (fun K hK => ?_) AllReadyH.nil
                go_simp
                refine hK.out _ _ ?_ (fun hHeld => ?_)
                · ((try dsimp only); first | exact ⟨s0, s1, s2⟩ | exact ⟨y0, y1, y2⟩ | exact ⟨cell_al y0, cell_al y1, cell_al y2⟩ | exact ⟨z0, z1, z2⟩ | exact ⟨cell_far z0 NP, cell_far z1 NP, cell_far z2 NP⟩)
                clear hK K
                refine wpAnyH_done (by kernel_rfl) ?_ _
                have HWv := Lib.hid (HW.out.trans ((below_undrew hq1).mono (by have := KB.out.lt; have e0 : wr.drew.heap.size = wr.heap.size := rfl; omega)))
                have HW5 := Lib.hid (app_below HOv.out hg5 HWv.out (by omega) (by have := KBv.out.lt; omega))
                have HO5 : Hid (OwnA w5 (w1.heap.size + 1) ad2 (k + 1) cap2 (gen (k + 1) (shiftG W H xs dx dy))) := Lib.hid (by rw [← gen_snoc]; refine cast (congrArg (fun (v : Int) => OwnA w5 (w1.heap.size + 1) ad2 (k + 1) cap2 (gen k (shiftG W H xs dx dy) ++ [v])) ?_) ho5; (first | rfl | (unfold shiftG; rw [Int.tmod_eq_emod_of_nonneg (by omega), IntWalk.i64_in ((k : Int) / W) (by omega), IntWalk.i64_in ((k : Int) % W - dx) (by omega), IntWalk.i64_in ((k : Int) / W - dy) (by omega)])))
                clear ho5 hg5
                go_wp2_with fail
                go_roundw
                case rel => exact ⟨k + 1, ad2, cap2, by omega, by go_num, HO5.out.other (by simp) _, by first | exact KB5.out.set 2 _ | (have h := KB5.out.set 2 (.slice ad2 (k + 1) cap2); simpa using h), HW5.out.setCell (by simp) _⟩
                case measure => simp [intOf]; omega
          · obtain rfl : n = k := by omega
            have KR := Lib.hid (KR1.out.below HW.out KR1.out.lt)
            obtain ⟨r0, r1, r2, r3⟩ := KR.out.c3
            obtain ⟨q0, q1, q2⟩ := KR.out.f3
            go_wp2_with fail
            exact bodyPost_ret (v := .agg #[.int .i64 (W), .int .i64 (H), .slice ad' _ cap']) (by simp [results, Try.results13, go_sem, r1, r2, r3]) rfl
              ⟨_, _, _, rfl, (((HO.out.other (by simp; try omega) _).other (by simp; try omega) _).other (by simp; try omega) _).mono (by have := HBr.out.size; try simp; omega), by omega,
                ((HBr.out.setCell (by first | (simp; done) | (simp; omega)) _).setCell (by first | (simp; done) | (simp; omega)) _).setCell (by first | (simp; done) | (simp; omega)) _⟩

end Go.Proofs.Ytgepjfdnlnemjaa
