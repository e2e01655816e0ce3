/-
  Contracts of chapter 4: BlurPicture (program).
-/
import Derived.Test.YtgepjfdnlnemjaaD20
import Derived.Test.YtgepjfdnlnemjaaD18
import Derived.Test.YtgepjfdnlnemjaaC4
namespace Go.Proofs.Ytgepjfdnlnemjaa
open Go.RowKit
set_option linter.unusedVariables false
set_option linter.unusedSimpArgs false

set_option maxHeartbeats 400000 in
theorem impl_isBlurSide (d : Int) (w : World) :
    Calls Try.prog 56 #[.int .i64 d] w fun e w' => e = .returned (.bool (decide (1 ≤ d ∧ d ≤ 16))) ∧ w = w' := by
  go_enter Try.func56, Try.ntmps56
  go_wp2
  all_goals (go_ret; exact ⟨ret_bool (by first | (simp [*]; done) | (simp [*]; omega) | (simp; intros; omega)), rfl⟩)

theorem impl_isBlurSide_yes (d : Int) (w : World) (h1 : 1 ≤ d) (h2 : d ≤ 16) :
    Calls Try.prog 56 #[.int .i64 d] w fun e w' => e = .returned (.bool true) ∧ w = w' :=
  (impl_isBlurSide d w).mono fun e w' ⟨he, hw⟩ => ⟨by rw [he]; exact ret_bool (by simp [h1, h2]), hw⟩

theorem impl_isBlurSide_no (d : Int) (w : World) (h : ¬ (1 ≤ d ∧ d ≤ 16)) :
    Calls Try.prog 56 #[.int .i64 d] w fun e w' => e = .returned (.bool false) ∧ w = w' :=
  (impl_isBlurSide d w).mono fun e w' ⟨he, hw⟩ => ⟨by rw [he]; exact ret_bool (by simpa using h), hw⟩

theorem infoRow : (Try.prog.info? 23).map (fun i => (i.zero, i.size, i.bytes)) = some (some (.slice none 0 0), 1, 24) := by kernel_rfl

/-- 'make([][]int, n)'. -/
theorem wp_makeS (w : World) {ops : Array Oper} {rest : List Oper} {o : Oper} {a : Act} {Q : Exit → Act → World → Prop}
    (hg : o.guard = none) (l c : Operand) (hop : o.op = Op.makeSlice 68 l c) (kl kc : IntKind) (n : Nat) (hl : a.eval l = .int kl (n : Int)) (hc : a.eval c = .int kc (n : Int)) (hn : n ≤ 64)
    (hK : ∀ M : Array Value, M.size = n → wpList Try.prog ops Q rest (a.put o.dst (.slice (some ⟨w.heap.size, 0, none⟩) n n)) (w.alloc (.cells M 23))) :
    wpList Try.prog ops Q (o :: rest) a w := by
  obtain ⟨i, hi, hz0, hz1, hz2⟩ := info_parts infoRow
  refine wpList_plain hg fun K hK' => ?_
  have hr := run_make (P := Try.prog) w 68 23 i (.slice none 0 0) Try.underlying68 hi hz0 kl kc n n (by omega) (Int.le_refl _) (by rw [hz2]; omega) (by omega)
  simp only [Int.toNat_natCast, hz1, Nat.mul_one] at hr
  unfold Oper.wp
  simp only [Value.cells] at hr
  simp [execOp, hop, hl, hc, hr, Result.andThen]
  exact hK' _ _ (hK _ (size_madeCells _ _))

theorem within_up {xs : List Int} (h : within xs 1 = true) : within xs 255 = true := by
  unfold within at h ⊢
  rw [List.all_eq_true] at h ⊢
  intro v hv
  have := h v hv
  simp at this ⊢
  omega

theorem rd_other {w : World} {a : Option Addr} {xs : List Int} {g j : Nat} {u : Value} (h : Rd w a xs) (hne : ∀ x, blockOf a = some x → x ≠ g) : Rd (w.setCell ⟨g, j, none⟩ u) a xs := by
  intro k hk
  obtain ⟨b, off, h1, h2, h3⟩ := h k hk
  refine ⟨b, off, h1, by simpa [World.setCell] using h2, ?_⟩
  rw [← h3]
  have hb : b ≠ g := hne b (by rw [h1]; rfl)
  exact World.cell?_of_block (Below.heap_setCell w ⟨g, j, none⟩ u b (by simp; omega))

/-- Row y of the prolonged ones. -/
def RowAt (W L : Nat) (xs : List Int) (gr : Nat) (M : Array Value) (w : World) (y : Nat) : Prop :=
  ∃ a n c, M[y]? = some (.slice a n c) ∧ L ≤ n ∧ n ≤ c ∧ n ≤ 1048576 ∧ Rd w a (perR W xs y n) ∧ ∀ x, blockOf a = some x → x ≠ gr

theorem RowAt.below {W L gr y : Nat} {xs : List Int} {M : Array Value} {w w' : World} (h : RowAt W L xs gr M w y) (hb : Below w.heap.size w w') : RowAt W L xs gr M w' y := by
  obtain ⟨a, n, c, h1, h2, h3, h4, h5, h6⟩ := h
  exact ⟨a, n, c, h1, h2, h3, h4, h5.below hb, h6⟩

theorem RowAt.set {W L gr y : Nat} {xs : List Int} {M : Array Value} {w : World} (h : RowAt W L xs gr M w y) (k : Nat) (u : Value) (hk : y < k) : RowAt W L xs gr (M.setIfInBounds k u) (w.setCell ⟨gr, k, none⟩ u) y := by
  obtain ⟨a, n, c, h1, h2, h3, h4, h5, h6⟩ := h
  exact ⟨a, n, c, by rw [Array.getElem?_setIfInBounds_ne (by omega)]; exact h1, h2, h3, h4, rd_other h5 h6, h6⟩

set_option maxRecDepth 100000 in
set_option maxHeartbeats 6400000 in
theorem impl_BlurPicture (W H : Int) (ad : Option Addr) (n cap : Nat) (xs : List Int) (tw th : Int) (w : World) (hn : xs.length = n) (ha : Rd w ad xs) (hc : n ≤ cap) (hc2 : cap ≤ 9223372036854775807) :
    Calls Try.prog 16 #[.agg #[.int .i64 W, .int .i64 H, .slice ad n cap], .int .i64 tw, .int .i64 th] w (PicOut2 w (blurF W H xs tw th)) := by
  have hl : n ≤ 9223372036854775807 := by omega
  have HN := Lib.hid hn
  have HA := Lib.hid ha
  clear hn ha
  by_cases hp : picOk W H xs 1 = true
  case neg =>
    have hp2 : picOk W H xs 1 = false := by simpa using hp
    rw [blurF_no (fun h => hp h.1)]
    clear hp
    go_enter Try.func16, Try.ntmps16
    go_wp2_with fail
    refine (impl_IsPlate _ _ _ _ _ xs _ HN.out (by exact (HA.out.alloc _).alloc _) hl).mono ?_
    rintro e w1 ⟨rfl, hb⟩
    have HB1 := Lib.hid ((Joins.below_alloc2 _ _ _).trans (hb.mono (by simp; omega)))
    have KP1 := Lib.hid (((Blk.new w 30 #[.int .i64 W, .int .i64 H, .slice ad n cap]).alloc _).below' hb)
    have KR1 : Hid (Blk w1 (w.heap.size + 1) 30 #[.int .i64 0, .int .i64 0, .slice none 0 0]) := by
      have h := (Blk.new (w.alloc (.cells #[.int .i64 W, .int .i64 H, .slice ad n cap] 30)) 30 #[.int .i64 0, .int .i64 0, .slice none 0 0]).below' hb
      exact Lib.hid (by simpa using h)
    obtain ⟨l1, c0, c1, c2⟩ := KP1.out.c3
    obtain ⟨m1, d0, d1, d2⟩ := KR1.out.c3
    obtain ⟨f0, f1, f2⟩ := KR1.out.f3
    clear hb
    rw [hp2]
    go_wp2_with fail
    exact bodyPost_ret (v := .tuple #[.agg #[.int .i64 0, .int .i64 0, .slice none 0 0], .bool false]) (by simp [results, Try.results16, go_sem, d0, d1, d2]) rfl ⟨none, 0, 0, rfl, OwnA.none _ _, by omega,
      ((HB1.out.setCell (by first | (simp; done) | (simp; omega)) _).setCell (by first | (simp; done) | (simp; omega)) _).setCell (by first | (simp; done) | (simp; omega)) _⟩
  case pos =>
    by_cases h1 : 1 ≤ tw ∧ tw ≤ 16
    case neg =>
      rw [blurF_no (fun h => h1 ⟨h.2.1, h.2.2.1⟩)]
      have HV := Lib.hid h1
      clear h1
      go_enter Try.func16, Try.ntmps16
      go_wp2_with fail
      refine (impl_IsPlate _ _ _ _ _ xs _ HN.out (by exact (HA.out.alloc _).alloc _) hl).mono ?_
      rintro e w1 ⟨rfl, hb⟩
      have HB1 := Lib.hid ((Joins.below_alloc2 _ _ _).trans (hb.mono (by simp; omega)))
      have KP1 := Lib.hid (((Blk.new w 30 #[.int .i64 W, .int .i64 H, .slice ad n cap]).alloc _).below' hb)
      have KR1 : Hid (Blk w1 (w.heap.size + 1) 30 #[.int .i64 0, .int .i64 0, .slice none 0 0]) := by
        have h := (Blk.new (w.alloc (.cells #[.int .i64 W, .int .i64 H, .slice ad n cap] 30)) 30 #[.int .i64 0, .int .i64 0, .slice none 0 0]).below' hb
        exact Lib.hid (by simpa using h)
      obtain ⟨l1, c0, c1, c2⟩ := KP1.out.c3
      obtain ⟨m1, d0, d1, d2⟩ := KR1.out.c3
      obtain ⟨f0, f1, f2⟩ := KR1.out.f3
      clear hb
      rw [hp]
      go_wp2_with fail
      refine (impl_isBlurSide_no _ _ HV.out).mono ?_
      rintro e w2 ⟨rfl, rfl⟩
      go_wp2_with fail
      exact bodyPost_ret (v := .tuple #[.agg #[.int .i64 0, .int .i64 0, .slice none 0 0], .bool false]) (by simp [results, Try.results16, go_sem, d0, d1, d2]) rfl ⟨none, 0, 0, rfl, OwnA.none _ _, by omega,
        ((HB1.out.setCell (by first | (simp; done) | (simp; omega)) _).setCell (by first | (simp; done) | (simp; omega)) _).setCell (by first | (simp; done) | (simp; omega)) _⟩
    case pos =>
      obtain ⟨t1, t2⟩ := h1
      by_cases h2 : 1 ≤ th ∧ th ≤ 16
      case neg =>
        rw [blurF_no (fun h => h2 ⟨h.2.2.2.1, h.2.2.2.2⟩)]
        have HV := Lib.hid h2
        clear h2
        go_enter Try.func16, Try.ntmps16
        go_wp2_with fail
        refine (impl_IsPlate _ _ _ _ _ xs _ HN.out (by exact (HA.out.alloc _).alloc _) hl).mono ?_
        rintro e w1 ⟨rfl, hb⟩
        have HB1 := Lib.hid ((Joins.below_alloc2 _ _ _).trans (hb.mono (by simp; omega)))
        have KP1 := Lib.hid (((Blk.new w 30 #[.int .i64 W, .int .i64 H, .slice ad n cap]).alloc _).below' hb)
        have KR1 : Hid (Blk w1 (w.heap.size + 1) 30 #[.int .i64 0, .int .i64 0, .slice none 0 0]) := by
          have h := (Blk.new (w.alloc (.cells #[.int .i64 W, .int .i64 H, .slice ad n cap] 30)) 30 #[.int .i64 0, .int .i64 0, .slice none 0 0]).below' hb
          exact Lib.hid (by simpa using h)
        obtain ⟨l1, c0, c1, c2⟩ := KP1.out.c3
        obtain ⟨m1, d0, d1, d2⟩ := KR1.out.c3
        obtain ⟨f0, f1, f2⟩ := KR1.out.f3
        clear hb
        rw [hp]
        go_wp2_with fail
        refine (impl_isBlurSide_yes _ _ t1 t2).mono ?_
        rintro e w2 ⟨rfl, rfl⟩
        go_wp2_with fail
        refine (impl_isBlurSide_no _ _ HV.out).mono ?_
        rintro e w2 ⟨rfl, rfl⟩
        go_wp2_with fail
        exact bodyPost_ret (v := .tuple #[.agg #[.int .i64 0, .int .i64 0, .slice none 0 0], .bool false]) (by simp [results, Try.results16, go_sem, d0, d1, d2]) rfl ⟨none, 0, 0, rfl, OwnA.none _ _, by omega,
          ((HB1.out.setCell (by first | (simp; done) | (simp; omega)) _).setCell (by first | (simp; done) | (simp; omega)) _).setCell (by first | (simp; done) | (simp; omega)) _⟩
      case pos =>
        obtain ⟨t3, t4⟩ := h2
        obtain ⟨hs, hq, hi⟩ := picOk_bd HN.out hp
        obtain ⟨b1, b2, b3, b4, b5, b6⟩ := sizeOk_bd hs
        have HQ := Lib.hid hq
        have HI := Lib.hid hi
        have HS := Lib.hid hs
        have hn1 : 1 ≤ n := by omega
        have hn2 : n ≤ 1024 := by omega
        clear hq hi hs
        obtain ⟨W, rfl⟩ : ∃ k : Nat, W = (k : Int) := ⟨W.toNat, by omega⟩
        obtain ⟨H, rfl⟩ : ∃ k : Nat, H = (k : Int) := ⟨H.toNat, by omega⟩
        obtain ⟨tw, rfl⟩ : ∃ k : Nat, tw = (k : Int) := ⟨tw.toNat, by omega⟩
        obtain ⟨th, rfl⟩ : ∃ k : Nat, th = (k : Int) := ⟨th.toNat, by omega⟩
        rw [blurF_yes HN.out hp (by omega) (by omega) (by omega) (by omega)]
        have HNW : Hid (n = W * H) := Lib.hid (by have := HQ.out; have e : ((W : Int) * (H : Int)) = ((W * H : Nat) : Int) := by simp
                                                  omega)
        obtain ⟨L, hL⟩ : ∃ L : Nat, L + 1 = W + tw := ⟨W + tw - 1, by omega⟩
        have hW1 : IntKind.i64.wrap ((W : Int) + (tw : Int)) = (W : Int) + (tw : Int) := IntWalk.i64_in _ (by omega)
        have hW2 : IntKind.i64.wrap ((W : Int) + (tw : Int) - 1) = (L : Int) := by rw [IntWalk.i64_in _ (by omega)]; omega
        have HW1 := Lib.hid hW1
        have HW2 := Lib.hid hW2
        have HP := Lib.hid hp
        have HHi : H ≤ 64 := by omega
        clear hW1 hW2 b5 b6
        go_enter Try.func16, Try.ntmps16
        go_wp2_with fail
        refine (impl_IsPlate _ _ _ _ _ xs _ HN.out (by exact (HA.out.alloc _).alloc _) hl).mono ?_
        rintro e w1 ⟨rfl, hb⟩
        have HB1 := Lib.hid ((Joins.below_alloc2 _ _ _).trans (hb.mono (by simp; omega)))
        have KP1 := Lib.hid (((Blk.new w 30 #[.int .i64 W, .int .i64 H, .slice ad n cap]).alloc _).below' hb)
        have KR1 : Hid (Blk w1 (w.heap.size + 1) 30 #[.int .i64 0, .int .i64 0, .slice none 0 0]) := by
          have h := (Blk.new (w.alloc (.cells #[.int .i64 W, .int .i64 H, .slice ad n cap] 30)) 30 #[.int .i64 0, .int .i64 0, .slice none 0 0]).below' hb
          exact Lib.hid (by simpa using h)
        obtain ⟨l1, c0, c1, c2⟩ := KP1.out.c3
        obtain ⟨m1, d0, d1, d2⟩ := KR1.out.c3
        obtain ⟨f0, f1, f2⟩ := KR1.out.f3
        clear hb
        rw [hp]
        clear hp
        go_wp2_with fail
        refine (impl_isBlurSide_yes _ _ t1 t2).mono ?_
        rintro e w2 ⟨rfl, rfl⟩
        go_wp2_with fail
        refine (impl_isBlurSide_yes _ _ t3 t4).mono ?_
        rintro e w2 ⟨rfl, rfl⟩
        go_wp2_with (at_make; refine wp_makeS _ rfl _ _ rfl .i64 .i64 H rfl rfl HHi ?_; intro M0 hM0)
        obtain ⟨ba, oa, hae, hal, hac⟩ := HA.out.at (by have := HN.out; omega)
        subst hae
        have HM0 := Lib.hid hM0
        have hba : ba < w1.heap.size := by have := HB1.out.size; omega
        clear hac hM0
        have NP : w1.heap.size ≠ w.heap.size := by have := KP1.out.lt; omega
        go_loopw [35] (fun i wr => ∃ (k : Nat) (M : Array Value), k ≤ H ∧ i = .int .i64 k ∧ Blk wr w1.heap.size 23 M ∧ Hid (M.size = H) ∧ Hid (∀ y, y < k → RowAt W L xs w1.heap.size M wr y) ∧ Below w1.heap.size w1 wr) (fun i _ => H - (intOf i).toNat)
        case atStart => exact ⟨0, M0, Nat.zero_le _, rfl, Blk.new _ _ _, HM0.out, fun y hy => absurd hy (by omega), Joins.below_alloc1 _ _⟩
        case round =>
          clear c0 c1 c2 d0 d1 d2 f0 f1 f2 l1 m1
          obtain ⟨k, M, hk, rfl, hbm, HMS, HRW, hnx⟩ := hrel
          have HNX := Lib.hid hnx
          have KM := Lib.hid hbm
          have HBr := Lib.hid (bTrans HB1.out hnx)
          have KP := Lib.hid (KP1.out.below' hnx)
          obtain ⟨l9, p0, p1, p2⟩ := KP.out.c3
          have lM := KM.out.lt
          clear hnx hbm
          by_cases hlt : k < H
          · have hrow : k * W + W ≤ n := by
              have e : (k + 1) * W ≤ H * W := Nat.mul_le_mul_right W (by omega)
              rw [Nat.add_mul, Nat.one_mul, Nat.mul_comm H W, ← HNW.out] at e
              exact e
            have LW : Hid (((xs.drop (k * W)).take W).length = W) := Lib.hid (by rw [List.length_take, List.length_drop, HN.out]; omega)
            have RW : Hid (Rd wr (some ⟨ba, oa + k * W, none⟩) ((xs.drop (k * W)).take W)) := Lib.hid (rd_window (HA.out.below HBr.out) (k * W) W)
            have CW : Hid (∀ j, j < W → ((xs.drop (k * W)).take W).getD j 0 = xs.getD (k * W + j) 0) := Lib.hid (fun j hj => by
              simp only [List.getD, List.getElem?_take, List.getElem?_drop]
              rw [if_pos hj])
            obtain ⟨mv, hmv⟩ : ∃ mv, M[k]? = some mv := ⟨_, Array.getElem?_eq_getElem (by have := HMS.out; omega)⟩
            have gk : wr.cell? ⟨w1.heap.size, k, none⟩ = some mv := by rw [KM.out.cell]; exact hmv
            have gf := KM.out.frozen k
            clear hmv
            go_wp2_with fail
            have hW1 := HW1.out
            have hW2 := HW2.out
            go_region_held3 (fun v => v.cell? ⟨w.heap.size, 0, none⟩ = some (.int .i64 W) ∧ v.cell? ⟨w.heap.size, 1, none⟩ = some (.int .i64 H) ∧ v.cell? ⟨w.heap.size, 2, none⟩ = some (.slice (some ⟨ba, oa, none⟩) n cap))
              (first | exact ⟨p0, p1, p2⟩ | exact ⟨y0, y1, y2⟩ | exact ⟨z0, z1, z2⟩ | exact ⟨cell_far z0 NP, cell_far z1 NP, cell_far z2 NP⟩)
              (first
                | (go_at_call 55; ((with_reducible refine (impl_rowOf W H ba oa n cap k _ _ rfl (by omega) (by omega) (by omega) hrow hc (by omega)).mono ?_); rintro e v1 ⟨rfl, hq1⟩; have y0 := (hq1.cell l9).trans p0; have y1 := (hq1.cell l9).trans p1; have y2 := (hq1.cell l9).trans p2; have yk := (hq1.cell lM).trans gk; have yf := (hq1.frozen lM).trans gf))
                | (go_at_call 57; ((with_reducible refine (impl_prolonged ba (oa + k * W) W L k xs ((xs.drop (k * W)).take W) _ _ rfl LW.out (by exact (RW.out.drew).below hq1) (by omega) (by omega) (by omega) CW.out).mono ?_); rintro e v2 ⟨a5, n5, c5, rfl, hn5, hc5, hm5, hr5, ho5, hq2⟩; have z0 := (hq2.cell (Nat.lt_of_lt_of_le l9 hq1.size)).trans y0; have z1 := (hq2.cell (Nat.lt_of_lt_of_le l9 hq1.size)).trans y1; have z2 := (hq2.cell (Nat.lt_of_lt_of_le l9 hq1.size)).trans y2; have zk := (hq2.cell (Nat.lt_of_lt_of_le lM hq1.size)).trans yk; have zf := (hq2.frozen (Nat.lt_of_lt_of_le lM hq1.size)).trans yf)))
            have HW5 := Lib.hid ((bTrans (bTrans HNX.out.drew hq1) hq2))
            have KM5 := Lib.hid (((KM.out.drew).below' hq1).below' hq2)
            have hne : ∀ x, blockOf a5 = some x → x ≠ w1.heap.size := fun x hx => by
              rcases ho5 x hx with h | h
              · omega
              · have h5 := hq1.size
                have h6 := lM
                have e0 : wr.drew.heap.size = wr.heap.size := rfl
                omega
            have HRW5 : Hid (∀ y, y < k + 1 → RowAt W L xs w1.heap.size (M.setIfInBounds k (.slice a5 n5 c5)) (v2.setCell ⟨w1.heap.size, k, none⟩ (.slice a5 n5 c5)) y) := Lib.hid (fun y hy => by
              by_cases e : y = k
              · subst e
                exact ⟨a5, n5, c5, by rw [Array.getElem?_setIfInBounds_self]; rw [if_pos (by have := HMS.out; omega)], hn5, hc5, hm5, rd_other hr5 hne, hne⟩
              · have h := (HRW.out y (by omega))
                obtain ⟨a6, n6, c6, q1, q2, q3, q4, q5, q6⟩ := h
                have h7 : RowAt W L xs w1.heap.size M v2 y := ⟨a6, n6, c6, q1, q2, q3, q4, (q5.drew.below hq1).below hq2, q6⟩
                exact h7.set k _ (by omega))
            have HMS5 : Hid ((M.setIfInBounds k (.slice a5 n5 c5)).size = H) := Lib.hid (by rw [Array.size_setIfInBounds]; exact HMS.out)
            clear hq1 hq2 hr5 ho5 y0 y1 y2 z0 z1 z2 yk yf zk zf hW1 hW2 hne
            go_wp2_with fail
            go_roundw
            case rel => exact ⟨k + 1, _, by omega, by go_num, KM5.out.set k _, HMS5, HRW5, HW5.out.setCell (Nat.le_refl _) _⟩
            case measure => simp [intOf]; omega
          · obtain rfl : k = H := by omega
            obtain ⟨w3, hw3⟩ : ∃ v, v = wr := ⟨_, rfl⟩
            subst hw3
            have KR3 := Lib.hid (KR1.out.below' HNX.out)
            obtain ⟨F, hF⟩ : ∃ F : List Int, F = gen n (blurG W k xs tw th) := ⟨_, rfl⟩
            have HF := Lib.hid hF
            have HFL : Hid (F.length = n) := Lib.hid (by rw [hF]; exact gen_len _ _)
            obtain ⟨hh, hhh⟩ : ∃ hh, hh = k := ⟨_, rfl⟩
            subst hhh
            clear hF
            go_wp2_with fail
            refine (impl_blank W hh n _ HS.out HQ.out).mono ?_
            rintro e w2 ⟨g, rfl, hg, ho, hb⟩
            have HB2 := Lib.hid hb
            have HO := Lib.hid ho
            have HG := Lib.hid hg
            have KP2 := Lib.hid (KP.out.below' hb)
            clear hb ho hg p0 p1 p2 l9
            obtain ⟨l9, p0, p1, p2⟩ := KP2.out.c3
            go_wp2_with fail
            go_loopw [59] (fun i wr => ∃ k : Nat, k ≤ n ∧ i = .int .i64 k ∧ Own wr g n n (filled F (List.replicate n 0) k) ∧ Blk wr w2.heap.size 30 #[.int .i64 W, .int .i64 hh, .slice (some ⟨g, 0, none⟩) n n] ∧ Below w3.heap.size w3 wr) (fun i _ => n - (intOf i).toNat)
            case atStart => exact ⟨0, Nat.zero_le _, rfl, by rw [filled_zero]; exact HO.out.alloc _, Blk.new _ _ _, bAlloc HB2.out _⟩
            case round =>
              clear p0 p1 p2 l9
              obtain ⟨k, hk, rfl, ho, hbx, hnx⟩ := hrel
              have HW := Lib.hid hnx
              have HO2 := Lib.hid ho
              have KB := Lib.hid hbx
              have HBk := Lib.hid (bTrans HBr.out hnx)
              have KPk := Lib.hid (KP.out.below' hnx)
              obtain ⟨l9, p0, p1, p2⟩ := KPk.out.c3
              obtain ⟨l0, o0, o1, o2⟩ := KB.out.c3
              clear ho hbx hnx
              by_cases hlt : k < n
              · obtain ⟨X, hX⟩ : ∃ X, X = k % W := ⟨_, rfl⟩
                obtain ⟨Y, hY⟩ : ∃ Y, Y = k / W := ⟨_, rfl⟩
                have hX1 : X < W := by rw [hX]; exact Nat.mod_lt _ (by omega)
                have hY1 : Y ≤ 1024 := by rw [hY]; exact Nat.le_trans (Nat.div_le_self _ _) (by omega)
                have tX : (k : Int).tmod (W : Int) = (X : Int) := by rw [Int.tmod_eq_emod_of_nonneg (by omega), hX]; simp
                have tY : (k : Int).tdiv (W : Int) = (Y : Int) := by rw [Int.tdiv_eq_ediv_of_nonneg (by omega), hY]; simp
                have wY : IntKind.i64.wrap (Y : Int) = (Y : Int) := IntWalk.i64_in _ (by omega)
                have z5 : ((W : Int) == 0) = false := by simp; omega
                have z6 : ¬ (W : Int) = 0 := by omega
                have TX := Lib.hid tX
                have TY := Lib.hid tY
                have WY := Lib.hid wY
                have HXX := Lib.hid hX
                have HYY := Lib.hid hY
                clear tX tY wY hX hY
                go_wp2_with fail
                have tX := TX.out
                have tY := TY.out
                have wY := WY.out
                go_region
                clear tX tY wY
                go_wp2_with fail
                go_loopw [14, 71] (fun s i wr => ∃ q : Nat, q ≤ th ∧ i = .int .i64 q ∧ s = .int .i64 (blurS W hh xs tw k (tw * q)) ∧ Own wr g n n (filled F (List.replicate n 0) k) ∧ Blk wr w2.heap.size 30 #[.int .i64 W, .int .i64 hh, .slice (some ⟨g, 0, none⟩) n n] ∧ Below w3.heap.size w3 wr) (fun _ i _ => th - (intOf i).toNat)
                case atStart => exact ⟨0, Nat.zero_le _, rfl, by simp [blurS, sumR], HO2.out.drewN 1, KB.out.drew, HW.out.drew⟩
                case round =>
                  clear p0 p1 p2 l9 o0 o1 o2 l0
                  obtain ⟨q, hq, rfl, rfl, ho, hbx, hnx⟩ := hrel
                  have HW4 := Lib.hid hnx
                  have HO4 := Lib.hid ho
                  have KB4 := Lib.hid hbx
                  have KP4 := Lib.hid (KP.out.below' hnx)
                  have KM4 := Lib.hid (KM.out.below' hnx)
                  have HB4 := Lib.hid (bTrans HBr.out hnx)
                  obtain ⟨l9, p0, p1, p2⟩ := KP4.out.c3
                  obtain ⟨l0, o0, o1, o2⟩ := KB4.out.c3
                  obtain ⟨b0, b1⟩ := blurS_bd (W := W) (H := hh) (w := tw) (i := k) (xs := xs) (picOk_bd HN.out HP.out).2.2 (tw * q)
                  have htq : tw * q ≤ 16 * 16 := Nat.mul_le_mul (by omega) (by omega)
                  obtain ⟨T, hT⟩ : ∃ T, T = blurS W hh xs tw k (tw * q) := ⟨_, rfl⟩
                  rw [← hT] at b0 b1 ⊢
                  have b2 : T ≤ 256 := by omega
                  have HT := Lib.hid hT
                  clear b1 hT ho hbx htq
                  by_cases hqt : q < th
                  · obtain ⟨z, hz⟩ : ∃ z, z = (Y + q) % hh := ⟨_, rfl⟩
                    have hz1 : z < hh := by rw [hz]; exact Nat.mod_lt _ (by omega)
                    have ez : ((Y : Int) + (q : Int)) % (hh : Int) = (z : Int) := by rw [hz]; simp
                    obtain ⟨a5, n5, c5, q1, q2, q3, q4, q5, q6⟩ := (HRW.out z hz1).below hnx
                    have gz : wr.cell? ⟨w1.heap.size, z, none⟩ = some (.slice a5 n5 c5) := by rw [KM4.out.cell]; exact q1
                    obtain ⟨b5, f5, hae, _, _⟩ := q5.at (by rw [perR_len]; omega)
                    subst hae
                    obtain ⟨S, hS⟩ : ∃ S, S = winS (perR W xs z n5) X tw := ⟨_, rfl⟩
                    have hXn : X + tw ≤ n5 := by omega
                    have hSb := winS_bd (perR_within (W := W) (y := z) (n := n5) (xs := xs) (within_up HI.out) (by omega)) X tw (by rw [perR_len]; exact hXn)
                    rw [← hS] at hSb
                    obtain ⟨s0, s1⟩ := hSb
                    have s2 : S ≤ 4080 := by omega
                    have hTS : Hid (T + S = blurS W hh xs tw k (tw * (q + 1))) := Lib.hid (by
                      have h := blur_next (W := W) (H := hh) (w := tw) (i := k) (r := q) (n := n5) (xs := xs) (by omega) (by rw [← HXX.out]; exact hXn)
                      rw [← HXX.out, ← HYY.out, ← hz, ← hS, ← HT.out] at h
                      exact h)
                    have RW5 := Lib.hid (rd_window q5 X tw)
                    have LW5 : Hid ((((perR W xs z n5).drop X).take tw).length = tw) := Lib.hid (by rw [List.length_take, List.length_drop, perR_len]; omega)
                    have WS5 : Hid (isum (((perR W xs z n5).drop X).take tw) = S) := Lib.hid hS.symm
                    have WI5 : Hid (within (((perR W xs z n5).drop X).take tw) 255 = true) := Lib.hid (within_sub (perR_within (within_up HI.out) (by omega)) _ _)
                    clear hS hz s1 q1 q5 hnx
                    go_wp2_with fail
                    refine (impl_window b5 f5 n5 c5 X tw _ _ _ rfl rfl (by omega) hXn q3 q4).mono ?_
                    rintro e w6 ⟨rfl, rfl⟩
                    go_wp2_with fail
                    refine (impl_sumOf _ tw _ (((perR W xs z n5).drop X).take tw) S _ LW5.out (by exact RW5.out) WI5.out (by omega) WS5.out).mono ?_
                    rintro e w6 ⟨rfl, rfl⟩
                    go_wp2_with fail
                    go_roundw
                    case rel => exact ⟨q + 1, by omega, by go_num, by rw [← hTS.out], HO4.out, KB4.out, HW4.out⟩
                    case measure => simp [intOf]; omega
                  · obtain rfl : q = th := by omega
                    obtain ⟨P, hP⟩ : ∃ P, P = tw * q := ⟨_, rfl⟩
                    have hP1 : 1 ≤ P := by rw [hP]; exact Nat.mul_le_mul (show 1 ≤ tw by omega) (show 1 ≤ q by omega)
                    have hP2 : P ≤ 256 := by rw [hP]; exact Nat.mul_le_mul (show tw ≤ 16 by omega) (show q ≤ 16 by omega)
                    obtain ⟨G, hG⟩ : ∃ G, G = blurG W hh xs tw q k := ⟨_, rfl⟩
                    have hGb := blurG_bd (W := W) (H := hh) (w := tw) (h := q) (i := k) (xs := xs) (picOk_bd HN.out HP.out).2.2 (by rw [← hP]; exact hP1)
                    rw [← hG] at hGb
                    obtain ⟨g0, g1⟩ := hGb
                    have mP : IntKind.i64.wrap ((tw : Int) * (q : Int)) = (P : Int) := by rw [← Int.natCast_mul, ← hP]; exact IntWalk.i64_in _ (by omega)
                    have mT : IntKind.i64.wrap (255 * T) = 255 * T := IntWalk.i64_in _ (by omega)
                    have tG : (255 * T).tdiv (P : Int) = G := by rw [Int.tdiv_eq_ediv_of_nonneg (by omega), hG, HT.out, hP]; rfl
                    have wG : IntKind.i64.wrap G = G := IntWalk.i64_in _ (by omega)
                    have zP : ((P : Int) == 0) = false := by simp; omega
                    have zQ : ¬ (P : Int) = 0 := by omega
                    have hs := HO4.out.set k G
                    rw [filled_succ F _ k _ (by rw [HFL.out]; exact hlt) (by simp; omega) (by rw [HF.out, gen_get _ _ _ hlt, hG])] at hs
                    have HSt := Lib.hid hs
                    have g2 := HO4.out.cell hlt
                    have g3 := HO4.out.frozen k
                    have N1 : g ≠ w2.heap.size := by have := HO.out.lt; omega
                    have MP := Lib.hid mP
                    have MT := Lib.hid mT
                    have TG := Lib.hid tG
                    have WG := Lib.hid wG
                    clear hs hP hG mP mT tG wG hnx
                    go_wp2_with fail
                    have mP := MP.out
                    have mT := MT.out
                    have tG := TG.out
                    have wG := WG.out
                    go_region
                    clear mP mT tG wG
                    go_wp2_with fail
                    go_roundw
                    case rel => exact ⟨k + 1, by omega, by go_num, by first | exact HSt.out.drewN 1 | exact HSt.out, by first | exact (KB4.out.other (by simp; omega) _).drew | exact KB4.out.drew.other (by simp; omega) _, by first | exact (HW4.out.setCell (by simp; exact HG.out) _).drew | exact HW4.out.drew.setCell (by simp; exact HG.out) _⟩
                    case measure => simp [intOf]; omega
              · obtain rfl : n = k := by omega
                have KR := Lib.hid (KR3.out.below' HW.out)
                obtain ⟨r0, r1, r2, r3⟩ := KR.out.c3
                obtain ⟨q0, q1, q2⟩ := KR.out.f3
                have ho := HO2.out
                rw [filled_at F _ n HFL.out (by simp)] at ho
                have HO3 := Lib.hid ho
                have hg1 : w.heap.size + 1 < g := by have := HG.out; have := KR3.out.lt; omega
                clear ho
                go_wp2_with fail
                rw [← HF.out]
                exact bodyPost_ret (v := .tuple #[.agg #[.int .i64 W, .int .i64 hh, .slice (some ⟨g, 0, none⟩) n n], .bool true]) (by simp [results, Try.results16, go_sem, r0, r1, r2, r3]) rfl
                  ⟨_, _, _, rfl, OwnA.mk (((HO3.out.other (by simp; omega) _).other (by simp; omega) _).other (by simp; omega) _) (by omega), by omega,
                    ((HBk.out.setCell (by simp) _).setCell (by simp) _).setCell (by simp) _⟩

end Go.Proofs.Ytgepjfdnlnemjaa
