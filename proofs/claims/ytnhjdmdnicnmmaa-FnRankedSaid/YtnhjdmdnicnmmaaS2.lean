/-
  The library's stable sort: the insertion sort of its blocks.
-/
import Derived.Test.YtnhjdmdnicnmmaaS1
import Derived.Shelf.Abstract
namespace Go.Proofs.Ytnhjdmdnicnmmaa
open Go.RowKit
set_option linter.unusedVariables false
set_option linter.unusedSimpArgs false

/-- What is asked of the comparison: in every world in which the row is rewritten and memory has grown, called with two numbers of the row it tells how their keys lie; it leaves what lay there. -/
def CmpN (g : Nat) (cb : Array Value) (key : Int → Int) (blk n : Nat) (w0 : World) : Prop :=
  ∀ (W : World), w0.grownBy W (some blk) → ∀ x y : Int, 0 ≤ x → x < n → 0 ≤ y → y < n →
    Calls Try.prog g (#[.int .i64 x, .int .i64 y] ++ cb) W fun e W' => ∃ c : Int, e = .returned (.int .i64 c) ∧ (c < 0 ↔ key x < key y) ∧ Below W.heap.size W W'

theorem CmpN.on {g : Nat} {cb : Array Value} {key : Int → Int} {blk n : Nat} {w0 w : World} (h : CmpN g cb key blk n w0) (hg : w0.grownBy w (some blk)) : CmpN g cb key blk n w :=
  fun W hW => h W (grown_trans hg hW)

theorem grown_of_belowS {w w' : World} (h : Below w.heap.size w w') (row : Option Nat) : w.grownBy w' row := ⟨h.os, h.tape, h.output, h.size, fun i hi _ => h.block i hi⟩

/-- The state within a round of the insertion sort: number i of the block stands at j. -/
structure InsJ (key : Int → Int) (f f0 : Nat → Int) (a i j : Nat) : Prop where
  aj : a ≤ j
  ji : j ≤ i
  at_ : f j = (i : Int)
  srt : ∀ p q, a ≤ p → p < q → q ≤ i → p ≠ j → q ≠ j → RL key (f p) (f q)
  up : ∀ q, j < q → q ≤ i → RL key (i : Int) (f q)
  val : ∀ p, a ≤ p → p ≤ i → p ≠ j → (a : Int) ≤ f p ∧ f p < i
  out : ∀ p, p < a ∨ i < p → f p = f0 p

/-- Between the rounds. -/
structure InsI (key : Int → Int) (f f0 : Nat → Int) (a i : Nat) : Prop where
  srt : Srt key f a i
  val : ∀ p, a ≤ p → p < i → (a : Int) ≤ f p ∧ f p < i
  out : ∀ p, p < a ∨ i ≤ p → f p = f0 p

theorem InsI.start {key : Int → Int} {f : Nat → Int} {a : Nat} (h : f a = (a : Int)) : InsI key f f a (a + 1) :=
  ⟨fun i j _ _ _ => by omega, fun p h1 h2 => by obtain rfl : p = a := by omega
                                                omega, fun _ _ => rfl⟩

theorem InsI.open {key : Int → Int} {f f0 : Nat → Int} {a i : Nat} (h : InsI key f f0 a i) (hi : f0 i = (i : Int)) (ha : a ≤ i) : InsJ key f f0 a i i :=
  ⟨ha, Nat.le_refl _, by rw [h.out i (by omega)]; exact hi, fun p q h1 h2 h3 h4 h5 => h.srt p q h1 h2 (by omega), fun q h1 h2 => by omega, fun p h1 h2 h3 => h.val p h1 (by omega), fun p hp => h.out p (by omega)⟩

theorem InsJ.close {key : Int → Int} {f f0 : Nat → Int} {a i j : Nat} (h : InsJ key f f0 a i j) (hs : j = a ∨ ¬ key (i : Int) < key (f (j - 1))) : InsI key f f0 a (i + 1) := by
  have aj := h.aj; have ji := h.ji
  have lo : ∀ p, a ≤ p → p < j → RL key (f p) (i : Int) := by
    intro p h1 h2
    rcases hs with e | e
    · omega
    · have v := h.val (j - 1) (by omega) (by omega) (by omega)
      have r : RL key (f (j - 1)) (i : Int) := RL.of_not (fun c => e ((RL.later v.2).1 c)) (by omega)
      by_cases e2 : p = j - 1
      · rw [e2]; exact r
      · exact (h.srt p (j - 1) h1 (by omega) (by omega) (by omega) (by omega)).trans r
  refine ⟨fun p q h1 h2 h3 => ?_, fun p h1 h2 => ?_, fun p hp => h.out p (by omega)⟩
  · by_cases c1 : p = j
    · subst c1; rw [h.at_]; exact h.up q h2 (by omega)
    · by_cases c2 : q = j
      · subst c2; rw [h.at_]; exact lo p h1 h2
      · exact h.srt p q h1 h2 (by omega) c1 c2
  · by_cases c1 : p = j
    · subst c1; rw [h.at_]; omega
    · have := h.val p h1 (by omega) c1; omega

theorem InsJ.step {key : Int → Int} {f f0 : Nat → Int} {a i j : Nat} (h : InsJ key f f0 a i (j + 1)) (ha : a ≤ j) (hk : key (i : Int) < key (f j)) : InsJ key (sw f (j + 1) j) f0 a i j := by
  have ji := h.ji
  have v := h.val j ha (by omega) (by omega)
  have r : RL key (i : Int) (f j) := (RL.later v.2).2 hk
  have s1 : sw f (j + 1) j (j + 1) = f j := by unfold sw; rw [if_pos rfl]
  have s2 : sw f (j + 1) j j = (i : Int) := by unfold sw; rw [if_neg (by omega), if_pos rfl]; exact h.at_
  have s3 : ∀ p, p ≠ j → p ≠ j + 1 → sw f (j + 1) j p = f p := fun p h1 h2 => by unfold sw; rw [if_neg h2, if_neg h1]
  refine ⟨ha, by omega, s2, fun p q h1 h2 h3 h4 h5 => ?_, fun q h1 h2 => ?_, fun p h1 h2 h3 => ?_, fun p hp => ?_⟩
  · by_cases c1 : p = j + 1
    · subst c1; rw [s1, s3 q h5 (by omega)]; exact h.srt j q ha (by omega) h3 (by omega) (by omega)
    · by_cases c2 : q = j + 1
      · subst c2; rw [s1, s3 p h4 c1]; exact h.srt p j h1 (by omega) (by omega) c1 (by omega)
      · rw [s3 p h4 c1, s3 q h5 c2]; exact h.srt p q h1 h2 h3 c1 c2
  · by_cases c1 : q = j + 1
    · subst c1; rw [s1]; exact r
    · rw [s3 q (by omega) c1]; exact h.up q (by omega) h2
  · by_cases c1 : p = j + 1
    · subst c1; rw [s1]; exact v
    · rw [s3 p h3 c1]; exact h.val p h1 h2 c1
  · rw [s3 p (by omega) (by omega)]; exact h.out p hp

set_option maxRecDepth 100000 in
set_option maxHeartbeats 1600000 in
theorem insertion5 (g : Nat) (cb : Array Value) (key : Int → Int) (blk n a b : Nat) (f : Nat → Int) (w : World) (eg : ∀ args w, (callFunc g args).run Try.prog w = .ok (.enter g args) w) (hcmp : CmpN g cb key blk n w) (ho : Own w blk n n (gen n f)) (hn : n ≤ 100000) (h1 : a < b) (h2 : b ≤ n)
    (hid : ∀ k, a ≤ k → k < b → f k = (k : Int)) :
    Calls Try.prog 67 #[.slice (some ⟨blk, 0, none⟩) n n, .int .i64 a, .int .i64 b, .func (.func g) #[] cb] w fun e w' => ∃ f', e = .returned (.tuple #[]) ∧ Own w' blk n n (gen n f') ∧ w.grownBy w' (some blk) ∧ InsI key f' f a b := by
  have HO := Lib.hid ho
  have HC : Aside _ := hcmp
  have HI := Lib.hid hid
  clear ho hcmp hid
  go_enter Try.func67, Try.ntmps67
  go_wp2_with fail
  go_loopg [8] (b - a) (fun gh vi wr => ∃ (i : Nat) (F : Nat → Int), vi = .int .i64 i ∧ a < i ∧ i ≤ b ∧ b ≤ i + gh ∧ Hid (InsI key F f a i) ∧ Hid (Own wr blk n n (gen n F)) ∧ Hid (w.grownBy wr (some blk)))
  case atStart => exact ⟨a + 1, f, by go_num, by omega, by omega, by omega, Lib.hid (InsI.start (HI.out a (Nat.le_refl _) h1)), HO, Lib.hid (grown_refl _ _)⟩
  case round =>
    obtain ⟨i, F, rfl, i1, i2, hg1, HF, HR, HG⟩ := hrel
    by_cases hlt : i < b
    · go_wp2_with fail
      go_loopg [9] i (fun gh vj wr2 => ∃ (j : Nat) (F2 : Nat → Int), vj = .int .i64 j ∧ a ≤ j ∧ j ≤ i ∧ j ≤ gh ∧ Hid (InsJ key F2 f a i j) ∧ Hid (Own wr2 blk n n (gen n F2)) ∧ Hid (w.grownBy wr2 (some blk)))
      case atStart => exact ⟨i, F, rfl, by omega, Nat.le_refl _, Nat.le_refl _, Lib.hid (HF.out.open (HI.out i (by omega) hlt) (by omega)), HR, HG⟩
      case round =>
        clear HR HG HF
        obtain ⟨j, F2, rfl, j1, j2, hg2, HJ, HR, HG⟩ := hrel
        by_cases hja : a < j
        · obtain ⟨q, hq⟩ : ∃ q : Nat, j = q + 1 := ⟨j - 1, by omega⟩
          have zj : (j : Int) - 1 = (q : Int) := by omega
          have c1 : (a : Int) < (j : Int) := by omega
          have p2 : (j : Int) < (n : Int) := by omega
          have p4 : (q : Int) < (n : Int) := by omega
          have p5 : IntKind.i64.wrap (q : Int) = (q : Int) := IntWalk.i64_in _ (by omega)
          have p6 : q < n := by omega
          have HQ := Lib.hid hq
          clear hq
          have ca := own_c HR.out (i := j) (by omega)
          have cp := own_c HR.out (i := q) p6
          obtain ⟨x, hx⟩ : ∃ x, x = F2 j := ⟨_, rfl⟩
          obtain ⟨y, hy⟩ : ∃ y, y = F2 q := ⟨_, rfl⟩
          rw [← hx] at ca
          rw [← hy] at cp
          have HX := Lib.hid hx
          have HY := Lib.hid hy
          clear hx hy
          have MK : Hid (∀ v, BelowL wr v → v.cell? ⟨blk, j, none⟩ = some (.int .i64 x) ∧ v.cell? ⟨blk, q, none⟩ = some (.int .i64 y) ∧ BelowL wr v) := Lib.hid (fun v h => ⟨(h.out.cell HR.out.lt).trans ca, (h.out.cell HR.out.lt).trans cp, h⟩)
          go_wp2_with fail
          have q0 := HG.out
          have HV := Lib.hid (HJ.out.val)
          have xv : 0 ≤ x ∧ x < n := by
            rw [HX.out, HJ.out.at_]; omega
          have yv : 0 ≤ y ∧ y < n := by
            have := HJ.out.val q (by have := HQ.out; omega) (by have := HQ.out; omega) (by have := HQ.out; omega)
            rw [HY.out]; omega
          have CC : Hid (∀ v, BelowL wr v → Calls Try.prog g (#[.int .i64 x, .int .i64 y] ++ cb) v fun e v' => ∃ c : Int, e = .returned (.int .i64 c) ∧ (c < 0 ↔ key x < key y) ∧ Below v.heap.size v v') := Lib.hid (fun v hv => HC.out v (grown_trans HG.out (grown_of_belowS hv.out _)) x y xv.1 xv.2 yv.1 yv.2)
          clear q0 HV xv yv
          go_region_held3 (fun v => v.cell? ⟨blk, j, none⟩ = some (.int .i64 x) ∧ v.cell? ⟨blk, q, none⟩ = some (.int .i64 y) ∧ BelowL wr v)
            (first | exact MK.out _ hb1 | exact MK.out _ (BelowL.start _))
            (first
              | (go_at_fn g; ((with_reducible refine (CC.out _ (limb3 (by assumption))).mono ?_); rintro e v1 ⟨c, rfl, hc, hq1⟩; have hb1 := BelowL.call (limb3 (by assumption)) hq1)))
          have HR1 := Lib.hid (HR.out.below hb1.out HR.out.lt)
          have HG1 := Lib.hid (grown_trans HG.out (grown_of_belowS hb1.out _))
          clear ca cp hb1 hq1 MK CC
          by_cases hk : key x < key y
          · have HK := Lib.hid hk
            have HJ2 := Lib.hid (show InsJ key (sw F2 j q) f a i q by
              have e := HQ.out
              subst e
              exact HJ.out.step (by omega) (by have h := HK.out; rw [HX.out, HJ.out.at_, HY.out] at h; exact h))
            clear HX HY hc
            go_wp2_with fail
            obtain ⟨iN, hiN⟩ : ∃ zz, zz = j := ⟨_, rfl⟩
            obtain ⟨jN, hjN⟩ : ∃ zz, zz = q := ⟨_, rfl⟩
            have ea : ((j : Int)).toNat = iN := by omega
            have pa : (0 : Int) ≤ (j : Int) := by omega
            have ba : (j : Int) < (n : Int) := by omega
            have ra : IntKind.i64.wrap ((j : Int)) = (j : Int) := by rw [IntKind.wrap_i64]; omega
            have ec : ((q : Int)).toNat = jN := by omega
            have pc : (0 : Int) ≤ (q : Int) := by omega
            have bc : (q : Int) < (n : Int) := by omega
            have rc : IntKind.i64.wrap ((q : Int)) = (q : Int) := by rw [IntKind.wrap_i64]; omega
            have hij : iN ≠ jN := by omega
            have hiB : iN < n := by omega
            have hjB : jN < n := by omega
            obtain ⟨sx, hx⟩ : ∃ zz, zz = (F2) iN := ⟨_, rfl⟩
            obtain ⟨sy, hy⟩ : ∃ zz, zz = (F2) jN := ⟨_, rfl⟩
            have SO := Lib.hid (sw_row HR1.out hiB hjB hij)
            have ca := own_c HR1.out hiB
            have cb' := own_c HR1.out hjB
            have fa := HR1.out.frozen iN
            have fb := HR1.out.frozen jN
            rw [← hx] at ca SO
            rw [← hy] at cb' SO
            obtain ⟨u, cu⟩ := own_c2 HR1.out hiB hjB hij (.int .i64 sy)
            have SE : sw (F2) iN jN = sw (F2) (j) (q) := by rw [hiN, hjN]
            rw [SE] at SO
            clear hx hy hij hiN hjN SE
            go_wp2_with fail
            go_big_region
            clear ca cb' fa fb cu
            go_wp2_with fail
            go_roundg q
            case measure => have := HQ.out; omega
            case rel => exact ⟨q, sw F2 j q, rfl, by have := HQ.out; omega, by have := HQ.out; omega, Nat.le_refl _, HJ2, Lib.hid (SO.out.drewN 1), Lib.hid (grown_drewN (grown_set (grown_set HG1.out _) _) 1)⟩
          · have HK := Lib.hid hk
            have HI2 := Lib.hid (show InsI key F2 f a (i + 1) from HJ.out.close (Or.inr (by
              have e := HQ.out
              subst e
              have h := HK.out
              rw [HX.out, HJ.out.at_, HY.out] at h
              exact h)))
            clear HX HY hc
            go_wp2_with fail
            go_roundg (b - (i + 1))
            case measure => omega
            case rel => exact ⟨i + 1, F2, by go_num, by omega, by omega, by omega, HI2, HR1, HG1⟩
        · have c0 : decide ((j : Int) > (a : Int)) = false := decide_eq_false (by omega)
          have c1 : ¬ (a : Int) < (j : Int) := by omega
          have HI2 := Lib.hid (show InsI key F2 f a (i + 1) from HJ.out.close (Or.inl (by omega)))
          go_wp2_with fail
          go_big_region
          go_wp2_with fail
          go_roundg (b - (i + 1))
          case measure => omega
          case rel => exact ⟨i + 1, F2, by go_num, by omega, by omega, by omega, HI2, Lib.hid (HR.out.drewN 1), Lib.hid (grown_drewN HG.out 1)⟩
    · obtain rfl : i = b := by omega
      go_wp2_with fail
      go_end0
      exact ⟨F, rfl, HR.out, HG.out, HF.out⟩

end Go.Proofs.Ytnhjdmdnicnmmaa
