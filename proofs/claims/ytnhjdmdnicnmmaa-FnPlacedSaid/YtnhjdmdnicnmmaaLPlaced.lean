/-
  FnPlaced: each rank of a field is where the tightest dot of the cells up to it is, or the widest void of the cells below it: the law returns true for every code. No conditions.
-/
import Derived.Test.YtnhjdmdnicnmmaaQ13
import Derived.Test.YtnhjdmdnicnmmaaM41
import Derived.Test.YtnhjdmdnicnmmaaQL
import Derived.Test.YtnhjdmdnicnmmaaFrameC
namespace Go.Proofs.Ytnhjdmdnicnmmaa.lPlaced
open Go.ChangeShapes Go.WideShapes Go.ChangeAt Go.RowKit
set_option linter.unusedVariables false
set_option linter.unusedSimpArgs false

theorem rank_call (W H : Int) (b off n cap : Nat) (xs : List Int) (w : World) (hn : xs.length = n) (ha : Rd w (some ⟨b, off, none⟩) xs) (hok : fieldOk W H xs = true) (hl : (ranksG W H xs).length = n) :
    Calls Try.prog 8 #[.agg #[.int .i64 W, .int .i64 H, .slice (some ⟨b, off, none⟩) n cap]] w fun e w' => ∃ a c, e = .returned (.tuple #[.agg #[.int .i64 W, .int .i64 H, .slice a n c], .bool true]) ∧ OwnA w' w.heap.size a n c (ranksG W H xs) ∧ Below w.heap.size w w' := by
  have b6 := (field_bd hn hok).2.2.2.2.2.1
  refine (impl_RankField W H b off n cap xs w hn ha (by omega)).mono ?_
  have e1 : rankF W H xs = (⟨W, H, ranksG W H xs⟩, true) := by unfold rankF; rw [if_pos hok]
  rw [e1]
  rintro e w' ⟨a, m, c, rfl, ho, hm, hb⟩
  have h := ho.len
  rw [show (({ W := W, H := H, ranks := ranksG W H xs } : Mat), true).1.ranks = ranksG W H xs from rfl, hl] at h
  subst h
  exact ⟨a, c, rfl, ho, hb⟩

theorem below_call (W H : Int) (a : Option Addr) (n c : Nat) (rs : List Int) (l : Int) (w : World) (hn : rs.length = n) (hr : Rd w a rs) (hl : n ≤ 1024) :
    Calls Try.prog 15 #[.agg #[.int .i64 W, .int .i64 H, .slice a n c], .int .i64 l] w fun e w' => ∃ a' c', e = .returned (.agg #[.int .i64 W, .int .i64 H, .slice a' n c']) ∧ Rd w' a' (rs.map (cellsG l)) ∧ Below w.heap.size w w' := by
  refine (laws_below6 W H a n c rs l w hn hr hl).mono ?_
  rintro e w' ⟨a', m, c', rfl, ho, hm, hb⟩
  have h := ho.len
  rw [show ({ W := W, H := H, ink := rs.map (cellsG l) } : Pic).ink = rs.map (cellsG l) from rfl, List.length_map, hn] at h
  subst h
  exact ⟨a', c', rfl, ho.rd, hb⟩

theorem tight_call (W H : Int) (a : Option Addr) (n c : Nat) (ys : List Int) (i : Nat) (w : World) (hn : ys.length = n) (hr : Rd w a ys) (hl : n ≤ 1024) (hi : tightF W H ys = i) (hok : fieldOk W H ys = true) :
    Calls Try.prog 14 #[.agg #[.int .i64 W, .int .i64 H, .slice a n c]] w fun e w' => e = .returned (.int .i64 (i : Int)) ∧ Below w.heap.size w w' := by
  have h := impl_TightestDot W H a n c ys w hn hr (by omega)
  unfold tightestF at h
  rw [if_pos hok, hi] at h
  exact h

theorem wide_call (W H : Int) (a : Option Addr) (n c : Nat) (ys : List Int) (i : Nat) (w : World) (hn : ys.length = n) (hr : Rd w a ys) (hl : n ≤ 1024) (hi : wideF W H ys = i) (hok : fieldOk W H ys = true) :
    Calls Try.prog 16 #[.agg #[.int .i64 W, .int .i64 H, .slice a n c]] w fun e w' => e = .returned (.int .i64 (i : Int)) ∧ Below w.heap.size w w' := by
  have h := impl_WidestVoid W H a n c ys w hn hr (by omega)
  unfold widestF at h
  rw [if_pos hok, hi] at h
  exact h

set_option maxRecDepth 100000 in
set_option maxHeartbeats 3200000 in
theorem ok (ad0 : Option Addr) (n0 cap0 : Nat) (bs0 : List Int) (w : World) (hn0 : bs0.length = n0) (hr0 : RdU w.heap.size w ad0 bs0) (hs0 : n0 ≤ 1048576) :
    Calls Try.prog 4 #[.slice ad0 n0 cap0] w fun e w' => e = .returned (.bool true) ∧ Below w.heap.size w w' := by
  have HL := Lib.hid hn0
  have HC := Lib.hid hr0
  clear hn0 hr0
  go_enter Try.func4, Try.ntmps4
  go_wp2_with fail
  refine (mkfield_call ad0 n0 cap0 bs0 5 _ HL.out (by exact HC.out) (by omega) (by omega) (by omega)).mono ?_
  rintro e w1 ⟨W, H, g, n, xs, rfl, b1, b2, b3, b4, hq, n1, n36, hg, ho, hok, hb⟩
  have HN := Lib.hid ho.len
  have HOK := Lib.hid hok
  have HX := Lib.hid (field_bd HN.out hok).2.2.2.2.2.2.2.1
  have HO2 := Lib.hid (ho.alloc (.cells #[.int .i64 W, .int .i64 H, .slice (some ⟨g, 0, none⟩) n n] 25))
  have KP2 := Lib.hid (Blk.new w1 25 #[.int .i64 W, .int .i64 H, .slice (some ⟨g, 0, none⟩) n n])
  have HB2 := Lib.hid (bAlloc hb (.cells #[.int .i64 W, .int .i64 H, .slice (some ⟨g, 0, none⟩) n n] 25))
  obtain ⟨d, hd⟩ : ∃ d, icount 1 xs = d := ⟨_, rfl⟩
  have dn : d ≤ n := by rw [← hd, ← HN.out]; exact icount_le _ _
  have HD := Lib.hid hd
  obtain ⟨D, U, R⟩ := ranked_is (W := W) (H := H) hok HN.out hd
  have RL := Lib.hid R.len
  have RM := Lib.hid (R.mat hok HN.out dn)
  have RG := Lib.hid (fun i hi => R.range (dots_of HX.out) HN.out dn i hi)
  have RLO := Lib.hid (fun i (hi : i < n) h0 h => R.lo hi h0 h)
  have RHI := Lib.hid (fun i (hi : i < n) h0 h => R.hi hi h0 h)
  have CR := Lib.hid (fun (v : World) hr => rank_call W H g 0 n n xs v HN.out hr hok R.len)
  obtain ⟨rs, hrs⟩ : ∃ rs, ranksG W H xs = rs := ⟨_, rfl⟩
  rw [hrs] at RL RM RG RLO RHI CR
  clear hg ho hok hb hq hd R hrs
  go_wp2_with fail
  refine (CR.out _ (by exact HO2.out.rd)).mono ?_
  rintro e w3 ⟨ma, mc, rfl, ho, hb⟩
  have KP4 := Lib.hid ((KP2.out.below' hb).alloc (.cells #[.int .i64 W, .int .i64 H, .slice ma n mc] 28))
  have HO4 := Lib.hid ((HO2.out.below hb HO2.out.lt).alloc (.cells #[.int .i64 W, .int .i64 H, .slice ma n mc] 28))
  have KM4 := Lib.hid (Blk.new w3 28 #[.int .i64 W, .int .i64 H, .slice ma n mc])
  have HM4 := Lib.hid (ho.rd.alloc (.cells #[.int .i64 W, .int .i64 H, .slice ma n mc] 28))
  have HB4 := Lib.hid (bAlloc (bTrans HB2.out hb) (.cells #[.int .i64 W, .int .i64 H, .slice ma n mc] 28))
  clear hb ho
  obtain ⟨wo, hwo⟩ : ∃ wo : World, wo = w3.alloc (.cells #[.int .i64 W, .int .i64 H, .slice ma n mc] 28) := ⟨_, rfl⟩
  go_upto_region 5 with fail
  rw [← hwo] at KP4 HO4 KM4 HM4 HB4 ⊢
  clear hwo
  obtain ⟨lp, p0, p1, p2⟩ := KP4.out.c3
  obtain ⟨lq, q0, q1, q2⟩ := KM4.out.c3
  go_wp2_with fail
  refine (spec_IsMatrix W H ma n mc rs _ RL.out (by exact HM4.out) (by omega)).mono ?_
  rw [RM.out]
  rintro e w5 ⟨rfl, hb⟩
  have KP5 := Lib.hid (KP4.out.below' hb)
  have HO5 := Lib.hid (HO4.out.below hb HO4.out.lt)
  have KM5 := Lib.hid (KM4.out.below' hb)
  have HM5 := Lib.hid (HM4.out.below hb)
  have HB5 := Lib.hid (bTrans HB4.out hb)
  clear hb lp p0 p1 p2 lq q0 q1 q2
  obtain ⟨lp, p0, p1, p2⟩ := KP5.out.c3
  obtain ⟨lq, q0, q1, q2⟩ := KM5.out.c3
  go_wp2_with fail
  refine (total_call6 _ n n xs d _ HN.out (by exact HO5.out.rd) HX.out (by omega) HD.out).mono ?_
  rintro e w6 ⟨rfl, hb⟩
  have KM6 := Lib.hid (KM5.out.below' hb)
  have HM6 := Lib.hid (HM5.out.below hb)
  have HB6 := Lib.hid (bTrans HB5.out hb)
  clear hb lp p0 p1 p2 lq q0 q1 q2
  obtain ⟨lq, q0, q1, q2⟩ := KM6.out.c3
  go_wp2_with fail
  go_loopw [48] (fun i wr => ∃ k : Nat, k ≤ n ∧ i = .int .i64 k ∧ Hid (Below w6.heap.size w6 wr)) (fun i _ => n - (intOf i).toNat)
  case atStart => exact ⟨0, Nat.zero_le _, rfl, Lib.hid (Below.refl _ _)⟩
  case round =>
    obtain ⟨k, hk, rfl, HW⟩ := hrel
    have KMr := Lib.hid (KM6.out.below' HW.out)
    have HMr := Lib.hid (HM6.out.below HW.out)
    by_cases hlt : k < n
    · clear lq q0 q1 q2
      obtain ⟨lq, q0, q1, q2⟩ := KMr.out.c3
      obtain ⟨g0, g1⟩ := RG.out k hlt
      have LO := Lib.hid (RLO.out k hlt g0)
      have HI := Lib.hid (fun h => RHI.out k hlt h g1)
      obtain ⟨ba, oa, hae, hal, hac⟩ := HMr.out.at (by have := RL.out; omega)
      have r1 := hac k (by have := RL.out; omega)
      obtain ⟨r, hr⟩ : ∃ r, rs.getD k 0 = r := ⟨_, rfl⟩
      rw [hr] at g0 g1 LO HI r1
      subst hae
      clear hac hr
      have CB := Lib.hid (fun (v : World) (l : Int) hr => below_call W H (some ⟨ba, oa, none⟩) n mc rs l v RL.out hr (by omega))
      by_cases hrd : r < (d : Int)
      · obtain ⟨t1, t2⟩ := LO.out hrd
        have hnd : ¬ (d : Int) ≤ r := by omega
        have T1 := Lib.hid t1
        have T2 := Lib.hid t2
        have e1 : IntKind.i64.wrap (r + 1) = r + 1 := IntWalk.i64_in _ (by omega)
        clear t1 t2 LO HI
        go_wp2_with fail
        refine (CB.out _ _ (by exact HMr.out)).mono ?_
        rintro e w7 ⟨ya, yc, rfl, hy, hb⟩
        have HY := Lib.hid hy
        have HW7 := Lib.hid (bTrans HW.out hb)
        have KM7 := Lib.hid (KMr.out.below' hb)
        clear hy hb lq q0 q1 q2 r1
        obtain ⟨lq, q0, q1, q2⟩ := KM7.out.c3
        go_wp2_with fail
        refine (tight_call W H ya n yc (rs.map (cellsG (r + 1))) k _ (by rw [List.length_map]; exact RL.out) (by exact HY.out) (by omega) T1.out T2.out).mono ?_
        rintro e w8 ⟨rfl, hb⟩
        have HW8 := Lib.hid (bTrans HW7.out hb)
        clear hb
        have hdr : r < (d : Int) := hrd
        go_wp2_with fail
        all_goals (try (exfalso; omega))
        go_roundw
        case rel => exact ⟨k + 1, by omega, by go_num, HW8⟩
        case measure => simp [intOf]; omega
      · obtain ⟨t1, t2⟩ := HI.out (by omega)
        have hnd : (d : Int) ≤ r := by omega
        have T1 := Lib.hid t1
        have T2 := Lib.hid t2
        clear t1 t2 LO HI hrd
        go_wp2_with fail
        all_goals (try (exfalso; omega))
        refine (CB.out _ _ (by exact HMr.out)).mono ?_
        rintro e w7 ⟨ya, yc, rfl, hy, hb⟩
        have HY := Lib.hid hy
        have HW7 := Lib.hid (bTrans HW.out hb)
        have KM7 := Lib.hid (KMr.out.below' hb)
        clear hy hb lq q0 q1 q2 r1
        obtain ⟨lq, q0, q1, q2⟩ := KM7.out.c3
        go_wp2_with fail
        refine (wide_call W H ya n yc (rs.map (cellsG r)) k _ (by rw [List.length_map]; exact RL.out) (by exact HY.out) (by omega) T1.out T2.out).mono ?_
        rintro e w8 ⟨rfl, hb⟩
        have HW8 := Lib.hid (bTrans HW7.out hb)
        clear hb
        go_wp2_with fail
        go_roundw
        case rel => exact ⟨k + 1, by omega, by go_num, HW8⟩
        case measure => simp [intOf]; omega
    · obtain rfl : n = k := by omega
      have HBF := Lib.hid (bTrans HB6.out HW.out)
      go_wp2_with fail
      go_ret
      exact ⟨rfl, HBF.out⟩

set_option maxHeartbeats 400000 in
theorem big (ad0 : Option Addr) (n0 cap0 : Nat) (w : World) (h : 1048576 < n0) (hl : n0 ≤ 9223372036854775807) :
    Calls Try.prog 4 #[.slice ad0 n0 cap0] w fun e w' => e = .returned (.bool true) ∧ Below w.heap.size w w' := by
  have h2 : (1048576 : Int) < (n0 : Int) := by omega
  go_enter Try.func4, Try.ntmps4
  go_wp2_with fail
  go_ret
  exact ⟨rfl, Below.refl _ _⟩

set_option maxRecDepth 100000 in
theorem lifted (os : Os) (started : os.Started) (H : Type) (enc : TypeId × Value → H) :
    ReturnsInHanded {} Try.checked os 4 .any (Rows.fnPlacedSpec.pre6 enc Try.prog Try.f4 Rows.fnPlacedRow.domain false) (Rows.fnPlacedSpec.post enc Try.prog Try.f4 false true false false) := by
  refine returnsInHanded_of_change (C := Try.checked) own started (by kernel_rfl) Try.func4
    (ChangeSpec.witness6 (enc := enc) (C := Try.checked) false ⟨#[], #[.slice none 0 0], []⟩ 8 (by kernel_rfl) (by kernel_rfl) (by kernel_rfl) (by kernel_rfl)) ?_
  intro W base args ds gs before hval0 hW hcnd _
  have hval : ∀ (j : Nat) t v, Try.f4.params[j]? = some t → args[j]? = some v → Value.okWide Try.prog W .any base t v := hval0
  have hW' := hW
  have hlt := hW.lt
  obtain ⟨p, q, hA0, hV, rfl, hfz, hnd⟩ := hW
  have hA : DataW.TrodAll enc Try.prog W 0 (fun _ => true) true Try.f4.params.toList args.toList ds p := hA0
  rw [Try.params4] at hA hval
  obtain ⟨v0, vs0, d0, ds0, p0, q0, hargs, rfl, rfl, h0, r0⟩ := trodAll_cons hA
  obtain ⟨rfl, rfl, rfl⟩ := trodAll_nil r0
  obtain rfl : args = #[v0] := by cases args; simp_all
  obtain ⟨rfl, rfl⟩ := trodVars_none hV
  clear hA0 hval0
  obtain ⟨ad0, n0, cap0, bs0, rfl, hn0, hr0, hl0⟩ := open_code (hval 0 22 v0 rfl rfl) h0 (fun x hx => hlt x (by simp [hx]))
  have fin : ∀ (e : Ending) W', (e = .returned (.bool true) ∧ Below W.heap.size W W') → ∃ v, e = .returned v ∧ Rows.fnPlacedSpec.post enc Try.prog Try.f4 false true false false W #[.slice ad0 n0 cap0] v W' := by
    rintro e W' ⟨rfl, hb⟩
    exact ⟨_, rfl, law_post rfl rfl hW' (by kernel_rfl) rfl hb⟩
  by_cases hs0 : n0 ≤ 1048576
  case neg => exact (big ad0 n0 cap0 W (by omega) hl0).mono fin
  case pos => exact (ok ad0 n0 cap0 bs0 W hn0 hr0 hs0).mono fin

theorem proved : Rows.FnPlacedSaid :=
  OpenClaim.holds_of_wide 4 Try.f4 rfl rfl rfl rfl rfl rfl rfl ⟨rfl, rfl, rfl, rfl, rfl⟩ rfl rfl rfl rfl rfl (by kernel_rfl) Try.func4 (by kernel_rfl)
    (of_decide_eq_true (by kernel_rfl)) (by unfold Func.isWrapper; first | (rw [if_pos (by decide +kernel)]; kernel_rfl) | (rw [if_neg (by decide +kernel)]; exact ⟨rfl, rfl⟩))
    (fun os started H enc _ => lifted os started H enc)

end Go.Proofs.Ytnhjdmdnicnmmaa.lPlaced
