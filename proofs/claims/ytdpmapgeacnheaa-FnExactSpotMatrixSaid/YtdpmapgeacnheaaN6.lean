/-
  Contracts of chapter 6: NameOf and TurnName of the model; places; NearOf's and TurnName's results said.
-/
import Derived.Test.YtdpmapgeacnheaaN5
namespace Go.Proofs.Ytdpmapgeacnheaa
open Go.RowKit
set_option linter.unusedVariables false
set_option linter.unusedSimpArgs false

def PlaceP (x y : Int) : Prop := -100000 ≤ x ∧ x ≤ 100000 ∧ -100000 ≤ y ∧ y ≤ 100000

/-- What NameOf answers. -/
def NameR (A B x y R : Int) : Prop := (latOk A B = true ∧ PlaceP x y ∧ IsName A B x y R) ∨ (¬ (latOk A B = true ∧ PlaceP x y) ∧ R = -1)

theorem nameR_ex (A B x y : Int) : ∃ R, NameR A B x y R := by
  by_cases h : latOk A B = true ∧ PlaceP x y
  · obtain ⟨n, g, d, a, b, p, q, L⟩ := lat_of h.1
    obtain ⟨K, hK⟩ := L.name_ex x y
    exact ⟨K, Or.inl ⟨h.1, h.2, hK⟩⟩
  · exact ⟨-1, Or.inr ⟨h, rfl⟩⟩

/-- What TurnName answers. -/
def TurnR (A B K R : Int) : Prop := (latOk A B = true ∧ (0 ≤ K ∧ K < areaI A B) ∧ IsName A B (-(K / perI A B)) (K % perI A B) R) ∨ (¬ (latOk A B = true ∧ 0 ≤ K ∧ K < areaI A B) ∧ R = -1)

theorem turnR_ex (A B K : Int) : ∃ R, TurnR A B K R := by
  by_cases h : latOk A B = true ∧ 0 ≤ K ∧ K < areaI A B
  · obtain ⟨n, g, d, a, b, p, q, L⟩ := lat_of h.1
    obtain ⟨R, hR⟩ := L.name_ex (-(K / perI A B)) (K % perI A B)
    exact ⟨R, Or.inl ⟨h.1, h.2, hR⟩⟩
  · exact ⟨-1, Or.inr ⟨h, rfl⟩⟩

/-- What NearOf answers. -/
def NearR (A B K R : Int) : Prop := (latOk A B = true ∧ (0 ≤ K ∧ K < areaI A B) ∧ nearF A B (K % perI A B) (K / perI A B) = R) ∨ (¬ (latOk A B = true ∧ 0 ≤ K ∧ K < areaI A B) ∧ R = -1)

theorem nearR_ex (A B K : Int) : ∃ R, NearR A B K R := by
  by_cases h : latOk A B = true ∧ 0 ≤ K ∧ K < areaI A B
  · exact ⟨_, Or.inl ⟨h.1, h.2, rfl⟩⟩
  · exact ⟨-1, Or.inr ⟨h, rfl⟩⟩

set_option maxHeartbeats 400000 in
theorem impl_isPlace (x : Int) (w : World) :
    Calls Try.prog 55 #[.int .i64 x] w fun e w' => e = .returned (.bool (decide (-100000 ≤ x ∧ x ≤ 100000))) ∧ w = w' := by
  go_enter Try.func55, Try.ntmps55
  go_wp2
  all_goals (go_ret; exact ⟨ret_bool (by first | (simp [*]; done) | (simp [*]; omega) | (simp; intros; omega)), rfl⟩)

set_option maxHeartbeats 800000 in
theorem spec_NameOf {A B x y R : Int} (h : NameR A B x y R) (w : World) :
    Calls Try.prog 22 #[.agg #[.int .i64 A, .int .i64 B], .int .i64 x, .int .i64 y] w fun e w' => e = .returned (.int .i64 R) ∧ Below w.heap.size w w' := by
  rcases h with ⟨hok, ⟨x1, x2, y1, y2⟩, hK⟩ | ⟨hn, rfl⟩
  · obtain ⟨n, g, d, a, b, p, q, L⟩ := lat_of hok
    have HL := Lib.hid L
    have HK := Lib.hid hK
    have HO := Lib.hid hok
    clear L hK hok
    go_enter Try.func22, Try.ntmps22
    go_wp2_with fail
    refine (spec_IsLattice _ _ _).mono ?_
    rw [HO.out]
    rintro e w1 ⟨rfl, hb⟩
    have HB1 := Lib.hid (bTrans (Joins.below_alloc1 _ _) hb)
    obtain ⟨z, c0, c1⟩ := ((Blk.new w 25 #[.int .i64 A, .int .i64 B]).below' hb).c2
    clear hb
    go_wp2_with fail
    refine (in5 _ _ _ _).mono ?_
    rw [decide_eq_true (show -100000 ≤ x ∧ x ≤ 100000 from ⟨x1, x2⟩)]
    rintro e w2 ⟨rfl, rfl⟩
    go_wp2_with fail
    refine (in5 _ _ _ _).mono ?_
    rw [decide_eq_true (show -100000 ≤ y ∧ y ≤ 100000 from ⟨y1, y2⟩)]
    rintro e w2 ⟨rfl, rfl⟩
    go_wp2_with fail
    refine (spec_l5Name HL.out _ _ _ HK.out (by omega) (by omega) (by omega) (by omega) _).mono ?_
    rintro e w2 ⟨rfl, hb⟩
    have HB2 := Lib.hid (bTrans HB1.out hb)
    clear hb
    go_wp2_with fail
    go_ret
    exact ⟨rfl, HB2.out⟩
  · by_cases hok : latOk A B = true
    · have HO := Lib.hid hok
      by_cases hx : -100000 ≤ x ∧ x ≤ 100000
      · have hy : ¬ (-100000 ≤ y ∧ y ≤ 100000) := fun hy => hn ⟨hok, hx.1, hx.2, hy.1, hy.2⟩
        have HX := Lib.hid hx
        have HY := Lib.hid hy
        clear hn hok hx hy
        go_enter Try.func22, Try.ntmps22
        go_wp2_with fail
        refine (spec_IsLattice _ _ _).mono ?_
        rw [HO.out]
        rintro e w1 ⟨rfl, hb⟩
        have HB1 := Lib.hid (bTrans (Joins.below_alloc1 _ _) hb)
        clear hb
        go_wp2_with fail
        refine (in5 _ _ _ _).mono ?_
        rw [decide_eq_true HX.out]
        rintro e w2 ⟨rfl, rfl⟩
        go_wp2_with fail
        refine (in5 _ _ _ _).mono ?_
        rw [decide_eq_false HY.out]
        rintro e w2 ⟨rfl, rfl⟩
        go_wp2_with fail
        go_ret
        exact ⟨rfl, HB1.out⟩
      · have HX := Lib.hid hx
        clear hn hok hx
        go_enter Try.func22, Try.ntmps22
        go_wp2_with fail
        refine (spec_IsLattice _ _ _).mono ?_
        rw [HO.out]
        rintro e w1 ⟨rfl, hb⟩
        have HB1 := Lib.hid (bTrans (Joins.below_alloc1 _ _) hb)
        clear hb
        go_wp2_with fail
        refine (in5 _ _ _ _).mono ?_
        rw [decide_eq_false HX.out]
        rintro e w2 ⟨rfl, rfl⟩
        go_wp2_with fail
        go_ret
        exact ⟨rfl, HB1.out⟩
    · have ho2 : latOk A B = false := by simpa using hok
      have HO := Lib.hid ho2
      clear hn hok ho2
      go_enter Try.func22, Try.ntmps22
      go_wp2_with fail
      refine (spec_IsLattice _ _ _).mono ?_
      rw [HO.out]
      rintro e w1 ⟨rfl, hb⟩
      have HB1 := Lib.hid (bTrans (Joins.below_alloc1 _ _) hb)
      clear hb
      go_wp2_with fail
      go_ret
      exact ⟨rfl, HB1.out⟩

theorem turn_bd {A B n g d a b p q K : Int} (L : Lat A B n g d a b p q) (h0 : 0 ≤ K) (h1 : K < n) : PlaceP (-(K / d)) (K % d) := by
  obtain ⟨a0, a1, a2, a3, _, _⟩ := div5 L h0 h1
  exact ⟨by omega, by omega, by omega, by omega⟩

set_option maxHeartbeats 800000 in
theorem spec_TurnName {A B K R : Int} (h : TurnR A B K R) (w : World) :
    Calls Try.prog 40 #[.agg #[.int .i64 A, .int .i64 B], .int .i64 K] w fun e w' => e = .returned (.int .i64 R) ∧ Below w.heap.size w w' := by
  rcases h with ⟨hok, ⟨k0, k1⟩, hK⟩ | ⟨hn, rfl⟩
  · obtain ⟨n, g, d, a, b, p, q, L⟩ := lat_of hok
    rw [L.hn] at k1
    rw [L.hw] at hK
    obtain ⟨U, hU⟩ : ∃ U, K % d = U := ⟨_, rfl⟩
    obtain ⟨V, hV⟩ : ∃ V, K / d = V := ⟨_, rfl⟩
    obtain ⟨u1, u2, v1, v2, t1, t2⟩ := div5 L k0 k1
    rw [hU] at u1 u2 hK
    rw [hV] at v1 v2 hK
    have HL := Lib.hid L
    have HK := Lib.hid hK
    have HU := Lib.hid hU
    have HV := Lib.hid hV
    clear L hK hok t1 t2 hU hV
    go_enter Try.func40, Try.ntmps40
    go_wp2_with fail
    refine (spec_PointOf_yes HL.out _ k0 k1 _).mono ?_
    rw [HU.out, HV.out]
    rintro e w1 ⟨rfl, hb⟩
    have HB1 := Lib.hid (bTrans (Joins.below_alloc1 _ _) hb)
    obtain ⟨z, c0, c1⟩ := ((Blk.new w 25 #[.int .i64 A, .int .i64 B]).below' hb).c2
    clear hb
    go_wp2_with fail
    refine (spec_l5Name HL.out _ _ _ HK.out (by omega) (by omega) (by omega) (by omega) _).mono ?_
    rintro e w2 ⟨rfl, hb⟩
    have HB2 := Lib.hid (bTrans HB1.out hb)
    clear hb
    go_wp2_with fail
    go_ret
    exact ⟨rfl, HB2.out⟩
  · have H : Hid (∀ w, Calls Try.prog 24 #[.agg #[.int .i64 A, .int .i64 B], .int .i64 K] w fun e w' => e = .returned (.tuple #[.int .i64 0, .int .i64 0, .bool false]) ∧ Below w.heap.size w w') := Lib.hid (by
      intro w
      by_cases hok : latOk A B = true
      · obtain ⟨n, g, d, a, b, p, q, L⟩ := lat_of hok
        exact spec_PointOf_no1 L K (fun h => hn ⟨hok, by rw [L.hn]; exact h⟩) w
      · exact spec_PointOf_no0 (by simpa using hok) K w)
    clear hn
    go_enter Try.func40, Try.ntmps40
    go_wp2_with fail
    refine (H.out _).mono ?_
    rintro e w1 ⟨rfl, hb⟩
    have HB1 := Lib.hid (bTrans (Joins.below_alloc1 _ _) hb)
    clear hb
    go_wp2_with fail
    go_ret
    exact ⟨rfl, HB1.out⟩

end Go.Proofs.Ytdpmapgeacnheaa
