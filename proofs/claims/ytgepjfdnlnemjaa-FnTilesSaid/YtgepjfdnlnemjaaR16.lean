/-
  Contracts as FnTiles calls them.
-/
import Derived.Test.YtgepjfdnlnemjaaM18
import Derived.Test.YtgepjfdnlnemjaaD14
import Derived.Test.YtgepjfdnlnemjaaD21
import Derived.Test.YtgepjfdnlnemjaaR8
import Derived.Test.YtgepjfdnlnemjaaCut
namespace Go.Proofs.Ytgepjfdnlnemjaa
open Go.RowKit
set_option linter.unusedVariables false
set_option linter.unusedSimpArgs false

theorem own_cap2 {w : World} {B n cap : Nat} {ad : Option Addr} {xs : List Int} (h : OwnA w B ad n cap xs) : n ≤ cap ∧ cap ≤ 9223372036854775807 := by
  rcases h with ⟨h1, h2, h3, h4⟩ | ⟨g, h1, h2, hl, cur, hg, r1, r2, r3⟩
  · omega
  · unfold maxLen at r2; omega

theorem atb_call (B : Nat) (ac : Option Addr) (nc capc : Nat) (bs : List Int) (i : Int) (w : World) (hl : bs.length = nc) (hr : RdU B w ac bs) (hn : nc ≤ 1048576) (h0 : 0 ≤ i) (hi : i ≤ 100) :
    Calls Try.prog 12 #[.slice ac nc capc, .int .i64 i] w fun e w' => ∃ v : Nat, e = .returned (.int .i64 (v : Int)) ∧ v ≤ 255 ∧ Below w.heap.size w w' := by
  refine (at_call B ac nc capc bs i w hl hr hn h0 hi).mono ?_
  rintro e w' ⟨v, he, hv, rfl⟩
  exact ⟨v, he, hv, Below.refl _ _⟩

theorem sshift_call (W H : Int) (a : Option Addr) (n cp : Nat) (xs : List Int) (dx dy : Int) (w : World) (hl : xs.length = n) (ha : Rd w a xs) (mk : matOk W H xs = true) (h1 : -1000 ≤ dx) (h2 : dx ≤ 1000) (h3 : -1000 ≤ dy) (h4 : dy ≤ 1000) (hn : n ≤ 9223372036854775807) :
    Calls Try.prog 13 #[.agg #[.int .i64 W, .int .i64 H, .slice a n cp], .int .i64 dx, .int .i64 dy] w fun e w' =>
      ∃ a' c', e = .returned (.agg #[.int .i64 W, .int .i64 H, .slice a' n c']) ∧ OwnA w' w.heap.size a' n c' (gen n (shiftG W H xs dx dy)) ∧ Below w.heap.size w w' := by
  refine (spec_ShiftMatrix W H a n cp xs dx dy w hl ha hn).mono ?_
  rintro e w' ⟨a', n', c', he, ho, hn', hb⟩
  rw [shiftF_yes hl mk h1 h2 h3 h4] at he ho
  obtain rfl : n = n' := by have := ho.len; simp [gen_len] at this; exact this
  exact ⟨a', c', he, ho, hb⟩

theorem lev_mod (v n : Nat) : ∃ L : Nat, L ≤ n ∧ (v : Int).tmod ((n : Int) + 1) = (L : Int) := by
  refine ⟨v % (n + 1), by have := Nat.mod_lt v (show 0 < n + 1 by omega); omega, ?_⟩
  rw [Int.tmod_eq_emod_of_nonneg (by omega)]
  simp

theorem scl2_call (W H : Int) (a : Option Addr) (n cp : Nat) (xs : List Int) (l V U : Int) (m : Nat) (w : World) (hl : xs.length = n) (ha : Rd w a xs) (hn : n ≤ 9223372036854775807) (mk : matOk W H xs = true) (h0 : 0 ≤ l) (h1 : l ≤ (n : Int)) (hs : sizeOk V U = true) (hq : (m : Int) = V * U) :
    Calls Try.prog 14 #[.agg #[.int .i64 W, .int .i64 H, .slice a n cp], .int .i64 l, .int .i64 V, .int .i64 U] w fun e w' =>
      ∃ a' c', e = .returned (.tuple #[.agg #[.int .i64 V, .int .i64 U, .slice a' m c'], .bool true]) ∧ OwnA w' w.heap.size a' m c' (gen m (dotG W H xs (List.replicate m l) V)) ∧ Below w.heap.size w w' := by
  refine (impl_ScreenLevel W H a n cp xs l V U w hl ha hn).mono ?_
  rintro e w' ⟨a', k, c', he, ho, hk, hbb⟩
  rw [screenLevelF_yes hl hq mk h0 h1 hs] at he ho
  obtain rfl : m = k := by have := ho.len; simp [gen_len] at this; exact this
  exact ⟨a', c', he, ho, hbb⟩

theorem ts_call (V U W H : Int) (a : Option Addr) (n cp : Nat) (ps ss : List Int) (m : Nat) (w : World) (hl : ps.length = n) (ha : Rd w a ps) (hc : n ≤ cp) (hc2 : cp ≤ 9223372036854775807) (hw : W ≤ 16) (hh : H ≤ 16) (hs : tileSumsF V U ps W H = ss) (hm : ss.length = m) :
    Calls Try.prog 15 #[.agg #[.int .i64 V, .int .i64 U, .slice a n cp], .int .i64 W, .int .i64 H] w fun e w' => ∃ a' c', e = .returned (.slice a' m c') ∧ OwnA w' w.heap.size a' m c' ss ∧ Below w.heap.size w w' := by
  refine (impl_TileSums V U a n cp ps W H w hl ha hc hc2 (by omega) (by omega)).mono ?_
  rintro e w' ⟨a', k, c', he, ho, hk, hb⟩
  rw [hs] at ho
  obtain rfl : m = k := by rw [← ho.len]; exact hm.symm
  exact ⟨a', c', he, ho, hb⟩

theorem bl_call (V U W H : Int) (a : Option Addr) (n cp : Nat) (ps qs : List Int) (w : World) (hl : ps.length = n) (ha : Rd w a ps) (hc : n ≤ cp) (hc2 : cp ≤ 9223372036854775807) (hs : blurF V U ps W H = (⟨V, U, qs⟩, true)) (hm : qs.length = n) :
    Calls Try.prog 16 #[.agg #[.int .i64 V, .int .i64 U, .slice a n cp], .int .i64 W, .int .i64 H] w fun e w' => ∃ a' c', e = .returned (.tuple #[.agg #[.int .i64 V, .int .i64 U, .slice a' n c'], .bool true]) ∧ OwnA w' w.heap.size a' n c' qs ∧ Below w.heap.size w w' := by
  refine (impl_BlurPicture V U a n cp ps W H w hl ha hc hc2).mono ?_
  rintro e w' ⟨a', k, c', he, ho, hk, hb⟩
  rw [hs] at he ho
  obtain rfl : n = k := by rw [← ho.len]; exact hm.symm
  exact ⟨a', c', he, ho, hb⟩

set_option maxHeartbeats 800000 in
theorem equals_call (n : Nat) (v : Int) (w : World) (hn : n ≤ 1024) :
    Calls Try.prog 18 #[.int .i64 n, .int .i64 v] w fun e w' => ∃ a c, e = .returned (.slice a n c) ∧ OwnA w' w.heap.size a n c (List.replicate n v) ∧ Below w.heap.size w w' := by
  go_enter Try.func18, Try.ntmps18
  go_wp2_with fail
  go_loopw [0, 5] (fun nv s wr => ∃ (k m : Nat) (a : Option Addr) (c : Nat), m + k = n ∧ nv = .int .i64 m ∧ s = .slice a k c ∧ OwnA wr w.heap.size a k c (List.replicate k v) ∧ Below w.heap.size w wr) (fun nv _ _ => (intOf nv).toNat)
  case atStart => exact ⟨0, n, some ⟨w.heap.size, 0, none⟩, 0, by omega, rfl, rfl, OwnA.mk (own_nil _) (Nat.le_refl _), Joins.below_alloc1 _ _⟩
  case round =>
    obtain ⟨k, m, a, c, hk, rfl, rfl, ho, hnx⟩ := hrel
    have HO := Lib.hid ho
    have HW := Lib.hid hnx
    clear ho hnx
    by_cases hlt : 0 < m
    · go_wp2_with (at_builtin; refine wp_append _ rfl (.tmp 11) (.tmp 13) rfl w.heap.size k c a _ rfl (HO.out.alloc _) wr.heap.size v rfl (by go_simp) (by omega) (by have := HW.out.size; simp; omega) ?_; intro ad2 cap2 w5 ho5 hg5)
      have HW5 := Lib.hid ((HW.out.alloc HW.out.size _).grown hg5 (by have := HW.out.size; simp; omega) (fun b hb => by have := HO.out.bd b hb; omega))
      have HO5 : Hid (OwnA w5 w.heap.size ad2 (k + 1) cap2 (List.replicate (k + 1) v)) := Lib.hid (by rw [List.replicate_succ']; exact ho5)
      clear ho5 hg5
      go_roundw
      case rel => exact ⟨k + 1, m - 1, ad2, cap2, by omega, by congr 1; omega, rfl, HO5.out, HW5.out⟩
      case measure => simp [intOf]; omega
    · obtain rfl : m = 0 := by omega
      obtain rfl : k = n := by omega
      go_wp2_with fail
      go_ret
      exact ⟨_, _, rfl, HO.out, HW.out⟩

end Go.Proofs.Ytgepjfdnlnemjaa
