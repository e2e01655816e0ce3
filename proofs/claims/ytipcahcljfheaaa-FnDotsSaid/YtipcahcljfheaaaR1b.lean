/-
  Contracts of the model's draws: the cursor over a code, a byte, a number below another one.
-/
import Derived.Test.YtipcahcljfheaaaSize
import Derived.Test.YtipcahcljfheaaaM3
namespace Go.Proofs.Ytipcahcljfheaaa
open Go.RowKit
set_option linter.unusedVariables false
set_option linter.unusedSimpArgs false

/-- The slice at `ad` reads in w as the bytes xs, in a block below B. -/
def RdU (B : Nat) (w : World) (ad : Option Addr) (xs : List Int) : Prop :=
  ∀ k, k < xs.length → (0 ≤ xs.getD k 0 ∧ xs.getD k 0 ≤ 255) ∧ ∃ b off, ad = some ⟨b, off, none⟩ ∧ b < B ∧ b < w.heap.size ∧ w.cell? ⟨b, off + k, none⟩ = some (.int .u8 (xs.getD k 0))

theorem RdU.same {B : Nat} {w w' : World} {ad : Option Addr} {xs : List Int} (h : RdU B w ad xs) (hb : ∀ b, b < B → b < w.heap.size → w'.heap[b]? = w.heap[b]?) (hs : w.heap.size ≤ w'.heap.size) : RdU B w' ad xs := by
  intro k hk
  obtain ⟨h0, b, off, h1, h2, h3, h4⟩ := h k hk
  exact ⟨h0, b, off, h1, h2, by omega, (World.cell?_of_block (hb b h2 h3)).trans h4⟩

theorem RdU.mono {B B' : Nat} {w : World} {ad : Option Addr} {xs : List Int} (h : RdU B w ad xs) (hB : B ≤ B') : RdU B' w ad xs := by
  intro k hk
  obtain ⟨h0, b, off, h1, h2, h3, h4⟩ := h k hk
  exact ⟨h0, b, off, h1, by omega, h3, h4⟩

theorem RdU.below {B : Nat} {w w' : World} {ad : Option Addr} {xs : List Int} (h : RdU B w ad xs) (hb : Below B w w') : RdU B w' ad xs :=
  h.same (fun b h1 _ => hb.block b h1) hb.size

/-- The cursor at block c, over the bytes bs. -/
def Cur (w : World) (c : Nat) (ac : Option Addr) (nc capc : Nat) (bs : List Int) : Prop :=
  ∃ (i : Nat) (h : Int), i ≤ nc ∧ nc ≤ 4611686018427387904 ∧ bs.length = nc ∧ Blk w c 58 #[.slice ac nc capc, .int .i64 i, .int .i64 h] ∧ RdU c w ac bs

namespace Cur
variable {w w' : World} {c nc capc : Nat} {ac : Option Addr} {bs : List Int}

theorem lt (h : Cur w c ac nc capc bs) : c < w.heap.size := by
  obtain ⟨i, h, _, _, _, hb, _⟩ := h
  exact hb.lt

theorem same (h : Cur w c ac nc capc bs) (hb : ∀ b, b ≤ c → w'.heap[b]? = w.heap[b]?) (hs : w.heap.size ≤ w'.heap.size) : Cur w' c ac nc capc bs := by
  obtain ⟨i, x, h1, h2, h3, h4, h5⟩ := h
  exact ⟨i, x, h1, h2, h3, h4.of_block (hb c (Nat.le_refl _)), h5.same (fun b h6 _ => hb b (by omega)) hs⟩

theorem below' (h : Cur w c ac nc capc bs) (hb : Below w.heap.size w w') : Cur w' c ac nc capc bs := h.same (fun b h1 => hb.block b (by have := h.lt; omega)) hb.size

theorem alloc (h : Cur w c ac nc capc bs) (o : Obj) : Cur (w.alloc o) c ac nc capc bs := h.below' (Joins.below_alloc1 w o)

theorem drewN (h : Cur w c ac nc capc bs) (m : Nat) : Cur (w.drewN m) c ac nc capc bs := h.same (fun _ _ => rfl) (Nat.le_refl _)

theorem drew (h : Cur w c ac nc capc bs) : Cur w.drew c ac nc capc bs := h.drewN 1

theorem grown {row : Option Nat} (h : Cur w c ac nc capc bs) (hb : w.grownBy w' row) (hr : ∀ k, row = some k → c < k) : Cur w' c ac nc capc bs :=
  h.same (fun b h1 => hb.block b (by have := h.lt; omega) (fun e => by have := hr b e.symm; omega)) hb.size

theorem other (h : Cur w c ac nc capc bs) {a : Addr} (ha : c < a.block) (u : Value) : Cur (w.setCell a u) c ac nc capc bs :=
  h.same (fun b h1 => Below.heap_setCell w a u b (by omega)) (by simp [World.setCell])

end Cur

theorem i64_and255 (n : Int) : bits .and .i64 n 255 = n % 256 := by
  have h1 : (BitVec.ofInt 64 255).toNat = 2 ^ 8 - 1 := by decide
  have key : (BitVec.ofInt 64 n &&& BitVec.ofInt 64 255).toNat = (n % ((2 ^ 64 : Nat) : Int)).toNat % 2 ^ 8 := by
    rw [BitVec.toNat_and, BitVec.toNat_ofInt, h1, Nat.and_two_pow_sub_one_eq_mod]
  show IntKind.i64.wrap ((BitVec.ofInt 64 n &&& BitVec.ofInt 64 255).toNat : Nat) = n % 256
  rw [key, IntKind.wrap_i64]
  omega

theorem and255_bd (n : Int) : 0 ≤ bits .and .i64 n 255 ∧ bits .and .i64 n 255 ≤ 255 := by rw [i64_and255]; omega

set_option maxHeartbeats 1600000 in
theorem spec_l01Byte (c : Nat) (ac : Option Addr) (nc capc : Nat) (bs : List Int) (w : World) (hc : Cur w c ac nc capc bs) :
    Calls Try.prog 40 #[.pointer (some ⟨c, 0, none⟩)] w fun e w' => ∃ v : Int, e = .returned (.int .i64 v) ∧ 0 ≤ v ∧ v ≤ 255 ∧ Cur w' c ac nc capc bs ∧ w.grownBy w' (some c) := by
  obtain ⟨i, h, hi, hn, hl, hb, hr⟩ := hc
  have KB := Lib.hid hb
  have HR := Lib.hid hr
  have HL := Lib.hid hl
  obtain ⟨l0, o0, o1, o2⟩ := hb.c3
  obtain ⟨f0, f1, f2⟩ := hb.f3
  clear hb hr hl
  by_cases hlt : i < nc
  · obtain ⟨⟨u0, u1⟩, bb, bo, rfl, bl, bl2, hcell⟩ := HR.out i (by have := HL.out; omega)
    have nb : c ≠ bb := by omega
    have hlt2 : (i : Int) < nc := by omega
    go_enter Try.func40, Try.ntmps40
    go_wp2_with fail
    go_quiet (fail)
    go_wp2_with fail
    go_quiet (fail)
    go_wp2_with fail
    go_quiet (fail)
    go_wp2_with fail
    go_ret
    exact ⟨_, rfl, (and255_bd _).1, (and255_bd _).2, ⟨i + 1, _, by omega, hn, HL.out, by exact ((KB.out.set 2 _).set 1 _), HR.out.same (fun b h1 _ => by exact (Below.heap_setCell (w.setCell _ _) ⟨c, 1, none⟩ _ b (by simp; omega)).trans (Below.heap_setCell w ⟨c, 2, none⟩ _ b (by simp; omega))) (by simp [World.setCell])⟩, by exact grown_set (grown_drewN (grown_set (grown_refl w (some c)) _) _) _⟩
  · have hlt2 : ¬ (i : Int) < nc := by omega
    go_enter Try.func40, Try.ntmps40
    go_wp2_with fail
    go_quiet (fail)
    go_wp2_with fail
    go_quiet (fail)
    go_wp2_with fail
    go_ret
    exact ⟨_, rfl, (and255_bd _).1, (and255_bd _).2, ⟨i, _, by omega, hn, HL.out, by exact (KB.out.set 2 _), HR.out.same (fun b h1 _ => by exact (Below.heap_setCell w ⟨c, 2, none⟩ _ b (by simp; omega))) (by simp [World.setCell])⟩, by exact grown_drewN (grown_drewN (grown_set (grown_refl w (some c)) _) _) _⟩

set_option maxHeartbeats 400000 in
theorem spec_l01Below (c : Nat) (ac : Option Addr) (nc capc : Nat) (bs : List Int) (n : Int) (w : World) (hc : Cur w c ac nc capc bs) (h1 : 1 ≤ n) (h2 : n ≤ 256) :
    Calls Try.prog 23 #[.pointer (some ⟨c, 0, none⟩), .int .i64 n] w fun e w' => ∃ v : Int, e = .returned (.int .i64 v) ∧ 0 ≤ v ∧ v < n ∧ Cur w' c ac nc capc bs ∧ w.grownBy w' (some c) := by
  go_enter Try.func23, Try.ntmps23
  go_wp2_with fail
  refine (spec_l01Byte c ac nc capc bs _ hc).mono ?_
  rintro e w1 ⟨v, rfl, v0, v1, hc1, hg1⟩
  go_wp2_with fail
  go_ret
  exact ⟨_, rfl, Int.emod_nonneg _ (by omega), Int.emod_lt_of_pos _ (by omega), hc1, hg1⟩

set_option maxHeartbeats 400000 in
theorem spec_l01Once (c : Nat) (ac : Option Addr) (nc capc : Nat) (bs : List Int) (n : Int) (w : World) (hc : Cur w c ac nc capc bs) (h1 : 1 ≤ n) (h2 : n ≤ 256) :
    Calls Try.prog 24 #[.pointer (some ⟨c, 0, none⟩), .int .i64 n] w fun e w' => ∃ v : Bool, e = .returned (.bool v) ∧ Cur w' c ac nc capc bs ∧ w.grownBy w' (some c) := by
  go_enter Try.func24, Try.ntmps24
  go_wp2_with fail
  refine (spec_l01Below c ac nc capc bs n _ hc h1 h2).mono ?_
  rintro e w1 ⟨v, rfl, v0, v1, hc1, hg1⟩
  go_wp2_with fail
  go_ret
  exact ⟨_, rfl, hc1, hg1⟩

set_option maxRecDepth 100000 in
set_option maxHeartbeats 1600000 in
theorem spec_l01New (ac : Option Addr) (nc capc : Nat) (bs : List Int) (w : World) (hl : bs.length = nc) (hr : RdU w.heap.size w ac bs) (hn : nc ≤ 4611686018427387904) :
    Calls Try.prog 21 #[.slice ac nc capc] w fun e w' => ∃ c : Nat, e = .returned (.pointer (some ⟨c, 0, none⟩)) ∧ w.heap.size ≤ c ∧ Cur w' c ac nc capc bs ∧ Below w.heap.size w w' := by
  have HL := Lib.hid hl
  have HR := Lib.hid hr
  clear hl hr
  go_enter Try.func21, Try.ntmps21
  go_wp2_with fail
  go_loop [3, 4] (fun h i => ∃ (k : Nat) (x : Int), k ≤ nc ∧ i = .int .i64 k ∧ h = .int .i64 x) (fun _ i => nc - (intOf i).toNat)
  case atStart => exact ⟨0, _, Nat.zero_le _, rfl, rfl⟩
  case round =>
    obtain ⟨k, x, hk, rfl, rfl⟩ := hrel
    by_cases hlt : k < nc ∧ k < 4000
    · obtain ⟨hlt, hlt4⟩ := hlt
      obtain ⟨⟨u0, u1⟩, bb, bo, hae, bl, bl2, hcell⟩ := HR.out k (by have := HL.out; omega)
      subst hae
      obtain ⟨v, hv⟩ : ∃ v, bs.getD k 0 = v := ⟨_, rfl⟩
      rw [hv] at hcell
      clear u0 u1 hv
      go_wp2_with fail
      go_round
      case rel => exact ⟨k + 1, _, by omega, by go_num, rfl⟩
      case measure => simp [intOf]; omega
    · go_wp2_with fail
      all_goals first
        | (exfalso; exact hlt ⟨by omega, by omega⟩)
        | (go_ret
           exact ⟨w.heap.size, rfl, Nat.le_refl _, ⟨0, _, Nat.zero_le _, hn, HL.out, Blk.new _ _ _, (HR.out.below (Joins.below_alloc1 _ _))⟩, Joins.below_alloc1 _ _⟩)

end Go.Proofs.Ytipcahcljfheaaa
