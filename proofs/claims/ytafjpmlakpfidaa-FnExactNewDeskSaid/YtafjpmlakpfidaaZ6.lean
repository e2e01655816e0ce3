/-
  The laws' own helpers over desks: marks.
-/
import Derived.Test.YtafjpmlakpfidaaZ4
namespace Go.Proofs.Ytafjpmlakpfidaa
open Go.RowKit
set_option linter.unusedVariables false
set_option linter.unusedSimpArgs false

theorem OwnD.keep {w w' : World} {S : Nat → Prop} {B : Nat} {D : Dsk} (h : OwnD w B D) (hk : KeepT S w w') (hs : ∀ b, S b → D.blocks b → False) : OwnD w' B D :=
  ⟨h.p.keepS hk (fun b hb e => hs b hb (.inl e)), h.m.keepS hk (fun b hb e => hs b hb (.inr (.inl e))), h.s.keepS hk (fun b hb e => hs b hb (.inr (.inr e))), h.pm, h.ps, h.ms⟩

/-- A desk with marks in it. -/
def markD (s : Int) (D : Dsk) : Dsk := ⟨{ D.P with ink := upFrom s D.P.n }, { D.M with ink := upFrom (s + D.P.n) D.M.n }, D.a, D.n, D.c, markV (s + D.P.n + D.M.n) D.ps⟩
def sizeD (D : Dsk) : Nat := D.P.n + D.M.n + sizeV D.ps

set_option maxRecDepth 100000 in
set_option maxHeartbeats 1600000 in
theorem markDesk (D : Dsk) (B : Nat) (s : Int) (w : World) (ho : OwnD w B D) (h0 : 0 ≤ s) (hl : s + sizeD D ≤ 17592186044416) :
    Calls Try.prog 8 #[D.val, .int .i64 s] w fun e w' => e = .returned (.int .i64 (s + sizeD D)) ∧ OwnD w' B (markD s D) ∧ KeepT D.blocks w w' := by
  obtain ⟨⟨W, H, pa, pn, pc, xs⟩, ⟨mW, mH, ma, mn, mc, ys⟩, a, n, c, ps⟩ := D
  have hsz : (sizeD (⟨⟨W, H, pa, pn, pc, xs⟩, ⟨mW, mH, ma, mn, mc, ys⟩, a, n, c, ps⟩ : Dsk) : Int) = pn + mn + sizeV ps := by unfold sizeD; push_cast; rfl
  rw [hsz] at hl ⊢
  have HO := Lib.hid ho
  have HBD := Lib.hid ho.bd
  have KB := Lib.hid (Blk.new w 29 #[.int .i64 W, .int .i64 H, .slice pa pn pc, .int .i64 mW, .int .i64 mH, .slice ma mn mc, .slice a n c])
  have HO0 := Lib.hid (ho.alloc (.cells #[.int .i64 W, .int .i64 H, .slice pa pn pc, .int .i64 mW, .int .i64 mH, .slice ma mn mc, .slice a n c] 29))
  have HK0 : Hid (KeepT (Dsk.blocks ⟨⟨W, H, pa, pn, pc, xs⟩, ⟨mW, mH, ma, mn, mc, ys⟩, a, n, c, ps⟩) w (w.alloc (.cells #[.int .i64 W, .int .i64 H, .slice pa pn pc, .int .i64 mW, .int .i64 mH, .slice ma mn mc, .slice a n c] 29))) := Lib.hid (KeepT.ofBelow (Joins.below_alloc1 w _))
  clear ho hsz
  show Calls Try.prog 8 #[.agg #[.int .i64 W, .int .i64 H, .slice pa pn pc, .int .i64 mW, .int .i64 mH, .slice ma mn mc, .slice a n c], .int .i64 s] w _
  go_enter Try.func8, Try.ntmps8
  go_wp2_with fail
  refine (markPic W H B pa pn pc s xs _ (by exact HO0.out.p) h0 (by omega)).mono ?_
  rintro e w1 ⟨rfl, hp, hg⟩
  have HP1 := Lib.hid hp
  have HM1 := Lib.hid (HO0.out.m.grownS hg (fun b hb e => HO0.out.pm b hb e))
  have HS1 := Lib.hid (OwnV.grownS HO0.out.s hg (fun b hb e => HO0.out.ps b e hb))
  have KB1 := Lib.hid (KB.out.grown hg (fun e => by have := HBD.out w.heap.size (.inl e.symm); omega))
  have HK1 := Lib.hid (KeepT.trans HK0.out (KeepT.ofGrown hg (fun b hb => .inl hb)))
  clear hp hg KB HK0
  obtain ⟨l0, c0, c1, c2, c3, c4, c5, c6⟩ := KB1.out.c7
  go_wp2_with fail
  refine (markMat mW mH B ma mn mc (s + pn) ys _ (by exact HM1.out) (by omega) (by omega)).mono ?_
  rintro e w2 ⟨rfl, hp, hg⟩
  have HM2 := Lib.hid hp
  have HP2 := Lib.hid (HP1.out.grownS hg (fun b hb e => HO0.out.pm b e hb))
  have HS2 := Lib.hid (OwnV.grownS HS1.out hg (fun b hb e => HO0.out.ms b e hb))
  have KB2 := Lib.hid (KB1.out.grown hg (fun e => by have := HBD.out w.heap.size (.inr (.inl e.symm)); omega))
  have HK2 := Lib.hid (KeepT.trans HK1.out (KeepT.ofGrown hg (fun b hb => .inr (.inl hb))))
  clear hp hg KB1 HK1 HP1 HM1 HS1 l0 c0 c1 c2 c3 c4 c5 c6
  obtain ⟨l0, c0, c1, c2, c3, c4, c5, c6⟩ := KB2.out.c7
  go_wp2_with fail
  refine (markPicS B a n c (s + pn + mn) ps _ (by exact HS2.out) (by omega) (by omega)).mono ?_
  rintro e w3 ⟨rfl, hp, hk⟩
  have HS3 := Lib.hid hp
  have HP3 := Lib.hid (HP2.out.keepS hk (fun b hb e => HO0.out.ps b hb e))
  have HM3 := Lib.hid (HM2.out.keepS hk (fun b hb e => HO0.out.ms b hb e))
  have HK3 := Lib.hid (KeepT.trans HK2.out (hk.mono (fun b hb => .inr (.inr hb))))
  have HBL : Hid (∀ b, OwnV.blocks a (markV (s + pn + mn) ps) b → OwnV.blocks a ps b) := Lib.hid (fun b hb => by
    rcases hb with hb | ⟨k, hk, hb⟩
    · exact .inl hb
    · rw [markV_len] at hk
      rw [markV_at _ _ _ hk] at hb
      exact .inr ⟨k, hk, hb⟩)
  clear hp hk
  go_wp2_with fail
  go_ret
  exact ⟨ret_int (by omega), ⟨HP3.out, HM3.out, HS3.out, HO0.out.pm, fun b hb => HO0.out.ps b (HBL.out b hb), fun b hb => HO0.out.ms b (HBL.out b hb)⟩, HK3.out⟩

set_option maxRecDepth 100000 in
set_option maxHeartbeats 1600000 in
theorem heldDesk (D : Dsk) (s : Int) (w : World) (ho : RdD w (markD s D)) (h0 : 0 ≤ s) (hl : s + sizeD D ≤ 17592186044416) :
    Calls Try.prog 9 #[D.val, .int .i64 s] w fun e w' => e = .returned (.int .i64 (s + sizeD D)) ∧ Below w.heap.size w w' := by
  obtain ⟨⟨W, H, pa, pn, pc, xs⟩, ⟨mW, mH, ma, mn, mc, ys⟩, a, n, c, ps⟩ := D
  have hsz : (sizeD (⟨⟨W, H, pa, pn, pc, xs⟩, ⟨mW, mH, ma, mn, mc, ys⟩, a, n, c, ps⟩ : Dsk) : Int) = pn + mn + sizeV ps := by unfold sizeD; push_cast; rfl
  rw [hsz] at hl ⊢
  obtain ⟨r1, r2, r3, r4, r5, r6⟩ := ho
  dsimp only [markD] at r1 r2 r3 r4 r5 r6
  rw [markV_len] at r5
  have R2 := Lib.hid r2
  have R4 := Lib.hid r4
  have R5 := Lib.hid r5
  have R6 := Lib.hid r6
  have KB := Lib.hid (Blk.new w 29 #[.int .i64 W, .int .i64 H, .slice pa pn pc, .int .i64 mW, .int .i64 mH, .slice ma mn mc, .slice a n c])
  have HB0 := Lib.hid (bAlloc (Below.refl w.heap.size w) (.cells #[.int .i64 W, .int .i64 H, .slice pa pn pc, .int .i64 mW, .int .i64 mH, .slice ma mn mc, .slice a n c] 29))
  clear r1 r2 r3 r4 r5 r6 hsz
  show Calls Try.prog 9 #[.agg #[.int .i64 W, .int .i64 H, .slice pa pn pc, .int .i64 mW, .int .i64 mH, .slice ma mn mc, .slice a n c], .int .i64 s] w _
  go_enter Try.func9, Try.ntmps9
  go_wp2_with fail
  refine (heldPic W H pa pn pc s _ (by exact R2.out.below HB0.out) h0 (by omega)).mono ?_
  rintro e w1 ⟨rfl, hb⟩
  have HB1 := Lib.hid (bTrans HB0.out hb)
  have KB1 := Lib.hid (KB.out.below' hb)
  clear hb KB
  obtain ⟨l0, c0, c1, c2, c3, c4, c5, c6⟩ := KB1.out.c7
  go_wp2_with fail
  refine (heldMat mW mH ma mn mc (s + pn) _ (by exact R4.out.below HB1.out) (by omega) (by omega)).mono ?_
  rintro e w2 ⟨rfl, hb⟩
  have HB2 := Lib.hid (bTrans HB1.out hb)
  have KB2 := Lib.hid (KB1.out.below' hb)
  clear hb KB1 l0 c0 c1 c2 c3 c4 c5 c6
  obtain ⟨l0, c0, c1, c2, c3, c4, c5, c6⟩ := KB2.out.c7
  go_wp2_with fail
  refine (heldPicS a n c (s + pn + mn) ps _ R5.out (by exact R6.out.below HB2.out) (by omega) (by omega)).mono ?_
  rintro e w3 ⟨rfl, rfl⟩
  go_wp2_with fail
  go_ret
  exact ⟨ret_int (by omega), HB2.out⟩

end Go.Proofs.Ytafjpmlakpfidaa
