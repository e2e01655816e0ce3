/-
  The exact law of ErrorsOf: the walk, and the row. laws.FnExactErrorsOf returns true for every input: the program answers as the model does, writes into no argument, and its answer owns its memory. No conditions.
-/
import Derived.Test.YtbopeibommnjgaaK16
import Derived.Test.YtbopeibommnjgaaK5
import Derived.Test.YtbopeibommnjgaaPic
import Derived.Test.YtbopeibommnjgaaCut
import Derived.Test.YtbopeibommnjgaaFrameK
import Derived.Deep.RegionHeld3
namespace Go.Proofs.Ytbopeibommnjgaa.xErrorsOf
open Go.ChangeShapes Go.WideShapes Go.ChangeAt Go.RowKit
set_option linter.unusedVariables false
set_option linter.unusedSimpArgs false

theorem rowt_call {v v' : World} {T sz g n cap : Nat} {xs : List Int} (h : RowT v T sz g n cap xs) (hq : Below v.heap.size v v') : RowT v' T sz g n cap xs := h.below hq h.lt

theorem rowt_callA {v v' : World} {o : Obj} {T sz g n cap : Nat} {xs : List Int} (h : RowT v T sz g n cap xs) (hq : Below (v.alloc o).heap.size (v.alloc o) v') : RowT v' T sz g n cap xs := (h.alloc o).below hq (h.alloc o).lt

/-- A list of numbers in memory of the call's own. -/
def ListBox (w wx : World) (xs : List Int) (s : Value) : Prop := ∃ a n c, s = .slice a n c ∧ OwnA wx w.heap.size a n c xs ∧ (∀ b, blockOf a = some b → w.heap.size ≤ b ∧ b < wx.heap.size) ∧ n ≤ 1048576 ∧ Below w.heap.size w wx

theorem listbox {w v : World} {B n c : Nat} {xs : List Int} {a : Option Addr} (hB : BelowH w v) (ho : OwnA v B a n c xs) (hz : w.heap.size ≤ B) (hn : n ≤ 1048576) : ListBox w v xs (.slice a n c) :=
  ⟨a, n, c, rfl, ho.mono hz, (ho.mono hz).bd, hn, hB.out⟩

set_option maxRecDepth 100000 in
set_option maxHeartbeats 400000 in
theorem no0 (ad0 : Option Addr) (n0 cap0 : Nat) (ks0 : List Prt) (W1 H1 : Int) (ad1 : Option Addr) (n1 cap1 : Nat) (xs1 : List Int) (x2 : Bool) (w : World) (h1 : 1048576 < (n0 : Int)) (h3 : n0 ≤ 9223372036854775807) :
    Calls Try.prog 9 #[.slice ad0 n0 cap0, .agg #[.int .i64 W1, .int .i64 H1, .slice ad1 n1 cap1], .bool x2] w fun e w' => e = .returned (.bool true) ∧ Below w.heap.size w w' := by
  go_enter Try.func9, Try.ntmps9
  go_wp2_with (go_at_call 14; refine (szPart_no _ _ _ _ _ (by omega) (by omega) (by omega) h3).mono ?_; rintro e w1 ⟨rfl, rfl⟩)
  go_ret
  exact ⟨rfl, by first | exact Joins.below_alloc1 _ _ | exact Below.refl _ _⟩

set_option maxRecDepth 100000 in
set_option maxHeartbeats 400000 in
theorem no1 (ad0 : Option Addr) (n0 cap0 : Nat) (ks0 : List Prt) (W1 H1 : Int) (ad1 : Option Addr) (n1 cap1 : Nat) (xs1 : List Int) (x2 : Bool) (w : World) (h0 : (n0 : Int) ≤ 1048576) (h1 : 1048576 < (n0 : Int) + (n1 : Int)) (h3 : n1 ≤ 9223372036854775807) :
    Calls Try.prog 9 #[.slice ad0 n0 cap0, .agg #[.int .i64 W1, .int .i64 H1, .slice ad1 n1 cap1], .bool x2] w fun e w' => e = .returned (.bool true) ∧ Below w.heap.size w w' := by
  go_enter Try.func9, Try.ntmps9
  go_wp2_with fail
  refine (szPart_ok _ _ _ _ _ (by omega) (by omega)).mono ?_
  rintro e wz ⟨rfl, rfl⟩
  go_wp2_with fail
  refine (szPic_no _ _ _ _ _ _ _ (by omega) (by omega) (by omega) h3).mono ?_
  rintro e w1 ⟨rfl, hb⟩
  have HB1 := Lib.hid (bTrans (bAlloc (Below.refl _ _) _) hb)
  clear hb
  go_wp2_with fail
  go_ret
  exact ⟨rfl, HB1.out⟩

set_option maxRecDepth 100000 in
set_option maxHeartbeats 8000000 in
theorem ok (ad0 : Option Addr) (n0 cap0 : Nat) (ks0 : List Prt) (W1 H1 : Int) (ad1 : Option Addr) (n1 cap1 : Nat) (xs1 : List Int) (x2 : Bool) (w : World) (hn0 : ks0.length = n0) (ha0 : Rd w ad0 (flat ks0)) (hc0 : n0 ≤ cap0) (hn1 : xs1.length = n1) (ha1 : Rd w ad1 xs1) (hsz : (n0 : Int) + (n1 : Int) ≤ 1048576) :
    Calls Try.prog 9 #[.slice ad0 n0 cap0, .agg #[.int .i64 W1, .int .i64 H1, .slice ad1 n1 cap1], .bool x2] w fun e w' => e = .returned (.bool true) ∧ Below w.heap.size w w' := by
  have HN0 := Lib.hid hn0
  have HA0 := Lib.hid ha0
  clear hn0 ha0
  have HN1 := Lib.hid hn1
  have HA1 := Lib.hid ha1
  clear hn1 ha1
  go_enter Try.func9, Try.ntmps9
  go_wp2_with fail
  refine (szPart_ok _ _ _ _ _ (by omega) (by omega)).mono ?_
  rintro e wz ⟨rfl, rfl⟩
  go_wp2_with fail
  refine (szPic_ok _ _ _ _ _ _ _ (by omega) (by omega)).mono ?_
  rintro e w1 ⟨rfl, hb⟩
  have HB1 := Lib.hid (bTrans (bAlloc (Below.refl _ _) _) hb)
  have HZ1 : Hid (w.heap.size + 1 ≤ w1.heap.size) := Lib.hid (by have := hb.size; (try simp at this); omega)
  have K1_a1 : Hid (Blk w1 (w.heap.size) 39 #[.int .i64 W1, .int .i64 H1, .slice ad1 n1 cap1]) := Lib.hid ((Blk.new' (g := w.heap.size) 39 #[.int .i64 W1, .int .i64 H1, .slice ad1 n1 cap1] (by simp)).below' hb)
  try clear hb
  obtain ⟨lza1, caa1, cba1, cca1⟩ := K1_a1.out.c3
  go_upto_region 8 with fail
  go_cut [8] (fun s8 wx => ListBox w1 wx (errorsF ks0 W1 H1 xs1 x2) s8)
  case first =>
    have MK : Hid (∀ v, BelowH w1 v → v.cell? ⟨w.heap.size, 0, none⟩ = some (.int .i64 W1) ∧ v.cell? ⟨w.heap.size, 1, none⟩ = some (.int .i64 H1) ∧ v.cell? ⟨w.heap.size, 2, none⟩ = some (.slice ad1 n1 cap1) ∧ BelowH w1 v) := Lib.hid (fun v hB => ⟨(hB.out.cell lza1).trans caa1, (hB.out.cell lza1).trans cba1, (hB.out.cell lza1).trans cca1, hB⟩)
    go_region_held3 (fun v => v.cell? ⟨w.heap.size, 0, none⟩ = some (.int .i64 W1) ∧ v.cell? ⟨w.heap.size, 1, none⟩ = some (.int .i64 H1) ∧ v.cell? ⟨w.heap.size, 2, none⟩ = some (.slice ad1 n1 cap1) ∧ BelowH w1 v)
      (first | exact MK.out _ (BelowH.start _) | exact MK.out _ hb3 | exact MK.out _ hb2 | exact MK.out _ hb1 | exact MK.out _ (BelowH.alloc hb3 _) | exact MK.out _ (BelowH.alloc (held4 (by assumption)) _) | exact MK.out _ (BelowH.allocD (held4 (by assumption)) _) | exact MK.out _ (BelowH.set (BelowH.set (BelowH.set (held4 (by assumption)) (by exact kg) _) (by exact kg) _) (by exact kg) _))
      (first
        | (go_at_call 16; ((with_reducible refine (toParts ad0 n0 cap0 ks0 _ HN0.out (by exact ((HA0.out.below HB1.out).below (BelowH.out (held4 (by assumption))))) (by omega)).mono ?_); rintro e v1 ⟨gs0, rfl, hgs0, hos0, hq1⟩; have hz1 := BelowH.le_call (held4 (by assumption)) hq1; have hb1 := BelowH.call (held4 (by assumption)) hq1))
        | (go_at_call 34; ((with_reducible refine (toPic W1 H1 ad1 n1 cap1 xs1 _ HN1.out (by exact ((HA1.out.below HB1.out).below (BelowH.out (held4 (by assumption))))) (by omega)).mono ?_); rintro e v2 ⟨gs1, rfl, hgs1, hos1, hq2⟩; have hz2 := BelowH.le_call (held4 (by assumption)) hq2; have hb2 := BelowH.call (held4 (by assumption)) hq2; (first | (have hos0 := rowt_call hos0 hq2) | (have hos0 := rowt_callA hos0 hq2))))
        | (go_at_call 39; ((with_reducible refine (spec_ErrorsOf (some ⟨gs0, 0, none⟩) n0 n0 ks0 W1 H1 (some ⟨gs1, 0, none⟩) n1 n1 xs1 x2 _ HN0.out (by first | exact hos0.rd | exact (hos0.alloc _).rd) (by omega) (by omega) HN1.out (by first | exact hos1.rd | exact (hos1.alloc _).rd) (by omega)).mono ?_); rintro e v3 ⟨at0, nt0, ct0, rfl, ho, hnt0, hq3⟩; have hz3 := BelowH.le_call (held4 (by assumption)) hq3; have hb3 := BelowH.call (held4 (by assumption)) hq3)))
    all_goals (go_wp2_with fail; go_meet; exact listbox hb3 ho hz3 hnt0)
  case rest =>
    obtain ⟨aw0, nw0, cw0, rfl, ho, hr, hnw0, hb⟩ := hcut
    obtain ⟨w2, hw2⟩ : ∃ v, v = wc := ⟨_, rfl⟩
    subst hw2
    have HB2 := Lib.hid (bTrans HB1.out hb)
    have HZ2 : Hid (w1.heap.size + 0 ≤ w2.heap.size) := Lib.hid hb.size
    have K2_a1 := Lib.hid (K1_a1.out.below' hb)
    clear K1_a1
    have K2_w0 := Lib.hid ho
    have R2_w0 := Lib.hid hr
    clear ho hr hb
    clear lza1
    clear caa1
    clear cba1
    clear cca1
    go_wp2_with fail
    refine (toParts _ _ _ ks0 _ HN0.out (by exact (HA0.out.below HB2.out)) (by omega)).mono ?_
    rintro e w3 ⟨gx0, rfl, hg, ho, hb⟩
    have HB3 := Lib.hid (bTrans HB2.out hb)
    have HZ3 : Hid (w2.heap.size + 0 ≤ w3.heap.size) := Lib.hid (by have := hb.size; (try simp at this); omega)
    have K3_a1 := Lib.hid (K2_a1.out.below' hb)
    clear K2_a1
    have K3_w0 := Lib.hid (K2_w0.out.below' hb)
    clear K2_w0
    have K3_x0 := Lib.hid (RowA.mono (B' := w2.heap.size + 0) (RowA.mk ho hg) (by first | (simp; done) | (simp; omega)))
    have R3_x0 := Lib.hid K3_x0.out.bd
    clear ho hg
    try clear hb
    obtain ⟨lza1, caa1, cba1, cca1⟩ := K3_a1.out.c3
    go_wp2_with fail
    refine (toPic _ _ _ _ _ xs1 _ HN1.out (by exact (HA1.out.below HB3.out)) (by omega)).mono ?_
    rintro e w4 ⟨gx1, rfl, hg, ho, hb⟩
    have HB4 := Lib.hid (bTrans HB3.out hb)
    have HZ4 : Hid (w3.heap.size + 0 ≤ w4.heap.size) := Lib.hid (by have := hb.size; (try simp at this); omega)
    have K4_a1 := Lib.hid (K3_a1.out.below' hb)
    clear K3_a1
    have K4_w0 := Lib.hid (K3_w0.out.below' hb)
    clear K3_w0
    have K4_x0 := Lib.hid (K3_x0.out.below' hb)
    clear K3_x0
    have K4_x1 := Lib.hid (OwnA.mono (B' := w3.heap.size + 0) (OwnA.mk ho hg) (by first | (simp; done) | (simp; omega)))
    have R4_x1 := Lib.hid K4_x1.out.bd
    clear ho hg
    try clear hb
    clear lza1
    clear caa1
    clear cba1
    clear cca1
    go_wp2_with fail
    refine (impl_ErrorsOf _ _ _ ks0 W1 H1 _ n1 _ xs1 x2 _ HN0.out (by exact (K4_x0.out.alloc _).rd) (by omega) (by omega) HN1.out (by exact (K4_x1.out.alloc _).rd) (by omega)).mono ?_
    rintro e w5 ⟨ag0, ng0, cg0, rfl, ho, hng0, hb⟩
    have HB5 := Lib.hid (bTrans (bAlloc HB4.out _) hb)
    have HZ5 : Hid (w4.heap.size + 1 ≤ w5.heap.size) := Lib.hid (by have := hb.size; (try simp at this); omega)
    have K5_a1 := Lib.hid ((K4_a1.out.alloc _).below' hb)
    clear K4_a1
    have K5_w0 := Lib.hid ((K4_w0.out.alloc _).below' hb)
    clear K4_w0
    have K5_x0 := Lib.hid ((K4_x0.out.alloc _).below' hb)
    clear K4_x0
    have K5_x1 := Lib.hid ((K4_x1.out.alloc _).below' hb)
    clear K4_x1
    have K5_bx1 : Hid (Blk w5 (w4.heap.size) 41 #[.int .i64 W1, .int .i64 H1, .slice (some ⟨gx1, 0, none⟩) n1 n1]) := Lib.hid ((Blk.new' (g := w4.heap.size) 41 #[.int .i64 W1, .int .i64 H1, .slice (some ⟨gx1, 0, none⟩) n1 n1] (by simp)).below' hb)
    have K5_g0 := Lib.hid (OwnA.mono (B' := w4.heap.size + 1) ho (by first | (simp; done) | (simp; omega)))
    have R5_g0 := Lib.hid K5_g0.out.bd
    clear ho
    try clear hb
    obtain ⟨lzbx1, cabx1, cbbx1, ccbx1⟩ := K5_bx1.out.c3
    go_wp2_with fail
    refine (eqIntsB _ _ _ _ _ _ _ _ _ K5_g0.out.len K5_w0.out.len (by exact K5_g0.out.rd) (by exact K5_w0.out.rd) (by omega) (by omega)).mono ?_
    rintro e w6 ⟨rfl, hb⟩
    have HB6 := Lib.hid (bTrans HB5.out hb)
    have HZ6 : Hid (w5.heap.size + 0 ≤ w6.heap.size) := Lib.hid (by have := hb.size; (try simp at this); omega)
    have K6_a1 := Lib.hid (K5_a1.out.below' hb)
    clear K5_a1
    have K6_w0 := Lib.hid (K5_w0.out.below' hb)
    clear K5_w0
    have K6_x0 := Lib.hid (K5_x0.out.below' hb)
    clear K5_x0
    have K6_x1 := Lib.hid (K5_x1.out.below' hb)
    clear K5_x1
    have K6_bx1 := Lib.hid (K5_bx1.out.below' hb)
    clear K5_bx1
    have K6_g0 := Lib.hid (K5_g0.out.below' hb)
    clear K5_g0
    try clear hb
    clear lzbx1
    clear cabx1
    clear cbbx1
    clear ccbx1
    go_wp2_with fail
    refine (toParts _ _ _ ks0 _ HN0.out (by exact (HA0.out.below HB6.out)) (by omega)).mono ?_
    rintro e w7 ⟨gt0, rfl, hg, ho, hb⟩
    have HB7 := Lib.hid (bTrans HB6.out hb)
    have HZ7 : Hid (w6.heap.size + 0 ≤ w7.heap.size) := Lib.hid (by have := hb.size; (try simp at this); omega)
    have K7_a1 := Lib.hid (K6_a1.out.below' hb)
    clear K6_a1
    have K7_w0 := Lib.hid (K6_w0.out.below' hb)
    clear K6_w0
    have K7_x0 := Lib.hid (K6_x0.out.below' hb)
    clear K6_x0
    have K7_x1 := Lib.hid (K6_x1.out.below' hb)
    clear K6_x1
    have K7_bx1 := Lib.hid (K6_bx1.out.below' hb)
    clear K6_bx1
    have K7_g0 := Lib.hid (K6_g0.out.below' hb)
    clear K6_g0
    have K7_t0 := Lib.hid (RowA.mono (B' := w6.heap.size + 0) (RowA.mk ho hg) (by first | (simp; done) | (simp; omega)))
    have R7_t0 := Lib.hid K7_t0.out.bd
    clear ho hg
    try clear hb
    go_wp2_with fail
    refine (eqParts _ _ _ _ _ _ _ _ _ K7_x0.out.len K7_t0.out.len (by exact K7_x0.out.rd) (by exact K7_t0.out.rd) (by omega) (by omega)).mono ?_
    rintro e w8 ⟨rfl, hb⟩
    have HB8 := Lib.hid (bTrans HB7.out hb)
    have HZ8 : Hid (w7.heap.size + 0 ≤ w8.heap.size) := Lib.hid (by have := hb.size; (try simp at this); omega)
    have K8_a1 := Lib.hid (K7_a1.out.below' hb)
    clear K7_a1
    have K8_w0 := Lib.hid (K7_w0.out.below' hb)
    clear K7_w0
    have K8_x0 := Lib.hid (K7_x0.out.below' hb)
    clear K7_x0
    have K8_x1 := Lib.hid (K7_x1.out.below' hb)
    clear K7_x1
    have K8_bx1 := Lib.hid (K7_bx1.out.below' hb)
    clear K7_bx1
    have K8_g0 := Lib.hid (K7_g0.out.below' hb)
    clear K7_g0
    clear K7_t0
    try clear hb
    obtain ⟨lzbx1, cabx1, cbbx1, ccbx1⟩ := K8_bx1.out.c3
    obtain ⟨lza1, caa1, cba1, cca1⟩ := K8_a1.out.c3
    go_wp2_with fail
    go_region_held3 (fun v => v.cell? ⟨w4.heap.size, 0, none⟩ = some (.int .i64 W1) ∧ v.cell? ⟨w4.heap.size, 1, none⟩ = some (.int .i64 H1) ∧ v.cell? ⟨w4.heap.size, 2, none⟩ = some (.slice (some ⟨gx1, 0, none⟩) n1 n1) ∧ v.cell? ⟨w.heap.size, 0, none⟩ = some (.int .i64 W1) ∧ v.cell? ⟨w.heap.size, 1, none⟩ = some (.int .i64 H1) ∧ v.cell? ⟨w.heap.size, 2, none⟩ = some (.slice ad1 n1 cap1))
      (first | exact ⟨cabx1 , cbbx1 , ccbx1 , caa1 , cba1 , cca1⟩ | exact ⟨(hb.cell lzbx1).trans cabx1, (hb.cell lzbx1).trans cbbx1, (hb.cell lzbx1).trans ccbx1, (hb.cell lza1).trans caa1, (hb.cell lza1).trans cba1, (hb.cell lza1).trans cca1⟩ | exact ⟨(hb7.cell (Nat.lt_of_lt_of_le lzbx1 hb.size)).trans ((hb.cell lzbx1).trans cabx1), (hb7.cell (Nat.lt_of_lt_of_le lzbx1 hb.size)).trans ((hb.cell lzbx1).trans cbbx1), (hb7.cell (Nat.lt_of_lt_of_le lzbx1 hb.size)).trans ((hb.cell lzbx1).trans ccbx1), (hb7.cell (Nat.lt_of_lt_of_le lza1 hb.size)).trans ((hb.cell lza1).trans caa1), (hb7.cell (Nat.lt_of_lt_of_le lza1 hb.size)).trans ((hb.cell lza1).trans cba1), (hb7.cell (Nat.lt_of_lt_of_le lza1 hb.size)).trans ((hb.cell lza1).trans cca1)⟩)
      (first
        | (go_at_call 34; refine (toPic _ _ _ _ _ xs1 _ HN1.out (by exact (HA1.out.below HB8.out).of_heap rfl) (by omega)).mono ?_; rintro e v1 ⟨gu1, rfl, hgu, hou, hb⟩)
        | (go_at_call 36; refine (eqPic _ _ _ _ _ _ _ _ _ _ xs1 xs1 _ HN1.out HN1.out (by exact (K8_x1.out.drew.below' hb).rd.of_heap rfl) (by exact hou.rd.of_heap rfl) (by omega) (by omega)).mono ?_; rintro e w9 ⟨rfl, hb7⟩))
    have HB9 := Lib.hid (bTrans (bTrans HB8.out.drew hb) hb7)
    have HZ9 : Hid (w8.heap.size + 0 ≤ w9.heap.size) := Lib.hid (Nat.le_trans hb.size hb7.size)
    have K9_a1 := Lib.hid ((K8_a1.out.drew.below' hb).below' hb7)
    clear K8_a1
    have K9_w0 := Lib.hid ((K8_w0.out.drew.below' hb).below' hb7)
    clear K8_w0
    have K9_x0 := Lib.hid ((K8_x0.out.drew.below' hb).below' hb7)
    clear K8_x0
    have K9_x1 := Lib.hid ((K8_x1.out.drew.below' hb).below' hb7)
    clear K8_x1
    have K9_bx1 := Lib.hid ((K8_bx1.out.drew.below' hb).below' hb7)
    clear K8_bx1
    have K9_g0 := Lib.hid ((K8_g0.out.drew.below' hb).below' hb7)
    clear K8_g0
    clear hb hb7 hgu hou
    clear lzbx1
    clear cabx1
    clear cbbx1
    clear ccbx1
    clear lza1
    clear caa1
    clear cba1
    clear cca1
    go_wp2_with fail
    refine (markParts _ _ _ _ (1) _ _ (by exact K9_x0.out) (by omega) (by omega)).mono ?_
    rintro e w10 ⟨rfl, ho, hb⟩
    have HB10 := Lib.hid (Below.grown HB9.out hb HB9.out.size (by intro b hb1; have := R3_x0.out b hb1; have := HZ1.out; have := HZ2.out; have := HZ3.out; have := HZ4.out; have := HZ5.out; have := HZ6.out; have := HZ7.out; have := HZ8.out; have := HZ9.out; have := (HB1.out).size; omega))
    have HZ10 : Hid (w9.heap.size + 0 ≤ w10.heap.size) := Lib.hid hb.size
    have K10_a1 := Lib.hid (Blk.grownS K9_a1.out hb (by intro b hb1; have := R3_x0.out b hb1; have := HZ1.out; have := HZ2.out; have := HZ3.out; have := HZ4.out; have := HZ5.out; have := HZ6.out; have := HZ7.out; have := HZ8.out; have := HZ9.out; omega))
    clear K9_a1
    have K10_w0 := Lib.hid (K9_w0.out.grownS hb (by intro b hb1 hb2; have := R3_x0.out b hb1; have := R2_w0.out b hb2; have := HZ1.out; have := HZ2.out; have := HZ3.out; have := HZ4.out; have := HZ5.out; have := HZ6.out; have := HZ7.out; have := HZ8.out; have := HZ9.out; omega))
    clear K9_w0
    have K10_x0 := Lib.hid ho
    clear K9_x0 ho
    have K10_x1 := Lib.hid (K9_x1.out.grownS hb (by intro b hb1 hb2; have := R3_x0.out b hb1; have := R4_x1.out b hb2; have := HZ1.out; have := HZ2.out; have := HZ3.out; have := HZ4.out; have := HZ5.out; have := HZ6.out; have := HZ7.out; have := HZ8.out; have := HZ9.out; omega))
    clear K9_x1
    have K10_bx1 := Lib.hid (Blk.grownS K9_bx1.out hb (by intro b hb1; have := R3_x0.out b hb1; have := HZ1.out; have := HZ2.out; have := HZ3.out; have := HZ4.out; have := HZ5.out; have := HZ6.out; have := HZ7.out; have := HZ8.out; have := HZ9.out; omega))
    clear K9_bx1
    have K10_g0 := Lib.hid (K9_g0.out.grownS hb (by intro b hb1 hb2; have := R3_x0.out b hb1; have := R5_g0.out b hb2; have := HZ1.out; have := HZ2.out; have := HZ3.out; have := HZ4.out; have := HZ5.out; have := HZ6.out; have := HZ7.out; have := HZ8.out; have := HZ9.out; omega))
    clear K9_g0
    try clear hb
    obtain ⟨lzbx1, cabx1, cbbx1, ccbx1⟩ := K10_bx1.out.c3
    go_wp2_with fail
    refine (markPic _ _ _ _ _ _ (1 + ((n0 * 3 : Nat) : Int)) _ _ (by exact K10_x1.out) (by omega) (by omega)).mono ?_
    rintro e w11 ⟨rfl, ho, hb⟩
    have HB11 := Lib.hid (Below.grown HB10.out hb HB10.out.size (by intro b hb1; have := R4_x1.out b hb1; have := HZ1.out; have := HZ2.out; have := HZ3.out; have := HZ4.out; have := HZ5.out; have := HZ6.out; have := HZ7.out; have := HZ8.out; have := HZ9.out; have := HZ10.out; have := (HB1.out).size; omega))
    have HZ11 : Hid (w10.heap.size + 0 ≤ w11.heap.size) := Lib.hid hb.size
    have K11_a1 := Lib.hid (Blk.grownS K10_a1.out hb (by intro b hb1; have := R4_x1.out b hb1; have := HZ1.out; have := HZ2.out; have := HZ3.out; have := HZ4.out; have := HZ5.out; have := HZ6.out; have := HZ7.out; have := HZ8.out; have := HZ9.out; have := HZ10.out; omega))
    clear K10_a1
    have K11_w0 := Lib.hid (K10_w0.out.grownS hb (by intro b hb1 hb2; have := R4_x1.out b hb1; have := R2_w0.out b hb2; have := HZ1.out; have := HZ2.out; have := HZ3.out; have := HZ4.out; have := HZ5.out; have := HZ6.out; have := HZ7.out; have := HZ8.out; have := HZ9.out; have := HZ10.out; omega))
    clear K10_w0
    clear K10_x0
    have K11_x1 := Lib.hid ho
    clear K10_x1 ho
    clear K10_bx1
    have K11_g0 := Lib.hid (K10_g0.out.grownS hb (by intro b hb1 hb2; have := R4_x1.out b hb1; have := R5_g0.out b hb2; have := HZ1.out; have := HZ2.out; have := HZ3.out; have := HZ4.out; have := HZ5.out; have := HZ6.out; have := HZ7.out; have := HZ8.out; have := HZ9.out; have := HZ10.out; omega))
    clear K10_g0
    try clear hb
    clear lzbx1
    clear cabx1
    clear cbbx1
    clear ccbx1
    go_wp2_with fail
    refine (eqIntsB _ _ _ _ _ _ _ _ _ K11_g0.out.len K11_w0.out.len (by exact K11_g0.out.rd) (by exact K11_w0.out.rd) (by omega) (by omega)).mono ?_
    rintro e w12 ⟨rfl, hb⟩
    have HB12 := Lib.hid (bTrans HB11.out hb)
    have HZ12 : Hid (w11.heap.size + 0 ≤ w12.heap.size) := Lib.hid (by have := hb.size; (try simp at this); omega)
    have K12_a1 := Lib.hid (K11_a1.out.below' hb)
    clear K11_a1
    have K12_w0 := Lib.hid (K11_w0.out.below' hb)
    clear K11_w0
    have K12_x1 := Lib.hid (K11_x1.out.below' hb)
    clear K11_x1
    have K12_g0 := Lib.hid (K11_g0.out.below' hb)
    clear K11_g0
    try clear hb
    go_wp2_with fail
    refine (markInts _ _ _ _ (1) _ _ (by exact K12_g0.out) (by omega) (by omega)).mono ?_
    rintro e w13 ⟨rfl, ho, hb⟩
    have HB13 := Lib.hid (Below.grown HB12.out hb HB12.out.size (by intro b hb1; have := R5_g0.out b hb1; have := HZ1.out; have := HZ2.out; have := HZ3.out; have := HZ4.out; have := HZ5.out; have := HZ6.out; have := HZ7.out; have := HZ8.out; have := HZ9.out; have := HZ10.out; have := HZ11.out; have := HZ12.out; have := (HB1.out).size; omega))
    have HZ13 : Hid (w12.heap.size + 0 ≤ w13.heap.size) := Lib.hid hb.size
    have K13_a1 := Lib.hid (Blk.grownS K12_a1.out hb (by intro b hb1; have := R5_g0.out b hb1; have := HZ1.out; have := HZ2.out; have := HZ3.out; have := HZ4.out; have := HZ5.out; have := HZ6.out; have := HZ7.out; have := HZ8.out; have := HZ9.out; have := HZ10.out; have := HZ11.out; have := HZ12.out; omega))
    clear K12_a1
    have K13_w0 := Lib.hid (K12_w0.out.grownS hb (by intro b hb1 hb2; have := R5_g0.out b hb1; have := R2_w0.out b hb2; have := HZ1.out; have := HZ2.out; have := HZ3.out; have := HZ4.out; have := HZ5.out; have := HZ6.out; have := HZ7.out; have := HZ8.out; have := HZ9.out; have := HZ10.out; have := HZ11.out; have := HZ12.out; omega))
    clear K12_w0
    clear K12_x1
    have K13_g0 := Lib.hid ho
    clear K12_g0 ho
    try clear hb
    go_wp2_with fail
    refine (heldIntsB _ _ _ 1 _ (by exact K13_g0.out.rd) (by omega) (by omega)).mono ?_
    rintro e w14 ⟨rfl, hb⟩
    have HB14 := Lib.hid (bTrans HB13.out hb)
    have HZ14 : Hid (w13.heap.size + 0 ≤ w14.heap.size) := Lib.hid (by have := hb.size; (try simp at this); omega)
    have K14_a1 := Lib.hid (K13_a1.out.below' hb)
    clear K13_a1
    have K14_w0 := Lib.hid (K13_w0.out.below' hb)
    clear K13_w0
    have K14_g0 := Lib.hid (K13_g0.out.below' hb)
    clear K13_g0
    try clear hb
    obtain ⟨lza1, caa1, cba1, cca1⟩ := K14_a1.out.c3
    go_upto_region 31 with fail
    go_cut [15] (fun s15 wx => ListBox w14 wx (errorsF ks0 W1 H1 xs1 x2) s15)
    case first =>
      have MK : Hid (∀ v, BelowH w14 v → v.cell? ⟨w.heap.size, 0, none⟩ = some (.int .i64 W1) ∧ v.cell? ⟨w.heap.size, 1, none⟩ = some (.int .i64 H1) ∧ v.cell? ⟨w.heap.size, 2, none⟩ = some (.slice ad1 n1 cap1) ∧ BelowH w14 v) := Lib.hid (fun v hB => ⟨(hB.out.cell lza1).trans caa1, (hB.out.cell lza1).trans cba1, (hB.out.cell lza1).trans cca1, hB⟩)
      go_region_held3 (fun v => v.cell? ⟨w.heap.size, 0, none⟩ = some (.int .i64 W1) ∧ v.cell? ⟨w.heap.size, 1, none⟩ = some (.int .i64 H1) ∧ v.cell? ⟨w.heap.size, 2, none⟩ = some (.slice ad1 n1 cap1) ∧ BelowH w14 v)
        (first | exact MK.out _ (BelowH.start _) | exact MK.out _ hb3 | exact MK.out _ hb2 | exact MK.out _ hb1 | exact MK.out _ (BelowH.alloc hb3 _) | exact MK.out _ (BelowH.alloc (held4 (by assumption)) _) | exact MK.out _ (BelowH.allocD (held4 (by assumption)) _) | exact MK.out _ (BelowH.set (BelowH.set (BelowH.set (held4 (by assumption)) (by exact kg) _) (by exact kg) _) (by exact kg) _))
        (first
          | (go_at_call 16; ((with_reducible refine (toParts ad0 n0 cap0 ks0 _ HN0.out (by exact ((HA0.out.below HB14.out).below (BelowH.out (held4 (by assumption))))) (by omega)).mono ?_); rintro e v1 ⟨gs0, rfl, hgs0, hos0, hq1⟩; have hz1 := BelowH.le_call (held4 (by assumption)) hq1; have hb1 := BelowH.call (held4 (by assumption)) hq1))
          | (go_at_call 34; ((with_reducible refine (toPic W1 H1 ad1 n1 cap1 xs1 _ HN1.out (by exact ((HA1.out.below HB14.out).below (BelowH.out (held4 (by assumption))))) (by omega)).mono ?_); rintro e v2 ⟨gs1, rfl, hgs1, hos1, hq2⟩; have hz2 := BelowH.le_call (held4 (by assumption)) hq2; have hb2 := BelowH.call (held4 (by assumption)) hq2; (first | (have hos0 := rowt_call hos0 hq2) | (have hos0 := rowt_callA hos0 hq2))))
          | (go_at_call 40; ((with_reducible refine (impl_ErrorsOf (some ⟨gs0, 0, none⟩) n0 n0 ks0 W1 H1 (some ⟨gs1, 0, none⟩) n1 n1 xs1 x2 _ HN0.out (by first | exact hos0.rd | exact (hos0.alloc _).rd) (by omega) (by omega) HN1.out (by first | exact hos1.rd | exact (hos1.alloc _).rd) (by omega)).mono ?_); rintro e v3 ⟨at0, nt0, ct0, rfl, ho, hnt0, hq3⟩; have hz3 := BelowH.le_call (held4 (by assumption)) hq3; have hb3 := BelowH.call (held4 (by assumption)) hq3)))
      all_goals (go_wp2_with fail; go_meet; exact listbox hb3 ho hz3 hnt0)
    case rest =>
      obtain ⟨ah0, nh0, ch0, rfl, ho, hr, hnh0, hb⟩ := hcut
      obtain ⟨w15, hw15⟩ : ∃ v, v = wc := ⟨_, rfl⟩
      subst hw15
      have HB15 := Lib.hid (bTrans HB14.out hb)
      have HZ15 : Hid (w14.heap.size + 0 ≤ w15.heap.size) := Lib.hid hb.size
      have K15_a1 := Lib.hid (K14_a1.out.below' hb)
      clear K14_a1
      have K15_w0 := Lib.hid (K14_w0.out.below' hb)
      clear K14_w0
      have K15_g0 := Lib.hid (K14_g0.out.below' hb)
      clear K14_g0
      have K15_h0 := Lib.hid ho
      have R15_h0 := Lib.hid hr
      clear ho hr hb
      clear lza1
      clear caa1
      clear cba1
      clear cca1
      go_wp2_with fail
      refine (eqIntsB _ _ _ _ _ _ _ _ _ K15_h0.out.len K15_w0.out.len (by exact K15_h0.out.rd) (by exact K15_w0.out.rd) (by omega) (by omega)).mono ?_
      rintro e w16 ⟨rfl, hb⟩
      have HB16 := Lib.hid (bTrans HB15.out hb)
      have HZ16 : Hid (w15.heap.size + 0 ≤ w16.heap.size) := Lib.hid (by have := hb.size; (try simp at this); omega)
      have K16_a1 := Lib.hid (K15_a1.out.below' hb)
      clear K15_a1
      have K16_w0 := Lib.hid (K15_w0.out.below' hb)
      clear K15_w0
      have K16_g0 := Lib.hid (K15_g0.out.below' hb)
      clear K15_g0
      have K16_h0 := Lib.hid (K15_h0.out.below' hb)
      clear K15_h0
      try clear hb
      go_wp2_with fail
      refine (heldIntsB _ _ _ 1 _ (by exact K16_g0.out.rd) (by omega) (by omega)).mono ?_
      rintro e w17 ⟨rfl, hb⟩
      have HB17 := Lib.hid (bTrans HB16.out hb)
      have HZ17 : Hid (w16.heap.size + 0 ≤ w17.heap.size) := Lib.hid (by have := hb.size; (try simp at this); omega)
      have K17_a1 := Lib.hid (K16_a1.out.below' hb)
      clear K16_a1
      have K17_w0 := Lib.hid (K16_w0.out.below' hb)
      clear K16_w0
      have K17_g0 := Lib.hid (K16_g0.out.below' hb)
      clear K16_g0
      have K17_h0 := Lib.hid (K16_h0.out.below' hb)
      clear K16_h0
      try clear hb
      go_wp2_with fail
      go_ret
      exact ⟨rfl, HB17.out⟩

set_option maxRecDepth 100000 in
theorem lifted (os : Os) (started : os.Started) (H : Type) (enc : TypeId × Value → H) :
    ReturnsInHanded {} Try.checked os 9 .any (Rows.fnExactErrorsOfSpec.pre6 enc Try.prog Try.f9 Rows.fnExactErrorsOfRow.domain false) (Rows.fnExactErrorsOfSpec.post enc Try.prog Try.f9 false true false false) := by
  refine returnsInHanded_of_change (C := Try.checked) own started (by kernel_rfl) Try.func9
    (ChangeSpec.witness6 (enc := enc) (C := Try.checked) false ⟨#[], #[.slice none 0 0, .agg #[.int .i64 0, .int .i64 0, .slice none 0 0], .bool false], []⟩ 8 (by kernel_rfl) (by kernel_rfl) (by kernel_rfl) (by kernel_rfl)) ?_
  intro W base args ds gs before hval0 hW hcnd _
  have hval : ∀ (j : Nat) t v, Try.f9.params[j]? = some t → args[j]? = some v → Value.okWide Try.prog W .any base t v := hval0
  have hW' := hW
  have hlt := hW.lt
  obtain ⟨p, q, hA0, hV, rfl, hfz, hnd⟩ := hW
  have hA : DataW.TrodAll enc Try.prog W 0 (fun _ => true) true Try.f9.params.toList args.toList ds p := hA0
  rw [Try.params9] at hA hval
  obtain ⟨v0, vs0, d0, ds0, p0, q0, hargs, rfl, rfl, h0, r0⟩ := trodAll_cons hA
  obtain ⟨v1, vs1, d1, ds1, p1, q1, rfl, rfl, rfl, h1, r1⟩ := trodAll_cons r0
  obtain ⟨v2, vs2, d2, ds2, p2, q2, rfl, rfl, rfl, h2, r2⟩ := trodAll_cons r1
  obtain ⟨rfl, rfl, rfl⟩ := trodAll_nil r2
  obtain rfl : args = #[v0, v1, v2] := by cases args; simp_all
  obtain ⟨rfl, rfl⟩ := trodVars_none hV
  clear hA0 hval0
  obtain ⟨ad0, n0, cap0, ks0, rfl, hn0, hr0, hl0, hc0⟩ := open_lparts (hval 0 22 v0 rfl rfl) h0 (fun x hx => hlt x (by simp [hx]))
  obtain ⟨W1, H1, ad1, n1, cap1, xs1, rfl, hn1, hr1, hl1, hx1, wa1, wb1⟩ := open_lpic (hval 1 39 v1 rfl rfl) h1 (fun x hx => hlt x (by simp [hx]))
  obtain ⟨x2, rfl, rfl, rfl⟩ := open_bool Try.underlying4 (hval 2 4 v2 rfl rfl) h2
  have fin : ∀ (e : Ending) W', (e = .returned (.bool true) ∧ Below W.heap.size W W') → ∃ v, e = .returned v ∧ Rows.fnExactErrorsOfSpec.post enc Try.prog Try.f9 false true false false W #[.slice ad0 n0 cap0, .agg #[.int .i64 W1, .int .i64 H1, .slice ad1 n1 cap1], .bool x2] v W' := by
    rintro e W' ⟨rfl, hb⟩
    exact ⟨_, rfl, law_post rfl rfl hW' (by kernel_rfl) rfl hb⟩
  by_cases hs0 : (n0 : Int) ≤ 1048576
  case neg => exact (no0 ad0 n0 cap0 ks0 W1 H1 ad1 n1 cap1 xs1 x2 W (by omega) hl0).mono fin
  case pos =>
    by_cases hs1 : (n0 : Int) + (n1 : Int) ≤ 1048576
    case neg => exact (no1 ad0 n0 cap0 ks0 W1 H1 ad1 n1 cap1 xs1 x2 W hs0 (by omega) hl1).mono fin
    case pos => exact (ok ad0 n0 cap0 ks0 W1 H1 ad1 n1 cap1 xs1 x2 W hn0 hr0 hc0 hn1 hr1 hs1).mono fin

theorem proved : Rows.FnExactErrorsOfSaid :=
  OpenClaim.holds_of_wide 9 Try.f9 rfl rfl rfl rfl rfl rfl rfl ⟨rfl, rfl, rfl, rfl, rfl⟩ rfl rfl rfl rfl rfl (by kernel_rfl) Try.func9 (by kernel_rfl)
    (of_decide_eq_true (by kernel_rfl)) (by unfold Func.isWrapper; first | (rw [if_pos (by decide +kernel)]; kernel_rfl) | (rw [if_neg (by decide +kernel)]; exact ⟨rfl, rfl⟩))
    (fun os started H enc _ => lifted os started H enc)
end Go.Proofs.Ytbopeibommnjgaa.xErrorsOf
