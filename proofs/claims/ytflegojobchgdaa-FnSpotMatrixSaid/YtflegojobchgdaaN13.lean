/-
  Contracts of chapter 6: the sequence of items in an order, and the places in it.
-/
import Derived.Test.YtflegojobchgdaaN12
namespace Go.Proofs.Ytflegojobchgdaa
open Go.RowKit
set_option linter.unusedVariables false
set_option linter.unusedSimpArgs false

theorem enters5 (f : Nat) (fn : Func) (c : Code) (hf : Try.prog.funcs[f]? = some fn) (hname : (fn.name == "runtime.NumGoroutine") = false) (hb : fn.body = some c) : ∀ args w, (callFunc f args).run Try.prog w = .ok (.enter f args) w := enters_of hf hname hb

set_option maxRecDepth 100000 in
set_option maxHeartbeats 1600000 in
theorem seqCellC (h : Nat) (lb : Array Value) (bo bs bi n i k : Nat) (xs ys : Nat → Int) (K : Prop) (w : World) (eh : ∀ args w, (callFunc h args).run Try.prog w = .ok (.enter h args) w)
    (co : w.cell? ⟨bo, 0, none⟩ = some (.func (.func h) #[] lb)) (ck : w.cell? ⟨bs, 0, none⟩ = some (.slice (some ⟨bi, 0, none⟩) n n)) (ci : (∀ k, k < n → w.cell? ⟨bi, k * 2, none⟩ = some (.int .i64 (xs k)) ∧ w.cell? ⟨bi, k * 2 + 1, none⟩ = some (.int .i64 (ys k)))) (zo : bo < w.heap.size) (zs : bs < w.heap.size) (zi : bi < w.heap.size) (hi : i < n) (hk : k < n)
    (hord : ∀ v, Below w.heap.size w v → Calls Try.prog h (#[.agg #[.int .i64 (xs i), .int .i64 (ys i)], .agg #[.int .i64 (xs k), .int .i64 (ys k)]] ++ lb) v fun e v' => ∃ c : Int, e = .returned (.int .i64 c) ∧ (c < 0 ↔ K) ∧ Below v.heap.size v v') :
    Calls Try.prog 67 #[.int .i64 i, .int .i64 k, .pointer (some ⟨bo, 0, none⟩), .pointer (some ⟨bs, 0, none⟩)] w fun e w' => ∃ c : Int, e = .returned (.int .i64 c) ∧ (c < 0 ↔ K) ∧ Below w.heap.size w w' := by
  obtain ⟨x0, x1⟩ := ci i hi
  obtain ⟨x2, x3⟩ := ci k hk
  obtain ⟨XSI, hxsi⟩ : ∃ zz, zz = xs i := ⟨_, rfl⟩
  obtain ⟨YSI, hysi⟩ : ∃ zz, zz = ys i := ⟨_, rfl⟩
  obtain ⟨XSK, hxsk⟩ : ∃ zz, zz = xs k := ⟨_, rfl⟩
  obtain ⟨YSK, hysk⟩ : ∃ zz, zz = ys k := ⟨_, rfl⟩
  rw [← hxsi] at x0
  rw [← hysi] at x1
  rw [← hxsk] at x2
  rw [← hysk] at x3
  try rw [← hxsi] at hord
  try rw [← hysi] at hord
  try rw [← hxsk] at hord
  try rw [← hysk] at hord
  have MK : Hid (∀ v, BelowL w v → v.cell? ⟨bo, 0, none⟩ = some (.func (.func h) #[] lb) ∧ v.cell? ⟨bs, 0, none⟩ = some (.slice (some ⟨bi, 0, none⟩) n n) ∧ v.cell? ⟨bi, i * 2, none⟩ = some (.int .i64 XSI) ∧ v.cell? ⟨bi, i * 2 + 1, none⟩ = some (.int .i64 YSI) ∧ v.cell? ⟨bi, k * 2, none⟩ = some (.int .i64 XSK) ∧ v.cell? ⟨bi, k * 2 + 1, none⟩ = some (.int .i64 YSK) ∧ BelowL w v) := Lib.hid (fun v hh => ⟨(hh.out.cell zo).trans co, (hh.out.cell zs).trans ck, (hh.out.cell zi).trans x0, (hh.out.cell zi).trans x1, (hh.out.cell zi).trans x2, (hh.out.cell zi).trans x3, hh⟩)
  have CC : Hid (∀ v, BelowL w v → Calls Try.prog h (#[.agg #[.int .i64 XSI, .int .i64 YSI], .agg #[.int .i64 XSK, .int .i64 YSK]] ++ lb) v fun e v' => ∃ c : Int, e = .returned (.int .i64 c) ∧ (c < 0 ↔ K) ∧ Below v.heap.size v v') := Lib.hid (fun v hv => hord v hv.out)
  have pi : (i : Int) < (n : Int) := by omega
  have pk : (k : Int) < (n : Int) := by omega
  clear hord ci hxsi hysi hxsk hysk
  go_enter Try.func67, Try.ntmps67
  go_wp2_with fail
  go_region_held3 (fun v => v.cell? ⟨bo, 0, none⟩ = some (.func (.func h) #[] lb) ∧ v.cell? ⟨bs, 0, none⟩ = some (.slice (some ⟨bi, 0, none⟩) n n) ∧ v.cell? ⟨bi, i * 2, none⟩ = some (.int .i64 XSI) ∧ v.cell? ⟨bi, i * 2 + 1, none⟩ = some (.int .i64 YSI) ∧ v.cell? ⟨bi, k * 2, none⟩ = some (.int .i64 XSK) ∧ v.cell? ⟨bi, k * 2 + 1, none⟩ = some (.int .i64 YSK) ∧ BelowL w v)
    (first | exact MK.out _ hb1 | exact MK.out _ (BelowL.start _))
    (first
      | (go_at_fn h; ((with_reducible refine (CC.out _ (limb7 (by assumption))).mono ?_); rintro e v1 ⟨cc, rfl, hcc, hq1⟩; have hb1 := BelowL.call (limb7 (by assumption)) hq1)))
  have HC := Lib.hid hcc
  have HBF := Lib.hid hb1
  clear hcc hb1 MK CC
  go_wp2_with fail
  go_ret
  exact ⟨cc, rfl, HC.out, HBF.out.out⟩

set_option maxRecDepth 100000 in
set_option maxHeartbeats 1600000 in
theorem seqCell (h : Nat) (lb : Array Value) (bi n : Nat) (xs ys : Nat → Int) (key : Int → Int) (w : World) (eh : ∀ args w, (callFunc h args).run Try.prog w = .ok (.enter h args) w) (hn : n ≤ 100000) (hn0 : 0 < n) (ci : (∀ k, k < n → w.cell? ⟨bi, k * 2, none⟩ = some (.int .i64 (xs k)) ∧ w.cell? ⟨bi, k * 2 + 1, none⟩ = some (.int .i64 (ys k)))) (zi : bi < w.heap.size)
    (hord : ∀ v, Below w.heap.size w v → ∀ i k, i < n → k < n → Calls Try.prog h (#[.agg #[.int .i64 (xs i), .int .i64 (ys i)], .agg #[.int .i64 (xs k), .int .i64 (ys k)]] ++ lb) v fun e v' => ∃ c : Int, e = .returned (.int .i64 c) ∧ (c < 0 ↔ key i < key k) ∧ Below v.heap.size v v') :
    Calls Try.prog 65 #[.slice (some ⟨bi, 0, none⟩) n n, .func (.func h) #[] lb] w fun e w' => ∃ (f : Nat → Int) (blk : Nat), e = .returned (.slice (some ⟨blk, 0, none⟩) n n) ∧ w.heap.size ≤ blk ∧ Own w' blk n n (gen n f) ∧ Good key f 0 n ∧ Below w.heap.size w w' := by
  have CI : Aside _ := ci
  have OR : Aside _ := hord
  clear ci hord
  go_enter Try.func65, Try.ntmps65
  go_wp2_with (at_make; refine wp_make _ rfl _ _ rfl .i64 .i64 n n n rfl rfl rfl rfl (by omega) ?_; intro M hM)
  have HB0 := Lib.hid (bAlloc (bAlloc (Below.refl w.heap.size w) (.cells #[.slice (some ⟨bi, 0, none⟩) n n] 86)) (.cells #[.func (.func h) #[] lb] 87))
  obtain ⟨wo, hwo⟩ : ∃ wo : World, wo = (w.alloc (.cells #[.slice (some ⟨bi, 0, none⟩) n n] 86)).alloc (.cells #[.func (.func h) #[] lb] 87) := ⟨_, rfl⟩
  have KS : Hid (Blk wo w.heap.size 86 #[.slice (some ⟨bi, 0, none⟩) n n]) := Lib.hid (by rw [hwo]; exact (Blk.new w _ _).alloc _)
  have KO : Hid (Blk wo (w.heap.size + 1) 87 #[.func (.func h) #[] lb]) := Lib.hid (by rw [hwo]; exact Blk.new' _ _ (by simp))
  have zw : wo.heap.size = w.heap.size + 1 + 1 := by rw [hwo]; simp
  try rw [← hwo] at hM
  rw [← hwo] at HB0 ⊢
  clear hwo
  have HM : Hid (Own (wo.alloc (.cells M 3)) (w.heap.size + 1 + 1) n n (List.replicate n 0)) := Lib.hid (by have h := hM.own wo; rw [zw] at h; exact h)
  have HMB := Lib.hid (bAlloc (Below.refl wo.heap.size wo) (.cells M 3))
  clear hM
  have ZW := Lib.hid zw
  clear zw
  go_wp2_with fail
  go_loopw [12] (fun i wr => ∃ k : Nat, k ≤ n ∧ i = .int .i64 k ∧ Hid (Own wr (w.heap.size + 1 + 1) n n (filled (gen n (fun k => (k : Int))) (List.replicate n 0) k)) ∧ Hid (Below wo.heap.size wo wr)) (fun i _ => n - (intOf i).toNat)
  case atStart => exact ⟨0, Nat.zero_le _, rfl, Lib.hid (by rw [filled_zero]; exact HM.out), HMB⟩
  case round =>
    clear HM HMB
    obtain ⟨k, hk, rfl, ho, hg⟩ := hrel
    by_cases hlt : k < n
    · have h2 : wr.cell? ⟨w.heap.size + 1 + 1, k, none⟩ = some (.int .i64 ((filled (gen n (fun k => (k : Int))) (List.replicate n 0) k).getD k 0)) := ho.out.cell hlt
      have h3 : wr.frozen? ⟨w.heap.size + 1 + 1, k, none⟩ = false := ho.out.frozen k
      have hs := ho.out.set k (k : Int)
      rw [filled_succ (gen n (fun k => (k : Int))) _ k _ (by rw [gen_len]; exact hlt) (by simp; omega) (gen_get _ _ _ hlt)] at hs
      have HS := Lib.hid hs
      clear hs ho
      go_wp2_with fail
      go_roundw
      case rel => exact ⟨k + 1, by omega, by go_num, HS, Lib.hid (hg.out.setCell (by have := ZW.out; show wo.heap.size ≤ w.heap.size + 1 + 1; omega) _)⟩
      case measure => simp [intOf]; omega
    · obtain rfl : k = n := by omega
      have HR : Hid (Own wr (w.heap.size + 1 + 1) k k (gen k (fun k => (k : Int)))) := Lib.hid (by have h := ho.out; have e := filled_all (gen k (fun k => (k : Int))) (List.replicate k 0) (by simp [gen_len]); rw [gen_len] at e; rwa [e] at h)
      have HW := Lib.hid (HB0.out.trans (hg.out.mono HB0.out.size))
      have KS2 := Lib.hid (KS.out.below hg.out KS.out.lt)
      have KO2 := Lib.hid (KO.out.below hg.out KO.out.lt)
      clear ho hg
      have CM : Hid (CmpN 67 #[.pointer (some ⟨w.heap.size + 1, 0, none⟩), .pointer (some ⟨w.heap.size, 0, none⟩)] key (w.heap.size + 1 + 1) k wr) := Lib.hid (by
        intro W hW x y x0 x1 y0 y1
        obtain ⟨i, rfl⟩ : ∃ i : Nat, x = i := ⟨x.toNat, by omega⟩
        obtain ⟨j, rfl⟩ : ∃ j : Nat, y = j := ⟨y.toNat, by omega⟩
        have zw := ZW.out
        have zr := HR.out.lt
        have o1 := KO2.out.grown hW (by intro e; have := Option.some.inj e; omega)
        have s1 := KS2.out.grown hW (by intro e; have := Option.some.inj e; omega)
        have wb : Below w.heap.size w W := HW.out.grown hW (by omega) (by intro k hk; cases hk; omega)
        have hh := seqCellC h lb (w.heap.size + 1) w.heap.size bi k i j xs ys (key i < key j) W eh (by rw [o1.cell]; rfl) (by rw [s1.cell]; rfl) (fun t ht => ⟨(wb.cell (p := ⟨bi, t * 2, none⟩) zi).trans (CI.out t ht).1, (wb.cell (p := ⟨bi, t * 2 + 1, none⟩) zi).trans (CI.out t ht).2⟩) o1.lt s1.lt (Nat.lt_of_lt_of_le zi wb.size) (by omega) (by omega) (fun v hv => OR.out v (wb.trans (hv.mono wb.size)) i j (by omega) (by omega))
        exact hh)
      have EG : Hid (∀ args w, (callFunc 67 args).run Try.prog w = .ok (.enter 67 args) w) := Lib.hid (enters5 _ _ _ Try.func67 (by kernel_rfl) rfl)
      go_wp2_with fail
      refine (sortStable5 67 _ key (w.heap.size + 1 + 1) k _ EG.out CM.out HR.out hn hn0).mono ?_
      rintro ex w2 ⟨f, rfl, ho, hg, hi⟩
      have HR2 := Lib.hid ho
      have HI2 := Lib.hid hi
      have HW2 := Lib.hid (HW.out.grown hg (by have := HR.out.lt; have := ZW.out; omega) (by intro k hk; cases hk; have := ZW.out; omega))
      clear ho hg hi
      go_wp2_with fail
      go_ret
      exact ⟨f, _, rfl, by have := ZW.out; omega, HR2.out, HI2.out, HW2.out⟩

set_option maxRecDepth 100000 in
set_option maxHeartbeats 1600000 in
theorem seqNumC (h : Nat) (lb : Array Value) (bo bs bi n i k : Nat) (xs : Nat → Int) (K : Prop) (w : World) (eh : ∀ args w, (callFunc h args).run Try.prog w = .ok (.enter h args) w)
    (co : w.cell? ⟨bo, 0, none⟩ = some (.func (.func h) #[] lb)) (ck : w.cell? ⟨bs, 0, none⟩ = some (.slice (some ⟨bi, 0, none⟩) n n)) (ci : (∀ k, k < n → w.cell? ⟨bi, k, none⟩ = some (.int .i64 (xs k)))) (zo : bo < w.heap.size) (zs : bs < w.heap.size) (zi : bi < w.heap.size) (hi : i < n) (hk : k < n)
    (hord : ∀ v, Below w.heap.size w v → Calls Try.prog h (#[.int .i64 (xs i), .int .i64 (xs k)] ++ lb) v fun e v' => ∃ c : Int, e = .returned (.int .i64 c) ∧ (c < 0 ↔ K) ∧ Below v.heap.size v v') :
    Calls Try.prog 61 #[.int .i64 i, .int .i64 k, .pointer (some ⟨bo, 0, none⟩), .pointer (some ⟨bs, 0, none⟩)] w fun e w' => ∃ c : Int, e = .returned (.int .i64 c) ∧ (c < 0 ↔ K) ∧ Below w.heap.size w w' := by
  have x0 := ci i hi
  have x1 := ci k hk
  obtain ⟨XSI, hxsi⟩ : ∃ zz, zz = xs i := ⟨_, rfl⟩
  obtain ⟨XSK, hxsk⟩ : ∃ zz, zz = xs k := ⟨_, rfl⟩
  rw [← hxsi] at x0
  rw [← hxsk] at x1
  try rw [← hxsi] at hord
  try rw [← hxsk] at hord
  have MK : Hid (∀ v, BelowL w v → v.cell? ⟨bo, 0, none⟩ = some (.func (.func h) #[] lb) ∧ v.cell? ⟨bs, 0, none⟩ = some (.slice (some ⟨bi, 0, none⟩) n n) ∧ v.cell? ⟨bi, i, none⟩ = some (.int .i64 XSI) ∧ v.cell? ⟨bi, k, none⟩ = some (.int .i64 XSK) ∧ BelowL w v) := Lib.hid (fun v hh => ⟨(hh.out.cell zo).trans co, (hh.out.cell zs).trans ck, (hh.out.cell zi).trans x0, (hh.out.cell zi).trans x1, hh⟩)
  have CC : Hid (∀ v, BelowL w v → Calls Try.prog h (#[.int .i64 XSI, .int .i64 XSK] ++ lb) v fun e v' => ∃ c : Int, e = .returned (.int .i64 c) ∧ (c < 0 ↔ K) ∧ Below v.heap.size v v') := Lib.hid (fun v hv => hord v hv.out)
  have pi : (i : Int) < (n : Int) := by omega
  have pk : (k : Int) < (n : Int) := by omega
  clear hord ci hxsi hxsk
  go_enter Try.func61, Try.ntmps61
  go_wp2_with fail
  go_region_held3 (fun v => v.cell? ⟨bo, 0, none⟩ = some (.func (.func h) #[] lb) ∧ v.cell? ⟨bs, 0, none⟩ = some (.slice (some ⟨bi, 0, none⟩) n n) ∧ v.cell? ⟨bi, i, none⟩ = some (.int .i64 XSI) ∧ v.cell? ⟨bi, k, none⟩ = some (.int .i64 XSK) ∧ BelowL w v)
    (first | exact MK.out _ hb1 | exact MK.out _ (BelowL.start _))
    (first
      | (go_at_fn h; ((with_reducible refine (CC.out _ (limb5 (by assumption))).mono ?_); rintro e v1 ⟨cc, rfl, hcc, hq1⟩; have hb1 := BelowL.call (limb5 (by assumption)) hq1)))
  have HC := Lib.hid hcc
  have HBF := Lib.hid hb1
  clear hcc hb1 MK CC
  go_wp2_with fail
  go_ret
  exact ⟨cc, rfl, HC.out, HBF.out.out⟩

set_option maxRecDepth 100000 in
set_option maxHeartbeats 1600000 in
theorem seqNum (h : Nat) (lb : Array Value) (bi n : Nat) (xs : Nat → Int) (key : Int → Int) (w : World) (eh : ∀ args w, (callFunc h args).run Try.prog w = .ok (.enter h args) w) (hn : n ≤ 100000) (hn0 : 0 < n) (ci : (∀ k, k < n → w.cell? ⟨bi, k, none⟩ = some (.int .i64 (xs k)))) (zi : bi < w.heap.size)
    (hord : ∀ v, Below w.heap.size w v → ∀ i k, i < n → k < n → Calls Try.prog h (#[.int .i64 (xs i), .int .i64 (xs k)] ++ lb) v fun e v' => ∃ c : Int, e = .returned (.int .i64 c) ∧ (c < 0 ↔ key i < key k) ∧ Below v.heap.size v v') :
    Calls Try.prog 46 #[.slice (some ⟨bi, 0, none⟩) n n, .func (.func h) #[] lb] w fun e w' => ∃ (f : Nat → Int) (blk : Nat), e = .returned (.slice (some ⟨blk, 0, none⟩) n n) ∧ w.heap.size ≤ blk ∧ Own w' blk n n (gen n f) ∧ Good key f 0 n ∧ Below w.heap.size w w' := by
  have CI : Aside _ := ci
  have OR : Aside _ := hord
  clear ci hord
  go_enter Try.func46, Try.ntmps46
  go_wp2_with (at_make; refine wp_make _ rfl _ _ rfl .i64 .i64 n n n rfl rfl rfl rfl (by omega) ?_; intro M hM)
  have HB0 := Lib.hid (bAlloc (bAlloc (Below.refl w.heap.size w) (.cells #[.slice (some ⟨bi, 0, none⟩) n n] 33)) (.cells #[.func (.func h) #[] lb] 58))
  obtain ⟨wo, hwo⟩ : ∃ wo : World, wo = (w.alloc (.cells #[.slice (some ⟨bi, 0, none⟩) n n] 33)).alloc (.cells #[.func (.func h) #[] lb] 58) := ⟨_, rfl⟩
  have KS : Hid (Blk wo w.heap.size 33 #[.slice (some ⟨bi, 0, none⟩) n n]) := Lib.hid (by rw [hwo]; exact (Blk.new w _ _).alloc _)
  have KO : Hid (Blk wo (w.heap.size + 1) 58 #[.func (.func h) #[] lb]) := Lib.hid (by rw [hwo]; exact Blk.new' _ _ (by simp))
  have zw : wo.heap.size = w.heap.size + 1 + 1 := by rw [hwo]; simp
  try rw [← hwo] at hM
  rw [← hwo] at HB0 ⊢
  clear hwo
  have HM : Hid (Own (wo.alloc (.cells M 3)) (w.heap.size + 1 + 1) n n (List.replicate n 0)) := Lib.hid (by have h := hM.own wo; rw [zw] at h; exact h)
  have HMB := Lib.hid (bAlloc (Below.refl wo.heap.size wo) (.cells M 3))
  clear hM
  have ZW := Lib.hid zw
  clear zw
  go_wp2_with fail
  go_loopw [12] (fun i wr => ∃ k : Nat, k ≤ n ∧ i = .int .i64 k ∧ Hid (Own wr (w.heap.size + 1 + 1) n n (filled (gen n (fun k => (k : Int))) (List.replicate n 0) k)) ∧ Hid (Below wo.heap.size wo wr)) (fun i _ => n - (intOf i).toNat)
  case atStart => exact ⟨0, Nat.zero_le _, rfl, Lib.hid (by rw [filled_zero]; exact HM.out), HMB⟩
  case round =>
    clear HM HMB
    obtain ⟨k, hk, rfl, ho, hg⟩ := hrel
    by_cases hlt : k < n
    · have h2 : wr.cell? ⟨w.heap.size + 1 + 1, k, none⟩ = some (.int .i64 ((filled (gen n (fun k => (k : Int))) (List.replicate n 0) k).getD k 0)) := ho.out.cell hlt
      have h3 : wr.frozen? ⟨w.heap.size + 1 + 1, k, none⟩ = false := ho.out.frozen k
      have hs := ho.out.set k (k : Int)
      rw [filled_succ (gen n (fun k => (k : Int))) _ k _ (by rw [gen_len]; exact hlt) (by simp; omega) (gen_get _ _ _ hlt)] at hs
      have HS := Lib.hid hs
      clear hs ho
      go_wp2_with fail
      go_roundw
      case rel => exact ⟨k + 1, by omega, by go_num, HS, Lib.hid (hg.out.setCell (by have := ZW.out; show wo.heap.size ≤ w.heap.size + 1 + 1; omega) _)⟩
      case measure => simp [intOf]; omega
    · obtain rfl : k = n := by omega
      have HR : Hid (Own wr (w.heap.size + 1 + 1) k k (gen k (fun k => (k : Int)))) := Lib.hid (by have h := ho.out; have e := filled_all (gen k (fun k => (k : Int))) (List.replicate k 0) (by simp [gen_len]); rw [gen_len] at e; rwa [e] at h)
      have HW := Lib.hid (HB0.out.trans (hg.out.mono HB0.out.size))
      have KS2 := Lib.hid (KS.out.below hg.out KS.out.lt)
      have KO2 := Lib.hid (KO.out.below hg.out KO.out.lt)
      clear ho hg
      have CM : Hid (CmpN 61 #[.pointer (some ⟨w.heap.size + 1, 0, none⟩), .pointer (some ⟨w.heap.size, 0, none⟩)] key (w.heap.size + 1 + 1) k wr) := Lib.hid (by
        intro W hW x y x0 x1 y0 y1
        obtain ⟨i, rfl⟩ : ∃ i : Nat, x = i := ⟨x.toNat, by omega⟩
        obtain ⟨j, rfl⟩ : ∃ j : Nat, y = j := ⟨y.toNat, by omega⟩
        have zw := ZW.out
        have zr := HR.out.lt
        have o1 := KO2.out.grown hW (by intro e; have := Option.some.inj e; omega)
        have s1 := KS2.out.grown hW (by intro e; have := Option.some.inj e; omega)
        have wb : Below w.heap.size w W := HW.out.grown hW (by omega) (by intro k hk; cases hk; omega)
        have hh := seqNumC h lb (w.heap.size + 1) w.heap.size bi k i j xs (key i < key j) W eh (by rw [o1.cell]; rfl) (by rw [s1.cell]; rfl) (fun t ht => (wb.cell (p := ⟨bi, t, none⟩) zi).trans (CI.out t ht)) o1.lt s1.lt (Nat.lt_of_lt_of_le zi wb.size) (by omega) (by omega) (fun v hv => OR.out v (wb.trans (hv.mono wb.size)) i j (by omega) (by omega))
        exact hh)
      have EG : Hid (∀ args w, (callFunc 61 args).run Try.prog w = .ok (.enter 61 args) w) := Lib.hid (enters5 _ _ _ Try.func61 (by kernel_rfl) rfl)
      go_wp2_with fail
      refine (sortStable5 61 _ key (w.heap.size + 1 + 1) k _ EG.out CM.out HR.out hn hn0).mono ?_
      rintro ex w2 ⟨f, rfl, ho, hg, hi⟩
      have HR2 := Lib.hid ho
      have HI2 := Lib.hid hi
      have HW2 := Lib.hid (HW.out.grown hg (by have := HR.out.lt; have := ZW.out; omega) (by intro k hk; cases hk; have := ZW.out; omega))
      clear ho hg hi
      go_wp2_with fail
      go_ret
      exact ⟨f, _, rfl, by have := ZW.out; omega, HR2.out, HI2.out, HW2.out⟩

end Go.Proofs.Ytflegojobchgdaa
