/-
  Contracts as FnMirrored calls them: a kernel of parts that lie below.
-/
import Derived.Test.YtepaklcobkdfdaaR17
import Derived.Test.YtepaklcobkdfdaaM28
import Derived.Test.YtepaklcobkdfdaaK15
import Derived.Test.YtepaklcobkdfdaaR18
import Derived.Test.YtepaklcobkdfdaaR4
import Derived.Test.YtepaklcobkdfdaaC5
import Derived.Test.YtepaklcobkdfdaaC7b
namespace Go.Proofs.Ytepaklcobkdfdaa
open Go.RowKit
set_option linter.unusedVariables false
set_option linter.unusedSimpArgs false

theorem grown_far {a b c : World} {row row2 : Option Nat} (h : a.grownBy b row) (hg : b.grownBy c row2) (hr : ∀ k, row2 = some k → a.heap.size ≤ k) : a.grownBy c row :=
  ⟨hg.os.trans h.os, hg.tape.trans h.tape, hg.output.trans h.output, Nat.le_trans h.size hg.size, fun i hi hn => (hg.block i (by have := h.size; omega) (fun e => by have := hr i e.symm; omega)).trans (h.block i hi hn)⟩

/-- Some kernel whose parts lie below is handed back. -/
def DownMade (w : World) (e : Ending) (w' : World) : Prop :=
  ∃ (a : Option Addr) (n cp : Nat) (ks : List Prt), e = .returned (.slice a n cp) ∧ ks.length = n ∧ kernOk ks = true ∧ downK ks ∧ RowA w' 31 3 w.heap.size a n cp (flat ks) ∧ Below w.heap.size w w'

set_option maxRecDepth 100000 in
set_option maxHeartbeats 3200000 in
theorem spec_MakeDown (ac : Option Addr) (nc capc : Nat) (bs : List Int) (w : World) (hl : bs.length = nc) (hr : RdU w.heap.size w ac bs) (hn : nc ≤ 4611686018427387904) :
    Calls Try.prog 26 #[.slice ac nc capc] w (DownMade w) := by
  go_enter Try.func26, Try.ntmps26
  go_wp2_with fail
  refine (spec_l01New ac nc capc bs _ hl hr hn).mono ?_
  rintro e w1 ⟨c, rfl, hcs, hc1, hb1⟩
  have hcl := hc1.lt
  have HB1 := Lib.hid hb1
  have HC1 := Lib.hid hc1
  clear hb1 hc1 hl hr hn
  go_wp2_with fail
  refine (spec_l01Below c ac nc capc bs 3 _ HC1.out (by omega) (by omega)).mono ?_
  rintro e w2 ⟨v1, rfl, a0, a1, hc2, hg2⟩
  have HC2 := Lib.hid hc2
  have G2 := Lib.hid hg2
  clear hc2 hg2
  go_wp2_with fail
  refine (spec_l01Below c ac nc capc bs 9 _ HC2.out (by omega) (by omega)).mono ?_
  rintro e w3 ⟨v2, rfl, b0, b1, hc3, hg3⟩
  have HC3 := Lib.hid hc3
  have G3 := Lib.hid (grown_trans G2.out hg3)
  clear hc3 hg3
  go_wp2_with fail
  refine (spec_l01Below c ac nc capc bs 4 _ (HC3.out.alloc _) (by omega) (by omega)).mono ?_
  rintro e w4 ⟨v3, rfl, d0, d1, hc4, hg4⟩
  have HC4 := Lib.hid hc4
  have HR4 := Lib.hid ((RowA.mk (rowT_new (w := w3) (T := 31) (sz := 3) (n := 1) (M := #[.int .i64 (v1 - 1), .int .i64 1, .int .i64 (1 + v2)]) (xs := flat [⟨v1 - 1, 1, 1 + v2⟩]) rfl rfl (by decide)) G3.out.size).grown hg4 (fun k e => by cases e; exact hcl))
  have G4 := Lib.hid (grown_trans (grown_bel G3.out (Joins.below_alloc1 w3 (.cells #[.int .i64 (v1 - 1), .int .i64 1, .int .i64 (1 + v2)] 31))) hg4)
  have HK4 := Lib.hid (one_kern (p := ⟨v1 - 1, 1, 1 + v2⟩) (by simp [partOk]; omega))
  have HD4 : Hid (downK [⟨v1 - 1, 1, 1 + v2⟩]) := Lib.hid (fun q hq => by simp at hq; subst hq; simp)
  clear hc4 hg4
  go_wp2_with fail
  go_loopw [4, 5] (fun o i wr => ∃ (k m : Nat) (a : Option Addr) (cp : Nat) (ks : List Prt), o = .slice a k cp ∧ i = .int .i64 m ∧ ks.length = k ∧ Hid (kernOk ks = true) ∧ Hid (downK ks) ∧ k + m ≤ 4 ∧ RowA wr 31 3 w1.heap.size a k cp (flat ks) ∧ Cur wr c ac nc capc bs ∧ w1.grownBy wr (some c)) (fun _ i _ => (intOf i).toNat)
  case atStart => exact ⟨1, v3.toNat, _, _, _, rfl, by congr 1; omega, rfl, HK4, HD4, by omega, HR4.out, HC4.out, G4.out⟩
  case round =>
    obtain ⟨k, m, a, cp, ks, rfl, rfl, hl, HK, HD, hm, ho, hcr, hgr⟩ := hrel
    have HL := Lib.hid hl
    have HO := Lib.hid ho
    have HCr := Lib.hid hcr
    have HGr := Lib.hid hgr
    obtain ⟨hk1, hk2, hkt⟩ := kernOk_bd hl HK.out
    have HZr := Lib.hid hgr.size
    have hclr : c < wr.heap.size := hcr.lt
    clear hl ho hcr hgr hkt
    by_cases hlt : 0 < m
    · have HF := Lib.hid (flat_len ks)
      obtain ⟨ba, oa, hae, hal, _⟩ := HO.out.rd.at (by have := HF.out; have := HL.out; omega)
      subst hae
      have HR0 := Lib.hid (rowT_empty wr 31 3)
      go_wp2_with (at_builtin; refine wp_cloneT _ rfl 23 31 3 24 (zeros 3) Try.underlying23 infoPart rfl (by decide) (by decide) (.tmp 23) (.tmp 24) rfl wr.heap.size 0 _ rfl (RowA.mk HR0.out (Nat.le_refl _)) ba oa k cp (flat ks) rfl (by have := HF.out; have := HL.out; omega) (fun j hj => by
        obtain ⟨b2, o2, h3, h4, h5⟩ := (HO.out.alloc (.cells #[] 31)).rd.at (by have := HF.out; have := HL.out; omega)
        cases h3
        exact h5 j (by have := HF.out; have := HL.out; omega)) (by omega) (by simp) ?_; intro ad2 cap2 w5 ho5 hg5)
      have HO5 := Lib.hid ho5
      have HB5 := Lib.hid ((Joins.below_alloc1 wr (.cells #[] 31)).grown hg5 (by simp) (fun k hk => by simp [blockOf] at hk; omega))
      have G5 : Hid (wr.grownBy w5 (some c)) := Lib.hid (grown_of_below HB5.out)
      have HC5 := Lib.hid (HCr.out.below' HB5.out)
      clear ho5 hg5
      refine (spec_l01Below c ac nc capc bs 9 _ HC5.out (by omega) (by omega)).mono ?_
      rintro e w6 ⟨v4, rfl, a2, a3, hc6, hg6⟩
      have HC6 := Lib.hid hc6
      have G6 := Lib.hid (grown_trans G5.out hg6)
      have HO6 := Lib.hid (HO5.out.grown hg6 (fun k e => by cases e; exact hclr))
      clear hc6 hg6
      go_wp2_with fail
      refine (spec_l01Below c ac nc capc bs 4 _ HC6.out (by omega) (by omega)).mono ?_
      rintro e w7 ⟨v5, rfl, a4, a5, hc7, hg7⟩
      have HC7 := Lib.hid hc7
      have G7 := Lib.hid (grown_trans G6.out hg7)
      have HO7 := Lib.hid (HO6.out.grown hg7 (fun k e => by cases e; exact hclr))
      clear hc7 hg7
      go_wp2_with fail
      refine (spec_l01Below c ac nc capc bs 30 _ HC7.out (by omega) (by omega)).mono ?_
      rintro e w8 ⟨v6, rfl, a6, a7, hc8, hg8⟩
      have HC8 := Lib.hid hc8
      have G8 := Lib.hid (grown_trans G7.out hg8)
      have HO8 := Lib.hid (HO7.out.grown hg8 (fun k e => by cases e; exact hclr))
      clear hc8 hg8
      have HZ8 := Lib.hid G8.out.size
      have HP := Lib.hid (Blk.new w8 31 #[.int .i64 (v4 - 4), .int .i64 (1 + v5), .int .i64 (1 + v6)])
      go_wp2_with (at_builtin; refine wp_appendT _ rfl 23 31 3 24 Try.underlying23 infoPart (by decide) (by decide) (.tmp 25) (.tmp 36) rfl wr.heap.size k cap2 ad2 _ rfl (HO8.out.alloc _) w8.heap.size (Prt.nums ⟨v4 - 4, 1 + v5, 1 + v6⟩) rfl rfl (fun j hj => by
        rw [HP.out.cell j]
        match j, hj with
        | 0, _ => rfl
        | 1, _ => rfl
        | 2, _ => rfl) (by omega) (by have := HZ8.out; simp; omega) ?_; intro ad3 cap3 w9 ho9 hg9)
      have HO9 : Hid (RowA w9 31 3 wr.heap.size ad3 (k + 1) cap3 (flat (ks ++ [⟨v4 - 4, 1 + v5, 1 + v6⟩]))) := Lib.hid (by rw [flat_append]; exact ho9)
      have G9 := Lib.hid (grown_far (grown_bel G8.out (Joins.below_alloc1 w8 (.cells #[.int .i64 (v4 - 4), .int .i64 (1 + v5), .int .i64 (1 + v6)] 31))) hg9 (fun b hb => (HO8.out.bd b hb).1))
      have HC9 := Lib.hid ((HC8.out.alloc (.cells #[.int .i64 (v4 - 4), .int .i64 (1 + v5), .int .i64 (1 + v6)] 31)).grown hg9 (fun b hb => by have := (HO8.out.bd b hb).1; omega))
      have HOk := Lib.hid (HO.out.grown G9.out (fun k e => by cases e; exact hcl))
      have HG9 := Lib.hid (grown_trans HGr.out G9.out)
      have HL2 : Hid ((ks ++ [(⟨v4 - 4, 1 + v5, 1 + v6⟩ : Prt)]).length = k + 1) := Lib.hid (by simp; exact HL.out)
      have HD2 : Hid (downK (ks ++ [(⟨v4 - 4, 1 + v5, 1 + v6⟩ : Prt)])) := Lib.hid (fun q hq => by
        rcases List.mem_append.1 hq with h | h
        · exact HD.out q h
        · simp at h; subst h; simp; omega)
      obtain ⟨X, hX⟩ : ∃ X, X = v4 - 4 := ⟨_, rfl⟩
      obtain ⟨Y, hY⟩ : ∃ X, X = 1 + v5 := ⟨_, rfl⟩
      obtain ⟨T, hT⟩ : ∃ X, X = 1 + v6 := ⟨_, rfl⟩
      rw [← hX, ← hY, ← hT] at HO9 HL2 HD2
      clear ho9 hg9 hX hY hT
      refine (spec_IsKernel ad3 (k + 1) cap3 (ks ++ [⟨X, Y, T⟩]) _ HL2.out (by exact HO9.out.rd) (by omega) (rowA_cap HO9.out)).mono ?_
      rintro e w10 ⟨rfl, hb⟩
      have HO10 := Lib.hid ((HO9.out.below' hb).mono HZr.out)
      have HOk10 := Lib.hid (HOk.out.below' hb)
      have HC10 := Lib.hid (HC9.out.below' hb)
      have HG10 := Lib.hid (grown_bel HG9.out hb)
      clear hb
      by_cases hm2 : kernOk (ks ++ [⟨X, Y, T⟩]) = true
      · have HM := Lib.hid hm2
        rw [hm2]
        clear hm2
        go_wp2_with fail
        go_roundw
        case rel => exact ⟨k + 1, m - 1, ad3, cap3, _, rfl, by congr 1; omega, HL2.out, HM, HD2, by omega, HO10.out, HC10.out, HG10.out⟩
        case measure => simp [intOf]; omega
      · have hm3 : kernOk (ks ++ [⟨X, Y, T⟩]) = false := by simpa using hm2
        rw [hm3]
        clear hm2 hm3
        go_wp2_with fail
        go_roundw
        case rel => exact ⟨k, m - 1, _, cp, ks, rfl, by congr 1; omega, HL.out, HK, HD, by omega, HOk10.out, HC10.out, HG10.out⟩
        case measure => simp [intOf]; omega
    · go_wp2_with fail
      go_ret
      exact ⟨_, _, _, ks, rfl, HL.out, HK.out, HD.out, HO.out.mono HB1.out.size, grown_to_below HB1.out HGr.out (by omega)⟩

theorem picOk_mkB {W H : Int} {xs : List Int} {m : Int} {n : Nat} (hs : sizeOk W H = true) (hn : xs.length = n) (hq : (n : Int) = W * H) (hw : within xs m = true) : picOk W H xs m = true := by
  rw [picOk_in hn hs hq]; exact hw

theorem pic_callB (ac : Option Addr) (nc capc : Nat) (bs : List Int) (most : Int) (w : World) (hl : bs.length = nc) (hr : RdU w.heap.size w ac bs) (hn : nc ≤ 4611686018427387904) (h1 : 1 ≤ most) (h2 : most ≤ 9) :
    Calls Try.prog 16 #[.slice ac nc capc, .int .i64 most] w fun e w' =>
      ∃ (W H : Int) (a : Option Addr) (n c : Nat) (xs : List Int), e = .returned (.agg #[.int .i64 W, .int .i64 H, .slice a n c]) ∧ 1 ≤ W ∧ W ≤ 9 ∧ 1 ≤ H ∧ H ≤ 9 ∧ sizeOk W H = true ∧ (n : Int) = W * H ∧ 1 ≤ n ∧ n ≤ 81 ∧ n ≤ c ∧ c ≤ 1048576 ∧ xs.length = n ∧ Rd w' a xs ∧ picOk W H xs 255 = true ∧ within xs 255 = true ∧ Below w.heap.size w w' := by
  refine (spec_MakePicture ac nc capc bs most w hl hr hn h1 (by omega)).mono ?_
  rintro e w' ⟨W, H, g, n, xs, rfl, b1, b2, b3, b4, hq, hg, ho, hw, hb⟩
  have e1 : W * H ≤ 9 * 9 := Int.mul_le_mul (by omega) (by omega) (by omega) (by omega)
  have e2 : 1 * 1 ≤ W * H := Int.mul_le_mul b1 b3 (by omega) (by omega)
  have hs : sizeOk W H = true := by
    unfold sizeOk
    rw [decide_eq_true_iff]
    omega
  exact ⟨W, H, _, n, n, xs, rfl, b1, by omega, b3, by omega, hs, hq, by omega, by omega, by omega, by omega, ho.len, ho.rd, picOk_mkB hs ho.len hq hw, hw, hb⟩

theorem diff_call (kad : Option Addr) (kn kcap : Nat) (ks : List Prt) (W H : Int) (ad : Option Addr) (n cap : Nat) (xs : List Int) (alt : Bool) (ds : List Int) (L : Int) (w : World)
    (hkl : ks.length = kn) (hkr : Rd w kad (flat ks)) (hkm : kn ≤ 1048576) (hkc : kn ≤ kcap) (hn : xs.length = n) (ha : Rd w ad xs) (hl : n ≤ 9223372036854775807)
    (hk : kernOk ks = true) (hp : picOk W H xs 255 = true) (hd : (runG alt ks W H xs n).dots = ds) (hL : (runG alt ks W H xs n).lost = L) :
    Calls Try.prog 18 #[.slice kad kn kcap, .agg #[.int .i64 W, .int .i64 H, .slice ad n cap], .bool alt] w fun e w' =>
      ∃ a' c', e = .returned (.tuple #[.agg #[.int .i64 W, .int .i64 H, .slice a' n c'], .int .i64 L, .bool true]) ∧ OwnA w' w.heap.size a' n c' ds ∧ Below w.heap.size w w' := by
  refine (impl_DiffusePicture kad kn kcap ks W H ad n cap xs alt w hkl hkr hkm hkc hn ha hl).mono ?_
  rintro e w' ⟨a', m, c', he, ho, hm, hb⟩
  rw [diffF_yes hn hk hp, hd, hL] at he
  rw [diffF_yes hn hk hp] at ho
  dsimp only at he ho
  rw [hd] at ho
  have e1 : n = m := by rw [← ho.len, ← hd, (run_len n).1]; exact hn.symm
  subst e1
  exact ⟨a', c', he, ho, hb⟩

theorem own_capB {w : World} {B n cap : Nat} {ad : Option Addr} {xs : List Int} (h : OwnA w B ad n cap xs) : n ≤ cap ∧ cap ≤ 9223372036854775807 := by
  rcases h with ⟨h1, h2, h3, h4⟩ | ⟨g, h1, h2, hl, cur, hg, r1, r2, r3⟩
  · omega
  · unfold maxLen at r2; omega

theorem within_leB {xs : List Int} (h : within xs 1 = true) : within xs 255 = true := by
  unfold within at *
  rw [List.all_eq_true] at *
  intro x hx
  have := of_decide_eq_true (h x hx)
  simp; omega

theorem same_callB (W H : Int) (a : Option Addr) (n cp : Nat) (xs : List Int) (a' : Option Addr) (n' cp' : Nat) (ys : List Int) (w : World) (hl : xs.length = n) (ha : Rd w a xs) (hn : n ≤ 9223372036854775807) (hl' : ys.length = n') (ha' : Rd w a' ys) (hn' : n' ≤ 9223372036854775807) (h : xs = ys) :
    Calls Try.prog 25 #[.agg #[.int .i64 W, .int .i64 H, .slice a n cp], .agg #[.int .i64 W, .int .i64 H, .slice a' n' cp']] w fun e w' => e = .returned (.bool true) ∧ Below w.heap.size w w' :=
  (laws_same W H a n cp xs W H a' n' cp' ys w hl ha hn hl' ha' hn').mono fun e w' ⟨he, hb⟩ => ⟨by rw [he]; exact ret_bool (by simp [h]), hb⟩

theorem mir_okB {W H : Int} {n : Nat} {xs : List Int} (hl : xs.length = n) (hp : picOk W H xs 255 = true) : mirrorF W H xs = ⟨W, H, mirB W n xs⟩ ∧ picOk W H (mirB W n xs) 255 = true := by
  obtain ⟨hs, hn, hw⟩ := picOk_bd hl hp
  obtain ⟨b1, b2, b3, b4, b5, b6⟩ := sizeOk_bd hs
  have hN : (W * H).toNat = n := by omega
  refine ⟨?_, ?_⟩
  · unfold mirrorF
    rw [if_pos hp, hN]
    rfl
  · refine picOk_mkB hs (gen_len _ _) hn ?_
    unfold within mirB gen
    rw [List.all_map, List.all_eq_true]
    intro i hi
    obtain ⟨t0, t1, t2, t3, t4⟩ := mir_self (i := (i : Int)) b1 (by omega) (by have := List.mem_range.1 hi; omega : (i : Int) < W * H)
    have := within_at hw (mirT W (i : Int)).toNat (by omega)
    have e2 : xs[(mirT W (i : Int)).toNat]?.getD 0 = xs.getD (mirT W (i : Int)).toNat 0 := rfl
    rw [e2] at this
    simpa using this

theorem mirB_len (W : Int) (n : Nat) (xs : List Int) : (mirB W n xs).length = n := gen_len _ _

theorem mirS_call (W H : Int) (ad : Option Addr) (n cap : Nat) (xs ys : List Int) (w : World) (hn : xs.length = n) (ha : Rd w ad xs) (hl : n ≤ 9223372036854775807) (hp : picOk W H xs 255 = true) (hy : mirB W n xs = ys) :
    Calls Try.prog 29 #[.agg #[.int .i64 W, .int .i64 H, .slice ad n cap]] w fun e w' =>
      ∃ a' c', e = .returned (.agg #[.int .i64 W, .int .i64 H, .slice a' n c']) ∧ OwnA w' w.heap.size a' n c' ys ∧ Below w.heap.size w w' := by
  refine (spec_MirrorPicture W H ad n cap xs w hn ha hl).mono ?_
  rintro e w' ⟨a', k, c', he, ho, hk, hb⟩
  rw [(mir_okB hn hp).1, hy] at he ho
  obtain rfl : n = k := by rw [← ho.len, ← hy]; exact (mirB_len _ _ _).symm
  exact ⟨a', c', he, ho, hb⟩

theorem mirI_call (W H : Int) (ad : Option Addr) (n cap : Nat) (xs ys : List Int) (w : World) (hn : xs.length = n) (ha : Rd w ad xs) (hl : n ≤ 9223372036854775807) (hp : picOk W H xs 255 = true) (hy : mirB W n xs = ys) :
    Calls Try.prog 30 #[.agg #[.int .i64 W, .int .i64 H, .slice ad n cap]] w fun e w' =>
      ∃ a' c', e = .returned (.agg #[.int .i64 W, .int .i64 H, .slice a' n c']) ∧ OwnA w' w.heap.size a' n c' ys ∧ Below w.heap.size w w' := by
  refine (impl_MirrorPicture W H ad n cap xs w hn ha hl).mono ?_
  rintro e w' ⟨a', k, c', he, ho, hk, hb⟩
  rw [(mir_okB hn hp).1, hy] at he ho
  obtain rfl : n = k := by rw [← ho.len, ← hy]; exact (mirB_len _ _ _).symm
  exact ⟨a', c', he, ho, hb⟩

theorem mirK_call (ad : Option Addr) (n cap : Nat) (ks ms : List Prt) (w : World) (hn : ks.length = n) (ha : Rd w ad (flat ks)) (hl : n ≤ 1048576) (hcap : n ≤ cap) (hk : kernOk ks = true) (hm : kernOk (mirrorK ks) = true) (hms : mirrorK ks = ms) :
    Calls Try.prog 27 #[.slice ad n cap] w fun e w' =>
      ∃ a' c', e = .returned (.tuple #[.slice a' n c', .bool true]) ∧ RowA w' 31 3 w.heap.size a' n c' (flat ms) ∧ Below w.heap.size w w' := by
  refine (impl_MirrorKernel ad n cap ks w hn ha hl hcap).mono ?_
  rintro e w' ⟨a', k, c', he, ho, hk', hb⟩
  rw [mirrorKF_yes hk hm, hms] at he ho
  have e1 := ho.len
  rw [flat_len, ← hms, mirrorK_len, hn] at e1
  obtain rfl : n = k := by omega
  exact ⟨a', c', he, ho, hb⟩

theorem mirN_call (ad : Option Addr) (n cap : Nat) (w : World) (hn : steinK.length = n) (ha : Rd w ad (flat steinK)) (hl : n ≤ 1048576) (hcap : n ≤ cap) :
    Calls Try.prog 27 #[.slice ad n cap] w fun e w' =>
      ∃ a' m' c', e = .returned (.tuple #[.slice a' m' c', .bool false]) ∧ Below w.heap.size w w' := by
  refine (impl_MirrorKernel ad n cap steinK w hn ha hl hcap).mono ?_
  rintro e w' ⟨a', k, c', he, ho, hk', hb⟩
  have e1 : mirrorKF steinK = ([], false) := mirrorKF_no (fun h => by have := h.2; revert this; decide)
  rw [e1] at he
  exact ⟨a', k, c', he, hb⟩

end Go.Proofs.Ytepaklcobkdfdaa
