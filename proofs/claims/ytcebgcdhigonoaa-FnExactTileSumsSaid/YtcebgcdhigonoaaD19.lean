/-
  Contracts of chapter 4: TileSums (model).
-/
import Derived.Test.YtcebgcdhigonoaaM16
import Derived.Test.YtcebgcdhigonoaaD11b
import Derived.Test.YtcebgcdhigonoaaC7c
import Derived.Test.YtcebgcdhigonoaaC2
namespace Go.Proofs.Ytcebgcdhigonoaa
open Go.RowKit
set_option linter.unusedVariables false
set_option linter.unusedSimpArgs false

theorem within_any {xs : List Int} {m : Int} (h : within xs m = true) (hm : 0 ≤ m) (i : Nat) : 0 ≤ xs.getD i 0 ∧ xs.getD i 0 ≤ m := by
  by_cases hi : i < xs.length
  · exact within_at h i hi
  · have e : xs.getD i 0 = 0 := by simp [List.getD, List.getElem?_eq_none (show xs.length ≤ i by omega)]
    rw [e]
    exact ⟨Int.le_refl _, hm⟩

def cropL (W : Nat) (xs : List Int) (x y tw th : Nat) : List Int := gen (tw * th) (fun i => xs.getD (((y : Int) + (i : Int) / (tw : Int)) * (W : Int) + (x : Int) + (i : Int) % (tw : Int)).toNat 0)

theorem crop_ok {W H x y tw th n : Nat} {xs : List Int} (hp : picOk W H xs 255 = true) (hl : xs.length = n) (hn : n = W * H) (h1 : 1 ≤ tw) (h2 : 1 ≤ th) (h3 : x + tw ≤ W) (h4 : y + th ≤ H) :
    cropF W H xs x y tw th = (⟨tw, th, cropL W xs x y tw th⟩, true) ∧ sumF tw th (cropL W xs x y tw th) = tileS W xs x y tw th := by
  obtain ⟨hs, hq, hw⟩ := picOk_bd hl hp
  obtain ⟨b1, b2, b3, b4, b5, b6⟩ := sizeOk_bd hs
  constructor
  · unfold cropF cropL
    rw [if_pos ⟨hp, by omega, by omega, by omega, by omega, by omega, by omega⟩]
    have e : ((tw : Int) * (th : Int)).toNat = tw * th := by rw [← Int.natCast_mul]; rfl
    rw [e]
  · have hm : tw * th ≤ W * H := Nat.mul_le_mul (by omega) (by omega)
    have e : ((tw : Int) * (th : Int)) = ((tw * th : Nat) : Int) := by simp
    have e2 : ((W : Int) * (H : Int)) = ((W * H : Nat) : Int) := by simp
    have ps : sizeOk tw th = true := by
      unfold sizeOk
      rw [decide_eq_true_iff, e]
      rw [e2] at b5
      omega
    have pc : picOk tw th (cropL W xs x y tw th) 255 = true := by
      rw [picOk_in (n := tw * th) (by unfold cropL; exact gen_len _ _) ps e.symm]
      unfold within cropL gen
      rw [List.all_eq_true]
      intro v hv
      obtain ⟨i, hi, rfl⟩ := List.mem_map.1 hv
      have := within_any hw (by omega) ((((y : Int) + (i : Int) / (tw : Int)) * (W : Int) + (x : Int) + (i : Int) % (tw : Int)).toNat)
      simpa using this
    unfold sumF
    rw [if_pos pc]
    exact crop_sum hl hn h1 h3 h4

theorem scrop_call (W H : Nat) (a : Option Addr) (n cp : Nat) (xs : List Int) (x y tw th : Nat) (X Y : Int) (w : World) (hX : X = (x : Int)) (hY : Y = (y : Int)) (hl : xs.length = n) (ha : Rd w a xs) (hn : n ≤ 9223372036854775807) (hp : picOk W H xs 255 = true) (hq : n = W * H) (h1 : 1 ≤ tw) (h2 : 1 ≤ th) (h3 : x + tw ≤ W) (h4 : y + th ≤ H) :
    Calls Try.prog 65 #[.agg #[.int .i64 W, .int .i64 H, .slice a n cp], .int .i64 X, .int .i64 Y, .int .i64 tw, .int .i64 th] w fun e w' =>
      ∃ a' m c', e = .returned (.tuple #[.agg #[.int .i64 tw, .int .i64 th, .slice a' m c'], .bool true]) ∧ OwnA w' w.heap.size a' m c' (cropL W xs x y tw th) ∧ m ≤ 1048576 ∧ Below w.heap.size w w' := by
  subst hX hY
  refine (spec_CropPicture W H a n cp xs x y tw th w hl ha hn).mono ?_
  rintro e w' ⟨a', m, c', he, ho, hm, hb⟩
  rw [(crop_ok hp hl hq h1 h2 h3 h4).1] at he ho
  exact ⟨a', m, c', he, ho, hm, hb⟩

theorem ssum_call (W H : Int) (a : Option Addr) (n cp : Nat) (xs : List Int) (s : Int) (w : World) (hl : xs.length = n) (ha : Rd w a xs) (hn : n ≤ 9223372036854775807) (hs : sumF W H xs = s) :
    Calls Try.prog 66 #[.agg #[.int .i64 W, .int .i64 H, .slice a n cp]] w fun e w' => e = .returned (.int .i64 s) ∧ Below w.heap.size w w' :=
  (spec_SumInk W H a n cp xs w hl ha hn).mono fun e w' ⟨he, hb⟩ => ⟨by rw [he, hs], hb⟩

set_option maxRecDepth 100000 in
set_option maxHeartbeats 3200000 in
theorem spec_TileSums (W H : Int) (ad : Option Addr) (n cap : Nat) (xs : List Int) (tw th : Int) (w : World) (hn : xs.length = n) (ha : Rd w ad xs) (hl : n ≤ 9223372036854775807) (hw2 : tw ≤ 9223372036854775807) (hh2 : th ≤ 9223372036854775807) :
    Calls Try.prog 34 #[.agg #[.int .i64 W, .int .i64 H, .slice ad n cap], .int .i64 tw, .int .i64 th] w (IntsOut w (tileSumsF W H xs tw th)) := by
  have HN := Lib.hid hn
  have HA := Lib.hid ha
  clear hn ha
  by_cases hp : picOk W H xs 255 = true
  case neg =>
    have hp2 : picOk W H xs 255 = false := by simpa using hp
    rw [tileSumsF_no (fun h => hp h.1)]
    clear hp
    go_enter Try.func34, Try.ntmps34
    go_wp2_with fail
    refine (spec_IsPicture _ _ _ _ _ xs _ HN.out (by exact HA.out.alloc _) hl).mono ?_
    rintro e w1 ⟨rfl, hb⟩
    have HB1 := Lib.hid ((Joins.below_alloc1 _ _).trans (hb.mono (by simp)))
    have KP1 := Lib.hid ((Blk.new w 32 #[.int .i64 W, .int .i64 H, .slice ad n cap]).below' hb)
    obtain ⟨l1, c0, c1, c2⟩ := KP1.out.c3
    clear hb
    rw [hp2]
    go_wp2_with fail
    go_ret
    exact ⟨_, _, _, rfl, OwnA.none _ _, by omega, HB1.out⟩
  case pos =>
    by_cases h1 : 1 ≤ tw
    case neg =>
      rw [tileSumsF_no (fun h => h1 h.2.1)]
      have hz : tw < 1 := by omega
      go_enter Try.func34, Try.ntmps34
      go_wp2_with fail
      refine (spec_IsPicture _ _ _ _ _ xs _ HN.out (by exact HA.out.alloc _) hl).mono ?_
      rintro e w1 ⟨rfl, hb⟩
      have HB1 := Lib.hid ((Joins.below_alloc1 _ _).trans (hb.mono (by simp)))
      have KP1 := Lib.hid ((Blk.new w 32 #[.int .i64 W, .int .i64 H, .slice ad n cap]).below' hb)
      obtain ⟨l1, c0, c1, c2⟩ := KP1.out.c3
      clear hb
      rw [hp]
      go_wp2_with fail
      go_ret
      exact ⟨_, _, _, rfl, OwnA.none _ _, by omega, HB1.out⟩
    case pos =>
      by_cases h2 : 1 ≤ th
      case neg =>
        rw [tileSumsF_no (fun h => h2 h.2.2)]
        have hz : th < 1 := by omega
        go_enter Try.func34, Try.ntmps34
        go_wp2_with fail
        refine (spec_IsPicture _ _ _ _ _ xs _ HN.out (by exact HA.out.alloc _) hl).mono ?_
        rintro e w1 ⟨rfl, hb⟩
        have HB1 := Lib.hid ((Joins.below_alloc1 _ _).trans (hb.mono (by simp)))
        have KP1 := Lib.hid ((Blk.new w 32 #[.int .i64 W, .int .i64 H, .slice ad n cap]).below' hb)
        obtain ⟨l1, c0, c1, c2⟩ := KP1.out.c3
        clear hb
        rw [hp]
        go_wp2_with fail
        go_ret
        exact ⟨_, _, _, rfl, OwnA.none _ _, by omega, HB1.out⟩
      case pos =>
        obtain ⟨hs, hq, hi⟩ := picOk_bd HN.out hp
        obtain ⟨b1, b2, b3, b4, b5, b6⟩ := sizeOk_bd hs
        have HQ := Lib.hid hq
        have HI := Lib.hid hi
        have HS := Lib.hid hs
        have hn1 : 1 ≤ n := by omega
        have hn2 : n ≤ 1024 := by omega
        clear hq hi hs
        obtain ⟨W, rfl⟩ : ∃ k : Nat, W = (k : Int) := ⟨W.toNat, by omega⟩
        obtain ⟨H, rfl⟩ : ∃ k : Nat, H = (k : Int) := ⟨H.toNat, by omega⟩
        obtain ⟨tw, rfl⟩ : ∃ k : Nat, tw = (k : Int) := ⟨tw.toNat, by omega⟩
        obtain ⟨th, rfl⟩ : ∃ k : Nat, th = (k : Int) := ⟨th.toNat, by omega⟩
        rw [tileSumsF_yes hp (by omega) (by omega)]
        have HNW : Hid (n = W * H) := Lib.hid (by have := HQ.out; have e : ((W : Int) * (H : Int)) = ((W * H : Nat) : Int) := by simp
                                                  omega)
        obtain ⟨C, hC⟩ : ∃ C, C = W / tw := ⟨_, rfl⟩
        obtain ⟨R, hR⟩ : ∃ R, R = H / th := ⟨_, rfl⟩
        have hN1 : C * R ≤ n := by rw [hC, hR, HNW.out]; exact Nat.mul_le_mul (Nat.div_le_self _ _) (Nat.div_le_self _ _)
        have HIC : Hid (∀ c, c < C ↔ c * tw + tw ≤ W) := Lib.hid (fun c => by rw [hC, Nat.lt_iff_add_one_le, Nat.le_div_iff_mul_le (by omega), Nat.add_mul, Nat.one_mul])
        have HIR : Hid (∀ c, c < R ↔ c * th + th ≤ H) := Lib.hid (fun c => by rw [hR, Nat.lt_iff_add_one_le, Nat.le_div_iff_mul_le (by omega), Nat.add_mul, Nat.one_mul])
        rw [← hC, ← hR]
        obtain ⟨f, hf⟩ : ∃ f : Nat → Int, f = (fun i => tileS W xs (i % C * tw) (i / C * th) tw th) := ⟨_, rfl⟩
        rw [← hf]
        have HFF : Hid (∀ c q, c < C → f (q * C + c) = tileS W xs (c * tw) (q * th) tw th) := Lib.hid (fun c q hc => by
          rw [hf]
          have e1 : (q * C + c) % C = c := by rw [Nat.mul_comm, Nat.mul_add_mod, Nat.mod_eq_of_lt hc]
          have e2 : (q * C + c) / C = q := by rw [Nat.mul_comm, Nat.mul_add_div (by omega), Nat.div_eq_of_lt hc, Nat.add_zero]
          simp only [e1, e2])
        have HPP := Lib.hid hp
        clear hC hR hf b5 b6
        have htw1 : 1 ≤ tw := by omega
        have hth1 : 1 ≤ th := by omega
        go_enter Try.func34, Try.ntmps34
        go_wp2_with fail
        refine (spec_IsPicture _ _ _ _ _ xs _ HN.out (by exact HA.out.alloc _) hl).mono ?_
        rintro e w1 ⟨rfl, hb⟩
        have HB1 := Lib.hid ((Joins.below_alloc1 _ _).trans (hb.mono (by simp)))
        have KP1 := Lib.hid ((Blk.new w 32 #[.int .i64 W, .int .i64 H, .slice ad n cap]).below' hb)
        obtain ⟨l1, c0, c1, c2⟩ := KP1.out.c3
        clear hb
        rw [hp]
        clear hp
        go_wp2_with fail
        go_loopw [7, 8] (fun s yv wr => ∃ (q y : Nat) (a3 : Option Addr) (c3 : Nat), q ≤ R ∧ Hid (y = q * th) ∧ y ≤ H ∧ yv = .int .i64 y ∧ s = .slice a3 (q * C) c3 ∧ OwnA wr w1.heap.size a3 (q * C) c3 (gen (q * C) f) ∧ Below w1.heap.size w1 wr) (fun _ yv _ => H + 1 - (intOf yv).toNat)
        case atStart => exact ⟨0, 0, some ⟨w1.heap.size, 0, none⟩, 0, Nat.zero_le _, Lib.hid (by simp), Nat.zero_le _, rfl, by simp, by rw [Nat.zero_mul]; exact OwnA.mk (own_nil _) (Nat.le_refl _), Joins.below_alloc1 _ _⟩
        case round =>
          obtain ⟨q, y, a3, c3, hq, HY, hyH, rfl, rfl, ho, hnx⟩ := hrel
          have HO := Lib.hid ho
          have HW := Lib.hid hnx
          have HBr := Lib.hid (bTrans HB1.out hnx)
          have KP := Lib.hid (KP1.out.below' hnx)
          obtain ⟨l9, p0, p1, p2⟩ := KP.out.c3
          clear ho hnx
          by_cases hlt : q < R
          · have hyt : y + th ≤ H := by have h := (HIR.out q).1 hlt; rw [← HY.out] at h; exact h
            have hyi : (y : Int) ≤ (H : Int) - (th : Int) := by omega
            go_wp2_with fail
            go_loopw [7, 9] (fun s xv wr => ∃ (c x : Nat) (a4 : Option Addr) (c4 : Nat), c ≤ C ∧ Hid (x = c * tw) ∧ x ≤ W ∧ xv = .int .i64 x ∧ s = .slice a4 (q * C + c) c4 ∧ OwnA wr w1.heap.size a4 (q * C + c) c4 (gen (q * C + c) f) ∧ Below w1.heap.size w1 wr) (fun _ xv _ => W + 1 - (intOf xv).toNat)
            case atStart => exact ⟨0, 0, a3, c3, Nat.zero_le _, Lib.hid (by simp), Nat.zero_le _, rfl, rfl, HO.out, HW.out⟩
            case round =>
              clear p0 p1 p2 l9
              obtain ⟨c, x, a4, c4, hc, HX, hxW, rfl, rfl, ho, hnx⟩ := hrel
              have HO2 := Lib.hid ho
              have HW2 := Lib.hid hnx
              have HB2 := Lib.hid (bTrans HB1.out hnx)
              have KP2 := Lib.hid (KP1.out.below' hnx)
              obtain ⟨l9, p0, p1, p2⟩ := KP2.out.c3
              clear ho hnx
              by_cases hct : c < C
              · have hxt : x + tw ≤ W := by have h := (HIC.out c).1 hct; rw [← HX.out] at h; exact h
                have hxi : (x : Int) ≤ (W : Int) - (tw : Int) := by omega
                obtain ⟨K, hK⟩ : ∃ K, K = q * C + c := ⟨_, rfl⟩
                have hKN : K < n := by
                  have e : (q + 1) * C ≤ R * C := Nat.mul_le_mul_right C (by omega)
                  rw [Nat.add_mul, Nat.one_mul, Nat.mul_comm R C] at e
                  omega
                have hfK : f K = tileS W xs x y tw th := by rw [hK, HFF.out c q hct, HX.out, HY.out]
                obtain ⟨S, hS⟩ : ∃ S, S = tileS W xs x y tw th := ⟨_, rfl⟩
                rw [← hS] at hfK
                have HS5 := Lib.hid hS
                have HFK := Lib.hid hfK
                have HKK := Lib.hid hK
                rw [← hK] at HO2 ⊢
                clear hK hS hfK
                go_wp2_with fail
                refine (scrop_call W H ad n cap xs x y tw th _ _ _ rfl rfl HN.out (by exact HA.out.below HB2.out) hl HPP.out HNW.out htw1 hth1 hxt hyt).mono ?_
                rintro e v1 ⟨a5, m5, c5, rfl, ho5, hm5, hb5⟩
                have HW3 := Lib.hid (bAlloc (bTrans HW2.out hb5) (.cells #[.int .i64 tw, .int .i64 th, .slice a5 m5 c5] 32))
                have HO3 := Lib.hid ((HO2.out.below' hb5).alloc (.cells #[.int .i64 tw, .int .i64 th, .slice a5 m5 c5] 32))
                have RC3 := Lib.hid (ho5.rd.alloc (.cells #[.int .i64 tw, .int .i64 th, .slice a5 m5 c5] 32))
                have LC3 := Lib.hid ho5.len
                clear hb5 ho5 p0 p1 p2 l9
                go_wp2_with fail
                refine (ssum_call tw th a5 m5 c5 (cropL W xs x y tw th) S _ LC3.out (by exact RC3.out) (by omega) (by rw [HS5.out]; exact (crop_ok HPP.out HN.out HNW.out htw1 hth1 hxt hyt).2)).mono ?_
                rintro e v2 ⟨rfl, hb6⟩
                have HW4 := Lib.hid (bTrans HW3.out hb6)
                have HO4 := Lib.hid (HO3.out.below' hb6)
                clear hb6
                go_wp2_with (at_builtin; refine wp_append _ rfl (.tmp 51) (.tmp 54) rfl w1.heap.size K c4 a4 _ rfl (HO4.out.alloc _) v2.heap.size S rfl (by go_simp) (by omega) (by have := HW4.out.size; simp; omega) ?_; intro ad2 cap2 w5 ho7 hg7)
                have HW7 := Lib.hid ((HW4.out.alloc HW4.out.size _).grown hg7 (by have := HW4.out.size; simp; omega) (fun b hb => by have := HO4.out.bd b hb; omega))
                have HO7 : Hid (OwnA w5 w1.heap.size ad2 (K + 1) cap2 (gen (K + 1) f)) := Lib.hid (by rw [← gen_snoc, HFK.out]; exact ho7)
                clear ho7 hg7
                go_roundw
                case rel => exact ⟨c + 1, x + tw, ad2, cap2, by omega, Lib.hid (by rw [Nat.add_mul, Nat.one_mul, HX.out]), by omega, by go_num, by rw [← Nat.add_assoc, ← HKK.out], by rw [← Nat.add_assoc, ← HKK.out]; exact HO7.out, HW7.out⟩
                case measure => simp [intOf]; omega
              · have hxi : ¬ (x : Int) ≤ (W : Int) - (tw : Int) := by
                  intro h
                  exact hct ((HIC.out c).2 (by rw [← HX.out]; omega))
                obtain rfl : c = C := by omega
                go_wp2_with fail
                go_roundw
                case rel => exact ⟨q + 1, y + th, a4, c4, by omega, Lib.hid (by rw [Nat.add_mul, Nat.one_mul, HY.out]), by omega, by go_num, by rw [Nat.add_mul, Nat.one_mul], by rw [Nat.add_mul, Nat.one_mul]; exact HO2.out, HW2.out⟩
                case measure => simp [intOf]; omega
          · have hyi : ¬ (y : Int) ≤ (H : Int) - (th : Int) := by
              intro h
              exact hlt ((HIR.out q).2 (by rw [← HY.out]; omega))
            obtain rfl : q = R := by omega
            go_wp2_with fail
            go_ret
            refine ⟨_, _, _, rfl, ?_, by rw [Nat.mul_comm]; omega, HBr.out⟩
            have h := HO.out
            rw [Nat.mul_comm C q]
            exact h.mono HB1.out.size

end Go.Proofs.Ytcebgcdhigonoaa
