/-
  The library's stable sort, whole: of the numbers 0, 1, .. under a key.
-/
import Derived.Test.YtnhjdmdnicnmmaaS4
import Derived.Test.YtnhjdmdnicnmmaaM34
namespace Go.Proofs.Ytnhjdmdnicnmmaa
open Go.RowKit
set_option linter.unusedVariables false
set_option linter.unusedSimpArgs false

theorem sym5 (g : Nat) (cb : Array Value) (key : Int → Int) (blk n : Nat) (eg : ∀ args w, (callFunc g args).run Try.prog w = .ok (.enter g args) w) (hn : n ≤ 100000) :
    ∀ (N a m b : Nat) (f : Nat → Int) (w : World), b - a ≤ N → CmpN g cb key blk n w → Own w blk n n (gen n f) → a < m → m < b → b ≤ n → InRow f n → Srt key f a m → Srt key f m b → LLess f a m b →
      Calls Try.prog 68 #[.slice (some ⟨blk, 0, none⟩) n n, .int .i64 a, .int .i64 m, .int .i64 b, .func (.func g) #[] cb] w fun e w' => ∃ f', e = .returned (.tuple #[]) ∧ Own w' blk n n (gen n f') ∧ w.grownBy w' (some blk) ∧ Merged key f' f a b := by
  intro N
  induction N with
  | zero => intro a m b f w hN hc ho h1 h2; omega
  | succ N ih =>
    intro a m b f w hN hc ho h1 h2 h3 hv sl sr hl
    by_cases ha : m = a + 1
    · exact sym_left g cb key blk n a m b f w eg hc ho hn ha h2 h3 hv sr hl
    · by_cases hb : b = m + 1
      · exact sym_right g cb key blk n a m b f w eg hc ho hn ha h1 hb h3 hv sl hl
      · exact sym_step g cb key blk n N eg hn ih a m b f w hN hc ho ha hb h1 h2 h3 hv sl sr hl

set_option maxRecDepth 100000 in
set_option maxHeartbeats 400000 in
theorem insertion0 (g : Nat) (cb : Array Value) (blk n a : Nat) (w : World) (hn : a ≤ 100000) :
    Calls Try.prog 67 #[.slice (some ⟨blk, 0, none⟩) n n, .int .i64 a, .int .i64 a, .func (.func g) #[] cb] w fun e w' => e = .returned (.tuple #[]) ∧ w = w' := by
  go_enter Try.func67, Try.ntmps67
  go_wp2_with fail
  refine wp_loop_rounds 1 ?_; rw [rounds_succ]
  go_wp2_with fail
  go_end0
  exact ⟨rfl, rfl⟩

theorem insertionLast (g : Nat) (cb : Array Value) (key : Int → Int) (blk n a : Nat) (f : Nat → Int) (w : World) (eg : ∀ args w, (callFunc g args).run Try.prog w = .ok (.enter g args) w) (hcmp : CmpN g cb key blk n w) (ho : Own w blk n n (gen n f)) (hn : n ≤ 100000) (P : First key f n a) (h1 : n < a + 20) :
    Calls Try.prog 67 #[.slice (some ⟨blk, 0, none⟩) n n, .int .i64 a, .int .i64 n, .func (.func g) #[] cb] w fun e w' => ∃ f', e = .returned (.tuple #[]) ∧ Own w' blk n n (gen n f') ∧ w.grownBy w' (some blk) ∧ AllGood key f' 20 n := by
  by_cases h : a < n
  · exact (insertion5 g cb key blk n a n f w eg hcmp ho hn h (Nat.le_refl _) (fun k h1 h2 => P.rest k h1 h2)).mono (fun e w' ⟨f', he, ho', hg, hi⟩ => ⟨f', he, ho', hg, P.last h1 hi.srt hi.val hi.out⟩)
  · have e : a = n := by have := P.an; omega
    subst e
    exact (insertion0 g cb blk a a w hn).mono (fun e w' ⟨he, hw⟩ => ⟨f, he, by rw [← hw]; exact ho, by rw [← hw]; exact grown_refl _ _, P.last h1 (fun i j _ _ _ => by omega) (fun p _ _ => by omega) (fun p _ => rfl)⟩)

set_option maxRecDepth 100000 in
set_option maxHeartbeats 3200000 in
theorem stable5 (g : Nat) (cb : Array Value) (key : Int → Int) (blk n : Nat) (w : World) (eg : ∀ args w, (callFunc g args).run Try.prog w = .ok (.enter g args) w) (hcmp : CmpN g cb key blk n w) (ho : Own w blk n n (gen n (fun k => (k : Int)))) (hn : n ≤ 100000) (hn0 : 0 < n) :
    Calls Try.prog 65 #[.slice (some ⟨blk, 0, none⟩) n n, .int .i64 n, .func (.func g) #[] cb] w fun e w' => ∃ f', e = .returned (.tuple #[]) ∧ Own w' blk n n (gen n f') ∧ w.grownBy w' (some blk) ∧ Good key f' 0 n := by
  have HO := Lib.hid ho
  have HC : Aside (CmpN g cb key blk n w) := hcmp
  have P0 : Hid (First key (fun k => (k : Int)) n 0) := Lib.hid ⟨Nat.dvd_zero _, Nat.zero_le _, fun s _ h => by omega, fun k _ _ => rfl⟩
  clear ho hcmp
  go_enter Try.func65, Try.ntmps65
  go_wp2_with fail
  go_loopw [7, 8] (fun va vb wr => ∃ (a b : Nat) (F : Nat → Int), va = .int .i64 a ∧ vb = .int .i64 b ∧ a + 20 ≤ b ∧ b ≤ a + 20 ∧ Hid (First key F n a) ∧ Hid (Own wr blk n n (gen n F)) ∧ Hid (w.grownBy wr (some blk))) (fun va _ _ => n - (intOf va).toNat)
  case atStart => exact ⟨0, 20, _, rfl, rfl, by omega, by omega, P0, HO, Lib.hid (grown_refl _ _)⟩
  case round =>
    clear P0 HO
    obtain ⟨a, b, F, rfl, rfl, b1, b2, P, HR, HG⟩ := hrel
    have an := P.out.an
    by_cases hlt : b ≤ n
    · have IN := Lib.hid (fun k (h1 : a ≤ k) (h2 : k < b) => P.out.rest k h1 (by omega))
      go_wp2_with fail
      refine (insertion5 g cb key blk n a b F _ eg (CmpN.on HC.out HG.out) HR.out hn (by omega) hlt IN.out).mono ?_
      rintro ex w2 ⟨f', rfl, ho, hg, hi⟩
      have HR2 := Lib.hid ho
      have HG2 := Lib.hid (grown_trans HG.out hg)
      have P2 : Hid (First key f' n b) := Lib.hid (by
        have e : b = a + 20 := by omega
        subst e
        exact P.out.step hlt hi.srt hi.val hi.out)
      clear ho hg hi IN
      go_wp2_with fail
      go_roundw
      case rel => exact ⟨b, b + 20, f', rfl, by go_num, by omega, by omega, P2, HR2, HG2⟩
      case measure => simp [intOf]; omega
    · go_wp2_with fail
      refine (insertionLast g cb key blk n a F _ eg (CmpN.on HC.out HG.out) HR.out hn P.out (by omega)).mono ?_
      rintro ex w2 ⟨f', rfl, ho, hg, hi⟩
      have HR2 := Lib.hid ho
      have HG2 := Lib.hid (grown_trans HG.out hg)
      have A2 := Lib.hid hi
      clear ho hg hi P HR HG
      go_wp2_with fail
      go_loopw [6, 7, 8, 9] (fun vs v7 v8 v9 wr => ∃ (bs : Nat) (F : Nat → Int), vs = .int .i64 bs ∧ 1 ≤ bs ∧ bs ≤ 200000 ∧ Hid (AllGood key F bs n) ∧ Hid (Own wr blk n n (gen n F)) ∧ Hid (w.grownBy wr (some blk))) (fun vs _ _ _ _ => n - (intOf vs).toNat)
      case atStart => exact ⟨20, f', rfl, by omega, by omega, A2, HR2, HG2⟩
      case round =>
        clear A2 HR2 HG2
        obtain ⟨bs, F, rfl, s1, s2, AG, HR, HG⟩ := hrel
        by_cases hlt2 : bs < n
        · obtain ⟨d, hd⟩ : ∃ d : Nat, d = 2 * bs := ⟨_, rfl⟩
          have zd : 2 * (bs : Int) = (d : Int) := by omega
          have zd2 : (bs : Int) * 2 = (d : Int) := by omega
          have d1 : bs + bs ≤ d := by omega
          have d2 : d ≤ bs + bs := by omega
          have P0 := Lib.hid (Pass.start AG.out s1)
          have HDD := Lib.hid hd
          clear hd
          go_wp2_with fail
          go_loopw [7, 8] (fun va vb wr => ∃ (a b : Nat) (F : Nat → Int), va = .int .i64 a ∧ vb = .int .i64 b ∧ a + d ≤ b ∧ b ≤ a + d ∧ Hid (Pass key F bs n a) ∧ Hid (Own wr blk n n (gen n F)) ∧ Hid (w.grownBy wr (some blk))) (fun va _ _ => n - (intOf va).toNat)
          case atStart => exact ⟨0, d, F, rfl, rfl, by omega, by omega, P0, HR, HG⟩
          case round =>
            clear P0 HR HG AG
            obtain ⟨a, b, F, rfl, rfl, b1, b2, P, HR, HG⟩ := hrel
            have an := P.out.an
            obtain ⟨m, hm⟩ : ∃ m : Nat, m = a + bs := ⟨_, rfl⟩
            have zm : (a : Int) + (bs : Int) = (m : Int) := by omega
            have m1 : a + bs ≤ m := by omega
            have m2 : m ≤ a + bs := by omega
            have HMM := Lib.hid hm
            clear hm
            by_cases hlt3 : b ≤ n
            · have G2 : Hid (Good key F a m ∧ Good key F m b) := Lib.hid (by
                have h := P.out.two (e := b) (by omega) (by omega) (Or.inl (by omega)) hlt3
                rwa [← HMM.out] at h)
              have IR := Lib.hid (show InRow F n from P.out.inRow)
              obtain ⟨b', hb'⟩ : ∃ b' : Nat, b' = b + d := ⟨_, rfl⟩
              have zb : (b : Int) + (d : Int) = (b' : Int) := by omega
              have b3 : b + d ≤ b' := by omega
              have b4 : b' ≤ b + d := by omega
              clear hb'
              go_wp2_with fail
              refine (sym5 g cb key blk n eg hn (b - a) a m b F _ (Nat.le_refl _) (CmpN.on HC.out HG.out) HR.out (by omega) (by omega) hlt3 IR.out G2.out.1.1 G2.out.2.1 (G2.out.1.less G2.out.2)).mono ?_
              rintro ex w3 ⟨f'', rfl, ho, hg, hi⟩
              have HR3 := Lib.hid ho
              have HG3 := Lib.hid (grown_trans HG.out hg)
              have P3 : Hid (Pass key f'' bs n b) := Lib.hid (by
                have e : b = a + 2 * bs := by omega
                subst e
                exact P.out.step hlt3 hi)
              clear ho hg hi G2 IR
              go_wp2_with fail
              go_roundw
              case rel => exact ⟨b, b', f'', rfl, rfl, b3, b4, P3, HR3, HG3⟩
              case measure => simp [intOf]; omega
            · by_cases hlt4 : m < n
              · have G2 : Hid (Good key F a m ∧ Good key F m n) := Lib.hid (by
                  have h := P.out.two (e := n) (by omega) (by omega) (Or.inr rfl) (Nat.le_refl _)
                  rwa [← HMM.out] at h)
                have IR := Lib.hid (show InRow F n from P.out.inRow)
                go_wp2_with fail
                refine (sym5 g cb key blk n eg hn (n - a) a m n F _ (Nat.le_refl _) (CmpN.on HC.out HG.out) HR.out (by omega) hlt4 (Nat.le_refl _) IR.out G2.out.1.1 G2.out.2.1 (G2.out.1.less G2.out.2)).mono ?_
                rintro ex w3 ⟨f'', rfl, ho, hg, hi⟩
                have HR3 := Lib.hid ho
                have HG3 := Lib.hid (grown_trans HG.out hg)
                have A3 : Hid (AllGood key f'' d n) := Lib.hid (by
                  rw [HDD.out]
                  exact P.out.last (by omega) (by omega) hi)
                clear ho hg hi G2 IR
                go_wp2_with fail
                go_roundw
                case rel => exact ⟨d, f'', rfl, by omega, by omega, A3, HR3, HG3⟩
                case measure => simp [intOf]; omega
              · have A3 : Hid (AllGood key F d n) := Lib.hid (by
                  rw [HDD.out]
                  exact P.out.end_ (by omega) (by omega))
                go_wp2_with fail
                go_roundw
                case rel => exact ⟨d, F, rfl, by omega, by omega, A3, HR, HG⟩
                case measure => simp [intOf]; omega
        · have GW := Lib.hid (AG.out.whole (by omega) hn0)
          go_wp2_with fail
          go_end0
          exact ⟨F, rfl, HR.out, HG.out, GW.out⟩

set_option maxRecDepth 100000 in
set_option maxHeartbeats 400000 in
theorem sortStable5 (g : Nat) (cb : Array Value) (key : Int → Int) (blk n : Nat) (w : World) (eg : ∀ args w, (callFunc g args).run Try.prog w = .ok (.enter g args) w) (hcmp : CmpN g cb key blk n w) (ho : Own w blk n n (gen n (fun k => (k : Int)))) (hn : n ≤ 100000) (hn0 : 0 < n) :
    Calls Try.prog 62 #[.slice (some ⟨blk, 0, none⟩) n n, .func (.func g) #[] cb] w fun e w' => ∃ f', e = .returned (.tuple #[]) ∧ Own w' blk n n (gen n f') ∧ w.grownBy w' (some blk) ∧ Good key f' 0 n := by
  have HO := Lib.hid ho
  have HC : Aside (CmpN g cb key blk n w) := hcmp
  clear ho hcmp
  go_enter Try.func62, Try.ntmps62
  go_wp2_with fail
  refine (stable5 g cb key blk n _ eg HC.out HO.out hn hn0).mono ?_
  rintro ex w2 ⟨f', rfl, ho, hg, hi⟩
  have HR2 := Lib.hid ho
  have HG2 := Lib.hid hg
  have HI2 := Lib.hid hi
  clear ho hg hi
  go_wp2_with fail
  go_end0
  exact ⟨f', rfl, HR2.out, HG2.out, HI2.out⟩

end Go.Proofs.Ytnhjdmdnicnmmaa
