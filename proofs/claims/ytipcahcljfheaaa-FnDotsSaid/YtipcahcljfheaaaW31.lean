/-
  Contracts of chapter 8: ParseDots (program).
-/
import Derived.Test.YtipcahcljfheaaaW28
import Derived.Test.YtipcahcljfheaaaW29
import Derived.Test.YtipcahcljfheaaaW30
namespace Go.Proofs.Ytipcahcljfheaaa
open Go.RowKit
set_option linter.unusedVariables false
set_option linter.unusedSimpArgs false

set_option maxRecDepth 100000 in
set_option maxHeartbeats 1600000 in
theorem impl_ParseDots (s : ByteArray) (w : World) (hs : s.size ≤ 1048576) :
    Calls Try.prog 15 #[.string s] w (PicOut2 w (parseF (bytesS s))) := by
  have hsz : s.size = (bytesS s).length := rfl
  have CI := Lib.hid (strings_index s)
  have CC := Lib.hid (strings_count s)
  obtain ⟨l, hl⟩ : ∃ l, bytesS s = l := ⟨_, rfl⟩
  have hl2 : s.data.toList = l := hl
  rw [hl2] at CI CC
  rw [hl] at hsz ⊢
  have HS := Lib.hid hl
  clear hl2
  have hpf : parseF l = if sizeOk (Lib.indexByte l 10) (Lib.countByte l 10 : Nat) = true ∧ l.length = ((Lib.indexByte l 10).toNat + 1) * Lib.countByte l 10 ∧ textG (Lib.indexByte l 10).toNat (Lib.countByte l 10) (inkT (Lib.indexByte l 10).toNat (Lib.countByte l 10) l) = l
    then (⟨Lib.indexByte l 10, (Lib.countByte l 10 : Nat), inkT (Lib.indexByte l 10).toNat (Lib.countByte l 10) l⟩, true) else (noPic, false) := rfl
  obtain ⟨I, hI⟩ : ∃ I, Lib.indexByte l 10 = I := ⟨_, rfl⟩
  obtain ⟨C, hC⟩ : ∃ C : Nat, Lib.countByte l 10 = C := ⟨_, rfl⟩
  rw [hI] at hpf CI
  rw [hC] at hpf CC
  rw [← hsz] at hpf
  have HP := Lib.hid hpf
  have KR0 : Blk (w.alloc (.cells #[.int .i64 0, .int .i64 0, .slice none 0 0] 25)) w.heap.size 25 #[.int .i64 0, .int .i64 0, .slice none 0 0] := Blk.new w _ _
  have B0 : Below w.heap.size w (w.alloc (.cells #[.int .i64 0, .int .i64 0, .slice none 0 0] 25)) := bAlloc (Below.refl _ _) _
  clear hpf hI hC hl
  by_cases hsk : sizeOk I (C : Int) = true
  case neg =>
    have ER : Hid (parseF l = (noPic, false)) := Lib.hid (by rw [HP.out, if_neg (fun h => hsk h.1)])
    rw [ER.out]
    go_enter Try.func15, Try.ntmps15
    go_wp2_with fail
    refine (CI.out _).mono ?_
    rintro e w1 ⟨rfl, hb⟩
    have HB1 := Lib.hid (bTrans B0 hb)
    have KR1 := Lib.hid (KR0.below' hb)
    clear hb
    go_wp2_with fail
    refine (CC.out _).mono ?_
    rintro e w2 ⟨rfl, hb⟩
    have HB2 := Lib.hid (bTrans HB1.out hb)
    have KR2 := Lib.hid (KR1.out.below' hb)
    clear hb
    obtain ⟨m1', d0, d1, d2⟩ := KR2.out.c3
    obtain ⟨f0, f1, f2⟩ := KR2.out.f3
    go_wp2_with (go_at_call 32; refine (impl_isSize_no _ _ _ hsk).mono ?_; rintro e w' ⟨rfl, rfl⟩)
    exact bodyPost_ret (v := .tuple #[.agg #[.int .i64 0, .int .i64 0, .slice none 0 0], .bool false]) (by simp [results, Try.results15, go_sem, d0, d1, d2]) rfl
      ⟨none, 0, 0, rfl, OwnA.none _ _, by omega, ((HB2.out.setCell (by first | (simp; done) | (simp; omega)) _).setCell (by first | (simp; done) | (simp; omega)) _).setCell (by first | (simp; done) | (simp; omega)) _⟩
  case pos =>
    obtain ⟨b1, b2, b3, b4, b5, b6⟩ := sizeOk_bd hsk
    obtain ⟨W, rfl⟩ : ∃ W : Nat, I = (W : Int) := ⟨I.toNat, by omega⟩
    rw [Int.toNat_natCast] at HP
    obtain ⟨n, hn⟩ : ∃ n : Nat, W * C = n := ⟨_, rfl⟩
    have hq : (n : Int) = (W : Int) * (C : Int) := by rw [← hn]; push_cast; rfl
    have n1 : n ≤ 1024 := by omega
    have n0 : 1 ≤ n := by
      have : 1 * 1 ≤ W * C := Nat.mul_le_mul (by omega) (by omega)
      omega
    obtain ⟨M, hM⟩ : ∃ M : Nat, (W + 1) * C = M := ⟨_, rfl⟩
    have hM2 : ((W : Int) + 1) * (C : Int) = (M : Int) := by rw [← hM]; push_cast; rfl
    have hM3 : M = n + C := by rw [← hM, ← hn, Nat.succ_mul]
    have wM : IntKind.i64.wrap (((W : Int) + 1) * (C : Int)) = (M : Int) := by rw [hM2]; exact IntWalk.i64_in _ (by omega)
    have HQ := Lib.hid hq
    have HNN := Lib.hid hn
    have HMM := Lib.hid hM
    rw [hM] at HP
    clear hq hM hM2 b5 b6
    obtain ⟨L, hL⟩ : ∃ L, s.size = L := ⟨_, rfl⟩
    have HSZ := Lib.hid hL
    rw [hL] at HP hsz
    have HLL := Lib.hid hsz
    clear hsz
    by_cases hLM : L = M
    case neg =>
      have ER : Hid (parseF l = (noPic, false)) := Lib.hid (by rw [HP.out, if_neg (fun h => hLM h.2.1)])
      rw [ER.out]
      have hLM2 : ((L : Int) == (M : Int)) = false := by simp; omega
      have hLM3 : ¬ (L : Int) = (M : Int) := by omega
      go_enter Try.func15, Try.ntmps15
      go_wp2_with fail
      refine (CI.out _).mono ?_
      rintro e w1 ⟨rfl, hb⟩
      have HB1 := Lib.hid (bTrans B0 hb)
      have KR1 := Lib.hid (KR0.below' hb)
      clear hb
      go_wp2_with fail
      refine (CC.out _).mono ?_
      rintro e w2 ⟨rfl, hb⟩
      have HB2 := Lib.hid (bTrans HB1.out hb)
      have KR2 := Lib.hid (KR1.out.below' hb)
      clear hb
      obtain ⟨m1', d0, d1, d2⟩ := KR2.out.c3
      obtain ⟨f0, f1, f2⟩ := KR2.out.f3
      go_wp2_with (go_at_call 32; refine (impl_isSize_yes _ _ _ hsk).mono ?_; rintro e w' ⟨rfl, rfl⟩)
      exact bodyPost_ret (v := .tuple #[.agg #[.int .i64 0, .int .i64 0, .slice none 0 0], .bool false]) (by simp [results, Try.results15, go_sem, d0, d1, d2]) rfl
        ⟨none, 0, 0, rfl, OwnA.none _ _, by omega, ((HB2.out.setCell (by first | (simp; done) | (simp; omega)) _).setCell (by first | (simp; done) | (simp; omega)) _).setCell (by first | (simp; done) | (simp; omega)) _⟩
    case pos =>
      subst hLM
      go_enter Try.func15, Try.ntmps15
      go_wp2_with fail
      refine (CI.out _).mono ?_
      rintro e w1 ⟨rfl, hb⟩
      have HB1 := Lib.hid (bTrans B0 hb)
      have KR1 := Lib.hid (KR0.below' hb)
      clear hb
      go_wp2_with fail
      refine (CC.out _).mono ?_
      rintro e w2 ⟨rfl, hb⟩
      have HB2' := Lib.hid (bTrans HB1.out hb)
      have KR2' := Lib.hid (KR1.out.below' hb)
      clear hb
      go_wp2_with (go_at_call 32; refine (impl_isSize_yes _ _ _ hsk).mono ?_; rintro e w' ⟨rfl, rfl⟩)
      refine (impl_blank (W : Int) (C : Int) n _ hsk HQ.out).mono ?_
      rintro e w2 ⟨g, rfl, hg, ho, hb⟩
      have HB2 := Lib.hid (bTrans HB2'.out hb)
      have KR2 := Lib.hid (KR2'.out.below' hb)
      have HO := Lib.hid ho
      have HG : Hid (w.heap.size + 1 ≤ g) := Lib.hid (by have := KR2'.out.lt; omega)
      clear hb ho hg
      go_wp2_with fail
      go_loopw [33] (fun i wr => ∃ k : Nat, k ≤ n ∧ i = .int .i64 k ∧ Own wr g n n (filled (inkT W C l) (List.replicate n 0) k) ∧ (w2.alloc (.cells #[.int .i64 (W : Int), .int .i64 (C : Int), .slice (some ⟨g, 0, none⟩) n n] 25)).grownBy wr (some g)) (fun i _ => n - (intOf i).toNat)
      case atStart => exact ⟨0, Nat.zero_le _, rfl, by rw [filled_zero]; exact HO.out.alloc _, grown_refl _ _⟩
      case round =>
        obtain ⟨k, hk, rfl, ho, hg⟩ := hrel
        have HBr := Lib.hid ((HB2.out.alloc HB2.out.size _).grown hg (by have := HB2.out.size; simp; omega) (by intro k hk; cases hk; have := HG.out; omega))
        have KO := Lib.hid ((Blk.new w2 25 #[.int .i64 (W : Int), .int .i64 (C : Int), .slice (some ⟨g, 0, none⟩) n n]).grown hg (by have := HO.out.lt; simp; omega))
        obtain ⟨l0, o0, o1, o2⟩ := KO.out.c3
        by_cases hlt : k < n
        · obtain ⟨q1, q2, q3⟩ := row_bound (w := W) (h := C) (i := k) (by omega) (by rw [HNN.out]; exact hlt)
          rw [HMM.out] at q2
          have hF : (inkT W C l).getD k 0 = if l.getD (k + k / W) 0 = 35 then 1 else 0 := by
            unfold inkT
            rw [gen_get _ _ _ (by rw [HNN.out]; exact hlt)]
          have hlF : (inkT W C l).length = n := by unfold inkT; rw [gen_len, HNN.out]
          have hk2 : (k : Int).tdiv (W : Int) = ((k / W : Nat) : Int) := by rw [Int.tdiv_eq_ediv_of_nonneg (by omega)]; push_cast; rfl
          have hk3 : k / W ≤ k := Nat.div_le_self _ _
          obtain ⟨Q, hQ⟩ : ∃ Q, k / W = Q := ⟨_, rfl⟩
          rw [hQ] at hk2 hk3 q2 hF
          obtain ⟨P, hP⟩ : ∃ P, k + Q = P := ⟨_, rfl⟩
          rw [hP] at q2 hF
          have wP : IntKind.i64.wrap ((k : Int) + (Q : Int)) = (P : Int) := by rw [← hP, IntWalk.i64_in _ (by omega)]; push_cast; rfl
          have hPs : P < s.size := by rw [HSZ.out]; exact q2
          have hPs2 : (P : Int) < (s.size : Int) := by omega
          have hgk : l[P]? = some (s[P]'hPs) := by
            rw [← HS.out]
            exact List.getElem?_eq_getElem (by rw [HS.out, ← HLL.out]; exact q2)
          obtain ⟨b, hsb⟩ : ∃ b, s[P]'hPs = b := ⟨_, rfl⟩
          rw [show l.getD P 0 = (l[P]?).getD 0 from rfl, hgk, Option.getD_some, hsb] at hF
          have wz : ((W : Int) == 0) = false := by simp; omega
          have wz2 : ¬ (W : Int) = 0 := by omega
          have k0 : (0 : Int) ≤ (k : Int) := by omega
          have k1 : (k : Int) < (n : Int) := by omega
          have wQ : IntKind.i64.wrap (Q : Int) = (Q : Int) := IntWalk.i64_in _ (by omega)
          have hP0 : (0 : Int) ≤ (P : Int) := by omega
          clear hQ hP hgk q1 q3
          by_cases c35 : b = 35
          · have e35 : (((b.toNat : Nat) : Int) == 35) = true := by rw [c35]; rfl
            rw [if_pos c35] at hF
            have HF := Lib.hid hF
            have HFL := Lib.hid hlF
            subst c35
            clear hF hlF
            have g2 : wr.cell? ⟨g, k, none⟩ = some (.int .i64 ((filled (inkT W C l) (List.replicate n 0) k).getD k 0)) := ho.cell hlt
            have g3 : wr.frozen? ⟨g, k, none⟩ = false := ho.frozen k
            have hs := ho.set k (1)
            rw [filled_succ (inkT W C l) _ k _ (by rw [HFL.out]; exact hlt) (by simp; omega) (HF.out)] at hs
            have HSt := Lib.hid hs
            clear hs ho
            go_wp2_with fail
            go_region
            go_wp2_with fail
            go_roundw
            case rel => exact ⟨k + 1, by omega, by go_num, (by first | exact HSt.out.drewN 1 | exact HSt.out.drewN _ | (have h := HSt.out; simp at h; exact h.drewN 1)), (by first | exact grown_drewN (grown_set hg _) 1 | exact grown_drewN (grown_set hg _) _)⟩
            case measure => simp [intOf]; omega
          · have n35 : ¬ b.toNat = 35 := fun e => c35 (UInt8.toNat_inj.1 e)
            have e35 : (((b.toNat : Nat) : Int) == 35) = false := by simp; omega
            rw [if_neg c35] at hF
            have HSt := Lib.hid (show Own wr g n n (filled (inkT W C l) (List.replicate n 0) (k + 1)) by
              rw [← filled_skip (inkT W C l) (List.replicate n 0) k (by rw [hlF]; exact hlt) (by simp; exact hlt) (by rw [hF]; simp [List.getD, List.getElem?_replicate, hlt])]
              exact ho)
            clear hF hlF ho
            go_wp2_with fail
            go_region
            simp only [show (((({ data := #[46, 35] } : ByteArray)[1]'(by decide)).toNat : Nat) : Int) = 35 from rfl, e35]
            go_wp2_with fail
            go_roundw
            case rel => exact ⟨k + 1, by omega, by go_num, HSt.out.drewN 1, grown_drewN hg 1⟩
            case measure => simp [intOf]; omega
        · obtain rfl : n = k := by omega
          have KR := Lib.hid ((KR2.out.alloc _).grown hg (by have := HG.out; have := KR2.out.lt; simp; omega))
          obtain ⟨r0, r1, r2, r3⟩ := KR.out.c3
          obtain ⟨q0, q1, q2⟩ := KR.out.f3
          rw [filled_at (inkT W C l) _ n (by unfold inkT; rw [gen_len, HNN.out]) (by simp)] at ho
          have HO3 := Lib.hid ho
          clear ho
          go_wp2_with fail
          have HP1 : Hid (picOk (W : Int) (C : Int) (inkT W C l) 1 = true) := Lib.hid (inkT_plate hsk)
          refine (impl_DotText (W : Int) (C : Int) (some ⟨g, 0, none⟩) n n (inkT W C l) _ HO3.out.len (by exact HO3.out.rd) (by omega) (by omega)).mono ?_
          have ET : Hid (textF (W : Int) (C : Int) (inkT W C l) = textG W C (inkT W C l)) := Lib.hid (by unfold textF; rw [if_pos HP1.out]; rfl)
          rw [ET.out]
          rintro e w6 ⟨rfl, hb⟩
          have HB6 := Lib.hid (bTrans HBr.out hb)
          have KR6 := Lib.hid (KR.out.below' hb)
          have HO6 := Lib.hid (HO3.out.below hb HO3.out.lt)
          have KO6 := Lib.hid (KO.below' hb)
          clear hb l0 o0 o1 o2 r0 r1 r2 r3 q0 q1 q2 KO
          obtain ⟨m1', d0, d1, d2⟩ := KR6.out.c3
          obtain ⟨f0, f1, f2⟩ := KR6.out.f3
          obtain ⟨l0, o0, o1, o2⟩ := KO6.out.c3
          obtain ⟨T, hT⟩ : ∃ T, textG W C (inkT W C l) = T := ⟨_, rfl⟩
          rw [hT]
          by_cases ht : T = l
          · have ER : Hid (parseF l = (⟨(W : Int), (C : Int), inkT W C l⟩, true)) := Lib.hid (by rw [HP.out, hT]; simp [hsk, ht])
            have hes : (⟨T.toArray⟩ : ByteArray) = s := by rw [ht, ← HS.out]; exact ByteArray.ext (by simp [bytesS])
            rw [hes]
            clear ht hes
            go_wp2_with fail
            exact bodyPost_ret (v := .tuple #[.agg #[.int .i64 (W : Int), .int .i64 (C : Int), .slice (some ⟨g, 0, none⟩) n n], .bool true]) (by simp [results, Try.results15, go_sem, d0, d1, d2]) rfl
              ⟨_, n, n, by rw [ER.out], by rw [ER.out]; exact OwnA.mk (((HO6.out.other (by have := HG.out; simp; omega) _).other (by have := HG.out; simp; omega) _).other (by have := HG.out; simp; omega) _) (by have := HG.out; omega), by omega,
                ((HB6.out.setCell (by first | (simp; done) | (simp; omega)) _).setCell (by first | (simp; done) | (simp; omega)) _).setCell (by first | (simp; done) | (simp; omega)) _⟩
          · have ER : Hid (parseF l = (noPic, false)) := Lib.hid (by rw [HP.out, hT, if_neg (fun h => ht h.2.2)])
            obtain ⟨s2, hs2⟩ : ∃ s2 : ByteArray, (⟨T.toArray⟩ : ByteArray) = s2 := ⟨_, rfl⟩
            have hne : ¬ s2 = s := by
              intro e
              apply ht
              rw [← HS.out, ← e, ← hs2]
              simp [bytesS]
            rw [hs2]
            have q1 : (s2.toList == s.toList) = false := by
              rw [beq_eq_false_iff_ne]
              intro e
              rw [ByteArray.toList_eq, ByteArray.toList_eq] at e
              exact hne (ByteArray.ext (Array.toList_inj.1 e))
            have q2 : (!s2.toList == s.toList) = true := by rw [q1]; rfl
            clear ht hs2
            go_wp2_with fail
            exact bodyPost_ret (v := .tuple #[.agg #[.int .i64 0, .int .i64 0, .slice none 0 0], .bool false]) (by simp [results, Try.results15, go_sem, d0, d1, d2]) rfl
              ⟨none, 0, 0, by rw [ER.out]; rfl, by rw [ER.out]; exact OwnA.none _ _, by omega,
                ((HB6.out.setCell (by first | (simp; done) | (simp; omega)) _).setCell (by first | (simp; done) | (simp; omega)) _).setCell (by first | (simp; done) | (simp; omega)) _⟩

end Go.Proofs.Ytipcahcljfheaaa
