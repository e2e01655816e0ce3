/-
  Contracts of chapter 8: ParseDots (model).
-/
import Derived.Test.YtipcahcljfheaaaW27
import Derived.Test.YtipcahcljfheaaaD3
namespace Go.Proofs.Ytipcahcljfheaaa
open Go.RowKit
set_option linter.unusedVariables false
set_option linter.unusedSimpArgs false

/-- The bytes of a string. -/
def bytesS (s : ByteArray) : List UInt8 := s.data.toList

set_option maxRecDepth 100000 in
set_option maxHeartbeats 1600000 in
theorem spec_ParseDots (s : ByteArray) (w : World) (hs : s.size ≤ 1048576) :
    Calls Try.prog 17 #[.string s] w (PicOut2 w (parseF (bytesS s))) := by
  have hsz : s.size = (bytesS s).length := rfl
  obtain ⟨l, hl⟩ : ∃ l, bytesS s = l := ⟨_, rfl⟩
  have HS := Lib.hid hl
  rw [hl] at hsz ⊢
  obtain ⟨L, hL⟩ : ∃ L, s.size = L := ⟨_, rfl⟩
  have HL := Lib.hid (hsz.symm.trans hL)
  have HSZ := Lib.hid hL
  rw [hL] at hs
  by_cases h2 : 2048 < L
  case pos =>
    rw [parse_len (by rw [HL.out]; exact h2)]
    clear hsz hl
    have h2' : (2048 : Int) < (L : Int) := by omega
    go_enter Try.func17, Try.ntmps17
    go_wp2_with fail
    exact bodyPost_ret (v := .tuple #[.agg #[.int .i64 0, .int .i64 0, .slice none 0 0], .bool false]) (by simp [results, Try.results17, go_sem]) rfl ⟨none, 0, 0, rfl, OwnA.none _ _, by omega, by
      first
        | exact bAlloc (bAlloc (Below.refl _ _) _) _
        | exact (((bAlloc (bAlloc (Below.refl _ _) _) _).setCell (by first | (simp; done) | (simp; omega)) _).setCell (by first | (simp; done) | (simp; omega)) _).setCell (by first | (simp; done) | (simp; omega)) _⟩
  case neg =>
    have KR0 : Blk ((w.alloc (.cells #[.int .i64 0, .int .i64 0, .slice none 0 0] 25)).alloc (.cells #[.int .i64 0, .int .i64 0, .slice none 0 0] 25)) w.heap.size 25 #[.int .i64 0, .int .i64 0, .slice none 0 0] := (Blk.new w _ _).alloc _
    have KB0 : Blk ((w.alloc (.cells #[.int .i64 0, .int .i64 0, .slice none 0 0] 25)).alloc (.cells #[.int .i64 0, .int .i64 0, .slice none 0 0] 25)) (w.heap.size + 1) 25 #[.int .i64 0, .int .i64 0, .slice none 0 0] := Blk.new' _ _ (by simp)
    have B0 : Below w.heap.size w ((w.alloc (.cells #[.int .i64 0, .int .i64 0, .slice none 0 0] 25)).alloc (.cells #[.int .i64 0, .int .i64 0, .slice none 0 0] 25)) := bAlloc (bAlloc (Below.refl _ _) _) _
    clear hsz hl
    go_enter Try.func17, Try.ntmps17
    go_wp2_with fail
    go_loopw [5] (fun i wr => ∃ (k : Nat) (a : Option Addr) (m c hgt wid : Nat) (xs : List Int), k ≤ L ∧ i = .int .i64 k ∧ colL (l.take k) = (xs, hgt, wid) ∧ m ≤ k ∧ hgt ≤ k ∧ wid ≤ k ∧ OwnA wr (w.heap.size + 2) a m c xs ∧ Blk wr (w.heap.size + 1) 25 #[.int .i64 wid, .int .i64 hgt, .slice a m c] ∧ Blk wr w.heap.size 25 #[.int .i64 0, .int .i64 0, .slice none 0 0] ∧ Below w.heap.size w wr) (fun i _ => L - (intOf i).toNat)
    case atStart => exact ⟨0, none, 0, 0, 0, 0, [], Nat.zero_le _, rfl, rfl, Nat.le_refl _, Nat.le_refl _, Nat.le_refl _, .inl ⟨rfl, rfl, rfl, rfl⟩, KB0, KR0, B0⟩
    case round =>
      obtain ⟨k, a, m, c, hgt, wid, xs, hk, rfl, hcol, m1, m2, m3, ho, hb, hr, hw⟩ := hrel
      have HO := Lib.hid ho
      have KB := Lib.hid hb
      have KR := Lib.hid hr
      have HW := Lib.hid hw
      have HCL := Lib.hid hcol
      clear ho hb hr hw hcol KR0 KB0 B0
      obtain ⟨l0, o0, o1, o2⟩ := KB.out.c3
      by_cases hlt : k < L
      · have hlt2 : (k : Int) < (L : Int) := by omega
        have hlt3 : k < s.size := by rw [HSZ.out]; exact hlt
        have hgk : l[k]? = some (s[k]'hlt3) := by
          rw [← HS.out]
          exact List.getElem?_eq_getElem (by rw [HS.out, HL.out]; exact hlt)
        have HTK := Lib.hid (take_bytes hgk)
        obtain ⟨b, hsk⟩ : ∃ b, s[k]'hlt3 = b := ⟨_, rfl⟩
        rw [hsk] at HTK
        clear hgk
        by_cases c35 : b = 35
        · have e35 : (((b.toNat : Nat) : Int) == 35) = true := by rw [c35]; rfl
          subst c35
          have HCN : Hid (colL (l.take (k + 1)) = (xs ++ [1], hgt, wid)) := Lib.hid (by rw [HTK.out, colL_snoc, HCL.out]; simp [stepC])
          go_wp2_with (at_builtin; refine wp_append _ rfl (.tmp 23) (.tmp 24) rfl (w.heap.size + 2) m c a xs rfl (HO.out.alloc _) wr.heap.size 1 rfl (by go_simp) (by omega) (by have := KB.out.lt; simp; omega) ?_; intro ad2 cap2 w5 ho5 hg5; have KB5 := Lib.hid (app_blk HO.out hg5 KB.out (by omega)); obtain ⟨l5, p0, p1, p2⟩ := KB5.out.c3; obtain ⟨f0, f1, f2⟩ := KB5.out.f3)
          have HW5 := Lib.hid (app_below HO.out hg5 HW.out (by omega) (by have := KR.out.lt; omega))
          have KR5 := Lib.hid (app_blk HO.out hg5 KR.out (by omega))
          have HO5 := Lib.hid ho5
          clear ho5 hg5
          go_roundw
          case rel => exact ⟨k + 1, ad2, m + 1, cap2, hgt, wid, xs ++ [1], by omega, by go_num, HCN.out, by omega, by omega, by omega, HO5.out.other (by simp) _, by first | exact KB5.out.set 2 _ | (have h := KB5.out.set 2 (.slice ad2 (m + 1) cap2); simpa using h), KR5.out.other (by simp) _, HW5.out.setCell (by simp) _⟩
          case measure => simp [intOf]; omega
        by_cases c46 : b = 46
        · have e35 : (((b.toNat : Nat) : Int) == 35) = false := by rw [c46]; rfl
          have e46 : (((b.toNat : Nat) : Int) == 46) = true := by rw [c46]; rfl
          subst c46
          have HCN : Hid (colL (l.take (k + 1)) = (xs ++ [0], hgt, wid)) := Lib.hid (by rw [HTK.out, colL_snoc, HCL.out]; simp [stepC])
          go_wp2_with (at_builtin; refine wp_append _ rfl (.tmp 30) (.tmp 31) rfl (w.heap.size + 2) m c a xs rfl (HO.out.alloc _) wr.heap.size 0 rfl (by go_simp) (by omega) (by have := KB.out.lt; simp; omega) ?_; intro ad2 cap2 w5 ho5 hg5; have KB5 := Lib.hid (app_blk HO.out hg5 KB.out (by omega)); obtain ⟨l5, p0, p1, p2⟩ := KB5.out.c3; obtain ⟨f0, f1, f2⟩ := KB5.out.f3)
          have HW5 := Lib.hid (app_below HO.out hg5 HW.out (by omega) (by have := KR.out.lt; omega))
          have KR5 := Lib.hid (app_blk HO.out hg5 KR.out (by omega))
          have HO5 := Lib.hid ho5
          clear ho5 hg5
          go_roundw
          case rel => exact ⟨k + 1, ad2, m + 1, cap2, hgt, wid, xs ++ [0], by omega, by go_num, HCN.out, by omega, by omega, by omega, HO5.out.other (by simp) _, by first | exact KB5.out.set 2 _ | (have h := KB5.out.set 2 (.slice ad2 (m + 1) cap2); simpa using h), KR5.out.other (by simp) _, HW5.out.setCell (by simp) _⟩
          case measure => simp [intOf]; omega
        by_cases c10 : b = 10
        · have e35 : (((b.toNat : Nat) : Int) == 35) = false := by rw [c10]; rfl
          have e46 : (((b.toNat : Nat) : Int) == 46) = false := by rw [c10]; rfl
          have e10 : (((b.toNat : Nat) : Int) == 10) = true := by rw [c10]; rfl
          subst c10
          obtain ⟨f0, f1, f2⟩ := KB.out.f3
          have hxm := HO.out.len
          by_cases hz : hgt = 0
          · subst hz
            have HCN : Hid (colL (l.take (k + 1)) = (xs, 1, m)) := Lib.hid (by rw [HTK.out, colL_snoc, HCL.out, stepC_nl]; simp [hxm])
            go_wp2_with fail
            go_roundw
            case rel => exact ⟨k + 1, a, m, c, 1, m, xs, by omega, by go_num, HCN.out, by omega, by omega, by omega, (HO.out.other (by simp) _).other (by simp) _, by first | exact (KB.out.set 1 _).set 0 _ | (have h := (KB.out.set 1 (.int .i64 1)).set 0 (.int .i64 (m : Int)); simpa using h), (KR.out.other (by simp) _).other (by simp) _, (HW.out.setCell (by simp) _).setCell (by simp) _⟩
            case measure => simp [intOf]; omega
          · have HCN : Hid (colL (l.take (k + 1)) = (xs, hgt + 1, wid)) := Lib.hid (by rw [HTK.out, colL_snoc, HCL.out, stepC_nl]; simp [hz])
            have hz2 : ((hgt : Int) + 1 == 1) = false := by simp; omega
            go_wp2_with fail
            go_roundw
            case rel => exact ⟨k + 1, a, m, c, hgt + 1, wid, xs, by omega, by go_num, HCN.out, by omega, by omega, by omega, HO.out.other (by simp) _, by first | exact KB.out.set 1 _ | (have h := KB.out.set 1 (.int .i64 ((hgt + 1 : Nat) : Int)); simpa using h), KR.out.other (by simp) _, HW.out.setCell (by simp) _⟩
            case measure => simp [intOf]; omega
        · have n35 : ¬ b.toNat = 35 := fun e => c35 (UInt8.toNat_inj.1 e)
          have n46 : ¬ b.toNat = 46 := fun e => c46 (UInt8.toNat_inj.1 e)
          have n10 : ¬ b.toNat = 10 := fun e => c10 (UInt8.toNat_inj.1 e)
          have e35 : (((b.toNat : Nat) : Int) == 35) = false := by simp; omega
          have e46 : (((b.toNat : Nat) : Int) == 46) = false := by simp; omega
          have e10 : (((b.toNat : Nat) : Int) == 10) = false := by simp; omega
          have HCN : Hid (colL (l.take (k + 1)) = (xs, hgt, wid)) := Lib.hid (by rw [HTK.out, colL_snoc, HCL.out]; simp [stepC, c35, c46, c10])
          go_wp2_with fail
          go_roundw
          case rel => exact ⟨k + 1, a, m, c, hgt, wid, xs, by omega, by go_num, HCN.out, by omega, by omega, by omega, HO.out, KB.out, KR.out, HW.out⟩
          case measure => simp [intOf]; omega
      · obtain rfl : k = L := by omega
        rw [List.take_of_length_le (by rw [HL.out]; exact Nat.le_refl _)] at HCL
        have hm0 := HO.out.len
        have hpc := parse_col (s := l)
        rw [HCL.out] at hpc
        have HPC := Lib.hid hpc
        clear hpc
        go_wp2_with fail
        refine (spec_IsPlate (wid : Int) (hgt : Int) a m c xs wr HO.out.len (by exact HO.out.rd) (by omega)).mono ?_
        rintro e w5 ⟨rfl, hb⟩
        have KR5 := Lib.hid (KR.out.below' hb)
        have KB5 := Lib.hid (KB.out.below' hb)
        have HO5 := Lib.hid (HO.out.below' hb)
        have HB5 := Lib.hid (bTrans HW.out hb)
        clear hb l0 o0 o1 o2
        by_cases hp : picOk (wid : Int) (hgt : Int) xs 1 = true
        case neg =>
          have ER : Hid (parseF l = (noPic, false)) := Lib.hid (by rw [HPC.out, if_neg (fun h => hp h.1)])
          have hp2 : picOk (wid : Int) (hgt : Int) xs 1 = false := by simpa using hp
          rw [hp2]
          clear hp hp2
          obtain ⟨m1', d0, d1, d2⟩ := KR5.out.c3
          obtain ⟨f0, f1, f2⟩ := KR5.out.f3
          obtain ⟨l0, o0, o1, o2⟩ := KB5.out.c3
          go_wp2_with fail
          exact bodyPost_ret (v := .tuple #[.agg #[.int .i64 0, .int .i64 0, .slice none 0 0], .bool false]) (by simp [results, Try.results17, go_sem, d0, d1, d2]) rfl
            ⟨none, 0, 0, by rw [ER.out]; rfl, by rw [ER.out]; exact OwnA.none _ _, by omega,
              ((HB5.out.setCell (by first | (simp; done) | (simp; omega)) _).setCell (by first | (simp; done) | (simp; omega)) _).setCell (by first | (simp; done) | (simp; omega)) _⟩
        case pos =>
          have ET : Hid (textF (wid : Int) (hgt : Int) xs = textG wid hgt xs) := Lib.hid (by unfold textF; rw [if_pos hp]; rfl)
          have HP := Lib.hid hp
          rw [hp]
          clear hp
          obtain ⟨l0, o0, o1, o2⟩ := KB5.out.c3
          go_wp2_with fail
          refine (spec_DotText (wid : Int) (hgt : Int) a m c xs _ HO5.out.len (by exact HO5.out.rd) (by omega)).mono ?_
          rw [ET.out]
          rintro e w6 ⟨rfl, hb⟩
          have KR6 := Lib.hid (KR5.out.below' hb)
          have KB6 := Lib.hid (KB5.out.below' hb)
          have HO6 := Lib.hid (HO5.out.below' hb)
          have HB6 := Lib.hid (bTrans HB5.out hb)
          clear hb l0 o0 o1 o2
          obtain ⟨m1', d0, d1, d2⟩ := KR6.out.c3
          obtain ⟨f0, f1, f2⟩ := KR6.out.f3
          obtain ⟨l0, o0, o1, o2⟩ := KB6.out.c3
          by_cases ht : textG wid hgt xs = l
          · have ER : Hid (parseF l = (⟨wid, hgt, xs⟩, true)) := Lib.hid (by rw [HPC.out, if_pos ⟨HP.out, ht⟩])
            have hes : (⟨(textG wid hgt xs).toArray⟩ : ByteArray) = s := by rw [ht, ← HS.out]; exact ByteArray.ext (by simp [bytesS])
            rw [hes]
            clear ht hes
            go_wp2_with fail
            exact bodyPost_ret (v := .tuple #[.agg #[.int .i64 (wid : Int), .int .i64 (hgt : Int), .slice a m c], .bool true]) (by simp [results, Try.results17, go_sem, d0, d1, d2]) rfl
              ⟨a, m, c, by rw [ER.out], by rw [ER.out]; exact (((HO6.out.other (by simp) _).other (by simp) _).other (by simp) _).mono (by omega), by omega,
                ((HB6.out.setCell (by first | (simp; done) | (simp; omega)) _).setCell (by first | (simp; done) | (simp; omega)) _).setCell (by first | (simp; done) | (simp; omega)) _⟩
          · have ER : Hid (parseF l = (noPic, false)) := Lib.hid (by rw [HPC.out, if_neg (fun h => ht h.2)])
            obtain ⟨s2, hs2⟩ : ∃ s2 : ByteArray, (⟨(textG wid hgt xs).toArray⟩ : ByteArray) = s2 := ⟨_, rfl⟩
            have hne : ¬ s2 = s := by
              intro e
              apply ht
              rw [← HS.out, ← e, ← hs2]
              simp [bytesS]
            rw [hs2]
            have q1 : (s2.toList == s.toList) = false := by
              rw [beq_eq_false_iff_ne]
              intro e
              rw [ByteArray.toList_eq, ByteArray.toList_eq] at e
              exact hne (ByteArray.ext (Array.toList_inj.1 e))
            have q2 : (!s2.toList == s.toList) = true := by rw [q1]; rfl
            clear ht hs2
            go_wp2_with fail
            exact bodyPost_ret (v := .tuple #[.agg #[.int .i64 0, .int .i64 0, .slice none 0 0], .bool false]) (by simp [results, Try.results17, go_sem, d0, d1, d2]) rfl
              ⟨none, 0, 0, by rw [ER.out]; rfl, by rw [ER.out]; exact OwnA.none _ _, by omega,
                ((HB6.out.setCell (by first | (simp; done) | (simp; omega)) _).setCell (by first | (simp; done) | (simp; omega)) _).setCell (by first | (simp; done) | (simp; omega)) _⟩

end Go.Proofs.Ytipcahcljfheaaa
