/-
  Contracts of chapter 8: MarkCounts of the program; BlendOf (program and model).
-/
import Derived.Test.YtipcahcljfheaaaW16
import Derived.Test.YtipcahcljfheaaaK9
namespace Go.Proofs.Ytipcahcljfheaaa
open Go.RowKit
set_option linter.unusedVariables false
set_option linter.unusedSimpArgs false

set_option maxHeartbeats 3200000 in
theorem impl_MarkCounts (ad : Option Addr) (n cap : Nat) (ps : List PV) (w : World) (hn : ps.length = n) (ha : RdV w ad ps) (hl : n ≤ 1048576) (h4 : ∀ k, k < ps.length → (pv ps k).n ≤ 1048576) :
    Calls Try.prog 10 #[.slice ad n cap] w (CountsOut w (markCountsF (picsV ps))) := by
  have HA := Lib.hid ha
  have CS := Lib.hid (impl_IsStack ad n cap ps w hn ha hl h4)
  by_cases hs : stackOk (picsV ps) = true
  case neg =>
    have hs2 : stackOk (picsV ps) = false := by simpa using hs
    rw [counts_no hs2]
    rw [hs2] at CS
    clear hs hs2 hn ha h4
    go_enter Try.func10, Try.ntmps10
    go_wp2_with fail
    refine CS.out.mono ?_
    rintro e w1 ⟨rfl, hb⟩
    have HB1 := Lib.hid hb
    clear hb
    go_wp2_with fail
    go_ret
    exact ⟨none, 0, 0, rfl, OwnA.none _ _, by omega, HB1.out⟩
  case pos =>
    obtain ⟨N, W, H, T⟩ := stk_of hn hs
    rw [counts_yes T]
    rw [hs] at CS
    have HT := Lib.hid T
    have hn1 := T.n1
    have hn4 := T.n4
    have hN1 := T.N1
    have hN2 := T.N2
    obtain ⟨m1, m2⟩ := pow_nat hn4
    have CL := Lib.hid (fun v : World => impl_markLimit ad n cap v hn4)
    obtain ⟨M, hM⟩ : ∃ M, 2 ^ n = M := ⟨_, rfl⟩
    have hMl : ∀ i : Nat, i < N → ∃ m : Nat, markG (picsV ps) i = m ∧ m < M := fun i hi => by rw [← hM]; exact mark_lt T hi
    have HML := Lib.hid hMl
    rw [hM] at m1 m2 CL ⊢
    clear hs hn ha h4 T hM hMl
    go_enter Try.func10, Try.ntmps10
    go_wp2_with fail
    refine CS.out.mono ?_
    rintro e w1 ⟨rfl, hb⟩
    have HB1 := Lib.hid hb
    have HA1 := Lib.hid (HA.out.below hb)
    clear hb
    go_wp2_with fail
    refine (CL.out _).mono ?_
    rintro e w9 ⟨rfl, rfl⟩
    go_wp2_with (at_make; refine wp_make _ rfl _ _ rfl .i64 .i64 _ _ M rfl rfl rfl rfl (by omega) ?_; intro MM hMM)
    have HO0 := Lib.hid (hMM.own w1)
    have HB2 := Lib.hid (bAlloc HB1.out (.cells MM 3))
    have HA2 := Lib.hid (HA1.out.alloc (.cells MM 3))
    clear hMM
    refine (impl_marksOf HT.out ad cap _ (by exact HA2.out)).mono ?_
    rintro e w3 ⟨g, rfl, hg, ho, hb⟩
    have HO3 := Lib.hid (HO0.out.below hb HO0.out.lt)
    have HB3 := Lib.hid (bTrans HB2.out hb)
    have HG : Hid (w1.heap.size < g) := Lib.hid (by simp at hg; omega)
    have HR3 := Lib.hid ho
    have GL : Hid (w.heap.size ≤ w1.heap.size) := Lib.hid HB1.out.size
    clear hb ho hg
    go_wp2_with fail
    go_loopw [15] (fun i wr => ∃ k : Nat, k ≤ N ∧ i = .int .i64 k ∧ Hid (Own wr w1.heap.size M M (cntL ps M k)) ∧ Hid (w3.grownBy wr (some w1.heap.size))) (fun i _ => N - (intOf i).toNat)
    case atStart => exact ⟨0, Nat.zero_le _, rfl, Lib.hid (by rw [← cntL_start]; exact HO3.out), Lib.hid (grown_refl _ _)⟩
    case round =>
      obtain ⟨k, hk, rfl, HO, HGR⟩ := hrel
      by_cases hlt : k < N
      · have HRr := Lib.hid (HR3.out.grown HGR.out (by have := HG.out; intro e; have := Option.some.inj e; omega))
        have m4 := HRr.out.cell hlt
        rw [marks_get hlt] at m4
        obtain ⟨m, hm, hmM⟩ := HML.out k hlt
        rw [hm] at m4
        have hcb := cntI_bd (markG (picsV ps)) m k
        obtain ⟨V, hV⟩ : ∃ V, cntI (markG (picsV ps)) m k = V := ⟨_, rfl⟩
        have hgm := cntL_get (ps := ps) (i := k) hmM
        have HSE := Lib.hid (cntL_step hm hmM hV)
        rw [hV] at hcb hgm
        obtain ⟨V0, V1⟩ := hcb
        have mm0 : (m : Int) < (M : Int) := by omega
        have g2 := HO.out.cell hmM
        have g3 := HO.out.frozen m
        rw [hgm] at g2
        have HS := Lib.hid (HO.out.set m (V + 1))
        clear hm hV hgm
        go_wp2_with fail
        go_roundw
        case rel => exact ⟨k + 1, by omega, by go_num, Lib.hid (by rw [← HSE.out]; exact HS.out), Lib.hid (grown_set HGR.out _)⟩
        case measure => simp [intOf]; omega
      · obtain rfl : k = N := by omega
        have HBr := Lib.hid (HB3.out.grown HGR.out HB3.out.size (by intro q hq; cases hq; exact GL.out))
        go_wp2_with fail
        go_ret
        exact ⟨_, _, _, rfl, OwnA.mk HO.out GL.out, by omega, HBr.out⟩


def blendS (L : List Pic) (cs : List Int) : Int := sumJ (fun i => cs.getD (markG L i).toNat 0) (L.getD 0 noPic).ink.length

def blendF (L : List Pic) (cs : List Int) : Int × Int × Bool :=
  if stackOk L = true ∧ cs.length = 2 ^ L.length ∧ within cs 1000000 = true then
    (blendS L cs / (Nat.gcd (blendS L cs).toNat (L.getD 0 noPic).ink.length : Nat), ((L.getD 0 noPic).ink.length : Int) / (Nat.gcd (blendS L cs).toNat (L.getD 0 noPic).ink.length : Nat), true)
  else (0, 0, false)

theorem blend_no {L : List Pic} {cs : List Int} (h : ¬ (stackOk L = true ∧ cs.length = 2 ^ L.length ∧ within cs 1000000 = true)) : blendF L cs = (0, 0, false) := by unfold blendF; rw [if_neg h]

theorem blend_yes {ps : List PV} {n N : Nat} {W H : Int} (T : Stk ps n N W H) {cs : List Int} (h1 : cs.length = 2 ^ n) (h2 : within cs 1000000 = true) {S G : Nat} (hS : blendS (picsV ps) cs = (S : Int)) (hG : Nat.gcd S N = G) :
    blendF (picsV ps) cs = ((S : Int) / (G : Int), (N : Int) / (G : Int), true) := by
  unfold blendF
  rw [if_pos ⟨T.ok, by rw [picsV_len, T.len]; exact h1, h2⟩, hS, T.inkLen]
  simp [hG]

theorem within_mkW {cs : List Int} {m : Int} (h : ∀ k, k < cs.length → 0 ≤ cs.getD k 0 ∧ cs.getD k 0 ≤ m) : within cs m = true := by
  unfold within
  rw [List.all_eq_true]
  intro v hv
  obtain ⟨k, hk, rfl⟩ := List.mem_iff_getElem.1 hv
  have := h k hk
  simp only [List.getD, List.getElem?_eq_getElem hk, Option.getD_some] at this
  simp only [decide_eq_true_eq]
  exact this

theorem within_not {cs : List Int} {m : Int} {k : Nat} (hk : k < cs.length) (h : ¬ (0 ≤ cs.getD k 0 ∧ cs.getD k 0 ≤ m)) : ¬ within cs m = true := by
  intro hw
  have := within_at hw k hk
  simp only [List.getD_eq_getElem?_getD] at h
  omega

theorem blend_eq {ps : List PV} {n N : Nat} {W H : Int} (T : Stk ps n N W H) (cs : List Int) : blendS (picsV ps) cs = sumJ (fun i => cs.getD (markG (picsV ps) i).toNat 0) N := by unfold blendS; rw [T.inkLen]

theorem blend_cnt {ps : List PV} {n N : Nat} {W H : Int} (T : Stk ps n N W H) (cs : List Int) : sumJ (fun r => cntI (markG (picsV ps)) r N * cs.getD r 0) (2 ^ n) = blendS (picsV ps) cs := by
  rw [blend_eq T]
  exact cnt_weight (fun i hi => by
    obtain ⟨m, h1, h2⟩ := mark_lt T hi
    omega) (fun r => cs.getD r 0)

theorem sumJ_bd {f : Nat → Int} {B : Int} {k : Nat} (h : ∀ i, i < k → 0 ≤ f i ∧ f i ≤ B) : 0 ≤ sumJ f k ∧ sumJ f k ≤ B * k := by
  refine ⟨sumJ_nn (fun i hi => (h i hi).1), ?_⟩
  rw [← sumJ_const]
  exact sumJ_le (fun i hi => (h i hi).2)

theorem color_bd {ps : List PV} {n N : Nat} {W H : Int} (T : Stk ps n N W H) {cs : List Int} (h1 : cs.length = 2 ^ n) (h2 : within cs 1000000 = true) {i : Nat} (hi : i < N) : 0 ≤ cs.getD (markG (picsV ps) i).toNat 0 ∧ cs.getD (markG (picsV ps) i).toNat 0 ≤ 1000000 := by
  obtain ⟨m, e, hm⟩ := mark_lt T hi
  rw [e, Int.toNat_natCast]
  have := within_at h2 m (by omega)
  simp only [List.getD_eq_getElem?_getD]
  exact this

theorem blend_nat {ps : List PV} {n N : Nat} {W H : Int} (T : Stk ps n N W H) {cs : List Int} (h1 : cs.length = 2 ^ n) (h2 : within cs 1000000 = true) : ∃ S : Nat, blendS (picsV ps) cs = (S : Int) ∧ S ≤ 1024000000 := by
  rw [blend_eq T]
  have hb := sumJ_bd (B := 1000000) (k := N) (fun i hi => color_bd T h1 h2 hi)
  have := T.N2
  exact ⟨(sumJ (fun i => cs.getD (markG (picsV ps) i).toNat 0) N).toNat, by omega, by omega⟩

theorem quo_factsB {S G : Nat} (hG : 1 ≤ G) (hS : S ≤ 2000000000) : ∃ A : Nat, (S : Int) / (G : Int) = A ∧ (S : Int).tdiv (G : Int) = A ∧ IntKind.i64.wrap (A : Int) = A ∧ A ≤ 2000000000 := by
  have h := Nat.div_le_self S G
  have e : (S : Int) / (G : Int) = ((S / G : Nat) : Int) := by simp
  obtain ⟨A, hA⟩ : ∃ A, S / G = A := ⟨_, rfl⟩
  rw [hA] at h e
  exact ⟨A, e, by rw [Int.tdiv_eq_ediv_of_nonneg (by omega), e], IntWalk.i64_in _ (by omega), by omega⟩

end Go.Proofs.Ytipcahcljfheaaa
