/-
  Contracts of chapter 5: MirrorKernel of the program and of the model.
-/
import Derived.Test.YtepaklcobkdfdaaK8
namespace Go.Proofs.Ytepaklcobkdfdaa
open Go.RowKit
set_option linter.unusedVariables false
set_option linter.unusedSimpArgs false

def mirrorP (p : Prt) : Prt := ⟨-p.dx, p.dy, p.wt⟩
def mirrorK (ks : List Prt) : List Prt := ks.map mirrorP
def mirrorKF (ks : List Prt) : List Prt × Bool := if kernOk ks = true ∧ kernOk (mirrorK ks) = true then (mirrorK ks, true) else ([], false)

theorem mirrorKF_no {ks : List Prt} (h : ¬ (kernOk ks = true ∧ kernOk (mirrorK ks) = true)) : mirrorKF ks = ([], false) := by unfold mirrorKF; rw [if_neg h]

theorem mirrorKF_yes {ks : List Prt} (h1 : kernOk ks = true) (h2 : kernOk (mirrorK ks) = true) : mirrorKF ks = (mirrorK ks, true) := by unfold mirrorKF; rw [if_pos ⟨h1, h2⟩]

theorem mirrorK_len (ks : List Prt) : (mirrorK ks).length = ks.length := by simp [mirrorK]

theorem mirrorK_at (ks : List Prt) (k : Nat) (h : k < ks.length) : prt (mirrorK ks) k = mirrorP (prt ks k) := by simp [prt, mirrorK, h]

/-- The first k are mirrored. -/
def mixK (ks : List Prt) (k : Nat) : List Prt := (mirrorK ks).take k ++ ks.drop k

theorem flat_set (ls : List Prt) (k : Nat) (p : Prt) (v : Int) (h : k < ls.length) (hp : prt ls k = p) : (flat ls).set (k * 3) v = flat (ls.set k ⟨v, p.dy, p.wt⟩) := by
  induction ls generalizing k with
  | nil => simp at h
  | cons q ls ih =>
    cases k with
    | zero =>
      have : q = p := hp
      subst this
      rfl
    | succ k =>
      rw [prt_cons] at hp
      have := ih k (by simpa using h) hp
      rw [show (k + 1) * 3 = k * 3 + 1 + 1 + 1 by omega, flat_cons, List.set_cons_succ, List.set_cons_succ, List.set_cons_succ, this, List.set_cons_succ, flat_cons]

theorem mix_at (ks : List Prt) (k : Nat) (h : k < ks.length) : prt (mixK ks k) k = prt ks k := by
  unfold prt mixK
  rw [List.getD, List.getElem?_append_right (by simp [mirrorK]; omega)]
  simp [List.getD, mirrorK, show min k ks.length = k by omega]

theorem mix_step (ks : List Prt) (k : Nat) (h : k < ks.length) : (mixK ks k).set k (mirrorP (prt ks k)) = mixK ks (k + 1) := by
  apply List.ext_getElem?
  intro j
  have hml := mirrorK_len ks
  have hlen : (mixK ks k).length = ks.length := by simp [mixK, mirrorK]; omega
  rw [List.getElem?_set]
  by_cases e : k = j
  · subst e
    rw [if_pos rfl, if_pos (by omega)]
    unfold mixK
    rw [List.getElem?_append_left (by simp; omega), List.getElem?_take, if_pos (by omega), ← mirrorK_at ks k h]
    simp [prt, List.getD, List.getElem?_eq_getElem (show k < (mirrorK ks).length by omega)]
  · rw [if_neg e]
    unfold mixK
    by_cases hj : j < k
    · rw [List.getElem?_append_left (by simp; omega), List.getElem?_append_left (by simp; omega), List.getElem?_take, List.getElem?_take, if_pos hj, if_pos (by omega)]
    · rw [List.getElem?_append_right (by simp; omega), List.getElem?_append_right (by simp; omega), List.getElem?_drop, List.getElem?_drop]
      simp only [List.length_take]
      congr 1; omega

theorem mix_zero (ks : List Prt) : mixK ks 0 = ks := by simp [mixK]

theorem mix_all (ks : List Prt) (n : Nat) (h : ks.length = n) : mixK ks n = mirrorK ks := by
  have := mirrorK_len ks
  rw [mixK, List.take_of_length_le (by omega), List.drop_of_length_le (by omega), List.append_nil]

/-- A list of parts and a bool are handed back. -/
def PartsOut2 (w : World) (R : List Prt × Bool) (e : Ending) (w' : World) : Prop :=
  ∃ a n c, e = .returned (.tuple #[.slice a n c, .bool R.2]) ∧ RowA w' 31 3 w.heap.size a n c (flat R.1) ∧ n ≤ 1048576 ∧ Below w.heap.size w w'

theorem rowT_cap {w : World} {T sz g n cap : Nat} {xs : List Int} (h : RowT w T sz g n cap xs) : n ≤ cap := by
  obtain ⟨_, _, _, h1, _⟩ := h
  exact h1

set_option maxHeartbeats 1600000 in
theorem impl_MirrorKernel (ad : Option Addr) (n cap : Nat) (ks : List Prt) (w : World) (hn : ks.length = n) (ha : Rd w ad (flat ks)) (hl : n ≤ 1048576) (hcap : n ≤ cap) :
    Calls Try.prog 27 #[.slice ad n cap] w (PartsOut2 w (mirrorKF ks)) := by
  have HN := Lib.hid hn
  have HA := Lib.hid ha
  clear hn ha
  by_cases hk : kernOk ks = true
  case neg =>
    rw [mirrorKF_no (fun h => hk h.1)]
    have hk2 : kernOk ks = false := by simpa using hk
    clear hk
    go_enter Try.func27, Try.ntmps27
    go_wp2_with fail
    refine (impl_IsKernel _ _ _ ks _ HN.out (by exact HA.out) hl hcap).mono ?_
    rintro e2 w1 ⟨rfl, hb⟩
    rw [hk2]
    have HB := Lib.hid hb
    clear hb
    go_wp2_with fail
    go_ret2
    exact ⟨_, _, _, rfl, RowA.none _ _ _ _, by omega, HB.out⟩
  case pos =>
    obtain ⟨k1, k2, k3⟩ := kernOk_bd HN.out hk
    have HK := Lib.hid k3
    have HKO := Lib.hid hk
    clear k3
    obtain ⟨R, hR⟩ : ∃ R, mirrorKF ks = R := ⟨_, rfl⟩
    rw [hR]
    have HR := Lib.hid hR
    clear hR
    go_enter Try.func27, Try.ntmps27
    go_wp2_with fail
    refine (impl_IsKernel _ _ _ ks _ HN.out (by exact HA.out) hl hcap).mono ?_
    rintro e2 w1 ⟨rfl, hb⟩
    rw [hk]
    have HB := Lib.hid hb
    clear hb hk
    obtain ⟨ba, oa, hae, hal, _⟩ := (HA.out.below HB.out).at (by have := flat_len ks; have := HN.out; omega)
    subst hae
    go_wp2_with fail
    refine (clone_parts ba oa n cap ks _ HN.out (by exact HA.out.below HB.out) k1 hl).mono ?_
    rintro e2 w2 ⟨a, c, rfl, ho, hb⟩
    obtain ⟨g, hg, hB, hr⟩ : ∃ g, a = some ⟨g, 0, none⟩ ∧ w1.heap.size ≤ g ∧ RowT w2 31 3 g n c (flat ks) := by
      rcases ho with ⟨_, h, _, _⟩ | h
      · omega
      · exact h
    subst hg
    have hB2 : w.heap.size ≤ g := Nat.le_trans HB.out.size hB
    have HB2 := Lib.hid (bTrans HB.out hb)
    have HR0 := Lib.hid hr
    have hcc := rowT_cap hr
    clear hb ho hr
    go_wp2_with fail
    go_loopw [14] (fun i wr => ∃ (k : Nat), k ≤ n ∧ i = .int .i64 k ∧ RowT wr 31 3 g n c (flat (mixK ks k)) ∧ Below w.heap.size w wr) (fun i _ => n - (intOf i).toNat)
    case atStart => exact ⟨0, Nat.zero_le _, rfl, by rw [mix_zero]; exact HR0.out, HB2.out⟩
    case round =>
      obtain ⟨k, hk, rfl, ho, hw⟩ := hrel
      have HX := Lib.hid hw
      by_cases hlt : k < n
      · obtain ⟨ba2, oa2, hae, hal2, c0, c1, c2⟩ := rd_part (HA.out.below hw) (k := k) (by have := HN.out; omega)
        cases hae
        obtain ⟨p, hp⟩ : ∃ p, prt ks k = p := ⟨_, rfl⟩
        have p1 := partOk_bd (kern_part HK.out hlt).1
        have HF := Lib.hid (flat_set (mixK ks k) k p (-p.dx) (by simp [mixK, mirrorK_len]; have := HN.out; omega) (by rw [mix_at ks k (by have := HN.out; omega), hp]))
        have HM := Lib.hid (mix_step ks k (by have := HN.out; omega))
        rw [hp] at c0 c1 c2 p1 HM
        obtain ⟨X, Y, T⟩ := p
        dsimp only at c0 c1 c2 p1 HF
        obtain ⟨x1, x2, _⟩ := p1
        have HS := Lib.hid (ho.set (k * 3) (-X))
        have g2 := ho.cell (j := k * 3) (by omega)
        have g3 := ho.frozen (k * 3)
        have gl := ho.lt
        clear hp hw ho
        go_wp2_with fail
        go_roundw
        case rel => exact ⟨k + 1, by omega, by go_num, by have h := HS.out; rw [HF.out] at h; have h2 := HM.out; unfold mirrorP at h2; dsimp only at h2; rw [h2] at h; exact h.alloc _, bAlloc (HX.out.setCell hB2 _) _⟩
        case measure => simp [intOf]; omega
      · obtain rfl : n = k := by omega
        rw [mix_all ks n HN.out] at ho
        have HO := Lib.hid ho
        clear ho hw
        have HML : Hid ((mirrorK ks).length = n) := Lib.hid (by rw [mirrorK_len]; exact HN.out)
        go_wp2_with fail
        refine (impl_IsKernel _ _ _ (mirrorK ks) _ HML.out (by exact HO.out.rd) hl hcc).mono ?_
        rintro e2 w4 ⟨rfl, hb⟩
        have HB4 := Lib.hid (bTrans HX.out hb)
        have HO4 := Lib.hid (HO.out.below hb HO.out.lt)
        clear hb
        by_cases hm : kernOk (mirrorK ks) = true
        · rw [hm]
          have HRR := Lib.hid (HR.out.symm.trans (mirrorKF_yes HKO.out hm))
          clear hm
          go_wp2_with fail
          go_ret2
          exact ⟨_, _, _, (by rw [HRR.out]; rfl), (by rw [HRR.out]; exact RowA.mk HO4.out hB2), hl, HB4.out⟩
        · have HRR := Lib.hid (HR.out.symm.trans (mirrorKF_no (fun h => hm h.2)))
          have hm2 : kernOk (mirrorK ks) = false := by simpa using hm
          rw [hm2]
          clear hm hm2
          go_wp2_with fail
          go_ret2
          exact ⟨_, _, _, (by rw [HRR.out]; rfl), (by rw [HRR.out]; exact RowA.none _ _ _ _), by omega, HB4.out⟩

theorem flat_snoc (ks : List Prt) (k : Nat) (h : k < ks.length) : flat ((mirrorK ks).take (k + 1)) = flat ((mirrorK ks).take k) ++ (mirrorP (prt ks k)).nums := by
  rw [take_prt _ _ (by rw [mirrorK_len]; exact h), flat_append, mirrorK_at ks k h]
  simp [flat]

end Go.Proofs.Ytepaklcobkdfdaa
