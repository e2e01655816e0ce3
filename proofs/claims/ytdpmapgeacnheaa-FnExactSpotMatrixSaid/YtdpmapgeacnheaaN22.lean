/-
  Contracts of chapter 6: SpotMatrix of the model.
-/
import Derived.Test.YtdpmapgeacnheaaN21
import Derived.Test.YtdpmapgeacnheaaN16
namespace Go.Proofs.Ytdpmapgeacnheaa
open Go.RowKit
set_option linter.unusedVariables false
set_option linter.unusedSimpArgs false

/-- 'xs = append(xs, v)' at a step of a region that draws. -/
theorem step_app5 (w : World) {ops : Array Oper} {o : Oper} {a : Act} {K : Act → World → Prop} {Q : Exit → Act → World → Prop} {E : Prop}
    (hgd : o.guard = none) (s x : Operand) (hop : o.op = .call { callee := .builtin .append, args := #[s, x], argTypes := #[36, 36] })
    (B n cap : Nat) (ad : Option Addr) (xs : List Int) (hs : a.eval s = .slice ad n cap) (ho : OwnA w B ad n cap xs) (g : Nat) (v : Int) (hx : a.eval x = .slice (some ⟨g, 0, none⟩) 1 1)
    (hc : w.cell? ⟨g, 0, none⟩ = some (.int .i64 v)) (hn : n ≤ 1048576) (hB : B ≤ w.heap.size)
    (hK : ∀ ad' cap' w', OwnA w' B ad' (n + 1) cap' (xs ++ [v]) → w.grownBy w' (blockOf ad) → K (a.put o.dst (.slice ad' (n + 1) cap')) w') :
    if Region.wanted o (yielded ops a.tmps) = true then Oper.wp Try.prog o a w K Q else E := by
  have hw : Region.wanted o (yielded ops a.tmps) = true := by simp [Region.wanted, hgd]
  rw [if_pos hw]
  obtain ⟨i, hi, hz0, hz1, hz2⟩ := info_parts infoInt
  refine wp_append_own w s x 36 hop B 3 i (.int .i64 0) 1 8 Try.underlying36 hi hz0 hz1 hz2 rfl (by decide) _ n (xs.map (Value.int .i64)) hs ho.toRow ⟨g, 0, none⟩ 1 1 [.int .i64 v] hx rfl ?_ ?_ (by unfold maxLen; omega) (by omega) hB ?_
  · intro j u hj
    match j, hj with
    | 0, hj => simp at hj; subst hj; simpa [Addr.add] using hc
  · intro u hu; simp at hu; subst hu; rfl
  · intro v' w' h2 h3 _
    have h4 : w'.ownsRow B 3 1 v' (n + 1) ((xs ++ [v]).map (Value.int .i64)) := by simpa using h2
    obtain ⟨ad', cap', rfl, h5⟩ := OwnA.ofRow h4
    rw [blockOf_own] at h3
    exact hK ad' cap' w' h5 h3

set_option maxRecDepth 100000 in
set_option maxHeartbeats 3200000 in
theorem spec_SpotMatrix_yes {A B d : Int} {N : Nat} {g a b p q : Int} (L : Lat A B (N : Int) g d a b p q) (n : Nat) (nm : Nat → Nat) (hnm : Named A B d n nm) (hs : matSize d d = true) (hq : (n : Int) = d * d) (w : World) :
    Calls Try.prog 42 #[.agg #[.int .i64 A, .int .i64 B]] w (MatOut2 w (⟨d, d, ranksL (overK A B d N nm) n⟩, true)) := by
  obtain ⟨b1, b2, b3⟩ := matSqB hs
  have n1 := L.n1; have n2 := L.n2
  have N1 : 0 < N := by omega
  have N2 : N ≤ 288 := by omega
  have nb1 : n ≤ 256 := by omega
  have b5 : 1 * 1 ≤ d * d := Int.mul_le_mul b1 b1 (by omega) (by omega)
  have nb0 : 1 ≤ n := by omega
  have hp0 : 0 ≤ d * d := by omega
  have hp1 : d * d ≤ 256 := b3
  have HL := Lib.hid L
  have HQ := Lib.hid hq
  have HS := Lib.hid hs
  have HNM : Aside _ := hnm
  clear L hq hs hnm b3 b5
  go_enter Try.func42, Try.ntmps42
  go_wp2_with fail
  refine (spec_IsLattice _ _ _).mono ?_
  rw [lat_ok HL.out]
  rintro e w1 ⟨rfl, hb⟩
  have HB1 := Lib.hid (bTrans (Joins.below_alloc2 _ _ _) hb)
  have KL1 := Lib.hid (((Blk.new w 25 #[.int .i64 A, .int .i64 B]).alloc (.cells #[.int .i64 0, .int .i64 0, .slice none 0 0] 48)).below' hb)
  have KP1 := Lib.hid ((Blk.new' (g := w.heap.size + 1) (w := w.alloc (.cells #[.int .i64 A, .int .i64 B] 25)) 48 #[.int .i64 0, .int .i64 0, .slice none 0 0] (by simp)).below' hb)
  obtain ⟨z, c0, c1⟩ := KL1.out.c2
  clear hb
  go_wp2_with fail
  refine (spec_l5Sides HL.out _).mono ?_
  rintro e w2 ⟨rfl, hb⟩
  have HB2 := Lib.hid (bTrans HB1.out hb)
  have KL2 := Lib.hid (KL1.out.below' hb)
  have KP2 := Lib.hid (KP1.out.below' hb)
  clear hb z c0 c1
  go_wp2_with fail
  refine (spec_l2Shape_yes _ _ _ HS.out).mono ?_
  rintro e w2 ⟨rfl, rfl⟩
  obtain ⟨z, c0, c1⟩ := KL2.out.c2
  go_wp2_with fail
  refine (spec_SpotRanks_yes HL.out _).mono ?_
  rintro e w3 ⟨a3, c3, rfl, ho, hb⟩
  obtain ⟨rb, hrb, rfl, ho2⟩ : ∃ rb, w2.heap.size ≤ rb ∧ a3 = some ⟨rb, 0, none⟩ ∧ Own w3 rb N c3 (gen N (fun i => (placeC (nearK2 A B d) (i : Int) N : Int))) := by
    rcases ho with ⟨_, h0, _⟩ | ⟨rb, h1, h2, h3⟩
    · omega
    · exact ⟨rb, h2, h1, h3⟩
  have HB3 := Lib.hid (bTrans HB2.out hb)
  have KL3 := Lib.hid (KL2.out.below' hb)
  have KP3 := Lib.hid (KP2.out.below' hb)
  have HR3 := Lib.hid ho2
  clear hb ho ho2 hrb z c0 c1
  go_wp2_with fail
  go_loopw [7, 8] (fun s i wr => ∃ (k : Nat) (a4 : Option Addr) (c4 : Nat), k ≤ n ∧ i = .int .i64 k ∧ s = .slice a4 k c4 ∧ OwnA wr w3.heap.size a4 k c4 (gen k (overF A B d N nm)) ∧ Below w3.heap.size w3 wr) (fun _ i _ => n - (intOf i).toNat)
  case atStart => exact ⟨0, _, 0, Nat.zero_le _, rfl, rfl, OwnA.mk (own_nil5 _) (Nat.le_refl _), Joins.below_alloc1 _ _⟩
  case round =>
    obtain ⟨k, a4, c4, hk, rfl, rfl, ho, hnx⟩ := hrel
    have HO := Lib.hid ho
    have HW := Lib.hid hnx
    have KL := Lib.hid (KL3.out.below' hnx)
    have KP := Lib.hid (KP3.out.below' hnx)
    have HR := Lib.hid (HR3.out.below hnx HR3.out.lt)
    clear ho hnx
    by_cases hlt : k < n
    · obtain ⟨l0, c0, c1⟩ := KL.out.c2
      have kn : (k : Int) < d * d := by have := HQ.out; omega
      obtain ⟨u1, u2, v1, v2, t1, t2⟩ := cell_bd (W := d) b1 (by omega) hlt
      have HNK := Lib.hid (HNM.out k hlt)
      obtain ⟨U, hU⟩ : ∃ U, (k : Int) % d = U := ⟨_, rfl⟩
      obtain ⟨V, hV⟩ : ∃ V, (k : Int) / d = V := ⟨_, rfl⟩
      rw [hU] at u1 u2 t1 HNK
      rw [hV] at v1 v2 t2 HNK
      obtain ⟨t, ht⟩ : ∃ t, nm k = t := ⟨_, rfl⟩
      rw [ht] at HNK
      have tN : t < N := by have := (HL.out.isName.1 HNK.out).2.1; omega
      have tN2 : (t : Int) < (N : Int) := by omega
      obtain ⟨R, hR⟩ : ∃ R, overF A B d N nm k = R := ⟨_, rfl⟩
      have cr := own_c HR.out tN
      have cr2 : ((placeC (nearK2 A B d) (t : Int) N : Nat) : Int) = R := by rw [← hR, ← ht]; rfl
      rw [cr2] at cr
      have t3 : IntKind.i64.wrap U = U := IntWalk.i64_in _ (by omega)
      have t4 : IntKind.i64.wrap V = V := IntWalk.i64_in _ (by omega)
      have z1 : ¬ d = 0 := by omega
      have z2 : (d == 0) = false := by simp; omega
      have HRR := Lib.hid hR
      clear hU hV ht hR cr2
      go_upto_region 11 with fail
      have MK : Hid (∀ v, BelowL wr v → v.cell? ⟨w.heap.size, 0, none⟩ = some (.int .i64 A) ∧ v.cell? ⟨w.heap.size, 1, none⟩ = some (.int .i64 B) ∧ v.cell? ⟨rb, t, none⟩ = some (.int .i64 R) ∧ BelowL wr v) := Lib.hid (fun v h => ⟨(h.out.cell l0).trans c0, (h.out.cell l0).trans c1, (h.out.cell HR.out.lt).trans cr, h⟩)
      refine wp_region_T 13 (fun v => v.cell? ⟨w.heap.size, 0, none⟩ = some (.int .i64 A) ∧ v.cell? ⟨w.heap.size, 1, none⟩ = some (.int .i64 B) ∧ v.cell? ⟨rb, t, none⟩ = some (.int .i64 R) ∧ BelowL wr v) (by kernel_rfl) (MK.out _ (BelowL.start _)) ?_
      intro hHeld
      have hb0 := limb4 hHeld
      (refine' wpAnyT_take (i := 0) (v := ?_) rfl (by kernel_rfl) (by kernel_rfl) (by kernel_rfl) (by kernel_rfl) (fun _ _ _ h => h) (Or.inl ⟨by rfl, ?_⟩) (by assumption) ?_; rotate_left; (· (intro w hSw; (try dsimp only at hSw); go_simp; try with_reducible rfl)); (try simp only [Act.put, List.setIfInBounds_toArray, List.set_cons_zero, List.set_cons_succ]))
      (refine' wpAnyT_take (i := 1) (v := ?_) rfl (by kernel_rfl) (by kernel_rfl) (by kernel_rfl) (by kernel_rfl) (fun _ _ _ h => h) (Or.inl ⟨by rfl, ?_⟩) (by assumption) ?_; rotate_left; (· (intro w hSw; (try dsimp only at hSw); go_simp; try with_reducible rfl)); (try simp only [Act.put, List.setIfInBounds_toArray, List.set_cons_zero, List.set_cons_succ]))
      (refine' wpAnyT_take (i := 2) (v := ?_) rfl (by kernel_rfl) (by kernel_rfl) (by kernel_rfl) (by kernel_rfl) (fun _ _ _ h => h) (Or.inl ⟨by rfl, ?_⟩) (by assumption) ?_; rotate_left; (· (intro w hSw; (try dsimp only at hSw); go_simp; try with_reducible rfl)); (try simp only [Act.put, List.setIfInBounds_toArray, List.set_cons_zero, List.set_cons_succ]))
      (refine' wpAnyT_take (i := 3) (v := ?_) rfl (by kernel_rfl) (by kernel_rfl) (by kernel_rfl) (by kernel_rfl) (fun _ _ _ h => h) (Or.inl ⟨by rfl, ?_⟩) (by assumption) ?_; rotate_left; (· (intro w hSw; (try dsimp only at hSw); go_simp; try with_reducible rfl)); (try simp only [Act.put, List.setIfInBounds_toArray, List.set_cons_zero, List.set_cons_succ]))
      (refine' wpAnyT_take (i := 4) (v := ?_) rfl (by kernel_rfl) (by kernel_rfl) (by kernel_rfl) (by kernel_rfl) (fun _ _ _ h => h) (Or.inl ⟨by rfl, ?_⟩) (by assumption) ?_; rotate_left; (· (intro w hSw; (try dsimp only at hSw); go_simp; try with_reducible rfl)); (try simp only [Act.put, List.setIfInBounds_toArray, List.set_cons_zero, List.set_cons_succ]))
      (refine' wpAnyT_take (i := 5) (v := ?_) rfl (by kernel_rfl) (by kernel_rfl) (by kernel_rfl) (by kernel_rfl) (fun _ _ _ h => h) (Or.inl ⟨by rfl, ?_⟩) (by assumption) ?_; rotate_left; (· (intro w hSw; (try dsimp only at hSw); go_simp; try with_reducible rfl)); (try simp only [Act.put, List.setIfInBounds_toArray, List.set_cons_zero, List.set_cons_succ]))
      (refine' wpAnyT_take (i := 6) (v := ?_) rfl (by kernel_rfl) (by kernel_rfl) (by kernel_rfl) (by kernel_rfl) (fun _ _ _ h => h) (Or.inl ⟨by rfl, ?_⟩) (by assumption) ?_; rotate_left; (· (intro w hSw; (try dsimp only at hSw); go_simp; try with_reducible rfl)); (try simp only [Act.put, List.setIfInBounds_toArray, List.set_cons_zero, List.set_cons_succ]))
      (refine' wpAnyT_take (i := 7) (v := ?_) rfl (by kernel_rfl) (by kernel_rfl) (by kernel_rfl) (by kernel_rfl) (fun _ _ _ h => h) (Or.inl ⟨by rfl, ?_⟩) (by assumption) ?_; rotate_left; (· (intro w hSw; (try dsimp only at hSw); go_simp; try with_reducible rfl)); (try simp only [Act.put, List.setIfInBounds_toArray, List.set_cons_zero, List.set_cons_succ]))
      (refine' wpAnyT_take (i := 8) (v := ?_) rfl (by kernel_rfl) (by kernel_rfl) (by kernel_rfl) (by kernel_rfl) (fun _ _ _ h => h) (Or.inl ⟨by rfl, ?_⟩) (by assumption) ?_; rotate_left; (· (intro w hSw; (try dsimp only at hSw); go_simp; try with_reducible rfl)); (try simp only [Act.put, List.setIfInBounds_toArray, List.set_cons_zero, List.set_cons_succ]))
      refine wpAnyT_one (i := 9) (by kernel_rfl) rfl (fun K hK => ?_)
      go_simp
      go_at_call 54
      ((with_reducible refine (spec_l5Name HL.out U V _ HNK.out (by omega) (by omega) (by omega) (by omega) _).mono ?_); rintro e v1 ⟨rfl, hq1⟩)
      have hb1 := BelowL.call hb0 hq1
      go_wp2_with fail
      refine hK.out _ _ (fun _ => by (try dsimp only); exact MK.out _ hb1) (fun hH2 => ?_)
      clear hK K hHeld
      have hHeld := hH2 (by decide)
      (refine' wpAnyT_take (i := 10) (v := ?_) rfl (by kernel_rfl) (by kernel_rfl) (by kernel_rfl) (by kernel_rfl) (fun _ _ _ h => h) (Or.inl ⟨by rfl, ?_⟩) (by assumption) ?_; rotate_left; (· (intro w hSw; (try dsimp only at hSw); go_simp; try with_reducible rfl)); (try simp only [Act.put, List.setIfInBounds_toArray, List.set_cons_zero, List.set_cons_succ]))
      (refine' wpAnyT_take (i := 11) (v := ?_) rfl (by kernel_rfl) (by kernel_rfl) (by kernel_rfl) (by kernel_rfl) (fun _ _ _ h => h) (Or.inl ⟨by rfl, ?_⟩) (by assumption) ?_; rotate_left; (· (intro w hSw; (try dsimp only at hSw); go_simp; try with_reducible rfl)); (try simp only [Act.put, List.setIfInBounds_toArray, List.set_cons_zero, List.set_cons_succ]))
      refine wpAnyT_one (i := 12) (by kernel_rfl) rfl (fun K hK => ?_)
      go_simp
      have hb2 := BelowL.alloc hb1 (.cells #[.int .i64 R] 3)
      refine hK.out _ _ (fun _ => by (try dsimp only); exact MK.out _ hb2) (fun hH2 => ?_)
      clear hK K
      have HOv := Lib.hid (HO.out.below' hb1.out)
      have HWv := Lib.hid (bTrans HW.out hb1.out)
      refine wpAnyT_one (i := 13) (by kernel_rfl) rfl (fun K hK => ?_)
      refine step_app5 _ (by rfl) (.tmp 33) (.tmp 45) (by rfl) w3.heap.size k c4 a4 (gen k (overF A B d N nm)) (by rfl) (HOv.out.alloc _) v1.heap.size R (by rfl) (by first | go_simp | simp) (by omega) (by have := HWv.out.size; simp; omega) ?_
      intro ad2 cap2 w5 ho5 hg5
      have HW5 := Lib.hid (((HWv.out.alloc HWv.out.size _)).grown hg5 (by have := HWv.out.size; simp; omega) (fun b hb => by have := HOv.out.bd b hb; omega))
      rw [← HRR.out, gen_snoc] at ho5
      have HO5 := Lib.hid ho5
      clear ho5 hg5
      refine hK.out _ _ (fun h => absurd h (by decide)) (fun hH2 => ?_)
      clear hK K
      refine wpAnyT_one (i := 14) (by kernel_rfl) rfl (fun K hK => ?_)
      go_simp
      refine hK.out _ _ (fun h => absurd h (by decide)) (fun hH2 => ?_)
      clear hK K hH2
      refine wpAnyT_done (by kernel_rfl) ?_ _
      (try go_simp)
      go_wp2_with fail
      go_roundw
      case rel => exact ⟨k + 1, ad2, cap2, by omega, by go_num, rfl, HO5.out, HW5.out⟩
      case measure => simp [intOf]; omega
    · obtain rfl : k = n := by omega
      have kn : ¬ (k : Int) < d * d := by have := HQ.out; omega
      have HBr := Lib.hid (bTrans HB3.out HW.out)
      go_wp2_with fail
      refine (spec_l5Places (overK A B d N nm) a4 k c4 _ (by exact HO.out.rd) (by omega)).mono ?_
      rintro e w6 ⟨a5, c5, rfl, ho, hb⟩
      have HB6 := Lib.hid (bTrans HBr.out hb)
      have KP6 := Lib.hid (KP.out.below' hb)
      have HO6 := Lib.hid ho
      have l5 : w.heap.size + 1 < wr.heap.size := KP.out.lt
      have HSZ := Lib.hid HBr.out.size
      clear ho hb
      obtain ⟨r0, r1, r2, r3⟩ := KP6.out.c3
      obtain ⟨q0, q1, q2⟩ := KP6.out.f3
      go_wp2_with fail
      exact bodyPost_ret (v := .tuple #[.agg #[.int .i64 d, .int .i64 d, .slice a5 k c5], .bool true]) (by simp [results, Try.results42, go_sem, r1, r2, r3]) rfl
        ⟨_, _, _, rfl, OwnA.mono (((HO6.out.other (by simp; omega) _).other (by simp; omega) _).other (by simp; omega) _) HSZ.out, by omega,
          ((HB6.out.setCell (by first | (simp; done) | (simp; omega)) _).setCell (by first | (simp; done) | (simp; omega)) _).setCell (by first | (simp; done) | (simp; omega)) _⟩

end Go.Proofs.Ytdpmapgeacnheaa
