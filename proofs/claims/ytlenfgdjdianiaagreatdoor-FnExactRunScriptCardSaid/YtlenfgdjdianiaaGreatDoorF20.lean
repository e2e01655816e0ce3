/- Facts on which this claim rests, 20. -/
import Derived.Test.YtlenfgdjdianiaaGreatDoorF19
set_option linter.all false
set_option maxHeartbeats 6400000
namespace Go.Proofs.YtlenfgdjdianiaaGreatDoor
section
open Go.RowKit Tq Go.Proofs.Tryz
theorem Up (ss : Int) (w : World) : Calls Tryz.prog 136 #[.int .i64 ss] w (kP w (yu ss)) := by
  by_cases hs : 1 ≤ ss ∧ ss ≤ 16
  case neg =>
    rw [Jf hs]
    go_enter Tryz.func136, Tryz.ntmps136
    go_wp2_with fail
    all_goals first | (exfalso; exact hs ⟨by omega, by omega⟩) | skip
    all_goals (
      skip
      exact bodyPost_ret (v := .tuple #[.agg #[.int .i64 0, .int .i64 0, .slice none 0 0], .bool false]) (by simp [results, Tryz.results136, go_sem]) rfl ⟨none, 0, 0, rfl, OwnA.none _ _, by omega, Joins.below_alloc1 _ _⟩
      )
  case pos =>
    obtain ⟨s, rfl⟩ : ∃ s : Nat, ss = (s : Int) := ⟨ss.toNat, by omega⟩
    have s1 : 1 ≤ s := by omega
    have s2 : s ≤ 16 := by omega
    rw [Xs s1 s2]
    obtain ⟨n, hn⟩ : ∃ n : Nat, n = s * s := ⟨_, rfl⟩
    have HN := Jh hn
    have HQ : Hd ((n : Int) = (s : Int) * (s : Int)) := Jh (by rw [hn]; simp)
    have hn2 : n ≤ 256 := by rw [hn]; exact Nat.mul_le_mul s2 s2
    have hn1 : 1 ≤ n := by rw [hn]; exact Nat.mul_le_mul s1 s1
    have HF := Jh (zAN s s1 s2)
    have HS : Hd (yi (s : Int) (s : Int) = true) := Jh (by unfold yi; simp; have := HQ.Z; omega)
    rw [← HN.Z]
    clear hn
    go_enter Tryz.func136, Tryz.ntmps136
    go_wp2_with fail
    refine (uf s s n _ HS.Z HQ.Z).mono ?_
    rintro e w2 ⟨g, rfl, hg, ho, hb⟩
    have HB2 := Jh ((Joins.below_alloc1 w (.cells #[.int .i64 0, .int .i64 0, .slice none 0 0] 32)).trans (hb.mono (by simp)))
    have KR2 := Jh ((Blk.new w 32 #[.int .i64 0, .int .i64 0, .slice none 0 0]).zA hb)
    have HO := Jh ho
    have HG : Hd (w.heap.size + 1 ≤ g) := Jh (by simpa using hg)
    clear hb hg ho
    go_wp2_with (refine zJj _ rfl rfl ?_)
    obtain ⟨q, hq⟩ : ∃ q, q = w2.heap.size := ⟨_, rfl⟩
    obtain ⟨w5, hw5⟩ : ∃ w5, w5 = ((((w2.alloc (.cells #[.int .i64 s, .int .i64 s, .slice (some ⟨g, 0, none⟩) n n] 32)).alloc (.map #[] 0)).alloc (.cells #[.int .i64 0, .int .i64 0] 176)).alloc (.cells #[.int .i64 1, .int .i64 0] 176)) := ⟨_, rfl⟩
    have hg2 := HO.Z.lt
    have hr2 := KR2.Z.lt
    have KT5 : Hd (Blk w5 q 32 #[.int .i64 s, .int .i64 s, .slice (some ⟨g, 0, none⟩) n n]) := Jh (by rw [hw5, hq]; exact (((Blk.new w2 _ _).alloc _).alloc _).alloc _)
    have HV5 : Hd (VM w5 (q + 1) 0 (fun _ _ => false)) := Jh (by rw [hw5, hq]; have h := ((zPz (w2.alloc (.cells #[.int .i64 s, .int .i64 s, .slice (some ⟨g, 0, none⟩) n n] 32))).alloc (.cells #[.int .i64 0, .int .i64 0] 176)).alloc (.cells #[.int .i64 1, .int .i64 0] 176); simpa using h)
    have KA5 : Hd (Blk w5 (q + 1 + 1) 176 #[.int .i64 0, .int .i64 0]) := Jh (by rw [hw5, hq]; exact (Blk.zD (w := (w2.alloc _).alloc _) _ _ (by simp)).alloc _)
    have KS5 : Hd (Blk w5 (q + 1 + 1 + 1) 176 #[.int .i64 1, .int .i64 0]) := Jh (by rw [hw5, hq]; exact Blk.zD _ _ (by simp))
    have HO5 : Hd (Own w5 g n n (cl (xO s 0).r)) := Jh (by rw [hw5]; simp only [xO, Ki]; rw [← HN.Z, zMw]; exact (((HO.Z.alloc _).alloc _).alloc _).alloc _)
    have KR5 : Hd (Blk w5 w.heap.size 32 #[.int .i64 0, .int .i64 0, .slice none 0 0]) := Jh (by rw [hw5]; exact (((KR2.Z.alloc _).alloc _).alloc _).alloc _)
    have HB5 : Hd (Below w.heap.size w w5) := Jh (by rw [hw5]; exact zJ (zJ (zJ (zJ HB2.Z _) _) _) _)
    rw [← hw5, ← hq]
    have HGQ : Hd (g < q) := Jh (by omega)
    have HRQ : Hd (w.heap.size < g) := Jh (by have := HG.Z; omega)
    clear hw5 hq hg2 hr2 HO KR2 HB2
    go_loopw [26] (fun i wr => ∃ (k : Nat) (t : Sp) (S : Int → Int → Bool), k ≤ n ∧ i = .int .i64 k ∧ Hd (t = xO s k) ∧ Hd (∀ u v, 0 ≤ u ∧ u ≤ (s : Int) - 1 → 0 ≤ v ∧ v ≤ (s : Int) - 1 → S u v = decide (0 ≤ t.r.getD (v * s + u).toNat 0)) ∧ Own wr g n n (cl t.r) ∧ VM wr (q + 1) k S ∧ Blk wr q 32 #[.int .i64 s, .int .i64 s, .slice (some ⟨g, 0, none⟩) n n] ∧
      Blk wr (q + 1 + 1) 176 #[.int .i64 t.x, .int .i64 t.y] ∧ Blk wr (q + 1 + 1 + 1) 176 #[.int .i64 t.dx, .int .i64 t.dy] ∧ Blk wr w.heap.size 32 #[.int .i64 0, .int .i64 0, .slice none 0 0] ∧ Below w.heap.size w wr) (fun i _ => n - (intOf i).toNat)
    case atStart => exact ⟨0, xO s 0, fun _ _ => false, Nat.zero_le _, rfl, Jh rfl, Jh (fun u v hu hv => zOW hu hv), HO5.Z, HV5.Z, KT5.Z, KA5.Z, KS5.Z, KR5.Z, HB5.Z⟩
    case round =>
      obtain ⟨k, t, S, hk, rfl, HT, HSS, ho, hv, kt, ka, ks, kr, hb⟩ := hrel
      have HO := Jh ho
      have HV := Jh hv
      have KT := Jh kt
      have KA := Jh ka
      have KS := Jh ks
      have KR := Jh kr
      have HB := Jh hb
      clear ho hv kt ka ks kr hb HO5 HV5 KT5 KA5 KS5 KR5 HB5
      obtain ⟨l0, o0, o1, o2⟩ := KT.Z.c3
      by_cases hlt : k < n
      · obtain ⟨x0, x1, y0, y1, dx0, dx1, dy0, dy1, dne⟩ := zIG (s := s) (t := t) (by rw [HT.Z]; exact HF.Z.1 k (by have := HN.Z; omega))
        obtain ⟨i0, i1⟩ := ve x0 x1 y0 y1
        have i2 : (t.y * (s : Int) + t.x).toNat < n := by have := HQ.Z; omega
        have i3 : t.y * (s : Int) + t.x < (n : Int) := by have := HQ.Z; omega
        have g2 := HO.Z.cell i2
        have g3 := HO.Z.frozen (t.y * (s : Int) + t.x).toNat
        have HDN := Jh dne
        clear dne i1
        have a0 := KA.Z.cell 0
        have a1 := KA.Z.cell 1
        have d0 := KS.Z.cell 0
        have d1 := KS.Z.cell 1
        simp only [Yi, List.getElem?_cons_zero, List.getElem?_cons_succ] at a0 a1 d0 d1
        have N1 : g ≠ q := by have := HGQ.Z; omega
        have N2 : g ≠ q + 1 + 1 := by have := HGQ.Z; omega
        have N3 : g ≠ q + 1 + 1 + 1 := by have := HGQ.Z; omega
        go_wp2_with (at_mapUpdate; refine zOn _ rfl _ _ _ rfl (q + 1) k S t.x t.y rfl (HV.Z.same (Below.heap_setCell _ _ _ _ (by have := HGQ.Z; simp; omega))) (by unfold maxLen; omega) rfl rfl (Uj (by omega) (by omega)) (Uj (by omega) (by omega)) ?_; intro w6 hv6 hg6; have HV6 := Jh hv6; have HO6 := Jh ((HO.Z.set (t.y * (s : Int) + t.x).toNat (k : Int)).grown hg6 (by intro e; have := Yd e; have := HGQ.Z; omega)); have KT6 := Jh ((KT.Z.other (a := ⟨g, (t.y * (s : Int) + t.x).toNat, none⟩) N1 (.int .i64 k)).grown hg6 (by intro e; have := Yd e; omega)); have KA6 := Jh ((KA.Z.other (a := ⟨g, (t.y * (s : Int) + t.x).toNat, none⟩) N2 (.int .i64 k)).grown hg6 (by intro e; have := Yd e; omega)); have KS6 := Jh ((KS.Z.other (a := ⟨g, (t.y * (s : Int) + t.x).toNat, none⟩) N3 (.int .i64 k)).grown hg6 (by intro e; have := Yd e; omega)); have KR6 := Jh ((KR.Z.other (a := ⟨g, (t.y * (s : Int) + t.x).toNat, none⟩) (by have := HRQ.Z; simp; omega) (.int .i64 k)).grown hg6 (by intro e; have := Yd e; have := HRQ.Z; have := HGQ.Z; omega)); have HB6 := Jh ((HB.Z.setCell (show w.heap.size ≤ (⟨g, (t.y * (s : Int) + t.x).toNat, none⟩ : Addr).block by have := HRQ.Z; simp; omega) (.int .i64 k)).grown hg6 (by have := HB.Z.size; simp; omega) (fun b hb => by cases hb; have := HRQ.Z; have := HGQ.Z; omega)); clear hv6 hg6 a0 a1 d0 d1 g2 g3 o0 o1 o2 l0 N1 N2 N3 HO HV KT KA KS KR HB; have a0 := KA6.Z.cell 0; have a1 := KA6.Z.cell 1; have d0 := KS6.Z.cell 0; have d1 := KS6.Z.cell 1; obtain ⟨l0, o0, o1, o2⟩ := KT6.Z.c3; simp only [Yi, List.getElem?_cons_zero, List.getElem?_cons_succ] at a0 a1 d0 d1; have e1 : IntKind.i64.wrap (t.x + t.dx) = t.x + t.dx := Yc _ (by omega); have e2 : IntKind.i64.wrap (t.y + t.dy) = t.y + t.dy := Yc _ (by omega))
        refine (wH _ _ _ _ _ e1 e2).mono ?_
        rintro e w7 ⟨rfl, hq7⟩
        have HV8 := Jh ((HV6.Z.same (w' := w7) (hq7.block (q + 1) HV6.Z.lt)).alloc (.cells #[.int .i64 (t.x + t.dx), .int .i64 (t.y + t.dy)] 176))
        have KT8 := Jh ((KT6.Z.zA hq7).alloc (.cells #[.int .i64 (t.x + t.dx), .int .i64 (t.y + t.dy)] 176))
        have KA8 := Jh ((KA6.Z.zA hq7).alloc (.cells #[.int .i64 (t.x + t.dx), .int .i64 (t.y + t.dy)] 176))
        have KS8 := Jh ((KS6.Z.zA hq7).alloc (.cells #[.int .i64 (t.x + t.dx), .int .i64 (t.y + t.dy)] 176))
        have KR8 := Jh ((KR6.Z.zA hq7).alloc (.cells #[.int .i64 (t.x + t.dx), .int .i64 (t.y + t.dy)] 176))
        have HO8 := Jh ((HO6.Z.below hq7 HO6.Z.lt).alloc (.cells #[.int .i64 (t.x + t.dx), .int .i64 (t.y + t.dy)] 176))
        have HB8 := Jh (zJ (zI HB6.Z hq7) (.cells #[.int .i64 (t.x + t.dx), .int .i64 (t.y + t.dy)] 176))
        have KN8 := Jh (Blk.new w7 176 #[.int .i64 (t.x + t.dx), .int .i64 (t.y + t.dy)])
        have hlk := HV8.Z.look (x := t.x + t.dx) (y := t.y + t.dy) (Uj (by omega) (by omega)) (Uj (by omega) (by omega))
        unfold Ue at hlk
        clear hq7 a0 a1 d0 d1 l0 o0 o1 o2 HV6 KT6 KA6 KS6 KR6 HO6 HB6
        have HP8 := Jh (zPl (k := k) (S := S) (r := t.r) (x := t.x) (y := t.y) (by rw [HT.Z]; exact zQj s k) x0 x1 y0 y1 HSS.Z)
        have a0 := KA8.Z.cell 0
        have a1 := KA8.Z.cell 1
        have d0 := KS8.Z.cell 0
        have d1 := KS8.Z.cell 1
        have n0 := KN8.Z.cell 0
        have n1 := KN8.Z.cell 1
        obtain ⟨l0, o0, o1, o2⟩ := KT8.Z.c3
        simp only [Yi, List.getElem?_cons_zero, List.getElem?_cons_succ] at a0 a1 d0 d1 n0 n1
        obtain ⟨b, hb⟩ : ∃ b, putS S t.x t.y (t.x + t.dx) (t.y + t.dy) = b := ⟨_, rfl⟩
        rw [hb] at hlk
        have HBB := Jh hb
        clear hb
        cases b
        · by_cases hu : 0 ≤ t.x + t.dx ∧ t.x + t.dx ≤ (s : Int) - 1
          · by_cases hv : 0 ≤ t.y + t.dy ∧ t.y + t.dy ≤ (s : Int) - 1
            · have HTT := Jh (zME (HBB.Z ▸ HP8.Z (t.x + t.dx) (t.y + t.dy)) rfl hu hv)
              go_wp2_with fail
              refine (vv _ _ _ _ (by omega) (by omega) (by omega) hu.1 hu.2).mono ?_
              rintro e v9 ⟨rfl, rfl⟩
              go_wp2_with fail
              refine (vv _ _ _ _ (by omega) (by omega) (by omega) hv.1 hv.2).mono ?_
              rintro e v9 ⟨rfl, rfl⟩
              go_wp2_with fail
              refine (wH t.x t.y t.dx t.dy _ (Yc _ (by omega)) (Yc _ (by omega))).mono ?_
              rintro e w10 ⟨rfl, hq10⟩
              have HV10 := Jh (HV8.Z.same (w' := w10) (hq10.block (q + 1) HV8.Z.lt))
              have KT10 := Jh (KT8.Z.zA hq10)
              have KA10 := Jh (KA8.Z.zA hq10)
              have KS10 := Jh (KS8.Z.zA hq10)
              have KR10 := Jh (KR8.Z.zA hq10)
              have HO10 := Jh (HO8.Z.below hq10 HO8.Z.lt)
              have HB10 := Jh (zI HB8.Z hq10)
              clear hq10 a0 a1 d0 d1 n0 n1 l0 o0 o1 o2 hlk HV8 KT8 KA8 KS8 KR8 HO8 HB8 KN8
              have f0 := KA10.Z.frozen 0
              have f1 := KA10.Z.frozen 1
              have a0 := KA10.Z.cell 0
              have a1 := KA10.Z.cell 1
              obtain ⟨l0, o0, o1, o2⟩ := KT10.Z.c3
              simp only [Yi, List.getElem?_cons_zero, List.getElem?_cons_succ] at a0 a1
              go_wp2_with fail
              go_roundw
              case rel =>
                have E := zDc HTT.Z
                refine ⟨k + 1, jr s k t, putS S t.x t.y, by omega, by go_num, Jh (by rw [HT.Z]; rfl), ?_, ?_, (HV10.Z.same ((Below.heap_setCell _ _ _ _ (by first | (simp; done) | (simp; omega))).trans (Below.heap_setCell _ _ _ _ (by first | (simp; done) | (simp; omega))))), (KT10.Z.other (by simp; omega) _).other (by simp; omega) _, ?_, ?_, (KR10.Z.other (by have := HRQ.Z; have := HGQ.Z; simp; omega) _).other (by have := HRQ.Z; have := HGQ.Z; simp; omega) _, (HB10.Z.setCell (by have := HRQ.Z; have := HGQ.Z; simp; omega) _).setCell (by have := HRQ.Z; have := HGQ.Z; simp; omega) _⟩
                · rw [E]; exact HP8
                · rw [E, zAZ]; exact (HO10.Z.other (by have := HGQ.Z; simp; omega) _).other (by have := HGQ.Z; simp; omega) _
                · rw [E]; exact (KA10.Z.set 0 _).set 1 _
                · rw [E]; exact (KS10.Z.other (by simp) _).other (by simp) _
              case measure => simp [intOf]; omega
            · have HTT := Jh (zAM (s := s) (r := t.r.set (t.y * (s : Int) + t.x).toNat (k : Int)) (u := t.x + t.dx) hv)
              go_wp2_with fail
              refine (vv _ _ _ _ (by omega) (by omega) (by omega) hu.1 hu.2).mono ?_
              rintro e v9 ⟨rfl, rfl⟩
              go_wp2_with fail
              refine (uN _ _ _ _ (by omega) (by omega) (by omega) (fun h => hv ⟨h.2.1, h.2.2⟩)).mono ?_
              rintro e v9 ⟨rfl, rfl⟩
              go_wp2_with fail
              refine (Xk t.dx t.dy _ (Yc _ (by omega))).mono ?_
              rintro e w9 ⟨rfl, hq9⟩
              have HV9 := Jh (HV8.Z.same (w' := w9) (hq9.block (q + 1) HV8.Z.lt))
              have KT9 := Jh (KT8.Z.zA hq9)
              have KA9 := Jh (KA8.Z.zA hq9)
              have KS9 := Jh (KS8.Z.zA hq9)
              have KR9 := Jh (KR8.Z.zA hq9)
              have HO9 := Jh (HO8.Z.below hq9 HO8.Z.lt)
              have HB9 := Jh (zI HB8.Z hq9)
              clear hq9 a0 a1 d0 d1 n0 n1 l0 o0 o1 o2 hlk HV8 KT8 KA8 KS8 KR8 HO8 HB8 KN8
              have a0 := KA9.Z.cell 0
              have a1 := KA9.Z.cell 1
              have d0 := KS9.Z.cell 0
              have d1 := KS9.Z.cell 1
              have f0 := KS9.Z.frozen 0
              have f1 := KS9.Z.frozen 1
              obtain ⟨l0, o0, o1, o2⟩ := KT9.Z.c3
              simp only [Yi, List.getElem?_cons_zero, List.getElem?_cons_succ] at a0 a1 d0 d1
              go_wp2_with fail
              refine (wH t.x t.y (-t.dy) t.dx _ (Yc _ (by omega)) (Yc _ (by omega))).mono ?_
              rintro e w10 ⟨rfl, hq10⟩
              have HV10 := Jh (VM.same (w' := w10) HV9.Z ((hq10.block (q + 1) (by have := HV9.Z.lt; simpa using this)).trans ((Below.heap_setCell _ _ _ _ (by first | (simp; done) | (simp; omega))).trans (Below.heap_setCell _ _ _ _ (by first | (simp; done) | (simp; omega))))))
              have KT10 := Jh (((KT9.Z.other (a := ⟨q + 1 + 1 + 1, 0, none⟩) (by simp; omega) (.int .i64 (-t.dy))).other (a := ⟨q + 1 + 1 + 1, 1, none⟩) (by simp; omega) (.int .i64 t.dx)).zA hq10)
              have KA10 := Jh (((KA9.Z.other (a := ⟨q + 1 + 1 + 1, 0, none⟩) (by simp) (.int .i64 (-t.dy))).other (a := ⟨q + 1 + 1 + 1, 1, none⟩) (by simp) (.int .i64 t.dx)).zA hq10)
              have KR10 := Jh (((KR9.Z.other (a := ⟨q + 1 + 1 + 1, 0, none⟩) (by have := HRQ.Z; have := HGQ.Z; simp; omega) (.int .i64 (-t.dy))).other (a := ⟨q + 1 + 1 + 1, 1, none⟩) (by have := HRQ.Z; have := HGQ.Z; simp; omega) (.int .i64 t.dx)).zA hq10)
              have KS10 : Hd (Blk w10 (q + 1 + 1 + 1) 176 #[.int .i64 (-t.dy), .int .i64 t.dx]) := Jh (by exact ((KS9.Z.set 0 (.int .i64 (-t.dy))).set 1 (.int .i64 t.dx)).zA hq10)
              have HO10 := Jh ((((HO9.Z.other (a := ⟨q + 1 + 1 + 1, 0, none⟩) (by have := HGQ.Z; simp; omega) (.int .i64 (-t.dy))).other (a := ⟨q + 1 + 1 + 1, 1, none⟩) (by have := HGQ.Z; simp; omega) (.int .i64 t.dx))).of_block (w' := w10) (hq10.block g (by have := HO9.Z.lt; simpa using this)))
              have HB10 := Jh (zI ((HB9.Z.setCell (show w.heap.size ≤ (⟨q + 1 + 1 + 1, 0, none⟩ : Addr).block by have := HRQ.Z; have := HGQ.Z; simp; omega) (.int .i64 (-t.dy))).setCell (show w.heap.size ≤ (⟨q + 1 + 1 + 1, 1, none⟩ : Addr).block by have := HRQ.Z; have := HGQ.Z; simp; omega) (.int .i64 t.dx)) hq10)
              clear hq10 a0 a1 d0 d1 l0 o0 o1 o2 f0 f1 HV9 KT9 KA9 KS9 KR9 HO9 HB9
              have f0 := KA10.Z.frozen 0
              have f1 := KA10.Z.frozen 1
              have a0 := KA10.Z.cell 0
              have a1 := KA10.Z.cell 1
              obtain ⟨l0, o0, o1, o2⟩ := KT10.Z.c3
              simp only [Yi, List.getElem?_cons_zero, List.getElem?_cons_succ] at a0 a1
              go_wp2_with fail
              go_roundw
              case rel =>
                have E := ui HTT.Z
                refine ⟨k + 1, jr s k t, putS S t.x t.y, by omega, by go_num, Jh (by rw [HT.Z]; rfl), ?_, ?_, (HV10.Z.same ((Below.heap_setCell _ _ _ _ (by first | (simp; done) | (simp; omega))).trans (Below.heap_setCell _ _ _ _ (by first | (simp; done) | (simp; omega))))), (KT10.Z.other (by simp; omega) _).other (by simp; omega) _, ?_, ?_, (KR10.Z.other (by have := HRQ.Z; have := HGQ.Z; simp; omega) _).other (by have := HRQ.Z; have := HGQ.Z; simp; omega) _, (HB10.Z.setCell (by have := HRQ.Z; have := HGQ.Z; simp; omega) _).setCell (by have := HRQ.Z; have := HGQ.Z; simp; omega) _⟩
                · rw [E]; exact HP8
                · rw [E, zAZ]; exact (HO10.Z.other (by have := HGQ.Z; simp; omega) _).other (by have := HGQ.Z; simp; omega) _
                · rw [E]; exact (KA10.Z.set 0 _).set 1 _
                · rw [E]; exact (KS10.Z.other (by simp) _).other (by simp) _
              case measure => simp [intOf]; omega
          · have HTT := Jh (zAL (s := s) (r := t.r.set (t.y * (s : Int) + t.x).toNat (k : Int)) (v := t.y + t.dy) hu)
            go_wp2_with fail
            refine (uN _ _ _ _ (by omega) (by omega) (by omega) (fun h => hu ⟨h.2.1, h.2.2⟩)).mono ?_
            rintro e v9 ⟨rfl, rfl⟩
            go_wp2_with fail
            refine (Xk t.dx t.dy _ (Yc _ (by omega))).mono ?_
            rintro e w9 ⟨rfl, hq9⟩
            have HV9 := Jh (HV8.Z.same (w' := w9) (hq9.block (q + 1) HV8.Z.lt))
            have KT9 := Jh (KT8.Z.zA hq9)
            have KA9 := Jh (KA8.Z.zA hq9)
            have KS9 := Jh (KS8.Z.zA hq9)
            have KR9 := Jh (KR8.Z.zA hq9)
            have HO9 := Jh (HO8.Z.below hq9 HO8.Z.lt)
            have HB9 := Jh (zI HB8.Z hq9)
            clear hq9 a0 a1 d0 d1 n0 n1 l0 o0 o1 o2 hlk HV8 KT8 KA8 KS8 KR8 HO8 HB8 KN8
            have a0 := KA9.Z.cell 0
            have a1 := KA9.Z.cell 1
            have d0 := KS9.Z.cell 0
            have d1 := KS9.Z.cell 1
            have f0 := KS9.Z.frozen 0
            have f1 := KS9.Z.frozen 1
            obtain ⟨l0, o0, o1, o2⟩ := KT9.Z.c3
            simp only [Yi, List.getElem?_cons_zero, List.getElem?_cons_succ] at a0 a1 d0 d1
            go_wp2_with fail
            refine (wH t.x t.y (-t.dy) t.dx _ (Yc _ (by omega)) (Yc _ (by omega))).mono ?_
            rintro e w10 ⟨rfl, hq10⟩
            have HV10 := Jh (VM.same (w' := w10) HV9.Z ((hq10.block (q + 1) (by have := HV9.Z.lt; simpa using this)).trans ((Below.heap_setCell _ _ _ _ (by first | (simp; done) | (simp; omega))).trans (Below.heap_setCell _ _ _ _ (by first | (simp; done) | (simp; omega))))))
            have KT10 := Jh (((KT9.Z.other (a := ⟨q + 1 + 1 + 1, 0, none⟩) (by simp; omega) (.int .i64 (-t.dy))).other (a := ⟨q + 1 + 1 + 1, 1, none⟩) (by simp; omega) (.int .i64 t.dx)).zA hq10)
            have KA10 := Jh (((KA9.Z.other (a := ⟨q + 1 + 1 + 1, 0, none⟩) (by simp) (.int .i64 (-t.dy))).other (a := ⟨q + 1 + 1 + 1, 1, none⟩) (by simp) (.int .i64 t.dx)).zA hq10)
            have KR10 := Jh (((KR9.Z.other (a := ⟨q + 1 + 1 + 1, 0, none⟩) (by have := HRQ.Z; have := HGQ.Z; simp; omega) (.int .i64 (-t.dy))).other (a := ⟨q + 1 + 1 + 1, 1, none⟩) (by have := HRQ.Z; have := HGQ.Z; simp; omega) (.int .i64 t.dx)).zA hq10)
            have KS10 : Hd (Blk w10 (q + 1 + 1 + 1) 176 #[.int .i64 (-t.dy), .int .i64 t.dx]) := Jh (by exact ((KS9.Z.set 0 (.int .i64 (-t.dy))).set 1 (.int .i64 t.dx)).zA hq10)
            have HO10 := Jh ((((HO9.Z.other (a := ⟨q + 1 + 1 + 1, 0, none⟩) (by have := HGQ.Z; simp; omega) (.int .i64 (-t.dy))).other (a := ⟨q + 1 + 1 + 1, 1, none⟩) (by have := HGQ.Z; simp; omega) (.int .i64 t.dx))).of_block (w' := w10) (hq10.block g (by have := HO9.Z.lt; simpa using this)))
            have HB10 := Jh (zI ((HB9.Z.setCell (show w.heap.size ≤ (⟨q + 1 + 1 + 1, 0, none⟩ : Addr).block by have := HRQ.Z; have := HGQ.Z; simp; omega) (.int .i64 (-t.dy))).setCell (show w.heap.size ≤ (⟨q + 1 + 1 + 1, 1, none⟩ : Addr).block by have := HRQ.Z; have := HGQ.Z; simp; omega) (.int .i64 t.dx)) hq10)
            clear hq10 a0 a1 d0 d1 l0 o0 o1 o2 f0 f1 HV9 KT9 KA9 KS9 KR9 HO9 HB9
            have f0 := KA10.Z.frozen 0
            have f1 := KA10.Z.frozen 1
            have a0 := KA10.Z.cell 0
            have a1 := KA10.Z.cell 1
            obtain ⟨l0, o0, o1, o2⟩ := KT10.Z.c3
            simp only [Yi, List.getElem?_cons_zero, List.getElem?_cons_succ] at a0 a1
            go_wp2_with fail
            go_roundw
            case rel =>
              have E := ui HTT.Z
              refine ⟨k + 1, jr s k t, putS S t.x t.y, by omega, by go_num, Jh (by rw [HT.Z]; rfl), ?_, ?_, (HV10.Z.same ((Below.heap_setCell _ _ _ _ (by first | (simp; done) | (simp; omega))).trans (Below.heap_setCell _ _ _ _ (by first | (simp; done) | (simp; omega))))), (KT10.Z.other (by simp; omega) _).other (by simp; omega) _, ?_, ?_, (KR10.Z.other (by have := HRQ.Z; have := HGQ.Z; simp; omega) _).other (by have := HRQ.Z; have := HGQ.Z; simp; omega) _, (HB10.Z.setCell (by have := HRQ.Z; have := HGQ.Z; simp; omega) _).setCell (by have := HRQ.Z; have := HGQ.Z; simp; omega) _⟩
              · rw [E]; exact HP8
              · rw [E, zAZ]; exact (HO10.Z.other (by have := HGQ.Z; simp; omega) _).other (by have := HGQ.Z; simp; omega) _
              · rw [E]; exact (KA10.Z.set 0 _).set 1 _
              · rw [E]; exact (KS10.Z.other (by simp) _).other (by simp) _
            case measure => simp [intOf]; omega
        · have HTT := Jh (zOU (HBB.Z ▸ HP8.Z (t.x + t.dx) (t.y + t.dy)) rfl)
          go_wp2_with fail
          refine (Xk t.dx t.dy _ (Yc _ (by omega))).mono ?_
          rintro e w9 ⟨rfl, hq9⟩
          have HV9 := Jh (HV8.Z.same (w' := w9) (hq9.block (q + 1) HV8.Z.lt))
          have KT9 := Jh (KT8.Z.zA hq9)
          have KA9 := Jh (KA8.Z.zA hq9)
          have KS9 := Jh (KS8.Z.zA hq9)
          have KR9 := Jh (KR8.Z.zA hq9)
          have HO9 := Jh (HO8.Z.below hq9 HO8.Z.lt)
          have HB9 := Jh (zI HB8.Z hq9)
          clear hq9 a0 a1 d0 d1 n0 n1 l0 o0 o1 o2 hlk HV8 KT8 KA8 KS8 KR8 HO8 HB8 KN8
          have a0 := KA9.Z.cell 0
          have a1 := KA9.Z.cell 1
          have d0 := KS9.Z.cell 0
          have d1 := KS9.Z.cell 1
          have f0 := KS9.Z.frozen 0
          have f1 := KS9.Z.frozen 1
          obtain ⟨l0, o0, o1, o2⟩ := KT9.Z.c3
          simp only [Yi, List.getElem?_cons_zero, List.getElem?_cons_succ] at a0 a1 d0 d1
          go_wp2_with fail
          refine (wH t.x t.y (-t.dy) t.dx _ (Yc _ (by omega)) (Yc _ (by omega))).mono ?_
          rintro e w10 ⟨rfl, hq10⟩
          have HV10 := Jh (VM.same (w' := w10) HV9.Z ((hq10.block (q + 1) (by have := HV9.Z.lt; simpa using this)).trans ((Below.heap_setCell _ _ _ _ (by first | (simp; done) | (simp; omega))).trans (Below.heap_setCell _ _ _ _ (by first | (simp; done) | (simp; omega))))))
          have KT10 := Jh (((KT9.Z.other (a := ⟨q + 1 + 1 + 1, 0, none⟩) (by simp; omega) (.int .i64 (-t.dy))).other (a := ⟨q + 1 + 1 + 1, 1, none⟩) (by simp; omega) (.int .i64 t.dx)).zA hq10)
          have KA10 := Jh (((KA9.Z.other (a := ⟨q + 1 + 1 + 1, 0, none⟩) (by simp) (.int .i64 (-t.dy))).other (a := ⟨q + 1 + 1 + 1, 1, none⟩) (by simp) (.int .i64 t.dx)).zA hq10)
          have KR10 := Jh (((KR9.Z.other (a := ⟨q + 1 + 1 + 1, 0, none⟩) (by have := HRQ.Z; have := HGQ.Z; simp; omega) (.int .i64 (-t.dy))).other (a := ⟨q + 1 + 1 + 1, 1, none⟩) (by have := HRQ.Z; have := HGQ.Z; simp; omega) (.int .i64 t.dx)).zA hq10)
          have KS10 : Hd (Blk w10 (q + 1 + 1 + 1) 176 #[.int .i64 (-t.dy), .int .i64 t.dx]) := Jh (by exact ((KS9.Z.set 0 (.int .i64 (-t.dy))).set 1 (.int .i64 t.dx)).zA hq10)
          have HO10 := Jh ((((HO9.Z.other (a := ⟨q + 1 + 1 + 1, 0, none⟩) (by have := HGQ.Z; simp; omega) (.int .i64 (-t.dy))).other (a := ⟨q + 1 + 1 + 1, 1, none⟩) (by have := HGQ.Z; simp; omega) (.int .i64 t.dx))).of_block (w' := w10) (hq10.block g (by have := HO9.Z.lt; simpa using this)))
          have HB10 := Jh (zI ((HB9.Z.setCell (show w.heap.size ≤ (⟨q + 1 + 1 + 1, 0, none⟩ : Addr).block by have := HRQ.Z; have := HGQ.Z; simp; omega) (.int .i64 (-t.dy))).setCell (show w.heap.size ≤ (⟨q + 1 + 1 + 1, 1, none⟩ : Addr).block by have := HRQ.Z; have := HGQ.Z; simp; omega) (.int .i64 t.dx)) hq10)
          clear hq10 a0 a1 d0 d1 l0 o0 o1 o2 f0 f1 HV9 KT9 KA9 KS9 KR9 HO9 HB9
          have f0 := KA10.Z.frozen 0
          have f1 := KA10.Z.frozen 1
          have a0 := KA10.Z.cell 0
          have a1 := KA10.Z.cell 1
          obtain ⟨l0, o0, o1, o2⟩ := KT10.Z.c3
          simp only [Yi, List.getElem?_cons_zero, List.getElem?_cons_succ] at a0 a1
          go_wp2_with fail
          go_roundw
          case rel =>
            have E := ui HTT.Z
            refine ⟨k + 1, jr s k t, putS S t.x t.y, by omega, by go_num, Jh (by rw [HT.Z]; rfl), ?_, ?_, (HV10.Z.same ((Below.heap_setCell _ _ _ _ (by first | (simp; done) | (simp; omega))).trans (Below.heap_setCell _ _ _ _ (by first | (simp; done) | (simp; omega))))), (KT10.Z.other (by simp; omega) _).other (by simp; omega) _, ?_, ?_, (KR10.Z.other (by have := HRQ.Z; have := HGQ.Z; simp; omega) _).other (by have := HRQ.Z; have := HGQ.Z; simp; omega) _, (HB10.Z.setCell (by have := HRQ.Z; have := HGQ.Z; simp; omega) _).setCell (by have := HRQ.Z; have := HGQ.Z; simp; omega) _⟩
            · rw [E]; exact HP8
            · rw [E, zAZ]; exact (HO10.Z.other (by have := HGQ.Z; simp; omega) _).other (by have := HGQ.Z; simp; omega) _
            · rw [E]; exact (KA10.Z.set 0 _).set 1 _
            · rw [E]; exact (KS10.Z.other (by simp) _).other (by simp) _
          case measure => simp [intOf]; omega
      · obtain rfl : n = k := by omega
        have HE : Hd (Own wr g n n (xO s n).r) := Jh (by
          have h := HF.Z.2
          rw [← HN.Z] at h
          have h2 := HO.Z
          rw [HT.Z, zQR (fun v hv => zPh h v hv)] at h2
          exact h2)
        obtain ⟨r0, r1, r2, r3⟩ := KR.Z.c3
        obtain ⟨q0, q1, q2⟩ := KR.Z.f3
        go_wp2_with fail
        exact bodyPost_ret (v := .tuple #[.agg #[.int .i64 s, .int .i64 s, .slice (some ⟨g, 0, none⟩) n n], .bool true]) (by simp [results, Tryz.results136, go_sem, r1, r2, r3]) rfl
          ⟨_, _, _, rfl, OwnA.mk (((HE.Z.other (by have := HRQ.Z; simp; omega) _).other (by have := HRQ.Z; simp; omega) _).other (by have := HRQ.Z; simp; omega) _) (by have := HRQ.Z; omega), by omega,
            ((HB.Z.setCell (by simp) _).setCell (by simp) _).setCell (by simp) _⟩
theorem vu (W H:Int) (a:Option Addr) (n c:Nat) (ok:Bool) (w:World):
 Calls prog 135 #[.agg #[W,H, .slice a n c], .bool ok] w fun e w'=>e= .returned (.func (.func 180) #[] #[.pointer ↑w])/\w'=w.alloc (.cells #[W,H, .slice a n c] 32):=by
 go_in;go_wp2_with fail;go_ret;exact ⟨rfl,rfl⟩
def uH (w:World) (m:Mat) (e:Ending) (w':World):Prop:=
 ∃(mb:Nat) (a:Option Addr) (n c:Nat),e= .returned (.tuple #[.iface 137 (.func (.func 180) #[] #[.pointer ↑mb]), .bool true])/\
  Blk w' mb 32 #[m.W,m.H, .slice a n c]/\OwnA w' w a n c m.ranks/\n<=1048576/\Below w w w'
section
set_option maxRecDepth 100000
theorem zLW (q:Option Addr) (B:Nat) (x:Int) (w:World) (hr:Rd w q [x]):
 Calls prog 77 #[.string ⟨#[98,97,121,101,114]⟩, .slice q 1 B] w (uH w (xE x).1):=by
 have D:=Jh hr;have g:=Jh (zJ (Below.refl w w) (.cells #[.slice q 1 B] 22));obtain ⟨b,off,u,t,l⟩:=(hr.below g.Z).at sI;subst u;have v:=l 0 sI;rw [show [x].getD 0 0=x from rfl,Yy] at v;clear hr l;go_in;go_wp2_with fail;refine (YQ x _).mono ?_;rintro e w1 ⟨a,n,c,rfl,A,hn,hb⟩;have o:=Jh (zI g.Z hb);have C:=Jh A;clear hb A v t;go_wp2_with fail;refine (vu _ _ a n c _ _).mono ?_;rintro e w2 ⟨rfl,rfl⟩;go_wp2_with fail;go_ret2;exact ⟨w1.heap.size,a,n,c,rfl,Blk.new _ _ _,OwnA.mono (C.Z.alloc _) sI,hn,zJ o.Z _⟩
theorem zIr (q:Option Addr) (B:Nat) (x:Int) (w:World) (hr:Rd w q [x]):
 Calls prog 77 #[.string ⟨#[115,112,105,114,97,108]⟩, .slice q 1 B] w (uH w (yu x).1):=by
 have D:=Jh hr;have g:=Jh (zJ (Below.refl w w) (.cells #[.slice q 1 B] 22));obtain ⟨b,off,u,t,l⟩:=(hr.below g.Z).at sI;subst u;have v:=l 0 sI;rw [show [x].getD 0 0=x from rfl,Yy] at v;clear hr l;go_in;go_wp2_with fail;refine (Up x _).mono ?_;rintro e w1 ⟨a,n,c,rfl,A,hn,hb⟩;have o:=Jh (zI g.Z hb);have C:=Jh A;clear hb A v t;go_wp2_with fail;refine (vu _ _ a n c _ _).mono ?_;rintro e w2 ⟨rfl,rfl⟩;go_wp2_with fail;go_ret2;exact ⟨w1.heap.size,a,n,c,rfl,Blk.new _ _ _,OwnA.mono (C.Z.alloc _) sI,hn,zJ o.Z _⟩
end
end
section
variable {a a' b b' c e i j k m s : Nat} {f g1 g2 : Nat → Int} {key : Int → Int} {x y z : Int}
open Tq Go.Proofs.Tryz
def RL (key:Int->Int) (x y:Int):Prop:=key x<key y\/(key x=key y/\x<y)
theorem RL.trans (h:RL key x y) (k:RL key y z):RL key x z:=by unfold RL at*;omega
theorem RL.irrefl: ¬RL key x x:=by unfold RL;omega
theorem RL.of_not (h: ¬RL key y x) (g:x≠y):RL key x y:=by unfold RL at*;omega
theorem RL.later (h:y<x):RL key x y↔key x<key y:=by unfold RL;omega
def Srt (key:Int->Int) (f:Nat->Int) (a b:Nat):Prop:= ∀i j,a<=i->i<j->j<b->RL key (f i) (f j)
def zEJ (f f0:Nat->Int) (a b:Nat):Prop:= ∀k,a<=k->k<b-> ∃k0,a<=k0/\k0<b/\f k=f0 k0
def zRZ (f f0:Nat->Int) (a b:Nat):Prop:= ∀k,k<a\/b<=k->f k=f0 k
def jL (f:Nat->Int) (a m b:Nat):Prop:= ∀i j,a<=i->i<m->m<=j->j<b->f i<f j
theorem Srt.sub (h:Srt key f a b) (h1:a<=a') (h2:b'<=b):Srt key f a' b':=fun i j p q r=>h i j om q om
theorem Srt.le (h:Srt key f a b) (h1:a<=i) (h2:i<=j) (h3:j<b):RL key (f i) (f j)\/f i=f j:=by
 by_cases e:i=j
 right;rw [e];left;exact h i j h1 om h3
def sw (f:Nat->Int) (i j:Nat):Nat->Int:=fun k=>if k=i then f j else if k=j then f i else f k
def xt (a b m:Nat) (f:Nat->Int):Nat->Int:=fun k=>if a<=k/\k<a+m then f (k - a+b) else if b<=k/\k<b+m then f (k - b+a) else f k
def za (a m b:Nat) (f:Nat->Int):Nat->Int:=fun k=>if a<=k/\k<a+(b - m) then f (k - a+m) else if a+(b - m)<=k/\k<b then f (k - (b - m)) else f k
theorem zJa (a b:Nat) (f:Nat->Int):xt a b 0 f=f:=by
 funext k;unfold xt;rw [if_neg om,if_neg om]
theorem zJZ (a b i:Nat) (f:Nat->Int) (h:a+(i+1)<=b):sw (xt a b i f) (a+i) (b+i)=xt a b (i+1) f:=by
 funext k
 unfold sw;by_cases h1:k=a+i
 subst h1;rw [if_pos rfl];unfold xt;rw [if_neg om,if_neg om,if_pos om];congr 1;omega;rw [if_neg h1];by_cases h2:k=b+i
 subst h2;rw [if_pos rfl];unfold xt;rw [if_neg om,if_neg om,if_neg om,if_pos om];congr 1;omega;rw [if_neg h2];unfold xt;by_cases h3:a<=k/\k<a+i
 rw [if_pos h3,if_pos om];rw [if_neg h3];by_cases h4:b<=k/\k<b+i
 rw [if_pos h4,if_neg om,if_pos om];rw [if_neg h4,if_neg om,if_neg om]
theorem zPp (m i:Nat) (f:Nat->Int) (h:i<=m):xt (m - i) m i f=za (m - i) m (m+i) f:=by
 funext k
 unfold xt za;by_cases h1:m - i<=k/\k<m - i+i
 rw [if_pos h1,if_pos om];rw [if_neg h1];by_cases h2:m<=k/\k<m+i
 rw [if_pos h2,if_neg om,if_pos om];congr 1;omega;rw [if_neg h2,if_neg om,if_neg om]
theorem zOH (m i j:Nat) (f:Nat->Int) (h:i<=m) (g:j<i):za (m - (i - j)) m (m+j) (xt (m - i) m j f)=za (m - i) m (m+j) f:=by
 funext k
 unfold za;by_cases h1:m - i<=k/\k<m - i+(m+j - m)
 rw [if_pos h1,if_neg om,if_neg om];unfold xt;rw [if_pos om];rw [if_neg h1];by_cases h2:m - i+(m+j - m)<=k/\k<m+j
 rw [if_pos h2];by_cases h3:m - (i - j)<=k/\k<m - (i - j)+(m+j - m)
 rw [if_pos h3];unfold xt;rw [if_neg om,if_pos om];congr 1;omega;rw [if_neg h3,if_pos om];unfold xt;rw [if_neg om,if_neg om];rw [if_neg h2,if_neg om,if_neg om];unfold xt;rw [if_neg om,if_neg om]
theorem zLq (m i j:Nat) (f:Nat->Int) (h:i<=m) (g:i<j):za (m - i) m (m+(j - i)) (xt (m - i) (m+j - i) i f)=za (m - i) m (m+j) f:=by
 funext k
 unfold za;by_cases l:k<m - i\/m+j<=k
 rw [if_neg om,if_neg om,if_neg om,if_neg om];unfold xt;rw [if_neg om,if_neg om];by_cases h1:k<m - i+(j - i)
 rw [if_pos om,if_pos om];unfold xt;by_cases h2:k - (m - i)+m<m+j - i
 rw [if_neg om,if_neg om];omega;by_cases h2:k<m+(j - i)
 rw [if_neg om,if_pos om];unfold xt;rw [if_pos om,if_pos om];congr 1;omega;rw [if_neg om,if_neg om,if_neg om,if_pos om];unfold xt;rw [if_neg om,if_pos om];congr 1;omega
theorem ZC (f:Nat->Int) (h:a=m\/m=b) (h1:a<=m) (h2:m<=b):za a m b f=f:=by
 funext k
 unfold za;rcases h with rfl | rfl
 by_cases h3:a<=k/\k<a+(b - a)
 rw [if_pos h3];congr 1;omega;rw [if_neg h3,if_neg om];rw [if_neg om];by_cases h3:a+(m - m)<=k/\k<m
 rw [if_pos h3];congr 1;omega;rw [if_neg h3]
theorem ux (f:Nat->Int) (h1:a<=k) (h2:k<a+(b - m)):za a m b f k=f (k - a+m):=by unfold za;rw [if_pos ⟨h1,h2⟩]
theorem ua (f:Nat->Int) (h1:a+(b - m)<=k) (h2:k<b):za a m b f k=f (k - (b - m)):=by unfold za;rw [if_neg om,if_pos ⟨h1,h2⟩]
theorem xu (f:Nat->Int) (h:k<a\/b<=k) (h1:a<=m) (h2:m<=b):za a m b f k=f k:=by unfold za;rw [if_neg om,if_neg om]
theorem zRV (a k m:Nat) (f:Nat->Int) (h:a<=k):sw (za a (a+1) (k+1) f) k (k+1)=za a (a+1) (k+2) f:=by
 funext p
 unfold sw;by_cases h1:p=k
 subst h1;rw [if_pos rfl,xu f om om om,ux f h om];congr 1;omega;rw [if_neg h1];by_cases h2:p=k+1
 subst h2;rw [if_pos rfl,ua f om om,ua f om om];congr 1;omega;rw [if_neg h2];by_cases h3:p<a\/k+2<=p
 rw [xu f om om om,xu f om om om];rw [ux f om om,ux f om om]
theorem zPw (k m:Nat) (f:Nat->Int) (h:k<m):sw (za (k+1) m (m+1) f) (k+1) k=za k m (m+1) f:=by
 funext p
 unfold sw;by_cases h1:p=k+1
 subst h1;rw [if_pos rfl,xu f om om om,ua f om om];congr 1;omega;rw [if_neg h1];by_cases h2:p=k
 subst h2;rw [if_pos rfl,ux f om om,ux f om om];congr 1;omega;rw [if_neg h2];by_cases h3:p<k\/m+1<=p
 rw [xu f om om om,xu f om om om];rw [ua f om om,ua f om om]
structure zT (key:Int->Int) (f f0:Nat->Int) (a b:Nat):Prop where
 srt:Srt key f a b
 frm:zEJ f f0 a b
 same:zRZ f f0 a b
theorem zEJ.refl (f:Nat->Int) (a b:Nat):zEJ f f a b:=fun k h1 h2=>⟨k,h1,h2,rfl⟩
theorem zT.self (h:Srt key f a b):zT key f f a b:=⟨h,zEJ.refl f a b,fun _ _=>rfl⟩
structure vp (key:Int->Int) (f:Nat->Int) (a s m e b:Nat):Prop where
 h1:a<=s
 h2:s<=m
 h3:m<=e
 h4:e<=b
 sl:Srt key f a m
 sr:Srt key f m b
 lr: ∀i j,a<=i->i<s->e<=j->j<b->RL key (f i) (f j)
 rl: ∀i j,m<=i->i<e->s<=j->j<m->RL key (f i) (f j)
theorem vp.lo (h:vp key f a s m e b):Srt key (za s m e f) a s/\Srt key (za s m e f) s (s+(e - m)):=by
 obtain ⟨h1,h2,h3,h4,sl,sr,lr,rl⟩:=h;constructor;intro i j p q r;rw [xu f om h2 h3,xu f om h2 h3];exact sl i j p q om;intro i j p q r;rw [ux f om om,ux f om om];exact sr _ _ om om om
theorem vp.hi (h:vp key f a s m e b):Srt key (za s m e f) (s+(e - m)) e/\Srt key (za s m e f) e b:=by
 obtain ⟨h1,h2,h3,h4,sl,sr,lr,rl⟩:=h;constructor;intro i j p q r;rw [ua f om om,ua f om om];exact sl _ _ om om om;intro i j p q r;rw [xu f om h2 h3,xu f om h2 h3];exact sr i j om q r
theorem zAE (f:Nat->Int) (h1:a<=s) (h2:s<=m) (h3:m<=e) (h4:e<=b):zEJ (za s m e f) f a b:=by
 intro k p q;by_cases c1:k<s\/e<=k
 exact ⟨k,p,q,xu f c1 h2 h3⟩;by_cases c2:k<s+(e - m)
 exact ⟨k - s+m,om,om,ux f om c2⟩;exact ⟨k - (e - m),om,om,ua f om om⟩
theorem vp.parts (h:vp key f a s m e b) (i j:Nat) (p:a<=i) (q:i<s+(e - m)) (r:s+(e - m)<=j) (t:j<b):RL key (za s m e f i) (za s m e f j):=by
 obtain ⟨h1,h2,h3,h4,sl,sr,lr,rl⟩:=h;by_cases c1:i<s
 rw [xu f om h2 h3];by_cases c2:j<e
 rw [ua f om c2];exact sl _ _ p om om;rw [xu f om h2 h3];exact lr _ _ p c1 om t;rw [ux f om q];by_cases c2:j<e
 rw [ua f om c2];exact rl _ _ om om om om;rw [xu f om h2 h3];exact sr _ _ om om t
theorem vp.done (h:vp key f a s m e b) (n:zT key g1 (za s m e f) a (s+(e - m))) (l:zT key g2 g1 (s+(e - m)) b):zT key g2 f a b:=by
 have t:=h;obtain ⟨h1,h2,h3,h4,sl,sr,lr,rl⟩:=h
 have lo: ∀k,a<=k->k<s+(e - m)-> ∃g,a<=g/\g<s+(e - m)/\g2 k=za s m e f g:=fun k p q=>by
  rw [l.same k om];exact n.frm k p q
 have hi: ∀k,s+(e - m)<=k->k<b-> ∃g,s+(e - m)<=g/\g<b/\g2 k=za s m e f g:=fun k p q=>by
  obtain ⟨g,a0,a1,a2⟩:=l.frm k p q;exact ⟨g,a0,a1,by rw [a2];exact n.same g om⟩
 refine ⟨?_,?_,?_⟩;intro i j p q r;by_cases c1:j<s+(e - m)
 rw [l.same i om,l.same j om];exact n.srt i j p q c1;by_cases c2:i<s+(e - m)
 obtain ⟨g,a0,a1,a2⟩:=lo i p c2;obtain ⟨k1,o,b1,b2⟩:=hi j om r;rw [a2,b2];exact t.parts g k1 a0 a1 o b1;exact l.srt i j om q r;intro k p q;by_cases c1:k<s+(e - m)
 obtain ⟨g,a0,a1,a2⟩:=lo k p c1;rw [a2];exact zAE f h1 h2 h3 h4 g a0 om;obtain ⟨g,a0,a1,a2⟩:=hi k om q;rw [a2];exact zAE f h1 h2 h3 h4 g om a1;intro k p;rw [l.same k om,n.same k om,xu f om h2 h3]
theorem vp.lless (h:vp key f a s m e b) (hl:jL f a m b):jL (za s m e f) a s (s+(e - m))/\jL (za s m e f) (s+(e - m)) e b:=by
 obtain ⟨h1,h2,h3,h4,sl,sr,lr,rl⟩:=h;constructor;intro i j p q r t;rw [xu f om h2 h3,ux f om t];exact hl _ _ p om om om;intro i j p q r t;rw [ua f om q,xu f om h2 h3];exact hl _ _ om om om t
theorem zCV (h1:a+1<=i) (h2:i<=b) (sr:Srt key f (a+1) b) (hl:jL f a (a+1) b) (p: ∀k,a+1<=k->k<i->RL key (f k) (f a)) (q: ∀k,i<=k->k<b-> ¬RL key (f k) (f a)):vp key f a a (a+1) i b:=
 ⟨nI,om,h1,h2,fun x y _ _ _=>om,sr,fun x y _ _ _ _=>om,fun x y c1 c2 c3 c4=>by
  obtain rfl:y=a:=om
  exact p x c1 c2⟩
theorem Ur (h1:a+1<=i) (h2:i<=b) (sr:Srt key f (a+1) b) (hl:jL f a (a+1) b) (q: ∀k,i<=k->k<b-> ¬RL key (f k) (f a)):Srt key (za a (a+1) i f) (a+(i - (a+1))) b:=by
 intro x y c1 c2 c3;rw [xu (k:=y) f om om h1];by_cases c4:x<i
 rw [ua f c1 c4];obtain rfl:x=i - 1:=om;rw [show i - 1 - (i - (a+1))=a by omega];exact RL.of_not (q y om c3) (og (hl a y om om om c3));rw [xu f om om h1];exact sr x y om c2 c3
theorem zBc (h1:a<=i) (h2:i<=m) (sl:Srt key f a m) (hl:jL f a m (m+1)) (p: ∀k,a<=k->k<i-> ¬RL key (f m) (f k)) (q: ∀k,i<=k->k<m->RL key (f m) (f k)):vp key f a i m (m+1) (m+1):=
 ⟨h1,h2,om,om,sl,fun x y _ _ _=>om,fun x y _ _ _ _=>om,fun x y c1 c2 c3 c4=>by
  obtain rfl:x=m:=om
  exact q y c3 c4⟩
theorem UQ (h1:a<=i) (h2:i<=m) (sl:Srt key f a m) (hl:jL f a m (m+1)) (p: ∀k,a<=k->k<i-> ¬RL key (f m) (f k)):Srt key (za i m (m+1) f) a (i+(m+1 - m)):=by
 intro x y c1 c2 c3;rw [xu (k:=x) f om h2 om];by_cases c4:y<i
 rw [xu f om h2 om];exact sl x y c1 c2 om;rw [ux f om c3];obtain rfl:y=i:=om;rw [show y - y+m=m by omega];exact RL.of_not (p x c1 c2) (og (hl x m c1 om om om))
structure wD (key:Int->Int) (f:Nat->Int) (p lo hi s r:Nat):Prop where
 h1:lo<=s
 h2:s<=r
 h3:r<=hi
 no: ∀c,lo<=c->c<s-> ¬RL key (f (p - c)) (f c)
 yes: ∀c,r<=c->c<hi->RL key (f (p - c)) (f c)
structure zAT (key:Int->Int) (f:Nat->Int) (a m b p lo hi:Nat):Prop where
 am:a<=lo
 hm:hi<=m
 lh:lo<=hi
 pl: ∀c,lo<=c->c<hi->m<=p - c/\p - c<b/\c<=p
 sl:Srt key f a m
 sr:Srt key f m b
theorem wD.up {p lo hi r:Nat} (F:zAT key f a m b p lo hi) (P:wD key f p lo hi s r) (h1:s<=c) (h2:c<r) (h: ¬RL key (f (p - c)) (f c)):wD key f p lo hi (c+1) r:=by
 refine ⟨by have:=P.h1;omega,om,P.h3,fun x h3 h4 g=>?_,P.yes⟩;have g1:=P.h1;have g3:=P.h3;by_cases e:x=c
 subst e;exact h g;have q:=F.pl x h3 om;have o:=F.pl c om om;have n:=F.sr (p - c) (p - x) om om om;have l:=F.sl x c (og F.am) om (og F.hm);exact h ((n.trans g).trans l)
theorem wD.down {p lo hi r:Nat} (F:zAT key f a m b p lo hi) (P:wD key f p lo hi s r) (h1:s<=c) (h2:c<r) (h:RL key (f (p - c)) (f c)):wD key f p lo hi s c:=by
 refine ⟨P.h1,h1,by have:=P.h3;omega,P.no,fun x h3 h4=>?_⟩;have g1:=P.h1;have g3:=P.h3;by_cases e:x=c
 subst e;exact h;have o:=F.pl x om h4;have n:=F.pl c om om;have l:=F.sr (p - x) (p - c) om om om;have g:=F.sl c x (og F.am) om (og F.hm);exact (l.trans h).trans g
theorem QS {mid lo hi:Nat} (D:a<m) (B:m<b) (h1:a<mid) (h2:mid<b) (F:zAT key f a m b (mid+m - 1) lo hi) (hl:jL f a m b)
 (l:lo=a\/(lo+b=mid+m)) (g:hi=m\/(hi=mid)) (P:wD key f (mid+m - 1) lo hi s s) (A:mid+m<=lo+b):vp key f a s m (mid+m - s) b:=by
 have v:=P.h1;have L:=P.h3;have C:=F.am;have E:=F.hm
 have H:m<=mid+m - s:=by
  rcases g with e | e
  by_cases c:s<hi
  have:=F.pl s v c;omega;have:s=m:=om;have G:lo<hi->m<=mid+m - 1 - (hi - 1):=fun h=>(F.pl (hi - 1) om om).1;by_cases J:lo<hi
  have:=G J;omega;rcases l with e2 | e2 <;>omega
  omega
 refine ⟨om,om,H,om,F.sl,F.sr,fun i j u I q t=>?_,fun i j u I q t=>?_⟩
 have c:lo<s:=by
  rcases l with e | e
  omega;by_cases h:lo<s
  exact h;omega
 have k:=F.pl (s - 1) om om;have n:=P.no (s - 1) om om;rw [show mid+m - 1 - (s - 1)=mid+m - s by omega] at n k;have o:=RL.of_not n (og (hl (s - 1) (mid+m - s) om om om om));rcases F.sl.le u (show i<=s - 1 by omega) om with g1 | g1 <;>rcases F.sr.le (show m<=mid+m - s by omega) q t with g2 | g2
 exact (g1.trans o).trans g2;rw [<-g2];exact g1.trans o;rw [g1];exact o.trans g2;rw [g1,<-g2];exact o
 have c:s<hi:=by
  rcases g with e | e
  omega;by_cases h:s<hi
  exact h;omega
 have k:=F.pl s v c;have n:=P.yes s om c;rcases F.sr.le u (show i<=mid+m - 1 - s by omega) om with g1 | g1 <;>rcases F.sl.le (show a<=s by omega) q t with g2 | g2
 exact (g1.trans n).trans g2;rw [<-g2];exact g1.trans n;rw [g1];exact n.trans g2;rw [g1,<-g2];exact n
end
end Go.Proofs.YtlenfgdjdianiaaGreatDoor
