/- Facts on which this claim rests, 11. -/
import Derived.Test.YtlenfgdjdianiaaGreatDoorF10
set_option linter.all false
set_option maxHeartbeats 6400000
namespace Go.Proofs.YtlenfgdjdianiaaGreatDoor
section
open Go.RowKit Tq Go.Proofs.Tryz
variable {B G a b g n : Nat} {H W : Int} {e : Ending} {w w' : World} {xs : List Int}
def yg (f:Dat->Pic × List UInt8) (d:Dat):Dat × List UInt8:=if d.2.2.length=4 then (d,KE) else ((d.1,d.2.1,d.2.2++ [(f d).1]),(f d).2)
def Qf (w:World) (r:Pic × List UInt8) (e:Ending) (w':World):Prop:=
 ∃(W H:Int) (a:Option Addr) (n c:Nat) (xs:List Int),e= .returned (.tuple #[.agg #[W,H, .slice a n c], .string ⟨r.2.toArray⟩])/\(⟨W,H,xs⟩:Pic)=r.1/\OwnA w' w a n c xs/\n<=1048576/\Below w w w'
set_option maxRecDepth 100000 in
theorem zBM (h : Nat) (lb : Array Value) (f : Dat → Pic × List UInt8) (w : World) (B g : Nat) (D : Dsk) (hin : xe w B g D) (eh : ∀ args w, (callFunc h args).run Tryz.prog w = .ok (.enter h args) w) (hn4 : D.n ≤ 4)
    (hc : ∀ v, BelowL w v → Calls Tryz.prog h (#[.agg #[.int .i64 D.P.W, .int .i64 D.P.H, .slice D.P.a D.P.n D.P.c, .int .i64 D.M.W, .int .i64 D.M.H, .slice D.M.a D.M.n D.M.c, .slice D.a D.n D.c]] ++ lb) v (Qf v (f D.dat))) :
    Calls Tryz.prog 319 #[.func (.func h) #[] lb, .pointer (some ⟨g, 0, none⟩)] w (xT B g D (yg f) w) := by
  have HIN := Jh hin
  have HC := Jh hc
  have KG : Blk w g 35 #[.int .i64 D.P.W, .int .i64 D.P.H, .slice D.P.a D.P.n D.P.c, .int .i64 D.M.W, .int .i64 D.M.H, .slice D.M.a D.M.n D.M.c, .slice D.a D.n D.c] := hin.box
  have hpl : (zS D.ps).length = D.n := by rw [xa]; exact hin.own.s.len
  clear hin hc
  obtain ⟨m0, d0, d1, d2, d3, d4, d5, d6⟩ := KG.c7
  by_cases h4 : D.n = 4
  · have E : Hd (yg f D.dat = (D.dat, KE)) := Jh (by unfold yg; rw [if_pos (by show (zS D.ps).length = 4; rw [hpl, h4])])
    have h4b : ((D.n : Int) == 4) = true := by rw [h4]; rfl
    go_enter Tryz.func319, Tryz.ntmps319
    go_wp2_with fail
    go_ret
    exact HIN.Z.stay (Below.refl _ _) (by rw [E.Z]) (by rw [E.Z]; rfl)
  have E : Hd (yg f D.dat = ((D.P.pic, D.M.pic, zS D.ps ++ [(f D.dat).1]), (f D.dat).2)) := Jh (by unfold yg; rw [if_neg (by show ¬ (zS D.ps).length = 4; rw [hpl]; exact h4)]; rfl)
  have h4b : ((D.n : Int) == 4) = false := by simp; omega
  go_enter Tryz.func319, Tryz.ntmps319
  go_wp2_with (go_at_fn h; refine (HC.Z _ (BelowL.mk (Below.refl _ _))).mono ?_; rintro e w1 ⟨qW, qH, qa, qn, qc, qi, rfl, hqp, hqo, hqn, hb⟩)
  obtain ⟨w2, hw2⟩ : ∃ x, x = w1.alloc (.cells #[.int .i64 qW, .int .i64 qH, .slice qa qn qc] 31) := ⟨_, rfl⟩
  have KT2 : Hd (Blk w2 w1.heap.size 31 #[.int .i64 qW, .int .i64 qH, .slice qa qn qc]) := Jh (by rw [hw2]; exact Blk.new _ _ _)
  have HB2 : Hd (Below w.heap.size w w2) := Jh (by rw [hw2]; exact zJ hb _)
  have HQ2 : Hd (OwnA w2 w.heap.size qa qn qc qi) := Jh (by rw [hw2]; exact hqo.alloc _)
  have HQP := Jh hqp
  have HZ1 := Jh hb.size
  rw [← hw2]
  clear hw2 hb hqo hqp m0 d0 d1 d2 d3 d4 d5 d6
  have IN2 := Jh (HIN.Z.below HB2.Z)
  have HBS := Jh HB2.Z.size
  have KG2 : Blk w2 g 35 #[.int .i64 D.P.W, .int .i64 D.P.H, .slice D.P.a D.P.n D.P.c, .int .i64 D.M.W, .int .i64 D.M.H, .slice D.M.a D.M.n D.M.c, .slice D.a D.n D.c] := KG.zA HB2.Z
  clear KG
  obtain ⟨m0, d0, d1, d2, d3, d4, d5, d6⟩ := KG2.c7
  obtain ⟨l0, c0, c1, c2⟩ := KT2.Z.c3
  have MK : Hd (∀ v, BelowL w2 v → v.cell? ⟨g, 6, none⟩ = some (.slice D.a D.n D.c) ∧ v.cell? ⟨w1.heap.size, 0, none⟩ = some (.int .i64 qW) ∧ v.cell? ⟨w1.heap.size, 1, none⟩ = some (.int .i64 qH) ∧ v.cell? ⟨w1.heap.size, 2, none⟩ = some (.slice qa qn qc)) := Jh (fun v h => ⟨(h.Z.cell m0).trans d6, (h.Z.cell l0).trans c0, (h.Z.cell l0).trans c1, (h.Z.cell l0).trans c2⟩)
  clear m0 d0 d1 d2 d3 d4 d5 d6 l0 c0 c1 c2
  refine zh 8 (fun v => v.cell? ⟨g, 6, none⟩ = some (.slice D.a D.n D.c) ∧ v.cell? ⟨w1.heap.size, 0, none⟩ = some (.int .i64 qW) ∧ v.cell? ⟨w1.heap.size, 1, none⟩ = some (.int .i64 qH) ∧ v.cell? ⟨w1.heap.size, 2, none⟩ = some (.slice qa qn qc)) (by kernel_rfl) (MK.Z _ (BelowL.start _)) ?_
  intro hHeld
  refine zM 0 ?_
  refine zM 1 ?_
  refine zM 2 ?_
  refine zM 3 ?_
  refine zM 4 ?_
  refine zM 5 ?_
  refine zW 6 (fun K hK => ?_)
  go_simp
  have hb3 : BelowL w2 (w2.alloc (.cells #[.int .i64 qW, .int .i64 qH, .slice qa qn qc] 31)).drew := BelowL.mk (zJ (Below.refl _ _) _).drew
  refine hK.out _ _ (fun _ => by (try dsimp only); exact MK.Z _ hb3) (fun hH2 => ?_)
  clear hK K hHeld
  refine zW 7 (fun K hK => ?_)
  have IN3 := Jh (IN2.Z.below hb3.Z)
  have HQ3 := Jh (HQ2.Z.zA hb3.Z)
  refine US _ (by rfl) 33 Tryz.underlying33 JJ (.tmp 25) (.tmp 27) (by rfl) B D.n D.c D.a D.ps (by rfl) IN3.Z.own.s.toRowVA w2.heap.size ⟨qW, qH, qa, qn, qc, qi⟩ (by rfl) (by first | go_simp | simp) (by first | go_simp | simp) (by first | go_simp | simp) (by omega) IN3.Z.size ?_
  intro ad2 cap2 w6 ho5 hg5 hx5
  have hbase := HIN.Z.base
  have hsz := HIN.Z.size
  have hbs := HBS.Z
  have hgl := HIN.Z.box.lt
  have hrow : ∀ b, zL D.a = some b → b ≠ g ∧ B ≤ b ∧ b < w.heap.size := fun b hb => ⟨HIN.Z.off b (.inr (.inr (.inl hb))), HIN.Z.own.s.bd b (.inl hb)⟩
  have hdb : ∀ b, D.blocks b → b < w.heap.size := fun b hb => (HIN.Z.own.bd b hb).2
  have hq2 : ∀ b, zL qa = some b → w.heap.size ≤ b ∧ b < w2.heap.size := fun b hb => HQ2.Z.bd b hb
  have hV6 : OwnV w6 B ad2 (D.n + 1) cap2 (D.ps ++ [⟨qW, qH, qa, qn, qc, qi⟩]) := OwnV.snoc IN3.Z.own.s ho5 hg5
    (fun b hb => by
      rcases hx5 with e | e
      · rw [e] at hb; exact .inl hb
      · rw [e] at hb; injection hb with hb; exact .inr (by omega))
    ((HQ3.Z.mono (B' := B) (by omega)).zG hg5 (fun b hb hb2 => by have := (hrow b hb).2.2; have := (hq2 b hb2).1; omega))
    (fun b hb => by
      have h2 := hq2 b hb
      refine ⟨by simp; omega, fun hbl => ?_⟩
      have h1 := hdb b (.inr (.inr hbl))
      omega)
  have hA2 : ∀ b, OwnV.blocks ad2 (D.ps ++ [⟨qW, qH, qa, qn, qc, qi⟩]) b → OwnV.blocks D.a D.ps b ∨ w.heap.size ≤ b := fun b hb => by
    rcases hb with hb | ⟨k, hk, hb⟩
    · rcases hx5 with e | e
      · rw [e] at hb; exact .inl (.inl hb)
      · rw [e] at hb; injection hb with hb; simp at hb; exact .inr (by omega)
    · by_cases e : k < D.ps.length
      · rw [uV e] at hb; exact .inl (.inr ⟨k, e, hb⟩)
      · obtain rfl : k = D.ps.length := by simp at hk; omega
        rw [ww] at hb
        exact .inr (hq2 b hb).1
  have HV6 := Jh hV6
  have HA2 := Jh hA2
  have HP6 := Jh (IN3.Z.own.p.zG hg5 (fun b hb hb2 => IN3.Z.own.ps b (.inl hb) hb2))
  have HM6 := Jh (IN3.Z.own.m.zG hg5 (fun b hb hb2 => IN3.Z.own.ms b (.inl hb) hb2))
  have KG6 : Hd (Blk w6 g 35 #[.int .i64 D.P.W, .int .i64 D.P.H, .slice D.P.a D.P.n D.P.c, .int .i64 D.M.W, .int .i64 D.M.H, .slice D.M.a D.M.n D.M.c, .slice D.a D.n D.c]) := Jh ((KG2.zA hb3.Z).grown hg5 (fun e => (hrow g e.symm).1 rfl))
  have KT6 := Jh ((KT2.Z.zA hb3.Z).grown hg5 (fun e => by have := (hrow _ e.symm).2.2; have := HZ1.Z; omega))
  have HB6 := Jh ((zI HB2.Z hb3.Z).mono hsz |>.grown hg5 (by have := (zI HB2.Z hb3.Z).size; omega) (fun b hb => (hrow b hb).2.1))
  clear ho5 hg5 hx5 hb3 KG2 hV6 hA2
  obtain ⟨m0, d0, d1, d2, d3, d4, d5, d6⟩ := KG6.Z.c7
  obtain ⟨f0, f1, f2, f3, f4, f5, f6⟩ := KG6.Z.f7
  obtain ⟨l0, c0, c1, c2⟩ := KT6.Z.c3
  refine hK.out _ _ (fun _ => by (try dsimp only); exact ⟨d6, c0, c1, c2⟩) (fun hH2 => ?_)
  clear hK K hH2
  refine zW 8 (fun K hK => ?_)
  go_simp
  refine hK.out _ _ (fun h => absurd h (by decide)) (fun hH2 => ?_)
  clear hK K hH2
  refine zW 9 (fun K hK => ?_)
  go_simp
  refine hK.out _ _ (fun h => absurd h (by decide)) (fun hH2 => ?_)
  clear hK K hH2
  refine zW 10 (fun K hK => ?_)
  go_simp
  refine hK.out _ _ (fun h => absurd h (by decide)) (fun hH2 => ?_)
  clear hK K hH2
  refine zx (by kernel_rfl) ?_ _
  (try go_simp)
  go_wp2_with fail
  go_ret
  have gP : ∀ b, zL D.P.a = some b → b ≠ g := fun b hb => HIN.Z.off b (.inl hb)
  have gM : ∀ b, zL D.M.a = some b → b ≠ g := fun b hb => HIN.Z.off b (.inr (.inl hb))
  have gA : ∀ b, OwnV.blocks ad2 (D.ps ++ [⟨qW, qH, qa, qn, qc, qi⟩]) b → b ≠ g := fun b hb => by
    rcases HA2.Z b hb with hb | hb
    · exact HIN.Z.off b (.inr (.inr hb))
    · omega
  refine ⟨⟨D.P, D.M, ad2, D.n + 1, cap2, D.ps ++ [⟨qW, qH, qa, qn, qc, qi⟩]⟩, ?_, KG6.Z.putS _, ⟨?_, ?_, ?_, HIN.Z.own.pm, fun b hb e => ?_, fun b hb e => ?_⟩, fun b hb => ?_, ?_, ⟨HIN.Z.small.p, HIN.Z.small.m, by show D.n + 1 ≤ 1048576; omega, fun k hk => ?_⟩, ?_⟩
  · rw [E.Z]; rfl
  · exact HP6.Z.zF (fun e => gP _ e rfl) _
  · exact HM6.Z.zF (fun e => gM _ e rfl) _
  · have hk : KeepT (fun i => i = g) w6 (w6.setCell ⟨g, 6, none⟩ (.slice ad2 (D.n + 1) cap2)) := KeepT.set (S := fun i => i = g) (KeepT.refl _ w6) rfl _
    exact hk.ownV HV6.Z (fun i hi e => gA i hi e)
  · rcases HA2.Z b hb with hb | hb
    · exact HIN.Z.own.ps b hb e
    · have := hdb b (.inl e); omega
  · rcases HA2.Z b hb with hb | hb
    · exact HIN.Z.own.ms b hb e
    · have := hdb b (.inr (.inl e)); omega
  · rcases hb with hb | hb | hb
    · exact gP b hb
    · exact gM b hb
    · exact gA b hb
  · rw [E.Z, ← HQP.Z]
    show (D.P.pic, D.M.pic, zS (D.ps ++ [⟨qW, qH, qa, qn, qc, qi⟩])) = _
    simp [zS, PV.pic]
  · by_cases e : k < D.ps.length
    · show (pv (D.ps ++ [⟨qW, qH, qa, qn, qc, qi⟩]) k).n ≤ 1048576
      rw [uV e]; exact HIN.Z.small.s k e
    · obtain rfl : k = D.ps.length := by simp at hk; omega
      show (pv (D.ps ++ [⟨qW, qH, qa, qn, qc, qi⟩]) D.ps.length).n ≤ 1048576
      rw [ww]; exact hqn
  · exact HB6.Z.setCell hbase _
def yS (F:Dat->Pic->Dat × List UInt8) (d:Dat):Dat × List UInt8:=if d.2.2.length=0 then (d,KH) else F d (d.2.2.getD (d.2.2.length - 1) yb)
theorem xT.congr {D:Dsk} {F G:Dat->Dat × List UInt8} (h:xT B g D F w e w') (hf:F D.dat=G D.dat):xT B g D G w e w':=by
 unfold xT at h⊢;rw [<-hf];exact h
theorem xT.trans {B g:Nat} {D:Dsk} {F:Dat->Dat × List UInt8} {w v:World} {e:Ending} {w':World} (h:xT B g D F v e w') (hb:Below B w v):xT B g D F w e w':=by
 obtain ⟨E,h1,h2,h3,h4,j,f,c⟩:=h;exact ⟨E,h1,h2,h3,h4,j,f,⟨c.os.trans hb.os,c.tape.trans hb.tape,c.output.trans hb.output,Yx hb.size c.size,fun i hi=>(c.block i hi).trans (hb.block i hi)⟩⟩
set_option maxRecDepth 100000 in
theorem zDN (h:Nat) (I:Array Value) (F:Dat->Pic->Dat × List UInt8) (w:World) (B g:Nat) (D:Dsk) (f:xe w B g D) (eh: ∀args w,(callFunc h args).run prog w= .ok (.enter h args) w)
 (hc: ∀(k r:Nat),D.n=k+1->D.a=some ⟨r,0,none⟩-> ∀v,BelowL w v->Calls prog h (#[.pointer ↑g, .pointer (some ⟨r,k*3,none⟩)]++I) v (xT B g D (fun d=>F d (pv D.ps k).pic) v)):
 Calls prog 320 #[.func (.func h) #[] I, .pointer ↑g] w (xT B g D (yS F) w):=by
 have m:=Jh f;have J:Blk w g 35 ↑D:=f.box;have l:(zS D.ps).length=D.n:=by rw [xa];exact f.own.s.len
 have Q:=f.small.n;obtain ⟨A,U,d1,d2,d3,d4,d5,y⟩:=J.c7;by_cases t:D.n=0
 . have E:Hd (yS F D.dat=(D.dat,KH)):=Jh (by unfold yS;rw [if_pos (by show (zS D.ps).length=0;rw [l,t])])
   have u:((D.n:Int)==0)=true:=by rw [t];rfl
   clear f hc;go_in;go_wp2_with fail;go_ret;exact m.Z.stay bR (by rw [E.Z]) (by rw [E.Z];rfl)
 obtain ⟨k,hk⟩: ∃k,D.n=k+1:=⟨D.n - 1,om⟩
 obtain ⟨r,hr⟩: ∃r,D.a=some ⟨r,0,none⟩:=by
  rcases f.own.s.row with ⟨_,h0,_⟩ | ⟨r,h1,_⟩
  omega;exact ⟨r,h1⟩
 have N:=Jh (hc k r hk hr)
 have E:Hd (yS F D.dat=F D.dat (pv D.ps k).pic):=Jh (by
  unfold yS;rw [if_neg (by show ¬(zS D.ps).length=0;rw [l];exact t)];show F D.dat ((zS D.ps).getD ((zS D.ps).length - 1) yb)=_
  rw [l,hk,Nat.add_sub_cancel,uT D.ps k (by rw [f.own.s.len,hk];omega)])
 rw [hk,hr] at y;have u:(((k+1:Nat):Int)==0)=false:=sO;have V:(0:Int)<=(k:Int):=om;have L:(k:Int)<((k+1:Nat):Int):=om;have T:IntKind.i64.wrap (((k+1:Nat):Int) - 1)=(k:Int):=by rw [Yc _ om];omega
 have M:IntKind.i64.wrap (k:Int)=(k:Int):=Yc _ om;have O:(k:Int)<(k:Int)+1:=om;have KD:=Jh hk;clear f hc l t J U d1 d2 d3 d4 d5 hk hr;go_in;go_upto_region 3 with fail;have C:Hd (∀v,BelowL w v->Jc v (g,6) (.slice (some ⟨r,0,none⟩) (k+1) D.c)/\BelowL w v):=Jh (fun v h=>⟨(h.Z.cell A).trans y,h⟩);clear A y;refine zh 13 C zK (C.Z _ lS) ?_;intro j;have q:=zIl j;refine zM 0 ?_;refine zM 1 ?_;refine zM 2 ?_;refine zM 3 ?_;refine zM 4 ?_;refine zM 5 ?_;refine zM 6 ?_;refine zM 7 ?_;refine zM 8 ?_;refine zM 9 ?_;refine zM 10 ?_;refine zM 11 ?_;refine zM 12 ?_;refine zW 13 (fun K hK=>?_);go_simp
 go_at_fn h
 refine (N.Z _ q).mono ?_;rintro e v1 P;obtain ⟨X,rfl,z⟩:=P;have Y:Hd (xT B g D (fun d=>F d (pv D.ps k).pic) w (.returned (.string ⟨(F D.dat (pv D.ps k).pic).2.toArray⟩)) v1):=Jh (xT.trans ⟨X,rfl,z⟩ (q.Z.mono m.Z.size));go_wp2_with fail;refine hK.out _ _ (fun h=>absurd h dC) (fun hH2=>?_);clear hK K j hH2;refine zW 14 (fun K hK=>?_);go_simp;refine hK.out _ _ (fun h=>absurd h dC) (fun hH2=>?_);clear hK K hH2;refine zx zK ?_ _;(try go_simp);go_wp2_with fail;go_ret;exact Y.Z.congr E.Z.symm
theorem QB (W H:Int) (q:Option Addr) (n j:Nat) (xs:List Int) (w:World) (hn:xs.length=n) (ha:Rd w q xs) (hl:n<=9223372036854775807):
 Calls prog 208 #[.agg #[W,H, .slice q n j]] w fun e w'=>e= .returned ↑(wT W H xs)/\Below w w w':=by
 have f:=Jh hn;have u:=Jh ha;clear hn ha;by_cases hp:zP W H xs 255=true
 case neg=>
  have v:zP W H xs 255=false:=by simpa using hp
  have o:wT W H xs=0:=by unfold wT;rw [if_neg hp]
  rw [o];clear hp o;go_in;go_wp2_with fail;refine (ym _ _ _ _ _ xs _ f.Z (by exact u.Z.alloc _) hl).mono ?_;rintro e w1 ⟨rfl,hb⟩;have c:=Jh (nJ.trans (hb.mono sI));have l:=Jh ((Blk.new w 31 #[W,H, .slice q n j]).zA hb);obtain ⟨C,c0,c1,c2⟩:=l.Z.c3;clear hb;rw [v];go_wp2_with fail;go_ret;exact ⟨rfl,c.Z⟩
 have o:wT W H xs=ya xs:=by unfold wT;rw [if_pos hp]
 rw [o];clear o;obtain ⟨y,A,hi⟩:=yH f.Z hp;obtain ⟨b1,b2,b3,P,Q,O⟩:=yF y;have R:=Jh A;have z:=Jh hi;have L:=Jh y;have D:1<=n:=om;have E:n<=1024:=om;clear A hi y;go_in;go_wp2_with fail;refine (ym _ _ _ _ _ xs _ f.Z (by exact u.Z.alloc _) hl).mono ?_;rintro e w1 ⟨rfl,hb⟩;have c:=Jh (nJ.trans (hb.mono sI));have l:=Jh ((Blk.new w 31 #[W,H, .slice q n j]).zA hb);obtain ⟨C,c0,c1,c2⟩:=l.Z.c3;clear hb;rw [hp];go_wp2_with fail
 go_loop [3,12] (fun s i=> ∃k:Nat,k<=n/\i=↑k/\s=↑(ya (xs.take k))) (fun _ i=>n - (intOf i).toNat)
 case atStart=>exact ⟨0,nZ,rfl,rfl⟩
 obtain ⟨k,hk,rfl,rfl⟩:=hrel;by_cases F:k<n
 . obtain ⟨M,N,t,I,m⟩:=(u.Z.below c.Z).at (oh f)
   have h1:=m k (oh f);obtain ⟨T,v2⟩:=xx z.Z k (oh f);obtain ⟨J,t2⟩:=wI (xs:=xs) z.Z k;subst t;clear m;go_wp2_with fail;go_round
   case rel=>exact ⟨k+1,om,by go_num,by rw [Vm _ _ (oh f)]⟩
   exact Jm
 go_wp2_with fail;go_ret;obtain rfl:k=n:=om;exact ⟨yf (by rw [Yk (oh f)]),c.Z⟩
theorem zHB (W H:Int) (q:Option Addr) (n j:Nat) (xs:List Int) (w:World) (hn:xs.length=n) (ha:Rd w q xs) (hl:n<=9223372036854775807):
 Calls prog 146 #[.agg #[W,H, .slice q n j]] w fun e w'=>e= .returned ↑(wT W H xs)/\Below w w w':=by
 have f:=Jh hn;have u:=Jh ha;clear hn ha;by_cases hp:zP W H xs 255=true
 case neg=>
  have v:zP W H xs 255=false:=by simpa using hp
  have o:wT W H xs=0:=by unfold wT;rw [if_neg hp]
  rw [o];clear hp o;go_in;go_wp2_with fail;refine (yT _ _ _ _ _ xs _ f.Z (by exact u.Z.alloc _) hl).mono ?_;rintro e w1 ⟨rfl,hb⟩;have c:=Jh (nJ.trans (hb.mono sI));have l:=Jh ((Blk.new w 31 #[W,H, .slice q n j]).zA hb);obtain ⟨C,c0,c1,c2⟩:=l.Z.c3;clear hb;rw [v];go_wp2_with fail;go_ret;exact ⟨rfl,c.Z⟩
 have o:wT W H xs=ya xs:=by unfold wT;rw [if_pos hp]
 rw [o];clear o;obtain ⟨y,A,hi⟩:=yH f.Z hp;obtain ⟨b1,b2,b3,P,Q,O⟩:=yF y;have R:=Jh A;have z:=Jh hi;have L:=Jh y;have D:1<=n:=om;have E:n<=1024:=om;clear A hi y;go_in;go_wp2_with fail;refine (yT _ _ _ _ _ xs _ f.Z (by exact u.Z.alloc _) hl).mono ?_;rintro e w1 ⟨rfl,hb⟩;have c:=Jh (nJ.trans (hb.mono sI));have l:=Jh ((Blk.new w 31 #[W,H, .slice q n j]).zA hb);obtain ⟨C,c0,c1,c2⟩:=l.Z.c3;clear hb;rw [hp];go_wp2_with fail
 go_loop [3,11] (fun s i=> ∃k:Nat,k<=n/\i=↑k/\s=↑(ya (xs.take k))) (fun _ i=>n - (intOf i).toNat)
 case atStart=>exact ⟨0,nZ,rfl,rfl⟩
 obtain ⟨k,hk,rfl,rfl⟩:=hrel;by_cases F:k<n
 . obtain ⟨M,N,t,I,m⟩:=(u.Z.below c.Z).at (oh f)
   have h1:=m k (oh f);obtain ⟨T,v2⟩:=xx z.Z k (oh f);obtain ⟨J,t2⟩:=wI (xs:=xs) z.Z k;subst t;clear m;go_wp2_with fail;go_round
   case rel=>exact ⟨k+1,om,by go_num,by rw [Vm _ _ (oh f)]⟩
   exact Jm
 go_wp2_with fail;go_ret;obtain rfl:k=n:=om;exact ⟨yf (by rw [Yk (oh f)]),c.Z⟩
theorem Jz (W H:Int) (q:Option Addr) (n j:Nat) (xs:List Int) (v:Int) (w:World) (hn:xs.length=n) (ha:Rd w q xs) (hl:n<=9223372036854775807):
 Calls prog 157 #[.agg #[W,H, .slice q n j],v] w fun e w'=>e= .returned ↑(YM W H xs v)/\Below w w w':=by
 have f:=Jh hn;have z:=Jh ha;clear hn ha;by_cases hp:zP W H xs 255=true
 case neg=>
  have A:zP W H xs 255=false:=by simpa using hp
  have o:YM W H xs v=0:=by unfold YM;rw [if_neg hp]
  rw [o];clear hp o;go_in;go_wp2_with fail;refine (yT _ _ _ _ _ xs _ f.Z (by exact z.Z.alloc _) hl).mono ?_;rintro e w1 ⟨rfl,hb⟩;have c:=Jh (nJ.trans (hb.mono sI));have l:=Jh ((Blk.new w 31 #[W,H, .slice q n j]).zA hb);obtain ⟨E,c0,c1,c2⟩:=l.Z.c3;clear hb;rw [A];go_wp2_with fail;go_ret;exact ⟨rfl,c.Z⟩
 have o:YM W H xs v=(zV v xs:Int):=by unfold YM;rw [if_pos hp]
 rw [o];clear o;obtain ⟨C,D,hi⟩:=yH f.Z hp;obtain ⟨b1,b2,b3,R,T,Q⟩:=yF C;have U:=Jh D;have M:=Jh hi;have N:=Jh C;have F:1<=n:=om;have I:n<=1024:=om;clear D hi C;go_in;go_wp2_with fail;refine (yT _ _ _ _ _ xs _ f.Z (by exact z.Z.alloc _) hl).mono ?_;rintro e w1 ⟨rfl,hb⟩;have c:=Jh (nJ.trans (hb.mono sI));have l:=Jh ((Blk.new w 31 #[W,H, .slice q n j]).zA hb);obtain ⟨E,c0,c1,c2⟩:=l.Z.c3;clear hb;rw [hp];go_wp2_with fail
 go_loop [5,13] (fun s i=> ∃k:Nat,k<=n/\i=↑k/\s=↑(zV v (xs.take k):Int)) (fun _ i=>n - (intOf i).toNat)
 case atStart=>exact ⟨0,nZ,rfl,rfl⟩
 obtain ⟨k,hk,rfl,rfl⟩:=hrel;by_cases J:k<n
 . obtain ⟨O,P,t,L,m⟩:=(z.Z.below c.Z).at (oh f)
   have h1:=m k (oh f);have t2:=KW v xs k;subst t;clear m;by_cases hv:xs[k]?.getD 0=v
   . have y:(xs[k]?.getD 0==v)=true:=by simpa using hv
     have u:=Jh hv;clear hv;go_wp2_with fail;go_round
     case rel=>exact ⟨k+1,om,by go_num,by rw [zAp _ _ _ (oh f) u.Z];go_num⟩
     exact Jm
   have y:(xs[k]?.getD 0==v)=false:=by simpa using hv
   have u:=Jh hv;clear hv;go_wp2_with fail;go_round
   case rel=>exact ⟨k+1,om,by go_num,by rw [zCz _ _ _ (oh f) u.Z]⟩
   exact Jm
 go_wp2_with fail;go_ret;obtain rfl:k=n:=om;exact ⟨yf (by rw [Yk (oh f)]),c.Z⟩
theorem zMc (h:yY xs 1=true):yY xs 255=true:=by
 unfold yY at h⊢;rw [Yp] at h⊢;intro x c;have:=h x c;simp at this⊢;omega
theorem JT (h:zP W H xs 1=true):zP W H xs 255=true:=by
 obtain ⟨h1,h2,h3⟩:=yH rfl h;rw [wm rfl h1 h2];exact zMc h3
theorem kK (W H:Int) (f:Option Addr) (n c:Nat) (xs:List Int) (w:World) (hn:xs.length=n) (ha:Rd w f xs) (hl:n<=9223372036854775807):
 Calls prog 86 #[.agg #[W,H, .slice f n c]] w (zR (.bool (zP W H xs 1)) w):=by
 have j:=Jh hn;have k:=Jh ha;clear hn ha;go_in;go_wp2_with fail;refine (zDd _ _ _ _ _ xs _ _ j.Z (k.Z.below nJ) hl).mono ?_;rintro e w' ⟨rfl,hb⟩;have i:=Jh hb;clear hb;go_wp2_with fail;go_ret;exact ⟨rfl,nJ.trans (i.Z.mono sI)⟩
theorem kH (W H:Int) (l:Option Addr) (n f:Nat) (xs:List Int) (w:World) (hn:xs.length=n) (ha:Rd w l xs) (hl:n<=9223372036854775807):
 Calls prog 115 #[.agg #[W,H, .slice l n f]] w (zR (.bool (zP W H xs 1)) w):=by
 have j:=Jh hn;have m:=Jh ha;clear hn ha;by_cases hp:zP W H xs 255=true
 case neg=>
  have o:zP W H xs 255=false:=by simpa using hp
  have k:zP W H xs 1=false:=by
   cases h:zP W H xs 1 with
   | false=>rfl
   | true=>exact absurd (JT h) hp
  rw [k];clear hp k;go_in;go_wp2_with fail;refine (ym _ _ _ _ _ xs _ j.Z (by exact m.Z.alloc _) hl).mono ?_;rintro e w1 ⟨rfl,hb⟩;have c:=Jh (nJ.trans (hb.mono sI));have i:=Jh ((Blk.new w 31 #[W,H, .slice l n f]).zA hb);obtain ⟨u,c0,c1,c2⟩:=i.Z.c3;clear hb;rw [o];go_wp2_with fail;go_ret;exact ⟨rfl,c.Z⟩
 obtain ⟨q,s,hi⟩:=yH j.Z hp;obtain ⟨b1,b2,b3,D,E,C⟩:=yF q;have z:=Jh s;have A:=Jh hi;have t:=Jh q;have v:1<=n:=om;have y:n<=1024:=om;clear s hi q;have k:zP W H xs 1=yY xs 1:=wm j.Z t.Z z.Z;rw [k];clear k;go_in;go_wp2_with fail;refine (ym _ _ _ _ _ xs _ j.Z (by exact m.Z.alloc _) hl).mono ?_;rintro e w1 ⟨rfl,hb⟩;have c:=Jh (nJ.trans (hb.mono sI));have i:=Jh ((Blk.new w 31 #[W,H, .slice l n f]).zA hb);obtain ⟨u,c0,c1,c2⟩:=i.Z.c3;clear hb;rw [hp];go_wp2_with fail;refine (KY _ _ _ xs _ _ j.Z (by exact m.Z.below c.Z) hl).mono ?_;rintro e w' ⟨rfl,rfl⟩;go_wp2_with fail;go_ret;exact ⟨rfl,c.Z⟩
def ku (W H:Int) (xs:List Int):Int × Int:=if zP W H xs 255=true then (ya xs/(Nat.gcd (ya xs).toNat xs.length:Nat),(xs.length:Int)/(Nat.gcd (ya xs).toNat xs.length:Nat)) else (0,0)
theorem Qv (h: ¬zP W H xs 255=true):ku W H xs=(0,0):=by unfold ku;rw [if_neg h]
theorem zDH {S:Nat} (hn:xs.length=n) (h:zP W H xs 255=true) (f:ya xs=(S:Int)) (c:Nat.gcd S n=G):ku W H xs=((S:Int)/(G:Int),(n:Int)/(G:Int)):=by
 unfold ku;rw [if_pos h,hn,f];simp [c]
theorem zKb (hb:b≠0):Nat.gcd b (a % b)=Nat.gcd a b:=by rw [Nat.gcd_comm b,<-Nat.gcd_rec,Nat.gcd_comm]
theorem zER (a b:Nat):((a % b:Nat):Int)=(a:Int) % (b:Int):=sI
theorem zJO (a b:Nat) (w:World) (ha:a<=1000000) (hb:b<=1000000):
 Calls prog 147 #[a,b] w fun e w'=>e= .returned ↑(Nat.gcd a b:Nat)/\ ∃q,w'=w.drewN q:=by
 go_in;go_wp2_with fail
 go_loopw [0,1] (fun x y wr=> ∃f c:Nat,f<=1000000/\c<=1000000/\x=↑f/\y=↑c/\Hd (Nat.gcd f c=Nat.gcd a b)/\ ∃q,wr=w.drewN q) (fun _ y _=>(intOf y).toNat)
 case atStart=>exact ⟨a,b,ha,hb,rfl,rfl,Jh rfl,0,rfl⟩
 obtain ⟨f,c,m,j,rfl,rfl,k,q,rfl⟩:=hrel;by_cases i:c=0
 . subst i
   go_wp2_with fail;go_ret;exact ⟨yf (by have:=k.Z;rw [Nat.gcd_zero_right] at this;rw [this]),q,rfl⟩
 have h1:((c:Int) !=0)=true:=by simpa using i
 have h2:((c:Int)==0)=false:=by simpa using i
 have h3: ¬(c:Int)=0:=om;have o:=Jh (zKb (a:=f) i);have t:=Nat.mod_lt f (show 0<c by omega);have l:=Jh (zER f c);have u:0<=(f:Int) % (c:Int):=Yg _ om;have s:(f:Int) % (c:Int)<c:=Ye _ om;clear i;go_wp2_with fail;go_roundw
 case rel=>exact ⟨c,f % c,j,om,rfl,by rw [l.Z],Jh (by rw [o.Z];exact k.Z),q,rfl⟩
 exact Jm
theorem JH (a b:Nat) (w:World) (ha:a<=1000000) (hb:b<=1000000):
 Calls prog 209 #[a,b] w fun e w'=>e= .returned ↑(Nat.gcd a b:Nat)/\ ∃q,w'=w.drewN q:=by
 go_in;go_wp2_with fail
 go_loopw [0,1] (fun x y wr=> ∃f c:Nat,f<=1000000/\c<=1000000/\x=↑f/\y=↑c/\Hd (Nat.gcd f c=Nat.gcd a b)/\ ∃q,wr=w.drewN q) (fun _ y _=>(intOf y).toNat)
 case atStart=>exact ⟨a,b,ha,hb,rfl,rfl,Jh rfl,0,rfl⟩
 obtain ⟨f,c,s,k,rfl,rfl,l,q,rfl⟩:=hrel;by_cases i:c=0
 . subst i
   go_wp2_with fail;go_ret;exact ⟨yf (by have:=l.Z;rw [Nat.gcd_zero_right] at this;rw [this]),q,rfl⟩
 have h1:((c:Int) !=0)=true:=by simpa using i
 have h2:((c:Int)==0)=false:=by simpa using i
 have h3: ¬(c:Int)=0:=om;have m:=Jh (zKb (a:=f) i);have t:=Nat.mod_lt f (show 0<c by omega);obtain ⟨M,j⟩: ∃M:Nat,f % c=M:=⟨_,rfl⟩
 rw [j] at t m;have o:(f:Int).tmod (c:Int)=(M:Int):=by rw [Yl om,<-zER,j]
 have t2:IntKind.i64.wrap (M:Int)=(M:Int):=Yc _ om;clear i j;go_wp2_with fail
 go_quiet (fail)
 clear o t2;go_wp2_with fail;go_roundw
 case rel=>exact ⟨c,M,k,om,rfl,rfl,Jh (by rw [m.Z];exact l.Z),by first | exact zKV _ _ | exact zKW _ _ _⟩
 exact Jm
theorem zIH (hn:xs.length=n) (h:yY xs 255=true) (c:n<=1024): ∃S:Nat,ya xs=(S:Int)/\S<=261120:=by
 have:=wI h n;rw [Yk om] at this;exact ⟨(ya xs).toNat,om,om⟩
theorem zCv {S:Nat} (hn:1<=n) (f:Nat.gcd S n=G) (c:n<=1024):1<=G/\G<=1024:=by
 have h1:=Nat.gcd_pos_of_pos_right S (show 0<n by omega);have h2:=Nat.gcd_le_right S (show 0<n by omega);omega
theorem zFu (h:zP W H xs 255=true):wT W H xs=ya xs:=by unfold wT;rw [if_pos h]
theorem XV {S:Nat} (f:1<=G) (i:S<=261120): ∃A:Nat,(S:Int)/(G:Int)=A/\(S:Int).tdiv (G:Int)=A/\IntKind.i64.wrap (A:Int)=A/\A<=261120:=by
 have h:=Nat.div_le_self S G;have e:(S:Int)/(G:Int)=((S/G:Nat):Int):=sI;obtain ⟨A,c⟩: ∃A,S/G=A:=⟨_,rfl⟩
 rw [c] at h e;exact ⟨A,e,by rw [Yt om,e],Yc _ om,om⟩
theorem uc (h:Below B w w') (n:Nat):Below B w (w'.drewN n):=⟨h.os,h.tape,h.output,h.size,h.block⟩
theorem zGz (W H:Int) (E:Option Addr) (n i:Nat) (xs:List Int) (w:World) (hn:xs.length=n) (ha:Rd w E xs) (hl:n<=9223372036854775807):
 Calls prog 96 #[.agg #[W,H, .slice E n i]] w (zR (.tuple #[(ku W H xs).1,(ku W H xs).2]) w):=by
 have j:=Jh hn;have P:=Jh ha;clear hn ha;by_cases hp:zP W H xs 255=true
 case neg=>
  rw [Qv hp];have Q:zP W H xs 255=false:=by simpa using hp
  clear hp;go_in;go_wp2_with fail;refine (yT _ _ _ _ _ xs _ j.Z (by exact P.Z.alloc _) hl).mono ?_;rintro e w1 ⟨rfl,hb⟩;have c:=Jh (nJ.trans (hb.mono sI));have f:=Jh ((Blk.new w 31 #[W,H, .slice E n i]).zA hb);obtain ⟨M,c0,c1,c2⟩:=f.Z.c3;clear hb;rw [Q];go_wp2_with fail;go_ret2;exact ⟨rfl,c.Z⟩
 obtain ⟨U,V,hi⟩:=yH j.Z hp;obtain ⟨b1,b2,b3,b4,b5,b6⟩:=yF U;have HQ:=Jh V;have Y:=Jh hi;have HS:=Jh U;have O:1<=n:=om;have s:n<=1024:=om;clear V hi U;obtain ⟨S,N,R⟩:=zIH j.Z Y.Z s;obtain ⟨G,D⟩: ∃G,Nat.gcd S n=G:=⟨_,rfl⟩
 obtain ⟨g1,g2⟩:=zCv O D s;obtain ⟨A,o,m,l,b0⟩:=XV g1 R;obtain ⟨B,t,k,C,b7⟩:=XV (S:=n) g1 om;rw [zDH j.Z hp N D];have z1: ¬(G:Int)=0:=om;have z2:((G:Int)==0)=false:=sO;have X:=Jh hp;have T:=Jh N;have HG:=Jh D;have I:=Jh o;have J:=Jh m;have F:=Jh l;have u:=Jh t;have v:=Jh k;have y:=Jh C;clear N D o m l t k C;go_in;go_wp2_with fail;refine (yT _ _ _ _ _ xs _ j.Z (by exact P.Z.alloc _) hl).mono ?_;rintro e w1 ⟨rfl,hb⟩;have c:=Jh (nJ.trans (hb.mono sI));have f:=Jh ((Blk.new w 31 #[W,H, .slice E n i]).zA hb);obtain ⟨M,c0,c1,c2⟩:=f.Z.c3;clear hb;rw [hp];clear hp;go_wp2_with fail;refine (zHB _ _ _ _ _ xs _ j.Z (by exact P.Z.below c.Z) hl).mono ?_;rw [zFu X.Z,T.Z];rintro e w2 ⟨rfl,hb⟩;have z:=Jh (zI c.Z hb);have L:=Jh (f.Z.zA hb);clear hb M c0 c1 c2;obtain ⟨M,c0,c1,c2⟩:=L.Z.c3;go_wp2_with fail;refine (zJO S n _ om om).mono ?_;rw [HG.Z];rintro e w3 ⟨rfl,q,rfl⟩;have a2:=J.Z;have a3:=F.Z;have b2:=v.Z;have b3:=y.Z;go_wp2_with fail
 go_quiet (fail)
 clear a2 a3 b2 b3;go_wp2_with fail;go_ret2;exact ⟨by rw [I.Z,u.Z];rfl,by first | exact uc z.Z _ | exact uc (uc z.Z _) _⟩
theorem zGd (W H:Int) (k:Option Addr) (n c:Nat) (xs:List Int) (w:World) (hn:xs.length=n) (ha:Rd w k xs) (hl:n<=9223372036854775807):
 Calls prog 171 #[.agg #[W,H, .slice k n c]] w (zR (.tuple #[(ku W H xs).1,(ku W H xs).2]) w):=by
 have j:=Jh hn;have P:=Jh ha;clear hn ha;by_cases hp:zP W H xs 255=true
 case neg=>
  rw [Qv hp];have Q:zP W H xs 255=false:=by simpa using hp
  clear hp;go_in;go_wp2_with fail;refine (ym _ _ _ _ _ xs _ j.Z (by exact P.Z.alloc _) hl).mono ?_;rintro e w1 ⟨rfl,hb⟩;have f:=Jh (nJ.trans (hb.mono sI));have i:=Jh ((Blk.new w 31 #[W,H, .slice k n c]).zA hb);obtain ⟨o,c0,c1,c2⟩:=i.Z.c3;clear hb;rw [Q];go_wp2_with fail;go_ret2;exact ⟨rfl,f.Z⟩
 obtain ⟨U,V,hi⟩:=yH j.Z hp;obtain ⟨b1,b2,b3,b4,b5,b6⟩:=yF U;have HQ:=Jh V;have Y:=Jh hi;have HS:=Jh U;have O:1<=n:=om;have u:n<=1024:=om;clear V hi U;obtain ⟨S,N,R⟩:=zIH j.Z Y.Z u;obtain ⟨G,I⟩: ∃G,Nat.gcd S n=G:=⟨_,rfl⟩
 obtain ⟨g1,g2⟩:=zCv O I u;obtain ⟨A,t,s,m,b0⟩:=XV g1 R;obtain ⟨B,y,l,F,b7⟩:=XV (S:=n) g1 om;rw [zDH j.Z hp N I];have z1: ¬(G:Int)=0:=om;have z2:((G:Int)==0)=false:=sO;have X:=Jh hp;have T:=Jh N;have HG:=Jh I;have L:=Jh t;have M:=Jh s;have J:=Jh m;have z:=Jh y;have C:=Jh l;have D:=Jh F;clear N I t s m y l F;go_in;go_wp2_with fail;refine (ym _ _ _ _ _ xs _ j.Z (by exact P.Z.alloc _) hl).mono ?_;rintro e w1 ⟨rfl,hb⟩;have f:=Jh (nJ.trans (hb.mono sI));have i:=Jh ((Blk.new w 31 #[W,H, .slice k n c]).zA hb);obtain ⟨o,c0,c1,c2⟩:=i.Z.c3;clear hb;rw [hp];clear hp;go_wp2_with fail
 go_region_held3 (fun v=>JA v w W H (.slice k n c))
  (first | exact ⟨c0,c1,c2⟩ | exact ⟨(hb.cell o).trans c0,(hb.cell o).trans c1,(hb.cell o).trans c2⟩)
  (first
   | (go_at_call 208;((with_reducible refine (QB _ _ _ _ _ xs _ j.Z (by exact (P.Z.below f.Z).of_heap rfl) hl).mono ?_);rw [zFu X.Z,T.Z];rintro e v1 ⟨rfl,hb⟩)))
 have E:=Jh (zI f.Z.drew hb);clear hb o c0 c1 c2;go_wp2_with fail;refine (JH S n _ om om).mono ?_;rw [HG.Z];rintro e w3 ⟨rfl,q,rfl⟩;have a2:=M.Z;have a3:=J.Z;have b2:=C.Z;have b3:=D.Z;go_wp2_with fail
 go_quiet (fail)
 clear a2 a3 b2 b3;go_wp2_with fail;go_ret2;exact ⟨by rw [L.Z,z.Z];rfl,by first | exact uc E.Z _ | exact uc (uc E.Z _) _⟩
end
section
variable {n x : Int} {xs : List Int}
open Tq Go.Proofs.Tryz
def ZS (c:Int):List Int->List Int
 | []=> []
 | n::r=>List.replicate n.toNat c++ZS (1 - c) r
def jK (c:Int) (j:Nat):Int:=if j % 2=0 then c else 1 - c
theorem VQ (c:Int) (j:Nat):jK c (j+1)=jK (1 - c) j:=by
 unfold jK;by_cases h:j % 2=0
 rw [if_neg om,if_pos h];rw [if_pos om,if_neg h];omega
theorem Je (c:Int) (r:List Int) (m:Int):ZS c (r++ [m])=ZS c r++List.replicate m.toNat (jK c r.length):=by
 induction r generalizing c with
 | nil=>simp [ZS,jK]
 | cons n r f=>
  simp only [List.cons_append,ZS,f,List.length_cons,VQ,List.append_assoc]
def jq:List Int->Bool
 | []=>false
 | n::r=>decide (0<=n) && r.all (fun v=>decide (1<=v))
theorem zDe {r:List Int} (h: ∀v,v ∈ r->0<=v) (c:Int):((ZS c r).length:Int)=ya r:=by
 induction r generalizing c with
 | nil=>rfl
 | cons n r f=>
  have:=h n sI;simp only [ZS,Yn,List.length_replicate,ya];push_cast;rw [f (fun v hv=>h v (by simp [hv]))];omega
theorem QT {r:List Int} (h:jq (n::r)=true):0<=n/\ ∀v,v ∈ r->1<=v:=by
 unfold jq at h;simp only [Bool.and_eq_true,decide_eq_true_eq,Yp] at h;exact h
def yV (xs:List Int):Nat->List Int
 | 0=> [0]
 | k+1=>if xs.getD k 0=jK 0 ((yV xs k).length - 1) then (yV xs k).set ((yV xs k).length - 1) ((yV xs k).getD ((yV xs k).length - 1) 0+1) else yV xs k++ [1]
def YC (xs:List Int):List Int:=yV xs xs.length
theorem zGw {r:List Int} (h:jq r=true):jq (r++ [1])=true:=by
 cases r with
 | nil=>cases h
 | cons n r=>
  unfold jq at h⊢;simp only [List.cons_append,Bool.and_eq_true,decide_eq_true_eq,List.all_append] at h⊢;exact ⟨h.1,h.2,sI⟩
theorem zGv {r:List Int} (h:jq (r++ [x])=true):jq (r++ [x+1])=true:=by
 cases r with
 | nil=>
  unfold jq at h⊢;simp only [List.nil_append,Bool.and_eq_true,decide_eq_true_eq,List.all_nil] at h⊢;exact ⟨om,trivial⟩
 | cons n r=>
  unfold jq at h⊢;simp only [List.cons_append,Bool.and_eq_true,decide_eq_true_eq,List.all_append,List.all_cons,List.all_nil,Bool.and_true] at h⊢;exact ⟨h.1,h.2.1,om⟩
theorem zBW (i: ∀k,k<xs.length->xs.getD k 0=0\/xs.getD k 0=1) (k:Nat) (hk:k<=xs.length):jq (yV xs k)=true/\ZS 0 (yV xs k)=xs.take k/\(yV xs k).length<=k+1/\1<=(yV xs k).length:=by
 induction k with
 | zero=>exact ⟨by simp [yV,jq],by simp [yV,ZS],by simp [yV],by simp [yV]⟩
 | succ k l=>
  obtain ⟨h1,h2,h3,h4⟩:=l om
  have f:xs.take (k+1)=xs.take k++ [xs.getD k 0]:=by
   rw [Ym om];simp [List.getD,Ya (show k<xs.length by omega)]
  obtain ⟨r,x,hr⟩: ∃r x,yV xs k=r++ [x]:=by
   refine ⟨(yV xs k).dropLast,(yV xs k).getLast (by intro e;rw [e] at h4;simp at h4),?_⟩;rw [List.dropLast_concat_getLast]
  unfold yV;rw [hr] at h1 h2 h3⊢
  have j:0<=x:=by
   cases r with
   | nil=>unfold jq at h1;simp at h1;exact h1
   | cons n r=>
    have:=(QT (n:=n) (r:=r++ [x]) (by simpa using h1)).2 x sI;omega
  simp only [Yn,List.length_cons,List.length_nil,Nat.zero_add,Nat.add_sub_cancel] at h3⊢;by_cases e:xs.getD k 0=jK 0 r.length
  rw [if_pos e];have hg:(r++ [x]).getD r.length 0=x:=by simp [List.getD]
  have m:(r++ [x]).set r.length ((r++ [x]).getD r.length 0+1)=r++ [x+1]:=by
   rw [hg,List.set_append];simp
  rw [m];refine ⟨zGv h1,?_,sO,sI⟩;rw [Je,f,<-h2,Je,List.append_assoc,e,show (x+1).toNat=x.toNat+1 by omega,List.replicate_succ'];rw [if_neg e];refine ⟨zGw h1,?_,sO,sI⟩;rw [Je,h2,f];congr 1
  have hc:jK 0 (r++ [x]).length=xs.getD k 0:=by
   rw [Yn,List.length_singleton,VQ];unfold jK at e⊢;have o:=i k om;by_cases c:r.length % 2=0
   rw [if_pos c] at e⊢;omega;rw [if_neg c] at e⊢;omega
  rw [hc];rfl
theorem zOM (c: ∀k,k<xs.length->xs.getD k 0=0\/xs.getD k 0=1):jq (YC xs)=true/\ZS 0 (YC xs)=xs:=by
 obtain ⟨h1,h2,_⟩:=zBW c xs.length nI;exact ⟨h1,by unfold YC;rw [h2,List.take_length]⟩
end
end Go.Proofs.YtlenfgdjdianiaaGreatDoor
