/- Facts on which this claim rests, 44. -/
import Derived.Test.YtlenfgdjdianiaaGreatDoorF42
import Derived.Test.YtlenfgdjdianiaaGreatDoorF43
set_option linter.all false
set_option maxHeartbeats 6400000
namespace Go.Proofs.YtlenfgdjdianiaaGreatDoor
open Go.RowKit Tq Go.Proofs.Tryz
variable {H W e : Int} {xs : List Int}
theorem zNy (W H:Int):zP (xP W H).1.W (xP W H).1.H (xP W H).1.ink 255=(xP W H).2:=by
 by_cases a:yM W H=true
 obtain ⟨h1,h2,_⟩:=uG a;rw [Vy a h1];refine wn a (zZ _ _) h1 (ZV (fun i _=>?_));unfold jy;split;rename_i g;have c:0<=(i:Int) % W:=Yg _ om;have f:(i:Int) % W<W:=Ye _ om;have b:(i:Int) % W*255<=255*(W - 1):=om;exact ⟨Yw om om,Int.ediv_le_of_le_mul om b⟩;omega;rw [zAC a];decide
theorem zMC (h:zq W H xs=true) (x y:Int):zq (xb W H xs x y).W (xb W H xs x y).H (xb W H xs x y).ranks=decide (0<(xb W H xs x y).W):=by
 unfold xb;split;rename_i hc;have hm:=h;unfold zq at hm;simp only [Bool.and_eq_true] at hm;have a:=xA hm.1;rw [zOQ rfl h x y];simp;omega;decide
theorem zIU (h:(yE W H e).2=true):zf (yE W H e).1.W (yE W H e).1.H (yE W H e).1.ink=true:=by
 unfold yE at h⊢;split at h;rename_i a;rw [if_pos a];obtain ⟨h1,h2,h3⟩:=uG a.1;unfold zf;simp only [Bool.and_eq_true,decide_eq_true_eq];refine ⟨wn a.1 (zZ _ _) h1 (ZV (fun i _=>by split <;>omega)),?_⟩
 first | exact a.2.1 | (rw [zZ];omega) | omega
 cases h
set_option maxRecDepth 100000 in
theorem zKF (D:Dsk) (x:Int) (y:Int) (z:Int) (f:Option Addr) (g:Nat) (w:World) (B:Nat) (hin:ModIn w B D) (hr:Rd w f [x,y,z]):
 Calls prog 23 #[D.val, .string ⟨#[102,108,97,116]⟩, .slice f 3 g] w (ModOut w B D (jP ((xH x y z).1) D.dat)):=by
 refine Jv ?_;intro HIN b off hae hbl hbc;subst hae;refine zOw ?_;intro q0 q1 q2;clear hin hr hbc;refine ym1 ?_;intro w0 hw0 KA KR HB0 HZ0 HDB;show Calls prog 23 #[.agg ↑D, .string ⟨#[102,108,97,116]⟩, .slice (some ↑(b,off)) 3 g] w _;go_in;go_upto_region 1 with fail;refine ym3 ?_;clear hw0;intro l0 c0 c1 c2 c3 c4 c5 c6;have c:Hd (jP ((xH x y z).1) D.dat=wL ((xH x y z).1) ((xH x y z).2) D.dat):=Jh (zBC (zNK x y z) D.dat).symm;go_upto_region 2 with fail
 go_cut [8,9] (fun n q s=>VK w0 s 31 ((xH x y z).1).W ((xH x y z).1).H ((xH x y z).1).ink n/\q= .bool ((xH x y z).2))
 case first=>
  refine zQr ?_;intro MK hHeld;refine AllReadyH.cons rfl (fun K hK=>?_) (AllReadyH.cons rfl (fun K hK=>?_) AllReadyH.nil)
  . go_simp
    go_at_call 58
    ((refine (YZ x y z _).mono ?_);rintro e v1 ⟨a1,n1,k1,rfl,ho1,hn1,hq1⟩)
    refine zGK ?_;clear hK K;intro hb1 hHeld;refine zRB ?_;intro hb2 hHeld K hK;have hb3:=BelowL.alloc hb1 (.cells #[((xH x y z).1).W,((xH x y z).1).H, .slice a1 n1 k1] 31);refine Xy ?_;clear hK K;intro hHeld;refine zv ?_;refine zO 15 ?_;refine Xz ?_;go_wp2_with fail;go_meet;exact zJp
  refine zOv ?_;clear hK K;intro hb0 kb0 hHeld;refine zv ?_;refine zy 9 (fun K hK=>?_);go_simp
  go_at_call 58
  ((refine (YZ x y z _).mono ?_);rintro e v1 ⟨a1,n1,k1,rfl,ho1,hn1,hq1⟩)
  refine zGJ ?_;clear hK K;intro hb1 kb1 hz1 hHeld;refine zv ?_;refine hTs 10 ?_;refine hTs 11 ?_;refine hTs 12 ?_;obtain ⟨C,t,d1,d2⟩:=kb1.c3;obtain ⟨f0,f1,f2⟩:=kb1.f3;refine zy 14 (fun K hK=>?_);go_simp;have hb3:BelowL w0 _:=((hb1.set (a:=(↑w0:Addr)) (Nat.le_refl w0) ↑((xH x y z).1).W).set (a:=(↑(w0,1):Addr)) (Nat.le_refl w0) ↑((xH x y z).1).H).set (a:=(↑(w0,2):Addr)) (Nat.le_refl w0) (.slice a1 n1 k1);refine Xy ?_;clear hK K;intro hHeld;refine zv ?_;refine zO 15 ?_;refine Xz ?_;go_wp2_with fail;go_meet;exact zJo
 obtain ⟨⟨A,j,m,l,rfl,kb,hgb,ho,hbd,hnc,hb⟩,rfl⟩:=hcut;refine zGI ?_;intro HQ HQB HBc KB HWc KAc KRc HGB HNC;clear ho hbd hb kb l0 c0 c1 c2 c3 c4 c5 c6 hgb hnc q0 q1 q2;refine zAS ?_;intro l0 c0 c1 c2 c3 c4 c5 c6 k0' q0 q1 q2 hin1 hz0;go_wp2_with fail;refine (show Calls prog _ _ _ (ModOut _ B D (wL ((xH x y z).1) ((xH x y z).2) D.dat)) from Kk D ⟨((xH x y z).1).W,((xH x y z).1).H,j,m,l,((xH x y z).1).ink⟩ ((xH x y z).2) wc B hin1 (HQ.Z.mono (og HIN.Z.base)) (fun b hb h=>by have:=HDB.Z b (.inr (.inl h));have h9:=(HQB.Z b hb).1;omega) HNC.Z).mono ?_;refine zAR ?_;intro v9 E9 HO9 HD9 HS9 HK9 KA9 KR9 r0 x0 x1 x2 x3 x4 x5 x6 f0 f1 f2 f3 f4 f5 f6;clear c0 c1 c2 c3 c4 c5 c6 q0 q1 q2;obtain ⟨_,c0,c1,c2,c3,c4,c5,c6⟩:=KA9.Z.c7;go_wp2_with fail;refine bodyPost_ret (v:= .tuple #[E9.val, .string ⟨(wL ((xH x y z).1) ((xH x y z).2) D.dat).2.toArray⟩]) (by simp [results,results23,go_sem,Dsk.val,x0,x1,x2,x3,x4,x5,x6]) rfl ⟨E9,by first | rfl | rw [c.Z],?_,by first | exact HD9.Z | (rw [c.Z];exact HD9.Z),HS9.Z,?_⟩;exact vB;exact yt6
set_option maxRecDepth 100000 in
theorem zKG (D:Dsk) (x:Int) (y:Int) (g:Option Addr) (j:Nat) (w:World) (B:Nat) (hin:ModIn w B D) (hr:Rd w g [x,y]):
 Calls prog 23 #[D.val, .string ⟨#[114,97,109,112]⟩, .slice g 2 j] w (ModOut w B D (jP ((xP x y).1) D.dat)):=by
 refine Jv ?_;intro HIN b off hae hbl hbc;subst hae;refine zOy ?_;intro q0 q1;clear hin hr hbc;refine ym1 ?_;intro w0 hw0 KA KR HB0 HZ0 HDB;show Calls prog 23 #[.agg ↑D, .string ⟨#[114,97,109,112]⟩, .slice (some ↑(b,off)) 2 j] w _;go_in;go_upto_region 1 with fail;refine ym3 ?_;clear hw0;intro l0 c0 c1 c2 c3 c4 c5 c6;have f:Hd (jP ((xP x y).1) D.dat=wL ((xP x y).1) ((xP x y).2) D.dat):=Jh (zBC (zNy x y) D.dat).symm;go_upto_region 5 with fail
 go_cut [10,11] (fun q s t=>VK w0 t 31 ((xP x y).1).W ((xP x y).1).H ((xP x y).1).ink q/\s= .bool ((xP x y).2))
 case first=>
  refine zQt ?_;intro MK hHeld;refine wpAnyH_ready (rs:=[6,10]) zK sI ?_;refine AllReadyH.cons rfl (fun K hK=>?_) (AllReadyH.cons rfl (fun K hK=>?_) AllReadyH.nil)
  . go_simp
    go_at_call 60
    ((refine (XB x y _).mono ?_);rintro e v1 ⟨a1,n1,k1,rfl,ho1,hn1,hq1⟩)
    refine zGK ?_;clear hK K;intro hb1 hHeld;refine zv ?_;refine hTs 7 ?_;refine hTs 8 ?_;refine hTs 9 ?_;refine zy 10 (fun K hK=>?_);go_simp;have c:=BelowL.alloc hb1 (.cells ↑Zp 31);refine hK.out _ _ (Jd (MK.Z _ c)) (fun hHeld=>?_);clear hK K;refine zv ?_;refine zy 11 (fun K hK=>?_);go_simp;have hb3:=BelowL.alloc hb1 (.cells #[((xP x y).1).W,((xP x y).1).H, .slice a1 n1 k1] 31);refine Xy ?_;clear hK K;intro hHeld;refine zv ?_;refine zO 12 ?_;refine Xz ?_;go_wp2_with fail;go_meet;exact zJp
  refine zOv ?_;clear hK K;intro hb0 kb0 hHeld;refine zv ?_;refine zy 6 (fun K hK=>?_);go_simp
  go_at_call 60
  ((refine (XB x y _).mono ?_);rintro e v1 ⟨a1,n1,k1,rfl,ho1,hn1,hq1⟩)
  refine zGJ ?_;clear hK K;intro hb1 kb1 hz1 hHeld;refine zv ?_;refine hTs 7 ?_;refine hTs 8 ?_;refine hTs 9 ?_;obtain ⟨C,z,d1,d2⟩:=kb1.c3;obtain ⟨f0,f1,f2⟩:=kb1.f3;refine zy 11 (fun K hK=>?_);go_simp;have hb3:BelowL w0 _:=((hb1.set (a:=(↑w0:Addr)) (Nat.le_refl w0) ↑((xP x y).1).W).set (a:=(↑(w0,1):Addr)) (Nat.le_refl w0) ↑((xP x y).1).H).set (a:=(↑(w0,2):Addr)) (Nat.le_refl w0) (.slice a1 n1 k1);refine Xy ?_;clear hK K;intro hHeld;refine zv ?_;refine zO 12 ?_;refine Xz ?_;go_wp2_with fail;go_meet;exact zJo
 obtain ⟨⟨A,l,n,m,rfl,kb,hgb,ho,hbd,hnc,hb⟩,rfl⟩:=hcut;refine zGI ?_;intro HQ HQB HBc KB HWc KAc KRc HGB HNC;clear ho hbd hb kb l0 c0 c1 c2 c3 c4 c5 c6 hgb hnc q0 q1;refine zAS ?_;intro l0 c0 c1 c2 c3 c4 c5 c6 k0' q0 q1 q2 hin1 hz0;go_wp2_with fail;refine (show Calls prog _ _ _ (ModOut _ B D (wL ((xP x y).1) ((xP x y).2) D.dat)) from Kk D ⟨((xP x y).1).W,((xP x y).1).H,l,n,m,((xP x y).1).ink⟩ ((xP x y).2) wc B hin1 (HQ.Z.mono (og HIN.Z.base)) (fun b hb h=>by have:=HDB.Z b (.inr (.inl h));have h9:=(HQB.Z b hb).1;omega) HNC.Z).mono ?_;refine zAR ?_;intro v9 E9 HO9 HD9 HS9 HK9 KA9 KR9 r0 x0 x1 x2 x3 x4 x5 x6 f0 f1 f2 f3 f4 f5 f6;clear c0 c1 c2 c3 c4 c5 c6 q0 q1 q2;obtain ⟨_,c0,c1,c2,c3,c4,c5,c6⟩:=KA9.Z.c7;go_wp2_with fail;refine bodyPost_ret (v:= .tuple #[E9.val, .string ⟨(wL ((xP x y).1) ((xP x y).2) D.dat).2.toArray⟩]) (by simp [results,results23,go_sem,Dsk.val,x0,x1,x2,x3,x4,x5,x6]) rfl ⟨E9,by first | rfl | rw [f.Z],?_,by first | exact HD9.Z | (rw [f.Z];exact HD9.Z),HS9.Z,?_⟩;exact vB;exact yt6
set_option maxRecDepth 100000 in
theorem zIN (D:Dsk) (x:Int) (l:Option Addr) (m:Nat) (w:World) (B:Nat) (hin:ModIn w B D) (hr:Rd w l [x]):
 Calls prog 23 #[D.val, .string ⟨#[98,97,121,101,114]⟩, .slice l 1 m] w (ModOut w B D (xC (fun _=>mp ((xE x).1)) D.dat)):=by
 refine Jv ?_;intro HIN b off hae hbl hbc;subst hae;have q0:=hbc 0 sI;rw [show [x].getD 0 0=x from rfl,Yy] at q0;clear hin hr hbc;refine ym1 ?_;intro w0 hw0 KA KR HB0 HZ0 HDB;show Calls prog 23 #[.agg ↑D, .string ⟨#[98,97,121,101,114]⟩, .slice (some ↑(b,off)) 1 m] w _;go_in;go_upto_region 1 with fail;refine ym3 ?_;clear hw0;intro l0 c0 c1 c2 c3 c4 c5 c6;have j:Hd (xC (fun _=>mp ((xE x).1)) D.dat=kB (mp ((xE x).1)) ((xE x).2) D.dat):=Jh (uR (f:=fun _=>mp ((xE x).1)) (d:=D.dat) (p:=mp ((xE x).1)) rfl (zJz x)).symm;have o:=(HB0.Z.cell hbl).trans q0;clear c0 c1 c2 c3 c4 c5 c6 q0;go_wp2_with fail;refine (zAO x _).mono ?_;rintro e w1 ⟨a,g,c,rfl,ho,hnc,hb⟩;obtain ⟨wc,hwc⟩:=zN (w1.alloc (.cells #[((xE x).1).W,((xE x).1).H, .slice a g c] 32):World);have KB:Hd (Blk wc w1 32 #[((xE x).1).W,((xE x).1).H, .slice a g c]):=Jh (by rw [hwc];exact Blk.new _ _ _);have n:Hd (OwnA wc w0 a g c ((xE x).1).ranks):=Jh (by rw [hwc];exact ho.alloc _);refine zRM ?_;intro HQB HBc HWc KAc KRc HNC;clear ho hb hnc l0 o;go_upto_region 9 with fail;rw [<-hwc];clear hwc;refine zAS ?_;intro l0 c0 c1 c2 c3 c4 c5 c6 k0' q0 q1 q2 hin1 hz0;go_wp2_with fail;refine (show Calls prog _ _ _ (ModOut _ B D (kB (mp ((xE x).1)) ((xE x).2) D.dat)) from jj D ⟨((xE x).1).W,((xE x).1).H,a,g,c,((xE x).1).ranks⟩ ((xE x).2) wc B hin1 (n.Z.mono (og HIN.Z.base)) (fun b hb h=>by have:=HDB.Z b h;have q:=(HQB.Z b hb).1;omega) HNC.Z).mono ?_;refine zAR ?_;intro v9 E9 HO9 HD9 HS9 HK9 KA9 KR9 r0 x0 x1 x2 x3 x4 x5 x6 f0 f1 f2 f3 f4 f5 f6;clear c0 c1 c2 c3 c4 c5 c6 q0 q1 q2;obtain ⟨_,c0,c1,c2,c3,c4,c5,c6⟩:=KA9.Z.c7;go_wp2_with fail;refine bodyPost_ret (v:= .tuple #[E9.val, .string ⟨(kB (mp ((xE x).1)) ((xE x).2) D.dat).2.toArray⟩]) (by simp [results,results23,go_sem,Dsk.val,x0,x1,x2,x3,x4,x5,x6]) rfl ⟨E9,by first | rfl | rw [j.Z],?_,by first | exact HD9.Z | (rw [j.Z];exact HD9.Z),HS9.Z,?_⟩;exact vB;exact yt6
set_option maxRecDepth 100000 in
theorem zGR (D:Dsk) (x:Int) (l:Option Addr) (m:Nat) (w:World) (B:Nat) (hin:ModIn w B D) (hr:Rd w l [x]):
 Calls prog 23 #[D.val, .string ⟨#[115,112,105,114,97,108]⟩, .slice l 1 m] w (ModOut w B D (xC (fun _=>mp ((yu x).1)) D.dat)):=by
 refine Jv ?_;intro HIN b off hae hbl hbc;subst hae;have q0:=hbc 0 sI;rw [show [x].getD 0 0=x from rfl,Yy] at q0;clear hin hr hbc;refine ym1 ?_;intro w0 hw0 KA KR HB0 HZ0 HDB;show Calls prog 23 #[.agg ↑D, .string ⟨#[115,112,105,114,97,108]⟩, .slice (some ↑(b,off)) 1 m] w _;go_in;go_upto_region 1 with fail;refine ym3 ?_;clear hw0;intro l0 c0 c1 c2 c3 c4 c5 c6;have j:Hd (xC (fun _=>mp ((yu x).1)) D.dat=kB (mp ((yu x).1)) ((yu x).2) D.dat):=Jh (uR (f:=fun _=>mp ((yu x).1)) (d:=D.dat) (p:=mp ((yu x).1)) rfl (zJR x)).symm;have o:=(HB0.Z.cell hbl).trans q0;clear c0 c1 c2 c3 c4 c5 c6 q0;go_wp2_with fail;refine (Uq x _).mono ?_;rintro e w1 ⟨a,g,c,rfl,ho,hnc,hb⟩;obtain ⟨wc,hwc⟩:=zN (w1.alloc (.cells #[((yu x).1).W,((yu x).1).H, .slice a g c] 32):World);have KB:Hd (Blk wc w1 32 #[((yu x).1).W,((yu x).1).H, .slice a g c]):=Jh (by rw [hwc];exact Blk.new _ _ _);have n:Hd (OwnA wc w0 a g c ((yu x).1).ranks):=Jh (by rw [hwc];exact ho.alloc _);refine zRM ?_;intro HQB HBc HWc KAc KRc HNC;clear ho hb hnc l0 o;go_upto_region 12 with fail;rw [<-hwc];clear hwc;refine zAS ?_;intro l0 c0 c1 c2 c3 c4 c5 c6 k0' q0 q1 q2 hin1 hz0;go_wp2_with fail;refine (show Calls prog _ _ _ (ModOut _ B D (kB (mp ((yu x).1)) ((yu x).2) D.dat)) from jj D ⟨((yu x).1).W,((yu x).1).H,a,g,c,((yu x).1).ranks⟩ ((yu x).2) wc B hin1 (n.Z.mono (og HIN.Z.base)) (fun b hb h=>by have:=HDB.Z b h;have q:=(HQB.Z b hb).1;omega) HNC.Z).mono ?_;refine zAR ?_;intro v9 E9 HO9 HD9 HS9 HK9 KA9 KR9 r0 x0 x1 x2 x3 x4 x5 x6 f0 f1 f2 f3 f4 f5 f6;clear c0 c1 c2 c3 c4 c5 c6 q0 q1 q2;obtain ⟨_,c0,c1,c2,c3,c4,c5,c6⟩:=KA9.Z.c7;go_wp2_with fail;refine bodyPost_ret (v:= .tuple #[E9.val, .string ⟨(kB (mp ((yu x).1)) ((yu x).2) D.dat).2.toArray⟩]) (by simp [results,results23,go_sem,Dsk.val,x0,x1,x2,x3,x4,x5,x6]) rfl ⟨E9,by first | rfl | rw [j.Z],?_,by first | exact HD9.Z | (rw [j.Z];exact HD9.Z),HS9.Z,?_⟩;exact vB;exact yt6
set_option maxRecDepth 100000 in
theorem zKI (D:Dsk) (x:Int) (y:Int) (j:Option Addr) (l:Nat) (w:World) (B:Nat) (hin:ModIn w B D) (hr:Rd w j [x,y]):
 Calls prog 23 #[D.val, .string ⟨#[115,112,111,116]⟩, .slice j 2 l] w (ModOut w B D (xC (fun _=>mp ((xp x y).1)) D.dat)):=by
 refine Jv ?_;intro HIN b off hae hbl hbc;subst hae;refine zOy ?_;intro q0 q1;clear hin hr hbc;refine ym1 ?_;intro w0 hw0 KA KR HB0 HZ0 HDB;show Calls prog 23 #[.agg ↑D, .string ⟨#[115,112,111,116]⟩, .slice (some ↑(b,off)) 2 l] w _;go_in;go_upto_region 1 with fail;refine ym3 ?_;clear hw0;intro l0 c0 c1 c2 c3 c4 c5 c6;have g:Hd (xC (fun _=>mp ((xp x y).1)) D.dat=kB (mp ((xp x y).1)) ((xp x y).2) D.dat):=Jh (uR (f:=fun _=>mp ((xp x y).1)) (d:=D.dat) (p:=mp ((xp x y).1)) rfl (zOX x y)).symm;go_upto_region 14 with fail
 go_cut [16,17] (fun s t z=>VK w0 z 32 ((xp x y).1).W ((xp x y).1).H ((xp x y).1).ranks s/\t= .bool ((xp x y).2))
 case first=>
  refine zQt ?_;intro MK hHeld;refine hTs 6 ?_;refine wpAnyH_ready (rs:=[7,11]) zK sI ?_;refine AllReadyH.cons rfl (fun K hK=>?_) (AllReadyH.cons rfl (fun K hK=>?_) AllReadyH.nil)
  . go_simp
    go_at_call 63
    ((refine (zBd x y _).mono ?_);rintro e v1 ⟨a1,n1,k1,rfl,ho1,hn1,hq1⟩)
    refine zGK ?_;clear hK K;intro hb1 hHeld;refine zv ?_;refine hTs 8 ?_;refine hTs 9 ?_;refine hTs 10 ?_;refine zy 11 (fun K hK=>?_);go_simp;have c:=BelowL.alloc hb1 (.cells ↑Zp 32);refine hK.out _ _ (Jd (MK.Z _ c)) (fun hHeld=>?_);clear hK K;refine zv ?_;refine zy 12 (fun K hK=>?_);go_simp;have hb3:=BelowL.alloc hb1 (.cells #[((xp x y).1).W,((xp x y).1).H, .slice a1 n1 k1] 32);refine Xy ?_;clear hK K;intro hHeld;refine zv ?_;refine zO 13 ?_;refine Xz ?_;go_wp2_with fail;go_meet;exact zJp
  refine zQy ?_;intro hb0 kb0 hHeld;clear hK K;refine zv ?_;refine zy 7 (fun K hK=>?_);go_simp
  go_at_call 63
  ((refine (zBd x y _).mono ?_);rintro e v1 ⟨a1,n1,k1,rfl,ho1,hn1,hq1⟩)
  refine zGJ ?_;clear hK K;intro hb1 kb1 hz1 hHeld;refine zv ?_;refine hTs 8 ?_;refine hTs 9 ?_;refine hTs 10 ?_;obtain ⟨E,A,d1,d2⟩:=kb1.c3;obtain ⟨f0,f1,f2⟩:=kb1.f3;refine zy 12 (fun K hK=>?_);go_simp;have hb3:BelowL w0 _:=((hb1.set (a:=(↑w0:Addr)) (Nat.le_refl w0) ↑((xp x y).1).W).set (a:=(↑(w0,1):Addr)) (Nat.le_refl w0) ↑((xp x y).1).H).set (a:=(↑(w0,2):Addr)) (Nat.le_refl w0) (.slice a1 n1 k1);refine Xy ?_;clear hK K;intro hHeld;refine zv ?_;refine zO 13 ?_;refine Xz ?_;go_wp2_with fail;go_meet;exact zJo
 obtain ⟨⟨C,m,q,n,rfl,kb,hgb,ho,hbd,hnc,hb⟩,rfl⟩:=hcut;refine zGI ?_;intro HQ HQB HBc KB HWc KAc KRc HGB HNC;clear ho hbd hb kb l0 c0 c1 c2 c3 c4 c5 c6 hgb hnc q0 q1;refine zAS ?_;intro l0 c0 c1 c2 c3 c4 c5 c6 k0' q0 q1 q2 hin1 hz0;go_wp2_with fail;refine (show Calls prog _ _ _ (ModOut _ B D (kB (mp ((xp x y).1)) ((xp x y).2) D.dat)) from jj D ⟨((xp x y).1).W,((xp x y).1).H,m,q,n,((xp x y).1).ranks⟩ ((xp x y).2) wc B hin1 (HQ.Z.mono (og HIN.Z.base)) (fun b hb h=>by have:=HDB.Z b h;have h9:=(HQB.Z b hb).1;omega) HNC.Z).mono ?_;refine zAR ?_;intro v9 E9 HO9 HD9 HS9 HK9 KA9 KR9 r0 x0 x1 x2 x3 x4 x5 x6 f0 f1 f2 f3 f4 f5 f6;clear c0 c1 c2 c3 c4 c5 c6 q0 q1 q2;obtain ⟨_,c0,c1,c2,c3,c4,c5,c6⟩:=KA9.Z.c7;go_wp2_with fail;refine bodyPost_ret (v:= .tuple #[E9.val, .string ⟨(kB (mp ((xp x y).1)) ((xp x y).2) D.dat).2.toArray⟩]) (by simp [results,results23,go_sem,Dsk.val,x0,x1,x2,x3,x4,x5,x6]) rfl ⟨E9,by first | rfl | rw [g.Z],?_,by first | exact HD9.Z | (rw [g.Z];exact HD9.Z),HS9.Z,?_⟩;exact vB;exact yt6
set_option maxRecDepth 100000 in
theorem zIP (D:Dsk) (x:Int) (y:Int) (J:Option Addr) (L:Nat) (w:World) (B:Nat) (hin:ModIn w B D) (hr:Rd w J [x,y]):
 Calls prog 23 #[D.val, .string ⟨#[115,104,105,102,116]⟩, .slice J 2 L] w (ModOut w B D (xC (shT x y) D.dat)):=by
 refine Jv ?_;intro HIN b off hae hbl hbc;subst hae;refine zOy ?_;intro q0 q1;clear hin hr hbc;refine ym1 ?_;intro w0 hw0 KA KR HB0 HZ0 HDB;show Calls prog 23 #[.agg ↑D, .string ⟨#[115,104,105,102,116]⟩, .slice (some ⟨b,off,none⟩) 2 L] w _;go_in;go_upto_region 1 with fail;refine ym3 ?_;clear hw0;intro l0 c0 c1 c2 c3 c4 c5 c6;have O:Hd (zq D.M.W D.M.H D.M.ink=true):=Jh ((jJ _).1 HIN.Z.ok).m;go_upto_region 17 with fail
 go_cut [18] (fun P Q=>VK w0 Q 32 (xb D.M.W D.M.H D.M.ink x y).W (xb D.M.W D.M.H D.M.ink x y).H (xb D.M.W D.M.H D.M.ink x y).ranks P)
 case first=>
  have MK:Hd (∀v,BelowL w0 v->v.cell? ⟨b,off,none⟩=some ↑x/\v.cell? ⟨b,off+1,none⟩=some ↑y/\Jc v (w,3) D.M.W/\Jc v (w,4) D.M.H/\Jc v (w,5) (.slice D.M.a D.M.n D.M.c)/\BelowL w0 v):=Jh (fun v h=>⟨(h.Z.cell (Yb hbl HB0.Z.size)).trans ((HB0.Z.cell hbl).trans q0),(h.Z.cell (Yb hbl HB0.Z.size)).trans ((HB0.Z.cell hbl).trans q1),(h.Z.cell l0).trans c3,(h.Z.cell l0).trans c4,(h.Z.cell l0).trans c5,h⟩);refine wp_region_held_drew (S:=fun v=>v.cell? ⟨b,off,none⟩=some ↑x/\v.cell? ⟨b,off+1,none⟩=some ↑y/\Jc v (w,3) D.M.W/\Jc v (w,4) D.M.H/\Jc v (w,5) (.slice D.M.a D.M.n D.M.c)/\BelowL w0 v) zK (MK.Z _ lS) ?_;intro hHeld;refine zOx ?_;refine hTs 6 ?_;refine hTs 7 ?_;refine wpAnyH_ready (rs:=[8,9]) zK sI ?_;refine AllReadyH.cons rfl (fun K hK=>?_) (AllReadyH.cons rfl (fun K hK=>?_) AllReadyH.nil)
  . go_simp
    go_at_call 64
    ((refine (XC D.M.W D.M.H D.M.a D.M.n D.M.c D.M.ink x y _ HIN.Z.own.m.len ((HIN.Z.own.m.rd.below HB0.Z).below (BelowL.start w0).Z) (og HIN.Z.small.m)).mono ?_);rintro e v1 ⟨a1,n1,k1,rfl,j,s,hq1⟩)
    refine zGK ?_;clear hK K;intro hb1 hHeld;refine zv ?_;refine zy 9 (fun K hK=>?_);go_simp;have E:=BelowL.alloc hb1 (.cells ↑Zp 32);refine hK.out _ _ (Jd (MK.Z _ E)) (fun hHeld=>?_);clear hK K;refine zv ?_;refine zy 10 (fun K hK=>?_);go_simp;have hb3:=BelowL.alloc hb1 (.cells #[(xb D.M.W D.M.H D.M.ink x y).W,(xb D.M.W D.M.H D.M.ink x y).H, .slice a1 n1 k1] 32);refine Xy ?_;clear hK K;intro hHeld;refine Xz ?_;go_wp2_with fail;go_meet;exact ⟨v1.heap.size,a1,n1,k1,rfl,Blk.new _ _ _,hb1.le,(j.alloc _).mono nI,fun b hb=>by (have A:w0.heap.size<=b/\b<v1.heap.size:=j.bd b hb);(simp;omega),s,hb3.Z⟩
  refine zQy ?_;intro hb0 kb0 hHeld;clear hK K;refine zv ?_;refine zy 8 (fun K hK=>?_);go_simp
  go_at_call 64
  ((refine (XC D.M.W D.M.H D.M.a D.M.n D.M.c D.M.ink x y _ HIN.Z.own.m.len ((HIN.Z.own.m.rd.below HB0.Z).below hb0.Z) (og HIN.Z.small.m)).mono ?_);rintro e v1 ⟨a1,n1,k1,rfl,j,s,hq1⟩)
  refine zGJ ?_;clear hK K;intro hb1 kb1 hz1 hHeld;refine zv ?_;obtain ⟨X,T,d1,d2⟩:=kb1.c3;obtain ⟨f0,f1,f2⟩:=kb1.f3;refine zy 10 (fun K hK=>?_);go_simp;have hb3:BelowL w0 _:=((hb1.set (a:=(↑w0:Addr)) (Nat.le_refl w0) ↑(xb D.M.W D.M.H D.M.ink x y).W).set (a:=(↑(w0,1):Addr)) (Nat.le_refl w0) ↑(xb D.M.W D.M.H D.M.ink x y).H).set (a:=(↑(w0,2):Addr)) (Nat.le_refl w0) (.slice a1 n1 k1);refine Xy ?_;clear hK K;intro hHeld;refine Xz ?_;go_wp2_with fail;go_meet;have l: ∀b,zL a1=some b->w0.heap.size+1<=b/\b<v1.heap.size:=fun b hb=>by have A:=j.bd b hb;simpa using A
  exact ⟨w0.heap.size,a1,n1,k1,rfl,kb1.put3 _ _ _,nI,OwnA.mono (((j.zF (fun e=>by have:=l _ e;simp at this;omega) _).zF (fun e=>by have:=l _ e;simp at this;omega) _).zF (fun e=>by have:=l _ e;simp at this;omega) _) sI,fun b hb=>by (have A:=l b hb);(simp;omega),s,hb3.Z⟩
 obtain ⟨U,F,N,I,rfl,kb,hgb,ho,hbd,hnc,hb⟩:=hcut;refine zGI ?_;intro HQ HQB HBc KB HWc KAc KRc HGB HNC;clear ho hbd hb kb l0 c0 c1 c2 c3 c4 c5 c6 hgb hnc q0 q1;have C:=Jh (zMC O.Z x y);obtain ⟨g,q⟩: ∃Z,xb D.M.W D.M.H D.M.ink x y=Z:=⟨_,rfl⟩
 have z:=Jh q;rw [q] at HQ KB C;clear q;by_cases V:0<g.W
 . have t:Hd (xC (shT x y) D.dat=kB (mp g) true D.dat):=Jh (uR (f:=shT x y) (d:=D.dat) (p:=mp g) (by show shT x y D.M.pic=_;unfold shT;rw [show xb D.M.pic.W D.M.pic.H D.M.pic.ink x y=g from z.Z];rfl) (C.Z.trans sO)).symm
   refine zAS ?_;intro l0 c0 c1 c2 c3 c4 c5 c6 k0' q0 q1 q2 hin1 hz0;go_wp2_with fail;refine (show Calls prog _ _ _ (ModOut _ B D (kB (mp g) true D.dat)) from jj D ⟨(g).W,(g).H,F,N,I,(g).ranks⟩ (true) wc B hin1 (HQ.Z.mono (og HIN.Z.base)) (fun b hb h=>by have:=HDB.Z b h;have A:=(HQB.Z b hb).1;omega) HNC.Z).mono ?_;refine zAR ?_;intro v9 E9 HO9 HD9 HS9 HK9 KA9 KR9 r0 x0 x1 x2 x3 x4 x5 x6 f0 f1 f2 f3 f4 f5 f6;clear c0 c1 c2 c3 c4 c5 c6 q0 q1 q2;obtain ⟨_,c0,c1,c2,c3,c4,c5,c6⟩:=KA9.Z.c7;go_wp2_with fail;refine bodyPost_ret (v:= .tuple #[E9.val, .string ⟨(kB (mp g) true D.dat).2.toArray⟩]) (by simp [results,results23,go_sem,Dsk.val,x0,x1,x2,x3,x4,x5,x6]) rfl ⟨E9,by first | rfl | rw [t.Z],?_,by first | exact HD9.Z | (rw [t.Z];exact HD9.Z),HS9.Z,?_⟩;exact vB;exact yt6
 have t:Hd (xC (shT x y) D.dat=kB (mp g) false D.dat):=Jh (uR (f:=shT x y) (d:=D.dat) (p:=mp g) (by show shT x y D.M.pic=_;unfold shT;rw [show xb D.M.pic.W D.M.pic.H D.M.pic.ink x y=g from z.Z];rfl) (C.Z.trans sO)).symm;refine zAS ?_;intro l0 c0 c1 c2 c3 c4 c5 c6 k0' q0 q1 q2 hin1 hz0;go_wp2_with fail;refine (show Calls prog _ _ _ (ModOut _ B D (kB (mp g) false D.dat)) from jj D ⟨(g).W,(g).H,F,N,I,(g).ranks⟩ (false) wc B hin1 (HQ.Z.mono (og HIN.Z.base)) (fun b hb h=>by have:=HDB.Z b h;have A:=(HQB.Z b hb).1;omega) HNC.Z).mono ?_;refine zAR ?_;intro v9 E9 HO9 HD9 HS9 HK9 KA9 KR9 r0 x0 x1 x2 x3 x4 x5 x6 f0 f1 f2 f3 f4 f5 f6;clear c0 c1 c2 c3 c4 c5 c6 q0 q1 q2;obtain ⟨_,c0,c1,c2,c3,c4,c5,c6⟩:=KA9.Z.c7;go_wp2_with fail;refine bodyPost_ret (v:= .tuple #[E9.val, .string ⟨(kB (mp g) false D.dat).2.toArray⟩]) (by simp [results,results23,go_sem,Dsk.val,x0,x1,x2,x3,x4,x5,x6]) rfl ⟨E9,by first | rfl | rw [t.Z],?_,by first | exact HD9.Z | (rw [t.Z];exact HD9.Z),HS9.Z,?_⟩;exact vB;exact yt6
set_option maxRecDepth 100000 in
theorem zIO (D:Dsk) (x:Int) (na:Option Addr) (nc:Nat) (w:World) (B:Nat) (hin:ModIn w B D) (hr:Rd w na [x]):
 Calls prog 23 #[D.val, .string ⟨#[108,101,118,101,108]⟩, .slice na 1 nc] w (ModOut w B D (vJ x D.dat)):=by
 refine Jv ?_;intro HIN b off hae hbl hbc;subst hae;have X:=hbc 0 sI;rw [show [x].getD 0 0=x from rfl,Yy] at X;clear hin hr hbc;refine ym1 ?_;intro w0 hw0 KA KR HB0 HZ0 HDB;show Calls prog 23 #[.agg ↑D, .string ⟨#[108,101,118,101,108]⟩, .slice (some ↑(b,off)) 1 nc] w _;go_in;go_upto_region 1 with fail;refine ym3 ?_;clear hw0;intro l0 c0 c1 c2 c3 c4 c5 c6;go_upto_region 22 with fail;have Q:Hd (∀v,Below w0 w0 v->Jc v (b,off) x/\JC v w D):=Jh (fun v h=>⟨(h.cell (Yb hbl HB0.Z.size)).trans ((HB0.Z.cell hbl).trans X),(h.cell l0).trans c0,(h.cell l0).trans c1,(h.cell l0).trans c2,(h.cell l0).trans c3,(h.cell l0).trans c4,(h.cell l0).trans c5,(h.cell l0).trans c6⟩);obtain ⟨V,A⟩: ∃V,kV D.M.W D.M.H D.M.ink x=V:=⟨_,rfl⟩
 have hf:=YW D.M.W D.M.H D.M.ink x;rw [A] at hf;obtain ⟨b0,b1⟩:=hf
 have E:Hd (∀c,(if V<0 then vq else xI [V])=c->vJ x D.dat=(D.dat,c)):=Jh (fun c hc=>by
  unfold vJ
  rw [show D.dat.2.1.W=D.M.W from rfl,show D.dat.2.1.H=D.M.H from rfl,show D.dat.2.1.ink=D.M.ink from rfl,A,hc])
 have CL:Hd (∀v,Below w0 w0 v->Calls prog 66 #[.agg #[D.M.W,D.M.H, .slice D.M.a D.M.n D.M.c],x] v (zR (.int .i64 V) v)):=Jh (fun v hv=>by
  rw [<-A]
  exact zFl D.M.W D.M.H D.M.a D.M.n D.M.c D.M.ink x v HIN.Z.own.m.len ((HIN.Z.own.m.rd.below HB0.Z).below hv) (og HIN.Z.small.m))
 clear A;refine zh 6 Q zK (Q.Z _ bR.drew) ?_;intro f;clear c0 c1 c2 c3 c4 c5 c6 X;refine Xx ?_;refine tTs 3 ?_;refine tTs 4 ?_;refine zW 5 (fun K hK=>?_);go_simp
 ((refine (CL.Z _ bR.drew).mono ?_);rintro e z ⟨rfl,T⟩)
 have g:=Jh (Below.trans (Below.refl w0 w0).drew (T.mono nI));go_wp2_with fail;refine hK.out _ _ (fun _=>Jd (Q.Z _ g.Z)) (fun hHz=>?_);clear hK K f hHz;refine zJn ?_;(try go_simp);have k:Hd (Below w w z):=Jh (Below.trans HB0.Z (g.Z.mono HB0.Z.size));have P:=Jh (KA.Z.zA g.Z);have l:=Jh (KR.Z.zA g.Z);obtain ⟨l0,c0,c1,c2,c3,c4,c5,c6⟩:=P.Z.c7;obtain ⟨r0,C,F,I,J,L,N,O⟩:=l.Z.c7;obtain ⟨Y,f1,f2,f3,f4,f5,f6⟩:=l.Z.f7;have b2:=HZ0.Z;by_cases y:V<0
 . have s:=Jh (E.Z vq (if_pos y))
   go_wp2_with fail;refine bodyPost_ret (v:= .tuple #[D.val, .string ⟨#[110,111]⟩]) (by simp [results,results23,go_sem,Dsk.val,C,F,I,J,L,N,O]) rfl ⟨D,by rw [s.Z];rfl,?_,by rw [s.Z],HIN.Z.small,?_⟩
   with_reducible refine yG.set7 (HIN.Z.own.below k.Z) ?_ _ _ _ _ _ _ _
   exact (fun b hb e=>by have:=HDB.Z b hb;omega);exact KeepT.zE (zc k.Z om _ _ _ _ _ _ _)
 have s:=Jh (E.Z (xI [V]) (if_neg y));have q:Hd (∀v,Below z z v->(JC v w D:Prop)):=Jh (fun v h=>⟨(h.cell l0).trans c0,(h.cell l0).trans c1,(h.cell l0).trans c2,(h.cell l0).trans c3,(h.cell l0).trans c4,(h.cell l0).trans c5,(h.cell l0).trans c6⟩);go_upto_region 25 with fail;refine zh 3 q zK (q.Z _ bR.drew) ?_;intro f;clear c0 c1 c2 c3 c4 c5 c6 r0 C F I J L N O Y f1 f2 f3 f4 f5 f6;refine tTs 0 ?_;refine tTs 1 ?_;refine zW 2 (fun K hK=>?_);go_simp
 ((refine (jW V _ (by unfold yK;omega)).mono ?_);rintro e v2 ⟨rfl,U⟩)
 have j:=Jh (Below.trans (Below.refl z z).drew (U.mono nI));go_wp2_with fail;refine hK.out _ _ (fun _=>Jd (q.Z _ j.Z)) (fun hHz=>?_);clear hK K f hHz;have t:Hd (Below w w v2):=Jh (zI k.Z (j.Z.mono nI));have u:=Jh (l.Z.zA j.Z);obtain ⟨r0,C,F,I,J,L,N,O⟩:=u.Z.c7;obtain ⟨Y,f1,f2,f3,f4,f5,f6⟩:=u.Z.f7;refine zW 3 (fun K hK=>?_);refine ym14 ?_;clear hK K;refine zW 4 (fun K hK=>?_);refine ym14 ?_;clear hK K;refine zx zK ?_ _;(try go_simp);go_wp2_with fail;refine bodyPost_ret (v:= .tuple #[D.val, .string ⟨(Lib.itoa V).toArray⟩]) (by simp [results,results23,go_sem,Dsk.val,C,F,I,J,L,N,O]) rfl ⟨D,by rw [s.Z,qz],?_,by rw [s.Z],HIN.Z.small,?_⟩
 with_reducible refine yG.set7 (HIN.Z.own.below t.Z) ?_ _ _ _ _ _ _ _
 exact (fun b hb e=>by have:=HDB.Z b hb;omega);exact KeepT.zE (zc t.Z om _ _ _ _ _ _ _)
set_option maxRecDepth 100000 in
theorem zHK (D:Dsk) (x:Int) (y:Int) (z:Int) (na:Option Addr) (nc:Nat) (w:World) (B:Nat) (hin:ModIn w B D) (hr:Rd w na [x,y,z]):
 Calls prog 65 #[D.val, .slice na 3 nc] w (ModOut w B D (xC (fun _=>mp (kU x y z).1) D.dat)):=by
 refine Jv ?_;intro HIN b off hae hbl hbc;subst hae;refine zOw ?_;intro q0 q1 q2;clear hin hr hbc;refine ym1 ?_;intro w0 hw0 KA KR HB0 HZ0 HDB;show Calls prog 65 #[.agg ↑D, .slice (some ↑(b,off)) 3 nc] w _;go_in;go_upto_region 1 with fail;refine ym3 ?_;clear hw0;intro l0 c0 c1 c2 c3 c4 c5 c6
 go_cut [6,7] (fun s0 s1 wx=>VK w0 wx 31 ((yE x y z).1).W ((yE x y z).1).H ((yE x y z).1).ink s0/\s1= .bool ((yE x y z).2))
 case first=>
  refine zQr ?_;intro MK hHeld;refine AllReadyH.cons rfl (fun K hK=>?_) (AllReadyH.cons rfl (fun K hK=>?_) AllReadyH.nil)
  . go_simp
    go_at_call 108
    ((refine (Kj x y z _).mono ?_);rintro e v1 ⟨a1,n1,k1,rfl,ho1,hn1,hq1⟩)
    refine zGK ?_;clear hK K;intro hb1 hHeld;refine zRB ?_;intro hb2 hHeld K hK;have hb3:=BelowL.alloc hb1 (.cells #[((yE x y z).1).W,((yE x y z).1).H, .slice a1 n1 k1] 31);refine Xy ?_;clear hK K;intro hHeld;refine zv ?_;refine zO 15 ?_;refine Xz ?_;go_wp2_with fail;go_meet;exact zJp
  refine zOv ?_;clear hK K;intro hb0 kb0 hHeld;refine zv ?_;refine zy 9 (fun K hK=>?_);go_simp
  go_at_call 108
  ((refine (Kj x y z _).mono ?_);rintro e v1 ⟨a1,n1,k1,rfl,ho1,hn1,hq1⟩)
  refine zGJ ?_;clear hK K;intro hb1 kb1 hz1 hHeld;refine zv ?_;refine hTs 10 ?_;refine hTs 11 ?_;refine hTs 12 ?_;obtain ⟨m0,d0,d1,d2⟩:=kb1.c3;obtain ⟨f0,f1,f2⟩:=kb1.f3;refine zy 14 (fun K hK=>?_);go_simp;have hb3:BelowL w0 _:=((hb1.set (a:=(↑w0:Addr)) (Nat.le_refl w0) ↑((yE x y z).1).W).set (a:=(↑(w0,1):Addr)) (Nat.le_refl w0) ↑((yE x y z).1).H).set (a:=(↑(w0,2):Addr)) (Nat.le_refl w0) (.slice a1 n1 k1);refine Xy ?_;clear hK K;intro hHeld;refine zv ?_;refine zO 15 ?_;refine Xz ?_;go_wp2_with fail;go_meet;exact zJo
 obtain ⟨⟨n,aq,nq,cq,rfl,kb,hgb,ho,hbd,hnc,hb⟩,rfl⟩:=hcut;refine zGI ?_;intro HQ HQB HBc KB HWc KAc KRc HGB HNC;clear ho hbd hb kb l0 c0 c1 c2 c3 c4 c5 c6 hgb hnc q0 q1 q2;cases hok:(yE x y z).2 with
 | false=>
  have E1:Hd (xC (fun _=>mp (kU x y z).1) D.dat=(D.dat,vq)):=Jh (by
   have d6:kU x y z=(vQ,false):=by unfold kU;rw [hok];rfl
   rw [d6];rfl)
  obtain ⟨l0,c0,c1,c2,c3,c4,c5,c6⟩:=KAc.Z.c7;obtain ⟨r0,x0,x1,x2,x3,x4,x5,x6⟩:=KRc.Z.c7;obtain ⟨f0,f1,f2,f3,f4,f5,f6⟩:=KRc.Z.f7;have d7:=HZ0.Z;go_wp2_with fail;refine bodyPost_ret (v:= .tuple #[D.val, .string ⟨#[110,111]⟩]) (by simp [results,results65,go_sem,Dsk.val,x0,x1,x2,x3,x4,x5,x6]) rfl ⟨D,by rw [E1.Z];rfl,?_,by rw [E1.Z],HIN.Z.small,?_⟩
  with_reducible refine yG.set7 (HIN.Z.own.below HWc.Z) ?_ _ _ _ _ _ _ _
  exact (fun b hb e=>by have:=HDB.Z b hb;omega);exact KeepT.zE (zc HWc.Z om _ _ _ _ _ _ _)
 | true=>
  have HF:=Jh (zIU hok);have A:Hd (kU x y z=jO (jC (yE x y z).1.W (yE x y z).1.H (yE x y z).1.ink 64).1.W (jC (yE x y z).1.W (yE x y z).1.H (yE x y z).1.ink 64).1.H (jC (yE x y z).1.W (yE x y z).1.H (yE x y z).1.ink 64).1.ink):=Jh (by unfold kU;rw [hok];rfl);have I:=Jh (zAI hok);obtain ⟨c,b3⟩: ∃s,(yE x y z).1=s:=⟨_,rfl⟩
  rw [b3] at HF A I HQ KB;have P:=Jh (zEh (W:=c.W) (H:=c.H) (m:=64) I.Z)
  have O:Hd (zf (jC c.W c.H c.ink 64).1.W (jC c.W c.H c.ink 64).1.H (jC c.W c.H c.ink 64).1.ink=true):=Jh (by
   unfold jC;rw [if_pos ⟨HF.Z,dC,dC⟩]
   exact zIT _ HF.Z)
  obtain ⟨l,q0,q1,q2⟩:=KB.Z.c3;go_wp2_with fail
  have CE: ∀v:World,Rd v aq c.ink->Calls prog 109 #[.agg #[c.W,c.H, .slice aq nq cq], .int .i64 64] v (zHc v (jC c.W c.H c.ink 64)):=by
   obtain ⟨be,oe,e,_⟩:=HQ.Z.rd.at I.Z;have e2:aq=some ↑(be,oe):=e;have hl:=HQ.Z.len;intro v hv;rw [e2] at hv⊢;exact (zCQ c.W c.H be oe nq cq c.ink 64 v hl hv HNC.Z).mono (fun e w' h=>h.Z HNC.Z)
  have b4:=Jh CE;clear CE;refine (b4.Z _ HQ.Z.rd).mono ?_;rintro e w1 ⟨a1,n1,k1,rfl,ho1,hn1,hb⟩;obtain ⟨g,b0⟩: ∃s,(jC c.W c.H c.ink 64)=s:=⟨_,rfl⟩
  rw [b0] at A P O ho1⊢;have J:=Jh (KB.Z.zA hb);have T:=Jh ho1;have b6:=Jh (zI HBc.Z hb);clear l q0 q1 q2 hb ho1 b0 b3 hok;obtain ⟨l,q0,q1,q2⟩:=J.Z.c3;obtain ⟨f0,f1,f2⟩:=J.Z.f3;obtain ⟨w2,q⟩:=zN (((w1.setCell n ↑g.1.W).setCell (n,1) ↑g.1.H).setCell (n,2) (.slice a1 n1 k1))
  have b2:KeepT (fun i=>i=n) w1 w2:=by
   rw [q];exact KeepT.set (S:=fun i=>i=n) (KeepT.set (S:=fun i=>i=n) (KeepT.set (S:=fun i=>i=n) (KeepT.refl _ _) rfl _) rfl _) rfl _
  have hgb:=HGB.Z;have d8:=KB.Z.lt;have c8:Hd (Blk w2 n 31 #[g.1.W,g.1.H, .slice a1 n1 k1]):=Jh (by rw [q];exact J.Z.put3 _ _ _);have F:Hd (OwnA w2 wc a1 n1 k1 g.1.ink):=Jh (b2.ownA T.Z (fun b hb e=>by have:=(T.Z.bd b hb).1;omega));have N:Hd (Below w0 w0 w2):=Jh (by rw [q];exact ((b6.Z.setCell (by show w0.heap.size<=n;omega) _).setCell (by show w0.heap.size<=n;omega) _).setCell (by show w0.heap.size<=n;omega) _);go_upto_region 5 with fail;rw [<-q];clear q b2 l q0 q1 q2 f0 f1 f2;obtain ⟨l,q0,q1,q2⟩:=c8.Z.c3;go_wp2_with fail
  have CR: ∀v:World,Rd v a1 g.1.ink->Calls prog 110 #[.agg #[g.1.W,g.1.H, .slice a1 n1 k1]] v (kP v (jO g.1.W g.1.H g.1.ink)):=by
   obtain ⟨be,oe,e,_⟩:=F.Z.rd.at P.Z;have e2:a1=some ↑(be,oe):=e;have hl:=F.Z.len;intro v hv;rw [e2] at hv⊢;exact zCS g.1.W g.1.H be oe n1 k1 g.1.ink v hl hv hn1
  have b5:=Jh CR;clear CR;refine (b5.Z _ F.Z.rd).mono ?_;rintro e w3 ⟨a2,n2,k2,rfl,C,d5,hb⟩;obtain ⟨j,L⟩: ∃s,jO g.1.W g.1.H g.1.ink=s:=⟨_,rfl⟩
  have Q:Hd (zq j.1.W j.1.H j.1.ranks=true):=Jh (by rw [<-L];exact zNz O.Z);rw [L] at A C⊢;clear L
  have ER:Hd (xC (fun _=>mp (kU x y z).1) D.dat=kB (mp j.1) true D.dat):=Jh (by
   rw [A.Z]
   exact (uR (f:=fun _=>mp j.1) (d:=D.dat) (p:=mp j.1) rfl Q.Z).symm)
  obtain ⟨M,t⟩:=zN (w3.alloc (.cells #[j.1.W,j.1.H, .slice a2 n2 k2] 32));have d3:Hd (Blk M w3 32 #[j.1.W,j.1.H, .slice a2 n2 k2]):=Jh (by rw [t];exact Blk.new _ _ _);have b7:Hd (OwnA M w2 a2 n2 k2 j.1.ranks):=Jh (by rw [t];exact C.alloc _);have U:=Jh C.bd;have X:=Jh N.Z.size;have E:Hd (Below w0 w0 M):=Jh (by rw [t];exact zJ (zI N.Z hb) _);have V:Hd (Below w w M):=Jh (Below.trans HB0.Z (E.Z.mono HB0.Z.size));have Y:=Jh (KA.Z.zA E.Z);have d4:=Jh (KR.Z.zA E.Z);clear C hb l q0 q1 q2;go_upto_region 6 with fail;rw [<-t];clear t;obtain ⟨l0,c0,c1,c2,c3,c4,c5,c6⟩:=Y.Z.c7;obtain ⟨l,q0,q1,q2⟩:=d3.Z.c3;have b1:ModIn M B D:=HIN.Z.below V.Z;have d7:=HZ0.Z;go_wp2_with fail;refine (show Calls prog _ _ _ (ModOut _ B D (kB (mp j.1) true D.dat)) from jj D ⟨j.1.W,j.1.H,a2,n2,k2,j.1.ranks⟩ true M B b1 (b7.Z.mono (zB HIN.Z.base X.Z)) (fun b hb h=>by have:=HDB.Z b h;have h9:=(U.Z b hb).1;have:=X.Z;omega) d5).mono ?_;refine zCb ?_;intro v9 E9 ho9 hd9 hs9 hk9 HO9 HD9 HS9;have HK9:Hd (KeepT D.blocks w v9):=Jh ((KeepT.zE V.Z).trans hk9);have b8:Hd (Blk v9 w 35 ↑D):=Jh (hk9.blk (Y.Z) (fun h=>by have:=HDB.Z _ h;omega));have KR9:Hd (Blk v9 (w.heap.size+1) 35 ↑Zd):=Jh (hk9.blk (d4.Z) (fun h=>by have:=HDB.Z _ h;omega));clear ho9 hd9 hs9 hk9;refine UX ?_;intro r0 x0 x1 x2 x3 x4 x5 x6 f0 f1 f2 f3 f4 f5 f6;clear c0 c1 c2 c3 c4 c5 c6 q0 q1 q2;obtain ⟨_,c0,c1,c2,c3,c4,c5,c6⟩:=b8.Z.c7;go_wp2_with fail;refine bodyPost_ret (v:= .tuple #[E9.val, .string ⟨(kB (mp j.1) true D.dat).2.toArray⟩]) (by simp [results,results65,go_sem,Dsk.val,x0,x1,x2,x3,x4,x5,x6]) rfl ⟨E9,by first | rfl | rw [ER.Z],?_,by first | exact HD9.Z | (rw [ER.Z];exact HD9.Z),HS9.Z,?_⟩;exact vB;exact yt6
set_option maxRecDepth 100000 in
theorem zKH (D:Dsk) (x:Int) (y:Int) (z:Int) (g:Option Addr) (f:Nat) (w:World) (B:Nat) (hin:ModIn w B D) (hr:Rd w g [x,y,z]):
 Calls prog 23 #[D.val, .string ⟨#[114,97,110,107]⟩, .slice g 3 f] w (ModOut w B D (xC (fun _=>mp (kU x y z).1) D.dat)):=by
 refine Jv ?_;intro HIN b off hae hbl hbc;subst hae;refine zOw ?_;intro q0 q1 q2;clear hin hr hbc;refine ym1 ?_;intro w0 hw0 KA KR HB0 HZ0 HDB;show Calls prog 23 #[.agg ↑D, .string ⟨#[114,97,110,107]⟩, .slice (some ↑(b,off)) 3 f] w _;go_in;go_upto_region 1 with fail;refine ym3 ?_;clear hw0;intro l0 c0 c1 c2 c3 c4 c5 c6
 have a:Hd (Rd w (some ↑(b,off)) [x,y,z]):=Jh (fun j l=>by
  have c:j=0\/j=1\/j=2:=by simp at l;omega
  rcases c with rfl | rfl | rfl
  exact ⟨b,off,rfl,hbl,q0⟩;exact ⟨b,off,rfl,hbl,q1⟩
  exact ⟨b,off,rfl,hbl,q2⟩)
 clear q0 q1 q2;go_wp2_with fail;refine (zHK D x y z (some ↑(b,off)) f w0 B (HIN.Z.below HB0.Z) (a.Z.below HB0.Z)).mono ?_;refine ym5 ?_;intro v9 E9 HO9 HD9 HS9 HK9 KA9 KR9 r0 x0 x1 x2 x3 x4 x5 x6 f0 f1 f2 f3 f4 f5 f6;go_wp2_with fail;refine bodyPost_ret (v:= .tuple #[E9.val, .string ⟨(xC (fun _=>mp (kU x y z).1) D.dat).2.toArray⟩]) (by simp [results,results23,go_sem,Dsk.val,x0,x1,x2,x3,x4,x5,x6]) rfl ⟨E9,by first | rfl | rw [ER.Z],?_,by first | exact HD9.Z | (rw [ER.Z];exact HD9.Z),HS9.Z,?_⟩;exact vB;exact yt6
end Go.Proofs.YtlenfgdjdianiaaGreatDoor
