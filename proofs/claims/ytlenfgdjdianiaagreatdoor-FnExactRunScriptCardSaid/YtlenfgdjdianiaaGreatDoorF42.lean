/- Facts on which this claim rests, 42. -/
import Derived.Test.YtlenfgdjdianiaaGreatDoorF41
set_option linter.all false
set_option maxHeartbeats 6400000
namespace Go.Proofs.YtlenfgdjdianiaaGreatDoor
open Go.RowKit Tq Go.Proofs.Tryz
variable {B g : Nat} {cs : Array Value} {e : Ending} {w w' : World}
theorem yG.ne_desk {D:Dsk} (h:yG w B D) (k:Blk w g 35 cs): ∀b,D.blocks b->b≠g:=by
 rintro b hd rfl;have i:w.heap[b]? =some (.cells cs 35 (0,0)):=k
 have q: ∀a T,w.heap[b]? =some (.cells a T (0,0))->T=35:=by
  intro a T e;rw [i] at e;injection e with e
  injection e with e1 e2
  exact e2.symm
 rcases hd with hd | hd | hd | ⟨k,hk,hd⟩
 obtain ⟨c,e⟩:=qw h.p b hd;exact absurd (q _ _ e) dC;obtain ⟨c,e⟩:=qw h.m b hd;exact absurd (q _ _ e) dC;rcases h.s.row with ⟨f,_⟩ | ⟨g,f,_,a,e,_⟩
 rw [f] at hd;cases hd;rw [f] at hd;cases hd;exact absurd (q _ _ e) dC;obtain ⟨c,e⟩:=qw (h.s.ink k (by rw [<-h.s.len];exact hk)) b hd;exact absurd (q _ _ e) dC
theorem ModOut.congr {D:Dsk} {R a:Dat × List UInt8} (h:ModOut w B D R e w') (hr:R=a):ModOut w B D a e w':=by rw [<-hr];exact h
theorem qE (F:Dat->Pic->Dat × List UInt8) (s:ByteArray) (D:Dsk) (w:World) (B:Nat) (b:ModIn w B D)
 (h: ∀k r,D.n=k+1->D.a=some ⟨r,0,none⟩->Calls prog 52 #[D.val, .string s] w (ModOut w B D (F D.dat (pv D.ps k).pic))):
 Calls prog 52 #[D.val, .string s] w (ModOut w B D (yS F D.dat)):=by
 have hl:D.dat.2.2.length=D.n:=by show (zS D.ps).length=D.n;rw [xa];exact b.own.s.len
 by_cases c:D.n=0
 have e:yS F D.dat=(D.dat,KH):=by unfold yS;rw [if_pos (by rw [hl];exact c)]
 rw [e];exact zLB D s w B b c;obtain ⟨k,hk⟩: ∃k,D.n=k+1:=⟨D.n - 1,om⟩
 obtain ⟨r,hr⟩: ∃r,D.a=some ⟨r,0,none⟩:=by
  rcases b.own.s.row with ⟨_,e,_⟩ | ⟨g,e,_⟩
  omega;exact ⟨g,e⟩
 have e:yS F D.dat=F D.dat (pv D.ps k).pic:=by
  unfold yS;rw [if_neg (by rw [hl];exact c),hl,hk,Nat.add_sub_cancel];congr 1;have f:k<D.ps.length:=by rw [b.own.s.len];omega
  show (zS D.ps).getD k yb=_;rw [Yh,zFS D.ps k f];rfl
 rw [e];exact h k r hk hr
set_option maxRecDepth 100000 in
theorem zMh (D:Dsk) (w:World) (B:Nat) (a:ModIn w B D):
 Calls prog 20 #[D.val, .string ⟨#[]⟩] w (ModOut w B D (D.dat,[])):=by
 have HIN:=Jh a;clear a;refine ym1 ?_;intro w0 hw0 KA KR HB0 HZ0 HDB;show Calls prog 20 #[.agg ↑D, .string ⟨#[]⟩] w _;go_in;go_upto_region 1 with fail;refine ym3 ?_;clear hw0;intro l0 c0 c1 c2 c3 c4 c5 c6;refine ul ?_;intro r0 x0 x1 x2 x3 x4 x5 x6 f0 f1 f2 f3 f4 f5 f6;go_wp2_with fail;refine bodyPost_ret (v:= .tuple #[D.val, .string ⟨#[]⟩]) (by simp [results,results20,go_sem,Dsk.val,x0,x1,x2,x3,x4,x5,x6]) rfl ⟨D,by rfl,?_,by rfl,HIN.Z.small,?_⟩;exact qs;exact KeepT.zE (zc HB0.Z om _ _ _ _ _ _ _)
set_option maxRecDepth 100000 in
theorem zGF (D:Dsk) (w:World) (B:Nat) (j:ModIn w B D):
 Calls prog 20 #[D.val, .string ⟨#[114,101,118,101,114,115,101]⟩] w (ModOut w B D (xC JX D.dat)):=by
 have HIN:=Jh j;clear j;refine ym1 ?_;intro w0 hw0 KA KR HB0 HZ0 HDB;show Calls prog 20 #[.agg ↑D, .string ⟨#[114,101,118,101,114,115,101]⟩] w _;go_in;go_upto_region 1 with fail;refine ym3 ?_;clear hw0;intro l0 c0 c1 c2 c3 c4 c5 c6
 have q:Hd (xC JX D.dat=kB (JX D.M.pic) true D.dat):=Jh (by
  have h:=(jJ _).1 HIN.Z.ok
  exact (uR (f:=JX) (d:=D.dat) (p:=JX D.M.pic) rfl (zPo h.m)).symm)
 go_upto_region 5 with fail;refine zQu ?_;intro MK;refine zh 7 (fun v=>JC v w D) zK (MK.Z _ bR.drew) ?_;intro hHeld;clear c0 c1 c2 c3 c4 c5 c6;refine Xx ?_;refine zW 3 (fun K hK=>?_);go_simp
 ((refine (UJ D.M.W D.M.H D.M.a D.M.n D.M.c D.M.ink _ HIN.Z.own.m.len ((HIN.Z.own.m.rd.below HB0.Z).below bR.drew) (og HIN.Z.small.m)).mono ?_);rintro e v1 ⟨a1,n1,k1,rfl,ho1,l,hq1⟩)
 refine zRI ?_;clear hK K hHeld;intro HB1 HQ1 hHeld hin1 hq9;refine zW 4 (fun K hK=>?_);go_simp;refine (show Calls prog _ _ _ (ModOut _ B D (kB (JX D.M.pic) true D.dat)) from jj D ⟨(uW D.M.W D.M.H D.M.ink).W,(uW D.M.W D.M.H D.M.ink).H,a1,n1,k1,(uW D.M.W D.M.H D.M.ink).ranks⟩ true v1 B hin1 (HQ1.Z.mono (oT HIN.Z.base HB0.Z.size)) (fun b hb h=>by have:=HDB.Z b h;have s:w0.heap.size<=b:=(hq9 b hb).1;have:=HZ0.Z;omega) l).mono ?_;refine zQp ?_;clear hK K hHeld;intro v9 E9 HO9 HD9 HS9 HK9 KA9 KR9 r0 x0 x1 x2 x3 x4 x5 x6 f0 f1 f2 f3 f4 f5 f6 hS9 hHeld;refine zGL ?_;clear hHeld;refine zCa ?_;(try go_simp);go_wp2_with fail;refine bodyPost_ret (v:= .tuple #[E9.val, .string ⟨(kB (JX D.M.pic) true D.dat).2.toArray⟩]) (by simp [results,results20,go_sem,Dsk.val,x0,x1,x2,x3,x4,x5,x6]) rfl ⟨E9,by first | rfl | rw [q.Z],?_,by first | exact HD9.Z | (rw [q.Z];exact HD9.Z),HS9.Z,?_⟩;exact vB;exact yt6
set_option maxRecDepth 100000 in
theorem zHU (D:Dsk) (w:World) (B:Nat) (j:ModIn w B D):
 Calls prog 20 #[D.val, .string ⟨#[115,99,114,101,101,110]⟩] w (ModOut w B D (yg xV D.dat)):=by
 have HIN:=Jh j;clear j;refine ym1 ?_;intro w0 hw0 KA KR HB0 HZ0 HDB;show Calls prog 20 #[.agg ↑D, .string ⟨#[115,99,114,101,101,110]⟩] w _;go_in;go_upto_region 1 with fail;refine ym3 ?_;clear hw0;intro l0 c0 c1 c2 c3 c4 c5 c6;have q:Hd (yg xV D.dat=modPlate (xV D.dat).1 (xV D.dat).2 D.dat):=Jh (uw (f:=xV) (d:=D.dat) (p:=(xV D.dat).1) (s:=(xV D.dat).2) rfl).symm;go_upto_region 7 with fail;refine zQu ?_;intro MK;refine zh 9 (fun v=>JC v w D) zK (MK.Z _ bR.drew) ?_;intro hHeld;clear c0 c1 c2 c3 c4 c5 c6;refine Xx ?_;refine tTs 3 ?_;refine tTs 4 ?_;refine zW 5 (fun K hK=>?_);go_simp
 ((refine (UK D.M.W D.M.H D.M.a D.M.n D.M.c D.M.ink D.P.W D.P.H D.P.a D.P.n D.P.c D.P.ink _ HIN.Z.own.m.len ((HIN.Z.own.m.rd.below HB0.Z).below bR.drew) (og HIN.Z.small.m) HIN.Z.own.p.len ((HIN.Z.own.p.rd.below HB0.Z).below bR.drew) (og HIN.Z.small.p)).mono ?_);rintro e v1 ⟨a1,n1,k1,rfl,ho1,l,hq1⟩)
 refine zRI ?_;clear hK K hHeld;intro HB1 HQ1 hHeld hin1 hq9;refine zW 6 (fun K hK=>?_);go_simp;refine (show Calls prog _ _ _ (ModOut _ B D (modPlate (xV D.dat).1 (xV D.dat).2 D.dat)) from spec_l8Plate D ⟨(xV D.dat).1.W,(xV D.dat).1.H,a1,n1,k1,(xV D.dat).1.ink⟩ (xV D.dat).2 v1 B hin1 (HQ1.Z.mono (oT HIN.Z.base HB0.Z.size)) (fun b hb h=>by have:=HDB.Z b h;have t:w0.heap.size<=b:=(hq9 b hb).1;have:=HZ0.Z;omega) l).mono ?_;refine zQp ?_;clear hK K hHeld;intro v9 E9 HO9 HD9 HS9 HK9 KA9 KR9 r0 x0 x1 x2 x3 x4 x5 x6 f0 f1 f2 f3 f4 f5 f6 hS9 hHeld;refine tTs 7 ?_;refine tTs 8 ?_;refine zW 9 (fun K hK=>?_);refine ym43 ?_;clear hK K hHeld;refine zW 10 (fun K hK=>?_);refine ym14 ?_;clear hK K;refine zx zK ?_ _;(try go_simp);go_wp2_with fail;refine bodyPost_ret (v:= .tuple #[E9.val, .string ⟨(modPlate (xV D.dat).1 (xV D.dat).2 D.dat).2.toArray⟩]) (by simp [results,results20,go_sem,Dsk.val,x0,x1,x2,x3,x4,x5,x6]) rfl ⟨E9,by first | rfl | rw [q.Z],?_,by first | exact HD9.Z | (rw [q.Z];exact HD9.Z),HS9.Z,?_⟩;exact vB;exact yt6
set_option maxRecDepth 100000 in
theorem zMf (D:Dsk) (w:World) (B:Nat) (c:ModIn w B D):
 Calls prog 20 #[D.val, .string ⟨#[103,114,111,119]⟩] w (ModOut w B D (yS (yp (kZ 1)) D.dat)):=by
 have HIN:=Jh c;clear c;refine ym1 ?_;intro w0 hw0 KA KR HB0 HZ0 HDB;show Calls prog 20 #[.agg ↑D, .string ⟨#[103,114,111,119]⟩] w _;go_in;go_upto_region 1 with fail;refine ym3 ?_;clear hw0;intro l0 c0 c1 c2 c3 c4 c5 c6;go_wp2_with fail;have a:ModIn w0 B D:=HIN.Z.below HB0.Z;refine (qE (yp (kZ 1)) ⟨#[103,114,111,119]⟩ D w0 B a (fun k r hk hr=>zKz D k r w0 B a hk hr)).mono ?_;refine ym5 ?_;intro v9 E9 HO9 HD9 HS9 HK9 KA9 KR9 r0 x0 x1 x2 x3 x4 x5 x6 f0 f1 f2 f3 f4 f5 f6;go_wp2_with fail;refine bodyPost_ret (v:= .tuple #[E9.val, .string ⟨(yS (yp (kZ 1)) D.dat).2.toArray⟩]) (by simp [results,results20,go_sem,Dsk.val,x0,x1,x2,x3,x4,x5,x6]) rfl ⟨E9,by first | rfl | rw [ER.Z],?_,by first | exact HD9.Z | (rw [ER.Z];exact HD9.Z),HS9.Z,?_⟩;exact vB;exact yt6
set_option maxRecDepth 100000 in
theorem zHV (D:Dsk) (w:World) (B:Nat) (c:ModIn w B D):
 Calls prog 20 #[D.val, .string ⟨#[115,104,114,105,110,107]⟩] w (ModOut w B D (yS (yp (kZ 5)) D.dat)):=by
 have HIN:=Jh c;clear c;refine ym1 ?_;intro w0 hw0 KA KR HB0 HZ0 HDB;show Calls prog 20 #[.agg ↑D, .string ⟨#[115,104,114,105,110,107]⟩] w _;go_in;go_upto_region 1 with fail;refine ym3 ?_;clear hw0;intro l0 c0 c1 c2 c3 c4 c5 c6;go_wp2_with fail;have a:ModIn w0 B D:=HIN.Z.below HB0.Z;refine (qE (yp (kZ 5)) ⟨#[115,104,114,105,110,107]⟩ D w0 B a (fun k r hk hr=>zGk D k r w0 B a hk hr)).mono ?_;refine ym5 ?_;intro v9 E9 HO9 HD9 HS9 HK9 KA9 KR9 r0 x0 x1 x2 x3 x4 x5 x6 f0 f1 f2 f3 f4 f5 f6;go_wp2_with fail;refine bodyPost_ret (v:= .tuple #[E9.val, .string ⟨(yS (yp (kZ 5)) D.dat).2.toArray⟩]) (by simp [results,results20,go_sem,Dsk.val,x0,x1,x2,x3,x4,x5,x6]) rfl ⟨E9,by first | rfl | rw [ER.Z],?_,by first | exact HD9.Z | (rw [ER.Z];exact HD9.Z),HS9.Z,?_⟩;exact vB;exact yt6
set_option maxRecDepth 100000 in
theorem zHT (D:Dsk) (w:World) (B:Nat) (c:ModIn w B D):
 Calls prog 20 #[D.val, .string ⟨#[109,105,114,114,111,114]⟩] w (ModOut w B D (yS (yp vw) D.dat)):=by
 have HIN:=Jh c;clear c;refine ym1 ?_;intro w0 hw0 KA KR HB0 HZ0 HDB;show Calls prog 20 #[.agg ↑D, .string ⟨#[109,105,114,114,111,114]⟩] w _;go_in;go_upto_region 1 with fail;refine ym3 ?_;clear hw0;intro l0 c0 c1 c2 c3 c4 c5 c6;go_wp2_with fail;have a:ModIn w0 B D:=HIN.Z.below HB0.Z;refine (qE (yp vw) ⟨#[109,105,114,114,111,114]⟩ D w0 B a (fun k r hk hr=>zGj D k r w0 B a hk hr)).mono ?_;refine ym5 ?_;intro v9 E9 HO9 HD9 HS9 HK9 KA9 KR9 r0 x0 x1 x2 x3 x4 x5 x6 f0 f1 f2 f3 f4 f5 f6;go_wp2_with fail;refine bodyPost_ret (v:= .tuple #[E9.val, .string ⟨(yS (yp vw) D.dat).2.toArray⟩]) (by simp [results,results20,go_sem,Dsk.val,x0,x1,x2,x3,x4,x5,x6]) rfl ⟨E9,by first | rfl | rw [ER.Z],?_,by first | exact HD9.Z | (rw [ER.Z];exact HD9.Z),HS9.Z,?_⟩;exact vB;exact yt6
set_option maxRecDepth 100000 in
theorem zMe (D:Dsk) (w:World) (B:Nat) (c:ModIn w B D):
 Calls prog 20 #[D.val, .string ⟨#[100,114,111,112]⟩] w (ModOut w B D (yS (vt) D.dat)):=by
 have HIN:=Jh c;clear c;refine ym1 ?_;intro w0 hw0 KA KR HB0 HZ0 HDB;show Calls prog 20 #[.agg ↑D, .string ⟨#[100,114,111,112]⟩] w _;go_in;go_upto_region 1 with fail;refine ym3 ?_;clear hw0;intro l0 c0 c1 c2 c3 c4 c5 c6;go_wp2_with fail;have a:ModIn w0 B D:=HIN.Z.below HB0.Z;refine (qE (vt) ⟨#[100,114,111,112]⟩ D w0 B a (fun k r hk hr=>zKy D k r w0 B a hk hr)).mono ?_;refine ym5 ?_;intro v9 E9 HO9 HD9 HS9 HK9 KA9 KR9 r0 x0 x1 x2 x3 x4 x5 x6 f0 f1 f2 f3 f4 f5 f6;go_wp2_with fail;refine bodyPost_ret (v:= .tuple #[E9.val, .string ⟨(yS (vt) D.dat).2.toArray⟩]) (by simp [results,results20,go_sem,Dsk.val,x0,x1,x2,x3,x4,x5,x6]) rfl ⟨E9,by first | rfl | rw [ER.Z],?_,by first | exact HD9.Z | (rw [ER.Z];exact HD9.Z),HS9.Z,?_⟩;exact vB;exact yt6
set_option maxRecDepth 100000 in
theorem zMj (D:Dsk) (w:World) (B:Nat) (c:ModIn w B D):
 Calls prog 20 #[D.val, .string ⟨#[115,104,111,119]⟩] w (ModOut w B D (yS (ur) D.dat)):=by
 have HIN:=Jh c;clear c;refine ym1 ?_;intro w0 hw0 KA KR HB0 HZ0 HDB;show Calls prog 20 #[.agg ↑D, .string ⟨#[115,104,111,119]⟩] w _;go_in;go_upto_region 1 with fail;refine ym3 ?_;clear hw0;intro l0 c0 c1 c2 c3 c4 c5 c6;go_wp2_with fail;have a:ModIn w0 B D:=HIN.Z.below HB0.Z;refine (qE (ur) ⟨#[115,104,111,119]⟩ D w0 B a (fun k r hk hr=>zLD D k r w0 B a hk hr)).mono ?_;refine ym5 ?_;intro v9 E9 HO9 HD9 HS9 HK9 KA9 KR9 r0 x0 x1 x2 x3 x4 x5 x6 f0 f1 f2 f3 f4 f5 f6;go_wp2_with fail;refine bodyPost_ret (v:= .tuple #[E9.val, .string ⟨(yS (ur) D.dat).2.toArray⟩]) (by simp [results,results20,go_sem,Dsk.val,x0,x1,x2,x3,x4,x5,x6]) rfl ⟨E9,by first | rfl | rw [ER.Z],?_,by first | exact HD9.Z | (rw [ER.Z];exact HD9.Z),HS9.Z,?_⟩;exact vB;exact yt6
set_option maxRecDepth 100000 in
theorem zMi (D:Dsk) (w:World) (B:Nat) (c:ModIn w B D):
 Calls prog 20 #[D.val, .string ⟨#[114,117,110,115]⟩] w (ModOut w B D (yS (ZQ) D.dat)):=by
 have HIN:=Jh c;clear c;refine ym1 ?_;intro w0 hw0 KA KR HB0 HZ0 HDB;show Calls prog 20 #[.agg ↑D, .string ⟨#[114,117,110,115]⟩] w _;go_in;go_upto_region 1 with fail;refine ym3 ?_;clear hw0;intro l0 c0 c1 c2 c3 c4 c5 c6;go_wp2_with fail;have a:ModIn w0 B D:=HIN.Z.below HB0.Z;refine (qE (ZQ) ⟨#[114,117,110,115]⟩ D w0 B a (fun k r hk hr=>zLC D k r w0 B a hk hr)).mono ?_;refine ym5 ?_;intro v9 E9 HO9 HD9 HS9 HK9 KA9 KR9 r0 x0 x1 x2 x3 x4 x5 x6 f0 f1 f2 f3 f4 f5 f6;go_wp2_with fail;refine bodyPost_ret (v:= .tuple #[E9.val, .string ⟨(yS (ZQ) D.dat).2.toArray⟩]) (by simp [results,results20,go_sem,Dsk.val,x0,x1,x2,x3,x4,x5,x6]) rfl ⟨E9,by first | rfl | rw [ER.Z],?_,by first | exact HD9.Z | (rw [ER.Z];exact HD9.Z),HS9.Z,?_⟩;exact vB;exact yt6
set_option maxRecDepth 100000 in
theorem zMg (D:Dsk) (w:World) (B:Nat) (c:ModIn w B D):
 Calls prog 20 #[D.val, .string ⟨#[109,101,97,110]⟩] w (ModOut w B D (yS (ZN) D.dat)):=by
 have HIN:=Jh c;clear c;refine ym1 ?_;intro w0 hw0 KA KR HB0 HZ0 HDB;show Calls prog 20 #[.agg ↑D, .string ⟨#[109,101,97,110]⟩] w _;go_in;go_upto_region 1 with fail;refine ym3 ?_;clear hw0;intro l0 c0 c1 c2 c3 c4 c5 c6;go_wp2_with fail;have a:ModIn w0 B D:=HIN.Z.below HB0.Z;refine (qE (ZN) ⟨#[109,101,97,110]⟩ D w0 B a (fun k r hk hr=>zLA D k r w0 B a hk hr)).mono ?_;refine ym5 ?_;intro v9 E9 HO9 HD9 HS9 HK9 KA9 KR9 r0 x0 x1 x2 x3 x4 x5 x6 f0 f1 f2 f3 f4 f5 f6;go_wp2_with fail;refine bodyPost_ret (v:= .tuple #[E9.val, .string ⟨(yS (ZN) D.dat).2.toArray⟩]) (by simp [results,results20,go_sem,Dsk.val,x0,x1,x2,x3,x4,x5,x6]) rfl ⟨E9,by first | rfl | rw [ER.Z],?_,by first | exact HD9.Z | (rw [ER.Z];exact HD9.Z),HS9.Z,?_⟩;exact vB;exact yt6
set_option maxRecDepth 100000 in
theorem zHS (D:Dsk) (w:World) (B:Nat) (c:ModIn w B D):
 Calls prog 20 #[D.val, .string ⟨#[99,111,117,110,116,115]⟩] w (ModOut w B D (yS (ue) D.dat)):=by
 have HIN:=Jh c;clear c;refine ym1 ?_;intro w0 hw0 KA KR HB0 HZ0 HDB;show Calls prog 20 #[.agg ↑D, .string ⟨#[99,111,117,110,116,115]⟩] w _;go_in;go_upto_region 1 with fail;refine ym3 ?_;clear hw0;intro l0 c0 c1 c2 c3 c4 c5 c6;go_wp2_with fail;have a:ModIn w0 B D:=HIN.Z.below HB0.Z;refine (qE (ue) ⟨#[99,111,117,110,116,115]⟩ D w0 B a (fun k r hk hr=>zGi D k r w0 B a hk hr)).mono ?_;refine ym5 ?_;intro v9 E9 HO9 HD9 HS9 HK9 KA9 KR9 r0 x0 x1 x2 x3 x4 x5 x6 f0 f1 f2 f3 f4 f5 f6;go_wp2_with fail;refine bodyPost_ret (v:= .tuple #[E9.val, .string ⟨(yS (ue) D.dat).2.toArray⟩]) (by simp [results,results20,go_sem,Dsk.val,x0,x1,x2,x3,x4,x5,x6]) rfl ⟨E9,by first | rfl | rw [ER.Z],?_,by first | exact HD9.Z | (rw [ER.Z];exact HD9.Z),HS9.Z,?_⟩;exact vB;exact yt6
set_option maxRecDepth 100000 in
theorem zJe (D:Dsk) (w:World) (B:Nat) (c:ModIn w B D):
 Calls prog 20 #[D.val, .string ⟨#[101,114,114,111,114]⟩] w (ModOut w B D (yS (qQ) D.dat)):=by
 have HIN:=Jh c;clear c;refine ym1 ?_;intro w0 hw0 KA KR HB0 HZ0 HDB;show Calls prog 20 #[.agg ↑D, .string ⟨#[101,114,114,111,114]⟩] w _;go_in;go_upto_region 1 with fail;refine ym3 ?_;clear hw0;intro l0 c0 c1 c2 c3 c4 c5 c6;go_wp2_with fail;have a:ModIn w0 B D:=HIN.Z.below HB0.Z;refine (qE (qQ) ⟨#[101,114,114,111,114]⟩ D w0 B a (fun k r hk hr=>zIj D k r w0 B a hk hr)).mono ?_;refine ym5 ?_;intro v9 E9 HO9 HD9 HS9 HK9 KA9 KR9 r0 x0 x1 x2 x3 x4 x5 x6 f0 f1 f2 f3 f4 f5 f6;go_wp2_with fail;refine bodyPost_ret (v:= .tuple #[E9.val, .string ⟨(yS (qQ) D.dat).2.toArray⟩]) (by simp [results,results20,go_sem,Dsk.val,x0,x1,x2,x3,x4,x5,x6]) rfl ⟨E9,by first | rfl | rw [ER.Z],?_,by first | exact HD9.Z | (rw [ER.Z];exact HD9.Z),HS9.Z,?_⟩;exact vB;exact yt6
def zIs:List (List UInt8):=[[],[114,101,118,101,114,115,101],[115,99,114,101,101,110],[103,114,111,119],[115,104,114,105,110,107],[109,105,114,114,111,114],[100,114,111,112],[115,104,111,119],[114,117,110,115],[109,101,97,110],[99,111,117,110,116,115],[101,114,114,111,114]]
set_option maxRecDepth 100000 in
theorem zMk (D:Dsk) (s:ByteArray) (w:World) (B:Nat) (f:ModIn w B D) (c:s.toList ∉ zIs):
 Calls prog 20 #[D.val, .string s] w (ModOut w B D (D.dat,jc)):=by
 have HIN:=Jh f;clear f;refine ym1 ?_;intro w0 hw0 KA KR HB0 HZ0 HDB;show Calls prog 20 #[.agg ↑D, .string s] w _;go_in;go_upto_region 1 with fail;refine ym3 ?_;clear hw0;intro l0 c0 c1 c2 c3 c4 c5 c6;have k: ¬s.toList=[]:=fun e=>c (by rw [e];decide);have x:(s.toList==[])=false:=by rw [beq_eq_false_iff_ne];exact k
 have n1: ¬s.toList=[114,101,118,101,114,115,101]:=fun e=>c (by rw [e];decide);have y:(s.toList==[114,101,118,101,114,115,101])=false:=by rw [beq_eq_false_iff_ne];exact n1
 have n2: ¬s.toList=[115,99,114,101,101,110]:=fun e=>c (by rw [e];decide);have z:(s.toList==[115,99,114,101,101,110])=false:=by rw [beq_eq_false_iff_ne];exact n2
 have n3: ¬s.toList=[103,114,111,119]:=fun e=>c (by rw [e];decide);have A:(s.toList==[103,114,111,119])=false:=by rw [beq_eq_false_iff_ne];exact n3
 have n4: ¬s.toList=[115,104,114,105,110,107]:=fun e=>c (by rw [e];decide);have C:(s.toList==[115,104,114,105,110,107])=false:=by rw [beq_eq_false_iff_ne];exact n4
 have n: ¬s.toList=[109,105,114,114,111,114]:=fun e=>c (by rw [e];decide);have E:(s.toList==[109,105,114,114,111,114])=false:=by rw [beq_eq_false_iff_ne];exact n
 have o: ¬s.toList=[100,114,111,112]:=fun e=>c (by rw [e];decide);have F:(s.toList==[100,114,111,112])=false:=by rw [beq_eq_false_iff_ne];exact o
 have q: ¬s.toList=[115,104,111,119]:=fun e=>c (by rw [e];decide);have H:(s.toList==[115,104,111,119])=false:=by rw [beq_eq_false_iff_ne];exact q
 have t: ¬s.toList=[114,117,110,115]:=fun e=>c (by rw [e];decide);have I:(s.toList==[114,117,110,115])=false:=by rw [beq_eq_false_iff_ne];exact t
 have u: ¬s.toList=[109,101,97,110]:=fun e=>c (by rw [e];decide);have J:(s.toList==[109,101,97,110])=false:=by rw [beq_eq_false_iff_ne];exact u
 have i: ¬s.toList=[99,111,117,110,116,115]:=fun e=>c (by rw [e];decide);have l:(s.toList==[99,111,117,110,116,115])=false:=by rw [beq_eq_false_iff_ne];exact i
 have j: ¬s.toList=[101,114,114,111,114]:=fun e=>c (by rw [e];decide);have m:(s.toList==[101,114,114,111,114])=false:=by rw [beq_eq_false_iff_ne];exact j
 have L:s.toList.isEmpty=false:=by
  cases h:s.toList with
  | nil=>exact absurd h k
  | cons a b=>rfl
 clear c;refine ul ?_;intro r0 x0 x1 x2 x3 x4 x5 x6 f0 f1 f2 f3 f4 f5 f6;go_wp2_with fail;refine bodyPost_ret (v:= .tuple #[D.val, .string ⟨#[119,104,97,116]⟩]) (by simp [results,results20,go_sem,Dsk.val,x0,x1,x2,x3,x4,x5,x6]) rfl ⟨D,by rfl,?_,by rfl,HIN.Z.small,?_⟩;exact qs;exact KeepT.zE (zc HB0.Z om _ _ _ _ _ _ _)
theorem zJA: ∀l,l ∈ Kf->(∀c,c ∈ l->c.toNat≠32)->l ∈ zIs:=dC
noncomputable def zCN (l:List UInt8) (d:Dat):Dat × List UInt8:=if l=[] then (d,[]) else match jY l with | some F=>F d | none=>(d,jc)
theorem zHL (D:Dsk) (s:ByteArray) (w:World) (B:Nat) (a:ModIn w B D) (b: ∀c,c ∈ s.toList->c.toNat≠32):
 Calls prog 20 #[D.val, .string s] w (ModOut w B D (zCN s.toList D.dat)):=by
 by_cases hm:s.toList ∈ zIs
 have f:s=⟨s.toList.toArray⟩:=ByteArray.ext (Array.toList_inj.1 (by rw [Yf]));obtain ⟨l,hl⟩: ∃l,s.toList=l:=⟨_,rfl⟩
 rw [hl] at hm f⊢;subst f;clear hl b;unfold zIs at hm;simp only [List.mem_cons,List.not_mem_nil,or_false] at hm;rcases hm with rfl | rfl | rfl | rfl | rfl | rfl | rfl | rfl | rfl | rfl | rfl | rfl
 exact zMh D w B a;exact zGF D w B a;exact zHU D w B a;exact zMf D w B a;exact zHV D w B a;exact zHT D w B a;exact zMe D w B a;exact zMj D w B a;exact zMi D w B a;exact zMg D w B a;exact zHS D w B a;exact zJe D w B a;refine (zMk D s w B a hm).mono (fun e w' h=>h.congr ?_);unfold zCN;rw [if_neg (fun e=>hm (by rw [e];decide)),JU (fun hp=>hm (zJA _ hp b))]
set_option maxRecDepth 100000 in
theorem zBu (D:Dsk) (w:World) (B:Nat) (j:ModIn w B D):
 Calls prog 21 #[D.val, .string ⟨#[115,116,101,105,110]⟩, .string ⟨#[108,101,102,116]⟩] w (ModOut w B D (yg (yU yk false) D.dat)):=by
 have HIN:=Jh j;clear j;refine ym1 ?_;intro w0 hw0 KA KR HB0 HZ0 HDB;show Calls prog 21 #[.agg ↑D, .string ⟨#[115,116,101,105,110]⟩, .string ⟨#[108,101,102,116]⟩] w _;go_in;go_upto_region 1 with fail;refine ym3 ?_;clear hw0;intro l0 c0 c1 c2 c3 c4 c5 c6;have m:Hd (yg (yU yk false) D.dat=modPlate (yU yk false D.dat).1 (yU yk false D.dat).2 D.dat):=Jh (uw (f:=yU yk false) (d:=D.dat) (p:=(yU yk false D.dat).1) (s:=(yU yk false D.dat).2) rfl).symm;have BB:Hd (yK (kE yk D.P.W D.P.H D.P.ink false).2.1):=Jh ((uJ HIN.Z.ok).stein false);have z:Hd ((yU yk false D.dat).2=Lib.itoa (kE yk D.P.W D.P.H D.P.ink false).2.1):=Jh (by unfold yU;exact qz _);clear c0 c1 c2 c3 c4 c5 c6;go_wp2_with fail;refine (uX _).mono ?_;rintro e w1 ⟨g1,rfl,_,y,hb⟩;have o:=Jh hb;clear hb y;go_wp2_with fail;refine (XD _).mono ?_;rintro e w2 ⟨g2,rfl,_,l,hb⟩;have HB2:=Jh (zI o.Z hb);have t:=Jh l;clear hb l;have x:=Jh (KA.Z.zA HB2.Z);obtain ⟨l0,c0,c1,c2,c3,c4,c5,c6⟩:=x.Z.c7;go_wp2_with fail;refine (vR ↑g2 4 4 yk D.P.W D.P.H D.P.a D.P.n D.P.c D.P.ink false _ rfl t.Z.rd om nI HIN.Z.own.p.len ((HIN.Z.own.p.rd.below HB0.Z).below HB2.Z) (og HIN.Z.small.p)).mono ?_;rintro e w3 ⟨a1,n1,k1,rfl,ho,hn1,hb⟩;obtain ⟨R,hR⟩: ∃R,kE yk D.P.W D.P.H D.P.ink false=R:=⟨_,rfl⟩
 have q:Hd (yU yk false D.dat=(R.1,Lib.itoa R.2.1)):=Jh (by rw [<-hR];exact Prod.ext rfl z.Z);refine zJl ?_;clear hR z hb l0 c0 c1 c2 c3 c4 c5 c6 ho BB;intro BB w4 hw4 HQ4 HQB KQ4 HB4 HZ4 HZ3;go_upto_region 7 with fail;rw [<-hw4];clear hw4;refine ym8 ?_;intro KA4 KR4 l0 k0' MK hHeld K hK
 ((refine (jW R.2.1 _ BB.Z).mono ?_);rintro e v1 ⟨rfl,hq1⟩)
 refine zJm ?_;clear hK K hHeld;intro HB1v hHeld HBV hin1 hq9 hz4;have A:Hd (yg (yU yk false) D.dat=modPlate R.1 (Lib.itoa R.2.1) D.dat):=Jh (by rw [m.Z,q.Z]);refine ym4 ?_;clear hHeld;intro v9 E9 HO9 HD9 HS9 HK9 KA9 KR9 KQ9 r0 x0 x1 x2 x3 x4 x5 x6 f0 f1 f2 f3 f4 f5 f6 hS9 hHeld;refine zGL ?_;clear hHeld;refine zCa ?_;(try go_simp);go_wp2_with fail;refine bodyPost_ret (v:= .tuple #[E9.val, .string ⟨(modPlate R.1 (Lib.itoa R.2.1) D.dat).2.toArray⟩]) (by simp [results,results21,go_sem,Dsk.val,x0,x1,x2,x3,x4,x5,x6]) rfl ⟨E9,by first | rfl | rw [A.Z],?_,by first | exact HD9.Z | (rw [A.Z];exact HD9.Z),HS9.Z,?_⟩;exact vB;exact yt6
set_option maxRecDepth 100000 in
theorem zBt (D:Dsk) (w:World) (B:Nat) (j:ModIn w B D):
 Calls prog 21 #[D.val, .string ⟨#[115,116,101,105,110]⟩, .string ⟨#[98,111,116,104]⟩] w (ModOut w B D (yg (yU yk true) D.dat)):=by
 have HIN:=Jh j;clear j;refine ym1 ?_;intro w0 hw0 KA KR HB0 HZ0 HDB;show Calls prog 21 #[.agg ↑D, .string ⟨#[115,116,101,105,110]⟩, .string ⟨#[98,111,116,104]⟩] w _;go_in;go_upto_region 1 with fail;refine ym3 ?_;clear hw0;intro l0 c0 c1 c2 c3 c4 c5 c6;have m:Hd (yg (yU yk true) D.dat=modPlate (yU yk true D.dat).1 (yU yk true D.dat).2 D.dat):=Jh (uw (f:=yU yk true) (d:=D.dat) (p:=(yU yk true D.dat).1) (s:=(yU yk true D.dat).2) rfl).symm;have BB:Hd (yK (kE yk D.P.W D.P.H D.P.ink true).2.1):=Jh ((uJ HIN.Z.ok).stein true);have z:Hd ((yU yk true D.dat).2=Lib.itoa (kE yk D.P.W D.P.H D.P.ink true).2.1):=Jh (by unfold yU;exact qz _);clear c0 c1 c2 c3 c4 c5 c6;go_wp2_with fail;refine (uX _).mono ?_;rintro e w1 ⟨g1,rfl,_,y,hb⟩;have o:=Jh hb;clear hb y;go_wp2_with fail;refine (XD _).mono ?_;rintro e w2 ⟨g2,rfl,_,l,hb⟩;have HB2:=Jh (zI o.Z hb);have t:=Jh l;clear hb l;have x:=Jh (KA.Z.zA HB2.Z);obtain ⟨l0,c0,c1,c2,c3,c4,c5,c6⟩:=x.Z.c7;go_wp2_with fail;refine (vR ↑g2 4 4 yk D.P.W D.P.H D.P.a D.P.n D.P.c D.P.ink true _ rfl t.Z.rd om nI HIN.Z.own.p.len ((HIN.Z.own.p.rd.below HB0.Z).below HB2.Z) (og HIN.Z.small.p)).mono ?_;rintro e w3 ⟨a1,n1,k1,rfl,ho,hn1,hb⟩;obtain ⟨R,hR⟩: ∃R,kE yk D.P.W D.P.H D.P.ink true=R:=⟨_,rfl⟩
 have q:Hd (yU yk true D.dat=(R.1,Lib.itoa R.2.1)):=Jh (by rw [<-hR];exact Prod.ext rfl z.Z);refine zJl ?_;clear hR z hb l0 c0 c1 c2 c3 c4 c5 c6 ho BB;intro BB w4 hw4 HQ4 HQB KQ4 HB4 HZ4 HZ3;go_upto_region 7 with fail;rw [<-hw4];clear hw4;refine ym8 ?_;intro KA4 KR4 l0 k0' MK hHeld K hK
 ((refine (jW R.2.1 _ BB.Z).mono ?_);rintro e v1 ⟨rfl,hq1⟩)
 refine zJm ?_;clear hK K hHeld;intro HB1v hHeld HBV hin1 hq9 hz4;have A:Hd (yg (yU yk true) D.dat=modPlate R.1 (Lib.itoa R.2.1) D.dat):=Jh (by rw [m.Z,q.Z]);refine ym4 ?_;clear hHeld;intro v9 E9 HO9 HD9 HS9 HK9 KA9 KR9 KQ9 r0 x0 x1 x2 x3 x4 x5 x6 f0 f1 f2 f3 f4 f5 f6 hS9 hHeld;refine zGL ?_;clear hHeld;refine zCa ?_;(try go_simp);go_wp2_with fail;refine bodyPost_ret (v:= .tuple #[E9.val, .string ⟨(modPlate R.1 (Lib.itoa R.2.1) D.dat).2.toArray⟩]) (by simp [results,results21,go_sem,Dsk.val,x0,x1,x2,x3,x4,x5,x6]) rfl ⟨E9,by first | rfl | rw [A.Z],?_,by first | exact HD9.Z | (rw [A.Z];exact HD9.Z),HS9.Z,?_⟩;exact vB;exact yt6
set_option maxRecDepth 100000 in
theorem zBs (D:Dsk) (w:World) (B:Nat) (o:ModIn w B D):
 Calls prog 21 #[D.val, .string ⟨#[112,108,97,105,110]⟩, .string ⟨#[108,101,102,116]⟩] w (ModOut w B D (yg (yU yj false) D.dat)):=by
 have HIN:=Jh o;clear o;refine ym1 ?_;intro w0 hw0 KA KR HB0 HZ0 HDB;show Calls prog 21 #[.agg ↑D, .string ⟨#[112,108,97,105,110]⟩, .string ⟨#[108,101,102,116]⟩] w _;go_in;go_upto_region 1 with fail;refine ym3 ?_;clear hw0;intro l0 c0 c1 c2 c3 c4 c5 c6;have t:Hd (yg (yU yj false) D.dat=modPlate (yU yj false D.dat).1 (yU yj false D.dat).2 D.dat):=Jh (uw (f:=yU yj false) (d:=D.dat) (p:=(yU yj false D.dat).1) (s:=(yU yj false D.dat).2) rfl).symm;have BB:Hd (yK (kE yj D.P.W D.P.H D.P.ink false).2.1):=Jh ((uJ HIN.Z.ok).plain false);have A:Hd ((yU yj false D.dat).2=Lib.itoa (kE yj D.P.W D.P.H D.P.ink false).2.1):=Jh (by unfold yU;exact qz _);clear c0 c1 c2 c3 c4 c5 c6;go_wp2_with fail;refine (uX _).mono ?_;rintro e w1 ⟨g1,rfl,_,j,hb⟩;have l:=Jh hb;obtain ⟨g2,m⟩:=zN g1;rw [<-m] at j⊢;obtain ⟨w2,q⟩:=zN w1;rw [<-q] at l j⊢;have HB2:=l;have y:=Jh j;clear hb j m q;have z:=Jh (KA.Z.zA HB2.Z);obtain ⟨l0,c0,c1,c2,c3,c4,c5,c6⟩:=z.Z.c7;go_wp2_with fail;refine (vR ↑g2 1 1 yj D.P.W D.P.H D.P.a D.P.n D.P.c D.P.ink false _ rfl y.Z.rd om nI HIN.Z.own.p.len ((HIN.Z.own.p.rd.below HB0.Z).below HB2.Z) (og HIN.Z.small.p)).mono ?_;rintro e w3 ⟨a1,n1,k1,rfl,ho,hn1,hb⟩;obtain ⟨R,hR⟩: ∃R,kE yj D.P.W D.P.H D.P.ink false=R:=⟨_,rfl⟩
 have x:Hd (yU yj false D.dat=(R.1,Lib.itoa R.2.1)):=Jh (by rw [<-hR];exact Prod.ext rfl A.Z);refine zJl ?_;clear hR A hb l0 c0 c1 c2 c3 c4 c5 c6 ho BB;intro BB w4 hw4 HQ4 HQB KQ4 HB4 HZ4 HZ3;go_upto_region 7 with fail;rw [<-hw4];clear hw4;refine ym8 ?_;intro KA4 KR4 l0 k0' MK hHeld K hK
 ((refine (jW R.2.1 _ BB.Z).mono ?_);rintro e v1 ⟨rfl,hq1⟩)
 refine zJm ?_;clear hK K hHeld;intro HB1v hHeld HBV hin1 hq9 hz4;have C:Hd (yg (yU yj false) D.dat=modPlate R.1 (Lib.itoa R.2.1) D.dat):=Jh (by rw [t.Z,x.Z]);refine ym4 ?_;clear hHeld;intro v9 E9 HO9 HD9 HS9 HK9 KA9 KR9 KQ9 r0 x0 x1 x2 x3 x4 x5 x6 f0 f1 f2 f3 f4 f5 f6 hS9 hHeld;refine zGL ?_;clear hHeld;refine zCa ?_;(try go_simp);go_wp2_with fail;refine bodyPost_ret (v:= .tuple #[E9.val, .string ⟨(modPlate R.1 (Lib.itoa R.2.1) D.dat).2.toArray⟩]) (by simp [results,results21,go_sem,Dsk.val,x0,x1,x2,x3,x4,x5,x6]) rfl ⟨E9,by first | rfl | rw [C.Z],?_,by first | exact HD9.Z | (rw [C.Z];exact HD9.Z),HS9.Z,?_⟩;exact vB;exact yt6
set_option maxRecDepth 100000 in
theorem zBr (D:Dsk) (w:World) (B:Nat) (o:ModIn w B D):
 Calls prog 21 #[D.val, .string ⟨#[112,108,97,105,110]⟩, .string ⟨#[98,111,116,104]⟩] w (ModOut w B D (yg (yU yj true) D.dat)):=by
 have HIN:=Jh o;clear o;refine ym1 ?_;intro w0 hw0 KA KR HB0 HZ0 HDB;show Calls prog 21 #[.agg ↑D, .string ⟨#[112,108,97,105,110]⟩, .string ⟨#[98,111,116,104]⟩] w _;go_in;go_upto_region 1 with fail;refine ym3 ?_;clear hw0;intro l0 c0 c1 c2 c3 c4 c5 c6;have t:Hd (yg (yU yj true) D.dat=modPlate (yU yj true D.dat).1 (yU yj true D.dat).2 D.dat):=Jh (uw (f:=yU yj true) (d:=D.dat) (p:=(yU yj true D.dat).1) (s:=(yU yj true D.dat).2) rfl).symm;have BB:Hd (yK (kE yj D.P.W D.P.H D.P.ink true).2.1):=Jh ((uJ HIN.Z.ok).plain true);have A:Hd ((yU yj true D.dat).2=Lib.itoa (kE yj D.P.W D.P.H D.P.ink true).2.1):=Jh (by unfold yU;exact qz _);clear c0 c1 c2 c3 c4 c5 c6;go_wp2_with fail;refine (uX _).mono ?_;rintro e w1 ⟨g1,rfl,_,j,hb⟩;have l:=Jh hb;obtain ⟨g2,m⟩:=zN g1;rw [<-m] at j⊢;obtain ⟨w2,q⟩:=zN w1;rw [<-q] at l j⊢;have HB2:=l;have y:=Jh j;clear hb j m q;have z:=Jh (KA.Z.zA HB2.Z);obtain ⟨l0,c0,c1,c2,c3,c4,c5,c6⟩:=z.Z.c7;go_wp2_with fail;refine (vR ↑g2 1 1 yj D.P.W D.P.H D.P.a D.P.n D.P.c D.P.ink true _ rfl y.Z.rd om nI HIN.Z.own.p.len ((HIN.Z.own.p.rd.below HB0.Z).below HB2.Z) (og HIN.Z.small.p)).mono ?_;rintro e w3 ⟨a1,n1,k1,rfl,ho,hn1,hb⟩;obtain ⟨R,hR⟩: ∃R,kE yj D.P.W D.P.H D.P.ink true=R:=⟨_,rfl⟩
 have x:Hd (yU yj true D.dat=(R.1,Lib.itoa R.2.1)):=Jh (by rw [<-hR];exact Prod.ext rfl A.Z);refine zJl ?_;clear hR A hb l0 c0 c1 c2 c3 c4 c5 c6 ho BB;intro BB w4 hw4 HQ4 HQB KQ4 HB4 HZ4 HZ3;go_upto_region 7 with fail;rw [<-hw4];clear hw4;refine ym8 ?_;intro KA4 KR4 l0 k0' MK hHeld K hK
 ((refine (jW R.2.1 _ BB.Z).mono ?_);rintro e v1 ⟨rfl,hq1⟩)
 refine zJm ?_;clear hK K hHeld;intro HB1v hHeld HBV hin1 hq9 hz4;have C:Hd (yg (yU yj true) D.dat=modPlate R.1 (Lib.itoa R.2.1) D.dat):=Jh (by rw [t.Z,x.Z]);refine ym4 ?_;clear hHeld;intro v9 E9 HO9 HD9 HS9 HK9 KA9 KR9 KQ9 r0 x0 x1 x2 x3 x4 x5 x6 f0 f1 f2 f3 f4 f5 f6 hS9 hHeld;refine zGL ?_;clear hHeld;refine zCa ?_;(try go_simp);go_wp2_with fail;refine bodyPost_ret (v:= .tuple #[E9.val, .string ⟨(modPlate R.1 (Lib.itoa R.2.1) D.dat).2.toArray⟩]) (by simp [results,results21,go_sem,Dsk.val,x0,x1,x2,x3,x4,x5,x6]) rfl ⟨E9,by first | rfl | rw [C.Z],?_,by first | exact HD9.Z | (rw [C.Z];exact HD9.Z),HS9.Z,?_⟩;exact vB;exact yt6
set_option maxRecDepth 100000 in
theorem zNA (D:Dsk) (a b:ByteArray) (w:World) (B:Nat) (m:ModIn w B D) (i: ¬((a.toList=uz\/a.toList=qZ)/\(b.toList=YI\/b.toList=ZT))):
 Calls prog 21 #[D.val, .string a, .string b] w (ModOut w B D (D.dat,jc)):=by
 have HIN:=Jh m;clear m;refine ym1 ?_;intro w0 hw0 KA KR HB0 HZ0 HDB;show Calls prog 21 #[.agg ↑D, .string a, .string b] w _;go_in;go_upto_region 1 with fail;refine ym3 ?_;clear hw0;intro l0 c0 c1 c2 c3 c4 c5 c6;by_cases f:a.toList=uz
 . have l:Hd (a.toList=uz\/a.toList=qZ):=Jh (.inl f)
   by_cases hbleft:b.toList=YI
   exact absurd ⟨l.Z, .inl hbleft⟩ i;by_cases hbboth:b.toList=ZT
   exact absurd ⟨l.Z, .inr hbboth⟩ i;clear i l;refine zRK ?_;intro nbleft mbleft nbboth mbboth;have q:a=⟨#[115,116,101,105,110]⟩:=ByteArray.ext (Array.toList_inj.1 (by rw [<-Yf];exact f));subst q;refine ul ?_;intro r0 x0 x1 x2 x3 x4 x5 x6 f0 f1 f2 f3 f4 f5 f6;go_wp2_with fail;refine bodyPost_ret (v:= .tuple #[D.val, .string ⟨#[119,104,97,116]⟩]) (by simp [results,results21,go_sem,Dsk.val,x0,x1,x2,x3,x4,x5,x6]) rfl ⟨D,by rfl,?_,by rfl,HIN.Z.small,?_⟩;exact qs;exact KeepT.zE (zc HB0.Z om _ _ _ _ _ _ _)
 by_cases c:a.toList=qZ
 . have l:Hd (a.toList=uz\/a.toList=qZ):=Jh (.inr c)
   by_cases hbleft:b.toList=YI
   exact absurd ⟨l.Z, .inl hbleft⟩ i;by_cases hbboth:b.toList=ZT
   exact absurd ⟨l.Z, .inr hbboth⟩ i;clear i l;refine zRK ?_;intro nbleft mbleft nbboth mbboth;have q:a=⟨#[112,108,97,105,110]⟩:=ByteArray.ext (Array.toList_inj.1 (by rw [<-Yf];exact c));subst q;refine ul ?_;intro r0 x0 x1 x2 x3 x4 x5 x6 f0 f1 f2 f3 f4 f5 f6;go_wp2_with fail;refine bodyPost_ret (v:= .tuple #[D.val, .string ⟨#[119,104,97,116]⟩]) (by simp [results,results21,go_sem,Dsk.val,x0,x1,x2,x3,x4,x5,x6]) rfl ⟨D,by rfl,?_,by rfl,HIN.Z.small,?_⟩;exact qs;exact KeepT.zE (zc HB0.Z om _ _ _ _ _ _ _)
 clear i;have k: ¬a.toList=[115,116,101,105,110]:=fun e=>f e;have o:(a.toList==[115,116,101,105,110])=false:=by rw [beq_eq_false_iff_ne];exact k
 have j: ¬a.toList=[112,108,97,105,110]:=fun e=>c e;have n:(a.toList==[112,108,97,105,110])=false:=by rw [beq_eq_false_iff_ne];exact j
 refine ul ?_;intro r0 x0 x1 x2 x3 x4 x5 x6 f0 f1 f2 f3 f4 f5 f6;go_wp2_with fail;refine bodyPost_ret (v:= .tuple #[D.val, .string ⟨#[119,104,97,116]⟩]) (by simp [results,results21,go_sem,Dsk.val,x0,x1,x2,x3,x4,x5,x6]) rfl ⟨D,by rfl,?_,by rfl,HIN.Z.small,?_⟩;exact qs;exact KeepT.zE (zc HB0.Z om _ _ _ _ _ _ _)
theorem zCU (D:Dsk) (a b:ByteArray) (w:World) (B:Nat) (c:ModIn w B D):
 Calls prog 21 #[D.val, .string a, .string b] w (ModOut w B D (VV a.toList b.toList D.dat)):=by
 by_cases j:(a.toList=uz\/a.toList=qZ)/\(b.toList=YI\/b.toList=ZT)
 have k: ∀s:ByteArray,s=⟨s.toList.toArray⟩:=fun s=>ByteArray.ext (Array.toList_inj.1 (by rw [Yf]));have ha:=k a;have hb:=k b;obtain ⟨m,f⟩: ∃l,a.toList=l:=⟨_,rfl⟩
 obtain ⟨n,i⟩: ∃l,b.toList=l:=⟨_,rfl⟩
 rw [f] at ha j⊢;rw [i] at hb j⊢;clear f i k;subst ha hb;rcases j with ⟨rfl | rfl,rfl | rfl⟩
 exact (zBu D w B c).mono (fun e w' h=>h.congr rfl);exact (zBt D w B c).mono (fun e w' h=>h.congr rfl);exact (zBs D w B c).mono (fun e w' h=>h.congr rfl);exact (zBr D w B c).mono (fun e w' h=>h.congr rfl);refine (zNA D a b w B c j).mono (fun e w' h=>h.congr ?_);unfold VV;rw [if_neg j]
end Go.Proofs.YtlenfgdjdianiaaGreatDoor
