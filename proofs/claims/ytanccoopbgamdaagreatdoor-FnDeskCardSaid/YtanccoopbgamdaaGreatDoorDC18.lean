/-
  Contracts and plain facts on which the theorem of this claim rests, text 18.
-/
import Derived.Test.YtanccoopbgamdaaGreatDoorDC16
import Derived.Test.YtanccoopbgamdaaGreatDoorDC17
namespace Go.Proofs.YtanccoopbgamdaaGreatDoor
open Go.RowKit
set_option linter.unusedVariables false
set_option linter.unusedSimpArgs false
def slotQ (ks:List Prt) (W H X Y way:Int) (q:Nat):Option Nat:=slotOf W H (X+way*(prt ks q).dx) (Y+(prt ks q).dy)
theorem dot_yes {v:Int} (h:128≤v):dotOf v=1∧errOf v=v - 255:=by unfold errOf dotOf;rw [if_pos h];omega
theorem dot_no {v:Int} (h: ¬128≤v):dotOf v=0∧errOf v=v:=by unfold errOf dotOf;rw [if_neg h];omega
theorem set_same {xs:List Int} {j:Nat} {v:Int} (h:xs.getD j 0=v) (hj:j<xs.length):xs.set j v=xs:=by
 apply List.ext_getElem?
 intro i
 rw [List.getElem?_set]
 by_cases e:j=i
 · subst e
   rw [if_pos rfl,if_pos hj,List.getElem?_eq_getElem hj]
   simpa [List.getD,hj] using h.symm
 · rw [if_neg e]
set_option maxRecDepth 100000 in
set_option maxHeartbeats 3200000 in
theorem impl_pass (B D gp gr:Nat) (kad:Option Addr) (kn kcap:Nat) (W H:Int) (n rc:Nat) (ds rs:List Int) (L X Y way v:Int) (j:Nat) (ks:List Prt) (w:World) (hd:DSt w B D gp gr kad kn kcap W H n rc ds rs L)
   (hkl:ks.length=kn) (hko:kernOk ks=true) (hkc:kn≤kcap) (hkr: ∀u,Keep (Trio D gp gr) w u→Rd u kad (flat ks))
   (w1:1≤W) (w2:W≤64) (h1:1≤H) (h2:H≤64) (hn:(n:Int)=W*H) (hn2:n≤1024) (x1:0≤X) (x2:X<W) (y1:0≤Y) (y2:Y<H) (hway:way=1∨way=-1)
   (hj:Y*W+X=(j:Int)) (hv:rs.getD j 0=v) (v1:-300000≤v) (v2:v≤300000) (hdot:ds.getD j 0=0)
   (hg: ∀k,k<kn→-300000≤(gives (slotQ ks W H X Y way) (sharesG ks (wtTo ks kn) (errOf v)) (rs.set j (errOf v),L) k).2∧(gives (slotQ ks W H X Y way) (sharesG ks (wtTo ks kn) (errOf v)) (rs.set j (errOf v),L) k).2≤300000∧ ∀i,slotQ ks W H X Y way k=some i→-300000≤(gives (slotQ ks W H X Y way) (sharesG ks (wtTo ks kn) (errOf v)) (rs.set j (errOf v),L) k).1.getD i 0∧(gives (slotQ ks W H X Y way) (sharesG ks (wtTo ks kn) (errOf v)) (rs.set j (errOf v),L) k).1.getD i 0≤300000):
   Calls Tryz.prog 169 #[.pointer (some ⟨D,0,none⟩), .agg #[.int .i64 X, .int .i64 Y], .int .i64 way] w fun e w'=>e= .returned (.tuple #[])∧DSt w' B D gp gr kad kn kcap W H n rc (ds.set j (dotOf v)) (gives (slotQ ks W H X Y way) (sharesG ks (wtTo ks kn) (errOf v)) (rs.set j (errOf v),L) kn).1 (gives (slotQ ks W H X Y way) (sharesG ks (wtTo ks kn) (errOf v)) (rs.set j (errOf v),L) kn).2∧Keep (Trio D gp gr) w w':=by
 obtain ⟨k1,k2,k3⟩:=kernOk_bd hkl hko
 have HKL:=Lib.hid hkl
 have HKO:=Lib.hid hko
 have HK:=Lib.hid k3
 have HKR:=Lib.hid hkr
 have HNN:=Lib.hid hn
 have HG:=Lib.hid hg
 have HD:=Lib.hid hd
 have HV:=Lib.hid hv
 have HTL:=Lib.hid hd.trioLt
 obtain ⟨r1,r2⟩:=row_bd x1 x2 y1 y2
 have r3:Y*W+X<n:=by rw [hn];exact r2
 obtain ⟨V,hV⟩: ∃V,Y*W=V:=⟨_,rfl⟩
 rw [hV] at r1 r3 hj
 have hjn:j<n:=by omega
 have dl:=hd.box.lt
 have rl:=hd.rest.lt
 have pl:=hd.dots.lt
 have N1:D≠gp:=hd.n1
 have N2:D≠gr:=hd.n2
 have N3:gp≠gr:=hd.n3
 obtain ⟨_,c0,cc1,cc2,c3,c4,c5⟩:=hd.c6
 have g1:=hd.rest.cell hjn
 have g2:=hd.rest.frozen j
 have p1:=hd.dots.cell hjn
 have p2:=hd.dots.frozen j
 rw [hv] at g1
 rw [hdot] at p1
 have HDL:=Lib.hid hd.dots.len
 have HDOT:=Lib.hid hdot
 have u1:IntKind.i64.wrap V=V:=IntWalk.i64_in _ (by omega)
 have u2:IntKind.i64.wrap (j:Int)=(j:Int):=IntWalk.i64_in _ (by omega)
 clear hd hkl hko k3 hkr hn hg r2 hv hdot
 by_cases hd128:128≤v
 case pos=>
   obtain ⟨e1,e2⟩:=dot_yes hd128
   rw [e1]
   rw [e2] at HG⊢
   clear e1 e2
   go_enter Tryz.func169,Tryz.ntmps169
   go_wp2_with fail
   go_quiet (fail)
   go_wp2_with fail
   have HD2:=Lib.hid ((((HD.out.alloc (.cells #[.int .i64 X, .int .i64 Y] 149)).drewN nq).setDot j 1).setRest j (v - 255))
   have HKW:=Lib.hid (((((Keep.refl (Trio D gp gr) w).alloc (.cells #[.int .i64 X, .int .i64 Y] 149)).drewN nq).set (a:=⟨gp,j,none⟩) (show Trio D gp gr gp from Trio.p) (.int .i64 1)).set (a:=⟨gr,j,none⟩) (show Trio D gp gr gr from Trio.r) (.int .i64 (v - 255)))
   have KB:=Lib.hid ((((Blk.new w 149 #[.int .i64 X, .int .i64 Y]).drewN nq).other (a:=⟨gp,j,none⟩) (by simp;omega) (.int .i64 1)).other (a:=⟨gr,j,none⟩) (by simp;omega) (.int .i64 (v - 255)))
   obtain ⟨wo,hwo⟩: ∃wo:World,wo=((((w.alloc (.cells #[.int .i64 X, .int .i64 Y] 149)).drewN nq).setCell ⟨gp,j,none⟩ (.int .i64 1)).setCell ⟨gr,j,none⟩ (.int .i64 (v - 255))):=⟨_,rfl⟩
   rw [←hwo] at HD2 HKW KB⊢
   have hE1:-1000000≤v - 255:=by omega
   have hE2:v - 255≤1000000:=by omega
   clear hwo u1 u2 hj
   clear c0 cc1 cc2 c3 c4 c5 g1 g2 p1 p2
   obtain ⟨dl2,c0,cc1,cc2,c3,c4,c5⟩:=HD2.out.c6
   have rl2:=HD2.out.rest.lt
   have g1:=HD2.out.rest.cell hjn
   have HRL:=Lib.hid HD2.out.rest.len
   rw [getD_set _ _ _ _ (by have:=HRL.out;simp at this;omega),if_pos rfl] at g1
   have u2:IntKind.i64.wrap (j:Int)=(j:Int):=IntWalk.i64_in _ (by omega)
   have u4:(0:Int)≤(j:Int):=by omega
   have u5:(j:Int)<(n:Int):=by omega
   go_region_held3 (fun u=>u.cell? ⟨D,0,none⟩=some (.slice kad kn kcap)∧u.cell? ⟨D,4,none⟩=some (.slice (some ⟨gr,0,none⟩) n rc)∧u.cell? ⟨gr,j,none⟩=some (.int .i64 (v - 255)))
     (first | exact ⟨c0,c4,g1⟩ | exact ⟨(hb.cell dl2).trans c0,(hb.cell dl2).trans c4,(hb.cell rl2).trans g1⟩)
     (first
       | (go_at_call 200;((with_reducible refine (impl_split _ _ _ ks _ _ HKL.out (by exact (HKR.out _ HKW.out.drew)) hkc HKO.out hE1 hE2).mono ?_);rintro e w3 ⟨a,m,c,rfl,ho,hm,hb⟩)))
   clear c0 cc1 cc2 c3 c4 c5 g1
   have HO:=Lib.hid ho
   obtain rfl:m=kn:=by
     have h:=HO.out.len
     rw [sharesG_len,HKL.out] at h
     exact h.symm
   have HD3:=Lib.hid (HD2.out.drew.below hb)
   have HK3:=Lib.hid (HKW.out.drew.trans (Keep.ofBelow hb))
   have KB3:=Lib.hid (KB.out.drew.below' hb)
   have HTB:=Lib.hid (show∀i,Trio D gp gr i→i<wo.drew.heap.size from HD2.out.drew.trioLt)
   have HSL:Hid ((sharesG ks (wtTo ks m) (v - 255)).length=m):=Lib.hid HO.out.len
   clear ho hb hm
   go_wp2_with fail
   go_loopw [58] (fun i wr=> ∃k:Nat,k≤m∧i= .int .i64 k∧DSt wr B D gp gr kad m kcap W H n rc (ds.set j 1) (gives (slotQ ks W H X Y way) (sharesG ks (wtTo ks m) (v - 255)) (rs.set j (v - 255),L) k).1 (gives (slotQ ks W H X Y way) (sharesG ks (wtTo ks m) (v - 255)) (rs.set j (v - 255),L) k).2∧Keep (Trio D gp gr) w3 wr) (fun i _=>m - (intOf i).toNat)
   case atStart=>exact ⟨0,Nat.zero_le _,rfl,HD3.out,Keep.refl _ _⟩
   case round=>
     obtain ⟨k,hk,rfl,hdr,hkp⟩:=hrel
     have HDR:=Lib.hid hdr
     have HKP:=Lib.hid hkp
     have HKA:=Lib.hid (HK3.out.trans hkp)
     clear hdr hkp
     by_cases hlt:k<m
     · obtain ⟨ba,oa,hae,hal,hac⟩:=(HKP.out.ownA HO.out HTB.out).rd.at (by have:=HSL.out;omega)
       subst hae
       have a1:=hac k (by have:=HSL.out;omega)
       clear hac
       obtain ⟨bk,ok,hke,hkl2,q0,q1,q2⟩:=rd_part (HKR.out _ HKA.out) (k:=k) (by have:=HKL.out;omega)
       subst hke
       obtain ⟨dl4,d0,_,_,_,_,_⟩:=HDR.out.c6
       have kb:=HKP.out.blk KB3.out (fun h=>by have:=HTL.out _ h;omega)
       have b0:=kb.cell 0
       have b1:=kb.cell 1
       have bl:=kb.lt
       simp only [List.getElem?_toArray,List.getElem?_cons_zero,List.getElem?_cons_succ] at b0 b1
       obtain ⟨S,hS⟩: ∃S,(sharesG ks (wtTo ks m) (v - 255)).getD k 0=S:=⟨_,rfl⟩
       have sb:=share_bd (e:=(v - 255)) HKL.out k1 k2 HK.out k hlt
       obtain ⟨gl1,gl2,gv⟩:=HG.out k hlt
       have HSQ:Hid (slotQ ks W H X Y way k=slotOf W H (X+way*(prt ks k).dx) (Y+(prt ks k).dy)):=Lib.hid rfl
       have pb:=partOk_bd (kern_part HK.out hlt).1
       obtain ⟨p,hp⟩: ∃p,prt ks k=p:=⟨_,rfl⟩
       rw [hp] at q0 q1 q2 HSQ pb
       rw [hS] at a1 sb
       obtain ⟨PX,PY,PT⟩:=p
       dsimp only at q0 q1 q2 HSQ pb
       obtain ⟨pb1,pb2,pb3,pb4,_⟩:=pb
       obtain ⟨M,hM⟩: ∃M,way*PX=M:=⟨_,rfl⟩
       have m1:-4≤M∧M≤4:=by rcases hway with h | h <;>(rw [h] at hM;omega)
       obtain ⟨m1,m2⟩:=m1
       rw [hM] at HSQ
       have HS:=Lib.hid hS
       have HGS:Hid (gives (slotQ ks W H X Y way) (sharesG ks (wtTo ks m) (v - 255)) (rs.set j (v - 255),L) (k+1)=give (gives (slotQ ks W H X Y way) (sharesG ks (wtTo ks m) (v - 255)) (rs.set j (v - 255),L) k) (slotOf W H (X+M) (Y+PY)) S):=Lib.hid (by rw [gives,hS,HSQ.out])
       rw [HSQ.out] at gv
       obtain ⟨G,hG⟩: ∃G,gives (slotQ ks W H X Y way) (sharesG ks (wtTo ks m) (v - 255)) (rs.set j (v - 255),L) k=G:=⟨_,rfl⟩
       rw [hG] at HDR HGS gl1 gl2 gv
       obtain ⟨GR,GL⟩:=G
       dsimp only at HDR gl1 gl2 gv
       have GV:=Lib.hid gv
       clear gv hp hS hG kb
       have s1:-1000000≤S:=by omega
       have s2:S≤1000000:=by omega
       go_wp2_with fail
       refine (impl_plus X Y M PY _ (by omega) (by omega) (by omega) (by omega) (by omega) (by omega) (by omega) (by omega)).mono ?_
       rintro e w4 ⟨rfl,hb4⟩
       have HDR4:=Lib.hid ((HDR.out.alloc (.cells #[.int .i64 PX, .int .i64 PY, .int .i64 PT] 135)).below hb4)
       have HKP4:=Lib.hid ((HKP.out.alloc (.cells #[.int .i64 PX, .int .i64 PY, .int .i64 PT] 135)).trans (Keep.ofBelow hb4))
       clear hb4 hM a1 q0 q1 q2 d0 b0 b1
       go_wp2_with fail
       refine (impl_give B D gp gr _ m kcap W H n rc _ GR GL S (X+M) (Y+PY) _ HDR4.out w1 w2 h1 h2 HNN.out hn2 (by omega) (by omega) (by omega) (by omega) s1 s2 (by omega) (by omega) (fun i hi=>by have:=GV.out i hi;omega)).mono ?_
       rintro e w5 ⟨rfl,hd5,hk5⟩
       have HD5:=Lib.hid hd5
       have HK5:=Lib.hid (HKP4.out.trans hk5)
       clear hd5 hk5
       go_wp2_with fail
       go_roundw
       case rel=>exact ⟨k+1,by omega,by go_num,by rw [HGS.out];exact HD5.out,HK5.out⟩
       case measure=>simp [intOf];omega
     · obtain rfl:m=k:=by omega
       go_wp2_with fail
       go_end0
       exact ⟨rfl,HDR.out,HKA.out⟩
 case neg=>
   obtain ⟨e1,e2⟩:=dot_no hd128
   rw [e1]
   rw [e2] at HG⊢
   clear e1 e2
   go_enter Tryz.func169,Tryz.ntmps169
   go_wp2_with fail
   go_quiet (fail)
   clear u1 u2 hj
   go_wp2_with fail
   have HD2:Hid (DSt ((w.alloc (.cells #[.int .i64 X, .int .i64 Y] 149)).drewN nq) B D gp gr kad kn kcap W H n rc (ds.set j 0) (rs.set j v) L):=Lib.hid (by
     rw [set_same HDOT.out (by have:=HDL.out;omega),set_same HV.out (by have:=HD.out.rest.len;omega)]
     exact (HD.out.alloc _).drewN nq)
   have HKW:=Lib.hid (((Keep.refl (Trio D gp gr) w).alloc (.cells #[.int .i64 X, .int .i64 Y] 149)).drewN nq)
   have KB:=Lib.hid ((Blk.new w 149 #[.int .i64 X, .int .i64 Y]).drewN nq)
   obtain ⟨wo,hwo⟩: ∃wo:World,wo=((w.alloc (.cells #[.int .i64 X, .int .i64 Y] 149)).drewN nq):=⟨_,rfl⟩
   rw [←hwo] at HD2 HKW KB⊢
   have hE1:-1000000≤v:=by omega
   have hE2:v≤1000000:=by omega
   clear hwo
   clear c0 cc1 cc2 c3 c4 c5 g1 g2 p1 p2
   obtain ⟨dl2,c0,cc1,cc2,c3,c4,c5⟩:=HD2.out.c6
   have rl2:=HD2.out.rest.lt
   have g1:=HD2.out.rest.cell hjn
   have HRL:=Lib.hid HD2.out.rest.len
   rw [getD_set _ _ _ _ (by have:=HRL.out;simp at this;omega),if_pos rfl] at g1
   have u2:IntKind.i64.wrap (j:Int)=(j:Int):=IntWalk.i64_in _ (by omega)
   have u4:(0:Int)≤(j:Int):=by omega
   have u5:(j:Int)<(n:Int):=by omega
   go_region_held3 (fun u=>u.cell? ⟨D,0,none⟩=some (.slice kad kn kcap)∧u.cell? ⟨D,4,none⟩=some (.slice (some ⟨gr,0,none⟩) n rc)∧u.cell? ⟨gr,j,none⟩=some (.int .i64 v))
     (first | exact ⟨c0,c4,g1⟩ | exact ⟨(hb.cell dl2).trans c0,(hb.cell dl2).trans c4,(hb.cell rl2).trans g1⟩)
     (first
       | (go_at_call 200;((with_reducible refine (impl_split _ _ _ ks _ _ HKL.out (by exact (HKR.out _ HKW.out.drew)) hkc HKO.out hE1 hE2).mono ?_);rintro e w3 ⟨a,m,c,rfl,ho,hm,hb⟩)))
   clear c0 cc1 cc2 c3 c4 c5 g1
   have HO:=Lib.hid ho
   obtain rfl:m=kn:=by
     have h:=HO.out.len
     rw [sharesG_len,HKL.out] at h
     exact h.symm
   have HD3:=Lib.hid (HD2.out.drew.below hb)
   have HK3:=Lib.hid (HKW.out.drew.trans (Keep.ofBelow hb))
   have KB3:=Lib.hid (KB.out.drew.below' hb)
   have HTB:=Lib.hid (show∀i,Trio D gp gr i→i<wo.drew.heap.size from HD2.out.drew.trioLt)
   have HSL:Hid ((sharesG ks (wtTo ks m) v).length=m):=Lib.hid HO.out.len
   clear ho hb hm
   go_wp2_with fail
   go_loopw [58] (fun i wr=> ∃k:Nat,k≤m∧i= .int .i64 k∧DSt wr B D gp gr kad m kcap W H n rc (ds.set j 0) (gives (slotQ ks W H X Y way) (sharesG ks (wtTo ks m) v) (rs.set j v,L) k).1 (gives (slotQ ks W H X Y way) (sharesG ks (wtTo ks m) v) (rs.set j v,L) k).2∧Keep (Trio D gp gr) w3 wr) (fun i _=>m - (intOf i).toNat)
   case atStart=>exact ⟨0,Nat.zero_le _,rfl,HD3.out,Keep.refl _ _⟩
   case round=>
     obtain ⟨k,hk,rfl,hdr,hkp⟩:=hrel
     have HDR:=Lib.hid hdr
     have HKP:=Lib.hid hkp
     have HKA:=Lib.hid (HK3.out.trans hkp)
     clear hdr hkp
     by_cases hlt:k<m
     · obtain ⟨ba,oa,hae,hal,hac⟩:=(HKP.out.ownA HO.out HTB.out).rd.at (by have:=HSL.out;omega)
       subst hae
       have a1:=hac k (by have:=HSL.out;omega)
       clear hac
       obtain ⟨bk,ok,hke,hkl2,q0,q1,q2⟩:=rd_part (HKR.out _ HKA.out) (k:=k) (by have:=HKL.out;omega)
       subst hke
       obtain ⟨dl4,d0,_,_,_,_,_⟩:=HDR.out.c6
       have kb:=HKP.out.blk KB3.out (fun h=>by have:=HTL.out _ h;omega)
       have b0:=kb.cell 0
       have b1:=kb.cell 1
       have bl:=kb.lt
       simp only [List.getElem?_toArray,List.getElem?_cons_zero,List.getElem?_cons_succ] at b0 b1
       obtain ⟨S,hS⟩: ∃S,(sharesG ks (wtTo ks m) v).getD k 0=S:=⟨_,rfl⟩
       have sb:=share_bd (e:=v) HKL.out k1 k2 HK.out k hlt
       obtain ⟨gl1,gl2,gv⟩:=HG.out k hlt
       have HSQ:Hid (slotQ ks W H X Y way k=slotOf W H (X+way*(prt ks k).dx) (Y+(prt ks k).dy)):=Lib.hid rfl
       have pb:=partOk_bd (kern_part HK.out hlt).1
       obtain ⟨p,hp⟩: ∃p,prt ks k=p:=⟨_,rfl⟩
       rw [hp] at q0 q1 q2 HSQ pb
       rw [hS] at a1 sb
       obtain ⟨PX,PY,PT⟩:=p
       dsimp only at q0 q1 q2 HSQ pb
       obtain ⟨pb1,pb2,pb3,pb4,_⟩:=pb
       obtain ⟨M,hM⟩: ∃M,way*PX=M:=⟨_,rfl⟩
       have m1:-4≤M∧M≤4:=by rcases hway with h | h <;>(rw [h] at hM;omega)
       obtain ⟨m1,m2⟩:=m1
       rw [hM] at HSQ
       have HS:=Lib.hid hS
       have HGS:Hid (gives (slotQ ks W H X Y way) (sharesG ks (wtTo ks m) v) (rs.set j v,L) (k+1)=give (gives (slotQ ks W H X Y way) (sharesG ks (wtTo ks m) v) (rs.set j v,L) k) (slotOf W H (X+M) (Y+PY)) S):=Lib.hid (by rw [gives,hS,HSQ.out])
       rw [HSQ.out] at gv
       obtain ⟨G,hG⟩: ∃G,gives (slotQ ks W H X Y way) (sharesG ks (wtTo ks m) v) (rs.set j v,L) k=G:=⟨_,rfl⟩
       rw [hG] at HDR HGS gl1 gl2 gv
       obtain ⟨GR,GL⟩:=G
       dsimp only at HDR gl1 gl2 gv
       have GV:=Lib.hid gv
       clear gv hp hS hG kb
       have s1:-1000000≤S:=by omega
       have s2:S≤1000000:=by omega
       go_wp2_with fail
       refine (impl_plus X Y M PY _ (by omega) (by omega) (by omega) (by omega) (by omega) (by omega) (by omega) (by omega)).mono ?_
       rintro e w4 ⟨rfl,hb4⟩
       have HDR4:=Lib.hid ((HDR.out.alloc (.cells #[.int .i64 PX, .int .i64 PY, .int .i64 PT] 135)).below hb4)
       have HKP4:=Lib.hid ((HKP.out.alloc (.cells #[.int .i64 PX, .int .i64 PY, .int .i64 PT] 135)).trans (Keep.ofBelow hb4))
       clear hb4 hM a1 q0 q1 q2 d0 b0 b1
       go_wp2_with fail
       refine (impl_give B D gp gr _ m kcap W H n rc _ GR GL S (X+M) (Y+PY) _ HDR4.out w1 w2 h1 h2 HNN.out hn2 (by omega) (by omega) (by omega) (by omega) s1 s2 (by omega) (by omega) (fun i hi=>by have:=GV.out i hi;omega)).mono ?_
       rintro e w5 ⟨rfl,hd5,hk5⟩
       have HD5:=Lib.hid hd5
       have HK5:=Lib.hid (HKP4.out.trans hk5)
       clear hd5 hk5
       go_wp2_with fail
       go_roundw
       case rel=>exact ⟨k+1,by omega,by go_num,by rw [HGS.out];exact HD5.out,HK5.out⟩
       case measure=>simp [intOf];omega
     · obtain rfl:m=k:=by omega
       go_wp2_with fail
       go_end0
       exact ⟨rfl,HDR.out,HKA.out⟩
end Go.Proofs.YtanccoopbgamdaaGreatDoor
namespace Go.Proofs.YtanccoopbgamdaaGreatDoor
set_option linter.unusedVariables false
set_option linter.unusedSimpArgs false
section
variable {alt : Bool} {ks : List Prt} {W H : Int} {ink : List Int} {n : Nat}
structure RunAt (alt:Bool) (ks:List Prt) (W H:Int) (ink:List Int) (n t:Nat) (ds rs:List Int) (L:Int):Prop where
 hd:ds=(runG alt ks W H ink t).dots
 hL:L=(runG alt ks W H ink t).lost
 hl:rs.length=n
 old: ∀i,i<t→i<n→rs.getD (posAt alt W i) 0=(runG alt ks W H ink t).errs.getD (posAt alt W i) 0
 new: ∀i,t≤i→i<n→rs.getD (posAt alt W i) 0=(runG alt ks W H ink t).pend.getD (posAt alt W i) 0
theorem RunAt.start (h:RunOk alt ks W H ink n):RunAt alt ks W H ink n 0 (List.replicate n 0) ink 0:=
 ⟨by simp only [runG];rw [h.hl],rfl,h.hl,fun i hi=>by omega,fun i _ hi=>rfl⟩
theorem gives_agree {S:Nat→Prop} {a b:List Int × Int} {T:Nat→Option Nat} {sh:List Int} (hl:a.1.length=b.1.length) (h: ∀j,S j→a.1.getD j 0=b.1.getD j 0) (h2:a.2=b.2) (k:Nat):
   (∀j,S j→(gives T sh a k).1.getD j 0=(gives T sh b k).1.getD j 0)∧(gives T sh a k).2=(gives T sh b k).2:=by
 induction k with
 | zero=>exact ⟨h,h2⟩
 | succ k ih=>
   simp only [gives]
   exact ⟨give_agree (by rw [gives_len,gives_len,hl]) ih.1,give_lost _ _ _ _ ih.2⟩
theorem RunAt.here {t:Nat} {ds rs:List Int} {L:Int} (h:RunOk alt ks W H ink n) (r:RunAt alt ks W H ink n t ds rs L) (ht:t<n):
   rs.getD (posAt alt W t) 0=(runG alt ks W H ink t).pend.getD (posAt alt W t) 0∧ds.getD (posAt alt W t) 0=0∧-300000≤rs.getD (posAt alt W t) 0∧rs.getD (posAt alt W t) 0≤300000:=by
 have e:=r.new t (Nat.le_refl _) ht
 have b:=run_val h t (by omega) (posAt alt W t)
 have z:=(run_inv h t (by omega)).2.1 t (Nat.le_refl _) ht
 exact ⟨e,by rw [r.hd];exact z.1,by omega,by omega⟩
theorem RunAt.mid {t:Nat} {ds rs:List Int} {L:Int} (h:RunOk alt ks W H ink n) (r:RunAt alt ks W H ink n t ds rs L) (ht:t<n) (k:Nat) (hk:k≤ks.length):
   (∀i,t<i→i<n→(givesAt alt ks W H t (errOf (rs.getD (posAt alt W t) 0)) (rs.set (posAt alt W t) (errOf (rs.getD (posAt alt W t) 0)),L) k).1.getD (posAt alt W i) 0=(givesAt alt ks W H t (errOf ((runG alt ks W H ink t).pend.getD (posAt alt W t) 0)) ((runG alt ks W H ink t).pend.set (posAt alt W t) 0,(runG alt ks W H ink t).lost) k).1.getD (posAt alt W i) 0)∧
   (givesAt alt ks W H t (errOf (rs.getD (posAt alt W t) 0)) (rs.set (posAt alt W t) (errOf (rs.getD (posAt alt W t) 0)),L) k).2=(givesAt alt ks W H t (errOf ((runG alt ks W H ink t).pend.getD (posAt alt W t) 0)) ((runG alt ks W H ink t).pend.set (posAt alt W t) 0,(runG alt ks W H ink t).lost) k).2:=by
 have e:=(r.here h ht).1
 rw [e]
 unfold givesAt
 have l2:=(run_len (alt:=alt) (ks:=ks) (W:=W) (H:=H) (ink:=ink) t).2.1
 have g:=gives_agree (S:=fun j=> ∃i,t<i∧i<n∧j=posAt alt W i) (a:=(rs.set (posAt alt W t) (errOf ((runG alt ks W H ink t).pend.getD (posAt alt W t) 0)),L)) (b:=((runG alt ks W H ink t).pend.set (posAt alt W t) 0,(runG alt ks W H ink t).lost))
   (T:=fun q=>tgtAt alt W H t (prt ks q)) (sh:=sharesG ks (wtTo ks ks.length) (errOf ((runG alt ks W H ink t).pend.getD (posAt alt W t) 0)))
   (by simp only [List.length_set];rw [r.hl,l2,h.hl]) (fun j hj=>by
     obtain ⟨i,hi1,hi2,rfl⟩:=hj
     simp only
     rw [getD_set_ne _ _ (h.ne ht hi2 (by omega)),getD_set_ne _ _ (h.ne ht hi2 (by omega))]
     exact r.new i (by omega) hi2) r.hL k
 exact ⟨fun i h1 h2=>g.1 _ ⟨i,h1,h2,rfl⟩,g.2⟩
theorem RunAt.safe {t:Nat} {ds rs:List Int} {L:Int} (h:RunOk alt ks W H ink n) (r:RunAt alt ks W H ink n t ds rs L) (ht:t<n) (k:Nat) (hk:k<ks.length):
   -300000≤(givesAt alt ks W H t (errOf (rs.getD (posAt alt W t) 0)) (rs.set (posAt alt W t) (errOf (rs.getD (posAt alt W t) 0)),L) k).2∧(givesAt alt ks W H t (errOf (rs.getD (posAt alt W t) 0)) (rs.set (posAt alt W t) (errOf (rs.getD (posAt alt W t) 0)),L) k).2≤300000∧
   ∀i,tgtAt alt W H t (prt ks k)=some i→-300000≤(givesAt alt ks W H t (errOf (rs.getD (posAt alt W t) 0)) (rs.set (posAt alt W t) (errOf (rs.getD (posAt alt W t) 0)),L) k).1.getD i 0∧(givesAt alt ks W H t (errOf (rs.getD (posAt alt W t) 0)) (rs.set (posAt alt W t) (errOf (rs.getD (posAt alt W t) 0)),L) k).1.getD i 0≤300000:=by
 obtain ⟨m1,m2⟩:=r.mid h ht k (by omega)
 have b:=fun j=>mid_val h t ht k (by omega) j
 refine ⟨by rw [m2];exact (b 0).2.2.1,by rw [m2];exact (b 0).2.2.2,fun i hi=>?_⟩
 obtain ⟨q,q1,q2,rfl⟩:=h.tgt ht hk hi
 rw [m1 q q1 q2]
 exact ⟨(b _).1,(b _).2.1⟩
theorem RunAt.step {t:Nat} {ds rs:List Int} {L:Int} (h:RunOk alt ks W H ink n) (r:RunAt alt ks W H ink n t ds rs L) (ht:t<n):
   RunAt alt ks W H ink n (t+1) (ds.set (posAt alt W t) (dotOf (rs.getD (posAt alt W t) 0)))
     (givesAt alt ks W H t (errOf (rs.getD (posAt alt W t) 0)) (rs.set (posAt alt W t) (errOf (rs.getD (posAt alt W t) 0)),L) ks.length).1
     (givesAt alt ks W H t (errOf (rs.getD (posAt alt W t) 0)) (rs.set (posAt alt W t) (errOf (rs.getD (posAt alt W t) 0)),L) ks.length).2:=by
 obtain ⟨m1,m2⟩:=r.mid h ht ks.length (Nat.le_refl _)
 have e:=(r.here h ht).1
 obtain ⟨l1,l2,l3⟩:=run_len (alt:=alt) (ks:=ks) (W:=W) (H:=H) (ink:=ink) t
 have hp:=h.pos (alt:=alt) ht
 refine ⟨by rw [r.hd,e];rfl,by rw [m2];rfl,by rw [givesAt_len];simpa using r.hl,fun i hi hin=>?_,fun i hi hin=>?_⟩
 · have no: ∀q,q<ks.length→tgtAt alt W H t (prt ks q)≠some (posAt alt W i):=fun q hq hT=>by
     obtain ⟨m,k1,k2,k3⟩:=h.tgt ht hq hT
     exact h.ne hin k2 (by omega) k3
   have g:(givesAt alt ks W H t (errOf (rs.getD (posAt alt W t) 0)) (rs.set (posAt alt W t) (errOf (rs.getD (posAt alt W t) 0)),L) ks.length).1.getD (posAt alt W i) 0=(rs.set (posAt alt W t) (errOf (rs.getD (posAt alt W t) 0))).getD (posAt alt W i) 0:=gives_else no
   rw [g]
   simp only [runG,passG]
   by_cases c:i=t
   · subst c
     rw [getD_set _ _ _ _ (by rw [r.hl];exact hp),if_pos rfl,getD_set _ _ _ _ (by rw [l3,h.hl];exact hp),if_pos rfl,e]
   · rw [getD_set_ne _ _ (h.ne ht hin (by omega)),getD_set_ne _ _ (h.ne ht hin (by omega))]
     exact r.old i (by omega) hin
 · rw [m1 i (by omega) hin]
   rfl
theorem RunAt.done {ds rs:List Int} {L:Int} (h:RunOk alt ks W H ink n) (r:RunAt alt ks W H ink n n ds rs L):ds=(runG alt ks W H ink n).dots∧rs=(runG alt ks W H ink n).errs∧L=(runG alt ks W H ink n).lost:=by
 refine ⟨r.hd,?_,r.hL⟩
 have l3:=(run_len (alt:=alt) (ks:=ks) (W:=W) (H:=H) (ink:=ink) n).2.2
 have hlr:=r.hl
 have hli:=h.hl
 apply List.ext_getElem?
 intro j
 by_cases hj:j<n
 · have q:=h.pos (alt:=alt) hj
   have:=r.old (posAt alt W j) q q
   rw [posAt_inv h.W1 h.hn hj] at this
   simp only [List.getD,List.getElem?_eq_getElem (show j<rs.length by omega),List.getElem?_eq_getElem (show j<(runG alt ks W H ink n).errs.length by omega),Option.getD_some] at this
   rw [List.getElem?_eq_getElem (show j<rs.length by omega),List.getElem?_eq_getElem (show j<(runG alt ks W H ink n).errs.length by omega),this]
 · rw [List.getElem?_eq_none (by omega),List.getElem?_eq_none (by omega)]
end
end Go.Proofs.YtanccoopbgamdaaGreatDoor
