/-
  Contracts and plain facts on which the theorem of this claim rests, text 40.
-/
import Derived.Lib.ReplaceLaws
import Derived.Test.YtanccoopbgamdaaGreatDoorKC5
import Derived.Test.YtanccoopbgamdaaGreatDoorKC7
import Derived.Test.YtanccoopbgamdaaGreatDoorKC16
import Derived.Test.YtanccoopbgamdaaGreatDoorKC39
namespace Go.Proofs.YtanccoopbgamdaaGreatDoor
open Go.RowKit
set_option linter.unusedVariables false
set_option linter.unusedSimpArgs false
def changeT (f:Pic→Pic) (d:Dat) (q:Pic):Dat × List UInt8:=((d.1,d.2.1,d.2.2.set (d.2.2.length - 1) (f q)),ansOk)
def dropT (d:Dat) (q:Pic):Dat × List UInt8:=((d.1,d.2.1,d.2.2.take (d.2.2.length - 1)),ansOk)
def showT (d:Dat) (q:Pic):Dat × List UInt8:=(d,Lib.replaceAll (Lib.trimSuffix (textF q.W q.H q.ink) [10]) [10] [47])
set_option maxRecDepth 100000 in
set_option maxHeartbeats 1600000 in
theorem told_change (hc bx:Nat) (f:Pic→Pic) (k r:Nat) (w:World) (B g:Nat) (D:Dsk) (hin:PerfIn w B g D) (hk:D.n=k+1) (hr:D.a=some ⟨r,0,none⟩) (eh: ∀args w,(callFunc hc args).run Tryz.prog w= .ok (.enter hc args) w)
   (hbx:w.cell? ⟨bx,0,none⟩=some (.func (.func hc) #[] #[])) (hbl:bx<w.heap.size)
   (hcg: ∀v,BelowL w v→Calls Tryz.prog hc #[.agg #[.int .i64 (pv D.ps k).W, .int .i64 (pv D.ps k).H, .slice (pv D.ps k).a (pv D.ps k).n (pv D.ps k).c]] v (PicOut v (f (pv D.ps k).pic))):
   Calls Tryz.prog 103 #[.pointer (some ⟨g,0,none⟩), .pointer (some ⟨r,k*3,none⟩), .pointer (some ⟨bx,0,none⟩)] w (PerfOut B g D (fun d=>changeT f d (pv D.ps k).pic) w):=by
 have HIN:=Lib.hid hin
 have HC:=Lib.hid hcg
 obtain ⟨c0,c1,c2,ln,rd,sm,_⟩:=hin.last hk hr
 have KK:=Lib.hid hk
 have KR:=Lib.hid hr
 have hlen:D.dat.2.2.length=k+1:=by show (picsV D.ps).length=k+1;rw [picsV_len,hin.own.s.len,hk]
 have E:Hid (changeT f D.dat (pv D.ps k).pic=((D.P.pic,D.M.pic,(picsV D.ps).set k (f (pv D.ps k).pic)),ansOk)):=Lib.hid (by unfold changeT;rw [hlen,Nat.add_sub_cancel];rfl)
 obtain ⟨q,hq⟩: ∃q,pv D.ps k=q:=⟨_,rfl⟩
 rw [hq] at c0 c1 c2 HC E⊢
 have hrb:r<w.heap.size:=(hin.own.bd r (.inr (.inr (.inl (by rw [hr];rfl))))).2
 have MK:Hid (∀v,BelowL w v→v.cell? ⟨r,k*3,none⟩=some (.int .i64 q.W)∧v.cell? ⟨r,k*3+1,none⟩=some (.int .i64 q.H)∧v.cell? ⟨r,k*3+2,none⟩=some (.slice q.a q.n q.c)∧v.cell? ⟨bx,0,none⟩=some (.func (.func hc) #[] #[])∧BelowL w v):=Lib.hid (fun v h=>⟨(h.out.cell hrb).trans c0,(h.out.cell hrb).trans c1,(h.out.cell hrb).trans c2,(h.out.cell hbl).trans hbx,h⟩)
 clear hin hcg hk hr c0 c1 c2 ln rd hq hlen hbx
 go_enter Tryz.func103,Tryz.ntmps103
 go_upto_region 1 with fail
 refine wp_region_T 7 (fun v=>v.cell? ⟨r,k*3,none⟩=some (.int .i64 q.W)∧v.cell? ⟨r,k*3+1,none⟩=some (.int .i64 q.H)∧v.cell? ⟨r,k*3+2,none⟩=some (.slice q.a q.n q.c)∧v.cell? ⟨bx,0,none⟩=some (.func (.func hc) #[] #[])∧BelowL w v) (by kernel_rfl) (MK.out _ (BelowL.start _)) ?_
 intro hHeld
 have hb0:=limb5 hHeld
 refine tTake 0 ?_
 refine tTake 1 ?_
 refine tTake 2 ?_
 refine tTake 3 ?_
 refine tTake 4 ?_
 refine tOne 5 (fun K hK=>?_)
 go_simp
 go_at_fn hc
 ((refine (HC.out _ hb0).mono ?_);rintro e v1 ⟨a1,n1,k1,rfl,ho,hn1,hq1⟩)
 have hb1:=BelowL.call hb0 hq1
 go_wp2_with fail
 refine hK.out _ _ (fun _=>by (try dsimp only);exact MK.out _ hb1) (fun hH2=>?_)
 clear hK K hHeld hH2
 refine tOne 6 (fun K hK=>?_)
 go_simp
 refine hK.out _ _ (fun _=>by (try dsimp only);exact MK.out _ hb1) (fun hH2=>?_)
 clear hK K hH2
 have hV1:=HIN.out.own.s.below hb1.out
 have hRow:=hV1
 rw [KR.out] at hRow
 have f0:=hRow.rowOf.frozen (k*3)
 have f1:=hRow.rowOf.frozen (k*3+1)
 have f2:=hRow.rowOf.frozen (k*3+2)
 obtain ⟨c0,c1,c2,c3,_⟩:=MK.out _ hb1
 clear c3
 refine tOne 7 (fun K hK=>?_)
 go_simp
 refine hK.out _ _ (fun h=>absurd h (by decide)) (fun hH2=>?_)
 clear hK K hH2
 refine wpAnyT_done (by kernel_rfl) ?_ _
 (try go_simp)
 go_wp2_with fail
 go_ret
 have hbase:=HIN.out.base
 have hkn:k<D.n:=by have:=KK.out;omega
 have hkl:k<D.ps.length:=by rw [HIN.out.own.s.len];exact hkn
 have hfr: ∀b,blockOf a1=some b→w.heap.size≤b∧b<v1.heap.size:=fun b hb=>by have:=ho.bd b hb;simpa using this
 have hdb: ∀b,D.blocks b→b<w.heap.size:=fun b hb=>(HIN.out.own.bd b hb).2
 have hrD:D.blocks r:= .inr (.inr (.inl (by rw [KR.out];rfl)))
 have hrg:r≠g:=HIN.out.off r hrD
 have hBr:B≤r:=(HIN.out.own.bd r hrD).1
 have hgl:=HIN.out.box.lt
 have hsz:=HIN.out.size
 obtain ⟨np,hnp⟩: ∃np:PV,np=⟨(f q.pic).W,(f q.pic).H,a1,n1,k1,(f q.pic).ink⟩:=⟨_,rfl⟩
 have hov:OwnA v1 B np.a np.n np.c np.ink:=by rw [hnp];exact ho.mono (by simpa using hsz)
 have hset:=OwnV.setPic hRow hkn np hov (fun b hb=>by
   rw [hnp] at hb
   have h1:=hfr b hb
   refine ⟨by omega,fun hbl=>?_⟩
   have h2:=hdb b (.inr (.inr (by rw [KR.out];exact hbl)))
   omega)
 have hA2: ∀b,OwnV.blocks (some ⟨r,0,none⟩) (D.ps.set k np) b→OwnV.blocks D.a D.ps b∨w.heap.size≤b:=fun b hb=>by
   rcases hb with hb | ⟨j,hj,hb⟩
   · exact .inl (.inl (by rw [KR.out];exact hb))
   · by_cases e:k=j
     · subst e
       rw [pv_set_eq hkl,hnp] at hb
       exact .inr (hfr b hb).1
     · rw [pv_set_ne e] at hb
       exact .inl (.inr ⟨j,by simpa using hj,hb⟩)
 have kR: ∀ {u:World} {T:Nat} {cs:Array Value} (i:Nat) (x:Value),Blk u g T cs→Blk (u.setCell ⟨r,i,none⟩ x) g T cs:=fun i x h=>h.other (by simpa using hrg) x
 have kA: ∀ {u:World} {ad:Option Addr} {m c:Nat} {zs:List Int} (i:Nat) (x:Value),(∀b,blockOf ad=some b→b≠r)→OwnA u B ad m c zs→OwnA (u.setCell ⟨r,i,none⟩ x) B ad m c zs:=fun i x hx h=>h.otherT (fun e=>hx _ e rfl) x
 have gP: ∀b,blockOf D.P.a=some b→b≠r:=fun b hb e=>HIN.out.own.ps r (.inl (by rw [KR.out];rfl)) (by rw [hb,e])
 have gM: ∀b,blockOf D.M.a=some b→b≠r:=fun b hb e=>HIN.out.own.ms r (.inl (by rw [KR.out];rfl)) (by rw [hb,e])
 refine ⟨⟨D.P,D.M,some ⟨r,0,none⟩,D.n,D.c,D.ps.set k np⟩,?_,?_,⟨?_,?_,?_,HIN.out.own.pm,fun b hb e=>?_,fun b hb e=>?_⟩,fun b hb=>?_,?_,⟨HIN.out.small.p,HIN.out.small.m,HIN.out.small.n,fun j hj=>?_⟩,?_⟩
 · show _=Ending.returned (.string ⟨(changeT f D.dat q.pic).2.toArray⟩);rw [E.out];rfl
 · have hb:=kR (k*3+2) (.slice a1 n1 k1) (kR (k*3+1) (.int .i64 (f q.pic).H) (kR (k*3) (.int .i64 (f q.pic).W) (HIN.out.box.below' hb1.out)))
   unfold Dsk.cells at hb⊢
   dsimp only
   rw [KR.out] at hb
   exact hb
 · exact kA _ _ gP (kA _ _ gP (kA _ _ gP (HIN.out.own.p.below' hb1.out)))
 · exact kA _ _ gM (kA _ _ gM (kA _ _ gM (HIN.out.own.m.below' hb1.out)))
 · rw [hnp] at hset⊢;exact hset
 · rcases hA2 b hb with hb | hb
   · exact HIN.out.own.ps b hb e
   · have:=hdb b (.inl e);omega
 · rcases hA2 b hb with hb | hb
   · exact HIN.out.own.ms b hb e
   · have:=hdb b (.inr (.inl e));omega
 · rcases hb with hb | hb | hb
   · exact HIN.out.off b (.inl hb)
   · exact HIN.out.off b (.inr (.inl hb))
   · rcases hA2 b hb with hb | hb
     · exact HIN.out.off b (.inr (.inr hb))
     · omega
 · show _=(changeT f D.dat q.pic).1
   rw [E.out]
   show (D.P.pic,D.M.pic,picsV (D.ps.set k np))=(D.P.pic,D.M.pic,(picsV D.ps).set k (f q.pic))
   rw [hnp]
   simp [picsV,List.map_set,PV.pic]
 · by_cases e:k=j
   · subst e
     show (pv (D.ps.set k np) k).n≤1048576
     rw [pv_set_eq hkl,hnp];exact hn1
   · show (pv (D.ps.set k np) j).n≤1048576
     rw [pv_set_ne e];exact HIN.out.small.s j (by simpa using hj)
 · exact (((hb1.out.mono hsz).setCell hBr _).setCell hBr _).setCell hBr _
theorem OwnV.take {w:World} {B n cap:Nat} {g:Nat} {L:List PV} (h:OwnV w B (some ⟨g,0,none⟩) n cap L) (k:Nat) (hk:k≤n):OwnV w B (some ⟨g,0,none⟩) k cap (L.take k):=by
 have hl:=h.len
 have hp: ∀j,j<k→pv (L.take k) j=pv L j:=fun j hj=>by
   unfold pv
   simp [List.getD,List.getElem?_take,hj]
 refine ⟨by rw [List.length_take];omega,?_,fun j hj=>by rw [hp j hj];exact h.ink j (by omega),fun j b hj hb=>by rw [hp j hj] at hb;exact h.off j b (by omega) hb,fun i j b hij hj hb=>by
   rw [hp i (by omega)] at hb
   rw [hp j hj]
   exact h.apart i j b hij (by omega) hb⟩
 rcases h.row with ⟨h0,_⟩ | ⟨g2,h1,h2,cur,q1,q2,q3,q4,q5⟩
 · cases h0
 · cases h1
   refine .inr ⟨g,rfl,h2,cur,q1,by rw [List.length_take];omega,q3,q4,?_⟩
   have e:flatV L=flatV (L.take k)++flatV (L.drop k):=by
     have h3:flatV (L.take k++L.drop k)=flatV (L.take k)++flatV (L.drop k):=by unfold flatV;rw [List.flatMap_append]
     rw [List.take_append_drop] at h3
     exact h3
   have e2:(flatV (L.take k)).length=(L.take k).length*3:=flatV_len _
   have e3:cur.toList.take ((L.take k).length*3)=(cur.toList.take (L.length*3)).take ((L.take k).length*3):=by
     rw [List.take_take,Nat.min_eq_left (by rw [List.length_take];omega)]
   rw [e3,q5,e,←e2,List.take_left]
set_option maxRecDepth 100000 in
set_option maxHeartbeats 1600000 in
theorem told_drop (k r:Nat) (w:World) (B g:Nat) (D:Dsk) (hin:PerfIn w B g D) (hk:D.n=k+1) (hr:D.a=some ⟨r,0,none⟩) (hcap:k+1≤D.c):
   Calls Tryz.prog 84 #[.pointer (some ⟨g,0,none⟩), .pointer (some ⟨r,k*3,none⟩)] w (PerfOut B g D (fun d=>dropT d (pv D.ps k).pic) w):=by
 have HIN:=Lib.hid hin
 have KG:Blk w g 43 #[.int .i64 D.P.W, .int .i64 D.P.H, .slice D.P.a D.P.n D.P.c, .int .i64 D.M.W, .int .i64 D.M.H, .slice D.M.a D.M.n D.M.c, .slice D.a D.n D.c]:=hin.box
 obtain ⟨m0,d0,d1,d2,d3,d4,d5,d6⟩:=KG.c7
 obtain ⟨f0,f1,f2,f3,f4,f5,f6⟩:=KG.f7
 rw [hk,hr] at d6
 have KK:=Lib.hid hk
 have KR:=Lib.hid hr
 have hlen:D.dat.2.2.length=k+1:=by show (picsV D.ps).length=k+1;rw [picsV_len,hin.own.s.len,hk]
 have E:Hid (dropT D.dat (pv D.ps k).pic=((D.P.pic,D.M.pic,(picsV D.ps).take k),ansOk)):=Lib.hid (by unfold dropT;rw [hlen,Nat.add_sub_cancel];rfl)
 have hnn:=hin.small.n
 have hk0:(0:Int)≤(k:Int):=by omega
 have hk2:IntKind.i64.wrap (((k+1:Nat):Int) - 1)=(k:Int):=by rw [IntWalk.i64_in _ (by omega)];omega
 have hk3:IntKind.i64.wrap (k:Int)=(k:Int):=IntWalk.i64_in _ (by omega)
 have hk4:k≤D.c:=by omega
 have KGH:=Lib.hid KG
 clear hin hlen d0 d1 d2 d3 d4 d5 KG hk hr
 go_enter Tryz.func84,Tryz.ntmps84
 go_upto_region 1 with fail
 have MK:Hid (∀v,BelowL w v→v.cell? ⟨g,6,none⟩=some (.slice (some ⟨r,0,none⟩) (k+1) D.c)∧BelowL w v):=Lib.hid (fun v h=>⟨(h.out.cell m0).trans d6,h⟩)
 refine wp_region_T 14 (fun v=>v.cell? ⟨g,6,none⟩=some (.slice (some ⟨r,0,none⟩) (k+1) D.c)∧BelowL w v) (by kernel_rfl) (MK.out _ (BelowL.start _)) ?_
 intro hHeld
 refine tTake 0 ?_
 refine tTake 1 ?_
 refine tTake 2 ?_
 refine tTake 3 ?_
 refine tTake 4 ?_
 refine tTake 5 ?_
 refine tTake 6 ?_
 refine tTake 7 ?_
 refine tTake 8 ?_
 refine tTake 9 ?_
 refine tTake 10 ?_
 refine tTake 11 ?_
 refine tOne 12 (fun K hK=>?_)
 go_simp
 refine hK.out _ _ (fun _=>by (try dsimp only);exact MK.out _ (BelowL.start _)) (fun hH2=>?_)
 clear hK K hHeld hH2
 refine tOne 13 (fun K hK=>?_)
 go_simp
 refine hK.out _ _ (fun _=>by (try dsimp only);exact MK.out _ (BelowL.start _)) (fun hH2=>?_)
 clear hK K hH2
 refine tOne 14 (fun K hK=>?_)
 go_simp
 refine hK.out _ _ (fun h=>absurd h (by decide)) (fun hH2=>?_)
 clear hK K hH2
 refine wpAnyT_done (by kernel_rfl) ?_ _
 (try go_simp)
 go_wp2_with fail
 go_ret
 have hbase:=HIN.out.base
 have hrD:D.blocks r:= .inr (.inr (.inl (by rw [KR.out];rfl)))
 have hrg:r≠g:=HIN.out.off r hrD
 have hkl:D.ps.length=k+1:=by rw [HIN.out.own.s.len,KK.out]
 have hV:=HIN.out.own.s
 rw [KR.out,KK.out] at hV
 have hT:=hV.take k (by omega)
 have hA2: ∀b,OwnV.blocks (some ⟨r,0,none⟩) (D.ps.take k) b→OwnV.blocks D.a D.ps b:=fun b hb=>by
   rcases hb with hb | ⟨j,hj,hb⟩
   · exact .inl (by rw [KR.out];exact hb)
   · rw [List.length_take] at hj
     refine .inr ⟨j,by omega,?_⟩
     have e:pv (D.ps.take k) j=pv D.ps j:=by unfold pv;simp [List.getD,List.getElem?_take,show j<k by omega]
     rw [e] at hb
     exact hb
 have hk6:KeepT (fun i=>i=g) w ((w.setCell ⟨g,6,none⟩ (.slice (some ⟨r,0,none⟩) k D.c)).drew):=by
   have h:=KeepT.set (S:=fun i=>i=g) (KeepT.refl _ w) (a:=⟨g,6,none⟩) rfl (.slice (some ⟨r,0,none⟩) k D.c)
   exact ⟨h.os,h.tape,h.output,h.size,h.block⟩
 have gP: ∀b,blockOf D.P.a=some b→b≠g:=fun b hb=>HIN.out.off b (.inl hb)
 have gM: ∀b,blockOf D.M.a=some b→b≠g:=fun b hb=>HIN.out.off b (.inr (.inl hb))
 refine ⟨⟨D.P,D.M,some ⟨r,0,none⟩,k,D.c,D.ps.take k⟩,?_,(KGH.out.putS _).drew,⟨?_,?_,?_,HIN.out.own.pm,fun b hb=>HIN.out.own.ps b (hA2 b hb),fun b hb=>HIN.out.own.ms b (hA2 b hb)⟩,fun b hb=>?_,?_,⟨HIN.out.small.p,HIN.out.small.m,by have:=KK.out;show k≤1048576;omega,fun j hj=>?_⟩,?_⟩
 · show _=Ending.returned (.string ⟨(dropT D.dat (pv D.ps k).pic).2.toArray⟩);rw [E.out];rfl
 · exact hk6.ownA HIN.out.own.p (fun b hb e=>gP b hb e)
 · exact hk6.ownA HIN.out.own.m (fun b hb e=>gM b hb e)
 · exact hk6.ownV hT (fun i hi e=>HIN.out.off i (.inr (.inr (hA2 i hi))) e)
 · rcases hb with hb | hb | hb
   · exact gP b hb
   · exact gM b hb
   · exact HIN.out.off b (.inr (.inr (hA2 b hb)))
 · show _=(dropT D.dat (pv D.ps k).pic).1
   rw [E.out]
   show (D.P.pic,D.M.pic,picsV (D.ps.take k))=(D.P.pic,D.M.pic,(picsV D.ps).take k)
   simp [picsV,List.map_take]
 · have hj2:j<k:=by
     have hj3:j<(D.ps.take k).length:=hj
     rw [List.length_take] at hj3;omega
   show (pv (D.ps.take k) j).n≤1048576
   have e:pv (D.ps.take k) j=pv D.ps j:=by unfold pv;simp [List.getD,List.getElem?_take,hj2]
   rw [e];exact HIN.out.small.s j (by omega)
 · exact ((Below.refl B w).setCell hbase _).drew
set_option maxRecDepth 100000 in
set_option maxHeartbeats 1600000 in
theorem told_error (k r:Nat) (w:World) (B g:Nat) (D:Dsk) (hin:PerfIn w B g D) (hk:D.n=k+1) (hr:D.a=some ⟨r,0,none⟩) (hi:InI64 (errF D.P.W D.P.H D.P.ink (pv D.ps k).W (pv D.ps k).H (pv D.ps k).ink)):
   Calls Tryz.prog 89 #[.pointer (some ⟨g,0,none⟩), .pointer (some ⟨r,k*3,none⟩)] w (PerfOut B g D (fun d=>errorT d (pv D.ps k).pic) w):=by
 have HIN:=Lib.hid hin
 obtain ⟨c0,c1,c2,ln,rd,sm,_⟩:=hin.last hk hr
 have KG:Blk w g 43 #[.int .i64 D.P.W, .int .i64 D.P.H, .slice D.P.a D.P.n D.P.c, .int .i64 D.M.W, .int .i64 D.M.H, .slice D.M.a D.M.n D.M.c, .slice D.a D.n D.c]:=hin.box
 obtain ⟨m0,d0,d1,d2,d3,d4,d5,d6⟩:=KG.c7
 have hrb:r<w.heap.size:=(hin.own.bd r (.inr (.inr (.inl (by rw [hr];rfl))))).2
 obtain ⟨q,hq⟩: ∃q,pv D.ps k=q:=⟨_,rfl⟩
 rw [hq] at c0 c1 c2 ln rd sm hi⊢
 have RD:=Lib.hid rd
 have LN:=Lib.hid ln
 obtain ⟨V,hV⟩: ∃V,errF D.P.W D.P.H D.P.ink q.W q.H q.ink=V:=⟨_,rfl⟩
 have E:Hid (errorT D.dat q.pic=(D.dat,textI [V])):=Lib.hid (by unfold errorT;rw [←hV];rfl)
 rw [hV] at hi
 have HI:=Lib.hid hi
 have CE:Hid (∀v,BelowL w v→Calls Tryz.prog 111 #[.agg #[.int .i64 D.P.W, .int .i64 D.P.H, .slice D.P.a D.P.n D.P.c], .agg #[.int .i64 q.W, .int .i64 q.H, .slice q.a q.n q.c]] v fun e w'=>e= .returned (.int .i64 V)∧Below v.heap.size v w'):=Lib.hid (fun v hv=>by
   rw [←hV]
   exact impl_ErrorOf D.P.W D.P.H D.P.a D.P.n D.P.c D.P.ink q.W q.H q.a q.n q.c q.ink v HIN.out.own.p.len (HIN.out.own.p.rd.below hv.out) (by have:=HIN.out.small.p;omega) LN.out (RD.out.below hv.out) (by omega))
 have MK:Hid (∀v,BelowL w v→v.cell? ⟨g,0,none⟩=some (.int .i64 D.P.W)∧v.cell? ⟨g,1,none⟩=some (.int .i64 D.P.H)∧v.cell? ⟨g,2,none⟩=some (.slice D.P.a D.P.n D.P.c)∧v.cell? ⟨r,k*3,none⟩=some (.int .i64 q.W)∧v.cell? ⟨r,k*3+1,none⟩=some (.int .i64 q.H)∧v.cell? ⟨r,k*3+2,none⟩=some (.slice q.a q.n q.c)∧BelowL w v):=Lib.hid (fun v h=>⟨(h.out.cell m0).trans d0,(h.out.cell m0).trans d1,(h.out.cell m0).trans d2,(h.out.cell hrb).trans c0,(h.out.cell hrb).trans c1,(h.out.cell hrb).trans c2,h⟩)
 clear hin hk hr rd ln hi hq hV c0 c1 c2 d0 d1 d2 d3 d4 d5 d6 KG
 go_enter Tryz.func89,Tryz.ntmps89
 go_upto_region 1 with fail
 refine wp_region_T 10 (fun v=>v.cell? ⟨g,0,none⟩=some (.int .i64 D.P.W)∧v.cell? ⟨g,1,none⟩=some (.int .i64 D.P.H)∧v.cell? ⟨g,2,none⟩=some (.slice D.P.a D.P.n D.P.c)∧v.cell? ⟨r,k*3,none⟩=some (.int .i64 q.W)∧v.cell? ⟨r,k*3+1,none⟩=some (.int .i64 q.H)∧v.cell? ⟨r,k*3+2,none⟩=some (.slice q.a q.n q.c)∧BelowL w v) (by kernel_rfl) (MK.out _ (BelowL.start _)) ?_
 intro hHeld
 have hb0:=limb7 hHeld
 refine tTake 0 ?_
 refine tTake 1 ?_
 refine tTake 2 ?_
 refine tTake 3 ?_
 refine tTake 4 ?_
 refine tTake 5 ?_
 refine tTake 6 ?_
 refine tOne 7 (fun K hK=>?_)
 go_simp
 go_at_call 111
 ((with_reducible refine (CE.out _ hb0).mono ?_);rintro e v1 ⟨rfl,hq1⟩)
 have hb1:=BelowL.call hb0 hq1
 go_wp2_with fail
 refine hK.out _ _ (fun _=>by (try dsimp only);exact MK.out _ hb1) (fun hH2=>?_)
 clear hK K hHeld hH2
 refine tOne 8 (fun K hK=>?_)
 go_simp
 have hb2:=BelowL.alloc hb1 (.cells #[.int .i64 V] 3)
 refine hK.out _ _ (fun _=>by (try dsimp only);exact MK.out _ hb2) (fun hH2=>?_)
 clear hK K hH2
 have HLw:=HIN.out.laid.below hb2.out
 refine tOne 9 (fun K hK=>?_)
 go_simp
 go_at_call 102
 refine (impl_textOf (some ⟨v1.heap.size,0,none⟩) 1 1 [V] _ rfl (by exact rd_lit1 _ _ _) (by omega) (fun x hx=>by simp at hx;rw [hx];exact HI.out) HLw).mono ?_
 rintro e v2 ⟨rfl,hq2⟩
 have hb3:=BelowL.call hb2 hq2
 go_wp2_with fail
 refine hK.out _ _ (fun _=>by (try dsimp only);exact MK.out _ hb3) (fun hH2=>?_)
 clear hK K hH2
 refine tOne 10 (fun K hK=>?_)
 go_simp
 refine hK.out _ _ (fun h=>absurd h (by decide)) (fun hH2=>?_)
 clear hK K hH2
 refine wpAnyT_done (by kernel_rfl) ?_ _
 (try go_simp)
 go_wp2_with fail
 go_ret
 exact HIN.out.stay hb3.out (by rw [E.out]) (by rw [E.out])
theorem trim_len (s p:List UInt8):(Lib.trimSuffix s p).length≤s.length:=by
 unfold Lib.trimSuffix
 split
 · rw [List.length_take];omega
 · exact Nat.le_refl _
set_option maxRecDepth 100000 in
set_option maxHeartbeats 1600000 in
theorem told_show (k r:Nat) (w:World) (B g:Nat) (D:Dsk) (hin:PerfIn w B g D) (hk:D.n=k+1) (hr:D.a=some ⟨r,0,none⟩) (hi:(textF (pv D.ps k).W (pv D.ps k).H (pv D.ps k).ink).length≤1048576):
   Calls Tryz.prog 85 #[.pointer (some ⟨g,0,none⟩), .pointer (some ⟨r,k*3,none⟩)] w (PerfOut B g D (fun d=>showT d (pv D.ps k).pic) w):=by
 have HIN:=Lib.hid hin
 obtain ⟨c0,c1,c2,ln,rd,sm,cp⟩:=hin.last hk hr
 obtain ⟨q,hq⟩: ∃q,pv D.ps k=q:=⟨_,rfl⟩
 rw [hq] at c0 c1 c2 ln rd sm hi cp⊢
 have RD:=Lib.hid rd
 have LN:=Lib.hid ln
 obtain ⟨T,hT⟩: ∃T,textF q.W q.H q.ink=T:=⟨_,rfl⟩
 rw [hT] at hi
 have E:Hid (showT D.dat q.pic=(D.dat,Lib.replaceAll (Lib.trimSuffix T [10]) [10] [47])):=Lib.hid (by unfold showT;rw [show q.pic.W=q.W from rfl,show q.pic.H=q.H from rfl,show q.pic.ink=q.ink from rfl,hT])
 have HT:=Lib.hid hT
 have HI:=Lib.hid hi
 clear hin hk hr rd ln hi hq hT
 go_enter Tryz.func85,Tryz.ntmps85
 go_wp2_with fail
 refine (impl_DotText q.W q.H q.a q.n q.c q.ink _ LN.out (by exact RD.out) (by omega) cp).mono ?_
 rw [HT.out]
 rintro e w1 ⟨rfl,hb⟩
 have HB1:=Lib.hid hb
 have HLw:=Lib.hid (HIN.out.laid.below hb)
 clear hb c0 c1 c2
 obtain ⟨s,hs⟩: ∃s:ByteArray,(⟨T.toArray⟩:ByteArray)=s:=⟨_,rfl⟩
 have hsl:s.data.toList=T:=by rw [←hs]
 have hsz : s.size ≤ 1048576 := by have:s.size=T.length:=by rw [←hs];rfl
                                   have:=HI.out;omega
 rw [hs]
 clear hs
 go_wp2_with fail
 refine (Tryz.strings_TrimSuffix s ⟨#[10]⟩ _ (by omega)).mono ?_
 rw [hsl]
 rintro e w2 ⟨rfl,rfl⟩
 obtain ⟨t,ht⟩: ∃t:ByteArray,(⟨(Lib.trimSuffix T [10]).toArray⟩:ByteArray)=t:=⟨_,rfl⟩
 have htl:t.data.toList=Lib.trimSuffix T [10]:=by rw [←ht]
 have htz:t.size≤1048576:=by
   have h1:t.size=(Lib.trimSuffix T [10]).length:=by rw [←ht];rfl
   have h2:=trim_len T [10]
   have:=HI.out
   omega
 have ht2:(⟨(Lib.trimSuffix T (⟨#[10]⟩:ByteArray).data.toList).toArray⟩:ByteArray)=t:=ht
 rw [ht2]
 clear ht ht2
 obtain ⟨m,hm⟩:=HLw.out.max
 have hcm:=Lib.countB_mul_le ⟨#[10]⟩ (by decide) t.size t (Nat.le_refl _)
 have hsz1:(⟨#[10]⟩:ByteArray).size=1:=rfl
 have hsz2:(⟨#[47]⟩:ByteArray).size=1:=rfl
 have hc:=Tryz.strings_ReplaceAll t ⟨#[10]⟩ ⟨#[47]⟩ m w2 (by omega) hm (by rw [hsz1];omega) (by rw [hsz1] at hcm;rw [hsz2];omega)
 rw [htl] at hc
 have HCR:=Lib.hid hc
 clear hc hm hcm htl hsl
 go_wp2_with fail
 refine HCR.out.mono ?_
 rintro e w3 ⟨rfl,hb⟩
 have HB3:=Lib.hid (bTrans HB1.out hb)
 go_wp2_with fail
 go_ret
 exact HIN.out.stay HB3.out (by rw [E.out]) (by rw [E.out])
end Go.Proofs.YtanccoopbgamdaaGreatDoor
