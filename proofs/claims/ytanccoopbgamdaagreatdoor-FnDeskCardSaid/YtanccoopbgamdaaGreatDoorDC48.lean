/-
  Contracts and plain facts on which the theorem of this claim rests, text 48.
-/
import Derived.Test.YtanccoopbgamdaaGreatDoorDC9
import Derived.Test.YtanccoopbgamdaaGreatDoorDC46
import Derived.Test.YtanccoopbgamdaaGreatDoorDC47
namespace Go.Proofs.YtanccoopbgamdaaGreatDoor.xDesk
open Go.ChangeShapes Go.WideShapes Go.ChangeAt Go.RowKit
set_option linter.unusedVariables false
set_option linter.unusedSimpArgs false
set_option maxHeartbeats 400000 in
theorem at_8 (B:Nat) (ac:Option Addr) (nc capc:Nat) (bs:List Int) (i:Nat) (w:World) (hl:bs.length=nc) (hr:RdU B w ac bs) (hn:nc≤1048576) (hi:i≤100):
   Calls Tryz.prog 5 #[.slice ac nc capc, .int .i64 i] w fun e w'=> ∃v:Nat,e= .returned (.int .i64 (v:Int))∧v≤255∧w=w':=by
 by_cases hlt:i<nc
 · obtain ⟨⟨u0,u1⟩,bb,bo,hae,bl,bl2,hcell⟩:=hr i (by omega)
   subst hae
   obtain ⟨v,hv⟩: ∃v:Nat,bs.getD i 0=(v:Int):=⟨(bs.getD i 0).toNat,by omega⟩
   rw [hv] at hcell
   have hv2:v≤255:=by omega
   clear u0 u1 hv hr
   go_enter Tryz.func5,Tryz.ntmps5
   go_wp2
   go_ret
   exact ⟨v,rfl,hv2,rfl⟩
 · clear hr
   go_enter Tryz.func5,Tryz.ntmps5
   go_wp2
   go_ret
   exact ⟨(((i:Int)*37+(nc:Int)*11) % 256).toNat,ret_int (by omega),by omega,rfl⟩
theorem ownA_cap {w:World} {B n cap:Nat} {ad:Option Addr} {xs:List Int} (h:OwnA w B ad n cap xs):n≤cap:=by
 rcases h with ⟨_,rfl,rfl,_⟩ | ⟨g,_,_,_,cur,_,h,_⟩
 · exact Nat.le_refl _
 · exact h
set_option maxRecDepth 100000 in
set_option maxHeartbeats 3200000 in
theorem ok (ad0:Option Addr) (n0 cap0:Nat) (bs0:List Int) (w:World) (hn0:bs0.length=n0) (hr0:RdU w.heap.size w ad0 bs0) (h:n0≤1048576) (hL:LaidW w):
   Calls Tryz.prog 3 #[.slice ad0 n0 cap0] w fun e w'=>e= .returned (.bool true)∧Below w.heap.size w w':=by
 have HLW:=Lib.hid hL
 have HR0:=Lib.hid hr0
 have HL:=Lib.hid hn0
 clear hL hr0 hn0
 go_enter Tryz.func3,Tryz.ntmps3
 go_wp2_with fail
 refine (at_8 w.heap.size ad0 n0 cap0 bs0 1 w HL.out HR0.out (by omega) (by omega)).mono ?_
 rintro e w0 ⟨v1,rfl,a1,rfl⟩
 go_wp2_with fail
 refine (at_8 w.heap.size ad0 n0 cap0 bs0 2 w HL.out HR0.out (by omega) (by omega)).mono ?_
 rintro e w0 ⟨v2,rfl,a2,rfl⟩
 go_wp2_with fail
 refine (at_8 w.heap.size ad0 n0 cap0 bs0 3 w HL.out HR0.out (by omega) (by omega)).mono ?_
 rintro e w0 ⟨v3,rfl,a3,rfl⟩
 go_upto_region 6 with fail
 obtain ⟨x,hx⟩: ∃x:Nat,(x:Int)=1+(v1:Int) % 20:=⟨1+v1 % 20,by omega⟩
 obtain ⟨y,hy⟩: ∃y:Nat,(y:Int)=1+(v2:Int) % 9:=⟨1+v2 % 9,by omega⟩
 obtain ⟨z,hz⟩: ∃z:Nat,(z:Int)=(v3:Int) % 4:=⟨v3 % 4,by omega⟩
 rw [←hx,←hy,←hz]
 have hx1:1≤x∧x≤20:=by omega
 have hy1:1≤y∧y≤9:=by omega
 have hz1:z≤3:=by omega
 clear hx hy hz a1 a2 a3
 have lx:(Lib.itoa (x:Int)).length≤21:=Lib.itoa_length_le _ (by omega) (by omega)
 have ly:(Lib.itoa (y:Int)).length≤21:=Lib.itoa_length_le _ (by omega) (by omega)
 have lz:(Lib.itoa (z:Int)).length≤21:=Lib.itoa_length_le _ (by omega) (by omega)
 go_wp2_with fail
 refine (laws_decimal x _ (by omega)).mono ?_
 rintro e w1 ⟨rfl,hb1⟩
 go_wp2_with fail
 refine (laws_decimal y _ (by omega)).mono ?_
 rintro e w2 ⟨rfl,hb2⟩
 go_wp2_with fail
 refine (laws_decimal z _ (by omega)).mono ?_
 rintro e w3 ⟨rfl,hb3⟩
 have HB3:=Lib.hid (bTrans (bTrans hb1 hb2) hb3)
 clear hb1 hb2 hb3
 go_upto_region 7 with fail
 have HT:=Lib.hid (desk_text x y z)
 rw [HT.out]
 obtain ⟨S,hS⟩: ∃S:ByteArray,(⟨(joined (deskM x y z) deskT).toArray⟩:ByteArray)=S:=⟨_,rfl⟩
 rw [hS]
 have HS:=Lib.hid hS
 clear hS HT lx ly lz
 go_wp2_with fail
 refine (impl_RampPicture x y _).mono ?_
 rintro e w4 ⟨pa,pn,pc,rfl,ho,hpn,hb⟩
 obtain ⟨P,hP⟩: ∃P:Pic,(rampF x y).1=P:=⟨_,rfl⟩
 obtain ⟨pb,hpb⟩: ∃pb:Bool,(rampF x y).2=pb:=⟨_,rfl⟩
 rw [hP] at ho⊢
 rw [hpb]
 have HP:=Lib.hid hP
 have OP:=Lib.hid ho
 have HB4:=Lib.hid (bTrans HB3.out hb)
 clear hP hpb ho hb
 go_wp2_with fail
 refine (impl_BayerMatrix z _).mono ?_
 rintro e w5 ⟨ma,mn,mc,rfl,ho,hmn,hb⟩
 obtain ⟨M,hM⟩: ∃M,(bayerF z).1=M:=⟨_,rfl⟩
 obtain ⟨mb,hmb⟩: ∃mb:Bool,(bayerF z).2=mb:=⟨_,rfl⟩
 rw [hM] at ho⊢
 rw [hmb]
 have HM:=Lib.hid hM
 have OM:=Lib.hid ho
 have KP:=Lib.hid (((Blk.new w4 27 #[.int .i64 P.W, .int .i64 P.H, .slice pa pn pc]).below' hb).alloc (.cells #[.int .i64 M.W, .int .i64 M.H, .slice ma mn mc] 31))
 have OP5:=Lib.hid (((OP.out.alloc (.cells #[.int .i64 P.W, .int .i64 P.H, .slice pa pn pc] 27)).below' hb).alloc (.cells #[.int .i64 M.W, .int .i64 M.H, .slice ma mn mc] 31))
 have OM5:=Lib.hid (ho.alloc (.cells #[.int .i64 M.W, .int .i64 M.H, .slice ma mn mc] 31))
 have HB5:=Lib.hid (bAlloc (bTrans (bAlloc HB4.out (.cells #[.int .i64 P.W, .int .i64 P.H, .slice pa pn pc] 27)) hb) (.cells #[.int .i64 M.W, .int .i64 M.H, .slice ma mn mc] 31))
 clear hM hmb ho hb OP OM
 obtain ⟨l0,c0,c1,c2⟩:=KP.out.c3
 go_wp2_with fail
 refine (impl_ScreenPicture M.W M.H ma mn mc M.ranks P.W P.H pa pn pc P.ink _ OM5.out.len OM5.out.rd (by omega) OP5.out.len OP5.out.rd (by omega)).mono ?_
 rintro e w6 ⟨qa,qn,qc,rfl,ho,hqn,hb⟩
 obtain ⟨Q,hQ⟩: ∃Q,screenF M.W M.H M.ranks P.W P.H P.ink=Q:=⟨_,rfl⟩
 rw [hQ] at ho⊢
 have HQ:=Lib.hid hQ
 have OQ:=Lib.hid (ho.alloc (.cells #[.int .i64 Q.W, .int .i64 Q.H, .slice qa qn qc] 27))
 have HB6:=Lib.hid (bAlloc (bTrans HB5.out hb) (.cells #[.int .i64 Q.W, .int .i64 Q.H, .slice qa qn qc] 27))
 have HQO:=Lib.hid ho
 have KQ:=Lib.hid (Blk.new w6 27 #[.int .i64 Q.W, .int .i64 Q.H, .slice qa qn qc])
 clear hQ ho hb l0 c0 c1 c2 KP OP5 OM5
 go_wp2_with fail
 refine (impl_MeanOf Q.W Q.H qa qn qc Q.ink _ OQ.out.len OQ.out.rd (by omega)).mono ?_
 rintro e w7 ⟨rfl,hb⟩
 obtain ⟨ma1,hma⟩: ∃v,(meanF Q.W Q.H Q.ink).1=v:=⟨_,rfl⟩
 obtain ⟨mb1,hmb⟩: ∃v,(meanF Q.W Q.H Q.ink).2=v:=⟨_,rfl⟩
 rw [hma,hmb]
 have HMA:=Lib.hid hma
 have HMB:=Lib.hid hmb
 have KQ7:=Lib.hid (KQ.out.below' hb)
 have OQ7:=Lib.hid (OQ.out.below' hb)
 have HB7:=Lib.hid (bTrans HB6.out hb)
 clear hma hmb hb KQ OQ
 obtain ⟨l0,c0,c1,c2⟩:=KQ7.out.c3
 go_wp2_with fail
 refine (impl_DotText Q.W Q.H qa qn qc Q.ink _ OQ7.out.len OQ7.out.rd (by omega) (ownA_cap OQ7.out)).mono ?_
 rintro e w8 ⟨rfl,hb⟩
 have HB8:=Lib.hid (bTrans HB7.out hb)
 clear hb l0 c0 c1 c2 KQ7 OQ7
 obtain ⟨T,hT⟩: ∃T,textF Q.W Q.H Q.ink=T:=⟨_,rfl⟩
 obtain ⟨t,ht⟩: ∃t:ByteArray,t=⟨T.toArray⟩:=⟨_,rfl⟩
 rw [hT,←ht]
 obtain ⟨p1,m1,q1,q2,q3⟩:=plate_at hx1 hy1 hz1 HP.out HM.out HQ.out
 have tz:t.size=T.length:=by rw [ht];exact List.size_toArray
 obtain ⟨t1,t2⟩:=text_at hx1 hy1 q1 q2 q3
 rw [hT,←tz] at t1 t2
 obtain ⟨u,v,hu,hv,u1,v1⟩:=mean_at q1
 have EA:Hid (scriptF S=([111,107,10,111,107,10,111,107,10]++Lib.itoa u++ [32]++Lib.itoa v++ [10]++shownL T++ [10],6)):=Lib.hid (by
   rw [←HS.out];exact answer_at hx1 hy1 hz1 HP.out HM.out HQ.out hT hu hv)
 have hS2:S.size≤200:=by rw [←HS.out];exact script_short x y z (by omega) (by omega) (by omega)
 have EU:ma1=(u:Int):=HMA.out.symm.trans hu
 have EV:mb1=(v:Int):=HMB.out.symm.trans hv
 subst EU EV
 have TB:Hid (∀(p:Nat) (h:p<t.size),T[p]? =some (t[p]'h)):=Lib.hid (fun p h=>by subst ht;exact List.getElem?_eq_getElem h)
 have TZ:=Lib.hid tz
 have KE:=Lib.hid (RowU.empty w8)
 have HE0:=Lib.hid (Joins.below_alloc1 w8 (.cells #[] 5))
 clear hT ht tz p1 m1 q1 q2 q3 hu hv HP HM HQ HMA HMB
 go_wp2_with fail
 go_loopw [15,16] (fun o i wr=> ∃p:Nat,p+1≤t.size∧i= .int .i64 p∧RowU wr w8.heap.size o ((T.take p).map strokeB)∧Below w8.heap.size w8 wr) (fun _ i _=>t.size - (intOf i).toNat)
 case atStart=>exact ⟨0,by omega,rfl,KE.out,HE0.out⟩
 case round=>
   clear KE HE0
   obtain ⟨p,hp,rfl,hru,hb⟩:=hrel
   have HU:=Lib.hid hru
   have HB:=Lib.hid hb
   have HUB:=Lib.hid (OwnsU.own hru)
   clear hru hb
   by_cases hlt:p+1<t.size
   · have hlt0:p<t.size:=by omega
     have hli:(p:Int)<(t.size:Int) - 1:=by omega
     obtain ⟨b,hsb⟩: ∃b,t[p]'hlt0=b:=⟨_,rfl⟩
     have HE:Hid ((T.take (p+1)).map strokeB=(T.take p).map strokeB++ [strokeB b]):=Lib.hid (by
       rw [List.take_add_one,TB.out p hlt0,hsb];simp)
     have hln:((T.take p).map strokeB).length≤1000:=by rw [List.length_map,List.length_take];have:=TZ.out;omega
     by_cases hc:b.toNat=10
     · have e32:(((b.toNat:Nat):Int)==10)=true:=by rw [hc];rfl
       have HSB:Hid (strokeB b=47):=Lib.hid (by unfold strokeB;rw [if_pos hc])
       go_wp2_with (at_builtin;refine wp_appUb _ rfl (.tmp 78) (.tmp 79) rfl w8.heap.size _ ((T.take p).map strokeB) 47 rfl (HU.out.below (Joins.below_alloc1 _ _)) wr.heap.size rfl (by go_simp) (by omega) (by have:=HB.out.size;simp;omega) ?_;intro v2 w9 hu9 hg9)
       have HW9:=Lib.hid ((HB.out.alloc HB.out.size _).grown hg9 (by have:=HB.out.size;simp;omega) (fun b hb=>(HUB.out b hb).1))
       have HU9:=Lib.hid hu9
       clear hu9 hg9
       go_roundw
       case rel=>exact ⟨p+1,by omega,by go_num,by rw [HE.out,HSB.out];exact HU9.out,HW9.out⟩
       case measure=>simp [intOf];omega
     · have e32:(((b.toNat:Nat):Int)==10)=false:=by simp;omega
       have HSB:Hid (strokeB b=b):=Lib.hid (by unfold strokeB;rw [if_neg hc])
       go_wp2_with (at_builtin;refine wp_appUb _ rfl (.tmp 81) (.tmp 85) rfl w8.heap.size _ ((T.take p).map strokeB) b rfl (HU.out.below (Joins.below_alloc1 _ _)) wr.heap.size rfl (by go_simp) (by omega) (by have:=HB.out.size;simp;omega) ?_;intro v2 w9 hu9 hg9)
       have HW9:=Lib.hid ((HB.out.alloc HB.out.size _).grown hg9 (by have:=HB.out.size;simp;omega) (fun b hb=>(HUB.out b hb).1))
       have HU9:=Lib.hid hu9
       clear hu9 hg9
       go_roundw
       case rel=>exact ⟨p+1,by omega,by go_num,by rw [HE.out,HSB.out];exact HU9.out,HW9.out⟩
       case measure=>simp [intOf];omega
   · have hpe:p+1=t.size:=by omega
     have hli: ¬(p:Int)<(t.size:Int) - 1:=by omega
     have HO:Hid (RowU wr w8.heap.size u15 (shownL T)):=Lib.hid (by
       unfold shownL;rw [←TZ.out,←hpe,Nat.add_sub_cancel];exact HU.out)
     have HBw:=Lib.hid (bTrans HB8.out HB.out)
     clear hli hlt
     go_wp2_with fail
     refine (impl_RunScript S _ (by omega) (HLW.out.below HBw.out)).mono ?_
     rintro e w10 ⟨rfl,hb⟩
     rw [EA.out]
     have HO10:=Lib.hid (HO.out.below hb)
     have HB10:=Lib.hid (bTrans HBw.out hb)
     obtain ⟨sl,hsl⟩: ∃sl,shownL T=sl:=⟨_,rfl⟩
     have hsn:Hid (sl.length=p):=Lib.hid (by rw [←hsl];unfold shownL;rw [List.length_map,List.length_take];have:=TZ.out;omega)
     rw [hsl] at HO10⊢
     have MK:Hid (∀v,BelowL w10 v→Sem.run Tryz.prog (convert 22 9 u15) v= .ok (.string ⟨sl.toArray⟩) v∧BelowL w10 v):=Lib.hid (fun v h=>⟨text_u (HO10.out.below h.out) (fun e=>by have h:=hsn.out;rw [e] at h;simp at h;omega),h⟩)
     have lu:(Lib.itoa (u:Int)).length≤21:=Lib.itoa_length_le _ (by omega) (by omega)
     have lv:(Lib.itoa (v:Int)).length≤21:=Lib.itoa_length_le _ (by omega) (by omega)
     have hsl2:sl.length≤1000:=by have:=hsn.out;omega
     have s1: ¬9223372036854775807<9+(Lib.itoa (u:Int)).length:=by omega
     have s2: ¬9223372036854775807<9+(Lib.itoa (u:Int)).length+1:=by omega
     have s3: ¬9223372036854775807<9+(Lib.itoa (u:Int)).length+1+(Lib.itoa (v:Int)).length:=by omega
     have s4: ¬9223372036854775807<9+(Lib.itoa (u:Int)).length+1+(Lib.itoa (v:Int)).length+1:=by omega
     have s5: ¬9223372036854775807<9+(Lib.itoa (u:Int)).length+1+(Lib.itoa (v:Int)).length+1+sl.length:=by omega
     have s6: ¬9223372036854775807<9+(Lib.itoa (u:Int)).length+1+(Lib.itoa (v:Int)).length+1+sl.length+1:=by omega
     clear hsl hb
     go_upto_region 20 with fail
     go_region_held3 (fun v=>Sem.run Tryz.prog (convert 22 9 u15) v= .ok (.string ⟨sl.toArray⟩) v∧BelowL w10 v)
       (first | exact MK.out _ hb2 | exact MK.out _ hb1 | exact MK.out _ (BelowL.start _))
       (first
         | (go_at_call 6;((with_reducible refine (laws_decimal u _ (by omega)).mono ?_);rintro e v1 ⟨rfl,hq1⟩;have hb1:=BelowL.call (limb2 (by assumption)) hq1))
         | (go_at_call 6;((with_reducible refine (laws_decimal v _ (by omega)).mono ?_);rintro e v1 ⟨rfl,hq1⟩;have hb2:=BelowL.call (limb2 (by assumption)) hq1)))
     go_wp2_with fail
     go_ret
     refine ⟨ret_bool ?_,bTrans HB10.out hb2.out⟩
     simp [ByteArray.toList_eq,ByteArray.data_append]
theorem okAll: ∀(ad0:Option Addr) (n0 cap0:Nat) (bs0:List Int) (w:World),bs0.length=n0→RdU w.heap.size w ad0 bs0→n0≤9223372036854775807→LaidW w→Calls Tryz.prog 3 #[.slice ad0 n0 cap0] w fun e w'=>e= .returned (.bool true)∧Below w.heap.size w w':=by
 intro ad0 n0 cap0 bs0 w hn hr hl hL
 by_cases b0:n0≤1048576
 case neg=>exact no0 ad0 n0 cap0 bs0 w (by omega) hl
 case pos=>exact ok ad0 n0 cap0 bs0 w hn hr b0 hL
end Go.Proofs.YtanccoopbgamdaaGreatDoor.xDesk
namespace Go.Proofs.YtanccoopbgamdaaGreatDoor.jDesk
open Go.ChangeShapes Go.WideShapes Go.ChangeAt Go.RowKit Go.Lib
set_option linter.unusedVariables false
set_option linter.unusedSimpArgs false
set_option maxRecDepth 100000 in
theorem lifted (ok: ∀(ad0:Option Addr) (n0 cap0:Nat) (bs0:List Int) (w:World),bs0.length=n0→RdU w.heap.size w ad0 bs0→n0≤9223372036854775807→LaidW w→Calls Tryz.prog 3 #[.slice ad0 n0 cap0] w fun e w'=>e= .returned (.bool true)∧Below w.heap.size w w') (os:Os) (started:os.Started) (H:Type) (enc:TypeId × Value→H):
   ReturnsInHanded {} Tryz.checked os 3 .any (fun w args=>(Rows.fnDeskSpec.pre enc Tryz.prog Tryz.f3 [] false w args∧laidMetH Tryz.prog laidZ w)∧sizedMet enc Tryz.prog Tryz.f3 (OpenSpec.ofChange Rows.fnDeskSpec) false w args)
     (Rows.fnDeskSpec.post enc Tryz.prog Tryz.f3 false true false false):=by
 refine returnsZ (C:=Tryz.checked) (X:=fun w _=>laidMetH Tryz.prog laidZ w) (fun _ _ _ hh h=>h.of_heap hh) own started (by kernel_rfl) Tryz.func3
   (ChangeSpec.witness_shaped (enc:=enc) (C:=Tryz.checked) (os:=os) (X:=fun w _=>laidMetH Tryz.prog laidZ w) false (World.laidAll Tryz.prog os laidZ) #[.slice none 0 0] 8 (World.laidAll_os _ _ _)
     (World.shaped_of_ZipB (by kernel_rfl) (by kernel_rfl)) (by kernel_rfl) (by kernel_rfl) (by kernel_rfl)
     (by rw [MakeChecks.laidMetH_plain _ _ _ (by kernel_rfl)];exact laidMet_laidAll _ (by kernel_rfl) (by kernel_rfl))) ?_
 intro W base args ds gs before hval0 hW hL hsh
 have hval: ∀(j:Nat) t v,Tryz.f3.params[j]? =some t→args[j]? =some v→Value.okWide Tryz.prog W .any base t v:=hval0
 have hW':=hW
 have hlt:=hW.lt
 obtain ⟨p,q,hA0,hV,rfl,hfz,hnd⟩:=hW
 have hA:DataW.TrodAll enc Tryz.prog W 0 (fun _=>true) true Tryz.f3.params.toList args.toList ds p:=hA0
 rw [Tryz.params3] at hA hval
 obtain ⟨v0,vs0,d0,ds0,p0,q0,hargs,rfl,rfl,h0,r0⟩:=trodAll_cons hA
 obtain ⟨rfl,rfl,rfl⟩:=trodAll_nil r0
 obtain rfl:args=#[v0]:=by cases args;simp_all
 obtain ⟨rfl,rfl⟩:=trodVars_none hV
 clear hA0 hval0
 obtain ⟨ad0,n0,cap0,bs0,rfl,hn0,hr0,hl0⟩:=open_code (hval 0 22 v0 rfl rfl) h0 (fun x hx=>hlt x (by simp [hx]))
 have fin: ∀(e:Ending) W',(e= .returned (.bool true)∧Below W.heap.size W W')→ ∃v,e= .returned v∧Rows.fnDeskSpec.post enc Tryz.prog Tryz.f3 false true false false W #[.slice ad0 n0 cap0] v W':=by
   rintro e W' ⟨rfl,hb⟩
   exact ⟨_,rfl,law_post rfl rfl hW' (by kernel_rfl) rfl hb⟩
 exact (ok ad0 n0 cap0 bs0 W hn0 hr0 hl0 (laidW_of hL hsh)).mono fin
end Go.Proofs.YtanccoopbgamdaaGreatDoor.jDesk
