/- Facts on which this claim rests, 45. -/
import Derived.Test.YtlenfgdjdianiaaGreatDoorF44
set_option linter.all false
set_option maxHeartbeats 6400000
namespace Go.Proofs.YtlenfgdjdianiaaGreatDoor
open Go.RowKit Tq Go.Proofs.Tryz
variable {E : Prop} {K : Act → World → Prop} {Q : Exit → Act → World → Prop} {a : Act} {fuel i j k : Nat} {listed : Array Bool} {o o' o2 : Oper} {ops : Array Oper} {w : World}
set_option maxRecDepth 100000 in
theorem zKJ (D:Dsk) (s:ByteArray) (A:Option Addr) (n C:Nat) (w:World) (B:Nat) (t:ModIn w B D) (c:zAV s.toList n) (hn:n<=1048576):
 Calls prog 23 #[D.val, .string s, .slice A n C] w (ModOut w B D (D.dat,jc)):=by
 have HIN:=Jh t;clear t;refine ym1 ?_;intro w0 hw0 KA KR HB0 HZ0 HDB;show Calls prog 23 #[.agg ↑D, .string s, .slice A n C] w _;go_in;go_upto_region 1 with fail;refine ym3 ?_;clear hw0;intro l0 c0 c1 c2 c3 c4 c5 c6;by_cases g:s.toList=[102,108,97,116]
 . have z:=c.flat g
   have l:((n:Int)==3)=false:=sO;have f:s=⟨#[102,108,97,116]⟩:=ByteArray.ext (Array.toList_inj.1 (by rw [<-Yf];exact g));clear c g;subst f;refine ul ?_;intro r0 x0 x1 x2 x3 x4 x5 x6 f0 f1 f2 f3 f4 f5 f6;go_wp2_with fail;refine bodyPost_ret (v:= .tuple #[D.val, .string ⟨#[119,104,97,116]⟩]) (by simp [results,results23,go_sem,Dsk.val,x0,x1,x2,x3,x4,x5,x6]) rfl ⟨D,by rfl,?_,by rfl,HIN.Z.small,?_⟩;exact qs;exact KeepT.zE (zc HB0.Z om _ _ _ _ _ _ _)
 by_cases h1:s.toList=[114,97,109,112]
 . have x:=c.ramp h1
   have l:((n:Int)==2)=false:=sO;have f:s=⟨#[114,97,109,112]⟩:=ByteArray.ext (Array.toList_inj.1 (by rw [<-Yf];exact h1));clear c g h1;subst f;refine ul ?_;intro r0 x0 x1 x2 x3 x4 x5 x6 f0 f1 f2 f3 f4 f5 f6;go_wp2_with fail;refine bodyPost_ret (v:= .tuple #[D.val, .string ⟨#[119,104,97,116]⟩]) (by simp [results,results23,go_sem,Dsk.val,x0,x1,x2,x3,x4,x5,x6]) rfl ⟨D,by rfl,?_,by rfl,HIN.Z.small,?_⟩;exact qs;exact KeepT.zE (zc HB0.Z om _ _ _ _ _ _ _)
 by_cases h2:s.toList=[98,97,121,101,114]
 . have u:=c.bayer h2
   have l:((n:Int)==1)=false:=sO;have f:s=⟨#[98,97,121,101,114]⟩:=ByteArray.ext (Array.toList_inj.1 (by rw [<-Yf];exact h2));clear c g h1 h2;subst f;refine ul ?_;intro r0 x0 x1 x2 x3 x4 x5 x6 f0 f1 f2 f3 f4 f5 f6;go_wp2_with fail;refine bodyPost_ret (v:= .tuple #[D.val, .string ⟨#[119,104,97,116]⟩]) (by simp [results,results23,go_sem,Dsk.val,x0,x1,x2,x3,x4,x5,x6]) rfl ⟨D,by rfl,?_,by rfl,HIN.Z.small,?_⟩;exact qs;exact KeepT.zE (zc HB0.Z om _ _ _ _ _ _ _)
 by_cases h3:s.toList=[115,112,105,114,97,108]
 . have u:=c.spiral h3
   have l:((n:Int)==1)=false:=sO;have f:s=⟨#[115,112,105,114,97,108]⟩:=ByteArray.ext (Array.toList_inj.1 (by rw [<-Yf];exact h3));clear c g h1 h2 h3;subst f;refine ul ?_;intro r0 x0 x1 x2 x3 x4 x5 x6 f0 f1 f2 f3 f4 f5 f6;go_wp2_with fail;refine bodyPost_ret (v:= .tuple #[D.val, .string ⟨#[119,104,97,116]⟩]) (by simp [results,results23,go_sem,Dsk.val,x0,x1,x2,x3,x4,x5,x6]) rfl ⟨D,by rfl,?_,by rfl,HIN.Z.small,?_⟩;exact qs;exact KeepT.zE (zc HB0.Z om _ _ _ _ _ _ _)
 by_cases h4:s.toList=[115,112,111,116]
 . have x:=c.spot h4
   have l:((n:Int)==2)=false:=sO;have f:s=⟨#[115,112,111,116]⟩:=ByteArray.ext (Array.toList_inj.1 (by rw [<-Yf];exact h4));clear c g h1 h2 h3 h4;subst f;refine ul ?_;intro r0 x0 x1 x2 x3 x4 x5 x6 f0 f1 f2 f3 f4 f5 f6;go_wp2_with fail;refine bodyPost_ret (v:= .tuple #[D.val, .string ⟨#[119,104,97,116]⟩]) (by simp [results,results23,go_sem,Dsk.val,x0,x1,x2,x3,x4,x5,x6]) rfl ⟨D,by rfl,?_,by rfl,HIN.Z.small,?_⟩;exact qs;exact KeepT.zE (zc HB0.Z om _ _ _ _ _ _ _)
 by_cases m:s.toList=[115,104,105,102,116]
 . have x:=c.shift m
   have l:((n:Int)==2)=false:=sO;have f:s=⟨#[115,104,105,102,116]⟩:=ByteArray.ext (Array.toList_inj.1 (by rw [<-Yf];exact m));clear c g h1 h2 h3 h4 m;subst f;refine ul ?_;intro r0 x0 x1 x2 x3 x4 x5 x6 f0 f1 f2 f3 f4 f5 f6;go_wp2_with fail;refine bodyPost_ret (v:= .tuple #[D.val, .string ⟨#[119,104,97,116]⟩]) (by simp [results,results23,go_sem,Dsk.val,x0,x1,x2,x3,x4,x5,x6]) rfl ⟨D,by rfl,?_,by rfl,HIN.Z.small,?_⟩;exact qs;exact KeepT.zE (zc HB0.Z om _ _ _ _ _ _ _)
 by_cases q:s.toList=[114,97,110,107]
 . have z:=c.rank q
   have l:((n:Int)==3)=false:=sO;have f:s=⟨#[114,97,110,107]⟩:=ByteArray.ext (Array.toList_inj.1 (by rw [<-Yf];exact q));clear c g h1 h2 h3 h4 m q;subst f;refine ul ?_;intro r0 x0 x1 x2 x3 x4 x5 x6 f0 f1 f2 f3 f4 f5 f6;go_wp2_with fail;refine bodyPost_ret (v:= .tuple #[D.val, .string ⟨#[119,104,97,116]⟩]) (by simp [results,results23,go_sem,Dsk.val,x0,x1,x2,x3,x4,x5,x6]) rfl ⟨D,by rfl,?_,by rfl,HIN.Z.small,?_⟩;exact qs;exact KeepT.zE (zc HB0.Z om _ _ _ _ _ _ _)
 by_cases y:s.toList=[108,101,118,101,108]
 . have u:=c.level y
   have l:((n:Int)==1)=false:=sO;have f:s=⟨#[108,101,118,101,108]⟩:=ByteArray.ext (Array.toList_inj.1 (by rw [<-Yf];exact y));clear c g h1 h2 h3 h4 m q y;subst f;refine ul ?_;intro r0 x0 x1 x2 x3 x4 x5 x6 f0 f1 f2 f3 f4 f5 f6;go_wp2_with fail;refine bodyPost_ret (v:= .tuple #[D.val, .string ⟨#[119,104,97,116]⟩]) (by simp [results,results23,go_sem,Dsk.val,x0,x1,x2,x3,x4,x5,x6]) rfl ⟨D,by rfl,?_,by rfl,HIN.Z.small,?_⟩;exact qs;exact KeepT.zE (zc HB0.Z om _ _ _ _ _ _ _)
 have F:(s.toList==[102,108,97,116])=false:=by rw [beq_eq_false_iff_ne];exact g
 have H:(s.toList==[114,97,109,112])=false:=by rw [beq_eq_false_iff_ne];exact h1
 have I:(s.toList==[98,97,121,101,114])=false:=by rw [beq_eq_false_iff_ne];exact h2
 have J:(s.toList==[115,112,105,114,97,108])=false:=by rw [beq_eq_false_iff_ne];exact h3
 have L:(s.toList==[115,112,111,116])=false:=by rw [beq_eq_false_iff_ne];exact h4
 have M:(s.toList==[115,104,105,102,116])=false:=by rw [beq_eq_false_iff_ne];exact m
 have N:(s.toList==[114,97,110,107])=false:=by rw [beq_eq_false_iff_ne];exact q
 have O:(s.toList==[108,101,118,101,108])=false:=by rw [beq_eq_false_iff_ne];exact y
 clear c;refine ul ?_;intro r0 x0 x1 x2 x3 x4 x5 x6 f0 f1 f2 f3 f4 f5 f6;go_wp2_with fail;refine bodyPost_ret (v:= .tuple #[D.val, .string ⟨#[119,104,97,116]⟩]) (by simp [results,results23,go_sem,Dsk.val,x0,x1,x2,x3,x4,x5,x6]) rfl ⟨D,by rfl,?_,by rfl,HIN.Z.small,?_⟩;exact qs;exact KeepT.zE (zc HB0.Z om _ _ _ _ _ _ _)
noncomputable def uS (l:List UInt8) (xs:List Int) (d:Dat):Dat × List UInt8:=match kx l xs with | some F=>F d | none=>(d,jc)
theorem zHG (D:Dsk) (l:List UInt8) (f:Option Addr) (n g:Nat) (xs:List Int) (w:World) (B:Nat) (b:ModIn w B D) (hl:xs.length=n) (hr:Rd w f xs) (hn:n<=1048576):
 Calls prog 23 #[D.val, .string ⟨l.toArray⟩, .slice f n g] w (ModOut w B D (uS l xs D.dat)):=by
 by_cases c0:l=[102,108,97,116]/\xs.length=3
 obtain ⟨c,h3⟩:=c0
 obtain ⟨x,y,z,rfl⟩: ∃x y z,xs=[x,y,z]:=by
  match xs,h3 with
  | [x,y,z],_=>exact ⟨x,y,z,rfl⟩
 subst c;subst hl;exact (zKF D x y z f g w B b hr).mono (fun e w' h=>h.congr (by simp [uS,kx]));by_cases c1:l=[114,97,109,112]/\xs.length=2
 obtain ⟨c,h3⟩:=c1
 obtain ⟨x,y,rfl⟩: ∃x y,xs=[x,y]:=by
  match xs,h3 with
  | [x,y],_=>exact ⟨x,y,rfl⟩
 subst c;subst hl;exact (zKG D x y f g w B b hr).mono (fun e w' h=>h.congr (by simp [uS,kx]));by_cases c2:l=[98,97,121,101,114]/\xs.length=1
 obtain ⟨c,h3⟩:=c2
 obtain ⟨x,rfl⟩: ∃x,xs=[x]:=by
  match xs,h3 with
  | [x],_=>exact ⟨x,rfl⟩
 subst c;subst hl;exact (zIN D x f g w B b hr).mono (fun e w' h=>h.congr (by simp [uS,kx]));by_cases c3:l=[115,112,105,114,97,108]/\xs.length=1
 obtain ⟨c,h3⟩:=c3
 obtain ⟨x,rfl⟩: ∃x,xs=[x]:=by
  match xs,h3 with
  | [x],_=>exact ⟨x,rfl⟩
 subst c;subst hl;exact (zGR D x f g w B b hr).mono (fun e w' h=>h.congr (by simp [uS,kx]));by_cases c4:l=[115,112,111,116]/\xs.length=2
 obtain ⟨c,h3⟩:=c4
 obtain ⟨x,y,rfl⟩: ∃x y,xs=[x,y]:=by
  match xs,h3 with
  | [x,y],_=>exact ⟨x,y,rfl⟩
 subst c;subst hl;exact (zKI D x y f g w B b hr).mono (fun e w' h=>h.congr (by simp [uS,kx]));by_cases c5:l=[115,104,105,102,116]/\xs.length=2
 obtain ⟨c,h3⟩:=c5
 obtain ⟨x,y,rfl⟩: ∃x y,xs=[x,y]:=by
  match xs,h3 with
  | [x,y],_=>exact ⟨x,y,rfl⟩
 subst c;subst hl;exact (zIP D x y f g w B b hr).mono (fun e w' h=>h.congr (by simp [uS,kx]));by_cases c6:l=[114,97,110,107]/\xs.length=3
 obtain ⟨c,h3⟩:=c6
 obtain ⟨x,y,z,rfl⟩: ∃x y z,xs=[x,y,z]:=by
  match xs,h3 with
  | [x,y,z],_=>exact ⟨x,y,z,rfl⟩
 subst c;subst hl;exact (zKH D x y z f g w B b hr).mono (fun e w' h=>h.congr (by simp [uS,kx]));by_cases c7:l=[108,101,118,101,108]/\xs.length=1
 obtain ⟨c,h3⟩:=c7
 obtain ⟨x,rfl⟩: ∃x,xs=[x]:=by
  match xs,h3 with
  | [x],_=>exact ⟨x,rfl⟩
 subst c;subst hl;exact (zIO D x f g w B b hr).mono (fun e w' h=>h.congr (by simp [uS,kx]));have e:(⟨l.toArray⟩:ByteArray).toList=l:=by rw [Yf]
 refine (zKJ D ⟨l.toArray⟩ f n g w B b (by
  rw [e]
  exact ⟨fun h h2=>c0 ⟨h,om⟩,fun h h2=>c1 ⟨h,om⟩,fun h h2=>c2 ⟨h,om⟩,fun h h2=>c3 ⟨h,om⟩,fun h h2=>c4 ⟨h,om⟩,fun h h2=>c6 ⟨h,om⟩,fun h h2=>c5 ⟨h,om⟩,fun h h2=>c7 ⟨h,om⟩⟩) hn).mono (fun e w' h=>h.congr ?_)
 unfold uS kx;rw [if_neg c0,if_neg c1,if_neg c2,if_neg c3,if_neg c4,if_neg c6,if_neg c5,if_neg c7]
section
variable {P : Program} {ops : Array Oper} {Q : Exit → Act → World → Prop} {md : Region.Mode} {S : World → Prop} {n : Nat}
theorem zGH (hr:Region.ready md ops listed=[i,j,k]) (s:ops[i]? =some o) (f:ops[j]? =some o') (g:ops[k]? =some o2)
 (h: ∀b:Act->World->Prop,Shut (∀a w,(i<n->S w)->((i<n->S w)->kM P md ops Q S n fuel (listed.setIfInBounds i true) a w)->b a w)->if Region.wanted o (yielded ops a.tmps)=true then Oper.wp P o a w b Q else b (a.put o.dst undef) w)
 (m: ∀b:Act->World->Prop,Shut (∀a w,(j<n->S w)->((j<n->S w)->kM P md ops Q S n fuel (listed.setIfInBounds j true) a w)->b a w)->if Region.wanted o' (yielded ops a.tmps)=true then Oper.wp P o' a w b Q else b (a.put o'.dst undef) w)
 (h2: ∀b:Act->World->Prop,Shut (∀a w,(k<n->S w)->((k<n->S w)->kM P md ops Q S n fuel (listed.setIfInBounds k true) a w)->b a w)->if Region.wanted o2 (yielded ops a.tmps)=true then Oper.wp P o2 a w b Q else b (a.put o2.dst undef) w):
 kM P md ops Q S n (fuel+1) listed a w:=
 Js hr sI (fun q t=>by
  have l:q=i\/q=j\/q=k:=by simpa using t
  rcases l with rfl | rfl | rfl
  exact wpOp_step s (fun b hK=>h b (fun a w c e=>hK a w ⟨c,e c⟩));exact wpOp_step f (fun b hK=>m b (fun a w c e=>hK a w ⟨c,e c⟩))
  exact wpOp_step g (fun b hK=>h2 b (fun a w c e=>hK a w ⟨c,e c⟩)))
end
theorem step_clone7 (w:World)
 (v:o.guard=none) (s x:Operand) (z:o.op= .call {callee:= .builtin .append,args:=#[s,x],argTypes:=#[22,22]})
 (B l:Nat) (t:Option Addr) (J:a.eval s= .slice t 0 l) (I:RowA w 3 1 B t 0 l []) (b off m c:Nat) (g:List Int) (M:a.eval x= .slice (some ⟨b,off,none⟩) m c)
 (hv:g.length=m) (hc: ∀j,j<m->w.cell? ⟨b,off+j,none⟩=some (.int .i64 (g.getD j 0))) (hn:m<=1048576) (H:B<=w.heap.size)
 (hK: ∀f e w',RowA w' 3 1 B f m e g->w.grownBy w' (zL t)->(zL f=zL t\/zL f=some w.heap.size)->K (a.put o.dst (.slice f m e)) w'):
 if Region.wanted o (yielded ops a.tmps)=true then Oper.wp Tryz.prog o a w K Q else E:=by
 have hw:Region.wanted o (yielded ops a.tmps)=true:=by simp [Region.wanted,v]
 rw [if_pos hw];obtain ⟨i,hi,A,C,D⟩:=info_parts Qq
 obtain ⟨N,w',hr,h2,h3,_,F⟩:=run_append_own_at (P:=Tryz.prog) w B 22 o.type 3 i (.int .i64 0) 1 8 Tryz.underlying22 hi A C D rfl (by omega) _ 0 (([]:List Int).map (Value.int .i64)) I.toRow ⟨b,off,none⟩ m c (g.map (Value.int .i64)) (by simp [hv]) (fun j u q=>by
  by_cases y:j<m
  have:=hc j y;rw [List.getElem?_map,Ya (by omega)] at q;simp only [Option.map_some,Option.some.injEq] at q;subst q;rw [show (Addr.mk b off none).add j=⟨b,off+j,none⟩ by rw [Addr.add_lit],this];simp [List.getD,Ya (show j<g.length by omega)]
  rw [Yv (by simp;omega)] at q;cases q) (fun u L=>by
  obtain ⟨x,_,rfl⟩:=List.mem_map.1 L
  rfl) (by unfold maxLen;omega) (by rw [Nat.zero_add];omega) H
 unfold Oper.wp execOp;simp only [z,resolve,invoke,builtin,Sem.run_bind,Sem.run_pure,Result.andThen_ok,List.map_toArray,List.map_cons,List.map_nil,J,M,hr];rw [Nat.zero_add] at h2;have h4:w'.ownsRow B 3 1 N m (g.map (Value.int .i64)):=by simpa using h2
 obtain ⟨f,e,rfl,G⟩:=RowA.ofRow h4;rw [xj] at h3;rw [xj,xj] at F;exact hK f e w' G h3 F
def zPM (w0 wx:World) (W H:Int) (pn:Nat) (xs:List Int) (mW mH:Int) (mn:Nat) (ys:List Int) (s:Value):Prop:=
 ∃gb a1 k1 a2 k2,s= .pointer (some ⟨gb,0,none⟩)/\Blk wx gb 35 #[W,H, .slice a1 pn k1,mW,mH, .slice a2 mn k2, .slice none 0 0]/\w0.heap.size<=gb/\OwnA wx w0 a1 pn k1 xs/\OwnA wx w0 a2 mn k2 ys/\
  (∀b,zL a1=some b->b≠gb/\zL a2≠some b)/\(∀b,zL a2=some b->b≠gb)/\Below w0 w0 wx
set_option maxRecDepth 100000 in
theorem zHH (D:Dsk) (w:World) (hr:RdD w D) (hs:jX D) (ha:UY D):Calls prog 17 #[D.val] w (Ua w D.dat):=by
 obtain ⟨r1,r2,r3,r4,r5,r6⟩:=hr;obtain ⟨s1,s2,s3,s4⟩:=hs;obtain ⟨⟨b1,o1,m7⟩,⟨b2,o2,m8⟩,I⟩:=ha;obtain ⟨⟨W,H,pa,y,pc,xs⟩,⟨C,B,ma,mn,mc,ys⟩,a,n,c,ps⟩:=D;dsimp only at*;subst m7 m8;have R1:=Jh r1;have R2:=Jh r2;have R3:=Jh r3;have R4:=Jh r4;have R5:=Jh r5;have R6:=Jh r6;have S4:=Jh s4;have A3:=Jh I;obtain ⟨w0,hw0⟩:=zN ((w.alloc (.cells #[W,H, .slice (some ↑(b1,o1)) y pc,C,B, .slice (some ↑(b2,o2)) mn mc, .slice a n c] 35)).alloc (.cells ↑Zd 35));have KA:Hd (Blk w0 w 35 #[W,H, .slice (some ↑(b1,o1)) y pc,C,B, .slice (some ↑(b2,o2)) mn mc, .slice a n c]):=Jh (by rw [hw0];exact (Blk.new w _ _).alloc _);refine zRH ?_;intro KR HB0;have e3:Hd (w0.heap.size=w.heap.size+2):=Jh (by rw [hw0];simp);clear r1 r2 r3 r4 r5 r6 s4 I;show Calls prog 17 #[.agg #[W,H, .slice (some ↑(b1,o1)) y pc,C,B, .slice (some ↑(b2,o2)) mn mc, .slice a n c]] w _;go_in;go_upto_region 1 with fail;rw [<-hw0];clear hw0;obtain ⟨N,c0,c1,c2,c3,c4,c5,c6⟩:=KA.Z.c7
 go_cut [3] (fun s3 wx=>zPM w0 wx W H y xs C B mn ys s3)
 case first=>
  have MK:Hd (∀v,BelowL w0 v->Jc v w W/\Jc v (w,1) H/\Jc v (w,2) (.slice (some ↑(b1,o1)) y pc)/\Jc v (w,3) C/\Jc v (w,4) B/\Jc v (w,5) (.slice (some ↑(b2,o2)) mn mc)/\BelowL w0 v):=Jh (fun v h=>⟨(h.Z.cell N).trans c0,(h.Z.cell N).trans c1,(h.Z.cell N).trans c2,(h.Z.cell N).trans c3,(h.Z.cell N).trans c4,(h.Z.cell N).trans c5,h⟩);clear c0 c1 c2 c3 c4 c5 c6;have CU:Hd (∀v,BelowL w0 v->Calls prog 44 #[.agg #[W,H, .slice (some ↑(b1,o1)) y pc]] v (UZ v W H y xs)):=Jh (fun v hv=>uj W H b1 o1 y pc xs v R1.Z ((R2.Z.below HB0.Z).below hv.Z) om);refine zh 17 MK zK (MK.Z _ lS) ?_;intro hHeld;have m:=BelowL.start w0;refine tTs 0 ?_;refine tTs 1 ?_;refine tTs 3 ?_;refine tTs 4 ?_;refine tTs 5 ?_;refine tTs 6 ?_;refine tTs 7 ?_;refine tTs 8 ?_;refine tTs 10 ?_;refine tTs 11 ?_;refine tTs 12 ?_;refine zGH (i:=2) (j:=9) (k:=16) zK rfl rfl rfl (fun K hK=>?_) (fun K hK=>?_) (fun K hK=>?_)
  . skip
    go_simp
    go_at_call 44
    ((with_reducible refine (CU.Z _ m).mono ?_);rintro e g ⟨a1,k1,rfl,ho1,z⟩);have hb1:=BelowL.call m z;have HP:=Jh (ho1.mono (B':=w0.heap.size) (m).le);have HPB:Hd (∀b,zL a1=some b->w0.heap.size<=b/\b<g.heap.size):=Jh (fun b hb=>by have:=ho1.bd b hb;first | exact this | omega | simpa using this);have j3:w0.heap.size<=g.heap.size:=by have:=z.size;first | exact this | omega | simpa using this
    go_wp2_with fail;refine hK.out _ _ (fun _=>Jd (MK.Z _ hb1)) (fun hHz=>?_);clear hK K hHeld;have hHeld:=hHz dC;clear hHz ho1 z;refine zv ?_;refine vm (i:=9) (j:=16) zK rfl rfl (fun K hK=>?_) (fun K hK=>?_)
    . skip
      go_simp;have F:True:=trivial;have hb2:=BelowL.alloc hb1 (.cells #[] 3);have hq2:Below (g).heap.size g (g.alloc (.cells #[] 3)):=by first | exact nJ | exact nJ.drew | exact ⟨rfl,rfl,rfl,sI,fun i hi=>by simp at hi;simp [World.alloc,World.drew,Array.getElem?_push,Nat.ne_of_lt hi]⟩
      have HP:=Jh (HP.Z.zA hq2);have hgeb:Hd (w0.heap.size<=g.heap.size):=Jh (by have:=(hb1).le;first | exact this | omega | (simp at this;omega))
      have HE:Hd (RowA (g.alloc (.cells #[] 3)) 3 1 w0.heap.size ↑g 0 0 []):=Jh (RowA.mk (by
       have h9:RowT (g.alloc (.cells #[] 3)) 3 1 (g).heap.size 0 0 []:=vF g 3 1
       first | exact h9 | (rw [show (g).heap.size=g.heap.size from by simp] at h9;exact h9)) (by have:=(hb1).le;first | exact this | omega | (simp at this;omega)))
      refine Xw ?_;clear hK K hHeld;intro hHz hHeld;clear hHz;refine zv ?_;refine vm (i:=13) (j:=16) zK rfl rfl (fun K hK=>?_) (fun K hK=>?_)
      . skip
        refine zRA ?_;intro a2 k2 w3 ho3 hg3 e7;have A:g.heap.size+1<=w3.heap.size:=by have:=hg3.size;first | exact this | omega | simpa using this
        have f:Hd (∀b,zL a2=some b->b=g.heap.size\/(b=g.heap.size+1/\b<w3.heap.size)):=Jh (fun b hb=>by
         rcases e7 with e | e
         rw [e] at hb;simp [zL] at hb;exact .inl hb.symm
         rw [e] at hb;injection hb with hb;exact .inr ⟨by first | exact hb.symm | simpa using hb.symm,by have:=ho3.toOwn6.bd b (by rw [e,hb]);omega⟩)
        refine zRD ?_;clear hK K hHeld ho3;intro hb3 HM HP hHeld;refine zQo ?_;clear hHeld;intro hz4 HPo HMo hb4 hq4 HP HM KD hHeld;refine zv ?_;refine zOz ?_;(try go_simp);go_wp2_with fail;go_meet;refine ⟨_,a1,k1,a2,k2,rfl,Blk.new _ _ _,om,HPo.Z.alloc _,HMo.Z.alloc _,fun b hb=>⟨?_,fun e=>?_⟩,fun b hb=>?_,zJ hb3.Z _⟩;have:=HPB.Z b hb;omega;have h1:=HPB.Z b hb;rcases f.Z b e with h | h <;>omega
        rcases f.Z b hb with h | h <;>omega
      skip
      go_simp;have A:True:=trivial;have hb3:=BelowL.alloc hb2 (.cells ↑Zd 35);have hq3:Below ((g.alloc (.cells #[] 3))).heap.size (g.alloc (.cells #[] 3)) ((g.alloc (.cells #[] 3)).alloc (.cells ↑Zd 35)):=by first | exact nJ | exact nJ.drew | exact ⟨rfl,rfl,rfl,sI,fun i hi=>by simp at hi;simp [World.alloc,World.drew,Array.getElem?_push,Nat.ne_of_lt hi]⟩
      have HP:=Jh (HP.Z.zA hq3);have HE:=Jh (HE.Z.below hq3 nI);have KD:Hd (Blk ((g.alloc (.cells #[] 3)).alloc (.cells ↑Zd 35)) (g.heap.size+1) 35 ↑Zd):=Jh (by first | exact Blk.new _ _ _ | exact (Blk.new _ _ _).drew | exact Blk.zD _ _ sI | exact (Blk.zD _ _ sI).drew);refine ym38 ?_;clear hK K hHeld;intro hHz hHeld;clear hHz;refine zCY ?_;intro K hK;intro a2 k2 w4 ho4 hg4 t;have hz4:g.heap.size+1+1<=w4.heap.size:=by have:=hg4.size;first | exact this | omega | simpa using this
      have f:Hd (∀b,zL a2=some b->b=g.heap.size\/(b=g.heap.size+1+1/\b<w4.heap.size)):=Jh (fun b hb=>by
       rcases t with e | e
       rw [e] at hb;simp [zL] at hb;exact .inl hb.symm
       rw [e] at hb;injection hb with hb;exact .inr ⟨by first | exact hb.symm | simpa using hb.symm,by have:=ho4.toOwn6.bd b (by rw [e,hb]);omega⟩)
      refine zOt ?_;clear hK K hHeld ho4;intro hb4 HM HP KD hHeld;refine zCZ ?_;intro m0 d0 d1 d2 d3 d4 d5 d6 f0 f1 f2 f3 f4 f5 f6;(try go_simp);go_wp2_with fail;go_meet;have l:=vE w4 (g.heap.size+1) ↑W ↑H (.slice a1 y k1) ↑C ↑B (.slice a2 mn k2) (.slice none 0 0);refine ⟨_,a1,k1,a2,k2,rfl,KD.Z.put7 _ _ _ _ _ _ _,om,l.ownA HP.Z ?_,l.ownA HM.Z ?_,fun b hb=>⟨?_,fun e=>?_⟩,fun b hb=>?_,zc hb4.Z om _ _ _ _ _ _ _⟩;intro b hb e;have:=HPB.Z b hb;omega;intro b hb e;rcases f.Z b hb with h | h <;>omega
      have:=HPB.Z b hb;omega;have h1:=HPB.Z b hb;rcases f.Z b e with h | h <;>omega
      rcases f.Z b hb with h | h <;>omega
    skip
    go_simp;have F:True:=trivial;have hb2:=BelowL.alloc hb1 (.cells ↑Zd 35);have hq2:Below (g).heap.size g (g.alloc (.cells ↑Zd 35)):=by first | exact nJ | exact nJ.drew | exact ⟨rfl,rfl,rfl,sI,fun i hi=>by simp at hi;simp [World.alloc,World.drew,Array.getElem?_push,Nat.ne_of_lt hi]⟩
    have HP:=Jh (HP.Z.zA hq2);have KD:Hd (Blk (g.alloc (.cells ↑Zd 35)) (g.heap.size) 35 ↑Zd):=Jh (by first | exact Blk.new _ _ _ | exact (Blk.new _ _ _).drew | exact Blk.zD _ _ sI | exact (Blk.zD _ _ sI).drew);refine Xw ?_;clear hK K hHeld;intro hHz hHeld;clear hHz;refine zv ?_;refine zW 9 (fun K hK=>?_);go_simp;have A:True:=trivial;have hb3:=BelowL.alloc hb2 (.cells #[] 3);have hq3:Below ((g.alloc (.cells ↑Zd 35))).heap.size (g.alloc (.cells ↑Zd 35)) ((g.alloc (.cells ↑Zd 35)).alloc (.cells #[] 3)):=by first | exact nJ | exact nJ.drew | exact ⟨rfl,rfl,rfl,sI,fun i hi=>by simp at hi;simp [World.alloc,World.drew,Array.getElem?_push,Nat.ne_of_lt hi]⟩
    have HP:=Jh (HP.Z.zA hq3);have KD:=Jh (KD.Z.zA hq3);have hgeb:Hd (w0.heap.size<=g.heap.size+1):=Jh (by have:=(hb2).le;first | exact this | omega | (simp at this;omega))
    have HE:Hd (RowA ((g.alloc (.cells ↑Zd 35)).alloc (.cells #[] 3)) 3 1 w0.heap.size ↑(g.heap.size+1) 0 0 []):=Jh (RowA.mk (by
     have h9:RowT ((g.alloc (.cells ↑Zd 35)).alloc (.cells #[] 3)) 3 1 ((g.alloc (.cells ↑Zd 35))).heap.size 0 0 []:=vF (g.alloc (.cells ↑Zd 35)) 3 1
     first | exact h9 | (rw [show ((g.alloc (.cells ↑Zd 35))).heap.size=g.heap.size+1 from by simp] at h9;exact h9)) (by have:=(hb2).le;first | exact this | omega | (simp at this;omega)))
    refine ym38 ?_;clear hK K hHeld;intro hHz hHeld;clear hHz;refine zCY ?_;intro K hK;intro a2 k2 w4 ho4 hg4 t;have hz4:g.heap.size+1+1<=w4.heap.size:=by have:=hg4.size;first | exact this | omega | simpa using this
    have f:Hd (∀b,zL a2=some b->b=g.heap.size+1\/(b=g.heap.size+1+1/\b<w4.heap.size)):=Jh (fun b hb=>by
     rcases t with e | e
     rw [e] at hb;simp [zL] at hb;exact .inl hb.symm
     rw [e] at hb;injection hb with hb;exact .inr ⟨by first | exact hb.symm | simpa using hb.symm,by have:=ho4.toOwn6.bd b (by rw [e,hb]);omega⟩)
    refine zOt ?_;clear hK K hHeld ho4;intro hb4 HM HP KD hHeld;refine zCZ ?_;intro m0 d0 d1 d2 d3 d4 d5 d6 f0 f1 f2 f3 f4 f5 f6;(try go_simp);go_wp2_with fail;go_meet;have l:=vE w4 (g.heap.size) ↑W ↑H (.slice a1 y k1) ↑C ↑B (.slice a2 mn k2) (.slice none 0 0);refine ⟨_,a1,k1,a2,k2,rfl,KD.Z.put7 _ _ _ _ _ _ _,om,l.ownA HP.Z ?_,l.ownA HM.Z ?_,fun b hb=>⟨?_,fun e=>?_⟩,fun b hb=>?_,zc hb4.Z om _ _ _ _ _ _ _⟩;intro b hb e;have:=HPB.Z b hb;omega;intro b hb e;rcases f.Z b hb with h | h <;>omega
    have:=HPB.Z b hb;omega;have h1:=HPB.Z b hb;rcases f.Z b e with h | h <;>omega
    rcases f.Z b hb with h | h <;>omega
  . skip
    go_simp;have j3:True:=trivial;have hb1:BelowL w0 (w0.alloc (.cells #[] 3)).drew:=BelowL.mk (zJ bR _).drew;have z:Below (w0.drew).heap.size w0.drew (w0.alloc (.cells #[] 3)).drew:=by first | exact nJ | exact nJ.drew | exact ⟨rfl,rfl,rfl,sI,fun i hi=>by simp at hi;simp [World.alloc,World.drew,Array.getElem?_push,Nat.ne_of_lt hi]⟩
    have hgeb:Hd (w0.heap.size<=w0.heap.size):=Jh (by have:=(m).le;first | exact this | omega | (simp at this;omega))
    have HE:Hd (RowA (w0.alloc (.cells #[] 3)).drew 3 1 w0.heap.size ↑w0 0 0 []):=Jh (RowA.mk (by
     have h9:RowT (w0.alloc (.cells #[] 3)).drew 3 1 (w0).heap.size 0 0 []:=vF w0 3 1
     first | exact h9 | (rw [show (w0).heap.size=w0.heap.size from by simp] at h9;exact h9)) (by have:=(m).le;first | exact this | omega | (simp at this;omega)))
    refine Ju ?_;clear hK K hHeld;intro hHeld;refine zv ?_;refine vm (i:=2) (j:=16) zK rfl rfl (fun K hK=>?_) (fun K hK=>?_)
    . skip
      refine zRE ?_;intro v2 a1 k1 ho1 hq2 hb2 HP HPB;have HE:=Jh (HE.Z.below hq2 nI);have F:w0.heap.size+1<=v2.heap.size:=by have:=hq2.size;first | exact this | omega | simpa using this
      go_wp2_with fail;refine Xw ?_;clear hK K hHeld;intro hHz hHeld;clear hHz ho1 hq2;refine zv ?_;refine vm (i:=13) (j:=16) zK rfl rfl (fun K hK=>?_) (fun K hK=>?_)
      . skip
        refine zRA ?_;intro a2 k2 w3 ho3 hg3 e7;have A:v2.heap.size<=w3.heap.size:=by have:=hg3.size;first | exact this | omega | simpa using this
        have f:Hd (∀b,zL a2=some b->b=w0.heap.size\/(b=v2.heap.size/\b<w3.heap.size)):=Jh (fun b hb=>by
         rcases e7 with e | e
         rw [e] at hb;simp [zL] at hb;exact .inl hb.symm
         rw [e] at hb;injection hb with hb;exact .inr ⟨by first | exact hb.symm | simpa using hb.symm,by have:=ho3.toOwn6.bd b (by rw [e,hb]);omega⟩)
        refine zRD ?_;clear hK K hHeld ho3;intro hb3 HM HP hHeld;refine zQo ?_;clear hHeld;intro hz4 HPo HMo hb4 hq4 HP HM KD hHeld;refine zv ?_;refine zOz ?_;(try go_simp);go_wp2_with fail;go_meet;refine ⟨_,a1,k1,a2,k2,rfl,Blk.new _ _ _,om,HPo.Z.alloc _,HMo.Z.alloc _,fun b hb=>⟨?_,fun e=>?_⟩,fun b hb=>?_,zJ hb3.Z _⟩;have:=HPB.Z b hb;omega;have h1:=HPB.Z b hb;rcases f.Z b e with h | h <;>omega
        rcases f.Z b hb with h | h <;>omega
      skip
      go_simp;have A:True:=trivial;have hb3:=BelowL.alloc hb2 (.cells ↑Zd 35);have hq3:Below (v2).heap.size v2 (v2.alloc (.cells ↑Zd 35)):=by first | exact nJ | exact nJ.drew | exact ⟨rfl,rfl,rfl,sI,fun i hi=>by simp at hi;simp [World.alloc,World.drew,Array.getElem?_push,Nat.ne_of_lt hi]⟩
      have HE:=Jh (HE.Z.below hq3 nI);have HP:=Jh (HP.Z.zA hq3);have KD:Hd (Blk (v2.alloc (.cells ↑Zd 35)) (v2.heap.size) 35 ↑Zd):=Jh (by first | exact Blk.new _ _ _ | exact (Blk.new _ _ _).drew | exact Blk.zD _ _ sI | exact (Blk.zD _ _ sI).drew);refine ym38 ?_;clear hK K hHeld;intro hHz hHeld;clear hHz;refine zCY ?_;intro K hK;intro a2 k2 w4 ho4 hg4 t;have hz4:v2.heap.size+1<=w4.heap.size:=by have:=hg4.size;first | exact this | omega | simpa using this
      have f:Hd (∀b,zL a2=some b->b=w0.heap.size\/(b=v2.heap.size+1/\b<w4.heap.size)):=Jh (fun b hb=>by
       rcases t with e | e
       rw [e] at hb;simp [zL] at hb;exact .inl hb.symm
       rw [e] at hb;injection hb with hb;exact .inr ⟨by first | exact hb.symm | simpa using hb.symm,by have:=ho4.toOwn6.bd b (by rw [e,hb]);omega⟩)
      refine zOt ?_;clear hK K hHeld ho4;intro hb4 HM HP KD hHeld;refine zCZ ?_;intro m0 d0 d1 d2 d3 d4 d5 d6 f0 f1 f2 f3 f4 f5 f6;(try go_simp);go_wp2_with fail;go_meet;have l:=vE w4 (v2.heap.size) ↑W ↑H (.slice a1 y k1) ↑C ↑B (.slice a2 mn k2) (.slice none 0 0);refine ⟨_,a1,k1,a2,k2,rfl,KD.Z.put7 _ _ _ _ _ _ _,om,l.ownA HP.Z ?_,l.ownA HM.Z ?_,fun b hb=>⟨?_,fun e=>?_⟩,fun b hb=>?_,zc hb4.Z om _ _ _ _ _ _ _⟩;intro b hb e;have:=HPB.Z b hb;omega;intro b hb e;rcases f.Z b hb with h | h <;>omega
      have:=HPB.Z b hb;omega;have h1:=HPB.Z b hb;rcases f.Z b e with h | h <;>omega
      rcases f.Z b hb with h | h <;>omega
    skip
    go_simp;have F:True:=trivial;have hb2:BelowL w0 ((w0.alloc (.cells #[] 3)).alloc (.cells ↑Zd 35)).drew:=BelowL.mk (zJ (zJ bR _) _).drew;have hq2:Below ((w0.alloc (.cells #[] 3)).drew).heap.size (w0.alloc (.cells #[] 3)).drew ((w0.alloc (.cells #[] 3)).alloc (.cells ↑Zd 35)).drew:=by first | exact nJ | exact nJ.drew | exact ⟨rfl,rfl,rfl,sI,fun i hi=>by simp at hi;simp [World.alloc,World.drew,Array.getElem?_push,Nat.ne_of_lt hi]⟩
    have HE:=Jh (HE.Z.below hq2 nI);have KD:Hd (Blk ((w0.alloc (.cells #[] 3)).alloc (.cells ↑Zd 35)).drew (w0.heap.size+1) 35 ↑Zd):=Jh (by first | exact Blk.new _ _ _ | exact (Blk.new _ _ _).drew | exact Blk.zD _ _ sI | exact (Blk.zD _ _ sI).drew);refine Xw ?_;clear hK K hHeld;refine zQz ?_;intro hHeld K hK v3 a1 k1 ho1 hq3 hb3 HP HPB;have HE:=Jh (HE.Z.below hq3 nI);have KD:=Jh (KD.Z.zA hq3);have A:w0.heap.size+1+1<=v3.heap.size:=by have:=hq3.size;first | exact this | omega | simpa using this
    go_wp2_with fail;refine ym38 ?_;clear hK K hHeld;intro hHz hHeld;clear hHz ho1 hq3;refine zCY ?_;intro K hK;intro a2 k2 w4 ho4 hg4 t;have hz4:v3.heap.size<=w4.heap.size:=by have:=hg4.size;first | exact this | omega | simpa using this
    have f:Hd (∀b,zL a2=some b->b=w0.heap.size\/(b=v3.heap.size/\b<w4.heap.size)):=Jh (fun b hb=>by
     rcases t with e | e
     rw [e] at hb;simp [zL] at hb;exact .inl hb.symm
     rw [e] at hb;injection hb with hb;exact .inr ⟨by first | exact hb.symm | simpa using hb.symm,by have:=ho4.toOwn6.bd b (by rw [e,hb]);omega⟩)
    refine zOu ?_;clear hK K hHeld ho4;intro hb4 HM KD HP hHeld;refine zCZ ?_;intro m0 d0 d1 d2 d3 d4 d5 d6 f0 f1 f2 f3 f4 f5 f6;(try go_simp);go_wp2_with fail;go_meet;have l:=vE w4 (w0.heap.size+1) ↑W ↑H (.slice a1 y k1) ↑C ↑B (.slice a2 mn k2) (.slice none 0 0);refine ⟨_,a1,k1,a2,k2,rfl,KD.Z.put7 _ _ _ _ _ _ _,om,l.ownA HP.Z ?_,l.ownA HM.Z ?_,fun b hb=>⟨?_,fun e=>?_⟩,fun b hb=>?_,zc hb4.Z om _ _ _ _ _ _ _⟩;intro b hb e;have:=HPB.Z b hb;omega;intro b hb e;rcases f.Z b hb with h | h <;>omega
    have:=HPB.Z b hb;omega;have h1:=HPB.Z b hb;rcases f.Z b e with h | h <;>omega
    rcases f.Z b hb with h | h <;>omega
  skip
  go_simp;have j3:True:=trivial;have hb1:BelowL w0 (w0.alloc (.cells ↑Zd 35)).drew:=BelowL.mk (zJ bR _).drew;have z:Below (w0.drew).heap.size w0.drew (w0.alloc (.cells ↑Zd 35)).drew:=by first | exact nJ | exact nJ.drew | exact ⟨rfl,rfl,rfl,sI,fun i hi=>by simp at hi;simp [World.alloc,World.drew,Array.getElem?_push,Nat.ne_of_lt hi]⟩
  have KD:Hd (Blk (w0.alloc (.cells ↑Zd 35)).drew (w0.heap.size) 35 ↑Zd):=Jh (by first | exact Blk.new _ _ _ | exact (Blk.new _ _ _).drew | exact Blk.zD _ _ sI | exact (Blk.zD _ _ sI).drew);refine Ju ?_;clear hK K hHeld;intro hHeld;refine zv ?_;refine vm (i:=2) (j:=9) zK rfl rfl (fun K hK=>?_) (fun K hK=>?_)
  . skip
    refine zRE ?_;intro v2 a1 k1 ho1 hq2 hb2 HP HPB;have KD:=Jh (KD.Z.zA hq2);have F:w0.heap.size+1<=v2.heap.size:=by have:=hq2.size;first | exact this | omega | simpa using this
    go_wp2_with fail;refine Xw ?_;clear hK K hHeld;intro hHz hHeld;clear hHz ho1 hq2;refine zv ?_;refine zW 9 (fun K hK=>?_);go_simp;have A:True:=trivial;have hb3:=BelowL.alloc hb2 (.cells #[] 3);have hq3:Below (v2).heap.size v2 (v2.alloc (.cells #[] 3)):=by first | exact nJ | exact nJ.drew | exact ⟨rfl,rfl,rfl,sI,fun i hi=>by simp at hi;simp [World.alloc,World.drew,Array.getElem?_push,Nat.ne_of_lt hi]⟩
    have KD:=Jh (KD.Z.zA hq3);have HP:=Jh (HP.Z.zA hq3);have hgeb:Hd (w0.heap.size<=v2.heap.size):=Jh (by have:=(hb2).le;first | exact this | omega | (simp at this;omega))
    have HE:Hd (RowA (v2.alloc (.cells #[] 3)) 3 1 w0.heap.size ↑v2 0 0 []):=Jh (RowA.mk (by
     have h9:RowT (v2.alloc (.cells #[] 3)) 3 1 (v2).heap.size 0 0 []:=vF v2 3 1
     first | exact h9 | (rw [show (v2).heap.size=v2.heap.size from by simp] at h9;exact h9)) (by have:=(hb2).le;first | exact this | omega | (simp at this;omega)))
    refine ym38 ?_;clear hK K hHeld;intro hHz hHeld;clear hHz;refine zCY ?_;intro K hK;intro a2 k2 w4 ho4 hg4 t;have hz4:v2.heap.size+1<=w4.heap.size:=by have:=hg4.size;first | exact this | omega | simpa using this
    have f:Hd (∀b,zL a2=some b->b=v2.heap.size\/(b=v2.heap.size+1/\b<w4.heap.size)):=Jh (fun b hb=>by
     rcases t with e | e
     rw [e] at hb;simp [zL] at hb;exact .inl hb.symm
     rw [e] at hb;injection hb with hb;exact .inr ⟨by first | exact hb.symm | simpa using hb.symm,by have:=ho4.toOwn6.bd b (by rw [e,hb]);omega⟩)
    refine zOu ?_;clear hK K hHeld ho4;intro hb4 HM KD HP hHeld;refine zCZ ?_;intro m0 d0 d1 d2 d3 d4 d5 d6 f0 f1 f2 f3 f4 f5 f6;(try go_simp);go_wp2_with fail;go_meet;have l:=vE w4 (w0.heap.size) ↑W ↑H (.slice a1 y k1) ↑C ↑B (.slice a2 mn k2) (.slice none 0 0);refine ⟨_,a1,k1,a2,k2,rfl,KD.Z.put7 _ _ _ _ _ _ _,om,l.ownA HP.Z ?_,l.ownA HM.Z ?_,fun b hb=>⟨?_,fun e=>?_⟩,fun b hb=>?_,zc hb4.Z om _ _ _ _ _ _ _⟩;intro b hb e;have:=HPB.Z b hb;omega;intro b hb e;rcases f.Z b hb with h | h <;>omega
    have:=HPB.Z b hb;omega;have h1:=HPB.Z b hb;rcases f.Z b e with h | h <;>omega
    rcases f.Z b hb with h | h <;>omega
  skip
  go_simp;have F:True:=trivial;have hb2:BelowL w0 ((w0.alloc (.cells ↑Zd 35)).alloc (.cells #[] 3)).drew:=BelowL.mk (zJ (zJ bR _) _).drew;have hq2:Below ((w0.alloc (.cells ↑Zd 35)).drew).heap.size (w0.alloc (.cells ↑Zd 35)).drew ((w0.alloc (.cells ↑Zd 35)).alloc (.cells #[] 3)).drew:=by first | exact nJ | exact nJ.drew | exact ⟨rfl,rfl,rfl,sI,fun i hi=>by simp at hi;simp [World.alloc,World.drew,Array.getElem?_push,Nat.ne_of_lt hi]⟩
  have KD:=Jh (KD.Z.zA hq2);have hgeb:Hd (w0.heap.size<=w0.heap.size+1):=Jh (by have:=(hb1).le;first | exact this | omega | (simp at this;omega))
  have HE:Hd (RowA ((w0.alloc (.cells ↑Zd 35)).alloc (.cells #[] 3)).drew 3 1 w0.heap.size ↑(w0.heap.size+1) 0 0 []):=Jh (RowA.mk (by
   have h9:RowT ((w0.alloc (.cells ↑Zd 35)).alloc (.cells #[] 3)).drew 3 1 ((w0.alloc (.cells ↑Zd 35))).heap.size 0 0 []:=vF (w0.alloc (.cells ↑Zd 35)) 3 1
   first | exact h9 | (rw [show ((w0.alloc (.cells ↑Zd 35))).heap.size=w0.heap.size+1 from by simp] at h9;exact h9)) (by have:=(hb1).le;first | exact this | omega | (simp at this;omega)))
  refine Xw ?_;clear hK K hHeld;refine zQz ?_;intro hHeld K hK v3 a1 k1 ho1 hq3 hb3 HP HPB;have KD:=Jh (KD.Z.zA hq3);have HE:=Jh (HE.Z.below hq3 nI);have A:w0.heap.size+1+1<=v3.heap.size:=by have:=hq3.size;first | exact this | omega | simpa using this
  go_wp2_with fail;refine ym38 ?_;clear hK K hHeld;intro hHz hHeld;clear hHz ho1 hq3;refine zCY ?_;intro K hK;intro a2 k2 w4 ho4 hg4 t;have hz4:v3.heap.size<=w4.heap.size:=by have:=hg4.size;first | exact this | omega | simpa using this
  have f:Hd (∀b,zL a2=some b->b=w0.heap.size+1\/(b=v3.heap.size/\b<w4.heap.size)):=Jh (fun b hb=>by
   rcases t with e | e
   rw [e] at hb;simp [zL] at hb;exact .inl hb.symm
   rw [e] at hb;injection hb with hb;exact .inr ⟨by first | exact hb.symm | simpa using hb.symm,by have:=ho4.toOwn6.bd b (by rw [e,hb]);omega⟩)
  refine zOu ?_;clear hK K hHeld ho4;intro hb4 HM KD HP hHeld;refine zCZ ?_;intro m0 d0 d1 d2 d3 d4 d5 d6 f0 f1 f2 f3 f4 f5 f6;(try go_simp);go_wp2_with fail;go_meet;have l:=vE w4 (w0.heap.size) ↑W ↑H (.slice a1 y k1) ↑C ↑B (.slice a2 mn k2) (.slice none 0 0);refine ⟨_,a1,k1,a2,k2,rfl,KD.Z.put7 _ _ _ _ _ _ _,om,l.ownA HP.Z ?_,l.ownA HM.Z ?_,fun b hb=>⟨?_,fun e=>?_⟩,fun b hb=>?_,zc hb4.Z om _ _ _ _ _ _ _⟩;intro b hb e;have:=HPB.Z b hb;omega;intro b hb e;rcases f.Z b hb with h | h <;>omega
  have:=HPB.Z b hb;omega;have h1:=HPB.Z b hb;rcases f.Z b e with h | h <;>omega
  rcases f.Z b hb with h | h <;>omega
 obtain ⟨gb,a1,k1,a2,k2,rfl,J,h8,hp,hm,i8,i3,hb⟩:=hcut;have e4:=Jh (KA.Z.zA hb);have h6:=Jh (KR.Z.zA hb);have g8:=Jh J;have g3:=Jh hp;have g1:=Jh hm;have g4:=Jh i8;have j8:=Jh i3;have HG:=Jh h8;have g5:=Jh (Below.trans HB0.Z (hb.mono HB0.Z.size));have HPB:=Jh hp.bd;have g2:=Jh hm.bd;have f8:=Jh J.lt;have g7:=Jh hb.size;clear J h8 hp hm i8 i3 hb KA KR N c0 c1 c2 c3 c4 c5 c6;obtain ⟨N,c0,c1,c2,c3,c4,c5,c6⟩:=e4.Z.c7;go_wp2_with fail;clear N c0 c1 c2 c3 c4 c5 c6
 go_loopw [25] (fun i wr=> ∃(k:Nat) (Q:List PV) (a':Option Addr) (c':Nat),k<=n/\i=↑k/\Q.length=k/\(∀j,j<k->(pv Q j).W=(pv ps j).W/\(pv Q j).H=(pv ps j).H/\(pv Q j).ink=(pv ps j).ink/\(pv Q j).n=(pv ps j).n)/\
  Blk wr gb 35 #[W,H, .slice a1 y k1,C,B, .slice a2 mn k2, .slice a' k c']/\OwnV wr wc a' k c' Q/\OwnA wr w0 a1 y k1 xs/\OwnA wr w0 a2 mn k2 ys/\
  Blk wr w 35 #[W,H, .slice (some ↑(b1,o1)) y pc,C,B, .slice (some ↑(b2,o2)) mn mc, .slice a n c]/\Blk wr (w.heap.size+1) 35 ↑Zd/\Below w w wr/\wc.heap.size<=wr.heap.size) (fun i _=>n - (intOf i).toNat)
 case atStart=>exact ⟨0,[],none,0,nZ,rfl,rfl,fun j hj=>om,g8.Z,OwnV.nil _ _,g3.Z,g1.Z,e4.Z,h6.Z,g5.Z,nI⟩
 obtain ⟨k,Q,a',c',hk,rfl,j1,j0,J,i7,i6,i5,i0,i1,b0,n3⟩:=hrel;have KG:=Jh J;have HV:=Jh i7;have HP:=Jh i6;have HM:=Jh i5;have KA:=Jh i0;have KR:=Jh i1;have HB:=Jh b0;have HQ:=Jh j1;have HE:=Jh j0;clear j0 J i7 i6 i5 i0 i1 b0 j1 g8 g3 g1 e4 h6 g5;by_cases T:k<n
 . obtain ⟨N,c0,c1,c2,c3,c4,c5,c6⟩:=KA.Z.c7
   have RV:=Jh (R6.Z.below HB.Z);obtain ⟨b,off,n0,n7⟩:=RV.Z.addr (by rw [R5.Z];omega);subst n0;obtain ⟨_,p0,p1,p2⟩:=RV.Z.cells (k:=k) (by rw [R5.Z];exact T);have b8:=RV.Z.rd (k:=k) (by rw [R5.Z];exact T);have b7:=RV.Z.len (k:=k) (by rw [R5.Z];exact T);have e8:=S4.Z k (by rw [R5.Z];exact T);obtain ⟨b3,o3,I⟩:=A3.Z k (by rw [R5.Z];exact T);obtain ⟨q,hq⟩: ∃q,pv ps k=q:=⟨_,rfl⟩
   have k7:=Jh hq;rw [hq] at p0 p1 p2 b8 b7 e8 I;obtain ⟨V,U,qa,X,qc,qi⟩:=q;dsimp only at p0 p1 p2 b8 b7 e8 I;subst I;have RD:=Jh b8;have LN:=Jh b7;have k0:(0:Int)<=(k:Int):=om;have n8:(k:Int)<(n:Int):=om;clear hq b8 b7;go_upto_region 5 with fail;clear N c0 c1 c2 c3 c4 c5 c6 p0 p1 p2;obtain ⟨w5,b6⟩:=zN (wr.alloc (.cells #[V,U, .slice (some ↑(b3,o3)) X qc] 31));have KT:Hd (Blk w5 wr 31 #[V,U, .slice (some ↑(b3,o3)) X qc]):=Jh (by rw [b6];exact Blk.new _ _ _);have x:Hd (Below wr wr w5):=Jh (by rw [b6];exact nJ);rw [<-b6];clear b6;have e5:=Jh (KG.Z.zA x.Z);have g6:=Jh (HV.Z.below x.Z);have k4:=Jh (HP.Z.zA x.Z);have j6:=Jh (HM.Z.zA x.Z);have m2:=Jh (KA.Z.zA x.Z);have m4:=Jh (KR.Z.zA x.Z);have j4:=Jh (zI HB.Z x.Z);have m6:=Jh (RD.Z.below x.Z);have n6:=Jh e5.Z.lt;obtain ⟨t0,e0,e1,e2⟩:=KT.Z.c3;obtain ⟨g0,d0,d1,d2,d3,d4,d5,d6⟩:=e5.Z.c7;have MK:Hd (∀v,BelowL w5 v->Jc v (gb,6) (.slice a' k c')/\Jc v wr V/\Jc v (wr,1) U/\Jc v (wr,2) (.slice (some ↑(b3,o3)) X qc)/\BelowL w5 v):=Jh (fun v h=>⟨(h.Z.cell g0).trans d6,(h.Z.cell t0).trans e0,(h.Z.cell t0).trans e1,(h.Z.cell t0).trans e2,h⟩);clear g0 d0 d1 d2 d3 d4 d5 d6 t0 e0 e1 e2;refine zh 5 MK zK (MK.Z _ lS) ?_;intro hHeld;have m:=ZM hHeld;refine zM 0 ?_;refine zM 1 ?_;refine zM 2 ?_;refine zW 3 (fun K hK=>?_);go_simp
   go_at_call 44
   ((with_reducible refine (uj V U b3 o3 X qc qi _ LN.Z (m6.Z.below m.Z) e8).mono ?_);rintro e g ⟨a3,k3,rfl,ho3,z⟩);have hb1:=BelowL.call m z;go_wp2_with fail;refine hK.out _ _ (fun _=>Jd (MK.Z _ hb1)) (fun hH2=>?_);clear hK K hHeld;have hHeld:=hH2 dC;refine zW 4 (fun K hK=>?_);go_simp;have hb3:=BelowL.alloc hb1 (.cells #[V,U, .slice a3 X k3] 31);refine hK.out _ _ (fun _=>Jd (MK.Z _ hb3)) (fun hH2=>?_);clear hK K hHeld;refine zW 5 (fun K hK=>?_);have Y:=Jh (g6.Z.below hb3.Z);have n4:wc.heap.size<=w5.heap.size:=Yx n3 x.Z.size;refine US _ (by rfl) 33 underlying33 JJ (.tmp 30) (.tmp 33) (by rfl) wc.heap.size k c' a' Q (by rfl) Y.Z.toRowVA g ⟨V,U,a3,X,k3,qi⟩ (by rfl) (by first | go_simp | simp) (by first | go_simp | simp) (by first | go_simp | simp) om (og hb3.le) ?_;intro h7 c8 w6 i4 u j2;have n2:=f8.Z;have F:=g7.Z;have n1:=HG.Z;have b5:=HPB.Z;have b4:=g2.Z;have A:=e3.Z;have d7:=Y.Z.bd;have O:=g6.Z.bd;have i2:=hb1.le;have s: ∀b,zL a'=some b->wc.heap.size<=b:=fun b hb=>(d7 b (.inl hb)).1
   have k8:Hd (OwnV w6 wc h7 (k+1) c8 (Q++ [⟨V,U,a3,X,k3,qi⟩])):=Jh (OwnV.snoc Y.Z i4 u
    (fun b hb=>by
     rcases j2 with e | e
     rw [e] at hb;exact .inl hb
     rw [e] at hb;injection hb with hb;exact .inr om)
    (((ho3.mono (B':=wc.heap.size) (og m.le)).alloc _).zG u (fun b hb hb2=>by
     have h1:=(O b (.inl hb)).2;have h2:=ho3.bd b hb2;have:=m.le
     omega))
    (fun b hb=>by
     have h2:=ho3.bd b hb;refine ⟨sO,fun b0=>?_⟩;have h1:=(O b b0).2;have:=m.le
     omega))
   have e6:=Jh ((e5.Z.zA hb3.Z).grown u (fun e=>by have:=s _ e.symm;omega));have k5:=Jh ((k4.Z.zA hb3.Z).zG u (fun b hb hb2=>by have:=s _ hb;have:=b5 b hb2;omega));have j7:=Jh ((j6.Z.zA hb3.Z).zG u (fun b hb hb2=>by have:=s _ hb;have:=b4 b hb2;omega));have m3:=Jh ((m2.Z.zA hb3.Z).grown u (fun e=>by have:=s _ e.symm;omega));have m5:=Jh ((m4.Z.zA hb3.Z).grown u (fun e=>by have:=s _ e.symm;omega));have d8:=Jh (zI j4.Z hb3.Z);have j5:=Jh (d8.Z.grown u d8.Z.size (fun b hb=>by have:=s _ hb;omega));have m1:Hd (wc.heap.size<=w6.heap.size):=Jh (zB u.size hb3.le)
   have k6:Hd (∀j,j<k+1->(pv (Q++ [⟨V,U,a3,X,k3,qi⟩]) j).W=(pv ps j).W/\(pv (Q++ [⟨V,U,a3,X,k3,qi⟩]) j).H=(pv ps j).H/\(pv (Q++ [⟨V,U,a3,X,k3,qi⟩]) j).ink=(pv ps j).ink/\(pv (Q++ [⟨V,U,a3,X,k3,qi⟩]) j).n=(pv ps j).n):=Jh (fun j hj=>by
    by_cases e:j<k
    rw [uV (by rw [HQ.Z];exact e)];exact HE.Z j e;obtain rfl:j=Q.length:=by rw [HQ.Z];omega
    rw [ww,HQ.Z,k7.Z];exact ⟨rfl,rfl,rfl,rfl⟩)
   clear i4 u j2 m hb1 hb3 z ho3 Y d8 d7 O s n4 i2;obtain ⟨g0,d0,d1,d2,d3,d4,d5,d6⟩:=e6.Z.c7;obtain ⟨f0,f1,f2,f3,f4,f5,f6⟩:=e6.Z.f7;refine hK.out _ _ (fun h=>absurd h dC) (fun hH2=>?_);clear hK K;refine zW 6 (fun K hK=>?_);go_simp;refine hK.out _ _ (fun h=>absurd h dC) (fun hH2=>?_);clear hK K hH2;refine zW 7 (fun K hK=>?_);go_simp;refine hK.out _ _ (fun h=>absurd h dC) (fun hH2=>?_);clear hK K hH2;refine zx zK ?_ _;(try go_simp);go_wp2_with fail;go_roundw
   case rel=>exact ⟨k+1,_,h7,c8,om,by go_num,by rw [Yn,HQ.Z];rfl,k6.Z,by exact e6.Z.putS _,by exact k8.Z.other sO _,by exact k5.Z.zF (fun e=>(g4.Z _ e).1 rfl) _,by exact j7.Z.zF (fun e=>j8.Z _ e rfl) _,by exact m3.Z.other sO _,by exact m5.Z.other sO _,by exact j5.Z.setCell sO _,by have:=m1.Z;simp;omega⟩
   exact Jm
 obtain rfl:k=n:=om;obtain ⟨g0,d0,d1,d2,d3,d4,d5,d6⟩:=KG.Z.c7;obtain ⟨N,c0,c1,c2,c3,c4,c5,c6⟩:=KR.Z.c7;obtain ⟨f0,f1,f2,f3,f4,f5,f6⟩:=KR.Z.f7;go_wp2_with fail;have n2:=f8.Z;have F:=g7.Z;have n1:=HG.Z;have b5:=HPB.Z;have b4:=g2.Z;have n5:=e3.Z;refine bodyPost_ret (v:=(⟨⟨W,H,a1,y,k1,xs⟩,⟨C,B,a2,mn,k2,ys⟩,a',k,c',Q⟩:Dsk).val) (by simp [results,results17,go_sem,Dsk.val,c0,c1,c2,c3,c4,c5,c6]) rfl ⟨_,rfl,?_,?_,?_,?_⟩;refine yG.set7 (D:=⟨⟨W,H,a1,y,k1,xs⟩,⟨C,B,a2,mn,k2,ys⟩,a',k,c',Q⟩) ⟨HP.Z.mono om,HM.Z.mono om,HV.Z.mono om,fun b hb e=>?_,fun b hb e=>?_,fun b hb e=>?_⟩ (fun b hb=>?_) _ _ _ _ _ _ _;exact (g4.Z b hb).2 e;have h1:=b5 b e;have h2:=(HV.Z.bd b hb).1;omega;have h1:=b4 b e;have h2:=(HV.Z.bd b hb).1;omega;rcases hb with hb | hb | hb
 have h1:=b5 b hb;have:=e3.Z;omega;have h1:=b4 b hb;omega;have h2:=(HV.Z.bd b hb).1;omega;show ((⟨W,H,xs⟩,⟨C,B,ys⟩,zS Q):Pic × Pic × List Pic)=(⟨W,H,xs⟩,⟨C,B,ys⟩,zS ps)
 rw [zFR (L:=Q) (M:=ps) (by rw [HQ.Z,R5.Z]) (fun j hj=>by have h:=HE.Z j (by rw [<-HQ.Z];exact hj);exact ⟨h.1,h.2.1,h.2.2.1⟩)]
 exact ⟨s1,s2,s3,fun j hj=>by
  have h:=HE.Z j (by rw [<-HQ.Z];exact hj);show (pv Q j).n<=1048576;rw [h.2.2.2]
  exact S4.Z j (by rw [R5.Z,<-HQ.Z];exact hj)⟩
 exact zc HB.Z om _ _ _ _ _ _ _
end Go.Proofs.YtlenfgdjdianiaaGreatDoor
