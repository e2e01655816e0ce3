/- Facts on which this claim rests, 7. -/
import Derived.Test.YtlenfgdjdianiaaGreatDoorG6
set_option linter.all false
set_option maxHeartbeats 6400000
namespace Go.Proofs.YtlenfgdjdianiaaGreatDoor
open Go.RowKit Tq Go.Proofs.Tryz
variable {B cap k n : Nat} {E : Prop} {H W a b x y : Int} {K : Act → World → Prop} {P : Program} {Q : Exit → Act → World → Prop} {ad : Option Addr} {o : Oper} {ops : Array Oper} {w : World} {xs : List Int}
attribute [local go_sem ↓] Go.wp_at_zero Go.wp_at_succ
def bg (a b:Int):Int:=wrap64 (wrap64 (2*bits BinOp.xor IntKind.i64 a b)+b)
theorem iP (a b:Int) (w:World):
 Calls prog 195 #[a,b] w fun e w'=>e= .returned ↑(bg a b)/\w=w':=by
 go_in
 go_wp2
 go_ret;exact ⟨rfl,rfl⟩
theorem Pq (h1:0<=a) (h2:a<=1) (h3:0<=b) (h4:b<=1):bg a b=YQ a b:=by
 by_cases ha:a=0
 subst ha;by_cases hb:b=0
 subst hb;decide+kernel;obtain rfl:b=1:=om;decide+kernel;obtain rfl:a=1:=om;by_cases hb:b=0
 subst hb;decide+kernel;obtain rfl:b=1:=om;decide+kernel
theorem WX (e:1<=W) (c:0<=x) (h1:x<2*W):0<=x/W/\x/W<=1:=by
 constructor;exact Yw c om;have:x/W<2:=Int.ediv_lt_of_lt_mul om om;omega
theorem gZ (hn:(n:Int)=W*H) (f:1<=W) (c:1<=H) (hk:k<4*n):
 0<=(k:Int) % (2*W)/\(k:Int) % (2*W)<2*W/\0<=(k:Int)/(2*W)/\(k:Int)/(2*W)<2*H/\(k:Int)/(2*W)<=k:=by
 refine ⟨Yg _ om,Ye _ om,Yw om om,?_,Int.ediv_le_self _ om⟩;refine Int.ediv_lt_of_lt_mul om ?_
 have e:2*H*(2*W)=4*(W*H):=by
  rw [Yq,Int.mul_left_comm H 2 W,<-Yq,Ys H W];rfl
 rw [e,<-hn];omega
theorem OP (hn:(n:Int)=W*H) (f:1<=W) (c:1<=H) (hm:4*n<=256):xO (2*W) (2*H)=true/\((4*n:Nat):Int)=2*W*(2*H)/\W<=64/\H<=64:=by
 have e:2*W*(2*H)=4*(W*H):=by
  rw [Yq,Int.mul_left_comm W 2 H,<-Yq];rfl
 have g:W*1<=W*H:=YA c om;have i:1*H<=W*H:=Yo f om;refine ⟨QZ om om (by rw [e];omega),by rw [e];omega,om,om⟩
theorem Ow (W H:Int) (ad:Option Addr) (n cap:Nat) (xs:List Int) (w:World) (hn:xs.length=n) (ha:Rd w ad xs) (T:(n:Int)=W*H) (b1:1<=W) (b3:1<=H) (R:4*n<=256) (hi:inR xs n=true):
 Calls prog 143 #[.agg #[W,H, .slice ad n cap]] w (VE w (EP ⟨W,H,xs⟩)):=by
 have F:=Jh hn;have HA:=Jh ha;clear hn ha;have L:=Jh T;have HI:=Jh hi;obtain ⟨D,A,b2,b4⟩:=OP T b1 b3 R;have N:=Jh D;obtain ⟨m,hm⟩:=zN (4*n:Nat);have M:Hd ((m:Int)=2*W*(2*H)):=Jh (by rw [hm];exact A);have b8:m<=256:=om;have HM:Hd (m=4*n):=Jh hm;have e0:EP ⟨W,H,xs⟩=⟨2*W,2*H,gen m (ug W H xs)⟩:=by unfold EP;simp only [F.Z];rw [HM.Z]
 rw [e0];have c4:n<=64:=om;clear e0 T hi D A hm;go_in;go_wp2_with fail;refine (Zk (2*W) (2*H) m _ N.Z M.Z).mono ?_;rintro e w2 ⟨g,rfl,hg,f,hb⟩;have l:=Jh (nV.trans (hb.mono sO));have u:=Jh (((Blk.new w 32 #[W,H, .slice ad n cap]).alloc _).zA hb)
 have z:Hd (Blk w2 (w.heap.size+1) 32 ↑Zp):=by
  have h:=(Blk.new (w.alloc (.cells #[W,H, .slice ad n cap] 32)) 32 ↑Zp).zA hb;exact Jh (by simpa using h)
 have G:=Jh f;have j:Hd (w.heap.size+1+1<=g):=Jh (by simpa using hg);clear hb f hg
 go_wp2
 go_loopw [17] (fun i wr=> ∃k:Nat,k<=m/\i=↑k/\Own wr g m m (zy (gen m (ug W H xs)) (List.replicate m 0) k)/\(w2.alloc (.cells #[.int .i64 (2*W), .int .i64 (2*H), .slice ↑g m m] 32)).grownBy wr (some g)) (fun i _=>m - (intOf i).toNat)
 exact ⟨0,nZ,rfl,by rw [xB];exact G.Z.alloc _,yU _ _⟩;obtain ⟨k,hk,rfl,f,hg⟩:=hrel;have t:=Jh ((l.Z.alloc l.Z.size _).grown hg (oS l.Z.size) (by intro k hk;cases hk;have:=j.Z;omega));have KO:=Jh ((Blk.new w2 32 #[.int .i64 (2*W), .int .i64 (2*H), .slice ↑g m m]).grown hg (oS G.Z.lt));obtain ⟨l0,o0,o1,U⟩:=KO.Z.c3;have KP:=Jh ((u.Z.alloc _).grown hg (oT j.Z u.Z.lt));obtain ⟨s,V,X,Y⟩:=KP.Z.c3;by_cases q:k<m
 . obtain ⟨x0,x1,y0,y1,y2⟩:=gZ L.Z b1 b3 (by have:=HM.Z;omega:k<4*n)
   obtain ⟨a0,a1⟩:=WX b1 x0 x1;obtain ⟨c0,c1⟩:=WX b3 y0 y1;obtain ⟨r0,r1⟩:=Bg F.Z L.Z b1 b3 HI.Z ((k:Int) % (2*W)) ((k:Int)/(2*W));obtain ⟨q0,q1⟩:=cZ ((k:Int) % (2*W)/W) ((k:Int)/(2*W)/H);have g2:wr.cell? (g,k)=some ↑((zy (gen m (ug W H xs)) (List.replicate m 0) k).getD k 0):=f.cell q;have g3:wr.frozen? (g,k)=false:=f.frozen k;have O:=f.lt;have J:=Jh f;clear f;have N1:g≠w.heap.size:=by have:=j.Z;omega
   have N2:g≠w2.heap.size:=by have:=G.Z.lt;omega
   have b6: ¬2*W=0:=om;have b7: ¬W=0:=om;have hH2: ¬H=0:=om;have b5:(W==0)=false:=sO;have b0:(H==0)=false:=sO;go_wp2_with fail
   go_quiet (fail)
   go_wp2
   go_region_held3 (fun v=>JB v w W H (.slice ad n cap) (Jc v (w2,2) (.slice ↑g m m)))
    (first | exact ⟨V,X,Y,U⟩ | exact ⟨(c.cell s).trans V,(c.cell s).trans X,(c.cell s).trans Y,(c.cell l0).trans U⟩ | exact ⟨zh z0 N1,zh z1 N1,zh z2 N1,zh z3 N2⟩)
    (first
     | (go_at_call 194;((with_reducible refine (ZP W H ad n cap xs _ _ _ F.Z (by exact (HA.Z.below t.Z).of_heap rfl) L.Z b1 b3 om om om).mono ?_);rintro e v1 ⟨rfl,c⟩;have z0:=(c.cell s).trans V;have z1:=(c.cell s).trans X;have z2:=(c.cell s).trans Y;have z3:=(c.cell l0).trans U;have t2:=(c.cell O).trans g2;have t3:=(c.frozen O).trans g3))
     | (go_at_call 195;((with_reducible refine (iP _ _ _).mono ?_);rintro e v9 ⟨rfl,rfl⟩)))
   go_wp2
   go_roundw
   . have C:Below wr wr v1:=⟨c.os,c.tape,c.output,c.size,c.block⟩
     have hv:(gen m (ug W H xs)).getD k 0=wrap64 (4*vV W H xs ((k:Int) % (2*W)) ((k:Int)/(2*W))+bg ((k:Int) % (2*W)/W) ((k:Int)/(2*W)/H)):=by
      rw [yY _ _ _ q,Pq a0 a1 c0 c1,IntWalk.wrap64_in _ om];rfl
     have hs:=(J.Z.below C O).set k (wrap64 (4*vV W H xs ((k:Int) % (2*W)) ((k:Int)/(2*W))+bg ((k:Int) % (2*W)/W) ((k:Int)/(2*W)/H)));rw [yx (gen m (ug W H xs)) _ k _ (by rw [zk];exact q) sO hv] at hs;exact ⟨k+1,om,by go_num,hs,yX (zY hg (xS (row:=some g) C)) _⟩
   exact Jm
 obtain rfl:m=k:=om;have KR:=Jh ((z.Z.alloc _).grown hg (oT j.Z z.Z.lt));obtain ⟨r0,r1,r2,r3⟩:=KR.Z.c3;obtain ⟨q0,q1,q2⟩:=KR.Z.f3;rw [jC (gen m (ug W H xs)) _ m (by rw [zk]) sI] at f;have I:=Jh f;clear f
 go_wp2
 exact bodyPost_ret (v:= .agg #[.int .i64 (2*W), .int .i64 (2*H), .slice ↑g m m]) (by simp [results,results143,go_sem,r1,r2,r3]) rfl
  ⟨_,_,_,rfl,OwnA.mk (((I.Z.other (oS j.Z) _).other (oS j.Z) _).other (oS j.Z) _) (oh j),om,
   ((t.Z.setCell sD _).setCell sD _).setCell sD _⟩
theorem GD (c:0<=x) (h1:x<W):x/W=0:=Int.ediv_eq_zero_of_lt c h1
theorem GA (g:1<=W) (f:x<2*W) (h1: ¬x<W):x/W=1:=by
 have c:1<=x/W:=(Int.le_ediv_iff_mul_le om).2 om;have e:x/W<2:=Int.ediv_lt_of_lt_mul om om;omega
theorem bn (j:1<=W) (i:1<=H) (c:0<=x) (e:x<W) (f:0<=y) (g:y<H):YQ (x/W) (y/H)=0:=by rw [GD c e,GD f g];rfl
theorem bq (j:1<=W) (c:1<=H) (e:0<=x) (f:x<W) (g:y<2*H) (i: ¬y<H):YQ (x/W) (y/H)=3:=by rw [GD e f,GA c g i];rfl
theorem cB (c:1<=W) (j:1<=H) (e:x<2*W) (f: ¬x<W) (g:0<=y) (i:y<H):YQ (x/W) (y/H)=2:=by rw [GA c e f,GD g i];rfl
theorem cO (e:1<=W) (c:1<=H) (f:x<2*W) (g: ¬x<W) (i:y<2*H) (j: ¬y<H):YQ (x/W) (y/H)=1:=by rw [GA e f g,GA c i j];rfl
theorem RZ (W H:Int) (ad:Option Addr) (n cap:Nat) (xs:List Int) (w:World) (hn:xs.length=n) (ha:Rd w ad xs) (hq:(n:Int)=W*H) (b1:1<=W) (b3:1<=H) (c0:4*n<=256) (hi:inR xs n=true):
 Calls prog 102 #[.agg #[W,H, .slice ad n cap]] w (VE w (EP ⟨W,H,xs⟩)):=by
 have HN:=Jh hn;have HA:=Jh ha;clear hn ha;have HQ:=Jh hq;have HI:=Jh hi;obtain ⟨b7,b6,b2,b4⟩:=OP hq b1 b3 c0;have c8:=Jh b7;obtain ⟨m,hm⟩:=zN (4*n:Nat);have c5:Hd ((m:Int)=2*W*(2*H)):=Jh (by rw [hm];exact b6);have d2:m<=256:=om;have HM:Hd (m=4*n):=Jh hm;have e0:EP ⟨W,H,xs⟩=⟨2*W,2*H,gen m (ug W H xs)⟩:=by unfold EP;simp only [HN.Z];rw [HM.Z]
 rw [e0];have d3:n<=64:=om;clear e0 hq hi b7 b6 hm;go_in;go_wp2_with fail
 go_loopw [4] (fun i wr=> ∃(k:Nat) (z:Option Addr) (u:Nat),k<=m/\i=↑k/\OwnA wr (w.heap.size+2+1) z k u (gen k (ug W H xs))/\Blk wr (w.heap.size+2) 32 #[.int .i64 (2*W), .int .i64 (2*H), .slice z k u]/\Below (w.heap.size+2) ((w.alloc (.cells #[W,H, .slice ad n cap] 32)).alloc (.cells ↑Zp 32)) wr) (fun i _=>m - (intOf i).toNat)
 exact ⟨0,none,0,nZ,rfl,oN,by first | exact Blk.new _ _ _ | exact Blk.zD _ _ sI,by first | exact nJ | exact bR.alloc sI _⟩;obtain ⟨k,z,u,hk,rfl,ho,b0,b8⟩:=hrel;have HO:=Jh ho;have Y:=Jh b0;have HW:=Jh b8;obtain ⟨l0,o0,o1,o2⟩:=Y.Z.c3;clear ho b0 b8;have KP:=Jh (((Blk.new w 32 #[W,H, .slice ad n cap]).alloc (.cells ↑Zp 32)).below HW.Z sI);obtain ⟨O,s0,s1,s2⟩:=KP.Z.c3;have N:=Jh ((Joins.below_alloc2 w _ _).trans (HW.Z.mono sI));by_cases d1:k<m
 . have b5:(k:Int)<4*(n:Int):=by have:=HM.Z;omega
   obtain ⟨x0,x1,L,M,T⟩:=gZ HQ.Z b1 b3 (by have:=HM.Z;omega:k<4*n);obtain ⟨r0,r1⟩:=Bg HN.Z HQ.Z b1 b3 HI.Z ((k:Int) % (2*W)) ((k:Int)/(2*W));have d0: ¬2*W=0:=om;have NP:w.heap.size+2≠w.heap.size:=om;have LP:w.heap.size<w.heap.size+2:=om;by_cases hx:(k:Int) % (2*W)<W
   . by_cases hy:(k:Int)/(2*W)<H
     . have J:=Jh (bn b1 b3 x0 hx L hy)
       go_wp2_with fail;refine yA 12 (fun v=>Jc v w W/\Jc v (JE w 1) H/\Jc v (JE w 2) (.slice ad n cap)/\Jc v (JE (w.heap.size+2) 2) (.slice z k u)) zK ⟨s0,s1,s2,o2⟩ ?_;intro f;refine zP 0 ?_;refine zP 1 ?_;refine zP 2 ?_;refine zP 3 ?_;refine zP 4 ?_;refine zP 7 ?_;refine zf 5 (fun K hK=>?_);go_simp
       go_at_call 88
       ((with_reducible refine (qP W H ad n cap xs _ _ _ HN.Z (by exact (HA.Z.below N.Z).of_heap rfl) HQ.Z b1 b3 om om om).mono ?_);rintro e v1 ⟨rfl,c⟩);have L:=(c.cell O).trans s0;have M:=(c.cell O).trans s1;have T:=(c.cell O).trans s2;have V:=(c.cell l0).trans o2;have j:=Jh (HO.Z.drew.zA c);have q:=Jh (Y.Z.drew.zA c);have lv:=q.Z.lt;go_wp2_with fail;refine hK.out _ _ (fun _=>⟨L,M,T,V⟩) (fun hH2=>?_);clear hK K f;have f:=hH2 dC;clear hH2;refine zP 6 ?_;refine zP 8 ?_;refine zf 9 (fun K hK=>?_);go_simp;refine hK.out _ _ (fun _=>⟨yF L,yF M,yF T,yF V⟩) (fun hH2=>?_);clear hK K f hH2;refine zf 10 (fun K hK=>?_);refine wK _ (by rfl) (.tmp 65) (.tmp 73) (by rfl) (w.heap.size+2+1) k u z (gen k (ug W H xs)) (by rfl) (j.Z.alloc _) v1.heap.size _ (by rfl) (qM _ _ _) om (oS q.Z.lt) ?_;intro s g U A t;have I:=Jh (uD j.Z t (KP.Z.drew.zA c) om);obtain ⟨l6,z0,X,z2⟩:=I.Z.c3;have l:=Jh (uD j.Z t q.Z om);obtain ⟨l5,t0,t1,t2⟩:=l.Z.c3;obtain ⟨f0,f1,f2⟩:=l.Z.f3;refine hK.out _ _ (fun _=>⟨z0,X,z2,t2⟩) (fun hH2=>?_);clear hK K hH2;refine zf 11 (fun K hK=>?_);go_simp;refine hK.out _ _ (fun _=>⟨z0,X,z2,t2⟩) (fun hH2=>?_);clear hK K hH2;refine zf 12 (fun K hK=>?_);go_simp;refine hK.out _ _ (fun h=>absurd h dC) (fun hH2=>?_);clear hK K hH2;refine yG zK ?_ _;(try go_simp);have F:=Jh (HW.Z.trans ((kM c).mono (by have:=Y.Z.lt;have e0:wr.drew.heap.size=wr.heap.size:=rfl;omega)));have D:=Jh (qw j.Z t F.Z om (og q.Z.lt));have C:Hd (OwnA U (w.heap.size+2+1) s (k+1) g (gen (k+1) (ug W H xs))):=Jh (by rw [<-vv];refine cast (congrArg (fun (v:Int)=>OwnA U (w.heap.size+2+1) s (k+1) g (gen k (ug W H xs)++ [v])) ?_) A;(unfold ug;rw [J.Z,Yc (4*vV W H xs ((k:Int) % (2*W)) ((k:Int)/(2*W))) om,Yc _ om];try omega));clear A t;go_wp2_with fail;go_roundw
       . exact ⟨k+1,s,g,om,by go_num,C.Z.other sI _,by first | exact l.Z.set 2 _ | (have h:=l.Z.set 2 (.slice s (k+1) g);simpa using h),D.Z.setCell sI _⟩
       exact Jm
     have J:=Jh (bq b1 b3 x0 hx M hy);have c4:H<=(k:Int)/(2*W):=om;clear hy;go_wp2_with fail;refine yA 12 (fun v=>Jc v w W/\Jc v (JE w 1) H/\Jc v (JE w 2) (.slice ad n cap)/\Jc v (JE (w.heap.size+2) 2) (.slice z k u)) zK ⟨s0,s1,s2,o2⟩ ?_;intro f;refine zP 0 ?_;refine zP 1 ?_;refine zP 2 ?_;refine zP 3 ?_;refine zP 4 ?_;refine zP 7 ?_;refine zf 5 (fun K hK=>?_);go_simp
     go_at_call 88
     ((with_reducible refine (qP W H ad n cap xs _ _ _ HN.Z (by exact (HA.Z.below N.Z).of_heap rfl) HQ.Z b1 b3 om om om).mono ?_);rintro e v1 ⟨rfl,c⟩);have L:=(c.cell O).trans s0;have M:=(c.cell O).trans s1;have T:=(c.cell O).trans s2;have V:=(c.cell l0).trans o2;have j:=Jh (HO.Z.drew.zA c);have q:=Jh (Y.Z.drew.zA c);have lv:=q.Z.lt;go_wp2_with fail;refine hK.out _ _ (fun _=>⟨L,M,T,V⟩) (fun hH2=>?_);clear hK K f;have f:=hH2 dC;clear hH2;refine zP 6 ?_;refine zP 8 ?_;refine zf 9 (fun K hK=>?_);go_simp;refine hK.out _ _ (fun _=>⟨yF L,yF M,yF T,yF V⟩) (fun hH2=>?_);clear hK K f hH2;refine zf 10 (fun K hK=>?_);refine wK _ (by rfl) (.tmp 65) (.tmp 73) (by rfl) (w.heap.size+2+1) k u z (gen k (ug W H xs)) (by rfl) (j.Z.alloc _) v1.heap.size _ (by rfl) (qM _ _ _) om (oS q.Z.lt) ?_;intro s g U A t;have I:=Jh (uD j.Z t (KP.Z.drew.zA c) om);obtain ⟨l6,z0,X,z2⟩:=I.Z.c3;have l:=Jh (uD j.Z t q.Z om);obtain ⟨l5,t0,t1,t2⟩:=l.Z.c3;obtain ⟨f0,f1,f2⟩:=l.Z.f3;refine hK.out _ _ (fun _=>⟨z0,X,z2,t2⟩) (fun hH2=>?_);clear hK K hH2;refine zf 11 (fun K hK=>?_);go_simp;refine hK.out _ _ (fun _=>⟨z0,X,z2,t2⟩) (fun hH2=>?_);clear hK K hH2;refine zf 12 (fun K hK=>?_);go_simp;refine hK.out _ _ (fun h=>absurd h dC) (fun hH2=>?_);clear hK K hH2;refine yG zK ?_ _;(try go_simp);have F:=Jh (HW.Z.trans ((kM c).mono (by have:=Y.Z.lt;have e0:wr.drew.heap.size=wr.heap.size:=rfl;omega)));have D:=Jh (qw j.Z t F.Z om (og q.Z.lt));have C:Hd (OwnA U (w.heap.size+2+1) s (k+1) g (gen (k+1) (ug W H xs))):=Jh (by rw [<-vv];refine cast (congrArg (fun (v:Int)=>OwnA U (w.heap.size+2+1) s (k+1) g (gen k (ug W H xs)++ [v])) ?_) A;(unfold ug;rw [J.Z,Yc (4*vV W H xs ((k:Int) % (2*W)) ((k:Int)/(2*W))) om,Yc _ om];try omega));clear A t;go_wp2_with fail;go_roundw
     . exact ⟨k+1,s,g,om,by go_num,C.Z.other sI _,by first | exact l.Z.set 2 _ | (have h:=l.Z.set 2 (.slice s (k+1) g);simpa using h),D.Z.setCell sI _⟩
     exact Jm
   by_cases hy:(k:Int)/(2*W)<H
   . have J:=Jh (cB b1 b3 x1 hx L hy)
     have c1:W<=(k:Int) % (2*W):=om;clear hx;go_wp2_with fail;refine yA 12 (fun v=>Jc v w W/\Jc v (JE w 1) H/\Jc v (JE w 2) (.slice ad n cap)/\Jc v (JE (w.heap.size+2) 2) (.slice z k u)) zK ⟨s0,s1,s2,o2⟩ ?_;intro f;refine zP 0 ?_;refine zP 1 ?_;refine zP 2 ?_;refine zP 3 ?_;refine zP 4 ?_;refine zP 7 ?_;refine zf 5 (fun K hK=>?_);go_simp
     go_at_call 88
     ((with_reducible refine (qP W H ad n cap xs _ _ _ HN.Z (by exact (HA.Z.below N.Z).of_heap rfl) HQ.Z b1 b3 om om om).mono ?_);rintro e v1 ⟨rfl,c⟩);have L:=(c.cell O).trans s0;have M:=(c.cell O).trans s1;have T:=(c.cell O).trans s2;have V:=(c.cell l0).trans o2;have j:=Jh (HO.Z.drew.zA c);have q:=Jh (Y.Z.drew.zA c);have lv:=q.Z.lt;go_wp2_with fail;refine hK.out _ _ (fun _=>⟨L,M,T,V⟩) (fun hH2=>?_);clear hK K f;have f:=hH2 dC;clear hH2;refine zP 6 ?_;refine zP 8 ?_;refine zf 9 (fun K hK=>?_);go_simp;refine hK.out _ _ (fun _=>⟨yF L,yF M,yF T,yF V⟩) (fun hH2=>?_);clear hK K f hH2;refine zf 10 (fun K hK=>?_);refine wK _ (by rfl) (.tmp 65) (.tmp 73) (by rfl) (w.heap.size+2+1) k u z (gen k (ug W H xs)) (by rfl) (j.Z.alloc _) v1.heap.size _ (by rfl) (qM _ _ _) om (oS q.Z.lt) ?_;intro s g U A t;have I:=Jh (uD j.Z t (KP.Z.drew.zA c) om);obtain ⟨l6,z0,X,z2⟩:=I.Z.c3;have l:=Jh (uD j.Z t q.Z om);obtain ⟨l5,t0,t1,t2⟩:=l.Z.c3;obtain ⟨f0,f1,f2⟩:=l.Z.f3;refine hK.out _ _ (fun _=>⟨z0,X,z2,t2⟩) (fun hH2=>?_);clear hK K hH2;refine zf 11 (fun K hK=>?_);go_simp;refine hK.out _ _ (fun _=>⟨z0,X,z2,t2⟩) (fun hH2=>?_);clear hK K hH2;refine zf 12 (fun K hK=>?_);go_simp;refine hK.out _ _ (fun h=>absurd h dC) (fun hH2=>?_);clear hK K hH2;refine yG zK ?_ _;(try go_simp);have F:=Jh (HW.Z.trans ((kM c).mono (by have:=Y.Z.lt;have e0:wr.drew.heap.size=wr.heap.size:=rfl;omega)));have D:=Jh (qw j.Z t F.Z om (og q.Z.lt));have C:Hd (OwnA U (w.heap.size+2+1) s (k+1) g (gen (k+1) (ug W H xs))):=Jh (by rw [<-vv];refine cast (congrArg (fun (v:Int)=>OwnA U (w.heap.size+2+1) s (k+1) g (gen k (ug W H xs)++ [v])) ?_) A;(unfold ug;rw [J.Z,Yc (4*vV W H xs ((k:Int) % (2*W)) ((k:Int)/(2*W))) om,Yc _ om];try omega));clear A t;go_wp2_with fail;go_roundw
     . exact ⟨k+1,s,g,om,by go_num,C.Z.other sI _,by first | exact l.Z.set 2 _ | (have h:=l.Z.set 2 (.slice s (k+1) g);simpa using h),D.Z.setCell sI _⟩
     exact Jm
   have J:=Jh (cO b1 b3 x1 hx M hy);have c1:W<=(k:Int) % (2*W):=om;have c4:H<=(k:Int)/(2*W):=om;clear hx hy;go_wp2_with fail;refine yA 12 (fun v=>Jc v w W/\Jc v (JE w 1) H/\Jc v (JE w 2) (.slice ad n cap)/\Jc v (JE (w.heap.size+2) 2) (.slice z k u)) zK ⟨s0,s1,s2,o2⟩ ?_;intro f;refine zP 0 ?_;refine zP 1 ?_;refine zP 2 ?_;refine zP 3 ?_;refine zP 4 ?_;refine zP 7 ?_;refine zf 5 (fun K hK=>?_);go_simp
   go_at_call 88
   ((with_reducible refine (qP W H ad n cap xs _ _ _ HN.Z (by exact (HA.Z.below N.Z).of_heap rfl) HQ.Z b1 b3 om om om).mono ?_);rintro e v1 ⟨rfl,c⟩);have L:=(c.cell O).trans s0;have M:=(c.cell O).trans s1;have T:=(c.cell O).trans s2;have V:=(c.cell l0).trans o2;have j:=Jh (HO.Z.drew.zA c);have q:=Jh (Y.Z.drew.zA c);have lv:=q.Z.lt;go_wp2_with fail;refine hK.out _ _ (fun _=>⟨L,M,T,V⟩) (fun hH2=>?_);clear hK K f;have f:=hH2 dC;clear hH2;refine zP 6 ?_;refine zP 8 ?_;refine zf 9 (fun K hK=>?_);go_simp;refine hK.out _ _ (fun _=>⟨yF L,yF M,yF T,yF V⟩) (fun hH2=>?_);clear hK K f hH2;refine zf 10 (fun K hK=>?_);refine wK _ (by rfl) (.tmp 65) (.tmp 73) (by rfl) (w.heap.size+2+1) k u z (gen k (ug W H xs)) (by rfl) (j.Z.alloc _) v1.heap.size _ (by rfl) (qM _ _ _) om (oS q.Z.lt) ?_;intro s g U A t;have I:=Jh (uD j.Z t (KP.Z.drew.zA c) om);obtain ⟨l6,z0,X,z2⟩:=I.Z.c3;have l:=Jh (uD j.Z t q.Z om);obtain ⟨l5,t0,t1,t2⟩:=l.Z.c3;obtain ⟨f0,f1,f2⟩:=l.Z.f3;refine hK.out _ _ (fun _=>⟨z0,X,z2,t2⟩) (fun hH2=>?_);clear hK K hH2;refine zf 11 (fun K hK=>?_);go_simp;refine hK.out _ _ (fun _=>⟨z0,X,z2,t2⟩) (fun hH2=>?_);clear hK K hH2;refine zf 12 (fun K hK=>?_);go_simp;refine hK.out _ _ (fun h=>absurd h dC) (fun hH2=>?_);clear hK K hH2;refine yG zK ?_ _;(try go_simp);have F:=Jh (HW.Z.trans ((kM c).mono (by have:=Y.Z.lt;have e0:wr.drew.heap.size=wr.heap.size:=rfl;omega)));have D:=Jh (qw j.Z t F.Z om (og q.Z.lt));have C:Hd (OwnA U (w.heap.size+2+1) s (k+1) g (gen (k+1) (ug W H xs))):=Jh (by rw [<-vv];refine cast (congrArg (fun (v:Int)=>OwnA U (w.heap.size+2+1) s (k+1) g (gen k (ug W H xs)++ [v])) ?_) A;(unfold ug;rw [J.Z,Yc (4*vV W H xs ((k:Int) % (2*W)) ((k:Int)/(2*W))) om,Yc _ om];try omega));clear A t;go_wp2_with fail;go_roundw
   . exact ⟨k+1,s,g,om,by go_num,C.Z.other sI _,by first | exact l.Z.set 2 _ | (have h:=l.Z.set 2 (.slice s (k+1) g);simpa using h),D.Z.setCell sI _⟩
   exact Jm
 have b5: ¬(k:Int)<4*(n:Int):=by have:=HM.Z;omega
 obtain rfl:m=k:=om;have KR:Hd (Blk wr (w.heap.size+1) 32 ↑Zp):=Jh (Blk.below (Blk.zD _ _ sI) HW.Z sI);obtain ⟨r0,r1,r2,r3⟩:=KR.Z.c3;obtain ⟨q0,q1,q2⟩:=KR.Z.f3;go_wp2_with fail
 exact bodyPost_ret (v:= .agg #[.int .i64 (2*W), .int .i64 (2*H), .slice z _ u]) (by simp [results,results102,go_sem,r1,r2,r3]) rfl
  ⟨_,_,_,rfl,(((HO.Z.other (by simp;try omega) _).other (by simp;try omega) _).other (by simp;try omega) _).mono (by have:=N.Z.size;try simp;omega),om,
   ((N.Z.setCell sD _).setCell sD _).setCell sD _⟩
def OC:Bool:=[0,1,2,3,4].all (fun j=>yD (jK j).W (jK j).H (jK j).ranks && (decide ((jK j).ranks.length=4^j) && decide ((jK j).W=2^j/\(jK j).H=2^j)))
theorem SF:OC=true:=by decide+kernel
theorem KH (j:Nat) (c:j<=4):yD (jK j).W (jK j).H (jK j).ranks=true/\(jK j).ranks.length=4^j/\(jK j).W=2^j/\(jK j).H=2^j:=by
 have h:=SF;unfold OC at h;rw [Yp] at h;have h2:=h j sO;simpa [Bool.and_eq_true,decide_eq_true_eq] using h2
theorem Li (j:Nat) (c:j<=3):4*(jK j).ranks.length<=256:=by
 rw [(KH j om).2.1];have:4^j<=4^3:=Nat.pow_le_pow_right om c;omega
theorem OwnA.zJ (h:OwnA w B ad n cap xs) {a:Addr} (ha: ∀b,zO ad=some b->b≠a.block) (u:Value):OwnA (w.setCell a u) B ad n cap xs:=by
 rcases h with h | ⟨g,h1,h2,h⟩
 exact .inl h;subst h1;exact .inr ⟨g,rfl,h2,h.other (fun e=>ha g rfl e.symm) u⟩
theorem Lh {k:Int} (h: ¬(0<=k/\k<=4)):kK k=(qh,false):=by unfold kK;rw [if_neg h]
theorem Fh (h:k<=4):kK (k:Int)=(jK k,true):=by unfold kK;rw [if_pos ⟨om,om⟩];rfl
theorem Ea (q:Int) (w:World):Calls prog 83 #[q] w (jq w (kK q)):=by
 by_cases hk:0<=q/\q<=4
 case neg=>
  rw [Lh hk];go_in;go_wp2_with fail
  all_goals first | (exfalso;exact hk ⟨om,om⟩) | skip
  all_goals (
   skip
   exact bodyPost_ret (v:= .tuple #[.agg ↑Zp, .bool false]) (Jr results83) rfl ⟨none,0,0,rfl,oN,om,nJ⟩
   )
 obtain ⟨k,rfl⟩: ∃k:Nat,q=(k:Int):=⟨q.toNat,om⟩
 have U:k<=4:=om;rw [Fh U];clear hk;go_in;go_wp2_with fail;refine (Zk 1 1 1 _ rfl rfl).mono ?_;rintro e w2 ⟨g,rfl,hg,F,hb⟩;have s:=Jh (nJ.trans (hb.mono sI));have u:=Jh ((Blk.new w 32 ↑Zp).zA hb);have X:=Jh F;have HG:Hd (w.heap.size+1<=g):=Jh (by simpa using hg);clear hb F hg;go_wp2_with fail;have NG:=u.Z.lt
 go_loopw [14] (fun i wr=> ∃(j:Nat) (z:Option Addr) (m M:Nat),j<=k/\i=↑(j)/\OwnA wr (w.heap.size+1) z m M (jK j).ranks/\Hd (∀b,zO z=some b->b≠w2.heap.size)/\Blk wr (w2.heap.size) 32 #[(jK j).W,(jK j).H, .slice z m M]/\Blk wr w 32 ↑Zp/\Below w w wr) (fun i _=>k - (intOf i).toNat)
 exact ⟨0,_,_,_,nZ,rfl,(OwnA.mk (X.Z.alloc _) HG.Z),Jh (by intro b hb;simp [zO] at hb;subst hb;have:=X.Z.lt;omega),Blk.new _ _ _,u.Z.alloc _,s.Z.alloc s.Z.size _⟩;obtain ⟨j,z,m,M,hj,rfl,F,b0,A,C,hw⟩:=hrel;have c:=Jh F;have I:=Jh A;have J:=Jh C;have O:=Jh hw;obtain ⟨Y,o0,o1,o2⟩:=I.Z.c3;obtain ⟨q0,q1,q2⟩:=I.Z.f3;clear F A C hw;by_cases b7:j<k
 . obtain ⟨N,V,m3,m4⟩:=jh c.Z.len (KH j om).1
   obtain ⟨b1,b2,b3,b4,b5,b6⟩:=kI N;have h4:4*m<=256:=by have:=Li j om;have:=c.Z.len;omega
   have M2:=Jh V;have M3:=Jh m3;clear N V m3 m4;go_wp2_with fail;refine (Ow _ _ _ m _ (jK j).ranks _ c.Z.len (by exact c.Z.rd) M2.Z b1 b3 h4 M3.Z).mono ?_;rintro e w5 ⟨a5,n5,c5,rfl,G,b8,f⟩;have t:=Jh G;have l:=Jh (I.Z.zA f);have T:=Jh (J.Z.zA f);have R:=Jh (zL O.Z f);have LB:=Jh I.Z.lt;have LW:=Jh O.Z.size;have LR:=Jh J.Z.lt;have L:Hd (∀b,zO a5=some b->b≠w2.heap.size):=Jh (fun b hb=>by have:=t.Z.bd b hb;have:=LB.Z;omega);clear G f o0 o1 o2 q0 q1 q2 Y;obtain ⟨Y,o0,o1,o2⟩:=l.Z.c3;obtain ⟨q0,q1,q2⟩:=l.Z.f3;go_wp2_with fail;go_roundw
   . exact ⟨j+1,a5,n5,c5,om,by go_num,(((t.Z.zJ (a:=↑w2) L.Z _).zJ (a:=↑(JE w2 1)) L.Z _).zJ (a:=↑(JE w2 2)) L.Z _).mono (zB LW.Z LR.Z),L,by exact ((l.Z.set 0 _).set 1 _).set 2 _,((T.Z.other (by simp;try omega) _).other (by simp;try omega) _).other (by simp;try omega) _,((R.Z.setCell (by simp;try omega) _).setCell (by simp;try omega) _).setCell (by simp;try omega) _⟩
   exact Jm
 obtain rfl:k=j:=om;obtain ⟨r0,r1,r2,r3⟩:=J.Z.c3;obtain ⟨t0,t1,t2⟩:=J.Z.f3
 have D:Hd (m<=1048576):=Jh (by
  obtain ⟨N,V,_,_⟩:=jh c.Z.len (KH k om).1;obtain ⟨_,_,_,_,b5,_⟩:=kI N
  omega)
 go_wp2_with fail
 exact bodyPost_ret (v:= .tuple #[.agg #[(jK k).W,(jK k).H, .slice z m M], .bool true]) (by simp [results,results83,go_sem,r1,r2,r3]) rfl
  ⟨_,_,_,rfl,(((c.Z.other (by simp;try omega) _).other (by simp;try omega) _).other (by simp;try omega) _).mono om,D.Z,
   ((O.Z.setCell sD _).setCell sD _).setCell sD _⟩
theorem FU (m:Int) (w:World):Calls prog 61 #[m] w (jq w (kK m)):=by
 by_cases hk:0<=m/\m<=4
 case neg=>
  rw [Lh hk];go_in;go_wp2_with fail;refine (kD _ _ _ _ hk).mono ?_;rintro e w2 ⟨rfl,rfl⟩;go_wp2_with fail;exact bodyPost_ret (v:= .tuple #[.agg ↑Zp, .bool false]) (Jr results61) rfl ⟨none,0,0,rfl,oN,om,nJ⟩
 obtain ⟨k,rfl⟩: ∃k:Nat,m=(k:Int):=⟨m.toNat,om⟩
 have N:k<=4:=om;rw [Fh N];go_in;go_wp2_with fail;refine (yJ _ _ _ _ hk.1 hk.2).mono ?_;rintro e w2 ⟨rfl,rfl⟩;clear hk;go_wp2_with fail;have NG:w.heap.size<w.heap.size+2:=om
 go_loopw [0] (fun i wr=> ∃(j:Nat) (s:Option Addr) (l G:Nat),j<=k/\i= .int .i64 ((k:Int) - j)/\OwnA wr (w.heap.size+1) s l G (jK j).ranks/\Hd (∀b,zO s=some b->b≠w.heap.size+2)/\Blk wr (w.heap.size+2) 32 #[(jK j).W,(jK j).H, .slice s l G]/\Blk wr w 32 ↑Zp/\Below w w wr) (fun i _=>(intOf i).toNat)
 . have hr:JX #[Z0] 1 [0]:=⟨rfl,by unfold maxLen;omega,rfl,rfl⟩
   exact ⟨0,some ↑(w.heap.size+1),1,1,nZ,by go_num,OwnA.mk ((hr.own' _ sI).alloc _) nI,Jh (by intro b hb;simp [zO] at hb;omega),Blk.zD _ _ sI,((Blk.new w _ _).alloc _).alloc _,Joins.below_alloc3 _ _ _ _⟩
 obtain ⟨j,s,l,G,hj,rfl,R,b0,t,u,hw⟩:=hrel;have c:=Jh R;have C:=Jh t;have D:=Jh u;have J:=Jh hw;obtain ⟨T,V,X,Y⟩:=C.Z.c3;obtain ⟨q0,q1,q2⟩:=C.Z.f3;clear R t u hw;by_cases b7:j<k
 . obtain ⟨I,O,U,m4⟩:=jh c.Z.len (KH j om).1
   obtain ⟨b1,b2,b3,b4,b5,b6⟩:=kI I;have h4:4*l<=256:=by have:=Li j om;have:=c.Z.len;omega
   have M2:=Jh O;have M3:=Jh U;clear I O U m4;go_wp2_with fail;refine (RZ _ _ _ l _ (jK j).ranks _ c.Z.len (by exact c.Z.rd) M2.Z b1 b3 h4 M3.Z).mono ?_;rintro e w5 ⟨a5,n5,c5,rfl,A,b8,f⟩;have q:=Jh A;have g:=Jh (C.Z.zA f);have M:=Jh (D.Z.zA f);have L:=Jh (zL J.Z f);have LB:=Jh C.Z.lt;have LW:=Jh J.Z.size;have LR:=Jh D.Z.lt;have F:Hd (∀b,zO a5=some b->b≠w.heap.size+2):=Jh (fun b hb=>by have:=q.Z.bd b hb;have:=LB.Z;omega);clear A f V X Y q0 q1 q2 T;obtain ⟨T,V,X,Y⟩:=g.Z.c3;obtain ⟨q0,q1,q2⟩:=g.Z.f3;go_wp2_with fail;go_roundw
   . exact ⟨j+1,a5,n5,c5,om,by go_num,(((q.Z.zJ (a:=↑(w.heap.size+2)) F.Z _).zJ (a:=↑(JE (w.heap.size+2) 1)) F.Z _).zJ (a:=↑(JE (w.heap.size+2) 2)) F.Z _).mono (zB LW.Z LR.Z),F,by exact ((g.Z.set 0 _).set 1 _).set 2 _,((M.Z.other (by simp;try omega) _).other (by simp;try omega) _).other (by simp;try omega) _,((L.Z.setCell (by simp;try omega) _).setCell (by simp;try omega) _).setCell (by simp;try omega) _⟩
   exact Jm
 obtain rfl:k=j:=om;obtain ⟨r0,r1,r2,r3⟩:=D.Z.c3;obtain ⟨t0,t1,t2⟩:=D.Z.f3
 have z:Hd (l<=1048576):=Jh (by
  obtain ⟨I,O,_,_⟩:=jh c.Z.len (KH k om).1;obtain ⟨_,_,_,_,b5,_⟩:=kI I
  omega)
 go_wp2_with fail
 exact bodyPost_ret (v:= .tuple #[.agg #[(jK k).W,(jK k).H, .slice s l G], .bool true]) (by simp [results,results61,go_sem,r1,r2,r3]) rfl
  ⟨_,_,_,rfl,(((c.Z.other (by simp;try omega) _).other (by simp;try omega) _).other (by simp;try omega) _).mono om,z.Z,
   ((J.Z.setCell sD _).setCell sD _).setCell sD _⟩
def WG (w:World) (d:Pic × Pic × List Pic) (e:Ending) (w':World):Prop:=
 ∃E:Dsk,e= .returned E.val/\yQ w' w E/\E.dat=d/\vK E/\Below w w w'
theorem CV (w:World) {a:Act}
 (m:o.guard=none) (t:Nat) (U:P.underlying t=some (.slice 31)) (q:(P.info? 31).map (fun i=>(i.zero,i.size,i.bytes))=some (some (.agg ↑Zp),3,40))
 (s x:Operand) (z:o.op= .call {callee:= .builtin .append,args:=#[s,x],argTypes:=#[t,t]})
 (B n cap:Nat) (ad:Option Addr) (L:List PV) (T:a.eval s= .slice ad n cap) (F:RowVA w B ad n cap L) (g:Nat) (p:PV) (V:a.eval x= .slice ↑g 1 1)
 (N:w.cell? g=some ↑p.W) (h1:w.cell? (g,1)=some ↑p.H) (h2:w.cell? (g,2)=some (.slice p.a p.n p.c)) (hn:n<=1048576) (R:B<=w.heap.size)
 (hK: ∀f e w',RowVA w' B f (n+1) e (L++ [p])->w.grownBy w' (zO ad)->(zO f=zO ad\/zO f=some w.heap.size)->K (a.put o.dst (.slice f (n+1) e)) w'):
 if Region.wanted o (yielded ops a.tmps)=true then Oper.wp P o a w K Q else E:=by
 have hw:Region.wanted o (yielded ops a.tmps)=true:=by simp [Region.wanted,m]
 rw [if_pos hw];obtain ⟨i,hi,A,C,D⟩:=info_parts q;have hf:yt L++p.cells=yt (L++ [p]):=by simp [yt]
 obtain ⟨X,w',hr,I,J,_,M⟩:=run_append_own_at (P:=P) w B t o.type 31 i (.agg ↑Zp) 3 40 U hi A C D (by simp [Value.cells]) om _ n (yt L) F.toRow ↑g 1 1 p.cells (by simp [PV.cells]) (fun j u l=>by
  have v:j=0\/j=1\/j=2:=by
   have:=(List.getElem?_eq_some_iff.1 l).1;simp [PV.cells] at this;omega
  rcases v with rfl | rfl | rfl
  simp [PV.cells] at l;subst l;simpa [Addr.add] using N;simp [PV.cells] at l;subst l;simpa [Addr.add] using h1
  simp [PV.cells] at l;subst l;simpa [Addr.add] using h2) (fun u G=>by
  simp [PV.cells] at G
  rcases G with rfl | rfl | rfl <;>rfl) (by unfold maxLen;omega) om R
 unfold Oper.wp execOp;simp only [z,resolve,invoke,builtin,Sem.run_bind,Sem.run_pure,Result.andThen_ok,List.map_toArray,List.map_cons,List.map_nil,T,V,hr];rw [hf] at I;obtain ⟨f,e,rfl,O⟩:=RowVA.ofRow (by rw [Yn,F.1];rfl) I;rw [jO] at J;rw [jO,jO] at M;exact hK f e w' O J M
theorem OwnV.toRowVA {L:List PV} (h:OwnV w B ad n cap L):RowVA w B ad n cap L:=by
 obtain ⟨h1,h2,_⟩:=h;exact ⟨h1,h2⟩
theorem OwnV.lit {p:PV} (f:B<=w.heap.size) (hp:OwnA w B p.a p.n p.c p.ink):
 OwnV (w.alloc (.cells ↑p 31)) B ↑w 1 1 [p]:=by
 refine ⟨rfl, .inr ⟨_,rfl,f,⟨_,heap_alloc_new w _,sI,by unfold maxLen;omega,sI,by simp [yt,PV.cells]⟩⟩,fun k hk=>?_,fun k b hk hb=>?_,fun j k b h1 hk=>om⟩;obtain rfl:k=0:=om;exact hp.alloc _;obtain rfl:k=0:=om;have:=hp.bd b hb;intro e;simp only [zO,Option.some.injEq] at e;omega
end Go.Proofs.YtlenfgdjdianiaaGreatDoor
