/- Facts on which this claim rests, 14. -/
import Derived.Test.YtlenfgdjdianiaaGreatDoorF13
set_option linter.all false
set_option maxHeartbeats 6400000
namespace Go.Proofs.YtlenfgdjdianiaaGreatDoor
open Go.RowKit Tq Go.Proofs.Tryz
variable {T X Y : Int} {j k n : Nat}
theorem zFy (k:Nat) (a:Int) (h:1<=a) (hk:k<=1024): ∃X Y:Int,0<=X/\X<a/\0<=Y/\Y<=(k:Int)/\(k:Int).tmod a=X/\(k:Int).tdiv a=Y/\IntKind.i64.wrap Y=Y/\Hd (X=(k:Int) % a/\Y=(k:Int)/a):=by
 have f:0<=(k:Int) % a:=Yg _ om;have b:(k:Int) % a<a:=Ye _ om;have e:0<=(k:Int)/a:=Yw om om;have c:(k:Int)/a<=k:=Int.ediv_le_self _ om;exact ⟨(k:Int) % a,(k:Int)/a,f,b,e,c,Yl om,Yt om,Yc _ om,Jh ⟨rfl,rfl⟩⟩
set_option maxRecDepth 100000 in
theorem zDs (W H:Int) (t:Option Addr) (n f:Nat) (xs:List Int) (al:Option Addr) (m c:Nat) (ls:List Int) (b u:Int) (w:World)
 (hn:xs.length=n) (ha:Rd w t xs) (mk:zq W H xs=true) (hm:ls.length=m) (x:Rd w al ls) (q:yM b u=true) (hq:(m:Int)=b*u):
 Calls prog 198 #[.agg #[W,H, .slice t n f], .slice al m c,b] w (jl w ⟨b,u,gen m (vn W H xs ls b)⟩):=by
 have O:=Jh hn;have HA:=Jh ha;clear hn ha;obtain ⟨ks,kq,ki,kd⟩:=kI O.Z mk;obtain ⟨b1,b2,b3,b4,b5,b6⟩:=xA ks;have HQ:=Jh kq;have J:n<=256:=om;clear ks kq ki kd mk;obtain ⟨t1,t2,t3,t4,t5,t6⟩:=yF q;have HD:Hd ((m:Int)/b=u):=Jh (by rw [hq];exact Int.mul_ediv_cancel_left _ om);obtain ⟨d0,d1⟩:0<=(m:Int)/b/\(m:Int)/b<=64:=by rw [HD.Z];omega
 have HM:=Jh hq;have HS:=Jh q;have HL:=Jh hm;have V:=Jh x;have c0:1<=m:=om;have c1:m<=1024:=om;clear hq q hm x t5 t6;go_in;go_wp2_with fail;have hD:=HD.Z;rw [hD];clear hD d0 d1;refine (jw b u m _ HS.Z HM.Z).mono ?_;rintro e w2 ⟨g,rfl,hg,l,hb⟩;have B:=Jh (nV.trans (hb.mono sO));have R:=Jh (((Blk.new w 32 #[W,H, .slice t n f]).alloc _).zA hb)
 have I:Hd (Blk w2 (w.heap.size+1) 31 ↑Zp):=by
  have h:=(Blk.new (w.alloc (.cells #[W,H, .slice t n f] 32)) 31 ↑Zp).zA hb;exact Jh (by simpa using h)
 have HO:=Jh l;have A:Hd (w.heap.size+1+1<=g):=Jh (by simpa using hg);clear hb l hg;go_wp2_with fail
 go_loopw [18] (fun i wr=> ∃k:Nat,k<=m/\i=↑k/\Own wr g m m (zn (gen m (vn W H xs ls b)) (List.replicate m 0) k)/\(w2.alloc (.cells #[b,u, .slice ↑g m m] 31)).grownBy wr (some g)) (fun i _=>m - (intOf i).toNat)
 case atStart=>exact ⟨0,nZ,rfl,by rw [yh];exact HO.Z.alloc _,yR _ _⟩
 obtain ⟨k,hk,rfl,l,hg⟩:=hrel;have s:=Jh ((B.Z.alloc B.Z.size _).grown hg (oS B.Z.size) (by intro k hk;cases hk;have:=A.Z;omega));have KO:=Jh ((Blk.new w2 31 #[b,u, .slice ↑g m m]).grown hg (oS HO.Z.lt));obtain ⟨l0,o0,o1,o2⟩:=KO.Z.c3;have KP:=Jh ((R.Z.alloc _).grown hg (oS A.Z));obtain ⟨D,L,N,M⟩:=KP.Z.c3;by_cases o:k<m
 . obtain ⟨ba,oa,U,x,F⟩:=(V.Z.below s.Z).at (oh HL)
   have h1:=F k (oh HL);subst U;clear F;have g2:wr.cell? (g,k)=some ↑((zn (gen m (vn W H xs (ls) b)) (List.replicate m 0) k).getD k 0):=l.cell o;have g3:wr.frozen? (g,k)=false:=l.frozen k;have C:=l.lt;have G:=Jh l;clear l;have b7:(b==0)=false:=sO;have b8: ¬b=0:=om;obtain ⟨X,Y,x0,x1,y0,y1,tX,tY,wY,E⟩:=zFy k b t1 om;have HV:Hd ((gen m (vn W H xs (ls) b)).getD k 0=if jA W H xs X Y<ls[k]?.getD 0 then 1 else 0):=Jh (by rw [yN _ _ _ o,E.Z.1,E.Z.2];rfl);by_cases hb:jA W H xs X Y<ls[k]?.getD 0
   . go_wp2_with fail
     go_region_held3 (fun v=>JA v w W H (.slice t n f))
      (first | exact ⟨L,N,M⟩ | exact ⟨(a.cell D).trans L,(a.cell D).trans N,(a.cell D).trans M⟩)
      (first
       | (go_at_call 194;((with_reducible refine (uO W H t n f xs X Y _ O.Z (by exact (HA.Z.below s.Z).of_heap rfl) HQ.Z b1 b3 J b2 b4).mono ?_);rintro e v1 ⟨rfl,a⟩;have y3:=(a.cell l0).trans o2;have Q:=(a.cell C).trans g2;have P:=(a.frozen C).trans g3)))
     have hv:(gen m (vn W H xs (ls) b)).getD k 0=1:=by rw [HV.Z,if_pos hb]
     have q:=((G.Z.drewN 1).below a C).set k 1;rw [yd (gen m (vn W H xs (ls) b)) _ k _ (by rw [zZ];exact o) sO hv] at q;have z:=Jh q;have y:=Jh (zU hg (yl (row:=some g) (xJ a)));clear q hv hg;go_wp2_with fail;go_roundw
     case rel=>exact ⟨k+1,om,by go_num,z.Z,yO y.Z _⟩
     exact Jm
   go_wp2_with fail
   go_region_held3 (fun v=>JA v w W H (.slice t n f))
    (first | exact ⟨L,N,M⟩ | exact ⟨(a.cell D).trans L,(a.cell D).trans N,(a.cell D).trans M⟩)
    (first
     | (go_at_call 194;((with_reducible refine (uO W H t n f xs X Y _ O.Z (by exact (HA.Z.below s.Z).of_heap rfl) HQ.Z b1 b3 J b2 b4).mono ?_);rintro e v1 ⟨rfl,a⟩;have y3:=(a.cell l0).trans o2;have Q:=(a.cell C).trans g2;have P:=(a.frozen C).trans g3)))
   have q:=Uy (gen m (vn W H xs (ls) b)) (List.replicate m 0) k (by rw [zZ];exact o) sO (by rw [HV.Z,if_neg om];simp [List.getD,o]);have z:Hd (Own v1 g m m (zn (gen m (vn W H xs (ls) b)) (List.replicate m 0) (k+1))):=Jh (by rw [<-q];exact (G.Z.drewN 1).below a C);have y:=Jh (zU hg (yl (row:=some g) (xJ a)));clear q hg;go_wp2_with fail;go_roundw
   case rel=>exact ⟨k+1,om,by go_num,z.Z,y.Z⟩
   exact Jm
 obtain rfl:m=k:=om;have KR:=Jh ((I.Z.alloc _).grown hg (oT A.Z I.Z.lt));obtain ⟨r0,r1,r2,r3⟩:=KR.Z.c3;obtain ⟨q0,q1,q2⟩:=KR.Z.f3;rw [xY (gen m (vn W H xs ls b)) _ m (by rw [zZ]) sI] at l;have b0:=Jh l;clear l;go_wp2_with fail
 exact bodyPost_ret (v:= .agg #[b,u, .slice ↑g m m]) (by simp [results,results198,go_sem,r1,r2,r3]) rfl
  ⟨_,_,_,rfl,OwnA.mk (((b0.Z.other (oS A.Z) _).other (oS A.Z) _).other (oS A.Z) _) (oh A),om,
   ((s.Z.setCell sD _).setCell sD _).setCell sD _⟩
theorem Vc (W H:Int) (q:Option Addr) (n i:Nat) (xs:List Int) (u v:Int) (f:Option Addr) (g b:Nat) (l:List Int) (w:World)
 (hn:xs.length=n) (ha:Rd w q xs) (hl:n<=9223372036854775807) (x:l.length=g) (o:Rd w f l) (m:g<=9223372036854775807) (hp:zq W H xs=true) (s:zP u v l 255=true):
 Calls prog 199 #[.agg #[W,H, .slice q n i], .agg #[u,v, .slice f g b]] w fun e w'=> ∃a c,e= .returned (.slice a g c)/\OwnA w' w a g c (l.map (xh n))/\Below w w w':=by
 refine (zCA W H q n i xs u v f g b l w hn ha hl x o m).mono ?_;rintro e w' ⟨a,k,c,rfl,t,_,hb⟩;rw [QJ hn hp s] at t;obtain rfl:g=k:=by have:=t.len;simp at this;omega
 exact ⟨a,c,rfl,t,hb⟩
set_option maxRecDepth 100000 in
theorem Vf (W H:Int) (D:Option Addr) (n s:Nat) (xs:List Int) (u x:Int) (m:Option Addr) (t c:Nat) (B:List Int) (w:World)
 (hn:xs.length=n) (ha:Rd w D xs) (hl:n<=9223372036854775807) (Q:B.length=t) (b8:Rd w m B) (M:t<=9223372036854775807):
 Calls prog 159 #[.agg #[W,H, .slice D n s], .agg #[u,x, .slice m t c]] w (jl w (qG W H xs u x B)):=by
 have I:=Jh hn;have U:=Jh ha;have y:=Jh Q;have G:=Jh b8;clear hn ha Q b8;by_cases hp:zq W H xs=true
 case neg=>
  have J:zq W H xs=false:=by simpa using hp
  rw [YD (fun h=>hp h.1)];clear hp;go_in;go_wp2_with fail;refine (yn _ _ _ _ _ xs _ I.Z (by exact ((U.Z.alloc _).alloc _).alloc _) hl).mono ?_;rintro e w1 ⟨rfl,hb⟩;have f:=Jh (zI (zJ (zJ (zJ bR _) _) _) hb);have l:=Jh ((((Blk.zD (g:=w.heap.size) 32 #[W,H, .slice D n s] (by first | rfl | simp)).alloc _).alloc _).zA hb);have i:Hd (Blk w1 (w.heap.size+1) 31 #[u,x, .slice m t c]):=Jh (((Blk.zD (g:=w.heap.size+1) 31 #[u,x, .slice m t c] sI).alloc _).zA hb);have b:Hd (Blk w1 (w.heap.size+1+1) 31 ↑Zp):=Jh ((Blk.zD (g:=w.heap.size+1+1) 31 ↑Zp sI).zA hb);obtain ⟨z,c0,c1,c2⟩:=l.Z.c3;obtain ⟨n1,F,g1,g2⟩:=i.Z.c3;obtain ⟨V,E,d1,d2⟩:=b.Z.c3;obtain ⟨P,O,N⟩:=b.Z.f3;clear hb;rw [J];go_wp2_with fail
  exact bodyPost_ret (v:= .agg ↑Zp) (by simp [results,results159,go_sem,E,d1,d2]) rfl ⟨none,0,0,rfl,oN,om,
   ((f.Z.setCell sD _).setCell sD _).setCell sD _⟩
 by_cases q:zP u x B 255=true
 case neg=>
  have J:zP u x B 255=false:=by simpa using q
  rw [YD (fun h=>q h.2)];clear q;go_in;go_wp2_with fail;refine (yn _ _ _ _ _ xs _ I.Z (by exact ((U.Z.alloc _).alloc _).alloc _) hl).mono ?_;rintro e w1 ⟨rfl,hb⟩;have f:=Jh (zI (zJ (zJ (zJ bR _) _) _) hb);have l:=Jh ((((Blk.zD (g:=w.heap.size) 32 #[W,H, .slice D n s] (by first | rfl | simp)).alloc _).alloc _).zA hb);have i:Hd (Blk w1 (w.heap.size+1) 31 #[u,x, .slice m t c]):=Jh (((Blk.zD (g:=w.heap.size+1) 31 #[u,x, .slice m t c] sI).alloc _).zA hb);have b:Hd (Blk w1 (w.heap.size+1+1) 31 ↑Zp):=Jh ((Blk.zD (g:=w.heap.size+1+1) 31 ↑Zp sI).zA hb);obtain ⟨z,c0,c1,c2⟩:=l.Z.c3;obtain ⟨n1,F,g1,g2⟩:=i.Z.c3;obtain ⟨V,E,d1,d2⟩:=b.Z.c3;obtain ⟨P,O,N⟩:=b.Z.f3;clear hb;rw [hp];go_wp2_with fail;refine (ym _ _ _ _ _ B _ y.Z (by exact G.Z.below f.Z) M).mono ?_;rintro e w1 ⟨rfl,hb⟩;have f:=Jh (zI f.Z hb);have l:=Jh (l.Z.zA hb);have i:=Jh (i.Z.zA hb);have b:=Jh (b.Z.zA hb);clear c0 c1 c2 E d1 d2 P O N F g1 g2 hb;obtain ⟨z,c0,c1,c2⟩:=l.Z.c3;obtain ⟨n1,F,g1,g2⟩:=i.Z.c3;obtain ⟨V,E,d1,d2⟩:=b.Z.c3;obtain ⟨P,O,N⟩:=b.Z.f3;rw [J];go_wp2_with fail
  exact bodyPost_ret (v:= .agg ↑Zp) (by simp [results,results159,go_sem,E,d1,d2]) rfl ⟨none,0,0,rfl,oN,om,
   ((f.Z.setCell sD _).setCell sD _).setCell sD _⟩
 rw [QX I.Z y.Z hp q];have HP:=Jh hp;have d4:=Jh q;obtain ⟨L,hq,hi,hd⟩:=kI I.Z hp;obtain ⟨b1,b2,b3,b4,b5,b6⟩:=xA L;have HQ:=Jh hq;have HI:=Jh hi;have HD:=Jh hd;have HS:=Jh L;have e3:1<=n:=om;have c4:n<=256:=om;clear hq hi L hd;obtain ⟨L,hq,hi⟩:=yH y.Z q;obtain ⟨e6,e0,e4,e5,e2,e1⟩:=yF L;have d5:=Jh hq;have e7:=Jh hi;have c5:=Jh L;have d7:1<=t:=om;have d8:t<=1024:=om;clear hq hi L;go_in;go_wp2_with fail;refine (yn _ _ _ _ _ xs _ I.Z (by exact ((U.Z.alloc _).alloc _).alloc _) hl).mono ?_;rintro e w1 ⟨rfl,hb⟩;have f:=Jh (zI (zJ (zJ (zJ bR _) _) _) hb);have l:=Jh ((((Blk.zD (g:=w.heap.size) 32 #[W,H, .slice D n s] (by first | rfl | simp)).alloc _).alloc _).zA hb);have i:Hd (Blk w1 (w.heap.size+1) 31 #[u,x, .slice m t c]):=Jh (((Blk.zD (g:=w.heap.size+1) 31 #[u,x, .slice m t c] sI).alloc _).zA hb);have b:Hd (Blk w1 (w.heap.size+1+1) 31 ↑Zp):=Jh ((Blk.zD (g:=w.heap.size+1+1) 31 ↑Zp sI).zA hb);obtain ⟨z,c0,c1,c2⟩:=l.Z.c3;obtain ⟨n1,F,g1,g2⟩:=i.Z.c3;obtain ⟨V,E,d1,d2⟩:=b.Z.c3;obtain ⟨P,O,N⟩:=b.Z.f3;clear hb;rw [hp];go_wp2_with fail;refine (ym _ _ _ _ _ B _ y.Z (by exact G.Z.below f.Z) M).mono ?_;rintro e w1 ⟨rfl,hb⟩;have f:=Jh (zI f.Z hb);have l:=Jh (l.Z.zA hb);have i:=Jh (i.Z.zA hb);have b:=Jh (b.Z.zA hb);clear c0 c1 c2 E d1 d2 P O N F g1 g2 hb;obtain ⟨z,c0,c1,c2⟩:=l.Z.c3;obtain ⟨n1,F,g1,g2⟩:=i.Z.c3;obtain ⟨V,E,d1,d2⟩:=b.Z.c3;obtain ⟨P,O,N⟩:=b.Z.f3;rw [q];clear hp q;go_wp2_with fail;have A:w.heap.size+1+1≠w.heap.size:=om;have C:w.heap.size+1+1≠w.heap.size+1:=om
 go_region_held3 (fun v=>JB v w W H (.slice D n s) (Jc v ↑(w.heap.size+1) u/\Jc v (w.heap.size+1,1) x/\Jc v (w.heap.size+1,2) (.slice m t c)))
  (first | exact ⟨c0,c1,c2,F,g1,g2⟩ | exact ⟨y0,y1,y2,y3,y4,y5⟩ | exact ⟨z0,z1,z2,z3,z4,z5⟩ | exact ⟨zY (zY (zY z0 A) A) A,zY (zY (zY z1 A) A) A,zY (zY (zY z2 A) A) A,zY (zY (zY z3 C) C) C,zY (zY (zY z4 C) C) C,zY (zY (zY z5 C) C) C⟩)
  (first
   | (go_at_call 199;((with_reducible refine (Vc W H D n s xs u x m t c B _ I.Z (by exact (U.Z.below f.Z).of_heap rfl) hl y.Z (by exact (G.Z.below f.Z).of_heap rfl) M HP.Z d4.Z).mono ?_);rintro e v1 ⟨a1,k1,rfl,R,a⟩;have y0:=(a.cell z).trans c0;have y1:=(a.cell z).trans c1;have y2:=(a.cell z).trans c2;have y3:=(a.cell n1).trans F;have y4:=(a.cell n1).trans g1;have y5:=(a.cell n1).trans g2))
   | (go_at_call 198;((with_reducible refine (zDs W H D n s xs _ t _ (B.map (xh n)) u x _ I.Z (by exact ((U.Z.below f.Z).drew).below a) HP.Z (oS y.Z) (by exact R.rd) c5.Z d5.Z).mono ?_);rintro e v2 ⟨a2,n2,d3,rfl,b7,c4,o⟩;have z0:=(o.cell (Yb z a.size)).trans y0;have z1:=(o.cell (Yb z a.size)).trans y1;have z2:=(o.cell (Yb z a.size)).trans y2;have z3:=(o.cell (Yb n1 a.size)).trans y3;have z4:=(o.cell (Yb n1 a.size)).trans y4;have z5:=(o.cell (Yb n1 a.size)).trans y5;have b0:=Jh (((b.Z.drew).zA a).zA o);obtain ⟨m5,r1,r2,r3⟩:=b0.Z.c3;obtain ⟨q0,q1,q2⟩:=b0.Z.f3)))
 have d6:=Jh (zI (zI f.Z.drew a) o);have LR:w.heap.size+1+1<v1.heap.size:=Yb V a.size;have c8:=Jh b7;clear a o b7 R y0 y1 y2 y3 y4 y5 z0 z1 z2 z3 z4 z5;go_wp2_with fail
 exact bodyPost_ret (v:= .agg #[u,x, .slice a2 n2 d3]) (by simp [results,results159,go_sem,m5,r1,r2,r3]) rfl
  ⟨_,_,_,rfl,(((c8.Z.other (by exact LR) _).other (by exact LR) _).other (by exact LR) _).mono om,c4,((d6.Z.setCell sO _).setCell sO _).setCell sO _⟩
theorem UK (W H:Int) (G:Option Addr) (n t:Nat) (xs:List Int) (E B:Int) (u:Option Addr) (A o:Nat) (q:List Int) (w:World)
 (hn:xs.length=n) (ha:Rd w G xs) (hl:n<=9223372036854775807) (b8:q.length=A) (d7:Rd w u q) (d4:A<=9223372036854775807):
 Calls prog 51 #[.agg #[W,H, .slice G n t], .agg #[E,B, .slice u A o]] w (jl w (qG W H xs E B q)):=by
 have U:=Jh hn;have HA:=Jh ha;have s:=Jh b8;have R:=Jh d7;clear hn ha b8 d7;by_cases hp:zq W H xs=true
 case neg=>
  have O:zq W H xs=false:=by simpa using hp
  rw [YD (fun h=>hp h.1)];clear hp;go_in;go_wp2_with fail;refine (xW _ _ _ _ _ xs _ U.Z (by exact ((HA.Z.alloc _).alloc _).alloc _) hl).mono ?_;rintro e w1 ⟨rfl,hb⟩;have l:=Jh (zI (zJ (zJ (zJ bR _) _) _) hb);have c:=Jh ((((Blk.zD (g:=w.heap.size) 32 #[W,H, .slice G n t] (by first | rfl | simp)).alloc _).alloc _).zA hb);have f:Hd (Blk w1 (w.heap.size+1) 31 #[E,B, .slice u A o]):=Jh (((Blk.zD (g:=w.heap.size+1) 31 #[E,B, .slice u A o] sI).alloc _).zA hb);have b:Hd (Blk w1 (w.heap.size+1+1) 31 ↑Zp):=Jh ((Blk.zD (g:=w.heap.size+1+1) 31 ↑Zp sI).zA hb);obtain ⟨l1,c0,c1,c2⟩:=c.Z.c3;obtain ⟨n1,Q,g1,g2⟩:=f.Z.c3;obtain ⟨m1,I,d1,d2⟩:=b.Z.c3;obtain ⟨f0,P,N⟩:=b.Z.f3;clear hb;rw [O];go_wp2_with fail
  exact bodyPost_ret (v:= .agg ↑Zp) (by simp [results,results51,go_sem,I,d1,d2]) rfl ⟨none,0,0,rfl,oN,om,
   ((l.Z.setCell sD _).setCell sD _).setCell sD _⟩
 by_cases z:zP E B q 255=true
 case neg=>
  have O:zP E B q 255=false:=by simpa using z
  rw [YD (fun h=>z h.2)];clear z;go_in;go_wp2_with fail;refine (xW _ _ _ _ _ xs _ U.Z (by exact ((HA.Z.alloc _).alloc _).alloc _) hl).mono ?_;rintro e w1 ⟨rfl,hb⟩;have l:=Jh (zI (zJ (zJ (zJ bR _) _) _) hb);have c:=Jh ((((Blk.zD (g:=w.heap.size) 32 #[W,H, .slice G n t] (by first | rfl | simp)).alloc _).alloc _).zA hb);have f:Hd (Blk w1 (w.heap.size+1) 31 #[E,B, .slice u A o]):=Jh (((Blk.zD (g:=w.heap.size+1) 31 #[E,B, .slice u A o] sI).alloc _).zA hb);have b:Hd (Blk w1 (w.heap.size+1+1) 31 ↑Zp):=Jh ((Blk.zD (g:=w.heap.size+1+1) 31 ↑Zp sI).zA hb);obtain ⟨l1,c0,c1,c2⟩:=c.Z.c3;obtain ⟨n1,Q,g1,g2⟩:=f.Z.c3;obtain ⟨m1,I,d1,d2⟩:=b.Z.c3;obtain ⟨f0,P,N⟩:=b.Z.f3;clear hb;rw [hp];go_wp2_with fail;refine (yT _ _ _ _ _ q _ s.Z (by exact R.Z.below l.Z) d4).mono ?_;rintro e w1 ⟨rfl,hb⟩;have l:=Jh (zI l.Z hb);have c:=Jh (c.Z.zA hb);have f:=Jh (f.Z.zA hb);have b:=Jh (b.Z.zA hb);clear c0 c1 c2 I d1 d2 f0 P N Q g1 g2 hb;obtain ⟨l1,c0,c1,c2⟩:=c.Z.c3;obtain ⟨n1,Q,g1,g2⟩:=f.Z.c3;obtain ⟨m1,I,d1,d2⟩:=b.Z.c3;obtain ⟨f0,P,N⟩:=b.Z.f3;rw [O];go_wp2_with fail
  exact bodyPost_ret (v:= .agg ↑Zp) (by simp [results,results51,go_sem,I,d1,d2]) rfl ⟨none,0,0,rfl,oN,om,
   ((l.Z.setCell sD _).setCell sD _).setCell sD _⟩
 rw [QX U.Z s.Z hp z];obtain ⟨y,hq,hi,hd⟩:=kI U.Z hp;obtain ⟨b1,b2,b3,b4,b5,b6⟩:=xA y;have HQ:=Jh hq;have HI:=Jh hi;have HD:=Jh hd;have HS:=Jh y;have g6:1<=n:=om;have J:n<=256:=om;clear hq hi y hd;obtain ⟨y,hq,hi⟩:=yH s.Z z;obtain ⟨f5,g4,h0,h5,g5,h3⟩:=yF y;have e7:=Jh hq;have f6:=Jh hi;have d8:=Jh y;have f8:1<=A:=om;have c4:A<=1024:=om;clear hq hi y;go_in;go_wp2_with fail;refine (xW _ _ _ _ _ xs _ U.Z (by exact ((HA.Z.alloc _).alloc _).alloc _) hl).mono ?_;rintro e w1 ⟨rfl,hb⟩;have l:=Jh (zI (zJ (zJ (zJ bR _) _) _) hb);have c:=Jh ((((Blk.zD (g:=w.heap.size) 32 #[W,H, .slice G n t] (by first | rfl | simp)).alloc _).alloc _).zA hb);have f:Hd (Blk w1 (w.heap.size+1) 31 #[E,B, .slice u A o]):=Jh (((Blk.zD (g:=w.heap.size+1) 31 #[E,B, .slice u A o] sI).alloc _).zA hb);have b:Hd (Blk w1 (w.heap.size+1+1) 31 ↑Zp):=Jh ((Blk.zD (g:=w.heap.size+1+1) 31 ↑Zp sI).zA hb);obtain ⟨l1,c0,c1,c2⟩:=c.Z.c3;obtain ⟨n1,Q,g1,g2⟩:=f.Z.c3;obtain ⟨m1,I,d1,d2⟩:=b.Z.c3;obtain ⟨f0,P,N⟩:=b.Z.f3;clear hb;rw [hp];go_wp2_with fail;refine (yT _ _ _ _ _ q _ s.Z (by exact R.Z.below l.Z) d4).mono ?_;rintro e w1 ⟨rfl,hb⟩;have l:=Jh (zI l.Z hb);have c:=Jh (c.Z.zA hb);have f:=Jh (f.Z.zA hb);have b:=Jh (b.Z.zA hb);clear c0 c1 c2 I d1 d2 f0 P N Q g1 g2 hb;obtain ⟨l1,c0,c1,c2⟩:=c.Z.c3;obtain ⟨n1,Q,g1,g2⟩:=f.Z.c3;obtain ⟨m1,I,d1,d2⟩:=b.Z.c3;obtain ⟨f0,P,N⟩:=b.Z.f3;rw [z];obtain ⟨m,F⟩:=zN A;subst F;obtain ⟨x,F⟩:=zN E;subst F;obtain ⟨th,F⟩:=zN B;subst F;have t1:=f5;have h4:=c4;go_wp2_with fail;refine (jZ x th m _ d8.Z e7.Z).mono ?_;rintro e w2 ⟨g,rfl,hg,C,hb⟩;have b7:=Jh (l.Z.trans (hb.mono l.Z.size));have e8:=Jh (c.Z.zA hb);have d5:=Jh (f.Z.zA hb);have d3:=Jh (b.Z.zA hb);have HO:=Jh C;have M:Hd (w1.heap.size<=g):=Jh hg;clear hb hg C c0 c1 c2 I d1 d2 f0 P N Q g1 g2;obtain ⟨n2,e0,e1,e2⟩:=d5.Z.c3;go_wp2_with fail
 go_loopw [25] (fun i wr=> ∃k:Nat,k<=m/\i=↑k/\Own wr g m m (zn (gen m (vn W H xs (q.map (xh n)) x)) (List.replicate m 0) k)/\(w2.alloc (.cells #[x,th, .slice ↑g m m] 31)).grownBy wr (some g)) (fun i _=>m - (intOf i).toNat)
 case atStart=>exact ⟨0,nZ,rfl,by rw [yh];exact HO.Z.alloc _,yR _ _⟩
 obtain ⟨k,hk,rfl,C,hg⟩:=hrel;have L:=Jh ((b7.Z.alloc b7.Z.size _).grown hg (oS b7.Z.size) (by intro k hk;cases hk;have:=M.Z;omega));have KO:=Jh ((Blk.new w2 31 #[x,th, .slice ↑g m m]).grown hg (oS HO.Z.lt));obtain ⟨l0,o0,o1,o2⟩:=KO.Z.c3;have KP:=Jh ((e8.Z.alloc _).grown hg (oT M.Z c.Z.lt));obtain ⟨l9,p0,p1,p2⟩:=KP.Z.c3;have KQ:=Jh ((d5.Z.alloc _).grown hg (oT M.Z f.Z.lt));obtain ⟨l8,u0,u1,u2⟩:=KQ.Z.c3;by_cases D:k<m
 . obtain ⟨ba,oa,f4,g8,c5⟩:=(R.Z.below L.Z).at (oh s)
   have h1:=c5 k (oh s);subst f4;clear c5;obtain ⟨V1,V2⟩:=xx f6.Z k (oh s);have g2:wr.cell? (g,k)=some (.int .i64 ((zn (gen m (vn W H xs (q.map (xh n)) x)) (List.replicate m 0) k).getD k 0)):=C.cell D;have g3:wr.frozen? (g,k)=false:=C.frozen k;have gl:=C.lt;have c8:=Jh C;clear C;have h2:(x==0)=false:=sO;have g7: ¬x=0:=om;obtain ⟨X,Y,x0,x1,y0,y1,tX,tY,wY,d6⟩:=zFy k x t1 om;have HV:Hd ((gen m (vn W H xs (q.map (xh n)) x)).getD k 0=if jA W H xs X Y<xh n (q[k]?.getD 0) then 1 else 0):=Jh (by rw [yN _ _ _ D,d6.Z.1,d6.Z.2];(have e5:k<q.length:=by have:=s.Z;omega);unfold vn;simp [List.getElem?_map,Ya e5]);by_cases hb:jA W H xs X Y<xh n (q[k]?.getD 0)
   . go_wp2_with fail
     go_region_held3 (fun v=>JB v w W H (.slice G n t) (Jc v ↑(w.heap.size+1) x))
      (first | exact ⟨p0,p1,p2,u0⟩ | exact ⟨(a.cell l9).trans p0,(a.cell l9).trans p1,(a.cell l9).trans p2,(a.cell l8).trans u0⟩)
      (first
       | (go_at_call 88;((with_reducible refine (vG W H G n t xs X Y _ U.Z (by exact (HA.Z.below L.Z).of_heap rfl) HQ.Z b1 b3 J b2 b4).mono ?_);rintro e v1 ⟨rfl,a⟩;have y3:=(a.cell l0).trans o2;have e3:=(a.cell gl).trans g2;have e6:=(a.frozen gl).trans g3))
       | (go_at_call 89;((with_reducible refine (XE n _ _ V1 V2 J).mono ?_);rintro e v5 ⟨rfl,rfl⟩)))
     have hv:(gen m (vn W H xs (q.map (xh n)) x)).getD k 0=1:=by rw [HV.Z,if_pos hb]
     have y:=((c8.Z.drewN 1).below a gl).set k 1;rw [yd (gen m (vn W H xs (q.map (xh n)) x)) _ k _ (by rw [zZ];exact D) sO hv] at y;have b0:=Jh y;have V:=Jh (zU hg (yl (row:=some g) (xJ a)));clear y hv hg;go_wp2_with fail;go_roundw
     case rel=>exact ⟨k+1,om,by go_num,b0.Z,yO V.Z _⟩
     exact Jm
   go_wp2_with fail
   go_region_held3 (fun v=>JB v w W H (.slice G n t) (Jc v ↑(w.heap.size+1) x))
    (first | exact ⟨p0,p1,p2,u0⟩ | exact ⟨(a.cell l9).trans p0,(a.cell l9).trans p1,(a.cell l9).trans p2,(a.cell l8).trans u0⟩)
    (first
     | (go_at_call 88;((with_reducible refine (vG W H G n t xs X Y _ U.Z (by exact (HA.Z.below L.Z).of_heap rfl) HQ.Z b1 b3 J b2 b4).mono ?_);rintro e v1 ⟨rfl,a⟩;have y3:=(a.cell l0).trans o2;have e3:=(a.cell gl).trans g2;have e6:=(a.frozen gl).trans g3))
     | (go_at_call 89;((with_reducible refine (XE n _ _ V1 V2 J).mono ?_);rintro e v5 ⟨rfl,rfl⟩)))
   have y:=Uy (gen m (vn W H xs (q.map (xh n)) x)) (List.replicate m 0) k (by rw [zZ];exact D) sO (by rw [HV.Z,if_neg om];simp [List.getD,D]);have b0:Hd (Own v1 g m m (zn (gen m (vn W H xs (q.map (xh n)) x)) (List.replicate m 0) (k+1))):=Jh (by rw [<-y];exact (c8.Z.drewN 1).below a gl);have V:=Jh (zU hg (yl (row:=some g) (xJ a)));clear y hg;go_wp2_with fail;go_roundw
   case rel=>exact ⟨k+1,om,by go_num,b0.Z,V.Z⟩
   exact Jm
 obtain rfl:m=k:=om;have KR:=Jh ((d3.Z.alloc _).grown hg (oT M.Z d3.Z.lt));obtain ⟨r0,r1,r2,r3⟩:=KR.Z.c3;obtain ⟨q0,q1,q2⟩:=KR.Z.f3;rw [xY (gen m (vn W H xs (q.map (xh n)) x)) _ m (by rw [zZ]) sI] at C;have e4:=Jh C;clear C;go_wp2_with fail
 exact bodyPost_ret (v:= .agg #[x,th, .slice ↑g m m]) (by simp [results,results51,go_sem,r1,r2,r3]) rfl
  ⟨_,_,_,rfl,OwnA.mk (((e4.Z.other (oS M.Z) _).other (oS M.Z) _).other (oS M.Z) _) (oh M),om,
   ((L.Z.setCell sD _).setCell sD _).setCell sD _⟩
theorem zLd {p:Prt} (h: ¬(-4<=p.dx/\p.dx<=4/\0<=p.dy/\p.dy<=4/\(p.dy=0->1<=p.dx)/\1<=p.wt/\p.wt<=100)):jp p=false:=by
 unfold jp;exact decide_eq_false h
theorem Zc {ks:List Prt} (hn:ks.length=n) (hk:k<n) (hp:prt ks k=⟨X,Y,T⟩) (h: ¬(-4<=X/\X<=4/\0<=Y/\Y<=4/\(Y=0->1<=X)/\1<=T/\T<=100)):xF ks=false:=
 YB hn hk (by rw [hp,zLd h];rfl)
theorem zIi {ks:List Prt} {q:Prt} (hn:ks.length=n) (hk:k<n) (hp:prt ks k=⟨X,Y,T⟩) (b:j<k) (a:prt ks j=q) (h1:q.dx=X) (h2:q.dy=Y):xF ks=false:=
 YB hn hk (by
  rw [hp]
  have:ko (ks.take (j+1)) X Y=true:=by
   rw [Xn ks j X Y om,a,decide_eq_true ⟨h1,h2⟩];simp
  have:=zDT this (show j+1<=k by omega)
  simp [this])
theorem zPc {ks:List Prt} (h:xg ks k=true) (hp:prt ks k=⟨X,Y,T⟩) (h2:-4<=X/\X<=4/\0<=Y/\Y<=4/\(Y=0->1<=X)/\1<=T/\T<=100) (h3:ko (ks.take k) X Y=false):xg ks (k+1)=true:=by
 rw [ZL,h,hp,h3];have:jp ⟨X,Y,T⟩=true:=decide_eq_true h2;rw [this];rfl
theorem XT {ks:List Prt} {q:Prt} (b:j<ks.length) (h:ko (ks.take j) X Y=false) (a:prt ks j=q) (h2: ¬(q.dx=X/\q.dy=Y)):ko (ks.take (j+1)) X Y=false:=by
 rw [Xn ks j X Y b,h,a,decide_eq_false h2];rfl
theorem Zq (W:Option Addr) (n o:Nat) (ks:List Prt) (w:World) (hn:ks.length=n) (ha:Rd w W (flat ks)) (hl:n<=1048576) (b1:n<=o):
 Calls prog 99 #[.slice W n o] w (zR (.bool (xF ks)) w):=by
 have b:=Jh hn;have HA:=Jh ha;clear hn ha;by_cases hs:1<=n/\n<=12
 case neg=>
  rw [JM b.Z hs];go_in;go_wp2_with (go_at_call 57;refine (yx _ _ _ _ om).mono ?_;rintro e w' ⟨rfl,rfl⟩);go_ret;exact ⟨rfl,bR⟩
 obtain ⟨R,L⟩:=hs;go_in;go_wp2_with (go_at_call 57;refine (zz _ _ _ _ om om).mono ?_;rintro e w' ⟨rfl,rfl⟩)
 go_loopw [13] (fun i wr=> ∃k:Nat,k<=n/\i=↑k/\Hd (xg ks k=true)/\Below w w wr) (fun i _=>n - (intOf i).toNat)
 case atStart=>exact ⟨0,nZ,rfl,Jh rfl,bR⟩
 obtain ⟨k,hk,rfl,HT,hw⟩:=hrel;have u:=Jh hw;by_cases a:k<n
 . obtain ⟨ba,oa,v,b3,c0,c1,c2⟩:=uC (HA.Z.below hw) (k:=k) (oh b)
   subst v;obtain ⟨p,hp⟩: ∃p,prt ks k=p:=⟨_,rfl⟩
   rw [hp] at c0 c1 c2;obtain ⟨X,Y,T⟩:=p;have m:=Jh hp;have N:=Jh (HA.Z.below hw);clear hp hw;dsimp only at c0 c1 c2;by_cases f:-4<=X/\X<=4
   case neg=>
    have c:=Jh f;clear f;go_wp2_with fail;refine (yx _ _ _ _ c.Z).mono ?_;rintro e w2 ⟨rfl,rfl⟩;go_wp2_with fail;go_ret;exact ⟨zX (Zc b.Z a m.Z (fun h=>c.Z ⟨h.1,h.2.1⟩)).symm,zJ u.Z _⟩
   obtain ⟨f,A⟩:=f;by_cases l:0<=Y/\Y<=4
   case neg=>
    have c:=Jh l;clear l;go_wp2_with fail;refine (zz _ _ _ _ f A).mono ?_;rintro e w2 ⟨rfl,rfl⟩;go_wp2_with fail;refine (yx _ _ _ _ c.Z).mono ?_;rintro e w2 ⟨rfl,rfl⟩;go_wp2_with fail;go_ret;exact ⟨zX (Zc b.Z a m.Z (fun h=>c.Z ⟨h.2.2.1,h.2.2.2.1⟩)).symm,zJ u.Z _⟩
   obtain ⟨l,D⟩:=l;by_cases I:Y=0/\X<1
   case pos=>
    obtain ⟨I,y4⟩:=I;subst I;go_wp2_with fail;refine (zz _ _ _ _ f A).mono ?_;rintro e w2 ⟨rfl,rfl⟩;go_wp2_with fail;refine (zz _ _ _ _ l D).mono ?_;rintro e w2 ⟨rfl,rfl⟩;go_wp2_with fail;go_ret;exact ⟨zX (Zc b.Z a m.Z (fun h=>by have:=h.2.2.2.2.1 rfl;omega)).symm,zJ u.Z _⟩
   have y5:Y=0->1<=X:=fun h=>by omega
   have t:=Jh y5;clear I y5;by_cases y:1<=T/\T<=100
   case neg=>
    have c:=Jh y;clear y;by_cases g:Y=0
    . subst g
      have x3:=t.Z rfl;go_wp2_with fail;refine (zz _ _ _ _ f A).mono ?_;rintro e w2 ⟨rfl,rfl⟩;go_wp2_with fail;refine (zz _ _ _ _ l D).mono ?_;rintro e w2 ⟨rfl,rfl⟩;go_wp2_with fail;refine (yx _ _ _ _ c.Z).mono ?_;rintro e w2 ⟨rfl,rfl⟩;go_wp2_with fail;go_ret;exact ⟨zX (Zc b.Z a m.Z (fun h=>c.Z ⟨h.2.2.2.2.2.1,h.2.2.2.2.2.2⟩)).symm,zJ u.Z _⟩
    have y6:(Y==0)=false:=by simpa using g
    clear g;go_wp2_with fail;refine (zz _ _ _ _ f A).mono ?_;rintro e w2 ⟨rfl,rfl⟩;go_wp2_with fail;refine (zz _ _ _ _ l D).mono ?_;rintro e w2 ⟨rfl,rfl⟩;go_wp2_with fail;refine (yx _ _ _ _ c.Z).mono ?_;rintro e w2 ⟨rfl,rfl⟩;go_wp2_with fail;go_ret;exact ⟨zX (Zc b.Z a m.Z (fun h=>c.Z ⟨h.2.2.2.2.2.1,h.2.2.2.2.2.2⟩)).symm,zJ u.Z _⟩
   obtain ⟨y,t2⟩:=y;have U:=Jh (zBQ X Y);by_cases g:Y=0
   case' pos=>
    have y6:(Y==0)=true:=by simpa using g
    have x3:decide (X<1)=false:=by have:=t.Z g;simp;omega
    clear g
   case' neg=>
    have y6:(Y==0)=false:=by simpa using g
    clear g
   all_goals
    go_wp2_with fail;refine (zz _ _ _ _ f A).mono ?_;rintro e w2 ⟨rfl,rfl⟩;go_wp2_with fail;refine (zz _ _ _ _ l D).mono ?_;rintro e w2 ⟨rfl,rfl⟩;go_wp2_with fail;refine (zz _ _ _ _ y t2).mono ?_;rintro e w2 ⟨rfl,rfl⟩;clear c0 c1 c2;have kc:k<=o:=om;go_wp2_with fail;have KB:=Jh (Blk.new wr 124 #[X,Y,T]);have C:=Jh (N.Z.alloc (.cells #[X,Y,T] 124));obtain ⟨wo,F⟩:=zN (wr.alloc (.cells #[X,Y,T] 124):World);have G:=Jh (zJ u.Z (.cells #[X,Y,T] 124));rw [<-F] at KB C G⊢;clear F
    go_loopw [48] (fun i wz=> ∃j:Nat,j<=k/\i=↑j/\Hd (ko (ks.take j) X Y=false)/\Below wo wo wz) (fun i _=>k - (intOf i).toNat)
    case atStart=>exact ⟨0,nZ,rfl,U,bR⟩
    obtain ⟨j,hj,rfl,J,H⟩:=hrel;have HZ:=Jh H;have E:=Jh (zI G.Z H);obtain ⟨l0,o0,o1,o2⟩:=(KB.Z.zA H).c3;by_cases O:j<k
    . obtain ⟨b2,b4,v,b0,c0,c1,c2⟩:=uC (C.Z.below H) (k:=j) (oh b)
      cases v;obtain ⟨q,Q⟩: ∃q,prt ks j=q:=⟨_,rfl⟩
      rw [Q] at c0 c1 c2;obtain ⟨M,P,T2⟩:=q;have V:=Jh Q;clear Q H;dsimp only at c0 c1 c2;by_cases z:X=M
      . have e2:(X==M)=true:=by simpa using z
        have s:=Jh z;clear z;by_cases B:Y=P
        . have e4:(Y==P)=true:=by simpa using B
          have x:=Jh B;clear B;go_wp2_with fail;go_ret;exact ⟨zX (zIi b.Z a m.Z O V.Z s.Z.symm x.Z.symm).symm,zJ E.Z _⟩
        have e4:(Y==P)=false:=by simpa using B
        have x:=Jh B;clear B;go_wp2_with fail;go_roundw
        case rel=>exact ⟨j+1,om,by go_num,Jh (XT (oh b) J.Z V.Z (fun h=>x.Z h.2.symm)),zJ HZ.Z _⟩
        exact Jm
      have e2:(X==M)=false:=by simpa using z
      have s:=Jh z;clear z;go_wp2_with fail;go_roundw
      case rel=>exact ⟨j+1,om,by go_num,Jh (XT (oh b) J.Z V.Z (fun h=>s.Z h.1.symm)),zJ HZ.Z _⟩
      exact Jm
    obtain rfl:k=j:=om;go_wp2_with fail;go_roundw
    case rel=>exact ⟨k+1,om,by go_num,Jh (zPc HT.Z m.Z ⟨f,A,l,D,t.Z,y,t2⟩ J.Z),E.Z⟩
    exact Jm
 obtain rfl:n=k:=om;go_wp2_with fail;go_ret;exact ⟨zX (zAx b.Z R L HT.Z).symm,u.Z⟩
theorem zDy (y:Option Addr) (n c:Nat) (ks:List Prt) (w:World) (hn:ks.length=n) (ha:Rd w y (flat ks)) (hl:n<=1048576) (a:n<=c):
 Calls prog 150 #[.slice y n c] w fun e w'=>e= .returned ↑(YJ ks)/\Below w w w':=by
 have f:=Jh hn;have l:=Jh ha;clear hn ha;by_cases hp:xF ks=true
 case neg=>
  rw [zBh hp];have u:xF ks=false:=by simpa using hp
  clear hp;go_in;go_wp2_with fail;refine (Zq _ _ _ ks _ f.Z (by exact l.Z) hl a).mono ?_;rintro e w1 ⟨rfl,hb⟩;rw [u];have q:=Jh hb;clear hb;go_wp2_with fail;go_ret;exact ⟨rfl,q.Z⟩
 rw [ZU f.Z hp];obtain ⟨k1,k2,k3⟩:=qv f.Z hp;have z:=Jh k3;clear k3;go_in;go_wp2_with fail;refine (Zq _ _ _ ks _ f.Z (by exact l.Z) hl a).mono ?_;rintro e w1 ⟨rfl,hb⟩;rw [hp];have q:=Jh hb;have m:=Jh (l.Z.below hb);clear hb l;go_wp2_with fail
 go_loopw [3,10] (fun s i wr=> ∃k:Nat,k<=n/\i=↑k/\s=↑(yB ks k)/\Below w1 w1 wr) (fun _ i _=>n - (intOf i).toNat)
 case atStart=>exact ⟨0,nZ,rfl,rfl,bR⟩
 obtain ⟨k,hk,rfl,rfl,b⟩:=hrel;obtain ⟨G,E⟩:=wA z.Z k hk;have x:=Jh b;by_cases v:k<n
 . obtain ⟨D,F,o,B,c0,c1,c2⟩:=uC (m.Z.below b) (k:=k) (oh f)
   subst o;obtain ⟨p,hp⟩: ∃p,prt ks k=p:=⟨_,rfl⟩
   have t:=vc (vZ z.Z v).1;have g:yB ks (k+1)=yB ks k+(prt ks k).wt:=rfl;rw [hp] at c0 c1 c2 t g;obtain ⟨X,Y,T⟩:=p;dsimp only at c0 c1 c2 t g;obtain ⟨_,_,_,_,_,C,t2⟩:=t;have A:=Jh g;clear hp b g;go_wp2_with fail;go_roundw
   case rel=>exact ⟨k+1,om,by go_num,by rw [A.Z],zJ x.Z _⟩
   exact Jm
 obtain rfl:n=k:=om;go_wp2_with fail;go_ret;exact ⟨rfl,zI q.Z x.Z⟩
end Go.Proofs.YtlenfgdjdianiaaGreatDoor
