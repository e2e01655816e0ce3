/- Facts on which this claim rests, 15. -/
import Derived.Test.YtlenfgdjdianiaaGreatDoorG14
set_option linter.all false
set_option maxHeartbeats 6400000
namespace Go.Proofs.YtlenfgdjdianiaaGreatDoor
open Go.RowKit Tq Go.Proofs.Tryz
variable {T X Y : Int} {j k n : Nat}
theorem Rm (k:Nat) (a:Int) (h:1<=a) (hk:k<=1024): ∃X Y:Int,0<=X/\X<a/\0<=Y/\Y<=(k:Int)/\(k:Int).tmod a=X/\(k:Int).tdiv a=Y/\IntKind.i64.wrap Y=Y/\Hd (X=(k:Int) % a/\Y=(k:Int)/a):=by
 have b:0<=(k:Int) % a:=Yg _ om;have c:(k:Int) % a<a:=Ye _ om;have e:0<=(k:Int)/a:=Yw om om;have f:(k:Int)/a<=k:=Int.ediv_le_self _ om;exact ⟨(k:Int) % a,(k:Int)/a,b,c,e,f,Yl om,Yt om,Yc _ om,Jh ⟨rfl,rfl⟩⟩
set_option maxRecDepth 100000 in
theorem Ng (W H:Int) (t:Option Addr) (n f:Nat) (xs:List Int) (al:Option Addr) (m c:Nat) (ls:List Int) (b u:Int) (w:World)
 (hn:xs.length=n) (ha:Rd w t xs) (mk:yD W H xs=true) (hm:ls.length=m) (B:Rd w al ls) (q:yV b u=true) (V:(m:Int)=b*u):
 Calls prog 198 #[.agg #[W,H, .slice t n f], .slice al m c,b] w (uq w ⟨b,u,gen m (wW W H xs ls b)⟩):=by
 have P:=Jh hn;have HA:=Jh ha;clear hn ha;obtain ⟨ks,kq,ki,kd⟩:=jh P.Z mk;obtain ⟨b1,b2,b3,b4,b5,b6⟩:=kI ks;have HQ:=Jh kq;have J:n<=256:=om;clear ks kq ki kd mk;obtain ⟨t1,t2,t3,t4,t5,t6⟩:=yP q;have HD:Hd ((m:Int)/b=u):=Jh (by rw [V];exact Int.mul_ediv_cancel_left _ om);obtain ⟨d0,d1⟩:0<=(m:Int)/b/\(m:Int)/b<=64:=by rw [HD.Z];omega
 obtain ⟨HM,HS,HL,O⟩:=JG V q hm B;have c1:1<=m:=om;have c4:m<=1024:=om;clear V q hm B t5 t6;go_in;go_wp2_with fail;have hD:=HD.Z;rw [hD];clear hD d0 d1;refine (qF b u m _ HS.Z HM.Z).mono ?_;rintro e w2 ⟨g,rfl,hg,o,hb⟩;have x:=Jh (nV.trans (hb.mono sO));have R:=Jh (((Blk.new w 32 #[W,H, .slice t n f]).alloc _).zA hb)
 have G:Hd (Blk w2 (w.heap.size+1) 31 ↑Zp):=by
  have h:=(Blk.new (w.alloc (.cells #[W,H, .slice t n f] 32)) 31 ↑Zp).zA hb;exact Jh (by simpa using h)
 have HO:=Jh o;have y:Hd (w.heap.size+1+1<=g):=Jh (by simpa using hg);clear hb o hg
 go_wp2
 go_loopw [18] (fun i wr=> ∃k:Nat,k<=m/\i=↑k/\Own wr g m m (zy (gen m (wW W H xs ls b)) (List.replicate m 0) k)/\(w2.alloc (.cells #[b,u, .slice ↑g m m] 31)).grownBy wr (some g)) (fun i _=>m - (intOf i).toNat)
 exact ⟨0,nZ,rfl,by rw [xB];exact HO.Z.alloc _,yU _ _⟩;obtain ⟨k,hk,rfl,o,hg⟩:=hrel;have s:=Jh ((x.Z.alloc x.Z.size _).grown hg (oS x.Z.size) (by intro k hk;cases hk;have:=y.Z;omega));have KO:=Jh ((Blk.new w2 31 #[b,u, .slice ↑g m m]).grown hg (oS HO.Z.lt));obtain ⟨l0,o0,o1,o2⟩:=KO.Z.c3;have KP:=Jh ((R.Z.alloc _).grown hg (oS y.Z));obtain ⟨D,L,M,N⟩:=KP.Z.c3;by_cases l:k<m
 . obtain ⟨ba,oa,U,B,I⟩:=(O.Z.below s.Z).at (oh HL)
   have h1:=I k (oh HL);subst U;clear I;have g2:wr.cell? (g,k)=some ↑((zy (gen m (wW W H xs (ls) b)) (List.replicate m 0) k).getD k 0):=o.cell l;have g3:wr.frozen? (g,k)=false:=o.frozen k;have C:=o.lt;have E:=Jh o;clear o;have b8:(b==0)=false:=sO;have c0: ¬b=0:=om;obtain ⟨X,Y,x0,x1,y0,y1,tX,tY,wY,F⟩:=Rm k b t1 om;have HV:Hd ((gen m (wW W H xs (ls) b)).getD k 0=if vV W H xs X Y<ls[k]?.getD 0 then 1 else 0):=Jh (by rw [yY _ _ _ l,F.Z.1,F.Z.2];rfl);by_cases hb:vV W H xs X Y<ls[k]?.getD 0
   . go_wp2
     go_region_held3 (fun v=>JA v w W H (.slice t n f))
      (first | exact ⟨L,M,N⟩ | exact ⟨(a.cell D).trans L,(a.cell D).trans M,(a.cell D).trans N⟩)
      (first
       | (go_at_call 194;((with_reducible refine (ZP W H t n f xs X Y _ P.Z (by exact (HA.Z.below s.Z).of_heap rfl) HQ.Z b1 b3 J b2 b4).mono ?_);rintro e v1 ⟨rfl,a⟩;have y3:=(a.cell l0).trans o2;have b0:=(a.cell C).trans g2;have b7:=(a.frozen C).trans g3)))
     have hv:(gen m (wW W H xs (ls) b)).getD k 0=1:=by rw [HV.Z,if_pos hb]
     have q:=((E.Z.drewN 1).below a C).set k 1;rw [yx (gen m (wW W H xs (ls) b)) _ k _ (by rw [zk];exact l) sO hv] at q;have A:=Jh q;have z:=Jh (zY hg (xS (row:=some g) (kM a)));clear q hv hg
     go_wp2
     go_roundw
     . exact ⟨k+1,om,by go_num,A.Z,yX z.Z _⟩
     exact Jm
   go_wp2
   go_region_held3 (fun v=>JA v w W H (.slice t n f))
    (first | exact ⟨L,M,N⟩ | exact ⟨(a.cell D).trans L,(a.cell D).trans M,(a.cell D).trans N⟩)
    (first
     | (go_at_call 194;((with_reducible refine (ZP W H t n f xs X Y _ P.Z (by exact (HA.Z.below s.Z).of_heap rfl) HQ.Z b1 b3 J b2 b4).mono ?_);rintro e v1 ⟨rfl,a⟩;have y3:=(a.cell l0).trans o2;have b0:=(a.cell C).trans g2;have b7:=(a.frozen C).trans g3)))
   have q:=DZ (gen m (wW W H xs (ls) b)) (List.replicate m 0) k (by rw [zk];exact l) sO (by rw [HV.Z,if_neg om];simp [List.getD,l]);have A:Hd (Own v1 g m m (zy (gen m (wW W H xs (ls) b)) (List.replicate m 0) (k+1))):=Jh (by rw [<-q];exact (E.Z.drewN 1).below a C);have z:=Jh (zY hg (xS (row:=some g) (kM a)));clear q hg
   go_wp2
   go_roundw
   . exact ⟨k+1,om,by go_num,A.Z,z.Z⟩
   exact Jm
 obtain rfl:m=k:=om;have KR:=Jh ((G.Z.alloc _).grown hg (oT y.Z G.Z.lt));obtain ⟨r0,r1,r2,r3⟩:=KR.Z.c3;obtain ⟨q0,q1,q2⟩:=KR.Z.f3;rw [jC (gen m (wW W H xs ls b)) _ m (by rw [zk]) sI] at o;have Q:=Jh o;clear o
 go_wp2
 exact bodyPost_ret (v:= .agg #[b,u, .slice ↑g m m]) (by simp [results,results198,go_sem,r1,r2,r3]) rfl
  ⟨_,_,_,rfl,OwnA.mk (((Q.Z.other (oS y.Z) _).other (oS y.Z) _).other (oS y.Z) _) (oh y),om,
   ((s.Z.setCell sD _).setCell sD _).setCell sD _⟩
theorem Aw (W H:Int) (o:Option Addr) (n i:Nat) (xs:List Int) (m l:Int) (f:Option Addr) (g b:Nat) (ys:List Int) (w:World)
 (hn:xs.length=n) (ha:Rd w o xs) (hl:n<=↑Zn) (t:ys.length=g) (q:Rd w f ys) (s:g<=↑Zn) (hp:yD W H xs=true) (v:zT m l ys 255=true):
 Calls prog 199 #[.agg #[W,H, .slice o n i], .agg #[m,l, .slice f g b]] w fun e w'=> ∃a c,e= .returned (.slice a g c)/\OwnA w' w a g c (ys.map (jM n))/\Below w w w':=by
 refine (Io W H o n i xs m l f g b ys w hn ha hl t q s).mono ?_;rintro e w' ⟨a,k,c,rfl,u,_,hb⟩;rw [Dn hn hp v] at u;obtain rfl:g=k:=by have:=u.len;simp at this;omega
 exact ⟨a,c,rfl,u,hb⟩
set_option maxRecDepth 100000 in
theorem BA (W H:Int) (C:Option Addr) (n s:Nat) (xs:List Int) (u t:Int) (m:Option Addr) (x f:Nat) (ys:List Int) (w:World)
 (hn:xs.length=n) (ha:Rd w C xs) (hl:n<=↑Zn) (U:ys.length=x) (R:Rd w m ys) (I:x<=↑Zn):
 Calls prog 159 #[.agg #[W,H, .slice C n s], .agg #[u,t, .slice m x f]] w (uq w (Xb W H xs u t ys)):=by
 obtain ⟨G,P,y,F⟩:=JG hn ha U R;clear hn ha U R;by_cases hp:yD W H xs=true
 case neg=>
  have J:yD W H xs=false:=by simpa using hp
  rw [Js (fun h=>hp h.1)];clear hp;go_in;go_wp2_with fail;refine (xX _ _ _ _ _ xs _ G.Z (by exact ((P.Z.alloc _).alloc _).alloc _) hl).mono ?_;rintro e w1 ⟨rfl,hb⟩;have c:=Jh (zL (zM (zM (zM bR _) _) _) hb);have i:=Jh ((((Blk.zD (g:=w.heap.size) 32 #[W,H, .slice C n s] (by first | rfl | simp)).alloc _).alloc _).zA hb);have l:Hd (Blk w1 (w.heap.size+1) 31 #[u,t, .slice m x f]):=Jh (((Blk.zD (g:=w.heap.size+1) 31 #[u,t, .slice m x f] sI).alloc _).zA hb);have a:Hd (Blk w1 (w.heap.size+1+1) 31 ↑Zp):=Jh ((Blk.zD (g:=w.heap.size+1+1) 31 ↑Zp sI).zA hb);obtain ⟨z,c0,c1,c2⟩:=i.Z.c3;obtain ⟨n1,E,g1,g2⟩:=l.Z.c3;obtain ⟨m1,D,d1,d2⟩:=a.Z.c3;obtain ⟨M,N,O⟩:=a.Z.f3;clear hb;rw [J]
  go_wp2
  exact bodyPost_ret (v:= .agg ↑Zp) (by simp [results,results159,go_sem,D,d1,d2]) rfl ⟨none,0,0,rfl,oN,om,
   ((c.Z.setCell sD _).setCell sD _).setCell sD _⟩
 by_cases q:zT u t ys 255=true
 case neg=>
  have J:zT u t ys 255=false:=by simpa using q
  rw [Js (fun h=>q h.2)];clear q;go_in;go_wp2_with fail;refine (xX _ _ _ _ _ xs _ G.Z (by exact ((P.Z.alloc _).alloc _).alloc _) hl).mono ?_;rintro e w1 ⟨rfl,hb⟩;have c:=Jh (zL (zM (zM (zM bR _) _) _) hb);have i:=Jh ((((Blk.zD (g:=w.heap.size) 32 #[W,H, .slice C n s] (by first | rfl | simp)).alloc _).alloc _).zA hb);have l:Hd (Blk w1 (w.heap.size+1) 31 #[u,t, .slice m x f]):=Jh (((Blk.zD (g:=w.heap.size+1) 31 #[u,t, .slice m x f] sI).alloc _).zA hb);have a:Hd (Blk w1 (w.heap.size+1+1) 31 ↑Zp):=Jh ((Blk.zD (g:=w.heap.size+1+1) 31 ↑Zp sI).zA hb);obtain ⟨z,c0,c1,c2⟩:=i.Z.c3;obtain ⟨n1,E,g1,g2⟩:=l.Z.c3;obtain ⟨m1,D,d1,d2⟩:=a.Z.c3;obtain ⟨M,N,O⟩:=a.Z.f3;clear hb;rw [hp];go_wp2_with fail;refine (xV _ _ _ _ _ ys _ y.Z (by exact F.Z.below c.Z) I).mono ?_;rintro e w1 ⟨rfl,hb⟩;obtain ⟨c,i,l,a⟩:=JG (zL c.Z hb) (i.Z.zA hb) (l.Z.zA hb) (a.Z.zA hb);clear c0 c1 c2 D d1 d2 M N O E g1 g2 hb;obtain ⟨z,c0,c1,c2⟩:=i.Z.c3;obtain ⟨n1,E,g1,g2⟩:=l.Z.c3;obtain ⟨m1,D,d1,d2⟩:=a.Z.c3;obtain ⟨M,N,O⟩:=a.Z.f3;rw [J]
  go_wp2
  exact bodyPost_ret (v:= .agg ↑Zp) (by simp [results,results159,go_sem,D,d1,d2]) rfl ⟨none,0,0,rfl,oN,om,
   ((c.Z.setCell sD _).setCell sD _).setCell sD _⟩
 rw [Dw G.Z y.Z hp q];have HP:=Jh hp;have c5:=Jh q;obtain ⟨L,hq,hi,hd⟩:=jh G.Z hp;obtain ⟨b1,b2,b3,b4,b5,b6⟩:=kI L;obtain ⟨HQ,HI,HD,HS⟩:=JG hq hi hd L;have e5:1<=n:=om;have V:n<=256:=om;clear hq hi L hd;obtain ⟨L,hq,hi⟩:=yu y.Z q;obtain ⟨d8,e0,e1,e2,e3,e4⟩:=yP L;obtain ⟨c8,d7,d3⟩:=JF hq hi L;have d5:1<=x:=om;have d6:x<=1024:=om;clear hq hi L;go_in;go_wp2_with fail;refine (xX _ _ _ _ _ xs _ G.Z (by exact ((P.Z.alloc _).alloc _).alloc _) hl).mono ?_;rintro e w1 ⟨rfl,hb⟩;have c:=Jh (zL (zM (zM (zM bR _) _) _) hb);have i:=Jh ((((Blk.zD (g:=w.heap.size) 32 #[W,H, .slice C n s] (by first | rfl | simp)).alloc _).alloc _).zA hb);have l:Hd (Blk w1 (w.heap.size+1) 31 #[u,t, .slice m x f]):=Jh (((Blk.zD (g:=w.heap.size+1) 31 #[u,t, .slice m x f] sI).alloc _).zA hb);have a:Hd (Blk w1 (w.heap.size+1+1) 31 ↑Zp):=Jh ((Blk.zD (g:=w.heap.size+1+1) 31 ↑Zp sI).zA hb);obtain ⟨z,c0,c1,c2⟩:=i.Z.c3;obtain ⟨n1,E,g1,g2⟩:=l.Z.c3;obtain ⟨m1,D,d1,d2⟩:=a.Z.c3;obtain ⟨M,N,O⟩:=a.Z.f3;clear hb;rw [hp];go_wp2_with fail;refine (xV _ _ _ _ _ ys _ y.Z (by exact F.Z.below c.Z) I).mono ?_;rintro e w1 ⟨rfl,hb⟩;obtain ⟨c,i,l,a⟩:=JG (zL c.Z hb) (i.Z.zA hb) (l.Z.zA hb) (a.Z.zA hb);clear c0 c1 c2 D d1 d2 M N O E g1 g2 hb;obtain ⟨z,c0,c1,c2⟩:=i.Z.c3;obtain ⟨n1,E,g1,g2⟩:=l.Z.c3;obtain ⟨m1,D,d1,d2⟩:=a.Z.c3;obtain ⟨M,N,O⟩:=a.Z.f3;rw [q];clear hp q;go_wp2_with fail;have A:w.heap.size+1+1≠w.heap.size:=om;have B:w.heap.size+1+1≠w.heap.size+1:=om
 go_region_held3 (fun v=>JB v w W H (.slice C n s) (Jc v ↑(w.heap.size+1) u/\Jc v (w.heap.size+1,1) t/\Jc v (w.heap.size+1,2) (.slice m x f)))
  (first | exact ⟨c0,c1,c2,E,g1,g2⟩ | exact ⟨y0,y1,y2,y3,y4,y5⟩ | exact ⟨z0,z1,z2,z3,z4,z5⟩ | exact ⟨zh (zh (zh z0 A) A) A,zh (zh (zh z1 A) A) A,zh (zh (zh z2 A) A) A,zh (zh (zh z3 B) B) B,zh (zh (zh z4 B) B) B,zh (zh (zh z5 B) B) B⟩)
  (first
   | (go_at_call 199;((with_reducible refine (Aw W H C n s xs u t m x f ys _ G.Z (by exact (P.Z.below c.Z).of_heap rfl) hl y.Z (by exact (F.Z.below c.Z).of_heap rfl) I HP.Z c5.Z).mono ?_);rintro e v1 ⟨a1,k1,rfl,b0,b⟩;have y0:=(b.cell z).trans c0;have y1:=(b.cell z).trans c1;have y2:=(b.cell z).trans c2;have y3:=(b.cell n1).trans E;have y4:=(b.cell n1).trans g1;have y5:=(b.cell n1).trans g2))
   | (go_at_call 198;((with_reducible refine (Ng W H C n s xs _ x _ (ys.map (jM n)) u t _ G.Z (by exact ((P.Z.below c.Z).drew).below b) HP.Z (oS y.Z) (by exact b0.rd) d3.Z c8.Z).mono ?_);rintro e v2 ⟨a2,n2,d4,rfl,b7,V,o⟩;have z0:=(o.cell (Yb z b.size)).trans y0;have z1:=(o.cell (Yb z b.size)).trans y1;have z2:=(o.cell (Yb z b.size)).trans y2;have z3:=(o.cell (Yb n1 b.size)).trans y3;have z4:=(o.cell (Yb n1 b.size)).trans y4;have z5:=(o.cell (Yb n1 b.size)).trans y5;have Q:=Jh (((a.Z.drew).zA b).zA o);obtain ⟨m5,r1,r2,r3⟩:=Q.Z.c3;obtain ⟨q0,q1,q2⟩:=Q.Z.f3)))
 have b8:=Jh (zL (zL c.Z.drew b) o);have LR:w.heap.size+1+1<v1.heap.size:=Yb m1 b.size;have c4:=Jh b7;clear b o b7 b0 y0 y1 y2 y3 y4 y5 z0 z1 z2 z3 z4 z5
 go_wp2
 exact bodyPost_ret (v:= .agg #[u,t, .slice a2 n2 d4]) (by simp [results,results159,go_sem,m5,r1,r2,r3]) rfl
  ⟨_,_,_,rfl,(((c4.Z.other (by exact LR) _).other (by exact LR) _).other (by exact LR) _).mono om,V,((b8.Z.setCell sO _).setCell sO _).setCell sO _⟩
theorem Bu (W H:Int) (G:Option Addr) (n t:Nat) (xs:List Int) (B A:Int) (s:Option Addr) (z o:Nat) (ys:List Int) (w:World)
 (hn:xs.length=n) (ha:Rd w G xs) (hl:n<=↑Zn) (d5:ys.length=z) (c8:Rd w s ys) (d4:z<=↑Zn):
 Calls prog 51 #[.agg #[W,H, .slice G n t], .agg #[B,A, .slice s z o]] w (uq w (Xb W H xs B A ys)):=by
 obtain ⟨P,HA,q,M⟩:=JG hn ha d5 c8;clear hn ha d5 c8;by_cases hp:yD W H xs=true
 case neg=>
  have b0:yD W H xs=false:=by simpa using hp
  rw [Js (fun h=>hp h.1)];clear hp;go_in;go_wp2_with fail;refine (jA _ _ _ _ _ xs _ P.Z (by exact ((HA.Z.alloc _).alloc _).alloc _) hl).mono ?_;rintro e w1 ⟨rfl,hb⟩;have l:=Jh (zL (zM (zM (zM bR _) _) _) hb);have c:=Jh ((((Blk.zD (g:=w.heap.size) 32 #[W,H, .slice G n t] (by first | rfl | simp)).alloc _).alloc _).zA hb);have f:Hd (Blk w1 (w.heap.size+1) 31 #[B,A, .slice s z o]):=Jh (((Blk.zD (g:=w.heap.size+1) 31 #[B,A, .slice s z o] sI).alloc _).zA hb);have b:Hd (Blk w1 (w.heap.size+1+1) 31 ↑Zp):=Jh ((Blk.zD (g:=w.heap.size+1+1) 31 ↑Zp sI).zA hb);obtain ⟨l1,c0,c1,c2⟩:=c.Z.c3;obtain ⟨n1,g0,g1,g2⟩:=f.Z.c3;obtain ⟨m1,I,d1,d2⟩:=b.Z.c3;obtain ⟨R,U,V⟩:=b.Z.f3;clear hb;rw [b0]
  go_wp2
  exact bodyPost_ret (v:= .agg ↑Zp) (by simp [results,results51,go_sem,I,d1,d2]) rfl ⟨none,0,0,rfl,oN,om,
   ((l.Z.setCell sD _).setCell sD _).setCell sD _⟩
 by_cases y:zT B A ys 255=true
 case neg=>
  have b0:zT B A ys 255=false:=by simpa using y
  rw [Js (fun h=>y h.2)];clear y;go_in;go_wp2_with fail;refine (jA _ _ _ _ _ xs _ P.Z (by exact ((HA.Z.alloc _).alloc _).alloc _) hl).mono ?_;rintro e w1 ⟨rfl,hb⟩;have l:=Jh (zL (zM (zM (zM bR _) _) _) hb);have c:=Jh ((((Blk.zD (g:=w.heap.size) 32 #[W,H, .slice G n t] (by first | rfl | simp)).alloc _).alloc _).zA hb);have f:Hd (Blk w1 (w.heap.size+1) 31 #[B,A, .slice s z o]):=Jh (((Blk.zD (g:=w.heap.size+1) 31 #[B,A, .slice s z o] sI).alloc _).zA hb);have b:Hd (Blk w1 (w.heap.size+1+1) 31 ↑Zp):=Jh ((Blk.zD (g:=w.heap.size+1+1) 31 ↑Zp sI).zA hb);obtain ⟨l1,c0,c1,c2⟩:=c.Z.c3;obtain ⟨n1,g0,g1,g2⟩:=f.Z.c3;obtain ⟨m1,I,d1,d2⟩:=b.Z.c3;obtain ⟨R,U,V⟩:=b.Z.f3;clear hb;rw [hp];go_wp2_with fail;refine (yj _ _ _ _ _ ys _ q.Z (by exact M.Z.below l.Z) d4).mono ?_;rintro e w1 ⟨rfl,hb⟩;obtain ⟨l,c,f,b⟩:=JG (zL l.Z hb) (c.Z.zA hb) (f.Z.zA hb) (b.Z.zA hb);clear c0 c1 c2 I d1 d2 R U V g0 g1 g2 hb;obtain ⟨l1,c0,c1,c2⟩:=c.Z.c3;obtain ⟨n1,g0,g1,g2⟩:=f.Z.c3;obtain ⟨m1,I,d1,d2⟩:=b.Z.c3;obtain ⟨R,U,V⟩:=b.Z.f3;rw [b0]
  go_wp2
  exact bodyPost_ret (v:= .agg ↑Zp) (by simp [results,results51,go_sem,I,d1,d2]) rfl ⟨none,0,0,rfl,oN,om,
   ((l.Z.setCell sD _).setCell sD _).setCell sD _⟩
 rw [Dw P.Z q.Z hp y];obtain ⟨x,hq,hi,hd⟩:=jh P.Z hp;obtain ⟨b1,b2,b3,b4,b5,b6⟩:=kI x;obtain ⟨HQ,HI,HD,HS⟩:=JG hq hi hd x;have h4:1<=n:=om;have J:n<=256:=om;clear hq hi x hd;obtain ⟨x,hq,hi⟩:=yu q.Z y;obtain ⟨e6,f8,g4,g5,g6,g7⟩:=yP x;obtain ⟨e3,d7,e4⟩:=JF hq hi x;have f6:1<=z:=om;have d6:z<=1024:=om;clear hq hi x;go_in;go_wp2_with fail;refine (jA _ _ _ _ _ xs _ P.Z (by exact ((HA.Z.alloc _).alloc _).alloc _) hl).mono ?_;rintro e w1 ⟨rfl,hb⟩;have l:=Jh (zL (zM (zM (zM bR _) _) _) hb);have c:=Jh ((((Blk.zD (g:=w.heap.size) 32 #[W,H, .slice G n t] (by first | rfl | simp)).alloc _).alloc _).zA hb);have f:Hd (Blk w1 (w.heap.size+1) 31 #[B,A, .slice s z o]):=Jh (((Blk.zD (g:=w.heap.size+1) 31 #[B,A, .slice s z o] sI).alloc _).zA hb);have b:Hd (Blk w1 (w.heap.size+1+1) 31 ↑Zp):=Jh ((Blk.zD (g:=w.heap.size+1+1) 31 ↑Zp sI).zA hb);obtain ⟨l1,c0,c1,c2⟩:=c.Z.c3;obtain ⟨n1,g0,g1,g2⟩:=f.Z.c3;obtain ⟨m1,I,d1,d2⟩:=b.Z.c3;obtain ⟨R,U,V⟩:=b.Z.f3;clear hb;rw [hp];go_wp2_with fail;refine (yj _ _ _ _ _ ys _ q.Z (by exact M.Z.below l.Z) d4).mono ?_;rintro e w1 ⟨rfl,hb⟩;obtain ⟨l,c,f,b⟩:=JG (zL l.Z hb) (c.Z.zA hb) (f.Z.zA hb) (b.Z.zA hb);clear c0 c1 c2 I d1 d2 R U V g0 g1 g2 hb;obtain ⟨l1,c0,c1,c2⟩:=c.Z.c3;obtain ⟨n1,g0,g1,g2⟩:=f.Z.c3;obtain ⟨m1,I,d1,d2⟩:=b.Z.c3;obtain ⟨R,U,V⟩:=b.Z.f3;rw [y];obtain ⟨m,D⟩:=zN z;subst D;obtain ⟨u,D⟩:=zN B;subst D;obtain ⟨th,D⟩:=zN A;subst D;have t1:=e6;have h3:=d6;go_wp2_with fail;refine (qY u th m _ e4.Z e3.Z).mono ?_;rintro e w2 ⟨g,rfl,hg,E,hb⟩;obtain ⟨N,e5,c4,c5,HO⟩:=JI (l.Z.trans (hb.mono l.Z.size)) (c.Z.zA hb) (f.Z.zA hb) (b.Z.zA hb) E;have L:Hd (w1.heap.size<=g):=Jh hg;clear hb hg E c0 c1 c2 I d1 d2 R U V g0 g1 g2;obtain ⟨n2,e0,e1,e2⟩:=c4.Z.c3
 go_wp2
 go_loopw [25] (fun i wr=> ∃k:Nat,k<=m/\i=↑k/\Own wr g m m (zy (gen m (wW W H xs (ys.map (jM n)) u)) (List.replicate m 0) k)/\(w2.alloc (.cells #[u,th, .slice ↑g m m] 31)).grownBy wr (some g)) (fun i _=>m - (intOf i).toNat)
 exact ⟨0,nZ,rfl,by rw [xB];exact HO.Z.alloc _,yU _ _⟩;obtain ⟨k,hk,rfl,E,hg⟩:=hrel;have F:=Jh ((N.Z.alloc N.Z.size _).grown hg (oS N.Z.size) (by intro k hk;cases hk;have:=L.Z;omega));have KO:=Jh ((Blk.new w2 31 #[u,th, .slice ↑g m m]).grown hg (oS HO.Z.lt));obtain ⟨l0,o0,o1,o2⟩:=KO.Z.c3;have KP:=Jh ((e5.Z.alloc _).grown hg (oT L.Z c.Z.lt));obtain ⟨l9,p0,p1,p2⟩:=KP.Z.c3;have KQ:=Jh ((c4.Z.alloc _).grown hg (oT L.Z f.Z.lt));obtain ⟨l8,u0,u1,u2⟩:=KQ.Z.c3;by_cases C:k<m
 . obtain ⟨ba,oa,e7,h2,d3⟩:=(M.Z.below F.Z).at (oh q)
   have h1:=d3 k (oh q);subst e7;clear d3;obtain ⟨V1,V2⟩:=jY d7.Z k (oh q);have g2:wr.cell? (g,k)=some (.int .i64 ((zy (gen m (wW W H xs (ys.map (jM n)) u)) (List.replicate m 0) k).getD k 0)):=E.cell C;have g3:wr.frozen? (g,k)=false:=E.frozen k;have gl:=E.lt;have b7:=Jh E;clear E;have g8:(u==0)=false:=sO;have h0: ¬u=0:=om;obtain ⟨X,Y,x0,x1,y0,y1,tX,tY,wY,b8⟩:=Rm k u t1 om;have HV:Hd ((gen m (wW W H xs (ys.map (jM n)) u)).getD k 0=if vV W H xs X Y<jM n (ys[k]?.getD 0) then 1 else 0):=Jh (by rw [yY _ _ _ C,b8.Z.1,b8.Z.2];(have e8:k<ys.length:=by have:=q.Z;omega);unfold wW;simp [List.getElem?_map,Ya e8]);by_cases hb:vV W H xs X Y<jM n (ys[k]?.getD 0)
   . go_wp2
     go_region_held3 (fun v=>JB v w W H (.slice G n t) (Jc v ↑(w.heap.size+1) u))
      (first | exact ⟨p0,p1,p2,u0⟩ | exact ⟨(a.cell l9).trans p0,(a.cell l9).trans p1,(a.cell l9).trans p2,(a.cell l8).trans u0⟩)
      (first
       | (go_at_call 88;((with_reducible refine (qP W H G n t xs X Y _ P.Z (by exact (HA.Z.below F.Z).of_heap rfl) HQ.Z b1 b3 J b2 b4).mono ?_);rintro e v1 ⟨rfl,a⟩;have y3:=(a.cell l0).trans o2;have f4:=(a.cell gl).trans g2;have f5:=(a.frozen gl).trans g3))
       | (go_at_call 89;((with_reducible refine (Vh n _ _ V1 V2 J).mono ?_);rintro e v5 ⟨rfl,rfl⟩)))
     have hv:(gen m (wW W H xs (ys.map (jM n)) u)).getD k 0=1:=by rw [HV.Z,if_pos hb]
     have x:=((b7.Z.drewN 1).below a gl).set k 1;rw [yx (gen m (wW W H xs (ys.map (jM n)) u)) _ k _ (by rw [zk];exact C) sO hv] at x;have Q:=Jh x;have O:=Jh (zY hg (xS (row:=some g) (kM a)));clear x hv hg
     go_wp2
     go_roundw
     . exact ⟨k+1,om,by go_num,Q.Z,yX O.Z _⟩
     exact Jm
   go_wp2
   go_region_held3 (fun v=>JB v w W H (.slice G n t) (Jc v ↑(w.heap.size+1) u))
    (first | exact ⟨p0,p1,p2,u0⟩ | exact ⟨(a.cell l9).trans p0,(a.cell l9).trans p1,(a.cell l9).trans p2,(a.cell l8).trans u0⟩)
    (first
     | (go_at_call 88;((with_reducible refine (qP W H G n t xs X Y _ P.Z (by exact (HA.Z.below F.Z).of_heap rfl) HQ.Z b1 b3 J b2 b4).mono ?_);rintro e v1 ⟨rfl,a⟩;have y3:=(a.cell l0).trans o2;have f4:=(a.cell gl).trans g2;have f5:=(a.frozen gl).trans g3))
     | (go_at_call 89;((with_reducible refine (Vh n _ _ V1 V2 J).mono ?_);rintro e v5 ⟨rfl,rfl⟩)))
   have x:=DZ (gen m (wW W H xs (ys.map (jM n)) u)) (List.replicate m 0) k (by rw [zk];exact C) sO (by rw [HV.Z,if_neg om];simp [List.getD,C]);have Q:Hd (Own v1 g m m (zy (gen m (wW W H xs (ys.map (jM n)) u)) (List.replicate m 0) (k+1))):=Jh (by rw [<-x];exact (b7.Z.drewN 1).below a gl);have O:=Jh (zY hg (xS (row:=some g) (kM a)));clear x hg
   go_wp2
   go_roundw
   . exact ⟨k+1,om,by go_num,Q.Z,O.Z⟩
   exact Jm
 obtain rfl:m=k:=om;have KR:=Jh ((c5.Z.alloc _).grown hg (oT L.Z c5.Z.lt));obtain ⟨r0,r1,r2,r3⟩:=KR.Z.c3;obtain ⟨q0,q1,q2⟩:=KR.Z.f3;rw [jC (gen m (wW W H xs (ys.map (jM n)) u)) _ m (by rw [zk]) sI] at E;have d8:=Jh E;clear E
 go_wp2
 exact bodyPost_ret (v:= .agg #[u,th, .slice ↑g m m]) (by simp [results,results51,go_sem,r1,r2,r3]) rfl
  ⟨_,_,_,rfl,OwnA.mk (((d8.Z.other (oS L.Z) _).other (oS L.Z) _).other (oS L.Z) _) (oh L),om,
   ((F.Z.setCell sD _).setCell sD _).setCell sD _⟩
theorem mP {p:Prt} (h: ¬(-4<=p.dx/\p.dx<=4/\0<=p.dy/\p.dy<=4/\(p.dy=0->1<=p.dx)/\1<=p.wt/\p.wt<=100)):uz p=false:=by
 unfold uz;exact decide_eq_false h
theorem JN {ks:List Prt} (hn:ks.length=n) (hk:k<n) (hp:prt ks k=⟨X,Y,T⟩) (h: ¬(-4<=X/\X<=4/\0<=Y/\Y<=4/\(Y=0->1<=X)/\1<=T/\T<=100)):kP ks=false:=
 Jp hn hk (by rw [hp,mP h];rfl)
theorem bC {ks:List Prt} {q:Prt} (hn:ks.length=n) (hk:k<n) (hp:prt ks k=⟨X,Y,T⟩) (b:j<k) (a:prt ks j=q) (h1:q.dx=X) (h2:q.dy=Y):kP ks=false:=
 Jp hn hk (by
  rw [hp]
  have:vO (ks.take (j+1)) X Y=true:=by
   rw [UO ks j X Y om,a,decide_eq_true ⟨h1,h2⟩];simp
  have:=Mr this (show j+1<=k by omega)
  simp [this])
theorem zCC {ks:List Prt} (h:jL ks k=true) (hp:prt ks k=⟨X,Y,T⟩) (h2:-4<=X/\X<=4/\0<=Y/\Y<=4/\(Y=0->1<=X)/\1<=T/\T<=100) (h3:vO (ks.take k) X Y=false):jL ks (k+1)=true:=by
 rw [Kk,h,hp,h3];have:uz ⟨X,Y,T⟩=true:=decide_eq_true h2;rw [this];rfl
theorem Vt {ks:List Prt} {q:Prt} (a:j<ks.length) (h:vO (ks.take j) X Y=false) (b:prt ks j=q) (h2: ¬(q.dx=X/\q.dy=Y)):vO (ks.take (j+1)) X Y=false:=by
 rw [UO ks j X Y a,h,b,decide_eq_false h2];rfl
theorem Jb (ad:Option Addr) (n v:Nat) (ks:List Prt) (w:World) (hn:ks.length=n) (ha:Rd w ad (flat ks)) (hl:n<=1048576) (b1:n<=v):
 Calls prog 99 #[.slice ad n v] w (zR (.bool (kP ks)) w):=by
 have b:=Jh hn;have W:=Jh ha;clear hn ha;by_cases hs:1<=n/\n<=12
 case neg=>
  rw [QX b.Z hs];go_in;go_wp2_with (go_at_call 57;refine (kD _ _ _ _ om).mono ?_;rintro e w' ⟨rfl,rfl⟩);go_ret;exact ⟨rfl,bR⟩
 obtain ⟨U,V⟩:=hs;go_in;go_wp2_with (go_at_call 57;refine (yJ _ _ _ _ om om).mono ?_;rintro e w' ⟨rfl,rfl⟩)
 go_loopw [13] (fun i wr=> ∃k:Nat,k<=n/\i=↑k/\Hd (jL ks k=true)/\Below w w wr) (fun i _=>n - (intOf i).toNat)
 exact ⟨0,nZ,rfl,Jh rfl,bR⟩;obtain ⟨k,hk,rfl,HT,hw⟩:=hrel;have t:=Jh hw;by_cases a:k<n
 . obtain ⟨ba,oa,x,b3,c0,c1,c2⟩:=wm (W.Z.below hw) (k:=k) (oh b)
   subst x;obtain ⟨p,hp⟩: ∃p,prt ks k=p:=⟨_,rfl⟩
   rw [hp] at c0 c1 c2;obtain ⟨X,Y,T⟩:=p;have s:=Jh hp;have N:=Jh (W.Z.below hw);clear hp hw;dsimp only at c0 c1 c2;by_cases f:-4<=X/\X<=4
   case neg=>
    have c:=Jh f;clear f;go_wp2_with fail;refine (kD _ _ _ _ c.Z).mono ?_;rintro e w2 ⟨rfl,rfl⟩
    go_wp2
    go_ret;exact ⟨zV (JN b.Z a s.Z (fun h=>c.Z ⟨h.1,h.2.1⟩)).symm,zM t.Z _⟩
   obtain ⟨f,B⟩:=f;by_cases l:0<=Y/\Y<=4
   case neg=>
    have c:=Jh l;clear l;go_wp2_with fail;refine (yJ _ _ _ _ f B).mono ?_;rintro e w2 ⟨rfl,rfl⟩;go_wp2_with fail;refine (kD _ _ _ _ c.Z).mono ?_;rintro e w2 ⟨rfl,rfl⟩
    go_wp2
    go_ret;exact ⟨zV (JN b.Z a s.Z (fun h=>c.Z ⟨h.2.2.1,h.2.2.2.1⟩)).symm,zM t.Z _⟩
   obtain ⟨l,H⟩:=l;by_cases I:Y=0/\X<1
   case pos=>
    obtain ⟨I,y4⟩:=I;subst I;go_wp2_with fail;refine (yJ _ _ _ _ f B).mono ?_;rintro e w2 ⟨rfl,rfl⟩;go_wp2_with fail;refine (yJ _ _ _ _ l H).mono ?_;rintro e w2 ⟨rfl,rfl⟩
    go_wp2
    go_ret;exact ⟨zV (JN b.Z a s.Z (fun h=>by have:=h.2.2.2.2.1 rfl;omega)).symm,zM t.Z _⟩
   have y5:Y=0->1<=X:=fun h=>by omega
   have u:=Jh y5;clear I y5;by_cases A:1<=T/\T<=100
   case neg=>
    have c:=Jh A;clear A;by_cases g:Y=0
    . subst g
      have x3:=u.Z rfl;go_wp2_with fail;refine (yJ _ _ _ _ f B).mono ?_;rintro e w2 ⟨rfl,rfl⟩;go_wp2_with fail;refine (yJ _ _ _ _ l H).mono ?_;rintro e w2 ⟨rfl,rfl⟩;go_wp2_with fail;refine (kD _ _ _ _ c.Z).mono ?_;rintro e w2 ⟨rfl,rfl⟩
      go_wp2
      go_ret;exact ⟨zV (JN b.Z a s.Z (fun h=>c.Z ⟨h.2.2.2.2.2.1,h.2.2.2.2.2.2⟩)).symm,zM t.Z _⟩
    have y6:(Y==0)=false:=by simpa using g
    clear g;go_wp2_with fail;refine (yJ _ _ _ _ f B).mono ?_;rintro e w2 ⟨rfl,rfl⟩;go_wp2_with fail;refine (yJ _ _ _ _ l H).mono ?_;rintro e w2 ⟨rfl,rfl⟩;go_wp2_with fail;refine (kD _ _ _ _ c.Z).mono ?_;rintro e w2 ⟨rfl,rfl⟩
    go_wp2
    go_ret;exact ⟨zV (JN b.Z a s.Z (fun h=>c.Z ⟨h.2.2.2.2.2.1,h.2.2.2.2.2.2⟩)).symm,zM t.Z _⟩
   obtain ⟨A,t2⟩:=A;have L:=Jh (He X Y);by_cases g:Y=0
   case' pos=>
    have y6:(Y==0)=true:=by simpa using g
    have x3:decide (X<1)=false:=by have:=u.Z g;simp;omega
    clear g
   case' neg=>
    have y6:(Y==0)=false:=by simpa using g
    clear g
   all_goals
    go_wp2_with fail;refine (yJ _ _ _ _ f B).mono ?_;rintro e w2 ⟨rfl,rfl⟩;go_wp2_with fail;refine (yJ _ _ _ _ l H).mono ?_;rintro e w2 ⟨rfl,rfl⟩;go_wp2_with fail;refine (yJ _ _ _ _ A t2).mono ?_;rintro e w2 ⟨rfl,rfl⟩;clear c0 c1 c2;have kc:k<=v:=om;go_wp2_with fail;have KB:=Jh (Blk.new wr 124 #[X,Y,T]);have E:=Jh (N.Z.alloc (.cells #[X,Y,T] 124));obtain ⟨wo,F⟩:=zN (wr.alloc (.cells #[X,Y,T] 124):World);have C:=Jh (zM t.Z (.cells #[X,Y,T] 124));rw [<-F] at KB E C⊢;clear F
    go_loopw [48] (fun i wz=> ∃j:Nat,j<=k/\i=↑j/\Hd (vO (ks.take j) X Y=false)/\Below wo wo wz) (fun i _=>k - (intOf i).toNat)
    exact ⟨0,nZ,rfl,L,bR⟩;obtain ⟨j,hj,rfl,J,G⟩:=hrel;have HZ:=Jh G;have D:=Jh (zL C.Z G);obtain ⟨l0,o0,o1,o2⟩:=(KB.Z.zA G).c3;by_cases Q:j<k
    . obtain ⟨b2,b4,x,b0,c0,c1,c2⟩:=wm (E.Z.below G) (k:=j) (oh b)
      cases x;obtain ⟨q,R⟩: ∃q,prt ks j=q:=⟨_,rfl⟩
      rw [R] at c0 c1 c2;obtain ⟨O,P,T2⟩:=q;have M:=Jh R;clear R G;dsimp only at c0 c1 c2;by_cases y:X=O
      . have e2:(X==O)=true:=by simpa using y
        have m:=Jh y;clear y;by_cases z:Y=P
        . have e4:(Y==P)=true:=by simpa using z
          have o:=Jh z;clear z
          go_wp2
          go_ret;exact ⟨zV (bC b.Z a s.Z Q M.Z m.Z.symm o.Z.symm).symm,zM D.Z _⟩
        have e4:(Y==P)=false:=by simpa using z
        have o:=Jh z;clear z
        go_wp2
        go_roundw
        . exact ⟨j+1,om,by go_num,Jh (Vt (oh b) J.Z M.Z (fun h=>o.Z h.2.symm)),zM HZ.Z _⟩
        exact Jm
      have e2:(X==O)=false:=by simpa using y
      have m:=Jh y;clear y
      go_wp2
      go_roundw
      . exact ⟨j+1,om,by go_num,Jh (Vt (oh b) J.Z M.Z (fun h=>m.Z h.1.symm)),zM HZ.Z _⟩
      exact Jm
    obtain rfl:k=j:=om
    go_wp2
    go_roundw
    . exact ⟨k+1,om,by go_num,Jh (zCC HT.Z s.Z ⟨f,B,l,H,u.Z,A,t2⟩ J.Z),D.Z⟩
    exact Jm
 obtain rfl:n=k:=om
 go_wp2
 go_ret;exact ⟨zV (Gh b.Z U V HT.Z).symm,t.Z⟩
theorem Nl (z:Option Addr) (n f:Nat) (ks:List Prt) (w:World) (hn:ks.length=n) (ha:Rd w z (flat ks)) (hl:n<=1048576) (a:n<=f):
 Calls prog 150 #[.slice z n f] w fun e w'=>e= .returned ↑(VB ks)/\Below w w w':=by
 have c:=Jh hn;have g:=Jh ha;clear hn ha;by_cases hp:kP ks=true
 case neg=>
  rw [IK hp];have u:kP ks=false:=by simpa using hp
  clear hp;go_in;go_wp2_with fail;refine (Jb _ _ _ ks _ c.Z (by exact g.Z) hl a).mono ?_;rintro e w1 ⟨rfl,hb⟩;rw [u];have o:=Jh hb;clear hb
  go_wp2
  go_ret;exact ⟨rfl,o.Z⟩
 rw [Kw c.Z hp];obtain ⟨k1,k2,k3⟩:=XZ c.Z hp;have x:=Jh k3;clear k3;go_in;go_wp2_with fail;refine (Jb _ _ _ ks _ c.Z (by exact g.Z) hl a).mono ?_;rintro e w1 ⟨rfl,hb⟩;rw [hp];have o:=Jh hb;have m:=Jh (g.Z.below hb);clear hb g
 go_wp2
 go_loopw [3,10] (fun s i wr=> ∃k:Nat,k<=n/\i=↑k/\s=↑(yL ks k)/\Below w1 w1 wr) (fun _ i _=>n - (intOf i).toNat)
 exact ⟨0,nZ,rfl,rfl,bR⟩;obtain ⟨k,hk,rfl,rfl,b⟩:=hrel;obtain ⟨E,F⟩:=Xf x.Z k hk;have y:=Jh b;by_cases t:k<n
 . obtain ⟨C,D,q,B,c0,c1,c2⟩:=wm (m.Z.below b) (k:=k) (oh c)
   subst q;obtain ⟨p,hp⟩: ∃p,prt ks k=p:=⟨_,rfl⟩
   have v:=wC (qz x.Z t).1;have l:yL ks (k+1)=yL ks k+(prt ks k).wt:=rfl;rw [hp] at c0 c1 c2 v l;obtain ⟨X,Y,T⟩:=p;dsimp only at c0 c1 c2 v l;obtain ⟨_,_,_,_,_,G,t2⟩:=v;have A:=Jh l;clear hp b l
   go_wp2
   go_roundw
   . exact ⟨k+1,om,by go_num,by rw [A.Z],zM y.Z _⟩
   exact Jm
 obtain rfl:n=k:=om
 go_wp2
 go_ret;exact ⟨rfl,zL o.Z y.Z⟩
end Go.Proofs.YtlenfgdjdianiaaGreatDoor
