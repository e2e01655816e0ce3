/- Facts on which this claim rests, 3. -/
import Derived.StillTailTactics
import Derived.Test.YtlenfgdjdianiaaGreatDoorF2
set_option linter.all false
set_option maxHeartbeats 6400000
namespace Go.Proofs.YtlenfgdjdianiaaGreatDoor
open Go.RowKit Tq Go.Proofs.Tryz
variable {H W v : Int} {k n : Nat}
theorem Ve (W H:Int) (s:Option Addr) (n b:Nat) (xs:List Int) (w:World) (hn:xs.length=n) (ha:Rd w s xs) (hl:n<=9223372036854775807):
 Calls prog 116 #[.agg #[W,H, .slice s n b]] w (YK w (uW W H xs)):=by
 have j:=Jh hn;have A:=Jh ha;clear hn ha;by_cases hp:zq W H xs=true
 case neg=>
  have B:zq W H xs=false:=by simpa using hp
  rw [zIC hp];clear hp;go_in;go_wp2_with fail;refine (yn _ _ _ _ _ xs _ j.Z (by exact (A.Z.alloc _).alloc _) hl).mono ?_;rintro e w1 ⟨rfl,hb⟩;have l:=Jh (nV.trans (hb.mono sO));have c:=Jh (((Blk.new w 32 #[W,H, .slice s n b]).alloc _).zA hb)
  have a:Hd (Blk w1 (w.heap.size+1) 32 ↑Zp):=by
   have h:=(Blk.new (w.alloc (.cells #[W,H, .slice s n b] 32)) 32 ↑Zp).zA hb;exact Jh (by simpa using h)
  obtain ⟨Y,c0,c1,c2⟩:=c.Z.c3;obtain ⟨T,z,d1,d2⟩:=a.Z.c3;obtain ⟨N,J,I⟩:=a.Z.f3;clear hb;rw [B];go_wp2_with fail
  exact bodyPost_ret (v:= .agg ↑Zp) (by simp [results,results116,go_sem,z,d1,d2]) rfl ⟨none,0,0,rfl,oN,om,
   ((l.Z.setCell sD _).setCell sD _).setCell sD _⟩
 rw [zAD j.Z hp];obtain ⟨m,L,hi,hd⟩:=kI j.Z hp;obtain ⟨b1,b2,b3,b4,b5,b6⟩:=xA m;have HQ:=Jh L;have V:=Jh hi;have HD:=Jh hd;have X:=Jh m;have R:1<=n:=om;have b0:n<=256:=om;clear L hi m hd;go_in;go_wp2_with fail;refine (yn _ _ _ _ _ xs _ j.Z (by exact (A.Z.alloc _).alloc _) hl).mono ?_;rintro e w1 ⟨rfl,hb⟩;have l:=Jh (nV.trans (hb.mono sO));have c:=Jh (((Blk.new w 32 #[W,H, .slice s n b]).alloc _).zA hb)
 have a:Hd (Blk w1 (w.heap.size+1) 32 ↑Zp):=by
  have h:=(Blk.new (w.alloc (.cells #[W,H, .slice s n b] 32)) 32 ↑Zp).zA hb;exact Jh (by simpa using h)
 obtain ⟨Y,c0,c1,c2⟩:=c.Z.c3;obtain ⟨T,z,d1,d2⟩:=a.Z.c3;obtain ⟨N,J,I⟩:=a.Z.f3;clear hb;rw [hp];go_wp2_with fail;refine (uf W H n _ X.Z HQ.Z).mono ?_;rintro e w2 ⟨g,rfl,hg,f,hb⟩;have q:=Jh (l.Z.trans (hb.mono l.Z.size));have u:=Jh (c.Z.zA hb);have x:=Jh (a.Z.zA hb);have G:=Jh f;have o:Hd (w1.heap.size<=g):=Jh hg;clear hb hg f c0 c1 c2 z d1 d2 N J I;obtain ⟨l2,c0,c1,c2⟩:=u.Z.c3;go_wp2_with fail
 go_loopw [18] (fun i wr=> ∃k:Nat,k<=n/\i=↑k/\Own wr g n n (zn (xs.map (fun v=>(n:Int) - 1 - v)) (List.replicate n 0) k)/\(w2.alloc (.cells #[W,H, .slice ↑g n n] 32)).grownBy wr (some g)) (fun i _=>n - (intOf i).toNat)
 case atStart=>exact ⟨0,nZ,rfl,by rw [yh];exact G.Z.alloc _,yR _ _⟩
 obtain ⟨k,hk,rfl,f,hg⟩:=hrel;have y:=Jh ((q.Z.alloc q.Z.size _).grown hg (oS q.Z.size) (by intro k hk;cases hk;have:=o.Z;omega));have O:=Jh ((Blk.new w2 32 #[W,H, .slice ↑g n n]).grown hg (oS G.Z.lt));obtain ⟨l0,o0,o1,o2⟩:=O.Z.c3;have KP:=Jh ((u.Z.alloc _).grown hg (oT o.Z c.Z.lt));obtain ⟨l9,p0,p1,p2⟩:=KP.Z.c3;by_cases C:k<n
 . obtain ⟨ba,oa,D,U,t⟩:=(A.Z.below y.Z).at (oh j)
   have h1:=t (k) (oh j);subst D;clear t;obtain ⟨v1,v2⟩:=zFB V.Z k (oh j);have g2:wr.cell? (g,k)=some ↑((zn (xs.map (fun v=>(n:Int) - 1 - v)) (List.replicate n 0) k).getD k 0):=f.cell C;have g3:wr.frozen? (g,k)=false:=f.frozen k;have m:=f.set k ((n:Int) - 1 - xs[k]?.getD 0);rw [yd (xs.map (fun v=>(n:Int) - 1 - v)) _ k _ (oS j.Z) sO (zCK _ _ _ (oh j))] at m;have E:=Jh m;clear m f;go_wp2_with fail;go_roundw
   case rel=>exact ⟨k+1,om,by go_num,by simpa using E.Z,yO hg _⟩
   exact Jm
 obtain rfl:n=k:=om;have M:=Jh ((x.Z.alloc _).grown hg (oT o.Z x.Z.lt));obtain ⟨r0,P,Q,r3⟩:=M.Z.c3;obtain ⟨q0,q1,q2⟩:=M.Z.f3;rw [xY (xs.map (fun v=>(n:Int) - 1 - v)) _ n (by simp [j.Z]) sI] at f;have F:=Jh f;clear f;go_wp2_with fail
 exact bodyPost_ret (v:= .agg #[W,H, .slice ↑g n n]) (by simp [results,results116,go_sem,P,Q,r3]) rfl
  ⟨_,_,_,rfl,OwnA.mk (((F.Z.other (oS o.Z) _).other (oS o.Z) _).other (oS o.Z) _) (oh o),om,
   ((y.Z.setCell sD _).setCell sD _).setCell sD _⟩
theorem zPZ (xs:List Int) (f:Int->Int) (n:Nat) (h:xs.length=n):xs.map f=gen n (fun i=>f (xs[i]?.getD 0)):=by
 refine xk n _ _ (by simpa using h) (fun k hk=>?_);exact zCK xs f k om
theorem UJ (W H:Int) (t:Option Addr) (n c:Nat) (xs:List Int) (w:World) (hn:xs.length=n) (ha:Rd w t xs) (hl:n<=9223372036854775807):
 Calls prog 49 #[.agg #[W,H, .slice t n c]] w (YK w (uW W H xs)):=by
 have m:=Jh hn;have F:=Jh ha;clear hn ha;by_cases hp:zq W H xs=true
 case neg=>
  have G:zq W H xs=false:=by simpa using hp
  rw [zIC hp];clear hp;go_in;go_wp2_with fail;refine (xW _ _ _ _ _ xs _ m.Z (by exact (F.Z.alloc _).alloc _) hl).mono ?_;rintro e w1 ⟨rfl,hb⟩;have l:=Jh (nV.trans (hb.mono sO));have g:=Jh (((Blk.new w 32 #[W,H, .slice t n c]).alloc _).zA hb)
  have b:Hd (Blk w1 (w.heap.size+1) 32 ↑Zp):=by
   have h:=(Blk.new (w.alloc (.cells #[W,H, .slice t n c] 32)) 32 ↑Zp).zA hb;exact Jh (by simpa using h)
  obtain ⟨l1,c0,c1,c2⟩:=g.Z.c3;obtain ⟨Y,O,d1,d2⟩:=b.Z.c3;obtain ⟨T,P,N⟩:=b.Z.f3;clear hb;rw [G];go_wp2_with fail
  exact bodyPost_ret (v:= .agg ↑Zp) (by simp [results,results49,go_sem,O,d1,d2]) rfl ⟨none,0,0,rfl,oN,om,
   ((l.Z.setCell sD _).setCell sD _).setCell sD _⟩
 rw [zAD m.Z hp,zPZ xs _ n m.Z];obtain ⟨I,Q,hi,hd⟩:=kI m.Z hp;obtain ⟨b1,b2,b3,b4,b5,b6⟩:=xA I;have HQ:=Jh Q;have HI:=Jh hi;have HD:=Jh hd;have HS:=Jh I;have X:1<=n:=om;have b8:n<=256:=om;clear Q hi I hd;go_in;go_wp2_with fail;refine (xW _ _ _ _ _ xs _ m.Z (by exact (F.Z.alloc _).alloc _) hl).mono ?_;rintro e w1 ⟨rfl,hb⟩;have l:=Jh (nV.trans (hb.mono sO));have g:=Jh (((Blk.new w 32 #[W,H, .slice t n c]).alloc _).zA hb)
 have b:Hd (Blk w1 (w.heap.size+1) 32 ↑Zp):=by
  have h:=(Blk.new (w.alloc (.cells #[W,H, .slice t n c] 32)) 32 ↑Zp).zA hb;exact Jh (by simpa using h)
 obtain ⟨l1,c0,c1,c2⟩:=g.Z.c3;obtain ⟨Y,O,d1,d2⟩:=b.Z.c3;obtain ⟨T,P,N⟩:=b.Z.f3;clear hb;rw [hp];go_wp2_with fail
 go_loopw [18] (fun i wr=> ∃(k:Nat) (f:Option Addr) (a:Nat),k<=n/\i=↑k/\OwnA wr (w1.heap.size+1) f k a (gen k ((fun i=>(n:Int) - 1 - xs[i]?.getD 0)))/\Blk wr (w1.heap.size) 32 #[(W),(H), .slice f k a]/\Below (w1.heap.size) (w1) wr) (fun i _=>n - (intOf i).toNat)
 case atStart=>exact ⟨0,none,0,nZ,rfl,oN,by first | exact Blk.new _ _ _ | exact Blk.zD _ _ sI,by first | exact nJ | exact bR.alloc sI _⟩
 obtain ⟨k,f,a,hk,rfl,M,z,y⟩:=hrel;have B:=Jh M;have C:=Jh z;have D:=Jh y;obtain ⟨l0,o0,o1,o2⟩:=C.Z.c3;clear M z y;have s:=Jh (l.Z.trans (D.Z.mono (og l.Z.size)));have KP:=Jh (g.Z.below D.Z g.Z.lt);obtain ⟨l9,s0,s1,s2⟩:=KP.Z.c3;by_cases b0:k<n
 . obtain ⟨ba,oa,J,b7,A⟩:=(F.Z.below s.Z).at (oh m)
   have h1:=A (k) (oh m);subst J;clear A;obtain ⟨v1,v2⟩:=zFB HI.Z k (oh m);go_wp2_with (at_builtin;refine vH _ rfl (.tmp 23) (.tmp 30) rfl (w1.heap.size+1) k a f _ rfl (B.Z.alloc _) wr.heap.size ((n:Int) - 1 - xs[k]?.getD 0) rfl (by go_simp) om (oS C.Z.lt) ?_;intro u o w5 x q;have j:=Jh (jI B.Z q C.Z om);obtain ⟨l5,p0,p1,p2⟩:=j.Z.c3;obtain ⟨T,P,N⟩:=j.Z.f3);have L:=Jh (vV B.Z q D.Z om (og C.Z.lt));have E:=Jh x;clear x q;go_roundw
   case rel=>exact ⟨k+1,u,o,om,by go_num,(by rw [<-jG];exact E.Z.other sI _),by first | exact j.Z.set 2 _ | (have h:=j.Z.set 2 (.slice u (k+1) o);simpa using h),L.Z.setCell sI _⟩
   exact Jm
 obtain rfl:n=k:=om;have R:=Jh (b.Z.below D.Z b.Z.lt);obtain ⟨r0,U,V,r3⟩:=R.Z.c3;obtain ⟨q0,q1,q2⟩:=R.Z.f3;go_wp2_with fail
 exact bodyPost_ret (v:= .agg #[(W),(H), .slice f _ a]) (by simp [results,results49,go_sem,U,V,r3]) rfl
  ⟨_,_,_,rfl,(((B.Z.other (by simp;try omega) _).other (by simp;try omega) _).other (by simp;try omega) _).mono (by have:=s.Z.size;try simp;omega),om,
   ((s.Z.setCell sD _).setCell sD _).setCell sD _⟩
theorem Jw (s l a:Int) (w:World) (h1:1<=a) (h2:a<=64) (h3:l<=9223372036854775807):
 Calls prog 182 #[s,l,a] w fun e w'=>e= .returned (.bool (decide (1<=l/\0<=s/\s<=a - l)))/\w=w':=by
 by_cases c:1<=l
 . go_in
   go_wp2
   all_goals (go_ret;exact ⟨zX (by first | (simp [*];done) | (simp [*];omega) | (simp;intros;omega)),rfl⟩)
 go_in
 go_wp2
 all_goals (go_ret;exact ⟨zX (by first | (simp [*];done) | (simp [*];omega) | (simp;intros;omega)),rfl⟩)
theorem vv (s l a:Int) (w:World) (h1:1<=a) (h2:a<=64) (h3:1<=l) (h4:0<=s) (b:s<=a - l):
 Calls prog 182 #[s,l,a] w fun e w'=>e= .returned (.bool true)/\w=w':=
 (Jw s l a w h1 h2 om).mono fun e w' ⟨he,hw⟩=>⟨by rw [he];exact zX (by simp [h3,h4,b]),hw⟩
theorem uN (s l a:Int) (w:World) (h1:1<=a) (h2:a<=64) (h3:l<=9223372036854775807) (h4: ¬(1<=l/\0<=s/\s<=a - l)):
 Calls prog 182 #[s,l,a] w fun e w'=>e= .returned (.bool false)/\w=w':=
 (Jw s l a w h1 h2 h3).mono fun e w' ⟨he,hw⟩=>⟨by rw [he];exact zX (by simpa using h4),hw⟩
theorem uG (h:yM W H=true):((W*H).toNat:Int)=W*H/\(W*H).toNat<=1024/\1<=(W*H).toNat:=by
 obtain ⟨_,_,_,_,b,a⟩:=yF h;omega
theorem jw (W H:Int) (n:Nat) (w:World) (i:yM W H=true) (hn:(n:Int)=W*H):
 Calls prog 141 #[W,H] w fun e w'=> ∃g,e= .returned (.agg #[W,H, .slice (some ⟨g,0,none⟩) n n])/\w.heap.size<=g/\Own w' g n n (List.replicate n 0)/\Below w w w':=by
 obtain ⟨b1,b2,b3,l,m,j⟩:=yF i;have b:=Jh hn;have c:n<=1024:=om;clear hn;go_in;go_wp2_with (at_make;refine jU _ rfl _ _ rfl .i64 .i64 (W*H) (W*H) n rfl rfl b.Z.symm b.Z.symm om ?_;intro M a);have f:=Jh a;clear a;refine bodyPost_ret (v:= .agg #[W,H, .slice ↑(w.heap.size+1) n n]) (Jr results141) rfl ⟨w.heap.size+1,rfl,om,?_,?_⟩;exact f.Z.own' _ sI;exact nV
theorem jZ (W H:Int) (n:Nat) (w:World) (i:yM W H=true) (hn:(n:Int)=W*H):
 Calls prog 81 #[W,H] w fun e w'=> ∃g,e= .returned (.agg #[W,H, .slice (some ⟨g,0,none⟩) n n])/\w.heap.size<=g/\Own w' g n n (List.replicate n 0)/\Below w w w':=by
 obtain ⟨b1,b2,b3,l,m,j⟩:=yF i;have b:=Jh hn;have c:n<=1024:=om;clear hn;go_in;go_wp2_with (at_make;refine jU _ rfl _ _ rfl .i64 .i64 (W*H) (W*H) n rfl rfl b.Z.symm b.Z.symm om ?_;intro M a);have f:=Jh a;clear a;refine bodyPost_ret (v:= .agg #[W,H, .slice ↑(w.heap.size+1) n n]) (Jr results81) rfl ⟨w.heap.size+1,rfl,om,?_,?_⟩;exact f.Z.own' _ sI;exact nV
theorem zEl (h: ¬(yM W H=true/\0<=v/\v<=255)):xH W H v=(yb,false):=by unfold xH;rw [if_neg h]
theorem zCq (h:yM W H=true) (h2:0<=v) (h3:v<=255) (hn:(n:Int)=W*H):xH W H v=(⟨W,H,List.replicate n v⟩,true):=by
 unfold xH;rw [if_pos ⟨h,h2,h3⟩,<-hn];simp
theorem qh (W H v:Int) (w:World):Calls prog 82 #[W,H,v] w (wZ w (xH W H v)):=by
 by_cases hc:yM W H=true/\0<=v/\v<=255
 case neg=>
  rw [zEl hc];by_cases a:yM W H=true
  . go_in
    go_wp2_with (go_at_call 111;refine (vD _ _ _).mono ?_;rintro e w' ⟨rfl,rfl⟩)
    all_goals first | (exfalso;exact hc ⟨a,om,om⟩) | skip
    all_goals (
     skip
     exact bodyPost_ret (v:= .tuple #[.agg ↑Zp, .bool false]) (Jr results82) rfl ⟨none,0,0,rfl,oN,om,nJ⟩
     )
  have x:yM W H=false:=by simpa using a
  clear a hc;go_in;go_wp2_with (go_at_call 111;refine (vD _ _ _).mono ?_;rintro e w' ⟨rfl,rfl⟩);exact bodyPost_ret (v:= .tuple #[.agg ↑Zp, .bool false]) (Jr results82) rfl ⟨none,0,0,rfl,oN,om,nJ⟩
 obtain ⟨a,F,v2⟩:=hc;obtain ⟨n,m⟩: ∃n:Nat,(n:Int)=W*H:=⟨_,(uG a).1⟩
 obtain ⟨b1,b2,b3,N,O,M⟩:=yF a;have B:1<=n:=om;have C:n<=1024:=om;rw [zCq a F v2 m];have D:=Jh m;clear m;go_in;go_wp2_with (go_at_call 111;refine (vD _ _ _).mono ?_;rintro e w' ⟨rfl,rfl⟩);refine (jw W H n _ a D.Z).mono ?_;rintro e w2 ⟨g,rfl,hg,b,hb⟩;have c:=Jh (nJ.trans (hb.mono sI));have j:=Jh ((Blk.new w 31 ↑Zp).zA hb);have t:=Jh b;have f:Hd (w.heap.size+1<=g):=Jh (by simpa using hg);clear hb b hg;go_wp2_with fail
 go_loopw [29] (fun i wr=> ∃k:Nat,k<=n/\i=↑k/\Own wr g n n (zn (List.replicate n v) (List.replicate n 0) k)/\(w2.alloc (.cells #[W,H, .slice ↑g n n] 31)).grownBy wr (some g)) (fun i _=>n - (intOf i).toNat)
 case atStart=>exact ⟨0,nZ,rfl,by rw [yh];exact t.Z.alloc _,yR _ _⟩
 obtain ⟨k,hk,rfl,b,hg⟩:=hrel;have s:=Jh ((c.Z.alloc c.Z.size _).grown hg (oS c.Z.size) (by intro k hk;cases hk;have:=f.Z;omega));have y:=Jh ((Blk.new w2 31 #[W,H, .slice ↑g n n]).grown hg (oS t.Z.lt));obtain ⟨J,Q,I,R⟩:=y.Z.c3;by_cases l:k<n
 . have g2:wr.cell? (g,k)=some ↑((zn (List.replicate n v) (List.replicate n 0) k).getD k 0):=b.cell l
   have g3:wr.frozen? (g,k)=false:=b.frozen k;have a:=b.set k (v);rw [yd (List.replicate n v) _ k _ sO sO (by simp [List.getD,l])] at a;have o:=Jh a;clear a b;go_wp2_with fail;go_roundw
   case rel=>exact ⟨k+1,om,by go_num,by simpa using o.Z,yO hg _⟩
   exact Jm
 obtain rfl:n=k:=om;have u:=Jh ((j.Z.alloc _).grown hg (oT f.Z j.Z.lt));obtain ⟨G,z,A,E⟩:=u.Z.c3;obtain ⟨P,T,L⟩:=u.Z.f3;rw [xY (List.replicate n v) _ n sI sI] at b;have q:=Jh b;clear b;go_wp2_with fail
 exact bodyPost_ret (v:= .tuple #[.agg #[W,H, .slice ↑g n n], .bool true]) (by simp [results,results82,go_sem,z,A,E]) rfl
  ⟨_,_,_,rfl,OwnA.mk (((q.Z.other (oS f.Z) _).other (oS f.Z) _).other (oS f.Z) _) (oh f),om,
   ((s.Z.setCell sD _).setCell sD _).setCell sD _⟩
theorem zz (x a b:Int) (w:World) (h1:a<=x) (h2:x<=b):
 Calls prog 57 #[x,a,b] w fun e w'=>e= .returned (.bool true)/\w=w':=
 (uy x a b w).mono fun e w' ⟨he,hw⟩=>⟨by rw [he];exact zX (by simp [h1,h2]),hw⟩
theorem yx (x a b:Int) (w:World) (h: ¬(a<=x/\x<=b)):
 Calls prog 57 #[x,a,b] w fun e w'=>e= .returned (.bool false)/\w=w':=
 (uy x a b w).mono fun e w' ⟨he,hw⟩=>⟨by rw [he];exact zX (by simpa using h),hw⟩
theorem jH (W H:Int) (w:World) (h:yM W H=true):
 Calls prog 101 #[W,H] w fun e w'=>e= .returned (.bool true)/\w=w':=
 (qU W H w).mono fun e w' ⟨he,hw⟩=>⟨by rw [he,h],hw⟩
theorem ZF (W H:Int) (w:World) (h: ¬yM W H=true):
 Calls prog 101 #[W,H] w fun e w'=>e= .returned (.bool false)/\w=w':=
 (qU W H w).mono fun e w' ⟨he,hw⟩=>⟨by rw [he];exact zX (by simpa using h),hw⟩
theorem jd (W H:Int) (w:World) (h:yM W H=true):
 Calls prog 111 #[W,H] w fun e w'=>e= .returned (.bool true)/\w=w':=
 (vD W H w).mono fun e w' ⟨he,hw⟩=>⟨by rw [he,h],hw⟩
theorem Kb (W H:Int) (w:World) (h: ¬yM W H=true):
 Calls prog 111 #[W,H] w fun e w'=>e= .returned (.bool false)/\w=w':=
 (vD W H w).mono fun e w' ⟨he,hw⟩=>⟨by rw [he];exact zX (by simpa using h),hw⟩
theorem YZ (W H v:Int) (w:World):Calls prog 58 #[W,H,v] w (wZ w (xH W H v)):=by
 by_cases hc:yM W H=true/\0<=v/\v<=255
 case neg=>
  rw [zEl hc];by_cases a:yM W H=true
  . have q: ¬(0<=v/\v<=255):=fun h=>hc ⟨a,h⟩
    clear hc;go_in;go_wp2_with (go_at_call 101;refine (jH _ _ _ a).mono ?_;rintro e w' ⟨rfl,rfl⟩);refine (yx _ _ _ _ q).mono ?_;rintro e w' ⟨rfl,rfl⟩;go_wp2_with fail;exact bodyPost_ret (v:= .tuple #[.agg ↑Zp, .bool false]) (Jr results58) rfl ⟨none,0,0,rfl,oN,om,nJ⟩
  clear hc;go_in;go_wp2_with (go_at_call 101;refine (ZF _ _ _ a).mono ?_;rintro e w' ⟨rfl,rfl⟩);exact bodyPost_ret (v:= .tuple #[.agg ↑Zp, .bool false]) (Jr results58) rfl ⟨none,0,0,rfl,oN,om,nJ⟩
 obtain ⟨a,y,v2⟩:=hc;obtain ⟨n,m⟩: ∃n:Nat,(n:Int)=W*H:=⟨_,(uG a).1⟩
 obtain ⟨b1,b2,b3,N,O,M⟩:=yF a;have C:1<=n:=om;have D:n<=1024:=om;rw [zCq a y v2 m];have E:=Jh m;clear m;go_in;go_wp2_with (go_at_call 101;refine (jH _ _ _ a).mono ?_;rintro e w' ⟨rfl,rfl⟩);refine (zz _ _ _ _ y v2).mono ?_;rintro e w' ⟨rfl,rfl⟩;go_wp2_with fail;refine (jZ W H n _ a E.Z).mono ?_;rintro e w2 ⟨g,rfl,hg,b,hb⟩;have c:=Jh (nJ.trans (hb.mono sI));have j:=Jh ((Blk.new w 31 ↑Zp).zA hb);have u:=Jh b;have f:Hd (w.heap.size+1<=g):=Jh (by simpa using hg);clear hb b hg;go_wp2_with fail
 go_loopw [26] (fun i wr=> ∃k:Nat,k<=n/\i=↑k/\Own wr g n n (zn (List.replicate n v) (List.replicate n 0) k)/\(w2.alloc (.cells #[W,H, .slice ↑g n n] 31)).grownBy wr (some g)) (fun i _=>n - (intOf i).toNat)
 case atStart=>exact ⟨0,nZ,rfl,by rw [yh];exact u.Z.alloc _,yR _ _⟩
 obtain ⟨k,hk,rfl,b,hg⟩:=hrel;have t:=Jh ((c.Z.alloc c.Z.size _).grown hg (oS c.Z.size) (by intro k hk;cases hk;have:=f.Z;omega));have z:=Jh ((Blk.new w2 31 #[W,H, .slice ↑g n n]).grown hg (oS u.Z.lt));obtain ⟨J,Q,I,R⟩:=z.Z.c3;by_cases l:k<n
 . have g2:wr.cell? (g,k)=some ↑((zn (List.replicate n v) (List.replicate n 0) k).getD k 0):=b.cell l
   have g3:wr.frozen? (g,k)=false:=b.frozen k;have a:=b.set k (v);rw [yd (List.replicate n v) _ k _ sO sO (by simp [List.getD,l])] at a;have o:=Jh a;clear a b;go_wp2_with fail;go_roundw
   case rel=>exact ⟨k+1,om,by go_num,by simpa using o.Z,yO hg _⟩
   exact Jm
 obtain rfl:n=k:=om;have x:=Jh ((j.Z.alloc _).grown hg (oT f.Z j.Z.lt));obtain ⟨G,A,B,F⟩:=x.Z.c3;obtain ⟨P,T,L⟩:=x.Z.f3;rw [xY (List.replicate n v) _ n sI sI] at b;have s:=Jh b;clear b;go_wp2_with fail
 exact bodyPost_ret (v:= .tuple #[.agg #[W,H, .slice ↑g n n], .bool true]) (by simp [results,results58,go_sem,A,B,F]) rfl
  ⟨_,_,_,rfl,OwnA.mk (((s.Z.other (oS f.Z) _).other (oS f.Z) _).other (oS f.Z) _) (oh f),om,
   ((t.Z.setCell sD _).setCell sD _).setCell sD _⟩
theorem zAC (h: ¬yM W H=true):xP W H=(yb,false):=by unfold xP;rw [if_neg h]
theorem zNM (n:Nat) (f:Nat->Int) (h: ∀k,f k=0):gen n f=List.replicate n 0:=by
 symm;exact xk n f _ sI (fun k hk=>by rw [h k];simp [List.getD,hk])
def jy (W:Int) (i:Nat):Int:=if 1<W then (i:Int) % W*255/(W - 1) else 0
theorem Vy (h:yM W H=true) (hn:(n:Int)=W*H):xP W H=(⟨W,H,gen n (jy W)⟩,true):=by
 unfold xP;rw [if_pos h,<-hn];simp;rfl
theorem zPH (h:1<W):(k:Int) % W*255/(W - 1)=jy W k:=by unfold jy;rw [if_pos h]
theorem zPG (h: ¬1<W):jy W k=0:=by unfold jy;rw [if_neg h]
theorem YS (W H:Int) (w:World):Calls prog 134 #[W,H] w (wZ w (xP W H)):=by
 by_cases b:yM W H=true
 case neg=>
  rw [zAC b];go_in;go_wp2_with (go_at_call 111;refine (Kb _ _ _ b).mono ?_;rintro e w' ⟨rfl,rfl⟩);exact bodyPost_ret (v:= .tuple #[.agg ↑Zp, .bool false]) (Jr results134) rfl ⟨none,0,0,rfl,oN,om,nJ⟩
 obtain ⟨n,y⟩: ∃n:Nat,(n:Int)=W*H:=⟨_,(uG b).1⟩
 obtain ⟨b1,b2,b3,T,U,R⟩:=yF b;have L:1<=n:=om;have M:n<=1024:=om;rw [Vy b y];have B:=Jh y;clear y;by_cases E:1<W
 . go_in
   go_wp2_with (go_at_call 111;refine (jd _ _ _ b).mono ?_;rintro e w' ⟨rfl,rfl⟩);refine (jw W H n _ b B.Z).mono ?_;rintro e w2 ⟨g,rfl,hg,a,hb⟩;have j:=Jh (nJ.trans (hb.mono sI));have m:=Jh ((Blk.new w 31 ↑Zp).zA hb);have s:=Jh a;have l:Hd (w.heap.size+1<=g):=Jh (by simpa using hg);clear hb a hg;go_wp2_with fail
   go_loopw [23] (fun i wr=> ∃k:Nat,k<=n/\i=↑k/\Own wr g n n (zn (gen n (jy W)) (List.replicate n 0) k)/\(w2.alloc (.cells #[W,H, .slice ↑g n n] 31)).grownBy wr (some g)) (fun i _=>n - (intOf i).toNat)
   case atStart=>exact ⟨0,nZ,rfl,by rw [yh];exact s.Z.alloc _,yR _ _⟩
   obtain ⟨k,hk,rfl,a,hg⟩:=hrel;have q:=Jh ((j.Z.alloc j.Z.size _).grown hg (oS j.Z.size) (by intro k hk;cases hk;have:=l.Z;omega));have u:=Jh ((Blk.new w2 31 #[W,H, .slice ↑g n n]).grown hg (oS s.Z.lt));obtain ⟨G,O,D,P⟩:=u.Z.c3;by_cases f:k<n
   . have J:0<=(k:Int) % W:=Yg _ om
     have F:(k:Int) % W<W:=Ye _ om;have g2:wr.cell? (g,k)=some ↑((zn (gen n (jy W)) (List.replicate n 0) k).getD k 0):=a.cell f;have g3:wr.frozen? (g,k)=false:=a.frozen k;have b:=a.set k ((k:Int) % W*255/(W - 1));rw [yd (gen n (jy W)) _ k _ (by rw [zZ];exact f) sO (by rw [yN _ _ _ f,zPH E])] at b;have c:=Jh b;clear b a;go_wp2_with fail
     go_region
     go_wp2_with fail;go_roundw
     case rel=>exact ⟨k+1,om,by go_num,(by first | exact c.Z.drewN 1 | exact c.Z.drewN _ | (have h:=c.Z;simp at h;exact h.drewN 1)),(by first | exact xc (yO hg _) 1 | exact xc (yO hg _) _)⟩
     exact Jm
   obtain rfl:n=k:=om;have t:=Jh ((m.Z.alloc _).grown hg (oT l.Z m.Z.lt));obtain ⟨C,x,z,A⟩:=t.Z.c3;obtain ⟨N,Q,I⟩:=t.Z.f3;rw [xY (gen n (jy W)) _ n (by rw [zZ]) sI] at a;have o:=Jh a;clear a;go_wp2_with fail
   exact bodyPost_ret (v:= .tuple #[.agg #[W,H, .slice ↑g n n], .bool true]) (by simp [results,results134,go_sem,x,z,A]) rfl
    ⟨_,_,_,rfl,OwnA.mk (((o.Z.other (oS l.Z) _).other (oS l.Z) _).other (oS l.Z) _) (oh l),om,
     ((q.Z.setCell sD _).setCell sD _).setCell sD _⟩
 obtain rfl:W=1:=om;go_in;go_wp2_with (go_at_call 111;refine (jd _ _ _ b).mono ?_;rintro e w' ⟨rfl,rfl⟩);refine (jw 1 H n _ b B.Z).mono ?_;rintro e w2 ⟨g,rfl,hg,a,hb⟩;have j:=Jh (nJ.trans (hb.mono sI));have m:=Jh ((Blk.new w 31 ↑Zp).zA hb);have s:=Jh a;have l:Hd (w.heap.size+1<=g):=Jh (by simpa using hg);clear hb a hg;go_wp2_with fail
 go_loopw [23] (fun i wr=> ∃k:Nat,k<=n/\i=↑k/\Own wr g n n (zn (gen n (jy 1)) (List.replicate n 0) k)/\(w2.alloc (.cells #[Z1,H, .slice ↑g n n] 31)).grownBy wr (some g)) (fun i _=>n - (intOf i).toNat)
 case atStart=>exact ⟨0,nZ,rfl,by rw [yh];exact s.Z.alloc _,yR _ _⟩
 obtain ⟨k,hk,rfl,a,hg⟩:=hrel;have q:=Jh ((j.Z.alloc j.Z.size _).grown hg (oS j.Z.size) (by intro k hk;cases hk;have:=l.Z;omega));have u:=Jh ((Blk.new w2 31 #[Z1,H, .slice ↑g n n]).grown hg (oS s.Z.lt));obtain ⟨G,O,D,P⟩:=u.Z.c3;by_cases f:k<n
 . have J:0<=(k:Int) % 1:=Yg _ om
   have F:(k:Int) % 1<1:=Ye _ om;have g2:wr.cell? (g,k)=some ↑((zn (gen n (jy 1)) (List.replicate n 0) k).getD k 0):=a.cell f;have g3:wr.frozen? (g,k)=false:=a.frozen k;have b:=a.set k (0);rw [yd (gen n (jy 1)) _ k _ (by rw [zZ];exact f) sO (by rw [yN _ _ _ f,zPG om])] at b;have c:=Jh b;clear b a;go_wp2_with fail
   go_region
   go_wp2_with fail;go_roundw
   case rel=>exact ⟨k+1,om,by go_num,(by first | exact c.Z.drewN 1 | exact c.Z.drewN _ | (have h:=c.Z;simp at h;exact h.drewN 1)),(by first | exact xc (yO hg _) 1 | exact xc (yO hg _) _)⟩
   exact Jm
 obtain rfl:n=k:=om;have t:=Jh ((m.Z.alloc _).grown hg (oT l.Z m.Z.lt));obtain ⟨C,x,z,A⟩:=t.Z.c3;obtain ⟨N,Q,I⟩:=t.Z.f3;rw [xY (gen n (jy 1)) _ n (by rw [zZ]) sI] at a;have o:=Jh a;clear a;go_wp2_with fail
 exact bodyPost_ret (v:= .tuple #[.agg #[Z1,H, .slice ↑g n n], .bool true]) (by simp [results,results134,go_sem,x,z,A]) rfl
  ⟨_,_,_,rfl,OwnA.mk (((o.Z.other (oS l.Z) _).other (oS l.Z) _).other (oS l.Z) _) (oh l),om,
   ((q.Z.setCell sD _).setCell sD _).setCell sD _⟩
theorem XB (W H:Int) (w:World):Calls prog 60 #[W,H] w (wZ w (xP W H)):=by
 by_cases f:yM W H=true
 case neg=>
  rw [zAC f];go_in;go_wp2_with (go_at_call 101;refine (ZF _ _ _ f).mono ?_;rintro e w' ⟨rfl,rfl⟩);exact bodyPost_ret (v:= .tuple #[.agg ↑Zp, .bool false]) (Jr results60) rfl ⟨none,0,0,rfl,oN,om,nJ⟩
 obtain ⟨n,z⟩: ∃n:Nat,(n:Int)=W*H:=⟨_,(uG f).1⟩
 obtain ⟨b1,b2,b3,U,V,T⟩:=yF f;have J:1<=n:=om;have L:n<=1024:=om;rw [Vy f z];have C:=Jh z;clear z;by_cases F:1<W
 . go_in
   go_wp2_with (go_at_call 101;refine (jH _ _ _ f).mono ?_;rintro e w' ⟨rfl,rfl⟩);refine (jZ W H n _ f C.Z).mono ?_;rintro e w2 ⟨g,rfl,hg,a,hb⟩;have b:=Jh (nJ.trans (hb.mono sI));have j:=Jh ((Blk.new w 31 ↑Zp).zA hb);have s:=Jh a;have c:Hd (w.heap.size+1<=g):=Jh (by simpa using hg);clear hb a hg;go_wp2_with fail
   go_loopw [19] (fun i wr=> ∃k:Nat,k<=n/\i=↑k/\Own wr g n n (zn (gen n (jy W)) (List.replicate n 0) k)/\(w2.alloc (.cells #[W,H, .slice ↑g n n] 31)).grownBy wr (some g)) (fun i _=>n - (intOf i).toNat)
   case atStart=>exact ⟨0,nZ,rfl,by rw [yh];exact s.Z.alloc _,yR _ _⟩
   obtain ⟨k,hk,rfl,a,hg⟩:=hrel;have q:=Jh ((b.Z.alloc b.Z.size _).grown hg (oS b.Z.size) (by intro k hk;cases hk;have:=c.Z;omega));have x:=Jh ((Blk.new w2 31 #[W,H, .slice ↑g n n]).grown hg (oS s.Z.lt));obtain ⟨G,N,E,O⟩:=x.Z.c3;by_cases l:k<n
   . have R:0<=(k:Int) % W:=Yg _ om
     have Q:(k:Int) % W<W:=Ye _ om;have g2:wr.cell? (g,k)=some ↑((zn (gen n (jy W)) (List.replicate n 0) k).getD k 0):=a.cell l;have g3:wr.frozen? (g,k)=false:=a.frozen k;have f:=a.set k ((k:Int) % W*255/(W - 1));rw [yd (gen n (jy W)) _ k _ (by rw [zZ];exact l) sO (by rw [yN _ _ _ l,zPH F])] at f;have m:=Jh f;clear f a;go_wp2_with fail
     go_region
     go_wp2_with fail;go_roundw
     case rel=>exact ⟨k+1,om,by go_num,(by first | exact m.Z.drewN 1 | exact m.Z.drewN _ | (have h:=m.Z;simp at h;exact h.drewN 1)),(by first | exact xc (yO hg _) 1 | exact xc (yO hg _) _)⟩
     exact Jm
   obtain rfl:n=k:=om;have t:=Jh ((j.Z.alloc _).grown hg (oT c.Z j.Z.lt));obtain ⟨D,y,A,B⟩:=t.Z.c3;obtain ⟨M,P,I⟩:=t.Z.f3;rw [xY (gen n (jy W)) _ n (by rw [zZ]) sI] at a;have o:=Jh a;clear a;go_wp2_with fail
   exact bodyPost_ret (v:= .tuple #[.agg #[W,H, .slice ↑g n n], .bool true]) (by simp [results,results60,go_sem,y,A,B]) rfl
    ⟨_,_,_,rfl,OwnA.mk (((o.Z.other (oS c.Z) _).other (oS c.Z) _).other (oS c.Z) _) (oh c),om,
     ((q.Z.setCell sD _).setCell sD _).setCell sD _⟩
 obtain rfl:W=1:=om;rw [zNM n (jy 1) (fun k=>zPG om)];go_in;go_wp2_with (go_at_call 101;refine (jH _ _ _ f).mono ?_;rintro e w' ⟨rfl,rfl⟩);refine (jZ 1 H n _ f C.Z).mono ?_;rintro e w2 ⟨g,rfl,hg,a,hb⟩;have b:=Jh (nJ.trans (hb.mono sI));have j:=Jh ((Blk.new w 31 ↑Zp).zA hb);have s:=Jh a;have c:Hd (w.heap.size+1<=g):=Jh (by simpa using hg);clear hb a hg;go_wp2_with fail
 go_loopw [19] (fun i wr=> ∃k:Nat,k<=n/\i=↑k/\Own wr g n n (zn (List.replicate n 0) (List.replicate n 0) k)/\(w2.alloc (.cells #[Z1,H, .slice ↑g n n] 31)).grownBy wr (some g)) (fun i _=>n - (intOf i).toNat)
 case atStart=>exact ⟨0,nZ,rfl,by rw [yh];exact s.Z.alloc _,yR _ _⟩
 obtain ⟨k,hk,rfl,a,hg⟩:=hrel;have q:=Jh ((b.Z.alloc b.Z.size _).grown hg (oS b.Z.size) (by intro k hk;cases hk;have:=c.Z;omega));have x:=Jh ((Blk.new w2 31 #[Z1,H, .slice ↑g n n]).grown hg (oS s.Z.lt));obtain ⟨G,N,E,O⟩:=x.Z.c3;by_cases l:k<n
 . have u:Hd (Own wr g n n (zn (List.replicate n 0) (List.replicate n 0) (k+1))):=Jh (by rw [zGW] at a⊢;exact a)
   clear a;go_wp2_with fail;go_roundw
   case rel=>exact ⟨k+1,om,by go_num,u.Z,hg⟩
   exact Jm
 obtain rfl:n=k:=om;have t:=Jh ((j.Z.alloc _).grown hg (oT c.Z j.Z.lt));obtain ⟨D,y,A,B⟩:=t.Z.c3;obtain ⟨M,P,I⟩:=t.Z.f3;rw [xY (List.replicate n 0) _ n sI sI] at a;have o:=Jh a;clear a;go_wp2_with fail
 exact bodyPost_ret (v:= .tuple #[.agg #[Z1,H, .slice ↑g n n], .bool true]) (by simp [results,results60,go_sem,y,A,B]) rfl
  ⟨_,_,_,rfl,OwnA.mk (((o.Z.other (oS c.Z) _).other (oS c.Z) _).other (oS c.Z) _) (oh c),om,
   ((q.Z.setCell sD _).setCell sD _).setCell sD _⟩
theorem Uy (a xs:List Int) (k:Nat) (hk:k<a.length) (b:k<xs.length) (hv:a.getD k 0=xs.getD k 0):zn a xs k=zn a xs (k+1):=by
 rw [<-yd a xs k _ hk b rfl,hv];apply List.ext_getElem?;intro i;rw [List.getElem?_set];by_cases h:k=i
 subst h
 have e:(zn a xs k)[k]? =some (xs.getD k 0):=by
  simp only [zn];rw [List.getElem?_append_right sO,List.getElem?_drop];simp only [Yj];rw [Nat.min_eq_left om,Nat.sub_self,Yy];simp [List.getD,b]
 have c:k<(zn a xs k).length:=(List.getElem?_eq_some_iff.1 e).1;rw [if_pos rfl,if_pos c,e];rw [if_neg h]
end Go.Proofs.YtlenfgdjdianiaaGreatDoor
