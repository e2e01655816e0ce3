/- Facts on which this claim rests, 27. -/
import Derived.Test.YtlenfgdjdianiaaGreatDoorF26
set_option linter.all false
set_option maxHeartbeats 6400000
namespace Go.Proofs.YtlenfgdjdianiaaGreatDoor
open Go.RowKit Tq Go.Proofs.Tryz
variable {A B a b g q v x : Int} {N i j k n : Nat} {c f : Nat → Int} {xs : List Int}
theorem VG (h:uP A B=false) (w:World):
 Calls prog 63 #[.agg #[A,B]] w (kP w (vQ,false)):=by
 have o:=Jh h;clear h;go_in;go_wp2_with fail;refine (qI _ _ _).mono ?_;rw [o.Z];rintro e w1 ⟨rfl,hb⟩;have m:=Jh (zI nV hb);have l:=Jh ((Blk.zD (g:=w.heap.size+1) (w:=w.alloc (.cells #[A,B] 96)) 32 ↑Zp sI).zA hb);clear hb;obtain ⟨D,s,t,u⟩:=l.Z.c3;obtain ⟨y,z,C⟩:=l.Z.f3;go_wp2_with fail
 exact bodyPost_ret (v:= .tuple #[.agg ↑Zp, .bool false]) (by simp [results,results63,go_sem,s,t,u]) rfl ⟨none,0,0,rfl,oN,om,
  ((m.Z.setCell sD _).setCell sD _).setCell sD _⟩
theorem VH {d:Int} {p:Int} (L:Lat A B (N:Int) g d a b p q) (y: ¬yi d d=true) (w:World):
 Calls prog 63 #[.agg #[A,B]] w (kP w (vQ,false)):=by
 have u:=Jh L;have C:=Jh y;clear L y;go_in;go_wp2_with fail;refine (qI _ _ _).mono ?_;rw [qR u.Z];rintro e w1 ⟨rfl,hb⟩;have m:=Jh (zI nV hb);have s:=Jh (((Blk.new w 96 #[A,B]).alloc (.cells ↑Zp 32)).zA hb);have t:=Jh ((Blk.zD (g:=w.heap.size+1) (w:=w.alloc (.cells #[A,B] 96)) 32 ↑Zp sI).zA hb);obtain ⟨z,c0,c1⟩:=s.Z.c2;clear hb;go_wp2_with fail;refine (wO u.Z _).mono ?_;rintro e w2 ⟨rfl,hb⟩;have o:=Jh (zI m.Z hb);have l:=Jh (t.Z.zA hb);clear hb z c0 c1;go_wp2_with fail;refine (XZ _ _ _ C.Z).mono ?_;rintro e w2 ⟨rfl,rfl⟩;obtain ⟨J,D,E,F⟩:=l.Z.c3;obtain ⟨G,H,I⟩:=l.Z.f3;go_wp2_with fail
 exact bodyPost_ret (v:= .tuple #[.agg ↑Zp, .bool false]) (by simp [results,results63,go_sem,D,E,F]) rfl ⟨none,0,0,rfl,oN,om,
  ((o.Z.setCell sD _).setCell sD _).setCell sD _⟩
set_option maxRecDepth 100000 in
theorem zLY (l:Option Addr) (m:Nat) (w:World):
 Calls prog 77 #[.string ⟨#[115,104,105,102,116]⟩, .slice l 2 m] w fun e w'=>e= .returned (.tuple #[.iface 137 (.func (.func 139) #[] #[.pointer ↑w]), .bool true])/\w'=w.alloc (.cells #[.slice l 2 m] 22):=by
 go_in;go_wp2_with fail;go_ret2;exact ⟨rfl,rfl⟩
set_option maxRecDepth 100000 in
theorem zLX (m:Option Addr) (t:Nat) (x:Int) (w:World) (hr:Rd w m [x]):
 Calls prog 77 #[.string ⟨#[108,101,118,101,108]⟩, .slice m 1 t] w fun e w'=>e= .returned (.tuple #[.iface 154 ↑x, .bool true])/\w'=w.alloc (.cells #[.slice m 1 t] 22):=by
 have o:=Jh (zJ (Below.refl w w) (.cells #[.slice m 1 t] 22));obtain ⟨b,off,s,u,l⟩:=(hr.below o.Z).at sI;subst s;have y:=l 0 sI;rw [show [x].getD 0 0=x from rfl,Yy] at y;clear hr l;go_in;go_wp2_with fail;go_ret2;exact ⟨rfl,rfl⟩
set_option maxRecDepth 100000 in
theorem zNn (F:Mat × Bool) (D:Option Addr) (t:Nat) (x y:Int) (w:World) (hr:Rd w D [x,y]) (L: ∀w,Calls prog 137 #[.agg #[x,y]] w (kP w F)):
 Calls prog 77 #[.string ⟨#[115,112,111,116]⟩, .slice D 2 t] w (uH w F.1):=by
 obtain ⟨w0,l⟩:=zN (w.alloc (.cells #[.slice D 2 t] 22));have m:Hd (Below w.heap.size w w0):=Jh (by rw [l];exact zJ (Below.refl w.heap.size w) (.cells #[.slice D 2 t] 22));have P:=Jh L;obtain ⟨b,off,E,z,s⟩:=(hr.below m.Z).at sI;subst E;have M:=s 0 sI;have O:=s 1 sI;rw [show [x,y].getD 0 0=x from rfl,Yy] at M;rw [show [x,y].getD 1 0=y from rfl] at O;have R:w0.cell? ⟨w.heap.size,0,none⟩=some (.slice (some ↑(b,off)) 2 t):=by rw [l];exact (Blk.new w 22 #[.slice (some ↑(b,off)) 2 t]).cell 0
 have Q:w.heap.size<w0.heap.size:=by rw [l];simp
 clear hr s L;go_in;go_wp2_with fail;rw [<-l];clear l;have C:Hd (∀v,BelowL w0 v->v.cell? ⟨w.heap.size,0,none⟩=some (.slice (some ↑(b,off)) 2 t)/\Jc v (b,off) x/\Jc v (b,off+1) y/\BelowL w0 v):=Jh (fun v h=>⟨(h.Z.cell Q).trans R,(h.Z.cell z).trans M,(h.Z.cell z).trans O,h⟩)
 go_region_held3 C
  (first | exact C.Z _ u | exact C.Z _ o | exact C.Z _ lS)
  (first
   | (go_at_call 137;((with_reducible refine (P.Z _).mono ?_);rintro e T ⟨a1,n1,k1,rfl,I,G,J⟩;have o:=BelowL.call (wK aS) J))
   | (go_at_call 135;((with_reducible refine (vu _ _ a1 n1 k1 _ _).mono ?_);rintro e v2 ⟨rfl,rfl⟩;have u:=BelowL.alloc o (.cells #[F.1.W,F.1.H, .slice a1 n1 k1] 32))))
 go_wp2_with fail;go_ret2;exact ⟨T.heap.size,a1,n1,k1,rfl,Blk.new _ _ _,OwnA.mono (I.alloc _) (by have:=o.le;have:=m.Z.size;(try simp at*);omega),G,zI m.Z u.Z⟩
theorem zFh (h:i<xs.length/\xs.getD i 0=v):xs.set i v=xs:=by
 apply List.ext_getElem?;intro k;rw [List.getElem?_set];by_cases e:i=k
 subst e;rw [if_pos rfl,if_pos h.1,Ya h.1];have h2:=h.2;simp only [List.getD,Ya h.1,Yz] at h2;rw [h2];rw [if_neg e]
theorem Ux (e:List Int) (n k:Nat) (h:k<n) (l:e.length=n):k<(zn e (List.replicate n 0) k).length/\(zn e (List.replicate n 0) k).getD k 0=0:=by
 have hl:(e.take k).length=k:=by rw [Yj];omega
 unfold zn;refine ⟨sO,?_⟩;rw [List.getD,List.getElem?_append_right om,hl,Nat.sub_self,List.getElem?_drop];simp [h]
theorem Kj (W H e:Int) (w:World):
 Calls prog 108 #[W,H,e] w (wZ w (yE W H e)):=by
 by_cases l:yM W H=true
 case neg=>
  have E:yE W H e=(yb,false):=by unfold yE;rw [if_neg (fun h=>l h.1)]
  rw [E];have u:=Jh l;clear l E;go_in;go_wp2_with fail;refine (ZF _ _ _ u.Z).mono ?_;rintro F w1 ⟨rfl,rfl⟩;have o:=Jh (Blk.new w 31 ↑Zp);have m:=Jh (Joins.below_alloc1 w (.cells ↑Zp 31));obtain ⟨I,J,L,r3⟩:=o.Z.c3;obtain ⟨q0,q1,q2⟩:=o.Z.f3;go_wp2_with fail
  exact bodyPost_ret (v:= .tuple #[.agg ↑Zp, .bool false]) (Jr results108) rfl ⟨none,0,0,rfl,oN,om,
   by first | exact m.Z | exact ((m.Z.setCell sD _).setCell sD _).setCell sD _⟩
 obtain ⟨b1,b2,b3,b4,U,V⟩:=yF l;obtain ⟨n,hn⟩: ∃n:Nat,(n:Int)=W*H:=⟨(W*H).toNat,om⟩
 have u1:IntKind.i64.wrap (W*H)=(n:Int):=by rw [hn];exact Yc _ om
 have b7:1<=n:=om;have HQ:=Jh hn;by_cases hm:n<=256
 case neg=>
  have E:yE W H e=(yb,false):=by unfold yE;rw [if_neg (fun h=>hm (og h.2.1))]
  rw [E];have u:=Jh l;have b0:256<(n:Int):=om;clear l E hm hn U V;go_in;go_wp2_with fail;refine (jH _ _ _ u.Z).mono ?_;rintro F w1 ⟨rfl,rfl⟩;have o:=Jh (Blk.new w 31 ↑Zp);have m:=Jh (Joins.below_alloc1 w (.cells ↑Zp 31));obtain ⟨I,J,L,r3⟩:=o.Z.c3;obtain ⟨q0,q1,q2⟩:=o.Z.f3;go_wp2_with fail
  exact bodyPost_ret (v:= .tuple #[.agg ↑Zp, .bool false]) (Jr results108) rfl ⟨none,0,0,rfl,oN,om,
   by first | exact m.Z | exact ((m.Z.setCell sD _).setCell sD _).setCell sD _⟩
 have b0:(n:Int)<=256:=om;by_cases he:1<=e/\e<=100
 case neg=>
  have E:yE W H e=(yb,false):=by unfold yE;rw [if_neg (fun h=>he h.2.2)]
  rw [E];have u:=Jh l;have HE:=Jh he;clear l E hn U V hm he;go_in;go_wp2_with fail;refine (jH _ _ _ u.Z).mono ?_;rintro F w1 ⟨rfl,rfl⟩;go_wp2_with fail;refine (yx _ _ _ _ HE.Z).mono ?_;rintro F w1 ⟨rfl,rfl⟩;have o:=Jh (Blk.new w 31 ↑Zp);have m:=Jh (Joins.below_alloc1 w (.cells ↑Zp 31));obtain ⟨I,J,L,r3⟩:=o.Z.c3;obtain ⟨q0,q1,q2⟩:=o.Z.f3;go_wp2_with fail
  exact bodyPost_ret (v:= .tuple #[.agg ↑Zp, .bool false]) (Jr results108) rfl ⟨none,0,0,rfl,oN,om,
   by first | exact m.Z | exact ((m.Z.setCell sD _).setCell sD _).setCell sD _⟩
 have E:yE W H e=(⟨W,H,gen n (fun i=>if (i:Int)*7 % e=0 then 1 else 0)⟩,true):=by
  unfold yE;rw [if_pos ⟨l,om,he.1,he.2⟩,show (W*H).toNat=n by omega]
 rw [E];obtain ⟨e1,F⟩:=he;have u:=Jh l;clear l E hn U V hm;go_in;go_wp2_with fail;refine (jH _ _ _ u.Z).mono ?_;rintro e3 w1 ⟨rfl,rfl⟩;go_wp2_with fail;refine (zz _ _ _ _ e1 F).mono ?_;rintro e3 w1 ⟨rfl,rfl⟩;go_wp2_with fail;refine (jZ W H n _ u.Z HQ.Z).mono ?_;rintro e3 w2 ⟨g,rfl,hg,ho,hb⟩;have KR:=Jh (((Blk.new w 31 ↑Zp).zA hb).alloc (.cells #[W,H, .slice ↑g n n] 31));have Q:=Jh (Blk.new w2 31 #[W,H, .slice ↑g n n]);have HO:=Jh (ho.alloc (.cells #[W,H, .slice ↑g n n] 31));have M:=Jh (zJ (zI (Joins.below_alloc1 w _) hb) (.cells #[W,H, .slice ↑g n n] 31));have y:Hd (w.heap.size<g/\g<w2.heap.size):=Jh ⟨by simp at hg;omega,ho.lt⟩;clear hg ho hb;obtain ⟨w3,G⟩:=zN (w2.alloc (.cells #[W,H, .slice ↑g n n] 31));obtain ⟨l0,o0,o1,o2⟩:=Q.Z.c3;go_wp2_with fail;rw [<-G] at KR Q HO M l0 o0 o1 o2⊢;clear G l0 o0 o1 o2
 go_loopw [32] (fun i wr=> ∃k:Nat,k<=n/\i=↑k/\Hd (Own wr g n n (zn (gen n (fun i=>if (i:Int)*7 % e=0 then 1 else 0)) (List.replicate n 0) k))/\Hd (w3.grownBy wr (some g))) (fun i _=>n - (intOf i).toNat)
 case atStart=>exact ⟨0,nZ,rfl,Jh (by rw [yh];exact HO.Z),Jh (yR _ _)⟩
 obtain ⟨k,hk,rfl,C,s⟩:=hrel;have T:=Jh (Q.Z.grown s.Z (by have:=y.Z;intro e;have:=Yd e;omega));obtain ⟨l0,o0,o1,o2⟩:=T.Z.c3;by_cases t:k<n
 . have u2:IntKind.i64.wrap ((k:Int)*7)=(k:Int)*7:=Yc _ om
   have z1: ¬e=0:=om;have z2:(e==0)=false:=sO;have u3:((k:Int)*7).tmod e=(k:Int)*7 % e:=Yl om;have m0:0<=(k:Int)*7 % e:=Yg _ z1;have m1:(k:Int)*7 % e<e:=Ye _ om;have l:=yd (gen n (fun i=>if (i:Int)*7 % e=0 then 1 else 0)) (List.replicate n 0) k _ (by rw [zZ];exact t) sO (yN _ _ _ t);have X:=C.Z.cell t;have Y:=C.Z.frozen k;have hx:=Ux (gen n (fun i=>if (i:Int)*7 % e=0 then 1 else 0)) n k t (zZ _ _);obtain ⟨R,hR⟩: ∃R,(k:Int)*7 % e=R:=⟨_,rfl⟩
   rw [hR] at u3 m0 m1 l;have u4:IntKind.i64.wrap R=R:=Yc _ om;have FR:=Jh hR;clear hR;by_cases hz:R=0
   . subst hz
     rw [if_pos rfl] at l;have z:=Jh l;have P:=Jh (C.Z.set k 1);clear l hx;go_wp2_with fail;go_roundw
     case rel=>exact ⟨k+1,om,by go_num,Jh (by rw [<-z.Z];exact P.Z),Jh (yO s.Z _)⟩
     exact Jm
   rw [if_neg hz] at l;have z:Hd (zn (gen n (fun i=>if (i:Int)*7 % e=0 then 1 else 0)) (List.replicate n 0) (k+1)=zn (gen n (fun i=>if (i:Int)*7 % e=0 then 1 else 0)) (List.replicate n 0) k):=Jh (by rw [<-l,zFh hx]);clear l hx X Y;go_wp2_with fail;go_roundw
   case rel=>exact ⟨k+1,om,by go_num,Jh (by rw [z.Z];exact C.Z),s⟩
   exact Jm
 obtain rfl:k=n:=om;have HF:Hd (Own wr g k k (gen k (fun i=>if (i:Int)*7 % e=0 then 1 else 0))):=Jh (by have h:=C.Z;rwa [xY _ _ _ (zZ _ _) sI] at h);have D:=Jh (KR.Z.grown s.Z (by have:=y.Z;intro e;have:=Yd e;omega));have O:=Jh (M.Z.grown s.Z M.Z.size (by intro q hq;cases hq;have:=y.Z;omega));obtain ⟨z0,I,J,L⟩:=D.Z.c3;obtain ⟨f0,f1,f2⟩:=D.Z.f3;go_wp2_with fail
 exact bodyPost_ret (v:= .tuple #[.agg #[W,H, .slice ↑g k k], .bool true]) (by simp [results,results108,go_sem,I,J,L]) rfl
  ⟨_,_,_,rfl,OwnA.mk (((HF.Z.other (oS y.Z) _).other (oS y.Z) _).other (oS y.Z) _) (oh y),om,
   ((O.Z.setCell sD _).setCell sD _).setCell sD _⟩
theorem zCD (W H e:Int) (w:World):
 Calls prog 190 #[W,H,e] w (wZ w (yE W H e)):=by
 by_cases o:yM W H=true
 case neg=>
  have E:yE W H e=(yb,false):=by unfold yE;rw [if_neg (fun h=>o h.1)]
  rw [E];have t:=Jh o;clear o E;go_in;go_wp2_with fail;refine (Kb _ _ _ t.Z).mono ?_;rintro L w1 ⟨rfl,rfl⟩;have m:=Jh (Blk.new w 31 ↑Zp);have l:=Jh (Joins.below_alloc1 w (.cells ↑Zp 31));obtain ⟨G,I,J,r3⟩:=m.Z.c3;obtain ⟨q0,q1,q2⟩:=m.Z.f3;go_wp2_with fail
  exact bodyPost_ret (v:= .tuple #[.agg ↑Zp, .bool false]) (Jr results190) rfl ⟨none,0,0,rfl,oN,om,
   by first | exact l.Z | exact ((l.Z.setCell sD _).setCell sD _).setCell sD _⟩
 obtain ⟨b1,b2,b3,b4,V,X⟩:=yF o;obtain ⟨n,hn⟩: ∃n:Nat,(n:Int)=W*H:=⟨(W*H).toNat,om⟩
 have u1:IntKind.i64.wrap (W*H)=(n:Int):=by rw [hn];exact Yc _ om
 have b8:1<=n:=om;have HQ:=Jh hn;by_cases hm:n<=256
 case neg=>
  have E:yE W H e=(yb,false):=by unfold yE;rw [if_neg (fun h=>hm (og h.2.1))]
  rw [E];have t:=Jh o;have b7:256<(n:Int):=om;clear o E hm hn V X;go_in;go_wp2_with fail;refine (jd _ _ _ t.Z).mono ?_;rintro L w1 ⟨rfl,rfl⟩;have m:=Jh (Blk.new w 31 ↑Zp);have l:=Jh (Joins.below_alloc1 w (.cells ↑Zp 31));obtain ⟨G,I,J,r3⟩:=m.Z.c3;obtain ⟨q0,q1,q2⟩:=m.Z.f3;go_wp2_with fail
  exact bodyPost_ret (v:= .tuple #[.agg ↑Zp, .bool false]) (Jr results190) rfl ⟨none,0,0,rfl,oN,om,
   by first | exact l.Z | exact ((l.Z.setCell sD _).setCell sD _).setCell sD _⟩
 have b7:(n:Int)<=256:=om;by_cases he:1<=e/\e<=100
 case neg=>
  have E:yE W H e=(yb,false):=by unfold yE;rw [if_neg (fun h=>he h.2.2)]
  rw [E];have t:=Jh o;have P:=Jh he;clear o E hn V X hm he;by_cases h0:e<1
  . clear P
    go_in;go_wp2_with fail;refine (jd _ _ _ t.Z).mono ?_;rintro L w1 ⟨rfl,rfl⟩;have m:=Jh (Blk.new w 31 ↑Zp);have l:=Jh (Joins.below_alloc1 w (.cells ↑Zp 31));obtain ⟨G,I,J,r3⟩:=m.Z.c3;obtain ⟨q0,q1,q2⟩:=m.Z.f3;go_wp2_with fail
    exact bodyPost_ret (v:= .tuple #[.agg ↑Zp, .bool false]) (Jr results190) rfl ⟨none,0,0,rfl,oN,om,
     by first | exact l.Z | exact ((l.Z.setCell sD _).setCell sD _).setCell sD _⟩
  have h1:1<=e:=om;have h2:100<e:=by have:=P.Z;omega
  clear P h0;go_in;go_wp2_with fail;refine (jd _ _ _ t.Z).mono ?_;rintro L w1 ⟨rfl,rfl⟩;have m:=Jh (Blk.new w 31 ↑Zp);have l:=Jh (Joins.below_alloc1 w (.cells ↑Zp 31));obtain ⟨G,I,J,r3⟩:=m.Z.c3;obtain ⟨q0,q1,q2⟩:=m.Z.f3;go_wp2_with fail
  exact bodyPost_ret (v:= .tuple #[.agg ↑Zp, .bool false]) (Jr results190) rfl ⟨none,0,0,rfl,oN,om,
   by first | exact l.Z | exact ((l.Z.setCell sD _).setCell sD _).setCell sD _⟩
 have E:yE W H e=(⟨W,H,gen n (fun i=>if (i:Int)*7 % e=0 then 1 else 0)⟩,true):=by
  unfold yE;rw [if_pos ⟨o,om,he.1,he.2⟩,show (W*H).toNat=n by omega]
 rw [E];obtain ⟨e1,L⟩:=he;have t:=Jh o;clear o E hn V X hm;go_in;go_wp2_with fail;refine (jd _ _ _ t.Z).mono ?_;rintro e3 w1 ⟨rfl,rfl⟩;go_wp2_with fail
 all_goals (try (exfalso;omega))
 refine (jw W H n _ t.Z HQ.Z).mono ?_;rintro e3 w2 ⟨g,rfl,hg,ho,hb⟩;have KR:=Jh (((Blk.new w 31 ↑Zp).zA hb).alloc (.cells #[W,H, .slice ↑g n n] 31));have T:=Jh (Blk.new w2 31 #[W,H, .slice ↑g n n]);have HO:=Jh (ho.alloc (.cells #[W,H, .slice ↑g n n] 31));have M:=Jh (zJ (zI (Joins.below_alloc1 w _) hb) (.cells #[W,H, .slice ↑g n n] 31));have y:Hd (w.heap.size<g/\g<w2.heap.size):=Jh ⟨by simp at hg;omega,ho.lt⟩;clear hg ho hb;obtain ⟨w3,F⟩:=zN (w2.alloc (.cells #[W,H, .slice ↑g n n] 31));obtain ⟨l0,o0,o1,o2⟩:=T.Z.c3;go_wp2_with fail;rw [<-F] at KR T HO M l0 o0 o1 o2⊢;clear F l0 o0 o1 o2
 go_loopw [35] (fun i wr=> ∃k:Nat,k<=n/\i=↑k/\Hd (Own wr g n n (zn (gen n (fun i=>if (i:Int)*7 % e=0 then 1 else 0)) (List.replicate n 0) k))/\Hd (w3.grownBy wr (some g))) (fun i _=>n - (intOf i).toNat)
 case atStart=>exact ⟨0,nZ,rfl,Jh (by rw [yh];exact HO.Z),Jh (yR _ _)⟩
 obtain ⟨k,hk,rfl,C,s⟩:=hrel;have U:=Jh (T.Z.grown s.Z (by have:=y.Z;intro e;have:=Yd e;omega));obtain ⟨l0,o0,o1,o2⟩:=U.Z.c3;by_cases u:k<n
 . have u2:IntKind.i64.wrap ((k:Int)*7)=(k:Int)*7:=Yc _ om
   have z1: ¬e=0:=om;have z2:(e==0)=false:=sO;have u3:((k:Int)*7).tmod e=(k:Int)*7 % e:=Yl om;have m0:0<=(k:Int)*7 % e:=Yg _ z1;have m1:(k:Int)*7 % e<e:=Ye _ om;have o:=yd (gen n (fun i=>if (i:Int)*7 % e=0 then 1 else 0)) (List.replicate n 0) k _ (by rw [zZ];exact u) sO (yN _ _ _ u);have Y:=C.Z.cell u;have b0:=C.Z.frozen k;have hx:=Ux (gen n (fun i=>if (i:Int)*7 % e=0 then 1 else 0)) n k u (zZ _ _);obtain ⟨R,hR⟩: ∃R,(k:Int)*7 % e=R:=⟨_,rfl⟩
   rw [hR] at u3 m0 m1 o;have u4:IntKind.i64.wrap R=R:=Yc _ om;have FR:=Jh hR;clear hR;by_cases hz:R=0
   . subst hz
     rw [if_pos rfl] at o;have z:=Jh o;have Q:=Jh (C.Z.set k 1);clear o hx;go_wp2_with fail;go_roundw
     case rel=>exact ⟨k+1,om,by go_num,Jh (by rw [<-z.Z];exact Q.Z),Jh (yO s.Z _)⟩
     exact Jm
   rw [if_neg hz] at o;have z:Hd (zn (gen n (fun i=>if (i:Int)*7 % e=0 then 1 else 0)) (List.replicate n 0) (k+1)=zn (gen n (fun i=>if (i:Int)*7 % e=0 then 1 else 0)) (List.replicate n 0) k):=Jh (by rw [<-o,zFh hx]);clear o hx Y b0;go_wp2_with fail;go_roundw
   case rel=>exact ⟨k+1,om,by go_num,Jh (by rw [z.Z];exact C.Z),s⟩
   exact Jm
 obtain rfl:k=n:=om;have HF:Hd (Own wr g k k (gen k (fun i=>if (i:Int)*7 % e=0 then 1 else 0))):=Jh (by have h:=C.Z;rwa [xY _ _ _ (zZ _ _) sI] at h);have D:=Jh (KR.Z.grown s.Z (by have:=y.Z;intro e;have:=Yd e;omega));have O:=Jh (M.Z.grown s.Z M.Z.size (by intro q hq;cases hq;have:=y.Z;omega));obtain ⟨z0,G,I,J⟩:=D.Z.c3;obtain ⟨f0,f1,f2⟩:=D.Z.f3;go_wp2_with fail
 exact bodyPost_ret (v:= .tuple #[.agg #[W,H, .slice ↑g k k], .bool true]) (by simp [results,results190,go_sem,G,I,J]) rfl
  ⟨_,_,_,rfl,OwnA.mk (((HF.Z.other (oS y.Z) _).other (oS y.Z) _).other (oS y.Z) _) (oh y),om,
   ((O.Z.setCell sD _).setCell sD _).setCell sD _⟩
theorem Ug (f:Nat) (l:Func) (c:Code) (hf:prog.funcs[f]? =some l) (e:(l.name== "runtime.NumGoroutine")=false) (hb:l.body=some c): ∀args w,(callFunc f args).run prog w= .ok (.enter f args) w:=enters_of hf e hb
theorem zKt (x:Int) (w:World):
 Calls prog 228 #[x] w fun e w'=>e= .returned (.bool false)/\w=w':=by
 have h:(x !=x)=false:=sI;go_in;go_wp2_with fail;go_ret;exact ⟨rfl,rfl⟩
theorem zQU (x y:Int) (w:World):
 Calls prog 189 #[x,y] w fun e w'=> ∃c:Int,e= .returned ↑c/\(c<0↔x<y)/\w=w':=by
 go_in;go_wp2_with fail;refine (zKt _ _).mono ?_;rintro e w1 ⟨rfl,rfl⟩;go_wp2_with fail;refine (zKt _ _).mono ?_;rintro e w1 ⟨rfl,rfl⟩;by_cases h1:x<y
 . go_wp2_with fail
   go_ret;exact ⟨-1,rfl,by constructor <;>intro <;>omega,rfl⟩
 by_cases h2:y<x
 . go_wp2_with fail
   go_ret;exact ⟨1,rfl,by constructor <;>intro <;>omega,rfl⟩
 go_wp2_with fail;go_ret;exact ⟨0,rfl,by constructor <;>intro <;>omega,rfl⟩
set_option maxRecDepth 100000 in
theorem zRU (h:Nat) (G:Array Value) (E F t n O i k:Nat) (xs:Nat->Int) (K:Prop) (w:World) (eh: ∀args w,(callFunc h args).run prog w= .ok (.enter h args) w)
 (W:w.cell? E=some (.func (.func h) #[] G)) (V:w.cell? F=some (.slice ↑t n O)) (I:(∀k,k<n->w.cell? ⟨t,k,none⟩=some (.int .i64 (xs k)))) (X:E<w.heap.size) (Y:F<w.heap.size) (R:t<w.heap.size) (hi:i<n) (hk:k<n)
 (l: ∀v,Below w.heap.size w v->Calls prog h (#[.int .i64 (xs i), .int .i64 (xs k)]++G) v fun e L=> ∃c:Int,e= .returned ↑c/\(c<0↔K)/\Below v.heap.size v L):
 Calls prog 227 #[i, .int .i64 k, .pointer ↑E, .pointer ↑F] w fun e w'=> ∃c:Int,e= .returned ↑c/\(c<0↔K)/\Below w.heap.size w w':=by
 have P:=I i hi;have Q:=I k hk;obtain ⟨u,m⟩:=zN (xs i);obtain ⟨y,o⟩:=zN (xs k);rw [<-m] at P;rw [<-o] at Q
 try rw [<-m] at l
 try rw [<-o] at l
 have D:Hd (∀v,BelowL w v->Jc v E (.func (.func h) #[] G)/\Jc v F (.slice ↑t n O)/\Jc v (t,i) u/\v.cell? ⟨t,k,none⟩=some ↑y/\BelowL w v):=Jh (fun v C=>⟨(C.Z.cell X).trans W,(C.Z.cell Y).trans V,(C.Z.cell R).trans P,(C.Z.cell R).trans Q,C⟩);have M:Hd (∀v,BelowL w v->Calls prog h (#[.int .i64 u, .int .i64 y]++G) v fun e L=> ∃c:Int,e= .returned ↑c/\(c<0↔K)/\Below v.heap.size v L):=Jh (fun v hv=>l v hv.Z);have pi:(i:Int)<(n:Int):=om;have pk:(k:Int)<(n:Int):=om;clear l I m o;go_in;go_wp2_with fail
 go_region_held3 D
  (first | exact D.Z _ s | exact D.Z _ lS)
  (first
   | (go_at_fn h;((with_reducible refine (M.Z _ (ZM aS)).mono ?_);rintro e v1 ⟨U,rfl,z,J⟩;have s:=BelowL.call (ZM aS) J)))
 have T:=Jh z;have H:=Jh s;clear z s D M;go_wp2_with fail;go_ret;exact ⟨U,rfl,T.Z,H.Z.Z⟩
set_option maxRecDepth 100000 in
theorem zRc (h:Nat) (D:Array Value) (s n G:Nat) (xs:Nat->Int) (key:Int->Int) (w:World) (eh: ∀args w,(callFunc h args).run prog w= .ok (.enter h args) w) (hn:n<=100000) (V:0<n) (ci:(∀k,k<n->w.cell? ⟨s,k,none⟩=some (.int .i64 (xs k)))) (zi:s<w.heap.size)
 (u: ∀v,Below w.heap.size w v-> ∀i k,i<n->k<n->Calls prog h (#[.int .i64 (xs i), .int .i64 (xs k)]++D) v fun e v'=> ∃c:Int,e= .returned ↑c/\(c<0↔key i<key k)/\Below v.heap.size v v'):
 Calls prog 188 #[.slice ↑s n G, .func (.func h) #[] D] w fun e w'=> ∃(f:Nat->Int) (blk:Nat),e= .returned (.slice ↑blk n n)/\w.heap.size<=blk/\Own w' blk n n (gen n f)/\kv key f 0 n/\Below w.heap.size w w':=by
 have CI:Aside _:=ci;have OR:Aside _:=u;clear ci u;go_in;go_wp2_with (at_make;refine jU _ rfl _ _ rfl .i64 .i64 n n n rfl rfl rfl rfl om ?_;intro M T);have z:=Jh (zJ (zJ (Below.refl w.heap.size w) (.cells #[.slice ↑s n G] 22)) (.cells #[.func (.func h) #[] D] 115));obtain ⟨m,l⟩:=zN ((w.alloc (.cells #[.slice ↑s n G] 22)).alloc (.cells #[.func (.func h) #[] D] 115):World);have KS:Hd (Blk m w.heap.size 22 #[.slice ↑s n G]):=Jh (by rw [l];exact (Blk.new w _ _).alloc _);have KO:Hd (Blk m (w.heap.size+1) 115 #[.func (.func h) #[] D]):=Jh (by rw [l];exact Blk.zD _ _ sI);have I:m.heap.size=w.heap.size+1+1:=by rw [l];simp
 try rw [<-l] at T
 rw [<-l] at z⊢;clear l;have Y:Hd (Own (m.alloc (.cells M 3)) (w.heap.size+1+1) n n (List.replicate n 0)):=Jh (by have h:=T.own m;rw [I] at h;exact h);have E:=Jh (zJ (Below.refl m m) (.cells M 3));clear T;have F:=Jh I;clear I;go_wp2_with fail
 go_loopw [12] (fun i wr=> ∃k:Nat,k<=n/\i= .int .i64 k/\Hd (Own wr (w.heap.size+1+1) n n (zn (gen n (fun k=>(k:Int))) (List.replicate n 0) k))/\Hd (Below m m wr)) (fun i _=>n - (intOf i).toNat)
 case atStart=>exact ⟨0,nZ,rfl,Jh (by rw [yh];exact Y.Z),E⟩
 clear Y E;obtain ⟨k,hk,rfl,o,hg⟩:=hrel;by_cases C:k<n
 . have h2:wr.cell? ⟨w.heap.size+1+1,k,none⟩=some (.int .i64 ((zn (gen n (fun k=>(k:Int))) (List.replicate n 0) k).getD k 0)):=o.Z.cell C
   have h3:wr.frozen? ⟨w.heap.size+1+1,k,none⟩=false:=o.Z.frozen k;have X:=o.Z.set k (k:Int);rw [yd (gen n (fun k=>(k:Int))) _ k _ (by rw [zZ];exact C) sO (yN _ _ _ C)] at X;have HS:=Jh X;clear X o;go_wp2_with fail;go_roundw
   case rel=>exact ⟨k+1,om,by go_num,HS,Jh (hg.Z.setCell (by have:=F.Z;show m.heap.size<=w.heap.size+1+1;omega) _)⟩
   exact Jm
 obtain rfl:k=n:=om;have L:Hd (Own wr (w.heap.size+1+1) k k (gen k (fun k=>(k:Int)))):=Jh (by have h:=o.Z;have e:=Zx (gen k (fun k=>(k:Int))) (List.replicate k 0) (by simp [zZ]);rw [zZ] at e;rwa [e] at h);have HW:=Jh (z.Z.trans (hg.Z.mono z.Z.size));have R:=Jh (KS.Z.below hg.Z KS.Z.lt);have Q:=Jh (KO.Z.below hg.Z KO.Z.lt);clear o hg
 have CM:Hd (xS 227 #[.pointer (some ⟨w.heap.size+1,0,none⟩), .pointer (some ⟨w.heap.size,0,none⟩)] key (w.heap.size+1+1) k wr):=Jh (by
  intro W U x y x0 x1 y0 y1;obtain ⟨i,rfl⟩: ∃i:Nat,x=i:=⟨x.toNat,om⟩
  obtain ⟨j,rfl⟩: ∃j:Nat,y=j:=⟨y.toNat,om⟩
  have I:=F.Z;have zr:=L.Z.lt;have o1:=Q.Z.grown U (by intro e;have:=Yd e;omega);have s1:=R.Z.grown U (by intro e;have:=Yd e;omega);have H:Below w.heap.size w W:=HW.Z.grown U om (by intro k hk;cases hk;omega);have hh:=zRU h D (w.heap.size+1) w.heap.size s k G i j xs (key i<key j) W eh (by rw [o1.cell];rfl) (by rw [s1.cell];rfl) (fun t ht=>(H.cell (p:=↑(s,t)) zi).trans (CI.out t ht)) o1.lt s1.lt (Yb zi H.size) om om (fun v hv=>OR.out v (H.trans (hv.mono H.size)) i j om om)
  exact hh)
 have EG:Hd (∀args w,(callFunc 227 args).run prog w= .ok (.enter 227 args) w):=Jh (Ug _ _ _ func227 zK rfl);go_wp2_with fail;refine (Xp 227 _ key (w.heap.size+1+1) k _ EG.Z CM.Z L.Z hn V).mono ?_;rintro ex w2 ⟨f,rfl,o,hg,hi⟩;have O:=Jh o;have J:=Jh hi;have P:=Jh (HW.Z.grown hg (zB L.Z.lt F.Z) (by intro k hk;cases hk;have:=F.Z;omega));clear o hg hi;go_wp2_with fail;go_ret;exact ⟨f,_,rfl,by have:=F.Z;omega,O.Z,J.Z,P.Z⟩
def yP (xs:List Int) (v:Int) (k:Nat):List Int:=((List.range k).filter (fun i=>decide (xs.getD i 0=v))).map (fun (i:Nat)=>(i:Int))
theorem zIz (h:xs.getD k 0=v):yP xs v (k+1)=yP xs v k++ [(k:Int)]:=by
 unfold yP;rw [List.range_succ,List.filter_append];simp [List.getD] at h⊢;simp [h]
theorem zLh (h: ¬xs.getD k 0=v):yP xs v (k+1)=yP xs v k:=by
 unfold yP;rw [List.range_succ,List.filter_append];simp [List.getD] at h⊢;simp [h]
theorem zIy (xs:List Int) (v:Int) (k:Nat):(yP xs v k).length<=k:=by
 unfold yP;have:=List.length_filter_le (fun i=>decide (xs.getD i 0=v)) (List.range k);simpa using this
theorem zBR:x ∈ yP xs v k↔ ∃i:Nat,x=i/\i<k/\xs.getD i 0=v:=by
 unfold yP;simp only [List.mem_map,List.mem_filter,List.mem_range,decide_eq_true_eq];constructor;rintro ⟨i,⟨h1,h2⟩,rfl⟩;exact ⟨i,rfl,h1,h2⟩;rintro ⟨i,rfl,h1,h2⟩;exact ⟨i,⟨h1,h2⟩,rfl⟩
theorem Vv (h:j<(yP xs v k).length): ∃i:Nat,(yP xs v k).getD j 0=(i:Int)/\i<k/\xs.getD i 0=v:=by
 have hm:(yP xs v k).getD j 0 ∈ yP xs v k:=by
  simp [List.getD,Ya h]
 exact zBR.1 hm
theorem zLj (xs:List Int) (v:Int) (k:Nat):(yP xs v k).Pairwise (·<·):=by
 unfold yP;rw [List.pairwise_map];exact (List.Pairwise.filter _ (List.pairwise_lt_range)).imp (fun h=>om)
theorem zLg (h:i<j) (e:j<(yP xs v k).length):(yP xs v k).getD i 0<(yP xs v k).getD j 0:=by
 have hp:=List.pairwise_iff_getElem.1 (zLj xs v k) i j om e h;simpa [List.getD,Ya e,Ya (show i<(yP xs v k).length by omega)] using hp
theorem zDV (h1:i<k) (h2:xs.getD i 0=v): ∃j,j<(yP xs v k).length/\(yP xs v k).getD j 0=(i:Int):=by
 obtain ⟨j,l,e⟩:=List.mem_iff_getElem.1 (zBR.2 ⟨i,rfl,h1,h2⟩);exact ⟨j,l,by simp [List.getD,Ya l,e]⟩
theorem zGx {d:Nat} (hd:(yP xs v n).length=d) (D:0<d)
 (hg:kv (fun t=>c ((yP xs v n).getD t.toNat 0).toNat) f 0 d):ZY n xs v c ((yP xs v n).getD (f 0).toNat 0):=by
 have hv: ∀k,k<d->(0:Int)<=f k/\f k<d:=fun k hk=>by have:=hg.2 k nZ hk;omega
 have H:=hv 0 D;obtain ⟨i,m,z,C⟩:=Vv (xs:=xs) (v:=v) (k:=n) (j:=(f 0).toNat) om;refine Or.inr ⟨i,m,z,C,fun j E o=>?_⟩;obtain ⟨q,I,y⟩:=zDV E o;obtain ⟨p,s,u⟩:=zBP (i:=q) hg om;have e:c ((yP xs v n).getD (f 0).toNat 0).toNat=c i:=by rw [m];rfl
 have l:c ((yP xs v n).getD (f p).toNat 0).toNat=c j:=by rw [u,Yu,y];rfl
 by_cases hp:p=0
 subst hp
 have:i=j:=by
  rw [u,Yu,y] at m;omega
 subst this;exact ⟨Int.le_refl _,fun h=>om⟩;have hr:=hg.1 0 p nI om s;unfold RL at hr;simp only [e,l] at hr;refine ⟨om,fun F=>?_⟩;rcases hr with h | ⟨h,G⟩
 exact h;exfalso;have:=zLg (xs:=xs) (v:=v) (k:=n) (i:=(f 0).toNat) (j:=(f p).toNat) (og (hv p s)) (og (hv p s));rw [m,u,Yu,y] at this;omega
end Go.Proofs.YtlenfgdjdianiaaGreatDoor
