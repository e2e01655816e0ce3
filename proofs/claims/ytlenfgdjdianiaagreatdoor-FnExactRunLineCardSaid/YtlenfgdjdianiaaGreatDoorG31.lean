/- Facts on which this claim rests, 31. -/
import Derived.Test.YtlenfgdjdianiaaGreatDoorG30
set_option linter.all false
set_option maxHeartbeats 6400000
namespace Go.Proofs.YtlenfgdjdianiaaGreatDoor
open Go.RowKit Tq Go.Proofs.Tryz
variable {B f gc gi i n : Nat} {H W v : Int} {key : Int → Int} {w : World} {xs : List Int}
theorem OD (hn:xs.length=n):xk xs v (fun j=>key ((gen n (yK W H xs)).getD j 0)) n=xk xs v (fun j=>key (yK W H xs j)) xs.length:=by
 rw [hn];exact ((Co xs v (fun j=>key ((gen n (yK W H xs)).getD j 0)) n).congr (fun j a=>by simp only [yY _ _ _ a])).one (Co xs v _ n)
theorem aV (ys xs:List Int) (k:Nat) (h:k<xs.length) (hl:xs.length=ys.length):(zy ys xs k).getD k 0=xs.getD k 0:=by
 have e:(ys.take k).length=k:=by rw [Yj];omega
 unfold zy;simp only [List.getD];rw [List.getElem?_append_right om,e,Nat.sub_self,List.getElem?_drop];simp
theorem aQ (hv:v=0\/v=1) (hi:i<xs.length) (h:xs.getD i 0=v) (k:Nat):yK W H (xs.set i (1 - v)) k=yK W H xs k+(1 - 2*v)*wtG W H k i:=by
 rcases hv with rfl | rfl
 have:=gY (W:=W) (H:=H) k hi h;simp only [Int.sub_zero,Int.mul_zero,Int.one_mul];exact this;have:=aR (W:=W) (H:=H) k hi h;rw [show (1:Int) - 1=0 by decide,this];omega
set_option maxRecDepth 100000 in
theorem Vp (h:Nat) (key:Int->Int) (v:Int) (hv:v=0\/v=1) (eh: ∀args w,(callFunc h args).run prog w= .ok (.enter h args) w) (ho:Fe h key) (F:FSt w B f gi gc W H n xs (gen n (yK W H xs))) (z:zx W H xs=true)
 (i:Nat) (hb:xk xs v (fun j=>key (yK W H xs j)) xs.length=i) (hi:i<xs.length) (hx:xs.getD i 0=v):
 Calls prog 232 #[.pointer ↑f, .agg #[.int .i64 v, .func (.func h) #[] #[]]] w fun e w'=>e= .returned ↑i/\FSt w' B f gi gc W H n (xs.set i (1 - v)) (gen n (yK W H (xs.set i (1 - v))))/\Keep6 (Duo gi gc) w w':=by
 have V:=Jh F.ink.len;obtain ⟨b1,b2,b3,b4,b5,b6,b7,b8,b9⟩:=jR V.Z z;obtain ⟨B5,B8,B9⟩:=JF b5 b8 b9;clear b5 b8 b9;have e3:=Jh z;have HX:=Jh hx;have EB:Hd (xk xs v (fun j=>key ((gen n (yK W H xs)).getD j 0)) n=i):=Jh (by rw [OD V.Z];exact hb);have M:i<n:=by rw [<-V.Z];exact hi
 obtain ⟨u,EH,HV⟩:=JF ho eh hv;obtain ⟨V2,d0⟩: ∃x,2*v=x:=⟨_,rfl⟩
 obtain ⟨t,b0⟩: ∃x,1 - V2=x:=⟨_,rfl⟩
 obtain ⟨l,J⟩: ∃x,1 - v=x:=⟨_,rfl⟩
 have a1:IntKind.i64.wrap (2*v)=V2:=by rw [d0];exact Yc _ om
 have a2:IntKind.i64.wrap (1 - V2)=t:=by rw [b0];exact Yc _ om
 have a3:IntKind.i64.wrap (v+t)=l:=by rw [show v+t=l by omega];exact Yc _ om
 have d6:Hd (t=1\/t=-1):=Jh om;have d7:Hd (t=1 - 2*v):=Jh om;have e1:Hd (1 - v=l):=Jh J;have CF:Hd (∀k,yK W H (xs.set i l) k=yK W H xs k+t*wtG W H k i):=Jh (fun k=>by rw [<-e1.Z,aQ HV.Z hi HX.Z,d7.Z]);have e7:Hd (zx W H (xs.set i l)=true):=Jh (Am z i om);rw [J];obtain ⟨y,b,U,f5⟩:=JG ((Blk.new w 211 #[.int .i64 v, .func (.func h) #[] #[]])) (F.alloc (.cells #[.int .i64 v, .func (.func h) #[] #[]] 211)) (Joins.below_alloc1 w (.cells #[.int .i64 v, .func (.func h) #[] #[]] 211)) F.lts;clear F z hx hb hi ho eh hv d0 b0 J;go_in;go_upto_region 1 with fail;obtain ⟨wo,d5⟩:=zN (w.alloc (.cells #[.int .i64 v, .func (.func h) #[] #[]] 211):World);rw [<-d5] at y b U⊢;clear d5;have lb:=y.Z.lt;have k0:wo.cell? ⟨w.heap.size,0,none⟩=some (.int .i64 v):=by rw [y.Z.cell];rfl
 have k1:wo.cell? ⟨w.heap.size,1,none⟩=some (.func (.func h) #[] #[]):=by rw [y.Z.cell];rfl
 go_wp2_with fail;refine (Dh h key v EH.Z u.Z b.Z b6).mono ?_;rw [EB.Z];rintro e w4 ⟨rfl,hb⟩;obtain ⟨y,b,U⟩:=JF (y.Z.zA hb) (b.Z.below hb) (zL U.Z hb);clear hb lb k0 k1;have g3:0<=(i:Int):=om;obtain ⟨A,p0,p1,p2,p3⟩:=b.Z.cells;have lb:=y.Z.lt;have k0:w4.cell? ⟨w.heap.size,0,none⟩=some (.int .i64 v):=by rw [y.Z.cell];rfl
 have g1:=b.Z.ink.cell M;rw [HX.Z] at g1;have g2:=b.Z.ink.frozen i;have HS:=Jh (b.Z.ink.set i l);go_upto_region 6 with fail;obtain ⟨O,q⟩:=zN (w4.setCell (gi,i) ↑l:World);have E:Hd (Blk O f 208 #[W,H, .slice ↑gi n n, .slice ↑gc n n]):=Jh (by rw [q];exact b.Z.box.other (by exact fun e=>b.Z.n1 e.symm) _);have e4:Hd (Own O gc n n (gen n (yK W H xs))):=Jh (by rw [q];exact b.Z.crowds.other (by exact b.Z.n3) _);have e5:Hd (Own O gi n n (xs.set i l)):=Jh (by rw [q];exact HS.Z);have e6:Hd (Keep6 (Duo gi gc) w O):=Jh (by rw [q];exact (Keep6.zF U.Z).set (Or.inl rfl) _);obtain ⟨N1,N2,N3,HH⟩:=JG b.Z.n1 b.Z.n2 b.Z.n3 (And.intro b.Z.hf (And.intro b.Z.hi b.Z.hc));rw [<-q];clear q A p0 p1 p2 p3 lb k0 g1 g2 HS y b U u EH EB;have A:=E.Z.lt;have p3:O.cell? (f,3)=some (.slice ↑gc n n):=by rw [E.Z.cell];rfl
 have CI:=Jh (fun (k:Nat) (hk:k<n) (v:World)=>Dg W H ↑gi n n k v b1 om B5.Z b6 hk);have CW:=Jh (fun (k:Nat) (hk:k<n) (v:World)=>Jg W H ↑gi n n i k v b1 om b3 om B5.Z b6 M hk)
 go_wp2
 go_loopw [33] (fun s wr=> ∃k:Nat,k<=n/\s= .int .i64 k/\Hd (Own wr gc n n (zy (gen n (yK W H (xs.set i l))) (gen n (yK W H xs)) k))/\Hd (Keep6 (fun i=>i=gc) O wr)) (fun s _=>n - (intOf s).toNat)
 exact ⟨0,nZ,rfl,Jh (by rw [xB];exact e4.Z),Jh (Keep6.refl _ _)⟩;obtain ⟨k,hk,rfl,u,HK⟩:=hrel;have m:=Jh (HK.Z.blk E.Z N2.Z);by_cases c:k<n
 . have C1:=Jh (CI.Z i M)
   have C2:=Jh (CI.Z k c);have C3:=Jh (CW.Z k c);obtain ⟨P,hP⟩: ∃P,(i:Int) % W=P:=⟨_,rfl⟩
   obtain ⟨Q,hQ⟩: ∃Q,(i:Int)/W=Q:=⟨_,rfl⟩
   obtain ⟨P',c5⟩: ∃P,(k:Int) % W=P:=⟨_,rfl⟩
   obtain ⟨Q',c8⟩: ∃Q,(k:Int)/W=Q:=⟨_,rfl⟩
   rw [hP,hQ] at C1 C3;rw [c5,c8] at C2 C3;have hs:=yx (gen n (yK W H (xs.set i l))) (gen n (yK W H xs)) k _ (by rw [zk];exact c) (by rw [zk];exact c) (yY _ _ _ c);have I:=u.Z.cell c;rw [aV _ _ _ (by rw [zk];exact c) (by rw [zk,zk]),yY _ _ _ c] at I;have f6:=u.Z.frozen k;obtain ⟨c1,c2⟩:=Ai V.Z e3.Z k;obtain ⟨d1,d2⟩:=Ai (n:=n) (by rw [List.length_set];exact V.Z) e7.Z k;obtain ⟨t1,t2⟩:=IU b1 b3 i k;have g:=CF.Z k;rw [zCi b1 b3 k i] at g;obtain ⟨C,hC⟩: ∃C,yK W H xs k=C:=⟨_,rfl⟩
   obtain ⟨D,hD⟩: ∃D,yK W H (xs.set i l) k=D:=⟨_,rfl⟩
   obtain ⟨T,hT⟩: ∃T,wtG W H i k=T:=⟨_,rfl⟩
   rw [hC] at c1 c2 I g;rw [hD] at d1 d2 hs g;rw [hT] at t1 t2 C3 g;obtain ⟨X,hX⟩: ∃X,t*T=X:=⟨_,rfl⟩
   rw [hX] at g;have x1:-4096<=X/\X<=4096:=by rcases d6.Z with e | e <;>rw [e] at hX <;>omega
   have u1:IntKind.i64.wrap (t*T)=X:=by rw [hX];exact Yc _ om
   have u2:IntKind.i64.wrap (C+X)=D:=by rw [g];exact Yc _ om
   have HS:=Jh hs;clear hs hP hQ c5 c8 hC hD hT hX g A p3 x1;obtain ⟨A,p0,p1,p2,p3⟩:f<wr.heap.size/\JB wr f W H (.slice ↑gi n n) (Jc wr (f,3) (.slice ↑gc n n)):=⟨m.Z.lt,by rw [m.Z.cell];rfl,by rw [m.Z.cell];rfl,by rw [m.Z.cell];rfl,by rw [m.Z.cell];rfl⟩
   have lg:=u.Z.lt;go_upto_region 9 with fail;have MK:Hd (∀v,BelowL wr v->(JB v f W H (.slice ↑gi n n) (Jc v (f,3) (.slice ↑gc n n)/\v.cell? ⟨gc,k,none⟩=some (.int .i64 C)/\BelowL wr v):Prop)):=Jh (fun v N=>⟨(N.Z.cell A).trans p0,(N.Z.cell A).trans p1,(N.Z.cell A).trans p2,(N.Z.cell A).trans p3,(N.Z.cell lg).trans I,N⟩);refine yA 28 MK zK (MK.Z _ lS) ?_;intro a;have f0:=lM a;refine zP 0 ?_;refine zP 1 ?_;refine zP 2 ?_;refine zP 3 ?_;refine zP 4 ?_;refine zP 5 ?_;refine zP 6 ?_;refine zP 7 ?_;refine zP 8 ?_;refine zP 9 ?_;refine zP 10 ?_;refine zP 11 ?_;refine zP 12 ?_;refine zP 13 ?_;refine zP 14 ?_;refine zP 15 ?_;refine zP 16 ?_;refine zP 18 ?_;refine zP 19 ?_;refine zP 20 ?_;refine zP 21 ?_;refine zP 22 ?_;refine zf 17 (fun K hK=>?_);go_simp
   go_at_call 269
   ((with_reducible refine (C1.Z _).mono ?_);rintro e v1 ⟨rfl,f1⟩);have d3:=BelowL.call f0 f1;go_wp2_with fail;refine hK.out _ _ (fun _=>Jd (MK.Z _ d3)) (fun hH2=>?_);clear hK K a;have a:=hH2 dC;refine zf 23 (fun K hK=>?_);go_simp
   go_at_call 269
   ((with_reducible refine (C2.Z _).mono ?_);rintro e v2 ⟨rfl,f2⟩);have d4:=BelowL.call d3 f2;go_wp2_with fail;refine hK.out _ _ (fun _=>Jd (MK.Z _ d4)) (fun c0=>?_);clear hK K a;have a:=c0 dC;refine zf 24 (fun K hK=>?_);go_simp
   go_at_call 271
   ((with_reducible refine (C3.Z _).mono ?_);rintro e v3 ⟨rfl,f4⟩);have L:=BelowL.call d4 f4;go_wp2_with fail;refine hK.out _ _ (fun _=>Jd (MK.Z _ L)) (fun c4=>?_);clear hK K a;have a:=c4 dC;have Y:=Jh (u.Z.below L.Z u.Z.lt);have e0:=Jh (HK.Z.call L.Z);have f8:=a.2.2.2.2.1;have g0:=Y.Z.frozen k;refine zP 25 ?_;refine zP 26 ?_;refine zP 27 ?_;refine zf 28 (fun K hK=>?_);go_simp;refine hK.out _ _ (fun h=>absurd h dC) (fun e8=>?_);clear hK K e8 c4 c0 hH2 a;refine yG zK ?_ _;(try go_simp)
   go_wp2
   go_roundw
   . exact ⟨k+1,om,by go_num,Jh (by rw [<-HS.Z];exact Y.Z.set k D),Jh (e0.Z.set rfl _)⟩
   exact Jm
 obtain rfl:k=n:=om;have e2:Hd (Own wr gc k k (gen k (yK W H (xs.set i l)))):=Jh (by have h:=u.Z;rwa [jC _ _ _ (zk _ _) (zk _ _)] at h);have HR:Hd (FSt wr B f gi gc W H k (xs.set i l) (gen k (yK W H (xs.set i l)))):=Jh ⟨HH.Z.1,HH.Z.2.1,HH.Z.2.2,N1.Z,N2.Z,N3.Z,m.Z,HK.Z.own e5.Z N3.Z,e2.Z⟩;have d8:=Jh (e6.Z.trans (HK.Z.mono (fun i hi=>Or.inr hi)))
 go_wp2
 go_ret;exact ⟨rfl,HR.Z,d8.Z⟩
theorem Iw (h:Nat) (key:Int->Int) (v:Int) (k: ∀args w,(callFunc h args).run prog w= .ok (.enter h args) w) (l:Fe h key) (F:FSt w B f gi gc W H n xs (gen n (yK W H xs))) (hn:n<=256)
 (hb:xk xs v (fun j=>key (yK W H xs j)) xs.length=-1):
 Calls prog 232 #[.pointer ↑f, .agg #[v, .func (.func h) #[] #[]]] w (zR (.int .i64 (-1)) w):=by
 have o:Hd (xk xs v (fun j=>key ((gen n (yK W H xs)).getD j 0)) n=-1):=Jh (by rw [OD F.ink.len];exact hb);obtain ⟨s,q,c,g,b⟩:=JI l k ((Blk.new w 211 #[v, .func (.func h) #[] #[]])) (F.alloc (.cells #[v, .func (.func h) #[] #[]] 211)) (Joins.below_alloc1 w (.cells #[v, .func (.func h) #[] #[]] 211));clear F hb l k;go_in;go_upto_region 1 with fail;obtain ⟨m,a⟩:=zN (w.alloc (.cells #[v, .func (.func h) #[] #[]] 211):World);rw [<-a] at c g b⊢;clear a;have u:=c.Z.lt;have t:m.cell? ⟨w.heap.size,0,none⟩=some ↑v:=by rw [c.Z.cell];rfl
 have k1:m.cell? ⟨w.heap.size,1,none⟩=some (.func (.func h) #[] #[]):=by rw [c.Z.cell];rfl
 go_wp2_with fail;refine (Dh h key v q.Z s.Z g.Z hn).mono ?_;rw [o.Z];rintro e x ⟨rfl,hb⟩;have b:=Jh (zL b.Z hb);clear hb u t k1
 go_wp2
 go_ret;exact ⟨rfl,b.Z⟩
theorem iQ (F:FSt w B f gi gc W H n xs (gen n (yK W H xs))) (c:zx W H xs=true):
 Calls prog 231 #[.pointer ↑f] w fun e w'=>e= .returned (.bool (kJ W H xs).2)/\FSt w' B f gi gc W H n (kJ W H xs).1 (gen n (yK W H (kJ W H xs).1))/\Keep6 (Duo gi gc) w w':=by
 have x:=Jh F.ink.len;have y:=(jR x.Z c).2.2.2.2.2.1;have m:=Jh c;have a:=Jh F;clear F c;go_in;go_wp2_with fail;refine (AO _).mono ?_;rintro e w1 ⟨rfl,hb⟩;have a:=Jh (a.Z.below hb);have l:=Jh hb;clear hb;go_wp2_with fail;rcases XE W H xs with ⟨h1,h2⟩ | ⟨i,h1,h2,h3⟩
 . have g:Hd (kJ W H xs=(xs,false)):=Jh (by unfold kJ;rw [if_pos om])
   refine (Iw 272 LA 1 rX zAK a.Z y h1).mono ?_;rintro e w2 ⟨rfl,hb⟩;have a:=Jh (a.Z.below hb);have l:=Jh (zL l.Z hb);clear hb h1 h2
   go_wp2
   go_ret;rw [g.Z];exact ⟨rfl,a.Z,Keep6.zF l.Z⟩
 refine (Vp 272 LA 1 (Or.inr rfl) rX zAK a.Z m.Z i h1 h2 h3).mono ?_;rintro e w2 ⟨rfl,hf,hk⟩;have u:Hd (jw W H xs=xs.set i (1 - 1)):=Jh (by unfold jw;rw [h1];rfl);rw [<-u.Z] at hf;obtain ⟨a,j,o⟩:=JF hf ((Keep6.zF (S:=Duo gi gc) l.Z).trans hk) (Ki m.Z);have hw:=Qw (W:=W) (H:=H) h2;rw [show xs.set i 0=jw W H xs by rw [u.Z];rfl] at hw;obtain ⟨k,k1,k2,k3⟩:=hw;have q:k<(jw W H xs).length:=by rw [UD];exact k2
 have g:Hd (kJ W H xs=((jw W H xs).set k (1 - 0),decide ((k:Int)≠i))):=Jh (by
  unfold kJ Zu;rw [if_neg om,k1,h1]
  simp)
 have t:=Jh (And.intro k1 (And.intro q k3));clear hf hk h1 h2 h3 k1 k2 k3 q l;have z:0<=(i:Int):=om;go_wp2_with fail;refine (Dj _).mono ?_;rintro e C ⟨rfl,hb⟩;have a:=Jh (a.Z.below hb);have j:=Jh (j.Z.call hb);clear hb;go_wp2_with fail;refine (Vp 189 PI 0 (Or.inl rfl) zCw zDG a.Z o.Z k t.Z.1 t.Z.2.1 t.Z.2.2).mono ?_;rintro e D ⟨rfl,hf,hk⟩;have a:=Jh hf;have j:=Jh (j.Z.trans hk);clear hf hk;by_cases b:(k:Int)=(i:Int)
 . have hd:decide ((k:Int)≠i)=false:=by simp [b]
   rw [hd] at g;have A:((k:Int) !=(i:Int))=false:=by simp [b]
   have s:=Jh b;clear hd b
   go_wp2
   go_ret;rw [g.Z];exact ⟨rfl,a.Z,j.Z⟩
 have hd:decide ((k:Int)≠i)=true:=sO;rw [hd] at g;have A:((k:Int) !=(i:Int))=true:=sO;have s:=Jh b;clear hd b
 go_wp2
 go_ret;rw [g.Z];exact ⟨rfl,a.Z,j.Z⟩
set_option maxRecDepth 100000 in
theorem Il (W H:Int) (b off n j:Nat) (xs:List Int) (m:Int) (w:World) (hn:xs.length=n) (ha:Rd w (some ↑(b,off)) xs) (hl:n<=1048576):
 Calls prog 191 #[.agg #[W,H, .slice (some ↑(b,off)) n j],m] w (Ci w W H n (uL W H xs m)):=by
 have V:=Jh hn;have HA:=Jh ha;clear hn ha;go_in;go_wp2_with fail;obtain ⟨KP,c,l,D⟩:=JG ((Blk.new w 31 #[W,H, .slice (some ↑(b,off)) n j]).alloc (.cells ↑Zp 31)) (Blk.zD (g:=w.heap.size+1) (w:=w.alloc (.cells #[W,H, .slice (some ↑(b,off)) n j] 31)) 31 ↑Zp sI) (zM (zM (Below.refl w w) (.cells #[W,H, .slice (some ↑(b,off)) n j] 31)) (.cells ↑Zp 31)) ((HA.Z.alloc (.cells #[W,H, .slice (some ↑(b,off)) n j] 31)).alloc (.cells ↑Zp 31));obtain ⟨P,I⟩:=zN ((w.alloc (.cells #[W,H, .slice (some ↑(b,off)) n j] 31)).alloc (.cells ↑Zp 31):World);have x:Hd (P.heap.size=w.heap.size+1+1):=Jh (by rw [I];simp);rw [<-I] at KP c l D⊢;clear I;obtain ⟨J,L,N,O⟩:=KP.Z.c3;refine (Au W H _ n j xs _ V.Z (by exact D.Z) om).mono ?_;rintro e w4 ⟨rfl,hb⟩;obtain ⟨KP,c,D⟩:=JF (KP.Z.zA hb) (c.Z.zA hb) (D.Z.below hb);have ZB:Hd (P.heap.size<=w4.heap.size):=Jh hb.size;have l:=Jh (zL l.Z hb);clear hb J L N O;obtain ⟨J,L,N,O⟩:=KP.Z.c3;by_cases o:zx W H xs=true
 case neg=>
  have q:Hd (uL W H xs m=(xs,0)):=Jh (by unfold uL;rw [if_neg (fun h=>o h.1)]);have F:zx W H xs=false:=by simpa using o
  rw [F];clear o F;go_wp2_with fail;refine (wZ W H b off n j xs _ V.Z (by exact D.Z) hl).mono ?_;rintro e w5 ⟨oa,oc,rfl,E,hb⟩;have t:Hd (w.heap.size+1<w4.heap.size):=Jh c.Z.lt;obtain ⟨c,l,X⟩:=JF (c.Z.zA hb) (zL l.Z hb) E;clear hb E J L N O;obtain ⟨z0,z,A,C⟩:=c.Z.c3;obtain ⟨f0,f1,f2⟩:=c.Z.f3
  go_wp2
  exact bodyPost_ret (v:= .tuple #[.agg #[W,H, .slice oa n oc],Z0]) (by simp [results,results191,go_sem,z,A,C]) rfl
   ⟨_,_,by rw [q.Z],by rw [q.Z];exact (((X.Z.other (by simp;(try have:=t.Z);omega) _).other (by simp;(try have:=t.Z);omega) _).other (by simp;(try have:=t.Z);omega) _).mono (oh t),
    ((l.Z.setCell sD _).setCell sD _).setCell sD _⟩
 have Y:=Jh o;rw [o];by_cases hm:0<=m/\m<=64
 case neg=>
  have q:Hd (uL W H xs m=(xs,0)):=Jh (by unfold uL;rw [if_neg (fun h=>hm h.2)]);clear o;by_cases h0:m<0
  . clear hm
    go_wp2_with fail;refine (wZ W H b off n j xs _ V.Z (by exact D.Z) hl).mono ?_;rintro e w5 ⟨oa,oc,rfl,E,hb⟩;have t:Hd (w.heap.size+1<w4.heap.size):=Jh c.Z.lt;obtain ⟨c,l,X⟩:=JF (c.Z.zA hb) (zL l.Z hb) E;clear hb E J L N O;obtain ⟨z0,z,A,C⟩:=c.Z.c3;obtain ⟨f0,f1,f2⟩:=c.Z.f3
    go_wp2
    exact bodyPost_ret (v:= .tuple #[.agg #[W,H, .slice oa n oc],Z0]) (by simp [results,results191,go_sem,z,A,C]) rfl
     ⟨_,_,by rw [q.Z],by rw [q.Z];exact (((X.Z.other (by simp;(try have:=t.Z);omega) _).other (by simp;(try have:=t.Z);omega) _).other (by simp;(try have:=t.Z);omega) _).mono (oh t),
      ((l.Z.setCell sD _).setCell sD _).setCell sD _⟩
  have h1:0<=m:=om;have h2:64<m:=om;clear hm h0;go_wp2_with fail
  all_goals (try (exfalso;omega))
  refine (wZ W H b off n j xs _ V.Z (by exact D.Z) hl).mono ?_;rintro e w5 ⟨oa,oc,rfl,E,hb⟩;have t:Hd (w.heap.size+1<w4.heap.size):=Jh c.Z.lt;obtain ⟨c,l,X⟩:=JF (c.Z.zA hb) (zL l.Z hb) E;clear hb E J L N O;obtain ⟨z0,z,A,C⟩:=c.Z.c3;obtain ⟨f0,f1,f2⟩:=c.Z.f3
  go_wp2
  exact bodyPost_ret (v:= .tuple #[.agg #[W,H, .slice oa n oc],Z0]) (by simp [results,results191,go_sem,z,A,C]) rfl
   ⟨_,_,by rw [q.Z],by rw [q.Z];exact (((X.Z.other (by simp;(try have:=t.Z);omega) _).other (by simp;(try have:=t.Z);omega) _).other (by simp;(try have:=t.Z);omega) _).mono (oh t),
    ((l.Z.setCell sD _).setCell sD _).setCell sD _⟩
 obtain ⟨M,hM⟩: ∃M:Nat,m=M:=⟨m.toNat,om⟩
 subst hM;have b1:M<=64:=om;have b2:(M:Int)<=64:=om;have b4:0<=(M:Int):=om;have q:Hd (uL W H xs M=((jB W H M xs).1,((jB W H M xs).2:Int))):=Jh (by unfold uL;rw [if_pos ⟨o,hm⟩];rfl);clear o hm;go_wp2_with fail
 all_goals (try (exfalso;omega))
 refine (VW W H _ n j xs _ V.Z (by exact D.Z) Y.Z).mono ?_;rintro e w5 ⟨f,gi,gc,rfl,hf,hb⟩;obtain ⟨u,c,l⟩:=JF (hf.mono ZB.Z) (c.Z.zA hb) (zL l.Z hb);have HG:Hd (P.heap.size<=gi/\P.heap.size<=gc):=Jh ⟨u.Z.hi,u.Z.hc⟩;clear hf hb J L N O
 go_wp2
 go_loopw [7] (fun s wr=> ∃(k:Nat) (a:List Int),k<=M/\s=↑k/\Hd (jB W H M xs=((jB W H (M - k) a).1,(jB W H (M - k) a).2+k))/\Hd (zx W H a=true)/\Hd (FSt wr P f gi gc W H n a (gen n (yK W H a)))/\Hd (Keep6 (Duo gi gc) w5 wr)) (fun s _=>M - (intOf s).toNat)
 exact ⟨0,xs,nZ,rfl,Jh sI,Y,u,Jh (Keep6.refl _ _)⟩;clear u;obtain ⟨k,a,hk,rfl,HE,T,u,HK⟩:=hrel;by_cases b3:k<M
 . go_wp2_with fail
   refine (iQ u.Z T.Z).mono ?_;rintro e w6 ⟨rfl,hf,b0⟩;obtain ⟨G,R,U⟩:=JF (HK.Z.trans b0) hf (QO T.Z);clear hf b0;by_cases hs:(kJ W H a).2=true
   . have Q:Hd (jB W H M xs=((jB W H (M - (k+1)) (kJ W H a).1).1,(jB W H (M - (k+1)) (kJ W H a).1).2+(k+1))):=Jh (by
      rw [HE.Z,show M - k=M - (k+1)+1 by omega,Oc hs];simp only [];congr 1
      omega)
     rw [hs];clear hs
     go_wp2
     go_roundw
     . exact ⟨k+1,(kJ W H a).1,om,by go_num,Jh (by have e:=Q.Z;push_cast at e⊢;exact e),U,R,G⟩
     exact Jm
   have y:(kJ W H a).2=false:=by simpa using hs
   have Q:Hd (uL W H xs M=(a,(k:Int))):=Jh (by
    rw [q.Z,HE.Z,WT _ y]
    simp)
   rw [y];have u:Hd (FSt w6 P f gi gc W H n a (gen n (yK W H (kJ W H a).1))):=Jh (by have h:=R.Z;rw [oL y] at h⊢;exact h);have q:=Q;have c:=Jh (G.Z.blk c.Z (by have:=HG.Z;have:=x.Z;unfold Duo;omega));have l:=Jh (l.Z.trans (G.Z.below (B:=w.heap.size) (fun i hi=>by have:=HG.Z;have:=x.Z;unfold Duo at hi;omega) l.Z.size));clear hs y;obtain ⟨z0,z,A,C⟩:=c.Z.c3;obtain ⟨f0,f1,f2⟩:=c.Z.f3;obtain ⟨lf,p0,p1,p2,p3⟩:=u.Z.cells
   go_wp2
   exact bodyPost_ret (v:= .tuple #[.agg #[W,H, .slice ↑gi n n],k]) (by simp [results,results191,go_sem,z,A,C]) rfl
    ⟨_,_,by rw [q.Z],by rw [q.Z];exact ((((OwnA.mk u.Z.ink u.Z.hi).other (by simp;(try have:=x.Z);omega) _).other (by simp;(try have:=x.Z);omega) _).other (by simp;(try have:=x.Z);omega) _).mono (oh x),
     ((l.Z.setCell sD _).setCell sD _).setCell sD _⟩
 obtain rfl:k=M:=om
 have Q:Hd (uL W H xs k=(a,(k:Int))):=Jh (by
  rw [q.Z,HE.Z,Nat.sub_self]
  simp [jB])
 have q:=Q;have c:=Jh (HK.Z.blk c.Z (by have:=HG.Z;have:=x.Z;unfold Duo;omega));have l:=Jh (l.Z.trans (HK.Z.below (B:=w.heap.size) (fun i hi=>by have:=HG.Z;have:=x.Z;unfold Duo at hi;omega) l.Z.size));obtain ⟨z0,z,A,C⟩:=c.Z.c3;obtain ⟨f0,f1,f2⟩:=c.Z.f3;obtain ⟨lf,p0,p1,p2,p3⟩:=u.Z.cells
 go_wp2
 exact bodyPost_ret (v:= .tuple #[.agg #[W,H, .slice ↑gi n n],k]) (by simp [results,results191,go_sem,z,A,C]) rfl
  ⟨_,_,by rw [q.Z],by rw [q.Z];exact ((((OwnA.mk u.Z.ink u.Z.hi).other (by simp;(try have:=x.Z);omega) _).other (by simp;(try have:=x.Z);omega) _).other (by simp;(try have:=x.Z);omega) _).mono (oh x),
   ((l.Z.setCell sD _).setCell sD _).setCell sD _⟩
def qU (a b c:Nat) (i:Nat):Prop:=i=a\/i=b\/i=c
def KeepL (S:Nat->Prop) (w v:World):Prop:=Hd (Keep6 S w v)
namespace KeepL
variable {S : Nat → Prop} {w v v' : World}
theorem Z (h:KeepL S w v):Keep6 S w v:=Hd.Z h
theorem mk (h:Keep6 S w v):KeepL S w v:=Jh h
theorem start (S:Nat->Prop) (w:World):KeepL S w w.drew:=mk (Keep6.refl S w).drew
theorem call (h:KeepL S w v) (a:Below v v v'):KeepL S w v':=mk (h.Z.call a)
theorem trans (h:KeepL S w v) (a:Keep6 S v v'):KeepL S w v':=mk (h.Z.trans a)
end KeepL
theorem FSt.other {w:World} {B f gi gc:Nat} {W H:Int} {n:Nat} {xs b:List Int} (h:FSt w B f gi gc W H n xs b) {a:Addr} (h1:a.block≠f) (h2:a.block≠gi) (h3:a.block≠gc) (u:Value):FSt (w.setCell a u) B f gi gc W H n xs b:=
 ⟨h.hf,h.hi,h.hc,h.n1,h.n2,h.n3,h.box.other h1 u,h.ink.other h2 u,h.crowds.other h3 u⟩
set_option maxRecDepth 100000 in
theorem Ip (W H:Int) (b off n y:Nat) (xs:List Int) (w:World) (hn:xs.length=n) (ha:Rd w (some ↑(b,off)) xs) (hl:n<=1048576):
 Calls prog 192 #[.agg #[W,H, .slice (some ↑(b,off)) n y]] w (jq w (uM W H xs)):=by
 have HN:=Jh hn;have HA:=Jh ha;clear hn ha;go_in;go_wp2_with fail;obtain ⟨Q,N,J,RP⟩:=JG ((Blk.new w 31 #[W,H, .slice (some ↑(b,off)) n y]).alloc (.cells ↑Zp 32)) (Blk.zD (g:=w.heap.size+1) (w:=w.alloc (.cells #[W,H, .slice (some ↑(b,off)) n y] 31)) 32 ↑Zp sI) (zM (zM (Below.refl w w) (.cells #[W,H, .slice (some ↑(b,off)) n y] 31)) (.cells ↑Zp 32)) ((HA.Z.alloc (.cells #[W,H, .slice (some ↑(b,off)) n y] 31)).alloc (.cells ↑Zp 32));obtain ⟨wo,e6⟩:=zN ((w.alloc (.cells #[W,H, .slice (some ↑(b,off)) n y] 31)).alloc (.cells ↑Zp 32):World);have ZO:Hd (wo.heap.size=w.heap.size+1+1):=Jh (by rw [e6];simp);rw [<-e6] at Q N J RP⊢;clear e6;obtain ⟨l0,o0,o1,o2⟩:=Q.Z.c3;refine (Au W H _ n y xs _ HN.Z (by exact RP.Z) om).mono ?_;rintro e w4 ⟨rfl,hb⟩;obtain ⟨Q,N,RP,J⟩:=JG (Q.Z.zA hb) (N.Z.zA hb) (RP.Z.below hb) (zL J.Z hb);have ZB:Hd (w.heap.size+1<w4.heap.size):=Jh (zB hb.size ZO.Z);clear hb l0 o0 o1 o2;by_cases C:zx W H xs=true
 case neg=>
  have ER:Hd (uM W H xs=(qh,false)):=Jh (by unfold uM;rw [if_neg C]);have d1:zx W H xs=false:=by simpa using C
  rw [d1];clear C d1;obtain ⟨z0,r0,r1,r2⟩:=N.Z.c3;obtain ⟨f0,f1,f2⟩:=N.Z.f3
  go_wp2
  exact bodyPost_ret (v:= .tuple #[.agg ↑Zp, .bool false]) (by simp [results,results192,go_sem,r0,r1,r2]) rfl
   (by rw [ER.Z];exact ⟨none,0,0,rfl,oN,om,by first | exact J.Z | exact ((J.Z.setCell sD _).setCell sD _).setCell sD _⟩)
 have ER:Hd (uM W H xs=(⟨W,H,uO W H xs⟩,true)):=Jh (by unfold uM;rw [if_pos C]);obtain ⟨b1,b2,b3,b4,b5,b6,b7,b8,b9⟩:=jR HN.Z C;obtain ⟨B5,B8,B9⟩:=JF b5 b8 b9;clear b5 b8 b9;have c8:=Jh C
 have CC:Hd (Xu W H xs=(zZ 1 xs:Int)):=Jh (by
  unfold Xu;rw [if_pos (FB (by unfold zx at C;simp only [Bool.and_eq_true] at C;exact C.1))]
  exact iY (wX B8.Z))
 have dn:zZ 1 xs<=n:=by rw [<-HN.Z];exact Vo _ _
 obtain ⟨u,hu⟩: ∃u,n - zZ 1 xs=u:=⟨_,rfl⟩
 have d3:Hd (uO W H xs=(upG W H xs (zZ 1 xs) (xA W H xs (zZ 1 xs) (List.replicate n 0) (zZ 1 xs)).2 u).2):=Jh (by unfold uO;rw [HN.Z,hu]);have DI:=Jh (fun k (hk:k<=zZ 1 xs)=>ZL c8.Z (List.replicate n 0) k hk);have UI:=Jh (fun k (hk:zZ 1 xs+k<=xs.length)=>Xw c8.Z (zZ 1 xs) (xA W H xs (zZ 1 xs) (List.replicate n 0) (zZ 1 xs)).2 k hk);obtain ⟨d,hd⟩: ∃d,zZ 1 xs=d:=⟨_,rfl⟩
 rw [hd] at CC dn hu d3 DI UI;have HU:Hd (d+u=n):=Jh om;have f5:Hd (xO W H=true):=Jh (QZ b1 b3 (by rw [<-B5.Z];omega));rw [C];clear C hd hu;obtain ⟨l0,o0,o1,o2⟩:=Q.Z.c3;go_wp2_with fail;refine (Zk W H n _ f5.Z B5.Z).mono ?_;rintro e w5 ⟨x,rfl,g3,e3,hb⟩;have e7:Hd (w.heap.size+1<x/\x<w5.heap.size):=Jh ⟨by have:=ZB.Z;omega,e3.lt⟩;obtain ⟨Q,N,RP,J,KM⟩:=JI ((Q.Z.zA hb).alloc (.cells #[W,H, .slice ↑x n n] 32)) ((N.Z.zA hb).alloc (.cells #[W,H, .slice ↑x n n] 32)) ((RP.Z.below hb).alloc (.cells #[W,H, .slice ↑x n n] 32)) (zM (zL J.Z hb) (.cells #[W,H, .slice ↑x n n] 32)) (Blk.new w5 32 #[W,H, .slice ↑x n n]);have I:=Jh (e3.alloc (.cells #[W,H, .slice ↑x n n] 32));obtain ⟨w6,e5⟩:=zN (w5.alloc (.cells #[W,H, .slice ↑x n n] 32));have Z6:Hd (w6.heap.size=w5.heap.size+1):=Jh (by rw [e5];simp);obtain ⟨mb,f4⟩:=zN w5.heap.size;clear g3 e3 hb l0 o0 o1 o2;go_upto_region 4 with fail;rw [<-e5] at Q N RP J KM I⊢;rw [<-f4] at KM e7 Z6⊢;clear e5 f4;obtain ⟨l0,o0,o1,o2⟩:=Q.Z.c3;have T:Hd (∀v,BelowL w6 v->Jc v w W/\Jc v (w,1) H/\Jc v (w,2) (.slice (some ↑(b,off)) n y)/\BelowL w6 v):=Jh (fun v hB=>⟨(hB.Z.cell l0).trans o0,(hB.Z.cell l0).trans o1,(hB.Z.cell l0).trans o2,hB⟩);refine wp_region_held_drew (S:=fun v=>Jc v w W/\Jc v (w,1) H/\Jc v (w,2) (.slice (some ↑(b,off)) n y)/\BelowL w6 v) zK (T.Z _ lS) ?_;intro m;have U:=Xo m;refine zQ 0 ?_;refine zQ 2 ?_;refine zQ 4 ?_;refine yI 1 (fun K hK=>?_);go_simp
 go_at_call 230
 ((with_reducible refine (VW W H _ n y xs _ HN.Z (by exact RP.Z.below U.Z) c8.Z).mono ?_);rintro e v1 ⟨f1,i1,c1,rfl,e0,F⟩);have D:=BelowL.call U F;go_wp2_with fail;refine hK.out _ _ (Jd (T.Z _ D)) (fun m=>?_);clear hK K;refine yI 3 (fun K hK=>?_);go_simp
 go_at_call 230
 ((with_reducible refine (VW W H _ n y xs _ HN.Z (by exact RP.Z.below D.Z) c8.Z).mono ?_);rintro e v2 ⟨f2,i2,c2,rfl,c4,e4⟩);have E:=BelowL.call D e4;go_wp2_with fail;refine hK.out _ _ (Jd (T.Z _ E)) (fun m=>?_);clear hK K;refine yI 5 (fun K hK=>?_);go_simp
 go_at_call 208
 ((with_reducible refine (Df W H _ n y xs _ HN.Z (by exact RP.Z.below E.Z) om).mono ?_);rw [CC.Z];rintro e v3 ⟨rfl,d0⟩);have V:=BelowL.call E d0;go_wp2_with fail;refine hK.out _ _ (Jd (T.Z _ V)) (fun m=>?_);clear hK K;refine zQ 6 ?_;refine zQ 7 ?_;refine zQ 8 ?_;refine wpAnyH_done zK ?_ _;(try go_simp);have E1:Hd (FSt v3 w6.heap.size f1 i1 c1 W H n xs (gen n (yK W H xs))):=Jh ((e0.below e4).below d0);have E2:Hd (FSt v3 v1 f2 i2 c2 W H n xs (gen n (yK W H xs))):=Jh (c4.below d0);obtain ⟨Q,N,KM,I,J⟩:=JI (Q.Z.zA V.Z) (N.Z.zA V.Z) (KM.Z.zA V.Z) (I.Z.below V.Z I.Z.lt) (zL J.Z V.Z)
 have t:Hd (w.heap.size+1<x/\x<mb/\mb<f1/\mb<i1/\mb<c1/\f1<v1.heap.size/\i1<v1.heap.size/\c1<v1.heap.size/\v1.heap.size<=f2/\v1.heap.size<=i2/\v1.heap.size<=c2):=Jh (by
  have z:=Z6.Z;have g:=e7.Z;have l:=e0.lts;have a1:=E1.Z.hf;have a2:=E1.Z.hi;have a3:=E1.Z.hc
  exact ⟨g.1,g.2,om,om,om,l.1,l.2.1,l.2.2,c4.hf,c4.hi,c4.hc⟩)
 clear e0 c4 F e4 d0 U D E V m T l0 o0 o1 o2;obtain ⟨l0,o0,o1,o2⟩:=Q.Z.c3
 go_wp2
 go_loopw [8] (fun s wr=> ∃(k:Nat) (L:Int),k<=d/\s=↑L/\Hd (L+k+1=d)/\-1<=L/\Hd (FSt wr w6.heap.size f1 i1 c1 W H n (xA W H xs d (List.replicate n 0) k).1 (gen n (yK W H (xA W H xs d (List.replicate n 0) k).1)))/\Hd (Own wr x n n (xA W H xs d (List.replicate n 0) k).2)/\Hd (Keep6 (qU i1 c1 x) v3 wr)) (fun s _=>(intOf s+1).toNat)
 exact ⟨0,(d:Int) - 1,nZ,rfl,Jh om,om,E1,I,Jh (Keep6.refl _ _)⟩;clear E1 I;obtain ⟨k,L,hk,rfl,HL,f8,E1,I,O⟩:=hrel;by_cases e2:0<=L
 . have g0:k<d:=by have:=HL.Z;omega
   have g5:L<d:=by have:=HL.Z;omega
   obtain ⟨F1,F2,F3,F4⟩:=DI.Z k om;obtain ⟨i,j1,j2,j3⟩:=Jw (W:=W) (H:=H) (xs:=(xA W H xs d (List.replicate n 0) k).1) om
   have DE:Hd (xA W H xs d (List.replicate n 0) (k+1)=((xA W H xs d (List.replicate n 0) k).1.set i (1 - 1),(xA W H xs d (List.replicate n 0) k).2.set i L)):=Jh (by
    rw [xA,jw,j1,show (d:Int) - 1 - k=L by have:=HL.Z;omega]
    rfl)
   have e1:i<n:=by rw [F2,HN.Z] at j2;exact j2
   have Y:=Jh F1;have HJ:=Jh (And.intro j1 (And.intro j2 j3));clear F1 F2 F3 F4 j1 j2 j3;obtain ⟨A,M⟩: ∃c,(xA W H xs d (List.replicate n 0) k).1=c:=⟨_,rfl⟩
   obtain ⟨rk,c5⟩: ∃c,(xA W H xs d (List.replicate n 0) k).2=c:=⟨_,rfl⟩
   rw [M] at E1 Y HJ DE;rw [c5] at I DE;clear M c5;have d7:=Jh (O.Z.blk KM.Z (by have:=t.Z;unfold qU;omega));have T:Hd (∀v,KeepL (qU i1 c1 x) wr v->v.cell? ⟨mb,2,none⟩=some (.slice ↑x n n)/\KeepL (qU i1 c1 x) wr v):=Jh (fun v hB=>⟨by rw [(hB.Z.blk d7.Z (by have:=t.Z;unfold qU;omega)).cell];rfl,hB⟩);go_upto_region 8 with fail;refine yA 7 T zK (T.Z _ (KeepL.start _ _)) ?_;intro m;have U:=bE m;have d4:Hd (xk A 1 (fun j=>LA (yK W H A j)) A.length=i):=Jh HJ.Z.1;refine zP 0 ?_;refine zP 1 ?_;refine zP 2 ?_;refine zP 5 ?_;refine zf 3 (fun K hK=>?_);go_simp
   go_at_call 233
   ((with_reducible refine (AO _).mono ?_);rintro e x1 ⟨rfl,F⟩);have D:=KeepL.call U F;go_wp2_with fail;refine hK.out _ _ (fun _=>Jd (T.Z _ D)) (fun hH2=>?_);clear hK K m;have m:=hH2 dC;have EA:Hd (FSt x1 w6.heap.size f1 i1 c1 W H n A (gen n (yK W H A))):=Jh (E1.Z.below (kM F));have d6:=Jh (I.Z.below (kM F) I.Z.lt);refine zf 4 (fun K hK=>?_);go_simp
   go_at_call 232
   ((with_reducible refine (Vp 272 LA 1 (Or.inr rfl) rX zAK EA.Z Y.Z i d4.Z HJ.Z.2.1 HJ.Z.2.2).mono ?_);rintro e x2 ⟨rfl,c0,X⟩);have E:=KeepL.trans D (X.mono (fun a ha=>by unfold Duo at ha;unfold qU;omega));go_wp2_with fail;refine hK.out _ _ (fun _=>Jd (T.Z _ E)) (fun b0=>?_);clear hK K m;have m:=b0 dC;obtain ⟨P,d2,d5⟩:=JF (X.own d6.Z (by have:=t.Z;unfold Duo;omega)) (c0.other (a:=↑(x,i)) (oS t.Z) (oS t.Z) (oS t.Z) ↑L) (O.Z.trans E.Z);have g1:=P.Z.cell e1;have g2:=P.Z.frozen i;clear c0 X;refine zP 6 ?_;refine zf 7 (fun K hK=>?_);go_simp;refine hK.out _ _ (fun h=>absurd h dC) (fun d8=>?_);clear hK K d8 b0 hH2 m;refine yG zK ?_ _;(try go_simp)
   go_wp2
   go_roundw
   . exact ⟨k+1,L - 1,om,by go_num,Jh (by have:=HL.Z;push_cast;omega),om,Jh (by rw [DE.Z];exact d2.Z),Jh (by rw [DE.Z];exact P.Z.set i L),Jh (d5.Z.set (Or.inr (Or.inr rfl)) _)⟩
   exact Jm
 obtain rfl:k=d:=by have:=HL.Z;omega
 have g4:L<0:=om;obtain ⟨RK,e8⟩: ∃R,(xA W H xs k (List.replicate n 0) k).2=R:=⟨_,rfl⟩
 rw [e8] at I d3 UI;obtain ⟨KM,Q,N,E2,J⟩:=JI (O.Z.blk KM.Z (by have:=t.Z;unfold qU;omega)) (O.Z.blk Q.Z (by have:=t.Z;unfold qU;omega)) (O.Z.blk N.Z (by have:=t.Z;unfold qU;omega)) (E2.Z.keep O.Z (by have:=t.Z;unfold qU;omega) (by have:=t.Z;unfold qU;omega) (by have:=t.Z;unfold qU;omega)) (J.Z.trans (O.Z.below (B:=w.heap.size) (fun i hi=>by have:=t.Z;unfold qU at hi;omega) J.Z.size));clear e8 E1 O e2 l0 o0 o1 o2
 go_wp2
 go_loopw [9] (fun s wz=> ∃(q:Nat) (L:Int),q<=u/\s=↑L/\Hd (L=(k:Int)+q)/\0<=L/\Hd (FSt wz v1 f2 i2 c2 W H n (upG W H xs k RK q).1 (gen n (yK W H (upG W H xs k RK q).1)))/\Hd (Own wz x n n (upG W H xs k RK q).2)/\Hd (Keep6 (qU i2 c2 x) wr wz)) (fun s _=>n - (intOf s).toNat)
 exact ⟨0,(k:Int),nZ,rfl,Jh om,om,E2,I,Jh (Keep6.refl _ _)⟩;clear E2 I;obtain ⟨q,L,hq,rfl,HL,f8,E2,I,O⟩:=hrel;have f6:=Jh (O.Z.blk Q.Z (by have:=t.Z;unfold qU;omega));obtain ⟨l0,o0,o1,o2⟩:=f6.Z.c3;by_cases e2:L<n
 . have g0:q<u:=by have:=HL.Z;have:=HU.Z;omega
   obtain ⟨F1,F2,F3,F4⟩:=UI.Z q (by have:=HU.Z;rw [HN.Z];omega);obtain ⟨i,j1,j2,j3⟩:=UE (W:=W) (H:=H) (xs:=(upG W H xs k RK q).1) (wX (jR rfl F1).2.2.2.2.2.2.2.1) (by rw [F2,HN.Z];have:=HU.Z;omega)
   have DE:Hd (upG W H xs k RK (q+1)=((upG W H xs k RK q).1.set i (1 - 0),(upG W H xs k RK q).2.set i L)):=Jh (by
    rw [upG,Zu,j1,show (k:Int)+q=L by have:=HL.Z;omega]
    rfl)
   have e1:i<n:=by rw [F2,HN.Z] at j2;exact j2
   have Y:=Jh F1;have HJ:=Jh (And.intro j1 (And.intro j2 j3));clear F1 F2 F3 F4 j1 j2 j3;obtain ⟨A,M⟩: ∃c,(upG W H xs k RK q).1=c:=⟨_,rfl⟩
   obtain ⟨rk,c5⟩: ∃c,(upG W H xs k RK q).2=c:=⟨_,rfl⟩
   rw [M] at E2 Y HJ DE;rw [c5] at I DE;clear M c5;have d7:=Jh (O.Z.blk KM.Z (by have:=t.Z;unfold qU;omega));have T:Hd (∀v,KeepL (qU i2 c2 x) wr v->v.cell? ⟨mb,2,none⟩=some (.slice ↑x n n)/\KeepL (qU i2 c2 x) wr v):=Jh (fun v hB=>⟨by rw [(hB.Z.blk d7.Z (by have:=t.Z;unfold qU;omega)).cell];rfl,hB⟩);go_upto_region 12 with fail;refine yA 7 T zK (T.Z _ (KeepL.start _ _)) ?_;intro m;have U:=bE m;have d4:Hd (xk A 0 (fun j=>PI (yK W H A j)) A.length=i):=Jh HJ.Z.1;refine zP 0 ?_;refine zP 1 ?_;refine zP 2 ?_;refine zP 5 ?_;refine zf 3 (fun K hK=>?_);go_simp
   go_at_call 234
   ((with_reducible refine (Dj _).mono ?_);rintro e x1 ⟨rfl,F⟩);have D:=KeepL.call U F;go_wp2_with fail;refine hK.out _ _ (fun _=>Jd (T.Z _ D)) (fun hH2=>?_);clear hK K m;have m:=hH2 dC;have EA:Hd (FSt x1 v1 f2 i2 c2 W H n A (gen n (yK W H A))):=Jh (E2.Z.below (kM F));have d6:=Jh (I.Z.below (kM F) I.Z.lt);refine zf 4 (fun K hK=>?_);go_simp
   go_at_call 232
   ((with_reducible refine (Vp 189 PI 0 (Or.inl rfl) zCw zDG EA.Z Y.Z i d4.Z HJ.Z.2.1 HJ.Z.2.2).mono ?_);rintro e x2 ⟨rfl,c0,X⟩);have E:=KeepL.trans D (X.mono (fun a ha=>by unfold Duo at ha;unfold qU;omega));go_wp2_with fail;refine hK.out _ _ (fun _=>Jd (T.Z _ E)) (fun b0=>?_);clear hK K m;have m:=b0 dC;obtain ⟨P,d2,d5⟩:=JF (X.own d6.Z (by have:=t.Z;unfold Duo;omega)) (c0.other (a:=↑(x,i)) (oS t.Z) (oS t.Z) (oS t.Z) ↑L) (O.Z.trans E.Z);have g1:=P.Z.cell e1;have g2:=P.Z.frozen i;clear c0 X;refine zP 6 ?_;refine zf 7 (fun K hK=>?_);go_simp;refine hK.out _ _ (fun h=>absurd h dC) (fun d8=>?_);clear hK K d8 b0 hH2 m;refine yG zK ?_ _;(try go_simp)
   go_wp2
   go_roundw
   . exact ⟨q+1,L+1,om,by go_num,Jh (by have:=HL.Z;push_cast;omega),om,Jh (by rw [DE.Z];exact d2.Z),Jh (by rw [DE.Z];exact P.Z.set i L),Jh (d5.Z.set (Or.inr (Or.inr rfl)) _)⟩
   exact Jm
 obtain rfl:q=u:=by have:=HL.Z;have:=HU.Z;omega
 have g6:(n:Int)<=L:=om;obtain ⟨KM,N,J⟩:=JF (O.Z.blk KM.Z (by have:=t.Z;unfold qU;omega)) (O.Z.blk N.Z (by have:=t.Z;unfold qU;omega)) (J.Z.trans (O.Z.below (B:=w.heap.size) (fun i hi=>by have:=t.Z;unfold qU at hi;omega) J.Z.size));obtain ⟨z0,r0,r1,r2⟩:=N.Z.c3;obtain ⟨f0,f1,f2⟩:=N.Z.f3;obtain ⟨lm,m0,m1,m2⟩:=KM.Z.c3;clear e2
 go_wp2
 exact bodyPost_ret (v:= .tuple #[.agg #[W,H, .slice ↑x n n], .bool true]) (by simp [results,results192,go_sem,r0,r1,r2]) rfl
  (by
   rw [ER.Z];refine ⟨_,_,_,rfl,OwnA.mk (g:=x) ?_ (oh t),om,?_⟩;show Own _ x n n (uO W H xs);rw [d3.Z];exact ((I.Z.other (oS t.Z) _).other (oS t.Z) _).other (oS t.Z) _
   exact ((J.Z.setCell sD _).setCell sD _).setCell sD _)
end Go.Proofs.YtlenfgdjdianiaaGreatDoor
