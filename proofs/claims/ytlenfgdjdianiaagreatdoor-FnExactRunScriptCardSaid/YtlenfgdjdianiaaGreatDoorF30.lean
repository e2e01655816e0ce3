/- Facts on which this claim rests, 30. -/
import Derived.Test.YtlenfgdjdianiaaGreatDoorF29
set_option linter.all false
set_option maxHeartbeats 6400000
namespace Go.Proofs.YtlenfgdjdianiaaGreatDoor
open Go.RowKit Tq Go.Proofs.Tryz
variable {B f gc gi i n : Nat} {H W v : Int} {key : Int → Int} {w : World} {xs : List Int}
theorem zEO (hn:xs.length=n):yq xs v (fun j=>key ((gen n (yA W H xs)).getD j 0)) n=yq xs v (fun j=>key (yA W H xs j)) xs.length:=by
 rw [hn];exact ((Ud xs v (fun j=>key ((gen n (yA W H xs)).getD j 0)) n).congr (fun j a=>by simp only [yN _ _ _ a])).one (Ud xs v _ n)
theorem zIV (a xs:List Int) (k:Nat) (h:k<xs.length) (hl:xs.length=a.length):(zn a xs k).getD k 0=xs.getD k 0:=by
 have e:(a.take k).length=k:=by rw [Yj];omega
 unfold zn;simp only [List.getD];rw [List.getElem?_append_right om,e,Nat.sub_self,List.getElem?_drop];simp
theorem zIR (hv:v=0\/v=1) (hi:i<xs.length) (h:xs.getD i 0=v) (k:Nat):yA W H (xs.set i (1 - v)) k=yA W H xs k+(1 - 2*v)*wtG W H k i:=by
 rcases hv with rfl | rfl
 have:=zKR (W:=W) (H:=H) k hi h;simp only [Int.sub_zero,Int.mul_zero,Int.one_mul];exact this;have:=zIS (W:=W) (H:=H) k hi h;rw [show (1:Int) - 1=0 by decide,this];omega
set_option maxRecDepth 100000 in
theorem XO (h:Nat) (key:Int->Int) (v:Int) (hv:v=0\/v=1) (eh: ∀args w,(callFunc h args).run prog w= .ok (.enter h args) w) (ho:zAW h key) (F:FSt w B f gi gc W H n xs (gen n (yA W H xs))) (z:zf W H xs=true)
 (i:Nat) (hb:yq xs v (fun j=>key (yA W H xs j)) xs.length=i) (hi:i<xs.length) (hx:xs.getD i 0=v):
 Calls prog 232 #[.pointer ↑f, .agg #[.int .i64 v, .func (.func h) #[] #[]]] w fun e w'=>e= .returned ↑i/\FSt w' B f gi gc W H n (xs.set i (1 - v)) (gen n (yA W H (xs.set i (1 - v))))/\Keep6 (Duo gi gc) w w':=by
 have V:=Jh F.ink.len;obtain ⟨b1,b2,b3,b4,b5,b6,b7,b8,b9⟩:=xn V.Z z;have B5:=Jh b5;have B8:=Jh b8;have B9:=Jh b9;clear b5 b8 b9;have e3:=Jh z;have HX:=Jh hx;have EB:Hd (yq xs v (fun j=>key ((gen n (yA W H xs)).getD j 0)) n=i):=Jh (by rw [zEO V.Z];exact hb);have M:i<n:=by rw [<-V.Z];exact hi
 have u:=Jh ho;have EH:=Jh eh;have HV:=Jh hv;obtain ⟨V2,d0⟩: ∃x,2*v=x:=⟨_,rfl⟩
 obtain ⟨t,b0⟩: ∃x,1 - V2=x:=⟨_,rfl⟩
 obtain ⟨l,J⟩: ∃x,1 - v=x:=⟨_,rfl⟩
 have a1:IntKind.i64.wrap (2*v)=V2:=by rw [d0];exact Yc _ om
 have a2:IntKind.i64.wrap (1 - V2)=t:=by rw [b0];exact Yc _ om
 have a3:IntKind.i64.wrap (v+t)=l:=by rw [show v+t=l by omega];exact Yc _ om
 have d6:Hd (t=1\/t=-1):=Jh om;have d7:Hd (t=1 - 2*v):=Jh om;have e1:Hd (1 - v=l):=Jh J;have CF:Hd (∀k,yA W H (xs.set i l) k=yA W H xs k+t*wtG W H k i):=Jh (fun k=>by rw [<-e1.Z,zIR HV.Z hi HX.Z,d7.Z]);have e7:Hd (zf W H (xs.set i l)=true):=Jh (VX z i om);rw [J];have y:=Jh ((Blk.new w 211 #[.int .i64 v, .func (.func h) #[] #[]]));have b:=Jh (F.alloc (.cells #[.int .i64 v, .func (.func h) #[] #[]] 211));have U:=Jh (Joins.below_alloc1 w (.cells #[.int .i64 v, .func (.func h) #[] #[]] 211));have f5:=Jh F.lts;clear F z hx hb hi ho eh hv d0 b0 J;go_in;go_upto_region 1 with fail;obtain ⟨wo,d5⟩:=zN (w.alloc (.cells #[.int .i64 v, .func (.func h) #[] #[]] 211):World);rw [<-d5] at y b U⊢;clear d5;have lb:=y.Z.lt;have k0:wo.cell? ⟨w.heap.size,0,none⟩=some (.int .i64 v):=by rw [y.Z.cell];rfl
 have k1:wo.cell? ⟨w.heap.size,1,none⟩=some (.func (.func h) #[] #[]):=by rw [y.Z.cell];rfl
 go_wp2_with fail;refine (QE h key v EH.Z u.Z b.Z b6).mono ?_;rw [EB.Z];rintro e w4 ⟨rfl,hb⟩;have y:=Jh (y.Z.zA hb);have b:=Jh (b.Z.below hb);have U:=Jh (zI U.Z hb);clear hb lb k0 k1;have g3:0<=(i:Int):=om;obtain ⟨A,p0,p1,p2,p3⟩:=b.Z.cells;have lb:=y.Z.lt;have k0:w4.cell? ⟨w.heap.size,0,none⟩=some (.int .i64 v):=by rw [y.Z.cell];rfl
 have g1:=b.Z.ink.cell M;rw [HX.Z] at g1;have g2:=b.Z.ink.frozen i;have HS:=Jh (b.Z.ink.set i l);go_upto_region 6 with fail;obtain ⟨O,q⟩:=zN (w4.setCell (gi,i) ↑l:World);have E:Hd (Blk O f 208 #[W,H, .slice ↑gi n n, .slice ↑gc n n]):=Jh (by rw [q];exact b.Z.box.other (by exact fun e=>b.Z.n1 e.symm) _);have e4:Hd (Own O gc n n (gen n (yA W H xs))):=Jh (by rw [q];exact b.Z.crowds.other (by exact b.Z.n3) _);have e5:Hd (Own O gi n n (xs.set i l)):=Jh (by rw [q];exact HS.Z);have e6:Hd (Keep6 (Duo gi gc) w O):=Jh (by rw [q];exact (Keep6.zE U.Z).set (Or.inl rfl) _);have N1:=Jh b.Z.n1;have N2:=Jh b.Z.n2;have N3:=Jh b.Z.n3;have HH:=Jh (And.intro b.Z.hf (And.intro b.Z.hi b.Z.hc));rw [<-q];clear q A p0 p1 p2 p3 lb k0 g1 g2 HS y b U u EH EB;have A:=E.Z.lt;have p3:O.cell? (f,3)=some (.slice ↑gc n n):=by rw [E.Z.cell];rfl
 have CI:=Jh (fun (k:Nat) (hk:k<n) (v:World)=>QC W H ↑gi n n k v b1 om B5.Z b6 hk);have CW:=Jh (fun (k:Nat) (hk:k<n) (v:World)=>Zt W H ↑gi n n i k v b1 om b3 om B5.Z b6 M hk);go_wp2_with fail
 go_loopw [33] (fun s wr=> ∃k:Nat,k<=n/\s= .int .i64 k/\Hd (Own wr gc n n (zn (gen n (yA W H (xs.set i l))) (gen n (yA W H xs)) k))/\Hd (Keep6 (fun i=>i=gc) O wr)) (fun s _=>n - (intOf s).toNat)
 case atStart=>exact ⟨0,nZ,rfl,Jh (by rw [yh];exact e4.Z),Jh (Keep6.refl _ _)⟩
 obtain ⟨k,hk,rfl,u,HK⟩:=hrel;have m:=Jh (HK.Z.blk E.Z N2.Z);by_cases c:k<n
 . have C1:=Jh (CI.Z i M)
   have C2:=Jh (CI.Z k c);have C3:=Jh (CW.Z k c);obtain ⟨P,hP⟩: ∃P,(i:Int) % W=P:=⟨_,rfl⟩
   obtain ⟨Q,hQ⟩: ∃Q,(i:Int)/W=Q:=⟨_,rfl⟩
   obtain ⟨P',c5⟩: ∃P,(k:Int) % W=P:=⟨_,rfl⟩
   obtain ⟨Q',c8⟩: ∃Q,(k:Int)/W=Q:=⟨_,rfl⟩
   rw [hP,hQ] at C1 C3;rw [c5,c8] at C2 C3;have hs:=yd (gen n (yA W H (xs.set i l))) (gen n (yA W H xs)) k _ (by rw [zZ];exact c) (by rw [zZ];exact c) (yN _ _ _ c);have I:=u.Z.cell c;rw [zIV _ _ _ (by rw [zZ];exact c) (by rw [zZ,zZ]),yN _ _ _ c] at I;have f6:=u.Z.frozen k;obtain ⟨c1,c2⟩:=VT V.Z e3.Z k;obtain ⟨d1,d2⟩:=VT (n:=n) (by rw [List.length_set];exact V.Z) e7.Z k;obtain ⟨t1,t2⟩:=zBk b1 b3 i k;have g:=CF.Z k;rw [zQF b1 b3 k i] at g;obtain ⟨C,hC⟩: ∃C,yA W H xs k=C:=⟨_,rfl⟩
   obtain ⟨D,hD⟩: ∃D,yA W H (xs.set i l) k=D:=⟨_,rfl⟩
   obtain ⟨T,hT⟩: ∃T,wtG W H i k=T:=⟨_,rfl⟩
   rw [hC] at c1 c2 I g;rw [hD] at d1 d2 hs g;rw [hT] at t1 t2 C3 g;obtain ⟨X,hX⟩: ∃X,t*T=X:=⟨_,rfl⟩
   rw [hX] at g;have x1:-4096<=X/\X<=4096:=by rcases d6.Z with e | e <;>rw [e] at hX <;>omega
   have u1:IntKind.i64.wrap (t*T)=X:=by rw [hX];exact Yc _ om
   have u2:IntKind.i64.wrap (C+X)=D:=by rw [g];exact Yc _ om
   have HS:=Jh hs;clear hs hP hQ c5 c8 hC hD hT hX g A p3 x1;obtain ⟨A,p0,p1,p2,p3⟩:f<wr.heap.size/\JB wr f W H (.slice ↑gi n n) (Jc wr (f,3) (.slice ↑gc n n)):=⟨m.Z.lt,by rw [m.Z.cell];rfl,by rw [m.Z.cell];rfl,by rw [m.Z.cell];rfl,by rw [m.Z.cell];rfl⟩
   have lg:=u.Z.lt;go_upto_region 9 with fail;have MK:Hd (∀v,BelowL wr v->(JB v f W H (.slice ↑gi n n) (Jc v (f,3) (.slice ↑gc n n)/\v.cell? ⟨gc,k,none⟩=some (.int .i64 C)/\BelowL wr v):Prop)):=Jh (fun v N=>⟨(N.Z.cell A).trans p0,(N.Z.cell A).trans p1,(N.Z.cell A).trans p2,(N.Z.cell A).trans p3,(N.Z.cell lg).trans I,N⟩);refine zh 28 MK zK (MK.Z _ lS) ?_;intro a;have f0:=zLI a;refine zM 0 ?_;refine zM 1 ?_;refine zM 2 ?_;refine zM 3 ?_;refine zM 4 ?_;refine zM 5 ?_;refine zM 6 ?_;refine zM 7 ?_;refine zM 8 ?_;refine zM 9 ?_;refine zM 10 ?_;refine zM 11 ?_;refine zM 12 ?_;refine zM 13 ?_;refine zM 14 ?_;refine zM 15 ?_;refine zM 16 ?_;refine zM 18 ?_;refine zM 19 ?_;refine zM 20 ?_;refine zM 21 ?_;refine zM 22 ?_;refine zW 17 (fun K hK=>?_);go_simp
   go_at_call 269
   ((with_reducible refine (C1.Z _).mono ?_);rintro e v1 ⟨rfl,f1⟩);have d3:=BelowL.call f0 f1;go_wp2_with fail;refine hK.out _ _ (fun _=>Jd (MK.Z _ d3)) (fun hH2=>?_);clear hK K a;have a:=hH2 dC;refine zW 23 (fun K hK=>?_);go_simp
   go_at_call 269
   ((with_reducible refine (C2.Z _).mono ?_);rintro e v2 ⟨rfl,f2⟩);have d4:=BelowL.call d3 f2;go_wp2_with fail;refine hK.out _ _ (fun _=>Jd (MK.Z _ d4)) (fun c0=>?_);clear hK K a;have a:=c0 dC;refine zW 24 (fun K hK=>?_);go_simp
   go_at_call 271
   ((with_reducible refine (C3.Z _).mono ?_);rintro e v3 ⟨rfl,f4⟩);have L:=BelowL.call d4 f4;go_wp2_with fail;refine hK.out _ _ (fun _=>Jd (MK.Z _ L)) (fun c4=>?_);clear hK K a;have a:=c4 dC;have Y:=Jh (u.Z.below L.Z u.Z.lt);have e0:=Jh (HK.Z.call L.Z);have f8:=a.2.2.2.2.1;have g0:=Y.Z.frozen k;refine zM 25 ?_;refine zM 26 ?_;refine zM 27 ?_;refine zW 28 (fun K hK=>?_);go_simp;refine hK.out _ _ (fun h=>absurd h dC) (fun e8=>?_);clear hK K e8 c4 c0 hH2 a;refine zx zK ?_ _;(try go_simp);go_wp2_with fail;go_roundw
   case rel=>exact ⟨k+1,om,by go_num,Jh (by rw [<-HS.Z];exact Y.Z.set k D),Jh (e0.Z.set rfl _)⟩
   exact Jm
 obtain rfl:k=n:=om;have e2:Hd (Own wr gc k k (gen k (yA W H (xs.set i l)))):=Jh (by have h:=u.Z;rwa [xY _ _ _ (zZ _ _) (zZ _ _)] at h);have HR:Hd (FSt wr B f gi gc W H k (xs.set i l) (gen k (yA W H (xs.set i l)))):=Jh ⟨HH.Z.1,HH.Z.2.1,HH.Z.2.2,N1.Z,N2.Z,N3.Z,m.Z,HK.Z.own e5.Z N3.Z,e2.Z⟩;have d8:=Jh (e6.Z.trans (HK.Z.mono (fun i hi=>Or.inr hi)));go_wp2_with fail;go_ret;exact ⟨rfl,HR.Z,d8.Z⟩
theorem zCG (h:Nat) (key:Int->Int) (v:Int) (k: ∀args w,(callFunc h args).run prog w= .ok (.enter h args) w) (l:zAW h key) (F:FSt w B f gi gc W H n xs (gen n (yA W H xs))) (hn:n<=256)
 (hb:yq xs v (fun j=>key (yA W H xs j)) xs.length=-1):
 Calls prog 232 #[.pointer ↑f, .agg #[v, .func (.func h) #[] #[]]] w (zR (.int .i64 (-1)) w):=by
 have o:Hd (yq xs v (fun j=>key ((gen n (yA W H xs)).getD j 0)) n=-1):=Jh (by rw [zEO F.ink.len];exact hb);have s:=Jh l;have q:=Jh k;have c:=Jh ((Blk.new w 211 #[v, .func (.func h) #[] #[]]));have g:=Jh (F.alloc (.cells #[v, .func (.func h) #[] #[]] 211));have b:=Jh (Joins.below_alloc1 w (.cells #[v, .func (.func h) #[] #[]] 211));clear F hb l k;go_in;go_upto_region 1 with fail;obtain ⟨m,a⟩:=zN (w.alloc (.cells #[v, .func (.func h) #[] #[]] 211):World);rw [<-a] at c g b⊢;clear a;have u:=c.Z.lt;have t:m.cell? ⟨w.heap.size,0,none⟩=some ↑v:=by rw [c.Z.cell];rfl
 have k1:m.cell? ⟨w.heap.size,1,none⟩=some (.func (.func h) #[] #[]):=by rw [c.Z.cell];rfl
 go_wp2_with fail;refine (QE h key v q.Z s.Z g.Z hn).mono ?_;rw [o.Z];rintro e x ⟨rfl,hb⟩;have b:=Jh (zI b.Z hb);clear hb u t k1;go_wp2_with fail;go_ret;exact ⟨rfl,b.Z⟩
theorem zKn (F:FSt w B f gi gc W H n xs (gen n (yA W H xs))) (c:zf W H xs=true):
 Calls prog 231 #[.pointer ↑f] w fun e w'=>e= .returned (.bool (xG W H xs).2)/\FSt w' B f gi gc W H n (xG W H xs).1 (gen n (yA W H (xG W H xs).1))/\Keep6 (Duo gi gc) w w':=by
 have x:=Jh F.ink.len;have y:=(xn x.Z c).2.2.2.2.2.1;have m:=Jh c;have a:=Jh F;clear F c;go_in;go_wp2_with fail;refine (Jx _).mono ?_;rintro e w1 ⟨rfl,hb⟩;have a:=Jh (a.Z.below hb);have l:=Jh hb;clear hb;go_wp2_with fail;rcases qY W H xs with ⟨h1,h2⟩ | ⟨i,h1,h2,h3⟩
 . have g:Hd (xG W H xs=(xs,false)):=Jh (by unfold xG;rw [if_pos om])
   refine (zCG 272 zCJ 1 zND zNq a.Z y h1).mono ?_;rintro e w2 ⟨rfl,hb⟩;have a:=Jh (a.Z.below hb);have l:=Jh (zI l.Z hb);clear hb h1 h2;go_wp2_with fail;go_ret;rw [g.Z];exact ⟨rfl,a.Z,Keep6.zE l.Z⟩
 refine (XO 272 zCJ 1 (Or.inr rfl) zND zNq a.Z m.Z i h1 h2 h3).mono ?_;rintro e w2 ⟨rfl,hf,hk⟩;have u:Hd (kS W H xs=xs.set i (1 - 1)):=Jh (by unfold kS;rw [h1];rfl);rw [<-u.Z] at hf;have a:=Jh hf;have j:=Jh ((Keep6.zE (S:=Duo gi gc) l.Z).trans hk);have o:=Jh (ZJ m.Z);have hw:=Jo (W:=W) (H:=H) h2;rw [show xs.set i 0=kS W H xs by rw [u.Z];rfl] at hw;obtain ⟨k,k1,k2,k3⟩:=hw;have q:k<(kS W H xs).length:=by rw [Xd];exact k2
 have g:Hd (xG W H xs=((kS W H xs).set k (1 - 0),decide ((k:Int)≠i))):=Jh (by
  unfold xG um;rw [if_neg om,k1,h1]
  simp)
 have t:=Jh (And.intro k1 (And.intro q k3));clear hf hk h1 h2 h3 k1 k2 k3 q l;have z:0<=(i:Int):=om;go_wp2_with fail;refine (QG _).mono ?_;rintro e C ⟨rfl,hb⟩;have a:=Jh (a.Z.below hb);have j:=Jh (j.Z.call hb);clear hb;go_wp2_with fail;refine (XO 189 zFG 0 (Or.inl rfl) zQV zQe a.Z o.Z k t.Z.1 t.Z.2.1 t.Z.2.2).mono ?_;rintro e D ⟨rfl,hf,hk⟩;have a:=Jh hf;have j:=Jh (j.Z.trans hk);clear hf hk;by_cases b:(k:Int)=(i:Int)
 . have hd:decide ((k:Int)≠i)=false:=by simp [b]
   rw [hd] at g;have A:((k:Int) !=(i:Int))=false:=by simp [b]
   have s:=Jh b;clear hd b;go_wp2_with fail;go_ret;rw [g.Z];exact ⟨rfl,a.Z,j.Z⟩
 have hd:decide ((k:Int)≠i)=true:=sO;rw [hd] at g;have A:((k:Int) !=(i:Int))=true:=sO;have s:=Jh b;clear hd b;go_wp2_with fail;go_ret;rw [g.Z];exact ⟨rfl,a.Z,j.Z⟩
set_option maxRecDepth 100000 in
theorem zBy (W H:Int) (b off n j:Nat) (xs:List Int) (m:Int) (w:World) (hn:xs.length=n) (ha:Rd w (some ↑(b,off)) xs) (hl:n<=1048576):
 Calls prog 191 #[.agg #[W,H, .slice (some ↑(b,off)) n j],m] w (Ub w W H n (jN W H xs m)):=by
 have V:=Jh hn;have HA:=Jh ha;clear hn ha;go_in;go_wp2_with fail;have KP:=Jh ((Blk.new w 31 #[W,H, .slice (some ↑(b,off)) n j]).alloc (.cells ↑Zp 31));have c:=Jh (Blk.zD (g:=w.heap.size+1) (w:=w.alloc (.cells #[W,H, .slice (some ↑(b,off)) n j] 31)) 31 ↑Zp sI);have l:=Jh (zJ (zJ (Below.refl w w) (.cells #[W,H, .slice (some ↑(b,off)) n j] 31)) (.cells ↑Zp 31));have D:=Jh ((HA.Z.alloc (.cells #[W,H, .slice (some ↑(b,off)) n j] 31)).alloc (.cells ↑Zp 31));obtain ⟨P,I⟩:=zN ((w.alloc (.cells #[W,H, .slice (some ↑(b,off)) n j] 31)).alloc (.cells ↑Zp 31):World);have x:Hd (P.heap.size=w.heap.size+1+1):=Jh (by rw [I];simp);rw [<-I] at KP c l D⊢;clear I;obtain ⟨J,L,N,O⟩:=KP.Z.c3;refine (Va W H _ n j xs _ V.Z (by exact D.Z) om).mono ?_;rintro e w4 ⟨rfl,hb⟩;have KP:=Jh (KP.Z.zA hb);have c:=Jh (c.Z.zA hb);have D:=Jh (D.Z.below hb);have ZB:Hd (P.heap.size<=w4.heap.size):=Jh hb.size;have l:=Jh (zI l.Z hb);clear hb J L N O;obtain ⟨J,L,N,O⟩:=KP.Z.c3;by_cases o:zf W H xs=true
 case neg=>
  have q:Hd (jN W H xs m=(xs,0)):=Jh (by unfold jN;rw [if_neg (fun h=>o h.1)]);have F:zf W H xs=false:=by simpa using o
  rw [F];clear o F;go_wp2_with fail;refine (uB W H b off n j xs _ V.Z (by exact D.Z) hl).mono ?_;rintro e w5 ⟨oa,oc,rfl,E,hb⟩;have t:Hd (w.heap.size+1<w4.heap.size):=Jh c.Z.lt;have c:=Jh (c.Z.zA hb);have l:=Jh (zI l.Z hb);have X:=Jh E;clear hb E J L N O;obtain ⟨z0,z,A,C⟩:=c.Z.c3;obtain ⟨f0,f1,f2⟩:=c.Z.f3;go_wp2_with fail
  exact bodyPost_ret (v:= .tuple #[.agg #[W,H, .slice oa n oc],Z0]) (by simp [results,results191,go_sem,z,A,C]) rfl
   ⟨_,_,by rw [q.Z],by rw [q.Z];exact (((X.Z.other (by simp;(try have:=t.Z);omega) _).other (by simp;(try have:=t.Z);omega) _).other (by simp;(try have:=t.Z);omega) _).mono (oh t),
    ((l.Z.setCell sD _).setCell sD _).setCell sD _⟩
 have Y:=Jh o;rw [o];by_cases hm:0<=m/\m<=64
 case neg=>
  have q:Hd (jN W H xs m=(xs,0)):=Jh (by unfold jN;rw [if_neg (fun h=>hm h.2)]);clear o;by_cases h0:m<0
  . clear hm
    go_wp2_with fail;refine (uB W H b off n j xs _ V.Z (by exact D.Z) hl).mono ?_;rintro e w5 ⟨oa,oc,rfl,E,hb⟩;have t:Hd (w.heap.size+1<w4.heap.size):=Jh c.Z.lt;have c:=Jh (c.Z.zA hb);have l:=Jh (zI l.Z hb);have X:=Jh E;clear hb E J L N O;obtain ⟨z0,z,A,C⟩:=c.Z.c3;obtain ⟨f0,f1,f2⟩:=c.Z.f3;go_wp2_with fail
    exact bodyPost_ret (v:= .tuple #[.agg #[W,H, .slice oa n oc],Z0]) (by simp [results,results191,go_sem,z,A,C]) rfl
     ⟨_,_,by rw [q.Z],by rw [q.Z];exact (((X.Z.other (by simp;(try have:=t.Z);omega) _).other (by simp;(try have:=t.Z);omega) _).other (by simp;(try have:=t.Z);omega) _).mono (oh t),
      ((l.Z.setCell sD _).setCell sD _).setCell sD _⟩
  have h1:0<=m:=om;have h2:64<m:=om;clear hm h0;go_wp2_with fail
  all_goals (try (exfalso;omega))
  refine (uB W H b off n j xs _ V.Z (by exact D.Z) hl).mono ?_;rintro e w5 ⟨oa,oc,rfl,E,hb⟩;have t:Hd (w.heap.size+1<w4.heap.size):=Jh c.Z.lt;have c:=Jh (c.Z.zA hb);have l:=Jh (zI l.Z hb);have X:=Jh E;clear hb E J L N O;obtain ⟨z0,z,A,C⟩:=c.Z.c3;obtain ⟨f0,f1,f2⟩:=c.Z.f3;go_wp2_with fail
  exact bodyPost_ret (v:= .tuple #[.agg #[W,H, .slice oa n oc],Z0]) (by simp [results,results191,go_sem,z,A,C]) rfl
   ⟨_,_,by rw [q.Z],by rw [q.Z];exact (((X.Z.other (by simp;(try have:=t.Z);omega) _).other (by simp;(try have:=t.Z);omega) _).other (by simp;(try have:=t.Z);omega) _).mono (oh t),
    ((l.Z.setCell sD _).setCell sD _).setCell sD _⟩
 obtain ⟨M,hM⟩: ∃M:Nat,m=M:=⟨m.toNat,om⟩
 subst hM;have b1:M<=64:=om;have b2:(M:Int)<=64:=om;have b4:0<=(M:Int):=om;have q:Hd (jN W H xs M=((xX W H M xs).1,((xX W H M xs).2:Int))):=Jh (by unfold jN;rw [if_pos ⟨o,hm⟩];rfl);clear o hm;go_wp2_with fail
 all_goals (try (exfalso;omega))
 refine (YU W H _ n j xs _ V.Z (by exact D.Z) Y.Z).mono ?_;rintro e w5 ⟨f,gi,gc,rfl,hf,hb⟩;have u:=Jh (hf.mono ZB.Z);have c:=Jh (c.Z.zA hb);have l:=Jh (zI l.Z hb);have HG:Hd (P.heap.size<=gi/\P.heap.size<=gc):=Jh ⟨u.Z.hi,u.Z.hc⟩;clear hf hb J L N O;go_wp2_with fail
 go_loopw [7] (fun s wr=> ∃(k:Nat) (a:List Int),k<=M/\s=↑k/\Hd (xX W H M xs=((xX W H (M - k) a).1,(xX W H (M - k) a).2+k))/\Hd (zf W H a=true)/\Hd (FSt wr P f gi gc W H n a (gen n (yA W H a)))/\Hd (Keep6 (Duo gi gc) w5 wr)) (fun s _=>M - (intOf s).toNat)
 case atStart=>exact ⟨0,xs,nZ,rfl,Jh sI,Y,u,Jh (Keep6.refl _ _)⟩
 clear u;obtain ⟨k,a,hk,rfl,HE,T,u,HK⟩:=hrel;by_cases b3:k<M
 . go_wp2_with fail
   refine (zKn u.Z T.Z).mono ?_;rintro e w6 ⟨rfl,hf,b0⟩;have G:=Jh (HK.Z.trans b0);have R:=Jh hf;have U:=Jh (JG T.Z);clear hf b0;by_cases hs:(xG W H a).2=true
   . have Q:Hd (xX W H M xs=((xX W H (M - (k+1)) (xG W H a).1).1,(xX W H (M - (k+1)) (xG W H a).1).2+(k+1))):=Jh (by
      rw [HE.Z,show M - k=M - (k+1)+1 by omega,zEi hs];simp only [];congr 1
      omega)
     rw [hs];clear hs;go_wp2_with fail;go_roundw
     case rel=>exact ⟨k+1,(xG W H a).1,om,by go_num,Jh (by have e:=Q.Z;push_cast at e⊢;exact e),U,R,G⟩
     exact Jm
   have y:(xG W H a).2=false:=by simpa using hs
   have Q:Hd (jN W H xs M=(a,(k:Int))):=Jh (by
    rw [q.Z,HE.Z,zHl _ y]
    simp)
   rw [y];have u:Hd (FSt w6 P f gi gc W H n a (gen n (yA W H (xG W H a).1))):=Jh (by have h:=R.Z;rw [zMQ y] at h⊢;exact h);have q:=Q;have c:=Jh (G.Z.blk c.Z (by have:=HG.Z;have:=x.Z;unfold Duo;omega));have l:=Jh (l.Z.trans (G.Z.below (B:=w.heap.size) (fun i hi=>by have:=HG.Z;have:=x.Z;unfold Duo at hi;omega) l.Z.size));clear hs y;obtain ⟨z0,z,A,C⟩:=c.Z.c3;obtain ⟨f0,f1,f2⟩:=c.Z.f3;obtain ⟨lf,p0,p1,p2,p3⟩:=u.Z.cells;go_wp2_with fail
   exact bodyPost_ret (v:= .tuple #[.agg #[W,H, .slice ↑gi n n],k]) (by simp [results,results191,go_sem,z,A,C]) rfl
    ⟨_,_,by rw [q.Z],by rw [q.Z];exact ((((OwnA.mk u.Z.ink u.Z.hi).other (by simp;(try have:=x.Z);omega) _).other (by simp;(try have:=x.Z);omega) _).other (by simp;(try have:=x.Z);omega) _).mono (oh x),
     ((l.Z.setCell sD _).setCell sD _).setCell sD _⟩
 obtain rfl:k=M:=om
 have Q:Hd (jN W H xs k=(a,(k:Int))):=Jh (by
  rw [q.Z,HE.Z,Nat.sub_self]
  simp [xX])
 have q:=Q;have c:=Jh (HK.Z.blk c.Z (by have:=HG.Z;have:=x.Z;unfold Duo;omega));have l:=Jh (l.Z.trans (HK.Z.below (B:=w.heap.size) (fun i hi=>by have:=HG.Z;have:=x.Z;unfold Duo at hi;omega) l.Z.size));obtain ⟨z0,z,A,C⟩:=c.Z.c3;obtain ⟨f0,f1,f2⟩:=c.Z.f3;obtain ⟨lf,p0,p1,p2,p3⟩:=u.Z.cells;go_wp2_with fail
 exact bodyPost_ret (v:= .tuple #[.agg #[W,H, .slice ↑gi n n],k]) (by simp [results,results191,go_sem,z,A,C]) rfl
  ⟨_,_,by rw [q.Z],by rw [q.Z];exact ((((OwnA.mk u.Z.ink u.Z.hi).other (by simp;(try have:=x.Z);omega) _).other (by simp;(try have:=x.Z);omega) _).other (by simp;(try have:=x.Z);omega) _).mono (oh x),
   ((l.Z.setCell sD _).setCell sD _).setCell sD _⟩
def vI (a b c:Nat) (i:Nat):Prop:=i=a\/i=b\/i=c
def KeepL (S:Nat->Prop) (w v:World):Prop:=Hd (Keep6 S w v)
namespace KeepL
variable {S : Nat → Prop} {w v v' : World}
theorem Z (h:KeepL S w v):Keep6 S w v:=Hd.Z h
theorem mk (h:Keep6 S w v):KeepL S w v:=Jh h
theorem start (S:Nat->Prop) (w:World):KeepL S w w.drew:=mk (Keep6.refl S w).drew
theorem call (h:KeepL S w v) (a:Below v v v'):KeepL S w v':=mk (h.Z.call a)
theorem trans (h:KeepL S w v) (a:Keep6 S v v'):KeepL S w v':=mk (h.Z.trans a)
end KeepL
theorem FSt.other {w:World} {B f gi gc:Nat} {W H:Int} {n:Nat} {xs b:List Int} (h:FSt w B f gi gc W H n xs b) {a:Addr} (h1:a.block≠f) (h2:a.block≠gi) (h3:a.block≠gc) (u:Value):FSt (w.setCell a u) B f gi gc W H n xs b:=
 ⟨h.hf,h.hi,h.hc,h.n1,h.n2,h.n3,h.box.other h1 u,h.ink.other h2 u,h.crowds.other h3 u⟩
set_option maxRecDepth 100000 in
theorem zCB (W H:Int) (b off n y:Nat) (xs:List Int) (w:World) (hn:xs.length=n) (ha:Rd w (some ↑(b,off)) xs) (hl:n<=1048576):
 Calls prog 192 #[.agg #[W,H, .slice (some ↑(b,off)) n y]] w (kP w (jO W H xs)):=by
 have HN:=Jh hn;have HA:=Jh ha;clear hn ha;go_in;go_wp2_with fail;have Q:=Jh ((Blk.new w 31 #[W,H, .slice (some ↑(b,off)) n y]).alloc (.cells ↑Zp 32));have N:=Jh (Blk.zD (g:=w.heap.size+1) (w:=w.alloc (.cells #[W,H, .slice (some ↑(b,off)) n y] 31)) 32 ↑Zp sI);have J:=Jh (zJ (zJ (Below.refl w w) (.cells #[W,H, .slice (some ↑(b,off)) n y] 31)) (.cells ↑Zp 32));have RP:=Jh ((HA.Z.alloc (.cells #[W,H, .slice (some ↑(b,off)) n y] 31)).alloc (.cells ↑Zp 32));obtain ⟨wo,e6⟩:=zN ((w.alloc (.cells #[W,H, .slice (some ↑(b,off)) n y] 31)).alloc (.cells ↑Zp 32):World);have ZO:Hd (wo.heap.size=w.heap.size+1+1):=Jh (by rw [e6];simp);rw [<-e6] at Q N J RP⊢;clear e6;obtain ⟨l0,o0,o1,o2⟩:=Q.Z.c3;refine (Va W H _ n y xs _ HN.Z (by exact RP.Z) om).mono ?_;rintro e w4 ⟨rfl,hb⟩;have Q:=Jh (Q.Z.zA hb);have N:=Jh (N.Z.zA hb);have RP:=Jh (RP.Z.below hb);have J:=Jh (zI J.Z hb);have ZB:Hd (w.heap.size+1<w4.heap.size):=Jh (zB hb.size ZO.Z);clear hb l0 o0 o1 o2;by_cases C:zf W H xs=true
 case neg=>
  have ER:Hd (jO W H xs=(vQ,false)):=Jh (by unfold jO;rw [if_neg C]);have d1:zf W H xs=false:=by simpa using C
  rw [d1];clear C d1;obtain ⟨z0,r0,r1,r2⟩:=N.Z.c3;obtain ⟨f0,f1,f2⟩:=N.Z.f3;go_wp2_with fail
  exact bodyPost_ret (v:= .tuple #[.agg ↑Zp, .bool false]) (by simp [results,results192,go_sem,r0,r1,r2]) rfl
   (by rw [ER.Z];exact ⟨none,0,0,rfl,oN,om,by first | exact J.Z | exact ((J.Z.setCell sD _).setCell sD _).setCell sD _⟩)
 have ER:Hd (jO W H xs=(⟨W,H,jR W H xs⟩,true)):=Jh (by unfold jO;rw [if_pos C]);obtain ⟨b1,b2,b3,b4,b5,b6,b7,b8,b9⟩:=xn HN.Z C;have B5:=Jh b5;have B8:=Jh b8;have B9:=Jh b9;clear b5 b8 b9;have c8:=Jh C
 have CC:Hd (wT W H xs=(zV 1 xs:Int)):=Jh (by
  unfold wT;rw [if_pos (JT (by unfold zf at C;simp only [Bool.and_eq_true] at C;exact C.1))]
  exact zKu (uA B8.Z))
 have dn:zV 1 xs<=n:=by rw [<-HN.Z];exact XN _ _
 obtain ⟨u,hu⟩: ∃u,n - zV 1 xs=u:=⟨_,rfl⟩
 have d3:Hd (jR W H xs=(upG W H xs (zV 1 xs) (yW W H xs (zV 1 xs) (List.replicate n 0) (zV 1 xs)).2 u).2):=Jh (by unfold jR;rw [HN.Z,hu]);have DI:=Jh (fun k (hk:k<=zV 1 xs)=>uL c8.Z (List.replicate n 0) k hk);have UI:=Jh (fun k (hk:zV 1 xs+k<=xs.length)=>wU c8.Z (zV 1 xs) (yW W H xs (zV 1 xs) (List.replicate n 0) (zV 1 xs)).2 k hk);obtain ⟨d,hd⟩: ∃d,zV 1 xs=d:=⟨_,rfl⟩
 rw [hd] at CC dn hu d3 DI UI;have HU:Hd (d+u=n):=Jh om;have f5:Hd (yi W H=true):=Jh (JO b1 b3 (by rw [<-B5.Z];omega));rw [C];clear C hd hu;obtain ⟨l0,o0,o1,o2⟩:=Q.Z.c3;go_wp2_with fail;refine (uf W H n _ f5.Z B5.Z).mono ?_;rintro e w5 ⟨x,rfl,g3,e3,hb⟩;have e7:Hd (w.heap.size+1<x/\x<w5.heap.size):=Jh ⟨by have:=ZB.Z;omega,e3.lt⟩;have Q:=Jh ((Q.Z.zA hb).alloc (.cells #[W,H, .slice ↑x n n] 32));have N:=Jh ((N.Z.zA hb).alloc (.cells #[W,H, .slice ↑x n n] 32));have RP:=Jh ((RP.Z.below hb).alloc (.cells #[W,H, .slice ↑x n n] 32));have J:=Jh (zJ (zI J.Z hb) (.cells #[W,H, .slice ↑x n n] 32));have KM:=Jh (Blk.new w5 32 #[W,H, .slice ↑x n n]);have I:=Jh (e3.alloc (.cells #[W,H, .slice ↑x n n] 32));obtain ⟨w6,e5⟩:=zN (w5.alloc (.cells #[W,H, .slice ↑x n n] 32));have Z6:Hd (w6.heap.size=w5.heap.size+1):=Jh (by rw [e5];simp);obtain ⟨mb,f4⟩:=zN w5;clear g3 e3 hb l0 o0 o1 o2;go_upto_region 4 with fail;rw [<-e5] at Q N RP J KM I⊢;rw [<-f4] at KM e7 Z6⊢;clear e5 f4;obtain ⟨l0,o0,o1,o2⟩:=Q.Z.c3;have T:Hd (∀v,BelowL w6 v->Jc v w W/\Jc v (w,1) H/\Jc v (w,2) (.slice (some ↑(b,off)) n y)/\BelowL w6 v):=Jh (fun v hB=>⟨(hB.Z.cell l0).trans o0,(hB.Z.cell l0).trans o1,(hB.Z.cell l0).trans o2,hB⟩);refine wp_region_held_drew (S:=fun v=>Jc v w W/\Jc v (w,1) H/\Jc v (w,2) (.slice (some ↑(b,off)) n y)/\BelowL w6 v) zK (T.Z _ lS) ?_;intro m;have U:=wK m;refine zO 0 ?_;refine zO 2 ?_;refine zO 4 ?_;refine zy 1 (fun K hK=>?_);go_simp
 go_at_call 230
 ((with_reducible refine (YU W H _ n y xs _ HN.Z (by exact RP.Z.below U.Z) c8.Z).mono ?_);rintro e v1 ⟨f1,i1,c1,rfl,e0,F⟩);have D:=BelowL.call U F;go_wp2_with fail;refine hK.out _ _ (Jd (T.Z _ D)) (fun m=>?_);clear hK K;refine zy 3 (fun K hK=>?_);go_simp
 go_at_call 230
 ((with_reducible refine (YU W H _ n y xs _ HN.Z (by exact RP.Z.below D.Z) c8.Z).mono ?_);rintro e v2 ⟨f2,i2,c2,rfl,c4,e4⟩);have E:=BelowL.call D e4;go_wp2_with fail;refine hK.out _ _ (Jd (T.Z _ E)) (fun m=>?_);clear hK K;refine zy 5 (fun K hK=>?_);go_simp
 go_at_call 208
 ((with_reducible refine (QB W H _ n y xs _ HN.Z (by exact RP.Z.below E.Z) om).mono ?_);rw [CC.Z];rintro e v3 ⟨rfl,d0⟩);have V:=BelowL.call E d0;go_wp2_with fail;refine hK.out _ _ (Jd (T.Z _ V)) (fun m=>?_);clear hK K;refine zO 6 ?_;refine zO 7 ?_;refine zO 8 ?_;refine wpAnyH_done zK ?_ _;(try go_simp);have E1:Hd (FSt v3 w6.heap.size f1 i1 c1 W H n xs (gen n (yA W H xs))):=Jh ((e0.below e4).below d0);have E2:Hd (FSt v3 v1 f2 i2 c2 W H n xs (gen n (yA W H xs))):=Jh (c4.below d0);have Q:=Jh (Q.Z.zA V.Z);have N:=Jh (N.Z.zA V.Z);have KM:=Jh (KM.Z.zA V.Z);have I:=Jh (I.Z.below V.Z I.Z.lt);have J:=Jh (zI J.Z V.Z)
 have t:Hd (w.heap.size+1<x/\x<mb/\mb<f1/\mb<i1/\mb<c1/\f1<v1.heap.size/\i1<v1.heap.size/\c1<v1.heap.size/\v1.heap.size<=f2/\v1.heap.size<=i2/\v1.heap.size<=c2):=Jh (by
  have z:=Z6.Z;have g:=e7.Z;have l:=e0.lts;have a1:=E1.Z.hf;have a2:=E1.Z.hi;have a3:=E1.Z.hc
  exact ⟨g.1,g.2,om,om,om,l.1,l.2.1,l.2.2,c4.hf,c4.hi,c4.hc⟩)
 clear e0 c4 F e4 d0 U D E V m T l0 o0 o1 o2;obtain ⟨l0,o0,o1,o2⟩:=Q.Z.c3;go_wp2_with fail
 go_loopw [8] (fun s wr=> ∃(k:Nat) (L:Int),k<=d/\s=↑L/\Hd (L+k+1=d)/\-1<=L/\Hd (FSt wr w6.heap.size f1 i1 c1 W H n (yW W H xs d (List.replicate n 0) k).1 (gen n (yA W H (yW W H xs d (List.replicate n 0) k).1)))/\Hd (Own wr x n n (yW W H xs d (List.replicate n 0) k).2)/\Hd (Keep6 (vI i1 c1 x) v3 wr)) (fun s _=>(intOf s+1).toNat)
 case atStart=>exact ⟨0,(d:Int) - 1,nZ,rfl,Jh om,om,E1,I,Jh (Keep6.refl _ _)⟩
 clear E1 I;obtain ⟨k,L,hk,rfl,HL,f8,E1,I,O⟩:=hrel;by_cases e2:0<=L
 . have g0:k<d:=by have:=HL.Z;omega
   have g5:L<d:=by have:=HL.Z;omega
   obtain ⟨F1,F2,F3,F4⟩:=DI.Z k om;obtain ⟨i,j1,j2,j3⟩:=YH (W:=W) (H:=H) (xs:=(yW W H xs d (List.replicate n 0) k).1) om
   have DE:Hd (yW W H xs d (List.replicate n 0) (k+1)=((yW W H xs d (List.replicate n 0) k).1.set i (1 - 1),(yW W H xs d (List.replicate n 0) k).2.set i L)):=Jh (by
    rw [yW,kS,j1,show (d:Int) - 1 - k=L by have:=HL.Z;omega]
    rfl)
   have e1:i<n:=by rw [F2,HN.Z] at j2;exact j2
   have Y:=Jh F1;have HJ:=Jh (And.intro j1 (And.intro j2 j3));clear F1 F2 F3 F4 j1 j2 j3;obtain ⟨A,M⟩: ∃c,(yW W H xs d (List.replicate n 0) k).1=c:=⟨_,rfl⟩
   obtain ⟨rk,c5⟩: ∃c,(yW W H xs d (List.replicate n 0) k).2=c:=⟨_,rfl⟩
   rw [M] at E1 Y HJ DE;rw [c5] at I DE;clear M c5;have d7:=Jh (O.Z.blk KM.Z (by have:=t.Z;unfold vI;omega));have T:Hd (∀v,KeepL (vI i1 c1 x) wr v->v.cell? ⟨mb,2,none⟩=some (.slice ↑x n n)/\KeepL (vI i1 c1 x) wr v):=Jh (fun v hB=>⟨by rw [(hB.Z.blk d7.Z (by have:=t.Z;unfold vI;omega)).cell];rfl,hB⟩);go_upto_region 8 with fail;refine zh 7 T zK (T.Z _ (KeepL.start _ _)) ?_;intro m;have U:=zIl m;have d4:Hd (yq A 1 (fun j=>zCJ (yA W H A j)) A.length=i):=Jh HJ.Z.1;refine zM 0 ?_;refine zM 1 ?_;refine zM 2 ?_;refine zM 5 ?_;refine zW 3 (fun K hK=>?_);go_simp
   go_at_call 233
   ((with_reducible refine (Jx _).mono ?_);rintro e x1 ⟨rfl,F⟩);have D:=KeepL.call U F;go_wp2_with fail;refine hK.out _ _ (fun _=>Jd (T.Z _ D)) (fun hH2=>?_);clear hK K m;have m:=hH2 dC;have EA:Hd (FSt x1 w6.heap.size f1 i1 c1 W H n A (gen n (yA W H A))):=Jh (E1.Z.below (xJ F));have d6:=Jh (I.Z.below (xJ F) I.Z.lt);refine zW 4 (fun K hK=>?_);go_simp
   go_at_call 232
   ((with_reducible refine (XO 272 zCJ 1 (Or.inr rfl) zND zNq EA.Z Y.Z i d4.Z HJ.Z.2.1 HJ.Z.2.2).mono ?_);rintro e x2 ⟨rfl,c0,X⟩);have E:=KeepL.trans D (X.mono (fun a ha=>by unfold Duo at ha;unfold vI;omega));go_wp2_with fail;refine hK.out _ _ (fun _=>Jd (T.Z _ E)) (fun b0=>?_);clear hK K m;have m:=b0 dC;have P:=Jh (X.own d6.Z (by have:=t.Z;unfold Duo;omega));have d2:=Jh (c0.other (a:=↑(x,i)) (oS t.Z) (oS t.Z) (oS t.Z) ↑L);have d5:=Jh (O.Z.trans E.Z);have g1:=P.Z.cell e1;have g2:=P.Z.frozen i;clear c0 X;refine zM 6 ?_;refine zW 7 (fun K hK=>?_);go_simp;refine hK.out _ _ (fun h=>absurd h dC) (fun d8=>?_);clear hK K d8 b0 hH2 m;refine zx zK ?_ _;(try go_simp);go_wp2_with fail;go_roundw
   case rel=>exact ⟨k+1,L - 1,om,by go_num,Jh (by have:=HL.Z;push_cast;omega),om,Jh (by rw [DE.Z];exact d2.Z),Jh (by rw [DE.Z];exact P.Z.set i L),Jh (d5.Z.set (Or.inr (Or.inr rfl)) _)⟩
   exact Jm
 obtain rfl:k=d:=by have:=HL.Z;omega
 have g4:L<0:=om;obtain ⟨RK,e8⟩: ∃R,(yW W H xs k (List.replicate n 0) k).2=R:=⟨_,rfl⟩
 rw [e8] at I d3 UI;have KM:=Jh (O.Z.blk KM.Z (by have:=t.Z;unfold vI;omega));have Q:=Jh (O.Z.blk Q.Z (by have:=t.Z;unfold vI;omega));have N:=Jh (O.Z.blk N.Z (by have:=t.Z;unfold vI;omega));have E2:=Jh (E2.Z.keep O.Z (by have:=t.Z;unfold vI;omega) (by have:=t.Z;unfold vI;omega) (by have:=t.Z;unfold vI;omega));have J:=Jh (J.Z.trans (O.Z.below (B:=w.heap.size) (fun i hi=>by have:=t.Z;unfold vI at hi;omega) J.Z.size));clear e8 E1 O e2 l0 o0 o1 o2;go_wp2_with fail
 go_loopw [9] (fun s wz=> ∃(q:Nat) (L:Int),q<=u/\s=↑L/\Hd (L=(k:Int)+q)/\0<=L/\Hd (FSt wz v1 f2 i2 c2 W H n (upG W H xs k RK q).1 (gen n (yA W H (upG W H xs k RK q).1)))/\Hd (Own wz x n n (upG W H xs k RK q).2)/\Hd (Keep6 (vI i2 c2 x) wr wz)) (fun s _=>n - (intOf s).toNat)
 case atStart=>exact ⟨0,(k:Int),nZ,rfl,Jh om,om,E2,I,Jh (Keep6.refl _ _)⟩
 clear E2 I;obtain ⟨q,L,hq,rfl,HL,f8,E2,I,O⟩:=hrel;have f6:=Jh (O.Z.blk Q.Z (by have:=t.Z;unfold vI;omega));obtain ⟨l0,o0,o1,o2⟩:=f6.Z.c3;by_cases e2:L<n
 . have g0:q<u:=by have:=HL.Z;have:=HU.Z;omega
   obtain ⟨F1,F2,F3,F4⟩:=UI.Z q (by have:=HU.Z;rw [HN.Z];omega);obtain ⟨i,j1,j2,j3⟩:=Xe (W:=W) (H:=H) (xs:=(upG W H xs k RK q).1) (uA (xn rfl F1).2.2.2.2.2.2.2.1) (by rw [F2,HN.Z];have:=HU.Z;omega)
   have DE:Hd (upG W H xs k RK (q+1)=((upG W H xs k RK q).1.set i (1 - 0),(upG W H xs k RK q).2.set i L)):=Jh (by
    rw [upG,um,j1,show (k:Int)+q=L by have:=HL.Z;omega]
    rfl)
   have e1:i<n:=by rw [F2,HN.Z] at j2;exact j2
   have Y:=Jh F1;have HJ:=Jh (And.intro j1 (And.intro j2 j3));clear F1 F2 F3 F4 j1 j2 j3;obtain ⟨A,M⟩: ∃c,(upG W H xs k RK q).1=c:=⟨_,rfl⟩
   obtain ⟨rk,c5⟩: ∃c,(upG W H xs k RK q).2=c:=⟨_,rfl⟩
   rw [M] at E2 Y HJ DE;rw [c5] at I DE;clear M c5;have d7:=Jh (O.Z.blk KM.Z (by have:=t.Z;unfold vI;omega));have T:Hd (∀v,KeepL (vI i2 c2 x) wr v->v.cell? ⟨mb,2,none⟩=some (.slice ↑x n n)/\KeepL (vI i2 c2 x) wr v):=Jh (fun v hB=>⟨by rw [(hB.Z.blk d7.Z (by have:=t.Z;unfold vI;omega)).cell];rfl,hB⟩);go_upto_region 12 with fail;refine zh 7 T zK (T.Z _ (KeepL.start _ _)) ?_;intro m;have U:=zIl m;have d4:Hd (yq A 0 (fun j=>zFG (yA W H A j)) A.length=i):=Jh HJ.Z.1;refine zM 0 ?_;refine zM 1 ?_;refine zM 2 ?_;refine zM 5 ?_;refine zW 3 (fun K hK=>?_);go_simp
   go_at_call 234
   ((with_reducible refine (QG _).mono ?_);rintro e x1 ⟨rfl,F⟩);have D:=KeepL.call U F;go_wp2_with fail;refine hK.out _ _ (fun _=>Jd (T.Z _ D)) (fun hH2=>?_);clear hK K m;have m:=hH2 dC;have EA:Hd (FSt x1 v1 f2 i2 c2 W H n A (gen n (yA W H A))):=Jh (E2.Z.below (xJ F));have d6:=Jh (I.Z.below (xJ F) I.Z.lt);refine zW 4 (fun K hK=>?_);go_simp
   go_at_call 232
   ((with_reducible refine (XO 189 zFG 0 (Or.inl rfl) zQV zQe EA.Z Y.Z i d4.Z HJ.Z.2.1 HJ.Z.2.2).mono ?_);rintro e x2 ⟨rfl,c0,X⟩);have E:=KeepL.trans D (X.mono (fun a ha=>by unfold Duo at ha;unfold vI;omega));go_wp2_with fail;refine hK.out _ _ (fun _=>Jd (T.Z _ E)) (fun b0=>?_);clear hK K m;have m:=b0 dC;have P:=Jh (X.own d6.Z (by have:=t.Z;unfold Duo;omega));have d2:=Jh (c0.other (a:=↑(x,i)) (oS t.Z) (oS t.Z) (oS t.Z) ↑L);have d5:=Jh (O.Z.trans E.Z);have g1:=P.Z.cell e1;have g2:=P.Z.frozen i;clear c0 X;refine zM 6 ?_;refine zW 7 (fun K hK=>?_);go_simp;refine hK.out _ _ (fun h=>absurd h dC) (fun d8=>?_);clear hK K d8 b0 hH2 m;refine zx zK ?_ _;(try go_simp);go_wp2_with fail;go_roundw
   case rel=>exact ⟨q+1,L+1,om,by go_num,Jh (by have:=HL.Z;push_cast;omega),om,Jh (by rw [DE.Z];exact d2.Z),Jh (by rw [DE.Z];exact P.Z.set i L),Jh (d5.Z.set (Or.inr (Or.inr rfl)) _)⟩
   exact Jm
 obtain rfl:q=u:=by have:=HL.Z;have:=HU.Z;omega
 have g6:(n:Int)<=L:=om;have KM:=Jh (O.Z.blk KM.Z (by have:=t.Z;unfold vI;omega));have N:=Jh (O.Z.blk N.Z (by have:=t.Z;unfold vI;omega));have J:=Jh (J.Z.trans (O.Z.below (B:=w.heap.size) (fun i hi=>by have:=t.Z;unfold vI at hi;omega) J.Z.size));obtain ⟨z0,r0,r1,r2⟩:=N.Z.c3;obtain ⟨f0,f1,f2⟩:=N.Z.f3;obtain ⟨lm,m0,m1,m2⟩:=KM.Z.c3;clear e2;go_wp2_with fail
 exact bodyPost_ret (v:= .tuple #[.agg #[W,H, .slice ↑x n n], .bool true]) (by simp [results,results192,go_sem,r0,r1,r2]) rfl
  (by
   rw [ER.Z];refine ⟨_,_,_,rfl,OwnA.mk (g:=x) ?_ (oh t),om,?_⟩;show Own _ x n n (jR W H xs);rw [d3.Z];exact ((I.Z.other (oS t.Z) _).other (oS t.Z) _).other (oS t.Z) _
   exact ((J.Z.setCell sD _).setCell sD _).setCell sD _)
end Go.Proofs.YtlenfgdjdianiaaGreatDoor
