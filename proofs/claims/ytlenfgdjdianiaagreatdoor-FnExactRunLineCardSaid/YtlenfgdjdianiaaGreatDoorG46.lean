/- Facts on which this claim rests, 46. -/
import Derived.Test.YtlenfgdjdianiaaGreatDoorG9
set_option linter.all false
set_option maxHeartbeats 6400000
namespace Go.Proofs.YtlenfgdjdianiaaGreatDoor
section
open Go.RowKit Tq Go.Proofs.Tryz
variable {k : Nat}
theorem Rk (W H:Int) (ad:Option Addr) (n cap:Nat) (L:Int) (w:World) (h1:(n:Int)<=L) (h2:L<=1048576):
 Calls prog 15 #[.agg #[W,H, .slice ad n cap],L] w (zR (.int .i64 (L - n)) w):=by
 go_in;go_wp2_with (go_at_call 43;refine (zBf _ _ _ _ _ h1 h2).mono ?_;rintro e w' ⟨rfl,rfl⟩);go_ret;exact ⟨rfl,bR.alloc nI _⟩
theorem zAw (W H:Int) (ad:Option Addr) (n cap:Nat) (L:Int) (w:World) (h1:L<(n:Int)) (a:0<=L) (h2:L<=1048576) (h3:n<=9223372036854775807):
 Calls prog 15 #[.agg #[W,H, .slice ad n cap],L] w (zR (.int .i64 (-1)) w):=by
 go_in;go_wp2_with (go_at_call 43;refine (zBe _ _ _ _ _ h1 a h2 h3).mono ?_;rintro e w' ⟨rfl,rfl⟩);go_ret;exact ⟨rfl,bR.alloc nI _⟩
theorem zDy (W H:Int) (ad:Option Addr) (n cap:Nat) (xs:List Int) (w:World) (hn:xs.length=n) (ha:Rd w ad xs) (hl:n<=17592186044416):
 Calls prog 25 #[.agg #[W,H, .slice ad n cap]] w fun e w'=> ∃g,e= .returned (.agg #[W,H, .slice (some ⟨g,0,none⟩) n n])/\w.heap.size<=g/\Own w' g n n xs/\Below w w w':=by
 have j:=Jh hn;have f:=Jh ha;clear hn ha;go_in;go_wp2_with fail;refine (oq _ _ _ xs _ j.Z (f.Z.below ?_) hl).mono ?_
 . repeat (first | with_reducible exact bR | with_reducible refine Below.alloc ?_ (by simp;try omega) _)
 rintro e w1 ⟨rfl,a,hb⟩;obtain ⟨hc,hf⟩:=zBZ hb;have b:=hb.size;simp at hc hf b;have l:=Jh a;have i:=Jh hb;clear a hb
 go_wp2
 refine bodyPost_ret (v:= .agg #[W,H, .slice ↑(w.heap.size+3) n n]) (by simp [results,results25,go_sem,hc,b]) rfl ⟨w.heap.size+3,rfl,om,?_,?_⟩
 . have a:=l.Z
   simp at a
   repeat (first | with_reducible exact a | with_reducible refine Own.other ?_ (by simp;try omega) _)
 repeat (first | with_reducible exact bR | with_reducible refine Below.alloc ?_ (by simp;try omega) _ | with_reducible refine Below.setCell ?_ (by simp;try omega) _ | with_reducible refine Below.trans ?_ (Below.mono i.Z (by simp;try omega)))
theorem zDn (W H j f:Int) (a b:Option Addr) (n m c d:Nat) (xs ys:List Int) (w:World) (hn:xs.length=n) (hm:ys.length=m) (ha:Rd w a xs) (hb:Rd w b ys) (hl:n<=↑Zn) (s:m<=↑Zn):
 Calls prog 31 #[.agg #[W,H, .slice a n c], .agg #[j,f, .slice b m d]] w (zR (.bool (decide (W=j/\H=f/\xs=ys))) w):=by
 obtain ⟨z,y,u,x⟩:=JG hn hm ha hb;clear hn hm ha hb;by_cases h1:W=j
 case neg=>
  have A:(W==j)=false:=by simpa using h1
  have t:(W !=j)=true:=by simpa using h1
  go_in
  go_wp2
  go_ret;exact ⟨zV (by simp [h1]),nV⟩
 subst h1;by_cases h2:H=f
 case neg=>
  have A:(H==f)=false:=by simpa using h2
  have t:(H !=f)=true:=by simpa using h2
  go_in
  go_wp2
  go_ret;exact ⟨zV (by simp [h2]),nV⟩
 subst h2;go_in;go_wp2_with fail;refine (gy a b n m c d xs ys _ z.Z y.Z (u.Z.below nV) (x.Z.below nV) hl s).mono ?_;rintro e w1 ⟨rfl,q,rfl⟩;by_cases h3:xs=ys
 . have i:decide (xs=ys)=true:=by simpa using h3
   rw [i];have l:=Jh h3;clear h3 i
   go_wp2
   go_ret;exact ⟨zV (by simp [l.Z]),nV.trans (Joins.below_draws _ _ _)⟩
 have i:decide (xs=ys)=false:=by simpa using h3
 rw [i];have l:=Jh h3;clear h3 i
 go_wp2
 go_ret;exact ⟨zV (by simp [l.Z]),nV.trans (Joins.below_draws _ _ _)⟩
theorem zCH (W H:Int) (B:Nat) (ad:Option Addr) (n cap:Nat) (s:Int) (xs:List Int) (w:World) (a:OwnA w B ad n cap xs) (j:0<=s) (hl:s+n<=17592186044416):
 Calls prog 34 #[.agg #[W,H, .slice ad n cap],s] w fun e w'=>e= .returned (.int .i64 (s+n))/\OwnA w' B ad n cap (vC s n)/\w.grownBy w' (zO ad):=by
 have i:=Jh a;clear a;go_in;go_wp2_with fail;refine (En B ad n cap s xs _ (i.Z.alloc _) j hl).mono ?_;rintro e w1 ⟨rfl,a,hg⟩;have b:=Jh a;have f:=Jh hg;clear a hg
 go_wp2
 go_ret;exact ⟨rfl,b.Z,zY (World.grownBy_alloc _ _ _) f.Z⟩
theorem zBx (W H:Int) (ad:Option Addr) (n cap:Nat) (s:Int) (w:World) (ha:Rd w ad (vC s n)) (b:0<=s) (hl:s+n<=17592186044416):
 Calls prog 37 #[.agg #[W,H, .slice ad n cap],s] w (zR (.int .i64 (s+n)) w):=by
 have a:=Jh ha;clear ha;go_in;go_wp2_with fail;refine (EW ad n cap s _ (a.Z.alloc _) b hl).mono ?_;rintro e w1 ⟨rfl,rfl⟩
 go_wp2
 go_ret;exact ⟨rfl,nJ⟩
def IX (ps:List PV) (M:Nat):Prop:= ∀k,k<ps.length->(pv ps k).n<=M
theorem oU (ad:Option Addr) (n cap:Nat) (ps:List PV) (L:Int) (w:World) (hn:ps.length=n) (ha:RdV w ad ps) (h1:(n:Int)+(jS ps:Int)<=L) (h2:L<=1048576):
 Calls prog 16 #[.slice ad n cap,L] w (zR (.int .i64 (L - n - jS ps)) w):=by
 have f:=Jh hn;have C:=Jh ha;clear hn ha;have n2:(n:Int)<=L:=om;have n3:(n:Int)<=1048576:=om;go_in
 go_wp2
 go_loopw [1,5] (fun t i wr=> ∃(k s:Nat),k<=n/\t= .int .i64 (L - n - s)/\i=↑k/\s<=jS ps/\Hd (jS (ps.take k)=s)/\Hd (Below w w wr)) (fun _ i _=>n - (intOf i).toNat)
 exact ⟨0,0,nZ,sI,rfl,nZ,Jh (by simp [jS]),Jh bR⟩;obtain ⟨k,s,hk,rfl,rfl,I,z,l⟩:=hrel;by_cases G:k<n
 . have y:=Jh (C.Z.below l.Z)
   obtain ⟨b,off,u,E⟩:=y.Z.addr (oh f);subst u;obtain ⟨_,c0,c1,c2⟩:=y.Z.cells (k:=k) (oh f);have j:=JM ps k (oh f);have x:=Wh ps (k+1);obtain ⟨q,A⟩: ∃q,pv ps k=q:=⟨_,rfl⟩
   rw [A] at c0 c1 c2 j;rw [z.Z] at j;have F:s+q.n<=jS ps:=om;have D:=Jh j;clear j x A;go_wp2_with fail;refine (Qs q.W q.H q.a q.n q.c _ wr om om).mono ?_;rintro e J ⟨rfl,hb⟩;have m:=Jh (zL l.Z hb);clear hb
   go_wp2
   go_roundw
   . exact ⟨k+1,s+q.n,om,by congr 1;omega,by go_num,om,D,m⟩
   exact Jm
 obtain rfl:k=n:=om
 go_wp2
 go_ret;exact ⟨yh (by have:=z.Z;rw [Yk (oh f)] at this;omega),l.Z⟩
theorem oQ (ad:Option Addr) (n cap:Nat) (ps:List PV) (L:Int) (w:World) (hn:ps.length=n) (ha:RdV w ad ps) (N:0<=L) (h1:L<(n:Int)+(jS ps:Int)) (h2:L<=1048576) (h3:n<=9223372036854775807) (h4:IX ps 9223372036854775807):
 Calls prog 16 #[.slice ad n cap,L] w (zR (.int .i64 (-1)) w):=by
 obtain ⟨j,F,E⟩:=JF hn ha h4;clear hn ha h4;by_cases A:L<(n:Int)
 . go_in
   go_wp2
   go_ret;exact ⟨rfl,bR⟩
 have n2:(n:Int)<=L:=om;have n3:(n:Int)<=1048576:=om;go_in
 go_wp2
 go_loopw [1,5] (fun t i wr=> ∃(k s:Nat),k<=n/\t= .int .i64 (L - n - s)/\i=↑k/\(n:Int)+s<=L/\Hd (jS (ps.take k)=s)/\Hd (Below w w wr)) (fun _ i _=>n - (intOf i).toNat)
 exact ⟨0,0,nZ,sI,rfl,sO,Jh (by simp [jS]),Jh bR⟩;obtain ⟨k,s,hk,rfl,rfl,O,y,m⟩:=hrel;by_cases J:k<n
 . have x:=Jh (F.Z.below m.Z)
   obtain ⟨b,off,u,I⟩:=x.Z.addr (oh j);subst u;obtain ⟨_,c0,c1,c2⟩:=x.Z.cells (k:=k) (oh j);have l:=JM ps k (oh j);have z:=E.Z k (oh j);obtain ⟨q,D⟩: ∃q,pv ps k=q:=⟨_,rfl⟩
   rw [D] at c0 c1 c2 l z;rw [y.Z] at l;have G:=Jh l;clear l D;by_cases C:(q.n:Int)<=L - n - s
   . go_wp2_with fail
     refine (Qs q.W q.H q.a q.n q.c _ wr om om).mono ?_;rintro e M ⟨rfl,hb⟩;have f:=Jh (zL m.Z hb);clear hb
     go_wp2
     go_roundw
     . exact ⟨k+1,s+q.n,om,by congr 1;omega,by go_num,om,G,f⟩
     exact Jm
   go_wp2_with fail;refine (Rl q.W q.H q.a q.n q.c _ wr om om om z).mono ?_;rintro e M ⟨rfl,hb⟩;have f:=Jh (zL m.Z hb);clear hb
   go_wp2
   go_ret;exact ⟨rfl,f.Z⟩
 exfalso;have:=y.Z;rw [Yk (oh j)] at this;omega
theorem Sl:(prog.info? 31).map (fun i=>(i.zero,i.size,i.bytes))=some (some (.agg ↑Zp),3,40):=zK
theorem zCx (a1 a2:Option Addr) (n m c d:Nat) (ps f:List PV) (w:World) (hn:ps.length=n) (hm:f.length=m) (ha:RdV w a1 ps) (hb:RdV w a2 f) (hl:n<=1048576) (b1:m<=1048576) (h4:IX ps 1048576) (R:IX f 1048576):
 Calls prog 32 #[.slice a1 n c, .slice a2 m d] w (zR (.bool (decide (zS ps=zS f))) w):=by
 by_cases x:n=m
 case neg=>
  have H:Hd (¬zS ps=zS f):=Jh (fun h=>x (by have:=congrArg List.length h;rw [kU,kU] at this;omega));have N:((n:Int)==(m:Int))=false:=sO;have b2:((n:Int) !=(m:Int))=true:=sO;clear hn hm x ha hb h4 R;go_in
  go_wp2
  go_ret;exact ⟨by simp [H.Z],bR⟩
 subst x;obtain ⟨s,E,HA,HB,H4⟩:=JI hn hm ha hb h4;have H5:=Jh R;have HX:=Jh (mR (L:=ps) (M:=f) om);clear hn hm ha hb h4 R;go_in
 go_wp2
 go_loopw [5] (fun i wr=> ∃k:Nat,k<=n/\i=↑k/\Hd (∀j,j<k->(pv ps j).W=(pv f j).W/\(pv ps j).H=(pv f j).H/\(pv ps j).ink=(pv f j).ink)/\Hd (Below w w wr)) (fun i _=>n - (intOf i).toNat)
 exact ⟨0,nZ,rfl,Jh (fun j hj=>om),Jh bR⟩;obtain ⟨k,hk,rfl,O,F⟩:=hrel;by_cases b0:k<n
 . have I:=Jh (HA.Z.below F.Z)
   have l:=Jh (HB.Z.below F.Z);obtain ⟨P,oa,V,t⟩:=I.Z.addr (oh s);obtain ⟨Q,ob,X,u⟩:=l.Z.addr (oh E);subst V X;obtain ⟨_,c0,c1,c2⟩:=I.Z.cells (k:=k) (oh s);obtain ⟨_,J,d1,d2⟩:=l.Z.cells (k:=k) (oh E);have y:=I.Z.len (k:=k) (oh s);have z:=l.Z.len (k:=k) (oh E);have A:=I.Z.rd (k:=k) (oh s);have C:=l.Z.rd (k:=k) (oh E);have l1:=H4.Z k (oh s);have l2:=H5.Z k (oh E);have Y:=O.Z;obtain ⟨p,hp⟩: ∃p,pv ps k=p:=⟨_,rfl⟩
   obtain ⟨q,N⟩: ∃q,pv f k=q:=⟨_,rfl⟩
   rw [hp] at c0 c1 c2 y A l1;rw [N] at J d1 d2 z C l2;obtain ⟨HP,HQ,L1,L2,R1⟩:=JI hp N y z A;have R2:=Jh C;have k0:(0:Int)<=(k:Int):=om;have k1:(k:Int)<(n:Int):=om;clear hp N y z A C Y;have CE:=Jh (fun (v:World) (h1:Rd v p.a p.ink) (h2:Rd v q.a q.ink)=>zBa p.W p.H q.W q.H p.a q.a p.n q.n p.c q.c p.ink q.ink v L1.Z L2.Z h1 h2 om om);obtain ⟨B,U⟩: ∃B,decide (p.W=q.W/\p.H=q.H/\p.ink=q.ink)=B:=⟨_,rfl⟩
   rw [U] at CE;have D:=Jh U;clear U;cases B
   all_goals
    go_wp2
    go_region_held3 (fun v=>Jc v (P,oa+k*3) p.W/\Jc v (P,oa+k*3+1) p.H/\Jc v (P,oa+k*3+2) (.slice p.a p.n p.c)/\Jc v (Q,ob+k*3) q.W/\Jc v (Q,ob+k*3+1) q.H/\Jc v (Q,ob+k*3+2) (.slice q.a q.n q.c))
     (first | exact ⟨c0,c1,c2,J,d1,d2⟩ | exact ⟨(b.cell t).trans c0,(b.cell t).trans c1,(b.cell t).trans c2,(b.cell u).trans J,(b.cell u).trans d1,(b.cell u).trans d2⟩)
     (first
      | (go_at_call 30;((with_reducible refine (CE.Z _ (by exact R1.Z.drew) (by exact R2.Z.drew)).mono ?_);rintro e v1 ⟨rfl,b⟩)))
    have G:=Jh (F.Z.drew.trans (b.mono (by have:=F.Z.size;exact this)));clear b c0 c1 c2 J d1 d2
    go_wp2
   . go_ret
     refine ⟨zV ?_,G.Z⟩;rw [decide_eq_false];intro h;have:=HX.Z.1 h k (by rw [s.Z];exact b0);rw [HP.Z,HQ.Z] at this;exact absurd this (of_decide_eq_false D.Z)
   go_roundw
   . refine ⟨k+1,om,by go_num,Jh (fun j hj=>?_),G⟩
     by_cases e:j=k
     subst e;rw [HP.Z,HQ.Z];exact of_decide_eq_true D.Z;exact O.Z j om
   exact Jm
 obtain rfl:k=n:=om
 go_wp2
 go_ret;exact ⟨zV (decide_eq_true (HX.Z.2 (fun j hj=>O.Z j (by rw [<-s.Z];exact hj)))).symm,F.Z⟩
theorem NH (L:List PV) (k:Nat) (h:k<L.length):kH (L.take (k+1))=kH (L.take k)+(pv L k).n+2:=by
 rw [dI L k h];omega
theorem zCL (s:Int) (Q:List PV) (h:k<Q.length) (q:PV) (e:pv Q k=q) (S:Nat) (b:kH (Q.take k)=S):
 (((jV s Q k).set k {pv (jV s Q k) k with W:=s+S}).set k {pv ((jV s Q k).set k {pv (jV s Q k) k with W:=s+S}) k with H:=s+S+1}).set k
  {pv (((jV s Q k).set k {pv (jV s Q k) k with W:=s+S}).set k {pv ((jV s Q k).set k {pv (jV s Q k) k with W:=s+S}) k with H:=s+S+1}) k with ink:=vC (s+S+2) q.n}=jV s Q (k+1):=by
 have hk:k<(jV s Q k).length:=by rw [Pd];exact h
 have a:k<((jV s Q k).set k {pv (jV s Q k) k with W:=s+S}).length:=by rw [List.length_set];exact hk
 rw [xZ hk];rw [xZ a,XH,XH,<-lZ s Q h,Wo s Q h,Eo s Q k h,e,b]
theorem tO (B:Nat) (ad:Option Addr) (n cap:Nat) (s:Int) (Q:List PV) (w:World) (U:OwnV w B ad n cap Q) (h0:0<=s) (hl:s+kH Q<=17592186044416):
 Calls prog 35 #[.slice ad n cap,s] w fun e w'=>e= .returned (.int .i64 (s+kH Q))/\OwnV w' B ad n cap (uZ s Q)/\KeepT (OwnV.blocks ad Q) w w':=by
 have b3:2*n<=kH Q:=by rw [ND,U.len];omega
 have X:=Jh U;clear U;go_in
 go_wp2
 go_loopw [1,5] (fun t i wr=> ∃k S:Nat,k<=n/\t= .int .i64 (s+S)/\i=↑k/\S<=kH Q/\Hd (kH (Q.take k)=S)/\Hd (OwnV wr B ad n cap (jV s Q k))/\Hd (KeepT (OwnV.blocks ad Q) w wr)) (fun _ i _=>n - (intOf i).toNat)
 exact ⟨0,0,nZ,sI,rfl,nZ,Jh rfl,Jh (by rw [lq];exact X.Z),Jh (KeepT.refl _ _)⟩;obtain ⟨k,S,hk,rfl,rfl,hS,M,L,V⟩:=hrel;have ln:=X.Z.len;by_cases m:k<n
 . rcases L.Z.row with ⟨_,h0,_⟩ | ⟨g,hg,b2,hr⟩
   exfalso;omega;subst hg;have l:k<(jV s Q k).length:=by rw [Pd];omega
   obtain ⟨v0,v1,v2⟩:=VK (jV s Q k) k l;have C:=hr.cellAt (j:=k*3) om;have D:=hr.cellAt (j:=k*3+1) om;have E:=hr.cellAt (j:=k*3+2) om;rw [v0] at C;rw [v1] at D;rw [v2] at E;have f0:=hr.frozen (k*3);have f1:=hr.frozen (k*3+1);have A:=NH Q k om;have R:=Va Q (k+1);have f:=Wo s Q (k:=k) om;rw [f] at C D E;obtain ⟨q,z⟩: ∃q,pv Q k=q:=⟨_,rfl⟩
   rw [z] at C D E A f;rw [M.Z] at A;have P:S+q.n+2<=kH Q:=om;obtain ⟨HT,N,b0,b1,M1⟩:=JI A (zCL s Q om q z S M.Z) f l (L.Z.setW m (s+S));have Y:=Jh (M1.Z.setH m (s+S+1));have I2:=Jh (Y.Z.ink k m)
   have e2:(pv (((jV s Q k).set k {pv (jV s Q k) k with W:=s+S}).set k {pv ((jV s Q k).set k {pv (jV s Q k) k with W:=s+S}) k with H:=s+S+1}) k).a=q.a/\(pv (((jV s Q k).set k {pv (jV s Q k) k with W:=s+S}).set k {pv ((jV s Q k).set k {pv (jV s Q k) k with W:=s+S}) k with H:=s+S+1}) k).n=q.n/\(pv (((jV s Q k).set k {pv (jV s Q k) k with W:=s+S}).set k {pv ((jV s Q k).set k {pv (jV s Q k) k with W:=s+S}) k with H:=s+S+1}) k).c=q.c:=by
    rw [xZ (by rw [List.length_set];exact l),xZ l,f];exact ⟨rfl,rfl,rfl⟩
   have u:=Jh e2;have I:=Jh ((V.Z.set (a:=↑(g,k*3)) (.inl rfl) (.int .i64 (s+S))).set (a:=↑(g,k*3+1)) (.inl rfl) (.int .i64 (s+S+1)));have F:Hd (∀b,zO q.a=some b->OwnV.blocks ↑g Q b):=Jh (fun b hb=> .inr ⟨k,om,by rw [z];exact hb⟩);clear v0 v1 v2 hr A R f z l e2 ln;go_wp2_with fail;have O:=I2.Z;rw [u.Z.1,u.Z.2.1,u.Z.2.2] at O;have G:=Jh O;clear O;((with_reducible refine (En B q.a q.n q.c (s+S+1+1) _ _ (by exact G.Z) om om).mono ?_);rintro e w5 ⟨rfl,y,x⟩);rw [show s+(S:Int)+1+1=s+S+2 by omega] at y;have M3:=Jh (Y.Z.setInk m (w':=w5) (ys:=vC (s+S+2) q.n) (by rw [u.Z.1,u.Z.2.1,u.Z.2.2];exact y) (by rw [u.Z.1];exact x));have J:=Jh (I.Z.trans (KeepT.ofGrown x F.Z));clear y x C D E f0 f1
   go_wp2
   go_roundw
   . exact ⟨k+1,S+q.n+2,om,by congr 1;omega,by go_num,P,HT,Jh (by have h:=M3.Z;rw [N.Z] at h;exact h),J⟩
   exact Jm
 obtain rfl:k=n:=om
 go_wp2
 go_ret;exact ⟨yh (by have:=M.Z;rw [Yk om] at this;omega),by have h:=L.Z;rwa [tq s Q ln] at h,V.Z⟩
theorem sS (ad:Option Addr) (n cap:Nat) (s:Int) (Q:List PV) (w:World) (hn:Q.length=n) (ha:RdV w ad (uZ s Q)) (L:0<=s) (hl:s+kH Q<=17592186044416):
 Calls prog 38 #[.slice ad n cap,s] w fun e w'=>e= .returned (.int .i64 (s+kH Q))/\w=w':=by
 have J:2*n<=kH Q:=by rw [ND,hn];omega
 have l:=Jh hn;have u:=Jh ha;clear hn ha;go_in
 go_wp2
 go_loop [1,5] (fun t i=> ∃k S:Nat,k<=n/\t= .int .i64 (s+S)/\i=↑k/\S<=kH Q/\Hd (kH (Q.take k)=S)) (fun _ i=>n - (intOf i).toNat)
 exact ⟨0,0,nZ,sI,rfl,nZ,Jh rfl⟩;obtain ⟨k,S,hk,rfl,rfl,M,y⟩:=hrel;by_cases I:k<n
 . obtain ⟨b,off,z,G⟩:=u.Z.addr (by rw [uF];have:=l.Z;omega)
   subst z;have j:k<(uZ s Q).length:=by rw [uF];have:=l.Z;omega
   obtain ⟨_,c0,c1,c2⟩:=u.Z.cells j;have f:=u.Z.rd j;have m:=Eo s Q k (oh l);have E:=NH Q k (oh l);have C:=Va Q (k+1);rw [m] at c0 c1 c2 f;obtain ⟨q,D⟩: ∃q,pv Q k=q:=⟨_,rfl⟩
   rw [D,y.Z] at c0 c1 c2 f;rw [D,y.Z] at E;dsimp only at c0 c1 c2 f;have A:S+q.n+2<=kH Q:=om;have F:=Jh E;have x:=Jh f;have O:((s+(S:Int)) !=(s+(S:Int)))=false:=sI;have z2:((s+(S:Int)+1) !=(s+(S:Int)+1))=false:=sI;clear E C m D j f;go_wp2_with fail;((with_reducible refine (EW q.a q.n q.c (s+S+1+1) w (by rw [show s+(S:Int)+1+1=s+S+2 by omega];exact x.Z) om om).mono ?_);rintro e N ⟨rfl,rfl⟩);have z3: ¬(s+(S:Int)+1+1+(q.n:Int)<0):=om
   go_wp2
   go_round
   . exact ⟨k+1,S+q.n+2,om,by congr 1;omega,by go_num,A,F⟩
   exact Jm
 obtain rfl:k=n:=om
 go_wp2
 go_ret;exact ⟨yh (by have:=y.Z;rw [Yk (oh l)] at this;omega),rfl⟩
end
section
open Go.ChangeShapes Go.WideShapes Go.ChangeAt Go.RowKit Go.Joins Go.Deep Tq Go.Proofs.Tryz
variable {B T cap fuel g n : Nat} {H : Type} {W w w' w0 : World} {ad o : Option Addr} {c : List Value} {cs : Array Value} {v : Value} {xs : List Int}
theorem IZ:prog.cellsOf 22=1:=zK
theorem Pk {enc:TypeId × Value->H} {y:DataW H × List MemPlace} (h:DataW.trod enc prog W 0 (fun _=>true) true fuel 3 c=some y): ∃x,c=[.int .i64 x]:=by
 obtain ⟨a,b,_,_⟩:=DataW.trod_int underlying3 h;exact ⟨a,b⟩
theorem mU {P:Nat->PV->Prop} (m:Nat) (h: ∀i,i<m-> ∃p,P i p): ∃ps:List PV,ps.length=m/\ ∀i,i<m->P i (pv ps i):=by
 induction m with
 | zero=>exact ⟨[],rfl,fun i hi=>om⟩
 | succ m a=>
  obtain ⟨ps,hl,hk⟩:=a (fun i hi=>h i om);obtain ⟨p,hp⟩:=h m om;refine ⟨ps++ [p],by simp [hl],fun i hi=>?_⟩;by_cases e:i=m
  subst e;rw [<-hl,Xa,hl];exact hp;rw [wE om];exact hk i om
set_option maxRecDepth 100000 in
theorem Sy {enc:TypeId × Value->H} {d:DataW H} {p:List MemPlace}
 (hv: ∃a0 e f,v= .slice a0 e f) (hf:DataW.trod enc prog W 0 (fun _=>true) true fuel 27 v.cells.toList=some (d,p)) (z: ∀x ∈ p,x.block<W.heap.size):
 ∃ad n cap ps,v= .slice ad n cap/\ps.length=n/\RdV W ad ps/\n<=9223372036854775807/\(∀k,k<ps.length->(pv ps k).n<=9223372036854775807):=by
 obtain ⟨a0,e,f,rfl⟩:=hv;rcases open_slice underlying27 hf with ⟨j,F⟩ | ⟨a,len,cap,m,nn,D,Pl,j,_,hl,hm,O,F,hi⟩
 simp [Value.cells] at j;obtain ⟨rfl,rfl,rfl⟩:=j;exact ⟨none,0,0,[],rfl,rfl,RdV.nil _ _,om,fun k hk=>by simp at hk⟩;simp [Value.cells] at j;obtain ⟨rfl,rfl,rfl⟩:=j;simp only [if_true] at O;unfold maxLen at hm;rw [Lm] at hi F;obtain ⟨b,off,spot⟩:=a;simp only [Prod.mk.injEq] at F;rw [F.2] at z
 have t: ∀i,i<m-> ∃q:PV,Jc W ((Addr.mk b off spot).add (i*3)) q.W/\Jc W ((Addr.mk b off spot).add (i*3+1)) q.H/\Jc W ((Addr.mk b off spot).add (i*3+2)) (.slice q.a q.n q.c)/\q.ink.length=q.n/\Rd W q.a q.ink/\q.n<=9223372036854775807:=by
  intro i C;obtain ⟨l,hc,R⟩:=hi i C;obtain ⟨ys,G,b1,hy,X,V,y⟩:=DataW.trod_struct underlying24 R;obtain ⟨_,L,u⟩:=World.cells?_some hc;have I:DataW.trod enc prog W 0 (fun _=>true) true G 3 ((l.drop 0).take (prog.cellsOf 3))=ys[0]?:=y 0 _ rfl;have g1:DataW.trod enc prog W 0 (fun _=>true) true G 3 ((l.drop 1).take (prog.cellsOf 3))=ys[1]?:=y 1 _ rfl;have g2:DataW.trod enc prog W 0 (fun _=>true) true G 22 ((l.drop 2).take (prog.cellsOf 22))=ys[2]?:=y 2 _ rfl;rw [QE] at I g1;rw [IZ] at g2;have Y:ys.length=3:=V;rw [Ya (show 0<ys.length by omega)] at I;rw [Ya (show 1<ys.length by omega)] at g1;rw [Ya (show 2<ys.length by omega)] at g2;obtain ⟨x0,s⟩:=Pk I;obtain ⟨x1,h1⟩:=Pk g1
  have Q:Pl i=ys.flatMap (·.2):=by
   have:=congrArg Prod.snd hy;simpa using this
  match l,L with
  | [u0,u1,u2],_=>
   simp at s h1;subst s h1;have g3:DataW.trod enc prog W 0 (fun _=>true) true G 22 [u2]=some ys[2]:=by simpa using g2
   obtain ⟨ad,n,cp,xs,rfl,e1,e2,e3,_⟩:=UN g3 (fun x U=>z x (List.mem_append_right _ (List.mem_flatMap.2 ⟨i,List.mem_range.2 C,by rw [Q];exact List.mem_flatMap.2 ⟨ys[2],List.getElem_mem _,U⟩⟩)));refine ⟨⟨x0,x1,ad,n,cp,xs⟩,?_,?_,?_,e1,e2,e3⟩;have:=u 0 om;rw [Go.Deep.add_add,Yy] at this;simpa using this;have:=u 1 om;rw [Go.Deep.add_add] at this;simpa using this;have:=u 2 om;rw [Go.Deep.add_add] at this;simpa using this
 by_cases N:e=0
 subst N;exact ⟨some ⟨b,off,spot⟩,0,f,[],rfl,rfl,RdV.nil _ _,om,fun k hk=>by simp at hk⟩
 have A:spot=none:=by
  obtain ⟨q,s,_⟩:=t 0 om;simpa [Addr.add] using World.cell?_spot s
 subst A;have J:b<W.heap.size:=z (.cell b off) (List.mem_append_left _ (MemPlace.mem_row.2 ⟨0,om,sI⟩))
 obtain ⟨ps,M,E⟩:=mU (P:=fun i q=>W.cell? ⟨b,off+i*3,none⟩=some ↑q.W/\W.cell? ⟨b,off+i*3+1,none⟩=some ↑q.H/\W.cell? ⟨b,off+i*3+2,none⟩=some (.slice q.a q.n q.c)/\q.ink.length=q.n/\Rd W q.a q.ink/\q.n<=9223372036854775807) e (fun i b0=>by
  obtain ⟨q,s,h1,h2,h3⟩:=t i om;rw [Addr.add_lit] at s h1 h2
  exact ⟨q,s,h1,h2,h3⟩)
 refine ⟨_,e,f,ps,rfl,M,fun k hk=>?_,om,fun k hk=>(E k om).2.2.2.2.2⟩;obtain ⟨s,h1,h2,h3,h4,_⟩:=E k om;exact ⟨b,off,rfl,J,s,h1,h2,h3,h4⟩
theorem OwnV.zA {L:List PV} (h:OwnV w B ad n cap L) (hb:Below w w w'):OwnV w' B ad n cap L:=h.below hb
theorem OwnV.zI {L:List PV} (h:OwnV w B ad n cap L) (hb:w.grownBy w' (zO o)) (e: ∀b,zO o=some b->OwnV.blocks ad L b->False):OwnV w' B ad n cap L:=
 (KeepT.ofGrown (S:=fun i=>zO o=some i) hb (fun b hb=>hb)).ownV h (fun i hi a=>e i a hi)
theorem OwnA.keepS {S:Nat->Prop} (h:OwnA w B ad n cap xs) (hk:KeepT S w w') (e: ∀b,S b->zO ad=some b->False):OwnA w' B ad n cap xs:=hk.ownA h (fun b hb a=>e b a hb)
theorem OwnV.keepS {S:Nat->Prop} {L:List PV} (h:OwnV w B ad n cap L) (hk:KeepT S w w') (e: ∀b,S b->OwnV.blocks ad L b->False):OwnV w' B ad n cap L:=hk.ownV h (fun b hb a=>e b a hb)
theorem Blk.keepS {S:Nat->Prop} (h:Blk w g T cs) (hk:KeepT S w w') (e: ∀b,S b->b=g->False):Blk w' g T cs:=hk.blk h (fun a=>e g a rfl)
theorem Fj {S:Nat->Prop} (h:Below w0 w0 w) (hk:KeepT S w w') (a: ∀i,S i->w0.heap.size<=i):Below w0 w0 w':=h.trans (hk.below a h.size)
end
section
open Go.RowKit Tq Go.Proofs.Tryz
section
set_option maxRecDepth 100000
theorem oP (D:Dsk) (L:Int) (w:World) (hr:RdD w D) (h1:(D.P.n:Int)+D.M.n+D.n+(jS D.ps:Int)<=L) (h2:L<=1048576):
 Calls prog 5 #[D.val,L] w (zR (.int .i64 (L - D.P.n - D.M.n - D.n - jS D.ps)) w):=by
 obtain ⟨N,O,Q,R,E,F⟩:=hr;obtain ⟨⟨W,H,s,u,t,xs⟩,⟨j,i,l,q,m,ys⟩,a,n,c,ps⟩:=D;dsimp only at*;obtain ⟨I,J,G,x⟩:=JG E F (Blk.new w 29 #[W,H, .slice s u t,j,i, .slice l q m, .slice a n c]) (zM (Below.refl w w) (.cells #[W,H, .slice s u t,j,i, .slice l q m, .slice a n c] 29));clear N O Q R E F;show Calls prog 5 #[.agg #[W,H, .slice s u t,j,i, .slice l q m, .slice a n c],L] w _;go_in;go_wp2_with fail;refine (Qs W H s u t L _ om h2).mono ?_;rintro e w1 ⟨rfl,hb⟩;have y:=Jh (zL x.Z hb);have f:=Jh (G.Z.zA hb);clear hb;obtain ⟨C,c0,c1,c2,c3,c4,c5,c6⟩:=f.Z.c7;go_wp2_with fail;refine (Rk j i l q m _ _ om om).mono ?_;rintro e w2 ⟨rfl,hb⟩;have b:=Jh (zL y.Z hb);have A:=Jh (f.Z.zA hb);clear hb C c0 c1 c2 c3 c4 c5 c6;obtain ⟨C,c0,c1,c2,c3,c4,c5,c6⟩:=A.Z.c7;go_wp2_with fail;refine (oU a n c ps _ _ I.Z (by exact J.Z.below b.Z) om om).mono ?_;rintro e U ⟨rfl,hb⟩;have z:=Jh (zL b.Z hb)
 go_wp2
 go_ret;exact ⟨yh om,z.Z⟩
theorem oO (D:Dsk) (L:Int) (w:World) (hr:RdD w D) (Q:0<=L) (h1:L<(D.P.n:Int)+D.M.n+D.n+(jS D.ps:Int)) (h2:L<=1048576) (h3:D.P.n<=9223372036854775807) (h4:D.M.n<=9223372036854775807) (R:D.n<=9223372036854775807) (C:IX D.ps 9223372036854775807):
 Calls prog 5 #[D.val,L] w (zR (.int .i64 (-1)) w):=by
 obtain ⟨X,Y,r3,r4,F,G⟩:=hr;obtain ⟨⟨W,H,x,i,y,xs⟩,⟨s,q,t,j,u,ys⟩,a,n,c,ps⟩:=D;dsimp only at*;obtain ⟨N,O,I,J,l⟩:=JI F G C (Blk.new w 29 #[W,H, .slice x i y,s,q, .slice t j u, .slice a n c]) (zM (Below.refl w w) (.cells #[W,H, .slice x i y,s,q, .slice t j u, .slice a n c] 29));clear X Y r3 r4 F G C;show Calls prog 5 #[.agg #[W,H, .slice x i y,s,q, .slice t j u, .slice a n c],L] w _;go_in;go_wp2_with fail;by_cases U:(i:Int)<=L
 case neg=>
  refine (Rl W H x i y L _ om Q h2 h3).mono ?_;rintro e w1 ⟨rfl,hb⟩;have b:=Jh (zL l.Z hb)
  go_wp2
  go_ret;exact ⟨rfl,b.Z⟩
 refine (Qs W H x i y L _ U h2).mono ?_;rintro e w1 ⟨rfl,hb⟩;have b:=Jh (zL l.Z hb);have m:=Jh (J.Z.zA hb);clear hb;obtain ⟨E,c0,c1,c2,c3,c4,c5,c6⟩:=m.Z.c7;go_wp2_with fail;by_cases V:(j:Int)<=L - i
 case neg=>
  refine (zAw s q t j u _ _ om om om h4).mono ?_;rintro e w2 ⟨rfl,hb⟩;have f:=Jh (zL b.Z hb)
  go_wp2
  go_ret;exact ⟨rfl,f.Z⟩
 refine (Rk s q t j u _ _ V om).mono ?_;rintro e w2 ⟨rfl,hb⟩;have f:=Jh (zL b.Z hb);have A:=Jh (m.Z.zA hb);clear hb E c0 c1 c2 c3 c4 c5 c6;obtain ⟨E,c0,c1,c2,c3,c4,c5,c6⟩:=A.Z.c7;go_wp2_with fail;refine (oQ a n c ps _ _ N.Z (by exact O.Z.below f.Z) om om om R I.Z).mono ?_;rintro e w3 ⟨rfl,hb⟩;have z:=Jh (zL f.Z hb)
 go_wp2
 go_ret;exact ⟨rfl,z.Z⟩
theorem Jk (D E:Dsk) (w:World) (hd:RdD w D) (he:RdD w E) (sd:vK D) (se:vK E) (h:D.dat=E.dat):
 Calls prog 9 #[D.val,E.val] w (zR (.bool true) w):=by
 have h1:D.P.pic=E.P.pic:=congrArg (fun x=>x.1) h;have h2:D.M.pic=E.M.pic:=congrArg (fun x=>x.2.1) h;have h3:zS D.ps=zS E.ps:=congrArg (fun x=>x.2.2) h;obtain ⟨G,I,Y,SE,H3⟩:=JI hd he sd se h3;obtain ⟨⟨W,H,U,X,V,xs⟩,⟨f,b,N,Q,O,ys⟩,a,n,c,ps⟩:=D;obtain ⟨⟨W',H',q,u,t,b6⟩,⟨b5,b4,i,l,j,b7⟩,J,R,L,b3⟩:=E;simp only [PV.pic,Pic.mk.injEq] at h1 h2;obtain ⟨rfl,rfl,rfl⟩:=h1;obtain ⟨rfl,rfl,rfl⟩:=h2;obtain ⟨KA,KB,y⟩:=JF ((Blk.new w 35 #[W,H, .slice U X V,f,b, .slice N Q O, .slice a n c]).alloc (.cells #[W,H, .slice q u t,f,b, .slice i l j, .slice J R L] 35)) (Blk.zD (g:=w.heap.size+1) (w:=w.alloc (.cells #[W,H, .slice U X V,f,b, .slice N Q O, .slice a n c] 35)) 35 #[W,H, .slice q u t,f,b, .slice i l j, .slice J R L] sI) (zM (zM (Below.refl w w) (.cells #[W,H, .slice U X V,f,b, .slice N Q O, .slice a n c] 35)) (.cells #[W,H, .slice q u t,f,b, .slice i l j, .slice J R L] 35));clear hd he h h3 sd se;show Calls prog 9 #[.agg #[W,H, .slice U X V,f,b, .slice N Q O, .slice a n c], .agg #[W,H, .slice q u t,f,b, .slice i l j, .slice J R L]] w _;go_in;go_wp2_with fail;refine (zBa W H W H U q X u V t xs xs _ G.Z.pl I.Z.pl (by exact G.Z.pr.below y.Z) (by exact I.Z.pr.below y.Z) (by have:=Y.Z.p;dsimp only at this;omega) (by have:=SE.Z.p;dsimp only at this;omega)).mono ?_;rw [decide_eq_true (⟨rfl,rfl,rfl⟩:W=W/\H=H/\xs=xs)];rintro e w1 ⟨rfl,hb⟩;obtain ⟨z,C,F⟩:=JF (zL y.Z hb) (KA.Z.zA hb) (KB.Z.zA hb);clear hb KA KB;obtain ⟨l0,c0,c1,c2,c3,c4,c5,c6⟩:=C.Z.c7;obtain ⟨m0,d0,d1,d2,d3,d4,d5,d6⟩:=F.Z.c7;go_wp2_with fail;refine (zDn f b f b N i Q l O j ys ys _ G.Z.ml I.Z.ml (by exact G.Z.mr.below z.Z) (by exact I.Z.mr.below z.Z) (by have:=Y.Z.m;dsimp only at this;omega) (by have:=SE.Z.m;dsimp only at this;omega)).mono ?_;rw [decide_eq_true (⟨rfl,rfl,rfl⟩:f=f/\b=b/\ys=ys)];rintro e w2 ⟨rfl,hb⟩;obtain ⟨A,b1,b2⟩:=JF (zL z.Z hb) (C.Z.zA hb) (F.Z.zA hb);clear hb l0 c0 c1 c2 c3 c4 c5 c6 m0 d0 d1 d2 d3 d4 d5 d6 C F;obtain ⟨l0,c0,c1,c2,c3,c4,c5,c6⟩:=b1.Z.c7;obtain ⟨m0,d0,d1,d2,d3,d4,d5,d6⟩:=b2.Z.c7;go_wp2_with fail;refine (zCx a J n R c L ps b3 _ G.Z.sl I.Z.sl (by exact G.Z.sr.below A.Z) (by exact I.Z.sr.below A.Z) Y.Z.n SE.Z.n Y.Z.s SE.Z.s).mono ?_;rw [decide_eq_true H3.Z];rintro e w3 ⟨rfl,hb⟩;have b0:=Jh (zL A.Z hb)
 go_wp2
 go_ret;exact ⟨rfl,b0.Z⟩
end
end
end Go.Proofs.YtlenfgdjdianiaaGreatDoor
