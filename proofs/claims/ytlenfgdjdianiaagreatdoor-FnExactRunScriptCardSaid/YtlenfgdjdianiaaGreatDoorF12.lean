/- Facts on which this claim rests, 12. -/
import Derived.Test.YtlenfgdjdianiaaGreatDoorF11
set_option linter.all false
set_option maxHeartbeats 6400000
namespace Go.Proofs.YtlenfgdjdianiaaGreatDoor
section
variable {k : Nat} {rs : List Int}
open Tq Go.Proofs.Tryz
def zIp (rs:List Int):Prop:= ∀v,v ∈ rs->0<=v
theorem zLw (h:jq rs=true):zIp rs:=by
 cases rs with
 | nil=>cases h
 | cons n r=>
  obtain ⟨a,h1⟩:=QT h;intro v hv;rcases List.mem_cons.1 hv with e | e
  omega;have:=h1 v e;omega
theorem zPb (h:zIp rs):0<=ya rs:=by
 induction rs with
 | nil=>exact Int.le_refl _
 | cons n r a=>
  have:=h n sI;have:=a (fun v hv=>h v (by simp [hv]));unfold ya;omega
theorem zNN (h:k<rs.length):rs.getD k 0 ∈ rs:=by
 simp [List.getD,Ya h]
end
section
open Go.RowKit Tq Go.Proofs.Tryz
variable {B cap cap2 cp g k m n q : Nat} {O : Obj} {ad ad2 : Option Addr} {rs xs : List Int} {w w1 w5 wr : World}
def zEK (w:World) (xs:List Int) (e:Ending) (w':World):Prop:= ∃a n c,e= .returned (.slice a n c)/\OwnA w' w a n c xs/\n<=1048576/\Below w w w'
def jF (W H:Int) (xs:List Int):List Int:=if zP W H xs 1=true then YC xs else []
theorem zNr (h:OwnA w B ad n cap xs) (hn:1<=n): ∃g,ad=some ⟨g,0,none⟩/\B<=g/\Own w g n cap xs:=by
 rcases h with ⟨_,a,_⟩ | h
 omega;exact h
theorem zEf (h:zIp rs): ∀ {q:Nat},q<rs.length->rs.getD q 0<=ya rs:=by
 induction rs with
 | nil=>intro q b;simp at b
 | cons a r c=>
  intro q b;have e:=h a sI;have hr:=zPb (rs:=r) (fun v hv=>h v (by simp [hv]));cases q with
  | zero=>simp [ya];omega
  | succ q=>
   have:=c (fun v hv=>h v (by simp [hv])) (q:=q) (by simpa using b);simp only [List.getD,List.getElem?_cons_succ,ya] at this⊢;omega
theorem zEe (hn:xs.length=n) (h:yY xs 1=true): ∀k,k<xs.length->xs.getD k 0=0\/xs.getD k 0=1:=fun k hk=>by
 have:=xx h k hk;simp only [Yh];omega
theorem zDZ (b: ∀k,k<xs.length->xs.getD k 0=0\/xs.getD k 0=1) (hk:k<=xs.length) (a:q<(yV xs k).length):0<=(yV xs k).getD q 0/\(yV xs k).getD q 0<=k:=by
 obtain ⟨h1,h2,_⟩:=zBW b k hk;have hn:=zLw h1;have e:=zDe hn 0;rw [h2,Yj] at e;have:=zEf hn a;exact ⟨hn _ (zNN a),om⟩
theorem zCj (q:Nat):jK 0 (q+1)=1 - jK 0 q:=by
 rw [VQ];unfold jK;split <;>omega
theorem zHi (q:Nat):0<=jK 0 q/\jK 0 q<=1:=by
 unfold jK;split <;>omega
theorem QV (hl:(yV xs k).length=q+1) (h:xs.getD k 0=jK 0 q):yV xs (k+1)=(yV xs k).set q ((yV xs k).getD q 0+1):=by
 show (if xs.getD k 0=jK 0 ((yV xs k).length - 1) then (yV xs k).set ((yV xs k).length - 1) ((yV xs k).getD ((yV xs k).length - 1) 0+1) else yV xs k++ [1])=_;rw [hl,Nat.add_sub_cancel,if_pos h]
theorem QW (hl:(yV xs k).length=q+1) (h: ¬xs.getD k 0=jK 0 q):yV xs (k+1)=(yV xs k++ [0]).set (q+1) 1:=by
 show (if xs.getD k 0=jK 0 ((yV xs k).length - 1) then (yV xs k).set ((yV xs k).length - 1) ((yV xs k).getD ((yV xs k).length - 1) 0+1) else yV xs k++ [1])=_;rw [hl,Nat.add_sub_cancel,if_neg h,List.set_append];simp [hl]
theorem zMr {r:List Int} (h:r.length=m) (v:Int):(r++ [v]).getD m 0=v:=by
 subst h;simp [List.getD]
theorem zDr (q:Nat) (w:World) (a:q<=1048576):
 Calls prog 207 #[q] w fun e w'=>e= .returned ↑(jK 0 q)/\w=w':=by
 have e:(q:Int) % 2=jK 0 q:=by
  unfold jK;split <;>omega
 have E:=Jh e;clear e;go_in;go_wp2_with fail;go_ret;exact ⟨yf E.Z,rfl⟩
theorem zHx (w:World) (v:Int):Own (w.alloc (.cells #[v] 3)) w 1 1 [v]:=
 Zk.own (M:=#[v]) ⟨rfl,by unfold maxLen;simp,rfl,rfl⟩ w
theorem CIX (q:Nat):(∀w:World,q<=1048576->Calls prog 207 #[q] w fun e w'=>e= .returned ↑(jK 0 q)/\w=w'):=fun w h=>zDr q w h
theorem zDY {r:List Int} (hw:Below w1 w1 wr) (e:Own wr g (q+1) cp r) (hg:w1.heap.size<=g) (c:OwnA w5 w1 ad2 (q+1+1) cap2 (r++ [0])) (b:(wr.alloc O).grownBy w5 (zL ↑g)):
 ∃a,ad2=some ⟨a,0,none⟩/\w1.heap.size<=a/\Own w5 a (q+1+1) cap2 (r++ [0])/\Below w1 w1 w5/\w5.cell? ⟨a,q+1,none⟩=some ↑Z0/\w5.frozen? ⟨a,q+1,none⟩=false:=by
 obtain ⟨a,rfl,h1,h2⟩:=zNr c om;refine ⟨a,rfl,h1,h2,(hw.alloc hw.size O).grown b (oS hw.size) (fun k hk=>by simp only [zL,Option.some.injEq] at hk;omega),?_,h2.frozen _⟩;rw [h2.cell om,zMr e.len]
theorem zHA (W H:Int) (ad:Option Addr) (n cap:Nat) (xs:List Int) (w:World) (hn:xs.length=n) (ha:Rd w ad xs) (hl:n<=9223372036854775807):
 Calls prog 95 #[.agg #[W,H, .slice ad n cap]] w (zEK w (jF W H xs)):=by
 have t:=Jh hn;have T:=Jh ha;clear hn ha;by_cases hp:zP W H xs 1=true
 case neg=>
  have U:zP W H xs 1=false:=by simpa using hp
  have J:jF W H xs=[]:=by unfold jF;rw [if_neg hp]
  rw [J];clear hp J;go_in;go_wp2_with fail;refine (kK _ _ _ _ _ xs _ t.Z (by exact T.Z.alloc _) hl).mono ?_;rintro e w1 ⟨rfl,hb⟩;have l:=Jh (nJ.trans (hb.mono sI));clear hb;rw [U];go_wp2_with fail;go_ret;exact ⟨none,0,0,rfl,oN,om,l.Z⟩
 have J:jF W H xs=yV xs n:=by unfold jF;rw [if_pos hp];unfold YC;rw [t.Z]
 rw [J];clear J;obtain ⟨hs,hq,hi⟩:=yH t.Z hp;obtain ⟨b1,b2,b3,b4,b5,b6⟩:=yF hs;have HQ:=Jh hq;have HI:=Jh hi;have G:=Jh hs;have c8:1<=n:=om;have d3:n<=1024:=om;clear hq hi hs;have HX:=Jh (zEe t.Z HI.Z);go_in;go_wp2_with fail;refine (kK _ _ _ _ _ xs _ t.Z (by exact T.Z.alloc _) hl).mono ?_;rintro e w1 ⟨rfl,hb⟩;have l:=Jh (nJ.trans (hb.mono sI));have V:=Jh ((Blk.new w 31 #[W,H, .slice ad n cap]).zA hb);obtain ⟨l1,c0,c1,c2⟩:=V.Z.c3;have b0:=Jh (T.Z.below l.Z);clear hb;rw [hp];go_wp2_with fail;clear c0 c1 c2 l1
 go_loopw [3,4,15] (fun s c i wr=> ∃(k q g cp:Nat),k<=n/\q<=k/\s= .slice ↑g (q+1) cp/\c=↑(jK 0 q)/\i=↑k/\w1.heap.size<=g/\Hd (Own wr g (q+1) cp (yV xs k))/\Hd (Below w1 w1 wr)) (fun _ _ i _=>n - (intOf i).toNat)
 case atStart=>
  exact ⟨0,0,w1.heap.size,1,nZ,nZ,rfl,rfl,rfl,nI,Jh (zHx w1 0),Jh nJ⟩
 obtain ⟨k,q,g,cp,hk,d2,rfl,rfl,rfl,f,o,y⟩:=hrel;have M:=Jh (b0.Z.below y.Z);by_cases d0:k<n
 . obtain ⟨ba,oa,b7,d1,E⟩:=M.Z.at (oh t)
   have h1:=E k (oh t);subst b7;have hv:=HX.Z k (oh t);obtain ⟨x0,x1⟩:=zDZ HX.Z (k:=k) (q:=q) (oh t) (og o.Z.len);have CI:=Jh (CIX q);have R:=zHi q;have u:=zCj q;have b:=QV (xs:=xs) (k:=k) (q:=q) o.Z.len;have a:=QW (xs:=xs) (k:=k) (q:=q) o.Z.len;obtain ⟨v,Q⟩: ∃v,xs.getD k 0=v:=⟨_,rfl⟩
   rw [Q] at h1 hv b a;obtain ⟨C,L⟩: ∃C,jK 0 q=C:=⟨_,rfl⟩
   rw [L] at R u b a CI;(try rw [L]);have HC:=Jh L;have HV:=Jh Q;clear E Q L;have v0:0<=v:=om;have v1:v<=1:=om;by_cases he:v=C
   . have G:=Jh (b he)
     subst he;clear b a u;have g2:=o.Z.cell (j:=q) om;have g3:=o.Z.frozen q;obtain ⟨X,hX⟩: ∃X,(yV xs k).getD q 0=X:=⟨_,rfl⟩
     rw [hX] at g2 x0 x1 G;have D:=Jh (o.Z.set q (X+1));clear hX;have nb:(v !=v)=false:=sI;go_wp2_with fail;go_roundw
     case rel=>exact ⟨k+1,q,g,cp,om,om,rfl,by rw [HC.Z],by go_num,f,Jh (by rw [G.Z];first | exact D.Z | exact D.Z.drewN _),Jh (by first | exact y.Z.setCell f _ | exact (y.Z.setCell f _).drewN _)⟩
     exact Jm
   have G:=Jh (a he);have N:Hd (jK 0 (q+1)=v):=Jh (by rw [u];omega);have nb:(v !=C)=true:=by simpa using he
   clear b a u he;go_wp2_with (at_builtin;refine vH _ rfl (.tmp 23) (.tmp 24) rfl w1 (q+1) cp _ (yV xs k) rfl ((OwnA.mk o.Z f).alloc _) wr.heap.size 0 rfl (by go_simp) om (oS y.Z.size) ?_;intro ad2 cap2 w5 z I;have c5:=Jh (zDY y.Z o.Z f z I);obtain ⟨g5,rfl,x,P,c4,h2,h3⟩:=c5.Z);have F:=Jh (P.set (q+1) 1);have A:=Jh (c4.setCell (show w1.heap.size<=(Addr.mk g5 (q+1) none).block from x) ↑Z1);clear z I;go_roundw
   case rel=>exact ⟨k+1,q+1,g5,cap2,om,om,rfl,by rw [N.Z],by go_num,x,Jh (by rw [G.Z];first | exact F.Z | exact F.Z.drewN _),Jh (by first | exact A.Z | exact A.Z.drewN _)⟩
   exact Jm
 obtain rfl:k=n:=om;have Y:=Jh (zI l.Z y.Z);have b8:Hd (w.heap.size<=g):=Jh (og l.Z.size);go_wp2_with fail;go_ret;exact ⟨_,_,_,rfl,OwnA.mk o.Z b8.Z,om,Y.Z⟩
theorem zGe (W H:Int) (ad:Option Addr) (n cap:Nat) (xs:List Int) (w:World) (hn:xs.length=n) (ha:Rd w ad xs) (hl:n<=9223372036854775807):
 Calls prog 170 #[.agg #[W,H, .slice ad n cap]] w (zEK w (jF W H xs)):=by
 have o:=Jh hn;have R:=Jh ha;clear hn ha;by_cases hp:zP W H xs 1=true
 case neg=>
  have T:zP W H xs 1=false:=by simpa using hp
  have I:jF W H xs=[]:=by unfold jF;rw [if_neg hp]
  rw [I];clear hp I;go_in;go_wp2_with fail;refine (kH _ _ _ _ _ xs _ o.Z (by exact R.Z.alloc _) hl).mono ?_;rintro e w1 ⟨rfl,hb⟩;have f:=Jh (nJ.trans (hb.mono sI));clear hb;rw [T];go_wp2_with fail;go_ret;exact ⟨none,0,0,rfl,oN,om,f.Z⟩
 have I:jF W H xs=yV xs n:=by unfold jF;rw [if_pos hp];unfold YC;rw [o.Z]
 rw [I];clear I;obtain ⟨Y,hq,hi⟩:=yH o.Z hp;obtain ⟨b1,b2,b3,b4,b5,b6⟩:=yF Y;have HQ:=Jh hq;have HI:=Jh hi;have F:=Jh Y;have d0:1<=n:=om;have d4:n<=1024:=om;clear hq hi Y;have HX:=Jh (zEe o.Z HI.Z);go_in;go_wp2_with fail;refine (kH _ _ _ _ _ xs _ o.Z (by exact R.Z.alloc _) hl).mono ?_;rintro e w1 ⟨rfl,hb⟩;have f:=Jh (nJ.trans (hb.mono sI));have U:=Jh ((Blk.new w 31 #[W,H, .slice ad n cap]).zA hb);obtain ⟨l1,c0,c1,c2⟩:=U.Z.c3;have b0:=Jh (R.Z.below f.Z);clear hb;rw [hp];go_wp2_with fail;clear c0 c1 c2 l1
 go_loopw [3,13] (fun s i wr=> ∃(k q g cp:Nat),k<=n/\q<=k/\s= .slice ↑g (q+1) cp/\i=↑k/\w1.heap.size<=g/\Hd (Own wr g (q+1) cp (yV xs k))/\Hd (Below w1 w1 wr)) (fun _ i _=>n - (intOf i).toNat)
 case atStart=>
  exact ⟨0,0,w1.heap.size,1,nZ,nZ,rfl,rfl,nI,Jh (zHx w1 0),Jh nJ⟩
 obtain ⟨k,q,g,cp,hk,d3,rfl,rfl,c,l,x⟩:=hrel;have M:=Jh (b0.Z.below x.Z);by_cases d1:k<n
 . obtain ⟨ba,oa,b7,d2,D⟩:=M.Z.at (oh o)
   have h1:=D k (oh o);subst b7;have hv:=HX.Z k (oh o);obtain ⟨x0,x1⟩:=zDZ HX.Z (k:=k) (q:=q) (oh o) (og l.Z.len);have L:=Jh (CIX q);have Q:=zHi q;have t:=zCj q;have b:=QV (xs:=xs) (k:=k) (q:=q) l.Z.len;have a:=QW (xs:=xs) (k:=k) (q:=q) l.Z.len;obtain ⟨v,P⟩: ∃v,xs.getD k 0=v:=⟨_,rfl⟩
   rw [P] at h1 hv b a;obtain ⟨C,J⟩: ∃C,jK 0 q=C:=⟨_,rfl⟩
   rw [J] at Q t b a L;(try rw [J]);have HC:=Jh J;have HV:=Jh P;clear D P J;have v0:0<=v:=om;have v1:v<=1:=om;by_cases he:v=C
   . have F:=Jh (b he)
     subst he;clear b a t;have g2:=l.Z.cell (j:=q) om;have g3:=l.Z.frozen q;obtain ⟨X,hX⟩: ∃X,(yV xs k).getD q 0=X:=⟨_,rfl⟩
     rw [hX] at g2 x0 x1 F;have A:=Jh (l.Z.set q (X+1));clear hX;have nb:(v !=v)=false:=sI;go_wp2_with fail;refine (L.Z _ om).mono ?_;rintro e w5 ⟨rfl,rfl⟩;go_wp2_with fail;go_roundw
     case rel=>exact ⟨k+1,q,g,cp,om,om,rfl,by go_num,c,Jh (by rw [F.Z];first | exact A.Z | exact A.Z.drewN _),Jh (by first | exact x.Z.setCell c _ | exact (x.Z.setCell c _).drewN _)⟩
     exact Jm
   have F:=Jh (a he);have c8:Hd (jK 0 (q+1)=v):=Jh (by rw [t];omega);have nb:(v !=C)=true:=by simpa using he
   clear b a t he;go_wp2_with fail;refine (L.Z _ om).mono ?_;rintro e w5 ⟨rfl,rfl⟩;go_wp2_with (at_builtin;refine vH _ rfl (.tmp 23) (.tmp 24) rfl w1 (q+1) cp _ (yV xs k) rfl ((OwnA.mk l.Z c).alloc _) wr.heap.size 0 rfl (by go_simp) om (oS x.Z.size) ?_;intro ad2 cap2 w5 y G;have c5:=Jh (zDY x.Z l.Z c y G);obtain ⟨g5,rfl,u,N,c4,h2,h3⟩:=c5.Z);have E:=Jh (N.set (q+1) 1);have z:=Jh (c4.setCell (show w1.heap.size<=(Addr.mk g5 (q+1) none).block from u) ↑Z1);clear y G;go_roundw
   case rel=>exact ⟨k+1,q+1,g5,cap2,om,om,rfl,by go_num,u,Jh (by rw [F.Z];first | exact E.Z | exact E.Z.drewN _),Jh (by first | exact z.Z | exact z.Z.drewN _)⟩
   exact Jm
 obtain rfl:k=n:=om;have V:=Jh (zI f.Z x.Z);have b8:Hd (w.heap.size<=g):=Jh (og f.Z.size);go_wp2_with fail;go_ret;exact ⟨_,_,_,rfl,OwnA.mk l.Z b8.Z,om,V.Z⟩
def okV (ps:List PV) (k:Nat):Prop:=zP (pv ps k).W (pv ps k).H (pv ps k).ink 1=true/\(pv ps k).W=(pv ps 0).W/\(pv ps k).H=(pv ps 0).H
theorem UR {ps:List PV}:yc (zS ps)=true↔1<=ps.length/\ps.length<=4/\ ∀k,k<ps.length->okV ps k:=by
 constructor;intro h;obtain ⟨h1,h2,h3⟩:=XF h;rw [xa] at h1 h2 h3;refine ⟨h1,h2,fun k hk=>?_⟩;have:=h3 k hk;rw [uT ps k hk,uT ps 0 om] at this;exact this;rintro ⟨h1,h2,h3⟩;refine zOY (by rw [xa];exact h1) (by rw [xa];exact h2) (fun k hk=>?_);rw [xa] at hk;rw [uT ps k hk,uT ps 0 om];exact h3 k hk
theorem zDf {ps:List PV} (hk:k<ps.length) (h: ¬okV ps k):yc (zS ps)=false:=by
 cases hs:yc (zS ps) with
 | false=>rfl
 | true=>exact absurd ((UR.1 hs).2.2 k hk) h
theorem Xt {ps:List PV} (h: ¬(1<=ps.length/\ps.length<=4)):yc (zS ps)=false:=by
 cases hs:yc (zS ps) with
 | false=>rfl
 | true=>have:=UR.1 hs;exact absurd ⟨this.1,this.2.1⟩ h
theorem UG (ad:Option Addr) (n cap:Nat) (ps:List PV) (w:World) (hn:ps.length=n) (ha:RdV w ad ps) (hl:n<=1048576) (h4: ∀k,k<ps.length->(pv ps k).n<=1048576):
 Calls prog 47 #[.slice ad n cap] w (zR (.bool (yc (zS ps))) w):=by
 have J:=Jh hn;have HA:=Jh ha;have H4:=Jh h4;clear hn ha h4;by_cases hs:1<=(n:Int)/\(n:Int)<=4
 case neg=>
  have E:Hd (yc (zS ps)=false):=Jh (Xt (oh J));have HS:=Jh hs;clear hs;go_in;go_wp2_with fail;refine (yx _ _ _ _ HS.Z).mono ?_;rintro e w2 ⟨rfl,rfl⟩;go_wp2_with fail;go_ret;exact ⟨zX E.Z.symm,bR⟩
 obtain ⟨s1,s2⟩:=hs;obtain ⟨b,off,b8,d4⟩:=HA.Z.addr (oh J);subst b8;have n0:(0:Int)<(n:Int):=om;have c8:0<n:=om;go_in;go_wp2_with fail;refine (zz _ _ _ _ s1 s2).mono ?_;rintro e w2 ⟨rfl,rfl⟩;go_wp2_with fail
 go_loopw [11] (fun i wr=> ∃k:Nat,k<=n/\i= .int .i64 k/\Hd (∀j,j<k->okV ps j)/\Hd (Below w w wr)) (fun i _=>n - (intOf i).toNat)
 case atStart=>exact ⟨0,nZ,rfl,Jh (fun j hj=>om),Jh bR⟩
 obtain ⟨k,hk,rfl,T,HW⟩:=hrel;by_cases d3:k<n
 . have HR:=Jh (HA.Z.below HW.Z)
   obtain ⟨_,c0,c1,c2⟩:=HR.Z.cells (k:=k) (oh J);obtain ⟨L,X,d1,d2⟩:=HR.Z.cells (k:=0) (oh J);have Y:=HR.Z.len (k:=k) (oh J);have b1:=HR.Z.rd (k:=k) (oh J);have l1:=H4.Z k (oh J);have b6: ¬okV ps k->yc (zS ps)=false:=zDf (oh J);have M:okV ps k↔zP (pv ps k).W (pv ps k).H (pv ps k).ink 1=true/\(pv ps k).W=(pv ps 0).W/\(pv ps k).H=(pv ps 0).H:=Iff.rfl;simp only [Nat.zero_mul,Yy] at X d1 d2;obtain ⟨p,hp⟩: ∃p,pv ps k=p:=⟨_,rfl⟩
   obtain ⟨q,hq⟩: ∃q,pv ps 0=q:=⟨_,rfl⟩
   rw [hp] at c0 c1 c2 Y b1 l1 M;rw [hq] at X d1 d2 M;have b3:=Jh b6;have Q:=Jh M;have L1:=Jh Y;have R1:=Jh b1;have k0:(0:Int)<=(k:Int):=om;have k1:(k:Int)<(n:Int):=om;clear hp hq Y b1 b6 M;have KB:=Blk.new wr 31 ↑p;obtain ⟨F,I,D,C⟩:=KB.c3;have R2:=Jh (R1.Z.alloc (.cells ↑p 31));have y:=Jh (zJ HW.Z (.cells ↑p 31));have V:b<(wr.alloc (.cells ↑p 31)).heap.size:=sO;have s:(wr.alloc (.cells ↑p 31)).cell? (b,off)=some ↑q.W:=(World.cell?_alloc_lt _ _ _ L).trans X;have t:(wr.alloc (.cells ↑p 31)).cell? (b,off+1)=some ↑q.H:=(World.cell?_alloc_lt _ _ _ L).trans d1;have P:(wr.alloc (.cells ↑p 31)).cell? (b,off+2)=some (.slice q.a q.n q.c):=(World.cell?_alloc_lt _ _ _ L).trans d2;clear KB;by_cases hp:zP p.W p.H p.ink 1=true
   case neg=>
    have b5:zP p.W p.H p.ink 1=false:=by simpa using hp
    have E:Hd (yc (zS ps)=false):=Jh (b3.Z (fun h=>hp (Q.Z.1 h).1));have CP:Hd (∀v:World,Rd v p.a p.ink->Calls prog 86 #[.agg ↑p] v (zR (.bool false) v)):=Jh (fun v h=>by have:=kK p.W p.H p.a p.n p.c p.ink v L1.Z h om;rwa [b5] at this);clear hp b5;go_wp2_with fail;clear c0 c1 c2 X d1 d2;refine wp_region_held_drew (S:=fun v=>JB v wr p.W p.H (.slice p.a p.n p.c) (Jc v (b,off) q.W/\Jc v (b,off+1) q.H)) zK ⟨I,D,C,s,t⟩ ?_;intro l;refine hTs 0 ?_;refine zy 1 (fun K hK=>?_);go_simp
    go_at_call 86
    ((with_reducible refine (CP.Z _ (by exact R2.Z.drew)).mono ?_);rintro e A ⟨rfl,f⟩);have u:(JB A wr p.W p.H (.slice p.a p.n p.c) (Jc A (b,off) q.W/\Jc A (b,off+1) q.H):Prop):=⟨(f.cell F).trans I,(f.cell F).trans D,(f.cell F).trans C,(f.cell V).trans s,(f.cell V).trans t⟩
    have x:=Jh u;clear u;go_wp2_with fail;refine hK.out _ _ x.Z (fun l=>?_);clear hK K;refine zv ?_;refine zO 2 ?_;refine hTs 3 ?_;refine xZ 4 ?_;refine xZ 5 ?_;refine xZ 6 ?_;refine xZ 7 ?_;refine xZ 8 ?_;refine xZ 9 ?_;refine zy 10 (fun K hK=>?_);go_simp;refine hK.out _ _ (by first | exact l | assumption) (fun l=>?_);clear hK K;refine zv ?_;refine zO 11 ?_;refine hTs 12 ?_;refine xZ 13 ?_;refine xZ 14 ?_;refine xZ 15 ?_;refine xZ 16 ?_;refine xZ 17 ?_;refine xZ 18 ?_;refine zy 19 (fun K hK=>?_);go_simp;refine hK.out _ _ (by first | exact l | assumption) (fun l=>?_);clear hK K;refine zv ?_;refine hTs 20 ?_;refine wpAnyH_done zK ?_ _;have z:=Jh (y.Z.drew.trans (f.mono (by have:=y.Z.size;exact this)));clear f I D C s t P x;go_wp2_with fail;go_ret;exact ⟨zX E.Z.symm,z.Z⟩
   have CP:Hd (∀v:World,Rd v p.a p.ink->Calls prog 86 #[.agg ↑p] v (zR (.bool true) v)):=Jh (fun v h=>by have:=kK p.W p.H p.a p.n p.c p.ink v L1.Z h om;rwa [hp] at this);have HP:=Jh hp;clear hp;by_cases hw:p.W=q.W
   case neg=>
    have E:Hd (yc (zS ps)=false):=Jh (b3.Z (fun h=>hw (Q.Z.1 h).2.1));have c4:(p.W !=q.W)=true:=by simpa using hw
    have N:(p.W==q.W)=false:=by simpa using hw
    have b4:=ZZ p.W p.H q.W q.H false (by rw [N];rfl);clear hw;go_wp2_with fail;clear c0 c1 c2 X d1 d2;refine wp_region_held_drew (S:=fun v=>JB v wr p.W p.H (.slice p.a p.n p.c) (Jc v (b,off) q.W/\Jc v (b,off+1) q.H)) zK ⟨I,D,C,s,t⟩ ?_;intro l;refine hTs 0 ?_;refine zy 1 (fun K hK=>?_);go_simp
    go_at_call 86
    ((with_reducible refine (CP.Z _ (by exact R2.Z.drew)).mono ?_);rintro e A ⟨rfl,f⟩);have u:(JB A wr p.W p.H (.slice p.a p.n p.c) (Jc A (b,off) q.W/\Jc A (b,off+1) q.H):Prop):=⟨(f.cell F).trans I,(f.cell F).trans D,(f.cell F).trans C,(f.cell V).trans s,(f.cell V).trans t⟩
    have x:=Jh u;clear u;go_wp2_with fail;refine hK.out _ _ x.Z (fun l=>?_);clear hK K;refine zv ?_;refine zO 2 ?_;refine hTs 3 ?_;refine zO 4 ?_;refine zO 5 ?_;refine zO 6 ?_;refine zO 7 ?_;refine zO 8 ?_;refine hTs 9 ?_;refine zO 10 ?_;refine zO 11 ?_;refine hTs 12 ?_;refine xZ 13 ?_;refine xZ 14 ?_;refine xZ 15 ?_;refine xZ 16 ?_;refine xZ 17 ?_;refine xZ 18 ?_;refine zy 19 (fun K hK=>?_);go_simp;refine hK.out _ _ (by first | exact l | assumption) (fun l=>?_);clear hK K;refine zv ?_;refine hTs 20 ?_;refine wpAnyH_done zK ?_ _;have z:=Jh (y.Z.drew.trans (f.mono (by have:=y.Z.size;exact this)));clear f I D C s t P x
    all_goals
     go_wp2_with fail;go_ret;exact ⟨zX E.Z.symm,z.Z⟩
   have c4:(p.W !=q.W)=false:=by simpa using hw
   have N:(p.W==q.W)=true:=by simpa using hw
   by_cases U:p.H=q.H
   case neg=>
    have E:Hd (yc (zS ps)=false):=Jh (b3.Z (fun h=>U (Q.Z.1 h).2.2));have c5:(p.H !=q.H)=true:=by simpa using U
    have b2:(p.H==q.H)=false:=by simpa using U
    have b4:=ZZ p.W p.H q.W q.H false (by rw [N,b2];rfl);clear U hw;go_wp2_with fail;clear c0 c1 c2 X d1 d2;refine wp_region_held_drew (S:=fun v=>JB v wr p.W p.H (.slice p.a p.n p.c) (Jc v (b,off) q.W/\Jc v (b,off+1) q.H)) zK ⟨I,D,C,s,t⟩ ?_;intro l;refine hTs 0 ?_;refine zy 1 (fun K hK=>?_);go_simp
    go_at_call 86
    ((with_reducible refine (CP.Z _ (by exact R2.Z.drew)).mono ?_);rintro e A ⟨rfl,f⟩);have u:(JB A wr p.W p.H (.slice p.a p.n p.c) (Jc A (b,off) q.W/\Jc A (b,off+1) q.H):Prop):=⟨(f.cell F).trans I,(f.cell F).trans D,(f.cell F).trans C,(f.cell V).trans s,(f.cell V).trans t⟩
    have x:=Jh u;clear u;go_wp2_with fail;refine hK.out _ _ x.Z (fun l=>?_);clear hK K;refine zv ?_;refine zO 2 ?_;refine hTs 3 ?_;refine zO 4 ?_;refine zO 5 ?_;refine zO 6 ?_;refine zO 7 ?_;refine zO 8 ?_;refine hTs 9 ?_;refine zO 10 ?_;refine zO 11 ?_;refine hTs 12 ?_;refine zO 13 ?_;refine zO 14 ?_;refine zO 15 ?_;refine zO 16 ?_;refine zO 17 ?_;refine hTs 18 ?_;refine zO 19 ?_;refine hTs 20 ?_;refine wpAnyH_done zK ?_ _;have z:=Jh (y.Z.drew.trans (f.mono (by have:=y.Z.size;exact this)));clear f I D C s t P x
    all_goals
     go_wp2_with fail;go_ret;exact ⟨zX E.Z.symm,z.Z⟩
   have c5:(p.H !=q.H)=false:=by simpa using U
   have b2:(p.H==q.H)=true:=by simpa using U
   have b4:=ZZ p.W p.H q.W q.H true (by rw [N,b2];rfl);have b7:Hd (okV ps k):=Jh (Q.Z.2 ⟨HP.Z,hw,U⟩)
   have b0:Hd (∀j,j<k+1->okV ps j):=Jh (fun j hj=>by
    by_cases e:j=k
    subst e;exact b7.Z
    exact T.Z j om)
   clear U hw;go_wp2_with fail;clear c0 c1 c2 X d1 d2;refine wp_region_held_drew (S:=fun v=>JB v wr p.W p.H (.slice p.a p.n p.c) (Jc v (b,off) q.W/\Jc v (b,off+1) q.H)) zK ⟨I,D,C,s,t⟩ ?_;intro l;refine hTs 0 ?_;refine zy 1 (fun K hK=>?_);go_simp
   go_at_call 86
   ((with_reducible refine (CP.Z _ (by exact R2.Z.drew)).mono ?_);rintro e A ⟨rfl,f⟩);have u:(JB A wr p.W p.H (.slice p.a p.n p.c) (Jc A (b,off) q.W/\Jc A (b,off+1) q.H):Prop):=⟨(f.cell F).trans I,(f.cell F).trans D,(f.cell F).trans C,(f.cell V).trans s,(f.cell V).trans t⟩
   have x:=Jh u;clear u;go_wp2_with fail;refine hK.out _ _ x.Z (fun l=>?_);clear hK K;refine zv ?_;refine zO 2 ?_;refine hTs 3 ?_;refine zO 4 ?_;refine zO 5 ?_;refine zO 6 ?_;refine zO 7 ?_;refine zO 8 ?_;refine hTs 9 ?_;refine zO 10 ?_;refine zO 11 ?_;refine hTs 12 ?_;refine zO 13 ?_;refine zO 14 ?_;refine zO 15 ?_;refine zO 16 ?_;refine zO 17 ?_;refine hTs 18 ?_;refine zO 19 ?_;refine hTs 20 ?_;refine wpAnyH_done zK ?_ _;have z:=Jh (y.Z.drew.trans (f.mono (by have:=y.Z.size;exact this)));clear f I D C s t P x
   all_goals
    go_wp2_with fail;go_roundw
    case rel=>exact ⟨k+1,om,by go_num,b0,z⟩
    exact Jm
 obtain rfl:k=n:=om;go_wp2_with fail;go_ret;exact ⟨zX (UR.2 ⟨by have:=J.Z;omega,by have:=J.Z;omega,fun j hj=>T.Z j (by rw [<-J.Z];exact hj)⟩).symm,HW.Z⟩
theorem Vb (ad:Option Addr) (n cap:Nat) (ps:List PV) (w:World) (hn:ps.length=n) (ha:RdV w ad ps) (hl:n<=1048576) (h4: ∀k,k<ps.length->(pv ps k).n<=1048576):
 Calls prog 72 #[.slice ad n cap] w (zR (.bool (yc (zS ps))) w):=by
 have T:=Jh hn;have HA:=Jh ha;have H4:=Jh h4;clear hn ha h4;by_cases d8:n<1
 . have E:Hd (yc (zS ps)=false):=Jh (Xt (oh T))
   go_in;go_wp2_with fail;go_ret;exact ⟨zX E.Z.symm,bR⟩
 by_cases d4:4<n
 . have E:Hd (yc (zS ps)=false):=Jh (Xt (oh T))
   have g0:decide ((n:Int)<1)=false:=sO;have g1:decide (4<(n:Int))=true:=sO;go_in;go_wp2_with fail;go_ret;exact ⟨zX E.Z.symm,bR⟩
 have s1:1<=n:=om;have s2:n<=4:=om;have s3:1<=(n:Int):=om;have s4:(n:Int)<=4:=om;obtain ⟨b,off,d5,e5⟩:=HA.Z.addr (oh T);subst d5;have n0:(0:Int)<(n:Int):=om;have e3:0<n:=om;clear d8 d4;go_in;go_wp2_with fail
 go_loopw [15] (fun i wr=> ∃k:Nat,k<=n/\i= .int .i64 k/\Hd (∀j,j<k->okV ps j)/\Hd (Below w w wr)) (fun i _=>n - (intOf i).toNat)
 case atStart=>exact ⟨0,nZ,rfl,Jh (fun j hj=>om),Jh bR⟩
 obtain ⟨k,hk,rfl,b1,HW⟩:=hrel;by_cases e4:k<n
 . have HR:=Jh (HA.Z.below HW.Z)
   obtain ⟨_,c0,c1,c2⟩:=HR.Z.cells (k:=k) (oh T);obtain ⟨V,d0,d1,d2⟩:=HR.Z.cells (k:=0) (oh T);have b2:=HR.Z.len (k:=k) (oh T);have b4:=HR.Z.rd (k:=k) (oh T);have l1:=H4.Z k (oh T);have c5: ¬okV ps k->yc (zS ps)=false:=zDf (oh T);have X:okV ps k↔zP (pv ps k).W (pv ps k).H (pv ps k).ink 1=true/\(pv ps k).W=(pv ps 0).W/\(pv ps k).H=(pv ps 0).H:=Iff.rfl;simp only [Nat.zero_mul,Yy] at d0 d1 d2;obtain ⟨p,hp⟩: ∃p,pv ps k=p:=⟨_,rfl⟩
   obtain ⟨q,hq⟩: ∃q,pv ps 0=q:=⟨_,rfl⟩
   rw [hp] at c0 c1 c2 b2 b4 l1 X;rw [hq] at d0 d1 d2 X;have b6:=Jh c5;have b0:=Jh X;have L1:=Jh b2;have R1:=Jh b4;have k0:(0:Int)<=(k:Int):=om;have k1:(k:Int)<(n:Int):=om;clear hp hq b2 b4 c5 X;have KB:=Blk.new wr 31 ↑p;obtain ⟨L,U,Q,P⟩:=KB.c3;have R2:=Jh (R1.Z.alloc (.cells ↑p 31));have A:=Jh (zJ HW.Z (.cells ↑p 31));have N:b<(wr.alloc (.cells ↑p 31)).heap.size:=sO;have s:(wr.alloc (.cells ↑p 31)).cell? (b,off)=some ↑q.W:=(World.cell?_alloc_lt _ _ _ V).trans d0;have t:(wr.alloc (.cells ↑p 31)).cell? (b,off+1)=some ↑q.H:=(World.cell?_alloc_lt _ _ _ V).trans d1;have y:(wr.alloc (.cells ↑p 31)).cell? (b,off+2)=some (.slice q.a q.n q.c):=(World.cell?_alloc_lt _ _ _ V).trans d2;clear KB;by_cases hp:zP p.W p.H p.ink 1=true
   case neg=>
    have b8:zP p.W p.H p.ink 1=false:=by simpa using hp
    have E:Hd (yc (zS ps)=false):=Jh (b6.Z (fun h=>hp (b0.Z.1 h).1));have CP:Hd (∀v:World,Rd v p.a p.ink->Calls prog 115 #[.agg ↑p] v (zR (.bool false) v)):=Jh (fun v h=>by have:=kH p.W p.H p.a p.n p.c p.ink v L1.Z h om;rwa [b8] at this);clear hp b8;go_wp2_with fail;clear c0 c1 c2 d0 d1 d2;refine wp_region_held_drew (S:=fun v=>JB v wr p.W p.H (.slice p.a p.n p.c) (Jc v (b,off) q.W/\Jc v (b,off+1) q.H)) zK ⟨U,Q,P,s,t⟩ ?_;intro l;refine hTs 0 ?_;refine zy 1 (fun K hK=>?_);go_simp
    go_at_call 115
    ((with_reducible refine (CP.Z _ (by exact R2.Z.drew)).mono ?_);rintro e v1 ⟨rfl,f⟩);have c4:(JB v1 wr p.W p.H (.slice p.a p.n p.c) (Jc v1 (b,off) q.W/\Jc v1 (b,off+1) q.H):Prop):=⟨(f.cell L).trans U,(f.cell L).trans Q,(f.cell L).trans P,(f.cell N).trans s,(f.cell N).trans t⟩
    have d3:=Jh c4;clear c4;go_wp2_with fail;refine hK.out _ _ d3.Z (fun l=>?_);clear hK K;refine zv ?_;refine zO 2 ?_;refine hTs 3 ?_;refine xZ 4 ?_;refine xZ 6 ?_;refine xZ 7 ?_;refine xZ 8 ?_;refine zy 5 (fun K hK=>?_);go_simp;refine hK.out _ _ (by first | exact l | assumption) (fun l=>?_);clear hK K;refine zy 9 (fun K hK=>?_);go_simp;refine hK.out _ _ (by first | exact l | assumption) (fun l=>?_);clear hK K;refine zy 10 (fun K hK=>?_);go_simp;refine hK.out _ _ (by first | exact l | assumption) (fun l=>?_);clear hK K;refine zv ?_;refine hTs 11 ?_;refine wpAnyH_done zK ?_ _;have M:=Jh (A.Z.drew.trans (f.mono (by have:=A.Z.size;exact this)));clear f U Q P s t y d3;go_wp2_with fail;go_ret;exact ⟨zX E.Z.symm,M.Z⟩
   have CP:Hd (∀v:World,Rd v p.a p.ink->Calls prog 115 #[.agg ↑p] v (zR (.bool true) v)):=Jh (fun v h=>by have:=kH p.W p.H p.a p.n p.c p.ink v L1.Z h om;rwa [hp] at this);have HP:=Jh hp;clear hp;by_cases hw:p.W=q.W
   case neg=>
    have E:Hd (yc (zS ps)=false):=Jh (b6.Z (fun h=>hw (b0.Z.1 h).2.1));have d6:(p.W !=q.W)=true:=by simpa using hw
    have Y:(p.W==q.W)=false:=by simpa using hw
    have b7:=ZZ p.W p.H q.W q.H false (by rw [Y];rfl);clear hw;go_wp2_with fail;clear c0 c1 c2 d0 d1 d2;obtain ⟨wq,I⟩:=zN (wr.alloc (.cells ↑p 31));rw [<-I] at L U Q P N s t y R2 A⊢;have J:Hd (∀v,BelowL wq v->(JB v wr p.W p.H (.slice p.a p.n p.c) (Jc v (b,off) q.W/\Jc v (b,off+1) q.H/\Jc v (b,off+2) (.slice q.a q.n q.c)/\BelowL wq v):Prop)):=Jh (fun v u=>⟨(u.Z.cell L).trans U,(u.Z.cell L).trans Q,(u.Z.cell L).trans P,(u.Z.cell N).trans s,(u.Z.cell N).trans t,(u.Z.cell N).trans y,u⟩);clear I
    go_region_held3 J
     (first | exact J.Z _ x | exact J.Z _ D | exact J.Z _ z | exact J.Z _ lS)
     (first
      | (go_at_call 115;((with_reducible refine (CP.Z _ (by exact R2.Z.below (BelowL.Z (jx aS)))).mono ?_);rintro e v1 ⟨rfl,f⟩;have z:=BelowL.call (jx aS) f))
      | (go_at_call 73;((with_reducible refine (km p.W p.H p.a p.n p.c _).mono ?_);rintro e v2 ⟨rfl,C⟩;have D:=BelowL.call (jx aS) C))
      | (go_at_call 73;((with_reducible refine (km q.W q.H q.a q.n q.c _).mono ?_);rintro e v3 ⟨rfl,F⟩;have x:=BelowL.call (jx aS) F)))
    have M:=Jh (zI A.Z x.Z);clear f C F U Q P s t y z D x
    all_goals
     go_wp2_with fail;go_ret;exact ⟨zX E.Z.symm,M.Z⟩
   have d6:(p.W !=q.W)=false:=by simpa using hw
   have Y:(p.W==q.W)=true:=by simpa using hw
   by_cases hh:p.H=q.H
   case neg=>
    have E:Hd (yc (zS ps)=false):=Jh (b6.Z (fun h=>hh (b0.Z.1 h).2.2));have d7:(p.H !=q.H)=true:=by simpa using hh
    have b5:(p.H==q.H)=false:=by simpa using hh
    have b7:=ZZ p.W p.H q.W q.H false (by rw [Y,b5];rfl);clear hh hw;go_wp2_with fail;clear c0 c1 c2 d0 d1 d2;obtain ⟨wq,I⟩:=zN (wr.alloc (.cells ↑p 31));rw [<-I] at L U Q P N s t y R2 A⊢;have J:Hd (∀v,BelowL wq v->(JB v wr p.W p.H (.slice p.a p.n p.c) (Jc v (b,off) q.W/\Jc v (b,off+1) q.H/\Jc v (b,off+2) (.slice q.a q.n q.c)/\BelowL wq v):Prop)):=Jh (fun v u=>⟨(u.Z.cell L).trans U,(u.Z.cell L).trans Q,(u.Z.cell L).trans P,(u.Z.cell N).trans s,(u.Z.cell N).trans t,(u.Z.cell N).trans y,u⟩);clear I
    go_region_held3 J
     (first | exact J.Z _ x | exact J.Z _ D | exact J.Z _ z | exact J.Z _ lS)
     (first
      | (go_at_call 115;((with_reducible refine (CP.Z _ (by exact R2.Z.below (BelowL.Z (jx aS)))).mono ?_);rintro e v1 ⟨rfl,f⟩;have z:=BelowL.call (jx aS) f))
      | (go_at_call 73;((with_reducible refine (km p.W p.H p.a p.n p.c _).mono ?_);rintro e v2 ⟨rfl,C⟩;have D:=BelowL.call (jx aS) C))
      | (go_at_call 73;((with_reducible refine (km q.W q.H q.a q.n q.c _).mono ?_);rintro e v3 ⟨rfl,F⟩;have x:=BelowL.call (jx aS) F)))
    have M:=Jh (zI A.Z x.Z);clear f C F U Q P s t y z D x
    all_goals
     go_wp2_with fail;go_ret;exact ⟨zX E.Z.symm,M.Z⟩
   have d7:(p.H !=q.H)=false:=by simpa using hh
   have b5:(p.H==q.H)=true:=by simpa using hh
   have b7:=ZZ p.W p.H q.W q.H true (by rw [Y,b5];rfl);have c8:Hd (okV ps k):=Jh (b0.Z.2 ⟨HP.Z,hw,hh⟩)
   have b3:Hd (∀j,j<k+1->okV ps j):=Jh (fun j hj=>by
    by_cases e:j=k
    subst e;exact c8.Z
    exact b1.Z j om)
   clear hh hw;go_wp2_with fail;clear c0 c1 c2 d0 d1 d2;obtain ⟨wq,I⟩:=zN (wr.alloc (.cells ↑p 31));rw [<-I] at L U Q P N s t y R2 A⊢;have J:Hd (∀v,BelowL wq v->(JB v wr p.W p.H (.slice p.a p.n p.c) (Jc v (b,off) q.W/\Jc v (b,off+1) q.H/\Jc v (b,off+2) (.slice q.a q.n q.c)/\BelowL wq v):Prop)):=Jh (fun v u=>⟨(u.Z.cell L).trans U,(u.Z.cell L).trans Q,(u.Z.cell L).trans P,(u.Z.cell N).trans s,(u.Z.cell N).trans t,(u.Z.cell N).trans y,u⟩);clear I
   go_region_held3 J
    (first | exact J.Z _ x | exact J.Z _ D | exact J.Z _ z | exact J.Z _ lS)
    (first
     | (go_at_call 115;((with_reducible refine (CP.Z _ (by exact R2.Z.below (BelowL.Z (jx aS)))).mono ?_);rintro e v1 ⟨rfl,f⟩;have z:=BelowL.call (jx aS) f))
     | (go_at_call 73;((with_reducible refine (km p.W p.H p.a p.n p.c _).mono ?_);rintro e v2 ⟨rfl,C⟩;have D:=BelowL.call (jx aS) C))
     | (go_at_call 73;((with_reducible refine (km q.W q.H q.a q.n q.c _).mono ?_);rintro e v3 ⟨rfl,F⟩;have x:=BelowL.call (jx aS) F)))
   have M:=Jh (zI A.Z x.Z);clear f C F U Q P s t y z D x
   all_goals
    go_wp2_with fail;go_roundw
    case rel=>exact ⟨k+1,om,by go_num,b3,M⟩
    exact Jm
 obtain rfl:k=n:=om;go_wp2_with fail;go_ret;exact ⟨zX (UR.2 ⟨by have:=T.Z;omega,by have:=T.Z;omega,fun j hj=>b1.Z j (by rw [<-T.Z];exact hj)⟩).symm,HW.Z⟩
end
end Go.Proofs.YtlenfgdjdianiaaGreatDoor
