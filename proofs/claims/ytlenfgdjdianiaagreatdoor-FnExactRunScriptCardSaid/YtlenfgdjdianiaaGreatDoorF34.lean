/- Facts on which this claim rests, 34. -/
import Derived.Test.YtlenfgdjdianiaaGreatDoorF33
set_option linter.all false
set_option maxHeartbeats 6400000
namespace Go.Proofs.YtlenfgdjdianiaaGreatDoor
open Go.RowKit Tq Go.Proofs.Tryz
variable {B h j m n w y : Nat} {l : List UInt8} {v : Value} {w' : World} {xs : List Int}
def xr (l:List UInt8):List Int:=l.map (fun b=>(b.toNat:Int))
theorem zOh (e:j<w) (c:y<h):
 xr ((kf w h xs).take ((w+1)*y+j+1))=xr ((kf w h xs).take ((w+1)*y+j))++ [if xs.getD (y*w+j) 0=1 then 35 else 46]:=by
 have hm:(w+1)*y+j<(w+1)*h:=by
  have:(w+1)*(y+1)<=(w+1)*h:=Nat.mul_le_mul_left _ c;rw [Nat.mul_succ] at this;omega
 have a:((w+1)*y+j) % (w+1)=j:=by rw [Nat.mul_add_mod,Nat.mod_eq_of_lt om]
 have b:((w+1)*y+j)/(w+1)=y:=by rw [Nat.mul_add_div om,Nat.div_eq_of_lt om,Yy]
 rw [uY (Jk hm)];unfold qV;rw [a,b,if_neg om];unfold xr Kx;rw [List.map_append];congr 1;by_cases h1:xs.getD (y*w+j) 0=1
 rw [if_pos h1,if_pos h1];rfl;rw [if_neg h1,if_neg h1];rfl
theorem zOg (b:y<h):
 xr ((kf w h xs).take ((w+1)*y+w+1))=xr ((kf w h xs).take ((w+1)*y+w))++ [10]:=by
 have hm:(w+1)*y+w<(w+1)*h:=by
  have:(w+1)*(y+1)<=(w+1)*h:=Nat.mul_le_mul_left _ b;rw [Nat.mul_succ] at this;omega
 have a:((w+1)*y+w) % (w+1)=w:=by rw [Nat.mul_add_mod,Nat.mod_eq_of_lt om]
 rw [uY (Jk hm)];unfold qV;rw [a,if_pos rfl];unfold xr;rw [List.map_append];rfl
theorem QP {w:World} (h:xy w B v n xs) (hb:Below w w w'):xy w' B v n xs:=by
 obtain ⟨hl,h⟩:=h;refine ⟨hl,?_⟩;rcases h with h | ⟨g,a,b,c,e,hg,r⟩
 exact .inl h;exact .inr ⟨g,a,b,c,e,(hb.block g (Array.getElem?_eq_some_iff.1 hg).1).trans hg,r⟩
theorem zDj {w:World} (g:xy w B v m (xr (l.take m))) (hm:0<m) (hl:l.length=m):
 Sem.run prog (convert 72 9 v) w= .ok (.string ⟨l.toArray⟩) w:=by
 rw [Yk om] at g
 have hb:KI (xr l):=by
  intro x q;obtain ⟨u,_,rfl⟩:=List.mem_map.1 q;have:=u.toNat_lt;omega
 obtain ⟨s,a,rfl,f,hr⟩:=g.rd hb;have o:(xr l).length=l.length:=by simp [xr]
 obtain ⟨_,b,off,c,_⟩:=hr 0 om;subst c
 have h:=run_convert_bytes_back (P:=prog) w 72 9 5 ↑(b,off) a l underlying72 underlying5 underlying9 (fun j k=>by
  obtain ⟨_,b2,i,h1,_,_,h3⟩:=hr j om;have e:=Yd h1;simp only [Addr.mk.injEq] at e;obtain ⟨rfl,rfl,_⟩:=e;rw [show (↑(b,off):Addr).add j=↑(b,off+j) by simp [Addr.add],h3]
  simp [xr,List.getD,Ya k])
 rw [hl] at h;exact h
theorem zDM (w:World) (B:Nat):xy w B (.slice none 0 0) 0 []:=⟨sI, .inl ⟨rfl,rfl⟩⟩
set_option maxRecDepth 100000 in
theorem zEr (W H:Int) (A:Option Addr) (n f:Nat) (xs:List Int) (w:World) (hn:xs.length=n) (ha:Rd w A xs) (hl:n<=9223372036854775807) (R:n<=f):
 Calls prog 168 #[.agg #[W,H, .slice A n f]] w (zR (.string ⟨(kD W H xs).toArray⟩) w):=by
 have J:=Jh hn;have HA:=Jh ha;by_cases hp:zP W H xs 1=true
 case neg=>
  have e1:kD W H xs=[]:=by unfold kD;rw [if_neg hp]
  rw [e1];have V:zP W H xs 1=false:=by simpa using hp
  have b7:=Jh V;clear hp V e1 hn ha;go_in;go_wp2_with fail;refine (kH W H A n f xs _ J.Z (by exact HA.Z.alloc _) hl).mono ?_;rw [b7.Z];rintro e w1 ⟨rfl,hb⟩;have HB:=Jh (zI (Joins.below_alloc1 w (.cells #[W,H, .slice A n f] 31)) hb);clear hb;go_wp2_with fail;go_ret;exact ⟨rfl,HB.Z⟩
 obtain ⟨w0,c,e1,e2,b1,b2,b3,b4,b5,C,hs,X⟩:=zBS hp;subst e1 e2;have T:n=w0*c:=by rw [<-hn];exact C
 have d5:n<=1024:=om;have L:=Jh T;clear T;have e3:kD (w0:Int) (c:Int) xs=kf w0 c xs:=by unfold kD;rw [if_pos hp];rfl
 rw [e3];have HP:=Jh hp;have HX:=Jh X;have O:=Jh (Blk.new w 31 #[w0,c, .slice A n f]);have D:=Jh (ha.alloc (.cells #[w0,c, .slice A n f] 31));clear hp X e3 ha hs C;go_in;go_wp2_with fail;refine (kH w0 c A n f xs _ J.Z (by exact D.Z) hl).mono ?_;rw [HP.Z];rintro e w1 ⟨rfl,hb⟩;have KP:=Jh (O.Z.zA hb);have I:=Jh (D.Z.below hb);have HB:=Jh (zI (Joins.below_alloc1 w (.cells #[w0,c, .slice A n f] 31)) hb);clear hb O D;obtain ⟨lp,p0,p1,p2⟩:=KP.Z.c3;go_wp2_with fail
 obtain ⟨bA,oA,c8,d0⟩: ∃b off,A=some ⟨b,off,none⟩/\b<w1.heap.size:=by
  obtain ⟨b,off,h1,h2,_⟩:=I.Z 0 (zC J.Z L.Z (Nat.mul_pos b1 b3));exact ⟨b,off,h1,h2⟩
 subst c8
 have E:Hd (∀k,k<n->(xs.getD k 0=0\/xs.getD k 0=1)/\w1.cell? ⟨bA,oA+k,none⟩=some (.int .i64 (xs.getD k 0))):=Jh (fun k hk=>by
  obtain ⟨b,off,h1,_,h3⟩:=I.Z k (oh J);have e:=Yd h1;simp only [Addr.mk.injEq] at e;obtain ⟨rfl,rfl,_⟩:=e
  exact ⟨HX.Z k (oh J),h3⟩)
 clear lp p0 p1 p2
 go_loopw [3,12] (fun s i wr=> ∃y:Nat,y<=c/\i=↑y/\xy wr w1 s ((w0+1)*y) (xr ((kf w0 c xs).take ((w0+1)*y)))/\Hd (Below w1 w1 wr)) (fun _ i _=>c - (intOf i).toNat)
 case atStart=>exact ⟨0,nZ,rfl,zDM _ _,Jh bR⟩
 obtain ⟨y,hy,rfl,U,HW⟩:=hrel;have HO:=Jh U;clear U;have c5:=Jh (KP.Z.zA HW.Z);have b0:=Jh (zI HB.Z HW.Z);obtain ⟨lp,p0,p1,p2⟩:=c5.Z.c3;by_cases F:y<c
 . have d3:y*w0+w0<=n:=by
    have h1:(y+1)*w0<=c*w0:=Nat.mul_le_mul_right _ F;rw [Nat.succ_mul,Nat.mul_comm c] at h1;have:=L.Z;omega
   have HM:Hd ((w0+1)*y<=65*64):=Jh (Nat.mul_le_mul om om);have Q:=Jh (fun j (hj:j<w0)=>zOh (w:=w0) (h:=c) (y:=y) (j:=j) (xs:=xs) hj F);have G:=Jh (zOg (w:=w0) (h:=c) (y:=y) (xs:=xs) F);have P:Hd ((w0+1)*(y+1)=(w0+1)*y+w0+1):=Jh (by rw [Nat.mul_succ];omega);obtain ⟨M,hM⟩: ∃M,(w0+1)*y=M:=⟨_,rfl⟩
   rw [hM] at HO HM Q G P;clear hM;go_wp2_with fail;refine (Zz w0 c bA oA n f y y _ rfl b1 om b2 d3 R om).mono ?_;rintro e w2 ⟨rfl,hb⟩;have b6:Hd (xy w2 w1 u3 M (xr ((kf w0 c xs).take M))):=Jh (QP HO.Z hb);have b8:=Jh (HW.Z.trans (hb.mono HW.Z.size));clear hb lp p0 p1 p2;go_wp2_with fail
   go_loopw [3,19] (fun s i wr=> ∃j:Nat,j<=w0/\i=↑j/\xy wr w1 s (M+j) (xr ((kf w0 c xs).take (M+j)))/\Hd (Below w1 w1 wr)) (fun _ i _=>w0 - (intOf i).toNat)
   case atStart=>exact ⟨0,nZ,rfl,b6.Z,b8⟩
   obtain ⟨j,hj,rfl,U,a⟩:=hrel;have q:=Jh U;clear U;have c4:=Jh (KP.Z.zA a.Z);obtain ⟨lp,p0,p1,p2⟩:=c4.Z.c3;by_cases d2:j<w0
   . obtain ⟨hd,hc⟩:=E.Z (y*w0+j) om
     have c0:wr.cell? (bA,oA+(y*w0+j))=some ↑(xs.getD (y*w0+j) 0):=(a.Z.cell (by exact d0)).trans hc;have c1:wr.cell? (bA,oA+y*w0+j)=some ↑(xs.getD (y*w0+j) 0):=by rw [Nat.add_assoc];exact c0
     have z:=Q.Z j d2;obtain ⟨x,X⟩: ∃v,xs.getD (y*w0+j) 0=v:=⟨_,rfl⟩
     rw [X] at c0 c1 hd z;have N:=Jh z;have d4:j<=64:=om;clear z X hc;rcases hd with rfl | rfl
     . go_wp2_with (at_builtin;refine Jt _ rfl (.tmp 23) (.tmp 26) rfl w1 (M+j) _ (xr ((kf w0 c xs).take (M+j))) rfl (q.Z.alloc _) wr.heap.size 46 rfl (vC _ _ _) (oh HM) (oS a.Z.size) ?_;intro v5 Y o g)
       have t:Hd (xy Y w1 v5 (M+(j+1)) (xr ((kf w0 c xs).take (M+(j+1))))):=Jh (by rw [show M+(j+1)=M+j+1 by omega,N.Z];exact o);have u:=Jh ((a.Z.alloc a.Z.size _).grown g (oS a.Z.size) (fun b hb=>(q.Z.own b hb).1));clear o g;go_roundw
       case rel=>exact ⟨j+1,om,by go_num,t.Z,u⟩
       exact Jm
     go_wp2_with (at_builtin;refine Jt _ rfl (.tmp 23) (.tmp 26) rfl w1 (M+j) _ (xr ((kf w0 c xs).take (M+j))) rfl (q.Z.alloc _) wr.heap.size 35 rfl (vC _ _ _) (oh HM) (oS a.Z.size) ?_;intro v5 Y o g);have t:Hd (xy Y w1 v5 (M+(j+1)) (xr ((kf w0 c xs).take (M+(j+1))))):=Jh (by rw [show M+(j+1)=M+j+1 by omega,N.Z];exact o);have u:=Jh ((a.Z.alloc a.Z.size _).grown g (oS a.Z.size) (fun b hb=>(q.Z.own b hb).1));clear o g;go_roundw
     case rel=>exact ⟨j+1,om,by go_num,t.Z,u⟩
     exact Jm
   obtain rfl:j=w0:=om;go_wp2_with (at_builtin;refine Jt _ rfl (.tmp 29) (.tmp 30) rfl w1 (M+j) _ (xr ((kf j c xs).take (M+j))) rfl (q.Z.alloc _) wr.heap.size 10 rfl (vC _ _ _) (oh HM) (oS a.Z.size) ?_;intro v5 Y o g);have t:Hd (xy Y w1 v5 ((j+1)*(y+1)) (xr ((kf j c xs).take ((j+1)*(y+1))))):=Jh (by rw [P.Z,G.Z];exact o);have u:=Jh ((a.Z.alloc a.Z.size _).grown g (oS a.Z.size) (fun b hb=>(q.Z.own b hb).1));clear o g;go_roundw
   case rel=>exact ⟨y+1,om,by go_num,t.Z,u⟩
   exact Jm
 obtain rfl:y=c:=om;have d1:Sem.run prog (convert 72 9 u3) wr= .ok (.string ⟨(kf w0 y xs).toArray⟩) wr:=zDj HO.Z (Nat.mul_pos om b3) (UU w0 y xs);go_wp2_with fail;go_ret;exact ⟨rfl,b0.Z⟩
theorem zFk (W H:Int) (O:Option Addr) (n F:Nat) (xs:List Int) (A z:Int) (q:Option Addr) (C o:Nat) (x:List Int) (w:World)
 (hn:xs.length=n) (ha:Rd w O xs) (hl:n<=9223372036854775807) (U:x.length=C) (P:Rd w q x) (E:C<=9223372036854775807):
 Calls prog 98 #[.agg #[W,H, .slice O n F], .agg #[A,z, .slice q C o]] w fun e w'=>e= .returned ↑(qf W H xs A z x)/\Below w w w':=by
 have D:=Jh hn;have V:=Jh ha;have a:=Jh U;have t:=Jh P;clear hn ha U P;by_cases hp:kC W H xs A z x=true
 case neg=>
  have L:kC W H xs A z x=false:=by simpa using hp
  rw [KJ (fun h=>hp h.1)];clear hp;go_in;go_wp2_with fail;refine (Xq _ _ _ _ _ xs _ _ _ _ _ x _ D.Z (by exact (V.Z.alloc _).alloc _) hl a.Z (by exact (t.Z.alloc _).alloc _) E).mono ?_;rintro e w1 ⟨rfl,hb⟩;have b:=Jh (zI (zJ (zJ bR _) _) hb);have c:=Jh (((Blk.zD (g:=w.heap.size) 31 #[W,H, .slice O n F] (by first | rfl | simp)).alloc _).zA hb);have f:Hd (Blk w1 (w.heap.size+1) 31 #[A,z, .slice q C o]):=Jh ((Blk.zD (g:=w.heap.size+1) 31 #[A,z, .slice q C o] sI).zA hb);obtain ⟨X,c0,c1,c2⟩:=c.Z.c3;obtain ⟨Y,G,d1,d2⟩:=f.Z.c3;clear hb;rw [L];go_wp2_with fail;go_ret;exact ⟨rfl,b.Z⟩
 by_cases u:zP A z x 1=true
 case neg=>
  have L:zP A z x 1=false:=by simpa using u
  rw [KJ (fun h=>u h.2)];clear u;go_in;go_wp2_with fail;refine (Xq _ _ _ _ _ xs _ _ _ _ _ x _ D.Z (by exact (V.Z.alloc _).alloc _) hl a.Z (by exact (t.Z.alloc _).alloc _) E).mono ?_;rintro e w1 ⟨rfl,hb⟩;have b:=Jh (zI (zJ (zJ bR _) _) hb);have c:=Jh (((Blk.zD (g:=w.heap.size) 31 #[W,H, .slice O n F] (by first | rfl | simp)).alloc _).zA hb);have f:Hd (Blk w1 (w.heap.size+1) 31 #[A,z, .slice q C o]):=Jh ((Blk.zD (g:=w.heap.size+1) 31 #[A,z, .slice q C o] sI).zA hb);obtain ⟨X,c0,c1,c2⟩:=c.Z.c3;obtain ⟨Y,G,d1,d2⟩:=f.Z.c3;clear hb;rw [hp];go_wp2_with fail;refine (kK _ _ _ _ _ x _ a.Z (by exact t.Z.below b.Z) E).mono ?_;rintro e w2 ⟨rfl,hb⟩;have b:=Jh (zI b.Z hb);have c:=Jh (c.Z.zA hb);have f:=Jh (f.Z.zA hb);clear c0 c1 c2 G d1 d2 hb;obtain ⟨X,c0,c1,c2⟩:=c.Z.c3;obtain ⟨Y,G,d1,d2⟩:=f.Z.c3;rw [L];go_wp2_with fail;go_ret;exact ⟨rfl,b.Z⟩
 rw [Qj a.Z hp u];have N:=Jh (zBH D.Z a.Z hp);have HI:=Jh (yH D.Z (Zg hp).1).2.2;have J:=Jh (yH a.Z u).2.2
 have b5:n<=1024:=by
  obtain ⟨hs,hq,_⟩:=yH D.Z (Zg hp).1;have:=yF hs;omega
 go_in;go_wp2_with fail;refine (Xq _ _ _ _ _ xs _ _ _ _ _ x _ D.Z (by exact (V.Z.alloc _).alloc _) hl a.Z (by exact (t.Z.alloc _).alloc _) E).mono ?_;rintro e w1 ⟨rfl,hb⟩;have b:=Jh (zI (zJ (zJ bR _) _) hb);have c:=Jh (((Blk.zD (g:=w.heap.size) 31 #[W,H, .slice O n F] (by first | rfl | simp)).alloc _).zA hb);have f:Hd (Blk w1 (w.heap.size+1) 31 #[A,z, .slice q C o]):=Jh ((Blk.zD (g:=w.heap.size+1) 31 #[A,z, .slice q C o] sI).zA hb);obtain ⟨X,c0,c1,c2⟩:=c.Z.c3;obtain ⟨Y,G,d1,d2⟩:=f.Z.c3;clear hb;rw [hp];go_wp2_with fail;refine (kK _ _ _ _ _ x _ a.Z (by exact t.Z.below b.Z) E).mono ?_;rintro e w2 ⟨rfl,hb⟩;have b:=Jh (zI b.Z hb);have c:=Jh (c.Z.zA hb);have f:=Jh (f.Z.zA hb);clear c0 c1 c2 G d1 d2 hb;obtain ⟨X,c0,c1,c2⟩:=c.Z.c3;obtain ⟨Y,G,d1,d2⟩:=f.Z.c3;rw [u];go_wp2_with fail
 go_loop [5,21] (fun s i=> ∃k:Nat,k<=n/\i=↑k/\s=↑(Kz xs x k)) (fun _ i=>n - (intOf i).toNat)
 case atStart=>exact ⟨0,nZ,rfl,rfl⟩
 obtain ⟨k,hk,rfl,rfl⟩:=hrel;have I:n=C:=N.Z;by_cases b4:k<n
 . have T:k<C:=om
   have M:=Jh I;clear I;obtain ⟨ba,oa,b0,b2,Q⟩:=(V.Z.below b.Z).at (oh D);have h1:=Q k (oh D);obtain ⟨bb,ob,b1,b3,R⟩:=(t.Z.below b.Z).at (oh a);have h2:=R k (oh a);subst b0 b1;clear Q R;obtain ⟨G,d1⟩:=zBw HI.Z J.Z (k:=k) (oh D) (oh a);obtain ⟨q0,q1⟩:=zJU G d1;unfold Qi at G d1 q0 q1;obtain ⟨s0,s1⟩:=zBx HI.Z J.Z (zC D.Z a.Z N.Z) k (oh a);obtain ⟨u0,u1⟩:=xx J.Z k (oh a);obtain ⟨u2,u3⟩:=xx HI.Z k (oh D);go_wp2_with fail;go_round
   case rel=>exact ⟨k+1,om,by go_num,rfl⟩
   exact Jm
 have T: ¬k<C:=om;have M:=Jh I;clear I;go_wp2_with fail;go_ret;obtain rfl:k=n:=om;exact ⟨yf (by rw [M.Z]),b.Z⟩
theorem zEs (W H:Int) (O:Option Addr) (n F:Nat) (xs:List Int) (A z:Int) (q:Option Addr) (C o:Nat) (x:List Int) (w:World)
 (hn:xs.length=n) (ha:Rd w O xs) (hl:n<=9223372036854775807) (U:x.length=C) (P:Rd w q x) (E:C<=9223372036854775807):
 Calls prog 173 #[.agg #[W,H, .slice O n F], .agg #[A,z, .slice q C o]] w fun e w'=>e= .returned ↑(qf W H xs A z x)/\Below w w w':=by
 have D:=Jh hn;have V:=Jh ha;have a:=Jh U;have t:=Jh P;clear hn ha U P;by_cases hp:kC W H xs A z x=true
 case neg=>
  have L:kC W H xs A z x=false:=by simpa using hp
  rw [KJ (fun h=>hp h.1)];clear hp;go_in;go_wp2_with fail;refine (qj _ _ _ _ _ xs _ _ _ _ _ x _ D.Z (by exact (V.Z.alloc _).alloc _) hl a.Z (by exact (t.Z.alloc _).alloc _) E).mono ?_;rintro e w1 ⟨rfl,hb⟩;have b:=Jh (zI (zJ (zJ bR _) _) hb);have c:=Jh (((Blk.zD (g:=w.heap.size) 31 #[W,H, .slice O n F] (by first | rfl | simp)).alloc _).zA hb);have f:Hd (Blk w1 (w.heap.size+1) 31 #[A,z, .slice q C o]):=Jh ((Blk.zD (g:=w.heap.size+1) 31 #[A,z, .slice q C o] sI).zA hb);obtain ⟨X,c0,c1,c2⟩:=c.Z.c3;obtain ⟨Y,G,d1,d2⟩:=f.Z.c3;clear hb;rw [L];go_wp2_with fail;go_ret;exact ⟨rfl,b.Z⟩
 by_cases u:zP A z x 1=true
 case neg=>
  have L:zP A z x 1=false:=by simpa using u
  rw [KJ (fun h=>u h.2)];clear u;go_in;go_wp2_with fail;refine (qj _ _ _ _ _ xs _ _ _ _ _ x _ D.Z (by exact (V.Z.alloc _).alloc _) hl a.Z (by exact (t.Z.alloc _).alloc _) E).mono ?_;rintro e w1 ⟨rfl,hb⟩;have b:=Jh (zI (zJ (zJ bR _) _) hb);have c:=Jh (((Blk.zD (g:=w.heap.size) 31 #[W,H, .slice O n F] (by first | rfl | simp)).alloc _).zA hb);have f:Hd (Blk w1 (w.heap.size+1) 31 #[A,z, .slice q C o]):=Jh ((Blk.zD (g:=w.heap.size+1) 31 #[A,z, .slice q C o] sI).zA hb);obtain ⟨X,c0,c1,c2⟩:=c.Z.c3;obtain ⟨Y,G,d1,d2⟩:=f.Z.c3;clear hb;rw [hp];go_wp2_with fail;refine (kH _ _ _ _ _ x _ a.Z (by exact t.Z.below b.Z) E).mono ?_;rintro e w2 ⟨rfl,hb⟩;have b:=Jh (zI b.Z hb);have c:=Jh (c.Z.zA hb);have f:=Jh (f.Z.zA hb);clear c0 c1 c2 G d1 d2 hb;obtain ⟨X,c0,c1,c2⟩:=c.Z.c3;obtain ⟨Y,G,d1,d2⟩:=f.Z.c3;rw [L];go_wp2_with fail;go_ret;exact ⟨rfl,b.Z⟩
 rw [Qj a.Z hp u];have N:=Jh (zBH D.Z a.Z hp);have HI:=Jh (yH D.Z (Zg hp).1).2.2;have J:=Jh (yH a.Z u).2.2
 have b5:n<=1024:=by
  obtain ⟨hs,hq,_⟩:=yH D.Z (Zg hp).1;have:=yF hs;omega
 go_in;go_wp2_with fail;refine (qj _ _ _ _ _ xs _ _ _ _ _ x _ D.Z (by exact (V.Z.alloc _).alloc _) hl a.Z (by exact (t.Z.alloc _).alloc _) E).mono ?_;rintro e w1 ⟨rfl,hb⟩;have b:=Jh (zI (zJ (zJ bR _) _) hb);have c:=Jh (((Blk.zD (g:=w.heap.size) 31 #[W,H, .slice O n F] (by first | rfl | simp)).alloc _).zA hb);have f:Hd (Blk w1 (w.heap.size+1) 31 #[A,z, .slice q C o]):=Jh ((Blk.zD (g:=w.heap.size+1) 31 #[A,z, .slice q C o] sI).zA hb);obtain ⟨X,c0,c1,c2⟩:=c.Z.c3;obtain ⟨Y,G,d1,d2⟩:=f.Z.c3;clear hb;rw [hp];go_wp2_with fail;refine (kH _ _ _ _ _ x _ a.Z (by exact t.Z.below b.Z) E).mono ?_;rintro e w2 ⟨rfl,hb⟩;have b:=Jh (zI b.Z hb);have c:=Jh (c.Z.zA hb);have f:=Jh (f.Z.zA hb);clear c0 c1 c2 G d1 d2 hb;obtain ⟨X,c0,c1,c2⟩:=c.Z.c3;obtain ⟨Y,G,d1,d2⟩:=f.Z.c3;rw [u];go_wp2_with fail
 go_loop [5,21] (fun s i=> ∃k:Nat,k<=n/\i=↑k/\s=↑(Kz xs x k)) (fun _ i=>n - (intOf i).toNat)
 case atStart=>exact ⟨0,nZ,rfl,rfl⟩
 obtain ⟨k,hk,rfl,rfl⟩:=hrel;have I:n=C:=N.Z;by_cases b4:k<n
 . have T:k<C:=om
   have M:=Jh I;clear I;obtain ⟨ba,oa,b0,b2,Q⟩:=(V.Z.below b.Z).at (oh D);have h1:=Q k (oh D);obtain ⟨bb,ob,b1,b3,R⟩:=(t.Z.below b.Z).at (oh a);have h2:=R k (oh a);subst b0 b1;clear Q R;obtain ⟨G,d1⟩:=zBw HI.Z J.Z (k:=k) (oh D) (oh a);obtain ⟨q0,q1⟩:=zJU G d1;unfold Qi at G d1 q0 q1;obtain ⟨s0,s1⟩:=zBx HI.Z J.Z (zC D.Z a.Z N.Z) k (oh a);obtain ⟨u0,u1⟩:=xx J.Z k (oh a);obtain ⟨u2,u3⟩:=xx HI.Z k (oh D);go_wp2_with fail;go_round
   case rel=>exact ⟨k+1,om,by go_num,rfl⟩
   exact Jm
 have T: ¬k<C:=om;have M:=Jh I;clear I;go_wp2_with fail;go_ret;obtain rfl:k=n:=om;exact ⟨yf (by rw [M.Z]),b.Z⟩
def yp (f:Pic->Pic) (d:Dat) (q:Pic):Dat × List UInt8:=((d.1,d.2.1,d.2.2.set (d.2.2.length - 1) (f q)),jM)
def vt (d:Dat) (q:Pic):Dat × List UInt8:=((d.1,d.2.1,d.2.2.take (d.2.2.length - 1)),jM)
def ur (d:Dat) (q:Pic):Dat × List UInt8:=(d,Lib.replaceAll (Lib.trimSuffix (kD q.W q.H q.ink) [10]) [10] [47])
set_option maxRecDepth 100000 in
theorem zHQ (hc bx:Nat) (f:Pic->Pic) (k r:Nat) (w:World) (B g:Nat) (D:Dsk) (I:xe w B g D) (hk:D.n=k+1) (hr:D.a=some ↑r) (eh: ∀args w,(callFunc hc args).run prog w= .ok (.enter hc args) w)
 (b1:w.cell? bx=some (.func (.func hc) #[] #[])) (V:bx<w.heap.size)
 (b2: ∀v,BelowL w v->Calls prog hc #[.agg #[(pv D.ps k).W,(pv D.ps k).H, .slice (pv D.ps k).a (pv D.ps k).n (pv D.ps k).c]] v (jl v (f (pv D.ps k).pic))):
 Calls prog 163 #[.pointer ↑g, .pointer (some ↑(r,k*3)), .pointer ↑bx] w (xT B g D (fun d=>yp f d (pv D.ps k).pic) w):=by
 have t:=Jh I;have HC:=Jh b2;obtain ⟨c0,c1,c2,ln,rd,sm,_⟩:=I.last hk hr;have KK:=Jh hk;have O:=Jh hr;have L:D.dat.2.2.length=k+1:=by show (zS D.ps).length=k+1;rw [xa,I.own.s.len,hk]
 have E:Hd (yp f D.dat (pv D.ps k).pic=((D.P.pic,D.M.pic,(zS D.ps).set k (f (pv D.ps k).pic)),jM)):=Jh (by unfold yp;rw [L,Nat.add_sub_cancel];rfl);obtain ⟨q,hq⟩: ∃q,pv D.ps k=q:=⟨_,rfl⟩
 rw [hq] at c0 c1 c2 HC E⊢;have Y:r<w.heap.size:=(I.own.bd r (.inr (.inr (.inl (by rw [hr];rfl))))).2;have MK:Hd (∀v,BelowL w v->Jc v (r,k*3) q.W/\Jc v (r,k*3+1) q.H/\Jc v (r,k*3+2) (.slice q.a q.n q.c)/\Jc v bx (.func (.func hc) #[] #[])/\BelowL w v):=Jh (fun v h=>⟨(h.Z.cell Y).trans c0,(h.Z.cell Y).trans c1,(h.Z.cell Y).trans c2,(h.Z.cell V).trans b1,h⟩);clear I b2 hk hr c0 c1 c2 ln rd hq L b1;go_in;go_upto_region 1 with fail;refine zh 7 MK zK (MK.Z _ lS) ?_;intro F;have b0:=ZM F;refine zM 0 ?_;refine zM 1 ?_;refine zM 2 ?_;refine zM 3 ?_;refine zM 4 ?_;refine zW 5 (fun K hK=>?_);go_simp
 go_at_fn hc
 ((refine (HC.Z _ b0).mono ?_);rintro e v1 ⟨a1,n1,k1,rfl,ho,c5,d0⟩)
 have A:=BelowL.call b0 d0;go_wp2_with fail;refine hK.out _ _ (fun _=>Jd (MK.Z _ A)) (fun hH2=>?_);clear hK K F hH2;refine zW 6 (fun K hK=>?_);go_simp;refine hK.out _ _ (fun _=>Jd (MK.Z _ A)) (fun hH2=>?_);clear hK K hH2;have b8:=t.Z.own.s.below A.Z;have z:=b8;rw [O.Z] at z;have f0:=z.rowOf.frozen (k*3);have f1:=z.rowOf.frozen (k*3+1);have f2:=z.rowOf.frozen (k*3+2);obtain ⟨c0,c1,c2,c3,_⟩:=MK.Z _ A;clear c3;refine zW 7 (fun K hK=>?_);go_simp;refine hK.out _ _ (fun h=>absurd h dC) (fun hH2=>?_);clear hK K hH2;refine zx zK ?_ _;(try go_simp);go_wp2_with fail;go_ret;have c4:=t.Z.base;have b5:k<D.n:=by have:=KK.Z;omega
 have b4:k<D.ps.length:=by rw [t.Z.own.s.len];exact b5
 have b3: ∀b,zL a1=some b->w.heap.size<=b/\b<v1.heap.size:=fun b hb=>by have:=ho.bd b hb;simpa using this
 have X: ∀b,D.blocks b->b<w.heap.size:=fun b hb=>(t.Z.own.bd b hb).2;have b6:D.blocks r:= .inr (.inr (.inl (by rw [O.Z];rfl)));have d1:r≠g:=t.Z.off r b6;have U:B<=r:=(t.Z.own.bd r b6).1;have d2:=t.Z.box.lt;have b7:=t.Z.size;obtain ⟨J,C⟩:=zN (⟨(f q.pic).W,(f q.pic).H,a1,n1,k1,(f q.pic).ink⟩:PV);have c8:OwnA v1 B J.a J.n J.c J.ink:=by rw [C];exact ho.mono (by simpa using b7)
 have N:=OwnV.setPic z b5 J c8 (fun b hb=>by
  rw [C] at hb;have h1:=b3 b hb;refine ⟨om,fun V=>?_⟩;have h2:=X b (.inr (.inr (by rw [O.Z];exact V)))
  omega)
 have Q: ∀b,OwnV.blocks ↑r (D.ps.set k J) b->OwnV.blocks D.a D.ps b\/w.heap.size<=b:=fun b hb=>by
  rcases hb with hb | ⟨j,hj,hb⟩
  exact .inl (.inl (by rw [O.Z];exact hb));by_cases e:k=j
  subst e;rw [xw b4,C] at hb;exact .inr (b3 b hb).1;rw [kz e] at hb;exact .inl (.inr ⟨j,by simpa using hj,hb⟩)
 have kR: ∀ {u:World} {T:Nat} {cs:Array Value} (i:Nat) (x:Value),Blk u g T cs->Blk (u.setCell (r,i) x) g T cs:=fun i x h=>h.other (by simpa using d1) x;have kA: ∀ {u:World} {ad:Option Addr} {m c:Nat} {zs:List Int} (i:Nat) (x:Value),(∀b,zL ad=some b->b≠r)->OwnA u B ad m c zs->OwnA (u.setCell (r,i) x) B ad m c zs:=fun i x hx h=>h.zF (fun e=>hx _ e rfl) x;have gP: ∀b,zL D.P.a=some b->b≠r:=fun b hb e=>t.Z.own.ps r (.inl (by rw [O.Z];rfl)) (by rw [hb,e]);have gM: ∀b,zL D.M.a=some b->b≠r:=fun b hb e=>t.Z.own.ms r (.inl (by rw [O.Z];rfl)) (by rw [hb,e]);refine ⟨⟨D.P,D.M,some ↑r,D.n,D.c,D.ps.set k J⟩,?_,?_,⟨?_,?_,?_,t.Z.own.pm,fun b hb e=>?_,fun b hb e=>?_⟩,fun b hb=>?_,?_,⟨t.Z.small.p,t.Z.small.m,t.Z.small.n,fun j hj=>?_⟩,?_⟩;show _=Ending.returned (.string ⟨(yp f D.dat q.pic).2.toArray⟩);rw [E.Z];rfl;have hb:=kR (k*3+2) (.slice a1 n1 k1) (kR (k*3+1) (.int .i64 (f q.pic).H) (kR (k*3) (.int .i64 (f q.pic).W) (t.Z.box.zA A.Z)));unfold Dsk.cells at hb⊢;dsimp only;rw [O.Z] at hb;exact hb;exact kA _ _ gP (kA _ _ gP (kA _ _ gP (t.Z.own.p.zA A.Z)));exact kA _ _ gM (kA _ _ gM (kA _ _ gM (t.Z.own.m.zA A.Z)));rw [C] at N⊢;exact N;rcases Q b hb with hb | hb
 exact t.Z.own.ps b hb e;have:=X b (.inl e);omega;rcases Q b hb with hb | hb
 exact t.Z.own.ms b hb e;have:=X b (.inr (.inl e));omega;rcases hb with hb | hb | hb
 exact t.Z.off b (.inl hb);exact t.Z.off b (.inr (.inl hb));rcases Q b hb with hb | hb
 exact t.Z.off b (.inr (.inr hb));omega;show _=(yp f D.dat q.pic).1;rw [E.Z];show (D.P.pic,D.M.pic,zS (D.ps.set k J))=(D.P.pic,D.M.pic,(zS D.ps).set k (f q.pic))
 rw [C];simp [zS,List.map_set,PV.pic];by_cases e:k=j
 subst e;show (pv (D.ps.set k J) k).n<=1048576;rw [xw b4,C];exact c5;show (pv (D.ps.set k J) j).n<=1048576;rw [kz e];exact t.Z.small.s j (by simpa using hj);exact (((A.Z.mono b7).setCell U _).setCell U _).setCell U _
theorem OwnV.take {w:World} {B n f:Nat} {g:Nat} {L:List PV} (h:OwnV w B ↑g n f L) (k:Nat) (hk:k<=n):OwnV w B ↑g k f (L.take k):=by
 have hl:=h.len
 have hp: ∀j,j<k->pv (L.take k) j=pv L j:=fun j c=>by
  unfold pv;simp [List.getD,List.getElem?_take,c]
 refine ⟨by rw [Yj];omega,?_,fun j c=>by rw [hp j c];exact h.ink j om,fun j b c hb=>by rw [hp j c] at hb;exact h.off j b om hb,fun i j b o c hb=>by
  rw [hp i om] at hb;rw [hp j c]
  exact h.apart i j b o om hb⟩
 rcases h.row with ⟨t,_⟩ | ⟨g2,h1,h2,a,u,C,x,z,A⟩
 cases t;cases h1;refine .inr ⟨g,rfl,h2,a,u,by rw [Yj];omega,x,z,?_⟩
 have e:yZ L=yZ (L.take k)++yZ (L.drop k):=by
  have h3:yZ (L.take k++L.drop k)=yZ (L.take k)++yZ (L.drop k):=by unfold yZ;rw [List.flatMap_append]
  rw [List.take_append_drop] at h3;exact h3
 have q:(yZ (L.take k)).length=(L.take k).length*3:=zCr _
 have s:a.toList.take ((L.take k).length*3)=(a.toList.take (L.length*3)).take ((L.take k).length*3):=by
  rw [List.take_take,Nat.min_eq_left (by rw [Yj];omega)]
 rw [s,A,e,<-q,List.take_left]
set_option maxRecDepth 100000 in
theorem zMX (k r:Nat) (w:World) (B g:Nat) (D:Dsk) (q:xe w B g D) (hk:D.n=k+1) (hr:D.a=some ↑r) (X:k+1<=D.c):
 Calls prog 125 #[.pointer ↑g, .pointer (some ↑(r,k*3))] w (xT B g D (fun d=>vt d (pv D.ps k).pic) w):=by
 have f:=Jh q;have C:Blk w g 35 ↑D:=q.box;obtain ⟨m0,Y,d1,d2,d3,d4,d5,T⟩:=C.c7;obtain ⟨f0,f1,f2,f3,f4,f5,f6⟩:=C.f7;rw [hk,hr] at T;have I:=Jh hk;have J:=Jh hr;have u:D.dat.2.2.length=k+1:=by show (zS D.ps).length=k+1;rw [xa,q.own.s.len,hk]
 have E:Hd (vt D.dat (pv D.ps k).pic=((D.P.pic,D.M.pic,(zS D.ps).take k),jM)):=Jh (by unfold vt;rw [u,Nat.add_sub_cancel];rfl);have b5:=q.small.n;have b0:(0:Int)<=(k:Int):=om;have b1:IntKind.i64.wrap (((k+1:Nat):Int) - 1)=(k:Int):=by rw [Yc _ om];omega
 have b2:IntKind.i64.wrap (k:Int)=(k:Int):=Yc _ om;have b3:k<=D.c:=om;have H:=Jh C;clear q u Y d1 d2 d3 d4 d5 C hk hr;go_in;go_upto_region 1 with fail;have F:Hd (∀v,BelowL w v->Jc v (g,6) (.slice ↑r (k+1) D.c)/\BelowL w v):=Jh (fun v h=>⟨(h.Z.cell m0).trans T,h⟩);refine zh 14 F zK (F.Z _ lS) ?_;intro x;refine zM 0 ?_;refine zM 1 ?_;refine zM 2 ?_;refine zM 3 ?_;refine zM 4 ?_;refine zM 5 ?_;refine zM 6 ?_;refine zM 7 ?_;refine zM 8 ?_;refine zM 9 ?_;refine zM 10 ?_;refine zM 11 ?_;refine zW 12 (fun K hK=>?_);go_simp;refine hK.out _ _ (fun _=>Jd (F.Z _ lS)) (fun hH2=>?_);clear hK K x hH2;refine zW 13 (fun K hK=>?_);go_simp;refine hK.out _ _ (fun _=>Jd (F.Z _ lS)) (fun hH2=>?_);clear hK K hH2;refine zW 14 (fun K hK=>?_);go_simp;refine hK.out _ _ (fun h=>absurd h dC) (fun hH2=>?_);clear hK K hH2;refine zx zK ?_ _;(try go_simp);go_wp2_with fail;go_ret;have z:=f.Z.base;have Q:D.blocks r:= .inr (.inr (.inl (by rw [J.Z];rfl)));have b6:r≠g:=f.Z.off r Q;have b4:D.ps.length=k+1:=by rw [f.Z.own.s.len,I.Z]
 have W:=f.Z.own.s;rw [J.Z,I.Z] at W;have hT:=W.take k om
 have t: ∀b,OwnV.blocks ↑r (D.ps.take k) b->OwnV.blocks D.a D.ps b:=fun b hb=>by
  rcases hb with hb | ⟨j,L,hb⟩
  exact .inl (by rw [J.Z];exact hb);rw [Yj] at L;refine .inr ⟨j,om,?_⟩;have e:pv (D.ps.take k) j=pv D.ps j:=by unfold pv;simp [List.getD,List.getElem?_take,show j<k by omega]
  rw [e] at hb;exact hb
 have A:KeepT (fun i=>i=g) w ((w.setCell (g,6) (.slice ↑r k D.c)).drew):=by
  have h:=KeepT.set (S:=fun i=>i=g) (KeepT.refl _ w) (a:=↑(g,6)) rfl (.slice ↑r k D.c);exact ⟨h.os,h.tape,h.output,h.size,h.block⟩
 have V: ∀b,zL D.P.a=some b->b≠g:=fun b hb=>f.Z.off b (.inl hb);have U: ∀b,zL D.M.a=some b->b≠g:=fun b hb=>f.Z.off b (.inr (.inl hb));refine ⟨⟨D.P,D.M,some ↑r,k,D.c,D.ps.take k⟩,?_,(H.Z.putS _).drew,⟨?_,?_,?_,f.Z.own.pm,fun b hb=>f.Z.own.ps b (t b hb),fun b hb=>f.Z.own.ms b (t b hb)⟩,fun b hb=>?_,?_,⟨f.Z.small.p,f.Z.small.m,by have:=I.Z;show k<=1048576;omega,fun j L=>?_⟩,?_⟩;show _=Ending.returned (.string ⟨(vt D.dat (pv D.ps k).pic).2.toArray⟩);rw [E.Z];rfl;exact A.ownA f.Z.own.p (fun b hb e=>V b hb e);exact A.ownA f.Z.own.m (fun b hb e=>U b hb e);exact A.ownV hT (fun i hi e=>f.Z.off i (.inr (.inr (t i hi))) e);rcases hb with hb | hb | hb
 exact V b hb;exact U b hb;exact f.Z.off b (.inr (.inr (t b hb)));show _=(vt D.dat (pv D.ps k).pic).1;rw [E.Z];show (D.P.pic,D.M.pic,zS (D.ps.take k))=(D.P.pic,D.M.pic,(zS D.ps).take k)
 simp [zS,List.map_take]
 have N:j<k:=by
  have O:j<(D.ps.take k).length:=L;rw [Yj] at O;omega
 show (pv (D.ps.take k) j).n<=1048576;have e:pv (D.ps.take k) j=pv D.ps j:=by unfold pv;simp [List.getD,List.getElem?_take,N]
 rw [e];exact f.Z.small.s j om;exact ((Below.refl B w).setCell z _).drew
set_option maxRecDepth 100000 in
theorem zJd (k r:Nat) (w:World) (B g:Nat) (D:Dsk) (s:xe w B g D) (hk:D.n=k+1) (hr:D.a=some ↑r) (hi:yK (qf D.P.W D.P.H D.P.ink (pv D.ps k).W (pv D.ps k).H (pv D.ps k).ink)):
 Calls prog 130 #[.pointer ↑g, .pointer (some ↑(r,k*3))] w (xT B g D (fun d=>qQ d (pv D.ps k).pic) w):=by
 have b:=Jh s;obtain ⟨c0,c1,c2,N,rd,sm,_⟩:=s.last hk hr;have Q:Blk w g 35 ↑D:=s.box;obtain ⟨O,T,d1,d2,d3,d4,d5,d6⟩:=Q.c7;have u:r<w.heap.size:=(s.own.bd r (.inr (.inr (.inl (by rw [hr];rfl))))).2;obtain ⟨q,U⟩: ∃q,pv D.ps k=q:=⟨_,rfl⟩
 rw [U] at c0 c1 c2 N rd sm hi⊢;have RD:=Jh rd;have LN:=Jh N;obtain ⟨V,I⟩: ∃V,qf D.P.W D.P.H D.P.ink q.W q.H q.ink=V:=⟨_,rfl⟩
 have E:Hd (qQ D.dat q.pic=(D.dat,xI [V])):=Jh (by unfold qQ;rw [<-I];rfl);rw [I] at hi;have HI:=Jh hi
 have Y:Hd (∀v,BelowL w v->Calls prog 173 #[.agg #[D.P.W,D.P.H, .slice D.P.a D.P.n D.P.c], .agg ↑q] v (zR (.int .i64 V) v)):=Jh (fun v hv=>by
  rw [<-I]
  exact zEs D.P.W D.P.H D.P.a D.P.n D.P.c D.P.ink q.W q.H q.a q.n q.c q.ink v b.Z.own.p.len (b.Z.own.p.rd.below hv.Z) (og b.Z.small.p) LN.Z (RD.Z.below hv.Z) om)
 have z:Hd (∀v,BelowL w v->(JB v g D.P.W D.P.H (.slice D.P.a D.P.n D.P.c) (Jc v (r,k*3) q.W/\Jc v (r,k*3+1) q.H/\Jc v (r,k*3+2) (.slice q.a q.n q.c)/\BelowL w v):Prop)):=Jh (fun v h=>⟨(h.Z.cell O).trans T,(h.Z.cell O).trans d1,(h.Z.cell O).trans d2,(h.Z.cell u).trans c0,(h.Z.cell u).trans c1,(h.Z.cell u).trans c2,h⟩);clear s hk hr rd N hi U I c0 c1 c2 T d1 d2 d3 d4 d5 d6 Q;go_in;go_upto_region 1 with fail;refine zh 10 z zK (z.Z _ lS) ?_;intro f;have A:=jx f;refine zM 0 ?_;refine zM 1 ?_;refine zM 2 ?_;refine zM 3 ?_;refine zM 4 ?_;refine zM 5 ?_;refine zM 6 ?_;refine zW 7 (fun K hK=>?_);go_simp
 go_at_call 173
 ((with_reducible refine (Y.Z _ A).mono ?_);rintro e v1 ⟨rfl,L⟩);have C:=BelowL.call A L;go_wp2_with fail;refine hK.out _ _ (fun _=>Jd (z.Z _ C)) (fun hH2=>?_);clear hK K f hH2;refine zW 8 (fun K hK=>?_);go_simp;have t:=BelowL.alloc C (.cells #[.int .i64 V] 3);refine hK.out _ _ (fun _=>Jd (z.Z _ t)) (fun hH2=>?_);clear hK K hH2;have J:=b.Z.laid.below t.Z;refine zW 9 (fun K hK=>?_);go_simp
 go_at_call 162
 refine (ug ↑v1 1 1 [V] _ rfl (by exact zHz _ _ _) om (fun x X=>by simp at X;rw [X];exact HI.Z) J).mono ?_;rintro e v2 ⟨rfl,M⟩;have F:=BelowL.call t M;go_wp2_with fail;refine hK.out _ _ (fun _=>Jd (z.Z _ F)) (fun hH2=>?_);clear hK K hH2;refine zW 10 (fun K hK=>?_);go_simp;refine hK.out _ _ (fun h=>absurd h dC) (fun hH2=>?_);clear hK K hH2;refine zx zK ?_ _;(try go_simp);go_wp2_with fail;go_ret;exact b.Z.stay F.Z (by rw [E.Z]) (by rw [E.Z])
theorem zGA (s p:List UInt8):(Lib.trimSuffix s p).length<=s.length:=by
 unfold Lib.trimSuffix;split;rw [Yj];omega;exact nI
set_option maxRecDepth 100000 in
theorem zMa (k r:Nat) (w:World) (B g:Nat) (D:Dsk) (f:xe w B g D) (hk:D.n=k+1) (hr:D.a=some ↑r) (hi:(kD (pv D.ps k).W (pv D.ps k).H (pv D.ps k).ink).length<=1048576):
 Calls prog 126 #[.pointer ↑g, .pointer (some ↑(r,k*3))] w (xT B g D (fun d=>ur d (pv D.ps k).pic) w):=by
 have i:=Jh f;obtain ⟨c0,c1,c2,N,rd,sm,P⟩:=f.last hk hr;obtain ⟨q,Q⟩: ∃q,pv D.ps k=q:=⟨_,rfl⟩
 rw [Q] at c0 c1 c2 N rd sm hi P⊢;have V:=Jh rd;have U:=Jh N;obtain ⟨T,C⟩: ∃T,kD q.W q.H q.ink=T:=⟨_,rfl⟩
 rw [C] at hi;have E:Hd (ur D.dat q.pic=(D.dat,Lib.replaceAll (Lib.trimSuffix T [10]) [10] [47])):=Jh (by unfold ur;rw [show q.pic.W=q.W from rfl,show q.pic.H=q.H from rfl,show q.pic.ink=q.ink from rfl,C]);have R:=Jh C;have O:=Jh hi;clear f hk hr rd N hi Q C;go_in;go_wp2_with fail;refine (zEr q.W q.H q.a q.n q.c q.ink _ U.Z (by exact V.Z) om P).mono ?_;rw [R.Z];rintro e w1 ⟨rfl,hb⟩;have I:=Jh hb;have M:=Jh (i.Z.laid.below hb);clear hb c0 c1 c2;obtain ⟨s,F⟩: ∃s:ByteArray,(⟨T.toArray⟩:ByteArray)=s:=⟨_,rfl⟩
 have u:s.data.toList=T:=by rw [<-F]
 have X:s.size<=1048576:=by
  have:s.size=T.length:=by rw [<-F];rfl
  have:=O.Z;omega
 rw [F];clear F;go_wp2_with fail;refine (Tryz.strings_TrimSuffix s ⟨#[10]⟩ _ om).mono ?_;rw [u];rintro e w2 ⟨rfl,rfl⟩;obtain ⟨t,G⟩: ∃t:ByteArray,(⟨(Lib.trimSuffix T [10]).toArray⟩:ByteArray)=t:=⟨_,rfl⟩
 have A:t.data.toList=Lib.trimSuffix T [10]:=by rw [<-G]
 have Y:t.size<=1048576:=by
  have h1:t.size=(Lib.trimSuffix T [10]).length:=by rw [<-G];rfl
  have h2:=zGA T [10];have:=O.Z;omega
 have z:(⟨(Lib.trimSuffix T (⟨#[10]⟩:ByteArray).data.toList).toArray⟩:ByteArray)=t:=G;rw [z];clear G z;obtain ⟨m,hm⟩:=M.Z.max;have o:=Lib.countB_mul_le ⟨#[10]⟩ dC t.size t nI;have b:(⟨#[10]⟩:ByteArray).size=1:=rfl;have x:(⟨#[47]⟩:ByteArray).size=1:=rfl;have hc:=Tryz.strings_ReplaceAll t ⟨#[10]⟩ ⟨#[47]⟩ m w2 om hm (by rw [b];omega) (by rw [b] at o;rw [x];omega);rw [A] at hc;have L:=Jh hc;clear hc hm o A u;go_wp2_with fail;refine L.Z.mono ?_;rintro e w3 ⟨rfl,hb⟩;have J:=Jh (zI I.Z hb);go_wp2_with fail;go_ret;exact i.Z.stay J.Z (by rw [E.Z]) (by rw [E.Z])
end Go.Proofs.YtlenfgdjdianiaaGreatDoor
