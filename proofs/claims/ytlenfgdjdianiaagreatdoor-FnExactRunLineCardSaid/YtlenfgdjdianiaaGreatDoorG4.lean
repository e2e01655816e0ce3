/- Facts on which this claim rests, 4. -/
import Derived.BigGuardPart
import Derived.StillTailTactics
import Derived.Test.YtlenfgdjdianiaaGreatDoorG3
set_option linter.all false
set_option maxHeartbeats 6400000
namespace Go.Proofs.YtlenfgdjdianiaaGreatDoor
open Go.RowKit Tq Go.Proofs.Tryz
variable {H W a v : Int} {k n : Nat}
theorem qN (W H:Int) (w:World):
 Calls prog 111 #[W,H] w fun e w'=>e= .returned (.bool (yV W H))/\w=w':=by
 by_cases c:1<=W/\W<=64/\1<=H/\H<=64
 . obtain ⟨h1,h2,h3,h4⟩:=c
   rw [NC h1 h2 h3 h4];obtain ⟨b,f⟩:=BQ W H h1 h2 h3 h4;go_in
   go_wp2
   all_goals (go_ret;exact ⟨rfl,rfl⟩)
 rw [Hw c];go_in
 go_wp2
 all_goals (go_ret;first | exact ⟨rfl,rfl⟩ | (exfalso;exact c ⟨om,om,om,om⟩))
theorem YF (x a b:Int) (w:World):
 Calls prog 57 #[x,a,b] w fun e w'=>e= .returned (.bool (decide (a<=x/\x<=b)))/\w=w':=by
 go_in
 go_wp2
 all_goals (go_ret;exact ⟨zV (by first | (simp [*];done) | (simp [*];omega) | (simp;intros;omega)),rfl⟩)
theorem XB (W H:Int) (w:World):
 Calls prog 101 #[W,H] w fun e w'=>e= .returned (.bool (yV W H))/\w=w':=by
 by_cases c:1<=W/\W<=64/\1<=H/\H<=64
 . obtain ⟨h1,h2,h3,h4⟩:=c
   rw [NC h1 h2 h3 h4];obtain ⟨b,f⟩:=BQ W H h1 h2 h3 h4;go_in
   go_wp2
   all_goals (go_ret;exact ⟨rfl,rfl⟩)
 rw [Hw c];go_in
 go_wp2
 all_goals (go_ret;first | exact ⟨rfl,rfl⟩ | (exfalso;exact c ⟨om,om,om,om⟩))
theorem Ul (l:Option Addr) (n f:Nat) (xs:List Int) (m:Int) (w:World) (hn:xs.length=n) (ha:Rd w l xs) (hl:n<=↑Zn):
 Calls prog 112 #[.slice l n f,m] w fun e w'=>e= .returned (.bool (xM xs m))/\w=w':=by
 have b:=Jh hn;have o:=Jh ha;clear hn ha;go_in
 go_wp2
 go_loop [9] (fun i=> ∃k:Nat,k<=n/\i=↑k/\Hd (xM (xs.take k) m=true)) (fun i=>n - (intOf i).toNat)
 exact ⟨0,nZ,rfl,rfl⟩;obtain ⟨k,hk,rfl,j⟩:=hrel;by_cases t:k<n
 . obtain ⟨q,u,g,s,c⟩:=o.Z.at (oh b)
   subst g;have h1:w.cell? (q,u+k)=some ↑(xs.getD k 0):=c k (oh b);clear c
   go_wp2
   iterate 2
    go_ret;exact ⟨zV (NW xs k m (oh b) om).symm,rfl⟩
   go_round
   . exact ⟨k+1,om,by go_num,by rw [EC _ _ _ (oh b),j.Z,Bool.true_and,decide_eq_true_iff];exact ⟨om,om⟩⟩
   exact Jm
 go_wp2
 go_ret;obtain rfl:k=n:=om;have h:=j.Z;rw [Yk (oh b)] at h;exact ⟨zV h.symm,rfl⟩
theorem NK (W H:Int) (u:Option Addr) (n l:Nat) (xs:List Int) (m:Int) (w:World) (hn:xs.length=n) (ha:Rd w u xs) (hl:n<=9223372036854775807):
 Calls prog 84 #[.agg #[W,H, .slice u n l],m] w (zR (.bool (zT W H xs m)) w):=by
 have c:=Jh hn;have x:=Jh ha;clear hn ha;by_cases j:yV W H=true
 case neg=>
  have s:yV W H=false:=by simpa using j
  rw [Mi s];clear j;go_in;go_wp2_with (go_at_call 101;refine (XB _ _ _).mono ?_;rintro e w' ⟨rfl,rfl⟩);go_ret;exact ⟨rfl,nJ⟩
 obtain ⟨b1,b2,b3,D,E,F⟩:=yP j;by_cases f:(n:Int)=W*H
 case neg=>
  rw [Mj c.Z f];have q:((n:Int) !=W*H)=true:=by simpa using f
  clear f;go_in;go_wp2_with (go_at_call 101;refine (XB _ _ _).mono ?_;rintro e w' ⟨rfl,rfl⟩);go_ret;exact ⟨rfl,nJ⟩
 rw [KU c.Z j f];have q:((n:Int) !=W*H)=false:=by simpa using f
 clear f;go_in;go_wp2_with (go_at_call 101;refine (XB _ _ _).mono ?_;rintro e w' ⟨rfl,rfl⟩)
 go_loop [27] (fun i=> ∃k:Nat,k<=n/\i=↑k/\Hd (xM (xs.take k) m=true)) (fun i=>n - (intOf i).toNat)
 exact ⟨0,nZ,rfl,rfl⟩;obtain ⟨k,hk,rfl,t⟩:=hrel;by_cases B:k<n
 . obtain ⟨z,C,o,A,g⟩:=x.Z.at (oh c)
   subst o;have h1:w.cell? (z,C+k)=some ↑(xs.getD k 0):=g k (oh c);clear g;by_cases hv:0<=xs[k]?.getD 0/\xs[k]?.getD 0<=m
   . have b:decide (0<=xs[k]?.getD 0/\xs[k]?.getD 0<=m)=true:=by simpa using hv
     go_wp2_with fail;refine (YF _ _ _ _).mono ?_;rintro e w' ⟨rfl,rfl⟩;rw [b];clear b
     go_wp2
     go_round
     . exact ⟨k+1,om,by go_num,by rw [EC _ _ _ (oh c),t.Z,Bool.true_and,decide_eq_true_iff];exact hv⟩
     exact Jm
   have b:decide (0<=xs[k]?.getD 0/\xs[k]?.getD 0<=m)=false:=by simpa using hv
   have y:=Jh hv;clear hv;go_wp2_with fail;refine (YF _ _ _ _).mono ?_;rintro e w' ⟨rfl,rfl⟩;rw [b];clear b
   go_wp2
   go_ret;exact ⟨zV (NW xs k m (oh c) y.Z).symm,nJ⟩
 go_wp2
 go_ret;obtain rfl:k=n:=om;have h:=t.Z;rw [Yk (oh c)] at h;exact ⟨zV h.symm,nJ⟩
theorem yj (W H:Int) (c:Option Addr) (n b:Nat) (xs:List Int) (w:World) (hn:xs.length=n) (ha:Rd w c xs) (hl:n<=↑Zn):
 Calls prog 45 #[.agg #[W,H, .slice c n b]] w (zR (.bool (zT W H xs 255)) w):=by
 have i:=Jh hn;have f:=Jh ha;clear hn ha;go_in;go_wp2_with fail;refine (NK _ _ _ _ _ xs _ _ i.Z (f.Z.below nJ) hl).mono ?_;rintro e w' ⟨rfl,hb⟩;have g:=Jh hb;clear hb
 go_wp2
 go_ret;exact ⟨rfl,nJ.trans (g.Z.mono sI)⟩
theorem xV (W H:Int) (l:Option Addr) (n g:Nat) (xs:List Int) (w:World) (hn:xs.length=n) (ha:Rd w l xs) (hl:n<=9223372036854775807):
 Calls prog 70 #[.agg #[W,H, .slice l n g]] w (zR (.bool (zT W H xs 255)) w):=by
 have f:=Jh hn;have m:=Jh ha;clear hn ha;by_cases c:yV W H=true
 case neg=>
  have j:yV W H=false:=by simpa using c
  rw [Mi j];clear c;go_in;go_wp2_with (go_at_call 111;refine (qN _ _ _).mono ?_;rintro e w' ⟨rfl,rfl⟩);go_ret;exact ⟨rfl,nJ⟩
 obtain ⟨b1,b2,b3,o,q,s⟩:=yP c;by_cases b:(n:Int)=W*H
 case neg=>
  rw [Mj f.Z b];have i:((n:Int)==W*H)=false:=by simpa using b
  clear b;go_in;go_wp2_with (go_at_call 111;refine (qN _ _ _).mono ?_;rintro e w' ⟨rfl,rfl⟩);go_ret;exact ⟨rfl,nJ⟩
 rw [KU f.Z c b];have i:((n:Int)==W*H)=true:=by simpa using b
 clear b;go_in;go_wp2_with (go_at_call 111;refine (qN _ _ _).mono ?_;rintro e w' ⟨rfl,rfl⟩);refine (Ul _ _ _ xs _ _ f.Z (m.Z.below nJ) hl).mono ?_;rintro e w' ⟨rfl,rfl⟩
 go_wp2
 go_ret;exact ⟨rfl,nJ⟩
theorem AL (s l b:Int) (w:World) (h1:1<=b) (h2:b<=64) (h3:l<=9223372036854775807):
 Calls prog 182 #[s,l,b] w fun e w'=>e= .returned (.bool (decide (1<=l/\0<=s/\s<=b - l)))/\w=w':=by
 by_cases c:1<=l
 . go_in
   go_wp2
   all_goals (go_ret;exact ⟨zV (by first | (simp [*];done) | (simp [*];omega) | (simp;intros;omega)),rfl⟩)
 go_in
 go_wp2
 all_goals (go_ret;exact ⟨zV (by first | (simp [*];done) | (simp [*];omega) | (simp;intros;omega)),rfl⟩)
theorem wO (s l b:Int) (w:World) (h1:1<=b) (h2:b<=64) (h3:1<=l) (h4:0<=s) (c:s<=b - l):
 Calls prog 182 #[s,l,b] w fun e w'=>e= .returned (.bool true)/\w=w':=
 (AL s l b w h1 h2 om).mono fun e w' ⟨he,hw⟩=>⟨by rw [he];exact zV (by simp [h3,h4,c]),hw⟩
theorem ZN (s l b:Int) (w:World) (h1:1<=b) (h2:b<=64) (h3:l<=9223372036854775807) (h4: ¬(1<=l/\0<=s/\s<=b - l)):
 Calls prog 182 #[s,l,b] w fun e w'=>e= .returned (.bool false)/\w=w':=
 (AL s l b w h1 h2 h3).mono fun e w' ⟨he,hw⟩=>⟨by rw [he];exact zV (by simpa using h4),hw⟩
theorem ZF (h:yV W H=true):((W*H).toNat:Int)=W*H/\(W*H).toNat<=1024/\1<=(W*H).toNat:=by
 obtain ⟨_,_,_,_,b,c⟩:=yP h;omega
theorem qF (W H:Int) (n:Nat) (w:World) (j:yV W H=true) (hn:(n:Int)=W*H):
 Calls prog 141 #[W,H] w fun e w'=> ∃g,e= .returned (.agg #[W,H, .slice (some ⟨g,0,none⟩) n n])/\w.heap.size<=g/\Own w' g n n (List.replicate n 0)/\Below w w w':=by
 obtain ⟨b1,b2,b3,l,m,o⟩:=yP j;have b:=Jh hn;have i:n<=1024:=om;clear hn;go_in;go_wp2_with (at_make;refine uE _ rfl _ _ rfl .i64 .i64 (W*H) (W*H) n rfl rfl b.Z.symm b.Z.symm om ?_;intro M c);have f:=Jh c;clear c;refine bodyPost_ret (v:= .agg #[W,H, .slice ↑(w.heap.size+1) n n]) (Jr results141) rfl ⟨w.heap.size+1,rfl,om,?_,?_⟩;exact f.Z.own' _ sI;exact nV
theorem qY (W H:Int) (n:Nat) (w:World) (j:yV W H=true) (hn:(n:Int)=W*H):
 Calls prog 81 #[W,H] w fun e w'=> ∃g,e= .returned (.agg #[W,H, .slice (some ⟨g,0,none⟩) n n])/\w.heap.size<=g/\Own w' g n n (List.replicate n 0)/\Below w w w':=by
 obtain ⟨b1,b2,b3,l,m,o⟩:=yP j;have b:=Jh hn;have i:n<=1024:=om;clear hn;go_in;go_wp2_with (at_make;refine uE _ rfl _ _ rfl .i64 .i64 (W*H) (W*H) n rfl rfl b.Z.symm b.Z.symm om ?_;intro M c);have f:=Jh c;clear c;refine bodyPost_ret (v:= .agg #[W,H, .slice ↑(w.heap.size+1) n n]) (Jr results81) rfl ⟨w.heap.size+1,rfl,om,?_,?_⟩;exact f.Z.own' _ sI;exact nV
theorem Og (h: ¬(yV W H=true/\0<=v/\v<=255)):kS W H v=(xF,false):=by unfold kS;rw [if_neg h]
theorem MF (h:yV W H=true) (h2:0<=v) (h3:v<=255) (hn:(n:Int)=W*H):kS W H v=(⟨W,H,List.replicate n v⟩,true):=by
 unfold kS;rw [if_pos ⟨h,h2,h3⟩,<-hn];simp
theorem VO (W H v:Int) (w:World):Calls prog 82 #[W,H,v] w (KE w (kS W H v)):=by
 by_cases hc:yV W H=true/\0<=v/\v<=255
 case neg=>
  rw [Og hc];by_cases b:yV W H=true
  . go_in
    go_wp2_with (go_at_call 111;refine (qN _ _ _).mono ?_;rintro e w' ⟨rfl,rfl⟩)
    all_goals first | (exfalso;exact hc ⟨b,om,om⟩) | skip
    all_goals (
     skip
     exact bodyPost_ret (v:= .tuple #[.agg ↑Zp, .bool false]) (Jr results82) rfl ⟨none,0,0,rfl,oN,om,nJ⟩
     )
  have C:yV W H=false:=by simpa using b
  clear b hc;go_in;go_wp2_with (go_at_call 111;refine (qN _ _ _).mono ?_;rintro e w' ⟨rfl,rfl⟩);exact bodyPost_ret (v:= .tuple #[.agg ↑Zp, .bool false]) (Jr results82) rfl ⟨none,0,0,rfl,oN,om,nJ⟩
 obtain ⟨b,G,v2⟩:=hc;obtain ⟨n,t⟩: ∃n:Nat,(n:Int)=W*H:=⟨_,(ZF b).1⟩
 obtain ⟨b1,b2,b3,I,J,L⟩:=yP b;have A:1<=n:=om;have B:n<=1024:=om;rw [MF b G v2 t];have y:=Jh t;clear t;go_in;go_wp2_with (go_at_call 111;refine (qN _ _ _).mono ?_;rintro e w' ⟨rfl,rfl⟩);refine (qF W H n _ b y.Z).mono ?_;rintro e w2 ⟨g,rfl,hg,c,hb⟩;obtain ⟨f,l,u⟩:=JF (nJ.trans (hb.mono sI)) ((Blk.new w 31 ↑Zp).zA hb) c;have j:Hd (w.heap.size+1<=g):=Jh (by simpa using hg);clear hb c hg
 go_wp2
 go_loopw [29] (fun i wr=> ∃k:Nat,k<=n/\i=↑k/\Own wr g n n (zy (List.replicate n v) (List.replicate n 0) k)/\(w2.alloc (.cells #[W,H, .slice ↑g n n] 31)).grownBy wr (some g)) (fun i _=>n - (intOf i).toNat)
 exact ⟨0,nZ,rfl,by rw [xB];exact u.Z.alloc _,yU _ _⟩;obtain ⟨k,hk,rfl,c,hg⟩:=hrel;have o:=Jh ((f.Z.alloc f.Z.size _).grown hg (oS f.Z.size) (by intro k hk;cases hk;have:=j.Z;omega));have z:=Jh ((Blk.new w2 31 #[W,H, .slice ↑g n n]).grown hg (oS u.Z.lt));obtain ⟨M,N,O,P⟩:=z.Z.c3;by_cases m:k<n
 . have g2:wr.cell? (g,k)=some ↑((zy (List.replicate n v) (List.replicate n 0) k).getD k 0):=c.cell m
   have g3:wr.frozen? (g,k)=false:=c.frozen k;have b:=c.set k (v);rw [yx (List.replicate n v) _ k _ sO sO (by simp [List.getD,m])] at b;have s:=Jh b;clear b c
   go_wp2
   go_roundw
   . exact ⟨k+1,om,by go_num,by simpa using s.Z,yX hg _⟩
   exact Jm
 obtain rfl:n=k:=om;have x:=Jh ((l.Z.alloc _).grown hg (oT j.Z l.Z.lt));obtain ⟨U,D,E,F⟩:=x.Z.c3;obtain ⟨Q,R,T⟩:=x.Z.f3;rw [jC (List.replicate n v) _ n sI sI] at c;have q:=Jh c;clear c
 go_wp2
 exact bodyPost_ret (v:= .tuple #[.agg #[W,H, .slice ↑g n n], .bool true]) (by simp [results,results82,go_sem,D,E,F]) rfl
  ⟨_,_,_,rfl,OwnA.mk (((q.Z.other (oS j.Z) _).other (oS j.Z) _).other (oS j.Z) _) (oh j),om,
   ((o.Z.setCell sD _).setCell sD _).setCell sD _⟩
theorem yJ (x a b:Int) (w:World) (h1:a<=x) (h2:x<=b):
 Calls prog 57 #[x,a,b] w fun e w'=>e= .returned (.bool true)/\w=w':=
 (YF x a b w).mono fun e w' ⟨he,hw⟩=>⟨by rw [he];exact zV (by simp [h1,h2]),hw⟩
theorem kD (x a b:Int) (w:World) (h: ¬(a<=x/\x<=b)):
 Calls prog 57 #[x,a,b] w fun e w'=>e= .returned (.bool false)/\w=w':=
 (YF x a b w).mono fun e w' ⟨he,hw⟩=>⟨by rw [he];exact zV (by simpa using h),hw⟩
theorem vw (W H:Int) (w:World) (h:yV W H=true):
 Calls prog 101 #[W,H] w fun e w'=>e= .returned (.bool true)/\w=w':=
 (XB W H w).mono fun e w' ⟨he,hw⟩=>⟨by rw [he,h],hw⟩
theorem Ke (W H:Int) (w:World) (h: ¬yV W H=true):
 Calls prog 101 #[W,H] w fun e w'=>e= .returned (.bool false)/\w=w':=
 (XB W H w).mono fun e w' ⟨he,hw⟩=>⟨by rw [he];exact zV (by simpa using h),hw⟩
theorem uY (W H:Int) (w:World) (h:yV W H=true):
 Calls prog 111 #[W,H] w fun e w'=>e= .returned (.bool true)/\w=w':=
 (qN W H w).mono fun e w' ⟨he,hw⟩=>⟨by rw [he,h],hw⟩
theorem Un (W H:Int) (w:World) (h: ¬yV W H=true):
 Calls prog 111 #[W,H] w fun e w'=>e= .returned (.bool false)/\w=w':=
 (qN W H w).mono fun e w' ⟨he,hw⟩=>⟨by rw [he];exact zV (by simpa using h),hw⟩
theorem Vb (W H v:Int) (w:World):Calls prog 58 #[W,H,v] w (KE w (kS W H v)):=by
 by_cases hc:yV W H=true/\0<=v/\v<=255
 case neg=>
  rw [Og hc];by_cases b:yV W H=true
  . have t: ¬(0<=v/\v<=255):=fun h=>hc ⟨b,h⟩
    clear hc;go_in;go_wp2_with (go_at_call 101;refine (vw _ _ _ b).mono ?_;rintro e w' ⟨rfl,rfl⟩);refine (kD _ _ _ _ t).mono ?_;rintro e w' ⟨rfl,rfl⟩
    go_wp2
    exact bodyPost_ret (v:= .tuple #[.agg ↑Zp, .bool false]) (Jr results58) rfl ⟨none,0,0,rfl,oN,om,nJ⟩
  clear hc;go_in;go_wp2_with (go_at_call 101;refine (Ke _ _ _ b).mono ?_;rintro e w' ⟨rfl,rfl⟩);exact bodyPost_ret (v:= .tuple #[.agg ↑Zp, .bool false]) (Jr results58) rfl ⟨none,0,0,rfl,oN,om,nJ⟩
 obtain ⟨b,z,v2⟩:=hc;obtain ⟨n,u⟩: ∃n:Nat,(n:Int)=W*H:=⟨_,(ZF b).1⟩
 obtain ⟨b1,b2,b3,I,J,L⟩:=yP b;have C:1<=n:=om;have D:n<=1024:=om;rw [MF b z v2 u];have A:=Jh u;clear u;go_in;go_wp2_with (go_at_call 101;refine (vw _ _ _ b).mono ?_;rintro e w' ⟨rfl,rfl⟩);refine (yJ _ _ _ _ z v2).mono ?_;rintro e w' ⟨rfl,rfl⟩;go_wp2_with fail;refine (qY W H n _ b A.Z).mono ?_;rintro e w2 ⟨g,rfl,hg,c,hb⟩;obtain ⟨f,l,x⟩:=JF (nJ.trans (hb.mono sI)) ((Blk.new w 31 ↑Zp).zA hb) c;have j:Hd (w.heap.size+1<=g):=Jh (by simpa using hg);clear hb c hg
 go_wp2
 go_loopw [26] (fun i wr=> ∃k:Nat,k<=n/\i=↑k/\Own wr g n n (zy (List.replicate n v) (List.replicate n 0) k)/\(w2.alloc (.cells #[W,H, .slice ↑g n n] 31)).grownBy wr (some g)) (fun i _=>n - (intOf i).toNat)
 exact ⟨0,nZ,rfl,by rw [xB];exact x.Z.alloc _,yU _ _⟩;obtain ⟨k,hk,rfl,c,hg⟩:=hrel;have o:=Jh ((f.Z.alloc f.Z.size _).grown hg (oS f.Z.size) (by intro k hk;cases hk;have:=j.Z;omega));have B:=Jh ((Blk.new w2 31 #[W,H, .slice ↑g n n]).grown hg (oS x.Z.lt));obtain ⟨M,N,O,P⟩:=B.Z.c3;by_cases m:k<n
 . have g2:wr.cell? (g,k)=some ↑((zy (List.replicate n v) (List.replicate n 0) k).getD k 0):=c.cell m
   have g3:wr.frozen? (g,k)=false:=c.frozen k;have b:=c.set k (v);rw [yx (List.replicate n v) _ k _ sO sO (by simp [List.getD,m])] at b;have s:=Jh b;clear b c
   go_wp2
   go_roundw
   . exact ⟨k+1,om,by go_num,by simpa using s.Z,yX hg _⟩
   exact Jm
 obtain rfl:n=k:=om;have y:=Jh ((l.Z.alloc _).grown hg (oT j.Z l.Z.lt));obtain ⟨U,E,F,G⟩:=y.Z.c3;obtain ⟨Q,R,T⟩:=y.Z.f3;rw [jC (List.replicate n v) _ n sI sI] at c;have q:=Jh c;clear c
 go_wp2
 exact bodyPost_ret (v:= .tuple #[.agg #[W,H, .slice ↑g n n], .bool true]) (by simp [results,results58,go_sem,E,F,G]) rfl
  ⟨_,_,_,rfl,OwnA.mk (((q.Z.other (oS j.Z) _).other (oS j.Z) _).other (oS j.Z) _) (oh j),om,
   ((o.Z.setCell sD _).setCell sD _).setCell sD _⟩
theorem FE (h: ¬yV W H=true):kX W H=(xF,false):=by unfold kX;rw [if_neg h]
theorem sK (n:Nat) (f:Nat->Int) (h: ∀k,f k=0):gen n f=List.replicate n 0:=by
 symm;exact jP n f _ sI (fun k hk=>by rw [h k];simp [List.getD,hk])
def qI (W:Int) (i:Nat):Int:=if 1<W then (i:Int) % W*255/(W - 1) else 0
theorem Bf (h:yV W H=true) (hn:(n:Int)=W*H):kX W H=(⟨W,H,gen n (qI W)⟩,true):=by
 unfold kX;rw [if_pos h,<-hn];simp;rfl
theorem zBc (h:1<W):(k:Int) % W*255/(W - 1)=qI W k:=by unfold qI;rw [if_pos h]
theorem zBb (h: ¬1<W):qI W k=0:=by unfold qI;rw [if_neg h]
theorem VQ (W H:Int) (w:World):Calls prog 134 #[W,H] w (KE w (kX W H)):=by
 by_cases c:yV W H=true
 case neg=>
  rw [FE c];go_in;go_wp2_with (go_at_call 111;refine (Un _ _ _ c).mono ?_;rintro e w' ⟨rfl,rfl⟩);exact bodyPost_ret (v:= .tuple #[.agg ↑Zp, .bool false]) (Jr results134) rfl ⟨none,0,0,rfl,oN,om,nJ⟩
 obtain ⟨n,y⟩: ∃n:Nat,(n:Int)=W*H:=⟨_,(ZF c).1⟩
 obtain ⟨b1,b2,b3,T,U,V⟩:=yP c;have G:1<=n:=om;have I:n<=1024:=om;rw [Bf c y];have C:=Jh y;clear y;by_cases F:1<W
 . go_in
   go_wp2_with (go_at_call 111;refine (uY _ _ _ c).mono ?_;rintro e w' ⟨rfl,rfl⟩);refine (qF W H n _ c C.Z).mono ?_;rintro e w2 ⟨g,rfl,hg,b,hb⟩;obtain ⟨f,o,t⟩:=JF (nJ.trans (hb.mono sI)) ((Blk.new w 31 ↑Zp).zA hb) b;have m:Hd (w.heap.size+1<=g):=Jh (by simpa using hg);clear hb b hg
   go_wp2
   go_loopw [23] (fun i wr=> ∃k:Nat,k<=n/\i=↑k/\Own wr g n n (zy (gen n (qI W)) (List.replicate n 0) k)/\(w2.alloc (.cells #[W,H, .slice ↑g n n] 31)).grownBy wr (some g)) (fun i _=>n - (intOf i).toNat)
   exact ⟨0,nZ,rfl,by rw [xB];exact t.Z.alloc _,yU _ _⟩;obtain ⟨k,hk,rfl,b,hg⟩:=hrel;have q:=Jh ((f.Z.alloc f.Z.size _).grown hg (oS f.Z.size) (by intro k hk;cases hk;have:=m.Z;omega));have x:=Jh ((Blk.new w2 31 #[W,H, .slice ↑g n n]).grown hg (oS t.Z.lt));obtain ⟨J,L,M,N⟩:=x.Z.c3;by_cases l:k<n
   . have D:0<=(k:Int) % W:=Yg _ om
     have E:(k:Int) % W<W:=Ye _ om;have g2:wr.cell? (g,k)=some ↑((zy (gen n (qI W)) (List.replicate n 0) k).getD k 0):=b.cell l;have g3:wr.frozen? (g,k)=false:=b.frozen k;have c:=b.set k ((k:Int) % W*255/(W - 1));rw [yx (gen n (qI W)) _ k _ (by rw [zk];exact l) sO (by rw [yY _ _ _ l,zBc F])] at c;have j:=Jh c;clear c b
     go_wp2
     go_region
     go_wp2
     go_roundw
     . exact ⟨k+1,om,by go_num,(by first | exact j.Z.drewN 1 | exact j.Z.drewN _ | (have h:=j.Z;simp at h;exact h.drewN 1)),(by first | exact jH (yX hg _) 1 | exact jH (yX hg _) _)⟩
     exact Jm
   obtain rfl:n=k:=om;have u:=Jh ((o.Z.alloc _).grown hg (oT m.Z o.Z.lt));obtain ⟨R,z,A,B⟩:=u.Z.c3;obtain ⟨O,P,Q⟩:=u.Z.f3;rw [jC (gen n (qI W)) _ n (by rw [zk]) sI] at b;have s:=Jh b;clear b
   go_wp2
   exact bodyPost_ret (v:= .tuple #[.agg #[W,H, .slice ↑g n n], .bool true]) (by simp [results,results134,go_sem,z,A,B]) rfl
    ⟨_,_,_,rfl,OwnA.mk (((s.Z.other (oS m.Z) _).other (oS m.Z) _).other (oS m.Z) _) (oh m),om,
     ((q.Z.setCell sD _).setCell sD _).setCell sD _⟩
 obtain rfl:W=1:=om;go_in;go_wp2_with (go_at_call 111;refine (uY _ _ _ c).mono ?_;rintro e w' ⟨rfl,rfl⟩);refine (qF 1 H n _ c C.Z).mono ?_;rintro e w2 ⟨g,rfl,hg,b,hb⟩;obtain ⟨f,o,t⟩:=JF (nJ.trans (hb.mono sI)) ((Blk.new w 31 ↑Zp).zA hb) b;have m:Hd (w.heap.size+1<=g):=Jh (by simpa using hg);clear hb b hg
 go_wp2
 go_loopw [23] (fun i wr=> ∃k:Nat,k<=n/\i=↑k/\Own wr g n n (zy (gen n (qI 1)) (List.replicate n 0) k)/\(w2.alloc (.cells #[Z1,H, .slice ↑g n n] 31)).grownBy wr (some g)) (fun i _=>n - (intOf i).toNat)
 exact ⟨0,nZ,rfl,by rw [xB];exact t.Z.alloc _,yU _ _⟩;obtain ⟨k,hk,rfl,b,hg⟩:=hrel;have q:=Jh ((f.Z.alloc f.Z.size _).grown hg (oS f.Z.size) (by intro k hk;cases hk;have:=m.Z;omega));have x:=Jh ((Blk.new w2 31 #[Z1,H, .slice ↑g n n]).grown hg (oS t.Z.lt));obtain ⟨J,L,M,N⟩:=x.Z.c3;by_cases l:k<n
 . have D:0<=(k:Int) % 1:=Yg _ om
   have E:(k:Int) % 1<1:=Ye _ om;have g2:wr.cell? (g,k)=some ↑((zy (gen n (qI 1)) (List.replicate n 0) k).getD k 0):=b.cell l;have g3:wr.frozen? (g,k)=false:=b.frozen k;have c:=b.set k (0);rw [yx (gen n (qI 1)) _ k _ (by rw [zk];exact l) sO (by rw [yY _ _ _ l,zBb om])] at c;have j:=Jh c;clear c b
   go_wp2
   go_region
   go_wp2
   go_roundw
   . exact ⟨k+1,om,by go_num,(by first | exact j.Z.drewN 1 | exact j.Z.drewN _ | (have h:=j.Z;simp at h;exact h.drewN 1)),(by first | exact jH (yX hg _) 1 | exact jH (yX hg _) _)⟩
   exact Jm
 obtain rfl:n=k:=om;have u:=Jh ((o.Z.alloc _).grown hg (oT m.Z o.Z.lt));obtain ⟨R,z,A,B⟩:=u.Z.c3;obtain ⟨O,P,Q⟩:=u.Z.f3;rw [jC (gen n (qI 1)) _ n (by rw [zk]) sI] at b;have s:=Jh b;clear b
 go_wp2
 exact bodyPost_ret (v:= .tuple #[.agg #[Z1,H, .slice ↑g n n], .bool true]) (by simp [results,results134,go_sem,z,A,B]) rfl
  ⟨_,_,_,rfl,OwnA.mk (((s.Z.other (oS m.Z) _).other (oS m.Z) _).other (oS m.Z) _) (oh m),om,
   ((q.Z.setCell sD _).setCell sD _).setCell sD _⟩
theorem Ve (W H:Int) (w:World):Calls prog 60 #[W,H] w (KE w (kX W H)):=by
 by_cases j:yV W H=true
 case neg=>
  rw [FE j];go_in;go_wp2_with (go_at_call 101;refine (Ke _ _ _ j).mono ?_;rintro e w' ⟨rfl,rfl⟩);exact bodyPost_ret (v:= .tuple #[.agg ↑Zp, .bool false]) (Jr results60) rfl ⟨none,0,0,rfl,oN,om,nJ⟩
 obtain ⟨n,z⟩: ∃n:Nat,(n:Int)=W*H:=⟨_,(ZF j).1⟩
 obtain ⟨b1,b2,b3,R,T,U⟩:=yP j;have F:1<=n:=om;have G:n<=1024:=om;rw [Bf j z];have D:=Jh z;clear z;by_cases E:1<W
 . go_in
   go_wp2_with (go_at_call 101;refine (vw _ _ _ j).mono ?_;rintro e w' ⟨rfl,rfl⟩);refine (qY W H n _ j D.Z).mono ?_;rintro e w2 ⟨g,rfl,hg,b,hb⟩;obtain ⟨c,l,t⟩:=JF (nJ.trans (hb.mono sI)) ((Blk.new w 31 ↑Zp).zA hb) b;have f:Hd (w.heap.size+1<=g):=Jh (by simpa using hg);clear hb b hg
   go_wp2
   go_loopw [19] (fun i wr=> ∃k:Nat,k<=n/\i=↑k/\Own wr g n n (zy (gen n (qI W)) (List.replicate n 0) k)/\(w2.alloc (.cells #[W,H, .slice ↑g n n] 31)).grownBy wr (some g)) (fun i _=>n - (intOf i).toNat)
   exact ⟨0,nZ,rfl,by rw [xB];exact t.Z.alloc _,yU _ _⟩;obtain ⟨k,hk,rfl,b,hg⟩:=hrel;have o:=Jh ((c.Z.alloc c.Z.size _).grown hg (oS c.Z.size) (by intro k hk;cases hk;have:=f.Z;omega));have y:=Jh ((Blk.new w2 31 #[W,H, .slice ↑g n n]).grown hg (oS t.Z.lt));obtain ⟨I,J,L,M⟩:=y.Z.c3;by_cases m:k<n
   . have V:0<=(k:Int) % W:=Yg _ om
     have X:(k:Int) % W<W:=Ye _ om;have g2:wr.cell? (g,k)=some ↑((zy (gen n (qI W)) (List.replicate n 0) k).getD k 0):=b.cell m;have g3:wr.frozen? (g,k)=false:=b.frozen k;have j:=b.set k ((k:Int) % W*255/(W - 1));rw [yx (gen n (qI W)) _ k _ (by rw [zk];exact m) sO (by rw [yY _ _ _ m,zBc E])] at j;have s:=Jh j;clear j b
     go_wp2
     go_region
     go_wp2
     go_roundw
     . exact ⟨k+1,om,by go_num,(by first | exact s.Z.drewN 1 | exact s.Z.drewN _ | (have h:=s.Z;simp at h;exact h.drewN 1)),(by first | exact jH (yX hg _) 1 | exact jH (yX hg _) _)⟩
     exact Jm
   obtain rfl:n=k:=om;have u:=Jh ((l.Z.alloc _).grown hg (oT f.Z l.Z.lt));obtain ⟨Q,A,B,C⟩:=u.Z.c3;obtain ⟨N,O,P⟩:=u.Z.f3;rw [jC (gen n (qI W)) _ n (by rw [zk]) sI] at b;have q:=Jh b;clear b
   go_wp2
   exact bodyPost_ret (v:= .tuple #[.agg #[W,H, .slice ↑g n n], .bool true]) (by simp [results,results60,go_sem,A,B,C]) rfl
    ⟨_,_,_,rfl,OwnA.mk (((q.Z.other (oS f.Z) _).other (oS f.Z) _).other (oS f.Z) _) (oh f),om,
     ((o.Z.setCell sD _).setCell sD _).setCell sD _⟩
 obtain rfl:W=1:=om;rw [sK n (qI 1) (fun k=>zBb om)];go_in;go_wp2_with (go_at_call 101;refine (vw _ _ _ j).mono ?_;rintro e w' ⟨rfl,rfl⟩);refine (qY 1 H n _ j D.Z).mono ?_;rintro e w2 ⟨g,rfl,hg,b,hb⟩;obtain ⟨c,l,t⟩:=JF (nJ.trans (hb.mono sI)) ((Blk.new w 31 ↑Zp).zA hb) b;have f:Hd (w.heap.size+1<=g):=Jh (by simpa using hg);clear hb b hg
 go_wp2
 go_loopw [19] (fun i wr=> ∃k:Nat,k<=n/\i=↑k/\Own wr g n n (zy (List.replicate n 0) (List.replicate n 0) k)/\(w2.alloc (.cells #[Z1,H, .slice ↑g n n] 31)).grownBy wr (some g)) (fun i _=>n - (intOf i).toNat)
 exact ⟨0,nZ,rfl,by rw [xB];exact t.Z.alloc _,yU _ _⟩;obtain ⟨k,hk,rfl,b,hg⟩:=hrel;have o:=Jh ((c.Z.alloc c.Z.size _).grown hg (oS c.Z.size) (by intro k hk;cases hk;have:=f.Z;omega));have y:=Jh ((Blk.new w2 31 #[Z1,H, .slice ↑g n n]).grown hg (oS t.Z.lt));obtain ⟨I,J,L,M⟩:=y.Z.c3;by_cases m:k<n
 . have x:Hd (Own wr g n n (zy (List.replicate n 0) (List.replicate n 0) (k+1))):=Jh (by rw [SN] at b⊢;exact b)
   clear b
   go_wp2
   go_roundw
   . exact ⟨k+1,om,by go_num,x.Z,hg⟩
   exact Jm
 obtain rfl:n=k:=om;have u:=Jh ((l.Z.alloc _).grown hg (oT f.Z l.Z.lt));obtain ⟨Q,A,B,C⟩:=u.Z.c3;obtain ⟨N,O,P⟩:=u.Z.f3;rw [jC (List.replicate n 0) _ n sI sI] at b;have q:=Jh b;clear b
 go_wp2
 exact bodyPost_ret (v:= .tuple #[.agg #[Z1,H, .slice ↑g n n], .bool true]) (by simp [results,results60,go_sem,A,B,C]) rfl
  ⟨_,_,_,rfl,OwnA.mk (((q.Z.other (oS f.Z) _).other (oS f.Z) _).other (oS f.Z) _) (oh f),om,
   ((o.Z.setCell sD _).setCell sD _).setCell sD _⟩
theorem uy (W H:Int) (w:World):
 Calls prog 113 #[W,H] w fun e w'=>e= .returned (.bool (xO W H))/\w=w':=by
 by_cases c:1<=W/\W<=256/\1<=H/\H<=256
 . obtain ⟨h1,h2,h3,h4⟩:=c
   rw [Gl h1 h2 h3 h4];obtain ⟨b,f⟩:=LG W H h1 h2 h3 h4;go_in
   go_wp2
   all_goals (go_ret;exact ⟨rfl,rfl⟩)
 rw [Dp c];go_in
 go_wp2
 all_goals (go_ret;first | exact ⟨rfl,rfl⟩ | (exfalso;exact c ⟨om,om,om,om⟩))
theorem Bz (W H:Int) (w:World):
 Calls prog 85 #[W,H] w fun e w'=>e= .returned (.bool (xO W H))/\w=w':=by
 by_cases c:1<=W/\W<=256/\1<=H/\H<=256
 . obtain ⟨h1,h2,h3,h4⟩:=c
   rw [Gl h1 h2 h3 h4];obtain ⟨b,f⟩:=LG W H h1 h2 h3 h4;go_in
   go_wp2
   all_goals (go_ret;exact ⟨rfl,rfl⟩)
 rw [Dp c];go_in
 go_wp2
 all_goals (go_ret;first | exact ⟨rfl,rfl⟩ | (exfalso;exact c ⟨om,om,om,om⟩))
theorem Um (W H:Int) (w:World) (h:xO W H=true):
 Calls prog 113 #[W,H] w fun e w'=>e= .returned (.bool true)/\w=w':=
 (uy W H w).mono fun e w' ⟨he,hw⟩=>⟨by rw [he,h],hw⟩
theorem QT (W H:Int) (w:World) (h: ¬xO W H=true):
 Calls prog 113 #[W,H] w fun e w'=>e= .returned (.bool false)/\w=w':=
 (uy W H w).mono fun e w' ⟨he,hw⟩=>⟨by rw [he];exact zV (by simpa using h),hw⟩
theorem XU (W H:Int) (w:World) (h:xO W H=true):
 Calls prog 85 #[W,H] w fun e w'=>e= .returned (.bool true)/\w=w':=
 (Bz W H w).mono fun e w' ⟨he,hw⟩=>⟨by rw [he,h],hw⟩
theorem Vy (W H:Int) (w:World) (h: ¬xO W H=true):
 Calls prog 85 #[W,H] w fun e w'=>e= .returned (.bool false)/\w=w':=
 (Bz W H w).mono fun e w' ⟨he,hw⟩=>⟨by rw [he];exact zV (by simpa using h),hw⟩
theorem Rn {n:Int} (h:a<0) (hn:1<=n):-n<a.tmod n/\a.tmod n<=0/\(a.tmod n<0->a.tmod n+n=a % n)/\(¬a.tmod n<0->a.tmod n=a % n):=by
 obtain ⟨b,rfl⟩: ∃b:Int,a=-b:=⟨-a,om⟩
 have c:(-b).tmod n=-(b % n):=by rw [Int.neg_tmod,Yl om]
 have i:0<=b % n:=Yg _ om;have j:b % n<n:=Ye _ om;rw [c];refine ⟨om,om,fun h1=>?_,fun h1=>?_⟩
 have e:-b=(n - b % n)+n*(-(b/n) - 1):=by
  have:=Int.mul_ediv_add_emod b n;rw [Int.mul_sub,Int.mul_neg];omega
 have f:(-b) % n=n - b % n:=by
  rw [e,Int.add_mul_emod_self_left,Int.emod_eq_of_lt om om]
 rw [f];omega;have g:b % n=0:=om;have l:(-b) % n=0:=Int.emod_eq_zero_of_dvd (Int.dvd_neg.2 (Int.dvd_of_emod_eq_zero g));omega
theorem YM (a n:Int) (w:World) (h:1<=n) (h2:n<=9223372036854775807):
 Calls prog 235 #[a,n] w fun e w'=>e= .returned (.int .i64 (a % n))/\w=w':=by
 by_cases ha:0<=a
 . have f:0<=a % n:=Yg _ om
   have g:a % n<n:=Ye _ om;go_in
   go_wp2
   go_ret;exact ⟨rfl,rfl⟩
 obtain ⟨i,t2,t3,t4⟩:=Rn (a:=a) (n:=n) om h;have b:=Jh t3;have c:=Jh t4;clear t3 t4;by_cases hr:a.tmod n<0
 . go_in
   go_wp2
   go_ret;exact ⟨yh (b.Z hr),rfl⟩
 go_in
 go_wp2
 go_ret;exact ⟨yh (c.Z hr),rfl⟩
theorem Xr (a n:Int) (w:World) (h:1<=n) (h2:n<=9223372036854775807):
 Calls prog 144 #[a,n] w fun e w'=>e= .returned (.int .i64 (a % n))/\w=w':=by
 by_cases ha:0<=a
 . have f:0<=a % n:=Yg _ om
   have g:a % n<n:=Ye _ om;go_in
   go_wp2
   go_ret;exact ⟨rfl,rfl⟩
 obtain ⟨i,t2,t3,t4⟩:=Rn (a:=a) (n:=n) om h;have b:=Jh t3;have c:=Jh t4;clear t3 t4;by_cases hr:a.tmod n<0
 . go_in
   go_wp2
   go_ret;exact ⟨yh (b.Z hr),rfl⟩
 go_in
 go_wp2
 go_ret;exact ⟨yh (c.Z hr),rfl⟩
end Go.Proofs.YtlenfgdjdianiaaGreatDoor
