/- Facts on which this claim rests, 10. -/
import Derived.Test.YtlenfgdjdianiaaGreatDoorF9
set_option linter.all false
set_option maxHeartbeats 6400000
namespace Go.Proofs.YtlenfgdjdianiaaGreatDoor
open Go.RowKit Tq Go.Proofs.Tryz
variable {B g n n' : Nat} {H H' W W' : Int} {s : ByteArray} {w w' : World} {xs ys : List Int}
theorem zBI (h: ¬zP W H xs 255=true):kC W H xs W' H' ys=false:=by unfold kC;simp [h]
theorem zBJ (h: ¬zP W' H' ys 255=true):kC W H xs W' H' ys=false:=by unfold kC;simp [h]
theorem zIt (h: ¬(W=W'/\H=H')):kC W H xs W' H' ys=false:=by unfold kC;rw [decide_eq_false h];simp
theorem zIu (h:zP W H xs 255=true) (h2:zP W' H' ys 255=true) (h3:W=W'/\H=H'):kC W H xs W' H' ys=true:=by unfold kC;rw [h,h2,decide_eq_true h3];rfl
theorem km (W H:Int) (b:Option Addr) (n a:Nat) (w:World):
 Calls prog 73 #[.agg #[W,H, .slice b n a]] w (zR (.agg #[W,H]) w):=by
 go_in;go_wp2_with fail;exact bodyPost_ret (v:= .agg #[W,H]) (Jr results73) rfl ⟨rfl,nV⟩
theorem Xq (W H:Int) (y:Option Addr) (n o:Nat) (xs:List Int) (W' H':Int) (i:Option Addr) (n' a:Nat) (ys:List Int) (w:World)
 (hn:xs.length=n) (ha:Rd w y xs) (hl:n<=9223372036854775807) (C:ys.length=n') (D:Rd w i ys) (v:n'<=9223372036854775807):
 Calls prog 149 #[.agg #[W,H, .slice y n o], .agg #[W',H', .slice i n' a]] w (zR (.bool (kC W H xs W' H' ys)) w):=by
 have A:=Jh hn;have E:=Jh ha;have t:=Jh C;have u:=Jh D;clear hn ha C D;by_cases hp:zP W H xs 255=true
 case neg=>
  have z:zP W H xs 255=false:=by simpa using hp
  rw [zBI hp];clear hp;go_in;go_wp2_with fail;refine (yT _ _ _ _ _ xs _ A.Z (by exact (E.Z.alloc _).alloc _) hl).mono ?_;rintro e w1 ⟨rfl,hb⟩;have c:=Jh (zI (zJ (zJ bR _) _) hb);have f:=Jh (((Blk.zD (g:=w.heap.size) 31 #[W,H, .slice y n o] (by first | rfl | simp)).alloc _).zA hb);have b:Hd (Blk w1 (w.heap.size+1) 31 #[W',H', .slice i n' a]):=Jh ((Blk.zD (g:=w.heap.size+1) 31 #[W',H', .slice i n' a] sI).zA hb);obtain ⟨F,c0,c1,c2⟩:=f.Z.c3;obtain ⟨G,q,d1,d2⟩:=b.Z.c3;clear hb;rw [z];go_wp2_with fail;go_ret;exact ⟨rfl,c.Z⟩
 by_cases k:zP W' H' ys 255=true
 case neg=>
  have z:zP W' H' ys 255=false:=by simpa using k
  rw [zBJ k];clear k;go_in;go_wp2_with fail;refine (yT _ _ _ _ _ xs _ A.Z (by exact (E.Z.alloc _).alloc _) hl).mono ?_;rintro e w1 ⟨rfl,hb⟩;have c:=Jh (zI (zJ (zJ bR _) _) hb);have f:=Jh (((Blk.zD (g:=w.heap.size) 31 #[W,H, .slice y n o] (by first | rfl | simp)).alloc _).zA hb);have b:Hd (Blk w1 (w.heap.size+1) 31 #[W',H', .slice i n' a]):=Jh ((Blk.zD (g:=w.heap.size+1) 31 #[W',H', .slice i n' a] sI).zA hb);obtain ⟨F,c0,c1,c2⟩:=f.Z.c3;obtain ⟨G,q,d1,d2⟩:=b.Z.c3;clear hb;rw [hp];go_wp2_with fail;refine (yT _ _ _ _ _ ys _ t.Z (by exact u.Z.below c.Z) v).mono ?_;rintro e w2 ⟨rfl,hb⟩;have m:=Jh (zI c.Z hb);have j:=Jh (f.Z.zA hb);have l:=Jh (b.Z.zA hb);clear c0 c1 c2 q d1 d2 hb;obtain ⟨I,c0,c1,c2⟩:=j.Z.c3;obtain ⟨J,q,d1,d2⟩:=l.Z.c3;rw [z];go_wp2_with fail;go_ret;exact ⟨rfl,m.Z⟩
 by_cases x:W=W'/\H=H'
 case pos=>
  rw [zIu hp k x];have L:(W==W')=true:=by simpa using x.1
  have M:(H==H')=true:=by simpa using x.2
  have N:=Jh x;clear x;go_in;go_wp2_with fail;refine (yT _ _ _ _ _ xs _ A.Z (by exact (E.Z.alloc _).alloc _) hl).mono ?_;rintro e w1 ⟨rfl,hb⟩;have c:=Jh (zI (zJ (zJ bR _) _) hb);have f:=Jh (((Blk.zD (g:=w.heap.size) 31 #[W,H, .slice y n o] (by first | rfl | simp)).alloc _).zA hb);have b:Hd (Blk w1 (w.heap.size+1) 31 #[W',H', .slice i n' a]):=Jh ((Blk.zD (g:=w.heap.size+1) 31 #[W',H', .slice i n' a] sI).zA hb);obtain ⟨F,c0,c1,c2⟩:=f.Z.c3;obtain ⟨G,q,d1,d2⟩:=b.Z.c3;clear hb;rw [hp];go_wp2_with fail;refine (yT _ _ _ _ _ ys _ t.Z (by exact u.Z.below c.Z) v).mono ?_;rintro e w2 ⟨rfl,hb⟩;have m:=Jh (zI c.Z hb);have j:=Jh (f.Z.zA hb);have l:=Jh (b.Z.zA hb);clear c0 c1 c2 q d1 d2 hb;obtain ⟨I,c0,c1,c2⟩:=j.Z.c3;obtain ⟨J,q,d1,d2⟩:=l.Z.c3;rw [k];go_wp2_with fail;go_ret;exact ⟨rfl,m.Z⟩
 rw [zIt x];by_cases hw:W=W'
 . have L:(W==W')=true:=by simpa using hw
   have M:(H==H')=false:=by
    rw [beq_eq_false_iff_ne];exact fun h=>x ⟨hw,h⟩
   clear x hw;go_in;go_wp2_with fail;refine (yT _ _ _ _ _ xs _ A.Z (by exact (E.Z.alloc _).alloc _) hl).mono ?_;rintro e w1 ⟨rfl,hb⟩;have c:=Jh (zI (zJ (zJ bR _) _) hb);have f:=Jh (((Blk.zD (g:=w.heap.size) 31 #[W,H, .slice y n o] (by first | rfl | simp)).alloc _).zA hb);have b:Hd (Blk w1 (w.heap.size+1) 31 #[W',H', .slice i n' a]):=Jh ((Blk.zD (g:=w.heap.size+1) 31 #[W',H', .slice i n' a] sI).zA hb);obtain ⟨F,c0,c1,c2⟩:=f.Z.c3;obtain ⟨G,q,d1,d2⟩:=b.Z.c3;clear hb;rw [hp];go_wp2_with fail;refine (yT _ _ _ _ _ ys _ t.Z (by exact u.Z.below c.Z) v).mono ?_;rintro e w2 ⟨rfl,hb⟩;have m:=Jh (zI c.Z hb);have j:=Jh (f.Z.zA hb);have l:=Jh (b.Z.zA hb);clear c0 c1 c2 q d1 d2 hb;obtain ⟨I,c0,c1,c2⟩:=j.Z.c3;obtain ⟨J,q,d1,d2⟩:=l.Z.c3;rw [k];go_wp2_with fail;go_ret;exact ⟨rfl,m.Z⟩
 have L:(W==W')=false:=by simpa using hw
 clear x hw;go_in;go_wp2_with fail;refine (yT _ _ _ _ _ xs _ A.Z (by exact (E.Z.alloc _).alloc _) hl).mono ?_;rintro e w1 ⟨rfl,hb⟩;have c:=Jh (zI (zJ (zJ bR _) _) hb);have f:=Jh (((Blk.zD (g:=w.heap.size) 31 #[W,H, .slice y n o] (by first | rfl | simp)).alloc _).zA hb);have b:Hd (Blk w1 (w.heap.size+1) 31 #[W',H', .slice i n' a]):=Jh ((Blk.zD (g:=w.heap.size+1) 31 #[W',H', .slice i n' a] sI).zA hb);obtain ⟨F,c0,c1,c2⟩:=f.Z.c3;obtain ⟨G,q,d1,d2⟩:=b.Z.c3;clear hb;rw [hp];go_wp2_with fail;refine (yT _ _ _ _ _ ys _ t.Z (by exact u.Z.below c.Z) v).mono ?_;rintro e w2 ⟨rfl,hb⟩;have m:=Jh (zI c.Z hb);have j:=Jh (f.Z.zA hb);have l:=Jh (b.Z.zA hb);clear c0 c1 c2 q d1 d2 hb;obtain ⟨I,c0,c1,c2⟩:=j.Z.c3;obtain ⟨J,q,d1,d2⟩:=l.Z.c3;rw [k];go_wp2_with fail;go_ret;exact ⟨rfl,m.Z⟩
section
variable {P : Program} (w : World)
open Op in
theorem zAG (d:Nat) (t e:TypeId) (a b a' b':Int) (i:TypeInfo) (ht:P.underlying t=some (.array 2 e)) (he:P.underlying e=some (.int .i64)) (hi:P.info? e=some i) (hs:i.size=1):
 (Op.equalIn (d+2) t (.agg #[a,b]) (.agg #[a',b'])).run P w= .ok (a==a' && b==b') w:=by
 have hone: ∀(x y:Int) (w:World),(Op.equalIn (d+1) e ↑x ↑y).run P w= .ok (x==y) w:=by
  intro x y w;simp [Op.equalIn,run_underlying he]
 have hsz: ∀w:World,(sizeOf e).run P w= .ok 1 w:=by
  intro w;simp [sizeOf,typeInfo,hi,hs]
 have hag: ∀w:World,(isAgg e).run P w= .ok false w:=by
  intro w;simp [isAgg,run_underlying he]
 have hp: ∀(x y:Int) (j:Nat) (w:World),j<2->(part e #[x,y] (j*1)).run P w= .ok (if j=0 then ↑x else ↑y) w:=by
  intro x y j w hj
  match j,hj with
  | 0,_=>simp [part,hag]
  | 1,_=>simp [part,hag]
 rw [Op.equalIn];simp only [Sem.run_bind,run_underlying ht,Result.andThen_ok,hsz];have hr:List.range' (0:Nat) 2 1=[0,1]:=rfl;simp only [Std.Legacy.Range.forIn_eq_forIn_range',Std.Legacy.Range.size,Nat.sub_zero,Nat.add_sub_cancel,Nat.div_one,hr,List.forIn_cons,List.forIn_nil,Sem.run_bind,hp a b 0 _ om,hp a' b' 0 _ om,Result.andThen_ok,if_true,hone];cases h1:(a==a') with
 | false=>simp
 | true=>
  simp only [Bool.not_true,Bool.false_eq_true,if_false,Sem.run_pure,Result.andThen_ok,Sem.run_bind,hp a b 1 _ om,hp a' b' 1 _ om,hone,Nat.one_ne_zero];cases h2:(b==b') with
  | false=>simp
  | true=>simp
end
theorem uu (W H:Int) (b:Option Addr) (n a:Nat) (xs:List Int) (w:World) (hn:xs.length=n) (ha:Rd w b xs) (hl:n<=9223372036854775807) (h:zP W H xs 255=true):
 Calls prog 70 #[.agg #[W,H, .slice b n a]] w (zR (.bool true) w):=
 (ym W H b n a xs w hn ha hl).mono fun e w' ⟨he,hw⟩=>⟨by rw [he,h],hw⟩
theorem Zs (W H:Int) (b:Option Addr) (n a:Nat) (xs:List Int) (w:World) (hn:xs.length=n) (ha:Rd w b xs) (hl:n<=9223372036854775807) (h: ¬zP W H xs 255=true):
 Calls prog 70 #[.agg #[W,H, .slice b n a]] w (zR (.bool false) w):=
 (ym W H b n a xs w hn ha hl).mono fun e w' ⟨he,hw⟩=>⟨by rw [he];exact zX (by simpa using h),hw⟩
theorem zIe:(prog.info? 3).map (fun i=>(i.zero,i.size,i.bytes))=some (some ↑Z0,1,8):=zK
theorem ZZ (W H W' H':Int) (b:Bool) (hb:(W==W' && H==H')=b): ∀w,(Op.equalIn 10000 100 (.agg #[W,H]) (.agg #[W',H'])).run prog w= .ok b w:=by
 intro w;obtain ⟨i,hi,_,c,_⟩:=info_parts zIe;have a:prog.underlying 100=some (.array 2 3):=zK;rw [<-hb];exact zAG w 9998 100 3 W H W' H' i a underlying3 hi c
theorem qj (W H:Int) (o:Option Addr) (n k:Nat) (xs:List Int) (W' H':Int) (l:Option Addr) (n' f:Nat) (ys:List Int) (w:World)
 (hn:xs.length=n) (ha:Rd w o xs) (hl:n<=9223372036854775807) (E:ys.length=n') (G:Rd w l ys) (F:n'<=9223372036854775807):
 Calls prog 212 #[.agg #[W,H, .slice o n k], .agg #[W',H', .slice l n' f]] w (zR (.bool (kC W H xs W' H' ys)) w):=by
 have L:=Jh hn;have M:=Jh ha;have z:=Jh E;have D:=Jh G;clear hn ha E G;have J:((w.alloc (.cells #[W,H, .slice o n k] 31)).alloc (.cells #[W',H', .slice l n' f] 31)).cell? w=some ↑W:=by go_simp
 have C:((w.alloc (.cells #[W,H, .slice o n k] 31)).alloc (.cells #[W',H', .slice l n' f] 31)).cell? (w,1)=some ↑H:=by go_simp
 have A:((w.alloc (.cells #[W,H, .slice o n k] 31)).alloc (.cells #[W',H', .slice l n' f] 31)).cell? (w,2)=some (.slice o n k):=by go_simp
 have x:((w.alloc (.cells #[W,H, .slice o n k] 31)).alloc (.cells #[W',H', .slice l n' f] 31)).cell? ↑(w.heap.size+1)=some ↑W':=by go_simp
 have y:((w.alloc (.cells #[W,H, .slice o n k] 31)).alloc (.cells #[W',H', .slice l n' f] 31)).cell? (w.heap.size+1,1)=some ↑H':=by go_simp
 have u:((w.alloc (.cells #[W,H, .slice o n k] 31)).alloc (.cells #[W',H', .slice l n' f] 31)).cell? (w.heap.size+1,2)=some (.slice l n' f):=by go_simp
 have m:w.heap.size<((w.alloc (.cells #[W,H, .slice o n k] 31)).alloc (.cells #[W',H', .slice l n' f] 31)).heap.size:=sO;have j:w.heap.size+1<((w.alloc (.cells #[W,H, .slice o n k] 31)).alloc (.cells #[W',H', .slice l n' f] 31)).heap.size:=sI;by_cases hp:zP W H xs 255=true
 case neg=>
  rw [zBI hp];go_in;go_wp2_with fail
  go_region_with (first
   | (go_simp;go_at_call 70;(with_reducible refine (Zs W H o n k xs _ L.Z (by exact ((M.Z.alloc _).alloc _).of_heap rfl) hl hp).mono ?_);rintro e N ⟨rfl,a⟩))
  all_goals go_wp2_with fail
  all_goals go_ret
  all_goals exact ⟨rfl,(zI (zJ (zJ bR _) _).drew a)⟩
 by_cases t:zP W' H' ys 255=true
 case neg=>
  rw [zBJ t];go_in;go_wp2_with fail
  go_region_with (first
   | (go_simp;go_at_call 70;(with_reducible refine (uu W H o n k xs _ L.Z (by exact ((M.Z.alloc _).alloc _).of_heap rfl) hl hp).mono ?_);rintro e N ⟨rfl,a⟩;have R:=(a.cell j).trans x;have T:=(a.cell j).trans y;have Q:=(a.cell j).trans u)
   | (go_simp;go_at_call 70;(with_reducible refine (Zs W' H' l n' f ys _ z.Z (by exact (((D.Z.alloc _).alloc _).drew.below a)) F t).mono ?_);rintro e v2 ⟨rfl,c⟩))
  all_goals go_wp2_with fail
  all_goals go_ret
  all_goals exact ⟨rfl,(zI (zI (zJ (zJ bR _) _).drew a) c)⟩
 obtain ⟨b,hb⟩:=zN (W==W' && H==H')
 have I:kC W H xs W' H' ys=b:=by
  rw [hb];unfold kC;rw [hp,t];cases h1:(W==W') <;>cases h2:(H==H') <;>simp_all
 rw [I];have O:=ZZ W H W' H' b hb.symm;clear hb I;go_in;go_wp2_with fail
 go_region_held3 (fun v=>JB v w W H (.slice o n k) (Jc v ↑(w.heap.size+1) W'/\Jc v (w.heap.size+1,1) H'/\Jc v (w.heap.size+1,2) (.slice l n' f)))
  (first | exact ⟨J,C,A,x,y,u⟩ | exact ⟨(a.cell m).trans J,(a.cell m).trans C,(a.cell m).trans A,(a.cell j).trans x,(a.cell j).trans y,(a.cell j).trans u⟩ | exact ⟨(c.cell (Yb m a.size)).trans ((a.cell m).trans J),(c.cell (Yb m a.size)).trans ((a.cell m).trans C),(c.cell (Yb m a.size)).trans ((a.cell m).trans A),(c.cell (Yb j a.size)).trans ((a.cell j).trans x),(c.cell (Yb j a.size)).trans ((a.cell j).trans y),(c.cell (Yb j a.size)).trans ((a.cell j).trans u)⟩ | exact ⟨(i.cell (Yb (Yb m a.size) c.size)).trans ((c.cell (Yb m a.size)).trans ((a.cell m).trans J)),(i.cell (Yb (Yb m a.size) c.size)).trans ((c.cell (Yb m a.size)).trans ((a.cell m).trans C)),(i.cell (Yb (Yb m a.size) c.size)).trans ((c.cell (Yb m a.size)).trans ((a.cell m).trans A)),(i.cell (Yb (Yb j a.size) c.size)).trans ((c.cell (Yb j a.size)).trans ((a.cell j).trans x)),(i.cell (Yb (Yb j a.size) c.size)).trans ((c.cell (Yb j a.size)).trans ((a.cell j).trans y)),(i.cell (Yb (Yb j a.size) c.size)).trans ((c.cell (Yb j a.size)).trans ((a.cell j).trans u))⟩ | exact ⟨(q.cell (Yb (Yb (Yb m a.size) c.size) i.size)).trans ((i.cell (Yb (Yb m a.size) c.size)).trans ((c.cell (Yb m a.size)).trans ((a.cell m).trans J))),(q.cell (Yb (Yb (Yb m a.size) c.size) i.size)).trans ((i.cell (Yb (Yb m a.size) c.size)).trans ((c.cell (Yb m a.size)).trans ((a.cell m).trans C))),(q.cell (Yb (Yb (Yb m a.size) c.size) i.size)).trans ((i.cell (Yb (Yb m a.size) c.size)).trans ((c.cell (Yb m a.size)).trans ((a.cell m).trans A))),(q.cell (Yb (Yb (Yb j a.size) c.size) i.size)).trans ((i.cell (Yb (Yb j a.size) c.size)).trans ((c.cell (Yb j a.size)).trans ((a.cell j).trans x))),(q.cell (Yb (Yb (Yb j a.size) c.size) i.size)).trans ((i.cell (Yb (Yb j a.size) c.size)).trans ((c.cell (Yb j a.size)).trans ((a.cell j).trans y))),(q.cell (Yb (Yb (Yb j a.size) c.size) i.size)).trans ((i.cell (Yb (Yb j a.size) c.size)).trans ((c.cell (Yb j a.size)).trans ((a.cell j).trans u)))⟩)
  (first
   | (go_at_call 70;(with_reducible refine (uu W H o n k xs _ L.Z (by exact ((M.Z.alloc _).alloc _).of_heap rfl) hl hp).mono ?_);rintro e N ⟨rfl,a⟩)
   | (go_at_call 70;(with_reducible refine (uu W' H' l n' f ys _ z.Z (by exact (((D.Z.alloc _).alloc _).drew.below a)) F t).mono ?_);rintro e v2 ⟨rfl,c⟩)
   | (go_at_call 73;with_reducible refine (km W H o n k _).mono ?_;rintro e v3 ⟨rfl,i⟩)
   | (go_at_call 73;with_reducible refine (km W' H' l n' f _).mono ?_;rintro e v4 ⟨rfl,q⟩))
 go_wp2_with fail;go_ret;exact ⟨rfl,(zI (zI (zI (zI (zJ (zJ bR _) _).drew a) c) i) q)⟩
theorem Zg (h:kC W H xs W' H' ys=true):zP W H xs 255=true/\zP W' H' ys 255=true/\W=W'/\H=H':=by
 unfold kC at h;simp only [Bool.and_eq_true,decide_eq_true_eq] at h;exact ⟨h.1,h.2.1,h.2.2.1,h.2.2.2⟩
theorem zBH (hn:xs.length=n) (c:ys.length=n') (h:kC W H xs W' H' ys=true):n=n':=by
 obtain ⟨h1,h2,rfl,rfl⟩:=Zg h;have a:=(yH hn h1).2.1;have b:=(yH c h2).2.1;omega
theorem Vj (n:Nat) (v:Int) (w:World) (h1:0<=v) (h2:v<=255) (h3:n<=256):
 Calls prog 237 #[n,v] w fun e w'=>e= .returned ↑(xh n v)/\w=w':=by
 obtain ⟨a,b1⟩:=zCM h1 h2 h3;go_in
 go_wp2
 go_ret;exact ⟨rfl,rfl⟩
theorem XE (n:Nat) (v:Int) (w:World) (h1:0<=v) (h2:v<=255) (h3:n<=256):
 Calls prog 89 #[n,v] w fun e w'=>e= .returned ↑(xh n v)/\w=w':=by
 obtain ⟨a,b1⟩:=zCM h1 h2 h3;go_in
 go_wp2
 go_ret;exact ⟨rfl,rfl⟩
theorem zEt (W H:Int) (j:Option Addr) (n c:Nat) (xs:List Int) (v:Int) (w:World) (hn:xs.length=n) (ha:Rd w j xs) (hl:n<=9223372036854775807):
 Calls prog 323 #[.agg #[W,H, .slice j n c],v] w fun e w'=>e= .returned ↑(kV W H xs v)/\Below w w w':=by
 have k:=Jh hn;have l:=Jh ha;clear hn ha;by_cases hp:zq W H xs=true
 case neg=>
  have q:zq W H xs=false:=by simpa using hp
  rw [uh (fun h=>hp h.1)];clear hp;go_in;go_wp2_with fail;refine (yn _ _ _ _ _ xs _ k.Z (by exact l.Z.alloc _) hl).mono ?_;rintro e w1 ⟨rfl,hb⟩;have a:=Jh (nJ.trans (hb.mono sI));have b:=Jh ((Blk.new w 32 #[W,H, .slice j n c]).zA hb);obtain ⟨m,c0,c1,c2⟩:=b.Z.c3;clear hb;rw [q];go_wp2_with fail;go_ret;exact ⟨rfl,a.Z⟩
 by_cases f:0<=v
 case neg=>
  rw [uh (fun h=>f h.2.1)];go_in;go_wp2_with fail;refine (yn _ _ _ _ _ xs _ k.Z (by exact l.Z.alloc _) hl).mono ?_;rintro e w1 ⟨rfl,hb⟩;have a:=Jh (nJ.trans (hb.mono sI));have b:=Jh ((Blk.new w 32 #[W,H, .slice j n c]).zA hb);obtain ⟨m,c0,c1,c2⟩:=b.Z.c3;clear hb;rw [hp];go_wp2_with fail;go_ret;exact ⟨rfl,a.Z⟩
 by_cases i:v<=255
 case neg=>
  rw [uh (fun h=>i h.2.2)];go_in;go_wp2_with fail;refine (yn _ _ _ _ _ xs _ k.Z (by exact l.Z.alloc _) hl).mono ?_;rintro e w1 ⟨rfl,hb⟩;have a:=Jh (nJ.trans (hb.mono sI));have b:=Jh ((Blk.new w 32 #[W,H, .slice j n c]).zA hb);obtain ⟨m,c0,c1,c2⟩:=b.Z.c3;clear hb;rw [hp];go_wp2_with fail;go_ret;exact ⟨rfl,a.Z⟩
 rw [YV k.Z hp f i];obtain ⟨t,u,hi,hd⟩:=kI k.Z hp;obtain ⟨b1,b2,b3,D,E,C⟩:=xA t;have F:=Jh u;have y:=Jh hi;have A:=Jh hd;have z:=Jh t;have x:1<=n:=om;have o:n<=256:=om;clear u hi t hd;go_in;go_wp2_with fail;refine (yn _ _ _ _ _ xs _ k.Z (by exact l.Z.alloc _) hl).mono ?_;rintro e w1 ⟨rfl,hb⟩;have a:=Jh (nJ.trans (hb.mono sI));have b:=Jh ((Blk.new w 32 #[W,H, .slice j n c]).zA hb);obtain ⟨m,c0,c1,c2⟩:=b.Z.c3;clear hb;rw [hp];go_wp2_with fail;refine (Vj n v _ f i o).mono ?_;rintro e w2 ⟨rfl,rfl⟩;go_wp2_with fail;go_ret;exact ⟨rfl,a.Z⟩
theorem zFl (W H:Int) (j:Option Addr) (n c:Nat) (xs:List Int) (v:Int) (w:World) (hn:xs.length=n) (ha:Rd w j xs) (hl:n<=9223372036854775807):
 Calls prog 66 #[.agg #[W,H, .slice j n c],v] w fun e w'=>e= .returned ↑(kV W H xs v)/\Below w w w':=by
 have k:=Jh hn;have m:=Jh ha;clear hn ha;by_cases hp:zq W H xs=true
 case neg=>
  have o:zq W H xs=false:=by simpa using hp
  rw [uh (fun h=>hp h.1)];clear hp;go_in;go_wp2_with fail;refine (xW _ _ _ _ _ xs _ k.Z (by exact m.Z.alloc _) hl).mono ?_;rintro e w1 ⟨rfl,hb⟩;have a:=Jh (nJ.trans (hb.mono sI));have b:=Jh ((Blk.new w 32 #[W,H, .slice j n c]).zA hb);obtain ⟨u,c0,c1,c2⟩:=b.Z.c3;clear hb;rw [o];go_wp2_with fail;go_ret;exact ⟨rfl,a.Z⟩
 by_cases hv:0<=v/\v<=255
 case neg=>
  rw [uh (fun h=>hv h.2)];have x:=Jh hv;clear hv;go_in;go_wp2_with fail;refine (xW _ _ _ _ _ xs _ k.Z (by exact m.Z.alloc _) hl).mono ?_;rintro e w1 ⟨rfl,hb⟩;have a:=Jh (nJ.trans (hb.mono sI));have b:=Jh ((Blk.new w 32 #[W,H, .slice j n c]).zA hb);obtain ⟨u,c0,c1,c2⟩:=b.Z.c3;clear hb;rw [hp];go_wp2_with fail;refine (yx _ _ _ _ x.Z).mono ?_;rintro e w2 ⟨rfl,rfl⟩;go_wp2_with fail;go_ret;exact ⟨rfl,a.Z⟩
 obtain ⟨f,i⟩:=hv;rw [YV k.Z hp f i];obtain ⟨q,t,hi,hd⟩:=kI k.Z hp;obtain ⟨b1,b2,b3,E,F,D⟩:=xA q;have G:=Jh t;have z:=Jh hi;have C:=Jh hd;have A:=Jh q;have y:1<=n:=om;have l:n<=256:=om;clear t hi q hd;go_in;go_wp2_with fail;refine (xW _ _ _ _ _ xs _ k.Z (by exact m.Z.alloc _) hl).mono ?_;rintro e w1 ⟨rfl,hb⟩;have a:=Jh (nJ.trans (hb.mono sI));have b:=Jh ((Blk.new w 32 #[W,H, .slice j n c]).zA hb);obtain ⟨u,c0,c1,c2⟩:=b.Z.c3;clear hb;rw [hp];go_wp2_with fail;refine (zz _ _ _ _ f i).mono ?_;rintro e w2 ⟨rfl,rfl⟩;go_wp2_with fail;refine (XE n v _ f i l).mono ?_;rintro e w2 ⟨rfl,rfl⟩;go_wp2_with fail;go_ret;exact ⟨rfl,a.Z⟩
abbrev Dat:=Pic × Pic × List Pic
def jM:List UInt8:=[111,107]
def vq:List UInt8:=[110,111]
def KE:List UInt8:=[102,117,108,108]
def KH:List UInt8:=[110,111,110,101]
def zEM:List UInt8:=[98,97,100]
def jc:List UInt8:=[119,104,97,116]
def jP (p:Pic) (d:Dat):Dat × List UInt8:=if zP p.W p.H p.ink 255=true then ((p,d.2.1,[]),jM) else (d,vq)
def xC (f:Pic->Pic) (d:Dat):Dat × List UInt8:=if zq (f d.2.1).W (f d.2.1).H (f d.2.1).ink=true then ((d.1,f d.2.1,d.2.2),jM) else (d,vq)
def vJ (i:Int) (d:Dat):Dat × List UInt8:=(d,if kV d.2.1.W d.2.1.H d.2.1.ink i<0 then vq else xI [kV d.2.1.W d.2.1.H d.2.1.ink i])
structure xe (w:World) (B g:Nat) (D:Dsk):Prop where
 box:Blk w g 35 D.cells
 own:yG w B D
 off: ∀b,D.blocks b->b≠g
 small:jX D
 ok:yX D.dat=true
 base:B<=g
 laid:jt w
 six:6<=B
def xT (B g:Nat) (D:Dsk) (F:Dat->Dat × List UInt8) (w:World) (e:Ending) (w':World):Prop:=
 ∃E:Dsk,e= .returned (.string ⟨(F D.dat).2.toArray⟩)/\Blk w' g 35 E.cells/\yG w' B E/\(∀b,E.blocks b->b≠g)/\E.dat=(F D.dat).1/\jX E/\Below B w w'
theorem xe.size {w:World} {B g:Nat} {D:Dsk} (h:xe w B g D):B<=w.heap.size:=Nat.le_of_lt (Nat.lt_of_le_of_lt h.base h.box.lt)
theorem xe.below {w w':World} {B g:Nat} {D:Dsk} (h:xe w B g D) (hb:Below w w w'):xe w' B g D:=
 ⟨h.box.zA hb,h.own.below hb,h.off,h.small,h.ok,h.base,h.laid.below hb,h.six⟩
theorem xe.stay {D:Dsk} {F:Dat->Dat × List UInt8} (h:xe w B g D) (hb:Below w w w') (hd:(F D.dat).1=D.dat) (ha:(⟨(F D.dat).2.toArray⟩:ByteArray)=s):
 xT B g D F w (.returned (.string s)) w':=
 ⟨D,by rw [ha],h.box.zA hb,h.own.below hb,h.off,hd.symm,h.small,hb.mono h.size⟩
set_option maxRecDepth 100000 in
theorem zNs (q:PV) (w:World) (B g:Nat) (D:Dsk) (v:xe w B g D) (N:OwnA w B q.a q.n q.c q.ink) (hg: ∀b,zL q.a=some b->b≠g) (hm: ∀b,zL q.a=some b->zL D.M.a≠some b) (hn:q.n<=1048576):
 Calls prog 321 #[q.val, .pointer ↑g] w (xT B g D (jP q.pic) w):=by
 obtain ⟨W,H,a,n,c,xs⟩:=q;dsimp only [PV.pic] at*;have i:=Jh v;have J:=Jh N;have y:=Jh hg;have Q:=Jh hm;have t:=Jh (Joins.below_alloc1 w (.cells #[W,H, .slice a n c] 151));clear v N hg hm;show Calls prog 321 #[.agg #[W,H, .slice a n c], .pointer ↑g] w _;go_in;go_wp2_with fail;refine (ym W H a n c xs _ J.Z.len (by exact J.Z.rd.below t.Z) om).mono ?_;rintro e w1 ⟨rfl,hb⟩;have l:=Jh (zI t.Z hb);have G:=Jh ((Blk.new w 151 #[W,H, .slice a n c]).zA hb);clear hb;by_cases hp:zP W H xs 255=true
 case neg=>
  have C:zP W H xs 255=false:=by simpa using hp
  have E:Hd (∀d,jP ⟨W,H,xs⟩ d=(d,vq)):=Jh (fun d=>by unfold jP;rw [if_neg hp]);rw [C];go_wp2_with fail;go_ret;exact i.Z.stay l.Z (by rw [E.Z]) (by rw [E.Z];rfl)
 have E:Hd (∀d,jP ⟨W,H,xs⟩ d=((⟨W,H,xs⟩,d.2.1,[]),jM)):=Jh (fun d=>by unfold jP;rw [if_pos hp]);rw [hp];have L:=i.Z.box.zA l.Z;obtain ⟨m0,V,d1,d2,d3,d4,Y,X⟩:=(show Blk w1 g 35 ↑D from L).c7;obtain ⟨f0,f1,U,f3,f4,f5,f6⟩:=L.f7;obtain ⟨l0,c0,c1,c2⟩:=G.Z.c3;have f:=i.Z.base;have R: ¬w.heap.size=g:=by have:=i.Z.box.lt;omega
 go_wp2_with fail;go_ret;have I:=J.Z.zA l.Z;have F:=i.Z.own.m.zA l.Z;have o: ∀ {u:World} {A:Option Addr} {m k:Nat} {O:List Int} (j:Nat) (x:Value),(∀b,zL A=some b->b≠g)->OwnA u B A m k O->OwnA (u.setCell (g,j) x) B A m k O:=fun j x T h=>h.zF (fun e=>T _ e rfl) x;have z: ∀b,zL D.M.a=some b->b≠g:=fun b hb=>i.Z.off b (.inr (.inl hb));refine ⟨⟨⟨W,H,a,n,c,xs⟩,D.M,none,0,0,[]⟩,?_,?_,⟨?_,?_,OwnV.nil _ _,fun b hb=>Q.Z b hb,fun b hb e=>?_,fun b hb e=>?_⟩,fun b hb=>?_,?_,⟨hn,i.Z.small.m,by show 0<=1048576;omega,fun k hk=>by simp at hk⟩,?_⟩;rw [E.Z];rfl;exact (((show Blk w1 g 35 ↑D from L).putP _ _ _).putS _);exact o 6 _ y.Z (o 2 _ y.Z (o 1 _ y.Z (o 0 _ y.Z I)));exact o 6 _ z (o 2 _ z (o 1 _ z (o 0 _ z F)));rcases hb with hb | ⟨k,hk,_⟩
 cases hb;simp at hk;rcases hb with hb | ⟨k,hk,_⟩
 cases hb;simp at hk;rcases hb with hb | hb | hb | ⟨k,hk,_⟩
 exact y.Z b hb;exact z b hb;cases hb;simp at hk;rw [E.Z];rfl;exact (((((l.Z.mono i.Z.size).setCell f _).setCell f _).setCell f _).setCell f _)
set_option maxRecDepth 100000 in
theorem zIv (i:Int) (w:World) (B g:Nat) (D:Dsk) (f:xe w B g D) (y: ∀W H xs,-1<=kV W H xs i/\kV W H xs i<=9223372036854775807):
 Calls prog 322 #[i, .pointer ↑g] w (xT B g D (vJ i) w):=by
 have b:=Jh f;have H0:=Jh y;have z:Blk w g 35 ↑D:=f.box;clear f y;obtain ⟨G,I,d1,d2,d3,d4,N,L⟩:=z.c7;go_in;go_wp2_with fail;refine (zEt D.M.W D.M.H D.M.a D.M.n D.M.c D.M.ink i _ b.Z.own.m.len (by exact b.Z.own.m.rd) (og b.Z.small.m)).mono ?_;rintro e w1 ⟨rfl,hb⟩;have j:=Jh hb;obtain ⟨C,F⟩:=H0.Z D.M.W D.M.H D.M.ink;obtain ⟨V,t⟩: ∃V,kV D.M.W D.M.H D.M.ink i=V:=⟨_,rfl⟩
 rw [t] at C F⊢
 have E:Hd (∀c,c=vq\/c=xI [V]->(if V<0 then vq else xI [V])=c->(vJ i D.dat)=(D.dat,c)):=Jh (fun c _ hc=>by
  unfold vJ
  rw [show D.dat.2.1.W=D.M.W from rfl,show D.dat.2.1.H=D.M.H from rfl,show D.dat.2.1.ink=D.M.ink from rfl,t,hc])
 clear hb t G I d1 d2 d3 d4 N L z;by_cases l:V<0
 . have o:=Jh (E.Z vq (.inl rfl) (if_pos l))
   go_wp2_with fail;go_ret;exact b.Z.stay j.Z (by rw [o.Z]) (by rw [o.Z];rfl)
 have o:=Jh (E.Z (xI [V]) (.inr rfl) (if_neg l));have u:=Jh ((b.Z.laid.below j.Z).below (Joins.below_alloc1 w1 (.cells #[.int .i64 V] 3)));have v:=Jh (zJ j.Z (.cells #[.int .i64 V] 3))
 have J:Hd (Rd (w1.alloc (.cells #[.int .i64 V] 3)) ↑w1 [V]):=Jh (fun k hk=>by
  obtain rfl:k=0:=by simpa using hk
  exact ⟨w1.heap.size,0,rfl,sI,by rw [(Blk.new w1 3 #[.int .i64 V]).cell];rfl⟩)
 go_wp2_with fail;refine (ug ↑w1 1 1 [V] _ rfl (by exact J.Z) om (fun x A=>by simp at A;omega) (by exact u.Z)).mono ?_;rintro e w2 ⟨rfl,hb⟩;have q:=Jh (zI v.Z hb);go_wp2_with fail;go_ret;exact b.Z.stay q.Z (by rw [o.Z]) (by rw [o.Z])
def zAU (w:World) (B g:Nat) (D:Dsk) (p:Pic) (e:Ending) (w':World):Prop:=
 ∃m:PV,e= .returned m.val/\m.pic=p/\OwnA w' B m.a m.n m.c m.ink/\(∀b,zL m.a=some b->b≠g/\ ¬D.blocks b)/\m.n<=1048576/\Below w w w'
set_option maxRecDepth 100000 in
theorem zAB (h:Nat) (lb:Array Value) (f:Pic->Pic) (w:World) (B g:Nat) (D:Dsk) (G:xe w B g D) (eh: ∀args w,(callFunc h args).run prog w= .ok (.enter h args) w)
 (hc: ∀v,BelowL w v->Calls prog h (#[.agg #[D.M.W,D.M.H, .slice D.M.a D.M.n D.M.c]]++lb) v (zAU v B g D (f D.M.pic))):
 Calls prog 318 #[.func (.func h) #[] lb, .pointer ↑g] w (xT B g D (xC f) w):=by
 have l:=Jh G;have HC:=Jh hc;have KG:Blk w g 35 ↑D:=G.box;clear G hc;obtain ⟨m0,d0,d1,d2,d3,d4,d5,d6⟩:=KG.c7;go_in;go_wp2_with (go_at_fn h;refine (HC.Z _ (BelowL.mk bR)).mono ?_;rintro e w1 ⟨⟨q,t,C,A,F,N⟩,rfl,R,Q,U,T,hb⟩;dsimp only [PV.val]);have V:=Jh (zJ hb (.cells #[q,t, .slice C A F] 32));have z:=Jh (Q.alloc (.cells #[q,t, .slice C A F] 32));have J:=Jh (Blk.new w1 32 #[q,t, .slice C A F]);have L:=Jh U;have b4:=Jh R;have b0:=Jh hb.size;clear hb Q U R m0 d0 d1 d2 d3 d4 d5 d6;obtain ⟨l0,c0,c1,c2⟩:=J.Z.c3;refine (yn q t C A F N _ z.Z.len (by exact z.Z.rd) (by have h9:A<=1048576:=T;omega)).mono ?_;rintro e w2 ⟨rfl,hb⟩;have y:=Jh (zI V.Z hb);have b1:=Jh (z.Z.zA hb);have b3:=Jh (J.Z.zA hb);clear hb l0 c0 c1 c2 V z J;have E0:f D.dat.2.1=⟨q,t,N⟩:=b4.Z.symm;by_cases hp:zq q t N=true
 case neg=>
  have b2:zq q t N=false:=by simpa using hp
  have E:Hd (xC f D.dat=(D.dat,vq)):=Jh (by unfold xC;rw [E0,if_neg hp]);rw [b2];go_wp2_with fail;go_ret;exact l.Z.stay y.Z (by rw [E.Z]) (by rw [E.Z];rfl)
 have E:Hd (xC f D.dat=((D.P.pic,⟨q,t,N⟩,zS D.ps),jM)):=Jh (by unfold xC;rw [E0,if_pos hp];rfl);rw [hp];have I:Blk w2 g 35 ↑D:=KG.zA y.Z;clear KG;obtain ⟨m0,d0,d1,d2,d3,d4,d5,d6⟩:=I.c7;obtain ⟨f0,f1,f2,f3,f4,f5,f6⟩:=I.f7;obtain ⟨l0,c0,c1,c2⟩:=b3.Z.c3;have o:=l.Z.base;have b5: ¬w1.heap.size=g:=by have:=l.Z.box.lt;have:=b0.Z;omega
 go_wp2_with fail;go_ret;have O: ∀ {u:World} {ad:Option Addr} {m k:Nat} {zs:List Int} (j:Nat) (x:Value),(∀b,zL ad=some b->b≠g)->OwnA u B ad m k zs->OwnA (u.setCell (g,j) x) B ad m k zs:=fun j x hx h=>h.zF (fun e=>hx _ e rfl) x;have Y: ∀b,zL D.P.a=some b->b≠g:=fun b hb=>l.Z.off b (.inl hb);have X: ∀b,zL C=some b->b≠g:=fun b hb=>(L.Z b hb).1
 have hs:OwnV (((w2.setCell (g,3) ↑q).setCell (g,4) ↑t).setCell (g,5) (.slice C A F)) B D.a D.n D.c D.ps:=by
  have hk:KeepT (fun i=>i=g) w2 (((w2.setCell (g,3) ↑q).setCell (g,4) ↑t).setCell (g,5) (.slice C A F)):=
   KeepT.set (S:=fun i=>i=g) (KeepT.set (S:=fun i=>i=g) (KeepT.set (S:=fun i=>i=g) (KeepT.refl _ w2) rfl _) rfl _) rfl _
  exact hk.ownV (l.Z.own.s.below y.Z) (fun i hi e=>l.Z.off i (.inr (.inr hi)) e)
 refine ⟨⟨D.P,⟨q,t,C,A,F,N⟩,D.a,D.n,D.c,D.ps⟩,?_,I.putM _ _ _,⟨?_,?_,hs,fun b hb e=>?_,l.Z.own.ps,fun b hb e=>?_⟩,fun b hb=>?_,?_,⟨l.Z.small.p,T,l.Z.small.n,l.Z.small.s⟩,?_⟩;rw [E.Z];rfl;exact O 5 _ Y (O 4 _ Y (O 3 _ Y (l.Z.own.p.zA y.Z)));exact O 5 _ X (O 4 _ X (O 3 _ X b1.Z));exact (L.Z b e).2 (.inl hb);exact (L.Z b e).2 (.inr (.inr hb));rcases hb with hb | hb | hb
 exact Y b hb;exact X b hb;exact l.Z.off b (.inr (.inr hb));rw [E.Z];rfl;exact (((y.Z.mono l.Z.size).setCell o _).setCell o _).setCell o _
end Go.Proofs.YtlenfgdjdianiaaGreatDoor
