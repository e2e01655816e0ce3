/- Facts on which this claim rests, 11. -/
import Derived.Test.YtlenfgdjdianiaaGreatDoorG10
set_option linter.all false
set_option maxHeartbeats 6400000
namespace Go.Proofs.YtlenfgdjdianiaaGreatDoor
open Go.RowKit Tq Go.Proofs.Tryz
variable {B g n n' : Nat} {H H' W W' : Int} {e : Ending} {s : ByteArray} {w w' : World} {xs ys : List Int}
section
variable {P : Program} (w : World)
open Op in
theorem FJ (d:Nat) (t e:TypeId) (a b a' b':Int) (i:TypeInfo) (ht:P.underlying t=some (.array 2 e)) (he:P.underlying e=some (.int .i64)) (hi:P.info? e=some i) (hs:i.size=1):
 (Op.equalIn (d+2) t (.agg #[a,b]) (.agg #[a',b'])).run P w= .ok (a==a' && b==b') w:=by
 have hone: ∀(x y:Int) (w:World),(Op.equalIn (d+1) e ↑x ↑y).run P w= .ok (x==y) w:=by
  intro x y w;simp [Op.equalIn,run_underlying he]
 have hsz: ∀w:World,(sizeOf e).run P w= .ok 1 w:=by
  intro w;simp [sizeOf,typeInfo,hi,hs]
 have hag: ∀w:World,(isAgg e).run P w= .ok false w:=by
  intro w;simp [isAgg,run_underlying he]
 have hp: ∀(x y:Int) (j:Nat) (w:World),j<2->(part e #[x,y] (j*1)).run P w= .ok (if j=0 then ↑x else ↑y) w:=by
  intro x y j w hj
  match j,hj with
  | 0,_=>simp [part,hag]
  | 1,_=>simp [part,hag]
 rw [Op.equalIn];simp only [Sem.run_bind,run_underlying ht,Result.andThen_ok,hsz];have hr:List.range' (0:Nat) 2 1=[0,1]:=rfl;simp only [Std.Legacy.Range.forIn_eq_forIn_range',Std.Legacy.Range.size,Nat.sub_zero,Nat.add_sub_cancel,Nat.div_one,hr,List.forIn_cons,List.forIn_nil,Sem.run_bind,hp a b 0 _ om,hp a' b' 0 _ om,Result.andThen_ok,if_true,hone];cases h1:(a==a') with
 | false=>simp
 | true=>
  simp only [Bool.not_true,Bool.false_eq_true,if_false,Sem.run_pure,Result.andThen_ok,Sem.run_bind,hp a b 1 _ om,hp a' b' 1 _ om,hone,Nat.one_ne_zero];cases h2:(b==b') with
  | false=>simp
  | true=>simp
end
theorem YC (W H:Int) (b:Option Addr) (n a:Nat) (xs:List Int) (w:World) (hn:xs.length=n) (ha:Rd w b xs) (hl:n<=↑Zn) (h:zT W H xs 255=true):
 Calls prog 70 #[.agg #[W,H, .slice b n a]] w (zR (.bool true) w):=
 (xV W H b n a xs w hn ha hl).mono fun e w' ⟨he,hw⟩=>⟨by rw [he,h],hw⟩
theorem Jf (W H:Int) (b:Option Addr) (n a:Nat) (xs:List Int) (w:World) (hn:xs.length=n) (ha:Rd w b xs) (hl:n<=↑Zn) (h: ¬zT W H xs 255=true):
 Calls prog 70 #[.agg #[W,H, .slice b n a]] w (zR (.bool false) w):=
 (xV W H b n a xs w hn ha hl).mono fun e w' ⟨he,hw⟩=>⟨by rw [he];exact zV (by simpa using h),hw⟩
theorem ay:(prog.info? 3).map (fun i=>(i.zero,i.size,i.bytes))=some (some ↑Z0,1,8):=zK
theorem JJ (W H W' H':Int) (b:Bool) (hb:(W==W' && H==H')=b): ∀w,(Op.equalIn 10000 100 (.agg #[W,H]) (.agg #[W',H'])).run prog w= .ok b w:=by
 intro w;obtain ⟨i,hi,_,a,_⟩:=info_parts ay;have c:prog.underlying 100=some (.array 2 3):=zK;rw [<-hb];exact FJ w 9998 100 3 W H W' H' i c underlying3 hi a
theorem XM (W H:Int) (o:Option Addr) (n l:Nat) (xs:List Int) (W' H':Int) (k:Option Addr) (n' f:Nat) (ys:List Int) (w:World)
 (hn:xs.length=n) (ha:Rd w o xs) (hl:n<=↑Zn) (E:ys.length=n') (C:Rd w k ys) (D:n'<=↑Zn):
 Calls prog 212 #[.agg #[W,H, .slice o n l], .agg #[W',H', .slice k n' f]] w (zR (.bool (jc W H xs W' H' ys)) w):=by
 obtain ⟨M,L,A,z⟩:=JG hn ha E C;clear hn ha E C;have G:((w.alloc (.cells #[W,H, .slice o n l] 31)).alloc (.cells #[W',H', .slice k n' f] 31)).cell? w=some ↑W:=by go_simp
 have I:((w.alloc (.cells #[W,H, .slice o n l] 31)).alloc (.cells #[W',H', .slice k n' f] 31)).cell? (w,1)=some ↑H:=by go_simp
 have J:((w.alloc (.cells #[W,H, .slice o n l] 31)).alloc (.cells #[W',H', .slice k n' f] 31)).cell? (w,2)=some (.slice o n l):=by go_simp
 have u:((w.alloc (.cells #[W,H, .slice o n l] 31)).alloc (.cells #[W',H', .slice k n' f] 31)).cell? ↑(w.heap.size+1)=some ↑W':=by go_simp
 have x:((w.alloc (.cells #[W,H, .slice o n l] 31)).alloc (.cells #[W',H', .slice k n' f] 31)).cell? (w.heap.size+1,1)=some ↑H':=by go_simp
 have y:((w.alloc (.cells #[W,H, .slice o n l] 31)).alloc (.cells #[W',H', .slice k n' f] 31)).cell? (w.heap.size+1,2)=some (.slice k n' f):=by go_simp
 have m:w.heap.size<((w.alloc (.cells #[W,H, .slice o n l] 31)).alloc (.cells #[W',H', .slice k n' f] 31)).heap.size:=sO;have j:w.heap.size+1<((w.alloc (.cells #[W,H, .slice o n l] 31)).alloc (.cells #[W',H', .slice k n' f] 31)).heap.size:=sI;by_cases hp:zT W H xs 255=true
 case neg=>
  rw [Gs hp];go_in
  go_wp2
  go_region_with (first
   | (go_simp;go_at_call 70;(with_reducible refine (Jf W H o n l xs _ M.Z (by exact ((L.Z.alloc _).alloc _).of_heap rfl) hl hp).mono ?_);rintro e N ⟨rfl,a⟩))
  all_goals go_wp2_with fail
  all_goals go_ret
  all_goals exact ⟨rfl,(zL (zM (zM bR _) _).drew a)⟩
 by_cases t:zT W' H' ys 255=true
 case neg=>
  rw [Gt t];go_in
  go_wp2
  go_region_with (first
   | (go_simp;go_at_call 70;(with_reducible refine (YC W H o n l xs _ M.Z (by exact ((L.Z.alloc _).alloc _).of_heap rfl) hl hp).mono ?_);rintro e N ⟨rfl,a⟩;have Q:=(a.cell j).trans u;have R:=(a.cell j).trans x;have T:=(a.cell j).trans y)
   | (go_simp;go_at_call 70;(with_reducible refine (Jf W' H' k n' f ys _ A.Z (by exact (((z.Z.alloc _).alloc _).drew.below a)) D t).mono ?_);rintro e v2 ⟨rfl,c⟩))
  all_goals go_wp2_with fail
  all_goals go_ret
  all_goals exact ⟨rfl,(zL (zL (zM (zM bR _) _).drew a) c)⟩
 obtain ⟨b,hb⟩:=zN (W==W' && H==H')
 have F:jc W H xs W' H' ys=b:=by
  rw [hb];unfold jc;rw [hp,t];cases h1:(W==W') <;>cases h2:(H==H') <;>simp_all
 rw [F];have O:=JJ W H W' H' b hb.symm;clear hb F;go_in
 go_wp2
 go_region_held3 (fun v=>JB v w W H (.slice o n l) (Jc v ↑(w.heap.size+1) W'/\Jc v (w.heap.size+1,1) H'/\Jc v (w.heap.size+1,2) (.slice k n' f)))
  (first | exact ⟨G,I,J,u,x,y⟩ | exact ⟨(a.cell m).trans G,(a.cell m).trans I,(a.cell m).trans J,(a.cell j).trans u,(a.cell j).trans x,(a.cell j).trans y⟩ | exact ⟨(c.cell (Yb m a.size)).trans ((a.cell m).trans G),(c.cell (Yb m a.size)).trans ((a.cell m).trans I),(c.cell (Yb m a.size)).trans ((a.cell m).trans J),(c.cell (Yb j a.size)).trans ((a.cell j).trans u),(c.cell (Yb j a.size)).trans ((a.cell j).trans x),(c.cell (Yb j a.size)).trans ((a.cell j).trans y)⟩ | exact ⟨(i.cell (Yb (Yb m a.size) c.size)).trans ((c.cell (Yb m a.size)).trans ((a.cell m).trans G)),(i.cell (Yb (Yb m a.size) c.size)).trans ((c.cell (Yb m a.size)).trans ((a.cell m).trans I)),(i.cell (Yb (Yb m a.size) c.size)).trans ((c.cell (Yb m a.size)).trans ((a.cell m).trans J)),(i.cell (Yb (Yb j a.size) c.size)).trans ((c.cell (Yb j a.size)).trans ((a.cell j).trans u)),(i.cell (Yb (Yb j a.size) c.size)).trans ((c.cell (Yb j a.size)).trans ((a.cell j).trans x)),(i.cell (Yb (Yb j a.size) c.size)).trans ((c.cell (Yb j a.size)).trans ((a.cell j).trans y))⟩ | exact ⟨(q.cell (Yb (Yb (Yb m a.size) c.size) i.size)).trans ((i.cell (Yb (Yb m a.size) c.size)).trans ((c.cell (Yb m a.size)).trans ((a.cell m).trans G))),(q.cell (Yb (Yb (Yb m a.size) c.size) i.size)).trans ((i.cell (Yb (Yb m a.size) c.size)).trans ((c.cell (Yb m a.size)).trans ((a.cell m).trans I))),(q.cell (Yb (Yb (Yb m a.size) c.size) i.size)).trans ((i.cell (Yb (Yb m a.size) c.size)).trans ((c.cell (Yb m a.size)).trans ((a.cell m).trans J))),(q.cell (Yb (Yb (Yb j a.size) c.size) i.size)).trans ((i.cell (Yb (Yb j a.size) c.size)).trans ((c.cell (Yb j a.size)).trans ((a.cell j).trans u))),(q.cell (Yb (Yb (Yb j a.size) c.size) i.size)).trans ((i.cell (Yb (Yb j a.size) c.size)).trans ((c.cell (Yb j a.size)).trans ((a.cell j).trans x))),(q.cell (Yb (Yb (Yb j a.size) c.size) i.size)).trans ((i.cell (Yb (Yb j a.size) c.size)).trans ((c.cell (Yb j a.size)).trans ((a.cell j).trans y)))⟩)
  (first
   | (go_at_call 70;(with_reducible refine (YC W H o n l xs _ M.Z (by exact ((L.Z.alloc _).alloc _).of_heap rfl) hl hp).mono ?_);rintro e N ⟨rfl,a⟩)
   | (go_at_call 70;(with_reducible refine (YC W' H' k n' f ys _ A.Z (by exact (((z.Z.alloc _).alloc _).drew.below a)) D t).mono ?_);rintro e v2 ⟨rfl,c⟩)
   | (go_at_call 73;with_reducible refine (vN W H o n l _).mono ?_;rintro e v3 ⟨rfl,i⟩)
   | (go_at_call 73;with_reducible refine (vN W' H' k n' f _).mono ?_;rintro e v4 ⟨rfl,q⟩))
 go_wp2
 go_ret;exact ⟨rfl,(zL (zL (zL (zL (zM (zM bR _) _).drew a) c) i) q)⟩
theorem JR (h:jc W H xs W' H' ys=true):zT W H xs 255=true/\zT W' H' ys 255=true/\W=W'/\H=H':=by
 unfold jc at h;simp only [Bool.and_eq_true,decide_eq_true_eq] at h;exact ⟨h.1,h.2.1,h.2.2.1,h.2.2.2⟩
theorem Gr (hn:xs.length=n) (c:ys.length=n') (h:jc W H xs W' H' ys=true):n=n':=by
 obtain ⟨h1,h2,rfl,rfl⟩:=JR h;have a:=(yu hn h1).2.1;have b:=(yu c h2).2.1;omega
theorem BI (n:Nat) (v:Int) (w:World) (h1:0<=v) (h2:v<=255) (h3:n<=256):
 Calls prog 237 #[n,v] w fun e w'=>e= .returned ↑(jM n v)/\w=w':=by
 obtain ⟨a,b1⟩:=LH h1 h2 h3;go_in
 go_wp2
 go_ret;exact ⟨rfl,rfl⟩
theorem Vh (n:Nat) (v:Int) (w:World) (h1:0<=v) (h2:v<=255) (h3:n<=256):
 Calls prog 89 #[n,v] w fun e w'=>e= .returned ↑(jM n v)/\w=w':=by
 obtain ⟨a,b1⟩:=LH h1 h2 h3;go_in
 go_wp2
 go_ret;exact ⟨rfl,rfl⟩
theorem Ot (W H:Int) (k:Option Addr) (n c:Nat) (xs:List Int) (v:Int) (w:World) (hn:xs.length=n) (ha:Rd w k xs) (hl:n<=↑Zn):
 Calls prog 323 #[.agg #[W,H, .slice k n c],v] w fun e w'=>e= .returned ↑(vD W H xs v)/\Below w w w':=by
 have j:=Jh hn;have l:=Jh ha;clear hn ha;by_cases hp:yD W H xs=true
 case neg=>
  have o:yD W H xs=false:=by simpa using hp
  rw [Zm (fun h=>hp h.1)];clear hp;go_in;go_wp2_with fail;refine (xX _ _ _ _ _ xs _ j.Z (by exact l.Z.alloc _) hl).mono ?_;rintro e w1 ⟨rfl,hb⟩;have a:=Jh (nJ.trans (hb.mono sI));have b:=Jh ((Blk.new w 32 #[W,H, .slice k n c]).zA hb);obtain ⟨t,c0,c1,c2⟩:=b.Z.c3;clear hb;rw [o]
  go_wp2
  go_ret;exact ⟨rfl,a.Z⟩
 by_cases f:0<=v
 case neg=>
  rw [Zm (fun h=>f h.2.1)];go_in;go_wp2_with fail;refine (xX _ _ _ _ _ xs _ j.Z (by exact l.Z.alloc _) hl).mono ?_;rintro e w1 ⟨rfl,hb⟩;have a:=Jh (nJ.trans (hb.mono sI));have b:=Jh ((Blk.new w 32 #[W,H, .slice k n c]).zA hb);obtain ⟨t,c0,c1,c2⟩:=b.Z.c3;clear hb;rw [hp]
  go_wp2
  go_ret;exact ⟨rfl,a.Z⟩
 by_cases i:v<=255
 case neg=>
  rw [Zm (fun h=>i h.2.2)];go_in;go_wp2_with fail;refine (xX _ _ _ _ _ xs _ j.Z (by exact l.Z.alloc _) hl).mono ?_;rintro e w1 ⟨rfl,hb⟩;have a:=Jh (nJ.trans (hb.mono sI));have b:=Jh ((Blk.new w 32 #[W,H, .slice k n c]).zA hb);obtain ⟨t,c0,c1,c2⟩:=b.Z.c3;clear hb;rw [hp]
  go_wp2
  go_ret;exact ⟨rfl,a.Z⟩
 rw [VX j.Z hp f i];obtain ⟨q,u,hi,hd⟩:=jh j.Z hp;obtain ⟨b1,b2,b3,D,E,F⟩:=kI q;obtain ⟨A,z,y,C⟩:=JG u hi hd q;have x:1<=n:=om;have m:n<=256:=om;clear u hi q hd;go_in;go_wp2_with fail;refine (xX _ _ _ _ _ xs _ j.Z (by exact l.Z.alloc _) hl).mono ?_;rintro e w1 ⟨rfl,hb⟩;have a:=Jh (nJ.trans (hb.mono sI));have b:=Jh ((Blk.new w 32 #[W,H, .slice k n c]).zA hb);obtain ⟨t,c0,c1,c2⟩:=b.Z.c3;clear hb;rw [hp];go_wp2_with fail;refine (BI n v _ f i m).mono ?_;rintro e w2 ⟨rfl,rfl⟩
 go_wp2
 go_ret;exact ⟨rfl,a.Z⟩
theorem RX (W H:Int) (k:Option Addr) (n c:Nat) (xs:List Int) (v:Int) (w:World) (hn:xs.length=n) (ha:Rd w k xs) (hl:n<=↑Zn):
 Calls prog 66 #[.agg #[W,H, .slice k n c],v] w fun e w'=>e= .returned ↑(vD W H xs v)/\Below w w w':=by
 have j:=Jh hn;have l:=Jh ha;clear hn ha;by_cases hp:yD W H xs=true
 case neg=>
  have o:yD W H xs=false:=by simpa using hp
  rw [Zm (fun h=>hp h.1)];clear hp;go_in;go_wp2_with fail;refine (jA _ _ _ _ _ xs _ j.Z (by exact l.Z.alloc _) hl).mono ?_;rintro e w1 ⟨rfl,hb⟩;have a:=Jh (nJ.trans (hb.mono sI));have b:=Jh ((Blk.new w 32 #[W,H, .slice k n c]).zA hb);obtain ⟨u,c0,c1,c2⟩:=b.Z.c3;clear hb;rw [o]
  go_wp2
  go_ret;exact ⟨rfl,a.Z⟩
 by_cases hv:0<=v/\v<=255
 case neg=>
  rw [Zm (fun h=>hv h.2)];have x:=Jh hv;clear hv;go_in;go_wp2_with fail;refine (jA _ _ _ _ _ xs _ j.Z (by exact l.Z.alloc _) hl).mono ?_;rintro e w1 ⟨rfl,hb⟩;have a:=Jh (nJ.trans (hb.mono sI));have b:=Jh ((Blk.new w 32 #[W,H, .slice k n c]).zA hb);obtain ⟨u,c0,c1,c2⟩:=b.Z.c3;clear hb;rw [hp];go_wp2_with fail;refine (kD _ _ _ _ x.Z).mono ?_;rintro e w2 ⟨rfl,rfl⟩
  go_wp2
  go_ret;exact ⟨rfl,a.Z⟩
 obtain ⟨f,i⟩:=hv;rw [VX j.Z hp f i];obtain ⟨q,t,hi,hd⟩:=jh j.Z hp;obtain ⟨b1,b2,b3,E,F,G⟩:=kI q;obtain ⟨C,A,z,D⟩:=JG t hi hd q;have y:1<=n:=om;have m:n<=256:=om;clear t hi q hd;go_in;go_wp2_with fail;refine (jA _ _ _ _ _ xs _ j.Z (by exact l.Z.alloc _) hl).mono ?_;rintro e w1 ⟨rfl,hb⟩;have a:=Jh (nJ.trans (hb.mono sI));have b:=Jh ((Blk.new w 32 #[W,H, .slice k n c]).zA hb);obtain ⟨u,c0,c1,c2⟩:=b.Z.c3;clear hb;rw [hp];go_wp2_with fail;refine (yJ _ _ _ _ f i).mono ?_;rintro e w2 ⟨rfl,rfl⟩;go_wp2_with fail;refine (Vh n v _ f i m).mono ?_;rintro e w2 ⟨rfl,rfl⟩
 go_wp2
 go_ret;exact ⟨rfl,a.Z⟩
abbrev Dat:=Pic × Pic × List Pic
def ZJ:List UInt8:=[111,107]
def YI:List UInt8:=[110,111]
def Cj:List UInt8:=[102,117,108,108]
def Ck:List UInt8:=[110,111,110,101]
def OB:List UInt8:=[98,97,100]
def qR:List UInt8:=[119,104,97,116]
def qp (p:Pic) (d:Dat):Dat × List UInt8:=if zT p.W p.H p.ink 255=true then ((p,d.2.1,[]),ZJ) else (d,YI)
def kY (f:Pic->Pic) (d:Dat):Dat × List UInt8:=if yD (f d.2.1).W (f d.2.1).H (f d.2.1).ink=true then ((d.1,f d.2.1,d.2.2),ZJ) else (d,YI)
def Zy (i:Int) (d:Dat):Dat × List UInt8:=(d,if vD d.2.1.W d.2.1.H d.2.1.ink i<0 then YI else jG [vD d.2.1.W d.2.1.H d.2.1.ink i])
structure jJ (w:World) (B g:Nat) (D:Dsk):Prop where
 box:Blk w g 35 D.cells
 own:yQ w B D
 off: ∀b,D.blocks b->b≠g
 small:vK D
 ok:xg D.dat=true
 base:B<=g
 laid:qZ w
 six:6<=B
def ku (B g:Nat) (D:Dsk) (F:Dat->Dat × List UInt8) (w:World) (e:Ending) (w':World):Prop:=
 ∃E:Dsk,e= .returned (.string ⟨(F D.dat).2.toArray⟩)/\Blk w' g 35 E.cells/\yQ w' B E/\(∀b,E.blocks b->b≠g)/\E.dat=(F D.dat).1/\vK E/\Below B w w'
theorem jJ.size {w:World} {B g:Nat} {D:Dsk} (h:jJ w B g D):B<=w.heap.size:=Nat.le_of_lt (Nat.lt_of_le_of_lt h.base h.box.lt)
theorem jJ.below {w w':World} {B g:Nat} {D:Dsk} (h:jJ w B g D) (hb:Below w w w'):jJ w' B g D:=
 ⟨h.box.zA hb,h.own.below hb,h.off,h.small,h.ok,h.base,h.laid.below hb,h.six⟩
theorem jJ.stay {D:Dsk} {F:Dat->Dat × List UInt8} (h:jJ w B g D) (hb:Below w w w') (hd:(F D.dat).1=D.dat) (ha:(⟨(F D.dat).2.toArray⟩:ByteArray)=s):
 ku B g D F w (.returned (.string s)) w':=
 ⟨D,by rw [ha],h.box.zA hb,h.own.below hb,h.off,hd.symm,h.small,hb.mono h.size⟩
section
set_option maxRecDepth 100000
theorem zAM (q:PV) (w:World) (B g:Nat) (D:Dsk) (z:jJ w B g D) (N:OwnA w B q.a q.n q.c q.ink) (hg: ∀b,zO q.a=some b->b≠g) (hm: ∀b,zO q.a=some b->zO D.M.a≠some b) (hn:q.n<=1048576):
 Calls prog 321 #[q.val, .pointer ↑g] w (ku B g D (qp q.pic) w):=by
 obtain ⟨W,H,a,n,c,xs⟩:=q;dsimp only [PV.pic] at*;obtain ⟨i,C,v,Q,t⟩:=JI z N hg hm (Joins.below_alloc1 w (.cells #[W,H, .slice a n c] 151));clear z N hg hm;show Calls prog 321 #[.agg #[W,H, .slice a n c], .pointer ↑g] w _;go_in;go_wp2_with fail;refine (xV W H a n c xs _ C.Z.len (by exact C.Z.rd.below t.Z) om).mono ?_;rintro e w1 ⟨rfl,hb⟩;have l:=Jh (zL t.Z hb);have I:=Jh ((Blk.new w 151 #[W,H, .slice a n c]).zA hb);clear hb;by_cases hp:zT W H xs 255=true
 case neg=>
  have L:zT W H xs 255=false:=by simpa using hp
  have E:Hd (∀d,qp ⟨W,H,xs⟩ d=(d,YI)):=Jh (fun d=>by unfold qp;rw [if_neg hp]);rw [L]
  go_wp2
  go_ret;exact i.Z.stay l.Z (by rw [E.Z]) (by rw [E.Z];rfl)
 have E:Hd (∀d,qp ⟨W,H,xs⟩ d=((⟨W,H,xs⟩,d.2.1,[]),ZJ)):=Jh (fun d=>by unfold qp;rw [if_pos hp]);rw [hp];have G:=i.Z.box.zA l.Z;obtain ⟨m0,U,d1,d2,d3,d4,V,X⟩:=(show Blk w1 g 35 ↑D from G).c7;obtain ⟨Y,f1,f2,f3,f4,f5,f6⟩:=G.f7;obtain ⟨l0,c0,c1,c2⟩:=I.Z.c3;have f:=i.Z.base;have R: ¬w.heap.size=g:=by have:=i.Z.box.lt;omega
 go_wp2
 go_ret;have F:=C.Z.zA l.Z;have A:=i.Z.own.m.zA l.Z;have o: ∀ {u:World} {J:Option Addr} {m k:Nat} {O:List Int} (j:Nat) (x:Value),(∀b,zO J=some b->b≠g)->OwnA u B J m k O->OwnA (u.setCell (g,j) x) B J m k O:=fun j x T h=>h.zG (fun e=>T _ e rfl) x;have y: ∀b,zO D.M.a=some b->b≠g:=fun b hb=>i.Z.off b (.inr (.inl hb));refine ⟨⟨⟨W,H,a,n,c,xs⟩,D.M,none,0,0,[]⟩,?_,?_,⟨?_,?_,OwnV.nil _ _,fun b hb=>Q.Z b hb,fun b hb e=>?_,fun b hb e=>?_⟩,fun b hb=>?_,?_,⟨hn,i.Z.small.m,by show 0<=1048576;omega,fun k hk=>by simp at hk⟩,?_⟩;rw [E.Z];rfl;exact (((show Blk w1 g 35 ↑D from G).putP _ _ _).putS _);exact o 6 _ v.Z (o 2 _ v.Z (o 1 _ v.Z (o 0 _ v.Z F)));exact o 6 _ y (o 2 _ y (o 1 _ y (o 0 _ y A)));rcases hb with hb | ⟨k,hk,_⟩
 cases hb;simp at hk;rcases hb with hb | ⟨k,hk,_⟩
 cases hb;simp at hk;rcases hb with hb | hb | hb | ⟨k,hk,_⟩
 exact v.Z b hb;exact y b hb;cases hb;simp at hk;rw [E.Z];rfl;exact (((((l.Z.mono i.Z.size).setCell f _).setCell f _).setCell f _).setCell f _)
theorem bU (i:Int) (w:World) (B g:Nat) (D:Dsk) (j:jJ w B g D) (z: ∀W H xs,-1<=vD W H xs i/\vD W H xs i<=9223372036854775807):
 Calls prog 322 #[i, .pointer ↑g] w (ku B g D (Zy i) w):=by
 have b:=Jh j;have H0:=Jh z;have y:Blk w g 35 ↑D:=j.box;clear j z;obtain ⟨N,C,d1,d2,d3,d4,F,G⟩:=y.c7;go_in;go_wp2_with fail;refine (Ot D.M.W D.M.H D.M.a D.M.n D.M.c D.M.ink i _ b.Z.own.m.len (by exact b.Z.own.m.rd) (og b.Z.small.m)).mono ?_;rintro e w1 ⟨rfl,hb⟩;have f:=Jh hb;obtain ⟨J,L⟩:=H0.Z D.M.W D.M.H D.M.ink;obtain ⟨V,v⟩: ∃V,vD D.M.W D.M.H D.M.ink i=V:=⟨_,rfl⟩
 rw [v] at J L⊢
 have E:Hd (∀c,c=YI\/c=jG [V]->(if V<0 then YI else jG [V])=c->(Zy i D.dat)=(D.dat,c)):=Jh (fun c _ hc=>by
  unfold Zy
  rw [show D.dat.2.1.W=D.M.W from rfl,show D.dat.2.1.H=D.M.H from rfl,show D.dat.2.1.ink=D.M.ink from rfl,v,hc])
 clear hb v N C d1 d2 d3 d4 F G y;by_cases o:V<0
 . have l:=Jh (E.Z YI (.inl rfl) (if_pos o))
   go_wp2
   go_ret;exact b.Z.stay f.Z (by rw [l.Z]) (by rw [l.Z];rfl)
 have l:=Jh (E.Z (jG [V]) (.inr rfl) (if_neg o));have u:=Jh ((b.Z.laid.below f.Z).below (Joins.below_alloc1 w1 (.cells #[.int .i64 V] 3)));have q:=Jh (zM f.Z (.cells #[.int .i64 V] 3))
 have A:Hd (Rd (w1.alloc (.cells #[.int .i64 V] 3)) ↑w1 [V]):=Jh (fun k hk=>by
  obtain rfl:k=0:=by simpa using hk
  exact ⟨w1.heap.size,0,rfl,sI,by rw [(Blk.new w1 3 #[.int .i64 V]).cell];rfl⟩)
 go_wp2_with fail;refine (Zl ↑w1 1 1 [V] _ rfl (by exact A.Z) om (fun x I=>by simp at I;omega) (by exact u.Z)).mono ?_;rintro e w2 ⟨rfl,hb⟩;have t:=Jh (zL q.Z hb)
 go_wp2
 go_ret;exact b.Z.stay t.Z (by rw [l.Z]) (by rw [l.Z])
end
def xu (f:Dat->Pic × List UInt8) (d:Dat):Dat × List UInt8:=if d.2.2.length=4 then (d,Cj) else ((d.1,d.2.1,d.2.2++ [(f d).1]),(f d).2)
def EN (w:World) (r:Pic × List UInt8) (e:Ending) (w':World):Prop:=
 ∃(W H:Int) (a:Option Addr) (n c:Nat) (xs:List Int),e= .returned (.tuple #[.agg #[W,H, .slice a n c], .string ⟨r.2.toArray⟩])/\(⟨W,H,xs⟩:Pic)=r.1/\OwnA w' w a n c xs/\n<=1048576/\Below w w w'
set_option maxRecDepth 100000 in
theorem Gw (h:Nat) (lb:Array Value) (f:Dat->Pic × List UInt8) (w:World) (B g:Nat) (D:Dsk) (Q:jJ w B g D) (eh: ∀args w,(callFunc h args).run Tryz.prog w= .ok (.enter h args) w) (g4:D.n<=4)
 (hc: ∀v,BelowL w v->Calls Tryz.prog h (#[.agg #[.int .i64 D.P.W, .int .i64 D.P.H, .slice D.P.a D.P.n D.P.c, .int .i64 D.M.W, .int .i64 D.M.H, .slice D.M.a D.M.n D.M.c, .slice D.a D.n D.c]]++lb) v (EN v (f D.dat))):
 Calls Tryz.prog 319 #[.func (.func h) #[] lb, .pointer (some ⟨g,0,none⟩)] w (ku B g D (xu f) w):=by
 have j:=Jh Q;have HC:=Jh hc;have KG:Blk w g 35 #[.int .i64 D.P.W, .int .i64 D.P.H, .slice D.P.a D.P.n D.P.c, .int .i64 D.M.W, .int .i64 D.M.H, .slice D.M.a D.M.n D.M.c, .slice D.a D.n D.c]:=Q.box;have c4:(zS D.ps).length=D.n:=by rw [kU];exact Q.own.s.len
 clear Q hc;obtain ⟨m0,d0,d1,d2,d3,d4,d5,d6⟩:=KG.c7;by_cases h4:D.n=4
 . have E:Hd (xu f D.dat=(D.dat,Cj)):=Jh (by unfold xu;rw [if_pos (by show (zS D.ps).length=4;rw [c4,h4])])
   have e8:((D.n:Int)==4)=true:=by rw [h4];rfl
   go_enter Tryz.func319,Tryz.ntmps319;go_wp2_with fail;go_ret;exact j.Z.stay (Below.refl _ _) (by rw [E.Z]) (by rw [E.Z];rfl)
 have E:Hd (xu f D.dat=((D.P.pic,D.M.pic,zS D.ps++ [(f D.dat).1]),(f D.dat).2)):=Jh (by unfold xu;rw [if_neg (by show ¬(zS D.ps).length=4;rw [c4];exact h4)];rfl);have e8:((D.n:Int)==4)=false:=by simp;omega
 go_enter Tryz.func319,Tryz.ntmps319;go_wp2_with (go_at_fn h;refine (HC.Z _ (BelowL.mk (Below.refl _ _))).mono ?_;rintro e w1 ⟨F,C,u,A,z,T,rfl,c8,c5,g0,hb⟩);obtain ⟨w2,O⟩: ∃x,x=w1.alloc (.cells #[.int .i64 F, .int .i64 C, .slice u A z] 31):=⟨_,rfl⟩
 have b5:Hd (Blk w2 w1.heap.size 31 #[.int .i64 F, .int .i64 C, .slice u A z]):=Jh (by rw [O];exact Blk.new _ _ _);have I:Hd (Below w.heap.size w w2):=Jh (by rw [O];exact zM hb _);have b4:Hd (OwnA w2 w.heap.size u A z T):=Jh (by rw [O];exact c5.alloc _);have e3:=Jh c8;have e5:=Jh hb.size;rw [<-O];clear O hb c5 c8 m0 d0 d1 d2 d3 d4 d5 d6;have e6:=Jh (j.Z.below I.Z);have d8:=Jh I.Z.size;have V:Blk w2 g 35 #[.int .i64 D.P.W, .int .i64 D.P.H, .slice D.P.a D.P.n D.P.c, .int .i64 D.M.W, .int .i64 D.M.H, .slice D.M.a D.M.n D.M.c, .slice D.a D.n D.c]:=KG.zA I.Z;clear KG;obtain ⟨m0,d0,d1,d2,d3,d4,d5,d6⟩:=V.c7;obtain ⟨l0,c0,c1,c2⟩:=b5.Z.c3;have MK:Hd (∀v,BelowL w2 v->v.cell? ⟨g,6,none⟩=some (.slice D.a D.n D.c)/\v.cell? ⟨w1.heap.size,0,none⟩=some (.int .i64 F)/\v.cell? ⟨w1.heap.size,1,none⟩=some (.int .i64 C)/\v.cell? ⟨w1.heap.size,2,none⟩=some (.slice u A z)):=Jh (fun v h=>⟨(h.Z.cell m0).trans d6,(h.Z.cell l0).trans c0,(h.Z.cell l0).trans c1,(h.Z.cell l0).trans c2⟩);clear m0 d0 d1 d2 d3 d4 d5 d6 l0 c0 c1 c2;refine yA 8 (fun v=>v.cell? ⟨g,6,none⟩=some (.slice D.a D.n D.c)/\v.cell? ⟨w1.heap.size,0,none⟩=some (.int .i64 F)/\v.cell? ⟨w1.heap.size,1,none⟩=some (.int .i64 C)/\v.cell? ⟨w1.heap.size,2,none⟩=some (.slice u A z)) (by kernel_rfl) (MK.Z _ (BelowL.start _)) ?_;intro Y;refine zP 0 ?_;refine zP 1 ?_;refine zP 2 ?_;refine zP 3 ?_;refine zP 4 ?_;refine zP 5 ?_;refine zf 6 (fun K hK=>?_);go_simp;have l:BelowL w2 (w2.alloc (.cells #[.int .i64 F, .int .i64 C, .slice u A z] 31)).drew:=BelowL.mk (zM (Below.refl _ _) _).drew;refine hK.out _ _ (fun _=>by (try dsimp only);exact MK.Z _ l) (fun hH2=>?_);clear hK K Y;refine zf 7 (fun K hK=>?_);have t:=Jh (e6.Z.below l.Z);have e2:=Jh (b4.Z.zA l.Z);refine CV _ (by rfl) 33 Tryz.underlying33 QV (.tmp 25) (.tmp 27) (by rfl) B D.n D.c D.a D.ps (by rfl) t.Z.own.s.toRowVA w2.heap.size ⟨F,C,u,A,z,T⟩ (by rfl) (by first | go_simp | simp) (by first | go_simp | simp) (by first | go_simp | simp) (by omega) t.Z.size ?_;intro J L w6 b8 q b3;have b0:=j.Z.base;have g1:=j.Z.size;have g2:=d8.Z;have g3:=j.Z.box.lt;have y: ∀b,zO D.a=some b->b≠g/\B<=b/\b<w.heap.size:=fun b hb=>⟨j.Z.off b (.inr (.inr (.inl hb))),j.Z.own.s.bd b (.inl hb)⟩
 have b1: ∀b,D.blocks b->b<w.heap.size:=fun b hb=>(j.Z.own.bd b hb).2;have b2: ∀b,zO u=some b->w.heap.size<=b/\b<w2.heap.size:=fun b hb=>b4.Z.bd b hb
 have b7:OwnV w6 B J (D.n+1) L (D.ps++ [⟨F,C,u,A,z,T⟩]):=OwnV.snoc t.Z.own.s b8 q
  (fun b hb=>by
   rcases b3 with e | e
   rw [e] at hb;exact .inl hb
   rw [e] at hb;injection hb with hb;exact .inr (by omega))
  ((e2.Z.mono (B':=B) (by omega)).zI q (fun b hb N=>by have:=(y b hb).2.2;have:=(b2 b N).1;omega))
  (fun b hb=>by
   have h2:=b2 b hb;refine ⟨by simp;omega,fun f8=>?_⟩;have h1:=b1 b (.inr (.inr f8))
   omega)
 have b6: ∀b,OwnV.blocks J (D.ps++ [⟨F,C,u,A,z,T⟩]) b->OwnV.blocks D.a D.ps b\/w.heap.size<=b:=fun b hb=>by
  rcases hb with hb | ⟨k,hk,hb⟩
  rcases b3 with e | e
  rw [e] at hb;exact .inl (.inl hb);rw [e] at hb;injection hb with hb;simp at hb;exact .inr (by omega)
  by_cases e:k<D.ps.length
  rw [wE e] at hb;exact .inl (.inr ⟨k,e,hb⟩);obtain rfl:k=D.ps.length:=by simp at hk;omega
  rw [Xa] at hb;exact .inr (b2 b hb).1
 have e4:=Jh b7;have U:=Jh b6;have e1:=Jh (t.Z.own.p.zI q (fun b hb N=>t.Z.own.ps b (.inl hb) N));have e0:=Jh (t.Z.own.m.zI q (fun b hb N=>t.Z.own.ms b (.inl hb) N));have X:Hd (Blk w6 g 35 #[.int .i64 D.P.W, .int .i64 D.P.H, .slice D.P.a D.P.n D.P.c, .int .i64 D.M.W, .int .i64 D.M.H, .slice D.M.a D.M.n D.M.c, .slice D.a D.n D.c]):=Jh ((V.zA l.Z).grown q (fun e=>(y g e.symm).1 rfl));have e7:=Jh ((b5.Z.zA l.Z).grown q (fun e=>by have:=(y _ e.symm).2.2;have:=e5.Z;omega));have d7:=Jh ((zL I.Z l.Z).mono g1 |>.grown q (by have:=(zL I.Z l.Z).size;omega) (fun b hb=>(y b hb).2.1));clear b8 q b3 l V b7 b6;obtain ⟨m0,d0,d1,d2,d3,d4,d5,d6⟩:=X.Z.c7;obtain ⟨f0,f1,f2,f3,f4,f5,f6⟩:=X.Z.f7;obtain ⟨l0,c0,c1,c2⟩:=e7.Z.c3;refine hK.out _ _ (fun _=>by (try dsimp only);exact ⟨d6,c0,c1,c2⟩) (fun hH2=>?_);clear hK K hH2;refine zf 8 (fun K hK=>?_);go_simp;refine hK.out _ _ (fun h=>absurd h (by decide)) (fun hH2=>?_);clear hK K hH2;refine zf 9 (fun K hK=>?_);go_simp;refine hK.out _ _ (fun h=>absurd h (by decide)) (fun hH2=>?_);clear hK K hH2;refine zf 10 (fun K hK=>?_);go_simp;refine hK.out _ _ (fun h=>absurd h (by decide)) (fun hH2=>?_);clear hK K hH2;refine yG (by kernel_rfl) ?_ _;(try go_simp);go_wp2_with fail;go_ret;have gP: ∀b,zO D.P.a=some b->b≠g:=fun b hb=>j.Z.off b (.inl hb);have gM: ∀b,zO D.M.a=some b->b≠g:=fun b hb=>j.Z.off b (.inr (.inl hb))
 have gA: ∀b,OwnV.blocks J (D.ps++ [⟨F,C,u,A,z,T⟩]) b->b≠g:=fun b hb=>by
  rcases U.Z b hb with hb | hb
  exact j.Z.off b (.inr (.inr hb));omega
 refine ⟨⟨D.P,D.M,J,D.n+1,L,D.ps++ [⟨F,C,u,A,z,T⟩]⟩,?_,X.Z.putS _,⟨?_,?_,?_,j.Z.own.pm,fun b hb e=>?_,fun b hb e=>?_⟩,fun b hb=>?_,?_,⟨j.Z.small.p,j.Z.small.m,by show D.n+1<=1048576;omega,fun k hk=>?_⟩,?_⟩;rw [E.Z];rfl;exact e1.Z.zG (fun e=>gP _ e rfl) _;exact e0.Z.zG (fun e=>gM _ e rfl) _;have hk:KeepT (fun i=>i=g) w6 (w6.setCell ⟨g,6,none⟩ (.slice J (D.n+1) L)):=KeepT.set (S:=fun i=>i=g) (KeepT.refl _ w6) rfl _;exact hk.ownV e4.Z (fun i hi e=>gA i hi e);rcases U.Z b hb with hb | hb
 exact j.Z.own.ps b hb e;have:=b1 b (.inl e);omega;rcases U.Z b hb with hb | hb
 exact j.Z.own.ms b hb e;have:=b1 b (.inr (.inl e));omega;rcases hb with hb | hb | hb
 exact gP b hb;exact gM b hb;exact gA b hb;rw [E.Z,<-e3.Z];show (D.P.pic,D.M.pic,zS (D.ps++ [⟨F,C,u,A,z,T⟩]))=_;simp [zS,PV.pic];by_cases e:k<D.ps.length
 show (pv (D.ps++ [⟨F,C,u,A,z,T⟩]) k).n<=1048576;rw [wE e];exact j.Z.small.s k e;obtain rfl:k=D.ps.length:=by simp at hk;omega
 show (pv (D.ps++ [⟨F,C,u,A,z,T⟩]) D.ps.length).n<=1048576;rw [Xa];exact g0;exact d7.Z.setCell b0 _
def xC (F:Dat->Pic->Dat × List UInt8) (d:Dat):Dat × List UInt8:=if d.2.2.length=0 then (d,Ck) else F d (d.2.2.getD (d.2.2.length - 1) xF)
theorem ku.congr {D:Dsk} {F G:Dat->Dat × List UInt8} (h:ku B g D F w e w') (hf:F D.dat=G D.dat):ku B g D G w e w':=by
 unfold ku at h⊢;rw [<-hf];exact h
theorem ku.trans {B g:Nat} {D:Dsk} {F:Dat->Dat × List UInt8} {w v:World} {e:Ending} {w':World} (h:ku B g D F v e w') (hb:Below B w v):ku B g D F w e w':=by
 obtain ⟨E,h1,h2,h3,h4,b,c,a⟩:=h;exact ⟨E,h1,h2,h3,h4,b,c,⟨a.os.trans hb.os,a.tape.trans hb.tape,a.output.trans hb.output,Yx hb.size a.size,fun i hi=>(a.block i hi).trans (hb.block i hi)⟩⟩
set_option maxRecDepth 100000 in
theorem Mh (h:Nat) (A:Array Value) (F:Dat->Pic->Dat × List UInt8) (w:World) (B g:Nat) (D:Dsk) (b:jJ w B g D) (eh: ∀args w,(callFunc h args).run prog w= .ok (.enter h args) w)
 (hc: ∀(k r:Nat),D.n=k+1->D.a=some ⟨r,0,none⟩-> ∀v,BelowL w v->Calls prog h (#[.pointer ↑g, .pointer (some ⟨r,k*3,none⟩)]++A) v (ku B g D (fun d=>F d (pv D.ps k).pic) v)):
 Calls prog 320 #[.func (.func h) #[] A, .pointer ↑g] w (ku B g D (xC F) w):=by
 have l:=Jh b;have y:Blk w g 35 ↑D:=b.box;have j:(zS D.ps).length=D.n:=by rw [kU];exact b.own.s.len
 have X:=b.small.n;obtain ⟨C,M,d1,d2,d3,d4,N,t⟩:=y.c7;by_cases q:D.n=0
 . have E:Hd (xC F D.dat=(D.dat,Ck)):=Jh (by unfold xC;rw [if_pos (by show (zS D.ps).length=0;rw [j,q])])
   have x:((D.n:Int)==0)=true:=by rw [q];rfl
   clear b hc;go_in
   go_wp2
   go_ret;exact l.Z.stay bR (by rw [E.Z]) (by rw [E.Z];rfl)
 obtain ⟨k,hk⟩: ∃k,D.n=k+1:=⟨D.n - 1,om⟩
 obtain ⟨r,hr⟩: ∃r,D.a=some ⟨r,0,none⟩:=by
  rcases b.own.s.row with ⟨_,h0,_⟩ | ⟨r,h1,_⟩
  omega;exact ⟨r,h1⟩
 have J:=Jh (hc k r hk hr)
 have E:Hd (xC F D.dat=F D.dat (pv D.ps k).pic):=Jh (by
  unfold xC;rw [if_neg (by show ¬(zS D.ps).length=0;rw [j];exact q)];show F D.dat ((zS D.ps).getD ((zS D.ps).length - 1) xF)=_
  rw [j,hk,Nat.add_sub_cancel,ZV D.ps k (by rw [b.own.s.len,hk];omega)])
 rw [hk,hr] at t;have x:(((k+1:Nat):Int)==0)=false:=sO;have O:(0:Int)<=(k:Int):=om;have Q:(k:Int)<((k+1:Nat):Int):=om;have T:IntKind.i64.wrap (((k+1:Nat):Int) - 1)=(k:Int):=by rw [Yc _ om];omega
 have U:IntKind.i64.wrap (k:Int)=(k:Int):=Yc _ om;have V:(k:Int)<(k:Int)+1:=om;have KD:=Jh hk;clear b hc j q y M d1 d2 d3 d4 N hk hr;go_in;go_upto_region 3 with fail;have z:Hd (∀v,BelowL w v->Jc v (g,6) (.slice (some ⟨r,0,none⟩) (k+1) D.c)/\BelowL w v):=Jh (fun v h=>⟨(h.Z.cell C).trans t,h⟩);clear C t;refine yA 13 z zK (z.Z _ lS) ?_;intro f;have m:=bE f;refine zP 0 ?_;refine zP 1 ?_;refine zP 2 ?_;refine zP 3 ?_;refine zP 4 ?_;refine zP 5 ?_;refine zP 6 ?_;refine zP 7 ?_;refine zP 8 ?_;refine zP 9 ?_;refine zP 10 ?_;refine zP 11 ?_;refine zP 12 ?_;refine zf 13 (fun K hK=>?_);go_simp
 go_at_fn h
 refine (J.Z _ m).mono ?_;rintro e v1 Y;obtain ⟨I,rfl,u⟩:=Y;have L:Hd (ku B g D (fun d=>F d (pv D.ps k).pic) w (.returned (.string ⟨(F D.dat (pv D.ps k).pic).2.toArray⟩)) v1):=Jh (ku.trans ⟨I,rfl,u⟩ (m.Z.mono l.Z.size));go_wp2_with fail;refine hK.out _ _ (fun h=>absurd h dC) (fun hH2=>?_);clear hK K f hH2;refine zf 14 (fun K hK=>?_);go_simp;refine hK.out _ _ (fun h=>absurd h dC) (fun hH2=>?_);clear hK K hH2;refine yG zK ?_ _;(try go_simp)
 go_wp2
 go_ret;exact L.Z.congr E.Z.symm
end Go.Proofs.YtlenfgdjdianiaaGreatDoor
