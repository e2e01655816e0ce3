/- Facts on which this claim rests, 6. -/
import Derived.Deep.AppendLies
import Derived.Deep.DrawnRows
import Derived.Deep.RegionLaw
import Derived.Test.YtlenfgdjdianiaaGreatDoorG5
set_option linter.all false
set_option maxHeartbeats 6400000
namespace Go.Proofs.YtlenfgdjdianiaaGreatDoor
section
open Go Go.RowKit Tq Go.Proofs.Tryz
variable {G R : Prop}
structure Kp (p:Prop):Prop where
 Z:p
def Nth (i:Nat):Prop:=i=i
section
variable {P : Program} {ops : Array Oper} {Q : Exit → Act → World → Prop} {md : Region.Mode} {S : World → Prop} {n i : Nat} {oi : Oper} {v : Value} {fuel : Nat} {listed : Array Bool} {a : Act} {w : World}
theorem Nw (_:Nth i) (hi:ops[i]? =some oi) (k:Region.noSelect ops=true) (hf:Region.free md ops listed i=true) (hr:(Region.ready md ops listed).contains i=true)
 (e: ∀c a w,Q (.panic c) (a.put oi.dst v) w->Q (.panic c) a w) (l:YieldsIf P ops S oi v a) (f:S w)
 (h:wpAnyH P md ops Q S fuel (listed.setIfInBounds i true) (a.put oi.dst v) w):wpAnyH P md ops Q S (fuel+1) listed a w:=wpAnyH_take hi k hf hr e l f h
theorem zBg (_:Nth i) (hi:ops[i]? =some oi) (k:Region.noSelect ops=true) (hf:Region.free md ops listed i=true) (hr:(Region.ready md ops listed).contains i=true)
 (l:(decide (i<n) && Region.sinkB md ops n && Region.chainB md ops n && decide (n<ops.size) && Nt md ops n listed)=true)
 (e: ∀c a w,Q (.panic c) (a.put oi.dst v) w->Q (.panic c) a w) (m:YieldsIf P ops S oi v a) (f:S w)
 (h:jm P md ops Q S n fuel (listed.setIfInBounds i true) (a.put oi.dst v) w):jm P md ops Q S n (fuel+1) listed a w:=WC hi k hf hr l e m f h
end
theorem zQ (i:Nat) (k:R) (h:Nth i->Kp R->G:=by intro hi hk;(refine' Nw hi (v:=?_) rfl zK zK zK (fun _ _ _ h=>h) (Or.inl ⟨by rfl,?_⟩) aS ?_;rotate_left;(· (intro w hSw;(try dsimp only at hSw);go_simp;try with_reducible rfl));(try simp only [Act.put,List.setIfInBounds_toArray,List.set_cons_zero,List.set_cons_succ]));exact hk.Z):G:=h rfl ⟨k⟩
theorem hTs (i:Nat) (k:R) (h:Nth i->Kp R->G:=by intro hi hk;(refine' Nw hi (v:=?_) rfl zK zK zK (fun _ _ _ h=>h) (Or.inl ⟨by rfl,?_⟩) aS ?_;rotate_left;(· (intro w hSw;(try dsimp only at hSw);go_simp;try with_reducible rfl));(try simp only [Act.put,List.setIfInBounds_toArray,List.set_cons_zero,List.set_cons_succ]));(try simp only [List.getElem_toArray,List.getElem_cons_succ,List.getElem_cons_zero,Act.put,List.setIfInBounds_toArray,List.set_cons_zero,List.set_cons_succ]);exact hk.Z):G:=h rfl ⟨k⟩
theorem jD (i:Nat) (k:R) (h:Nth i->Kp R->G:=by intro hi hk;(refine' Nw hi (v:=undef) rfl zK zK zK (fun _ _ _ h=>h) (Or.inr ⟨by rfl,rfl⟩) aS ?_;(try simp only [Act.put,List.setIfInBounds_toArray,List.set_cons_zero,List.set_cons_succ]));exact hk.Z):G:=h rfl ⟨k⟩
theorem hSs (i:Nat) (k:R) (h:Nth i->Kp R->G:=by intro hi hk;(refine' Nw hi (v:=undef) rfl zK zK zK (fun _ _ _ h=>h) (Or.inr ⟨by rfl,rfl⟩) aS ?_;(try simp only [Act.put,List.setIfInBounds_toArray,List.set_cons_zero,List.set_cons_succ]));(try simp only [List.getElem_toArray,List.getElem_cons_succ,List.getElem_cons_zero,Act.put,List.setIfInBounds_toArray,List.set_cons_zero,List.set_cons_succ]);exact hk.Z):G:=h rfl ⟨k⟩
theorem zP (i:Nat) (k:R) (h:Nth i->Kp R->G:=by intro hi hk;(refine' zBg hi (v:=?_) rfl zK zK zK zK (fun _ _ _ h=>h) (Or.inl ⟨by rfl,?_⟩) aS ?_;rotate_left;(· (intro w hSw;(try dsimp only at hSw);go_simp;try with_reducible rfl));(try simp only [Act.put,List.setIfInBounds_toArray,List.set_cons_zero,List.set_cons_succ]));exact hk.Z):G:=h rfl ⟨k⟩
theorem tTs (i:Nat) (k:R) (h:Nth i->Kp R->G:=by intro hi hk;(refine' zBg hi (v:=?_) rfl zK zK zK zK (fun _ _ _ h=>h) (Or.inl ⟨by rfl,?_⟩) aS ?_;rotate_left;(· (intro w hSw;(try dsimp only at hSw);go_simp;try with_reducible rfl));(try simp only [Act.put,List.setIfInBounds_toArray,List.set_cons_zero,List.set_cons_succ]));(try simp only [List.getElem_toArray,List.getElem_cons_succ,List.getElem_cons_zero,Act.put,List.setIfInBounds_toArray,List.set_cons_zero,List.set_cons_succ]);exact hk.Z):G:=h rfl ⟨k⟩
theorem yE (k:R) (h:Kp R->G:=by
 intro hk;(try simp only [List.getElem_toArray,List.getElem_cons_succ,List.getElem_cons_zero,Act.put,List.setIfInBounds_toArray,List.set_cons_zero,List.set_cons_succ]);exact hk.Z):G:=h ⟨k⟩
section
variable {P : Program} {ops : Array Oper} {Q : Exit → Act → World → Prop} {md : Region.Mode} {S : World → Prop} {n : Nat} {o : Oper} {fuel : Nat} {listed : Array Bool} {a : Act} {w : World}
theorem yI (i:Nat) (h: ∀K':Act->World->Prop,Shut (∀a w,S w->(S w->wpAnyH P md ops Q S fuel (listed.setIfInBounds i true) a w)->K' a w)->if Region.wanted o (yielded ops a.tmps)=true then Oper.wp P o a w K' Q else K' (a.put o.dst undef) w)
 (hr:Region.ready md ops listed=[i]:=by kernel_rfl) (ho:ops[i]? =some o:=by rfl):wpAnyH P md ops Q S (fuel+1) listed a w:=
 wpAnyH_ready hr sI (AllReadyH.cons ho h AllReadyH.nil)
theorem zf (i:Nat) (h: ∀K':Act->World->Prop,Shut (∀a w,(i<n->S w)->((i<n->S w)->jm P md ops Q S n fuel (listed.setIfInBounds i true) a w)->K' a w)->if Region.wanted o (yielded ops a.tmps)=true then Oper.wp P o a w K' Q else K' (a.put o.dst undef) w)
 (hr:Region.ready md ops listed=[i]:=by kernel_rfl) (ho:ops[i]? =some o:=by rfl):jm P md ops Q S n (fuel+1) listed a w:=eO hr ho h
end
end
section
open Go.RowKit Tq Go.Proofs.Tryz
variable {B b g i j : Nat} {E : Prop} {K : Act → World → Prop} {O : Obj} {Q : Exit → Act → World → Prop} {a : Addr} {o : Oper} {ops : Array Oper} {row : Option Nat} {v w : World} {x y : Value}
attribute [local go_sem ↓] Go.wp_at_zero Go.wp_at_succ
theorem BH (d:Int) (w:World):
 Calls prog 193 #[d] w fun e w'=>e= .returned (.bool (decide (-1000<=d/\d<=1000)))/\w=w':=by
 go_in
 go_wp2
 all_goals (go_ret;exact ⟨zV (by first | (simp [*];done) | (simp [*];omega) | (simp;intros;omega)),rfl⟩)
theorem XQ (d:Int) (w:World) (h1:-1000<=d) (h2:d<=1000):
 Calls prog 193 #[d] w fun e w'=>e= .returned (.bool true)/\w=w':=
 (BH d w).mono fun e w' ⟨he,hw⟩=>⟨by rw [he];exact zV (by simp [h1,h2]),hw⟩
theorem Vq (d:Int) (w:World) (h: ¬(-1000<=d/\d<=1000)):
 Calls prog 193 #[d] w fun e w'=>e= .returned (.bool false)/\w=w':=
 (BH d w).mono fun e w' ⟨he,hw⟩=>⟨by rw [he];exact zV (by simpa using h),hw⟩
theorem kM (h:Below B w.drew v):Below B w v:=⟨h.os,h.tape,h.output,h.size,h.block⟩
theorem zh (h:v.cell? (b,j)=some y) (c:g≠b):(v.setCell (g,i) x).cell? (b,j)=some y:=by
 rw [<-h];exact World.cell?_of_block (Below.heap_setCell v _ x b sO)
theorem yF (h:v.cell? a=some y):(v.alloc O).cell? a=some y:=by
 rw [World.cell?_alloc_some _ _ _ (by rw [h];rfl),h]
theorem qM (w:World) (v:Value) (T:Nat):(w.alloc (.cells #[v] T)).cell? w=some v:=(Blk.new w T #[v]).cell 0
theorem xS (h:Below w w v):w.grownBy v row:=⟨h.os,h.tape,h.output,h.size,fun i hi _=>h.block i hi⟩
theorem Ed (W H:Int) (s:Option Addr) (n l:Nat) (xs:List Int) (dx dy:Int) (w:World) (hn:xs.length=n) (ha:Rd w s xs) (hl:n<=↑Zn):
 Calls prog 140 #[.agg #[W,H, .slice s n l],dx,dy] w (VE w (jF W H xs dx dy)):=by
 have A:=Jh hn;have M:=Jh ha;clear hn ha;by_cases hp:yD W H xs=true
 case neg=>
  have c8:yD W H xs=false:=by simpa using hp
  rw [Xd (fun h=>hp h.1)];clear hp;go_in;go_wp2_with fail;refine (xX _ _ _ _ _ xs _ A.Z (by exact (M.Z.alloc _).alloc _) hl).mono ?_;rintro e w1 ⟨rfl,hb⟩;have q:=Jh (nV.trans (hb.mono sO));have m:=Jh (((Blk.new w 32 #[W,H, .slice s n l]).alloc _).zA hb)
  have c:Hd (Blk w1 (w.heap.size+1) 32 ↑Zp):=by
   have h:=(Blk.new (w.alloc (.cells #[W,H, .slice s n l] 32)) 32 ↑Zp).zA hb;exact Jh (by simpa using h)
  obtain ⟨l1,c0,c1,c2⟩:=m.Z.c3;obtain ⟨m1,C,d1,d2⟩:=c.Z.c3;obtain ⟨Y,f1,f2⟩:=c.Z.f3;clear hb;rw [c8]
  go_wp2
  exact bodyPost_ret (v:= .agg ↑Zp) (by simp [results,results140,go_sem,C,d1,d2]) rfl ⟨none,0,0,rfl,oN,om,
   ((q.Z.setCell sD _).setCell sD _).setCell sD _⟩
 by_cases hx:-1000<=dx/\dx<=1000
 case neg=>
  rw [Xd (fun h=>hx ⟨h.2.1,h.2.2.1⟩)];have HX:=Jh hx;clear hx;go_in;go_wp2_with fail;refine (xX _ _ _ _ _ xs _ A.Z (by exact (M.Z.alloc _).alloc _) hl).mono ?_;rintro e w1 ⟨rfl,hb⟩;have q:=Jh (nV.trans (hb.mono sO));have m:=Jh (((Blk.new w 32 #[W,H, .slice s n l]).alloc _).zA hb)
  have c:Hd (Blk w1 (w.heap.size+1) 32 ↑Zp):=by
   have h:=(Blk.new (w.alloc (.cells #[W,H, .slice s n l] 32)) 32 ↑Zp).zA hb;exact Jh (by simpa using h)
  obtain ⟨l1,c0,c1,c2⟩:=m.Z.c3;obtain ⟨m1,C,d1,d2⟩:=c.Z.c3;obtain ⟨Y,f1,f2⟩:=c.Z.f3;clear hb;rw [hp];go_wp2_with fail;refine (Vq _ _ HX.Z).mono ?_;rintro e w2 ⟨rfl,rfl⟩
  go_wp2
  exact bodyPost_ret (v:= .agg ↑Zp) (by simp [results,results140,go_sem,C,d1,d2]) rfl ⟨none,0,0,rfl,oN,om,
   ((q.Z.setCell sD _).setCell sD _).setCell sD _⟩
 obtain ⟨I,J⟩:=hx;by_cases hy:-1000<=dy/\dy<=1000
 case neg=>
  rw [Xd (fun h=>hy ⟨h.2.2.2.1,h.2.2.2.2⟩)];have HY:=Jh hy;clear hy;go_in;go_wp2_with fail;refine (xX _ _ _ _ _ xs _ A.Z (by exact (M.Z.alloc _).alloc _) hl).mono ?_;rintro e w1 ⟨rfl,hb⟩;have q:=Jh (nV.trans (hb.mono sO));have m:=Jh (((Blk.new w 32 #[W,H, .slice s n l]).alloc _).zA hb)
  have c:Hd (Blk w1 (w.heap.size+1) 32 ↑Zp):=by
   have h:=(Blk.new (w.alloc (.cells #[W,H, .slice s n l] 32)) 32 ↑Zp).zA hb;exact Jh (by simpa using h)
  obtain ⟨l1,c0,c1,c2⟩:=m.Z.c3;obtain ⟨m1,C,d1,d2⟩:=c.Z.c3;obtain ⟨Y,f1,f2⟩:=c.Z.f3;clear hb;rw [hp];go_wp2_with fail;refine (XQ _ _ I J).mono ?_;rintro e w2 ⟨rfl,rfl⟩;go_wp2_with fail;refine (Vq _ _ HY.Z).mono ?_;rintro e w2 ⟨rfl,rfl⟩
  go_wp2
  exact bodyPost_ret (v:= .agg ↑Zp) (by simp [results,results140,go_sem,C,d1,d2]) rfl ⟨none,0,0,rfl,oN,om,
   ((q.Z.setCell sD _).setCell sD _).setCell sD _⟩
 obtain ⟨V,X⟩:=hy;rw [Hu A.Z hp I J V X];obtain ⟨F,hq,hi,hd⟩:=jh A.Z hp;obtain ⟨b1,b2,b3,b4,b5,b6⟩:=kI F;obtain ⟨HQ,HI,HD,HS⟩:=JG hq hi hd F;have d6:1<=n:=om;have c5:n<=256:=om;clear hq hi F hd;go_in;go_wp2_with fail;refine (xX _ _ _ _ _ xs _ A.Z (by exact (M.Z.alloc _).alloc _) hl).mono ?_;rintro e w1 ⟨rfl,hb⟩;have q:=Jh (nV.trans (hb.mono sO));have m:=Jh (((Blk.new w 32 #[W,H, .slice s n l]).alloc _).zA hb)
 have c:Hd (Blk w1 (w.heap.size+1) 32 ↑Zp):=by
  have h:=(Blk.new (w.alloc (.cells #[W,H, .slice s n l] 32)) 32 ↑Zp).zA hb;exact Jh (by simpa using h)
 obtain ⟨l1,c0,c1,c2⟩:=m.Z.c3;obtain ⟨m1,C,d1,d2⟩:=c.Z.c3;obtain ⟨Y,f1,f2⟩:=c.Z.f3;clear hb;rw [hp];go_wp2_with fail;refine (XQ _ _ I J).mono ?_;rintro e d3 ⟨rfl,rfl⟩;go_wp2_with fail;refine (XQ _ _ V X).mono ?_;rintro e d3 ⟨rfl,rfl⟩;go_wp2_with fail;refine (Zk W H n _ HS.Z HQ.Z).mono ?_;rintro e w2 ⟨g,rfl,hg,t,hb⟩;obtain ⟨z,T,U,HO⟩:=JG (q.Z.trans (hb.mono q.Z.size)) (m.Z.zA hb) (c.Z.zA hb) t;have u:Hd (w1.heap.size<=g):=Jh hg;clear hb hg t c0 c1 c2 C d1 d2 Y f1 f2;obtain ⟨l2,c0,c1,c2⟩:=T.Z.c3
 go_wp2
 go_loopw [31] (fun i wr=> ∃k:Nat,k<=n/\i=↑k/\Own wr g n n (zy (gen n (vP W H xs dx dy)) (List.replicate n 0) k)/\(w2.alloc (.cells #[W,H, .slice ↑g n n] 32)).grownBy wr (some g)) (fun i _=>n - (intOf i).toNat)
 exact ⟨0,nZ,rfl,by rw [xB];exact HO.Z.alloc _,yU _ _⟩;obtain ⟨k,hk,rfl,t,hg⟩:=hrel;have N:=Jh ((z.Z.alloc z.Z.size _).grown hg (oS z.Z.size) (by intro k hk;cases hk;have:=u.Z;omega));have KO:=Jh ((Blk.new w2 32 #[W,H, .slice ↑g n n]).grown hg (oS HO.Z.lt));obtain ⟨l0,o0,o1,o2⟩:=KO.Z.c3;have KP:=Jh ((T.Z.alloc _).grown hg (oT u.Z m.Z.lt));obtain ⟨L,p0,p1,p2⟩:=KP.Z.c3;by_cases D:k<n
 . have e1:0<=(k:Int) % W:=Yg _ om
   have e2:(k:Int) % W<W:=Ye _ om;have e3:0<=(k:Int)/W:=Yw om om;have e4:(k:Int)/W<=k:=Int.ediv_le_self _ om;have g2:wr.cell? (g,k)=some ↑((zy (gen n (vP W H xs dx dy)) (List.replicate n 0) k).getD k 0):=t.cell D;have g3:wr.frozen? (g,k)=false:=t.frozen k;have gl:=t.lt;have b7:=Jh t;clear t;have d4:(W==0)=false:=sO;have d5: ¬W=0:=om;have N1:g≠w.heap.size:=by have:=u.Z;have:=c.Z.lt;omega
   have N2:g≠w2.heap.size:=by have:=HO.Z.lt;omega
   go_wp2
   go_region_held3 (fun v=>JB v w W H (.slice s n l) (Jc v (w2,2) (.slice ↑g n n)))
    (first | exact ⟨p0,p1,p2,o2⟩ | exact ⟨(f.cell L).trans p0,(f.cell L).trans p1,(f.cell L).trans p2,(f.cell l0).trans o2⟩ | exact ⟨zh y0 N1,zh y1 N1,zh y2 N1,zh y3 N2⟩)
    (first
     | (go_at_call 194;((with_reducible refine (ZP W H s n l xs _ _ _ A.Z (by exact (M.Z.below N.Z).of_heap rfl) HQ.Z b1 b3 c5 b2 b4).mono ?_);rintro e v1 ⟨rfl,f⟩;have y0:=(f.cell L).trans p0;have y1:=(f.cell L).trans p1;have y2:=(f.cell L).trans p2;have y3:=(f.cell l0).trans o2;have t2:=(f.cell gl).trans g2;have t3:=(f.frozen gl).trans g3)))
   have hv:(gen n (vP W H xs dx dy)).getD k 0=vV W H xs ((k:Int) % W - dx) ((k:Int)/W - dy):=yY _ _ _ D;have F:=((b7.Z.drewN 1).below f gl).set k (vV W H xs ((k:Int) % W - dx) ((k:Int)/W - dy));rw [yx (gen n (vP W H xs dx dy)) _ k _ (by rw [zk];exact D) sO hv] at F;have b8:=Jh F;have c4:=zY hg (xS (row:=some g) (kM f));clear F hv hg
   go_wp2
   go_roundw
   . exact ⟨k+1,om,by go_num,b8.Z,yX c4 _⟩
   exact Jm
 obtain rfl:n=k:=om;have KR:=Jh ((U.Z.alloc _).grown hg (oT u.Z U.Z.lt));obtain ⟨r0,r1,r2,r3⟩:=KR.Z.c3;obtain ⟨q0,q1,q2⟩:=KR.Z.f3;rw [jC (gen n (vP W H xs dx dy)) _ n (by rw [zk]) sI] at t;have b0:=Jh t;clear t
 go_wp2
 exact bodyPost_ret (v:= .agg #[W,H, .slice ↑g n n]) (by simp [results,results140,go_sem,r1,r2,r3]) rfl
  ⟨_,_,_,rfl,OwnA.mk (((b0.Z.other (oS u.Z) _).other (oS u.Z) _).other (oS u.Z) _) (oh u),om,
   ((N.Z.setCell sD _).setCell sD _).setCell sD _⟩
theorem wK (w:World) {a:Act}
 (m:o.guard=none) (s x:Operand) (q:o.op= .call {callee:= .builtin .append,args:=#[s,x],argTypes:=#[22,22]})
 (B n f:Nat) (l:Option Addr) (xs:List Int) (I:a.eval s= .slice l n f) (H:OwnA w B l n f xs) (g:Nat) (v:Int) (J:a.eval x= .slice ↑g 1 1)
 (hc:w.cell? g=some ↑v) (hn:n<=1048576) (F:B<=w.heap.size)
 (hK: ∀e c w',OwnA w' B e (n+1) c (xs++ [v])->w.grownBy w' (zO l)->K (a.put o.dst (.slice e (n+1) c)) w'):
 if Region.wanted o (yielded ops a.tmps)=true then Oper.wp prog o a w K Q else E:=by
 have hw:Region.wanted o (yielded ops a.tmps)=true:=by simp [Region.wanted,m]
 rw [if_pos hw];obtain ⟨i,hi,t,z,A⟩:=info_parts YN;refine wp_append_own w s x 22 q B 3 i ↑Z0 1 8 underlying22 hi t z A rfl dC _ n (xs.map (Value.int .i64)) I H.toRow ↑g 1 1 [↑v] J rfl ?_ ?_ (by unfold maxLen;omega) om F ?_;intro j u k
 match j,k with
 | 0,k=>simp at k;subst k;simpa [Addr.add] using hc
 intro u C;simp at C;subst C;rfl;intro L w' h2 h3 _;have h4:w'.ownsRow B 3 1 L (n+1) ((xs++ [v]).map (Value.int .i64)):=by simpa using h2
 obtain ⟨e,c,rfl,D⟩:=OwnA.ofRow h4;rw [Zi] at h3;exact hK e c w' D h3
theorem Vf (W H:Int) (ad:Option Addr) (n J:Nat) (xs:List Int) (dx dy:Int) (w:World) (hn:xs.length=n) (ha:Rd w ad xs) (hl:n<=↑Zn):
 Calls prog 64 #[.agg #[W,H, .slice ad n J],dx,dy] w (VE w (jF W H xs dx dy)):=by
 have HN:=Jh hn;have HA:=Jh ha;clear hn ha;by_cases hp:yD W H xs=true
 case neg=>
  have e5:yD W H xs=false:=by simpa using hp
  rw [Xd (fun h=>hp h.1)];clear hp;go_in;go_wp2_with fail;refine (jA _ _ _ _ _ xs _ HN.Z (by exact (HA.Z.alloc _).alloc _) hl).mono ?_;rintro e w1 ⟨rfl,hb⟩;have N:=Jh (nV.trans (hb.mono sO));have L:=Jh (((Blk.new w 32 #[W,H, .slice ad n J]).alloc _).zA hb)
  have F:Hd (Blk w1 (w.heap.size+1) 32 ↑Zp):=by
   have h:=(Blk.new (w.alloc (.cells #[W,H, .slice ad n J] 32)) 32 ↑Zp).zA hb;exact Jh (by simpa using h)
  obtain ⟨l1,c0,c1,c2⟩:=L.Z.c3;obtain ⟨m1,d0,d1,d2⟩:=F.Z.c3;obtain ⟨f0,f1,f2⟩:=F.Z.f3;clear hb;rw [e5]
  go_wp2
  exact bodyPost_ret (v:= .agg ↑Zp) (by simp [results,results64,go_sem,d0,d1,d2]) rfl ⟨none,0,0,rfl,oN,om,
   ((N.Z.setCell sD _).setCell sD _).setCell sD _⟩
 by_cases hx:-1000<=dx/\dx<=1000
 case neg=>
  rw [Xd (fun h=>hx ⟨h.2.1,h.2.2.1⟩)];have HX:=Jh hx;clear hx;go_in;go_wp2_with fail;refine (jA _ _ _ _ _ xs _ HN.Z (by exact (HA.Z.alloc _).alloc _) hl).mono ?_;rintro e w1 ⟨rfl,hb⟩;have N:=Jh (nV.trans (hb.mono sO));have L:=Jh (((Blk.new w 32 #[W,H, .slice ad n J]).alloc _).zA hb)
  have F:Hd (Blk w1 (w.heap.size+1) 32 ↑Zp):=by
   have h:=(Blk.new (w.alloc (.cells #[W,H, .slice ad n J] 32)) 32 ↑Zp).zA hb;exact Jh (by simpa using h)
  obtain ⟨l1,c0,c1,c2⟩:=L.Z.c3;obtain ⟨m1,d0,d1,d2⟩:=F.Z.c3;obtain ⟨f0,f1,f2⟩:=F.Z.f3;clear hb;rw [hp];go_wp2_with fail;refine (kD _ _ _ _ HX.Z).mono ?_;rintro e w2 ⟨rfl,rfl⟩
  go_wp2
  exact bodyPost_ret (v:= .agg ↑Zp) (by simp [results,results64,go_sem,d0,d1,d2]) rfl ⟨none,0,0,rfl,oN,om,
   ((N.Z.setCell sD _).setCell sD _).setCell sD _⟩
 obtain ⟨c8,d3⟩:=hx;by_cases hy:-1000<=dy/\dy<=1000
 case neg=>
  rw [Xd (fun h=>hy ⟨h.2.2.2.1,h.2.2.2.2⟩)];have HY:=Jh hy;clear hy;go_in;go_wp2_with fail;refine (jA _ _ _ _ _ xs _ HN.Z (by exact (HA.Z.alloc _).alloc _) hl).mono ?_;rintro e w1 ⟨rfl,hb⟩;have N:=Jh (nV.trans (hb.mono sO));have L:=Jh (((Blk.new w 32 #[W,H, .slice ad n J]).alloc _).zA hb)
  have F:Hd (Blk w1 (w.heap.size+1) 32 ↑Zp):=by
   have h:=(Blk.new (w.alloc (.cells #[W,H, .slice ad n J] 32)) 32 ↑Zp).zA hb;exact Jh (by simpa using h)
  obtain ⟨l1,c0,c1,c2⟩:=L.Z.c3;obtain ⟨m1,d0,d1,d2⟩:=F.Z.c3;obtain ⟨f0,f1,f2⟩:=F.Z.f3;clear hb;rw [hp];go_wp2_with fail;refine (yJ _ _ _ _ c8 d3).mono ?_;rintro e w2 ⟨rfl,rfl⟩;go_wp2_with fail;refine (kD _ _ _ _ HY.Z).mono ?_;rintro e w2 ⟨rfl,rfl⟩
  go_wp2
  exact bodyPost_ret (v:= .agg ↑Zp) (by simp [results,results64,go_sem,d0,d1,d2]) rfl ⟨none,0,0,rfl,oN,om,
   ((N.Z.setCell sD _).setCell sD _).setCell sD _⟩
 obtain ⟨d7,d8⟩:=hy;rw [Hu HN.Z hp c8 d3 d7 d8];obtain ⟨hs,hq,hi,hd⟩:=jh HN.Z hp;obtain ⟨b1,b2,b3,b4,b5,b6⟩:=kI hs;obtain ⟨HQ,HI,HD,HS⟩:=JG hq hi hd hs;have f5:1<=n:=om;have d5:n<=256:=om;clear hq hi hs hd;go_in;go_wp2_with fail;refine (jA _ _ _ _ _ xs _ HN.Z (by exact (HA.Z.alloc _).alloc _) hl).mono ?_;rintro e w1 ⟨rfl,hb⟩;have N:=Jh (nV.trans (hb.mono sO));have L:=Jh (((Blk.new w 32 #[W,H, .slice ad n J]).alloc _).zA hb)
 have F:Hd (Blk w1 (w.heap.size+1) 32 ↑Zp):=by
  have h:=(Blk.new (w.alloc (.cells #[W,H, .slice ad n J] 32)) 32 ↑Zp).zA hb;exact Jh (by simpa using h)
 obtain ⟨l1,c0,c1,c2⟩:=L.Z.c3;obtain ⟨m1,d0,d1,d2⟩:=F.Z.c3;obtain ⟨f0,f1,f2⟩:=F.Z.f3;clear hb;rw [hp];go_wp2_with fail;refine (yJ _ _ _ _ c8 d3).mono ?_;rintro e e6 ⟨rfl,rfl⟩;go_wp2_with fail;refine (yJ _ _ _ _ d7 d8).mono ?_;rintro e e6 ⟨rfl,rfl⟩
 go_wp2
 go_loopw [31] (fun i wr=> ∃(k:Nat) (Y:Option Addr) (M:Nat),k<=n/\i=↑k/\OwnA wr (w1.heap.size+1) Y k M (gen k (vP W H xs dx dy))/\Blk wr (w1.heap.size) 32 #[(W),(H), .slice Y k M]/\Below (w1.heap.size) (w1) wr) (fun i _=>n - (intOf i).toNat)
 exact ⟨0,none,0,nZ,rfl,oN,by first | exact Blk.new _ _ _ | exact Blk.zD _ _ sI,by first | exact nJ | exact bR.alloc sI _⟩;obtain ⟨k,Y,M,hk,rfl,ho,d4,d6⟩:=hrel;obtain ⟨HO,KB,HW⟩:=JF ho d4 d6;obtain ⟨l0,o0,o1,o2⟩:=KB.Z.c3;clear ho d4 d6;have c5:=Jh (N.Z.trans (HW.Z.mono (og N.Z.size)));have KP:=Jh (L.Z.below HW.Z L.Z.lt);obtain ⟨l9,U,V,X⟩:=KP.Z.c3;by_cases f4:k<n
 . have e1:0<=(k:Int) % W:=Yg _ om
   have e2:(k:Int) % W<W:=Ye _ om;have e3:0<=(k:Int)/W:=Yw om om;have e4:(k:Int)/W<=k:=Int.ediv_le_self _ om;have e7:(W==0)=false:=sO;have e8: ¬W=0:=om;go_wp2_with fail;have l:w1.heap.size≠w.heap.size:=by have:=L.Z.lt;omega
   have LP:=L.Z.lt;refine wp_region_held_drew (S:=fun v=>JA v w W H (.slice ad n J)) zK ⟨U,V,X⟩ ?_;intro c;refine zQ 0 ?_;refine zQ 2 ?_;refine zQ 3 ?_;refine zQ 4 ?_;refine zQ 5 ?_;refine zQ 6 ?_;refine zQ 7 ?_;refine zQ 8 ?_;refine zQ 9 ?_;refine zQ 10 ?_;refine zQ 11 ?_;refine zQ 12 ?_;refine zQ 13 ?_;refine zQ 14 ?_;refine wpAnyH_ready (rs:=[1,15]) zK sI ?_;refine AllReadyH.cons rfl (fun K hK=>?_) (AllReadyH.cons rfl (fun K hK=>?_) AllReadyH.nil)
   . go_simp
     refine hK.out _ _ ?_ (fun c=>?_)
     ((try dsimp only);first | exact ⟨U,V,X⟩ | exact ⟨z,A,C⟩ | exact ⟨yF z,yF A,yF C⟩ | exact ⟨z0,q,z2⟩ | exact ⟨zh z0 l,zh q l,zh z2 l⟩)
     clear hK K;refine yI 15 (fun K hK=>?_);go_simp
     go_at_call 88
     ((with_reducible refine (qP W H ad n J xs _ _ _ HN.Z (by exact (HA.Z.below c5.Z).of_heap rfl) HQ.Z b1 b3 d5 b2 b4).mono ?_);rintro e v1 ⟨rfl,m⟩);have z:=(m.cell l9).trans U;have A:=(m.cell l9).trans V;have C:=(m.cell l9).trans X;have y3:=(m.cell l0).trans o2;have D:=Jh (HO.Z.drew.zA m);have I:=Jh (KB.Z.drew.zA m);have lv:=I.Z.lt;go_wp2_with fail;refine hK.out _ _ ?_ (fun c=>?_)
     ((try dsimp only);first | exact ⟨U,V,X⟩ | exact ⟨z,A,C⟩ | exact ⟨yF z,yF A,yF C⟩ | exact ⟨z0,q,z2⟩ | exact ⟨zh z0 l,zh q l,zh z2 l⟩)
     clear hK K;refine yI 16 (fun K hK=>?_);go_simp;refine hK.out _ _ ?_ (fun c=>?_)
     ((try dsimp only);first | exact ⟨U,V,X⟩ | exact ⟨z,A,C⟩ | exact ⟨yF z,yF A,yF C⟩ | exact ⟨z0,q,z2⟩ | exact ⟨zh z0 l,zh q l,zh z2 l⟩)
     clear hK K;refine yI 17 (fun K hK=>?_);refine wK _ (by rfl) (.tmp 35) (.tmp 50) (by rfl) (w1.heap.size+1) k M Y (gen k (vP W H xs dx dy)) (by rfl) (D.Z.alloc _) v1.heap.size _ (by rfl) (qM _ _ _) om (oS I.Z.lt) ?_;intro t f w5 T u;have c4:=Jh (uD D.Z u (KP.Z.drew.zA m) om);obtain ⟨l6,z0,q,z2⟩:=c4.Z.c3;have s:=Jh (uD D.Z u I.Z om);obtain ⟨l5,t0,t1,t2⟩:=s.Z.c3;obtain ⟨f0,f1,f2⟩:=s.Z.f3;refine hK.out _ _ ?_ (fun c=>?_)
     ((try dsimp only);first | exact ⟨U,V,X⟩ | exact ⟨z,A,C⟩ | exact ⟨yF z,yF A,yF C⟩ | exact ⟨z0,q,z2⟩ | exact ⟨zh z0 l,zh q l,zh z2 l⟩)
     clear hK K;refine zQ 18 ?_;refine yI 19 (fun K hK=>?_);go_simp;refine hK.out _ _ ?_ (fun c=>?_)
     ((try dsimp only);first | exact ⟨U,V,X⟩ | exact ⟨z,A,C⟩ | exact ⟨yF z,yF A,yF C⟩ | exact ⟨z0,q,z2⟩ | exact ⟨zh z0 l,zh q l,zh z2 l⟩)
     clear hK K;refine wpAnyH_done zK ?_ _;have b8:=Jh (HW.Z.trans ((kM m).mono (by have:=KB.Z.lt;have e0:wr.drew.heap.size=wr.heap.size:=rfl;omega)));have b7:=Jh (qw D.Z u b8.Z om (og I.Z.lt));have b0:Hd (OwnA w5 (w1.heap.size+1) t (k+1) f (gen (k+1) (vP W H xs dx dy))):=Jh (by rw [<-vv];refine cast (congrArg (fun (v:Int)=>OwnA w5 (w1.heap.size+1) t (k+1) f (gen k (vP W H xs dx dy)++ [v])) ?_) T;(first | rfl | (unfold vP;rw [Yl om,Yc ((k:Int)/W) om,Yc ((k:Int) % W - dx) om,Yc ((k:Int)/W - dy) om])));clear T u
     go_wp2
     go_roundw
     . exact ⟨k+1,t,f,om,by go_num,b0.Z.other sI _,by first | exact s.Z.set 2 _ | (have h:=s.Z.set 2 (.slice t (k+1) f);simpa using h),b7.Z.setCell sI _⟩
     exact Jm
   go_simp
   go_at_call 88
   ((with_reducible refine (qP W H ad n J xs _ _ _ HN.Z (by exact (HA.Z.below c5.Z).of_heap rfl) HQ.Z b1 b3 d5 b2 b4).mono ?_);rintro e v1 ⟨rfl,m⟩);have z:=(m.cell l9).trans U;have A:=(m.cell l9).trans V;have C:=(m.cell l9).trans X;have y3:=(m.cell l0).trans o2;have D:=Jh (HO.Z.drew.zA m);have I:=Jh (KB.Z.drew.zA m);have lv:=I.Z.lt;go_wp2_with fail;refine hK.out _ _ ?_ (fun c=>?_)
   ((try dsimp only);first | exact ⟨U,V,X⟩ | exact ⟨z,A,C⟩ | exact ⟨yF z,yF A,yF C⟩ | exact ⟨z0,q,z2⟩ | exact ⟨zh z0 l,zh q l,zh z2 l⟩)
   clear hK K;refine wpAnyH_ready (rs:=[1,16]) zK sI ?_;refine AllReadyH.cons rfl (fun K hK=>?_) (AllReadyH.cons rfl (fun K hK=>?_) AllReadyH.nil)
   . go_simp
     refine hK.out _ _ ?_ (fun c=>?_)
     ((try dsimp only);first | exact ⟨U,V,X⟩ | exact ⟨z,A,C⟩ | exact ⟨yF z,yF A,yF C⟩ | exact ⟨z0,q,z2⟩ | exact ⟨zh z0 l,zh q l,zh z2 l⟩)
     clear hK K;refine yI 16 (fun K hK=>?_);go_simp;refine hK.out _ _ ?_ (fun c=>?_)
     ((try dsimp only);first | exact ⟨U,V,X⟩ | exact ⟨z,A,C⟩ | exact ⟨yF z,yF A,yF C⟩ | exact ⟨z0,q,z2⟩ | exact ⟨zh z0 l,zh q l,zh z2 l⟩)
     clear hK K;refine yI 17 (fun K hK=>?_);refine wK _ (by rfl) (.tmp 35) (.tmp 50) (by rfl) (w1.heap.size+1) k M Y (gen k (vP W H xs dx dy)) (by rfl) (D.Z.alloc _) v1.heap.size _ (by rfl) (qM _ _ _) om (oS I.Z.lt) ?_;intro t f w5 T u;have c4:=Jh (uD D.Z u (KP.Z.drew.zA m) om);obtain ⟨l6,z0,q,z2⟩:=c4.Z.c3;have s:=Jh (uD D.Z u I.Z om);obtain ⟨l5,t0,t1,t2⟩:=s.Z.c3;obtain ⟨f0,f1,f2⟩:=s.Z.f3;refine hK.out _ _ ?_ (fun c=>?_)
     ((try dsimp only);first | exact ⟨U,V,X⟩ | exact ⟨z,A,C⟩ | exact ⟨yF z,yF A,yF C⟩ | exact ⟨z0,q,z2⟩ | exact ⟨zh z0 l,zh q l,zh z2 l⟩)
     clear hK K;refine zQ 18 ?_;refine yI 19 (fun K hK=>?_);go_simp;refine hK.out _ _ ?_ (fun c=>?_)
     ((try dsimp only);first | exact ⟨U,V,X⟩ | exact ⟨z,A,C⟩ | exact ⟨yF z,yF A,yF C⟩ | exact ⟨z0,q,z2⟩ | exact ⟨zh z0 l,zh q l,zh z2 l⟩)
     clear hK K;refine wpAnyH_done zK ?_ _;have b8:=Jh (HW.Z.trans ((kM m).mono (by have:=KB.Z.lt;have e0:wr.drew.heap.size=wr.heap.size:=rfl;omega)));have b7:=Jh (qw D.Z u b8.Z om (og I.Z.lt));have b0:Hd (OwnA w5 (w1.heap.size+1) t (k+1) f (gen (k+1) (vP W H xs dx dy))):=Jh (by rw [<-vv];refine cast (congrArg (fun (v:Int)=>OwnA w5 (w1.heap.size+1) t (k+1) f (gen k (vP W H xs dx dy)++ [v])) ?_) T;(first | rfl | (unfold vP;rw [Yl om,Yc ((k:Int)/W) om,Yc ((k:Int) % W - dx) om,Yc ((k:Int)/W - dy) om])));clear T u
     go_wp2
     go_roundw
     . exact ⟨k+1,t,f,om,by go_num,b0.Z.other sI _,by first | exact s.Z.set 2 _ | (have h:=s.Z.set 2 (.slice t (k+1) f);simpa using h),b7.Z.setCell sI _⟩
     exact Jm
   go_simp;refine hK.out _ _ ?_ (fun c=>?_)
   ((try dsimp only);first | exact ⟨U,V,X⟩ | exact ⟨z,A,C⟩ | exact ⟨yF z,yF A,yF C⟩ | exact ⟨z0,q,z2⟩ | exact ⟨zh z0 l,zh q l,zh z2 l⟩)
   clear hK K;refine yI 1 (fun K hK=>?_);go_simp;refine hK.out _ _ ?_ (fun c=>?_)
   ((try dsimp only);first | exact ⟨U,V,X⟩ | exact ⟨z,A,C⟩ | exact ⟨yF z,yF A,yF C⟩ | exact ⟨z0,q,z2⟩ | exact ⟨zh z0 l,zh q l,zh z2 l⟩)
   clear hK K;refine yI 17 (fun K hK=>?_);refine wK _ (by rfl) (.tmp 35) (.tmp 50) (by rfl) (w1.heap.size+1) k M Y (gen k (vP W H xs dx dy)) (by rfl) (D.Z.alloc _) v1.heap.size _ (by rfl) (qM _ _ _) om (oS I.Z.lt) ?_;intro t f w5 T u;have c4:=Jh (uD D.Z u (KP.Z.drew.zA m) om);obtain ⟨l6,z0,q,z2⟩:=c4.Z.c3;have s:=Jh (uD D.Z u I.Z om);obtain ⟨l5,t0,t1,t2⟩:=s.Z.c3;obtain ⟨f0,f1,f2⟩:=s.Z.f3;refine hK.out _ _ ?_ (fun c=>?_)
   ((try dsimp only);first | exact ⟨U,V,X⟩ | exact ⟨z,A,C⟩ | exact ⟨yF z,yF A,yF C⟩ | exact ⟨z0,q,z2⟩ | exact ⟨zh z0 l,zh q l,zh z2 l⟩)
   clear hK K;refine zQ 18 ?_;refine yI 19 (fun K hK=>?_);go_simp;refine hK.out _ _ ?_ (fun c=>?_)
   ((try dsimp only);first | exact ⟨U,V,X⟩ | exact ⟨z,A,C⟩ | exact ⟨yF z,yF A,yF C⟩ | exact ⟨z0,q,z2⟩ | exact ⟨zh z0 l,zh q l,zh z2 l⟩)
   clear hK K;refine wpAnyH_done zK ?_ _;have b8:=Jh (HW.Z.trans ((kM m).mono (by have:=KB.Z.lt;have e0:wr.drew.heap.size=wr.heap.size:=rfl;omega)));have b7:=Jh (qw D.Z u b8.Z om (og I.Z.lt));have b0:Hd (OwnA w5 (w1.heap.size+1) t (k+1) f (gen (k+1) (vP W H xs dx dy))):=Jh (by rw [<-vv];refine cast (congrArg (fun (v:Int)=>OwnA w5 (w1.heap.size+1) t (k+1) f (gen k (vP W H xs dx dy)++ [v])) ?_) T;(first | rfl | (unfold vP;rw [Yl om,Yc ((k:Int)/W) om,Yc ((k:Int) % W - dx) om,Yc ((k:Int)/W - dy) om])));clear T u
   go_wp2
   go_roundw
   . exact ⟨k+1,t,f,om,by go_num,b0.Z.other sI _,by first | exact s.Z.set 2 _ | (have h:=s.Z.set 2 (.slice t (k+1) f);simpa using h),b7.Z.setCell sI _⟩
   exact Jm
 obtain rfl:n=k:=om;have KR:=Jh (F.Z.below HW.Z F.Z.lt);obtain ⟨r0,r1,r2,r3⟩:=KR.Z.c3;obtain ⟨q0,q1,q2⟩:=KR.Z.f3
 go_wp2
 exact bodyPost_ret (v:= .agg #[(W),(H), .slice Y _ M]) (by simp [results,results64,go_sem,r1,r2,r3]) rfl
  ⟨_,_,_,rfl,(((HO.Z.other (by simp;try omega) _).other (by simp;try omega) _).other (by simp;try omega) _).mono (by have:=c5.Z.size;try simp;omega),om,
   ((c5.Z.setCell sD _).setCell sD _).setCell sD _⟩
end
end Go.Proofs.YtlenfgdjdianiaaGreatDoor
