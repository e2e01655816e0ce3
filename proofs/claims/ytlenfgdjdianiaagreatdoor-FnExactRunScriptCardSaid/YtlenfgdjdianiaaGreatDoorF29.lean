/- Facts on which this claim rests, 29. -/
import Derived.Test.YtlenfgdjdianiaaGreatDoorF27
import Derived.Test.YtlenfgdjdianiaaGreatDoorF28
set_option linter.all false
set_option maxHeartbeats 6400000
namespace Go.Proofs.YtlenfgdjdianiaaGreatDoor
open Go.RowKit Tq Go.Proofs.Tryz
variable {B B2 T cap fuel g gc gi i j n : Nat} {E b c e f : Prop} {H W : Int} {K : Act → World → Prop} {Q : Exit → Act → World → Prop} {S2 : Nat → Prop} {a : Act} {ad : Option Addr} {cs : Array Value} {listed : Array Bool} {o o' : Oper} {ops : Array Oper} {w : World} {xs : List Int}
theorem zHu (h: ¬zP W H xs 255=true):wl W H xs=yb:=by unfold wl;rw [if_neg h]
theorem Qw (h:zP W H xs 255=true) (hn:(n:Int)=W*H):wl W H xs=⟨W,H,gen n (fun j=>xs.getD (uk W (j:Nat)).toNat 0)⟩:=by
 unfold wl;rw [if_pos h,<-hn];rfl
theorem UH (W H:Int) (ad:Option Addr) (n cap:Nat) (xs:List Int) (w:World) (hn:xs.length=n) (ha:Rd w ad xs) (hl:n<=9223372036854775807):
 Calls prog 92 #[.agg #[W,H, .slice ad n cap]] w (jl w (wl W H xs)):=by
 have C:=Jh hn;have M:=Jh ha;clear hn ha;by_cases hp:zP W H xs 255=true
 case neg=>
  have V:zP W H xs 255=false:=by simpa using hp
  rw [zHu hp];clear hp;go_in;go_wp2_with fail;refine (yT _ _ _ _ _ xs _ C.Z (by exact (M.Z.alloc _).alloc _) hl).mono ?_;rintro e w1 ⟨rfl,hb⟩;have s:=Jh (nV.trans (hb.mono sO));have q:=Jh (((Blk.new w 31 #[W,H, .slice ad n cap]).alloc _).zA hb)
  have l:Hd (Blk w1 (w.heap.size+1) 31 ↑Zp):=by
   have h:=(Blk.new (w.alloc (.cells #[W,H, .slice ad n cap] 31)) 31 ↑Zp).zA hb;exact Jh (by simpa using h)
  obtain ⟨l1,c0,c1,c2⟩:=q.Z.c3;obtain ⟨m1,R,d1,d2⟩:=l.Z.c3;obtain ⟨f0,f1,f2⟩:=l.Z.f3;clear hb;rw [V];go_wp2_with fail
  exact bodyPost_ret (v:= .agg ↑Zp) (by simp [results,results92,go_sem,R,d1,d2]) rfl ⟨none,0,0,rfl,oN,om,
   ((s.Z.setCell sD _).setCell sD _).setCell sD _⟩
 obtain ⟨z,hq,hi⟩:=yH C.Z hp;obtain ⟨b1,b2,b3,b4,b5,b6⟩:=yF z;have D:=Jh hq;have HI:=Jh hi;have HS:=Jh z;have b7:1<=n:=om;have b8:n<=1024:=om;clear hq hi z;rw [Qw hp D.Z];have O:=Jh (zNe b1 D.Z);go_in;go_wp2_with fail;refine (yT _ _ _ _ _ xs _ C.Z (by exact (M.Z.alloc _).alloc _) hl).mono ?_;rintro e w1 ⟨rfl,hb⟩;have s:=Jh (nV.trans (hb.mono sO));have q:=Jh (((Blk.new w 31 #[W,H, .slice ad n cap]).alloc _).zA hb)
 have l:Hd (Blk w1 (w.heap.size+1) 31 ↑Zp):=by
  have h:=(Blk.new (w.alloc (.cells #[W,H, .slice ad n cap] 31)) 31 ↑Zp).zA hb;exact Jh (by simpa using h)
 obtain ⟨l1,c0,c1,c2⟩:=q.Z.c3;obtain ⟨m1,R,d1,d2⟩:=l.Z.c3;obtain ⟨f0,f1,f2⟩:=l.Z.f3;clear hb;rw [hp];go_wp2_with fail;refine (jZ W H n _ HS.Z D.Z).mono ?_;rintro e w2 ⟨g,rfl,hg,m,hb⟩;have u:=Jh (s.Z.trans (hb.mono s.Z.size));have F:=Jh (q.Z.zA hb);have G:=Jh (l.Z.zA hb);have X:=Jh m;have x:Hd (w1.heap.size<=g):=Jh hg;clear hb hg m c0 c1 c2 R d1 d2 f0 f1 f2;obtain ⟨l2,c0,c1,c2⟩:=F.Z.c3;go_wp2_with fail
 go_loopw [18] (fun i wr=> ∃(k:Nat) (L:List Int),k<=n/\i=↑k/\Own wr g n n L/\Hd (∀i,i<k->L.getD ((fun (i:Nat)=>(uk W (i:Nat)).toNat) i) 0=xs.getD i 0)/\(w2.alloc (.cells #[W,H, .slice ↑g n n] 31)).grownBy wr (some g)) (fun i _=>n - (intOf i).toNat)
 case atStart=>exact ⟨0,_,nZ,rfl,X.Z.alloc _,(fun i hi=>absurd hi om),yR _ _⟩
 obtain ⟨k,L,hk,rfl,m,Y,hg⟩:=hrel;have A:=Jh ((u.Z.alloc u.Z.size _).grown hg (oS u.Z.size) (by intro k hk;cases hk;have:=x.Z;omega));have KO:=Jh ((Blk.new w2 31 #[W,H, .slice ↑g n n]).grown hg (oS X.Z.lt));obtain ⟨l0,o0,o1,o2⟩:=KO.Z.c3;have KP:=Jh ((F.Z.alloc _).grown hg (oT x.Z q.Z.lt));obtain ⟨l9,p0,p1,p2⟩:=KP.Z.c3;by_cases J:k<n
 . obtain ⟨ba,oa,U,b0,I⟩:=(M.Z.below A.Z).at (oh C)
   have h1:=I (k) (oh C);subst U;clear I;have e1:0<=(k:Int) % W:=Yg _ om;have e2:(k:Int) % W<W:=Ye _ om;have e3:0<=(k:Int)/W:=Yw om om;have e4:(k:Int)/W<=k:=Int.ediv_le_self _ om;obtain ⟨T0,T1,_,T2,T4⟩:=zFK (W:=W) (H:=H) (i:=(k:Int)) b1 om (oh D);unfold uk at T0 T1;have T3:(k:Int)/W*W+W - 1 - (k:Int) % W<n:=by have:=D.Z;omega
   clear T1;have g2:wr.cell? (g,((k:Int)/W*W+W - 1 - (k:Int) % W).toNat)=some ↑(L.getD ((k:Int)/W*W+W - 1 - (k:Int) % W).toNat 0):=m.cell om;have g3:wr.frozen? (g,((k:Int)/W*W+W - 1 - (k:Int) % W).toNat)=false:=m.frozen _;have z:=m.set ((k:Int)/W*W+W - 1 - (k:Int) % W).toNat (xs[k]?.getD 0);have y:=Jh z;have HL:=Jh m.len;clear z m;go_wp2_with fail
   go_region
   go_wp2_with fail;go_roundw
   case rel=>exact ⟨k+1,_,om,by go_num,(by first | exact y.Z | exact y.Z.drewN 1 | exact y.Z.drewN _),zLz (t:=(fun (i:Nat)=>(uk W (i:Nat)).toNat)) (zQZ (inv:=(fun (j:Nat)=>(uk W (j:Nat)).toNat)) (O.Z) J) Y.Z (by rw [HL.Z];exact ((O.Z) k J).1) (by simp [List.getD]),(by first | exact yO hg _ | exact xc (yO hg _) _)⟩
   exact Jm
 obtain rfl:n=k:=om;have KR:=Jh ((G.Z.alloc _).grown hg (oT x.Z G.Z.lt));obtain ⟨r0,r1,r2,r3⟩:=KR.Z.c3;obtain ⟨q0,q1,q2⟩:=KR.Z.f3;rw [zLy ((fun (j:Nat)=>(uk W (j:Nat)).toNat)) m.len (O.Z) Y.Z] at m;have N:=Jh m;clear m;go_wp2_with fail
 exact bodyPost_ret (v:= .agg #[W,H, .slice ↑g n n]) (by simp [results,results92,go_sem,r1,r2,r3]) rfl
  ⟨_,_,_,rfl,OwnA.mk (((N.Z.other (oS x.Z) _).other (oS x.Z) _).other (oS x.Z) _) (oh x),om,
   ((A.Z.setCell sD _).setCell sD _).setCell sD _⟩
theorem zNT:(prog.info? 3).map (·.size)=some 1:=zK
theorem zQD (w:World) {rest:List Oper}
 (C:o.guard=none) (d s:Operand) (F:o.op= .call {callee:= .builtin .copy,args:=#[d,s],argTypes:=#[22,22]})
 (g n cap off q x:Nat) (ad:Addr) (t y:Nat) (A m:List Int) (hd:a.eval d= .slice (some ↑(g,off)) q x) (R:a.eval s= .slice (some ad) t y)
 (O:Own w g n cap A) (U:m.length=Nat.min t q) (z: ∀j,j<m.length->w.cell? (ad.add j)=some (.int .i64 (m.getD j 0))) (G:off+m.length<=n)
 (hK: ∀w',Own w' g n cap (splice A off m)->w.grownBy w' (some g)->wpList prog ops Q rest (a.put o.dst (goInt m.length)) w'):
 wpList prog ops Q (o::rest) a w:=by
 obtain ⟨hl,u,hg,h1,h2,h3,J⟩:=O;have N:u.toList.length=cap:=by simp [h3]
 refine wpList_copy_own C d s 22 22 F 3 underlying22 zNT g off q x ad t y hd R u 3 hg (m.map (Value.int .i64)) (by simpa using U) ?_ sO (ints_oneCell _ _) ?_;intro j v hv;have I:j<m.length:=by have:=(List.getElem?_eq_some_iff.1 hv).1;simpa using this
 rw [z j I,<-hv];simp [List.getD,I];rw [List.length_map];refine hK _ ⟨?_,_,setRow_heap w g _ _ _ _ hg,h1,h2,?_,?_⟩ ⟨rfl,rfl,rfl,by simp [World.setRow],fun k hk D=>setRow_other w g k _ (fun e=>D (by rw [e]))⟩;rw [length_splice _ _ _ om];exact hl;simp;omega;simp only [List.length_map]
 have L:u.toList.take off=(A.take off).map (Value.int .i64):=by
  rw [List.map_take,<-J,List.take_take,Nat.min_eq_left om]
 have M:(u.toList.drop (off+m.length)).take (n - (off+m.length))=(A.drop (off+m.length)).map (Value.int .i64):=by
  rw [List.map_drop,<-J,List.drop_take]
 simp only [splice,List.map_append,<-L,<-M];rw [List.take_append,Yk sO,List.take_append,Yk (l:=List.map _ m) sO];congr 2;simp only [Yj,List.length_map];congr 1;omega
theorem zJS (l k:List Int) (h:k.length=l.length):splice l 0 k=k:=by
 simp [splice,List.drop_of_length_le (show l.length<=k.length by omega)]
theorem ql (W H:Int) (ad:Option Addr) (n cap:Nat) (xs:List Int) (w:World) (hn:xs.length=n) (ha:Rd w ad xs) (I:yM W H=true) (M:(n:Int)=W*H):
 Calls prog 165 #[.agg #[W,H, .slice ad n cap]] w fun e w'=> ∃g,e= .returned (.agg #[W,H, .slice (some ⟨g,0,none⟩) n n])/\w.heap.size<=g/\Own w' g n n xs/\Below w w w':=by
 have x:=Jh hn;have N:=Jh ha;clear hn ha;obtain ⟨b1,b2,b3,b4,b5,b6⟩:=yF I;have O:=Jh M;have R:=Jh I;have Y:1<=n:=om;have b0:n<=1024:=om;clear M I;go_in;go_wp2_with fail;refine (jw W H n _ R.Z O.Z).mono ?_;rintro e w2 ⟨g,rfl,hg,L,hb⟩;have m:=Jh (nV.trans (hb.mono sO));have D:=Jh (((Blk.new w 31 #[W,H, .slice ad n cap]).alloc _).zA hb)
 have F:Hd (Blk w2 (w.heap.size+1) 31 ↑Zp):=by
  have h:=(Blk.new (w.alloc (.cells #[W,H, .slice ad n cap] 31)) 31 ↑Zp).zA hb;exact Jh (by simpa using h)
 have J:=Jh L;have s:Hd (w.heap.size+1+1<=g):=Jh (by simpa using hg);clear hb L hg;obtain ⟨l2,c0,c1,c2⟩:=D.Z.c3;obtain ⟨U,oa,G,V,u⟩:=(N.Z.below m.Z).at (oh x);have y:=Jh u;subst G;clear u;go_wp2_with (with_reducible refine zQD _ rfl (.tmp 10) (.tmp 12) rfl g n n 0 n n ↑(U,oa) n cap (List.replicate n 0) xs rfl rfl ?_ ?_ ?_ ?_ ?_);exact J.Z.alloc _;have:=x.Z;simp [this]
 . intro j X
   have:=y.Z j X;rw [Addr.add_lit];go_simp
 have:=x.Z;omega;intro w3 q l;rw [zJS _ _ (by simp [x.Z])] at q;have A:=Jh q;have z:=Jh ((zJ m.Z _).grown l (zJ m.Z _).size (by intro k hk;cases hk;have:=s.Z;omega));have t:=Jh ((F.Z.alloc _).grown l (oS s.Z));have C:=Jh ((Blk.new w2 31 #[W,H, .slice (some ⟨g,0,none⟩) n n]).grown l (oS J.Z.lt));obtain ⟨k0,k1,k2,k3⟩:=C.Z.c3;obtain ⟨r0,r1,r2,r3⟩:=t.Z.c3;obtain ⟨q0,q1,q2⟩:=t.Z.f3;clear q l c0 c1 c2;go_wp2_with fail
 exact bodyPost_ret (v:= .agg #[W,H, .slice (some ⟨g,0,none⟩) n n]) (by simp [results,results165,go_sem,r1,r2,r3]) rfl
  ⟨_,rfl,by have:=s.Z;omega,(((A.Z.other (oS s.Z) _).other (oS s.Z) _).other (oS s.Z) _),
   ((z.Z.setCell sI _).setCell sI _).setCell sI _⟩
def qM (ys:List Int) (off m k:Nat):List Int:=
 gen ys.length (fun p=>if off<=p/\p<off+m/\(p<off+k\/off+m<p+1+k) then ys.getD (2*off+m - 1 - p) 0 else ys.getD p 0)
theorem JW (l:List Int) (off m k:Nat):(qM l off m k).length=l.length:=zZ _ _
theorem zLo (k:List Int) (off m:Nat):qM k off m 0=k:=by
 symm;refine xk _ _ _ rfl (fun p hp=>?_);rw [if_neg om]
theorem JV (l:List Int) (off m k p:Nat) (hp:p<l.length):(qM l off m k).getD p 0=if off<=p/\p<off+m/\(p<off+k\/off+m<p+1+k) then l.getD (2*off+m - 1 - p) 0 else l.getD p 0:=yN _ _ _ hp
theorem zLn (l:List Int) (off m k j:Nat) (h1:off+m<=l.length) (h2:k+j+1=m) (h3:k<j):
 ((qM l off m k).set (off+k) ((qM l off m k).getD (off+j) 0)).set (off+j) ((qM l off m k).getD (off+k) 0)=qM l off m (k+1):=by
 refine xk _ _ _ (by simp [JW]) (fun p hp=>?_);rw [kw _ _ _ _ (by simp [JW];omega),kw _ _ _ _ (by rw [JW];omega),JV _ _ _ _ (off+k) om,JV _ _ _ _ (off+j) om,JV _ _ _ _ p hp];by_cases q:off+j=p
 subst q;rw [if_pos rfl,if_neg om,if_pos om];congr 1;omega;rw [if_neg q];by_cases s:off+k=p
 subst s;rw [if_pos rfl,if_neg om,if_pos om];congr 1;omega;rw [if_neg s];by_cases c:off<=p/\p<off+m/\(p<off+k\/off+m<p+1+k)
 rw [if_pos c,if_pos om];rw [if_neg c,if_neg om]
theorem zGl (g n cap off m c:Nat) (s:List Int) (w:World) (l:Own w g n cap s) (h1:off+m<=n) (h2:1<=m) (h3:n<=1048576):
 Calls prog 166 #[.slice (some ↑(g,off)) m c] w fun e w'=>e= .returned (.tuple #[])/\(∃k,m<=2*k+1/\k<=m/\Own w' g n cap (qM s off m k))/\w.grownBy w' (some g):=by
 have z:=Jh l;clear l;go_in;go_wp2_with fail
 go_loopw [2,3] (fun i j wr=> ∃k q:Nat,k+q+1<=m/\m<=k+q+1/\i= .int .i64 k/\j=↑q/\Own wr g n cap (qM s off m k)/\w.grownBy wr (some g)) (fun i _ _=>m - (intOf i).toNat)
 case atStart=>exact ⟨0,m - 1,om,om,rfl,by go_num,by rw [zLo];exact z.Z,yR _ _⟩
 obtain ⟨k,q,A,C,rfl,rfl,l,hg⟩:=hrel;by_cases x:k<q
 . have c1:wr.cell? ⟨g,off+k,none⟩=some (.int .i64 ((qM s off m k).getD (off+k) 0)):=l.cell om
   have c2:wr.cell? (g,off+q)=some (.int .i64 ((qM s off m k).getD (off+q) 0)):=l.cell om;have F:wr.frozen? ⟨g,off+k,none⟩=false:=l.frozen _;have G:wr.frozen? (g,off+q)=false:=l.frozen _;have D:off+k≠off+q:=om;have y:=(l.set (off+k) ((qM s off m k).getD (off+q) 0)).set (off+q) ((qM s off m k).getD (off+k) 0);rw [zLn s off m k q (og z.Z.len) om x] at y;have u:=Jh y;have v:=yO (j:=off+q) (yO (j:=off+k) hg (.int .i64 ((qM s off m k).getD (off+q) 0))) (.int .i64 ((qM s off m k).getD (off+k) 0));have t:=Jh v;clear y l v hg;go_wp2_with fail
   go_region
   go_wp2_with fail;go_roundw
   case rel=>exact ⟨k+1,q - 1,om,om,by go_num,by go_num,(by first | exact u.Z.drewN 1 | (have h:=u.Z;simp at h;exact h.drewN 1)),(by first | exact xc t.Z 1 | (have h:=t.Z;simp at h;exact xc h 1))⟩
   exact Jm
 go_wp2_with fail
 go_end0
 exact ⟨rfl,⟨k,om,om,l⟩,hg⟩
section
variable {P : Program} {ops : Array Oper} {Q : Exit → Act → World → Prop} {md : Region.Mode} {S : World → Prop} {n : Nat}
theorem vm (hr:Region.ready md ops listed=[i,j]) (v:ops[i]? =some o) (s:ops[j]? =some o')
 (h: ∀k:Act->World->Prop,Shut (∀a w,(i<n->S w)->((i<n->S w)->kM P md ops Q S n fuel (listed.setIfInBounds i true) a w)->k a w)->if Region.wanted o (yielded ops a.tmps)=true then Oper.wp P o a w k Q else k (a.put o.dst undef) w)
 (u: ∀k:Act->World->Prop,Shut (∀a w,(j<n->S w)->((j<n->S w)->kM P md ops Q S n fuel (listed.setIfInBounds j true) a w)->k a w)->if Region.wanted o' (yielded ops a.tmps)=true then Oper.wp P o' a w k Q else k (a.put o'.dst undef) w):
 kM P md ops Q S n (fuel+1) listed a w:=
 Js hr sI (fun q x=>by
  have t:q=i\/q=j:=by simpa using x
  rcases t with rfl | rfl
  exact wpOp_step v (fun k hK=>h k (fun a w l m=>hK a w ⟨l,m l⟩))
  exact wpOp_step s (fun k hK=>u k (fun a w l m=>hK a w ⟨l,m l⟩)))
end
theorem YG (w:World)
 (k:o.guard=none) (l c:Operand) (m:o.op=Op.makeSlice 22 l c) (v u:IntKind) (n:Nat) (hl:a.eval l= .int v (n:Int)) (hc:a.eval c= .int u (n:Int)) (hn:n<=17592186044416)
 (hK: ∀M:Array Value,Zk M n (List.replicate n 0)->K (a.put o.dst (.slice ↑w n n)) (w.alloc (.cells M 3))):
 if Region.wanted o (yielded ops a.tmps)=true then Oper.wp prog o a w K Q else E:=by
 have hw:Region.wanted o (yielded ops a.tmps)=true:=by simp [Region.wanted,k]
 rw [if_pos hw];obtain ⟨i,hi,q,s,t⟩:=info_parts qD;have hr:=run_make (P:=prog) w 22 3 i ↑Z0 underlying22 hi q v u n n om (Int.le_refl _) (by rw [t];omega) om;simp only [Yu,s,Nat.mul_one] at hr;have hm:=Zk.zero n (by unfold maxLen;omega);unfold Oper.wp;simp only [Value.cells] at hr;simp [execOp,m,hl,hc,hr,Result.andThen];exact hK _ hm
structure Keep6 (S:Nat->Prop) (w w':World):Prop where
 os:w'.os=w.os
 tape:w'.tape=w.tape
 output:w'.output=w.output
 size:w.heap.size<=w'.heap.size
 block: ∀i,i<w.heap.size-> ¬S i->w'.heap[i]? =w.heap[i]?
namespace Keep6
variable {S : Nat → Prop} {w w' w2 : World}
theorem refl (S:Nat->Prop) (w:World):Keep6 S w w:=⟨rfl,rfl,rfl,nI,fun _ _ _=>rfl⟩
theorem trans (h:Keep6 S w w') (k:Keep6 S w' w2):Keep6 S w w2:=
 ⟨k.os.trans h.os,k.tape.trans h.tape,k.output.trans h.output,Yx h.size k.size,fun i hi l=>(k.block i (Yb hi h.size) l).trans (h.block i hi l)⟩
theorem zE (h:Below w w w'):Keep6 S w w':=⟨h.os,h.tape,h.output,h.size,fun i hi _=>h.block i hi⟩
theorem below (h:Keep6 S w w') (k: ∀i,S i->B<=i) (m:B<=w.heap.size):Below B w w':=
 ⟨h.os,h.tape,h.output,h.size,fun i hi=>h.block i om (fun l=>by have:=k i l;omega)⟩
theorem set (h:Keep6 S w w') {a:Addr} (ha:S a.block) (u:Value):Keep6 S w (w'.setCell a u):=
 ⟨h.os,h.tape,h.output,by simpa [World.setCell] using h.size,fun i hi k=>(Below.heap_setCell w' a u i (fun e=>k (by rw [e];exact ha))).trans (h.block i hi k)⟩
theorem alloc (h:Keep6 S w w') (o:Obj):Keep6 S w (w'.alloc o):=h.trans (zE (Joins.below_alloc1 w' o))
theorem drew (h:Keep6 S w w'):Keep6 S w w'.drew:=⟨h.os,h.tape,h.output,h.size,h.block⟩
theorem call (h:Keep6 S w w') (hb:Below w' w' w2):Keep6 S w w2:=h.trans (zE hb)
theorem blk (h:Keep6 S w w') (hb:Blk w g T cs) (k: ¬S g):Blk w' g T cs:=hb.of_block (h.block g hb.lt k)
theorem own (h:Keep6 S w w') (hb:Own w g n cap xs) (k: ¬S g):Own w' g n cap xs:=hb.of_block (h.block g hb.lt k)
theorem mono (h:Keep6 S w w') (k: ∀i,S i->S2 i):Keep6 S2 w w':=⟨h.os,h.tape,h.output,h.size,fun i hi h2=>h.block i hi (fun h3=>h2 (k i h3))⟩
theorem rd (h:Keep6 S w w') (hr:Rd w ad xs) (l: ∀a,ad=some a-> ¬S a.block):Rd w' ad xs:=fun k hk=>by
 obtain ⟨b,off,h1,h2,h3⟩:=hr k hk;exact ⟨b,off,h1,Yb h2 h.size,(World.cell?_of_block (by exact h.block b h2 (l _ h1))).trans h3⟩
end Keep6
structure FSt (w:World) (B f gi gc:Nat) (W H:Int) (n:Nat) (xs cs:List Int):Prop where
 hf:B<=f
 hi:B<=gi
 hc:B<=gc
 n1:f≠gi
 n2:f≠gc
 n3:gi≠gc
 box:Blk w f 208 #[.int .i64 W, .int .i64 H, .slice (some ⟨gi,0,none⟩) n n, .slice (some ⟨gc,0,none⟩) n n]
 ink:Own w gi n n xs
 crowds:Own w gc n n cs
def Duo (gi gc:Nat) (i:Nat):Prop:=i=gi\/i=gc
namespace FSt
variable {w w' : World} {B f gi gc : Nat} {W H : Int} {n : Nat} {xs cs : List Int}
theorem below (h:FSt w B f gi gc W H n xs cs) (hb:Below w w w'):FSt w' B f gi gc W H n xs cs:=
 ⟨h.hf,h.hi,h.hc,h.n1,h.n2,h.n3,h.box.zA hb,h.ink.below hb h.ink.lt,h.crowds.below hb h.crowds.lt⟩
theorem alloc (h:FSt w B f gi gc W H n xs cs) (o:Obj):FSt (w.alloc o) B f gi gc W H n xs cs:=h.below (Joins.below_alloc1 w o)
theorem mono (h:FSt w B f gi gc W H n xs cs) (k:B2<=B):FSt w B2 f gi gc W H n xs cs:=
 ⟨Yx k h.hf,Yx k h.hi,Yx k h.hc,h.n1,h.n2,h.n3,h.box,h.ink,h.crowds⟩
theorem keep {S:Nat->Prop} (h:FSt w B f gi gc W H n xs cs) (hk:Keep6 S w w') (h1: ¬S f) (h2: ¬S gi) (h3: ¬S gc):FSt w' B f gi gc W H n xs cs:=
 ⟨h.hf,h.hi,h.hc,h.n1,h.n2,h.n3,hk.blk h.box h1,hk.own h.ink h2,hk.own h.crowds h3⟩
theorem lts (h:FSt w B f gi gc W H n xs cs):f<w.heap.size/\gi<w.heap.size/\gc<w.heap.size:=⟨h.box.lt,h.ink.lt,h.crowds.lt⟩
theorem cells (h:FSt w B f gi gc W H n xs cs):f<w.heap.size/\JB w f W H (.slice ↑gi n n) (Jc w (f,3) (.slice ↑gc n n)):=
 ⟨h.box.lt,by rw [h.box.cell];rfl,by rw [h.box.cell];rfl,by rw [h.box.cell];rfl,by rw [h.box.cell];rfl⟩
end FSt
set_option maxRecDepth 100000 in
theorem YU (W H:Int) (ad:Option Addr) (n cap:Nat) (xs:List Int) (w:World) (hn:xs.length=n) (ha:Rd w ad xs) (hok:zf W H xs=true):
 Calls prog 230 #[.agg #[W,H, .slice ad n cap]] w fun e w'=> ∃f gi gc,e= .returned (.pointer (some ⟨f,0,none⟩))/\FSt w' w f gi gc W H n xs (gen n (yA W H xs))/\Below w w w':=by
 have HN:=Jh hn;have HA:=Jh ha;clear hn ha;obtain ⟨b1,b2,b3,b4,b5,b6,b7,b8,b9⟩:=xn HN.Z hok;have B5:=Jh b5;have B8:=Jh b8;have B9:=Jh b9;clear b5 b8 b9;clear hok;go_in;go_upto_region 1 with fail;have KP:=Jh (Blk.new w 31 #[W,H, .slice ad n cap]);have HB:=Jh (Joins.below_alloc1 w (.cells #[W,H, .slice ad n cap] 31));have RP:=Jh (HA.Z.alloc (.cells #[W,H, .slice ad n cap] 31));obtain ⟨wo,hwo⟩:=zN (w.alloc (.cells #[W,H, .slice ad n cap] 31):World);have ZO:Hd (wo.heap.size=w.heap.size+1):=Jh (by rw [hwo];simp);rw [<-hwo] at KP HB RP⊢;clear hwo
 go_cut [3] (fun s3 wz=> ∃(wx:World) (f gi gc:Nat),wx=wz/\s3= .pointer (some ⟨f,0,none⟩)/\FSt wx wo f gi gc W H n xs (List.replicate n 0)/\Below wo wo wx)
 case first=>
  obtain ⟨l0,o0,o1,o2⟩:=KP.Z.c3;have MK:Hd (∀v,BelowL wo v->Jc v w W/\Jc v (JE w 1) H/\Jc v (JE w 2) (.slice ad n cap)/\BelowL wo v):=Jh (fun v hB=>⟨(hB.Z.cell l0).trans o0,(hB.Z.cell l0).trans o1,(hB.Z.cell l0).trans o2,hB⟩);refine wp_region_held_drew (S:=fun v=>Jc v w W/\Jc v (JE w 1) H/\Jc v (JE w 2) (.slice ad n cap)/\BelowL wo v) zK (MK.Z _ lS) ?_;intro hHeld;have hb0:=wK hHeld;refine zO 0 ?_;refine zO 2 ?_;refine zO 3 ?_;refine zO 4 ?_;refine wpAnyH_ready (rs:=[1,5]) zK sI ?_;refine AllReadyH.cons rfl (fun K hK=>?_) (AllReadyH.cons rfl (fun K hK=>?_) AllReadyH.nil)
  . go_simp
    go_at_call 165
    ((with_reducible refine (ql W H ad n cap xs _ HN.Z (by exact RP.Z.below hb0.Z) B9.Z B5.Z).mono ?_);rintro e v1 ⟨gi,rfl,hgi,hoi,hq1⟩);have hb1:=BelowL.call hb0 hq1;go_wp2_with fail;refine hK.out _ _ (Jd (MK.Z _ hb1)) (fun hHeld=>?_);clear hK K;refine zy 5 (fun K hK=>?_);refine YG _ rfl (.tmp 10) (.tmp 10) rfl .i64 .i64 n rfl rfl om ?_;intro M hM;have hb2:=BelowL.alloc hb1 (.cells M 3);refine hK.out _ _ (Jd (MK.Z _ hb2)) (fun hHeld=>?_);clear hK K;refine zO 6 ?_;refine zy 7 (fun K hK=>?_);go_simp;have hb3:=BelowL.alloc hb2 (.cells #[W,H, .slice (some ⟨gi,0,none⟩) n n, .slice ↑v1 n n] 208);refine hK.out _ _ (Jd (MK.Z _ hb3)) (fun hHeld=>?_);clear hK K;refine zO 8 ?_;refine wpAnyH_done zK ?_ _;(try go_simp);go_wp2_with fail;go_meet;have li:=hoi.lt;have h1:=hb1.le;refine ⟨_,_,gi,v1.heap.size,rfl,rfl,⟨?_,?_,h1,?_,?_,?_,Blk.zD _ _ sI,(hoi.alloc _).alloc _,(hM.own v1).alloc _⟩,hb3.Z⟩
    . (try simp);omega
    . exact hgi
    . (try simp);omega
    . (try simp);(try omega)
    . omega
  . refine YG _ rfl (.tmp 10) (.tmp 10) rfl .i64 .i64 n rfl rfl om ?_
    intro M hM;have hbS:=BelowL.alloc hb0 (.cells M 3);have hb1:BelowL wo (wo.alloc (.cells M 3)).drew:=BelowL.mk (zJ (Below.refl wo wo) (.cells M 3)).drew;refine hK.out _ _ (Jd (MK.Z _ hbS)) (fun hHeld=>?_);clear hK K;refine zy 1 (fun K hK=>?_);go_simp
    go_at_call 165
    ((with_reducible refine (ql W H ad n cap xs _ HN.Z (by exact ((RP.Z.alloc (.cells M 3)).drew)) B9.Z B5.Z).mono ?_);rintro e v1 ⟨gi,rfl,hgi,hoi,hq1⟩);have hb2:=BelowL.call hb1 hq1;go_wp2_with fail;refine hK.out _ _ (Jd (MK.Z _ hb2)) (fun hHeld=>?_);clear hK K;refine zO 6 ?_;refine zy 7 (fun K hK=>?_);go_simp;have hb3:=BelowL.alloc hb2 (.cells #[W,H, .slice (some ⟨gi,0,none⟩) n n, .slice ↑wo n n] 208);refine hK.out _ _ (Jd (MK.Z _ hb3)) (fun hHeld=>?_);clear hK K;refine zO 8 ?_;refine wpAnyH_done zK ?_ _;(try go_simp);go_wp2_with fail;go_meet;have li:=hoi.lt;have h2:=hb2.le;have zd:(wo.alloc (.cells M 3)).drew.heap.size=wo.heap.size+1:=by show (wo.alloc (.cells M 3)).heap.size=_;simp
    have hm2:=Own.below ((hM.own wo).drewN 1) hq1 (by show wo.heap.size<(wo.alloc (.cells M 3)).drew.heap.size;omega);have lm:=hm2.lt;have hgi2:wo.heap.size+1<=gi:=by rw [<-zd];exact hgi
    refine ⟨_,_,gi,wo.heap.size,rfl,rfl,⟨?_,?_,nI,?_,?_,?_,Blk.new _ _ _,(hoi.alloc _),hm2.alloc _⟩,hb3.Z⟩
    . omega
    . omega
    . omega
    . omega
    . omega
 case rest=>
  obtain ⟨wx,f,gi,gc,rfl,rfl,hf,hb⟩:=hcut;have HF:=Jh hf;have HWB:=Jh hb;have KP:=Jh (KP.Z.zA hb);have RP:=Jh (RP.Z.below hb);clear hf hb;obtain ⟨l0,o0,o1,o2⟩:=KP.Z.c3;go_wp2_with fail;refine (zGf W H ad n cap xs _ HN.Z (by exact RP.Z) (Or.inr ⟨b1,by simp only [];omega,b3,by simp only [];omega,by simp only [];rw [HN.Z];exact B5.Z,by simp only [];rw [HN.Z];exact b6⟩)).mono ?_;rintro e w3 ⟨sa,d,sc,rfl,hd,ho,hb⟩;have HD:=Jh hd;have HFX:Hd (gc<wx.heap.size):=Jh HF.Z.lts.2.2;have HF:=Jh (HF.Z.below hb);have HWB:=Jh (zI HWB.Z hb);have KP:=Jh (KP.Z.zA hb);have HBd:Hd (∀a,sa=some a->wx.heap.size<=a.block):=Jh (fun a ha=>(ho.bd a.block (by rw [ha];rfl)).1);have RS:=Jh ho.rd;have CI:=Jh (fun (k:Nat) (hk:k<n) (v:World)=>QC W H ad n cap k v b1 om B5.Z b6 hk);have CW:=Jh (fun (k:Nat) (hk:k<n) (v:World) hr=>zEw W H ad sa n cap d sc k (kJ xs n) v b1 b2 b3 b4 B5.Z b6 hk (fun j hj=>(zNp.1 hj).1) HD.Z (zB (zFQ xs n) HD.Z) hr);have CE:=Jh (fun k=>zMM W H xs k n);have CG:Hd (∀k,yA W H xs k=xd W H xs k n):=Jh (fun k=>by unfold yA;rw [HN.Z]);obtain ⟨ls,hls⟩: ∃ls,kJ xs n=ls:=⟨_,rfl⟩
  rw [hls] at CW CE RS;clear hd ho hb hls l0 o0 o1 o2;obtain ⟨lf,p0,p1,p2,p3⟩:=HF.Z.cells;go_wp2_with fail
  go_loopw [21] (fun i wr=> ∃k:Nat,k<=n/\i= .int .i64 k/\Hd (Own wr gc n n (zn (gen n (yA W H xs)) (List.replicate n 0) k))/\Hd (Keep6 (fun i=>i=gc) w3 wr)) (fun i _=>n - (intOf i).toNat)
  case atStart=>exact ⟨0,nZ,rfl,Jh (by rw [yh];exact HF.Z.crowds),Jh (Keep6.refl _ _)⟩
  case round=>
   obtain ⟨k,hk,rfl,HO,HK⟩:=hrel;by_cases hlt:k<n
   . have KPr:=Jh (HK.Z.blk KP.Z (zB HF.Z.hc ZO.Z))
     have KFr:=Jh (HK.Z.blk HF.Z.box HF.Z.n2);have RSr:=Jh (HK.Z.rd RS.Z (fun a ha e=>by have:=HBd.Z a ha;have:=HFX.Z;omega));have C1:=Jh (CI.Z k hlt);have C2:=Jh (CW.Z k hlt);obtain ⟨P,hP⟩: ∃P,(k:Int) % W=P:=⟨_,rfl⟩
     obtain ⟨Q,hQ⟩: ∃Q,(k:Int)/W=Q:=⟨_,rfl⟩
     rw [hP,hQ] at C1 C2;have hs:=yd (gen n (yA W H xs)) (List.replicate n 0) k _ (by rw [zZ];exact hlt) sO (yN _ _ _ hlt);rw [CG.Z,<-CE.Z] at hs;obtain ⟨C,hC⟩: ∃C,qO W H k ls=C:=⟨_,rfl⟩
     rw [hC] at hs C2;have HS:=Jh hs;clear hs hP hQ hC lf p0 p1 p2 p3;obtain ⟨l0,o0,o1,o2⟩:=KPr.Z.c3;have lf:=KFr.Z.lt;have p3:wr.cell? ⟨f,3,none⟩=some (.slice (some ⟨gc,0,none⟩) n n):=by rw [KFr.Z.cell];rfl
     go_upto_region 6 with fail;have MK:Hd (∀v,BelowL wr v->Jc v w W/\Jc v (JE w 1) H/\Jc v (JE w 2) (.slice ad n cap)/\v.cell? ⟨f,3,none⟩=some (.slice (some ⟨gc,0,none⟩) n n)/\BelowL wr v):=Jh (fun v hB=>⟨(hB.Z.cell l0).trans o0,(hB.Z.cell l0).trans o1,(hB.Z.cell l0).trans o2,(hB.Z.cell lf).trans p3,hB⟩);refine zh 12 (fun v=>Jc v w W/\Jc v (JE w 1) H/\Jc v (JE w 2) (.slice ad n cap)/\v.cell? ⟨f,3,none⟩=some (.slice (some ⟨gc,0,none⟩) n n)/\BelowL wr v) zK (MK.Z _ lS) ?_;intro hHeld;have hb0:=ZM hHeld;refine zM 0 ?_;refine zM 1 ?_;refine zM 2 ?_;refine zM 3 ?_;refine zM 4 ?_;refine zM 5 ?_;refine zM 6 ?_;refine zM 7 ?_;refine zM 8 ?_;refine zW 9 (fun K hK=>?_);go_simp
     go_at_call 269
     ((with_reducible refine (C1.Z _).mono ?_);rintro e v1 ⟨rfl,hq1⟩);have hb1:=BelowL.call hb0 hq1;go_wp2_with fail;refine hK.out _ _ (fun _=>Jd (MK.Z _ hb1)) (fun hH2=>?_);clear hK K hHeld;have hHeld:=hH2 dC;refine zW 10 (fun K hK=>?_);go_simp
     go_at_call 268
     ((with_reducible refine (C2.Z _ (by exact RSr.Z.below hb1.Z)).mono ?_);rintro e v2 ⟨rfl,hq2⟩);have hb2:=BelowL.call hb1 hq2;go_wp2_with fail;refine hK.out _ _ (fun _=>Jd (MK.Z _ hb2)) (fun hH3=>?_);clear hK K hHeld;have HOv:=Jh (HO.Z.below hb2.Z HO.Z.lt);have HKv:=Jh (HK.Z.call hb2.Z);have h2c:=HOv.Z.cell hlt;have h3c:=HOv.Z.frozen k;have hHeld:=hH3 dC;refine zM 11 ?_;refine zW 12 (fun K hK=>?_);go_simp;refine hK.out _ _ (fun h=>absurd h dC) (fun hH4=>?_);clear hK K hH4 hH3 hH2 hHeld;refine zx zK ?_ _;(try go_simp);go_wp2_with fail;go_roundw
     case rel=>exact ⟨k+1,om,by go_num,Jh (by rw [<-HS.Z];exact HOv.Z.set k C),Jh (HKv.Z.set rfl _)⟩
     case measure=>exact Jm
   . obtain rfl:k=n:=om
     have HO2:Hd (Own wr gc k k (gen k (yA W H xs))):=Jh (by have h:=HO.Z;rwa [xY _ _ _ (zZ _ _) sI] at h)
     have HFr:Hd (FSt wr w f gi gc W H k xs (gen k (yA W H xs))):=Jh (by
      have h:=HF.Z;have z:=ZO.Z
      exact ⟨by have:=h.hf;omega,by have:=h.hi;omega,by have:=h.hc;omega,h.n1,h.n2,h.n3,HK.Z.blk h.box h.n2,HK.Z.own h.ink h.n3,HO2.Z⟩)
     have HBr:Hd (Below w w wr):=Jh (by
      have h:=HF.Z.hc;have z:=ZO.Z
      exact ((HB.Z.trans (HWB.Z.mono om))).trans (HK.Z.below (B:=w.heap.size) (fun i hi=>by rw [hi];omega) (og HWB.Z.size)))
     go_wp2_with fail;go_ret;exact ⟨_,_,_,rfl,HFr.Z,HBr.Z⟩
theorem zLI {a d:Prop} (h:a/\b/\c/\d/\e/\f):f:=h.2.2.2.2.2
def zAW (h:Nat) (key:Int->Int):Prop:= ∀(a b:Int) (u:World),Calls prog h #[a,b] u fun e u'=> ∃c:Int,e= .returned ↑c/\(c<0↔key a<key b)/\Below u u u'
def zCJ (a:Int):Int:=-(1*a)
def zFG (a:Int):Int:=-(-1*a)
theorem zQe:zAW 189 zFG:=fun a b u=>(zQU a b u).mono (fun e k ⟨c,h1,h2,h3⟩=>⟨c,h1,by unfold zFG;omega,by rw [<-h3];exact bR⟩)
theorem zNq:zAW 272 zCJ:=fun a b u=>by
 go_in;go_wp2_with fail;refine (zQU b a _).mono ?_;rintro e w1 ⟨c,rfl,hc,rfl⟩;go_wp2_with fail;go_ret;exact ⟨c,rfl,by unfold zCJ;omega,bR⟩
theorem zND: ∀args w,(callFunc 272 args).run prog w= .ok (.enter 272 args) w:=Ug _ _ _ func272 zK rfl
theorem zQV: ∀args w,(callFunc 189 args).run prog w= .ok (.enter 189 args) w:=Ug _ _ _ func189 zK rfl
theorem Jx (w:World):Calls prog 233 #[] w (zR (.agg #[Z1, .func (.func 272) #[] #[]]) w):=by
 have k:=fun (v:World) (a:Addr) (m:Mode)=>run_store prog v a (.func (.func 272) #[] #[]) m rfl;go_in;go_wp2_with fail;exact bodyPost_ret (v:= .agg #[Z1, .func (.func 272) #[] #[]]) (Jr results233) rfl ⟨rfl,by first | exact nJ | exact (nJ.setCell sI _).setCell sI _⟩
theorem QG (w:World):Calls prog 234 #[] w (zR (.agg #[Z0, .func (.func 189) #[] #[]]) w):=by
 have k:=fun (v:World) (a:Addr) (m:Mode)=>run_store prog v a (.func (.func 189) #[] #[]) m rfl;go_in;go_wp2_with fail;exact bodyPost_ret (v:= .agg #[Z0, .func (.func 189) #[] #[]]) (Jr results234) rfl ⟨rfl,by first | exact nJ | exact (nJ.setCell sI _).setCell sI _⟩
set_option maxRecDepth 100000 in
theorem zPT (h:Nat) (x y s gc n i k:Nat) (X Y:Int) (K:Prop) (w:World) (U: ∀args w,(callFunc h args).run prog w= .ok (.enter h args) w)
 (A:w.cell? (x,1)=some (.func (.func h) #[] #[])) (I:w.cell? y=some (.pointer ↑s)) (cs:w.cell? (s,3)=some (.slice ↑gc n n)) (J:w.cell? (gc,i)=some ↑X) (L:w.cell? (gc,k)=some ↑Y)
 (O:x<w.heap.size) (R:y<w.heap.size) (N:s<w.heap.size) (F:gc<w.heap.size) (hi:i<n) (hk:k<n)
 (l: ∀v,Calls prog h #[X,Y] v fun e M=> ∃c:Int,e= .returned ↑c/\(c<0↔K)/\Below v.heap.size v M):
 Calls prog 292 #[i,k, .pointer ↑x, .pointer ↑y] w fun e w'=> ∃c:Int,e= .returned ↑c/\(c<0↔K)/\Below w.heap.size w w':=by
 have u:Hd (∀v,BelowL w v->Jc v (x,1) (.func (.func h) #[] #[])/\Jc v y (.pointer ↑s)/\Jc v (s,3) (.slice ↑gc n n)/\Jc v (gc,i) X/\Jc v (gc,k) Y/\BelowL w v):=Jh (fun v q=>⟨(q.Z.cell O).trans A,(q.Z.cell R).trans I,(q.Z.cell N).trans cs,(q.Z.cell F).trans J,(q.Z.cell F).trans L,q⟩);have D:=Jh l;have V:(i:Int)<(n:Int):=om;have pk:(k:Int)<(n:Int):=om;clear l;go_in;go_wp2_with fail
 go_region_held3 u
  (first | exact u.Z _ m | exact u.Z _ lS)
  (first
   | (go_at_fn h;((with_reducible refine (D.Z _).mono ?_);rintro e v1 ⟨A,rfl,t,C⟩;have m:=BelowL.call (zLI aS) C)))
 have G:=Jh t;have z:=Jh m;clear t m u D;go_wp2_with fail;go_ret;exact ⟨A,rfl,G.Z,z.Z.Z⟩
set_option maxRecDepth 100000 in
theorem QE (h:Nat) (key:Int->Int) (v:Int) {f:Nat} {cs:List Int} (eh: ∀args w,(callFunc h args).run prog w= .ok (.enter h args) w) (ho:zAW h key) (F:FSt w B f gi gc W H n xs cs) (hn:n<=256):
 Calls prog 270 #[.pointer ↑f, .agg #[v, .func (.func h) #[] #[]]] w fun e w'=>e= .returned ↑(yq xs v (fun j=>key (cs.getD j 0)) n)/\Below w.heap.size w w':=by
 have HO:=Jh ho;have EH:=Jh eh;have F2:=Jh ((F.alloc (.cells #[.pointer ↑f] 204)).alloc (.cells #[v, .func (.func h) #[] #[]] 211));have KF:=Jh ((Blk.new w 204 #[.pointer ↑f]).alloc (.cells #[v, .func (.func h) #[] #[]] 211));have KC:=Jh (Blk.zD (g:=w.heap.size+1) (w:=w.alloc (.cells #[.pointer ↑f] 204)) 211 #[v, .func (.func h) #[] #[]] sI);have HB:=Jh (zJ (zJ (Below.refl w.heap.size w) (.cells #[.pointer ↑f] 204)) (.cells #[v, .func (.func h) #[] #[]] 211));clear F ho eh;go_in;go_upto_region 1 with fail;obtain ⟨G,D⟩:=zN ((w.alloc (.cells #[.pointer ↑f] 204)).alloc (.cells #[v, .func (.func h) #[] #[]] 211):World);have ZO:Hd (G.heap.size=w.heap.size+1+1):=Jh (by rw [D];simp);rw [<-D] at F2 KF KC HB⊢;clear D;obtain ⟨lf,p0,p1,p2,p3⟩:=F2.Z.cells;have lk:=KF.Z.lt;have k0:G.cell? ⟨w.heap.size,0,none⟩=some (.pointer ↑f):=by rw [KF.Z.cell];rfl
 go_wp2_with fail
 go_loopw [5,15] (fun r i wr=> ∃(k d A:Nat) (a:Option Addr),k<=n/\i=↑k/\r= .slice a d A/\(yP xs v k).length=d/\OwnA wr G a d A (yP xs v k)/\Below G G wr) (fun _ i _=>n - (intOf i).toNat)
 case atStart=>exact ⟨0,0,0,none,nZ,rfl,rfl,rfl,oN,bR⟩
 obtain ⟨k,d,A,a,hk,rfl,rfl,hd,ho,s⟩:=hrel;have L:=Jh hd;have x:=Jh ho;have l:=Jh s;have z:=Jh (KC.Z.zA s);have Fr:=Jh (F2.Z.below s);have b8:=Jh (KF.Z.zA s);have c8:d<=k:=by rw [<-hd];exact zIy _ _ _
 clear s hd ho;by_cases c4:k<n
 . have g1:=Fr.Z.ink.cell c4
   obtain ⟨V,hV⟩: ∃V,xs.getD k 0=V:=⟨_,rfl⟩
   rw [hV] at g1;have HV:=Jh hV;have lc:=z.Z.lt;have c0:wr.cell? ⟨w.heap.size+1,0,none⟩=some ↑v:=by rw [z.Z.cell];rfl
   clear hV p0 p1 p2 p3 k0 lf lk;by_cases b3:V=v
   . subst b3
     have M:Hd (yP xs V (k+1)=yP xs V k++ [(k:Int)]):=Jh (zIz HV.Z);go_wp2_with (at_builtin;refine vH _ rfl (.tmp 24) (.tmp 26) rfl G d A a _ rfl (x.Z.alloc _) wr.heap.size (k:Int) rfl (by go_simp) om (oS l.Z.size) ?_;intro c1 U w5 b0 Y);have b7:=Jh ((l.Z.alloc l.Z.size _).grown Y (oS l.Z.size) (fun b hb=>by have:=x.Z.bd b hb;omega));have b6:=Jh b0;clear b0 Y;go_roundw
     case rel=>exact ⟨k+1,d+1,U,c1,om,by go_num,rfl,by rw [M.Z,Yn,L.Z];rfl,by rw [M.Z];exact b6.Z,b7.Z⟩
     exact Jm
   have M:Hd (yP xs v (k+1)=yP xs v k):=Jh (zLh (by rw [HV.Z];exact b3));go_wp2_with fail;go_roundw
   case rel=>exact ⟨k+1,d,A,a,om,by go_num,rfl,by rw [M.Z];exact L.Z,by rw [M.Z];exact x.Z,l.Z⟩
   exact Jm
 obtain rfl:k=n:=om;have O:=Jh (zI HB.Z l.Z);clear p0 p1 p2 p3 k0 lf lk;by_cases X:d=0
 . subst X
   have E:Hd (yq xs v (fun j=>key (cs.getD j 0)) k=-1):=Jh (by
    rcases Kn xs v (fun j=>key (cs.getD j 0)) k with h | ⟨i,h1,h2,h3⟩
    exact h.1;obtain ⟨q,hq,_⟩:=zDV h2 h3;have:=L.Z
    omega)
   go_wp2_with fail;go_ret;exact ⟨yf E.Z.symm,O.Z⟩
 have m:0<d:=om
 obtain ⟨ga,rfl,d1,b2⟩: ∃g,a=some ⟨g,0,none⟩/\G.heap.size<=g/\Own wr g d A (yP xs v k):=by
  rcases x.Z with ⟨_,h,_⟩ | h
  omega;exact h
 have HG:=Jh b2;have d2:((d:Int)==0)=false:=sO;have EG:Hd (∀args w,(callFunc 292 args).run prog w= .ok (.enter 292 args) w):=Jh (Ug _ _ _ func292 zK rfl);clear b2 X;go_wp2_with fail
 refine (zRc 292 #[.pointer (some ⟨w.heap.size+1,0,none⟩), .pointer (some ⟨w.heap.size,0,none⟩)] ga d A (fun t=>(yP xs v k).getD t 0) (fun t=>key (cs.getD ((yP xs v k).getD t.toNat 0).toNat 0)) wr EG.Z om m (fun t ht=>HG.Z.cell ht) HG.Z.lt (by
  intro u hu i j hi hj;obtain ⟨I,i1,i2,i3⟩:=Vv (xs:=xs) (v:=v) (k:=k) (j:=i) (by rw [L.Z];exact hi);obtain ⟨J,j1,j2,j3⟩:=Vv (xs:=xs) (v:=v) (k:=k) (j:=j) (by rw [L.Z];exact hj);simp only [Yu];rw [i1,j1];simp only [Yu];have N:=Fr.Z.below hu;have Ku:=b8.Z.zA hu;have Cu:=z.Z.zA hu
  exact zPT h (w.heap.size+1) w.heap.size f gc k I J (cs.getD I 0) (cs.getD J 0) _ u EH.Z (by rw [Cu.cell];rfl) (by rw [Ku.cell];rfl) N.cells.2.2.2.2 (N.crowds.cell i2) (N.crowds.cell j2) Cu.lt Ku.lt N.lts.1 N.lts.2.2 i2 j2 (fun y=>HO.Z (cs.getD I 0) (cs.getD J 0) y))).mono ?_
 rintro e w2 ⟨fq,blk,rfl,d0,b1,C,hb⟩;have b5:=Jh C;obtain ⟨q0,q1⟩:=C.2 0 nI m;obtain ⟨q,hq⟩: ∃q:Nat,fq 0=(q:Int):=⟨(fq 0).toNat,by simp at q0;omega⟩
 have c5:q<d:=by rw [hq] at q1;omega
 have s0:=b1.cell m;rw [yN _ _ _ m,hq] at s0;have s1:=(HG.Z.below hb HG.Z.lt).cell c5;have b4:=Jh (zI O.Z hb);have HQ:=Jh hq
 have E:Hd ((yP xs v k).getD q 0=yq xs v (fun j=>key (cs.getD j 0)) k):=Jh (by
  have h:=zGx (c:=fun j=>key (cs.getD j 0)) L.Z m b5.Z;rw [HQ.Z,Yu] at h
  exact h.one (Ud _ _ _ _))
 obtain ⟨R,hR⟩: ∃R,(yP xs v k).getD q 0=R:=⟨_,rfl⟩
 rw [hR] at s1 E;clear hR hb C q0 q1 hq b1;go_wp2_with fail;go_ret;exact ⟨yf E.Z,b4.Z⟩
end Go.Proofs.YtlenfgdjdianiaaGreatDoor
