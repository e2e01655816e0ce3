/- Facts on which this claim rests, 8. -/
import Derived.Deep.DeepCutAuto
import Derived.Test.YtlenfgdjdianiaaGreatDoorF7
set_option linter.all false
set_option maxHeartbeats 6400000
namespace Go.Proofs.YtlenfgdjdianiaaGreatDoor
section
open Go.RowKit Tq Go.Proofs.Tryz
variable {B cap g n : Nat} {E b c : Prop} {H W m : Int} {K : Act → World → Prop} {Q : Exit → Act → World → Prop} {a : Act} {ad : Option Addr} {e : Ending} {o : Oper} {ops : Array Oper} {w w' : World} {xs : List Int}
theorem Qq:(prog.info? 3).map (fun i=>(i.zero,i.size,i.bytes))=some (some ↑Z0,1,8):=zK
theorem RowA.toOwn6 (h:RowA w 3 1 B ad n cap xs):OwnA w B ad n cap xs:=by
 rcases h with h | ⟨g,h1,h2,h3,f,h4,k,j,l,i⟩
 exact .inl h;exact .inr ⟨g,h1,h2,om,f,h4,k,j,om,by rw [Nat.mul_one] at i;exact i⟩
theorem vF (w:World) (T f:Nat):RowT (w.alloc (.cells #[] T)) T f w 0 0 []:=⟨sI,#[],heap_alloc_new w _,nI,by unfold maxLen;omega,sI,sI⟩
theorem zHM (w:World)
 (t:o.guard=none) (s x:Operand) (z:o.op= .call {callee:= .builtin .append,args:=#[s,x],argTypes:=#[22,22]})
 (B cap:Nat) (ad:Option Addr) (M:a.eval s= .slice ad 0 cap) (I:RowA w 3 1 B ad 0 cap []) (b off m c:Nat) (l:List Int) (G:a.eval x= .slice (some ↑(b,off)) m c)
 (hv:l.length=m) (hc: ∀j,j<m->w.cell? ⟨b,off+j,none⟩=some (.int .i64 (l.getD j 0))) (hn:m<=1048576) (F:B<=w.heap.size)
 (hK: ∀k f w',RowA w' 3 1 B k m f l->w.grownBy w' (zL ad)->K (a.put o.dst (.slice k m f)) w'):
 if Region.wanted o (yielded ops a.tmps)=true then Oper.wp prog o a w K Q else E:=by
 have hw:Region.wanted o (yielded ops a.tmps)=true:=by simp [Region.wanted,t]
 rw [if_pos hw];obtain ⟨i,hi,D,y,A⟩:=info_parts Qq;refine wp_append_own w s x 22 z B 3 i ↑Z0 1 8 underlying22 hi D y A rfl om _ 0 (([]:List Int).map (Value.int .i64)) M I.toRow ↑(b,off) m c (l.map (Value.int .i64)) G (by simp [hv]) ?_ ?_ (by unfold maxLen;omega) (by rw [Nat.zero_add];omega) F ?_;intro j u q;by_cases C:j<m
 have:=hc j C;rw [List.getElem?_map,Ya om] at q;simp only [Option.map_some,Option.some.injEq] at q;subst q;rw [show (Addr.mk b off none).add j=⟨b,off+j,none⟩ by rw [Addr.add_lit],this];simp [List.getD,Ya (show j<l.length by omega)];rw [Yv sO] at q;cases q;intro u J;obtain ⟨x,_,rfl⟩:=List.mem_map.1 J;rfl;intro v' w' h2 h3 _;rw [Nat.zero_add] at h2;have h4:w'.ownsRow B 3 1 v' m (l.map (Value.int .i64)):=by simpa using h2
 obtain ⟨k,f,rfl,L⟩:=RowA.ofRow h4;rw [xj] at h3;exact hK k f w' L h3
theorem zMm (w:World) {rest:List Oper}
 (t:o.guard=none) (s x:Operand) (z:o.op= .call {callee:= .builtin .append,args:=#[s,x],argTypes:=#[22,22]})
 (B cap:Nat) (ad:Option Addr) (M:a.eval s= .slice ad 0 cap) (I:RowA w 3 1 B ad 0 cap []) (b off m c:Nat) (l:List Int) (G:a.eval x= .slice (some ↑(b,off)) m c)
 (hv:l.length=m) (hc: ∀j,j<m->w.cell? ⟨b,off+j,none⟩=some (.int .i64 (l.getD j 0))) (hn:m<=1048576) (F:B<=w.heap.size)
 (hK: ∀k f w',RowA w' 3 1 B k m f l->w.grownBy w' (zL ad)->wpList prog ops Q rest (a.put o.dst (.slice k m f)) w'):
 wpList prog ops Q (o::rest) a w:=by
 obtain ⟨i,hi,D,y,A⟩:=info_parts Qq;refine wpList_append_own w t s x 22 z B 3 i ↑Z0 1 8 underlying22 hi D y A rfl om _ 0 (([]:List Int).map (Value.int .i64)) M I.toRow ↑(b,off) m c (l.map (Value.int .i64)) G (by simp [hv]) ?_ ?_ (by unfold maxLen;omega) (by rw [Nat.zero_add];omega) F ?_;intro j u q;by_cases C:j<m
 have:=hc j C;rw [List.getElem?_map,Ya om] at q;simp only [Option.map_some,Option.some.injEq] at q;subst q;rw [show (Addr.mk b off none).add j=⟨b,off+j,none⟩ by rw [Addr.add_lit],this];simp [List.getD,Ya (show j<l.length by omega)];rw [Yv sO] at q;cases q;intro u J;obtain ⟨x,_,rfl⟩:=List.mem_map.1 J;rfl;intro v' w' h2 h3 _;rw [Nat.zero_add] at h2;have h4:w'.ownsRow B 3 1 v' m (l.map (Value.int .i64)):=by simpa using h2
 obtain ⟨k,f,rfl,L⟩:=RowA.ofRow h4;rw [xj] at h3;exact hK k f w' L h3
def UZ (w:World) (W H:Int) (n:Nat) (xs:List Int) (e:Ending) (w':World):Prop:=
 ∃a c,e= .returned (.agg #[W,H, .slice a n c])/\OwnA w' w a n c xs/\Below w w w'
def qe (W H:Int) (xs:List Int):List Int × Bool:=if zf W H xs=true then xG W H xs else (xs,false)
theorem zOa (h: ¬zf W H xs=true):qe W H xs=(xs,false):=by unfold qe;rw [if_neg h]
theorem Xc (h:zf W H xs=true):qe W H xs=xG W H xs:=by unfold qe;rw [if_pos h]
theorem zMO (W H:Int) (xs:List Int):zFv W H xs=(⟨W,H,(qe W H xs).1⟩,(qe W H xs).2):=by
 unfold zFv qe;split <;>rfl
def zBo (w:World) (W H:Int) (n:Nat) (R:List Int × Bool) (e:Ending) (w':World):Prop:=
 ∃a c,e= .returned (.tuple #[.agg #[W,H, .slice a n c], .bool R.2])/\OwnA w' w a n c R.1/\Below w w w'
theorem zBo.Z (h:zBo w W H n (qe W H xs) e w') (hl:n<=1048576):wZ w (zFv W H xs) e w':=by
 rw [zMO];obtain ⟨a,c,h1,h2,h3⟩:=h;exact ⟨a,n,c,h1,h2,hl,h3⟩
def jN (W H:Int) (xs:List Int) (m:Int):List Int × Int:=if zf W H xs=true/\0<=m/\m<=64 then ((xX W H m.toNat xs).1,((xX W H m.toNat xs).2:Int)) else (xs,0)
theorem zNG (W H:Int) (xs:List Int) (m:Int):jC W H xs m=(⟨W,H,(jN W H xs m).1⟩,(jN W H xs m).2):=by
 unfold jC jN;split <;>rfl
def Ub (w:World) (W H:Int) (n:Nat) (R:List Int × Int) (e:Ending) (w':World):Prop:=
 ∃a c,e= .returned (.tuple #[.agg #[W,H, .slice a n c],R.2])/\OwnA w' w a n c R.1/\Below w w w'
def zHc (w:World) (R:Pic × Int) (e:Ending) (w':World):Prop:=
 ∃a n c,e= .returned (.tuple #[.agg #[R.1.W,R.1.H, .slice a n c],R.2])/\OwnA w' w a n c R.1.ink/\n<=1048576/\Below w w w'
theorem Ub.Z (h:Ub w W H n (jN W H xs m) e w') (hl:n<=1048576):zHc w (jC W H xs m) e w':=by
 rw [zNG];obtain ⟨a,c,h1,h2,h3⟩:=h;exact ⟨a,n,c,h1,h2,hl,h3⟩
set_option maxRecDepth 100000 in
theorem Us (b off n cap:Nat) (xs:List Int) (w:World) (hn:xs.length=n) (ha:Rd w (some ↑(b,off)) xs) (hl:n<=1048576):
 Calls prog 69 #[.slice (some ↑(b,off)) n cap] w fun e w'=> ∃a c,e= .returned (.slice a n c)/\OwnA w' w a n c xs/\Below w w w':=by
 have l:=Jh hn;have A:=Jh ha;clear hn ha;have u:=fun v:World=>Lib.run_eql_slice_nil (P:=prog) v (t:=22) (e:=3) (a:=some ↑(b,off)) n cap 0 0 underlying22;go_in
 go_wp2_with (at_builtin;refine zMm _ rfl (.tmp 5) (.tmp 6) rfl w 0 _ rfl (RowA.mk (vF w 3 1) nI) b off n cap xs rfl l.Z (fun j C=>by
  obtain ⟨b2,F,h3,h4,z⟩:=(A.Z.alloc (.cells #[] 3)).at (oh l);cases h3
  exact z j (oh l)) hl sI ?_;intro y x D f i)
 have s:=Jh ((Joins.below_alloc1 w (.cells #[] 3)).grown i sI (fun k hk=>by simp [zL] at hk;omega));have q:=Jh f.toOwn6;clear f i;go_ret;exact ⟨_,_,rfl,q.Z,s.Z⟩
set_option maxRecDepth 100000 in
theorem uj (W H:Int) (b off n cap:Nat) (xs:List Int) (w:World) (hn:xs.length=n) (ha:Rd w (some ↑(b,off)) xs) (hl:n<=1048576):
 Calls prog 44 #[.agg #[W,H, .slice (some ↑(b,off)) n cap]] w (UZ w W H n xs):=by
 have M:=Jh hn;have HA:=Jh ha;clear hn ha;go_in;go_upto_region 1 with fail;have U:=Jh ((Blk.new w 31 #[W,H, .slice (some ↑(b,off)) n cap]).alloc (.cells ↑Zp 31));have J:=Jh (Blk.zD (g:=w.heap.size+1) (w:=w.alloc (.cells #[W,H, .slice (some ↑(b,off)) n cap] 31)) 31 ↑Zp sI);have A:=Jh (zJ (zJ (Below.refl w w) (.cells #[W,H, .slice (some ↑(b,off)) n cap] 31)) (.cells ↑Zp 31));have X:=Jh ((HA.Z.alloc (.cells #[W,H, .slice (some ↑(b,off)) n cap] 31)).alloc (.cells ↑Zp 31));obtain ⟨q,t⟩:=zN ((w.alloc (.cells #[W,H, .slice (some ↑(b,off)) n cap] 31)).alloc (.cells ↑Zp 31):World);have F:Hd (q.heap.size=w.heap.size+1+1):=Jh (by rw [t];simp);rw [<-t] at U J A X⊢;clear t;obtain ⟨L,o0,o1,V⟩:=U.Z.c3;have z:Hd (∀v,BelowL q v->Jc v w W/\Jc v (w,1) H/\Jc v (w,2) (.slice (some ↑(b,off)) n cap)/\BelowL q v):=Jh (fun v D=>⟨(D.Z.cell L).trans o0,(D.Z.cell L).trans o1,(D.Z.cell L).trans V,D⟩);refine zh 9 z zK (z.Z _ lS) ?_;intro f;have T:=wK f;refine zM 0 ?_;refine zM 1 ?_;refine zM 2 ?_;refine zM 3 ?_;refine zM 5 ?_;refine zM 6 ?_;refine zW 4 (fun K hK=>?_);go_simp;have s:=BelowL.alloc T (.cells #[] 3);refine hK.out _ _ (fun _=>Jd (z.Z _ s)) (fun hH2=>?_);clear hK K f;refine zW 7 (fun K hK=>?_)
 refine zHM _ rfl (.tmp 7) (.tmp 9) rfl q.drew.heap.size 0 _ rfl (RowA.mk (vF q.drew 3 1) nI) b off n cap xs rfl M.Z (fun j hj=>by
  obtain ⟨b2,V,h3,h4,h5⟩:=(X.Z.drew.alloc (.cells #[] 3)).at (oh M);cases h3
  exact h5 j (oh M)) hl sI ?_
 intro I C w5 x y;have l:Hd (Below q q w5):=Jh (s.Z.grown y s.Z.size (fun k hk=>by simp [zL] at hk;omega));have N:=Jh x.toOwn6;have u:=Jh (J.Z.below l.Z J.Z.lt);have O:=Jh (zI A.Z l.Z);clear x y;obtain ⟨z0,Y,r1,r2⟩:=u.Z.c3;obtain ⟨f0,f1,f2⟩:=u.Z.f3;refine hK.out _ _ (fun _=>Jd (z.Z _ (BelowL.mk l.Z))) (fun hH2=>?_);clear hK K;refine zW 8 (fun K hK=>?_);go_simp;refine hK.out _ _ (fun _=>Jd (z.Z _ (BelowL.mk l.Z))) (fun hH2=>?_);clear hK K;refine zW 9 (fun K hK=>?_);go_simp;refine hK.out _ _ (fun h=>absurd h dC) (fun hH2=>?_);clear hK K hH2;refine zx zK ?_ _;(try go_simp);go_wp2_with fail
 exact bodyPost_ret (v:= .agg #[W,H, .slice I n C]) (by simp [results,results44,go_sem,Y,r1,r2]) rfl
  ⟨_,_,rfl,(((N.Z.other (by simp;(try have:=F.Z);omega) _).other (by simp;(try have:=F.Z);omega) _).other (by simp;(try have:=F.Z);omega) _).mono (by have:=F.Z;show w.heap.size<=q.heap.size;omega),
   ((O.Z.setCell sD _).setCell sD _).setCell sD _⟩
set_option maxRecDepth 100000 in
theorem uB (W H:Int) (b off n cap:Nat) (xs:List Int) (w:World) (hn:xs.length=n) (ha:Rd w (some ↑(b,off)) xs) (hl:n<=1048576):
 Calls prog 68 #[.agg #[W,H, .slice (some ↑(b,off)) n cap]] w (UZ w W H n xs):=by
 have V:=Jh hn;have Y:=Jh ha;clear hn ha;go_in;go_upto_region 1 with fail;have M:=Jh ((Blk.new w 31 #[W,H, .slice (some ↑(b,off)) n cap]).alloc (.cells ↑Zp 31));have F:=Jh (Blk.zD (g:=w.heap.size+1) (w:=w.alloc (.cells #[W,H, .slice (some ↑(b,off)) n cap] 31)) 31 ↑Zp sI);have s:=Jh (zJ (zJ (Below.refl w w) (.cells #[W,H, .slice (some ↑(b,off)) n cap] 31)) (.cells ↑Zp 31));have N:=Jh ((Y.Z.alloc (.cells #[W,H, .slice (some ↑(b,off)) n cap] 31)).alloc (.cells ↑Zp 31));obtain ⟨y,k⟩:=zN ((w.alloc (.cells #[W,H, .slice (some ↑(b,off)) n cap] 31)).alloc (.cells ↑Zp 31):World);have z:Hd (y.heap.size=w.heap.size+1+1):=Jh (by rw [k];simp);rw [<-k] at M F s N⊢;clear k;obtain ⟨I,o0,T,o2⟩:=M.Z.c3;have A:Hd (∀v,BelowL y v->Jc v w W/\Jc v (w,1) H/\Jc v (w,2) (.slice (some ↑(b,off)) n cap)/\BelowL y v):=Jh (fun v x=>⟨(x.Z.cell I).trans o0,(x.Z.cell I).trans T,(x.Z.cell I).trans o2,x⟩);refine zh 8 A zK (A.Z _ lS) ?_;intro f;have u:=wK f;refine zM 0 ?_;refine zM 1 ?_;refine zM 2 ?_;refine zM 3 ?_;refine zM 4 ?_;refine zM 5 ?_;refine zW 6 (fun K hK=>?_);go_simp
 go_at_call 69
 ((with_reducible refine (Us b off n cap xs _ V.Z (by exact N.Z.below u.Z) hl).mono ?_);rintro e v1 ⟨C,t,rfl,q,D⟩);have j:=BelowL.call u D;go_wp2_with fail;refine hK.out _ _ (fun _=>Jd (A.Z _ j)) (fun hH2=>?_);clear hK K f;have J:=Jh q;have l:=Jh (F.Z.below j.Z F.Z.lt);have L:=Jh (zI s.Z j.Z);clear q;obtain ⟨z0,O,U,X⟩:=l.Z.c3;obtain ⟨f0,f1,f2⟩:=l.Z.f3;refine zW 7 (fun K hK=>?_);go_simp;refine hK.out _ _ (fun _=>Jd (A.Z _ j)) (fun hH2=>?_);clear hK K;refine zW 8 (fun K hK=>?_);go_simp;refine hK.out _ _ (fun h=>absurd h dC) (fun hH2=>?_);clear hK K hH2;refine zx zK ?_ _;(try go_simp);go_wp2_with fail
 exact bodyPost_ret (v:= .agg #[W,H, .slice C n t]) (by simp [results,results68,go_sem,O,U,X]) rfl
  ⟨_,_,rfl,(((J.Z.other (by simp;(try have:=z.Z);omega) _).other (by simp;(try have:=z.Z);omega) _).other (by simp;(try have:=z.Z);omega) _).mono (by have:=z.Z;show w.heap.size<=y.heap.size;omega),
   ((L.Z.setCell sD _).setCell sD _).setCell sD _⟩
def BelowH (w v:World):Prop:=Hd (Below w w v)
namespace BelowH
variable {w v v' : World}
theorem Z (h:BelowH w v):Below w w v:=Hd.Z h
theorem mk (h:Below w w v):BelowH w v:=Jh h
theorem start (w:World):BelowH w w.drew:=mk bR.drew
theorem alloc (h:BelowH w v) (o:Obj):BelowH w (v.alloc o):=mk (zJ h.Z o)
theorem call (h:BelowH w v) (f:Below v v v'):BelowH w v':=mk (zI h.Z f)
theorem le (h:BelowH w v):w.heap.size<=v.heap.size:=h.Z.size
theorem set (h:BelowH w v) {a:Addr} (ha:w.heap.size<=a.block) (u:Value):BelowH w (v.setCell a u):=mk (h.Z.setCell ha u)
end BelowH
theorem zRQ {a d:Prop} (h:a/\b/\c/\d):d:=h.2.2.2
def VK (w wx:World) (T:Nat) (W H:Int) (xs:List Int) (s:Value):Prop:=
 ∃gb a n c,s= .pointer (some ⟨gb,0,none⟩)/\Blk wx gb T #[W,H, .slice a n c]/\w.heap.size<=gb/\OwnA wx w a n c xs/\
  (∀b,zL a=some b->w.heap.size<=b/\b<wx.heap.size/\b≠gb)/\n<=1048576/\Below w w wx
theorem JJ:(prog.info? 31).map (fun i=>(i.zero,i.size,i.bytes))=some (some (.agg ↑Zp),3,40):=zK
structure UY (D:Dsk):Prop where
 p: ∃b off,D.P.a=some ⟨b,off,none⟩
 m: ∃b off,D.M.a=some ⟨b,off,none⟩
 s: ∀k,k<D.ps.length-> ∃b off,(pv D.ps k).a=some ⟨b,off,none⟩
theorem yG.keepZ {S:Nat->Prop} {D:Dsk} (h:yG w B D) (hk:KeepT S w w') (f: ∀b,S b->D.blocks b->False):yG w' B D:=
 ⟨hk.ownA h.p (fun b hb e=>f b e (.inl hb)),hk.ownA h.m (fun b hb e=>f b e (.inr (.inl hb))),hk.ownV h.s (fun b hb e=>f b e (.inr (.inr hb))),h.pm,h.ps,h.ms⟩
theorem vE (w:World) (g:Nat) (f j y t s x l:Value):KeepT (fun i=>i=g) w (((((((w.setCell g f).setCell (g,1) j).setCell (g,2) y).setCell (g,3) t).setCell (g,4) s).setCell (g,5) x).setCell (g,6) l):=by
 have q: ∀ {u:World} (i:Nat) (v:Value),KeepT (fun i=>i=g) w u->KeepT (fun i=>i=g) w (u.setCell (g,i) v):=fun i v k=>KeepT.set (S:=fun i=>i=g) k rfl v;exact q 6 l (q 5 x (q 4 s (q 3 t (q 2 y (q 1 j (q 0 f (KeepT.refl _ w)))))))
theorem yG.set7 {D:Dsk} (h:yG w B D) (hg: ∀b,D.blocks b->b≠g) (f i s l k q j:Value):
 yG (((((((w.setCell g f).setCell (g,1) i).setCell (g,2) s).setCell (g,3) l).setCell (g,4) k).setCell (g,5) q).setCell (g,6) j) B D:=
 h.keepZ (vE w g f i s l k q j) (fun b e hb=>hg b hb e)
def zPN (w0 wx:World) (W H:Int) (n:Nat) (xs:List Int) (mW mH:Int) (ma:Option Addr) (mn mc:Nat) (s:Value):Prop:=
 ∃gb a c,s= .pointer (some ⟨gb,0,none⟩)/\Blk wx gb 35 #[W,H, .slice a n c,mW,mH, .slice ma mn mc, .slice none 0 0]/\w0.heap.size<=gb/\OwnA wx w0 a n c xs/\(∀b,zL a=some b->b≠gb)/\Below w0 w0 wx
set_option maxRecDepth 100000 in
theorem Vl (D:Dsk) (w:World) (hr:RdD w D) (hs:jX D) (ha:UY D):Calls prog 27 #[D.val] w (Ua w D.dat):=by
 obtain ⟨r1,r2,r3,r4,r5,r6⟩:=hr;obtain ⟨s1,s2,s3,s4⟩:=hs;obtain ⟨⟨b1,o1,n6⟩,⟨b2,o2,p6⟩,V⟩:=ha;obtain ⟨⟨W,H,pa,z,pc,xs⟩,⟨I,J,ma,C,mc,ys⟩,a,n,c,ps⟩:=D;dsimp only at*;subst n6 p6;have R1:=Jh r1;have R2:=Jh r2;have R3:=Jh r3;have R4:=Jh r4;have R5:=Jh r5;have R6:=Jh r6;have S4:=Jh s4;have A3:=Jh V;obtain ⟨w0,U⟩:=zN ((w.alloc (.cells #[W,H, .slice (some ↑(b1,o1)) z pc,I,J, .slice (some ↑(b2,o2)) C mc, .slice a n c] 35)).alloc (.cells ↑Zd 35));have KA:Hd (Blk w0 w 35 #[W,H, .slice (some ↑(b1,o1)) z pc,I,J, .slice (some ↑(b2,o2)) C mc, .slice a n c]):=Jh (by rw [U];exact (Blk.new w _ _).alloc _);have KR:Hd (Blk w0 (w.heap.size+1) 35 ↑Zd):=Jh (by rw [U];exact Blk.zD _ _ sI);have h6:Hd (Below w w w0):=Jh (by rw [U];exact zJ (zJ bR _) _);have e8:Hd (w0.heap.size=w.heap.size+2):=Jh (by rw [U];simp);clear r1 r2 r3 r4 r5 r6 s4 V;show Calls prog 27 #[.agg #[W,H, .slice (some ↑(b1,o1)) z pc,I,J, .slice (some ↑(b2,o2)) C mc, .slice a n c]] w _;go_in;go_upto_region 1 with fail;rw [<-U];clear U;obtain ⟨O,c0,c1,c2,c3,c4,c5,c6⟩:=KA.Z.c7
 go_cut [3] (fun s3 wx=>zPN w0 wx W H z xs I J (some ↑(b2,o2)) C mc s3)
 case first=>
  have X:Hd (∀v,BelowL w0 v->Jc v w W/\Jc v (w,1) H/\Jc v (w,2) (.slice (some ↑(b1,o1)) z pc)/\Jc v (w,3) I/\Jc v (w,4) J/\Jc v (w,5) (.slice (some ↑(b2,o2)) C mc)/\BelowL w0 v):=Jh (fun v h=>⟨(h.Z.cell O).trans c0,(h.Z.cell O).trans c1,(h.Z.cell O).trans c2,(h.Z.cell O).trans c3,(h.Z.cell O).trans c4,(h.Z.cell O).trans c5,h⟩);clear c0 c1 c2 c3 c4 c5 c6;have CU:Hd (∀v,BelowL w0 v->Calls prog 68 #[.agg #[W,H, .slice (some ↑(b1,o1)) z pc]] v (UZ v W H z xs)):=Jh (fun v hv=>uB W H b1 o1 z pc xs v R1.Z ((R2.Z.below h6.Z).below hv.Z) om);refine wp_region_held_drew (S:=fun v=>Jc v w W/\Jc v (w,1) H/\Jc v (w,2) (.slice (some ↑(b1,o1)) z pc)/\Jc v (w,3) I/\Jc v (w,4) J/\Jc v (w,5) (.slice (some ↑(b2,o2)) C mc)/\BelowL w0 v) zK (X.Z _ lS) ?_;intro f;refine hTs 0 ?_;refine hTs 1 ?_;refine hTs 3 ?_;refine hTs 4 ?_;refine wpAnyH_ready (rs:=[2,6]) zK sI ?_;refine AllReadyH.cons rfl (fun K hK=>?_) (AllReadyH.cons rfl (fun K hK=>?_) AllReadyH.nil)
  . go_simp
    go_at_call 68
    ((with_reducible refine (CU.Z _ lS).mono ?_);rintro e v1 ⟨a1,k1,rfl,b0,F⟩);have s:=BelowL.call lS F;go_wp2_with fail;refine hK.out _ _ (Jd (X.Z _ s)) (fun f=>?_);clear hK K;refine zv ?_;refine hTs 5 ?_;refine zy 6 (fun K hK=>?_);go_simp;have N:=BelowL.alloc s (.cells ↑Zd 35);refine hK.out _ _ (Jd (X.Z _ N)) (fun f=>?_);clear hK K;refine zv ?_;refine zy 7 (fun K hK=>?_);go_simp;have l:=BelowL.alloc s (.cells #[W,H, .slice a1 z k1,I,J, .slice (some ↑(b2,o2)) C mc, .slice none 0 0] 35);refine hK.out _ _ (Jd (X.Z _ l)) (fun f=>?_);clear hK K;refine zv ?_;refine wpAnyH_done zK ?_ _;go_wp2_with fail;go_meet;exact ⟨v1.heap.size,a1,k1,rfl,Blk.new _ _ _,s.le,(b0.alloc _).mono nI,fun b hb e=>by have:=b0.bd b hb;omega,l.Z⟩
  go_simp;have u:BelowL w0 (w0.alloc (.cells ↑Zd 35)).drew:=BelowL.mk (zJ bR _).drew;have m8:Blk (w0.alloc (.cells ↑Zd 35)).drew w0.heap.size 35 ↑Zd:=(Blk.new _ _ _).drew;refine hK.out _ _ (Jd (X.Z _ u)) (fun f=>?_);clear hK K;refine zv ?_;refine zy 2 (fun K hK=>?_);go_simp
  go_at_call 68
  ((with_reducible refine (CU.Z _ u).mono ?_);rintro e v1 ⟨a1,k1,rfl,b0,F⟩);have s:=BelowL.call u F;have g5:=m8.zA F;have q8:w0.heap.size+1<=v1.heap.size:=by have:=F.size;simpa using this
  go_wp2_with fail;refine hK.out _ _ (Jd (X.Z _ s)) (fun f=>?_);clear hK K;refine zv ?_;refine hTs 5 ?_;obtain ⟨m0,d0,d1,d2,d3,d4,d5,d6⟩:=g5.c7;obtain ⟨f0,f1,f2,f3,f4,f5,f6⟩:=g5.f7;refine zy 7 (fun K hK=>?_);go_simp;have l:BelowL w0 _:=BelowL.mk (zc s.Z (Nat.le_refl w0) ↑W ↑H (.slice a1 z k1) ↑I ↑J (.slice (some ↑(b2,o2)) C mc) (.slice none 0 0));refine hK.out _ _ (Jd (X.Z _ l)) (fun f=>?_);clear hK K;refine zv ?_;refine wpAnyH_done zK ?_ _;go_wp2_with fail;go_meet;exact ⟨w0.heap.size,a1,k1,rfl,g5.put7 _ _ _ _ _ _ _,nI,OwnA.mono (qS b0 sI _ _ _ _ _ _ _) sI,fun b hb e=>by have:=b0.bd b hb;simp at this;omega,l.Z⟩
 obtain ⟨gb,a1,k1,rfl,kb,q2,ho,j6,hb⟩:=hcut;obtain ⟨w1,m3⟩:=zN wc;subst m3;have g8:=Jh (zI h6.Z hb);have g6:=Jh (KA.Z.zA hb);have h8:=Jh (KR.Z.zA hb);have g7:=Jh kb;have i0:=Jh (ho.mono (B':=w.heap.size) (oh e8));have k5:=Jh j6;have HG:Hd (w.heap.size+2<=gb):=Jh (oh e8);have e6:=Jh ho.bd;clear hb kb ho j6 q2 KA KR O c0 c1 c2 c3 c4 c5 c6;obtain ⟨O,c0,c1,c2,c3,c4,c5,c6⟩:=g6.Z.c7;go_wp2_with fail;refine (Us b2 o2 C mc ys _ R3.Z (by exact R4.Z.below g8.Z) om).mono ?_;rintro e w2 ⟨a2,k2,rfl,ho,hb⟩;have m1:=Jh (zI g8.Z hb);have g3:=Jh (g6.Z.zA hb);have i3:=Jh (h8.Z.zA hb);have b6:=Jh (g7.Z.zA hb);have i5:=Jh (i0.Z.zA hb);have i2:=Jh ho;have g2:=Jh g7.Z.lt;have k7:=Jh hb.size;have e7:=Jh ho.bd;clear hb ho g6 h8 g7 i0 g8 O c0 c1 c2 c3 c4 c5 c6;obtain ⟨O,c0,c1,c2,c3,c4,c5,c6⟩:=g3.Z.c7;obtain ⟨m0,d0,d1,d2,d3,d4,d5,d6⟩:=b6.Z.c7;obtain ⟨f0,f1,f2,f3,f4,f5,f6⟩:=b6.Z.f7;obtain ⟨v2,y⟩:=zN (w2.setCell (gb,5) (.slice a2 C k2));have m4:=HG.Z;have i7:Hd (Below w w v2):=Jh (by rw [y];exact m1.Z.setCell sO _);have h5:Hd (Blk v2 w 35 #[W,H, .slice (some ↑(b1,o1)) z pc,I,J, .slice (some ↑(b2,o2)) C mc, .slice a n c]):=Jh (by rw [y];exact g3.Z.other sO _);have k6:Hd (Blk v2 (w.heap.size+1) 35 ↑Zd):=Jh (by rw [y];exact i3.Z.other sO _);have j0:Hd (Blk v2 gb 35 #[W,H, .slice a1 z k1,I,J, .slice a2 C k2, .slice none 0 0]):=Jh (by rw [y];exact b6.Z.putR _);have i4:Hd (OwnA v2 w a1 z k1 xs):=Jh (by rw [y];exact i5.Z.zF (fun e=>k5.Z _ e rfl) _);have i6:Hd (OwnA v2 w1 a2 C k2 ys):=Jh (by rw [y];exact i2.Z.zF (fun e=>by have:=e7.Z _ e;have:=g2.Z;simp at*;omega) _);have h7:Hd (v2.heap.size=w2.heap.size):=Jh (by rw [y];simp);go_wp2_with fail;rw [<-y];clear y m4 g3 i3 b6 i5 i2 m1 O c0 c1 c2 c3 c4 c5 c6 m0 d0 d1 d2 d3 d4 d5 d6 f0 f1 f2 f3 f4 f5 f6
 go_loopw [21] (fun i wr=> ∃(k:Nat) (Q:List PV) (a':Option Addr) (c':Nat),k<=n/\i=↑k/\Q.length=k/\(∀j,j<k->(pv Q j).W=(pv ps j).W/\(pv Q j).H=(pv ps j).H/\(pv Q j).ink=(pv ps j).ink/\(pv Q j).n=(pv ps j).n)/\
  Blk wr gb 35 #[W,H, .slice a1 z k1,I,J, .slice a2 C k2, .slice a' k c']/\OwnV wr w2 a' k c' Q/\OwnA wr w a1 z k1 xs/\OwnA wr w1 a2 C k2 ys/\
  Blk wr w 35 #[W,H, .slice (some ↑(b1,o1)) z pc,I,J, .slice (some ↑(b2,o2)) C mc, .slice a n c]/\Blk wr (w.heap.size+1) 35 ↑Zd/\Below w w wr/\w2.heap.size<=wr.heap.size) (fun i _=>n - (intOf i).toNat)
 case atStart=>exact ⟨0,[],none,0,nZ,rfl,rfl,fun j hj=>om,j0.Z,OwnV.nil _ _,i4.Z,i6.Z,h5.Z,k6.Z,i7.Z,by have:=h7.Z;omega⟩
 obtain ⟨k,Q,a',c',hk,rfl,j5,k4,j1,k8,j7,i1,j3,j4,c8,n7⟩:=hrel;have KG:=Jh j1;have HV:=Jh k8;have HP:=Jh j7;have HM:=Jh i1;have KA:=Jh j3;have KR:=Jh j4;have HB:=Jh c8;have HQ:=Jh j5;have HE:=Jh k4;clear k4 j1 k8 j7 i1 j3 j4 c8 j5 j0 i4 i6 h5 k6 i7;by_cases b4:k<n
 . obtain ⟨O,c0,c1,c2,c3,c4,c5,c6⟩:=KA.Z.c7
   have RV:=Jh (R6.Z.below HB.Z);obtain ⟨b,off,p8,q5⟩:=RV.Z.addr (by rw [R5.Z];omega);subst p8;obtain ⟨_,p0,p1,p2⟩:=RV.Z.cells (k:=k) (by rw [R5.Z];exact b4);have d8:=RV.Z.rd (k:=k) (by rw [R5.Z];exact b4);have e3:=RV.Z.len (k:=k) (by rw [R5.Z];exact b4);have g4:=S4.Z k (by rw [R5.Z];exact b4);obtain ⟨b3,o3,V⟩:=A3.Z k (by rw [R5.Z];exact b4);obtain ⟨q,hq⟩: ∃q,pv ps k=q:=⟨_,rfl⟩
   have m6:=Jh hq;rw [hq] at p0 p1 p2 d8 e3 g4 V;obtain ⟨qW,qH,qa,qn,qc,qi⟩:=q;dsimp only at p0 p1 p2 d8 e3 g4 V;subst V;have RD:=Jh d8;have LN:=Jh e3;have k0:(0:Int)<=(k:Int):=om;have r0:(k:Int)<(n:Int):=om;clear hq d8 e3;go_upto_region 6 with fail;clear O c0 c1 c2 c3 c4 c5 c6 p0 p1 p2;obtain ⟨w5,b8⟩:=zN (wr.alloc (.cells #[qW,qH, .slice (some ↑(b3,o3)) qn qc] 31));have KT:Hd (Blk w5 wr 31 #[qW,qH, .slice (some ↑(b3,o3)) qn qc]):=Jh (by rw [b8];exact Blk.new _ _ _);have A:Hd (Below wr wr w5):=Jh (by rw [b8];exact nJ);rw [<-b8];clear b8;have h0:=Jh (KG.Z.zA A.Z);have h3:=Jh (HV.Z.below A.Z);have n4:=Jh (HP.Z.zA A.Z);have n8:=Jh (HM.Z.zA A.Z);have n5:=Jh (KA.Z.zA A.Z);have n0:=Jh (KR.Z.zA A.Z);have q3:=Jh (zI HB.Z A.Z);have p4:=Jh (RD.Z.below A.Z);have q6:=Jh h0.Z.lt;obtain ⟨t0,e0,e1,e2⟩:=KT.Z.c3;obtain ⟨g0,d0,d1,d2,d3,d4,d5,d6⟩:=h0.Z.c7;have X:Hd (∀v,BelowL w5 v->Jc v (gb,6) (.slice a' k c')/\Jc v wr qW/\Jc v (wr,1) qH/\Jc v (wr,2) (.slice (some ↑(b3,o3)) qn qc)/\BelowL w5 v):=Jh (fun v h=>⟨(h.Z.cell g0).trans d6,(h.Z.cell t0).trans e0,(h.Z.cell t0).trans e1,(h.Z.cell t0).trans e2,h⟩);clear g0 d0 d1 d2 d3 d4 d5 d6 t0 e0 e1 e2;refine zh 5 X zK (X.Z _ lS) ?_;intro f;have u:=ZM f;refine zM 0 ?_;refine zM 1 ?_;refine zM 2 ?_;refine zW 3 (fun K hK=>?_);go_simp
   go_at_call 68
   ((with_reducible refine (uB qW qH b3 o3 qn qc qi _ LN.Z (p4.Z.below u.Z) g4).mono ?_);rintro e v1 ⟨a3,k3,rfl,d7,F⟩);have s:=BelowL.call u F;go_wp2_with fail;refine hK.out _ _ (fun _=>Jd (X.Z _ s)) (fun hH2=>?_);clear hK K f;have f:=hH2 dC;refine zW 4 (fun K hK=>?_);go_simp;have l:=BelowL.alloc s (.cells #[qW,qH, .slice a3 qn k3] 31);refine hK.out _ _ (fun _=>Jd (X.Z _ l)) (fun hH2=>?_);clear hK K f;refine zW 5 (fun K hK=>?_);have b7:=Jh (h3.Z.below l.Z);have n2:w2.heap.size<=w5.heap.size:=Yx n7 A.Z.size;refine US _ (by rfl) 33 underlying33 JJ (.tmp 26) (.tmp 29) (by rfl) w2.heap.size k c' a' Q (by rfl) b7.Z.toRowVA v1 ⟨qW,qH,a3,qn,k3,qi⟩ (by rfl) (by first | go_simp | simp) (by first | go_simp | simp) (by first | go_simp | simp) om (og l.le) ?_;intro i8 e5 w6 h4 x j8;have p5:=g2.Z;have n3:=k7.Z;have m2:=HG.Z;have Y:=e6.Z;have T:=e7.Z;have q7:=h7.Z;have e4:=b7.Z.bd;have b5:=h3.Z.bd;have j2:=s.le;have t: ∀b,zL a'=some b->w2.heap.size<=b:=fun b hb=>(e4 b (.inl hb)).1
   have n1:Hd (OwnV w6 w2 i8 (k+1) e5 (Q++ [⟨qW,qH,a3,qn,k3,qi⟩])):=Jh (OwnV.snoc b7.Z h4 x
    (fun b hb=>by
     rcases j8 with e | e
     rw [e] at hb;exact .inl hb
     rw [e] at hb;injection hb with hb;exact .inr om)
    (((d7.mono (B':=w2.heap.size) (og u.le)).alloc _).zG x (fun b hb N=>by
     have h1:=(b5 b (.inl hb)).2;have h2:=d7.bd b N;have:=u.le
     omega))
    (fun b hb=>by
     have h2:=d7.bd b hb;refine ⟨sO,fun c8=>?_⟩;have h1:=(b5 b c8).2;have:=u.le
     omega))
   have g1:=Jh ((h0.Z.zA l.Z).grown x (fun e=>by have:=t _ e.symm;omega));have q4:=Jh ((n4.Z.zA l.Z).zG x (fun b hb N=>by have:=t _ hb;have:=Y b N;omega));have m7:=Jh ((n8.Z.zA l.Z).zG x (fun b hb N=>by have:=t _ hb;have:=T b N;omega));have p3:=Jh ((n5.Z.zA l.Z).grown x (fun e=>by have:=t _ e.symm;omega));have p7:=Jh ((n0.Z.zA l.Z).grown x (fun e=>by have:=t _ e.symm;omega));have f8:=Jh (zI q3.Z l.Z);have m5:=Jh (f8.Z.grown x f8.Z.size (fun b hb=>by have:=t _ hb;omega));have q1:Hd (w2.heap.size<=w6.heap.size):=Jh (zB x.size l.le)
   have q0:Hd (∀j,j<k+1->(pv (Q++ [⟨qW,qH,a3,qn,k3,qi⟩]) j).W=(pv ps j).W/\(pv (Q++ [⟨qW,qH,a3,qn,k3,qi⟩]) j).H=(pv ps j).H/\(pv (Q++ [⟨qW,qH,a3,qn,k3,qi⟩]) j).ink=(pv ps j).ink/\(pv (Q++ [⟨qW,qH,a3,qn,k3,qi⟩]) j).n=(pv ps j).n):=Jh (fun j hj=>by
    by_cases e:j<k
    rw [uV (by rw [HQ.Z];exact e)];exact HE.Z j e;obtain rfl:j=Q.length:=by rw [HQ.Z];omega
    rw [ww,HQ.Z,m6.Z];exact ⟨rfl,rfl,rfl,rfl⟩)
   clear h4 x j8 u s l F d7 b7 f8 e4 b5 t n2 j2;obtain ⟨g0,d0,d1,d2,d3,d4,d5,d6⟩:=g1.Z.c7;obtain ⟨f0,f1,f2,f3,f4,f5,f6⟩:=g1.Z.f7;refine hK.out _ _ (fun h=>absurd h dC) (fun hH2=>?_);clear hK K;refine zW 6 (fun K hK=>?_);go_simp;refine hK.out _ _ (fun h=>absurd h dC) (fun hH2=>?_);clear hK K hH2;refine zW 7 (fun K hK=>?_);go_simp;refine hK.out _ _ (fun h=>absurd h dC) (fun hH2=>?_);clear hK K hH2;refine zx zK ?_ _;(try go_simp);go_wp2_with fail;go_roundw
   case rel=>exact ⟨k+1,_,i8,e5,om,by go_num,by rw [Yn,HQ.Z];rfl,q0.Z,by exact g1.Z.putS _,by exact n1.Z.other sO _,by exact q4.Z.zF (fun e=>k5.Z _ e rfl) _,by exact m7.Z.zF (fun e=>by have:=T _ e;simp at this;omega) _,by exact p3.Z.other sO _,by exact p7.Z.other sO _,by exact m5.Z.setCell sO _,by have:=q1.Z;simp;omega⟩
   exact Jm
 obtain rfl:k=n:=om;obtain ⟨g0,d0,d1,d2,d3,d4,d5,d6⟩:=KG.Z.c7;obtain ⟨O,c0,c1,c2,c3,c4,c5,c6⟩:=KR.Z.c7;obtain ⟨f0,f1,f2,f3,f4,f5,f6⟩:=KR.Z.f7;go_wp2_with fail;have p5:=g2.Z;have n3:=k7.Z;have m2:=HG.Z;have Y:=e6.Z;have T:=e7.Z;refine bodyPost_ret (v:=(⟨⟨W,H,a1,z,k1,xs⟩,⟨I,J,a2,C,k2,ys⟩,a',k,c',Q⟩:Dsk).val) (by simp [results,results27,go_sem,Dsk.val,c0,c1,c2,c3,c4,c5,c6]) rfl ⟨_,rfl,?_,?_,?_,?_⟩;refine yG.set7 (D:=⟨⟨W,H,a1,z,k1,xs⟩,⟨I,J,a2,C,k2,ys⟩,a',k,c',Q⟩) ⟨HP.Z,HM.Z.mono (zB e6.Z HB.Z.size),HV.Z.mono om,fun b hb e=>?_,fun b hb e=>?_,fun b hb e=>?_⟩ (fun b hb=>?_) _ _ _ _ _ _ _;have h1:=Y b hb;have h2:=T b e;omega;have h1:=Y b e;have h2:=(HV.Z.bd b hb).1;omega;have h1:=T b e;have h2:=(HV.Z.bd b hb).1;omega;rcases hb with hb | hb | hb
 have h1:=Y b hb;have:=e8.Z;omega;have h1:=T b hb;omega;have h2:=(HV.Z.bd b hb).1;omega;show ((⟨W,H,xs⟩,⟨I,J,ys⟩,zS Q):Pic × Pic × List Pic)=(⟨W,H,xs⟩,⟨I,J,ys⟩,zS ps)
 rw [zFR (L:=Q) (M:=ps) (by rw [HQ.Z,R5.Z]) (fun j hj=>by have h:=HE.Z j (by rw [<-HQ.Z];exact hj);exact ⟨h.1,h.2.1,h.2.2.1⟩)]
 exact ⟨s1,s2,s3,fun j hj=>by
  have h:=HE.Z j (by rw [<-HQ.Z];exact hj);show (pv Q j).n<=1048576;rw [h.2.2.2]
  exact S4.Z j (by rw [R5.Z,<-HQ.Z];exact hj)⟩
 exact zc HB.Z om _ _ _ _ _ _ _
end
section
open Go.ChangeShapes Go.WideShapes Go.ChangeAt Go.RowKit Go.Joins Go.Deep Tq Go.Proofs.Tryz
variable {H : Type} {P : Program} {W W' : World} {args : Array Value}
theorem own:ownKnob prog.godebug=none:=zK
theorem zPd:laidOutB prog=true:=zK
theorem zJu {enc:TypeId × Value->H} (hl:laidOutB P=true) (hb:Below W W W'): ∀(f:List TypeId) (j:List Value) (k:List (DataW H)) (ps:List MemPlace),
 (∀t ∈ f,P.readableRec t=true/\t<P.types.size)->DataW.TrodAll enc P W 0 (fun _=>true) true f j k ps->(∀x ∈ ps,x.block<W.heap.size)->
 DataW.TrodAll enc P W' 0 (fun b=>decide (b<W.heap.size)) true f j k ps:=by
 intro f
 induction f with
 | nil=>
  intro j k ps _ h _;obtain ⟨rfl,rfl,rfl⟩:=trodAll_nil h;rfl
 | cons t f D=>
  intro j k ps y h i;obtain ⟨v,z,d,s,p,q,rfl,rfl,rfl,A,h1⟩:=trodAll_cons h
  exact ⟨p,q,Below.trod hl (y t sI).1 (y t sI).2 A hb (fun x l=>i x (List.mem_append_left _ l)),
   D z s q (fun u C=>y u (by simp [C])) h1 (fun x l=>i x (List.mem_append_right _ l)),rfl⟩
theorem zGu {f:List TypeId} (h:(f.all fun t=>P.readableRec t && decide (t<P.types.size))=true): ∀t ∈ f,P.readableRec t=true/\t<P.types.size:=by
 intro t i;have:=List.all_eq_true.1 h t i;simpa using this
theorem zNY {enc:TypeId × Value->H} {k:Func} {s:ChangeSpec} {u C:List (DataW H)} {f:List MemPlace}
 (hv:s.vars=[]) (i:k.resultTypes=#[4]) (l:DataW.Whole enc prog k.params.toList s.vars false W args.toList u C f)
 (hr:(k.params.toList.all fun t=>prog.readableRec t && decide (t<prog.types.size))=true)
 (y:(s.fn H (u++ []))={results:=[.lit (.bool true)],args:=u}) (hb:Below W W W'):
 s.post enc prog k false true false false W args (.bool true) W':=by
 have j:=l.lt;have x:=l;obtain ⟨p,q,A,z,rfl,_,_⟩:=l;rw [hv] at z;obtain ⟨rfl,rfl⟩:=trodVars_none z;simp only [List.append_nil] at j;refine ⟨_,_,_,[],p,[],x,?_,?_,?_,hb.frame _,fun h=>by cases h⟩;rw [y,i];exact trodAll_mk1 (shut_bool underlying4 true);rw [y];exact zJu zPd hb _ _ _ _ (zGu hr) A j;rw [y,hv];rfl
end
end Go.Proofs.YtlenfgdjdianiaaGreatDoor
