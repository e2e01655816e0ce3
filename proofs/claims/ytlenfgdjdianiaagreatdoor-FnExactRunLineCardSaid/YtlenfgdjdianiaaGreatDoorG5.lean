/- Facts on which this claim rests, 5. -/
import Derived.Deep.RegionHeld3
import Derived.Test.YtlenfgdjdianiaaGreatDoorG4
set_option linter.all false
set_option maxHeartbeats 6400000
namespace Go.Proofs.YtlenfgdjdianiaaGreatDoor
section
open Go.RowKit Tq Go.Proofs.Tryz
variable {B C T cap g n : Nat} {O : Obj} {Q : Exit → Act → World → Prop} {a : Act} {ad : Option Addr} {cs : Array Value} {o : Oper} {ops : Array Oper} {v : Value} {w w0 w1 wr : World} {xs : List Int}
theorem Zk (W H:Int) (n:Nat) (w:World) (k:xO W H=true) (hn:(n:Int)=W*H):
 Calls prog 142 #[W,H] w fun e w'=> ∃g,e= .returned (.agg #[W,H, .slice (some ⟨g,0,none⟩) n n])/\w.heap.size<=g/\Own w' g n n (List.replicate n 0)/\Below w w w':=by
 obtain ⟨b1,b2,b3,l,m,q⟩:=kI k;have b:=Jh hn;have j:n<=256:=om;clear hn;go_in;go_wp2_with (at_make;refine uE _ rfl _ _ rfl .i64 .i64 (W*H) (W*H) n rfl rfl b.Z.symm b.Z.symm om ?_;intro M c);have f:=Jh c;clear c;refine bodyPost_ret (v:= .agg #[W,H, .slice ↑(w.heap.size+1) n n]) (Jr results142) rfl ⟨w.heap.size+1,rfl,om,?_,?_⟩;exact f.Z.own' _ sI;exact nV
theorem ZP (W H:Int) (ad:Option Addr) (n cap:Nat) (xs:List Int) (x y:Int) (w:World) (hl:xs.length=n) (ha:Rd w ad xs) (hn:(n:Int)=W*H) (k:1<=W) (j:1<=H) (hm:n<=256) (q:W<=256) (hH2:H<=256):
 Calls prog 194 #[.agg #[W,H, .slice ad n cap],x,y] w fun e w'=>e= .returned ↑(vV W H xs x y)/\Below w w w':=by
 obtain ⟨u,i2,i3,i4⟩:=KY hn k j x y;obtain ⟨A,D⟩:=JO x k;obtain ⟨E,F⟩:=JO y j;obtain ⟨m,z,f,c,b⟩:=(ha.alloc (.cells #[W,H, .slice ad n cap] 32)).at om;have hc:=b (y % H*W+x % W).toNat om;have l:m<w.heap.size+1:=by simpa using c
 subst f;have t:=Jh hn;have s:=Jh hl;clear b ha hn hl c;go_in;go_wp2_with fail
 go_quiet ((refine Calls.quiet_of_same ((YM _ _ _ ?_ ?_).mono (fun e w' h=>⟨h.1,h.2.symm⟩)) <;>omega))
 go_wp2
 go_ret;exact ⟨rfl,nJ.trans (Joins.below_draws _ _ _)⟩
theorem qP (W H:Int) (ad:Option Addr) (n cap:Nat) (xs:List Int) (x y:Int) (w:World) (hl:xs.length=n) (ha:Rd w ad xs) (hn:(n:Int)=W*H) (k:1<=W) (j:1<=H) (hm:n<=256) (q:W<=256) (hH2:H<=256):
 Calls prog 88 #[.agg #[W,H, .slice ad n cap],x,y] w fun e w'=>e= .returned ↑(vV W H xs x y)/\Below w w w':=by
 obtain ⟨u,i2,i3,i4⟩:=KY hn k j x y;obtain ⟨A,D⟩:=JO x k;obtain ⟨E,F⟩:=JO y j;obtain ⟨m,z,f,c,b⟩:=(ha.alloc (.cells #[W,H, .slice ad n cap] 32)).at om;have hc:=b (y % H*W+x % W).toNat om;have l:m<w.heap.size+1:=by simpa using c
 subst f;have t:=Jh hn;have s:=Jh hl;clear b ha hn hl c;go_in;go_wp2_with fail
 go_quiet ((refine Calls.quiet_of_same ((Xr _ _ _ ?_ ?_).mono (fun e w' h=>⟨h.1,h.2.symm⟩)) <;>omega))
 go_wp2
 go_ret;exact ⟨rfl,nJ.trans (Joins.below_draws _ _ _)⟩
theorem OwnA.toRow (h:OwnA w B ad n cap xs):w.ownsRow B 3 1 (.slice ad n cap) n (xs.map (Value.int .i64)):=by
 rcases h with ⟨rfl,rfl,rfl,rfl⟩ | ⟨g,rfl,c,hl,b,hg,h1,h2,h3,h4⟩
 exact ⟨rfl, .inl ⟨rfl,rfl⟩⟩;exact ⟨by simp [hl], .inr ⟨g,cap,b,rfl,c,hg,h1,h2,om,by rw [Nat.mul_one];exact h4⟩⟩
theorem OwnA.ofRow (h:w.ownsRow B 3 1 v n (xs.map (Value.int .i64))): ∃ad cap,v= .slice ad n cap/\OwnA w B ad n cap xs:=by
 obtain ⟨hl,h⟩:=h;simp at hl;rcases h with ⟨rfl,rfl⟩ | ⟨g,cap,b,rfl,c,hg,h1,h2,h3,h4⟩
 obtain rfl:xs=[]:=List.eq_nil_of_length_eq_zero hl;exact ⟨Option.none,0,rfl,oN⟩;exact ⟨_,cap,rfl, .inr ⟨g,rfl,c,hl,b,hg,h1,h2,om,by rw [Nat.mul_one] at h4;exact h4⟩⟩
theorem Zi (ad:Option Addr) (n cap:Nat):(Value.slice ad n cap).ownBlock=zO ad:=by cases ad <;>rfl
theorem qQ (w:World) {rest:List Oper}
 (f:o.guard=none) (s x:Operand) (k:o.op= .call {callee:= .builtin .append,args:=#[s,x],argTypes:=#[22,22]})
 (B n cap:Nat) (ad:Option Addr) (xs:List Int) (D:a.eval s= .slice ad n cap) (A:OwnA w B ad n cap xs) (g:Nat) (v:Int) (E:a.eval x= .slice ↑g 1 1)
 (hc:w.cell? g=some ↑v) (hn:n<=1048576) (z:B<=w.heap.size)
 (hK: ∀c b w',OwnA w' B c (n+1) b (xs++ [v])->w.grownBy w' (zO ad)->wpList prog ops Q rest (a.put o.dst (.slice c (n+1) b)) w'):
 wpList prog ops Q (o::rest) a w:=by
 obtain ⟨i,hi,l,m,q⟩:=info_parts YN;refine wpList_append_own w f s x 22 k B 3 i ↑Z0 1 8 underlying22 hi l m q rfl dC _ n (xs.map (Value.int .i64)) D A.toRow ↑g 1 1 [↑v] E rfl ?_ ?_ (by unfold maxLen;omega) om z ?_;intro j u e
 match j,e with
 | 0,e=>simp at e;subst e;simpa [Addr.add] using hc
 intro u t;simp at t;subst t;rfl;intro F w' h2 h3 _;have h4:w'.ownsRow B 3 1 F (n+1) ((xs++ [v]).map (Value.int .i64)):=by simpa using h2
 obtain ⟨c,b,rfl,y⟩:=OwnA.ofRow h4;rw [Zi] at h3;exact hK c b w' y h3
theorem OwnA.other {w:World} {B n cap:Nat} {ad:Option Addr} {xs:List Int} (h:OwnA w B ad n cap xs) {a:Addr} (ha:a.block<B) (u:Value):OwnA (w.setCell a u) B ad n cap xs:=by
 rcases h with h | ⟨g,h1,h2,h⟩
 exact .inl h;exact .inr ⟨g,h1,h2,h.other om u⟩
theorem uD (e:OwnA wr B ad n cap xs) (hg:(wr.alloc O).grownBy w1 (zO ad)) (hb:Blk wr g T cs) (h:g<B):Blk w1 g T cs:=
 (hb.alloc O).zI hg (fun b c=>by have:=e.bd b c;omega)
theorem qw (c:OwnA wr B ad n cap xs) (hg:(wr.alloc O).grownBy w1 (zO ad)) (hb:Below C w0 wr) (h:C<B) (b:C<=wr.heap.size):Below C w0 w1:=
 (hb.alloc b O).grown hg sO (fun k hk=>by have:=c.bd k hk;omega)
theorem vv (n:Nat) (f:Nat->Int):gen n f++ [f n]=gen (n+1) f:=by
 simp [gen,List.range_succ]
def SB:Array Value:=(List.replicate 256 (Value.int .i64 0)).toArray
theorem Py (w:World):(Instr.alloc 165 true (.tuple #[])).run prog w= .ok (.pointer ↑w) (w.alloc (.cells SB 165)):=zK
theorem EJ (w:World) {rest:List Oper}
 (hg:o.guard=none) (c:o.op=Op.alloc 165)
 (hK: ∀C:Array Value,C=((List.replicate 256 0).map (Value.int .i64)).toArray->wpList prog ops Q rest (a.put o.dst (.pointer ↑w)) (w.alloc (.cells C 165))):
 wpList prog ops Q (o::rest) a w:=by
 refine wpList_plain hg fun K b=>?_;have hr:=Py w;unfold Oper.wp;simp [execOp,c,hr,Result.andThen];exact b _ _ (hK _ (by unfold SB;rw [List.map_replicate]))
section
variable {P : Program} (w : World)
open Op in
theorem FK (d N:Nat) (t e:TypeId) (xs ys:List Int) (i:TypeInfo) (ht:P.underlying t=some (.array N e)) (he:P.underlying e=some (.int .i64)) (hi:P.info? e=some i) (hs:i.size=1)
 (hx:xs.length=N) (hy:ys.length=N):
 (Op.equalIn (d+2) t (.agg (xs.map (Value.int .i64)).toArray) (.agg (ys.map (Value.int .i64)).toArray)).run P w= .ok (decide (xs=ys)) w:=by
 have hone: ∀(x y:Int) (w:World),(Op.equalIn (d+1) e ↑x ↑y).run P w= .ok (x==y) w:=by
  intro x y w;simp [Op.equalIn,run_underlying he]
 have hsz: ∀w:World,(sizeOf e).run P w= .ok 1 w:=by
  intro w;simp [sizeOf,typeInfo,hi,hs]
 have hag: ∀w:World,(isAgg e).run P w= .ok false w:=by
  intro w;simp [isAgg,run_underlying he]
 have hp: ∀(zs:List Int) (j:Nat) (w:World),j<zs.length->(part e (zs.map (Value.int .i64)).toArray (j*1)).run P w= .ok ↑(zs.getD j 0) w:=by
  intro zs j w hj;simp [part,hag,hj]
 have key: ∀(k s:Nat),s+k=N->xs.take s=ys.take s->
  (forIn (List.range' s k) ((none,()):Option Bool × Unit) (fun i (_:Option Bool × Unit)=>(do
   let a<-part e (xs.map (Value.int .i64)).toArray (i*1)
   let b<-part e (ys.map (Value.int .i64)).toArray (i*1)
   let c<-equalIn (d+1) e a b
   if (!c)=true then pure (ForInStep.done (some false,())) else pure (ForInStep.yield (none,())):Sem (ForInStep (Option Bool × Unit))))).run P w= .ok (if xs=ys then (none,()) else (some false,())) w:=by
  intro k
  induction k with
  | zero=>
   intro s hs ht
   have e1:xs=ys:=by
    rwa [Yk om,Yk om] at ht
   rw [if_pos e1];simp
  | succ k ih=>
   intro s hs ht;rw [List.range'_succ,List.forIn_cons];simp only [Sem.run_bind,hp xs s _ om,hp ys s _ om,Result.andThen_ok,hone];by_cases h:xs.getD s 0=ys.getD s 0
   rw [beq_iff_eq.2 h];simp only [Bool.not_true,Bool.false_eq_true,if_false,Sem.run_pure,Result.andThen_ok];exact ih (s+1) om (CY om om ht h);have h2:(xs.getD s 0==ys.getD s 0)=false:=by simpa using h
   rw [h2];have h3: ¬xs=ys:=fun he=>h (by rw [he]);rw [if_neg h3];simp
 rw [Op.equalIn];simp only [Sem.run_bind,run_underlying ht,Result.andThen_ok,hsz];simp only [Std.Legacy.Range.forIn_eq_forIn_range',Std.Legacy.Range.size,Nat.sub_zero,Nat.add_sub_cancel,Nat.div_one];have hk:=key N 0 om rfl;rw [hk];by_cases h:xs=ys
 simp [h];simp [h]
end
def XT (zs:List Int):Array Value:=(zs.map (Value.int .i64)).toArray
theorem Mw (b:List Int):(XT b).size=b.length:=by simp [XT]
theorem Pw (b:List Int) (j:Nat) (v:Int):(XT b).setIfInBounds j ↑v=XT (b.set j v):=by
 unfold XT;rw [List.setIfInBounds_toArray,List.map_set]
theorem aB (b:List Int) (j:Nat) (h:j<b.length):(XT b)[j]? =some (.int .i64 (b[j]?.getD 0)):=by
 simp [XT,h]
theorem FW:prog.underlying 165=some (.array 256 3):=zK
theorem WY:(prog.info? 165).map (·.size)=some 256:=zK
theorem fJ (xs ys:List Int) (e:xs.length=256) (f:ys.length=256) (b:Bool) (hb:decide (xs=ys)=b): ∀w,(Op.equalIn 10000 165 (.agg (XT xs)) (.agg (XT ys))).run prog w= .ok b w:=by
 intro w;obtain ⟨i,hi,_,c,_⟩:=info_parts YN;rw [<-hb];exact FK w 9998 256 165 3 xs ys i FW underlying3 hi c e f
theorem QH (xs:List Int) (k:Nat):(Zz xs k).length=256:=zk _ _
theorem UM (k:Nat):(qm k).length=256:=zk _ _
theorem iM (ad:Option Addr) (n cap:Nat) (xs:List Int) (w:World) (hn:xs.length=n) (ha:Rd w ad xs) (hm:n<=256):
 Calls prog 114 #[.slice ad n cap] w (zR (.bool (wD xs)) w):=by
 have b:=Jh hn;have M:=Jh ha;clear hn ha;go_in
 iterate 11 go_step
 refine EJ _ rfl rfl ?_;intro H f;refine EJ _ rfl rfl ?_;intro I j;have u:Hd (H=XT (Zz xs 0)):=Jh (by rw [SI];exact f);have x:Hd (I=XT (qm 0)):=Jh (by rw [Pj];exact j);clear f j
 go_wp2
 go_loopw [9] (fun i wr=> ∃k:Nat,k<=n/\i=↑k/\Hd (inR (xs.take k) n=true)/\Blk wr w 165 (XT (Zz xs k))/\Blk wr (w.heap.size+1) 165 (XT (qm k))/\Below w w wr) (fun i _=>n - (intOf i).toNat)
 exact ⟨0,nZ,rfl,rfl,by rw [<-u.Z];exact (Blk.new _ _ _).alloc _,by rw [<-x.Z];exact Blk.zD _ _ sI,nV⟩;obtain ⟨k,hk,rfl,E,m,q,hw⟩:=hrel;obtain ⟨c,e,t⟩:=JF m q hw;have z1:=c.Z.lt;have z2:=e.Z.lt;clear m q hw;by_cases D:k<n
 . obtain ⟨R,X,A,V,l⟩:=(M.Z.below t.Z).at (oh b)
   subst A;have h1:=l k (oh b);clear l;by_cases hv:0<=xs[k]?.getD 0/\xs[k]?.getD 0<(n:Int)
   . obtain ⟨r,hr⟩: ∃r:Nat,xs[k]?.getD 0=(r:Int):=⟨(xs[k]?.getD 0).toNat,om⟩
     have U:wr.cell? (R,X+k)=some ↑(r:Int):=by rw [<-hr];simpa [List.getD] using h1
     have y:=Jh hr;have W:(r:Int)<n:=om;have s:r<256:=om;clear h1 hr hv;have t2:=Uk (r:Int) xs k
     have c1:wr.cell? (w,r)=some ↑(zZ (r:Int) (xs.take k):Int):=by
      rw [c.Z.cell,aB _ _ (by rw [QH];omega),Lr _ _ _ s]
     have Y:=c.Z.frozen r
     have c2:wr.cell? (w.heap.size+1,k)=some (.int .i64 ((qm k)[k]?.getD 0)):=by
      rw [e.Z.cell,aB _ _ (by rw [UM];omega)]
     have f2:=e.Z.frozen k
     go_wp2
     go_roundw
     . refine ⟨k+1,om,by go_num,PE (oh b) E.Z (by rw [y.Z];omega) (by rw [y.Z];omega),?_,?_,(t.Z.setCell sI _).setCell sI _⟩
       have h:=(c.Z.set r (.int .i64 ((zZ (r:Int) (xs.take k):Int)+1))).other (a:=↑(w.heap.size+1,k)) sI ↑Z1;rw [Pw,SH _ _ _ (oh b) s y.Z] at h;exact h;have h:=(e.Z.other (a:=↑(w,r)) sI (.int .i64 ((zZ (r:Int) (xs.take k):Int)+1))).set k ↑Z1;rw [Pw,Ph _ om] at h;exact h
     exact Jm
   have N:=Jh (Gy b.Z k D hv);go_wp2_with fail
   all_goals (go_ret;first | exact ⟨zV N.Z.symm,t.Z⟩ | (exfalso;exact hv ⟨om,om⟩))
 obtain rfl:n=k:=om
 have z:Hd (inR xs n=true):=by
  have h:=E.Z;rw [Yk (oh b)] at h;exact h
 have he:=fJ (Zz xs n) (qm n) (QH _ _) (UM _) _ (zCT b.Z hm z.Z);have F:(prog.info? 165).map (·.size)=some (XT (Zz xs n)).size:=by rw [Mw,QH];exact WY
 have G:(prog.info? 165).map (·.size)=some (XT (qm n)).size:=by rw [Mw,UM];exact WY
 have J:=Jh F;have L:=Jh G;clear F G;go_wp2_with (first | (refine wpList_load_row rfl 165 (.tmp 3) rfl w rfl 165 _ (0,0) _ c.Z FW rfl J.Z ?_) | (refine wpList_load_row rfl 165 (.tmp 4) rfl (w.heap.size+1) rfl 165 _ (0,0) _ e.Z FW rfl L.Z ?_));go_ret;exact ⟨rfl,t.Z⟩
theorem xX (W H:Int) (ad:Option Addr) (n cap:Nat) (xs:List Int) (w:World) (hn:xs.length=n) (ha:Rd w ad xs) (hl:n<=9223372036854775807):
 Calls prog 71 #[.agg #[W,H, .slice ad n cap]] w (zR (.bool (yD W H xs)) w):=by
 have f:=Jh hn;have m:=Jh ha;clear hn ha;by_cases c:xO W H=true
 case neg=>
  have l:xO W H=false:=by simpa using c
  rw [MZ l];clear c;go_in;go_wp2_with (go_at_call 113;refine (uy _ _ _).mono ?_;rintro e w' ⟨rfl,rfl⟩);go_ret;exact ⟨rfl,nJ⟩
 obtain ⟨b1,b2,b3,s,t,u⟩:=kI c;by_cases b:(n:Int)=W*H
 case neg=>
  rw [Ma f.Z b];have k:((n:Int)==W*H)=false:=by simpa using b
  clear b;go_in;go_wp2_with (go_at_call 113;refine (uy _ _ _).mono ?_;rintro e w' ⟨rfl,rfl⟩);go_ret;exact ⟨rfl,nJ⟩
 rw [Ep f.Z c b];have j:n<=256:=om;have k:((n:Int)==W*H)=true:=by simpa using b
 clear b;go_in;go_wp2_with (go_at_call 113;refine (uy _ _ _).mono ?_;rintro e w' ⟨rfl,rfl⟩);refine (iM _ _ _ xs _ f.Z (m.Z.below nJ) j).mono ?_;rintro e w1 ⟨rfl,hb⟩;have q:=Jh (zL nJ hb);clear hb
 go_wp2
 go_ret;exact ⟨rfl,q.Z⟩
def Qk (bs:List Bool):Array Value:=(bs.map Value.bool).toArray
theorem zAd (b:List Bool) (j:Nat) (v:Bool):(Qk b).setIfInBounds j (.bool v)=Qk (b.set j v):=by
 unfold Qk;rw [List.setIfInBounds_toArray,List.map_set]
theorem sU:(prog.info? 4).map (fun i=>(i.zero,i.size,i.bytes))=some (some (.bool false),1,1):=zK
theorem zBD (w:World) {rest:List Oper}
 (hg:o.guard=none) (l c:Operand) (e:o.op=Op.makeSlice 112 l c) (q m:IntKind) (L C:Int) (n:Nat) (hl:a.eval l= .int q L) (hc:a.eval c= .int m C) (hL:L=(n:Int)) (s:C=(n:Int)) (hn:n<=17592186044416)
 (hK: ∀M:Array Value,M=Qk (List.replicate n false)->wpList prog ops Q rest (a.put o.dst (.slice ↑w n n)) (w.alloc (.cells M 4))):
 wpList prog ops Q (o::rest) a w:=by
 obtain ⟨i,hi,f,j,k⟩:=info_parts sU;refine wpList_plain hg fun K b=>?_;subst hL;subst s;have hr:=run_make (P:=prog) w 112 4 i (.bool false) underlying112 hi f q m n n om (Int.le_refl _) (by rw [k];omega) om;simp only [Yu,j,Nat.mul_one] at hr
 have hm:madeCells #[.bool false] n=Qk (List.replicate n false):=by
  apply Array.ext';rw [toList_madeCells_one];simp [Qk]
 unfold Oper.wp;simp only [Value.cells] at hr;simp [execOp,e,hl,hc,hr,Result.andThen];exact b _ _ (hK _ hm)
def Xc (xs:List Int) (n k:Nat):List Bool:=(List.range n).map (fun (r:Nat)=>decide ((r:Int) ∈ xs.take k))
theorem RG (xs:List Int) (n:Nat):Xc xs n 0=List.replicate n false:=by
 unfold Xc;apply List.ext_getElem?;intro i;by_cases h:i<n
 simp [h];simp [h]
theorem dF (xs:List Int) (n k r:Nat) (h:r<n):(Qk (Xc xs n k))[r]? =some (.bool (decide ((r:Int) ∈ xs.take k))):=by
 simp [Qk,Xc,h]
theorem RF (xs:List Int) (n k r:Nat) (hk:k<xs.length) (he:xs[k]?.getD 0=(r:Int)):(Xc xs n k).set r true=Xc xs n (k+1):=by
 simp only [Ya hk,Yz] at he;unfold Xc;apply List.ext_getElem?;intro i;rw [List.getElem?_set,Ym hk,he];by_cases h:r=i
 subst h;by_cases h2:r<n
 simp [h2];simp [h2];rw [if_neg h];by_cases h2:i<n
 have: ¬(i:Int)=(r:Int):=om;simp [h2,this];simp [h2]
theorem jA (W H:Int) (ad:Option Addr) (n cap:Nat) (xs:List Int) (w:World) (hn:xs.length=n) (ha:Rd w ad xs) (hl:n<=9223372036854775807):
 Calls prog 46 #[.agg #[W,H, .slice ad n cap]] w (zR (.bool (yD W H xs)) w):=by
 have c:=Jh hn;have L:=Jh ha;clear hn ha;by_cases q:xO W H=true
 case neg=>
  have G:xO W H=false:=by simpa using q
  rw [MZ G];go_in;go_wp2_with (go_at_call 85;refine (Vy _ _ _ q).mono ?_;rintro e w' ⟨rfl,rfl⟩);go_ret;exact ⟨rfl,nJ⟩
 obtain ⟨b1,b2,b3,b4,b5,b6⟩:=kI q;by_cases m:(n:Int)=W*H
 case neg=>
  rw [Ma c.Z m];have F:((n:Int) !=W*H)=true:=by simpa using m
  clear m;go_in;go_wp2_with (go_at_call 85;refine (XU _ _ _ q).mono ?_;rintro e w' ⟨rfl,rfl⟩);go_ret;exact ⟨rfl,nJ⟩
 rw [Ep c.Z q m];have Y:n<=256:=om;have X:1<=n:=om;have F:((n:Int) !=W*H)=false:=by simpa using m
 clear m;go_in;go_wp2_with (first | (go_at_call 85;refine (XU _ _ _ q).mono ?_;rintro e w' ⟨rfl,rfl⟩) | (at_make;refine zBD _ rfl _ _ rfl .i64 .i64 n n n rfl rfl rfl rfl om ?_;intro M hM))
 go_loopw [30] (fun i wr=> ∃k:Nat,k<=n/\i=↑k/\Hd (inR (xs.take k) n=true)/\Hd ((xs.take k).Nodup)/\Blk wr (w.heap.size+1) 4 (Qk (Xc xs n k))/\Below (w.heap.size+1) (w.alloc (.cells #[W,H, .slice ad n cap] 32)) wr) (fun i _=>n - (intOf i).toNat)
 exact ⟨0,nZ,rfl,rfl,List.nodup_nil,by rw [RG];exact Blk.zD _ _ sI,by exact bR.alloc (by first | exact nI | simp) _⟩;obtain ⟨k,hk,rfl,J,I,u,hw⟩:=hrel;have y:=Jh u;have A:=Jh hw;have z1:=y.Z.lt;have N:=Jh ((Blk.new w 32 #[W,H, .slice ad n cap]).below A.Z sI);obtain ⟨l1,c0,c1,c2⟩:=N.Z.c3;have j:=Jh ((Joins.below_alloc1 w _).trans (A.Z.mono sI));clear u hw;by_cases E:k<n
 . obtain ⟨R,oa,D,V,t⟩:=(L.Z.below j.Z).at (oh c)
   subst D;have h1:=t k (oh c);clear t;by_cases hv:0<=xs[k]?.getD 0/\xs[k]?.getD 0<(n:Int)
   . obtain ⟨r,hr⟩: ∃r:Nat,xs[k]?.getD 0=(r:Int):=⟨(xs[k]?.getD 0).toNat,om⟩
     have U:wr.cell? (R,oa+k)=some ↑(r:Int):=by rw [<-hr];simpa [List.getD] using h1
     have s:=Jh hr;have b0:(r:Int)<n:=om;have x:r<n:=om;have b:decide (0<=(r:Int)/\(r:Int)<=(n:Int) - 1)=true:=by rw [decide_eq_true_iff];omega
     clear h1 hr hv;have d1:=(y.Z.cell r).trans (dF xs n k r x);have f1:=y.Z.frozen r;by_cases hm:(r:Int) ∈ xs.take k
     . have f:decide ((r:Int) ∈ xs.take k)=true:=by simpa using hm
       rw [f] at d1;have l:=Jh hm;clear hm f;go_wp2_with fail;refine (YF _ _ _ _).mono ?_;rintro e w' ⟨rfl,rfl⟩;rw [b];clear b
       go_wp2
       go_ret;exact ⟨zV (Gx (Ni (k:=k) (oh c) (by rw [s.Z];exact l.Z))).symm,j.Z⟩
     have f:decide ((r:Int) ∈ xs.take k)=false:=by simpa using hm
     rw [f] at d1;have l:=Jh hm;clear hm f;go_wp2_with fail;refine (YF _ _ _ _).mono ?_;rintro e w' ⟨rfl,rfl⟩;rw [b];clear b
     go_wp2
     go_roundw
     . refine ⟨k+1,om,by go_num,PE (oh c) J.Z (by rw [s.Z];omega) (by rw [s.Z];omega),Gp (oh c) I.Z (by rw [s.Z];exact l.Z),?_,A.Z.setCell sI _⟩
       have h:=y.Z.set r (.bool true);rw [zAd,RF _ _ _ _ (oh c) s.Z] at h;exact h
     exact Jm
   have z:=Jh (Gy c.Z k E hv);have b:decide (0<=xs[k]?.getD 0/\xs[k]?.getD 0<=(n:Int) - 1)=false:=by rw [decide_eq_false_iff_not];omega
   clear hv;go_wp2_with fail;refine (YF _ _ _ _).mono ?_;rintro e w' ⟨rfl,rfl⟩;rw [b];clear b
   go_wp2
   go_ret;exact ⟨zV z.Z.symm,j.Z⟩
 obtain rfl:n=k:=om
 have z:Hd (wD xs=true):=by
  have h:=J.Z;have h2:=I.Z;rw [Yk (oh c)] at h h2;exact Jh (Ba c.Z h h2)
 go_wp2
 go_ret;exact ⟨zV z.Z.symm,j.Z⟩
theorem Az (W H:Int) (ad:Option Addr) (n cap:Nat) (xs:List Int) (w:World) (hn:xs.length=n) (ha:Rd w ad xs) (hl:n<=9223372036854775807):
 Calls prog 116 #[.agg #[W,H, .slice ad n cap]] w (VE w (Za W H xs)):=by
 have f:=Jh hn;have z:=Jh ha;clear hn ha;by_cases hp:yD W H xs=true
 case neg=>
  have I:yD W H xs=false:=by simpa using hp
  rw [Wy hp];clear hp;go_in;go_wp2_with fail;refine (xX _ _ _ _ _ xs _ f.Z (by exact (z.Z.alloc _).alloc _) hl).mono ?_;rintro e w1 ⟨rfl,hb⟩;have l:=Jh (nV.trans (hb.mono sO));have c:=Jh (((Blk.new w 32 #[W,H, .slice ad n cap]).alloc _).zA hb)
  have b:Hd (Blk w1 (w.heap.size+1) 32 ↑Zp):=by
   have h:=(Blk.new (w.alloc (.cells #[W,H, .slice ad n cap] 32)) 32 ↑Zp).zA hb;exact Jh (by simpa using h)
  obtain ⟨l1,c0,c1,c2⟩:=c.Z.c3;obtain ⟨m1,E,d1,d2⟩:=b.Z.c3;obtain ⟨M,N,R⟩:=b.Z.f3;clear hb;rw [I]
  go_wp2
  exact bodyPost_ret (v:= .agg ↑Zp) (by simp [results,results116,go_sem,E,d1,d2]) rfl ⟨none,0,0,rfl,oN,om,
   ((l.Z.setCell sD _).setCell sD _).setCell sD _⟩
 rw [FH f.Z hp];obtain ⟨s,U,hi,hd⟩:=jh f.Z hp;obtain ⟨b1,b2,b3,b4,b5,b6⟩:=kI s;obtain ⟨X,V,HD,Y⟩:=JG U hi hd s;have b7:1<=n:=om;have b8:n<=256:=om;clear U hi s hd;go_in;go_wp2_with fail;refine (xX _ _ _ _ _ xs _ f.Z (by exact (z.Z.alloc _).alloc _) hl).mono ?_;rintro e w1 ⟨rfl,hb⟩;have l:=Jh (nV.trans (hb.mono sO));have c:=Jh (((Blk.new w 32 #[W,H, .slice ad n cap]).alloc _).zA hb)
 have b:Hd (Blk w1 (w.heap.size+1) 32 ↑Zp):=by
  have h:=(Blk.new (w.alloc (.cells #[W,H, .slice ad n cap] 32)) 32 ↑Zp).zA hb;exact Jh (by simpa using h)
 obtain ⟨l1,c0,c1,c2⟩:=c.Z.c3;obtain ⟨m1,E,d1,d2⟩:=b.Z.c3;obtain ⟨M,N,R⟩:=b.Z.f3;clear hb;rw [hp];go_wp2_with fail;refine (Zk W H n _ Y.Z X.Z).mono ?_;rintro e w2 ⟨g,rfl,hg,j,hb⟩;obtain ⟨m,u,x,J⟩:=JG (l.Z.trans (hb.mono l.Z.size)) (c.Z.zA hb) (b.Z.zA hb) j;have q:Hd (w1.heap.size<=g):=Jh hg;clear hb hg j c0 c1 c2 E d1 d2 M N R;obtain ⟨l2,c0,c1,c2⟩:=u.Z.c3
 go_wp2
 go_loopw [18] (fun i wr=> ∃k:Nat,k<=n/\i=↑k/\Own wr g n n (zy (xs.map (fun v=>(n:Int) - 1 - v)) (List.replicate n 0) k)/\(w2.alloc (.cells #[W,H, .slice ↑g n n] 32)).grownBy wr (some g)) (fun i _=>n - (intOf i).toNat)
 exact ⟨0,nZ,rfl,by rw [xB];exact J.Z.alloc _,yU _ _⟩;obtain ⟨k,hk,rfl,j,hg⟩:=hrel;have t:=Jh ((m.Z.alloc m.Z.size _).grown hg (oS m.Z.size) (by intro k hk;cases hk;have:=q.Z;omega));have KO:=Jh ((Blk.new w2 32 #[W,H, .slice ↑g n n]).grown hg (oS J.Z.lt));obtain ⟨l0,o0,o1,o2⟩:=KO.Z.c3;have KP:=Jh ((u.Z.alloc _).grown hg (oT q.Z c.Z.lt));obtain ⟨l9,p0,p1,p2⟩:=KP.Z.c3;by_cases G:k<n
 . obtain ⟨ba,oa,F,b0,y⟩:=(z.Z.below t.Z).at (oh f)
   have h1:=y (k) (oh f);subst F;clear y;obtain ⟨v1,v2⟩:=Oz V.Z k (oh f);have g2:wr.cell? (g,k)=some ↑((zy (xs.map (fun v=>(n:Int) - 1 - v)) (List.replicate n 0) k).getD k 0):=j.cell G;have g3:wr.frozen? (g,k)=false:=j.frozen k;have s:=j.set k ((n:Int) - 1 - xs[k]?.getD 0);rw [yx (xs.map (fun v=>(n:Int) - 1 - v)) _ k _ (oS f.Z) sO (LC _ _ _ (oh f))] at s;have D:=Jh s;clear s j
   go_wp2
   go_roundw
   . exact ⟨k+1,om,by go_num,by simpa using D.Z,yX hg _⟩
   exact Jm
 obtain rfl:n=k:=om;have L:=Jh ((x.Z.alloc _).grown hg (oT q.Z x.Z.lt));obtain ⟨r0,r1,r2,r3⟩:=L.Z.c3;obtain ⟨q0,q1,q2⟩:=L.Z.f3;rw [jC (xs.map (fun v=>(n:Int) - 1 - v)) _ n (by simp [f.Z]) sI] at j;have A:=Jh j;clear j
 go_wp2
 exact bodyPost_ret (v:= .agg #[W,H, .slice ↑g n n]) (by simp [results,results116,go_sem,r1,r2,r3]) rfl
  ⟨_,_,_,rfl,OwnA.mk (((A.Z.other (oS q.Z) _).other (oS q.Z) _).other (oS q.Z) _) (oh q),om,
   ((t.Z.setCell sD _).setCell sD _).setCell sD _⟩
theorem zBw (xs:List Int) (f:Int->Int) (n:Nat) (h:xs.length=n):xs.map f=gen n (fun i=>f (xs[i]?.getD 0)):=by
 refine jP n _ _ (by simpa using h) (fun k hk=>?_);exact LC xs f k om
theorem Bt (W H:Int) (ad:Option Addr) (n cap:Nat) (xs:List Int) (w:World) (hn:xs.length=n) (ha:Rd w ad xs) (hl:n<=9223372036854775807):
 Calls prog 49 #[.agg #[W,H, .slice ad n cap]] w (VE w (Za W H xs)):=by
 have q:=Jh hn;have I:=Jh ha;clear hn ha;by_cases hp:yD W H xs=true
 case neg=>
  have N:yD W H xs=false:=by simpa using hp
  rw [Wy hp];clear hp;go_in;go_wp2_with fail;refine (jA _ _ _ _ _ xs _ q.Z (by exact (I.Z.alloc _).alloc _) hl).mono ?_;rintro e w1 ⟨rfl,hb⟩;have l:=Jh (nV.trans (hb.mono sO));have f:=Jh (((Blk.new w 32 #[W,H, .slice ad n cap]).alloc _).zA hb)
  have c:Hd (Blk w1 (w.heap.size+1) 32 ↑Zp):=by
   have h:=(Blk.new (w.alloc (.cells #[W,H, .slice ad n cap] 32)) 32 ↑Zp).zA hb;exact Jh (by simpa using h)
  obtain ⟨l1,c0,c1,c2⟩:=f.Z.c3;obtain ⟨m1,V,d1,d2⟩:=c.Z.c3;obtain ⟨X,Y,f2⟩:=c.Z.f3;clear hb;rw [N]
  go_wp2
  exact bodyPost_ret (v:= .agg ↑Zp) (by simp [results,results49,go_sem,V,d1,d2]) rfl ⟨none,0,0,rfl,oN,om,
   ((l.Z.setCell sD _).setCell sD _).setCell sD _⟩
 rw [FH q.Z hp,zBw xs _ n q.Z];obtain ⟨R,hq,hi,hd⟩:=jh q.Z hp;obtain ⟨b1,b2,b3,b4,b5,b6⟩:=kI R;obtain ⟨HQ,HI,HD,HS⟩:=JG hq hi hd R;have b8:1<=n:=om;have c4:n<=256:=om;clear hq hi R hd;go_in;go_wp2_with fail;refine (jA _ _ _ _ _ xs _ q.Z (by exact (I.Z.alloc _).alloc _) hl).mono ?_;rintro e w1 ⟨rfl,hb⟩;have l:=Jh (nV.trans (hb.mono sO));have f:=Jh (((Blk.new w 32 #[W,H, .slice ad n cap]).alloc _).zA hb)
 have c:Hd (Blk w1 (w.heap.size+1) 32 ↑Zp):=by
  have h:=(Blk.new (w.alloc (.cells #[W,H, .slice ad n cap] 32)) 32 ↑Zp).zA hb;exact Jh (by simpa using h)
 obtain ⟨l1,c0,c1,c2⟩:=f.Z.c3;obtain ⟨m1,V,d1,d2⟩:=c.Z.c3;obtain ⟨X,Y,f2⟩:=c.Z.f3;clear hb;rw [hp]
 go_wp2
 go_loopw [18] (fun i wr=> ∃(k:Nat) (j:Option Addr) (b:Nat),k<=n/\i=↑k/\OwnA wr (w1.heap.size+1) j k b (gen k ((fun i=>(n:Int) - 1 - xs[i]?.getD 0)))/\Blk wr (w1.heap.size) 32 #[(W),(H), .slice j k b]/\Below (w1.heap.size) (w1) wr) (fun i _=>n - (intOf i).toNat)
 exact ⟨0,none,0,nZ,rfl,oN,by first | exact Blk.new _ _ _ | exact Blk.zD _ _ sI,by first | exact nJ | exact bR.alloc sI _⟩;obtain ⟨k,j,b,hk,rfl,ho,z,D⟩:=hrel;obtain ⟨E,G,F⟩:=JF ho z D;obtain ⟨l0,o0,o1,o2⟩:=G.Z.c3;clear ho z D;have t:=Jh (l.Z.trans (F.Z.mono (og l.Z.size)));have KP:=Jh (f.Z.below F.Z f.Z.lt);obtain ⟨l9,s0,s1,s2⟩:=KP.Z.c3;by_cases b7:k<n
 . obtain ⟨ba,oa,M,b0,y⟩:=(I.Z.below t.Z).at (oh q)
   have h1:=y (k) (oh q);subst M;clear y;obtain ⟨v1,v2⟩:=Oz HI.Z k (oh q);go_wp2_with (at_builtin;refine qQ _ rfl (.tmp 23) (.tmp 30) rfl (w1.heap.size+1) k b j _ rfl (E.Z.alloc _) wr.heap.size ((n:Int) - 1 - xs[k]?.getD 0) rfl (by go_simp) om (oS G.Z.lt) ?_;intro x s w5 A u;have m:=Jh (uD E.Z u G.Z om);obtain ⟨l5,p0,p1,p2⟩:=m.Z.c3;obtain ⟨X,Y,f2⟩:=m.Z.f3);have L:=Jh (qw E.Z u F.Z om (og G.Z.lt));have J:=Jh A;clear A u;go_roundw
   . exact ⟨k+1,x,s,om,by go_num,(by rw [<-vv];exact J.Z.other sI _),by first | exact m.Z.set 2 _ | (have h:=m.Z.set 2 (.slice x (k+1) s);simpa using h),L.Z.setCell sI _⟩
   exact Jm
 obtain rfl:n=k:=om;have U:=Jh (c.Z.below F.Z c.Z.lt);obtain ⟨r0,r1,r2,r3⟩:=U.Z.c3;obtain ⟨q0,q1,q2⟩:=U.Z.f3
 go_wp2
 exact bodyPost_ret (v:= .agg #[(W),(H), .slice j _ b]) (by simp [results,results49,go_sem,r1,r2,r3]) rfl
  ⟨_,_,_,rfl,(((E.Z.other (by simp;try omega) _).other (by simp;try omega) _).other (by simp;try omega) _).mono (by have:=t.Z.size;try simp;omega),om,
   ((t.Z.setCell sD _).setCell sD _).setCell sD _⟩
theorem DZ (ys xs:List Int) (k:Nat) (hk:k<ys.length) (b:k<xs.length) (hv:ys.getD k 0=xs.getD k 0):zy ys xs k=zy ys xs (k+1):=by
 rw [<-yx ys xs k _ hk b rfl,hv];apply List.ext_getElem?;intro i;rw [List.getElem?_set];by_cases h:k=i
 subst h
 have e:(zy ys xs k)[k]? =some (xs.getD k 0):=by
  simp only [zy];rw [List.getElem?_append_right sO,List.getElem?_drop];simp only [Yj];rw [Nat.min_eq_left om,Nat.sub_self,Yy];simp [List.getD,b]
 have c:k<(zy ys xs k).length:=(List.getElem?_eq_some_iff.1 e).1;rw [if_pos rfl,if_pos c,e];rw [if_neg h]
end
section
open Go Tq Go.Proofs.Tryz
variable {a : Act} {fuel i id : Nat} {listed : Array Bool} {o oi : Oper} {rs : List Nat} {v : Value} {w : World}
section
variable {P : Program} {ops : Array Oper} {Q : Exit → Act → World → Prop} {md : Region.Mode} {S : World → Prop} {n : Nat}
def jm (P:Program) (md:Region.Mode) (ops:Array Oper) (Q:Exit->Act->World->Prop) (S:World->Prop) (n:Nat):Nat->Array Bool->Act->World->Prop
 | 0,listed,a,w=>Region.ready md ops listed=[]/\Q .normal a w
 | fuel+1,listed,a,w=>
  (Region.ready md ops listed=[]->Q .normal a w)/\
  ∀i ∈ Region.ready md ops listed,wpOp P ops Q i (fun a' w'=>(i<n->S w')/\jm P md ops Q S n fuel (listed.setIfInBounds i true) a' w') a w
theorem IQ: ∀(fuel:Nat) (listed:Array Bool) (a:Act) (w:World),jm P md ops Q S n fuel listed a w->wpAny P md ops Q fuel listed a w
 | 0,_,_,_,h=>h
 | fuel+1,_,_,_,h=>⟨h.1,fun i hi=>wpOp_mono (fun b w' c=>IQ fuel _ b w' c.2) (h.2 i hi)⟩
theorem Ru (hi:ops[i]? =some oi) (t: ∀(j:Nat) (o:Oper) cs b,ops[j]? =some o->o.op≠ .select cs b)
 (U: ∀c a w,Q (.panic c) (a.put oi.dst v) w->Q (.panic c) a w) (L:i<n) (V:Region.sinkB md ops n=true) (hc:Region.chainB md ops n=true) (hn:n<ops.size):
 ∀(fuel:Nat) (listed:Array Bool) (a:Act) (w:World),
  (∀j x,ops[j]? =some x->j≠i->listed.getD j true=false->(∀e ∈ x.after,Region.binds md e=true->e.on≠i)->oi.apart ops x=true)->HeadInv md ops n listed->
  i ∈ Region.ready md ops listed->YieldsIf P ops S oi v a->S w->
  jm P md ops Q S n fuel (listed.setIfInBounds i true) (a.put oi.dst v) w->jm P md ops Q S n (fuel+1) listed a w:=by
 intro fuel
 induction fuel with
 | zero=>
  intro listed a w _ _ hr I z H;refine ⟨fun h=>(by rw [h] at hr;cases hr),fun j y=>?_⟩;by_cases f:j=i
  subst f;exact I.wpOp hi z ⟨fun _=>z,H⟩;have:=ready_mono y f;rw [H.1] at this;cases this
 | succ fuel W=>
  intro listed a w l inv hr I z H;refine ⟨fun h=>(by rw [h] at hr;cases hr),fun j y=>?_⟩;by_cases f:j=i
  subst f;exact I.wpOp hi z ⟨fun _=>z,H⟩;have h1:=H.2 j (ready_mono y f);obtain ⟨s,x,u,A⟩:=mem_ready.1 y;have q:=(mem_ready.1 hr).1
  have E:j<n:=by
   by_cases h:j<n
   exact h;exact absurd y (tail_waits V hc hn inv (n - i) i rfl L q j om)
  have F: ∀e ∈ x.after,Region.binds md e=true->e.on≠i:=fun e he hb J=>by
   have h1:=A e he hb;rw [J,getD_both q] at h1;cases h1
  have h2:=wpOp_putIf u (l j x u f s F) (fun cs b=>t i oi cs b hi) (fun cs b=>t j x cs b u) U I h1
  have m: ∀k ok,ops[k]? =some ok->k≠i->(listed.setIfInBounds j true).getD k true=false->
   (∀e ∈ ok.after,Region.binds md e=true->e.on≠i)->oi.apart ops ok=true:=fun k ok hk M G N=>by
   refine l k ok hk M ?_ N;by_cases D:j=k
   subst D;exact s;rw [getD_set_ne true D] at G;exact G
  refine wpOp_mono (fun R w' h3=>⟨h3.2.1,W (listed.setIfInBounds j true) R w' m (inv.set y E) (ready_mono hr (Ne.symm f)) h3.1 (h3.2.1 E) ?_⟩) h2;rw [Array.setIfInBounds_comm _ _ f];exact h3.2.2
def Nt (md:Region.Mode) (ops:Array Oper) (n:Nat) (listed:Array Bool):Bool:=
 decide (listed.size=ops.size) &&
 (List.range ops.size).all (fun j=>!listed.getD j false || (match ops[j]? with | some oj=>oj.after.all (fun e=>!Region.binds md e || listed.getD e.on false) | none=>true)) &&
 (List.range ops.size).all (fun t=>decide (t<n) || !listed.getD t true)
theorem ak (h:Nt md ops n listed=true):HeadInv md ops n listed:=by
 unfold Nt at h;simp only [Bool.and_eq_true,decide_eq_true_eq,Yp,List.mem_range,Bool.or_eq_true,Bool.not_eq_true'] at h;obtain ⟨⟨h1,h2⟩,h3⟩:=h;refine ⟨h1,fun j l f hl e he hb=>?_,fun t k b=>?_⟩;have:=h2 j (Array.getElem?_eq_some_iff.1 f).1;rw [hl,f] at this;rcases this with h | h
 cases h;simp only at h;have c:=Array.all_eq_true_iff_forall_mem.1 h e he;rw [hb] at c;simpa using c;rcases h3 t b with h | h
 omega;exact h
theorem WC (hi:ops[i]? =some oi)
 (j:Region.noSelect ops=true) (hf:Region.free md ops listed i=true) (hr:(Region.ready md ops listed).contains i=true)
 (b:(decide (i<n) && Region.sinkB md ops n && Region.chainB md ops n && decide (n<ops.size) && Nt md ops n listed)=true)
 (e: ∀c a w,Q (.panic c) (a.put oi.dst v) w->Q (.panic c) a w) (k:YieldsIf P ops S oi v a) (f:S w)
 (h:jm P md ops Q S n fuel (listed.setIfInBounds i true) (a.put oi.dst v) w):jm P md ops Q S n (fuel+1) listed a w:=by
 simp only [Bool.and_eq_true,decide_eq_true_eq] at b;obtain ⟨⟨⟨⟨l,t2⟩,t3⟩,t4⟩,t5⟩:=b;exact Ru hi (Region.noSelect_spec j) e l t2 t3 t4 fuel listed a w (Region.free_spec hi hf) (ak t5) (by simpa using hr) k f h
theorem Qz (hr:Region.ready md ops listed=rs) (b:rs≠ [])
 (h: ∀i ∈ rs,wpOp P ops Q i (fun c w'=>(i<n->S w')/\jm P md ops Q S n fuel (listed.setIfInBounds i true) c w') a w):jm P md ops Q S n (fuel+1) listed a w:=
 ⟨fun e=>absurd (hr ▸ e) b,hr ▸ h⟩
theorem yG (hr:Region.ready md ops listed=[]) (h:Q .normal a w): ∀fuel,jm P md ops Q S n fuel listed a w
 | 0=>⟨hr,h⟩
 | _+1=>⟨fun _=>h,by rw [hr];simp⟩
theorem eO (hr:Region.ready md ops listed=[i]) (k:ops[i]? =some o)
 (h: ∀b:Act->World->Prop,Shut (∀a w,(i<n->S w)->((i<n->S w)->jm P md ops Q S n fuel (listed.setIfInBounds i true) a w)->b a w)->if Region.wanted o (yielded ops a.tmps)=true then Oper.wp P o a w b Q else b (a.put o.dst undef) w):
 jm P md ops Q S n (fuel+1) listed a w:=
 Qz hr sI (fun j f=>by
  obtain rfl:j=i:=by simpa using f
  exact wpOp_step k (fun b hK=>h b (fun a w c e=>hK a w ⟨c,e c⟩)))
theorem yA (n:Nat) (S:World->Prop) (hm:P.follows .mixedOrders=true) (b:S w.drew)
 (h:S w.drew->jm P .any ops Q S n ops.size (Array.replicate ops.size false) a w.drew):(Code.region id ops true).wp P Q a w:=
 wp_region_any hm (IQ _ _ _ _ (h b))
end
end
end Go.Proofs.YtlenfgdjdianiaaGreatDoor
