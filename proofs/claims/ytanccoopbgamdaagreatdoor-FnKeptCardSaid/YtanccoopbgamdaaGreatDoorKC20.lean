/-
  Contracts and plain facts on which the theorem of this claim rests, text 20.
-/
import Derived.Deep.LoopGhost
import Derived.Laws.CopyOwn
import Derived.Laws.Tables
import Derived.WalkMore
import Derived.Test.YtanccoopbgamdaaGreatDoorKC5
import Derived.Test.YtanccoopbgamdaaGreatDoorKC10
import Derived.Test.YtanccoopbgamdaaGreatDoorKC18
import Derived.Test.YtanccoopbgamdaaGreatDoorKC19
namespace Go.Proofs.YtanccoopbgamdaaGreatDoor
set_option linter.unusedVariables false
set_option linter.unusedSimpArgs false
section
variable {alt : Bool} {ks : List Prt} {W H : Int} {ink : List Int} {n : Nat}
structure RunAt (alt:Bool) (ks:List Prt) (W H:Int) (ink:List Int) (n t:Nat) (ds rs:List Int) (L:Int):Prop where
 hd:ds=(runG alt ks W H ink t).dots
 hL:L=(runG alt ks W H ink t).lost
 hl:rs.length=n
 old: ∀i,i<t→i<n→rs.getD (posAt alt W i) 0=(runG alt ks W H ink t).errs.getD (posAt alt W i) 0
 new: ∀i,t≤i→i<n→rs.getD (posAt alt W i) 0=(runG alt ks W H ink t).pend.getD (posAt alt W i) 0
theorem RunAt.start (h:RunOk alt ks W H ink n):RunAt alt ks W H ink n 0 (List.replicate n 0) ink 0:=
 ⟨by simp only [runG];rw [h.hl],rfl,h.hl,fun i hi=>by omega,fun i _ hi=>rfl⟩
theorem gives_agree {S:Nat→Prop} {a b:List Int × Int} {T:Nat→Option Nat} {sh:List Int} (hl:a.1.length=b.1.length) (h: ∀j,S j→a.1.getD j 0=b.1.getD j 0) (h2:a.2=b.2) (k:Nat):
   (∀j,S j→(gives T sh a k).1.getD j 0=(gives T sh b k).1.getD j 0)∧(gives T sh a k).2=(gives T sh b k).2:=by
 induction k with
 | zero=>exact ⟨h,h2⟩
 | succ k ih=>
   simp only [gives]
   exact ⟨give_agree (by rw [gives_len,gives_len,hl]) ih.1,give_lost _ _ _ _ ih.2⟩
theorem RunAt.here {t:Nat} {ds rs:List Int} {L:Int} (h:RunOk alt ks W H ink n) (r:RunAt alt ks W H ink n t ds rs L) (ht:t<n):
   rs.getD (posAt alt W t) 0=(runG alt ks W H ink t).pend.getD (posAt alt W t) 0∧ds.getD (posAt alt W t) 0=0∧-300000≤rs.getD (posAt alt W t) 0∧rs.getD (posAt alt W t) 0≤300000:=by
 have e:=r.new t (Nat.le_refl _) ht
 have b:=run_val h t (by omega) (posAt alt W t)
 have z:=(run_inv h t (by omega)).2.1 t (Nat.le_refl _) ht
 exact ⟨e,by rw [r.hd];exact z.1,by omega,by omega⟩
theorem RunAt.mid {t:Nat} {ds rs:List Int} {L:Int} (h:RunOk alt ks W H ink n) (r:RunAt alt ks W H ink n t ds rs L) (ht:t<n) (k:Nat) (hk:k≤ks.length):
   (∀i,t<i→i<n→(givesAt alt ks W H t (errOf (rs.getD (posAt alt W t) 0)) (rs.set (posAt alt W t) (errOf (rs.getD (posAt alt W t) 0)),L) k).1.getD (posAt alt W i) 0=(givesAt alt ks W H t (errOf ((runG alt ks W H ink t).pend.getD (posAt alt W t) 0)) ((runG alt ks W H ink t).pend.set (posAt alt W t) 0,(runG alt ks W H ink t).lost) k).1.getD (posAt alt W i) 0)∧
   (givesAt alt ks W H t (errOf (rs.getD (posAt alt W t) 0)) (rs.set (posAt alt W t) (errOf (rs.getD (posAt alt W t) 0)),L) k).2=(givesAt alt ks W H t (errOf ((runG alt ks W H ink t).pend.getD (posAt alt W t) 0)) ((runG alt ks W H ink t).pend.set (posAt alt W t) 0,(runG alt ks W H ink t).lost) k).2:=by
 have e:=(r.here h ht).1
 rw [e]
 unfold givesAt
 have l2:=(run_len (alt:=alt) (ks:=ks) (W:=W) (H:=H) (ink:=ink) t).2.1
 have g:=gives_agree (S:=fun j=> ∃i,t<i∧i<n∧j=posAt alt W i) (a:=(rs.set (posAt alt W t) (errOf ((runG alt ks W H ink t).pend.getD (posAt alt W t) 0)),L)) (b:=((runG alt ks W H ink t).pend.set (posAt alt W t) 0,(runG alt ks W H ink t).lost))
   (T:=fun q=>tgtAt alt W H t (prt ks q)) (sh:=sharesG ks (wtTo ks ks.length) (errOf ((runG alt ks W H ink t).pend.getD (posAt alt W t) 0)))
   (by simp only [List.length_set];rw [r.hl,l2,h.hl]) (fun j hj=>by
     obtain ⟨i,hi1,hi2,rfl⟩:=hj
     simp only
     rw [getD_set_ne _ _ (h.ne ht hi2 (by omega)),getD_set_ne _ _ (h.ne ht hi2 (by omega))]
     exact r.new i (by omega) hi2) r.hL k
 exact ⟨fun i h1 h2=>g.1 _ ⟨i,h1,h2,rfl⟩,g.2⟩
theorem RunAt.safe {t:Nat} {ds rs:List Int} {L:Int} (h:RunOk alt ks W H ink n) (r:RunAt alt ks W H ink n t ds rs L) (ht:t<n) (k:Nat) (hk:k<ks.length):
   -300000≤(givesAt alt ks W H t (errOf (rs.getD (posAt alt W t) 0)) (rs.set (posAt alt W t) (errOf (rs.getD (posAt alt W t) 0)),L) k).2∧(givesAt alt ks W H t (errOf (rs.getD (posAt alt W t) 0)) (rs.set (posAt alt W t) (errOf (rs.getD (posAt alt W t) 0)),L) k).2≤300000∧
   ∀i,tgtAt alt W H t (prt ks k)=some i→-300000≤(givesAt alt ks W H t (errOf (rs.getD (posAt alt W t) 0)) (rs.set (posAt alt W t) (errOf (rs.getD (posAt alt W t) 0)),L) k).1.getD i 0∧(givesAt alt ks W H t (errOf (rs.getD (posAt alt W t) 0)) (rs.set (posAt alt W t) (errOf (rs.getD (posAt alt W t) 0)),L) k).1.getD i 0≤300000:=by
 obtain ⟨m1,m2⟩:=r.mid h ht k (by omega)
 have b:=fun j=>mid_val h t ht k (by omega) j
 refine ⟨by rw [m2];exact (b 0).2.2.1,by rw [m2];exact (b 0).2.2.2,fun i hi=>?_⟩
 obtain ⟨q,q1,q2,rfl⟩:=h.tgt ht hk hi
 rw [m1 q q1 q2]
 exact ⟨(b _).1,(b _).2.1⟩
theorem RunAt.step {t:Nat} {ds rs:List Int} {L:Int} (h:RunOk alt ks W H ink n) (r:RunAt alt ks W H ink n t ds rs L) (ht:t<n):
   RunAt alt ks W H ink n (t+1) (ds.set (posAt alt W t) (dotOf (rs.getD (posAt alt W t) 0)))
     (givesAt alt ks W H t (errOf (rs.getD (posAt alt W t) 0)) (rs.set (posAt alt W t) (errOf (rs.getD (posAt alt W t) 0)),L) ks.length).1
     (givesAt alt ks W H t (errOf (rs.getD (posAt alt W t) 0)) (rs.set (posAt alt W t) (errOf (rs.getD (posAt alt W t) 0)),L) ks.length).2:=by
 obtain ⟨m1,m2⟩:=r.mid h ht ks.length (Nat.le_refl _)
 have e:=(r.here h ht).1
 obtain ⟨l1,l2,l3⟩:=run_len (alt:=alt) (ks:=ks) (W:=W) (H:=H) (ink:=ink) t
 have hp:=h.pos (alt:=alt) ht
 refine ⟨by rw [r.hd,e];rfl,by rw [m2];rfl,by rw [givesAt_len];simpa using r.hl,fun i hi hin=>?_,fun i hi hin=>?_⟩
 · have no: ∀q,q<ks.length→tgtAt alt W H t (prt ks q)≠some (posAt alt W i):=fun q hq hT=>by
     obtain ⟨m,k1,k2,k3⟩:=h.tgt ht hq hT
     exact h.ne hin k2 (by omega) k3
   have g:(givesAt alt ks W H t (errOf (rs.getD (posAt alt W t) 0)) (rs.set (posAt alt W t) (errOf (rs.getD (posAt alt W t) 0)),L) ks.length).1.getD (posAt alt W i) 0=(rs.set (posAt alt W t) (errOf (rs.getD (posAt alt W t) 0))).getD (posAt alt W i) 0:=gives_else no
   rw [g]
   simp only [runG,passG]
   by_cases c:i=t
   · subst c
     rw [getD_set _ _ _ _ (by rw [r.hl];exact hp),if_pos rfl,getD_set _ _ _ _ (by rw [l3,h.hl];exact hp),if_pos rfl,e]
   · rw [getD_set_ne _ _ (h.ne ht hin (by omega)),getD_set_ne _ _ (h.ne ht hin (by omega))]
     exact r.old i (by omega) hin
 · rw [m1 i (by omega) hin]
   rfl
theorem RunAt.done {ds rs:List Int} {L:Int} (h:RunOk alt ks W H ink n) (r:RunAt alt ks W H ink n n ds rs L):ds=(runG alt ks W H ink n).dots∧rs=(runG alt ks W H ink n).errs∧L=(runG alt ks W H ink n).lost:=by
 refine ⟨r.hd,?_,r.hL⟩
 have l3:=(run_len (alt:=alt) (ks:=ks) (W:=W) (H:=H) (ink:=ink) n).2.2
 have hlr:=r.hl
 have hli:=h.hl
 apply List.ext_getElem?
 intro j
 by_cases hj:j<n
 · have q:=h.pos (alt:=alt) hj
   have:=r.old (posAt alt W j) q q
   rw [posAt_inv h.W1 h.hn hj] at this
   simp only [List.getD,List.getElem?_eq_getElem (show j<rs.length by omega),List.getElem?_eq_getElem (show j<(runG alt ks W H ink n).errs.length by omega),Option.getD_some] at this
   rw [List.getElem?_eq_getElem (show j<rs.length by omega),List.getElem?_eq_getElem (show j<(runG alt ks W H ink n).errs.length by omega),this]
 · rw [List.getElem?_eq_none (by omega),List.getElem?_eq_none (by omega)]
end
end Go.Proofs.YtanccoopbgamdaaGreatDoor
namespace Go.Proofs.YtanccoopbgamdaaGreatDoor
open Go.RowKit
set_option linter.unusedVariables false
set_option linter.unusedSimpArgs false
def DNew (w wx:World) (kad:Option Addr) (kn kcap:Nat) (W H:Int) (n:Nat) (xs:List Int) (s:Value):Prop:=
 ∃D gp gr rc,s= .pointer (some ⟨D,0,none⟩)∧DSt wx w.heap.size D gp gr kad kn kcap W H n rc (List.replicate n 0) xs 0∧Below w.heap.size w wx
theorem step_store_row {P:Program} {w:World} {ops:Array Oper} {o:Oper} {a:Act} {K:Act→World→Prop} {Q:Exit→Act→World→Prop} {E:Prop}
   (hgd:o.guard=none) (ty:TypeId) (x y:Operand) (ho:o.op= .store ty x y) (g:Nat) (cells:Array Value) (hx:a.eval x= .pointer (some ⟨g,0,none⟩)) (hy:a.eval y= .agg cells)
   (t:TypeId) (old:Array Value) (hg:w.heap[g]? =some (.cells old t (0,0))) (hi:(P.info? ty).map (·.size)=some cells.size) (hold:old.size=cells.size) (h1:cells.all (·.oneCell')=true)
   (h:K (a.put o.dst undef) (w.setRow g cells)):if Region.wanted o (yielded ops a.tmps)=true then Oper.wp P o a w K Q else E:=by
 have hw:Region.wanted o (yielded ops a.tmps)=true:=by simp [Region.wanted,hgd]
 rw [if_pos hw]
 exact wp_store_row ty x y ho g cells hx hy t old hg hi hold h1 h
theorem Blk.c6z {w:World} {g T:Nat} {a b c d e f:Value} (h:Blk w g T #[a,b,c,d,e,f]):g<w.heap.size∧w.cell? ⟨g,0,none⟩=some a∧w.cell? ⟨g,1,none⟩=some b∧w.cell? ⟨g,2,none⟩=some c∧w.cell? ⟨g,3,none⟩=some d∧w.cell? ⟨g,4,none⟩=some e∧w.cell? ⟨g,5,none⟩=some f:=
 ⟨h.lt,by rw [h.cell];rfl,by rw [h.cell];rfl,by rw [h.cell];rfl,by rw [h.cell];rfl,by rw [h.cell];rfl,by rw [h.cell];rfl⟩
theorem wp_store_diff (w:World) {ops:Array Oper} {rest:List Oper} {o:Oper} {a:Act} {Q:Exit→Act→World→Prop} (hgd:o.guard=none) (x y:Operand) (ho:o.op= .store 162 x y)
   (g:Nat) (kad p q:Option Addr) (kn kcap m c m2 c2:Nat) (W H L:Int) (hx:a.eval x= .pointer (some ⟨g,0,none⟩)) (hy:a.eval y= .agg #[.slice kad kn kcap, .int .i64 W, .int .i64 H, .slice p m c, .slice q m2 c2, .int .i64 L])
   (T:Nat) (z0 z1 z2 z3 z4 z5:Value) (hb:Blk w g T #[z0,z1,z2,z3,z4,z5])
   (h:wpList Tryz.prog ops Q rest (a.put o.dst undef) (w.setRow g #[.slice kad kn kcap, .int .i64 W, .int .i64 H, .slice p m c, .slice q m2 c2, .int .i64 L])):wpList Tryz.prog ops Q (o::rest) a w:=
 wpList_store_row hgd 162 x y ho g _ hx hy T _ hb (by kernel_rfl) rfl (by simp;exact ⟨rfl,rfl,rfl,rfl,rfl,rfl⟩) h
theorem DSt.other {w:World} {B D gp gr kn kcap n rc:Nat} {kad:Option Addr} {W H L:Int} {ds rs:List Int} (h:DSt w B D gp gr kad kn kcap W H n rc ds rs L) {a:Addr} (ha: ¬Trio D gp gr a.block) (u:Value):DSt (w.setCell a u) B D gp gr kad kn kcap W H n rc ds rs L:=
 ⟨h.hD,h.hp,h.hr,h.n1,h.n2,h.n3,h.box.other (fun e=>ha (.inl e)) _,h.dots.other (fun e=>ha (.inr (.inl e))) _,h.rest.other (fun e=>ha (.inr (.inr e))) _⟩
theorem BelowH.setRow {w v:World} {D:Nat} (h:BelowH w v) (hD:w.heap.size≤D) (cs:Array Value):BelowH w (v.setRow D cs):=BelowH.mk (below_setRow h.out hD cs)
theorem dnew_mk {w v:World} {D g1 g2 n c kn kcap:Nat} {kad:Option Addr} {W H:Int} {xs:List Int} {zs:Array Value} (hB:BelowH w v) (hD:w.heap.size≤D) (kb:Blk v D 162 zs) (o1:Own v g1 n n (List.replicate n 0)) (o2:Own v g2 n c xs)
   (h1:w.heap.size≤g1) (h2:w.heap.size≤g2) (n1:D≠g1) (n2:D≠g2) (n3:g1≠g2):
   DNew w (v.setRow D #[.slice kad kn kcap, .int .i64 W, .int .i64 H, .slice (some ⟨g1,0,none⟩) n n, .slice (some ⟨g2,0,none⟩) n c, .int .i64 0]) kad kn kcap W H n xs (.pointer (some ⟨D,0,none⟩)):=
 ⟨D,g1,g2,c,rfl,⟨hD,h1,h2,n1,n2,n3,setRow_heap _ _ _ _ _ _ kb,o1.of_block (setRow_other _ _ _ _ n1.symm),o2.of_block (setRow_other _ _ _ _ n2.symm)⟩,below_setRow hB.out hD _⟩
theorem slotQ_run (alt:Bool) (ks:List Prt) (W H:Int) (t:Nat):slotQ ks W H (xAt alt W t) ((t:Int)/W) (wayAt alt ((t:Int)/W))=fun q=>tgtAt alt W H t (prt ks q):=rfl
theorem Keep.setNew {S:Nat→Prop} {w w':World} (h:Keep S w w') {a:Addr} (ha:w.heap.size≤a.block) (u:Value):Keep S w (w'.setCell a u):=
 ⟨h.os,h.tape,h.output,by simpa [World.setCell] using h.size,fun i hi hs=>(Below.heap_setCell w' a u i (by omega)).trans (h.block i hi hs)⟩
theorem pass_run (B D gp gr:Nat) (kad:Option Addr) (kn kcap:Nat) (W H:Int) (n rc:Nat) (ds rs xs:List Int) (L X Y way:Int) (alt:Bool) (t:Nat) (ks:List Prt) (w:World) (hd:DSt w B D gp gr kad kn kcap W H n rc ds rs L)
   (hkl:ks.length=kn) (hko:kernOk ks=true) (hkc:kn≤kcap) (hkr: ∀u,Keep (Trio D gp gr) w u→Rd u kad (flat ks))
   (w1:1≤W) (w2:W≤64) (h1:1≤H) (h2:H≤64) (hok:RunOk alt ks W H xs n) (hr:RunAt alt ks W H xs n t ds rs L) (ht:t<n)
   (hX:X=xAt alt W t) (hY:Y=(t:Int)/W) (hway:way=wayAt alt ((t:Int)/W)):
   Calls Tryz.prog 169 #[.pointer (some ⟨D,0,none⟩), .agg #[.int .i64 X, .int .i64 Y], .int .i64 way] w fun e w'=>e= .returned (.tuple #[])∧ ∃ds' rs' L',RunAt alt ks W H xs n (t+1) ds' rs' L'∧DSt w' B D gp gr kad kn kcap W H n rc ds' rs' L'∧Keep (Trio D gp gr) w w':=by
 subst hkl hX hY hway
 obtain ⟨q1,q2,q3,q4,q5,q6⟩:=posAt_at (alt:=alt) hok.W1 hok.hn ht
 obtain ⟨x1,x2⟩:=xAt_bd (alt:=alt) (i:=t) hok.W1
 obtain ⟨e1,e2,e3,e4⟩:=hr.here hok ht
 refine (impl_pass B D gp gr kad ks.length kcap W H n rc ds rs L (xAt alt W t) ((t:Int)/W) (wayAt alt ((t:Int)/W)) (rs.getD (posAt alt W t) 0) (posAt alt W t) ks w hd rfl hko hkc hkr w1 w2 h1 h2 hok.hn hok.nb x1 x2 q3 q4
   (by unfold wayAt;split <;>omega) q2.symm rfl e3 e4 e2 (fun k hk=>by rw [slotQ_run];exact hr.safe hok ht k hk)).mono ?_
 rintro e w' ⟨h1,h2,h3⟩
 rw [slotQ_run] at h2
 exact ⟨h1,_,_,_,hr.step hok ht,h2,h3⟩
theorem run_in {Wn Hn n y c:Nat} (hn:(n:Int)=(Wn:Int)*(Hn:Int)) (hy:y<Hn) (hc:c<Wn):y*Wn+c<n:=by
 have e:((Wn*Hn:Nat):Int)=(Wn:Int)*(Hn:Int):=Int.natCast_mul _ _
 have h1:(y+1)*Wn≤Hn*Wn:=Nat.mul_le_mul_right _ (by omega)
 rw [Nat.add_mul,Nat.one_mul,Nat.mul_comm Hn] at h1
 omega
theorem run_place {alt:Bool} {W:Int} {Wn y c:Nat} (hW:W=(Wn:Int)) (hc:c<Wn):((y*Wn+c:Nat):Int)/W=y∧((y*Wn+c:Nat):Int) % W=c:=by
 subst hW
 rw [Int.natCast_add,Int.natCast_mul]
 exact join_dm (by omega) (by omega)
theorem run_xF {alt:Bool} {W:Int} {Wn y c:Nat} (hW:W=(Wn:Int)) (hc:c<Wn) (h: ¬(alt=true∧(y:Int) % 2=1)):(c:Int)=xAt alt W (y*Wn+c)∧(1:Int)=wayAt alt (((y*Wn+c:Nat):Int)/W):=by
 obtain ⟨a,b⟩:=run_place (alt:=alt) (y:=y) hW hc
 unfold xAt wayAt
 rw [a,b,if_neg h,if_neg h]
 exact ⟨rfl,rfl⟩
theorem run_xR {alt:Bool} {W:Int} {Wn y c:Nat} (hW:W=(Wn:Int)) (hc:c<Wn) (h:alt=true∧(y:Int) % 2=1):W - 1 - (c:Int)=xAt alt W (y*Wn+c)∧(-1:Int)=wayAt alt (((y*Wn+c:Nat):Int)/W):=by
 obtain ⟨a,b⟩:=run_place (alt:=alt) (y:=y) hW hc
 unfold xAt wayAt
 rw [a,b,if_pos h,if_pos h]
 exact ⟨rfl,rfl⟩
set_option maxRecDepth 100000 in
set_option maxHeartbeats 3200000 in
theorem impl_diffused (kad:Option Addr) (kn kcap:Nat) (W H:Int) (ad:Option Addr) (n cap:Nat) (xs:List Int) (alt:Bool) (ks:List Prt) (w:World)
   (hkl:ks.length=kn) (hkr:Rd w kad (flat ks)) (hkc:kn≤kcap) (hko:kernOk ks=true) (hn:xs.length=n) (ha:Rd w ad xs) (hp:picOk W H xs 255=true):
   Calls Tryz.prog 134 #[.slice kad kn kcap, .agg #[.int .i64 W, .int .i64 H, .slice ad n cap], .bool alt] w fun e w'=> ∃gp gr rc,e= .returned (.agg #[.slice kad kn kcap, .int .i64 W, .int .i64 H, .slice (some ⟨gp,0,none⟩) n n, .slice (some ⟨gr,0,none⟩) n rc, .int .i64 (runG alt ks W H xs n).lost])∧
     Own w' gp n n (runG alt ks W H xs n).dots∧Own w' gr n rc (runG alt ks W H xs n).errs∧w.heap.size≤gp∧w.heap.size≤gr∧Below w.heap.size w w':=by
 have HKL:=Lib.hid hkl
 have HKR:=Lib.hid hkr
 have HKO:=Lib.hid hko
 have HRO:=Lib.hid (RunOk.of (alt:=alt) hn hko hp)
 have HN:=Lib.hid hn
 have HA:=Lib.hid ha
 clear hn ha
 obtain ⟨hs,hq,hi⟩:=picOk_bd HN.out hp
 obtain ⟨b1,b2,b3,b4,b5,b6⟩:=sizeOk_bd hs
 have HQ:=Lib.hid hq
 have HI:=Lib.hid hi
 have HS:=Lib.hid hs
 have hn1:1≤n:=by omega
 have hn2:n≤1024:=by omega
 clear hq hi hs
 clear hkl hkr hko
 go_enter Tryz.func134,Tryz.ntmps134
 go_upto_region 1 with fail
 have KP:=Lib.hid ((Blk.new w 27 #[.int .i64 W, .int .i64 H, .slice ad n cap]).alloc (.cells #[.slice none 0 0, .int .i64 0, .int .i64 0, .slice none 0 0, .slice none 0 0, .int .i64 0] 162))
 have KZ:=Lib.hid (Blk.new' (g:=w.heap.size+1) (w:=w.alloc (.cells #[.int .i64 W, .int .i64 H, .slice ad n cap] 27)) 162 #[.slice none 0 0, .int .i64 0, .int .i64 0, .slice none 0 0, .slice none 0 0, .int .i64 0] (by simp))
 have HAP:=Lib.hid ((HA.out.alloc (.cells #[.int .i64 W, .int .i64 H, .slice ad n cap] 27)).alloc (.cells #[.slice none 0 0, .int .i64 0, .int .i64 0, .slice none 0 0, .slice none 0 0, .int .i64 0] 162))
 have HBP:=Lib.hid (bAlloc (bAlloc (Below.refl w.heap.size w) (.cells #[.int .i64 W, .int .i64 H, .slice ad n cap] 27)) (.cells #[.slice none 0 0, .int .i64 0, .int .i64 0, .slice none 0 0, .slice none 0 0, .int .i64 0] 162))
 obtain ⟨wo,hwo⟩: ∃wo:World,wo=(w.alloc (.cells #[.int .i64 W, .int .i64 H, .slice ad n cap] 27)).alloc (.cells #[.slice none 0 0, .int .i64 0, .int .i64 0, .slice none 0 0, .slice none 0 0, .int .i64 0] 162):=⟨_,rfl⟩
 rw [←hwo] at KP KZ HAP HBP⊢
 clear hwo
 obtain ⟨ba,oa,hae,hal,_⟩:=HA.out.at (by have:=HN.out;omega)
 subst hae
 go_step3
 go_upto_region 1 with fail
 go_cut [7] (fun s7 wx=>DNew wo wx kad kn kcap W H n xs s7)
 case first=>
   obtain ⟨l0,o0,o1,o2⟩:=KP.out.c3
   have MK:Hid (∀v,BelowH wo v→v.cell? ⟨w.heap.size,0,none⟩=some (.int .i64 W)∧v.cell? ⟨w.heap.size,1,none⟩=some (.int .i64 H)∧v.cell? ⟨w.heap.size,2,none⟩=some (.slice (some ⟨ba,oa,none⟩) n cap)∧BelowH wo v):=Lib.hid (fun v hB=>⟨(hB.out.cell l0).trans o0,(hB.out.cell l0).trans o1,(hB.out.cell l0).trans o2,hB⟩)
   refine wp_region_held_drew (S:=fun v=>v.cell? ⟨w.heap.size,0,none⟩=some (.int .i64 W)∧v.cell? ⟨w.heap.size,1,none⟩=some (.int .i64 H)∧v.cell? ⟨w.heap.size,2,none⟩=some (.slice (some ⟨ba,oa,none⟩) n cap)∧BelowH wo v) (by kernel_rfl) (MK.out _ (BelowH.start _)) ?_
   intro hHeld
   have hb0:=held4 hHeld
   refine hTake 0 ?_
   refine hTake 1 ?_
   refine hTake 2 ?_
   refine hTake 3 ?_
   refine hTake 4 ?_
   refine hTake 6 ?_
   refine hTake 7 ?_
   refine wpAnyH_ready (rs:=[5,10]) (by kernel_rfl) (by simp) ?_
   refine AllReadyH.cons rfl (fun K hK=>?_) (AllReadyH.cons rfl (fun K hK=>?_) AllReadyH.nil)
   · go_simp
     go_at_call 20
     ((with_reducible refine (impl_blank W H n _ HS.out HQ.out).mono ?_);rintro e v1 ⟨g1,rfl,hg1,ho1,hq1⟩)
     have hb1:=BelowH.call hb0 hq1
     have hl1:=ho1.lt
     have hg1':=Nat.le_trans (BelowH.le hb0) hg1
     have hnp:=hl1
     go_wp2_with fail
     refine hK.out _ _ (by (try dsimp only);exact MK.out _ hb1) (fun hHeld=>?_)
     clear hK K
     refine wpAnyH_ready (rs:=[8,10]) (by kernel_rfl) (by simp) ?_
     refine AllReadyH.cons rfl (fun K hK=>?_) (AllReadyH.cons rfl (fun K hK=>?_) AllReadyH.nil)
     · go_simp
       go_at_call 63
       ((with_reducible refine (clone_ints ba oa n cap xs _ HN.out (by exact HAP.out.below (BelowH.out hb1)) hn1 (by omega)).mono ?_);rintro e v2 ⟨g2,c2,rfl,ho2,hg2,hq2⟩)
       have hb2:=BelowH.call hb1 hq2
       have hl2:=ho2.lt
       have hg2':=Nat.le_trans (BelowH.le hb1) hg2
       have hO1:=ho1.below hq2 ho1.lt
       go_wp2_with fail
       refine hK.out _ _ (by (try dsimp only);exact MK.out _ hb2) (fun hHeld=>?_)
       clear hK K
       refine hTake 9 ?_
       refine hOne 10 (fun K hK=>?_)
       go_simp
       refine hK.out _ _ (by (try dsimp only);exact MK.out _ (BelowH.alloc hb2 _)) (fun hHeld=>?_)
       clear hK K
       refine hOne 11 (fun K hK=>?_)
       refine step_store_row rfl _ _ _ rfl v2.heap.size _ (by rfl) (by rfl) _ _ (Blk.new v2 _ _) (by kernel_rfl) (by rfl) (by simp;exact ⟨rfl,rfl,rfl,rfl,rfl,rfl⟩) ?_
       refine hK.out _ _ (by (try dsimp only);exact MK.out _ (BelowH.setRow (BelowH.alloc hb2 _) hb2.le _)) (fun hHeld=>?_)
       clear hK K
       refine wpAnyH_done (by kernel_rfl) ?_ _
       (try go_simp)
       go_wp2_with fail
       go_meet
       exact dnew_mk (BelowH.alloc hb2 _) hb2.le (Blk.new v2 _ _) (hO1.alloc _) (ho2.alloc _) hg1' hg2' (by have:=hO1.lt;omega) (by omega) (by omega)
     · go_simp
       refine hK.out _ _ (by (try dsimp only);exact MK.out _ (BelowH.alloc hb1 _)) (fun hHeld=>?_)
       clear hK K
       refine hOne 8 (fun K hK=>?_)
       go_simp
       go_at_call 63
       ((with_reducible refine (clone_ints ba oa n cap xs _ HN.out (by exact HAP.out.below (BelowH.out (BelowH.alloc hb1 _))) hn1 (by omega)).mono ?_);rintro e v2 ⟨g2,c2,rfl,ho2,hg2,hq2⟩)
       have hb2:=BelowH.call (BelowH.alloc hb1 _) hq2
       have hl2:=ho2.lt
       have hg2':=Nat.le_trans (BelowH.le (BelowH.alloc hb1 _)) hg2
       have hO1:=(ho1.alloc _).below hq2 (ho1.alloc _).lt
       have kb:=(Blk.new v1 162 #[.slice none 0 0, .int .i64 0, .int .i64 0, .slice none 0 0, .slice none 0 0, .int .i64 0]).below' hq2
       go_wp2_with fail
       refine hK.out _ _ (by (try dsimp only);exact MK.out _ hb2) (fun hHeld=>?_)
       clear hK K
       refine hTake 9 ?_
       refine hOne 11 (fun K hK=>?_)
       refine step_store_row rfl _ _ _ rfl v1.heap.size _ (by rfl) (by rfl) _ _ kb (by kernel_rfl) (by rfl) (by simp;exact ⟨rfl,rfl,rfl,rfl,rfl,rfl⟩) ?_
       refine hK.out _ _ (by (try dsimp only);exact MK.out _ (BelowH.setRow hb2 hb1.le _)) (fun hHeld=>?_)
       clear hK K
       refine wpAnyH_done (by kernel_rfl) ?_ _
       (try go_simp)
       go_wp2_with fail
       go_meet
       exact dnew_mk hb2 hb1.le kb hO1 ho2 hg1' hg2' (by omega) (by simp at hg2;omega) (by simp at hg2;omega)
   · go_simp
     refine hK.out _ _ (by (try dsimp only);exact MK.out _ (BelowH.alloc hb0 _)) (fun hHeld=>?_)
     clear hK K
     refine hOne 5 (fun K hK=>?_)
     go_simp
     go_at_call 20
     ((with_reducible refine (impl_blank W H n _ HS.out HQ.out).mono ?_);rintro e v1 ⟨g1,rfl,hg1,ho1,hq1⟩)
     have hb1:=BelowH.call (BelowH.alloc hb0 _) hq1
     have hl1:=ho1.lt
     have hg1':=Nat.le_trans (BelowH.le (BelowH.alloc hb0 _)) hg1
     have kb1:=(Blk.new wo.drew 162 #[.slice none 0 0, .int .i64 0, .int .i64 0, .slice none 0 0, .slice none 0 0, .int .i64 0]).below' hq1
     go_wp2_with fail
     refine hK.out _ _ (by (try dsimp only);exact MK.out _ hb1) (fun hHeld=>?_)
     clear hK K
     refine hOne 8 (fun K hK=>?_)
     go_simp
     go_at_call 63
     ((with_reducible refine (clone_ints ba oa n cap xs _ HN.out (by exact HAP.out.below (BelowH.out hb1)) hn1 (by omega)).mono ?_);rintro e v2 ⟨g2,c2,rfl,ho2,hg2,hq2⟩)
     have hb2:=BelowH.call hb1 hq2
     have hl2:=ho2.lt
     have hg2':=Nat.le_trans (BelowH.le hb1) hg2
     have hO1:=ho1.below hq2 ho1.lt
     have kb:=kb1.below' hq2
     go_wp2_with fail
     refine hK.out _ _ (by (try dsimp only);exact MK.out _ hb2) (fun hHeld=>?_)
     clear hK K
     refine hTake 9 ?_
     refine hOne 11 (fun K hK=>?_)
     refine step_store_row rfl _ _ _ rfl wo.drew.heap.size _ (by rfl) (by rfl) _ _ kb (by kernel_rfl) (by rfl) (by simp;exact ⟨rfl,rfl,rfl,rfl,rfl,rfl⟩) ?_
     refine hK.out _ _ (by (try dsimp only);exact MK.out _ (BelowH.setRow hb2 hb0.le _)) (fun hHeld=>?_)
     clear hK K
     refine wpAnyH_done (by kernel_rfl) ?_ _
     (try go_simp)
     go_wp2_with fail
     go_meet
     exact dnew_mk hb2 hb0.le kb hO1 ho2 hg1' hg2' (by simp at hg1;omega) (by have:=kb1.lt;omega) (by omega)
 case rest =>
   obtain ⟨D,gp,gr,rc,rfl,hd,hb⟩:=hcut
   have HD0:=Lib.hid hd
   have HB0:=Lib.hid (bTrans HBP.out hb)
   have HZB:=Lib.hid (show w.heap.size+1<wo.heap.size from KZ.out.lt)
   have HKRc:=Lib.hid (show∀u,Keep (Trio D gp gr) wc u→Rd u kad (flat ks) from fun u hu=>HKR.out.below ((bTrans HBP.out hb).trans (hu.below (B:=w.heap.size) (fun i hi=>by have:=HD0.out.trio i hi;have:=HBP.out.size;omega) (by have:=HB0.out.size;omega))))
   have KPc:=Lib.hid (KP.out.below' hb)
   have KZc:=Lib.hid (KZ.out.below' hb)
   obtain ⟨Hn,hHn⟩: ∃Hn:Nat,H=(Hn:Int):=⟨H.toNat,by omega⟩
   obtain ⟨Wn,hWn⟩: ∃Wn:Nat,W=(Wn:Int):=⟨W.toNat,by omega⟩
   have HHn:=Lib.hid hHn
   have HWn:=Lib.hid hWn
   obtain ⟨l0,o0,o1,o2⟩:=KPc.out.c3
   clear hd hb hHn hWn
   go_wp2_with fail
   go_step3
   go_wp2_with fail
   go_loopg [23] Hn (fun g s23 wx=> ∃(y:Nat) (ds rs:List Int) (L:Int),y+g=Hn∧s23= .int .i64 y∧Hid (RunAt alt ks W H xs n (y*Wn) ds rs L)∧Hid (DSt wx wo.heap.size D gp gr kad kn kcap W H n rc ds rs L)∧Hid (Keep (Trio D gp gr) wc wx))
   case atStart=>exact ⟨0,_,_,_,by omega,rfl,Lib.hid (by rw [Nat.zero_mul];exact RunAt.start HRO.out),Lib.hid HD0.out,Lib.hid (Keep.refl _ _)⟩
   case round=>
     obtain ⟨y,ds,rs,L,hyg,rfl,HRA,HDS,HKP⟩:=hrel
     have KPr:=Lib.hid (HKP.out.blk KPc.out (fun h=>by have:=HD0.out.trio _ h;have:=HZB.out;omega))
     clear l0 o0 o1 o2
     obtain ⟨l0,o0,o1,o2⟩:=KPr.out.c3
     cases gk with
     | zero=>
       have hkz: ¬((y:Int)<H):=by have:=HHn.out;omega
       have KZr:=Lib.hid (HKP.out.blk KZc.out (fun h=>by have:=HD0.out.trio _ h;have:=HZB.out;omega))
       have KZs:=Lib.hid (setRow_heap wr (w.heap.size+1) _ #[.slice kad kn kcap, .int .i64 W, .int .i64 H, .slice (some ⟨gp,0,none⟩) n n, .slice (some ⟨gr,0,none⟩) n rc, .int .i64 L] _ _ KZr.out)
       have HYN:Hid (y*Wn=n):=Lib.hid (by
         have e:y=Hn:=by omega
         have e2:(n:Int)=(Wn:Int)*(Hn:Int):=by rw [←HWn.out,←HHn.out];exact HQ.out
         have e3:((Wn*Hn:Nat):Int)=(Wn:Int)*(Hn:Int):=Int.natCast_mul _ _
         rw [e,Nat.mul_comm];omega)
       obtain ⟨dl,c0,c1,c2,c3,c4,c5⟩:=HDS.out.c6
       go_wp2_with (with_reducible refine wp_store_diff wr rfl (.tmp 6) (.tmp 53) rfl (w.heap.size+1) kad (some ⟨gp,0,none⟩) (some ⟨gr,0,none⟩) kn kcap n n n rc W H L rfl rfl _ _ _ _ _ _ _ KZr.out ?_)
       obtain ⟨zl,z0,z1,z2,z3,z4,z5⟩:=Blk.c6z (show Blk _ _ _ _ from KZs.out)
       have HRB:=Lib.hid (HRA.out)
       have hrb:=HRB.out
       rw [HYN.out] at hrb
       obtain ⟨d1,d2,d3⟩:=hrb.done HRO.out
       have HD1:=Lib.hid d1
       have HD2:=Lib.hid d2
       have HD3:=Lib.hid d3
       have NP:gp≠w.heap.size+1:=by have:=HDS.out.hp;have:=HZB.out;omega
       have NR:gr≠w.heap.size+1:=by have:=HDS.out.hr;have:=HZB.out;omega
       have HBF:=Lib.hid (below_setRow (HB0.out.trans (HKP.out.below (B:=w.heap.size) (fun i hi=>by have:=HD0.out.trio i hi;have:=HZB.out;omega) (by have:=HB0.out.size;omega))) (show w.heap.size≤w.heap.size+1 by omega) #[.slice kad kn kcap, .int .i64 W, .int .i64 H, .slice (some ⟨gp,0,none⟩) n n, .slice (some ⟨gr,0,none⟩) n rc, .int .i64 L])
       clear d1 d2 d3 hrb
       exact bodyPost_ret (v:= .agg #[.slice kad kn kcap, .int .i64 W, .int .i64 H, .slice (some ⟨gp,0,none⟩) n n, .slice (some ⟨gr,0,none⟩) n rc, .int .i64 L]) (by simp [results,Tryz.results134,go_sem,z0,z1,z2,z3,z4,z5]) rfl
         ⟨gp,gr,rc,by rw [HD3.out],by rw [←HD1.out];exact HDS.out.dots.of_block (setRow_other _ _ _ _ NP),by rw [←HD2.out];exact HDS.out.rest.of_block (setRow_other _ _ _ _ NR),by have:=HDS.out.hp;have:=HZB.out;omega,by have:=HDS.out.hr;have:=HZB.out;omega,HBF.out⟩
     | succ g=>
       have hkz:(y:Int)<H:=by have:=HHn.out;omega
       have HNW:Hid ((n:Int)=(Wn:Int)*(Hn:Int)):=Lib.hid (by rw [←HWn.out,←HHn.out];exact HQ.out)
       have hwn1:1≤Wn:=by have:=HWn.out;omega
       have hyl:y<Hn:=by omega
       by_cases ha:alt=true∧(y:Int) % 2=1
       case pos=>
         obtain ⟨ha1,ha2⟩:=ha
         have HAA:=Lib.hid (show alt=true∧(y:Int) % 2=1 from ⟨ha1,ha2⟩)
         have ha3:((y:Int) % 2==1)=true:=by simpa using ha2
         clear ha2
         subst ha1
         go_wp2_with fail
         have KA0:=Lib.hid (Blk.new wr 149 #[.int .i64 (W - 1), .int .i64 y])
         have HDA:=Lib.hid (HDS.out.alloc (.cells #[.int .i64 (W - 1), .int .i64 y] 149))
         have HKA:=Lib.hid ((Keep.refl (Trio D gp gr) wr).alloc (.cells #[.int .i64 (W - 1), .int .i64 y] 149))
         have HTL:=Lib.hid HDS.out.trioLt
         obtain ⟨wq,hwq⟩: ∃wq:World,wq=wr.alloc (.cells #[.int .i64 (W - 1), .int .i64 y] 149):=⟨_,rfl⟩
         rw [←hwq] at KA0 HDA HKA⊢
         obtain ⟨A,hA⟩: ∃A,wr.heap.size=A:=⟨_,rfl⟩
         have HAQ:=Lib.hid hA
         rw [hA] at KA0⊢
         have pl:=KPr.out.lt
         rw [hA] at pl
         have HZ9:=Lib.hid pl
         obtain ⟨wb,hwb⟩: ∃wb:World,wb=wr:=⟨_,rfl⟩
         rw [←hwb] at HKA HKP HDS KPr HTL HAQ
         clear hwq hA hwb l0 o0 o1 o2
         go_loopg [49] Wn (fun g2 s49 wy=> ∃(c:Nat) (ds2 rs2:List Int) (L2:Int),c+g2=Wn∧Hid (RunAt true ks W H xs n (y*Wn+c) ds2 rs2 L2)∧Hid (DSt wy wo.heap.size D gp gr kad kn kcap W H n rc ds2 rs2 L2)∧Hid (Keep (Trio D gp gr) wb wy)∧Hid (Blk wy A 149 #[.int .i64 (W - 1 - (c:Int)), .int .i64 y]))
         case atStart=>exact ⟨0,_,_,_,by omega,HRA,HDA,HKA,Lib.hid (by simpa using KA0.out)⟩
         case round=>
           obtain ⟨c,ds2,rs2,L2,hcg,HR2,HD2,HK2,HA2⟩:=hrel
           have KP2:=Lib.hid (HK2.out.blk KPr.out (fun h=>by have:=HD0.out.trio _ h;have:=HZB.out;omega))
           obtain ⟨l0,o0,o1,o2⟩:=KP2.out.c3
           have a0:=HA2.out.cell 0
           have a1:=HA2.out.cell 1
           have f0:=HA2.out.frozen 0
           have al:=HA2.out.lt
           simp only [List.getElem?_toArray,List.getElem?_cons_zero,List.getElem?_cons_succ] at a0 a1
           cases gk with
           | zero=>
             obtain rfl:c=Wn:=by omega
             have k1:fitsB ((W - 1 - (c:Int))) W=false:=fitsB_no (by have:=HWn.out;omega)
             have cb:=HWn.out
             have cb1:-1≤W - 1 - (c:Int):=by omega
             clear cb
             go_wp2_with fail
             refine (impl_fits _ _ _ b1 b2).mono ?_
             rintro e w9 ⟨rfl,rfl⟩
             go_wp2_with fail
             go_roundg g
             case measure=>omega
             case rel=>exact ⟨y+1,ds2,rs2,L2,by omega,by go_num,Lib.hid (by rw [Nat.add_mul,Nat.one_mul];exact HR2.out),HD2,Lib.hid (HKP.out.trans HK2.out)⟩
           | succ g3=>
             have hcl:c<Wn:=by omega
             have hxx:=run_xR (alt:=true) (Wn:=Wn) (y:=y) HWn.out hcl (by first | exact ⟨rfl,HAA.out.2⟩ | exact fun h=>HAA.out ⟨trivial,h.2⟩ | simp)
             have HXX:=Lib.hid hxx
             have k1:fitsB ((W - 1 - (c:Int))) W=true:=fitsB_yes (by have:=HWn.out;omega) (by have:=HWn.out;omega)
             have cb:0≤W - 1 - (c:Int):=by have:=HWn.out;omega
             clear hxx
             go_wp2_with fail
             refine (impl_fits _ _ _ b1 b2).mono ?_
             rintro e w9 ⟨rfl,rfl⟩
             go_wp2_with fail
             refine (pass_run wo.heap.size D gp gr kad kn kcap W H n rc ds2 rs2 xs L2 ((W - 1 - (c:Int))) y (-1) true (y*Wn+c) ks _ HD2.out HKL.out HKO.out hkc (fun u hu=>HKRc.out u (HKP.out.trans (HK2.out.trans hu))) b1 b2 b3 b4 HRO.out HR2.out (run_in HNW.out hyl hcl) HXX.out.1 (run_place (alt:=true) HWn.out hcl).1.symm HXX.out.2).mono ?_
             rintro e w7 ⟨rfl,ds3,rs3,L3,hr3,hd3,hk3⟩
             have HR3:=Lib.hid hr3
             have HD3:=Lib.hid hd3
             have HK3:=Lib.hid (HK2.out.trans hk3)
             have HA3:=Lib.hid (hk3.blk HA2.out (fun h=>by have:=HTL.out _ h;have:=HAQ.out;omega))
             clear hr3 hd3 hk3 l0 o0 o1 o2 a0 a1 f0 al
             have a0:=HA3.out.cell 0
             have a1:=HA3.out.cell 1
             have f0:=HA3.out.frozen 0
             have al:=HA3.out.lt
             simp only [List.getElem?_toArray,List.getElem?_cons_zero,List.getElem?_cons_succ] at a0 a1
             go_wp2_with fail
             go_roundg g3
             case measure=>omega
             case rel=>
               have na: ¬Trio D gp gr A:=fun h=>by have:=HTL.out _ h;have:=HAQ.out;omega
               refine ⟨c+1,ds3,rs3,L3,by omega,HR3,Lib.hid (HD3.out.other (a:=⟨A,0,none⟩) na _),Lib.hid (HK3.out.setNew (by have:=HAQ.out;simp;omega) _),Lib.hid ?_⟩
               have h:=HA3.out.set 0 (.int .i64 ((W - 1 - (c:Int))+(-1)))
               rw [←show (W - 1 - (c:Int))+(-1)=W - 1 - ((c+1:Nat):Int) by omega]
               simpa using h
       case neg=>
         cases alt
         case true=>
           have ha2: ¬(y:Int) % 2=1:=fun h=>ha ⟨rfl,h⟩
           have HAA:=Lib.hid ha
           have ha3:((y:Int) % 2==1)=false:=by simpa using ha2
           clear ha2 ha
           go_wp2_with fail
           have KA0:=Lib.hid (Blk.new wr 149 #[.int .i64 0, .int .i64 y])
           have HDA:=Lib.hid (HDS.out.alloc (.cells #[.int .i64 0, .int .i64 y] 149))
           have HKA:=Lib.hid ((Keep.refl (Trio D gp gr) wr).alloc (.cells #[.int .i64 0, .int .i64 y] 149))
           have HTL:=Lib.hid HDS.out.trioLt
           obtain ⟨wq,hwq⟩: ∃wq:World,wq=wr.alloc (.cells #[.int .i64 0, .int .i64 y] 149):=⟨_,rfl⟩
           rw [←hwq] at KA0 HDA HKA⊢
           obtain ⟨A,hA⟩: ∃A,wr.heap.size=A:=⟨_,rfl⟩
           have HAQ:=Lib.hid hA
           rw [hA] at KA0⊢
           have pl:=KPr.out.lt
           rw [hA] at pl
           have HZ9:=Lib.hid pl
           obtain ⟨wb,hwb⟩: ∃wb:World,wb=wr:=⟨_,rfl⟩
           rw [←hwb] at HKA HKP HDS KPr HTL HAQ
           clear hwq hA hwb l0 o0 o1 o2
           go_loopg [49] Wn (fun g2 s49 wy=> ∃(c:Nat) (ds2 rs2:List Int) (L2:Int),c+g2=Wn∧Hid (RunAt true ks W H xs n (y*Wn+c) ds2 rs2 L2)∧Hid (DSt wy wo.heap.size D gp gr kad kn kcap W H n rc ds2 rs2 L2)∧Hid (Keep (Trio D gp gr) wb wy)∧Hid (Blk wy A 149 #[.int .i64 (c:Int), .int .i64 y]))
           case atStart=>exact ⟨0,_,_,_,by omega,HRA,HDA,HKA,Lib.hid (by simpa using KA0.out)⟩
           case round=>
             obtain ⟨c,ds2,rs2,L2,hcg,HR2,HD2,HK2,HA2⟩:=hrel
             have KP2:=Lib.hid (HK2.out.blk KPr.out (fun h=>by have:=HD0.out.trio _ h;have:=HZB.out;omega))
             obtain ⟨l0,o0,o1,o2⟩:=KP2.out.c3
             have a0:=HA2.out.cell 0
             have a1:=HA2.out.cell 1
             have f0:=HA2.out.frozen 0
             have al:=HA2.out.lt
             simp only [List.getElem?_toArray,List.getElem?_cons_zero,List.getElem?_cons_succ] at a0 a1
             cases gk with
             | zero=>
               obtain rfl:c=Wn:=by omega
               have k1:fitsB ((c:Int)) W=false:=fitsB_no (by have:=HWn.out;omega)
               have cb:=HWn.out
               have cb1:-1≤W - 1 - (c:Int):=by omega
               clear cb
               go_wp2_with fail
               refine (impl_fits _ _ _ b1 b2).mono ?_
               rintro e w9 ⟨rfl,rfl⟩
               go_wp2_with fail
               go_roundg g
               case measure=>omega
               case rel=>exact ⟨y+1,ds2,rs2,L2,by omega,by go_num,Lib.hid (by rw [Nat.add_mul,Nat.one_mul];exact HR2.out),HD2,Lib.hid (HKP.out.trans HK2.out)⟩
             | succ g3=>
               have hcl:c<Wn:=by omega
               have hxx:=run_xF (alt:=true) (Wn:=Wn) (y:=y) HWn.out hcl (by first | exact ⟨rfl,HAA.out.2⟩ | exact fun h=>HAA.out ⟨trivial,h.2⟩ | simp)
               have HXX:=Lib.hid hxx
               have k1:fitsB ((c:Int)) W=true:=fitsB_yes (by have:=HWn.out;omega) (by have:=HWn.out;omega)
               have cb:0≤W - 1 - (c:Int):=by have:=HWn.out;omega
               clear hxx
               go_wp2_with fail
               refine (impl_fits _ _ _ b1 b2).mono ?_
               rintro e w9 ⟨rfl,rfl⟩
               go_wp2_with fail
               refine (pass_run wo.heap.size D gp gr kad kn kcap W H n rc ds2 rs2 xs L2 ((c:Int)) y (1) true (y*Wn+c) ks _ HD2.out HKL.out HKO.out hkc (fun u hu=>HKRc.out u (HKP.out.trans (HK2.out.trans hu))) b1 b2 b3 b4 HRO.out HR2.out (run_in HNW.out hyl hcl) HXX.out.1 (run_place (alt:=true) HWn.out hcl).1.symm HXX.out.2).mono ?_
               rintro e w7 ⟨rfl,ds3,rs3,L3,hr3,hd3,hk3⟩
               have HR3:=Lib.hid hr3
               have HD3:=Lib.hid hd3
               have HK3:=Lib.hid (HK2.out.trans hk3)
               have HA3:=Lib.hid (hk3.blk HA2.out (fun h=>by have:=HTL.out _ h;have:=HAQ.out;omega))
               clear hr3 hd3 hk3 l0 o0 o1 o2 a0 a1 f0 al
               have a0:=HA3.out.cell 0
               have a1:=HA3.out.cell 1
               have f0:=HA3.out.frozen 0
               have al:=HA3.out.lt
               simp only [List.getElem?_toArray,List.getElem?_cons_zero,List.getElem?_cons_succ] at a0 a1
               go_wp2_with fail
               go_roundg g3
               case measure=>omega
               case rel=>
                 have na: ¬Trio D gp gr A:=fun h=>by have:=HTL.out _ h;have:=HAQ.out;omega
                 refine ⟨c+1,ds3,rs3,L3,by omega,HR3,Lib.hid (HD3.out.other (a:=⟨A,0,none⟩) na _),Lib.hid (HK3.out.setNew (by have:=HAQ.out;simp;omega) _),Lib.hid ?_⟩
                 have h:=HA3.out.set 0 (.int .i64 ((c:Int)+(1)))
                 rw [←show (c:Int)+(1)=((c+1:Nat):Int) by omega]
                 simpa using h
         case false=>
           have HAA:=Lib.hid ha
           clear ha
           go_wp2_with fail
           have KA0:=Lib.hid (Blk.new wr 149 #[.int .i64 0, .int .i64 y])
           have HDA:=Lib.hid (HDS.out.alloc (.cells #[.int .i64 0, .int .i64 y] 149))
           have HKA:=Lib.hid ((Keep.refl (Trio D gp gr) wr).alloc (.cells #[.int .i64 0, .int .i64 y] 149))
           have HTL:=Lib.hid HDS.out.trioLt
           obtain ⟨wq,hwq⟩: ∃wq:World,wq=wr.alloc (.cells #[.int .i64 0, .int .i64 y] 149):=⟨_,rfl⟩
           rw [←hwq] at KA0 HDA HKA⊢
           obtain ⟨A,hA⟩: ∃A,wr.heap.size=A:=⟨_,rfl⟩
           have HAQ:=Lib.hid hA
           rw [hA] at KA0⊢
           have pl:=KPr.out.lt
           rw [hA] at pl
           have HZ9:=Lib.hid pl
           obtain ⟨wb,hwb⟩: ∃wb:World,wb=wr:=⟨_,rfl⟩
           rw [←hwb] at HKA HKP HDS KPr HTL HAQ
           clear hwq hA hwb l0 o0 o1 o2
           go_loopg [49] Wn (fun g2 s49 wy=> ∃(c:Nat) (ds2 rs2:List Int) (L2:Int),c+g2=Wn∧Hid (RunAt false ks W H xs n (y*Wn+c) ds2 rs2 L2)∧Hid (DSt wy wo.heap.size D gp gr kad kn kcap W H n rc ds2 rs2 L2)∧Hid (Keep (Trio D gp gr) wb wy)∧Hid (Blk wy A 149 #[.int .i64 (c:Int), .int .i64 y]))
           case atStart=>exact ⟨0,_,_,_,by omega,HRA,HDA,HKA,Lib.hid (by simpa using KA0.out)⟩
           case round=>
             obtain ⟨c,ds2,rs2,L2,hcg,HR2,HD2,HK2,HA2⟩:=hrel
             have KP2:=Lib.hid (HK2.out.blk KPr.out (fun h=>by have:=HD0.out.trio _ h;have:=HZB.out;omega))
             obtain ⟨l0,o0,o1,o2⟩:=KP2.out.c3
             have a0:=HA2.out.cell 0
             have a1:=HA2.out.cell 1
             have f0:=HA2.out.frozen 0
             have al:=HA2.out.lt
             simp only [List.getElem?_toArray,List.getElem?_cons_zero,List.getElem?_cons_succ] at a0 a1
             cases gk with
             | zero=>
               obtain rfl:c=Wn:=by omega
               have k1:fitsB ((c:Int)) W=false:=fitsB_no (by have:=HWn.out;omega)
               have cb:=HWn.out
               have cb1:-1≤W - 1 - (c:Int):=by omega
               clear cb
               go_wp2_with fail
               refine (impl_fits _ _ _ b1 b2).mono ?_
               rintro e w9 ⟨rfl,rfl⟩
               go_wp2_with fail
               go_roundg g
               case measure=>omega
               case rel=>exact ⟨y+1,ds2,rs2,L2,by omega,by go_num,Lib.hid (by rw [Nat.add_mul,Nat.one_mul];exact HR2.out),HD2,Lib.hid (HKP.out.trans HK2.out)⟩
             | succ g3=>
               have hcl:c<Wn:=by omega
               have hxx:=run_xF (alt:=false) (Wn:=Wn) (y:=y) HWn.out hcl (by first | exact ⟨rfl,HAA.out.2⟩ | exact fun h=>HAA.out ⟨trivial,h.2⟩ | simp)
               have HXX:=Lib.hid hxx
               have k1:fitsB ((c:Int)) W=true:=fitsB_yes (by have:=HWn.out;omega) (by have:=HWn.out;omega)
               have cb:0≤W - 1 - (c:Int):=by have:=HWn.out;omega
               clear hxx
               go_wp2_with fail
               refine (impl_fits _ _ _ b1 b2).mono ?_
               rintro e w9 ⟨rfl,rfl⟩
               go_wp2_with fail
               refine (pass_run wo.heap.size D gp gr kad kn kcap W H n rc ds2 rs2 xs L2 ((c:Int)) y (1) false (y*Wn+c) ks _ HD2.out HKL.out HKO.out hkc (fun u hu=>HKRc.out u (HKP.out.trans (HK2.out.trans hu))) b1 b2 b3 b4 HRO.out HR2.out (run_in HNW.out hyl hcl) HXX.out.1 (run_place (alt:=false) HWn.out hcl).1.symm HXX.out.2).mono ?_
               rintro e w7 ⟨rfl,ds3,rs3,L3,hr3,hd3,hk3⟩
               have HR3:=Lib.hid hr3
               have HD3:=Lib.hid hd3
               have HK3:=Lib.hid (HK2.out.trans hk3)
               have HA3:=Lib.hid (hk3.blk HA2.out (fun h=>by have:=HTL.out _ h;have:=HAQ.out;omega))
               clear hr3 hd3 hk3 l0 o0 o1 o2 a0 a1 f0 al
               have a0:=HA3.out.cell 0
               have a1:=HA3.out.cell 1
               have f0:=HA3.out.frozen 0
               have al:=HA3.out.lt
               simp only [List.getElem?_toArray,List.getElem?_cons_zero,List.getElem?_cons_succ] at a0 a1
               go_wp2_with fail
               go_roundg g3
               case measure=>omega
               case rel=>
                 have na: ¬Trio D gp gr A:=fun h=>by have:=HTL.out _ h;have:=HAQ.out;omega
                 refine ⟨c+1,ds3,rs3,L3,by omega,HR3,Lib.hid (HD3.out.other (a:=⟨A,0,none⟩) na _),Lib.hid (HK3.out.setNew (by have:=HAQ.out;simp;omega) _),Lib.hid ?_⟩
                 have h:=HA3.out.set 0 (.int .i64 ((c:Int)+(1)))
                 rw [←show (c:Int)+(1)=((c+1:Nat):Int) by omega]
                 simpa using h
end Go.Proofs.YtanccoopbgamdaaGreatDoor
