/-
  Contracts and plain facts on which the theorem of this claim rests, text 27.
-/
import Derived.Test.YtanccoopbgamdaaGreatDoorKC2
import Derived.Test.YtanccoopbgamdaaGreatDoorKC24
import Derived.Test.YtanccoopbgamdaaGreatDoorKC26
namespace Go.Proofs.YtanccoopbgamdaaGreatDoor
set_option linter.unusedVariables false
set_option linter.unusedSimpArgs false
def Good (key:Int→Int) (f:Nat→Int) (x y:Nat):Prop:=Srt key f x y∧ ∀k,x≤k→k<y→(x:Int)≤f k∧f k<y
def AllGood (key:Int→Int) (f:Nat→Int) (bs n:Nat):Prop:= ∀s,bs ∣ s→s<n→Good key f s (min (s+bs) n)
theorem Good.congr {key:Int→Int} {f g:Nat→Int} {x y:Nat} (h:Good key f x y) (e: ∀k,x≤k→k<y→g k=f k):Good key g x y:=
 ⟨fun i j p q r=>by rw [e i p (by omega),e j (by omega) r];exact h.1 i j p q r,fun k p q=>by rw [e k p q];exact h.2 k p q⟩
theorem Good.less {key:Int→Int} {f:Nat→Int} {x m y:Nat} (h1:Good key f x m) (h2:Good key f m y):LLess f x m y:=fun i j p q r t=>by
 have a:=(h1.2 i p q).2
 have b:=(h2.2 j r t).1
 omega
theorem Good.merged {key:Int→Int} {f g:Nat→Int} {x m y:Nat} (h1:Good key f x m) (h2:Good key f m y) (hxm:x≤m) (hmy:m≤y) (hm:Merged key g f x y):Good key g x y:=by
 refine ⟨hm.srt,fun k p q=>?_⟩
 obtain ⟨k0,a0,a1,a2⟩:=hm.frm k p q
 rw [a2]
 by_cases c:k0<m
 · have:=h1.2 k0 a0 c;omega
 · have:=h2.2 k0 (by omega) a1;omega
theorem dvd_next {d s a:Nat} (hs:d ∣ s) (ha:d ∣ a) (h:s<a):s+d≤a:=by
 obtain ⟨x,rfl⟩:=hs
 obtain ⟨y,rfl⟩:=ha
 have hd:0<d:=by
   rcases Nat.eq_zero_or_pos d with e | e
   · subst e;simp at h
   · exact e
 have hxy:x<y:=Nat.lt_of_mul_lt_mul_left h
 have:=Nat.mul_le_mul_left d (show x+1≤y by omega)
 rw [Nat.mul_add,Nat.mul_one] at this
 exact this
structure Pass (key:Int→Int) (f:Nat→Int) (bs n a:Nat):Prop where
 pos:1≤bs
 da:2*bs ∣ a
 an:a≤n
 done: ∀s,2*bs ∣ s→s<a→Good key f s (s+2*bs)
 rest: ∀s,bs ∣ s→a≤s→s<n→Good key f s (min (s+bs) n)
theorem Pass.start {key:Int→Int} {f:Nat→Int} {bs n:Nat} (h:AllGood key f bs n) (hb:1≤bs):Pass key f bs n 0:=
 ⟨hb,Nat.dvd_zero _,Nat.zero_le _,fun s _ h=>by omega,fun s h1 _ h3=>h s h1 h3⟩
theorem dvd_half {bs a:Nat} (h:2*bs ∣ a):bs ∣ a:=Nat.dvd_trans ⟨2,by rw [Nat.mul_comm]⟩ h
theorem Pass.two {key:Int→Int} {f:Nat→Int} {bs n a:Nat} (P:Pass key f bs n a) {e:Nat} (h1:a+bs<e) (h2:e≤a+2*bs) (he:e=a+2*bs∨e=n) (hn:e≤n):Good key f a (a+bs)∧Good key f (a+bs) e:=by
 have pos:=P.pos
 have g1:=P.rest a (dvd_half P.da) (Nat.le_refl _) (by omega)
 have g2:=P.rest (a+bs) (Nat.dvd_add (dvd_half P.da) (Nat.dvd_refl _)) (by omega) (by omega)
 rw [show min (a+bs) n=a+bs by omega] at g1
 rw [show min (a+bs+bs) n=e by omega] at g2
 exact ⟨g1,g2⟩
theorem Pass.step {key:Int→Int} {f g:Nat→Int} {bs n a:Nat} (P:Pass key f bs n a) (h1:a+2*bs≤n) (hm:Merged key g f a (a+2*bs)):Pass key g bs n (a+2*bs):=by
 have pos:=P.pos
 obtain ⟨g1,g2⟩:=P.two (e:=a+2*bs) (by omega) (Nat.le_refl _) (Or.inl rfl) h1
 have g3:=g1.merged g2 (by omega) (by omega) hm
 refine ⟨pos,Nat.dvd_add P.da (Nat.dvd_refl _),h1,fun s hs hlt=>?_,fun s hs h2 h3=>?_⟩
 · by_cases c:s<a
   · have:=dvd_next hs P.da c
     exact (P.done s hs c).congr (fun k p q=>hm.same k (by omega))
   · have:s=a:=by
       by_cases e:s=a
       · exact e
       · have:=dvd_next P.da hs (by omega);omega
     subst this
     exact g3
 · exact (P.rest s hs (by omega) h3).congr (fun k p q=>hm.same k (by omega))
theorem Pass.last {key:Int→Int} {f g:Nat→Int} {bs n a:Nat} (P:Pass key f bs n a) (h1:n<a+2*bs) (h2:a+bs<n) (hm:Merged key g f a n):AllGood key g (2*bs) n:=by
 have pos:=P.pos
 obtain ⟨g1,g2⟩:=P.two (e:=n) h2 (by omega) (Or.inr rfl) (Nat.le_refl _)
 have g3:=g1.merged g2 (by omega) (by omega) hm
 intro s hs hlt
 by_cases c:s<a
 · have:=dvd_next hs P.da c
   rw [show min (s+2*bs) n=s+2*bs by have:=P.an;omega]
   exact (P.done s hs c).congr (fun k p q=>hm.same k (by omega))
 · have:s=a:=by
     by_cases e:s=a
     · exact e
     · have:=dvd_next P.da hs (by omega);omega
   subst this
   rw [show min (s+2*bs) n=n by omega]
   exact g3
theorem Pass.end_ {key:Int→Int} {f:Nat→Int} {bs n a:Nat} (P:Pass key f bs n a) (h1:n<a+2*bs) (h2: ¬a+bs<n):AllGood key f (2*bs) n:=by
 have pos:=P.pos
 intro s hs hlt
 by_cases c:s<a
 · have:=dvd_next hs P.da c
   rw [show min (s+2*bs) n=s+2*bs by have:=P.an;omega]
   exact P.done s hs c
 · have:s=a:=by
     by_cases e:s=a
     · exact e
     · have:=dvd_next P.da hs (by omega);omega
   subst this
   have g:=P.rest s (dvd_half P.da) (Nat.le_refl _) hlt
   rw [show min (s+bs) n=n by omega] at g
   rw [show min (s+2*bs) n=n by omega]
   exact g
theorem AllGood.whole {key:Int→Int} {f:Nat→Int} {bs n:Nat} (h:AllGood key f bs n) (h1:n≤bs) (hn:0<n):Good key f 0 n:=by
 have:=h 0 (Nat.dvd_zero _) hn
 rwa [show min (0+bs) n=n by omega] at this
theorem AllGood.inRow {key:Int→Int} {f:Nat→Int} {bs n:Nat} (h:AllGood key f bs n) (hb:1≤bs) (k:Nat) (hk:k<n):0≤f k∧f k<n:=by
 have e:=Nat.div_add_mod k bs
 have l:=Nat.mod_lt k (show 0<bs by omega)
 have g:=h (bs*(k/bs)) (Nat.dvd_mul_right _ _) (by omega)
 have:=g.2 k (by omega) (by omega)
 omega
theorem Pass.inRow {key:Int→Int} {f:Nat→Int} {bs n a:Nat} (P:Pass key f bs n a) (k:Nat) (hk:k<n):0≤f k∧f k<n:=by
 have pos:=P.pos
 by_cases c:k<a
 · have e:=Nat.div_add_mod k (2*bs)
   have l:=Nat.mod_lt k (show 0<2*bs by omega)
   have hs:2*bs ∣ 2*bs*(k/(2*bs)):=Nat.dvd_mul_right _ _
   have g:=(P.done (2*bs*(k/(2*bs))) hs (by omega)).2 k (by omega) (by omega)
   have:=dvd_next hs P.da (by omega)
   have:=P.an
   omega
 · have e:=Nat.div_add_mod k bs
   have l:=Nat.mod_lt k (show 0<bs by omega)
   have hs:bs ∣ bs*(k/bs):=Nat.dvd_mul_right _ _
   have h2:a≤bs*(k/bs):=by
     by_cases d:a≤bs*(k/bs)
     · exact d
     · have:=dvd_next hs (dvd_half P.da) (by omega);omega
   have g:=(P.rest (bs*(k/bs)) hs h2 (by omega)).2 k (by omega) (by omega)
   omega
structure First (key:Int→Int) (f:Nat→Int) (n a:Nat):Prop where
 da:20 ∣ a
 an:a≤n
 done: ∀s,20 ∣ s→s<a→Good key f s (s+20)
 rest: ∀k,a≤k→k<n→f k=(k:Int)
theorem First.step {key:Int→Int} {f g:Nat→Int} {n a:Nat} (P:First key f n a) (h1:a+20≤n) (hs:Srt key g a (a+20)) (hv: ∀p,a≤p→p<a+20→(a:Int)≤g p∧g p<(a+20:Nat)) (ho: ∀p,p<a∨a+20≤p→g p=f p):First key g n (a+20):=by
 refine ⟨Nat.dvd_add P.da (Nat.dvd_refl _),h1,fun s h2 h3=>?_,fun k h2 h3=>by rw [ho k (by omega)];exact P.rest k (by omega) h3⟩
 by_cases c:s<a
 · have:=dvd_next h2 P.da c
   exact (P.done s h2 c).congr (fun k p q=>ho k (by omega))
 · have:s=a:=by
     by_cases e:s=a
     · exact e
     · have:=dvd_next P.da h2 (by omega);omega
   subst this
   exact ⟨hs,hv⟩
theorem First.last {key:Int→Int} {f g:Nat→Int} {n a:Nat} (P:First key f n a) (h1:n<a+20) (hs:Srt key g a n) (hv: ∀p,a≤p→p<n→(a:Int)≤g p∧g p<n) (ho: ∀p,p<a∨n≤p→g p=f p):AllGood key g 20 n:=by
 intro s h2 h3
 by_cases c:s<a
 · have:=dvd_next h2 P.da c
   rw [show min (s+20) n=s+20 by have:=P.an;omega]
   exact (P.done s h2 c).congr (fun k p q=>ho k (by omega))
 · have:s=a:=by
     by_cases e:s=a
     · exact e
     · have:=dvd_next P.da h2 (by omega);omega
   subst this
   rw [show min (s+20) n=n by omega]
   exact ⟨hs,hv⟩
end Go.Proofs.YtanccoopbgamdaaGreatDoor
namespace Go.Proofs.YtanccoopbgamdaaGreatDoor
open Go.RowKit
set_option linter.unusedVariables false
set_option linter.unusedSimpArgs false
theorem sym5 (g:Nat) (cb:Array Value) (key:Int→Int) (blk n:Nat) (eg: ∀args w,(callFunc g args).run Tryz.prog w= .ok (.enter g args) w) (hn:n≤100000):
   ∀ (N a m b:Nat) (f:Nat→Int) (w:World),b - a≤N→CmpN g cb key blk n w→Own w blk n n (gen n f)→a<m→m<b→b≤n→InRow f n→Srt key f a m→Srt key f m b→LLess f a m b→
     Calls Tryz.prog 217 #[.slice (some ⟨blk,0,none⟩) n n, .int .i64 a, .int .i64 m, .int .i64 b, .func (.func g) #[] cb] w fun e w'=> ∃f',e= .returned (.tuple #[])∧Own w' blk n n (gen n f')∧w.grownBy w' (some blk)∧Merged key f' f a b:=by
 intro N
 induction N with
 | zero=>intro a m b f w hN hc ho h1 h2;omega
 | succ N ih=>
   intro a m b f w hN hc ho h1 h2 h3 hv sl sr hl
   by_cases ha:m=a+1
   · exact sym_left g cb key blk n a m b f w eg hc ho hn ha h2 h3 hv sr hl
   · by_cases hb:b=m+1
     · exact sym_right g cb key blk n a m b f w eg hc ho hn ha h1 hb h3 hv sl hl
     · exact sym_step g cb key blk n N eg hn ih a m b f w hN hc ho ha hb h1 h2 h3 hv sl sr hl
set_option maxRecDepth 100000 in
set_option maxHeartbeats 400000 in
theorem insertion0 (g:Nat) (cb:Array Value) (blk n a:Nat) (w:World) (hn:a≤100000):
   Calls Tryz.prog 216 #[.slice (some ⟨blk,0,none⟩) n n, .int .i64 a, .int .i64 a, .func (.func g) #[] cb] w fun e w'=>e= .returned (.tuple #[])∧w=w':=by
 go_enter Tryz.func216,Tryz.ntmps216
 go_wp2_with fail
 refine wp_loop_rounds 1 ?_;rw [rounds_succ]
 go_wp2_with fail
 go_end0
 exact ⟨rfl,rfl⟩
theorem insertionLast (g:Nat) (cb:Array Value) (key:Int→Int) (blk n a:Nat) (f:Nat→Int) (w:World) (eg: ∀args w,(callFunc g args).run Tryz.prog w= .ok (.enter g args) w) (hcmp:CmpN g cb key blk n w) (ho:Own w blk n n (gen n f)) (hn:n≤100000) (P:First key f n a) (h1:n<a+20):
   Calls Tryz.prog 216 #[.slice (some ⟨blk,0,none⟩) n n, .int .i64 a, .int .i64 n, .func (.func g) #[] cb] w fun e w'=> ∃f',e= .returned (.tuple #[])∧Own w' blk n n (gen n f')∧w.grownBy w' (some blk)∧AllGood key f' 20 n:=by
 by_cases h:a<n
 · exact (insertion5 g cb key blk n a n f w eg hcmp ho hn h (Nat.le_refl _) (fun k h1 h2=>P.rest k h1 h2)).mono (fun e w' ⟨f',he,ho',hg,hi⟩=>⟨f',he,ho',hg,P.last h1 hi.srt hi.val hi.out⟩)
 · have e:a=n:=by have:=P.an;omega
   subst e
   exact (insertion0 g cb blk a a w hn).mono (fun e w' ⟨he,hw⟩=>⟨f,he,by rw [←hw];exact ho,by rw [←hw];exact grown_refl _ _,P.last h1 (fun i j _ _ _=>by omega) (fun p _ _=>by omega) (fun p _=>rfl)⟩)
set_option maxRecDepth 100000 in
set_option maxHeartbeats 3200000 in
theorem stable5 (g:Nat) (cb:Array Value) (key:Int→Int) (blk n:Nat) (w:World) (eg: ∀args w,(callFunc g args).run Tryz.prog w= .ok (.enter g args) w) (hcmp:CmpN g cb key blk n w) (ho:Own w blk n n (gen n (fun k=>(k:Int)))) (hn:n≤100000) (hn0:0<n):
   Calls Tryz.prog 193 #[.slice (some ⟨blk,0,none⟩) n n, .int .i64 n, .func (.func g) #[] cb] w fun e w'=> ∃f',e= .returned (.tuple #[])∧Own w' blk n n (gen n f')∧w.grownBy w' (some blk)∧Good key f' 0 n:=by
 have HO:=Lib.hid ho
 have HC:Aside (CmpN g cb key blk n w):=hcmp
 have P0:Hid (First key (fun k=>(k:Int)) n 0):=Lib.hid ⟨Nat.dvd_zero _,Nat.zero_le _,fun s _ h=>by omega,fun k _ _=>rfl⟩
 clear ho hcmp
 go_enter Tryz.func193,Tryz.ntmps193
 go_wp2_with fail
 go_loopw [7,8] (fun va vb wr=> ∃(a b:Nat) (F:Nat→Int),va= .int .i64 a∧vb= .int .i64 b∧a+20≤b∧b≤a+20∧Hid (First key F n a)∧Hid (Own wr blk n n (gen n F))∧Hid (w.grownBy wr (some blk))) (fun va _ _=>n - (intOf va).toNat)
 case atStart=>exact ⟨0,20,_,rfl,rfl,by omega,by omega,P0,HO,Lib.hid (grown_refl _ _)⟩
 case round=>
   clear P0 HO
   obtain ⟨a,b,F,rfl,rfl,b1,b2,P,HR,HG⟩:=hrel
   have an:=P.out.an
   by_cases hlt:b≤n
   · have IN:=Lib.hid (fun k (h1:a≤k) (h2:k<b)=>P.out.rest k h1 (by omega))
     go_wp2_with fail
     refine (insertion5 g cb key blk n a b F _ eg (CmpN.on HC.out HG.out) HR.out hn (by omega) hlt IN.out).mono ?_
     rintro ex w2 ⟨f',rfl,ho,hg,hi⟩
     have HR2:=Lib.hid ho
     have HG2:=Lib.hid (grown_trans HG.out hg)
     have P2:Hid (First key f' n b):=Lib.hid (by
       have e:b=a+20:=by omega
       subst e
       exact P.out.step hlt hi.srt hi.val hi.out)
     clear ho hg hi IN
     go_wp2_with fail
     go_roundw
     case rel=>exact ⟨b,b+20,f',rfl,by go_num,by omega,by omega,P2,HR2,HG2⟩
     case measure=>simp [intOf];omega
   · go_wp2_with fail
     refine (insertionLast g cb key blk n a F _ eg (CmpN.on HC.out HG.out) HR.out hn P.out (by omega)).mono ?_
     rintro ex w2 ⟨f',rfl,ho,hg,hi⟩
     have HR2:=Lib.hid ho
     have HG2:=Lib.hid (grown_trans HG.out hg)
     have A2:=Lib.hid hi
     clear ho hg hi P HR HG
     go_wp2_with fail
     go_loopw [6,7,8,9] (fun vs v7 v8 v9 wr=> ∃(bs:Nat) (F:Nat→Int),vs= .int .i64 bs∧1≤bs∧bs≤200000∧Hid (AllGood key F bs n)∧Hid (Own wr blk n n (gen n F))∧Hid (w.grownBy wr (some blk))) (fun vs _ _ _ _=>n - (intOf vs).toNat)
     case atStart=>exact ⟨20,f',rfl,by omega,by omega,A2,HR2,HG2⟩
     case round=>
       clear A2 HR2 HG2
       obtain ⟨bs,F,rfl,s1,s2,AG,HR,HG⟩:=hrel
       by_cases hlt2:bs<n
       · obtain ⟨d,hd⟩: ∃d:Nat,d=2*bs:=⟨_,rfl⟩
         have zd:2*(bs:Int)=(d:Int):=by omega
         have zd2:(bs:Int)*2=(d:Int):=by omega
         have d1:bs+bs≤d:=by omega
         have d2:d≤bs+bs:=by omega
         have P0:=Lib.hid (Pass.start AG.out s1)
         have HDD:=Lib.hid hd
         clear hd
         go_wp2_with fail
         go_loopw [7,8] (fun va vb wr=> ∃(a b:Nat) (F:Nat→Int),va= .int .i64 a∧vb= .int .i64 b∧a+d≤b∧b≤a+d∧Hid (Pass key F bs n a)∧Hid (Own wr blk n n (gen n F))∧Hid (w.grownBy wr (some blk))) (fun va _ _=>n - (intOf va).toNat)
         case atStart=>exact ⟨0,d,F,rfl,rfl,by omega,by omega,P0,HR,HG⟩
         case round=>
           clear P0 HR HG AG
           obtain ⟨a,b,F,rfl,rfl,b1,b2,P,HR,HG⟩:=hrel
           have an:=P.out.an
           obtain ⟨m,hm⟩: ∃m:Nat,m=a+bs:=⟨_,rfl⟩
           have zm:(a:Int)+(bs:Int)=(m:Int):=by omega
           have m1:a+bs≤m:=by omega
           have m2:m≤a+bs:=by omega
           have HMM:=Lib.hid hm
           clear hm
           by_cases hlt3:b≤n
           · have G2:Hid (Good key F a m∧Good key F m b):=Lib.hid (by
               have h:=P.out.two (e:=b) (by omega) (by omega) (Or.inl (by omega)) hlt3
               rwa [←HMM.out] at h)
             have IR:=Lib.hid (show InRow F n from P.out.inRow)
             obtain ⟨b',hb'⟩: ∃b':Nat,b'=b+d:=⟨_,rfl⟩
             have zb:(b:Int)+(d:Int)=(b':Int):=by omega
             have b3:b+d≤b':=by omega
             have b4:b'≤b+d:=by omega
             clear hb'
             go_wp2_with fail
             refine (sym5 g cb key blk n eg hn (b - a) a m b F _ (Nat.le_refl _) (CmpN.on HC.out HG.out) HR.out (by omega) (by omega) hlt3 IR.out G2.out.1.1 G2.out.2.1 (G2.out.1.less G2.out.2)).mono ?_
             rintro ex w3 ⟨f'',rfl,ho,hg,hi⟩
             have HR3:=Lib.hid ho
             have HG3:=Lib.hid (grown_trans HG.out hg)
             have P3:Hid (Pass key f'' bs n b):=Lib.hid (by
               have e:b=a+2*bs:=by omega
               subst e
               exact P.out.step hlt3 hi)
             clear ho hg hi G2 IR
             go_wp2_with fail
             go_roundw
             case rel=>exact ⟨b,b',f'',rfl,rfl,b3,b4,P3,HR3,HG3⟩
             case measure=>simp [intOf];omega
           · by_cases hlt4:m<n
             · have G2:Hid (Good key F a m∧Good key F m n):=Lib.hid (by
                 have h:=P.out.two (e:=n) (by omega) (by omega) (Or.inr rfl) (Nat.le_refl _)
                 rwa [←HMM.out] at h)
               have IR:=Lib.hid (show InRow F n from P.out.inRow)
               go_wp2_with fail
               refine (sym5 g cb key blk n eg hn (n - a) a m n F _ (Nat.le_refl _) (CmpN.on HC.out HG.out) HR.out (by omega) hlt4 (Nat.le_refl _) IR.out G2.out.1.1 G2.out.2.1 (G2.out.1.less G2.out.2)).mono ?_
               rintro ex w3 ⟨f'',rfl,ho,hg,hi⟩
               have HR3:=Lib.hid ho
               have HG3:=Lib.hid (grown_trans HG.out hg)
               have A3:Hid (AllGood key f'' d n):=Lib.hid (by
                 rw [HDD.out]
                 exact P.out.last (by omega) (by omega) hi)
               clear ho hg hi G2 IR
               go_wp2_with fail
               go_roundw
               case rel=>exact ⟨d,f'',rfl,by omega,by omega,A3,HR3,HG3⟩
               case measure=>simp [intOf];omega
             · have A3:Hid (AllGood key F d n):=Lib.hid (by
                 rw [HDD.out]
                 exact P.out.end_ (by omega) (by omega))
               go_wp2_with fail
               go_roundw
               case rel=>exact ⟨d,F,rfl,by omega,by omega,A3,HR,HG⟩
               case measure=>simp [intOf];omega
       · have GW:=Lib.hid (AG.out.whole (by omega) hn0)
         go_wp2_with fail
         go_end0
         exact ⟨F,rfl,HR.out,HG.out,GW.out⟩
set_option maxRecDepth 100000 in
set_option maxHeartbeats 400000 in
theorem sortStable5 (g:Nat) (cb:Array Value) (key:Int→Int) (blk n:Nat) (w:World) (eg: ∀args w,(callFunc g args).run Tryz.prog w= .ok (.enter g args) w) (hcmp:CmpN g cb key blk n w) (ho:Own w blk n n (gen n (fun k=>(k:Int)))) (hn:n≤100000) (hn0:0<n):
   Calls Tryz.prog 156 #[.slice (some ⟨blk,0,none⟩) n n, .func (.func g) #[] cb] w fun e w'=> ∃f',e= .returned (.tuple #[])∧Own w' blk n n (gen n f')∧w.grownBy w' (some blk)∧Good key f' 0 n:=by
 have HO:=Lib.hid ho
 have HC:Aside (CmpN g cb key blk n w):=hcmp
 clear ho hcmp
 go_enter Tryz.func156,Tryz.ntmps156
 go_wp2_with fail
 refine (stable5 g cb key blk n _ eg HC.out HO.out hn hn0).mono ?_
 rintro ex w2 ⟨f',rfl,ho,hg,hi⟩
 have HR2:=Lib.hid ho
 have HG2:=Lib.hid hg
 have HI2:=Lib.hid hi
 clear ho hg hi
 go_wp2_with fail
 go_end0
 exact ⟨f',rfl,HR2.out,HG2.out,HI2.out⟩
end Go.Proofs.YtanccoopbgamdaaGreatDoor
namespace Go.Proofs.YtanccoopbgamdaaGreatDoor
set_option linter.unusedVariables false
set_option linter.unusedSimpArgs false
def RLb (key:Int→Int) (x y:Int):Bool:=decide (key x<key y) || (decide (key x=key y) && decide (x<y))
theorem RLb_iff {key:Int→Int} {x y:Int}:RLb key x y=true↔RL key x y:=by unfold RLb RL;simp
def placeC (key:Int→Int) (i:Int):Nat→Nat
 | 0=>0
 | k+1=>placeC key i k+if RLb key (k:Int) i=true then 1 else 0
theorem placeC_count (key:Int→Int) (i:Int) (n:Nat):placeC key i n=(List.range n).countP (fun (k:Nat)=>RLb key (k:Int) i):=by
 induction n with
 | zero=>rfl
 | succ n ih=>rw [List.range_succ,List.countP_append,←ih,placeC];simp [List.countP_cons]
theorem count_below (n j:Nat) (h:j≤n):(List.range n).countP (fun (k:Nat)=>decide (k<j))=j:=by
 induction n with
 | zero=>simp at h;subst h;rfl
 | succ n ih=>
   rw [List.range_succ,List.countP_append]
   by_cases e:j=n+1
   · subst e
     have h1:(List.range n).countP (fun (k:Nat)=>decide (k<n+1))=(List.range n).countP (fun _=>true):=List.countP_congr (fun x hx=>by simp at hx;simp;omega)
     rw [h1];simp
   · rw [ih (by omega)];simp [List.countP_cons];omega
theorem perm_of_sub: ∀(xs ys:List Nat),xs.Nodup→xs ⊆ ys→xs.length=ys.length→xs.Perm ys
 | [],ys,_,_,hl=>by
   have:ys=[]:=List.eq_nil_of_length_eq_zero (by simpa using hl.symm)
   subst this;exact List.Perm.refl _
 | x::xs,ys,hd,hs,hl=>by
   have hx:x ∈ ys:=hs (List.mem_cons_self ..)
   have hnx: ¬x ∈ xs:=(List.nodup_cons.1 hd).1
   have h1:xs ⊆ ys.erase x:=fun a ha=>(List.mem_erase_of_ne (show a≠x from fun e=>by subst e;exact hnx ha)).2 (hs (List.mem_cons_of_mem _ ha))
   have h2:xs.length=(ys.erase x).length:=by rw [List.length_erase_of_mem hx];simp at hl;omega
   exact ((perm_of_sub xs (ys.erase x) (List.nodup_cons.1 hd).2 h1 h2).cons x).trans (List.perm_cons_erase hx).symm
theorem range_perm {n:Nat} {t:Nat→Nat} (ht: ∀i,i<n→t i<n) (hi: ∀i j,i<n→j<n→t i=t j→i=j):((List.range n).map t).Perm (List.range n):=by
 have hd:((List.range n).map t).Nodup:=by
   rw [List.Nodup,List.pairwise_map]
   exact List.Pairwise.imp_of_mem (fun {a b} ha hb hab=>by
     simp at ha hb
     intro e
     exact hab (hi a b ha hb e)) List.nodup_range
 have hs:(List.range n).map t ⊆ List.range n:=by
   intro x hx
   simp at hx⊢
   obtain ⟨a,ha,rfl⟩:=hx
   exact ht a ha
 exact perm_of_sub _ _ hd hs (by simp)
theorem place_at {key:Int→Int} {f:Nat→Int} {n j:Nat} (h:Good key f 0 n) (hj:j<n):placeC key (f j) n=j:=by
 have hv: ∀k,k<n→(0:Int)≤f k∧f k<n:=fun k hk=>by have:=h.2 k (Nat.zero_le _) hk;omega
 have lt_iff: ∀a b,a<n→b<n→(RL key (f a) (f b)↔a<b):=by
   intro a b ha hb
   constructor
   · intro hr
     by_cases c:a<b
     · exact c
     · exfalso
       by_cases e:a=b
       · subst e;exact RL.irrefl hr
       · exact RL.irrefl (hr.trans (h.1 b a (Nat.zero_le _) (by omega) ha))
   · intro c;exact h.1 a b (Nat.zero_le _) c hb
 have hp:=range_perm (n:=n) (t:=fun k=>(f k).toNat) (fun i hi=>by have:=hv i hi;omega) (fun i k hi hk e=>by
   have h1:=hv i hi;have h2:=hv k hk
   have e2:f i=f k:=by omega
   by_cases c:i=k
   · exact c
   · exfalso
     rcases Nat.lt_or_gt_of_ne c with d | d
     · exact RL.irrefl (e2 ▸ (lt_iff i k hi hk).2 d)
     · exact RL.irrefl (e2 ▸ (lt_iff k i hk hi).2 d))
 rw [placeC_count,←hp.countP_eq,List.countP_map,←count_below n j (by omega)]
 refine List.countP_congr (fun k hk=>?_)
 simp at hk
 have h1:=hv k hk
 simp only [Function.comp]
 rw [show (((f k).toNat:Nat):Int)=f k by omega,RLb_iff,decide_eq_true_eq,count_below n j (by omega)]
 exact lt_iff k j hk hj
theorem place_onto {key:Int→Int} {f:Nat→Int} {n i:Nat} (h:Good key f 0 n) (hi:i<n): ∃j,j<n∧f j=(i:Int):=by
 have hv: ∀k,k<n→(0:Int)≤f k∧f k<n:=fun k hk=>by have:=h.2 k (Nat.zero_le _) hk;omega
 have hp:=range_perm (n:=n) (t:=fun k=>(f k).toNat) (fun i hi=>by have:=hv i hi;omega) (fun i k hi hk e=>by
   have h1:=hv i hi;have h2:=hv k hk
   have e2:f i=f k:=by omega
   by_cases c:i=k
   · exact c
   · exfalso
     rcases Nat.lt_or_gt_of_ne c with d | d
     · exact RL.irrefl (e2 ▸ h.1 i k (Nat.zero_le _) d hk)
     · exact RL.irrefl (e2 ▸ h.1 k i (Nat.zero_le _) d hi))
 have hm:i ∈ (List.range n).map (fun k=>(f k).toNat):=hp.mem_iff.2 (by simpa using hi)
 simp at hm
 obtain ⟨j,hj,e⟩:=hm
 have:=hv j hj
 exact ⟨j,hj,by omega⟩
theorem places_of {key:Int→Int} {f g:Nat→Int} {n:Nat} (h:Good key f 0 n) (hg: ∀j,j<n→g (f j).toNat=(j:Int)): ∀i,i<n→g i=(placeC key (i:Int) n:Int):=by
 intro i hi
 obtain ⟨j,hj,e⟩:=place_onto h hi
 have h1:=hg j hj
 have h2:=place_at h hj
 rw [e] at h1 h2
 rw [h2,←h1]
 congr 1
end Go.Proofs.YtanccoopbgamdaaGreatDoor
