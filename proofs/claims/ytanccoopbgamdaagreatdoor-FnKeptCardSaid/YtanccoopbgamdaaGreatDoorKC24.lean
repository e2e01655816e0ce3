/-
  Contracts and plain facts on which the theorem of this claim rests, text 24.
-/
import Derived.BigRegion
import Derived.Deep.LoopGhost
import Derived.Deep.RegionHeld3
import Derived.Shelf.SlSortCmp.QuietGrown
import Derived.Test.YtanccoopbgamdaaGreatDoorKC1
import Derived.Test.YtanccoopbgamdaaGreatDoorKC2
import Derived.Test.YtanccoopbgamdaaGreatDoorKC7
namespace Go.Proofs.YtanccoopbgamdaaGreatDoor
set_option linter.unusedVariables false
set_option linter.unusedSimpArgs false
def RL (key:Int→Int) (x y:Int):Prop:=key x<key y∨(key x=key y∧x<y)
theorem RL.trans {key:Int→Int} {x y z:Int} (h:RL key x y) (k:RL key y z):RL key x z:=by unfold RL at*;omega
theorem RL.irrefl {key:Int→Int} {x:Int}: ¬RL key x x:=by unfold RL;omega
theorem RL.of_not {key:Int→Int} {x y:Int} (h: ¬RL key y x) (hne:x≠y):RL key x y:=by unfold RL at*;omega
theorem RL.later {key:Int→Int} {x y:Int} (h:y<x):RL key x y↔key x<key y:=by unfold RL;omega
def Srt (key:Int→Int) (f:Nat→Int) (a b:Nat):Prop:= ∀i j,a≤i→i<j→j<b→RL key (f i) (f j)
def From (f f0:Nat→Int) (a b:Nat):Prop:= ∀k,a≤k→k<b→ ∃k0,a≤k0∧k0<b∧f k=f0 k0
def Same (f f0:Nat→Int) (a b:Nat):Prop:= ∀k,k<a∨b≤k→f k=f0 k
def LLess (f:Nat→Int) (a m b:Nat):Prop:= ∀i j,a≤i→i<m→m≤j→j<b→f i<f j
theorem Srt.sub {key:Int→Int} {f:Nat→Int} {a b a' b':Nat} (h:Srt key f a b) (h1:a≤a') (h2:b'≤b):Srt key f a' b':=fun i j p q r=>h i j (by omega) q (by omega)
theorem Srt.le {key:Int→Int} {f:Nat→Int} {a b i j:Nat} (h:Srt key f a b) (h1:a≤i) (h2:i≤j) (h3:j<b):RL key (f i) (f j)∨f i=f j:=by
 by_cases e:i=j
 · right;rw [e]
 · left;exact h i j h1 (by omega) h3
def sw (f:Nat→Int) (i j:Nat):Nat→Int:=fun k=>if k=i then f j else if k=j then f i else f k
def swapF (a b m:Nat) (f:Nat→Int):Nat→Int:=fun k=>if a≤k∧k<a+m then f (k - a+b) else if b≤k∧k<b+m then f (k - b+a) else f k
def rotF (a m b:Nat) (f:Nat→Int):Nat→Int:=fun k=>if a≤k∧k<a+(b - m) then f (k - a+m) else if a+(b - m)≤k∧k<b then f (k - (b - m)) else f k
theorem swapF_zero (a b:Nat) (f:Nat→Int):swapF a b 0 f=f:=by
 funext k;unfold swapF;rw [if_neg (by omega),if_neg (by omega)]
theorem swapF_step (a b i:Nat) (f:Nat→Int) (h:a+(i+1)≤b):sw (swapF a b i f) (a+i) (b+i)=swapF a b (i+1) f:=by
 funext k
 unfold sw
 by_cases h1:k=a+i
 · subst h1
   rw [if_pos rfl]
   unfold swapF
   rw [if_neg (by omega),if_neg (by omega),if_pos (by omega)]
   congr 1;omega
 · rw [if_neg h1]
   by_cases h2:k=b+i
   · subst h2
     rw [if_pos rfl]
     unfold swapF
     rw [if_neg (by omega),if_neg (by omega),if_neg (by omega),if_pos (by omega)]
     congr 1;omega
   · rw [if_neg h2]
     unfold swapF
     by_cases h3:a≤k∧k<a+i
     · rw [if_pos h3,if_pos (by omega)]
     · rw [if_neg h3]
       by_cases h4:b≤k∧k<b+i
       · rw [if_pos h4,if_neg (by omega),if_pos (by omega)]
       · rw [if_neg h4,if_neg (by omega),if_neg (by omega)]
theorem rot_end (m i:Nat) (f:Nat→Int) (h:i≤m):swapF (m - i) m i f=rotF (m - i) m (m+i) f:=by
 funext k
 unfold swapF rotF
 by_cases h1:m - i≤k∧k<m - i+i
 · rw [if_pos h1,if_pos (by omega)]
 · rw [if_neg h1]
   by_cases h2:m≤k∧k<m+i
   · rw [if_pos h2,if_neg (by omega),if_pos (by omega)];congr 1;omega
   · rw [if_neg h2,if_neg (by omega),if_neg (by omega)]
theorem rot_left (m i j:Nat) (f:Nat→Int) (h:i≤m) (hij:j<i):rotF (m - (i - j)) m (m+j) (swapF (m - i) m j f)=rotF (m - i) m (m+j) f:=by
 funext k
 unfold rotF
 by_cases h1:m - i≤k∧k<m - i+(m+j - m)
 · rw [if_pos h1,if_neg (by omega),if_neg (by omega)]
   unfold swapF;rw [if_pos (by omega)]
 · rw [if_neg h1]
   by_cases h2:m - i+(m+j - m)≤k∧k<m+j
   · rw [if_pos h2]
     by_cases h3:m - (i - j)≤k∧k<m - (i - j)+(m+j - m)
     · rw [if_pos h3]
       unfold swapF;rw [if_neg (by omega),if_pos (by omega)];congr 1;omega
     · rw [if_neg h3,if_pos (by omega)]
       unfold swapF;rw [if_neg (by omega),if_neg (by omega)]
   · rw [if_neg h2,if_neg (by omega),if_neg (by omega)]
     unfold swapF;rw [if_neg (by omega),if_neg (by omega)]
theorem rot_right (m i j:Nat) (f:Nat→Int) (h:i≤m) (hij:i<j):rotF (m - i) m (m+(j - i)) (swapF (m - i) (m+j - i) i f)=rotF (m - i) m (m+j) f:=by
 funext k
 unfold rotF
 by_cases h0:k<m - i∨m+j≤k
 · rw [if_neg (by omega),if_neg (by omega),if_neg (by omega),if_neg (by omega)]
   unfold swapF;rw [if_neg (by omega),if_neg (by omega)]
 · by_cases h1:k<m - i+(j - i)
   · rw [if_pos (by omega),if_pos (by omega)]
     unfold swapF
     by_cases h2:k - (m - i)+m<m+j - i
     · rw [if_neg (by omega),if_neg (by omega)]
     · omega
   · by_cases h2:k<m+(j - i)
     · rw [if_neg (by omega),if_pos (by omega)]
       unfold swapF
       rw [if_pos (by omega),if_pos (by omega)]
       congr 1;omega
     · rw [if_neg (by omega),if_neg (by omega),if_neg (by omega),if_pos (by omega)]
       unfold swapF
       rw [if_neg (by omega),if_pos (by omega)]
       congr 1;omega
theorem rot_triv {a m b:Nat} (f:Nat→Int) (h:a=m∨m=b) (h1:a≤m) (h2:m≤b):rotF a m b f=f:=by
 funext k
 unfold rotF
 rcases h with rfl | rfl
 · by_cases h3:a≤k∧k<a+(b - a)
   · rw [if_pos h3];congr 1;omega
   · rw [if_neg h3,if_neg (by omega)]
 · rw [if_neg (by omega)]
   by_cases h3:a+(m - m)≤k∧k<m
   · rw [if_pos h3];congr 1;omega
   · rw [if_neg h3]
theorem rot_lo {a m b k:Nat} (f:Nat→Int) (h1:a≤k) (h2:k<a+(b - m)):rotF a m b f k=f (k - a+m):=by unfold rotF;rw [if_pos ⟨h1,h2⟩]
theorem rot_hi {a m b k:Nat} (f:Nat→Int) (h1:a+(b - m)≤k) (h2:k<b):rotF a m b f k=f (k - (b - m)):=by unfold rotF;rw [if_neg (by omega),if_pos ⟨h1,h2⟩]
theorem rot_out {a m b k:Nat} (f:Nat→Int) (h:k<a∨b≤k) (h1:a≤m) (h2:m≤b):rotF a m b f k=f k:=by unfold rotF;rw [if_neg (by omega),if_neg (by omega)]
theorem sw_up (a k m:Nat) (f:Nat→Int) (h:a≤k):sw (rotF a (a+1) (k+1) f) k (k+1)=rotF a (a+1) (k+2) f:=by
 funext p
 unfold sw
 by_cases h1:p=k
 · subst h1
   rw [if_pos rfl,rot_out f (by omega) (by omega) (by omega),rot_lo f h (by omega)];congr 1;omega
 · rw [if_neg h1]
   by_cases h2:p=k+1
   · subst h2
     rw [if_pos rfl,rot_hi f (by omega) (by omega),rot_hi f (by omega) (by omega)]
     congr 1;omega
   · rw [if_neg h2]
     by_cases h3:p<a∨k+2≤p
     · rw [rot_out f (by omega) (by omega) (by omega),rot_out f (by omega) (by omega) (by omega)]
     · rw [rot_lo f (by omega) (by omega),rot_lo f (by omega) (by omega)]
theorem sw_down (k m:Nat) (f:Nat→Int) (h:k<m):sw (rotF (k+1) m (m+1) f) (k+1) k=rotF k m (m+1) f:=by
 funext p
 unfold sw
 by_cases h1:p=k+1
 · subst h1
   rw [if_pos rfl,rot_out f (by omega) (by omega) (by omega),rot_hi f (by omega) (by omega)];congr 1;omega
 · rw [if_neg h1]
   by_cases h2:p=k
   · subst h2
     rw [if_pos rfl,rot_lo f (by omega) (by omega),rot_lo f (by omega) (by omega)]
     congr 1;omega
   · rw [if_neg h2]
     by_cases h3:p<k∨m+1≤p
     · rw [rot_out f (by omega) (by omega) (by omega),rot_out f (by omega) (by omega) (by omega)]
     · rw [rot_hi f (by omega) (by omega),rot_hi f (by omega) (by omega)]
structure Merged (key:Int→Int) (f f0:Nat→Int) (a b:Nat):Prop where
 srt:Srt key f a b
 frm:From f f0 a b
 same:Same f f0 a b
theorem From.refl (f:Nat→Int) (a b:Nat):From f f a b:=fun k h1 h2=>⟨k,h1,h2,rfl⟩
theorem Merged.self {key:Int→Int} {f:Nat→Int} {a b:Nat} (h:Srt key f a b):Merged key f f a b:=⟨h,From.refl f a b,fun _ _=>rfl⟩
structure Split (key:Int→Int) (f:Nat→Int) (a s m e b:Nat):Prop where
 h1:a≤s
 h2:s≤m
 h3:m≤e
 h4:e≤b
 sl:Srt key f a m
 sr:Srt key f m b
 lr: ∀i j,a≤i→i<s→e≤j→j<b→RL key (f i) (f j)
 rl: ∀i j,m≤i→i<e→s≤j→j<m→RL key (f i) (f j)
theorem Split.lo {key:Int→Int} {f:Nat→Int} {a s m e b:Nat} (h:Split key f a s m e b):Srt key (rotF s m e f) a s∧Srt key (rotF s m e f) s (s+(e - m)):=by
 obtain ⟨h1,h2,h3,h4,sl,sr,lr,rl⟩:=h
 constructor
 · intro i j p q r
   rw [rot_out f (by omega) h2 h3,rot_out f (by omega) h2 h3]
   exact sl i j p q (by omega)
 · intro i j p q r
   rw [rot_lo f (by omega) (by omega),rot_lo f (by omega) (by omega)]
   exact sr _ _ (by omega) (by omega) (by omega)
theorem Split.hi {key:Int→Int} {f:Nat→Int} {a s m e b:Nat} (h:Split key f a s m e b):Srt key (rotF s m e f) (s+(e - m)) e∧Srt key (rotF s m e f) e b:=by
 obtain ⟨h1,h2,h3,h4,sl,sr,lr,rl⟩:=h
 constructor
 · intro i j p q r
   rw [rot_hi f (by omega) (by omega),rot_hi f (by omega) (by omega)]
   exact sl _ _ (by omega) (by omega) (by omega)
 · intro i j p q r
   rw [rot_out f (by omega) h2 h3,rot_out f (by omega) h2 h3]
   exact sr i j (by omega) q r
theorem rot_from {a s m e b:Nat} (f:Nat→Int) (h1:a≤s) (h2:s≤m) (h3:m≤e) (h4:e≤b):From (rotF s m e f) f a b:=by
 intro k p q
 by_cases c1:k<s∨e≤k
 · exact ⟨k,p,q,rot_out f c1 h2 h3⟩
 · by_cases c2:k<s+(e - m)
   · exact ⟨k - s+m,by omega,by omega,rot_lo f (by omega) c2⟩
   · exact ⟨k - (e - m),by omega,by omega,rot_hi f (by omega) (by omega)⟩
theorem Split.parts {key:Int→Int} {f:Nat→Int} {a s m e b:Nat} (h:Split key f a s m e b) (i j:Nat) (p:a≤i) (q:i<s+(e - m)) (r:s+(e - m)≤j) (t:j<b):RL key (rotF s m e f i) (rotF s m e f j):=by
 obtain ⟨h1,h2,h3,h4,sl,sr,lr,rl⟩:=h
 by_cases c1:i<s
 · rw [rot_out f (by omega) h2 h3]
   by_cases c2:j<e
   · rw [rot_hi f (by omega) c2];exact sl _ _ p (by omega) (by omega)
   · rw [rot_out f (by omega) h2 h3];exact lr _ _ p c1 (by omega) t
 · rw [rot_lo f (by omega) q]
   by_cases c2:j<e
   · rw [rot_hi f (by omega) c2];exact rl _ _ (by omega) (by omega) (by omega) (by omega)
   · rw [rot_out f (by omega) h2 h3];exact sr _ _ (by omega) (by omega) t
theorem Split.done {key:Int→Int} {f g1 g2:Nat→Int} {a s m e b:Nat} (h:Split key f a s m e b) (m1:Merged key g1 (rotF s m e f) a (s+(e - m))) (m2:Merged key g2 g1 (s+(e - m)) b):Merged key g2 f a b:=by
 have hh:=h
 obtain ⟨h1,h2,h3,h4,sl,sr,lr,rl⟩:=h
 have lo: ∀k,a≤k→k<s+(e - m)→ ∃k0,a≤k0∧k0<s+(e - m)∧g2 k=rotF s m e f k0:=fun k p q=>by
   rw [m2.same k (by omega)];exact m1.frm k p q
 have hi: ∀k,s+(e - m)≤k→k<b→ ∃k0,s+(e - m)≤k0∧k0<b∧g2 k=rotF s m e f k0:=fun k p q=>by
   obtain ⟨k0,a0,a1,a2⟩:=m2.frm k p q
   exact ⟨k0,a0,a1,by rw [a2];exact m1.same k0 (by omega)⟩
 refine ⟨?_,?_,?_⟩
 · intro i j p q r
   by_cases c1:j<s+(e - m)
   · rw [m2.same i (by omega),m2.same j (by omega)];exact m1.srt i j p q c1
   · by_cases c2:i<s+(e - m)
     · obtain ⟨k0,a0,a1,a2⟩:=lo i p c2
       obtain ⟨k1,b0,b1,b2⟩:=hi j (by omega) r
       rw [a2,b2];exact hh.parts k0 k1 a0 a1 b0 b1
     · exact m2.srt i j (by omega) q r
 · intro k p q
   by_cases c1:k<s+(e - m)
   · obtain ⟨k0,a0,a1,a2⟩:=lo k p c1
     rw [a2];exact rot_from f h1 h2 h3 h4 k0 a0 (by omega)
   · obtain ⟨k0,a0,a1,a2⟩:=hi k (by omega) q
     rw [a2];exact rot_from f h1 h2 h3 h4 k0 (by omega) a1
 · intro k p
   rw [m2.same k (by omega),m1.same k (by omega),rot_out f (by omega) h2 h3]
theorem Split.lless {key:Int→Int} {f:Nat→Int} {a s m e b:Nat} (h:Split key f a s m e b) (hl:LLess f a m b):LLess (rotF s m e f) a s (s+(e - m))∧LLess (rotF s m e f) (s+(e - m)) e b:=by
 obtain ⟨h1,h2,h3,h4,sl,sr,lr,rl⟩:=h
 constructor
 · intro i j p q r t
   rw [rot_out f (by omega) h2 h3,rot_lo f (by omega) t];exact hl _ _ p (by omega) (by omega) (by omega)
 · intro i j p q r t
   rw [rot_hi f (by omega) q,rot_out f (by omega) h2 h3];exact hl _ _ (by omega) (by omega) (by omega) t
theorem split_one_left {key:Int→Int} {f:Nat→Int} {a i b:Nat} (h1:a+1≤i) (h2:i≤b) (sr:Srt key f (a+1) b) (hl:LLess f a (a+1) b) (p: ∀k,a+1≤k→k<i→RL key (f k) (f a)) (q: ∀k,i≤k→k<b→ ¬RL key (f k) (f a)):Split key f a a (a+1) i b:=
 ⟨Nat.le_refl _,by omega,h1,h2,fun x y _ _ _=>by omega,sr,fun x y _ _ _ _=>by omega,fun x y c1 c2 c3 c4=>by
   obtain rfl:y=a:=by omega
   exact p x c1 c2⟩
theorem split_one_left_hi {key:Int→Int} {f:Nat→Int} {a i b:Nat} (h1:a+1≤i) (h2:i≤b) (sr:Srt key f (a+1) b) (hl:LLess f a (a+1) b) (q: ∀k,i≤k→k<b→ ¬RL key (f k) (f a)):Srt key (rotF a (a+1) i f) (a+(i - (a+1))) b:=by
 intro x y c1 c2 c3
 rw [rot_out (k:=y) f (by omega) (by omega) h1]
 by_cases c4:x<i
 · rw [rot_hi f c1 c4]
   obtain rfl:x=i - 1:=by omega
   rw [show i - 1 - (i - (a+1))=a by omega]
   exact RL.of_not (q y (by omega) c3) (by have:=hl a y (by omega) (by omega) (by omega) c3;omega)
 · rw [rot_out f (by omega) (by omega) h1];exact sr x y (by omega) c2 c3
theorem split_one_right {key:Int→Int} {f:Nat→Int} {a i m:Nat} (h1:a≤i) (h2:i≤m) (sl:Srt key f a m) (hl:LLess f a m (m+1)) (p: ∀k,a≤k→k<i→ ¬RL key (f m) (f k)) (q: ∀k,i≤k→k<m→RL key (f m) (f k)):Split key f a i m (m+1) (m+1):=
 ⟨h1,h2,by omega,by omega,sl,fun x y _ _ _=>by omega,fun x y _ _ _ _=>by omega,fun x y c1 c2 c3 c4=>by
   obtain rfl:x=m:=by omega
   exact q y c3 c4⟩
theorem split_one_right_lo {key:Int→Int} {f:Nat→Int} {a i m:Nat} (h1:a≤i) (h2:i≤m) (sl:Srt key f a m) (hl:LLess f a m (m+1)) (p: ∀k,a≤k→k<i→ ¬RL key (f m) (f k)):Srt key (rotF i m (m+1) f) a (i+(m+1 - m)):=by
 intro x y c1 c2 c3
 rw [rot_out (k:=x) f (by omega) h2 (by omega)]
 by_cases c4:y<i
 · rw [rot_out f (by omega) h2 (by omega)];exact sl x y c1 c2 (by omega)
 · rw [rot_lo f (by omega) c3]
   obtain rfl:y=i:=by omega
   rw [show y - y+m=m by omega]
   exact RL.of_not (p x c1 c2) (by have:=hl x m c1 (by omega) (by omega) (by omega);omega)
structure Probe (key:Int→Int) (f:Nat→Int) (p lo hi s r:Nat):Prop where
 h1:lo≤s
 h2:s≤r
 h3:r≤hi
 no: ∀c,lo≤c→c<s→ ¬RL key (f (p - c)) (f c)
 yes: ∀c,r≤c→c<hi→RL key (f (p - c)) (f c)
structure Field (key:Int→Int) (f:Nat→Int) (a m b p lo hi:Nat):Prop where
 am:a≤lo
 hm:hi≤m
 lh:lo≤hi
 pl: ∀c,lo≤c→c<hi→m≤p - c∧p - c<b∧c≤p
 sl:Srt key f a m
 sr:Srt key f m b
theorem Probe.up {key:Int→Int} {f:Nat→Int} {a m b p lo hi s r c:Nat} (F:Field key f a m b p lo hi) (P:Probe key f p lo hi s r) (h1:s≤c) (h2:c<r) (h: ¬RL key (f (p - c)) (f c)):Probe key f p lo hi (c+1) r:=by
 refine ⟨by have:=P.h1;omega,by omega,P.h3,fun x h3 h4 hx=>?_,P.yes⟩
 have g1:=P.h1;have g3:=P.h3
 by_cases e:x=c
 · subst e;exact h hx
 · have q1:=F.pl x h3 (by omega)
   have q2:=F.pl c (by omega) (by omega)
   have s1:=F.sr (p - c) (p - x) (by omega) (by omega) (by omega)
   have s2:=F.sl x c (by have:=F.am;omega) (by omega) (by have:=F.hm;omega)
   exact h ((s1.trans hx).trans s2)
theorem Probe.down {key:Int→Int} {f:Nat→Int} {a m b p lo hi s r c:Nat} (F:Field key f a m b p lo hi) (P:Probe key f p lo hi s r) (h1:s≤c) (h2:c<r) (h:RL key (f (p - c)) (f c)):Probe key f p lo hi s c:=by
 refine ⟨P.h1,h1,by have:=P.h3;omega,P.no,fun x h3 h4=>?_⟩
 have g1:=P.h1;have g3:=P.h3
 by_cases e:x=c
 · subst e;exact h
 · have q1:=F.pl x (by omega) h4
   have q2:=F.pl c (by omega) (by omega)
   have s1:=F.sr (p - x) (p - c) (by omega) (by omega) (by omega)
   have s2:=F.sl c x (by have:=F.am;omega) (by omega) (by have:=F.hm;omega)
   exact (s1.trans h).trans s2
theorem probe_split {key:Int→Int} {f:Nat→Int} {a m b mid lo hi s:Nat} (ham:a<m) (hmb:m<b) (h1:a<mid) (h2:mid<b) (F:Field key f a m b (mid+m - 1) lo hi) (hl:LLess f a m b)
   (hlo:lo=a∨(lo+b=mid+m)) (hhi:hi=m∨(hi=mid)) (P:Probe key f (mid+m - 1) lo hi s s) (hb1:mid+m≤lo+b):Split key f a s m (mid+m - s) b:=by
 have q1:=P.h1;have q3:=P.h3;have fam:=F.am;have fhm:=F.hm
 have e1:m≤mid+m - s:=by
   rcases hhi with e | e
   · by_cases c:s<hi
     · have:=F.pl s q1 c;omega
     · have:s=m:=by omega
       have h9:lo<hi→m≤mid+m - 1 - (hi - 1):=fun h=>(F.pl (hi - 1) (by omega) (by omega)).1
       by_cases h8:lo<hi
       · have:=h9 h8;omega
       · rcases hlo with e2 | e2 <;>omega
   · omega
 refine ⟨by omega,by omega,e1,by omega,F.sl,F.sr,fun i j p1 p2 p3 p4=>?_,fun i j p1 p2 p3 p4=>?_⟩
 · have c:lo<s:=by
     rcases hlo with e | e
     · omega
     · by_cases h:lo<s
       · exact h
       · omega
   have k:=F.pl (s - 1) (by omega) (by omega)
   have n:=P.no (s - 1) (by omega) (by omega)
   rw [show mid+m - 1 - (s - 1)=mid+m - s by omega] at n k
   have r1:=RL.of_not n (by have:=hl (s - 1) (mid+m - s) (by omega) (by omega) (by omega) (by omega);omega)
   rcases F.sl.le p1 (show i≤s - 1 by omega) (by omega) with g1 | g1 <;>rcases F.sr.le (show m≤mid+m - s by omega) p3 p4 with g2 | g2
   · exact (g1.trans r1).trans g2
   · rw [←g2];exact g1.trans r1
   · rw [g1];exact r1.trans g2
   · rw [g1,←g2];exact r1
 · have c:s<hi:=by
     rcases hhi with e | e
     · omega
     · by_cases h:s<hi
       · exact h
       · omega
   have k:=F.pl s q1 c
   have n:=P.yes s (by omega) c
   rcases F.sr.le p1 (show i≤mid+m - 1 - s by omega) (by omega) with g1 | g1 <;>rcases F.sl.le (show a≤s by omega) p3 p4 with g2 | g2
   · exact (g1.trans n).trans g2
   · rw [←g2];exact g1.trans n
   · rw [g1];exact n.trans g2
   · rw [g1,←g2];exact n
end Go.Proofs.YtanccoopbgamdaaGreatDoor
namespace Go.Proofs.YtanccoopbgamdaaGreatDoor
open Go.RowKit
set_option linter.unusedVariables false
set_option linter.unusedSimpArgs false
theorem sw_row {W:World} {blk n cap:Nat} {f:Nat→Int} (h:Own W blk n cap (gen n f)) {i j:Nat} (hi:i<n) (hj:j<n) (hne:i≠j):
   Own ((W.setCell ⟨blk,i,none⟩ (.int .i64 (f j))).setCell ⟨blk,j,none⟩ (.int .i64 (f i))) blk n cap (gen n (sw f i j)):=by
 have h1:=(h.set i (f j)).set j (f i)
 have e:((gen n f).set i (f j)).set j (f i)=gen n (sw f i j):=by
   rw [gen_set n f (fun k=>if k=i then f j else f k) i (f j) hi (by simp) (fun k _ hk=>by simp [hk])]
   exact gen_set n _ _ j (f i) hj (by unfold sw;simp [Ne.symm hne]) (fun k _ hk=>by unfold sw;simp [hk])
 rwa [e] at h1
theorem own_c {W:World} {blk n cap:Nat} {f:Nat→Int} (h:Own W blk n cap (gen n f)) {i:Nat} (hi:i<n):W.cell? ⟨blk,i,none⟩=some (.int .i64 (f i)):=by
 have:=h.cell hi
 rwa [gen_get _ _ _ hi] at this
theorem own_c2 {W:World} {blk n cap:Nat} {f:Nat→Int} (h:Own W blk n cap (gen n f)) {i j:Nat} (hi:i<n) (hj:j<n) (hne:i≠j) (v:Value): ∃u,(W.setCell ⟨blk,i,none⟩ v).cell? ⟨blk,j,none⟩=some u:=
 ⟨_,(World.cell?_setCell_other _ _ _ _ (by intro e;simp only [Addr.mk.injEq] at e;omega)).trans (own_c h hj)⟩
set_option maxRecDepth 100000 in
set_option maxHeartbeats 3200000 in
theorem swapRange5 (g:Nat) (cb:Array Value) (blk n a b m:Nat) (f:Nat→Int) (w:World) (ho:Own w blk n n (gen n f)) (hn:n≤100000) (h1:a+m≤b) (h2:b+m≤n):
   Calls Tryz.prog 227 #[.slice (some ⟨blk,0,none⟩) n n, .int .i64 a, .int .i64 b, .int .i64 m, .func (.func g) #[] cb] w fun e w'=>e= .returned (.tuple #[])∧Own w' blk n n (gen n (swapF a b m f))∧w.grownBy w' (some blk):=by
 have HO:=Lib.hid ho
 clear ho
 go_enter Tryz.func227,Tryz.ntmps227
 go_wp2_with fail
 go_loopw [10] (fun i wr=> ∃k:Nat,k≤m∧i= .int .i64 k∧Hid (Own wr blk n n (gen n (swapF a b k f)))∧Hid (w.grownBy wr (some blk))) (fun i _=>m - (intOf i).toNat)
 case atStart=>exact ⟨0,Nat.zero_le _,rfl,Lib.hid (by rw [swapF_zero];exact HO.out),Lib.hid (grown_refl _ _)⟩
 case round=>
   obtain ⟨k,hk,rfl,HR,HG⟩:=hrel
   by_cases hlt:k<m
   · obtain ⟨iN,hiN⟩: ∃zz,zz=a+k:=⟨_,rfl⟩
     obtain ⟨jN,hjN⟩: ∃zz,zz=b+k:=⟨_,rfl⟩
     have ea:((a:Int)+(k:Int)).toNat=iN:=by omega
     have pa:(0:Int)≤(a:Int)+(k:Int):=by omega
     have ba:(a:Int)+(k:Int)<(n:Int):=by omega
     have ra:IntKind.i64.wrap ((a:Int)+(k:Int))=(a:Int)+(k:Int):=by rw [IntKind.wrap_i64];omega
     have ec:((b:Int)+(k:Int)).toNat=jN:=by omega
     have pc:(0:Int)≤(b:Int)+(k:Int):=by omega
     have bc:(b:Int)+(k:Int)<(n:Int):=by omega
     have rc:IntKind.i64.wrap ((b:Int)+(k:Int))=(b:Int)+(k:Int):=by rw [IntKind.wrap_i64];omega
     have hij:iN≠jN:=by omega
     have hiB:iN<n:=by omega
     have hjB:jN<n:=by omega
     obtain ⟨sx,hx⟩: ∃zz,zz=(swapF a b k f) iN:=⟨_,rfl⟩
     obtain ⟨sy,hy⟩: ∃zz,zz=(swapF a b k f) jN:=⟨_,rfl⟩
     have SO:=Lib.hid (sw_row HR.out hiB hjB hij)
     have ca:=own_c HR.out hiB
     have cb':=own_c HR.out hjB
     have fa:=HR.out.frozen iN
     have fb:=HR.out.frozen jN
     rw [←hx] at ca SO
     rw [←hy] at cb' SO
     obtain ⟨u,cu⟩:=own_c2 HR.out hiB hjB hij (.int .i64 sy)
     have SE:sw (swapF a b k f) iN jN=sw (swapF a b k f) (a+k) (b+k):=by rw [hiN,hjN]
     rw [SE] at SO
     clear hx hy hij hiN hjN SE
     go_wp2_with fail
     go_big_region
     clear ca cb' fa fb cu
     go_wp2_with fail
     go_roundw
     case rel=>exact ⟨k+1,by omega,by go_num,Lib.hid (by rw [←swapF_step a b k f (by omega)];exact SO.out.drewN 1),Lib.hid (grown_drewN (grown_set (grown_set HG.out _) _) 1)⟩
     case measure=>simp [intOf];omega
   · obtain rfl:k=m:=by omega
     go_wp2_with fail
     go_end0
     exact ⟨rfl,HR.out,HG.out⟩
set_option maxRecDepth 100000 in
set_option maxHeartbeats 1000000 in
theorem rotate5 (g:Nat) (cb:Array Value) (blk n a m b:Nat) (f:Nat→Int) (w:World) (ho:Own w blk n n (gen n f)) (hn:n≤100000) (h1:a<m) (h2:m<b) (h3:b≤n):
   Calls Tryz.prog 226 #[.slice (some ⟨blk,0,none⟩) n n, .int .i64 a, .int .i64 m, .int .i64 b, .func (.func g) #[] cb] w fun e w'=>e= .returned (.tuple #[])∧Own w' blk n n (gen n (rotF a m b f))∧w.grownBy w' (some blk):=by
 have HO:=Lib.hid ho
 clear ho
 obtain ⟨i0,hi0⟩: ∃i0:Nat,i0=m - a:=⟨_,rfl⟩
 obtain ⟨j0,hj0⟩: ∃j0:Nat,j0=b - m:=⟨_,rfl⟩
 have zi:(m:Int) - (a:Int)=(i0:Int):=by omega
 have zj:(b:Int) - (m:Int)=(j0:Int):=by omega
 have k1:1≤i0∧1≤j0∧i0≤m∧m+j0≤n:=by omega
 have e1:m - i0=a:=by omega
 have e2:m+j0=b:=by omega
 have HS:Hid (rotF (m - i0) m (m+j0) f=rotF a m b f):=Lib.hid (by rw [e1,e2])
 have K1:=Lib.hid k1
 clear hi0 hj0 e1 e2 k1
 go_enter Tryz.func226,Tryz.ntmps226
 go_wp2_with fail
 go_loopw [10,11] (fun vi vj wr=> ∃(i j:Nat) (F:Nat→Int),1≤i∧1≤j∧i≤m∧m+j≤n∧vi= .int .i64 i∧vj= .int .i64 j∧Hid (rotF (m - i) m (m+j) F=rotF a m b f)∧Hid (Own wr blk n n (gen n F))∧Hid (w.grownBy wr (some blk))) (fun vi vj _=>(intOf vi).toNat+(intOf vj).toNat)
 case atStart=>exact ⟨i0,j0,f,K1.out.1,K1.out.2.1,K1.out.2.2.1,K1.out.2.2.2,rfl,rfl,HS,HO,Lib.hid (grown_refl _ _)⟩
 case round=>
   obtain ⟨i,j,F,i1,j1,i2,j2,rfl,rfl,HE,HR,HG⟩:=hrel
   clear zi zj HS K1
   obtain ⟨q,hq⟩: ∃q:Nat,q=m - i:=⟨_,rfl⟩
   have zq:(m:Int) - (i:Int)=(q:Int):=by omega
   have q1:q+i≤m:=by omega
   have q2:m≤q+i:=by omega
   have HQ:=Lib.hid hq
   clear hq
   rcases Nat.lt_trichotomy i j with hlt | rfl | hgt
   · have c1:((i:Int) !=(j:Int))=true:=by simp;omega
     have c2: ¬(j:Int)<(i:Int):=by omega
     obtain ⟨r,hr⟩: ∃r:Nat,r=m+j - i:=⟨_,rfl⟩
     have zr:(m:Int)+(j:Int) - (i:Int)=(r:Int):=by omega
     obtain ⟨t,ht⟩: ∃t:Nat,t=j - i:=⟨_,rfl⟩
     have zt:(j:Int) - (i:Int)=(t:Int):=by omega
     have HE2:Hid (rotF (m - i) m (m+t) (swapF q r i F)=rotF (m - i) m (m+j) F):=Lib.hid (by rw [ht,HQ.out,hr];exact rot_right m i j F i2 hlt)
     have r1:r+i≤m+j:=by omega
     have r2:m+j≤r+i:=by omega
     have t1:1≤t:=by omega
     have t2:t≤j:=by omega
     have t3:i+t≤j:=by omega
     clear hr ht
     go_wp2_with fail
     refine (swapRange5 g cb blk n q r i F _ HR.out hn (by omega) (by omega)).mono ?_
     rintro e w2 ⟨rfl,ho,hg⟩
     have HR2:=Lib.hid ho
     have HG2:=Lib.hid (grown_trans HG.out hg)
     clear ho hg
     go_wp2_with fail
     go_roundw
     case rel=>exact ⟨i,t,swapF q r i F,i1,by omega,i2,by omega,rfl,rfl,Lib.hid (by rw [HE2.out];exact HE.out),HR2,HG2⟩
     case measure=>simp [intOf];omega
   · have c1:((i:Int) !=(i:Int))=false:=by simp
     have HE2:Hid (swapF q m i F=rotF (m - i) m (m+i) F):=Lib.hid (by rw [HQ.out];exact rot_end m i F i2)
     go_wp2_with fail
     refine (swapRange5 g cb blk n q m i F _ HR.out hn (by omega) (by omega)).mono ?_
     rintro e w2 ⟨rfl,ho,hg⟩
     have HR2:=Lib.hid ho
     have HG2:=Lib.hid (grown_trans HG.out hg)
     clear ho hg
     go_wp2_with fail
     go_end0
     exact ⟨rfl,by rw [←HE.out,←HE2.out];exact HR2.out,HG2.out⟩
   · have c1:((i:Int) !=(j:Int))=true:=by simp;omega
     have c2:(j:Int)<(i:Int):=by omega
     obtain ⟨t,ht⟩: ∃t:Nat,t=i - j:=⟨_,rfl⟩
     have zt:(i:Int) - (j:Int)=(t:Int):=by omega
     have HE2:Hid (rotF (m - t) m (m+j) (swapF q m j F)=rotF (m - i) m (m+j) F):=Lib.hid (by rw [ht,HQ.out];exact rot_left m i j F i2 hgt)
     have t1:1≤t:=by omega
     have t2:t≤i:=by omega
     have t3:t+j≤i:=by omega
     clear ht
     go_wp2_with fail
     refine (swapRange5 g cb blk n q m j F _ HR.out hn (by omega) (by omega)).mono ?_
     rintro e w2 ⟨rfl,ho,hg⟩
     have HR2:=Lib.hid ho
     have HG2:=Lib.hid (grown_trans HG.out hg)
     clear ho hg
     go_wp2_with fail
     go_roundw
     case rel=>exact ⟨t,j,swapF q m j F,by omega,j1,by omega,j2,rfl,rfl,Lib.hid (by rw [HE2.out];exact HE.out),HR2,HG2⟩
     case measure=>simp [intOf];omega
end Go.Proofs.YtanccoopbgamdaaGreatDoor
