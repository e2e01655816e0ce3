/-
  Contracts and plain facts on which the theorem of this claim rests, text 28.
-/
import Derived.Deep.QuietTactic
import Derived.Deep.RegionHeld3
import Derived.Test.YtanccoopbgamdaaGreatDoorKC1
import Derived.Test.YtanccoopbgamdaaGreatDoorKC7
import Derived.Test.YtanccoopbgamdaaGreatDoorKC9
namespace Go.Proofs.YtanccoopbgamdaaGreatDoor
set_option linter.unusedVariables false
set_option linter.unusedSimpArgs false
def latOk (A B:Int):Bool:=decide (1≤A) && decide (A≤12) && decide (0≤B) && decide (B≤12)
def areaI (A B:Int):Int:=A*A+B*B
def gI (A B:Int):Int:=(Nat.gcd A.toNat B.toNat:Nat)
def perI (A B:Int):Int:=areaI A B/gI A B
def HasL (A B x y:Int):Prop:=areaI A B ∣ x*A+y*B∧areaI A B ∣ y*A - x*B
instance (A B x y:Int):Decidable (HasL A B x y):=by unfold HasL;infer_instance
structure Lat (A B n g w a b p q:Int):Prop where
 a1:1≤A
 a2:A≤12
 b1:0≤B
 b2:B≤12
 hn:areaI A B=n
 hg:gI A B=g
 hw:perI A B=w
 n1:1≤n
 n2:n≤288
 g1:1≤g
 g2:g≤12
 w1:1≤w
 w2:w≤288
 wg:w*g=n
 ha:A=g*a
 hb:B=g*b
 bz:A*p+B*q=g
theorem bez: ∀A:Fin 13,∀B:Fin 13,1≤A.val→ ∃p:Fin 25,∃q:Fin 25,(A.val:Int)*((p.val:Int) - 12)+(B.val:Int)*((q.val:Int) - 12)=((Nat.gcd A.val B.val:Nat):Int):=by decide+kernel
theorem sq_le12 {A:Int} (h1:0≤A) (h2:A≤12):0≤A*A∧A*A≤144:=⟨Int.mul_nonneg h1 h1,by have:=Int.mul_le_mul h2 h2 h1 (by omega);omega⟩
theorem lat_of {A B:Int} (h:latOk A B=true): ∃n g w a b p q,Lat A B n g w a b p q:=by
 simp only [latOk,Bool.and_eq_true,decide_eq_true_eq] at h
 obtain ⟨⟨⟨a1,a2⟩,b1⟩,b2⟩:=h
 obtain ⟨x,rfl⟩: ∃x:Nat,A=x:=⟨A.toNat,by omega⟩
 obtain ⟨y,rfl⟩: ∃y:Nat,B=y:=⟨B.toNat,by omega⟩
 obtain ⟨p,q,hpq⟩:=bez ⟨x,by omega⟩ ⟨y,by omega⟩ (by simp only;omega)
 simp only at hpq
 have g1:=Nat.gcd_pos_of_pos_left y (show 0<x by omega)
 have g2:=Nat.gcd_le_left y (show 0<x by omega)
 obtain ⟨a,hA⟩:=Nat.gcd_dvd_left x y
 obtain ⟨b,hB⟩:=Nat.gcd_dvd_right x y
 obtain ⟨g,hg⟩: ∃g,Nat.gcd x y=g:=⟨_,rfl⟩
 rw [hg] at g1 g2 hA hB hpq
 have hn:areaI (x:Int) (y:Int)=(g*(a*a+b*b):Nat)*(g:Int):=by
   unfold areaI
   rw [hA,hB]
   push_cast
   simp only [Int.mul_add,Int.add_mul,Int.mul_assoc,Int.mul_comm,Int.mul_left_comm]
 obtain ⟨e1,e2⟩:=sq_le12 (A:=(x:Int)) (by omega) a2
 obtain ⟨e3,e4⟩:=sq_le12 (A:=(y:Int)) b1 b2
 have e5:(1:Int)≤(x:Int)*x:=by have:=Int.mul_le_mul a1 a1 (by omega) (by omega);omega
 have hgI:gI (x:Int) (y:Int)=(g:Int):=by unfold gI;simp [hg]
 have hw:perI (x:Int) (y:Int)=((g*(a*a+b*b):Nat):Int):=by
   unfold perI
   rw [hgI,hn]
   exact Int.mul_ediv_cancel _ (by omega)
 have hn0:areaI (x:Int) (y:Int)=(x:Int)*x+(y:Int)*y:=rfl
 refine ⟨areaI x y,g,perI x y,a,b,(p.val:Int) - 12,(q.val:Int) - 12,⟨a1,a2,b1,b2,rfl,hgI,rfl,by omega,by omega,by omega,by omega,?_,?_,by rw [hw,hn],?_,?_,hpq⟩⟩
 · by_cases h:1≤perI (x:Int) (y:Int)
   · exact h
   · exfalso
     have h0:perI (x:Int) (y:Int)=0:=by rw [hw] at h⊢;omega
     rw [hw] at h0
     rw [h0] at hn
     simp at hn
     omega
 · have hx:((g*(a*a+b*b):Nat):Int)*1≤((g*(a*a+b*b):Nat):Int)*(g:Int):=Int.mul_le_mul_of_nonneg_left (by omega) (by omega)
   rw [←hn,←hw] at hx
   omega
 · rw [hA];push_cast;rfl
 · rw [hB];push_cast;rfl
theorem Lat.area {A B n g w a b p q:Int} (L:Lat A B n g w a b p q):A*A+B*B=n:=L.hn
theorem Lat.has {A B n g w a b p q:Int} (L:Lat A B n g w a b p q) {x y:Int}:HasL A B x y↔n ∣ x*A+y*B∧n ∣ y*A - x*B:=by unfold HasL;rw [L.hn]
theorem Lat.has_add {A B n g w a b p q:Int} (L:Lat A B n g w a b p q) {x y x' y':Int} (h:HasL A B x y) (h':HasL A B x' y'):HasL A B (x+x') (y+y'):=by
 refine ⟨?_,?_⟩
 · rw [show (x+x')*A+(y+y')*B=(x*A+y*B)+(x'*A+y'*B) by simp only [Int.add_mul];omega]
   exact Int.dvd_add h.1 h'.1
 · rw [show (y+y')*A - (x+x')*B=(y*A - x*B)+(y'*A - x'*B) by simp only [Int.add_mul];omega]
   exact Int.dvd_add h.2 h'.2
theorem Lat.has_neg {A B n g w a b p q:Int} (L:Lat A B n g w a b p q) {x y:Int} (h:HasL A B x y):HasL A B (-x) (-y):=by
 refine ⟨?_,?_⟩
 · rw [show (-x)*A+(-y)*B=-(x*A+y*B) by simp only [Int.neg_mul];omega]
   exact Int.dvd_neg.2 h.1
 · rw [show (-y)*A - (-x)*B=-(y*A - x*B) by simp only [Int.neg_mul];omega]
   exact Int.dvd_neg.2 h.2
theorem Lat.has_sub {A B n g w a b p q:Int} (L:Lat A B n g w a b p q) {x y x' y':Int} (h:HasL A B x y) (h':HasL A B x' y'):HasL A B (x - x') (y - y'):=by
 have:=L.has_add h (L.has_neg h')
 rwa [show x+-x'=x - x' by omega,show y+-y'=y - y' by omega] at this
theorem Lat.has_mul {A B n g w a b p q:Int} (L:Lat A B n g w a b p q) {x y:Int} (h:HasL A B x y) (t:Int):HasL A B (t*x) (t*y):=by
 refine ⟨?_,?_⟩
 · rw [show (t*x)*A+(t*y)*B=t*(x*A+y*B) by rw [Int.mul_add,Int.mul_assoc,Int.mul_assoc]]
   exact Int.dvd_mul_of_dvd_right h.1
 · rw [show (t*y)*A - (t*x)*B=t*(y*A - x*B) by rw [Int.mul_sub,Int.mul_assoc,Int.mul_assoc]]
   exact Int.dvd_mul_of_dvd_right h.2
theorem Lat.has_ij {A B n g w a b p q:Int} (L:Lat A B n g w a b p q) (i j:Int):HasL A B (i*A - j*B) (i*B+j*A):=by
 refine ⟨⟨i,?_⟩,⟨j,?_⟩⟩
 · unfold areaI
   simp only [Int.sub_mul,Int.add_mul,Int.mul_assoc]
   rw [show j*(B*A)=j*(A*B) by rw [Int.mul_comm B A]]
   rw [show i*(A*A) - j*(A*B)+(i*(B*B)+j*(A*B))=i*(A*A)+i*(B*B) by omega,Int.mul_comm i,Int.mul_comm i,Int.mul_assoc,Int.mul_assoc]
 · unfold areaI
   simp only [Int.sub_mul,Int.add_mul,Int.mul_assoc]
   rw [show i*(B*A)=i*(A*B) by rw [Int.mul_comm B A]]
   rw [show i*(A*B)+j*(A*A) - (i*(A*B) - j*(B*B))=j*(A*A)+j*(B*B) by omega,Int.mul_comm j,Int.mul_comm j,Int.mul_assoc,Int.mul_assoc]
theorem Lat.has_row {A B n g w a b p q:Int} (L:Lat A B n g w a b p q) {k:Int}:HasL A B k 0↔w ∣ k:=by
 rw [L.has]
 simp only [Int.zero_mul,Int.add_zero,Int.zero_sub]
 have hg1:=L.g1
 constructor
 · rintro ⟨h1,h2⟩
   have h2:=Int.dvd_neg.1 h2
   have h3:n ∣ k*g:=by
     rw [←L.bz,Int.mul_add,←Int.mul_assoc,←Int.mul_assoc]
     exact Int.dvd_add (Int.dvd_mul_of_dvd_left h1) (Int.dvd_mul_of_dvd_left h2)
   rw [←L.wg] at h3
   exact Int.dvd_of_mul_dvd_mul_right (by omega) h3
 · rintro ⟨c,rfl⟩
   refine ⟨⟨c*a,?_⟩,Int.dvd_neg.2 ⟨c*b,?_⟩⟩
   · rw [←L.wg]
     conv=>lhs;rw [L.ha]
     simp only [Int.mul_assoc,Int.mul_left_comm]
   · rw [←L.wg]
     conv=>lhs;rw [L.hb]
     simp only [Int.mul_assoc,Int.mul_left_comm]
theorem Lat.has_col {A B n g w a b p q:Int} (L:Lat A B n g w a b p q) {x y:Int} (h:HasL A B x y):g ∣ y:=by
 obtain ⟨⟨i,hi⟩,⟨j,hj⟩⟩:=L.has.1 h
 have hn:=L.area
 have h1:n*y=n*(i*B+j*A):=by
   have e1:(x*A+y*B)*B+(y*A - x*B)*A=y*(A*A+B*B):=by
     simp only [Int.add_mul,Int.sub_mul,Int.mul_add,Int.mul_assoc]
     rw [show x*(B*A)=x*(A*B) by rw [Int.mul_comm B A]]
     omega
   rw [hi,hj,hn] at e1
   rw [Int.mul_comm n y,←e1,Int.mul_add,Int.mul_assoc,Int.mul_assoc]
 have h2:y=i*B+j*A:=Int.eq_of_mul_eq_mul_left (by have:=L.n1;omega) h1
 rw [h2]
 exact Int.dvd_add (Int.dvd_mul_of_dvd_right ⟨b,L.hb⟩) (Int.dvd_mul_of_dvd_right ⟨a,L.ha⟩)
def IsName (A B x y K:Int):Prop:=0≤K∧K<areaI A B∧HasL A B (x - K % perI A B) (y - K/perI A B)
theorem Lat.name_bd {A B n g w a b p q:Int} (L:Lat A B n g w a b p q) {K:Int} (h0:0≤K) (h1:K<n):0≤K % w∧K % w<w∧0≤K/w∧K/w<g:=by
 have hw:=L.w1
 refine ⟨Int.emod_nonneg _ (by omega),Int.emod_lt_of_pos _ (by omega),Int.ediv_nonneg h0 (by omega),?_⟩
 apply Int.ediv_lt_of_lt_mul (by omega)
 rw [Int.mul_comm,L.wg];exact h1
theorem Lat.name_of {A B n g w a b p q:Int} (L:Lat A B n g w a b p q) {u v:Int} (h0:0≤u) (h1:u<w) (h2:0≤v) (h3:v<g):0≤v*w+u∧v*w+u<n∧(v*w+u) % w=u∧(v*w+u)/w=v:=by
 have hw:=L.w1
 have e1:0≤v*w:=Int.mul_nonneg h2 (by omega)
 have e2:(v+1)*w≤g*w:=Int.mul_le_mul_of_nonneg_right (by omega) (by omega)
 rw [Int.mul_comm g w,L.wg,Int.add_mul,Int.one_mul] at e2
 refine ⟨by omega,by omega,?_,?_⟩
 · rw [Int.add_comm,Int.add_mul_emod_self_right];exact Int.emod_eq_of_lt h0 h1
 · rw [Int.add_comm,Int.add_mul_ediv_right _ _ (by omega),Int.ediv_eq_zero_of_lt h0 h1];omega
theorem Lat.rect {A B n g w a b p q:Int} (L:Lat A B n g w a b p q) {u v u' v':Int} (h0:0≤u) (h1:u<w) (h2:0≤v) (h3:v<g) (k0:0≤u') (k1:u'<w) (k2:0≤v') (k3:v'<g) (h:HasL A B (u - u') (v - v')):u=u'∧v=v':=by
 obtain ⟨c,hc⟩:=L.has_col h
 have hv:v=v':=by
   have hg:=L.g1
   have hc0:c=0:=by
     have l1:-g<g*c:=by omega
     have l2:g*c<g:=by omega
     have i1:g*c<g*1:=by omega
     have i2:g*(-1)<g*c:=by omega
     have j1:=Int.lt_of_mul_lt_mul_left i1 (by omega)
     have j2:=Int.lt_of_mul_lt_mul_left i2 (by omega)
     omega
   subst hc0
   omega
 subst hv
 rw [Int.sub_self] at h
 obtain ⟨d,hd⟩:=L.has_row.1 h
 have hw:=L.w1
 have hd0:d=0:=by
   have i1:w*d<w*1:=by omega
   have i2:w*(-1)<w*d:=by omega
   have j1:=Int.lt_of_mul_lt_mul_left i1 (by omega)
   have j2:=Int.lt_of_mul_lt_mul_left i2 (by omega)
   omega
 subst hd0
 exact ⟨by omega,rfl⟩
theorem Lat.isName {A B n g w a b p q:Int} (L:Lat A B n g w a b p q) {x y K:Int}:IsName A B x y K↔0≤K∧K<n∧HasL A B (x - K % w) (y - K/w):=by unfold IsName;rw [L.hn,L.hw]
theorem Lat.name_one {A B n g w a b p q:Int} (L:Lat A B n g w a b p q) {x y K K':Int} (h:IsName A B x y K) (h':IsName A B x y K'):K=K':=by
 obtain ⟨h0,h1,h2⟩:=L.isName.1 h
 obtain ⟨k0,k1,k2⟩:=L.isName.1 h'
 obtain ⟨a0,a1,a2,a3⟩:=L.name_bd h0 h1
 obtain ⟨c0,c1,c2,c3⟩:=L.name_bd k0 k1
 have h3:=L.has_sub k2 h2
 rw [show x - K' % w - (x - K % w)=K % w - K' % w by omega,show y - K'/w - (y - K/w)=K/w - K'/w by omega] at h3
 obtain ⟨e1,e2⟩:=L.rect a0 a1 a2 a3 c0 c1 c2 c3 h3
 have d1:=Int.mul_ediv_add_emod K w
 have d2:=Int.mul_ediv_add_emod K' w
 rw [←d1,←d2,e1,e2]
theorem Lat.name_by {A B n g w a b p q:Int} (L:Lat A B n g w a b p q) {x y sx:Int} (hs:HasL A B sx g):IsName A B x y (y % g*w+(x - (y - y % g)/g*sx) % w):=by
 have hg:=L.g1
 have hw:=L.w1
 have v0:=Int.emod_nonneg y (show g≠0 by omega)
 have v1:=Int.emod_lt_of_pos y (show 0<g by omega)
 obtain ⟨t,ht⟩: ∃t,(y - y % g)/g=t:=⟨_,rfl⟩
 have hyt:y - y % g=t*g:=by
   have h:=Int.mul_ediv_add_emod y g
   have:y - y % g=y/g*g:=by rw [Int.mul_comm];omega
   rw [this,Int.mul_ediv_cancel _ (by omega)] at ht
   rw [this,ht]
 rw [ht]
 obtain ⟨X,hX⟩: ∃X,x - t*sx=X:=⟨_,rfl⟩
 rw [hX]
 have u0:=Int.emod_nonneg X (show w≠0 by omega)
 have u1:=Int.emod_lt_of_pos X (show 0<w by omega)
 obtain ⟨m1,m2,m3,m4⟩:=L.name_of u0 u1 v0 v1
 rw [L.isName]
 refine ⟨m1,m2,?_⟩
 rw [m3,m4,hyt]
 have e1:=L.has_mul hs t
 have e2:HasL A B (X - X % w) 0:=L.has_row.2 ⟨X/w,by have:=Int.mul_ediv_add_emod X w;omega⟩
 have e3:=L.has_add e1 e2
 rwa [show t*sx+(X - X % w)=x - X % w by omega,Int.add_zero] at e3
theorem Lat.has_step {A B n g w a b p q:Int} (L:Lat A B n g w a b p q):HasL A B (q*A - p*B) g:=by
 have h:=L.has_ij q p
 rwa [show q*B+p*A=g by rw [←L.bz,Int.mul_comm q B,Int.mul_comm p A];omega] at h
theorem Lat.name_ex {A B n g w a b p q:Int} (L:Lat A B n g w a b p q) (x y:Int): ∃K,IsName A B x y K:=⟨_,L.name_by L.has_step⟩
def nearF (A B x y:Int):Int:=(wayG (x*A+y*B) (areaI A B)*wayG (x*A+y*B) (areaI A B)+wayG (y*A - x*B) (areaI A B)*wayG (y*A - x*B) (areaI A B))/areaI A B
theorem wayG_mod (d e a:Int) (h:a ∣ d - e):wayG d a=wayG e a:=by
 unfold wayG
 rw [Int.emod_emod_of_dvd_sub h]
where
 Int.emod_emod_of_dvd_sub {d e a:Int} (h:a ∣ d - e):d % a=e % a:=Int.emod_eq_emod_iff_emod_sub_eq_zero.2 (Int.emod_eq_zero_of_dvd h)
theorem wayG_two {X n:Int} (hn:1≤n): ∃c,(c=X/n∨c=X/n+1)∧(wayG X n=X - n*c∨wayG X n=n*c - X):=by
 have h1:=Int.mul_ediv_add_emod X n
 have h2:=Int.emod_nonneg X (show n≠0 by omega)
 have h3:=Int.emod_lt_of_pos X (show 0<n by omega)
 unfold wayG
 by_cases h:X % n≤n - X % n
 · exact ⟨X/n,Or.inl rfl,Or.inl (by omega)⟩
 · refine ⟨X/n+1,Or.inr rfl,Or.inr ?_⟩
   rw [Int.mul_add,Int.mul_one];omega
theorem sq_eq_neg {x y:Int} (h:x=y∨x=-y):x*x=y*y:=by
 rcases h with rfl | rfl
 · rfl
 · rw [Int.neg_mul_neg]
theorem far_id (A B x y c d:Int):(A*A+B*B)*((x - c*A+d*B)*(x - c*A+d*B)+(y - c*B - d*A)*(y - c*B - d*A))=(x*A+y*B - (A*A+B*B)*c)*(x*A+y*B - (A*A+B*B)*c)+(y*A - x*B - (A*A+B*B)*d)*(y*A - x*B - (A*A+B*B)*d):=by
 obtain ⟨P,hP⟩: ∃P,x - c*A+d*B=P:=⟨_,rfl⟩
 obtain ⟨Q,hQ⟩: ∃Q,y - c*B - d*A=Q:=⟨_,rfl⟩
 have e1:x*A+y*B - (A*A+B*B)*c=P*A+Q*B:=by
   rw [←hP,←hQ]
   simp only [Int.add_mul,Int.sub_mul,Int.mul_assoc]
   rw [show d*(B*A)=d*(A*B) by rw [Int.mul_comm B A],show A*(A*c)=c*(A*A) by rw [←Int.mul_assoc,Int.mul_comm],show B*(B*c)=c*(B*B) by rw [←Int.mul_assoc,Int.mul_comm]]
   omega
 have e2:y*A - x*B - (A*A+B*B)*d=Q*A - P*B:=by
   rw [←hP,←hQ]
   simp only [Int.add_mul,Int.sub_mul,Int.mul_assoc]
   rw [show c*(B*A)=c*(A*B) by rw [Int.mul_comm B A],show A*(A*d)=d*(A*A) by rw [←Int.mul_assoc,Int.mul_comm],show B*(B*d)=d*(B*B) by rw [←Int.mul_assoc,Int.mul_comm]]
   omega
 rw [hP,hQ,e1,e2]
 have m: ∀u v s t:Int,(u*s+v*t)*(u*s+v*t)+(v*s - u*t)*(v*s - u*t)=(s*s+t*t)*(u*u+v*v):=by
   intro u v s t
   simp only [Int.add_mul,Int.sub_mul,Int.mul_add,Int.mul_sub]
   rw [show u*s*(u*s)=s*s*(u*u) by simp only [Int.mul_assoc,Int.mul_left_comm,Int.mul_comm],
     show v*t*(v*t)=t*t*(v*v) by simp only [Int.mul_assoc,Int.mul_left_comm,Int.mul_comm],
     show v*s*(v*s)=s*s*(v*v) by simp only [Int.mul_assoc,Int.mul_left_comm,Int.mul_comm],
     show u*t*(u*t)=t*t*(u*u) by simp only [Int.mul_assoc,Int.mul_left_comm,Int.mul_comm],
     show u*s*(v*t)=v*s*(u*t) by simp only [Int.mul_assoc,Int.mul_left_comm,Int.mul_comm],
     show v*t*(u*s)=u*t*(v*s) by simp only [Int.mul_assoc,Int.mul_left_comm,Int.mul_comm],
     show u*t*(v*s)=v*s*(u*t) by simp only [Int.mul_assoc,Int.mul_left_comm,Int.mul_comm]]
   omega
 exact (m P Q A B).symm
theorem Lat.near_n {A B n g w a b p q:Int} (L:Lat A B n g w a b p q) (x y:Int):n*nearF A B x y=wayG (x*A+y*B) n*wayG (x*A+y*B) n+wayG (y*A - x*B) n*wayG (y*A - x*B) n:=by
 obtain ⟨c,_,hc⟩:=wayG_two (X:=x*A+y*B) L.n1
 obtain ⟨d,_,hd⟩:=wayG_two (X:=y*A - x*B) L.n1
 have h:=far_id A B x y c d
 rw [L.area] at h
 unfold nearF
 rw [L.hn,sq_eq_neg (x:=wayG (x*A+y*B) n) (y:=x*A+y*B - n*c) (by omega),sq_eq_neg (x:=wayG (y*A - x*B) n) (y:=y*A - x*B - n*d) (by omega),←h,Int.mul_ediv_cancel_left _ (by have:=L.n1;omega)]
theorem Lat.near_nn {A B n g w a b p q:Int} (L:Lat A B n g w a b p q) (x y:Int):0≤nearF A B x y:=by
 have h:=L.near_n x y
 have h1:=sq_nn (wayG_bd (d:=x*A+y*B) L.n1).1
 have h2:=sq_nn (wayG_bd (d:=y*A - x*B) L.n1).1
 have hn:=L.n1
 by_cases h3:0≤nearF A B x y
 · exact h3
 · exfalso
   have:n*nearF A B x y≤n*(-1):=Int.mul_le_mul_of_nonneg_left (by omega) (by omega)
   omega
theorem Lat.near_shift {A B n g w a b p q:Int} (L:Lat A B n g w a b p q) {x y dx dy:Int} (hd:HasL A B dx dy):nearF A B (x+dx) (y+dy)=nearF A B x y:=by
 obtain ⟨h1,h2⟩:=L.has.1 hd
 unfold nearF
 rw [L.hn,wayG_mod ((x+dx)*A+(y+dy)*B) (x*A+y*B) n (by rw [show (x+dx)*A+(y+dy)*B - (x*A+y*B)=dx*A+dy*B by simp only [Int.add_mul];omega];exact h1),
   wayG_mod ((y+dy)*A - (x+dx)*B) (y*A - x*B) n (by rw [show (y+dy)*A - (x+dx)*B - (y*A - x*B)=dy*A - dx*B by simp only [Int.add_mul];omega];exact h2)]
theorem Lat.near_mod {A B n g w a b p q:Int} (L:Lat A B n g w a b p q) (x y:Int):nearF A B (x % n) (y % n)=nearF A B x y:=by
 have hn:=L.n1
 have d1:=Int.mul_ediv_add_emod x n
 have d2:=Int.mul_ediv_add_emod y n
 have hd:HasL A B (x - x % n) (y - y % n):=by
   rw [L.has]
   rw [show x - x % n=n*(x/n) by omega,show y - y % n=n*(y/n) by omega]
   refine ⟨?_,?_⟩
   · rw [Int.mul_assoc,Int.mul_assoc,←Int.mul_add];exact Int.dvd_mul_right _ _
   · rw [Int.mul_assoc,Int.mul_assoc,←Int.mul_sub];exact Int.dvd_mul_right _ _
 have:=L.near_shift (x:=x % n) (y:=y % n) hd
 rw [show x % n+(x - x % n)=x by omega,show y % n+(y - y % n)=y by omega] at this
 exact this.symm
end Go.Proofs.YtanccoopbgamdaaGreatDoor
namespace Go.Proofs.YtanccoopbgamdaaGreatDoor
open Go.RowKit
set_option linter.unusedVariables false
set_option linter.unusedSimpArgs false
theorem Blk.c2 {w:World} {g T:Nat} {a b:Value} (h:Blk w g T #[a,b]):g<w.heap.size∧w.cell? ⟨g,0,none⟩=some a∧w.cell? ⟨g,1,none⟩=some b:=
 ⟨h.lt,by rw [h.cell];rfl,by rw [h.cell];rfl⟩
theorem latOk_no {A B:Int} (h: ¬(1≤A∧A≤12∧0≤B∧B≤12)):latOk A B=false:=by
 unfold latOk
 by_cases h1:1≤A <;>by_cases h2:A≤12 <;>by_cases h3:0≤B <;>by_cases h4:B≤12 <;>simp [h1,h2,h3,h4]
 omega
theorem latOk_yes {A B:Int} (h1:1≤A) (h2:A≤12) (h3:0≤B) (h4:B≤12):latOk A B=true:=by unfold latOk;simp [h1,h2,h3,h4]
set_option maxHeartbeats 800000 in
theorem impl_IsLattice (A B:Int) (w:World):
   Calls Tryz.prog 123 #[.agg #[.int .i64 A, .int .i64 B]] w fun e w'=>e= .returned (.bool (latOk A B))∧Below w.heap.size w w':=by
 go_enter Tryz.func123,Tryz.ntmps123
 go_wp2_with fail
 all_goals (go_ret;exact ⟨ret_bool (by first | (symm;exact latOk_no (by omega)) | (symm;exact latOk_yes (by omega) (by omega) (by omega) (by omega)) | (by_cases h:B≤12 <;>first | (rw [latOk_yes (by omega) (by omega) (by omega) h];simp [*];done) | (rw [latOk_no (by omega)];simp [*];done))),Joins.below_alloc1 _ _⟩)
theorem bDrawn (w:World) (k:Nat):Below w.heap.size w (w.drewN k):=grown_below (row:=none) (grown_drewN (grown_refl w none) k) (Nat.le_refl _) (fun _ h=>by cases h)
theorem tmod5 {a n:Int} (h:a<0) (hn:1≤n):-n<a.tmod n∧a.tmod n≤0∧(a.tmod n<0→a.tmod n+n=a % n)∧(¬a.tmod n<0→a.tmod n=a % n):=by
 obtain ⟨b,rfl⟩: ∃b,a=-b:=⟨-a,by omega⟩
 have e0:(-b).tmod n=-(b % n):=by rw [Int.neg_tmod,Int.tmod_eq_emod_of_nonneg (by omega)]
 have e1:0≤b % n:=Int.emod_nonneg _ (by omega)
 have e2:b % n<n:=Int.emod_lt_of_pos _ (by omega)
 rw [e0]
 refine ⟨by omega,by omega,fun h1=>?_,fun h1=>?_⟩
 · have e3:-b=(n - b % n)+n*(-(b/n) - 1):=by
     have:=Int.mul_ediv_add_emod b n
     rw [Int.mul_sub,Int.mul_neg]
     omega
   have e4:(-b) % n=n - b % n:=by
     rw [e3,Int.add_mul_emod_self_left,Int.emod_eq_of_lt (by omega) (by omega)]
   rw [e4];omega
 · have e5:b % n=0:=by omega
   have e6:(-b) % n=0:=Int.emod_eq_zero_of_dvd (Int.dvd_neg.2 (Int.dvd_of_emod_eq_zero e5))
   omega
set_option maxHeartbeats 400000 in
theorem rem5 (a n:Int) (w:World) (h:1≤n) (h2:n≤9223372036854775807):
   Calls Tryz.prog 68 #[.int .i64 a, .int .i64 n] w fun e w'=>e= .returned (.int .i64 (a % n))∧w=w':=by
 by_cases ha:0≤a
 · have e1:0≤a % n:=Int.emod_nonneg _ (by omega)
   have e2:a % n<n:=Int.emod_lt_of_pos _ (by omega)
   go_enter Tryz.func68,Tryz.ntmps68
   go_wp2
   go_ret
   exact ⟨rfl,rfl⟩
 · obtain ⟨t1,t2,t3,t4⟩:=tmod5 (a:=a) (n:=n) (by omega) h
   have H3:=Lib.hid t3
   have H4:=Lib.hid t4
   clear t3 t4
   by_cases hr:a.tmod n<0
   · go_enter Tryz.func68,Tryz.ntmps68
     go_wp2
     go_ret
     exact ⟨ret_int (H3.out hr),rfl⟩
   · go_enter Tryz.func68,Tryz.ntmps68
     go_wp2
     go_ret
     exact ⟨ret_int (H4.out hr),rfl⟩
theorem gcd5_go {a b:Nat} (hb:b≠0):Nat.gcd b (a % b)=Nat.gcd a b:=by rw [Nat.gcd_comm b,←Nat.gcd_rec,Nat.gcd_comm]
theorem cast5_mod (a b:Nat):((a % b:Nat):Int)=(a:Int) % (b:Int):=by simp
set_option maxHeartbeats 800000 in
theorem impl_gcd5 (a b:Nat) (w:World) (ha:a≤1000000) (hb:b≤1000000):
   Calls Tryz.prog 28 #[.int .i64 a, .int .i64 b] w fun e w'=>e= .returned (.int .i64 (Nat.gcd a b:Nat))∧ ∃q,w'=w.drewN q:=by
 go_enter Tryz.func28,Tryz.ntmps28
 go_wp2_with fail
 go_loopw [0,1] (fun x y wr=> ∃a' b':Nat,a'≤1000000∧b'≤1000000∧x= .int .i64 a'∧y= .int .i64 b'∧Hid (Nat.gcd a' b'=Nat.gcd a b)∧ ∃q,wr=w.drewN q) (fun _ y _=>(intOf y).toNat)
 case atStart=>exact ⟨a,b,ha,hb,rfl,rfl,Lib.hid rfl,0,rfl⟩
 case round=>
   obtain ⟨a',b',ha',hb',rfl,rfl,HG,q,rfl⟩:=hrel
   by_cases h0:b'=0
   · subst h0
     go_wp2_with fail
     go_ret
     exact ⟨ret_int (by have:=HG.out;rw [Nat.gcd_zero_right] at this;rw [this]),q,rfl⟩
   · have h1:((b':Int) !=0)=true:=by simpa using h0
     have h2:((b':Int)==0)=false:=by simpa using h0
     have h3: ¬(b':Int)=0:=by omega
     have HR:=Lib.hid (gcd5_go (a:=a') h0)
     have m1:=Nat.mod_lt a' (show 0<b' by omega)
     obtain ⟨M,hM⟩: ∃M:Nat,a' % b'=M:=⟨_,rfl⟩
     rw [hM] at m1 HR
     have t1:(a':Int).tmod (b':Int)=(M:Int):=by rw [Int.tmod_eq_emod_of_nonneg (by omega),←cast5_mod,hM]
     have t2:IntKind.i64.wrap (M:Int)=(M:Int):=IntWalk.i64_in _ (by omega)
     clear h0 hM
     go_wp2_with fail
     go_quiet (fail)
     clear t1 t2
     go_wp2_with fail
     go_roundw
     case rel=>exact ⟨b',M,hb',by omega,rfl,rfl,Lib.hid (by rw [HR.out];exact HG.out),by first | exact draws1 _ _ | exact draws2 _ _ _⟩
     case measure=>simp [intOf];omega
theorem gcd5_of {A B n g d a b p q:Int} (L:Lat A B n g d a b p q): ∃x y:Nat,A=(x:Int)∧B=(y:Int)∧x≤12∧y≤12∧((Nat.gcd x y:Nat):Int)=g:=by
 have h1:=L.a1;have h2:=L.a2;have h3:=L.b1;have h4:=L.b2
 refine ⟨A.toNat,B.toNat,by omega,by omega,by omega,by omega,?_⟩
 exact L.hg
theorem impl_gcdL {A B n g d a b p q:Int} (L:Lat A B n g d a b p q) (w:World):
   Calls Tryz.prog 28 #[.int .i64 A, .int .i64 B] w fun e w'=>e= .returned (.int .i64 g)∧Below w.heap.size w w':=by
 obtain ⟨x,y,rfl,rfl,h1,h2,hg⟩:=gcd5_of L
 rw [←hg]
 exact (impl_gcd5 x y w (by omega) (by omega)).mono (fun e w' ⟨h,k,hk⟩=>⟨h,by rw [hk];exact bDrawn _ k⟩)
theorem lat_bd {A B n g d a b p q:Int} (L:Lat A B n g d a b p q):0≤A*A∧A*A≤144∧0≤B*B∧B*B≤144:=by
 obtain ⟨h1,h2⟩:=sq_le12 (A:=A) (by have:=L.a1;omega) L.a2
 obtain ⟨h3,h4⟩:=sq_le12 L.b1 L.b2
 exact ⟨h1,h2,h3,h4⟩
theorem lat_ok {A B n g d a b p q:Int} (L:Lat A B n g d a b p q):latOk A B=true:=latOk_yes L.a1 L.a2 L.b1 L.b2
set_option maxHeartbeats 400000 in
theorem impl_AreaOf_yes {A B n g d a b p q:Int} (L:Lat A B n g d a b p q) (w:World):
   Calls Tryz.prog 153 #[.agg #[.int .i64 A, .int .i64 B]] w fun e w'=>e= .returned (.int .i64 n)∧Below w.heap.size w w':=by
 obtain ⟨s1,s2,s3,s4⟩:=lat_bd L
 have HL:=Lib.hid L
 clear L
 go_enter Tryz.func153,Tryz.ntmps153
 go_wp2_with fail
 refine (impl_IsLattice _ _ _).mono ?_
 rw [lat_ok HL.out]
 rintro e w1 ⟨rfl,hb⟩
 have HB1:=Lib.hid (bTrans (Joins.below_alloc1 _ _) hb)
 obtain ⟨z,c0,c1⟩:=((Blk.new w 126 #[.int .i64 A, .int .i64 B]).below' hb).c2
 clear hb
 go_wp2_with fail
 go_ret
 exact ⟨ret_int HL.out.area,HB1.out⟩
theorem bDraws {B:Nat} {w w':World} (h:Below B w w') (n:Nat):Below B w (w'.drewN n):=⟨h.os,h.tape,h.output,h.size,h.block⟩
theorem quo5 {A B n g d a b p q:Int} (L:Lat A B n g d a b p q):n.tdiv g=d∧n/g=d:=by
 have h1:=L.g1;have h2:=L.n1
 have e:n/g=d:=by rw [←L.wg];exact Int.mul_ediv_cancel _ (by omega)
 exact ⟨by rw [Int.tdiv_eq_ediv_of_nonneg (by omega)];exact e,e⟩
set_option maxHeartbeats 800000 in
theorem impl_PeriodOf_yes {A B n g d a b p q:Int} (L:Lat A B n g d a b p q) (w:World):
   Calls Tryz.prog 122 #[.agg #[.int .i64 A, .int .i64 B]] w fun e w'=>e= .returned (.int .i64 d)∧Below w.heap.size w w':=by
 obtain ⟨t1,t2⟩:=quo5 L
 have g1:=L.g1;have g2:=L.g2;have n1:=L.n1;have n2:=L.n2;have d1:=L.w1;have d2:=L.w2
 have HL:=Lib.hid L
 have HT:=Lib.hid t1
 clear L t1 t2
 go_enter Tryz.func122,Tryz.ntmps122
 go_wp2_with fail
 refine (impl_IsLattice _ _ _).mono ?_
 rw [lat_ok HL.out]
 rintro e w1 ⟨rfl,hb⟩
 have HB1:=Lib.hid (bTrans (Joins.below_alloc1 _ _) hb)
 obtain ⟨z,c0,c1⟩:=((Blk.new w 126 #[.int .i64 A, .int .i64 B]).below' hb).c2
 clear hb
 go_wp2_with fail
 have z1: ¬g=0:=by omega
 have z2:(g==0)=false:=by simp;omega
 have t2:=HT.out
 have t3:IntKind.i64.wrap d=d:=IntWalk.i64_in _ (by omega)
 have MK:Hid (∀v,BelowL w1 v→v.cell? ⟨w.heap.size,0,none⟩=some (.int .i64 A)∧v.cell? ⟨w.heap.size,1,none⟩=some (.int .i64 B)∧BelowL w1 v):=Lib.hid (fun v h=>⟨(h.out.cell z).trans c0,(h.out.cell z).trans c1,h⟩)
 go_region_held3 (fun v=>v.cell? ⟨w.heap.size,0,none⟩=some (.int .i64 A)∧v.cell? ⟨w.heap.size,1,none⟩=some (.int .i64 B)∧BelowL w1 v)
   (first | exact MK.out _ hb2 | exact MK.out _ hb1 | exact MK.out _ (BelowL.start _))
   (first
     | (go_at_call 153;((with_reducible refine (impl_AreaOf_yes HL.out _).mono ?_);rintro e v1 ⟨rfl,hq1⟩;have hb1:=BelowL.call (limb3 (by assumption)) hq1))
     | (go_at_call 28;((with_reducible refine (impl_gcdL HL.out _).mono ?_);rintro e v2 ⟨rfl,hq2⟩;have hb2:=BelowL.call (limb3 (by assumption)) hq2)))
 go_wp2_with fail
 go_ret
 exact ⟨rfl,bTrans HB1.out hb2.out⟩
set_option maxHeartbeats 400000 in
theorem impl_PeriodOf_no {A B:Int} (h:latOk A B=false) (w:World):
   Calls Tryz.prog 122 #[.agg #[.int .i64 A, .int .i64 B]] w fun e w'=>e= .returned (.int .i64 0)∧Below w.heap.size w w':=by
 have HL:=Lib.hid h
 clear h
 go_enter Tryz.func122,Tryz.ntmps122
 go_wp2_with fail
 refine (impl_IsLattice _ _ _).mono ?_
 rw [HL.out]
 rintro e w1 ⟨rfl,hb⟩
 have HB1:=Lib.hid (bTrans (Joins.below_alloc1 _ _) hb)
 clear hb
 go_wp2_with fail
 go_ret
 exact ⟨rfl,HB1.out⟩
theorem div5 {A B n g d a b p q K:Int} (L:Lat A B n g d a b p q) (h0:0≤K) (h1:K<n):0≤K % d∧K % d≤287∧0≤K/d∧K/d≤11∧K.tmod d=K % d∧K.tdiv d=K/d:=by
 obtain ⟨a0,a1,a2,a3⟩:=L.name_bd h0 h1
 have:=L.w2;have:=L.g2
 exact ⟨a0,by omega,a2,by omega,Int.tmod_eq_emod_of_nonneg h0,Int.tdiv_eq_ediv_of_nonneg h0⟩
set_option maxHeartbeats 800000 in
theorem impl_PointOf_yes {A B n g d a b p q:Int} (L:Lat A B n g d a b p q) (K:Int) (h0:0≤K) (h1:K<n) (w:World):
   Calls Tryz.prog 187 #[.agg #[.int .i64 A, .int .i64 B], .int .i64 K] w fun e w'=>e= .returned (.tuple #[.int .i64 (K % d), .int .i64 (K/d), .bool true])∧Below w.heap.size w w':=by
 obtain ⟨U,hU⟩: ∃U,K % d=U:=⟨_,rfl⟩
 obtain ⟨V,hV⟩: ∃V,K/d=V:=⟨_,rfl⟩
 obtain ⟨u1,u2,v1,v2,t1,t2⟩:=div5 L h0 h1
 rw [hU] at u1 u2 t1⊢
 rw [hV] at v1 v2 t2⊢
 have n1:=L.n1;have n2:=L.n2;have d1:=L.w1;have d2:=L.w2
 have HL:=Lib.hid L
 have HT1:=Lib.hid t1
 have HT2:=Lib.hid t2
 clear L t1 t2 hU hV
 go_enter Tryz.func187,Tryz.ntmps187
 go_wp2_with fail
 refine (impl_IsLattice _ _ _).mono ?_
 rw [lat_ok HL.out]
 rintro e w1 ⟨rfl,hb⟩
 have HB1:=Lib.hid (bTrans (Joins.below_alloc1 _ _) hb)
 have KB1:=Lib.hid ((Blk.new w 126 #[.int .i64 A, .int .i64 B]).below' hb)
 obtain ⟨z,c0,c1⟩:=KB1.out.c2
 clear hb
 go_wp2_with fail
 refine (impl_AreaOf_yes HL.out _).mono ?_
 rintro e w2 ⟨rfl,hb⟩
 have HB2:=Lib.hid (bTrans HB1.out hb)
 have KB2:=Lib.hid (KB1.out.below' hb)
 clear hb z c0 c1
 obtain ⟨z,c0,c1⟩:=KB2.out.c2
 go_wp2_with fail
 refine (impl_PeriodOf_yes HL.out _).mono ?_
 rintro e w3 ⟨rfl,hb⟩
 have HB3:=Lib.hid (bTrans HB2.out hb)
 clear hb z c0 c1
 have z1: ¬d=0:=by omega
 have z2:(d==0)=false:=by simp;omega
 have t1:=HT1.out
 have t2:=HT2.out
 have t3:IntKind.i64.wrap U=U:=IntWalk.i64_in _ (by omega)
 have t4:IntKind.i64.wrap V=V:=IntWalk.i64_in _ (by omega)
 go_wp2_with fail
 go_quiet (fail)
 go_wp2_with fail
 go_ret3
 exact ⟨rfl,bDraws HB3.out _⟩
theorem prod_bd {u A m:Int} (h1:-m≤u) (h2:u≤m) (hm:0≤m) (a1:0≤A) (a2:A≤12):-(m*12)≤u*A∧u*A≤m*12:=by
 have e1:u*A≤m*A:=Int.mul_le_mul_of_nonneg_right h2 a1
 have e2:-m*A≤u*A:=Int.mul_le_mul_of_nonneg_right h1 a1
 have e3:m*A≤m*12:=Int.mul_le_mul_of_nonneg_left a2 hm
 rw [Int.neg_mul] at e2
 omega
set_option maxHeartbeats 400000 in
theorem impl_isPlace (x:Int) (w:World):
   Calls Tryz.prog 191 #[.int .i64 x] w fun e w'=>e= .returned (.bool (decide (-100000≤x∧x≤100000)))∧w=w':=by
 go_enter Tryz.func191,Tryz.ntmps191
 go_wp2
 all_goals (go_ret;exact ⟨ret_bool (by first | (simp [*];done) | (simp [*];omega) | (simp;intros;omega)),rfl⟩)
end Go.Proofs.YtanccoopbgamdaaGreatDoor
namespace Go.Proofs.YtanccoopbgamdaaGreatDoor
set_option linter.unusedVariables false
set_option linter.unusedSimpArgs false
theorem sq_ge (x:Int):0≤x*x:=by
 rcases Int.le_total 0 x with h | h
 · exact Int.mul_nonneg h h
 · have:=Int.mul_nonneg (show 0≤-x by omega) (show 0≤-x by omega)
   rwa [Int.neg_mul_neg] at this
end Go.Proofs.YtanccoopbgamdaaGreatDoor
namespace Go.Proofs.YtanccoopbgamdaaGreatDoor
open Go.RowKit
set_option linter.unusedVariables false
set_option linter.unusedSimpArgs false
theorem sq_bdN {x m:Int} (h1:-m≤x) (h2:x≤m):0≤x*x∧x*x≤m*m:=by
 refine ⟨sq_ge x,?_⟩
 rcases Int.le_total 0 x with h | h
 · exact Int.mul_le_mul h2 h2 h (by omega)
 · have:=Int.mul_le_mul (show -x≤m by omega) (show -x≤m by omega) (by omega) (by omega)
   rwa [Int.neg_mul_neg] at this
end Go.Proofs.YtanccoopbgamdaaGreatDoor
