/- Facts on which this claim rests, 13. -/
import Derived.Test.YtlenfgdjdianiaaGreatDoorG11
import Derived.Test.YtlenfgdjdianiaaGreatDoorG12
set_option linter.all false
set_option maxHeartbeats 6400000
namespace Go.Proofs.YtlenfgdjdianiaaGreatDoor
open Go.RowKit Tq Go.Proofs.Tryz
variable {H M W v : Int} {N i j k m n : Nat} {b c f g : Nat → Int}
def okV (ps:List PV) (k:Nat):Prop:=zT (pv ps k).W (pv ps k).H (pv ps k).ink 1=true/\(pv ps k).W=(pv ps 0).W/\(pv ps k).H=(pv ps 0).H
theorem CQ {ps:List PV}:xG (zS ps)=true↔1<=ps.length/\ps.length<=4/\ ∀k,k<ps.length->okV ps k:=by
 constructor;intro h;obtain ⟨h1,h2,h3⟩:=Vi h;rw [kU] at h1 h2 h3;refine ⟨h1,h2,fun k hk=>?_⟩;have:=h3 k hk;rw [ZV ps k hk,ZV ps 0 om] at this;exact this;rintro ⟨h1,h2,h3⟩;refine zAr (by rw [kU];exact h1) (by rw [kU];exact h2) (fun k hk=>?_);rw [kU] at hk;rw [ZV ps k hk,ZV ps 0 om];exact h3 k hk
theorem NQ {ps:List PV} (hk:k<ps.length) (h: ¬okV ps k):xG (zS ps)=false:=by
 cases hs:xG (zS ps) with
 | false=>rfl
 | true=>exact absurd ((CQ.1 hs).2.2 k hk) h
theorem UZ {ps:List PV} (h: ¬(1<=ps.length/\ps.length<=4)):xG (zS ps)=false:=by
 cases hs:xG (zS ps) with
 | false=>rfl
 | true=>have:=CQ.1 hs;exact absurd ⟨this.1,this.2.1⟩ h
theorem Bq (ad:Option Addr) (n b8:Nat) (ps:List PV) (w:World) (hn:ps.length=n) (ha:RdV w ad ps) (hl:n<=1048576) (h4: ∀k,k<ps.length->(pv ps k).n<=1048576):
 Calls prog 47 #[.slice ad n b8] w (zR (.bool (xG (zS ps))) w):=by
 obtain ⟨J,HA,H4⟩:=JF hn ha h4;clear hn ha h4;by_cases hs:1<=(n:Int)/\(n:Int)<=4
 case neg=>
  have E:Hd (xG (zS ps)=false):=Jh (UZ (oh J));have HS:=Jh hs;clear hs;go_in;go_wp2_with fail;refine (kD _ _ _ _ HS.Z).mono ?_;rintro e w2 ⟨rfl,rfl⟩
  go_wp2
  go_ret;exact ⟨zV E.Z.symm,bR⟩
 obtain ⟨s1,s2⟩:=hs;obtain ⟨b,off,c4,d3⟩:=HA.Z.addr (oh J);subst c4;have n0:(0:Int)<(n:Int):=om;have d5:0<n:=om;go_in;go_wp2_with fail;refine (yJ _ _ _ _ s1 s2).mono ?_;rintro e w2 ⟨rfl,rfl⟩
 go_wp2
 go_loopw [11] (fun i wr=> ∃k:Nat,k<=n/\i= .int .i64 k/\Hd (∀j,j<k->okV ps j)/\Hd (Below w w wr)) (fun i _=>n - (intOf i).toNat)
 exact ⟨0,nZ,rfl,Jh (fun j hj=>om),Jh bR⟩;obtain ⟨k,hk,rfl,U,HW⟩:=hrel;by_cases d4:k<n
 . have HR:=Jh (HA.Z.below HW.Z)
   obtain ⟨_,c0,c1,c2⟩:=HR.Z.cells (k:=k) (oh J);obtain ⟨L,d0,d1,d2⟩:=HR.Z.cells (k:=0) (oh J);have b2:=HR.Z.len (k:=k) (oh J);have b3:=HR.Z.rd (k:=k) (oh J);have l1:=H4.Z k (oh J);have b6: ¬okV ps k->xG (zS ps)=false:=NQ (oh J);have Q:okV ps k↔zT (pv ps k).W (pv ps k).H (pv ps k).ink 1=true/\(pv ps k).W=(pv ps 0).W/\(pv ps k).H=(pv ps 0).H:=Iff.rfl;simp only [Nat.zero_mul,Yy] at d0 d1 d2;obtain ⟨p,hp⟩: ∃p,pv ps k=p:=⟨_,rfl⟩
   obtain ⟨q,hq⟩: ∃q,pv ps 0=q:=⟨_,rfl⟩
   rw [hp] at c0 c1 c2 b2 b3 l1 Q;rw [hq] at d0 d1 d2 Q;obtain ⟨b0,O,L1,R1⟩:=JG b6 Q b2 b3;have k0:(0:Int)<=(k:Int):=om;have k1:(k:Int)<(n:Int):=om;clear hp hq b2 b3 b6 Q;have KB:=Blk.new wr 31 ↑p;obtain ⟨I,C,D,F⟩:=KB.c3;have R2:=Jh (R1.Z.alloc (.cells ↑p 31));have z:=Jh (zM HW.Z (.cells ↑p 31));have V:b<(wr.alloc (.cells ↑p 31)).heap.size:=sO;have t:(wr.alloc (.cells ↑p 31)).cell? (b,off)=some ↑q.W:=(World.cell?_alloc_lt _ _ _ L).trans d0;have u:(wr.alloc (.cells ↑p 31)).cell? (b,off+1)=some ↑q.H:=(World.cell?_alloc_lt _ _ _ L).trans d1;have P:(wr.alloc (.cells ↑p 31)).cell? (b,off+2)=some (.slice q.a q.n q.c):=(World.cell?_alloc_lt _ _ _ L).trans d2;clear KB;by_cases hp:zT p.W p.H p.ink 1=true
   case neg=>
    have b7:zT p.W p.H p.ink 1=false:=by simpa using hp
    have E:Hd (xG (zS ps)=false):=Jh (b0.Z (fun h=>hp (O.Z.1 h).1));have CP:Hd (∀v:World,Rd v p.a p.ink->Calls prog 86 #[.agg ↑p] v (zR (.bool false) v)):=Jh (fun v h=>by have:=jl p.W p.H p.a p.n p.c p.ink v L1.Z h om;rwa [b7] at this);clear hp b7;go_wp2_with fail;clear c0 c1 c2 d0 d1 d2;refine wp_region_held_drew (S:=fun v=>JB v wr p.W p.H (.slice p.a p.n p.c) (Jc v (b,off) q.W/\Jc v (b,off+1) q.H)) zK ⟨C,D,F,t,u⟩ ?_;intro s;refine hTs 0 ?_;refine yI 1 (fun K hK=>?_);go_simp
    go_at_call 86
    ((with_reducible refine (CP.Z _ (by exact R2.Z.drew)).mono ?_);rintro e B ⟨rfl,l⟩);have y:(JB B wr p.W p.H (.slice p.a p.n p.c) (Jc B (b,off) q.W/\Jc B (b,off+1) q.H):Prop):=⟨(l.cell I).trans C,(l.cell I).trans D,(l.cell I).trans F,(l.cell V).trans t,(l.cell V).trans u⟩
    have x:=Jh y;clear y;go_wp2_with fail;refine hK.out _ _ x.Z (fun s=>?_);clear hK K;refine yE ?_;refine zQ 2 ?_;refine hTs 3 ?_;refine jD 4 ?_;refine jD 5 ?_;refine jD 6 ?_;refine jD 7 ?_;refine jD 8 ?_;refine jD 9 ?_;refine yI 10 (fun K hK=>?_);go_simp;refine hK.out _ _ (by first | exact s | assumption) (fun s=>?_);clear hK K;refine yE ?_;refine zQ 11 ?_;refine hTs 12 ?_;refine jD 13 ?_;refine jD 14 ?_;refine jD 15 ?_;refine jD 16 ?_;refine jD 17 ?_;refine jD 18 ?_;refine yI 19 (fun K hK=>?_);go_simp;refine hK.out _ _ (by first | exact s | assumption) (fun s=>?_);clear hK K;refine yE ?_;refine hTs 20 ?_;refine wpAnyH_done zK ?_ _;have A:=Jh (z.Z.drew.trans (l.mono (by have:=z.Z.size;exact this)));clear l C D F t u P x
    go_wp2
    go_ret;exact ⟨zV E.Z.symm,A.Z⟩
   have CP:Hd (∀v:World,Rd v p.a p.ink->Calls prog 86 #[.agg ↑p] v (zR (.bool true) v)):=Jh (fun v h=>by have:=jl p.W p.H p.a p.n p.c p.ink v L1.Z h om;rwa [hp] at this);have HP:=Jh hp;clear hp;by_cases hw:p.W=q.W
   case neg=>
    have E:Hd (xG (zS ps)=false):=Jh (b0.Z (fun h=>hw (O.Z.1 h).2.1));have c8:(p.W !=q.W)=true:=by simpa using hw
    have T:(p.W==q.W)=false:=by simpa using hw
    have b5:=JJ p.W p.H q.W q.H false (by rw [T];rfl);clear hw;go_wp2_with fail;clear c0 c1 c2 d0 d1 d2;refine wp_region_held_drew (S:=fun v=>JB v wr p.W p.H (.slice p.a p.n p.c) (Jc v (b,off) q.W/\Jc v (b,off+1) q.H)) zK ⟨C,D,F,t,u⟩ ?_;intro s;refine hTs 0 ?_;refine yI 1 (fun K hK=>?_);go_simp
    go_at_call 86
    ((with_reducible refine (CP.Z _ (by exact R2.Z.drew)).mono ?_);rintro e B ⟨rfl,l⟩);have y:(JB B wr p.W p.H (.slice p.a p.n p.c) (Jc B (b,off) q.W/\Jc B (b,off+1) q.H):Prop):=⟨(l.cell I).trans C,(l.cell I).trans D,(l.cell I).trans F,(l.cell V).trans t,(l.cell V).trans u⟩
    have x:=Jh y;clear y;go_wp2_with fail;refine hK.out _ _ x.Z (fun s=>?_);clear hK K;refine yE ?_;refine zQ 2 ?_;refine hTs 3 ?_;refine zQ 4 ?_;refine zQ 5 ?_;refine zQ 6 ?_;refine zQ 7 ?_;refine zQ 8 ?_;refine hTs 9 ?_;refine zQ 10 ?_;refine zQ 11 ?_;refine hTs 12 ?_;refine jD 13 ?_;refine jD 14 ?_;refine jD 15 ?_;refine jD 16 ?_;refine jD 17 ?_;refine jD 18 ?_;refine yI 19 (fun K hK=>?_);go_simp;refine hK.out _ _ (by first | exact s | assumption) (fun s=>?_);clear hK K;refine yE ?_;refine hTs 20 ?_;refine wpAnyH_done zK ?_ _;have A:=Jh (z.Z.drew.trans (l.mono (by have:=z.Z.size;exact this)));clear l C D F t u P x
    all_goals
     go_wp2
     go_ret;exact ⟨zV E.Z.symm,A.Z⟩
   have c8:(p.W !=q.W)=false:=by simpa using hw
   have T:(p.W==q.W)=true:=by simpa using hw
   by_cases X:p.H=q.H
   case neg=>
    have E:Hd (xG (zS ps)=false):=Jh (b0.Z (fun h=>X (O.Z.1 h).2.2));have c5:(p.H !=q.H)=true:=by simpa using X
    have b1:(p.H==q.H)=false:=by simpa using X
    have b5:=JJ p.W p.H q.W q.H false (by rw [T,b1];rfl);clear X hw;go_wp2_with fail;clear c0 c1 c2 d0 d1 d2;refine wp_region_held_drew (S:=fun v=>JB v wr p.W p.H (.slice p.a p.n p.c) (Jc v (b,off) q.W/\Jc v (b,off+1) q.H)) zK ⟨C,D,F,t,u⟩ ?_;intro s;refine hTs 0 ?_;refine yI 1 (fun K hK=>?_);go_simp
    go_at_call 86
    ((with_reducible refine (CP.Z _ (by exact R2.Z.drew)).mono ?_);rintro e B ⟨rfl,l⟩);have y:(JB B wr p.W p.H (.slice p.a p.n p.c) (Jc B (b,off) q.W/\Jc B (b,off+1) q.H):Prop):=⟨(l.cell I).trans C,(l.cell I).trans D,(l.cell I).trans F,(l.cell V).trans t,(l.cell V).trans u⟩
    have x:=Jh y;clear y;go_wp2_with fail;refine hK.out _ _ x.Z (fun s=>?_);clear hK K;refine yE ?_;refine zQ 2 ?_;refine hTs 3 ?_;refine zQ 4 ?_;refine zQ 5 ?_;refine zQ 6 ?_;refine zQ 7 ?_;refine zQ 8 ?_;refine hTs 9 ?_;refine zQ 10 ?_;refine zQ 11 ?_;refine hTs 12 ?_;refine zQ 13 ?_;refine zQ 14 ?_;refine zQ 15 ?_;refine zQ 16 ?_;refine zQ 17 ?_;refine hTs 18 ?_;refine zQ 19 ?_;refine hTs 20 ?_;refine wpAnyH_done zK ?_ _;have A:=Jh (z.Z.drew.trans (l.mono (by have:=z.Z.size;exact this)));clear l C D F t u P x
    all_goals
     go_wp2
     go_ret;exact ⟨zV E.Z.symm,A.Z⟩
   have c5:(p.H !=q.H)=false:=by simpa using X
   have b1:(p.H==q.H)=true:=by simpa using X
   have b5:=JJ p.W p.H q.W q.H true (by rw [T,b1];rfl);have b4:Hd (okV ps k):=Jh (O.Z.2 ⟨HP.Z,hw,X⟩)
   have Y:Hd (∀j,j<k+1->okV ps j):=Jh (fun j hj=>by
    by_cases e:j=k
    subst e;exact b4.Z
    exact U.Z j om)
   clear X hw;go_wp2_with fail;clear c0 c1 c2 d0 d1 d2;refine wp_region_held_drew (S:=fun v=>JB v wr p.W p.H (.slice p.a p.n p.c) (Jc v (b,off) q.W/\Jc v (b,off+1) q.H)) zK ⟨C,D,F,t,u⟩ ?_;intro s;refine hTs 0 ?_;refine yI 1 (fun K hK=>?_);go_simp
   go_at_call 86
   ((with_reducible refine (CP.Z _ (by exact R2.Z.drew)).mono ?_);rintro e B ⟨rfl,l⟩);have y:(JB B wr p.W p.H (.slice p.a p.n p.c) (Jc B (b,off) q.W/\Jc B (b,off+1) q.H):Prop):=⟨(l.cell I).trans C,(l.cell I).trans D,(l.cell I).trans F,(l.cell V).trans t,(l.cell V).trans u⟩
   have x:=Jh y;clear y;go_wp2_with fail;refine hK.out _ _ x.Z (fun s=>?_);clear hK K;refine yE ?_;refine zQ 2 ?_;refine hTs 3 ?_;refine zQ 4 ?_;refine zQ 5 ?_;refine zQ 6 ?_;refine zQ 7 ?_;refine zQ 8 ?_;refine hTs 9 ?_;refine zQ 10 ?_;refine zQ 11 ?_;refine hTs 12 ?_;refine zQ 13 ?_;refine zQ 14 ?_;refine zQ 15 ?_;refine zQ 16 ?_;refine zQ 17 ?_;refine hTs 18 ?_;refine zQ 19 ?_;refine hTs 20 ?_;refine wpAnyH_done zK ?_ _;have A:=Jh (z.Z.drew.trans (l.mono (by have:=z.Z.size;exact this)));clear l C D F t u P x
   all_goals
    go_wp2
    go_roundw
    . exact ⟨k+1,om,by go_num,Y,A⟩
    exact Jm
 obtain rfl:k=n:=om
 go_wp2
 go_ret;exact ⟨zV (CQ.2 ⟨by have:=J.Z;omega,by have:=J.Z;omega,fun j hj=>U.Z j (by rw [<-J.Z];exact hj)⟩).symm,HW.Z⟩
theorem Av (ad:Option Addr) (n d5:Nat) (ps:List PV) (w:World) (hn:ps.length=n) (ha:RdV w ad ps) (hl:n<=1048576) (h4: ∀k,k<ps.length->(pv ps k).n<=1048576):
 Calls prog 72 #[.slice ad n d5] w (zR (.bool (xG (zS ps))) w):=by
 obtain ⟨Q,HA,H4⟩:=JF hn ha h4;clear hn ha h4;by_cases d8:n<1
 . have E:Hd (xG (zS ps)=false):=Jh (UZ (oh Q))
   go_in
   go_wp2
   go_ret;exact ⟨zV E.Z.symm,bR⟩
 by_cases e3:4<n
 . have E:Hd (xG (zS ps)=false):=Jh (UZ (oh Q))
   have g0:decide ((n:Int)<1)=false:=sO;have g1:decide (4<(n:Int))=true:=sO;go_in
   go_wp2
   go_ret;exact ⟨zV E.Z.symm,bR⟩
 have s1:1<=n:=om;have s2:n<=4:=om;have s3:1<=(n:Int):=om;have s4:(n:Int)<=4:=om;obtain ⟨b,off,d6,e5⟩:=HA.Z.addr (oh Q);subst d6;have n0:(0:Int)<(n:Int):=om;have e7:0<n:=om;clear d8 e3;go_in
 go_wp2
 go_loopw [15] (fun i wr=> ∃k:Nat,k<=n/\i= .int .i64 k/\Hd (∀j,j<k->okV ps j)/\Hd (Below w w wr)) (fun i _=>n - (intOf i).toNat)
 exact ⟨0,nZ,rfl,Jh (fun j hj=>om),Jh bR⟩;obtain ⟨k,hk,rfl,b2,HW⟩:=hrel;by_cases e6:k<n
 . have HR:=Jh (HA.Z.below HW.Z)
   obtain ⟨_,c0,c1,c2⟩:=HR.Z.cells (k:=k) (oh Q);obtain ⟨X,d0,d1,d2⟩:=HR.Z.cells (k:=0) (oh Q);have b6:=HR.Z.len (k:=k) (oh Q);have b7:=HR.Z.rd (k:=k) (oh Q);have l1:=H4.Z k (oh Q);have d3: ¬okV ps k->xG (zS ps)=false:=NQ (oh Q);have b0:okV ps k↔zT (pv ps k).W (pv ps k).H (pv ps k).ink 1=true/\(pv ps k).W=(pv ps 0).W/\(pv ps k).H=(pv ps 0).H:=Iff.rfl;simp only [Nat.zero_mul,Yy] at d0 d1 d2;obtain ⟨p,hp⟩: ∃p,pv ps k=p:=⟨_,rfl⟩
   obtain ⟨q,hq⟩: ∃q,pv ps 0=q:=⟨_,rfl⟩
   rw [hp] at c0 c1 c2 b6 b7 l1 b0;rw [hq] at d0 d1 d2 b0;obtain ⟨b4,Y,L1,R1⟩:=JG d3 b0 b6 b7;have k0:(0:Int)<=(k:Int):=om;have k1:(k:Int)<(n:Int):=om;clear hp hq b6 b7 d3 b0;have KB:=Blk.new wr 31 ↑p;obtain ⟨O,T,U,V⟩:=KB.c3;have R2:=Jh (R1.Z.alloc (.cells ↑p 31));have A:=Jh (zM HW.Z (.cells ↑p 31));have P:b<(wr.alloc (.cells ↑p 31)).heap.size:=sO;have t:(wr.alloc (.cells ↑p 31)).cell? (b,off)=some ↑q.W:=(World.cell?_alloc_lt _ _ _ X).trans d0;have u:(wr.alloc (.cells ↑p 31)).cell? (b,off+1)=some ↑q.H:=(World.cell?_alloc_lt _ _ _ X).trans d1;have z:(wr.alloc (.cells ↑p 31)).cell? (b,off+2)=some (.slice q.a q.n q.c):=(World.cell?_alloc_lt _ _ _ X).trans d2;clear KB;by_cases hp:zT p.W p.H p.ink 1=true
   case neg=>
    have d4:zT p.W p.H p.ink 1=false:=by simpa using hp
    have E:Hd (xG (zS ps)=false):=Jh (b4.Z (fun h=>hp (Y.Z.1 h).1));have CP:Hd (∀v:World,Rd v p.a p.ink->Calls prog 115 #[.agg ↑p] v (zR (.bool false) v)):=Jh (fun v h=>by have:=jg p.W p.H p.a p.n p.c p.ink v L1.Z h om;rwa [d4] at this);clear hp d4;go_wp2_with fail;clear c0 c1 c2 d0 d1 d2;refine wp_region_held_drew (S:=fun v=>JB v wr p.W p.H (.slice p.a p.n p.c) (Jc v (b,off) q.W/\Jc v (b,off+1) q.H)) zK ⟨T,U,V,t,u⟩ ?_;intro s;refine hTs 0 ?_;refine yI 1 (fun K hK=>?_);go_simp
    go_at_call 115
    ((with_reducible refine (CP.Z _ (by exact R2.Z.drew)).mono ?_);rintro e v1 ⟨rfl,l⟩);have c5:(JB v1 wr p.W p.H (.slice p.a p.n p.c) (Jc v1 (b,off) q.W/\Jc v1 (b,off+1) q.H):Prop):=⟨(l.cell O).trans T,(l.cell O).trans U,(l.cell O).trans V,(l.cell P).trans t,(l.cell P).trans u⟩
    have c4:=Jh c5;clear c5;go_wp2_with fail;refine hK.out _ _ c4.Z (fun s=>?_);clear hK K;refine yE ?_;refine zQ 2 ?_;refine hTs 3 ?_;refine jD 4 ?_;refine jD 6 ?_;refine jD 7 ?_;refine jD 8 ?_;refine yI 5 (fun K hK=>?_);go_simp;refine hK.out _ _ (by first | exact s | assumption) (fun s=>?_);clear hK K;refine yI 9 (fun K hK=>?_);go_simp;refine hK.out _ _ (by first | exact s | assumption) (fun s=>?_);clear hK K;refine yI 10 (fun K hK=>?_);go_simp;refine hK.out _ _ (by first | exact s | assumption) (fun s=>?_);clear hK K;refine yE ?_;refine hTs 11 ?_;refine wpAnyH_done zK ?_ _;have L:=Jh (A.Z.drew.trans (l.mono (by have:=A.Z.size;exact this)));clear l T U V t u z c4
    go_wp2
    go_ret;exact ⟨zV E.Z.symm,L.Z⟩
   have CP:Hd (∀v:World,Rd v p.a p.ink->Calls prog 115 #[.agg ↑p] v (zR (.bool true) v)):=Jh (fun v h=>by have:=jg p.W p.H p.a p.n p.c p.ink v L1.Z h om;rwa [hp] at this);have HP:=Jh hp;clear hp;by_cases hw:p.W=q.W
   case neg=>
    have E:Hd (xG (zS ps)=false):=Jh (b4.Z (fun h=>hw (Y.Z.1 h).2.1));have e4:(p.W !=q.W)=true:=by simpa using hw
    have b1:(p.W==q.W)=false:=by simpa using hw
    have c8:=JJ p.W p.H q.W q.H false (by rw [b1];rfl);clear hw;go_wp2_with fail;clear c0 c1 c2 d0 d1 d2;obtain ⟨wq,J⟩:=zN (wr.alloc (.cells ↑p 31));rw [<-J] at O T U V P t u z R2 A⊢;have B:Hd (∀v,BelowL wq v->(JB v wr p.W p.H (.slice p.a p.n p.c) (Jc v (b,off) q.W/\Jc v (b,off+1) q.H/\Jc v (b,off+2) (.slice q.a q.n q.c)/\BelowL wq v):Prop)):=Jh (fun v x=>⟨(x.Z.cell O).trans T,(x.Z.cell O).trans U,(x.Z.cell O).trans V,(x.Z.cell P).trans t,(x.Z.cell P).trans u,(x.Z.cell P).trans z,x⟩);clear J
    go_region_held3 B
     (first | exact B.Z _ y | exact B.Z _ D | exact B.Z _ C | exact B.Z _ lS)
     (first
      | (go_at_call 115;((with_reducible refine (CP.Z _ (by exact R2.Z.below (BelowL.Z (qG aS)))).mono ?_);rintro e v1 ⟨rfl,l⟩;have C:=BelowL.call (qG aS) l))
      | (go_at_call 73;((with_reducible refine (vN p.W p.H p.a p.n p.c _).mono ?_);rintro e v2 ⟨rfl,F⟩;have D:=BelowL.call (qG aS) F))
      | (go_at_call 73;((with_reducible refine (vN q.W q.H q.a q.n q.c _).mono ?_);rintro e v3 ⟨rfl,I⟩;have y:=BelowL.call (qG aS) I)))
    have L:=Jh (zL A.Z y.Z);clear l F I T U V t u z C D y
    all_goals
     go_wp2
     go_ret;exact ⟨zV E.Z.symm,L.Z⟩
   have e4:(p.W !=q.W)=false:=by simpa using hw
   have b1:(p.W==q.W)=true:=by simpa using hw
   by_cases hh:p.H=q.H
   case neg=>
    have E:Hd (xG (zS ps)=false):=Jh (b4.Z (fun h=>hh (Y.Z.1 h).2.2));have d7:(p.H !=q.H)=true:=by simpa using hh
    have b5:(p.H==q.H)=false:=by simpa using hh
    have c8:=JJ p.W p.H q.W q.H false (by rw [b1,b5];rfl);clear hh hw;go_wp2_with fail;clear c0 c1 c2 d0 d1 d2;obtain ⟨wq,J⟩:=zN (wr.alloc (.cells ↑p 31));rw [<-J] at O T U V P t u z R2 A⊢;have B:Hd (∀v,BelowL wq v->(JB v wr p.W p.H (.slice p.a p.n p.c) (Jc v (b,off) q.W/\Jc v (b,off+1) q.H/\Jc v (b,off+2) (.slice q.a q.n q.c)/\BelowL wq v):Prop)):=Jh (fun v x=>⟨(x.Z.cell O).trans T,(x.Z.cell O).trans U,(x.Z.cell O).trans V,(x.Z.cell P).trans t,(x.Z.cell P).trans u,(x.Z.cell P).trans z,x⟩);clear J
    go_region_held3 B
     (first | exact B.Z _ y | exact B.Z _ D | exact B.Z _ C | exact B.Z _ lS)
     (first
      | (go_at_call 115;((with_reducible refine (CP.Z _ (by exact R2.Z.below (BelowL.Z (qG aS)))).mono ?_);rintro e v1 ⟨rfl,l⟩;have C:=BelowL.call (qG aS) l))
      | (go_at_call 73;((with_reducible refine (vN p.W p.H p.a p.n p.c _).mono ?_);rintro e v2 ⟨rfl,F⟩;have D:=BelowL.call (qG aS) F))
      | (go_at_call 73;((with_reducible refine (vN q.W q.H q.a q.n q.c _).mono ?_);rintro e v3 ⟨rfl,I⟩;have y:=BelowL.call (qG aS) I)))
    have L:=Jh (zL A.Z y.Z);clear l F I T U V t u z C D y
    all_goals
     go_wp2
     go_ret;exact ⟨zV E.Z.symm,L.Z⟩
   have d7:(p.H !=q.H)=false:=by simpa using hh
   have b5:(p.H==q.H)=true:=by simpa using hh
   have c8:=JJ p.W p.H q.W q.H true (by rw [b1,b5];rfl);have b8:Hd (okV ps k):=Jh (Y.Z.2 ⟨HP.Z,hw,hh⟩)
   have b3:Hd (∀j,j<k+1->okV ps j):=Jh (fun j hj=>by
    by_cases e:j=k
    subst e;exact b8.Z
    exact b2.Z j om)
   clear hh hw;go_wp2_with fail;clear c0 c1 c2 d0 d1 d2;obtain ⟨wq,J⟩:=zN (wr.alloc (.cells ↑p 31));rw [<-J] at O T U V P t u z R2 A⊢;have B:Hd (∀v,BelowL wq v->(JB v wr p.W p.H (.slice p.a p.n p.c) (Jc v (b,off) q.W/\Jc v (b,off+1) q.H/\Jc v (b,off+2) (.slice q.a q.n q.c)/\BelowL wq v):Prop)):=Jh (fun v x=>⟨(x.Z.cell O).trans T,(x.Z.cell O).trans U,(x.Z.cell O).trans V,(x.Z.cell P).trans t,(x.Z.cell P).trans u,(x.Z.cell P).trans z,x⟩);clear J
   go_region_held3 B
    (first | exact B.Z _ y | exact B.Z _ D | exact B.Z _ C | exact B.Z _ lS)
    (first
     | (go_at_call 115;((with_reducible refine (CP.Z _ (by exact R2.Z.below (BelowL.Z (qG aS)))).mono ?_);rintro e v1 ⟨rfl,l⟩;have C:=BelowL.call (qG aS) l))
     | (go_at_call 73;((with_reducible refine (vN p.W p.H p.a p.n p.c _).mono ?_);rintro e v2 ⟨rfl,F⟩;have D:=BelowL.call (qG aS) F))
     | (go_at_call 73;((with_reducible refine (vN q.W q.H q.a q.n q.c _).mono ?_);rintro e v3 ⟨rfl,I⟩;have y:=BelowL.call (qG aS) I)))
   have L:=Jh (zL A.Z y.Z);clear l F I T U V t u z C D y
   all_goals
    go_wp2
    go_roundw
    . exact ⟨k+1,om,by go_num,b3,L⟩
    exact Jm
 obtain rfl:k=n:=om
 go_wp2
 go_ret;exact ⟨zV (CQ.2 ⟨by have:=Q.Z;omega,by have:=Q.Z;omega,fun j hj=>b2.Z j (by rw [<-Q.Z];exact hj)⟩).symm,HW.Z⟩
def bV (ps:List PV) (i k:Nat):Int:=(pv ps k).ink.getD i 0
theorem OG (h: ∀k,k<m->b k=c k):vL b m=vL c m:=by
 induction m with
 | zero=>rfl
 | succ m a=>unfold vL;rw [a (fun k hk=>h k om),h m om]
theorem zCG (ps:List PV) (i:Nat):vZ (zS ps) i=vL (bV ps i) ps.length:=by
 unfold vZ;rw [kU];exact OG (fun k hk=>by rw [ZV ps k hk];rfl)
structure Stk (ps:List PV) (n N:Nat) (W H:Int):Prop where
 ok:xG (zS ps)=true
 len:ps.length=n
 n1:1<=n
 n4:n<=4
 size:yV W H=true
 area:(N:Int)=W*H
 N1:1<=N
 N2:N<=1024
 W0:(pv ps 0).W=W
 H0:(pv ps 0).H=H
 ink: ∀k,k<n->(pv ps k).ink.length=N/\xM (pv ps k).ink 1=true
theorem oD {ps:List PV} (hn:ps.length=n) (h:xG (zS ps)=true): ∃N W H,Stk ps n N W H:=by
 obtain ⟨h1,h2,h3⟩:=CQ.1 h;obtain ⟨q,_,_⟩:=h3 0 om;obtain ⟨e,a,w0⟩:=yu rfl q;obtain ⟨b1,b2,b3,x,y,z⟩:=yP e;refine ⟨(pv ps 0).ink.length,(pv ps 0).W,(pv ps 0).H,h,hn,om,om,e,a,om,om,rfl,rfl,fun k hk=>?_⟩;obtain ⟨s,o,l⟩:=h3 k om;obtain ⟨A,t,u⟩:=yu rfl s;rw [o,l,<-a] at t;exact ⟨om,u⟩
namespace Stk
variable {ps : List PV} {n N : Nat} {W H : Int}
theorem dot (h:Stk ps n N W H) (hi:i<N) (hk:k<n):bV ps i k=0\/bV ps i k=1:=by
 obtain ⟨h1,h2⟩:=h.ink k hk;have:=jY h2 i om;unfold bV;simp only [Yh];omega
theorem bits (h:Stk ps n N W H) (hi:i<N) (hk:k<=n):0<=vL (bV ps i) k/\vL (bV ps i) k<2^k:=gB (fun j a=>h.dot hi om)
theorem mark (h:Stk ps n N W H) (i:Nat):vZ (zS ps) i=vL (bV ps i) n:=by rw [zCG,h.len]
theorem pic0 (h:Stk ps n N W H):(zS ps).getD 0 xF=(pv ps 0).pic:=ZV ps 0 (by rw [h.len];exact h.n1)
theorem inkLen (h:Stk ps n N W H):((zS ps).getD 0 xF).ink.length=N:=by
 rw [h.pic0];exact (h.ink 0 (og h.n1)).1
end Stk
theorem JU (hk:k<=4):1<=(2:Int)^k/\(2:Int)^k<=16:=by
 have:k=0\/k=1\/k=2\/k=3\/k=4:=om;rcases this with rfl | rfl | rfl | rfl | rfl <;>decide
theorem WL (hv:v=0\/v=1) (hk:k<=4):0<=v*2^k/\v*2^k<=16:=by
 have:=JU hk;rcases hv with rfl | rfl
 simp;rw [Int.one_mul];omega
theorem Iy (l:Option Addr) (n a:Nat) (w:World) (h2:n<=4):
 Calls prog 210 #[.slice l n a] w fun e w'=>e= .returned ↑(((2^n:Nat):Int))/\w=w':=by
 have h3:(n:Int)<=4:=om;have E:Hd (((2^n:Nat):Int)=(2:Int)^n):=Jh (by push_cast;rfl);obtain ⟨q,s⟩:=JU h2;obtain ⟨P,o⟩: ∃P,(2:Int)^n=P:=⟨_,rfl⟩
 rw [o] at q s E;rw [E.Z];go_in
 go_wp2
 go_ret;exact ⟨rfl,rfl⟩
theorem TY {ps:List PV} (T:Stk ps n N W H) (P:Option Addr) (F i:Nat) (w:World) (ha:RdV w P ps) (hi:i<N):
 Calls prog 148 #[.slice P n F,i] w fun e w'=>e= .returned ↑(vZ (zS ps) i)/\Below w w w':=by
 have l:=Jh T;have R:=Jh ha;have b0:=T.n1;have b1:=T.n4;have X:=T.N2;have E:=Jh (T.mark i);clear T ha;go_in
 go_wp2
 go_loopw [5,10] (fun s i2 wr=> ∃(k:Nat) (S:Int),k<=n/\s=↑S/\i2=↑k/\0<=S/\S<=16/\Hd (vL (bV ps i) k=S)/\Hd (Below w w wr)) (fun _ i _=>n - (intOf i).toNat)
 exact ⟨0,0,nZ,rfl,rfl,om,om,Jh rfl,Jh bR⟩;obtain ⟨k,S,hk,rfl,rfl,s0,s1,O,B⟩:=hrel;by_cases u:k<n
 . have z:=Jh (R.Z.below B.Z)
   obtain ⟨b,off,G,Y⟩:=z.Z.addr (og l.Z.len);subst G;obtain ⟨_,c0,c1,c2⟩:=z.Z.cells (k:=k) (og l.Z.len);have y:=z.Z.len (k:=k) (og l.Z.len);have o:=z.Z.rd (k:=k) (og l.Z.len);obtain ⟨t,_⟩:=l.Z.ink k u;have hd:=l.Z.dot hi u;have I:=(l.Z.bits hi (show k+1<=n by omega)).2;have L:=(JU (show k+1<=4 by omega)).2;have a:vL (bV ps i) (k+1)=vL (bV ps i) k+bV ps i k*2^k:=rfl;obtain ⟨C,D⟩:=WL hd (show k<=4 by omega);unfold bV at hd;rw [O.Z] at a;obtain ⟨p,hp⟩: ∃p,pv ps k=p:=⟨_,rfl⟩
   have q:bV ps i k=p.ink.getD i 0:=by unfold bV;rw [hp]
   rw [q] at a C D;rw [hp] at c0 c1 c2 y o t;obtain ⟨bi,oi,J,Q,U⟩:=o i om;have kN:i<p.n:=om;obtain ⟨v,hv⟩: ∃v,p.ink.getD i 0=v:=⟨_,rfl⟩
   rw [hv] at U a C D;obtain ⟨M,V⟩: ∃M,v*2^k=M:=⟨_,rfl⟩
   rw [V] at a C D;have A:=Jh a;have x:S+M<=16:=om;rw [J] at c2;have kk:(k:Int)<=64:=om;have k0:(0:Int)<=(k:Int):=om;clear hp hv a q hd o y t I L
   go_wp2
   go_roundw
   . exact ⟨k+1,S+M,om,rfl,by go_num,om,x,A,Jh (zM B.Z _)⟩
   exact Jm
 obtain rfl:k=n:=om
 go_wp2
 go_ret;exact ⟨yh (by rw [E.Z,O.Z]),B.Z⟩
theorem Oi (a:j<N) (hv:g j=v) (hg: ∀i,i<N->i≠j->g i=f i):(gen N f).set j v=gen N g:=by
 refine jP N g _ (by rw [List.length_set,zk]) (fun i hi=>?_);by_cases e:i=j
 subst e;simp only [List.getD,List.getElem?_set];rw [if_pos trivial,if_pos (by rw [zk];exact hi)];exact hv.symm;simp only [List.getD,List.getElem?_set];rw [if_neg om];have:=yY N f i hi;simp only [List.getD] at this;rw [this,hg i hi e]
def Zx (ps:List PV) (N k j:Nat):List Int:=gen N (fun i=>vL (bV ps i) (if i<j then k+1 else k))
theorem Sv (ps:List PV) (N:Nat):List.replicate N 0=Zx ps N 0 0:=by
 unfold Zx;refine jP N _ _ sI (fun i hi=>?_);simp [vL,List.getD,hi]
theorem bG (ps:List PV) (N k:Nat):Zx ps N k N=Zx ps N (k+1) 0:=by
 unfold Zx;refine jP N _ _ (zk _ _) (fun i hi=>?_);rw [yY _ _ _ hi,if_pos hi,if_neg om]
theorem lT {ps:List PV} (o:j<N) {S:Int} (l:vL (bV ps j) k=S) (a:bV ps j k*2^k=M):(Zx ps N k j).set j (S+M)=Zx ps N k (j+1):=by
 unfold Zx;refine Oi o ?_ (fun i hi q=>?_);rw [if_pos om,<-l,<-a];rfl;by_cases e:i<j
 rw [if_pos e,if_pos om];rw [if_neg e,if_neg om]
theorem lQ {ps:List PV} (a:j<N):(Zx ps N k j).getD j 0=vL (bV ps j) k:=by
 unfold Zx;rw [yY _ _ _ a,if_neg om]
def BP (ps:List PV) (N:Nat):List Int:=gen N (fun i=>vZ (zS ps) i)
theorem lN {ps:List PV} (T:Stk ps n N W H):Zx ps N n 0=BP ps N:=by
 unfold Zx BP;refine jP N _ _ (zk _ _) (fun i hi=>?_);rw [yY _ _ _ hi,if_neg om,T.mark]
def zCn (w:World) (N:Nat) (ys:List Int) (e:Ending) (w':World):Prop:= ∃g,e= .returned (.slice (some ⟨g,0,none⟩) N N)/\w.heap.size<=g/\Own w' g N N ys/\Below w w w'
theorem Ox {ps:List PV} (T:Stk ps n N W H) (ad:Option Addr) (c4:Nat) (w:World) (ha:RdV w ad ps):
 Calls prog 211 #[.slice ad n c4] w (zCn w N (BP ps N)):=by
 have u:=Jh T;have J:=Jh ha;have d8:=T.n1;have e0:=T.n4;have d5:=T.N1;have d6:=T.N2;have E:=Jh (lN T);obtain ⟨b,off,c5,d7⟩:=ha.addr (og T.len);subst c5;obtain ⟨_,c0,c1,c2⟩:=ha.cells (k:=0) (og T.len);have d1:=ha.len (k:=0) (og T.len);have X:(pv ps 0).n=N:=by have:=(T.ink 0 om).1;omega
 simp only [Nat.zero_mul,Yy] at c0 c1 c2;rw [X] at c2;have n0:(0:Int)<(n:Int):=om;clear T ha d1 X;go_in;go_wp2_with (at_make;refine uE _ rfl _ _ rfl .i64 .i64 _ _ N rfl rfl rfl rfl om ?_;intro M R);have HM:=Jh R;clear R c0 c1 c2;have L:=Jh (HM.Z.own w);have y:=Jh (Joins.below_alloc1 w (.cells M 3));obtain ⟨w1,Y⟩:=zN (w.alloc (.cells M 3));rw [<-Y] at L y⊢;have d3:=Jh (J.Z.below y.Z);clear Y
 go_loopw [16] (fun i wr=> ∃k:Nat,k<=n/\i=↑k/\Hd (Own wr w N N (Zx ps N k 0))/\Hd (Below w w wr)) (fun i _=>n - (intOf i).toNat)
 exact ⟨0,nZ,rfl,Jh (by rw [<-Sv];exact L.Z),y⟩;obtain ⟨k,hk,rfl,HO,P⟩:=hrel;by_cases V:k<n
 . have HR:=Jh (J.Z.below P.Z)
   obtain ⟨_,c0,c1,c2⟩:=HR.Z.cells (k:=k) (og u.Z.len);have b1:=HR.Z.len (k:=k) (og u.Z.len);have a:=HR.Z.rd (k:=k) (og u.Z.len);obtain ⟨G,_⟩:=u.Z.ink k V;have D: ∀i,bV ps i k=(pv ps k).ink.getD i 0:=fun i=>rfl;obtain ⟨p,hp⟩: ∃p,pv ps k=p:=⟨_,rfl⟩
   rw [hp] at c0 c1 c2 b1 a G D;rw [show p.n=N by omega] at c2;obtain ⟨o,t,F,d2,_⟩:=a 0 om;rw [F] at c2 a;obtain ⟨b6,b4,RD,z,O⟩:=JI G D (a.alloc (.cells ↑p 31)) a (HO.Z.alloc (.cells #[p.W,p.H, .slice (some ↑(o,t)) N p.c] 31));have Q:=Jh (zM P.Z (.cells #[p.W,p.H, .slice (some ↑(o,t)) N p.c] 31));have d4:=Jh ((J.Z.below P.Z));obtain ⟨w2,b0⟩:=zN (wr.alloc (.cells #[p.W,p.H, .slice (some ↑(o,t)) N p.c] 31));have b5:=Jh (z.Z.alloc (.cells #[p.W,p.H, .slice (some ↑(o,t)) N p.c] 31))
   have x:Hd (o<w.heap.size):=Jh (by
    have h:=J.Z.rd (k:=k) (og u.Z.len);rw [hp] at h;obtain ⟨b2,o2,h1,h2,_⟩:=h 0 om;rw [F] at h1;have A:=Yd h1;simp only [Addr.mk.injEq] at A
    omega)
   have k0:(0:Int)<=(k:Int):=om;have kk:(k:Int)<=64:=om;clear hp G D a b1 F RD;go_wp2_with fail;rw [<-b0] at O Q b5⊢;clear b0 c0 c1 c2
   go_loopw [24] (fun i wr=> ∃j:Nat,j<=N/\i=↑j/\Hd (Own wr w N N (Zx ps N k j))/\Hd (Below w w wr)) (fun i _=>N - (intOf i).toNat)
   exact ⟨0,nZ,rfl,O,Q⟩;obtain ⟨j,hj,rfl,s,e⟩:=hrel;by_cases l:j<N
   . have hS:=lQ (ps:=ps) (k:=k) l
     have g2:=s.Z.cell l;have g3:=s.Z.frozen j;rw [hS] at g2;have d0:=z.Z;have hd:=u.Z.dot l V;have U:=u.Z.bits l (show k<=n by omega);have e2:=(JU (show k<=4 by omega)).2;obtain ⟨M0,M1⟩:=WL hd (show k<=4 by omega)
     have ci:wr.cell? (o,t+j)=some ↑(bV ps j k):=by
      rw [b4.Z];have h:=(J.Z.below e.Z).rd (k:=k) (og u.Z.len)
      have h2:Rd wr (some ↑(o,t)) p.ink:=by
       intro q hq;obtain ⟨b3,o3,h4,h5,h6⟩:=z.Z q hq;have A:=Yd h4;simp only [Addr.mk.injEq] at A;obtain ⟨rfl,rfl,_⟩:=A;refine ⟨o,t,rfl,by have:=x.Z;have:=e.Z.size;omega,?_⟩;have c1:=e.Z.cell (p:=↑(o,t+q)) x.Z;have c2:=P.Z.cell (p:=↑(o,t+q)) x.Z;rw [c1,<-c2];exact h6
      obtain ⟨b3,o3,h4,h5,h6⟩:=h2 j (oh b6);have A:=Yd h4;simp only [Addr.mk.injEq] at A;obtain ⟨rfl,rfl,_⟩:=A;exact h6
     obtain ⟨v,hv⟩: ∃v,bV ps j k=v:=⟨_,rfl⟩
     rw [hv] at ci M0 M1;obtain ⟨I,R⟩: ∃M,v*2^k=M:=⟨_,rfl⟩
     rw [R] at M0 M1;obtain ⟨S,C⟩: ∃S,vL (bV ps j) k=S:=⟨_,rfl⟩
     rw [C] at g2 U;have HS:=Jh (s.Z.set j (S+I));have b8:=Jh (lT l C (M:=I) (by rw [hv];exact R));have c8:0<=S/\S<=16:=om;obtain ⟨S0,S1⟩:=c8;have wM:IntKind.i64.wrap I=I:=Yc _ om;have wS:IntKind.i64.wrap (S+I)=S+I:=Yc _ om;have j0:(0:Int)<=(j:Int):=om;have j1:(j:Int)<(N:Int):=om;clear hS hd U hv C d0
     go_wp2
     go_region
     all_goals
      go_wp2
      go_roundw
      . exact ⟨j+1,om,by go_num,Jh (by rw [<-b8.Z];exact HS.Z),Jh (e.Z.drew.setCell nI _)⟩
      exact Jm
   obtain rfl:j=N:=om;have B:=s.Z;rw [bG] at B;have b7:=Jh B;clear B
   go_wp2
   go_roundw
   . exact ⟨k+1,om,by go_num,b7,e⟩
   exact Jm
 obtain rfl:k=n:=om
 go_wp2
 go_ret;exact ⟨w.heap.size,rfl,nI,by rw [<-E.Z];exact HO.Z,P.Z⟩
end Go.Proofs.YtlenfgdjdianiaaGreatDoor
