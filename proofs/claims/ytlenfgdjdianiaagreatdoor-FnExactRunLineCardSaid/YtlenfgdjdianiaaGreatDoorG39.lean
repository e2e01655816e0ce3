/- Facts on which this claim rests, 39. -/
import Derived.Test.YtlenfgdjdianiaaGreatDoorG38
set_option linter.all false
set_option maxHeartbeats 6400000
namespace Go.Proofs.YtlenfgdjdianiaaGreatDoor
section
open Go.RowKit Tq Go.Proofs.Tryz
variable {i : Nat} {n : Int} {s : List UInt8}
theorem dh (l:List Int) (v:Int):jG (l++ [v])=if l=[] then Lib.itoa v else jG l++ [32]++Lib.itoa v:=by
 unfold jG;cases l with
 | nil=>simp [Lib.join_one]
 | cons a b=>
  rw [if_neg sI,List.cons_append,List.map_cons,List.map_cons,List.map_append,Lib.join_cons,Lib.join_cons];simp [Lib.joinTail]
theorem zAy (l:List Int) (h: ∀x,x ∈ l->yg x):(jG l).length<=22*l.length:=by
 have:=Ej [32] sI (l.map Lib.itoa) (fun x a=>by
  obtain ⟨v,hv,rfl⟩:=List.mem_map.1 a;have:=h v hv
  exact Lib.itoa_length_le v this.1 this.2)
 rwa [List.length_map] at this
set_option maxRecDepth 100000 in
theorem UW (D:Option Addr) (n z:Nat) (xs:List Int) (w:World) (hn:xs.length=n) (ha:Rd w D xs) (hl:n<=4096) (hi: ∀x,x ∈ xs->yg x):
 Calls prog 94 #[.slice D n z] w (zR (.string ⟨(jG xs).toArray⟩) w):=by
 obtain ⟨u,E,C⟩:=JF hn ha hi;clear hn ha hi;go_in
 go_wp2
 go_loopw [3,8] (fun s i wr=> ∃(k:Nat),k<=n/\i=↑k/\s= .string ⟨(jG (xs.take k)).toArray⟩/\Below w w wr) (fun _ i _=>n - (intOf i).toNat)
 exact ⟨0,nZ,rfl,rfl,bR⟩;obtain ⟨k,hk,rfl,rfl,hb⟩:=hrel;have q:=Jh hb;clear hb;by_cases g:k<n
 . obtain ⟨b,off,A,H,hc⟩:=(E.Z.below q.Z) k (by rw [u.Z];exact g)
   subst A;obtain ⟨v,hv⟩: ∃v,xs.getD k 0=v:=⟨_,rfl⟩
   have o:v ∈ xs:=by
    rw [<-hv,Yh,Ya (by rw [u.Z];exact g)];exact List.getElem_mem _
   have a:=C.Z v o;rw [hv] at hc;have I:=Lib.itoa_length_le v a.1 a.2
   have m:(jG (xs.take k)).length<=22*k:=by
    have:=zAy (xs.take k) (fun x J=>C.Z x (List.mem_of_mem_take J));rw [Yj] at this;omega
   have y:Hd (jG (xs.take (k+1))=if k=0 then Lib.itoa v else jG (xs.take k)++ [32]++Lib.itoa v):=Jh (by
    have l:k<xs.length:=by rw [u.Z];exact g
    have e:xs.take (k+1)=xs.take k++ [v]:=by
     rw [Ym l,<-hv,Yh,Ya l];rfl
    rw [e,dh];by_cases j:k=0
    rw [if_pos j,if_pos (by rw [j];rfl)]
    rw [if_neg j,if_neg (by intro e;have:=congrArg List.length e;rw [Yj,List.length_nil] at this;omega)])
   obtain ⟨t,c⟩: ∃t,jG (xs.take k)=t:=⟨_,rfl⟩
   rw [c] at m y⊢;clear hv o;have L:(0:Int)<=(k:Int):=om;have k1:(k:Int)<(n:Int):=om;by_cases j:k=0
   . subst j
     rw [Yy] at hc;have B:t=[]:=by rw [<-c];rfl
     subst B;clear c;go_wp2_with fail;refine (uT v _ a).mono ?_;rintro e w1 ⟨rfl,hb⟩;have f:=Jh (zL q.Z hb);clear hb
     go_wp2
     go_roundw
     . exact ⟨1,om,by go_num,by rw [y.Z,if_pos (by trivial)];exact congrArg Value.string (UJ [] _),f.Z⟩
     exact Jm
   have F:(0:Int)<(k:Int):=om;clear c;go_wp2_with fail;refine (uT v _ a).mono ?_;rintro e w1 ⟨rfl,hb⟩;have f:=Jh (zL q.Z hb);clear hb
   go_wp2
   go_roundw
   . exact ⟨k+1,om,by go_num,by rw [y.Z,if_neg j];simp only [CX,UJ],f.Z⟩
   exact Jm
 obtain rfl:k=n:=om
 go_wp2
 go_ret;exact ⟨by rw [Yk (by rw [u.Z];exact nI)];rfl,q.Z⟩
def zCl (w:World) (r:Option Int) (e:Ending) (w':World):Prop:=
 Below w w w'/\((r=none/\e= .returned (.tuple #[Z0, .bool false]))\/ ∃v,r=some v/\yg v/\e= .returned (.tuple #[.int .i64 v, .bool true]))
theorem Pg {d:Int} (hi:i<s.length) (hf:vF s<=i) (hd:d=((s[i]'hi).toNat:Int) - 48) (h: ¬(0<=d/\d<=9)\/ -(wV s i:Int)*10 - d< -9223372036854775808):jT s=none:=by
 cases hn:jT s with
 | none=>rfl
 | some v=>
  exfalso;obtain ⟨he,hb⟩:=JQ hn;obtain ⟨h1,h2⟩:=Qb hn;have h3:=h2 i hi hf;have h4:=MB s i hf hi;unfold yg at hb;rcases h with h | h
  omega;rcases h1 with ⟨_,a,b⟩ | ⟨_,a,b⟩ <;>omega
theorem zAR {d:Int} (a:0<=d) (b:d<=9):n< (-9223372036854775808+d).tdiv 10↔n*10 - d< -9223372036854775808:=by
 have e:(-9223372036854775808+d).tdiv 10=-((9223372036854775808 - d)/10):=by
  rw [show -9223372036854775808+d=-(9223372036854775808 - d) by omega,Int.neg_tdiv,Yt om]
 rw [e];omega
set_option maxRecDepth 100000 in
theorem Nq (s:ByteArray) (w:World) (hs:s.size<=1048576):
 Calls prog 22 #[.string s] w (zCl w (jT s.data.toList)):=by
 obtain ⟨l,hl⟩: ∃l,s.data.toList=l:=⟨_,rfl⟩
 have b5:s.size=l.length:=by rw [<-hl];simp
 have U:Hd (∀k (h:k<s.size) (h2:k<l.length),s[k]'h=l[k]'h2):=Jh (fun k h h2=>by subst hl;rfl);rw [hl];obtain ⟨f,hf⟩: ∃f,vF l=f:=⟨_,rfl⟩
 have b2:=sJ l;rw [hf] at b2;have D:=Jh hf;have b1:f=0\/f=1:=by rw [<-hf];unfold vF;split <;>omega
 have E:Hd (s.toList=l):=Jh (by rw [Yf];exact hl);have M:=Jh b5;have d2:l.length<=1048576:=om;clear hl b5 hf;go_in;go_upto_region 2 with fail
 go_cut [15] (fun c8 wx=>c8= .bool (decide (f=1))/\wx=w)
 . cases hl:l with
   | nil=>
    have h0:s.size=0:=by rw [M.Z,hl];rfl
    go_wp2
    go_meet;exact ⟨by rw [show f=0 by rw [<-D.Z,hl];rfl];rfl,rfl⟩
   | cons a b=>
    have h0:0<s.size:=by rw [M.Z,hl];simp
    have d3:(0:Int)<(s.size:Int):=om;have e0:s[0]'h0=a:=by rw [U.Z 0 h0 (by rw [hl];simp)];simp [hl]
    by_cases ha:a.toNat=45
    . have b7:(((a.toNat:Nat):Int)==45)=true:=by rw [ha];rfl
      go_wp2
      go_meet;exact ⟨by rw [show f=1 by rw [<-D.Z,hl];unfold vF;simp [ha]];rfl,rfl⟩
    have b7:(((a.toNat:Nat):Int)==45)=false:=sO
    go_wp2
    go_meet;exact ⟨by rw [show f=0 by rw [<-D.Z,hl];unfold vF;simp [ha]];rfl,rfl⟩
 obtain ⟨rfl,rfl⟩:=hcut
 go_upto_if 15 with (fail)
 go_cut [4] (fun s4 wx=>s4=↑(f:Int)/\wx=wc)
 . rcases b1 with h | h
   . have N:decide (f=1)=false:=sO
     rw [N]
     go_wp2
     go_meet;exact ⟨by rw [h];rfl,rfl⟩
   have N:decide (f=1)=true:=sO;rw [N]
   go_wp2
   go_meet;exact ⟨by rw [h];rfl,rfl⟩
 obtain ⟨rfl,rfl⟩:=hcut
 go_wp2
 go_loopw [5,6] (fun v i wr=> ∃k:Nat,f<=k/\k<=l.length/\i=↑k/\v= .int .i64 (-(wV l k:Int))/\wV l k<=9223372036854775808/\wr=wc) (fun _ i _=>l.length - (intOf i).toNat)
 exact ⟨f,nI,b2,rfl,by rw [<-D.Z,Fz];rfl,by rw [<-D.Z,Fz];omega,rfl⟩;obtain ⟨k,O,hk,rfl,rfl,b0,rfl⟩:=hrel;obtain ⟨L,hL⟩: ∃L,s.size=L:=⟨_,rfl⟩
 have y:Hd (L=l.length):=Jh (by rw [<-hL];exact M.Z);by_cases c4:k<L
 . have I:k<s.size:=om
   have j:k<l.length:=by rw [<-y.Z];exact c4
   obtain ⟨b,hb⟩: ∃b,s[k]'I=b:=⟨_,rfl⟩
   have b6:Hd (l[k]'j=b):=Jh (by rw [<-U.Z k I j];exact hb);have k0:(0:Int)<=(k:Int):=om;have k1:(k:Int)<(L:Int):=om;have d7:=b.toNat_lt;obtain ⟨g,hg⟩: ∃g:Nat,wV l k=g:=⟨_,rfl⟩
   rw [hg] at b0⊢;have HG:=Jh hg;clear hg;obtain ⟨m,c0⟩: ∃m:Int,(b.toNat:Int) - 48=m:=⟨_,rfl⟩
   have J:Hd (m=((l[k]'j).toNat:Int) - 48):=Jh (by rw [b6.Z];exact c0.symm);have c1:-48<=m/\m<=207:=om;obtain ⟨d0,d1⟩:=c1;by_cases P:0<=m/\m<=9
   case neg=>
    have HN:Hd (jT l=none):=Jh (Pg j (by rw [D.Z];exact O) J.Z (.inl P));go_wp2_with fail;refine (kD m 0 9 _ P).mono ?_;rintro e w1 ⟨rfl,rfl⟩
    go_wp2
    go_ret2;exact ⟨bR, .inl ⟨HN.Z,rfl⟩⟩
   obtain ⟨B,C⟩:=P;obtain ⟨Q,hQ⟩: ∃Q:Int,(-9223372036854775808+m).tdiv 10=Q:=⟨_,rfl⟩
   have Y:(-(g:Int)<Q↔-(g:Int)*10 - m< -9223372036854775808):=by rw [<-hQ];exact zAR B C
   have V:=Jh Y
   have b8:-922337203685477581<=Q/\Q<=0:=by
    have e:(-9223372036854775808+m).tdiv 10=-((9223372036854775808 - m)/10):=by
     rw [show -9223372036854775808+m=-(9223372036854775808 - m) by omega,Int.neg_tdiv,Yt om]
    omega
   obtain ⟨d5,d6⟩:=b8;clear Y;by_cases H:-(g:Int)<Q
   . have HN:Hd (jT l=none):=Jh (Pg j (by rw [D.Z];exact O) J.Z (.inr (by rw [HG.Z];exact V.Z.1 H)))
     go_wp2_with fail;refine (yJ m 0 9 _ B C).mono ?_;rintro e w1 ⟨rfl,rfl⟩
     go_wp2
     go_ret2;exact ⟨bR, .inl ⟨HN.Z,rfl⟩⟩
   have d8:-9223372036854775808<=-(g:Int)*10 - m:=by
    have:=mt V.Z.2 H;omega
   have HS:Hd (wV l (k+1)=g*10+m.toNat):=Jh (by rw [MB l k (by rw [D.Z];exact O) j,HG.Z,J.Z];omega);go_wp2_with fail;refine (yJ m 0 9 _ B C).mono ?_;rintro e w1 ⟨rfl,rfl⟩
   go_wp2
   go_roundw
   . exact ⟨k+1,om,by rw [<-y.Z];omega,by go_num,by rw [HS.Z];congr 1;omega,by rw [HS.Z];omega,trivial⟩
   exact Jm
 have b3:k=l.length:=by rw [<-y.Z] at hk⊢;omega
 obtain ⟨g,hg⟩: ∃g:Nat,wV l k=g:=⟨_,rfl⟩
 have HP:Hd (∀u,jT l=some u->yg u/\(f=1/\u<0/\u=-(g:Int)\/f=0/\0<=u/\u=(g:Int))):=Jh (fun u T=>by
  refine ⟨(JQ T).2,?_⟩;have:=(Qb T).1;rw [<-b3,hg,D.Z] at this
  exact this)
 rw [hg] at b0⊢;have k2: ¬(k:Int)<(L:Int):=om;clear hg b3;rcases b1 with hf0 | hf0
 . subst hf0
   by_cases b4:g=9223372036854775808
   . have c:Hd (jT l=none):=Jh (by
      cases hn:jT l with
      | none=>rfl
      | some u=>
       have:=HP.Z u hn;unfold yg at this
       omega)
     have c5:(-(g:Int)==-9223372036854775808)=true:=by rw [b4];rfl
     go_wp2
     go_ret2;exact ⟨bR, .inl ⟨c.Z,rfl⟩⟩
   have c5:(-(g:Int)==-9223372036854775808)=false:=sO;by_cases W:L=0
   . have c:Hd (jT l=none):=Jh (by
      have:l=[]:=List.eq_nil_of_length_eq_zero (by rw [<-y.Z];exact W)
      rw [this];rfl)
     have X:((L:Int)==0)=true:=by rw [W];rfl
     go_wp2
     go_ret2;exact ⟨bR, .inl ⟨c.Z,rfl⟩⟩
   have X:((L:Int)==0)=false:=sO;have o:Hd (yg (g:Int)):=Jh (by unfold yg;omega);have HU:Hd (∀u,jT l=some u->u=(g:Int)):=Jh (fun u T=>by have:=(HP.Z u T).2;omega);go_wp2_with fail;refine (uT (g:Int) _ o.Z).mono ?_;rintro e w1 ⟨rfl,z⟩;have x:=Jh z;clear z;by_cases t:Lib.itoa (g:Int)=l
   . have A:(⟨(Lib.itoa (g:Int)).toArray⟩:ByteArray)=s:=ByteArray.ext (Array.toList_inj.1 (by show Lib.itoa (g:Int)=_;rw [t,<-E.Z,Yf]))
     have c:Hd (jT l=some (g:Int)):=Jh (by rw [<-t];exact Mf o.Z);rw [A];clear A t
     go_wp2
     go_ret2;exact ⟨x.Z, .inr ⟨_,c.Z,o.Z,rfl⟩⟩
   have c:Hd (jT l=none):=Jh (by
    cases hn:jT l with
    | none=>rfl
    | some u=>exact absurd (by rw [<-HU.Z u hn];exact (JQ hn).1) t)
   obtain ⟨F,q⟩: ∃F:ByteArray,(⟨(Lib.itoa (g:Int)).toArray⟩:ByteArray)=F:=⟨_,rfl⟩
   rw [q]
   have q1:(F.toList==s.toList)=false:=by
    rw [beq_eq_false_iff_ne];intro e;apply t;rw [<-E.Z,<-e,<-q,Yf]
   have q2:(!F.toList==s.toList)=true:=by rw [q1];rfl
   clear t q
   go_wp2
   go_ret2;exact ⟨x.Z, .inl ⟨c.Z,rfl⟩⟩
 subst hf0;have d4:1<=L:=by rw [y.Z];omega
 have X:((L:Int)==0)=false:=sO;have o:Hd (yg (-(g:Int))):=Jh (by unfold yg;omega);have HU:Hd (∀u,jT l=some u->u=-(g:Int)):=Jh (fun u T=>by have:=(HP.Z u T).2;omega);go_wp2_with fail;refine (uT (-(g:Int)) _ o.Z).mono ?_;rintro e w1 ⟨rfl,z⟩;have x:=Jh z;clear z;by_cases t:Lib.itoa (-(g:Int))=l
 . have A:(⟨(Lib.itoa (-(g:Int))).toArray⟩:ByteArray)=s:=ByteArray.ext (Array.toList_inj.1 (by show Lib.itoa (-(g:Int))=_;rw [t,<-E.Z,Yf]))
   have c:Hd (jT l=some (-(g:Int))):=Jh (by rw [<-t];exact Mf o.Z);rw [A];clear A t
   go_wp2
   go_ret2;exact ⟨x.Z, .inr ⟨_,c.Z,o.Z,rfl⟩⟩
 have c:Hd (jT l=none):=Jh (by
  cases hn:jT l with
  | none=>rfl
  | some u=>exact absurd (by rw [<-HU.Z u hn];exact (JQ hn).1) t)
 obtain ⟨F,q⟩: ∃F:ByteArray,(⟨(Lib.itoa (-(g:Int))).toArray⟩:ByteArray)=F:=⟨_,rfl⟩
 rw [q]
 have q1:(F.toList==s.toList)=false:=by
  rw [beq_eq_false_iff_ne];intro e;apply t;rw [<-E.Z,<-e,<-q,Yf]
 have q2:(!F.toList==s.toList)=true:=by rw [q1];rfl
 clear t q
 go_wp2
 go_ret2;exact ⟨x.Z, .inl ⟨c.Z,rfl⟩⟩
end
section
open Go.RowKit Tq Go.Proofs.Tryz
variable {G R : Prop}
theorem zBS (k:R) (h:Kp R->G:=by
 intro hkp9;refine zf 17 (fun K hK=>?_);refine ym14 ?_;clear hK K;refine yG zK ?_ _
 exact hkp9.Z):G:=h ⟨k⟩
theorem zDm (k:R) (h:Kp R->G:=by
 intro hkp9;have HQB:=Jh ho.bd;have HBc:Hd (Below w0 w0 wc):=Jh (by rw [hwc];exact zM hb _);have HWc:Hd (Below w w wc):=Jh (Below.trans HB0.Z (HBc.Z.mono HB0.Z.size));obtain ⟨KAc,KRc,HNC⟩:=JF (KA.Z.zA HBc.Z) (KR.Z.zA HBc.Z) hnc;revert HNC;revert KRc;revert KAc;revert HWc;revert HBc;revert HQB
 exact hkp9.Z):G:=h ⟨k⟩
theorem AF (k:R) (h:Kp R->G:=by
 intro hkp9;have HIN:=Jh hin;obtain ⟨b,off,hae,hbl,hbc⟩:=hr.at sI;revert hbc;revert hbl;revert hae;revert off;revert b;revert HIN
 exact hkp9.Z):G:=h ⟨k⟩
theorem fC (h:G:=by exact KeepT.zF (yB HBD.Z om _ _ _ _ _ _ _).drew):G:=h
theorem eZ (k:R) (h:Kp R->G:=by
 intro hkp9;refine zf 6 (fun K hK=>?_);refine ym14 ?_;clear hK K;refine yG zK ?_ _
 exact hkp9.Z):G:=h ⟨k⟩
theorem zDl (k:R) (h:Kp R->G:=by
 intro hkp9;have KA:Hd (Blk w0 w 35 ↑D):=Jh (by rw [hw0];exact ((Blk.new w _ _).alloc _).alloc _);revert KA
 exact hkp9.Z):G:=h ⟨k⟩
theorem zDk (k:R) (h:Kp R->G:=by
 intro hkp9;have nbleft: ¬b.toList=[108,101,102,116]:=fun e=>hbleft e;have mbleft:(b.toList==[108,101,102,116])=false:=by rw [beq_eq_false_iff_ne];exact nbleft
 have nbboth: ¬b.toList=[98,111,116,104]:=fun e=>hbboth e;have mbboth:(b.toList==[98,111,116,104])=false:=by rw [beq_eq_false_iff_ne];exact nbboth
 revert mbboth;revert nbboth;revert mbleft;revert nbleft
 exact hkp9.Z):G:=h ⟨k⟩
theorem zBX (h:G:=by
 show (pv (D.ps.set k np) j).n<=1048576
 rw [jE e];exact HIN.Z.small.s j (by simpa using hj)):G:=h
theorem Rz (k:R) (h:Kp R->G:=by
 intro hkp9;refine tTs 5 ?_;refine tTs 6 ?_;refine zf 7 (fun K hK=>?_);refine ym43 ?_;clear hK K
 exact hkp9.Z):G:=h ⟨k⟩
theorem zBW (h:G:=by
 with_reducible refine yQ.set7 ho3.Z ?_ _ _ _ _ _ _ _
 exact (fun b hb e=>by have:=HE.Z b hb;omega)):G:=h
theorem zDj (k:R) (h:Kp R->G:=by
 intro hkp9;have hwb:=HRW.Z.block bw rfl;have hw9: ∀(i:Nat) (u:Value),w4.cell? (bw,i)=some u->v9.cell? (bw,i)=some u:=fun i u hu=>(World.cell?_of_block (hk9.block bw (by show bw<w4.heap.size;omega) (fun h=>by have:=HEB.Z _ h;omega))).trans hu;revert hw9;revert hwb
 exact hkp9.Z):G:=h ⟨k⟩
theorem zBR (k:R) (h:Kp R->G:=by
 intro hkp9;have q0:=hbc 0 sI;rw [show [x,y].getD 0 0=x from rfl,Yy] at q0;have q1:=hbc 1 sI;rw [show [x,y].getD 1 0=y from rfl] at q1;revert q1;revert q0
 exact hkp9.Z):G:=h ⟨k⟩
theorem zDi (k:R) (h:Kp R->G:=by
 intro hkp9;have HB1:=Jh (Below.trans (Below.refl w0 w0).drew (hq1.mono nI));have HQ1:=Jh ho1;go_wp2_with fail;refine hK.out _ _ (fun _=>Jd (MK.Z _ HB1.Z)) (fun hHz=>?_);have hHeld:=hHz dC;clear hHz;have hin1:ModIn v1 B D:=HIN.Z.below (Below.trans HB0.Z (HB1.Z.mono HB0.Z.size));have hq9:=HQ1.Z.bd;revert hq9;revert hin1;revert hHeld;revert HQ1;revert HB1
 exact hkp9.Z):G:=h ⟨k⟩
theorem zBV (h:G:=by
 rw [E.Z];show (D.P.pic,D.M.pic,zS (D.ps.set k np))=_;rw [<-HNN.Z.2]
 simp [zS,List.map_set]):G:=h
theorem Lf (k:R) (h:Kp R->G:=by
 intro hkp9;rintro e v9 ⟨E9,rfl,ho9,hd9,hs9,hk9⟩;obtain ⟨HO9,HD9,HS9⟩:=JF ho9 hd9 hs9;revert HS9;revert HD9;revert HO9;revert hk9;revert hs9;revert hd9;revert ho9;revert E9;revert v9
 exact hkp9.Z):G:=h ⟨k⟩
theorem zDh (k:R) (h:Kp R->G:=by
 intro hkp9;have KR:Hd (Blk w0 (w.heap.size+1) 35 ↑Zd):=Jh (by rw [hw0];exact Blk.zD _ _ sI);have HB0:Hd (Below w w w0):=Jh (by rw [hw0];exact zM (zM bR _) _);revert HB0;revert KR
 exact hkp9.Z):G:=h ⟨k⟩
theorem zDg (k:R) (h:Kp R->G:=by
 intro hkp9;go_wp2_with fail;refine hK.out _ _ (fun _=>Jd (hS9)) (fun hHz=>?_);revert hHz
 exact hkp9.Z):G:=h ⟨k⟩
theorem zBQ (k:R) (h:Kp R->G:=by
 intro hkp9;refine hTs 0 ?_;refine hTs 1 ?_;refine hTs 2 ?_;refine hTs 3 ?_;refine hTs 4 ?_;refine hTs 5 ?_
 exact hkp9.Z):G:=h ⟨k⟩
theorem Ce (k:R) (h:Kp R->G:=by
 intro hkp9;obtain ⟨r0,x0,x1,x2,x3,x4,x5,x6⟩:=KR9.Z.c7;obtain ⟨f0,f1,f2,f3,f4,f5,f6⟩:=KR9.Z.f7;unfold Dsk.val;revert f6;revert f5;revert f4;revert f3;revert f2;revert f1;revert f0;revert x6;revert x5;revert x4;revert x3;revert x2;revert x1;revert x0;revert r0
 exact hkp9.Z):G:=h ⟨k⟩
theorem zDf (k:R) (h:Kp R->G:=by
 intro hkp9;have KR2:Hd (Blk wx (w.heap.size+2) 35 ↑Zd):=Jh (KX.Z.blk KR.Z om);have HBX:Hd (Below w w wx):=Jh (Below.trans HB0.Z (KX.Z.below (B:=w.heap.size) (fun i hi=>om) (oh HZ0)));revert HBX;revert KR2
 exact hkp9.Z):G:=h ⟨k⟩
theorem zDe (k:R) (h:Kp R->G:=by
 intro hkp9;go_simp
 go_at_call 44
 ((with_reducible refine (CU.Z _ hb1).mono ?_);rintro e v2 ⟨a1,k1,rfl,ho1,hq2⟩);have hb2:=BelowL.call hb1 hq2;have HP:=Jh (ho1.mono (B':=w0.heap.size) (hb1).le);have HPB:Hd (∀b,zO a1=some b->w0.heap.size+1<=b/\b<v2.heap.size):=Jh (fun b hb=>by have:=ho1.bd b hb;first | exact this | omega | simpa using this);revert HPB;revert HP;revert hb2;revert hq2;revert ho1;revert k1;revert a1;revert v2
 exact hkp9.Z):G:=h ⟨k⟩
theorem zDd (k:R) (h:Kp R->G:=by
 intro hkp9;have hb3:BelowL w0 w3:=BelowL.mk (hb2.Z.grown hg3 hb2.le (fun k hk=>by (have h0:=hgeb.Z;simp [zO] at hk <;>omega)));have HM:=Jh ho3.toOwn6;have HP:=Jh (HP.Z.zI hg3 (fun b hb hb2=>by (have h9:=HPB.Z b hb2;simp [zO] at hb <;>omega)));refine ym38 ?_;intro hHz hHeld;clear hHz;revert hHeld;revert HP;revert HM;revert hb3
 exact hkp9.Z):G:=h ⟨k⟩
theorem zDc (k:R) (h:Kp R->G:=by
 intro hkp9;rw [show (w.alloc (.cells ↑D 35)).alloc (.cells ↑Zd 35)=w0 from hw0.symm]
 exact hkp9.Z):G:=h ⟨k⟩
theorem zDb (k:R) (h:Kp R->G:=by
 intro hkp9;refine yE ?_;refine hTs 10 ?_;refine hTs 11 ?_;refine hTs 12 ?_;refine yI 13 (fun K hK=>?_);go_simp;have hb2:=BelowL.alloc hb1 (.cells ↑Zp 31);refine hK.out _ _ (Jd (MK.Z _ hb2)) (fun hHeld=>?_);clear hK K;refine yE ?_;refine yI 14 (fun K hK=>?_);go_simp;revert hK;revert K;revert hHeld;revert hb2
 exact hkp9.Z):G:=h ⟨k⟩
theorem Le (k:R) (h:Kp R->G:=by
 intro hkp9;refine zf 8 (fun K hK=>?_);refine ym14 ?_;clear hK K;refine yG zK ?_ _
 exact hkp9.Z):G:=h ⟨k⟩
theorem zDa (k:R) (h:Kp R->G:=by
 intro hkp9;refine step_clone7 _ rfl (.tmp 15) (.tmp 18) rfl w0 0 _ rfl HE.Z b2 o2 mn mc ys rfl R3.Z (fun j hj=>by obtain ⟨b9,o9,h3,h4,h5⟩:=((R4.Z.below HB0.Z).below hb2.Z).at (oh R3);cases h3;exact h5 j (oh R3)) om hb2.le ?_
 exact hkp9.Z):G:=h ⟨k⟩
theorem Uf (k:R) (h:Kp R->G:=by
 intro hkp9;refine yE ?_;refine wpAnyH_done zK ?_ _
 exact hkp9.Z):G:=h ⟨k⟩
theorem zBU (h:G:=by
 have ho:yQ _ w E9:=HO9.Z.mono om
 with_reducible refine yQ.set7 ho ?_ _ _ _ _ _ _ _
 exact (fun b hb=>ho.ne_desk KR9.Z b hb)):G:=h
theorem zDZ (k:R) (h:Kp R->G:=by
 intro hkp9;intro hHz hHeld;clear hHz;refine yE ?_;refine zf 2 (fun K hK=>?_);go_simp
 go_at_call 44
 ((with_reducible refine (CU.Z _ hb2).mono ?_);rintro e v3 ⟨a1,k1,rfl,ho1,hq3⟩);have hb3:=BelowL.call hb2 hq3;have HP:=Jh (ho1.mono (B':=w0.heap.size) (hb2).le);have HPB:Hd (∀b,zO a1=some b->w0.heap.size+1+1<=b/\b<v3.heap.size):=Jh (fun b hb=>by have:=ho1.bd b hb;first | exact this | omega | simpa using this);revert HPB;revert HP;revert hb3;revert hq3;revert ho1;revert k1;revert a1;revert v3;revert hK;revert K;revert hHeld
 exact hkp9.Z):G:=h ⟨k⟩
theorem zDY (k:R) (h:Kp R->G:=by
 intro hkp9;go_simp;have hb0:BelowL w0 (w0.alloc (.cells ↑Zp 32)).drew:=BelowL.mk (zM bR _).drew;have kb0:Blk (w0.alloc (.cells ↑Zp 32)).drew w0.heap.size 32 ↑Zp:=(Blk.new _ _ _).drew;refine hK.out _ _ (Jd (MK.Z _ hb0)) (fun hHeld=>?_);revert hHeld;revert kb0;revert hb0
 exact hkp9.Z):G:=h ⟨k⟩
theorem zBP (k:R) (h:Kp R->G:=by
 intro hkp9;have q0:=hbc 0 sI;rw [show [x,y,z].getD 0 0=x from rfl,Yy] at q0;have q1:=hbc 1 sI;rw [show [x,y,z].getD 1 0=y from rfl] at q1;have q2:=hbc 2 sI;rw [show [x,y,z].getD 2 0=z from rfl] at q2;revert q2;revert q1;revert q0
 exact hkp9.Z):G:=h ⟨k⟩
theorem zDX (k:R) (h:Kp R->G:=by
 intro hkp9;have KR:Hd (Blk w0 (w.heap.size+2) 35 ↑Zd):=Jh (by rw [hw0];exact Blk.zD _ _ sI);have HB0:Hd (Below w w w0):=Jh (by rw [hw0];exact zM (zM (zM bR _) _) _);have HZ0:Hd (w0.heap.size=w.heap.size+3):=Jh (by rw [hw0];simp);have HDB:=Jh (fun b (hb:D.blocks b)=>(HIN.Z.own.bd b hb).2);revert HDB;revert HZ0;revert HB0;revert KR
 exact hkp9.Z):G:=h ⟨k⟩
theorem zDW (k:R) (h:Kp R->G:=by
 intro hkp9;rw [show ((w.alloc (.cells ↑D 35)).alloc (.cells ↑q 31)).alloc (.cells ↑Zd 35)=w0 from hw0.symm]
 exact hkp9.Z):G:=h ⟨k⟩
theorem Ry (k:R) (h:Kp R->G:=by
 intro hkp9;have hb1:=BelowL.call lS hq1;go_wp2_with fail;refine hK.out _ _ (Jd (MK.Z _ hb1)) (fun hHeld=>?_);revert hHeld;revert hb1
 exact hkp9.Z):G:=h ⟨k⟩
theorem Ue (k:R) (h:Kp R->G:=by
 intro hkp9;refine hK.out _ _ (Jd (MK.Z _ hb3)) (fun hHeld=>?_);revert hHeld
 exact hkp9.Z):G:=h ⟨k⟩
theorem Ud (k:R) (h:Kp R->G:=by
 intro hkp9;refine tTs 0 ?_;refine tTs 1 ?_;refine tTs 2 ?_
 exact hkp9.Z):G:=h ⟨k⟩
theorem SA (h:G:=by
 with_reducible refine yQ.set7 (HIN.Z.own.below HBv) ?_ _ _ _ _ _ _ _
 exact (fun b hb e=>by have:=HDB.Z b hb;omega)):G:=h
theorem FY (k:R) (h:Kp R->G:=by
 intro hkp9;obtain ⟨l0,c0,c1,c2,c3,c4,c5,c6⟩:=KAc.Z.c7;obtain ⟨k0',q0,q1,q2⟩:=KB.Z.c3;have hin1:ModIn wc B D:=HIN.Z.below HWc.Z;have hz0:=HZ0.Z;revert hz0;revert hin1;revert q2;revert q1;revert q0;revert k0';revert c6;revert c5;revert c4;revert c3;revert c2;revert c1;revert c0;revert l0
 exact hkp9.Z):G:=h ⟨k⟩
theorem zDV (k:R) (h:Kp R->G:=by
 intro hkp9;refine yA 3 (fun v=>JC v w D) zK ⟨c0,c1,c2,c3,c4,c5,c6⟩ ?_;refine ym20 ?_
 exact hkp9.Z):G:=h ⟨k⟩
theorem ym43 (k:R) (h:Kp R->G:=by
 intro hkp9;go_simp;refine hK.out _ _ (fun h=>absurd h dC) (fun hHz=>?_);clear hHz
 exact hkp9.Z):G:=h ⟨k⟩
theorem Zt (k:R) (h:Kp R->G:=by
 intro hkp9;obtain ⟨r0,x0,x1,x2,x3,x4,x5,x6⟩:=KR.Z.c7;obtain ⟨f0,f1,f2,f3,f4,f5,f6⟩:=KR.Z.f7;revert f6;revert f5;revert f4;revert f3;revert f2;revert f1;revert f0;revert x6;revert x5;revert x4;revert x3;revert x2;revert x1;revert x0;revert r0
 exact hkp9.Z):G:=h ⟨k⟩
theorem zBT (h:G:=by
 have q7: ∀ {u:World} (i:Nat) (v:Value),KeepT D.blocks w u->KeepT D.blocks w (u.setCell (w.heap.size+1,i) v):=fun i v k=>KeepT.setNew k (by show w.heap.size<=w.heap.size+1;omega) v
 exact q7 6 _ (q7 5 _ (q7 4 _ (q7 3 _ (q7 2 _ (q7 1 _ (q7 0 _ HKF.Z))))))):G:=h
theorem zDU (k:R) (h:Kp R->G:=by
 intro hkp9;have MK:Hd (∀v,Below w0 w0 v->(JC v w D:Prop)):=Jh (fun v h=>⟨(h.cell l0).trans c0,(h.cell l0).trans c1,(h.cell l0).trans c2,(h.cell l0).trans c3,(h.cell l0).trans c4,(h.cell l0).trans c5,(h.cell l0).trans c6⟩);revert MK
 exact hkp9.Z):G:=h ⟨k⟩
theorem fB (h:G:=by
 exact ⟨⟨v1.heap.size,a1,n1,k1,rfl,Blk.new _ _ _,hb1.le,(ho1.alloc _).mono nI,fun b hb=>by (have h9:w0.heap.size<=b/\b<v1.heap.size:=ho1.bd b hb);(simp;omega),hn1,hb3.Z⟩,rfl⟩):G:=h
theorem ym38 (k:R) (h:Kp R->G:=by
 intro hkp9;refine hK.out _ _ (fun _=>Jd (MK.Z _ hb3)) (fun hHz=>?_);have hHeld:=hHz dC;revert hHeld;revert hHz
 exact hkp9.Z):G:=h ⟨k⟩
theorem zDT (k:R) (h:Kp R->G:=by
 intro hkp9;have MK:Hd (∀v,BelowL w0 v->Jc v (b,off) x/\Jc v (b,off+1) y/\BelowL w0 v):=Jh (fun v h=>⟨(h.Z.cell (Yb hbl HB0.Z.size)).trans ((HB0.Z.cell hbl).trans q0),(h.Z.cell (Yb hbl HB0.Z.size)).trans ((HB0.Z.cell hbl).trans q1),h⟩);refine wp_region_held_drew (S:=fun v=>Jc v (b,off) x/\Jc v (b,off+1) y/\BelowL w0 v) zK (MK.Z _ lS) ?_;intro hHeld;refine zBQ ?_;revert hHeld;revert MK
 exact hkp9.Z):G:=h ⟨k⟩
theorem zDS (k:R) (h:Kp R->G:=by
 intro hkp9;obtain ⟨HO9,HD9,HS9⟩:=JF ho9 hd9 hs9;have HKB:Hd (Below w0 w4.drew v9):=Jh (hk9.below (fun i hi=>(HEB.Z i hi).1) (by show w0.heap.size<=w4.heap.size;omega));have HB9:Hd (Below w w v9):=Jh (Below.trans HW4.Z ((Below.trans (Below.refl w0 w4).drew HKB.Z).mono om));have KR9:Hd (Blk v9 (w.heap.size+1) 35 ↑Zd):=Jh (hk9.blk (KR4.Z).drew (fun h=>by have:=HEB.Z _ h;omega));have KE9:Hd (Blk v9 w1 35 ↑E):=Jh (hk9.blk (KE4.Z).drew (fun h=>by have:=HEB.Z _ h;omega));revert KE9;revert KR9;revert HB9;revert HKB;revert HS9;revert HD9;revert HO9
 exact hkp9.Z):G:=h ⟨k⟩
theorem Uc (k:R) (h:Kp R->G:=by
 intro hkp9;refine hK.out _ _ (fun _=>Jd (MK.Z _ hb2)) (fun hHz=>?_);have hHeld:=hHz dC;revert hHeld;revert hHz
 exact hkp9.Z):G:=h ⟨k⟩
theorem zBO (k:R) (h:Kp R->G:=by
 intro hkp9;go_simp;have hb0:BelowL w0 (w0.alloc (.cells ↑Zp 31)).drew:=BelowL.mk (zM bR _).drew;have kb0:Blk (w0.alloc (.cells ↑Zp 31)).drew w0.heap.size 31 ↑Zp:=(Blk.new _ _ _).drew;refine hK.out _ _ (Jd (MK.Z _ hb0)) (fun hHeld=>?_);revert hHeld;revert kb0;revert hb0
 exact hkp9.Z):G:=h ⟨k⟩
theorem AB (k:R) (h:Kp R->G:=by
 intro hkp9;refine hK.out _ _ (fun _=>Jd (MK.Z _ hb1)) (fun hHz=>?_);have hHeld:=hHz dC;clear hHz;revert hHeld
 exact hkp9.Z):G:=h ⟨k⟩
theorem Rx (k:R) (h:Kp R->G:=by
 intro hkp9;have hb1:=BelowL.call hb0 hq1;have kb1:=kb0.zA hq1;have hz1:w0.heap.size+1<=v1.heap.size:=by have:=hq1.size;simpa using this
 go_wp2_with fail;refine hK.out _ _ (Jd (MK.Z _ hb1)) (fun hHeld=>?_);revert hHeld;revert hz1;revert kb1;revert hb1
 exact hkp9.Z):G:=h ⟨k⟩
theorem zBN (k:R) (h:Kp R->G:=by
 intro hkp9;have hb4:BelowL w0 w4:=BelowL.mk (hb3.Z.grown hg4 hb3.le (fun k hk=>by (have h0:=hgeb.Z;simp [zO] at hk <;>omega)));obtain ⟨HM,KD,HP⟩:=JF ho4.toOwn6 (KD.Z.grown hg4 (fun e=>by (simp [zO] at e <;>omega))) (HP.Z.zI hg4 (fun b hb hb2=>by (have h9:=HPB.Z b hb2;simp [zO] at hb <;>omega)));refine hK.out _ _ (fun _=>Jd (MK.Z _ hb4)) (fun hHz=>?_);have hHeld:=hHz dC;clear hHz;revert hHeld;revert HP;revert KD;revert HM;revert hb4
 exact hkp9.Z):G:=h ⟨k⟩
theorem zBM (k:R) (h:Kp R->G:=by
 intro hkp9;have hb4:BelowL w0 w4:=BelowL.mk (hb3.Z.grown hg4 hb3.le (fun k hk=>by (have h0:=hgeb.Z;simp [zO] at hk <;>omega)));obtain ⟨HM,HP,KD⟩:=JF ho4.toOwn6 (HP.Z.zI hg4 (fun b hb hb2=>by (have h9:=HPB.Z b hb2;simp [zO] at hb <;>omega))) (KD.Z.grown hg4 (fun e=>by (simp [zO] at e <;>omega)));refine hK.out _ _ (fun _=>Jd (MK.Z _ hb4)) (fun hHz=>?_);have hHeld:=hHz dC;clear hHz;revert hHeld;revert KD;revert HP;revert HM;revert hb4
 exact hkp9.Z):G:=h ⟨k⟩
theorem zBL (k:R) (h:Kp R->G:=by
 intro hkp9;have KA:Hd (Blk w0 w 35 ↑D):=Jh (by rw [hw0];exact (Blk.new w _ _).alloc _);refine zDh ?_;intro KR HB0;revert HB0;revert KR;revert KA
 exact hkp9.Z):G:=h ⟨k⟩
theorem zDR (k:R) (h:Kp R->G:=by
 intro hkp9;have MK:Hd (∀v,BelowL w0 v->Jc v (b,off) x/\Jc v (b,off+1) y/\Jc v (b,off+2) z/\BelowL w0 v):=Jh (fun v h=>⟨(h.Z.cell (Yb hbl HB0.Z.size)).trans ((HB0.Z.cell hbl).trans q0),(h.Z.cell (Yb hbl HB0.Z.size)).trans ((HB0.Z.cell hbl).trans q1),(h.Z.cell (Yb hbl HB0.Z.size)).trans ((HB0.Z.cell hbl).trans q2),h⟩);refine wp_region_held_drew (S:=fun v=>Jc v (b,off) x/\Jc v (b,off+1) y/\Jc v (b,off+2) z/\BelowL w0 v) zK (MK.Z _ lS) ?_;intro hHeld;refine zBQ ?_;refine hTs 6 ?_;refine hTs 7 ?_;refine hTs 8 ?_;refine wpAnyH_ready (rs:=[9,13]) zK sI ?_;revert hHeld;revert MK
 exact hkp9.Z):G:=h ⟨k⟩
theorem Rw (k:R) (h:Kp R->G:=by
 intro hkp9;obtain ⟨HQ,HQB,HBc,KB⟩:=JG ho hbd hb kb;have HWc:Hd (Below w w wc):=Jh (Below.trans HB0.Z (hb.mono HB0.Z.size));obtain ⟨KAc,KRc,HGB,HNC⟩:=JG (KA.Z.zA hb) (KR.Z.zA hb) hgb hnc;revert HNC;revert HGB;revert KRc;revert KAc;revert HWc;revert KB;revert HBc;revert HQB;revert HQ
 exact hkp9.Z):G:=h ⟨k⟩
theorem zDQ (k:R) (h:Kp R->G:=by
 intro hkp9;obtain ⟨HIN,HQ,HM⟩:=JF hin hq hm;obtain ⟨w0,hw0⟩:=zN (((w.alloc (.cells D.cells 35)).alloc (.cells ↑q 31)).alloc (.cells ↑Zd 35));refine zDl ?_;intro KA;have KQ:Hd (Blk w0 (w.heap.size+1) 31 ↑q):=Jh (by rw [hw0];exact (Blk.zD _ _ sI).alloc _);refine zDX ?_;intro KR HB0 HZ0 HDB;revert HDB;revert HZ0;revert HB0;revert KR;revert KQ;revert KA;revert hw0;revert w0;revert HM;revert HQ;revert HIN
 exact hkp9.Z):G:=h ⟨k⟩
theorem Ld (k:R) (h:Kp R->G:=by
 intro hkp9;refine yE ?_;refine tTs 14 ?_;refine tTs 15 ?_;obtain ⟨m0,d0,d1,d2,d3,d4,d5,d6⟩:=KD.Z.c7;obtain ⟨f0,f1,f2,f3,f4,f5,f6⟩:=KD.Z.f7;refine zBS ?_;revert f6;revert f5;revert f4;revert f3;revert f2;revert f1;revert f0;revert d6;revert d5;revert d4;revert d3;revert d2;revert d1;revert d0;revert m0
 exact hkp9.Z):G:=h ⟨k⟩
theorem zDP (k:R) (h:Kp R->G:=by
 intro hkp9;refine Lf ?_;intro v9 E9 ho9 hd9 hs9 hk9 HO9 HD9 HS9;have HK9:Hd (KeepT D.blocks w v9):=Jh ((KeepT.zF (Below.trans HB0.Z (HB1.Z.mono HB0.Z.size))).trans hk9);have KA9:Hd (Blk v9 w 35 ↑D):=Jh (hk9.blk (KA.Z.zA HB1.Z) (fun h=>by have:=HDB.Z _ h;omega));have KR9:Hd (Blk v9 (w.heap.size+1) 35 ↑Zd):=Jh (hk9.blk (KR.Z.zA HB1.Z) (fun h=>by have:=HDB.Z _ h;omega));clear ho9 hd9 hs9 hk9;refine Ce ?_;intro r0 x0 x1 x2 x3 x4 x5 x6 f0 f1 f2 f3 f4 f5 f6
 have hS9:(JC v9 w D:Prop):=by
  obtain ⟨_,y0,y1,y2,y3,y4,y5,y6⟩:=KA9.Z.c7;exact ⟨y0,y1,y2,y3,y4,y5,y6⟩
 refine zDg ?_;intro hHz;have hHeld:=hHz dC;clear hHz;revert hHeld;revert hS9;revert f6;revert f5;revert f4;revert f3;revert f2;revert f1;revert f0;revert x6;revert x5;revert x4;revert x3;revert x2;revert x1;revert x0;revert r0;revert KR9;revert KA9;revert HK9;revert HS9;revert HD9;revert HO9;revert E9;revert v9
 exact hkp9.Z):G:=h ⟨k⟩
theorem eY (k:R) (h:Kp R->G:=by
 intro hkp9;have HB1v:=Jh (Below.trans (Below.refl w4 w4).drew (hq1.mono nI));go_wp2_with fail;refine hK.out _ _ (fun _=>Jd (MK.Z _ HB1v.Z)) (fun hHz=>?_);have hHeld:=hHz dC;clear hHz;have HBV:Hd (Below w w v1):=Jh (Below.trans HB0.Z ((Below.trans HB4.Z (HB1v.Z.mono HB4.Z.size)).mono HB0.Z.size));have hin1:ModIn v1 B D:=HIN.Z.below HBV.Z;have hq9:=HQB.Z;have hz4:=HZ4.Z;revert hz4;revert hq9;revert hin1;revert HBV;revert hHeld;revert HB1v
 exact hkp9.Z):G:=h ⟨k⟩
theorem zBK (k:R) (h:Kp R->G:=by
 intro hkp9;refine zf 5 (fun K hK=>?_);go_simp;refine hK.out _ _ (fun _=>Jd (MK.Z _ hb1)) (fun hHz=>?_);clear hK K hHz;have hO1:=HIN.Z.own.below (Below.trans HB1.Z (hb1.Z.mono HB1.Z.size));have hRow:=hO1.s;rw [KRr.Z] at hRow;have hdr:=HIN.Z.last KK.Z KRr.Z;rw [HQK.Z] at hdr;have hHv:=Below.trans HB1.Z (hb1.Z.mono HB1.Z.size);have P0:=(hHv.cell hrb).trans hdr.2.1;have P1:=(hHv.cell hrb).trans hdr.2.2.1;have P2:=(hHv.cell hrb).trans hdr.2.2.2.1;clear hdr;have g0:=hRow.rowOf.frozen (k*3);have g1:=hRow.rowOf.frozen (k*3+1);have g2:=hRow.rowOf.frozen (k*3+2);refine eZ ?_;revert g2;revert g1;revert g0;revert P2;revert P1;revert P0;revert hHv;revert hRow;revert hO1
 exact hkp9.Z):G:=h ⟨k⟩
theorem zDO (k:R) (h:Kp R->G:=by
 intro hkp9;refine yE ?_;refine tTs 14 ?_;refine tTs 15 ?_;refine zf 16 (fun K hK=>?_);go_simp;have hz4:True:=trivial;have HPo:=HP;have HMo:=HM;have hb4:=BelowL.alloc hb3 (.cells ↑Zd 35);have hq4:Below (w3).heap.size w3 (w3.alloc (.cells ↑Zd 35)):=by first | exact nJ | exact nJ.drew | exact ⟨rfl,rfl,rfl,sI,fun i hi=>by simp at hi;simp [World.alloc,World.drew,Array.getElem?_push,Nat.ne_of_lt hi]⟩
 have HP:=Jh (HP.Z.zA hq4);have HM:=Jh (HM.Z.zA hq4);have KD:Hd (Blk (w3.alloc (.cells ↑Zd 35)) (w3.heap.size) 35 ↑Zd):=Jh (by first | exact Blk.new _ _ _ | exact (Blk.new _ _ _).drew | exact Blk.zD _ _ sI | exact (Blk.zD _ _ sI).drew);refine hK.out _ _ (fun _=>Jd (MK.Z _ hb4)) (fun hHz=>?_);clear hK K;have hHeld:=hHz dC;clear hHz;revert hHeld;revert KD;revert HM;revert HP;revert hq4;revert hb4;revert HMo;revert HPo;revert hz4
 exact hkp9.Z):G:=h ⟨k⟩
theorem ym20 (k:R) (h:Kp R->G:=by
 intro hkp9;intro hHeld;have hh0:=hHeld;refine zP 0 ?_;refine zP 1 ?_;refine zf 2 (fun K hK=>?_);go_simp;refine (spec_l8Done _ _ _).mono ?_;rintro e v1 ⟨rfl,rfl⟩;go_wp2_with fail;refine hK.out _ _ (fun _=>hh0) (fun hH2=>?_);clear hK K hHeld hH2;refine zf 3 (fun K hK=>?_);go_simp;refine hK.out _ _ (fun h=>absurd h dC) (fun hH3=>?_);clear hK K hH3;refine zf 4 (fun K hK=>?_);go_simp;refine hK.out _ _ (fun h=>absurd h dC) (fun hH4=>?_);clear hK K hH4;refine yG zK ?_ _;revert hh0
 exact hkp9.Z):G:=h ⟨k⟩
theorem fA (h:G:=by (have hbb: ∀b,zO a1=some b->w0.heap.size+1<=b/\b<v1.heap.size:=fun b hb=>by have h9:=ho1.bd b hb;simpa using h9);exact ⟨⟨w0.heap.size,a1,n1,k1,rfl,kb1.put3 _ _ _,nI,OwnA.mono (((ho1.zG (fun e=>by have:=hbb _ e;simp at this;omega) _).zG (fun e=>by have:=hbb _ e;simp at this;omega) _).zG (fun e=>by have:=hbb _ e;simp at this;omega) _) sI,fun b hb=>by (have h9:=hbb b hb);(simp;omega),hn1,hb3.Z⟩,rfl⟩):G:=h
theorem eX (k:R) (h:Kp R->G:=by
 intro hkp9;rw [hR] at ho BB⊢;obtain ⟨w4,hw4⟩:=zN (w3.alloc (.cells #[R.1.W,R.1.H, .slice a1 n1 k1] 31));have HQ4:Hd (OwnA w4 w2 a1 n1 k1 R.1.ink):=Jh (by rw [hw4];exact ho.alloc _);have HQB:=Jh ho.bd;have KQ4:Hd (Blk w4 w3 31 #[R.1.W,R.1.H, .slice a1 n1 k1]):=Jh (by rw [hw4];exact Blk.new _ _ _);have HB4:Hd (Below w0 w0 w4):=Jh (by rw [hw4];exact zM (zL HB2.Z hb) _);have HZ4:=Jh HB2.Z.size;have HZ3:Hd (w2.heap.size<=w3.heap.size):=Jh hb.size;clear ho;revert HZ3;revert HZ4;revert HB4;revert KQ4;revert HQB;revert HQ4;revert hw4;revert w4;revert BB
 exact hkp9.Z):G:=h ⟨k⟩
theorem Lc (k:R) (h:Kp R->G:=by
 intro hkp9;refine yE ?_;refine zf 13 (fun K hK=>?_);refine step_clone7 _ rfl (.tmp 15) (.tmp 18) rfl w0 0 _ rfl HE.Z b2 o2 mn mc ys rfl R3.Z (fun j hj=>by obtain ⟨b9,o9,h3,h4,h5⟩:=((R4.Z.below HB0.Z).below hb3.Z).at (oh R3);cases h3;exact h5 j (oh R3)) om hb3.le ?_;revert hK;revert K
 exact hkp9.Z):G:=h ⟨k⟩
theorem XV (h:G:=by
 with_reducible refine yQ.set7 (HIN.Z.own.below HB0.Z) ?_ _ _ _ _ _ _ _
 exact (fun b hb e=>by have:=HDB.Z b hb;omega)):G:=h
theorem zBJ (k:R) (h:Kp R->G:=by
 intro hkp9;obtain ⟨l0,c0,c1,c2,c3,c4,c5,c6⟩:=KA1.Z.c7;rw [KRr.Z,KK.Z] at c6;obtain ⟨k0',q0,q1,q2⟩:=KQ1.Z.c3;have MK:Hd (∀v,BelowL w1 v->(JB v w D.P.W D.P.H (.slice D.P.a D.P.n D.P.c) (Jc v (w,3) D.M.W/\Jc v (w,4) D.M.H/\Jc v (w,5) (.slice D.M.a D.M.n D.M.c)/\Jc v (w,6) (.slice ↑r (k+1) D.c)/\JB v w0 q.W q.H (.slice q.a q.n q.c) (BelowL w1 v)):Prop)):=Jh (fun v h=>⟨(h.Z.cell l0).trans c0,(h.Z.cell l0).trans c1,(h.Z.cell l0).trans c2,(h.Z.cell l0).trans c3,(h.Z.cell l0).trans c4,(h.Z.cell l0).trans c5,(h.Z.cell l0).trans c6,(h.Z.cell k0').trans q0,(h.Z.cell k0').trans q1,(h.Z.cell k0').trans q2,h⟩);revert MK;revert q2;revert q1;revert q0;revert k0';revert c6;revert c5;revert c4;revert c3;revert c2;revert c1;revert c0;revert l0
 exact hkp9.Z):G:=h ⟨k⟩
theorem ym14 (k:R) (h:Kp R->G:=by
 intro hkp9;go_simp;refine hK.out _ _ (fun h=>absurd h dC) (fun hHz=>?_);clear hHz
 exact hkp9.Z):G:=h ⟨k⟩
theorem zBI (k:R) (h:Kp R->G:=by
 intro hkp9;have gP: ∀b,zO D.P.a=some b->b≠r:=fun b hb e=>HIN.Z.own.ps r (.inl (by rw [KRr.Z];rfl)) (by rw [hb,e]);have gM: ∀b,zO D.M.a=some b->b≠r:=fun b hb e=>HIN.Z.own.ms r (.inl (by rw [KRr.Z];rfl)) (by rw [hb,e])
 have ho3:Hd (yQ w3 B ⟨D.P,D.M,some ↑r,D.n,D.c,D.ps.set k np⟩):=Jh ⟨hk3.ownA hO1.p gP,hk3.ownA hO1.m gM,hset2,HIN.Z.own.pm,fun b hb e=>by
  rcases hA2 b hb with hb | hb
  exact HIN.Z.own.ps b hb e;have:=hdb b (.inl e);omega,fun b hb e=>by
  rcases hA2 b hb with hb | hb
  exact HIN.Z.own.ms b hb e
  have:=hdb b (.inr (.inl e));omega⟩
 have HE:Hd (∀b,(⟨D.P,D.M,some ↑r,D.n,D.c,D.ps.set k np⟩:Dsk).blocks b->b<w.heap.size\/w1.heap.size<=b):=Jh (fun b hb=>by
  rcases hb with hb | hb | hb
  exact .inl (hdb b (.inl hb));exact .inl (hdb b (.inr (.inl hb)));rcases hA2 b hb with hb | hb
  exact .inl (hdb b (.inr (.inr hb)))
  exact .inr hb)
 have HNN:Hd (np.n<=1048576/\np.pic=f):=Jh (by rw [hnp];exact ⟨hn1,rfl⟩);rw [<-hw3];revert HNN;revert HE;revert ho3;revert gM;revert gP
 exact hkp9.Z):G:=h ⟨k⟩
theorem qL (h:G:=by
 with_reducible refine yQ.set7 HO9.Z ?_ _ _ _ _ _ _ _
 exact (fun b hb=>HO9.Z.ne_desk KR9.Z b hb)):G:=h
theorem zBH (k:R) (h:Kp R->G:=by
 intro hkp9;obtain ⟨w3,hw3⟩:=zN (((v1.setCell (r,k*3) ↑f.W).setCell (r,k*3+1) ↑f.H).setCell (r,k*3+2) (.slice a1 n1 k1'))
 have hk3:KeepT (fun i=>i=r) v1 w3:=by
  rw [hw3];exact KeepT.set (S:=fun i=>i=r) (KeepT.set (S:=fun i=>i=r) (KeepT.set (S:=fun i=>i=r) (KeepT.refl _ _) rfl _) rfl _) rfl _
 have KA3:Hd (Blk w3 w 35 ↑D):=Jh (hk3.blk (KA1.Z.zA hb1.Z) om);have KR3:Hd (Blk w3 (w.heap.size+1) 35 ↑Zd):=Jh (hk3.blk (KR1.Z.zA hb1.Z) om);have hrD:D.blocks r:= .inr (.inr (.inl (by rw [KRr.Z];rfl)));have HRD:=Jh hrD;have HKF:Hd (KeepT D.blocks w w3):=Jh (by rw [hw3];exact KeepT.set (KeepT.set (KeepT.set (KeepT.zF hHv) hrD _) hrD _) hrD _);have hkl:k<D.ps.length:=by rw [HIN.Z.own.s.len,KK.Z];omega
 have hkn:k<D.n:=by have:=KK.Z;omega
 have hz1:=HZ1.Z;have hfr: ∀b,zO a1=some b->w1.heap.size<=b:=fun b hb=>by have:=(ho.bd b hb).1;simpa using this
 have hdb:=HDB.Z;obtain ⟨np,hnp⟩:=zN (⟨f.W,f.H,a1,n1,k1',f.ink⟩:PV);have hov:OwnA v1 B np.a np.n np.c np.ink:=by rw [hnp];exact ho.mono (oS HIN.Z.base)
 have hset:=OwnV.setPic hRow hkn np hov (fun b hb=>by
  rw [hnp] at hb;have h1:=hfr b hb;refine ⟨om,fun hbl=>?_⟩;have h2:=hdb b (.inr (.inr (by rw [KRr.Z];exact hbl)))
  omega)
 have hset2:OwnV w3 B ↑r D.n D.c (D.ps.set k np):=by rw [hw3];rw [hnp] at hset⊢;exact hset
 revert hset2;revert hset;revert hov;revert hnp;revert np;revert hdb;revert hfr;revert hz1;revert hkn;revert hkl;revert HKF;revert HRD;revert hrD;revert KR3;revert KA3;revert hk3;revert hw3;revert w3
 exact hkp9.Z):G:=h ⟨k⟩
theorem FX (k:R) (h:Kp R->G:=by
 intro hkp9;refine Lf ?_;intro v9 E9 ho9 hd9 hs9 hk9 HO9 HD9 HS9;have HK9:Hd (KeepT D.blocks w v9):=Jh ((KeepT.zF HWc.Z).trans hk9);have KA9:Hd (Blk v9 w 35 ↑D):=Jh (hk9.blk (KAc.Z) (fun h=>by have:=HDB.Z _ h;omega));have KR9:Hd (Blk v9 (w.heap.size+1) 35 ↑Zd):=Jh (hk9.blk (KRc.Z) (fun h=>by have:=HDB.Z _ h;omega));clear ho9 hd9 hs9 hk9;refine Ce ?_;intro r0 x0 x1 x2 x3 x4 x5 x6 f0 f1 f2 f3 f4 f5 f6;revert f6;revert f5;revert f4;revert f3;revert f2;revert f1;revert f0;revert x6;revert x5;revert x4;revert x3;revert x2;revert x1;revert x0;revert r0;revert KR9;revert KA9;revert HK9;revert HS9;revert HD9;revert HO9;revert E9;revert v9
 exact hkp9.Z):G:=h ⟨k⟩
theorem ym9 (k:R) (h:Kp R->G:=by
 intro hkp9;obtain ⟨HIN,KK,KRr⟩:=JF hin hk hr;obtain ⟨hrb,p0,p1,p2,ln,rd,sm⟩:=hin.last hk hr;have HBD:=Jh (Cn hin.ok);have HQM:Hd ((pv D.ps k).pic ∈ D.dat.2.2):=Jh (Wt (by rw [hin.own.s.len,hk];omega));have hlen:D.dat.2.2.length=k+1:=by show (zS D.ps).length=k+1;rw [kU,hin.own.s.len,hk]
 have HLEN:=Jh hlen;have hn4:k+1<=4:=by have:=((Cy _).1 hin.ok).n;omega
 obtain ⟨q,hq⟩: ∃q,pv D.ps k=q:=⟨_,rfl⟩
 have HQK:=Jh hq;rw [hq] at p0 p1 p2 ln rd sm HQM⊢;obtain ⟨LN,RD,SM⟩:=JF ln rd sm;clear hlen hq ln rd sm;revert SM;revert RD;revert LN;revert HQM;revert p2;revert p1;revert p0;revert HQK;revert q;revert hn4;revert HLEN;revert HBD;revert hrb;revert KRr;revert KK;revert HIN
 exact hkp9.Z):G:=h ⟨k⟩
theorem ym8 (k:R) (h:Kp R->G:=by
 intro hkp9;have KA4:=Jh (KA.Z.zA HB4.Z);have KR4:=Jh (KR.Z.zA HB4.Z);obtain ⟨l0,c0,c1,c2,c3,c4,c5,c6⟩:=KA4.Z.c7;obtain ⟨k0',q0,q1,q2⟩:=KQ4.Z.c3;have MK:Hd (∀v,Below w4 w4 v->((JC v w D:Prop))/\JA v w3 R.1.W R.1.H (.slice a1 n1 k1)):=Jh (fun v h=>⟨⟨(h.cell l0).trans c0,(h.cell l0).trans c1,(h.cell l0).trans c2,(h.cell l0).trans c3,(h.cell l0).trans c4,(h.cell l0).trans c5,(h.cell l0).trans c6⟩,(h.cell k0').trans q0,(h.cell k0').trans q1,(h.cell k0').trans q2⟩);refine yA 7 MK zK (MK.Z _ bR.drew) ?_;intro hHeld;clear c0 c1 c2 c3 c4 c5 c6 q0 q1 q2;refine Ud ?_;refine zf 3 (fun K hK=>?_);go_simp;revert hK;revert K;revert hHeld;revert MK;revert k0';revert l0;revert KR4;revert KA4
 exact hkp9.Z):G:=h ⟨k⟩
theorem ym7 (k:R) (h:Kp R->G:=by
 intro hkp9;refine zBJ ?_;intro l0 c0 c1 c2 c3 c4 c5 c6 k0' q0 q1 q2 MK;refine yA 6 (fun v=>JB v w D.P.W D.P.H (.slice D.P.a D.P.n D.P.c) (Jc v (w,3) D.M.W/\Jc v (w,4) D.M.H/\Jc v (w,5) (.slice D.M.a D.M.n D.M.c)/\Jc v (w,6) (.slice ↑r (k+1) D.c)/\JB v w0 q.W q.H (.slice q.a q.n q.c) (BelowL w1 v))) zK (MK.Z _ lS) ?_;intro hHeld;have hb0:=BelowL.start w1;clear c0 c1 c2 c3 c4 c5 c6 q0 q1 q2;refine Ud ?_;refine tTs 3 ?_;refine zf 4 (fun K hK=>?_);go_simp;revert hK;revert K;revert hb0;revert hHeld;revert MK;revert k0';revert l0
 exact hkp9.Z):G:=h ⟨k⟩
theorem yt6 (h:G:=by
 have q7: ∀ {u:World} (i:Nat) (v:Value),KeepT D.blocks w u->KeepT D.blocks w (u.setCell (w.heap.size+1,i) v):=fun i v k=>KeepT.setNew k (by show w.heap.size<=w.heap.size+1;omega) v
 exact q7 6 _ (q7 5 _ (q7 4 _ (q7 3 _ (q7 2 _ (q7 1 _ (q7 0 _ HK9.Z))))))):G:=h
theorem ym5 (k:R) (h:Kp R->G:=by
 intro hkp9;refine Lf ?_;intro v9 E9 ho9 hd9 hs9 hk9 HO9 HD9 HS9;have HK9:Hd (KeepT D.blocks w v9):=Jh ((KeepT.zF HB0.Z).trans hk9);have KA9:Hd (Blk v9 w 35 ↑D):=Jh (hk9.blk (KA.Z) (fun h=>by have:=HDB.Z _ h;omega));have KR9:Hd (Blk v9 (w.heap.size+1) 35 ↑Zd):=Jh (hk9.blk (KR.Z) (fun h=>by have:=HDB.Z _ h;omega));clear ho9 hd9 hs9 hk9;refine Ce ?_;intro r0 x0 x1 x2 x3 x4 x5 x6 f0 f1 f2 f3 f4 f5 f6;revert f6;revert f5;revert f4;revert f3;revert f2;revert f1;revert f0;revert x6;revert x5;revert x4;revert x3;revert x2;revert x1;revert x0;revert r0;revert KR9;revert KA9;revert HK9;revert HS9;revert HD9;revert HO9;revert E9;revert v9
 exact hkp9.Z):G:=h ⟨k⟩
theorem ym4 (k:R) (h:Kp R->G:=by
 intro hkp9;refine zf 4 (fun K hK=>?_);go_simp;refine (show Calls prog _ _ _ (ModOut _ B D (modPlate R.1 (Lib.itoa R.2.1) D.dat)) from spec_l8Plate D ⟨R.1.W,R.1.H,a1,n1,k1,R.1.ink⟩ (Lib.itoa R.2.1) v1 B hin1 ((HQ4.Z.zA HB1v.Z).mono (zB HIN.Z.base HZ0.Z)) (fun b hb h=>by have:=HDB.Z b h;have h9:=(hq9 b hb).1;have:=HZ0.Z;omega) hn1).mono ?_;refine Lf ?_;intro v9 E9 ho9 hd9 hs9 hk9 HO9 HD9 HS9;have HK9:Hd (KeepT D.blocks w v9):=Jh ((KeepT.zF HBV.Z).trans hk9);have KA9:Hd (Blk v9 w 35 ↑D):=Jh (hk9.blk (KA4.Z.zA HB1v.Z) (fun h=>by have:=HDB.Z _ h;omega));have KR9:Hd (Blk v9 (w.heap.size+1) 35 ↑Zd):=Jh (hk9.blk (KR4.Z.zA HB1v.Z) (fun h=>by have:=HDB.Z _ h;omega));have KQ9:Hd (Blk v9 w3 31 #[R.1.W,R.1.H, .slice a1 n1 k1]):=Jh (hk9.blk (KQ4.Z.zA HB1v.Z) (fun h=>by have:=HDB.Z _ h;have:=HZ0.Z;have:=(HB1v.Z).size;have:=HQB.Z;have h3:=HZ3.Z;omega));clear ho9 hd9 hs9 hk9;refine Ce ?_;intro r0 x0 x1 x2 x3 x4 x5 x6 f0 f1 f2 f3 f4 f5 f6
 have hS9:((JC v9 w D:Prop))/\JA v9 w3 R.1.W R.1.H (.slice a1 n1 k1):=by
  obtain ⟨_,z0,z1,z2⟩:=KQ9.Z.c3;obtain ⟨_,y0,y1,y2,y3,y4,y5,y6⟩:=KA9.Z.c7;exact ⟨⟨y0,y1,y2,y3,y4,y5,y6⟩,z0,z1,z2⟩
 refine zDg ?_;intro hHz;clear hK K;have hHeld:=hHz dC;clear hHz;revert hHeld;revert hS9;revert f6;revert f5;revert f4;revert f3;revert f2;revert f1;revert f0;revert x6;revert x5;revert x4;revert x3;revert x2;revert x1;revert x0;revert r0;revert KQ9;revert KR9;revert KA9;revert HK9;revert HS9;revert HD9;revert HO9;revert E9;revert v9
 exact hkp9.Z):G:=h ⟨k⟩
theorem ym3 (k:R) (h:Kp R->G:=by
 intro hkp9;refine zDc ?_;obtain ⟨l0,c0,c1,c2,c3,c4,c5,c6⟩:=KA.Z.c7;revert c6;revert c5;revert c4;revert c3;revert c2;revert c1;revert c0;revert l0
 exact hkp9.Z):G:=h ⟨k⟩
theorem ym2 (k:R) (h:Kp R->G:=by
 intro hkp9;refine zDc ?_;obtain ⟨l0,c0,c1,c2,c3,c4,c5,c6⟩:=KA.Z.c7;rw [KRr.Z,KK.Z] at c6;have P0:=(HB0.Z.cell hrb).trans p0;have P1:=(HB0.Z.cell hrb).trans p1;have P2:=(HB0.Z.cell hrb).trans p2;have hk1:IntKind.i64.wrap (((k+1:Nat):Int) - 1)=(k:Int):=by rw [Yc _ om];omega
 have hk2:IntKind.i64.wrap ((k:Int)+1 - 1)=(k:Int):=by rw [Yc _ om];omega
 have k0:(0:Int)<=(k:Int):=om;have kn: ¬(k:Int)<0:=om;have k1:(k:Int)<(k:Int)+1:=om;obtain ⟨w1,hw1⟩:=zN (w0.alloc (.cells ↑q 31));have KA1:Hd (Blk w1 w 35 ↑D):=Jh (by rw [hw1];exact KA.Z.alloc _);have KR1:Hd (Blk w1 (w.heap.size+1) 35 ↑Zd):=Jh (by rw [hw1];exact KR.Z.alloc _);have KQ1:Hd (Blk w1 w0 31 ↑q):=Jh (by rw [hw1];exact Blk.new _ _ _);have HB1:Hd (Below w w w1):=Jh (by rw [hw1];exact zM HB0.Z _);have HZ1:Hd (w1.heap.size=w.heap.size+3):=Jh (by rw [hw1];simp;exact HZ0.Z);revert HZ1;revert HB1;revert KQ1;revert KR1;revert KA1;revert hw1;revert w1;revert k1;revert kn;revert k0;revert hk2;revert hk1;revert P2;revert P1;revert P0;revert c6;revert c5;revert c4;revert c3;revert c2;revert c1;revert c0;revert l0
 exact hkp9.Z):G:=h ⟨k⟩
theorem ym1 (k:R) (h:Kp R->G:=by
 intro hkp9;obtain ⟨w0,hw0⟩:=zN ((w.alloc (.cells D.cells 35)).alloc (.cells ↑Zd 35));refine zBL ?_;intro KA KR HB0;have HZ0:Hd (w0.heap.size=w.heap.size+2):=Jh (by rw [hw0];simp);have HDB:=Jh (fun b (hb:D.blocks b)=>(HIN.Z.own.bd b hb).2);revert HDB;revert HZ0;revert HB0;revert KR;revert KA;revert hw0;revert w0
 exact hkp9.Z):G:=h ⟨k⟩
end
end Go.Proofs.YtlenfgdjdianiaaGreatDoor
