/- Facts on which this claim rests, 19. -/
import Derived.Test.YtlenfgdjdianiaaGreatDoorF18
set_option linter.all false
set_option maxHeartbeats 6400000
namespace Go.Proofs.YtlenfgdjdianiaaGreatDoor
section
open Go.RowKit Tq Go.Proofs.Tryz
variable {ad : Option Addr} {l : List UInt8} {v : Int} {w w' : World}
section
set_option maxRecDepth 100000
theorem zLO (i:Nat) (m:PV) (D:Dsk) (B g:Nat) (w:World) (q:xe w B g D) (hm:Blk w i 32 ↑m) (j:OwnA w B m.a m.n m.c m.ink) (ha: ∀b,zL m.a=some b->b≠g/\ ¬D.blocks b) (hn:m.n<=1048576):
 Calls prog 180 (#[.agg #[D.M.W,D.M.H, .slice D.M.a D.M.n D.M.c]]++#[.pointer ↑i]) w (zAU w B g D m.pic):=by
 show Calls prog 180 #[.agg #[D.M.W,D.M.H, .slice D.M.a D.M.n D.M.c], .pointer ↑i] w _;have f:=Jh (zJ (zJ (Below.refl w w) (.cells #[D.M.W,D.M.H, .slice D.M.a D.M.n D.M.c] 32)) (.cells ↑Zp 32));have e:=Jh (Blk.zD (g:=w.heap.size+1) (w:=w.alloc (.cells #[D.M.W,D.M.H, .slice D.M.a D.M.n D.M.c] 32)) 32 ↑Zp sI);have z:=Jh (hm.zA f.Z);have J:=Jh (j.zA f.Z);have C:=Jh ha;have t:=Jh j;clear hm j q ha;obtain ⟨G,c0,c1,c2⟩:=z.Z.c3;obtain ⟨L,A,d1,d2⟩:=e.Z.c3;obtain ⟨I,F,E⟩:=e.Z.f3;go_in;go_wp2_with fail
 refine bodyPost_ret (v:= .agg ↑m) (by simp [results,results180,go_sem,A,d1,d2]) rfl
  ⟨m,rfl,rfl,?_,C.Z,hn,?_⟩
 exact (t.Z.alloc _).alloc _;exact zJ (zJ bR _) _
theorem zLP (nb:Nat) (na:Option Addr) (nc:Nat) (x y:Int) (D:Dsk) (B g:Nat) (w:World) (F:xe w B g D) (hb:w.cell? nb=some (.slice na 2 nc)) (hl:nb<w.heap.size) (hr:Rd w na [x,y]):
 Calls prog 139 (#[.agg #[D.M.W,D.M.H, .slice D.M.a D.M.n D.M.c]]++#[.pointer ↑nb]) w (zAU w B g D (⟨(xb D.M.W D.M.H D.M.ink x y).W,(xb D.M.W D.M.H D.M.ink x y).H,(xb D.M.W D.M.H D.M.ink x y).ranks⟩:Pic)):=by
 show Calls prog 139 #[.agg #[D.M.W,D.M.H, .slice D.M.a D.M.n D.M.c], .pointer ↑nb] w _;have f:=Jh F;obtain ⟨w2,j⟩:=zN ((w.alloc (.cells #[D.M.W,D.M.H, .slice D.M.a D.M.n D.M.c] 32)).alloc (.cells ↑Zp 32));have t:Hd (Below w w w2):=Jh (by rw [j];exact zJ (zJ bR _) _);have KA:Hd (Blk w2 w 32 #[D.M.W,D.M.H, .slice D.M.a D.M.n D.M.c]):=Jh (by rw [j];exact (Blk.new w _ _).alloc _);have KR:Hd (Blk w2 (w.heap.size+1) 32 ↑Zp):=Jh (by rw [j];exact Blk.zD _ _ sI);have HZ:Hd (w2.heap.size=w.heap.size+2):=Jh (by rw [j];simp);have e0:=(t.Z.cell hl).trans hb;obtain ⟨b,off,b0,J,A⟩:=(hr.below t.Z).at sI;subst b0;have O:=A 0 sI;have T:=A 1 sI;have g0: [x,y].getD 0 0=x:=rfl;have g1: [x,y].getD 1 0=y:=rfl;rw [g0,Yy] at O;rw [g1] at T;have U:nb<w2.heap.size:=by have:=t.Z.size;omega
 obtain ⟨C,c0,c1,c2⟩:=KA.Z.c3;have V:Hd (∀v,BelowL w2 v->(JB v w D.M.W D.M.H (.slice D.M.a D.M.n D.M.c) (Jc v nb (.slice (some ↑(b,off)) 2 nc)/\Jc v (b,off) x/\Jc v (b,off+1) y/\BelowL w2 v):Prop)):=Jh (fun v h=>⟨(h.Z.cell C).trans c0,(h.Z.cell C).trans c1,(h.Z.cell C).trans c2,(h.Z.cell U).trans e0,(h.Z.cell J).trans O,(h.Z.cell J).trans T,h⟩);have CS:Hd (∀v,BelowL w2 v->Calls prog 140 #[.agg #[D.M.W,D.M.H, .slice D.M.a D.M.n D.M.c],x,y] v (YK v (xb D.M.W D.M.H D.M.ink x y))):=Jh (fun v hv=>Qm D.M.W D.M.H D.M.a D.M.n D.M.c D.M.ink x y v f.Z.own.m.len ((f.Z.own.m.rd.below t.Z).below hv.Z) (og f.Z.small.m));clear F hb hr e0 A O T g0 g1 C c0 c1 c2;go_in;go_upto_region 1 with fail;rw [<-j];clear j;refine zh 8 V zK (V.Z _ lS) ?_;intro q;have I:=jx q;refine zM 0 ?_;refine zM 1 ?_;refine zM 2 ?_;refine zM 3 ?_;refine zM 4 ?_;refine zM 5 ?_;refine zM 6 ?_;refine zW 7 (fun K hK=>?_);go_simp
 go_at_call 140
 ((with_reducible refine (CS.Z _ I).mono ?_);rintro e v1 ⟨a1,n1,k1,rfl,ho,b1,L⟩);have z:=BelowL.call I L;go_wp2_with fail;refine hK.out _ _ (fun _=>Jd (V.Z _ z)) (fun hH2=>?_);clear hK K q hH2;have E:=KR.Z.zA z.Z;have X:=Jh (zI t.Z z.Z);obtain ⟨C,c0,c1,c2⟩:=E.c3;obtain ⟨f0,f1,f2⟩:=E.f3;refine zW 8 (fun K hK=>?_);go_simp;refine hK.out _ _ (fun h=>absurd h dC) (fun hH2=>?_);clear hK K hH2;refine zx zK ?_ _;(try go_simp);go_wp2_with fail;obtain ⟨R,hR⟩: ∃R,xb D.M.W D.M.H D.M.ink x y=R:=⟨_,rfl⟩
 rw [hR] at ho⊢;have hz:=HZ.Z;have b2:=f.Z.size;have b3:=f.Z.box.lt;have Y:=ho.bd
 refine bodyPost_ret (v:= .agg #[R.W,R.H, .slice a1 n1 k1]) (by simp [results,results139,go_sem,c0,c1,c2]) rfl
  ⟨⟨R.W,R.H,a1,n1,k1,R.ranks⟩,rfl,rfl,OwnA.mono (((ho.other sO _).other sO _).other sO _) sO,fun b N=>?_,b1,((X.Z.setCell sI _).setCell sI _).setCell sI _⟩
 have h1:=Y b N;simp at h1;exact ⟨om,fun hd=>by have:=(f.Z.own.bd b hd).2;omega⟩
end
def xo (s:List UInt8):Option Int:=match Lib.atoiAll s with | .ok v=>if Lib.itoa v=s then some v else none | _=>none
def jV:List (List UInt8)->Option (List Int)
 | []=>some []
 | w::r=>match xo w with
  | none=>none
  | some v=>match jV r with
   | none=>none
   | some l=>some (v::l)
theorem YY: ∀(c:List (List UInt8)) (k:Nat),k<c.length->xo (c.getD k [])=none->jV c=none
 | [],k,h,_=>by simp at h
 | w::r,0,_,hn=>by
  have h2:xo w=none:=by simpa using hn
  unfold jV;rw [h2]
 | w::r,k+1,h,hn=>by
  have e:=YY r k (by simpa using h) (by simpa using hn);unfold jV;cases xo w with
  | none=>rfl
  | some v=>rw [e]
theorem Vs: ∀(c:List (List UInt8)) (xs:List Int),xs.length=c.length->(∀k,k<c.length->xo (c.getD k [])=some (xs.getD k 0))->jV c=some xs
 | [],xs,hl,_=>by
  have:xs=[]:=List.eq_nil_of_length_eq_zero (by simpa using hl);rw [this];rfl
 | w::r,[],hl,_=>by simp at hl
 | w::r,x::xs,hl,h=>by
  have f:=h 0 sI;have e:=Vs r xs (by simpa using hl) (fun k hk=>by have:=h (k+1) (by simpa using hk);simpa using this);have h1:xo w=some x:=by simpa using f
  unfold jV;rw [h1,e]
theorem zHe (h:Lib.atoiAll l= .ok v):yK v:=by
 unfold Lib.atoiAll at h;split at h;cases h;dsimp only at h;split at h;cases h;cases h;rename_i u c;have:=Lib.parseMag_lt c;split at h;cases h;split at h;cases h;injection h with h
 unfold yK;split at h <;>omega
def zPL (s:ByteArray) (w:World) (e:Ending) (w':World):Prop:=
 Below w w w'/\((∃v,Lib.atoiAll s.data.toList= .ok v/\e= .returned (.tuple #[.int .i64 v, .nilIface]))\/(∃u p,(∀v,Lib.atoiAll s.data.toList≠ .ok v)/\e= .returned (.tuple #[.int .i64 u, .iface 199 p])))
theorem zJw (s:ByteArray) (w:World) (i:s.size<=1048576) (hL:jt w):Calls prog 132 #[.string s] w (zPL s w):=by
 obtain ⟨c,g,h1⟩:=hL.es;obtain ⟨t2,f,h2⟩:=hL.er;rcases ha:Lib.atoiAll s.data.toList with v | _ | _
 refine (Tryz.strconv_Atoi_ok s om v ha w).mono fun e w' ⟨he,hw⟩=>⟨?_, .inl ⟨v,ha,he⟩⟩
 rcases hw with rfl | ⟨t,rfl⟩
 exact bR;exact Joins.below_bytesWorld _ _ _ _ nI;exact (Tryz.strconv_Atoi_syntax s om ⟨fun v hv=>(by rw [ha] at hv;cases hv),fun hv=>(by rw [ha] at hv;cases hv)⟩ _ w h1 (.inr ⟨_,_,rfl⟩)).mono fun e w' ⟨N,he,_,_,hb⟩=>⟨hb, .inr ⟨_,_,(fun v hv=>by rw [ha] at hv;cases hv),he⟩⟩
 exact (Tryz.strconv_Atoi_range s om ha _ w h2 (.inr ⟨_,_,rfl⟩)).mono fun e w' ⟨N,he,_,_,hb⟩=>⟨hb, .inr ⟨_,_,(fun v hv=>by rw [ha] at hv;cases hv),he⟩⟩
def RdS (w:World) (ad:Option Addr) (ws:List ByteArray):Prop:= ∀k (h:k<ws.length),∃b off,ad=some ⟨b,off,none⟩/\b<w.heap.size/\w.cell? ⟨b,off+k,none⟩=some (.string (ws[k]'h))
theorem RdS.below {c:List ByteArray} (h:RdS w ad c) (hb:Below w w w'):RdS w' ad c:=fun k hk=>by
 obtain ⟨b,off,h1,h2,h3⟩:=h k hk;exact ⟨b,off,h1,Yb h2 hb.size,(hb.cell h2).trans h3⟩
def zk (ws:List ByteArray):List (List UInt8):=ws.map (fun s=>s.data.toList)
def zPQ (w:World) (r:Option (List Int)) (e:Ending) (w':World):Prop:=
 Below w w w'/\((r=none/\ ∃v,e= .returned (.tuple #[v, .bool false]))\/ ∃xs a n c,r=some xs/\e= .returned (.tuple #[.slice a n c, .bool true])/\OwnA w' w a n c xs/\ ∀x,x ∈ xs->yK x)
set_option maxRecDepth 100000 in
theorem Kc (ad:Option Addr) (n cap:Nat) (ws:List ByteArray) (w:World) (hn:ws.length=n) (ha:RdS w ad ws) (hl:n<=1048576) (hs: ∀s,s ∈ ws->s.size<=1048576) (hL:jt w):
 Calls prog 76 #[.slice ad n cap] w (zPQ w (jV (zk ws))):=by
 have HN:=Jh hn;have HA:=Jh ha;have HS:=Jh hs;have HL:=Jh hL;clear hn ha hs hL;go_in;go_wp2_with fail
 go_loopw [4,11] (fun r i wr=> ∃(k:Nat) (a:Option Addr) (c:Nat) (xs:List Int),k<=n/\i=↑k/\r= .slice a k c/\OwnA wr w a k c xs/\(∀j,j<k->xo ((zk ws).getD j [])=some (xs.getD j 0))/\(∀x,x ∈ xs->yK x)/\Below w w wr) (fun _ i _=>n - (intOf i).toNat)
 case atStart=>exact ⟨0,none,0,[],nZ,rfl,rfl,oN,fun j hj=>om,fun x hx=>by simp at hx,bR⟩
 case round=>
  obtain ⟨k,a,c,xs,hk,rfl,rfl,ho,hv,hx,hb⟩:=hrel;have HO:=Jh ho;have HV:=Jh hv;have HX:=Jh hx;have HB:=Jh hb;clear ho hv hx hb;by_cases hlt:k<n
  . obtain ⟨b,off,hae,hbl,hc⟩:=(HA.Z.below HB.Z) k (by rw [HN.Z];exact hlt)
    subst hae;obtain ⟨s,hsk⟩: ∃s,ws[k]'(by rw [HN.Z];exact hlt)=s:=⟨_,rfl⟩
    rw [hsk] at hc;have hsz:=HS.Z s (by rw [<-hsk];exact List.getElem_mem _)
    have hwk:(zk ws).getD k []=s.data.toList:=by
     unfold zk;simp [List.getD,Ya (show k<ws.length by rw [HN.Z];exact hlt),hsk]
    have HW:=Jh hwk;have HLw:=Jh (HL.Z.below HB.Z);clear hsk hwk;have k0:(0:Int)<=(k:Int):=om;have k1:(k:Int)<(n:Int):=om;go_wp2_with fail;refine (zJw s _ hsz (by exact HLw.Z)).mono ?_;rintro e w1 ⟨hb1,⟨v,hv,rfl⟩ | ⟨u,p,hno,rfl⟩⟩
    . have HB1:=Jh (zI HB.Z hb1)
      have HO1:=Jh (HO.Z.zA hb1);have HL1:=Jh (HLw.Z.below hb1);have hiv:=zHe hv;have HVV:=Jh hv;clear hb1 hc hv;go_wp2_with fail;refine (zDC v _ hiv.1 hiv.2 (by exact HL1.Z)).mono ?_;rintro e w2 ⟨rfl,hb2⟩;have HB2:=Jh (zI HB1.Z hb2);have HO2:=Jh (HO1.Z.zA hb2);clear hb2;by_cases hq:Lib.itoa v=s.data.toList
      . have hes:(⟨(Lib.itoa v).toArray⟩:ByteArray)=s:=by rw [hq]
        have HNV:Hd (xo s.data.toList=some v):=Jh (by unfold xo;rw [HVV.Z];simp only [hq,if_true]);rw [hes];clear hes hq;go_wp2_with (at_builtin;refine vH _ rfl (.tmp 28) (.tmp 30) rfl w k c a xs rfl (HO2.Z.alloc _) w2.heap.size v rfl (by go_simp) om (oS HB2.Z.size) ?_;intro ad2 cap2 w5 ho5 hg5);have HW5:=Jh ((HB2.Z.alloc HB2.Z.size _).grown hg5 (oS HB2.Z.size) (fun b hb=>(HO2.Z.bd b hb).1));have HO5:=Jh ho5;have HXL:=Jh HO2.Z.len;clear ho5 hg5;go_roundw
        case rel=>exact ⟨k+1,ad2,cap2,xs++ [v],om,by go_num,rfl,HO5.Z,fun j hj=>by
         by_cases e:j<k
         . rw [HV.Z j e]
           congr 1;simp [List.getD,List.getElem?_append,show j<xs.length by rw [HXL.Z];exact e]
         . obtain rfl:j=k:=om
           rw [HW.Z,HNV.Z];congr 1;simp [List.getD,List.getElem?_append,HXL.Z],fun x hx=>by
         rcases List.mem_append.1 hx with hx | hx
         . exact HX.Z x hx
         . simp at hx;rw [hx];exact hiv,HW5.Z⟩
        case measure=>exact Jm
      . have HNV:Hd (xo s.data.toList=none):=Jh (by unfold xo;rw [HVV.Z];simp only [hq,if_false])
        obtain ⟨s2,hs2⟩: ∃s2:ByteArray,(⟨(Lib.itoa v).toArray⟩:ByteArray)=s2:=⟨_,rfl⟩
        have hne: ¬s2=s:=by
         intro e;apply hq;rw [<-e,<-hs2]
        rw [hs2]
        have q1:(s2.toList==s.toList)=false:=by
         rw [beq_eq_false_iff_ne];intro e;rw [Yf,Yf] at e;exact hne (ByteArray.ext (Array.toList_inj.1 e))
        have q2:(!s2.toList==s.toList)=true:=by rw [q1];rfl
        clear hq hs2;go_wp2_with fail;go_ret2;exact ⟨HB2.Z, .inl ⟨YY _ k (by unfold zk;rw [List.length_map,HN.Z];exact hlt) (by rw [HW.Z];exact HNV.Z),_,rfl⟩⟩
    . have HB1:=Jh (zI HB.Z hb1)
      have HNV:Hd (xo s.data.toList=none):=Jh (by
       unfold xo;rcases ha:Lib.atoiAll s.data.toList with v | _ | _
       . exact absurd ha (hno v)
       . rfl
       . rfl)
      clear hb1 hno hc;go_wp2_with fail;go_ret2;exact ⟨HB1.Z, .inl ⟨YY _ k (by unfold zk;rw [List.length_map,HN.Z];exact hlt) (by rw [HW.Z];exact HNV.Z),_,rfl⟩⟩
  . obtain rfl:k=n:=om
    go_wp2_with fail;go_ret2;exact ⟨HB.Z, .inr ⟨xs,a,k,c,Vs _ _ (by unfold zk;rw [List.length_map,HN.Z,HO.Z.len]) (fun j hj=>HV.Z j (by unfold zk at hj;rw [List.length_map,HN.Z] at hj;exact hj)),rfl,HO.Z,HX.Z⟩⟩
end
section
variable {k s : Nat} {u v x : Int}
open Tq Go.Proofs.Tryz
structure Sp where
 r:List Int
 x:Int
 y:Int
 dx:Int
 dy:Int
def Ki (s:Nat):Sp:=⟨List.replicate (s*s) (-1),0,0,1,0⟩
def uD (s:Nat) (r:List Int) (u v:Int):Bool:=!(decide (0<=u/\u<=(s:Int) - 1)) || (!(decide (0<=v/\v<=(s:Int) - 1)) || decide (0<=r.getD (v*s+u).toNat 0))
def jr (s:Nat) (n:Nat) (t:Sp):Sp:=
 match uD s (t.r.set (t.y*s+t.x).toNat (n:Int)) (t.x+t.dx) (t.y+t.dy) with
 | true=>⟨t.r.set (t.y*s+t.x).toNat (n:Int),t.x - t.dy,t.y+t.dx,-t.dy,t.dx⟩
 | false=>⟨t.r.set (t.y*s+t.x).toNat (n:Int),t.x+t.dx,t.y+t.dy,t.dx,t.dy⟩
def xO (s:Nat):Nat->Sp
 | 0=>Ki s
 | k+1=>jr s k (xO s k)
def zFi (s:Nat) (t:Sp):Bool:=decide (0<=t.x/\t.x<(s:Int)/\0<=t.y/\t.y<(s:Int)/\-1<=t.dx/\t.dx<=1/\-1<=t.dy/\t.dy<=1/\t.dy*(s:Int)+t.dx≠0)
def Ul (s:Nat):Nat->Nat->Sp->Bool
 | 0,_,t=>zq s s t.r
 | f+1,k,t=>zFi s t && Ul s f (k+1) (jr s k t)
def zPI:Bool:=[1,2,3,4,5,6,7,8,9,10,11,12,13,14,15,16].all (fun s=>Ul s (s*s) 0 (Ki s))
theorem zOT:zPI=true:=by decide+kernel
theorem zJM (s:Nat): ∀(f k:Nat),Ul s f k (xO s k)=true->(∀j,j<f->zFi s (xO s (k+j))=true)/\zq s s (xO s (k+f)).r=true:=by
 intro f
 induction f with
 | zero=>intro k h;exact ⟨fun j c=>absurd c om,h⟩
 | succ f g=>
  intro k h;unfold Ul at h;rw [Bool.and_eq_true] at h;have e:jr s k (xO s k)=xO s (k+1):=rfl;rw [e] at h;obtain ⟨h1,h2⟩:=g (k+1) h.2;refine ⟨fun j c=>?_,?_⟩
  match j with
  | 0=>exact h.1
  | j+1=>have:=h1 j om;rwa [Nat.add_right_comm] at this
  rwa [Nat.add_right_comm] at h2
theorem zAN (s:Nat) (h1:1<=s) (h2:s<=16):(∀j,j<s*s->zFi s (xO s j)=true)/\zq s s (xO s (s*s)).r=true:=by
 have h:=zOT;unfold zPI at h;rw [Yp] at h;have h3:=h s sO;have h4:=zJM s (s*s) 0 h3;simpa using h4
theorem zQj (s k:Nat):(xO s k).r.length=s*s:=by
 induction k with
 | zero=>simp [xO,Ki]
 | succ k c=>
  simp only [xO,jr];split <;>simp [c]
def yu (side:Int):Mat × Bool:=if 1<=side/\side<=16 then (⟨side,side,(xO side.toNat (side.toNat*side.toNat)).r⟩,true) else (vQ,false)
theorem Jf {s:Int} (h: ¬(1<=s/\s<=16)):yu s=(vQ,false):=by unfold yu;rw [if_neg h]
theorem Xs (h1:1<=s) (h2:s<=16):yu (s:Int)=(⟨s,s,(xO s (s*s)).r⟩,true):=by unfold yu;rw [if_pos ⟨om,om⟩];rfl
theorem zIG {t:Sp} (h:zFi s t=true):0<=t.x/\t.x<(s:Int)/\0<=t.y/\t.y<(s:Int)/\-1<=t.dx/\t.dx<=1/\-1<=t.dy/\t.dy<=1/\t.dy*(s:Int)+t.dx≠0:=by
 unfold zFi at h;exact of_decide_eq_true h
theorem ui {t:Sp} (h:uD s (t.r.set (t.y*s+t.x).toNat (k:Int)) (t.x+t.dx) (t.y+t.dy)=true):jr s k t=⟨t.r.set (t.y*s+t.x).toNat (k:Int),t.x - t.dy,t.y+t.dx,-t.dy,t.dx⟩:=by
 unfold jr;rw [h]
theorem zDc {t:Sp} (h:uD s (t.r.set (t.y*s+t.x).toNat (k:Int)) (t.x+t.dx) (t.y+t.dy)=false):jr s k t=⟨t.r.set (t.y*s+t.x).toNat (k:Int),t.x+t.dx,t.y+t.dy,t.dx,t.dy⟩:=by
 unfold jr;rw [h]
theorem zAL {r:List Int} (h: ¬(0<=u/\u<=(s:Int) - 1)):uD s r u v=true:=by
 unfold uD;rw [decide_eq_false h];rfl
theorem zAM {r:List Int} (h: ¬(0<=v/\v<=(s:Int) - 1)):uD s r u v=true:=by
 unfold uD;rw [decide_eq_false h];simp
theorem zOV {r:List Int} (h1:0<=u/\u<=(s:Int) - 1) (h2:0<=v/\v<=(s:Int) - 1) (h:r.getD (v*s+u).toNat 0=x):uD s r u v=decide (0<=x):=by
 unfold uD;rw [decide_eq_true h1,decide_eq_true h2,h];simp
end
section
open Go.ChangeMaps Go.MapKept Tq Go.Proofs.Tryz
open Go.Maps (Keyed)
variable {H : Type} {P : Program} {Q : Exit → Act → World → Prop} {a : Act} {b n : Nat} {o : Oper} {ops : Array Oper} {v : Value} {w w' : World} {x x' y y' : Int}
theorem zKL:laidOutB prog=true:=zK
theorem zET:(176:TypeId)<prog.types.size:=of_decide_eq_true zK
theorem zKM:(match prog.underlying 176 with | some (.array _ _) | some (.struct _)=>true | _=>false)=true:=by rw [underlying176]
set_option maxRecDepth 100000 in
theorem Ks:Keyed prog 176:=Keyed.of_law (deep_law_laid zKL (m:=2) om zET zK zKM)
theorem zAY:prog.cellsOf 176=2:=zK
theorem zMv:prog.keyType 176=true:=zK
def Ue (x y:Int):Value:= .agg #[x,y]
def Kq (x y : Int) : Lit := .string (keyBytes [.int .i64 x, .int .i64 y])
def wC (x:Int):Prop:=(Lit.int .i64 x).wf=true
theorem Uj (h1:-9223372036854775808<=x) (h2:x<=9223372036854775807):wC x:=by
 have c:IntKind.i64.min=-9223372036854775808:=dC;have e:IntKind.i64.max=9223372036854775807:=dC;show (decide (IntKind.i64.min<=x) && decide (x<=IntKind.i64.max))=true;rw [c,e,Bool.and_eq_true];exact ⟨decide_eq_true h1,decide_eq_true h2⟩
theorem zMu:prog.cellsOf 3=1:=zK
theorem zES (hx : wC x) (d : Nat) : Tryz.prog.keyLits (d + 1) 3 [.int .i64 x] = some [.int .i64 x] := by
  unfold Program.keyLits
  rw [Tryz.underlying3]
  have hx' : (Lit.int .i64 x).wf = true := hx
  simp [hx']
theorem wE (hx : wC x) (hy : wC y) : keyOf Tryz.prog 176 (Ue x y) = some (Kq x y) := by
  have h1 : (Value.agg #[.int .i64 x, .int .i64 y]).formed Tryz.prog 176 = true := by simp [Value.formed, Tryz.underlying176, zAY]
  have h2 : ∀ d, Tryz.prog.keyLits (d + 2) 176 [.int .i64 x, .int .i64 y] = some [.int .i64 x, .int .i64 y] := by
    intro d
    unfold Program.keyLits
    rw [Tryz.underlying176]
    simp [zAY, zMu, zES hx, zES hy]
  have hs : ∃ n, Tryz.prog.types.size + 1 = n + 2 := ⟨Tryz.prog.types.size - 1, by have h : (176 : Nat) < Tryz.prog.types.size := zET; omega⟩
  obtain ⟨n, hn⟩ := hs
  unfold keyOf Ue Kq
  rw [Tryz.underlying176, hn]
  simp [zMv, h1, Value.cells, h2]
theorem zKK (g:wC x) (f:wC y) (c:wC x') (e:wC y') (h:Kq x y=Kq x' y'):x=x'/\y=y':=by
 have h1:=wE g f;rw [h] at h1;have h2:=Ks.inj h1 (wE c e);unfold Ue at h2;simpa using h2
theorem zKN (w:World):(zeroValue 4).run prog w= .ok (.bool false) w:=zK
theorem Vw {e:TypeId} (he:P.underlying e=some .bool) {b:Bool} {ps:List MemPlace} (h:plainElem (H:=H) P e v=some (.lit (.bool b),ps)):v= .bool b:=by
 unfold plainElem at h;rw [he] at h;cases v <;>simp at h;rw [h.1]
def VM (w:World) (b n:Nat) (S:Int->Int->Bool):Prop:=
 ∃D:DataW Unit,Maps.IsMap D/\w.ownsMap prog 176 (plainElem prog 4) b n D/\ ∀x y,wC x->wC y->D.atKey (Kq x y) (.lit (.bool false))= .lit (.bool (S x y))
theorem zPz (w:World):VM (w.alloc (.map #[] 0)) w 0 (fun _ _=>false):=
 ⟨.map [],Maps.isMap_empty,World.ownsMap_made w _ _ _,fun x y _ _=>rfl⟩
theorem VM.kept {w w':World} {b n:Nat} {S:Int->Int->Bool} {row:Option Nat} (h:VM w b n S) (hg:w.grownBy w' row) (c:some b≠row):VM w' b n S:=by
 obtain ⟨D,h1,h2,h3⟩:=h;exact ⟨D,h1,h2.kept hg c,h3⟩
theorem VM.alloc {w:World} {b n:Nat} {S:Int->Int->Bool} (h:VM w b n S) (o:Obj):VM (w.alloc o) b n S:=h.kept (World.grownBy_alloc w o none) sI
theorem VM.drew {w:World} {b n:Nat} {S:Int->Int->Bool} (h:VM w b n S):VM w.drew b n S:=h
theorem VM.lt {w:World} {b n:Nat} {S:Int->Int->Bool} (h:VM w b n S):b<w.heap.size:=by
 obtain ⟨D,h1,h2,h3⟩:=h;exact h2.lt
theorem VM.look {S:Int->Int->Bool} (h:VM w b n S) (f:wC x) (e:wC y):
 (Instr.lookup 174 (.map (some b)) (Ue x y) false).run prog w= .ok (.bool (S x y)) w:=by
 obtain ⟨D,h1,h2,h3⟩:=h;obtain ⟨v,ps,c,hv⟩:=h2.lookup Ks underlying174 (zKN w) (plainElem_bool underlying4 false) (wE f e);rw [h3 x y f e] at hv;rw [Vw underlying4 hv] at c;exact c
def putS (S:Int->Int->Bool) (x y:Int):Int->Int->Bool:=fun u v=>(decide (u=x) && decide (v=y)) || S u v
theorem zOn (w:World) {rest:List Oper}
 (hg:o.guard=none) (m x v:Operand) (f:o.op=Op.mapUpdate 174 m x v)
 (b n:Nat) (S:Int->Int->Bool) (X Y:Int) (hm:a.eval m= .map (some b)) (c:VM w b n S) (hn:n<maxLen) (A:a.eval x=Ue X Y) (hv:a.eval v= .bool true) (j:wC X) (g:wC Y)
 (hK: ∀w',VM w' b (n+1) (putS S X Y)->w.grownBy w' (some b)->wpList prog ops Q rest (a.put o.dst undef) w'):
 wpList prog ops Q (o::rest) a w:=by
 obtain ⟨D,h1,h2,h3⟩:=c;refine wpList_mapUpdate_own w hg m x v _ f _ _ Ks underlying174 _ b n D hm h2 hn _ _ _ A hv (wE j g) _ _ (plainElem_bool underlying4 true) (fun w' z C=>hK w' ⟨_,h1.put _ _,z,?_⟩ C);intro u v q hv;by_cases e:u=X/\v=Y
 obtain ⟨rfl,rfl⟩:=e;rw [Maps.atKey_put_same h1 (Ks.key (wE j g))];simp [putS];have i:Kq u v≠Kq X Y:=fun B=>e (zKK q hv j g B);rw [Maps.atKey_put_other i,h3 u v q hv]
 have:(decide (u=X) && decide (v=Y))=false:=by
  simp only [Bool.and_eq_false_iff,decide_eq_false_iff_not];by_cases t:u=X
  exact Or.inr (fun E=>e ⟨t,E⟩);exact Or.inl t
 simp [putS,this]
theorem zJj (w:World) {rest:List Oper} {t:TypeId}
 (hg:o.guard=none) (e:o.op=Op.makeMap t none)
 (hK:wpList prog ops Q rest (a.put o.dst (.map (some w))) (w.alloc (.map #[] 0))):wpList prog ops Q (o::rest) a w:=by
 refine wpList_plain hg fun K c=>?_;have hr:(Instr.makeMap t none).run prog w= .ok (.map (some w)) (w.alloc (.map #[] 0)):=rfl;unfold Oper.wp;simp [execOp,e,hr,Result.andThen];exact c _ _ hK
theorem VM.same {S:Int->Int->Bool} (h:VM w b n S) (hb:w'.heap[b]? =w.heap[b]?):VM w' b n S:=by
 obtain ⟨D,h1,⟨es,c,h2,h3⟩,h4⟩:=h;exact ⟨D,h1,⟨es,c,hb.trans h2,h3⟩,h4⟩
end
section
open Go.RowKit Tq Go.Proofs.Tryz
variable {H W u v x y : Int} {b : Bool} {k s : Nat} {xs : List Int}
theorem wH (a b c d:Int) (w:World) (h1:IntKind.i64.wrap (a+c)=a+c) (h2:IntKind.i64.wrap (b+d)=b+d):
 Calls prog 181 #[.agg #[a,b], .agg #[c,d]] w (zR (.agg #[.int .i64 (a+c), .int .i64 (b+d)]) w):=by
 go_in
 go_wp2
 refine bodyPost_ret (v:= .agg #[.int .i64 (a+c), .int .i64 (b+d)]) (Jr results181) rfl ⟨rfl,nV.trans (nJ.mono sO)⟩
theorem Xk (a b:Int) (w:World) (h1:IntKind.i64.wrap (-b)=-b):
 Calls prog 183 #[.agg #[a,b]] w (zR (.agg #[.int .i64 (-b),a]) w):=by
 go_in
 go_wp2
 refine bodyPost_ret (v:= .agg #[.int .i64 (-b),a]) (Jr results183) rfl ⟨rfl,nV⟩
theorem zMt (i:0<=x) (j:x<(s:Int)) (f:0<=u) (g:u<(s:Int)) (h:v*(s:Int)+u=y*(s:Int)+x):u=x/\v=y:=by
 have e:(0:Int)<=(s:Int):=om
 have c:v=y:=by
  rcases Int.lt_trichotomy v y with h1 | h1 | h1
  have:=Yo (show v+1<=y by omega) e;rw [Int.add_mul,Int.one_mul] at this;omega;exact h1;have:=Yo (show y+1<=v by omega) e;rw [Int.add_mul,Int.one_mul] at this;omega
 subst c;exact ⟨om,rfl⟩
theorem zPl {r:List Int} {S:Int->Int->Bool} (hl:r.length=s*s) (i:0<=x) (m:x<(s:Int)) (q:0<=y) (t:y<(s:Int))
 (h: ∀u v,0<=u/\u<=(s:Int) - 1->0<=v/\v<=(s:Int) - 1->S u v=decide (0<=r.getD (v*s+u).toNat 0)):
 ∀u v,0<=u/\u<=(s:Int) - 1->0<=v/\v<=(s:Int) - 1->putS S x y u v=decide (0<=(r.set (y*s+x).toNat (k:Int)).getD (v*s+u).toNat 0):=by
 intro u v f hv;obtain ⟨i0,B⟩:=ve i m q t;obtain ⟨A,C⟩:=ve (x:=u) (y:=v) (W:=(s:Int)) (H:=(s:Int)) f.1 om hv.1 om
 have c:(y*(s:Int)+x).toNat<r.length:=by
  rw [hl];have e:((s*s:Nat):Int)=(s:Int)*(s:Int):=sI;omega
 rw [kw _ _ _ _ c];unfold putS;by_cases e:u=x/\v=y
 obtain ⟨rfl,rfl⟩:=e;rw [if_pos rfl];simp;have g:(y*(s:Int)+x).toNat≠(v*(s:Int)+u).toNat:=fun D=>e (zMt i m f.1 om om);rw [if_neg g,h u v f hv]
 have:(decide (u=x) && decide (v=y))=false:=by
  simp only [Bool.and_eq_false_iff,decide_eq_false_iff_not];by_cases j:u=x
  exact Or.inr (fun z=>e ⟨j,z⟩);exact Or.inl j
 rw [this];simp
theorem zOU {r:List Int} (h:0<=u/\u<=(s:Int) - 1->0<=v/\v<=(s:Int) - 1->b=decide (0<=r.getD (v*s+u).toNat 0)) (hb:b=true):uD s r u v=true:=by
 by_cases c:0<=u/\u<=(s:Int) - 1
 by_cases hv:0<=v/\v<=(s:Int) - 1
 unfold uD;rw [<-h c hv,hb];simp;exact zAM hv;exact zAL c
theorem zME {r:List Int} (h:0<=u/\u<=(s:Int) - 1->0<=v/\v<=(s:Int) - 1->b=decide (0<=r.getD (v*s+u).toNat 0)) (hb:b=false) (c:0<=u/\u<=(s:Int) - 1) (hv:0<=v/\v<=(s:Int) - 1):uD s r u v=false:=by
 unfold uD;rw [<-h c hv,hb,decide_eq_true c,decide_eq_true hv];rfl
def cl (r:List Int):List Int:=r.map (fun v=>if v<0 then 0 else v)
theorem zMw (n:Nat):cl (List.replicate n (-1))=List.replicate n 0:=by unfold cl;rw [List.map_replicate];rfl
theorem zAZ (r:List Int) (i k:Nat):cl (r.set i (k:Int))=(cl r).set i (k:Int):=by
 unfold cl;rw [List.map_set,if_neg om]
theorem zQR {r:List Int} (h: ∀v ∈ r,0<=v):cl r=r:=by
 unfold cl
 conv=>rhs;rw [<-List.map_id r]
 exact List.map_congr_left (fun v hv=>by have:=h v hv;rw [if_neg om];rfl)
theorem zOW (f:0<=u/\u<=(s:Int) - 1) (hv:0<=v/\v<=(s:Int) - 1):false=decide (0<=(xO s 0).r.getD (v*s+u).toNat 0):=by
 obtain ⟨g,i⟩:=ve (x:=u) (y:=v) (W:=(s:Int)) (H:=(s:Int)) f.1 om hv.1 om;have e:((s*s:Nat):Int)=(s:Int)*(s:Int):=sI;have c:(v*(s:Int)+u).toNat<s*s:=om
 have h:(xO s 0).r.getD (v*s+u).toNat 0=-1:=by
  simp only [xO,Ki,List.getD];rw [List.getElem?_replicate,if_pos c];rfl
 rw [h];rfl
theorem zPh (h:zq W H xs=true): ∀v ∈ xs,0<=v:=by
 obtain ⟨_,_,h3,_⟩:=kI rfl h;unfold inR at h3;rw [Yp] at h3;intro v hv;have:=h3 v hv;simp at this;omega
theorem Uq (I:Int) (w:World):Calls prog 62 #[I] w (kP w (yu I)):=by
 by_cases hs:1<=I/\I<=16
 case neg=>
  rw [Jf hs];go_in;go_wp2_with fail;refine (yx _ _ _ _ hs).mono ?_;rintro e w2 ⟨rfl,rfl⟩;go_wp2_with fail;exact bodyPost_ret (v:= .tuple #[.agg ↑Zp, .bool false]) (Jr results62) rfl ⟨none,0,0,rfl,oN,om,nJ⟩
 obtain ⟨s,rfl⟩: ∃s:Nat,I=(s:Int):=⟨I.toNat,om⟩
 have s1:1<=s:=om;have s2:s<=16:=om;rw [Xs s1 s2];obtain ⟨n,hn⟩:=zN (s*s:Nat);have HN:=Jh hn;have G:Hd ((n:Int)=(s:Int)*(s:Int)):=Jh (by rw [hn];simp);have d2:n<=256:=by rw [hn];exact Nat.mul_le_mul s2 s2
 have d5:1<=n:=by rw [hn];exact Nat.mul_le_mul s1 s1
 have HF:=Jh (zAN s s1 s2);have c1:1<=(s:Int)*(s:Int)/\(s:Int)*(s:Int)<=256:=by have:=G.Z;omega
 obtain ⟨d3,c5⟩:=c1;rw [<-HN.Z];clear hn;go_in;go_wp2_with fail;refine (zz _ _ _ _ hs.1 hs.2).mono ?_;rintro e w2 ⟨rfl,rfl⟩;clear hs;go_wp2_with fail
 go_loopw [5] (fun i wr=> ∃(k:Nat) (q:Option Addr) (c:Nat),k<=n/\i=↑k/\OwnA wr (w.heap.size+1+1) q k c (gen k ((fun _=>(-1:Int))))/\Blk wr (w.heap.size+1) 32 #[((s:Int)),((s:Int)), .slice q k c]/\Below (w.heap.size+1) (w.alloc (.cells ↑Zp 32)) wr) (fun i _=>n - (intOf i).toNat)
 case atStart=>exact ⟨0,none,0,nZ,rfl,oN,by first | exact Blk.new _ _ _ | exact Blk.zD _ _ sI,by first | exact nJ | exact bR.alloc sI _⟩
 obtain ⟨k,q,c,hk,rfl,T,O,Y⟩:=hrel;have U:=Jh T;have X:=Jh O;have HW:=Jh Y;obtain ⟨l0,o0,o1,o2⟩:=X.Z.c3;clear T O Y;by_cases b7:k<n
 . have V:(k:Int)<(s:Int)*(s:Int):=by have:=G.Z;omega
   go_wp2_with (at_builtin;refine vH _ rfl (.tmp 29) (.tmp 30) rfl (w.heap.size+1+1) k c q _ rfl (U.Z.alloc _) wr.heap.size ((-1:Int)) rfl (by go_simp) om (oS X.Z.lt) ?_;intro b1 C w5 b2 F;have A:=Jh (jI U.Z F X.Z om);obtain ⟨l5,p0,p1,p2⟩:=A.Z.c3;obtain ⟨f0,f1,f2⟩:=A.Z.f3);have b6:=Jh (vV U.Z F HW.Z om (og X.Z.lt));have D:=Jh b2;clear b2 F;go_roundw
   case rel=>exact ⟨k+1,b1,C,om,by go_num,(by rw [<-jG];exact D.Z.other sI _),by first | exact A.Z.set 2 _ | (have h:=A.Z.set 2 (.slice b1 (k+1) C);simpa using h),b6.Z.setCell sI _⟩
   exact Jm
 have V: ¬(k:Int)<(s:Int)*(s:Int):=by have:=G.Z;omega
 obtain rfl:n=k:=om
 obtain ⟨g,b3,B,b5⟩: ∃g,q=some ⟨g,0,none⟩/\Hd (w.heap.size+1+1<=g)/\Hd (Own wr g n c (xO s 0).r):=by
  rcases U.Z with ⟨_,h,_⟩ | ⟨g,h1,h2,h3⟩
  omega;refine ⟨g,h1,h2,?_⟩
  have e:(xO s 0).r=gen n (fun _=>(-1:Int)):=by
   simp only [xO,Ki];rw [<-HN.Z];refine xk n _ _ sI (fun i hi=>?_);simp [List.getD,hi]
  rw [e];exact h3
 subst b3;clear U;obtain ⟨w5,rfl⟩:=zN (wr:World);have N1:g≠w.heap.size+1:=by have:=B.Z;omega
 go_wp2_with fail
 go_loopw [6,7,8,9,36] (fun x y dx dy i wr=> ∃(k:Nat) (t:Sp),k<=n/\i=↑k/\x=↑t.x/\y=↑t.y/\dx=↑t.dx/\dy=↑t.dy/\Hd (t=xO s k)/\Own wr g n c t.r/\w5.grownBy wr (some g)) (fun _ _ _ _ i _=>n - (intOf i).toNat)
 case atStart=>exact ⟨0,xO s 0,nZ,rfl,rfl,rfl,rfl,rfl,rfl,b5.Z,yR _ _⟩
 obtain ⟨k,t,hk,rfl,rfl,rfl,rfl,rfl,L,T,hg⟩:=hrel;have b4:=Jh (X.Z.grown hg (by intro e;have:=Yd e;have:=B.Z;omega));have f:=Jh T;have m:=Jh hg;clear o0 o1 o2 l0 T hg;obtain ⟨l0,o0,o1,o2⟩:=b4.Z.c3;by_cases b7:k<n
 . obtain ⟨x0,x1,y0,y1,d1,d4,c8,d0,b0⟩:=zIG (s:=s) (t:=t) (by rw [L.Z];exact HF.Z.1 k (oh HN))
   obtain ⟨i0,i1⟩:=ve x0 x1 y0 y1;have i2:(t.y*(s:Int)+t.x).toNat<n:=by have:=G.Z;omega
   have i3:t.y*(s:Int)+t.x<(n:Int):=by have:=G.Z;omega
   have g2:=f.Z.cell i2;have g3:=f.Z.frozen (t.y*(s:Int)+t.x).toNat;have c4:=Jh b0;clear b0 i1;by_cases z:0<=t.x+t.dx/\t.x+t.dx<=(s:Int) - 1
   . by_cases hv:0<=t.y+t.dy/\t.y+t.dy<=(s:Int) - 1
     . obtain ⟨j0,j1⟩:=ve (x:=t.x+t.dx) (y:=t.y+t.dy) (W:=(s:Int)) (H:=(s:Int)) z.1 om hv.1 om
       have j2:((t.y+t.dy)*(s:Int)+(t.x+t.dx)).toNat<n:=by have:=G.Z;omega
       have j3:(t.y+t.dy)*(s:Int)+(t.x+t.dx)<(n:Int):=by have:=G.Z;omega
       have g4:=f.Z.cell j2
       have b8:(t.y*(s:Int)+t.x).toNat≠((t.y+t.dy)*(s:Int)+(t.x+t.dx)).toNat:=by
        have e:(t.y+t.dy)*(s:Int)=t.y*(s:Int)+t.dy*(s:Int):=Int.add_mul _ _ _;have:=c4.Z;omega
       have R:(t.r.set (t.y*(s:Int)+t.x).toNat (k:Int)).getD ((t.y+t.dy)*(s:Int)+(t.x+t.dx)).toNat 0=t.r.getD ((t.y+t.dy)*(s:Int)+(t.x+t.dx)).toNat 0:=by
        rw [kw _ _ _ _ (by rw [f.Z.len];exact i2),if_neg b8]
       have M:=Jh (zOV z hv R);clear R j1;by_cases hr:0<=t.r.getD ((t.y+t.dy)*(s:Int)+(t.x+t.dx)).toNat 0
       . have j:=Jh (M.Z.trans (decide_eq_true hr))
         simp only [List.getD] at hr;go_wp2_with fail;refine (zz _ _ _ _ z.1 z.2).mono ?_;rintro e J ⟨rfl,rfl⟩;go_wp2_with fail;refine (zz _ _ _ _ hv.1 hv.2).mono ?_;rintro e J ⟨rfl,rfl⟩;go_wp2_with fail;go_roundw
         case rel=>
          have E:=ui j.Z;refine ⟨k+1,jr s k t,om,by go_num,?_,?_,?_,?_,?_,?_,yO m.Z _⟩
          . rw [E];go_num
          rw [E];rw [E];rw [E];rw [L.Z];rfl;rw [E];exact f.Z.set _ _
         exact Jm
       have j:=Jh (M.Z.trans (decide_eq_false hr));simp only [List.getD] at hr;go_wp2_with fail;refine (zz _ _ _ _ z.1 z.2).mono ?_;rintro e J ⟨rfl,rfl⟩;go_wp2_with fail;refine (zz _ _ _ _ hv.1 hv.2).mono ?_;rintro e J ⟨rfl,rfl⟩;go_wp2_with fail;go_roundw
       case rel=>
        have E:=zDc j.Z;refine ⟨k+1,jr s k t,om,by go_num,?_,?_,?_,?_,?_,?_,yO m.Z _⟩;rw [E];rw [E];rw [E];rw [E];rw [L.Z];rfl;rw [E];exact f.Z.set _ _
       exact Jm
     have j:=Jh (zAM (r:=t.r.set (t.y*(s:Int)+t.x).toNat (k:Int)) (u:=t.x+t.dx) hv);go_wp2_with fail;refine (zz _ _ _ _ z.1 z.2).mono ?_;rintro e J ⟨rfl,rfl⟩;go_wp2_with fail;refine (yx _ _ _ _ hv).mono ?_;rintro e J ⟨rfl,rfl⟩;go_wp2_with fail;go_roundw
     case rel=>
      have E:=ui j.Z;refine ⟨k+1,jr s k t,om,by go_num,?_,?_,?_,?_,?_,?_,yO m.Z _⟩
      . rw [E];go_num
      rw [E];rw [E];rw [E];rw [L.Z];rfl;rw [E];exact f.Z.set _ _
     exact Jm
   have j:=Jh (zAL (r:=t.r.set (t.y*(s:Int)+t.x).toNat (k:Int)) (v:=t.y+t.dy) z);go_wp2_with fail;refine (yx _ _ _ _ z).mono ?_;rintro e J ⟨rfl,rfl⟩;go_wp2_with fail;go_roundw
   case rel=>
    have E:=ui j.Z;refine ⟨k+1,jr s k t,om,by go_num,?_,?_,?_,?_,?_,?_,yO m.Z _⟩
    . rw [E];go_num
    rw [E];rw [E];rw [E];rw [L.Z];rfl;rw [E];exact f.Z.set _ _
   exact Jm
 obtain rfl:n=k:=om;have N:=Jh ((Joins.below_alloc1 w (.cells ↑Zp 32)).trans (HW.Z.mono sI));have c0:=Jh (N.Z.grown m.Z N.Z.size (fun b hb=>by cases hb;have:=B.Z;omega));have KR:=Jh (((Blk.new w 32 ↑Zp).below HW.Z sI).grown m.Z (by intro e;have:=Yd e;have:=B.Z;omega));have D:Hd (Own wr g n c (xO s n).r):=Jh (by rw [<-L.Z];exact f.Z);obtain ⟨r0,r1,r2,r3⟩:=KR.Z.c3;obtain ⟨q0,q1,q2⟩:=KR.Z.f3;go_wp2_with fail
 exact bodyPost_ret (v:= .tuple #[.agg #[s,s, .slice (some ⟨g,0,none⟩) n c], .bool true]) (by simp [results,results62,go_sem,r1,r2,r3]) rfl
  ⟨_,_,_,rfl,OwnA.mk (((D.Z.other (oS B.Z) _).other (oS B.Z) _).other (oS B.Z) _) (oh B),om,
   ((c0.Z.setCell sI _).setCell sI _).setCell sI _⟩
end
end Go.Proofs.YtlenfgdjdianiaaGreatDoor
