/- Facts on which this claim rests, 41. -/
import Derived.Test.YtlenfgdjdianiaaGreatDoorG40
set_option linter.all false
set_option maxHeartbeats 6400000
namespace Go.Proofs.YtlenfgdjdianiaaGreatDoor
open Go.RowKit Tq Go.Proofs.Tryz
variable {B B' cap g n : Nat} {Q : Exit → Act → World → Prop} {a : Act} {ad : Option Addr} {cs : Array Value} {e : Ending} {o : Oper} {ops : Array Oper} {w w' : World} {xs : List Int}
theorem AJ (D:Dsk) (s:ByteArray) (w:World) (hr:RdD w D) (b:vK D) (ha:Cg D) (c:s.size<=1048576) (hL:qZ w):
 Calls prog 8 #[D.val, .string s] w (Jz w (uj D.dat s)):=Ou D s w hr b ha c hL Cn
def TL (F:Dat->Dat × List UInt8):Prop:= ∀d,OkD d->(F d).2.length<=4194304
def uG (w:World) (B:Nat) (ad:Option Addr) (n cap:Nat) (L:List ByteArray):Prop:=w.ownsRow B 9 1 (.slice ad n cap) n (L.map Value.string)
theorem uG.none (w:World) (B:Nat):uG w B none 0 0 []:=⟨sI, .inl ⟨rfl,rfl⟩⟩
theorem uG.len {L:List ByteArray} (h:uG w B ad n cap L):L.length=n:=by
 have:=h.1;simpa using this
theorem uG.block {L:List ByteArray} (h:uG w B ad n cap L): ∀b,zO ad=some b->B<=b/\b<w.heap.size:=by
 intro b hb;rcases h.2 with ⟨h1,_⟩ | ⟨g,c,f,h1,i,hg,_⟩
 obtain ⟨rfl,_⟩:ad=Option.none/\_:=by simpa using h1
 cases hb;obtain ⟨rfl,_⟩:ad=some ⟨g,0,Option.none⟩/\_:=by simpa using h1
 cases hb;refine ⟨i,?_⟩;rcases Nat.lt_or_ge g w with h | h
 exact h;rw [Array.getElem?_eq_none om] at hg;cases hg
theorem uG.keep {L:List ByteArray} (h:uG w B ad n cap L) (hk: ∀b,zO ad=some b->w'.heap[b]? =w.heap[b]?):uG w' B ad n cap L:=by
 obtain ⟨hl,h⟩:=h;refine ⟨hl,?_⟩;rcases h with h | ⟨g,c,f,h1,i,hg,h2⟩
 exact .inl h;obtain ⟨rfl,_⟩:ad=some ⟨g,0,Option.none⟩/\_:=by simpa using h1
 exact .inr ⟨g,c,f,h1,i,(hk g rfl).trans hg,h2⟩
theorem uG.below {L:List ByteArray} (h:uG w B ad n cap L) (hb:Below w w w'):uG w' B ad n cap L:=
 h.keep (fun b c=>hb.block b (h.block b c).2)
theorem uG.alloc {w:World} {B n cap:Nat} {ad:Option Addr} {L:List ByteArray} (h:uG w B ad n cap L) (o:Obj):uG (w.alloc o) B ad n cap L:=h.below (Joins.below_alloc1 w o)
theorem uG.rd {L:List ByteArray} (h:uG w B ad n cap L):RdS w ad L:=by
 intro k hk;have hl:=h.len;have b:=h.block;rcases h.2 with ⟨_,i⟩ | ⟨g,c,f,h1,j,hg,_⟩
 omega;obtain ⟨rfl,rfl⟩:ad=some ⟨g,0,Option.none⟩/\cap=c:=by simpa using h1
 refine ⟨g,0,rfl,(b g rfl).2,?_⟩;have:=World.ownsRow.cellAt (show w.ownsRow B 9 1 (.slice (some ⟨g,0,Option.none⟩) n cap) n (L.map Value.string) from h) k om;rw [Nat.zero_add,this,List.getElem?_map,Ya hk];rfl
theorem Cc (w:World) {rest:List Oper}
 (m:o.guard=none) (s x:Operand) (q:o.op= .call {callee:= .builtin .append,args:=#[s,x],argTypes:=#[50,50]})
 (B n cap:Nat) (ad:Option Addr) (L:List ByteArray) (G:a.eval s= .slice ad n cap) (F:uG w B ad n cap L) (g:Nat) (v:ByteArray) (I:a.eval x= .slice ↑g 1 1)
 (hc:w.cell? g=some (.string v)) (hn:n<=1048576) (D:B<=w.heap.size)
 (hK: ∀f b w',uG w' B f (n+1) b (L++ [v])->w.grownBy w' (zO ad)->wpList prog ops Q rest (a.put o.dst (.slice f (n+1) b)) w'):
 wpList prog ops Q (o::rest) a w:=by
 obtain ⟨i,hi,t,y,z⟩:=info_parts Wd;refine wpList_append_own w m s x 50 q B 9 i (.string ByteArray.empty) 1 16 underlying50 hi t y z (by simp [Value.cells]) om _ n (L.map Value.string) G F ↑g 1 1 [Value.string v] I sI ?_ ?_ (by unfold maxLen;omega) om D ?_;intro j u k
 match j,k with
 | 0,k=>
  simp at k;subst k;rw [show (Addr.mk g 0 none).add 0=↑g by rw [Addr.add_lit],hc]
 | j+1,k=>simp at k
 intro u H;obtain rfl:=List.mem_singleton.1 H;rfl;intro A w' h2 h3 h4
 have E:A≠ .slice none 0 0:=by
  rintro rfl;rcases h2.2 with ⟨_,C⟩ | ⟨g,c,l,h1,_⟩
  omega;cases h1
 obtain ⟨f,b,rfl⟩: ∃f b,A= .slice f (n+1) b:=by
  rcases h2.2 with ⟨_,C⟩ | ⟨g,c,l,h1,_⟩
  omega;exact ⟨_,_,h1⟩
 rw [jO] at h3;exact hK f b w' (by unfold uG;simpa using h2) h3
theorem uG.mono {L:List ByteArray} (h:uG w B ad n cap L) (f:B'<=B):uG w B' ad n cap L:=by
 obtain ⟨hl,h⟩:=h;refine ⟨hl,?_⟩;rcases h with h | ⟨g,c,b,h1,h2,h3⟩
 exact .inl h;exact .inr ⟨g,c,b,h1,Yx f h2,h3⟩
theorem BS (h:OwnA w B ad n cap xs): ∀b,zO ad=some b-> ∃c,w.heap[b]? =some (.cells c 3 (0,0)):=by
 intro b hb;rcases h with ⟨rfl,_⟩ | ⟨g,rfl,_,_,c,hg,_⟩
 cases hb;cases hb;exact ⟨c,hg⟩
theorem yQ.ne_desk {D:Dsk} (h:yQ w B D) (k:Blk w g 35 cs): ∀b,D.blocks b->b≠g:=by
 rintro b hd rfl;have j:w.heap[b]? =some (.cells cs 35 (0,0)):=k
 have q: ∀f T,w.heap[b]? =some (.cells f T (0,0))->T=35:=by
  intro f T e;rw [j] at e;injection e with e
  injection e with e1 e2
  exact e2.symm
 rcases hd with hd | hd | hd | ⟨k,hk,hd⟩
 obtain ⟨c,e⟩:=BS h.p b hd;exact absurd (q _ _ e) dC;obtain ⟨c,e⟩:=BS h.m b hd;exact absurd (q _ _ e) dC;rcases h.s.row with ⟨i,_⟩ | ⟨g,i,_,f,e,_⟩
 rw [i] at hd;cases hd;rw [i] at hd;cases hd;exact absurd (q _ _ e) dC;obtain ⟨c,e⟩:=BS (h.s.ink k (by rw [<-h.s.len];exact hk)) b hd;exact absurd (q _ _ e) dC
theorem ModOut.congr {D:Dsk} {R b:Dat × List UInt8} (h:ModOut w B D R e w') (hr:R=b):ModOut w B D b e w':=by rw [<-hr];exact h
theorem YO (F:Dat->Pic->Dat × List UInt8) (s:ByteArray) (D:Dsk) (w:World) (B:Nat) (b:ModIn w B D)
 (h: ∀k r,D.n=k+1->D.a=some ⟨r,0,none⟩->Calls prog 52 #[D.val, .string s] w (ModOut w B D (F D.dat (pv D.ps k).pic))):
 Calls prog 52 #[D.val, .string s] w (ModOut w B D (xC F D.dat)):=by
 have hl:D.dat.2.2.length=D.n:=by show (zS D.ps).length=D.n;rw [kU];exact b.own.s.len
 by_cases c:D.n=0
 have e:xC F D.dat=(D.dat,Ck):=by unfold xC;rw [if_pos (by rw [hl];exact c)]
 rw [e];exact lC D s w B b c;obtain ⟨k,hk⟩: ∃k,D.n=k+1:=⟨D.n - 1,om⟩
 obtain ⟨r,hr⟩: ∃r,D.a=some ⟨r,0,none⟩:=by
  rcases b.own.s.row with ⟨_,e,_⟩ | ⟨g,e,_⟩
  omega;exact ⟨g,e⟩
 have e:xC F D.dat=F D.dat (pv D.ps k).pic:=by
  unfold xC;rw [if_neg (by rw [hl];exact c),hl,hk,Nat.add_sub_cancel];congr 1;have f:k<D.ps.length:=by rw [b.own.s.len];omega
  show (zS D.ps).getD k xF=_;rw [Yh,Qf D.ps k f];rfl
 rw [e];exact h k r hk hr
section
set_option maxRecDepth 100000
theorem pR (D:Dsk) (w:World) (B:Nat) (c:ModIn w B D):
 Calls prog 20 #[D.val, .string ⟨#[]⟩] w (ModOut w B D (D.dat,[])):=by
 have HIN:=Jh c;clear c;refine ym1 ?_;intro w0 hw0 KA KR HB0 HZ0 HDB;show Calls prog 20 #[.agg ↑D, .string ⟨#[]⟩] w _;go_in;go_upto_region 1 with fail;refine ym3 ?_;clear hw0;intro l0 c0 c1 c2 c3 c4 c5 c6;refine Zt ?_;intro r0 x0 x1 x2 x3 x4 x5 x6 f0 f1 f2 f3 f4 f5 f6;go_wp2_with fail;refine bodyPost_ret (v:= .tuple #[D.val, .string ⟨#[]⟩]) (by simp [results,results20,go_sem,Dsk.val,x0,x1,x2,x3,x4,x5,x6]) rfl ⟨D,by rfl,?_,by rfl,HIN.Z.small,?_⟩;exact XV;exact KeepT.zF (yB HB0.Z om _ _ _ _ _ _ _)
theorem Rt (D:Dsk) (w:World) (B:Nat) (j:ModIn w B D):
 Calls prog 20 #[D.val, .string ⟨#[114,101,118,101,114,115,101]⟩] w (ModOut w B D (kY Qj D.dat)):=by
 have HIN:=Jh j;clear j;refine ym1 ?_;intro w0 hw0 KA KR HB0 HZ0 HDB;show Calls prog 20 #[.agg ↑D, .string ⟨#[114,101,118,101,114,115,101]⟩] w _;go_in;go_upto_region 1 with fail;refine ym3 ?_;clear hw0;intro l0 c0 c1 c2 c3 c4 c5 c6;have q:Hd (kY Qj D.dat=jZ (Qj D.M.pic) true D.dat):=Jh (by have h:=(Cy _).1 HIN.Z.ok;exact (ZR (f:=Qj) (d:=D.dat) (p:=Qj D.M.pic) rfl (zCR h.m)).symm);go_upto_region 5 with fail;refine zDU ?_;intro MK;refine yA 7 (fun v=>JC v w D) zK (MK.Z _ bR.drew) ?_;intro hHeld;clear c0 c1 c2 c3 c4 c5 c6;refine Ud ?_;refine zf 3 (fun K hK=>?_);go_simp
 ((refine (Bt D.M.W D.M.H D.M.a D.M.n D.M.c D.M.ink _ HIN.Z.own.m.len ((HIN.Z.own.m.rd.below HB0.Z).below bR.drew) (og HIN.Z.small.m)).mono ?_);rintro e v1 ⟨a1,n1,k1,rfl,ho1,l,hq1⟩)
 refine zDi ?_;clear hK K hHeld;intro HB1 HQ1 hHeld hin1 hq9;refine zf 4 (fun K hK=>?_);go_simp;refine (show Calls prog _ _ _ (ModOut _ B D (jZ (Qj D.M.pic) true D.dat)) from um D ⟨(Za D.M.W D.M.H D.M.ink).W,(Za D.M.W D.M.H D.M.ink).H,a1,n1,k1,(Za D.M.W D.M.H D.M.ink).ranks⟩ true v1 B hin1 (HQ1.Z.mono (oT HIN.Z.base HB0.Z.size)) (fun b hb h=>by have:=HDB.Z b h;have s:w0.heap.size<=b:=(hq9 b hb).1;have:=HZ0.Z;omega) l).mono ?_;refine zDP ?_;clear hK K hHeld;intro v9 E9 HO9 HD9 HS9 HK9 KA9 KR9 r0 x0 x1 x2 x3 x4 x5 x6 f0 f1 f2 f3 f4 f5 f6 hS9 hHeld;refine Rz ?_;clear hHeld;refine Le ?_;(try go_simp);go_wp2_with fail;refine bodyPost_ret (v:= .tuple #[E9.val, .string ⟨(jZ (Qj D.M.pic) true D.dat).2.toArray⟩]) (by simp [results,results20,go_sem,Dsk.val,x0,x1,x2,x3,x4,x5,x6]) rfl ⟨E9,by first | rfl | rw [q.Z],?_,by first | exact HD9.Z | (rw [q.Z];exact HD9.Z),HS9.Z,?_⟩;exact qL;exact yt6
theorem Tx (D:Dsk) (w:World) (B:Nat) (j:ModIn w B D):
 Calls prog 20 #[D.val, .string ⟨#[115,99,114,101,101,110]⟩] w (ModOut w B D (xu vJ D.dat)):=by
 have HIN:=Jh j;clear j;refine ym1 ?_;intro w0 hw0 KA KR HB0 HZ0 HDB;show Calls prog 20 #[.agg ↑D, .string ⟨#[115,99,114,101,101,110]⟩] w _;go_in;go_upto_region 1 with fail;refine ym3 ?_;clear hw0;intro l0 c0 c1 c2 c3 c4 c5 c6;have q:Hd (xu vJ D.dat=modPlate (vJ D.dat).1 (vJ D.dat).2 D.dat):=Jh (YD (f:=vJ) (d:=D.dat) (p:=(vJ D.dat).1) (s:=(vJ D.dat).2) rfl).symm;go_upto_region 7 with fail;refine zDU ?_;intro MK;refine yA 9 (fun v=>JC v w D) zK (MK.Z _ bR.drew) ?_;intro hHeld;clear c0 c1 c2 c3 c4 c5 c6;refine Ud ?_;refine tTs 3 ?_;refine tTs 4 ?_;refine zf 5 (fun K hK=>?_);go_simp
 ((refine (Bu D.M.W D.M.H D.M.a D.M.n D.M.c D.M.ink D.P.W D.P.H D.P.a D.P.n D.P.c D.P.ink _ HIN.Z.own.m.len ((HIN.Z.own.m.rd.below HB0.Z).below bR.drew) (og HIN.Z.small.m) HIN.Z.own.p.len ((HIN.Z.own.p.rd.below HB0.Z).below bR.drew) (og HIN.Z.small.p)).mono ?_);rintro e v1 ⟨a1,n1,k1,rfl,ho1,l,hq1⟩)
 refine zDi ?_;clear hK K hHeld;intro HB1 HQ1 hHeld hin1 hq9;refine zf 6 (fun K hK=>?_);go_simp;refine (show Calls prog _ _ _ (ModOut _ B D (modPlate (vJ D.dat).1 (vJ D.dat).2 D.dat)) from spec_l8Plate D ⟨(vJ D.dat).1.W,(vJ D.dat).1.H,a1,n1,k1,(vJ D.dat).1.ink⟩ (vJ D.dat).2 v1 B hin1 (HQ1.Z.mono (oT HIN.Z.base HB0.Z.size)) (fun b hb h=>by have:=HDB.Z b h;have t:w0.heap.size<=b:=(hq9 b hb).1;have:=HZ0.Z;omega) l).mono ?_;refine zDP ?_;clear hK K hHeld;intro v9 E9 HO9 HD9 HS9 HK9 KA9 KR9 r0 x0 x1 x2 x3 x4 x5 x6 f0 f1 f2 f3 f4 f5 f6 hS9 hHeld;refine tTs 7 ?_;refine tTs 8 ?_;refine zf 9 (fun K hK=>?_);refine ym43 ?_;clear hK K hHeld;refine zf 10 (fun K hK=>?_);refine ym14 ?_;clear hK K;refine yG zK ?_ _;(try go_simp);go_wp2_with fail;refine bodyPost_ret (v:= .tuple #[E9.val, .string ⟨(modPlate (vJ D.dat).1 (vJ D.dat).2 D.dat).2.toArray⟩]) (by simp [results,results20,go_sem,Dsk.val,x0,x1,x2,x3,x4,x5,x6]) rfl ⟨E9,by first | rfl | rw [q.Z],?_,by first | exact HD9.Z | (rw [q.Z];exact HD9.Z),HS9.Z,?_⟩;exact qL;exact yt6
theorem pO (D:Dsk) (w:World) (B:Nat) (f:ModIn w B D):
 Calls prog 20 #[D.val, .string ⟨#[103,114,111,119]⟩] w (ModOut w B D (xC (kQ (uX 1)) D.dat)):=by
 have HIN:=Jh f;clear f;refine ym1 ?_;intro w0 hw0 KA KR HB0 HZ0 HDB;show Calls prog 20 #[.agg ↑D, .string ⟨#[103,114,111,119]⟩] w _;go_in;go_upto_region 1 with fail;refine ym3 ?_;clear hw0;intro l0 c0 c1 c2 c3 c4 c5 c6;go_wp2_with fail;have c:ModIn w0 B D:=HIN.Z.below HB0.Z;refine (YO (kQ (uX 1)) ⟨#[103,114,111,119]⟩ D w0 B c (fun k r hk hr=>iw D k r w0 B c hk hr)).mono ?_;refine ym5 ?_;intro v9 E9 HO9 HD9 HS9 HK9 KA9 KR9 r0 x0 x1 x2 x3 x4 x5 x6 f0 f1 f2 f3 f4 f5 f6;go_wp2_with fail;refine bodyPost_ret (v:= .tuple #[E9.val, .string ⟨(xC (kQ (uX 1)) D.dat).2.toArray⟩]) (by simp [results,results20,go_sem,Dsk.val,x0,x1,x2,x3,x4,x5,x6]) rfl ⟨E9,by first | rfl | rw [ER.Z],?_,by first | exact HD9.Z | (rw [ER.Z];exact HD9.Z),HS9.Z,?_⟩;exact qL;exact yt6
theorem Tz (D:Dsk) (w:World) (B:Nat) (f:ModIn w B D):
 Calls prog 20 #[D.val, .string ⟨#[115,104,114,105,110,107]⟩] w (ModOut w B D (xC (kQ (uX 5)) D.dat)):=by
 have HIN:=Jh f;clear f;refine ym1 ?_;intro w0 hw0 KA KR HB0 HZ0 HDB;show Calls prog 20 #[.agg ↑D, .string ⟨#[115,104,114,105,110,107]⟩] w _;go_in;go_upto_region 1 with fail;refine ym3 ?_;clear hw0;intro l0 c0 c1 c2 c3 c4 c5 c6;go_wp2_with fail;have c:ModIn w0 B D:=HIN.Z.below HB0.Z;refine (YO (kQ (uX 5)) ⟨#[115,104,114,105,110,107]⟩ D w0 B c (fun k r hk hr=>Sq D k r w0 B c hk hr)).mono ?_;refine ym5 ?_;intro v9 E9 HO9 HD9 HS9 HK9 KA9 KR9 r0 x0 x1 x2 x3 x4 x5 x6 f0 f1 f2 f3 f4 f5 f6;go_wp2_with fail;refine bodyPost_ret (v:= .tuple #[E9.val, .string ⟨(xC (kQ (uX 5)) D.dat).2.toArray⟩]) (by simp [results,results20,go_sem,Dsk.val,x0,x1,x2,x3,x4,x5,x6]) rfl ⟨E9,by first | rfl | rw [ER.Z],?_,by first | exact HD9.Z | (rw [ER.Z];exact HD9.Z),HS9.Z,?_⟩;exact qL;exact yt6
theorem Tw (D:Dsk) (w:World) (B:Nat) (f:ModIn w B D):
 Calls prog 20 #[D.val, .string ⟨#[109,105,114,114,111,114]⟩] w (ModOut w B D (xC (kQ Ko) D.dat)):=by
 have HIN:=Jh f;clear f;refine ym1 ?_;intro w0 hw0 KA KR HB0 HZ0 HDB;show Calls prog 20 #[.agg ↑D, .string ⟨#[109,105,114,114,111,114]⟩] w _;go_in;go_upto_region 1 with fail;refine ym3 ?_;clear hw0;intro l0 c0 c1 c2 c3 c4 c5 c6;go_wp2_with fail;have c:ModIn w0 B D:=HIN.Z.below HB0.Z;refine (YO (kQ Ko) ⟨#[109,105,114,114,111,114]⟩ D w0 B c (fun k r hk hr=>Sn D k r w0 B c hk hr)).mono ?_;refine ym5 ?_;intro v9 E9 HO9 HD9 HS9 HK9 KA9 KR9 r0 x0 x1 x2 x3 x4 x5 x6 f0 f1 f2 f3 f4 f5 f6;go_wp2_with fail;refine bodyPost_ret (v:= .tuple #[E9.val, .string ⟨(xC (kQ Ko) D.dat).2.toArray⟩]) (by simp [results,results20,go_sem,Dsk.val,x0,x1,x2,x3,x4,x5,x6]) rfl ⟨E9,by first | rfl | rw [ER.Z],?_,by first | exact HD9.Z | (rw [ER.Z];exact HD9.Z),HS9.Z,?_⟩;exact qL;exact yt6
theorem pJ (D:Dsk) (w:World) (B:Nat) (f:ModIn w B D):
 Calls prog 20 #[D.val, .string ⟨#[100,114,111,112]⟩] w (ModOut w B D (xC (YK) D.dat)):=by
 have HIN:=Jh f;clear f;refine ym1 ?_;intro w0 hw0 KA KR HB0 HZ0 HDB;show Calls prog 20 #[.agg ↑D, .string ⟨#[100,114,111,112]⟩] w _;go_in;go_upto_region 1 with fail;refine ym3 ?_;clear hw0;intro l0 c0 c1 c2 c3 c4 c5 c6;go_wp2_with fail;have c:ModIn w0 B D:=HIN.Z.below HB0.Z;refine (YO (YK) ⟨#[100,114,111,112]⟩ D w0 B c (fun k r hk hr=>iq D k r w0 B c hk hr)).mono ?_;refine ym5 ?_;intro v9 E9 HO9 HD9 HS9 HK9 KA9 KR9 r0 x0 x1 x2 x3 x4 x5 x6 f0 f1 f2 f3 f4 f5 f6;go_wp2_with fail;refine bodyPost_ret (v:= .tuple #[E9.val, .string ⟨(xC (YK) D.dat).2.toArray⟩]) (by simp [results,results20,go_sem,Dsk.val,x0,x1,x2,x3,x4,x5,x6]) rfl ⟨E9,by first | rfl | rw [ER.Z],?_,by first | exact HD9.Z | (rw [ER.Z];exact HD9.Z),HS9.Z,?_⟩;exact qL;exact yt6
theorem pW (D:Dsk) (w:World) (B:Nat) (f:ModIn w B D):
 Calls prog 20 #[D.val, .string ⟨#[115,104,111,119]⟩] w (ModOut w B D (xC (XI) D.dat)):=by
 have HIN:=Jh f;clear f;refine ym1 ?_;intro w0 hw0 KA KR HB0 HZ0 HDB;show Calls prog 20 #[.agg ↑D, .string ⟨#[115,104,111,119]⟩] w _;go_in;go_upto_region 1 with fail;refine ym3 ?_;clear hw0;intro l0 c0 c1 c2 c3 c4 c5 c6;go_wp2_with fail;have c:ModIn w0 B D:=HIN.Z.below HB0.Z;refine (YO (XI) ⟨#[115,104,111,119]⟩ D w0 B c (fun k r hk hr=>lG D k r w0 B c hk hr)).mono ?_;refine ym5 ?_;intro v9 E9 HO9 HD9 HS9 HK9 KA9 KR9 r0 x0 x1 x2 x3 x4 x5 x6 f0 f1 f2 f3 f4 f5 f6;go_wp2_with fail;refine bodyPost_ret (v:= .tuple #[E9.val, .string ⟨(xC (XI) D.dat).2.toArray⟩]) (by simp [results,results20,go_sem,Dsk.val,x0,x1,x2,x3,x4,x5,x6]) rfl ⟨E9,by first | rfl | rw [ER.Z],?_,by first | exact HD9.Z | (rw [ER.Z];exact HD9.Z),HS9.Z,?_⟩;exact qL;exact yt6
theorem pV (D:Dsk) (w:World) (B:Nat) (f:ModIn w B D):
 Calls prog 20 #[D.val, .string ⟨#[114,117,110,115]⟩] w (ModOut w B D (xC (Kq) D.dat)):=by
 have HIN:=Jh f;clear f;refine ym1 ?_;intro w0 hw0 KA KR HB0 HZ0 HDB;show Calls prog 20 #[.agg ↑D, .string ⟨#[114,117,110,115]⟩] w _;go_in;go_upto_region 1 with fail;refine ym3 ?_;clear hw0;intro l0 c0 c1 c2 c3 c4 c5 c6;go_wp2_with fail;have c:ModIn w0 B D:=HIN.Z.below HB0.Z;refine (YO (Kq) ⟨#[114,117,110,115]⟩ D w0 B c (fun k r hk hr=>lF D k r w0 B c hk hr)).mono ?_;refine ym5 ?_;intro v9 E9 HO9 HD9 HS9 HK9 KA9 KR9 r0 x0 x1 x2 x3 x4 x5 x6 f0 f1 f2 f3 f4 f5 f6;go_wp2_with fail;refine bodyPost_ret (v:= .tuple #[E9.val, .string ⟨(xC (Kq) D.dat).2.toArray⟩]) (by simp [results,results20,go_sem,Dsk.val,x0,x1,x2,x3,x4,x5,x6]) rfl ⟨E9,by first | rfl | rw [ER.Z],?_,by first | exact HD9.Z | (rw [ER.Z];exact HD9.Z),HS9.Z,?_⟩;exact qL;exact yt6
theorem pQ (D:Dsk) (w:World) (B:Nat) (f:ModIn w B D):
 Calls prog 20 #[D.val, .string ⟨#[109,101,97,110]⟩] w (ModOut w B D (xC (Kn) D.dat)):=by
 have HIN:=Jh f;clear f;refine ym1 ?_;intro w0 hw0 KA KR HB0 HZ0 HDB;show Calls prog 20 #[.agg ↑D, .string ⟨#[109,101,97,110]⟩] w _;go_in;go_upto_region 1 with fail;refine ym3 ?_;clear hw0;intro l0 c0 c1 c2 c3 c4 c5 c6;go_wp2_with fail;have c:ModIn w0 B D:=HIN.Z.below HB0.Z;refine (YO (Kn) ⟨#[109,101,97,110]⟩ D w0 B c (fun k r hk hr=>iy D k r w0 B c hk hr)).mono ?_;refine ym5 ?_;intro v9 E9 HO9 HD9 HS9 HK9 KA9 KR9 r0 x0 x1 x2 x3 x4 x5 x6 f0 f1 f2 f3 f4 f5 f6;go_wp2_with fail;refine bodyPost_ret (v:= .tuple #[E9.val, .string ⟨(xC (Kn) D.dat).2.toArray⟩]) (by simp [results,results20,go_sem,Dsk.val,x0,x1,x2,x3,x4,x5,x6]) rfl ⟨E9,by first | rfl | rw [ER.Z],?_,by first | exact HD9.Z | (rw [ER.Z];exact HD9.Z),HS9.Z,?_⟩;exact qL;exact yt6
theorem Tv (D:Dsk) (w:World) (B:Nat) (f:ModIn w B D):
 Calls prog 20 #[D.val, .string ⟨#[99,111,117,110,116,115]⟩] w (ModOut w B D (xC (Zj) D.dat)):=by
 have HIN:=Jh f;clear f;refine ym1 ?_;intro w0 hw0 KA KR HB0 HZ0 HDB;show Calls prog 20 #[.agg ↑D, .string ⟨#[99,111,117,110,116,115]⟩] w _;go_in;go_upto_region 1 with fail;refine ym3 ?_;clear hw0;intro l0 c0 c1 c2 c3 c4 c5 c6;go_wp2_with fail;have c:ModIn w0 B D:=HIN.Z.below HB0.Z;refine (YO (Zj) ⟨#[99,111,117,110,116,115]⟩ D w0 B c (fun k r hk hr=>Sm D k r w0 B c hk hr)).mono ?_;refine ym5 ?_;intro v9 E9 HO9 HD9 HS9 HK9 KA9 KR9 r0 x0 x1 x2 x3 x4 x5 x6 f0 f1 f2 f3 f4 f5 f6;go_wp2_with fail;refine bodyPost_ret (v:= .tuple #[E9.val, .string ⟨(xC (Zj) D.dat).2.toArray⟩]) (by simp [results,results20,go_sem,Dsk.val,x0,x1,x2,x3,x4,x5,x6]) rfl ⟨E9,by first | rfl | rw [ER.Z],?_,by first | exact HD9.Z | (rw [ER.Z];exact HD9.Z),HS9.Z,?_⟩;exact qL;exact yt6
theorem eB (D:Dsk) (w:World) (B:Nat) (f:ModIn w B D):
 Calls prog 20 #[D.val, .string ⟨#[101,114,114,111,114]⟩] w (ModOut w B D (xC (YX) D.dat)):=by
 have HIN:=Jh f;clear f;refine ym1 ?_;intro w0 hw0 KA KR HB0 HZ0 HDB;show Calls prog 20 #[.agg ↑D, .string ⟨#[101,114,114,111,114]⟩] w _;go_in;go_upto_region 1 with fail;refine ym3 ?_;clear hw0;intro l0 c0 c1 c2 c3 c4 c5 c6;go_wp2_with fail;have c:ModIn w0 B D:=HIN.Z.below HB0.Z;refine (YO (YX) ⟨#[101,114,114,111,114]⟩ D w0 B c (fun k r hk hr=>bD D k r w0 B c hk hr)).mono ?_;refine ym5 ?_;intro v9 E9 HO9 HD9 HS9 HK9 KA9 KR9 r0 x0 x1 x2 x3 x4 x5 x6 f0 f1 f2 f3 f4 f5 f6;go_wp2_with fail;refine bodyPost_ret (v:= .tuple #[E9.val, .string ⟨(xC (YX) D.dat).2.toArray⟩]) (by simp [results,results20,go_sem,Dsk.val,x0,x1,x2,x3,x4,x5,x6]) rfl ⟨E9,by first | rfl | rw [ER.Z],?_,by first | exact HD9.Z | (rw [ER.Z];exact HD9.Z),HS9.Z,?_⟩;exact qL;exact yt6
end
def bM:List (List UInt8):=[[],[114,101,118,101,114,115,101],[115,99,114,101,101,110],[103,114,111,119],[115,104,114,105,110,107],[109,105,114,114,111,114],[100,114,111,112],[115,104,111,119],[114,117,110,115],[109,101,97,110],[99,111,117,110,116,115],[101,114,114,111,114]]
set_option maxRecDepth 100000 in
theorem pX (D:Dsk) (s:ByteArray) (w:World) (B:Nat) (f:ModIn w B D) (c:s.toList ∉ bM):
 Calls prog 20 #[D.val, .string s] w (ModOut w B D (D.dat,qR)):=by
 have HIN:=Jh f;clear f;refine ym1 ?_;intro w0 hw0 KA KR HB0 HZ0 HDB;show Calls prog 20 #[.agg ↑D, .string s] w _;go_in;go_upto_region 1 with fail;refine ym3 ?_;clear hw0;intro l0 c0 c1 c2 c3 c4 c5 c6;have k: ¬s.toList=[]:=fun e=>c (by rw [e];decide);have z:(s.toList==[])=false:=by rw [beq_eq_false_iff_ne];exact k
 have n1: ¬s.toList=[114,101,118,101,114,115,101]:=fun e=>c (by rw [e];decide);have A:(s.toList==[114,101,118,101,114,115,101])=false:=by rw [beq_eq_false_iff_ne];exact n1
 have n2: ¬s.toList=[115,99,114,101,101,110]:=fun e=>c (by rw [e];decide);have C:(s.toList==[115,99,114,101,101,110])=false:=by rw [beq_eq_false_iff_ne];exact n2
 have n3: ¬s.toList=[103,114,111,119]:=fun e=>c (by rw [e];decide);have E:(s.toList==[103,114,111,119])=false:=by rw [beq_eq_false_iff_ne];exact n3
 have n4: ¬s.toList=[115,104,114,105,110,107]:=fun e=>c (by rw [e];decide);have F:(s.toList==[115,104,114,105,110,107])=false:=by rw [beq_eq_false_iff_ne];exact n4
 have q: ¬s.toList=[109,105,114,114,111,114]:=fun e=>c (by rw [e];decide);have H:(s.toList==[109,105,114,114,111,114])=false:=by rw [beq_eq_false_iff_ne];exact q
 have t: ¬s.toList=[100,114,111,112]:=fun e=>c (by rw [e];decide);have I:(s.toList==[100,114,111,112])=false:=by rw [beq_eq_false_iff_ne];exact t
 have u: ¬s.toList=[115,104,111,119]:=fun e=>c (by rw [e];decide);have J:(s.toList==[115,104,111,119])=false:=by rw [beq_eq_false_iff_ne];exact u
 have x: ¬s.toList=[114,117,110,115]:=fun e=>c (by rw [e];decide);have L:(s.toList==[114,117,110,115])=false:=by rw [beq_eq_false_iff_ne];exact x
 have y: ¬s.toList=[109,101,97,110]:=fun e=>c (by rw [e];decide);have M:(s.toList==[109,101,97,110])=false:=by rw [beq_eq_false_iff_ne];exact y
 have i: ¬s.toList=[99,111,117,110,116,115]:=fun e=>c (by rw [e];decide);have l:(s.toList==[99,111,117,110,116,115])=false:=by rw [beq_eq_false_iff_ne];exact i
 have j: ¬s.toList=[101,114,114,111,114]:=fun e=>c (by rw [e];decide);have m:(s.toList==[101,114,114,111,114])=false:=by rw [beq_eq_false_iff_ne];exact j
 have N:s.toList.isEmpty=false:=by
  cases h:s.toList with
  | nil=>exact absurd h k
  | cons a b=>rfl
 clear c;refine Zt ?_;intro r0 x0 x1 x2 x3 x4 x5 x6 f0 f1 f2 f3 f4 f5 f6;go_wp2_with fail;refine bodyPost_ret (v:= .tuple #[D.val, .string ⟨#[119,104,97,116]⟩]) (by simp [results,results20,go_sem,Dsk.val,x0,x1,x2,x3,x4,x5,x6]) rfl ⟨D,by rfl,?_,by rfl,HIN.Z.small,?_⟩;exact XV;exact KeepT.zF (yB HB0.Z om _ _ _ _ _ _ _)
theorem bf: ∀l,l ∈ Us->(∀c,c ∈ l->c.toNat≠32)->l ∈ bM:=dC
noncomputable def LJ (l:List UInt8) (d:Dat):Dat × List UInt8:=if l=[] then (d,[]) else match wh l with | some F=>F d | none=>(d,qR)
theorem Ti (D:Dsk) (s:ByteArray) (w:World) (B:Nat) (b:ModIn w B D) (f: ∀c,c ∈ s.toList->c.toNat≠32):
 Calls prog 20 #[D.val, .string s] w (ModOut w B D (LJ s.toList D.dat)):=by
 by_cases hm:s.toList ∈ bM
 have i:s=⟨s.toList.toArray⟩:=ByteArray.ext (Array.toList_inj.1 (by rw [Yf]));obtain ⟨l,hl⟩: ∃l,s.toList=l:=⟨_,rfl⟩
 rw [hl] at hm i⊢;subst i;clear hl f;unfold bM at hm;simp only [List.mem_cons,List.not_mem_nil,or_false] at hm;rcases hm with rfl | rfl | rfl | rfl | rfl | rfl | rfl | rfl | rfl | rfl | rfl | rfl
 exact pR D w B b;exact Rt D w B b;exact Tx D w B b;exact pO D w B b;exact Tz D w B b;exact Tw D w B b;exact pJ D w B b;exact pW D w B b;exact pV D w B b;exact pQ D w B b;exact Tv D w B b;exact eB D w B b;refine (pX D s w B b hm).mono (fun e w' h=>h.congr ?_);unfold LJ;rw [if_neg (fun e=>hm (by rw [e];decide)),Qg (fun hp=>hm (bf _ hp f))]
section
set_option maxRecDepth 100000
theorem Ih (D:Dsk) (w:World) (B:Nat) (j:ModIn w B D):
 Calls prog 21 #[D.val, .string ⟨#[115,116,101,105,110]⟩, .string ⟨#[108,101,102,116]⟩] w (ModOut w B D (xu (xI xQ false) D.dat)):=by
 have HIN:=Jh j;clear j;refine ym1 ?_;intro w0 hw0 KA KR HB0 HZ0 HDB;show Calls prog 21 #[.agg ↑D, .string ⟨#[115,116,101,105,110]⟩, .string ⟨#[108,101,102,116]⟩] w _;go_in;go_upto_region 1 with fail;refine ym3 ?_;clear hw0;intro l0 c0 c1 c2 c3 c4 c5 c6;have m:Hd (xu (xI xQ false) D.dat=modPlate (xI xQ false D.dat).1 (xI xQ false D.dat).2 D.dat):=Jh (YD (f:=xI xQ false) (d:=D.dat) (p:=(xI xQ false D.dat).1) (s:=(xI xQ false D.dat).2) rfl).symm;have BB:Hd (yg (jd xQ D.P.W D.P.H D.P.ink false).2.1):=Jh ((Cn HIN.Z.ok).stein false);have A:Hd ((xI xQ false D.dat).2=Lib.itoa (jd xQ D.P.W D.P.H D.P.ink false).2.1):=Jh (by unfold xI;exact Xe _);clear c0 c1 c2 c3 c4 c5 c6;go_wp2_with fail;refine (Zb _).mono ?_;rintro e w1 ⟨g1,rfl,_,z,hb⟩;have q:=Jh hb;clear hb z;go_wp2_with fail;refine (Vg _).mono ?_;rintro e w2 ⟨g2,rfl,_,l,hb⟩;have HB2:=Jh (zL q.Z hb);have x:=Jh l;clear hb l;have y:=Jh (KA.Z.zA HB2.Z);obtain ⟨l0,c0,c1,c2,c3,c4,c5,c6⟩:=y.Z.c7;go_wp2_with fail;refine (qj ↑g2 4 4 xQ D.P.W D.P.H D.P.a D.P.n D.P.c D.P.ink false _ rfl x.Z.rd om nI HIN.Z.own.p.len ((HIN.Z.own.p.rd.below HB0.Z).below HB2.Z) (og HIN.Z.small.p)).mono ?_;rintro e w3 ⟨a1,n1,k1,rfl,ho,hn1,hb⟩;obtain ⟨R,hR⟩: ∃R,jd xQ D.P.W D.P.H D.P.ink false=R:=⟨_,rfl⟩
 have t:Hd (xI xQ false D.dat=(R.1,Lib.itoa R.2.1)):=Jh (by rw [<-hR];exact Prod.ext rfl A.Z);refine eX ?_;clear hR A hb l0 c0 c1 c2 c3 c4 c5 c6 ho BB;intro BB w4 hw4 HQ4 HQB KQ4 HB4 HZ4 HZ3;go_upto_region 7 with fail;rw [<-hw4];clear hw4;refine ym8 ?_;intro KA4 KR4 l0 k0' MK hHeld K hK
 ((refine (uT R.2.1 _ BB.Z).mono ?_);rintro e v1 ⟨rfl,hq1⟩)
 refine eY ?_;clear hK K hHeld;intro HB1v hHeld HBV hin1 hq9 hz4;have C:Hd (xu (xI xQ false) D.dat=modPlate R.1 (Lib.itoa R.2.1) D.dat):=Jh (by rw [m.Z,t.Z]);refine ym4 ?_;clear hHeld;intro v9 E9 HO9 HD9 HS9 HK9 KA9 KR9 KQ9 r0 x0 x1 x2 x3 x4 x5 x6 f0 f1 f2 f3 f4 f5 f6 hS9 hHeld;refine Rz ?_;clear hHeld;refine Le ?_;(try go_simp);go_wp2_with fail;refine bodyPost_ret (v:= .tuple #[E9.val, .string ⟨(modPlate R.1 (Lib.itoa R.2.1) D.dat).2.toArray⟩]) (by simp [results,results21,go_sem,Dsk.val,x0,x1,x2,x3,x4,x5,x6]) rfl ⟨E9,by first | rfl | rw [C.Z],?_,by first | exact HD9.Z | (rw [C.Z];exact HD9.Z),HS9.Z,?_⟩;exact qL;exact yt6
theorem Ig (D:Dsk) (w:World) (B:Nat) (j:ModIn w B D):
 Calls prog 21 #[D.val, .string ⟨#[115,116,101,105,110]⟩, .string ⟨#[98,111,116,104]⟩] w (ModOut w B D (xu (xI xQ true) D.dat)):=by
 have HIN:=Jh j;clear j;refine ym1 ?_;intro w0 hw0 KA KR HB0 HZ0 HDB;show Calls prog 21 #[.agg ↑D, .string ⟨#[115,116,101,105,110]⟩, .string ⟨#[98,111,116,104]⟩] w _;go_in;go_upto_region 1 with fail;refine ym3 ?_;clear hw0;intro l0 c0 c1 c2 c3 c4 c5 c6;have m:Hd (xu (xI xQ true) D.dat=modPlate (xI xQ true D.dat).1 (xI xQ true D.dat).2 D.dat):=Jh (YD (f:=xI xQ true) (d:=D.dat) (p:=(xI xQ true D.dat).1) (s:=(xI xQ true D.dat).2) rfl).symm;have BB:Hd (yg (jd xQ D.P.W D.P.H D.P.ink true).2.1):=Jh ((Cn HIN.Z.ok).stein true);have A:Hd ((xI xQ true D.dat).2=Lib.itoa (jd xQ D.P.W D.P.H D.P.ink true).2.1):=Jh (by unfold xI;exact Xe _);clear c0 c1 c2 c3 c4 c5 c6;go_wp2_with fail;refine (Zb _).mono ?_;rintro e w1 ⟨g1,rfl,_,z,hb⟩;have q:=Jh hb;clear hb z;go_wp2_with fail;refine (Vg _).mono ?_;rintro e w2 ⟨g2,rfl,_,l,hb⟩;have HB2:=Jh (zL q.Z hb);have x:=Jh l;clear hb l;have y:=Jh (KA.Z.zA HB2.Z);obtain ⟨l0,c0,c1,c2,c3,c4,c5,c6⟩:=y.Z.c7;go_wp2_with fail;refine (qj ↑g2 4 4 xQ D.P.W D.P.H D.P.a D.P.n D.P.c D.P.ink true _ rfl x.Z.rd om nI HIN.Z.own.p.len ((HIN.Z.own.p.rd.below HB0.Z).below HB2.Z) (og HIN.Z.small.p)).mono ?_;rintro e w3 ⟨a1,n1,k1,rfl,ho,hn1,hb⟩;obtain ⟨R,hR⟩: ∃R,jd xQ D.P.W D.P.H D.P.ink true=R:=⟨_,rfl⟩
 have t:Hd (xI xQ true D.dat=(R.1,Lib.itoa R.2.1)):=Jh (by rw [<-hR];exact Prod.ext rfl A.Z);refine eX ?_;clear hR A hb l0 c0 c1 c2 c3 c4 c5 c6 ho BB;intro BB w4 hw4 HQ4 HQB KQ4 HB4 HZ4 HZ3;go_upto_region 7 with fail;rw [<-hw4];clear hw4;refine ym8 ?_;intro KA4 KR4 l0 k0' MK hHeld K hK
 ((refine (uT R.2.1 _ BB.Z).mono ?_);rintro e v1 ⟨rfl,hq1⟩)
 refine eY ?_;clear hK K hHeld;intro HB1v hHeld HBV hin1 hq9 hz4;have C:Hd (xu (xI xQ true) D.dat=modPlate R.1 (Lib.itoa R.2.1) D.dat):=Jh (by rw [m.Z,t.Z]);refine ym4 ?_;clear hHeld;intro v9 E9 HO9 HD9 HS9 HK9 KA9 KR9 KQ9 r0 x0 x1 x2 x3 x4 x5 x6 f0 f1 f2 f3 f4 f5 f6 hS9 hHeld;refine Rz ?_;clear hHeld;refine Le ?_;(try go_simp);go_wp2_with fail;refine bodyPost_ret (v:= .tuple #[E9.val, .string ⟨(modPlate R.1 (Lib.itoa R.2.1) D.dat).2.toArray⟩]) (by simp [results,results21,go_sem,Dsk.val,x0,x1,x2,x3,x4,x5,x6]) rfl ⟨E9,by first | rfl | rw [C.Z],?_,by first | exact HD9.Z | (rw [C.Z];exact HD9.Z),HS9.Z,?_⟩;exact qL;exact yt6
theorem Ie (D:Dsk) (w:World) (B:Nat) (q:ModIn w B D):
 Calls prog 21 #[D.val, .string ⟨#[112,108,97,105,110]⟩, .string ⟨#[108,101,102,116]⟩] w (ModOut w B D (xu (xI xP false) D.dat)):=by
 have HIN:=Jh q;clear q;refine ym1 ?_;intro w0 hw0 KA KR HB0 HZ0 HDB;show Calls prog 21 #[.agg ↑D, .string ⟨#[112,108,97,105,110]⟩, .string ⟨#[108,101,102,116]⟩] w _;go_in;go_upto_region 1 with fail;refine ym3 ?_;clear hw0;intro l0 c0 c1 c2 c3 c4 c5 c6;have x:Hd (xu (xI xP false) D.dat=modPlate (xI xP false D.dat).1 (xI xP false D.dat).2 D.dat):=Jh (YD (f:=xI xP false) (d:=D.dat) (p:=(xI xP false D.dat).1) (s:=(xI xP false D.dat).2) rfl).symm;have BB:Hd (yg (jd xP D.P.W D.P.H D.P.ink false).2.1):=Jh ((Cn HIN.Z.ok).plain false);have C:Hd ((xI xP false D.dat).2=Lib.itoa (jd xP D.P.W D.P.H D.P.ink false).2.1):=Jh (by unfold xI;exact Xe _);clear c0 c1 c2 c3 c4 c5 c6;go_wp2_with fail;refine (Zb _).mono ?_;rintro e w1 ⟨g1,rfl,_,j,hb⟩;have l:=Jh hb;obtain ⟨g2,m⟩:=zN g1;rw [<-m] at j⊢;obtain ⟨w2,t⟩:=zN w1;rw [<-t] at l j⊢;have HB2:=l;have z:=Jh j;clear hb j m t;have A:=Jh (KA.Z.zA HB2.Z);obtain ⟨l0,c0,c1,c2,c3,c4,c5,c6⟩:=A.Z.c7;go_wp2_with fail;refine (qj ↑g2 1 1 xP D.P.W D.P.H D.P.a D.P.n D.P.c D.P.ink false _ rfl z.Z.rd om nI HIN.Z.own.p.len ((HIN.Z.own.p.rd.below HB0.Z).below HB2.Z) (og HIN.Z.small.p)).mono ?_;rintro e w3 ⟨a1,n1,k1,rfl,ho,hn1,hb⟩;obtain ⟨R,hR⟩: ∃R,jd xP D.P.W D.P.H D.P.ink false=R:=⟨_,rfl⟩
 have y:Hd (xI xP false D.dat=(R.1,Lib.itoa R.2.1)):=Jh (by rw [<-hR];exact Prod.ext rfl C.Z);refine eX ?_;clear hR C hb l0 c0 c1 c2 c3 c4 c5 c6 ho BB;intro BB w4 hw4 HQ4 HQB KQ4 HB4 HZ4 HZ3;go_upto_region 7 with fail;rw [<-hw4];clear hw4;refine ym8 ?_;intro KA4 KR4 l0 k0' MK hHeld K hK
 ((refine (uT R.2.1 _ BB.Z).mono ?_);rintro e v1 ⟨rfl,hq1⟩)
 refine eY ?_;clear hK K hHeld;intro HB1v hHeld HBV hin1 hq9 hz4;have E:Hd (xu (xI xP false) D.dat=modPlate R.1 (Lib.itoa R.2.1) D.dat):=Jh (by rw [x.Z,y.Z]);refine ym4 ?_;clear hHeld;intro v9 E9 HO9 HD9 HS9 HK9 KA9 KR9 KQ9 r0 x0 x1 x2 x3 x4 x5 x6 f0 f1 f2 f3 f4 f5 f6 hS9 hHeld;refine Rz ?_;clear hHeld;refine Le ?_;(try go_simp);go_wp2_with fail;refine bodyPost_ret (v:= .tuple #[E9.val, .string ⟨(modPlate R.1 (Lib.itoa R.2.1) D.dat).2.toArray⟩]) (by simp [results,results21,go_sem,Dsk.val,x0,x1,x2,x3,x4,x5,x6]) rfl ⟨E9,by first | rfl | rw [E.Z],?_,by first | exact HD9.Z | (rw [E.Z];exact HD9.Z),HS9.Z,?_⟩;exact qL;exact yt6
theorem Ic (D:Dsk) (w:World) (B:Nat) (q:ModIn w B D):
 Calls prog 21 #[D.val, .string ⟨#[112,108,97,105,110]⟩, .string ⟨#[98,111,116,104]⟩] w (ModOut w B D (xu (xI xP true) D.dat)):=by
 have HIN:=Jh q;clear q;refine ym1 ?_;intro w0 hw0 KA KR HB0 HZ0 HDB;show Calls prog 21 #[.agg ↑D, .string ⟨#[112,108,97,105,110]⟩, .string ⟨#[98,111,116,104]⟩] w _;go_in;go_upto_region 1 with fail;refine ym3 ?_;clear hw0;intro l0 c0 c1 c2 c3 c4 c5 c6;have x:Hd (xu (xI xP true) D.dat=modPlate (xI xP true D.dat).1 (xI xP true D.dat).2 D.dat):=Jh (YD (f:=xI xP true) (d:=D.dat) (p:=(xI xP true D.dat).1) (s:=(xI xP true D.dat).2) rfl).symm;have BB:Hd (yg (jd xP D.P.W D.P.H D.P.ink true).2.1):=Jh ((Cn HIN.Z.ok).plain true);have C:Hd ((xI xP true D.dat).2=Lib.itoa (jd xP D.P.W D.P.H D.P.ink true).2.1):=Jh (by unfold xI;exact Xe _);clear c0 c1 c2 c3 c4 c5 c6;go_wp2_with fail;refine (Zb _).mono ?_;rintro e w1 ⟨g1,rfl,_,j,hb⟩;have l:=Jh hb;obtain ⟨g2,m⟩:=zN g1;rw [<-m] at j⊢;obtain ⟨w2,t⟩:=zN w1;rw [<-t] at l j⊢;have HB2:=l;have z:=Jh j;clear hb j m t;have A:=Jh (KA.Z.zA HB2.Z);obtain ⟨l0,c0,c1,c2,c3,c4,c5,c6⟩:=A.Z.c7;go_wp2_with fail;refine (qj ↑g2 1 1 xP D.P.W D.P.H D.P.a D.P.n D.P.c D.P.ink true _ rfl z.Z.rd om nI HIN.Z.own.p.len ((HIN.Z.own.p.rd.below HB0.Z).below HB2.Z) (og HIN.Z.small.p)).mono ?_;rintro e w3 ⟨a1,n1,k1,rfl,ho,hn1,hb⟩;obtain ⟨R,hR⟩: ∃R,jd xP D.P.W D.P.H D.P.ink true=R:=⟨_,rfl⟩
 have y:Hd (xI xP true D.dat=(R.1,Lib.itoa R.2.1)):=Jh (by rw [<-hR];exact Prod.ext rfl C.Z);refine eX ?_;clear hR C hb l0 c0 c1 c2 c3 c4 c5 c6 ho BB;intro BB w4 hw4 HQ4 HQB KQ4 HB4 HZ4 HZ3;go_upto_region 7 with fail;rw [<-hw4];clear hw4;refine ym8 ?_;intro KA4 KR4 l0 k0' MK hHeld K hK
 ((refine (uT R.2.1 _ BB.Z).mono ?_);rintro e v1 ⟨rfl,hq1⟩)
 refine eY ?_;clear hK K hHeld;intro HB1v hHeld HBV hin1 hq9 hz4;have E:Hd (xu (xI xP true) D.dat=modPlate R.1 (Lib.itoa R.2.1) D.dat):=Jh (by rw [x.Z,y.Z]);refine ym4 ?_;clear hHeld;intro v9 E9 HO9 HD9 HS9 HK9 KA9 KR9 KQ9 r0 x0 x1 x2 x3 x4 x5 x6 f0 f1 f2 f3 f4 f5 f6 hS9 hHeld;refine Rz ?_;clear hHeld;refine Le ?_;(try go_simp);go_wp2_with fail;refine bodyPost_ret (v:= .tuple #[E9.val, .string ⟨(modPlate R.1 (Lib.itoa R.2.1) D.dat).2.toArray⟩]) (by simp [results,results21,go_sem,Dsk.val,x0,x1,x2,x3,x4,x5,x6]) rfl ⟨E9,by first | rfl | rw [E.Z],?_,by first | exact HD9.Z | (rw [E.Z];exact HD9.Z),HS9.Z,?_⟩;exact qL;exact yt6
theorem rT (D:Dsk) (a b:ByteArray) (w:World) (B:Nat) (m:ModIn w B D) (i: ¬((a.toList=YG\/a.toList=XF)/\(b.toList=Jy\/b.toList=Kv))):
 Calls prog 21 #[D.val, .string a, .string b] w (ModOut w B D (D.dat,qR)):=by
 have HIN:=Jh m;clear m;refine ym1 ?_;intro w0 hw0 KA KR HB0 HZ0 HDB;show Calls prog 21 #[.agg ↑D, .string a, .string b] w _;go_in;go_upto_region 1 with fail;refine ym3 ?_;clear hw0;intro l0 c0 c1 c2 c3 c4 c5 c6;by_cases f:a.toList=YG
 . have l:Hd (a.toList=YG\/a.toList=XF):=Jh (.inl f)
   by_cases hbleft:b.toList=Jy
   exact absurd ⟨l.Z, .inl hbleft⟩ i;by_cases hbboth:b.toList=Kv
   exact absurd ⟨l.Z, .inr hbboth⟩ i;clear i l;refine zDk ?_;intro nbleft mbleft nbboth mbboth;have t:a=⟨#[115,116,101,105,110]⟩:=ByteArray.ext (Array.toList_inj.1 (by rw [<-Yf];exact f));subst t;refine Zt ?_;intro r0 x0 x1 x2 x3 x4 x5 x6 f0 f1 f2 f3 f4 f5 f6;go_wp2_with fail;refine bodyPost_ret (v:= .tuple #[D.val, .string ⟨#[119,104,97,116]⟩]) (by simp [results,results21,go_sem,Dsk.val,x0,x1,x2,x3,x4,x5,x6]) rfl ⟨D,by rfl,?_,by rfl,HIN.Z.small,?_⟩;exact XV;exact KeepT.zF (yB HB0.Z om _ _ _ _ _ _ _)
 by_cases c:a.toList=XF
 . have l:Hd (a.toList=YG\/a.toList=XF):=Jh (.inr c)
   by_cases hbleft:b.toList=Jy
   exact absurd ⟨l.Z, .inl hbleft⟩ i;by_cases hbboth:b.toList=Kv
   exact absurd ⟨l.Z, .inr hbboth⟩ i;clear i l;refine zDk ?_;intro nbleft mbleft nbboth mbboth;have t:a=⟨#[112,108,97,105,110]⟩:=ByteArray.ext (Array.toList_inj.1 (by rw [<-Yf];exact c));subst t;refine Zt ?_;intro r0 x0 x1 x2 x3 x4 x5 x6 f0 f1 f2 f3 f4 f5 f6;go_wp2_with fail;refine bodyPost_ret (v:= .tuple #[D.val, .string ⟨#[119,104,97,116]⟩]) (by simp [results,results21,go_sem,Dsk.val,x0,x1,x2,x3,x4,x5,x6]) rfl ⟨D,by rfl,?_,by rfl,HIN.Z.small,?_⟩;exact XV;exact KeepT.zF (yB HB0.Z om _ _ _ _ _ _ _)
 clear i;have k: ¬a.toList=[115,116,101,105,110]:=fun e=>f e;have s:(a.toList==[115,116,101,105,110])=false:=by rw [beq_eq_false_iff_ne];exact k
 have j: ¬a.toList=[112,108,97,105,110]:=fun e=>c e;have q:(a.toList==[112,108,97,105,110])=false:=by rw [beq_eq_false_iff_ne];exact j
 refine Zt ?_;intro r0 x0 x1 x2 x3 x4 x5 x6 f0 f1 f2 f3 f4 f5 f6;go_wp2_with fail;refine bodyPost_ret (v:= .tuple #[D.val, .string ⟨#[119,104,97,116]⟩]) (by simp [results,results21,go_sem,Dsk.val,x0,x1,x2,x3,x4,x5,x6]) rfl ⟨D,by rfl,?_,by rfl,HIN.Z.small,?_⟩;exact XV;exact KeepT.zF (yB HB0.Z om _ _ _ _ _ _ _)
end
theorem LY (D:Dsk) (a b:ByteArray) (w:World) (B:Nat) (c:ModIn w B D):
 Calls prog 21 #[D.val, .string a, .string b] w (ModOut w B D (Aj a.toList b.toList D.dat)):=by
 by_cases j:(a.toList=YG\/a.toList=XF)/\(b.toList=Jy\/b.toList=Kv)
 have k: ∀s:ByteArray,s=⟨s.toList.toArray⟩:=fun s=>ByteArray.ext (Array.toList_inj.1 (by rw [Yf]));have ha:=k a;have hb:=k b;obtain ⟨m,f⟩: ∃l,a.toList=l:=⟨_,rfl⟩
 obtain ⟨q,i⟩: ∃l,b.toList=l:=⟨_,rfl⟩
 rw [f] at ha j⊢;rw [i] at hb j⊢;clear f i k;subst ha hb;rcases j with ⟨rfl | rfl,rfl | rfl⟩
 exact (Ih D w B c).mono (fun e w' h=>h.congr rfl);exact (Ig D w B c).mono (fun e w' h=>h.congr rfl);exact (Ie D w B c).mono (fun e w' h=>h.congr rfl);exact (Ic D w B c).mono (fun e w' h=>h.congr rfl);refine (rT D a b w B c j).mono (fun e w' h=>h.congr ?_);unfold Aj;rw [if_neg j]
end Go.Proofs.YtlenfgdjdianiaaGreatDoor
