/-
  Contracts and plain facts on which the theorem of this claim rests, text 39.
-/
import Derived.Deep.Cut
import Derived.Laws.IdiomStrings
import Derived.Test.YtanccoopbgamdaaGreatDoorKC2
import Derived.Test.YtanccoopbgamdaaGreatDoorKC3
import Derived.Test.YtanccoopbgamdaaGreatDoorKC5
import Derived.Test.YtanccoopbgamdaaGreatDoorKC12
import Derived.Test.YtanccoopbgamdaaGreatDoorKC14
import Derived.Test.YtanccoopbgamdaaGreatDoorKC38
namespace Go.Proofs.YtanccoopbgamdaaGreatDoor
open Go.RowKit
set_option linter.unusedVariables false
set_option linter.unusedSimpArgs false
theorem rd_window {w:World} {b off:Nat} {xs:List Int} (h:Rd w (some ⟨b,off,none⟩) xs) (s l:Nat):Rd w (some ⟨b,off+s,none⟩) ((xs.drop s).take l):=by
 intro k hk
 rw [List.length_take,List.length_drop] at hk
 obtain ⟨b',off',h1,h2,h3⟩:=h (s+k) (by omega)
 have e:=Option.some.inj h1
 simp only [Addr.mk.injEq] at e
 obtain ⟨rfl,rfl,_⟩:=e
 refine ⟨b,off+s,rfl,h2,?_⟩
 rw [Nat.add_assoc,h3]
 congr 2
 simp only [List.getD,List.getElem?_take,List.getElem?_drop]
 rw [if_pos (by omega)]
set_option maxHeartbeats 800000 in
theorem impl_window (b off n cap s l:Nat) (S L:Int) (w:World) (hS:S=(s:Int)) (hL:L=(l:Int)) (h1:1≤l) (h2:s+l≤n) (h3:n≤cap) (h4:n≤1048576):
   Calls Tryz.prog 50 #[.slice (some ⟨b,off,none⟩) n cap, .int .i64 S, .int .i64 L] w fun e w'=>e= .returned (.slice (some ⟨b,off+s,none⟩) l l)∧w=w':=by
 subst hS hL
 have f0:(0:Int)≤(s:Int):=by omega
 have f1:(s:Int)≤(s:Int)+(l:Int):=by omega
 have f2:(s:Int)+(l:Int)≤(cap:Int):=by omega
 have f3:(s:Int)+(l:Int)≤(s:Int)+(l:Int):=by omega
 have f4:((s:Int)+(l:Int)).toNat=s+l:=by omega
 have f5: ¬s+l=s:=by omega
 go_enter Tryz.func50,Tryz.ntmps50
 go_wp2_with fail
 go_ret
 exact ⟨rfl,rfl⟩
set_option maxHeartbeats 800000 in
theorem impl_window0 (b off n cap s:Nat) (S:Int) (w:World) (hS:S=(s:Int)) (h2:s≤n) (h3:n≤cap) (h4:n≤1048576):
   Calls Tryz.prog 50 #[.slice (some ⟨b,off,none⟩) n cap, .int .i64 S, .int .i64 0] w fun e w'=>e= .returned (.slice (some ⟨b,off,none⟩) 0 0)∧w=w':=by
 subst hS
 have f0:(0:Int)≤(s:Int):=by omega
 have f1:(s:Int)≤(s:Int):=by omega
 have f2:(s:Int)≤(cap:Int):=by omega
 go_enter Tryz.func50,Tryz.ntmps50
 go_wp2_with fail
 go_ret
 exact ⟨rfl,rfl⟩
set_option maxHeartbeats 800000 in
theorem impl_rowOf (W:Nat) (H:Int) (b off n cap y:Nat) (Y:Int) (w:World) (hY:Y=(y:Int)) (h1:1≤W) (hy:y≤64) (hW:W≤64) (h2:y*W+W≤n) (h3:n≤cap) (h4:n≤1048576):
   Calls Tryz.prog 30 #[.agg #[.int .i64 W, .int .i64 H, .slice (some ⟨b,off,none⟩) n cap], .int .i64 Y] w fun e w'=>e= .returned (.slice (some ⟨b,off+y*W,none⟩) W W)∧Below w.heap.size w w':=by
 subst hY
 have e0:((y:Int)*(W:Int))=((y*W:Nat):Int):=by simp
 have b0:0≤(y:Int)*(W:Int):=Int.mul_nonneg (by omega) (by omega)
 have b1:(y:Int)*(W:Int)≤1048576:=by rw [e0];omega
 have E0:=Lib.hid e0
 clear e0
 go_enter Tryz.func30,Tryz.ntmps30
 go_wp2_with fail
 refine (impl_window b off n cap (y*W) W _ _ _ E0.out rfl h1 h2 h3 h4).mono ?_
 rintro e w2 ⟨rfl,rfl⟩
 go_wp2_with fail
 go_ret
 exact ⟨rfl,Joins.below_alloc1 _ _⟩
theorem step_append_new (w:World) {ops:Array Oper} {o:Oper} {a:Act} {K:Act→World→Prop} {Q:Exit→Act→World→Prop} {E:Prop}
   (hgd:o.guard=none) (s x:Operand) (hop:o.op= .call {callee:= .builtin .append,args:=#[s,x],argTypes:=#[25,25]})
   (b off n b2 off2 m c2:Nat) (xs zs:List Int) (hs:a.eval s= .slice (some ⟨b,off,none⟩) n n) (hx:a.eval x= .slice (some ⟨b2,off2,none⟩) m c2) (hl:xs.length=n) (hm:zs.length=m) (h1:1≤m) (hn:n+m≤1024)
   (hr: ∀j,j<n→w.cell? ⟨b,off+j,none⟩=some (.int .i64 (xs.getD j 0))) (hz: ∀j,j<m→w.cell? ⟨b2,off2+j,none⟩=some (.int .i64 (zs.getD j 0)))
   (hK: ∀c w',OwnA w' w.heap.size (some ⟨w.heap.size,0,none⟩) (n+m) c (xs++zs)→Below w.heap.size w w'→K (a.put o.dst (.slice (some ⟨w.heap.size,0,none⟩) (n+m) c)) w'):
   if Region.wanted o (yielded ops a.tmps)=true then Oper.wp Tryz.prog o a w K Q else E:=by
 have hw:Region.wanted o (yielded ops a.tmps)=true:=by simp [Region.wanted,hgd]
 rw [if_pos hw]
 obtain ⟨i,hi,hz0,hz1,hz2⟩:=info_parts infoInt
 have hrun:=run_append_grow (P:=Tryz.prog) (w:=w) 25 o.type 3 i (.int .i64 0) Tryz.underlying25 hi hz0 ⟨b,off,none⟩ n n (xs.map (Value.int .i64)) (by rw [hz1];simpa using hl) (fun j v hv=>by
     have hj:j<xs.length:=by have:=(List.getElem?_eq_some_iff.1 hv).1;simpa using this
     rw [Addr.add_lit,hr j (by omega),←hv]
     simp [List.getD,hj]) ⟨b2,off2,none⟩ m c2 (zs.map (Value.int .i64)) (by rw [hz1];simpa using hm) (fun j v hv=>by
     have hj:j<zs.length:=by have:=(List.getElem?_eq_some_iff.1 hv).1;simpa using this
     rw [Addr.add_lit,hz j (by omega),←hv]
     simp [List.getD,hj]) (by omega) (by omega) (by
   rw [hz2]
   have:=nextslicecap_le (need:=n+m) (old:=n) (by omega)
   omega)
 unfold Oper.wp
 simp [execOp,hop,resolve,invoke,builtin,hs,hx,hrun,Result.andThen]
 have hg1:=grownCap_ge w (n+m) n 3
 have hg2:=grownCap_le_maxLen w (n+m) n 3 (by unfold maxLen;omega)
 refine hK _ _ ?_ ?_
 · refine OwnA.mk ⟨by simp;omega,_,heap_alloc_new w.drew _,hg1,hg2,?_,?_⟩ (Nat.le_refl _)
   · simp [Value.cells,Builtin.zeroCells]
     omega
   · simp [Value.cells]
     rw [←List.append_assoc,List.take_append_of_le_length (by simp;omega),List.take_of_length_le (by simp;omega)]
 · exact bAlloc (Below.refl _ _).drew _
theorem step_append_nothing (w:World) {ops:Array Oper} {o:Oper} {a:Act} {K:Act→World→Prop} {Q:Exit→Act→World→Prop} {E:Prop}
   (hgd:o.guard=none) (s x:Operand) (hop:o.op= .call {callee:= .builtin .append,args:=#[s,x],argTypes:=#[25,25]})
   (A:Addr) (n c:Nat) (A2:Addr) (c2:Nat) (hs:a.eval s= .slice (some A) n c) (hx:a.eval x= .slice (some A2) 0 c2) (hc:n≤c)
   (hK:K (a.put o.dst (.slice (some A) n c)) w):
   if Region.wanted o (yielded ops a.tmps)=true then Oper.wp Tryz.prog o a w K Q else E:=by
 have hw:Region.wanted o (yielded ops a.tmps)=true:=by simp [Region.wanted,hgd]
 rw [if_pos hw]
 obtain ⟨i,hi,hz0,hz1,hz2⟩:=info_parts infoInt
 have hrun:(Builtin.append_ #[25,25] o.type #[.slice (some A) n c, .slice (some A2) 0 c2]).run Tryz.prog w= .ok (.slice (some A) n c) w:=by
   simp [Builtin.append_,run_underlying Tryz.underlying25,sizeOf,typeInfo,hi,Builtin.lenOf,Builtin.firstCells,hc,storeCells,loadCells,loadCellsFrom]
 unfold Oper.wp
 simp [execOp,hop,resolve,invoke,builtin,hs,hx,hrun,Result.andThen]
 exact hK
def rotL (xs:List Int) (s:Nat):List Int:=xs.drop s++xs.take s
def SliceOut (w:World) (n b:Nat) (xs:List Int) (e:Ending) (w':World):Prop:= ∃a c,e= .returned (.slice a n c)∧Rd w' a xs∧(∀x,blockOf a=some x→x=b∨w.heap.size≤x)∧Below w.heap.size w w'
set_option maxHeartbeats 1600000 in
theorem impl_roundFrom (b off n s l:Nat) (S:Int) (xs:List Int) (w:World) (hS:S=(s:Int)) (hn:xs.length=n) (hr:Rd w (some ⟨b,off,none⟩) xs) (h1:1≤n) (h2:n≤64) (hs:n=s+l):
   Calls Tryz.prog 173 #[.slice (some ⟨b,off,none⟩) n n, .int .i64 S] w (SliceOut w n b (rotL xs s)):=by
 subst hS
 have HN:=Lib.hid hn
 have HR:=Lib.hid hr
 have k1:IntKind.i64.wrap ((n:Int) - (s:Int))=(l:Int):=by rw [show (n:Int) - (s:Int)=(l:Int) by omega];exact IntWalk.i64_in _ (by omega)
 have f0:(0:Int)≤(s:Int):=by omega
 have f1:(s:Int)≤(n:Int):=by omega
 have HS:=Lib.hid hs
 have cs:s≤n:=by omega
 obtain ⟨o2,hW,ho2⟩: ∃o2,(∀v:World,Calls Tryz.prog 50 #[.slice (some ⟨b,off,none⟩) n n, .int .i64 s, .int .i64 l] v fun e w'=>e= .returned (.slice (some ⟨b,o2,none⟩) l l)∧v=w')∧(1≤l→o2=off+s):=by
   by_cases h0:l=0
   · subst h0
     exact ⟨off,fun v=>impl_window0 b off n n s s v rfl cs (Nat.le_refl _) (by omega),fun h=>by omega⟩
   · exact ⟨off+s,fun v=>impl_window b off n n s l s l v rfl rfl (by omega) (by omega) (Nat.le_refl _) (by omega),fun _=>rfl⟩
 have HW:=Lib.hid hW
 have HO:=Lib.hid ho2
 obtain ⟨b0,q0,e0,lb,hcell⟩:=hr.at (by omega)
 have e1:=Option.some.inj e0
 simp only [Addr.mk.injEq] at e1
 obtain ⟨rfl,rfl,_⟩:=e1
 have HC:=Lib.hid hcell
 clear hn hr hs hW ho2 e0 hcell
 go_enter Tryz.func173,Tryz.ntmps173
 go_upto_region 1 with fail
 refine wp_region_held_drew (S:=fun v=>0<1) (by kernel_rfl) (by omega) ?_
 intro hHeld
 refine hTake 0 ?_
 refine hTake 1 ?_
 refine hTake 2 ?_
 refine hTake 3 ?_
 refine hTake 4 ?_
 refine hTake 5 ?_
 refine hTake 7 ?_
 refine hTake 8 ?_
 refine hTake 9 ?_
 refine hOne 6 (fun K hK=>?_)
 go_simp
 go_at_call 50
 refine (HW.out _).mono ?_
 rintro e w2 ⟨rfl,rfl⟩
 go_wp2_with fail
 refine hK.out _ _ (by omega) (fun hHeld=>?_)
 clear hK K
 refine hOne 10 (fun K hK=>?_)
 by_cases h0:s=0
 case pos=>
   have hln:l=n:=by have:=HS.out;omega
   subst h0
   refine step_append_nothing _ rfl (.tmp 11) (.tmp 14) rfl ⟨b,o2,none⟩ l l ⟨b,off,none⟩ n rfl (by rfl) (Nat.le_refl _) ?_
   (try simp only [List.getElem_toArray,List.getElem_cons_succ,List.getElem_cons_zero,Act.put,List.setIfInBounds_toArray,List.set_cons_zero,List.set_cons_succ])
   refine hK.out _ _ (by omega) (fun hHeld=>?_)
   clear hK K
   refine hTake 11 ?_
   (try simp only [List.getElem_toArray,List.getElem_cons_succ,List.getElem_cons_zero,Act.put,List.setIfInBounds_toArray,List.set_cons_zero,List.set_cons_succ])
   refine wpAnyH_done (by kernel_rfl) ?_ _
   go_wp2_with fail
   go_ret
   refine ⟨some ⟨b,o2,none⟩,n,rfl,?_,fun x hx=>Or.inl (by simpa [blockOf] using hx.symm),(Below.refl _ _).drew⟩
   rw [HO.out (by omega),Nat.add_zero]
   unfold rotL
   simp only [List.drop_zero,List.take_zero,List.append_nil]
   exact HR.out.drew
 case neg=>
   refine step_append_new _ rfl (.tmp 11) (.tmp 14) rfl b o2 l b off s n (xs.drop s) (xs.take s) rfl rfl (by rw [List.length_drop];have:=HN.out;have:=HS.out;omega) (by rw [List.length_take];have:=HN.out;omega) (by omega) (by have:=HS.out;omega) (fun j hj=>?_) (fun j hj=>?_) ?_
   · rw [HO.out (by omega),Nat.add_assoc]
     have:=HC.out (s+j) (by have:=HN.out;have:=HS.out;omega)
     refine this.trans ?_
     simp [List.getD,List.getElem?_drop]
   · have:=HC.out j (by have:=HN.out;have:=HS.out;omega)
     refine this.trans ?_
     simp [List.getD,List.getElem?_take,hj]
   · intro c5 w5 ho5 hb5
     (try simp only [List.getElem_toArray,List.getElem_cons_succ,List.getElem_cons_zero,Act.put,List.setIfInBounds_toArray,List.set_cons_zero,List.set_cons_succ])
     refine hK.out _ _ (by omega) (fun hHeld=>?_)
     clear hK K
     refine hTake 11 ?_
     (try simp only [List.getElem_toArray,List.getElem_cons_succ,List.getElem_cons_zero,Act.put,List.setIfInBounds_toArray,List.set_cons_zero,List.set_cons_succ])
     refine wpAnyH_done (by kernel_rfl) ?_ _
     have HO5:=Lib.hid ho5
     have HB5:=Lib.hid hb5
     have hln:l+s=n:=by have:=HS.out;omega
     clear ho5 hb5
     go_wp2_with fail
     go_ret
     exact ⟨some ⟨w.heap.size,0,none⟩,c5,(show Ending.returned (Value.slice (some ⟨w.heap.size,0,none⟩) (l+s) c5)=Ending.returned (Value.slice (some ⟨w.heap.size,0,none⟩) n c5) by rw [hln]),HO5.out.rd,fun x hx=>Or.inr (by simp only [blockOf,Option.some.injEq] at hx;omega),(Below.refl _ _).drew.trans HB5.out⟩
theorem infoU8:(Tryz.prog.info? 5).map (fun i=>(i.zero,i.size,i.bytes))=some (some (.int .u8 0),1,1):=by kernel_rfl
def OwnsU (w:World) (B:Nat) (v:Value) (n:Nat) (xs:List Int):Prop:=w.ownsRow B 5 1 v n (xs.map (Value.int .u8))
def bytesOk (xs:List Int):Prop:= ∀x,x ∈ xs→0≤x∧x≤255
theorem wp_appendU (w:World) {ops:Array Oper} {rest:List Oper} {o:Oper} {a:Act} {Q:Exit→Act→World→Prop}
   (hgd:o.guard=none) (s x:Operand) (hop:o.op= .call {callee:= .builtin .append,args:=#[s,x],argTypes:=#[22,22]})
   (B n:Nat) (vs:Value) (xs:List Int) (hs:a.eval s=vs) (ho:OwnsU w B vs n xs) (g:Nat) (v:Int) (hx:a.eval x= .slice (some ⟨g,0,none⟩) 1 1)
   (hc:w.cell? ⟨g,0,none⟩=some (.int .u8 v)) (hn:n≤1048576) (hB:B≤w.heap.size)
   (hK: ∀v' w',OwnsU w' B v' (n+1) (xs++ [v])→w.grownBy w' vs.ownBlock→wpList Tryz.prog ops Q rest (a.put o.dst v') w'):
   wpList Tryz.prog ops Q (o::rest) a w:=by
 obtain ⟨i,hi,hz0,hz1,hz2⟩:=info_parts infoU8
 refine wpList_append_own w hgd s x 22 hop B 5 i (.int .u8 0) 1 1 Tryz.underlying22 hi hz0 hz1 hz2 rfl (by decide) _ n (xs.map (Value.int .u8)) hs ho ⟨g,0,none⟩ 1 1 [.int .u8 v] hx rfl ?_ ?_ (by unfold maxLen;omega) (by omega) hB ?_
 · intro j u hj
   match j,hj with
   | 0,hj=>simp at hj;subst hj;simpa [Addr.add] using hc
 · intro u hu;simp at hu;subst hu;rfl
 · intro v' w' h2 h3 _
   exact hK v' w' (by unfold OwnsU;simpa using h2) h3
theorem OwnsU.new (w:World) (v:Int):OwnsU (w.alloc (.cells #[.int .u8 v] 5)) w.heap.size (.slice (some ⟨w.heap.size,0,none⟩) 1 1) 1 [v]:=
 ⟨by simp, .inr ⟨w.heap.size,1,#[.int .u8 v],rfl,Nat.le_refl _,heap_alloc_new w _,by omega,by unfold maxLen;omega,by simp,by simp⟩⟩
theorem OwnsU.alloc {w:World} {B n:Nat} {v:Value} {xs:List Int} (h:OwnsU w B v n xs) (o:Obj):OwnsU (w.alloc o) B v n xs:=by
 obtain ⟨hl,h⟩:=h
 refine ⟨hl,?_⟩
 rcases h with h | ⟨g,cap,cur,h0,hB,hg,r⟩
 · exact .inl h
 · exact .inr ⟨g,cap,cur,h0,hB,(Below.heap_alloc w o g (Array.getElem?_eq_some_iff.1 hg).1).trans hg,r⟩
theorem OwnsU.rd {w:World} {B n:Nat} {v:Value} {xs:List Int} (h:OwnsU w B v n xs) (hb:bytesOk xs): ∃ad cap,v= .slice ad n cap∧xs.length=n∧RdU w.heap.size w ad xs:=by
 obtain ⟨hl,h⟩:=h
 simp at hl
 rcases h with ⟨rfl,rfl⟩ | ⟨g,cap,cur,rfl,hB,hg,h1,h2,h3,h4⟩
 · obtain rfl:xs=[]:=List.eq_nil_of_length_eq_zero hl
   exact ⟨Option.none,0,rfl,rfl,fun k hk=>by simp at hk⟩
 · refine ⟨_,cap,rfl,hl,fun k hk=>?_⟩
   have hlt:=(Array.getElem?_eq_some_iff.1 hg).1
   have hm:xs.getD k 0 ∈ xs:=by simp [List.getD,List.getElem?_eq_getElem hk]
   refine ⟨hb _ hm,g,0,rfl,hlt,hlt,?_⟩
   rw [Nat.zero_add,cell_of_row w g k cur 5 (0,0) hg]
   rw [Nat.mul_one] at h4
   have h5:(cur.toList.take n)[k]? =(xs.map (Value.int .u8))[k]?:=by rw [h4]
   rw [List.getElem?_take,if_pos (by omega)] at h5
   simp only [Array.getElem?_toList] at h5
   rw [h5]
   simp [List.getD,List.getElem?_eq_getElem hk]
theorem OwnsU.own {w:World} {B n:Nat} {v:Value} {xs:List Int} (h:OwnsU w B v n xs): ∀b,v.ownBlock=some b→B≤b∧b<w.heap.size:=by
 obtain ⟨hl,h⟩:=h
 intro b hb
 rcases h with ⟨rfl,rfl⟩ | ⟨g,cap,cur,rfl,hB,hg,r⟩
 · simp [Value.ownBlock] at hb
 · simp only [Value.ownBlock,Option.some.injEq] at hb
   subst hb
   exact ⟨hB,(Array.getElem?_eq_some_iff.1 hg).1⟩
theorem bytesOk.snoc {xs:List Int} {v:Int} (h:bytesOk xs) (h0:0≤v) (h1:v≤255):bytesOk (xs++ [v]):=by
 intro x hx
 rcases List.mem_append.1 hx with hx | hx
 · exact h x hx
 · simp at hx;subst hx;exact ⟨h0,h1⟩
def intsOf (l:List UInt8):List Int:=l.map (fun b=>(b.toNat:Int))
theorem text_put {w h y j:Nat} {xs:List Int} (hj:j<w) (hy:y<h):
   intsOf ((textG w h xs).take ((w+1)*y+j+1))=intsOf ((textG w h xs).take ((w+1)*y+j))++ [if xs.getD (y*w+j) 0=1 then 35 else 46]:=by
 have hm:(w+1)*y+j<(w+1)*h:=by
   have:(w+1)*(y+1)≤(w+1)*h:=Nat.mul_le_mul_left _ hy
   rw [Nat.mul_succ] at this
   omega
 have e1:((w+1)*y+j) % (w+1)=j:=by rw [Nat.mul_add_mod,Nat.mod_eq_of_lt (by omega)]
 have e2:((w+1)*y+j)/(w+1)=y:=by rw [Nat.mul_add_div (by omega),Nat.div_eq_of_lt (by omega),Nat.add_zero]
 rw [take_bytes (textG_at hm)]
 unfold textAt
 rw [e1,e2,if_neg (by omega)]
 unfold intsOf dotB
 rw [List.map_append]
 congr 1
 by_cases h1:xs.getD (y*w+j) 0=1
 · rw [if_pos h1,if_pos h1];rfl
 · rw [if_neg h1,if_neg h1];rfl
theorem text_end {w h y:Nat} {xs:List Int} (hy:y<h):
   intsOf ((textG w h xs).take ((w+1)*y+w+1))=intsOf ((textG w h xs).take ((w+1)*y+w))++ [10]:=by
 have hm:(w+1)*y+w<(w+1)*h:=by
   have:(w+1)*(y+1)≤(w+1)*h:=Nat.mul_le_mul_left _ hy
   rw [Nat.mul_succ] at this
   omega
 have e1:((w+1)*y+w) % (w+1)=w:=by rw [Nat.mul_add_mod,Nat.mod_eq_of_lt (by omega)]
 rw [take_bytes (textG_at hm)]
 unfold textAt
 rw [e1,if_pos rfl]
 unfold intsOf
 rw [List.map_append]
 rfl
theorem ownsU_below {w w':World} {B n:Nat} {v:Value} {xs:List Int} (h:OwnsU w B v n xs) (hb:Below w.heap.size w w'):OwnsU w' B v n xs:=by
 obtain ⟨hl,h⟩:=h
 refine ⟨hl,?_⟩
 rcases h with h | ⟨g,cap,cur,h0,hB,hg,r⟩
 · exact .inl h
 · exact .inr ⟨g,cap,cur,h0,hB,(hb.block g (Array.getElem?_eq_some_iff.1 hg).1).trans hg,r⟩
theorem text_back {w:World} {B m:Nat} {v:Value} {l:List UInt8} (ho:OwnsU w B v m (intsOf (l.take m))) (hm:0<m) (hl:l.length=m):
   Sem.run Tryz.prog (convert 22 9 v) w= .ok (.string ⟨l.toArray⟩) w:=by
 rw [List.take_of_length_le (by omega)] at ho
 have hb:bytesOk (intsOf l):=by
   intro x hx
   obtain ⟨u,_,rfl⟩:=List.mem_map.1 hx
   have:=u.toNat_lt
   omega
 obtain ⟨ad,cap,rfl,hlen,hr⟩:=ho.rd hb
 have hli:(intsOf l).length=l.length:=by simp [intsOf]
 obtain ⟨_,b,off,hae,_⟩:=hr 0 (by omega)
 subst hae
 have h:=run_convert_bytes_back (P:=Tryz.prog) w 22 9 5 ⟨b,off,none⟩ cap l Tryz.underlying22 Tryz.underlying5 Tryz.underlying9 (fun j hj=>by
   obtain ⟨_,b2,off2,h1,_,_,h3⟩:=hr j (by omega)
   have e:=Option.some.inj h1
   simp only [Addr.mk.injEq] at e
   obtain ⟨rfl,rfl,_⟩:=e
   rw [show (⟨b,off,none⟩:Addr).add j=⟨b,off+j,none⟩ by simp [Addr.add],h3]
   simp [intsOf,List.getD,List.getElem?_eq_getElem hj])
 rw [hl] at h
 exact h
theorem ownsU_nil (w:World) (B:Nat):OwnsU w B (.slice none 0 0) 0 []:=⟨by simp, .inl ⟨rfl,rfl⟩⟩
set_option maxRecDepth 100000 in
set_option maxHeartbeats 1600000 in
theorem impl_DotText (W H:Int) (ad:Option Addr) (n cap:Nat) (xs:List Int) (w:World) (hn:xs.length=n) (ha:Rd w ad xs) (hl:n≤9223372036854775807) (hcap:n≤cap):
   Calls Tryz.prog 11 #[.agg #[.int .i64 W, .int .i64 H, .slice ad n cap]] w fun e w'=>e= .returned (.string ⟨(textF W H xs).toArray⟩)∧Below w.heap.size w w':=by
 have HN:=Lib.hid hn
 have HA:=Lib.hid ha
 by_cases hp:picOk W H xs 1=true
 case neg=>
   have e1:textF W H xs=[]:=by unfold textF;rw [if_neg hp]
   rw [e1]
   have hpf:picOk W H xs 1=false:=by simpa using hp
   have HPF:=Lib.hid hpf
   clear hp hpf e1 hn ha
   go_enter Tryz.func11,Tryz.ntmps11
   go_wp2_with fail
   refine (impl_IsPlate W H ad n cap xs _ HN.out (by exact HA.out.alloc _) hl).mono ?_
   rw [HPF.out]
   rintro e w1 ⟨rfl,hb⟩
   have HB:=Lib.hid (bTrans (Joins.below_alloc1 w (.cells #[.int .i64 W, .int .i64 H, .slice ad n cap] 27)) hb)
   clear hb
   go_wp2_with fail
   go_ret
   exact ⟨rfl,HB.out⟩
 case pos=>
   obtain ⟨w0,h0,e1,e2,b1,b2,b3,b4,b5,hlen,hs,hx⟩:=plate_dots hp
   subst e1 e2
   have hnn:n=w0*h0:=by rw [←hn];exact hlen
   have n1k:n≤1024:=by omega
   have HNN:=Lib.hid hnn
   clear hnn
   have e3:textF (w0:Int) (h0:Int) xs=textG w0 h0 xs:=by unfold textF;rw [if_pos hp];rfl
   rw [e3]
   have HP:=Lib.hid hp
   have HX:=Lib.hid hx
   have KP1:=Lib.hid (Blk.new w 27 #[.int .i64 w0, .int .i64 h0, .slice ad n cap])
   have HA1:=Lib.hid (ha.alloc (.cells #[.int .i64 w0, .int .i64 h0, .slice ad n cap] 27))
   clear hp hx e3 ha hs hlen
   go_enter Tryz.func11,Tryz.ntmps11
   go_wp2_with fail
   refine (impl_IsPlate w0 h0 ad n cap xs _ HN.out (by exact HA1.out) hl).mono ?_
   rw [HP.out]
   rintro e w1 ⟨rfl,hb⟩
   have KP:=Lib.hid (KP1.out.below' hb)
   have HA2:=Lib.hid (HA1.out.below hb)
   have HB:=Lib.hid (bTrans (Joins.below_alloc1 w (.cells #[.int .i64 w0, .int .i64 h0, .slice ad n cap] 27)) hb)
   clear hb KP1 HA1
   obtain ⟨lp,p0,p1,p2⟩:=KP.out.c3
   go_wp2_with fail
   obtain ⟨bA,oA,hAe,hAl⟩: ∃b off,ad=some ⟨b,off,none⟩∧b<w1.heap.size:=by
     obtain ⟨b,off,h1,h2,_⟩:=HA2.out 0 (by have:=HN.out;have:=HNN.out;have:=Nat.mul_pos b1 b3;omega)
     exact ⟨b,off,h1,h2⟩
   subst hAe
   have HCELL:Hid (∀k,k<n→(xs.getD k 0=0∨xs.getD k 0=1)∧w1.cell? ⟨bA,oA+k,none⟩=some (.int .i64 (xs.getD k 0))):=Lib.hid (fun k hk=>by
     obtain ⟨b,off,h1,_,h3⟩:=HA2.out k (by have:=HN.out;omega)
     have e:=Option.some.inj h1
     simp only [Addr.mk.injEq] at e
     obtain ⟨rfl,rfl,_⟩:=e
     exact ⟨HX.out k (by have:=HN.out;omega),h3⟩)
   clear lp p0 p1 p2
   go_loopw [3,12] (fun s i wr=> ∃y:Nat,y≤h0∧i= .int .i64 y∧OwnsU wr w1.heap.size s ((w0+1)*y) (intsOf ((textG w0 h0 xs).take ((w0+1)*y)))∧Hid (Below w1.heap.size w1 wr)) (fun _ i _=>h0 - (intOf i).toNat)
   case atStart=>exact ⟨0,Nat.zero_le _,rfl,ownsU_nil _ _,Lib.hid (Below.refl _ _)⟩
   case round=>
     obtain ⟨y,hy,rfl,ho,HW⟩:=hrel
     have HO:=Lib.hid ho
     clear ho
     have KPr:=Lib.hid (KP.out.below' HW.out)
     have HBr:=Lib.hid (bTrans HB.out HW.out)
     obtain ⟨lp,p0,p1,p2⟩:=KPr.out.c3
     by_cases hlt:y<h0
     · have hyw:y*w0+w0≤n:=by
         have h1:(y+1)*w0≤h0*w0:=Nat.mul_le_mul_right _ hlt
         rw [Nat.succ_mul,Nat.mul_comm h0] at h1
         have:=HNN.out
         omega
       have HM:Hid ((w0+1)*y≤65*64):=Lib.hid (Nat.mul_le_mul (by omega) (by omega))
       have PUT:=Lib.hid (fun j (hj:j<w0)=>text_put (w:=w0) (h:=h0) (y:=y) (j:=j) (xs:=xs) hj hlt)
       have END:=Lib.hid (text_end (w:=w0) (h:=h0) (y:=y) (xs:=xs) hlt)
       have NXT:Hid ((w0+1)*(y+1)=(w0+1)*y+w0+1):=Lib.hid (by rw [Nat.mul_succ];omega)
       obtain ⟨M,hM⟩: ∃M,(w0+1)*y=M:=⟨_,rfl⟩
       rw [hM] at HO HM PUT END NXT
       clear hM
       go_wp2_with fail
       refine (impl_rowOf w0 h0 bA oA n cap y y _ rfl b1 (by omega) b2 hyw hcap (by omega)).mono ?_
       rintro e w2 ⟨rfl,hb⟩
       have HO2:Hid (OwnsU w2 w1.heap.size u3 M (intsOf ((textG w0 h0 xs).take M))):=Lib.hid (ownsU_below HO.out hb)
       have HW2:=Lib.hid (HW.out.trans (hb.mono HW.out.size))
       clear hb lp p0 p1 p2
       go_wp2_with fail
       go_loopw [3,19] (fun s i wr=> ∃j:Nat,j≤w0∧i= .int .i64 j∧OwnsU wr w1.heap.size s (M+j) (intsOf ((textG w0 h0 xs).take (M+j)))∧Hid (Below w1.heap.size w1 wr)) (fun _ i _=>w0 - (intOf i).toNat)
       case atStart=>exact ⟨0,Nat.zero_le _,rfl,HO2.out,HW2⟩
       case round=>
         obtain ⟨j,hj,rfl,ho,HWj⟩:=hrel
         have HOj:=Lib.hid ho
         clear ho
         have KPj:=Lib.hid (KP.out.below' HWj.out)
         obtain ⟨lp,p0,p1,p2⟩:=KPj.out.c3
         by_cases hlj:j<w0
         · obtain ⟨hd,hc⟩:=HCELL.out (y*w0+j) (by omega)
           have c0:wr.cell? ⟨bA,oA+(y*w0+j),none⟩=some (.int .i64 (xs.getD (y*w0+j) 0)):=(HWj.out.cell (by exact hAl)).trans hc
           have c1:wr.cell? ⟨bA,oA+y*w0+j,none⟩=some (.int .i64 (xs.getD (y*w0+j) 0)):=by rw [Nat.add_assoc];exact c0
           have hput:=PUT.out j hlj
           obtain ⟨x,hx⟩: ∃v,xs.getD (y*w0+j) 0=v:=⟨_,rfl⟩
           rw [hx] at c0 c1 hd hput
           have HPT:=Lib.hid hput
           have hj64:j≤64:=by omega
           clear hput hx hc
           rcases hd with rfl | rfl
           · go_wp2_with (at_builtin;refine wp_appendU _ rfl (.tmp 23) (.tmp 26) rfl w1.heap.size (M+j) _ (intsOf ((textG w0 h0 xs).take (M+j))) rfl (HOj.out.alloc _) wr.heap.size 46 rfl (cell_new1 _ _ _) (by have:=HM.out;omega) (by have:=HWj.out.size;simp;omega) ?_;intro v5 w5 ho5 hg5)
             have HO5:Hid (OwnsU w5 w1.heap.size v5 (M+(j+1)) (intsOf ((textG w0 h0 xs).take (M+(j+1))))):=Lib.hid (by rw [show M+(j+1)=M+j+1 by omega,HPT.out];exact ho5)
             have HW5:=Lib.hid ((HWj.out.alloc HWj.out.size _).grown hg5 (by have:=HWj.out.size;simp;omega) (fun b hb=>(HOj.out.own b hb).1))
             clear ho5 hg5
             go_roundw
             case rel=>exact ⟨j+1,by omega,by go_num,HO5.out,HW5⟩
             case measure=>simp [intOf];omega
           · go_wp2_with (at_builtin;refine wp_appendU _ rfl (.tmp 23) (.tmp 26) rfl w1.heap.size (M+j) _ (intsOf ((textG w0 h0 xs).take (M+j))) rfl (HOj.out.alloc _) wr.heap.size 35 rfl (cell_new1 _ _ _) (by have:=HM.out;omega) (by have:=HWj.out.size;simp;omega) ?_;intro v5 w5 ho5 hg5)
             have HO5:Hid (OwnsU w5 w1.heap.size v5 (M+(j+1)) (intsOf ((textG w0 h0 xs).take (M+(j+1))))):=Lib.hid (by rw [show M+(j+1)=M+j+1 by omega,HPT.out];exact ho5)
             have HW5:=Lib.hid ((HWj.out.alloc HWj.out.size _).grown hg5 (by have:=HWj.out.size;simp;omega) (fun b hb=>(HOj.out.own b hb).1))
             clear ho5 hg5
             go_roundw
             case rel=>exact ⟨j+1,by omega,by go_num,HO5.out,HW5⟩
             case measure=>simp [intOf];omega
         · obtain rfl:j=w0:=by omega
           go_wp2_with (at_builtin;refine wp_appendU _ rfl (.tmp 29) (.tmp 30) rfl w1.heap.size (M+j) _ (intsOf ((textG j h0 xs).take (M+j))) rfl (HOj.out.alloc _) wr.heap.size 10 rfl (cell_new1 _ _ _) (by have:=HM.out;omega) (by have:=HWj.out.size;simp;omega) ?_;intro v5 w5 ho5 hg5)
           have HO5:Hid (OwnsU w5 w1.heap.size v5 ((j+1)*(y+1)) (intsOf ((textG j h0 xs).take ((j+1)*(y+1))))):=Lib.hid (by rw [NXT.out,END.out];exact ho5)
           have HW5:=Lib.hid ((HWj.out.alloc HWj.out.size _).grown hg5 (by have:=HWj.out.size;simp;omega) (fun b hb=>(HOj.out.own b hb).1))
           clear ho5 hg5
           go_roundw
           case rel=>exact ⟨y+1,by omega,by go_num,HO5.out,HW5⟩
           case measure=>simp [intOf];omega
     · obtain rfl:y=h0:=by omega
       have hconv:Sem.run Tryz.prog (convert 22 9 u3) wr= .ok (.string ⟨(textG w0 y xs).toArray⟩) wr:=text_back HO.out (Nat.mul_pos (by omega) b3) (textG_len w0 y xs)
       go_wp2_with fail
       go_ret
       exact ⟨rfl,HBr.out⟩
set_option maxHeartbeats 800000 in
theorem impl_ErrorOf (W H:Int) (ad:Option Addr) (n cap:Nat) (xs:List Int) (W' H':Int) (ad':Option Addr) (n' cap':Nat) (ys:List Int) (w:World)
   (hn:xs.length=n) (ha:Rd w ad xs) (hl:n≤9223372036854775807) (hn':ys.length=n') (ha':Rd w ad' ys) (hl':n'≤9223372036854775807):
   Calls Tryz.prog 111 #[.agg #[.int .i64 W, .int .i64 H, .slice ad n cap], .agg #[.int .i64 W', .int .i64 H', .slice ad' n' cap']] w fun e w'=>e= .returned (.int .i64 (errF W H xs W' H' ys))∧Below w.heap.size w w':=by
 have HN:=Lib.hid hn
 have HA:=Lib.hid ha
 have HN':=Lib.hid hn'
 have HA':=Lib.hid ha'
 clear hn ha hn' ha'
 by_cases hp:pairOk W H xs W' H' ys=true
 case neg=>
   have hp0:pairOk W H xs W' H' ys=false:=by simpa using hp
   rw [errF_no (fun h=>hp h.1)]
   clear hp
   go_enter Tryz.func111,Tryz.ntmps111
   go_wp2_with fail
   refine (impl_arePictures _ _ _ _ _ xs _ _ _ _ _ ys _ HN.out (by exact (HA.out.alloc _).alloc _) hl HN'.out (by exact (HA'.out.alloc _).alloc _) hl').mono ?_
   rintro e w1 ⟨rfl,hb⟩
   have HB1:=Lib.hid (bTrans (bAlloc (bAlloc (Below.refl _ _) _) _) hb)
   have KP1:=Lib.hid (((Blk.new' (g:=w.heap.size) 27 #[.int .i64 W, .int .i64 H, .slice ad n cap] (by first | rfl | simp)).alloc _).below' hb)
   have KQ1:Hid (Blk w1 (w.heap.size+1) 27 #[.int .i64 W', .int .i64 H', .slice ad' n' cap']):=Lib.hid ((Blk.new' (g:=w.heap.size+1) 27 #[.int .i64 W', .int .i64 H', .slice ad' n' cap'] (by simp)).below' hb)
   obtain ⟨l1,c0,c1,c2⟩:=KP1.out.c3
   obtain ⟨m1,d0,d1,d2⟩:=KQ1.out.c3
   clear hb
   rw [hp0]
   go_wp2_with fail
   go_ret
   exact ⟨rfl,HB1.out⟩
 case pos=>
   by_cases hp1:picOk W' H' ys 1=true
   case neg=>
     have hp0:picOk W' H' ys 1=false:=by simpa using hp1
     rw [errF_no (fun h=>hp1 h.2)]
     clear hp1
     go_enter Tryz.func111,Tryz.ntmps111
     go_wp2_with fail
     refine (impl_arePictures _ _ _ _ _ xs _ _ _ _ _ ys _ HN.out (by exact (HA.out.alloc _).alloc _) hl HN'.out (by exact (HA'.out.alloc _).alloc _) hl').mono ?_
     rintro e w1 ⟨rfl,hb⟩
     have HB1:=Lib.hid (bTrans (bAlloc (bAlloc (Below.refl _ _) _) _) hb)
     have KP1:=Lib.hid (((Blk.new' (g:=w.heap.size) 27 #[.int .i64 W, .int .i64 H, .slice ad n cap] (by first | rfl | simp)).alloc _).below' hb)
     have KQ1:Hid (Blk w1 (w.heap.size+1) 27 #[.int .i64 W', .int .i64 H', .slice ad' n' cap']):=Lib.hid ((Blk.new' (g:=w.heap.size+1) 27 #[.int .i64 W', .int .i64 H', .slice ad' n' cap'] (by simp)).below' hb)
     obtain ⟨l1,c0,c1,c2⟩:=KP1.out.c3
     obtain ⟨m1,d0,d1,d2⟩:=KQ1.out.c3
     clear hb
     rw [hp]
     go_wp2_with fail
     refine (impl_IsPlate _ _ _ _ _ ys _ HN'.out (by exact HA'.out.below HB1.out) hl').mono ?_
     rintro e w2 ⟨rfl,hb⟩
     have HB1:=Lib.hid (bTrans HB1.out hb)
     have KP1:=Lib.hid (KP1.out.below' hb)
     have KQ1:=Lib.hid (KQ1.out.below' hb)
     clear c0 c1 c2 d0 d1 d2 hb
     obtain ⟨l1,c0,c1,c2⟩:=KP1.out.c3
     obtain ⟨m1,d0,d1,d2⟩:=KQ1.out.c3
     rw [hp0]
     go_wp2_with fail
     go_ret
     exact ⟨rfl,HB1.out⟩
   case pos=>
     rw [errF_yes HN'.out hp hp1]
     have HNN:=Lib.hid (pairOk_len HN.out HN'.out hp)
     have HI:=Lib.hid (picOk_bd HN.out (pairOk_bd hp).1).2.2
     have HI':=Lib.hid (picOk_bd HN'.out hp1).2.2
     have hn2:n≤1024:=by
       obtain ⟨hs,hq,_⟩:=picOk_bd HN.out (pairOk_bd hp).1
       have:=sizeOk_bd hs
       omega
     go_enter Tryz.func111,Tryz.ntmps111
     go_wp2_with fail
     refine (impl_arePictures _ _ _ _ _ xs _ _ _ _ _ ys _ HN.out (by exact (HA.out.alloc _).alloc _) hl HN'.out (by exact (HA'.out.alloc _).alloc _) hl').mono ?_
     rintro e w1 ⟨rfl,hb⟩
     have HB1:=Lib.hid (bTrans (bAlloc (bAlloc (Below.refl _ _) _) _) hb)
     have KP1:=Lib.hid (((Blk.new' (g:=w.heap.size) 27 #[.int .i64 W, .int .i64 H, .slice ad n cap] (by first | rfl | simp)).alloc _).below' hb)
     have KQ1:Hid (Blk w1 (w.heap.size+1) 27 #[.int .i64 W', .int .i64 H', .slice ad' n' cap']):=Lib.hid ((Blk.new' (g:=w.heap.size+1) 27 #[.int .i64 W', .int .i64 H', .slice ad' n' cap'] (by simp)).below' hb)
     obtain ⟨l1,c0,c1,c2⟩:=KP1.out.c3
     obtain ⟨m1,d0,d1,d2⟩:=KQ1.out.c3
     clear hb
     rw [hp]
     go_wp2_with fail
     refine (impl_IsPlate _ _ _ _ _ ys _ HN'.out (by exact HA'.out.below HB1.out) hl').mono ?_
     rintro e w2 ⟨rfl,hb⟩
     have HB1:=Lib.hid (bTrans HB1.out hb)
     have KP1:=Lib.hid (KP1.out.below' hb)
     have KQ1:=Lib.hid (KQ1.out.below' hb)
     clear c0 c1 c2 d0 d1 d2 hb
     obtain ⟨l1,c0,c1,c2⟩:=KP1.out.c3
     obtain ⟨m1,d0,d1,d2⟩:=KQ1.out.c3
     rw [hp1]
     go_wp2_with fail
     go_loop [5,21] (fun s i=> ∃k:Nat,k≤n∧i= .int .i64 k∧s= .int .i64 (errS xs ys k)) (fun _ i=>n - (intOf i).toNat)
     case atStart=>exact ⟨0,Nat.zero_le _,rfl,rfl⟩
     case round=>
       obtain ⟨k,hk,rfl,rfl⟩:=hrel
       have hkk:n=n':=HNN.out
       by_cases hlt:k<n
       · have hlt':k<n':=by omega
         have HKK:=Lib.hid hkk
         clear hkk
         obtain ⟨ba,oa,hae,hal,hac⟩:=(HA.out.below HB1.out).at (by have:=HN.out;omega)
         have h1:=hac k (by have:=HN.out;omega)
         obtain ⟨bb,ob,hbe,hbl,hbc⟩:=(HA'.out.below HB1.out).at (by have:=HN'.out;omega)
         have h2:=hbc k (by have:=HN'.out;omega)
         subst hae hbe
         clear hac hbc
         obtain ⟨d0,d1⟩:=errD_bd HI.out HI'.out (k:=k) (by have:=HN.out;omega) (by have:=HN'.out;omega)
         obtain ⟨q0,q1⟩:=sq_bd d0 d1
         unfold errD at d0 d1 q0 q1
         obtain ⟨s0,s1⟩:=errS_bd HI.out HI'.out (by have:=HN.out;have:=HN'.out;have:=HNN.out;omega) k (by have:=HN'.out;omega)
         obtain ⟨u0,u1⟩:=within_at HI'.out k (by have:=HN'.out;omega)
         obtain ⟨u2,u3⟩:=within_at HI.out k (by have:=HN.out;omega)
         go_wp2_with fail
         go_round
         case rel=>exact ⟨k+1,by omega,by go_num,rfl⟩
         case measure=>simp [intOf];omega
       · have hlt': ¬k<n':=by omega
         have HKK:=Lib.hid hkk
         clear hkk
         go_wp2_with fail
         go_ret
         obtain rfl:k=n:=by omega
         exact ⟨ret_int (by rw [HKK.out]),HB1.out⟩
end Go.Proofs.YtanccoopbgamdaaGreatDoor
