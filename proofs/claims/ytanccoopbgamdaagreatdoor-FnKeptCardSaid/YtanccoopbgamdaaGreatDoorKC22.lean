/-
  Contracts and plain facts on which the theorem of this claim rests, text 22.
-/
import Derived.DeepKeys4
import Derived.Maps.Own
import Derived.Maps.Views
import Derived.Test.YtanccoopbgamdaaGreatDoorKC1
import Derived.Test.YtanccoopbgamdaaGreatDoorKC2
import Derived.Test.YtanccoopbgamdaaGreatDoorKC9
namespace Go.Proofs.YtanccoopbgamdaaGreatDoor
set_option linter.unusedVariables false
set_option linter.unusedSimpArgs false
structure Sp where
 r:List Int
 x:Int
 y:Int
 dx:Int
 dy:Int
def spInit (s:Nat):Sp:=⟨List.replicate (s*s) (-1),0,0,1,0⟩
def spTurn (s:Nat) (r:List Int) (u v:Int):Bool:=!(decide (0≤u∧u≤(s:Int) - 1)) || (!(decide (0≤v∧v≤(s:Int) - 1)) || decide (0≤r.getD (v*s+u).toNat 0))
def spStep (s:Nat) (n:Nat) (t:Sp):Sp:=
 match spTurn s (t.r.set (t.y*s+t.x).toNat (n:Int)) (t.x+t.dx) (t.y+t.dy) with
 | true=>⟨t.r.set (t.y*s+t.x).toNat (n:Int),t.x - t.dy,t.y+t.dx,-t.dy,t.dx⟩
 | false=>⟨t.r.set (t.y*s+t.x).toNat (n:Int),t.x+t.dx,t.y+t.dy,t.dx,t.dy⟩
def spState (s:Nat):Nat→Sp
 | 0=>spInit s
 | k+1=>spStep s k (spState s k)
def spOk (s:Nat) (t:Sp):Bool:=decide (0≤t.x∧t.x<(s:Int)∧0≤t.y∧t.y<(s:Int)∧-1≤t.dx∧t.dx≤1∧-1≤t.dy∧t.dy≤1∧t.dy*(s:Int)+t.dx≠0)
def spCheck (s:Nat):Nat→Nat→Sp→Bool
 | 0,_,t=>matOk s s t.r
 | f+1,k,t=>spOk s t && spCheck s f (k+1) (spStep s k t)
def spAll:Bool:=[1,2,3,4,5,6,7,8,9,10,11,12,13,14,15,16].all (fun s=>spCheck s (s*s) 0 (spInit s))
theorem spAll_ok:spAll=true:=by decide+kernel
theorem spCheck_at (s:Nat): ∀(f k:Nat),spCheck s f k (spState s k)=true→(∀j,j<f→spOk s (spState s (k+j))=true)∧matOk s s (spState s (k+f)).r=true:=by
 intro f
 induction f with
 | zero=>intro k h;exact ⟨fun j hj=>absurd hj (by omega),h⟩
 | succ f ih=>
   intro k h
   unfold spCheck at h
   rw [Bool.and_eq_true] at h
   have e:spStep s k (spState s k)=spState s (k+1):=rfl
   rw [e] at h
   obtain ⟨h1,h2⟩:=ih (k+1) h.2
   refine ⟨fun j hj=>?_,?_⟩
   · match j with
     | 0=>exact h.1
     | j+1=>have:=h1 j (by omega);rwa [Nat.add_right_comm] at this
   · rwa [Nat.add_right_comm] at h2
theorem sp_facts (s:Nat) (h1:1≤s) (h2:s≤16):(∀j,j<s*s→spOk s (spState s j)=true)∧matOk s s (spState s (s*s)).r=true:=by
 have h:=spAll_ok
 unfold spAll at h
 rw [List.all_eq_true] at h
 have h3:=h s (by simp;omega)
 have h4:=spCheck_at s (s*s) 0 h3
 simpa using h4
theorem sp_len (s k:Nat):(spState s k).r.length=s*s:=by
 induction k with
 | zero=>simp [spState,spInit]
 | succ k ih=>
   simp only [spState,spStep]
   split <;>simp [ih]
def spiralF (side:Int):Mat × Bool:=if 1≤side∧side≤16 then (⟨side,side,(spState side.toNat (side.toNat*side.toNat)).r⟩,true) else (noMat,false)
theorem spiralF_no {s:Int} (h: ¬(1≤s∧s≤16)):spiralF s=(noMat,false):=by unfold spiralF;rw [if_neg h]
theorem spiralF_yes {s:Nat} (h1:1≤s) (h2:s≤16):spiralF (s:Int)=(⟨s,s,(spState s (s*s)).r⟩,true):=by unfold spiralF;rw [if_pos ⟨by omega,by omega⟩];rfl
theorem spOk_bd {s:Nat} {t:Sp} (h:spOk s t=true):0≤t.x∧t.x<(s:Int)∧0≤t.y∧t.y<(s:Int)∧-1≤t.dx∧t.dx≤1∧-1≤t.dy∧t.dy≤1∧t.dy*(s:Int)+t.dx≠0:=by
 unfold spOk at h
 exact of_decide_eq_true h
theorem spStep_turn {s k:Nat} {t:Sp} (h:spTurn s (t.r.set (t.y*s+t.x).toNat (k:Int)) (t.x+t.dx) (t.y+t.dy)=true):spStep s k t=⟨t.r.set (t.y*s+t.x).toNat (k:Int),t.x - t.dy,t.y+t.dx,-t.dy,t.dx⟩:=by
 unfold spStep;rw [h]
theorem spStep_on {s k:Nat} {t:Sp} (h:spTurn s (t.r.set (t.y*s+t.x).toNat (k:Int)) (t.x+t.dx) (t.y+t.dy)=false):spStep s k t=⟨t.r.set (t.y*s+t.x).toNat (k:Int),t.x+t.dx,t.y+t.dy,t.dx,t.dy⟩:=by
 unfold spStep;rw [h]
theorem spTurn_u {s:Nat} {r:List Int} {u v:Int} (h: ¬(0≤u∧u≤(s:Int) - 1)):spTurn s r u v=true:=by
 unfold spTurn;rw [decide_eq_false h];rfl
theorem spTurn_v {s:Nat} {r:List Int} {u v:Int} (h: ¬(0≤v∧v≤(s:Int) - 1)):spTurn s r u v=true:=by
 unfold spTurn;rw [decide_eq_false h];simp
theorem spTurn_r {s:Nat} {r:List Int} {u v x:Int} (h1:0≤u∧u≤(s:Int) - 1) (h2:0≤v∧v≤(s:Int) - 1) (h:r.getD (v*s+u).toNat 0=x):spTurn s r u v=decide (0≤x):=by
 unfold spTurn;rw [decide_eq_true h1,decide_eq_true h2,h];simp
end Go.Proofs.YtanccoopbgamdaaGreatDoor
namespace Go.Proofs.YtanccoopbgamdaaGreatDoor
open Go.ChangeMaps Go.MapKept
open Go.Maps (Keyed)
set_option linter.unusedVariables false
set_option linter.unusedSimpArgs false
theorem cell_laid:laidOutB Tryz.prog=true:=by kernel_rfl
theorem cell_row:(149:TypeId)<Tryz.prog.types.size:=of_decide_eq_true (by kernel_rfl)
theorem cell_wide:(match Tryz.prog.underlying 149 with | some (.array _ _) | some (.struct _)=>true | _=>false)=true:=by rw [Tryz.underlying149]
set_option maxRecDepth 100000 in
theorem cell_law:Keyed Tryz.prog 149:=Keyed.of_law (deep_law_laid cell_laid (m:=2) (by omega) cell_row (by kernel_rfl) cell_wide)
theorem cell_cells:Tryz.prog.cellsOf 149=2:=by kernel_rfl
theorem cell_key:Tryz.prog.keyType 149=true:=by kernel_rfl
def cellV (x y:Int):Value:= .agg #[.int .i64 x, .int .i64 y]
def cellK (x y:Int):Lit:= .string (keyBytes [.int .i64 x, .int .i64 y])
def In64 (x:Int):Prop:=(Lit.int .i64 x).wf=true
theorem in64_of {x:Int} (h1:-9223372036854775808≤x) (h2:x≤9223372036854775807):In64 x:=by
 have e1:IntKind.i64.min=-9223372036854775808:=by decide
 have e2:IntKind.i64.max=9223372036854775807:=by decide
 show (decide (IntKind.i64.min≤x) && decide (x≤IntKind.i64.max))=true
 rw [e1,e2,Bool.and_eq_true]
 exact ⟨decide_eq_true h1,decide_eq_true h2⟩
theorem cell_int:Tryz.prog.cellsOf 3=1:=by kernel_rfl
theorem cell_lit {x:Int} (hx:In64 x) (d:Nat):Tryz.prog.keyLits (d+1) 3 [.int .i64 x]=some [.int .i64 x]:=by
 unfold Program.keyLits
 rw [Tryz.underlying3]
 have hx':(Lit.int .i64 x).wf=true:=hx
 simp [hx']
theorem cell_keyOf {x y:Int} (hx:In64 x) (hy:In64 y):keyOf Tryz.prog 149 (cellV x y)=some (cellK x y):=by
 have h1:(Value.agg #[.int .i64 x, .int .i64 y]).formed Tryz.prog 149=true:=by simp [Value.formed,Tryz.underlying149,cell_cells]
 have h2: ∀d,Tryz.prog.keyLits (d+2) 149 [.int .i64 x, .int .i64 y]=some [.int .i64 x, .int .i64 y]:=by
   intro d
   unfold Program.keyLits
   rw [Tryz.underlying149]
   simp [cell_cells,cell_int,cell_lit hx,cell_lit hy]
 have hs: ∃n,Tryz.prog.types.size+1=n+2:=⟨Tryz.prog.types.size - 1,by have h:(149:Nat)<Tryz.prog.types.size:=cell_row;omega⟩
 obtain ⟨n,hn⟩:=hs
 unfold keyOf cellV cellK
 rw [Tryz.underlying149,hn]
 simp [cell_key,h1,Value.cells,h2]
theorem cellK_inj {x y x' y':Int} (hx:In64 x) (hy:In64 y) (hx':In64 x') (hy':In64 y') (h:cellK x y=cellK x' y'):x=x'∧y=y':=by
 have h1:=cell_keyOf hx hy
 rw [h] at h1
 have h2:=cell_law.inj h1 (cell_keyOf hx' hy')
 unfold cellV at h2
 simpa using h2
theorem cell_zero (w:World):(zeroValue 4).run Tryz.prog w= .ok (.bool false) w:=by kernel_rfl
theorem plainElem_bool_inv {H:Type} {P:Program} {e:TypeId} (he:P.underlying e=some .bool) {v:Value} {b:Bool} {ps:List MemPlace} (h:plainElem (H:=H) P e v=some (.lit (.bool b),ps)):v= .bool b:=by
 unfold plainElem at h
 rw [he] at h
 cases v <;>simp at h
 rw [h.1]
def VM (w:World) (b n:Nat) (S:Int→Int→Bool):Prop:=
 ∃D:DataW Unit,Maps.IsMap D∧w.ownsMap Tryz.prog 149 (plainElem Tryz.prog 4) b n D∧ ∀x y,In64 x→In64 y→D.atKey (cellK x y) (.lit (.bool false))= .lit (.bool (S x y))
theorem vm_made (w:World):VM (w.alloc (.map #[] 0)) w.heap.size 0 (fun _ _=>false):=
 ⟨.map [],Maps.isMap_empty,World.ownsMap_made w _ _ _,fun x y _ _=>rfl⟩
theorem VM.kept {w w':World} {b n:Nat} {S:Int→Int→Bool} {row:Option Nat} (h:VM w b n S) (hg:w.grownBy w' row) (hne:some b≠row):VM w' b n S:=by
 obtain ⟨D,h1,h2,h3⟩:=h
 exact ⟨D,h1,h2.kept hg hne,h3⟩
theorem VM.alloc {w:World} {b n:Nat} {S:Int→Int→Bool} (h:VM w b n S) (o:Obj):VM (w.alloc o) b n S:=h.kept (World.grownBy_alloc w o none) (by simp)
theorem VM.drew {w:World} {b n:Nat} {S:Int→Int→Bool} (h:VM w b n S):VM w.drew b n S:=h
theorem VM.lt {w:World} {b n:Nat} {S:Int→Int→Bool} (h:VM w b n S):b<w.heap.size:=by
 obtain ⟨D,h1,h2,h3⟩:=h
 exact h2.lt
theorem VM.look {w:World} {b n:Nat} {S:Int→Int→Bool} (h:VM w b n S) {x y:Int} (hx:In64 x) (hy:In64 y):
   (Instr.lookup 147 (.map (some b)) (cellV x y) false).run Tryz.prog w= .ok (.bool (S x y)) w:=by
 obtain ⟨D,h1,h2,h3⟩:=h
 obtain ⟨v,ps,hrun,hv⟩:=h2.lookup cell_law Tryz.underlying147 (cell_zero w) (plainElem_bool Tryz.underlying4 false) (cell_keyOf hx hy)
 rw [h3 x y hx hy] at hv
 rw [plainElem_bool_inv Tryz.underlying4 hv] at hrun
 exact hrun
def putS (S:Int→Int→Bool) (x y:Int):Int→Int→Bool:=fun u v=>(decide (u=x) && decide (v=y)) || S u v
theorem wp_vmPut (w:World) {ops:Array Oper} {rest:List Oper} {o:Oper} {a:Act} {Q:Exit→Act→World→Prop}
   (hg:o.guard=none) (m x v:Operand) (hop:o.op=Op.mapUpdate 147 m x v)
   (b n:Nat) (S:Int→Int→Bool) (X Y:Int) (hm:a.eval m= .map (some b)) (hown:VM w b n S) (hn:n<maxLen) (hx:a.eval x=cellV X Y) (hv:a.eval v= .bool true) (hX:In64 X) (hY:In64 Y)
   (hK: ∀w',VM w' b (n+1) (putS S X Y)→w.grownBy w' (some b)→wpList Tryz.prog ops Q rest (a.put o.dst undef) w'):
   wpList Tryz.prog ops Q (o::rest) a w:=by
 obtain ⟨D,h1,h2,h3⟩:=hown
 refine wpList_mapUpdate_own w hg m x v _ hop _ _ cell_law Tryz.underlying147 _ b n D hm h2 hn _ _ _ hx hv (cell_keyOf hX hY) _ _ (plainElem_bool Tryz.underlying4 true) (fun w' r1 r2=>hK w' ⟨_,h1.put _ _,r1,?_⟩ r2)
 intro u v hu hv
 by_cases e:u=X∧v=Y
 · obtain ⟨rfl,rfl⟩:=e
   rw [Maps.atKey_put_same h1 (cell_law.key (cell_keyOf hX hY))]
   simp [putS]
 · have hne:cellK u v≠cellK X Y:=fun hh=>e (cellK_inj hu hv hX hY hh)
   rw [Maps.atKey_put_other hne,h3 u v hu hv]
   have:(decide (u=X) && decide (v=Y))=false:=by
     simp only [Bool.and_eq_false_iff,decide_eq_false_iff_not]
     by_cases e1:u=X
     · exact Or.inr (fun e2=>e ⟨e1,e2⟩)
     · exact Or.inl e1
   simp [putS,this]
theorem wp_makeMap (w:World) {ops:Array Oper} {rest:List Oper} {o:Oper} {a:Act} {Q:Exit→Act→World→Prop} {t:TypeId}
   (hg:o.guard=none) (hop:o.op=Op.makeMap t none)
   (hK:wpList Tryz.prog ops Q rest (a.put o.dst (.map (some w.heap.size))) (w.alloc (.map #[] 0))):wpList Tryz.prog ops Q (o::rest) a w:=by
 refine wpList_plain hg fun K hK'=>?_
 have hr:(Instr.makeMap t none).run Tryz.prog w= .ok (.map (some w.heap.size)) (w.alloc (.map #[] 0)):=rfl
 unfold Oper.wp
 simp [execOp,hop,hr,Result.andThen]
 exact hK' _ _ hK
theorem VM.same {w w':World} {b n:Nat} {S:Int→Int→Bool} (h:VM w b n S) (hb:w'.heap[b]? =w.heap[b]?):VM w' b n S:=by
 obtain ⟨D,h1,⟨es,clock,h2,h3⟩,h4⟩:=h
 exact ⟨D,h1,⟨es,clock,hb.trans h2,h3⟩,h4⟩
end Go.Proofs.YtanccoopbgamdaaGreatDoor
namespace Go.Proofs.YtanccoopbgamdaaGreatDoor
open Go.RowKit
set_option linter.unusedVariables false
set_option linter.unusedSimpArgs false
set_option maxHeartbeats 400000 in
theorem impl_plusW (a b c d:Int) (w:World) (h1:IntKind.i64.wrap (a+c)=a+c) (h2:IntKind.i64.wrap (b+d)=b+d):
   Calls Tryz.prog 119 #[.agg #[.int .i64 a, .int .i64 b], .agg #[.int .i64 c, .int .i64 d]] w fun e w'=>e= .returned (.agg #[.int .i64 (a+c), .int .i64 (b+d)])∧Below w.heap.size w w':=by
 go_enter Tryz.func119,Tryz.ntmps119
 go_wp2
 refine bodyPost_ret (v:= .agg #[.int .i64 (a+c), .int .i64 (b+d)]) (by simp [results,Tryz.results119,go_sem]) rfl ⟨rfl,(Joins.below_alloc2 _ _ _).trans ((Joins.below_alloc1 _ _).mono (by simp;omega))⟩
set_option maxHeartbeats 400000 in
theorem impl_turned (a b:Int) (w:World) (h1:IntKind.i64.wrap (-b)=-b):
   Calls Tryz.prog 121 #[.agg #[.int .i64 a, .int .i64 b]] w fun e w'=>e= .returned (.agg #[.int .i64 (-b), .int .i64 a])∧Below w.heap.size w w':=by
 go_enter Tryz.func121,Tryz.ntmps121
 go_wp2
 refine bodyPost_ret (v:= .agg #[.int .i64 (-b), .int .i64 a]) (by simp [results,Tryz.results121,go_sem]) rfl ⟨rfl,Joins.below_alloc2 _ _ _⟩
theorem cell_idx {s:Nat} {x y u v:Int} (x0:0≤x) (x1:x<(s:Int)) (u0:0≤u) (u1:u<(s:Int)) (h:v*(s:Int)+u=y*(s:Int)+x):u=x∧v=y:=by
 have hs:(0:Int)≤(s:Int):=by omega
 have hvy:v=y:=by
   rcases Int.lt_trichotomy v y with h1 | h1 | h1
   · have:=Int.mul_le_mul_of_nonneg_right (show v+1≤y by omega) hs
     rw [Int.add_mul,Int.one_mul] at this
     omega
   · exact h1
   · have:=Int.mul_le_mul_of_nonneg_right (show y+1≤v by omega) hs
     rw [Int.add_mul,Int.one_mul] at this
     omega
 subst hvy
 exact ⟨by omega,rfl⟩
theorem putS_ok {s k:Nat} {r:List Int} {S:Int→Int→Bool} {x y:Int} (hl:r.length=s*s) (x0:0≤x) (x1:x<(s:Int)) (y0:0≤y) (y1:y<(s:Int))
   (h: ∀u v,0≤u∧u≤(s:Int) - 1→0≤v∧v≤(s:Int) - 1→S u v=decide (0≤r.getD (v*s+u).toNat 0)):
   ∀u v,0≤u∧u≤(s:Int) - 1→0≤v∧v≤(s:Int) - 1→putS S x y u v=decide (0≤(r.set (y*s+x).toNat (k:Int)).getD (v*s+u).toNat 0):=by
 intro u v hu hv
 obtain ⟨i0,i1⟩:=row_bd x0 x1 y0 y1
 obtain ⟨j0,j1⟩:=row_bd (x:=u) (y:=v) (W:=(s:Int)) (H:=(s:Int)) hu.1 (by omega) hv.1 (by omega)
 have hlt:(y*(s:Int)+x).toNat<r.length:=by
   rw [hl]
   have e:((s*s:Nat):Int)=(s:Int)*(s:Int):=by simp
   omega
 rw [getD_set _ _ _ _ hlt]
 unfold putS
 by_cases e:u=x∧v=y
 · obtain ⟨rfl,rfl⟩:=e
   rw [if_pos rfl]
   simp
 · have hne:(y*(s:Int)+x).toNat≠(v*(s:Int)+u).toNat:=fun hh=>e (cell_idx x0 x1 hu.1 (by omega) (by omega))
   rw [if_neg hne,h u v hu hv]
   have:(decide (u=x) && decide (v=y))=false:=by
     simp only [Bool.and_eq_false_iff,decide_eq_false_iff_not]
     by_cases e1:u=x
     · exact Or.inr (fun e2=>e ⟨e1,e2⟩)
     · exact Or.inl e1
   rw [this]
   simp
theorem spTurn_b {s:Nat} {r:List Int} {u v:Int} {b:Bool} (h:0≤u∧u≤(s:Int) - 1→0≤v∧v≤(s:Int) - 1→b=decide (0≤r.getD (v*s+u).toNat 0)) (hb:b=true):spTurn s r u v=true:=by
 by_cases hu:0≤u∧u≤(s:Int) - 1
 · by_cases hv:0≤v∧v≤(s:Int) - 1
   · unfold spTurn
     rw [←h hu hv,hb]
     simp
   · exact spTurn_v hv
 · exact spTurn_u hu
theorem spTurn_on {s:Nat} {r:List Int} {u v:Int} {b:Bool} (h:0≤u∧u≤(s:Int) - 1→0≤v∧v≤(s:Int) - 1→b=decide (0≤r.getD (v*s+u).toNat 0)) (hb:b=false) (hu:0≤u∧u≤(s:Int) - 1) (hv:0≤v∧v≤(s:Int) - 1):spTurn s r u v=false:=by
 unfold spTurn
 rw [←h hu hv,hb,decide_eq_true hu,decide_eq_true hv]
 rfl
def cl (r:List Int):List Int:=r.map (fun v=>if v<0 then 0 else v)
theorem cl_start (n:Nat):cl (List.replicate n (-1))=List.replicate n 0:=by unfold cl;rw [List.map_replicate];rfl
theorem cl_set (r:List Int) (i k:Nat):cl (r.set i (k:Int))=(cl r).set i (k:Int):=by
 unfold cl
 rw [List.map_set,if_neg (by omega)]
theorem cl_end {r:List Int} (h: ∀v ∈ r,0≤v):cl r=r:=by
 unfold cl
 conv=>rhs;rw [←List.map_id r]
 exact List.map_congr_left (fun v hv=>by have:=h v hv;rw [if_neg (by omega)];rfl)
theorem sp_start {s:Nat} {u v:Int} (hu:0≤u∧u≤(s:Int) - 1) (hv:0≤v∧v≤(s:Int) - 1):false=decide (0≤(spState s 0).r.getD (v*s+u).toNat 0):=by
 obtain ⟨j0,j1⟩:=row_bd (x:=u) (y:=v) (W:=(s:Int)) (H:=(s:Int)) hu.1 (by omega) hv.1 (by omega)
 have e:((s*s:Nat):Int)=(s:Int)*(s:Int):=by simp
 have hlt:(v*(s:Int)+u).toNat<s*s:=by omega
 have h:(spState s 0).r.getD (v*s+u).toNat 0=-1:=by
   simp only [spState,spInit,List.getD]
   rw [List.getElem?_replicate,if_pos hlt]
   rfl
 rw [h]
 rfl
theorem mat_pos {W H:Int} {xs:List Int} (h:matOk W H xs=true): ∀v ∈ xs,0≤v:=by
 obtain ⟨_,_,h3,_⟩:=matOk_bd rfl h
 unfold inR at h3
 rw [List.all_eq_true] at h3
 intro v hv
 have:=h3 v hv
 simp at this
 omega
set_option maxHeartbeats 6400000 in
theorem spec_SpiralMatrix (ss:Int) (w:World):Calls Tryz.prog 71 #[.int .i64 ss] w (MatOut2 w (spiralF ss)):=by
 by_cases hs:1≤ss∧ss≤16
 case neg=>
   rw [spiralF_no hs]
   go_enter Tryz.func71,Tryz.ntmps71
   go_wp2_with fail
   refine (spec_l1In_no _ _ _ _ hs).mono ?_
   rintro e w2 ⟨rfl,rfl⟩
   go_wp2_with fail
   exact bodyPost_ret (v:= .tuple #[.agg #[.int .i64 0, .int .i64 0, .slice none 0 0], .bool false]) (by simp [results,Tryz.results71,go_sem]) rfl ⟨none,0,0,rfl,OwnA.none _ _,by omega,Joins.below_alloc1 _ _⟩
 case pos=>
   obtain ⟨s,rfl⟩: ∃s:Nat,ss=(s:Int):=⟨ss.toNat,by omega⟩
   have s1:1≤s:=by omega
   have s2:s≤16:=by omega
   rw [spiralF_yes s1 s2]
   obtain ⟨n,hn⟩: ∃n:Nat,n=s*s:=⟨_,rfl⟩
   have HN:=Lib.hid hn
   have HQ:Hid ((n:Int)=(s:Int)*(s:Int)):=Lib.hid (by rw [hn];simp)
   have hn2:n≤256:=by rw [hn];exact Nat.mul_le_mul s2 s2
   have hn1:1≤n:=by rw [hn];exact Nat.mul_le_mul s1 s1
   have HF:=Lib.hid (sp_facts s s1 s2)
   have hb0:1≤(s:Int)*(s:Int)∧(s:Int)*(s:Int)≤256:=by have:=HQ.out;omega
   obtain ⟨hb1,hb2⟩:=hb0
   rw [←HN.out]
   clear hn
   go_enter Tryz.func71,Tryz.ntmps71
   go_wp2_with fail
   refine (spec_l1In_yes _ _ _ _ hs.1 hs.2).mono ?_
   rintro e w2 ⟨rfl,rfl⟩
   clear hs
   go_wp2_with fail
   go_loopw [5] (fun i wr=> ∃(k:Nat) (ad':Option Addr) (cap':Nat),k≤n∧i= .int .i64 k∧OwnA wr (w.heap.size+1+1) ad' k cap' (gen k ((fun _=>(-1:Int))))∧Blk wr (w.heap.size+1) 31 #[.int .i64 ((s:Int)), .int .i64 ((s:Int)), .slice ad' k cap']∧Below (w.heap.size+1) (w.alloc (.cells #[.int .i64 0, .int .i64 0, .slice none 0 0] 31)) wr) (fun i _=>n - (intOf i).toNat)
   case atStart=>exact ⟨0,none,0,Nat.zero_le _,rfl,OwnA.none _ _,by first | exact Blk.new _ _ _ | exact Blk.new' _ _ (by simp),by first | exact Joins.below_alloc1 _ _ | exact (Below.refl _ _).alloc (by simp) _⟩
   case round=>
     obtain ⟨k,ad',cap',hk,rfl,ho,hb',hw'⟩:=hrel
     have HO:=Lib.hid ho
     have KB:=Lib.hid hb'
     have HW:=Lib.hid hw'
     obtain ⟨l0,o0,o1,o2⟩:=KB.out.c3
     clear ho hb' hw'
     by_cases hlt:k<n
     · have hlt2:(k:Int)<(s:Int)*(s:Int):=by have:=HQ.out;omega
       go_wp2_with (at_builtin;refine wp_append _ rfl (.tmp 29) (.tmp 30) rfl (w.heap.size+1+1) k cap' ad' _ rfl (HO.out.alloc _) wr.heap.size ((-1:Int)) rfl (by go_simp) (by omega) (by have:=KB.out.lt;simp;omega) ?_;intro ad2 cap2 w5 ho5 hg5;have KB5:=Lib.hid (app_blk HO.out hg5 KB.out (by omega));obtain ⟨l5,p0,p1,p2⟩:=KB5.out.c3;obtain ⟨f0,f1,f2⟩:=KB5.out.f3)
       have HW5:=Lib.hid (app_below HO.out hg5 HW.out (by omega) (by have:=KB.out.lt;omega))
       have HO5:=Lib.hid ho5
       clear ho5 hg5
       go_roundw
       case rel=>exact ⟨k+1,ad2,cap2,by omega,by go_num,(by rw [←gen_snoc];exact HO5.out.other (by simp) _),by first | exact KB5.out.set 2 _ | (have h:=KB5.out.set 2 (.slice ad2 (k+1) cap2);simpa using h),HW5.out.setCell (by simp) _⟩
       case measure=>simp [intOf];omega
     · have hlt2 : ¬(k:Int)<(s:Int)*(s:Int):=by have:=HQ.out;omega
       obtain rfl:n=k:=by omega
       obtain ⟨g,hge,HG,HO3⟩: ∃g,ad'=some ⟨g,0,none⟩∧Hid (w.heap.size+1+1≤g)∧Hid (Own wr g n cap' (spState s 0).r):=by
         rcases HO.out with ⟨_,h,_⟩ | ⟨g,h1,h2,h3⟩
         · omega
         · refine ⟨g,h1,h2,?_⟩
           have e:(spState s 0).r=gen n (fun _=>(-1:Int)):=by
             simp only [spState,spInit]
             rw [←HN.out]
             refine gen_ext n _ _ (by simp) (fun i hi=>?_)
             simp [List.getD,hi]
           rw [e];exact h3
       subst hge
       clear HO
       obtain ⟨w5,rfl⟩: ∃w5:World,w5=wr:=⟨_,rfl⟩
       have N1:g≠w.heap.size+1:=by have:=HG.out;omega
       go_wp2_with fail
       go_loopw [6,7,8,9,36] (fun x y dx dy i wr=> ∃(k:Nat) (t:Sp),k≤n∧i= .int .i64 k∧x= .int .i64 t.x∧y= .int .i64 t.y∧dx= .int .i64 t.dx∧dy= .int .i64 t.dy∧Hid (t=spState s k)∧Own wr g n cap' t.r∧w5.grownBy wr (some g)) (fun _ _ _ _ i _=>n - (intOf i).toNat)
       case atStart=>exact ⟨0,spState s 0,Nat.zero_le _,rfl,rfl,rfl,rfl,rfl,rfl,HO3.out,grown_refl _ _⟩
       case round=>
         obtain ⟨k,t,hk,rfl,rfl,rfl,rfl,rfl,HT,ho,hg⟩:=hrel
         have KBk:=Lib.hid (KB.out.grown hg (by intro e;have:=Option.some.inj e;have:=HG.out;omega))
         have HO4:=Lib.hid ho
         have HG4:=Lib.hid hg
         clear o0 o1 o2 l0 ho hg
         obtain ⟨l0,o0,o1,o2⟩:=KBk.out.c3
         by_cases hlt:k<n
         · obtain ⟨x0,x1,y0,y1,dx0,dx1,dy0,dy1,dne⟩:=spOk_bd (s:=s) (t:=t) (by rw [HT.out];exact HF.out.1 k (by have:=HN.out;omega))
           obtain ⟨i0,i1⟩:=row_bd x0 x1 y0 y1
           have i2:(t.y*(s:Int)+t.x).toNat<n:=by have:=HQ.out;omega
           have i3:t.y*(s:Int)+t.x<(n:Int):=by have:=HQ.out;omega
           have g2:=HO4.out.cell i2
           have g3:=HO4.out.frozen (t.y*(s:Int)+t.x).toNat
           have HDN:=Lib.hid dne
           clear dne i1
           by_cases hu:0≤t.x+t.dx∧t.x+t.dx≤(s:Int) - 1
           · by_cases hv:0≤t.y+t.dy∧t.y+t.dy≤(s:Int) - 1
             · obtain ⟨j0,j1⟩:=row_bd (x:=t.x+t.dx) (y:=t.y+t.dy) (W:=(s:Int)) (H:=(s:Int)) hu.1 (by omega) hv.1 (by omega)
               have j2:((t.y+t.dy)*(s:Int)+(t.x+t.dx)).toNat<n:=by have:=HQ.out;omega
               have j3:(t.y+t.dy)*(s:Int)+(t.x+t.dx)<(n:Int):=by have:=HQ.out;omega
               have g4:=HO4.out.cell j2
               have hne:(t.y*(s:Int)+t.x).toNat≠((t.y+t.dy)*(s:Int)+(t.x+t.dx)).toNat:=by
                 have e:(t.y+t.dy)*(s:Int)=t.y*(s:Int)+t.dy*(s:Int):=Int.add_mul _ _ _
                 have:=HDN.out
                 omega
               have hrd:(t.r.set (t.y*(s:Int)+t.x).toNat (k:Int)).getD ((t.y+t.dy)*(s:Int)+(t.x+t.dx)).toNat 0=t.r.getD ((t.y+t.dy)*(s:Int)+(t.x+t.dx)).toNat 0:=by
                 rw [getD_set _ _ _ _ (by rw [HO4.out.len];exact i2),if_neg hne]
               have HTR:=Lib.hid (spTurn_r hu hv hrd)
               clear hrd j1
               by_cases hr:0≤t.r.getD ((t.y+t.dy)*(s:Int)+(t.x+t.dx)).toNat 0
               · have HTT:=Lib.hid (HTR.out.trans (decide_eq_true hr))
                 simp only [List.getD] at hr
                 go_wp2_with fail
                 refine (spec_l1In_yes _ _ _ _ hu.1 hu.2).mono ?_
                 rintro e w9 ⟨rfl,rfl⟩
                 go_wp2_with fail
                 refine (spec_l1In_yes _ _ _ _ hv.1 hv.2).mono ?_
                 rintro e w9 ⟨rfl,rfl⟩
                 go_wp2_with fail
                 go_roundw
                 case rel=>
                   have E:=spStep_turn HTT.out
                   refine ⟨k+1,spStep s k t,by omega,by go_num,?_,?_,?_,?_,?_,?_,grown_set HG4.out _⟩
                   · rw [E];go_num
                   · rw [E]
                   · rw [E]
                   · rw [E]
                   · rw [HT.out];rfl
                   · rw [E];exact HO4.out.set _ _
                 case measure=>simp [intOf];omega
               · have HTT:=Lib.hid (HTR.out.trans (decide_eq_false hr))
                 simp only [List.getD] at hr
                 go_wp2_with fail
                 refine (spec_l1In_yes _ _ _ _ hu.1 hu.2).mono ?_
                 rintro e w9 ⟨rfl,rfl⟩
                 go_wp2_with fail
                 refine (spec_l1In_yes _ _ _ _ hv.1 hv.2).mono ?_
                 rintro e w9 ⟨rfl,rfl⟩
                 go_wp2_with fail
                 go_roundw
                 case rel=>
                   have E:=spStep_on HTT.out
                   refine ⟨k+1,spStep s k t,by omega,by go_num,?_,?_,?_,?_,?_,?_,grown_set HG4.out _⟩
                   · rw [E]
                   · rw [E]
                   · rw [E]
                   · rw [E]
                   · rw [HT.out];rfl
                   · rw [E];exact HO4.out.set _ _
                 case measure=>simp [intOf];omega
             · have HTT:=Lib.hid (spTurn_v (r:=t.r.set (t.y*(s:Int)+t.x).toNat (k:Int)) (u:=t.x+t.dx) hv)
               go_wp2_with fail
               refine (spec_l1In_yes _ _ _ _ hu.1 hu.2).mono ?_
               rintro e w9 ⟨rfl,rfl⟩
               go_wp2_with fail
               refine (spec_l1In_no _ _ _ _ hv).mono ?_
               rintro e w9 ⟨rfl,rfl⟩
               go_wp2_with fail
               go_roundw
               case rel=>
                 have E:=spStep_turn HTT.out
                 refine ⟨k+1,spStep s k t,by omega,by go_num,?_,?_,?_,?_,?_,?_,grown_set HG4.out _⟩
                 · rw [E];go_num
                 · rw [E]
                 · rw [E]
                 · rw [E]
                 · rw [HT.out];rfl
                 · rw [E];exact HO4.out.set _ _
               case measure=>simp [intOf];omega
           · have HTT:=Lib.hid (spTurn_u (r:=t.r.set (t.y*(s:Int)+t.x).toNat (k:Int)) (v:=t.y+t.dy) hu)
             go_wp2_with fail
             refine (spec_l1In_no _ _ _ _ hu).mono ?_
             rintro e w9 ⟨rfl,rfl⟩
             go_wp2_with fail
             go_roundw
             case rel=>
               have E:=spStep_turn HTT.out
               refine ⟨k+1,spStep s k t,by omega,by go_num,?_,?_,?_,?_,?_,?_,grown_set HG4.out _⟩
               · rw [E];go_num
               · rw [E]
               · rw [E]
               · rw [E]
               · rw [HT.out];rfl
               · rw [E];exact HO4.out.set _ _
             case measure=>simp [intOf];omega
         · obtain rfl:n=k:=by omega
           have HB5:=Lib.hid ((Joins.below_alloc1 w (.cells #[.int .i64 0, .int .i64 0, .slice none 0 0] 31)).trans (HW.out.mono (by simp)))
           have HBr:=Lib.hid (HB5.out.grown HG4.out HB5.out.size (fun b hb=>by cases hb;have:=HG.out;omega))
           have KR:=Lib.hid (((Blk.new w 31 #[.int .i64 0, .int .i64 0, .slice none 0 0]).below HW.out (by simp)).grown HG4.out (by intro e;have:=Option.some.inj e;have:=HG.out;omega))
           have HO5:Hid (Own wr g n cap' (spState s n).r):=Lib.hid (by rw [←HT.out];exact HO4.out)
           obtain ⟨r0,r1,r2,r3⟩:=KR.out.c3
           obtain ⟨q0,q1,q2⟩:=KR.out.f3
           go_wp2_with fail
           exact bodyPost_ret (v:= .tuple #[.agg #[.int .i64 s, .int .i64 s, .slice (some ⟨g,0,none⟩) n cap'], .bool true]) (by simp [results,Tryz.results71,go_sem,r1,r2,r3]) rfl
             ⟨_,_,_,rfl,OwnA.mk (((HO5.out.other (by have:=HG.out;simp;omega) _).other (by have:=HG.out;simp;omega) _).other (by have:=HG.out;simp;omega) _) (by have:=HG.out;omega),by omega,
               ((HBr.out.setCell (by simp) _).setCell (by simp) _).setCell (by simp) _⟩
end Go.Proofs.YtanccoopbgamdaaGreatDoor
