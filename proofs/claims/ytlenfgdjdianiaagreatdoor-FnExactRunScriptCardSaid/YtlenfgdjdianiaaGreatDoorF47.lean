/- Facts on which this claim rests, 47. -/
import Derived.Test.YtlenfgdjdianiaaGreatDoorF46
set_option linter.all false
set_option maxHeartbeats 6400000
namespace Go.Proofs.YtlenfgdjdianiaaGreatDoor.xRunScript
open Go.ChangeShapes Go.WideShapes Go.ChangeAt Go.RowKit
open Go.Proofs.YtlenfgdjdianiaaGreatDoor (om sI sO sD zK dC aS nC oh og zB zC zN Jh Jr Jd Jm oS oT nI nZ bR nJ nV)
open Go.Proofs.YtlenfgdjdianiaaGreatDoor.Tq Go.Proofs.Tryz
set_option maxRecDepth 100000 in
theorem no0 (s:ByteArray) (w:World) (h1:1048576<s.size) (h2:s.size<=9223372036854775807):
 Calls prog 4 #[.string s] w (zR (.bool true) w):=by
 have a:(1048576:Int)<(s.size:Int):=om;go_in;go_wp2_with fail;go_ret;exact ⟨rfl,bR⟩
set_option maxRecDepth 100000 in
theorem ok (s:ByteArray) (w:World) (k:s.size<=1048576) (hL:jt w):
 Calls prog 4 #[.string s] w (zR (.bool true) w):=by
 have g:=Jh hL;have l:(s.size:Int)<=1048576:=om;clear hL;obtain ⟨R,j⟩: ∃R,je s=R:=⟨_,rfl⟩
 have i:=Jh j;clear j;go_in;go_wp2_with fail;refine (zCT s _ k).mono ?_;rintro e w1 ⟨rfl,b⟩;rw [i.Z];have a:=Jh b;clear b;go_wp2_with fail;refine (zCC s _ k (g.Z.below a.Z)).mono ?_;rintro e w2 ⟨rfl,c⟩;rw [i.Z];have f:=Jh (zI a.Z c);clear c;go_wp2_with fail;go_ret;exact ⟨rfl,f.Z⟩
theorem okAll: ∀(s:ByteArray) (w:World),s.size<=9223372036854775807->jt w->Calls prog 4 #[.string s] w (zR (.bool true) w):=by
 intro s w hl hL;by_cases a:s.size<=1048576
 case neg=>exact no0 s w om hl
 exact ok s w a hL
end Go.Proofs.YtlenfgdjdianiaaGreatDoor.xRunScript
namespace Go.Proofs.YtlenfgdjdianiaaGreatDoor.jERunScript
open Go.ChangeShapes Go.WideShapes Go.ChangeAt Go.RowKit Go.Lib
open Go.Proofs.YtlenfgdjdianiaaGreatDoor (om sI sO sD zK dC aS nC oh og zB zC zN Jh Jr Jd Jm oS oT nI nZ bR nJ nV)
open Go.Proofs.YtlenfgdjdianiaaGreatDoor.Tq Go.Proofs.Tryz
set_option maxRecDepth 100000 in
theorem zQc (ok: ∀(s:ByteArray) (w:World),s.size<=9223372036854775807->jt w->Calls prog 4 #[.string s] w (zR (.bool true) w)) (os:Os) (b:os.Started) (H:Type) (enc:TypeId × Value->H):
 ReturnsInHanded {} Tryz.checked os 4 .any (fun w args=>(Rows.fnExactRunScriptSpec.pre enc prog Tryz.f4 [] false w args/\laidMetH prog JN w)/\sizedMet enc prog Tryz.f4 (OpenSpec.ofChange Rows.fnExactRunScriptSpec) false w args)
  (Rows.fnExactRunScriptSpec.post enc prog Tryz.f4 false true false false):=by
 refine zOD (C:=Tryz.checked) (X:=fun w _=>laidMetH prog JN w) (fun _ _ _ F h=>h.of_heap F) own b zK func4
  (ChangeSpec.witness_shaped (enc:=enc) (C:=Tryz.checked) (os:=os) (X:=fun w _=>laidMetH prog JN w) false (World.laidAll prog os JN) #[.string ⟨#[]⟩] 8 (World.laidAll_os _ _ _)
   (World.shaped_of_ZipB zK zK) zK zK zK
   (by rw [MakeChecks.laidMetH_plain _ _ _ zK];exact laidMet_laidAll _ zK zK)) ?_
 intro W base args z N g a l hL o;have c: ∀(j:Nat) t v,Tryz.f4.params[j]? =some t->args[j]? =some v->Value.okWide prog W .any base t v:=a;have m:=l;have G:=l.lt;obtain ⟨p,q,f,D,rfl,E,I⟩:=l;have x:DataW.TrodAll enc prog W 0 (fun _=>true) true Tryz.f4.params.toList args.toList z p:=f;rw [params4] at x c;obtain ⟨v0,L,M,A,O,P,n,rfl,rfl,B,J⟩:=trodAll_cons x;obtain ⟨rfl,rfl,rfl⟩:=trodAll_nil J;obtain rfl:args=#[v0]:=by cases args;simp_all
 obtain ⟨rfl,rfl⟩:=trodVars_none D;clear f a;obtain ⟨y,rfl,rfl,rfl,u⟩:=Go.ChangeMaps.open_string underlying9 (c 0 9 v0 rfl rfl) B
 have k: ∀(e:Ending) i,(e= .returned (.bool true)/\Below W W i)-> ∃v,e= .returned v/\Rows.fnExactRunScriptSpec.post enc prog Tryz.f4 false true false false W #[.string y] v i:=by
  rintro e i ⟨rfl,hb⟩;exact ⟨_,rfl,zNY rfl rfl m zK rfl hb⟩
 exact (ok y W (by unfold maxLen at u;omega) (zNX hL o)).mono k
end Go.Proofs.YtlenfgdjdianiaaGreatDoor.jERunScript
