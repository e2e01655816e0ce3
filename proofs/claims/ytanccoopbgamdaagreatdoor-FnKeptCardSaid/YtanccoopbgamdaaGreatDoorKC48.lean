/-
  Contracts and plain facts on which the theorem of this claim rests, text 48.
-/
import Derived.Test.YtanccoopbgamdaaGreatDoorKC11
namespace Go.Proofs.YtanccoopbgamdaaGreatDoor.jKept
open Go.ChangeShapes Go.WideShapes Go.ChangeAt Go.RowKit Go.Lib
set_option linter.unusedVariables false
set_option linter.unusedSimpArgs false
set_option maxRecDepth 100000 in
theorem lifted (ok: ∀(ad0:Option Addr) (n0 cap0:Nat) (bs0:List Int) (w:World),bs0.length=n0→RdU w.heap.size w ad0 bs0→n0≤9223372036854775807→LaidW w→Calls Tryz.prog 4 #[.slice ad0 n0 cap0] w fun e w'=>e= .returned (.bool true)∧Below w.heap.size w w') (os:Os) (started:os.Started) (H:Type) (enc:TypeId × Value→H):
   ReturnsInHanded {} Tryz.checked os 4 .any (fun w args=>(Rows.fnKeptSpec.pre enc Tryz.prog Tryz.f4 [] false w args∧laidMetH Tryz.prog laidZ w)∧sizedMet enc Tryz.prog Tryz.f4 (OpenSpec.ofChange Rows.fnKeptSpec) false w args)
     (Rows.fnKeptSpec.post enc Tryz.prog Tryz.f4 false true false false):=by
 refine returnsZ (C:=Tryz.checked) (X:=fun w _=>laidMetH Tryz.prog laidZ w) (fun _ _ _ hh h=>h.of_heap hh) own started (by kernel_rfl) Tryz.func4
   (ChangeSpec.witness_shaped (enc:=enc) (C:=Tryz.checked) (os:=os) (X:=fun w _=>laidMetH Tryz.prog laidZ w) false (World.laidAll Tryz.prog os laidZ) #[.slice none 0 0] 8 (World.laidAll_os _ _ _)
     (World.shaped_of_ZipB (by kernel_rfl) (by kernel_rfl)) (by kernel_rfl) (by kernel_rfl) (by kernel_rfl)
     (by rw [MakeChecks.laidMetH_plain _ _ _ (by kernel_rfl)];exact laidMet_laidAll _ (by kernel_rfl) (by kernel_rfl))) ?_
 intro W base args ds gs before hval0 hW hL hsh
 have hval: ∀(j:Nat) t v,Tryz.f4.params[j]? =some t→args[j]? =some v→Value.okWide Tryz.prog W .any base t v:=hval0
 have hW':=hW
 have hlt:=hW.lt
 obtain ⟨p,q,hA0,hV,rfl,hfz,hnd⟩:=hW
 have hA:DataW.TrodAll enc Tryz.prog W 0 (fun _=>true) true Tryz.f4.params.toList args.toList ds p:=hA0
 rw [Tryz.params4] at hA hval
 obtain ⟨v0,vs0,d0,ds0,p0,q0,hargs,rfl,rfl,h0,r0⟩:=trodAll_cons hA
 obtain ⟨rfl,rfl,rfl⟩:=trodAll_nil r0
 obtain rfl:args=#[v0]:=by cases args;simp_all
 obtain ⟨rfl,rfl⟩:=trodVars_none hV
 clear hA0 hval0
 obtain ⟨ad0,n0,cap0,bs0,rfl,hn0,hr0,hl0⟩:=open_code (hval 0 22 v0 rfl rfl) h0 (fun x hx=>hlt x (by simp [hx]))
 have fin: ∀(e:Ending) W',(e= .returned (.bool true)∧Below W.heap.size W W')→ ∃v,e= .returned v∧Rows.fnKeptSpec.post enc Tryz.prog Tryz.f4 false true false false W #[.slice ad0 n0 cap0] v W':=by
   rintro e W' ⟨rfl,hb⟩
   exact ⟨_,rfl,law_post rfl rfl hW' (by kernel_rfl) rfl hb⟩
 exact (ok ad0 n0 cap0 bs0 W hn0 hr0 hl0 (laidW_of hL hsh)).mono fin
end Go.Proofs.YtanccoopbgamdaaGreatDoor.jKept
