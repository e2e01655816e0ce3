/-
  Contracts of chapter 7 for any picture at an address: SwapStep and EvenField, as the exact laws call them.
-/
import Derived.Test.YtmkpmdnipakmgaaQ12
namespace Go.Proofs.Ytmkpmdnipakmgaa.xSwapStep
open Go.RowKit

theorem spec_SwapStep (W H : Int) (ad : Option Addr) (n cap : Nat) (xs : List Int) (w : World) (hn : xs.length = n) (ha : Rd w ad xs) (hl : n ≤ 1048576) (hs : ∃ b off, ad = some ⟨b, off, none⟩) :
    Calls Try.prog 26 #[.agg #[.int .i64 W, .int .i64 H, .slice ad n cap]] w (PicOut2 w (swapF2 W H xs)) := by
  obtain ⟨b, off, rfl⟩ := hs
  exact (Go.Proofs.Ytmkpmdnipakmgaa.spec_SwapStep W H b off n cap xs w hn ha hl).mono (fun e w' h => h.out hl)

theorem impl_SwapStep (W H : Int) (ad : Option Addr) (n cap : Nat) (xs : List Int) (w : World) (hn : xs.length = n) (ha : Rd w ad xs) (hl : n ≤ 1048576) (hs : ∃ b off, ad = some ⟨b, off, none⟩) :
    Calls Try.prog 27 #[.agg #[.int .i64 W, .int .i64 H, .slice ad n cap]] w (PicOut2 w (swapF2 W H xs)) := by
  obtain ⟨b, off, rfl⟩ := hs
  exact (Go.Proofs.Ytmkpmdnipakmgaa.impl_SwapStep W H b off n cap xs w hn ha hl).mono (fun e w' h => h.out hl)

end Go.Proofs.Ytmkpmdnipakmgaa.xSwapStep
namespace Go.Proofs.Ytmkpmdnipakmgaa.xEvenField
open Go.RowKit

theorem spec_EvenField (W H : Int) (ad : Option Addr) (n cap : Nat) (xs : List Int) (m : Int) (w : World) (hn : xs.length = n) (ha : Rd w ad xs) (hl : n ≤ 1048576) (hs : ∃ b off, ad = some ⟨b, off, none⟩) :
    Calls Try.prog 30 #[.agg #[.int .i64 W, .int .i64 H, .slice ad n cap], .int .i64 m] w (PicOutI w (evenF W H xs m)) := by
  obtain ⟨b, off, rfl⟩ := hs
  exact (Go.Proofs.Ytmkpmdnipakmgaa.spec_EvenField W H b off n cap xs m w hn ha hl).mono (fun e w' h => h.out hl)

theorem impl_EvenField (W H : Int) (ad : Option Addr) (n cap : Nat) (xs : List Int) (m : Int) (w : World) (hn : xs.length = n) (ha : Rd w ad xs) (hl : n ≤ 1048576) (hs : ∃ b off, ad = some ⟨b, off, none⟩) :
    Calls Try.prog 31 #[.agg #[.int .i64 W, .int .i64 H, .slice ad n cap], .int .i64 m] w (PicOutI w (evenF W H xs m)) := by
  obtain ⟨b, off, rfl⟩ := hs
  exact (Go.Proofs.Ytmkpmdnipakmgaa.impl_EvenField W H b off n cap xs m w hn ha hl).mono (fun e w' h => h.out hl)

end Go.Proofs.Ytmkpmdnipakmgaa.xEvenField
