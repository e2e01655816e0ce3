/-
  Contracts of chapter 7 for any picture at an address: RankField, as the exact law calls it.
-/
import Derived.Test.YtmkpmdnipakmgaaQ13
import Derived.Test.YtmkpmdnipakmgaaQ6
namespace Go.Proofs.Ytmkpmdnipakmgaa.xRankField
open Go.RowKit

theorem spec_RankField (W H : Int) (ad : Option Addr) (n cap : Nat) (xs : List Int) (w : World) (hn : xs.length = n) (ha : Rd w ad xs) (hl : n ≤ 1048576) (hs : ∃ b off, ad = some ⟨b, off, none⟩) :
    Calls Try.prog 32 #[.agg #[.int .i64 W, .int .i64 H, .slice ad n cap]] w (MatOut2 w (rankF W H xs)) := by
  obtain ⟨b, off, rfl⟩ := hs
  exact Go.Proofs.Ytmkpmdnipakmgaa.spec_RankField W H b off n cap xs w hn ha hl

theorem impl_RankField (W H : Int) (ad : Option Addr) (n cap : Nat) (xs : List Int) (w : World) (hn : xs.length = n) (ha : Rd w ad xs) (hl : n ≤ 1048576) (hs : ∃ b off, ad = some ⟨b, off, none⟩) :
    Calls Try.prog 33 #[.agg #[.int .i64 W, .int .i64 H, .slice ad n cap]] w (MatOut2 w (rankF W H xs)) := by
  obtain ⟨b, off, rfl⟩ := hs
  exact Go.Proofs.Ytmkpmdnipakmgaa.impl_RankField W H b off n cap xs w hn ha hl

end Go.Proofs.Ytmkpmdnipakmgaa.xRankField
