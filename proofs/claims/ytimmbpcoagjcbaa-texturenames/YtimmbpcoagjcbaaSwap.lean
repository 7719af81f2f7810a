/- Lists in memory that the call itself made, behind other stores. -/
import Derived.Test.YtimmbpcoagjcbaaMeshMath2
namespace Go.Proofs.Ytimmbpcoagjcbaa
open Go.RowKit

/-- What lies in memory newer than T lies there as well behind a world as large as T. -/
theorem Own.swap {α : Type} {f : α → List Value} {T T' : World} {y : List More} {ao : Option Addr} {n cap c : Nat} {l : List α} {e : TypeId} (h : Own e c f T (Go.Proofs.Ytimmbpcoagjcbaa.plus T y) ao n cap l) (hT : T'.heap.size = T.heap.size) : Own e c f T' (Go.Proofs.Ytimmbpcoagjcbaa.plus T' y) ao n cap l := by
  refine ⟨h.1, h.2.1, h.2.2.imp id ?_⟩
  rintro ⟨g, cp, cur, h1, h2, h3, h4⟩
  refine ⟨g, cp, cur, h1, by omega, ?_, h4⟩
  have h5 : (Go.Proofs.Ytimmbpcoagjcbaa.plus T y).heap[g]? = (Go.Proofs.Ytimmbpcoagjcbaa.plus T' y).heap[g]? := by
    simp only [Go.Proofs.Ytimmbpcoagjcbaa.plus, Array.getElem?_append, show ¬ g < T.heap.size by omega, if_false, hT]
  rw [← h5]
  exact h3

end Go.Proofs.Ytimmbpcoagjcbaa
