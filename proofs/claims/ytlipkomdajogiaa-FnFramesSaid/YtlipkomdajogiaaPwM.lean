/- From a contract of the kit's form to one of this layer's: for a function whose results reach no memory, and for one that returns a new slice ahead of them. Own work; no conditions; nothing here is about one program. -/
import Derived.Test.YtlipkomdajogiaaPwL
namespace Go.Proofs.Ytlipkomdajogiaa
open Go.RowKit
theorem RepArgs.mono {w : World} {F F' : Nat → Nat → Prop} (h : ∀ i b, F i b → F' i b) : ∀ {i : Nat} {ps : List PV} {vs : List Value}, RepArgs w F i ps vs → RepArgs w F' i ps vs
  | _, [], _, k => k
  | i, p :: _, _, ⟨v, r, hv, h1, h2⟩ => ⟨v, r, hv, Rep.mono (h i) (fun _ _ => rfl) p v h1, RepArgs.mono h h2⟩
end Go.Proofs.Ytlipkomdajogiaa
