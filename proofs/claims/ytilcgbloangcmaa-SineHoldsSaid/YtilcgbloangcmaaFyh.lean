/-
  Worlds that have grown: two steps.
-/
import Derived.Test.YtilcgbloangcmaaFyq
namespace Go.Proofs.Ytilcgbloangcmaa
open Go.RowKit
set_option linter.unusedVariables false

theorem below_ext (B : Nat) (w : World) (l : List Obj) (d : Nat) (h : B ≤ w.heap.size) : Below B w (ext w l d) :=
  ⟨rfl, rfl, rfl, by rw [ext_size]; omega, fun k hk => by
    unfold ext
    simp only [Array.getElem?_append_left (show k < w.heap.size by omega)]⟩
theorem _root_.Go.RowKit.Below.pre {B : Nat} {a b c : World} (h : Below B b c) (k : Below B a b) : Below B a c := k.trans h

end Go.Proofs.Ytilcgbloangcmaa
