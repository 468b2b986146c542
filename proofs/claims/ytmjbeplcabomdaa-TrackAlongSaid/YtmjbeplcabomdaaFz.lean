/-
  Rules on worlds that have grown: sizes are written so that they do not name what the new blocks hold.
-/
import Derived.Test.YtmjbeplcabomdaaFe
namespace Go.Proofs.Ytmjbeplcabomdaa
open Go.RowKit
set_option linter.unusedVariables false

def xs (n : Nat) (l : List Obj) : Nat := n + l.length
theorem xs_size (w : World) (l : List Obj) (d : Nat) : (ext w l d).heap.size = xs w.heap.size l := ext_size w l d
theorem xa0 (n b : Nat) (l : List Obj) (h : b < n) : b < xs n l := by unfold xs; omega
theorem xb0 (n b : Nat) (l m : List Obj) (h : b < n) : b < xs (xs n l + 1) m := by unfold xs; omega
theorem xc0 (n b : Nat) (l m : List Obj) (h : b < n) : b < xs (xs n l + 1 + 1) m := by unfold xs; omega
theorem xd0 (n : Nat) (l m : List Obj) : xs n l < xs (xs n l + 1) m := by unfold xs; omega
theorem xe0 (n : Nat) (l m : List Obj) : xs n l < xs (xs n l + 1 + 1) m := by unfold xs; omega
theorem xf0 (n : Nat) (l m : List Obj) : xs n l + 1 < xs (xs n l + 1 + 1) m := by unfold xs; omega
theorem xg0 (n b : Nat) (l : List Obj) (h : b < n) : (b = xs n l) = False := by unfold xs; simp; omega
theorem xh0 (n b : Nat) (l : List Obj) (h : b < n) : (xs n l = b) = False := by unfold xs; simp; omega
theorem xi0 (n b : Nat) (l m : List Obj) (h : b < n) : (b = xs (xs n l + 1) m) = False := by unfold xs; simp; omega
theorem xj0 (n b : Nat) (l m : List Obj) (h : b < n) : (xs (xs n l + 1) m = b) = False := by unfold xs; simp; omega
theorem xa1 (n b : Nat) (l : List Obj) (h : b < n) : b < xs n l + 1 := by unfold xs; omega
theorem xb1 (n b : Nat) (l m : List Obj) (h : b < n) : b < xs (xs n l + 1) m + 1 := by unfold xs; omega
theorem xc1 (n b : Nat) (l m : List Obj) (h : b < n) : b < xs (xs n l + 1 + 1) m + 1 := by unfold xs; omega
theorem xd1 (n : Nat) (l m : List Obj) : xs n l < xs (xs n l + 1) m + 1 := by unfold xs; omega
theorem xe1 (n : Nat) (l m : List Obj) : xs n l < xs (xs n l + 1 + 1) m + 1 := by unfold xs; omega
theorem xf1 (n : Nat) (l m : List Obj) : xs n l + 1 < xs (xs n l + 1 + 1) m + 1 := by unfold xs; omega
theorem xg1 (n b : Nat) (l : List Obj) (h : b < n) : (b = xs n l + 1) = False := by unfold xs; simp; omega
theorem xh1 (n b : Nat) (l : List Obj) (h : b < n) : (xs n l + 1 = b) = False := by unfold xs; simp; omega
theorem xi1 (n b : Nat) (l m : List Obj) (h : b < n) : (b = xs (xs n l + 1) m + 1) = False := by unfold xs; simp; omega
theorem xj1 (n b : Nat) (l m : List Obj) (h : b < n) : (xs (xs n l + 1) m + 1 = b) = False := by unfold xs; simp; omega
theorem xa2 (n b : Nat) (l : List Obj) (h : b < n) : b < xs n l + 1 + 1 := by unfold xs; omega
theorem xb2 (n b : Nat) (l m : List Obj) (h : b < n) : b < xs (xs n l + 1) m + 1 + 1 := by unfold xs; omega
theorem xc2 (n b : Nat) (l m : List Obj) (h : b < n) : b < xs (xs n l + 1 + 1) m + 1 + 1 := by unfold xs; omega
theorem xd2 (n : Nat) (l m : List Obj) : xs n l < xs (xs n l + 1) m + 1 + 1 := by unfold xs; omega
theorem xe2 (n : Nat) (l m : List Obj) : xs n l < xs (xs n l + 1 + 1) m + 1 + 1 := by unfold xs; omega
theorem xf2 (n : Nat) (l m : List Obj) : xs n l + 1 < xs (xs n l + 1 + 1) m + 1 + 1 := by unfold xs; omega
theorem xg2 (n b : Nat) (l : List Obj) (h : b < n) : (b = xs n l + 1 + 1) = False := by unfold xs; simp; omega
theorem xh2 (n b : Nat) (l : List Obj) (h : b < n) : (xs n l + 1 + 1 = b) = False := by unfold xs; simp; omega
theorem xi2 (n b : Nat) (l m : List Obj) (h : b < n) : (b = xs (xs n l + 1) m + 1 + 1) = False := by unfold xs; simp; omega
theorem xj2 (n b : Nat) (l m : List Obj) (h : b < n) : (xs (xs n l + 1) m + 1 + 1 = b) = False := by unfold xs; simp; omega
theorem xk0 (n : Nat) (l m : List Obj) : (xs n l = xs (xs n l + 1) m) = False := by unfold xs; simp; omega
theorem xk1 (n : Nat) (l m : List Obj) : (xs (xs n l + 1) m = xs n l) = False := by unfold xs; simp; omega
end Go.Proofs.Ytmjbeplcabomdaa
