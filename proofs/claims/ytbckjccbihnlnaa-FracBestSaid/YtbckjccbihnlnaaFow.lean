/-
  Rows that are owned: their cells.
-/
import Derived.Test.YtbckjccbihnlnaaFex
namespace Go.Proofs.Ytbckjccbihnlnaa
open Go.RowKit
set_option linter.unusedVariables false
set_option linter.unusedSimpArgs false

/-- A row that is owned has its cells. -/
theorem own_cells {w : World} {B : Nat} {v : Value} {L : List Int} (h : w.ownsRow B 2 1 v L.length (L.map (Value.int .i64))) (hne : L ≠ []) :
    ∃ g cap : Nat, v = .slice (some ⟨g, 0, none⟩) L.length cap ∧ B ≤ g ∧ g < w.heap.size ∧ ∀ j, j < L.length → w.cell? ⟨g, j, none⟩ = some (.int .i64 (L.getD j 0)) := by
  have h2 := h
  obtain ⟨hl, hv | ⟨g, cap, cur, rfl, hg, hh, hc, _, _, ht⟩⟩ := h
  · exact absurd (List.length_eq_zero_iff.1 hv.2) hne
  · refine ⟨g, cap, rfl, hg, ?_, fun j hj => ?_⟩
    · have := (h2.lt g rfl).2; exact this
    · rw [h2.cellAt j (by omega)]
      simp [List.getD_eq_getElem?_getD, hj]
end Go.Proofs.Ytbckjccbihnlnaa
