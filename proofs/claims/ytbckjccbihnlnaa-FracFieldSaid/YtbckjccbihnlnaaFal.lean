/-
  What the laws' own small functions do: lists that are the same.
-/
import Derived.Test.YtbckjccbihnlnaaFx
import Derived.Deep.LoopGhost
namespace Go.Proofs.Ytbckjccbihnlnaa
open Go.RowKit
set_option linter.unusedVariables false
set_option linter.unusedSimpArgs false

set_option maxRecDepth 100000 in
set_option maxHeartbeats 1600000 in
theorem law_same (L : List Int) (len : Nat) (hL : L.length = len) (hm : len ≤ 200) (g h ca cb : Nat) (w : World)
    (hg : ∀ j, j < len → w.cell? ⟨g, j, none⟩ = some (.int .i64 (L.getD j 0))) (hh : ∀ j, j < len → w.cell? ⟨h, j, none⟩ = some (.int .i64 (L.getD j 0))) :
    Calls Try.prog 75 #[.slice (some ⟨g, 0, none⟩) len ca, .slice (some ⟨h, 0, none⟩) len cb] w fun e w' => e = .returned (.bool true) ∧ Below w.heap.size w w' := by
  have dAl := dAl; have dSt := dSt; have xC := ext_cell; have xF := ext_frozen; have xS := ext_set; have xN := ext_drewN; have xD := ext_drew; have xL := ext_lt; have xE := ext_ne; have xG := ext_nr; have xX := ext_ext; have xL1 := ext_lt1; have xL2 := ext_lt2; have xL3 := ext_lt3; have xM0 := ext_le0; have xM1 := ext_le1; have xM2 := ext_le2
  have HG := Lib.hid hg
  have HH := Lib.hid hh
  clear hg hh
  go_enter Try.func75, Try.ntmps75
  go_wp2
  go_loopg [5] len (fun kk i wr => ∃ k : Nat, kk = len - k ∧ k ≤ len ∧ i = .int .i64 k ∧ Below w.heap.size w wr ∧ (∀ j, j < len → wr.cell? ⟨g, j, none⟩ = some (.int .i64 (L.getD j 0))) ∧ (∀ j, j < len → wr.cell? ⟨h, j, none⟩ = some (.int .i64 (L.getD j 0))))
  case atStart => exact ⟨0, rfl, Nat.zero_le _, rfl, b0 _, HG.out, HH.out⟩
  case round =>
    obtain ⟨k, rfl, hk, rfl, hb, h1, h2⟩ := hrel
    have H1 := Lib.hid h1
    have H2 := Lib.hid h2
    by_cases hlt : k < len
    · have c1 := h1 k hlt
      have c2 := h2 k hlt
      clear h1 h2
      generalize L.getD k 0 = x at *
      have hl2 : (k : Int) < (len : Int) := by omega
      go_wp2_with fail
      go_quiet (fail)
      go_wp2
      go_roundg (len - (k + 1))
      case measure => omega
      case rel => exact ⟨k + 1, rfl, by omega, by go_num, below_drewN hb _, H1.out, H2.out⟩
    · have he : k = len := by omega
      clear h1 h2
      subst he
      go_wp2
      go_ret
      exact ⟨rfl, hb⟩
end Go.Proofs.Ytbckjccbihnlnaa
