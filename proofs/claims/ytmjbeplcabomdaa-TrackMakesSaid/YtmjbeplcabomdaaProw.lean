/-
  Sources as arguments of a row: opened and shut.
-/
import Derived.Test.YtmjbeplcabomdaaFrow
import Derived.Lib.SmallJoins
import Derived.Carry
namespace Go.Proofs.Ytmjbeplcabomdaa
open Go.ChangeShapes Go.WideShapes Go.ChangeAt Go.RowKit Go.Joins Go.Deep
set_option linter.unusedVariables false
set_option linter.unusedSimpArgs false

theorem cellsSo : Try.prog.cellsOf 25 = 3 := by kernel_rfl
theorem array3 {α : Type} {cs : Array α} (h : cs.size = 3) : ∃ c0 c1 c2, cs = #[c0, c1, c2] := by
  obtain ⟨l⟩ := cs
  match l, h with
  | [c0, c1, c2], _ => exact ⟨c0, c1, c2, rfl⟩
section
variable {H : Type} {enc : TypeId × Value → H} {w : World} {base : Nat} {sp : Nat → Bool} {held : Bool}
def srcD (s : ByteArray) (a b : Int) : DataW H := .agg [.lit (.string s.data.toList), .lit (.int .i64 a), .lit (.int .i64 b)]
set_option maxRecDepth 100000 in
theorem src_opened {b0 : Nat} {v : Value} {d : DataW H} {p : List MemPlace} (hv : Value.okWide Try.prog w .any b0 25 v) (h : DataW.Trod enc Try.prog w base sp held 25 v d p) :
    ∃ (s : ByteArray) (a b : Int), v = .agg #[.string s, .int .i64 a, .int .i64 b] ∧ d = srcD s a b ∧ p = [] ∧ s.size ≤ maxLen ∧ (Lit.int .i64 a).wf = true ∧ (Lit.int .i64 b).wf = true := by
  obtain ⟨cs, rfl, hsz⟩ := okWide_struct Try.underlying25 hv
  obtain ⟨c0, c1, c2, rfl⟩ := array3 (hsz.trans cellsSo)
  obtain ⟨fuel, hf⟩ := h
  obtain ⟨y0, y1, y2, n, hx, _, h0, h1, h2⟩ := trod_struct3 Try.underlying25 hf
  have e0 : Try.prog.cellsOf 9 = 1 := by kernel_rfl
  have e1 : Try.prog.cellsOf 3 = 1 := by kernel_rfl
  have k0 : DataW.trod enc Try.prog w base sp held n 9 [c0] = some y0 := by simpa [Value.cells, e0] using h0
  have k1 : DataW.trod enc Try.prog w base sp held n 3 [c1] = some y1 := by simpa [Value.cells, e0, e1] using h1
  have k2 : DataW.trod enc Try.prog w base sp held n 3 [c2] = some y2 := by simpa [Value.cells, e0, e1] using h2
  obtain ⟨s, u0, v0, hs⟩ := DataW.trod_string Try.underlying9 k0
  obtain ⟨a, u1, v1, wa⟩ := DataW.trod_int Try.underlying3 k1
  obtain ⟨b, u2, v2, wb⟩ := DataW.trod_int Try.underlying3 k2
  simp at u0 u1 u2
  subst u0 u1 u2 v0 v1 v2
  simp only [Prod.mk.injEq] at hx
  exact ⟨s, a, b, rfl, hx.1, by simpa using hx.2, hs, wa, wb⟩
set_option maxRecDepth 100000 in
theorem src_shut (s : ByteArray) (a b : Int) (hs : s.size ≤ maxLen) (wa : (Lit.int .i64 a).wf = true) (wb : (Lit.int .i64 b).wf = true) :
    DataW.Trod enc Try.prog w base sp held 25 (.agg #[.string s, .int .i64 a, .int .i64 b]) (srcD s a b) [] := by
  have e0 : Try.prog.cellsOf 9 = 1 := by kernel_rfl
  have e1 : Try.prog.cellsOf 3 = 1 := by kernel_rfl
  have t0 : DataW.trod enc Try.prog w base sp held 1 9 [.string s] = some (.lit (.string s.data.toList), []) := by simp [DataW.trod, Try.underlying9, hs]
  have t1 : DataW.trod enc Try.prog w base sp held 1 3 [.int .i64 a] = some (.lit (.int .i64 a), []) := by simp [DataW.trod, Try.underlying3, wa]
  have t2 : DataW.trod enc Try.prog w base sp held 1 3 [.int .i64 b] = some (.lit (.int .i64 b), []) := by simp [DataW.trod, Try.underlying3, wb]
  have ts := trod_struct3_mk (enc := enc) (w := w) (base := base) (spare := sp) (held := held) (n := 1) (cs := [.string s, .int .i64 a, .int .i64 b]) Try.underlying25 (by simp [cellsSo])
    (by simpa [e0] using t0) (by simpa [e0, e1] using t1) (by simpa [e0, e1] using t2)
  exact ⟨2, by simpa [Value.cells, srcD] using ts⟩
end
end Go.Proofs.Ytmjbeplcabomdaa
