/-
  Vectors as arguments of a row: opened and shut.
-/
import Derived.Test.YtdolfdmgdknboaaKu
import Derived.Test.YtdolfdmgdknboaaFrow
import Derived.Lib.SmallJoins
import Derived.Carry
namespace Go.Proofs.Ytdolfdmgdknboaa
open Go.ChangeShapes Go.WideShapes Go.ChangeAt Go.RowKit Go.Joins Go.Deep
set_option linter.unusedVariables false
set_option linter.unusedSimpArgs false

theorem cellsFr : Try.prog.cellsOf 23 = 2 := by kernel_rfl
theorem cellsVe : Try.prog.cellsOf 28 = 6 := by kernel_rfl
theorem array6 {α : Type} {cs : Array α} (h : cs.size = 6) : ∃ c0 c1 c2 c3 c4 c5, cs = #[c0, c1, c2, c3, c4, c5] := by
  obtain ⟨l⟩ := cs
  match l, h with
  | [c0, c1, c2, c3, c4, c5], _ => exact ⟨c0, c1, c2, c3, c4, c5, rfl⟩

section
variable {H : Type} {enc : TypeId × Value → H} {w : World} {base : Nat} {sp : Nat → Bool} {held : Bool}
def fracD (a b : Int) : DataW H := .agg [.lit (.int .i64 a), .lit (.int .i64 b)]
set_option maxRecDepth 100000 in
theorem frac_opened {n : Nat} {v0 v1 : Value} {y : DataW H × List MemPlace} (h : DataW.trod enc Try.prog w base sp held n 23 [v0, v1] = some y) :
    ∃ a b : Int, v0 = .int .i64 a ∧ v1 = .int .i64 b ∧ y = (fracD a b, []) ∧ (Lit.int .i64 a).wf = true ∧ (Lit.int .i64 b).wf = true := by
  obtain ⟨y0, y1, m, hx, _, h0, h1⟩ := trod_struct2 Try.underlying23 h
  have c1 : Try.prog.cellsOf 2 = 1 := by kernel_rfl
  have k0 : DataW.trod enc Try.prog w base sp held m 2 [v0] = some y0 := by simpa [c1] using h0
  have k1 : DataW.trod enc Try.prog w base sp held m 2 [v1] = some y1 := by simpa [c1] using h1
  obtain ⟨a, e0, u0, wa⟩ := DataW.trod_int Try.underlying2 k0
  obtain ⟨b, e1, u1, wb⟩ := DataW.trod_int Try.underlying2 k1
  simp at e0 e1
  subst e0 e1 u0 u1
  exact ⟨a, b, rfl, rfl, by rw [hx]; rfl, wa, wb⟩
theorem frac_shut (a b : Int) (wa : (Lit.int .i64 a).wf = true) (wb : (Lit.int .i64 b).wf = true) :
    ∃ n, DataW.trod enc Try.prog w base sp held n 23 [.int .i64 a, .int .i64 b] = some (fracD a b, []) := by
  obtain ⟨n, h⟩ := shut_agg2 (enc := enc) (w := w) (base := base) (spare := sp) (held := held) (v0 := .int .i64 a) (v1 := .int .i64 b) (y0 := (.lit (.int .i64 a), [])) (y1 := (.lit (.int .i64 b), [])) Try.underlying23 (by kernel_rfl) cellsFr ⟨1, by simp [DataW.trod, Try.underlying2, wa]⟩ ⟨1, by simp [DataW.trod, Try.underlying2, wb]⟩
  exact ⟨n, h⟩
set_option maxRecDepth 100000 in
theorem vec_opened {b0 : Nat} {v : Value} {d : DataW H} {p : List MemPlace} (hv : Value.okWide Try.prog w .any b0 28 v) (h : DataW.Trod enc Try.prog w base sp held 28 v d p) :
    ∃ a b c d' e f : Int, v = .agg #[.int .i64 a, .int .i64 b, .int .i64 c, .int .i64 (d'), .int .i64 e, .int .i64 f] ∧ d = .agg [fracD a b, fracD c d', fracD e f] ∧ p = [] ∧ ((Lit.int .i64 a).wf = true ∧ (Lit.int .i64 b).wf = true) ∧ ((Lit.int .i64 c).wf = true ∧ (Lit.int .i64 d').wf = true) ∧ ((Lit.int .i64 e).wf = true ∧ (Lit.int .i64 f).wf = true) := by
  obtain ⟨cs, rfl, hsz⟩ := okWide_struct Try.underlying28 hv
  obtain ⟨c0, c1, c2, c3, c4, c5, rfl⟩ := array6 (hsz.trans cellsVe)
  obtain ⟨fuel, hf⟩ := h
  obtain ⟨y0, y1, y2, n, hx, _, h0, h1, h2⟩ := trod_struct3 Try.underlying28 hf
  have k0 : DataW.trod enc Try.prog w base sp held n 23 [c0, c1] = some y0 := by simpa [Value.cells, cellsFr] using h0
  have k1 : DataW.trod enc Try.prog w base sp held n 23 [c2, c3] = some y1 := by simpa [Value.cells, cellsFr] using h1
  have k2 : DataW.trod enc Try.prog w base sp held n 23 [c4, c5] = some y2 := by simpa [Value.cells, cellsFr] using h2
  obtain ⟨a, b, rfl, rfl, rfl, wa, wb⟩ := frac_opened k0
  obtain ⟨c, d', rfl, rfl, rfl, wc, wd⟩ := frac_opened k1
  obtain ⟨e, f, rfl, rfl, rfl, we, wf⟩ := frac_opened k2
  simp only [Prod.mk.injEq] at hx
  exact ⟨a, b, c, d', e, f, rfl, hx.1, by simpa using hx.2, ⟨wa, wb⟩, ⟨wc, wd⟩, ⟨we, wf⟩⟩
set_option maxRecDepth 100000 in
theorem vec_shut (a b c d e f : Int) (h1 : (Lit.int .i64 a).wf = true ∧ (Lit.int .i64 b).wf = true) (h2 : (Lit.int .i64 c).wf = true ∧ (Lit.int .i64 d).wf = true) (h3 : (Lit.int .i64 e).wf = true ∧ (Lit.int .i64 f).wf = true) :
    DataW.Trod enc Try.prog w base sp held 28 (.agg #[.int .i64 a, .int .i64 b, .int .i64 c, .int .i64 d, .int .i64 e, .int .i64 f]) (.agg [fracD a b, fracD c d, fracD e f]) [] := by
  obtain ⟨n0, t0⟩ := frac_shut (enc := enc) (w := w) (base := base) (sp := sp) (held := held) a b h1.1 h1.2
  obtain ⟨n1, t1⟩ := frac_shut (enc := enc) (w := w) (base := base) (sp := sp) (held := held) c d h2.1 h2.2
  obtain ⟨n2, t2⟩ := frac_shut (enc := enc) (w := w) (base := base) (sp := sp) (held := held) e f h3.1 h3.2
  have ts := trod_struct3_mk (enc := enc) (w := w) (base := base) (spare := sp) (held := held) (n := n0 + n1 + n2) (cs := [.int .i64 a, .int .i64 b, .int .i64 c, .int .i64 d, .int .i64 e, .int .i64 f]) Try.underlying28 (by simp [cellsVe])
    (by simpa [cellsFr] using DataW.trod_le (show n0 ≤ n0 + n1 + n2 by omega) t0) (by simpa [cellsFr] using DataW.trod_le (show n1 ≤ n0 + n1 + n2 by omega) t1) (by simpa [cellsFr] using DataW.trod_le (show n2 ≤ n0 + n1 + n2 by omega) t2)
  exact ⟨_, by simpa [Value.cells] using ts⟩
end
theorem wf_okC {a b : Int} (h : (Lit.int .i64 a).wf = true ∧ (Lit.int .i64 b).wf = true) : -9223372036854775808 ≤ a ∧ a ≤ 9223372036854775807 ∧ -9223372036854775808 ≤ b ∧ b ≤ 9223372036854775807 := by
  have h0 : -9223372036854775808 ≤ a ∧ a ≤ 9223372036854775807 := by simpa [Lit.wf, IntKind.min, IntKind.max, IntKind.signed, IntKind.bits] using h.1
  have h1 : -9223372036854775808 ≤ b ∧ b ≤ 9223372036854775807 := by simpa [Lit.wf, IntKind.min, IntKind.max, IntKind.signed, IntKind.bits] using h.2
  exact ⟨h0.1, h0.2, h1.1, h1.2⟩
end Go.Proofs.Ytdolfdmgdknboaa
