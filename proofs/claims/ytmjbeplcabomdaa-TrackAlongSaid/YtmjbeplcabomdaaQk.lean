/-
  The last step of a row whose arguments lead to no memory: what the call leaves, known by 'Below' alone.  Vectors as arguments of a row: opened and shut.  Sources as arguments of a row: opened and shut.
-/
import Derived.Test.YtmjbeplcabomdaaRows
import Derived.WalkKit
import Derived.ProofKit
import Derived.OpenShut
import Derived.ChangeSame
import Derived.Lib.SmallJoins
import Derived.Carry
namespace Go.Proofs.Ytmjbeplcabomdaa
open Go.ChangeShapes Go.WideShapes Go.ChangeAt Go.RowKit
set_option linter.unusedVariables false

theorem post_plain {H : Type} {enc : TypeId × Value → H} {P : Program} {f : Func} {s : ChangeSpec} {apart fresh handsOn again : Bool} {W W' : World} {args : Array Value} {v : Value} {ds gs : List (DataW H)}
    (hW : DataW.Whole enc P f.params.toList s.vars apart W args.toList ds gs [])
    (hres : ∀ (b : Nat) (sp : Nat → Bool) (hd : Bool), DataW.TrodAll enc P W' b sp hd f.resultTypes.toList (v.resultList f.resultTypes.size) (s.fn H (ds ++ gs)).results [])
    (hargs : ∀ sp : Nat → Bool, DataW.TrodAll enc P W' 0 sp true f.params.toList args.toList (s.fn H (ds ++ gs)).args [])
    (hvars : ∀ sp : Nat → Bool, DataW.TrodVars enc P W' sp s.vars (s.fn H (ds ++ gs)).vars [])
    (hb : Below W.heap.size W W')
    (hok : ∀ (j : Nat) (t : TypeId) (r : Value), f.resultTypes[j]? = some t → (v.resultList f.resultTypes.size)[j]? = some r → Value.okWide P W' .any 0 t r) :
    s.post enc P f apart fresh handsOn again W args v W' := by
  refine ⟨ds, gs, [], [], [], [], hW, hres _ _ _, hargs _, hvars _, hb.frame _, fun _ => ?_⟩
  refine ⟨hok, _, _, ([] ++ []) ++ [], ⟨[] ++ [], [], trodAll_append (hargs _) (hres _ _ _), hvars _, rfl, ?_, ?_⟩, ?_⟩
  · intro b off h; cases h
  · intro h; simp
  · intro p h; cases h
end Go.Proofs.Ytmjbeplcabomdaa
namespace Go.Proofs.Ytmjbeplcabomdaa
open Go.ChangeShapes Go.WideShapes Go.ChangeAt Go.RowKit Go.Joins Go.Deep
set_option linter.unusedVariables false
set_option linter.unusedSimpArgs false

theorem cellsFr : Try.prog.cellsOf 38 = 2 := by kernel_rfl
theorem cellsVe : Try.prog.cellsOf 40 = 6 := by kernel_rfl
theorem array6 {α : Type} {cs : Array α} (h : cs.size = 6) : ∃ c0 c1 c2 c3 c4 c5, cs = #[c0, c1, c2, c3, c4, c5] := by
  obtain ⟨l⟩ := cs
  match l, h with
  | [c0, c1, c2, c3, c4, c5], _ => exact ⟨c0, c1, c2, c3, c4, c5, rfl⟩

section
variable {H : Type} {enc : TypeId × Value → H} {w : World} {base : Nat} {sp : Nat → Bool} {held : Bool}
def fracD (a b : Int) : DataW H := .agg [.lit (.int .i64 a), .lit (.int .i64 b)]
set_option maxRecDepth 100000 in
theorem frac_opened {n : Nat} {v0 v1 : Value} {y : DataW H × List MemPlace} (h : DataW.trod enc Try.prog w base sp held n 38 [v0, v1] = some y) :
    ∃ a b : Int, v0 = .int .i64 a ∧ v1 = .int .i64 b ∧ y = (fracD a b, []) ∧ (Lit.int .i64 a).wf = true ∧ (Lit.int .i64 b).wf = true := by
  obtain ⟨y0, y1, m, hx, _, h0, h1⟩ := trod_struct2 Try.underlying38 h
  have c1 : Try.prog.cellsOf 2 = 1 := by kernel_rfl
  have k0 : DataW.trod enc Try.prog w base sp held m 2 [v0] = some y0 := by simpa [c1] using h0
  have k1 : DataW.trod enc Try.prog w base sp held m 2 [v1] = some y1 := by simpa [c1] using h1
  obtain ⟨a, e0, u0, wa⟩ := DataW.trod_int Try.underlying2 k0
  obtain ⟨b, e1, u1, wb⟩ := DataW.trod_int Try.underlying2 k1
  simp at e0 e1
  subst e0 e1 u0 u1
  exact ⟨a, b, rfl, rfl, by rw [hx]; rfl, wa, wb⟩
theorem frac_shut (a b : Int) (wa : (Lit.int .i64 a).wf = true) (wb : (Lit.int .i64 b).wf = true) :
    ∃ n, DataW.trod enc Try.prog w base sp held n 38 [.int .i64 a, .int .i64 b] = some (fracD a b, []) := by
  obtain ⟨n, h⟩ := shut_agg2 (enc := enc) (w := w) (base := base) (spare := sp) (held := held) (v0 := .int .i64 a) (v1 := .int .i64 b) (y0 := (.lit (.int .i64 a), [])) (y1 := (.lit (.int .i64 b), [])) Try.underlying38 (by kernel_rfl) cellsFr ⟨1, by simp [DataW.trod, Try.underlying2, wa]⟩ ⟨1, by simp [DataW.trod, Try.underlying2, wb]⟩
  exact ⟨n, h⟩
set_option maxRecDepth 100000 in
theorem vec_opened {b0 : Nat} {v : Value} {d : DataW H} {p : List MemPlace} (hv : Value.okWide Try.prog w .any b0 40 v) (h : DataW.Trod enc Try.prog w base sp held 40 v d p) :
    ∃ a b c d' e f : Int, v = .agg #[.int .i64 a, .int .i64 b, .int .i64 c, .int .i64 (d'), .int .i64 e, .int .i64 f] ∧ d = .agg [fracD a b, fracD c d', fracD e f] ∧ p = [] ∧ ((Lit.int .i64 a).wf = true ∧ (Lit.int .i64 b).wf = true) ∧ ((Lit.int .i64 c).wf = true ∧ (Lit.int .i64 d').wf = true) ∧ ((Lit.int .i64 e).wf = true ∧ (Lit.int .i64 f).wf = true) := by
  obtain ⟨cs, rfl, hsz⟩ := okWide_struct Try.underlying40 hv
  obtain ⟨c0, c1, c2, c3, c4, c5, rfl⟩ := array6 (hsz.trans cellsVe)
  obtain ⟨fuel, hf⟩ := h
  obtain ⟨y0, y1, y2, n, hx, _, h0, h1, h2⟩ := trod_struct3 Try.underlying40 hf
  have k0 : DataW.trod enc Try.prog w base sp held n 38 [c0, c1] = some y0 := by simpa [Value.cells, cellsFr] using h0
  have k1 : DataW.trod enc Try.prog w base sp held n 38 [c2, c3] = some y1 := by simpa [Value.cells, cellsFr] using h1
  have k2 : DataW.trod enc Try.prog w base sp held n 38 [c4, c5] = some y2 := by simpa [Value.cells, cellsFr] using h2
  obtain ⟨a, b, rfl, rfl, rfl, wa, wb⟩ := frac_opened k0
  obtain ⟨c, d', rfl, rfl, rfl, wc, wd⟩ := frac_opened k1
  obtain ⟨e, f, rfl, rfl, rfl, we, wf⟩ := frac_opened k2
  simp only [Prod.mk.injEq] at hx
  exact ⟨a, b, c, d', e, f, rfl, hx.1, by simpa using hx.2, ⟨wa, wb⟩, ⟨wc, wd⟩, ⟨we, wf⟩⟩
set_option maxRecDepth 100000 in
theorem vec_shut (a b c d e f : Int) (h1 : (Lit.int .i64 a).wf = true ∧ (Lit.int .i64 b).wf = true) (h2 : (Lit.int .i64 c).wf = true ∧ (Lit.int .i64 d).wf = true) (h3 : (Lit.int .i64 e).wf = true ∧ (Lit.int .i64 f).wf = true) :
    DataW.Trod enc Try.prog w base sp held 40 (.agg #[.int .i64 a, .int .i64 b, .int .i64 c, .int .i64 d, .int .i64 e, .int .i64 f]) (.agg [fracD a b, fracD c d, fracD e f]) [] := by
  obtain ⟨n0, t0⟩ := frac_shut (enc := enc) (w := w) (base := base) (sp := sp) (held := held) a b h1.1 h1.2
  obtain ⟨n1, t1⟩ := frac_shut (enc := enc) (w := w) (base := base) (sp := sp) (held := held) c d h2.1 h2.2
  obtain ⟨n2, t2⟩ := frac_shut (enc := enc) (w := w) (base := base) (sp := sp) (held := held) e f h3.1 h3.2
  have ts := trod_struct3_mk (enc := enc) (w := w) (base := base) (spare := sp) (held := held) (n := n0 + n1 + n2) (cs := [.int .i64 a, .int .i64 b, .int .i64 c, .int .i64 d, .int .i64 e, .int .i64 f]) Try.underlying40 (by simp [cellsVe])
    (by simpa [cellsFr] using DataW.trod_le (show n0 ≤ n0 + n1 + n2 by omega) t0) (by simpa [cellsFr] using DataW.trod_le (show n1 ≤ n0 + n1 + n2 by omega) t1) (by simpa [cellsFr] using DataW.trod_le (show n2 ≤ n0 + n1 + n2 by omega) t2)
  exact ⟨_, by simpa [Value.cells] using ts⟩
end
theorem wf_okC {a b : Int} (h : (Lit.int .i64 a).wf = true ∧ (Lit.int .i64 b).wf = true) : -9223372036854775808 ≤ a ∧ a ≤ 9223372036854775807 ∧ -9223372036854775808 ≤ b ∧ b ≤ 9223372036854775807 := by
  have h0 : -9223372036854775808 ≤ a ∧ a ≤ 9223372036854775807 := by simpa [Lit.wf, IntKind.min, IntKind.max, IntKind.signed, IntKind.bits] using h.1
  have h1 : -9223372036854775808 ≤ b ∧ b ≤ 9223372036854775807 := by simpa [Lit.wf, IntKind.min, IntKind.max, IntKind.signed, IntKind.bits] using h.2
  exact ⟨h0.1, h0.2, h1.1, h1.2⟩
end Go.Proofs.Ytmjbeplcabomdaa
namespace Go.Proofs.Ytmjbeplcabomdaa
open Go.ChangeShapes Go.WideShapes Go.ChangeAt Go.RowKit Go.Joins Go.Deep
set_option linter.unusedVariables false
set_option linter.unusedSimpArgs false

theorem cellsSo : Try.prog.cellsOf 25 = 3 := by kernel_rfl
theorem array3 {α : Type} {cs : Array α} (h : cs.size = 3) : ∃ c0 c1 c2, cs = #[c0, c1, c2] := by
  obtain ⟨l⟩ := cs
  match l, h with
  | [c0, c1, c2], _ => exact ⟨c0, c1, c2, rfl⟩
section
variable {H : Type} {enc : TypeId × Value → H} {w : World} {base : Nat} {sp : Nat → Bool} {held : Bool}
def srcD (s : ByteArray) (a b : Int) : DataW H := .agg [.lit (.string s.data.toList), .lit (.int .i64 a), .lit (.int .i64 b)]
set_option maxRecDepth 100000 in
theorem src_opened {b0 : Nat} {v : Value} {d : DataW H} {p : List MemPlace} (hv : Value.okWide Try.prog w .any b0 25 v) (h : DataW.Trod enc Try.prog w base sp held 25 v d p) :
    ∃ (s : ByteArray) (a b : Int), v = .agg #[.string s, .int .i64 a, .int .i64 b] ∧ d = srcD s a b ∧ p = [] ∧ s.size ≤ maxLen ∧ (Lit.int .i64 a).wf = true ∧ (Lit.int .i64 b).wf = true := by
  obtain ⟨cs, rfl, hsz⟩ := okWide_struct Try.underlying25 hv
  obtain ⟨c0, c1, c2, rfl⟩ := array3 (hsz.trans cellsSo)
  obtain ⟨fuel, hf⟩ := h
  obtain ⟨y0, y1, y2, n, hx, _, h0, h1, h2⟩ := trod_struct3 Try.underlying25 hf
  have e0 : Try.prog.cellsOf 9 = 1 := by kernel_rfl
  have e1 : Try.prog.cellsOf 3 = 1 := by kernel_rfl
  have k0 : DataW.trod enc Try.prog w base sp held n 9 [c0] = some y0 := by simpa [Value.cells, e0] using h0
  have k1 : DataW.trod enc Try.prog w base sp held n 3 [c1] = some y1 := by simpa [Value.cells, e0, e1] using h1
  have k2 : DataW.trod enc Try.prog w base sp held n 3 [c2] = some y2 := by simpa [Value.cells, e0, e1] using h2
  obtain ⟨s, u0, v0, hs⟩ := DataW.trod_string Try.underlying9 k0
  obtain ⟨a, u1, v1, wa⟩ := DataW.trod_int Try.underlying3 k1
  obtain ⟨b, u2, v2, wb⟩ := DataW.trod_int Try.underlying3 k2
  simp at u0 u1 u2
  subst u0 u1 u2 v0 v1 v2
  simp only [Prod.mk.injEq] at hx
  exact ⟨s, a, b, rfl, hx.1, by simpa using hx.2, hs, wa, wb⟩
set_option maxRecDepth 100000 in
theorem src_shut (s : ByteArray) (a b : Int) (hs : s.size ≤ maxLen) (wa : (Lit.int .i64 a).wf = true) (wb : (Lit.int .i64 b).wf = true) :
    DataW.Trod enc Try.prog w base sp held 25 (.agg #[.string s, .int .i64 a, .int .i64 b]) (srcD s a b) [] := by
  have e0 : Try.prog.cellsOf 9 = 1 := by kernel_rfl
  have e1 : Try.prog.cellsOf 3 = 1 := by kernel_rfl
  have t0 : DataW.trod enc Try.prog w base sp held 1 9 [.string s] = some (.lit (.string s.data.toList), []) := by simp [DataW.trod, Try.underlying9, hs]
  have t1 : DataW.trod enc Try.prog w base sp held 1 3 [.int .i64 a] = some (.lit (.int .i64 a), []) := by simp [DataW.trod, Try.underlying3, wa]
  have t2 : DataW.trod enc Try.prog w base sp held 1 3 [.int .i64 b] = some (.lit (.int .i64 b), []) := by simp [DataW.trod, Try.underlying3, wb]
  have ts := trod_struct3_mk (enc := enc) (w := w) (base := base) (spare := sp) (held := held) (n := 1) (cs := [.string s, .int .i64 a, .int .i64 b]) Try.underlying25 (by simp [cellsSo])
    (by simpa [e0] using t0) (by simpa [e0, e1] using t1) (by simpa [e0, e1] using t2)
  exact ⟨2, by simpa [Value.cells, srcD] using ts⟩
end
end Go.Proofs.Ytmjbeplcabomdaa
