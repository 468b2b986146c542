/-
  SineWorks: Add, Sub, Mul, Of, Has and Sign return the results and errors of the reference: for every two enclosures and fraction of numbers of 64 bits.
-/
import Derived.Test.YtilcgbloangcmaaRows
import Derived.WalkKit
import Derived.ProofKit
import Derived.OpenShut
import Derived.Lib.SmallJoins
import Derived.Test.YtilcgbloangcmaaSw
import Derived.Test.YtilcgbloangcmaaFrow
import Derived.Carry
namespace Go.Proofs.Ytilcgbloangcmaa.sineWorks
open Go.ChangeShapes Go.WideShapes Go.ChangeAt Go.RowKit Go.Joins
set_option linter.unusedVariables false
set_option linter.unusedSimpArgs false

theorem own : ownKnob Try.prog.godebug = none := by kernel_rfl
theorem cells0 : Try.prog.cellsOf 31 = 2 := by kernel_rfl
theorem cells1 : Try.prog.cellsOf 24 = 2 := by kernel_rfl
theorem walk (s0 t0 s1 t1 s2 t2 : Int) (h0 : (Lit.int .i64 s0).wf = true) (k0 : (Lit.int .i64 t0).wf = true) (h1 : (Lit.int .i64 s1).wf = true) (k1 : (Lit.int .i64 t1).wf = true) (h2 : (Lit.int .i64 s2).wf = true) (k2 : (Lit.int .i64 t2).wf = true) (w : World) :
    Calls Try.prog 5 #[.agg #[.int .i64 s0, .int .i64 t0], .agg #[.int .i64 s1, .int .i64 t1], .agg #[.int .i64 s2, .int .i64 t2]] w fun x w' => x = .returned (.bool true) ∧ Below w.heap.size w w' := by
  have b0 : -9223372036854775808 ≤ s0 ∧ s0 ≤ 9223372036854775807 := by simpa [Lit.wf, IntKind.min, IntKind.max, IntKind.signed, IntKind.bits] using h0
  have c0 : -9223372036854775808 ≤ t0 ∧ t0 ≤ 9223372036854775807 := by simpa [Lit.wf, IntKind.min, IntKind.max, IntKind.signed, IntKind.bits] using k0
  have b1 : -9223372036854775808 ≤ s1 ∧ s1 ≤ 9223372036854775807 := by simpa [Lit.wf, IntKind.min, IntKind.max, IntKind.signed, IntKind.bits] using h1
  have c1 : -9223372036854775808 ≤ t1 ∧ t1 ≤ 9223372036854775807 := by simpa [Lit.wf, IntKind.min, IntKind.max, IntKind.signed, IntKind.bits] using k1
  have b2 : -9223372036854775808 ≤ s2 ∧ s2 ≤ 9223372036854775807 := by simpa [Lit.wf, IntKind.min, IntKind.max, IntKind.signed, IntKind.bits] using h2
  have c2 : -9223372036854775808 ≤ t2 ∧ t2 ≤ 9223372036854775807 := by simpa [Lit.wf, IntKind.min, IntKind.max, IntKind.signed, IntKind.bits] using k2
  exact works5 s0 t0 s1 t1 s2 t2 b2.1 b2.2 c2.1 c2.2 w

set_option maxRecDepth 100000 in
theorem lifted (os : Os) (started : os.Started) (H : Type) (enc : TypeId × Value → H) :
    ReturnsInHanded {} Try.checked os 5 .any (Rows.sineWorksSpec.pre6 enc Try.prog Try.f5 Rows.sineWorksRow.domain false) (Rows.sineWorksSpec.post enc Try.prog Try.f5 false true false false) := by
  refine returnsInHanded_of_change (C := Try.checked) own started (by kernel_rfl) Try.func5
    (ChangeSpec.witness6 (enc := enc) (C := Try.checked) false ⟨#[], #[.agg #[.int .i64 0, .int .i64 1], .agg #[.int .i64 0, .int .i64 1], .agg #[.int .i64 0, .int .i64 1]], []⟩ 8 (by kernel_rfl) (by kernel_rfl) (by kernel_rfl) (by kernel_rfl)) ?_
  intro W base args ds gs before hval0 hW hcnd _
  have hval : ∀ (j : Nat) t v, Try.f5.params[j]? = some t → args[j]? = some v → Value.okWide Try.prog W .any base t v := hval0
  have hW' := hW
  obtain ⟨p, q, hA0, hV, rfl, hfz, hnd⟩ := hW
  have hA : DataW.TrodAll enc Try.prog W 0 (fun _ => true) true Try.f5.params.toList args.toList ds p := hA0
  rw [Try.params5] at hA hval
  obtain ⟨v0, vs0, e0, ds0, p0, q0, hargs, rfl, rfl, h0, r0⟩ := trodAll_cons hA
  obtain ⟨v1, vs1, e1, ds1, p1, q1, rfl, rfl, rfl, h1, r1⟩ := trodAll_cons r0
  obtain ⟨v2, vs2, e2, ds2, p2, q2, rfl, rfl, rfl, h2, r2⟩ := trodAll_cons r1
  obtain ⟨rfl, rfl, rfl⟩ := trodAll_nil r2
  obtain rfl : args = #[v0, v1, v2] := by cases args; simp_all
  obtain ⟨rfl, rfl⟩ := trodVars_none hV
  obtain ⟨k0a, k0b, y0a, y0b, m0, rfl, rfl, rfl, hy0a, hy0b⟩ := open_agg2 Try.underlying24 (by kernel_rfl) cells1 (hval 0 24 v0 rfl rfl) h0
  obtain ⟨s0, u0a, rfl, ws0⟩ := DataW.trod_int Try.underlying2 hy0a
  obtain ⟨t0, u0b, rfl, wt0⟩ := DataW.trod_int Try.underlying2 hy0b
  simp at u0a u0b
  subst u0a u0b
  obtain ⟨k1a, k1b, y1a, y1b, m1, rfl, rfl, rfl, hy1a, hy1b⟩ := open_agg2 Try.underlying24 (by kernel_rfl) cells1 (hval 1 24 v1 rfl rfl) h1
  obtain ⟨s1, u1a, rfl, ws1⟩ := DataW.trod_int Try.underlying2 hy1a
  obtain ⟨t1, u1b, rfl, wt1⟩ := DataW.trod_int Try.underlying2 hy1b
  simp at u1a u1b
  subst u1a u1b
  obtain ⟨k2a, k2b, y2a, y2b, m2, rfl, rfl, rfl, hy2a, hy2b⟩ := open_agg2 Try.underlying31 (by kernel_rfl) cells0 (hval 2 31 v2 rfl rfl) h2
  obtain ⟨s2, u2a, rfl, ws2⟩ := DataW.trod_int Try.underlying2 hy2a
  obtain ⟨t2, u2b, rfl, wt2⟩ := DataW.trod_int Try.underlying2 hy2b
  simp at u2a u2b
  subst u2a u2b
  clear hA0 hval0
  simp only [List.append_nil] at hW'
  have cells0Reads : ∀ (W' : World) (sp : Nat → Bool) (a b : Int) (wa : (Lit.int .i64 a).wf = true) (wb : (Lit.int .i64 b).wf = true), DataW.Trod enc Try.prog W' 0 sp true 31 (.agg #[.int .i64 a, .int .i64 b]) (.agg [.lit (.int .i64 a), .lit (.int .i64 b)]) [] := fun W' sp a b wa wb =>
    shut_agg2 (y0 := (.lit (.int .i64 a), [])) (y1 := (.lit (.int .i64 b), [])) Try.underlying31 (by kernel_rfl) cells0 ⟨1, by simp [DataW.trod, Try.underlying2, wa]⟩ ⟨1, by simp [DataW.trod, Try.underlying2, wb]⟩
  have cells1Reads : ∀ (W' : World) (sp : Nat → Bool) (a b : Int) (wa : (Lit.int .i64 a).wf = true) (wb : (Lit.int .i64 b).wf = true), DataW.Trod enc Try.prog W' 0 sp true 24 (.agg #[.int .i64 a, .int .i64 b]) (.agg [.lit (.int .i64 a), .lit (.int .i64 b)]) [] := fun W' sp a b wa wb =>
    shut_agg2 (y0 := (.lit (.int .i64 a), [])) (y1 := (.lit (.int .i64 b), [])) Try.underlying24 (by kernel_rfl) cells1 ⟨1, by simp [DataW.trod, Try.underlying2, wa]⟩ ⟨1, by simp [DataW.trod, Try.underlying2, wb]⟩
  refine (walk s0 t0 s1 t1 s2 t2 ws0 wt0 ws1 wt1 ws2 wt2 W).mono fun e W' ⟨he, hg⟩ => ?_
  subst he
  exact ⟨_, rfl, post_plain hW' (fun _ _ _ => (trodAll_cons_mk (shut_bool Try.underlying4 _) trodAll_mk0))
    (fun sp => trodAll_cons_mk (cells1Reads _ sp _ _ ws0 wt0) (trodAll_cons_mk (cells1Reads _ sp _ _ ws1 wt1) (trodAll_cons_mk (cells0Reads _ sp _ _ ws2 wt2) trodAll_mk0))) (fun _ => rfl)
    hg (ok_one (by kernel_rfl) rfl (okWide_bool_mk Try.underlying4 _))⟩

theorem over : Rows.sineWorksRow.holds Try.pinned (OpenSpec.ofChange Rows.sineWorksSpec) :=
  OpenClaim.holds_of_wide 5 Try.f5 rfl rfl rfl rfl rfl rfl rfl ⟨rfl, rfl, rfl, rfl, rfl⟩ rfl rfl rfl rfl rfl (by kernel_rfl) Try.func5 (by kernel_rfl)
    (of_decide_eq_true (by kernel_rfl)) (by unfold Func.isWrapper; first | (rw [if_pos (by decide +kernel)]; kernel_rfl) | (rw [if_neg (by decide +kernel)]; exact ⟨rfl, rfl⟩))
    (fun os started H enc _ => lifted os started H enc)

theorem proved : Rows.SineWorksSaid :=
  over
end Go.Proofs.Ytilcgbloangcmaa.sineWorks
