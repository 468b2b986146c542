/-
  VecMatrices: Apply, Prod, Flip, Det, Turn and Is return the reference's results: for every two matrices, vector, axis and fraction of numbers of 64 bits.
-/
import Derived.Test.YtlijkebdaalldaaKu
import Derived.Test.YtlijkebdaalldaaRows
import Derived.WalkKit
import Derived.ProofKit
import Derived.OpenShut
import Derived.Lib.SmallJoins
import Derived.Test.YtlijkebdaalldaaWk3
import Derived.Test.YtlijkebdaalldaaMO
import Derived.Test.YtlijkebdaalldaaMP
import Derived.Carry
import Derived.Test.YtlijkebdaalldaaFrow
namespace Go.Proofs.Ytlijkebdaalldaa.vecMatrices
open Go.ChangeShapes Go.WideShapes Go.ChangeAt Go.RowKit Go.Joins
set_option linter.unusedVariables false
set_option linter.unusedSimpArgs false

theorem own : ownKnob Try.prog.godebug = none := by kernel_rfl
def fr6 (a b c d e f : Int) : Nat → Int
  | 0 => a
  | 1 => b
  | 2 => c
  | 3 => d
  | 4 => e
  | _ => f
theorem walk (M N : Nat → Int) (a b c d e f axis s t : Int) (hM : wfM M) (hN : wfM N) (h0 : wf2 a b) (h1 : wf2 c d) (h2 : wf2 e f) (h3 : wf2 s t) (w : World) :
    Calls Try.prog 4 #[.agg #[.int .i64 (M 0), .int .i64 (M 1), .int .i64 (M 2), .int .i64 (M 3), .int .i64 (M 4), .int .i64 (M 5), .int .i64 (M 6), .int .i64 (M 7), .int .i64 (M 8), .int .i64 (M 9), .int .i64 (M 10), .int .i64 (M 11), .int .i64 (M 12), .int .i64 (M 13), .int .i64 (M 14), .int .i64 (M 15), .int .i64 (M 16), .int .i64 (M 17)], .agg #[.int .i64 (N 0), .int .i64 (N 1), .int .i64 (N 2), .int .i64 (N 3), .int .i64 (N 4), .int .i64 (N 5), .int .i64 (N 6), .int .i64 (N 7), .int .i64 (N 8), .int .i64 (N 9), .int .i64 (N 10), .int .i64 (N 11), .int .i64 (N 12), .int .i64 (N 13), .int .i64 (N 14), .int .i64 (N 15), .int .i64 (N 16), .int .i64 (N 17)], .agg #[.int .i64 a, .int .i64 b, .int .i64 c, .int .i64 d, .int .i64 e, .int .i64 f], .int .i64 axis, .agg #[.int .i64 s, .int .i64 t]] w fun x w' => x = .returned (.bool true) ∧ Below w.heap.size w w' := by
  have kM := wfM_okCM hM
  have kN := wfM_okCM hN
  have kV : okCW (fr6 a b c d e f) := ⟨wf_okC h0, wf_okC h1, wf_okC h2⟩
  have kt : okC s t := wf_okC h3
  exact mlaw_walk M N (fr6 a b c d e f) (apR M (fr6 a b c d e f)) (pmR M N) (flR M) (tmR axis s t) axis s t (dmN M) (dmD M) (apE M (fr6 a b c d e f)) (pmE M N) (chM M) (dmE M) (tmE axis s t) (isE M) (isB M)
    (fun w => vec_ApplyM M _ kM kV w) (fun w => ref2_ApplyM M _ kM kV w) (fun w => vec_ProdM M N kM kN w) (fun w => ref2_ProdM M N kM kN w) (fun w => vec_FlipM M kM w) (fun w => ref2_FlipM M kM w)
    (fun w => vec_DetM M kM w) (fun w => ref2_DetM M kM w) (fun w => vec_TurnM axis s t kt w) (fun w => ref2_TurnM axis s t kt w) (fun w => vec_IsM M kM w) (fun w => ref2_IsM M kM w) w

set_option maxRecDepth 100000 in
theorem lifted (os : Os) (started : os.Started) (H : Type) (enc : TypeId × Value → H) :
    ReturnsInHanded {} Try.checked os 4 .any (Rows.vecMatricesSpec.pre6 enc Try.prog Try.f4 Rows.vecMatricesRow.domain false) (Rows.vecMatricesSpec.post enc Try.prog Try.f4 false true false false) := by
  refine returnsInHanded_of_change (C := Try.checked) own started (by kernel_rfl) Try.func4
    (ChangeSpec.witness6 (enc := enc) (C := Try.checked) false ⟨#[], #[.agg #[.int .i64 0, .int .i64 1, .int .i64 0, .int .i64 1, .int .i64 0, .int .i64 1, .int .i64 0, .int .i64 1, .int .i64 0, .int .i64 1, .int .i64 0, .int .i64 1, .int .i64 0, .int .i64 1, .int .i64 0, .int .i64 1, .int .i64 0, .int .i64 1], .agg #[.int .i64 0, .int .i64 1, .int .i64 0, .int .i64 1, .int .i64 0, .int .i64 1, .int .i64 0, .int .i64 1, .int .i64 0, .int .i64 1, .int .i64 0, .int .i64 1, .int .i64 0, .int .i64 1, .int .i64 0, .int .i64 1, .int .i64 0, .int .i64 1], .agg #[.int .i64 0, .int .i64 1, .int .i64 0, .int .i64 1, .int .i64 0, .int .i64 1], .int .i64 0, .agg #[.int .i64 0, .int .i64 1]], []⟩ 8 (by kernel_rfl) (by kernel_rfl) (by kernel_rfl) (by kernel_rfl)) ?_
  intro W base args ds gs before hval0 hW hcnd _
  have hval : ∀ (j : Nat) t v, Try.f4.params[j]? = some t → args[j]? = some v → Value.okWide Try.prog W .any base t v := hval0
  have hW' := hW
  obtain ⟨p, q, hA0, hV, rfl, hfz, hnd⟩ := hW
  have hA : DataW.TrodAll enc Try.prog W 0 (fun _ => true) true Try.f4.params.toList args.toList ds p := hA0
  rw [Try.params4] at hA hval
  obtain ⟨v0, vs0, e0, ds0, p0, q0, hargs, rfl, rfl, h0, r0⟩ := trodAll_cons hA
  obtain ⟨v1, vs1, e1, ds1, p1, q1, rfl, rfl, rfl, h1, r1⟩ := trodAll_cons r0
  obtain ⟨v2, vs2, e2, ds2, p2, q2, rfl, rfl, rfl, h2, r2⟩ := trodAll_cons r1
  obtain ⟨v3, vs3, e3, ds3, p3, q3, rfl, rfl, rfl, h3, r3⟩ := trodAll_cons r2
  obtain ⟨v4, vs4, e4, ds4, p4, q4, rfl, rfl, rfl, h4, r4⟩ := trodAll_cons r3
  obtain ⟨rfl, rfl, rfl⟩ := trodAll_nil r4
  obtain rfl : args = #[v0, v1, v2, v3, v4] := by cases args; simp_all
  obtain ⟨rfl, rfl⟩ := trodVars_none hV
  obtain ⟨M, rfl, rfl, rfl, wM⟩ := mat_opened (hval 0 27 v0 rfl rfl) h0
  obtain ⟨N, rfl, rfl, rfl, wN⟩ := mat_opened (hval 1 27 v1 rfl rfl) h1
  obtain ⟨a1, b1, c1, d1, e1', f1, rfl, rfl, rfl, wa, wb, wc⟩ := vec_opened (hval 2 32 v2 rfl rfl) h2
  obtain ⟨x3, rfl, rfl, rfl, wx⟩ := open_int Try.underlying3 (hval 3 3 v3 rfl rfl) h3
  obtain ⟨k0, k2, y0, y1, m0, rfl, rfl, rfl, hy0, hy1⟩ := open_agg2 Try.underlying23 (by kernel_rfl) cellsFr (hval 4 23 v4 rfl rfl) h4
  obtain ⟨s1, u0, rfl, ws1⟩ := DataW.trod_int Try.underlying2 hy0
  obtain ⟨t1, u1, rfl, wt1⟩ := DataW.trod_int Try.underlying2 hy1
  simp at u0 u1
  subst u0 u1
  clear hA0 hval0
  simp only [List.append_nil] at hW'
  have structReads : ∀ (W' : World) (sp : Nat → Bool) (a b : Int) (wa : (Lit.int .i64 a).wf = true) (wb : (Lit.int .i64 b).wf = true), DataW.Trod enc Try.prog W' 0 sp true 23 (.agg #[.int .i64 a, .int .i64 b]) (.agg [.lit (.int .i64 a), .lit (.int .i64 b)]) [] := fun W' sp a b wa wb =>
    shut_agg2 (y0 := (.lit (.int .i64 a), [])) (y1 := (.lit (.int .i64 b), [])) Try.underlying23 (by kernel_rfl) cellsFr ⟨1, by simp [DataW.trod, Try.underlying2, wa]⟩ ⟨1, by simp [DataW.trod, Try.underlying2, wb]⟩
  have intReads : ∀ (W' : World) (sp : Nat → Bool), DataW.Trod enc Try.prog W' 0 sp true 3 (.int .i64 x3) (.lit (.int .i64 x3)) [] := fun W' sp => ⟨1, by simp [DataW.trod, Value.cells, Try.underlying3, wx]⟩
  refine (walk M N a1 b1 c1 d1 e1' f1 x3 s1 t1 wM wN wa wb wc ⟨ws1, wt1⟩ W).mono fun e W' ⟨he, hg⟩ => ?_
  subst he
  exact ⟨_, rfl, post_plain hW' (fun _ _ _ => (trodAll_cons_mk (shut_bool Try.underlying4 _) trodAll_mk0))
    (fun sp => trodAll_cons_mk (mat_shut M wM) (trodAll_cons_mk (mat_shut N wN) (trodAll_cons_mk (vec_shut _ _ _ _ _ _ wa wb wc) (trodAll_cons_mk (intReads _ sp) (trodAll_cons_mk (structReads _ sp _ _ ws1 wt1) trodAll_mk0))))) (fun _ => rfl)
    hg (ok_one (by kernel_rfl) rfl (okWide_bool_mk Try.underlying4 _))⟩

theorem over : Rows.vecMatricesRow.holds Try.pinned (OpenSpec.ofChange Rows.vecMatricesSpec) :=
  OpenClaim.holds_of_wide 4 Try.f4 rfl rfl rfl rfl rfl rfl rfl ⟨rfl, rfl, rfl, rfl, rfl⟩ rfl rfl rfl rfl rfl (by kernel_rfl) Try.func4 (by kernel_rfl)
    (of_decide_eq_true (by kernel_rfl)) (by unfold Func.isWrapper; first | (rw [if_pos (by decide +kernel)]; kernel_rfl) | (rw [if_neg (by decide +kernel)]; exact ⟨rfl, rfl⟩))
    (fun os started H enc _ => lifted os started H enc)

theorem proved : Rows.VecMatricesSaid :=
  over
end Go.Proofs.Ytlijkebdaalldaa.vecMatrices
