/-
  VecKept: a turn is a rotation, keeps dot products, and flipped undoes itself: for every two vectors, axis and parameter of numbers of 64 bits.
-/
import Derived.Test.YtlijkebdaalldaaKu
import Derived.Test.YtlijkebdaalldaaRows
import Derived.WalkKit
import Derived.ProofKit
import Derived.OpenShut
import Derived.Lib.SmallJoins
import Derived.Test.YtlijkebdaalldaaWkp
import Derived.Test.YtlijkebdaalldaaWlo
import Derived.Carry
import Derived.Test.YtlijkebdaalldaaFrow
import Derived.Test.YtlijkebdaalldaaVrow
namespace Go.Proofs.Ytlijkebdaalldaa.vecKept
open Go.ChangeShapes Go.WideShapes Go.ChangeAt Go.RowKit Go.Joins
set_option linter.unusedVariables false
set_option linter.unusedSimpArgs false

theorem own : ownKnob Try.prog.godebug = none := by kernel_rfl
def wf2 (a b : Int) : Prop := (Lit.int .i64 a).wf = true ∧ (Lit.int .i64 b).wf = true
theorem walk (a0 b0 c0 d0 e0 f0 a1 b1 c1 d1 e1 f1 x2 s3 t3 : Int) (h0x : wf2 a0 b0) (h0y : wf2 c0 d0) (h0z : wf2 e0 f0) (h1x : wf2 a1 b1) (h1y : wf2 c1 d1) (h1z : wf2 e1 f1) (h3 : wf2 s3 t3) (w : World) :
    Calls Try.prog 5 #[.agg #[.int .i64 a0, .int .i64 b0, .int .i64 c0, .int .i64 d0, .int .i64 e0, .int .i64 f0], .agg #[.int .i64 a1, .int .i64 b1, .int .i64 c1, .int .i64 d1, .int .i64 e1, .int .i64 f1], .int .i64 x2, .agg #[.int .i64 s3, .int .i64 t3]] w fun x w' => x = .returned (.bool true) ∧ Below w.heap.size w w' :=
  kept_all (fq6 a0 b0 c0 d0 e0 f0) (fq6 a1 b1 c1 d1 e1 f1) x2 s3 t3 ⟨wf_okC h0x, wf_okC h0y, wf_okC h0z⟩ ⟨wf_okC h1x, wf_okC h1y, wf_okC h1z⟩ (wf_okC h3) w

set_option maxRecDepth 100000 in
theorem lifted (os : Os) (started : os.Started) (H : Type) (enc : TypeId × Value → H) :
    ReturnsInHanded {} Try.checked os 5 .any (Rows.vecKeptSpec.pre6 enc Try.prog Try.f5 Rows.vecKeptRow.domain false) (Rows.vecKeptSpec.post enc Try.prog Try.f5 false true false false) := by
  refine returnsInHanded_of_change (C := Try.checked) own started (by kernel_rfl) Try.func5
    (ChangeSpec.witness6 (enc := enc) (C := Try.checked) false ⟨#[], #[.agg #[.int .i64 0, .int .i64 1, .int .i64 0, .int .i64 1, .int .i64 0, .int .i64 1], .agg #[.int .i64 0, .int .i64 1, .int .i64 0, .int .i64 1, .int .i64 0, .int .i64 1], .int .i64 0, .agg #[.int .i64 0, .int .i64 1]], []⟩ 8 (by kernel_rfl) (by kernel_rfl) (by kernel_rfl) (by kernel_rfl)) ?_
  intro W base args ds gs before hval0 hW hcnd _
  have hval : ∀ (j : Nat) t v, Try.f5.params[j]? = some t → args[j]? = some v → Value.okWide Try.prog W .any base t v := hval0
  have hW' := hW
  obtain ⟨p, q, hA0, hV, rfl, hfz, hnd⟩ := hW
  have hA : DataW.TrodAll enc Try.prog W 0 (fun _ => true) true Try.f5.params.toList args.toList ds p := hA0
  rw [Try.params5] at hA hval
  obtain ⟨v0, vs0, e0, ds0, p0, q0, hargs, rfl, rfl, h0, r0⟩ := trodAll_cons hA
  obtain ⟨v1, vs1, e1, ds1, p1, q1, rfl, rfl, rfl, h1, r1⟩ := trodAll_cons r0
  obtain ⟨v2, vs2, e2, ds2, p2, q2, rfl, rfl, rfl, h2, r2⟩ := trodAll_cons r1
  obtain ⟨v3, vs3, e3, ds3, p3, q3, rfl, rfl, rfl, h3, r3⟩ := trodAll_cons r2
  obtain ⟨rfl, rfl, rfl⟩ := trodAll_nil r3
  obtain rfl : args = #[v0, v1, v2, v3] := by cases args; simp_all
  obtain ⟨rfl, rfl⟩ := trodVars_none hV
  obtain ⟨a0, b0, c0, d0, e0, f0, rfl, rfl, rfl, wx0, wy0, wz0⟩ := vec_opened (hval 0 32 v0 rfl rfl) h0
  obtain ⟨a1, b1, c1, d1, e1, f1, rfl, rfl, rfl, wx1, wy1, wz1⟩ := vec_opened (hval 1 32 v1 rfl rfl) h1
  obtain ⟨x2, rfl, rfl, rfl, wi2⟩ := open_int Try.underlying3 (hval 2 3 v2 rfl rfl) h2
  obtain ⟨k3a, k3b, y3a, y3b, m3, rfl, rfl, rfl, hy3a, hy3b⟩ := open_agg2 Try.underlying23 (by kernel_rfl) cellsFr (hval 3 23 v3 rfl rfl) h3
  obtain ⟨s3, u3a, rfl, ws3⟩ := DataW.trod_int Try.underlying2 hy3a
  obtain ⟨t3, u3b, rfl, wt3⟩ := DataW.trod_int Try.underlying2 hy3b
  simp at u3a u3b
  subst u3a u3b
  clear hA0 hval0
  simp only [List.append_nil] at hW'
  have structReads : ∀ (W' : World) (sp : Nat → Bool) (a b : Int) (wa : (Lit.int .i64 a).wf = true) (wb : (Lit.int .i64 b).wf = true), DataW.Trod enc Try.prog W' 0 sp true 23 (.agg #[.int .i64 a, .int .i64 b]) (.agg [.lit (.int .i64 a), .lit (.int .i64 b)]) [] := fun W' sp a b wa wb =>
    shut_agg2 (y0 := (.lit (.int .i64 a), [])) (y1 := (.lit (.int .i64 b), [])) Try.underlying23 (by kernel_rfl) cellsFr ⟨1, by simp [DataW.trod, Try.underlying2, wa]⟩ ⟨1, by simp [DataW.trod, Try.underlying2, wb]⟩
  have intReads : ∀ (W' : World) (sp : Nat → Bool) (x : Int) (wi : (Lit.int .i64 x).wf = true), DataW.Trod enc Try.prog W' 0 sp true 3 (.int .i64 x) (.lit (.int .i64 x)) [] := fun W' sp x wi => ⟨1, by simp [DataW.trod, Value.cells, Try.underlying3, wi]⟩
  refine (walk a0 b0 c0 d0 e0 f0 a1 b1 c1 d1 e1 f1 x2 s3 t3 wx0 wy0 wz0 wx1 wy1 wz1 ⟨ws3, wt3⟩ W).mono fun e W' ⟨he, hg⟩ => ?_
  subst he
  exact ⟨_, rfl, post_plain hW' (fun _ _ _ => (trodAll_cons_mk (shut_bool Try.underlying4 _) trodAll_mk0))
    (fun sp => trodAll_cons_mk (vec_shut _ _ _ _ _ _ wx0 wy0 wz0) (trodAll_cons_mk (vec_shut _ _ _ _ _ _ wx1 wy1 wz1) (trodAll_cons_mk (intReads _ sp x2 wi2) (trodAll_cons_mk (structReads _ sp _ _ ws3 wt3) trodAll_mk0)))) (fun _ => rfl)
    hg (ok_one (by kernel_rfl) rfl (okWide_bool_mk Try.underlying4 _))⟩

theorem over : Rows.vecKeptRow.holds Try.pinned (OpenSpec.ofChange Rows.vecKeptSpec) :=
  OpenClaim.holds_of_wide 5 Try.f5 rfl rfl rfl rfl rfl rfl rfl ⟨rfl, rfl, rfl, rfl, rfl⟩ rfl rfl rfl rfl rfl (by kernel_rfl) Try.func5 (by kernel_rfl)
    (of_decide_eq_true (by kernel_rfl)) (by unfold Func.isWrapper; first | (rw [if_pos (by decide +kernel)]; kernel_rfl) | (rw [if_neg (by decide +kernel)]; exact ⟨rfl, rfl⟩))
    (fun os started H enc _ => lifted os started H enc)

theorem proved : Rows.VecKeptSaid :=
  over
end Go.Proofs.Ytlijkebdaalldaa.vecKept
