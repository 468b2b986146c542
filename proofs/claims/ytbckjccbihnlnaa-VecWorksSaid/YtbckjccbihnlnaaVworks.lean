/-
  VecWorks: Check, Add, Sub, Scale, Dot and Cross of vectors return the reference's results: for every two vectors and every fraction of numbers of 64 bits.
-/
import Derived.Test.YtbckjccbihnlnaaRows
import Derived.WalkKit
import Derived.ProofKit
import Derived.OpenShut
import Derived.Lib.SmallJoins
import Derived.Test.YtbckjccbihnlnaaVz
import Derived.Carry
import Derived.Test.YtbckjccbihnlnaaFrow
import Derived.Test.YtbckjccbihnlnaaVrow
namespace Go.Proofs.Ytbckjccbihnlnaa.vecWorks
open Go.ChangeShapes Go.WideShapes Go.ChangeAt Go.RowKit Go.Joins
set_option linter.unusedVariables false
set_option linter.unusedSimpArgs false

theorem own : ownKnob Try.prog.godebug = none := by kernel_rfl
theorem walk (a b c d e f g h i j k l s t : Int) (h0 : ((Lit.int .i64 a).wf = true ∧ (Lit.int .i64 b).wf = true)) (h1 : ((Lit.int .i64 c).wf = true ∧ (Lit.int .i64 d).wf = true)) (h2 : ((Lit.int .i64 e).wf = true ∧ (Lit.int .i64 f).wf = true)) (h3 : ((Lit.int .i64 g).wf = true ∧ (Lit.int .i64 h).wf = true)) (h4 : ((Lit.int .i64 i).wf = true ∧ (Lit.int .i64 j).wf = true)) (h5 : ((Lit.int .i64 k).wf = true ∧ (Lit.int .i64 l).wf = true)) (h6 : ((Lit.int .i64 s).wf = true ∧ (Lit.int .i64 t).wf = true)) (w : World) :
    Calls Try.prog 6 #[.agg #[.int .i64 a, .int .i64 b, .int .i64 c, .int .i64 d, .int .i64 e, .int .i64 f], .agg #[.int .i64 g, .int .i64 h, .int .i64 i, .int .i64 j, .int .i64 k, .int .i64 l], .agg #[.int .i64 s, .int .i64 t]] w fun e w' => e = .returned (.bool true) ∧ Below w.heap.size w w' :=
  works_walk a b c d e f g h i j k l s t (wf_okC h0) (wf_okC h1) (wf_okC h2) (wf_okC h3) (wf_okC h4) (wf_okC h5) (wf_okC h6) w

set_option maxRecDepth 100000 in
theorem lifted (os : Os) (started : os.Started) (H : Type) (enc : TypeId × Value → H) :
    ReturnsInHanded {} Try.checked os 6 .any (Rows.vecWorksSpec.pre6 enc Try.prog Try.f6 Rows.vecWorksRow.domain false) (Rows.vecWorksSpec.post enc Try.prog Try.f6 false true false false) := by
  refine returnsInHanded_of_change (C := Try.checked) own started (by kernel_rfl) Try.func6
    (ChangeSpec.witness6 (enc := enc) (C := Try.checked) false ⟨#[], #[.agg #[.int .i64 0, .int .i64 1, .int .i64 0, .int .i64 1, .int .i64 0, .int .i64 1], .agg #[.int .i64 0, .int .i64 1, .int .i64 0, .int .i64 1, .int .i64 0, .int .i64 1], .agg #[.int .i64 0, .int .i64 1]], []⟩ 8 (by kernel_rfl) (by kernel_rfl) (by kernel_rfl) (by kernel_rfl)) ?_
  intro W base args ds gs before hval0 hW hcnd _
  have hval : ∀ (j : Nat) t v, Try.f6.params[j]? = some t → args[j]? = some v → Value.okWide Try.prog W .any base t v := hval0
  have hW' := hW
  obtain ⟨p, q, hA0, hV, rfl, hfz, hnd⟩ := hW
  have hA : DataW.TrodAll enc Try.prog W 0 (fun _ => true) true Try.f6.params.toList args.toList ds p := hA0
  rw [Try.params6] at hA hval
  obtain ⟨v0, vs0, e0, ds0, p0, q0, hargs, rfl, rfl, h0, r0⟩ := trodAll_cons hA
  obtain ⟨v1, vs1, e1, ds1, p1, q1, rfl, rfl, rfl, h1, r1⟩ := trodAll_cons r0
  obtain ⟨v2, vs2, e2, ds2, p2, q2, rfl, rfl, rfl, h2, r2⟩ := trodAll_cons r1
  obtain ⟨rfl, rfl, rfl⟩ := trodAll_nil r2
  obtain rfl : args = #[v0, v1, v2] := by cases args; simp_all
  obtain ⟨rfl, rfl⟩ := trodVars_none hV
  obtain ⟨a1, b1, c1, d1, e1', f1, rfl, rfl, rfl, wa, wb, wc⟩ := vec_opened (hval 0 42 v0 rfl rfl) h0
  obtain ⟨g1, i1, j1, k1, l1, m1, rfl, rfl, rfl, wd, we, wf⟩ := vec_opened (hval 1 42 v1 rfl rfl) h1
  obtain ⟨k0, k2, y0, y1, m0, rfl, rfl, rfl, hy0, hy1⟩ := open_agg2 Try.underlying23 (by kernel_rfl) cellsFr (hval 2 23 v2 rfl rfl) h2
  obtain ⟨s1, u0, rfl, ws1⟩ := DataW.trod_int Try.underlying2 hy0
  obtain ⟨t1, u1, rfl, wt1⟩ := DataW.trod_int Try.underlying2 hy1
  simp at u0 u1
  subst u0 u1
  clear hA0 hval0
  simp only [List.append_nil] at hW'
  have structReads : ∀ (W' : World) (sp : Nat → Bool) (a b : Int) (wa : (Lit.int .i64 a).wf = true) (wb : (Lit.int .i64 b).wf = true), DataW.Trod enc Try.prog W' 0 sp true 23 (.agg #[.int .i64 a, .int .i64 b]) (.agg [.lit (.int .i64 a), .lit (.int .i64 b)]) [] := fun W' sp a b wa wb =>
    shut_agg2 (y0 := (.lit (.int .i64 a), [])) (y1 := (.lit (.int .i64 b), [])) Try.underlying23 (by kernel_rfl) cellsFr ⟨1, by simp [DataW.trod, Try.underlying2, wa]⟩ ⟨1, by simp [DataW.trod, Try.underlying2, wb]⟩
  refine (walk a1 b1 c1 d1 e1' f1 g1 i1 j1 k1 l1 m1 s1 t1 wa wb wc wd we wf ⟨ws1, wt1⟩ W).mono fun e W' ⟨he, hg⟩ => ?_
  subst he
  exact ⟨_, rfl, post_plain hW' (fun _ _ _ => (trodAll_cons_mk (shut_bool Try.underlying4 _) trodAll_mk0)) (fun sp => trodAll_mk3 (vec_shut _ _ _ _ _ _ wa wb wc) (vec_shut _ _ _ _ _ _ wd we wf) (structReads _ sp _ _ ws1 wt1)) (fun _ => rfl)
    hg (ok_one (by kernel_rfl) rfl (okWide_bool_mk Try.underlying4 _))⟩

theorem over : Rows.vecWorksRow.holds Try.pinned (OpenSpec.ofChange Rows.vecWorksSpec) :=
  OpenClaim.holds_of_wide 6 Try.f6 rfl rfl rfl rfl rfl rfl rfl ⟨rfl, rfl, rfl, rfl, rfl⟩ rfl rfl rfl rfl rfl (by kernel_rfl) Try.func6 (by kernel_rfl)
    (of_decide_eq_true (by kernel_rfl)) (by unfold Func.isWrapper; first | (rw [if_pos (by decide +kernel)]; kernel_rfl) | (rw [if_neg (by decide +kernel)]; exact ⟨rfl, rfl⟩))
    (fun os started H enc _ => lifted os started H enc)

theorem proved : Rows.VecWorksSaid :=
  over
end Go.Proofs.Ytbckjccbihnlnaa.vecWorks
