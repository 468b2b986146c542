/-
  RiseMeets: Check, Meet and Next return the results and errors of the reference, and leave the windows as they are: for every two lists of windows and two numbers of 64 bits.
-/
import Derived.Test.YtcigjdadahlgnaaRows
import Derived.WalkKit
import Derived.ProofKit
import Derived.OpenShut
import Derived.Lib.SmallJoins
import Derived.Carry
import Derived.Test.YtcigjdadahlgnaaRg
import Derived.Test.YtcigjdadahlgnaaRrow
namespace Go.Proofs.Ytcigjdadahlgnaa.riseMeets
open Go.ChangeShapes Go.WideShapes Go.ChangeAt Go.RowKit Go.Joins Go.Deep
set_option linter.unusedVariables false
set_option linter.unusedSimpArgs false

theorem own : ownKnob Try.prog.godebug = none := by kernel_rfl

set_option maxRecDepth 100000 in
theorem lifted (os : Os) (started : os.Started) (H : Type) (enc : TypeId × Value → H) :
    ReturnsInHanded {} Try.checked os 3 .any (Rows.riseMeetsSpec.pre6 enc Try.prog Try.f3 Rows.riseMeetsRow.domain false) (Rows.riseMeetsSpec.post enc Try.prog Try.f3 false true false false) := by
  refine returnsInHanded_of_change (C := Try.checked) own started (by kernel_rfl) Try.func3
    (ChangeSpec.witness6 (enc := enc) (C := Try.checked) false ⟨#[], #[.slice none 0 0, .slice none 0 0, .int .i64 0, .int .i64 0], []⟩ 8 (by kernel_rfl) (by kernel_rfl) (by kernel_rfl) (by kernel_rfl)) ?_
  intro W base args ds gs before hval0 hW hcnd _
  have hval : ∀ (j : Nat) t v, Try.f3.params[j]? = some t → args[j]? = some v → Value.okWide Try.prog W .any base t v := hval0
  have hW' := hW
  have hlt : ∀ x ∈ before, x.block < W.heap.size := fun x hx => hW'.lt x hx
  obtain ⟨p, q, hA0, hV, hbef, hfz, hnd⟩ := hW
  have hA : DataW.TrodAll enc Try.prog W 0 (fun _ => true) true Try.f3.params.toList args.toList ds p := hA0
  rw [Try.params3] at hA hval
  obtain ⟨v0, vs0, e0, ds0, p0, q0, hargs, rfl, rfl, h0, r0⟩ := trodAll_cons hA
  obtain ⟨v1, vs1, e1, ds1, p1, q1, rfl, rfl, rfl, h1, r1⟩ := trodAll_cons r0
  obtain ⟨v2, vs2, e2, ds2, p2, q2, rfl, rfl, rfl, h2, r2⟩ := trodAll_cons r1
  obtain ⟨v3, vs3, e3, ds3, p3, q3, rfl, rfl, rfl, h3, r3⟩ := trodAll_cons r2
  obtain ⟨rfl, rfl, rfl⟩ := trodAll_nil r3
  obtain rfl : args = #[v0, v1, v2, v3] := by cases args; simp_all
  obtain ⟨rfl, rfl⟩ := trodVars_none hV
  have k0 := h0
  have m0 := hval 0 22 v0 rfl rfl
  have k1 := h1
  have m1 := hval 1 22 v1 rfl rfl
  have k2 := h2
  have m2 := hval 2 3 v2 rfl rfl
  have k3 := h3
  have m3 := hval 3 3 v3 rfl rfl
  clear hA0 hval0 hval hA
  obtain ⟨s0, n0, c0, g0, o0, L0, rfl, hs0, hn0, hb0, hl0⟩ := wins_opened m0 h0
  obtain ⟨s1, n1, c1, g1, o1, L1, rfl, hs1, hn1, hb1, hl1⟩ := wins_opened m1 h1
  obtain ⟨x2, rfl, rfl, rfl, wi2⟩ := open_int Try.underlying3 m2 h2
  have wx2 : -9223372036854775808 ≤ x2 ∧ x2 ≤ 9223372036854775807 := by simpa [Lit.wf, IntKind.min, IntKind.max, IntKind.signed, IntKind.bits] using wi2
  obtain ⟨x3, rfl, rfl, rfl, wi3⟩ := open_int Try.underlying3 m3 h3
  have wx3 : -9223372036854775808 ≤ x3 ∧ x3 ≤ 9223372036854775807 := by simpa [Lit.wf, IntKind.min, IntKind.max, IntKind.signed, IntKind.bits] using wi3
  refine (meets7 s0 s1 n0 n1 c0 c1 g0 o0 g1 o1 L0 L1 x2 x3 hs0 hn0 hn1 hb0 wx3.2 W hl0 hl1).mono fun e W' ⟨he, hg⟩ => ?_
  subst he
  refine ⟨_, rfl, post_below (pa := (p0 ++ (p1 ++ ([] ++ ([] ++ []))))) (pv := []) hW' (fun _ _ _ => (trodAll_cons_mk (shut_bool Try.underlying4 _) trodAll_mk0)) (fun sp hsp => ?_) (fun _ _ => rfl) (by rw [hbef]; try simp) hg (ok_one (by kernel_rfl) rfl (okWide_bool_mk Try.underlying4 _))⟩
  have st : ∀ (t : TypeId) (v : Value) (d : DataW H) (ps : List MemPlace), Try.prog.readableRec t = true → t < Try.prog.types.size → DataW.Trod enc Try.prog W 0 (fun _ => true) true t v d ps → (∀ x ∈ ps, x ∈ before) → DataW.Trod enc Try.prog W' 0 sp true t v d ps := fun t v d ps hr hrow h hin =>
    WideElems.Trod_stays laidP hr hrow h (fun x hx => hg.same (hlt x (hin x hx))) (fun x hx => hsp x (hin x hx))
  exact trodAll_cons_mk (st 22 _ _ _ (by kernel_rfl) (of_decide_eq_true (by kernel_rfl)) k0 (fun x hx => by first | exact absurd hx List.not_mem_nil | (rw [hbef]; simp [hx]))) (trodAll_cons_mk (st 22 _ _ _ (by kernel_rfl) (of_decide_eq_true (by kernel_rfl)) k1 (fun x hx => by first | exact absurd hx List.not_mem_nil | (rw [hbef]; simp [hx]))) (trodAll_cons_mk (st 3 _ _ _ (by kernel_rfl) (of_decide_eq_true (by kernel_rfl)) k2 (fun x hx => by first | exact absurd hx List.not_mem_nil | (rw [hbef]; simp [hx]))) (trodAll_cons_mk (st 3 _ _ _ (by kernel_rfl) (of_decide_eq_true (by kernel_rfl)) k3 (fun x hx => by first | exact absurd hx List.not_mem_nil | (rw [hbef]; simp [hx]))) trodAll_mk0)))

theorem over : Rows.riseMeetsRow.holds Try.pinned (OpenSpec.ofChange Rows.riseMeetsSpec) :=
  OpenClaim.holds_of_wide 3 Try.f3 rfl rfl rfl rfl rfl rfl rfl ⟨rfl, rfl, rfl, rfl, rfl⟩ rfl rfl rfl rfl rfl (by kernel_rfl) Try.func3 (by kernel_rfl)
    (of_decide_eq_true (by kernel_rfl)) (by unfold Func.isWrapper; first | (rw [if_pos (by decide +kernel)]; kernel_rfl) | (rw [if_neg (by decide +kernel)]; exact ⟨rfl, rfl⟩))
    (fun os started H enc _ => lifted os started H enc)

theorem proved : Rows.RiseMeetsSaid :=
  over
end Go.Proofs.Ytcigjdadahlgnaa.riseMeets
