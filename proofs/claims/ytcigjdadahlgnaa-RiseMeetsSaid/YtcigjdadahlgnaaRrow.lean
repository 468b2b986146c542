/-
  Rows whose arguments lead to memory that the call only reads: the last step; lists of windows as arguments.
-/
import Derived.Test.YtcigjdadahlgnaaRows
import Derived.WalkKit
import Derived.ProofKit
import Derived.OpenShut
import Derived.Lib.SmallJoins
import Derived.Carry
import Derived.ChangeSame
import Derived.Deep.SlicePairs
import Derived.Test.YtcigjdadahlgnaaRa
namespace Go.Proofs.Ytcigjdadahlgnaa
open Go.ChangeShapes Go.WideShapes Go.ChangeAt Go.RowKit Go.Joins Go.Deep
set_option linter.unusedVariables false
set_option linter.unusedSimpArgs false

theorem post_below {H : Type} {enc : TypeId × Value → H} {P : Program} {f : Func} {s : ChangeSpec} {apart fresh handsOn again : Bool} {W W' : World} {args : Array Value} {v : Value} {ds gs : List (DataW H)} {before pa pv : List MemPlace}
    (hW : DataW.Whole enc P f.params.toList s.vars apart W args.toList ds gs before)
    (hres : ∀ (b : Nat) (sp : Nat → Bool) (hd : Bool), DataW.TrodAll enc P W' b sp hd f.resultTypes.toList (v.resultList f.resultTypes.size) (s.fn H (ds ++ gs)).results [])
    (hargs : ∀ sp : Nat → Bool, (∀ p ∈ before, sp p.block = true) → DataW.TrodAll enc P W' 0 sp true f.params.toList args.toList (s.fn H (ds ++ gs)).args pa)
    (hvars : ∀ sp : Nat → Bool, (∀ p ∈ before, sp p.block = true) → DataW.TrodVars enc P W' sp s.vars (s.fn H (ds ++ gs)).vars pv)
    (hps : before = pa ++ pv) (hb : Below W.heap.size W W')
    (hok : ∀ (j : Nat) (t : TypeId) (r : Value), f.resultTypes[j]? = some t → (v.resultList f.resultTypes.size)[j]? = some r → Value.okWide P W' .any 0 t r) :
    s.post enc P f apart fresh handsOn again W args v W' := by
  have hold : ∀ p ∈ before, (fun b => decide (b < W.heap.size)) p.block = true := fun p hp => by simpa using hW.lt p hp
  have hlt := fun p hp => hW.lt p hp
  refine ⟨ds, gs, before, [], pa, pv, hW, hres _ _ _, hargs _ hold, hvars _ hold, hb.frame _, fun _ => ?_⟩
  obtain ⟨_, _, _, _, _, hz, hn⟩ := hW
  refine ⟨hok, _, _, ([] ++ pa) ++ pv, ⟨[] ++ pa, pv, trodAll_append (hargs _ (fun _ _ => rfl)) (hres _ _ _), hvars _ (fun _ _ => rfl), rfl, ?_, ?_⟩, ?_⟩
  · intro b off hp
    have hp' : MemPlace.cell b off ∈ before := by rw [hps]; simpa using hp
    rw [hb.frozen (hlt _ hp')]
    exact hz b off hp'
  · intro ha
    have := hn ha
    rw [hps] at this
    simpa using this
  · intro p hp _
    rw [hps]
    simpa using hp
theorem cell_lt {w : World} {g o : Nat} {v : Value} (h : w.cell? ⟨g, o, none⟩ = some v) : g < w.heap.size := by
  by_cases hg : g < w.heap.size
  · exact hg
  · have : w.heap[g]? = none := Array.getElem?_eq_none (by omega)
    simp [World.cell?, this] at h
theorem cellsWi : Try.prog.cellsOf 38 = 2 := by kernel_rfl
theorem cellsInt : Try.prog.cellsOf 3 = 1 := by kernel_rfl
section
variable {H : Type} {enc : TypeId × Value → H} {w : World}
set_option maxRecDepth 100000 in
theorem wins_opened {b0 : Nat} {v : Value} {d : DataW H} {p : List MemPlace} (hv : Value.okWide Try.prog w .any b0 22 v) (h : DataW.Trod enc Try.prog w 0 (fun _ => true) true 22 v d p) :
    ∃ (s : Option Addr) (n cap g o : Nat) (L : List Win), v = .slice s n cap ∧ (s = none → n = 0 ∧ cap = 0) ∧ n ≤ cap ∧ (∀ k, k < n → -9223372036854775808 ≤ fW L k ∧ tW L k ≤ 9223372036854775807) ∧ slW w s n g o L := by
  obtain ⟨a0, n0, c0, rfl⟩ := okWide_slice Try.underlying22 hv
  obtain ⟨fuel, hf⟩ := h
  have hf' : DataW.trod enc Try.prog w 0 (fun _ => true) true fuel 22 [.slice a0 n0 c0] = some (d, p) := hf
  rcases open_slice_pairs Try.underlying22 Try.underlying38 cellsWi rfl rfl cellsInt cellsInt hf' with ⟨hc, hx⟩ | ⟨a, len, cap, m, k, V0, V1, D0, D1, P0, P1, hc, _, hl, hm, hmm, hx, hall⟩
  · simp only [List.cons.injEq, and_true, Value.slice.injEq] at hc
    obtain ⟨rfl, rfl, rfl⟩ := hc
    exact ⟨none, 0, 0, 0, 0, [], rfl, fun _ => ⟨rfl, rfl⟩, Nat.le_refl _, fun k hk => by omega, rfl, fun h => by omega, fun k hk => by omega⟩
  · simp only [List.cons.injEq, and_true, Value.slice.injEq] at hc
    obtain ⟨rfl, rfl, rfl⟩ := hc
    simp only [if_true] at hmm
    subst hmm
    have each : ∀ i, i < n0 → ∃ x : Int × Int, w.cell? (a.add (i * 2)) = some (.int .i64 x.1) ∧ w.cell? (a.add (i * 2 + 1)) = some (.int .i64 x.2) ∧ (Lit.int .i64 x.1).wf = true ∧ (Lit.int .i64 x.2).wf = true := by
      intro i hi
      obtain ⟨h1, h2, h3, h4⟩ := hall i (by omega)
      obtain ⟨x, e0, u0, wx⟩ := DataW.trod_int Try.underlying3 h3
      obtain ⟨y, e1, u1, wy⟩ := DataW.trod_int Try.underlying3 h4
      simp at e0 e1
      rw [e0] at h1
      rw [e1] at h2
      exact ⟨(x, y), h1, h2, wx, wy⟩
    obtain ⟨F, hF⟩ := choose_lt each
    obtain ⟨g, o, sp⟩ := a
    refine ⟨some ⟨g, o, sp⟩, n0, m, g, o, (List.range n0).map F, rfl, fun h => by simp at h, hl, ?_, by simp, ?_, ?_⟩
    · intro k hk
      have e : ((List.range n0).map F).getD k (0, 0) = F k := by
        rw [List.getD_eq_getElem?_getD, List.getElem?_map, List.getElem?_range hk]; rfl
      obtain ⟨_, _, w1, w2⟩ := hF k hk
      unfold fW tW
      rw [e]
      have b1 : -9223372036854775808 ≤ (F k).1 ∧ (F k).1 ≤ 9223372036854775807 := by simpa [Lit.wf, IntKind.min, IntKind.max, IntKind.signed, IntKind.bits] using w1
      have b2 : -9223372036854775808 ≤ (F k).2 ∧ (F k).2 ≤ 9223372036854775807 := by simpa [Lit.wf, IntKind.min, IntKind.max, IntKind.signed, IntKind.bits] using w2
      exact ⟨b1.1, b2.2⟩
    · intro h0
      have h1 := (hF 0 h0).1
      have hsp : sp = none := by simpa [Addr.add] using World.cell?_spot h1
      subst hsp
      refine ⟨rfl, ?_⟩
      exact cell_lt (by simpa [Addr.add] using h1)
    · intro k hk
      have hsp : sp = none := by simpa [Addr.add] using World.cell?_spot (hF 0 (by omega)).1
      subst hsp
      have e : ((List.range n0).map F).getD k (0, 0) = F k := by
        rw [List.getD_eq_getElem?_getD, List.getElem?_map, List.getElem?_range hk]; rfl
      obtain ⟨h1, h2, _, _⟩ := hF k hk
      unfold fW tW
      rw [e]
      have e1 : ((⟨g, o, none⟩ : Addr).add (k * 2)) = ⟨g, o + k * 2, none⟩ := by
        unfold Addr.add
        by_cases h0 : k * 2 = 0
        · simp [h0]
        · simp [h0]
      have e2 : ((⟨g, o, none⟩ : Addr).add (k * 2 + 1)) = ⟨g, o + k * 2 + 1, none⟩ := by
        unfold Addr.add
        simp [Nat.add_assoc]
      rw [← e1, ← e2]
      exact ⟨h1, h2⟩
end
theorem laidP : laidOutB Try.prog = true := by kernel_rfl
end Go.Proofs.Ytcigjdadahlgnaa
