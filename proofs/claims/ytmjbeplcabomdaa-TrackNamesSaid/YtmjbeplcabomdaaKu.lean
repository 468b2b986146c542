/-
  Short words for the steps that every walk takes: sizes of worlds with new blocks, and what is below a block.
-/
import Derived.WalkSmall
import Derived.Test.YtmjbeplcabomdaaFm
namespace Go.Proofs.Ytmjbeplcabomdaa
open Go.RowKit
set_option linter.unusedVariables false
theorem kp : (∀ n : Nat, n < n + 1 + 1) ∧ (∀ n : Nat, n < n + 1 + 1 + 1) ∧ (∀ n : Nat, n < n + 1 + 1 + 1 + 1) ∧ (∀ n : Nat, n < n + 1 + 1 + 1 + 1 + 1) ∧ (∀ n : Nat, n < n + 1 + 1 + 1 + 1 + 1 + 1) ∧ (∀ n : Nat, n < n + 1 + 1 + 1 + 1 + 1 + 1 + 1) ∧ (∀ n : Nat, n < n + 1 + 1 + 1 + 1 + 1 + 1 + 1 + 1) ∧ (∀ n : Nat, n < n + 1 + 1 + 1 + 1 + 1 + 1 + 1 + 1 + 1) :=
  ⟨ltk2, ltk3, ltk4, ltk5, ltk6, ltk7, ltk8, ltk9⟩
theorem bse {a b : World} (h : Below a.heap.size a b) {p : Addr} (u : Value) (hp : a.heap.size ≤ p.block := by first | omega | (simp <;> omega)) : Below a.heap.size a (b.setCell p u) := bset h hp u
theorem bex {m : Nat} {a b : World} (h : Below m a b) (l : List Obj) (d : Nat) (hm : m ≤ b.heap.size := by first | omega | (simp [ext_size, World.setCell] <;> omega)) : Below m a (ext b l d) := h.trans ((bext (b0 b) l d).mono hm)
theorem bala {m : Nat} {a b : World} (h : Below m a b) (o : Obj) (hm : m ≤ b.heap.size := by first | omega | (simp [ext_size, World.setCell] <;> omega)) : Below m a (b.alloc o) := h.alloc hm o
theorem bsea {m : Nat} {a b : World} (h : Below m a b) {p : Addr} (u : Value) (hp : m ≤ p.block := by first | omega | (simp [ext_size, World.setCell] <;> omega)) : Below m a (b.setCell p u) := h.setCell hp u
theorem bdr {m : Nat} {a b : World} (h : Below m a b) : Below m a b.drew := Below.drew h
theorem bdn {m : Nat} {a b : World} (h : Below m a b) (d : Nat) : Below m a (b.drewN d) := below_drewN h d
/-- A cell, a mark below a block are as they were; the facts are looked up. -/
theorem bce {m b o : Nat} {a w : World} {v : Option Value} (hb : Below m a w) (e : a.cell? ⟨b, o, none⟩ = v := by simp (maxDischargeDepth := 8) [go_sem, kp, *]) (h : b < m := by first | omega | (simp <;> omega)) : w.cell? ⟨b, o, none⟩ = v := (hb.cell h).trans e
theorem bfz {m b o : Nat} {a w : World} {v : Bool} (hb : Below m a w) (e : a.frozen? ⟨b, o, none⟩ = v := by simp (maxDischargeDepth := 8) [go_sem, kp, *]) (h : b < m := by first | omega | (simp <;> omega)) : w.frozen? ⟨b, o, none⟩ = v := (hb.frozen h).trans e
theorem dzA (W : World) (l : List Obj) (d : Nat) : ext W.drew l d = ext W l d := rfl
theorem dzB (W : World) (l : List Obj) (n d : Nat) : ext (W.drewN n) l d = ext W l d := rfl
theorem putA : (∀ (a : Act) (i : Nat) (v : Value), a.put (some i) v = { a with tmps := a.tmps.setIfInBounds i v }) ∧ (∀ (a : Act) (v : Value), a.put none v = a) ∧ (∀ (l : List Value) (i : Nat) (v : Value), l.toArray.setIfInBounds i v = (l.set i v).toArray) ∧ (∀ (x : Value) (l : List Value) (v : Value), (x :: l).set 0 v = v :: l) ∧ (∀ (x : Value) (l : List Value) (n : Nat) (v : Value), (x :: l).set (n + 1) v = x :: l.set n v) :=
  ⟨fun _ _ _ => rfl, fun _ _ => rfl, fun _ _ _ => List.setIfInBounds_toArray .., fun _ _ _ => rfl, fun _ _ _ _ => rfl⟩
theorem xRul : (∀ (w : World) (n : Nat) (o : Obj), (w.drewN n).alloc o = (w.alloc o).drewN n) ∧ (∀ (w : World) (n : Nat) (a : Addr) (v : Value), (w.drewN n).setCell a v = (w.setCell a v).drewN n) ∧
    (∀ (w : World) (l : List Obj) (d b o : Nat) (h : b < w.heap.size), (ext w l d).cell? ⟨b, o, none⟩ = w.cell? ⟨b, o, none⟩) ∧ (∀ (w : World) (l : List Obj) (d b o : Nat) (h : b < w.heap.size), (ext w l d).frozen? ⟨b, o, none⟩ = w.frozen? ⟨b, o, none⟩) ∧
    (∀ (w : World) (l : List Obj) (d b o : Nat) (v : Value) (h : b < w.heap.size), (ext w l d).setCell ⟨b, o, none⟩ v = ext (w.setCell ⟨b, o, none⟩ v) l d) ∧ (∀ (w : World) (l : List Obj) (d n : Nat), (ext w l d).drewN n = ext w l (d + n)) ∧ (∀ (w : World) (l : List Obj) (d : Nat), (ext w l d).drew = ext w l (d + 1)) ∧
    (∀ (w : World) (l : List Obj) (d b : Nat) (h : b < w.heap.size), b < (ext w l d).heap.size) ∧ (∀ (w : World) (l : List Obj) (d b : Nat) (h : b < w.heap.size), (b = (ext w l d).heap.size) = False) ∧ (∀ (w : World) (l : List Obj) (d b : Nat) (h : b < w.heap.size), ((ext w l d).heap.size = b) = False) ∧
    (∀ (w : World) (l m : List Obj) (d e : Nat), ext (ext w l d) m e = ext w (l ++ m) e) ∧ (∀ (w : World) (l : List Obj) (d b : Nat) (h : b < w.heap.size), b < (ext w l d).heap.size + 1) ∧ (∀ (w : World) (l : List Obj) (d b : Nat) (h : b < w.heap.size), b < (ext w l d).heap.size + 1 + 1) ∧ (∀ (w : World) (l : List Obj) (d b : Nat) (h : b < w.heap.size), b < (ext w l d).heap.size + 1 + 1 + 1) ∧
    (∀ (w : World) (l : List Obj) (d b : Nat) (h : b < w.heap.size), b ≤ (ext w l d).heap.size) ∧ (∀ (w : World) (l : List Obj) (d b : Nat) (h : b < w.heap.size), b ≤ (ext w l d).heap.size + 1) ∧ (∀ (w : World) (l : List Obj) (d b : Nat) (h : b < w.heap.size), b ≤ (ext w l d).heap.size + 1 + 1) :=
  ⟨dAl, dSt, ext_cell, ext_frozen, ext_set, ext_drewN, ext_drew, ext_lt, ext_ne, ext_nr, ext_ext, ext_lt1, ext_lt2, ext_lt3, ext_le0, ext_le1, ext_le2⟩
/-- Facts that are looked up: of a cell or a size; of a world's Below from its own size on, and from any. -/
theorem kk {P : Prop} (h : P := by simp (maxDischargeDepth := 8) [go_sem, kp, *]) : P := h
theorem kb {P : Prop} (h : P := by with_reducible repeat (first | assumption | exact b0 _ | refine bext ?_ _ _ | refine bdn ?_ _ | refine bdr ?_ | refine bal ?_ _ | refine bse ?_ _)) : P := h
theorem kg {P : Prop} (h : P := by with_reducible repeat (first | assumption | exact Below.refl _ _ | refine bex ?_ _ _ | refine bdn ?_ _ | refine bdr ?_ | refine bala ?_ _ | refine bsea ?_ _)) : P := h
end Go.Proofs.Ytmjbeplcabomdaa
