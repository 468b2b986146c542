/-
  Blocks of many cells: what is known of them behind new blocks and behind stores.
-/
import Derived.Test.YtmjbeplcabomdaaKu
import Derived.Test.YtmjbeplcabomdaaRows
import Derived.WalkKit
import Derived.WalkSpells
import Derived.WalkLawsBesides
import Derived.Handy
import Derived.Deep.RegionHeld3
import Derived.Deep.LoopGhost
import Derived.Deep.RegionLaw
import Derived.Test.YtmjbeplcabomdaaFm
import Derived.Laws.IdiomCopy
import Derived.Deep.MidRow
import Derived.Deep.DeepCutAuto
namespace Go.Proofs.Ytmjbeplcabomdaa
open Go.RowKit
set_option linter.unusedVariables false
set_option linter.unusedSimpArgs false

/-- Any goal about a world, shown of all worlds of which some facts are known. -/
theorem opq {G : World → Prop} {W : World} (P : World → Prop) (hP : P W) (h : ∀ w, P w → G w) : G W := h W hP
theorem opqC {pr : Program} {f : FuncId} {args : Array Value} {R : Ending → World → Prop} {W : World} (P : World → Prop) (hP : P W) (h : ∀ w, P w → Calls pr f args w R) : Calls pr f args W R := h W hP

/-- The first n cells of a block hold the numbers N. -/
def Cs (w : World) (b n : Nat) (N : Nat → Int) : Prop := ∀ o, o < n → w.cell? ⟨b, o, none⟩ = some (.int .i64 (N o))
/-- They may be written. -/
def Fs (w : World) (b n : Nat) : Prop := ∀ o, o < n → w.frozen? ⟨b, o, none⟩ = false
theorem cs_alloc {w : World} {b n : Nat} {N : Nat → Int} (x : Obj) (h : Cs w b n N) (hb : b < w.heap.size) : Cs (w.alloc x) b n N := by
  intro o ho; rw [World.cell?_alloc_lt _ _ _ hb]; exact h o ho
theorem fs_alloc {w : World} {b n : Nat} (x : Obj) (h : Fs w b n) (hb : b < w.heap.size) : Fs (w.alloc x) b n := by
  intro o ho; rw [World.frozen?_alloc_past _ _ _ hb]; exact h o ho
theorem cs_set {w : World} {b n c k : Nat} {N : Nat → Int} (x : Value) (h : Cs w b n N) (hb : b ≠ c) : Cs (w.setCell ⟨c, k, none⟩ x) b n N := by
  intro o ho; rw [World.cell?_setCell_far _ _ _ _ (fun e => hb e.symm)]; exact h o ho
theorem fs_set {w : World} {b n c k : Nat} (x : Value) (h : Fs w b n) : Fs (w.setCell ⟨c, k, none⟩ x) b n := by
  intro o ho; rw [World.frozen?_setCell]; exact h o ho
theorem cs_drewN {w : World} {b n d : Nat} {N : Nat → Int} (h : Cs w b n N) : Cs (w.drewN d) b n N := h
theorem cs_drew {w : World} {b n : Nat} {N : Nat → Int} (h : Cs w b n N) : Cs w.drew b n N := h
theorem fs_drewN {w : World} {b n d : Nat} (h : Fs w b n) : Fs (w.drewN d) b n := h
theorem fs_drew {w : World} {b n : Nat} (h : Fs w b n) : Fs w.drew b n := h
theorem cs_ext {w : World} {b n : Nat} {N : Nat → Int} (h : Cs w b n N) (hb : b < w.heap.size) (l : List Obj) (d : Nat) : Cs (ext w l d) b n N := by
  intro o ho; rw [ext_cell w l d b o hb]; exact h o ho
theorem fs_ext {w : World} {b n : Nat} (h : Fs w b n) (hb : b < w.heap.size) (l : List Obj) (d : Nat) : Fs (ext w l d) b n := by
  intro o ho; rw [ext_frozen w l d b o hb]; exact h o ho
/-- What is below a block is as it was, behind a callee too. -/
theorem bextm {m : Nat} {a b : World} (h : Below m a b) (hm : m ≤ b.heap.size) (l : List Obj) (d : Nat) : Below m a (ext b l d) :=
  h.trans ((bext (b0 b) l d).mono hm)
/-- N with x at k. -/
def up (N : Nat → Int) (k : Nat) (x : Int) : Nat → Int := fun o => if o = k then x else N o
theorem cs_up {w : World} {b n k : Nat} {N : Nat → Int} {x : Int} (h : Cs w b n N) (hk : k < n) : Cs (w.setCell ⟨b, k, none⟩ (.int .i64 x)) b n (up N k x) := by
  intro o ho
  by_cases q : o = k
  · subst q; rw [World.cell?_setCell_same _ _ _ (h o ho)]; simp [up]
  · rw [World.cell?_setCell_other _ _ _ _ (by intro e; injection e with _ e2; exact q e2.symm), h o ho]; simp [up, q]
theorem cs_eq {w : World} {b n : Nat} {N N' : Nat → Int} (h : Cs w b n N) (e : ∀ o, o < n → N o = N' o) : Cs w b n N' := by
  intro o ho; rw [← e o ho]; exact h o ho
theorem cs_new {w : World} {n : Nat} {N : Nat → Int} {c : Array Value} {t : TypeId} {b : Nat} (hb : b = w.heap.size) (h : ∀ o, o < n → c[o]? = some (.int .i64 (N o))) : Cs (w.alloc (.cells c t)) b n N := by
  intro o ho; subst hb; rw [World.cell?_alloc_new]; exact h o ho
theorem fs_new {w : World} {n : Nat} {c : Array Value} {t : TypeId} {b : Nat} (hb : b = w.heap.size) : Fs (w.alloc (.cells c t)) b n := by
  intro o ho; exact World.frozen?_alloc_at _ _ _ _ hb
theorem cs_below {m : Nat} {a w : World} {b n : Nat} {N : Nat → Int} (h : Cs a b n N) (hb : Below m a w) (k : b < m) : Cs w b n N := by
  intro o ho; rw [hb.cell k]; exact h o ho
theorem fs_below {m : Nat} {a w : World} {b n : Nat} (h : Fs a b n) (hb : Below m a w) (k : b < m) : Fs w b n := by
  intro o ho; rw [hb.frozen k]; exact h o ho
theorem cases18 {P : Nat → Prop} (p0 : P 0) (p1 : P 1) (p2 : P 2) (p3 : P 3) (p4 : P 4) (p5 : P 5) (p6 : P 6) (p7 : P 7) (p8 : P 8) (p9 : P 9) (pa : P 10) (pb : P 11) (pc : P 12) (pd : P 13) (pe : P 14) (pf : P 15) (pg : P 16) (ph : P 17) : ∀ o, o < 18 → P o := by
  intro o ho
  rcases (show o = 0 ∨ o = 1 ∨ o = 2 ∨ o = 3 ∨ o = 4 ∨ o = 5 ∨ o = 6 ∨ o = 7 ∨ o = 8 ∨ o = 9 ∨ o = 10 ∨ o = 11 ∨ o = 12 ∨ o = 13 ∨ o = 14 ∨ o = 15 ∨ o = 16 ∨ o = 17 by omega) with rfl | rfl | rfl | rfl | rfl | rfl | rfl | rfl | rfl | rfl | rfl | rfl | rfl | rfl | rfl | rfl | rfl | rfl <;> assumption
theorem arr0 : ∀ o, o < 18 → (#[.int .i64 0, .int .i64 0, .int .i64 0, .int .i64 0, .int .i64 0, .int .i64 0, .int .i64 0, .int .i64 0, .int .i64 0, .int .i64 0, .int .i64 0, .int .i64 0, .int .i64 0, .int .i64 0, .int .i64 0, .int .i64 0, .int .i64 0, .int .i64 0] : Array Value)[o]? = some (.int .i64 ((fun _ => (0 : Int)) o)) := by
  apply cases18 <;> rfl
theorem arrM (M : Nat → Int) : ∀ o, o < 18 → (#[.int .i64 (M 0), .int .i64 (M 1), .int .i64 (M 2), .int .i64 (M 3), .int .i64 (M 4), .int .i64 (M 5), .int .i64 (M 6), .int .i64 (M 7), .int .i64 (M 8), .int .i64 (M 9), .int .i64 (M 10), .int .i64 (M 11), .int .i64 (M 12), .int .i64 (M 13), .int .i64 (M 14), .int .i64 (M 15), .int .i64 (M 16), .int .i64 (M 17)] : Array Value)[o]? = some (.int .i64 (M o)) := by
  apply cases18 <;> rfl
theorem arr06 : ∀ o, o < 6 → (#[.int .i64 0, .int .i64 0, .int .i64 0, .int .i64 0, .int .i64 0, .int .i64 0] : Array Value)[o]? = some (.int .i64 ((fun _ => (0 : Int)) o)) := by
  intro o ho
  rcases (show o = 0 ∨ o = 1 ∨ o = 2 ∨ o = 3 ∨ o = 4 ∨ o = 5 by omega) with rfl | rfl | rfl | rfl | rfl | rfl <;> rfl
theorem arrV (V : Nat → Int) : ∀ o, o < 6 → (#[.int .i64 (V 0), .int .i64 (V 1), .int .i64 (V 2), .int .i64 (V 3), .int .i64 (V 4), .int .i64 (V 5)] : Array Value)[o]? = some (.int .i64 (V o)) := by
  intro o ho
  rcases (show o = 0 ∨ o = 1 ∨ o = 2 ∨ o = 3 ∨ o = 4 ∨ o = 5 by omega) with rfl | rfl | rfl | rfl | rfl | rfl <;> rfl
theorem there_of {w : World} {b n : Nat} {N : Nat → Int} (h : Cs w b n N) (f : Fs w b n) : w.there b 0 n := by
  intro j hj
  exact ⟨by rw [Nat.zero_add, h j hj]; rfl, by rw [Nat.zero_add]; exact f j hj⟩
/-- A store of eighteen cells. -/
theorem cs_set18 {w : World} {b : Nat} {N0 : Nat → Int} (N : Nat → Int) (h : Cs w b 18 N0) : Cs (w.setCells b 0 [Value.int .i64 (N 0), Value.int .i64 (N 1), Value.int .i64 (N 2), Value.int .i64 (N 3), Value.int .i64 (N 4), Value.int .i64 (N 5), Value.int .i64 (N 6), Value.int .i64 (N 7), Value.int .i64 (N 8), Value.int .i64 (N 9), Value.int .i64 (N 10), Value.int .i64 (N 11), Value.int .i64 (N 12), Value.int .i64 (N 13), Value.int .i64 (N 14), Value.int .i64 (N 15), Value.int .i64 (N 16), Value.int .i64 (N 17)]) b 18 N := by
  intro o ho
  have K := World.cell?_setCells_in b [Value.int .i64 (N 0), Value.int .i64 (N 1), Value.int .i64 (N 2), Value.int .i64 (N 3), Value.int .i64 (N 4), Value.int .i64 (N 5), Value.int .i64 (N 6), Value.int .i64 (N 7), Value.int .i64 (N 8), Value.int .i64 (N 9), Value.int .i64 (N 10), Value.int .i64 (N 11), Value.int .i64 (N 12), Value.int .i64 (N 13), Value.int .i64 (N 14), Value.int .i64 (N 15), Value.int .i64 (N 16), Value.int .i64 (N 17)] 0 w (by intro j hj; rw [Nat.zero_add, h j (by simpa using hj)]; rfl) o (by simpa using ho)
  rw [Nat.zero_add] at K
  rw [K]
  revert ho; revert o
  intro o ho K
  exact (cases18 (P := fun o => ∀ h : o < [Value.int .i64 (N 0), Value.int .i64 (N 1), Value.int .i64 (N 2), Value.int .i64 (N 3), Value.int .i64 (N 4), Value.int .i64 (N 5), Value.int .i64 (N 6), Value.int .i64 (N 7), Value.int .i64 (N 8), Value.int .i64 (N 9), Value.int .i64 (N 10), Value.int .i64 (N 11), Value.int .i64 (N 12), Value.int .i64 (N 13), Value.int .i64 (N 14), Value.int .i64 (N 15), Value.int .i64 (N 16), Value.int .i64 (N 17)].length, some ([Value.int .i64 (N 0), Value.int .i64 (N 1), Value.int .i64 (N 2), Value.int .i64 (N 3), Value.int .i64 (N 4), Value.int .i64 (N 5), Value.int .i64 (N 6), Value.int .i64 (N 7), Value.int .i64 (N 8), Value.int .i64 (N 9), Value.int .i64 (N 10), Value.int .i64 (N 11), Value.int .i64 (N 12), Value.int .i64 (N 13), Value.int .i64 (N 14), Value.int .i64 (N 15), Value.int .i64 (N 16), Value.int .i64 (N 17)][o]'h) = some (Value.int .i64 (N o))) (fun _ => rfl) (fun _ => rfl) (fun _ => rfl) (fun _ => rfl) (fun _ => rfl) (fun _ => rfl) (fun _ => rfl) (fun _ => rfl) (fun _ => rfl) (fun _ => rfl) (fun _ => rfl) (fun _ => rfl) (fun _ => rfl) (fun _ => rfl) (fun _ => rfl) (fun _ => rfl) (fun _ => rfl) (fun _ => rfl)) o ho _
theorem below_sets {n : Nat} {a : World} (b : Nat) (hb : n ≤ b) : ∀ (vs : List Value) (o : Nat) (w : World), Below n a w → Below n a (w.setCells b o vs)
  | [], _, _, h => h
  | v :: r, o, w, h => below_sets b hb r (o + 1) _ (Below.setCell h hb v)
theorem cs_ala {w : World} {b n : Nat} {N : Nat → Int} (x : Obj) (h : Cs w b n N) (hb : b < w.heap.size := by first | omega | (simp [ext_size, World.setCell] <;> omega)) : Cs (w.alloc x) b n N := cs_alloc x h hb
theorem fs_ala {w : World} {b n : Nat} (x : Obj) (h : Fs w b n) (hb : b < w.heap.size := by first | omega | (simp [ext_size, World.setCell] <;> omega)) : Fs (w.alloc x) b n := fs_alloc x h hb
theorem cs_sea {w : World} {b n c k : Nat} {N : Nat → Int} (x : Value) (h : Cs w b n N) (hb : b ≠ c := by first | omega | (simp <;> omega)) : Cs (w.setCell ⟨c, k, none⟩ x) b n N := cs_set x h hb
theorem cs_exa {w : World} {b n : Nat} {N : Nat → Int} (h : Cs w b n N) (l : List Obj) (d : Nat) (hb : b < w.heap.size := by first | omega | (simp [ext_size, World.setCell] <;> omega)) : Cs (ext w l d) b n N := cs_ext h hb l d
theorem fs_exa {w : World} {b n : Nat} (h : Fs w b n) (l : List Obj) (d : Nat) (hb : b < w.heap.size := by first | omega | (simp [ext_size, World.setCell] <;> omega)) : Fs (ext w l d) b n := fs_ext h hb l d
theorem cs_upa {w : World} {b n k : Nat} {N : Nat → Int} {x : Int} (h : Cs w b n N) (hk : k < n := by decide) : Cs (w.setCell ⟨b, k, none⟩ (.int .i64 x)) b n (up N k x) := cs_up h hk
theorem kc {P : Prop} (h : P := by with_reducible repeat (first | assumption | refine cs_drewN ?_ | refine cs_drew ?_ | refine cs_exa ?_ _ _ | refine cs_ala _ ?_ | refine cs_upa ?_ | refine cs_sea _ ?_)) : P := h
theorem kf {P : Prop} (h : P := by with_reducible repeat (first | assumption | refine fs_drewN ?_ | refine fs_drew ?_ | refine fs_exa ?_ _ _ | refine fs_ala _ ?_ | refine fs_set _ ?_)) : P := h
end Go.Proofs.Ytmjbeplcabomdaa
