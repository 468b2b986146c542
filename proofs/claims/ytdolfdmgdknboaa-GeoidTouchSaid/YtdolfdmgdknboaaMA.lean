/-
  Blocks of many cells: what is known of them behind new blocks and behind stores.  Matrices: their rows; loads, stores and results of eighteen cells; flipped matrices.  Regions that draw their order: loads of many cells are taken first; what stands below a block is as it was.  append on rows of fractions, where there is no room.  Package vec: flip.  Plain words for vectors: valid coordinates, first
-/
import Derived.Test.YtdolfdmgdknboaaKu
import Derived.Test.YtdolfdmgdknboaaRows
import Derived.WalkKit
import Derived.WalkSpells
import Derived.WalkLawsBesides
import Derived.Handy
import Derived.Deep.RegionHeld3
import Derived.Deep.LoopGhost
import Derived.Deep.RegionLaw
import Derived.Test.YtdolfdmgdknboaaFm
import Derived.Laws.IdiomCopy
import Derived.Deep.MidRow
import Derived.Deep.DeepCutAuto
import Derived.Deep.RegionLawGrows
import Derived.Lib.SmallJoins
import Derived.Test.YtdolfdmgdknboaaFff
import Derived.IntWalk
import Derived.Test.YtdolfdmgdknboaaFx
namespace Go.Proofs.Ytdolfdmgdknboaa
open Go.RowKit
set_option linter.unusedVariables false
set_option linter.unusedSimpArgs false

/-- Any goal about a world, shown of all worlds of which some facts are known. -/
theorem opq {G : World → Prop} {W : World} (P : World → Prop) (hP : P W) (h : ∀ w, P w → G w) : G W := h W hP
theorem opqC {pr : Program} {f : FuncId} {args : Array Value} {R : Ending → World → Prop} {W : World} (P : World → Prop) (hP : P W) (h : ∀ w, P w → Calls pr f args w R) : Calls pr f args W R := h W hP

/-- The first n cells of a block hold the numbers N. -/
def Cs (w : World) (b n : Nat) (N : Nat → Int) : Prop := ∀ o, o < n → w.cell? ⟨b, o, none⟩ = some (.int .i64 (N o))
/-- They may be written. -/
def Fs (w : World) (b n : Nat) : Prop := ∀ o, o < n → w.frozen? ⟨b, o, none⟩ = false
theorem cs_alloc {w : World} {b n : Nat} {N : Nat → Int} (x : Obj) (h : Cs w b n N) (hb : b < w.heap.size) : Cs (w.alloc x) b n N := by
  intro o ho; rw [World.cell?_alloc_lt _ _ _ hb]; exact h o ho
theorem fs_alloc {w : World} {b n : Nat} (x : Obj) (h : Fs w b n) (hb : b < w.heap.size) : Fs (w.alloc x) b n := by
  intro o ho; rw [World.frozen?_alloc_past _ _ _ hb]; exact h o ho
theorem cs_set {w : World} {b n c k : Nat} {N : Nat → Int} (x : Value) (h : Cs w b n N) (hb : b ≠ c) : Cs (w.setCell ⟨c, k, none⟩ x) b n N := by
  intro o ho; rw [World.cell?_setCell_far _ _ _ _ (fun e => hb e.symm)]; exact h o ho
theorem fs_set {w : World} {b n c k : Nat} (x : Value) (h : Fs w b n) : Fs (w.setCell ⟨c, k, none⟩ x) b n := by
  intro o ho; rw [World.frozen?_setCell]; exact h o ho
theorem cs_drewN {w : World} {b n d : Nat} {N : Nat → Int} (h : Cs w b n N) : Cs (w.drewN d) b n N := h
theorem cs_drew {w : World} {b n : Nat} {N : Nat → Int} (h : Cs w b n N) : Cs w.drew b n N := h
theorem fs_drewN {w : World} {b n d : Nat} (h : Fs w b n) : Fs (w.drewN d) b n := h
theorem fs_drew {w : World} {b n : Nat} (h : Fs w b n) : Fs w.drew b n := h
theorem cs_ext {w : World} {b n : Nat} {N : Nat → Int} (h : Cs w b n N) (hb : b < w.heap.size) (l : List Obj) (d : Nat) : Cs (ext w l d) b n N := by
  intro o ho; rw [ext_cell w l d b o hb]; exact h o ho
theorem fs_ext {w : World} {b n : Nat} (h : Fs w b n) (hb : b < w.heap.size) (l : List Obj) (d : Nat) : Fs (ext w l d) b n := by
  intro o ho; rw [ext_frozen w l d b o hb]; exact h o ho
/-- What is below a block is as it was, behind a callee too. -/
theorem bextm {m : Nat} {a b : World} (h : Below m a b) (hm : m ≤ b.heap.size) (l : List Obj) (d : Nat) : Below m a (ext b l d) :=
  h.trans ((bext (b0 b) l d).mono hm)
/-- N with x at k. -/
def up (N : Nat → Int) (k : Nat) (x : Int) : Nat → Int := fun o => if o = k then x else N o
theorem cs_up {w : World} {b n k : Nat} {N : Nat → Int} {x : Int} (h : Cs w b n N) (hk : k < n) : Cs (w.setCell ⟨b, k, none⟩ (.int .i64 x)) b n (up N k x) := by
  intro o ho
  by_cases q : o = k
  · subst q; rw [World.cell?_setCell_same _ _ _ (h o ho)]; simp [up]
  · rw [World.cell?_setCell_other _ _ _ _ (by intro e; injection e with _ e2; exact q e2.symm), h o ho]; simp [up, q]
theorem cs_eq {w : World} {b n : Nat} {N N' : Nat → Int} (h : Cs w b n N) (e : ∀ o, o < n → N o = N' o) : Cs w b n N' := by
  intro o ho; rw [← e o ho]; exact h o ho
theorem cs_new {w : World} {n : Nat} {N : Nat → Int} {c : Array Value} {t : TypeId} {b : Nat} (hb : b = w.heap.size) (h : ∀ o, o < n → c[o]? = some (.int .i64 (N o))) : Cs (w.alloc (.cells c t)) b n N := by
  intro o ho; subst hb; rw [World.cell?_alloc_new]; exact h o ho
theorem fs_new {w : World} {n : Nat} {c : Array Value} {t : TypeId} {b : Nat} (hb : b = w.heap.size) : Fs (w.alloc (.cells c t)) b n := by
  intro o ho; exact World.frozen?_alloc_at _ _ _ _ hb
theorem cs_below {m : Nat} {a w : World} {b n : Nat} {N : Nat → Int} (h : Cs a b n N) (hb : Below m a w) (k : b < m) : Cs w b n N := by
  intro o ho; rw [hb.cell k]; exact h o ho
theorem fs_below {m : Nat} {a w : World} {b n : Nat} (h : Fs a b n) (hb : Below m a w) (k : b < m) : Fs w b n := by
  intro o ho; rw [hb.frozen k]; exact h o ho
theorem cases18 {P : Nat → Prop} (p0 : P 0) (p1 : P 1) (p2 : P 2) (p3 : P 3) (p4 : P 4) (p5 : P 5) (p6 : P 6) (p7 : P 7) (p8 : P 8) (p9 : P 9) (pa : P 10) (pb : P 11) (pc : P 12) (pd : P 13) (pe : P 14) (pf : P 15) (pg : P 16) (ph : P 17) : ∀ o, o < 18 → P o := by
  intro o ho
  rcases (show o = 0 ∨ o = 1 ∨ o = 2 ∨ o = 3 ∨ o = 4 ∨ o = 5 ∨ o = 6 ∨ o = 7 ∨ o = 8 ∨ o = 9 ∨ o = 10 ∨ o = 11 ∨ o = 12 ∨ o = 13 ∨ o = 14 ∨ o = 15 ∨ o = 16 ∨ o = 17 by omega) with rfl | rfl | rfl | rfl | rfl | rfl | rfl | rfl | rfl | rfl | rfl | rfl | rfl | rfl | rfl | rfl | rfl | rfl <;> assumption
theorem arr0 : ∀ o, o < 18 → (#[.int .i64 0, .int .i64 0, .int .i64 0, .int .i64 0, .int .i64 0, .int .i64 0, .int .i64 0, .int .i64 0, .int .i64 0, .int .i64 0, .int .i64 0, .int .i64 0, .int .i64 0, .int .i64 0, .int .i64 0, .int .i64 0, .int .i64 0, .int .i64 0] : Array Value)[o]? = some (.int .i64 ((fun _ => (0 : Int)) o)) := by
  apply cases18 <;> rfl
theorem arrM (M : Nat → Int) : ∀ o, o < 18 → (#[.int .i64 (M 0), .int .i64 (M 1), .int .i64 (M 2), .int .i64 (M 3), .int .i64 (M 4), .int .i64 (M 5), .int .i64 (M 6), .int .i64 (M 7), .int .i64 (M 8), .int .i64 (M 9), .int .i64 (M 10), .int .i64 (M 11), .int .i64 (M 12), .int .i64 (M 13), .int .i64 (M 14), .int .i64 (M 15), .int .i64 (M 16), .int .i64 (M 17)] : Array Value)[o]? = some (.int .i64 (M o)) := by
  apply cases18 <;> rfl
theorem arr06 : ∀ o, o < 6 → (#[.int .i64 0, .int .i64 0, .int .i64 0, .int .i64 0, .int .i64 0, .int .i64 0] : Array Value)[o]? = some (.int .i64 ((fun _ => (0 : Int)) o)) := by
  intro o ho
  rcases (show o = 0 ∨ o = 1 ∨ o = 2 ∨ o = 3 ∨ o = 4 ∨ o = 5 by omega) with rfl | rfl | rfl | rfl | rfl | rfl <;> rfl
theorem arrV (V : Nat → Int) : ∀ o, o < 6 → (#[.int .i64 (V 0), .int .i64 (V 1), .int .i64 (V 2), .int .i64 (V 3), .int .i64 (V 4), .int .i64 (V 5)] : Array Value)[o]? = some (.int .i64 (V o)) := by
  intro o ho
  rcases (show o = 0 ∨ o = 1 ∨ o = 2 ∨ o = 3 ∨ o = 4 ∨ o = 5 by omega) with rfl | rfl | rfl | rfl | rfl | rfl <;> rfl
theorem there_of {w : World} {b n : Nat} {N : Nat → Int} (h : Cs w b n N) (f : Fs w b n) : w.there b 0 n := by
  intro j hj
  exact ⟨by rw [Nat.zero_add, h j hj]; rfl, by rw [Nat.zero_add]; exact f j hj⟩
/-- A store of eighteen cells. -/
theorem cs_set18 {w : World} {b : Nat} {N0 : Nat → Int} (N : Nat → Int) (h : Cs w b 18 N0) : Cs (w.setCells b 0 [Value.int .i64 (N 0), Value.int .i64 (N 1), Value.int .i64 (N 2), Value.int .i64 (N 3), Value.int .i64 (N 4), Value.int .i64 (N 5), Value.int .i64 (N 6), Value.int .i64 (N 7), Value.int .i64 (N 8), Value.int .i64 (N 9), Value.int .i64 (N 10), Value.int .i64 (N 11), Value.int .i64 (N 12), Value.int .i64 (N 13), Value.int .i64 (N 14), Value.int .i64 (N 15), Value.int .i64 (N 16), Value.int .i64 (N 17)]) b 18 N := by
  intro o ho
  have K := World.cell?_setCells_in b [Value.int .i64 (N 0), Value.int .i64 (N 1), Value.int .i64 (N 2), Value.int .i64 (N 3), Value.int .i64 (N 4), Value.int .i64 (N 5), Value.int .i64 (N 6), Value.int .i64 (N 7), Value.int .i64 (N 8), Value.int .i64 (N 9), Value.int .i64 (N 10), Value.int .i64 (N 11), Value.int .i64 (N 12), Value.int .i64 (N 13), Value.int .i64 (N 14), Value.int .i64 (N 15), Value.int .i64 (N 16), Value.int .i64 (N 17)] 0 w (by intro j hj; rw [Nat.zero_add, h j (by simpa using hj)]; rfl) o (by simpa using ho)
  rw [Nat.zero_add] at K
  rw [K]
  revert ho; revert o
  intro o ho K
  exact (cases18 (P := fun o => ∀ h : o < [Value.int .i64 (N 0), Value.int .i64 (N 1), Value.int .i64 (N 2), Value.int .i64 (N 3), Value.int .i64 (N 4), Value.int .i64 (N 5), Value.int .i64 (N 6), Value.int .i64 (N 7), Value.int .i64 (N 8), Value.int .i64 (N 9), Value.int .i64 (N 10), Value.int .i64 (N 11), Value.int .i64 (N 12), Value.int .i64 (N 13), Value.int .i64 (N 14), Value.int .i64 (N 15), Value.int .i64 (N 16), Value.int .i64 (N 17)].length, some ([Value.int .i64 (N 0), Value.int .i64 (N 1), Value.int .i64 (N 2), Value.int .i64 (N 3), Value.int .i64 (N 4), Value.int .i64 (N 5), Value.int .i64 (N 6), Value.int .i64 (N 7), Value.int .i64 (N 8), Value.int .i64 (N 9), Value.int .i64 (N 10), Value.int .i64 (N 11), Value.int .i64 (N 12), Value.int .i64 (N 13), Value.int .i64 (N 14), Value.int .i64 (N 15), Value.int .i64 (N 16), Value.int .i64 (N 17)][o]'h) = some (Value.int .i64 (N o))) (fun _ => rfl) (fun _ => rfl) (fun _ => rfl) (fun _ => rfl) (fun _ => rfl) (fun _ => rfl) (fun _ => rfl) (fun _ => rfl) (fun _ => rfl) (fun _ => rfl) (fun _ => rfl) (fun _ => rfl) (fun _ => rfl) (fun _ => rfl) (fun _ => rfl) (fun _ => rfl) (fun _ => rfl) (fun _ => rfl)) o ho _
theorem below_sets {n : Nat} {a : World} (b : Nat) (hb : n ≤ b) : ∀ (vs : List Value) (o : Nat) (w : World), Below n a w → Below n a (w.setCells b o vs)
  | [], _, _, h => h
  | v :: r, o, w, h => below_sets b hb r (o + 1) _ (Below.setCell h hb v)
theorem cs_ala {w : World} {b n : Nat} {N : Nat → Int} (x : Obj) (h : Cs w b n N) (hb : b < w.heap.size := by first | omega | (simp [ext_size, World.setCell] <;> omega)) : Cs (w.alloc x) b n N := cs_alloc x h hb
theorem fs_ala {w : World} {b n : Nat} (x : Obj) (h : Fs w b n) (hb : b < w.heap.size := by first | omega | (simp [ext_size, World.setCell] <;> omega)) : Fs (w.alloc x) b n := fs_alloc x h hb
theorem cs_sea {w : World} {b n c k : Nat} {N : Nat → Int} (x : Value) (h : Cs w b n N) (hb : b ≠ c := by first | omega | (simp <;> omega)) : Cs (w.setCell ⟨c, k, none⟩ x) b n N := cs_set x h hb
theorem cs_exa {w : World} {b n : Nat} {N : Nat → Int} (h : Cs w b n N) (l : List Obj) (d : Nat) (hb : b < w.heap.size := by first | omega | (simp [ext_size, World.setCell] <;> omega)) : Cs (ext w l d) b n N := cs_ext h hb l d
theorem fs_exa {w : World} {b n : Nat} (h : Fs w b n) (l : List Obj) (d : Nat) (hb : b < w.heap.size := by first | omega | (simp [ext_size, World.setCell] <;> omega)) : Fs (ext w l d) b n := fs_ext h hb l d
theorem cs_upa {w : World} {b n k : Nat} {N : Nat → Int} {x : Int} (h : Cs w b n N) (hk : k < n := by decide) : Cs (w.setCell ⟨b, k, none⟩ (.int .i64 x)) b n (up N k x) := cs_up h hk
theorem kc {P : Prop} (h : P := by with_reducible repeat (first | assumption | refine cs_drewN ?_ | refine cs_drew ?_ | refine cs_exa ?_ _ _ | refine cs_ala _ ?_ | refine cs_upa ?_ | refine cs_sea _ ?_)) : P := h
theorem kf {P : Prop} (h : P := by with_reducible repeat (first | assumption | refine fs_drewN ?_ | refine fs_drew ?_ | refine fs_exa ?_ _ _ | refine fs_ala _ ?_ | refine fs_set _ ?_)) : P := h
end Go.Proofs.Ytdolfdmgdknboaa
namespace Go.Proofs.Ytdolfdmgdknboaa
open Go.RowKit
set_option linter.unusedVariables false
set_option linter.unusedSimpArgs false

/-- The numbers of a flipped matrix. -/
def fpP (M : Nat → Int) : Nat → Int := fun o => M (o % 6 / 2 * 6 + o / 6 * 2 + o % 2)
def fpD (i k o : Nat) : Bool := decide (o % 6 / 2 < i) || (decide (o % 6 / 2 = i) && decide (o / 6 < k))
def fpN (M : Nat → Int) (i k : Nat) : Nat → Int := fun o => if fpD i k o = true then fpP M o else 0
theorem midx0 (M : Nat → Int) (w : World) : (Instr.index 26 (.agg #[.int .i64 (M 0), .int .i64 (M 1), .int .i64 (M 2), .int .i64 (M 3), .int .i64 (M 4), .int .i64 (M 5), .int .i64 (M 6), .int .i64 (M 7), .int .i64 (M 8), .int .i64 (M 9), .int .i64 (M 10), .int .i64 (M 11), .int .i64 (M 12), .int .i64 (M 13), .int .i64 (M 14), .int .i64 (M 15), .int .i64 (M 16), .int .i64 (M 17)]) (.int .i64 0)).run Try.prog w = .ok (.agg #[.int .i64 (M 0), .int .i64 (M 1), .int .i64 (M 2), .int .i64 (M 3), .int .i64 (M 4), .int .i64 (M 5)]) w := by simp [Instr.index, run_underlying Try.underlying26, asIntOf, go_sem]
theorem midx1 (M : Nat → Int) (w : World) : (Instr.index 26 (.agg #[.int .i64 (M 0), .int .i64 (M 1), .int .i64 (M 2), .int .i64 (M 3), .int .i64 (M 4), .int .i64 (M 5), .int .i64 (M 6), .int .i64 (M 7), .int .i64 (M 8), .int .i64 (M 9), .int .i64 (M 10), .int .i64 (M 11), .int .i64 (M 12), .int .i64 (M 13), .int .i64 (M 14), .int .i64 (M 15), .int .i64 (M 16), .int .i64 (M 17)]) (.int .i64 1)).run Try.prog w = .ok (.agg #[.int .i64 (M 6), .int .i64 (M 7), .int .i64 (M 8), .int .i64 (M 9), .int .i64 (M 10), .int .i64 (M 11)]) w := by simp [Instr.index, run_underlying Try.underlying26, asIntOf, go_sem]
theorem midx2 (M : Nat → Int) (w : World) : (Instr.index 26 (.agg #[.int .i64 (M 0), .int .i64 (M 1), .int .i64 (M 2), .int .i64 (M 3), .int .i64 (M 4), .int .i64 (M 5), .int .i64 (M 6), .int .i64 (M 7), .int .i64 (M 8), .int .i64 (M 9), .int .i64 (M 10), .int .i64 (M 11), .int .i64 (M 12), .int .i64 (M 13), .int .i64 (M 14), .int .i64 (M 15), .int .i64 (M 16), .int .i64 (M 17)]) (.int .i64 2)).run Try.prog w = .ok (.agg #[.int .i64 (M 12), .int .i64 (M 13), .int .i64 (M 14), .int .i64 (M 15), .int .i64 (M 16), .int .i64 (M 17)]) w := by simp [Instr.index, run_underlying Try.underlying26, asIntOf, go_sem]
theorem ridx0 (a b c d e f : Int) (w : World) : (Instr.index 24 (.agg #[.int .i64 a, .int .i64 b, .int .i64 c, .int .i64 d, .int .i64 e, .int .i64 f]) (.int .i64 0)).run Try.prog w = .ok (.agg #[.int .i64 a, .int .i64 b]) w := by simp [Instr.index, run_underlying Try.underlying24, asIntOf, go_sem]
theorem ridx1 (a b c d e f : Int) (w : World) : (Instr.index 24 (.agg #[.int .i64 a, .int .i64 b, .int .i64 c, .int .i64 d, .int .i64 e, .int .i64 f]) (.int .i64 1)).run Try.prog w = .ok (.agg #[.int .i64 c, .int .i64 d]) w := by simp [Instr.index, run_underlying Try.underlying24, asIntOf, go_sem]
theorem ridx2 (a b c d e f : Int) (w : World) : (Instr.index 24 (.agg #[.int .i64 a, .int .i64 b, .int .i64 c, .int .i64 d, .int .i64 e, .int .i64 f]) (.int .i64 2)).run Try.prog w = .ok (.agg #[.int .i64 e, .int .i64 f]) w := by simp [Instr.index, run_underlying Try.underlying24, asIntOf, go_sem]

/-- A matrix is read as a whole, and stored as a whole. -/
theorem range18 {w : World} {b : Nat} {N : Nat → Int} (h : Cs w b 18 N) : w.rangeAt b 0 [.int .i64 (N 0), .int .i64 (N 1), .int .i64 (N 2), .int .i64 (N 3), .int .i64 (N 4), .int .i64 (N 5), .int .i64 (N 6), .int .i64 (N 7), .int .i64 (N 8), .int .i64 (N 9), .int .i64 (N 10), .int .i64 (N 11), .int .i64 (N 12), .int .i64 (N 13), .int .i64 (N 14), .int .i64 (N 15), .int .i64 (N 16), .int .i64 (N 17)] := by
  intro j v hv
  have hj : j < 18 := by
    rcases Nat.lt_or_ge j 18 with q | q
    · exact q
    · rw [List.getElem?_eq_none (by simpa using q)] at hv; cases hv
  rw [Nat.zero_add, h j hj]
  exact (cases18 (P := fun j => ∀ v, ([.int .i64 (N 0), .int .i64 (N 1), .int .i64 (N 2), .int .i64 (N 3), .int .i64 (N 4), .int .i64 (N 5), .int .i64 (N 6), .int .i64 (N 7), .int .i64 (N 8), .int .i64 (N 9), .int .i64 (N 10), .int .i64 (N 11), .int .i64 (N 12), .int .i64 (N 13), .int .i64 (N 14), .int .i64 (N 15), .int .i64 (N 16), .int .i64 (N 17)] : List Value)[j]? = some v → some (Value.int .i64 (N j)) = some v) (fun _ h => h) (fun _ h => h) (fun _ h => h) (fun _ h => h) (fun _ h => h) (fun _ h => h) (fun _ h => h) (fun _ h => h) (fun _ h => h) (fun _ h => h) (fun _ h => h) (fun _ h => h) (fun _ h => h) (fun _ h => h) (fun _ h => h) (fun _ h => h) (fun _ h => h) (fun _ h => h)) j hj v hv
theorem loadA18 {w : World} {b : Nat} {N : Nat → Int} (h : Cs w b 18 N) : (Instr.loadAt 26 (.pointer (some ⟨b, 0, none⟩))).run Try.prog w = .ok (.agg #[.int .i64 (N 0), .int .i64 (N 1), .int .i64 (N 2), .int .i64 (N 3), .int .i64 (N 4), .int .i64 (N 5), .int .i64 (N 6), .int .i64 (N 7), .int .i64 (N 8), .int .i64 (N 9), .int .i64 (N 10), .int .i64 (N 11), .int .i64 (N 12), .int .i64 (N 13), .int .i64 (N 14), .int .i64 (N 15), .int .i64 (N 16), .int .i64 (N 17)]) w :=
  run_loadAt_mid w b 0 _ [.int .i64 (N 0), .int .i64 (N 1), .int .i64 (N 2), .int .i64 (N 3), .int .i64 (N 4), .int .i64 (N 5), .int .i64 (N 6), .int .i64 (N 7), .int .i64 (N 8), .int .i64 (N 9), .int .i64 (N 10), .int .i64 (N 11), .int .i64 (N 12), .int .i64 (N 13), .int .i64 (N 14), .int .i64 (N 15), .int .i64 (N 16), .int .i64 (N 17)] _ (range18 h) Try.underlying26 rfl (by kernel_rfl)
theorem loadV18 {w : World} {b : Nat} {N : Nat → Int} (h : Cs w b 18 N) : (loadVar 26 ⟨b, 0, none⟩).run Try.prog w = .ok (.agg #[.int .i64 (N 0), .int .i64 (N 1), .int .i64 (N 2), .int .i64 (N 3), .int .i64 (N 4), .int .i64 (N 5), .int .i64 (N 6), .int .i64 (N 7), .int .i64 (N 8), .int .i64 (N 9), .int .i64 (N 10), .int .i64 (N 11), .int .i64 (N 12), .int .i64 (N 13), .int .i64 (N 14), .int .i64 (N 15), .int .i64 (N 16), .int .i64 (N 17)]) w :=
  run_loadVar_mid w b 0 _ [.int .i64 (N 0), .int .i64 (N 1), .int .i64 (N 2), .int .i64 (N 3), .int .i64 (N 4), .int .i64 (N 5), .int .i64 (N 6), .int .i64 (N 7), .int .i64 (N 8), .int .i64 (N 9), .int .i64 (N 10), .int .i64 (N 11), .int .i64 (N 12), .int .i64 (N 13), .int .i64 (N 14), .int .i64 (N 15), .int .i64 (N 16), .int .i64 (N 17)] _ (range18 h) Try.underlying26 rfl (by kernel_rfl)
theorem load18 {ops : Array Oper} {rest : List Oper} {op : Oper} {a : Act} {w : World} {Q : Exit → Act → World → Prop} (x : Operand) (b : Nat) (N : Nat → Int) (hc : Cs w b 18 N) (hgd : op.guard = none)
    (ho : op.op = .load 26 x) (hx : a.eval x = .pointer (some ⟨b, 0, none⟩))
    (h : wpList Try.prog ops Q rest (a.put op.dst (.agg #[.int .i64 (N 0), .int .i64 (N 1), .int .i64 (N 2), .int .i64 (N 3), .int .i64 (N 4), .int .i64 (N 5), .int .i64 (N 6), .int .i64 (N 7), .int .i64 (N 8), .int .i64 (N 9), .int .i64 (N 10), .int .i64 (N 11), .int .i64 (N 12), .int .i64 (N 13), .int .i64 (N 14), .int .i64 (N 15), .int .i64 (N 16), .int .i64 (N 17)])) w) : wpList Try.prog ops Q (op :: rest) a w :=
  wpList_load_mid hgd 26 x ho b 0 hx [.int .i64 (N 0), .int .i64 (N 1), .int .i64 (N 2), .int .i64 (N 3), .int .i64 (N 4), .int .i64 (N 5), .int .i64 (N 6), .int .i64 (N 7), .int .i64 (N 8), .int .i64 (N 9), .int .i64 (N 10), .int .i64 (N 11), .int .i64 (N 12), .int .i64 (N 13), .int .i64 (N 14), .int .i64 (N 15), .int .i64 (N 16), .int .i64 (N 17)] _ (range18 hc) Try.underlying26 rfl (by kernel_rfl) h
theorem load18g {ops : Array Oper} {rest : List Oper} {op : Oper} {a : Act} {w : World} {Q : Exit → Act → World → Prop} (x : Operand) (b : Nat) (N : Nat → Int) (hc : Cs w b 18 N) (hw : Region.wanted op (yielded ops a.tmps) = true)
    (ho : op.op = .load 26 x) (hx : a.eval x = .pointer (some ⟨b, 0, none⟩))
    (h : wpList Try.prog ops Q rest (a.put op.dst (.agg #[.int .i64 (N 0), .int .i64 (N 1), .int .i64 (N 2), .int .i64 (N 3), .int .i64 (N 4), .int .i64 (N 5), .int .i64 (N 6), .int .i64 (N 7), .int .i64 (N 8), .int .i64 (N 9), .int .i64 (N 10), .int .i64 (N 11), .int .i64 (N 12), .int .i64 (N 13), .int .i64 (N 14), .int .i64 (N 15), .int .i64 (N 16), .int .i64 (N 17)])) w) : wpList Try.prog ops Q (op :: rest) a w :=
  wpList_step fun K hK => by
    rw [if_pos hw]
    exact wp_load_mid 26 x ho b 0 hx [.int .i64 (N 0), .int .i64 (N 1), .int .i64 (N 2), .int .i64 (N 3), .int .i64 (N 4), .int .i64 (N 5), .int .i64 (N 6), .int .i64 (N 7), .int .i64 (N 8), .int .i64 (N 9), .int .i64 (N 10), .int .i64 (N 11), .int .i64 (N 12), .int .i64 (N 13), .int .i64 (N 14), .int .i64 (N 15), .int .i64 (N 16), .int .i64 (N 17)] _ (range18 hc) Try.underlying26 rfl (by kernel_rfl) (hK _ _ h)
theorem size_sets (b : Nat) : ∀ (vs : List Value) (o : Nat) (w : World), (w.setCells b o vs).heap.size = w.heap.size
  | [], _, _ => rfl
  | v :: r, o, w => by
    have := size_sets b r (o + 1) (w.setCell ⟨b, o, none⟩ v)
    rw [World.size_setCell] at this
    exact this
theorem store18 {ops : Array Oper} {rest : List Oper} {op : Oper} {a : Act} {w : World} {Q : Exit → Act → World → Prop} (x y : Operand) (b : Nat) (N N0 : Nat → Int) (hc : Cs w b 18 N0) (hf : Fs w b 18) (hgd : op.guard = none)
    (ho : op.op = .store 26 x y) (hx : a.eval x = .pointer (some ⟨b, 0, none⟩)) (hy : a.eval y = .agg #[.int .i64 (N 0), .int .i64 (N 1), .int .i64 (N 2), .int .i64 (N 3), .int .i64 (N 4), .int .i64 (N 5), .int .i64 (N 6), .int .i64 (N 7), .int .i64 (N 8), .int .i64 (N 9), .int .i64 (N 10), .int .i64 (N 11), .int .i64 (N 12), .int .i64 (N 13), .int .i64 (N 14), .int .i64 (N 15), .int .i64 (N 16), .int .i64 (N 17)])
    (h : ∀ w', Cs w' b 18 N → Fs w' b 18 → w'.heap.size = w.heap.size → (∀ n u, n ≤ b → Below n u w → Below n u w') → wpList Try.prog ops Q rest (a.put op.dst undef) w') : wpList Try.prog ops Q (op :: rest) a w := by
  refine wpList_store_mid hgd 26 x y ho b 0 #[.int .i64 (N 0), .int .i64 (N 1), .int .i64 (N 2), .int .i64 (N 3), .int .i64 (N 4), .int .i64 (N 5), .int .i64 (N 6), .int .i64 (N 7), .int .i64 (N 8), .int .i64 (N 9), .int .i64 (N 10), .int .i64 (N 11), .int .i64 (N 12), .int .i64 (N 13), .int .i64 (N 14), .int .i64 (N 15), .int .i64 (N 16), .int .i64 (N 17)] hx hy (there_of hc hf) (by kernel_rfl) (by simp [Value.oneCell']) ?_
  refine h _ (cs_set18 N hc) (fun o ho => by rw [World.frozen?_setCells]; exact hf o ho) (size_sets _ _ _ _) (fun n u hn hb => below_sets b hn _ _ _ hb)
theorem store18r {ops : Array Oper} {op : Oper} {a : Act} {w : World} {K : Act → World → Prop} {Q : Exit → Act → World → Prop} {E : Prop} (x y : Operand) (b : Nat) (N N0 : Nat → Int) (hc : Cs w b 18 N0) (hf : Fs w b 18) (hw : Region.wanted op (yielded ops a.tmps) = true)
    (ho : op.op = .store 26 x y) (hx : a.eval x = .pointer (some ⟨b, 0, none⟩)) (hy : a.eval y = .agg #[.int .i64 (N 0), .int .i64 (N 1), .int .i64 (N 2), .int .i64 (N 3), .int .i64 (N 4), .int .i64 (N 5), .int .i64 (N 6), .int .i64 (N 7), .int .i64 (N 8), .int .i64 (N 9), .int .i64 (N 10), .int .i64 (N 11), .int .i64 (N 12), .int .i64 (N 13), .int .i64 (N 14), .int .i64 (N 15), .int .i64 (N 16), .int .i64 (N 17)])
    (h : ∀ w', Cs w' b 18 N → Fs w' b 18 → w'.heap.size = w.heap.size → (∀ n u, n ≤ b → Below n u w → Below n u w') → K (a.put op.dst undef) w') : if Region.wanted op (yielded ops a.tmps) = true then Oper.wp Try.prog op a w K Q else E := by
  rw [if_pos hw]
  refine wp_store_mid 26 x y ho b 0 #[.int .i64 (N 0), .int .i64 (N 1), .int .i64 (N 2), .int .i64 (N 3), .int .i64 (N 4), .int .i64 (N 5), .int .i64 (N 6), .int .i64 (N 7), .int .i64 (N 8), .int .i64 (N 9), .int .i64 (N 10), .int .i64 (N 11), .int .i64 (N 12), .int .i64 (N 13), .int .i64 (N 14), .int .i64 (N 15), .int .i64 (N 16), .int .i64 (N 17)] hx hy (there_of hc hf) (by kernel_rfl) (by simp [Value.oneCell']) ?_
  exact h _ (cs_set18 N hc) (fun o ho => by rw [World.frozen?_setCells]; exact hf o ho) (size_sets _ _ _ _) (fun n u hn hb => below_sets b hn _ _ _ hb)
theorem res_mat {fn : Func} {s : Nat} {tmps : Array Value} {w : World} {b : Nat} {N : Nat → Int} (hr : fn.results = #[.cell s 26]) (hs : tmps.getD s undef = .pointer (some ⟨b, 0, none⟩)) (h : Cs w b 18 N) :
    (results fn tmps).run Try.prog w = .ok (.agg #[.int .i64 (N 0), .int .i64 (N 1), .int .i64 (N 2), .int .i64 (N 3), .int .i64 (N 4), .int .i64 (N 5), .int .i64 (N 6), .int .i64 (N 7), .int .i64 (N 8), .int .i64 (N 9), .int .i64 (N 10), .int .i64 (N 11), .int .i64 (N 12), .int .i64 (N 13), .int .i64 (N 14), .int .i64 (N 15), .int .i64 (N 16), .int .i64 (N 17)]) w := by
  have hV := loadV18 h
  simp only [Array.getD_eq_getD_getElem?] at hs
  simp [results, hr, hs, Sem.run_bind, Sem.run_pure, Result.andThen_ok, asAddr, hV]
theorem res_mat2 {fn : Func} {s r : Nat} {tmps : Array Value} {w : World} {b : Nat} {N : Nat → Int} {v : Value} (hr : fn.results = #[.cell s 26, .tmp r]) (hs : tmps.getD s undef = .pointer (some ⟨b, 0, none⟩)) (ht : tmps.getD r undef = v) (h : Cs w b 18 N) :
    (results fn tmps).run Try.prog w = .ok (.tuple #[.agg #[.int .i64 (N 0), .int .i64 (N 1), .int .i64 (N 2), .int .i64 (N 3), .int .i64 (N 4), .int .i64 (N 5), .int .i64 (N 6), .int .i64 (N 7), .int .i64 (N 8), .int .i64 (N 9), .int .i64 (N 10), .int .i64 (N 11), .int .i64 (N 12), .int .i64 (N 13), .int .i64 (N 14), .int .i64 (N 15), .int .i64 (N 16), .int .i64 (N 17)], v]) w := by
  have hV := loadV18 h
  simp only [Array.getD_eq_getD_getElem?] at hs ht
  simp [results, hr, hs, ht, Sem.run_bind, Sem.run_pure, Result.andThen_ok, asAddr, hV]
end Go.Proofs.Ytdolfdmgdknboaa
namespace Go.Proofs.Ytdolfdmgdknboaa
open Go.RowKit
set_option linter.unusedVariables false
set_option linter.unusedSimpArgs false

theorem below_size {m : Nat} {a b : World} (h : Below m a b) : a.heap.size ≤ b.heap.size := h.size
theorem bdrew {m : Nat} {a b : World} (h : Below m a b) : Below m a b.drew := Below.drew h
theorem bsub {m : Nat} {a b c : World} (h : Below m a b) (k : Below b.heap.size b c) (hm : m ≤ b.heap.size) : Below m a c := h.trans (k.mono hm)
theorem take18 {ops : Array Oper} {Q : Exit → Act → World → Prop} {md : Region.Mode} {S : World → Prop} {fuel : Nat} {listed : Array Bool} {a : Act} {w : World} (i : Nat) {oi : Oper} (x : Operand) (b : Nat) (N : Nat → Int) (hi : ops[i]? = some oi) (ho : oi.op = .load 26 x)
    (hs : Region.noSelect ops = true) (hf : Region.free md ops listed i = true) (hr : (Region.ready md ops listed).contains i = true)
    (hQ : ∀ c a w, Q (.panic c) (a.put oi.dst (.agg #[.int .i64 (N 0), .int .i64 (N 1), .int .i64 (N 2), .int .i64 (N 3), .int .i64 (N 4), .int .i64 (N 5), .int .i64 (N 6), .int .i64 (N 7), .int .i64 (N 8), .int .i64 (N 9), .int .i64 (N 10), .int .i64 (N 11), .int .i64 (N 12), .int .i64 (N 13), .int .i64 (N 14), .int .i64 (N 15), .int .i64 (N 16), .int .i64 (N 17)])) w → Q (.panic c) a w) (hw : Region.wanted oi (yielded ops a.tmps) = true) (hx : a.eval x = .pointer (some ⟨b, 0, none⟩)) (hc : ∀ w, S w → Cs w b 18 N) (hS : S w)
    (h : wpAnyH Try.prog md ops Q S fuel (listed.setIfInBounds i true) (a.put oi.dst (.agg #[.int .i64 (N 0), .int .i64 (N 1), .int .i64 (N 2), .int .i64 (N 3), .int .i64 (N 4), .int .i64 (N 5), .int .i64 (N 6), .int .i64 (N 7), .int .i64 (N 8), .int .i64 (N 9), .int .i64 (N 10), .int .i64 (N 11), .int .i64 (N 12), .int .i64 (N 13), .int .i64 (N 14), .int .i64 (N 15), .int .i64 (N 16), .int .i64 (N 17)])) w) : wpAnyH Try.prog md ops Q S (fuel + 1) listed a w :=
  wpAnyH_take hi hs hf hr hQ (yieldsIf_load_mid hw 26 x ho b 0 hx [.int .i64 (N 0), .int .i64 (N 1), .int .i64 (N 2), .int .i64 (N 3), .int .i64 (N 4), .int .i64 (N 5), .int .i64 (N 6), .int .i64 (N 7), .int .i64 (N 8), .int .i64 (N 9), .int .i64 (N 10), .int .i64 (N 11), .int .i64 (N 12), .int .i64 (N 13), .int .i64 (N 14), .int .i64 (N 15), .int .i64 (N 16), .int .i64 (N 17)] _ (fun w k => range18 (hc w k)) Try.underlying26 rfl (by kernel_rfl)) hS h
theorem range6r {w : World} {b : Nat} {N : Nat → Int} (h : Cs w b 6 N) : w.rangeAt b 0 [.int .i64 (N 0), .int .i64 (N 1), .int .i64 (N 2), .int .i64 (N 3), .int .i64 (N 4), .int .i64 (N 5)] := by
  intro j v hv
  have hj : j < 6 := by
    rcases Nat.lt_or_ge j 6 with q | q
    · exact q
    · rw [List.getElem?_eq_none (by simpa using q)] at hv; cases hv
  rw [Nat.zero_add, h j hj, ← hv]
  rcases (show j = 0 ∨ j = 1 ∨ j = 2 ∨ j = 3 ∨ j = 4 ∨ j = 5 by omega) with rfl | rfl | rfl | rfl | rfl | rfl <;> rfl
theorem take6r {ops : Array Oper} {Q : Exit → Act → World → Prop} {md : Region.Mode} {S : World → Prop} {fuel : Nat} {listed : Array Bool} {a : Act} {w : World} (i : Nat) {oi : Oper} (x : Operand) (b : Nat) (N : Nat → Int) (hi : ops[i]? = some oi) (ho : oi.op = .load 24 x)
    (hs : Region.noSelect ops = true) (hf : Region.free md ops listed i = true) (hr : (Region.ready md ops listed).contains i = true)
    (hQ : ∀ c a w, Q (.panic c) (a.put oi.dst (.agg #[.int .i64 (N 0), .int .i64 (N 1), .int .i64 (N 2), .int .i64 (N 3), .int .i64 (N 4), .int .i64 (N 5)])) w → Q (.panic c) a w) (hw : Region.wanted oi (yielded ops a.tmps) = true) (hx : a.eval x = .pointer (some ⟨b, 0, none⟩)) (hc : ∀ w, S w → Cs w b 6 N) (hS : S w)
    (h : wpAnyH Try.prog md ops Q S fuel (listed.setIfInBounds i true) (a.put oi.dst (.agg #[.int .i64 (N 0), .int .i64 (N 1), .int .i64 (N 2), .int .i64 (N 3), .int .i64 (N 4), .int .i64 (N 5)])) w) : wpAnyH Try.prog md ops Q S (fuel + 1) listed a w :=
  wpAnyH_take hi hs hf hr hQ (yieldsIf_load_mid hw 24 x ho b 0 hx [.int .i64 (N 0), .int .i64 (N 1), .int .i64 (N 2), .int .i64 (N 3), .int .i64 (N 4), .int .i64 (N 5)] _ (fun w k => range6r (hc w k)) Try.underlying24 rfl (by kernel_rfl)) hS h
theorem range6v {w : World} {b : Nat} {N : Nat → Int} (h : Cs w b 6 N) : w.rangeAt b 0 [.int .i64 (N 0), .int .i64 (N 1), .int .i64 (N 2), .int .i64 (N 3), .int .i64 (N 4), .int .i64 (N 5)] := by
  intro j v hv
  have hj : j < 6 := by
    rcases Nat.lt_or_ge j 6 with q | q
    · exact q
    · rw [List.getElem?_eq_none (by simpa using q)] at hv; cases hv
  rw [Nat.zero_add, h j hj, ← hv]
  rcases (show j = 0 ∨ j = 1 ∨ j = 2 ∨ j = 3 ∨ j = 4 ∨ j = 5 by omega) with rfl | rfl | rfl | rfl | rfl | rfl <;> rfl
theorem take6v {ops : Array Oper} {Q : Exit → Act → World → Prop} {md : Region.Mode} {S : World → Prop} {fuel : Nat} {listed : Array Bool} {a : Act} {w : World} (i : Nat) {oi : Oper} (x : Operand) (b : Nat) (N : Nat → Int) (hi : ops[i]? = some oi) (ho : oi.op = .load 28 x)
    (hs : Region.noSelect ops = true) (hf : Region.free md ops listed i = true) (hr : (Region.ready md ops listed).contains i = true)
    (hQ : ∀ c a w, Q (.panic c) (a.put oi.dst (.agg #[.int .i64 (N 0), .int .i64 (N 1), .int .i64 (N 2), .int .i64 (N 3), .int .i64 (N 4), .int .i64 (N 5)])) w → Q (.panic c) a w) (hw : Region.wanted oi (yielded ops a.tmps) = true) (hx : a.eval x = .pointer (some ⟨b, 0, none⟩)) (hc : ∀ w, S w → Cs w b 6 N) (hS : S w)
    (h : wpAnyH Try.prog md ops Q S fuel (listed.setIfInBounds i true) (a.put oi.dst (.agg #[.int .i64 (N 0), .int .i64 (N 1), .int .i64 (N 2), .int .i64 (N 3), .int .i64 (N 4), .int .i64 (N 5)])) w) : wpAnyH Try.prog md ops Q S (fuel + 1) listed a w :=
  wpAnyH_take hi hs hf hr hQ (yieldsIf_load_mid hw 28 x ho b 0 hx [.int .i64 (N 0), .int .i64 (N 1), .int .i64 (N 2), .int .i64 (N 3), .int .i64 (N 4), .int .i64 (N 5)] _ (fun w k => range6v (hc w k)) Try.underlying28 rfl (by kernel_rfl)) hS h
theorem range2 {w : World} {b : Nat} {N : Nat → Int} (h : Cs w b 2 N) : w.rangeAt b 0 [.int .i64 (N 0), .int .i64 (N 1)] := by
  intro j v hv
  have hj : j < 2 := by
    rcases Nat.lt_or_ge j 2 with q | q
    · exact q
    · rw [List.getElem?_eq_none (by simpa using q)] at hv; cases hv
  rw [Nat.zero_add, h j hj, ← hv]
  rcases (show j = 0 ∨ j = 1 by omega) with rfl | rfl <;> rfl
theorem take2 {ops : Array Oper} {Q : Exit → Act → World → Prop} {md : Region.Mode} {S : World → Prop} {fuel : Nat} {listed : Array Bool} {a : Act} {w : World} (i : Nat) {oi : Oper} (x : Operand) (b : Nat) (N : Nat → Int) (hi : ops[i]? = some oi) (ho : oi.op = .load 23 x)
    (hs : Region.noSelect ops = true) (hf : Region.free md ops listed i = true) (hr : (Region.ready md ops listed).contains i = true)
    (hQ : ∀ c a w, Q (.panic c) (a.put oi.dst (.agg #[.int .i64 (N 0), .int .i64 (N 1)])) w → Q (.panic c) a w) (hw : Region.wanted oi (yielded ops a.tmps) = true) (hx : a.eval x = .pointer (some ⟨b, 0, none⟩)) (hc : ∀ w, S w → Cs w b 2 N) (hS : S w)
    (h : wpAnyH Try.prog md ops Q S fuel (listed.setIfInBounds i true) (a.put oi.dst (.agg #[.int .i64 (N 0), .int .i64 (N 1)])) w) : wpAnyH Try.prog md ops Q S (fuel + 1) listed a w :=
  wpAnyH_take hi hs hf hr hQ (yieldsIf_load_mid hw 23 x ho b 0 hx [.int .i64 (N 0), .int .i64 (N 1)] _ (fun w k => range2 (hc w k)) Try.underlying23 rfl (by kernel_rfl)) hS h
end Go.Proofs.Ytdolfdmgdknboaa
namespace Go.Proofs.Ytdolfdmgdknboaa
open Go.RowKit
set_option linter.unusedVariables false
set_option linter.unusedSimpArgs false

theorem infoR : ∃ i : TypeInfo, Try.prog.info? 24 = some i ∧ i.zero = some (.agg #[.int .i64 0, .int .i64 0, .int .i64 0, .int .i64 0, .int .i64 0, .int .i64 0]) ∧ i.size = 6 ∧ i.bytes = 48 := by
  have h1 : (Try.prog.info? 24).map (fun i => (i.zero, i.size, i.bytes)) = some (some (.agg #[.int .i64 0, .int .i64 0, .int .i64 0, .int .i64 0, .int .i64 0, .int .i64 0]), 6, 48) := by kernel_rfl
  cases hq : Try.prog.info? 24 with
  | none => rw [hq] at h1; cases h1
  | some i => rw [hq] at h1; simp at h1; exact ⟨i, rfl, h1.1, h1.2.1, h1.2.2⟩
/-- The cells of a block as a list. -/
def lst (n : Nat) (M : Nat → Int) : List Value := (List.range n).map fun o => .int .i64 (M o)
theorem lst_len (n : Nat) (M : Nat → Int) : (lst n M).length = n := by simp [lst]
theorem lst_get {n : Nat} {M : Nat → Int} {j : Nat} {u : Value} (h : (lst n M)[j]? = some u) : j < n ∧ u = .int .i64 (M j) := by
  have hj : j < n := by
    rcases Nat.lt_or_ge j n with q | q
    · exact q
    · rw [List.getElem?_eq_none (by rw [lst_len]; exact q)] at h; cases h
  refine ⟨hj, ?_⟩
  unfold lst at h
  rw [List.getElem?_map, List.getElem?_range hj] at h
  simpa using h.symm
theorem lst_at {n : Nat} (M : Nat → Int) {j : Nat} (h : j < n) : (lst n M)[j]? = some (.int .i64 (M j)) := by
  unfold lst; rw [List.getElem?_map, List.getElem?_range h]; rfl
theorem below_grown {w w' : World} (h : w.grownBy w' none) : Below w.heap.size w w' := ⟨h.os, h.tape, h.output, h.size, fun i hi => h.block i hi (by simp)⟩
set_option maxRecDepth 100000 in
theorem step_rows {ops : Array Oper} {o : Oper} {a : Act} {w : World} {K : Act → World → Prop} {Q : Exit → Act → World → Prop} {E : Prop} (s x : Operand) (b q m c : Nat) (M N : Nat → Int)
    (hg : o.guard = none) (hop : o.op = Op.call { callee := Callee.builtin Builtin.append, args := #[s, x], argTypes := #[86, 86] })
    (hs : a.eval s = .slice (some ⟨b, 0, none⟩) 3 3) (hx : a.eval x = .slice (some ⟨q, 0, none⟩) m c) (hm : 1 ≤ m) (hm3 : m ≤ 3) (cM : Cs w b 18 M) (cN : Cs w q (6 * m) N)
    (hK : ∀ (g cap : Nat) (w' : World), Below w.heap.size w w' → g < w'.heap.size → (∀ o, o < 6 * (3 + m) → w'.cell? ⟨g, o, none⟩ = some (.int .i64 (if o < 18 then M o else N (o - 18)))) → K (a.put o.dst (.slice (some ⟨g, 0, none⟩) (3 + m) cap)) w') :
    if Region.wanted o (yielded ops a.tmps) = true then Oper.wp Try.prog o a w K Q else E := by
  obtain ⟨i, hi, hz, hsz, hby⟩ := infoR
  refine step_append_grows hg s x 86 hop 24 i _ 6 48 (by kernel_rfl) hi hz hsz hby (by rfl) (by omega) (some ⟨b, 0, none⟩) 3 3 (lst 18 M) hs (by intro h; cases h) (by rw [lst_len]) ?_ ⟨q, 0, none⟩ m c (lst (6 * m) N) hx (by rw [lst_len]; omega) ?_ ?_ (by omega) (by have : maxLen = 9223372036854775807 := rfl; omega) (by omega) ?_
  · intro b' hb' j u hu
    injection hb' with hb'
    subst hb'
    obtain ⟨hj, rfl⟩ := lst_get hu
    rw [Addr.add_mid, Nat.zero_add]
    exact cM j hj
  · intro j u hu
    obtain ⟨hj, rfl⟩ := lst_get hu
    rw [Addr.add_mid, Nat.zero_add]
    exact cN j hj
  · intro u hu
    unfold lst at hu
    obtain ⟨j, _, rfl⟩ := List.mem_map.1 hu
    rfl
  · intro v' w' hown hgrow
    obtain ⟨hlen, h⟩ := hown
    rcases h with ⟨_, h0⟩ | ⟨g, cap, cur, rfl, hbg, hcur, hn, hcap, hcs, htk⟩
    · omega
    · have hb := below_grown hgrow
      have hlt : g < w'.heap.size := by
        rcases Nat.lt_or_ge g w'.heap.size with k | k
        · exact k
        · rw [Array.getElem?_eq_none k] at hcur; cases hcur
      refine hK g cap w' hb hlt ?_
      intro o ho
      rw [cell_of_row w' g o cur _ _ hcur]
      have e : (cur.toList.take ((3 + m) * 6))[o]? = cur[o]? := by
        rw [List.getElem?_take, if_pos (by omega), Array.getElem?_toList]
      rw [← e, htk]
      by_cases h18 : o < 18
      · rw [if_pos h18, List.getElem?_append_left (by rw [lst_len]; exact h18), lst_at M h18]
      · rw [if_neg h18, List.getElem?_append_right (by rw [lst_len]; omega), lst_len, lst_at N (by omega)]
end Go.Proofs.Ytdolfdmgdknboaa
namespace Go.Proofs.Ytdolfdmgdknboaa
open Go.RowKit
set_option linter.unusedVariables false
set_option linter.unusedSimpArgs false

set_option maxRecDepth 100000 in
set_option maxHeartbeats 3200000 in
theorem vec_flip (M : Nat → Int) (w : World) :
    Calls Try.prog 54 #[.agg #[.int .i64 (M 0), .int .i64 (M 1), .int .i64 (M 2), .int .i64 (M 3), .int .i64 (M 4), .int .i64 (M 5), .int .i64 (M 6), .int .i64 (M 7), .int .i64 (M 8), .int .i64 (M 9), .int .i64 (M 10), .int .i64 (M 11), .int .i64 (M 12), .int .i64 (M 13), .int .i64 (M 14), .int .i64 (M 15), .int .i64 (M 16), .int .i64 (M 17)]] w fun x w' => x = .returned (.agg #[.int .i64 ((fpP M) 0), .int .i64 ((fpP M) 1), .int .i64 ((fpP M) 2), .int .i64 ((fpP M) 3), .int .i64 ((fpP M) 4), .int .i64 ((fpP M) 5), .int .i64 ((fpP M) 6), .int .i64 ((fpP M) 7), .int .i64 ((fpP M) 8), .int .i64 ((fpP M) 9), .int .i64 ((fpP M) 10), .int .i64 ((fpP M) 11), .int .i64 ((fpP M) 12), .int .i64 ((fpP M) 13), .int .i64 ((fpP M) 14), .int .i64 ((fpP M) 15), .int .i64 ((fpP M) 16), .int .i64 ((fpP M) 17)]) ∧ Below w.heap.size w w' := by
  have dAl := dAl; have dSt := dSt
  go_enter Try.func54, Try.ntmps54
  go_upto_region 2 with fail
  refine opq (fun wx => Cs wx (w.heap.size + 1 + 1) 18 (fpN M 0 0) ∧ Fs wx (w.heap.size + 1 + 1) 18 ∧ Cs wx (w.heap.size + 1) 18 (fun _ => 0) ∧ Fs wx (w.heap.size + 1) 18 ∧ Cs wx w.heap.size 18 M ∧ w.heap.size + 1 + 1 < wx.heap.size ∧ Below w.heap.size w wx) ?_ ?_
  · refine ⟨?_, ?_, ?_, ?_, ?_, by simp, kb⟩
    · exact cs_eq (cs_new (by simp) arr0) (by apply cases18 <;> simp [fpN, fpD])
    · exact fs_new (by simp)
    · exact cs_alloc _ (cs_new (by simp) arr0) (by simp)
    · exact fs_alloc _ (fs_new (by simp)) (by simp)
    · exact cs_alloc _ (cs_alloc _ (cs_new rfl (arrM M)) (by simp)) (by simp <;> omega)
  rintro wa ⟨cN, fN, cR, fR, cM, zs, HBa⟩
  have j0 := midx0 M
  have j1 := midx1 M
  have j2 := midx2 M
  have i0 := ridx0
  have i1 := ridx1
  have i2 := ridx2
  go_step
  refine load18 (.tmp 1) w.heap.size M cM rfl rfl rfl ?_
  clear cM
  go_wp2_with fail
  go_loopg [9] 3 (fun kk s9 wr => ∃ (i : Nat) (z : Int), kk = 3 - i ∧ s9 = .int .i64 z ∧ z = i ∧ i ≤ 3 ∧ Cs wr (w.heap.size + 1 + 1) 18 (fpN M i 0) ∧ Fs wr (w.heap.size + 1 + 1) 18 ∧ Below (w.heap.size + 1 + 1) wa wr ∧ wa.heap.size ≤ wr.heap.size)
  case atStart => exact ⟨0, 0, rfl, rfl, rfl, by omega, cN, fN, Below.refl _ _, Nat.le_refl _⟩
  clear cN fN
  obtain ⟨i, z, rfl, rfl, hz, hi, cI, fI, hbI, hzI⟩ := hrel
  rcases (show i = 3 ∨ i = 0 ∨ i = 1 ∨ i = 2 by omega) with rfl | rfl | rfl | rfl
  · obtain rfl : z = 3 := hz
    have cF : Cs wr (w.heap.size + 1 + 1) 18 (fpP M) := cs_eq cI (by apply cases18 <;> rfl)
    replace cR := cs_below cR hbI (by omega)
    replace fR := fs_below fR hbI (by omega)
    replace HBa := HBa.trans (hbI.mono (by omega))
    clear cI fI hbI
    go_upto_region 11 with fail
    go_step
    refine load18 (.tmp 3) _ (fpP M) cF rfl rfl rfl ?_
    clear cF
    refine store18 (.tmp 2) (.tmp 25) (w.heap.size + 1) (fpP M) (fun _ => 0) cR fR rfl rfl rfl rfl ?_
    intro wx cX fX sX bX
    have HBx := bX w.heap.size w (by omega) HBa

    clear cR fR HBa bX fX sX
    go_wp2
    refine bodyPost_ret (res_mat Try.results54 rfl cX) rfl ?_
    exact ⟨rfl, HBx⟩
  · obtain rfl : z = 0 := hz
    go_wp2_with fail
    go_loopg [14] 3 (fun kk s14 wv => ∃ (k : Nat) (y : Int), kk = 3 - k ∧ s14 = .int .i64 y ∧ y = k ∧ k ≤ 3 ∧ Cs wv (w.heap.size + 1 + 1) 18 (fpN M 0 k) ∧ Fs wv (w.heap.size + 1 + 1) 18 ∧ Below (w.heap.size + 1 + 1) wa wv ∧ wa.heap.size ≤ wv.heap.size)
    case atStart => exact ⟨0, 0, rfl, rfl, rfl, by omega, kc, kf, kg, by (simp [World.setCell] <;> omega)⟩
    clear cI fI hbI hzI
    obtain ⟨k, y, rfl, rfl, hy, hk, cI, fI, hbI, hzI⟩ := hrel
    rcases (show k = 3 ∨ k = 0 ∨ k = 1 ∨ k = 2 by omega) with rfl | rfl | rfl | rfl
    · obtain rfl : y = 3 := hy
      go_wp2

      go_roundg (3 - (0 + 1))
      case measure => omega
      case rel => exact ⟨0 + 1, 0 + 1, rfl, rfl, rfl, by omega, cs_eq cI (by apply cases18 <;> rfl), fI, hbI, hzI⟩
    · obtain rfl : y = 0 := hy
      have c0 : ∀ o, o < 18 → wr.cell? ⟨(w.heap.size + 1 + 1), o, none⟩ = some (.int .i64 (fpN M 0 0 o)) := cI
      have f0 : ∀ o, o < 18 → wr.frozen? ⟨(w.heap.size + 1 + 1), o, none⟩ = false := fI
      have zv : (w.heap.size + 1 + 1) < wr.heap.size := by omega
      go_wp2_with fail
      go_region

      go_wp2
      go_roundg (3 - (0 + 1))
      case measure => omega
      case rel => exact ⟨0 + 1, 0 + 1, rfl, rfl, rfl, by omega, cs_eq (N := up (up (fpN M 0 0) 0 (M 0)) (0 + 1) (M (0 + 1))) (kc) (by apply cases18 <;> rfl), kf, kg, by (simp [World.setCell] <;> omega)⟩
    · obtain rfl : y = 1 := hy
      have c0 : ∀ o, o < 18 → wr.cell? ⟨(w.heap.size + 1 + 1), o, none⟩ = some (.int .i64 (fpN M 0 1 o)) := cI
      have f0 : ∀ o, o < 18 → wr.frozen? ⟨(w.heap.size + 1 + 1), o, none⟩ = false := fI
      have zv : (w.heap.size + 1 + 1) < wr.heap.size := by omega
      go_wp2_with fail
      go_region

      go_wp2
      go_roundg (3 - (1 + 1))
      case measure => omega
      case rel => exact ⟨1 + 1, 1 + 1, rfl, rfl, rfl, by omega, cs_eq (N := up (up (fpN M 0 1) 6 (M 2)) (6 + 1) (M (2 + 1))) (kc) (by apply cases18 <;> rfl), kf, kg, by (simp [World.setCell] <;> omega)⟩
    · obtain rfl : y = 2 := hy
      have c0 : ∀ o, o < 18 → wr.cell? ⟨(w.heap.size + 1 + 1), o, none⟩ = some (.int .i64 (fpN M 0 2 o)) := cI
      have f0 : ∀ o, o < 18 → wr.frozen? ⟨(w.heap.size + 1 + 1), o, none⟩ = false := fI
      have zv : (w.heap.size + 1 + 1) < wr.heap.size := by omega
      go_wp2_with fail
      go_region

      go_wp2
      go_roundg (3 - (2 + 1))
      case measure => omega
      case rel => exact ⟨2 + 1, 2 + 1, rfl, rfl, rfl, by omega, cs_eq (N := up (up (fpN M 0 2) 12 (M 4)) (12 + 1) (M (4 + 1))) (kc) (by apply cases18 <;> rfl), kf, kg, by (simp [World.setCell] <;> omega)⟩
  · obtain rfl : z = 1 := hz
    go_wp2_with fail
    go_loopg [14] 3 (fun kk s14 wv => ∃ (k : Nat) (y : Int), kk = 3 - k ∧ s14 = .int .i64 y ∧ y = k ∧ k ≤ 3 ∧ Cs wv (w.heap.size + 1 + 1) 18 (fpN M 1 k) ∧ Fs wv (w.heap.size + 1 + 1) 18 ∧ Below (w.heap.size + 1 + 1) wa wv ∧ wa.heap.size ≤ wv.heap.size)
    case atStart => exact ⟨0, 0, rfl, rfl, rfl, by omega, kc, kf, kg, by (simp [World.setCell] <;> omega)⟩
    clear cI fI hbI hzI
    obtain ⟨k, y, rfl, rfl, hy, hk, cI, fI, hbI, hzI⟩ := hrel
    rcases (show k = 3 ∨ k = 0 ∨ k = 1 ∨ k = 2 by omega) with rfl | rfl | rfl | rfl
    · obtain rfl : y = 3 := hy
      go_wp2

      go_roundg (3 - (1 + 1))
      case measure => omega
      case rel => exact ⟨1 + 1, 1 + 1, rfl, rfl, rfl, by omega, cs_eq cI (by apply cases18 <;> rfl), fI, hbI, hzI⟩
    · obtain rfl : y = 0 := hy
      have c0 : ∀ o, o < 18 → wr.cell? ⟨(w.heap.size + 1 + 1), o, none⟩ = some (.int .i64 (fpN M 1 0 o)) := cI
      have f0 : ∀ o, o < 18 → wr.frozen? ⟨(w.heap.size + 1 + 1), o, none⟩ = false := fI
      have zv : (w.heap.size + 1 + 1) < wr.heap.size := by omega
      go_wp2_with fail
      go_region

      go_wp2
      go_roundg (3 - (0 + 1))
      case measure => omega
      case rel => exact ⟨0 + 1, 0 + 1, rfl, rfl, rfl, by omega, cs_eq (N := up (up (fpN M 1 0) 2 (M 6)) (2 + 1) (M (6 + 1))) (kc) (by apply cases18 <;> rfl), kf, kg, by (simp [World.setCell] <;> omega)⟩
    · obtain rfl : y = 1 := hy
      have c0 : ∀ o, o < 18 → wr.cell? ⟨(w.heap.size + 1 + 1), o, none⟩ = some (.int .i64 (fpN M 1 1 o)) := cI
      have f0 : ∀ o, o < 18 → wr.frozen? ⟨(w.heap.size + 1 + 1), o, none⟩ = false := fI
      have zv : (w.heap.size + 1 + 1) < wr.heap.size := by omega
      go_wp2_with fail
      go_region

      go_wp2
      go_roundg (3 - (1 + 1))
      case measure => omega
      case rel => exact ⟨1 + 1, 1 + 1, rfl, rfl, rfl, by omega, cs_eq (N := up (up (fpN M 1 1) 8 (M 8)) (8 + 1) (M (8 + 1))) (kc) (by apply cases18 <;> rfl), kf, kg, by (simp [World.setCell] <;> omega)⟩
    · obtain rfl : y = 2 := hy
      have c0 : ∀ o, o < 18 → wr.cell? ⟨(w.heap.size + 1 + 1), o, none⟩ = some (.int .i64 (fpN M 1 2 o)) := cI
      have f0 : ∀ o, o < 18 → wr.frozen? ⟨(w.heap.size + 1 + 1), o, none⟩ = false := fI
      have zv : (w.heap.size + 1 + 1) < wr.heap.size := by omega
      go_wp2_with fail
      go_region

      go_wp2
      go_roundg (3 - (2 + 1))
      case measure => omega
      case rel => exact ⟨2 + 1, 2 + 1, rfl, rfl, rfl, by omega, cs_eq (N := up (up (fpN M 1 2) 14 (M 10)) (14 + 1) (M (10 + 1))) (kc) (by apply cases18 <;> rfl), kf, kg, by (simp [World.setCell] <;> omega)⟩
  · obtain rfl : z = 2 := hz
    go_wp2_with fail
    go_loopg [14] 3 (fun kk s14 wv => ∃ (k : Nat) (y : Int), kk = 3 - k ∧ s14 = .int .i64 y ∧ y = k ∧ k ≤ 3 ∧ Cs wv (w.heap.size + 1 + 1) 18 (fpN M 2 k) ∧ Fs wv (w.heap.size + 1 + 1) 18 ∧ Below (w.heap.size + 1 + 1) wa wv ∧ wa.heap.size ≤ wv.heap.size)
    case atStart => exact ⟨0, 0, rfl, rfl, rfl, by omega, kc, kf, kg, by (simp [World.setCell] <;> omega)⟩
    clear cI fI hbI hzI
    obtain ⟨k, y, rfl, rfl, hy, hk, cI, fI, hbI, hzI⟩ := hrel
    rcases (show k = 3 ∨ k = 0 ∨ k = 1 ∨ k = 2 by omega) with rfl | rfl | rfl | rfl
    · obtain rfl : y = 3 := hy
      go_wp2

      go_roundg (3 - (2 + 1))
      case measure => omega
      case rel => exact ⟨2 + 1, 2 + 1, rfl, rfl, rfl, by omega, cs_eq cI (by apply cases18 <;> rfl), fI, hbI, hzI⟩
    · obtain rfl : y = 0 := hy
      have c0 : ∀ o, o < 18 → wr.cell? ⟨(w.heap.size + 1 + 1), o, none⟩ = some (.int .i64 (fpN M 2 0 o)) := cI
      have f0 : ∀ o, o < 18 → wr.frozen? ⟨(w.heap.size + 1 + 1), o, none⟩ = false := fI
      have zv : (w.heap.size + 1 + 1) < wr.heap.size := by omega
      go_wp2_with fail
      go_region

      go_wp2
      go_roundg (3 - (0 + 1))
      case measure => omega
      case rel => exact ⟨0 + 1, 0 + 1, rfl, rfl, rfl, by omega, cs_eq (N := up (up (fpN M 2 0) 4 (M 12)) (4 + 1) (M (12 + 1))) (kc) (by apply cases18 <;> rfl), kf, kg, by (simp [World.setCell] <;> omega)⟩
    · obtain rfl : y = 1 := hy
      have c0 : ∀ o, o < 18 → wr.cell? ⟨(w.heap.size + 1 + 1), o, none⟩ = some (.int .i64 (fpN M 2 1 o)) := cI
      have f0 : ∀ o, o < 18 → wr.frozen? ⟨(w.heap.size + 1 + 1), o, none⟩ = false := fI
      have zv : (w.heap.size + 1 + 1) < wr.heap.size := by omega
      go_wp2_with fail
      go_region

      go_wp2
      go_roundg (3 - (1 + 1))
      case measure => omega
      case rel => exact ⟨1 + 1, 1 + 1, rfl, rfl, rfl, by omega, cs_eq (N := up (up (fpN M 2 1) 10 (M 14)) (10 + 1) (M (14 + 1))) (kc) (by apply cases18 <;> rfl), kf, kg, by (simp [World.setCell] <;> omega)⟩
    · obtain rfl : y = 2 := hy
      have c0 : ∀ o, o < 18 → wr.cell? ⟨(w.heap.size + 1 + 1), o, none⟩ = some (.int .i64 (fpN M 2 2 o)) := cI
      have f0 : ∀ o, o < 18 → wr.frozen? ⟨(w.heap.size + 1 + 1), o, none⟩ = false := fI
      have zv : (w.heap.size + 1 + 1) < wr.heap.size := by omega
      go_wp2_with fail
      go_region

      go_wp2
      go_roundg (3 - (2 + 1))
      case measure => omega
      case rel => exact ⟨2 + 1, 2 + 1, rfl, rfl, rfl, by omega, cs_eq (N := up (up (fpN M 2 2) 16 (M 16)) (16 + 1) (M (16 + 1))) (kc) (by apply cases18 <;> rfl), kf, kg, by (simp [World.setCell] <;> omega)⟩
end Go.Proofs.Ytdolfdmgdknboaa
namespace Go.Proofs.Ytdolfdmgdknboaa
set_option linter.unusedVariables false


/-- A coordinate's numbers are of 64 bits. -/
def okC (n d : Int) : Prop := -9223372036854775808 ≤ n ∧ n ≤ 9223372036854775807 ∧ -9223372036854775808 ≤ d ∧ d ≤ 9223372036854775807
/-- A vector is valid. -/
def okV (a b c d e f : Int) : Bool := okF a b && (okF c d && okF e f)
def chV (a b c d e f : Int) : Int := if okV a b c d e f = true then 0 else 8
/-- The first of three errors. -/
def fsI (a b c : Int) : Int := if a = 0 then (if b = 0 then c else b) else a
/-- What is handed back where the error is E. -/
def vz (E x : Int) : Int := if E = 0 then x else 0

theorem okV_in {a b c d e f : Int} (h : okV a b c d e f = true) : okF a b = true ∧ okF c d = true ∧ okF e f = true := by
  unfold okV at h; simp at h; exact h
theorem okC_of {a b : Int} (h : okF a b = true) : okC a b := by
  obtain ⟨h1, h2, h3, h4, h5⟩ := okF_out h
  unfold okC; omega
theorem chk2_ok {a b c d : Int} (h : okF a b = true) (k : okF c d = true) : chk2 a b c d = 0 := by unfold chk2 chkI; rw [if_pos h, if_pos k]
theorem vz0 (x : Int) : vz 0 x = x := by unfold vz; rw [if_pos rfl]
theorem vzn {E : Int} (h : ¬ E = 0) (x : Int) : vz E x = 0 := by unfold vz; rw [if_neg h]
/-- The errors of sums, differences and multiples. -/
def vaE (a b c d e f g h i j k l : Int) : Int := if okV a b c d e f = true ∧ okV g h i j k l = true then fsI (adE a b g h) (adE c d i j) (adE e f k l) else 8
def vmE (a b c d e f s t : Int) : Int := if okV a b c d e f = true ∧ okF s t = true then fsI (muE a b s t) (muE c d s t) (muE e f s t) else 8
/-- a c + b d of fractions: the error, the numerator, the denominator. -/
def twE (a b c d e f g h : Int) : Int := if fsI (muE a b c d) (muE e f g h) 0 = 0 then adE (muN a b c d) (muD a b c d) (muN e f g h) (muD e f g h) else fsI (muE a b c d) (muE e f g h) 0
def twN (a b c d e f g h : Int) : Int := if fsI (muE a b c d) (muE e f g h) 0 = 0 then adN (muN a b c d) (muD a b c d) (muN e f g h) (muD e f g h) else 0
def twD (a b c d e f g h : Int) : Int := if fsI (muE a b c d) (muE e f g h) 0 = 0 then adD (muN a b c d) (muD a b c d) (muN e f g h) (muD e f g h) else 0
/-- The dot product of valid vectors. -/
def doF (a b c d e f g h i j k l : Int) : Int := fsI (twE a b g h c d i j) (muE e f k l) 0
def doE (a b c d e f g h i j k l : Int) : Int := if doF a b c d e f g h i j k l = 0 then adE (twN a b g h c d i j) (twD a b g h c d i j) (muN e f k l) (muD e f k l) else doF a b c d e f g h i j k l
def doN (a b c d e f g h i j k l : Int) : Int := if doF a b c d e f g h i j k l = 0 then adN (twN a b g h c d i j) (twD a b g h c d i j) (muN e f k l) (muD e f k l) else 0
def doD (a b c d e f g h i j k l : Int) : Int := if doF a b c d e f g h i j k l = 0 then adD (twN a b g h c d i j) (twD a b g h c d i j) (muN e f k l) (muD e f k l) else 0
def dtE (a b c d e f g h i j k l : Int) : Int := if okV a b c d e f = true ∧ okV g h i j k l = true then doE a b c d e f g h i j k l else 8
def dtN (a b c d e f g h i j k l : Int) : Int := if okV a b c d e f = true ∧ okV g h i j k l = true then doN a b c d e f g h i j k l else 0
def dtD (a b c d e f g h i j k l : Int) : Int := if okV a b c d e f = true ∧ okV g h i j k l = true then doD a b c d e f g h i j k l else 0
/-- The error of a cross product. -/
def crE (a b c d e f g h i j k l : Int) : Int := if okV a b c d e f = true ∧ okV g h i j k l = true then fsI (twE c d k l (-e) f i j) (twE e f g h (-a) b k l) (twE a b i j (-c) d g h) else 8
theorem okC_all {a b c d e f : Int} (h : okV a b c d e f = true) : okC a b ∧ okC c d ∧ okC e f := by
  obtain ⟨h1, h2, h3⟩ := okV_in h
  exact ⟨okC_of h1, okC_of h2, okC_of h3⟩

theorem mk_okC (N D : Int) (h : 0 < D) : okC (mkN N D) (mkD N D) := by
  have p : 0 ≤ rD N D := by
    have := Int.ediv_pos_of_pos_of_dvd h (by have := gcdI_pos N D h; omega) (gcdI_dvd_right N D)
    unfold rD; omega
  unfold mkN mkD okC
  split
  · rename_i k; unfold absI at k; omega
  · omega
theorem okC_zero : okC 0 0 := by unfold okC; omega
theorem mu_okC (a b c d : Int) : okC (muN a b c d) (muD a b c d) := by
  unfold muN muD
  by_cases h : okF a b = true ∧ okF c d = true
  · rw [if_pos h, if_pos h]
    obtain ⟨x1, x2, x3, x4, x5⟩ := okF_out h.1
    obtain ⟨y1, y2, y3, y4, y5⟩ := okF_out h.2
    exact mk_okC _ _ (Int.mul_pos (by omega) (by omega))
  · rw [if_neg h, if_neg h]; exact okC_zero
theorem ad_okC (a b c d : Int) : okC (adN a b c d) (adD a b c d) := by
  unfold adN adD
  by_cases h : okF a b = true ∧ okF c d = true
  · rw [if_pos h, if_pos h]
    obtain ⟨x1, x2, x3, x4, x5⟩ := okF_out h.1
    obtain ⟨y1, y2, y3, y4, y5⟩ := okF_out h.2
    exact mk_okC _ _ (Int.mul_pos (by omega) (by omega))
  · rw [if_neg h, if_neg h]; exact okC_zero
theorem tw_okC (a b c d e f g h : Int) : okC (twN a b c d e f g h) (twD a b c d e f g h) := by
  unfold twN twD
  by_cases k : fsI (muE a b c d) (muE e f g h) 0 = 0
  · rw [if_pos k, if_pos k]; exact ad_okC _ _ _ _
  · rw [if_neg k, if_neg k]; exact okC_zero

theorem mk_zero (N D : Int) (h : ¬ mkE N D = 0) : mkN N D = 0 ∧ mkD N D = 0 := by
  unfold mkE at h; unfold mkN mkD
  split at h
  · omega
  · rename_i k; rw [if_neg k, if_neg k]; exact ⟨rfl, rfl⟩
theorem ad_zero (a b c d : Int) (h : ¬ adE a b c d = 0) : adN a b c d = 0 ∧ adD a b c d = 0 := by
  unfold adE at h; unfold adN adD
  by_cases k : okF a b = true ∧ okF c d = true
  · rw [if_pos k] at h; rw [if_pos k, if_pos k]; exact mk_zero _ _ h
  · rw [if_neg k, if_neg k]; exact ⟨rfl, rfl⟩
theorem mu_ok (a b c d : Int) (o1 : okF a b = true) (o2 : okF c d = true) (h : muE a b c d = 0) : okF (muN a b c d) (muD a b c d) = true := by
  obtain ⟨x1, x2, x3, x4, x5⟩ := okF_out o1
  obtain ⟨y1, y2, y3, y4, y5⟩ := okF_out o2
  rw [muE, if_pos ⟨o1, o2⟩] at h
  rw [muN, muD, if_pos ⟨o1, o2⟩, if_pos ⟨o1, o2⟩]
  exact (mk_of _ _ (Int.mul_pos (by omega) (by omega)) h).1
theorem ok01 : okF 0 1 = true := by decide
theorem ad_zero_left (a b : Int) (h : okF a b = true) : adN 0 1 a b = a ∧ adD 0 1 a b = b ∧ adE 0 1 a b = 0 := by
  obtain ⟨x1, x2, x3, x4, x5⟩ := okF_out h
  rw [adN, adD, adE, if_pos ⟨ok01, h⟩, if_pos ⟨ok01, h⟩, if_pos ⟨ok01, h⟩]
  exact mk_eq _ _ _ _ (by omega) h (by rw [Int.zero_mul, Int.zero_add, Int.mul_one, Int.one_mul])
theorem tw_eq (a b c d e f g h : Int) :
    fsI (muE a b c d) (muE e f g h) (adE (muN a b c d) (muD a b c d) (muN e f g h) (muD e f g h)) = twE a b c d e f g h ∧
    vz (twE a b c d e f g h) (adN (muN a b c d) (muD a b c d) (muN e f g h) (muD e f g h)) = twN a b c d e f g h ∧
    vz (twE a b c d e f g h) (adD (muN a b c d) (muD a b c d) (muN e f g h) (muD e f g h)) = twD a b c d e f g h := by
  have Z := ad_zero (muN a b c d) (muD a b c d) (muN e f g h) (muD e f g h)
  unfold twE twN twD
  generalize adE (muN a b c d) (muD a b c d) (muN e f g h) (muD e f g h) = E at *
  generalize adN (muN a b c d) (muD a b c d) (muN e f g h) (muD e f g h) = X at *
  generalize adD (muN a b c d) (muD a b c d) (muN e f g h) (muD e f g h) = Y at *
  unfold fsI vz
  by_cases h1 : muE a b c d = 0
  · by_cases h2 : muE e f g h = 0
    · by_cases h3 : E = 0
      · simp [h1, h2, h3]
      · obtain ⟨z1, z2⟩ := Z h3
        simp [h1, h2, h3, z1, z2]
    · simp [h1, h2]
  · simp [h1]
theorem do_eq (a b c d e f g h i j k l : Int) :
    fsI (muE a b g h) (muE c d i j) (fsI (adE (muN a b g h) (muD a b g h) (muN c d i j) (muD c d i j)) (muE e f k l) (adE (adN (muN a b g h) (muD a b g h) (muN c d i j) (muD c d i j)) (adD (muN a b g h) (muD a b g h) (muN c d i j) (muD c d i j)) (muN e f k l) (muD e f k l))) = doE a b c d e f g h i j k l ∧
    vz (doE a b c d e f g h i j k l) (adN (adN (muN a b g h) (muD a b g h) (muN c d i j) (muD c d i j)) (adD (muN a b g h) (muD a b g h) (muN c d i j) (muD c d i j)) (muN e f k l) (muD e f k l)) = doN a b c d e f g h i j k l ∧
    vz (doE a b c d e f g h i j k l) (adD (adN (muN a b g h) (muD a b g h) (muN c d i j) (muD c d i j)) (adD (muN a b g h) (muD a b g h) (muN c d i j) (muD c d i j)) (muN e f k l) (muD e f k l)) = doD a b c d e f g h i j k l := by
  obtain ⟨t1, t2, t3⟩ := tw_eq a b g h c d i j
  have Z := ad_zero (adN (muN a b g h) (muD a b g h) (muN c d i j) (muD c d i j)) (adD (muN a b g h) (muD a b g h) (muN c d i j) (muD c d i j)) (muN e f k l) (muD e f k l)
  unfold doE doN doD doF
  generalize twE a b g h c d i j = TE at *
  generalize twN a b g h c d i j = TN at *
  generalize twD a b g h c d i j = TD at *
  generalize adE (muN a b g h) (muD a b g h) (muN c d i j) (muD c d i j) = AE at *
  generalize adN (muN a b g h) (muD a b g h) (muN c d i j) (muD c d i j) = AN at *
  generalize adD (muN a b g h) (muD a b g h) (muN c d i j) (muD c d i j) = AD at *
  generalize muE a b g h = e1 at *
  generalize muE c d i j = e2 at *
  generalize muE e f k l = e3 at *
  generalize muN e f k l = MN at *
  generalize muD e f k l = MD at *
  unfold fsI vz at *
  by_cases h1 : e1 = 0
  · by_cases h2 : e2 = 0
    · by_cases h3 : AE = 0
      · rw [if_pos h1, if_pos h2] at t1
        have h0 : TE = 0 := by omega
        rw [if_pos h0] at t2 t3
        subst h1; subst h2; subst h3; subst h0; subst t2; subst t3
        by_cases h4 : e3 = 0
        · by_cases h5 : adE AN AD MN MD = 0
          · simp [h4, h5]
          · obtain ⟨z1, z2⟩ := Z h5
            simp [h4, h5, z1, z2]
        · simp [h4]
      · rw [if_pos h1, if_pos h2] at t1
        subst t1
        simp [h1, h2, h3]
    · rw [if_pos h1, if_neg h2] at t1
      subst t1
      simp [h1, h2]
  · rw [if_neg h1] at t1
    subst t1
    simp [h1]
open Go.RowKit

def e18 (z : Int) : Prop := 0 ≤ z ∧ z ≤ 18
theorem mkE_e (N D : Int) : e18 (mkE N D) := by unfold e18 mkE; split <;> omega
theorem e18_8 : e18 8 := by unfold e18; omega
theorem adE_e (a b c d : Int) : e18 (adE a b c d) := by
  unfold adE; split
  · exact mkE_e _ _
  · exact e18_8
theorem muE_e (a b c d : Int) : e18 (muE a b c d) := by
  unfold muE; split
  · exact mkE_e _ _
  · exact e18_8
theorem fsI_e {a b c : Int} (h1 : e18 a) (h2 : e18 b) (h3 : e18 c) : e18 (fsI a b c) := by
  unfold fsI; split
  · split <;> assumption
  · assumption
theorem vaE_e (a b c d e f g h i j k l : Int) : e18 (vaE a b c d e f g h i j k l) := by
  unfold vaE; split
  · exact fsI_e (adE_e _ _ _ _) (adE_e _ _ _ _) (adE_e _ _ _ _)
  · exact e18_8
theorem vmE_e (a b c d e f g h : Int) : e18 (vmE a b c d e f g h) := by
  unfold vmE; split
  · exact fsI_e (muE_e _ _ _ _) (muE_e _ _ _ _) (muE_e _ _ _ _)
  · exact e18_8
theorem e18_0 : e18 0 := by unfold e18; omega
theorem twE_e (a b c d e f g h : Int) : e18 (twE a b c d e f g h) := by
  unfold twE; split
  · exact adE_e _ _ _ _
  · exact fsI_e (muE_e _ _ _ _) (muE_e _ _ _ _) e18_0
theorem dtE_e (a b c d e f g h i j k l : Int) : e18 (dtE a b c d e f g h i j k l) := by
  unfold dtE doE; split
  · split
    · exact adE_e _ _ _ _
    · exact fsI_e (twE_e _ _ _ _ _ _ _ _) (muE_e _ _ _ _) e18_0
  · exact e18_8
theorem crE_e (a b c d e f g h i j k l : Int) : e18 (crE a b c d e f g h i j k l) := by
  unfold crE; split
  · exact fsI_e (twE_e _ _ _ _ _ _ _ _) (twE_e _ _ _ _ _ _ _ _) (twE_e _ _ _ _ _ _ _ _)
  · exact e18_8
theorem chV_e (a b c d e f : Int) : e18 (chV a b c d e f) := by unfold chV e18; split <;> omega
theorem wrapE {z : Int} (h : e18 z) : IntKind.i64.wrap z = z := IntWalk.i64_in _ (by unfold e18 at h; omega)
end Go.Proofs.Ytdolfdmgdknboaa
namespace Go.Proofs.Ytdolfdmgdknboaa
open Go.RowKit
set_option linter.unusedVariables false
set_option linter.unusedSimpArgs false

theorem idx0 (a b c d e f : Int) (w : World) : (Instr.index 24 (.agg #[.int .i64 a, .int .i64 b, .int .i64 c, .int .i64 d, .int .i64 e, .int .i64 f]) (.int .i64 0)).run Try.prog w = .ok (.agg #[.int .i64 a, .int .i64 b]) w := by simp [Instr.index, run_underlying Try.underlying24, asIntOf, go_sem]
theorem idx1 (a b c d e f : Int) (w : World) : (Instr.index 24 (.agg #[.int .i64 a, .int .i64 b, .int .i64 c, .int .i64 d, .int .i64 e, .int .i64 f]) (.int .i64 1)).run Try.prog w = .ok (.agg #[.int .i64 c, .int .i64 d]) w := by simp [Instr.index, run_underlying Try.underlying24, asIntOf, go_sem]
theorem idx2 (a b c d e f : Int) (w : World) : (Instr.index 24 (.agg #[.int .i64 a, .int .i64 b, .int .i64 c, .int .i64 d, .int .i64 e, .int .i64 f]) (.int .i64 2)).run Try.prog w = .ok (.agg #[.int .i64 e, .int .i64 f]) w := by simp [Instr.index, run_underlying Try.underlying24, asIntOf, go_sem]
def rowOk (C : Nat → Int) (i : Nat) : Prop := okF (C (i * 6)) (C (i * 6 + 1)) = true ∧ okF (C (i * 6 + 2)) (C (i * 6 + 3)) = true ∧ okF (C (i * 6 + 4)) (C (i * 6 + 5)) = true
instance (C : Nat → Int) (i : Nat) : Decidable (rowOk C i) := by unfold rowOk; infer_instance
def rowsE (C : Nat → Int) (m : Nat) : Int := if ∀ i, i < m → rowOk C i then 0 else 8

set_option maxHeartbeats 400000 in
theorem vec_list (a b c d e f : Int) (w : World) :
    Calls Try.prog 44 #[.agg #[.int .i64 a, .int .i64 b, .int .i64 c, .int .i64 d, .int .i64 e, .int .i64 f]] w fun x w' => x = .returned (.agg #[.int .i64 a, .int .i64 b, .int .i64 c, .int .i64 d, .int .i64 e, .int .i64 f]) ∧ Below w.heap.size w w' := by
  have xR := xRul
  go_enter Try.func44, Try.ntmps44
  go_wp2
  refine bodyPost_ret (by simp [results, Try.results44, go_sem, ext_cell, kp, *]; try rfl) rfl ?_
  exact ⟨rfl, kb⟩

set_option maxRecDepth 100000 in
set_option maxHeartbeats 1600000 in
theorem vec_check (C : Nat → Int) (g cap m : Nat) (hm : m ≤ 6) (hb : ∀ i, i < m → okC (C (i * 6)) (C (i * 6 + 1)) ∧ okC (C (i * 6 + 2)) (C (i * 6 + 3)) ∧ okC (C (i * 6 + 4)) (C (i * 6 + 5))) (w : World)
    (hg : g < w.heap.size) (hc : ∀ o, o < 6 * m → w.cell? ⟨g, o, none⟩ = some (.int .i64 (C o))) :
    Calls Try.prog 45 #[.slice (some ⟨g, 0, none⟩) m cap] w fun x w' => x = .returned (.int .i64 (rowsE C m)) ∧ Below w.heap.size w w' := by
  have HB := Lib.hid hb
  have HC := Lib.hid hc
  clear hb hc
  have xR := xRul
  go_enter Try.func45, Try.ntmps45
  go_wp2_with fail
  go_loopg [10] m (fun kk s10 wr => ∃ i : Nat, kk = m - i ∧ s10 = .int .i64 i ∧ i ≤ m ∧ (∀ j, j < i → rowOk C j) ∧ Below w.heap.size w wr)
  case atStart => exact ⟨0, rfl, rfl, by omega, fun j hj => by omega, kb⟩
  case round =>
    obtain ⟨i, rfl, rfl, him, hok, hbr⟩ := hrel
    have OK := Lib.hid hok
    clear hok
    by_cases hi : i < m
    · have b1 := HB.out i hi
      have e0 := (hbr.cell hg).trans (HC.out (i * 6) (by omega))
      have e1 := (hbr.cell hg).trans (HC.out (i * 6 + 1) (by omega))
      have e2 := (hbr.cell hg).trans (HC.out (i * 6 + 2) (by omega))
      have e3 := (hbr.cell hg).trans (HC.out (i * 6 + 3) (by omega))
      have e4 := (hbr.cell hg).trans (HC.out (i * 6 + 4) (by omega))
      have e5 := (hbr.cell hg).trans (HC.out (i * 6 + 5) (by omega))
      have zi : (i : Int) < (m : Int) := by omega
      have zg : g < wr.heap.size := by have := hbr.size; omega
      have A0 := fun w => frac_Check (C (i * 6)) (C (i * 6 + 1)) b1.1.1 b1.1.2.1 b1.1.2.2.1 b1.1.2.2.2 w
      have A1 := fun w => frac_Check (C (i * 6 + 2)) (C (i * 6 + 3)) b1.2.1.1 b1.2.1.2.1 b1.2.1.2.2.1 b1.2.1.2.2.2 w
      have A2 := fun w => frac_Check (C (i * 6 + 4)) (C (i * 6 + 5)) b1.2.2.1 b1.2.2.2.1 b1.2.2.2.2.1 b1.2.2.2.2.2 w
      have R8 : Hid (¬ rowOk C i → rowsE C m = 8) := Lib.hid (fun h => by unfold rowsE; rw [if_neg (fun k => h (k i hi))])
      have R0 : Hid (okF (C (i * 6)) (C (i * 6 + 1)) = true → okF (C (i * 6 + 2)) (C (i * 6 + 3)) = true → okF (C (i * 6 + 4)) (C (i * 6 + 5)) = true → ∀ j, j < i + 1 → rowOk C j) := Lib.hid (fun h1 h2 h3 j hj => by
        rcases Nat.lt_or_ge j i with q | q
        · exact OK.out j q
        · rw [show j = i by omega]; exact ⟨h1, h2, h3⟩)
      have S8 : Hid (rowOk C i → okF (C (i * 6)) (C (i * 6 + 1)) = true ∧ okF (C (i * 6 + 2)) (C (i * 6 + 3)) = true ∧ okF (C (i * 6 + 4)) (C (i * 6 + 5)) = true) := Lib.hid (fun h => h)
      clear b1
      generalize C (i * 6) = c0 at *
      generalize C (i * 6 + 1) = c1 at *
      generalize C (i * 6 + 2) = c2 at *
      generalize C (i * 6 + 3) = c3 at *
      generalize C (i * 6 + 4) = c4 at *
      generalize C (i * 6 + 5) = c5 at *
      unfold chkI at A0 A1 A2
      have j0 := idx0 c0 c1 c2 c3 c4 c5
      have j1 := idx1 c0 c1 c2 c3 c4 c5
      have j2 := idx2 c0 c1 c2 c3 c4 c5
      by_cases h0 : okF c0 c1 = true
      · rw [if_pos h0] at A0
        by_cases h1 : okF c2 c3 = true
        · rw [if_pos h1] at A1
          by_cases h2 : okF c4 c5 = true
          · rw [if_pos h2] at A2
            have RR := Lib.hid (R0.out h0 h1 h2)
            clear R0 R8 S8 h0 h1 h2 hi
            go_wp2_with fail
            refine wp_loop_rounds 4 ?_
            rw [rounds_succ]
            go_wp2_with fail
            with_reducible refine (A0 _).mono ?_
            rintro e v0 ⟨rfl, hb0⟩
            obtain ⟨l0, d0, rfl⟩ := toExt hb0
            clear hb0
            go_wp2_with fail
            rw [rounds_succ]
            go_wp2_with fail
            with_reducible refine (A1 _).mono ?_
            rintro e v1 ⟨rfl, hb1⟩
            obtain ⟨l1, d1, rfl⟩ := toExt hb1
            clear hb1
            go_wp2_with fail
            rw [rounds_succ]
            go_wp2_with fail
            with_reducible refine (A2 _).mono ?_
            rintro e v2 ⟨rfl, hb2⟩
            obtain ⟨l2, d2, rfl⟩ := toExt hb2
            clear hb2
            go_wp2_with fail
            rw [rounds_succ]
            go_wp2
            go_roundg (m - (i + 1))
            case measure => omega
            case rel => exact ⟨i + 1, by omega, by go_num, by omega, RR.out, kb⟩
          · rw [if_neg h2] at A2
            have E8 := Lib.hid (R8.out (fun k => h2 (S8.out k).2.2))
            clear R0 R8 S8 h0 h1 h2 hi
            go_wp2_with fail
            refine wp_loop_rounds 4 ?_
            rw [rounds_succ]
            go_wp2_with fail
            with_reducible refine (A0 _).mono ?_
            rintro e v0 ⟨rfl, hb0⟩
            obtain ⟨l0, d0, rfl⟩ := toExt hb0
            clear hb0
            go_wp2_with fail
            rw [rounds_succ]
            go_wp2_with fail
            with_reducible refine (A1 _).mono ?_
            rintro e v1 ⟨rfl, hb1⟩
            obtain ⟨l1, d1, rfl⟩ := toExt hb1
            clear hb1
            go_wp2_with fail
            rw [rounds_succ]
            go_wp2_with fail
            with_reducible refine (A2 _).mono ?_
            rintro e v2 ⟨rfl, hb2⟩
            obtain ⟨l2, d2, rfl⟩ := toExt hb2
            clear hb2
            go_wp2
            go_ret
            exact ⟨by rw [E8.out]; rfl, kb⟩
        · rw [if_neg h1] at A1
          have E8 := Lib.hid (R8.out (fun k => h1 (S8.out k).2.1))
          clear R0 R8 S8 h0 h1 hi A2
          go_wp2_with fail
          refine wp_loop_rounds 4 ?_
          rw [rounds_succ]
          go_wp2_with fail
          with_reducible refine (A0 _).mono ?_
          rintro e v0 ⟨rfl, hb0⟩
          obtain ⟨l0, d0, rfl⟩ := toExt hb0
          clear hb0
          go_wp2_with fail
          rw [rounds_succ]
          go_wp2_with fail
          with_reducible refine (A1 _).mono ?_
          rintro e v1 ⟨rfl, hb1⟩
          obtain ⟨l1, d1, rfl⟩ := toExt hb1
          clear hb1
          go_wp2
          go_ret
          exact ⟨by rw [E8.out]; rfl, kb⟩
      · rw [if_neg h0] at A0
        have E8 := Lib.hid (R8.out (fun k => h0 (S8.out k).1))
        clear R0 R8 S8 h0 hi A1 A2
        go_wp2_with fail
        refine wp_loop_rounds 4 ?_
        rw [rounds_succ]
        go_wp2_with fail
        with_reducible refine (A0 _).mono ?_
        rintro e v0 ⟨rfl, hb0⟩
        obtain ⟨l0, d0, rfl⟩ := toExt hb0
        clear hb0
        go_wp2
        go_ret
        exact ⟨by rw [E8.out]; rfl, kb⟩
    · have E0 : Hid (rowsE C m = 0) := Lib.hid (by unfold rowsE; rw [if_pos]; intro j hj; exact OK.out j (by omega))
      have zi : ¬ (i : Int) < (m : Int) := by omega
      go_wp2
      go_ret
      exact ⟨by rw [E0.out]; rfl, kb⟩
end Go.Proofs.Ytdolfdmgdknboaa
