/-
  Words of layer 7: lists of windows, what they have in common, and the next time (no program is mentioned here).
-/
import Derived.Test.YtcigjdadahlgnaaSm
import Derived.Laws.AppendOwn
import Derived.Laws.OwnMore
import Derived.Lib.Hide
namespace Go.Proofs.Ytcigjdadahlgnaa
open Go.RowKit
set_option linter.unusedVariables false
set_option linter.unusedSimpArgs false

abbrev Win := Int × Int
def fW (L : List Win) (k : Nat) : Int := (L.getD k (0, 0)).1
def tW (L : List Win) (k : Nat) : Int := (L.getD k (0, 0)).2
theorem drop_win (L : List Win) {k : Nat} (h : k < L.length) : L.drop k = (fW L k, tW L k) :: L.drop (k + 1) := by
  rw [List.drop_eq_getElem_cons h]
  unfold fW tW
  rw [List.getD_eq_getElem?_getD, List.getElem?_eq_getElem h]
  rfl
theorem drop_end {α : Type} (L : List α) {k : Nat} (h : ¬ k < L.length) : L.drop k = [] := List.drop_eq_nil_iff.2 (by omega)
theorem fW_drop (L : List Win) (j k : Nat) : fW (L.drop j) k = fW L (j + k) ∧ tW (L.drop j) k = tW L (j + k) := by
  unfold fW tW
  rw [List.getD_eq_getElem?_getD, List.getD_eq_getElem?_getD, List.getElem?_drop]
  exact ⟨rfl, rfl⟩
/-- Valid windows. -/
def okW (L : List Win) : Bool := decide (∀ k, k < L.length → fW L k < tW L k ∧ (0 < k → tW L (k - 1) < fW L k))
def wcE (L : List Win) : Int := if 1000 < L.length then 4 else if okW L = true then 0 else 8
theorem okW_out {L : List Win} (h : okW L = true) (k : Nat) (hk : k < L.length) : fW L k < tW L k ∧ (0 < k → tW L (k - 1) < fW L k) := by
  have := of_decide_eq_true h
  exact this k hk
theorem okW_bad {L : List Win} {k : Nat} (hk : k < L.length) (h : ¬ (fW L k < tW L k ∧ (0 < k → tW L (k - 1) < fW L k))) : okW L = false := by
  unfold okW
  exact decide_eq_false (fun c => h (c k hk))
theorem okW_all {L : List Win} (h : ∀ k, k < L.length → fW L k < tW L k ∧ (0 < k → tW L (k - 1) < fW L k)) : okW L = true := decide_eq_true h
theorem wcE_ok {L : List Win} (h : wcE L = 0) : L.length ≤ 1000 ∧ okW L = true := by
  unfold wcE at h
  by_cases h1 : 1000 < L.length
  · rw [if_pos h1] at h; omega
  · rw [if_neg h1] at h
    by_cases h2 : okW L = true
    · exact ⟨by omega, h2⟩
    · rw [if_neg h2] at h; omega
theorem wcE_or (L : List Win) : wcE L = 0 ∨ wcE L = 4 ∨ wcE L = 8 := by
  unfold wcE
  split
  · omega
  · split <;> omega
/-- Sorted windows, by recursion. -/
def srt : List Win → Prop
  | [] => True
  | [v] => v.1 < v.2
  | v :: w :: L => v.1 < v.2 ∧ v.2 < w.1 ∧ srt (w :: L)
theorem srt_tail {v : Win} {L : List Win} (h : srt (v :: L)) : srt L := by
  cases L with
  | nil => trivial
  | cons w L => exact h.2.2
theorem srt_head {v : Win} {L : List Win} (h : srt (v :: L)) : v.1 < v.2 := by
  cases L with
  | nil => exact h
  | cons w L => exact h.1
theorem srt_all {v : Win} {L : List Win} (h : srt (v :: L)) : ∀ w, w ∈ L → v.2 < w.1 ∧ w.1 < w.2 := by
  induction L generalizing v with
  | nil => intro w hw; cases hw
  | cons x L ih =>
    intro w hw
    have hx := srt_head h.2.2
    rcases List.mem_cons.1 hw with rfl | hw
    · exact ⟨h.2.1, hx⟩
    · have := ih h.2.2 w hw
      have := h.2.1
      omega
theorem srt_of {L : List Win} (h : ∀ k, k < L.length → fW L k < tW L k ∧ (0 < k → tW L (k - 1) < fW L k)) : srt L := by
  induction L with
  | nil => trivial
  | cons v L ih =>
    have hL : srt L := ih (fun k hk => by
      have := h (k + 1) (by simp; omega)
      refine ⟨this.1, fun h0 => ?_⟩
      have h2 := this.2 (by omega)
      obtain ⟨j, rfl⟩ : ∃ j, k = j + 1 := ⟨k - 1, by omega⟩
      exact h2)
    cases L with
    | nil => exact (h 0 (by simp)).1
    | cons w L => exact ⟨(h 0 (by simp)).1, (h 1 (by simp)).2 (by omega), hL⟩
theorem okW_srt {L : List Win} (h : okW L = true) : srt L := srt_of (fun k hk => okW_out h k hk)
/-- What two windows have in common. -/
def ovF (a c : Int) : Int := ma2 a c
def one (v : Win) : List Win → List Win
  | [] => []
  | w :: L => if ma2 v.1 w.1 < mi2 v.2 w.2 then (ma2 v.1 w.1, mi2 v.2 w.2) :: one v L else one v L
def refM : List Win → List Win → List Win
  | [], _ => []
  | v :: A, B => one v B ++ refM A B
def twoM : Nat → List Win → List Win → List Win
  | 0, _, _ => []
  | n + 1, A, B => match A, B with
    | v :: A, w :: B => (if ma2 v.1 w.1 < mi2 v.2 w.2 then [(ma2 v.1 w.1, mi2 v.2 w.2)] else []) ++ (if v.2 < w.2 then twoM n A (w :: B) else twoM n (v :: A) B)
    | _, _ => []
theorem one_nil {v : Win} {B : List Win} (h : ∀ w, w ∈ B → v.2 ≤ w.1 ∨ w.2 ≤ v.1) : one v B = [] := by
  induction B with
  | nil => rfl
  | cons w B ih =>
    unfold one
    have h1 := h w (by simp)
    rw [if_neg (by unfold ma2 mi2; omega)]
    exact ih (fun x hx => h x (by simp [hx]))
theorem refM_nil (A : List Win) : refM A [] = [] := by
  induction A with
  | nil => rfl
  | cons v A ih => simp [refM, one, ih]
theorem refM_skip {A : List Win} {w : Win} {B : List Win} (h : ∀ v, v ∈ A → w.2 ≤ v.1) : refM A (w :: B) = refM A B := by
  induction A with
  | nil => rfl
  | cons v A ih =>
    unfold refM
    rw [ih (fun x hx => h x (by simp [hx]))]
    have := h v (by simp)
    have e : one v (w :: B) = one v B := by
      rw [one, if_neg (by unfold ma2 mi2; omega)]
    rw [e]
theorem two_ref : ∀ (n : Nat) (A B : List Win), A.length + B.length ≤ n → srt A → srt B → twoM n A B = refM A B := by
  intro n
  induction n with
  | zero =>
    intro A B h _ _
    have : A = [] := List.eq_nil_of_length_eq_zero (by omega)
    rw [this]; rfl
  | succ n ih =>
    intro A B h hA hB
    cases A with
    | nil => simp [twoM, refM]
    | cons v A =>
      cases B with
      | nil => rw [refM_nil]; simp [twoM]
      | cons w B =>
        simp only [List.length_cons] at h
        have a1 := srt_all hA
        have b1 := srt_all hB
        have a0 := srt_head hA
        have b0 := srt_head hB
        by_cases hc : v.2 < w.2
        · rw [twoM]
          simp only [if_pos hc]
          rw [ih A (w :: B) (by simp; omega) (srt_tail hA) hB]
          have hn : one v B = [] := one_nil (fun x hx => by have := b1 x hx; omega)
          conv => rhs; rw [refM, one, hn]
        · rw [twoM]
          simp only [if_neg hc]
          rw [ih (v :: A) B (by simp; omega) hA (srt_tail hB)]
          have hs : refM A (w :: B) = refM A B := refM_skip (fun x hx => by have := a1 x hx; omega)
          conv => rhs; rw [refM, one, hs]
          rw [refM]
          split <;> simp
theorem one_len (v : Win) (B : List Win) : (one v B).length ≤ B.length := by
  induction B with
  | nil => simp [one]
  | cons w B ih =>
    unfold one
    split
    · simp; omega
    · simp; omega
theorem refM_len (A B : List Win) : (refM A B).length ≤ A.length * B.length := by
  induction A with
  | nil => simp [refM]
  | cons v A ih =>
    rw [refM]
    have := one_len v B
    simp only [List.length_append, List.length_cons, Nat.succ_mul]
    omega
theorem refM_step {v w : Win} {A B : List Win} (hA : srt (v :: A)) (hB : srt (w :: B)) : refM (v :: A) (w :: B) = (if ma2 v.1 w.1 < mi2 v.2 w.2 then [(ma2 v.1 w.1, mi2 v.2 w.2)] else []) ++ (if v.2 < w.2 then refM A (w :: B) else refM (v :: A) B) := by
  have a1 := srt_all hA
  have b1 := srt_all hB
  have a0 := srt_head hA
  have b0 := srt_head hB
  by_cases hc : v.2 < w.2
  · simp only [if_pos hc]
    have hn : one v B = [] := one_nil (fun x hx => by have := b1 x hx; omega)
    conv => lhs; rw [refM, one, hn]
  · simp only [if_neg hc]
    have hs : refM A (w :: B) = refM A B := refM_skip (fun x hx => by have := a1 x hx; omega)
    conv => lhs; rw [refM, one, hs]
    conv => rhs; rw [refM]
    split <;> simp
theorem refM_nil' (B : List Win) : refM [] B = [] := rfl
/-- What Meet gives, and its error. -/
def mtE (A B : List Win) : Int := if wcE A = 0 then (if wcE B = 0 then (if 1000 < (refM A B).length then 4 else 0) else wcE B) else wcE A
def mtW (A B : List Win) : List Win := if mtE A B = 0 then refM A B else []
/-- What Next gives, and its error. -/
def nxW (at_ len : Int) : List Win → Int × Int
  | [] => (0, 6)
  | w :: L => if ma2 w.1 at_ < w.2 then (if len ≤ w.2 - ma2 w.1 at_ then (ma2 w.1 at_, 0) else nxW at_ len L) else nxW at_ len L
def nxV (L : List Win) (at_ len : Int) : Int := if wcE L = 0 then (if len < 1 then 0 else (nxW at_ len L).1) else 0
def nxE (L : List Win) (at_ len : Int) : Int := if wcE L = 0 then (if len < 1 then 2 else (nxW at_ len L).2) else wcE L
/-- A difference of two numbers of 64 bits, as one without a sign. -/
theorem u64_sub {t s : Int} (h : s < t) (h1 : -9223372036854775808 ≤ s) (h2 : t ≤ 9223372036854775807) : (t % 18446744073709551616 - s % 18446744073709551616) % 18446744073709551616 = t - s := by omega
/-- The cells of windows. -/
def cellsW (L : List Win) : List Value := L.flatMap (fun v => [Value.int .i64 v.1, Value.int .i64 v.2])
theorem cellsW_app (L M : List Win) : cellsW (L ++ M) = cellsW L ++ cellsW M := by simp [cellsW]
theorem cellsW_len (L : List Win) : (cellsW L).length = L.length * 2 := by
  induction L with
  | nil => rfl
  | cons v L ih =>
    have : cellsW (v :: L) = [Value.int .i64 v.1, Value.int .i64 v.2] ++ cellsW L := rfl
    rw [this, List.length_append, ih]
    simp; omega
theorem cellsW_at (L : List Win) {k : Nat} (h : k < L.length) : (cellsW L)[k * 2]? = some (.int .i64 (fW L k)) ∧ (cellsW L)[k * 2 + 1]? = some (.int .i64 (tW L k)) := by
  induction L generalizing k with
  | nil => simp at h
  | cons v L ih =>
    have e : cellsW (v :: L) = Value.int .i64 v.1 :: Value.int .i64 v.2 :: cellsW L := rfl
    cases k with
    | zero => exact ⟨rfl, rfl⟩
    | succ k =>
      have := ih (k := k) (by simpa using h)
      rw [e, show (k + 1) * 2 = k * 2 + 1 + 1 by omega]
      exact this
/-- A slice value that holds windows. -/
def slW (w : World) (s : Option Addr) (n : Nat) (g o : Nat) (L : List Win) : Prop :=
  n = L.length ∧ (0 < n → s = some ⟨g, o, none⟩ ∧ g < w.heap.size) ∧ ∀ k, k < n → w.cell? ⟨g, o + k * 2, none⟩ = some (.int .i64 (fW L k)) ∧ w.cell? ⟨g, o + k * 2 + 1, none⟩ = some (.int .i64 (tW L k))
theorem slW_below {B : Nat} {w w' : World} {s : Option Addr} {n g o : Nat} {L : List Win} (h : slW w s n g o L) (hb : Below B w w') (hB : g < B) : slW w' s n g o L := by
  obtain ⟨h1, h2, h3⟩ := h
  refine ⟨h1, fun h0 => ⟨(h2 h0).1, Nat.lt_of_lt_of_le (h2 h0).2 hb.size⟩, fun k hk => ?_⟩
  rw [hb.cell (p := ⟨g, o + k * 2, none⟩) hB, hb.cell (p := ⟨g, o + k * 2 + 1, none⟩) hB]
  exact h3 k hk
theorem slW_up {w w' : World} {s : Option Addr} {n g o : Nat} {L : List Win} (h : slW w s n g o L) (hb : Below w.heap.size w w') : slW w' s n g o L := by
  obtain ⟨h1, h2, h3⟩ := h
  refine ⟨h1, fun h0 => ⟨(h2 h0).1, Nat.lt_of_lt_of_le (h2 h0).2 hb.size⟩, fun k hk => ?_⟩
  have hB : g < w.heap.size := (h2 (by omega)).2
  rw [hb.cell (p := ⟨g, o + k * 2, none⟩) hB, hb.cell (p := ⟨g, o + k * 2 + 1, none⟩) hB]
  exact h3 k hk
theorem slW_own {w : World} {B : Nat} {e : TypeId} {v : Value} {L : List Win} (h : w.ownsRow B e 2 v L.length (cellsW L)) : ∃ s cap g, v = .slice s L.length cap ∧ slW w s L.length g 0 L := by
  obtain ⟨hl, h⟩ := h
  rcases h with ⟨h1, hn⟩ | ⟨g, cap, cur, hv, h1, h2, h3, h4, h5⟩
  · refine ⟨none, 0, 0, by rw [hn, h1], rfl, fun h0 => by omega, fun k hk => by omega⟩
  · subst hv
    have hown : w.ownsRow B e 2 (.slice (some ⟨g, 0, none⟩) L.length cap) L.length (cellsW L) := ⟨hl, Or.inr ⟨g, cap, cur, rfl, h1, h2, h3, h4, h5⟩⟩
    refine ⟨_, cap, g, rfl, rfl, fun _ => ⟨rfl, (Array.getElem?_eq_some_iff.1 h2).1⟩, fun k hk => ?_⟩
    rw [Nat.zero_add, hown.cellAt (k * 2) (by omega), hown.cellAt (k * 2 + 1) (by omega)]
    exact cellsW_at L hk
theorem slW_tail {w : World} {g o n : Nat} {v : Win} {L : List Win} {s : Option Addr} (h : slW w s (n + 1) g o (v :: L)) : slW w (some ⟨g, o + 2, none⟩) n g (o + 2) L := by
  obtain ⟨h1, h2, h3⟩ := h
  refine ⟨by simpa using h1, fun h0 => ⟨rfl, (h2 (by omega)).2⟩, fun k hk => ?_⟩
  have := h3 (k + 1) (by omega)
  rw [show o + (k + 1) * 2 = o + 2 + k * 2 by omega] at this
  exact this
theorem slW_any {w : World} {g o n : Nat} {L : List Win} {s s' : Option Addr} (h : slW w s n g o L) (hn : n = 0) : slW w s' n g o L := by
  obtain ⟨h1, h2, h3⟩ := h
  exact ⟨h1, fun h0 => by omega, h3⟩
theorem slW_head {w : World} {g o n : Nat} {v : Win} {L : List Win} {s : Option Addr} (h : slW w s (n + 1) g o (v :: L)) : s = some ⟨g, o, none⟩ ∧ g < w.heap.size ∧ w.cell? ⟨g, o, none⟩ = some (.int .i64 v.1) ∧ w.cell? ⟨g, o + 1, none⟩ = some (.int .i64 v.2) := by
  obtain ⟨h1, h2, h3⟩ := h
  have := h3 0 (by omega)
  rw [Nat.zero_mul, Nat.add_zero] at this
  exact ⟨(h2 (by omega)).1, (h2 (by omega)).2, this.1, this.2⟩
end Go.Proofs.Ytcigjdadahlgnaa
