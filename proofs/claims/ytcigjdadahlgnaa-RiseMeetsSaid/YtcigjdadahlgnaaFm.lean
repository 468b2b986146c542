/-
  Plain numbers: the words in which the contracts of package frac and of its reference are stated (no program is mentioned here).
-/
import Derived.RowKit
import Derived.Below
import Derived.WalkKit
import Derived.Deep.Draws
namespace Go.Proofs.Ytcigjdadahlgnaa

def gcdI (a b : Int) : Int := (Nat.gcd a.natAbs b.natAbs : Nat)
def absI (a : Int) : Int := (a.natAbs : Nat)
def okF (n d : Int) : Bool := decide (1 ≤ d ∧ d ≤ 1000000000000000000 ∧ -1000000000000000000 ≤ n ∧ n ≤ 1000000000000000000 ∧ gcdI n d = 1)
def chkI (n d : Int) : Int := if okF n d = true then 0 else 8
def chk2 (n d n2 d2 : Int) : Int := if okF n d = true then chkI n2 d2 else 8
def sgB (x y : Int) : Bool := decide (x < 0) != decide (y < 0)
def hiI (m : Int) : Int := m / 18446744073709551616
def loI (m : Int) : Int := m % 18446744073709551616
def fitB (m : Int) : Bool := decide (m ≤ 1000000000000000000)
def plN (n1 : Bool) (m1 : Int) (n2 : Bool) (m2 : Int) : Bool := if n1 = n2 then n1 else if m1 < m2 then n2 else n1
def plM (n1 : Bool) (m1 : Int) (n2 : Bool) (m2 : Int) : Int := if n1 = n2 then m1 + m2 else if m1 < m2 then m2 - m1 else m1 - m2
def flN (n d : Int) : Int := if n < 0 then -d else d
def bigB (m m2 : Int) : Bool := decide (m2 < m)
def cmpI (a b : Int) : Int := if a < b then -1 else if a = b then 0 else 1
/-- The signed number of a sign and an absolute value. -/
def sv (n : Bool) (m : Int) : Int := if n then -m else m

def bdN (n : Bool) (m m2 : Int) : Int := if m ≤ 1000000000000000000 ∧ m2 ≤ 1000000000000000000 then sv n m else 0
def bdD (n2 : Bool) (m m2 : Int) : Int := if m ≤ 1000000000000000000 ∧ m2 ≤ 1000000000000000000 then sv n2 m2 else 0
def bdE (m m2 : Int) : Int := if m ≤ 1000000000000000000 ∧ m2 ≤ 1000000000000000000 then 0 else 16
def dg0 (m : Int) : Int := m % 4294967296
def dg1 (m : Int) : Int := m / 4294967296 % 4294967296
def dg2 (m : Int) : Int := m / 18446744073709551616 % 4294967296
def dg3 (m : Int) : Int := m / 79228162514264337593543950336 % 4294967296
theorem dg_bd (m : Int) : 0 ≤ dg0 m ∧ dg0 m < 4294967296 ∧ 0 ≤ dg1 m ∧ dg1 m < 4294967296 ∧ 0 ≤ dg2 m ∧ dg2 m < 4294967296 ∧ 0 ≤ dg3 m ∧ dg3 m < 4294967296 := by
  unfold dg0 dg1 dg2 dg3; omega
theorem dg_sum (m : Int) (h0 : 0 ≤ m) (h1 : m < 340282366920938463463374607431768211456) : m = dg0 m + dg1 m * 4294967296 + dg2 m * 18446744073709551616 + dg3 m * 79228162514264337593543950336 := by
  unfold dg0 dg1 dg2 dg3; omega
/-- Four digits that make up a number are its digits. -/
theorem dg_of (m a b c d : Int) (a0 : 0 ≤ a) (a1 : a < 4294967296) (b0 : 0 ≤ b) (b1 : b < 4294967296) (c0 : 0 ≤ c) (c1 : c < 4294967296) (d0 : 0 ≤ d) (d1 : d < 4294967296)
    (h : m = a + b * 4294967296 + c * 18446744073709551616 + d * 79228162514264337593543950336) : a = dg0 m ∧ b = dg1 m ∧ c = dg2 m ∧ d = dg3 m := by
  unfold dg0 dg1 dg2 dg3; omega
theorem quo_pos (n d : Int) (hn : 0 ≤ n) : n.tdiv d = n / d ∧ n.tmod d = n % d := ⟨Int.tdiv_eq_ediv_of_nonneg hn, Int.tmod_eq_emod_of_nonneg hn⟩
/-- Go's quotient and remainder of a negative number by a positive one. -/
theorem quo_neg (n d : Int) (hn : n < 0) (hd : 0 < d) : (n % d = 0 ∧ n.tdiv d = n / d ∧ n.tmod d = 0) ∨ (0 < n % d ∧ n.tdiv d = n / d + 1 ∧ n.tmod d = n % d - d) := by
  have h1 := Int.tdiv_eq_ediv (a := n) (b := d)
  have h2 := Int.tmod_eq_emod (a := n) (b := d)
  have h3 := Int.emod_nonneg n (show d ≠ 0 by omega)
  have h4 : d.sign = 1 := Int.sign_eq_one_of_pos hd
  by_cases h : d ∣ n
  · left
    have h5 := Int.emod_eq_zero_of_dvd h
    rw [if_pos (Or.inr h)] at h1 h2
    omega
  · right
    have h5 : n % d ≠ 0 := fun e => h (Int.dvd_of_emod_eq_zero e)
    rw [if_neg (by intro hh; rcases hh with hh | hh; · omega
                   · exact h hh)] at h1 h2
    rw [h4] at h1
    omega
theorem ediv_ge_self (n d : Int) (hn : n ≤ 0) (hd : 1 ≤ d) : n ≤ n / d := by
  refine Int.le_ediv_of_mul_le (by omega) ?_
  have := Int.mul_le_mul_of_nonpos_left hn hd
  omega
theorem gcdI_abs (n d : Int) : gcdI (absI n) d = gcdI n d := by unfold gcdI absI; rw [Int.natAbs_natCast]
theorem gcdI_abs_right (n d : Int) : gcdI n (absI d) = gcdI n d := by unfold gcdI absI; rw [Int.natAbs_natCast]
theorem absI_bd (n : Int) (h0 : -9223372036854775808 ≤ n) (h1 : n ≤ 9223372036854775807) : 0 ≤ absI n ∧ absI n ≤ 9223372036854775808 := by unfold absI; omega
theorem absI_le (n : Int) (h0 : -1000000000000000000 ≤ n) (h1 : n ≤ 1000000000000000000) : absI n ≤ 1000000000000000000 := by unfold absI; omega
theorem absI_nn (n : Int) : 0 ≤ absI n := by unfold absI; omega
theorem gcdI_nn (a b : Int) : 0 ≤ gcdI a b := by unfold gcdI; omega
theorem gcdI_pos (a b : Int) (h : 0 < b) : 0 < gcdI a b := by
  unfold gcdI
  have := Nat.gcd_pos_of_pos_right a.natAbs (show 0 < b.natAbs by omega)
  omega
theorem gcdI_le (a b : Int) (h : 0 < b) : gcdI a b ≤ b := by
  unfold gcdI
  have := Nat.gcd_le_right a.natAbs (show 0 < b.natAbs by omega)
  omega
theorem gcdI_dvd_left (a b : Int) : gcdI a b ∣ a := by
  unfold gcdI; exact Int.gcd_dvd_left ..
theorem gcdI_dvd_right (a b : Int) : gcdI a b ∣ b := by
  unfold gcdI; exact Int.gcd_dvd_right ..
theorem gcdI_comm (a b : Int) : gcdI a b = gcdI b a := by unfold gcdI; rw [Nat.gcd_comm]
theorem hl_bd (m : Int) (h0 : 0 ≤ m) (h1 : m < 340282366920938463463374607431768211456) : 0 ≤ hiI m ∧ hiI m < 18446744073709551616 ∧ 0 ≤ loI m ∧ loI m < 18446744073709551616 := by
  unfold hiI loI; omega
theorem mul_bd (a b A B : Int) (ha : 0 ≤ a) (hA : a ≤ A) (hb : 0 ≤ b) (hB : b ≤ B) : 0 ≤ a * b ∧ a * b ≤ A * B :=
  ⟨Int.mul_nonneg ha hb, Int.mul_le_mul hA hB hb (Int.le_trans ha hA)⟩
open Go.RowKit in
theorem bt {a b c : Go.World} (h : Below a.heap.size a b) (k : Below b.heap.size b c) : Below a.heap.size a c := h.trans (k.mono h.size)
open Go.RowKit in
theorem bal {a b : Go.World} (h : Below a.heap.size a b) (o : Go.Obj) : Below a.heap.size a (b.alloc o) := h.alloc h.size o
open Go.RowKit in
theorem bset {a b : Go.World} (h : Below a.heap.size a b) {p : Go.Addr} (hp : a.heap.size ≤ p.block) (u : Go.Value) : Below a.heap.size a (b.setCell p u) := h.setCell hp u
open Go.RowKit in
theorem b0 (a : Go.World) : Below a.heap.size a a := Below.refl _ _
/-- The world with new blocks behind the old ones, and some count of draws. -/
def ext (w : Go.World) (l : List Go.Obj) (d : Nat) : Go.World := { w with heap := w.heap ++ l.toArray, drawn := d }
theorem ext_cell (w : Go.World) (l : List Go.Obj) (d : Nat) (b o : Nat) (h : b < w.heap.size) : (ext w l d).cell? ⟨b, o, none⟩ = w.cell? ⟨b, o, none⟩ := by
  unfold ext Go.World.cell?
  simp only [Array.getElem?_append_left h]
theorem ext_frozen (w : Go.World) (l : List Go.Obj) (d : Nat) (b o : Nat) (h : b < w.heap.size) : (ext w l d).frozen? ⟨b, o, none⟩ = w.frozen? ⟨b, o, none⟩ := by
  unfold ext Go.World.frozen?
  simp only [Array.getElem?_append_left h]
theorem ext_size (w : Go.World) (l : List Go.Obj) (d : Nat) : (ext w l d).heap.size = w.heap.size + l.length := by simp [ext]
theorem ext_drewN (w : Go.World) (l : List Go.Obj) (d n : Nat) : (ext w l d).drewN n = ext w l (d + n) := rfl
theorem ext_drew (w : Go.World) (l : List Go.Obj) (d : Nat) : (ext w l d).drew = ext w l (d + 1) := rfl
theorem ext_set (w : Go.World) (l : List Go.Obj) (d : Nat) (b o : Nat) (v : Go.Value) (h : b < w.heap.size) : (ext w l d).setCell ⟨b, o, none⟩ v = ext (w.setCell ⟨b, o, none⟩ v) l d := by
  unfold ext Go.World.setCell
  simp only [Go.World.mk.injEq, and_true]
  apply Array.ext
  · simp
  · intro i h1 h2
    simp only [Array.getElem_modify, Array.getElem_append]
    split <;> split <;> split <;> simp_all <;> omega
theorem ext_lt (w : Go.World) (l : List Go.Obj) (d b : Nat) (h : b < w.heap.size) : b < (ext w l d).heap.size := by rw [ext_size]; omega
theorem ext_ne (w : Go.World) (l : List Go.Obj) (d b : Nat) (h : b < w.heap.size) : (b = (ext w l d).heap.size) = False := by rw [ext_size]; simp; omega
theorem ext_nr (w : Go.World) (l : List Go.Obj) (d b : Nat) (h : b < w.heap.size) : ((ext w l d).heap.size = b) = False := by rw [ext_size]; simp; omega
theorem ext_ext (w : Go.World) (l m : List Go.Obj) (d e : Nat) : ext (ext w l d) m e = ext w (l ++ m) e := by
  simp [ext, Array.append_assoc]
theorem ext_lt1 (w : Go.World) (l : List Go.Obj) (d b : Nat) (h : b < w.heap.size) : b < (ext w l d).heap.size + 1 := by rw [ext_size]; omega
theorem ext_lt2 (w : Go.World) (l : List Go.Obj) (d b : Nat) (h : b < w.heap.size) : b < (ext w l d).heap.size + 1 + 1 := by rw [ext_size]; omega
theorem ext_lt3 (w : Go.World) (l : List Go.Obj) (d b : Nat) (h : b < w.heap.size) : b < (ext w l d).heap.size + 1 + 1 + 1 := by rw [ext_size]; omega
theorem ext_le0 (w : Go.World) (l : List Go.Obj) (d b : Nat) (h : b < w.heap.size) : b ≤ (ext w l d).heap.size := by rw [ext_size]; omega
theorem ext_le1 (w : Go.World) (l : List Go.Obj) (d b : Nat) (h : b < w.heap.size) : b ≤ (ext w l d).heap.size + 1 := by rw [ext_size]; omega
theorem ext_le2 (w : Go.World) (l : List Go.Obj) (d b : Nat) (h : b < w.heap.size) : b ≤ (ext w l d).heap.size + 1 + 1 := by rw [ext_size]; omega
open Go.RowKit in
theorem toExt {w w' : Go.World} (h : Below w.heap.size w w') : ∃ (l : List Go.Obj) (d : Nat), w' = ext w l d := by
  refine ⟨w'.heap.toList.drop w.heap.size, w'.drawn, ?_⟩
  obtain ⟨h1, h2, h3, h4, h5⟩ := h
  cases w' with
  | mk heap tape drawn os output =>
  simp only [ext] at *
  subst h1; subst h2; subst h3
  simp only [Go.World.mk.injEq, and_true]
  apply Array.ext
  · simp; omega
  · intro i a b
    by_cases hi : i < w.heap.size
    · have := h5 i hi
      rw [Array.getElem?_eq_getElem a, Array.getElem?_eq_getElem hi] at this
      rw [Array.getElem_append_left hi]
      exact Option.some.inj this
    · rw [Array.getElem_append_right (by omega)]
      simp
      congr 1
      omega
open Go.RowKit in
theorem bext {a b : Go.World} (h : Below a.heap.size a b) (l : List Go.Obj) (d : Nat) : Below a.heap.size a (ext b l d) :=
  h.trans ⟨rfl, rfl, rfl, by simp [ext], fun k hk => by
    have := h.size
    simp only [ext]
    rw [Array.getElem?_append_left (by omega)]⟩
theorem ltk2 (n : Nat) : n < n + 1 + 1 := by omega
theorem ltk3 (n : Nat) : n < n + 1 + 1 + 1 := by omega
theorem ltk4 (n : Nat) : n < n + 1 + 1 + 1 + 1 := by omega
theorem ltk5 (n : Nat) : n < n + 1 + 1 + 1 + 1 + 1 := by omega
theorem ltk6 (n : Nat) : n < n + 1 + 1 + 1 + 1 + 1 + 1 := by omega
theorem ltk7 (n : Nat) : n < n + 1 + 1 + 1 + 1 + 1 + 1 + 1 := by omega
theorem ltk8 (n : Nat) : n < n + 1 + 1 + 1 + 1 + 1 + 1 + 1 + 1 := by omega
theorem ltk9 (n : Nat) : n < n + 1 + 1 + 1 + 1 + 1 + 1 + 1 + 1 + 1 := by omega
/-- Draws stand outermost: handed to a walk as rules. -/
theorem dAl (w : Go.World) (n : Nat) (o : Go.Obj) : (w.drewN n).alloc o = (w.alloc o).drewN n := rfl
theorem dSt (w : Go.World) (n : Nat) (a : Go.Addr) (v : Go.Value) : (w.drewN n).setCell a v = (w.setCell a v).drewN n := rfl
/-- What lay below stays as it was: in the form in which a walk uses it. -/
theorem bcell {W w1 : World} (hb : Go.RowKit.Below W.heap.size W w1) : (∀ b o, b < W.heap.size → w1.cell? ⟨b, o, none⟩ = W.cell? ⟨b, o, none⟩) ∧ (∀ b o, b < W.heap.size → w1.frozen? ⟨b, o, none⟩ = W.frozen? ⟨b, o, none⟩) :=
  ⟨fun b o h => hb.cell (p := ⟨b, o, none⟩) h, fun b o h => hb.frozen (p := ⟨b, o, none⟩) h⟩
open Go in
/-- A call that only draws, behind a region that has drawn already. -/
theorem qAdd {P : Program} {f : FuncId} {args : Array Value} {W : World} {i j : Nat} {r : Value}
    (c : Calls P f args (W.drewN (i + j)) fun e u => e = .returned r ∧ ∃ k, u = (W.drewN (i + j)).drewN k) :
    Calls P f args (W.drewN (i + j)) fun e u => e = .returned r ∧ ∃ k, u = W.drewN (i + k) := by
  refine c.mono ?_
  rintro e u ⟨h, k, rfl⟩
  exact ⟨h, j + k, by rw [World.drewN_drewN, Nat.add_assoc]⟩
open Go in
theorem qSame {P : Program} {f : FuncId} {args : Array Value} {W : World} {i j : Nat} {r : Value}
    (c : Calls P f args (W.drewN (i + j)) fun e u => e = .returned r ∧ u = W.drewN (i + j)) :
    Calls P f args (W.drewN (i + j)) fun e u => e = .returned r ∧ ∃ k, u = W.drewN (i + k) := by
  refine c.mono ?_
  rintro e u ⟨h, rfl⟩
  exact ⟨h, j, rfl⟩
end Go.Proofs.Ytcigjdadahlgnaa
