/-
  Package frac: the order of two wide numbers.
-/
import Derived.Test.YtdolfdmgdknboaaFe
namespace Go.Proofs.Ytdolfdmgdknboaa
open Go.RowKit
set_option linter.unusedVariables false

def ordI (n : Bool) (q : Int) : Int := if q = 0 then 0 else if n then -1 else 1

set_option maxHeartbeats 800000 in
theorem order_core (n n2 n3 : Bool) (m m2 q : Int) (h0 : 0 ≤ q) (h1 : q < 340282366920938463463374607431768211456)
    (hp : ∀ w, Calls Try.prog 132 #[.agg #[.bool n, .int .u64 (hiI m), .int .u64 (loI m)], .agg #[.bool (!n2), .int .u64 (hiI m2), .int .u64 (loI m2)]] w fun e w' => e = .returned (.agg #[.bool n3, .int .u64 (hiI q), .int .u64 (loI q)]) ∧ Below w.heap.size w w') (w : World) :
    Calls Try.prog 128 #[.agg #[.bool n, .int .u64 (hiI m), .int .u64 (loI m)], .agg #[.bool n2, .int .u64 (hiI m2), .int .u64 (loI m2)]] w fun e w' => e = .returned (.int .i64 (ordI n3 q)) ∧ Below w.heap.size w w' := by
  have hz := or_zero q h0 h1
  by_cases hq : q = 0
  · have e1 : ordI n3 q = 0 := by rw [ordI, if_pos hq]
    have e2 : (bits .or .u64 (hiI q) (loI q) == 0) = true := by rw [hz]; simp [hq]
    have E1 := Lib.hid e1
    clear e1 hz hq
    go_enter Try.func128, Try.ntmps128
    go_wp2_with fail
    refine (hp _).mono ?_
    rintro e w1 ⟨rfl, hb⟩
    obtain ⟨hc, hf⟩ := bcell hb
    go_wp2
    go_ret
    exact ⟨ret_i64 E1.out.symm, bal (bt (bal (bal (b0 _) _) _) hb) _⟩
  · have e2 : (bits .or .u64 (hiI q) (loI q) == 0) = false := by rw [hz]; simp [hq]
    cases n3
    · have e1 : ordI false q = 1 := by rw [ordI, if_neg hq]; rfl
      have E1 := Lib.hid e1
      clear e1 hz hq
      go_enter Try.func128, Try.ntmps128
      go_wp2_with fail
      refine (hp _).mono ?_
      rintro e w1 ⟨rfl, hb⟩
      obtain ⟨hc, hf⟩ := bcell hb
      go_wp2
      go_ret
      exact ⟨ret_i64 E1.out.symm, bal (bt (bal (bal (b0 _) _) _) hb) _⟩
    · have e1 : ordI true q = -1 := by rw [ordI, if_neg hq]; rfl
      have E1 := Lib.hid e1
      clear e1 hz hq
      go_enter Try.func128, Try.ntmps128
      go_wp2_with fail
      refine (hp _).mono ?_
      rintro e w1 ⟨rfl, hb⟩
      obtain ⟨hc, hf⟩ := bcell hb
      go_wp2
      go_ret
      exact ⟨ret_i64 E1.out.symm, bal (bt (bal (bal (b0 _) _) _) hb) _⟩

theorem ord_cmp (n n2 : Bool) (m m2 : Int) (h0 : 0 ≤ m) (i0 : 0 ≤ m2) : ordI (plN n m (!n2) m2) (plM n m (!n2) m2) = cmpI (sv n m) (sv n2 m2) := by
  have h := sv_pl n (!n2) m m2
  have b := plM_bd n (!n2) m m2 h0 i0
  have e : sv (!n2) m2 = - sv n2 m2 := by unfold sv; cases n2 <;> simp
  rw [e] at h
  generalize plN n m (!n2) m2 = p at *
  generalize plM n m (!n2) m2 = q at *
  generalize sv n m = A at *
  generalize sv n2 m2 = B at *
  unfold ordI cmpI
  unfold sv at h
  cases p <;> simp at h ⊢ <;> split <;> (try split) <;> (try split) <;> (try simp) <;> omega

theorem frac_order (n n2 : Bool) (m m2 : Int) (h0 : 0 ≤ m) (i0 : 0 ≤ m2) (hs : m + m2 < 340282366920938463463374607431768211456) (w : World) :
    Calls Try.prog 128 #[.agg #[.bool n, .int .u64 (hiI m), .int .u64 (loI m)], .agg #[.bool n2, .int .u64 (hiI m2), .int .u64 (loI m2)]] w fun e w' => e = .returned (.int .i64 (cmpI (sv n m) (sv n2 m2))) ∧ Below w.heap.size w w' := by
  have b := plM_bd n (!n2) m m2 h0 i0
  rw [← ord_cmp n n2 m m2 h0 i0]
  exact order_core n n2 _ m m2 _ b.1 (by omega) (fun w => frac_plus n (!n2) m m2 h0 i0 hs w) w
end Go.Proofs.Ytdolfdmgdknboaa
