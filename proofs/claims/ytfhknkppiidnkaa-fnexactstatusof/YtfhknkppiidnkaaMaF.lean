/- Runs, in the program. Runs whose machine, state and number are checked, in the program. The states of a run, in the program. What is exported of runs, in the program. -/
import Derived.Test.YtfhknkppiidnkaaMaD
import Derived.Test.YtfhknkppiidnkaaMaP
import Derived.Test.YtfhknkppiidnkaaSlD
namespace Go.Proofs.Ytfhknkppiidnkaa
open Go.RowKit

theorem wrap_smallm {x : Int} (h0 : 0 ≤ x) (h1 : x < 9223372036854775808) : IntKind.i64.wrap x = x := by
  unfold IntKind.wrap
  have e : x % 2 ^ IntKind.i64.bits = x := Int.emod_eq_of_lt h0 (by show x < 18446744073709551616; omega)
  simp only [e]
  rw [if_neg]
  rw [Bool.and_eq_true, decide_eq_true_iff]
  rintro ⟨_, h⟩
  have h' : x ≥ 9223372036854775808 := h
  omega
end Go.Proofs.Ytfhknkppiidnkaa
namespace Go.Proofs.Ytfhknkppiidnkaa
open Go.RowKit

def M.runOk (m : M.Mc) (s : Int × Int) (n : Int) : Bool := m.ok && (M.sOk s && (decide (0 ≤ n) && decide (n ≤ 1000)))
theorem M.runOk_parts {m : M.Mc} {s : Int × Int} {n : Int} (h : M.runOk m s n = true) : m.ok = true ∧ M.sOk s = true ∧ 0 ≤ n ∧ n ≤ 1000 := by
  unfold M.runOk at h; simpa using h
theorem M.runOk_mk {m : M.Mc} {s : Int × Int} {n : Int} (h1 : m.ok = true) (h2 : M.sOk s = true) (h3 : 0 ≤ n) (h4 : n ≤ 1000) : M.runOk m s n = true := by
  unfold M.runOk; rw [h1, h2, decide_eq_true h3, decide_eq_true h4]; rfl
theorem M.runOk_no {m : M.Mc} {s : Int × Int} {n : Int} (h : M.runOk m s n = false) : m.ok = false ∨ (m.ok = true ∧ M.sOk s = false) ∨ (m.ok = true ∧ M.sOk s = true ∧ n < 0) ∨ (m.ok = true ∧ M.sOk s = true ∧ ¬ n < 0 ∧ 1000 < n) := by
  cases h1 : m.ok with
  | false => exact .inl rfl
  | true =>
    cases h2 : M.sOk s with
    | false => exact .inr (.inl ⟨rfl, rfl⟩)
    | true =>
      by_cases h3 : n < 0
      · exact .inr (.inr (.inl ⟨rfl, rfl, h3⟩))
      · by_cases h4 : 1000 < n
        · exact .inr (.inr (.inr ⟨rfl, rfl, h3, h4⟩))
        · rw [M.runOk_mk h1 h2 (by omega) (by omega)] at h; cases h
end Go.Proofs.Ytfhknkppiidnkaa
namespace Go.Proofs.Ytfhknkppiidnkaa
open Go.RowKit

end Go.Proofs.Ytfhknkppiidnkaa
namespace Go.Proofs.Ytfhknkppiidnkaa
open Go.RowKit

def M.aft (m : M.Mc) (s : Int × Int) (n : Int) : Int × Int := if M.runOk m s n = true then m.rn s n.toNat else (0, 0)
theorem M.aft_in {m : M.Mc} {s : Int × Int} {n : Int} (h : M.runOk m s n = true) : M.aft m s n = m.rn s n.toNat := if_pos h
theorem M.aft_out {m : M.Mc} {s : Int × Int} {n : Int} (h : M.runOk m s n = false) : M.aft m s n = (0, 0) := if_neg (by rw [h]; decide)
def M.runv (m : M.Mc) (s : Int × Int) (n : Int) : List (Int × Int) := if M.runOk m s n = true then m.run s n.toNat else []
theorem M.runv_in {m : M.Mc} {s : Int × Int} {n : Int} (h : M.runOk m s n = true) : M.runv m s n = m.run s n.toNat := if_pos h
theorem M.runv_out {m : M.Mc} {s : Int × Int} {n : Int} (h : M.runOk m s n = false) : M.runv m s n = [] := if_neg (by rw [h]; decide)
theorem ownsQ_none (t : TypeId) (w : World) (base : Nat) : OwnsQ t w base none 0 0 [] := ⟨rfl, rfl, .inl ⟨rfl, rfl⟩⟩
theorem len0 {m : M.Mc} {s : Int × Int} {n : Int} (h : M.runOk m s n = true) : (M.runv m s n).length = n.toNat + 1 := by rw [M.runv_in h, M.run_len]
theorem implMachineOk_any (m : M.Mc) (w : World) : Calls Try.prog 53 #[mcv m] w fun e w' => e = .returned (.bool m.ok) ∧ Below w.heap.size w w' := by
  have C1 := stepperOf_any m
  generalize m.ok = o at C1 ⊢
  obtain ⟨⟨a, b, c, d, f, k⟩, ⟨a', b', c', d', f', k'⟩⟩ := m
  dsimp only [mcv] at C1 ⊢
  go_enter Try.func53, Try.ntmps53
  go_wp2_with fail
  refine (C1 _).mono ?_
  rintro e w1 ⟨m', rfl, -, hb1⟩
  have HB1 : Hid (Below w.heap.size w w1) := ((Below.refl _ _).alloc (Nat.le_refl _) _).trans (hb1.mono (by simp))
  clear hb1
  go_wp2
  go_ret
  exact ⟨rfl, HB1.out⟩
theorem implStateOk_any (s : Int × Int) (w : World) : Calls Try.prog 54 #[stv s] w fun e w' => e = .returned (.bool (M.sOk s)) ∧ Below w.heap.size w w' := by
  have C1 := statePair_any s
  generalize M.sOk s = o at C1 ⊢
  obtain ⟨x, y⟩ := s
  dsimp only [stv] at C1 ⊢
  go_enter Try.func54, Try.ntmps54
  go_wp2_with fail
  refine (C1 _).mono ?_
  rintro e w1 ⟨⟨p, q⟩, rfl, -, -, hb1⟩
  have HB1 : Hid (Below w.heap.size w w1) := ((Below.refl _ _).alloc (Nat.le_refl _) _).trans (hb1.mono (by simp))
  clear hb1
  go_wp2
  go_ret
  exact ⟨rfl, by first | exact HB1.out | exact HB1.out.alloc HB1.out.size _⟩
end Go.Proofs.Ytfhknkppiidnkaa
