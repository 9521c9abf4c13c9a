/- What is exported of runs, in the program. -/
import Derived.Test.YtljcnmaecnbdoahMaH
namespace Go.Proofs.Ytljcnmaecnbdoah
open Go.RowKit

def M.aft (m : M.Mc) (s : Int × Int) (n : Int) : Int × Int := if M.runOk m s n = true then m.rn s n.toNat else (0, 0)
theorem M.aft_in {m : M.Mc} {s : Int × Int} {n : Int} (h : M.runOk m s n = true) : M.aft m s n = m.rn s n.toNat := if_pos h
theorem M.aft_out {m : M.Mc} {s : Int × Int} {n : Int} (h : M.runOk m s n = false) : M.aft m s n = (0, 0) := if_neg (by rw [h]; decide)
def M.runv (m : M.Mc) (s : Int × Int) (n : Int) : List (Int × Int) := if M.runOk m s n = true then m.run s n.toNat else []
theorem M.runv_in {m : M.Mc} {s : Int × Int} {n : Int} (h : M.runOk m s n = true) : M.runv m s n = m.run s n.toNat := if_pos h
theorem M.runv_out {m : M.Mc} {s : Int × Int} {n : Int} (h : M.runOk m s n = false) : M.runv m s n = [] := if_neg (by rw [h]; decide)
theorem ownsQ_none (t : TypeId) (w : World) (base : Nat) : OwnsQ t w base none 0 0 [] := ⟨rfl, rfl, .inl ⟨rfl, rfl⟩⟩
theorem len0 {m : M.Mc} {s : Int × Int} {n : Int} (h : M.runOk m s n = true) : (M.runv m s n).length = n.toNat + 1 := by rw [M.runv_in h, M.run_len]
theorem implMachineOk_any (m : M.Mc) (w : World) : Calls Try.prog 23 #[mcv m] w fun e w' => e = .returned (.bool m.ok) ∧ Below w.heap.size w w' := by
  have C1 := stepperOf_any m
  generalize m.ok = o at C1 ⊢
  obtain ⟨⟨a, b, c, d, f, k⟩, ⟨a', b', c', d', f', k'⟩⟩ := m
  dsimp only [mcv] at C1 ⊢
  go_enter Try.func23, Try.ntmps23
  go_wp2_with fail
  refine (C1 _).mono ?_
  rintro e w1 ⟨m', rfl, -, hb1⟩
  have HB1 : Hid (Below w.heap.size w w1) := ((Below.refl _ _).alloc (Nat.le_refl _) _).trans (hb1.mono (by simp))
  clear hb1
  go_wp2
  go_ret
  exact ⟨rfl, HB1.out⟩
theorem implStateOk_any (s : Int × Int) (w : World) : Calls Try.prog 26 #[stv s] w fun e w' => e = .returned (.bool (M.sOk s)) ∧ Below w.heap.size w w' := by
  have C1 := statePair_any s
  generalize M.sOk s = o at C1 ⊢
  obtain ⟨x, y⟩ := s
  dsimp only [stv] at C1 ⊢
  go_enter Try.func26, Try.ntmps26
  go_wp2_with fail
  refine (C1 _).mono ?_
  rintro e w1 ⟨⟨p, q⟩, rfl, -, -, hb1⟩
  have HB1 : Hid (Below w.heap.size w w1) := ((Below.refl _ _).alloc (Nat.le_refl _) _).trans (hb1.mono (by simp))
  clear hb1
  go_wp2
  go_ret
  exact ⟨rfl, by first | exact HB1.out | exact HB1.out.alloc HB1.out.size _⟩
end Go.Proofs.Ytljcnmaecnbdoah
