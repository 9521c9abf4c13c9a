/- Whether states are a run: what is exported of it, in the program. -/
import Derived.Test.YtjeoenieoejolaiMaJ
namespace Go.Proofs.Ytjeoenieoejolai
open Go.RowKit

theorem M.traceOk_no {m : M.Mc} {ps : List (Int × Int)} (h : m.ok = false ∨ ps.length < 1 ∨ 1001 < ps.length) : M.traceOk m ps = false := by
  unfold M.traceOk
  rcases h with h | h | h
  · rw [h]; rfl
  · rw [decide_eq_false (show ¬ 1 ≤ ps.length by omega)]; simp
  · rw [decide_eq_false (show ¬ ps.length ≤ 1001 by omega)]; simp
theorem M.traceOk_yes {m : M.Mc} {ps : List (Int × Int)} (h1 : m.ok = true) (h2 : 1 ≤ ps.length) (h3 : ps.length ≤ 1001) : M.traceOk m ps = M.trOk m ps := by
  unfold M.traceOk; rw [h1, decide_eq_true h2, decide_eq_true h3]; simp
set_option maxHeartbeats 2000000 in
theorem implTraceOk_any {la : Option Addr} {n lc : Nat} {ps : List (Int × Int)} (m : M.Mc) (w : World) (hz : SeesQ w la n lc ps) :
    Calls Try.prog 23 #[mcv m, .slice la n lc] w fun e w' => e = .returned (.bool (M.traceOk m ps)) ∧ Below w.heap.size w w' := by
  have HZ : Hid (SeesQ w la n lc ps) := hz
  have hnb : (n : Int) ≤ 9223372036854775807 := by have := hz.big; have := hz.le; omega
  have hlen := hz.len
  have C1 := stepperOf_any m
  have CR : Hid (∀ w2, m.ok = true → 0 < n → SeesQ w2 la n lc ps → Calls Try.prog 38 #[.iface 108 (mcv m), .slice la n lc] w2 fun e w' => e = .returned (.bool (M.trOk m ps)) ∧ Below w2.heap.size w2 w') := fun w2 h1 h2 h3 => isRun_any m w2 h1 h3 h2
  by_cases hok : m.ok = true ∧ 1 ≤ n ∧ n ≤ 1001
  · obtain ⟨h1, h2, h3⟩ := hok
    rw [M.traceOk_yes h1 (by omega) (by omega)]
    have CR1 : Hid (∀ w2, SeesQ w2 la n lc ps → Calls Try.prog 38 #[.iface 108 (mcv m), .slice la n lc] w2 fun e w' => e = .returned (.bool (M.trOk m ps)) ∧ Below w2.heap.size w2 w') := fun w2 hs => CR.out w2 h1 (by omega) hs
    rw [h1] at C1
    generalize M.trOk m ps = o at CR1 ⊢
    clear CR hz hlen h1
    obtain ⟨⟨a, b, c, d, f, k⟩, ⟨a', b', c', d', f', k'⟩⟩ := m
    dsimp only [mcv] at C1 CR1 ⊢
    have i1 : ¬ (n : Int) < 1 := by omega
    have i2 : ¬ 1001 < (n : Int) := by omega
    go_enter Try.func23, Try.ntmps23
    go_wp2_with fail
    refine (C1 _).mono ?_
    rintro e w1 ⟨m', rfl, hE, hb1⟩
    have HB1 : Hid (Below w.heap.size w w1) := ((Below.refl _ _).alloc (Nat.le_refl _) _).trans (hb1.mono (by simp))
    obtain rfl := hE trivial
    clear hb1 hE
    dsimp only [mcv]
    go_wp2_with fail
    refine (CR1.out _ (HZ.out.below HB1.out)).mono ?_
    rintro e w2 ⟨rfl, hb2⟩
    have HB2 : Hid (Below w.heap.size w w2) := HB1.out.trans (hb2.mono HB1.out.size)
    clear hb2
    go_wp2
    go_ret
    exact ⟨rfl, HB2.out⟩
  · have hno : m.ok = false ∨ (m.ok = true ∧ n < 1) ∨ (m.ok = true ∧ 1 ≤ n ∧ 1001 < n) := by
      cases h : m.ok with
      | false => exact .inl rfl
      | true =>
        by_cases h1 : n < 1
        · exact .inr (.inl ⟨rfl, h1⟩)
        · exact .inr (.inr ⟨rfl, by omega, by
            rcases Nat.lt_or_ge 1001 n with h2 | h2
            · exact h2
            · exact absurd ⟨h, by omega, h2⟩ hok⟩)
    have hno1 : m.ok = false ∨ ps.length < 1 ∨ 1001 < ps.length := by
      rcases hno with h | ⟨_, h⟩ | ⟨_, _, h⟩
      · exact .inl h
      · exact .inr (.inl (by omega))
      · exact .inr (.inr (by omega))
    rw [M.traceOk_no hno1]
    clear hno1
    clear hok hz hlen CR
    generalize m.ok = o at C1 hno
    obtain ⟨⟨a, b, c, d, f, k⟩, ⟨a', b', c', d', f', k'⟩⟩ := m
    dsimp only [mcv] at C1 ⊢
    have hno2 : o = false ∨ (o = true ∧ (n : Int) < 1) ∨ (o = true ∧ ¬ (n : Int) < 1 ∧ 1001 < (n : Int)) := by
      rcases hno with h | ⟨h, h2⟩ | ⟨h, h2, h3⟩
      · exact .inl h
      · exact .inr (.inl ⟨h, by omega⟩)
      · exact .inr (.inr ⟨h, by omega, by omega⟩)
    clear hno
    rcases hno2 with rfl | ⟨rfl, i1⟩ | ⟨rfl, i1, i2⟩
    all_goals
      go_enter Try.func23, Try.ntmps23
      go_wp2_with fail
      refine (C1 _).mono ?_
      rintro e w1 ⟨m', rfl, hE, hb1⟩
      have HB1 : Hid (Below w.heap.size w w1) := ((Below.refl _ _).alloc (Nat.le_refl _) _).trans (hb1.mono (by simp))
      clear hb1 hE
      go_wp2
      go_ret
      exact ⟨rfl, HB1.out⟩
end Go.Proofs.Ytjeoenieoejolai
