/- Runs whose machine, state and number are checked, in the program. -/
import Derived.Test.YtjibpapjfdjecacMaF
namespace Go.Proofs.Ytjibpapjfdjecac
open Go.RowKit

def M.runOk (m : M.Mc) (s : Int × Int) (n : Int) : Bool := m.ok && (M.sOk s && (decide (0 ≤ n) && decide (n ≤ 1000)))
theorem M.runOk_parts {m : M.Mc} {s : Int × Int} {n : Int} (h : M.runOk m s n = true) : m.ok = true ∧ M.sOk s = true ∧ 0 ≤ n ∧ n ≤ 1000 := by
  unfold M.runOk at h; simpa using h
theorem M.runOk_mk {m : M.Mc} {s : Int × Int} {n : Int} (h1 : m.ok = true) (h2 : M.sOk s = true) (h3 : 0 ≤ n) (h4 : n ≤ 1000) : M.runOk m s n = true := by
  unfold M.runOk; rw [h1, h2, decide_eq_true h3, decide_eq_true h4]; rfl
theorem M.runOk_no {m : M.Mc} {s : Int × Int} {n : Int} (h : M.runOk m s n = false) : m.ok = false ∨ (m.ok = true ∧ M.sOk s = false) ∨ (m.ok = true ∧ M.sOk s = true ∧ n < 0) ∨ (m.ok = true ∧ M.sOk s = true ∧ ¬ n < 0 ∧ 1000 < n) := by
  cases h1 : m.ok with
  | false => exact .inl rfl
  | true =>
    cases h2 : M.sOk s with
    | false => exact .inr (.inl ⟨rfl, rfl⟩)
    | true =>
      by_cases h3 : n < 0
      · exact .inr (.inr (.inl ⟨rfl, rfl, h3⟩))
      · by_cases h4 : 1000 < n
        · exact .inr (.inr (.inr ⟨rfl, rfl, h3, h4⟩))
        · rw [M.runOk_mk h1 h2 (by omega) (by omega)] at h; cases h
set_option maxHeartbeats 4000000 in
theorem checkedRun_any (m : M.Mc) (s : Int × Int) (n : Int) (w : World) : Calls Try.prog 33 #[mcv m, stv s, .int .i64 n] w fun e w' => (M.runOk m s n = true → ∃ a cap, e = .returned (.tuple #[.slice a (n.toNat + 1) cap, .bool true]) ∧ OwnsQ 84 w' w.heap.size a (n.toNat + 1) cap (m.run s n.toNat)) ∧ (M.runOk m s n = false → e = .returned (.tuple #[.slice none 0 0, .bool false])) ∧ Below w.heap.size w w' := by
  have C1 := stepperOf_any m
  have C2 := statePair_any s
  have HR : Hid (∀ N : Nat, N ≤ 1000 → m.ok = true → M.sOk s = true → ∀ w, Calls Try.prog 53 #[.iface 95 (mcv m), stv s, .int .i64 N] w fun e w' => ∃ a cap, e = .returned (.slice a (N + 1) cap) ∧ OwnsQ 84 w' w.heap.size a (N + 1) cap (m.run s N) ∧ Below w.heap.size w w') := fun N hN hm hs w => runFrom_any m s N w hm hs hN
  have HT : Hid (∀ W, Below ((w.alloc (.cells (mcv m).cells 27)).alloc (.cells #[.int .i64 s.1, .int .i64 s.2] 35)).heap.size ((w.alloc (.cells (mcv m).cells 27)).alloc (.cells #[.int .i64 s.1, .int .i64 s.2] 35)) W → W.cell? ⟨w.heap.size + 1, 0, none⟩ = some (.int .i64 s.1) ∧ W.cell? ⟨w.heap.size + 1, 1, none⟩ = some (.int .i64 s.2)) := fun W hW => by
    have e : (w.alloc (.cells (mcv m).cells 27)).heap.size = w.heap.size + 1 := by simp
    have h := fun i => World.cell?_alloc_new (w.alloc (.cells (mcv m).cells 27)) #[.int .i64 s.1, .int .i64 s.2] 35 i
    rw [e] at h
    exact ⟨(hW.cell (p := ⟨w.heap.size + 1, 0, none⟩) (by simp)).trans (h 0), (hW.cell (p := ⟨w.heap.size + 1, 1, none⟩) (by simp)).trans (h 1)⟩
  have ec : (mcv m).cells = #[.int .i64 m.X.xx, .int .i64 m.X.xy, .int .i64 m.X.yy, .int .i64 m.X.x, .int .i64 m.X.y, .int .i64 m.X.k, .int .i64 m.Y.xx, .int .i64 m.Y.xy, .int .i64 m.Y.yy, .int .i64 m.Y.x, .int .i64 m.Y.y, .int .i64 m.Y.k] := rfl
  rw [ec] at HT
  clear ec
  cases hok : M.runOk m s n with
  | false =>
    have hno := M.runOk_no hok
    clear hok HR
    obtain ⟨⟨a, b, c, d, f, k⟩, ⟨a', b', c', d', f', k'⟩⟩ := m
    obtain ⟨x, y⟩ := s
    dsimp only [mcv, stv] at C1 C2 HT ⊢
    generalize M.Mc.ok ⟨⟨a, b, c, d, f, k⟩, ⟨a', b', c', d', f', k'⟩⟩ = o1 at C1 hno
    generalize M.sOk (x, y) = o2 at C2 hno
    rcases hno with rfl | ⟨rfl, rfl⟩ | ⟨rfl, rfl, h3⟩ | ⟨rfl, rfl, h3, h4⟩
    all_goals
      go_enter Try.func33, Try.ntmps33
      go_wp2_with fail
      refine (C1 _).mono ?_
      rintro e w1 ⟨m', rfl, hE1, hb1⟩
      obtain ⟨t0, t1⟩ := HT.out _ hb1
      have HB1 : Hid (Below w.heap.size w w1) := (((Below.refl _ _).alloc (Nat.le_refl _) _).alloc (by simp) _).trans (hb1.mono (by simp; omega))
      have HE1 : Hid _ := hE1
      clear hb1 hE1
      go_wp2_with fail
      refine (C2 _).mono ?_
      rintro e w2 ⟨⟨p1, p2⟩, rfl, hp2, hE2, hb2⟩
      have HB2 : Hid (Below w.heap.size w w2) := HB1.out.trans (hb2.mono HB1.out.size)
      have HE2 : Hid _ := hE2
      clear hb2 hE2 hp2
      go_wp2
      go_ret2
      exact ⟨fun h => by simp at h, fun _ => rfl, HB2.out.alloc HB2.out.size _⟩
  | true =>
    obtain ⟨hm, hs, h3, h4⟩ := M.runOk_parts hok
    obtain ⟨N, rfl⟩ := Int.eq_ofNat_of_zero_le h3
    have hN : N ≤ 1000 := by omega
    have HR1 : Hid (∀ w, Calls Try.prog 53 #[.iface 95 (mcv m), stv s, .int .i64 N] w fun e w' => ∃ a cap, e = .returned (.slice a (N + 1) cap) ∧ OwnsQ 84 w' w.heap.size a (N + 1) cap (m.run s N) ∧ Below w.heap.size w w') := HR.out N hN hm hs
    rw [hm] at C1
    rw [hs] at C2
    clear hok HR hm hs h3 h4
    generalize hrun : m.run s N = rn at HR1
    have HRN : Hid (m.run s (Int.toNat N) = rn) := hrun
    have HL : Hid (Int.toNat (N : Int) = N) := Int.toNat_natCast N
    clear hrun
    obtain ⟨⟨a, b, c, d, f, k⟩, ⟨a', b', c', d', f', k'⟩⟩ := m
    obtain ⟨x, y⟩ := s
    dsimp only [mcv, stv] at C1 C2 HT HR1 ⊢
    go_enter Try.func33, Try.ntmps33
    go_wp2_with fail
    refine (C1 _).mono ?_
    rintro e w1 ⟨m', rfl, hE1, hb1⟩
    obtain ⟨t0, t1⟩ := HT.out _ hb1
    have HB1 : Hid (Below w.heap.size w w1) := (((Below.refl _ _).alloc (Nat.le_refl _) _).alloc (by simp) _).trans (hb1.mono (by simp; omega))
    have HE1 : Hid _ := hE1
    clear hb1 hE1
    go_wp2_with fail
    refine (C2 _).mono ?_
    rintro e w2 ⟨⟨p1, p2⟩, rfl, hp2, hE2, hb2⟩
    have HB2 : Hid (Below w.heap.size w w2) := HB1.out.trans (hb2.mono HB1.out.size)
    have HE2 : Hid _ := hE2
    clear hb2 hE2 hp2
    obtain rfl := HE1.out trivial
    have hE2 := HE2.out trivial
    simp only [Prod.mk.injEq] at hE2
    obtain ⟨rfl, rfl⟩ := hE2
    have hN0 : ¬ (N : Int) < 0 := by omega
    have hN1 : ¬ 1000 < (N : Int) := by omega
    go_wp2_with fail
    refine (HR1.out _).mono ?_
    rintro e w3 ⟨ra, rc, rfl, ho3, hb3⟩
    have HB3 : Hid (Below w.heap.size w w3) := (HB2.out.alloc HB2.out.size _).trans (hb3.mono (by have := HB2.out.size; simp; omega))
    have HO3 : Hid (OwnsQ 84 w3 w.heap.size ra (N + 1) rc rn) := ho3.mono (by have := HB2.out.size; simp; omega)
    clear ho3 hb3
    go_wp2
    go_ret2
    refine ⟨fun _ => ⟨ra, rc, rfl, ?_⟩, fun h => by simp at h, HB3.out⟩
    rw [HRN.out, HL.out]; exact HO3.out
end Go.Proofs.Ytjibpapjfdjecac
