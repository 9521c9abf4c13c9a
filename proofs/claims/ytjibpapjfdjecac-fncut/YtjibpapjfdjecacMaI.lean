/- What is exported of runs, in the program. -/
import Derived.Test.YtjibpapjfdjecacMaH
namespace Go.Proofs.Ytjibpapjfdjecac
open Go.RowKit

set_option maxHeartbeats 1000000 in
theorem statesOf_any {a : Option Addr} {n c : Nat} {ps : List (Int × Int)} (w : World) (hz : SeesQ w a n c ps) (hn : n ≤ 1001) :
    Calls Try.prog 34 #[.slice a n c] w fun e w' => ∃ a' cap', e = .returned (.slice a' n cap') ∧ OwnsQ 35 w' w.heap.size a' n cap' ps ∧ Below w.heap.size w w' := by
  have HZ : Hid (SeesQ w a n c ps) := hz
  obtain ⟨i0, hi, hz0, hz1, hz2⟩ := info_parts info_state
  clear hz
  go_enter Try.func34, Try.ntmps34
  go_wp2_with (at_make; refine wpList_make_own _ rfl _ _ 28 rfl w.heap.size 35 i0 (.agg #[.int .i64 0, .int .i64 0]) 2 Try.underlying28 hi hz0 hz1 .i64 .i64 _ n rfl rfl rfl (by rw [hz2]; omega) (by unfold maxLen; omega) (Nat.le_refl _) ?_)
  intro w1 hown hg
  have HO : Hid (OwnsQ 35 w1 w.heap.size (some ⟨w.heap.size, 0, none⟩) 0 n []) := ⟨rfl, hown⟩
  have HB : Hid (Below w.heap.size w w1) := below_grown hg
  clear hown hg hi hz0 hz1 hz2
  go_wp2_with fail
  refine (foldStates_any w w1 HZ.out HB.out HO.out hn).mono ?_
  rintro e w2 ⟨a2, c2, rfl, ho2, hb2⟩
  have HO2 : Hid (OwnsQ 35 w2 w.heap.size a2 n c2 ps) := ho2
  have HB2 : Hid (Below w.heap.size w w2) := hb2
  clear ho2 hb2
  go_wp2
  go_ret
  exact ⟨a2, c2, rfl, HO2.out, HB2.out⟩
def M.aft (m : M.Mc) (s : Int × Int) (n : Int) : Int × Int := if M.runOk m s n = true then m.rn s n.toNat else (0, 0)
theorem M.aft_in {m : M.Mc} {s : Int × Int} {n : Int} (h : M.runOk m s n = true) : M.aft m s n = m.rn s n.toNat := if_pos h
theorem M.aft_out {m : M.Mc} {s : Int × Int} {n : Int} (h : M.runOk m s n = false) : M.aft m s n = (0, 0) := if_neg (by rw [h]; decide)
def M.runv (m : M.Mc) (s : Int × Int) (n : Int) : List (Int × Int) := if M.runOk m s n = true then m.run s n.toNat else []
theorem M.runv_in {m : M.Mc} {s : Int × Int} {n : Int} (h : M.runOk m s n = true) : M.runv m s n = m.run s n.toNat := if_pos h
theorem M.runv_out {m : M.Mc} {s : Int × Int} {n : Int} (h : M.runOk m s n = false) : M.runv m s n = [] := if_neg (by rw [h]; decide)
theorem ownsQ_none (t : TypeId) (w : World) (base : Nat) : OwnsQ t w base none 0 0 [] := ⟨rfl, rfl, .inl ⟨rfl, rfl⟩⟩
theorem len0 {m : M.Mc} {s : Int × Int} {n : Int} (h : M.runOk m s n = true) : (M.runv m s n).length = n.toNat + 1 := by rw [M.runv_in h, M.run_len]
set_option maxHeartbeats 2000000 in
theorem implRunOf_any (m : M.Mc) (s : Int × Int) (n : Int) (w : World) : Calls Try.prog 12 #[mcv m, stv s, .int .i64 n] w fun e w' => ∃ a l cap, e = .returned (.tuple #[.slice a l cap, .bool (M.runOk m s n)]) ∧ l ≤ 1001 ∧ OwnsQ 35 w' w.heap.size a l cap (M.runv m s n) ∧ Below w.heap.size w w' := by
  have C1 := checkedRun_any m s n
  cases hok : M.runOk m s n with
  | false =>
    have HV : Hid (M.runv m s n = []) := M.runv_out hok
    rw [hok] at C1
    obtain ⟨⟨a, b, c, d, f, k⟩, ⟨a', b', c', d', f', k'⟩⟩ := m
    obtain ⟨x, y⟩ := s
    dsimp only [mcv, stv] at C1 ⊢
    clear hok
    go_enter Try.func12, Try.ntmps12
    go_wp2_with fail
    refine (C1 _).mono ?_
    rintro e w1 ⟨-, he, hb1⟩
    obtain rfl := he trivial
    have HB1 : Hid (Below w.heap.size w w1) := (((Below.refl _ _).alloc (Nat.le_refl _) _).alloc (by simp) _).trans (hb1.mono (by simp; omega))
    clear hb1 he
    go_wp2
    go_ret2
    exact ⟨none, 0, 0, rfl, by omega, by rw [HV.out]; exact ownsQ_none _ _ _, HB1.out⟩
  | true =>
    obtain ⟨hm, hs, h3, h4⟩ := M.runOk_parts hok
    have HV : Hid (M.runv m s n = m.run s n.toNat) := M.runv_in hok
    rw [hok] at C1
    have hN : n.toNat + 1 ≤ 1001 := by omega
    generalize hrun : m.run s n.toNat = rn at C1 HV
    have hN0 : 0 < n.toNat + 1 := by omega
    generalize n.toNat + 1 = N at C1 hN hN0
    obtain ⟨⟨a, b, c, d, f, k⟩, ⟨a', b', c', d', f', k'⟩⟩ := m
    obtain ⟨x, y⟩ := s
    dsimp only [mcv, stv] at C1 ⊢
    clear hok hm hs h3 h4 hrun
    go_enter Try.func12, Try.ntmps12
    go_wp2_with fail
    refine (C1 _).mono ?_
    rintro e w1 ⟨he, -, hb1⟩
    obtain ⟨ra, rc, rfl, ho1⟩ := he trivial
    have HB1 : Hid (Below w.heap.size w w1) := (((Below.refl _ _).alloc (Nat.le_refl _) _).alloc (by simp) _).trans (hb1.mono (by simp; omega))
    have HS1 : Hid (SeesQ w1 ra N rc rn) := ho1.sees (by omega)
    clear hb1 he ho1
    go_wp2_with fail
    refine (statesOf_any _ HS1.out hN).mono ?_
    rintro e w2 ⟨a2, c2, rfl, ho2, hb2⟩
    have HO2 : Hid (OwnsQ 35 w2 w.heap.size a2 N c2 rn) := ho2.mono HB1.out.size
    have HB2 : Hid (Below w.heap.size w w2) := HB1.out.trans (hb2.mono HB1.out.size)
    clear ho2 hb2
    go_wp2
    go_ret2
    exact ⟨a2, N, c2, rfl, hN, by rw [HV.out]; exact HO2.out, HB2.out⟩
set_option maxHeartbeats 2000000 in
theorem implAfter_any (m : M.Mc) (s : Int × Int) (n : Int) (w : World) : Calls Try.prog 21 #[mcv m, stv s, .int .i64 n] w fun e w' => e = .returned (.tuple #[stv (M.aft m s n), .bool (M.runOk m s n)]) ∧ Below w.heap.size w w' := by
  have C1 := checkedRun_any m s n
  have HT : Hid (∀ W, Below (((w.alloc (.cells #[.int .i64 m.X.xx, .int .i64 m.X.xy, .int .i64 m.X.yy, .int .i64 m.X.x, .int .i64 m.X.y, .int .i64 m.X.k, .int .i64 m.Y.xx, .int .i64 m.Y.xy, .int .i64 m.Y.yy, .int .i64 m.Y.x, .int .i64 m.Y.y, .int .i64 m.Y.k] 27)).alloc (.cells #[.int .i64 s.1, .int .i64 s.2] 35)).alloc (.cells #[.int .i64 0, .int .i64 0] 35)).heap.size (((w.alloc (.cells #[.int .i64 m.X.xx, .int .i64 m.X.xy, .int .i64 m.X.yy, .int .i64 m.X.x, .int .i64 m.X.y, .int .i64 m.X.k, .int .i64 m.Y.xx, .int .i64 m.Y.xy, .int .i64 m.Y.yy, .int .i64 m.Y.x, .int .i64 m.Y.y, .int .i64 m.Y.k] 27)).alloc (.cells #[.int .i64 s.1, .int .i64 s.2] 35)).alloc (.cells #[.int .i64 0, .int .i64 0] 35)) W → W.cell? ⟨w.heap.size + 1 + 1, 0, none⟩ = some (.int .i64 0) ∧ W.cell? ⟨w.heap.size + 1 + 1, 1, none⟩ = some (.int .i64 0) ∧ W.frozen? ⟨w.heap.size + 1 + 1, 0, none⟩ = false ∧ W.frozen? ⟨w.heap.size + 1 + 1, 1, none⟩ = false) := fun W hW =>
    ⟨(hW.cell (p := ⟨w.heap.size + 1 + 1, 0, none⟩) (by simp)).trans (chain3m w _ _ _ _ _ _ 0).2.2.1, (hW.cell (p := ⟨w.heap.size + 1 + 1, 1, none⟩) (by simp)).trans (chain3m w _ _ _ _ _ _ 1).2.2.1, (frozen_kept hW (show w.heap.size + 1 + 1 < _ by simp)).trans (chain3m w _ _ _ _ _ _ 0).2.2.2, (frozen_kept hW (show w.heap.size + 1 + 1 < _ by simp)).trans (chain3m w _ _ _ _ _ _ 1).2.2.2⟩
  cases hok : M.runOk m s n with
  | false =>
    rw [M.aft_out hok]
    rw [hok] at C1
    obtain ⟨⟨a, b, c, d, f, k⟩, ⟨a', b', c', d', f', k'⟩⟩ := m
    obtain ⟨x, y⟩ := s
    dsimp only [mcv, stv] at C1 HT ⊢
    clear hok
    go_enter Try.func21, Try.ntmps21
    go_wp2_with fail
    refine (C1 _).mono ?_
    rintro e w1 ⟨-, he, hb1⟩
    obtain rfl := he trivial
    have HB1 : Hid (Below w.heap.size w w1) := ((((Below.refl _ _).alloc (Nat.le_refl _) _).alloc (by simp) _).alloc (by simp; omega) _).trans (hb1.mono (by simp; omega))
    obtain ⟨t0, t1, t2, t3⟩ := HT.out _ hb1
    clear hb1 he
    go_wp2
    refine bodyPost_ret (v := .tuple #[.agg #[.int .i64 0, .int .i64 0], .bool false]) (by simp [results, Try.results21, go_sem, t0, t1]) rfl ⟨rfl, ?_⟩
    exact (HB1.out.setCell (by show w.heap.size ≤ w.heap.size + 1 + 1; omega) _).setCell (by show w.heap.size ≤ w.heap.size + 1 + 1; omega) _
  | true =>
    obtain ⟨hm, hs, h3, h4⟩ := M.runOk_parts hok
    rw [M.aft_in hok]
    rw [hok] at C1
    have HG : Hid ((m.run s n.toNat).getD n.toNat (0, 0) = m.rn s n.toNat) := M.run_get m s _ _ (Nat.le_refl _)
    have hN : n.toNat ≤ 1000 := by omega
    have CS := state_any (m.rn s n.toNat)
    generalize m.run s n.toNat = rn at C1 HG
    generalize m.rn s n.toNat = q at HG CS ⊢
    generalize n.toNat = N at C1 HG hN
    obtain ⟨⟨a, b, c, d, f, k⟩, ⟨a', b', c', d', f', k'⟩⟩ := m
    obtain ⟨x, y⟩ := s
    obtain ⟨u, v⟩ := q
    dsimp only [mcv, stv] at C1 HT CS ⊢
    clear hok hm hs h3 h4
    go_enter Try.func21, Try.ntmps21
    go_wp2_with fail
    refine (C1 _).mono ?_
    rintro e w1 ⟨he, -, hb1⟩
    obtain ⟨ra, rc, rfl, ho1⟩ := he trivial
    have HB1 : Hid (Below w.heap.size w w1) := ((((Below.refl _ _).alloc (Nat.le_refl _) _).alloc (by simp) _).alloc (by simp; omega) _).trans (hb1.mono (by simp; omega))
    have HB1' : Hid (Below _ _ w1) := hb1
    obtain ⟨g, rfl, -, hcap, hbig, hc⟩ := ho1.block (by omega)
    obtain ⟨e1, e2⟩ := hc N (by omega)
    rw [HG.out] at e1 e2
    have hcI : ((N + 1 : Nat) : Int) ≤ rc := by omega
    clear hb1 he ho1 hc
    dsimp only at e1 e2
    go_wp2_with fail
    refine (CS _).mono ?_
    rintro e w2 ⟨rfl, hb2⟩
    have HB2 : Hid (Below w.heap.size w w2) := HB1.out.trans (hb2.mono HB1.out.size)
    obtain ⟨t0, t1, t2, t3⟩ := HT.out _ (HB1'.out.trans (hb2.mono HB1'.out.size))
    clear hb2 HB1'
    go_wp2
    refine bodyPost_ret (v := .tuple #[.agg #[.int .i64 u, .int .i64 v], .bool true]) (by simp [results, Try.results21, go_sem, t0, t1]) rfl ⟨rfl, ?_⟩
    exact (HB2.out.setCell (by show w.heap.size ≤ w.heap.size + 1 + 1; omega) _).setCell (by show w.heap.size ≤ w.heap.size + 1 + 1; omega) _
theorem implStateOk_any (s : Int × Int) (w : World) : Calls Try.prog 56 #[stv s] w fun e w' => e = .returned (.bool (M.sOk s)) ∧ Below w.heap.size w w' := by
  have C1 := statePair_any s
  generalize M.sOk s = o at C1 ⊢
  obtain ⟨x, y⟩ := s
  dsimp only [stv] at C1 ⊢
  go_enter Try.func56, Try.ntmps56
  go_wp2_with fail
  refine (C1 _).mono ?_
  rintro e w1 ⟨⟨p, q⟩, rfl, -, -, hb1⟩
  have HB1 : Hid (Below w.heap.size w w1) := ((Below.refl _ _).alloc (Nat.le_refl _) _).trans (hb1.mono (by simp))
  clear hb1
  go_wp2
  go_ret
  exact ⟨rfl, by first | exact HB1.out | exact HB1.out.alloc HB1.out.size _⟩
end Go.Proofs.Ytjibpapjfdjecac
