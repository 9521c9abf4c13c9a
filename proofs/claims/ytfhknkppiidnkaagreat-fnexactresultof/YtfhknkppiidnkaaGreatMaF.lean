/- Runs, in the program. Runs whose machine, state and number are checked, in the program. The states of a run, in the program. What is exported of runs, in the program. -/
import Derived.Test.YtfhknkppiidnkaaGreatMaD
import Derived.Test.YtfhknkppiidnkaaGreatMaP
import Derived.Test.YtfhknkppiidnkaaGreatSlD
namespace Go.Proofs.YtfhknkppiidnkaaGreat
open Go.RowKit

theorem wrap_smallm {x : Int} (h0 : 0 ≤ x) (h1 : x < 9223372036854775808) : IntKind.i64.wrap x = x := by
  unfold IntKind.wrap
  have e : x % 2 ^ IntKind.i64.bits = x := Int.emod_eq_of_lt h0 (by show x < 18446744073709551616; omega)
  simp only [e]
  rw [if_neg]
  rw [Bool.and_eq_true, decide_eq_true_iff]
  rintro ⟨_, h⟩
  have h' : x ≥ 9223372036854775808 := h
  omega
theorem info_pair : (Tryz.prog.info? 128).map (fun i => (i.zero, i.size, i.bytes)) = some (some (.agg #[.int .i64 0, .int .i64 0]), 2, 16) := by kernel_rfl
theorem run_make_pair (k : Nat) (hk : k ≤ 2000000) (w : World) : (Instr.makeSlice 123 (.int .i64 0) (.int .i64 (k : Int))).run Tryz.prog w = .ok (.slice (some ⟨w.heap.size, 0, none⟩) 0 k) (w.alloc (.cells (madeCells #[.int .i64 0, .int .i64 0] (k * 2)) 128)) := by
  obtain ⟨i0, hi, hz0, hz1, hz2⟩ := info_parts info_pair
  have h := run_make (P := Tryz.prog) w 123 128 i0 (.agg #[.int .i64 0, .int .i64 0]) Tryz.underlying123 hi hz0 .i64 .i64 0 (k : Int) (by omega) (by omega) (by rw [hz2]; omega) (by omega)
  rw [hz1] at h
  simpa [Value.cells] using h
theorem cell_twoA (W : World) (g : Nat) (hg : W.heap.size = g) (x y : Value) (t : TypeId) : ∀ ad, some (⟨g, 0, none⟩ : Addr) = some ad → ∀ j u, [x, y][j]? = some u → (W.alloc (.cells #[x, y] t)).drew.cell? (ad.add j) = some u := by
  subst hg
  intro ad had j u hj
  simp only [Option.some.injEq] at had
  subst had
  exact cell_twoq W x y t j u hj
theorem cell_twoB (W : World) (g : Nat) (hg : W.heap.size = g) (x y : Value) (t t2 : TypeId) (A : Array Value) : ∀ ad, some (⟨g, 0, none⟩ : Addr) = some ad → ∀ j u, [x, y][j]? = some u → ((W.alloc (.cells #[x, y] t)).alloc (.cells A t2)).drew.cell? (ad.add j) = some u := by
  subst hg
  intro ad had j u hj
  simp only [Option.some.injEq] at had
  subst had
  have e : ((⟨W.heap.size, 0, none⟩ : Addr).add j) = ⟨W.heap.size, j, none⟩ := by unfold Addr.add; split <;> simp_all
  have h := cell_twoq W x y t j u hj
  rw [e] at h ⊢
  exact (World.cell?_alloc_lt (w := W.alloc (.cells #[x, y] t)) (o := .cells A t2) (a := ⟨W.heap.size, j, none⟩) (h := by simp)).trans h
theorem frozen_one (w : World) (A : Array Value) (t : TypeId) (i : Nat) : (w.alloc (.cells A t)).frozen? ⟨w.heap.size, i, none⟩ = false := by
  rw [frozen?_alloc_cells]; simp only [World.frozen?]; rw [Array.getElem?_eq_none (by omega)]
theorem method_next (m : M.Mc) (fuel : Nat) (w : World) : (method (fuel + 1) 190 (mcv m) "loop.example/g00319/impl.next").run Tryz.prog w = .ok (174, mcv m) w := by kernel_rfl
set_option maxHeartbeats 2000000 in
theorem runFrom_any (m : M.Mc) (s : Int × Int) (n : Nat) (w : World) (hm : m.ok = true) (hs : M.sOk s = true) (hn : n ≤ 1000) :
    Calls Tryz.prog 93 #[.iface 190 (mcv m), stv s, .int .i64 n] w fun e w' => ∃ a cap, e = .returned (.slice a (n + 1) cap) ∧ OwnsQ 128 w' w.heap.size a (n + 1) cap (m.run s n) ∧ Below w.heap.size w w' := by
  have HM : Hid (m.ok = true) := hm
  have HS : Hid (M.sOk s = true) := hs
  have hmk := run_make_pair (n + 1) (by omega)
  have e1 : IntKind.i64.wrap ((n : Int) + 1) = ((n + 1 : Nat) : Int) := wrap_smallm (by omega) (by omega)
  rw [← e1] at hmk
  obtain ⟨i0, hi, hz0, hz1, hz2⟩ := info_parts info_pair
  have HI : Hid (Tryz.prog.info? 128 = some i0 ∧ i0.zero = some (.agg #[.int .i64 0, .int .i64 0]) ∧ i0.size = 2 ∧ i0.bytes = 16) := ⟨hi, hz0, hz1, hz2⟩
  have HR0 : Hid (m.run s 0 = [s]) := rfl
  clear hm hs hi hz0 hz1 hz2 e1
  obtain ⟨x, y⟩ := s
  dsimp only [stv]
  have HA1 : Hid (World.ownsRow (((w.alloc (.cells #[.int .i64 x, .int .i64 y] 128)).alloc (.cells (madeCells #[.int .i64 0, .int .i64 0] ((n + 1) * 2)) 128)).alloc (.cells #[.int .i64 x, .int .i64 y] 128)).drew (w.heap.size + 1) 128 2 (.slice (some ⟨w.heap.size + 1, 0, none⟩) 0 (n + 1)) 0 []) := by
    have h := World.ownsRow_made (base := w.heap.size + 1) (e := 128) (size := 2) (w.alloc (.cells #[.int .i64 x, .int .i64 y] 128)) (madeCells #[.int .i64 0, .int .i64 0] ((n + 1) * 2)) (n + 1) (by simp) (by unfold maxLen; omega) (by simp [size_madeCells])
    have h2 := World.ownsRow.drew (World.ownsRow.alloc h (.cells #[.int .i64 x, .int .i64 y] 128))
    show World.ownsRow _ _ _ _ _ _ _
    simpa using h2
  have HA2 : Hid (World.ownsRow (((w.alloc (.cells #[.int .i64 x, .int .i64 y] 128)).alloc (.cells #[.int .i64 x, .int .i64 y] 128)).alloc (.cells (madeCells #[.int .i64 0, .int .i64 0] ((n + 1) * 2)) 128)).drew (w.heap.size + 1) 128 2 (.slice (some ⟨w.heap.size + 1 + 1, 0, none⟩) 0 (n + 1)) 0 []) := by
    have h := World.ownsRow_made (base := w.heap.size + 1) (e := 128) (size := 2) ((w.alloc (.cells #[.int .i64 x, .int .i64 y] 128)).alloc (.cells #[.int .i64 x, .int .i64 y] 128)) (madeCells #[.int .i64 0, .int .i64 0] ((n + 1) * 2)) (n + 1) (by simp) (by unfold maxLen; omega) (by simp [size_madeCells])
    have h2 := World.ownsRow.drew h
    show World.ownsRow _ _ _ _ _ _ _
    simpa using h2
  have HC1 : Hid (∀ ad, some (⟨w.heap.size + 1 + 1, 0, none⟩ : Addr) = some ad → ∀ j u, [Value.int .i64 x, .int .i64 y][j]? = some u → (((w.alloc (.cells #[.int .i64 x, .int .i64 y] 128)).alloc (.cells (madeCells #[.int .i64 0, .int .i64 0] ((n + 1) * 2)) 128)).alloc (.cells #[.int .i64 x, .int .i64 y] 128)).drew.cell? (ad.add j) = some u) := cell_twoA _ _ (by simp) _ _ _
  have HC2 : Hid (∀ ad, some (⟨w.heap.size + 1, 0, none⟩ : Addr) = some ad → ∀ j u, [Value.int .i64 x, .int .i64 y][j]? = some u → (((w.alloc (.cells #[.int .i64 x, .int .i64 y] 128)).alloc (.cells #[.int .i64 x, .int .i64 y] 128)).alloc (.cells (madeCells #[.int .i64 0, .int .i64 0] ((n + 1) * 2)) 128)).drew.cell? (ad.add j) = some u) := cell_twoB _ _ (by simp) _ _ _ _ _
  go_enter Tryz.func93, Tryz.ntmps93
  go_wp2
  go_region_law (first
    | (refine step_append_mix rfl (.tmp 10) (.tmp 12) 123 123 rfl (w.heap.size + 1) 128 i0 2 Tryz.underlying123 Tryz.underlying123 HI.out.1 HI.out.2.2.1 (w.heap.size + 1) 0 (n + 1) [] (by simp [Act.eval]) HA1.out (some ⟨w.heap.size + 1 + 1, 0, none⟩) 1 1 [.int .i64 x, .int .i64 y] (by simp [Act.eval]) rfl (fun h => by cases h) HC1.out (two_intsq _ _) (by omega) ?_; intro w1 hown hgrow)
    | (refine step_append_mix rfl (.tmp 10) (.tmp 12) 123 123 rfl (w.heap.size + 1) 128 i0 2 Tryz.underlying123 Tryz.underlying123 HI.out.1 HI.out.2.2.1 (w.heap.size + 1 + 1) 0 (n + 1) [] (by simp [Act.eval]) HA2.out (some ⟨w.heap.size + 1, 0, none⟩) 1 1 [.int .i64 x, .int .i64 y] (by simp [Act.eval]) rfl (fun h => by cases h) HC2.out (two_intsq _ _) (by omega) ?_; intro w1 hown hgrow))
  all_goals
    have HBx : Hid (Below (w.heap.size + 1) (w.alloc (.cells #[.int .i64 x, .int .i64 y] 128)) w1) := (((Below.refl (w.heap.size + 1) (w.alloc (.cells #[.int .i64 x, .int .i64 y] 128))).alloc (by simp) _).alloc (by simp) _).drew.grown hgrow (by simp) (fun j hj => by simp at hj; omega)
    have HSz : Hid (w.heap.size < w1.heap.size) := by have := HBx.out.size; simp at this; exact this
    have HB : Hid (Below w.heap.size w w1) := ((Below.refl w.heap.size w).alloc (Nat.le_refl _) _).trans (HBx.out.mono (by omega))
    obtain ⟨aa, ca, hsl, ho⟩ := OwnsQ.form (ps := m.run (x, y) 0) rfl (by rw [HR0.out]; exact hown)
    simp only [Value.slice.injEq] at hsl
    obtain ⟨rfl, -, rfl⟩ := hsl
    have HO : Hid (OwnsQ 128 w1 (w.heap.size + 1) _ 1 (n + 1) (m.run (x, y) 0)) := ho
    have HC0 : Hid (w1.cell? ⟨w.heap.size, 0, none⟩ = some (.int .i64 x) ∧ w1.cell? ⟨w.heap.size, 1, none⟩ = some (.int .i64 y) ∧ w1.frozen? ⟨w.heap.size, 0, none⟩ = false ∧ w1.frozen? ⟨w.heap.size, 1, none⟩ = false) :=
      ⟨(HBx.out.cell (p := ⟨w.heap.size, 0, none⟩) (by simp)).trans (World.cell?_alloc_new _ _ _ _), (HBx.out.cell (p := ⟨w.heap.size, 1, none⟩) (by simp)).trans (World.cell?_alloc_new _ _ _ _), (frozen_kept HBx.out (by simp)).trans (frozen_one _ _ _ _), (frozen_kept HBx.out (by simp)).trans (frozen_one _ _ _ _)⟩
    clear hown hgrow ho HBx hmk
    go_wp2
    go_loopw [7, 15] (fun s i wr => ∃ (k : Nat) (a' : Option Addr) (cap' : Nat), k ≤ n ∧ i = .int .i64 k ∧ s = .slice a' (k + 1) cap' ∧ OwnsQ 128 wr (w.heap.size + 1) a' (k + 1) cap' (m.run (x, y) k) ∧ Below w.heap.size w wr ∧ w.heap.size < wr.heap.size ∧ (wr.cell? ⟨w.heap.size, 0, none⟩ = some (.int .i64 (m.rn (x, y) k).1) ∧ wr.cell? ⟨w.heap.size, 1, none⟩ = some (.int .i64 (m.rn (x, y) k).2) ∧ wr.frozen? ⟨w.heap.size, 0, none⟩ = false ∧ wr.frozen? ⟨w.heap.size, 1, none⟩ = false)) (fun _ i _ => n - (intOf i).toNat)
    case atStart => exact ⟨0, _, _, by omega, rfl, rfl, HO.out, HB.out, HSz.out, HC0.out⟩
    case round =>
      obtain ⟨k, a', cap', hk, rfl, rfl, ho1, hb1, hs1, c0, c1, f0, f1⟩ := hrel
      have HO1 : Hid (OwnsQ 128 wr (w.heap.size + 1) a' (k + 1) cap' (m.run (x, y) k)) := ho1
      have HB1 : Hid (Below w.heap.size w wr) := hb1
      have HS1 : Hid (w.heap.size < wr.heap.size) := hs1
      clear ho1 hb1 HO HB HC0 hs1
      by_cases hlt : k < n
      · have hI : (k : Int) < (n : Int) := by omega
        have HSk : Hid (M.sOk (m.rn (x, y) k) = true) := M.sOk_rn m HS.out k
        have HR : Hid (m.run (x, y) k ++ [m.nx (m.rn (x, y) k)] = m.run (x, y) (k + 1)) := M.run_snoc m (x, y) k
        have HN : Hid (m.nx (m.rn (x, y) k) = m.rn (x, y) (k + 1)) := rfl
        generalize m.rn (x, y) k = q at c0 c1 HSk HR HN
        obtain ⟨u, v⟩ := q
        dsimp only at c0 c1
        have hmt := method_next m
        go_wp2_with fail
        refine (stepM_any m (u, v) wr HM.out HSk.out).mono ?_
        rintro e w2 ⟨rfl, hb2⟩
        generalize m.nx (u, v) = q at HR HN
        obtain ⟨u2, v2⟩ := q
        have c2 : w2.cell? ⟨w.heap.size, 0, none⟩ = some (.int .i64 u) := (hb2.cell (p := ⟨w.heap.size, 0, none⟩) HS1.out).trans c0
        have c3 : w2.cell? ⟨w.heap.size, 1, none⟩ = some (.int .i64 v) := (hb2.cell (p := ⟨w.heap.size, 1, none⟩) HS1.out).trans c1
        have f2 : w2.frozen? ⟨w.heap.size, 0, none⟩ = false := (frozen_kept hb2 HS1.out).trans f0
        have f3 : w2.frozen? ⟨w.heap.size, 1, none⟩ = false := (frozen_kept hb2 HS1.out).trans f1
        obtain ⟨w3, hw3⟩ : ∃ w3, w3 = sets w2 w.heap.size 0 [.int .i64 u2, .int .i64 v2] := ⟨_, rfl⟩
        have ha := sets_at w.heap.size [Value.int .i64 u2, .int .i64 v2] w2 0 (fun j hj => by
          match j, hj with
          | 0, _ => exact ⟨_, c2⟩
          | 1, _ => exact ⟨_, c3⟩)
        rw [← hw3] at ha
        have d0 : w3.cell? ⟨w.heap.size, 0, none⟩ = some (.int .i64 u2) := by simpa using ha 0 _ rfl
        have d1 : w3.cell? ⟨w.heap.size, 1, none⟩ = some (.int .i64 v2) := by simpa using ha 1 _ rfl
        have g0 : w3.frozen? ⟨w.heap.size, 0, none⟩ = false := by rw [hw3, sets_frozen]; exact f2
        have g1 : w3.frozen? ⟨w.heap.size, 1, none⟩ = false := by rw [hw3, sets_frozen]; exact f3
        have HS3 : Hid (w.heap.size < w3.heap.size) := by show _ < _; rw [hw3, sets_size]; exact Nat.lt_of_lt_of_le HS1.out hb2.size
        have HO3 : Hid (OwnsQ 128 w3 (w.heap.size + 1) a' (k + 1) cap' (m.run (x, y) k)) := by
          show OwnsQ _ _ _ _ _ _ _
          rw [hw3]; exact OwnsQ.sets (by omega) _ _ _ (HO1.out.below hb2)
        have HB3 : Hid (Below w.heap.size w w3) := by
          show Below _ _ _
          rw [hw3]; exact sets_below (Nat.le_refl _) _ _ _ (HB1.out.trans (hb2.mono HB1.out.size))
        have HW3 : Hid (sets w2 w.heap.size 0 [.int .i64 u2, .int .i64 v2] = w3) := hw3.symm
        clear ha hw3 hb2 HO1 HB1 c0 c1 f0 f1
        have hs3 := HS3.out
        go_wp2_with (first | (rw [show (w2.setCell ⟨w.heap.size, 0, none⟩ (.int .i64 u2)).setCell ⟨w.heap.size, 1, none⟩ (.int .i64 v2) = w3 from HW3.out]) | (at_builtin; refine wpList_append_own _ rfl _ _ 123 rfl (w.heap.size + 1) 128 i0 (.agg #[.int .i64 0, .int .i64 0]) 2 16 Tryz.underlying123 HI.out.1 HI.out.2.1 HI.out.2.2.1 HI.out.2.2.2 rfl (by decide) _ (k + 1) (prs (m.run (x, y) k)) rfl (World.ownsRow.alloc HO3.out.2 _) ⟨w3.heap.size, 0, none⟩ 1 1 [.int .i64 u2, .int .i64 v2] rfl rfl (cell_twoq w3 _ _ _) (two_intsq _ _) (by unfold maxLen; omega) (by omega) (by simp; omega) ?_))
        intro v' w4 hown hgrow _
        have hown' : w4.ownsRow (w.heap.size + 1) 128 2 v' (k + 1 + 1) (prs (m.run (x, y) (k + 1))) := by rw [← HR.out, ← prs_snoc]; exact hown
        obtain ⟨b4, c4, rfl, ho4⟩ := OwnsQ.form (M.run_len m (x, y) (k + 1)) hown'
        have HO4 : Hid (OwnsQ 128 w4 (w.heap.size + 1) b4 (k + 1 + 1) c4 (m.run (x, y) (k + 1))) := ho4
        have hrow := HO3.out.row
        have HB4 : Hid (Below w.heap.size w w4) := (HB3.out.alloc HB3.out.size _).grown hgrow (by simp; omega) (fun q hq => by have := hrow q hq; omega)
        have HBk : Hid (Below (w.heap.size + 1) w3 w4) := ((Below.refl _ _).alloc (by omega) _).grown hgrow (by simp; omega) hrow
        have HC4 : Hid (w4.cell? ⟨w.heap.size, 0, none⟩ = some (.int .i64 (m.rn (x, y) (k + 1)).1) ∧ w4.cell? ⟨w.heap.size, 1, none⟩ = some (.int .i64 (m.rn (x, y) (k + 1)).2) ∧ w4.frozen? ⟨w.heap.size, 0, none⟩ = false ∧ w4.frozen? ⟨w.heap.size, 1, none⟩ = false) := by
          show _ ∧ _
          rw [← HN.out]
          exact ⟨(HBk.out.cell (p := ⟨w.heap.size, 0, none⟩) (by simp)).trans d0, (HBk.out.cell (p := ⟨w.heap.size, 1, none⟩) (by simp)).trans d1, (frozen_kept HBk.out (by simp)).trans g0, (frozen_kept HBk.out (by simp)).trans g1⟩
        have HS4 : Hid (w.heap.size < w4.heap.size) := Nat.lt_of_lt_of_le HS3.out HBk.out.size
        clear hown hown' hgrow ho4 hrow d0 d1 g0 g1
        go_wp2
        go_roundw
        case rel => exact ⟨k + 1, b4, c4, by omega, by go_num, rfl, HO4.out, HB4.out, HS4.out, HC4.out⟩
        case measure => simp [intOf]; omega
      · have hkn : k = n := by omega
        subst hkn
        go_wp2
        go_ret
        exact ⟨a', cap', rfl, HO1.out.mono (by omega), HB1.out⟩
end Go.Proofs.YtfhknkppiidnkaaGreat
namespace Go.Proofs.YtfhknkppiidnkaaGreat
open Go.RowKit

def M.runOk (m : M.Mc) (s : Int × Int) (n : Int) : Bool := m.ok && (M.sOk s && (decide (0 ≤ n) && decide (n ≤ 1000)))
theorem M.runOk_parts {m : M.Mc} {s : Int × Int} {n : Int} (h : M.runOk m s n = true) : m.ok = true ∧ M.sOk s = true ∧ 0 ≤ n ∧ n ≤ 1000 := by
  unfold M.runOk at h; simpa using h
theorem M.runOk_mk {m : M.Mc} {s : Int × Int} {n : Int} (h1 : m.ok = true) (h2 : M.sOk s = true) (h3 : 0 ≤ n) (h4 : n ≤ 1000) : M.runOk m s n = true := by
  unfold M.runOk; rw [h1, h2, decide_eq_true h3, decide_eq_true h4]; rfl
theorem M.runOk_no {m : M.Mc} {s : Int × Int} {n : Int} (h : M.runOk m s n = false) : m.ok = false ∨ (m.ok = true ∧ M.sOk s = false) ∨ (m.ok = true ∧ M.sOk s = true ∧ n < 0) ∨ (m.ok = true ∧ M.sOk s = true ∧ ¬ n < 0 ∧ 1000 < n) := by
  cases h1 : m.ok with
  | false => exact .inl rfl
  | true =>
    cases h2 : M.sOk s with
    | false => exact .inr (.inl ⟨rfl, rfl⟩)
    | true =>
      by_cases h3 : n < 0
      · exact .inr (.inr (.inl ⟨rfl, rfl, h3⟩))
      · by_cases h4 : 1000 < n
        · exact .inr (.inr (.inr ⟨rfl, rfl, h3, h4⟩))
        · rw [M.runOk_mk h1 h2 (by omega) (by omega)] at h; cases h
set_option maxHeartbeats 4000000 in
theorem checkedRun_any (m : M.Mc) (s : Int × Int) (n : Int) (w : World) : Calls Tryz.prog 62 #[mcv m, stv s, .int .i64 n] w fun e w' => (M.runOk m s n = true → ∃ a cap, e = .returned (.tuple #[.slice a (n.toNat + 1) cap, .bool true]) ∧ OwnsQ 128 w' w.heap.size a (n.toNat + 1) cap (m.run s n.toNat)) ∧ (M.runOk m s n = false → e = .returned (.tuple #[.slice none 0 0, .bool false])) ∧ Below w.heap.size w w' := by
  have C1 := stepperOf_any m
  have C2 := statePair_any s
  have HR : Hid (∀ N : Nat, N ≤ 1000 → m.ok = true → M.sOk s = true → ∀ w, Calls Tryz.prog 93 #[.iface 190 (mcv m), stv s, .int .i64 N] w fun e w' => ∃ a cap, e = .returned (.slice a (N + 1) cap) ∧ OwnsQ 128 w' w.heap.size a (N + 1) cap (m.run s N) ∧ Below w.heap.size w w') := fun N hN hm hs w => runFrom_any m s N w hm hs hN
  have HT : Hid (∀ W, Below ((w.alloc (.cells (mcv m).cells 41)).alloc (.cells #[.int .i64 s.1, .int .i64 s.2] 31)).heap.size ((w.alloc (.cells (mcv m).cells 41)).alloc (.cells #[.int .i64 s.1, .int .i64 s.2] 31)) W → W.cell? ⟨w.heap.size + 1, 0, none⟩ = some (.int .i64 s.1) ∧ W.cell? ⟨w.heap.size + 1, 1, none⟩ = some (.int .i64 s.2)) := fun W hW => by
    have e : (w.alloc (.cells (mcv m).cells 41)).heap.size = w.heap.size + 1 := by simp
    have h := fun i => World.cell?_alloc_new (w.alloc (.cells (mcv m).cells 41)) #[.int .i64 s.1, .int .i64 s.2] 31 i
    rw [e] at h
    exact ⟨(hW.cell (p := ⟨w.heap.size + 1, 0, none⟩) (by simp)).trans (h 0), (hW.cell (p := ⟨w.heap.size + 1, 1, none⟩) (by simp)).trans (h 1)⟩
  have ec : (mcv m).cells = #[.int .i64 m.X.xx, .int .i64 m.X.xy, .int .i64 m.X.yy, .int .i64 m.X.x, .int .i64 m.X.y, .int .i64 m.X.k, .int .i64 m.Y.xx, .int .i64 m.Y.xy, .int .i64 m.Y.yy, .int .i64 m.Y.x, .int .i64 m.Y.y, .int .i64 m.Y.k] := rfl
  rw [ec] at HT
  clear ec
  cases hok : M.runOk m s n with
  | false =>
    have hno := M.runOk_no hok
    clear hok HR
    obtain ⟨⟨a, b, c, d, f, k⟩, ⟨a', b', c', d', f', k'⟩⟩ := m
    obtain ⟨x, y⟩ := s
    dsimp only [mcv, stv] at C1 C2 HT ⊢
    generalize M.Mc.ok ⟨⟨a, b, c, d, f, k⟩, ⟨a', b', c', d', f', k'⟩⟩ = o1 at C1 hno
    generalize M.sOk (x, y) = o2 at C2 hno
    rcases hno with rfl | ⟨rfl, rfl⟩ | ⟨rfl, rfl, h3⟩ | ⟨rfl, rfl, h3, h4⟩
    all_goals
      go_enter Tryz.func62, Tryz.ntmps62
      go_wp2_with fail
      refine (C1 _).mono ?_
      rintro e w1 ⟨m', rfl, hE1, hb1⟩
      obtain ⟨t0, t1⟩ := HT.out _ hb1
      have HB1 : Hid (Below w.heap.size w w1) := (((Below.refl _ _).alloc (Nat.le_refl _) _).alloc (by simp) _).trans (hb1.mono (by simp; omega))
      have HE1 : Hid _ := hE1
      clear hb1 hE1
      go_wp2_with fail
      refine (C2 _).mono ?_
      rintro e w2 ⟨⟨p1, p2⟩, rfl, hp2, hE2, hb2⟩
      have HB2 : Hid (Below w.heap.size w w2) := HB1.out.trans (hb2.mono HB1.out.size)
      have HE2 : Hid _ := hE2
      clear hb2 hE2 hp2
      go_wp2
      go_ret2
      exact ⟨fun h => by simp at h, fun _ => rfl, HB2.out.alloc HB2.out.size _⟩
  | true =>
    obtain ⟨hm, hs, h3, h4⟩ := M.runOk_parts hok
    obtain ⟨N, rfl⟩ := Int.eq_ofNat_of_zero_le h3
    have hN : N ≤ 1000 := by omega
    have HR1 : Hid (∀ w, Calls Tryz.prog 93 #[.iface 190 (mcv m), stv s, .int .i64 N] w fun e w' => ∃ a cap, e = .returned (.slice a (N + 1) cap) ∧ OwnsQ 128 w' w.heap.size a (N + 1) cap (m.run s N) ∧ Below w.heap.size w w') := HR.out N hN hm hs
    rw [hm] at C1
    rw [hs] at C2
    clear hok HR hm hs h3 h4
    generalize hrun : m.run s N = rn at HR1
    have HRN : Hid (m.run s (Int.toNat N) = rn) := hrun
    have HL : Hid (Int.toNat (N : Int) = N) := Int.toNat_natCast N
    clear hrun
    obtain ⟨⟨a, b, c, d, f, k⟩, ⟨a', b', c', d', f', k'⟩⟩ := m
    obtain ⟨x, y⟩ := s
    dsimp only [mcv, stv] at C1 C2 HT HR1 ⊢
    go_enter Tryz.func62, Tryz.ntmps62
    go_wp2_with fail
    refine (C1 _).mono ?_
    rintro e w1 ⟨m', rfl, hE1, hb1⟩
    obtain ⟨t0, t1⟩ := HT.out _ hb1
    have HB1 : Hid (Below w.heap.size w w1) := (((Below.refl _ _).alloc (Nat.le_refl _) _).alloc (by simp) _).trans (hb1.mono (by simp; omega))
    have HE1 : Hid _ := hE1
    clear hb1 hE1
    go_wp2_with fail
    refine (C2 _).mono ?_
    rintro e w2 ⟨⟨p1, p2⟩, rfl, hp2, hE2, hb2⟩
    have HB2 : Hid (Below w.heap.size w w2) := HB1.out.trans (hb2.mono HB1.out.size)
    have HE2 : Hid _ := hE2
    clear hb2 hE2 hp2
    obtain rfl := HE1.out trivial
    have hE2 := HE2.out trivial
    simp only [Prod.mk.injEq] at hE2
    obtain ⟨rfl, rfl⟩ := hE2
    have hN0 : ¬ (N : Int) < 0 := by omega
    have hN1 : ¬ 1000 < (N : Int) := by omega
    go_wp2_with fail
    refine (HR1.out _).mono ?_
    rintro e w3 ⟨ra, rc, rfl, ho3, hb3⟩
    have HB3 : Hid (Below w.heap.size w w3) := (HB2.out.alloc HB2.out.size _).trans (hb3.mono (by have := HB2.out.size; simp; omega))
    have HO3 : Hid (OwnsQ 128 w3 w.heap.size ra (N + 1) rc rn) := ho3.mono (by have := HB2.out.size; simp; omega)
    clear ho3 hb3
    go_wp2
    go_ret2
    refine ⟨fun _ => ⟨ra, rc, rfl, ?_⟩, fun h => by simp at h, HB3.out⟩
    rw [HRN.out, HL.out]; exact HO3.out
end Go.Proofs.YtfhknkppiidnkaaGreat
namespace Go.Proofs.YtfhknkppiidnkaaGreat
open Go.RowKit

theorem info_state : (Tryz.prog.info? 31).map (fun i => (i.zero, i.size, i.bytes)) = some (some (.agg #[.int .i64 0, .int .i64 0]), 2, 16) := by kernel_rfl
set_option maxHeartbeats 2000000 in
theorem states1_any {a : Option Addr} {n cap base : Nat} {ps : List (Int × Int)} (s : Int × Int) (w : World) (ho : OwnsQ 31 w base a n cap ps) (hb : base ≤ w.heap.size) (hn : n ≤ 2000) :
    Calls Tryz.prog 123 #[.slice a n cap, stv s] w fun e w' => ∃ a' cap', e = .returned (.slice a' (n + 1) cap') ∧ OwnsQ 31 w' base a' (n + 1) cap' (ps ++ [s]) ∧ Below base w w' := by
  have HO : Hid (OwnsQ 31 w base a n cap ps) := ho
  obtain ⟨i0, hi, hz0, hz1, hz2⟩ := info_parts info_state
  have HI : Hid (Tryz.prog.info? 31 = some i0 ∧ i0.zero = some (.agg #[.int .i64 0, .int .i64 0]) ∧ i0.size = 2 ∧ i0.bytes = 16) := ⟨hi, hz0, hz1, hz2⟩
  have HL : Hid ((ps ++ [s]).length = n + 1) := by show _ = _; rw [List.length_append, ho.1]; rfl
  clear ho hi hz0 hz1 hz2
  have C1 := state_any s
  obtain ⟨x, y⟩ := s
  dsimp only [stv] at C1 ⊢
  go_enter Tryz.func123, Tryz.ntmps123
  go_wp2_with fail
  refine (C1 _).mono ?_
  rintro e w1 ⟨rfl, hb1⟩
  have HB1 : Hid (Below base w w1) := ((Below.refl _ _).alloc hb _).trans (hb1.mono (by simp; omega))
  have HO1 : Hid (OwnsQ 31 w1 base a n cap ps) := (HO.out.below ((Below.refl _ _).alloc (Nat.le_refl _) _)).below hb1
  have hb2 : base ≤ w1.heap.size := Nat.le_trans hb HB1.out.size
  clear hb1 HO
  go_wp2_with (at_builtin; refine wpList_append_own _ rfl _ _ 108 rfl base 31 i0 (.agg #[.int .i64 0, .int .i64 0]) 2 16 Tryz.underlying108 HI.out.1 HI.out.2.1 HI.out.2.2.1 HI.out.2.2.2 rfl (by decide) _ n (prs ps) rfl (World.ownsRow.alloc HO1.out.2 _) ⟨w1.heap.size, 0, none⟩ 1 1 [.int .i64 x, .int .i64 y] rfl rfl (cell_twoq w1 _ _ _) (two_intsq _ _) (by unfold maxLen; omega) (by omega) (by simp; omega) ?_)
  intro v' w4 hown hgrow _
  have hown' : w4.ownsRow base 31 2 v' (n + 1) (prs (ps ++ [(x, y)])) := by rw [← prs_snoc]; exact hown
  obtain ⟨b4, c4, rfl, ho4⟩ := OwnsQ.form HL.out hown'
  have HO4 : Hid (OwnsQ 31 w4 base b4 (n + 1) c4 (ps ++ [(x, y)])) := ho4
  have HB4 : Hid (Below base w w4) := (HB1.out.alloc hb2 _).grown hgrow (by simp; omega) HO1.out.row
  clear hown hown' hgrow ho4
  go_wp2
  go_ret
  exact ⟨b4, c4, rfl, HO4.out, HB4.out⟩
theorem take_snocq (ps : List (Int × Int)) {k : Nat} (h : k < ps.length) : ps.take k ++ [ps.getD k (0, 0)] = ps.take (k + 1) := by
  rw [List.getD_eq_getElem?_getD, List.getElem?_eq_getElem h, List.take_succ_eq_append_getElem h]; rfl
set_option maxHeartbeats 2000000 in
theorem foldStates_any {a b : Option Addr} {n c cap : Nat} {ps : List (Int × Int)} (w0 w : World) (hz : SeesQ w0 a n c ps) (hbl : Below w0.heap.size w0 w) (ho : OwnsQ 31 w w0.heap.size b 0 cap []) (hn : n ≤ 1001) :
    Calls Tryz.prog 122 #[.slice a n c, .slice b 0 cap, .func (.func 123) #[] #[]] w fun e w' => ∃ a' cap', e = .returned (.slice a' n cap') ∧ OwnsQ 31 w' w0.heap.size a' n cap' ps ∧ Below w0.heap.size w0 w' := by
  have HZ : Hid (SeesQ w0 a n c ps) := hz
  have HBl : Hid (Below w0.heap.size w0 w) := hbl
  have HO : Hid (OwnsQ 31 w w0.heap.size b 0 cap (ps.take 0)) := ho
  clear hz hbl ho
  go_enter Tryz.func122, Tryz.ntmps122
  go_wp2
  go_loopw [1, 11] (fun s i wr => ∃ (k : Nat) (a' : Option Addr) (cap' : Nat), k ≤ n ∧ i = .int .i64 k ∧ s = .slice a' k cap' ∧ OwnsQ 31 wr w0.heap.size a' k cap' (ps.take k) ∧ Below w0.heap.size w0 wr) (fun _ i _ => n - (intOf i).toNat)
  case atStart => exact ⟨0, _, _, by omega, rfl, rfl, HO.out, HBl.out⟩
  case round =>
    obtain ⟨k, a', cap', hk, rfl, rfl, ho1, hb1⟩ := hrel
    have HO1 : Hid (OwnsQ 31 wr w0.heap.size a' k cap' (ps.take k)) := ho1
    have HB1 : Hid (Below w0.heap.size w0 wr) := hb1
    clear ho1 hb1 HO HBl
    by_cases hlt : k < n
    · obtain ⟨b1, o1, rfl, hc1⟩ := (HZ.out.below HB1.out).at (by omega)
      obtain ⟨e1, e2⟩ := hc1 k hlt
      have hI : (k : Int) < (n : Int) := by omega
      have HS : Hid (ps.take k ++ [ps.getD k (0, 0)] = ps.take (k + 1)) := take_snocq ps (by rw [HZ.out.len]; exact hlt)
      clear hc1
      generalize ps.getD k (0, 0) = q at e1 e2 HS
      have C1 := states1_any (a := a') (n := k) (cap := cap') (base := w0.heap.size) (ps := ps.take k) q
      obtain ⟨x, y⟩ := q
      dsimp only [stv] at C1 e1 e2
      have HC1 : Hid _ := C1
      clear C1
      go_wp2_with fail
      refine (HC1.out _ (HO1.out.below ((Below.refl _ _).alloc (Nat.le_refl _) _)) (by have := HB1.out.size; simp; omega) (by omega)).mono ?_
      rintro e w4 ⟨b4, c4, rfl, ho4, hb4⟩
      have HO4 : Hid (OwnsQ 31 w4 w0.heap.size b4 (k + 1) c4 (ps.take (k + 1))) := by
        show OwnsQ _ _ _ _ _ _ _
        rw [← HS.out]; exact ho4
      have HB4 : Hid (Below w0.heap.size w0 w4) := (HB1.out.alloc HB1.out.size _).trans hb4
      clear ho4 hb4
      go_wp2
      go_roundw
      case rel => exact ⟨k + 1, b4, c4, by omega, by go_num, rfl, HO4.out, HB4.out⟩
      case measure => simp [intOf]; omega
    · have hkn : k = n := by omega
      subst hkn
      go_wp2
      go_ret
      refine ⟨a', cap', rfl, ?_, HB1.out⟩
      have := HO1.out
      rw [List.take_of_length_le (by rw [HZ.out.len]; exact Nat.le_refl _)] at this
      exact this
end Go.Proofs.YtfhknkppiidnkaaGreat
namespace Go.Proofs.YtfhknkppiidnkaaGreat
open Go.RowKit

set_option maxHeartbeats 1000000 in
theorem statesOf_any {a : Option Addr} {n c : Nat} {ps : List (Int × Int)} (w : World) (hz : SeesQ w a n c ps) (hn : n ≤ 1001) :
    Calls Tryz.prog 86 #[.slice a n c] w fun e w' => ∃ a' cap', e = .returned (.slice a' n cap') ∧ OwnsQ 31 w' w.heap.size a' n cap' ps ∧ Below w.heap.size w w' := by
  have HZ : Hid (SeesQ w a n c ps) := hz
  obtain ⟨i0, hi, hz0, hz1, hz2⟩ := info_parts info_state
  clear hz
  go_enter Tryz.func86, Tryz.ntmps86
  go_wp2_with (at_make; refine wpList_make_own _ rfl _ _ 108 rfl w.heap.size 31 i0 (.agg #[.int .i64 0, .int .i64 0]) 2 Tryz.underlying108 hi hz0 hz1 .i64 .i64 _ n rfl rfl rfl (by rw [hz2]; omega) (by unfold maxLen; omega) (Nat.le_refl _) ?_)
  intro w1 hown hg
  have HO : Hid (OwnsQ 31 w1 w.heap.size (some ⟨w.heap.size, 0, none⟩) 0 n []) := ⟨rfl, hown⟩
  have HB : Hid (Below w.heap.size w w1) := below_grown hg
  clear hown hg hi hz0 hz1 hz2
  go_wp2_with fail
  refine (foldStates_any w w1 HZ.out HB.out HO.out hn).mono ?_
  rintro e w2 ⟨a2, c2, rfl, ho2, hb2⟩
  have HO2 : Hid (OwnsQ 31 w2 w.heap.size a2 n c2 ps) := ho2
  have HB2 : Hid (Below w.heap.size w w2) := hb2
  clear ho2 hb2
  go_wp2
  go_ret
  exact ⟨a2, c2, rfl, HO2.out, HB2.out⟩
def M.aft (m : M.Mc) (s : Int × Int) (n : Int) : Int × Int := if M.runOk m s n = true then m.rn s n.toNat else (0, 0)
theorem M.aft_in {m : M.Mc} {s : Int × Int} {n : Int} (h : M.runOk m s n = true) : M.aft m s n = m.rn s n.toNat := if_pos h
theorem M.aft_out {m : M.Mc} {s : Int × Int} {n : Int} (h : M.runOk m s n = false) : M.aft m s n = (0, 0) := if_neg (by rw [h]; decide)
def M.runv (m : M.Mc) (s : Int × Int) (n : Int) : List (Int × Int) := if M.runOk m s n = true then m.run s n.toNat else []
theorem M.runv_in {m : M.Mc} {s : Int × Int} {n : Int} (h : M.runOk m s n = true) : M.runv m s n = m.run s n.toNat := if_pos h
theorem M.runv_out {m : M.Mc} {s : Int × Int} {n : Int} (h : M.runOk m s n = false) : M.runv m s n = [] := if_neg (by rw [h]; decide)
theorem ownsQ_none (t : TypeId) (w : World) (base : Nat) : OwnsQ t w base none 0 0 [] := ⟨rfl, rfl, .inl ⟨rfl, rfl⟩⟩
theorem len0 {m : M.Mc} {s : Int × Int} {n : Int} (h : M.runOk m s n = true) : (M.runv m s n).length = n.toNat + 1 := by rw [M.runv_in h, M.run_len]
set_option maxHeartbeats 2000000 in
theorem implRunOf_any (m : M.Mc) (s : Int × Int) (n : Int) (w : World) : Calls Tryz.prog 50 #[mcv m, stv s, .int .i64 n] w fun e w' => ∃ a l cap, e = .returned (.tuple #[.slice a l cap, .bool (M.runOk m s n)]) ∧ l ≤ 1001 ∧ OwnsQ 31 w' w.heap.size a l cap (M.runv m s n) ∧ Below w.heap.size w w' := by
  have C1 := checkedRun_any m s n
  cases hok : M.runOk m s n with
  | false =>
    have HV : Hid (M.runv m s n = []) := M.runv_out hok
    rw [hok] at C1
    obtain ⟨⟨a, b, c, d, f, k⟩, ⟨a', b', c', d', f', k'⟩⟩ := m
    obtain ⟨x, y⟩ := s
    dsimp only [mcv, stv] at C1 ⊢
    clear hok
    go_enter Tryz.func50, Tryz.ntmps50
    go_wp2_with fail
    refine (C1 _).mono ?_
    rintro e w1 ⟨-, he, hb1⟩
    obtain rfl := he trivial
    have HB1 : Hid (Below w.heap.size w w1) := (((Below.refl _ _).alloc (Nat.le_refl _) _).alloc (by simp) _).trans (hb1.mono (by simp; omega))
    clear hb1 he
    go_wp2
    go_ret2
    exact ⟨none, 0, 0, rfl, by omega, by rw [HV.out]; exact ownsQ_none _ _ _, HB1.out⟩
  | true =>
    obtain ⟨hm, hs, h3, h4⟩ := M.runOk_parts hok
    have HV : Hid (M.runv m s n = m.run s n.toNat) := M.runv_in hok
    rw [hok] at C1
    have hN : n.toNat + 1 ≤ 1001 := by omega
    generalize hrun : m.run s n.toNat = rn at C1 HV
    have hN0 : 0 < n.toNat + 1 := by omega
    generalize n.toNat + 1 = N at C1 hN hN0
    obtain ⟨⟨a, b, c, d, f, k⟩, ⟨a', b', c', d', f', k'⟩⟩ := m
    obtain ⟨x, y⟩ := s
    dsimp only [mcv, stv] at C1 ⊢
    clear hok hm hs h3 h4 hrun
    go_enter Tryz.func50, Tryz.ntmps50
    go_wp2_with fail
    refine (C1 _).mono ?_
    rintro e w1 ⟨he, -, hb1⟩
    obtain ⟨ra, rc, rfl, ho1⟩ := he trivial
    have HB1 : Hid (Below w.heap.size w w1) := (((Below.refl _ _).alloc (Nat.le_refl _) _).alloc (by simp) _).trans (hb1.mono (by simp; omega))
    have HS1 : Hid (SeesQ w1 ra N rc rn) := ho1.sees (by omega)
    clear hb1 he ho1
    go_wp2_with fail
    refine (statesOf_any _ HS1.out hN).mono ?_
    rintro e w2 ⟨a2, c2, rfl, ho2, hb2⟩
    have HO2 : Hid (OwnsQ 31 w2 w.heap.size a2 N c2 rn) := ho2.mono HB1.out.size
    have HB2 : Hid (Below w.heap.size w w2) := HB1.out.trans (hb2.mono HB1.out.size)
    clear ho2 hb2
    go_wp2
    go_ret2
    exact ⟨a2, N, c2, rfl, hN, by rw [HV.out]; exact HO2.out, HB2.out⟩
set_option maxHeartbeats 2000000 in
theorem implAfter_any (m : M.Mc) (s : Int × Int) (n : Int) (w : World) : Calls Tryz.prog 31 #[mcv m, stv s, .int .i64 n] w fun e w' => e = .returned (.tuple #[stv (M.aft m s n), .bool (M.runOk m s n)]) ∧ Below w.heap.size w w' := by
  have C1 := checkedRun_any m s n
  have HT : Hid (∀ W, Below (((w.alloc (.cells #[.int .i64 m.X.xx, .int .i64 m.X.xy, .int .i64 m.X.yy, .int .i64 m.X.x, .int .i64 m.X.y, .int .i64 m.X.k, .int .i64 m.Y.xx, .int .i64 m.Y.xy, .int .i64 m.Y.yy, .int .i64 m.Y.x, .int .i64 m.Y.y, .int .i64 m.Y.k] 41)).alloc (.cells #[.int .i64 s.1, .int .i64 s.2] 31)).alloc (.cells #[.int .i64 0, .int .i64 0] 31)).heap.size (((w.alloc (.cells #[.int .i64 m.X.xx, .int .i64 m.X.xy, .int .i64 m.X.yy, .int .i64 m.X.x, .int .i64 m.X.y, .int .i64 m.X.k, .int .i64 m.Y.xx, .int .i64 m.Y.xy, .int .i64 m.Y.yy, .int .i64 m.Y.x, .int .i64 m.Y.y, .int .i64 m.Y.k] 41)).alloc (.cells #[.int .i64 s.1, .int .i64 s.2] 31)).alloc (.cells #[.int .i64 0, .int .i64 0] 31)) W → W.cell? ⟨w.heap.size + 1 + 1, 0, none⟩ = some (.int .i64 0) ∧ W.cell? ⟨w.heap.size + 1 + 1, 1, none⟩ = some (.int .i64 0) ∧ W.frozen? ⟨w.heap.size + 1 + 1, 0, none⟩ = false ∧ W.frozen? ⟨w.heap.size + 1 + 1, 1, none⟩ = false) := fun W hW =>
    ⟨(hW.cell (p := ⟨w.heap.size + 1 + 1, 0, none⟩) (by simp)).trans (chain3m w _ _ _ _ _ _ 0).2.2.1, (hW.cell (p := ⟨w.heap.size + 1 + 1, 1, none⟩) (by simp)).trans (chain3m w _ _ _ _ _ _ 1).2.2.1, (frozen_kept hW (show w.heap.size + 1 + 1 < _ by simp)).trans (chain3m w _ _ _ _ _ _ 0).2.2.2, (frozen_kept hW (show w.heap.size + 1 + 1 < _ by simp)).trans (chain3m w _ _ _ _ _ _ 1).2.2.2⟩
  cases hok : M.runOk m s n with
  | false =>
    rw [M.aft_out hok]
    rw [hok] at C1
    obtain ⟨⟨a, b, c, d, f, k⟩, ⟨a', b', c', d', f', k'⟩⟩ := m
    obtain ⟨x, y⟩ := s
    dsimp only [mcv, stv] at C1 HT ⊢
    clear hok
    go_enter Tryz.func31, Tryz.ntmps31
    go_wp2_with fail
    refine (C1 _).mono ?_
    rintro e w1 ⟨-, he, hb1⟩
    obtain rfl := he trivial
    have HB1 : Hid (Below w.heap.size w w1) := ((((Below.refl _ _).alloc (Nat.le_refl _) _).alloc (by simp) _).alloc (by simp; omega) _).trans (hb1.mono (by simp; omega))
    obtain ⟨t0, t1, t2, t3⟩ := HT.out _ hb1
    clear hb1 he
    go_wp2
    refine bodyPost_ret (v := .tuple #[.agg #[.int .i64 0, .int .i64 0], .bool false]) (by simp [results, Tryz.results31, go_sem, t0, t1]) rfl ⟨rfl, ?_⟩
    exact (HB1.out.setCell (by show w.heap.size ≤ w.heap.size + 1 + 1; omega) _).setCell (by show w.heap.size ≤ w.heap.size + 1 + 1; omega) _
  | true =>
    obtain ⟨hm, hs, h3, h4⟩ := M.runOk_parts hok
    rw [M.aft_in hok]
    rw [hok] at C1
    have HG : Hid ((m.run s n.toNat).getD n.toNat (0, 0) = m.rn s n.toNat) := M.run_get m s _ _ (Nat.le_refl _)
    have hN : n.toNat ≤ 1000 := by omega
    have CS := state_any (m.rn s n.toNat)
    generalize m.run s n.toNat = rn at C1 HG
    generalize m.rn s n.toNat = q at HG CS ⊢
    generalize n.toNat = N at C1 HG hN
    obtain ⟨⟨a, b, c, d, f, k⟩, ⟨a', b', c', d', f', k'⟩⟩ := m
    obtain ⟨x, y⟩ := s
    obtain ⟨u, v⟩ := q
    dsimp only [mcv, stv] at C1 HT CS ⊢
    clear hok hm hs h3 h4
    go_enter Tryz.func31, Tryz.ntmps31
    go_wp2_with fail
    refine (C1 _).mono ?_
    rintro e w1 ⟨he, -, hb1⟩
    obtain ⟨ra, rc, rfl, ho1⟩ := he trivial
    have HB1 : Hid (Below w.heap.size w w1) := ((((Below.refl _ _).alloc (Nat.le_refl _) _).alloc (by simp) _).alloc (by simp; omega) _).trans (hb1.mono (by simp; omega))
    have HB1' : Hid (Below _ _ w1) := hb1
    obtain ⟨g, rfl, -, hcap, hbig, hc⟩ := ho1.block (by omega)
    obtain ⟨e1, e2⟩ := hc N (by omega)
    rw [HG.out] at e1 e2
    have hcI : ((N + 1 : Nat) : Int) ≤ rc := by omega
    clear hb1 he ho1 hc
    dsimp only at e1 e2
    go_wp2_with fail
    refine (CS _).mono ?_
    rintro e w2 ⟨rfl, hb2⟩
    have HB2 : Hid (Below w.heap.size w w2) := HB1.out.trans (hb2.mono HB1.out.size)
    obtain ⟨t0, t1, t2, t3⟩ := HT.out _ (HB1'.out.trans (hb2.mono HB1'.out.size))
    clear hb2 HB1'
    go_wp2
    refine bodyPost_ret (v := .tuple #[.agg #[.int .i64 u, .int .i64 v], .bool true]) (by simp [results, Tryz.results31, go_sem, t0, t1]) rfl ⟨rfl, ?_⟩
    exact (HB2.out.setCell (by show w.heap.size ≤ w.heap.size + 1 + 1; omega) _).setCell (by show w.heap.size ≤ w.heap.size + 1 + 1; omega) _
theorem implMachineOk_any (m : M.Mc) (w : World) : Calls Tryz.prog 144 #[mcv m] w fun e w' => e = .returned (.bool m.ok) ∧ Below w.heap.size w w' := by
  have C1 := stepperOf_any m
  generalize m.ok = o at C1 ⊢
  obtain ⟨⟨a, b, c, d, f, k⟩, ⟨a', b', c', d', f', k'⟩⟩ := m
  dsimp only [mcv] at C1 ⊢
  go_enter Tryz.func144, Tryz.ntmps144
  go_wp2_with fail
  refine (C1 _).mono ?_
  rintro e w1 ⟨m', rfl, -, hb1⟩
  have HB1 : Hid (Below w.heap.size w w1) := ((Below.refl _ _).alloc (Nat.le_refl _) _).trans (hb1.mono (by simp))
  clear hb1
  go_wp2
  go_ret
  exact ⟨rfl, HB1.out⟩
theorem implStateOk_any (s : Int × Int) (w : World) : Calls Tryz.prog 64 #[stv s] w fun e w' => e = .returned (.bool (M.sOk s)) ∧ Below w.heap.size w w' := by
  have C1 := statePair_any s
  generalize M.sOk s = o at C1 ⊢
  obtain ⟨x, y⟩ := s
  dsimp only [stv] at C1 ⊢
  go_enter Tryz.func64, Tryz.ntmps64
  go_wp2_with fail
  refine (C1 _).mono ?_
  rintro e w1 ⟨⟨p, q⟩, rfl, -, -, hb1⟩
  have HB1 : Hid (Below w.heap.size w w1) := ((Below.refl _ _).alloc (Nat.le_refl _) _).trans (hb1.mono (by simp))
  clear hb1
  go_wp2
  go_ret
  exact ⟨rfl, by first | exact HB1.out | exact HB1.out.alloc HB1.out.size _⟩
end Go.Proofs.YtfhknkppiidnkaaGreat
