/- Runs, in the program. Runs whose machine, state and number are checked, in the program. The states of a run, in the program. What is exported of runs, in the program. -/
import Derived.Test.YtbcfjbkmkknmfaaMaD
import Derived.Test.YtbcfjbkmkknmfaaMaP
import Derived.Test.YtbcfjbkmkknmfaaSlD
namespace Go.Proofs.Ytbcfjbkmkknmfaa
open Go.RowKit

theorem wrap_smallm {x : Int} (h0 : 0 ≤ x) (h1 : x < 9223372036854775808) : IntKind.i64.wrap x = x := by
  unfold IntKind.wrap
  have e : x % 2 ^ IntKind.i64.bits = x := Int.emod_eq_of_lt h0 (by show x < 18446744073709551616; omega)
  simp only [e]
  rw [if_neg]
  rw [Bool.and_eq_true, decide_eq_true_iff]
  rintro ⟨_, h⟩
  have h' : x ≥ 9223372036854775808 := h
  omega
theorem info_pair : (Try.prog.info? 62).map (fun i => (i.zero, i.size, i.bytes)) = some (some (.agg #[.int .i64 0, .int .i64 0]), 2, 16) := by kernel_rfl
theorem run_make_pair (k : Nat) (hk : k ≤ 2000000) (w : World) : (Instr.makeSlice 71 (.int .i64 0) (.int .i64 (k : Int))).run Try.prog w = .ok (.slice (some ⟨w.heap.size, 0, none⟩) 0 k) (w.alloc (.cells (madeCells #[.int .i64 0, .int .i64 0] (k * 2)) 62)) := by
  obtain ⟨i0, hi, hz0, hz1, hz2⟩ := info_parts info_pair
  have h := run_make (P := Try.prog) w 71 62 i0 (.agg #[.int .i64 0, .int .i64 0]) Try.underlying71 hi hz0 .i64 .i64 0 (k : Int) (by omega) (by omega) (by rw [hz2]; omega) (by omega)
  rw [hz1] at h
  simpa [Value.cells] using h
theorem cell_twoA (W : World) (g : Nat) (hg : W.heap.size = g) (x y : Value) (t : TypeId) : ∀ ad, some (⟨g, 0, none⟩ : Addr) = some ad → ∀ j u, [x, y][j]? = some u → (W.alloc (.cells #[x, y] t)).drew.cell? (ad.add j) = some u := by
  subst hg
  intro ad had j u hj
  simp only [Option.some.injEq] at had
  subst had
  exact cell_twoq W x y t j u hj
theorem cell_twoB (W : World) (g : Nat) (hg : W.heap.size = g) (x y : Value) (t t2 : TypeId) (A : Array Value) : ∀ ad, some (⟨g, 0, none⟩ : Addr) = some ad → ∀ j u, [x, y][j]? = some u → ((W.alloc (.cells #[x, y] t)).alloc (.cells A t2)).drew.cell? (ad.add j) = some u := by
  subst hg
  intro ad had j u hj
  simp only [Option.some.injEq] at had
  subst had
  have e : ((⟨W.heap.size, 0, none⟩ : Addr).add j) = ⟨W.heap.size, j, none⟩ := by unfold Addr.add; split <;> simp_all
  have h := cell_twoq W x y t j u hj
  rw [e] at h ⊢
  exact (World.cell?_alloc_lt (w := W.alloc (.cells #[x, y] t)) (o := .cells A t2) (a := ⟨W.heap.size, j, none⟩) (h := by simp)).trans h
theorem frozen_one (w : World) (A : Array Value) (t : TypeId) (i : Nat) : (w.alloc (.cells A t)).frozen? ⟨w.heap.size, i, none⟩ = false := by
  rw [frozen?_alloc_cells]; simp only [World.frozen?]; rw [Array.getElem?_eq_none (by omega)]
theorem method_next (m : M.Mc) (fuel : Nat) (w : World) : (method (fuel + 1) 97 (mcv m) "loop.example/g00319/impl.next").run Try.prog w = .ok (108, mcv m) w := by kernel_rfl
set_option maxHeartbeats 2000000 in
theorem runFrom_any (m : M.Mc) (s : Int × Int) (n : Nat) (w : World) (hm : m.ok = true) (hs : M.sOk s = true) (hn : n ≤ 1000) :
    Calls Try.prog 25 #[.iface 97 (mcv m), stv s, .int .i64 n] w fun e w' => ∃ a cap, e = .returned (.slice a (n + 1) cap) ∧ OwnsQ 62 w' w.heap.size a (n + 1) cap (m.run s n) ∧ Below w.heap.size w w' := by
  have HM : Hid (m.ok = true) := hm
  have HS : Hid (M.sOk s = true) := hs
  have hmk := run_make_pair (n + 1) (by omega)
  have e1 : IntKind.i64.wrap ((n : Int) + 1) = ((n + 1 : Nat) : Int) := wrap_smallm (by omega) (by omega)
  rw [← e1] at hmk
  obtain ⟨i0, hi, hz0, hz1, hz2⟩ := info_parts info_pair
  have HI : Hid (Try.prog.info? 62 = some i0 ∧ i0.zero = some (.agg #[.int .i64 0, .int .i64 0]) ∧ i0.size = 2 ∧ i0.bytes = 16) := ⟨hi, hz0, hz1, hz2⟩
  have HR0 : Hid (m.run s 0 = [s]) := rfl
  clear hm hs hi hz0 hz1 hz2 e1
  obtain ⟨x, y⟩ := s
  dsimp only [stv]
  have HA1 : Hid (World.ownsRow (((w.alloc (.cells #[.int .i64 x, .int .i64 y] 62)).alloc (.cells (madeCells #[.int .i64 0, .int .i64 0] ((n + 1) * 2)) 62)).alloc (.cells #[.int .i64 x, .int .i64 y] 62)).drew (w.heap.size + 1) 62 2 (.slice (some ⟨w.heap.size + 1, 0, none⟩) 0 (n + 1)) 0 []) := by
    have h := World.ownsRow_made (base := w.heap.size + 1) (e := 62) (size := 2) (w.alloc (.cells #[.int .i64 x, .int .i64 y] 62)) (madeCells #[.int .i64 0, .int .i64 0] ((n + 1) * 2)) (n + 1) (by simp) (by unfold maxLen; omega) (by simp [size_madeCells])
    have h2 := World.ownsRow.drew (World.ownsRow.alloc h (.cells #[.int .i64 x, .int .i64 y] 62))
    show World.ownsRow _ _ _ _ _ _ _
    simpa using h2
  have HA2 : Hid (World.ownsRow (((w.alloc (.cells #[.int .i64 x, .int .i64 y] 62)).alloc (.cells #[.int .i64 x, .int .i64 y] 62)).alloc (.cells (madeCells #[.int .i64 0, .int .i64 0] ((n + 1) * 2)) 62)).drew (w.heap.size + 1) 62 2 (.slice (some ⟨w.heap.size + 1 + 1, 0, none⟩) 0 (n + 1)) 0 []) := by
    have h := World.ownsRow_made (base := w.heap.size + 1) (e := 62) (size := 2) ((w.alloc (.cells #[.int .i64 x, .int .i64 y] 62)).alloc (.cells #[.int .i64 x, .int .i64 y] 62)) (madeCells #[.int .i64 0, .int .i64 0] ((n + 1) * 2)) (n + 1) (by simp) (by unfold maxLen; omega) (by simp [size_madeCells])
    have h2 := World.ownsRow.drew h
    show World.ownsRow _ _ _ _ _ _ _
    simpa using h2
  have HC1 : Hid (∀ ad, some (⟨w.heap.size + 1 + 1, 0, none⟩ : Addr) = some ad → ∀ j u, [Value.int .i64 x, .int .i64 y][j]? = some u → (((w.alloc (.cells #[.int .i64 x, .int .i64 y] 62)).alloc (.cells (madeCells #[.int .i64 0, .int .i64 0] ((n + 1) * 2)) 62)).alloc (.cells #[.int .i64 x, .int .i64 y] 62)).drew.cell? (ad.add j) = some u) := cell_twoA _ _ (by simp) _ _ _
  have HC2 : Hid (∀ ad, some (⟨w.heap.size + 1, 0, none⟩ : Addr) = some ad → ∀ j u, [Value.int .i64 x, .int .i64 y][j]? = some u → (((w.alloc (.cells #[.int .i64 x, .int .i64 y] 62)).alloc (.cells #[.int .i64 x, .int .i64 y] 62)).alloc (.cells (madeCells #[.int .i64 0, .int .i64 0] ((n + 1) * 2)) 62)).drew.cell? (ad.add j) = some u) := cell_twoB _ _ (by simp) _ _ _ _ _
  go_enter Try.func25, Try.ntmps25
  go_wp2
  go_region_law (first
    | (refine step_append_mix rfl (.tmp 10) (.tmp 12) 71 71 rfl (w.heap.size + 1) 62 i0 2 Try.underlying71 Try.underlying71 HI.out.1 HI.out.2.2.1 (w.heap.size + 1) 0 (n + 1) [] (by simp [Act.eval]) HA1.out (some ⟨w.heap.size + 1 + 1, 0, none⟩) 1 1 [.int .i64 x, .int .i64 y] (by simp [Act.eval]) rfl (fun h => by cases h) HC1.out (two_intsq _ _) (by omega) ?_; intro w1 hown hgrow)
    | (refine step_append_mix rfl (.tmp 10) (.tmp 12) 71 71 rfl (w.heap.size + 1) 62 i0 2 Try.underlying71 Try.underlying71 HI.out.1 HI.out.2.2.1 (w.heap.size + 1 + 1) 0 (n + 1) [] (by simp [Act.eval]) HA2.out (some ⟨w.heap.size + 1, 0, none⟩) 1 1 [.int .i64 x, .int .i64 y] (by simp [Act.eval]) rfl (fun h => by cases h) HC2.out (two_intsq _ _) (by omega) ?_; intro w1 hown hgrow))
  all_goals
    have HBx : Hid (Below (w.heap.size + 1) (w.alloc (.cells #[.int .i64 x, .int .i64 y] 62)) w1) := (((Below.refl (w.heap.size + 1) (w.alloc (.cells #[.int .i64 x, .int .i64 y] 62))).alloc (by simp) _).alloc (by simp) _).drew.grown hgrow (by simp) (fun j hj => by simp at hj; omega)
    have HSz : Hid (w.heap.size < w1.heap.size) := by have := HBx.out.size; simp at this; exact this
    have HB : Hid (Below w.heap.size w w1) := ((Below.refl w.heap.size w).alloc (Nat.le_refl _) _).trans (HBx.out.mono (by omega))
    obtain ⟨aa, ca, hsl, ho⟩ := OwnsQ.form (ps := m.run (x, y) 0) rfl (by rw [HR0.out]; exact hown)
    simp only [Value.slice.injEq] at hsl
    obtain ⟨rfl, -, rfl⟩ := hsl
    have HO : Hid (OwnsQ 62 w1 (w.heap.size + 1) _ 1 (n + 1) (m.run (x, y) 0)) := ho
    have HC0 : Hid (w1.cell? ⟨w.heap.size, 0, none⟩ = some (.int .i64 x) ∧ w1.cell? ⟨w.heap.size, 1, none⟩ = some (.int .i64 y) ∧ w1.frozen? ⟨w.heap.size, 0, none⟩ = false ∧ w1.frozen? ⟨w.heap.size, 1, none⟩ = false) :=
      ⟨(HBx.out.cell (p := ⟨w.heap.size, 0, none⟩) (by simp)).trans (World.cell?_alloc_new _ _ _ _), (HBx.out.cell (p := ⟨w.heap.size, 1, none⟩) (by simp)).trans (World.cell?_alloc_new _ _ _ _), (frozen_kept HBx.out (by simp)).trans (frozen_one _ _ _ _), (frozen_kept HBx.out (by simp)).trans (frozen_one _ _ _ _)⟩
    clear hown hgrow ho HBx hmk
    go_wp2
    go_loopw [7, 15] (fun s i wr => ∃ (k : Nat) (a' : Option Addr) (cap' : Nat), k ≤ n ∧ i = .int .i64 k ∧ s = .slice a' (k + 1) cap' ∧ OwnsQ 62 wr (w.heap.size + 1) a' (k + 1) cap' (m.run (x, y) k) ∧ Below w.heap.size w wr ∧ w.heap.size < wr.heap.size ∧ (wr.cell? ⟨w.heap.size, 0, none⟩ = some (.int .i64 (m.rn (x, y) k).1) ∧ wr.cell? ⟨w.heap.size, 1, none⟩ = some (.int .i64 (m.rn (x, y) k).2) ∧ wr.frozen? ⟨w.heap.size, 0, none⟩ = false ∧ wr.frozen? ⟨w.heap.size, 1, none⟩ = false)) (fun _ i _ => n - (intOf i).toNat)
    case atStart => exact ⟨0, _, _, by omega, rfl, rfl, HO.out, HB.out, HSz.out, HC0.out⟩
    case round =>
      obtain ⟨k, a', cap', hk, rfl, rfl, ho1, hb1, hs1, c0, c1, f0, f1⟩ := hrel
      have HO1 : Hid (OwnsQ 62 wr (w.heap.size + 1) a' (k + 1) cap' (m.run (x, y) k)) := ho1
      have HB1 : Hid (Below w.heap.size w wr) := hb1
      have HS1 : Hid (w.heap.size < wr.heap.size) := hs1
      clear ho1 hb1 HO HB HC0 hs1
      by_cases hlt : k < n
      · have hI : (k : Int) < (n : Int) := by omega
        have HSk : Hid (M.sOk (m.rn (x, y) k) = true) := M.sOk_rn m HS.out k
        have HR : Hid (m.run (x, y) k ++ [m.nx (m.rn (x, y) k)] = m.run (x, y) (k + 1)) := M.run_snoc m (x, y) k
        have HN : Hid (m.nx (m.rn (x, y) k) = m.rn (x, y) (k + 1)) := rfl
        generalize m.rn (x, y) k = q at c0 c1 HSk HR HN
        obtain ⟨u, v⟩ := q
        dsimp only at c0 c1
        have hmt := method_next m
        go_wp2_with fail
        refine (stepM_any m (u, v) wr HM.out HSk.out).mono ?_
        rintro e w2 ⟨rfl, hb2⟩
        generalize m.nx (u, v) = q at HR HN
        obtain ⟨u2, v2⟩ := q
        have c2 : w2.cell? ⟨w.heap.size, 0, none⟩ = some (.int .i64 u) := (hb2.cell (p := ⟨w.heap.size, 0, none⟩) HS1.out).trans c0
        have c3 : w2.cell? ⟨w.heap.size, 1, none⟩ = some (.int .i64 v) := (hb2.cell (p := ⟨w.heap.size, 1, none⟩) HS1.out).trans c1
        have f2 : w2.frozen? ⟨w.heap.size, 0, none⟩ = false := (frozen_kept hb2 HS1.out).trans f0
        have f3 : w2.frozen? ⟨w.heap.size, 1, none⟩ = false := (frozen_kept hb2 HS1.out).trans f1
        obtain ⟨w3, hw3⟩ : ∃ w3, w3 = sets w2 w.heap.size 0 [.int .i64 u2, .int .i64 v2] := ⟨_, rfl⟩
        have ha := sets_at w.heap.size [Value.int .i64 u2, .int .i64 v2] w2 0 (fun j hj => by
          match j, hj with
          | 0, _ => exact ⟨_, c2⟩
          | 1, _ => exact ⟨_, c3⟩)
        rw [← hw3] at ha
        have d0 : w3.cell? ⟨w.heap.size, 0, none⟩ = some (.int .i64 u2) := by simpa using ha 0 _ rfl
        have d1 : w3.cell? ⟨w.heap.size, 1, none⟩ = some (.int .i64 v2) := by simpa using ha 1 _ rfl
        have g0 : w3.frozen? ⟨w.heap.size, 0, none⟩ = false := by rw [hw3, sets_frozen]; exact f2
        have g1 : w3.frozen? ⟨w.heap.size, 1, none⟩ = false := by rw [hw3, sets_frozen]; exact f3
        have HS3 : Hid (w.heap.size < w3.heap.size) := by show _ < _; rw [hw3, sets_size]; exact Nat.lt_of_lt_of_le HS1.out hb2.size
        have HO3 : Hid (OwnsQ 62 w3 (w.heap.size + 1) a' (k + 1) cap' (m.run (x, y) k)) := by
          show OwnsQ _ _ _ _ _ _ _
          rw [hw3]; exact OwnsQ.sets (by omega) _ _ _ (HO1.out.below hb2)
        have HB3 : Hid (Below w.heap.size w w3) := by
          show Below _ _ _
          rw [hw3]; exact sets_below (Nat.le_refl _) _ _ _ (HB1.out.trans (hb2.mono HB1.out.size))
        have HW3 : Hid (sets w2 w.heap.size 0 [.int .i64 u2, .int .i64 v2] = w3) := hw3.symm
        clear ha hw3 hb2 HO1 HB1 c0 c1 f0 f1
        have hs3 := HS3.out
        go_wp2_with (first | (rw [show (w2.setCell ⟨w.heap.size, 0, none⟩ (.int .i64 u2)).setCell ⟨w.heap.size, 1, none⟩ (.int .i64 v2) = w3 from HW3.out]) | (at_builtin; refine wpList_append_own _ rfl _ _ 71 rfl (w.heap.size + 1) 62 i0 (.agg #[.int .i64 0, .int .i64 0]) 2 16 Try.underlying71 HI.out.1 HI.out.2.1 HI.out.2.2.1 HI.out.2.2.2 rfl (by decide) _ (k + 1) (prs (m.run (x, y) k)) rfl (World.ownsRow.alloc HO3.out.2 _) ⟨w3.heap.size, 0, none⟩ 1 1 [.int .i64 u2, .int .i64 v2] rfl rfl (cell_twoq w3 _ _ _) (two_intsq _ _) (by unfold maxLen; omega) (by omega) (by simp; omega) ?_))
        intro v' w4 hown hgrow _
        have hown' : w4.ownsRow (w.heap.size + 1) 62 2 v' (k + 1 + 1) (prs (m.run (x, y) (k + 1))) := by rw [← HR.out, ← prs_snoc]; exact hown
        obtain ⟨b4, c4, rfl, ho4⟩ := OwnsQ.form (M.run_len m (x, y) (k + 1)) hown'
        have HO4 : Hid (OwnsQ 62 w4 (w.heap.size + 1) b4 (k + 1 + 1) c4 (m.run (x, y) (k + 1))) := ho4
        have hrow := HO3.out.row
        have HB4 : Hid (Below w.heap.size w w4) := (HB3.out.alloc HB3.out.size _).grown hgrow (by simp; omega) (fun q hq => by have := hrow q hq; omega)
        have HBk : Hid (Below (w.heap.size + 1) w3 w4) := ((Below.refl _ _).alloc (by omega) _).grown hgrow (by simp; omega) hrow
        have HC4 : Hid (w4.cell? ⟨w.heap.size, 0, none⟩ = some (.int .i64 (m.rn (x, y) (k + 1)).1) ∧ w4.cell? ⟨w.heap.size, 1, none⟩ = some (.int .i64 (m.rn (x, y) (k + 1)).2) ∧ w4.frozen? ⟨w.heap.size, 0, none⟩ = false ∧ w4.frozen? ⟨w.heap.size, 1, none⟩ = false) := by
          show _ ∧ _
          rw [← HN.out]
          exact ⟨(HBk.out.cell (p := ⟨w.heap.size, 0, none⟩) (by simp)).trans d0, (HBk.out.cell (p := ⟨w.heap.size, 1, none⟩) (by simp)).trans d1, (frozen_kept HBk.out (by simp)).trans g0, (frozen_kept HBk.out (by simp)).trans g1⟩
        have HS4 : Hid (w.heap.size < w4.heap.size) := Nat.lt_of_lt_of_le HS3.out HBk.out.size
        clear hown hown' hgrow ho4 hrow d0 d1 g0 g1
        go_wp2
        go_roundw
        case rel => exact ⟨k + 1, b4, c4, by omega, by go_num, rfl, HO4.out, HB4.out, HS4.out, HC4.out⟩
        case measure => simp [intOf]; omega
      · have hkn : k = n := by omega
        subst hkn
        go_wp2
        go_ret
        exact ⟨a', cap', rfl, HO1.out.mono (by omega), HB1.out⟩
end Go.Proofs.Ytbcfjbkmkknmfaa
namespace Go.Proofs.Ytbcfjbkmkknmfaa
open Go.RowKit

def M.runOk (m : M.Mc) (s : Int × Int) (n : Int) : Bool := m.ok && (M.sOk s && (decide (0 ≤ n) && decide (n ≤ 1000)))
theorem M.runOk_parts {m : M.Mc} {s : Int × Int} {n : Int} (h : M.runOk m s n = true) : m.ok = true ∧ M.sOk s = true ∧ 0 ≤ n ∧ n ≤ 1000 := by
  unfold M.runOk at h; simpa using h
theorem M.runOk_mk {m : M.Mc} {s : Int × Int} {n : Int} (h1 : m.ok = true) (h2 : M.sOk s = true) (h3 : 0 ≤ n) (h4 : n ≤ 1000) : M.runOk m s n = true := by
  unfold M.runOk; rw [h1, h2, decide_eq_true h3, decide_eq_true h4]; rfl
theorem M.runOk_no {m : M.Mc} {s : Int × Int} {n : Int} (h : M.runOk m s n = false) : m.ok = false ∨ (m.ok = true ∧ M.sOk s = false) ∨ (m.ok = true ∧ M.sOk s = true ∧ n < 0) ∨ (m.ok = true ∧ M.sOk s = true ∧ ¬ n < 0 ∧ 1000 < n) := by
  cases h1 : m.ok with
  | false => exact .inl rfl
  | true =>
    cases h2 : M.sOk s with
    | false => exact .inr (.inl ⟨rfl, rfl⟩)
    | true =>
      by_cases h3 : n < 0
      · exact .inr (.inr (.inl ⟨rfl, rfl, h3⟩))
      · by_cases h4 : 1000 < n
        · exact .inr (.inr (.inr ⟨rfl, rfl, h3, h4⟩))
        · rw [M.runOk_mk h1 h2 (by omega) (by omega)] at h; cases h
end Go.Proofs.Ytbcfjbkmkknmfaa
namespace Go.Proofs.Ytbcfjbkmkknmfaa
open Go.RowKit

end Go.Proofs.Ytbcfjbkmkknmfaa
namespace Go.Proofs.Ytbcfjbkmkknmfaa
open Go.RowKit

def M.aft (m : M.Mc) (s : Int × Int) (n : Int) : Int × Int := if M.runOk m s n = true then m.rn s n.toNat else (0, 0)
theorem M.aft_in {m : M.Mc} {s : Int × Int} {n : Int} (h : M.runOk m s n = true) : M.aft m s n = m.rn s n.toNat := if_pos h
theorem M.aft_out {m : M.Mc} {s : Int × Int} {n : Int} (h : M.runOk m s n = false) : M.aft m s n = (0, 0) := if_neg (by rw [h]; decide)
def M.runv (m : M.Mc) (s : Int × Int) (n : Int) : List (Int × Int) := if M.runOk m s n = true then m.run s n.toNat else []
theorem M.runv_in {m : M.Mc} {s : Int × Int} {n : Int} (h : M.runOk m s n = true) : M.runv m s n = m.run s n.toNat := if_pos h
theorem M.runv_out {m : M.Mc} {s : Int × Int} {n : Int} (h : M.runOk m s n = false) : M.runv m s n = [] := if_neg (by rw [h]; decide)
theorem ownsQ_none (t : TypeId) (w : World) (base : Nat) : OwnsQ t w base none 0 0 [] := ⟨rfl, rfl, .inl ⟨rfl, rfl⟩⟩
theorem len0 {m : M.Mc} {s : Int × Int} {n : Int} (h : M.runOk m s n = true) : (M.runv m s n).length = n.toNat + 1 := by rw [M.runv_in h, M.run_len]
end Go.Proofs.Ytbcfjbkmkknmfaa
