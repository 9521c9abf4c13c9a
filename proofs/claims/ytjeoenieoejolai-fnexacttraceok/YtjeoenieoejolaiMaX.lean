/- States made anew from a caller's, by the law's own helper. -/
import Derived.Test.YtjeoenieoejolaiMaU
import Derived.Test.YtjeoenieoejolaiMaO
import Derived.Test.YtjeoenieoejolaiMaF
namespace Go.Proofs.Ytjeoenieoejolai
open Go.RowKit

theorem made_prs (n : Nat) : (madeCells #[Value.int .i64 0, Value.int .i64 0] (n * 2)).toList = prs (List.replicate n ((0 : Int), (0 : Int))) := by
  have hr : ∀ x ∈ prs (List.replicate n ((0 : Int), (0 : Int))), x = Value.int .i64 0 := by
    intro x hx
    unfold prs at hx
    obtain ⟨p, hp, h⟩ := List.mem_flatMap.1 hx
    rw [List.eq_of_mem_replicate hp] at h
    simpa using h
  apply List.ext_getElem
  · rw [prs_len]; simp [madeCells]
  · intro i h1 h2
    rw [hr _ (List.getElem_mem h2)]
    have : i % 2 = 0 ∨ i % 2 = 1 := by omega
    rcases this with h | h <;> simp [madeCells, h]
theorem info_stateX : (Try.prog.info? 28).map (fun i => (i.zero, i.size, i.bytes)) = some (some (.agg #[.int .i64 0, .int .i64 0]), 2, 16) := by kernel_rfl
set_option maxHeartbeats 2000000 in
theorem toStateS_any {a : Option Addr} {n c : Nat} {ps : List (Int × Int)} (w : World) (hz : SeesQ w a n c ps) (hb : n ≤ 1048576) :
    Calls Try.prog 22 #[.slice a n c] w fun e w' => ∃ a', e = .returned (.slice a' n n) ∧ SeesQ w' a' n n ps ∧ Below w.heap.size w w' := by
  have HZ : Hid (SeesQ w a n c ps) := hz
  have hcI : (n : Int) ≤ c := by have := hz.le; omega
  clear hz
  obtain ⟨i0, hi, hz0, hz1, hz2⟩ := info_parts info_stateX
  go_enter Try.func22, Try.ntmps22
  go_wp2_with (at_make; refine wpList_make_full _ rfl _ _ 38 rfl w.heap.size 28 i0 (.agg #[.int .i64 0, .int .i64 0]) 2 Try.underlying38 hi hz0 hz1 .i64 .i64 _ _ n rfl rfl rfl rfl (by rw [hz2]; omega) (by unfold maxLen; omega) (Nat.le_refl _) ?_)
  intro w1 hown hg
  have ho : OwnsQ 28 w1 w.heap.size (some ⟨w.heap.size, 0, none⟩) n n (List.replicate n (0, 0)) := ⟨by simp, by rw [← made_prs]; exact hown⟩
  have HF : Hid (∀ i, w1.frozen? ⟨w.heap.size, i, none⟩ = false) := ho.room
  have HC : Hid (∀ i, i < n → ∃ u v, w1.cell? ⟨w.heap.size, i * 2, none⟩ = some u ∧ w1.cell? ⟨w.heap.size, i * 2 + 1, none⟩ = some v) := fun i hi => by
    obtain ⟨g, hge, _, _, _, hc⟩ := ho.block (by omega)
    simp only [Option.some.injEq, Addr.mk.injEq, and_true] at hge
    subst hge
    exact ⟨_, _, (hc i hi).1, (hc i hi).2⟩
  have HL : Hid (w.heap.size < w1.heap.size) := (ho.lo _ rfl).2
  have HB : Hid (Below w.heap.size w w1) := below_grown hg
  clear hown hg hi hz0 hz1 hz2 ho
  go_wp2
  go_loopw [4] (fun i wr => ∃ j : Nat, j ≤ n ∧ i = .int .i64 j ∧ (∀ i, i < n → ∃ u v, wr.cell? ⟨w.heap.size, i * 2, none⟩ = some u ∧ wr.cell? ⟨w.heap.size, i * 2 + 1, none⟩ = some v) ∧ (∀ i, i < j → wr.cell? ⟨w.heap.size, i * 2, none⟩ = some (.int .i64 (ps.getD i (0, 0)).1) ∧ wr.cell? ⟨w.heap.size, i * 2 + 1, none⟩ = some (.int .i64 (ps.getD i (0, 0)).2)) ∧ (∀ i, wr.frozen? ⟨w.heap.size, i, none⟩ = false) ∧ w.heap.size < wr.heap.size ∧ Below w.heap.size w wr) (fun i _ => n - (intOf i).toNat)
  case atStart => exact ⟨0, by omega, rfl, HC.out, fun i h => by omega, HF.out, HL.out, HB.out⟩
  case round =>
    obtain ⟨j, hj, rfl, hc1, hm1, hf1, hl1, hb1⟩ := hrel
    have HC1 : Hid (∀ i, i < n → ∃ u v, wr.cell? ⟨w.heap.size, i * 2, none⟩ = some u ∧ wr.cell? ⟨w.heap.size, i * 2 + 1, none⟩ = some v) := hc1
    have HM1 : Hid (∀ i, i < j → wr.cell? ⟨w.heap.size, i * 2, none⟩ = some (.int .i64 (ps.getD i (0, 0)).1) ∧ wr.cell? ⟨w.heap.size, i * 2 + 1, none⟩ = some (.int .i64 (ps.getD i (0, 0)).2)) := hm1
    have HF1 : Hid (∀ i, wr.frozen? ⟨w.heap.size, i, none⟩ = false) := hf1
    have HL1 : Hid (w.heap.size < wr.heap.size) := hl1
    have HB1 : Hid (Below w.heap.size w wr) := hb1
    clear hc1 hm1 hf1 hl1 hb1 HC HF HL HB
    by_cases hlt : j < n
    · obtain ⟨b1, o1, rfl, hc1⟩ := (HZ.out.below HB1.out).at (by omega)
      obtain ⟨e1, e2⟩ := hc1 j hlt
      have hI : (j : Int) < (n : Int) := by omega
      clear hc1
      have C1 := toState_any (ps.getD j (0, 0))
      generalize hq : ps.getD j (0, 0) = q at e1 e2 C1
      have HQ : Hid (ps.getD j (0, 0) = q) := hq
      clear hq
      obtain ⟨x, y⟩ := q
      dsimp only [stv] at e1 e2 C1
      go_wp2_with fail
      refine (C1 _).mono ?_
      rintro e w2 ⟨rfl, hb2⟩
      have HC2 : Hid (∀ i, w2.cell? ⟨w.heap.size, i, none⟩ = wr.cell? ⟨w.heap.size, i, none⟩) := fun i => hb2.cell (p := ⟨w.heap.size, i, none⟩) HL1.out
      have HF2 : Hid (∀ i, w2.frozen? ⟨w.heap.size, i, none⟩ = false) := fun i => (frozen_kept hb2 HL1.out).trans (HF1.out i)
      have HB2 : Hid (Below w.heap.size w w2) := HB1.out.trans (hb2.mono HB1.out.size)
      have HL2 : Hid (w.heap.size < w2.heap.size) := Nat.lt_of_lt_of_le HL1.out hb2.size
      obtain ⟨u, v, k1, k2⟩ := HC1.out j hlt
      rw [← HC2.out] at k1 k2
      have f1 := HF2.out (j * 2)
      have f2 := HF2.out (j * 2 + 1)
      have e3 : (w2.setCell ⟨w.heap.size, j * 2, none⟩ (.int .i64 x)).cell? ⟨w.heap.size, j * 2 + 1, none⟩ = some v := (World.cell?_setCell_other (w := w2) (a := ⟨w.heap.size, j * 2, none⟩) (b := ⟨w.heap.size, j * 2 + 1, none⟩) (v := .int .i64 x) (h := by intro e; simp only [Addr.mk.injEq] at e; omega)).trans k2
      clear hb2 C1 e1 e2
      go_wp2
      go_roundw
      case rel =>
        have hs : ∀ (c : Nat), c ≠ j * 2 → c ≠ j * 2 + 1 → ((w2.setCell ⟨w.heap.size, j * 2, none⟩ (.int .i64 x)).setCell ⟨w.heap.size, j * 2 + 1, none⟩ (.int .i64 y)).cell? ⟨w.heap.size, c, none⟩ = wr.cell? ⟨w.heap.size, c, none⟩ := fun c h1 h2 =>
          ((World.cell?_setCell_other (w := w2.setCell ⟨w.heap.size, j * 2, none⟩ (.int .i64 x)) (a := ⟨w.heap.size, j * 2 + 1, none⟩) (b := ⟨w.heap.size, c, none⟩) (v := .int .i64 y) (h := by intro e; simp only [Addr.mk.injEq] at e; omega)).trans (World.cell?_setCell_other (w := w2) (a := ⟨w.heap.size, j * 2, none⟩) (b := ⟨w.heap.size, c, none⟩) (v := .int .i64 x) (h := by intro e; simp only [Addr.mk.injEq] at e; omega))).trans (HC2.out c)
        have hs1 : ((w2.setCell ⟨w.heap.size, j * 2, none⟩ (.int .i64 x)).setCell ⟨w.heap.size, j * 2 + 1, none⟩ (.int .i64 y)).cell? ⟨w.heap.size, j * 2, none⟩ = some (.int .i64 x) := (World.cell?_setCell_other (w := w2.setCell ⟨w.heap.size, j * 2, none⟩ (.int .i64 x)) (a := ⟨w.heap.size, j * 2 + 1, none⟩) (b := ⟨w.heap.size, j * 2, none⟩) (v := .int .i64 y) (h := by intro e; simp only [Addr.mk.injEq] at e; omega)).trans (World.cell?_setCell_same (w := w2) (a := ⟨w.heap.size, j * 2, none⟩) (v := .int .i64 x) (h := k1))
        have hs2 : ((w2.setCell ⟨w.heap.size, j * 2, none⟩ (.int .i64 x)).setCell ⟨w.heap.size, j * 2 + 1, none⟩ (.int .i64 y)).cell? ⟨w.heap.size, j * 2 + 1, none⟩ = some (.int .i64 y) := World.cell?_setCell_same (w := w2.setCell ⟨w.heap.size, j * 2, none⟩ (.int .i64 x)) (a := ⟨w.heap.size, j * 2 + 1, none⟩) (v := .int .i64 y) (h := e3)
        refine ⟨j + 1, by omega, by go_num, fun i hi => ?_, fun i hi => ?_, fun i => by rw [frozen_set, frozen_set]; exact HF2.out i, by have := HL2.out; simpa [World.setCell] using this, (HB2.out.setCell (Nat.le_refl _) _).setCell (Nat.le_refl _) _⟩
        · by_cases e : i = j
          · subst e; exact ⟨_, _, hs1, hs2⟩
          · obtain ⟨u', v', h1, h2⟩ := HC1.out i hi
            exact ⟨u', v', (hs _ (by omega) (by omega)).trans h1, (hs _ (by omega) (by omega)).trans h2⟩
        · by_cases e : i = j
          · subst e; rw [HQ.out]; exact ⟨hs1, hs2⟩
          · obtain ⟨h1, h2⟩ := HM1.out i (by omega)
            exact ⟨(hs _ (by omega) (by omega)).trans h1, (hs _ (by omega) (by omega)).trans h2⟩
      case measure => simp [intOf]; omega
    · have hjn : j = n := by omega
      subst hjn
      go_wp2
      go_ret
      refine ⟨_, rfl, ⟨HZ.out.len, Nat.le_refl _, by omega, fun h => by simp at h, .inr ⟨w.heap.size, 0, rfl, fun i hi => ?_⟩⟩, HB1.out⟩
      rw [Nat.zero_add]
      exact HM1.out i hi
end Go.Proofs.Ytjeoenieoejolai
