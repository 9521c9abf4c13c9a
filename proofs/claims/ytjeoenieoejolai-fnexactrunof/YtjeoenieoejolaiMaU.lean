/- What the laws do with lists of states: compare, mark, hold the marks against them. -/
import Derived.Test.YtjeoenieoejolaiMaJ
import Derived.Test.YtjeoenieoejolaiMaP
namespace Go.Proofs.Ytjeoenieoejolai
open Go.RowKit

def M.mks (k : Int) (n : Nat) : List (Int × Int) := (List.range n).map fun i : Nat => (k + (i : Int) * 2, k + (i : Int) * 2 + 1)
theorem M.mks_len (k : Int) (n : Nat) : (M.mks k n).length = n := by simp [M.mks]
theorem M.mks_get (k : Int) (n i : Nat) (h : i < n) : (M.mks k n).getD i (0, 0) = (k + (i : Int) * 2, k + (i : Int) * 2 + 1) := by
  rw [List.getD_eq_getElem?_getD, List.getElem?_eq_getElem (by rw [M.mks_len]; exact h)]
  simp [M.mks]
theorem OwnsQ.room {t : TypeId} {w : World} {base n cap g : Nat} {ps : List (Int × Int)} (h : OwnsQ t w base (some ⟨g, 0, none⟩) n cap ps) : ∀ i, w.frozen? ⟨g, i, none⟩ = false := by
  obtain ⟨_, _, h⟩ := h
  rcases h with ⟨e, _⟩ | ⟨g', c, cur, e, hb, hh, _⟩
  · simp at e
  · simp only [Value.slice.injEq, Option.some.injEq, Addr.mk.injEq] at e
    obtain ⟨⟨rfl, -⟩, -⟩ := e
    intro i
    simp only [World.frozen?, hh]
    simp
theorem OwnsQ.see {t : TypeId} {w : World} {base n cap : Nat} {a : Option Addr} {ps : List (Int × Int)} (ho : OwnsQ t w base a n cap ps) : SeesQ w a n cap ps := by
  by_cases h0 : 0 < n
  · exact ho.sees h0
  · obtain rfl : n = 0 := by omega
    obtain ⟨hl, _, h⟩ := ho
    rcases h with ⟨e, _⟩ | ⟨g', c, cur, e, hb, hh, h1, h2, _⟩
    · simp only [Value.slice.injEq] at e; obtain ⟨rfl, -, rfl⟩ := e; exact ⟨hl, Nat.le_refl _, by simp, fun _ => ⟨rfl, rfl⟩, .inl rfl⟩
    · simp only [Value.slice.injEq] at e; obtain ⟨rfl, -, rfl⟩ := e
      unfold maxLen at h2
      exact ⟨hl, Nat.zero_le _, by omega, fun h => by simp at h, .inl rfl⟩
theorem SeesQ.grown {w w' : World} {a : Option Addr} {n c : Nat} {ps : List (Int × Int)} {row : Option Nat} (h : SeesQ w a n c ps) (hg : w.grownBy w' row) (hr : ∀ x, a = some x → row ≠ some x.block) : SeesQ w' a n c ps := by
  refine ⟨h.len, h.le, h.big, h.no, ?_⟩
  rcases h.pos with e | ⟨b, off, e, hc⟩
  · exact .inl e
  · by_cases h0 : n = 0
    · exact .inl h0
    · have hne := hr _ e
      have hlt : b < w.heap.size := World.block_lt_of_cell? w ⟨b, off + 0 * 2, none⟩ (hc 0 (by omega)).1
      have hb : w'.heap[b]? = w.heap[b]? := hg.block b hlt (fun e' => hne (by rw [e']))
      refine .inr ⟨b, off, e, fun i hi => ?_⟩
      obtain ⟨h1, h2⟩ := hc i hi
      constructor
      · simp only [World.cell?] at h1 ⊢; rw [hb]; exact h1
      · simp only [World.cell?] at h2 ⊢; rw [hb]; exact h2
theorem OwnsQ.lo {t : TypeId} {w : World} {base n cap : Nat} {a : Option Addr} {ps : List (Int × Int)} (h : OwnsQ t w base a n cap ps) : ∀ x, a = some x → base ≤ x.block ∧ x.block < w.heap.size := by
  rintro x rfl; exact World.ownsRow.lt h.2 _ rfl
theorem frozen_set (w : World) (p q : Addr) (v : Value) : (w.setCell p v).frozen? q = w.frozen? q := by simp
set_option maxHeartbeats 2000000 in
theorem markQ_any {a : Option Addr} {n cap base : Nat} {ps : List (Int × Int)} (k : Int) (w : World) (ho : OwnsQ 28 w base a n cap ps) (k0 : 0 ≤ k) (k1 : k ≤ 1000000) (hn : n ≤ 1000000) :
    Calls Try.prog 16 #[.slice a n cap, .int .i64 k] w fun e w' => e = .returned (.int .i64 (k + (n : Int) * 2)) ∧ SeesQ w' a n cap (M.mks k n) ∧ w.grownBy w' (Value.slice a n cap).ownBlock := by
  by_cases h0 : 0 < n
  · obtain ⟨g, rfl, hgb, hcap, hbig, hc⟩ := ho.block h0
    have hfz := ho.room
    have HC : Hid (∀ i, i < n → ∃ u v, w.cell? ⟨g, i * 2, none⟩ = some u ∧ w.cell? ⟨g, i * 2 + 1, none⟩ = some v) := fun i hi => ⟨_, _, (hc i hi).1, (hc i hi).2⟩
    have HF : Hid (∀ i, w.frozen? ⟨g, i, none⟩ = false) := hfz
    have HCap : Hid (n ≤ cap ∧ (cap : Int) ≤ 9223372036854775807) := ⟨hcap, hbig⟩
    clear ho hc hfz hbig
    have hcI : (n : Int) ≤ cap := by omega
    go_enter Try.func16, Try.ntmps16
    go_wp2
    go_loopw [1, 5] (fun q i wr => ∃ j : Nat, j ≤ n ∧ i = .int .i64 j ∧ q = .int .i64 (k + (j : Int) * 2) ∧ (∀ i, i < n → ∃ u v, wr.cell? ⟨g, i * 2, none⟩ = some u ∧ wr.cell? ⟨g, i * 2 + 1, none⟩ = some v) ∧ (∀ i, i < j → wr.cell? ⟨g, i * 2, none⟩ = some (.int .i64 (k + (i : Int) * 2)) ∧ wr.cell? ⟨g, i * 2 + 1, none⟩ = some (.int .i64 (k + (i : Int) * 2 + 1))) ∧ (∀ i, wr.frozen? ⟨g, i, none⟩ = false) ∧ w.grownBy wr (some g)) (fun _ i _ => n - (intOf i).toNat)
    case atStart => exact ⟨0, by omega, rfl, by simp, HC.out, fun i h => by omega, HF.out, World.grownBy.refl _ _⟩
    case round =>
      obtain ⟨j, hj, rfl, rfl, hc1, hm1, hf1, hg1⟩ := hrel
      have HC1 : Hid (∀ i, i < n → ∃ u v, wr.cell? ⟨g, i * 2, none⟩ = some u ∧ wr.cell? ⟨g, i * 2 + 1, none⟩ = some v) := hc1
      have HM1 : Hid (∀ i, i < j → wr.cell? ⟨g, i * 2, none⟩ = some (.int .i64 (k + (i : Int) * 2)) ∧ wr.cell? ⟨g, i * 2 + 1, none⟩ = some (.int .i64 (k + (i : Int) * 2 + 1))) := hm1
      have HF1 : Hid (∀ i, wr.frozen? ⟨g, i, none⟩ = false) := hf1
      have HG1 : Hid (w.grownBy wr (some g)) := hg1
      clear hc1 hm1 hg1 HC HF
      by_cases hlt : j < n
      · obtain ⟨u, v, e1, e2⟩ := HC1.out j hlt
        have f1 := hf1 (j * 2)
        have f2 := hf1 (j * 2 + 1)
        clear hf1
        have hI : (j : Int) < (n : Int) := by omega
        have hw1 : IntKind.i64.wrap (k + (j : Int) * 2) = k + (j : Int) * 2 := wrap_smallm (by omega) (by omega)
        have hw2 : IntKind.i64.wrap (k + (j : Int) * 2 + 1) = k + (j : Int) * 2 + 1 := wrap_smallm (by omega) (by omega)
        have e3 : (wr.setCell ⟨g, j * 2, none⟩ (.int .i64 (k + (j : Int) * 2))).cell? ⟨g, j * 2 + 1, none⟩ = some v := (World.cell?_setCell_other (w := wr) (a := ⟨g, j * 2, none⟩) (b := ⟨g, j * 2 + 1, none⟩) (v := .int .i64 (k + (j : Int) * 2)) (h := by intro e; simp only [Addr.mk.injEq] at e; omega)).trans e2
        go_wp2
        go_roundw
        case rel =>
          have hs : ∀ (c : Nat), c ≠ j * 2 → c ≠ j * 2 + 1 → ((wr.setCell ⟨g, j * 2, none⟩ (.int .i64 (k + (j : Int) * 2))).setCell ⟨g, j * 2 + 1, none⟩ (.int .i64 (k + (j : Int) * 2 + 1))).cell? ⟨g, c, none⟩ = wr.cell? ⟨g, c, none⟩ := fun c h1 h2 =>
            (World.cell?_setCell_other (w := wr.setCell ⟨g, j * 2, none⟩ (.int .i64 (k + (j : Int) * 2))) (a := ⟨g, j * 2 + 1, none⟩) (b := ⟨g, c, none⟩) (v := .int .i64 (k + (j : Int) * 2 + 1)) (h := by intro e; simp only [Addr.mk.injEq] at e; omega)).trans (World.cell?_setCell_other (w := wr) (a := ⟨g, j * 2, none⟩) (b := ⟨g, c, none⟩) (v := .int .i64 (k + (j : Int) * 2)) (h := by intro e; simp only [Addr.mk.injEq] at e; omega))
          have hs1 : ((wr.setCell ⟨g, j * 2, none⟩ (.int .i64 (k + (j : Int) * 2))).setCell ⟨g, j * 2 + 1, none⟩ (.int .i64 (k + (j : Int) * 2 + 1))).cell? ⟨g, j * 2, none⟩ = some (.int .i64 (k + (j : Int) * 2)) := (World.cell?_setCell_other (w := wr.setCell ⟨g, j * 2, none⟩ (.int .i64 (k + (j : Int) * 2))) (a := ⟨g, j * 2 + 1, none⟩) (b := ⟨g, j * 2, none⟩) (v := .int .i64 (k + (j : Int) * 2 + 1)) (h := by intro e; simp only [Addr.mk.injEq] at e; omega)).trans (World.cell?_setCell_same (w := wr) (a := ⟨g, j * 2, none⟩) (v := .int .i64 (k + (j : Int) * 2)) (h := e1))
          have hs2 : ((wr.setCell ⟨g, j * 2, none⟩ (.int .i64 (k + (j : Int) * 2))).setCell ⟨g, j * 2 + 1, none⟩ (.int .i64 (k + (j : Int) * 2 + 1))).cell? ⟨g, j * 2 + 1, none⟩ = some (.int .i64 (k + (j : Int) * 2 + 1)) := World.cell?_setCell_same (w := wr.setCell ⟨g, j * 2, none⟩ (.int .i64 (k + (j : Int) * 2))) (a := ⟨g, j * 2 + 1, none⟩) (v := .int .i64 (k + (j : Int) * 2 + 1)) (h := e3)
          refine ⟨j + 1, by omega, by go_num, congrArg (Value.int .i64) (by omega), fun i hi => ?_, fun i hi => ?_, fun i => by rw [frozen_set, frozen_set]; exact HF1.out i, ?_⟩
          · by_cases e : i = j
            · subst e; exact ⟨_, _, hs1, hs2⟩
            · obtain ⟨u', v', h1, h2⟩ := HC1.out i hi
              exact ⟨u', v', (hs _ (by omega) (by omega)).trans h1, (hs _ (by omega) (by omega)).trans h2⟩
          · by_cases e : i = j
            · subst e; exact ⟨hs1, hs2⟩
            · obtain ⟨h1, h2⟩ := HM1.out i (by omega)
              exact ⟨(hs _ (by omega) (by omega)).trans h1, (hs _ (by omega) (by omega)).trans h2⟩
          · exact ⟨HG1.out.os, HG1.out.tape, HG1.out.output, by simpa [World.setCell] using HG1.out.size, fun i hi hne => ((Below.heap_setCell _ _ _ _ (by intro e; exact hne (by rw [e]))).trans (Below.heap_setCell _ _ _ _ (by intro e; exact hne (by rw [e])))).trans (HG1.out.block i hi hne)⟩
        case measure => simp [intOf]; omega
      · have hjn : j = n := by omega
        subst hjn
        go_wp2
        go_ret
        refine ⟨rfl, ⟨M.mks_len _ _, HCap.out.1, HCap.out.2, fun h => by simp at h, .inr ⟨g, 0, rfl, fun i hi => ?_⟩⟩, HG1.out⟩
        rw [M.mks_get k j i hi, Nat.zero_add]
        exact HM1.out i hi
  · obtain rfl : n = 0 := by omega
    have hlc : (a = none → (0 : Nat) = 0 ∧ cap = 0) ∧ (cap : Int) ≤ 9223372036854775807 := by
      obtain ⟨_, _, h⟩ := ho
      rcases h with ⟨e, _⟩ | ⟨g', c, cur, e, hb, hh, h1, h2, _⟩
      · simp only [Value.slice.injEq] at e; obtain ⟨rfl, -, rfl⟩ := e; exact ⟨fun _ => ⟨rfl, rfl⟩, by simp⟩
      · simp only [Value.slice.injEq] at e; obtain ⟨rfl, -, rfl⟩ := e
        unfold maxLen at h2
        exact ⟨fun h => by simp at h, by omega⟩
    have HL : Hid ((a = none → (0 : Nat) = 0 ∧ cap = 0) ∧ (cap : Int) ≤ 9223372036854775807) := hlc
    clear hlc ho
    go_enter Try.func16, Try.ntmps16
    go_wp2
    go_loop [1, 5] (fun q i => i = .int .i64 0 ∧ q = .int .i64 k) (fun _ _ => 0)
    case atStart => exact ⟨rfl, rfl⟩
    case round =>
      obtain ⟨rfl, rfl⟩ := hrel
      go_wp2
      go_ret
      exact ⟨by simp, ⟨rfl, Nat.zero_le _, HL.out.2, fun h => ⟨rfl, (HL.out.1 h).2⟩, .inl rfl⟩, World.grownBy.refl _ _⟩
set_option maxHeartbeats 1000000 in
theorem heldQ_any {a : Option Addr} {n cap : Nat} (k : Int) (w : World) (hz : SeesQ w a n cap (M.mks k n)) (k0 : 0 ≤ k) (k1 : k ≤ 1000000) (hn : n ≤ 1000000) :
    Calls Try.prog 17 #[.slice a n cap, .int .i64 k] w fun e w' => e = .returned (.int .i64 (k + (n : Int) * 2)) ∧ w' = w := by
  have HZ : Hid (SeesQ w a n cap (M.mks k n)) := hz
  have hcI : (n : Int) ≤ cap := by have := hz.le; omega
  clear hz
  go_enter Try.func17, Try.ntmps17
  go_wp2
  go_loop [1, 5] (fun q i => ∃ j : Nat, j ≤ n ∧ i = .int .i64 j ∧ q = .int .i64 (k + (j : Int) * 2)) (fun _ i => n - (intOf i).toNat)
  case atStart => exact ⟨0, by omega, rfl, by simp⟩
  case round =>
    obtain ⟨j, hj, rfl, rfl⟩ := hrel
    by_cases hlt : j < n
    · obtain ⟨b1, o1, rfl, hc1⟩ := HZ.out.at (by omega)
      obtain ⟨c1, c2⟩ := hc1 j hlt
      rw [M.mks_get k n j hlt] at c1 c2
      dsimp only at c1 c2
      have hI : (j : Int) < (n : Int) := by omega
      have hne : (k + (j : Int) * 2 != k + (j : Int) * 2) = false := by simp
      have hne2 : (k + (j : Int) * 2 + 1 != k + (j : Int) * 2 + 1) = false := by simp
      clear hc1
      go_wp2
      go_round
      case rel => exact ⟨j + 1, by omega, by go_num, congrArg (Value.int .i64) (by omega)⟩
      case measure => simp [intOf]; omega
    · have hjn : j = n := by omega
      subst hjn
      go_wp2
      go_ret
      exact ⟨rfl, rfl⟩
set_option maxHeartbeats 2000000 in
theorem eqQ_same {a b : Option Addr} {n c d : Nat} {ps : List (Int × Int)} (w : World) (hz : SeesQ w a n c ps) (hy : SeesQ w b n d ps) :
    Calls Try.prog 15 #[.slice a n c, .slice b n d] w fun e w' => e = .returned (.bool true) ∧ Below w.heap.size w w' := by
  have HZ : Hid (SeesQ w a n c ps) := hz
  have HY : Hid (SeesQ w b n d ps) := hy
  have hnb : (n : Int) ≤ 9223372036854775807 := by have := hz.big; have := hz.le; omega
  have hcI : (n : Int) ≤ c := by have := hz.le; omega
  have hdI : (n : Int) ≤ d := by have := hy.le; omega
  clear hz hy
  have n1 : ((n : Int) != (n : Int)) = false := by simp
  go_enter Try.func15, Try.ntmps15
  go_wp2
  go_loopw [5] (fun i wr => ∃ j : Nat, j ≤ n ∧ i = .int .i64 j ∧ Below w.heap.size w wr) (fun i _ => n - (intOf i).toNat)
  case atStart => exact ⟨0, by omega, rfl, Below.refl _ _⟩
  case round =>
    obtain ⟨j, hj, rfl, hb1⟩ := hrel
    have HB1 : Hid (Below w.heap.size w wr) := hb1
    clear hb1
    by_cases hlt : j < n
    · obtain ⟨b1, o1, rfl, hc1⟩ := (HZ.out.below HB1.out).at (by omega)
      obtain ⟨b2, o2, rfl, hc2⟩ := (HY.out.below HB1.out).at (by omega)
      obtain ⟨e1, e2⟩ := hc1 j hlt
      obtain ⟨e3, e4⟩ := hc2 j hlt
      have hI : (j : Int) < (n : Int) := by omega
      have CE := eqState_same (ps.getD j (0, 0))
      generalize ps.getD j (0, 0) = q at e1 e2 e3 e4 CE
      obtain ⟨x, y⟩ := q
      dsimp only [stv] at e1 e2 e3 e4 CE
      clear hc1 hc2
      go_wp2
      go_region_with (go_at_call 12; refine (CE _).mono ?_; rintro e w2 ⟨rfl, hb2⟩)
      all_goals
        have HB2 : Hid (Below w.heap.size w w2) := HB1.out.trans (((Below.refl _ _).drew.trans hb2).mono HB1.out.size)
        clear hb2
        go_wp2
        go_roundw
        case rel => exact ⟨j + 1, by omega, by go_num, HB2.out⟩
        case measure => simp [intOf]; omega
    · have hjn : j = n := by omega
      subst hjn
      go_wp2
      go_ret
      exact ⟨rfl, HB1.out⟩
end Go.Proofs.Ytjeoenieoejolai
