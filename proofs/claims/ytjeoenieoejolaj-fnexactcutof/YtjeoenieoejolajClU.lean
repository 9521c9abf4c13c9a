/- The law's marks in a slice of claims, and two slices of claims that are alike. -/
import Derived.Test.YtjeoenieoejolajClP
import Derived.Test.YtjeoenieoejolajClB
namespace Go.Proofs.Ytjeoenieoejolaj
open Go.RowKit

def M.mkc (k : Int) (n : Nat) : List M.Cl := (List.range n).map fun i : Nat => ⟨(k + (i : Int) * 5, k + (i : Int) * 5 + 1), (k + (i : Int) * 5 + 2, k + (i : Int) * 5 + 3), k + (i : Int) * 5 + 4⟩
theorem M.mkc_len (k : Int) (n : Nat) : (M.mkc k n).length = n := by simp [M.mkc]
theorem M.mkc_get (k : Int) (n i : Nat) (h : i < n) : (M.mkc k n).getD i M.c0 = ⟨(k + (i : Int) * 5, k + (i : Int) * 5 + 1), (k + (i : Int) * 5 + 2, k + (i : Int) * 5 + 3), k + (i : Int) * 5 + 4⟩ := by
  rw [List.getD_eq_getElem?_getD, List.getElem?_eq_getElem (by rw [M.mkc_len]; exact h)]
  simp [M.mkc]
theorem OwnsC.lies {t : TypeId} {w : World} {base n cap g : Nat} {cs : List M.Cl} (h : OwnsC t w base (some ⟨g, 0, none⟩) n cap cs) : ∃ vs, Lies w g vs ∧ n * 5 ≤ vs.length := by
  obtain ⟨_, _, h⟩ := h
  rcases h with ⟨e, _⟩ | ⟨g', c, cur, e, hb, hh, hn, _, hs, _⟩
  · simp at e
  · simp only [Value.slice.injEq, Option.some.injEq, Addr.mk.injEq] at e
    obtain ⟨⟨rfl, -⟩, -, rfl⟩ := e
    refine ⟨cur.toList, ⟨fun i => by simp [World.cell?, hh], fun i => by simp [World.frozen?, hh], ?_⟩, by rw [Array.length_toList, hs]; omega⟩
    rcases Nat.lt_or_ge g w.heap.size with hl | hl
    · exact hl
    · rw [Array.getElem?_eq_none hl] at hh; simp at hh
theorem SeesC.grown {w w' : World} {a : Option Addr} {n c : Nat} {cs : List M.Cl} {row : Option Nat} (h : SeesC w a n c cs) (hg : w.grownBy w' row) (hr : ∀ x, a = some x → row ≠ some x.block) : SeesC w' a n c cs := by
  refine ⟨h.len, h.le, h.big, h.no, ?_⟩
  by_cases h0 : n = 0
  · exact .inl h0
  · obtain ⟨b, off, e, hc⟩ := h.at (by omega)
    have hne := hr _ e
    have hlt : b < w.heap.size := World.block_lt_of_cell? w ⟨b, off + 0 * 5 + 0, none⟩ ((hc 0 (by omega) 0 (by omega)).trans rfl)
    have hb : w'.heap[b]? = w.heap[b]? := hg.block b hlt (fun e' => hne (by rw [e']))
    exact .inr ⟨b, off, e, fun i hi j hj => (World.cell?_of_block (a := ⟨b, off + i * 5 + j, none⟩) hb).trans (hc i hi j hj)⟩
theorem set5 {vs : List Value} {p : Nat} (h : p + 5 ≤ vs.length) (v0 v1 v2 v3 v4 : Value) :
    (((((vs.set p v0).set (p + 1) v1).set (p + 2) v2).set (p + 3) v3).set (p + 4) v4).length = vs.length ∧
    (∀ q, q < p → (((((vs.set p v0).set (p + 1) v1).set (p + 2) v2).set (p + 3) v3).set (p + 4) v4)[q]? = vs[q]?) ∧
    ∀ i, i < 5 → (((((vs.set p v0).set (p + 1) v1).set (p + 2) v2).set (p + 3) v3).set (p + 4) v4)[p + i]? = [v0, v1, v2, v3, v4][i]? := by
  refine ⟨by simp, fun q hq => ?_, fun i hi => ?_⟩
  · rw [List.getElem?_set_ne (by omega), List.getElem?_set_ne (by omega), List.getElem?_set_ne (by omega), List.getElem?_set_ne (by omega), List.getElem?_set_ne (by omega)]
  · have : i = 0 ∨ i = 1 ∨ i = 2 ∨ i = 3 ∨ i = 4 := by omega
    rcases this with rfl | rfl | rfl | rfl | rfl
    · rw [List.getElem?_set_ne (by omega), List.getElem?_set_ne (by omega), List.getElem?_set_ne (by omega), List.getElem?_set_ne (by omega), Nat.add_zero, List.getElem?_set_self (by omega)]; rfl
    · rw [List.getElem?_set_ne (by omega), List.getElem?_set_ne (by omega), List.getElem?_set_ne (by omega), List.getElem?_set_self (by simp; omega)]; rfl
    · rw [List.getElem?_set_ne (by omega), List.getElem?_set_ne (by omega), List.getElem?_set_self (by simp; omega)]; rfl
    · rw [List.getElem?_set_ne (by omega), List.getElem?_set_self (by simp; omega)]; rfl
    · rw [List.getElem?_set_self (by simp; omega)]; rfl
theorem set_ne (W : World) (g c d : Nat) (v : Value) (h : c ≠ d) : (W.setCell ⟨g, c, none⟩ v).cell? ⟨g, d, none⟩ = W.cell? ⟨g, d, none⟩ := World.cell?_setCell_other (w := W) (a := ⟨g, c, none⟩) (b := ⟨g, d, none⟩) (v := v) (h := by intro e; simp only [Addr.mk.injEq] at e; omega)
theorem grown_set {w wr : World} {g c : Nat} {v : Value} (h : w.grownBy wr (some g)) : w.grownBy (wr.setCell ⟨g, c, none⟩ v) (some g) :=
  ⟨h.os, h.tape, h.output, by simpa [World.setCell] using h.size, fun i hi hne => (Below.heap_setCell _ _ _ _ (by intro e; exact hne (by rw [e]))).trans (h.block i hi hne)⟩
theorem marks5 {w : World} {g k5 cap n : Nat} {k : Int} {vs : List Value} (h : Lies w g vs) (hc : n ≤ cap) (hb : (cap : Int) ≤ 9223372036854775807) (hm : ∀ i, i < n → ∀ q, q < 5 → vs[i * 5 + q]? = some (.int .i64 (k + (i : Int) * 5 + (q : Int)))) (_ : k5 = 0) : SeesC w (some ⟨g, 0, none⟩) n cap (M.mkc k n) := by
  refine ⟨M.mkc_len _ _, hc, hb, fun e => by simp at e, .inr ⟨g, 0, rfl, fun i hi j hj => ?_⟩⟩
  rw [Nat.zero_add, h.at, hm i hi j hj, M.mkc_get k n i hi]
  have : j = 0 ∨ j = 1 ∨ j = 2 ∨ j = 3 ∨ j = 4 := by omega
  rcases this with rfl | rfl | rfl | rfl | rfl <;> simp [cvs]
set_option maxHeartbeats 2000000 in
theorem heldC_any {a : Option Addr} {n cap : Nat} (k : Int) (w : World) (hz : SeesC w a n cap (M.mkc k n)) (k0 : 0 ≤ k) (k1 : k ≤ 1000000) (hn : n ≤ 1000000) :
    Calls Try.prog 23 #[.slice a n cap, .int .i64 k] w fun e w' => e = .returned (.int .i64 (k + (n : Int) * 5)) ∧ w' = w := by
  have HZ : Hid (SeesC w a n cap (M.mkc k n)) := hz
  have hcI : (n : Int) ≤ cap := by have := hz.le; omega
  clear hz
  go_enter Try.func23, Try.ntmps23
  go_wp2
  go_loop [1, 5] (fun q i => ∃ j : Nat, j ≤ n ∧ i = .int .i64 j ∧ q = .int .i64 (k + (j : Int) * 5)) (fun _ i => n - (intOf i).toNat)
  case atStart => exact ⟨0, by omega, rfl, by simp⟩
  case round =>
    obtain ⟨j, hj, rfl, rfl⟩ := hrel
    by_cases hlt : j < n
    · obtain ⟨b1, o1, rfl, hc1⟩ := HZ.out.at (by omega)
      have c0 : w.cell? ⟨b1, o1 + j * 5, none⟩ = some (.int .i64 (k + (j : Int) * 5)) := by have := hc1 j hlt 0 (by omega); rw [M.mkc_get k n j hlt] at this; exact this
      have c1 : w.cell? ⟨b1, o1 + j * 5 + 1, none⟩ = some (.int .i64 (k + (j : Int) * 5 + 1)) := by have := hc1 j hlt 1 (by omega); rw [M.mkc_get k n j hlt] at this; exact this
      have c2 : w.cell? ⟨b1, o1 + j * 5 + 2, none⟩ = some (.int .i64 (k + (j : Int) * 5 + 2)) := by have := hc1 j hlt 2 (by omega); rw [M.mkc_get k n j hlt] at this; exact this
      have c3 : w.cell? ⟨b1, o1 + j * 5 + 3, none⟩ = some (.int .i64 (k + (j : Int) * 5 + 3)) := by have := hc1 j hlt 3 (by omega); rw [M.mkc_get k n j hlt] at this; exact this
      have c4 : w.cell? ⟨b1, o1 + j * 5 + 4, none⟩ = some (.int .i64 (k + (j : Int) * 5 + 4)) := by have := hc1 j hlt 4 (by omega); rw [M.mkc_get k n j hlt] at this; exact this
      have hne0 : (k + (j : Int) * 5 != k + (j : Int) * 5) = false := by simp
      have hne1 : (k + (j : Int) * 5 + 1 != k + (j : Int) * 5 + 1) = false := by simp
      have hne2 : (k + (j : Int) * 5 + 2 != k + (j : Int) * 5 + 2) = false := by simp
      have hne3 : (k + (j : Int) * 5 + 3 != k + (j : Int) * 5 + 3) = false := by simp
      have hne4 : (k + (j : Int) * 5 + 4 != k + (j : Int) * 5 + 4) = false := by simp
      have hI : (j : Int) < (n : Int) := by omega
      clear hc1
      go_wp2
      go_round
      case rel => exact ⟨j + 1, by omega, by go_num, congrArg (Value.int .i64) (by omega)⟩
      case measure => simp [intOf]; omega
    · have hjn : j = n := by omega
      subst hjn
      go_wp2
      go_ret
      exact ⟨rfl, rfl⟩
set_option maxHeartbeats 2000000 in
theorem eqC_same {a b : Option Addr} {n c d : Nat} {cs : List M.Cl} (w : World) (hz : SeesC w a n c cs) (hy : SeesC w b n d cs) :
    Calls Try.prog 18 #[.slice a n c, .slice b n d] w fun e w' => e = .returned (.bool true) ∧ Below w.heap.size w w' := by
  have HZ : Hid (SeesC w a n c cs) := hz
  have HY : Hid (SeesC w b n d cs) := hy
  have hnb : (n : Int) ≤ 9223372036854775807 := by have := hz.big; have := hz.le; omega
  have hcI : (n : Int) ≤ c := by have := hz.le; omega
  have hdI : (n : Int) ≤ d := by have := hy.le; omega
  clear hz hy
  have n1 : ((n : Int) != (n : Int)) = false := by simp
  go_enter Try.func18, Try.ntmps18
  go_wp2
  go_loopw [5] (fun i wr => ∃ j : Nat, j ≤ n ∧ i = .int .i64 j ∧ Below w.heap.size w wr) (fun i _ => n - (intOf i).toNat)
  case atStart => exact ⟨0, by omega, rfl, Below.refl _ _⟩
  case round =>
    obtain ⟨j, hj, rfl, hb1⟩ := hrel
    have HB1 : Hid (Below w.heap.size w wr) := hb1
    clear hb1
    by_cases hlt : j < n
    · obtain ⟨b1, o1, rfl, hc1⟩ := (HZ.out.below HB1.out).at (by omega)
      obtain ⟨b2, o2, rfl, hc2⟩ := (HY.out.below HB1.out).at (by omega)
      have p0 : wr.cell? ⟨b1, o1 + j * 5, none⟩ = some (.int .i64 (cs.getD j M.c0).s.1) := hc1 j hlt 0 (by omega)
      have p1 : wr.cell? ⟨b1, o1 + j * 5 + 1, none⟩ = some (.int .i64 (cs.getD j M.c0).s.2) := hc1 j hlt 1 (by omega)
      have p2 : wr.cell? ⟨b1, o1 + j * 5 + 2, none⟩ = some (.int .i64 (cs.getD j M.c0).e.1) := hc1 j hlt 2 (by omega)
      have p3 : wr.cell? ⟨b1, o1 + j * 5 + 3, none⟩ = some (.int .i64 (cs.getD j M.c0).e.2) := hc1 j hlt 3 (by omega)
      have p4 : wr.cell? ⟨b1, o1 + j * 5 + 4, none⟩ = some (.int .i64 (cs.getD j M.c0).n) := hc1 j hlt 4 (by omega)
      have q0 : wr.cell? ⟨b2, o2 + j * 5, none⟩ = some (.int .i64 (cs.getD j M.c0).s.1) := hc2 j hlt 0 (by omega)
      have q1 : wr.cell? ⟨b2, o2 + j * 5 + 1, none⟩ = some (.int .i64 (cs.getD j M.c0).s.2) := hc2 j hlt 1 (by omega)
      have q2 : wr.cell? ⟨b2, o2 + j * 5 + 2, none⟩ = some (.int .i64 (cs.getD j M.c0).e.1) := hc2 j hlt 2 (by omega)
      have q3 : wr.cell? ⟨b2, o2 + j * 5 + 3, none⟩ = some (.int .i64 (cs.getD j M.c0).e.2) := hc2 j hlt 3 (by omega)
      have q4 : wr.cell? ⟨b2, o2 + j * 5 + 4, none⟩ = some (.int .i64 (cs.getD j M.c0).n) := hc2 j hlt 4 (by omega)
      have hI : (j : Int) < (n : Int) := by omega
      have CE := eqClaim_same (cs.getD j M.c0)
      generalize cs.getD j M.c0 = c0 at p0 p1 p2 p3 p4 q0 q1 q2 q3 q4 CE
      obtain ⟨⟨x, y⟩, ⟨x', y'⟩, m⟩ := c0
      dsimp only [clv] at p0 p1 p2 p3 p4 q0 q1 q2 q3 q4 CE
      clear hc1 hc2
      go_wp2
      go_region_with (go_at_call 13; refine (CE _).mono ?_; rintro e w2 ⟨rfl, hb2⟩)
      all_goals
        have HB2 : Hid (Below w.heap.size w w2) := HB1.out.trans (((Below.refl _ _).drew.trans hb2).mono HB1.out.size)
        clear hb2
        go_wp2
        go_roundw
        case rel => exact ⟨j + 1, by omega, by go_num, HB2.out⟩
        case measure => simp [intOf]; omega
    · have hjn : j = n := by omega
      subst hjn
      go_wp2
      go_ret
      exact ⟨rfl, HB1.out⟩
end Go.Proofs.Ytjeoenieoejolaj
