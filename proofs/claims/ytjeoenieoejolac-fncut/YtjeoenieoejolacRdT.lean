/- What DrawTraceOk draws: some machine, some states. -/
import Derived.Test.YtjeoenieoejolacRdM
import Derived.Test.YtjeoenieoejolacRdO
import Derived.Test.YtjeoenieoejolacClP
import Derived.Test.YtjeoenieoejolacMaU
import Derived.Deep.RegionHeld3
namespace Go.Proofs.Ytjeoenieoejolac
open Go.RowKit

theorem Rd.belowS {w0 w w' : World} {R : Nat} {a : Option Addr} {len cap : Nat} (h : Rd w0 R a len cap w) (hb : Below w.heap.size w w') : Rd w0 R a len cap w' := by
  obtain ⟨p, hp, hcp⟩ := h.cp
  have h0 : w0.heap.size ≤ w.heap.size := h.below.size
  exact ⟨h.below.trans (hb.mono h0), h.lo, Nat.lt_of_lt_of_le h.hi hb.size, (hb.cell (p := ⟨R, 0, none⟩) h.hi).trans h.cb, ⟨p, hp, (hb.cell (p := ⟨R, 1, none⟩) h.hi).trans hcp⟩, (hb.frozen (p := ⟨R, 1, none⟩) h.hi).trans h.fr⟩
theorem Rd.set {w0 w : World} {R b i : Nat} {a : Option Addr} {len cap : Nat} {v : Value} (h : Rd w0 R a len cap w) (hb : w0.heap.size ≤ b) (hne : b ≠ R) : Rd w0 R a len cap (w.setCell ⟨b, i, none⟩ v) := by
  obtain ⟨p, hp, hcp⟩ := h.cp
  have e : ∀ j, (w.setCell ⟨b, i, none⟩ v).cell? ⟨R, j, none⟩ = w.cell? ⟨R, j, none⟩ := fun j => World.cell?_setCell_other (w := w) (a := ⟨b, i, none⟩) (b := ⟨R, j, none⟩) (v := v) (h := by intro e; simp only [Addr.mk.injEq] at e; omega)
  exact ⟨h.below.setCell hb _, h.lo, by have := h.hi; simpa [World.setCell] using this, (e 0).trans h.cb, ⟨p, hp, (e 1).trans hcp⟩, by simpa using h.fr⟩
theorem SeesQ.set {w : World} {b off n c i : Nat} {ps : List (Int × Int)} {x y : Int} (h : SeesQ w (some ⟨b, off, none⟩) n c ps) (hi : i < n) :
    SeesQ ((w.setCell ⟨b, off + i * 2, none⟩ (.int .i64 x)).setCell ⟨b, off + i * 2 + 1, none⟩ (.int .i64 y)) (some ⟨b, off, none⟩) n c (ps.set i (x, y)) := by
  refine ⟨by rw [List.length_set]; exact h.len, h.le, h.big, h.no, .inr ⟨b, off, rfl, fun j hj => ?_⟩⟩
  obtain ⟨b', off', e, hc⟩ := h.at (by omega)
  simp only [Option.some.injEq, Addr.mk.injEq, and_true] at e
  obtain ⟨rfl, rfl⟩ := e
  have hl := h.len
  have so : ∀ (W : World) (p q : Nat) (v : Value), p ≠ q → (W.setCell ⟨b, p, none⟩ v).cell? ⟨b, q, none⟩ = W.cell? ⟨b, q, none⟩ := fun W p q v hpq => World.cell?_setCell_other (w := W) (a := ⟨b, p, none⟩) (b := ⟨b, q, none⟩) (v := v) (h := by intro e; simp only [Addr.mk.injEq] at e; omega)
  by_cases e : j = i
  · subst e
    have hg : (ps.set j (x, y)).getD j (0, 0) = (x, y) := by rw [List.getD_eq_getElem?_getD, List.getElem?_set_self (by omega)]; rfl
    rw [hg]
    refine ⟨(so _ _ _ _ (by omega)).trans ?_, ?_⟩
    · exact World.cell?_setCell_same (w := w) (a := ⟨b, off + j * 2, none⟩) (v := .int .i64 x) (h := (hc j hj).1)
    · exact World.cell?_setCell_same (w := w.setCell ⟨b, off + j * 2, none⟩ (.int .i64 x)) (a := ⟨b, off + j * 2 + 1, none⟩) (v := .int .i64 y) (h := (so _ _ _ _ (by omega)).trans (hc j hj).2)
  · have hg : (ps.set i (x, y)).getD j (0, 0) = ps.getD j (0, 0) := by rw [List.getD_eq_getElem?_getD, List.getElem?_set_ne (by omega), ← List.getD_eq_getElem?_getD]
    rw [hg]
    exact ⟨((so _ _ _ _ (by omega)).trans (so _ _ _ _ (by omega))).trans (hc j hj).1, ((so _ _ _ _ (by omega)).trans (so _ _ _ _ (by omega))).trans (hc j hj).2⟩
theorem SeesQ.farSets {w : World} {a : Option Addr} {n c B : Nat} {ps : List (Int × Int)} {vs : List Value} (h : SeesQ w a n c ps) (hne : ∀ x, a = some x → x.block ≠ B) : SeesQ (sets w B 0 vs) a n c ps := by
  refine ⟨h.len, h.le, h.big, h.no, ?_⟩
  rcases h.pos with e | ⟨b, off, e, hc⟩
  · exact .inl e
  · have hb := hne _ e
    exact .inr ⟨b, off, e, fun i hi => ⟨(sets_far B (p := ⟨b, off + i * 2, none⟩) hb vs w 0).trans (hc i hi).1, (sets_far B (p := ⟨b, off + i * 2 + 1, none⟩) hb vs w 0).trans (hc i hi).2⟩⟩
set_option maxHeartbeats 16000000 in
set_option maxRecDepth 10000 in
theorem drawTraceOk_any {a : Option Addr} {len cap : Nat} {zs : List Int} (w : World) (hrow : Row .u8 w a len cap zs) :
    Calls Try.prog 7 #[.slice a len cap] w fun e w' => ∃ (m : M.Mc) (la : Option Addr) (n lc : Nat) (ps : List (Int × Int)), e = .returned (.tuple #[mcv m, .slice la n lc]) ∧ n ≤ 1001 ∧ SeesQ w' la n lc ps ∧ Below w.heap.size w w' := by
  have HBW : Hid (Below w.heap.size w (w.alloc (.cells #[.int .i64 0, .int .i64 0, .int .i64 0, .int .i64 0, .int .i64 0, .int .i64 0, .int .i64 0, .int .i64 0, .int .i64 0, .int .i64 0, .int .i64 0, .int .i64 0] 27))) := (Below.refl _ _).alloc (Nat.le_refl _) _
  have HRw : Hid (Row .u8 (w.alloc (.cells #[.int .i64 0, .int .i64 0, .int .i64 0, .int .i64 0, .int .i64 0, .int .i64 0, .int .i64 0, .int .i64 0, .int .i64 0, .int .i64 0, .int .i64 0, .int .i64 0] 27)) a len cap zs) := hrow.below2 HBW.out
  have LZ : Hid (Lies (w.alloc (.cells #[.int .i64 0, .int .i64 0, .int .i64 0, .int .i64 0, .int .i64 0, .int .i64 0, .int .i64 0, .int .i64 0, .int .i64 0, .int .i64 0, .int .i64 0, .int .i64 0] 27)) w.heap.size [.int .i64 0, .int .i64 0, .int .i64 0, .int .i64 0, .int .i64 0, .int .i64 0, .int .i64 0, .int .i64 0, .int .i64 0, .int .i64 0, .int .i64 0, .int .i64 0]) := lies_new _ _ _
  have HSW : Hid ((w.alloc (.cells #[.int .i64 0, .int .i64 0, .int .i64 0, .int .i64 0, .int .i64 0, .int .i64 0, .int .i64 0, .int .i64 0, .int .i64 0, .int .i64 0, .int .i64 0, .int .i64 0] 27)).heap.size = w.heap.size + 1) := by show _ = _; simp
  clear hrow
  go_enter Try.func7, Try.ntmps7
  go_wp2_with fail
  refine (open_any _).mono ?_
  rintro e w1 ⟨rfl, hr1⟩
  have hsw := HSW.out
  rw [hsw]
  rw [hsw] at hr1
  generalize (w.alloc (.cells #[.int .i64 0, .int .i64 0, .int .i64 0, .int .i64 0, .int .i64 0, .int .i64 0, .int .i64 0, .int .i64 0, .int .i64 0, .int .i64 0, .int .i64 0, .int .i64 0] 27)) = wb at hr1 HRw HBW LZ hsw
  have HR1 : Hid (Rd wb (w.heap.size + 1) a len cap w1) := hr1
  have HSZ : Hid (wb.heap.size = w.heap.size + 1) := hsw
  have LZ1 : Hid (Lies w1 w.heap.size [.int .i64 0, .int .i64 0, .int .i64 0, .int .i64 0, .int .i64 0, .int .i64 0, .int .i64 0, .int .i64 0, .int .i64 0, .int .i64 0, .int .i64 0, .int .i64 0]) := LZ.out.below hr1.below (by omega)
  clear hr1 hsw HSW
  go_wp2_with fail
  refine (machineR_any HRw.out _ HR1.out).mono ?_
  rintro e w2 ⟨⟨⟨a1, b1, e1, d1, f1, k1⟩, ⟨a2, b2, e2, d2, f2, k2⟩⟩, rfl, hr2, hg2⟩
  dsimp only [mcv]
  have LZ2 : Hid (Lies (w2.alloc (.cells #[.int .i64 a1, .int .i64 b1, .int .i64 e1, .int .i64 d1, .int .i64 f1, .int .i64 k1, .int .i64 a2, .int .i64 b2, .int .i64 e2, .int .i64 d2, .int .i64 f2, .int .i64 k2] 27)).drew w.heap.size [.int .i64 0, .int .i64 0, .int .i64 0, .int .i64 0, .int .i64 0, .int .i64 0, .int .i64 0, .int .i64 0, .int .i64 0, .int .i64 0, .int .i64 0, .int .i64 0]) := (LZ1.out.grown hg2 (by simp)).alloc _
  have hrd : Rd wb (w.heap.size + 1) a len cap (w2.alloc (.cells #[.int .i64 a1, .int .i64 b1, .int .i64 e1, .int .i64 d1, .int .i64 f1, .int .i64 k1, .int .i64 a2, .int .i64 b2, .int .i64 e2, .int .i64 d2, .int .i64 f2, .int .i64 k2] 27)).drew := (hr2.alloc _).belowS (Below.refl _ _).drew
  have hk : Lies (w2.alloc (.cells #[.int .i64 a1, .int .i64 b1, .int .i64 e1, .int .i64 d1, .int .i64 f1, .int .i64 k1, .int .i64 a2, .int .i64 b2, .int .i64 e2, .int .i64 d2, .int .i64 f2, .int .i64 k2] 27)).drew w2.heap.size [.int .i64 a1, .int .i64 b1, .int .i64 e1, .int .i64 d1, .int .i64 f1, .int .i64 k1, .int .i64 a2, .int .i64 b2, .int .i64 e2, .int .i64 d2, .int .i64 f2, .int .i64 k2] := lies_new _ _ _
  have h2R : (w.heap.size + 1) < w2.heap.size := hr2.hi
  have HKS : Hid (∀ W, Lies W w2.heap.size [.int .i64 a1, .int .i64 b1, .int .i64 e1, .int .i64 d1, .int .i64 f1, .int .i64 k1, .int .i64 a2, .int .i64 b2, .int .i64 e2, .int .i64 d2, .int .i64 f2, .int .i64 k2] → W.cell? ⟨w2.heap.size, 0, none⟩ = some (.int .i64 a1) ∧ W.cell? ⟨w2.heap.size, 1, none⟩ = some (.int .i64 b1) ∧ W.cell? ⟨w2.heap.size, 2, none⟩ = some (.int .i64 e1) ∧ W.cell? ⟨w2.heap.size, 3, none⟩ = some (.int .i64 d1) ∧ W.cell? ⟨w2.heap.size, 4, none⟩ = some (.int .i64 f1) ∧ W.cell? ⟨w2.heap.size, 5, none⟩ = some (.int .i64 k1) ∧ W.cell? ⟨w2.heap.size, 6, none⟩ = some (.int .i64 a2) ∧ W.cell? ⟨w2.heap.size, 7, none⟩ = some (.int .i64 b2) ∧ W.cell? ⟨w2.heap.size, 8, none⟩ = some (.int .i64 e2) ∧ W.cell? ⟨w2.heap.size, 9, none⟩ = some (.int .i64 d2) ∧ W.cell? ⟨w2.heap.size, 10, none⟩ = some (.int .i64 f2) ∧ W.cell? ⟨w2.heap.size, 11, none⟩ = some (.int .i64 k2)) := fun W h => ⟨h.at 0, h.at 1, h.at 2, h.at 3, h.at 4, h.at 5, h.at 6, h.at 7, h.at 8, h.at 9, h.at 10, h.at 11⟩
  have CS := fun (s : Int × Int) (n : Int) => specRunOf_any ⟨⟨a1, b1, e1, d1, f1, k1⟩, ⟨a2, b2, e2, d2, f2, k2⟩⟩ s n
  dsimp only [mcv] at CS
  clear hr2 hg2
  have lz := LZ2.out
  go_wp2
  go_region_held3 (fun W => W.cell? ⟨w2.heap.size, 0, none⟩ = some (.int .i64 a1) ∧ W.cell? ⟨w2.heap.size, 1, none⟩ = some (.int .i64 b1) ∧ W.cell? ⟨w2.heap.size, 2, none⟩ = some (.int .i64 e1) ∧ W.cell? ⟨w2.heap.size, 3, none⟩ = some (.int .i64 d1) ∧ W.cell? ⟨w2.heap.size, 4, none⟩ = some (.int .i64 f1) ∧ W.cell? ⟨w2.heap.size, 5, none⟩ = some (.int .i64 k1) ∧ W.cell? ⟨w2.heap.size, 6, none⟩ = some (.int .i64 a2) ∧ W.cell? ⟨w2.heap.size, 7, none⟩ = some (.int .i64 b2) ∧ W.cell? ⟨w2.heap.size, 8, none⟩ = some (.int .i64 e2) ∧ W.cell? ⟨w2.heap.size, 9, none⟩ = some (.int .i64 d2) ∧ W.cell? ⟨w2.heap.size, 10, none⟩ = some (.int .i64 f2) ∧ W.cell? ⟨w2.heap.size, 11, none⟩ = some (.int .i64 k2)) (exact HKS.out _ hk)
    (first
      | (go_at_call 25; refine (stateR_any HRw.out _ hrd).mono ?_; rintro e w3 ⟨⟨x, y⟩, rfl, hr3, hg3⟩; have hk' := hk.grown hg3 (by simp; omega); have lz' := lz.grown hg3 (by simp); clear hk hrd lz; have hk := hk'; have lz := lz'; have hrd := hr3; dsimp only [stv]; clear hk' lz' hr3 hg3)
      | (go_at_call 26; refine (below_any HRw.out 8 (by omega) (by omega) _ hrd).mono ?_; rintro e w4 ⟨n8, n80, n81, rfl, hr4, hg4⟩; have hk' := hk.grown hg4 (by simp; omega); have lz' := lz.grown hg4 (by simp); clear hk hrd lz; have hk := hk'; have lz := lz'; have hrd := hr4; clear hk' lz' hr4 hg4)
      | (go_at_call 24; refine (CS (x, y) n8 _).mono ?_; rintro e w5 ⟨la, ll, lc, rfl, hll, hlo, hb5⟩; have hk' := hk.belowS hb5; have lz' := lz.belowS hb5; have hrd' := hrd.belowS hb5; have h4k := hk.2.2; have h4r := hrd.hi; have h4z := lz.2.2; clear hk hrd lz; have hk := hk'; have lz := lz'; have hrd := hrd'; clear hk' lz' hrd'))
  generalize M.runOk (M.Mc.mk _ _) (x, y) n8 = ro at *
  generalize M.runv (M.Mc.mk _ _) (x, y) n8 = ps at *
  have HQ5 : Hid (SeesQ w5 la ll lc ps) := hlo.see
  have HX5 : Hid (∀ q, la = some q → w4.heap.size ≤ q.block ∧ q.block < w5.heap.size) := hlo.lo
  have HF5 : Hid (∀ g, la = some ⟨g, 0, none⟩ → ∀ i, w5.frozen? ⟨g, i, none⟩ = false) := by rintro g rfl; exact hlo.room
  have HG5 : Hid (0 < ll → ∃ g, la = some ⟨g, 0, none⟩) := fun h => by obtain ⟨g, e, _⟩ := hlo.block h; exact ⟨g, e⟩
  have HK5 : Hid (Lies w5 w2.heap.size [.int .i64 a1, .int .i64 b1, .int .i64 e1, .int .i64 d1, .int .i64 f1, .int .i64 k1, .int .i64 a2, .int .i64 b2, .int .i64 e2, .int .i64 d2, .int .i64 f2, .int .i64 k2]) := hk
  have LZ5 : Hid (Lies w5 w.heap.size [.int .i64 0, .int .i64 0, .int .i64 0, .int .i64 0, .int .i64 0, .int .i64 0, .int .i64 0, .int .i64 0, .int .i64 0, .int .i64 0, .int .i64 0, .int .i64 0]) := lz
  have HR5 : Hid (Rd wb (w.heap.size + 1) a len cap w5) := hrd
  clear hlo hk lz hrd hb5 LZ2 CS
  go_wp2_with fail
  refine (once_any HRw.out 3 (by omega) (by omega) _ HR5.out).mono ?_
  rintro e w6 ⟨ob, rfl, hr6, hg6⟩
  have HQ6 : Hid (SeesQ w6 la ll lc ps) := HQ5.out.grown hg6 (fun q hq => by have := HX5.out q hq; simp; omega)
  have HX6 : Hid (∀ q, la = some q → w4.heap.size ≤ q.block ∧ q.block < w6.heap.size) := fun q hq => ⟨(HX5.out q hq).1, Nat.lt_of_lt_of_le (HX5.out q hq).2 hg6.size⟩
  have HF6 : Hid (∀ g, la = some ⟨g, 0, none⟩ → ∀ i, w6.frozen? ⟨g, i, none⟩ = false) := fun g hg i => (grown_frozen (p := ⟨g, i, none⟩) hg6 (HX5.out _ hg).2 (by have := (HX5.out _ hg).1; simp at this; simp; omega)).trans (HF5.out g hg i)
  have HK6 : Hid (Lies w6 w2.heap.size [.int .i64 a1, .int .i64 b1, .int .i64 e1, .int .i64 d1, .int .i64 f1, .int .i64 k1, .int .i64 a2, .int .i64 b2, .int .i64 e2, .int .i64 d2, .int .i64 f2, .int .i64 k2]) := HK5.out.grown hg6 (by simp; omega)
  have LZ6 : Hid (Lies w6 w.heap.size [.int .i64 0, .int .i64 0, .int .i64 0, .int .i64 0, .int .i64 0, .int .i64 0, .int .i64 0, .int .i64 0, .int .i64 0, .int .i64 0, .int .i64 0, .int .i64 0]) := LZ5.out.grown hg6 (by simp)
  have HR6 : Hid (Rd wb (w.heap.size + 1) a len cap w6) := hr6
  clear hr6 hg6 HQ5 HX5 HF5 HK5 LZ5 HR5
  cases ob with
  | false =>
    have kk0 : w6.cell? ⟨w2.heap.size, 0, none⟩ = some (.int .i64 a1) := HK6.out.at 0
    have kk1 : w6.cell? ⟨w2.heap.size, 1, none⟩ = some (.int .i64 b1) := HK6.out.at 1
    have kk2 : w6.cell? ⟨w2.heap.size, 2, none⟩ = some (.int .i64 e1) := HK6.out.at 2
    have kk3 : w6.cell? ⟨w2.heap.size, 3, none⟩ = some (.int .i64 d1) := HK6.out.at 3
    have kk4 : w6.cell? ⟨w2.heap.size, 4, none⟩ = some (.int .i64 f1) := HK6.out.at 4
    have kk5 : w6.cell? ⟨w2.heap.size, 5, none⟩ = some (.int .i64 k1) := HK6.out.at 5
    have kk6 : w6.cell? ⟨w2.heap.size, 6, none⟩ = some (.int .i64 a2) := HK6.out.at 6
    have kk7 : w6.cell? ⟨w2.heap.size, 7, none⟩ = some (.int .i64 b2) := HK6.out.at 7
    have kk8 : w6.cell? ⟨w2.heap.size, 8, none⟩ = some (.int .i64 e2) := HK6.out.at 8
    have kk9 : w6.cell? ⟨w2.heap.size, 9, none⟩ = some (.int .i64 d2) := HK6.out.at 9
    have kk10 : w6.cell? ⟨w2.heap.size, 10, none⟩ = some (.int .i64 f2) := HK6.out.at 10
    have kk11 : w6.cell? ⟨w2.heap.size, 11, none⟩ = some (.int .i64 k2) := HK6.out.at 11
    have zl0 : w6.cell? ⟨w.heap.size, 0, none⟩ = some (.int .i64 0) := LZ6.out.at 0
    have zf0 : w6.frozen? ⟨w.heap.size, 0, none⟩ = false := LZ6.out.fr 0
    have zl1 : w6.cell? ⟨w.heap.size, 1, none⟩ = some (.int .i64 0) := LZ6.out.at 1
    have zf1 : w6.frozen? ⟨w.heap.size, 1, none⟩ = false := LZ6.out.fr 1
    have zl2 : w6.cell? ⟨w.heap.size, 2, none⟩ = some (.int .i64 0) := LZ6.out.at 2
    have zf2 : w6.frozen? ⟨w.heap.size, 2, none⟩ = false := LZ6.out.fr 2
    have zl3 : w6.cell? ⟨w.heap.size, 3, none⟩ = some (.int .i64 0) := LZ6.out.at 3
    have zf3 : w6.frozen? ⟨w.heap.size, 3, none⟩ = false := LZ6.out.fr 3
    have zl4 : w6.cell? ⟨w.heap.size, 4, none⟩ = some (.int .i64 0) := LZ6.out.at 4
    have zf4 : w6.frozen? ⟨w.heap.size, 4, none⟩ = false := LZ6.out.fr 4
    have zl5 : w6.cell? ⟨w.heap.size, 5, none⟩ = some (.int .i64 0) := LZ6.out.at 5
    have zf5 : w6.frozen? ⟨w.heap.size, 5, none⟩ = false := LZ6.out.fr 5
    have zl6 : w6.cell? ⟨w.heap.size, 6, none⟩ = some (.int .i64 0) := LZ6.out.at 6
    have zf6 : w6.frozen? ⟨w.heap.size, 6, none⟩ = false := LZ6.out.fr 6
    have zl7 : w6.cell? ⟨w.heap.size, 7, none⟩ = some (.int .i64 0) := LZ6.out.at 7
    have zf7 : w6.frozen? ⟨w.heap.size, 7, none⟩ = false := LZ6.out.fr 7
    have zl8 : w6.cell? ⟨w.heap.size, 8, none⟩ = some (.int .i64 0) := LZ6.out.at 8
    have zf8 : w6.frozen? ⟨w.heap.size, 8, none⟩ = false := LZ6.out.fr 8
    have zl9 : w6.cell? ⟨w.heap.size, 9, none⟩ = some (.int .i64 0) := LZ6.out.at 9
    have zf9 : w6.frozen? ⟨w.heap.size, 9, none⟩ = false := LZ6.out.fr 9
    have zl10 : w6.cell? ⟨w.heap.size, 10, none⟩ = some (.int .i64 0) := LZ6.out.at 10
    have zf10 : w6.frozen? ⟨w.heap.size, 10, none⟩ = false := LZ6.out.fr 10
    have zl11 : w6.cell? ⟨w.heap.size, 11, none⟩ = some (.int .i64 0) := LZ6.out.at 11
    have zf11 : w6.frozen? ⟨w.heap.size, 11, none⟩ = false := LZ6.out.fr 11
    have hQ := HQ6.out.farSets (B := w.heap.size) (vs := [Value.int .i64 a1, Value.int .i64 b1, Value.int .i64 e1, Value.int .i64 d1, Value.int .i64 f1, Value.int .i64 k1, Value.int .i64 a2, Value.int .i64 b2, Value.int .i64 e2, Value.int .i64 d2, Value.int .i64 f2, Value.int .i64 k2]) (fun q hq => by have := HX6.out q hq; omega)
    have hBz : Below w.heap.size w (sets w6 w.heap.size 0 [Value.int .i64 a1, Value.int .i64 b1, Value.int .i64 e1, Value.int .i64 d1, Value.int .i64 f1, Value.int .i64 k1, Value.int .i64 a2, Value.int .i64 b2, Value.int .i64 e2, Value.int .i64 d2, Value.int .i64 f2, Value.int .i64 k2]) := sets_below (Nat.le_refl _) _ _ _ (HBW.out.trans (HR6.out.below.mono (by have := HSZ.out; omega)))
    obtain ⟨wz, hwz⟩ : ∃ zz, zz = sets w6 w.heap.size 0 [Value.int .i64 a1, Value.int .i64 b1, Value.int .i64 e1, Value.int .i64 d1, Value.int .i64 f1, Value.int .i64 k1, Value.int .i64 a2, Value.int .i64 b2, Value.int .i64 e2, Value.int .i64 d2, Value.int .i64 f2, Value.int .i64 k2] := ⟨_, rfl⟩
    have ha := sets_at w.heap.size [Value.int .i64 a1, Value.int .i64 b1, Value.int .i64 e1, Value.int .i64 d1, Value.int .i64 f1, Value.int .i64 k1, Value.int .i64 a2, Value.int .i64 b2, Value.int .i64 e2, Value.int .i64 d2, Value.int .i64 f2, Value.int .i64 k2] w6 0 (fun j hj => by
      match j, hj with
      | 0, _ => exact ⟨_, zl0⟩
      | 1, _ => exact ⟨_, zl1⟩
      | 2, _ => exact ⟨_, zl2⟩
      | 3, _ => exact ⟨_, zl3⟩
      | 4, _ => exact ⟨_, zl4⟩
      | 5, _ => exact ⟨_, zl5⟩
      | 6, _ => exact ⟨_, zl6⟩
      | 7, _ => exact ⟨_, zl7⟩
      | 8, _ => exact ⟨_, zl8⟩
      | 9, _ => exact ⟨_, zl9⟩
      | 10, _ => exact ⟨_, zl10⟩
      | 11, _ => exact ⟨_, zl11⟩)
    have hwx : wz = ((((((((((((w6.setCell ⟨w.heap.size, 0, none⟩ (.int .i64 a1)).setCell ⟨w.heap.size, 1, none⟩ (.int .i64 b1)).setCell ⟨w.heap.size, 2, none⟩ (.int .i64 e1)).setCell ⟨w.heap.size, 3, none⟩ (.int .i64 d1)).setCell ⟨w.heap.size, 4, none⟩ (.int .i64 f1)).setCell ⟨w.heap.size, 5, none⟩ (.int .i64 k1)).setCell ⟨w.heap.size, 6, none⟩ (.int .i64 a2)).setCell ⟨w.heap.size, 7, none⟩ (.int .i64 b2)).setCell ⟨w.heap.size, 8, none⟩ (.int .i64 e2)).setCell ⟨w.heap.size, 9, none⟩ (.int .i64 d2)).setCell ⟨w.heap.size, 10, none⟩ (.int .i64 f2)).setCell ⟨w.heap.size, 11, none⟩ (.int .i64 k2)) := hwz
    rw [← hwz] at ha hQ hBz
    have z0 : wz.cell? ⟨w.heap.size, 0, none⟩ = some (.int .i64 a1) := by simpa using ha 0 _ rfl
    have z1 : wz.cell? ⟨w.heap.size, 1, none⟩ = some (.int .i64 b1) := by simpa using ha 1 _ rfl
    have z2 : wz.cell? ⟨w.heap.size, 2, none⟩ = some (.int .i64 e1) := by simpa using ha 2 _ rfl
    have z3 : wz.cell? ⟨w.heap.size, 3, none⟩ = some (.int .i64 d1) := by simpa using ha 3 _ rfl
    have z4 : wz.cell? ⟨w.heap.size, 4, none⟩ = some (.int .i64 f1) := by simpa using ha 4 _ rfl
    have z5 : wz.cell? ⟨w.heap.size, 5, none⟩ = some (.int .i64 k1) := by simpa using ha 5 _ rfl
    have z6 : wz.cell? ⟨w.heap.size, 6, none⟩ = some (.int .i64 a2) := by simpa using ha 6 _ rfl
    have z7 : wz.cell? ⟨w.heap.size, 7, none⟩ = some (.int .i64 b2) := by simpa using ha 7 _ rfl
    have z8 : wz.cell? ⟨w.heap.size, 8, none⟩ = some (.int .i64 e2) := by simpa using ha 8 _ rfl
    have z9 : wz.cell? ⟨w.heap.size, 9, none⟩ = some (.int .i64 d2) := by simpa using ha 9 _ rfl
    have z10 : wz.cell? ⟨w.heap.size, 10, none⟩ = some (.int .i64 f2) := by simpa using ha 10 _ rfl
    have z11 : wz.cell? ⟨w.heap.size, 11, none⟩ = some (.int .i64 k2) := by simpa using ha 11 _ rfl
    have HQz : Hid (SeesQ wz _ ll lc _) := hQ
    have HBz : Hid (Below w.heap.size w wz) := hBz
    clear ha hQ hBz hwz
    go_wp2
    rw [← hwx]
    refine bodyPost_ret (v := .tuple #[.agg #[.int .i64 a1, .int .i64 b1, .int .i64 e1, .int .i64 d1, .int .i64 f1, .int .i64 k1, .int .i64 a2, .int .i64 b2, .int .i64 e2, .int .i64 d2, .int .i64 f2, .int .i64 k2], .slice _ ll lc]) (by simp [results, Try.results7, go_sem, z0, z1, z2, z3, z4, z5, z6, z7, z8, z9, z10, z11]) rfl ⟨⟨⟨a1, b1, e1, d1, f1, k1⟩, ⟨a2, b2, e2, d2, f2, k2⟩⟩, _, ll, lc, _, rfl, by omega, HQz.out, HBz.out⟩
  | true =>
    by_cases hl0 : ll = 0
    · subst hl0
      have kk0 : w6.cell? ⟨w2.heap.size, 0, none⟩ = some (.int .i64 a1) := HK6.out.at 0
      have kk1 : w6.cell? ⟨w2.heap.size, 1, none⟩ = some (.int .i64 b1) := HK6.out.at 1
      have kk2 : w6.cell? ⟨w2.heap.size, 2, none⟩ = some (.int .i64 e1) := HK6.out.at 2
      have kk3 : w6.cell? ⟨w2.heap.size, 3, none⟩ = some (.int .i64 d1) := HK6.out.at 3
      have kk4 : w6.cell? ⟨w2.heap.size, 4, none⟩ = some (.int .i64 f1) := HK6.out.at 4
      have kk5 : w6.cell? ⟨w2.heap.size, 5, none⟩ = some (.int .i64 k1) := HK6.out.at 5
      have kk6 : w6.cell? ⟨w2.heap.size, 6, none⟩ = some (.int .i64 a2) := HK6.out.at 6
      have kk7 : w6.cell? ⟨w2.heap.size, 7, none⟩ = some (.int .i64 b2) := HK6.out.at 7
      have kk8 : w6.cell? ⟨w2.heap.size, 8, none⟩ = some (.int .i64 e2) := HK6.out.at 8
      have kk9 : w6.cell? ⟨w2.heap.size, 9, none⟩ = some (.int .i64 d2) := HK6.out.at 9
      have kk10 : w6.cell? ⟨w2.heap.size, 10, none⟩ = some (.int .i64 f2) := HK6.out.at 10
      have kk11 : w6.cell? ⟨w2.heap.size, 11, none⟩ = some (.int .i64 k2) := HK6.out.at 11
      have zl0 : w6.cell? ⟨w.heap.size, 0, none⟩ = some (.int .i64 0) := LZ6.out.at 0
      have zf0 : w6.frozen? ⟨w.heap.size, 0, none⟩ = false := LZ6.out.fr 0
      have zl1 : w6.cell? ⟨w.heap.size, 1, none⟩ = some (.int .i64 0) := LZ6.out.at 1
      have zf1 : w6.frozen? ⟨w.heap.size, 1, none⟩ = false := LZ6.out.fr 1
      have zl2 : w6.cell? ⟨w.heap.size, 2, none⟩ = some (.int .i64 0) := LZ6.out.at 2
      have zf2 : w6.frozen? ⟨w.heap.size, 2, none⟩ = false := LZ6.out.fr 2
      have zl3 : w6.cell? ⟨w.heap.size, 3, none⟩ = some (.int .i64 0) := LZ6.out.at 3
      have zf3 : w6.frozen? ⟨w.heap.size, 3, none⟩ = false := LZ6.out.fr 3
      have zl4 : w6.cell? ⟨w.heap.size, 4, none⟩ = some (.int .i64 0) := LZ6.out.at 4
      have zf4 : w6.frozen? ⟨w.heap.size, 4, none⟩ = false := LZ6.out.fr 4
      have zl5 : w6.cell? ⟨w.heap.size, 5, none⟩ = some (.int .i64 0) := LZ6.out.at 5
      have zf5 : w6.frozen? ⟨w.heap.size, 5, none⟩ = false := LZ6.out.fr 5
      have zl6 : w6.cell? ⟨w.heap.size, 6, none⟩ = some (.int .i64 0) := LZ6.out.at 6
      have zf6 : w6.frozen? ⟨w.heap.size, 6, none⟩ = false := LZ6.out.fr 6
      have zl7 : w6.cell? ⟨w.heap.size, 7, none⟩ = some (.int .i64 0) := LZ6.out.at 7
      have zf7 : w6.frozen? ⟨w.heap.size, 7, none⟩ = false := LZ6.out.fr 7
      have zl8 : w6.cell? ⟨w.heap.size, 8, none⟩ = some (.int .i64 0) := LZ6.out.at 8
      have zf8 : w6.frozen? ⟨w.heap.size, 8, none⟩ = false := LZ6.out.fr 8
      have zl9 : w6.cell? ⟨w.heap.size, 9, none⟩ = some (.int .i64 0) := LZ6.out.at 9
      have zf9 : w6.frozen? ⟨w.heap.size, 9, none⟩ = false := LZ6.out.fr 9
      have zl10 : w6.cell? ⟨w.heap.size, 10, none⟩ = some (.int .i64 0) := LZ6.out.at 10
      have zf10 : w6.frozen? ⟨w.heap.size, 10, none⟩ = false := LZ6.out.fr 10
      have zl11 : w6.cell? ⟨w.heap.size, 11, none⟩ = some (.int .i64 0) := LZ6.out.at 11
      have zf11 : w6.frozen? ⟨w.heap.size, 11, none⟩ = false := LZ6.out.fr 11
      have hQ := HQ6.out.farSets (B := w.heap.size) (vs := [Value.int .i64 a1, Value.int .i64 b1, Value.int .i64 e1, Value.int .i64 d1, Value.int .i64 f1, Value.int .i64 k1, Value.int .i64 a2, Value.int .i64 b2, Value.int .i64 e2, Value.int .i64 d2, Value.int .i64 f2, Value.int .i64 k2]) (fun q hq => by have := HX6.out q hq; omega)
      have hBz : Below w.heap.size w (sets w6 w.heap.size 0 [Value.int .i64 a1, Value.int .i64 b1, Value.int .i64 e1, Value.int .i64 d1, Value.int .i64 f1, Value.int .i64 k1, Value.int .i64 a2, Value.int .i64 b2, Value.int .i64 e2, Value.int .i64 d2, Value.int .i64 f2, Value.int .i64 k2]) := sets_below (Nat.le_refl _) _ _ _ (HBW.out.trans (HR6.out.below.mono (by have := HSZ.out; omega)))
      obtain ⟨wz, hwz⟩ : ∃ zz, zz = sets w6 w.heap.size 0 [Value.int .i64 a1, Value.int .i64 b1, Value.int .i64 e1, Value.int .i64 d1, Value.int .i64 f1, Value.int .i64 k1, Value.int .i64 a2, Value.int .i64 b2, Value.int .i64 e2, Value.int .i64 d2, Value.int .i64 f2, Value.int .i64 k2] := ⟨_, rfl⟩
      have ha := sets_at w.heap.size [Value.int .i64 a1, Value.int .i64 b1, Value.int .i64 e1, Value.int .i64 d1, Value.int .i64 f1, Value.int .i64 k1, Value.int .i64 a2, Value.int .i64 b2, Value.int .i64 e2, Value.int .i64 d2, Value.int .i64 f2, Value.int .i64 k2] w6 0 (fun j hj => by
        match j, hj with
        | 0, _ => exact ⟨_, zl0⟩
        | 1, _ => exact ⟨_, zl1⟩
        | 2, _ => exact ⟨_, zl2⟩
        | 3, _ => exact ⟨_, zl3⟩
        | 4, _ => exact ⟨_, zl4⟩
        | 5, _ => exact ⟨_, zl5⟩
        | 6, _ => exact ⟨_, zl6⟩
        | 7, _ => exact ⟨_, zl7⟩
        | 8, _ => exact ⟨_, zl8⟩
        | 9, _ => exact ⟨_, zl9⟩
        | 10, _ => exact ⟨_, zl10⟩
        | 11, _ => exact ⟨_, zl11⟩)
      have hwx : wz = ((((((((((((w6.setCell ⟨w.heap.size, 0, none⟩ (.int .i64 a1)).setCell ⟨w.heap.size, 1, none⟩ (.int .i64 b1)).setCell ⟨w.heap.size, 2, none⟩ (.int .i64 e1)).setCell ⟨w.heap.size, 3, none⟩ (.int .i64 d1)).setCell ⟨w.heap.size, 4, none⟩ (.int .i64 f1)).setCell ⟨w.heap.size, 5, none⟩ (.int .i64 k1)).setCell ⟨w.heap.size, 6, none⟩ (.int .i64 a2)).setCell ⟨w.heap.size, 7, none⟩ (.int .i64 b2)).setCell ⟨w.heap.size, 8, none⟩ (.int .i64 e2)).setCell ⟨w.heap.size, 9, none⟩ (.int .i64 d2)).setCell ⟨w.heap.size, 10, none⟩ (.int .i64 f2)).setCell ⟨w.heap.size, 11, none⟩ (.int .i64 k2)) := hwz
      rw [← hwz] at ha hQ hBz
      have z0 : wz.cell? ⟨w.heap.size, 0, none⟩ = some (.int .i64 a1) := by simpa using ha 0 _ rfl
      have z1 : wz.cell? ⟨w.heap.size, 1, none⟩ = some (.int .i64 b1) := by simpa using ha 1 _ rfl
      have z2 : wz.cell? ⟨w.heap.size, 2, none⟩ = some (.int .i64 e1) := by simpa using ha 2 _ rfl
      have z3 : wz.cell? ⟨w.heap.size, 3, none⟩ = some (.int .i64 d1) := by simpa using ha 3 _ rfl
      have z4 : wz.cell? ⟨w.heap.size, 4, none⟩ = some (.int .i64 f1) := by simpa using ha 4 _ rfl
      have z5 : wz.cell? ⟨w.heap.size, 5, none⟩ = some (.int .i64 k1) := by simpa using ha 5 _ rfl
      have z6 : wz.cell? ⟨w.heap.size, 6, none⟩ = some (.int .i64 a2) := by simpa using ha 6 _ rfl
      have z7 : wz.cell? ⟨w.heap.size, 7, none⟩ = some (.int .i64 b2) := by simpa using ha 7 _ rfl
      have z8 : wz.cell? ⟨w.heap.size, 8, none⟩ = some (.int .i64 e2) := by simpa using ha 8 _ rfl
      have z9 : wz.cell? ⟨w.heap.size, 9, none⟩ = some (.int .i64 d2) := by simpa using ha 9 _ rfl
      have z10 : wz.cell? ⟨w.heap.size, 10, none⟩ = some (.int .i64 f2) := by simpa using ha 10 _ rfl
      have z11 : wz.cell? ⟨w.heap.size, 11, none⟩ = some (.int .i64 k2) := by simpa using ha 11 _ rfl
      have HQz : Hid (SeesQ wz _ 0 lc _) := hQ
      have HBz : Hid (Below w.heap.size w wz) := hBz
      clear ha hQ hBz hwz
      go_wp2
      rw [← hwx]
      refine bodyPost_ret (v := .tuple #[.agg #[.int .i64 a1, .int .i64 b1, .int .i64 e1, .int .i64 d1, .int .i64 f1, .int .i64 k1, .int .i64 a2, .int .i64 b2, .int .i64 e2, .int .i64 d2, .int .i64 f2, .int .i64 k2], .slice _ 0 lc]) (by simp [results, Try.results7, go_sem, z0, z1, z2, z3, z4, z5, z6, z7, z8, z9, z10, z11]) rfl ⟨⟨⟨a1, b1, e1, d1, f1, k1⟩, ⟨a2, b2, e2, d2, f2, k2⟩⟩, _, 0, lc, _, rfl, by omega, HQz.out, HBz.out⟩
    · obtain ⟨g, rfl⟩ := HG5.out (by omega)
      have hlI : (0 : Int) < (ll : Int) := by omega
      have hln : (ll : Int) ≤ 1001 := by omega
      have hgl : w4.heap.size ≤ g := (HX6.out _ rfl).1
      go_wp2_with fail
      refine (below_any HRw.out (ll : Int) (by omega) (by omega) _ HR6.out).mono ?_
      rintro e w7 ⟨iv, iv0, iv1, rfl, hr7, hg7⟩
      obtain ⟨i, rfl⟩ := Int.eq_ofNat_of_zero_le iv0
      have HR7 : Hid (Rd wb (w.heap.size + 1) a len cap w7) := hr7
      have HG7 : Hid (w6.grownBy w7 (some (w.heap.size + 1))) := hg7
      clear hr7 hg7
      go_wp2_with fail
      refine (stateR_any HRw.out _ HR7.out).mono ?_
      rintro e w8 ⟨⟨u, v⟩, rfl, hr8, hg8⟩
      dsimp only [stv]
      have HG8 : Hid (w6.grownBy w8 (some (w.heap.size + 1))) := HG7.out.trans hg8
      have HQ8 : Hid (SeesQ w8 (some ⟨g, 0, none⟩) ll lc ps) := HQ6.out.grown HG8.out (fun q hq => by have := HX6.out q hq; simp; omega)
      have HX8 : Hid (∀ q, some (⟨g, 0, none⟩ : Addr) = some q → w4.heap.size ≤ q.block ∧ q.block < w8.heap.size) := fun q hq => ⟨(HX6.out q hq).1, Nat.lt_of_lt_of_le (HX6.out q hq).2 HG8.out.size⟩
      have HF8 : Hid (∀ i, w8.frozen? ⟨g, i, none⟩ = false) := fun i => (grown_frozen (p := ⟨g, i, none⟩) HG8.out (HX6.out _ rfl).2 (by have := (HX6.out _ rfl).1; simp at this; simp; omega)).trans (HF6.out g rfl i)
      have HK8 : Hid (Lies w8 w2.heap.size [.int .i64 a1, .int .i64 b1, .int .i64 e1, .int .i64 d1, .int .i64 f1, .int .i64 k1, .int .i64 a2, .int .i64 b2, .int .i64 e2, .int .i64 d2, .int .i64 f2, .int .i64 k2]) := HK6.out.grown HG8.out (by simp; omega)
      have LZ8 : Hid (Lies w8 w.heap.size [.int .i64 0, .int .i64 0, .int .i64 0, .int .i64 0, .int .i64 0, .int .i64 0, .int .i64 0, .int .i64 0, .int .i64 0, .int .i64 0, .int .i64 0, .int .i64 0]) := LZ6.out.grown HG8.out (by simp)
      have HR8 : Hid (Rd wb (w.heap.size + 1) a len cap w8) := hr8
      clear hr8 hg8 HG7 HG8 HQ6 HX6 HF6 HK6 LZ6 HR6 HR7
      have hi : i < ll := by omega
      have HQ9 : Hid (SeesQ ((w8.setCell ⟨g, i * 2, none⟩ (.int .i64 u)).setCell ⟨g, i * 2 + 1, none⟩ (.int .i64 v)) (some ⟨g, 0, none⟩) ll lc (ps.set i (u, v))) := by have := HQ8.out.set (x := u) (y := v) hi; simp only [Nat.zero_add] at this; exact this
      have HX9 : Hid (∀ q, some (⟨g, 0, none⟩ : Addr) = some q → w4.heap.size ≤ q.block ∧ q.block < ((w8.setCell ⟨g, i * 2, none⟩ (.int .i64 u)).setCell ⟨g, i * 2 + 1, none⟩ (.int .i64 v)).heap.size) := fun q hq => by have := HX8.out q hq; simpa [World.setCell] using this
      have HK9 : Hid (Lies ((w8.setCell ⟨g, i * 2, none⟩ (.int .i64 u)).setCell ⟨g, i * 2 + 1, none⟩ (.int .i64 v)) w2.heap.size [.int .i64 a1, .int .i64 b1, .int .i64 e1, .int .i64 d1, .int .i64 f1, .int .i64 k1, .int .i64 a2, .int .i64 b2, .int .i64 e2, .int .i64 d2, .int .i64 f2, .int .i64 k2]) := (HK8.out.far (by omega) _ _).far (by omega) _ _
      have LZ9 : Hid (Lies ((w8.setCell ⟨g, i * 2, none⟩ (.int .i64 u)).setCell ⟨g, i * 2 + 1, none⟩ (.int .i64 v)) w.heap.size [.int .i64 0, .int .i64 0, .int .i64 0, .int .i64 0, .int .i64 0, .int .i64 0, .int .i64 0, .int .i64 0, .int .i64 0, .int .i64 0, .int .i64 0, .int .i64 0]) := (LZ8.out.far (by omega) _ _).far (by omega) _ _
      have HR9 : Hid (Rd wb (w.heap.size + 1) a len cap ((w8.setCell ⟨g, i * 2, none⟩ (.int .i64 u)).setCell ⟨g, i * 2 + 1, none⟩ (.int .i64 v))) := (HR8.out.set (by have := HSZ.out; omega) (by omega)).set (by have := HSZ.out; omega) (by omega)
      obtain ⟨b', o', e', hc'⟩ := HQ8.out.at (by omega)
      simp only [Option.some.injEq, Addr.mk.injEq, and_true] at e'
      obtain ⟨rfl, rfl⟩ := e'
      obtain ⟨c1, c2⟩ := hc' i hi
      rw [Nat.zero_add] at c1 c2
      have c3 : (w8.setCell ⟨g, i * 2, none⟩ (.int .i64 u)).cell? ⟨g, i * 2 + 1, none⟩ = _ := (World.cell?_setCell_other (w := w8) (a := ⟨g, i * 2, none⟩) (b := ⟨g, i * 2 + 1, none⟩) (v := .int .i64 u) (h := by intro e; simp only [Addr.mk.injEq] at e; omega)).trans c2
      have q1 := HF8.out (i * 2)
      have q2 := HF8.out (i * 2 + 1)
      have hiI : (i : Int) < (ll : Int) := by omega
      clear hc' HQ8 HX8 HF8 HK8 LZ8 HR8
      have kk0 : ((w8.setCell ⟨g, i * 2, none⟩ (.int .i64 u)).setCell ⟨g, i * 2 + 1, none⟩ (.int .i64 v)).cell? ⟨w2.heap.size, 0, none⟩ = some (.int .i64 a1) := HK9.out.at 0
      have kk1 : ((w8.setCell ⟨g, i * 2, none⟩ (.int .i64 u)).setCell ⟨g, i * 2 + 1, none⟩ (.int .i64 v)).cell? ⟨w2.heap.size, 1, none⟩ = some (.int .i64 b1) := HK9.out.at 1
      have kk2 : ((w8.setCell ⟨g, i * 2, none⟩ (.int .i64 u)).setCell ⟨g, i * 2 + 1, none⟩ (.int .i64 v)).cell? ⟨w2.heap.size, 2, none⟩ = some (.int .i64 e1) := HK9.out.at 2
      have kk3 : ((w8.setCell ⟨g, i * 2, none⟩ (.int .i64 u)).setCell ⟨g, i * 2 + 1, none⟩ (.int .i64 v)).cell? ⟨w2.heap.size, 3, none⟩ = some (.int .i64 d1) := HK9.out.at 3
      have kk4 : ((w8.setCell ⟨g, i * 2, none⟩ (.int .i64 u)).setCell ⟨g, i * 2 + 1, none⟩ (.int .i64 v)).cell? ⟨w2.heap.size, 4, none⟩ = some (.int .i64 f1) := HK9.out.at 4
      have kk5 : ((w8.setCell ⟨g, i * 2, none⟩ (.int .i64 u)).setCell ⟨g, i * 2 + 1, none⟩ (.int .i64 v)).cell? ⟨w2.heap.size, 5, none⟩ = some (.int .i64 k1) := HK9.out.at 5
      have kk6 : ((w8.setCell ⟨g, i * 2, none⟩ (.int .i64 u)).setCell ⟨g, i * 2 + 1, none⟩ (.int .i64 v)).cell? ⟨w2.heap.size, 6, none⟩ = some (.int .i64 a2) := HK9.out.at 6
      have kk7 : ((w8.setCell ⟨g, i * 2, none⟩ (.int .i64 u)).setCell ⟨g, i * 2 + 1, none⟩ (.int .i64 v)).cell? ⟨w2.heap.size, 7, none⟩ = some (.int .i64 b2) := HK9.out.at 7
      have kk8 : ((w8.setCell ⟨g, i * 2, none⟩ (.int .i64 u)).setCell ⟨g, i * 2 + 1, none⟩ (.int .i64 v)).cell? ⟨w2.heap.size, 8, none⟩ = some (.int .i64 e2) := HK9.out.at 8
      have kk9 : ((w8.setCell ⟨g, i * 2, none⟩ (.int .i64 u)).setCell ⟨g, i * 2 + 1, none⟩ (.int .i64 v)).cell? ⟨w2.heap.size, 9, none⟩ = some (.int .i64 d2) := HK9.out.at 9
      have kk10 : ((w8.setCell ⟨g, i * 2, none⟩ (.int .i64 u)).setCell ⟨g, i * 2 + 1, none⟩ (.int .i64 v)).cell? ⟨w2.heap.size, 10, none⟩ = some (.int .i64 f2) := HK9.out.at 10
      have kk11 : ((w8.setCell ⟨g, i * 2, none⟩ (.int .i64 u)).setCell ⟨g, i * 2 + 1, none⟩ (.int .i64 v)).cell? ⟨w2.heap.size, 11, none⟩ = some (.int .i64 k2) := HK9.out.at 11
      have zl0 : ((w8.setCell ⟨g, i * 2, none⟩ (.int .i64 u)).setCell ⟨g, i * 2 + 1, none⟩ (.int .i64 v)).cell? ⟨w.heap.size, 0, none⟩ = some (.int .i64 0) := LZ9.out.at 0
      have zf0 : ((w8.setCell ⟨g, i * 2, none⟩ (.int .i64 u)).setCell ⟨g, i * 2 + 1, none⟩ (.int .i64 v)).frozen? ⟨w.heap.size, 0, none⟩ = false := LZ9.out.fr 0
      have zl1 : ((w8.setCell ⟨g, i * 2, none⟩ (.int .i64 u)).setCell ⟨g, i * 2 + 1, none⟩ (.int .i64 v)).cell? ⟨w.heap.size, 1, none⟩ = some (.int .i64 0) := LZ9.out.at 1
      have zf1 : ((w8.setCell ⟨g, i * 2, none⟩ (.int .i64 u)).setCell ⟨g, i * 2 + 1, none⟩ (.int .i64 v)).frozen? ⟨w.heap.size, 1, none⟩ = false := LZ9.out.fr 1
      have zl2 : ((w8.setCell ⟨g, i * 2, none⟩ (.int .i64 u)).setCell ⟨g, i * 2 + 1, none⟩ (.int .i64 v)).cell? ⟨w.heap.size, 2, none⟩ = some (.int .i64 0) := LZ9.out.at 2
      have zf2 : ((w8.setCell ⟨g, i * 2, none⟩ (.int .i64 u)).setCell ⟨g, i * 2 + 1, none⟩ (.int .i64 v)).frozen? ⟨w.heap.size, 2, none⟩ = false := LZ9.out.fr 2
      have zl3 : ((w8.setCell ⟨g, i * 2, none⟩ (.int .i64 u)).setCell ⟨g, i * 2 + 1, none⟩ (.int .i64 v)).cell? ⟨w.heap.size, 3, none⟩ = some (.int .i64 0) := LZ9.out.at 3
      have zf3 : ((w8.setCell ⟨g, i * 2, none⟩ (.int .i64 u)).setCell ⟨g, i * 2 + 1, none⟩ (.int .i64 v)).frozen? ⟨w.heap.size, 3, none⟩ = false := LZ9.out.fr 3
      have zl4 : ((w8.setCell ⟨g, i * 2, none⟩ (.int .i64 u)).setCell ⟨g, i * 2 + 1, none⟩ (.int .i64 v)).cell? ⟨w.heap.size, 4, none⟩ = some (.int .i64 0) := LZ9.out.at 4
      have zf4 : ((w8.setCell ⟨g, i * 2, none⟩ (.int .i64 u)).setCell ⟨g, i * 2 + 1, none⟩ (.int .i64 v)).frozen? ⟨w.heap.size, 4, none⟩ = false := LZ9.out.fr 4
      have zl5 : ((w8.setCell ⟨g, i * 2, none⟩ (.int .i64 u)).setCell ⟨g, i * 2 + 1, none⟩ (.int .i64 v)).cell? ⟨w.heap.size, 5, none⟩ = some (.int .i64 0) := LZ9.out.at 5
      have zf5 : ((w8.setCell ⟨g, i * 2, none⟩ (.int .i64 u)).setCell ⟨g, i * 2 + 1, none⟩ (.int .i64 v)).frozen? ⟨w.heap.size, 5, none⟩ = false := LZ9.out.fr 5
      have zl6 : ((w8.setCell ⟨g, i * 2, none⟩ (.int .i64 u)).setCell ⟨g, i * 2 + 1, none⟩ (.int .i64 v)).cell? ⟨w.heap.size, 6, none⟩ = some (.int .i64 0) := LZ9.out.at 6
      have zf6 : ((w8.setCell ⟨g, i * 2, none⟩ (.int .i64 u)).setCell ⟨g, i * 2 + 1, none⟩ (.int .i64 v)).frozen? ⟨w.heap.size, 6, none⟩ = false := LZ9.out.fr 6
      have zl7 : ((w8.setCell ⟨g, i * 2, none⟩ (.int .i64 u)).setCell ⟨g, i * 2 + 1, none⟩ (.int .i64 v)).cell? ⟨w.heap.size, 7, none⟩ = some (.int .i64 0) := LZ9.out.at 7
      have zf7 : ((w8.setCell ⟨g, i * 2, none⟩ (.int .i64 u)).setCell ⟨g, i * 2 + 1, none⟩ (.int .i64 v)).frozen? ⟨w.heap.size, 7, none⟩ = false := LZ9.out.fr 7
      have zl8 : ((w8.setCell ⟨g, i * 2, none⟩ (.int .i64 u)).setCell ⟨g, i * 2 + 1, none⟩ (.int .i64 v)).cell? ⟨w.heap.size, 8, none⟩ = some (.int .i64 0) := LZ9.out.at 8
      have zf8 : ((w8.setCell ⟨g, i * 2, none⟩ (.int .i64 u)).setCell ⟨g, i * 2 + 1, none⟩ (.int .i64 v)).frozen? ⟨w.heap.size, 8, none⟩ = false := LZ9.out.fr 8
      have zl9 : ((w8.setCell ⟨g, i * 2, none⟩ (.int .i64 u)).setCell ⟨g, i * 2 + 1, none⟩ (.int .i64 v)).cell? ⟨w.heap.size, 9, none⟩ = some (.int .i64 0) := LZ9.out.at 9
      have zf9 : ((w8.setCell ⟨g, i * 2, none⟩ (.int .i64 u)).setCell ⟨g, i * 2 + 1, none⟩ (.int .i64 v)).frozen? ⟨w.heap.size, 9, none⟩ = false := LZ9.out.fr 9
      have zl10 : ((w8.setCell ⟨g, i * 2, none⟩ (.int .i64 u)).setCell ⟨g, i * 2 + 1, none⟩ (.int .i64 v)).cell? ⟨w.heap.size, 10, none⟩ = some (.int .i64 0) := LZ9.out.at 10
      have zf10 : ((w8.setCell ⟨g, i * 2, none⟩ (.int .i64 u)).setCell ⟨g, i * 2 + 1, none⟩ (.int .i64 v)).frozen? ⟨w.heap.size, 10, none⟩ = false := LZ9.out.fr 10
      have zl11 : ((w8.setCell ⟨g, i * 2, none⟩ (.int .i64 u)).setCell ⟨g, i * 2 + 1, none⟩ (.int .i64 v)).cell? ⟨w.heap.size, 11, none⟩ = some (.int .i64 0) := LZ9.out.at 11
      have zf11 : ((w8.setCell ⟨g, i * 2, none⟩ (.int .i64 u)).setCell ⟨g, i * 2 + 1, none⟩ (.int .i64 v)).frozen? ⟨w.heap.size, 11, none⟩ = false := LZ9.out.fr 11
      have hQ := HQ9.out.farSets (B := w.heap.size) (vs := [Value.int .i64 a1, Value.int .i64 b1, Value.int .i64 e1, Value.int .i64 d1, Value.int .i64 f1, Value.int .i64 k1, Value.int .i64 a2, Value.int .i64 b2, Value.int .i64 e2, Value.int .i64 d2, Value.int .i64 f2, Value.int .i64 k2]) (fun q hq => by have := HX9.out q hq; omega)
      have hBz : Below w.heap.size w (sets ((w8.setCell ⟨g, i * 2, none⟩ (.int .i64 u)).setCell ⟨g, i * 2 + 1, none⟩ (.int .i64 v)) w.heap.size 0 [Value.int .i64 a1, Value.int .i64 b1, Value.int .i64 e1, Value.int .i64 d1, Value.int .i64 f1, Value.int .i64 k1, Value.int .i64 a2, Value.int .i64 b2, Value.int .i64 e2, Value.int .i64 d2, Value.int .i64 f2, Value.int .i64 k2]) := sets_below (Nat.le_refl _) _ _ _ (HBW.out.trans (HR9.out.below.mono (by have := HSZ.out; omega)))
      obtain ⟨wz, hwz⟩ : ∃ zz, zz = sets ((w8.setCell ⟨g, i * 2, none⟩ (.int .i64 u)).setCell ⟨g, i * 2 + 1, none⟩ (.int .i64 v)) w.heap.size 0 [Value.int .i64 a1, Value.int .i64 b1, Value.int .i64 e1, Value.int .i64 d1, Value.int .i64 f1, Value.int .i64 k1, Value.int .i64 a2, Value.int .i64 b2, Value.int .i64 e2, Value.int .i64 d2, Value.int .i64 f2, Value.int .i64 k2] := ⟨_, rfl⟩
      have ha := sets_at w.heap.size [Value.int .i64 a1, Value.int .i64 b1, Value.int .i64 e1, Value.int .i64 d1, Value.int .i64 f1, Value.int .i64 k1, Value.int .i64 a2, Value.int .i64 b2, Value.int .i64 e2, Value.int .i64 d2, Value.int .i64 f2, Value.int .i64 k2] ((w8.setCell ⟨g, i * 2, none⟩ (.int .i64 u)).setCell ⟨g, i * 2 + 1, none⟩ (.int .i64 v)) 0 (fun j hj => by
        match j, hj with
        | 0, _ => exact ⟨_, zl0⟩
        | 1, _ => exact ⟨_, zl1⟩
        | 2, _ => exact ⟨_, zl2⟩
        | 3, _ => exact ⟨_, zl3⟩
        | 4, _ => exact ⟨_, zl4⟩
        | 5, _ => exact ⟨_, zl5⟩
        | 6, _ => exact ⟨_, zl6⟩
        | 7, _ => exact ⟨_, zl7⟩
        | 8, _ => exact ⟨_, zl8⟩
        | 9, _ => exact ⟨_, zl9⟩
        | 10, _ => exact ⟨_, zl10⟩
        | 11, _ => exact ⟨_, zl11⟩)
      have hwx : wz = ((((((((((((((w8.setCell ⟨g, i * 2, none⟩ (.int .i64 u)).setCell ⟨g, i * 2 + 1, none⟩ (.int .i64 v)).setCell ⟨w.heap.size, 0, none⟩ (.int .i64 a1)).setCell ⟨w.heap.size, 1, none⟩ (.int .i64 b1)).setCell ⟨w.heap.size, 2, none⟩ (.int .i64 e1)).setCell ⟨w.heap.size, 3, none⟩ (.int .i64 d1)).setCell ⟨w.heap.size, 4, none⟩ (.int .i64 f1)).setCell ⟨w.heap.size, 5, none⟩ (.int .i64 k1)).setCell ⟨w.heap.size, 6, none⟩ (.int .i64 a2)).setCell ⟨w.heap.size, 7, none⟩ (.int .i64 b2)).setCell ⟨w.heap.size, 8, none⟩ (.int .i64 e2)).setCell ⟨w.heap.size, 9, none⟩ (.int .i64 d2)).setCell ⟨w.heap.size, 10, none⟩ (.int .i64 f2)).setCell ⟨w.heap.size, 11, none⟩ (.int .i64 k2)) := hwz
      rw [← hwz] at ha hQ hBz
      have z0 : wz.cell? ⟨w.heap.size, 0, none⟩ = some (.int .i64 a1) := by simpa using ha 0 _ rfl
      have z1 : wz.cell? ⟨w.heap.size, 1, none⟩ = some (.int .i64 b1) := by simpa using ha 1 _ rfl
      have z2 : wz.cell? ⟨w.heap.size, 2, none⟩ = some (.int .i64 e1) := by simpa using ha 2 _ rfl
      have z3 : wz.cell? ⟨w.heap.size, 3, none⟩ = some (.int .i64 d1) := by simpa using ha 3 _ rfl
      have z4 : wz.cell? ⟨w.heap.size, 4, none⟩ = some (.int .i64 f1) := by simpa using ha 4 _ rfl
      have z5 : wz.cell? ⟨w.heap.size, 5, none⟩ = some (.int .i64 k1) := by simpa using ha 5 _ rfl
      have z6 : wz.cell? ⟨w.heap.size, 6, none⟩ = some (.int .i64 a2) := by simpa using ha 6 _ rfl
      have z7 : wz.cell? ⟨w.heap.size, 7, none⟩ = some (.int .i64 b2) := by simpa using ha 7 _ rfl
      have z8 : wz.cell? ⟨w.heap.size, 8, none⟩ = some (.int .i64 e2) := by simpa using ha 8 _ rfl
      have z9 : wz.cell? ⟨w.heap.size, 9, none⟩ = some (.int .i64 d2) := by simpa using ha 9 _ rfl
      have z10 : wz.cell? ⟨w.heap.size, 10, none⟩ = some (.int .i64 f2) := by simpa using ha 10 _ rfl
      have z11 : wz.cell? ⟨w.heap.size, 11, none⟩ = some (.int .i64 k2) := by simpa using ha 11 _ rfl
      have HQz : Hid (SeesQ wz _ ll lc _) := hQ
      have HBz : Hid (Below w.heap.size w wz) := hBz
      clear ha hQ hBz hwz
      go_wp2
      rw [← hwx]
      refine bodyPost_ret (v := .tuple #[.agg #[.int .i64 a1, .int .i64 b1, .int .i64 e1, .int .i64 d1, .int .i64 f1, .int .i64 k1, .int .i64 a2, .int .i64 b2, .int .i64 e2, .int .i64 d2, .int .i64 f2, .int .i64 k2], .slice _ ll lc]) (by simp [results, Try.results7, go_sem, z0, z1, z2, z3, z4, z5, z6, z7, z8, z9, z10, z11]) rfl ⟨⟨⟨a1, b1, e1, d1, f1, k1⟩, ⟨a2, b2, e2, d2, f2, k2⟩⟩, _, ll, lc, _, rfl, by omega, HQz.out, HBz.out⟩
end Go.Proofs.Ytjeoenieoejolac
