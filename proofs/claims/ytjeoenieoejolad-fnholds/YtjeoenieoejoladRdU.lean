/- Drawn claims: some claims, in a block of their own. -/
import Derived.Test.YtjeoenieoejoladRdT
import Derived.Test.YtjeoenieoejoladClP
namespace Go.Proofs.Ytjeoenieoejolad
open Go.RowKit

def M.Cl.upd (c : M.Cl) (j : Nat) (z : Int) : M.Cl :=
  match j with
  | 0 => ⟨(z, c.s.2), c.e, c.n⟩
  | 1 => ⟨(c.s.1, z), c.e, c.n⟩
  | 2 => ⟨c.s, (z, c.e.2), c.n⟩
  | 3 => ⟨c.s, (c.e.1, z), c.n⟩
  | _ => ⟨c.s, c.e, z⟩
theorem M.Cl.upd_at (c : M.Cl) (j : Nat) (z : Int) (hj : j < 5) (q : Nat) (hq : q < 5) : (cvs (c.upd j z))[q]? = if q = j then some (.int .i64 z) else (cvs c)[q]? := by
  have h1 : j = 0 ∨ j = 1 ∨ j = 2 ∨ j = 3 ∨ j = 4 := by omega
  have h2 : q = 0 ∨ q = 1 ∨ q = 2 ∨ q = 3 ∨ q = 4 := by omega
  rcases h1 with rfl | rfl | rfl | rfl | rfl <;> rcases h2 with rfl | rfl | rfl | rfl | rfl <;> simp [M.Cl.upd, cvs]
theorem SeesC.set1 {w : World} {b off n c i j : Nat} {cs : List M.Cl} {z : Int} (h : SeesC w (some ⟨b, off, none⟩) n c cs) (hi : i < n) (hj : j < 5) :
    ∃ cs', SeesC (w.setCell ⟨b, off + i * 5 + j, none⟩ (.int .i64 z)) (some ⟨b, off, none⟩) n c cs' := by
  refine ⟨cs.set i ((cs.getD i M.c0).upd j z), by rw [List.length_set]; exact h.len, h.le, h.big, h.no, .inr ⟨b, off, rfl, fun p hp q hq => ?_⟩⟩
  obtain ⟨b', off', e, hc⟩ := h.at (by omega)
  simp only [Option.some.injEq, Addr.mk.injEq, and_true] at e
  obtain ⟨rfl, rfl⟩ := e
  have hl := h.len
  have so : ∀ p' q' : Nat, p' ≠ q' → (w.setCell ⟨b, p', none⟩ (.int .i64 z)).cell? ⟨b, q', none⟩ = w.cell? ⟨b, q', none⟩ := fun p' q' hpq => World.cell?_setCell_other (w := w) (a := ⟨b, p', none⟩) (b := ⟨b, q', none⟩) (v := .int .i64 z) (h := by intro e; simp only [Addr.mk.injEq] at e; omega)
  by_cases e : p = i
  · subst e
    have hg : (cs.set p ((cs.getD p M.c0).upd j z)).getD p M.c0 = (cs.getD p M.c0).upd j z := by rw [List.getD_eq_getElem?_getD, List.getElem?_set_self (by omega)]; rfl
    rw [hg, M.Cl.upd_at _ _ _ hj _ hq]
    by_cases e2 : q = j
    · subst e2
      rw [if_pos rfl]
      have h5 : q < (cvs (cs.getD p M.c0)).length := by simpa [cvs] using hq
      exact World.cell?_setCell_same (w := w) (a := ⟨b, off + p * 5 + q, none⟩) (v := .int .i64 z) (h := (hc p hp q hq).trans (List.getElem?_eq_getElem h5))
    · rw [if_neg e2]
      exact (so _ _ (by omega)).trans (hc p hp q hq)
  · have hg : (cs.set i ((cs.getD i M.c0).upd j z)).getD p M.c0 = cs.getD p M.c0 := by rw [List.getD_eq_getElem?_getD, List.getElem?_set_ne (by omega), ← List.getD_eq_getElem?_getD]
    rw [hg]
    exact (so _ _ (by omega)).trans (hc p hp q hq)
theorem SeesC.grownR {w w' : World} {a : Option Addr} {n c : Nat} {cs : List M.Cl} {row : Option Nat} (h : SeesC w a n c cs) (hg : w.grownBy w' row) (hr : ∀ x, a = some x → row ≠ some x.block) : SeesC w' a n c cs := by
  refine ⟨h.len, h.le, h.big, h.no, ?_⟩
  by_cases h0 : n = 0
  · exact .inl h0
  · obtain ⟨b, off, e, hc⟩ := h.at (by omega)
    have hne := hr _ e
    have hlt : b < w.heap.size := World.block_lt_of_cell? w ⟨b, off + 0 * 5 + 0, none⟩ ((hc 0 (by omega) 0 (by omega)).trans rfl)
    have hb : w'.heap[b]? = w.heap[b]? := hg.block b hlt (fun e' => hne (by rw [e']))
    exact .inr ⟨b, off, e, fun i hi j hj => (World.cell?_of_block (a := ⟨b, off + i * 5 + j, none⟩) hb).trans (hc i hi j hj)⟩
theorem below_grows {w w' : World} {row : Option Nat} (hb : Below w.heap.size w w') : w.grownBy w' row := ⟨hb.os, hb.tape, hb.output, hb.size, fun i hi _ => hb.block i hi⟩
theorem OwnsC.room {t : TypeId} {w : World} {base n cap g : Nat} {cs : List M.Cl} (h : OwnsC t w base (some ⟨g, 0, none⟩) n cap cs) : ∀ i, w.frozen? ⟨g, i, none⟩ = false := by
  obtain ⟨_, _, h⟩ := h
  rcases h with ⟨e, _⟩ | ⟨g', c, cur, e, hb, hh, _⟩
  · simp at e
  · simp only [Value.slice.injEq, Option.some.injEq, Addr.mk.injEq] at e
    obtain ⟨⟨rfl, -⟩, -⟩ := e
    intro i
    simp only [World.frozen?, hh]
    simp
theorem SeesC.some5 {w : World} {g n c i : Nat} {cs : List M.Cl} (h : SeesC w (some ⟨g, 0, none⟩) n c cs) (hi : i < n) (j : Nat) (hj : j < 5) : ∃ u, w.cell? ⟨g, i * 5 + j, none⟩ = some u := by
  obtain ⟨b', off', e, hc⟩ := h.at (by omega)
  simp only [Option.some.injEq, Addr.mk.injEq, and_true] at e
  obtain ⟨rfl, rfl⟩ := e
  have h5 : j < (cvs (cs.getD i M.c0)).length := by simpa [cvs] using hj
  have := (hc i hi j hj).trans (List.getElem?_eq_getElem h5)
  rw [Nat.zero_add] at this
  exact ⟨_, this⟩
theorem grown_far {w wr : World} {R g c : Nat} {v : Value} (h : w.grownBy wr (some R)) (hg : w.heap.size ≤ g) : w.grownBy (wr.setCell ⟨g, c, none⟩ v) (some R) :=
  ⟨h.os, h.tape, h.output, by simpa [World.setCell] using h.size, fun i hi hne => (Below.heap_setCell _ _ _ _ (by show i ≠ g; omega)).trans (h.block i hi hne)⟩
/-- what is kept of drawn claims -/
structure Dc (w0 w : World) (R : Nat) (a : Option Addr) (len cap g n c : Nat) (W : World) : Prop where
  rd : Rd w0 R a len cap W
  gr : w.grownBy W (some R)
  se : ∃ cs, SeesC W (some ⟨g, 0, none⟩) n c cs
  lo : w.heap.size ≤ g
  hi : g < W.heap.size
  fr : ∀ i, W.frozen? ⟨g, i, none⟩ = false
theorem Dc.grow {w0 w W W' : World} {R len cap g n c : Nat} {a : Option Addr} (h : Dc w0 w R a len cap g n c W) (hR : R < w.heap.size) (hr : Rd w0 R a len cap W') (hg : W.grownBy W' (some R)) : Dc w0 w R a len cap g n c W' := by
  obtain ⟨cs, hs⟩ := h.se
  have hl := h.lo
  exact ⟨hr, h.gr.trans hg, ⟨cs, hs.grownR hg (fun q hq => by simp only [Option.some.injEq] at hq; subst hq; simp; omega)⟩, h.lo, Nat.lt_of_lt_of_le h.hi hg.size, fun i => (grown_frozen (p := ⟨g, i, none⟩) hg h.hi (by simp; omega)).trans (h.fr i)⟩
theorem Dc.set {w0 w W : World} {R len cap g n c i j : Nat} {a : Option Addr} {z : Int} (h : Dc w0 w R a len cap g n c W) (hR : R < w.heap.size) (h0 : w0.heap.size ≤ w.heap.size) (hi : i < n) (hj : j < 5) : Dc w0 w R a len cap g n c (W.setCell ⟨g, i * 5 + j, none⟩ (.int .i64 z)) := by
  obtain ⟨cs, hs⟩ := h.se
  have hl := h.lo
  have h5 := hs.set1 (z := z) hi hj
  rw [Nat.zero_add] at h5
  exact ⟨h.rd.set (by omega) (by omega), grown_far h.gr h.lo, h5, h.lo, by have := h.hi; simpa [World.setCell] using this, fun q => by simpa using h.fr q⟩
theorem Dc.at {w0 w W : World} {R len cap g n c i : Nat} {a : Option Addr} (h : Dc w0 w R a len cap g n c W) (hi : i < n) (j : Nat) (hj : j < 5) : ∃ u, W.cell? ⟨g, i * 5 + j, none⟩ = some u := by
  obtain ⟨cs, hs⟩ := h.se
  exact hs.some5 hi j hj
set_option maxHeartbeats 16000000 in
set_option maxRecDepth 10000 in
theorem claimsR_any {w0 : World} {R : Nat} {a : Option Addr} {len cap : Nat} {zs : List Int} (hrow : Row .u8 w0 a len cap zs) (mm : M.Mc) (w : World) (h : Rd w0 R a len cap w) :
    Calls Try.prog 16 #[.pointer (some ⟨R, 0, none⟩), mcv mm] w fun e w' => ∃ (la : Option Addr) (ll lc : Nat), e = .returned (.slice la ll lc) ∧ ll ≤ 8 ∧ (ll = 0 ∨ ∃ g, la = some ⟨g, 0, none⟩ ∧ 0 < ll ∧ Dc w0 w R a len cap g ll lc w') ∧ Rd w0 R a len cap w' ∧ w.grownBy w' (some R) := by
  have HR0 : Hid (Row .u8 w0 a len cap zs) := hrow
  have CS := fun (s : Int × Int) (rows many : Int) => specCutOf_any mm s rows many
  obtain ⟨⟨a1, b1, e1, d1, f1, k1⟩, ⟨a2, b2, e2, d2, f2, k2⟩⟩ := mm
  dsimp only [mcv] at CS ⊢
  have hRw : R < w.heap.size := h.hi
  have h0w : w0.heap.size ≤ w.heap.size := h.below.size
  have hrd : Rd w0 R a len cap (w.alloc (.cells #[.int .i64 a1, .int .i64 b1, .int .i64 e1, .int .i64 d1, .int .i64 f1, .int .i64 k1, .int .i64 a2, .int .i64 b2, .int .i64 e2, .int .i64 d2, .int .i64 f2, .int .i64 k2] 36)).drew := (h.alloc _).belowS (Below.refl _ _).drew
  have hk : Lies (w.alloc (.cells #[.int .i64 a1, .int .i64 b1, .int .i64 e1, .int .i64 d1, .int .i64 f1, .int .i64 k1, .int .i64 a2, .int .i64 b2, .int .i64 e2, .int .i64 d2, .int .i64 f2, .int .i64 k2] 36)).drew w.heap.size [.int .i64 a1, .int .i64 b1, .int .i64 e1, .int .i64 d1, .int .i64 f1, .int .i64 k1, .int .i64 a2, .int .i64 b2, .int .i64 e2, .int .i64 d2, .int .i64 f2, .int .i64 k2] := lies_new _ _ _
  have hgr : w.grownBy (w.alloc (.cells #[.int .i64 a1, .int .i64 b1, .int .i64 e1, .int .i64 d1, .int .i64 f1, .int .i64 k1, .int .i64 a2, .int .i64 b2, .int .i64 e2, .int .i64 d2, .int .i64 f2, .int .i64 k2] 36)).drew (some R) := (World.grownBy_alloc w _ _).trans (below_grows (Below.refl _ _).drew)
  have HKS : Hid (∀ W, Lies W w.heap.size [.int .i64 a1, .int .i64 b1, .int .i64 e1, .int .i64 d1, .int .i64 f1, .int .i64 k1, .int .i64 a2, .int .i64 b2, .int .i64 e2, .int .i64 d2, .int .i64 f2, .int .i64 k2] → W.cell? ⟨w.heap.size, 0, none⟩ = some (.int .i64 a1) ∧ W.cell? ⟨w.heap.size, 1, none⟩ = some (.int .i64 b1) ∧ W.cell? ⟨w.heap.size, 2, none⟩ = some (.int .i64 e1) ∧ W.cell? ⟨w.heap.size, 3, none⟩ = some (.int .i64 d1) ∧ W.cell? ⟨w.heap.size, 4, none⟩ = some (.int .i64 f1) ∧ W.cell? ⟨w.heap.size, 5, none⟩ = some (.int .i64 k1) ∧ W.cell? ⟨w.heap.size, 6, none⟩ = some (.int .i64 a2) ∧ W.cell? ⟨w.heap.size, 7, none⟩ = some (.int .i64 b2) ∧ W.cell? ⟨w.heap.size, 8, none⟩ = some (.int .i64 e2) ∧ W.cell? ⟨w.heap.size, 9, none⟩ = some (.int .i64 d2) ∧ W.cell? ⟨w.heap.size, 10, none⟩ = some (.int .i64 f2) ∧ W.cell? ⟨w.heap.size, 11, none⟩ = some (.int .i64 k2)) := fun W h => ⟨h.at 0, h.at 1, h.at 2, h.at 3, h.at 4, h.at 5, h.at 6, h.at 7, h.at 8, h.at 9, h.at 10, h.at 11⟩
  clear hrow h
  go_enter Try.func16, Try.ntmps16
  go_wp2
  go_region_held3 (fun W => W.cell? ⟨w.heap.size, 0, none⟩ = some (.int .i64 a1) ∧ W.cell? ⟨w.heap.size, 1, none⟩ = some (.int .i64 b1) ∧ W.cell? ⟨w.heap.size, 2, none⟩ = some (.int .i64 e1) ∧ W.cell? ⟨w.heap.size, 3, none⟩ = some (.int .i64 d1) ∧ W.cell? ⟨w.heap.size, 4, none⟩ = some (.int .i64 f1) ∧ W.cell? ⟨w.heap.size, 5, none⟩ = some (.int .i64 k1) ∧ W.cell? ⟨w.heap.size, 6, none⟩ = some (.int .i64 a2) ∧ W.cell? ⟨w.heap.size, 7, none⟩ = some (.int .i64 b2) ∧ W.cell? ⟨w.heap.size, 8, none⟩ = some (.int .i64 e2) ∧ W.cell? ⟨w.heap.size, 9, none⟩ = some (.int .i64 d2) ∧ W.cell? ⟨w.heap.size, 10, none⟩ = some (.int .i64 f2) ∧ W.cell? ⟨w.heap.size, 11, none⟩ = some (.int .i64 k2)) (exact HKS.out _ hk)
    (first
      | (go_at_call 29; refine (stateR_any HR0.out _ hrd).mono ?_; rintro e w3 ⟨⟨x, y⟩, rfl, hr3, hg3⟩; have hk' := hk.grown hg3 (by simp; omega); have hgr' := hgr.trans hg3; clear hk hrd hgr; have hk := hk'; have hgr := hgr'; have hrd := hr3; dsimp only [stv]; clear hk' hgr' hr3 hg3)
      | (go_at_call_of 23 (Value.int .i64 3); refine (below_any HR0.out 3 (by omega) (by omega) _ hrd).mono ?_; rintro e w4 ⟨n3, n30, n31, rfl, hr4, hg4⟩; have hk' := hk.grown hg4 (by simp; omega); have hgr' := hgr.trans hg4; clear hk hrd hgr; have hk := hk'; have hgr := hgr'; have hrd := hr4; clear hk' hgr' hr4 hg4)
      | (go_at_call_of 23 (Value.int .i64 6); refine (below_any HR0.out 6 (by omega) (by omega) _ hrd).mono ?_; rintro e w4' ⟨n6, n60, n61, rfl, hr4, hg4⟩; have hk' := hk.grown hg4 (by simp; omega); have hgr' := hgr.trans hg4; clear hk hrd hgr; have hk := hk'; have hgr := hgr'; have hrd := hr4; clear hk' hgr' hr4 hg4)
      | (go_at_call 28; refine (CS (x, y) _ _ _).mono ?_; rintro e w5 ⟨la, ll, lc, rfl, hll, hlo, hb5⟩; have hk' := hk.belowS hb5; have hgr' := hgr.trans (below_grows hb5); have hrd' := hrd.belowS hb5; have hz4 := hgr.size; clear hk hrd hgr; have hk := hk'; have hgr := hgr'; have hrd := hrd'; clear hk' hgr' hrd'))
  generalize M.cutOk (M.Mc.mk _ _) (x, y) _ _ = ro at *
  generalize M.cutv (M.Mc.mk _ _) (x, y) _ _ = cs at *
  clear hk CS HKS hb5
  by_cases hl0 : ll = 0
  · subst hl0
    have HR5 : Hid (Rd w0 R a len cap w5) := hrd
    have HG5 : Hid (w.grownBy w5 (some R)) := hgr
    clear hrd hgr hlo
    go_wp2_with fail
    refine (once_any HR0.out 4 (by omega) (by omega) _ HR5.out).mono ?_
    rintro e w6 ⟨ob4, rfl, hr6, hg6⟩
    have HR6 : Hid (Rd w0 R a len cap w6) := hr6
    have HG6 : Hid (w.grownBy w6 (some R)) := HG5.out.trans hg6
    clear hr6 hg6
    cases ob4
    all_goals
      go_wp2_with fail
      refine (once_any HR0.out 12 (by omega) (by omega) _ HR6.out).mono ?_
      rintro e w7 ⟨ob12, rfl, hr7, hg7⟩
      have HR7 : Hid (Rd w0 R a len cap w7) := hr7
      have HG7 : Hid (w.grownBy w7 (some R)) := HG6.out.trans hg7
      clear hr7 hg7
      cases ob12
      all_goals
        go_wp2
        go_ret
        exact ⟨_, 0, lc, rfl, by omega, .inl rfl, HR7.out, HG7.out⟩
  · have hlI : (0 : Int) < (ll : Int) := by omega
    have hln : (ll : Int) ≤ 8 := by omega
    obtain ⟨g, rfl, hgb, -⟩ := hlo.block (by omega)
    have HD5 : Hid (Dc w0 w R a len cap g ll lc w5) := ⟨hrd, hgr, ⟨cs, hlo.sees⟩, by omega, (hlo.lo _ rfl).2, hlo.room⟩
    clear hrd hgr hlo hgb hz4
    go_wp2_with fail
    refine (once_any HR0.out 4 (by omega) (by omega) _ HD5.out.rd).mono ?_
    rintro e w6 ⟨ob4, rfl, hr, hg⟩
    have HDw6 : Hid (Dc w0 w R a len cap g ll lc w6) := HD5.out.grow hRw hr hg
    clear hr hg
    cases ob4 with
    | false =>
      go_wp2_with fail
      refine (once_any HR0.out 12 (by omega) (by omega) _ HDw6.out.rd).mono ?_
      rintro e w7 ⟨ob12, rfl, hr, hg⟩
      have HDw7 : Hid (Dc w0 w R a len cap g ll lc w7) := HDw6.out.grow hRw hr hg
      clear hr hg
      cases ob12 with
      | false =>
        go_wp2
        go_ret
        exact ⟨_, ll, lc, rfl, hll, .inr ⟨g, rfl, by omega, HDw7.out⟩, HDw7.out.rd, HDw7.out.gr⟩
      | true =>
        go_wp2_with fail
        refine (below_any HR0.out (ll : Int) (by omega) (by omega) _ HDw7.out.rd).mono ?_
        rintro e w8a ⟨iv, iv0, iv1, rfl, hr, hg⟩
        obtain ⟨i', rfl⟩ := Int.eq_ofNat_of_zero_le iv0
        have HDw8a : Hid (Dc w0 w R a len cap g ll lc w8a) := HDw7.out.grow hRw hr hg
        clear hr hg
        go_wp2_with fail
        refine (off_any HR0.out 1 1000 (by omega) (by omega) (by omega) _ HDw8a.out.rd).mono ?_
        rintro e w8b ⟨z, -, -, rfl, hr, hg⟩
        have HDw8b : Hid (Dc w0 w R a len cap g ll lc w8b) := HDw8a.out.grow hRw hr hg
        have hi' : i' < ll := by omega
        obtain ⟨u5, c5⟩ := HDw8b.out.at hi' 4 (by omega)
        have q5 := HDw8b.out.fr (i' * 5 + 4)
        have hiI' : (i' : Int) < (ll : Int) := by omega
        have HDw8 : Hid (Dc w0 w R a len cap g ll lc (w8b.setCell ⟨g, i' * 5 + 4, none⟩ (.int .i64 z))) := HDw8b.out.set hRw h0w hi' (by omega)
        clear hr hg
        go_wp2
        go_ret
        exact ⟨_, ll, lc, rfl, hll, .inr ⟨g, rfl, by omega, HDw8.out⟩, HDw8.out.rd, HDw8.out.gr⟩
    | true =>
      go_wp2_with fail
      refine (below_any HR0.out (ll : Int) (by omega) (by omega) _ HDw6.out.rd).mono ?_
      rintro e wxa ⟨iv, iv0, iv1, rfl, hr, hg⟩
      obtain ⟨i, rfl⟩ := Int.eq_ofNat_of_zero_le iv0
      have HDwxa : Hid (Dc w0 w R a len cap g ll lc wxa) := HDw6.out.grow hRw hr hg
      clear hr hg
      go_wp2_with fail
      refine (stateR_any HR0.out _ HDwxa.out.rd).mono ?_
      rintro e wxb ⟨⟨u, v⟩, rfl, hr, hg⟩
      dsimp only [stv]
      have HDwxb : Hid (Dc w0 w R a len cap g ll lc wxb) := HDwxa.out.grow hRw hr hg
      have hi : i < ll := by omega
      obtain ⟨u2, c2⟩ := HDwxb.out.at hi 2 (by omega)
      obtain ⟨u3, c3⟩ := HDwxb.out.at hi 3 (by omega)
      have c4 : (wxb.setCell ⟨g, i * 5 + 2, none⟩ (.int .i64 u)).cell? ⟨g, i * 5 + 2 + 1, none⟩ = some u3 := (World.cell?_setCell_other (w := wxb) (a := ⟨g, i * 5 + 2, none⟩) (b := ⟨g, i * 5 + 2 + 1, none⟩) (v := .int .i64 u) (h := by intro e; simp only [Addr.mk.injEq] at e; omega)).trans c3
      have c3' : wxb.cell? ⟨g, i * 5 + 2 + 1, none⟩ = some u3 := c3
      have q2 := HDwxb.out.fr (i * 5 + 2)
      have q3 := HDwxb.out.fr (i * 5 + 2 + 1)
      have hiI : (i : Int) < (ll : Int) := by omega
      have HDwx : Hid (Dc w0 w R a len cap g ll lc ((wxb.setCell ⟨g, i * 5 + 2, none⟩ (.int .i64 u)).setCell ⟨g, i * 5 + 2 + 1, none⟩ (.int .i64 v))) := (HDwxb.out.set hRw h0w hi (by omega)).set (j := 3) hRw h0w hi (by omega)
      clear hr hg
      go_wp2_with fail
      refine (once_any HR0.out 12 (by omega) (by omega) _ HDwx.out.rd).mono ?_
      rintro e w7 ⟨ob12, rfl, hr, hg⟩
      have HDw7 : Hid (Dc w0 w R a len cap g ll lc w7) := HDwx.out.grow hRw hr hg
      clear hr hg
      cases ob12 with
      | false =>
        go_wp2
        go_ret
        exact ⟨_, ll, lc, rfl, hll, .inr ⟨g, rfl, by omega, HDw7.out⟩, HDw7.out.rd, HDw7.out.gr⟩
      | true =>
        go_wp2_with fail
        refine (below_any HR0.out (ll : Int) (by omega) (by omega) _ HDw7.out.rd).mono ?_
        rintro e w8a ⟨iv, iv0, iv1, rfl, hr, hg⟩
        obtain ⟨i', rfl⟩ := Int.eq_ofNat_of_zero_le iv0
        have HDw8a : Hid (Dc w0 w R a len cap g ll lc w8a) := HDw7.out.grow hRw hr hg
        clear hr hg
        go_wp2_with fail
        refine (off_any HR0.out 1 1000 (by omega) (by omega) (by omega) _ HDw8a.out.rd).mono ?_
        rintro e w8b ⟨z, -, -, rfl, hr, hg⟩
        have HDw8b : Hid (Dc w0 w R a len cap g ll lc w8b) := HDw8a.out.grow hRw hr hg
        have hi' : i' < ll := by omega
        obtain ⟨u5, c5⟩ := HDw8b.out.at hi' 4 (by omega)
        have q5 := HDw8b.out.fr (i' * 5 + 4)
        have hiI' : (i' : Int) < (ll : Int) := by omega
        have HDw8 : Hid (Dc w0 w R a len cap g ll lc (w8b.setCell ⟨g, i' * 5 + 4, none⟩ (.int .i64 z))) := HDw8b.out.set hRw h0w hi' (by omega)
        clear hr hg
        go_wp2
        go_ret
        exact ⟨_, ll, lc, rfl, hll, .inr ⟨g, rfl, by omega, HDw8.out⟩, HDw8.out.rd, HDw8.out.gr⟩
end Go.Proofs.Ytjeoenieoejolad
