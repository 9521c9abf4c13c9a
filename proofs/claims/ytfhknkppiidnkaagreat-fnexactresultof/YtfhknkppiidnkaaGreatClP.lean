/- Slices of claims. How many rows there may be, in the program and in the model. A run cut into claims, in the program. A run cut into claims, in the model. -/
import Derived.Test.YtfhknkppiidnkaaGreatClA
import Derived.Test.YtfhknkppiidnkaaGreatRwA
import Derived.Test.YtfhknkppiidnkaaGreatMaJ
namespace Go.Proofs.YtfhknkppiidnkaaGreat
open Go.RowKit

def cvs (c : M.Cl) : List Value := [.int .i64 c.s.1, .int .i64 c.s.2, .int .i64 c.e.1, .int .i64 c.e.2, .int .i64 c.n]
def M.c0 : M.Cl := ⟨(0, 0), (0, 0), 0⟩
def prc (cs : List M.Cl) : List Value := cs.flatMap cvs
theorem prc_snoc (cs : List M.Cl) (c : M.Cl) : prc cs ++ cvs c = prc (cs ++ [c]) := by simp [prc]
theorem prc_len (cs : List M.Cl) : (prc cs).length = cs.length * 5 := by
  induction cs with
  | nil => rfl
  | cons p r ih => show (cvs p ++ prc r).length = _; rw [List.length_append, ih]; simp [cvs]; omega
theorem prc_get : ∀ (cs : List M.Cl) {i j : Nat}, i < cs.length → j < 5 → (prc cs)[i * 5 + j]? = (cvs (cs.getD i M.c0))[j]?
  | [], _, _, h, _ => by simp at h
  | p :: r, 0, j, _, hj => by
    show (cvs p ++ prc r)[0 * 5 + j]? = _
    rw [Nat.zero_mul, Nat.zero_add, List.getElem?_append_left (by simp [cvs]; omega)]; rfl
  | p :: r, i + 1, j, h, hj => by
    have ih := prc_get r (i := i) (j := j) (by simpa using h) hj
    show (cvs p ++ prc r)[(i + 1) * 5 + j]? = _
    rw [List.getElem?_append_right (by simp [cvs]; omega), show (i + 1) * 5 + j - (cvs p).length = i * 5 + j by simp [cvs]; omega, ih]; rfl
/-- a slice of claims in a block of its own -/
def OwnsC (t : TypeId) (w : World) (base : Nat) (a : Option Addr) (n cap : Nat) (cs : List M.Cl) : Prop := cs.length = n ∧ w.ownsRow base t 5 (.slice a n cap) n (prc cs)
theorem OwnsC.form {t : TypeId} {w : World} {base n : Nat} {v : Value} {cs : List M.Cl} (hl : cs.length = n) (h : w.ownsRow base t 5 v n (prc cs)) : ∃ a cap, v = .slice a n cap ∧ OwnsC t w base a n cap cs := by
  rcases h.2 with ⟨rfl, rfl⟩ | ⟨g, cap, cur, rfl, _⟩
  · exact ⟨none, 0, rfl, hl, h⟩
  · exact ⟨_, cap, rfl, hl, h⟩
/-- a slice shows claims -/
structure SeesC (w : World) (a : Option Addr) (n cap : Nat) (cs : List M.Cl) : Prop where
  len : cs.length = n
  le : n ≤ cap
  big : (cap : Int) ≤ 9223372036854775807
  no : a = none → n = 0 ∧ cap = 0
  pos : n = 0 ∨ ∃ b off, a = some ⟨b, off, none⟩ ∧ ∀ i, i < n → ∀ j, j < 5 → w.cell? ⟨b, off + i * 5 + j, none⟩ = (cvs (cs.getD i M.c0))[j]?
theorem SeesC.at {w : World} {a : Option Addr} {n cap : Nat} {cs : List M.Cl} (h : SeesC w a n cap cs) (h0 : 0 < n) : ∃ b off, a = some ⟨b, off, none⟩ ∧ ∀ i, i < n → ∀ j, j < 5 → w.cell? ⟨b, off + i * 5 + j, none⟩ = (cvs (cs.getD i M.c0))[j]? := by
  rcases h.pos with e | e
  · omega
  · exact e
theorem SeesC.below {w w' : World} {a : Option Addr} {n cap : Nat} {cs : List M.Cl} (h : SeesC w a n cap cs) (hb : Below w.heap.size w w') : SeesC w' a n cap cs := by
  refine ⟨h.len, h.le, h.big, h.no, ?_⟩
  by_cases h0 : n = 0
  · exact .inl h0
  · obtain ⟨b, off, e, hc⟩ := h.at (by omega)
    have hlt : b < w.heap.size := World.block_lt_of_cell? w ⟨b, off + 0 * 5 + 0, none⟩ ((hc 0 (by omega) 0 (by omega)).trans rfl)
    exact .inr ⟨b, off, e, fun i hi j hj => (hb.cell (p := ⟨b, off + i * 5 + j, none⟩) hlt).trans (hc i hi j hj)⟩
theorem OwnsC.block {t : TypeId} {w : World} {base n cap : Nat} {a : Option Addr} {cs : List M.Cl} (h : OwnsC t w base a n cap cs) (h0 : 0 < n) : ∃ g, a = some ⟨g, 0, none⟩ ∧ base ≤ g ∧ n ≤ cap ∧ (cap : Int) ≤ 9223372036854775807 ∧ ∀ i, i < n → ∀ j, j < 5 → w.cell? ⟨g, i * 5 + j, none⟩ = (cvs (cs.getD i M.c0))[j]? := by
  obtain ⟨hl, h⟩ := h
  have hcl : ∀ g, (Value.slice a n cap).ownBlock = some g → _ := fun g hg => World.ownsRow.cells h hg
  rcases h.2 with ⟨_, h0'⟩ | ⟨g, c, cur, e, hb, hh, hn, hm, _, _⟩
  · omega
  · simp only [Value.slice.injEq] at e
    obtain ⟨rfl, -, rfl⟩ := e
    have hadd : ∀ j, (⟨g, 0, none⟩ : Addr).add j = ⟨g, j, none⟩ := fun j => by unfold Addr.add; split <;> simp_all
    unfold maxLen at hm
    refine ⟨g, rfl, hb, hn, by omega, fun i hi j hj => ?_⟩
    have h1 := prc_get cs (i := i) (j := j) (by omega) hj
    have hj' : j < (cvs (cs.getD i M.c0)).length := by simpa [cvs] using hj
    rw [List.getElem?_eq_getElem hj'] at h1 ⊢
    have c1 := hcl g rfl _ _ h1
    rw [hadd] at c1
    exact c1
theorem OwnsC.sees {t : TypeId} {w : World} {base n cap : Nat} {a : Option Addr} {cs : List M.Cl} (h : OwnsC t w base a n cap cs) : SeesC w a n cap cs := by
  by_cases h0 : 0 < n
  · obtain ⟨g, rfl, _, h1, h2, hc⟩ := h.block h0
    exact ⟨h.1, h1, h2, fun e => by simp at e, .inr ⟨g, 0, rfl, fun i hi j hj => by simpa using hc i hi j hj⟩⟩
  · have hn : n = 0 := by omega
    subst hn
    rcases h.2.2 with ⟨e, _⟩ | ⟨g, c, cur, e, hb, hh, hle, hm, _, _⟩
    · simp only [Value.slice.injEq] at e
      obtain ⟨rfl, -, rfl⟩ := e
      exact ⟨h.1, by omega, by omega, fun _ => ⟨rfl, rfl⟩, .inl rfl⟩
    · simp only [Value.slice.injEq] at e
      obtain ⟨rfl, -, rfl⟩ := e
      unfold maxLen at hm
      exact ⟨h.1, hle, by omega, fun e => by simp at e, .inl rfl⟩
theorem OwnsC.row {t : TypeId} {w : World} {base n cap : Nat} {a : Option Addr} {cs : List M.Cl} (h : OwnsC t w base a n cap cs) : ∀ q, (Value.slice a n cap).ownBlock = some q → base ≤ q := by
  intro q hq
  rcases h.2.2 with ⟨e, _⟩ | ⟨g, c, cur, e, hb, _⟩
  · simp only [Value.slice.injEq] at e; rw [e.1] at hq; simp [Value.ownBlock] at hq
  · simp only [Value.slice.injEq] at e; rw [e.1] at hq; simp [Value.ownBlock] at hq; omega
theorem OwnsC.below {t : TypeId} {w w' : World} {base n cap : Nat} {a : Option Addr} {cs : List M.Cl} (h : OwnsC t w base a n cap cs) (hb : Below w.heap.size w w') : OwnsC t w' base a n cap cs :=
  ⟨h.1, World.ownsRow.kept h.2 (w' := w') (row := none) ⟨hb.os, hb.tape, hb.output, hb.size, fun k hk _ => hb.block k hk⟩ (by cases hv : (Value.slice a n cap).ownBlock <;> simp)⟩
theorem OwnsC.mono {t : TypeId} {w : World} {base base' n cap : Nat} {a : Option Addr} {cs : List M.Cl} (h : OwnsC t w base a n cap cs) (hb : base' ≤ base) : OwnsC t w base' a n cap cs := by
  refine ⟨h.1, h.2.1, ?_⟩
  rcases h.2.2 with e | ⟨g, c, cur, e, hg, r⟩
  · exact .inl e
  · exact .inr ⟨g, c, cur, e, by omega, r⟩
theorem OwnsC.other {t : TypeId} {w : World} {base n cap : Nat} {a : Option Addr} {cs : List M.Cl} (h : OwnsC t w base a n cap cs) (p : Addr) (hp : p.block < base) (v : Value) : OwnsC t (w.setCell p v) base a n cap cs := by
  refine ⟨h.1, World.ownsRow.kept h.2 (w' := w.setCell p v) (row := some p.block) ⟨rfl, rfl, rfl, by simp [World.setCell], fun k hk hne => Below.heap_setCell _ _ _ _ (fun e => hne (by rw [e]))⟩ ?_⟩
  have hr := h.row
  cases hv : (Value.slice a n cap).ownBlock with
  | none => exact .inl rfl
  | some q => exact .inr (by have := hr q hv; simp; omega)
theorem OwnsC.lo {t : TypeId} {w : World} {base n cap : Nat} {a : Option Addr} {cs : List M.Cl} (h : OwnsC t w base a n cap cs) : ∀ x, a = some x → base ≤ x.block ∧ x.block < w.heap.size := by
  rintro x rfl; exact World.ownsRow.lt h.2 _ rfl
theorem OwnsC.rowlt {t : TypeId} {w : World} {base n cap : Nat} {a : Option Addr} {cs : List M.Cl} (h : OwnsC t w base a n cap cs) : ∀ q, (Value.slice a n cap).ownBlock = some q → base ≤ q ∧ q < w.heap.size := by
  intro q hq
  exact World.ownsRow.lt h.2 _ hq
theorem ownsC_none (t : TypeId) (w : World) (base : Nat) : OwnsC t w base none 0 0 [] := ⟨rfl, rfl, .inl ⟨rfl, rfl⟩⟩
theorem five_ints (c : M.Cl) : ∀ u ∈ cvs c, u.oneCell' = true := by
  intro u hu
  simp only [cvs, List.mem_cons, List.not_mem_nil, or_false] at hu
  rcases hu with rfl | rfl | rfl | rfl | rfl <;> rfl
theorem cell_five (w : World) (vs : List Value) (t : TypeId) : ∀ j u, vs[j]? = some u → (w.alloc (.cells vs.toArray t)).cell? ((⟨w.heap.size, 0, none⟩ : Addr).add j) = some u := by
  intro j u hj
  have e : ((⟨w.heap.size, 0, none⟩ : Addr).add j) = ⟨w.heap.size, j, none⟩ := by unfold Addr.add; split <;> simp_all
  rw [e, World.cell?_alloc_new]
  simpa using hj
/-- the claims of the pieces of a run -/
def M.cuts (m : M.Mc) (s : Int × Int) (k n : Nat) : List M.Cl := (List.range n).map fun i => ⟨m.rn s (i * k), m.rn s ((i + 1) * k), (k : Int)⟩
theorem M.cuts_len (m : M.Mc) (s : Int × Int) (k n : Nat) : (M.cuts m s k n).length = n := by simp [M.cuts]
theorem M.cuts_snoc (m : M.Mc) (s : Int × Int) (k n : Nat) : M.cuts m s k n ++ [⟨m.rn s (n * k), m.rn s ((n + 1) * k), (k : Int)⟩] = M.cuts m s k (n + 1) := by simp [M.cuts, List.range_succ]
theorem M.cuts_get (m : M.Mc) (s : Int × Int) (k n : Nat) {i : Nat} (h : i < n) : (M.cuts m s k n).getD i M.c0 = ⟨m.rn s (i * k), m.rn s ((i + 1) * k), (k : Int)⟩ := by
  rw [List.getD_eq_getElem?_getD]; simp [M.cuts, h]
end Go.Proofs.YtfhknkppiidnkaaGreat
namespace Go.Proofs.YtfhknkppiidnkaaGreat
open Go.RowKit

def M.cutOk (m : M.Mc) (s : Int × Int) (rows many : Int) : Bool := m.ok && (M.sOk s && (M.rows rows && (decide (1 ≤ many) && decide (many ≤ 8))))
def M.cutv (m : M.Mc) (s : Int × Int) (rows many : Int) : List M.Cl := if M.cutOk m s rows many = true then M.cuts m s (rows - 1).toNat many.toNat else []
theorem M.cutv_in {m : M.Mc} {s : Int × Int} {rows many : Int} (h : M.cutOk m s rows many = true) : M.cutv m s rows many = M.cuts m s (rows - 1).toNat many.toNat := if_pos h
theorem M.cutv_out {m : M.Mc} {s : Int × Int} {rows many : Int} (h : M.cutOk m s rows many = false) : M.cutv m s rows many = [] := if_neg (by rw [h]; decide)
theorem M.cutOk_parts {m : M.Mc} {s : Int × Int} {rows many : Int} (h : M.cutOk m s rows many = true) : m.ok = true ∧ M.sOk s = true ∧ M.rows rows = true ∧ 1 ≤ many ∧ many ≤ 8 := by
  unfold M.cutOk at h; simp only [Bool.and_eq_true, decide_eq_true_eq] at h; exact ⟨h.1, h.2.1, h.2.2.1, h.2.2.2.1, h.2.2.2.2⟩
theorem info_claim : (Tryz.prog.info? 33).map (fun i => (i.zero, i.size, i.bytes)) = some (some (.agg #[.int .i64 0, .int .i64 0, .int .i64 0, .int .i64 0, .int .i64 0]), 5, 40) := by kernel_rfl
set_option maxHeartbeats 4000000 in
theorem implCutOf_any (mm : M.Mc) (s : Int × Int) (rows many : Int) (w : World) : Calls Tryz.prog 23 #[mcv mm, stv s, .int .i64 rows, .int .i64 many] w fun e w' => ∃ a l cap, e = .returned (.tuple #[.slice a l cap, .bool (M.cutOk mm s rows many)]) ∧ l ≤ 8 ∧ OwnsC 33 w' w.heap.size a l cap (M.cutv mm s rows many) ∧ Below w.heap.size w w' := by
  have C1 := rowsOk_any rows
  cases hrw : M.rows rows with
  | false =>
    have hok : M.cutOk mm s rows many = false := by unfold M.cutOk; rw [hrw]; simp
    rw [hok, M.cutv_out hok]
    rw [hrw] at C1
    clear hok hrw
    obtain ⟨⟨a, b, c, d, f, k⟩, ⟨a', b', c', d', f', k'⟩⟩ := mm
    obtain ⟨x, y⟩ := s
    dsimp only [mcv, stv] at ⊢
    go_enter Tryz.func23, Tryz.ntmps23
    go_wp2_with fail
    refine (C1 _).mono ?_
    rintro e w1 ⟨rfl, rfl⟩
    go_wp2
    go_ret2
    exact ⟨none, 0, 0, rfl, by omega, ownsC_none _ _ _, ((Below.refl _ _).alloc (Nat.le_refl _) _).alloc (by simp) _⟩
  | true =>
    by_cases hmn : 1 ≤ many ∧ many ≤ 8
    · obtain ⟨hm1, hm8⟩ := hmn
      obtain ⟨n, rfl⟩ := Int.eq_ofNat_of_zero_le (show 0 ≤ many by omega)
      obtain ⟨K, rfl⟩ : ∃ K : Nat, rows = (K : Int) + 1 := ⟨(rows - 1).toNat, by rcases M.rows_yes hrw with h | h | h | h <;> omega⟩
      have hK1 : 1 ≤ K := by rcases M.rows_yes hrw with h | h | h | h <;> omega
      have hK15 : K ≤ 15 := by rcases M.rows_yes hrw with h | h | h | h <;> omega
      have hnK : n * K ≤ 120 := Nat.le_trans (Nat.mul_le_mul (show n ≤ 8 by omega) hK15) (by decide)
      have C2 := implRunOf_any mm s ((n : Int) * (K : Int))
      have hco : M.cutOk mm s ((K : Int) + 1) (n : Int) = M.runOk mm s ((n : Int) * (K : Int)) := by
        unfold M.cutOk M.runOk
        have h0 : (0 : Int) ≤ (n : Int) * (K : Int) := by exact_mod_cast Nat.zero_le (n * K)
        have h1 : (n : Int) * (K : Int) ≤ 1000 := by have : ((n * K : Nat) : Int) ≤ 120 := by exact_mod_cast hnK
                                                     push_cast at this; omega
        rw [hrw]; simp [hm1, hm8, h0, h1]
      have hcv : M.runOk mm s ((n : Int) * (K : Int)) = true → M.runv mm s ((n : Int) * (K : Int)) = mm.run s (n * K) ∧ M.cutv mm s ((K : Int) + 1) (n : Int) = M.cuts mm s K n := fun h => by
        refine ⟨by rw [M.runv_in h]; congr 1, ?_⟩
        rw [M.cutv_in (hco.trans h)]; congr 1; omega
      have hcz : M.runOk mm s ((n : Int) * (K : Int)) = false → M.cutv mm s ((K : Int) + 1) (n : Int) = [] := fun h => M.cutv_out (hco.trans h)
      rw [hrw] at C1
      rw [hco]
      cases hro : M.runOk mm s ((n : Int) * (K : Int)) with
      | false =>
        rw [hcz hro]
        rw [hro] at C2
        clear hro hcz hcv hco hrw
        obtain ⟨⟨a, b, c, d, f, k⟩, ⟨a', b', c', d', f', k'⟩⟩ := mm
        obtain ⟨x, y⟩ := s
        dsimp only [mcv, stv] at C2 ⊢
        go_enter Tryz.func23, Tryz.ntmps23
        go_wp2_with fail
        refine (C1 _).mono ?_
        rintro e w1 ⟨rfl, rfl⟩
        go_wp2_with fail
        refine (C2 _).mono ?_
        rintro e w1 ⟨ra, rl, rc, rfl, -, -, hb1⟩
        have HB1 : Hid (Below w.heap.size w w1) := (((Below.refl _ _).alloc (Nat.le_refl _) _).alloc (by simp) _).trans (hb1.mono (by simp; omega))
        clear hb1
        go_wp2
        go_ret2
        exact ⟨none, 0, 0, rfl, by omega, ownsC_none _ _ _, HB1.out⟩
      | true =>
        obtain ⟨hrv, hcv⟩ := hcv hro
        rw [hcv]
        rw [hro, hrv] at C2
        have HR : Hid (∀ i, i ≤ n * K → (mm.run s (n * K)).getD i (0, 0) = mm.rn s i) := fun i hi => M.run_get mm s _ _ hi
        have HS : Hid (∀ j, M.cuts mm s K j ++ [⟨mm.rn s (j * K), mm.rn s ((j + 1) * K), (K : Int)⟩] = M.cuts mm s K (j + 1)) := fun j => M.cuts_snoc mm s K j
        have HL : Hid (∀ j, (M.cuts mm s K j).length = j) := fun j => M.cuts_len mm s K j
        have HL0 : Hid (M.cuts mm s K 0 = []) := rfl
        have HRL : Hid ((mm.run s (n * K)).length = n * K + 1) := M.run_len mm s (n * K)
        generalize mm.run s (n * K) = rn at C2 HR HRL
        clear hro hcz hcv hrv hco hrw
        generalize hcu : (fun j => M.cuts mm s K j) = cu
        have HCU : Hid (∀ j, M.cuts mm s K j = cu j) := fun j => by rw [← hcu]
        generalize hrr : (fun j => mm.rn s j) = rr
        have HRR : Hid (∀ j, mm.rn s j = rr j) := fun j => by rw [← hrr]
        rw [HCU.out]
        simp only [HCU.out, HRR.out] at HR HS HL HL0
        clear hcu hrr HCU HRR
        obtain ⟨i0, hi, hz0, hz1, hz2⟩ := info_parts info_claim
        have HI : Hid (Tryz.prog.info? 33 = some i0 ∧ i0.zero = some (.agg #[.int .i64 0, .int .i64 0, .int .i64 0, .int .i64 0, .int .i64 0]) ∧ i0.size = 5 ∧ i0.bytes = 40) := ⟨hi, hz0, hz1, hz2⟩
        clear hi hz0 hz1 hz2
        obtain ⟨⟨a, b, c, d, f, k⟩, ⟨a', b', c', d', f', k'⟩⟩ := mm
        obtain ⟨x, y⟩ := s
        dsimp only [mcv, stv] at C2 ⊢
        go_enter Tryz.func23, Tryz.ntmps23
        go_wp2_with fail
        refine (C1 _).mono ?_
        rintro e w1 ⟨rfl, rfl⟩
        go_wp2_with fail
        refine (C2 _).mono ?_
        rintro e w1 ⟨ra, rl, rc, rfl, -, ho1, hb1⟩
        have HB1 : Hid (Below w.heap.size w w1) := (((Below.refl _ _).alloc (Nat.le_refl _) _).alloc (by simp) _).trans (hb1.mono (by simp; omega))
        have hrl2 : rl = n * K + 1 := by rw [← ho1.1]; exact HRL.out
        subst hrl2
        have HZ1 : Hid (SeesQ w1 ra (n * K + 1) rc rn) := ho1.sees (by omega)
        clear hb1 ho1
        obtain ⟨hi, hz0, hz1, hz2⟩ := HI.out
        go_wp2_with (at_make; refine wpList_make_own _ rfl _ _ 65 rfl w1.heap.size 33 i0 (.agg #[.int .i64 0, .int .i64 0, .int .i64 0, .int .i64 0, .int .i64 0]) 5 Tryz.underlying65 hi hz0 hz1 .i64 .i64 _ n rfl rfl rfl (by rw [hz2]; omega) (by unfold maxLen; omega) (Nat.le_refl _) ?_)
        intro w2 hown hg
        have HO : Hid (OwnsC 33 w2 w1.heap.size (some ⟨w1.heap.size, 0, none⟩) 0 n (cu 0)) := by show OwnsC _ _ _ _ _ _ _; rw [HL0.out]; exact ⟨rfl, hown⟩
        have HB2 : Hid (Below w1.heap.size w1 w2) := below_grown hg
        clear hown hg hi hz0 hz1 hz2
        have HT : Hid (∃ T, T = n * K) := ⟨_, rfl⟩
        obtain ⟨T, hT⟩ := HT.out
        have HTn : Hid (T = n * K) := hT
        rw [← hT] at HZ1 HR ⊢
        clear hT HT
        obtain ⟨b1, o1, rfl, hc1⟩ := HZ1.out.at (by omega)
        have HC1 : Hid (∀ i, i ≤ T → w1.cell? ⟨b1, o1 + i * 2, none⟩ = some (.int .i64 (rr i).1) ∧ w1.cell? ⟨b1, o1 + i * 2 + 1, none⟩ = some (.int .i64 (rr i).2)) := fun i hi => by have := hc1 i (by omega); rw [HR.out i hi] at this; exact this
        have hcT : (T : Int) + 1 ≤ rc := by have := HZ1.out.le; omega
        have HLT : Hid (b1 < w1.heap.size) := World.block_lt_of_cell? w1 ⟨b1, o1 + 0 * 2, none⟩ (HC1.out 0 (by omega)).1
        have hT120 : T ≤ 120 := by rw [HTn.out]; exact hnK
        clear hc1 hnK
        go_wp2
        go_loopw [13, 42] (fun s i wr => ∃ (j : Nat) (al : Option Addr) (cap' : Nat), j ≤ n ∧ i = .int .i64 j ∧ s = .slice al j cap' ∧ OwnsC 33 wr w1.heap.size al j cap' (cu j) ∧ Below w1.heap.size w1 wr) (fun _ i _ => n - (intOf i).toNat)
        case atStart => exact ⟨0, _, _, by omega, rfl, rfl, HO.out, HB2.out⟩
        case round =>
          obtain ⟨j, al, cap', hj, rfl, rfl, ho1, hbr⟩ := hrel
          have HO1 : Hid (OwnsC 33 wr w1.heap.size al j cap' (cu j)) := ho1
          have HBr : Hid (Below w1.heap.size w1 wr) := hbr
          clear ho1 hbr HO HB2
          by_cases hlt : j < n
          · have hI : (j : Int) < (n : Int) := by omega
            obtain ⟨p, hp⟩ : ∃ p, p = j * K := ⟨_, rfl⟩
            obtain ⟨q, hq⟩ : ∃ q, q = (j + 1) * K := ⟨_, rfl⟩
            have hqT : q ≤ T := by rw [hq, HTn.out]; exact Nat.mul_le_mul_right K hlt
            have hpT : p ≤ T := by rw [hp, HTn.out]; exact Nat.mul_le_mul_right K (Nat.le_of_lt hlt)
            have hpI : (j : Int) * (K : Int) = (p : Int) := by rw [hp]; push_cast; rfl
            have hqI : ((j : Int) + 1) * (K : Int) = (q : Int) := by rw [hq]; push_cast; rfl
            have hpl : (p : Int) < (T : Int) + 1 := by omega
            have hpw : IntKind.i64.wrap (p : Int) = (p : Int) := wrap_smallm (by omega) (by omega)
            have hjw : IntKind.i64.wrap ((j : Int) + 1) = (j : Int) + 1 := wrap_smallm (by omega) (by omega)
            have hqw : IntKind.i64.wrap (q : Int) = (q : Int) := wrap_smallm (by omega) (by omega)
            have hql : (q : Int) < (T : Int) + 1 := by omega
            have HSj : Hid (cu j ++ [⟨rr p, rr q, (K : Int)⟩] = cu (j + 1)) := by show _ = _; rw [hp, hq]; exact HS.out j
            have p0 := (HBr.out.cell (p := ⟨b1, o1 + p * 2, none⟩) HLT.out).trans (HC1.out p hpT).1
            have p1 := (HBr.out.cell (p := ⟨b1, o1 + p * 2 + 1, none⟩) HLT.out).trans (HC1.out p hpT).2
            have q0 := (HBr.out.cell (p := ⟨b1, o1 + q * 2, none⟩) HLT.out).trans (HC1.out q hqT).1
            have q1 := (HBr.out.cell (p := ⟨b1, o1 + q * 2 + 1, none⟩) HLT.out).trans (HC1.out q hqT).2
            generalize rr p = rp at HSj p0 p1
            generalize rr q = rq at HSj q0 q1
            obtain ⟨u, v⟩ := rp
            obtain ⟨u2, v2⟩ := rq
            dsimp only at p0 p1 q0 q1
            clear hp hq
            go_wp2
            go_region_law (refine step_append_ownm rfl (.tmp 45) (.tmp 61) 65 rfl w1.heap.size 33 i0 (.agg #[.int .i64 0, .int .i64 0, .int .i64 0, .int .i64 0, .int .i64 0]) 5 40 Tryz.underlying65 HI.out.1 HI.out.2.1 HI.out.2.2.1 HI.out.2.2.2 rfl (by decide) (.slice al j cap') j (prc (cu j)) (by simp [Act.eval]) (World.ownsRow.alloc (HO1.out.below (Below.refl _ _).drew).2 _) ⟨wr.heap.size, 0, none⟩ 1 1 (cvs ⟨(u, v), (u2, v2), (K : Int)⟩) (by simp [Act.eval]) rfl (cell_five wr.drew _ _) (five_ints _) (by unfold maxLen; omega) (by omega) (by have := HBr.out.size; simp; omega) ?_; intro v' w5 hown hgrow)
            all_goals
              have hown' : w5.ownsRow w1.heap.size 33 5 v' (j + 1) (prc (cu (j + 1))) := by rw [← HSj.out, ← prc_snoc]; exact hown
              obtain ⟨b5, c5, rfl, ho5⟩ := OwnsC.form (HL.out (j + 1)) hown'
              have HO5 : Hid (OwnsC 33 w5 w1.heap.size b5 (j + 1) c5 (cu (j + 1))) := ho5
              have hrow := HO1.out.row
              have HB5 : Hid (Below w1.heap.size w1 w5) := (HBr.out.drew.alloc HBr.out.size _).grown hgrow (by have := HBr.out.size; simp; omega) hrow
              clear hown hown' hgrow ho5 hrow p0 p1 q0 q1
              go_wp2
              go_roundw
              case rel => exact ⟨j + 1, b5, c5, by omega, by go_num, rfl, HO5.out, HB5.out⟩
              case measure => simp [intOf]; omega
          · have hjn : j = n := by omega
            subst hjn
            go_wp2
            go_ret2
            exact ⟨al, j, cap', rfl, by omega, HO1.out.mono HB1.out.size, HB1.out.trans (HBr.out.mono HB1.out.size)⟩
    · have hok : M.cutOk mm s rows many = false := by
        unfold M.cutOk
        have : (decide (1 ≤ many) && decide (many ≤ 8)) = false := by simp; omega
        rw [this]; simp
      rw [hok, M.cutv_out hok]
      rw [hrw] at C1
      clear hok hrw
      obtain ⟨⟨a, b, c, d, f, k⟩, ⟨a', b', c', d', f', k'⟩⟩ := mm
      obtain ⟨x, y⟩ := s
      dsimp only [mcv, stv] at ⊢
      by_cases h1 : 1 ≤ many
      · have h8 : ¬ many ≤ 8 := by omega
        go_enter Tryz.func23, Tryz.ntmps23
        go_wp2_with fail
        refine (C1 _).mono ?_
        rintro e w1 ⟨rfl, rfl⟩
        go_wp2
        go_ret2
        exact ⟨none, 0, 0, rfl, by omega, ownsC_none _ _ _, ((Below.refl _ _).alloc (Nat.le_refl _) _).alloc (by simp) _⟩
      · go_enter Tryz.func23, Tryz.ntmps23
        go_wp2_with fail
        refine (C1 _).mono ?_
        rintro e w1 ⟨rfl, rfl⟩
        go_wp2
        go_ret2
        exact ⟨none, 0, 0, rfl, by omega, ownsC_none _ _ _, ((Below.refl _ _).alloc (Nat.le_refl _) _).alloc (by simp) _⟩
end Go.Proofs.YtfhknkppiidnkaaGreat
namespace Go.Proofs.YtfhknkppiidnkaaGreat
open Go.RowKit

theorem ownsC_empty {t : TypeId} (w : World) (base : Nat) (hb : base ≤ w.heap.size) : OwnsC t (w.alloc (.cells #[] t)) base (some ⟨w.heap.size, 0, none⟩) 0 0 [] := by
  refine ⟨rfl, rfl, .inr ⟨w.heap.size, 0, #[], rfl, hb, ?_, Nat.le_refl _, by unfold maxLen; omega, rfl, rfl⟩⟩
  show (w.heap.push _)[w.heap.size]? = _
  simp
theorem cell_fiveb (w : World) (b : Nat) (hb : w.heap.size = b) (vs : List Value) (t : TypeId) : ∀ j u, vs[j]? = some u → (w.alloc (.cells vs.toArray t)).cell? ((⟨b, 0, none⟩ : Addr).add j) = some u := by
  subst hb; exact cell_five _ _ _
set_option maxHeartbeats 4000000 in
theorem specCutOf_any (mm : M.Mc) (s : Int × Int) (rows many : Int) (w : World) : Calls Tryz.prog 28 #[mcv mm, stv s, .int .i64 rows, .int .i64 many] w fun e w' => ∃ a l cap, e = .returned (.tuple #[.slice a l cap, .bool (M.cutOk mm s rows many)]) ∧ l ≤ 8 ∧ OwnsC 33 w' w.heap.size a l cap (M.cutv mm s rows many) ∧ Below w.heap.size w w' := by
  have C1 := specMachineOk_any mm
  have C2 := specStateOk_any s
  have C3 := l6Rows_any rows
  have C4 := l1InG_any many 1 8
  cases hok : M.cutOk mm s rows many with
  | false =>
    rw [M.cutv_out hok]
    have hno : mm.ok = false ∨ (mm.ok = true ∧ M.sOk s = false) ∨ (mm.ok = true ∧ M.sOk s = true ∧ M.rows rows = false) ∨ (mm.ok = true ∧ M.sOk s = true ∧ M.rows rows = true ∧ (decide (1 ≤ many) && decide (many ≤ 8)) = false) := by
      unfold M.cutOk at hok
      cases h1 : mm.ok <;> cases h2 : M.sOk s <;> cases h3 : M.rows rows <;> simp_all
    clear hok
    generalize mm.ok = o1 at C1 hno
    generalize M.sOk s = o2 at C2 hno
    generalize M.rows rows = o3 at C3 hno
    generalize (decide (1 ≤ many) && decide (many ≤ 8)) = o4 at C4 hno
    obtain ⟨⟨a, b, c, d, f, k⟩, ⟨a', b', c', d', f', k'⟩⟩ := mm
    obtain ⟨x, y⟩ := s
    dsimp only [mcv, stv] at C1 C2 ⊢
    have LS : Hid (Lies ((w.alloc (.cells #[.int .i64 a, .int .i64 b, .int .i64 c, .int .i64 d, .int .i64 f, .int .i64 k, .int .i64 a', .int .i64 b', .int .i64 c', .int .i64 d', .int .i64 f', .int .i64 k'] 41)).alloc (.cells #[.int .i64 x, .int .i64 y] 31)) (w.heap.size + 1) [.int .i64 x, .int .i64 y]) := lies_new2 _ _ _ _
    rcases hno with rfl | ⟨rfl, rfl⟩ | ⟨rfl, rfl, rfl⟩ | ⟨rfl, rfl, rfl, rfl⟩
    all_goals
      go_enter Tryz.func28, Tryz.ntmps28
      go_wp2_with fail
      refine (C1 _).mono ?_
      rintro e w1 ⟨rfl, hb1⟩
      have HB1 : Hid (Below w.heap.size w w1) := (((Below.refl _ _).alloc (Nat.le_refl _) _).alloc (by simp) _).trans (hb1.mono (by simp; omega))
      have q0 : w1.cell? ⟨w.heap.size + 1, 0, none⟩ = some (.int .i64 x) := (LS.out.belowS hb1).at 0
      have q1 : w1.cell? ⟨w.heap.size + 1, 1, none⟩ = some (.int .i64 y) := (LS.out.belowS hb1).at 1
      clear hb1
      try (
        go_wp2_with fail
        refine (C2 _).mono ?_
        rintro e w2 ⟨rfl, hb2⟩
        replace HB1 : Hid (Below w.heap.size w w2) := HB1.out.trans (hb2.mono HB1.out.size)
        clear hb2)
      try (
        go_wp2_with fail
        refine (C3 _).mono ?_
        rintro e w3 ⟨rfl, rfl⟩)
      try (
        go_wp2_with fail
        refine (C4 _).mono ?_
        rintro e w3 ⟨rfl, rfl⟩)
      go_wp2
      go_ret2
      exact ⟨none, 0, 0, rfl, by omega, ownsC_none _ _ _, HB1.out⟩
  | true =>
    obtain ⟨hm, hs, hrw, hm1, hm8⟩ := M.cutOk_parts hok
    rw [M.cutv_in hok]
    rw [hm] at C1
    rw [hs] at C2
    rw [hrw] at C3
    rw [decide_eq_true hm1, decide_eq_true hm8] at C4
    obtain ⟨n, rfl⟩ := Int.eq_ofNat_of_zero_le (show 0 ≤ many by omega)
    obtain ⟨K, rfl⟩ : ∃ K : Nat, rows = (K : Int) + 1 := ⟨(rows - 1).toNat, by rcases M.rows_yes hrw with h | h | h | h <;> omega⟩
    have hK1 : 1 ≤ K := by rcases M.rows_yes hrw with h | h | h | h <;> omega
    have hK15 : K ≤ 15 := by rcases M.rows_yes hrw with h | h | h | h <;> omega
    rw [show ((K : Int) + 1 - 1).toNat = K by omega, Int.toNat_natCast]
    have CA : Hid (∀ (q : Int × Int) (w : World), M.sOk q = true → Calls Tryz.prog 57 #[mcv mm, stv q, .int .i64 (K : Int)] w fun e w' => e = .returned (.tuple #[stv (mm.rn q K), .bool true]) ∧ Below w.heap.size w w') := fun q w hq => by
      have hr : M.runOk mm q (K : Int) = true := M.runOk_mk hm hq (by omega) (by omega)
      have := specAfter_any mm q (K : Int) w
      rw [hr, M.aft_in hr, Int.toNat_natCast] at this
      exact this
    have HSr : Hid (∀ i, M.sOk (mm.rn s i) = true) := fun i => M.sOk_rn mm hs i
    have HNx : Hid (∀ j, mm.rn (mm.rn s (j * K)) K = mm.rn s ((j + 1) * K)) := fun j => by show _ = _; rw [M.rn_add, Nat.succ_mul]
    have HS : Hid (∀ j, M.cuts mm s K j ++ [⟨mm.rn s (j * K), mm.rn s ((j + 1) * K), (K : Int)⟩] = M.cuts mm s K (j + 1)) := fun j => M.cuts_snoc mm s K j
    have HL : Hid (∀ j, (M.cuts mm s K j).length = j) := fun j => M.cuts_len mm s K j
    have HL0 : Hid (M.cuts mm s K 0 = []) := rfl
    have HR0 : Hid (mm.rn s (0 * K) = s) := by show _ = _; rw [Nat.zero_mul]; rfl
    generalize hcu : (fun j => M.cuts mm s K j) = cu
    have HCU : Hid (∀ j, M.cuts mm s K j = cu j) := fun j => by rw [← hcu]
    generalize hrr : (fun j => mm.rn s j) = rr
    have HRR : Hid (∀ j, mm.rn s j = rr j) := fun j => by rw [← hrr]
    generalize hnn : (fun q => mm.rn q K) = nn
    have HNN : Hid (∀ q, mm.rn q K = nn q) := fun q => by rw [← hnn]
    rw [HCU.out]
    simp only [HNN.out] at CA
    simp only [HRR.out, HNN.out] at HNx
    simp only [HCU.out, HRR.out] at HS HL HL0
    simp only [HRR.out] at HSr HR0
    clear hcu hrr HCU HRR hnn HNN hok hm hs hrw
    obtain ⟨i0, hi, hz0, hz1, hz2⟩ := info_parts info_claim
    have HI : Hid (Tryz.prog.info? 33 = some i0 ∧ i0.zero = some (.agg #[.int .i64 0, .int .i64 0, .int .i64 0, .int .i64 0, .int .i64 0]) ∧ i0.size = 5 ∧ i0.bytes = 40) := ⟨hi, hz0, hz1, hz2⟩
    clear hi hz0 hz1 hz2
    obtain ⟨⟨a, b, c, d, f, k⟩, ⟨a', b', c', d', f', k'⟩⟩ := mm
    obtain ⟨x, y⟩ := s
    dsimp only [mcv, stv] at C1 C2 CA HR0 ⊢
    have LS : Hid (Lies ((w.alloc (.cells #[.int .i64 a, .int .i64 b, .int .i64 c, .int .i64 d, .int .i64 f, .int .i64 k, .int .i64 a', .int .i64 b', .int .i64 c', .int .i64 d', .int .i64 f', .int .i64 k'] 41)).alloc (.cells #[.int .i64 x, .int .i64 y] 31)) (w.heap.size + 1) [.int .i64 x, .int .i64 y]) := lies_new2 _ _ _ _
    have LM : Hid (Lies ((w.alloc (.cells #[.int .i64 a, .int .i64 b, .int .i64 c, .int .i64 d, .int .i64 f, .int .i64 k, .int .i64 a', .int .i64 b', .int .i64 c', .int .i64 d', .int .i64 f', .int .i64 k'] 41)).alloc (.cells #[.int .i64 x, .int .i64 y] 31)) w.heap.size [.int .i64 a, .int .i64 b, .int .i64 c, .int .i64 d, .int .i64 f, .int .i64 k, .int .i64 a', .int .i64 b', .int .i64 c', .int .i64 d', .int .i64 f', .int .i64 k']) := (lies_new _ _ _).alloc _
    go_enter Tryz.func28, Tryz.ntmps28
    go_wp2_with fail
    refine (C1 _).mono ?_
    rintro e w1 ⟨rfl, hb1⟩
    have HB1 : Hid (Below w.heap.size w w1) := (((Below.refl _ _).alloc (Nat.le_refl _) _).alloc (by simp) _).trans (hb1.mono (by simp; omega))
    have LS1 : Hid (Lies w1 (w.heap.size + 1) [.int .i64 x, .int .i64 y]) := LS.out.belowS hb1
    have LM1 : Hid (Lies w1 w.heap.size [.int .i64 a, .int .i64 b, .int .i64 c, .int .i64 d, .int .i64 f, .int .i64 k, .int .i64 a', .int .i64 b', .int .i64 c', .int .i64 d', .int .i64 f', .int .i64 k']) := LM.out.belowS hb1
    have q0 : w1.cell? ⟨w.heap.size + 1, 0, none⟩ = some (.int .i64 x) := LS1.out.at 0
    have q1 : w1.cell? ⟨w.heap.size + 1, 1, none⟩ = some (.int .i64 y) := LS1.out.at 1
    clear hb1 LS LM
    go_wp2_with fail
    refine (C2 _).mono ?_
    rintro e w2 ⟨rfl, hb2⟩
    have HB2 : Hid (Below w.heap.size w w2) := HB1.out.trans (hb2.mono HB1.out.size)
    have LS2 : Hid (Lies w2 (w.heap.size + 1) [.int .i64 x, .int .i64 y]) := LS1.out.belowS hb2
    have LM2 : Hid (Lies w2 w.heap.size [.int .i64 a, .int .i64 b, .int .i64 c, .int .i64 d, .int .i64 f, .int .i64 k, .int .i64 a', .int .i64 b', .int .i64 c', .int .i64 d', .int .i64 f', .int .i64 k']) := LM1.out.belowS hb2
    clear hb2 LS1 LM1 HB1 q0 q1
    go_wp2_with fail
    refine (C3 _).mono ?_
    rintro e w2 ⟨rfl, rfl⟩
    go_wp2_with fail
    refine (C4 _).mono ?_
    rintro e w2 ⟨rfl, rfl⟩
    have hs2 : w.heap.size + 2 ≤ w2.heap.size := by have := LS2.out.2.2; omega
    have HO : Hid (OwnsC 33 (w2.alloc (.cells #[] 33)) (w.heap.size + 2) (some ⟨w2.heap.size, 0, none⟩) 0 0 (cu 0)) := by show OwnsC _ _ _ _ _ _ _; rw [HL0.out]; exact ownsC_empty _ _ hs2
    have LS3 : Hid (Lies (w2.alloc (.cells #[] 33)) (w.heap.size + 1) [.int .i64 (rr (0 * K)).1, .int .i64 (rr (0 * K)).2]) := by show Lies _ _ _; rw [HR0.out]; exact LS2.out.alloc _
    have LM3 : Hid (Lies (w2.alloc (.cells #[] 33)) w.heap.size [.int .i64 a, .int .i64 b, .int .i64 c, .int .i64 d, .int .i64 f, .int .i64 k, .int .i64 a', .int .i64 b', .int .i64 c', .int .i64 d', .int .i64 f', .int .i64 k']) := LM2.out.alloc _
    have HB3 : Hid (Below w.heap.size w (w2.alloc (.cells #[] 33))) := HB2.out.alloc HB2.out.size _
    clear LS2 LM2 HB2 C1 C2 C3 C4
    go_wp2
    go_loopw [10, 11] (fun s i wr => ∃ (j : Nat) (al : Option Addr) (cap' : Nat), j ≤ n ∧ i = .int .i64 j ∧ s = .slice al j cap' ∧ OwnsC 33 wr (w.heap.size + 2) al j cap' (cu j) ∧ Lies wr (w.heap.size + 1) [.int .i64 (rr (j * K)).1, .int .i64 (rr (j * K)).2] ∧ Lies wr w.heap.size [.int .i64 a, .int .i64 b, .int .i64 c, .int .i64 d, .int .i64 f, .int .i64 k, .int .i64 a', .int .i64 b', .int .i64 c', .int .i64 d', .int .i64 f', .int .i64 k'] ∧ Below w.heap.size w wr) (fun _ i _ => n - (intOf i).toNat)
    case atStart => exact ⟨0, _, _, by omega, rfl, rfl, HO.out, LS3.out, LM3.out, HB3.out⟩
    case round =>
      obtain ⟨j, al, cap', hj, rfl, rfl, ho1, ls1, lm1, hbr⟩ := hrel
      have HO1 : Hid (OwnsC 33 wr (w.heap.size + 2) al j cap' (cu j)) := ho1
      have HBr : Hid (Below w.heap.size w wr) := hbr
      have LMr : Hid (Lies wr w.heap.size [.int .i64 a, .int .i64 b, .int .i64 c, .int .i64 d, .int .i64 f, .int .i64 k, .int .i64 a', .int .i64 b', .int .i64 c', .int .i64 d', .int .i64 f', .int .i64 k']) := lm1
      clear ho1 hbr lm1 HO HB3 LS3 LM3
      by_cases hlt : j < n
      · have hI : (j : Int) < (n : Int) := by omega
        have HSj : Hid (cu j ++ [⟨rr (j * K), rr ((j + 1) * K), (K : Int)⟩] = cu (j + 1)) := HS.out j
        have CQ := fun W => CA.out (rr (j * K)) W (HSr.out _)
        rw [HNx.out j] at CQ
        generalize rr (j * K) = rp at HSj ls1 CQ
        have HRQ : Hid (∃ z, z = rr ((j + 1) * K)) := ⟨_, rfl⟩
        obtain ⟨rq, hrq⟩ := HRQ.out
        rw [← hrq] at HSj CQ
        have HQ : Hid (rq = rr ((j + 1) * K)) := hrq
        clear hrq HRQ
        obtain ⟨u, v⟩ := rp
        obtain ⟨u2, v2⟩ := rq
        dsimp only [stv] at ls1 CQ
        have LSr : Hid (Lies wr (w.heap.size + 1) [.int .i64 u, .int .i64 v]) := ls1
        have s0 : wr.cell? ⟨w.heap.size + 1, 0, none⟩ = some (.int .i64 u) := ls1.at 0
        have s1 : wr.cell? ⟨w.heap.size + 1, 1, none⟩ = some (.int .i64 v) := ls1.at 1
        have z0 : wr.cell? ⟨w.heap.size, 0, none⟩ = some (.int .i64 a) := LMr.out.at 0
        have z1 : wr.cell? ⟨w.heap.size, 1, none⟩ = some (.int .i64 b) := LMr.out.at 1
        have z2 : wr.cell? ⟨w.heap.size, 2, none⟩ = some (.int .i64 c) := LMr.out.at 2
        have z3 : wr.cell? ⟨w.heap.size, 3, none⟩ = some (.int .i64 d) := LMr.out.at 3
        have z4 : wr.cell? ⟨w.heap.size, 4, none⟩ = some (.int .i64 f) := LMr.out.at 4
        have z5 : wr.cell? ⟨w.heap.size, 5, none⟩ = some (.int .i64 k) := LMr.out.at 5
        have z6 : wr.cell? ⟨w.heap.size, 6, none⟩ = some (.int .i64 a') := LMr.out.at 6
        have z7 : wr.cell? ⟨w.heap.size, 7, none⟩ = some (.int .i64 b') := LMr.out.at 7
        have z8 : wr.cell? ⟨w.heap.size, 8, none⟩ = some (.int .i64 c') := LMr.out.at 8
        have z9 : wr.cell? ⟨w.heap.size, 9, none⟩ = some (.int .i64 d') := LMr.out.at 9
        have z10 : wr.cell? ⟨w.heap.size, 10, none⟩ = some (.int .i64 f') := LMr.out.at 10
        have z11 : wr.cell? ⟨w.heap.size, 11, none⟩ = some (.int .i64 k') := LMr.out.at 11
        clear ls1
        go_wp2_with fail
        refine (CQ _).mono ?_
        rintro e w4 ⟨rfl, hb4⟩
        have HB4 : Hid (Below w.heap.size w (w4.alloc (.cells #[.int .i64 u2, .int .i64 v2] 31))) := (HBr.out.trans (hb4.mono HBr.out.size)).alloc (by have := HBr.out.size; have := hb4.size; omega) _
        have HO4 : Hid (OwnsC 33 (w4.alloc (.cells #[.int .i64 u2, .int .i64 v2] 31)) (w.heap.size + 2) al j cap' (cu j)) := (HO1.out.below hb4).below ((Below.refl _ _).alloc (Nat.le_refl _) _)
        have HX4 : Hid (∀ q, (Value.slice al j cap').ownBlock = some q → q < w4.heap.size) := fun q hq => (((HO1.out.below hb4).rowlt) q hq).2
        have LS4 : Hid (Lies (w4.alloc (.cells #[.int .i64 u2, .int .i64 v2] 31)) (w.heap.size + 1) [.int .i64 u, .int .i64 v]) := (LSr.out.belowS hb4).alloc _
        have LM4 : Hid (Lies (w4.alloc (.cells #[.int .i64 u2, .int .i64 v2] 31)) w.heap.size [.int .i64 a, .int .i64 b, .int .i64 c, .int .i64 d, .int .i64 f, .int .i64 k, .int .i64 a', .int .i64 b', .int .i64 c', .int .i64 d', .int .i64 f', .int .i64 k']) := (LMr.out.belowS hb4).alloc _
        have LE4 : Hid (Lies (w4.alloc (.cells #[.int .i64 u2, .int .i64 v2] 31)) w4.heap.size [.int .i64 u2, .int .i64 v2]) := lies_new _ _ _
        have hs4 : w.heap.size + 2 ≤ w4.heap.size := by have := (LSr.out.belowS hb4).2.2; omega
        have hW5 : (w4.alloc (.cells #[.int .i64 u2, .int .i64 v2] 31)).heap.size = w4.heap.size + 1 := by simp
        clear hb4 s0 s1 z0 z1 z2 z3 z4 z5 z6 z7 z8 z9 z10 z11 HBr HO1 LMr LSr
        have s0 : (w4.alloc (.cells #[.int .i64 u2, .int .i64 v2] 31)).cell? ⟨w.heap.size + 1, 0, none⟩ = some (.int .i64 u) := LS4.out.at 0
        have s1 : (w4.alloc (.cells #[.int .i64 u2, .int .i64 v2] 31)).cell? ⟨w.heap.size + 1, 1, none⟩ = some (.int .i64 v) := LS4.out.at 1
        have e0 : (w4.alloc (.cells #[.int .i64 u2, .int .i64 v2] 31)).cell? ⟨w4.heap.size, 0, none⟩ = some (.int .i64 u2) := LE4.out.at 0
        have e1 : (w4.alloc (.cells #[.int .i64 u2, .int .i64 v2] 31)).cell? ⟨w4.heap.size, 1, none⟩ = some (.int .i64 v2) := LE4.out.at 1
        go_wp2_with (at_builtin; refine wpList_append_own _ rfl _ _ 65 rfl (w.heap.size + 2) 33 i0 (.agg #[.int .i64 0, .int .i64 0, .int .i64 0, .int .i64 0, .int .i64 0]) 5 40 Tryz.underlying65 HI.out.1 HI.out.2.1 HI.out.2.2.1 HI.out.2.2.2 rfl (by decide) _ j (prc (cu j)) rfl (World.ownsRow.alloc HO4.out.2 _) ⟨w4.heap.size + 1, 0, none⟩ 1 1 (cvs ⟨(u, v), (u2, v2), (K : Int)⟩) rfl rfl (cell_fiveb (w4.alloc (.cells #[.int .i64 u2, .int .i64 v2] 31)) _ hW5 _ _) (five_ints _) (by unfold maxLen; omega) (by omega) (by simp; omega) ?_)
        intro v' w6 hown hgrow _
        have hown' : w6.ownsRow (w.heap.size + 2) 33 5 v' (j + 1) (prc (cu (j + 1))) := by rw [← HSj.out, ← prc_snoc]; exact hown
        obtain ⟨b6, c6, rfl, ho6⟩ := OwnsC.form (HL.out (j + 1)) hown'
        have hrow := HO4.out.row
        have LS6 : Hid (Lies w6 (w.heap.size + 1) [.int .i64 u, .int .i64 v]) := (LS4.out.alloc _).grown hgrow (fun e => by have := hrow _ e; omega)
        have LM6 : Hid (Lies w6 w.heap.size [.int .i64 a, .int .i64 b, .int .i64 c, .int .i64 d, .int .i64 f, .int .i64 k, .int .i64 a', .int .i64 b', .int .i64 c', .int .i64 d', .int .i64 f', .int .i64 k']) := (LM4.out.alloc _).grown hgrow (fun e => by have := hrow _ e; omega)
        have LE6 : Hid (Lies w6 w4.heap.size [.int .i64 u2, .int .i64 v2]) := (LE4.out.alloc _).grown hgrow (fun e => by have := HX4.out _ e; omega)
        have HO6 : Hid (OwnsC 33 w6 (w.heap.size + 2) b6 (j + 1) c6 (cu (j + 1))) := ho6
        have HB6 : Hid (Below w.heap.size w w6) := (HB4.out.alloc HB4.out.size _).grown hgrow (by have := HB4.out.size; simp; omega) (fun q hq => by have := hrow q hq; omega)
        clear hown hown' hgrow ho6 hrow s0 s1 e0 e1 HO4 LS4 LM4 LE4 HB4 HX4
        have s0 : w6.cell? ⟨w.heap.size + 1, 0, none⟩ = some (.int .i64 u) := LS6.out.at 0
        have s1 : w6.cell? ⟨w.heap.size + 1, 1, none⟩ = some (.int .i64 v) := LS6.out.at 1
        have t0 : w6.frozen? ⟨w.heap.size + 1, 0, none⟩ = false := LS6.out.fr 0
        have t1 : w6.frozen? ⟨w.heap.size + 1, 1, none⟩ = false := LS6.out.fr 1
        have e0 : w6.cell? ⟨w4.heap.size, 0, none⟩ = some (.int .i64 u2) := LE6.out.at 0
        have e1 : w6.cell? ⟨w4.heap.size, 1, none⟩ = some (.int .i64 v2) := LE6.out.at 1
        go_wp2
        go_roundw
        case rel =>
          refine ⟨j + 1, b6, c6, by omega, by go_num, rfl, (HO6.out.other ⟨w.heap.size + 1, 0, none⟩ (by show w.heap.size + 1 < _; omega) _).other ⟨w.heap.size + 1, 1, none⟩ (by show w.heap.size + 1 < _; omega) _, ?_, (LM6.out.far (by omega) _ _).far (by omega) _ _, (HB6.out.setCell (by show w.heap.size ≤ w.heap.size + 1; omega) _).setCell (by show w.heap.size ≤ w.heap.size + 1; omega) _⟩
          rw [← HQ.out]
          exact (LS6.out.set 0 (by simp) _).set 1 (by simp) _
        case measure => simp [intOf]; omega
      · have hjn : j = n := by omega
        subst hjn
        go_wp2
        go_ret2
        exact ⟨al, j, cap', rfl, by omega, HO1.out.mono (by omega), HBr.out⟩
end Go.Proofs.YtfhknkppiidnkaaGreat
