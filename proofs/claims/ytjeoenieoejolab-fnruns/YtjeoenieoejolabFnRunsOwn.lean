/- At every code the program and its model tell the same run of the drawn machine, two pieces of a run are one, and what is a run is told to be one: the law FnRuns returns true, with no condition. -/
import Derived.Test.YtjeoenieoejolabRows
import Derived.WalkKit
import Derived.ProofKit
import Derived.OpenShut
import Derived.ShutString
import Derived.ChangeOld
import Derived.Below
import Derived.Test.YtjeoenieoejolabRdA
import Derived.Test.YtjeoenieoejolabRdO
import Derived.Test.YtjeoenieoejolabMaV
namespace Go.Proofs.Ytjeoenieoejolab.fnRuns
open Go.ChangeShapes Go.WideShapes Go.ChangeAt Go.RowKit
open Go.ChangeMaps (open_string shut_string)
set_option linter.unusedVariables false

theorem own : ownKnob Try.prog.godebug = none := by kernel_rfl
theorem laidOut : laidOutB Try.prog = true := by kernel_rfl

def IsRow (k : IntKind) (w : World) (a : Option Addr) (len cap : Nat) (zs : List Int) : Prop :=
  (a = none ∧ len = 0 ∧ cap = 0 ∧ zs = []) ∨
  ∃ x, a = some x ∧ len ≤ cap ∧ cap ≤ maxLen ∧ zs.length = cap ∧ (∀ i, i < zs.length → w.cell? (x.add i) = some (.int k (zs.getD i 0))) ∧ ∀ n ∈ zs, (Lit.int k n).wf = true

set_option maxHeartbeats 8000000 in
set_option maxRecDepth 100000 in
theorem walk (a0 : Option Addr) (len0 cap0 : Nat) (z0 : List Int) (w : World) (w0 : IsRow .u8 w a0 len0 cap0 z0) :
    Calls Try.prog 8 #[.slice a0 len0 cap0] w fun e w' => e = .returned (.bool true) ∧ Below w.heap.size w w' := by
  have hrow : Row .u8 w a0 len0 cap0 z0 := w0
  clear w0
  have hl0 : (len0 : Int) ≤ 9223372036854775807 := by
    rcases hrow with ⟨_, rfl, _⟩ | ⟨x, _, h1, h2, _⟩
    · simp
    · unfold maxLen at h2; omega
  by_cases hbig : (1048576 : Int) < (len0 : Int)
  · go_enter Try.func8, Try.ntmps8
    go_wp2_with fail
    refine (big_any _ _ _ _).mono ?_
    rintro e w' ⟨rfl, rfl⟩
    go_wp2
    go_ret
    exact ⟨rfl, Below.refl _ _⟩
  · have HR : Hid (Row .u8 w a0 len0 cap0 z0) := hrow
    have hb : decide ((1048576 : Int) < (len0 : Int)) = false := by simpa using hbig
    clear hrow
    go_enter Try.func8, Try.ntmps8
    go_wp2_with fail
    refine (big_any _ _ _ _).mono ?_
    rintro e w ⟨rfl, rfl⟩
    go_wp2_with fail
    refine (drawRunOf_any w HR.out).mono ?_
    rintro e v1 ⟨m, s, n, rfl, n0, n1, hbl⟩
    have HB1 : Hid (Below w.heap.size w v1) := hbl
    have CI := implRunOf_any m s n
    have CS := specRunOf_any m s n
    have CA : Hid (∀ (s : Int × Int) (n : Int) w, Calls Try.prog 44 #[mcv m, stv s, .int .i64 n] w fun e w' => e = .returned (.tuple #[stv (M.aft m s n), .bool (M.runOk m s n)]) ∧ Below w.heap.size w w') := fun s n w => implAfter_any m s n w
    have CT : Hid (∀ {la : Option Addr} {l lc : Nat} {ps : List (Int × Int)} (w : World), SeesQ w la l lc ps → Calls Try.prog 45 #[mcv m, .slice la l lc] w fun e w' => e = .returned (.bool (M.traceOk m ps)) ∧ Below w.heap.size w w') := fun w h => implTraceOk_any m w h
    have HP : Hid (M.runOk m s n = true → ((M.runv m s n).length = n.toNat + 1 ∧ (M.runv m s n).getD n.toNat (0, 0) = m.rn s n.toNat ∧ (M.runv m s n).getD 0 (0, 0) = s) ∧ (0 ≤ n ∧ n ≤ 1000) ∧ M.traceOk m (M.runv m s n) = true ∧ ∀ k, 0 ≤ k → k ≤ n → M.runOk m s k = true ∧ M.runOk m (M.aft m s k) (n - k) = true ∧ M.aft m (M.aft m s k) (n - k) = m.rn s n.toNat) := fun h =>
      ⟨⟨Go.Proofs.Ytjeoenieoejolab.len0 h, by rw [M.runv_in h]; exact M.run_get m s _ _ (Nat.le_refl _), by rw [M.runv_in h]; exact M.run_get m s _ _ (Nat.zero_le _)⟩, (M.runOk_parts h).2.2, M.traceOk_run h, fun k h0 h1 => M.two_pieces h h0 h1⟩
    generalize hrv : M.runv m s n = rv at CI CS HP
    generalize hro : M.runOk m s n = ro at CI CS HP
    clear hbl hrv hro
    have HM0 : Hid (∃ mm, mm = m) := ⟨_, rfl⟩
    obtain ⟨mm, hmm⟩ := HM0.out
    rw [← hmm] at HP
    have CA0 : Hid (∀ (s : Int × Int) (n : Int) w, Calls Try.prog 44 #[mcv m, stv s, .int .i64 n] w fun e w' => e = .returned (.tuple #[stv (M.aft mm s n), .bool (M.runOk mm s n)]) ∧ Below w.heap.size w w') := by rw [hmm]; exact CA.out
    have CT0 : Hid (∀ {la : Option Addr} {l lc : Nat} {ps : List (Int × Int)} (w : World), SeesQ w la l lc ps → Calls Try.prog 45 #[mcv m, .slice la l lc] w fun e w' => e = .returned (.bool (M.traceOk mm ps)) ∧ Below w.heap.size w w') := by rw [hmm]; exact CT.out
    clear CA CT HM0 hmm
    obtain ⟨⟨a1, b1, c1, d1, f1, k1⟩, ⟨a2, b2, c2, d2, f2, k2⟩⟩ := m
    obtain ⟨x, y⟩ := s
    dsimp only [mcv, stv] at CI CS CA0 CT0 ⊢
    have HK : Hid (∀ W, Below ((v1.alloc (.cells #[.int .i64 a1, .int .i64 b1, .int .i64 c1, .int .i64 d1, .int .i64 f1, .int .i64 k1, .int .i64 a2, .int .i64 b2, .int .i64 c2, .int .i64 d2, .int .i64 f2, .int .i64 k2] 50)).alloc (.cells #[.int .i64 x, .int .i64 y] 52)).heap.size ((v1.alloc (.cells #[.int .i64 a1, .int .i64 b1, .int .i64 c1, .int .i64 d1, .int .i64 f1, .int .i64 k1, .int .i64 a2, .int .i64 b2, .int .i64 c2, .int .i64 d2, .int .i64 f2, .int .i64 k2] 50)).alloc (.cells #[.int .i64 x, .int .i64 y] 52)) W → W.cell? ⟨v1.heap.size, 0, none⟩ = some (.int .i64 a1) ∧ W.cell? ⟨v1.heap.size, 1, none⟩ = some (.int .i64 b1) ∧ W.cell? ⟨v1.heap.size, 2, none⟩ = some (.int .i64 c1) ∧ W.cell? ⟨v1.heap.size, 3, none⟩ = some (.int .i64 d1) ∧ W.cell? ⟨v1.heap.size, 4, none⟩ = some (.int .i64 f1) ∧ W.cell? ⟨v1.heap.size, 5, none⟩ = some (.int .i64 k1) ∧ W.cell? ⟨v1.heap.size, 6, none⟩ = some (.int .i64 a2) ∧ W.cell? ⟨v1.heap.size, 7, none⟩ = some (.int .i64 b2) ∧ W.cell? ⟨v1.heap.size, 8, none⟩ = some (.int .i64 c2) ∧ W.cell? ⟨v1.heap.size, 9, none⟩ = some (.int .i64 d2) ∧ W.cell? ⟨v1.heap.size, 10, none⟩ = some (.int .i64 f2) ∧ W.cell? ⟨v1.heap.size, 11, none⟩ = some (.int .i64 k2) ∧ W.cell? ⟨v1.heap.size + 1, 0, none⟩ = some (.int .i64 x) ∧ W.cell? ⟨v1.heap.size + 1, 1, none⟩ = some (.int .i64 y)) := fun W hW => by
      have e1 : (v1.alloc (.cells #[.int .i64 a1, .int .i64 b1, .int .i64 c1, .int .i64 d1, .int .i64 f1, .int .i64 k1, .int .i64 a2, .int .i64 b2, .int .i64 c2, .int .i64 d2, .int .i64 f2, .int .i64 k2] 50)).heap.size = v1.heap.size + 1 := by simp
      have h1 := fun i => World.cell?_alloc_new (v1.alloc (.cells #[.int .i64 a1, .int .i64 b1, .int .i64 c1, .int .i64 d1, .int .i64 f1, .int .i64 k1, .int .i64 a2, .int .i64 b2, .int .i64 c2, .int .i64 d2, .int .i64 f2, .int .i64 k2] 50)) #[.int .i64 x, .int .i64 y] 52 i
      rw [e1] at h1
      have h0 := fun i => (World.cell?_alloc_lt (w := v1.alloc (.cells #[.int .i64 a1, .int .i64 b1, .int .i64 c1, .int .i64 d1, .int .i64 f1, .int .i64 k1, .int .i64 a2, .int .i64 b2, .int .i64 c2, .int .i64 d2, .int .i64 f2, .int .i64 k2] 50)) (o := .cells #[.int .i64 x, .int .i64 y] 52) (a := ⟨v1.heap.size, i, none⟩) (h := by simp)).trans (World.cell?_alloc_new v1 #[.int .i64 a1, .int .i64 b1, .int .i64 c1, .int .i64 d1, .int .i64 f1, .int .i64 k1, .int .i64 a2, .int .i64 b2, .int .i64 c2, .int .i64 d2, .int .i64 f2, .int .i64 k2] 50 i)
      exact ⟨(hW.cell (p := ⟨v1.heap.size, 0, none⟩) (by simp; omega)).trans (h0 0), (hW.cell (p := ⟨v1.heap.size, 1, none⟩) (by simp; omega)).trans (h0 1), (hW.cell (p := ⟨v1.heap.size, 2, none⟩) (by simp; omega)).trans (h0 2), (hW.cell (p := ⟨v1.heap.size, 3, none⟩) (by simp; omega)).trans (h0 3), (hW.cell (p := ⟨v1.heap.size, 4, none⟩) (by simp; omega)).trans (h0 4), (hW.cell (p := ⟨v1.heap.size, 5, none⟩) (by simp; omega)).trans (h0 5), (hW.cell (p := ⟨v1.heap.size, 6, none⟩) (by simp; omega)).trans (h0 6), (hW.cell (p := ⟨v1.heap.size, 7, none⟩) (by simp; omega)).trans (h0 7), (hW.cell (p := ⟨v1.heap.size, 8, none⟩) (by simp; omega)).trans (h0 8), (hW.cell (p := ⟨v1.heap.size, 9, none⟩) (by simp; omega)).trans (h0 9), (hW.cell (p := ⟨v1.heap.size, 10, none⟩) (by simp; omega)).trans (h0 10), (hW.cell (p := ⟨v1.heap.size, 11, none⟩) (by simp; omega)).trans (h0 11), (hW.cell (p := ⟨v1.heap.size + 1, 0, none⟩) (by simp)).trans (h1 0), (hW.cell (p := ⟨v1.heap.size + 1, 1, none⟩) (by simp)).trans (h1 1)⟩
    have HBB : Hid (Below w.heap.size w ((v1.alloc (.cells #[.int .i64 a1, .int .i64 b1, .int .i64 c1, .int .i64 d1, .int .i64 f1, .int .i64 k1, .int .i64 a2, .int .i64 b2, .int .i64 c2, .int .i64 d2, .int .i64 f2, .int .i64 k2] 50)).alloc (.cells #[.int .i64 x, .int .i64 y] 52))) := (HB1.out.alloc HB1.out.size _).alloc (by have := HB1.out.size; simp; omega) _
    have HSB : Hid (w.heap.size ≤ ((v1.alloc (.cells #[.int .i64 a1, .int .i64 b1, .int .i64 c1, .int .i64 d1, .int .i64 f1, .int .i64 k1, .int .i64 a2, .int .i64 b2, .int .i64 c2, .int .i64 d2, .int .i64 f2, .int .i64 k2] 50)).alloc (.cells #[.int .i64 x, .int .i64 y] 52)).heap.size) := HBB.out.size
    go_wp2_with fail
    refine (CI _).mono ?_
    rintro e v2 ⟨la, l, lc, rfl, hl, ho2, hb2⟩
    have hk2 := HK.out _ hb2
    have HB2 : Hid (Below ((v1.alloc (.cells #[.int .i64 a1, .int .i64 b1, .int .i64 c1, .int .i64 d1, .int .i64 f1, .int .i64 k1, .int .i64 a2, .int .i64 b2, .int .i64 c2, .int .i64 d2, .int .i64 f2, .int .i64 k2] 50)).alloc (.cells #[.int .i64 x, .int .i64 y] 52)).heap.size ((v1.alloc (.cells #[.int .i64 a1, .int .i64 b1, .int .i64 c1, .int .i64 d1, .int .i64 f1, .int .i64 k1, .int .i64 a2, .int .i64 b2, .int .i64 c2, .int .i64 d2, .int .i64 f2, .int .i64 k2] 50)).alloc (.cells #[.int .i64 x, .int .i64 y] 52)) v2) := hb2
    obtain ⟨p0, p1, p2, p3, p4, p5, p6, p7, p8, p9, p10, p11, p12, p13⟩ := hk2
    have HO2 : Hid (OwnsQ 52 v2 v1.heap.size la l lc rv) := ho2.mono (by simp; omega)
    clear ho2 hb2 CI
    go_wp2_with fail
    refine (CS _).mono ?_
    rintro e v3 ⟨sa, sl, sc, rfl, -, ho3, hb3⟩
    have HB3 : Hid (Below ((v1.alloc (.cells #[.int .i64 a1, .int .i64 b1, .int .i64 c1, .int .i64 d1, .int .i64 f1, .int .i64 k1, .int .i64 a2, .int .i64 b2, .int .i64 c2, .int .i64 d2, .int .i64 f2, .int .i64 k2] 50)).alloc (.cells #[.int .i64 x, .int .i64 y] 52)).heap.size ((v1.alloc (.cells #[.int .i64 a1, .int .i64 b1, .int .i64 c1, .int .i64 d1, .int .i64 f1, .int .i64 k1, .int .i64 a2, .int .i64 b2, .int .i64 c2, .int .i64 d2, .int .i64 f2, .int .i64 k2] 50)).alloc (.cells #[.int .i64 x, .int .i64 y] 52)) v3) := HB2.out.trans (hb3.mono HB2.out.size)
    have HO3 : Hid (OwnsQ 52 v3 v1.heap.size la l lc rv) := HO2.out.below hb3
    have HS3 : Hid (OwnsQ 52 v3 v2.heap.size sa sl sc rv) := ho3
    have hsl : sl = l := by rw [← ho3.1, HO2.out.1]
    subst hsl
    clear ho3 hb3 CS HO2 p0 p1 p2 p3 p4 p5 p6 p7 p8 p9 p10 p11 p12 p13
    have i1 : (ro != ro) = false := by simp
    have i2 : (ro == ro) = true := by simp
    have i3 : ((sl : Int) != (sl : Int)) = false := by simp
    have i4 : ((sl : Int) == (sl : Int)) = true := by simp
    have hlb : (sl : Int) ≤ 1001 := by omega
    have HBv : Hid (Below w.heap.size w v3) := HBB.out.trans (HB3.out.mono HSB.out)
    cases ro with
    | false =>
      go_wp2
      go_ret
      exact ⟨rfl, HBv.out⟩
    | true =>
      obtain ⟨⟨hlen, hlast, hfirst⟩, ⟨hn0, hn1⟩, htr, htp⟩ := HP.out rfl
      obtain ⟨N, rfl⟩ := Int.eq_ofNat_of_zero_le hn0
      rw [Int.toNat_natCast] at hlen hlast
      have hslN : sl = N + 1 := by rw [← HO3.out.1]; exact hlen
      subst hslN
      have HLast : Hid (rv.getD N (0, 0) = mm.rn (x, y) N) := hlast
      have HFirst : Hid (rv.getD 0 (0, 0) = (x, y)) := hfirst
      have HTr : Hid (M.traceOk mm rv = true) := htr
      have HTp : Hid (∀ k, 0 ≤ k → k ≤ (N : Int) → M.runOk mm (x, y) k = true ∧ M.runOk mm (M.aft mm (x, y) k) ((N : Int) - k) = true ∧ M.aft mm (M.aft mm (x, y) k) ((N : Int) - k) = mm.rn (x, y) N) := fun k h0 h1 => by have := htp k h0 h1; rw [Int.toNat_natCast] at this; exact this
      clear hlen hlast hfirst htr htp HP hn0 i3 i4
      obtain ⟨g, rfl, hgb, hcap, hbig2, hc⟩ := HO3.out.block (by omega)
      obtain ⟨g2, rfl, -, hcap2, hbig3, hc2⟩ := HS3.out.block (by omega)
      have HC : Hid (∀ i, i < N + 1 → v3.cell? ⟨g, i * 2, none⟩ = some (.int .i64 (rv.getD i (0, 0)).1) ∧ v3.cell? ⟨g, i * 2 + 1, none⟩ = some (.int .i64 (rv.getD i (0, 0)).2)) := hc
      have HC2 : Hid (∀ i, i < N + 1 → v3.cell? ⟨g2, i * 2, none⟩ = some (.int .i64 (rv.getD i (0, 0)).1) ∧ v3.cell? ⟨g2, i * 2 + 1, none⟩ = some (.int .i64 (rv.getD i (0, 0)).2)) := hc2
      have hcI : (N : Int) + 1 ≤ lc := by omega
      have hcI2 : (N : Int) + 1 ≤ sc := by omega
      clear hc hc2
      go_wp2
      go_loopw [10] (fun i wr => ∃ j : Nat, j ≤ N + 1 ∧ i = .int .i64 j ∧ Below v3.heap.size v3 wr) (fun i _ => N + 1 - (intOf i).toNat)
      case atStart => exact ⟨0, by omega, rfl, Below.refl _ _⟩
      case round =>
        obtain ⟨j, hj, rfl, hw⟩ := hrel
        have HW : Hid (Below v3.heap.size v3 wr) := hw
        clear hw
        by_cases hlt : j < N + 1
        · have e1 : wr.cell? ⟨g, j * 2, none⟩ = some (.int .i64 (rv.getD j (0, 0)).1) := (HW.out.cell (p := ⟨g, j * 2, none⟩) (World.block_lt_of_cell? v3 ⟨g, j * 2, none⟩ (HC.out j hlt).1)).trans (HC.out j hlt).1
          have e2 : wr.cell? ⟨g, j * 2 + 1, none⟩ = some (.int .i64 (rv.getD j (0, 0)).2) := (HW.out.cell (p := ⟨g, j * 2 + 1, none⟩) (World.block_lt_of_cell? v3 ⟨g, j * 2 + 1, none⟩ (HC.out j hlt).2)).trans (HC.out j hlt).2
          have e3 : wr.cell? ⟨g2, j * 2, none⟩ = some (.int .i64 (rv.getD j (0, 0)).1) := (HW.out.cell (p := ⟨g2, j * 2, none⟩) (World.block_lt_of_cell? v3 ⟨g2, j * 2, none⟩ (HC2.out j hlt).1)).trans (HC2.out j hlt).1
          have e4 : wr.cell? ⟨g2, j * 2 + 1, none⟩ = some (.int .i64 (rv.getD j (0, 0)).2) := (HW.out.cell (p := ⟨g2, j * 2 + 1, none⟩) (World.block_lt_of_cell? v3 ⟨g2, j * 2 + 1, none⟩ (HC2.out j hlt).2)).trans (HC2.out j hlt).2
          have hI : (j : Int) < (N : Int) + 1 := by omega
          generalize (rv.getD j (0, 0)).1 = u at e1 e3
          generalize (rv.getD j (0, 0)).2 = v at e2 e4
          have j1 : (u == u) = true := by simp
          have j2 : (v == v) = true := by simp
          go_wp2
          go_quiet (fail)
          go_wp2
          go_roundw
          case rel => exact ⟨j + 1, by omega, by go_num, Below.drewN' HW.out _⟩
          case measure => simp [intOf]; omega
        · have hjn : j = N + 1 := by omega
          subst hjn
          have HBr : Hid (Below ((v1.alloc (.cells #[.int .i64 a1, .int .i64 b1, .int .i64 c1, .int .i64 d1, .int .i64 f1, .int .i64 k1, .int .i64 a2, .int .i64 b2, .int .i64 c2, .int .i64 d2, .int .i64 f2, .int .i64 k2] 50)).alloc (.cells #[.int .i64 x, .int .i64 y] 52)).heap.size ((v1.alloc (.cells #[.int .i64 a1, .int .i64 b1, .int .i64 c1, .int .i64 d1, .int .i64 f1, .int .i64 k1, .int .i64 a2, .int .i64 b2, .int .i64 c2, .int .i64 d2, .int .i64 f2, .int .i64 k2] 50)).alloc (.cells #[.int .i64 x, .int .i64 y] 52)) wr) := HB3.out.trans (HW.out.mono HB3.out.size)
          have HOr : Hid (OwnsQ 52 wr v1.heap.size (some ⟨g, 0, none⟩) (N + 1) lc rv) := HO3.out.below HW.out
          obtain ⟨p0, p1, p2, p3, p4, p5, p6, p7, p8, p9, p10, p11, p12, p13⟩ := HK.out _ HBr.out
          obtain ⟨K, hK⟩ : ∃ K : Nat, K = len0 % (N + 1) := ⟨_, rfl⟩
          have hKN : K ≤ N := by have := Nat.mod_lt len0 (show 0 < N + 1 by omega); omega
          have t1 : (len0 : Int).tmod ((N : Int) + 1) = (K : Int) := by rw [Int.tmod_eq_emod_of_nonneg (by omega), hK]; exact (Int.natCast_emod len0 (N + 1)).symm
          have t2 : ((N : Int) + 1 == 0) = false := by simp; omega
          clear hK
          obtain ⟨r1, r2, r3⟩ := HTp.out (K : Int) (by omega) (by omega)
          have CA1 := CA0.out (x, y) (K : Int)
          have CA2 := CA0.out (M.aft mm (x, y) (K : Int)) ((N : Int) - (K : Int))
          rw [r1] at CA1
          rw [r2, r3] at CA2
          rw [← HLast.out] at CA2
          generalize M.aft mm (x, y) (K : Int) = qa at CA1 CA2
          obtain ⟨ua, va⟩ := qa
          dsimp only at CA1 CA2
          clear r1 r2 r3
          go_wp2_with fail
          refine (CA1 _).mono ?_
          rintro e v4 ⟨rfl, hb4⟩
          have HB4 : Hid (Below ((v1.alloc (.cells #[.int .i64 a1, .int .i64 b1, .int .i64 c1, .int .i64 d1, .int .i64 f1, .int .i64 k1, .int .i64 a2, .int .i64 b2, .int .i64 c2, .int .i64 d2, .int .i64 f2, .int .i64 k2] 50)).alloc (.cells #[.int .i64 x, .int .i64 y] 52)).heap.size ((v1.alloc (.cells #[.int .i64 a1, .int .i64 b1, .int .i64 c1, .int .i64 d1, .int .i64 f1, .int .i64 k1, .int .i64 a2, .int .i64 b2, .int .i64 c2, .int .i64 d2, .int .i64 f2, .int .i64 k2] 50)).alloc (.cells #[.int .i64 x, .int .i64 y] 52)) v4) := HBr.out.trans (hb4.mono HBr.out.size)
          have HOv : Hid (OwnsQ 52 v4 v1.heap.size (some ⟨g, 0, none⟩) (N + 1) lc rv) := HOr.out.below hb4
          clear hb4 p0 p1 p2 p3 p4 p5 p6 p7 p8 p9 p10 p11 p12 p13
          have HB5 : Hid (Below ((v1.alloc (.cells #[.int .i64 a1, .int .i64 b1, .int .i64 c1, .int .i64 d1, .int .i64 f1, .int .i64 k1, .int .i64 a2, .int .i64 b2, .int .i64 c2, .int .i64 d2, .int .i64 f2, .int .i64 k2] 50)).alloc (.cells #[.int .i64 x, .int .i64 y] 52)).heap.size ((v1.alloc (.cells #[.int .i64 a1, .int .i64 b1, .int .i64 c1, .int .i64 d1, .int .i64 f1, .int .i64 k1, .int .i64 a2, .int .i64 b2, .int .i64 c2, .int .i64 d2, .int .i64 f2, .int .i64 k2] 50)).alloc (.cells #[.int .i64 x, .int .i64 y] 52)) (v4.alloc (.cells #[.int .i64 ua, .int .i64 va] 52))) := HB4.out.alloc HB4.out.size _
          obtain ⟨p0, p1, p2, p3, p4, p5, p6, p7, p8, p9, p10, p11, p12, p13⟩ := HK.out _ HB5.out
          have hKN2 : (K : Int) ≤ (N : Int) := by omega
          go_wp2_with fail
          refine (CA2 _).mono ?_
          rintro e v6 ⟨rfl, hb6⟩
          have HB6 : Hid (Below ((v1.alloc (.cells #[.int .i64 a1, .int .i64 b1, .int .i64 c1, .int .i64 d1, .int .i64 f1, .int .i64 k1, .int .i64 a2, .int .i64 b2, .int .i64 c2, .int .i64 d2, .int .i64 f2, .int .i64 k2] 50)).alloc (.cells #[.int .i64 x, .int .i64 y] 52)).heap.size ((v1.alloc (.cells #[.int .i64 a1, .int .i64 b1, .int .i64 c1, .int .i64 d1, .int .i64 f1, .int .i64 k1, .int .i64 a2, .int .i64 b2, .int .i64 c2, .int .i64 d2, .int .i64 f2, .int .i64 k2] 50)).alloc (.cells #[.int .i64 x, .int .i64 y] 52)) v6) := HB5.out.trans (hb6.mono HB5.out.size)
          have HO6 : Hid (OwnsQ 52 v6 v1.heap.size (some ⟨g, 0, none⟩) (N + 1) lc rv) := (HOv.out.below ((Below.refl _ _).alloc (Nat.le_refl _) _)).below hb6
          clear hb6 p0 p1 p2 p3 p4 p5 p6 p7 p8 p9 p10 p11 p12 p13
          obtain ⟨g', hg', -, -, -, hc6⟩ := HO6.out.block (by omega)
          simp only [Option.some.injEq, Addr.mk.injEq, and_true] at hg'
          subst hg'
          have hN6 := hc6 N (by omega)
          have h06 := hc6 0 (by omega)
          rw [HFirst.out] at h06
          generalize rv.getD N (0, 0) = qb at hN6
          obtain ⟨ub, vb⟩ := qb
          dsimp only at hN6 h06
          have HCT : Hid (∀ wc, SeesQ wc (some ⟨g, 0, none⟩) (N + 1) lc rv → Calls Try.prog 45 #[.agg #[.int .i64 a1, .int .i64 b1, .int .i64 c1, .int .i64 d1, .int .i64 f1, .int .i64 k1, .int .i64 a2, .int .i64 b2, .int .i64 c2, .int .i64 d2, .int .i64 f2, .int .i64 k2], .slice (some ⟨g, 0, none⟩) (N + 1) lc] wc fun e w' => e = .returned (.bool true) ∧ Below wc.heap.size wc w') := fun wc h => by have := CT0.out wc h; rw [HTr.out] at this; exact this
          have HB7 : Hid (Below ((v1.alloc (.cells #[.int .i64 a1, .int .i64 b1, .int .i64 c1, .int .i64 d1, .int .i64 f1, .int .i64 k1, .int .i64 a2, .int .i64 b2, .int .i64 c2, .int .i64 d2, .int .i64 f2, .int .i64 k2] 50)).alloc (.cells #[.int .i64 x, .int .i64 y] 52)).heap.size ((v1.alloc (.cells #[.int .i64 a1, .int .i64 b1, .int .i64 c1, .int .i64 d1, .int .i64 f1, .int .i64 k1, .int .i64 a2, .int .i64 b2, .int .i64 c2, .int .i64 d2, .int .i64 f2, .int .i64 k2] 50)).alloc (.cells #[.int .i64 x, .int .i64 y] 52)) (v6.alloc (.cells #[.int .i64 ub, .int .i64 vb] 52))) := HB6.out.alloc HB6.out.size _
          have HS7 : Hid (SeesQ (v6.alloc (.cells #[.int .i64 ub, .int .i64 vb] 52)) (some ⟨g, 0, none⟩) (N + 1) lc rv) := (HO6.out.sees (by omega)).below ((Below.refl _ _).alloc (Nat.le_refl _) _)
          have HKK : Hid (∀ W, Below (v6.alloc (.cells #[.int .i64 ub, .int .i64 vb] 52)).heap.size (v6.alloc (.cells #[.int .i64 ub, .int .i64 vb] 52)) W → W.cell? ⟨v1.heap.size, 0, none⟩ = some (.int .i64 a1) ∧ W.cell? ⟨v1.heap.size, 1, none⟩ = some (.int .i64 b1) ∧ W.cell? ⟨v1.heap.size, 2, none⟩ = some (.int .i64 c1) ∧ W.cell? ⟨v1.heap.size, 3, none⟩ = some (.int .i64 d1) ∧ W.cell? ⟨v1.heap.size, 4, none⟩ = some (.int .i64 f1) ∧ W.cell? ⟨v1.heap.size, 5, none⟩ = some (.int .i64 k1) ∧ W.cell? ⟨v1.heap.size, 6, none⟩ = some (.int .i64 a2) ∧ W.cell? ⟨v1.heap.size, 7, none⟩ = some (.int .i64 b2) ∧ W.cell? ⟨v1.heap.size, 8, none⟩ = some (.int .i64 c2) ∧ W.cell? ⟨v1.heap.size, 9, none⟩ = some (.int .i64 d2) ∧ W.cell? ⟨v1.heap.size, 10, none⟩ = some (.int .i64 f2) ∧ W.cell? ⟨v1.heap.size, 11, none⟩ = some (.int .i64 k2) ∧ W.cell? ⟨v1.heap.size + 1, 0, none⟩ = some (.int .i64 x) ∧ W.cell? ⟨v1.heap.size + 1, 1, none⟩ = some (.int .i64 y) ∧ W.cell? ⟨v6.heap.size, 0, none⟩ = some (.int .i64 ub) ∧ W.cell? ⟨v6.heap.size, 1, none⟩ = some (.int .i64 vb) ∧ W.cell? ⟨g, N * 2, none⟩ = some (.int .i64 ub) ∧ W.cell? ⟨g, N * 2 + 1, none⟩ = some (.int .i64 vb) ∧ W.cell? ⟨g, 0, none⟩ = some (.int .i64 x) ∧ W.cell? ⟨g, 1, none⟩ = some (.int .i64 y)) := fun W hW => by
            obtain ⟨p0, p1, p2, p3, p4, p5, p6, p7, p8, p9, p10, p11, p12, p13⟩ := HK.out W (HB7.out.trans (hW.mono HB7.out.size))
            have hb : Below v6.heap.size v6 W := ((Below.refl _ _).alloc (Nat.le_refl _) _).trans (hW.mono (by simp))
            have hgl : g < v6.heap.size := World.block_lt_of_cell? v6 ⟨g, N * 2, none⟩ hN6.1
            exact ⟨p0, p1, p2, p3, p4, p5, p6, p7, p8, p9, p10, p11, p12, p13, (hW.cell (p := ⟨v6.heap.size, 0, none⟩) (by simp)).trans (World.cell?_alloc_new _ _ _ _), (hW.cell (p := ⟨v6.heap.size, 1, none⟩) (by simp)).trans (World.cell?_alloc_new _ _ _ _), (hb.cell (p := ⟨g, N * 2, none⟩) hgl).trans hN6.1, (hb.cell (p := ⟨g, N * 2 + 1, none⟩) hgl).trans hN6.2, (hb.cell (p := ⟨g, 0, none⟩) hgl).trans (by simpa using h06.1), (hb.cell (p := ⟨g, 1, none⟩) hgl).trans (by simpa using h06.2)⟩
          have HBw : Hid (Below w.heap.size w (v6.alloc (.cells #[.int .i64 ub, .int .i64 vb] 52))) := HBB.out.trans (HB7.out.mono HSB.out)
          clear hN6 h06 hc6 CA1 CA2
          go_wp2
          generalize v6.alloc (.cells #[.int .i64 ub, .int .i64 vb] 52) = W6 at HS7 HKK HBw ⊢
          have CTi : ∀ wc, Below W6.heap.size W6 wc → Calls Try.prog 45 #[.agg #[.int .i64 a1, .int .i64 b1, .int .i64 c1, .int .i64 d1, .int .i64 f1, .int .i64 k1, .int .i64 a2, .int .i64 b2, .int .i64 c2, .int .i64 d2, .int .i64 f2, .int .i64 k2], .slice (some ⟨g, 0, none⟩) (N + 1) lc] wc fun e w' => e = .returned (.bool true) ∧ Below W6.heap.size W6 w' := fun wc h => (HCT.out wc (HS7.out.below h)).mono fun _ _ hh => ⟨hh.1, h.trans (hh.2.mono h.size)⟩
          have hb0 : Below W6.heap.size W6 W6.drew := (Below.refl _ _).drew
          have y1 : (ub == ub) = true := by simp
          have y2 : (vb == vb) = true := by simp
          have y3 : (x == x) = true := by simp
          have y4 : (y == y) = true := by simp
          have y5 : (N : Int) < (N : Int) + 1 := by omega
          have y6 : (0 : Int) < (N : Int) + 1 := by omega
          go_region_held3 (fun W => W.cell? ⟨v1.heap.size, 0, none⟩ = some (.int .i64 a1) ∧ W.cell? ⟨v1.heap.size, 1, none⟩ = some (.int .i64 b1) ∧ W.cell? ⟨v1.heap.size, 2, none⟩ = some (.int .i64 c1) ∧ W.cell? ⟨v1.heap.size, 3, none⟩ = some (.int .i64 d1) ∧ W.cell? ⟨v1.heap.size, 4, none⟩ = some (.int .i64 f1) ∧ W.cell? ⟨v1.heap.size, 5, none⟩ = some (.int .i64 k1) ∧ W.cell? ⟨v1.heap.size, 6, none⟩ = some (.int .i64 a2) ∧ W.cell? ⟨v1.heap.size, 7, none⟩ = some (.int .i64 b2) ∧ W.cell? ⟨v1.heap.size, 8, none⟩ = some (.int .i64 c2) ∧ W.cell? ⟨v1.heap.size, 9, none⟩ = some (.int .i64 d2) ∧ W.cell? ⟨v1.heap.size, 10, none⟩ = some (.int .i64 f2) ∧ W.cell? ⟨v1.heap.size, 11, none⟩ = some (.int .i64 k2) ∧ W.cell? ⟨v1.heap.size + 1, 0, none⟩ = some (.int .i64 x) ∧ W.cell? ⟨v1.heap.size + 1, 1, none⟩ = some (.int .i64 y) ∧ W.cell? ⟨v6.heap.size, 0, none⟩ = some (.int .i64 ub) ∧ W.cell? ⟨v6.heap.size, 1, none⟩ = some (.int .i64 vb) ∧ W.cell? ⟨g, N * 2, none⟩ = some (.int .i64 ub) ∧ W.cell? ⟨g, N * 2 + 1, none⟩ = some (.int .i64 vb) ∧ W.cell? ⟨g, 0, none⟩ = some (.int .i64 x) ∧ W.cell? ⟨g, 1, none⟩ = some (.int .i64 y)) (first | with_reducible exact HKK.out _ hbb | with_reducible exact HKK.out _ hb0)
            (first
              | (go_at_call 45; refine (CTi _ hb0).mono ?_; rintro e v8 ⟨rfl, hbb⟩))
          all_goals
            have HB8 : Hid (Below w.heap.size w v8) := HBw.out.trans (hbb.mono HBw.out.size)
            clear hbb
            go_wp2
            go_ret
            exact ⟨rfl, HB8.out⟩

set_option maxRecDepth 100000 in
theorem lifted (os : Os) (started : os.Started) (H : Type) (enc : TypeId × Value → H) :
    ReturnsInHanded {} Try.checked os 8 .any (Rows.fnRunsSpec.pre6 enc Try.prog Try.f8 Rows.fnRunsRow.domain false) (Rows.fnRunsSpec.post enc Try.prog Try.f8 false true false false) := by
  refine returnsInHanded_of_change (C := Try.checked) own started (by kernel_rfl) Try.func8
    (ChangeSpec.witness6 (enc := enc) (C := Try.checked) false ⟨#[], #[.slice none 0 0], []⟩ 8 (by kernel_rfl) (by kernel_rfl) (by kernel_rfl) (by kernel_rfl)) ?_
  intro W base args ds gs before hval0 hW hcnd _
  have hval : ∀ (j : Nat) t v, Try.f8.params[j]? = some t → args[j]? = some v → Value.okWide Try.prog W .any base t v := hval0
  have hW' := hW
  obtain ⟨p, q, hA0, hV, rfl, hfz, hnd⟩ := hW
  have hA : DataW.TrodAll enc Try.prog W 0 (fun _ => true) true Try.f8.params.toList args.toList ds p := hA0
  rw [Try.params8] at hA hval
  obtain ⟨v0, vs0, d0, ds0, p0, q0, hargs, rfl, rfl, h0, r0⟩ := trodAll_cons hA
  obtain ⟨rfl, rfl, rfl⟩ := trodAll_nil r0
  obtain rfl : args = #[v0] := by cases args; simp_all
  obtain ⟨rfl, rfl⟩ := trodVars_none hV
  obtain ⟨a0, len0, cap0, rfl⟩ := okWide_slice Try.underlying22 (hval 0 22 v0 rfl rfl)
  have k0 := h0
  have lt0 : ∀ x ∈ p0, x.block < W.heap.size := by obtain ⟨m, hm⟩ := k0; exact DataW.trod_lt m _ _ _ hm
  obtain ⟨z0, w0⟩ : ∃ zs, IsRow .u8 W a0 len0 cap0 zs := by
    obtain ⟨fuel, hf⟩ := h0
    rcases open_ints Try.underlying22 Try.underlying5 (by kernel_rfl) hf with ⟨hcs, _⟩ | ⟨x, l, c, zs, hcs, _, hl, hm, hz, _, hcell, hwz⟩
    · simp [Value.cells] at hcs
      obtain ⟨rfl, rfl, rfl⟩ := hcs
      exact ⟨[], .inl ⟨rfl, rfl, rfl, rfl⟩⟩
    · simp [Value.cells] at hcs
      obtain ⟨rfl, rfl, rfl⟩ := hcs
      exact ⟨zs, .inr ⟨_, rfl, hl, hm, by simpa using hz, hcell, hwz⟩⟩
  clear hA0 hval0
  refine (walk a0 len0 cap0 z0 W w0).mono fun e W' ⟨he, bel⟩ => ?_
  subst he
  exact ⟨_, rfl, _, _, _, [], _, [], hW', trodAll_mk1 (shut_bool Try.underlying4 _), (trodAll_cons_mk (Below.trod laidOut (by kernel_rfl) (of_decide_eq_true (by kernel_rfl)) k0 bel lt0) trodAll_mk0), rfl, bel.frame _, fun h => by cases h⟩

theorem over : Rows.fnRunsRow.holds Try.pinned (OpenSpec.ofChange Rows.fnRunsSpec) :=
  OpenClaim.holds_of_wide 8 Try.f8 rfl rfl rfl rfl rfl rfl rfl ⟨rfl, rfl, rfl, rfl, rfl⟩ rfl rfl rfl rfl rfl (by kernel_rfl) Try.func8 (by kernel_rfl)
    (of_decide_eq_true (by kernel_rfl)) (by unfold Func.isWrapper; first | (rw [if_pos (by decide +kernel)]; kernel_rfl) | (rw [if_neg (by decide +kernel)]; exact ⟨rfl, rfl⟩))
    (fun os started H enc _ => lifted os started H enc)

theorem proved : Rows.FnRunsSaid := over
end Go.Proofs.Ytjeoenieoejolab.fnRuns
namespace Go.Proofs.Ytjeoenieoejolab
theorem fnRuns_holds : Rows.FnRunsSaid := fnRuns.proved
#print axioms fnRuns_holds
end Go.Proofs.Ytjeoenieoejolab
