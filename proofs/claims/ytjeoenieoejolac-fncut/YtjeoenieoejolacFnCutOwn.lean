/- Whatever bytes a machine, a state and two numbers are drawn from: CutOf answers as its model; each piece holds, begins where the one ahead of it ends, and JoinedAll of all is the run from its start to where After comes, in all their steps; a code of more than 2 to the 20 bytes is passed by. -/
import Derived.Test.YtjeoenieoejolacRows
import Derived.WalkKit
import Derived.ProofKit
import Derived.OpenShut
import Derived.ShutString
import Derived.ChangeOld
import Derived.Below
import Derived.Test.YtjeoenieoejolacRdA
import Derived.Test.YtjeoenieoejolacRdW
import Derived.Test.YtjeoenieoejolacClP
import Derived.Test.YtjeoenieoejolacClK
import Derived.Test.YtjeoenieoejolacLvE
namespace Go.Proofs.Ytjeoenieoejolac.fnCut
open Go.ChangeShapes Go.WideShapes Go.ChangeAt Go.RowKit
open Go.ChangeMaps (open_string shut_string)
set_option linter.unusedVariables false

theorem own : ownKnob Try.prog.godebug = none := by kernel_rfl
theorem laidOut : laidOutB Try.prog = true := by kernel_rfl

def IsRow (k : IntKind) (w : World) (a : Option Addr) (len cap : Nat) (zs : List Int) : Prop :=
  (a = none ∧ len = 0 ∧ cap = 0 ∧ zs = []) ∨
  ∃ x, a = some x ∧ len ≤ cap ∧ cap ≤ maxLen ∧ zs.length = cap ∧ (∀ i, i < zs.length → w.cell? (x.add i) = some (.int k (zs.getD i 0))) ∧ ∀ n ∈ zs, (Lit.int k n).wf = true

set_option maxHeartbeats 8000000 in
set_option maxRecDepth 100000 in
theorem walk (a0 : Option Addr) (len0 cap0 : Nat) (z0 : List Int) (w : World) (w0 : IsRow .u8 w a0 len0 cap0 z0) :
    Calls Try.prog 5 #[.slice a0 len0 cap0] w fun e w' => e = .returned (.bool true) ∧ Below w.heap.size w w' := by
  have hrow : Row .u8 w a0 len0 cap0 z0 := w0
  clear w0
  have hl0 : (len0 : Int) ≤ 9223372036854775807 := by
    rcases hrow with ⟨_, rfl, _⟩ | ⟨x, _, h1, h2, _⟩
    · simp
    · unfold maxLen at h2; omega
  by_cases hbig : (1048576 : Int) < (len0 : Int)
  · go_enter Try.func5, Try.ntmps5
    go_wp2_with fail
    refine (big_any _ _ _ _).mono ?_
    rintro e w' ⟨rfl, rfl⟩
    go_wp2
    go_ret
    exact ⟨rfl, Below.refl _ _⟩
  · have HR : Hid (Row .u8 w a0 len0 cap0 z0) := hrow
    have hb : decide ((1048576 : Int) < (len0 : Int)) = false := by simpa using hbig
    clear hrow
    go_enter Try.func5, Try.ntmps5
    go_wp2_with fail
    refine (big_any _ _ _ _).mono ?_
    rintro e w ⟨rfl, rfl⟩
    go_wp2_with fail
    refine (drawCutOf_any w HR.out).mono ?_
    rintro e v1 ⟨mm, ss, rows, many, rfl, hb1⟩
    have HB1 : Hid (Below w.heap.size w v1) := hb1
    clear hb1
    have CI := implCutOf_any mm ss rows many
    have CS := specCutOf_any mm ss rows many
    have HP : Hid (M.cutOk mm ss rows many = true → _) := M.cut_facts (m := mm) (s := ss) (rows := rows) (many := many)
    have CA := implAfter_any mm ss (many * (rows - 1))
    have CH0 : Hid (∀ c w, Calls Try.prog 18 #[mcv mm, clv c] w fun e w' => e = .returned (.bool (M.holds mm c)) ∧ Below w.heap.size w w') := fun c w => implHolds_any mm c w
    generalize M.cutv mm ss rows many = cs at CI CS HP
    generalize M.cutOk mm ss rows many = co at CI CS HP
    generalize M.aft mm ss (many * (rows - 1)) = af at CA HP
    generalize M.runOk mm ss (many * (rows - 1)) = ro at CA HP
    generalize hho : (fun c => M.holds mm c) = ho
    have HHO : Hid (∀ c, M.holds mm c = ho c) := fun c => by rw [← hho]
    simp only [HHO.out] at HP CH0
    clear hho HHO
    obtain ⟨⟨a1, b1, c1, d1, f1, k1⟩, ⟨a2, b2, c2, d2, f2, k2⟩⟩ := mm
    obtain ⟨e1, e2⟩ := ss
    obtain ⟨af1, af2⟩ := af
    dsimp only [mcv, stv] at CI CS CA CH0 ⊢
    have LM1 : Hid (Lies ((v1.alloc (.cells #[.int .i64 a1, .int .i64 b1, .int .i64 c1, .int .i64 d1, .int .i64 f1, .int .i64 k1, .int .i64 a2, .int .i64 b2, .int .i64 c2, .int .i64 d2, .int .i64 f2, .int .i64 k2] 27)).alloc (.cells #[.int .i64 e1, .int .i64 e2] 35)) v1.heap.size [.int .i64 a1, .int .i64 b1, .int .i64 c1, .int .i64 d1, .int .i64 f1, .int .i64 k1, .int .i64 a2, .int .i64 b2, .int .i64 c2, .int .i64 d2, .int .i64 f2, .int .i64 k2]) := (lies_new _ _ _).alloc _
    have LS1 : Hid (Lies ((v1.alloc (.cells #[.int .i64 a1, .int .i64 b1, .int .i64 c1, .int .i64 d1, .int .i64 f1, .int .i64 k1, .int .i64 a2, .int .i64 b2, .int .i64 c2, .int .i64 d2, .int .i64 f2, .int .i64 k2] 27)).alloc (.cells #[.int .i64 e1, .int .i64 e2] 35)) (v1.heap.size + 1) [.int .i64 e1, .int .i64 e2]) := lies_new2 _ _ _ _
    have HBM : Hid (Below w.heap.size w ((v1.alloc (.cells #[.int .i64 a1, .int .i64 b1, .int .i64 c1, .int .i64 d1, .int .i64 f1, .int .i64 k1, .int .i64 a2, .int .i64 b2, .int .i64 c2, .int .i64 d2, .int .i64 f2, .int .i64 k2] 27)).alloc (.cells #[.int .i64 e1, .int .i64 e2] 35))) := (HB1.out.alloc HB1.out.size _).alloc (by have := HB1.out.size; simp; omega) _
    clear HB1
    go_wp2_with fail
    refine (CI _).mono ?_
    rintro e v2 ⟨la, ll, lc, rfl, hll, hoc, hb2⟩
    have HB2 : Hid (Below w.heap.size w v2) := HBM.out.trans (hb2.mono HBM.out.size)
    have LM2 : Hid (Lies v2 v1.heap.size [.int .i64 a1, .int .i64 b1, .int .i64 c1, .int .i64 d1, .int .i64 f1, .int .i64 k1, .int .i64 a2, .int .i64 b2, .int .i64 c2, .int .i64 d2, .int .i64 f2, .int .i64 k2]) := LM1.out.belowS hb2
    have LS2 : Hid (Lies v2 (v1.heap.size + 1) [.int .i64 e1, .int .i64 e2]) := LS1.out.belowS hb2
    have HO2 : Hid (SeesC v2 la ll lc cs) := hoc.sees
    have HBL : Hid (∀ g, la = some ⟨g, 0, none⟩ → 0 < ll → g < v2.heap.size ∧ ∀ i, i < ll → ∀ q, q < 5 → v2.cell? ⟨g, i * 5 + q, none⟩ = (cvs (cs.getD i M.c0))[q]?) := fun g hg h0 => by
      obtain ⟨g', e, _, _, _, hc⟩ := hoc.block h0
      rw [hg] at e
      simp only [Option.some.injEq, Addr.mk.injEq, and_true] at e
      subst e
      exact ⟨World.block_lt_of_cell? _ ⟨g, 0 * 5 + 0, none⟩ ((hc 0 h0 0 (by omega)).trans rfl), hc⟩
    have HAT : Hid (0 < ll → ∃ g, la = some ⟨g, 0, none⟩) := fun h0 => by obtain ⟨g, e, _⟩ := hoc.block h0; exact ⟨g, e⟩
    have hl8 : (ll : Int) ≤ 8 := by omega
    have HCL : Hid (cs.length = ll) := hoc.1
    clear hb2 hoc LM1 LS1 HBM CI
    have fm0 : v2.cell? ⟨v1.heap.size, 0, none⟩ = some (.int .i64 a1) := LM2.out.at 0
    have fm1 : v2.cell? ⟨v1.heap.size, 1, none⟩ = some (.int .i64 b1) := LM2.out.at 1
    have fm2 : v2.cell? ⟨v1.heap.size, 2, none⟩ = some (.int .i64 c1) := LM2.out.at 2
    have fm3 : v2.cell? ⟨v1.heap.size, 3, none⟩ = some (.int .i64 d1) := LM2.out.at 3
    have fm4 : v2.cell? ⟨v1.heap.size, 4, none⟩ = some (.int .i64 f1) := LM2.out.at 4
    have fm5 : v2.cell? ⟨v1.heap.size, 5, none⟩ = some (.int .i64 k1) := LM2.out.at 5
    have fm6 : v2.cell? ⟨v1.heap.size, 6, none⟩ = some (.int .i64 a2) := LM2.out.at 6
    have fm7 : v2.cell? ⟨v1.heap.size, 7, none⟩ = some (.int .i64 b2) := LM2.out.at 7
    have fm8 : v2.cell? ⟨v1.heap.size, 8, none⟩ = some (.int .i64 c2) := LM2.out.at 8
    have fm9 : v2.cell? ⟨v1.heap.size, 9, none⟩ = some (.int .i64 d2) := LM2.out.at 9
    have fm10 : v2.cell? ⟨v1.heap.size, 10, none⟩ = some (.int .i64 f2) := LM2.out.at 10
    have fm11 : v2.cell? ⟨v1.heap.size, 11, none⟩ = some (.int .i64 k2) := LM2.out.at 11
    have fs0 : v2.cell? ⟨v1.heap.size + 1, 0, none⟩ = some (.int .i64 e1) := LS2.out.at 0
    have fs1 : v2.cell? ⟨v1.heap.size + 1, 1, none⟩ = some (.int .i64 e2) := LS2.out.at 1
    go_wp2_with fail
    refine (CS _).mono ?_
    rintro e v3 ⟨ma, ml, mc, rfl, hml, hom, hb3⟩
    have HB3 : Hid (Below w.heap.size w v3) := HB2.out.trans (hb3.mono HB2.out.size)
    have LM : Hid (Lies v3 v1.heap.size [.int .i64 a1, .int .i64 b1, .int .i64 c1, .int .i64 d1, .int .i64 f1, .int .i64 k1, .int .i64 a2, .int .i64 b2, .int .i64 c2, .int .i64 d2, .int .i64 f2, .int .i64 k2]) := LM2.out.belowS hb3
    have LS : Hid (Lies v3 (v1.heap.size + 1) [.int .i64 e1, .int .i64 e2]) := LS2.out.belowS hb3
    have HO3 : Hid (SeesC v3 la ll lc cs) := HO2.out.below hb3
    have hme : ml = ll := by have := hom.1; have := HCL.out; omega
    subst hme
    have hmlI : (ml : Int) ≤ mc := by have := hom.sees.le; omega
    have hllI : (ml : Int) ≤ lc := by have := HO3.out.le; omega
    have HBM3 : Hid (∀ h, ma = some ⟨h, 0, none⟩ → 0 < ml → h < v3.heap.size ∧ ∀ i, i < ml → ∀ q, q < 5 → v3.cell? ⟨h, i * 5 + q, none⟩ = (cvs (cs.getD i M.c0))[q]?) := fun g hg h0 => by
      obtain ⟨g', e, _, _, _, hc⟩ := hom.block h0
      rw [hg] at e
      simp only [Option.some.injEq, Addr.mk.injEq, and_true] at e
      subst e
      exact ⟨World.block_lt_of_cell? _ ⟨g, 0 * 5 + 0, none⟩ ((hc 0 h0 0 (by omega)).trans rfl), hc⟩
    have HATM : Hid (0 < ml → ∃ g, ma = some ⟨g, 0, none⟩) := fun h0 => by obtain ⟨g, e, _⟩ := hom.block h0; exact ⟨g, e⟩
    have HBL3 : Hid (∀ g, la = some ⟨g, 0, none⟩ → 0 < ml → g < v3.heap.size ∧ ∀ i, i < ml → ∀ q, q < 5 → v3.cell? ⟨g, i * 5 + q, none⟩ = (cvs (cs.getD i M.c0))[q]?) := fun g hg h0 => by
      obtain ⟨h1, h2⟩ := HBL.out g hg h0
      exact ⟨Nat.lt_of_lt_of_le h1 hb3.size, fun i hi q hq => (hb3.cell (p := ⟨g, i * 5 + q, none⟩) h1).trans (h2 i hi q hq)⟩
    clear hb3 hom LM2 LS2 HB2 CS HO2 HBL fm0 fm1 fm2 fm3 fm4 fm5 fm6 fm7 fm8 fm9 fm10 fm11 fs0 fs1
    have n1 : (co != co) = false := by simp
    have n2 : ((ml : Int) != (ml : Int)) = false := by simp
    have n3 : (co == co) = true := by simp
    have n4 : ((ml : Int) == (ml : Int)) = true := by simp
    cases co with
    | false =>
      clear HP CA CH0
      go_wp2
      go_ret
      exact ⟨by simp, HB3.out⟩
    | true =>
      obtain ⟨hp1, hp2, hp3, hp4, hp5, hp6, hp7, hp8⟩ := HP.out (by simp)
      have HP1 : Hid (∀ i, i < cs.length → ho (cs.getD i M.c0) = true ∧ (0 < i → (cs.getD i M.c0).s = (cs.getD (i - 1) M.c0).e)) := hp1
      have HP2 : Hid (M.allOk cs = true) := hp2
      have HP3 : Hid (M.allv cs = ⟨(e1, e2), (af1, af2), many * (rows - 1)⟩) := hp3
      have hro : ro = true := hp4
      subst hro
      clear hp1 hp2 hp3 hp4 HP
      go_wp2
      go_loopw [11] (fun i wr => ∃ j : Nat, j ≤ ml ∧ i = .int .i64 j ∧ Below v3.heap.size v3 wr) (fun i _ => ml - (intOf i).toNat)
      case atStart => exact ⟨0, by omega, rfl, Below.refl _ _⟩
      case round =>
        obtain ⟨j, hj, rfl, hbr⟩ := hrel
        have HBr : Hid (Below v3.heap.size v3 wr) := hbr
        clear hbr
        by_cases hlt : j < ml
        · have hI : (j : Int) < (ml : Int) := by omega
          obtain ⟨g, rfl⟩ := HAT.out (by omega)
          obtain ⟨h, rfl⟩ := HATM.out (by omega)
          have HGL : Hid (g < v3.heap.size) := (HBL3.out g rfl (by omega)).1
          have HG : Hid (∀ i, i < ml → ∀ q, q < 5 → v3.cell? ⟨g, i * 5 + q, none⟩ = (cvs (cs.getD i M.c0))[q]?) := (HBL3.out g rfl (by omega)).2
          have HHL : Hid (h < v3.heap.size) := (HBM3.out h rfl (by omega)).1
          have HH : Hid (∀ i, i < ml → ∀ q, q < 5 → v3.cell? ⟨h, i * 5 + q, none⟩ = (cvs (cs.getD i M.c0))[q]?) := (HBM3.out h rfl (by omega)).2
          have CH := CH0.out (cs.getD j M.c0)
          obtain ⟨hh1, hh2⟩ := HP1.out j (by rw [HCL.out]; exact hlt)
          rw [hh1] at CH
          have HPR0 : Hid (0 < j → (cs.getD j M.c0).s = (cs.getD (j - 1) M.c0).e) := hh2
          clear hh1 hh2
          generalize hcj : cs.getD j M.c0 = cj at CH HPR0
          obtain ⟨⟨x, y⟩, ⟨x', y'⟩, n⟩ := cj
          have HCJ : Hid (cs.getD j M.c0 = ⟨(x, y), (x', y'), n⟩) := hcj
          dsimp only [clv] at CH
          clear hcj
          by_cases hj0 : j = 0
          · subst hj0
            have hml0 : 0 < ml := by omega
            clear HPR0
            have HK : Hid (∀ W, Below wr.heap.size wr W → W.cell? ⟨v1.heap.size, 0, none⟩ = some (.int .i64 a1) ∧ W.cell? ⟨v1.heap.size, 1, none⟩ = some (.int .i64 b1) ∧ W.cell? ⟨v1.heap.size, 2, none⟩ = some (.int .i64 c1) ∧ W.cell? ⟨v1.heap.size, 3, none⟩ = some (.int .i64 d1) ∧ W.cell? ⟨v1.heap.size, 4, none⟩ = some (.int .i64 f1) ∧ W.cell? ⟨v1.heap.size, 5, none⟩ = some (.int .i64 k1) ∧ W.cell? ⟨v1.heap.size, 6, none⟩ = some (.int .i64 a2) ∧ W.cell? ⟨v1.heap.size, 7, none⟩ = some (.int .i64 b2) ∧ W.cell? ⟨v1.heap.size, 8, none⟩ = some (.int .i64 c2) ∧ W.cell? ⟨v1.heap.size, 9, none⟩ = some (.int .i64 d2) ∧ W.cell? ⟨v1.heap.size, 10, none⟩ = some (.int .i64 f2) ∧ W.cell? ⟨v1.heap.size, 11, none⟩ = some (.int .i64 k2) ∧ W.cell? ⟨g, 0, none⟩ = some (.int .i64 x) ∧ W.cell? ⟨g, 1, none⟩ = some (.int .i64 y) ∧ W.cell? ⟨g, 2, none⟩ = some (.int .i64 x') ∧ W.cell? ⟨g, 3, none⟩ = some (.int .i64 y') ∧ W.cell? ⟨g, 4, none⟩ = some (.int .i64 n) ∧ W.cell? ⟨h, 0, none⟩ = some (.int .i64 x) ∧ W.cell? ⟨h, 1, none⟩ = some (.int .i64 y) ∧ W.cell? ⟨h, 2, none⟩ = some (.int .i64 x') ∧ W.cell? ⟨h, 3, none⟩ = some (.int .i64 y') ∧ W.cell? ⟨h, 4, none⟩ = some (.int .i64 n)) := fun W hW => by
              have lm := (LM.out.belowS HBr.out).belowS hW
              have cg : ∀ i, i < ml → ∀ q, q < 5 → W.cell? ⟨g, i * 5 + q, none⟩ = (cvs (cs.getD i M.c0))[q]? := fun i hi q hq => (hW.cell (p := ⟨g, i * 5 + q, none⟩) (Nat.lt_of_lt_of_le HGL.out HBr.out.size)).trans ((HBr.out.cell (p := ⟨g, i * 5 + q, none⟩) HGL.out).trans (HG.out i hi q hq))
              have ch : ∀ i, i < ml → ∀ q, q < 5 → W.cell? ⟨h, i * 5 + q, none⟩ = (cvs (cs.getD i M.c0))[q]? := fun i hi q hq => (hW.cell (p := ⟨h, i * 5 + q, none⟩) (Nat.lt_of_lt_of_le HHL.out HBr.out.size)).trans ((HBr.out.cell (p := ⟨h, i * 5 + q, none⟩) HHL.out).trans (HH.out i hi q hq))
              have hg0 := cg 0 (by omega) 0 (by omega)
              have hh0 := ch 0 (by omega) 0 (by omega)
              have hg1 := cg 0 (by omega) 1 (by omega)
              have hh1 := ch 0 (by omega) 1 (by omega)
              have hg2 := cg 0 (by omega) 2 (by omega)
              have hh2 := ch 0 (by omega) 2 (by omega)
              have hg3 := cg 0 (by omega) 3 (by omega)
              have hh3 := ch 0 (by omega) 3 (by omega)
              have hg4 := cg 0 (by omega) 4 (by omega)
              have hh4 := ch 0 (by omega) 4 (by omega)
              rw [HCJ.out] at hg0 hh0 hg1 hh1 hg2 hh2 hg3 hh3 hg4 hh4
              exact ⟨lm.at 0, lm.at 1, lm.at 2, lm.at 3, lm.at 4, lm.at 5, lm.at 6, lm.at 7, lm.at 8, lm.at 9, lm.at 10, lm.at 11, hg0, hg1, hg2, hg3, hg4, hh0, hh1, hh2, hh3, hh4⟩
            have AH : ∀ wc, Below wr.heap.size wr wc → Calls Try.prog 18 #[.agg #[.int .i64 a1, .int .i64 b1, .int .i64 c1, .int .i64 d1, .int .i64 f1, .int .i64 k1, .int .i64 a2, .int .i64 b2, .int .i64 c2, .int .i64 d2, .int .i64 f2, .int .i64 k2], .agg #[.int .i64 x, .int .i64 y, .int .i64 x', .int .i64 y', .int .i64 n]] wc fun e w' => e = .returned (.bool true) ∧ Below wr.heap.size wr w' := fun wc hh => (CH wc).mono fun _ _ h2 => ⟨h2.1, hh.trans (h2.2.mono hh.size)⟩
            have hb0 : Below wr.heap.size wr wr.drew := (Below.refl _ _).drew
            have ne0 : (x == x) = true := by simp
            have nn0 : (x != x) = false := by simp
            have ne1 : (y == y) = true := by simp
            have nn1 : (y != y) = false := by simp
            have ne2 : (x' == x') = true := by simp
            have nn2 : (x' != x') = false := by simp
            have ne3 : (y' == y') = true := by simp
            have nn3 : (y' != y') = false := by simp
            have ne4 : (n == n) = true := by simp
            have nn4 : (n != n) = false := by simp
            go_wp2
            refine wp_region_noPanic ?_
            refine wp_region_held_drew (S := fun W => W.cell? ⟨v1.heap.size, 0, none⟩ = some (.int .i64 a1) ∧ W.cell? ⟨v1.heap.size, 1, none⟩ = some (.int .i64 b1) ∧ W.cell? ⟨v1.heap.size, 2, none⟩ = some (.int .i64 c1) ∧ W.cell? ⟨v1.heap.size, 3, none⟩ = some (.int .i64 d1) ∧ W.cell? ⟨v1.heap.size, 4, none⟩ = some (.int .i64 f1) ∧ W.cell? ⟨v1.heap.size, 5, none⟩ = some (.int .i64 k1) ∧ W.cell? ⟨v1.heap.size, 6, none⟩ = some (.int .i64 a2) ∧ W.cell? ⟨v1.heap.size, 7, none⟩ = some (.int .i64 b2) ∧ W.cell? ⟨v1.heap.size, 8, none⟩ = some (.int .i64 c2) ∧ W.cell? ⟨v1.heap.size, 9, none⟩ = some (.int .i64 d2) ∧ W.cell? ⟨v1.heap.size, 10, none⟩ = some (.int .i64 f2) ∧ W.cell? ⟨v1.heap.size, 11, none⟩ = some (.int .i64 k2) ∧ W.cell? ⟨g, 0, none⟩ = some (.int .i64 x) ∧ W.cell? ⟨g, 1, none⟩ = some (.int .i64 y) ∧ W.cell? ⟨g, 2, none⟩ = some (.int .i64 x') ∧ W.cell? ⟨g, 3, none⟩ = some (.int .i64 y') ∧ W.cell? ⟨g, 4, none⟩ = some (.int .i64 n) ∧ W.cell? ⟨h, 0, none⟩ = some (.int .i64 x) ∧ W.cell? ⟨h, 1, none⟩ = some (.int .i64 y) ∧ W.cell? ⟨h, 2, none⟩ = some (.int .i64 x') ∧ W.cell? ⟨h, 3, none⟩ = some (.int .i64 y') ∧ W.cell? ⟨h, 4, none⟩ = some (.int .i64 n)) (by kernel_rfl) (HK.out _ hb0) (fun hHeld => ?_)
            refine wpAnyH_take (i := 0) (v := .slice (some ⟨g, 0, none⟩) ml lc) rfl (by kernel_rfl) (by kernel_rfl) (by kernel_rfl) (fun _ _ _ h => h) (Or.inl ⟨by kernel_rfl, ?_⟩) (by assumption) ?_
            · intro wq hSq; go_simp
            try simp only [Act.put]
            refine wpAnyH_take (i := 1) (v := .int .i64 0) rfl (by kernel_rfl) (by kernel_rfl) (by kernel_rfl) (fun _ _ _ h => h) (Or.inl ⟨by kernel_rfl, ?_⟩) (by assumption) ?_
            · intro wq hSq; go_simp
            try simp only [Act.put]
            refine wpAnyH_take (i := 2) (v := .pointer (some ⟨g, 0, none⟩)) rfl (by kernel_rfl) (by kernel_rfl) (by kernel_rfl) (fun _ _ _ h => h) (Or.inl ⟨by kernel_rfl, ?_⟩) (by assumption) ?_
            · intro wq hSq; go_simp
            try simp only [Act.put]
            refine wpAnyH_take (i := 3) (v := .agg #[.int .i64 x, .int .i64 y, .int .i64 x', .int .i64 y', .int .i64 n]) rfl (by kernel_rfl) (by kernel_rfl) (by kernel_rfl) (fun _ _ _ h => h) (Or.inl ⟨by kernel_rfl, ?_⟩) (by assumption) ?_
            · intro wq hSq; go_simp
            try simp only [Act.put]
            refine wpAnyH_take (i := 4) (v := .slice (some ⟨h, 0, none⟩) ml mc) rfl (by kernel_rfl) (by kernel_rfl) (by kernel_rfl) (fun _ _ _ h => h) (Or.inl ⟨by kernel_rfl, ?_⟩) (by assumption) ?_
            · intro wq hSq; go_simp
            try simp only [Act.put]
            refine wpAnyH_take (i := 5) (v := .int .i64 0) rfl (by kernel_rfl) (by kernel_rfl) (by kernel_rfl) (fun _ _ _ h => h) (Or.inl ⟨by kernel_rfl, ?_⟩) (by assumption) ?_
            · intro wq hSq; go_simp
            try simp only [Act.put]
            refine wpAnyH_take (i := 6) (v := .pointer (some ⟨h, 0, none⟩)) rfl (by kernel_rfl) (by kernel_rfl) (by kernel_rfl) (fun _ _ _ h => h) (Or.inl ⟨by kernel_rfl, ?_⟩) (by assumption) ?_
            · intro wq hSq; go_simp
            try simp only [Act.put]
            refine wpAnyH_take (i := 7) (v := .agg #[.int .i64 x, .int .i64 y, .int .i64 x', .int .i64 y', .int .i64 n]) rfl (by kernel_rfl) (by kernel_rfl) (by kernel_rfl) (fun _ _ _ h => h) (Or.inl ⟨by kernel_rfl, ?_⟩) (by assumption) ?_
            · intro wq hSq; go_simp
            try simp only [Act.put]
            refine wpAnyH_take (i := 8) (v := .bool false) rfl (by kernel_rfl) (by kernel_rfl) (by kernel_rfl) (fun _ _ _ h => h) (Or.inl ⟨by kernel_rfl, ?_⟩) (by assumption) ?_
            · intro wq hSq; go_simp
            try simp only [Act.put]
            refine wpAnyH_take (i := 9) (v := .bool false) rfl (by kernel_rfl) (by kernel_rfl) (by kernel_rfl) (fun _ _ _ h => h) (Or.inl ⟨by kernel_rfl, ?_⟩) (by assumption) ?_
            · intro wq hSq; go_simp
            try simp only [Act.put]
            refine wpAnyH_take (i := 10) (v := .agg #[.int .i64 a1, .int .i64 b1, .int .i64 c1, .int .i64 d1, .int .i64 f1, .int .i64 k1, .int .i64 a2, .int .i64 b2, .int .i64 c2, .int .i64 d2, .int .i64 f2, .int .i64 k2]) rfl (by kernel_rfl) (by kernel_rfl) (by kernel_rfl) (fun _ _ _ h => h) (Or.inl ⟨by kernel_rfl, ?_⟩) (by assumption) ?_
            · intro wq hSq; go_simp
            try simp only [Act.put]
            refine wpAnyH_take (i := 11) (v := .slice (some ⟨g, 0, none⟩) ml lc) rfl (by kernel_rfl) (by kernel_rfl) (by kernel_rfl) (fun _ _ _ h => h) (Or.inl ⟨by kernel_rfl, ?_⟩) (by assumption) ?_
            · intro wq hSq; go_simp
            try simp only [Act.put]
            refine wpAnyH_take (i := 12) (v := .int .i64 0) rfl (by kernel_rfl) (by kernel_rfl) (by kernel_rfl) (fun _ _ _ h => h) (Or.inl ⟨by kernel_rfl, ?_⟩) (by assumption) ?_
            · intro wq hSq; go_simp
            try simp only [Act.put]
            refine wpAnyH_take (i := 13) (v := .pointer (some ⟨g, 0, none⟩)) rfl (by kernel_rfl) (by kernel_rfl) (by kernel_rfl) (fun _ _ _ h => h) (Or.inl ⟨by kernel_rfl, ?_⟩) (by assumption) ?_
            · intro wq hSq; go_simp
            try simp only [Act.put]
            refine wpAnyH_take (i := 14) (v := .agg #[.int .i64 x, .int .i64 y, .int .i64 x', .int .i64 y', .int .i64 n]) rfl (by kernel_rfl) (by kernel_rfl) (by kernel_rfl) (fun _ _ _ h => h) (Or.inl ⟨by kernel_rfl, ?_⟩) (by assumption) ?_
            · intro wq hSq; go_simp
            try simp only [Act.put]
            refine wpAnyH_ready (rs := [15]) (by kernel_rfl) (by simp) ?_
            refine AllReadyH.cons rfl (fun K hK => ?_) AllReadyH.nil
            go_simp
            refine (AH _ hb0).mono ?_
            rintro e w7 ⟨rfl, hbb⟩
            go_simp
            refine hK.out _ _ ?_ (fun hHeld => ?_)
            · exact HK.out _ hbb
            clear hK K
            try simp only [Act.put]
            refine wpAnyH_take (i := 16) (v := .bool false) rfl (by kernel_rfl) (by kernel_rfl) (by kernel_rfl) (fun _ _ _ h => h) (Or.inl ⟨by kernel_rfl, ?_⟩) (by assumption) ?_
            · intro wq hSq; go_simp
            try simp only [Act.put]
            refine wpAnyH_take (i := 17) (v := .bool false) rfl (by kernel_rfl) (by kernel_rfl) (by kernel_rfl) (fun _ _ _ h => h) (Or.inl ⟨by kernel_rfl, ?_⟩) (by assumption) ?_
            · intro wq hSq; go_simp
            try simp only [Act.put]
            refine wpAnyH_take (i := 18) (v := .bool false) rfl (by kernel_rfl) (by kernel_rfl) (by kernel_rfl) (fun _ _ _ h => h) (Or.inl ⟨by kernel_rfl, ?_⟩) (by assumption) ?_
            · intro wq hSq; go_simp
            try simp only [Act.put]
            refine wpAnyH_take (i := 19) (v := .int .i64 0) rfl (by kernel_rfl) (by kernel_rfl) (by kernel_rfl) (fun _ _ _ h => h) (Or.inl ⟨by kernel_rfl, ?_⟩) (by assumption) ?_
            · intro wq hSq; go_simp
            try simp only [Act.put]
            refine wpAnyH_take (i := 20) (v := .bool false) rfl (by kernel_rfl) (by kernel_rfl) (by kernel_rfl) (fun _ _ _ h => h) (Or.inl ⟨by kernel_rfl, ?_⟩) (by assumption) ?_
            · intro wq hSq; go_simp
            try simp only [Act.put]
            refine wpAnyH_take (i := 21) (v := .bool false) rfl (by kernel_rfl) (by kernel_rfl) (by kernel_rfl) (fun _ _ _ h => h) (Or.inl ⟨by kernel_rfl, ?_⟩) (by assumption) ?_
            · intro wq hSq; go_simp
            try simp only [Act.put]
            refine wpAnyH_take (i := 22) (v := undef) rfl (by kernel_rfl) (by kernel_rfl) (by kernel_rfl) (fun _ _ _ h => h) (Or.inr ⟨by kernel_rfl, rfl⟩) (by assumption) ?_
            try simp only [Act.put]
            refine wpAnyH_take (i := 23) (v := undef) rfl (by kernel_rfl) (by kernel_rfl) (by kernel_rfl) (fun _ _ _ h => h) (Or.inr ⟨by kernel_rfl, rfl⟩) (by assumption) ?_
            try simp only [Act.put]
            refine wpAnyH_take (i := 24) (v := undef) rfl (by kernel_rfl) (by kernel_rfl) (by kernel_rfl) (fun _ _ _ h => h) (Or.inr ⟨by kernel_rfl, rfl⟩) (by assumption) ?_
            try simp only [Act.put]
            refine wpAnyH_take (i := 25) (v := undef) rfl (by kernel_rfl) (by kernel_rfl) (by kernel_rfl) (fun _ _ _ h => h) (Or.inr ⟨by kernel_rfl, rfl⟩) (by assumption) ?_
            try simp only [Act.put]
            refine wpAnyH_take (i := 26) (v := undef) rfl (by kernel_rfl) (by kernel_rfl) (by kernel_rfl) (fun _ _ _ h => h) (Or.inr ⟨by kernel_rfl, rfl⟩) (by assumption) ?_
            try simp only [Act.put]
            refine wpAnyH_take (i := 27) (v := undef) rfl (by kernel_rfl) (by kernel_rfl) (by kernel_rfl) (fun _ _ _ h => h) (Or.inr ⟨by kernel_rfl, rfl⟩) (by assumption) ?_
            try simp only [Act.put]
            refine wpAnyH_take (i := 28) (v := undef) rfl (by kernel_rfl) (by kernel_rfl) (by kernel_rfl) (fun _ _ _ h => h) (Or.inr ⟨by kernel_rfl, rfl⟩) (by assumption) ?_
            try simp only [Act.put]
            refine wpAnyH_take (i := 29) (v := undef) rfl (by kernel_rfl) (by kernel_rfl) (by kernel_rfl) (fun _ _ _ h => h) (Or.inr ⟨by kernel_rfl, rfl⟩) (by assumption) ?_
            try simp only [Act.put]
            refine wpAnyH_take (i := 30) (v := undef) rfl (by kernel_rfl) (by kernel_rfl) (by kernel_rfl) (fun _ _ _ h => h) (Or.inr ⟨by kernel_rfl, rfl⟩) (by assumption) ?_
            try simp only [Act.put]
            refine wpAnyH_take (i := 31) (v := undef) rfl (by kernel_rfl) (by kernel_rfl) (by kernel_rfl) (fun _ _ _ h => h) (Or.inr ⟨by kernel_rfl, rfl⟩) (by assumption) ?_
            try simp only [Act.put]
            refine wpAnyH_take (i := 32) (v := undef) rfl (by kernel_rfl) (by kernel_rfl) (by kernel_rfl) (fun _ _ _ h => h) (Or.inr ⟨by kernel_rfl, rfl⟩) (by assumption) ?_
            try simp only [Act.put]
            refine wpAnyH_take (i := 33) (v := undef) rfl (by kernel_rfl) (by kernel_rfl) (by kernel_rfl) (fun _ _ _ h => h) (Or.inr ⟨by kernel_rfl, rfl⟩) (by assumption) ?_
            try simp only [Act.put]
            refine wpAnyH_take (i := 34) (v := .bool false) rfl (by kernel_rfl) (by kernel_rfl) (by kernel_rfl) (fun _ _ _ h => h) (Or.inl ⟨by kernel_rfl, ?_⟩) (by assumption) ?_
            · intro wq hSq; go_simp
            try simp only [Act.put]
            refine wpAnyH_take (i := 35) (v := .bool false) rfl (by kernel_rfl) (by kernel_rfl) (by kernel_rfl) (fun _ _ _ h => h) (Or.inl ⟨by kernel_rfl, ?_⟩) (by assumption) ?_
            · intro wq hSq; go_simp
            try simp only [Act.put]
            refine wpAnyH_done (by kernel_rfl) ?_ _
            refine NoPanic.normal ?_
            go_simp
            have HB7 : Hid (Below wr.heap.size wr w7) := hbb
            clear hbb
            go_wp2
            go_roundw
            case rel => exact ⟨0 + 1, by omega, by go_num, HBr.out.trans (HB7.out.mono HBr.out.size)⟩
            case measure => simp [intOf]; omega
          · have hjp : (0 : Int) < (j : Int) := by omega
            have hjN : 0 < j := by omega
            have hjw : IntKind.i64.wrap ((j : Int) - 1) = (j : Int) - 1 := by rw [IntKind.wrap_i64]; omega
            have hjt : ((j : Int) - 1).toNat = j - 1 := by omega
            have hj1 : (j : Int) - 1 < (ml : Int) := by omega
            have hj2 : (0 : Int) ≤ (j : Int) - 1 := by omega
            have hj3 : (1 : Int) ≤ (j : Int) := by omega
            have hj4 : (j : Int) ≤ (ml : Int) := by omega
            have hj5 : 1 ≤ j := by omega
            have hj6 : j ≤ ml := by omega
            have HPR : Hid ((x, y) = (cs.getD (j - 1) M.c0).e) := HPR0.out (by omega)
            clear HPR0
            have HK : Hid (∀ W, Below wr.heap.size wr W → W.cell? ⟨v1.heap.size, 0, none⟩ = some (.int .i64 a1) ∧ W.cell? ⟨v1.heap.size, 1, none⟩ = some (.int .i64 b1) ∧ W.cell? ⟨v1.heap.size, 2, none⟩ = some (.int .i64 c1) ∧ W.cell? ⟨v1.heap.size, 3, none⟩ = some (.int .i64 d1) ∧ W.cell? ⟨v1.heap.size, 4, none⟩ = some (.int .i64 f1) ∧ W.cell? ⟨v1.heap.size, 5, none⟩ = some (.int .i64 k1) ∧ W.cell? ⟨v1.heap.size, 6, none⟩ = some (.int .i64 a2) ∧ W.cell? ⟨v1.heap.size, 7, none⟩ = some (.int .i64 b2) ∧ W.cell? ⟨v1.heap.size, 8, none⟩ = some (.int .i64 c2) ∧ W.cell? ⟨v1.heap.size, 9, none⟩ = some (.int .i64 d2) ∧ W.cell? ⟨v1.heap.size, 10, none⟩ = some (.int .i64 f2) ∧ W.cell? ⟨v1.heap.size, 11, none⟩ = some (.int .i64 k2) ∧ W.cell? ⟨g, j * 5, none⟩ = some (.int .i64 x) ∧ W.cell? ⟨g, j * 5 + 1, none⟩ = some (.int .i64 y) ∧ W.cell? ⟨g, j * 5 + 2, none⟩ = some (.int .i64 x') ∧ W.cell? ⟨g, j * 5 + 3, none⟩ = some (.int .i64 y') ∧ W.cell? ⟨g, j * 5 + 4, none⟩ = some (.int .i64 n) ∧ W.cell? ⟨h, j * 5, none⟩ = some (.int .i64 x) ∧ W.cell? ⟨h, j * 5 + 1, none⟩ = some (.int .i64 y) ∧ W.cell? ⟨h, j * 5 + 2, none⟩ = some (.int .i64 x') ∧ W.cell? ⟨h, j * 5 + 3, none⟩ = some (.int .i64 y') ∧ W.cell? ⟨h, j * 5 + 4, none⟩ = some (.int .i64 n) ∧ W.cell? ⟨g, (j - 1) * 5 + 2, none⟩ = some (.int .i64 x) ∧ W.cell? ⟨g, (j - 1) * 5 + 3, none⟩ = some (.int .i64 y)) := fun W hW => by
              have lm := (LM.out.belowS HBr.out).belowS hW
              have cg : ∀ i, i < ml → ∀ q, q < 5 → W.cell? ⟨g, i * 5 + q, none⟩ = (cvs (cs.getD i M.c0))[q]? := fun i hi q hq => (hW.cell (p := ⟨g, i * 5 + q, none⟩) (Nat.lt_of_lt_of_le HGL.out HBr.out.size)).trans ((HBr.out.cell (p := ⟨g, i * 5 + q, none⟩) HGL.out).trans (HG.out i hi q hq))
              have ch : ∀ i, i < ml → ∀ q, q < 5 → W.cell? ⟨h, i * 5 + q, none⟩ = (cvs (cs.getD i M.c0))[q]? := fun i hi q hq => (hW.cell (p := ⟨h, i * 5 + q, none⟩) (Nat.lt_of_lt_of_le HHL.out HBr.out.size)).trans ((HBr.out.cell (p := ⟨h, i * 5 + q, none⟩) HHL.out).trans (HH.out i hi q hq))
              have hg0 := cg j (by omega) 0 (by omega)
              have hh0 := ch j (by omega) 0 (by omega)
              have hg1 := cg j (by omega) 1 (by omega)
              have hh1 := ch j (by omega) 1 (by omega)
              have hg2 := cg j (by omega) 2 (by omega)
              have hh2 := ch j (by omega) 2 (by omega)
              have hg3 := cg j (by omega) 3 (by omega)
              have hh3 := ch j (by omega) 3 (by omega)
              have hg4 := cg j (by omega) 4 (by omega)
              have hh4 := ch j (by omega) 4 (by omega)
              rw [HCJ.out] at hg0 hh0 hg1 hh1 hg2 hh2 hg3 hh3 hg4 hh4
              have hp2 := cg (j - 1) (by omega) 2 (by omega)
              have hp3 := cg (j - 1) (by omega) 3 (by omega)
              rw [show (cvs (cs.getD (j - 1) M.c0))[2]? = some (.int .i64 (cs.getD (j - 1) M.c0).e.1) from rfl, ← HPR.out] at hp2
              rw [show (cvs (cs.getD (j - 1) M.c0))[3]? = some (.int .i64 (cs.getD (j - 1) M.c0).e.2) from rfl, ← HPR.out] at hp3
              exact ⟨lm.at 0, lm.at 1, lm.at 2, lm.at 3, lm.at 4, lm.at 5, lm.at 6, lm.at 7, lm.at 8, lm.at 9, lm.at 10, lm.at 11, hg0, hg1, hg2, hg3, hg4, hh0, hh1, hh2, hh3, hh4, hp2, hp3⟩
            have AH : ∀ wc, Below wr.heap.size wr wc → Calls Try.prog 18 #[.agg #[.int .i64 a1, .int .i64 b1, .int .i64 c1, .int .i64 d1, .int .i64 f1, .int .i64 k1, .int .i64 a2, .int .i64 b2, .int .i64 c2, .int .i64 d2, .int .i64 f2, .int .i64 k2], .agg #[.int .i64 x, .int .i64 y, .int .i64 x', .int .i64 y', .int .i64 n]] wc fun e w' => e = .returned (.bool true) ∧ Below wr.heap.size wr w' := fun wc hh => (CH wc).mono fun _ _ h2 => ⟨h2.1, hh.trans (h2.2.mono hh.size)⟩
            have hb0 : Below wr.heap.size wr wr.drew := (Below.refl _ _).drew
            have ne0 : (x == x) = true := by simp
            have nn0 : (x != x) = false := by simp
            have ne1 : (y == y) = true := by simp
            have nn1 : (y != y) = false := by simp
            have ne2 : (x' == x') = true := by simp
            have nn2 : (x' != x') = false := by simp
            have ne3 : (y' == y') = true := by simp
            have nn3 : (y' != y') = false := by simp
            have ne4 : (n == n) = true := by simp
            have nn4 : (n != n) = false := by simp
            go_wp2
            go_region_held3 (fun W => W.cell? ⟨v1.heap.size, 0, none⟩ = some (.int .i64 a1) ∧ W.cell? ⟨v1.heap.size, 1, none⟩ = some (.int .i64 b1) ∧ W.cell? ⟨v1.heap.size, 2, none⟩ = some (.int .i64 c1) ∧ W.cell? ⟨v1.heap.size, 3, none⟩ = some (.int .i64 d1) ∧ W.cell? ⟨v1.heap.size, 4, none⟩ = some (.int .i64 f1) ∧ W.cell? ⟨v1.heap.size, 5, none⟩ = some (.int .i64 k1) ∧ W.cell? ⟨v1.heap.size, 6, none⟩ = some (.int .i64 a2) ∧ W.cell? ⟨v1.heap.size, 7, none⟩ = some (.int .i64 b2) ∧ W.cell? ⟨v1.heap.size, 8, none⟩ = some (.int .i64 c2) ∧ W.cell? ⟨v1.heap.size, 9, none⟩ = some (.int .i64 d2) ∧ W.cell? ⟨v1.heap.size, 10, none⟩ = some (.int .i64 f2) ∧ W.cell? ⟨v1.heap.size, 11, none⟩ = some (.int .i64 k2) ∧ W.cell? ⟨g, j * 5, none⟩ = some (.int .i64 x) ∧ W.cell? ⟨g, j * 5 + 1, none⟩ = some (.int .i64 y) ∧ W.cell? ⟨g, j * 5 + 2, none⟩ = some (.int .i64 x') ∧ W.cell? ⟨g, j * 5 + 3, none⟩ = some (.int .i64 y') ∧ W.cell? ⟨g, j * 5 + 4, none⟩ = some (.int .i64 n) ∧ W.cell? ⟨h, j * 5, none⟩ = some (.int .i64 x) ∧ W.cell? ⟨h, j * 5 + 1, none⟩ = some (.int .i64 y) ∧ W.cell? ⟨h, j * 5 + 2, none⟩ = some (.int .i64 x') ∧ W.cell? ⟨h, j * 5 + 3, none⟩ = some (.int .i64 y') ∧ W.cell? ⟨h, j * 5 + 4, none⟩ = some (.int .i64 n) ∧ W.cell? ⟨g, (j - 1) * 5 + 2, none⟩ = some (.int .i64 x) ∧ W.cell? ⟨g, (j - 1) * 5 + 3, none⟩ = some (.int .i64 y)) (first | with_reducible exact HK.out _ hbb | with_reducible exact HK.out _ hb0)
              (first
                | (go_at_call 18; refine (AH _ (by first | with_reducible exact hb0 | with_reducible exact hbb)).mono ?_; rintro e w7 ⟨rfl, hbb⟩))
            all_goals
              have HB7 : Hid (Below wr.heap.size wr w7) := hbb
              clear hbb
              go_wp2
              go_roundw
              case rel => exact ⟨j + 1, by omega, by go_num, HBr.out.trans (HB7.out.mono HBr.out.size)⟩
              case measure => simp [intOf]; omega
        · have hjn : j = ml := by omega
          subst hjn
          have CJ := implJoinedAll_any wr (HO3.out.below HBr.out)
          rw [HP2.out, HP3.out] at CJ
          dsimp only [clv] at CJ
          go_wp2_with fail
          refine CJ.mono ?_
          rintro e v5 ⟨rfl, hb5⟩
          have LM5 : Hid (Lies (v5.alloc (.cells #[.int .i64 e1, .int .i64 e2, .int .i64 af1, .int .i64 af2, .int .i64 (many * (rows - 1))] 39)) v1.heap.size [.int .i64 a1, .int .i64 b1, .int .i64 c1, .int .i64 d1, .int .i64 f1, .int .i64 k1, .int .i64 a2, .int .i64 b2, .int .i64 c2, .int .i64 d2, .int .i64 f2, .int .i64 k2]) := ((LM.out.belowS HBr.out).belowS hb5).alloc _
          have LS5 : Hid (Lies (v5.alloc (.cells #[.int .i64 e1, .int .i64 e2, .int .i64 af1, .int .i64 af2, .int .i64 (many * (rows - 1))] 39)) (v1.heap.size + 1) [.int .i64 e1, .int .i64 e2]) := ((LS.out.belowS HBr.out).belowS hb5).alloc _
          have LC5 : Hid (Lies (v5.alloc (.cells #[.int .i64 e1, .int .i64 e2, .int .i64 af1, .int .i64 af2, .int .i64 (many * (rows - 1))] 39)) v5.heap.size [.int .i64 e1, .int .i64 e2, .int .i64 af1, .int .i64 af2, .int .i64 (many * (rows - 1))]) := lies_new _ _ _
          have HB5 : Hid (Below w.heap.size w (v5.alloc (.cells #[.int .i64 e1, .int .i64 e2, .int .i64 af1, .int .i64 af2, .int .i64 (many * (rows - 1))] 39))) := (HB3.out.trans ((HBr.out.trans (hb5.mono HBr.out.size)).mono HB3.out.size)).alloc (Nat.le_trans HB3.out.size (Nat.le_trans HBr.out.size hb5.size)) _
          have hpm : 0 ≤ many * (rows - 1) ∧ many * (rows - 1) ≤ 120 := by
            have h1 : many * (rows - 1) ≤ 8 * (rows - 1) := Int.mul_le_mul_of_nonneg_right (by omega) (by omega)
            have h2 : 0 ≤ many * (rows - 1) := Int.mul_nonneg (by omega) (by omega)
            omega
          have hpw : IntKind.i64.wrap (many * (rows - 1)) = many * (rows - 1) := by rw [IntKind.wrap_i64]; omega
          have hp0 : 0 ≤ many * (rows - 1) := hpm.1
          have hp1 : many * (rows - 1) ≤ 120 := hpm.2
          clear hb5 hpm CJ
          have fm0 : (v5.alloc (.cells #[.int .i64 e1, .int .i64 e2, .int .i64 af1, .int .i64 af2, .int .i64 (many * (rows - 1))] 39)).cell? ⟨v1.heap.size, 0, none⟩ = some (.int .i64 a1) := LM5.out.at 0
          have fm1 : (v5.alloc (.cells #[.int .i64 e1, .int .i64 e2, .int .i64 af1, .int .i64 af2, .int .i64 (many * (rows - 1))] 39)).cell? ⟨v1.heap.size, 1, none⟩ = some (.int .i64 b1) := LM5.out.at 1
          have fm2 : (v5.alloc (.cells #[.int .i64 e1, .int .i64 e2, .int .i64 af1, .int .i64 af2, .int .i64 (many * (rows - 1))] 39)).cell? ⟨v1.heap.size, 2, none⟩ = some (.int .i64 c1) := LM5.out.at 2
          have fm3 : (v5.alloc (.cells #[.int .i64 e1, .int .i64 e2, .int .i64 af1, .int .i64 af2, .int .i64 (many * (rows - 1))] 39)).cell? ⟨v1.heap.size, 3, none⟩ = some (.int .i64 d1) := LM5.out.at 3
          have fm4 : (v5.alloc (.cells #[.int .i64 e1, .int .i64 e2, .int .i64 af1, .int .i64 af2, .int .i64 (many * (rows - 1))] 39)).cell? ⟨v1.heap.size, 4, none⟩ = some (.int .i64 f1) := LM5.out.at 4
          have fm5 : (v5.alloc (.cells #[.int .i64 e1, .int .i64 e2, .int .i64 af1, .int .i64 af2, .int .i64 (many * (rows - 1))] 39)).cell? ⟨v1.heap.size, 5, none⟩ = some (.int .i64 k1) := LM5.out.at 5
          have fm6 : (v5.alloc (.cells #[.int .i64 e1, .int .i64 e2, .int .i64 af1, .int .i64 af2, .int .i64 (many * (rows - 1))] 39)).cell? ⟨v1.heap.size, 6, none⟩ = some (.int .i64 a2) := LM5.out.at 6
          have fm7 : (v5.alloc (.cells #[.int .i64 e1, .int .i64 e2, .int .i64 af1, .int .i64 af2, .int .i64 (many * (rows - 1))] 39)).cell? ⟨v1.heap.size, 7, none⟩ = some (.int .i64 b2) := LM5.out.at 7
          have fm8 : (v5.alloc (.cells #[.int .i64 e1, .int .i64 e2, .int .i64 af1, .int .i64 af2, .int .i64 (many * (rows - 1))] 39)).cell? ⟨v1.heap.size, 8, none⟩ = some (.int .i64 c2) := LM5.out.at 8
          have fm9 : (v5.alloc (.cells #[.int .i64 e1, .int .i64 e2, .int .i64 af1, .int .i64 af2, .int .i64 (many * (rows - 1))] 39)).cell? ⟨v1.heap.size, 9, none⟩ = some (.int .i64 d2) := LM5.out.at 9
          have fm10 : (v5.alloc (.cells #[.int .i64 e1, .int .i64 e2, .int .i64 af1, .int .i64 af2, .int .i64 (many * (rows - 1))] 39)).cell? ⟨v1.heap.size, 10, none⟩ = some (.int .i64 f2) := LM5.out.at 10
          have fm11 : (v5.alloc (.cells #[.int .i64 e1, .int .i64 e2, .int .i64 af1, .int .i64 af2, .int .i64 (many * (rows - 1))] 39)).cell? ⟨v1.heap.size, 11, none⟩ = some (.int .i64 k2) := LM5.out.at 11
          have fs0 : (v5.alloc (.cells #[.int .i64 e1, .int .i64 e2, .int .i64 af1, .int .i64 af2, .int .i64 (many * (rows - 1))] 39)).cell? ⟨v1.heap.size + 1, 0, none⟩ = some (.int .i64 e1) := LS5.out.at 0
          have fs1 : (v5.alloc (.cells #[.int .i64 e1, .int .i64 e2, .int .i64 af1, .int .i64 af2, .int .i64 (many * (rows - 1))] 39)).cell? ⟨v1.heap.size + 1, 1, none⟩ = some (.int .i64 e2) := LS5.out.at 1
          go_wp2_with fail
          refine (CA _).mono ?_
          rintro e v6 ⟨rfl, hb6⟩
          have LS6 := (LS5.out.belowS hb6).alloc (.cells #[.int .i64 af1, .int .i64 af2] 35)
          have LC6 := (LC5.out.belowS hb6).alloc (.cells #[.int .i64 af1, .int .i64 af2] 35)
          have LA6 := lies_new v6 #[.int .i64 af1, .int .i64 af2] 35
          have HB6 : Hid (Below w.heap.size w (v6.alloc (.cells #[.int .i64 af1, .int .i64 af2] 35))) := (HB5.out.trans (hb6.mono HB5.out.size)).alloc (Nat.le_trans HB5.out.size hb6.size) _
          have u0 : (v6.alloc (.cells #[.int .i64 af1, .int .i64 af2] 35)).cell? ⟨v1.heap.size + 1, 0, none⟩ = some (.int .i64 e1) := LS6.at 0
          have u1 : (v6.alloc (.cells #[.int .i64 af1, .int .i64 af2] 35)).cell? ⟨v1.heap.size + 1, 1, none⟩ = some (.int .i64 e2) := LS6.at 1
          have c0 : (v6.alloc (.cells #[.int .i64 af1, .int .i64 af2] 35)).cell? ⟨v5.heap.size, 0, none⟩ = some (.int .i64 e1) := LC6.at 0
          have c1 : (v6.alloc (.cells #[.int .i64 af1, .int .i64 af2] 35)).cell? ⟨v5.heap.size, 1, none⟩ = some (.int .i64 e2) := LC6.at 1
          have c2 : (v6.alloc (.cells #[.int .i64 af1, .int .i64 af2] 35)).cell? ⟨v5.heap.size, 2, none⟩ = some (.int .i64 af1) := LC6.at 2
          have c3 : (v6.alloc (.cells #[.int .i64 af1, .int .i64 af2] 35)).cell? ⟨v5.heap.size, 3, none⟩ = some (.int .i64 af2) := LC6.at 3
          have c4 : (v6.alloc (.cells #[.int .i64 af1, .int .i64 af2] 35)).cell? ⟨v5.heap.size, 4, none⟩ = some (.int .i64 (many * (rows - 1))) := LC6.at 4
          have d0 : (v6.alloc (.cells #[.int .i64 af1, .int .i64 af2] 35)).cell? ⟨v6.heap.size, 0, none⟩ = some (.int .i64 af1) := LA6.at 0
          have d1 : (v6.alloc (.cells #[.int .i64 af1, .int .i64 af2] 35)).cell? ⟨v6.heap.size, 1, none⟩ = some (.int .i64 af2) := LA6.at 1
          have ne0 : (e1 == e1) = true := by simp
          have ne1 : (e2 == e2) = true := by simp
          have ne2 : (af1 == af1) = true := by simp
          have ne3 : (af2 == af2) = true := by simp
          have ne4 : (many * (rows - 1) == many * (rows - 1)) = true := by simp
          clear hb6 LS6 LC6 LA6 LM5 LS5 LC5 HB5 fm0 fm1 fm2 fm3 fm4 fm5 fm6 fm7 fm8 fm9 fm10 fm11 fs0 fs1
          go_wp2
          go_ret
          exact ⟨by simp, HB6.out⟩

set_option maxRecDepth 100000 in
theorem lifted (os : Os) (started : os.Started) (H : Type) (enc : TypeId × Value → H) :
    ReturnsInHanded {} Try.checked os 5 .any (Rows.fnCutSpec.pre6 enc Try.prog Try.f5 Rows.fnCutRow.domain false) (Rows.fnCutSpec.post enc Try.prog Try.f5 false true false false) := by
  refine returnsInHanded_of_change (C := Try.checked) own started (by kernel_rfl) Try.func5
    (ChangeSpec.witness6 (enc := enc) (C := Try.checked) false ⟨#[], #[.slice none 0 0], []⟩ 8 (by kernel_rfl) (by kernel_rfl) (by kernel_rfl) (by kernel_rfl)) ?_
  intro W base args ds gs before hval0 hW hcnd _
  have hval : ∀ (j : Nat) t v, Try.f5.params[j]? = some t → args[j]? = some v → Value.okWide Try.prog W .any base t v := hval0
  have hW' := hW
  obtain ⟨p, q, hA0, hV, rfl, hfz, hnd⟩ := hW
  have hA : DataW.TrodAll enc Try.prog W 0 (fun _ => true) true Try.f5.params.toList args.toList ds p := hA0
  rw [Try.params5] at hA hval
  obtain ⟨v0, vs0, d0, ds0, p0, q0, hargs, rfl, rfl, h0, r0⟩ := trodAll_cons hA
  obtain ⟨rfl, rfl, rfl⟩ := trodAll_nil r0
  obtain rfl : args = #[v0] := by cases args; simp_all
  obtain ⟨rfl, rfl⟩ := trodVars_none hV
  obtain ⟨a0, len0, cap0, rfl⟩ := okWide_slice Try.underlying22 (hval 0 22 v0 rfl rfl)
  have k0 := h0
  have lt0 : ∀ x ∈ p0, x.block < W.heap.size := by obtain ⟨m, hm⟩ := k0; exact DataW.trod_lt m _ _ _ hm
  obtain ⟨z0, w0⟩ : ∃ zs, IsRow .u8 W a0 len0 cap0 zs := by
    obtain ⟨fuel, hf⟩ := h0
    rcases open_ints Try.underlying22 Try.underlying5 (by kernel_rfl) hf with ⟨hcs, _⟩ | ⟨x, l, c, zs, hcs, _, hl, hm, hz, _, hcell, hwz⟩
    · simp [Value.cells] at hcs
      obtain ⟨rfl, rfl, rfl⟩ := hcs
      exact ⟨[], .inl ⟨rfl, rfl, rfl, rfl⟩⟩
    · simp [Value.cells] at hcs
      obtain ⟨rfl, rfl, rfl⟩ := hcs
      exact ⟨zs, .inr ⟨_, rfl, hl, hm, by simpa using hz, hcell, hwz⟩⟩
  clear hA0 hval0
  refine (walk a0 len0 cap0 z0 W w0).mono fun e W' ⟨he, bel⟩ => ?_
  subst he
  exact ⟨_, rfl, _, _, _, [], _, [], hW', trodAll_mk1 (shut_bool Try.underlying4 _), (trodAll_cons_mk (Below.trod laidOut (by kernel_rfl) (of_decide_eq_true (by kernel_rfl)) k0 bel lt0) trodAll_mk0), rfl, bel.frame _, fun h => by cases h⟩

theorem over : Rows.fnCutRow.holds Try.pinned (OpenSpec.ofChange Rows.fnCutSpec) :=
  OpenClaim.holds_of_wide 5 Try.f5 rfl rfl rfl rfl rfl rfl rfl ⟨rfl, rfl, rfl, rfl, rfl⟩ rfl rfl rfl rfl rfl (by kernel_rfl) Try.func5 (by kernel_rfl)
    (of_decide_eq_true (by kernel_rfl)) (by unfold Func.isWrapper; first | (rw [if_pos (by decide +kernel)]; kernel_rfl) | (rw [if_neg (by decide +kernel)]; exact ⟨rfl, rfl⟩))
    (fun os started H enc _ => lifted os started H enc)

theorem proved : Rows.FnCutSaid := over
end Go.Proofs.Ytjeoenieoejolac.fnCut
namespace Go.Proofs.Ytjeoenieoejolac
theorem fnCut_holds : Rows.FnCutSaid := fnCut.proved
#print axioms fnCut_holds
end Go.Proofs.Ytjeoenieoejolac
