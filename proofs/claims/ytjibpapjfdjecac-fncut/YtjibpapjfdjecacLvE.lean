/- Claims joined as a tree, in the program. -/
import Derived.Test.YtjibpapjfdjecacLvD
namespace Go.Proofs.Ytjibpapjfdjecac
open Go.RowKit

def M.Leveled (n : Nat) (cs : List M.Cl) (v : Value) : Prop := ∃ (X : List M.Cl) (k : Nat) (o : Bool), v = .tuple #[lvv X k, .bool o] ∧ X.length = 40 ∧ k ≤ 40 ∧ (o = true → 1 ≤ n ∧ n ≤ 40 ∧ k = n ∧ X.take k = cs) ∧ (o = false → M.allOk cs = false)
def LjR (cs : List M.Cl) (w : World) (L : Nat) (ok : Value) (wr : World) : Prop := ∃ (o : Bool) (xs : List M.Cl) (k : Nat), ok = .bool o ∧ xs.length = 40 ∧ k ≤ 40 ∧ Lies wr w.heap.size [.int .i64 0, .int .i64 0, .int .i64 0, .int .i64 0, .int .i64 0] ∧ Lies wr L (lvs xs k) ∧ (o = true → 1 ≤ cs.length ∧ cs.length ≤ 40 ∧ M.Same cs (xs.take k)) ∧ (o = false → M.allOk cs = false) ∧ Below w.heap.size w wr
def LjM (L : Nat) (wr : World) : Nat := (intOf ((wr.cell? ⟨L, 200, none⟩).getD (.bool false))).toNat
theorem ljm_of {L : Nat} {wr : World} {xs : List M.Cl} {k : Nat} (hx : xs.length = 40) (h : Lies wr L (lvs xs k)) : LjM L wr = k := by
  unfold LjM; rw [h.at 200, lvs_many hx]; simp [intOf]
theorem M.allOk_in {cs : List M.Cl} (h1 : 1 ≤ cs.length) (h2 : cs.length ≤ 40) : M.allOk cs = M.chain cs := by
  unfold M.allOk; rw [decide_eq_true h1, decide_eq_true h2]; rfl
theorem M.allOk_no {cs : List M.Cl} (h : cs.length < 1 ∨ 40 < cs.length) : M.allOk cs = false := by
  unfold M.allOk
  rcases h with h | h
  · rw [decide_eq_false (by omega)]; rfl
  · rw [decide_eq_false (show ¬ cs.length ≤ 40 by omega)]; simp
theorem M.clOk_c0 : M.clOk M.c0 = false := by decide
theorem claimLevelOf_any {a : Option Addr} {n cap : Nat} {cs : List M.Cl} (w : World) (hs : SeesC w a n cap cs) :
    Calls Try.prog 43 #[.slice a n cap] w fun e w' => ∃ v, e = .returned v ∧ M.Leveled n cs v ∧ Below w.heap.size w w' := by
  have hl := hs.len
  by_cases h : 1 ≤ n ∧ n ≤ 40
  · obtain ⟨b, off, rfl, -⟩ := hs.at (by omega)
    refine (claimLevelOf_yes w hs h.1 h.2).mono ?_
    rintro e w' ⟨rfl, hb⟩
    exact ⟨_, rfl, ⟨_, n, true, rfl, len_z40 (by omega), h.2, fun _ => ⟨h.1, h.2, rfl, by rw [← hl]; exact take_z40⟩, fun h => by simp at h⟩, hb⟩
  · have hb := hs.big
    have hle := hs.le
    refine (claimLevelOf_no w (by omega) (by omega)).mono ?_
    rintro e w' ⟨rfl, hb⟩
    exact ⟨_, rfl, ⟨_, 0, false, rfl, z40_len, by omega, fun h => by simp at h, fun _ => M.allOk_no (by omega)⟩, hb⟩
set_option maxHeartbeats 4000000 in
set_option maxRecDepth 100000 in
theorem implJoinedAll_any {a : Option Addr} {n cap : Nat} {cs : List M.Cl} (w : World) (hs : SeesC w a n cap cs) :
    Calls Try.prog 20 #[.slice a n cap] w fun e w' => e = .returned (.tuple #[clv (M.allv cs), .bool (M.allOk cs)]) ∧ Below w.heap.size w w' := by
  have hcl : cs.length = n := hs.len
  have HB0 : Hid (Below w.heap.size w (w.alloc (.cells #[.int .i64 0, .int .i64 0, .int .i64 0, .int .i64 0, .int .i64 0] 39))) := (Below.refl _ _).alloc (Nat.le_refl _) _
  have HC := claimLevelOf_any (w.alloc (.cells #[.int .i64 0, .int .i64 0, .int .i64 0, .int .i64 0, .int .i64 0] 39)) (hs.below HB0.out)
  have LZ0 : Hid (Lies (w.alloc (.cells #[.int .i64 0, .int .i64 0, .int .i64 0, .int .i64 0, .int .i64 0] 39)) w.heap.size [.int .i64 0, .int .i64 0, .int .i64 0, .int .i64 0, .int .i64 0]) := lies_new _ _ _
  clear hs
  go_enter Try.func20, Try.ntmps20
  go_wp2_with fail
  refine HC.mono ?_
  rintro e w1 ⟨v, rfl, ⟨X, k, o, rfl, hX, hk, hyes, hno⟩, hb1⟩
  have HB1 : Hid (Below w.heap.size w (w1.alloc (.cells Try.zeroCells78 78))) := (HB0.out.trans (hb1.mono HB0.out.size)).alloc (Nat.le_trans HB0.out.size hb1.size) _
  have LZ1 : Hid (Lies (w1.alloc (.cells Try.zeroCells78 78)) w.heap.size [.int .i64 0, .int .i64 0, .int .i64 0, .int .i64 0, .int .i64 0]) := (LZ0.out.belowS hb1).alloc _
  have LL1 : Hid (Lies (w1.alloc (.cells Try.zeroCells78 78)) w1.heap.size (lvs M.z40 0)) := lies_zc w1
  have HZ : Hid (w.heap.size < w1.heap.size) := (LZ0.out.belowS hb1).2.2
  have HX : Hid (X.length = 40) := hX
  have HY : Hid (o = true → 1 ≤ n ∧ n ≤ 40 ∧ k = n ∧ X.take k = cs) := hyes
  have HN : Hid (o = false → M.allOk cs = false) := hno
  have HCL : Hid (cs.length = n) := hcl
  clear hb1 hX hyes hno HC LZ0 HB0 hcl
  unfold lvv
  have iA : (Try.prog.info? 78).map (·.size) = some (lvs X (k : Int)).toArray.size := by rw [show (lvs X (k : Int)).toArray.size = 201 from lvs_len HX.out _]; exact lv_size
  have tA : (w1.alloc (.cells Try.zeroCells78 78)).there w1.heap.size 0 (lvs X (k : Int)).toArray.size := by rw [show (lvs X (k : Int)).toArray.size = 201 from lvs_len HX.out _]; exact LL1.out.there 0 201 (by rw [lvs_len z40_len]; omega)
  have oA : (lvs X (k : Int)).toArray.all (·.oneCell') = true := all_oneCell_toArray lvs_one
  go_wp2_with (with_reducible refine wpList_stopn ?_ ?_; rfl)
  show wpList _ _ _ _ _ _
  with_reducible refine wpList_store_mid ?_ 78 (.tmp 4) (.tmp 9) ?_ w1.heap.size 0 (lvs X (k : Int)).toArray ?_ ?_ tA iA oA ?_
  exact rfl
  exact rfl
  exact rfl
  exact rfl
  have LL2 : Hid (Lies ((w1.alloc (.cells Try.zeroCells78 78)).setCells w1.heap.size 0 (lvs X (k : Int))) w1.heap.size (lvs X k)) := by
    have := LL1.out.setCells (lvs X (k : Int)) 0 (by rw [lvs_len HX.out, lvs_len z40_len]; omega)
    rwa [spl_all (by rw [lvs_len HX.out, lvs_len z40_len])] at this
  have LZ2 : Hid (Lies ((w1.alloc (.cells Try.zeroCells78 78)).setCells w1.heap.size 0 (lvs X (k : Int))) w.heap.size [.int .i64 0, .int .i64 0, .int .i64 0, .int .i64 0, .int .i64 0]) := LZ1.out.farCells _ _ (by have := HZ.out; omega)
  have HB2 : Hid (Below w.heap.size w ((w1.alloc (.cells Try.zeroCells78 78)).setCells w1.heap.size 0 (lvs X (k : Int)))) := below_setCells _ _ HB1.out (by have := HZ.out; omega)
  show wpList _ _ _ _ _ ((w1.alloc (.cells Try.zeroCells78 78)).setCells w1.heap.size 0 (lvs X (k : Int)))
  clear tA iA oA LL1 LZ1 HB1
  generalize (w1.alloc (.cells Try.zeroCells78 78)).setCells w1.heap.size 0 (lvs X (k : Int)) = V at *
  generalize w1.heap.size = lv at *
  have HF : Hid (∀ (W : World), Lies W w.heap.size [.int .i64 0, .int .i64 0, .int .i64 0, .int .i64 0, .int .i64 0] → Lies W lv (lvs X k) → Below w.heap.size w W → (o = true → M.clOk (cs.headD M.c0) = true) → LjR cs w lv (.bool o) W) := fun W h1 h2 h3 h4 => ⟨o, X, k, rfl, HX.out, hk, h1, h2, fun h => by
      obtain ⟨g1, g2, rfl, g4⟩ := HY.out h
      rw [HCL.out]
      exact ⟨g1, g2, by rw [g4]; exact M.Same.refl (h4 h)⟩, HN.out, h3⟩
  have HG : Hid (∀ (W : World), Lies W w.heap.size [.int .i64 0, .int .i64 0, .int .i64 0, .int .i64 0, .int .i64 0] → Lies W lv (lvs X k) → Below w.heap.size w W → M.clOk (cs.headD M.c0) = false → LjR cs w lv (.bool false) W) := fun W h1 h2 h3 h4 => ⟨false, X, k, rfl, HX.out, hk, h1, h2, fun h => by simp at h, fun _ => M.allOk_bad h4, h3⟩
  have HD : Hid (o = true → X.getD 0 M.c0 = cs.headD M.c0) := fun h => by
    obtain ⟨g1, g2, rfl, g4⟩ := HY.out h
    rw [← g4]
    cases X with
    | nil => have := HX.out; simp at this
    | cons x X => cases k with
      | zero => omega
      | succ k => rfl
  cases o with
  | false =>
    have ST : Hid (LjR cs w lv (.bool false) V) := HF.out V LZ2.out LL2.out HB2.out (fun h => by simp at h)
    clear LZ2 LL2 HB2 HF HG HD HY HN HX hk HCL
    go_wp2
    go_loopw [5] (fun ok wr => LjR cs w lv ok wr) (fun _ wr => LjM lv wr)
    case atStart => exact ST.out
    case round =>
      obtain ⟨o, xs, k, rfl, hx, hk, lz, ll, hyes, hno, hb⟩ := hrel
      have HX : Hid (xs.length = 40) := hx
      have LZ : Hid (Lies wr w.heap.size [.int .i64 0, .int .i64 0, .int .i64 0, .int .i64 0, .int .i64 0]) := lz
      have LL : Hid (Lies wr lv (lvs xs k)) := ll
      have HY : Hid (o = true → 1 ≤ cs.length ∧ cs.length ≤ 40 ∧ M.Same cs (xs.take k)) := hyes
      have HN : Hid (o = false → M.allOk cs = false) := hno
      have HBr : Hid (Below w.heap.size w wr) := hb
      have m0 : wr.cell? ⟨lv, 200, none⟩ = some (.int .i64 k) := (ll.at 200).trans (lvs_many hx k)
      have HM : Hid (LjM lv wr = k) := ljm_of hx ll
      clear lz ll hyes hno hb hx ST
      cases o with
      | false =>
        have z0 : wr.cell? ⟨w.heap.size, 0, none⟩ = some (.int .i64 0) := LZ.out.at 0
        have y0 : wr.frozen? ⟨w.heap.size, 0, none⟩ = false := LZ.out.fr 0
        have z1 : wr.cell? ⟨w.heap.size, 1, none⟩ = some (.int .i64 0) := LZ.out.at 1
        have y1 : wr.frozen? ⟨w.heap.size, 1, none⟩ = false := LZ.out.fr 1
        have z2 : wr.cell? ⟨w.heap.size, 2, none⟩ = some (.int .i64 0) := LZ.out.at 2
        have y2 : wr.frozen? ⟨w.heap.size, 2, none⟩ = false := LZ.out.fr 2
        have z3 : wr.cell? ⟨w.heap.size, 3, none⟩ = some (.int .i64 0) := LZ.out.at 3
        have y3 : wr.frozen? ⟨w.heap.size, 3, none⟩ = false := LZ.out.fr 3
        have z4 : wr.cell? ⟨w.heap.size, 4, none⟩ = some (.int .i64 0) := LZ.out.at 4
        have y4 : wr.frozen? ⟨w.heap.size, 4, none⟩ = false := LZ.out.fr 4
        have HNO : Hid (M.allOk cs = false) := HN.out (by simp)
        go_wp2
        refine bodyPost_ret (v := .tuple #[.agg #[.int .i64 0, .int .i64 0, .int .i64 0, .int .i64 0, .int .i64 0], .bool false]) (by simp [results, Try.results20, go_sem, z0, z1, z2, z3, z4]) rfl ⟨by rw [M.allv_out HNO.out, HNO.out]; rfl, ?_⟩
        exact ((((HBr.out.setCell (Nat.le_refl _) _).setCell (Nat.le_refl _) _).setCell (Nat.le_refl _) _).setCell (Nat.le_refl _) _).setCell (Nat.le_refl _) _
      | true =>
        obtain ⟨hc1, hc40, hsame⟩ := HY.out (by simp)
        by_cases h1 : 1 < k
        · have h1I : (1 : Int) < (k : Int) := by omega
          have HS : Hid (M.Same cs (xs.take k)) := hsame
          have hC1 : Hid (1 ≤ cs.length) := hc1
          have hC40 : Hid (cs.length ≤ 40) := hc40
          have CP := paired_any (xs := xs) (m := k) (l := cs) wr HX.out hk hsame
          have iL : (Try.prog.info? 78).map (·.size) = some (lvs xs (k : Int)).length := by rw [lvs_len HX.out]; exact lv_size
          have rL : wr.rangeAt lv 0 (lvs xs (k : Int)) := LL.out.row
          clear hc1 hc40 hsame
          go_wp2_with (with_reducible refine wpList_stop 25 ?_ ?_; rfl)
          show wpList _ _ _ _ _ _
          with_reducible refine wpList_load_mid ?_ 78 (.tmp 4) ?_ lv 0 ?_ (lvs xs (k : Int)) _ rL Try.underlying78 ?_ iL ?_
          exact rfl
          exact rfl
          exact rfl
          exact rfl
          unfold lvv at CP
          go_wp2_with fail
          refine CP.mono ?_
          rintro e w2 ⟨v, rfl, ⟨ys, k2, o2, rfl, hy, hk2, hyes, hno⟩, hb2⟩
          have HY2 : Hid (ys.length = 40) := hy
          have HS2 : Hid (o2 = true → k2 = (k + 1) / 2 ∧ M.Same cs (ys.take k2)) := hyes
          have HN2 : Hid (o2 = false → M.chain cs = false) := hno
          have LZ2 : Hid (Lies w2 w.heap.size [.int .i64 0, .int .i64 0, .int .i64 0, .int .i64 0, .int .i64 0]) := LZ.out.belowS hb2
          have LL2 : Hid (Lies w2 lv (lvs xs k)) := LL.out.belowS hb2
          have HB2 : Hid (Below w.heap.size w w2) := HBr.out.trans (hb2.mono HBr.out.size)
          clear hb2 hy hyes hno CP iL rL
          unfold lvv
          have iA : (Try.prog.info? 78).map (·.size) = some (lvs ys (k2 : Int)).toArray.size := by rw [show (lvs ys (k2 : Int)).toArray.size = 201 from lvs_len HY2.out _]; exact lv_size
          have tA : w2.there lv 0 (lvs ys (k2 : Int)).toArray.size := by rw [show (lvs ys (k2 : Int)).toArray.size = 201 from lvs_len HY2.out _]; exact LL2.out.there 0 201 (by rw [lvs_len HX.out]; omega)
          have oA : (lvs ys (k2 : Int)).toArray.all (·.oneCell') = true := all_oneCell_toArray lvs_one
          go_wp2_with (with_reducible refine wpList_stopn ?_ ?_; rfl)
          show wpList _ _ _ _ _ _
          with_reducible refine wpList_store_mid ?_ 78 (.tmp 4) (.tmp 27) ?_ lv 0 (lvs ys (k2 : Int)).toArray ?_ ?_ tA iA oA ?_
          exact rfl
          exact rfl
          exact rfl
          exact rfl
          have LL3 : Hid (Lies (w2.setCells lv 0 (lvs ys (k2 : Int))) lv (lvs ys k2)) := by
            have := LL2.out.setCells (lvs ys (k2 : Int)) 0 (by rw [lvs_len HY2.out, lvs_len HX.out]; omega)
            rwa [spl_all (by rw [lvs_len HY2.out, lvs_len HX.out])] at this
          have LZ3 : Hid (Lies (w2.setCells lv 0 (lvs ys (k2 : Int))) w.heap.size [.int .i64 0, .int .i64 0, .int .i64 0, .int .i64 0, .int .i64 0]) := LZ2.out.farCells _ _ (by have := HZ.out; omega)
          have HB3 : Hid (Below w.heap.size w (w2.setCells lv 0 (lvs ys (k2 : Int)))) := below_setCells _ _ HB2.out (by have := HZ.out; omega)
          show wpList _ _ _ _ _ (w2.setCells lv 0 (lvs ys (k2 : Int)))
          clear tA iA oA LL2 LZ2 HB2
          generalize w2.setCells lv 0 (lvs ys (k2 : Int)) = w3 at *
          go_wp2
          go_roundw
          case rel => exact ⟨o2, ys, k2, rfl, HY2.out, by omega, LZ3.out, LL3.out, fun h => ⟨hC1.out, hC40.out, (HS2.out h).2⟩, fun h => by rw [M.allOk_in hC1.out hC40.out]; exact HN2.out h, HB3.out⟩
          case measure => rw [ljm_of HY2.out LL3.out, HM.out]; omega
        · have h1I : ¬ ((1 : Int) < (k : Int)) := by omega
          have hk1 : k = 1 := by
            rcases Nat.lt_or_ge k 1 with h | h
            · have e : k = 0 := by omega
              subst e
              have := hsame.hd
              rw [List.take_zero] at this
              exact absurd (M.clOk_c0.symm.trans this) (by decide)
            · omega
          subst hk1
          have hA : ∀ j v, (cvs (xs.getD 0 M.c0))[j]? = some v → wr.cell? ⟨lv, j, none⟩ = some v := fun j v hv => (LL.out.at _).trans (by have := lvs_at HX.out 1 (i := 0) (by omega) j v hv; simpa using this)
          have hone : xs.take 1 = [xs.getD 0 M.c0] := by
            have h := HX.out
            cases xs with
            | nil => simp at h
            | cons x xs => rfl
          rw [hone] at hsame
          obtain ⟨hch, hwh⟩ := hsame.one
          have hok : M.allOk cs = true := by rw [M.allOk_in hc1 hc40]; exact hch
          have HOK : Hid (M.allOk cs = true) := hok
          have HWH : Hid (M.allv cs = xs.getD 0 M.c0) := by show _ = _; rw [M.allv_in hok, hwh]
          clear hsame hone hch hwh hok hc1 hc40 HY HN
          generalize xs.getD 0 M.c0 = c0 at hA HWH
          obtain ⟨⟨x, y⟩, ⟨x', y'⟩, n⟩ := c0
          have a0 : wr.cell? ⟨lv, 0, none⟩ = some (.int .i64 x) := hA 0 _ rfl
          have a1 : wr.cell? ⟨lv, 1, none⟩ = some (.int .i64 y) := hA 1 _ rfl
          have a2 : wr.cell? ⟨lv, 2, none⟩ = some (.int .i64 x') := hA 2 _ rfl
          have a3 : wr.cell? ⟨lv, 3, none⟩ = some (.int .i64 y') := hA 3 _ rfl
          have a4 : wr.cell? ⟨lv, 4, none⟩ = some (.int .i64 n) := hA 4 _ rfl
          have z0 : wr.cell? ⟨w.heap.size, 0, none⟩ = some (.int .i64 0) := LZ.out.at 0
          have y0 : wr.frozen? ⟨w.heap.size, 0, none⟩ = false := LZ.out.fr 0
          have z1 : wr.cell? ⟨w.heap.size, 1, none⟩ = some (.int .i64 0) := LZ.out.at 1
          have y1 : wr.frozen? ⟨w.heap.size, 1, none⟩ = false := LZ.out.fr 1
          have z2 : wr.cell? ⟨w.heap.size, 2, none⟩ = some (.int .i64 0) := LZ.out.at 2
          have y2 : wr.frozen? ⟨w.heap.size, 2, none⟩ = false := LZ.out.fr 2
          have z3 : wr.cell? ⟨w.heap.size, 3, none⟩ = some (.int .i64 0) := LZ.out.at 3
          have y3 : wr.frozen? ⟨w.heap.size, 3, none⟩ = false := LZ.out.fr 3
          have z4 : wr.cell? ⟨w.heap.size, 4, none⟩ = some (.int .i64 0) := LZ.out.at 4
          have y4 : wr.frozen? ⟨w.heap.size, 4, none⟩ = false := LZ.out.fr 4
          clear hA
          go_wp2
          refine bodyPost_ret (v := .tuple #[.agg #[.int .i64 x, .int .i64 y, .int .i64 x', .int .i64 y', .int .i64 n], .bool true]) (by simp [results, Try.results20, go_sem, z0, z1, z2, z3, z4]) rfl ⟨by rw [HWH.out, HOK.out]; rfl, ?_⟩
          exact ((((HBr.out.setCell (Nat.le_refl _) _).setCell (Nat.le_refl _) _).setCell (Nat.le_refl _) _).setCell (Nat.le_refl _) _).setCell (Nat.le_refl _) _
  | true =>
    have CO := claimOk_any (cs.headD M.c0)
    rw [← HD.out (by simp)] at CO HF HG
    have hA : ∀ j v, (cvs (X.getD 0 M.c0))[j]? = some v → V.cell? ⟨lv, j, none⟩ = some v := fun j v hv => (LL2.out.at _).trans (by have := lvs_at HX.out k (i := 0) (by omega) j v hv; simpa using this)
    generalize X.getD 0 M.c0 = c0 at hA CO HF HG
    generalize M.clOk c0 = co at CO HF HG
    obtain ⟨⟨x, y⟩, ⟨x', y'⟩, n'⟩ := c0
    dsimp only [clv] at CO
    have a0 : V.cell? ⟨lv, 0, none⟩ = some (.int .i64 x) := hA 0 _ rfl
    have a1 : V.cell? ⟨lv, 1, none⟩ = some (.int .i64 y) := hA 1 _ rfl
    have a2 : V.cell? ⟨lv, 2, none⟩ = some (.int .i64 x') := hA 2 _ rfl
    have a3 : V.cell? ⟨lv, 3, none⟩ = some (.int .i64 y') := hA 3 _ rfl
    have a4 : V.cell? ⟨lv, 4, none⟩ = some (.int .i64 n') := hA 4 _ rfl
    go_wp2_with fail
    refine (CO _).mono ?_
    rintro e V1 ⟨rfl, hb⟩
    have ST : Hid (LjR cs w lv (.bool co) V1) := by
      have h1 := LZ2.out.belowS hb
      have h2 := LL2.out.belowS hb
      have h3 := HB2.out.trans (hb.mono HB2.out.size)
      cases co with
      | true => exact HF.out V1 h1 h2 h3 (fun _ => rfl)
      | false => exact HG.out V1 h1 h2 h3 rfl
    clear hb LZ2 LL2 HB2 HF HG HD HY HN HX hk HCL a0 a1 a2 a3 a4 hA CO
    go_wp2
    go_loopw [5] (fun ok wr => LjR cs w lv ok wr) (fun _ wr => LjM lv wr)
    case atStart => exact ST.out
    case round =>
      obtain ⟨o, xs, k, rfl, hx, hk, lz, ll, hyes, hno, hb⟩ := hrel
      have HX : Hid (xs.length = 40) := hx
      have LZ : Hid (Lies wr w.heap.size [.int .i64 0, .int .i64 0, .int .i64 0, .int .i64 0, .int .i64 0]) := lz
      have LL : Hid (Lies wr lv (lvs xs k)) := ll
      have HY : Hid (o = true → 1 ≤ cs.length ∧ cs.length ≤ 40 ∧ M.Same cs (xs.take k)) := hyes
      have HN : Hid (o = false → M.allOk cs = false) := hno
      have HBr : Hid (Below w.heap.size w wr) := hb
      have m0 : wr.cell? ⟨lv, 200, none⟩ = some (.int .i64 k) := (ll.at 200).trans (lvs_many hx k)
      have HM : Hid (LjM lv wr = k) := ljm_of hx ll
      clear lz ll hyes hno hb hx ST
      cases o with
      | false =>
        have z0 : wr.cell? ⟨w.heap.size, 0, none⟩ = some (.int .i64 0) := LZ.out.at 0
        have y0 : wr.frozen? ⟨w.heap.size, 0, none⟩ = false := LZ.out.fr 0
        have z1 : wr.cell? ⟨w.heap.size, 1, none⟩ = some (.int .i64 0) := LZ.out.at 1
        have y1 : wr.frozen? ⟨w.heap.size, 1, none⟩ = false := LZ.out.fr 1
        have z2 : wr.cell? ⟨w.heap.size, 2, none⟩ = some (.int .i64 0) := LZ.out.at 2
        have y2 : wr.frozen? ⟨w.heap.size, 2, none⟩ = false := LZ.out.fr 2
        have z3 : wr.cell? ⟨w.heap.size, 3, none⟩ = some (.int .i64 0) := LZ.out.at 3
        have y3 : wr.frozen? ⟨w.heap.size, 3, none⟩ = false := LZ.out.fr 3
        have z4 : wr.cell? ⟨w.heap.size, 4, none⟩ = some (.int .i64 0) := LZ.out.at 4
        have y4 : wr.frozen? ⟨w.heap.size, 4, none⟩ = false := LZ.out.fr 4
        have HNO : Hid (M.allOk cs = false) := HN.out (by simp)
        go_wp2
        refine bodyPost_ret (v := .tuple #[.agg #[.int .i64 0, .int .i64 0, .int .i64 0, .int .i64 0, .int .i64 0], .bool false]) (by simp [results, Try.results20, go_sem, z0, z1, z2, z3, z4]) rfl ⟨by rw [M.allv_out HNO.out, HNO.out]; rfl, ?_⟩
        exact ((((HBr.out.setCell (Nat.le_refl _) _).setCell (Nat.le_refl _) _).setCell (Nat.le_refl _) _).setCell (Nat.le_refl _) _).setCell (Nat.le_refl _) _
      | true =>
        obtain ⟨hc1, hc40, hsame⟩ := HY.out (by simp)
        by_cases h1 : 1 < k
        · have h1I : (1 : Int) < (k : Int) := by omega
          have HS : Hid (M.Same cs (xs.take k)) := hsame
          have hC1 : Hid (1 ≤ cs.length) := hc1
          have hC40 : Hid (cs.length ≤ 40) := hc40
          have CP := paired_any (xs := xs) (m := k) (l := cs) wr HX.out hk hsame
          have iL : (Try.prog.info? 78).map (·.size) = some (lvs xs (k : Int)).length := by rw [lvs_len HX.out]; exact lv_size
          have rL : wr.rangeAt lv 0 (lvs xs (k : Int)) := LL.out.row
          clear hc1 hc40 hsame
          go_wp2_with (with_reducible refine wpList_stop 25 ?_ ?_; rfl)
          show wpList _ _ _ _ _ _
          with_reducible refine wpList_load_mid ?_ 78 (.tmp 4) ?_ lv 0 ?_ (lvs xs (k : Int)) _ rL Try.underlying78 ?_ iL ?_
          exact rfl
          exact rfl
          exact rfl
          exact rfl
          unfold lvv at CP
          go_wp2_with fail
          refine CP.mono ?_
          rintro e w2 ⟨v, rfl, ⟨ys, k2, o2, rfl, hy, hk2, hyes, hno⟩, hb2⟩
          have HY2 : Hid (ys.length = 40) := hy
          have HS2 : Hid (o2 = true → k2 = (k + 1) / 2 ∧ M.Same cs (ys.take k2)) := hyes
          have HN2 : Hid (o2 = false → M.chain cs = false) := hno
          have LZ2 : Hid (Lies w2 w.heap.size [.int .i64 0, .int .i64 0, .int .i64 0, .int .i64 0, .int .i64 0]) := LZ.out.belowS hb2
          have LL2 : Hid (Lies w2 lv (lvs xs k)) := LL.out.belowS hb2
          have HB2 : Hid (Below w.heap.size w w2) := HBr.out.trans (hb2.mono HBr.out.size)
          clear hb2 hy hyes hno CP iL rL
          unfold lvv
          have iA : (Try.prog.info? 78).map (·.size) = some (lvs ys (k2 : Int)).toArray.size := by rw [show (lvs ys (k2 : Int)).toArray.size = 201 from lvs_len HY2.out _]; exact lv_size
          have tA : w2.there lv 0 (lvs ys (k2 : Int)).toArray.size := by rw [show (lvs ys (k2 : Int)).toArray.size = 201 from lvs_len HY2.out _]; exact LL2.out.there 0 201 (by rw [lvs_len HX.out]; omega)
          have oA : (lvs ys (k2 : Int)).toArray.all (·.oneCell') = true := all_oneCell_toArray lvs_one
          go_wp2_with (with_reducible refine wpList_stopn ?_ ?_; rfl)
          show wpList _ _ _ _ _ _
          with_reducible refine wpList_store_mid ?_ 78 (.tmp 4) (.tmp 27) ?_ lv 0 (lvs ys (k2 : Int)).toArray ?_ ?_ tA iA oA ?_
          exact rfl
          exact rfl
          exact rfl
          exact rfl
          have LL3 : Hid (Lies (w2.setCells lv 0 (lvs ys (k2 : Int))) lv (lvs ys k2)) := by
            have := LL2.out.setCells (lvs ys (k2 : Int)) 0 (by rw [lvs_len HY2.out, lvs_len HX.out]; omega)
            rwa [spl_all (by rw [lvs_len HY2.out, lvs_len HX.out])] at this
          have LZ3 : Hid (Lies (w2.setCells lv 0 (lvs ys (k2 : Int))) w.heap.size [.int .i64 0, .int .i64 0, .int .i64 0, .int .i64 0, .int .i64 0]) := LZ2.out.farCells _ _ (by have := HZ.out; omega)
          have HB3 : Hid (Below w.heap.size w (w2.setCells lv 0 (lvs ys (k2 : Int)))) := below_setCells _ _ HB2.out (by have := HZ.out; omega)
          show wpList _ _ _ _ _ (w2.setCells lv 0 (lvs ys (k2 : Int)))
          clear tA iA oA LL2 LZ2 HB2
          generalize w2.setCells lv 0 (lvs ys (k2 : Int)) = w3 at *
          go_wp2
          go_roundw
          case rel => exact ⟨o2, ys, k2, rfl, HY2.out, by omega, LZ3.out, LL3.out, fun h => ⟨hC1.out, hC40.out, (HS2.out h).2⟩, fun h => by rw [M.allOk_in hC1.out hC40.out]; exact HN2.out h, HB3.out⟩
          case measure => rw [ljm_of HY2.out LL3.out, HM.out]; omega
        · have h1I : ¬ ((1 : Int) < (k : Int)) := by omega
          have hk1 : k = 1 := by
            rcases Nat.lt_or_ge k 1 with h | h
            · have e : k = 0 := by omega
              subst e
              have := hsame.hd
              rw [List.take_zero] at this
              exact absurd (M.clOk_c0.symm.trans this) (by decide)
            · omega
          subst hk1
          have hA : ∀ j v, (cvs (xs.getD 0 M.c0))[j]? = some v → wr.cell? ⟨lv, j, none⟩ = some v := fun j v hv => (LL.out.at _).trans (by have := lvs_at HX.out 1 (i := 0) (by omega) j v hv; simpa using this)
          have hone : xs.take 1 = [xs.getD 0 M.c0] := by
            have h := HX.out
            cases xs with
            | nil => simp at h
            | cons x xs => rfl
          rw [hone] at hsame
          obtain ⟨hch, hwh⟩ := hsame.one
          have hok : M.allOk cs = true := by rw [M.allOk_in hc1 hc40]; exact hch
          have HOK : Hid (M.allOk cs = true) := hok
          have HWH : Hid (M.allv cs = xs.getD 0 M.c0) := by show _ = _; rw [M.allv_in hok, hwh]
          clear hsame hone hch hwh hok hc1 hc40 HY HN
          generalize xs.getD 0 M.c0 = c0 at hA HWH
          obtain ⟨⟨x, y⟩, ⟨x', y'⟩, n⟩ := c0
          have a0 : wr.cell? ⟨lv, 0, none⟩ = some (.int .i64 x) := hA 0 _ rfl
          have a1 : wr.cell? ⟨lv, 1, none⟩ = some (.int .i64 y) := hA 1 _ rfl
          have a2 : wr.cell? ⟨lv, 2, none⟩ = some (.int .i64 x') := hA 2 _ rfl
          have a3 : wr.cell? ⟨lv, 3, none⟩ = some (.int .i64 y') := hA 3 _ rfl
          have a4 : wr.cell? ⟨lv, 4, none⟩ = some (.int .i64 n) := hA 4 _ rfl
          have z0 : wr.cell? ⟨w.heap.size, 0, none⟩ = some (.int .i64 0) := LZ.out.at 0
          have y0 : wr.frozen? ⟨w.heap.size, 0, none⟩ = false := LZ.out.fr 0
          have z1 : wr.cell? ⟨w.heap.size, 1, none⟩ = some (.int .i64 0) := LZ.out.at 1
          have y1 : wr.frozen? ⟨w.heap.size, 1, none⟩ = false := LZ.out.fr 1
          have z2 : wr.cell? ⟨w.heap.size, 2, none⟩ = some (.int .i64 0) := LZ.out.at 2
          have y2 : wr.frozen? ⟨w.heap.size, 2, none⟩ = false := LZ.out.fr 2
          have z3 : wr.cell? ⟨w.heap.size, 3, none⟩ = some (.int .i64 0) := LZ.out.at 3
          have y3 : wr.frozen? ⟨w.heap.size, 3, none⟩ = false := LZ.out.fr 3
          have z4 : wr.cell? ⟨w.heap.size, 4, none⟩ = some (.int .i64 0) := LZ.out.at 4
          have y4 : wr.frozen? ⟨w.heap.size, 4, none⟩ = false := LZ.out.fr 4
          clear hA
          go_wp2
          refine bodyPost_ret (v := .tuple #[.agg #[.int .i64 x, .int .i64 y, .int .i64 x', .int .i64 y', .int .i64 n], .bool true]) (by simp [results, Try.results20, go_sem, z0, z1, z2, z3, z4]) rfl ⟨by rw [HWH.out, HOK.out]; rfl, ?_⟩
          exact ((((HBr.out.setCell (Nat.le_refl _) _).setCell (Nat.le_refl _) _).setCell (Nat.le_refl _) _).setCell (Nat.le_refl _) _).setCell (Nat.le_refl _) _
end Go.Proofs.Ytjibpapjfdjecac
