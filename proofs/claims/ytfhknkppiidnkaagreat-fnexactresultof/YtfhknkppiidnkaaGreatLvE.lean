/- The level above; claims joined as a tree, in the program. -/
import Derived.Test.YtfhknkppiidnkaaGreatLvC
import Derived.Test.YtfhknkppiidnkaaGreatClB
namespace Go.Proofs.YtfhknkppiidnkaaGreat
open Go.RowKit

theorem drop_two {xs : List M.Cl} {m j : Nat} (h : 2 * j + 1 < m) (hm : m ≤ xs.length) : (xs.take m).drop (2 * j) = xs.getD (2 * j) M.c0 :: xs.getD (2 * j + 1) M.c0 :: (xs.take m).drop (2 * (j + 1)) := by
  rw [List.drop_eq_getElem_cons (by simp; omega), List.drop_eq_getElem_cons (i := 2 * j + 1) (by simp; omega)]
  simp only [List.getElem_take, List.getD_eq_getElem?_getD]
  rw [List.getElem?_eq_getElem (by omega), List.getElem?_eq_getElem (by omega)]
  rfl
theorem drop_one {xs : List M.Cl} {m j : Nat} (h : 2 * j + 1 = m) (hm : m ≤ xs.length) : (xs.take m).drop (2 * j) = xs.getD (2 * j) M.c0 :: (xs.take m).drop (2 * (j + 1)) := by
  rw [List.drop_eq_getElem_cons (by simp; omega), List.drop_of_length_le (i := 2 * j + 1) (by simp; omega), List.drop_of_length_le (i := 2 * (j + 1)) (by simp; omega)]
  simp only [List.getElem_take, List.getD_eq_getElem?_getD]
  rw [List.getElem?_eq_getElem (by omega)]
  rfl
theorem take_set {ys : List M.Cl} {j : Nat} (h : j < ys.length) (c : M.Cl) : (ys.set j c).take (j + 1) = ys.take j ++ [c] := by
  rw [List.take_succ_eq_append_getElem (by simpa using h), List.getElem_set_self, List.take_set_of_le (Nat.le_refl _)]
theorem cl_one {c : M.Cl} : (cvs c).toArray.all (·.oneCell') = true := all_oneCell_toArray (five_ints c)
def M.Paired (l : List M.Cl) (m : Nat) (v : Value) : Prop := ∃ (ys : List M.Cl) (k : Nat) (o : Bool), v = .tuple #[lvv ys k, .bool o] ∧ ys.length = 40 ∧ k ≤ (m + 1) / 2 ∧ (o = true → k = (m + 1) / 2 ∧ M.Same l (ys.take k)) ∧ (o = false → M.chain l = false)
def LvR (l xs : List M.Cl) (m : Nat) (w : World) (ok i : Value) (wr : World) : Prop := ∃ (j : Nat) (o : Bool) (ys : List M.Cl), ok = .bool o ∧ i = .int .i64 ((2 * j : Nat) : Int) ∧ ys.length = 40 ∧ j ≤ (m + 1) / 2 ∧ Lies wr w.heap.size (lvs xs m) ∧ Lies wr (w.heap.size + 1) (lvs M.z40 0) ∧ Lies wr (w.heap.size + 1 + 1) (lvs ys j) ∧ (o = true → M.Same l (ys.take j ++ (xs.take m).drop (2 * j))) ∧ (o = false → M.chain l = false) ∧ Below w.heap.size w wr
set_option maxHeartbeats 8000000 in
set_option maxRecDepth 100000 in
theorem paired_any {xs l : List M.Cl} {m : Nat} (w : World) (hx : xs.length = 40) (hm : m ≤ 40) (hS : M.Same l (xs.take m)) :
    Calls Tryz.prog 52 #[lvv xs m] w fun e w' => ∃ v, e = .returned v ∧ M.Paired l m v ∧ Below w.heap.size w w' := by
  have HS : Hid (M.Same l (xs.take m)) := hS
  have LA : Hid (Lies (((w.alloc (.cells (lvs xs m).toArray 113)).alloc (.cells Tryz.zeroCells113 113)).alloc (.cells Tryz.zeroCells113 113)) w.heap.size (lvs xs m)) := ((lies_new _ _ _).alloc _).alloc _
  have LB : Hid (Lies (((w.alloc (.cells (lvs xs m).toArray 113)).alloc (.cells Tryz.zeroCells113 113)).alloc (.cells Tryz.zeroCells113 113)) (w.heap.size + 1) (lvs M.z40 0)) := by
    have := (lies_zc (w.alloc (.cells (lvs xs m).toArray 113))).alloc (.cells Tryz.zeroCells113 113)
    rwa [show (w.alloc (.cells (lvs xs m).toArray 113)).heap.size = w.heap.size + 1 by simp] at this
  have LC : Hid (Lies (((w.alloc (.cells (lvs xs m).toArray 113)).alloc (.cells Tryz.zeroCells113 113)).alloc (.cells Tryz.zeroCells113 113)) (w.heap.size + 1 + 1) (lvs M.z40 0)) := by
    have := lies_zc ((w.alloc (.cells (lvs xs m).toArray 113)).alloc (.cells Tryz.zeroCells113 113))
    rwa [show ((w.alloc (.cells (lvs xs m).toArray 113)).alloc (.cells Tryz.zeroCells113 113)).heap.size = w.heap.size + 1 + 1 by simp] at this
  have HB : Hid (Below w.heap.size w (((w.alloc (.cells (lvs xs m).toArray 113)).alloc (.cells Tryz.zeroCells113 113)).alloc (.cells Tryz.zeroCells113 113))) := (((Below.refl _ _).alloc (Nat.le_refl _) _).alloc (by simp) _).alloc (by simp; omega) _
  have hmI : (m : Int) ≤ 40 := by omega
  clear hS
  unfold lvv
  go_enter Tryz.func52, Tryz.ntmps52
  go_wp2
  go_loopw [5, 6] (fun ok i wr => LvR l xs m w ok i wr) (fun _ i _ => 80 - (intOf i).toNat)
  case atStart => exact ⟨0, true, M.z40, rfl, rfl, z40_len, by omega, LA.out, LB.out, LC.out, fun _ => by simpa using HS.out, fun h => by simp at h, HB.out⟩
  case round =>
    obtain ⟨j, o, ys, rfl, rfl, hy, hj, la, lb, lc, hs, hno, hb⟩ := hrel
    have HY : Hid (ys.length = 40) := hy
    have LA1 : Hid (Lies wr w.heap.size (lvs xs m)) := la
    have LB1 : Hid (Lies wr (w.heap.size + 1) (lvs M.z40 0)) := lb
    have LC1 : Hid (Lies wr (w.heap.size + 1 + 1) (lvs ys j)) := lc
    have HS1 : Hid (o = true → M.Same l (ys.take j ++ (xs.take m).drop (2 * j))) := hs
    have HN1 : Hid (o = false → M.chain l = false) := hno
    have HB1 : Hid (Below w.heap.size w wr) := hb
    have m0 : wr.cell? ⟨w.heap.size, 200, none⟩ = some (.int .i64 m) := (la.at 200).trans (lvs_many hx m)
    clear la lb lc hs hno hb hy LA LB LC HB HS
    cases o with
    | false =>
      have hr : wr.rangeAt (w.heap.size + 1 + 1) 0 (lvs ys j) := LC1.out.row
      have hi : (Tryz.prog.info? 113).map (·.size) = some (lvs ys (j : Int)).length := by rw [lvs_len HY.out]; exact lv_size
      have hiA : (Tryz.prog.info? 113).map (·.size) = some (lvs ys (j : Int)).toArray.size := hi
      have htA : wr.there (w.heap.size + 1) 0 (lvs ys (j : Int)).toArray.size := by rw [show (lvs ys (j : Int)).toArray.size = 201 from lvs_len HY.out _]; exact LB1.out.there 0 201 (by rw [lvs_len z40_len]; omega)
      have h1A : (lvs ys (j : Int)).toArray.all (·.oneCell') = true := all_oneCell_toArray lvs_one
      have L4 : Hid (Lies (wr.setCells (w.heap.size + 1) 0 (lvs ys (j : Int))) (w.heap.size + 1) (lvs ys (j : Int))) := by
        have := LB1.out.setCells (lvs ys (j : Int)) 0 (by rw [lvs_len HY.out, lvs_len z40_len]; omega)
        rwa [spl_all (by rw [lvs_len HY.out, lvs_len z40_len])] at this
      have hlen : Hid ((lvs ys (j : Int)).length = 201) := lvs_len HY.out _
      go_wp2_with (first | (refine wpList_load_mid rfl 113 _ rfl (w.heap.size + 1 + 1) 0 rfl (lvs ys (j : Int)) _ hr Tryz.underlying113 rfl hi ?_) | (refine wpList_store_mid rfl 113 _ _ rfl (w.heap.size + 1) 0 (lvs ys (j : Int)).toArray rfl rfl htA hiA h1A ?_))
      exact bodyPost_ret (results_cell_tmp rfl rfl (load_lv L4.out hlen.out)) rfl ⟨_, rfl, ⟨ys, j, false, rfl, HY.out, hj, fun h => by simp at h, fun _ => HN1.out (by simp)⟩, below_setCells _ _ HB1.out (by omega)⟩
    | true =>
      by_cases hlt : 2 * j < m
      · have hltI : 2 * (j : Int) < (m : Int) := by omega
        have hI40 : 2 * (j : Int) < 40 := by omega
        have hj40 : (j : Int) < 40 := by omega
        have hA : ∀ k v, (cvs (xs.getD (2 * j) M.c0))[k]? = some v → wr.cell? ⟨w.heap.size, 2 * j * 5 + k, none⟩ = some v := fun k v hv => (LA1.out.at _).trans (lvs_at hx m (by omega) k v hv)
        have HST : Hid (2 * j + 1 < m → M.Same l (ys.take j ++ xs.getD (2 * j) M.c0 :: xs.getD (2 * j + 1) M.c0 :: (xs.take m).drop (2 * (j + 1)))) := fun h => by
          have := HS1.out (by simp)
          rwa [drop_two h (by omega)] at this
        have HSO : Hid (2 * j + 1 = m → M.Same l (ys.take j ++ xs.getD (2 * j) M.c0 :: (xs.take m).drop (2 * (j + 1)))) := fun h => by
          have := HS1.out (by simp)
          rwa [drop_one h (by omega)] at this
        generalize hca : xs.getD (2 * j) M.c0 = ca at hA HST HSO
        obtain ⟨⟨x, y⟩, ⟨x', y'⟩, n⟩ := ca
        have a0 : wr.cell? ⟨w.heap.size, 2 * j * 5, none⟩ = some (.int .i64 x) := hA 0 _ rfl
        have a1 : wr.cell? ⟨w.heap.size, 2 * j * 5 + 1, none⟩ = some (.int .i64 y) := hA 1 _ rfl
        have a2 : wr.cell? ⟨w.heap.size, 2 * j * 5 + 2, none⟩ = some (.int .i64 x') := hA 2 _ rfl
        have a3 : wr.cell? ⟨w.heap.size, 2 * j * 5 + 3, none⟩ = some (.int .i64 y') := hA 3 _ rfl
        have a4 : wr.cell? ⟨w.heap.size, 2 * j * 5 + 4, none⟩ = some (.int .i64 n) := hA 4 _ rfl
        have LAp : Hid (Lies (wr.alloc (.cells #[.int .i64 x, .int .i64 y, .int .i64 x', .int .i64 y', .int .i64 n] 33)) w.heap.size (lvs xs m)) := LA1.out.alloc _
        have LBp : Hid (Lies (wr.alloc (.cells #[.int .i64 x, .int .i64 y, .int .i64 x', .int .i64 y', .int .i64 n] 33)) (w.heap.size + 1) (lvs M.z40 0)) := LB1.out.alloc _
        have LCp : Hid (Lies (wr.alloc (.cells #[.int .i64 x, .int .i64 y, .int .i64 x', .int .i64 y', .int .i64 n] 33)) (w.heap.size + 1 + 1) (lvs ys j)) := LC1.out.alloc _
        have LPp : Hid (Lies (wr.alloc (.cells #[.int .i64 x, .int .i64 y, .int .i64 x', .int .i64 y', .int .i64 n] 33)) wr.heap.size [.int .i64 x, .int .i64 y, .int .i64 x', .int .i64 y', .int .i64 n]) := lies_new _ _ _
        have HBp : Hid (Below w.heap.size w (wr.alloc (.cells #[.int .i64 x, .int .i64 y, .int .i64 x', .int .i64 y', .int .i64 n] 33))) := HB1.out.alloc HB1.out.size _
        have HZ : Hid (w.heap.size + 1 + 1 < wr.heap.size) := LC1.out.2.2
        have m1 : (wr.alloc (.cells #[.int .i64 x, .int .i64 y, .int .i64 x', .int .i64 y', .int .i64 n] 33)).cell? ⟨w.heap.size, 200, none⟩ = some (.int .i64 m) := (LAp.out.at 200).trans (lvs_many hx m)
        by_cases h2 : 2 * j + 1 < m
        · have h2I : 2 * (j : Int) + 1 < (m : Int) := by omega
          have hJ40 : 2 * (j : Int) + 1 < 40 := by omega
          have hJ0 : (0 : Int) ≤ 2 * (j : Int) + 1 := by omega
          have hJw : IntKind.i64.wrap (2 * (j : Int) + 1) = 2 * (j : Int) + 1 := by rw [IntKind.wrap_i64]; omega
          have hJt : (2 * (j : Int) + 1).toNat = 2 * j + 1 := by omega
          have hBc : ∀ k v, (cvs (xs.getD (2 * j + 1) M.c0))[k]? = some v → (lvs xs (m : Int))[(2 * j + 1) * 5 + k]? = some v := fun k v hv => lvs_at hx m (by omega) k v hv
          have HST2 := HST.out h2
          generalize hcb : xs.getD (2 * j + 1) M.c0 = cb at hBc HST2
          obtain ⟨⟨u, v⟩, ⟨u', v'⟩, p⟩ := cb
          have CJ := implJoined_any ⟨(x, y), (x', y'), n⟩ ⟨(u, v), (u', v'), p⟩
          have HR1 : Hid (M.joinOk ⟨(x, y), (x', y'), n⟩ ⟨(u, v), (u', v'), p⟩ = true → M.Same l (ys.take j ++ M.joinv ⟨(x, y), (x', y'), n⟩ ⟨(u, v), (u', v'), p⟩ :: (xs.take m).drop (2 * (j + 1)))) := fun h => HST2.join h
          have HR2 : Hid (M.joinOk ⟨(x, y), (x', y'), n⟩ ⟨(u, v), (u', v'), p⟩ = false → M.chain l = false) := fun h => HST2.bad h
          generalize M.joinOk ⟨(x, y), (x', y'), n⟩ ⟨(u, v), (u', v'), p⟩ = jo at CJ HR1 HR2
          generalize M.joinv ⟨(x, y), (x', y'), n⟩ ⟨(u, v), (u', v'), p⟩ = jv at CJ HR1
          obtain ⟨⟨j1, j2⟩, ⟨j3, j4⟩, j5⟩ := jv
          dsimp only [clv] at CJ
          have HK : Hid (∀ W, Below wr.heap.size (wr.alloc (.cells #[.int .i64 x, .int .i64 y, .int .i64 x', .int .i64 y', .int .i64 n] 33)) W → W.cell? ⟨w.heap.size, (2 * j + 1) * 5, none⟩ = some (.int .i64 u) ∧ W.cell? ⟨w.heap.size, (2 * j + 1) * 5 + 1, none⟩ = some (.int .i64 v) ∧ W.cell? ⟨w.heap.size, (2 * j + 1) * 5 + 2, none⟩ = some (.int .i64 u') ∧ W.cell? ⟨w.heap.size, (2 * j + 1) * 5 + 3, none⟩ = some (.int .i64 v') ∧ W.cell? ⟨w.heap.size, (2 * j + 1) * 5 + 4, none⟩ = some (.int .i64 p)) := fun W hW => by
            have l2 := LAp.out.below hW (by have := HZ.out; omega)
            exact ⟨(l2.at _).trans (hBc 0 _ rfl), (l2.at _).trans (hBc 1 _ rfl), (l2.at _).trans (hBc 2 _ rfl), (l2.at _).trans (hBc 3 _ rfl), (l2.at _).trans (hBc 4 _ rfl)⟩
          have HZ2 : Hid ((wr.alloc (.cells #[.int .i64 x, .int .i64 y, .int .i64 x', .int .i64 y', .int .i64 n] 33)).heap.size = wr.heap.size + 1) := by show _ = _; simp
          clear hA HST HSO HST2 hBc hca hcb HS1 HN1
          go_wp2
          clear a0 a1 a2 a3 a4 LA1 LB1 LC1 HB1 m0 m1
          generalize wr.alloc (.cells #[.int .i64 x, .int .i64 y, .int .i64 x', .int .i64 y', .int .i64 n] 33) = Wp at *
          have AJ : ∀ wc, Below (wr.heap.size + 1) Wp wc → Calls Tryz.prog 87 #[.agg #[.int .i64 x, .int .i64 y, .int .i64 x', .int .i64 y', .int .i64 n], .agg #[.int .i64 u, .int .i64 v, .int .i64 u', .int .i64 v', .int .i64 p]] wc fun e w' => e = .returned (.tuple #[.agg #[.int .i64 j1, .int .i64 j2, .int .i64 j3, .int .i64 j4, .int .i64 j5], .bool jo]) ∧ Below (wr.heap.size + 1) Wp w' := fun wc h => (CJ wc).mono fun _ _ hh => ⟨hh.1, h.trans (hh.2.mono (by have := h.size; have := HZ2.out; omega))⟩
          have hb0 : Below (wr.heap.size + 1) Wp Wp.drew := (Below.refl _ _).drew
          have hb1 : Below wr.heap.size Wp Wp.drew := (Below.refl _ _).drew
          obtain ⟨hp0, hp1, hp2, hp3, hp4, -⟩ := LPp.out.five
          have LQ : Hid (∀ W, Below (wr.heap.size + 1) Wp W → Lies W wr.heap.size [.int .i64 x, .int .i64 y, .int .i64 x', .int .i64 y', .int .i64 n]) := fun W h => LPp.out.below h (by omega)
          obtain ⟨hz0, hz1, hz2, hz3, hz4⟩ := HK.out _ (Below.refl _ _)
          go_region_with (go_at_call 87; refine (AJ _ (by with_reducible exact hb0)).mono ?_; rintro e v6 ⟨rfl, hbb⟩; have hbc : Below wr.heap.size Wp v6 := hbb.mono (by omega); have hq : Lies v6 wr.heap.size [.int .i64 x, .int .i64 y, .int .i64 x', .int .i64 y', .int .i64 n] := LQ.out _ hbb; obtain ⟨hq0, hq1, hq2, hq3, hq4, hf0, hf1, hf2, hf3, hf4⟩ := hq.five)
          all_goals
            have hR := leafS5 (v0 := .int .i64 j1) (v1 := .int .i64 j2) (v2 := .int .i64 j3) (v3 := .int .i64 j4) (v4 := .int .i64 j5) (B := w.heap.size) (a := w) (HBp.out.trans (hbb.mono (by have := HBp.out.size; have := HZ2.out; have := HZ.out; omega))) (by have := HZ.out; omega) hq
            have hA2 := hR.2.2 w.heap.size (lvs xs m) (by have := HZ.out; omega) (LAp.out.below hbb (by have := HZ.out; omega))
            have hB2 := hR.2.2 (w.heap.size + 1) (lvs M.z40 0) (by have := HZ.out; omega) (LBp.out.below hbb (by have := HZ.out; omega))
            have hC2 := hR.2.2 (w.heap.size + 1 + 1) (lvs ys j) (by have := HZ.out; omega) (LCp.out.below hbb (by have := HZ.out; omega))
            generalize (((((v6.setCell _ _).setCell _ _).setCell _ _).setCell _ _).setCell _ _) = V at hR hA2 hB2 hC2 ⊢
            obtain ⟨hBV, hLV, -⟩ := hR
            have LA2 : Hid (Lies V w.heap.size (lvs xs m)) := hA2
            have LB2 : Hid (Lies V (w.heap.size + 1) (lvs M.z40 0)) := hB2
            have LC2 : Hid (Lies V (w.heap.size + 1 + 1) (lvs ys j)) := hC2
            have LP2 : Hid (Lies V wr.heap.size [.int .i64 j1, .int .i64 j2, .int .i64 j3, .int .i64 j4, .int .i64 j5]) := hLV
            have HB2 : Hid (Below w.heap.size w V) := hBV
            clear hBV hLV hA2 hB2 hC2 hq hbb hbc hb1 hz0 hz1 hz2 hz3 hz4 hp0 hp1 hp2 hp3 hp4 hq0 hq1 hq2 hq3 hq4 hf0 hf1 hf2 hf3 hf4 HK LQ AJ hb0 CJ LAp LBp LCp LPp HBp
            have tA : V.there (w.heap.size + 1 + 1) (j * 5) (cvs (⟨(j1, j2), (j3, j4), j5⟩ : M.Cl)).toArray.size := LC2.out.there _ 5 (by rw [lvs_len HY.out]; omega)
            have iA : (Tryz.prog.info? 33).map (·.size) = some (cvs (⟨(j1, j2), (j3, j4), j5⟩ : M.Cl)).toArray.size := cl_size
            have oA : (cvs (⟨(j1, j2), (j3, j4), j5⟩ : M.Cl)).toArray.all (·.oneCell') = true := cl_one
            have q0 : V.cell? ⟨w.heap.size + 1 + 1, 200, none⟩ = some (.int .i64 (j : Int)) := (LC2.out.at 200).trans (lvs_many HY.out _)
            have e0 : V.cell? ⟨wr.heap.size, 0, none⟩ = some (.int .i64 j1) := LP2.out.at 0
            have e1 : V.cell? ⟨wr.heap.size, 1, none⟩ = some (.int .i64 j2) := LP2.out.at 1
            have e2 : V.cell? ⟨wr.heap.size, 2, none⟩ = some (.int .i64 j3) := LP2.out.at 2
            have e3 : V.cell? ⟨wr.heap.size, 3, none⟩ = some (.int .i64 j4) := LP2.out.at 3
            have e4 : V.cell? ⟨wr.heap.size, 4, none⟩ = some (.int .i64 j5) := LP2.out.at 4
            have LC3 : Hid (Lies (V.setCells (w.heap.size + 1 + 1) (j * 5) (cvs (⟨(j1, j2), (j3, j4), j5⟩ : M.Cl))) (w.heap.size + 1 + 1) (lvs (ys.set j (⟨(j1, j2), (j3, j4), j5⟩ : M.Cl)) (j : Int))) := by
              have := LC2.out.setCells (cvs (⟨(j1, j2), (j3, j4), j5⟩ : M.Cl)) (j * 5) (by rw [lvs_len HY.out]; simp [cvs]; omega)
              rwa [lvs_set HY.out _ (by omega)] at this
            have HY3 : Hid ((ys.set j (⟨(j1, j2), (j3, j4), j5⟩ : M.Cl)).length = 40) := by show _ = _; rw [List.length_set]; exact HY.out
            have LA3 : Hid (Lies (V.setCells (w.heap.size + 1 + 1) (j * 5) (cvs (⟨(j1, j2), (j3, j4), j5⟩ : M.Cl))) w.heap.size (lvs xs m)) := LA2.out.farCells _ _ (by omega)
            have LB3 : Hid (Lies (V.setCells (w.heap.size + 1 + 1) (j * 5) (cvs (⟨(j1, j2), (j3, j4), j5⟩ : M.Cl))) (w.heap.size + 1) (lvs M.z40 0)) := LB2.out.farCells _ _ (by omega)
            have HB3 : Hid (Below w.heap.size w (V.setCells (w.heap.size + 1 + 1) (j * 5) (cvs (⟨(j1, j2), (j3, j4), j5⟩ : M.Cl)))) := below_setCells _ _ HB2.out (by omega)
            have q1 : (V.setCells (w.heap.size + 1 + 1) (j * 5) (cvs (⟨(j1, j2), (j3, j4), j5⟩ : M.Cl))).cell? ⟨w.heap.size + 1 + 1, 200, none⟩ = some (.int .i64 (j : Int)) := (LC3.out.at 200).trans (lvs_many HY3.out _)
            have q2 : (V.setCells (w.heap.size + 1 + 1) (j * 5) (cvs (⟨(j1, j2), (j3, j4), j5⟩ : M.Cl))).frozen? ⟨w.heap.size + 1 + 1, 200, none⟩ = false := LC3.out.fr 200
            go_wp2_with (with_reducible refine wpList_stop 36 ?_ ?_; rfl)
            show wpList _ _ _ _ _ _
            go_wp2_with (with_reducible refine wpList_stopn ?_ ?_; rfl)
            show wpList _ _ _ _ _ _
            with_reducible refine wpList_store_mid ?_ 33 (.tmp 40) (.tmp 38) ?_ (w.heap.size + 1 + 1) (j * 5) (cvs (⟨(j1, j2), (j3, j4), j5⟩ : M.Cl)).toArray ?_ ?_ tA iA oA ?_
            exact rfl
            exact rfl
            exact rfl
            exact rfl
            clear tA iA oA q0 e0 e1 e2 e3 e4 LA2 LB2 LC2 LP2 HB2
            show wpList _ _ _ _ _ (V.setCells (w.heap.size + 1 + 1) (j * 5) (cvs (⟨(j1, j2), (j3, j4), j5⟩ : M.Cl)))
            generalize V.setCells (w.heap.size + 1 + 1) (j * 5) (cvs (⟨(j1, j2), (j3, j4), j5⟩ : M.Cl)) = V2 at *
            go_wp2
            go_roundw
            case rel =>
              have L4 := LC3.out.set 200 (by rw [lvs_len HY3.out]; omega) (.int .i64 ((j + 1 : Nat) : Int))
              rw [lvs_set_many HY3.out] at L4
              exact ⟨j + 1, jo, ys.set j (⟨(j1, j2), (j3, j4), j5⟩ : M.Cl), rfl, by go_num, HY3.out, by omega, LA3.out.far (by omega) _ _, LB3.out.far (by omega) _ _, L4, fun h => by rw [take_set (by have := HY.out; omega), List.append_assoc]; exact HR1.out h, fun h => HR2.out h, HB3.out.setCell (show w.heap.size ≤ w.heap.size + 1 + 1 by omega) _⟩
            case measure => simp [intOf]; omega
        · have h2I : ¬ (2 * (j : Int) + 1 < (m : Int)) := by omega
          have LA2 := LAp
          have LB2 := LBp
          have LC2 := LCp
          have LP2 := LPp
          have HB2 := HBp
          have HSo := HSO.out (by omega)
          clear hA HST HSO hca HS1 HN1 LAp LBp LCp LPp HBp
          have tA : (wr.alloc (.cells #[.int .i64 x, .int .i64 y, .int .i64 x', .int .i64 y', .int .i64 n] 33)).there (w.heap.size + 1 + 1) (j * 5) (cvs (⟨(x, y), (x', y'), n⟩ : M.Cl)).toArray.size := LC2.out.there _ 5 (by rw [lvs_len HY.out]; omega)
          have iA : (Tryz.prog.info? 33).map (·.size) = some (cvs (⟨(x, y), (x', y'), n⟩ : M.Cl)).toArray.size := cl_size
          have oA : (cvs (⟨(x, y), (x', y'), n⟩ : M.Cl)).toArray.all (·.oneCell') = true := cl_one
          have q0 : (wr.alloc (.cells #[.int .i64 x, .int .i64 y, .int .i64 x', .int .i64 y', .int .i64 n] 33)).cell? ⟨w.heap.size + 1 + 1, 200, none⟩ = some (.int .i64 (j : Int)) := (LC2.out.at 200).trans (lvs_many HY.out _)
          have e0 : (wr.alloc (.cells #[.int .i64 x, .int .i64 y, .int .i64 x', .int .i64 y', .int .i64 n] 33)).cell? ⟨wr.heap.size, 0, none⟩ = some (.int .i64 x) := LP2.out.at 0
          have e1 : (wr.alloc (.cells #[.int .i64 x, .int .i64 y, .int .i64 x', .int .i64 y', .int .i64 n] 33)).cell? ⟨wr.heap.size, 1, none⟩ = some (.int .i64 y) := LP2.out.at 1
          have e2 : (wr.alloc (.cells #[.int .i64 x, .int .i64 y, .int .i64 x', .int .i64 y', .int .i64 n] 33)).cell? ⟨wr.heap.size, 2, none⟩ = some (.int .i64 x') := LP2.out.at 2
          have e3 : (wr.alloc (.cells #[.int .i64 x, .int .i64 y, .int .i64 x', .int .i64 y', .int .i64 n] 33)).cell? ⟨wr.heap.size, 3, none⟩ = some (.int .i64 y') := LP2.out.at 3
          have e4 : (wr.alloc (.cells #[.int .i64 x, .int .i64 y, .int .i64 x', .int .i64 y', .int .i64 n] 33)).cell? ⟨wr.heap.size, 4, none⟩ = some (.int .i64 n) := LP2.out.at 4
          have LC3 : Hid (Lies ((wr.alloc (.cells #[.int .i64 x, .int .i64 y, .int .i64 x', .int .i64 y', .int .i64 n] 33)).setCells (w.heap.size + 1 + 1) (j * 5) (cvs (⟨(x, y), (x', y'), n⟩ : M.Cl))) (w.heap.size + 1 + 1) (lvs (ys.set j (⟨(x, y), (x', y'), n⟩ : M.Cl)) (j : Int))) := by
            have := LC2.out.setCells (cvs (⟨(x, y), (x', y'), n⟩ : M.Cl)) (j * 5) (by rw [lvs_len HY.out]; simp [cvs]; omega)
            rwa [lvs_set HY.out _ (by omega)] at this
          have HY3 : Hid ((ys.set j (⟨(x, y), (x', y'), n⟩ : M.Cl)).length = 40) := by show _ = _; rw [List.length_set]; exact HY.out
          have LA3 : Hid (Lies ((wr.alloc (.cells #[.int .i64 x, .int .i64 y, .int .i64 x', .int .i64 y', .int .i64 n] 33)).setCells (w.heap.size + 1 + 1) (j * 5) (cvs (⟨(x, y), (x', y'), n⟩ : M.Cl))) w.heap.size (lvs xs m)) := LA2.out.farCells _ _ (by omega)
          have LB3 : Hid (Lies ((wr.alloc (.cells #[.int .i64 x, .int .i64 y, .int .i64 x', .int .i64 y', .int .i64 n] 33)).setCells (w.heap.size + 1 + 1) (j * 5) (cvs (⟨(x, y), (x', y'), n⟩ : M.Cl))) (w.heap.size + 1) (lvs M.z40 0)) := LB2.out.farCells _ _ (by omega)
          have HB3 : Hid (Below w.heap.size w ((wr.alloc (.cells #[.int .i64 x, .int .i64 y, .int .i64 x', .int .i64 y', .int .i64 n] 33)).setCells (w.heap.size + 1 + 1) (j * 5) (cvs (⟨(x, y), (x', y'), n⟩ : M.Cl)))) := below_setCells _ _ HB2.out (by omega)
          have q1 : ((wr.alloc (.cells #[.int .i64 x, .int .i64 y, .int .i64 x', .int .i64 y', .int .i64 n] 33)).setCells (w.heap.size + 1 + 1) (j * 5) (cvs (⟨(x, y), (x', y'), n⟩ : M.Cl))).cell? ⟨w.heap.size + 1 + 1, 200, none⟩ = some (.int .i64 (j : Int)) := (LC3.out.at 200).trans (lvs_many HY3.out _)
          have q2 : ((wr.alloc (.cells #[.int .i64 x, .int .i64 y, .int .i64 x', .int .i64 y', .int .i64 n] 33)).setCells (w.heap.size + 1 + 1) (j * 5) (cvs (⟨(x, y), (x', y'), n⟩ : M.Cl))).frozen? ⟨w.heap.size + 1 + 1, 200, none⟩ = false := LC3.out.fr 200
          go_wp2_with (with_reducible refine wpList_stop 36 ?_ ?_; rfl)
          generalize (wr.alloc (.cells #[.int .i64 x, .int .i64 y, .int .i64 x', .int .i64 y', .int .i64 n] 33)) = V at *
          show wpList _ _ _ _ _ _
          go_wp2_with (with_reducible refine wpList_stopn ?_ ?_; rfl)
          show wpList _ _ _ _ _ _
          with_reducible refine wpList_store_mid ?_ 33 (.tmp 40) (.tmp 38) ?_ (w.heap.size + 1 + 1) (j * 5) (cvs (⟨(x, y), (x', y'), n⟩ : M.Cl)).toArray ?_ ?_ tA iA oA ?_
          exact rfl
          exact rfl
          exact rfl
          exact rfl
          clear tA iA oA q0 e0 e1 e2 e3 e4 LA2 LB2 LC2 LP2 HB2
          show wpList _ _ _ _ _ (V.setCells (w.heap.size + 1 + 1) (j * 5) (cvs (⟨(x, y), (x', y'), n⟩ : M.Cl)))
          generalize V.setCells (w.heap.size + 1 + 1) (j * 5) (cvs (⟨(x, y), (x', y'), n⟩ : M.Cl)) = V2 at *
          go_wp2
          go_roundw
          case rel =>
            have L4 := LC3.out.set 200 (by rw [lvs_len HY3.out]; omega) (.int .i64 ((j + 1 : Nat) : Int))
            rw [lvs_set_many HY3.out] at L4
            exact ⟨j + 1, true, ys.set j (⟨(x, y), (x', y'), n⟩ : M.Cl), rfl, by go_num, HY3.out, by omega, LA3.out.far (by omega) _ _, LB3.out.far (by omega) _ _, L4, fun _ => by rw [take_set (by have := HY.out; omega), List.append_assoc]; exact HSo, fun h => by simp at h, HB3.out.setCell (show w.heap.size ≤ w.heap.size + 1 + 1 by omega) _⟩
          case measure => simp [intOf]; omega
      · have hgeI : ¬ (2 * (j : Int) < (m : Int)) := by omega
        have HSe : Hid (M.Same l (ys.take j)) := by
          have := HS1.out (by simp)
          rw [List.drop_of_length_le (by simp; omega), List.append_nil] at this
          exact this
        have hr : wr.rangeAt (w.heap.size + 1 + 1) 0 (lvs ys j) := LC1.out.row
        have hi : (Tryz.prog.info? 113).map (·.size) = some (lvs ys (j : Int)).length := by rw [lvs_len HY.out]; exact lv_size
        have hiA : (Tryz.prog.info? 113).map (·.size) = some (lvs ys (j : Int)).toArray.size := hi
        have htA : wr.there (w.heap.size + 1) 0 (lvs ys (j : Int)).toArray.size := by rw [show (lvs ys (j : Int)).toArray.size = 201 from lvs_len HY.out _]; exact LB1.out.there 0 201 (by rw [lvs_len z40_len]; omega)
        have h1A : (lvs ys (j : Int)).toArray.all (·.oneCell') = true := all_oneCell_toArray lvs_one
        have L4 : Hid (Lies (wr.setCells (w.heap.size + 1) 0 (lvs ys (j : Int))) (w.heap.size + 1) (lvs ys (j : Int))) := by
          have := LB1.out.setCells (lvs ys (j : Int)) 0 (by rw [lvs_len HY.out, lvs_len z40_len]; omega)
          rwa [spl_all (by rw [lvs_len HY.out, lvs_len z40_len])] at this
        have hlen : Hid ((lvs ys (j : Int)).length = 201) := lvs_len HY.out _
        go_wp2_with (first | (refine wpList_load_mid rfl 113 _ rfl (w.heap.size + 1 + 1) 0 rfl (lvs ys (j : Int)) _ hr Tryz.underlying113 rfl hi ?_) | (refine wpList_store_mid rfl 113 _ _ rfl (w.heap.size + 1) 0 (lvs ys (j : Int)).toArray rfl rfl htA hiA h1A ?_))
        exact bodyPost_ret (results_cell_tmp rfl rfl (load_lv L4.out hlen.out)) rfl ⟨_, rfl, ⟨ys, j, true, rfl, HY.out, hj, fun _ => ⟨by omega, HSe.out⟩, fun h => by simp at h⟩, below_setCells _ _ HB1.out (by omega)⟩
end Go.Proofs.YtfhknkppiidnkaaGreat
namespace Go.Proofs.YtfhknkppiidnkaaGreat
open Go.RowKit

def M.Leveled (n : Nat) (cs : List M.Cl) (v : Value) : Prop := ∃ (X : List M.Cl) (k : Nat) (o : Bool), v = .tuple #[lvv X k, .bool o] ∧ X.length = 40 ∧ k ≤ 40 ∧ (o = true → 1 ≤ n ∧ n ≤ 40 ∧ k = n ∧ X.take k = cs) ∧ (o = false → M.allOk cs = false)
def LjR (cs : List M.Cl) (w : World) (L : Nat) (ok : Value) (wr : World) : Prop := ∃ (o : Bool) (xs : List M.Cl) (k : Nat), ok = .bool o ∧ xs.length = 40 ∧ k ≤ 40 ∧ Lies wr w.heap.size [.int .i64 0, .int .i64 0, .int .i64 0, .int .i64 0, .int .i64 0] ∧ Lies wr L (lvs xs k) ∧ (o = true → 1 ≤ cs.length ∧ cs.length ≤ 40 ∧ M.Same cs (xs.take k)) ∧ (o = false → M.allOk cs = false) ∧ Below w.heap.size w wr
def LjM (L : Nat) (wr : World) : Nat := (intOf ((wr.cell? ⟨L, 200, none⟩).getD (.bool false))).toNat
theorem ljm_of {L : Nat} {wr : World} {xs : List M.Cl} {k : Nat} (hx : xs.length = 40) (h : Lies wr L (lvs xs k)) : LjM L wr = k := by
  unfold LjM; rw [h.at 200, lvs_many hx]; simp [intOf]
theorem M.allOk_in {cs : List M.Cl} (h1 : 1 ≤ cs.length) (h2 : cs.length ≤ 40) : M.allOk cs = M.chain cs := by
  unfold M.allOk; rw [decide_eq_true h1, decide_eq_true h2]; rfl
theorem M.allOk_no {cs : List M.Cl} (h : cs.length < 1 ∨ 40 < cs.length) : M.allOk cs = false := by
  unfold M.allOk
  rcases h with h | h
  · rw [decide_eq_false (by omega)]; rfl
  · rw [decide_eq_false (show ¬ cs.length ≤ 40 by omega)]; simp
theorem M.clOk_c0 : M.clOk M.c0 = false := by decide
theorem claimLevelOf_any {a : Option Addr} {n cap : Nat} {cs : List M.Cl} (w : World) (hs : SeesC w a n cap cs) :
    Calls Tryz.prog 51 #[.slice a n cap] w fun e w' => ∃ v, e = .returned v ∧ M.Leveled n cs v ∧ Below w.heap.size w w' := by
  have hl := hs.len
  by_cases h : 1 ≤ n ∧ n ≤ 40
  · obtain ⟨b, off, rfl, -⟩ := hs.at (by omega)
    refine (claimLevelOf_yes w hs h.1 h.2).mono ?_
    rintro e w' ⟨rfl, hb⟩
    exact ⟨_, rfl, ⟨_, n, true, rfl, len_z40 (by omega), h.2, fun _ => ⟨h.1, h.2, rfl, by rw [← hl]; exact take_z40⟩, fun h => by simp at h⟩, hb⟩
  · have hb := hs.big
    have hle := hs.le
    refine (claimLevelOf_no w (by omega) (by omega)).mono ?_
    rintro e w' ⟨rfl, hb⟩
    exact ⟨_, rfl, ⟨_, 0, false, rfl, z40_len, by omega, fun h => by simp at h, fun _ => M.allOk_no (by omega)⟩, hb⟩
set_option maxHeartbeats 4000000 in
set_option maxRecDepth 100000 in
theorem implJoinedAll_core {a : Option Addr} {n cap : Nat} {cs : List M.Cl} (w : World) (hcl : cs.length = n)
    (HC : Calls Tryz.prog 51 #[.slice a n cap] (w.alloc (.cells #[.int .i64 0, .int .i64 0, .int .i64 0, .int .i64 0, .int .i64 0] 33)) fun e w' => ∃ v, e = .returned v ∧ M.Leveled n cs v ∧ Below (w.alloc (.cells #[.int .i64 0, .int .i64 0, .int .i64 0, .int .i64 0, .int .i64 0] 33)).heap.size (w.alloc (.cells #[.int .i64 0, .int .i64 0, .int .i64 0, .int .i64 0, .int .i64 0] 33)) w') :
    Calls Tryz.prog 24 #[.slice a n cap] w fun e w' => e = .returned (.tuple #[clv (M.allv cs), .bool (M.allOk cs)]) ∧ Below w.heap.size w w' := by
  have HB0 : Hid (Below w.heap.size w (w.alloc (.cells #[.int .i64 0, .int .i64 0, .int .i64 0, .int .i64 0, .int .i64 0] 33))) := (Below.refl _ _).alloc (Nat.le_refl _) _
  have LZ0 : Hid (Lies (w.alloc (.cells #[.int .i64 0, .int .i64 0, .int .i64 0, .int .i64 0, .int .i64 0] 33)) w.heap.size [.int .i64 0, .int .i64 0, .int .i64 0, .int .i64 0, .int .i64 0]) := lies_new _ _ _
  go_enter Tryz.func24, Tryz.ntmps24
  go_wp2_with fail
  refine HC.mono ?_
  rintro e w1 ⟨v, rfl, ⟨X, k, o, rfl, hX, hk, hyes, hno⟩, hb1⟩
  have HB1 : Hid (Below w.heap.size w (w1.alloc (.cells Tryz.zeroCells113 113))) := (HB0.out.trans (hb1.mono HB0.out.size)).alloc (Nat.le_trans HB0.out.size hb1.size) _
  have LZ1 : Hid (Lies (w1.alloc (.cells Tryz.zeroCells113 113)) w.heap.size [.int .i64 0, .int .i64 0, .int .i64 0, .int .i64 0, .int .i64 0]) := (LZ0.out.belowS hb1).alloc _
  have LL1 : Hid (Lies (w1.alloc (.cells Tryz.zeroCells113 113)) w1.heap.size (lvs M.z40 0)) := lies_zc w1
  have HZ : Hid (w.heap.size < w1.heap.size) := (LZ0.out.belowS hb1).2.2
  have HX : Hid (X.length = 40) := hX
  have HY : Hid (o = true → 1 ≤ n ∧ n ≤ 40 ∧ k = n ∧ X.take k = cs) := hyes
  have HN : Hid (o = false → M.allOk cs = false) := hno
  have HCL : Hid (cs.length = n) := hcl
  clear hb1 hX hyes hno HC LZ0 HB0 hcl
  unfold lvv
  have iA : (Tryz.prog.info? 113).map (·.size) = some (lvs X (k : Int)).toArray.size := by rw [show (lvs X (k : Int)).toArray.size = 201 from lvs_len HX.out _]; exact lv_size
  have tA : (w1.alloc (.cells Tryz.zeroCells113 113)).there w1.heap.size 0 (lvs X (k : Int)).toArray.size := by rw [show (lvs X (k : Int)).toArray.size = 201 from lvs_len HX.out _]; exact LL1.out.there 0 201 (by rw [lvs_len z40_len]; omega)
  have oA : (lvs X (k : Int)).toArray.all (·.oneCell') = true := all_oneCell_toArray lvs_one
  go_wp2_with (with_reducible refine wpList_stopn ?_ ?_; rfl)
  show wpList _ _ _ _ _ _
  with_reducible refine wpList_store_mid ?_ 113 (.tmp 4) (.tmp 9) ?_ w1.heap.size 0 (lvs X (k : Int)).toArray ?_ ?_ tA iA oA ?_
  exact rfl
  exact rfl
  exact rfl
  exact rfl
  have LL2 : Hid (Lies ((w1.alloc (.cells Tryz.zeroCells113 113)).setCells w1.heap.size 0 (lvs X (k : Int))) w1.heap.size (lvs X k)) := by
    have := LL1.out.setCells (lvs X (k : Int)) 0 (by rw [lvs_len HX.out, lvs_len z40_len]; omega)
    rwa [spl_all (by rw [lvs_len HX.out, lvs_len z40_len])] at this
  have LZ2 : Hid (Lies ((w1.alloc (.cells Tryz.zeroCells113 113)).setCells w1.heap.size 0 (lvs X (k : Int))) w.heap.size [.int .i64 0, .int .i64 0, .int .i64 0, .int .i64 0, .int .i64 0]) := LZ1.out.farCells _ _ (by have := HZ.out; omega)
  have HB2 : Hid (Below w.heap.size w ((w1.alloc (.cells Tryz.zeroCells113 113)).setCells w1.heap.size 0 (lvs X (k : Int)))) := below_setCells _ _ HB1.out (by have := HZ.out; omega)
  show wpList _ _ _ _ _ ((w1.alloc (.cells Tryz.zeroCells113 113)).setCells w1.heap.size 0 (lvs X (k : Int)))
  clear tA iA oA LL1 LZ1 HB1
  generalize (w1.alloc (.cells Tryz.zeroCells113 113)).setCells w1.heap.size 0 (lvs X (k : Int)) = V at *
  generalize w1.heap.size = lv at *
  have HF : Hid (∀ (W : World), Lies W w.heap.size [.int .i64 0, .int .i64 0, .int .i64 0, .int .i64 0, .int .i64 0] → Lies W lv (lvs X k) → Below w.heap.size w W → (o = true → M.clOk (cs.headD M.c0) = true) → LjR cs w lv (.bool o) W) := fun W h1 h2 h3 h4 => ⟨o, X, k, rfl, HX.out, hk, h1, h2, fun h => by
      obtain ⟨g1, g2, rfl, g4⟩ := HY.out h
      rw [HCL.out]
      exact ⟨g1, g2, by rw [g4]; exact M.Same.refl (h4 h)⟩, HN.out, h3⟩
  have HG : Hid (∀ (W : World), Lies W w.heap.size [.int .i64 0, .int .i64 0, .int .i64 0, .int .i64 0, .int .i64 0] → Lies W lv (lvs X k) → Below w.heap.size w W → M.clOk (cs.headD M.c0) = false → LjR cs w lv (.bool false) W) := fun W h1 h2 h3 h4 => ⟨false, X, k, rfl, HX.out, hk, h1, h2, fun h => by simp at h, fun _ => M.allOk_bad h4, h3⟩
  have HD : Hid (o = true → X.getD 0 M.c0 = cs.headD M.c0) := fun h => by
    obtain ⟨g1, g2, rfl, g4⟩ := HY.out h
    rw [← g4]
    cases X with
    | nil => have := HX.out; simp at this
    | cons x X => cases k with
      | zero => omega
      | succ k => rfl
  cases o with
  | false =>
    have ST : Hid (LjR cs w lv (.bool false) V) := HF.out V LZ2.out LL2.out HB2.out (fun h => by simp at h)
    clear LZ2 LL2 HB2 HF HG HD HY HN HX hk HCL
    go_wp2
    go_loopw [5] (fun ok wr => LjR cs w lv ok wr) (fun _ wr => LjM lv wr)
    case atStart => exact ST.out
    case round =>
      obtain ⟨o, xs, k, rfl, hx, hk, lz, ll, hyes, hno, hb⟩ := hrel
      have HX : Hid (xs.length = 40) := hx
      have LZ : Hid (Lies wr w.heap.size [.int .i64 0, .int .i64 0, .int .i64 0, .int .i64 0, .int .i64 0]) := lz
      have LL : Hid (Lies wr lv (lvs xs k)) := ll
      have HY : Hid (o = true → 1 ≤ cs.length ∧ cs.length ≤ 40 ∧ M.Same cs (xs.take k)) := hyes
      have HN : Hid (o = false → M.allOk cs = false) := hno
      have HBr : Hid (Below w.heap.size w wr) := hb
      have m0 : wr.cell? ⟨lv, 200, none⟩ = some (.int .i64 k) := (ll.at 200).trans (lvs_many hx k)
      have HM : Hid (LjM lv wr = k) := ljm_of hx ll
      clear lz ll hyes hno hb hx ST
      cases o with
      | false =>
        have z0 : wr.cell? ⟨w.heap.size, 0, none⟩ = some (.int .i64 0) := LZ.out.at 0
        have y0 : wr.frozen? ⟨w.heap.size, 0, none⟩ = false := LZ.out.fr 0
        have z1 : wr.cell? ⟨w.heap.size, 1, none⟩ = some (.int .i64 0) := LZ.out.at 1
        have y1 : wr.frozen? ⟨w.heap.size, 1, none⟩ = false := LZ.out.fr 1
        have z2 : wr.cell? ⟨w.heap.size, 2, none⟩ = some (.int .i64 0) := LZ.out.at 2
        have y2 : wr.frozen? ⟨w.heap.size, 2, none⟩ = false := LZ.out.fr 2
        have z3 : wr.cell? ⟨w.heap.size, 3, none⟩ = some (.int .i64 0) := LZ.out.at 3
        have y3 : wr.frozen? ⟨w.heap.size, 3, none⟩ = false := LZ.out.fr 3
        have z4 : wr.cell? ⟨w.heap.size, 4, none⟩ = some (.int .i64 0) := LZ.out.at 4
        have y4 : wr.frozen? ⟨w.heap.size, 4, none⟩ = false := LZ.out.fr 4
        have HNO : Hid (M.allOk cs = false) := HN.out (by simp)
        go_wp2
        refine bodyPost_ret (v := .tuple #[.agg #[.int .i64 0, .int .i64 0, .int .i64 0, .int .i64 0, .int .i64 0], .bool false]) (by simp [results, Tryz.results24, go_sem, z0, z1, z2, z3, z4]) rfl ⟨by rw [M.allv_out HNO.out, HNO.out]; rfl, ?_⟩
        exact ((((HBr.out.setCell (Nat.le_refl _) _).setCell (Nat.le_refl _) _).setCell (Nat.le_refl _) _).setCell (Nat.le_refl _) _).setCell (Nat.le_refl _) _
      | true =>
        obtain ⟨hc1, hc40, hsame⟩ := HY.out (by simp)
        by_cases h1 : 1 < k
        · have h1I : (1 : Int) < (k : Int) := by omega
          have HS : Hid (M.Same cs (xs.take k)) := hsame
          have hC1 : Hid (1 ≤ cs.length) := hc1
          have hC40 : Hid (cs.length ≤ 40) := hc40
          have CP := paired_any (xs := xs) (m := k) (l := cs) wr HX.out hk hsame
          have iL : (Tryz.prog.info? 113).map (·.size) = some (lvs xs (k : Int)).length := by rw [lvs_len HX.out]; exact lv_size
          have rL : wr.rangeAt lv 0 (lvs xs (k : Int)) := LL.out.row
          clear hc1 hc40 hsame
          go_wp2_with (with_reducible refine wpList_stop 25 ?_ ?_; rfl)
          show wpList _ _ _ _ _ _
          with_reducible refine wpList_load_mid ?_ 113 (.tmp 4) ?_ lv 0 ?_ (lvs xs (k : Int)) _ rL Tryz.underlying113 ?_ iL ?_
          exact rfl
          exact rfl
          exact rfl
          exact rfl
          unfold lvv at CP
          go_wp2_with fail
          refine CP.mono ?_
          rintro e w2 ⟨v, rfl, ⟨ys, k2, o2, rfl, hy, hk2, hyes, hno⟩, hb2⟩
          have HY2 : Hid (ys.length = 40) := hy
          have HS2 : Hid (o2 = true → k2 = (k + 1) / 2 ∧ M.Same cs (ys.take k2)) := hyes
          have HN2 : Hid (o2 = false → M.chain cs = false) := hno
          have LZ2 : Hid (Lies w2 w.heap.size [.int .i64 0, .int .i64 0, .int .i64 0, .int .i64 0, .int .i64 0]) := LZ.out.belowS hb2
          have LL2 : Hid (Lies w2 lv (lvs xs k)) := LL.out.belowS hb2
          have HB2 : Hid (Below w.heap.size w w2) := HBr.out.trans (hb2.mono HBr.out.size)
          clear hb2 hy hyes hno CP iL rL
          unfold lvv
          have iA : (Tryz.prog.info? 113).map (·.size) = some (lvs ys (k2 : Int)).toArray.size := by rw [show (lvs ys (k2 : Int)).toArray.size = 201 from lvs_len HY2.out _]; exact lv_size
          have tA : w2.there lv 0 (lvs ys (k2 : Int)).toArray.size := by rw [show (lvs ys (k2 : Int)).toArray.size = 201 from lvs_len HY2.out _]; exact LL2.out.there 0 201 (by rw [lvs_len HX.out]; omega)
          have oA : (lvs ys (k2 : Int)).toArray.all (·.oneCell') = true := all_oneCell_toArray lvs_one
          go_wp2_with (with_reducible refine wpList_stopn ?_ ?_; rfl)
          show wpList _ _ _ _ _ _
          with_reducible refine wpList_store_mid ?_ 113 (.tmp 4) (.tmp 27) ?_ lv 0 (lvs ys (k2 : Int)).toArray ?_ ?_ tA iA oA ?_
          exact rfl
          exact rfl
          exact rfl
          exact rfl
          have LL3 : Hid (Lies (w2.setCells lv 0 (lvs ys (k2 : Int))) lv (lvs ys k2)) := by
            have := LL2.out.setCells (lvs ys (k2 : Int)) 0 (by rw [lvs_len HY2.out, lvs_len HX.out]; omega)
            rwa [spl_all (by rw [lvs_len HY2.out, lvs_len HX.out])] at this
          have LZ3 : Hid (Lies (w2.setCells lv 0 (lvs ys (k2 : Int))) w.heap.size [.int .i64 0, .int .i64 0, .int .i64 0, .int .i64 0, .int .i64 0]) := LZ2.out.farCells _ _ (by have := HZ.out; omega)
          have HB3 : Hid (Below w.heap.size w (w2.setCells lv 0 (lvs ys (k2 : Int)))) := below_setCells _ _ HB2.out (by have := HZ.out; omega)
          show wpList _ _ _ _ _ (w2.setCells lv 0 (lvs ys (k2 : Int)))
          clear tA iA oA LL2 LZ2 HB2
          generalize w2.setCells lv 0 (lvs ys (k2 : Int)) = w3 at *
          go_wp2
          go_roundw
          case rel => exact ⟨o2, ys, k2, rfl, HY2.out, by omega, LZ3.out, LL3.out, fun h => ⟨hC1.out, hC40.out, (HS2.out h).2⟩, fun h => by rw [M.allOk_in hC1.out hC40.out]; exact HN2.out h, HB3.out⟩
          case measure => rw [ljm_of HY2.out LL3.out, HM.out]; omega
        · have h1I : ¬ ((1 : Int) < (k : Int)) := by omega
          have hk1 : k = 1 := by
            rcases Nat.lt_or_ge k 1 with h | h
            · have e : k = 0 := by omega
              subst e
              have := hsame.hd
              rw [List.take_zero] at this
              exact absurd (M.clOk_c0.symm.trans this) (by decide)
            · omega
          subst hk1
          have hA : ∀ j v, (cvs (xs.getD 0 M.c0))[j]? = some v → wr.cell? ⟨lv, j, none⟩ = some v := fun j v hv => (LL.out.at _).trans (by have := lvs_at HX.out 1 (i := 0) (by omega) j v hv; simpa using this)
          have hone : xs.take 1 = [xs.getD 0 M.c0] := by
            have h := HX.out
            cases xs with
            | nil => simp at h
            | cons x xs => rfl
          rw [hone] at hsame
          obtain ⟨hch, hwh⟩ := hsame.one
          have hok : M.allOk cs = true := by rw [M.allOk_in hc1 hc40]; exact hch
          have HOK : Hid (M.allOk cs = true) := hok
          have HWH : Hid (M.allv cs = xs.getD 0 M.c0) := by show _ = _; rw [M.allv_in hok, hwh]
          clear hsame hone hch hwh hok hc1 hc40 HY HN
          generalize xs.getD 0 M.c0 = c0 at hA HWH
          obtain ⟨⟨x, y⟩, ⟨x', y'⟩, n⟩ := c0
          have a0 : wr.cell? ⟨lv, 0, none⟩ = some (.int .i64 x) := hA 0 _ rfl
          have a1 : wr.cell? ⟨lv, 1, none⟩ = some (.int .i64 y) := hA 1 _ rfl
          have a2 : wr.cell? ⟨lv, 2, none⟩ = some (.int .i64 x') := hA 2 _ rfl
          have a3 : wr.cell? ⟨lv, 3, none⟩ = some (.int .i64 y') := hA 3 _ rfl
          have a4 : wr.cell? ⟨lv, 4, none⟩ = some (.int .i64 n) := hA 4 _ rfl
          have z0 : wr.cell? ⟨w.heap.size, 0, none⟩ = some (.int .i64 0) := LZ.out.at 0
          have y0 : wr.frozen? ⟨w.heap.size, 0, none⟩ = false := LZ.out.fr 0
          have z1 : wr.cell? ⟨w.heap.size, 1, none⟩ = some (.int .i64 0) := LZ.out.at 1
          have y1 : wr.frozen? ⟨w.heap.size, 1, none⟩ = false := LZ.out.fr 1
          have z2 : wr.cell? ⟨w.heap.size, 2, none⟩ = some (.int .i64 0) := LZ.out.at 2
          have y2 : wr.frozen? ⟨w.heap.size, 2, none⟩ = false := LZ.out.fr 2
          have z3 : wr.cell? ⟨w.heap.size, 3, none⟩ = some (.int .i64 0) := LZ.out.at 3
          have y3 : wr.frozen? ⟨w.heap.size, 3, none⟩ = false := LZ.out.fr 3
          have z4 : wr.cell? ⟨w.heap.size, 4, none⟩ = some (.int .i64 0) := LZ.out.at 4
          have y4 : wr.frozen? ⟨w.heap.size, 4, none⟩ = false := LZ.out.fr 4
          clear hA
          go_wp2
          refine bodyPost_ret (v := .tuple #[.agg #[.int .i64 x, .int .i64 y, .int .i64 x', .int .i64 y', .int .i64 n], .bool true]) (by simp [results, Tryz.results24, go_sem, z0, z1, z2, z3, z4]) rfl ⟨by rw [HWH.out, HOK.out]; rfl, ?_⟩
          exact ((((HBr.out.setCell (Nat.le_refl _) _).setCell (Nat.le_refl _) _).setCell (Nat.le_refl _) _).setCell (Nat.le_refl _) _).setCell (Nat.le_refl _) _
  | true =>
    have CO := claimOk_any (cs.headD M.c0)
    rw [← HD.out (by simp)] at CO HF HG
    have hA : ∀ j v, (cvs (X.getD 0 M.c0))[j]? = some v → V.cell? ⟨lv, j, none⟩ = some v := fun j v hv => (LL2.out.at _).trans (by have := lvs_at HX.out k (i := 0) (by omega) j v hv; simpa using this)
    generalize X.getD 0 M.c0 = c0 at hA CO HF HG
    generalize M.clOk c0 = co at CO HF HG
    obtain ⟨⟨x, y⟩, ⟨x', y'⟩, n'⟩ := c0
    dsimp only [clv] at CO
    have a0 : V.cell? ⟨lv, 0, none⟩ = some (.int .i64 x) := hA 0 _ rfl
    have a1 : V.cell? ⟨lv, 1, none⟩ = some (.int .i64 y) := hA 1 _ rfl
    have a2 : V.cell? ⟨lv, 2, none⟩ = some (.int .i64 x') := hA 2 _ rfl
    have a3 : V.cell? ⟨lv, 3, none⟩ = some (.int .i64 y') := hA 3 _ rfl
    have a4 : V.cell? ⟨lv, 4, none⟩ = some (.int .i64 n') := hA 4 _ rfl
    go_wp2_with fail
    refine (CO _).mono ?_
    rintro e V1 ⟨rfl, hb⟩
    have ST : Hid (LjR cs w lv (.bool co) V1) := by
      have h1 := LZ2.out.belowS hb
      have h2 := LL2.out.belowS hb
      have h3 := HB2.out.trans (hb.mono HB2.out.size)
      cases co with
      | true => exact HF.out V1 h1 h2 h3 (fun _ => rfl)
      | false => exact HG.out V1 h1 h2 h3 rfl
    clear hb LZ2 LL2 HB2 HF HG HD HY HN HX hk HCL a0 a1 a2 a3 a4 hA CO
    go_wp2
    go_loopw [5] (fun ok wr => LjR cs w lv ok wr) (fun _ wr => LjM lv wr)
    case atStart => exact ST.out
    case round =>
      obtain ⟨o, xs, k, rfl, hx, hk, lz, ll, hyes, hno, hb⟩ := hrel
      have HX : Hid (xs.length = 40) := hx
      have LZ : Hid (Lies wr w.heap.size [.int .i64 0, .int .i64 0, .int .i64 0, .int .i64 0, .int .i64 0]) := lz
      have LL : Hid (Lies wr lv (lvs xs k)) := ll
      have HY : Hid (o = true → 1 ≤ cs.length ∧ cs.length ≤ 40 ∧ M.Same cs (xs.take k)) := hyes
      have HN : Hid (o = false → M.allOk cs = false) := hno
      have HBr : Hid (Below w.heap.size w wr) := hb
      have m0 : wr.cell? ⟨lv, 200, none⟩ = some (.int .i64 k) := (ll.at 200).trans (lvs_many hx k)
      have HM : Hid (LjM lv wr = k) := ljm_of hx ll
      clear lz ll hyes hno hb hx ST
      cases o with
      | false =>
        have z0 : wr.cell? ⟨w.heap.size, 0, none⟩ = some (.int .i64 0) := LZ.out.at 0
        have y0 : wr.frozen? ⟨w.heap.size, 0, none⟩ = false := LZ.out.fr 0
        have z1 : wr.cell? ⟨w.heap.size, 1, none⟩ = some (.int .i64 0) := LZ.out.at 1
        have y1 : wr.frozen? ⟨w.heap.size, 1, none⟩ = false := LZ.out.fr 1
        have z2 : wr.cell? ⟨w.heap.size, 2, none⟩ = some (.int .i64 0) := LZ.out.at 2
        have y2 : wr.frozen? ⟨w.heap.size, 2, none⟩ = false := LZ.out.fr 2
        have z3 : wr.cell? ⟨w.heap.size, 3, none⟩ = some (.int .i64 0) := LZ.out.at 3
        have y3 : wr.frozen? ⟨w.heap.size, 3, none⟩ = false := LZ.out.fr 3
        have z4 : wr.cell? ⟨w.heap.size, 4, none⟩ = some (.int .i64 0) := LZ.out.at 4
        have y4 : wr.frozen? ⟨w.heap.size, 4, none⟩ = false := LZ.out.fr 4
        have HNO : Hid (M.allOk cs = false) := HN.out (by simp)
        go_wp2
        refine bodyPost_ret (v := .tuple #[.agg #[.int .i64 0, .int .i64 0, .int .i64 0, .int .i64 0, .int .i64 0], .bool false]) (by simp [results, Tryz.results24, go_sem, z0, z1, z2, z3, z4]) rfl ⟨by rw [M.allv_out HNO.out, HNO.out]; rfl, ?_⟩
        exact ((((HBr.out.setCell (Nat.le_refl _) _).setCell (Nat.le_refl _) _).setCell (Nat.le_refl _) _).setCell (Nat.le_refl _) _).setCell (Nat.le_refl _) _
      | true =>
        obtain ⟨hc1, hc40, hsame⟩ := HY.out (by simp)
        by_cases h1 : 1 < k
        · have h1I : (1 : Int) < (k : Int) := by omega
          have HS : Hid (M.Same cs (xs.take k)) := hsame
          have hC1 : Hid (1 ≤ cs.length) := hc1
          have hC40 : Hid (cs.length ≤ 40) := hc40
          have CP := paired_any (xs := xs) (m := k) (l := cs) wr HX.out hk hsame
          have iL : (Tryz.prog.info? 113).map (·.size) = some (lvs xs (k : Int)).length := by rw [lvs_len HX.out]; exact lv_size
          have rL : wr.rangeAt lv 0 (lvs xs (k : Int)) := LL.out.row
          clear hc1 hc40 hsame
          go_wp2_with (with_reducible refine wpList_stop 25 ?_ ?_; rfl)
          show wpList _ _ _ _ _ _
          with_reducible refine wpList_load_mid ?_ 113 (.tmp 4) ?_ lv 0 ?_ (lvs xs (k : Int)) _ rL Tryz.underlying113 ?_ iL ?_
          exact rfl
          exact rfl
          exact rfl
          exact rfl
          unfold lvv at CP
          go_wp2_with fail
          refine CP.mono ?_
          rintro e w2 ⟨v, rfl, ⟨ys, k2, o2, rfl, hy, hk2, hyes, hno⟩, hb2⟩
          have HY2 : Hid (ys.length = 40) := hy
          have HS2 : Hid (o2 = true → k2 = (k + 1) / 2 ∧ M.Same cs (ys.take k2)) := hyes
          have HN2 : Hid (o2 = false → M.chain cs = false) := hno
          have LZ2 : Hid (Lies w2 w.heap.size [.int .i64 0, .int .i64 0, .int .i64 0, .int .i64 0, .int .i64 0]) := LZ.out.belowS hb2
          have LL2 : Hid (Lies w2 lv (lvs xs k)) := LL.out.belowS hb2
          have HB2 : Hid (Below w.heap.size w w2) := HBr.out.trans (hb2.mono HBr.out.size)
          clear hb2 hy hyes hno CP iL rL
          unfold lvv
          have iA : (Tryz.prog.info? 113).map (·.size) = some (lvs ys (k2 : Int)).toArray.size := by rw [show (lvs ys (k2 : Int)).toArray.size = 201 from lvs_len HY2.out _]; exact lv_size
          have tA : w2.there lv 0 (lvs ys (k2 : Int)).toArray.size := by rw [show (lvs ys (k2 : Int)).toArray.size = 201 from lvs_len HY2.out _]; exact LL2.out.there 0 201 (by rw [lvs_len HX.out]; omega)
          have oA : (lvs ys (k2 : Int)).toArray.all (·.oneCell') = true := all_oneCell_toArray lvs_one
          go_wp2_with (with_reducible refine wpList_stopn ?_ ?_; rfl)
          show wpList _ _ _ _ _ _
          with_reducible refine wpList_store_mid ?_ 113 (.tmp 4) (.tmp 27) ?_ lv 0 (lvs ys (k2 : Int)).toArray ?_ ?_ tA iA oA ?_
          exact rfl
          exact rfl
          exact rfl
          exact rfl
          have LL3 : Hid (Lies (w2.setCells lv 0 (lvs ys (k2 : Int))) lv (lvs ys k2)) := by
            have := LL2.out.setCells (lvs ys (k2 : Int)) 0 (by rw [lvs_len HY2.out, lvs_len HX.out]; omega)
            rwa [spl_all (by rw [lvs_len HY2.out, lvs_len HX.out])] at this
          have LZ3 : Hid (Lies (w2.setCells lv 0 (lvs ys (k2 : Int))) w.heap.size [.int .i64 0, .int .i64 0, .int .i64 0, .int .i64 0, .int .i64 0]) := LZ2.out.farCells _ _ (by have := HZ.out; omega)
          have HB3 : Hid (Below w.heap.size w (w2.setCells lv 0 (lvs ys (k2 : Int)))) := below_setCells _ _ HB2.out (by have := HZ.out; omega)
          show wpList _ _ _ _ _ (w2.setCells lv 0 (lvs ys (k2 : Int)))
          clear tA iA oA LL2 LZ2 HB2
          generalize w2.setCells lv 0 (lvs ys (k2 : Int)) = w3 at *
          go_wp2
          go_roundw
          case rel => exact ⟨o2, ys, k2, rfl, HY2.out, by omega, LZ3.out, LL3.out, fun h => ⟨hC1.out, hC40.out, (HS2.out h).2⟩, fun h => by rw [M.allOk_in hC1.out hC40.out]; exact HN2.out h, HB3.out⟩
          case measure => rw [ljm_of HY2.out LL3.out, HM.out]; omega
        · have h1I : ¬ ((1 : Int) < (k : Int)) := by omega
          have hk1 : k = 1 := by
            rcases Nat.lt_or_ge k 1 with h | h
            · have e : k = 0 := by omega
              subst e
              have := hsame.hd
              rw [List.take_zero] at this
              exact absurd (M.clOk_c0.symm.trans this) (by decide)
            · omega
          subst hk1
          have hA : ∀ j v, (cvs (xs.getD 0 M.c0))[j]? = some v → wr.cell? ⟨lv, j, none⟩ = some v := fun j v hv => (LL.out.at _).trans (by have := lvs_at HX.out 1 (i := 0) (by omega) j v hv; simpa using this)
          have hone : xs.take 1 = [xs.getD 0 M.c0] := by
            have h := HX.out
            cases xs with
            | nil => simp at h
            | cons x xs => rfl
          rw [hone] at hsame
          obtain ⟨hch, hwh⟩ := hsame.one
          have hok : M.allOk cs = true := by rw [M.allOk_in hc1 hc40]; exact hch
          have HOK : Hid (M.allOk cs = true) := hok
          have HWH : Hid (M.allv cs = xs.getD 0 M.c0) := by show _ = _; rw [M.allv_in hok, hwh]
          clear hsame hone hch hwh hok hc1 hc40 HY HN
          generalize xs.getD 0 M.c0 = c0 at hA HWH
          obtain ⟨⟨x, y⟩, ⟨x', y'⟩, n⟩ := c0
          have a0 : wr.cell? ⟨lv, 0, none⟩ = some (.int .i64 x) := hA 0 _ rfl
          have a1 : wr.cell? ⟨lv, 1, none⟩ = some (.int .i64 y) := hA 1 _ rfl
          have a2 : wr.cell? ⟨lv, 2, none⟩ = some (.int .i64 x') := hA 2 _ rfl
          have a3 : wr.cell? ⟨lv, 3, none⟩ = some (.int .i64 y') := hA 3 _ rfl
          have a4 : wr.cell? ⟨lv, 4, none⟩ = some (.int .i64 n) := hA 4 _ rfl
          have z0 : wr.cell? ⟨w.heap.size, 0, none⟩ = some (.int .i64 0) := LZ.out.at 0
          have y0 : wr.frozen? ⟨w.heap.size, 0, none⟩ = false := LZ.out.fr 0
          have z1 : wr.cell? ⟨w.heap.size, 1, none⟩ = some (.int .i64 0) := LZ.out.at 1
          have y1 : wr.frozen? ⟨w.heap.size, 1, none⟩ = false := LZ.out.fr 1
          have z2 : wr.cell? ⟨w.heap.size, 2, none⟩ = some (.int .i64 0) := LZ.out.at 2
          have y2 : wr.frozen? ⟨w.heap.size, 2, none⟩ = false := LZ.out.fr 2
          have z3 : wr.cell? ⟨w.heap.size, 3, none⟩ = some (.int .i64 0) := LZ.out.at 3
          have y3 : wr.frozen? ⟨w.heap.size, 3, none⟩ = false := LZ.out.fr 3
          have z4 : wr.cell? ⟨w.heap.size, 4, none⟩ = some (.int .i64 0) := LZ.out.at 4
          have y4 : wr.frozen? ⟨w.heap.size, 4, none⟩ = false := LZ.out.fr 4
          clear hA
          go_wp2
          refine bodyPost_ret (v := .tuple #[.agg #[.int .i64 x, .int .i64 y, .int .i64 x', .int .i64 y', .int .i64 n], .bool true]) (by simp [results, Tryz.results24, go_sem, z0, z1, z2, z3, z4]) rfl ⟨by rw [HWH.out, HOK.out]; rfl, ?_⟩
          exact ((((HBr.out.setCell (Nat.le_refl _) _).setCell (Nat.le_refl _) _).setCell (Nat.le_refl _) _).setCell (Nat.le_refl _) _).setCell (Nat.le_refl _) _
theorem implJoinedAll_any {a : Option Addr} {n cap : Nat} {cs : List M.Cl} (w : World) (hs : SeesC w a n cap cs) :
    Calls Tryz.prog 24 #[.slice a n cap] w fun e w' => e = .returned (.tuple #[clv (M.allv cs), .bool (M.allOk cs)]) ∧ Below w.heap.size w w' :=
  implJoinedAll_core w hs.len (claimLevelOf_any _ (hs.below ((Below.refl _ _).alloc (Nat.le_refl _) _)))
theorem implJoinedAll_nil (a : Option Addr) (cap : Nat) (w : World) :
    Calls Tryz.prog 24 #[.slice a 0 cap] w fun e w' => e = .returned (.tuple #[clv (M.allv []), .bool (M.allOk [])]) ∧ Below w.heap.size w w' :=
  implJoinedAll_core w rfl ((claimLevelOf_no _ (by omega) (by simp)).mono fun _ _ hh => ⟨_, hh.1, ⟨_, 0, false, rfl, z40_len, by omega, fun h => by simp at h, fun _ => M.allOk_no (by simp)⟩, hh.2⟩)
end Go.Proofs.YtfhknkppiidnkaaGreat
