/- Levels of claims: from a slice, and the level above. -/
import Derived.Test.YtjibpapjfdjecacLvB
namespace Go.Proofs.Ytjibpapjfdjecac
open Go.RowKit

theorem prc_drop : ∀ (n : Nat) (xs : List M.Cl), (prc xs).drop (n * 5) = prc (xs.drop n)
  | 0, xs => by simp
  | n + 1, [] => by simp [prc]
  | n + 1, x :: xs => by
    show (cvs x ++ prc xs).drop ((n + 1) * 5) = prc (xs.drop n)
    rw [show (n + 1) * 5 = (cvs x).length + n * 5 by simp [cvs]; omega, List.drop_length_add_append, prc_drop n xs]
theorem lvs_copy {cs : List M.Cl} (h : cs.length ≤ 40) (m : Int) : spl (lvs M.z40 m) 0 (prc cs) = lvs (cs ++ M.z40.drop cs.length) m := by
  unfold spl lvs
  rw [List.take_zero, List.nil_append, Nat.zero_add, prc_len, List.drop_append_of_le_length (by rw [prc_len]; simp [M.z40]; omega), prc_drop]
  simp [prc]
theorem z40_len : M.z40.length = 40 := by simp [M.z40]
theorem take_z40 {cs : List M.Cl} : (cs ++ M.z40.drop cs.length).take cs.length = cs := by simp
theorem len_z40 {cs : List M.Cl} (h : cs.length ≤ 40) : (cs ++ M.z40.drop cs.length).length = 40 := by rw [List.length_append, List.length_drop, z40_len]; omega
theorem prc_one {cs : List M.Cl} : ∀ v ∈ prc cs, v.oneCell' = true := by
  intro v h
  unfold prc at h
  obtain ⟨c, _, h⟩ := List.mem_flatMap.1 h
  exact five_ints c v h
theorem SeesC.cells {w : World} {b off n cap : Nat} {cs : List M.Cl} (h : SeesC w (some ⟨b, off, none⟩) n cap cs) : ∀ j v, (prc cs)[j]? = some v → w.cell? ((⟨b, off, none⟩ : Addr).add j) = some v := by
  intro j v hv
  have hj : j < cs.length * 5 := by
    rcases Nat.lt_or_ge j (cs.length * 5) with h | h
    · exact h
    · rw [List.getElem?_eq_none (by rw [prc_len]; exact h)] at hv; simp at hv
  have hn := h.len
  obtain ⟨b', off', e, hc⟩ := h.at (by omega)
  simp only [Option.some.injEq, Addr.mk.injEq, and_true] at e
  obtain ⟨rfl, rfl⟩ := e
  have h1 := hc (j / 5) (by omega) (j % 5) (by omega)
  have h2 := prc_get cs (i := j / 5) (j := j % 5) (by omega) (by omega)
  rw [show j / 5 * 5 + j % 5 = j by omega, hv] at h2
  rw [← h2, show off + j / 5 * 5 + j % 5 = off + j by omega] at h1
  rw [Addr.add_mid]; exact h1
theorem lv_zero : Try.zeroCells78 = (lvs M.z40 0).toArray := by kernel_rfl
theorem lv_size : (Try.prog.info? 78).map (·.size) = some 201 := by kernel_rfl
theorem cl_size : (Try.prog.info? 39).map (·.size) = some 5 := by kernel_rfl
theorem zc_list : Try.zeroCells78.toList = lvs M.z40 0 := by rw [lv_zero]
theorem zc_info : (Try.prog.info? 78).map (·.size) = some Try.zeroCells78.size := by kernel_rfl
theorem zc_len : Try.zeroCells78.size = 201 := by kernel_rfl
theorem zc_one : Try.zeroCells78.all (·.oneCell') = true := by rw [lv_zero]; exact all_oneCell_toArray lvs_one
theorem lies_zc (w : World) : Lies (w.alloc (.cells Try.zeroCells78 78)) w.heap.size (lvs M.z40 0) := by
  have := lies_new w Try.zeroCells78 78
  rwa [zc_list] at this
theorem load_lv {w : World} {b : Nat} {vs : List Value} (h : Lies w b vs) (hl : vs.length = 201) : (loadVar 78 ⟨b, 0, none⟩).run Try.prog w = .ok (.agg vs.toArray) w :=
  run_loadVar_mid w b 0 78 vs _ h.row Try.underlying78 rfl (by rw [lv_size, hl])
set_option maxHeartbeats 2000000 in
theorem claimLevelOf_no {a : Option Addr} {n cap : Nat} (w : World) (hn : n < 1 ∨ 40 < n) (hb : (n : Int) ≤ 9223372036854775807) :
    Calls Try.prog 43 #[.slice a n cap] w fun e w' => e = .returned (.tuple #[lvv M.z40 0, .bool false]) ∧ Below w.heap.size w w' := by
  have L0 : Hid (Lies (w.alloc (.cells Try.zeroCells78 78)) w.heap.size (lvs M.z40 0)) := lies_zc w
  have ht : (w.alloc (.cells Try.zeroCells78 78)).there w.heap.size 0 Try.zeroCells78.size := by rw [zc_len]; exact L0.out.there 0 201 (by rw [lvs_len z40_len]; omega)
  have HB : Hid (Below w.heap.size w (w.alloc (.cells Try.zeroCells78 78))) := (Below.refl _ _).alloc (Nat.le_refl _) _
  rcases hn with hn | hn
  all_goals
    go_enter Try.func43, Try.ntmps43
    go_wp2_with (first | (refine wpList_store_mid rfl 78 _ _ rfl _ 0 Try.zeroCells78 rfl rfl ht zc_info zc_one ?_))
    have L1 := L0.out.setCells Try.zeroCells78.toList 0 (by rw [zc_list]; simp [lvs_len z40_len])
    rw [spl_all (by rw [zc_list])] at L1
    rw [zc_list] at L1 ⊢
    have hl := load_lv L1 (lvs_len z40_len 0)
    exact bodyPost_ret (results_cell_tmp rfl rfl hl) rfl ⟨rfl, below_setCells _ _ HB.out (Nat.le_refl _)⟩
set_option maxHeartbeats 2000000 in
set_option maxRecDepth 100000 in
theorem claimLevelOf_yes {b off n cap : Nat} {cs : List M.Cl} (w : World) (hs : SeesC w (some ⟨b, off, none⟩) n cap cs) (hn0 : 1 ≤ n) (hn : n ≤ 40) :
    Calls Try.prog 43 #[.slice (some ⟨b, off, none⟩) n cap] w fun e w' => e = .returned (.tuple #[lvv (cs ++ M.z40.drop cs.length) n, .bool true]) ∧ Below w.heap.size w w' := by
  have hl : cs.length = n := hs.len
  have hZ : (lvs M.z40 0).length = 201 := lvs_len z40_len 0
  have L0 : Hid (Lies ((w.alloc (.cells Try.zeroCells78 78)).alloc (.cells Try.zeroCells78 78)) w.heap.size (lvs M.z40 0)) := (lies_zc w).alloc _
  have L1 : Hid (Lies ((w.alloc (.cells Try.zeroCells78 78)).alloc (.cells Try.zeroCells78 78)) (w.heap.size + 1) (lvs M.z40 0)) := by
    have := lies_zc (w.alloc (.cells Try.zeroCells78 78))
    rwa [show (w.alloc (.cells Try.zeroCells78 78)).heap.size = w.heap.size + 1 by simp] at this
  have HB : Hid (Below w.heap.size w ((w.alloc (.cells Try.zeroCells78 78)).alloc (.cells Try.zeroCells78 78))) := ((Below.refl _ _).alloc (Nat.le_refl _) _).alloc (by simp) _
  have hsrc : Hid (∀ j v, (prc cs)[j]? = some v → ((w.alloc (.cells Try.zeroCells78 78)).alloc (.cells Try.zeroCells78 78)).cell? ((⟨b, off, none⟩ : Addr).add j) = some v) :=
    (hs.below ((HB.out))).cells
  have hp : Hid ((prc cs).length = Nat.min n 40 * 5) := by show _ = _; rw [prc_len, hl, show Nat.min n 40 = n from Nat.min_eq_left hn]
  have ht : ((w.alloc (.cells Try.zeroCells78 78)).alloc (.cells Try.zeroCells78 78)).there (w.heap.size + 1) 0 (prc cs).length := L1.out.there 0 _ (by rw [prc_len]; omega)
  have L2 := L1.out.setCells (prc cs) 0 (by rw [prc_len]; omega)
  rw [lvs_copy (by omega)] at L2
  have L02 := L0.out.farCells (prc cs) 0 (show w.heap.size ≠ w.heap.size + 1 by omega)
  have HB2 := below_setCells (prc cs) 0 HB.out (show w.heap.size ≤ w.heap.size + 1 by omega)
  have hx : (cs ++ M.z40.drop cs.length).length = 40 := len_z40 (by omega)
  have HL2 : Hid (Lies (((w.alloc (.cells Try.zeroCells78 78)).alloc (.cells Try.zeroCells78 78)).setCells (w.heap.size + 1) 0 (prc cs)) (w.heap.size + 1) (lvs (cs ++ M.z40.drop cs.length) 0)) := L2
  have HL02 : Hid (Lies (((w.alloc (.cells Try.zeroCells78 78)).alloc (.cells Try.zeroCells78 78)).setCells (w.heap.size + 1) 0 (prc cs)) w.heap.size (lvs M.z40 0)) := L02
  have HBB2 : Hid (Below w.heap.size w (((w.alloc (.cells Try.zeroCells78 78)).alloc (.cells Try.zeroCells78 78)).setCells (w.heap.size + 1) 0 (prc cs))) := HB2
  have hcp := run_copy_many (P := Try.prog) ((w.alloc (.cells Try.zeroCells78 78)).alloc (.cells Try.zeroCells78 78)) 46 46 3 39 (w.heap.size + 1) 0 40 40 ⟨b, off, none⟩ n cap 5 (prc cs) Try.underlying46 cl_size hp.out hsrc.out ht prc_one
  rw [show Nat.min n 40 = n from Nat.min_eq_left hn] at hcp
  generalize hW : ((w.alloc (.cells Try.zeroCells78 78)).alloc (.cells Try.zeroCells78 78)).setCells (w.heap.size + 1) 0 (prc cs) = W at hcp HL2 HL02 HBB2
  have m0 : W.cell? ⟨w.heap.size + 1, 200, none⟩ = some (.int .i64 0) := (HL2.out.at 200).trans (lvs_many hx 0)
  have m1 : W.frozen? ⟨w.heap.size + 1, 200, none⟩ = false := HL2.out.fr 200
  have L3 := HL2.out.set 200 (by rw [lvs_len hx]; omega) (.int .i64 (n : Int))
  rw [lvs_set_many hx] at L3
  have L03 := HL02.out.far (show w.heap.size ≠ w.heap.size + 1 by omega) 200 (.int .i64 (n : Int))
  have HB3 : Hid (Below w.heap.size w (W.setCell ⟨w.heap.size + 1, 200, none⟩ (.int .i64 (n : Int)))) := HBB2.out.setCell (show w.heap.size ≤ w.heap.size + 1 by omega) _
  have hr := L3.row
  have hi : (Try.prog.info? 78).map (·.size) = some (lvs (cs ++ M.z40.drop cs.length) (n : Int)).length := by rw [lvs_len hx]; exact lv_size
  have hiA : (Try.prog.info? 78).map (·.size) = some (lvs (cs ++ M.z40.drop cs.length) (n : Int)).toArray.size := by rw [List.size_toArray]; exact hi
  have htA : (W.setCell ⟨w.heap.size + 1, 200, none⟩ (.int .i64 (n : Int))).there w.heap.size 0 (lvs (cs ++ M.z40.drop cs.length) (n : Int)).toArray.size := by rw [show (lvs (cs ++ M.z40.drop cs.length) (n : Int)).toArray.size = 201 from lvs_len hx _]; exact L03.there 0 201 (by rw [hZ]; omega)
  have h1A : (lvs (cs ++ M.z40.drop cs.length) (n : Int)).toArray.all (·.oneCell') = true := all_oneCell_toArray lvs_one
  have L4 : Hid (Lies ((W.setCell ⟨w.heap.size + 1, 200, none⟩ (.int .i64 (n : Int))).setCells w.heap.size 0 (lvs (cs ++ M.z40.drop cs.length) (n : Int))) w.heap.size (lvs (cs ++ M.z40.drop cs.length) (n : Int))) := by
    have := L03.setCells (lvs (cs ++ M.z40.drop cs.length) (n : Int)) 0 (by rw [lvs_len hx, hZ]; omega)
    rwa [spl_all (by rw [lvs_len hx, hZ])] at this
  have hlen : Hid ((lvs (cs ++ M.z40.drop cs.length) (n : Int)).length = 201) := lvs_len hx _
  unfold lvv
  generalize lvs (cs ++ M.z40.drop cs.length) (n : Int) = X at *
  clear L3 L03 hs hZ HL2 HL02 HBB2 hW
  go_enter Try.func43, Try.ntmps43
  go_wp2_with (first | (refine wpList_load_mid rfl 78 _ rfl (w.heap.size + 1) 0 rfl X _ hr Try.underlying78 rfl hi ?_) | (refine wpList_store_mid rfl 78 _ _ rfl w.heap.size 0 X.toArray rfl rfl htA hiA h1A ?_))
  exact bodyPost_ret (results_cell_tmp rfl rfl (load_lv L4.out hlen.out)) rfl ⟨rfl, below_setCells _ _ HB3.out (Nat.le_refl _)⟩
end Go.Proofs.Ytjibpapjfdjecac
