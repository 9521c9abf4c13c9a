/- What FromEvals and Below answer in the model; Below in the program. -/
import Derived.Test.YtbcfjbkmkknmfaaGreatDoorTrF
namespace Go.Proofs.YtbcfjbkmkknmfaaGreatDoor
open Go.RowKit

theorem M.root_ne {n : Nat} (h : M.two (n : Int) = true) (h0 : 0 < n) : M.root n ≠ 0 := by
  intro e
  have h1 := M.root_n h
  rw [e] at h1
  obtain ⟨k, rfl⟩ : ∃ k, n = k + 1 := ⟨n - 1, by omega⟩
  rw [Int.pow_succ, Int.mul_zero] at h1
  unfold M.cg at h1; omega
theorem M.lf_step {zs : List Int} {i : Nat} (st : Int) (h : i < zs.length) : (M.pv (zs.take i) st % 65537 + zs.getD i 0 * (st ^ i % 65537)) % 65537 = M.pv (zs.take (i + 1)) st % 65537 := by
  rw [M.pv_take _ _ h]
  exact (M.cg_mod _).add ((M.cg.refl _).mul (M.cg_mod _))
theorem M.lf_pow (st : Int) (i : Nat) : st ^ i % 65537 * st % 65537 = st ^ (i + 1) % 65537 := by
  rw [M.mm, Int.pow_succ]
/-- the coefficients while they are laid down -/
def M.frAt (zs : List Int) (s : Int) (N k : Nat) : List Int := M.tab N (fun i => if i < k then M.frc zs s i else 0)
theorem M.frAt_zero (zs : List Int) (s : Int) (N : Nat) : List.replicate N 0 = M.frAt zs s N 0 := by
  refine M.tab_ext (by simp) fun i hi => ?_
  rw [if_neg (by omega), List.getD_eq_getElem?_getD, List.getElem?_eq_getElem (by simpa using hi)]; simp
theorem M.frAt_end (zs : List Int) (s : Int) (N : Nat) : M.frAt zs s N N = M.tab N (M.frc zs s) := M.tab_congr fun _ hi => if_pos hi
theorem M.frAt_step (zs : List Int) (s : Int) {N k : Nat} : (M.frAt zs s N k).set k (M.frc zs s k) = M.frAt zs s N (k + 1) := by
  unfold M.frAt
  rw [M.tab_set]
  refine M.tab_congr fun i _ => ?_
  by_cases e : i = k
  · subst e; rw [if_pos rfl, if_pos (by omega)]
  · rw [if_neg e]
    by_cases e2 : i < k
    · rw [if_pos e2, if_pos (by omega)]
    · rw [if_neg e2, if_neg (by omega)]
set_option maxHeartbeats 4000000 in
theorem l3From_any {la : Option Addr} {lc N : Nat} {zs : List Int} (s : Int) (w : World) (hz : Sees w la N lc zs) (az : M.allEl zs = true) (hp : M.ptOk N s = true) :
    Calls Tryz.prog 46 #[.slice la N lc, .int .i64 s] w fun e w' => ∃ a' m c', e = .returned (.slice a' m c') ∧ Owns 2 w' w.heap.size a' m c' (M.frs zs s) ∧ Below w.heap.size w w' := by
  have HZ : Hid (Sees w la N lc zs) := hz
  have HA : Hid (M.allEl zs = true) := az
  obtain ⟨h1, h2, h3⟩ := M.ptOk_parts hp
  obtain ⟨s0, s1⟩ := (M.el_iff s).1 h2
  obtain ⟨kk, hkk, hN, hN0⟩ := gp_root h1
  clear hkk
  have HI1 : Hid (M.inv (M.root N) = M.pw (M.root N) 65535) := M.inv_in (M.root_el (M.two64_two h1)) (M.root_ne (M.two64_two h1) hN0)
  have HI2 : Hid (M.inv (N : Int) = M.pw (N : Int) 65535) := M.inv_in ((M.el_iff _).2 ⟨by omega, by omega⟩) (by omega)
  have HI3 : Hid (M.inv s = M.pw s 65535) := M.inv_in h2 h3
  have HM : Hid (∀ k, M.pv zs (M.pw (M.pw (M.root N) 65535) k) % 65537 * M.pw N 65535 % 65537 * M.pw (M.pw s 65535) k % 65537 = M.frc zs s k) := fun k => by
    have := M.frc_model zs s k; rw [hz.len] at this; exact this
  have HF : Hid (M.trim (M.tab N (M.frc zs s)) = M.frs zs s) := by show _ = _; unfold M.frs; rw [hz.len]
  obtain ⟨r0, r1⟩ := M.pw_bd (M.root N) 65535
  obtain ⟨n0, n1⟩ := M.pw_bd (N : Int) 65535
  obtain ⟨u0, u1⟩ := M.pw_bd s 65535
  clear hz az h1 h2 h3 hp
  go_enter Tryz.func46, Tryz.ntmps46
  go_wp2_with fail
  refine (specRoot_any N _).mono ?_
  rintro e w ⟨rfl, rfl⟩
  go_wp2_with fail
  refine (specInv_any (M.root N) _).mono ?_
  rintro e w ⟨rfl, rfl⟩
  rw [HI1.out]
  go_wp2_with fail
  refine (specInv_any (N : Int) _).mono ?_
  rintro e w ⟨rfl, rfl⟩
  rw [HI2.out]
  go_wp2_with fail
  refine (specInv_any s _).mono ?_
  rintro e w ⟨rfl, rfl⟩
  rw [HI3.out]
  generalize M.pw (M.root N) 65535 = bk at HM r0 r1 ⊢
  generalize M.pw (N : Int) 65535 = sl at HM n0 n1 ⊢
  generalize M.pw s 65535 = us at HM u0 u1 ⊢
  obtain ⟨i0, hi, hz0, hz1, hz2⟩ := info_parts info_i64
  go_wp2_with (at_make; refine wpList_make_full _ rfl _ _ 32 rfl w.heap.size 2 i0 (.int .i64 0) 1 Tryz.underlying32 hi hz0 hz1 .i64 .i64 _ _ N rfl rfl rfl rfl (by rw [hz2]; omega) (by unfold maxLen; omega) (Nat.le_refl _) ?_)
  intro w1 hown hg
  have HO : Hid (Owns 2 w1 w.heap.size (some ⟨w.heap.size, 0, none⟩) N N (M.frAt zs s N 0)) := by
    show w1.ownsRow _ _ _ _ _ _
    rw [made_ints, M.frAt_zero zs s] at hown; exact hown
  have HB : Hid (Below w.heap.size w w1) := below_grown hg
  clear hown hg hi hz0 hz1 hz2
  go_wp2
  go_loopw [10] (fun i wr => ∃ k : Nat, k ≤ N ∧ i = .int .i64 k ∧ Owns 2 wr w.heap.size (some ⟨w.heap.size, 0, none⟩) N N (M.frAt zs s N k) ∧ Below w.heap.size w wr) (fun i _ => N - (intOf i).toNat)
  case atStart => exact ⟨0, by omega, rfl, HO.out, HB.out⟩
  case round =>
    obtain ⟨k, hk, rfl, hor, hbr⟩ := hrel
    have HOR : Hid (Owns 2 wr w.heap.size (some ⟨w.heap.size, 0, none⟩) N N (M.frAt zs s N k)) := hor
    have HBR : Hid (Below w.heap.size w wr) := hbr
    clear hor hbr HO HB
    by_cases hlt : k < N
    · have hI : (k : Int) < (N : Int) := by omega
      have HMk : Hid (M.pv zs (M.pw bk k) % 65537 * sl % 65537 * M.pw us k % 65537 = M.frc zs s k) := HM.out k
      obtain ⟨t0, t1⟩ := M.pw_bd bk k
      obtain ⟨v0, v1⟩ := M.pw_bd us k
      go_wp2_with fail
      refine (specPow_in bk k _ r0 r1 (by omega)).mono ?_
      rintro e wr ⟨rfl, rfl⟩
      generalize M.pw bk k = st at HMk t0 t1 ⊢
      generalize hps : M.pw us k = pu at HMk v0 v1
      have HPS : Hid (M.pw us k = pu) := hps
      clear hps
      have HZr : Hid (Sees wr la N lc zs) := HZ.out.below HBR.out
      go_wp2
      go_loop [11, 12, 14] (fun a x i => ∃ j : Nat, j ≤ N ∧ i = .int .i64 j ∧ a = .int .i64 (M.pv (zs.take j) st % 65537) ∧ x = .int .i64 (st ^ j % 65537)) (fun _ _ i => N - (intOf i).toNat)
      case atStart => exact ⟨0, by omega, rfl, rfl, by rw [Int.pow_zero]; rfl⟩
      case round =>
        obtain ⟨j, hj, rfl, rfl, rfl⟩ := hrel
        by_cases hjl : j < N
        · obtain ⟨b1, o1, rfl, hc1⟩ := HZr.out.at (by omega)
          have d1 := hc1 j hjl
          have x01 := M.el_at HA.out j
          have HS1 : Hid ((M.pv (zs.take j) st % 65537 + zs.getD j 0 * (st ^ j % 65537)) % 65537 = M.pv (zs.take (j + 1)) st % 65537) := M.lf_step st (by rw [HZ.out.len]; exact hjl)
          have HS2 : Hid (st ^ j % 65537 * st % 65537 = st ^ (j + 1) % 65537) := M.lf_pow st j
          have a01 : 0 ≤ M.pv (zs.take j) st % 65537 ∧ M.pv (zs.take j) st % 65537 < 65537 := by omega
          have y01 : 0 ≤ st ^ j % 65537 ∧ st ^ j % 65537 < 65537 := by omega
          generalize zs.getD j 0 = x at d1 x01 HS1
          generalize M.pv (zs.take j) st % 65537 = a at a01 HS1 ⊢
          generalize st ^ j % 65537 = y at y01 HS1 HS2 ⊢
          obtain ⟨x0, x1⟩ := x01
          obtain ⟨a0, a1⟩ := a01
          obtain ⟨y0, y1⟩ := y01
          obtain ⟨m0, m1⟩ := M.mul_bd x0 x1 y0 y1
          obtain ⟨m2, m3⟩ := M.mul_bd y0 y1 t0 t1
          have hJ : (j : Int) < (N : Int) := by omega
          clear hc1
          go_wp2
          go_round
          case rel => exact ⟨j + 1, by omega, by go_num, by rw [HS1.out], by rw [HS2.out]⟩
          case measure => simp [intOf]; omega
        · have hjn : j = N := by omega
          subst hjn
          have HT : Hid (M.pv (zs.take j) st = M.pv zs st) := by show _ = _; rw [List.take_of_length_le (by rw [HZ.out.len]; exact Nat.le_refl _)]
          have a01 : 0 ≤ M.pv (zs.take j) st % 65537 ∧ M.pv (zs.take j) st % 65537 < 65537 := by omega
          have HV : Hid (M.pv (zs.take j) st % 65537 * sl % 65537 * pu % 65537 = M.frc zs s k) := by show _ = _; rw [HT.out]; exact HMk.out
          generalize M.pv (zs.take j) st % 65537 = a at a01 HV ⊢
          obtain ⟨a0, a1⟩ := a01
          obtain ⟨m0, m1⟩ := M.mul_bd a0 a1 n0 n1
          have b0 : 0 ≤ a * sl % 65537 := Int.emod_nonneg _ (by decide)
          have b1 : a * sl % 65537 < 65537 := Int.emod_lt_of_pos _ (by decide)
          obtain ⟨m2, m3⟩ := M.mul_bd b0 b1 v0 v1
          obtain ⟨g, hge, _, _, hc2, hf⟩ := HOR.out.block (by omega)
          simp only [Option.some.injEq, Addr.mk.injEq, and_true] at hge
          subst hge
          have d2 := hc2 k hlt
          have f2 := hf k
          have HST : Hid ((M.frAt zs s j k).set k (M.frc zs s k) = M.frAt zs s j (k + 1)) := M.frAt_step zs s
          clear hc2 hf
          go_wp2_with fail
          refine (specPow_in us k _ u0 u1 (by omega)).mono ?_
          rintro e wr ⟨rfl, rfl⟩
          rw [HPS.out]
          go_wp2
          go_roundw
          case rel => exact ⟨k + 1, by omega, by go_num, by rw [← HST.out, ← HV.out]; exact HOR.out.set k _, HBR.out.setCell (Nat.le_refl _) _⟩
          case measure => simp [intOf]; omega
    · have hkn : k = N := by omega
      subst hkn
      go_wp2_with fail
      refine (l2Trim_any _ HOR.out.sees (by omega)).mono ?_
      rintro e w2 ⟨a2, m2, c2, rfl, ho2, hb2⟩
      have HO2 : Hid (Owns 2 w2 w.heap.size a2 m2 c2 (M.frs zs s)) := by
        show Owns _ _ _ _ _ _ _
        rw [← HF.out, ← M.frAt_end]; exact ho2.mono HBR.out.size
      have HB2 : Hid (Below w.heap.size w w2) := HBR.out.trans (hb2.mono HBR.out.size)
      clear ho2 hb2
      go_wp2
      go_ret
      exact ⟨a2, m2, c2, rfl, HO2.out, HB2.out⟩
end Go.Proofs.YtbcfjbkmkknmfaaGreatDoor
