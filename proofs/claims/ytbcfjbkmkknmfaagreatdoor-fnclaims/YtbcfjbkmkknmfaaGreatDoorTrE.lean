/- What Evals answers, in the program and in its model. -/
import Derived.Test.YtbcfjbkmkknmfaaGreatDoorTrD
namespace Go.Proofs.YtbcfjbkmkknmfaaGreatDoor
open Go.RowKit

/-- the points while their values are laid over them -/
def M.evAt (zs : List Int) (s q : Int) (N k : Nat) : List Int := M.tab N (fun i => if i < k then M.ev zs (s * q ^ i % 65537) else s * q ^ i % 65537)
theorem M.evAt_zero (zs : List Int) (s q : Int) (N : Nat) : M.gp s q N = M.evAt zs s q N 0 := M.tab_congr fun _ _ => (if_neg (by omega)).symm
theorem M.evAt_end (zs : List Int) (s q : Int) (N : Nat) : M.evAt zs s q N N = M.evs zs s q N := M.tab_congr fun _ hi => if_pos hi
theorem M.evAt_step (zs : List Int) (s q : Int) {N k : Nat} : (M.evAt zs s q N k).set k (M.ev zs (s * q ^ k % 65537)) = M.evAt zs s q N (k + 1) := by
  unfold M.evAt
  rw [M.tab_set]
  refine M.tab_congr fun i _ => ?_
  by_cases e : i = k
  · subst e; rw [if_pos rfl, if_pos (by omega)]
  · rw [if_neg e]
    by_cases e2 : i < k
    · rw [if_pos e2, if_pos (by omega)]
    · rw [if_neg e2, if_neg (by omega)]

set_option maxHeartbeats 2000000 in
theorem l3Evals_any {la : Option Addr} {n lc : Nat} {zs : List Int} (N : Nat) (s : Int) (w : World) (hz : Sees w la n lc zs) (az : M.allEl zs = true) (hp : M.ptOk N s = true) :
    Calls Tryz.prog 51 #[.slice la n lc, .int .i64 N, .int .i64 s] w fun e w' => ∃ a' c', e = .returned (.slice a' N c') ∧ Owns 2 w' w.heap.size a' N c' (M.evs zs s (M.root N) N) ∧ Below w.heap.size w w' := by
  have HZ : Hid (Sees w la n lc zs) := hz
  have HA : Hid (M.allEl zs = true) := az
  have HP : Hid (M.ptOk N s = true) := hp
  have hN := (M.two64_bd (M.ptOk_parts hp).1).2
  clear hz az hp
  go_enter Tryz.func51, Tryz.ntmps51
  go_wp2_with fail
  refine (l3Points_any N s _ HP.out).mono ?_
  rintro e w1 ⟨a1, c1, rfl, ho1, hb1⟩
  generalize hq : M.root N = q at ho1
  have HQ : Hid (M.root N = q) := hq
  clear hq
  have HO1 : Hid (Owns 2 w1 w.heap.size a1 N c1 (M.evAt zs s q N 0)) := by
    show Owns _ _ _ _ _ _ _
    rw [← M.evAt_zero]; exact ho1
  have HB1 : Hid (Below w.heap.size w w1) := hb1
  clear ho1 hb1
  go_wp2
  go_loopw [8] (fun i wr => ∃ k : Nat, k ≤ N ∧ i = .int .i64 k ∧ Owns 2 wr w.heap.size a1 N c1 (M.evAt zs s q N k) ∧ Below w.heap.size w wr) (fun i _ => N - (intOf i).toNat)
  case atStart => exact ⟨0, by omega, rfl, HO1.out, HB1.out⟩
  case round =>
    obtain ⟨k, hk, rfl, hor, hbr⟩ := hrel
    have HOR : Hid (Owns 2 wr w.heap.size a1 N c1 (M.evAt zs s q N k)) := hor
    have HBR : Hid (Below w.heap.size w wr) := hbr
    clear hor hbr HO1 HB1
    by_cases hlt : k < N
    · obtain ⟨g, rfl, hg0, _, hc, hf⟩ := HOR.out.block (by omega)
      have d1 := hc k hlt
      have e1 := hf k
      have hx : (M.evAt zs s q N k).getD k 0 = s * q ^ k % 65537 := by
        unfold M.evAt; rw [M.tab_get _ _ _ hlt, if_neg (by omega)]
      rw [hx] at d1
      have HST : Hid ((M.evAt zs s q N k).set k (M.ev zs (s * q ^ k % 65537)) = M.evAt zs s q N (k + 1)) := M.evAt_step zs s q
      have x01 : 0 ≤ s * q ^ k % 65537 ∧ s * q ^ k % 65537 < 65537 := by omega
      have hI : (k : Int) < (N : Int) := by omega
      clear hc hf hx
      generalize s * q ^ k % 65537 = x at d1 x01 HST
      obtain ⟨x0, x1⟩ := x01
      go_wp2_with fail
      refine (l2At_any x _ (HZ.out.below HBR.out) HA.out x0 x1).mono ?_
      rintro e wr ⟨rfl, rfl⟩
      go_wp2
      go_roundw
      case rel => exact ⟨k + 1, by omega, by go_num, by rw [← HST.out]; exact HOR.out.set k _, HBR.out.setCell hg0 _⟩
      case measure => simp [intOf]; omega
    · have hkn : k = N := by omega
      subst hkn
      go_wp2
      go_ret
      refine ⟨a1, c1, rfl, ?_, HBR.out⟩
      rw [HQ.out, ← M.evAt_end]; exact HOR.out
end Go.Proofs.YtbcfjbkmkknmfaaGreatDoor
