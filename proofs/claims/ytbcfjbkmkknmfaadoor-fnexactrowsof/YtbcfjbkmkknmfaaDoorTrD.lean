/- Values at points, in the program and in its model. -/
import Derived.Test.YtbcfjbkmkknmfaaDoorTrC
import Derived.Laws.EntriesVeiled
namespace Go.Proofs.YtbcfjbkmkknmfaaDoor
open Go.RowKit

theorem M.ev_pv (zs : List Int) (x : Int) : M.ev zs x = M.pv zs x % 65537 := by
  induction zs with
  | nil => rfl
  | cons c r ih =>
    rw [M.ev_cons, ih]
    show _ = (c + x * M.pv r x) % 65537
    have h := M.mm (M.pv r x) x
    rw [Int.mul_comm x]
    generalize M.pv r x % 65537 * x = A at h ⊢
    generalize M.pv r x * x = B at h ⊢
    omega
theorem M.ev_cg (zs : List Int) (x : Int) : M.cg (M.ev zs x) (M.pv zs x) := by rw [M.ev_pv]; exact M.cg_mod _
/-- the transform of zs at 1, r, r r .. -/
def M.tr (zs : List Int) (r : Int) : List Int := M.tab zs.length (fun j => M.pv zs (r ^ j) % 65537)
theorem M.tr_all (zs : List Int) (r : Int) : M.allEl (M.tr zs r) = true := M.all_tab fun i _ => (M.el_iff _).2 ⟨by omega, by omega⟩
theorem M.tr_len (zs : List Int) (r : Int) : (M.tr zs r).length = zs.length := M.tab_len _ _
theorem M.tr_fv (zs : List Int) (r : Int) (N : Nat) (h : zs.length = N) : M.tab N (M.fv (fun i => zs.getD i 0) r 0 1 N) = M.tr zs r := by
  unfold M.tr
  rw [h]
  refine M.tab_congr fun j _ => ?_
  unfold M.fv
  rw [Nat.one_mul, ← h, M.pv_all]
/-- zs at the points s, s q .. N of them -/
def M.evs (zs : List Int) (s q : Int) (N : Nat) : List Int := M.tab N (fun j => M.ev zs (s * q ^ j % 65537))
theorem M.evs_len (zs : List Int) (s q : Int) (N : Nat) : (M.evs zs s q N).length = N := M.tab_len _ _
theorem M.evs_all (zs : List Int) (s q : Int) (N : Nat) : M.allEl (M.evs zs s q N) = true := M.all_tab fun _ _ => (M.el_iff _).2 (M.ev_bd _ _)
theorem M.tr_wrap {zs out : List Int} {s q : Int} {N : Nat} (hq : M.cg (q ^ N) 1) (h : M.Wr N (M.each zs (M.gp 1 s zs.length)) (M.each zs (M.gp 1 s zs.length)).length out) : M.tr out q = M.evs zs s q N := by
  unfold M.tr M.evs
  rw [h.1]
  refine M.tab_congr fun j _ => ?_
  rw [M.ev_pv]
  have h1 : M.cg ((q ^ j) ^ N) 1 := by
    rw [← Int.pow_mul, Nat.mul_comm, Int.pow_mul]
    have := hq.pow j; rw [Int.one_pow] at this; exact this
  have h2 := h.2.2 (q ^ j) h1
  rw [List.take_length] at h2
  have h3 : M.cg (M.pv (M.each zs (M.gp 1 s zs.length)) (q ^ j)) (M.pv zs (s * q ^ j)) := by
    refine M.pv_scale s (q ^ j) (M.each_len _ _) fun i hi => ?_
    unfold M.each M.gp
    rw [M.tab_get _ _ _ hi, M.tab_get _ _ _ hi, Int.one_mul]
    exact (M.cg_mod _).trans ((M.cg.refl _).mul (M.cg_mod _))
  exact (h2.trans h3).trans (M.pv_cg (M.cg_mod _).symm zs)
theorem gp_root {n : Nat} (h : M.two64 (n : Int) = true) : ∃ k, n = 2 ^ k ∧ n ≤ 64 ∧ 0 < n := by
  obtain ⟨i, hi, e⟩ := (M.two64_iff _).1 h
  have hb := M.two64_le hi
  refine ⟨i, ?_, by omega, by omega⟩
  have : ((2 ^ i : Nat) : Int) = (2 : Int) ^ i := by simp
  omega

end Go.Proofs.YtbcfjbkmkknmfaaDoor
