/- The way back from values to a polynomial, in the program and in its model. -/
import Derived.Test.YtbcfjbkmkknmfaaDoorTrD
namespace Go.Proofs.YtbcfjbkmkknmfaaDoor
open Go.RowKit

/-- the k-th coefficient that FromEvals finds -/
def M.frc (zs : List Int) (s : Int) (k : Nat) : Int := M.pv zs (M.pw (M.root zs.length) 65535 ^ k) % 65537 * (M.pw zs.length 65535 * M.pw s 65535 ^ k % 65537) % 65537
def M.frs (zs : List Int) (s : Int) : List Int := M.trim (M.tab zs.length (M.frc zs s))
def M.frOk (zs : List Int) (s : Int) : Bool := M.ptOk zs.length s && M.allEl zs
def M.frv (zs : List Int) (s : Int) : List Int := if M.frOk zs s = true then M.frs zs s else []
theorem M.frv_in {zs : List Int} {s : Int} (h : M.frOk zs s = true) : M.frv zs s = M.frs zs s := if_pos h
theorem M.frv_out {zs : List Int} {s : Int} (h : M.frOk zs s = false) : M.frv zs s = [] := if_neg (by rw [h]; decide)
theorem M.frs_len (zs : List Int) (s : Int) : (M.frs zs s).length ≤ zs.length := by
  have := M.len_trim (M.tab zs.length (M.frc zs s)); rw [M.tab_len] at this; exact this
theorem M.frs_each (zs : List Int) (s : Int) : M.trim (M.each (M.tr zs (M.pw (M.root zs.length) 65535)) (M.gp (M.pw zs.length 65535) (M.pw s 65535) zs.length)) = M.frs zs s := by
  unfold M.frs M.each
  rw [M.tr_len]
  congr 1
  refine M.tab_congr fun k hk => ?_
  unfold M.tr M.gp
  rw [M.tab_get _ _ _ hk, M.tab_get _ _ _ hk]; rfl
/-- the model's way of reckoning it -/
theorem M.frc_model (zs : List Int) (s : Int) (k : Nat) : M.pv zs (M.pw (M.pw (M.root zs.length) 65535) k) % 65537 * M.pw zs.length 65535 % 65537 * M.pw (M.pw s 65535) k % 65537 = M.frc zs s k := by
  unfold M.frc
  have h1 : M.cg (M.pv zs (M.pw (M.pw (M.root zs.length) 65535) k) % 65537) (M.pv zs (M.pw (M.root zs.length) 65535 ^ k) % 65537) :=
    (M.cg_mod _).trans ((M.pv_cg (M.cg_pw _ _) zs).trans (M.cg_mod _).symm)
  have h2 := M.cg_pw (M.pw s 65535) k
  generalize M.pv zs (M.pw (M.pw (M.root zs.length) 65535) k) % 65537 = A at h1 ⊢
  generalize M.pv zs (M.pw (M.root zs.length) 65535 ^ k) % 65537 = B at h1 ⊢
  generalize M.pw (M.pw s 65535) k = C at h2 ⊢
  generalize M.pw s 65535 ^ k = D at h2 ⊢
  generalize M.pw (zs.length : Int) 65535 = n
  have h3 : M.cg (A * n % 65537 * C) (B * (n * D % 65537)) := by
    refine (((M.cg_mod _).trans (h1.mul (M.cg.refl n))).mul h2).trans ?_
    refine (M.cg_of_eq (Int.mul_assoc B n D)).trans ?_
    exact (M.cg.refl B).mul (M.cg_mod _).symm
  exact h3

end Go.Proofs.YtbcfjbkmkknmfaaDoor
