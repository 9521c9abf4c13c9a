/- The way back from values to a polynomial, in the program and in its model. -/
import Derived.Test.YtbcfjbkmkknmfaaGreatDoorTrD
namespace Go.Proofs.YtbcfjbkmkknmfaaGreatDoor
open Go.RowKit

/-- the k-th coefficient that FromEvals finds -/
def M.frc (zs : List Int) (s : Int) (k : Nat) : Int := M.pv zs (M.pw (M.root zs.length) 65535 ^ k) % 65537 * (M.pw zs.length 65535 * M.pw s 65535 ^ k % 65537) % 65537
def M.frs (zs : List Int) (s : Int) : List Int := M.trim (M.tab zs.length (M.frc zs s))
def M.frOk (zs : List Int) (s : Int) : Bool := M.ptOk zs.length s && M.allEl zs
def M.frv (zs : List Int) (s : Int) : List Int := if M.frOk zs s = true then M.frs zs s else []
theorem M.frs_len (zs : List Int) (s : Int) : (M.frs zs s).length ≤ zs.length := by
  have := M.len_trim (M.tab zs.length (M.frc zs s)); rw [M.tab_len] at this; exact this
theorem M.frs_each (zs : List Int) (s : Int) : M.trim (M.each (M.tr zs (M.pw (M.root zs.length) 65535)) (M.gp (M.pw zs.length 65535) (M.pw s 65535) zs.length)) = M.frs zs s := by
  unfold M.frs M.each
  rw [M.tr_len]
  congr 1
  refine M.tab_congr fun k hk => ?_
  unfold M.tr M.gp
  rw [M.tab_get _ _ _ hk, M.tab_get _ _ _ hk]; rfl
/-- the model's way of reckoning it -/
theorem M.frc_model (zs : List Int) (s : Int) (k : Nat) : M.pv zs (M.pw (M.pw (M.root zs.length) 65535) k) % 65537 * M.pw zs.length 65535 % 65537 * M.pw (M.pw s 65535) k % 65537 = M.frc zs s k := by
  unfold M.frc
  have h1 : M.cg (M.pv zs (M.pw (M.pw (M.root zs.length) 65535) k) % 65537) (M.pv zs (M.pw (M.root zs.length) 65535 ^ k) % 65537) :=
    (M.cg_mod _).trans ((M.pv_cg (M.cg_pw _ _) zs).trans (M.cg_mod _).symm)
  have h2 := M.cg_pw (M.pw s 65535) k
  generalize M.pv zs (M.pw (M.pw (M.root zs.length) 65535) k) % 65537 = A at h1 ⊢
  generalize M.pv zs (M.pw (M.root zs.length) 65535 ^ k) % 65537 = B at h1 ⊢
  generalize M.pw (M.pw s 65535) k = C at h2 ⊢
  generalize M.pw s 65535 ^ k = D at h2 ⊢
  generalize M.pw (zs.length : Int) 65535 = n
  have h3 : M.cg (A * n % 65537 * C) (B * (n * D % 65537)) := by
    refine (((M.cg_mod _).trans (h1.mul (M.cg.refl n))).mul h2).trans ?_
    refine (M.cg_of_eq (Int.mul_assoc B n D)).trans ?_
    exact (M.cg.refl B).mul (M.cg_mod _).symm
  exact h3

set_option maxHeartbeats 2000000 in
theorem polyOf_any {la : Option Addr} {lc N : Nat} {zs : List Int} (s : Int) (w : World) (hz : Sees w la N lc zs) (az : M.allEl zs = true) (hp : M.ptOk N s = true) :
    Calls Tryz.prog 81 #[.agg #[.int .i64 N, .int .i64 s, .int .i64 (M.root N)], .slice la N lc] w fun e w' => ∃ a' m c', e = .returned (.slice a' m c') ∧ Owns 73 w' w.heap.size a' m c' (M.frs zs s) ∧ Below w.heap.size w w' := by
  have HZ : Hid (Sees w la N lc zs) := hz
  have HA : Hid (M.allEl zs = true) := az
  obtain ⟨h1, h2, h3⟩ := M.ptOk_parts hp
  obtain ⟨s0, s1⟩ := (M.el_iff s).1 h2
  obtain ⟨q0, q1⟩ := (M.el_iff _).1 (M.root_el (M.two64_two h1))
  obtain ⟨k, hk, hN, hN0⟩ := gp_root h1
  have HK : Hid (N = 2 ^ k) := hk
  have HRH : Hid (∀ h, N = 2 * h → M.cg (M.pw (M.root N) 65535 ^ h) (-1)) := fun h e => M.rinv_h (M.two64_two h1) e
  have HF : Hid (M.trim (M.each (M.tr zs (M.pw (M.root N) 65535)) (M.gp (M.pw N 65535) (M.pw s 65535) N)) = M.frs zs s) := by
    show _ = _
    have := M.frs_each zs s; rw [hz.len] at this; exact this
  have HTL : Hid ((M.tr zs (M.pw (M.root N) 65535)).length = N) := by show _ = _; rw [M.tr_len, hz.len]
  obtain ⟨r0, r1⟩ := M.pw_bd (M.root N) 65535
  obtain ⟨n0, n1⟩ := M.pw_bd (N : Int) 65535
  obtain ⟨i0, i1⟩ := M.pw_bd s 65535
  clear hz az h1 h2 h3 hp hk
  generalize M.root N = q at q0 q1 HRH HF HTL r0 r1 ⊢
  generalize hri : M.pw q 65535 = ri at HRH HF HTL r0 r1
  have HRI : Hid (M.pw q 65535 = ri) := hri
  generalize hni : M.pw (N : Int) 65535 = ni at HF n0 n1
  have HNI : Hid (M.pw (N : Int) 65535 = ni) := hni
  generalize hsi : M.pw s 65535 = si at HF i0 i1
  have HSI : Hid (M.pw s 65535 = si) := hsi
  clear hri hni hsi
  have hN1 : (N : Int) < 65537 := by omega
  have hN2 : (0 : Int) ≤ (N : Int) := by omega
  go_enter Tryz.func81, Tryz.ntmps81
  go_wp2_with fail
  refine (inverse_any q _ q0 q1).mono ?_
  rintro e w0 ⟨rfl, rfl⟩
  rw [HRI.out]
  have HBA : Hid (Below w.heap.size w (w.alloc (.cells #[Value.int .i64 N, Value.int .i64 s, Value.int .i64 q] 79))) := (Below.refl _ _).alloc (Nat.le_refl _) _
  go_wp2_with fail
  refine (transformed_any ri _ (HZ.out.below HBA.out) HA.out HK.out (by omega) r0 r1 HRH.out).mono ?_
  rintro e w1 ⟨a1, c1, rfl, ho1, hb1⟩
  have HO1 : Hid (Owns 73 w1 w.heap.size a1 N c1 (M.tr zs ri)) := ho1.mono (by simp)
  have HB1 : Hid (Below w.heap.size w w1) := HBA.out.trans (hb1.mono (by simp))
  have HC1 : Hid (∀ W, Below w1.heap.size w1 W → W.cell? ⟨w.heap.size, 0, none⟩ = some (.int .i64 N) ∧ W.cell? ⟨w.heap.size, 1, none⟩ = some (.int .i64 s) ∧ W.cell? ⟨w.heap.size, 2, none⟩ = some (.int .i64 q)) := fun W hW => by
    have hs : w.heap.size < w1.heap.size := by have := hb1.size; simp at this; omega
    refine ⟨(hW.cell (p := ⟨w.heap.size, 0, none⟩) hs).trans ((hb1.cell (p := ⟨w.heap.size, 0, none⟩) (by simp)).trans (by rw [World.cell?_alloc_new]; rfl)), (hW.cell (p := ⟨w.heap.size, 1, none⟩) hs).trans ((hb1.cell (p := ⟨w.heap.size, 1, none⟩) (by simp)).trans (by rw [World.cell?_alloc_new]; rfl)), (hW.cell (p := ⟨w.heap.size, 2, none⟩) hs).trans ((hb1.cell (p := ⟨w.heap.size, 2, none⟩) (by simp)).trans (by rw [World.cell?_alloc_new]; rfl))⟩
  obtain ⟨k0, k1, k2⟩ := HC1.out _ (Below.refl _ _)
  have HBD : Hid (Below w1.heap.size w1 w1.drew) := (Below.refl _ _).drew
  clear ho1 hb1
  go_wp2
  go_region_with (first
    | (go_at_call_of 87 (Value.int .i64 (N : Int)); refine (inverse_any (N : Int) _ hN2 hN1).mono ?_; rintro e w2 ⟨rfl, rfl⟩; rw [HNI.out])
    | (go_at_call_of 87 (Value.int .i64 s); refine (inverse_any s _ s0 s1).mono ?_; rintro e w2 ⟨rfl, rfl⟩; rw [HSI.out])
    | (go_at_call 117; refine (powersFrom_any ni si N _ n0 n1 i0 i1 (by omega)).mono ?_; rintro e w3 ⟨a3, c3, rfl, ho3, hb3⟩))
  all_goals
    have HB13 : Hid (Below w1.heap.size w1 w3) := HBD.out.trans hb3
    have HO3 : Hid (Owns 73 w3 w1.heap.size a3 N c3 (M.gp ni si N)) := ho3
    have HO13 : Hid (Owns 73 w3 w.heap.size a1 N c1 (M.tr zs ri)) := HO1.out.below HB13.out
    have HB3 : Hid (Below w.heap.size w w3) := HB1.out.trans (HB13.out.mono HB1.out.size)
    clear ho3 hb3
    go_wp2_with fail
    refine (timesEach_any _ HO13.out.sees HO3.out.sees (M.tr_all _ _) (M.gp_all _ _ _) rfl (by omega)).mono ?_
    rintro e w4 ⟨a4, c4, rfl, ho4, hb4⟩
    have HO4 : Hid (Owns 73 w4 w.heap.size a4 N c4 (M.each (M.tr zs ri) (M.gp ni si N))) := ho4.mono HB3.out.size
    have HB4 : Hid (Below w.heap.size w w4) := HB3.out.trans (hb4.mono HB3.out.size)
    clear ho4 hb4
    go_wp2_with fail
    refine (trimmedPoly_any _ HO4.out.sees (by omega)).mono ?_
    rintro e w5 ⟨a5, m5, c5, rfl, ho5, hb5⟩
    have HO5 : Hid (Owns 73 w5 w.heap.size a5 m5 c5 (M.frs zs s)) := by
      show Owns _ _ _ _ _ _ _
      rw [← HF.out]; exact ho5.mono HB4.out.size
    have HB5 : Hid (Below w.heap.size w w5) := HB4.out.trans (hb5.mono HB4.out.size)
    clear ho5 hb5
    go_wp2
    go_ret
    exact ⟨a5, m5, c5, rfl, HO5.out, HB5.out⟩
end Go.Proofs.YtbcfjbkmkknmfaaGreatDoor
