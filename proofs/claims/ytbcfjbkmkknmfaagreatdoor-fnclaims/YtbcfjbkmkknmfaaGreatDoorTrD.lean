/- Values at points, in the program and in its model. -/
import Derived.Laws.EntriesVeiled
import Derived.Test.YtbcfjbkmkknmfaaGreatDoorTrC
namespace Go.Proofs.YtbcfjbkmkknmfaaGreatDoor
open Go.RowKit

theorem M.ev_pv (zs : List Int) (x : Int) : M.ev zs x = M.pv zs x % 65537 := by
  induction zs with
  | nil => rfl
  | cons c r ih =>
    rw [M.ev_cons, ih]
    show _ = (c + x * M.pv r x) % 65537
    have h := M.mm (M.pv r x) x
    rw [Int.mul_comm x]
    generalize M.pv r x % 65537 * x = A at h ⊢
    generalize M.pv r x * x = B at h ⊢
    omega
theorem M.ev_cg (zs : List Int) (x : Int) : M.cg (M.ev zs x) (M.pv zs x) := by rw [M.ev_pv]; exact M.cg_mod _
/-- the transform of zs at 1, r, r r .. -/
def M.tr (zs : List Int) (r : Int) : List Int := M.tab zs.length (fun j => M.pv zs (r ^ j) % 65537)
theorem M.tr_all (zs : List Int) (r : Int) : M.allEl (M.tr zs r) = true := M.all_tab fun i _ => (M.el_iff _).2 ⟨by omega, by omega⟩
theorem M.tr_len (zs : List Int) (r : Int) : (M.tr zs r).length = zs.length := M.tab_len _ _
theorem M.tr_fv (zs : List Int) (r : Int) (N : Nat) (h : zs.length = N) : M.tab N (M.fv (fun i => zs.getD i 0) r 0 1 N) = M.tr zs r := by
  unfold M.tr
  rw [h]
  refine M.tab_congr fun j _ => ?_
  unfold M.fv
  rw [Nat.one_mul, ← h, M.pv_all]
/-- zs at the points s, s q .. N of them -/
def M.evs (zs : List Int) (s q : Int) (N : Nat) : List Int := M.tab N (fun j => M.ev zs (s * q ^ j % 65537))
theorem M.evs_len (zs : List Int) (s q : Int) (N : Nat) : (M.evs zs s q N).length = N := M.tab_len _ _
theorem M.evs_all (zs : List Int) (s q : Int) (N : Nat) : M.allEl (M.evs zs s q N) = true := M.all_tab fun _ _ => (M.el_iff _).2 (M.ev_bd _ _)
theorem M.tr_wrap {zs out : List Int} {s q : Int} {N : Nat} (hq : M.cg (q ^ N) 1) (h : M.Wr N (M.each zs (M.gp 1 s zs.length)) (M.each zs (M.gp 1 s zs.length)).length out) : M.tr out q = M.evs zs s q N := by
  unfold M.tr M.evs
  rw [h.1]
  refine M.tab_congr fun j _ => ?_
  rw [M.ev_pv]
  have h1 : M.cg ((q ^ j) ^ N) 1 := by
    rw [← Int.pow_mul, Nat.mul_comm, Int.pow_mul]
    have := hq.pow j; rw [Int.one_pow] at this; exact this
  have h2 := h.2.2 (q ^ j) h1
  rw [List.take_length] at h2
  have h3 : M.cg (M.pv (M.each zs (M.gp 1 s zs.length)) (q ^ j)) (M.pv zs (s * q ^ j)) := by
    refine M.pv_scale s (q ^ j) (M.each_len _ _) fun i hi => ?_
    unfold M.each M.gp
    rw [M.tab_get _ _ _ hi, M.tab_get _ _ _ hi, Int.one_mul]
    exact (M.cg_mod _).trans ((M.cg.refl _).mul (M.cg_mod _))
  exact (h2.trans h3).trans (M.pv_cg (M.cg_mod _).symm zs)
theorem gp_root {n : Nat} (h : M.two64 (n : Int) = true) : ∃ k, n = 2 ^ k ∧ n ≤ 64 ∧ 0 < n := by
  obtain ⟨i, hi, e⟩ := (M.two64_iff _).1 h
  have hb := M.two64_le hi
  refine ⟨i, ?_, by omega, by omega⟩
  have : ((2 ^ i : Nat) : Int) = (2 : Int) ^ i := by simp
  omega

set_option maxHeartbeats 2000000 in
theorem transformed_any {la : Option Addr} {lc N k : Nat} {zs : List Int} (r : Int) (w : World) (hz : Sees w la N lc zs) (az : M.allEl zs = true) (hN : N = 2 ^ k) (hN1 : N ≤ 1000) (r0 : 0 ≤ r) (r1 : r < 65537) (hr : ∀ h, N = 2 * h → M.cg (r ^ h) (-1)) :
    Calls Tryz.prog 116 #[.slice la N lc, .int .i64 r] w fun e w' => ∃ a' c', e = .returned (.slice a' N c') ∧ Owns 73 w' w.heap.size a' N c' (M.tr zs r) ∧ Below w.heap.size w w' := by
  have HZ : Hid (Sees w la N lc zs) := hz
  have HA : Hid (M.allEl zs = true) := az
  have HN : Hid (N = 2 ^ k) := hN
  have HR : Hid (∀ h, N = 2 * h → M.cg (r ^ h) (-1)) := hr
  have HT : Hid (M.tab N (M.fv (fun i => zs.getD i 0) r 0 1 N) = M.tr zs r) := M.tr_fv zs r N hz.len
  clear hz az hN hr
  go_enter Tryz.func116, Tryz.ntmps116
  go_wp2_with fail
  refine (powersFrom_any 1 r N _ (by omega) (by omega) r0 r1 (by omega)).mono ?_
  rintro e w1 ⟨pa, pc, rfl, ho1, hb1⟩
  have HO1 : Hid (Owns 73 w1 (w.heap.size + 1) pa N pc (M.gp 1 r N)) := by show Owns _ _ _ _ _ _ _; simpa using ho1
  have HB1 : Hid (Below (w.heap.size + 1) (w.alloc (.cells #[Value.slice la N lc] 89)) w1) := by show Below _ _ _; simpa using hb1
  have HS1 : Hid (w.heap.size + 1 ≤ w1.heap.size) := by show _ ≤ _; have := hb1.size; simpa using this
  have HBW : Hid (Below w.heap.size w w1) := ((Below.refl _ _).alloc (Nat.le_refl _) _).trans (hb1.mono (by simp))
  have HCL : Hid (w1.cell? ⟨w.heap.size, 0, none⟩ = some (.slice la N lc)) := (hb1.cell (p := ⟨w.heap.size, 0, none⟩) (by simp)).trans (by rw [World.cell?_alloc_new]; rfl)
  have hcl := HCL.out
  clear ho1 hb1
  go_wp2_with fail
  refine (tr1_any (la := la) (lc := lc) (pa := pa) (pc := pc) (N := N) (RL := w.heap.size) (RF := w1.heap.size + 1) (RP := w1.heap.size) (zs := zs) (r := r) hN1 HA.out HR.out k N HN.out 0 1 _ (by omega) (by omega) ?env).mono ?_
  case env =>
    have hbb : Below w1.heap.size w1 ((w1.alloc (.cells #[Value.slice pa N pc] 89)).alloc (.cells #[Value.func (.func 136) #[] #[.pointer (some ⟨w.heap.size, 0, none⟩), .pointer (some ⟨w1.heap.size + 1, 0, none⟩), .pointer (some ⟨w1.heap.size, 0, none⟩)]] 191)) := ((Below.refl _ _).alloc (Nat.le_refl _) _).alloc (by simp) _
    refine ⟨HZ.out.below (HBW.out.trans (hbb.mono HBW.out.size)), HO1.out.sees.below hbb, (hbb.cell (p := ⟨w.heap.size, 0, none⟩) (by have := HS1.out; show w.heap.size < _; omega)).trans HCL.out, ?_, ?_⟩ <;> simp
  rintro e w2 ⟨a2, c2, rfl, ho2, hb2⟩
  have HO2 : Hid (Owns 73 w2 w.heap.size a2 N c2 (M.tr zs r)) := by
    show Owns _ _ _ _ _ _ _
    rw [← HT.out]; exact ho2.mono (by have := HS1.out; simp; omega)
  have HB2 : Hid (Below w.heap.size w w2) := ((HBW.out.alloc HBW.out.size _).alloc (by have := HS1.out; simp; omega) _).trans (hb2.mono (by have := HS1.out; simp; omega))
  clear ho2 hb2
  go_wp2
  go_ret
  exact ⟨a2, c2, rfl, HO2.out, HB2.out⟩
set_option maxHeartbeats 2000000 in
theorem valuesOf_any {la : Option Addr} {n lc N : Nat} {zs : List Int} (s : Int) (w : World) (hz : Sees w la n lc zs) (az : M.allEl zs = true) (hn : n ≤ 1000) (hp : M.ptOk N s = true) :
    Calls Tryz.prog 83 #[.agg #[.int .i64 N, .int .i64 s, .int .i64 (M.root N)], .slice la n lc] w fun e w' => ∃ a' c', e = .returned (.slice a' N c') ∧ Owns 73 w' w.heap.size a' N c' (M.evs zs s (M.root N) N) ∧ Below w.heap.size w w' := by
  have HZ : Hid (Sees w la n lc zs) := hz
  have HA : Hid (M.allEl zs = true) := az
  obtain ⟨h1, h2, h3⟩ := M.ptOk_parts hp
  obtain ⟨s0, s1⟩ := (M.el_iff s).1 h2
  obtain ⟨q0, q1⟩ := (M.el_iff _).1 (M.root_el (M.two64_two h1))
  obtain ⟨k, hk, hN, hN0⟩ := gp_root h1
  have HK : Hid (N = 2 ^ k) := hk
  have HRH : Hid (∀ h, N = 2 * h → M.cg (M.root N ^ h) (-1)) := fun h e => M.root_h (M.two64_two h1) e
  have HRN : Hid (M.cg (M.root N ^ N) 1) := M.root_n (M.two64_two h1)
  have HLen : Hid (zs.length = n) := hz.len
  clear hz az h1 h2 h3 hp hk
  generalize M.root N = q at q0 q1 HRH HRN ⊢
  go_enter Tryz.func83, Tryz.ntmps83
  go_wp2_with fail
  refine (powersFrom_any 1 s n _ (by omega) (by omega) s0 s1 (by omega)).mono ?_
  rintro e w1 ⟨pa, pc, rfl, ho1, hb1⟩
  have HB1 : Hid (Below w.heap.size w w1) := ((Below.refl _ _).alloc (Nat.le_refl _) _).trans (hb1.mono (by simp))
  have HO1 : Hid (Owns 73 w1 w.heap.size pa n pc (M.gp 1 s n)) := ho1.mono (by simp)
  have HC1 : Hid (∀ W, Below w1.heap.size w1 W → W.cell? ⟨w.heap.size, 0, none⟩ = some (.int .i64 N) ∧ W.cell? ⟨w.heap.size, 1, none⟩ = some (.int .i64 s) ∧ W.cell? ⟨w.heap.size, 2, none⟩ = some (.int .i64 q)) := fun W hW => by
    have hs : w.heap.size < w1.heap.size := by have := hb1.size; simp at this; omega
    refine ⟨(hW.cell (p := ⟨w.heap.size, 0, none⟩) hs).trans ((hb1.cell (p := ⟨w.heap.size, 0, none⟩) (by simp)).trans (by rw [World.cell?_alloc_new]; rfl)), (hW.cell (p := ⟨w.heap.size, 1, none⟩) hs).trans ((hb1.cell (p := ⟨w.heap.size, 1, none⟩) (by simp)).trans (by rw [World.cell?_alloc_new]; rfl)), (hW.cell (p := ⟨w.heap.size, 2, none⟩) hs).trans ((hb1.cell (p := ⟨w.heap.size, 2, none⟩) (by simp)).trans (by rw [World.cell?_alloc_new]; rfl))⟩
  clear ho1 hb1
  go_wp2_with fail
  refine (timesEach_any _ (HZ.out.below HB1.out) HO1.out.sees HA.out (M.gp_all _ _ _) rfl (by omega)).mono ?_
  rintro e w2 ⟨ta, tc, rfl, ho2, hb2⟩
  have HO2 : Hid (Owns 73 w2 w.heap.size ta n tc (M.each zs (M.gp 1 s zs.length))) := by
    show Owns _ _ _ _ _ _ _
    rw [HLen.out]; exact ho2.mono HB1.out.size
  have HB2 : Hid (Below w.heap.size w w2) := HB1.out.trans (hb2.mono HB1.out.size)
  have HB12 : Hid (Below w1.heap.size w1 w2) := hb2
  obtain ⟨k0, k1, k2⟩ := HC1.out _ hb2
  clear ho2 hb2
  have HOD : Hid (Sees w2.drew ta n tc (M.each zs (M.gp 1 s zs.length))) := HO2.out.sees.below (Below.refl _ _).drew
  have HBD : Hid (Below w2.heap.size w2 w2.drew) := (Below.refl _ _).drew
  go_wp2
  go_region_with (first
    | (go_at_call 120; refine (wrapped_any N _ HOD.out (M.each_all _ _) (by omega) (by omega) hN0).mono ?_; rintro e w3 ⟨a3, out, rfl, hwr, ho3, hb3⟩; have hb3' : Below w2.heap.size w2 w3 := HBD.out.trans hb3; obtain ⟨g0, g1, g2⟩ := HC1.out _ (HB12.out.trans (hb3'.mono HB12.out.size)))
    | (go_at_call 116; refine (transformed_any q _ ho3.sees (M.wr_all hwr) HK.out (by omega) q0 q1 HRH.out).mono ?_; rintro e w4 ⟨a4, c4, rfl, ho4, hb4⟩))
  all_goals
    have HE : Hid (M.tr out q = M.evs zs s q N) := M.tr_wrap HRN.out hwr
    have HB4 : Hid (Below w.heap.size w w4) := HB2.out.trans ((hb3'.trans (hb4.mono hb3'.size)).mono HB2.out.size)
    have HO4 : Hid (Owns 73 w4 w.heap.size a4 N c4 (M.evs zs s q N)) := by
      show Owns _ _ _ _ _ _ _
      rw [← HE.out]; exact ho4.mono (Nat.le_trans HB2.out.size hb3'.size)
    clear ho4 hb4 ho3 hb3 hb3' hwr
    go_wp2
    go_ret
    exact ⟨a4, c4, rfl, HO4.out, HB4.out⟩
end Go.Proofs.YtbcfjbkmkknmfaaGreatDoor
