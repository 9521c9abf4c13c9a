/- Values at points, in the program and in its model. -/
import Derived.Test.YtjeoenieoejolahTrC
import Derived.Laws.EntriesVeiled
namespace Go.Proofs.Ytjeoenieoejolah
open Go.RowKit

theorem M.ev_pv (zs : List Int) (x : Int) : M.ev zs x = M.pv zs x % 65537 := by
  induction zs with
  | nil => rfl
  | cons c r ih =>
    rw [M.ev_cons, ih]
    show _ = (c + x * M.pv r x) % 65537
    have h := M.mm (M.pv r x) x
    rw [Int.mul_comm x]
    generalize M.pv r x % 65537 * x = A at h ⊢
    generalize M.pv r x * x = B at h ⊢
    omega
theorem M.ev_cg (zs : List Int) (x : Int) : M.cg (M.ev zs x) (M.pv zs x) := by rw [M.ev_pv]; exact M.cg_mod _
/-- the transform of zs at 1, r, r r .. -/
def M.tr (zs : List Int) (r : Int) : List Int := M.tab zs.length (fun j => M.pv zs (r ^ j) % 65537)
theorem M.tr_all (zs : List Int) (r : Int) : M.allEl (M.tr zs r) = true := M.all_tab fun i _ => (M.el_iff _).2 ⟨by omega, by omega⟩
theorem M.tr_len (zs : List Int) (r : Int) : (M.tr zs r).length = zs.length := M.tab_len _ _
theorem M.tr_fv (zs : List Int) (r : Int) (N : Nat) (h : zs.length = N) : M.tab N (M.fv (fun i => zs.getD i 0) r 0 1 N) = M.tr zs r := by
  unfold M.tr
  rw [h]
  refine M.tab_congr fun j _ => ?_
  unfold M.fv
  rw [Nat.one_mul, ← h, M.pv_all]
/-- zs at the points s, s q .. N of them -/
def M.evs (zs : List Int) (s q : Int) (N : Nat) : List Int := M.tab N (fun j => M.ev zs (s * q ^ j % 65537))
theorem M.evs_len (zs : List Int) (s q : Int) (N : Nat) : (M.evs zs s q N).length = N := M.tab_len _ _
theorem M.evs_all (zs : List Int) (s q : Int) (N : Nat) : M.allEl (M.evs zs s q N) = true := M.all_tab fun _ _ => (M.el_iff _).2 (M.ev_bd _ _)
theorem M.tr_wrap {zs out : List Int} {s q : Int} {N : Nat} (hq : M.cg (q ^ N) 1) (h : M.Wr N (M.each zs (M.gp 1 s zs.length)) (M.each zs (M.gp 1 s zs.length)).length out) : M.tr out q = M.evs zs s q N := by
  unfold M.tr M.evs
  rw [h.1]
  refine M.tab_congr fun j _ => ?_
  rw [M.ev_pv]
  have h1 : M.cg ((q ^ j) ^ N) 1 := by
    rw [← Int.pow_mul, Nat.mul_comm, Int.pow_mul]
    have := hq.pow j; rw [Int.one_pow] at this; exact this
  have h2 := h.2.2 (q ^ j) h1
  rw [List.take_length] at h2
  have h3 : M.cg (M.pv (M.each zs (M.gp 1 s zs.length)) (q ^ j)) (M.pv zs (s * q ^ j)) := by
    refine M.pv_scale s (q ^ j) (M.each_len _ _) fun i hi => ?_
    unfold M.each M.gp
    rw [M.tab_get _ _ _ hi, M.tab_get _ _ _ hi, Int.one_mul]
    exact (M.cg_mod _).trans ((M.cg.refl _).mul (M.cg_mod _))
  exact (h2.trans h3).trans (M.pv_cg (M.cg_mod _).symm zs)
theorem gp_root {n : Nat} (h : M.two64 (n : Int) = true) : ∃ k, n = 2 ^ k ∧ n ≤ 64 ∧ 0 < n := by
  obtain ⟨i, hi, e⟩ := (M.two64_iff _).1 h
  have hb := M.two64_le hi
  refine ⟨i, ?_, by omega, by omega⟩
  have : ((2 ^ i : Nat) : Int) = (2 : Int) ^ i := by simp
  omega

set_option maxHeartbeats 2000000 in
theorem transformed_any {la : Option Addr} {lc N k : Nat} {zs : List Int} (r : Int) (w : World) (hz : Sees w la N lc zs) (az : M.allEl zs = true) (hN : N = 2 ^ k) (hN1 : N ≤ 1000) (r0 : 0 ≤ r) (r1 : r < 65537) (hr : ∀ h, N = 2 * h → M.cg (r ^ h) (-1)) :
    Calls Try.prog 62 #[.slice la N lc, .int .i64 r] w fun e w' => ∃ a' c', e = .returned (.slice a' N c') ∧ Owns 52 w' w.heap.size a' N c' (M.tr zs r) ∧ Below w.heap.size w w' := by
  have HZ : Hid (Sees w la N lc zs) := hz
  have HA : Hid (M.allEl zs = true) := az
  have HN : Hid (N = 2 ^ k) := hN
  have HR : Hid (∀ h, N = 2 * h → M.cg (r ^ h) (-1)) := hr
  have HT : Hid (M.tab N (M.fv (fun i => zs.getD i 0) r 0 1 N) = M.tr zs r) := M.tr_fv zs r N hz.len
  clear hz az hN hr
  go_enter Try.func62, Try.ntmps62
  go_wp2_with fail
  refine (powersFrom_any 1 r N _ (by omega) (by omega) r0 r1 (by omega)).mono ?_
  rintro e w1 ⟨pa, pc, rfl, ho1, hb1⟩
  have HO1 : Hid (Owns 52 w1 (w.heap.size + 1) pa N pc (M.gp 1 r N)) := by show Owns _ _ _ _ _ _ _; simpa using ho1
  have HB1 : Hid (Below (w.heap.size + 1) (w.alloc (.cells #[Value.slice la N lc] 55)) w1) := by show Below _ _ _; simpa using hb1
  have HS1 : Hid (w.heap.size + 1 ≤ w1.heap.size) := by show _ ≤ _; have := hb1.size; simpa using this
  have HBW : Hid (Below w.heap.size w w1) := ((Below.refl _ _).alloc (Nat.le_refl _) _).trans (hb1.mono (by simp))
  have HCL : Hid (w1.cell? ⟨w.heap.size, 0, none⟩ = some (.slice la N lc)) := (hb1.cell (p := ⟨w.heap.size, 0, none⟩) (by simp)).trans (by rw [World.cell?_alloc_new]; rfl)
  have hcl := HCL.out
  clear ho1 hb1
  go_wp2_with fail
  refine (tr1_any (la := la) (lc := lc) (pa := pa) (pc := pc) (N := N) (RL := w.heap.size) (RF := w1.heap.size + 1) (RP := w1.heap.size) (zs := zs) (r := r) hN1 HA.out HR.out k N HN.out 0 1 _ (by omega) (by omega) ?env).mono ?_
  case env =>
    have hbb : Below w1.heap.size w1 ((w1.alloc (.cells #[Value.slice pa N pc] 55)).alloc (.cells #[Value.func (.func 78) #[] #[.pointer (some ⟨w.heap.size, 0, none⟩), .pointer (some ⟨w1.heap.size + 1, 0, none⟩), .pointer (some ⟨w1.heap.size, 0, none⟩)]] 109)) := ((Below.refl _ _).alloc (Nat.le_refl _) _).alloc (by simp) _
    refine ⟨HZ.out.below (HBW.out.trans (hbb.mono HBW.out.size)), HO1.out.sees.below hbb, (hbb.cell (p := ⟨w.heap.size, 0, none⟩) (by have := HS1.out; show w.heap.size < _; omega)).trans HCL.out, ?_, ?_⟩ <;> simp
  rintro e w2 ⟨a2, c2, rfl, ho2, hb2⟩
  have HO2 : Hid (Owns 52 w2 w.heap.size a2 N c2 (M.tr zs r)) := by
    show Owns _ _ _ _ _ _ _
    rw [← HT.out]; exact ho2.mono (by have := HS1.out; simp; omega)
  have HB2 : Hid (Below w.heap.size w w2) := ((HBW.out.alloc HBW.out.size _).alloc (by have := HS1.out; simp; omega) _).trans (hb2.mono (by have := HS1.out; simp; omega))
  clear ho2 hb2
  go_wp2
  go_ret
  exact ⟨a2, c2, rfl, HO2.out, HB2.out⟩
end Go.Proofs.Ytjeoenieoejolah
