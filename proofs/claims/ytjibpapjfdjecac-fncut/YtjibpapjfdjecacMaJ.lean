/- Whether states are a run, in the program. -/
import Derived.Test.YtjibpapjfdjecacMaI
import Derived.Deep.RegionWith
import Derived.Laws.StructEq
namespace Go.Proofs.Ytjibpapjfdjecac
open Go.RowKit

/-- are the first k states what comes from p? -/
def M.isRn (m : M.Mc) (p : Int × Int) (ps : List (Int × Int)) (o : Bool) : Nat → Bool
  | 0 => o
  | k + 1 => M.isRn m p ps o k && (decide ((ps.getD k (0, 0)).1 = (m.rn p k).1) && decide ((ps.getD k (0, 0)).2 = (m.rn p k).2))
def M.trOk (m : M.Mc) (ps : List (Int × Int)) : Bool := M.isRn m (ps.getD 0 (0, 0)) ps (M.sOk (ps.getD 0 (0, 0))) ps.length
def M.traceOk (m : M.Mc) (ps : List (Int × Int)) : Bool := m.ok && (decide (1 ≤ ps.length) && (decide (ps.length ≤ 1001) && M.trOk m ps))
theorem M.isRn_false (m : M.Mc) (p : Int × Int) (ps : List (Int × Int)) : ∀ k, M.isRn m p ps false k = false
  | 0 => rfl
  | k + 1 => by rw [M.isRn, M.isRn_false m p ps k]; rfl
set_option maxHeartbeats 4000000 in
theorem isRun_any {a : Option Addr} {n c : Nat} {ps : List (Int × Int)} (m : M.Mc) (w : World) (hm : m.ok = true) (hz : SeesQ w a n c ps) (h0 : 0 < n) :
    Calls Try.prog 29 #[.iface 95 (mcv m), .slice a n c] w fun e w' => e = .returned (.bool (M.trOk m ps)) ∧ Below w.heap.size w w' := by
  have HM : Hid (m.ok = true) := hm
  have HZ : Hid (SeesQ w a n c ps) := hz
  have hnb : (n : Int) ≤ 9223372036854775807 := by have := hz.big; have := hz.le; omega
  have hnc : (n : Int) ≤ c := by have := hz.le; omega
  have HF : Hid (∀ p o, (o = M.sOk (ps.getD 0 (0, 0))) → (o = true → p = ps.getD 0 (0, 0)) → M.isRn m p ps o n = M.trOk m ps) := fun p o ho hp => by
    unfold M.trOk
    rw [hz.len]
    cases o with
    | false => rw [← ho, M.isRn_false, M.isRn_false]
    | true => rw [← ho, hp rfl]
  obtain ⟨b1, o1, rfl, hc1⟩ := hz.at h0
  obtain ⟨e1, e2⟩ := hc1 0 h0
  clear hz hm hc1
  have C1 := statePair_any (ps.getD 0 (0, 0))
  generalize ps.getD 0 (0, 0) = q at C1 e1 e2 HF
  have HSo : Hid (∃ o, o = M.sOk q) := ⟨_, rfl⟩
  obtain ⟨o, ho⟩ := HSo.out
  rw [← ho] at C1
  have HO : Hid (o = M.sOk q) := ho
  clear ho HSo
  obtain ⟨x, y⟩ := q
  dsimp only [stv] at C1 e1 e2
  simp only [Nat.zero_mul, Nat.add_zero] at e1 e2
  go_enter Try.func29, Try.ntmps29
  go_wp2_with fail
  refine (C1 _).mono ?_
  rintro e w1 ⟨p, rfl, hp, hE, hb1⟩
  have HP : Hid (M.sOk p = true) := hp
  have HR : Hid (M.isRn m p ps o n = M.trOk m ps) := HF.out p o HO.out hE
  have HB1 : Hid (Below w.heap.size w w1) := hb1
  have hs1 := hb1.size
  clear hp hE hb1 HF HO C1
  have HP0 : Hid (p = m.rn p 0) := rfl
  obtain ⟨u, v⟩ := p
  go_wp2
  go_loopw [6, 18] (fun s i wr => ∃ (k : Nat), k ≤ n ∧ i = .int .i64 k ∧ s = .bool (M.isRn m (u, v) ps o k) ∧ Below w.heap.size w wr ∧ w1.heap.size < wr.heap.size ∧ (wr.cell? ⟨w1.heap.size, 0, none⟩ = some (.int .i64 (m.rn (u, v) k).1) ∧ wr.cell? ⟨w1.heap.size, 1, none⟩ = some (.int .i64 (m.rn (u, v) k).2) ∧ wr.frozen? ⟨w1.heap.size, 0, none⟩ = false ∧ wr.frozen? ⟨w1.heap.size, 1, none⟩ = false)) (fun _ i _ => n - (intOf i).toNat)
  case atStart => exact ⟨0, by omega, rfl, rfl, HB1.out.alloc hs1 _, by simp, World.cell?_alloc_new _ _ _ _, World.cell?_alloc_new _ _ _ _, frozen_one _ _ _ _, frozen_one _ _ _ _⟩
  case round =>
    obtain ⟨k, hk, rfl, rfl, hbr, hsr, c0, c1, f0, f1⟩ := hrel
    have HBr : Hid (Below w.heap.size w wr) := hbr
    clear hbr
    by_cases hlt : k < n
    · obtain ⟨b2, o2, hob, hc2⟩ := (HZ.out.below HBr.out).at (by omega)
      simp only [Option.some.injEq, Addr.mk.injEq, and_true] at hob
      obtain ⟨rfl, rfl⟩ := hob
      obtain ⟨d0, d1⟩ := hc2 k hlt
      have hI : (k : Int) < (n : Int) := by omega
      have HSk : Hid (M.sOk (m.rn (u, v) k) = true) := M.sOk_rn m HP.out k
      have HN : Hid (m.nx (m.rn (u, v) k) = m.rn (u, v) (k + 1)) := rfl
      have HRk : Hid (M.isRn m (u, v) ps o (k + 1) = (M.isRn m (u, v) ps o k && (decide ((ps.getD k (0, 0)).1 = (m.rn (u, v) k).1) && decide ((ps.getD k (0, 0)).2 = (m.rn (u, v) k).2)))) := rfl
      have CS := state_any (m.rn (u, v) k)
      generalize m.rn (u, v) k = q at c0 c1 HSk HN HRk CS
      generalize ps.getD k (0, 0) = t at d0 d1 HRk
      obtain ⟨u2, v2⟩ := q
      obtain ⟨x2, y2⟩ := t
      dsimp only [stv] at c0 c1 d0 d1 HRk CS
      have hmt := method_next m
      clear hc2
      cases hb : M.isRn m (u, v) ps o k with
      | false =>
        rw [hb] at HRk
        clear hb
        go_wp2
        go_region
        have HB2 : Hid (Below w.heap.size w (wr.alloc (.cells #[.int .i64 x2, .int .i64 y2] 35)).drew) := (HBr.out.alloc HBr.out.size _).drew
        have HS2 : Hid (w1.heap.size < (wr.alloc (.cells #[.int .i64 x2, .int .i64 y2] 35)).drew.heap.size) := by show _ < _; simp; omega
        have HK : Hid ((wr.alloc (.cells #[.int .i64 x2, .int .i64 y2] 35)).drew.cell? ⟨w1.heap.size, 0, none⟩ = some (.int .i64 u2) ∧ (wr.alloc (.cells #[.int .i64 x2, .int .i64 y2] 35)).drew.cell? ⟨w1.heap.size, 1, none⟩ = some (.int .i64 v2) ∧ (wr.alloc (.cells #[.int .i64 x2, .int .i64 y2] 35)).drew.frozen? ⟨w1.heap.size, 0, none⟩ = false ∧ (wr.alloc (.cells #[.int .i64 x2, .int .i64 y2] 35)).drew.frozen? ⟨w1.heap.size, 1, none⟩ = false) := ⟨(World.cell?_alloc_lt (w := wr) (o := .cells #[.int .i64 x2, .int .i64 y2] 35) (a := ⟨w1.heap.size, 0, none⟩) (h := hsr)).trans c0, (World.cell?_alloc_lt (w := wr) (o := .cells #[.int .i64 x2, .int .i64 y2] 35) (a := ⟨w1.heap.size, 1, none⟩) (h := hsr)).trans c1, (show (wr.alloc (.cells #[.int .i64 x2, .int .i64 y2] 35)).frozen? ⟨w1.heap.size, 0, none⟩ = _ by rw [frozen?_alloc_cells]).trans f0, (show (wr.alloc (.cells #[.int .i64 x2, .int .i64 y2] 35)).frozen? ⟨w1.heap.size, 1, none⟩ = _ by rw [frozen?_alloc_cells]).trans f1⟩
        go_wp2_with fail
        refine (stepM_any m (u2, v2) _ HM.out HSk.out).mono ?_
        rintro e w3 ⟨rfl, hb3⟩
        have HB3 : Hid (Below w.heap.size w w3) := HB2.out.trans (hb3.mono HB2.out.size)
        have HS3 : Hid (w1.heap.size < w3.heap.size) := Nat.lt_of_lt_of_le HS2.out hb3.size
        have t0 : w3.cell? ⟨w1.heap.size, 0, none⟩ = some (.int .i64 u2) := (hb3.cell (p := ⟨w1.heap.size, 0, none⟩) HS2.out).trans (by first | exact k2 | exact HK.out.1)
        have t1 : w3.cell? ⟨w1.heap.size, 1, none⟩ = some (.int .i64 v2) := (hb3.cell (p := ⟨w1.heap.size, 1, none⟩) HS2.out).trans (by first | exact k3 | exact HK.out.2.1)
        have t2 : w3.frozen? ⟨w1.heap.size, 0, none⟩ = false := (frozen_kept hb3 HS2.out).trans (by first | exact k4 | exact HK.out.2.2.1)
        have t3 : w3.frozen? ⟨w1.heap.size, 1, none⟩ = false := (frozen_kept hb3 HS2.out).trans (by first | exact k5 | exact HK.out.2.2.2)
        generalize m.nx (u2, v2) = q at HN
        obtain ⟨u4, v4⟩ := q
        obtain ⟨w4, hw4⟩ : ∃ w4, w4 = sets w3 w1.heap.size 0 [.int .i64 u4, .int .i64 v4] := ⟨_, rfl⟩
        have ha := sets_at w1.heap.size [Value.int .i64 u4, .int .i64 v4] w3 0 (fun j hj => by
          match j, hj with
          | 0, _ => exact ⟨_, t0⟩
          | 1, _ => exact ⟨_, t1⟩)
        rw [← hw4] at ha
        have HC4 : Hid (w4.cell? ⟨w1.heap.size, 0, none⟩ = some (.int .i64 (m.rn (u, v) (k + 1)).1) ∧ w4.cell? ⟨w1.heap.size, 1, none⟩ = some (.int .i64 (m.rn (u, v) (k + 1)).2) ∧ w4.frozen? ⟨w1.heap.size, 0, none⟩ = false ∧ w4.frozen? ⟨w1.heap.size, 1, none⟩ = false) := by
          show _ ∧ _
          rw [← HN.out]
          exact ⟨by simpa using ha 0 _ rfl, by simpa using ha 1 _ rfl, by rw [hw4, sets_frozen]; exact t2, by rw [hw4, sets_frozen]; exact t3⟩
        have HS4 : Hid (w1.heap.size < w4.heap.size) := by show _ < _; rw [hw4, sets_size]; exact HS3.out
        have HB4 : Hid (Below w.heap.size w w4) := by
          show Below _ _ _
          rw [hw4]; exact sets_below hs1 _ _ _ HB3.out
        have HW4 : Hid (sets w3 w1.heap.size 0 [.int .i64 u4, .int .i64 v4] = w4) := hw4.symm
        clear ha hw4 hb3
        go_wp2_with (rw [show (w3.setCell ⟨w1.heap.size, 0, none⟩ (.int .i64 u4)).setCell ⟨w1.heap.size, 1, none⟩ (.int .i64 v4) = w4 from HW4.out])
        go_roundw
        case rel => exact ⟨k + 1, by omega, by go_num, by rw [HRk.out]; rfl, HB4.out, HS4.out, HC4.out⟩
        case measure => simp [intOf]; omega
      | true =>
        rw [hb] at HRk
        clear hb
        have HCell : Hid (∀ W, Below (wr.alloc (.cells #[.int .i64 x2, .int .i64 y2] 35)).heap.size (wr.alloc (.cells #[.int .i64 x2, .int .i64 y2] 35)) W → (W.cell? ⟨wr.heap.size, 0, none⟩ = some (.int .i64 x2) ∧ W.cell? ⟨wr.heap.size, 1, none⟩ = some (.int .i64 y2)) ∧ (W.cell? ⟨w1.heap.size, 0, none⟩ = some (.int .i64 u2) ∧ W.cell? ⟨w1.heap.size, 1, none⟩ = some (.int .i64 v2) ∧ W.frozen? ⟨w1.heap.size, 0, none⟩ = false ∧ W.frozen? ⟨w1.heap.size, 1, none⟩ = false)) := fun W hW =>
          ⟨⟨(hW.cell (p := ⟨wr.heap.size, 0, none⟩) (by simp)).trans (World.cell?_alloc_new _ _ _ _), (hW.cell (p := ⟨wr.heap.size, 1, none⟩) (by simp)).trans (World.cell?_alloc_new _ _ _ _)⟩, ((hW.cell (p := ⟨w1.heap.size, 0, none⟩) (by simp; omega)).trans (World.cell?_alloc_lt (w := wr) (o := .cells #[.int .i64 x2, .int .i64 y2] 35) (a := ⟨w1.heap.size, 0, none⟩) (h := hsr))).trans c0, ((hW.cell (p := ⟨w1.heap.size, 1, none⟩) (by simp; omega)).trans (World.cell?_alloc_lt (w := wr) (o := .cells #[.int .i64 x2, .int .i64 y2] 35) (a := ⟨w1.heap.size, 1, none⟩) (h := hsr))).trans c1, ((frozen_kept hW (show w1.heap.size < _ by simp; omega)).trans (by rw [frozen?_alloc_cells])).trans f0, ((frozen_kept hW (show w1.heap.size < _ by simp; omega)).trans (by rw [frozen?_alloc_cells])).trans f1⟩
        have HV : Hid (M.isRn m (u, v) ps o (k + 1) = ((x2 == u2) && (y2 == v2))) := by
          show _ = _
          rw [HRk.out]; simp only [Bool.true_and]
          rcases Decidable.em (x2 = u2) with h | h <;> rcases Decidable.em (y2 = v2) with h' | h' <;> simp [h, h']
        have hcs : ((x2 == u2) = true ∧ (y2 == v2) = true) ∨ ((x2 == u2) = false ∧ True) ∨ ((x2 == u2) = true ∧ (y2 == v2) = false) := by
          cases (x2 == u2) <;> cases (y2 == v2) <;> simp
        have hcs2 : ∃ z : Bool, M.isRn m (u, v) ps o (k + 1) = z ∧ (((x2 == u2) = true ∧ (y2 == v2) = true ∧ z = true) ∨ ((x2 == u2) = false ∧ z = false) ∨ ((x2 == u2) = true ∧ (y2 == v2) = false ∧ z = false)) := by
          rcases hcs with ⟨hd1, hd2⟩ | ⟨hd1, hd2⟩ | ⟨hd1, hd2⟩
          · exact ⟨true, by rw [HV.out, hd1, hd2]; rfl, .inl ⟨hd1, hd2, rfl⟩⟩
          · exact ⟨false, by rw [HV.out, hd1]; rfl, .inr (.inl ⟨hd1, rfl⟩)⟩
          · exact ⟨false, by rw [HV.out, hd1, hd2]; rfl, .inr (.inr ⟨hd1, hd2, rfl⟩)⟩
        obtain ⟨z, hz, hcs3⟩ := hcs2
        have HZv : Hid (M.isRn m (u, v) ps o (k + 1) = z) := hz
        clear hz hcs HV HRk
        rcases hcs3 with ⟨hd1, hd2, rfl⟩ | ⟨hd1, rfl⟩ | ⟨hd1, hd2, rfl⟩
        all_goals
          go_wp2
          go_region_with (go_at_call 45; refine (CS _).mono ?_; rintro e w2 ⟨rfl, hb2⟩; obtain ⟨⟨k0, k1⟩, k2, k3, k4, k5⟩ := HCell.out _ ((Below.refl _ _).drew.trans hb2))
        all_goals
          have HB2 : Hid (Below w.heap.size w w2) := (HBr.out.alloc HBr.out.size _).trans (((Below.refl _ _).drew.trans hb2).mono (by have := HBr.out.size; simp; omega))
          have HS2 : Hid (w1.heap.size < w2.heap.size) := by have := hb2.size; simp at this; show _ < _; omega
          go_wp2_with fail
          refine (stepM_any m (u2, v2) _ HM.out HSk.out).mono ?_
          rintro e w3 ⟨rfl, hb3⟩
          have HB3 : Hid (Below w.heap.size w w3) := HB2.out.trans (hb3.mono HB2.out.size)
          have HS3 : Hid (w1.heap.size < w3.heap.size) := Nat.lt_of_lt_of_le HS2.out hb3.size
          have t0 : w3.cell? ⟨w1.heap.size, 0, none⟩ = some (.int .i64 u2) := (hb3.cell (p := ⟨w1.heap.size, 0, none⟩) HS2.out).trans (by first | exact k2 | exact HK.out.1)
          have t1 : w3.cell? ⟨w1.heap.size, 1, none⟩ = some (.int .i64 v2) := (hb3.cell (p := ⟨w1.heap.size, 1, none⟩) HS2.out).trans (by first | exact k3 | exact HK.out.2.1)
          have t2 : w3.frozen? ⟨w1.heap.size, 0, none⟩ = false := (frozen_kept hb3 HS2.out).trans (by first | exact k4 | exact HK.out.2.2.1)
          have t3 : w3.frozen? ⟨w1.heap.size, 1, none⟩ = false := (frozen_kept hb3 HS2.out).trans (by first | exact k5 | exact HK.out.2.2.2)
          generalize m.nx (u2, v2) = q at HN
          obtain ⟨u4, v4⟩ := q
          obtain ⟨w4, hw4⟩ : ∃ w4, w4 = sets w3 w1.heap.size 0 [.int .i64 u4, .int .i64 v4] := ⟨_, rfl⟩
          have ha := sets_at w1.heap.size [Value.int .i64 u4, .int .i64 v4] w3 0 (fun j hj => by
            match j, hj with
            | 0, _ => exact ⟨_, t0⟩
            | 1, _ => exact ⟨_, t1⟩)
          rw [← hw4] at ha
          have HC4 : Hid (w4.cell? ⟨w1.heap.size, 0, none⟩ = some (.int .i64 (m.rn (u, v) (k + 1)).1) ∧ w4.cell? ⟨w1.heap.size, 1, none⟩ = some (.int .i64 (m.rn (u, v) (k + 1)).2) ∧ w4.frozen? ⟨w1.heap.size, 0, none⟩ = false ∧ w4.frozen? ⟨w1.heap.size, 1, none⟩ = false) := by
            show _ ∧ _
            rw [← HN.out]
            exact ⟨by simpa using ha 0 _ rfl, by simpa using ha 1 _ rfl, by rw [hw4, sets_frozen]; exact t2, by rw [hw4, sets_frozen]; exact t3⟩
          have HS4 : Hid (w1.heap.size < w4.heap.size) := by show _ < _; rw [hw4, sets_size]; exact HS3.out
          have HB4 : Hid (Below w.heap.size w w4) := by
            show Below _ _ _
            rw [hw4]; exact sets_below hs1 _ _ _ HB3.out
          have HW4 : Hid (sets w3 w1.heap.size 0 [.int .i64 u4, .int .i64 v4] = w4) := hw4.symm
          clear ha hw4 hb3
          go_wp2_with (rw [show (w3.setCell ⟨w1.heap.size, 0, none⟩ (.int .i64 u4)).setCell ⟨w1.heap.size, 1, none⟩ (.int .i64 v4) = w4 from HW4.out])
          go_roundw
          case rel => exact ⟨k + 1, by omega, by go_num, by rw [HZv.out], HB4.out, HS4.out, HC4.out⟩
          case measure => simp [intOf]; omega
    · have hkn : k = n := by omega
      subst hkn
      have hr := HR.out
      rw [hr]
      go_wp2
      go_ret
      exact ⟨by first | rfl | rw [HR.out]; rfl, HBr.out⟩
end Go.Proofs.Ytjibpapjfdjecac
