/- Whether a claim holds, in the program and in the model. What FnHolds says, in plain terms. -/
import Derived.Test.YtbcfjbkmkknmfaaGreatDoorClA
namespace Go.Proofs.YtbcfjbkmkknmfaaGreatDoor
open Go.RowKit

def M.holds (m : M.Mc) (c : M.Cl) : Bool := m.ok && (M.clOk c && (decide ((M.aft m c.s c.n).1 = c.e.1) && decide ((M.aft m c.s c.n).2 = c.e.2)))
theorem M.runOk_cl {m : M.Mc} {c : M.Cl} (h : M.clOk c = true) : M.runOk m c.s c.n = m.ok := by
  have hn := M.clOk_n h
  have hs : M.sOk c.s = true := by unfold M.clOk at h; simp only [Bool.and_eq_true] at h; exact h.1
  cases hm : m.ok with
  | true => exact M.runOk_mk hm hs (by omega) hn.2
  | false =>
    cases hr : M.runOk m c.s c.n with
    | false => rfl
    | true => have := (M.runOk_parts hr).1; rw [hm] at this; cases this
set_option maxHeartbeats 4000000 in
theorem implHolds_any (mm : M.Mc) (cl : M.Cl) (w : World) : Calls Tryz.prog 21 #[mcv mm, clv cl] w fun e w' => e = .returned (.bool (M.holds mm cl)) ∧ Below w.heap.size w w' := by
  have C1 := implAfter_any mm cl.s cl.n
  have C2 := claimOk_any cl
  have hr := @M.runOk_cl mm cl
  unfold M.holds
  generalize M.aft mm cl.s cl.n = q at C1 ⊢
  generalize M.clOk cl = o at C2 hr ⊢
  generalize mm.ok = o2 at hr ⊢
  generalize M.runOk mm cl.s cl.n = o3 at C1 hr
  obtain ⟨⟨a, b, c, d, f, k⟩, ⟨a', b', c', d', f', k'⟩⟩ := mm
  obtain ⟨⟨x, y⟩, ⟨x', y'⟩, n⟩ := cl
  obtain ⟨u, v⟩ := q
  dsimp only [mcv, clv, stv] at C1 C2 ⊢
  have LA : Hid (Lies ((w.alloc (.cells #[.int .i64 a, .int .i64 b, .int .i64 c, .int .i64 d, .int .i64 f, .int .i64 k, .int .i64 a', .int .i64 b', .int .i64 c', .int .i64 d', .int .i64 f', .int .i64 k'] 27)).alloc (.cells #[.int .i64 x, .int .i64 y, .int .i64 x', .int .i64 y', .int .i64 n] 46)) (w.heap.size + 1) [.int .i64 x, .int .i64 y, .int .i64 x', .int .i64 y', .int .i64 n]) := lies_new2 _ _ _ _
  go_enter Tryz.func21, Tryz.ntmps21
  go_wp2_with fail
  refine (C1 _).mono ?_
  rintro e w1 ⟨rfl, hb1⟩
  have HB1 : Hid (Below w.heap.size w w1) := (((Below.refl _ _).alloc (Nat.le_refl _) _).alloc (by simp) _).trans (hb1.mono (by simp; omega))
  have HBE : Hid (Below w.heap.size w (w1.alloc (.cells #[.int .i64 u, .int .i64 v] 29))) := HB1.out.alloc HB1.out.size _
  have LE : Hid (Lies (w1.alloc (.cells #[.int .i64 u, .int .i64 v] 29)) w1.heap.size [.int .i64 u, .int .i64 v]) := lies_new _ _ _
  have LC : Hid (Lies (w1.alloc (.cells #[.int .i64 u, .int .i64 v] 29)) (w.heap.size + 1) [.int .i64 x, .int .i64 y, .int .i64 x', .int .i64 y', .int .i64 n]) := (LA.out.belowS hb1).alloc _
  have p0 : (w1.alloc (.cells #[.int .i64 u, .int .i64 v] 29)).cell? ⟨w.heap.size + 1, 0, none⟩ = some (.int .i64 x) := LC.out.at 0
  have p1 : (w1.alloc (.cells #[.int .i64 u, .int .i64 v] 29)).cell? ⟨w.heap.size + 1, 1, none⟩ = some (.int .i64 y) := LC.out.at 1
  have p2 : (w1.alloc (.cells #[.int .i64 u, .int .i64 v] 29)).cell? ⟨w.heap.size + 1, 2, none⟩ = some (.int .i64 x') := LC.out.at 2
  have p3 : (w1.alloc (.cells #[.int .i64 u, .int .i64 v] 29)).cell? ⟨w.heap.size + 1, 3, none⟩ = some (.int .i64 y') := LC.out.at 3
  have p4 : (w1.alloc (.cells #[.int .i64 u, .int .i64 v] 29)).cell? ⟨w.heap.size + 1, 4, none⟩ = some (.int .i64 n) := LC.out.at 4
  clear hb1 LA
  cases o3 with
  | false =>
    go_wp2
    go_ret
    exact ⟨by cases o <;> simp_all, HBE.out⟩
  | true =>
    go_wp2_with fail
    refine (C2 _).mono ?_
    rintro e w2 ⟨rfl, hb2⟩
    have HB2 : Hid (Below w.heap.size w w2) := HBE.out.trans (hb2.mono HBE.out.size)
    have LC2 := LC.out.belowS hb2
    have LE2 := LE.out.belowS hb2
    clear p0 p1 p2 p3 p4
    have p0 : w2.cell? ⟨w.heap.size + 1, 0, none⟩ = some (.int .i64 x) := LC2.at 0
    have p1 : w2.cell? ⟨w.heap.size + 1, 1, none⟩ = some (.int .i64 y) := LC2.at 1
    have p2 : w2.cell? ⟨w.heap.size + 1, 2, none⟩ = some (.int .i64 x') := LC2.at 2
    have p3 : w2.cell? ⟨w.heap.size + 1, 3, none⟩ = some (.int .i64 y') := LC2.at 3
    have p4 : w2.cell? ⟨w.heap.size + 1, 4, none⟩ = some (.int .i64 n) := LC2.at 4
    have e0 : w2.cell? ⟨w1.heap.size, 0, none⟩ = some (.int .i64 u) := LE2.at 0
    have e1 : w2.cell? ⟨w1.heap.size, 1, none⟩ = some (.int .i64 v) := LE2.at 1
    clear hb2 LC LE LC2 LE2 HBE
    cases o with
    | false =>
      go_wp2
      go_ret
      exact ⟨by simp, HB2.out⟩
    | true =>
      obtain rfl : true = o2 := hr (by simp)
      by_cases h1 : u = x'
      · by_cases h2 : v = y'
        · subst h1 h2
          have j1 : (u == u) = true := by simp
          have j2 : (v == v) = true := by simp
          go_wp2
          go_ret
          exact ⟨by simp, HB2.out⟩
        · subst h1
          have j1 : (u == u) = true := by simp
          have j2 : (v == y') = false := by simpa using h2
          go_wp2
          go_ret
          exact ⟨by simp, HB2.out⟩
      · have j1 : (u == x') = false := by simpa using h1
        go_wp2
        go_ret
        exact ⟨by simp [h1], HB2.out⟩
end Go.Proofs.YtbcfjbkmkknmfaaGreatDoor
namespace Go.Proofs.YtbcfjbkmkknmfaaGreatDoor
open Go.RowKit

end Go.Proofs.YtbcfjbkmkknmfaaGreatDoor
