/- Where a job stands in a market, in the model. -/
import Derived.Test.YtfhknkppiidnkaaMkQ
import Derived.Test.YtfhknkppiidnkaaMkF
namespace Go.Proofs.Ytfhknkppiidnkaa
open Go.RowKit

/-- a job's place, below nought where there is none -/
def M.jobAt (id : Int) (k : Nat) : List M.Jb → Int
  | [] => -1
  | j :: l => if j.id = id then (k : Int) else M.jobAt id (k + 1) l
set_option maxHeartbeats 2000000 in
theorem l8Job_any {ab aj : Option Addr} {nb cb nj cj : Nat} {js : List M.Jb} (now next id : Int) (w : World) (hz : SeesJ w aj nj cj js) :
    Calls Try.prog 28 #[.agg #[.int .i64 now, .int .i64 next, .slice ab nb cb, .slice aj nj cj], .int .i64 id] w fun e w' => e = .returned (.int .i64 (M.jobAt id 0 js)) ∧ Below w.heap.size w w' := by
  have bn : (nj : Int) ≤ 9223372036854775807 := by have := hz.big; have := hz.le; omega
  have hcI : (nj : Int) ≤ cj := by have := hz.le; omega
  have HL0 : Hid (Lies (w.alloc (.cells #[.int .i64 now, .int .i64 next, .slice ab nb cb, .slice aj nj cj] 30)) w.heap.size [.int .i64 now, .int .i64 next, .slice ab nb cb, .slice aj nj cj]) := lies_new _ _ _
  have HB0 : Hid (Below w.heap.size w (w.alloc (.cells #[.int .i64 now, .int .i64 next, .slice ab nb cb, .slice aj nj cj] 30))) := (Below.refl _ _).alloc (Nat.le_refl _) _
  have HZ : Hid (SeesJ (w.alloc (.cells #[.int .i64 now, .int .i64 next, .slice ab nb cb, .slice aj nj cj] 30)) aj nj cj js) := hz.below HB0.out
  generalize hR : M.jobAt id 0 js = R
  have HR : Hid (M.jobAt id 0 js = R) := hR
  clear hR hz
  go_enter Try.func28, Try.ntmps28
  go_wp2
  generalize (w.alloc (.cells #[.int .i64 now, .int .i64 next, .slice ab nb cb, .slice aj nj cj] 30)) = w1 at HL0 HB0 HZ ⊢
  have x3 : w1.cell? ⟨w.heap.size, 3, none⟩ = some (.slice aj nj cj) := HL0.out.at 3
  go_loop [5] (fun i => ∃ k : Nat, k ≤ nj ∧ i = .int .i64 k ∧ M.jobAt id k (js.drop k) = R) (fun i => nj - (intOf i).toNat)
  case atStart => exact ⟨0, by omega, rfl, HR.out⟩
  case round =>
    obtain ⟨k, hk, rfl, hg⟩ := hrel
    by_cases hlt : k < nj
    · obtain ⟨b1, o1, rfl, hc1⟩ := HZ.out.at (by omega)
      obtain ⟨ta, tc, hA, _⟩ := hc1 k hlt
      have c1 : w1.cell? ⟨b1, o1 + k * 18, none⟩ = some (.int .i64 (js.getD k M.j0).id) := hA 0 (by omega)
      have hG : (if (js.getD k M.j0).id = id then (k : Int) else M.jobAt id (k + 1) (js.drop (k + 1))) = R := by
        rw [← hg, drop_step M.j0 HZ.out.len hlt]; rfl
      generalize (js.getD k M.j0).id = x at c1 hG
      clear hc1 hA hg
      have hI : (k : Int) < (nj : Int) := by omega
      by_cases hx : x = id
      · have hb : (x == id) = true := by simp [hx]
        have HF : Hid ((k : Int) = R) := by show _ = _; rw [if_pos hx] at hG; exact hG
        clear hx hG
        go_wp2
        go_ret
        exact ⟨by rw [← HF.out]; rfl, HB0.out⟩
      · have hb : (x == id) = false := by simp [hx]
        have HG3 : Hid (M.jobAt id (k + 1) (js.drop (k + 1)) = R) := by show _ = _; rw [if_neg hx] at hG; exact hG
        clear hx hG
        go_wp2
        go_round
        case rel => exact ⟨k + 1, by omega, by go_num, HG3.out⟩
        case measure => simp [intOf]; omega
    · have HF : Hid (-1 = R) := by show _ = _; rw [List.drop_of_length_le (by rw [HZ.out.len]; omega)] at hg; exact hg
      clear hg
      go_wp2
      go_ret
      exact ⟨by rw [← HF.out]; rfl, HB0.out⟩
end Go.Proofs.Ytfhknkppiidnkaa
