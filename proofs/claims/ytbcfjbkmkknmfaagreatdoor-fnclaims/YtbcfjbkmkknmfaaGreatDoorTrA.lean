/- Points: how many and where, in the program and in its model. -/
import Derived.Test.YtbcfjbkmkknmfaaGreatDoorTrMathB
import Derived.Test.YtbcfjbkmkknmfaaGreatDoorRootA
import Derived.Test.YtbcfjbkmkknmfaaGreatDoorEvMath
namespace Go.Proofs.YtbcfjbkmkknmfaaGreatDoor
open Go.RowKit

/-- a, a q, a q q .. k of them -/
def M.gp (a q : Int) (k : Nat) : List Int := M.tab k (fun i => a * q ^ i % 65537)
theorem M.gp_all (a q : Int) (k : Nat) : M.allEl (M.gp a q k) = true := M.all_tab fun i _ => (M.el_iff _).2 ⟨by omega, by omega⟩
theorem M.gp_snoc (a q : Int) (k : Nat) : M.gp a q k ++ [a * q ^ k % 65537] = M.gp a q (k + 1) := M.tab_snoc k _
theorem M.gp_len (a q : Int) (k : Nat) : (M.gp a q k).length = k := M.tab_len _ _
theorem M.gp_step (a q : Int) (k : Nat) : a * q ^ k % 65537 * q % 65537 = a * q ^ (k + 1) % 65537 := by
  rw [M.mm, Int.mul_assoc, Int.pow_succ]
theorem M.gp_zero {a : Int} (a0 : 0 ≤ a) (a1 : a < 65537) (q : Int) : a = a * q ^ 0 % 65537 := by
  rw [Int.pow_zero, Int.mul_one, Int.emod_eq_of_lt a0 a1]
def lenOf : Value → Nat
  | .slice _ n _ => n
  | _ => 0

set_option maxHeartbeats 1000000 in
theorem powersFrom_any (a q : Int) (K : Nat) (w : World) (a0 : 0 ≤ a) (a1 : a < 65537) (q0 : 0 ≤ q) (q1 : q < 65537) (hK : K ≤ 1048576) :
    Calls Tryz.prog 117 #[.int .i64 a, .int .i64 q, .int .i64 K] w fun e w' => ∃ a' c', e = .returned (.slice a' K c') ∧ Owns 73 w' w.heap.size a' K c' (M.gp a q K) ∧ Below w.heap.size w w' := by
  obtain ⟨i0, hi, hz0, hz1, hz2⟩ := info_parts info_el
  have HI : Hid (Tryz.prog.info? 73 = some i0 ∧ i0.zero = some (Value.int .i64 0) ∧ i0.size = 1 ∧ i0.bytes = 8) := ⟨hi, hz0, hz1, hz2⟩
  have HG0 : Hid (a = a * q ^ 0 % 65537) := M.gp_zero a0 a1 q
  go_enter Tryz.func117, Tryz.ntmps117
  go_wp2_with (at_make; refine wpList_make_own _ rfl _ _ 89 rfl w.heap.size 73 i0 (.int .i64 0) 1 Tryz.underlying89 hi hz0 hz1 .i64 .i64 _ K rfl rfl rfl (by rw [hz2]; omega) (by unfold maxLen; omega) (Nat.le_refl _) ?_)
  intro w1 hown hg
  have HO : Hid (Owns 73 w1 w.heap.size (some ⟨w.heap.size, 0, none⟩) 0 K []) := hown
  have HB : Hid (Below w.heap.size w w1) := below_grown hg
  clear hown hg hi hz0 hz1 hz2
  go_wp2
  go_loopw [7, 8] (fun s v wr => ∃ (k : Nat) (a' : Option Addr) (cap' : Nat), k ≤ K ∧ s = .slice a' k cap' ∧ v = .int .i64 (a * q ^ k % 65537) ∧ Owns 73 wr w.heap.size a' k cap' (M.gp a q k) ∧ Below w.heap.size w wr) (fun s _ _ => K - lenOf s)
  case atStart => exact ⟨0, _, _, by omega, rfl, by rw [← HG0.out], HO.out, HB.out⟩
  case round =>
    obtain ⟨k, a', cap', hk, rfl, rfl, ho1, hb1⟩ := hrel
    have HO1 : Hid (Owns 73 wr w.heap.size a' k cap' (M.gp a q k)) := ho1
    have HB1 : Hid (Below w.heap.size w wr) := hb1
    have hsz := hb1.size
    clear ho1 hb1 HO HB
    have HS : Hid (M.gp a q k ++ [a * q ^ k % 65537] = M.gp a q (k + 1)) := M.gp_snoc a q k
    have HT : Hid (a * q ^ k % 65537 * q % 65537 = a * q ^ (k + 1) % 65537) := M.gp_step a q k
    by_cases hlt : k < K
    · have hI : (k : Int) < (K : Int) := by omega
      have y0 : 0 ≤ a * q ^ k % 65537 := by omega
      have y1 : a * q ^ k % 65537 < 65537 := by omega
      generalize hy : a * q ^ k % 65537 = y at HS HT y0 y1
      clear hy
      go_wp2_with (at_builtin; refine wpList_append_own _ rfl _ _ 89 rfl w.heap.size 73 i0 (.int .i64 0) 1 8 Tryz.underlying89 HI.out.1 HI.out.2.1 HI.out.2.2.1 HI.out.2.2.2 rfl (by decide) _ k ((M.gp a q k).map (Value.int .i64)) rfl (World.ownsRow.alloc HO1.out _) ⟨wr.heap.size, 0, none⟩ 1 1 [.int .i64 y] rfl rfl (cell_one wr _ _) (one_int _) (by unfold maxLen; omega) (by omega) (by simp; omega) ?_)
      intro v' w1 hown hgrow _
      have hown' : w1.ownsRow w.heap.size 73 1 v' (k + 1) ((M.gp a q (k + 1)).map (Value.int .i64)) := by rw [← HS.out, List.map_append]; exact hown
      obtain ⟨a2, cap2, rfl, ho2⟩ := Owns.form hown'
      have HO2 : Hid (Owns 73 w1 w.heap.size a2 (k + 1) cap2 (M.gp a q (k + 1))) := ho2
      have HB2 : Hid (Below w.heap.size w w1) := HB1.out.grown ((World.grownBy_alloc wr _ _).trans hgrow) hsz HO1.out.row
      clear hown hown' hgrow ho2
      go_wp2_with fail
      refine (times_any y q _ y0 y1 q0 q1).mono ?_
      rintro e w' ⟨rfl, rfl⟩
      go_wp2
      go_roundw
      case rel => exact ⟨k + 1, a2, cap2, by omega, rfl, by rw [HT.out], HO2.out, HB2.out⟩
      case measure => simp [lenOf]; omega
    · have hkn : k = K := by omega
      subst hkn
      go_wp2
      go_ret
      exact ⟨a', cap', rfl, HO1.out, HB1.out⟩
set_option maxHeartbeats 1000000 in
theorem placesOf_in (n s : Int) (w : World) (h : M.ptOk n s = true) :
    Calls Tryz.prog 79 #[.int .i64 n, .int .i64 s] w fun e w' => e = .returned (.tuple #[.agg #[.int .i64 n, .int .i64 s, .int .i64 (M.root n)], .bool true]) ∧ Below w.heap.size w w' := by
  obtain ⟨h1, h2, h3⟩ := M.ptOk_parts h
  obtain ⟨s0, s1⟩ := (M.el_iff s).1 h2
  obtain ⟨n0, n1⟩ := M.two64_bd h1
  have hb1 : (s == 0) = false := by simp [h3]
  have hb2 : (64 % n != 0) = false := by simp [(M.two64_div n0).1 h1]
  have hb3 : ¬ n < 1 := by omega
  clear h h1 h2 h3
  go_enter Tryz.func79, Tryz.ntmps79
  go_wp2_with (first | (go_at_call 113; refine (elementOf_in s _ s0 s1).mono ?_; rintro e w' ⟨rfl, rfl⟩) | (go_at_call 114; refine (implRoot_any n _).mono ?_; rintro e w' ⟨rfl, rfl⟩))
  refine bodyPost_ret (v := .tuple #[.agg #[.int .i64 n, .int .i64 s, .int .i64 (M.root n)], .bool true]) (by simp [results, Tryz.results79, go_sem]) rfl ⟨rfl, ?_⟩
  exact (Below.refl _ _).alloc (Nat.le_refl _) _
set_option maxHeartbeats 1000000 in
theorem l3Points_any (N : Nat) (s : Int) (w : World) (h : M.ptOk N s = true) :
    Calls Tryz.prog 60 #[.int .i64 N, .int .i64 s] w fun e w' => ∃ a' c', e = .returned (.slice a' N c') ∧ Owns 2 w' w.heap.size a' N c' (M.gp s (M.root N) N) ∧ Below w.heap.size w w' := by
  obtain ⟨i0, hi, hz0, hz1, hz2⟩ := info_parts info_i64
  have HI : Hid (Tryz.prog.info? 2 = some i0 ∧ i0.zero = some (Value.int .i64 0) ∧ i0.size = 1 ∧ i0.bytes = 8) := ⟨hi, hz0, hz1, hz2⟩
  obtain ⟨h1, h2, h3⟩ := M.ptOk_parts h
  obtain ⟨s0, s1⟩ := (M.el_iff s).1 h2
  obtain ⟨n0, n1⟩ := M.two64_bd h1
  obtain ⟨q0, q1⟩ := (M.el_iff _).1 (M.root_el (M.two64_two h1))
  have HG0 : Hid (s = s * M.root N ^ 0 % 65537) := M.gp_zero s0 s1 _
  clear h h1 h2 h3 hi hz0 hz1 hz2
  go_enter Tryz.func60, Tryz.ntmps60
  go_wp2_with fail
  refine (specRoot_any N _).mono ?_
  rintro e w' ⟨rfl, rfl⟩
  generalize hq : M.root N = q at q0 q1 HG0 ⊢
  have HQ : Hid (M.root N = q) := hq
  clear hq
  go_wp2
  go_loopw [5, 7, 8] (fun o v i wr => ∃ (k : Nat) (a' : Option Addr) (cap' : Nat), k ≤ N ∧ i = .int .i64 k ∧ o = .slice a' k cap' ∧ v = .int .i64 (s * q ^ k % 65537) ∧ Owns 2 wr w.heap.size a' k cap' (M.gp s q k) ∧ Below w.heap.size w wr) (fun _ _ i _ => N - (intOf i).toNat)
  case atStart => exact ⟨0, _, _, by omega, rfl, rfl, by rw [← HG0.out], World.ownsRow_made w #[] 0 (Nat.le_refl _) (by unfold maxLen; omega) rfl, (Below.refl _ _).alloc (Nat.le_refl _) _⟩
  case round =>
    obtain ⟨k, a', cap', hk, rfl, rfl, rfl, ho1, hb1⟩ := hrel
    have HO1 : Hid (Owns 2 wr w.heap.size a' k cap' (M.gp s q k)) := ho1
    have HB1 : Hid (Below w.heap.size w wr) := hb1
    have hsz := hb1.size
    clear ho1 hb1
    have HS : Hid (M.gp s q k ++ [s * q ^ k % 65537] = M.gp s q (k + 1)) := M.gp_snoc s q k
    have HT : Hid (s * q ^ k % 65537 * q % 65537 = s * q ^ (k + 1) % 65537) := M.gp_step s q k
    by_cases hlt : k < N
    · have hI : (k : Int) < (N : Int) := by omega
      have y0 : 0 ≤ s * q ^ k % 65537 := by omega
      have y1 : s * q ^ k % 65537 < 65537 := by omega
      generalize hy : s * q ^ k % 65537 = y at HS HT y0 y1
      obtain ⟨m0, m1⟩ := M.mul_bd y0 y1 q0 q1
      clear hy
      go_wp2_with (at_builtin; refine wpList_append_own _ rfl _ _ 32 rfl w.heap.size 2 i0 (.int .i64 0) 1 8 Tryz.underlying32 HI.out.1 HI.out.2.1 HI.out.2.2.1 HI.out.2.2.2 rfl (by decide) _ k ((M.gp s q k).map (Value.int .i64)) rfl (World.ownsRow.alloc HO1.out _) ⟨wr.heap.size, 0, none⟩ 1 1 [.int .i64 y] rfl rfl (cell_one wr _ _) (one_int _) (by unfold maxLen; omega) (by omega) (by simp; omega) ?_)
      intro v' w1 hown hgrow _
      have hown' : w1.ownsRow w.heap.size 2 1 v' (k + 1) ((M.gp s q (k + 1)).map (Value.int .i64)) := by rw [← HS.out, List.map_append]; exact hown
      obtain ⟨a2, cap2, rfl, ho2⟩ := Owns.form hown'
      have HO2 : Hid (Owns 2 w1 w.heap.size a2 (k + 1) cap2 (M.gp s q (k + 1))) := ho2
      have HB2 : Hid (Below w.heap.size w w1) := HB1.out.grown ((World.grownBy_alloc wr _ _).trans hgrow) hsz HO1.out.row
      clear hown hown' hgrow ho2
      go_wp2
      go_roundw
      case rel => exact ⟨k + 1, a2, cap2, by omega, by go_num, rfl, by rw [HT.out], HO2.out, HB2.out⟩
      case measure => simp [intOf]; omega
    · have hkn : k = N := by omega
      subst hkn
      go_wp2
      go_ret
      exact ⟨a', cap', rfl, by rw [HQ.out]; exact HO1.out, HB1.out⟩
set_option maxHeartbeats 1000000 in
theorem placesAll_any (N : Nat) (s q : Int) (w : World) (s0 : 0 ≤ s) (s1 : s < 65537) (q0 : 0 ≤ q) (q1 : q < 65537) (hN : N ≤ 1048576) :
    Calls Tryz.prog 121 #[.agg #[.int .i64 N, .int .i64 s, .int .i64 q]] w fun e w' => ∃ a' c', e = .returned (.slice a' N c') ∧ Owns 73 w' w.heap.size a' N c' (M.gp s q N) ∧ Below w.heap.size w w' := by
  go_enter Tryz.func121, Tryz.ntmps121
  go_wp2_with fail
  refine (powersFrom_any s q N _ s0 s1 q0 q1 hN).mono ?_
  rintro e w1 ⟨a1, c1, rfl, ho1, hb1⟩
  have HO1 : Hid (Owns 73 w1 w.heap.size a1 N c1 (M.gp s q N)) := ho1.mono (by simp)
  have HB1 : Hid (Below w.heap.size w w1) := ((Below.refl _ _).alloc (Nat.le_refl _) _).trans (hb1.mono (by simp))
  clear ho1 hb1
  go_wp2
  go_ret
  exact ⟨a1, c1, rfl, HO1.out, HB1.out⟩
end Go.Proofs.YtbcfjbkmkknmfaaGreatDoor
