/- Points: how many and where, in the program and in its model. -/
import Derived.Test.YtjeoenieoejolahTrMathB
import Derived.Test.YtjeoenieoejolahRootA
import Derived.Test.YtjeoenieoejolahEvMath
namespace Go.Proofs.Ytjeoenieoejolah
open Go.RowKit

/-- a, a q, a q q .. k of them -/
def M.gp (a q : Int) (k : Nat) : List Int := M.tab k (fun i => a * q ^ i % 65537)
theorem M.gp_all (a q : Int) (k : Nat) : M.allEl (M.gp a q k) = true := M.all_tab fun i _ => (M.el_iff _).2 ⟨by omega, by omega⟩
theorem M.gp_snoc (a q : Int) (k : Nat) : M.gp a q k ++ [a * q ^ k % 65537] = M.gp a q (k + 1) := M.tab_snoc k _
theorem M.gp_len (a q : Int) (k : Nat) : (M.gp a q k).length = k := M.tab_len _ _
theorem M.gp_step (a q : Int) (k : Nat) : a * q ^ k % 65537 * q % 65537 = a * q ^ (k + 1) % 65537 := by
  rw [M.mm, Int.mul_assoc, Int.pow_succ]
theorem M.gp_zero {a : Int} (a0 : 0 ≤ a) (a1 : a < 65537) (q : Int) : a = a * q ^ 0 % 65537 := by
  rw [Int.pow_zero, Int.mul_one, Int.emod_eq_of_lt a0 a1]
def lenOf : Value → Nat
  | .slice _ n _ => n
  | _ => 0

set_option maxHeartbeats 1000000 in
theorem powersFrom_any (a q : Int) (K : Nat) (w : World) (a0 : 0 ≤ a) (a1 : a < 65537) (q0 : 0 ≤ q) (q1 : q < 65537) (hK : K ≤ 1048576) :
    Calls Try.prog 64 #[.int .i64 a, .int .i64 q, .int .i64 K] w fun e w' => ∃ a' c', e = .returned (.slice a' K c') ∧ Owns 52 w' w.heap.size a' K c' (M.gp a q K) ∧ Below w.heap.size w w' := by
  obtain ⟨i0, hi, hz0, hz1, hz2⟩ := info_parts info_el
  have HI : Hid (Try.prog.info? 52 = some i0 ∧ i0.zero = some (Value.int .i64 0) ∧ i0.size = 1 ∧ i0.bytes = 8) := ⟨hi, hz0, hz1, hz2⟩
  have HG0 : Hid (a = a * q ^ 0 % 65537) := M.gp_zero a0 a1 q
  go_enter Try.func64, Try.ntmps64
  go_wp2_with (at_make; refine wpList_make_own _ rfl _ _ 55 rfl w.heap.size 52 i0 (.int .i64 0) 1 Try.underlying55 hi hz0 hz1 .i64 .i64 _ K rfl rfl rfl (by rw [hz2]; omega) (by unfold maxLen; omega) (Nat.le_refl _) ?_)
  intro w1 hown hg
  have HO : Hid (Owns 52 w1 w.heap.size (some ⟨w.heap.size, 0, none⟩) 0 K []) := hown
  have HB : Hid (Below w.heap.size w w1) := below_grown hg
  clear hown hg hi hz0 hz1 hz2
  go_wp2
  go_loopw [7, 8] (fun s v wr => ∃ (k : Nat) (a' : Option Addr) (cap' : Nat), k ≤ K ∧ s = .slice a' k cap' ∧ v = .int .i64 (a * q ^ k % 65537) ∧ Owns 52 wr w.heap.size a' k cap' (M.gp a q k) ∧ Below w.heap.size w wr) (fun s _ _ => K - lenOf s)
  case atStart => exact ⟨0, _, _, by omega, rfl, by rw [← HG0.out], HO.out, HB.out⟩
  case round =>
    obtain ⟨k, a', cap', hk, rfl, rfl, ho1, hb1⟩ := hrel
    have HO1 : Hid (Owns 52 wr w.heap.size a' k cap' (M.gp a q k)) := ho1
    have HB1 : Hid (Below w.heap.size w wr) := hb1
    have hsz := hb1.size
    clear ho1 hb1 HO HB
    have HS : Hid (M.gp a q k ++ [a * q ^ k % 65537] = M.gp a q (k + 1)) := M.gp_snoc a q k
    have HT : Hid (a * q ^ k % 65537 * q % 65537 = a * q ^ (k + 1) % 65537) := M.gp_step a q k
    by_cases hlt : k < K
    · have hI : (k : Int) < (K : Int) := by omega
      have y0 : 0 ≤ a * q ^ k % 65537 := by omega
      have y1 : a * q ^ k % 65537 < 65537 := by omega
      generalize hy : a * q ^ k % 65537 = y at HS HT y0 y1
      clear hy
      go_wp2_with (at_builtin; refine wpList_append_own _ rfl _ _ 55 rfl w.heap.size 52 i0 (.int .i64 0) 1 8 Try.underlying55 HI.out.1 HI.out.2.1 HI.out.2.2.1 HI.out.2.2.2 rfl (by decide) _ k ((M.gp a q k).map (Value.int .i64)) rfl (World.ownsRow.alloc HO1.out _) ⟨wr.heap.size, 0, none⟩ 1 1 [.int .i64 y] rfl rfl (cell_one wr _ _) (one_int _) (by unfold maxLen; omega) (by omega) (by simp; omega) ?_)
      intro v' w1 hown hgrow _
      have hown' : w1.ownsRow w.heap.size 52 1 v' (k + 1) ((M.gp a q (k + 1)).map (Value.int .i64)) := by rw [← HS.out, List.map_append]; exact hown
      obtain ⟨a2, cap2, rfl, ho2⟩ := Owns.form hown'
      have HO2 : Hid (Owns 52 w1 w.heap.size a2 (k + 1) cap2 (M.gp a q (k + 1))) := ho2
      have HB2 : Hid (Below w.heap.size w w1) := HB1.out.grown ((World.grownBy_alloc wr _ _).trans hgrow) hsz HO1.out.row
      clear hown hown' hgrow ho2
      go_wp2_with fail
      refine (times_any y q _ y0 y1 q0 q1).mono ?_
      rintro e w' ⟨rfl, rfl⟩
      go_wp2
      go_roundw
      case rel => exact ⟨k + 1, a2, cap2, by omega, rfl, by rw [HT.out], HO2.out, HB2.out⟩
      case measure => simp [lenOf]; omega
    · have hkn : k = K := by omega
      subst hkn
      go_wp2
      go_ret
      exact ⟨a', cap', rfl, HO1.out, HB1.out⟩
set_option maxHeartbeats 1000000 in
theorem placesOf_in (n s : Int) (w : World) (h : M.ptOk n s = true) :
    Calls Try.prog 58 #[.int .i64 n, .int .i64 s] w fun e w' => e = .returned (.tuple #[.agg #[.int .i64 n, .int .i64 s, .int .i64 (M.root n)], .bool true]) ∧ Below w.heap.size w w' := by
  obtain ⟨h1, h2, h3⟩ := M.ptOk_parts h
  obtain ⟨s0, s1⟩ := (M.el_iff s).1 h2
  obtain ⟨n0, n1⟩ := M.two64_bd h1
  have hb1 : (s == 0) = false := by simp [h3]
  have hb2 : (64 % n != 0) = false := by simp [(M.two64_div n0).1 h1]
  have hb3 : ¬ n < 1 := by omega
  clear h h1 h2 h3
  go_enter Try.func58, Try.ntmps58
  go_wp2_with (first | (go_at_call 44; refine (elementOf_in s _ s0 s1).mono ?_; rintro e w' ⟨rfl, rfl⟩) | (go_at_call 75; refine (implRoot_any n _).mono ?_; rintro e w' ⟨rfl, rfl⟩))
  refine bodyPost_ret (v := .tuple #[.agg #[.int .i64 n, .int .i64 s, .int .i64 (M.root n)], .bool true]) (by simp [results, Try.results58, go_sem]) rfl ⟨rfl, ?_⟩
  exact (Below.refl _ _).alloc (Nat.le_refl _) _
set_option maxHeartbeats 1000000 in
theorem placesOf_out (n s : Int) (w : World) (h : M.ptOk n s = false) :
    Calls Try.prog 58 #[.int .i64 n, .int .i64 s] w fun e w' => e = .returned (.tuple #[.agg #[.int .i64 0, .int .i64 0, .int .i64 0], .bool false]) ∧ Below w.heap.size w w' := by
  cases he : M.el s with
  | false =>
    have HX : Hid (s < 0 ∨ 65537 ≤ s) := (M.el_not s).1 he
    clear h he
    go_enter Try.func58, Try.ntmps58
    go_wp2_with (go_at_call 44; refine (elementOf_out s _ HX.out).mono ?_; rintro e w' ⟨rfl, rfl⟩)
    refine bodyPost_ret (v := .tuple #[.agg #[.int .i64 0, .int .i64 0, .int .i64 0], .bool false]) (by simp [results, Try.results58, go_sem]) rfl ⟨rfl, ?_⟩
    exact (Below.refl _ _).alloc (Nat.le_refl _) _
  | true =>
    obtain ⟨s0, s1⟩ := (M.el_iff s).1 he
    by_cases hs : s = 0
    · have hb1 : (s == 0) = true := by simp [hs]
      clear h he hs
      go_enter Try.func58, Try.ntmps58
      go_wp2_with (go_at_call 44; refine (elementOf_in s _ s0 s1).mono ?_; rintro e w' ⟨rfl, rfl⟩)
      refine bodyPost_ret (v := .tuple #[.agg #[.int .i64 0, .int .i64 0, .int .i64 0], .bool false]) (by simp [results, Try.results58, go_sem]) rfl ⟨rfl, ?_⟩
      exact (Below.refl _ _).alloc (Nat.le_refl _) _
    · have hb1 : (s == 0) = false := by simp [hs]
      by_cases hn : n < 1
      · clear h he hs
        go_enter Try.func58, Try.ntmps58
        go_wp2_with (go_at_call 44; refine (elementOf_in s _ s0 s1).mono ?_; rintro e w' ⟨rfl, rfl⟩)
        refine bodyPost_ret (v := .tuple #[.agg #[.int .i64 0, .int .i64 0, .int .i64 0], .bool false]) (by simp [results, Try.results58, go_sem]) rfl ⟨rfl, ?_⟩
        exact (Below.refl _ _).alloc (Nat.le_refl _) _
      · have hb2 : (64 % n != 0) = true := by
          rw [bne_iff_ne]; intro e
          rw [M.ptOk_mk ((M.two64_div (by omega)).2 e) he hs] at h; cases h
        clear h he hs
        go_enter Try.func58, Try.ntmps58
        go_wp2_with (go_at_call 44; refine (elementOf_in s _ s0 s1).mono ?_; rintro e w' ⟨rfl, rfl⟩)
        refine bodyPost_ret (v := .tuple #[.agg #[.int .i64 0, .int .i64 0, .int .i64 0], .bool false]) (by simp [results, Try.results58, go_sem]) rfl ⟨rfl, ?_⟩
        exact (Below.refl _ _).alloc (Nat.le_refl _) _
set_option maxHeartbeats 1000000 in
theorem l1Two64_any (n : Int) (w : World) :
    Calls Try.prog 54 #[.int .i64 n, .int .i64 64] w fun e w' => e = .returned (.bool (M.two64 n)) ∧ w' = w := by
  have HS : Hid (M.Two6 n 1) := M.t6_start n
  go_enter Try.func54, Try.ntmps54
  go_wp2
  go_loop [5] (fun k => ∃ p : Int, 1 ≤ p ∧ p ≤ 128 ∧ k = .int .i64 p ∧ M.Two6 n p) (fun k => (129 - intOf k).toNat)
  case atStart => exact ⟨1, by omega, by omega, rfl, HS.out⟩
  case round =>
    obtain ⟨p, p0, p1, rfl, hinv⟩ := hrel
    have HI : Hid (M.Two6 n p) := hinv
    clear hinv HS
    by_cases hp : p ≤ 64
    · by_cases he : p = n
      · have E : Hid (M.two64 n = true) := M.t6_hit HI.out hp he
        have hb : (p == n) = true := by simp [he]
        clear he HI
        go_wp2
        go_ret
        exact ⟨ret_bool E.out.symm, rfl⟩
      · have E : Hid (M.Two6 n (2 * p)) := M.t6_step HI.out hp he
        have hb : (p == n) = false := by simp [he]
        clear he HI
        go_wp2
        go_round
        case rel => exact ⟨2 * p, by omega, by omega, rfl, E.out⟩
        case measure => simp [intOf]; omega
    · have E : Hid (M.two64 n = false) := M.t6_end HI.out (by omega)
      clear HI
      go_wp2
      go_ret
      exact ⟨ret_bool E.out.symm, rfl⟩
set_option maxHeartbeats 1000000 in
theorem l3Ok_any (n s : Int) (w : World) :
    Calls Try.prog 27 #[.int .i64 n, .int .i64 s] w fun e w' => e = .returned (.bool (M.ptOk n s)) ∧ w' = w := by
  cases h1 : M.two64 n with
  | false =>
    have E : Hid (M.ptOk n s = false) := M.ptOk_n h1
    go_enter Try.func27, Try.ntmps27
    go_wp2_with fail
    refine (l1Two64_any n _).mono ?_
    rintro e w' ⟨rfl, rfl⟩
    go_wp2
    go_ret
    exact ⟨ret_bool E.out.symm, rfl⟩
  | true =>
    cases h2 : M.el s with
    | false =>
      have E : Hid (M.ptOk n s = false) := M.ptOk_el h2
      go_enter Try.func27, Try.ntmps27
      go_wp2_with fail
      refine (l1Two64_any n _).mono ?_
      rintro e w' ⟨rfl, rfl⟩
      go_wp2_with fail
      refine (l1F_any s _).mono ?_
      rintro e w' ⟨rfl, rfl⟩
      go_wp2
      go_ret
      exact ⟨ret_bool E.out.symm, rfl⟩
    | true =>
      have E : Hid (M.ptOk n s = (s != 0)) := by show _ = _; simp [M.ptOk, h1, h2]
      go_enter Try.func27, Try.ntmps27
      go_wp2_with fail
      refine (l1Two64_any n _).mono ?_
      rintro e w' ⟨rfl, rfl⟩
      go_wp2_with fail
      refine (l1F_any s _).mono ?_
      rintro e w' ⟨rfl, rfl⟩
      go_wp2
      go_ret
      exact ⟨ret_bool E.out.symm, rfl⟩
set_option maxHeartbeats 1000000 in
theorem l3Points_any (N : Nat) (s : Int) (w : World) (h : M.ptOk N s = true) :
    Calls Try.prog 39 #[.int .i64 N, .int .i64 s] w fun e w' => ∃ a' c', e = .returned (.slice a' N c') ∧ Owns 2 w' w.heap.size a' N c' (M.gp s (M.root N) N) ∧ Below w.heap.size w w' := by
  obtain ⟨i0, hi, hz0, hz1, hz2⟩ := info_parts info_i64
  have HI : Hid (Try.prog.info? 2 = some i0 ∧ i0.zero = some (Value.int .i64 0) ∧ i0.size = 1 ∧ i0.bytes = 8) := ⟨hi, hz0, hz1, hz2⟩
  obtain ⟨h1, h2, h3⟩ := M.ptOk_parts h
  obtain ⟨s0, s1⟩ := (M.el_iff s).1 h2
  obtain ⟨n0, n1⟩ := M.two64_bd h1
  obtain ⟨q0, q1⟩ := (M.el_iff _).1 (M.root_el (M.two64_two h1))
  have HG0 : Hid (s = s * M.root N ^ 0 % 65537) := M.gp_zero s0 s1 _
  clear h h1 h2 h3 hi hz0 hz1 hz2
  go_enter Try.func39, Try.ntmps39
  go_wp2_with fail
  refine (specRoot_any N _).mono ?_
  rintro e w' ⟨rfl, rfl⟩
  generalize hq : M.root N = q at q0 q1 HG0 ⊢
  have HQ : Hid (M.root N = q) := hq
  clear hq
  go_wp2
  go_loopw [5, 7, 8] (fun o v i wr => ∃ (k : Nat) (a' : Option Addr) (cap' : Nat), k ≤ N ∧ i = .int .i64 k ∧ o = .slice a' k cap' ∧ v = .int .i64 (s * q ^ k % 65537) ∧ Owns 2 wr w.heap.size a' k cap' (M.gp s q k) ∧ Below w.heap.size w wr) (fun _ _ i _ => N - (intOf i).toNat)
  case atStart => exact ⟨0, _, _, by omega, rfl, rfl, by rw [← HG0.out], World.ownsRow_made w #[] 0 (Nat.le_refl _) (by unfold maxLen; omega) rfl, (Below.refl _ _).alloc (Nat.le_refl _) _⟩
  case round =>
    obtain ⟨k, a', cap', hk, rfl, rfl, rfl, ho1, hb1⟩ := hrel
    have HO1 : Hid (Owns 2 wr w.heap.size a' k cap' (M.gp s q k)) := ho1
    have HB1 : Hid (Below w.heap.size w wr) := hb1
    have hsz := hb1.size
    clear ho1 hb1
    have HS : Hid (M.gp s q k ++ [s * q ^ k % 65537] = M.gp s q (k + 1)) := M.gp_snoc s q k
    have HT : Hid (s * q ^ k % 65537 * q % 65537 = s * q ^ (k + 1) % 65537) := M.gp_step s q k
    by_cases hlt : k < N
    · have hI : (k : Int) < (N : Int) := by omega
      have y0 : 0 ≤ s * q ^ k % 65537 := by omega
      have y1 : s * q ^ k % 65537 < 65537 := by omega
      generalize hy : s * q ^ k % 65537 = y at HS HT y0 y1
      obtain ⟨m0, m1⟩ := M.mul_bd y0 y1 q0 q1
      clear hy
      go_wp2_with (at_builtin; refine wpList_append_own _ rfl _ _ 22 rfl w.heap.size 2 i0 (.int .i64 0) 1 8 Try.underlying22 HI.out.1 HI.out.2.1 HI.out.2.2.1 HI.out.2.2.2 rfl (by decide) _ k ((M.gp s q k).map (Value.int .i64)) rfl (World.ownsRow.alloc HO1.out _) ⟨wr.heap.size, 0, none⟩ 1 1 [.int .i64 y] rfl rfl (cell_one wr _ _) (one_int _) (by unfold maxLen; omega) (by omega) (by simp; omega) ?_)
      intro v' w1 hown hgrow _
      have hown' : w1.ownsRow w.heap.size 2 1 v' (k + 1) ((M.gp s q (k + 1)).map (Value.int .i64)) := by rw [← HS.out, List.map_append]; exact hown
      obtain ⟨a2, cap2, rfl, ho2⟩ := Owns.form hown'
      have HO2 : Hid (Owns 2 w1 w.heap.size a2 (k + 1) cap2 (M.gp s q (k + 1))) := ho2
      have HB2 : Hid (Below w.heap.size w w1) := HB1.out.grown ((World.grownBy_alloc wr _ _).trans hgrow) hsz HO1.out.row
      clear hown hown' hgrow ho2
      go_wp2
      go_roundw
      case rel => exact ⟨k + 1, a2, cap2, by omega, by go_num, rfl, by rw [HT.out], HO2.out, HB2.out⟩
      case measure => simp [intOf]; omega
    · have hkn : k = N := by omega
      subst hkn
      go_wp2
      go_ret
      exact ⟨a', cap', rfl, by rw [HQ.out]; exact HO1.out, HB1.out⟩
/-- what Points answers -/
def M.ptv (n s : Int) : List Int := if M.ptOk n s = true then M.gp s (M.root n) n.toNat else []
theorem M.ptv_in {n s : Int} (h : M.ptOk n s = true) : M.ptv n s = M.gp s (M.root n) n.toNat := by unfold M.ptv; rw [if_pos h]
theorem M.ptv_out {n s : Int} (h : M.ptOk n s = false) : M.ptv n s = [] := by unfold M.ptv; rw [if_neg (by rw [h]; decide)]
theorem M.ptOk_nat {n s : Int} (h : M.ptOk n s = true) : ∃ N : Nat, n = (N : Int) ∧ N ≤ 64 ∧ 0 < N := by
  have hb := M.two64_bd (M.ptOk_parts h).1
  exact ⟨n.toNat, by omega, by omega, by omega⟩
end Go.Proofs.Ytjeoenieoejolah
