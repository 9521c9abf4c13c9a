/- The polynomial through points, in the program: points as pairs, and whether places are unlike. -/
import Derived.Test.YtjeoenieoejolagThMath
import Derived.Test.YtjeoenieoejolagSlN
namespace Go.Proofs.Ytjeoenieoejolag
open Go.RowKit

theorem M.nodup_no {zs : List Int} {i k : Nat} (hi : i < zs.length) (hk : k < i) (e : zs.getD i 0 = zs.getD k 0) : decide zs.Nodup = false :=
  decide_eq_false fun h => (M.nodup_iff zs).1 h k i hk hi e.symm
theorem M.nodup_yes {zs : List Int} (h : ∀ i k, i < zs.length → k < i → zs.getD i 0 ≠ zs.getD k 0) : decide zs.Nodup = true :=
  decide_eq_true ((M.nodup_iff zs).2 fun i j hij hj e => h j i hj hij e.symm)
set_option maxHeartbeats 2000000 in
theorem allUnlike_any {a : Option Addr} {n c : Nat} {zs : List Int} (w : World) (hz : Sees w a n c zs) :
    Calls Try.prog 39 #[.slice a n c] w fun e w' => e = .returned (.bool (decide zs.Nodup)) ∧ w' = w := by
  have bn : (n : Int) ≤ 9223372036854775807 := by have := hz.big; have := hz.le; omega
  have hnc : (n : Int) ≤ (c : Int) := by have := hz.le; omega
  have HZ : Hid (Sees w a n c zs) := hz
  clear hz
  go_enter Try.func39, Try.ntmps39
  go_wp2
  go_loop [9] (fun i => ∃ k : Nat, k ≤ n ∧ i = .int .i64 k ∧ ∀ i j, i < k → j < i → zs.getD i 0 ≠ zs.getD j 0) (fun i => n - (intOf i).toNat)
  case atStart => exact ⟨0, by omega, rfl, fun i j h => by omega⟩
  case round =>
    obtain ⟨i, hi, rfl, hall⟩ := hrel
    have HA : Hid (∀ j k, j < i → k < j → zs.getD j 0 ≠ zs.getD k 0) := hall
    clear hall
    by_cases hlt : i < n
    · obtain ⟨b1, o1, rfl, hc1⟩ := HZ.out.at (by omega)
      have c1 := hc1 i hlt
      have HC : Hid (∀ i, i < n → w.cell? ⟨b1, o1 + i, none⟩ = some (.int .i64 (zs.getD i 0))) := hc1
      clear hc1
      generalize hx : zs.getD i 0 = x at c1
      have HX : Hid (zs.getD i 0 = x) := hx
      have hI : (i : Int) < (n : Int) := by omega
      have hI2 : (i : Int) ≤ (c : Int) := by omega
      have hI3 : i ≤ c := by omega
      clear hx
      go_wp2
      go_loop [18] (fun q => ∃ k : Nat, k ≤ i ∧ q = .int .i64 k ∧ ∀ j, j < k → x ≠ zs.getD j 0) (fun q => i - (intOf q).toNat)
      case atStart => exact ⟨0, by omega, rfl, fun j h => by omega⟩
      case round =>
        obtain ⟨k, hk, rfl, hin⟩ := hrel
        have HN : Hid (∀ j, j < k → x ≠ zs.getD j 0) := hin
        clear hin
        by_cases hki : k < i
        · have c2 := HC.out k (by omega)
          generalize hy : zs.getD k 0 = y at c2
          have HY : Hid (zs.getD k 0 = y) := hy
          have hK : (k : Int) < (i : Int) := by omega
          clear hy
          by_cases he : x = y
          · have hb : (x == y) = true := by simp [he]
            have HE : Hid (x = y) := he
            clear he
            go_wp2
            go_ret
            exact ⟨ret_bool (M.nodup_no (by rw [HZ.out.len]; exact hlt) hki (by rw [HX.out, HY.out]; exact HE.out)).symm, rfl⟩
          · have hb : (x == y) = false := by simp [he]
            have HE : Hid (x ≠ y) := he
            clear he
            go_wp2
            go_round
            case rel =>
              refine ⟨k + 1, by omega, by go_num, fun j hj => ?_⟩
              by_cases e : j = k
              · subst e; rw [HY.out]; exact HE.out
              · exact HN.out j (by omega)
            case measure => simp [intOf]; omega
        · have hki' : k = i := by omega
          have HK : Hid (k = i) := hki'
          clear hki'
          go_wp2
          go_round
          case rel =>
            refine ⟨i + 1, by omega, by go_num, fun j m hj hm => ?_⟩
            by_cases e : j = i
            · subst e; rw [HX.out]; exact HN.out m (by rw [HK.out]; exact hm)
            · exact HA.out j m (by omega) hm
          case measure => simp [intOf]; omega
    · go_wp2
      go_ret
      exact ⟨ret_bool (M.nodup_yes fun j k hj hk => HA.out j k (by rw [HZ.out.len] at hj; omega) hk).symm, rfl⟩
/-- the cells of the first k points, a place and a value each -/
def M.prs (xs ys : List Int) : Nat → List Value
  | 0 => []
  | k + 1 => M.prs xs ys k ++ [.int .i64 (xs.getD k 0), .int .i64 (ys.getD k 0)]
theorem M.prs_len (xs ys : List Int) (k : Nat) : (M.prs xs ys k).length = k * 2 := by
  induction k with
  | zero => rfl
  | succ k ih => simp [M.prs, ih]; omega
theorem M.prs_get (xs ys : List Int) {k i : Nat} (h : i < k) : (M.prs xs ys k)[i * 2]? = some (.int .i64 (xs.getD i 0)) ∧ (M.prs xs ys k)[i * 2 + 1]? = some (.int .i64 (ys.getD i 0)) := by
  induction k with
  | zero => omega
  | succ k ih =>
    have hl := M.prs_len xs ys k
    by_cases e : i = k
    · subst e
      constructor
      · rw [M.prs, List.getElem?_append_right (by omega), hl, show i * 2 - i * 2 = 0 by omega]; rfl
      · rw [M.prs, List.getElem?_append_right (by omega), hl, show i * 2 + 1 - i * 2 = 1 by omega]; rfl
    · obtain ⟨h1, h2⟩ := ih (by omega)
      exact ⟨by rw [M.prs, List.getElem?_append_left (by omega)]; exact h1, by rw [M.prs, List.getElem?_append_left (by omega)]; exact h2⟩
theorem info_pt : (Try.prog.info? 55).map (fun i => (i.zero, i.size, i.bytes)) = some (some (.agg #[.int .i64 0, .int .i64 0]), 2, 16) := by kernel_rfl
/-- a slice of points in a block of its own -/
def OwnsP (w : World) (base : Nat) (a : Option Addr) (n cap : Nat) (xs ys : List Int) : Prop := w.ownsRow base 55 2 (.slice a n cap) n (M.prs xs ys n)
theorem OwnsP.form {w : World} {base n : Nat} {v : Value} {xs ys : List Int} (h : w.ownsRow base 55 2 v n (M.prs xs ys n)) : ∃ a cap, v = .slice a n cap ∧ OwnsP w base a n cap xs ys := by
  rcases h.2 with ⟨rfl, rfl⟩ | ⟨g, cap, cur, rfl, _⟩
  · exact ⟨none, 0, rfl, h⟩
  · exact ⟨_, cap, rfl, h⟩
theorem two_ints (x y : Int) : ∀ u ∈ [Value.int .i64 x, Value.int .i64 y], u.oneCell' = true := by
  intro u hu
  simp only [List.mem_cons, List.not_mem_nil, or_false] at hu
  rcases hu with rfl | rfl <;> rfl
theorem cell_two (w : World) (x y : Value) (t : TypeId) : ∀ j u, [x, y][j]? = some u → (w.alloc (.cells #[x, y] t)).cell? ((⟨w.heap.size, 0, none⟩ : Addr).add j) = some u := by
  intro j u hj
  have e : ((⟨w.heap.size, 0, none⟩ : Addr).add j) = ⟨w.heap.size, j, none⟩ := by unfold Addr.add; split <;> simp_all
  rw [e, World.cell?_alloc_new]
  simpa using hj
theorem OwnsP.row {w : World} {base n cap : Nat} {a : Option Addr} {xs ys : List Int} (h : OwnsP w base a n cap xs ys) : ∀ q, (Value.slice a n cap).ownBlock = some q → base ≤ q := by
  intro q hq
  rcases h.2 with ⟨e, _⟩ | ⟨g, c, cur, e, hb, _⟩
  · simp only [Value.slice.injEq] at e; rw [e.1] at hq; simp [Value.ownBlock] at hq
  · simp only [Value.slice.injEq] at e; rw [e.1] at hq; simp [Value.ownBlock] at hq; omega
set_option maxHeartbeats 2000000 in
theorem pointsOf_any {a b : Option Addr} {n c d : Nat} {xs ys : List Int} (w : World) (hx : Sees w a n c xs) (hy : Sees w b n d ys) (hn : n ≤ 64) :
    Calls Try.prog 41 #[.slice a n c, .slice b n d] w fun e w' => ∃ a' cap', e = .returned (.slice a' n cap') ∧ OwnsP w' w.heap.size a' n cap' xs ys ∧ Below w.heap.size w w' := by
  have HX : Hid (Sees w a n c xs) := hx
  have HY : Hid (Sees w b n d ys) := hy
  obtain ⟨i0, hi, hz0, hz1, hz2⟩ := info_parts info_pt
  clear hx hy
  go_enter Try.func41, Try.ntmps41
  go_wp2_with (at_make; refine wpList_make_own _ rfl _ _ 56 rfl w.heap.size 55 i0 (.agg #[.int .i64 0, .int .i64 0]) 2 Try.underlying56 hi hz0 hz1 .i64 .i64 _ n rfl rfl rfl (by rw [hz2]; omega) (by unfold maxLen; omega) (Nat.le_refl _) ?_)
  intro w1 hown hg
  have HO : Hid (OwnsP w1 w.heap.size (some ⟨w.heap.size, 0, none⟩) 0 n xs ys) := hown
  have HB : Hid (Below w.heap.size w w1) := below_grown hg
  clear hown hg
  go_wp2
  go_loopw [5, 13] (fun s i wr => ∃ (k : Nat) (a' : Option Addr) (cap' : Nat), k ≤ n ∧ i = .int .i64 k ∧ s = .slice a' k cap' ∧ OwnsP wr w.heap.size a' k cap' xs ys ∧ Below w.heap.size w wr) (fun _ i _ => n - (intOf i).toNat)
  case atStart => exact ⟨0, _, n, by omega, rfl, rfl, HO.out, HB.out⟩
  case round =>
    obtain ⟨k, a', cap', hk, rfl, rfl, ho1, hb1⟩ := hrel
    have HO1 : Hid (OwnsP wr w.heap.size a' k cap' xs ys) := ho1
    have HB1 : Hid (Below w.heap.size w wr) := hb1
    clear ho1 hb1 HO HB
    by_cases hlt : k < n
    · obtain ⟨b1, o1, rfl, hc1⟩ := (HX.out.below HB1.out).at (by omega)
      obtain ⟨b2, o2, rfl, hc2⟩ := (HY.out.below HB1.out).at (by omega)
      have e1 := hc1 k hlt
      have e2 := hc2 k hlt
      have hI : (k : Int) < (n : Int) := by omega
      have hs1 : w.heap.size ≤ wr.heap.size := HB1.out.size
      have hP : M.prs xs ys k ++ [.int .i64 (xs.getD k 0), .int .i64 (ys.getD k 0)] = M.prs xs ys (k + 1) := rfl
      have HP : Hid (M.prs xs ys k ++ [.int .i64 (xs.getD k 0), .int .i64 (ys.getD k 0)] = M.prs xs ys (k + 1)) := hP
      clear hc1 hc2 hP
      generalize xs.getD k 0 = x at e1 HP
      generalize ys.getD k 0 = y at e2 HP
      go_wp2_with (at_builtin; refine wpList_append_own _ rfl _ _ 56 rfl w.heap.size 55 i0 (.agg #[.int .i64 0, .int .i64 0]) 2 16 Try.underlying56 hi hz0 hz1 hz2 rfl (by decide) _ k (M.prs xs ys k) rfl (World.ownsRow.alloc HO1.out _) ⟨wr.heap.size, 0, none⟩ 1 1 [.int .i64 x, .int .i64 y] rfl rfl (cell_two wr _ _ _) (two_ints _ _) (by unfold maxLen; omega) (by omega) (by simp; omega) ?_)
      intro v' w4 hown hgrow _
      rw [HP.out] at hown
      obtain ⟨b4, c4, rfl, ho4⟩ := OwnsP.form hown
      have HO4 : Hid (OwnsP w4 w.heap.size b4 (k + 1) c4 xs ys) := ho4
      have HB4 : Hid (Below w.heap.size w w4) := (HB1.out.alloc HB1.out.size _).grown hgrow (by simp; omega) HO1.out.row
      clear hown hgrow ho4
      go_wp2
      go_roundw
      case rel => exact ⟨k + 1, b4, c4, by omega, by go_num, rfl, HO4.out, HB4.out⟩
      case measure => simp [intOf]; omega
    · have hkn : k = n := by omega
      subst hkn
      go_wp2
      go_ret
      exact ⟨a', cap', rfl, HO1.out, HB1.out⟩
end Go.Proofs.Ytjeoenieoejolag
