/- A run cut into claims, in the program. -/
import Derived.Test.YtjibpapjfdjecacClP
import Derived.Test.YtjibpapjfdjecacClR
namespace Go.Proofs.Ytjibpapjfdjecac
open Go.RowKit

def M.cutOk (m : M.Mc) (s : Int × Int) (rows many : Int) : Bool := m.ok && (M.sOk s && (M.rows rows && (decide (1 ≤ many) && decide (many ≤ 8))))
def M.cutv (m : M.Mc) (s : Int × Int) (rows many : Int) : List M.Cl := if M.cutOk m s rows many = true then M.cuts m s (rows - 1).toNat many.toNat else []
theorem M.cutv_in {m : M.Mc} {s : Int × Int} {rows many : Int} (h : M.cutOk m s rows many = true) : M.cutv m s rows many = M.cuts m s (rows - 1).toNat many.toNat := if_pos h
theorem M.cutv_out {m : M.Mc} {s : Int × Int} {rows many : Int} (h : M.cutOk m s rows many = false) : M.cutv m s rows many = [] := if_neg (by rw [h]; decide)
theorem M.cutOk_parts {m : M.Mc} {s : Int × Int} {rows many : Int} (h : M.cutOk m s rows many = true) : m.ok = true ∧ M.sOk s = true ∧ M.rows rows = true ∧ 1 ≤ many ∧ many ≤ 8 := by
  unfold M.cutOk at h; simp only [Bool.and_eq_true, decide_eq_true_eq] at h; exact ⟨h.1, h.2.1, h.2.2.1, h.2.2.2.1, h.2.2.2.2⟩
theorem info_claim : (Try.prog.info? 39).map (fun i => (i.zero, i.size, i.bytes)) = some (some (.agg #[.int .i64 0, .int .i64 0, .int .i64 0, .int .i64 0, .int .i64 0]), 5, 40) := by kernel_rfl
set_option maxHeartbeats 4000000 in
theorem implCutOf_any (mm : M.Mc) (s : Int × Int) (rows many : Int) (w : World) : Calls Try.prog 17 #[mcv mm, stv s, .int .i64 rows, .int .i64 many] w fun e w' => ∃ a l cap, e = .returned (.tuple #[.slice a l cap, .bool (M.cutOk mm s rows many)]) ∧ l ≤ 8 ∧ OwnsC 39 w' w.heap.size a l cap (M.cutv mm s rows many) ∧ Below w.heap.size w w' := by
  have C1 := rowsOk_any rows
  cases hrw : M.rows rows with
  | false =>
    have hok : M.cutOk mm s rows many = false := by unfold M.cutOk; rw [hrw]; simp
    rw [hok, M.cutv_out hok]
    rw [hrw] at C1
    clear hok hrw
    obtain ⟨⟨a, b, c, d, f, k⟩, ⟨a', b', c', d', f', k'⟩⟩ := mm
    obtain ⟨x, y⟩ := s
    dsimp only [mcv, stv] at ⊢
    go_enter Try.func17, Try.ntmps17
    go_wp2_with fail
    refine (C1 _).mono ?_
    rintro e w1 ⟨rfl, rfl⟩
    go_wp2
    go_ret2
    exact ⟨none, 0, 0, rfl, by omega, ownsC_none _ _ _, ((Below.refl _ _).alloc (Nat.le_refl _) _).alloc (by simp) _⟩
  | true =>
    by_cases hmn : 1 ≤ many ∧ many ≤ 8
    · obtain ⟨hm1, hm8⟩ := hmn
      obtain ⟨n, rfl⟩ := Int.eq_ofNat_of_zero_le (show 0 ≤ many by omega)
      obtain ⟨K, rfl⟩ : ∃ K : Nat, rows = (K : Int) + 1 := ⟨(rows - 1).toNat, by rcases M.rows_yes hrw with h | h | h | h <;> omega⟩
      have hK1 : 1 ≤ K := by rcases M.rows_yes hrw with h | h | h | h <;> omega
      have hK15 : K ≤ 15 := by rcases M.rows_yes hrw with h | h | h | h <;> omega
      have hnK : n * K ≤ 120 := Nat.le_trans (Nat.mul_le_mul (show n ≤ 8 by omega) hK15) (by decide)
      have C2 := implRunOf_any mm s ((n : Int) * (K : Int))
      have hco : M.cutOk mm s ((K : Int) + 1) (n : Int) = M.runOk mm s ((n : Int) * (K : Int)) := by
        unfold M.cutOk M.runOk
        have h0 : (0 : Int) ≤ (n : Int) * (K : Int) := by exact_mod_cast Nat.zero_le (n * K)
        have h1 : (n : Int) * (K : Int) ≤ 1000 := by have : ((n * K : Nat) : Int) ≤ 120 := by exact_mod_cast hnK
                                                     push_cast at this; omega
        rw [hrw]; simp [hm1, hm8, h0, h1]
      have hcv : M.runOk mm s ((n : Int) * (K : Int)) = true → M.runv mm s ((n : Int) * (K : Int)) = mm.run s (n * K) ∧ M.cutv mm s ((K : Int) + 1) (n : Int) = M.cuts mm s K n := fun h => by
        refine ⟨by rw [M.runv_in h]; congr 1, ?_⟩
        rw [M.cutv_in (hco.trans h)]; congr 1; omega
      have hcz : M.runOk mm s ((n : Int) * (K : Int)) = false → M.cutv mm s ((K : Int) + 1) (n : Int) = [] := fun h => M.cutv_out (hco.trans h)
      rw [hrw] at C1
      rw [hco]
      cases hro : M.runOk mm s ((n : Int) * (K : Int)) with
      | false =>
        rw [hcz hro]
        rw [hro] at C2
        clear hro hcz hcv hco hrw
        obtain ⟨⟨a, b, c, d, f, k⟩, ⟨a', b', c', d', f', k'⟩⟩ := mm
        obtain ⟨x, y⟩ := s
        dsimp only [mcv, stv] at C2 ⊢
        go_enter Try.func17, Try.ntmps17
        go_wp2_with fail
        refine (C1 _).mono ?_
        rintro e w1 ⟨rfl, rfl⟩
        go_wp2_with fail
        refine (C2 _).mono ?_
        rintro e w1 ⟨ra, rl, rc, rfl, -, -, hb1⟩
        have HB1 : Hid (Below w.heap.size w w1) := (((Below.refl _ _).alloc (Nat.le_refl _) _).alloc (by simp) _).trans (hb1.mono (by simp; omega))
        clear hb1
        go_wp2
        go_ret2
        exact ⟨none, 0, 0, rfl, by omega, ownsC_none _ _ _, HB1.out⟩
      | true =>
        obtain ⟨hrv, hcv⟩ := hcv hro
        rw [hcv]
        rw [hro, hrv] at C2
        have HR : Hid (∀ i, i ≤ n * K → (mm.run s (n * K)).getD i (0, 0) = mm.rn s i) := fun i hi => M.run_get mm s _ _ hi
        have HS : Hid (∀ j, M.cuts mm s K j ++ [⟨mm.rn s (j * K), mm.rn s ((j + 1) * K), (K : Int)⟩] = M.cuts mm s K (j + 1)) := fun j => M.cuts_snoc mm s K j
        have HL : Hid (∀ j, (M.cuts mm s K j).length = j) := fun j => M.cuts_len mm s K j
        have HL0 : Hid (M.cuts mm s K 0 = []) := rfl
        have HRL : Hid ((mm.run s (n * K)).length = n * K + 1) := M.run_len mm s (n * K)
        generalize mm.run s (n * K) = rn at C2 HR HRL
        clear hro hcz hcv hrv hco hrw
        generalize hcu : (fun j => M.cuts mm s K j) = cu
        have HCU : Hid (∀ j, M.cuts mm s K j = cu j) := fun j => by rw [← hcu]
        generalize hrr : (fun j => mm.rn s j) = rr
        have HRR : Hid (∀ j, mm.rn s j = rr j) := fun j => by rw [← hrr]
        rw [HCU.out]
        simp only [HCU.out, HRR.out] at HR HS HL HL0
        clear hcu hrr HCU HRR
        obtain ⟨i0, hi, hz0, hz1, hz2⟩ := info_parts info_claim
        have HI : Hid (Try.prog.info? 39 = some i0 ∧ i0.zero = some (.agg #[.int .i64 0, .int .i64 0, .int .i64 0, .int .i64 0, .int .i64 0]) ∧ i0.size = 5 ∧ i0.bytes = 40) := ⟨hi, hz0, hz1, hz2⟩
        clear hi hz0 hz1 hz2
        obtain ⟨⟨a, b, c, d, f, k⟩, ⟨a', b', c', d', f', k'⟩⟩ := mm
        obtain ⟨x, y⟩ := s
        dsimp only [mcv, stv] at C2 ⊢
        go_enter Try.func17, Try.ntmps17
        go_wp2_with fail
        refine (C1 _).mono ?_
        rintro e w1 ⟨rfl, rfl⟩
        go_wp2_with fail
        refine (C2 _).mono ?_
        rintro e w1 ⟨ra, rl, rc, rfl, -, ho1, hb1⟩
        have HB1 : Hid (Below w.heap.size w w1) := (((Below.refl _ _).alloc (Nat.le_refl _) _).alloc (by simp) _).trans (hb1.mono (by simp; omega))
        have hrl2 : rl = n * K + 1 := by rw [← ho1.1]; exact HRL.out
        subst hrl2
        have HZ1 : Hid (SeesQ w1 ra (n * K + 1) rc rn) := ho1.sees (by omega)
        clear hb1 ho1
        obtain ⟨hi, hz0, hz1, hz2⟩ := HI.out
        go_wp2_with (at_make; refine wpList_make_own _ rfl _ _ 46 rfl w1.heap.size 39 i0 (.agg #[.int .i64 0, .int .i64 0, .int .i64 0, .int .i64 0, .int .i64 0]) 5 Try.underlying46 hi hz0 hz1 .i64 .i64 _ n rfl rfl rfl (by rw [hz2]; omega) (by unfold maxLen; omega) (Nat.le_refl _) ?_)
        intro w2 hown hg
        have HO : Hid (OwnsC 39 w2 w1.heap.size (some ⟨w1.heap.size, 0, none⟩) 0 n (cu 0)) := by show OwnsC _ _ _ _ _ _ _; rw [HL0.out]; exact ⟨rfl, hown⟩
        have HB2 : Hid (Below w1.heap.size w1 w2) := below_grown hg
        clear hown hg hi hz0 hz1 hz2
        have HT : Hid (∃ T, T = n * K) := ⟨_, rfl⟩
        obtain ⟨T, hT⟩ := HT.out
        have HTn : Hid (T = n * K) := hT
        rw [← hT] at HZ1 HR ⊢
        clear hT HT
        obtain ⟨b1, o1, rfl, hc1⟩ := HZ1.out.at (by omega)
        have HC1 : Hid (∀ i, i ≤ T → w1.cell? ⟨b1, o1 + i * 2, none⟩ = some (.int .i64 (rr i).1) ∧ w1.cell? ⟨b1, o1 + i * 2 + 1, none⟩ = some (.int .i64 (rr i).2)) := fun i hi => by have := hc1 i (by omega); rw [HR.out i hi] at this; exact this
        have hcT : (T : Int) + 1 ≤ rc := by have := HZ1.out.le; omega
        have HLT : Hid (b1 < w1.heap.size) := World.block_lt_of_cell? w1 ⟨b1, o1 + 0 * 2, none⟩ (HC1.out 0 (by omega)).1
        have hT120 : T ≤ 120 := by rw [HTn.out]; exact hnK
        clear hc1 hnK
        go_wp2
        go_loopw [13, 42] (fun s i wr => ∃ (j : Nat) (al : Option Addr) (cap' : Nat), j ≤ n ∧ i = .int .i64 j ∧ s = .slice al j cap' ∧ OwnsC 39 wr w1.heap.size al j cap' (cu j) ∧ Below w1.heap.size w1 wr) (fun _ i _ => n - (intOf i).toNat)
        case atStart => exact ⟨0, _, _, by omega, rfl, rfl, HO.out, HB2.out⟩
        case round =>
          obtain ⟨j, al, cap', hj, rfl, rfl, ho1, hbr⟩ := hrel
          have HO1 : Hid (OwnsC 39 wr w1.heap.size al j cap' (cu j)) := ho1
          have HBr : Hid (Below w1.heap.size w1 wr) := hbr
          clear ho1 hbr HO HB2
          by_cases hlt : j < n
          · have hI : (j : Int) < (n : Int) := by omega
            obtain ⟨p, hp⟩ : ∃ p, p = j * K := ⟨_, rfl⟩
            obtain ⟨q, hq⟩ : ∃ q, q = (j + 1) * K := ⟨_, rfl⟩
            have hqT : q ≤ T := by rw [hq, HTn.out]; exact Nat.mul_le_mul_right K hlt
            have hpT : p ≤ T := by rw [hp, HTn.out]; exact Nat.mul_le_mul_right K (Nat.le_of_lt hlt)
            have hpI : (j : Int) * (K : Int) = (p : Int) := by rw [hp]; push_cast; rfl
            have hqI : ((j : Int) + 1) * (K : Int) = (q : Int) := by rw [hq]; push_cast; rfl
            have hpl : (p : Int) < (T : Int) + 1 := by omega
            have hpw : IntKind.i64.wrap (p : Int) = (p : Int) := wrap_smallm (by omega) (by omega)
            have hjw : IntKind.i64.wrap ((j : Int) + 1) = (j : Int) + 1 := wrap_smallm (by omega) (by omega)
            have hqw : IntKind.i64.wrap (q : Int) = (q : Int) := wrap_smallm (by omega) (by omega)
            have hql : (q : Int) < (T : Int) + 1 := by omega
            have HSj : Hid (cu j ++ [⟨rr p, rr q, (K : Int)⟩] = cu (j + 1)) := by show _ = _; rw [hp, hq]; exact HS.out j
            have p0 := (HBr.out.cell (p := ⟨b1, o1 + p * 2, none⟩) HLT.out).trans (HC1.out p hpT).1
            have p1 := (HBr.out.cell (p := ⟨b1, o1 + p * 2 + 1, none⟩) HLT.out).trans (HC1.out p hpT).2
            have q0 := (HBr.out.cell (p := ⟨b1, o1 + q * 2, none⟩) HLT.out).trans (HC1.out q hqT).1
            have q1 := (HBr.out.cell (p := ⟨b1, o1 + q * 2 + 1, none⟩) HLT.out).trans (HC1.out q hqT).2
            generalize rr p = rp at HSj p0 p1
            generalize rr q = rq at HSj q0 q1
            obtain ⟨u, v⟩ := rp
            obtain ⟨u2, v2⟩ := rq
            dsimp only at p0 p1 q0 q1
            clear hp hq
            go_wp2
            go_region_law (refine step_append_ownm rfl (.tmp 45) (.tmp 61) 46 rfl w1.heap.size 39 i0 (.agg #[.int .i64 0, .int .i64 0, .int .i64 0, .int .i64 0, .int .i64 0]) 5 40 Try.underlying46 HI.out.1 HI.out.2.1 HI.out.2.2.1 HI.out.2.2.2 rfl (by decide) (.slice al j cap') j (prc (cu j)) (by simp [Act.eval]) (World.ownsRow.alloc (HO1.out.below (Below.refl _ _).drew).2 _) ⟨wr.heap.size, 0, none⟩ 1 1 (cvs ⟨(u, v), (u2, v2), (K : Int)⟩) (by simp [Act.eval]) rfl (cell_five wr.drew _ _) (five_ints _) (by unfold maxLen; omega) (by omega) (by have := HBr.out.size; simp; omega) ?_; intro v' w5 hown hgrow)
            all_goals
              have hown' : w5.ownsRow w1.heap.size 39 5 v' (j + 1) (prc (cu (j + 1))) := by rw [← HSj.out, ← prc_snoc]; exact hown
              obtain ⟨b5, c5, rfl, ho5⟩ := OwnsC.form (HL.out (j + 1)) hown'
              have HO5 : Hid (OwnsC 39 w5 w1.heap.size b5 (j + 1) c5 (cu (j + 1))) := ho5
              have hrow := HO1.out.row
              have HB5 : Hid (Below w1.heap.size w1 w5) := (HBr.out.drew.alloc HBr.out.size _).grown hgrow (by have := HBr.out.size; simp; omega) hrow
              clear hown hown' hgrow ho5 hrow p0 p1 q0 q1
              go_wp2
              go_roundw
              case rel => exact ⟨j + 1, b5, c5, by omega, by go_num, rfl, HO5.out, HB5.out⟩
              case measure => simp [intOf]; omega
          · have hjn : j = n := by omega
            subst hjn
            go_wp2
            go_ret2
            exact ⟨al, j, cap', rfl, by omega, HO1.out.mono HB1.out.size, HB1.out.trans (HBr.out.mono HB1.out.size)⟩
    · have hok : M.cutOk mm s rows many = false := by
        unfold M.cutOk
        have : (decide (1 ≤ many) && decide (many ≤ 8)) = false := by simp; omega
        rw [this]; simp
      rw [hok, M.cutv_out hok]
      rw [hrw] at C1
      clear hok hrw
      obtain ⟨⟨a, b, c, d, f, k⟩, ⟨a', b', c', d', f', k'⟩⟩ := mm
      obtain ⟨x, y⟩ := s
      dsimp only [mcv, stv] at ⊢
      by_cases h1 : 1 ≤ many
      · have h8 : ¬ many ≤ 8 := by omega
        go_enter Try.func17, Try.ntmps17
        go_wp2_with fail
        refine (C1 _).mono ?_
        rintro e w1 ⟨rfl, rfl⟩
        go_wp2
        go_ret2
        exact ⟨none, 0, 0, rfl, by omega, ownsC_none _ _ _, ((Below.refl _ _).alloc (Nat.le_refl _) _).alloc (by simp) _⟩
      · go_enter Try.func17, Try.ntmps17
        go_wp2_with fail
        refine (C1 _).mono ?_
        rintro e w1 ⟨rfl, rfl⟩
        go_wp2
        go_ret2
        exact ⟨none, 0, 0, rfl, by omega, ownsC_none _ _ _, ((Below.refl _ _).alloc (Nat.le_refl _) _).alloc (by simp) _⟩
end Go.Proofs.Ytjibpapjfdjecac
