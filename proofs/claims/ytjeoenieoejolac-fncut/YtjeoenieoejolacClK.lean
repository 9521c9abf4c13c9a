/- The pieces of a run: each holds, one begins where the one ahead ends, and joined they are the run. -/
import Derived.Test.YtjeoenieoejolacClJ
import Derived.Test.YtjeoenieoejolacLvC
namespace Go.Proofs.Ytjeoenieoejolac
open Go.RowKit

theorem M.cuts_cons (m : M.Mc) (s : Int × Int) (K n : Nat) : M.cuts m s K (n + 1) = ⟨s, m.rn s K, (K : Int)⟩ :: M.cuts m (m.rn s K) K n := by
  unfold M.cuts
  rw [List.range_succ_eq_map, List.map_cons, List.map_map]
  congr 1
  · rw [Nat.zero_mul, Nat.zero_add, Nat.one_mul]; rfl
  · refine List.map_congr_left fun i _ => ?_
    show (⟨m.rn s ((i + 1) * K), m.rn s ((i + 1 + 1) * K), (K : Int)⟩ : M.Cl) = ⟨m.rn (m.rn s K) (i * K), m.rn (m.rn s K) ((i + 1) * K), (K : Int)⟩
    rw [M.rn_add, M.rn_add, show K + i * K = (i + 1) * K by rw [Nat.succ_mul]; omega, show K + (i + 1) * K = (i + 1 + 1) * K by rw [Nat.succ_mul (i + 1)]; omega]
theorem M.cuts_lnk {m : M.Mc} {K : Nat} (h1 : 1 ≤ K) (h2 : K ≤ 1000) : ∀ (n : Nat) (s : Int × Int), M.sOk s = true → M.lnk (M.cuts m s K n) = true
  | 0, _, _ => rfl
  | n + 1, s, hs => by
    have ih := M.cuts_lnk (m := m) h1 h2 n (m.rn s K) (M.sOk_rn m hs K)
    have hc : M.clOk ⟨s, m.rn s K, (K : Int)⟩ = true := M.clOk_mk hs (M.sOk_rn m hs K) (show (1 : Int) ≤ K by omega) (show (K : Int) ≤ 1000 by omega)
    rw [M.cuts_cons]
    cases n with
    | zero => rw [show M.cuts m (m.rn s K) K 0 = [] from rfl, M.lnk_one, hc]
    | succ n => rw [M.cuts_cons] at ih ⊢; rw [M.lnk_two, hc, ih]; simp
theorem M.cuts_tot {m : M.Mc} {K : Nat} : ∀ (n : Nat) (s : Int × Int), M.tot (M.cuts m s K n) = ((n * K : Nat) : Int)
  | 0, _ => by simp [M.cuts, M.tot]
  | n + 1, s => by
    rw [M.cuts_cons]
    show (K : Int) + M.tot (M.cuts m (m.rn s K) K n) = _
    rw [M.cuts_tot n (m.rn s K), Nat.succ_mul]; omega
theorem M.cuts_chain {m : M.Mc} {K n : Nat} {s : Int × Int} (h1 : 1 ≤ K) (h2 : n * K ≤ 1000) (hn : 1 ≤ n) (hs : M.sOk s = true) : M.chain (M.cuts m s K n) = true := by
  have hK : K ≤ 1000 := Nat.le_trans (Nat.le_mul_of_pos_left K hn) h2
  unfold M.chain; rw [M.cuts_lnk h1 hK n s hs, M.cuts_tot, decide_eq_true (by omega)]; rfl
theorem M.cuts_whole {m : M.Mc} {K n : Nat} {s : Int × Int} (hn : 1 ≤ n) : M.whole (M.cuts m s K n) = ⟨s, m.rn s (n * K), ((n * K : Nat) : Int)⟩ := by
  unfold M.whole
  rw [M.cuts_tot]
  have hl : (M.cuts m s K n).length = n := M.cuts_len m s K n
  have e1 : ((M.cuts m s K n).headD M.c0).s = s := by
    obtain ⟨k, rfl⟩ : ∃ k, n = k + 1 := ⟨n - 1, by omega⟩
    rw [M.cuts_cons]; rfl
  have e2 : ((M.cuts m s K n).getLastD M.c0).e = m.rn s (n * K) := by
    obtain ⟨k, rfl⟩ : ∃ k, n = k + 1 := ⟨n - 1, by omega⟩
    rw [← M.cuts_snoc, List.getLastD_eq_getLast?, List.getLast?_append]
    rfl
  rw [e1, e2]
theorem M.cut_facts {m : M.Mc} {s : Int × Int} {rows many : Int} (h : M.cutOk m s rows many = true) :
    (∀ i, i < (M.cutv m s rows many).length → M.holds m ((M.cutv m s rows many).getD i M.c0) = true ∧ (0 < i → ((M.cutv m s rows many).getD i M.c0).s = ((M.cutv m s rows many).getD (i - 1) M.c0).e)) ∧
    M.allOk (M.cutv m s rows many) = true ∧ M.allv (M.cutv m s rows many) = ⟨s, M.aft m s (many * (rows - 1)), many * (rows - 1)⟩ ∧ M.runOk m s (many * (rows - 1)) = true ∧ 1 ≤ many ∧ many ≤ 8 ∧ 2 ≤ rows ∧ rows ≤ 16 := by
  obtain ⟨hm, hs, hrw, h1, h8⟩ := M.cutOk_parts h
  rw [M.cutv_in h]
  obtain ⟨n, rfl⟩ := Int.eq_ofNat_of_zero_le (show 0 ≤ many by omega)
  obtain ⟨K, rfl⟩ : ∃ K : Nat, rows = (K : Int) + 1 := ⟨(rows - 1).toNat, by rcases M.rows_yes hrw with e | e | e | e <;> omega⟩
  have hK1 : 1 ≤ K ∧ K ≤ 15 := by rcases M.rows_yes hrw with e | e | e | e <;> omega
  rw [show ((K : Int) + 1 - 1).toNat = K by omega, show (K : Int) + 1 - 1 = K by omega, Int.toNat_natCast]
  have hnK : n * K ≤ 120 := Nat.le_trans (Nat.mul_le_mul (show n ≤ 8 by omega) hK1.2) (by decide)
  have hl : (M.cuts m s K n).length = n := M.cuts_len m s K n
  have hch := M.cuts_chain (m := m) (s := s) hK1.1 (show n * K ≤ 1000 by omega) (show 1 ≤ n by omega) hs
  have hok : M.allOk (M.cuts m s K n) = true := by unfold M.allOk; rw [hl, hch, decide_eq_true (by omega), decide_eq_true (by omega)]; rfl
  have hr : M.runOk m s ((n * K : Nat) : Int) = true := M.runOk_mk hm hs (by omega) (by omega)
  have e : (n : Int) * (K : Int) = ((n * K : Nat) : Int) := by simp
  refine ⟨fun i hi => ?_, hok, ?_, by rw [e]; exact hr, by omega, by omega, by omega, by omega⟩
  · rw [hl] at hi
    rw [M.cuts_get m s K n hi]
    refine ⟨?_, fun h0 => ?_⟩
    · have := M.holds_mk (m := m) (s := m.rn s (i * K)) (k := K) hm (M.sOk_rn m hs _) hK1.1 (by omega)
      rw [M.rn_add, ← Nat.succ_mul] at this
      exact this
    · rw [M.cuts_get m s K n (show i - 1 < n by omega), show i - 1 + 1 = i by omega]
  · rw [M.allv_in hok, M.cuts_whole (by omega), e, M.aft_in hr, Int.toNat_natCast]
end Go.Proofs.Ytjeoenieoejolac
