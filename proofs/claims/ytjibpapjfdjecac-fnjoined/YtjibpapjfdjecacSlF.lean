/- What a polynomial is at an element, in the program and in its model. -/
import Derived.Test.YtjibpapjfdjecacSlE
import Derived.Test.YtjibpapjfdjecacFieldB
namespace Go.Proofs.Ytjibpapjfdjecac
open Go.RowKit

/-- the sum of zs[i] times x to the i, modulo 65537, by Horner's rule -/
def M.ev (zs : List Int) (x : Int) : Int := zs.foldr (fun c y => (y * x + c) % 65537) 0
theorem M.ev_bd (zs : List Int) (x : Int) : 0 ≤ M.ev zs x ∧ M.ev zs x < 65537 := by
  cases zs with
  | nil => show 0 ≤ (0 : Int) ∧ (0 : Int) < 65537; omega
  | cons c r => unfold M.ev; rw [List.foldr_cons]; omega
theorem M.ev_cons (c : Int) (r : List Int) (x : Int) : M.ev (c :: r) x = (M.ev r x * x + c) % 65537 := rfl
theorem M.ev_drop {zs : List Int} {k : Nat} (h : k < zs.length) (x : Int) : (M.ev (zs.drop (k + 1)) x * x + zs.getD k 0) % 65537 = M.ev (zs.drop k) x := by
  rw [List.drop_eq_getElem_cons h, M.ev_cons, List.getD_eq_getElem?_getD, List.getElem?_eq_getElem h]; rfl
theorem M.el_at {zs : List Int} (h : M.allEl zs = true) (k : Nat) : 0 ≤ zs.getD k 0 ∧ zs.getD k 0 < 65537 := by
  by_cases hk : k < zs.length
  · rw [List.getD_eq_getElem?_getD, List.getElem?_eq_getElem hk]
    exact (M.el_iff _).1 (List.all_eq_true.1 h _ (List.getElem_mem _))
  · rw [List.getD_eq_getElem?_getD, List.getElem?_eq_none (by omega)]; exact ⟨by decide, by decide⟩


theorem M.ev_snoc0 (l : List Int) (x : Int) : M.ev (l ++ [0]) x = M.ev l x := by
  induction l with
  | nil => show (0 * x + 0) % 65537 = 0; simp
  | cons c r ih => rw [List.cons_append, M.ev_cons, M.ev_cons, ih]
theorem M.ev_tl (zs : List Int) (x : Int) (k : Nat) (hk : k ≤ zs.length) : M.ev (zs.take (M.tl zs k)) x = M.ev (zs.take k) x := by
  induction k with
  | zero => rfl
  | succ k ih =>
    unfold M.tl
    by_cases h : zs.getD k 0 = 0
    · rw [if_pos h, ih (by omega), ← take_snoc (by omega), h, M.ev_snoc0]
    · rw [if_neg h]
theorem M.ev_trim (zs : List Int) (x : Int) : M.ev (M.trim zs) x = M.ev zs x := by
  unfold M.trim; rw [M.ev_tl zs x _ (Nat.le_refl _), List.take_length]
theorem M.all_trim {zs : List Int} (h : M.allEl zs = true) : M.allEl (M.trim zs) = true := by
  unfold M.trim M.allEl at *
  rw [List.all_eq_true] at *
  exact fun x hx => h x (List.mem_of_mem_take hx)
theorem M.len_trim (zs : List Int) : (M.trim zs).length ≤ zs.length := by
  unfold M.trim; rw [List.length_take]; omega

end Go.Proofs.Ytjibpapjfdjecac
