/- Levels of claims in the program: an array of forty, and how many of them count. -/
import Derived.Test.YtjibpapjfdjecacCeA
import Derived.Test.YtjibpapjfdjecacJaMath
namespace Go.Proofs.Ytjibpapjfdjecac
open Go.RowKit

def lvs (xs : List M.Cl) (m : Int) : List Value := prc xs ++ [.int .i64 m]
def lvv (xs : List M.Cl) (m : Int) : Value := .agg (lvs xs m).toArray
def M.z40 : List M.Cl := List.replicate 40 M.c0
theorem lvs_len {xs : List M.Cl} (h : xs.length = 40) (m : Int) : (lvs xs m).length = 201 := by unfold lvs; rw [List.length_append, prc_len, h]; rfl
theorem lvs_one {xs : List M.Cl} {m : Int} : ∀ v ∈ lvs xs m, v.oneCell' = true := by
  intro v hv
  unfold lvs at hv
  rcases List.mem_append.1 hv with h | h
  · unfold prc at h
    obtain ⟨c, _, h⟩ := List.mem_flatMap.1 h
    exact five_ints c v h
  · rw [List.mem_singleton.1 h]; rfl
theorem lvs_at {xs : List M.Cl} (hx : xs.length = 40) (m : Int) {i : Nat} (hi : i < 40) : ∀ j v, (cvs (xs.getD i M.c0))[j]? = some v → (lvs xs m)[i * 5 + j]? = some v := by
  intro j v hv
  have hj : j < 5 := by
    rcases Nat.lt_or_ge j 5 with h | h
    · exact h
    · rw [List.getElem?_eq_none (by simpa [cvs] using h)] at hv; simp at hv
  unfold lvs
  rw [List.getElem?_append_left (by rw [prc_len]; omega), prc_get xs (by omega) hj]; exact hv
theorem lvs_many {xs : List M.Cl} (hx : xs.length = 40) (m : Int) : (lvs xs m)[200]? = some (.int .i64 m) := by
  unfold lvs; rw [List.getElem?_append_right (by rw [prc_len]; omega), prc_len, hx]; rfl
theorem lvs_set_many {xs : List M.Cl} (hx : xs.length = 40) (m k : Int) : (lvs xs m).set 200 (.int .i64 k) = lvs xs k := by
  unfold lvs; rw [List.set_append_right _ _ (by rw [prc_len]; omega), prc_len, hx]; rfl
theorem prc_set : ∀ (xs : List M.Cl) (r : List Value) {i : Nat} (c : M.Cl), i < xs.length → spl (prc xs ++ r) (i * 5) (cvs c) = prc (xs.set i c) ++ r
  | [], _, _, _, h => by simp at h
  | p :: xs, r, 0, c, _ => by
    unfold spl
    show (cvs p ++ prc xs ++ r).take (0 * 5) ++ (cvs c ++ (cvs p ++ prc xs ++ r).drop (0 * 5 + 5)) = cvs c ++ prc xs ++ r
    rw [Nat.zero_mul, Nat.zero_add, List.take_zero, List.nil_append, List.append_assoc (cvs p), List.drop_append_of_le_length (by simp [cvs]), List.append_assoc (cvs c)]
    rfl
  | p :: xs, r, i + 1, c, h => by
    have ih := prc_set xs r (i := i) c (by simpa using h)
    unfold spl at ih ⊢
    show (cvs p ++ prc xs ++ r).take ((i + 1) * 5) ++ (cvs c ++ (cvs p ++ prc xs ++ r).drop ((i + 1) * 5 + (cvs c).length)) = cvs p ++ prc (xs.set i c) ++ r
    rw [List.append_assoc (cvs p), List.append_assoc (cvs p), show (i + 1) * 5 = (cvs p).length + i * 5 by simp [cvs]; omega, List.take_length_add_append, Nat.add_assoc, List.drop_length_add_append, List.append_assoc (cvs p), ih]
theorem lvs_set {xs : List M.Cl} (hx : xs.length = 40) (m : Int) {i : Nat} (hi : i < 40) (c : M.Cl) : spl (lvs xs m) (i * 5) (cvs c) = lvs (xs.set i c) m := by
  unfold lvs; exact prc_set xs _ c (by omega)
end Go.Proofs.Ytjibpapjfdjecac
