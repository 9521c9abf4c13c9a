/- Plain laws of the field of 65537 elements: sums and products in whatever order; no program in sight. -/
import Derived.Test.YtjibpapjfdjecacFieldMath
namespace Go.Proofs.Ytjibpapjfdjecac
namespace M
theorem el_mod (x : Int) : el (x % 65537) = true := (el_iff _).2 ⟨by omega, by omega⟩
theorem el_add {a b : Int} (ha : el a = true) (hb : el b = true) : el (add a b) = true := by rw [add_in ha hb]; exact el_mod _
theorem el_sub {a b : Int} (ha : el a = true) (hb : el b = true) : el (sub a b) = true := by rw [sub_in ha hb]; exact el_mod _
theorem el_mul {a b : Int} (ha : el a = true) (hb : el b = true) : el (mul a b) = true := by rw [mul_in ha hb]; exact el_mod _
theorem add_comm' (a b : Int) : add b a = add a b := by
  unfold add
  by_cases h : el a = true ∧ el b = true
  · rw [if_pos h, if_pos h.symm, Int.add_comm]
  · rw [if_neg h, if_neg (fun h' => h h'.symm)]
theorem mul_comm' (a b : Int) : mul b a = mul a b := by
  unfold mul
  by_cases h : el a = true ∧ el b = true
  · rw [if_pos h, if_pos h.symm, Int.mul_comm]
  · rw [if_neg h, if_neg (fun h' => h h'.symm)]
theorem add_assoc' {a b c : Int} (ha : el a = true) (hb : el b = true) (hc : el c = true) : add (add a b) c = add a (add b c) := by
  rw [add_in (el_add ha hb) hc, add_in ha hb, add_in ha (el_add hb hc), add_in hb hc]; omega
theorem mul_assoc' {a b c : Int} (ha : el a = true) (hb : el b = true) (hc : el c = true) : mul (mul a b) c = mul a (mul b c) := by
  rw [mul_in (el_mul ha hb) hc, mul_in ha hb, mul_in ha (el_mul hb hc), mul_in hb hc]
  rw [Int.mul_emod, Int.emod_emod_of_dvd _ (Int.dvd_refl _), ← Int.mul_emod, Int.mul_emod a, Int.emod_emod_of_dvd _ (Int.dvd_refl _), ← Int.mul_emod, Int.mul_assoc]
theorem mul_add' {a b c : Int} (ha : el a = true) (hb : el b = true) (hc : el c = true) : mul c (add a b) = add (mul c a) (mul c b) := by
  rw [mul_in hc (el_add ha hb), add_in ha hb, add_in (el_mul hc ha) (el_mul hc hb), mul_in hc ha, mul_in hc hb]
  rw [Int.mul_emod, Int.emod_emod_of_dvd _ (Int.dvd_refl _), ← Int.mul_emod, Int.mul_add, Int.add_emod]
theorem sub_add' {a b : Int} (ha : el a = true) (hb : el b = true) : add (sub a b) b = a := by
  rw [add_in (el_sub ha hb) hb, sub_in ha hb]
  have h1 := (el_iff a).1 ha
  omega
theorem add_zero' {a : Int} (ha : el a = true) : add a 0 = a := by
  rw [add_in ha (by decide)]; have h1 := (el_iff a).1 ha; omega
theorem mul_one' {a : Int} (ha : el a = true) : mul a 1 = a := by
  rw [mul_in ha (by decide)]; have h1 := (el_iff a).1 ha; omega
end M
end Go.Proofs.Ytjibpapjfdjecac
