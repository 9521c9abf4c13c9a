/- Machines of quadratic rules and their runs, as plain numbers; no program in sight. -/
import Derived.Test.YtfhknkppiidnkaaGreatSlA
import Derived.Test.YtfhknkppiidnkaaGreatFieldMath
namespace Go.Proofs.YtfhknkppiidnkaaGreat
namespace M
theorem mL (a b : Int) : a % 65537 * b % 65537 = a * b % 65537 := (cg_mod a).mul (cg.refl b)
theorem mR (a b : Int) : a * (b % 65537) % 65537 = a * b % 65537 := (cg.refl a).mul (cg_mod b)
theorem aL (a b : Int) : (a % 65537 + b) % 65537 = (a + b) % 65537 := by omega
theorem aR (a b : Int) : (a + b % 65537) % 65537 = (a + b) % 65537 := by omega
theorem dL (a b : Int) : (a % 65537 - b) % 65537 = (a - b) % 65537 := by omega
theorem dR (a b : Int) : (a - b % 65537) % 65537 = (a - b) % 65537 := by omega
structure Rl where
  xx : Int
  xy : Int
  yy : Int
  x : Int
  y : Int
  k : Int
def Rl.nums (r : Rl) : List Int := [r.xx, r.xy, r.yy, r.x, r.y, r.k]
def Rl.ok (r : Rl) : Bool := allEl r.nums
def Rl.app (r : Rl) (x y : Int) : Int := (r.xx * (x * x) + r.xy * (x * y) + r.yy * (y * y) + r.x * x + r.y * y + r.k) % 65537
structure Mc where
  X : Rl
  Y : Rl
def Mc.ok (m : Mc) : Bool := m.X.ok && m.Y.ok
def Mc.nx (m : Mc) (s : Int × Int) : Int × Int := (m.X.app s.1 s.2, m.Y.app s.1 s.2)
def Mc.rn (m : Mc) (s : Int × Int) : Nat → Int × Int
  | 0 => s
  | n + 1 => m.nx (m.rn s n)
def sOk (s : Int × Int) : Bool := el s.1 && el s.2
theorem app_bd (r : Rl) (x y : Int) : 0 ≤ r.app x y ∧ r.app x y < 65537 := by unfold Rl.app; omega
theorem el_app (r : Rl) (x y : Int) : el (r.app x y) = true := (el_iff _).2 (app_bd r x y)
theorem sOk_iff (s : Int × Int) : sOk s = true ↔ (0 ≤ s.1 ∧ s.1 < 65537) ∧ (0 ≤ s.2 ∧ s.2 < 65537) := by
  unfold sOk; rw [Bool.and_eq_true, el_iff, el_iff]
theorem sOk_nx (m : Mc) (s : Int × Int) : sOk (m.nx s) = true := by unfold sOk Mc.nx; rw [el_app, el_app]; rfl
theorem sOk_rn (m : Mc) {s : Int × Int} (h : sOk s = true) : ∀ n, sOk (m.rn s n) = true
  | 0 => h
  | _ + 1 => sOk_nx m _
theorem rl_bd {r : Rl} (h : r.ok = true) : (0 ≤ r.xx ∧ r.xx < 65537) ∧ (0 ≤ r.xy ∧ r.xy < 65537) ∧ (0 ≤ r.yy ∧ r.yy < 65537) ∧ (0 ≤ r.x ∧ r.x < 65537) ∧ (0 ≤ r.y ∧ r.y < 65537) ∧ (0 ≤ r.k ∧ r.k < 65537) := by
  unfold Rl.ok allEl Rl.nums at h
  simp only [List.all_cons, List.all_nil, Bool.and_true, Bool.and_eq_true, el_iff] at h
  exact h
theorem app_model (r : Rl) (x y : Int) : ((((((r.xx * (x * x % 65537) % 65537) + r.xy * (x * y % 65537) % 65537) % 65537 + r.yy * (y * y % 65537) % 65537) % 65537 + r.x * x % 65537) % 65537 + r.y * y % 65537) % 65537 + r.k) % 65537 = r.app x y := by
  unfold Rl.app
  simp only [mR, aL, aR]
theorem app_code (r : Rl) (x y : Int) : ((((r.xx * x % 65537 + r.xy * y % 65537) % 65537 + r.x) % 65537 * x % 65537 + (r.yy * y % 65537 + r.y) % 65537 * y % 65537) % 65537 + r.k) % 65537 = r.app x y := by
  unfold Rl.app
  simp only [mL, aL, aR]
  congr 1
  grind
theorem rn_nx (m : Mc) (s : Int × Int) : ∀ n, m.rn (m.nx s) n = m.rn s (n + 1)
  | 0 => rfl
  | n + 1 => by show m.nx (m.rn (m.nx s) n) = m.nx (m.rn s (n + 1)); rw [rn_nx m s n]
theorem rn_add (m : Mc) (s : Int × Int) (a : Nat) : ∀ b, m.rn (m.rn s a) b = m.rn s (a + b)
  | 0 => rfl
  | b + 1 => by show m.nx (m.rn (m.rn s a) b) = m.nx (m.rn s (a + b)); rw [rn_add m s a b]
/-- the run's states, X and Y in turn -/
def Mc.run (m : Mc) (s : Int × Int) (n : Nat) : List (Int × Int) := (List.range (n + 1)).map (m.rn s)
theorem run_len (m : Mc) (s : Int × Int) (n : Nat) : (m.run s n).length = n + 1 := by simp [Mc.run]
theorem run_snoc (m : Mc) (s : Int × Int) (n : Nat) : m.run s n ++ [m.rn s (n + 1)] = m.run s (n + 1) := by
  unfold Mc.run; rw [List.range_succ (n := n + 1)]; simp
theorem run_get (m : Mc) (s : Int × Int) (n i : Nat) (h : i ≤ n) : (m.run s n).getD i (0, 0) = m.rn s i := by
  rw [List.getD_eq_getElem?_getD, List.getElem?_eq_getElem (by rw [run_len]; omega)]; simp [Mc.run]
end M
end Go.Proofs.YtfhknkppiidnkaaGreat
