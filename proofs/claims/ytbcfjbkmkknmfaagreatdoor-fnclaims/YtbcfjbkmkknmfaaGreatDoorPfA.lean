/- Proofs as values: eight cells, four of them slices; what it means that one is seen, that it owns its memory, that its lists lie apart. -/
import Derived.Test.YtbcfjbkmkknmfaaGreatDoorPrLaw
import Derived.Test.YtbcfjbkmkknmfaaGreatDoorGrA
import Derived.Test.YtbcfjbkmkknmfaaGreatDoorRwA
namespace Go.Proofs.YtbcfjbkmkknmfaaGreatDoor
open Go.RowKit

structure PA where
  x : Option Addr
  xc : Nat
  y : Option Addr
  yc : Nat
  qx : Option Addr
  qxc : Nat
  qy : Option Addr
  qyc : Nat
def PA.zero : PA := ⟨none, 0, none, 0, none, 0, none, 0⟩
def M.Pf.zero : M.Pf := ⟨(0, 0), (0, 0), [], [], [], []⟩
structure SeesP (w : World) (p : M.Pf) (a : PA) : Prop where
  x : Sees w a.x p.X.length a.xc p.X
  y : Sees w a.y p.Y.length a.yc p.Y
  qx : Sees w a.qx p.QX.length a.qxc p.QX
  qy : Sees w a.qy p.QY.length a.qyc p.QY
structure OwnsP (t : TypeId) (w : World) (base : Nat) (p : M.Pf) (a : PA) : Prop where
  x : Owns t w base a.x p.X.length a.xc p.X
  y : Owns t w base a.y p.Y.length a.yc p.Y
  qx : Owns t w base a.qx p.QX.length a.qxc p.QX
  qy : Owns t w base a.qy p.QY.length a.qyc p.QY
def far (a b : Option Addr) : Prop := ∀ x y, a = some x → b = some y → x.block ≠ y.block
theorem far.symm {a b : Option Addr} (h : far a b) : far b a := fun x y hx hy e => h y x hy hx e.symm
theorem none_far (a : Option Addr) : far none a := fun _ _ h => by cases h
theorem OwnsP.sees {t : TypeId} {w : World} {base : Nat} {p : M.Pf} {a : PA} (h : OwnsP t w base p a) : SeesP w p a := ⟨h.x.sees, h.y.sees, h.qx.sees, h.qy.sees⟩
theorem OwnsP.below {t : TypeId} {w w' : World} {base : Nat} {p : M.Pf} {a : PA} (h : OwnsP t w base p a) (hb : Below w.heap.size w w') : OwnsP t w' base p a := ⟨h.x.below hb, h.y.below hb, h.qx.below hb, h.qy.below hb⟩
theorem OwnsP.mono {t : TypeId} {w : World} {base base' : Nat} {p : M.Pf} {a : PA} (h : OwnsP t w base p a) (hb : base' ≤ base) : OwnsP t w base' p a := ⟨h.x.mono hb, h.y.mono hb, h.qx.mono hb, h.qy.mono hb⟩
theorem SeesP.below {w w' : World} {p : M.Pf} {a : PA} (h : SeesP w p a) (hb : Below w.heap.size w w') : SeesP w' p a := ⟨h.x.below hb, h.y.below hb, h.qx.below hb, h.qy.below hb⟩
def M.provOk (m : M.Mc) (s : Int × Int) (n : Int) : Bool := m.ok && (M.sOk s && M.rows n)
def M.prv (m : M.Mc) (s : Int × Int) (n : Int) : M.Pf := if M.provOk m s n = true then m.pf s n.toNat else M.Pf.zero
theorem M.prv_in {m : M.Mc} {s : Int × Int} {n : Int} (h : M.provOk m s n = true) : M.prv m s n = m.pf s n.toNat := if_pos h
theorem M.prv_out {m : M.Mc} {s : Int × Int} {n : Int} (h : M.provOk m s n = false) : M.prv m s n = M.Pf.zero := if_neg (by rw [h]; decide)
theorem M.provOk_parts {m : M.Mc} {s : Int × Int} {n : Int} (h : M.provOk m s n = true) : m.ok = true ∧ M.sOk s = true ∧ ∃ N : Nat, n = (N : Int) ∧ M.rowsN N = true := by
  unfold M.provOk at h
  rw [Bool.and_eq_true, Bool.and_eq_true] at h
  refine ⟨h.1, h.2.1, ?_⟩
  rcases M.rows_yes h.2.2 with rfl | rfl | rfl | rfl
  · exact ⟨2, rfl, rfl⟩
  · exact ⟨4, rfl, rfl⟩
  · exact ⟨8, rfl, rfl⟩
  · exact ⟨16, rfl, rfl⟩
theorem M.provOk_no {m : M.Mc} {s : Int × Int} {n : Int} (h : M.provOk m s n = false) : m.ok = false ∨ (m.ok = true ∧ M.sOk s = false) ∨ (m.ok = true ∧ M.sOk s = true ∧ M.rows n = false) := by
  unfold M.provOk at h
  cases h1 : m.ok with
  | false => exact .inl rfl
  | true =>
    cases h2 : M.sOk s with
    | false => exact .inr (.inl ⟨rfl, rfl⟩)
    | true => rw [h1, h2] at h; exact .inr (.inr ⟨rfl, rfl, by simpa using h⟩)
/-- the lists of a proof have as many values as there are points -/
theorem M.pf_lens (m : M.Mc) (s : Int × Int) (N : Nat) : (m.pf s N).X.length = 4 * N ∧ (m.pf s N).Y.length = 4 * N ∧ (m.pf s N).QX.length = 4 * N ∧ (m.pf s N).QY.length = 4 * N :=
  ⟨M.wide_len _ _, M.wide_len _ _, M.quo_len _ _ _ _ _, M.quo_len _ _ _ _ _⟩
end Go.Proofs.YtbcfjbkmkknmfaaGreatDoor
