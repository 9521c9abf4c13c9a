/- The checks of a proof that has its form, one by one: short polynomials, both ends, the quotients. What impl.Accepted answers: nil just where all checks hold. What impl.Accepted answers. -/
import Derived.Test.YtbcfjbkmkknmfaaGreatDoorErF
import Derived.Test.YtbcfjbkmkknmfaaGreatDoorPrJ
namespace Go.Proofs.YtbcfjbkmkknmfaaGreatDoor
open Go.RowKit Go.Extern.Stop Go.Stop Go.Extern

/-- what a call must find of the package's variables -/
structure EnvX (w : World) (aL aN aG aE aR : Addr) : Prop where
  env : Env w aL aN
  cG : w.cell? ⟨3, 0, none⟩ = some (.iface 225 (.pointer (some aG)))
  cE : w.cell? ⟨4, 0, none⟩ = some (.iface 225 (.pointer (some aE)))
  cR : w.cell? ⟨5, 0, none⟩ = some (.iface 225 (.pointer (some aR)))
theorem EnvX.below {w w' : World} {aL aN aG aE aR : Addr} (h : EnvX w aL aN aG aE aR) (hb : Below w.heap.size w w') : EnvX w' aL aN aG aE aR where
  env := h.env.below hb
  cG := (hb.cell (p := ⟨3, 0, none⟩) (World.block_lt_of_cell? w _ h.cG)).trans h.cG
  cE := (hb.cell (p := ⟨4, 0, none⟩) (World.block_lt_of_cell? w _ h.cE)).trans h.cE
  cR := (hb.cell (p := ⟨5, 0, none⟩) (World.block_lt_of_cell? w _ h.cR)).trans h.cR
/-- nil just where all is right; else a refusal -/
def FP (ok : Bool) (e : Ending) : Prop := (ok = true ∧ e = .returned .nilIface) ∨ (ok = false ∧ ∃ s p a, e = .returned (rfv s p a))
theorem FP.no {e : Ending} (h : ∃ s p a, e = .returned (rfv s p a)) : FP false e := .inr ⟨rfl, h⟩
def M.qk (zs ms : List Int) (N k : Nat) : Bool := (List.range k).all fun i => zs.getD i 0 * M.zer N i % 65537 == ms.getD i 0
end Go.Proofs.YtbcfjbkmkknmfaaGreatDoor
namespace Go.Proofs.YtbcfjbkmkknmfaaGreatDoor
open Go.RowKit Go.Extern.Stop Go.Stop Go.Extern

/-- the value of a fault: nil just where all is right -/
def FV (ok : Bool) (v : Value) : Prop := (ok = true ∧ v = .nilIface) ∨ (ok = false ∧ ∃ s p a, v = rfv s p a)
theorem FP.val {ok : Bool} {e : Ending} {w w' : World} (h : FP ok e ∧ Below w.heap.size w w') : ∃ v, e = .returned v ∧ FV ok v ∧ Below w.heap.size w w' := by
  obtain ⟨⟨h1, h2⟩ | ⟨h1, s, p, a, h2⟩, hb⟩ := h
  · exact ⟨_, h2, .inl ⟨h1, rfl⟩, hb⟩
  · exact ⟨_, h2, .inr ⟨h1, s, p, a, rfl⟩, hb⟩
end Go.Proofs.YtbcfjbkmkknmfaaGreatDoor
namespace Go.Proofs.YtbcfjbkmkknmfaaGreatDoor
open Go.RowKit Go.Extern.Stop Go.Stop Go.Extern

end Go.Proofs.YtbcfjbkmkknmfaaGreatDoor
