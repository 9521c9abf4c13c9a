/- A law's proof opened as an argument; what the row says of the package's variables. -/
import Derived.Test.YtbcfjbkmkknmfaaGreatDoorRows
import Derived.Test.YtbcfjbkmkknmfaaGreatDoorOpA
import Derived.Test.YtbcfjbkmkknmfaaGreatDoorErF
import Derived.ProofKit
import Derived.Stop.LaidTwo
import Derived.LaidHandle
import Derived.LaidMore
import Derived.WalkSmall
namespace Go.Proofs.YtbcfjbkmkknmfaaGreatDoor
open Go.RowKit Go.ChangeShapes Go.WideShapes

theorem list8 {l : List Value} (h : l.length = 8) : ∃ a b c d e f g i, l = [a, b, c, d, e, f, g, i] := by
  match l, h with
  | [a, b, c, d, e, f, g, i], _ => exact ⟨a, b, c, d, e, f, g, i, rfl⟩
theorem sees_part {H : Type} {enc : TypeId × Value → H} {W : World} {v : Value} (h : ∃ fuel y, DataW.trod enc Tryz.prog W 0 (fun _ => true) true fuel 32 [v] = some y) : ∃ a n c z, v = .slice a n c ∧ Sees W a n c z := by
  obtain ⟨fuel, y, hf⟩ := h
  rcases open_ints Tryz.underlying32 Tryz.underlying2 (by kernel_rfl) hf with ⟨hcs, _⟩ | ⟨x, l, c, zs, hcs, _, hl, hm, hz, _, hcell, hwz⟩
  · simp at hcs
    subst hcs
    exact ⟨none, 0, 0, [], rfl, rfl, by omega, by omega, fun _ => ⟨rfl, rfl⟩, .inl rfl⟩
  · simp at hcs
    subst hcs
    exact ⟨some x, l, c, _, rfl, sees_of_row (.inr ⟨_, rfl, hl, hm, by simpa using hz, hcell, hwz⟩)⟩
set_option maxRecDepth 10000 in
theorem open_proof {H : Type} {enc : TypeId × Value → H} {W : World} {base : Nat} {v : Value} {d : DataW H} {p : List MemPlace} (ho : Value.okWide Tryz.prog W .any base 55 v) (h : DataW.Trod enc Tryz.prog W 0 (fun _ => true) true 55 v d p) :
    ∃ (s1 s2 e1 e2 : Int) (a1 : Option Addr) (n1 c1 : Nat) (z1 : List Int) (a2 : Option Addr) (n2 c2 : Nat) (z2 : List Int) (a3 : Option Addr) (n3 c3 : Nat) (z3 : List Int) (a4 : Option Addr) (n4 c4 : Nat) (z4 : List Int),
      v = .agg #[.int .i64 s1, .int .i64 s2, .int .i64 e1, .int .i64 e2, .slice a1 n1 c1, .slice a2 n2 c2, .slice a3 n3 c3, .slice a4 n4 c4] ∧ Sees W a1 n1 c1 z1 ∧ Sees W a2 n2 c2 z2 ∧ Sees W a3 n3 c3 z3 ∧ Sees W a4 n4 c4 z4 := by
  simp only [Value.okWide, Tryz.underlying55] at ho
  obtain ⟨cs, rfl, hsz, -⟩ := ho
  have ce : Tryz.prog.cellsOf 55 = 8 := by kernel_rfl
  rw [ce] at hsz
  obtain ⟨l⟩ := cs
  obtain ⟨fuel, hf⟩ := h
  have hf : DataW.trod enc Tryz.prog W 0 (fun _ => true) true fuel 55 l = some (d, p) := hf
  have hl : l.length = 8 := hsz
  have P0 := part_all hf 8 (by omega)
  have PS := P0.field Tryz.underlying55 0 _ rfl 2 (by kernel_rfl) (by decide)
  have PE := P0.field Tryz.underlying55 1 _ rfl 2 (by kernel_rfl) (by decide)
  have PX := P0.field Tryz.underlying55 2 _ rfl 1 (by kernel_rfl) (by decide)
  have PY := P0.field Tryz.underlying55 3 _ rfl 1 (by kernel_rfl) (by decide)
  have PU := P0.field Tryz.underlying55 4 _ rfl 1 (by kernel_rfl) (by decide)
  have PV := P0.field Tryz.underlying55 5 _ rfl 1 (by kernel_rfl) (by decide)
  obtain ⟨s1, g0, -⟩ := (PS.field Tryz.underlying53 0 _ rfl 1 (by kernel_rfl) (by decide)).int Tryz.underlying2
  obtain ⟨s2, g1, -⟩ := (PS.field Tryz.underlying53 1 _ rfl 1 (by kernel_rfl) (by decide)).int Tryz.underlying2
  obtain ⟨e1, g2, -⟩ := (PE.field Tryz.underlying53 0 _ rfl 1 (by kernel_rfl) (by decide)).int Tryz.underlying2
  obtain ⟨e2, g3, -⟩ := (PE.field Tryz.underlying53 1 _ rfl 1 (by kernel_rfl) (by decide)).int Tryz.underlying2
  obtain ⟨v4, g4, t4⟩ := PX.whole (by rw [hl]; decide)
  obtain ⟨v5, g5, t5⟩ := PY.whole (by rw [hl]; decide)
  obtain ⟨v6, g6, t6⟩ := PU.whole (by rw [hl]; decide)
  obtain ⟨v7, g7, t7⟩ := PV.whole (by rw [hl]; decide)
  obtain ⟨a1, n1, c1, z1, rfl, h1⟩ := sees_part t4
  obtain ⟨a2, n2, c2, z2, rfl, h2⟩ := sees_part t5
  obtain ⟨a3, n3, c3, z3, rfl, h3⟩ := sees_part t6
  obtain ⟨a4, n4, c4, z4, rfl, h4⟩ := sees_part t7
  clear t4 t5 t6 t7 PS PE PX PY PU PV P0 hf
  obtain ⟨x0, x1, x2, x3, x4, x5, x6, x7, rfl⟩ := list8 hl
  obtain rfl := Option.some.inj (show some x0 = some _ from g0)
  obtain rfl := Option.some.inj (show some x1 = some _ from g1)
  obtain rfl := Option.some.inj (show some x2 = some _ from g2)
  obtain rfl := Option.some.inj (show some x3 = some _ from g3)
  obtain rfl := Option.some.inj (show some x4 = some _ from g4)
  obtain rfl := Option.some.inj (show some x5 = some _ from g5)
  obtain rfl := Option.some.inj (show some x6 = some _ from g6)
  obtain rfl := Option.some.inj (show some x7 = some _ from g7)
  exact ⟨s1, s2, e1, e2, a1, n1, c1, z1, a2, n2, c2, z2, a3, n3, c3, z3, a4, n4, c4, z4, rfl, h1, h2, h3, h4⟩

namespace card
abbrev nL : String := "loop.example/g00319/impl.errLength"
abbrev nN : String := "loop.example/g00319/impl.errNoElement"
theorem gL : Tryz.prog.globalNamed nL = some 1 := by kernel_rfl
theorem gN : Tryz.prog.globalNamed nN = some 0 := by kernel_rfl
theorem gT : Tryz.prog.globalNamed "errors.errorType" = some 2 := by kernel_rfl
theorem tL : (Tryz.prog.globals[1]?).map (·.type) = some 107 := by kernel_rfl
theorem tN : (Tryz.prog.globals[0]?).map (·.type) = some 107 := by kernel_rfl
theorem cE : Tryz.prog.cellsOf 247 = 1 := by kernel_rfl
theorem cS : Tryz.prog.cellsOf 9 = 1 := by kernel_rfl
theorem star : "*" ++ "errors.errorString" = "*errors.errorString" := by decide
theorem rowE (u : TypeId) (h : Tryz.prog.typeName? 3 u = some "*errors.errorString") : u = 225 :=
  typeName_ptr_named (nm := "errors.errorString") (by rw [star]; kernel_rfl) (by kernel_rfl) (by decide) u (by rw [star]; exact h)
theorem rt : (Tryz.prog.cutTypes.find? (·.1 == "internal/reflectlite.rtype")).map (·.2) = some 204 := by kernel_rfl
theorem oneRow : ((List.range Tryz.prog.types.size).filter fun t => Tryz.prog.rowNamed t [101, 114, 114, 111, 114]) = [107] := by kernel_rfl
abbrev laid : List (String × DataW Unit) := [("errors.errorType", Rows.laid_errors_errorType), (nN, Rows.laid_loop_example_g00319_impl_errNoElement), (nL, Rows.laid_loop_example_g00319_impl_errLength)]
theorem split {W : World} (h : laidMetH Tryz.prog laid W) : laidMet Tryz.prog [(nN, Rows.laid_loop_example_g00319_impl_errNoElement), (nL, Rows.laid_loop_example_g00319_impl_errLength)] W ∧ handlesMet Tryz.prog [("errors.errorType", Rows.laid_errors_errorType)] W := h
theorem handle {W : World} (h' : handlesMet Tryz.prog [("errors.errorType", Rows.laid_errors_errorType)] W) : W.cell? ⟨2, 0, none⟩ = some (.iface 204 (.agg #[.pointer (some ⟨6, 107, none⟩)])) := by
  obtain ⟨name, u, ty, e1, e2, e3, e4, e5⟩ := h' _ (List.mem_singleton.2 rfl)
  have en : name = [101, 114, 114, 111, 114] := (Option.some.inj e1).symm
  subst en
  obtain rfl := Option.some.inj (rt.symm.trans e2)
  have hm : ty ∈ (List.range Tryz.prog.types.size).filter fun t => Tryz.prog.rowNamed t [101, 114, 114, 111, 114] := List.mem_filter.2 ⟨List.mem_range.2 e3, e4⟩
  rw [oneRow] at hm
  obtain rfl := List.mem_singleton.1 hm
  have hh : typeHandle Tryz.prog 107 = .pointer (some ⟨6, 107, none⟩) := by kernel_rfl
  rw [hh] at e5
  simpa using World.var?_cell gT e5 0
theorem env {W : World} (h : laidMetH Tryz.prog laid W) : ∃ aL aN, Env W aL aN ∧ W.var? Tryz.prog nL = some #[.iface 225 (.pointer (some aL))] ∧ W.var? Tryz.prog nN = some #[.iface 225 (.pointer (some aN))] := by
  obtain ⟨hs, hh⟩ := split h
  obtain ⟨aN, aL, s0, s1, c0, c1, t0, t1, hv0, hv1, hc0, hs0, hz0, hc1, hs1, hz1, hne, hb0, hb1⟩ := laid_sentinels2 hs gN tN gL tL Tryz.underlying107 rowE Tryz.underlying225 Tryz.underlying247 rfl rfl Tryz.underlying9 cE cS
  exact ⟨aL, aN, ⟨by simpa using World.var?_cell gL hv1 0, by simpa using World.var?_cell gN hv0 0, handle hh, hne, ⟨_, _, hb1⟩, ⟨_, _, hb0⟩⟩, hv1, hv0⟩
theorem vars {H : Type} (enc : TypeId × Value → H) {X : World} {aL aN : Addr} (x0 : X.var? Tryz.prog nL = some #[.iface 225 (.pointer (some aL))]) (x1 : X.var? Tryz.prog nN = some #[.iface 225 (.pointer (some aN))]) (sp : Nat → Bool) :
    DataW.TrodVars enc Tryz.prog X sp [nL, nN] [tok enc (.iface 225 (.pointer (some aL))), tok enc (.iface 225 (.pointer (some aN)))] [.cell 1 0, .cell 0 0] :=
  vars_read2 enc gL tL Tryz.underlying107 x0 trivial gN tN Tryz.underlying107 x1 trivial sp
end card
end Go.Proofs.YtbcfjbkmkknmfaaGreatDoor
