/- Arguments that are opened field by field, whatever their depth. A law's proof opened as an argument; what the row says of the package's variables. What the row says of the package's five variables, and of errorType. Two lists of numbers held against each other by the laws. The model's polynomials of a proof: scaled, turned, the one that is nought at the rows. The model's rule of two polynomials, what is left of it, and what is nought at the rows. An honest proof, in the model. An honest proof, in the model, where all is right. Proofs held against each other, marked and asked for their marks, in the laws. Proved, in the program and in the model: both give the same proof, with lists of their own. What DrawRunOf draws: some machine, some state, some number. What DrawProved draws: some machine, some state, some number. FnComplete: the walk. -/
import Derived.Test.YtbcfjbkmkknmfaaGreatDoorMaO
import Derived.Deep.Slices
import Derived.OpenShut
import Derived.Test.YtbcfjbkmkknmfaaGreatDoorRows
import Derived.Test.YtbcfjbkmkknmfaaGreatDoorErF
import Derived.ProofKit
import Derived.Stop.LaidTwo
import Derived.LaidHandle
import Derived.LaidMore
import Derived.WalkSmall
import Derived.Test.YtbcfjbkmkknmfaaGreatDoorAcC
import Derived.Test.YtbcfjbkmkknmfaaGreatDoorSlA
import Derived.Test.YtbcfjbkmkknmfaaGreatDoorPfA
import Derived.Test.YtbcfjbkmkknmfaaGreatDoorSlL
import Derived.Test.YtbcfjbkmkknmfaaGreatDoorFieldC
import Derived.Test.YtbcfjbkmkknmfaaGreatDoorRootA
import Derived.Test.YtbcfjbkmkknmfaaGreatDoorMaJ
import Derived.Deep.RegionHeld3
import Derived.Test.YtbcfjbkmkknmfaaGreatDoorPrJ
import Derived.Test.YtbcfjbkmkknmfaaGreatDoorSlM
import Derived.Test.YtbcfjbkmkknmfaaGreatDoorRdM
namespace Go.Proofs.YtbcfjbkmkknmfaaGreatDoor
open Go.RowKit Go.ChangeShapes Go.WideShapes

section
variable {H : Type} {enc : TypeId × Value → H} {P : Program} {w : World} {base : Nat} {spare : Nat → Bool} {held : Bool}
/-- the cells from o on, n of them, read as a t -/
def Part (enc : TypeId × Value → H) (P : Program) (w : World) (base : Nat) (spare : Nat → Bool) (held : Bool) (t : TypeId) (cs : List Value) (o n : Nat) : Prop :=
  ∃ fuel y, DataW.trod enc P w base spare held fuel t ((cs.drop o).take n) = some y
theorem part_all {t : TypeId} {cs : List Value} {fuel : Nat} {y : DataW H × List MemPlace} (h : DataW.trod enc P w base spare held fuel t cs = some y) (n : Nat) (hn : cs.length ≤ n) : Part enc P w base spare held t cs 0 n :=
  ⟨fuel, y, by rw [List.drop_zero, List.take_of_length_le hn]; exact h⟩
theorem Part.field {t : TypeId} {cs : List Value} {o n : Nat} {fs : Array Field} (h : Part enc P w base spare held t cs o n) (ht : P.underlying t = some (.struct fs)) (i : Nat) (f : Field) (hf : fs[i]? = some f) (k : Nat) (hk : P.cellsOf f.type = k) (hn : f.offset + k ≤ n) :
    Part enc P w base spare held f.type cs (o + f.offset) k := by
  obtain ⟨fuel, y, h⟩ := h
  obtain ⟨xs, m, -, -, -, hxl, hx⟩ := DataW.trod_struct ht h
  have hi : i < fs.size := by
    rcases Nat.lt_or_ge i fs.size with h | h
    · exact h
    · rw [Array.getElem?_eq_none h] at hf; simp at hf
  have h1 := hx i f hf
  rw [List.getElem?_eq_getElem (by omega), hk] at h1
  refine ⟨m, xs[i]'(by omega), ?_⟩
  rw [← h1]
  congr 1
  rw [List.drop_take, List.take_take, List.drop_drop]
  congr 1
  omega
theorem Part.cell {cs : List Value} {o : Nat} {v : Value} (h : (cs.drop o).take 1 = [v]) : cs[o]? = some v := by
  have h1 : ((cs.drop o).take 1)[0]? = some v := by rw [h]; rfl
  rw [List.getElem?_take] at h1
  simpa using h1
theorem Part.int {t : TypeId} {cs : List Value} {o : Nat} {k : IntKind} (h : Part enc P w base spare held t cs o 1) (ht : P.underlying t = some (.int k)) : ∃ z, cs[o]? = some (.int k z) ∧ (Lit.int k z).wf = true := by
  obtain ⟨fuel, y, h⟩ := h
  obtain ⟨z, h1, -, h3⟩ := DataW.trod_int ht h
  exact ⟨z, Part.cell h1, h3⟩
theorem Part.bool {t : TypeId} {cs : List Value} {o : Nat} (h : Part enc P w base spare held t cs o 1) (ht : P.underlying t = some .bool) : ∃ z, cs[o]? = some (.bool z) := by
  obtain ⟨fuel, y, h⟩ := h
  obtain ⟨z, h1, -⟩ := DataW.trod_bool ht h
  exact ⟨z, Part.cell h1⟩
theorem Part.whole {t : TypeId} {cs : List Value} {o : Nat} (h : Part enc P w base spare held t cs o 1) (hl : o < cs.length) : ∃ v, cs[o]? = some v ∧ ∃ fuel y, DataW.trod enc P w base spare held fuel t [v] = some y := by
  obtain ⟨fuel, y, h⟩ := h
  refine ⟨cs[o], List.getElem?_eq_getElem hl, fuel, y, ?_⟩
  rw [← h]
  congr 1
  rw [List.drop_eq_getElem_cons hl]; rfl
end
end Go.Proofs.YtbcfjbkmkknmfaaGreatDoor
namespace Go.Proofs.YtbcfjbkmkknmfaaGreatDoor
open Go.RowKit Go.ChangeShapes Go.WideShapes

theorem list8 {l : List Value} (h : l.length = 8) : ∃ a b c d e f g i, l = [a, b, c, d, e, f, g, i] := by
  match l, h with
  | [a, b, c, d, e, f, g, i], _ => exact ⟨a, b, c, d, e, f, g, i, rfl⟩
theorem sees_part {H : Type} {enc : TypeId × Value → H} {W : World} {v : Value} (h : ∃ fuel y, DataW.trod enc Tryz.prog W 0 (fun _ => true) true fuel 32 [v] = some y) : ∃ a n c z, v = .slice a n c ∧ Sees W a n c z := by
  obtain ⟨fuel, y, hf⟩ := h
  rcases open_ints Tryz.underlying32 Tryz.underlying2 (by kernel_rfl) hf with ⟨hcs, _⟩ | ⟨x, l, c, zs, hcs, _, hl, hm, hz, _, hcell, hwz⟩
  · simp at hcs
    subst hcs
    exact ⟨none, 0, 0, [], rfl, rfl, by omega, by omega, fun _ => ⟨rfl, rfl⟩, .inl rfl⟩
  · simp at hcs
    subst hcs
    exact ⟨some x, l, c, _, rfl, sees_of_row (.inr ⟨_, rfl, hl, hm, by simpa using hz, hcell, hwz⟩)⟩
set_option maxRecDepth 10000 in
theorem open_proof {H : Type} {enc : TypeId × Value → H} {W : World} {base : Nat} {v : Value} {d : DataW H} {p : List MemPlace} (ho : Value.okWide Tryz.prog W .any base 55 v) (h : DataW.Trod enc Tryz.prog W 0 (fun _ => true) true 55 v d p) :
    ∃ (s1 s2 e1 e2 : Int) (a1 : Option Addr) (n1 c1 : Nat) (z1 : List Int) (a2 : Option Addr) (n2 c2 : Nat) (z2 : List Int) (a3 : Option Addr) (n3 c3 : Nat) (z3 : List Int) (a4 : Option Addr) (n4 c4 : Nat) (z4 : List Int),
      v = .agg #[.int .i64 s1, .int .i64 s2, .int .i64 e1, .int .i64 e2, .slice a1 n1 c1, .slice a2 n2 c2, .slice a3 n3 c3, .slice a4 n4 c4] ∧ Sees W a1 n1 c1 z1 ∧ Sees W a2 n2 c2 z2 ∧ Sees W a3 n3 c3 z3 ∧ Sees W a4 n4 c4 z4 := by
  simp only [Value.okWide, Tryz.underlying55] at ho
  obtain ⟨cs, rfl, hsz, -⟩ := ho
  have ce : Tryz.prog.cellsOf 55 = 8 := by kernel_rfl
  rw [ce] at hsz
  obtain ⟨l⟩ := cs
  obtain ⟨fuel, hf⟩ := h
  have hf : DataW.trod enc Tryz.prog W 0 (fun _ => true) true fuel 55 l = some (d, p) := hf
  have hl : l.length = 8 := hsz
  have P0 := part_all hf 8 (by omega)
  have PS := P0.field Tryz.underlying55 0 _ rfl 2 (by kernel_rfl) (by decide)
  have PE := P0.field Tryz.underlying55 1 _ rfl 2 (by kernel_rfl) (by decide)
  have PX := P0.field Tryz.underlying55 2 _ rfl 1 (by kernel_rfl) (by decide)
  have PY := P0.field Tryz.underlying55 3 _ rfl 1 (by kernel_rfl) (by decide)
  have PU := P0.field Tryz.underlying55 4 _ rfl 1 (by kernel_rfl) (by decide)
  have PV := P0.field Tryz.underlying55 5 _ rfl 1 (by kernel_rfl) (by decide)
  obtain ⟨s1, g0, -⟩ := (PS.field Tryz.underlying53 0 _ rfl 1 (by kernel_rfl) (by decide)).int Tryz.underlying2
  obtain ⟨s2, g1, -⟩ := (PS.field Tryz.underlying53 1 _ rfl 1 (by kernel_rfl) (by decide)).int Tryz.underlying2
  obtain ⟨e1, g2, -⟩ := (PE.field Tryz.underlying53 0 _ rfl 1 (by kernel_rfl) (by decide)).int Tryz.underlying2
  obtain ⟨e2, g3, -⟩ := (PE.field Tryz.underlying53 1 _ rfl 1 (by kernel_rfl) (by decide)).int Tryz.underlying2
  obtain ⟨v4, g4, t4⟩ := PX.whole (by rw [hl]; decide)
  obtain ⟨v5, g5, t5⟩ := PY.whole (by rw [hl]; decide)
  obtain ⟨v6, g6, t6⟩ := PU.whole (by rw [hl]; decide)
  obtain ⟨v7, g7, t7⟩ := PV.whole (by rw [hl]; decide)
  obtain ⟨a1, n1, c1, z1, rfl, h1⟩ := sees_part t4
  obtain ⟨a2, n2, c2, z2, rfl, h2⟩ := sees_part t5
  obtain ⟨a3, n3, c3, z3, rfl, h3⟩ := sees_part t6
  obtain ⟨a4, n4, c4, z4, rfl, h4⟩ := sees_part t7
  clear t4 t5 t6 t7 PS PE PX PY PU PV P0 hf
  obtain ⟨x0, x1, x2, x3, x4, x5, x6, x7, rfl⟩ := list8 hl
  obtain rfl := Option.some.inj (show some x0 = some _ from g0)
  obtain rfl := Option.some.inj (show some x1 = some _ from g1)
  obtain rfl := Option.some.inj (show some x2 = some _ from g2)
  obtain rfl := Option.some.inj (show some x3 = some _ from g3)
  obtain rfl := Option.some.inj (show some x4 = some _ from g4)
  obtain rfl := Option.some.inj (show some x5 = some _ from g5)
  obtain rfl := Option.some.inj (show some x6 = some _ from g6)
  obtain rfl := Option.some.inj (show some x7 = some _ from g7)
  exact ⟨s1, s2, e1, e2, a1, n1, c1, z1, a2, n2, c2, z2, a3, n3, c3, z3, a4, n4, c4, z4, rfl, h1, h2, h3, h4⟩

namespace card
abbrev nL : String := "loop.example/g00319/impl.errLength"
abbrev nN : String := "loop.example/g00319/impl.errNoElement"
theorem gL : Tryz.prog.globalNamed nL = some 1 := by kernel_rfl
theorem gN : Tryz.prog.globalNamed nN = some 0 := by kernel_rfl
theorem gT : Tryz.prog.globalNamed "errors.errorType" = some 2 := by kernel_rfl
theorem tL : (Tryz.prog.globals[1]?).map (·.type) = some 107 := by kernel_rfl
theorem tN : (Tryz.prog.globals[0]?).map (·.type) = some 107 := by kernel_rfl
theorem cE : Tryz.prog.cellsOf 247 = 1 := by kernel_rfl
theorem cS : Tryz.prog.cellsOf 9 = 1 := by kernel_rfl
theorem star : "*" ++ "errors.errorString" = "*errors.errorString" := by decide
theorem rowE (u : TypeId) (h : Tryz.prog.typeName? 3 u = some "*errors.errorString") : u = 225 :=
  typeName_ptr_named (nm := "errors.errorString") (by rw [star]; kernel_rfl) (by kernel_rfl) (by decide) u (by rw [star]; exact h)
theorem rt : (Tryz.prog.cutTypes.find? (·.1 == "internal/reflectlite.rtype")).map (·.2) = some 204 := by kernel_rfl
theorem oneRow : ((List.range Tryz.prog.types.size).filter fun t => Tryz.prog.rowNamed t [101, 114, 114, 111, 114]) = [107] := by kernel_rfl
abbrev laid : List (String × DataW Unit) := [("errors.errorType", Rows.laid_errors_errorType), (nN, Rows.laid_loop_example_g00319_impl_errNoElement), (nL, Rows.laid_loop_example_g00319_impl_errLength)]
theorem split {W : World} (h : laidMetH Tryz.prog laid W) : laidMet Tryz.prog [(nN, Rows.laid_loop_example_g00319_impl_errNoElement), (nL, Rows.laid_loop_example_g00319_impl_errLength)] W ∧ handlesMet Tryz.prog [("errors.errorType", Rows.laid_errors_errorType)] W := h
theorem handle {W : World} (h' : handlesMet Tryz.prog [("errors.errorType", Rows.laid_errors_errorType)] W) : W.cell? ⟨2, 0, none⟩ = some (.iface 204 (.agg #[.pointer (some ⟨6, 107, none⟩)])) := by
  obtain ⟨name, u, ty, e1, e2, e3, e4, e5⟩ := h' _ (List.mem_singleton.2 rfl)
  have en : name = [101, 114, 114, 111, 114] := (Option.some.inj e1).symm
  subst en
  obtain rfl := Option.some.inj (rt.symm.trans e2)
  have hm : ty ∈ (List.range Tryz.prog.types.size).filter fun t => Tryz.prog.rowNamed t [101, 114, 114, 111, 114] := List.mem_filter.2 ⟨List.mem_range.2 e3, e4⟩
  rw [oneRow] at hm
  obtain rfl := List.mem_singleton.1 hm
  have hh : typeHandle Tryz.prog 107 = .pointer (some ⟨6, 107, none⟩) := by kernel_rfl
  rw [hh] at e5
  simpa using World.var?_cell gT e5 0
theorem env {W : World} (h : laidMetH Tryz.prog laid W) : ∃ aL aN, Env W aL aN ∧ W.var? Tryz.prog nL = some #[.iface 225 (.pointer (some aL))] ∧ W.var? Tryz.prog nN = some #[.iface 225 (.pointer (some aN))] := by
  obtain ⟨hs, hh⟩ := split h
  obtain ⟨aN, aL, s0, s1, c0, c1, t0, t1, hv0, hv1, hc0, hs0, hz0, hc1, hs1, hz1, hne, hb0, hb1⟩ := laid_sentinels2 hs gN tN gL tL Tryz.underlying107 rowE Tryz.underlying225 Tryz.underlying247 rfl rfl Tryz.underlying9 cE cS
  exact ⟨aL, aN, ⟨by simpa using World.var?_cell gL hv1 0, by simpa using World.var?_cell gN hv0 0, handle hh, hne, ⟨_, _, hb1⟩, ⟨_, _, hb0⟩⟩, hv1, hv0⟩
theorem vars {H : Type} (enc : TypeId × Value → H) {X : World} {aL aN : Addr} (x0 : X.var? Tryz.prog nL = some #[.iface 225 (.pointer (some aL))]) (x1 : X.var? Tryz.prog nN = some #[.iface 225 (.pointer (some aN))]) (sp : Nat → Bool) :
    DataW.TrodVars enc Tryz.prog X sp [nL, nN] [tok enc (.iface 225 (.pointer (some aL))), tok enc (.iface 225 (.pointer (some aN)))] [.cell 1 0, .cell 0 0] :=
  vars_read2 enc gL tL Tryz.underlying107 x0 trivial gN tN Tryz.underlying107 x1 trivial sp
end card
end Go.Proofs.YtbcfjbkmkknmfaaGreatDoor
namespace Go.Proofs.YtbcfjbkmkknmfaaGreatDoor
open Go.RowKit Go.ChangeShapes Go.WideShapes

theorem laidMet_tail {P : Program} {x : String × DataW Unit} {r : List (String × DataW Unit)} {W : World} (h : laidMet P (x :: r) W) : laidMet P r W := by
  obtain ⟨n, d⟩ := x
  obtain ⟨ps, ⟨g, t, cs, f, p, q, hg, ht, hv, hd, hr, e⟩, hnd, hrows⟩ := h
  subst e
  exact ⟨q, hr, (List.nodup_append.1 hnd).2.1, fun b off hm => hrows b off (List.mem_append_right _ hm)⟩
namespace card
abbrev nG : String := "loop.example/g00319/impl.errLong"
abbrev nE : String := "loop.example/g00319/impl.errEnd"
abbrev nR : String := "loop.example/g00319/impl.errRule"
theorem gG : Tryz.prog.globalNamed nG = some 3 := by kernel_rfl
theorem gE : Tryz.prog.globalNamed nE = some 4 := by kernel_rfl
theorem gR : Tryz.prog.globalNamed nR = some 5 := by kernel_rfl
theorem tG : (Tryz.prog.globals[3]?).map (·.type) = some 107 := by kernel_rfl
theorem tE : (Tryz.prog.globals[4]?).map (·.type) = some 107 := by kernel_rfl
theorem tR : (Tryz.prog.globals[5]?).map (·.type) = some 107 := by kernel_rfl
abbrev five : List (String × DataW Unit) := [(nN, Rows.laid_loop_example_g00319_impl_errNoElement), (nL, Rows.laid_loop_example_g00319_impl_errLength), (nG, Rows.laid_loop_example_g00319_impl_errLong), (nE, Rows.laid_loop_example_g00319_impl_errEnd), (nR, Rows.laid_loop_example_g00319_impl_errRule)]
abbrev laidX : List (String × DataW Unit) := ("errors.errorType", Rows.laid_errors_errorType) :: five
theorem splitX {W : World} (h : laidMetH Tryz.prog laidX W) : laidMet Tryz.prog five W ∧ handlesMet Tryz.prog [("errors.errorType", Rows.laid_errors_errorType)] W := h
abbrev at1 (W : World) (n : String) (a : Addr) : Prop := W.var? Tryz.prog n = some #[.iface 225 (.pointer (some a))]
theorem envX {W : World} (h : laidMetH Tryz.prog laidX W) : ∃ aL aN aG aE aR, EnvX W aL aN aG aE aR ∧ at1 W nN aN ∧ at1 W nL aL ∧ at1 W nG aG ∧ at1 W nE aE ∧ at1 W nR aR := by
  obtain ⟨hs, hh⟩ := splitX h
  obtain ⟨aN, aL, s0, s1, c0, c1, t0, t1, hv0, hv1, hc0, hs0, hz0, hc1, hs1, hz1, hne, hb0, hb1⟩ := laid_sentinels2 hs gN tN gL tL Tryz.underlying107 rowE Tryz.underlying225 Tryz.underlying247 rfl rfl Tryz.underlying9 cE cS
  have h2 := laidMet_tail (laidMet_tail hs)
  obtain ⟨aG, _, vG, _, _, _⟩ := laid_sentinel h2 gG tG Tryz.underlying107 rowE Tryz.underlying225 Tryz.underlying247 rfl rfl Tryz.underlying9 cE cS
  have h3 := laidMet_tail h2
  obtain ⟨aE, _, vE, _, _, _⟩ := laid_sentinel h3 gE tE Tryz.underlying107 rowE Tryz.underlying225 Tryz.underlying247 rfl rfl Tryz.underlying9 cE cS
  have h4 := laidMet_tail h3
  obtain ⟨aR, _, vR, _, _, _⟩ := laid_sentinel h4 gR tR Tryz.underlying107 rowE Tryz.underlying225 Tryz.underlying247 rfl rfl Tryz.underlying9 cE cS
  exact ⟨aL, aN, aG, aE, aR, ⟨⟨by simpa using World.var?_cell gL hv1 0, by simpa using World.var?_cell gN hv0 0, handle hh, hne, ⟨_, _, hb1⟩, ⟨_, _, hb0⟩⟩, by simpa using World.var?_cell gG vG 0, by simpa using World.var?_cell gE vE 0, by simpa using World.var?_cell gR vR 0⟩, hv0, hv1, vG, vE, vR⟩
abbrev tk {H : Type} (enc : TypeId × Value → H) (a : Addr) : DataW H := tok enc (.iface 225 (.pointer (some a)))
theorem varsX {H : Type} (enc : TypeId × Value → H) {X : World} {aL aN aG aE aR : Addr} (xN : at1 X nN aN) (xL : at1 X nL aL) (xG : at1 X nG aG) (xE : at1 X nE aE) (xR : at1 X nR aR) (sp : Nat → Bool) :
    DataW.TrodVars enc Tryz.prog X sp [nN, nL, nG, nE, nR] [tk enc aN, tk enc aL, tk enc aG, tk enc aE, tk enc aR] [.cell 0 0, .cell 1 0, .cell 3 0, .cell 4 0, .cell 5 0] :=
  ⟨_, _, _, 1, [], _, gN, tN, xN, trod_held (v := .iface 225 (.pointer (some aN))) Tryz.underlying107 trivial 0,
    ⟨_, _, _, 1, [], _, gL, tL, xL, trod_held (v := .iface 225 (.pointer (some aL))) Tryz.underlying107 trivial 0,
      ⟨_, _, _, 1, [], _, gG, tG, xG, trod_held (v := .iface 225 (.pointer (some aG))) Tryz.underlying107 trivial 0,
        ⟨_, _, _, 1, [], _, gE, tE, xE, trod_held (v := .iface 225 (.pointer (some aE))) Tryz.underlying107 trivial 0,
          ⟨_, _, _, 1, [], [], gR, tR, xR, trod_held (v := .iface 225 (.pointer (some aR))) Tryz.underlying107 trivial 0, rfl, rfl⟩, rfl⟩, rfl⟩, rfl⟩, rfl⟩
end card
end Go.Proofs.YtbcfjbkmkknmfaaGreatDoor
namespace Go.Proofs.YtbcfjbkmkknmfaaGreatDoor
open Go.RowKit
theorem same_ne {zs ys : List Int} {k : Nat} (h : zs.getD k 0 ≠ ys.getD k 0) : zs ≠ ys := fun e => h (by rw [e])
theorem same_all {zs ys : List Int} (hl : zs.length = ys.length) (h : ∀ i, i < zs.length → zs.getD i 0 = ys.getD i 0) : zs = ys := by
  apply List.ext_getElem hl
  intro i h1 h2
  have := h i h1
  simpa [List.getD_eq_getElem?_getD, List.getElem?_eq_getElem h1, List.getElem?_eq_getElem h2] using this
set_option maxHeartbeats 1000000 in
theorem sameS_any {a b : Option Addr} {n m c d : Nat} {zs ys : List Int} (w : World) (hz : Sees w a n c zs) (hy : Sees w b m d ys) :
    Calls Tryz.prog 11 #[.slice a n c, .slice b m d] w fun e w' => e = .returned (.bool (decide (zs = ys))) ∧ ∃ k, w' = w.drewN k := by
  have bn : (n : Int) ≤ 9223372036854775807 := by have := hz.big; have := hz.le; omega
  have bm : (m : Int) ≤ 9223372036854775807 := by have := hy.big; have := hy.le; omega
  by_cases hl : n = m
  · subst hl
    by_cases h0 : 0 < n
    · obtain ⟨b1, o1, rfl, hc1⟩ := hz.at h0
      obtain ⟨b2, o2, rfl, hc2⟩ := hy.at h0
      have L : Hid (zs.length = n ∧ ys.length = n) := ⟨hz.len, hy.len⟩
      have HC1 : Hid (∀ i, i < n → w.cell? ⟨b1, o1 + i, none⟩ = some (.int .i64 (zs.getD i 0))) := hc1
      have HC2 : Hid (∀ i, i < n → w.cell? ⟨b2, o2 + i, none⟩ = some (.int .i64 (ys.getD i 0))) := hc2
      have hne : ((n : Int) != (n : Int)) = false := by simp
      clear hz hy hc1 hc2
      go_enter Tryz.func11, Tryz.ntmps11
      go_wp2
      go_loopw [5] (fun i wr => ∃ k q : Nat, k ≤ n ∧ i = .int .i64 k ∧ wr = w.drewN q ∧ ∀ j, j < k → zs.getD j 0 = ys.getD j 0) (fun i _ => n - (intOf i).toNat)
      case atStart => exact ⟨0, 0, by omega, rfl, rfl, fun j h => by omega⟩
      case round =>
        obtain ⟨k, q, hk, rfl, rfl, hall⟩ := hrel
        have HA : Hid (∀ j, j < k → zs.getD j 0 = ys.getD j 0) := hall
        clear hall
        by_cases hlt : k < n
        · have c1 := HC1.out k hlt
          have c2 := HC2.out k hlt
          generalize hx : zs.getD k 0 = x at c1
          generalize hyy : ys.getD k 0 = y at c2
          have HX : Hid (zs.getD k 0 = x) := hx
          have HY : Hid (ys.getD k 0 = y) := hyy
          have hI : (k : Int) < (n : Int) := by omega
          clear hx hyy
          by_cases he : x = y
          · have hb : (x != y) = false := by simp [he]
            have HE : Hid (x = y) := he
            clear he
            go_wp2
            go_quiet (fail)
            go_wp2
            go_roundw
            case rel =>
              refine ⟨k + 1, _, by omega, by go_num, rfl, fun j hj => ?_⟩
              by_cases e : j = k
              · subst e; rw [HX.out, HY.out, HE.out]
              · exact HA.out j (by omega)
            case measure => simp [intOf]; omega
          · have hb : (x != y) = true := by simp [he]
            have HE : Hid (x ≠ y) := he
            clear he
            go_wp2
            go_quiet (fail)
            go_wp2
            go_ret
            refine ⟨ret_bool ?_, _, World.drewN_drewN _ _ _⟩
            exact (decide_eq_false (same_ne (k := k) (by rw [HX.out, HY.out]; exact HE.out))).symm
        · have hkn : k = n := by omega
          have HK : Hid (k = n) := hkn
          clear hkn
          go_wp2
          go_ret
          refine ⟨ret_bool ?_, _, rfl⟩
          exact (decide_eq_true (same_all (L.out.1.trans L.out.2.symm) (fun i hi => HA.out i (by rw [HK.out, ← L.out.1]; exact hi)))).symm
    · have e0 : n = 0 := by omega
      subst e0
      have e1 := hz.nil
      have e2 := hy.nil
      subst e1 e2
      clear hz hy
      go_enter Tryz.func11, Tryz.ntmps11
      go_wp2
      refine wp_loop_rounds 1 ?_
      rw [rounds_succ]
      go_wp2
      go_ret
      exact ⟨rfl, 0, rfl⟩
  · have hne : ((n : Int) != (m : Int)) = true := by simp; omega
    have E : Hid (zs ≠ ys) := by show zs ≠ ys; intro e; apply hl; rw [← hz.len, ← hy.len, e]
    clear hz hy
    go_enter Tryz.func11, Tryz.ntmps11
    go_wp2
    go_ret
    exact ⟨ret_bool (decide_eq_false E.out).symm, 0, rfl⟩
theorem sameS_same {a b : Option Addr} {n m c d : Nat} {zs : List Int} (w : World) (hz : Sees w a n c zs) (hy : Sees w b m d zs) :
    Calls Tryz.prog 11 #[.slice a n c, .slice b m d] w fun e w' => e = .returned (.bool true) ∧ ∃ k, w' = w.drewN k :=
  (sameS_any w hz hy).mono fun e w' ⟨he, hk⟩ => ⟨by rw [he]; simp, hk⟩
theorem sameS_yes {a b : Option Addr} {n m c d : Nat} {zs : List Int} (w : World) (hz : Sees w a n c zs) (hy : Sees w b m d zs) :
    Calls Tryz.prog 11 #[.slice a n c, .slice b m d] w fun e w' => e = .returned (.bool true) ∧ Below w.heap.size w w' :=
  (sameS_same w hz hy).mono fun e w' ⟨he, k, hk⟩ => ⟨he, by rw [hk]; exact Below.drewN' (Below.refl _ _) k⟩

end Go.Proofs.YtbcfjbkmkknmfaaGreatDoor
namespace Go.Proofs.YtbcfjbkmkknmfaaGreatDoor
open Go.RowKit

namespace M
theorem pm_congr {ys ys' : List Int} (h : ∀ i, ys.getD i 0 = ys'.getD i 0) : ∀ (zs : List Int) (i : Nat), pm zs ys i = pm zs ys' i
  | [], _ => rfl
  | c :: r, i => by unfold pm; rw [h i, pm_congr h r (i - 1)]
theorem pm_one (x : Int) : ∀ (zs : List Int) (i : Nat), pm zs [x] i = zs.getD i 0 * x % 65537
  | [], i => by show (0 : Int) = 0 * x % 65537; simp
  | c :: r, i => by
    unfold pm
    by_cases h0 : i = 0
    · subst h0; simp
    · obtain ⟨j, rfl⟩ := Nat.exists_eq_succ_of_ne_zero h0
      rw [if_neg h0]
      have e1 : [x].getD j.succ 0 = 0 := rfl
      have e2 : (c :: r).getD j.succ 0 = r.getD j 0 := by simp [List.getD_eq_getElem?_getD]
      rw [e1, e2, Nat.succ_sub_one, pm_one x r j]; omega
theorem scale_eq (zs : List Int) (x : Int) : pmul zs (trim [x]) = trim (pscale zs x) := by
  refine neat_ext (neat_pmul _ _) (neat_trim _) fun i => ?_
  rw [pmul_getD, getD_trim, pscale_getD, pm_congr (fun i => getD_trim [x] i), pm_one]
end M
theorem seesA_one (v : World) (b : Int) (t : TypeId) : Sees (v.alloc (.cells #[Value.int .i64 b] t)) (some ⟨v.heap.size, 0, none⟩) 1 1 [b] := by
  refine ⟨rfl, Nat.le_refl _, by omega, (fun h => by cases h), .inr ⟨v.heap.size, 0, rfl, fun i hi => ?_⟩⟩
  have h0 : i = 0 := by omega
  subst h0
  rw [World.cell?_alloc_new]; rfl
theorem seesA_two (v : World) (b c : Int) (t : TypeId) : Sees (v.alloc (.cells #[Value.int .i64 b, Value.int .i64 c] t)) (some ⟨v.heap.size, 0, none⟩) 2 2 [b, c] := by
  refine ⟨rfl, Nat.le_refl _, by omega, (fun h => by cases h), .inr ⟨v.heap.size, 0, rfl, fun i hi => ?_⟩⟩
  have h0 : i = 0 ∨ i = 1 := by omega
  rcases h0 with h0 | h0 <;> subst h0 <;> rw [World.cell?_alloc_new] <;> rfl
set_option maxHeartbeats 1000000 in
theorem scale_any {a : Option Addr} {n c : Nat} {zs : List Int} (x : Int) (w : World) (hz : Sees w a n c zs) (ha : M.allEl zs = true) (hn : n ≤ 20000) (x0 : 0 ≤ x) (x1 : x < 65537) :
    Calls Tryz.prog 102 #[.slice a n c, .int .i64 x] w fun e w' => ∃ a' l c', e = .returned (.slice a' l c') ∧ Owns 2 w' w.heap.size a' l c' (M.trim (M.pscale zs x)) ∧ Below w.heap.size w w' := by
  have HZ : Hid (Sees w a n c zs) := hz
  have HA : Hid (M.allEl zs = true) := ha
  have HS : Hid (Sees (w.alloc (.cells #[Value.int .i64 x] 2)) (some ⟨w.heap.size, 0, none⟩) 1 1 [x]) := seesA_one w x _
  have HB : Hid (Below w.heap.size w (w.alloc (.cells #[Value.int .i64 x] 2))) := (Below.refl _ _).alloc (Nat.le_refl _) _
  have HX : Hid (M.allEl (M.trim [x]) = true) := M.all_trim (M.all_cons ⟨x0, x1⟩ rfl)
  have HE : Hid (M.pmul zs (M.trim [x]) = M.trim (M.pscale zs x)) := M.scale_eq zs x
  clear hz ha
  go_enter Tryz.func102, Tryz.ntmps102
  go_wp2_with fail
  refine (l2Trim_any _ HS.out (by omega)).mono ?_
  rintro e w1 ⟨a1, l1, c1, rfl, ho1, hb1⟩
  have hl1 : l1 ≤ 1 := by have h := M.len_trim [x]; rw [ho1.len] at h; exact h
  have HO1 : Hid (Owns 2 w1 w.heap.size a1 l1 c1 (M.trim [x])) := ho1.mono HB.out.size
  have HB1 : Hid (Below w.heap.size w w1) := HB.out.trans (hb1.mono HB.out.size)
  clear ho1 hb1
  go_wp2_with fail
  refine (l2Mul_any _ (HZ.out.below HB1.out) HO1.out.sees HA.out HX.out hn (by omega)).mono ?_
  rintro e w2 ⟨a2, l2, c2, rfl, ho2, hb2⟩
  have HO2 : Hid (Owns 2 w2 w.heap.size a2 l2 c2 (M.trim (M.pscale zs x))) := by show Owns _ _ _ _ _ _ _; rw [← HE.out]; exact ho2.mono HB1.out.size
  have HB2 : Hid (Below w.heap.size w w2) := HB1.out.trans (hb2.mono HB1.out.size)
  clear ho2 hb2
  go_wp2
  go_ret
  exact ⟨a2, l2, c2, rfl, HO2.out, HB2.out⟩
theorem M.turn_pow (g : Int) (k : Nat) : g ^ k % 65537 * g % 65537 = g ^ (k + 1) % 65537 := by
  rw [Int.pow_succ, M.mL]
set_option maxHeartbeats 2000000 in
theorem l6Turn_any {a : Option Addr} {n c : Nat} {zs : List Int} (g : Int) (w : World) (hz : Sees w a n c zs) (ha : M.allEl zs = true) (hn : n ≤ 128) (g0 : 0 ≤ g) (g1 : g < 65537) :
    Calls Tryz.prog 101 #[.slice a n c, .int .i64 g] w fun e w' => ∃ a' l c', e = .returned (.slice a' l c') ∧ Owns 2 w' w.heap.size a' l c' (M.turn zs g) ∧ Below w.heap.size w w' := by
  have HZ : Hid (Sees w a n c zs) := hz
  have HA : Hid (M.allEl zs = true) := ha
  have HL : Hid (zs.length = n) := hz.len
  obtain ⟨i0, hi, hz0, hz1, hz2⟩ := info_parts info_i64
  have HI : Hid (Tryz.prog.info? 2 = some i0 ∧ i0.zero = some (Value.int .i64 0) ∧ i0.size = 1 ∧ i0.bytes = 8) := ⟨hi, hz0, hz1, hz2⟩
  have HT : Hid (∀ k, M.tab k (fun i => zs.getD i 0 * (g ^ i % 65537) % 65537) ++ [zs.getD k 0 * (g ^ k % 65537) % 65537] = M.tab (k + 1) (fun i => zs.getD i 0 * (g ^ i % 65537) % 65537)) := fun k => M.tab_snoc k _
  have HE : Hid (M.trim (M.tab n (fun i => zs.getD i 0 * (g ^ i % 65537) % 65537)) = M.turn zs g) := by show _ = _; unfold M.turn; rw [hz.len]
  generalize hTT : (fun i => zs.getD i 0 * (g ^ i % 65537) % 65537) = TT at HT HE
  have HTT : Hid (∀ k, zs.getD k 0 * (g ^ k % 65537) % 65537 = TT k) := fun k => by rw [← hTT]
  have HP : Hid (∀ k, g ^ k % 65537 * g % 65537 = g ^ (k + 1) % 65537) := M.turn_pow g
  have HP0 : Hid (g ^ 0 % 65537 = 1) := by show _ = _; rw [Int.pow_zero]; rfl
  generalize hPP : (fun k : Nat => g ^ k % 65537) = PP
  have HPP : Hid (∀ k, g ^ k % 65537 = PP k) := fun k => by rw [← hPP]
  have HPB : Hid (∀ k, 0 ≤ PP k ∧ PP k < 65537) := fun k => by rw [← HPP.out k]; omega
  simp only [HPP.out] at HT HTT HP HP0
  clear hz ha hi hz0 hz1 hz2 hTT hPP HPP
  go_enter Tryz.func101, Tryz.ntmps101
  go_wp2
  go_loopw [5, 6, 7] (fun s x i wr => ∃ (k : Nat) (a' : Option Addr) (cap' : Nat), k ≤ n ∧ i = .int .i64 k ∧ x = .int .i64 (PP k) ∧ s = .slice a' k cap' ∧ Owns 2 wr w.heap.size a' k cap' (M.tab k TT) ∧ Below w.heap.size w wr) (fun _ _ i _ => n - (intOf i).toNat)
  case atStart =>
    refine ⟨0, _, _, by omega, rfl, by rw [HP0.out], rfl, ?_, ?_⟩
    · exact World.ownsRow_made w #[] 0 (Nat.le_refl _) (by unfold maxLen; omega) rfl
    · exact (Below.refl _ _).alloc (Nat.le_refl _) _
  case round =>
    obtain ⟨k, a', cap', hk, rfl, rfl, rfl, ho1, hb1⟩ := hrel
    have HO1 : Hid (Owns 2 wr w.heap.size a' k cap' (M.tab k TT)) := ho1
    have HB1 : Hid (Below w.heap.size w wr) := hb1
    clear ho1 hb1
    by_cases hlt : k < n
    · obtain ⟨b1, o1, rfl, hc1⟩ := (HZ.out.below HB1.out).at (by omega)
      have e1 := hc1 k hlt
      have hb := M.el_at HA.out k
      have hI : (k : Int) < (n : Int) := by omega
      have HTk := HTT.out k
      have HSk : Hid (M.tab k TT ++ [TT k] = M.tab (k + 1) TT) := by have := HT.out k; rw [HTk] at this; exact this
      have HPk := HP.out k
      obtain ⟨q0, q1⟩ := HPB.out k
      generalize zs.getD k 0 = z at e1 hb HTk
      generalize hPEq : PP (k + 1) = p' at HPk
      have HPEq := hPEq
      generalize PP k = p at HPk HTk q0 q1
      generalize TT k = tk at HTk HSk
      obtain ⟨z0, z1⟩ := hb
      obtain ⟨m0, m1⟩ := M.mul_bd z0 z1 q0 q1
      obtain ⟨m2, m3⟩ := M.mul_bd q0 q1 g0 g1
      have HTk' : Hid (z * p % 65537 = tk) := HTk
      have HPk' : Hid (p * g % 65537 = p') := HPk
      have HPE : Hid (PP (k + 1) = p') := HPEq
      clear hc1 HTk HPk HPEq hPEq
      go_wp2_with (at_builtin; refine wpList_append_own _ rfl _ _ 32 rfl w.heap.size 2 i0 (.int .i64 0) 1 8 Tryz.underlying32 HI.out.1 HI.out.2.1 HI.out.2.2.1 HI.out.2.2.2 rfl (by decide) _ k ((M.tab k TT).map (Value.int .i64)) rfl (World.ownsRow.alloc HO1.out _) ⟨wr.heap.size, 0, none⟩ 1 1 [.int .i64 (z * p % 65537)] rfl rfl (cell_one _ _ _) (one_int _) (by unfold maxLen; omega) (by omega) (by have := HB1.out.size; simp; omega) ?_)
      intro v' w4 hown hgrow _
      rw [HTk'.out] at hown
      have hown' : w4.ownsRow w.heap.size 2 1 v' (k + 1) ((M.tab (k + 1) TT).map (Value.int .i64)) := by rw [← HSk.out, List.map_append]; exact hown
      obtain ⟨b4, c4, rfl, ho4⟩ := Owns.form hown'
      have HO4 : Hid (Owns 2 w4 w.heap.size b4 (k + 1) c4 (M.tab (k + 1) TT)) := ho4
      have HB4 : Hid (Below w.heap.size w w4) := (HB1.out.alloc HB1.out.size _).grown hgrow (by have := HB1.out.size; simp; omega) HO1.out.row
      clear hown hown' hgrow ho4
      go_wp2
      go_roundw
      case rel => exact ⟨k + 1, b4, c4, by omega, by go_num, by rw [HPE.out, ← HPk'.out], rfl, HO4.out, HB4.out⟩
      case measure => simp [intOf]; omega
    · have hkn : k = n := by omega
      subst hkn
      go_wp2_with fail
      refine (l2Trim_any _ HO1.out.sees (by omega)).mono ?_
      rintro e w2 ⟨a2, l2, c2, rfl, ho2, hb2⟩
      have HO2 : Hid (Owns 2 w2 w.heap.size a2 l2 c2 (M.turn zs g)) := by show Owns _ _ _ _ _ _ _; rw [← HE.out]; exact ho2.mono HB1.out.size
      have HB2 : Hid (Below w.heap.size w w2) := HB1.out.trans (hb2.mono HB1.out.size)
      clear ho2 hb2
      go_wp2
      go_ret
      exact ⟨a2, l2, c2, rfl, HO2.out, HB2.out⟩
end Go.Proofs.YtbcfjbkmkknmfaaGreatDoor
namespace Go.Proofs.YtbcfjbkmkknmfaaGreatDoor
open Go.RowKit

set_option maxHeartbeats 2000000 in
theorem l6Zero_any (N : Nat) (w : World) (h0 : 0 < N) (hN : N ≤ 1000) :
    Calls Tryz.prog 50 #[.int .i64 N] w fun e w' => ∃ a' c', e = .returned (.slice a' (N + 1) c') ∧ Owns 2 w' w.heap.size a' (N + 1) c' (M.zeroL N) ∧ Below w.heap.size w w' := by
  obtain ⟨i0, hi, hz0, hz1, hz2⟩ := info_parts info_i64
  have HE : Hid (((List.replicate (N + 1) (0 : Int)).set 0 65536).set N 1 = M.zeroL N) := rfl
  have hI0 : (0 : Int) < (N : Int) := by omega
  have hI1 : (N : Int) ≤ 1000 := by omega
  have hc0 : (0 : Int) < ((N + 1 : Nat) : Int) := by omega
  have hc1 : (N : Int) < ((N + 1 : Nat) : Int) := by omega
  go_enter Tryz.func50, Tryz.ntmps50
  go_wp2_with (at_make; refine wpList_make_full _ rfl _ _ 32 rfl w.heap.size 2 i0 (.int .i64 0) 1 Tryz.underlying32 hi hz0 hz1 .i64 .i64 _ _ (N + 1) rfl rfl (by omega) (by omega) (by rw [hz2]; omega) (by unfold maxLen; omega) (Nat.le_refl _) ?_)
  intro w1 hown hg
  have HO : Hid (Owns 2 w1 w.heap.size (some ⟨w.heap.size, 0, none⟩) (N + 1) (N + 1) (List.replicate (N + 1) 0)) := by
    show w1.ownsRow _ _ _ _ _ _
    rw [made_ints] at hown; exact hown
  have HB : Hid (Below w.heap.size w w1) := below_grown hg
  obtain ⟨g, hge, -, -, hc, hf⟩ := HO.out.block (by omega)
  simp only [Option.some.injEq, Addr.mk.injEq, and_true] at hge
  have c0 := hc 0 (by omega)
  have f0 := hf 0
  have cN := hc N (by omega)
  have fN := hf N
  rw [← hge] at c0 f0 cN fN
  rw [M.replicate_getD] at c0 cN
  clear hown hg hi hz0 hz1 hz2 hc hf hge
  have HO2 : Hid (Owns 2 ((w1.setCell ⟨w.heap.size, 0, none⟩ (.int .i64 65536)).setCell ⟨w.heap.size, N, none⟩ (.int .i64 1)) w.heap.size (some ⟨w.heap.size, 0, none⟩) (N + 1) (N + 1) (M.zeroL N)) := (HO.out.set 0 65536).set N 1
  have HB2 : Hid (Below w.heap.size w ((w1.setCell ⟨w.heap.size, 0, none⟩ (.int .i64 65536)).setCell ⟨w.heap.size, N, none⟩ (.int .i64 1))) := (HB.out.setCell (Nat.le_refl _) _).setCell (Nat.le_refl _) _
  go_wp2
  go_ret
  exact ⟨_, _, rfl, HO2.out, HB2.out⟩
set_option maxHeartbeats 8000000 in
set_option maxRecDepth 10000 in
theorem l6Rule_any {xa ya : Option Addr} {xl xc yl yc : Nat} {xs ys : List Int} (r : M.Rl) (w : World) (hr : r.ok = true) (hx : Sees w xa xl xc xs) (hy : Sees w ya yl yc ys) (ax : M.allEl xs = true) (ay : M.allEl ys = true) (lx : xl ≤ 100) (ly : yl ≤ 100) :
    Calls Tryz.prog 49 #[rlv r, .slice xa xl xc, .slice ya yl yc] w fun e w' => ∃ a' l c', e = .returned (.slice a' l c') ∧ l ≤ 301 ∧ Owns 2 w' w.heap.size a' l c' (M.rl r xs ys) ∧ Below w.heap.size w w' := by
  obtain ⟨hc0, hc1, hc2, hc3, hc4, hc5⟩ := M.rl_bd hr
  obtain ⟨ra, rb, rc, rd, re, rk⟩ := r
  dsimp only [rlv] at hc0 hc1 hc2 hc3 hc4 hc5 ⊢
  unfold M.rl
  have HXa : Hid (M.allEl xs = true) := ax
  have HYa : Hid (M.allEl ys = true) := ay
  have HXn : Hid (xs.length ≤ 100) := by show _ ≤ _; rw [hx.len]; exact lx
  have HYn : Hid (ys.length ≤ 100) := by show _ ≤ _; rw [hy.len]; exact ly
  have HXl : xl ≤ 20000 := by omega
  have HYl : yl ≤ 20000 := by omega
  have HB0 : Hid (Below w.heap.size w (w.alloc (.cells #[.int .i64 ra, .int .i64 rb, .int .i64 rc, .int .i64 rd, .int .i64 re, .int .i64 rk] 25))) := (Below.refl _ _).alloc (Nat.le_refl _) _
  have HR0 : Hid (Lies (w.alloc (.cells #[.int .i64 ra, .int .i64 rb, .int .i64 rc, .int .i64 rd, .int .i64 re, .int .i64 rk] 25)) w.heap.size [.int .i64 ra, .int .i64 rb, .int .i64 rc, .int .i64 rd, .int .i64 re, .int .i64 rk]) := lies_new _ _ _
  have HX0 : Hid (Sees (w.alloc (.cells #[.int .i64 ra, .int .i64 rb, .int .i64 rc, .int .i64 rd, .int .i64 re, .int .i64 rk] 25)) xa xl xc xs) := hx.below HB0.out
  have HY0 : Hid (Sees (w.alloc (.cells #[.int .i64 ra, .int .i64 rb, .int .i64 rc, .int .i64 rd, .int .i64 re, .int .i64 rk] 25)) ya yl yc ys) := hy.below HB0.out
  clear hr hx hy ax ay
  go_enter Tryz.func49, Tryz.ntmps49
  go_wp2
  generalize w.alloc (.cells #[.int .i64 ra, .int .i64 rb, .int .i64 rc, .int .i64 rd, .int .i64 re, .int .i64 rk] 25) = wq at HB0 HR0 HX0 HY0 ⊢
  have HX : Hid (Sees wq xa xl xc xs) := HX0.out
  have HY : Hid (Sees wq ya yl yc ys) := HY0.out
  have HR : Hid (Lies wq w.heap.size [.int .i64 ra, .int .i64 rb, .int .i64 rc, .int .i64 rd, .int .i64 re, .int .i64 rk]) := HR0.out
  have HBq : Hid (Below w.heap.size w wq) := HB0.out
  clear HB0 HR0 HX0 HY0
  refine wp_region_noPanic ?_
  refine wp_region_held_drew (S := fun W => wq.grownBy W none) (by kernel_rfl) (grown_drew _ _) (fun hHeld => ?_)
  generalize wq.drew = wd0 at hHeld ⊢
  refine wpAnyH_take (i := 0) (v := .slice xa xl xc) rfl (by kernel_rfl) (by kernel_rfl) (by kernel_rfl) (fun _ _ _ h => h) (Or.inl ⟨by kernel_rfl, ?_⟩) (by assumption) ?_
  · intro wq hSq; go_simp
  try simp only [Act.put]
  refine wpAnyH_take (i := 1) (v := .slice xa xl xc) rfl (by kernel_rfl) (by kernel_rfl) (by kernel_rfl) (fun _ _ _ h => h) (Or.inl ⟨by kernel_rfl, ?_⟩) (by assumption) ?_
  · intro wq hSq; go_simp
  try simp only [Act.put]
  refine wpAnyH_take (i := 3) (v := .pointer (some ⟨w.heap.size, 0, none⟩)) rfl (by kernel_rfl) (by kernel_rfl) (by kernel_rfl) (fun _ _ _ h => h) (Or.inl ⟨by kernel_rfl, ?_⟩) (by assumption) ?_
  · intro wq hSq; go_simp
  try simp only [Act.put]
  refine wpAnyH_take (i := 4) (v := .int .i64 ra) rfl (by kernel_rfl) (by kernel_rfl) (by kernel_rfl) (fun _ _ _ h => h) (Or.inl ⟨by kernel_rfl, ?_⟩) (by assumption) ?_
  · intro wp hSp; have c0 : wp.cell? ⟨w.heap.size, 0, none⟩ = some (.int .i64 ra) := (HR.out.grown hSp (by simp)).at 0; go_simp
  try simp only [Act.put]
  refine wpAnyH_ready (rs := [2]) (by kernel_rfl) (by simp) ?_
  refine AllReadyH.cons rfl (fun Kk hK => ?_) AllReadyH.nil
  go_simp
  refine (l2Mul_any _ (HX.out.grownR hHeld (by simp)) (HX.out.grownR hHeld (by simp)) HXa.out HXa.out HXl HXl).mono ?_
  rintro e w3 ⟨ma, ml, mc, rfl, ho3, hb3⟩
  go_simp
  have hS3 : wq.grownBy w3 none := grown_step hHeld hb3
  have HM3 : Hid (Owns 2 w3 wd0.heap.size ma ml mc (M.pmul xs xs)) := ho3
  have hml : ml ≤ 300 := by have h1 := ho3.len; have h2 := M.pmul_len xs xs; have := HXn.out; have := HXn.out; rw [show (M.pmul xs xs) = M.pmul xs xs from rfl] at h1; omega
  refine hK.out _ _ hS3 (fun _ => ?_)
  clear hK Kk hb3
  clear ho3
  try simp only [Act.put]
  refine wpAnyH_ready (rs := [5]) (by kernel_rfl) (by simp) ?_
  refine AllReadyH.cons rfl (fun Kk hK => ?_) AllReadyH.nil
  go_simp
  refine (scale_any _ _ HM3.out.sees (M.all_pmul _ _) (by omega) hc0.1 hc0.2).mono ?_
  rintro e w4 ⟨ka, kl, kc, rfl, ho4, hb4⟩
  go_simp
  have hS4 : wq.grownBy w4 none := grown_step hS3 hb4
  have HK4 : Hid (Owns 2 w4 w3.heap.size ka kl kc (M.trim (M.pscale (M.pmul xs xs) ra))) := ho4
  have hkl : kl ≤ 300 := by have h1 := ho4.len; have h2 := M.len_pscale_trim (M.pmul xs xs) ra; have h3 := HM3.out.len; omega
  refine hK.out _ _ hS4 (fun _ => ?_)
  clear hK Kk hb4
  clear ho4
  try simp only [Act.put]
  refine wpAnyH_take (i := 6) (v := .slice ka kl kc) rfl (by kernel_rfl) (by kernel_rfl) (by kernel_rfl) (fun _ _ _ h => h) (Or.inl ⟨by kernel_rfl, ?_⟩) (by assumption) ?_
  · intro wq hSq; go_simp
  try simp only [Act.put]
  refine wpAnyH_done (by kernel_rfl) ?_ _
  refine NoPanic.normal ?_
  go_simp
  have HX2 : Hid (Sees w4 xa xl xc xs) := HX.out.grownR hS4 (by simp)
  have HY2 : Hid (Sees w4 ya yl yc ys) := HY.out.grownR hS4 (by simp)
  have HR2 : Hid (Lies w4 w.heap.size [.int .i64 ra, .int .i64 rb, .int .i64 rc, .int .i64 rd, .int .i64 re, .int .i64 rk]) := HR.out.grown hS4 (by simp)
  have HB2 : Hid (Below w.heap.size w w4) := HBq.out.grown hS4 HBq.out.size (by simp)
  have HS2 : Hid (Owns 2 w4 w.heap.size ka kl kc (M.trim (M.pscale (M.pmul xs xs) ra))) := (HK4.out.mono (Nat.le_trans HBq.out.size hS3.size))
  clear HX HY HR HBq hHeld hS3 hS4 HM3 HK4 hml
  go_wp2
  generalize w4 = wq at HX2 HY2 HR2 HB2 HS2 ⊢
  generalize ka = sa at HS2 ⊢
  generalize kc = sc at HS2 ⊢
  generalize kl = sl at HS2 hkl ⊢
  have HX : Hid (Sees wq xa xl xc xs) := HX2.out
  have HY : Hid (Sees wq ya yl yc ys) := HY2.out
  have HR : Hid (Lies wq w.heap.size [.int .i64 ra, .int .i64 rb, .int .i64 rc, .int .i64 rd, .int .i64 re, .int .i64 rk]) := HR2.out
  have HBq : Hid (Below w.heap.size w wq) := HB2.out
  have HSm : Hid (Sees wq sa sl sc (M.trim (M.pscale (M.pmul xs xs) ra))) := HS2.out.sees
  have HSa : Hid (M.allEl (M.trim (M.pscale (M.pmul xs xs) ra)) = true) := M.all_trim (M.all_pscale _ _)
  have hsl : sl ≤ 300 := hkl
  clear HX2 HY2 HR2 HB2 HS2
  refine wp_region_noPanic ?_
  refine wp_region_held_drew (S := fun W => wq.grownBy W none) (by kernel_rfl) (grown_drew _ _) (fun hHeld => ?_)
  generalize wq.drew = wd0 at hHeld ⊢
  refine wpAnyH_take (i := 0) (v := .slice sa sl sc) rfl (by kernel_rfl) (by kernel_rfl) (by kernel_rfl) (fun _ _ _ h => h) (Or.inl ⟨by kernel_rfl, ?_⟩) (by assumption) ?_
  · intro wq hSq; go_simp
  try simp only [Act.put]
  refine wpAnyH_take (i := 1) (v := .slice xa xl xc) rfl (by kernel_rfl) (by kernel_rfl) (by kernel_rfl) (fun _ _ _ h => h) (Or.inl ⟨by kernel_rfl, ?_⟩) (by assumption) ?_
  · intro wq hSq; go_simp
  try simp only [Act.put]
  refine wpAnyH_take (i := 2) (v := .slice ya yl yc) rfl (by kernel_rfl) (by kernel_rfl) (by kernel_rfl) (fun _ _ _ h => h) (Or.inl ⟨by kernel_rfl, ?_⟩) (by assumption) ?_
  · intro wq hSq; go_simp
  try simp only [Act.put]
  refine wpAnyH_take (i := 4) (v := .pointer (some ⟨w.heap.size, 1, none⟩)) rfl (by kernel_rfl) (by kernel_rfl) (by kernel_rfl) (fun _ _ _ h => h) (Or.inl ⟨by kernel_rfl, ?_⟩) (by assumption) ?_
  · intro wq hSq; go_simp
  try simp only [Act.put]
  refine wpAnyH_take (i := 5) (v := .int .i64 rb) rfl (by kernel_rfl) (by kernel_rfl) (by kernel_rfl) (fun _ _ _ h => h) (Or.inl ⟨by kernel_rfl, ?_⟩) (by assumption) ?_
  · intro wp hSp; have c0 : wp.cell? ⟨w.heap.size, 1, none⟩ = some (.int .i64 rb) := (HR.out.grown hSp (by simp)).at 1; go_simp
  try simp only [Act.put]
  refine wpAnyH_ready (rs := [3]) (by kernel_rfl) (by simp) ?_
  refine AllReadyH.cons rfl (fun Kk hK => ?_) AllReadyH.nil
  go_simp
  refine (l2Mul_any _ (HX.out.grownR hHeld (by simp)) (HY.out.grownR hHeld (by simp)) HXa.out HYa.out HXl HYl).mono ?_
  rintro e w3 ⟨ma, ml, mc, rfl, ho3, hb3⟩
  go_simp
  have hS3 : wq.grownBy w3 none := grown_step hHeld hb3
  have HM3 : Hid (Owns 2 w3 wd0.heap.size ma ml mc (M.pmul xs ys)) := ho3
  have hml : ml ≤ 300 := by have h1 := ho3.len; have h2 := M.pmul_len xs ys; have := HXn.out; have := HYn.out; rw [show (M.pmul xs ys) = M.pmul xs ys from rfl] at h1; omega
  refine hK.out _ _ hS3 (fun _ => ?_)
  clear hK Kk hb3
  clear ho3
  try simp only [Act.put]
  refine wpAnyH_ready (rs := [6]) (by kernel_rfl) (by simp) ?_
  refine AllReadyH.cons rfl (fun Kk hK => ?_) AllReadyH.nil
  go_simp
  refine (scale_any _ _ HM3.out.sees (M.all_pmul _ _) (by omega) hc1.1 hc1.2).mono ?_
  rintro e w4 ⟨ka, kl, kc, rfl, ho4, hb4⟩
  go_simp
  have hS4 : wq.grownBy w4 none := grown_step hS3 hb4
  have HK4 : Hid (Owns 2 w4 w3.heap.size ka kl kc (M.trim (M.pscale (M.pmul xs ys) rb))) := ho4
  have hkl : kl ≤ 300 := by have h1 := ho4.len; have h2 := M.len_pscale_trim (M.pmul xs ys) rb; have h3 := HM3.out.len; omega
  refine hK.out _ _ hS4 (fun _ => ?_)
  clear hK Kk hb4
  clear ho4
  try simp only [Act.put]
  refine wpAnyH_ready (rs := [7]) (by kernel_rfl) (by simp) ?_
  refine AllReadyH.cons rfl (fun Kk hK => ?_) AllReadyH.nil
  go_simp
  refine (l2Add_any _ (HSm.out.grownR hS4 (by simp)) HK4.out.sees HSa.out (M.all_trim (M.all_pscale _ _)) (by omega) (by omega)).mono ?_
  rintro e w5 ⟨na, nl, nc, rfl, ho5, hb5⟩
  go_simp
  have hS5 : wq.grownBy w5 none := grown_step hS4 hb5
  have HN5 : Hid (Owns 2 w5 w.heap.size na nl nc (M.trim (M.padd (M.trim (M.pscale (M.pmul xs xs) ra)) (M.trim (M.pscale (M.pmul xs ys) rb))))) := ho5.mono (Nat.le_trans HBq.out.size hS4.size)
  have hnl : nl ≤ 300 := by have h1 := ho5.len; have h2 := M.len_padd_trim (M.trim (M.pscale (M.pmul xs xs) ra)) (M.trim (M.pscale (M.pmul xs ys) rb)); have h3 := HK4.out.len; have h4 := HSm.out.len; omega
  refine hK.out _ _ hS5 (fun _ => ?_)
  clear hK Kk hb5
  clear ho5
  try simp only [Act.put]
  refine wpAnyH_take (i := 8) (v := .slice na nl nc) rfl (by kernel_rfl) (by kernel_rfl) (by kernel_rfl) (fun _ _ _ h => h) (Or.inl ⟨by kernel_rfl, ?_⟩) (by assumption) ?_
  · intro wq hSq; go_simp
  try simp only [Act.put]
  refine wpAnyH_done (by kernel_rfl) ?_ _
  refine NoPanic.normal ?_
  go_simp
  have HX2 : Hid (Sees w5 xa xl xc xs) := HX.out.grownR hS5 (by simp)
  have HY2 : Hid (Sees w5 ya yl yc ys) := HY.out.grownR hS5 (by simp)
  have HR2 : Hid (Lies w5 w.heap.size [.int .i64 ra, .int .i64 rb, .int .i64 rc, .int .i64 rd, .int .i64 re, .int .i64 rk]) := HR.out.grown hS5 (by simp)
  have HB2 : Hid (Below w.heap.size w w5) := HBq.out.grown hS5 HBq.out.size (by simp)
  have HS2 : Hid (Owns 2 w5 w.heap.size na nl nc (M.trim (M.padd (M.trim (M.pscale (M.pmul xs xs) ra)) (M.trim (M.pscale (M.pmul xs ys) rb))))) := HN5.out
  clear HX HY HR HBq hHeld hS3 hS4 hS5 HM3 HK4 HN5 HSm HSa hml hkl hsl
  go_wp2
  generalize w5 = wq at HX2 HY2 HR2 HB2 HS2 ⊢
  generalize na = sa at HS2 ⊢
  generalize nc = sc at HS2 ⊢
  generalize nl = sl at HS2 hnl ⊢
  have HX : Hid (Sees wq xa xl xc xs) := HX2.out
  have HY : Hid (Sees wq ya yl yc ys) := HY2.out
  have HR : Hid (Lies wq w.heap.size [.int .i64 ra, .int .i64 rb, .int .i64 rc, .int .i64 rd, .int .i64 re, .int .i64 rk]) := HR2.out
  have HBq : Hid (Below w.heap.size w wq) := HB2.out
  have HSm : Hid (Sees wq sa sl sc (M.trim (M.padd (M.trim (M.pscale (M.pmul xs xs) ra)) (M.trim (M.pscale (M.pmul xs ys) rb))))) := HS2.out.sees
  have HSa : Hid (M.allEl (M.trim (M.padd (M.trim (M.pscale (M.pmul xs xs) ra)) (M.trim (M.pscale (M.pmul xs ys) rb)))) = true) := M.all_trim (M.all_padd _ _)
  have hsl : sl ≤ 300 := hnl
  clear HX2 HY2 HR2 HB2 HS2
  refine wp_region_noPanic ?_
  refine wp_region_held_drew (S := fun W => wq.grownBy W none) (by kernel_rfl) (grown_drew _ _) (fun hHeld => ?_)
  generalize wq.drew = wd0 at hHeld ⊢
  refine wpAnyH_take (i := 0) (v := .slice sa sl sc) rfl (by kernel_rfl) (by kernel_rfl) (by kernel_rfl) (fun _ _ _ h => h) (Or.inl ⟨by kernel_rfl, ?_⟩) (by assumption) ?_
  · intro wq hSq; go_simp
  try simp only [Act.put]
  refine wpAnyH_take (i := 1) (v := .slice ya yl yc) rfl (by kernel_rfl) (by kernel_rfl) (by kernel_rfl) (fun _ _ _ h => h) (Or.inl ⟨by kernel_rfl, ?_⟩) (by assumption) ?_
  · intro wq hSq; go_simp
  try simp only [Act.put]
  refine wpAnyH_take (i := 2) (v := .slice ya yl yc) rfl (by kernel_rfl) (by kernel_rfl) (by kernel_rfl) (fun _ _ _ h => h) (Or.inl ⟨by kernel_rfl, ?_⟩) (by assumption) ?_
  · intro wq hSq; go_simp
  try simp only [Act.put]
  refine wpAnyH_take (i := 4) (v := .pointer (some ⟨w.heap.size, 2, none⟩)) rfl (by kernel_rfl) (by kernel_rfl) (by kernel_rfl) (fun _ _ _ h => h) (Or.inl ⟨by kernel_rfl, ?_⟩) (by assumption) ?_
  · intro wq hSq; go_simp
  try simp only [Act.put]
  refine wpAnyH_take (i := 5) (v := .int .i64 rc) rfl (by kernel_rfl) (by kernel_rfl) (by kernel_rfl) (fun _ _ _ h => h) (Or.inl ⟨by kernel_rfl, ?_⟩) (by assumption) ?_
  · intro wp hSp; have c0 : wp.cell? ⟨w.heap.size, 2, none⟩ = some (.int .i64 rc) := (HR.out.grown hSp (by simp)).at 2; go_simp
  try simp only [Act.put]
  refine wpAnyH_ready (rs := [3]) (by kernel_rfl) (by simp) ?_
  refine AllReadyH.cons rfl (fun Kk hK => ?_) AllReadyH.nil
  go_simp
  refine (l2Mul_any _ (HY.out.grownR hHeld (by simp)) (HY.out.grownR hHeld (by simp)) HYa.out HYa.out HYl HYl).mono ?_
  rintro e w3 ⟨ma, ml, mc, rfl, ho3, hb3⟩
  go_simp
  have hS3 : wq.grownBy w3 none := grown_step hHeld hb3
  have HM3 : Hid (Owns 2 w3 wd0.heap.size ma ml mc (M.pmul ys ys)) := ho3
  have hml : ml ≤ 300 := by have h1 := ho3.len; have h2 := M.pmul_len ys ys; have := HYn.out; have := HYn.out; rw [show (M.pmul ys ys) = M.pmul ys ys from rfl] at h1; omega
  refine hK.out _ _ hS3 (fun _ => ?_)
  clear hK Kk hb3
  clear ho3
  try simp only [Act.put]
  refine wpAnyH_ready (rs := [6]) (by kernel_rfl) (by simp) ?_
  refine AllReadyH.cons rfl (fun Kk hK => ?_) AllReadyH.nil
  go_simp
  refine (scale_any _ _ HM3.out.sees (M.all_pmul _ _) (by omega) hc2.1 hc2.2).mono ?_
  rintro e w4 ⟨ka, kl, kc, rfl, ho4, hb4⟩
  go_simp
  have hS4 : wq.grownBy w4 none := grown_step hS3 hb4
  have HK4 : Hid (Owns 2 w4 w3.heap.size ka kl kc (M.trim (M.pscale (M.pmul ys ys) rc))) := ho4
  have hkl : kl ≤ 300 := by have h1 := ho4.len; have h2 := M.len_pscale_trim (M.pmul ys ys) rc; have h3 := HM3.out.len; omega
  refine hK.out _ _ hS4 (fun _ => ?_)
  clear hK Kk hb4
  clear ho4
  try simp only [Act.put]
  refine wpAnyH_ready (rs := [7]) (by kernel_rfl) (by simp) ?_
  refine AllReadyH.cons rfl (fun Kk hK => ?_) AllReadyH.nil
  go_simp
  refine (l2Add_any _ (HSm.out.grownR hS4 (by simp)) HK4.out.sees HSa.out (M.all_trim (M.all_pscale _ _)) (by omega) (by omega)).mono ?_
  rintro e w5 ⟨na, nl, nc, rfl, ho5, hb5⟩
  go_simp
  have hS5 : wq.grownBy w5 none := grown_step hS4 hb5
  have HN5 : Hid (Owns 2 w5 w.heap.size na nl nc (M.trim (M.padd (M.trim (M.padd (M.trim (M.pscale (M.pmul xs xs) ra)) (M.trim (M.pscale (M.pmul xs ys) rb)))) (M.trim (M.pscale (M.pmul ys ys) rc))))) := ho5.mono (Nat.le_trans HBq.out.size hS4.size)
  have hnl : nl ≤ 300 := by have h1 := ho5.len; have h2 := M.len_padd_trim (M.trim (M.padd (M.trim (M.pscale (M.pmul xs xs) ra)) (M.trim (M.pscale (M.pmul xs ys) rb)))) (M.trim (M.pscale (M.pmul ys ys) rc)); have h3 := HK4.out.len; have h4 := HSm.out.len; omega
  refine hK.out _ _ hS5 (fun _ => ?_)
  clear hK Kk hb5
  clear ho5
  try simp only [Act.put]
  refine wpAnyH_take (i := 8) (v := .slice na nl nc) rfl (by kernel_rfl) (by kernel_rfl) (by kernel_rfl) (fun _ _ _ h => h) (Or.inl ⟨by kernel_rfl, ?_⟩) (by assumption) ?_
  · intro wq hSq; go_simp
  try simp only [Act.put]
  refine wpAnyH_done (by kernel_rfl) ?_ _
  refine NoPanic.normal ?_
  go_simp
  have HX2 : Hid (Sees w5 xa xl xc xs) := HX.out.grownR hS5 (by simp)
  have HY2 : Hid (Sees w5 ya yl yc ys) := HY.out.grownR hS5 (by simp)
  have HR2 : Hid (Lies w5 w.heap.size [.int .i64 ra, .int .i64 rb, .int .i64 rc, .int .i64 rd, .int .i64 re, .int .i64 rk]) := HR.out.grown hS5 (by simp)
  have HB2 : Hid (Below w.heap.size w w5) := HBq.out.grown hS5 HBq.out.size (by simp)
  have HS2 : Hid (Owns 2 w5 w.heap.size na nl nc (M.trim (M.padd (M.trim (M.padd (M.trim (M.pscale (M.pmul xs xs) ra)) (M.trim (M.pscale (M.pmul xs ys) rb)))) (M.trim (M.pscale (M.pmul ys ys) rc))))) := HN5.out
  clear HX HY HR HBq hHeld hS3 hS4 hS5 HM3 HK4 HN5 HSm HSa hml hkl hsl
  generalize w5 = wq at HX2 HY2 HR2 HB2 HS2 ⊢
  generalize na = sa at HS2 ⊢
  generalize nc = sc at HS2 ⊢
  generalize nl = sl at HS2 hnl ⊢
  have HX : Hid (Sees wq xa xl xc xs) := HX2.out
  have HY : Hid (Sees wq ya yl yc ys) := HY2.out
  have HR : Hid (Lies wq w.heap.size [.int .i64 ra, .int .i64 rb, .int .i64 rc, .int .i64 rd, .int .i64 re, .int .i64 rk]) := HR2.out
  have HBq : Hid (Below w.heap.size w wq) := HB2.out
  have HSm : Hid (Sees wq sa sl sc (M.trim (M.padd (M.trim (M.padd (M.trim (M.pscale (M.pmul xs xs) ra)) (M.trim (M.pscale (M.pmul xs ys) rb)))) (M.trim (M.pscale (M.pmul ys ys) rc))))) := HS2.out.sees
  have HSa : Hid (M.allEl (M.trim (M.padd (M.trim (M.padd (M.trim (M.pscale (M.pmul xs xs) ra)) (M.trim (M.pscale (M.pmul xs ys) rb)))) (M.trim (M.pscale (M.pmul ys ys) rc)))) = true) := M.all_trim (M.all_padd _ _)
  have hsl : sl ≤ 300 := hnl
  clear HX2 HY2 HR2 HB2 HS2
  have cj : wq.cell? ⟨w.heap.size, 3, none⟩ = some (.int .i64 rd) := HR.out.at 3
  go_wp2_with fail
  refine (scale_any _ _ HX.out HXa.out HXl hc3.1 hc3.2).mono ?_
  rintro e w4 ⟨ka, kl, kc, rfl, ho4, hb4⟩
  have HK4 : Hid (Owns 2 w4 wq.heap.size ka kl kc (M.trim (M.pscale xs rd))) := ho4
  have hkl : kl ≤ 300 := by have h1 := ho4.len; have h2 := M.len_pscale_trim xs rd; have h3 := HXn.out; omega
  have HX1 : Hid (Sees w4 xa xl xc xs) := HX.out.below hb4
  have HY1 : Hid (Sees w4 ya yl yc ys) := HY.out.below hb4
  have HR1 : Hid (Lies w4 w.heap.size [.int .i64 ra, .int .i64 rb, .int .i64 rc, .int .i64 rd, .int .i64 re, .int .i64 rk]) := HR.out.belowS hb4
  have HSm1 : Hid (Sees w4 sa sl sc (M.trim (M.padd (M.trim (M.padd (M.trim (M.pscale (M.pmul xs xs) ra)) (M.trim (M.pscale (M.pmul xs ys) rb)))) (M.trim (M.pscale (M.pmul ys ys) rc))))) := HSm.out.below hb4
  have HB1 : Hid (Below w.heap.size w w4) := HBq.out.trans (hb4.mono HBq.out.size)
  clear ho4 hb4 cj HX HY HR HSm HBq
  go_wp2_with fail
  refine (l2Add_any _ HSm1.out HK4.out.sees HSa.out (M.all_trim (M.all_pscale _ _)) (by omega) (by omega)).mono ?_
  rintro e w5 ⟨na, nl, nc, rfl, ho5, hb5⟩
  have HS2 : Hid (Owns 2 w5 w.heap.size na nl nc (M.trim (M.padd (M.trim (M.padd (M.trim (M.padd (M.trim (M.pscale (M.pmul xs xs) ra)) (M.trim (M.pscale (M.pmul xs ys) rb)))) (M.trim (M.pscale (M.pmul ys ys) rc)))) (M.trim (M.pscale xs rd))))) := ho5.mono HB1.out.size
  have hnl : nl ≤ 300 := by have h1 := ho5.len; have h2 := M.len_padd_trim (M.trim (M.padd (M.trim (M.padd (M.trim (M.pscale (M.pmul xs xs) ra)) (M.trim (M.pscale (M.pmul xs ys) rb)))) (M.trim (M.pscale (M.pmul ys ys) rc)))) (M.trim (M.pscale xs rd)); have h3 := HK4.out.len; have h4 := HSm1.out.len; omega
  have HX2 : Hid (Sees w5 xa xl xc xs) := HX1.out.below hb5
  have HY2 : Hid (Sees w5 ya yl yc ys) := HY1.out.below hb5
  have HR2 : Hid (Lies w5 w.heap.size [.int .i64 ra, .int .i64 rb, .int .i64 rc, .int .i64 rd, .int .i64 re, .int .i64 rk]) := HR1.out.belowS hb5
  have HB2 : Hid (Below w.heap.size w w5) := HB1.out.trans (hb5.mono HB1.out.size)
  clear ho5 hb5 HX1 HY1 HR1 HSm1 HB1 HK4 HSa hkl hsl
  generalize w5 = wq at HX2 HY2 HR2 HB2 HS2 ⊢
  generalize na = sa at HS2 ⊢
  generalize nc = sc at HS2 ⊢
  generalize nl = sl at HS2 hnl ⊢
  have HX : Hid (Sees wq xa xl xc xs) := HX2.out
  have HY : Hid (Sees wq ya yl yc ys) := HY2.out
  have HR : Hid (Lies wq w.heap.size [.int .i64 ra, .int .i64 rb, .int .i64 rc, .int .i64 rd, .int .i64 re, .int .i64 rk]) := HR2.out
  have HBq : Hid (Below w.heap.size w wq) := HB2.out
  have HSm : Hid (Sees wq sa sl sc (M.trim (M.padd (M.trim (M.padd (M.trim (M.padd (M.trim (M.pscale (M.pmul xs xs) ra)) (M.trim (M.pscale (M.pmul xs ys) rb)))) (M.trim (M.pscale (M.pmul ys ys) rc)))) (M.trim (M.pscale xs rd))))) := HS2.out.sees
  have HSa : Hid (M.allEl (M.trim (M.padd (M.trim (M.padd (M.trim (M.padd (M.trim (M.pscale (M.pmul xs xs) ra)) (M.trim (M.pscale (M.pmul xs ys) rb)))) (M.trim (M.pscale (M.pmul ys ys) rc)))) (M.trim (M.pscale xs rd)))) = true) := M.all_trim (M.all_padd _ _)
  have hsl : sl ≤ 300 := hnl
  clear HX2 HY2 HR2 HB2 HS2
  have cj : wq.cell? ⟨w.heap.size, 4, none⟩ = some (.int .i64 re) := HR.out.at 4
  go_wp2_with fail
  refine (scale_any _ _ HY.out HYa.out HYl hc4.1 hc4.2).mono ?_
  rintro e w4 ⟨ka, kl, kc, rfl, ho4, hb4⟩
  have HK4 : Hid (Owns 2 w4 wq.heap.size ka kl kc (M.trim (M.pscale ys re))) := ho4
  have hkl : kl ≤ 300 := by have h1 := ho4.len; have h2 := M.len_pscale_trim ys re; have h3 := HYn.out; omega
  have HX1 : Hid (Sees w4 xa xl xc xs) := HX.out.below hb4
  have HY1 : Hid (Sees w4 ya yl yc ys) := HY.out.below hb4
  have HR1 : Hid (Lies w4 w.heap.size [.int .i64 ra, .int .i64 rb, .int .i64 rc, .int .i64 rd, .int .i64 re, .int .i64 rk]) := HR.out.belowS hb4
  have HSm1 : Hid (Sees w4 sa sl sc (M.trim (M.padd (M.trim (M.padd (M.trim (M.padd (M.trim (M.pscale (M.pmul xs xs) ra)) (M.trim (M.pscale (M.pmul xs ys) rb)))) (M.trim (M.pscale (M.pmul ys ys) rc)))) (M.trim (M.pscale xs rd))))) := HSm.out.below hb4
  have HB1 : Hid (Below w.heap.size w w4) := HBq.out.trans (hb4.mono HBq.out.size)
  clear ho4 hb4 cj HX HY HR HSm HBq
  go_wp2_with fail
  refine (l2Add_any _ HSm1.out HK4.out.sees HSa.out (M.all_trim (M.all_pscale _ _)) (by omega) (by omega)).mono ?_
  rintro e w5 ⟨na, nl, nc, rfl, ho5, hb5⟩
  have HS2 : Hid (Owns 2 w5 w.heap.size na nl nc (M.trim (M.padd (M.trim (M.padd (M.trim (M.padd (M.trim (M.padd (M.trim (M.pscale (M.pmul xs xs) ra)) (M.trim (M.pscale (M.pmul xs ys) rb)))) (M.trim (M.pscale (M.pmul ys ys) rc)))) (M.trim (M.pscale xs rd)))) (M.trim (M.pscale ys re))))) := ho5.mono HB1.out.size
  have hnl : nl ≤ 300 := by have h1 := ho5.len; have h2 := M.len_padd_trim (M.trim (M.padd (M.trim (M.padd (M.trim (M.padd (M.trim (M.pscale (M.pmul xs xs) ra)) (M.trim (M.pscale (M.pmul xs ys) rb)))) (M.trim (M.pscale (M.pmul ys ys) rc)))) (M.trim (M.pscale xs rd)))) (M.trim (M.pscale ys re)); have h3 := HK4.out.len; have h4 := HSm1.out.len; omega
  have HX2 : Hid (Sees w5 xa xl xc xs) := HX1.out.below hb5
  have HY2 : Hid (Sees w5 ya yl yc ys) := HY1.out.below hb5
  have HR2 : Hid (Lies w5 w.heap.size [.int .i64 ra, .int .i64 rb, .int .i64 rc, .int .i64 rd, .int .i64 re, .int .i64 rk]) := HR1.out.belowS hb5
  have HB2 : Hid (Below w.heap.size w w5) := HB1.out.trans (hb5.mono HB1.out.size)
  clear ho5 hb5 HX1 HY1 HR1 HSm1 HB1 HK4 HSa hkl hsl
  generalize w5 = wq at HX2 HY2 HR2 HB2 HS2 ⊢
  generalize na = sa at HS2 ⊢
  generalize nc = sc at HS2 ⊢
  generalize nl = sl at HS2 hnl ⊢
  have HX : Hid (Sees wq xa xl xc xs) := HX2.out
  have HY : Hid (Sees wq ya yl yc ys) := HY2.out
  have HR : Hid (Lies wq w.heap.size [.int .i64 ra, .int .i64 rb, .int .i64 rc, .int .i64 rd, .int .i64 re, .int .i64 rk]) := HR2.out
  have HBq : Hid (Below w.heap.size w wq) := HB2.out
  have HSm : Hid (Sees wq sa sl sc (M.trim (M.padd (M.trim (M.padd (M.trim (M.padd (M.trim (M.padd (M.trim (M.pscale (M.pmul xs xs) ra)) (M.trim (M.pscale (M.pmul xs ys) rb)))) (M.trim (M.pscale (M.pmul ys ys) rc)))) (M.trim (M.pscale xs rd)))) (M.trim (M.pscale ys re))))) := HS2.out.sees
  have HSa : Hid (M.allEl (M.trim (M.padd (M.trim (M.padd (M.trim (M.padd (M.trim (M.padd (M.trim (M.pscale (M.pmul xs xs) ra)) (M.trim (M.pscale (M.pmul xs ys) rb)))) (M.trim (M.pscale (M.pmul ys ys) rc)))) (M.trim (M.pscale xs rd)))) (M.trim (M.pscale ys re)))) = true) := M.all_trim (M.all_padd _ _)
  have hsl : sl ≤ 300 := hnl
  clear HX2 HY2 HR2 HB2 HS2
  have cj : wq.cell? ⟨w.heap.size, 5, none⟩ = some (.int .i64 rk) := HR.out.at 5
  have HO6 : Hid (Sees (wq.alloc (.cells #[Value.int .i64 rk] 2)) (some ⟨wq.heap.size, 0, none⟩) 1 1 [rk]) := seesA_one wq rk _
  have HB6 : Hid (Below wq.heap.size wq (wq.alloc (.cells #[Value.int .i64 rk] 2))) := (Below.refl _ _).alloc (Nat.le_refl _) _
  go_wp2_with fail
  refine (l2Trim_any _ HO6.out (by omega)).mono ?_
  rintro e w4 ⟨ka, kl, kc, rfl, ho4, hb4⟩
  have HK4 : Hid (Owns 2 w4 wq.heap.size ka kl kc (M.trim [rk])) := ho4.mono HB6.out.size
  have hkl : kl ≤ 1 := by have h1 := ho4.len; have h2 := M.len_trim [rk]; have h3 : [rk].length = 1 := rfl; omega
  have HB4 : Hid (Below wq.heap.size wq w4) := HB6.out.trans (hb4.mono HB6.out.size)
  have HSm1 : Hid (Sees w4 sa sl sc (M.trim (M.padd (M.trim (M.padd (M.trim (M.padd (M.trim (M.padd (M.trim (M.pscale (M.pmul xs xs) ra)) (M.trim (M.pscale (M.pmul xs ys) rb)))) (M.trim (M.pscale (M.pmul ys ys) rc)))) (M.trim (M.pscale xs rd)))) (M.trim (M.pscale ys re))))) := HSm.out.below HB4.out
  have HB1 : Hid (Below w.heap.size w w4) := HBq.out.trans (HB4.out.mono HBq.out.size)
  have HKa : Hid (M.allEl (M.trim [rk]) = true) := M.all_trim (M.all_cons ⟨hc5.1, hc5.2⟩ rfl)
  clear ho4 hb4 cj HX HY HR HSm HBq HO6 HB6 HB4
  go_wp2_with fail
  refine (l2Add_any _ HSm1.out HK4.out.sees HSa.out HKa.out (by omega) (by omega)).mono ?_
  rintro e w5 ⟨na, nl, nc, rfl, ho5, hb5⟩
  have HS2 : Hid (Owns 2 w5 w.heap.size na nl nc (M.trim (M.padd (M.trim (M.padd (M.trim (M.padd (M.trim (M.padd (M.trim (M.padd (M.trim (M.pscale (M.pmul xs xs) ra)) (M.trim (M.pscale (M.pmul xs ys) rb)))) (M.trim (M.pscale (M.pmul ys ys) rc)))) (M.trim (M.pscale xs rd)))) (M.trim (M.pscale ys re)))) (M.trim [rk])))) := ho5.mono HB1.out.size
  have hnl : nl ≤ 301 := by have h1 := ho5.len; have h2 := M.len_padd_trim (M.trim (M.padd (M.trim (M.padd (M.trim (M.padd (M.trim (M.padd (M.trim (M.pscale (M.pmul xs xs) ra)) (M.trim (M.pscale (M.pmul xs ys) rb)))) (M.trim (M.pscale (M.pmul ys ys) rc)))) (M.trim (M.pscale xs rd)))) (M.trim (M.pscale ys re)))) (M.trim [rk]); have h3 := HK4.out.len; have h4 := HSm1.out.len; omega
  have HB2 : Hid (Below w.heap.size w w5) := HB1.out.trans (hb5.mono HB1.out.size)
  clear ho5 hb5
  go_wp2
  go_ret
  exact ⟨na, nl, nc, rfl, hnl, HS2.out, HB2.out⟩
set_option maxHeartbeats 4000000 in
theorem l6Left_any {fa ra : Option Addr} {fl fc rl rc : Nat} {fs rs : List Int} (N : Nat) (w : World) (h : M.rowsN N = true) (hf : Sees w fa fl fc fs) (hr : Sees w ra rl rc rs) (af : M.allEl fs = true) (ar : M.allEl rs = true) (lf : fl ≤ 100) (lr : rl ≤ 400) :
    Calls Tryz.prog 48 #[.slice fa fl fc, .slice ra rl rc, .int .i64 N] w fun e w' => ∃ a' l c', e = .returned (.slice a' l c') ∧ Owns 2 w' w.heap.size a' l c' (M.left fs rs (M.root N) (M.lst N)) ∧ Below w.heap.size w w' := by
  have hb16 := M.rowsN_pos h
  have hg := (M.el_iff _).1 (M.root_el (M.two64_two (M.rowsN_two h)))
  have CR := specRoot_any N
  have CT : Hid (∀ (W : World), Sees W fa fl fc fs → Calls Tryz.prog 101 #[.slice fa fl fc, .int .i64 (M.root N)] W fun e w' => ∃ a' l c', e = .returned (.slice a' l c') ∧ Owns 2 w' W.heap.size a' l c' (M.turn fs (M.root N)) ∧ Below W.heap.size W w') := fun W hW => l6Turn_any _ W hW af (by omega) hg.1 hg.2
  have CPw : ∀ W, Calls Tryz.prog 57 #[.int .i64 (M.root N), .int .i64 ((N : Int) - 1)] W fun e w' => e = .returned (.int .i64 (M.lst N)) ∧ w' = W := fun W => by
    have := specPow_in (M.root N) (N - 1) W hg.1 hg.2 (by omega)
    rw [show ((N - 1 : Nat) : Int) = (N : Int) - 1 by omega] at this
    exact this
  have CS : ∀ W, Calls Tryz.prog 61 #[.int .i64 0, .int .i64 (M.lst N)] W fun e w' => e = .returned (.int .i64 (M.sub 0 (M.lst N))) ∧ w' = W := fun W => specSub_any _ _ W
  have hls := (M.el_iff _).1 (M.el_lst N)
  have hsb : 0 ≤ M.sub 0 (M.lst N) ∧ M.sub 0 (M.lst N) < 65537 := by rw [M.sub_in (by decide) (M.el_lst N)]; omega
  have HTl : Hid ((M.turn fs (M.root N)).length ≤ 100) := by have h1 := M.len_turn fs (M.root N); have h2 := hf.len; show _ ≤ _; omega
  have HTa : Hid (M.allEl (M.turn fs (M.root N)) = true) := M.all_turn _ _
  have HF : Hid (Sees w fa fl fc fs) := hf
  have HR : Hid (Sees w ra rl rc rs) := hr
  have HRa : Hid (M.allEl rs = true) := ar
  have HRn : Hid (rs.length ≤ 400) := by show _ ≤ _; rw [hr.len]; exact lr
  unfold M.left
  generalize M.turn fs (M.root N) = T at CT HTl HTa
  generalize M.root N = g at CR CT CPw
  generalize M.lst N = la at CPw CS hsb
  generalize M.sub 0 la = sb at CS hsb
  have hN16 : (N : Int) ≤ 16 := by omega
  have hN2 : (2 : Int) ≤ (N : Int) := by omega
  have hNw : IntKind.i64.wrap ((N : Int) - 1) = (N : Int) - 1 := by rw [IntKind.wrap_i64]; omega
  clear h hf hr af ar hg hls hb16
  go_enter Tryz.func48, Tryz.ntmps48
  go_wp2_with fail
  refine (CR _).mono ?_
  rintro e w ⟨rfl, rfl⟩
  go_wp2_with fail
  refine (CT.out _ HF.out).mono ?_
  rintro e w1 ⟨ta, tl, tc, rfl, ho1, hb1⟩
  have HT1 : Hid (Owns 2 w1 w.heap.size ta tl tc T) := ho1
  have htl : tl ≤ 100 := by have h1 := ho1.len; have h2 := HTl.out; omega
  have HB1 : Hid (Below w.heap.size w w1) := hb1
  clear ho1 hb1
  go_wp2_with fail
  refine (scale_any 65536 _ (HR.out.below HB1.out) HRa.out (by omega) (by omega) (by omega)).mono ?_
  rintro e w2 ⟨ka, kl, kc, rfl, ho2, hb2⟩
  have HK2 : Hid (Owns 2 w2 w1.heap.size ka kl kc (M.trim (M.pscale rs 65536))) := ho2
  have hkl : kl ≤ 400 := by have h1 := ho2.len; have h2 := M.len_pscale_trim rs 65536; have h3 := HRn.out; omega
  have HT2 : Hid (Sees w2 ta tl tc T) := HT1.out.sees.below hb2
  have HB2 : Hid (Below w.heap.size w w2) := HB1.out.trans (hb2.mono HB1.out.size)
  clear ho2 hb2 HT1
  go_wp2_with fail
  refine (l2Add_any _ HT2.out HK2.out.sees HTa.out (M.all_trim (M.all_pscale _ _)) (by omega) (by omega)).mono ?_
  rintro e w3 ⟨na, nl, nc, rfl, ho3, hb3⟩
  have HN3 : Hid (Owns 2 w3 w2.heap.size na nl nc (M.trim (M.padd T (M.trim (M.pscale rs 65536))))) := ho3
  have hnl : nl ≤ 400 := by have h1 := ho3.len; have h2 := M.len_padd_trim T (M.trim (M.pscale rs 65536)); have h3 := HK2.out.len; have h4 := HT2.out.len; omega
  have HB3 : Hid (Below w.heap.size w w3) := HB2.out.trans (hb3.mono HB2.out.size)
  clear ho3 hb3 HT2 HK2
  go_wp2_with fail
  refine (CPw _).mono ?_
  rintro e w3 ⟨rfl, rfl⟩
  go_wp2_with fail
  refine (CS _).mono ?_
  rintro e w3 ⟨rfl, rfl⟩
  have HS4 : Hid (Sees (w3.alloc (.cells #[Value.int .i64 sb, Value.int .i64 1] 2)) (some ⟨w3.heap.size, 0, none⟩) 2 2 [sb, 1]) := seesA_two w3 sb 1 _
  have HBA : Hid (Below w3.heap.size w3 (w3.alloc (.cells #[Value.int .i64 sb, Value.int .i64 1] 2))) := (Below.refl _ _).alloc (Nat.le_refl _) _
  have HSA : Hid (M.allEl [sb, 1] = true) := M.all_cons ⟨hsb.1, hsb.2⟩ (M.all_cons ⟨by omega, by omega⟩ rfl)
  go_wp2_with fail
  refine (l2Mul_any _ (HN3.out.sees.below HBA.out) HS4.out (M.all_trim (M.all_padd _ _)) HSA.out (by omega) (by omega)).mono ?_
  rintro e w5 ⟨oa, ol, oc, rfl, ho5, hb5⟩
  have HO5 : Hid (Owns 2 w5 w.heap.size oa ol oc (M.pmul (M.trim (M.padd T (M.trim (M.pscale rs 65536)))) [sb, 1])) := ho5.mono (Nat.le_trans HB3.out.size HBA.out.size)
  have HB5 : Hid (Below w.heap.size w w5) := HB3.out.trans ((HBA.out.trans (hb5.mono HBA.out.size)).mono HB3.out.size)
  clear ho5 hb5
  go_wp2
  go_ret
  exact ⟨oa, ol, oc, rfl, HO5.out, HB5.out⟩
end Go.Proofs.YtbcfjbkmkknmfaaGreatDoor
namespace Go.Proofs.YtbcfjbkmkknmfaaGreatDoor
open Go.RowKit

set_option maxHeartbeats 4000000 in
set_option maxRecDepth 10000 in
theorem specProved_out (m : M.Mc) (s : Int × Int) (n : Int) (w : World) (h : M.provOk m s n = false) :
    Calls Tryz.prog 10 #[mcv m, stv s, .int .i64 n] w fun e w' => e = .returned (.tuple #[.agg #[.int .i64 0, .int .i64 0, .int .i64 0, .int .i64 0, .slice none 0 0, .slice none 0 0, .slice none 0 0, .slice none 0 0], .bool false]) ∧ Below w.heap.size w w' := by
  have C1 := specMachineOk_any m
  have C2 := specStateOk_any s
  have C3 := l6Rows_any n
  have hno := M.provOk_no h
  clear h
  obtain ⟨⟨a, b, c, d, f, k⟩, ⟨a', b', c', d', f', k'⟩⟩ := m
  obtain ⟨x, y⟩ := s
  dsimp only [mcv, stv] at C1 C2 ⊢
  generalize M.Mc.ok ⟨⟨a, b, c, d, f, k⟩, ⟨a', b', c', d', f', k'⟩⟩ = o1 at C1 hno
  generalize M.sOk (x, y) = o2 at C2 hno
  generalize M.rows n = o3 at C3 hno
  have HS0 : Hid (Lies (((w.alloc (.cells #[.int .i64 a, .int .i64 b, .int .i64 c, .int .i64 d, .int .i64 f, .int .i64 k, .int .i64 a', .int .i64 b', .int .i64 c', .int .i64 d', .int .i64 f', .int .i64 k'] 27)).alloc (.cells #[.int .i64 x, .int .i64 y] 29)).alloc (.cells #[.int .i64 0, .int .i64 0, .int .i64 0, .int .i64 0, .slice none 0 0, .slice none 0 0, .slice none 0 0, .slice none 0 0] 34)) (w.heap.size + 1) [.int .i64 x, .int .i64 y]) := (lies_new2 _ _ _ _).alloc _
  have HZ0 : Hid (Lies (((w.alloc (.cells #[.int .i64 a, .int .i64 b, .int .i64 c, .int .i64 d, .int .i64 f, .int .i64 k, .int .i64 a', .int .i64 b', .int .i64 c', .int .i64 d', .int .i64 f', .int .i64 k'] 27)).alloc (.cells #[.int .i64 x, .int .i64 y] 29)).alloc (.cells #[.int .i64 0, .int .i64 0, .int .i64 0, .int .i64 0, .slice none 0 0, .slice none 0 0, .slice none 0 0, .slice none 0 0] 34)) (w.heap.size + 1 + 1) [.int .i64 0, .int .i64 0, .int .i64 0, .int .i64 0, .slice none 0 0, .slice none 0 0, .slice none 0 0, .slice none 0 0]) := lies_new3 _ _ _ _ _
  have HB0 : Hid (Below w.heap.size w (((w.alloc (.cells #[.int .i64 a, .int .i64 b, .int .i64 c, .int .i64 d, .int .i64 f, .int .i64 k, .int .i64 a', .int .i64 b', .int .i64 c', .int .i64 d', .int .i64 f', .int .i64 k'] 27)).alloc (.cells #[.int .i64 x, .int .i64 y] 29)).alloc (.cells #[.int .i64 0, .int .i64 0, .int .i64 0, .int .i64 0, .slice none 0 0, .slice none 0 0, .slice none 0 0, .slice none 0 0] 34))) := (((Below.refl _ _).alloc (Nat.le_refl _) _).alloc (by simp) _).alloc (by simp; omega) _
  go_enter Tryz.func10, Tryz.ntmps10
  go_wp2_with fail
  refine (C1 _).mono ?_
  rintro e w1 ⟨rfl, hb1⟩
  have HS1 : Hid (Lies w1 (w.heap.size + 1) [.int .i64 x, .int .i64 y]) := HS0.out.belowS hb1
  have HZ1 : Hid (Lies w1 (w.heap.size + 1 + 1) [.int .i64 0, .int .i64 0, .int .i64 0, .int .i64 0, .slice none 0 0, .slice none 0 0, .slice none 0 0, .slice none 0 0]) := HZ0.out.belowS hb1
  have HB1 : Hid (Below w.heap.size w w1) := HB0.out.trans (hb1.mono HB0.out.size)
  have s0 : w1.cell? ⟨w.heap.size + 1, 0, none⟩ = some (.int .i64 x) := HS1.out.at 0
  have s1 : w1.cell? ⟨w.heap.size + 1, 1, none⟩ = some (.int .i64 y) := HS1.out.at 1
  clear hb1 HS0 HZ0 HB0 C1
  rcases hno with rfl | ⟨rfl, rfl⟩ | ⟨rfl, rfl, rfl⟩
  · have HZT : Hid (w1.there (w.heap.size + 1 + 1) 0 8) := HZ1.out.there 0 8 (by simp)
    have HZ4 : Hid (Lies (w1.setCells (w.heap.size + 1 + 1) 0 [.int .i64 0, .int .i64 0, .int .i64 0, .int .i64 0, .slice none 0 0, .slice none 0 0, .slice none 0 0, .slice none 0 0]) (w.heap.size + 1 + 1) [.int .i64 0, .int .i64 0, .int .i64 0, .int .i64 0, .slice none 0 0, .slice none 0 0, .slice none 0 0, .slice none 0 0]) := HZ1.out.setCells [.int .i64 0, .int .i64 0, .int .i64 0, .int .i64 0, .slice none 0 0, .slice none 0 0, .slice none 0 0, .slice none 0 0] 0 (by simp)
    have HB4 : Hid (Below w.heap.size w (w1.setCells (w.heap.size + 1 + 1) 0 [.int .i64 0, .int .i64 0, .int .i64 0, .int .i64 0, .slice none 0 0, .slice none 0 0, .slice none 0 0, .slice none 0 0])) := below_setCells _ 0 HB1.out (by omega)
    go_wp2_with (with_reducible refine wpList_stopn ?_ ?_; rfl)
    show wpList _ _ _ _ _ _
    with_reducible refine wpList_store_mid ?_ 34 (.tmp 6) (.tmp 33) ?_ (w.heap.size + 1 + 1) 0 ([.int .i64 0, .int .i64 0, .int .i64 0, .int .i64 0, .slice none 0 0, .slice none 0 0, .slice none 0 0, .slice none 0 0]).toArray ?_ ?_ ?_ (by kernel_rfl) (by kernel_rfl) ?_
    · exact rfl
    · exact rfl
    · exact rfl
    · exact rfl
    · exact HZT.out
    generalize w1.setCells (w.heap.size + 1 + 1) 0 [.int .i64 0, .int .i64 0, .int .i64 0, .int .i64 0, .slice none 0 0, .slice none 0 0, .slice none 0 0, .slice none 0 0] = wz at HZ4 HB4 ⊢
    go_wp2
    exact bodyPost_ret (results_cell_tmp rfl rfl (run_loadVar_mid wz (w.heap.size + 1 + 1) 0 34 _ _ HZ4.out.row Tryz.underlying34 rfl (by kernel_rfl))) rfl ⟨rfl, HB4.out⟩
  · go_wp2_with fail
    refine (C2 _).mono ?_
    rintro e w2 ⟨rfl, hb2⟩
    have HZ2 : Hid (Lies w2 (w.heap.size + 1 + 1) [.int .i64 0, .int .i64 0, .int .i64 0, .int .i64 0, .slice none 0 0, .slice none 0 0, .slice none 0 0, .slice none 0 0]) := HZ1.out.belowS hb2
    have HB2 : Hid (Below w.heap.size w w2) := HB1.out.trans (hb2.mono HB1.out.size)
    clear hb2 s0 s1 HS1 HZ1 HB1
    have HZT : Hid (w2.there (w.heap.size + 1 + 1) 0 8) := HZ2.out.there 0 8 (by simp)
    have HZ4 : Hid (Lies (w2.setCells (w.heap.size + 1 + 1) 0 [.int .i64 0, .int .i64 0, .int .i64 0, .int .i64 0, .slice none 0 0, .slice none 0 0, .slice none 0 0, .slice none 0 0]) (w.heap.size + 1 + 1) [.int .i64 0, .int .i64 0, .int .i64 0, .int .i64 0, .slice none 0 0, .slice none 0 0, .slice none 0 0, .slice none 0 0]) := HZ2.out.setCells [.int .i64 0, .int .i64 0, .int .i64 0, .int .i64 0, .slice none 0 0, .slice none 0 0, .slice none 0 0, .slice none 0 0] 0 (by simp)
    have HB4 : Hid (Below w.heap.size w (w2.setCells (w.heap.size + 1 + 1) 0 [.int .i64 0, .int .i64 0, .int .i64 0, .int .i64 0, .slice none 0 0, .slice none 0 0, .slice none 0 0, .slice none 0 0])) := below_setCells _ 0 HB2.out (by omega)
    go_wp2_with (with_reducible refine wpList_stopn ?_ ?_; rfl)
    show wpList _ _ _ _ _ _
    with_reducible refine wpList_store_mid ?_ 34 (.tmp 6) (.tmp 33) ?_ (w.heap.size + 1 + 1) 0 ([.int .i64 0, .int .i64 0, .int .i64 0, .int .i64 0, .slice none 0 0, .slice none 0 0, .slice none 0 0, .slice none 0 0]).toArray ?_ ?_ ?_ (by kernel_rfl) (by kernel_rfl) ?_
    · exact rfl
    · exact rfl
    · exact rfl
    · exact rfl
    · exact HZT.out
    generalize w2.setCells (w.heap.size + 1 + 1) 0 [.int .i64 0, .int .i64 0, .int .i64 0, .int .i64 0, .slice none 0 0, .slice none 0 0, .slice none 0 0, .slice none 0 0] = wz at HZ4 HB4 ⊢
    go_wp2
    exact bodyPost_ret (results_cell_tmp rfl rfl (run_loadVar_mid wz (w.heap.size + 1 + 1) 0 34 _ _ HZ4.out.row Tryz.underlying34 rfl (by kernel_rfl))) rfl ⟨rfl, HB4.out⟩
  · go_wp2_with fail
    refine (C2 _).mono ?_
    rintro e w2 ⟨rfl, hb2⟩
    have HZ2 : Hid (Lies w2 (w.heap.size + 1 + 1) [.int .i64 0, .int .i64 0, .int .i64 0, .int .i64 0, .slice none 0 0, .slice none 0 0, .slice none 0 0, .slice none 0 0]) := HZ1.out.belowS hb2
    have HB2 : Hid (Below w.heap.size w w2) := HB1.out.trans (hb2.mono HB1.out.size)
    clear hb2 s0 s1 HS1 HZ1 HB1
    go_wp2_with fail
    refine (C3 _).mono ?_
    rintro e w2 ⟨rfl, rfl⟩
    have HZT : Hid (w2.there (w.heap.size + 1 + 1) 0 8) := HZ2.out.there 0 8 (by simp)
    have HZ4 : Hid (Lies (w2.setCells (w.heap.size + 1 + 1) 0 [.int .i64 0, .int .i64 0, .int .i64 0, .int .i64 0, .slice none 0 0, .slice none 0 0, .slice none 0 0, .slice none 0 0]) (w.heap.size + 1 + 1) [.int .i64 0, .int .i64 0, .int .i64 0, .int .i64 0, .slice none 0 0, .slice none 0 0, .slice none 0 0, .slice none 0 0]) := HZ2.out.setCells [.int .i64 0, .int .i64 0, .int .i64 0, .int .i64 0, .slice none 0 0, .slice none 0 0, .slice none 0 0, .slice none 0 0] 0 (by simp)
    have HB4 : Hid (Below w.heap.size w (w2.setCells (w.heap.size + 1 + 1) 0 [.int .i64 0, .int .i64 0, .int .i64 0, .int .i64 0, .slice none 0 0, .slice none 0 0, .slice none 0 0, .slice none 0 0])) := below_setCells _ 0 HB2.out (by omega)
    go_wp2_with (with_reducible refine wpList_stopn ?_ ?_; rfl)
    show wpList _ _ _ _ _ _
    with_reducible refine wpList_store_mid ?_ 34 (.tmp 6) (.tmp 33) ?_ (w.heap.size + 1 + 1) 0 ([.int .i64 0, .int .i64 0, .int .i64 0, .int .i64 0, .slice none 0 0, .slice none 0 0, .slice none 0 0, .slice none 0 0]).toArray ?_ ?_ ?_ (by kernel_rfl) (by kernel_rfl) ?_
    · exact rfl
    · exact rfl
    · exact rfl
    · exact rfl
    · exact HZT.out
    generalize w2.setCells (w.heap.size + 1 + 1) 0 [.int .i64 0, .int .i64 0, .int .i64 0, .int .i64 0, .slice none 0 0, .slice none 0 0, .slice none 0 0, .slice none 0 0] = wz at HZ4 HB4 ⊢
    go_wp2
    exact bodyPost_ret (results_cell_tmp rfl rfl (run_loadVar_mid wz (w.heap.size + 1 + 1) 0 34 _ _ HZ4.out.row Tryz.underlying34 rfl (by kernel_rfl))) rfl ⟨rfl, HB4.out⟩
end Go.Proofs.YtbcfjbkmkknmfaaGreatDoor
namespace Go.Proofs.YtbcfjbkmkknmfaaGreatDoor
open Go.RowKit

theorem l2Divide_any {a b : Option Addr} {n m c d : Nat} {zs ys : List Int} (w : World) (hz : Sees w a n c zs) (hy : Sees w b m d ys) (ha : M.allEl zs = true) (hb : M.allEl ys = true) (nz : M.neat zs) (ny : M.neat ys) (hn : n ≤ 128) (hm : m ≤ 128) (h1 : 0 < m) :
    Calls Tryz.prog 47 #[.slice a n c, .slice b m d] w fun e w' => ∃ a1 l1 c1 a2 l2 c2 q r, e = .returned (.tuple #[.slice a1 l1 c1, .slice a2 l2 c2]) ∧ Owns 2 w' w.heap.size a1 l1 c1 q ∧ Owns 2 w' w.heap.size a2 l2 c2 r ∧ M.Div zs ys q r ∧ (∀ x y, a1 = some x → a2 = some y → x.block ≠ y.block) ∧ Below w.heap.size w w' := by
  by_cases h : m ≤ n
  · exact l2Divide_long w hz hy ha hb ny hn h1 h
  · exact l2Divide_short w hz hy ha nz hn hm h1 (by omega)
theorem far_atN {a b : Option Addr} {n c m d s : Nat} {pb : Nat} (h : (Value.slice b m d).ownBlock = (Value.slice a n c).ownBlock ∨ (Value.slice b m d).ownBlock = some s) (hp : pb < s) (hv : ∀ y, a = some y → y.block ≠ pb) : ∀ y, b = some y → y.block ≠ pb := by
  refine own_some (b := pb) (n := m) (c := d) ?_
  rcases h with e | e
  · rw [e]; exact own_none hv
  · rw [e]; intro e2; injection e2 with e3; omega
theorem M.fsts_take {ps : List (Int × Int)} {k : Nat} (h : k = ps.length) : (M.fsts ps).take k = M.fsts ps := List.take_of_length_le (by rw [M.fsts_len]; omega)
theorem M.snds_take {ps : List (Int × Int)} {k : Nat} (h : k = ps.length) : (M.snds ps).take k = M.snds ps := List.take_of_length_le (by rw [M.snds_len]; omega)
set_option maxHeartbeats 8000000 in
set_option maxRecDepth 10000 in
theorem specProved_in (m : M.Mc) (s : Int × Int) (N : Nat) (w : World) (hm : m.ok = true) (hs : M.sOk s = true) (h : M.rowsN N = true) :
    Calls Tryz.prog 10 #[mcv m, stv s, .int .i64 N] w fun e w' => ∃ (xa : Option Addr) (xc : Nat) (ya : Option Addr) (yc : Nat) (qxa : Option Addr) (qxc : Nat) (qya : Option Addr) (qyc : Nat), e = .returned (.tuple #[.agg #[.int .i64 s.1, .int .i64 s.2, .int .i64 (m.rn s (N - 1)).1, .int .i64 (m.rn s (N - 1)).2, .slice xa (4 * N) xc, .slice ya (4 * N) yc, .slice qxa (4 * N) qxc, .slice qya (4 * N) qyc], .bool true]) ∧
      (Owns 2 w' w.heap.size xa (4 * N) xc (m.pf s N).X ∧ Owns 2 w' w.heap.size ya (4 * N) yc (m.pf s N).Y ∧ Owns 2 w' w.heap.size qxa (4 * N) qxc (m.pf s N).QX ∧ Owns 2 w' w.heap.size qya (4 * N) qyc (m.pf s N).QY) ∧ (far xa ya ∧ far xa qxa ∧ far xa qya ∧ far ya qxa ∧ far ya qya ∧ far qxa qya) ∧ Below w.heap.size w w' := by
  have hb16 := M.rowsN_pos h
  obtain ⟨K, hK⟩ : ∃ K : Nat, K = 4 * N := ⟨_, rfl⟩
  have hK4 : K ≤ 64 := by omega
  have C1 : ∀ W, Calls Tryz.prog 42 #[mcv m] W fun e w' => e = .returned (.bool true) ∧ Below W.heap.size W w' := fun W => by rw [← hm]; exact specMachineOk_any m W
  have C2 : ∀ W, Calls Tryz.prog 43 #[stv s] W fun e w' => e = .returned (.bool true) ∧ Below W.heap.size W w' := fun W => by rw [← hs]; exact specStateOk_any s W
  have C3 : ∀ W, Calls Tryz.prog 44 #[.int .i64 N] W fun e w' => e = .returned (.bool true) ∧ w' = W := fun W => by rw [← M.rowsI_of h]; exact l6Rows_any N W
  have hro : M.runOk m s ((N : Int) - 1) = true := M.runOk_mk hm hs (by omega) (by omega)
  have C4 : ∀ W, Calls Tryz.prog 45 #[mcv m, stv s, .int .i64 ((N : Int) - 1)] W fun e w' => ∃ a cap, e = .returned (.tuple #[.slice a N cap, .bool true]) ∧ OwnsQ 29 w' W.heap.size a N cap (m.run s (N - 1)) ∧ Below W.heap.size W w' := fun W => (specRunOf_any m s ((N : Int) - 1) W).mono fun e w' ⟨a, l, cap, h1, h2, h3, h4⟩ => by
    rw [hro] at h1
    rw [M.runv_in hro, show ((N : Int) - 1).toNat = N - 1 by omega] at h3
    have hl : l = N := by have := h3.1; rw [M.run_len] at this; omega
    subst hl
    exact ⟨a, cap, h1, h3, h4⟩
  have C5 : Hid (∀ (W : World) {a : Option Addr} {c : Nat}, Sees W a N c (M.fsts (m.run s (N - 1))) → Calls Tryz.prog 46 #[.slice a N c, .int .i64 1] W fun e w' => ∃ a' l c', e = .returned (.slice a' l c') ∧ Owns 2 w' W.heap.size a' l c' (M.fx m s N) ∧ Below W.heap.size W w') := fun W _ _ hW => by
    rw [M.run_fsts m s (by omega)] at hW
    exact l3From_any 1 W hW (M.xsR_all hs N) (M.row_pt (M.rowsN_two h))
  have C6 : Hid (∀ (W : World) {a : Option Addr} {c : Nat}, Sees W a N c (M.snds (m.run s (N - 1))) → Calls Tryz.prog 46 #[.slice a N c, .int .i64 1] W fun e w' => ∃ a' l c', e = .returned (.slice a' l c') ∧ Owns 2 w' W.heap.size a' l c' (M.fy m s N) ∧ Below W.heap.size W w') := fun W _ _ hW => by
    rw [M.run_snds m s (by omega)] at hW
    exact l3From_any 1 W hW (M.ysR_all hs N) (M.row_pt (M.rowsN_two h))
  have ht := M.thru_f m hs h
  obtain ⟨hLX, hLY⟩ := M.left_rows ht
  obtain ⟨hmX, hmY⟩ : m.X.ok = true ∧ m.Y.ok = true := by unfold M.Mc.ok at hm; simpa using hm
  have HXl : Hid ((M.fx m s N).length ≤ N) := ht.lx
  have HYl : Hid ((M.fy m s N).length ≤ N) := ht.ly
  have lrX := M.len_rl m.X (by omega) ht.lx ht.ly
  have lrY := M.len_rl m.Y (by omega) ht.lx ht.ly
  have R1 : Hid (∀ (W : World) {a b : Option Addr} {n c p d : Nat}, Sees W a n c (M.fx m s N) → Sees W b p d (M.fy m s N) → Calls Tryz.prog 49 #[rlv m.X, .slice a n c, .slice b p d] W fun e w' => ∃ a' l c', e = .returned (.slice a' l c') ∧ l ≤ 301 ∧ Owns 2 w' W.heap.size a' l c' (M.rl m.X (M.fx m s N) (M.fy m s N)) ∧ Below W.heap.size W w') := fun W _ _ _ _ _ _ h1 h2 => l6Rule_any m.X W hmX h1 h2 ht.ax ht.ay (by have := h1.len; have := ht.lx; omega) (by have := h2.len; have := ht.ly; omega)
  have R2 : Hid (∀ (W : World) {a b : Option Addr} {n c p d : Nat}, Sees W a n c (M.fx m s N) → Sees W b p d (M.fy m s N) → Calls Tryz.prog 49 #[rlv m.Y, .slice a n c, .slice b p d] W fun e w' => ∃ a' l c', e = .returned (.slice a' l c') ∧ l ≤ 301 ∧ Owns 2 w' W.heap.size a' l c' (M.rl m.Y (M.fx m s N) (M.fy m s N)) ∧ Below W.heap.size W w') := fun W _ _ _ _ _ _ h1 h2 => l6Rule_any m.Y W hmY h1 h2 ht.ax ht.ay (by have := h1.len; have := ht.lx; omega) (by have := h2.len; have := ht.ly; omega)
  have E1 : Hid (∀ (W : World) {a b : Option Addr} {n c p d : Nat}, Sees W a n c (M.fx m s N) → Sees W b p d (M.rl m.X (M.fx m s N) (M.fy m s N)) → Calls Tryz.prog 48 #[.slice a n c, .slice b p d, .int .i64 N] W fun e w' => ∃ a' l c', e = .returned (.slice a' l c') ∧ Owns 2 w' W.heap.size a' l c' (M.left (M.fx m s N) (M.rl m.X (M.fx m s N) (M.fy m s N)) (M.root N) (M.lst N)) ∧ Below W.heap.size W w') := fun W _ _ _ _ _ _ h1 h2 => l6Left_any N W h h1 h2 ht.ax (M.all_rl _ _ _) (by have := h1.len; have := ht.lx; omega) (by have := h2.len; omega)
  have E2 : Hid (∀ (W : World) {a b : Option Addr} {n c p d : Nat}, Sees W a n c (M.fy m s N) → Sees W b p d (M.rl m.Y (M.fx m s N) (M.fy m s N)) → Calls Tryz.prog 48 #[.slice a n c, .slice b p d, .int .i64 N] W fun e w' => ∃ a' l c', e = .returned (.slice a' l c') ∧ Owns 2 w' W.heap.size a' l c' (M.left (M.fy m s N) (M.rl m.Y (M.fx m s N) (M.fy m s N)) (M.root N) (M.lst N)) ∧ Below W.heap.size W w') := fun W _ _ _ _ _ _ h1 h2 => l6Left_any N W h h1 h2 ht.ay (M.all_rl _ _ _) (by have := h1.len; have := ht.ly; omega) (by have := h2.len; omega)
  have Z1 := fun W => l6Zero_any N W (by omega) (by omega)
  have lfX := M.len_left (g := M.root N) (last := M.lst N) (by omega) ht.lx lrX
  have lfY := M.len_left (g := M.root N) (last := M.lst N) (by omega) ht.ly lrY
  have D1 : Hid (∀ (W : World) {a b : Option Addr} {n c d : Nat}, Sees W a n c (M.left (M.fx m s N) (M.rl m.X (M.fx m s N) (M.fy m s N)) (M.root N) (M.lst N)) → Sees W b (N + 1) d (M.zeroL N) → Calls Tryz.prog 47 #[.slice a n c, .slice b (N + 1) d] W fun e w' => ∃ a1 l1 c1 a2 l2 c2 q, e = .returned (.tuple #[.slice a1 l1 c1, .slice a2 l2 c2]) ∧ Owns 2 w' W.heap.size a1 l1 c1 q ∧ (M.wide q N = (m.pf s N).QX ∧ M.allEl q = true) ∧ Below W.heap.size W w') := fun W _ _ _ _ _ h1 h2 => (l2Divide_any W h1 h2 (M.all_left _ _ _ _) (M.zeroL_all (by omega)) (M.neat_left _ _ _ _) (M.zeroL_neat (by omega)) (by have := h1.len; omega) (by omega) (by omega)).mono fun e w' ⟨a1, l1, c1, a2, l2, c2, q, r, g1, g2, _, g4, _, g6⟩ => ⟨a1, l1, c1, a2, l2, c2, q, g1, g2, ⟨M.quo_div h hLX g4, g4.aq⟩, g6⟩
  have D2 : Hid (∀ (W : World) {a b : Option Addr} {n c d : Nat}, Sees W a n c (M.left (M.fy m s N) (M.rl m.Y (M.fx m s N) (M.fy m s N)) (M.root N) (M.lst N)) → Sees W b (N + 1) d (M.zeroL N) → Calls Tryz.prog 47 #[.slice a n c, .slice b (N + 1) d] W fun e w' => ∃ a1 l1 c1 a2 l2 c2 q, e = .returned (.tuple #[.slice a1 l1 c1, .slice a2 l2 c2]) ∧ Owns 2 w' W.heap.size a1 l1 c1 q ∧ (M.wide q N = (m.pf s N).QY ∧ M.allEl q = true) ∧ Below W.heap.size W w') := fun W _ _ _ _ _ h1 h2 => (l2Divide_any W h1 h2 (M.all_left _ _ _ _) (M.zeroL_all (by omega)) (M.neat_left _ _ _ _) (M.zeroL_neat (by omega)) (by have := h1.len; omega) (by omega) (by omega)).mono fun e w' ⟨a1, l1, c1, a2, l2, c2, q, r, g1, g2, _, g4, _, g6⟩ => ⟨a1, l1, c1, a2, l2, c2, q, g1, g2, ⟨M.quo_div h hLY g4, g4.aq⟩, g6⟩
  have EV : Hid (∀ (W : World) {a : Option Addr} {n c : Nat} {q P : List Int}, Sees W a n c q → M.allEl q = true → M.wide q N = P → Calls Tryz.prog 51 #[.slice a n c, .int .i64 (4 * N : Nat), .int .i64 3] W fun e w' => ∃ a' c', e = .returned (.slice a' (4 * N) c') ∧ Owns 2 w' W.heap.size a' (4 * N) c' P ∧ Below W.heap.size W w') := fun W _ _ _ _ _ h1 h2 h3 => by
    subst h3; exact l3Evals_any (4 * N) 3 W h1 h2 (M.rowsN_pt h)
  have CV1 : Hid (∀ (W : World) {a : Option Addr} {n c : Nat}, Sees W a n c (M.fx m s N) → Calls Tryz.prog 51 #[.slice a n c, .int .i64 (4 * N : Nat), .int .i64 3] W fun e w' => ∃ a' c', e = .returned (.slice a' (4 * N) c') ∧ Owns 2 w' W.heap.size a' (4 * N) c' (m.pf s N).X ∧ Below W.heap.size W w') := fun W _ _ _ h1 => EV.out W h1 ht.ax rfl
  have CV2 : Hid (∀ (W : World) {a : Option Addr} {n c : Nat}, Sees W a n c (M.fy m s N) → Calls Tryz.prog 51 #[.slice a n c, .int .i64 (4 * N : Nat), .int .i64 3] W fun e w' => ∃ a' c', e = .returned (.slice a' (4 * N) c') ∧ Owns 2 w' W.heap.size a' (4 * N) c' (m.pf s N).Y ∧ Below W.heap.size W w') := fun W _ _ _ h1 => EV.out W h1 ht.ay rfl
  have HLast : Hid ((m.run s (N - 1)).getD (N - 1) (0, 0) = m.rn s (N - 1)) := M.run_getD m s (Nat.le_refl _)
  have HF0 : Hid (∀ k, k < N → (M.fsts (m.run s (N - 1))).take k ++ [((m.run s (N - 1)).getD k (0, 0)).1] = (M.fsts (m.run s (N - 1))).take (k + 1)) := fun k hk => M.fsts_snoc _ (by rw [M.run_len]; omega)
  have HG0 : Hid (∀ k, k < N → (M.snds (m.run s (N - 1))).take k ++ [((m.run s (N - 1)).getD k (0, 0)).2] = (M.snds (m.run s (N - 1))).take (k + 1)) := fun k hk => M.snds_snoc _ (by rw [M.run_len]; omega)
  have HFN : Hid ((M.fsts (m.run s (N - 1))).take N = M.fsts (m.run s (N - 1))) := M.fsts_take (by rw [M.run_len]; omega)
  have HGN : Hid ((M.snds (m.run s (N - 1))).take N = M.snds (m.run s (N - 1))) := M.snds_take (by rw [M.run_len]; omega)
  simp only [← hK] at EV CV1 CV2 ⊢
  generalize (m.pf s N).X = VX at CV1 ⊢
  generalize (m.pf s N).Y = VY at CV2 ⊢
  generalize (m.pf s N).QX = QX at D1 ⊢
  generalize (m.pf s N).QY = QY at D2 ⊢
  generalize M.left (M.fx m s N) (M.rl m.X (M.fx m s N) (M.fy m s N)) (M.root N) (M.lst N) = LX at E1 D1
  generalize M.left (M.fy m s N) (M.rl m.Y (M.fx m s N) (M.fy m s N)) (M.root N) (M.lst N) = LY at E2 D2
  generalize M.rl m.X (M.fx m s N) (M.fy m s N) = RX at R1 E1
  generalize M.rl m.Y (M.fx m s N) (M.fy m s N) = RY at R2 E2
  generalize M.zeroL N = ZL at Z1 D1 D2
  generalize M.fx m s N = FX at C5 R1 R2 E1 CV1 HXl
  generalize M.fy m s N = FY at C6 R1 R2 E2 CV2 HYl
  generalize M.fsts (m.run s (N - 1)) = FSx at C5 HF0 HFN
  generalize M.snds (m.run s (N - 1)) = GS at C6 HG0 HGN
  generalize m.run s (N - 1) = RN at C4 HLast HF0 HG0
  generalize m.rn s (N - 1) = en at HLast ⊢
  have hNw : IntKind.i64.wrap ((N : Int) - 1) = (N : Int) - 1 := by rw [IntKind.wrap_i64]; omega
  have hKw : IntKind.i64.wrap (4 * (N : Int)) = (K : Int) := by rw [IntKind.wrap_i64]; omega
  have hK4i : 4 * (N : Int) = (K : Int) := by omega
  have hNb : (N : Int) ≤ 16 := by omega
  have hNl : (2 : Int) ≤ (N : Int) := by omega
  have hK0 : 0 < K := by omega
  have hN0 : 0 < N := by omega
  have hi0 : (0 : Int) ≤ (N : Int) - 1 := by omega
  have hi2 : ¬ (N : Int) < 1 := by omega
  have hi1 : (N : Int) - 1 < (N : Int) := by omega
  have hNt : ((N : Int) - 1).toNat = N - 1 := by omega
  obtain ⟨i0, hi, hz0, hz1, hz2⟩ := info_parts info_i64
  have HI : Hid (Tryz.prog.info? 2 = some i0 ∧ i0.zero = some (Value.int .i64 0) ∧ i0.size = 1 ∧ i0.bytes = 8) := ⟨hi, hz0, hz1, hz2⟩
  obtain ⟨⟨a, b, c, d, f, k⟩, ⟨a', b', c', d', f', k'⟩⟩ := m
  obtain ⟨x, y⟩ := s
  obtain ⟨ex, ey⟩ := en
  dsimp only [mcv, stv, rlv] at C1 C2 C4 R1 R2 ⊢
  have HMa : Hid (Lies (((w.alloc (.cells #[.int .i64 a, .int .i64 b, .int .i64 c, .int .i64 d, .int .i64 f, .int .i64 k, .int .i64 a', .int .i64 b', .int .i64 c', .int .i64 d', .int .i64 f', .int .i64 k'] 27)).alloc (.cells #[.int .i64 x, .int .i64 y] 29)).alloc (.cells #[.int .i64 0, .int .i64 0, .int .i64 0, .int .i64 0, .slice none 0 0, .slice none 0 0, .slice none 0 0, .slice none 0 0] 34)) w.heap.size [.int .i64 a, .int .i64 b, .int .i64 c, .int .i64 d, .int .i64 f, .int .i64 k, .int .i64 a', .int .i64 b', .int .i64 c', .int .i64 d', .int .i64 f', .int .i64 k']) := ((lies_new _ _ _).alloc _).alloc _
  have HSt : Hid (Lies (((w.alloc (.cells #[.int .i64 a, .int .i64 b, .int .i64 c, .int .i64 d, .int .i64 f, .int .i64 k, .int .i64 a', .int .i64 b', .int .i64 c', .int .i64 d', .int .i64 f', .int .i64 k'] 27)).alloc (.cells #[.int .i64 x, .int .i64 y] 29)).alloc (.cells #[.int .i64 0, .int .i64 0, .int .i64 0, .int .i64 0, .slice none 0 0, .slice none 0 0, .slice none 0 0, .slice none 0 0] 34)) (w.heap.size + 1) [.int .i64 x, .int .i64 y]) := (lies_new2 _ _ _ _).alloc _
  have HZ : Hid (Lies (((w.alloc (.cells #[.int .i64 a, .int .i64 b, .int .i64 c, .int .i64 d, .int .i64 f, .int .i64 k, .int .i64 a', .int .i64 b', .int .i64 c', .int .i64 d', .int .i64 f', .int .i64 k'] 27)).alloc (.cells #[.int .i64 x, .int .i64 y] 29)).alloc (.cells #[.int .i64 0, .int .i64 0, .int .i64 0, .int .i64 0, .slice none 0 0, .slice none 0 0, .slice none 0 0, .slice none 0 0] 34)) (w.heap.size + 1 + 1) [.int .i64 0, .int .i64 0, .int .i64 0, .int .i64 0, .slice none 0 0, .slice none 0 0, .slice none 0 0, .slice none 0 0]) := lies_new3 _ _ _ _ _
  have HB : Hid (Below w.heap.size w (((w.alloc (.cells #[.int .i64 a, .int .i64 b, .int .i64 c, .int .i64 d, .int .i64 f, .int .i64 k, .int .i64 a', .int .i64 b', .int .i64 c', .int .i64 d', .int .i64 f', .int .i64 k'] 27)).alloc (.cells #[.int .i64 x, .int .i64 y] 29)).alloc (.cells #[.int .i64 0, .int .i64 0, .int .i64 0, .int .i64 0, .slice none 0 0, .slice none 0 0, .slice none 0 0, .slice none 0 0] 34))) := (((Below.refl _ _).alloc (Nat.le_refl _) _).alloc (by simp) _).alloc (by simp; omega) _
  clear hm hs h hK hi hz0 hz1 hz2 hro ht hLX hLY hmX hmY lrX lrY lfX lfY
  go_enter Tryz.func10, Tryz.ntmps10
  go_wp2_with fail
  refine (C1 _).mono ?_
  rintro e w1 ⟨rfl, hb1⟩
  have HMan : Hid (Lies w1 w.heap.size [.int .i64 a, .int .i64 b, .int .i64 c, .int .i64 d, .int .i64 f, .int .i64 k, .int .i64 a', .int .i64 b', .int .i64 c', .int .i64 d', .int .i64 f', .int .i64 k']) := HMa.out.belowS hb1
  have HStn : Hid (Lies w1 (w.heap.size + 1) [.int .i64 x, .int .i64 y]) := HSt.out.belowS hb1
  have HZn : Hid (Lies w1 (w.heap.size + 1 + 1) [.int .i64 0, .int .i64 0, .int .i64 0, .int .i64 0, .slice none 0 0, .slice none 0 0, .slice none 0 0, .slice none 0 0]) := HZ.out.belowS hb1
  clear HMa HSt HZ
  have HMa : Hid (Lies w1 w.heap.size [.int .i64 a, .int .i64 b, .int .i64 c, .int .i64 d, .int .i64 f, .int .i64 k, .int .i64 a', .int .i64 b', .int .i64 c', .int .i64 d', .int .i64 f', .int .i64 k']) := HMan.out
  have HSt : Hid (Lies w1 (w.heap.size + 1) [.int .i64 x, .int .i64 y]) := HStn.out
  have HZ : Hid (Lies w1 (w.heap.size + 1 + 1) [.int .i64 0, .int .i64 0, .int .i64 0, .int .i64 0, .slice none 0 0, .slice none 0 0, .slice none 0 0, .slice none 0 0]) := HZn.out
  clear HMan HStn HZn
  have HBn : Hid (Below w.heap.size w w1) := HB.out.trans (hb1.mono HB.out.size)
  clear HB
  have HB : Hid (Below w.heap.size w w1) := HBn.out
  clear HBn hb1
  have s0 : w1.cell? ⟨w.heap.size + 1, 0, none⟩ = some (.int .i64 x) := HSt.out.at 0
  have s1 : w1.cell? ⟨w.heap.size + 1, 1, none⟩ = some (.int .i64 y) := HSt.out.at 1
  go_wp2_with fail
  refine (C2 _).mono ?_
  rintro e w2 ⟨rfl, hb2⟩
  have HMan : Hid (Lies w2 w.heap.size [.int .i64 a, .int .i64 b, .int .i64 c, .int .i64 d, .int .i64 f, .int .i64 k, .int .i64 a', .int .i64 b', .int .i64 c', .int .i64 d', .int .i64 f', .int .i64 k']) := HMa.out.belowS hb2
  have HStn : Hid (Lies w2 (w.heap.size + 1) [.int .i64 x, .int .i64 y]) := HSt.out.belowS hb2
  have HZn : Hid (Lies w2 (w.heap.size + 1 + 1) [.int .i64 0, .int .i64 0, .int .i64 0, .int .i64 0, .slice none 0 0, .slice none 0 0, .slice none 0 0, .slice none 0 0]) := HZ.out.belowS hb2
  clear HMa HSt HZ
  have HMa : Hid (Lies w2 w.heap.size [.int .i64 a, .int .i64 b, .int .i64 c, .int .i64 d, .int .i64 f, .int .i64 k, .int .i64 a', .int .i64 b', .int .i64 c', .int .i64 d', .int .i64 f', .int .i64 k']) := HMan.out
  have HSt : Hid (Lies w2 (w.heap.size + 1) [.int .i64 x, .int .i64 y]) := HStn.out
  have HZ : Hid (Lies w2 (w.heap.size + 1 + 1) [.int .i64 0, .int .i64 0, .int .i64 0, .int .i64 0, .slice none 0 0, .slice none 0 0, .slice none 0 0, .slice none 0 0]) := HZn.out
  clear HMan HStn HZn
  have HBn : Hid (Below w.heap.size w w2) := HB.out.trans (hb2.mono HB.out.size)
  clear HB
  have HB : Hid (Below w.heap.size w w2) := HBn.out
  clear HBn hb2
  clear s0 s1
  go_wp2_with fail
  refine (C3 _).mono ?_
  rintro e w2 ⟨rfl, rfl⟩
  have s0 : w2.cell? ⟨w.heap.size + 1, 0, none⟩ = some (.int .i64 x) := HSt.out.at 0
  have s1 : w2.cell? ⟨w.heap.size + 1, 1, none⟩ = some (.int .i64 y) := HSt.out.at 1
  have m0 : w2.cell? ⟨w.heap.size, 0, none⟩ = some (.int .i64 a) := HMa.out.at 0
  have m1 : w2.cell? ⟨w.heap.size, 1, none⟩ = some (.int .i64 b) := HMa.out.at 1
  have m2 : w2.cell? ⟨w.heap.size, 2, none⟩ = some (.int .i64 c) := HMa.out.at 2
  have m3 : w2.cell? ⟨w.heap.size, 3, none⟩ = some (.int .i64 d) := HMa.out.at 3
  have m4 : w2.cell? ⟨w.heap.size, 4, none⟩ = some (.int .i64 f) := HMa.out.at 4
  have m5 : w2.cell? ⟨w.heap.size, 5, none⟩ = some (.int .i64 k) := HMa.out.at 5
  have m6 : w2.cell? ⟨w.heap.size, 6, none⟩ = some (.int .i64 a') := HMa.out.at 6
  have m7 : w2.cell? ⟨w.heap.size, 7, none⟩ = some (.int .i64 b') := HMa.out.at 7
  have m8 : w2.cell? ⟨w.heap.size, 8, none⟩ = some (.int .i64 c') := HMa.out.at 8
  have m9 : w2.cell? ⟨w.heap.size, 9, none⟩ = some (.int .i64 d') := HMa.out.at 9
  have m10 : w2.cell? ⟨w.heap.size, 10, none⟩ = some (.int .i64 f') := HMa.out.at 10
  have m11 : w2.cell? ⟨w.heap.size, 11, none⟩ = some (.int .i64 k') := HMa.out.at 11
  go_wp2_with fail
  refine (C4 _).mono ?_
  rintro e w3 ⟨la0, lc, rfl, ho3, hb3⟩
  have HRz : Hid (OwnsQ 29 w3 (w.heap.size + 1 + 1 + 1) la0 N lc RN) := ho3.mono HZ.out.2.2
  clear ho3
  have HMan : Hid (Lies w3 w.heap.size [.int .i64 a, .int .i64 b, .int .i64 c, .int .i64 d, .int .i64 f, .int .i64 k, .int .i64 a', .int .i64 b', .int .i64 c', .int .i64 d', .int .i64 f', .int .i64 k']) := HMa.out.belowS hb3
  have HStn : Hid (Lies w3 (w.heap.size + 1) [.int .i64 x, .int .i64 y]) := HSt.out.belowS hb3
  have HZn : Hid (Lies w3 (w.heap.size + 1 + 1) [.int .i64 0, .int .i64 0, .int .i64 0, .int .i64 0, .slice none 0 0, .slice none 0 0, .slice none 0 0, .slice none 0 0]) := HZ.out.belowS hb3
  clear HMa HSt HZ
  have HMa : Hid (Lies w3 w.heap.size [.int .i64 a, .int .i64 b, .int .i64 c, .int .i64 d, .int .i64 f, .int .i64 k, .int .i64 a', .int .i64 b', .int .i64 c', .int .i64 d', .int .i64 f', .int .i64 k']) := HMan.out
  have HSt : Hid (Lies w3 (w.heap.size + 1) [.int .i64 x, .int .i64 y]) := HStn.out
  have HZ : Hid (Lies w3 (w.heap.size + 1 + 1) [.int .i64 0, .int .i64 0, .int .i64 0, .int .i64 0, .slice none 0 0, .slice none 0 0, .slice none 0 0, .slice none 0 0]) := HZn.out
  clear HMan HStn HZn
  have HBn : Hid (Below w.heap.size w w3) := HB.out.trans (hb3.mono HB.out.size)
  clear HB
  have HB : Hid (Below w.heap.size w w3) := HBn.out
  clear HBn hb3
  clear s0 s1 m0 m1 m2 m3 m4 m5 m6 m7 m8 m9 m10 m11 C1 C2 C3 C4
  obtain ⟨lb, hlb, hlo, -, -, hlc⟩ := HRz.out.block hN0
  subst hlb
  have HLC : Hid (∀ i, i < N → w3.cell? ⟨lb, i * 2, none⟩ = some (.int .i64 (RN.getD i (0, 0)).1) ∧ w3.cell? ⟨lb, i * 2 + 1, none⟩ = some (.int .i64 (RN.getD i (0, 0)).2)) := hlc
  have HLlt : Hid (lb < w3.heap.size) := World.block_lt_of_cell? w3 _ (hlc 0 hN0).1
  have HRBl : Hid ((w.heap.size + 1 + 1) < lb) := hlo
  clear hlc HRz hlo
  have HO1 : Hid (Owns 2 ((w3.alloc (.cells #[] 2)).alloc (.cells #[] 2)) w3.heap.size (some ⟨w3.heap.size, 0, none⟩) 0 0 (FSx.take 0)) := by
    have h := World.ownsRow_made (base := w3.heap.size) (e := 2) (size := 1) w3 #[] 0 (Nat.le_refl _) (by unfold maxLen; omega) rfl
    exact World.ownsRow.alloc h _
  have HO2 : Hid (Owns 2 ((w3.alloc (.cells #[] 2)).alloc (.cells #[] 2)) w3.heap.size (some ⟨w3.heap.size + 1, 0, none⟩) 0 0 (GS.take 0)) := by
    have h := World.ownsRow_made (base := w3.heap.size) (e := 2) (size := 1) (w3.alloc (.cells #[] 2)) #[] 0 (by simp) (by unfold maxLen; omega) rfl
    rw [show (w3.alloc (.cells #[] 2)).heap.size = w3.heap.size + 1 by simp] at h
    exact h
  have HB3 : Hid (Below w3.heap.size w3 ((w3.alloc (.cells #[] 2)).alloc (.cells #[] 2))) := ((Below.refl _ _).alloc (Nat.le_refl _) _).alloc (by simp) _
  go_wp2
  go_loopw [10, 11, 12] (fun s1 s2 i wr => ∃ (k : Nat) (a1 : Option Addr) (c1 : Nat) (a2 : Option Addr) (c2 : Nat), k ≤ N ∧ i = .int .i64 k ∧ s1 = .slice a1 k c1 ∧ s2 = .slice a2 k c2 ∧ Owns 2 wr w3.heap.size a1 k c1 (FSx.take k) ∧ Owns 2 wr w3.heap.size a2 k c2 (GS.take k) ∧ far a1 a2 ∧ Below w3.heap.size w3 wr) (fun _ _ i _ => N - (intOf i).toNat)
  case atStart => exact ⟨0, _, _, _, _, by omega, rfl, rfl, rfl, HO1.out, HO2.out, fun z1 z2 h1 h2 e => by injection h1 with h1; injection h2 with h2; subst h1; subst h2; simp at e, HB3.out⟩
  case round =>
    obtain ⟨k, a1, c1, a2, c2, hk, rfl, rfl, rfl, hp1, hp2, hp3, hp4⟩ := hrel
    have HP1 : Hid (Owns 2 wr w3.heap.size a1 k c1 (FSx.take k)) := hp1
    have HP2 : Hid (Owns 2 wr w3.heap.size a2 k c2 (GS.take k)) := hp2
    have HP3 : Hid (far a1 a2) := hp3
    have HP4 : Hid (Below w3.heap.size w3 wr) := hp4
    clear hp1 hp2 hp3 hp4 HO1 HO2 HB3
    by_cases hlt : k < N
    · have e1 := (HP4.out.cell (p := ⟨lb, k * 2, none⟩) HLlt.out).trans (HLC.out k hlt).1
      have e2 := (HP4.out.cell (p := ⟨lb, k * 2 + 1, none⟩) HLlt.out).trans (HLC.out k hlt).2
      have HFk := HF0.out k hlt
      have HGk := HG0.out k hlt
      have hI : (k : Int) < (N : Int) := by omega
      have HE2 : Hid (wr.cell? ⟨lb, k * 2 + 1, none⟩ = some (.int .i64 (RN.getD k (0, 0)).2)) := e2
      have HFk' : Hid (FSx.take k ++ [(RN.getD k (0, 0)).1] = FSx.take (k + 1)) := HFk
      have HGk' : Hid (GS.take k ++ [(RN.getD k (0, 0)).2] = GS.take (k + 1)) := HGk
      clear HFk HGk e2
      generalize (RN.getD k (0, 0)).1 = u at e1 HFk'
      generalize (RN.getD k (0, 0)).2 = v at HE2 HGk'
      generalize FSx.take k = F1 at HP1 HFk'
      generalize GS.take k = G1 at HP2 HGk'
      go_wp2_with (at_builtin; refine wpList_append_own_at _ rfl _ _ 32 rfl w3.heap.size 2 i0 (.int .i64 0) 1 8 Tryz.underlying32 HI.out.1 HI.out.2.1 HI.out.2.2.1 HI.out.2.2.2 rfl (by decide) _ k (F1.map (Value.int .i64)) rfl (World.ownsRow.alloc HP1.out _) ⟨wr.heap.size, 0, none⟩ 1 1 [.int .i64 u] rfl rfl (cell_one _ _ _) (one_int _) (by unfold maxLen; omega) (by omega) (by have := HP4.out.size; simp; omega) ?_)
      intro v' w4 hown hgrow _ hat
      have hown' : w4.ownsRow w3.heap.size 2 1 v' (k + 1) ((FSx.take (k + 1)).map (Value.int .i64)) := by rw [← HFk'.out, List.map_append]; exact hown
      obtain ⟨b4, c4, rfl, ho4⟩ := Owns.form hown'
      have HP14 : Hid (Owns 2 w4 w3.heap.size b4 (k + 1) c4 (FSx.take (k + 1))) := ho4
      have HP24 : Hid (Owns 2 w4 w3.heap.size a2 k c2 G1) := Owns.grownR (w := wr.alloc (.cells #[Value.int .i64 u] 2)) (HP2.out.below ((Below.refl _ _).alloc (Nat.le_refl _) _)) hgrow (fun z hz => own_none (fun q hq => HP3.out q z hq hz))
      have HP34 : Hid (far b4 a2) := fun z1 z2 h1 h2 => far_atN hat (by have := HP2.out.hi z2 h2; simp; omega) (fun q hq => HP3.out q z2 hq h2) z1 h1
      have HP44 : Hid (Below w3.heap.size w3 w4) := (HP4.out.alloc HP4.out.size _).grown hgrow (by have := HP4.out.size; simp; omega) HP1.out.row
      have e2 : w4.cell? ⟨lb, k * 2 + 1, none⟩ = some (.int .i64 v) := (HP44.out.cell (p := ⟨lb, k * 2 + 1, none⟩) HLlt.out).trans ((HP4.out.cell (p := ⟨lb, k * 2 + 1, none⟩) HLlt.out).symm.trans HE2.out)
      clear hown hown' hgrow ho4 hat HP1 HP2 HP3 HP4 HE2 HFk'
      go_wp2_with (at_builtin; refine wpList_append_own_at _ rfl _ _ 32 rfl w3.heap.size 2 i0 (.int .i64 0) 1 8 Tryz.underlying32 HI.out.1 HI.out.2.1 HI.out.2.2.1 HI.out.2.2.2 rfl (by decide) _ k (G1.map (Value.int .i64)) rfl (World.ownsRow.alloc HP24.out _) ⟨w4.heap.size, 0, none⟩ 1 1 [.int .i64 v] rfl rfl (cell_one _ _ _) (one_int _) (by unfold maxLen; omega) (by omega) (by have := HP44.out.size; simp; omega) ?_)
      intro v' w5 hown hgrow _ hat
      have hown' : w5.ownsRow w3.heap.size 2 1 v' (k + 1) ((GS.take (k + 1)).map (Value.int .i64)) := by rw [← HGk'.out, List.map_append]; exact hown
      obtain ⟨b5, c5, rfl, ho5⟩ := Owns.form hown'
      have HP25 : Hid (Owns 2 w5 w3.heap.size b5 (k + 1) c5 (GS.take (k + 1))) := ho5
      have HP15 : Hid (Owns 2 w5 w3.heap.size b4 (k + 1) c4 (FSx.take (k + 1))) := Owns.grownR (w := w4.alloc (.cells #[Value.int .i64 v] 2)) (HP14.out.below ((Below.refl _ _).alloc (Nat.le_refl _) _)) hgrow (fun z hz => own_none (fun q hq => (HP34.out.symm) q z hq hz))
      have HP35 : Hid (far b4 b5) := fun z1 z2 h1 h2 => (far_atN hat (by have := HP14.out.hi z1 h1; simp; omega) (fun q hq => HP34.out.symm q z1 hq h1) z2 h2).symm
      have HP45 : Hid (Below w3.heap.size w3 w5) := (HP44.out.alloc HP44.out.size _).grown hgrow (by have := HP44.out.size; simp; omega) HP24.out.row
      clear hown hown' hgrow ho5 hat HP14 HP24 HP34 HP44
      go_wp2
      go_roundw
      case rel => exact ⟨k + 1, b4, c4, b5, c5, by omega, by go_num, rfl, rfl, HP15.out, HP25.out, HP35.out, HP45.out⟩
      case measure => simp [intOf]; omega
    · have hkn : N = k := by omega
      subst hkn
      rw [HFN.out] at HP1
      rw [HGN.out] at HP2
      have HW3 : Hid (Below w3.heap.size w3 wr) := HP4.out
      have HPx : Hid (Owns 2 wr w3.heap.size a1 N c1 FSx) := HP1.out
      have HPy : Hid (Owns 2 wr w3.heap.size a2 N c2 GS) := HP2.out
      clear HP1 HP2 HP3 HP4
      go_wp2_with fail
      refine (C5.out _ HPx.out.sees).mono ?_
      rintro e wt1 ⟨xa, xl, xc, rfl, hox, hbt1⟩
      have hxl : xl ≤ 16 := by have h1 := hox.len; have h2 := HXl.out; omega
      have HXn : Hid (Owns 2 wt1 w3.heap.size xa xl xc FX) := hox.mono HW3.out.size
      have HW3n : Hid (Below w3.heap.size w3 wt1) := HW3.out.trans (hbt1.mono HW3.out.size)
      have HPyn : Hid (Owns 2 wt1 w3.heap.size a2 N c2 GS) := HPy.out.below hbt1
      clear HW3 HPx HPy hbt1
      have HW3 : Hid (Below w3.heap.size w3 wt1) := HW3n.out
      have HPy : Hid (Owns 2 wt1 w3.heap.size a2 N c2 GS) := HPyn.out
      have HX : Hid (Owns 2 wt1 w3.heap.size xa xl xc FX) := HXn.out
      clear HW3n HPyn HXn
      clear hox
      go_wp2_with fail
      refine (C6.out _ HPy.out.sees).mono ?_
      rintro e wt2 ⟨ya, yl, yc, rfl, hoy, hbt2⟩
      have hyl : yl ≤ 16 := by have h1 := hoy.len; have h2 := HYl.out; omega
      have HYn : Hid (Owns 2 wt2 w3.heap.size ya yl yc FY) := hoy.mono HW3.out.size
      have HW3n : Hid (Below w3.heap.size w3 wt2) := HW3.out.trans (hbt2.mono HW3.out.size)
      have HXn : Hid (Owns 2 wt2 w3.heap.size xa xl xc FX) := HX.out.below hbt2
      clear HW3 HPy HX hbt2
      have HW3 : Hid (Below w3.heap.size w3 wt2) := HW3n.out
      have HX : Hid (Owns 2 wt2 w3.heap.size xa xl xc FX) := HXn.out
      have HY : Hid (Owns 2 wt2 w3.heap.size ya yl yc FY) := HYn.out
      clear HW3n HXn HYn
      clear hoy
      have m0 : wt2.cell? ⟨w.heap.size, 0, none⟩ = some (.int .i64 a) := (HMa.out.belowS HW3.out).at 0
      have m1 : wt2.cell? ⟨w.heap.size, 1, none⟩ = some (.int .i64 b) := (HMa.out.belowS HW3.out).at 1
      have m2 : wt2.cell? ⟨w.heap.size, 2, none⟩ = some (.int .i64 c) := (HMa.out.belowS HW3.out).at 2
      have m3 : wt2.cell? ⟨w.heap.size, 3, none⟩ = some (.int .i64 d) := (HMa.out.belowS HW3.out).at 3
      have m4 : wt2.cell? ⟨w.heap.size, 4, none⟩ = some (.int .i64 f) := (HMa.out.belowS HW3.out).at 4
      have m5 : wt2.cell? ⟨w.heap.size, 5, none⟩ = some (.int .i64 k) := (HMa.out.belowS HW3.out).at 5
      go_wp2_with fail
      refine (R1.out _ HX.out.sees HY.out.sees).mono ?_
      rintro e wt3 ⟨ta, tl, tc, rfl, htl, hor, hbt3⟩
      have HTn : Hid (Owns 2 wt3 w3.heap.size ta tl tc RX) := hor.mono HW3.out.size
      have HW3n : Hid (Below w3.heap.size w3 wt3) := HW3.out.trans (hbt3.mono HW3.out.size)
      have HXn : Hid (Owns 2 wt3 w3.heap.size xa xl xc FX) := HX.out.below hbt3
      have HYn : Hid (Owns 2 wt3 w3.heap.size ya yl yc FY) := HY.out.below hbt3
      clear HW3 HX HY hbt3
      have HW3 : Hid (Below w3.heap.size w3 wt3) := HW3n.out
      have HX : Hid (Owns 2 wt3 w3.heap.size xa xl xc FX) := HXn.out
      have HY : Hid (Owns 2 wt3 w3.heap.size ya yl yc FY) := HYn.out
      have HT : Hid (Owns 2 wt3 w3.heap.size ta tl tc RX) := HTn.out
      clear HW3n HXn HYn HTn
      clear hor htl m0 m1 m2 m3 m4 m5
      go_wp2_with fail
      refine (E1.out _ HX.out.sees HT.out.sees).mono ?_
      rintro e wt4 ⟨ea, el, ec, rfl, hoe, hbt4⟩
      have HEn : Hid (Owns 2 wt4 w3.heap.size ea el ec LX) := hoe.mono HW3.out.size
      have HW3n : Hid (Below w3.heap.size w3 wt4) := HW3.out.trans (hbt4.mono HW3.out.size)
      have HXn : Hid (Owns 2 wt4 w3.heap.size xa xl xc FX) := HX.out.below hbt4
      have HYn : Hid (Owns 2 wt4 w3.heap.size ya yl yc FY) := HY.out.below hbt4
      clear HW3 HX HY HT hbt4
      have HW3 : Hid (Below w3.heap.size w3 wt4) := HW3n.out
      have HX : Hid (Owns 2 wt4 w3.heap.size xa xl xc FX) := HXn.out
      have HY : Hid (Owns 2 wt4 w3.heap.size ya yl yc FY) := HYn.out
      have HE : Hid (Owns 2 wt4 w3.heap.size ea el ec LX) := HEn.out
      clear HW3n HXn HYn HEn
      clear hoe
      go_wp2_with fail
      refine (Z1 _).mono ?_
      rintro e wt5 ⟨za, zc, rfl, hoz, hbt5⟩
      have HZzn : Hid (Owns 2 wt5 w3.heap.size za (N + 1) zc ZL) := hoz.mono HW3.out.size
      have HW3n : Hid (Below w3.heap.size w3 wt5) := HW3.out.trans (hbt5.mono HW3.out.size)
      have HXn : Hid (Owns 2 wt5 w3.heap.size xa xl xc FX) := HX.out.below hbt5
      have HYn : Hid (Owns 2 wt5 w3.heap.size ya yl yc FY) := HY.out.below hbt5
      have HEn : Hid (Owns 2 wt5 w3.heap.size ea el ec LX) := HE.out.below hbt5
      clear HW3 HX HY HE hbt5
      have HW3 : Hid (Below w3.heap.size w3 wt5) := HW3n.out
      have HX : Hid (Owns 2 wt5 w3.heap.size xa xl xc FX) := HXn.out
      have HY : Hid (Owns 2 wt5 w3.heap.size ya yl yc FY) := HYn.out
      have HE : Hid (Owns 2 wt5 w3.heap.size ea el ec LX) := HEn.out
      have HZz : Hid (Owns 2 wt5 w3.heap.size za (N + 1) zc ZL) := HZzn.out
      clear HW3n HXn HYn HEn HZzn
      clear hoz
      go_wp2_with fail
      refine (D1.out _ HE.out.sees HZz.out.sees).mono ?_
      rintro e wt6 ⟨qa, ql, qc, qa2, ql2, qc2, q1, rfl, hoq, hq1, hbt6⟩
      have HQn : Hid (Owns 2 wt6 w3.heap.size qa ql qc q1) := hoq.mono HW3.out.size
      have HW3n : Hid (Below w3.heap.size w3 wt6) := HW3.out.trans (hbt6.mono HW3.out.size)
      have HXn : Hid (Owns 2 wt6 w3.heap.size xa xl xc FX) := HX.out.below hbt6
      have HYn : Hid (Owns 2 wt6 w3.heap.size ya yl yc FY) := HY.out.below hbt6
      clear HW3 HX HY HE HZz hbt6
      have HW3 : Hid (Below w3.heap.size w3 wt6) := HW3n.out
      have HX : Hid (Owns 2 wt6 w3.heap.size xa xl xc FX) := HXn.out
      have HY : Hid (Owns 2 wt6 w3.heap.size ya yl yc FY) := HYn.out
      have HQ : Hid (Owns 2 wt6 w3.heap.size qa ql qc q1) := HQn.out
      clear HW3n HXn HYn HQn
      clear hoq
      have HQ1 : Hid (M.wide q1 N = QX ∧ M.allEl q1 = true) := hq1
      clear hq1
      have m6 : wt6.cell? ⟨w.heap.size, 6, none⟩ = some (.int .i64 a') := (HMa.out.belowS HW3.out).at 6
      have m7 : wt6.cell? ⟨w.heap.size, 7, none⟩ = some (.int .i64 b') := (HMa.out.belowS HW3.out).at 7
      have m8 : wt6.cell? ⟨w.heap.size, 8, none⟩ = some (.int .i64 c') := (HMa.out.belowS HW3.out).at 8
      have m9 : wt6.cell? ⟨w.heap.size, 9, none⟩ = some (.int .i64 d') := (HMa.out.belowS HW3.out).at 9
      have m10 : wt6.cell? ⟨w.heap.size, 10, none⟩ = some (.int .i64 f') := (HMa.out.belowS HW3.out).at 10
      have m11 : wt6.cell? ⟨w.heap.size, 11, none⟩ = some (.int .i64 k') := (HMa.out.belowS HW3.out).at 11
      go_wp2_with fail
      refine (R2.out _ HX.out.sees HY.out.sees).mono ?_
      rintro e wt7 ⟨ta, tl, tc, rfl, htl, hor, hbt7⟩
      have HTn : Hid (Owns 2 wt7 w3.heap.size ta tl tc RY) := hor.mono HW3.out.size
      have HW3n : Hid (Below w3.heap.size w3 wt7) := HW3.out.trans (hbt7.mono HW3.out.size)
      have HXn : Hid (Owns 2 wt7 w3.heap.size xa xl xc FX) := HX.out.below hbt7
      have HYn : Hid (Owns 2 wt7 w3.heap.size ya yl yc FY) := HY.out.below hbt7
      have HQn : Hid (Owns 2 wt7 w3.heap.size qa ql qc q1) := HQ.out.below hbt7
      clear HW3 HX HY HQ hbt7
      have HW3 : Hid (Below w3.heap.size w3 wt7) := HW3n.out
      have HX : Hid (Owns 2 wt7 w3.heap.size xa xl xc FX) := HXn.out
      have HY : Hid (Owns 2 wt7 w3.heap.size ya yl yc FY) := HYn.out
      have HQ : Hid (Owns 2 wt7 w3.heap.size qa ql qc q1) := HQn.out
      have HT : Hid (Owns 2 wt7 w3.heap.size ta tl tc RY) := HTn.out
      clear HW3n HXn HYn HQn HTn
      clear hor htl m6 m7 m8 m9 m10 m11
      go_wp2_with fail
      refine (E2.out _ HY.out.sees HT.out.sees).mono ?_
      rintro e wt8 ⟨ea, el, ec, rfl, hoe, hbt8⟩
      have HEn : Hid (Owns 2 wt8 w3.heap.size ea el ec LY) := hoe.mono HW3.out.size
      have HW3n : Hid (Below w3.heap.size w3 wt8) := HW3.out.trans (hbt8.mono HW3.out.size)
      have HXn : Hid (Owns 2 wt8 w3.heap.size xa xl xc FX) := HX.out.below hbt8
      have HYn : Hid (Owns 2 wt8 w3.heap.size ya yl yc FY) := HY.out.below hbt8
      have HQn : Hid (Owns 2 wt8 w3.heap.size qa ql qc q1) := HQ.out.below hbt8
      clear HW3 HX HY HQ HT hbt8
      have HW3 : Hid (Below w3.heap.size w3 wt8) := HW3n.out
      have HX : Hid (Owns 2 wt8 w3.heap.size xa xl xc FX) := HXn.out
      have HY : Hid (Owns 2 wt8 w3.heap.size ya yl yc FY) := HYn.out
      have HQ : Hid (Owns 2 wt8 w3.heap.size qa ql qc q1) := HQn.out
      have HE : Hid (Owns 2 wt8 w3.heap.size ea el ec LY) := HEn.out
      clear HW3n HXn HYn HQn HEn
      clear hoe
      go_wp2_with fail
      refine (Z1 _).mono ?_
      rintro e wt9 ⟨za, zc, rfl, hoz, hbt9⟩
      have HZzn : Hid (Owns 2 wt9 w3.heap.size za (N + 1) zc ZL) := hoz.mono HW3.out.size
      have HW3n : Hid (Below w3.heap.size w3 wt9) := HW3.out.trans (hbt9.mono HW3.out.size)
      have HXn : Hid (Owns 2 wt9 w3.heap.size xa xl xc FX) := HX.out.below hbt9
      have HYn : Hid (Owns 2 wt9 w3.heap.size ya yl yc FY) := HY.out.below hbt9
      have HQn : Hid (Owns 2 wt9 w3.heap.size qa ql qc q1) := HQ.out.below hbt9
      have HEn : Hid (Owns 2 wt9 w3.heap.size ea el ec LY) := HE.out.below hbt9
      clear HW3 HX HY HQ HE hbt9
      have HW3 : Hid (Below w3.heap.size w3 wt9) := HW3n.out
      have HX : Hid (Owns 2 wt9 w3.heap.size xa xl xc FX) := HXn.out
      have HY : Hid (Owns 2 wt9 w3.heap.size ya yl yc FY) := HYn.out
      have HQ : Hid (Owns 2 wt9 w3.heap.size qa ql qc q1) := HQn.out
      have HE : Hid (Owns 2 wt9 w3.heap.size ea el ec LY) := HEn.out
      have HZz : Hid (Owns 2 wt9 w3.heap.size za (N + 1) zc ZL) := HZzn.out
      clear HW3n HXn HYn HQn HEn HZzn
      clear hoz
      go_wp2_with fail
      refine (D2.out _ HE.out.sees HZz.out.sees).mono ?_
      rintro e wt10 ⟨ga, gl, gc, ga2, gl2, gc2, q2, rfl, hog, hq2, hbt10⟩
      have HGn : Hid (Owns 2 wt10 w3.heap.size ga gl gc q2) := hog.mono HW3.out.size
      have HW3n : Hid (Below w3.heap.size w3 wt10) := HW3.out.trans (hbt10.mono HW3.out.size)
      have HXn : Hid (Owns 2 wt10 w3.heap.size xa xl xc FX) := HX.out.below hbt10
      have HYn : Hid (Owns 2 wt10 w3.heap.size ya yl yc FY) := HY.out.below hbt10
      have HQn : Hid (Owns 2 wt10 w3.heap.size qa ql qc q1) := HQ.out.below hbt10
      clear HW3 HX HY HQ HE HZz hbt10
      have HW3 : Hid (Below w3.heap.size w3 wt10) := HW3n.out
      have HX : Hid (Owns 2 wt10 w3.heap.size xa xl xc FX) := HXn.out
      have HY : Hid (Owns 2 wt10 w3.heap.size ya yl yc FY) := HYn.out
      have HQ : Hid (Owns 2 wt10 w3.heap.size qa ql qc q1) := HQn.out
      have HG : Hid (Owns 2 wt10 w3.heap.size ga gl gc q2) := HGn.out
      clear HW3n HXn HYn HQn HGn
      clear hog
      have HQ2 : Hid (M.wide q2 N = QY ∧ M.allEl q2 = true) := hq2
      clear hq2
      go_wp2
      generalize wt10 = wq at HW3 HX HY HQ HG ⊢
      have HStq : Hid (Lies wq (w.heap.size + 1) [.int .i64 x, .int .i64 y]) := HSt.out.belowS HW3.out
      have HZq : Hid (Lies wq (w.heap.size + 1 + 1) [.int .i64 0, .int .i64 0, .int .i64 0, .int .i64 0, .slice none 0 0, .slice none 0 0, .slice none 0 0, .slice none 0 0]) := HZ.out.belowS HW3.out
      have HBq : Hid (Below w.heap.size w wq) := HB.out.trans (HW3.out.mono HB.out.size)
      have hcl := HLC.out (N - 1) (by omega)
      rw [HLast.out] at hcl
      have HEn : Hid (wq.cell? ⟨lb, (N - 1) * 2, none⟩ = some (.int .i64 ex) ∧ wq.cell? ⟨lb, (N - 1) * 2 + 1, none⟩ = some (.int .i64 ey)) := ⟨(HW3.out.cell (p := ⟨lb, (N - 1) * 2, none⟩) HLlt.out).trans hcl.1, (HW3.out.cell (p := ⟨lb, (N - 1) * 2 + 1, none⟩) HLlt.out).trans hcl.2⟩
      have HRb : Hid (some lb ≠ some (w.heap.size + 1 + 1)) := fun e => by injection e with e; have := HRBl.out; omega
      have HRBQ : Hid ((w.heap.size + 1 + 1) < wq.heap.size) := HZq.out.2.2
      have HZ3 : Hid ((w.heap.size + 1 + 1) < w3.heap.size) := HZ.out.2.2
      have HXq : Hid (Sees wq xa xl xc FX) := HX.out.sees
      have HYq : Hid (Sees wq ya yl yc FY) := HY.out.sees
      have HQq : Hid (Sees wq qa ql qc q1) := HQ.out.sees
      have HGq : Hid (Sees wq ga gl gc q2) := HG.out.sees
      have HXqn : Hid (∀ z, xa = some z → some (w.heap.size + 1 + 1) ≠ some z.block) := fun z hz e => by injection e with e; have := HX.out.lo z hz; have := HZ3.out; omega
      have HYqn : Hid (∀ z, ya = some z → some (w.heap.size + 1 + 1) ≠ some z.block) := fun z hz e => by injection e with e; have := HY.out.lo z hz; have := HZ3.out; omega
      have HQqn : Hid (∀ z, qa = some z → some (w.heap.size + 1 + 1) ≠ some z.block) := fun z hz e => by injection e with e; have := HQ.out.lo z hz; have := HZ3.out; omega
      have HGqn : Hid (∀ z, ga = some z → some (w.heap.size + 1 + 1) ≠ some z.block) := fun z hz e => by injection e with e; have := HG.out.lo z hz; have := HZ3.out; omega
      have CV3 : Hid (∀ (W : World) {a : Option Addr} {n c : Nat}, Sees W a n c q1 → Calls Tryz.prog 51 #[.slice a n c, .int .i64 (K : Int), .int .i64 3] W fun e w' => ∃ a' c', e = .returned (.slice a' K c') ∧ Owns 2 w' W.heap.size a' K c' QX ∧ Below W.heap.size W w') := fun W _ _ _ h1 => EV.out W h1 HQ1.out.2 HQ1.out.1
      have CV4 : Hid (∀ (W : World) {a : Option Addr} {n c : Nat}, Sees W a n c q2 → Calls Tryz.prog 51 #[.slice a n c, .int .i64 (K : Int), .int .i64 3] W fun e w' => ∃ a' c', e = .returned (.slice a' K c') ∧ Owns 2 w' W.heap.size a' K c' QY ∧ Below W.heap.size W w') := fun W _ _ _ h1 => EV.out W h1 HQ2.out.2 HQ2.out.1
      clear hcl HX HY HQ HG HW3 HMa HSt HZ HB HLC HLast C5 C6 R1 R2 E1 E2 Z1 D1 D2 EV HQ1 HQ2 HF0 HG0 HFN HGN
      refine wp_region_noPanic ?_
      refine wp_region_held_drew (S := fun W => wq.grownBy W (some (w.heap.size + 1 + 1))) (by kernel_rfl) (grown_drew _ _) (fun hHeld => ?_)
      have HZd : Hid (Lies wq.drew (w.heap.size + 1 + 1) [.int .i64 0, .int .i64 0, .int .i64 0, .int .i64 0, .slice none 0 0, .slice none 0 0, .slice none 0 0, .slice none 0 0]) := HZq.out.below (Below.refl _ _).drew HZq.out.2.2
      generalize wq.drew = wd0 at hHeld HZd ⊢
      refine wpAnyH_take (i := 0) (v := .agg #[.int .i64 x, .int .i64 y]) rfl (by kernel_rfl) (by kernel_rfl) (by kernel_rfl) (fun _ _ _ h => h) (Or.inl ⟨by kernel_rfl, ?_⟩) (by assumption) ?_
      · intro wp hSp; have c0 : wp.cell? ⟨w.heap.size + 1, 0, none⟩ = some (.int .i64 x) := (HStq.out.grown hSp (by simp)).at 0; have c1 : wp.cell? ⟨w.heap.size + 1, 1, none⟩ = some (.int .i64 y) := (HStq.out.grown hSp (by simp)).at 1; go_simp
      try simp only [Act.put]
      refine wpAnyH_take (i := 1) (v := .slice (some ⟨lb, 0, none⟩) N lc) rfl (by kernel_rfl) (by kernel_rfl) (by kernel_rfl) (fun _ _ _ h => h) (Or.inl ⟨by kernel_rfl, ?_⟩) (by assumption) ?_
      · intro wq hSq; go_simp
      try simp only [Act.put]
      refine wpAnyH_take (i := 2) (v := .int .i64 (N : Int)) rfl (by kernel_rfl) (by kernel_rfl) (by kernel_rfl) (fun _ _ _ h => h) (Or.inl ⟨by kernel_rfl, ?_⟩) (by assumption) ?_
      · intro wq hSq; go_simp
      try simp only [Act.put]
      refine wpAnyH_take (i := 3) (v := .int .i64 ((N : Int) - 1)) rfl (by kernel_rfl) (by kernel_rfl) (by kernel_rfl) (fun _ _ _ h => h) (Or.inl ⟨by kernel_rfl, ?_⟩) (by assumption) ?_
      · intro wq hSq; go_simp
      try simp only [Act.put]
      refine wpAnyH_take (i := 4) (v := .pointer (some ⟨lb, (N - 1) * 2, none⟩)) rfl (by kernel_rfl) (by kernel_rfl) (by kernel_rfl) (fun _ _ _ h => h) (Or.inl ⟨by kernel_rfl, ?_⟩) (by assumption) ?_
      · intro wq hSq; go_simp
      try simp only [Act.put]
      refine wpAnyH_take (i := 5) (v := .agg #[.int .i64 ex, .int .i64 ey]) rfl (by kernel_rfl) (by kernel_rfl) (by kernel_rfl) (fun _ _ _ h => h) (Or.inl ⟨by kernel_rfl, ?_⟩) (by assumption) ?_
      · intro wp hSp; have c0 : wp.cell? ⟨lb, (N - 1) * 2, none⟩ = some (.int .i64 ex) := hSp.cell HEn.out.1 HRb.out; have c1 : wp.cell? ⟨lb, (N - 1) * 2 + 1, none⟩ = some (.int .i64 ey) := hSp.cell HEn.out.2 HRb.out; go_simp
      try simp only [Act.put]
      refine wpAnyH_take (i := 6) (v := .slice xa xl xc) rfl (by kernel_rfl) (by kernel_rfl) (by kernel_rfl) (fun _ _ _ h => h) (Or.inl ⟨by kernel_rfl, ?_⟩) (by assumption) ?_
      · intro wq hSq; go_simp
      try simp only [Act.put]
      refine wpAnyH_take (i := 7) (v := .int .i64 (K : Int)) rfl (by kernel_rfl) (by kernel_rfl) (by kernel_rfl) (fun _ _ _ h => h) (Or.inl ⟨by kernel_rfl, ?_⟩) (by assumption) ?_
      · intro wq hSq; go_simp
      try simp only [Act.put]
      refine wpAnyH_take (i := 9) (v := .slice ya yl yc) rfl (by kernel_rfl) (by kernel_rfl) (by kernel_rfl) (fun _ _ _ h => h) (Or.inl ⟨by kernel_rfl, ?_⟩) (by assumption) ?_
      · intro wq hSq; go_simp
      try simp only [Act.put]
      refine wpAnyH_take (i := 10) (v := .int .i64 (K : Int)) rfl (by kernel_rfl) (by kernel_rfl) (by kernel_rfl) (fun _ _ _ h => h) (Or.inl ⟨by kernel_rfl, ?_⟩) (by assumption) ?_
      · intro wq hSq; go_simp
      try simp only [Act.put]
      refine wpAnyH_take (i := 12) (v := .slice qa ql qc) rfl (by kernel_rfl) (by kernel_rfl) (by kernel_rfl) (fun _ _ _ h => h) (Or.inl ⟨by kernel_rfl, ?_⟩) (by assumption) ?_
      · intro wq hSq; go_simp
      try simp only [Act.put]
      refine wpAnyH_take (i := 13) (v := .int .i64 (K : Int)) rfl (by kernel_rfl) (by kernel_rfl) (by kernel_rfl) (fun _ _ _ h => h) (Or.inl ⟨by kernel_rfl, ?_⟩) (by assumption) ?_
      · intro wq hSq; go_simp
      try simp only [Act.put]
      refine wpAnyH_take (i := 15) (v := .slice ga gl gc) rfl (by kernel_rfl) (by kernel_rfl) (by kernel_rfl) (fun _ _ _ h => h) (Or.inl ⟨by kernel_rfl, ?_⟩) (by assumption) ?_
      · intro wq hSq; go_simp
      try simp only [Act.put]
      refine wpAnyH_take (i := 16) (v := .int .i64 (K : Int)) rfl (by kernel_rfl) (by kernel_rfl) (by kernel_rfl) (fun _ _ _ h => h) (Or.inl ⟨by kernel_rfl, ?_⟩) (by assumption) ?_
      · intro wq hSq; go_simp
      try simp only [Act.put]
      refine wpAnyH_ready (rs := [8]) (by kernel_rfl) (by simp) ?_
      refine AllReadyH.cons rfl (fun Kk hK => ?_) AllReadyH.nil
      go_simp
      refine (CV1.out _ (HXq.out.grownR hHeld HXqn.out)).mono ?_
      rintro e wg1 ⟨va, vc, rfl, hoA, hb1⟩
      go_simp
      have hS1 : wq.grownBy wg1 (some (w.heap.size + 1 + 1)) := grown_step hHeld hb1
      have HM1 : Hid (wd0.heap.size ≤ wg1.heap.size) := hb1.size
      have HZd1 : Hid (Lies wg1 (w.heap.size + 1 + 1) [.int .i64 0, .int .i64 0, .int .i64 0, .int .i64 0, .slice none 0 0, .slice none 0 0, .slice none 0 0, .slice none 0 0]) := HZd.out.belowS hb1
      have HVA1 : Hid (Owns 2 wg1 wd0.heap.size va K vc VX) := hoA
      refine hK.out _ _ hS1 (fun _ => ?_)
      clear hK Kk hb1
      have HLA : Hid (∀ z, va = some z → wd0.heap.size ≤ z.block ∧ z.block < wg1.heap.size) := fun z hz => ⟨hoA.lo z hz, hoA.hi z hz⟩
      clear hoA
      try simp only [Act.put]
      refine wpAnyH_ready (rs := [11]) (by kernel_rfl) (by simp) ?_
      refine AllReadyH.cons rfl (fun Kk hK => ?_) AllReadyH.nil
      go_simp
      refine (CV2.out _ (HYq.out.grownR hS1 HYqn.out)).mono ?_
      rintro e wg2 ⟨ua, uc, rfl, hoB, hb2⟩
      go_simp
      have hS2 : wq.grownBy wg2 (some (w.heap.size + 1 + 1)) := grown_step hS1 hb2
      have HVA2 : Hid (Owns 2 wg2 wd0.heap.size va K vc VX) := HVA1.out.below hb2
      have HM2 : Hid (wg1.heap.size ≤ wg2.heap.size) := hb2.size
      have HZd2 : Hid (Lies wg2 (w.heap.size + 1 + 1) [.int .i64 0, .int .i64 0, .int .i64 0, .int .i64 0, .slice none 0 0, .slice none 0 0, .slice none 0 0, .slice none 0 0]) := HZd1.out.belowS hb2
      have HVB2 : Hid (Owns 2 wg2 wg1.heap.size ua K uc VY) := hoB
      refine hK.out _ _ hS2 (fun _ => ?_)
      clear hK Kk hb2
      have HLB : Hid (∀ z, ua = some z → wg1.heap.size ≤ z.block ∧ z.block < wg2.heap.size) := fun z hz => ⟨hoB.lo z hz, hoB.hi z hz⟩
      clear hoB
      try simp only [Act.put]
      refine wpAnyH_ready (rs := [14]) (by kernel_rfl) (by simp) ?_
      refine AllReadyH.cons rfl (fun Kk hK => ?_) AllReadyH.nil
      go_simp
      refine (CV3.out _ (HQq.out.grownR hS2 HQqn.out)).mono ?_
      rintro e wg3 ⟨qva, qvc, rfl, hoC, hb3⟩
      go_simp
      have hS3 : wq.grownBy wg3 (some (w.heap.size + 1 + 1)) := grown_step hS2 hb3
      have HVA3 : Hid (Owns 2 wg3 wd0.heap.size va K vc VX) := HVA2.out.below hb3
      have HVB3 : Hid (Owns 2 wg3 wg1.heap.size ua K uc VY) := HVB2.out.below hb3
      have HM3 : Hid (wg2.heap.size ≤ wg3.heap.size) := hb3.size
      have HZd3 : Hid (Lies wg3 (w.heap.size + 1 + 1) [.int .i64 0, .int .i64 0, .int .i64 0, .int .i64 0, .slice none 0 0, .slice none 0 0, .slice none 0 0, .slice none 0 0]) := HZd2.out.belowS hb3
      have HVC3 : Hid (Owns 2 wg3 wg2.heap.size qva K qvc QX) := hoC
      refine hK.out _ _ hS3 (fun _ => ?_)
      clear hK Kk hb3
      have HLC : Hid (∀ z, qva = some z → wg2.heap.size ≤ z.block ∧ z.block < wg3.heap.size) := fun z hz => ⟨hoC.lo z hz, hoC.hi z hz⟩
      clear hoC
      try simp only [Act.put]
      refine wpAnyH_ready (rs := [17]) (by kernel_rfl) (by simp) ?_
      refine AllReadyH.cons rfl (fun Kk hK => ?_) AllReadyH.nil
      go_simp
      refine (CV4.out _ (HGq.out.grownR hS3 HGqn.out)).mono ?_
      rintro e wg4 ⟨qua, quc, rfl, hoD, hb4⟩
      go_simp
      have hS4 : wq.grownBy wg4 (some (w.heap.size + 1 + 1)) := grown_step hS3 hb4
      have HVA4 : Hid (Owns 2 wg4 wd0.heap.size va K vc VX) := HVA3.out.below hb4
      have HVB4 : Hid (Owns 2 wg4 wg1.heap.size ua K uc VY) := HVB3.out.below hb4
      have HVC4 : Hid (Owns 2 wg4 wg2.heap.size qva K qvc QX) := HVC3.out.below hb4
      have HM4 : Hid (wg3.heap.size ≤ wg4.heap.size) := hb4.size
      have HZd4 : Hid (Lies wg4 (w.heap.size + 1 + 1) [.int .i64 0, .int .i64 0, .int .i64 0, .int .i64 0, .slice none 0 0, .slice none 0 0, .slice none 0 0, .slice none 0 0]) := HZd3.out.belowS hb4
      have HVD4 : Hid (Owns 2 wg4 wg3.heap.size qua K quc QY) := hoD
      refine hK.out _ _ hS4 (fun _ => ?_)
      clear hK Kk hb4
      have HLD : Hid (∀ z, qua = some z → wg3.heap.size ≤ z.block ∧ z.block < wg4.heap.size) := fun z hz => ⟨hoD.lo z hz, hoD.hi z hz⟩
      clear hoD
      try simp only [Act.put]
      refine wpAnyH_take (i := 18) (v := .agg #[.int .i64 x, .int .i64 y, .int .i64 ex, .int .i64 ey, .slice va K vc, .slice ua K uc, .slice qva K qvc, .slice qua K quc]) rfl (by kernel_rfl) (by kernel_rfl) (by kernel_rfl) (fun _ _ _ h => h) (Or.inl ⟨by kernel_rfl, ?_⟩) (by assumption) ?_
      · intro wq hSq; go_simp
      try simp only [Act.put]
      refine wpAnyH_ready (rs := [19]) (by kernel_rfl) (by simp) ?_
      refine AllReadyH.cons rfl (fun Kk hK => ?_) AllReadyH.nil
      rw [if_pos (by kernel_rfl)]
      with_reducible refine wp_store_mid 34 (.tmp 6) (.tmp 118) ?_ (w.heap.size + 1 + 1) 0 ([.int .i64 x, .int .i64 y, .int .i64 ex, .int .i64 ey, .slice va K vc, .slice ua K uc, .slice qva K qvc, .slice qua K quc]).toArray ?_ ?_ ?_ (by kernel_rfl) (by kernel_rfl) ?_
      · exact rfl
      · exact rfl
      · exact rfl
      · exact HZd4.out.there 0 8 (by simp)
      have hSz : wq.grownBy (wg4.setCells (w.heap.size + 1 + 1) 0 [.int .i64 x, .int .i64 y, .int .i64 ex, .int .i64 ey, .slice va K vc, .slice ua K uc, .slice qva K qvc, .slice qua K quc]) (some (w.heap.size + 1 + 1)) := grown_cells hS4 0 _
      have HPz : Hid (Lies (wg4.setCells (w.heap.size + 1 + 1) 0 [.int .i64 x, .int .i64 y, .int .i64 ex, .int .i64 ey, .slice va K vc, .slice ua K uc, .slice qva K qvc, .slice qua K quc]) (w.heap.size + 1 + 1) [.int .i64 x, .int .i64 y, .int .i64 ex, .int .i64 ey, .slice va K vc, .slice ua K uc, .slice qva K qvc, .slice qua K quc]) := HZd4.out.setCells [.int .i64 x, .int .i64 y, .int .i64 ex, .int .i64 ey, .slice va K vc, .slice ua K uc, .slice qva K qvc, .slice qua K quc] 0 (by simp)
      have hcz : wg4.grownBy (wg4.setCells (w.heap.size + 1 + 1) 0 [.int .i64 x, .int .i64 y, .int .i64 ex, .int .i64 ey, .slice va K vc, .slice ua K uc, .slice qva K qvc, .slice qua K quc]) (some (w.heap.size + 1 + 1)) := grown_cells (World.grownBy.refl _ _) 0 _
      refine hK.out _ _ hSz (fun _ => ?_)
      clear hK Kk
      generalize wg4.setCells (w.heap.size + 1 + 1) 0 [.int .i64 x, .int .i64 y, .int .i64 ex, .int .i64 ey, .slice va K vc, .slice ua K uc, .slice qva K qvc, .slice qua K quc] = wz at hSz HPz hcz ⊢
      try simp only [Act.put]
      refine wpAnyH_take (i := 20) (v := .bool true) rfl (by kernel_rfl) (by kernel_rfl) (by kernel_rfl) (fun _ _ _ h => h) (Or.inl ⟨by kernel_rfl, ?_⟩) (by assumption) ?_
      · intro wq hSq; go_simp
      try simp only [Act.put]
      refine wpAnyH_done (by kernel_rfl) ?_ _
      refine NoPanic.normal ?_
      go_simp
      have HWA : Hid (Owns 2 wz w.heap.size va K vc VX) := (HVA4.out.grownR hcz (fun z hz e => by have := (HLA.out z hz).1; have := HRBQ.out; have := hHeld.size; have := hS1.size; have := hS2.size; have := hS3.size; have := hS4.size; injection e with e; omega)).mono (by have := HRBQ.out; have := hHeld.size; have := hS1.size; have := hS2.size; have := hS3.size; have := hS4.size; omega)
      have HWB : Hid (Owns 2 wz w.heap.size ua K uc VY) := (HVB4.out.grownR hcz (fun z hz e => by have := (HLB.out z hz).1; have := HRBQ.out; have := hHeld.size; have := hS1.size; have := hS2.size; have := hS3.size; have := hS4.size; injection e with e; omega)).mono (by have := HRBQ.out; have := hHeld.size; have := hS1.size; have := hS2.size; have := hS3.size; have := hS4.size; omega)
      have HWC : Hid (Owns 2 wz w.heap.size qva K qvc QX) := (HVC4.out.grownR hcz (fun z hz e => by have := (HLC.out z hz).1; have := HRBQ.out; have := hHeld.size; have := hS1.size; have := hS2.size; have := hS3.size; have := hS4.size; injection e with e; omega)).mono (by have := HRBQ.out; have := hHeld.size; have := hS1.size; have := hS2.size; have := hS3.size; have := hS4.size; omega)
      have HWD : Hid (Owns 2 wz w.heap.size qua K quc QY) := (HVD4.out.grownR hcz (fun z hz e => by have := (HLD.out z hz).1; have := HRBQ.out; have := hHeld.size; have := hS1.size; have := hS2.size; have := hS3.size; have := hS4.size; injection e with e; omega)).mono (by have := HRBQ.out; have := hHeld.size; have := hS1.size; have := hS2.size; have := hS3.size; have := hS4.size; omega)
      have HXAB : Hid (far va ua) := fun z1 z2 h1 h2 e => by have := (HLA.out z1 h1).2; have := (HLB.out z2 h2).1; have := HM1.out; have := HM2.out; have := HM3.out; have := HM4.out; omega
      have HXAC : Hid (far va qva) := fun z1 z2 h1 h2 e => by have := (HLA.out z1 h1).2; have := (HLC.out z2 h2).1; have := HM1.out; have := HM2.out; have := HM3.out; have := HM4.out; omega
      have HXAD : Hid (far va qua) := fun z1 z2 h1 h2 e => by have := (HLA.out z1 h1).2; have := (HLD.out z2 h2).1; have := HM1.out; have := HM2.out; have := HM3.out; have := HM4.out; omega
      have HXBC : Hid (far ua qva) := fun z1 z2 h1 h2 e => by have := (HLB.out z1 h1).2; have := (HLC.out z2 h2).1; have := HM1.out; have := HM2.out; have := HM3.out; have := HM4.out; omega
      have HXBD : Hid (far ua qua) := fun z1 z2 h1 h2 e => by have := (HLB.out z1 h1).2; have := (HLD.out z2 h2).1; have := HM1.out; have := HM2.out; have := HM3.out; have := HM4.out; omega
      have HXCD : Hid (far qva qua) := fun z1 z2 h1 h2 e => by have := (HLC.out z1 h1).2; have := (HLD.out z2 h2).1; have := HM1.out; have := HM2.out; have := HM3.out; have := HM4.out; omega
      have HBz : Hid (Below w.heap.size w wz) := HBq.out.grown hSz HBq.out.size (fun q hq => by injection hq with hq; omega)
      go_wp2
      exact bodyPost_ret (results_cell_tmp rfl rfl (run_loadVar_mid wz (w.heap.size + 1 + 1) 0 34 _ _ HPz.out.row Tryz.underlying34 rfl (by kernel_rfl))) rfl ⟨va, vc, ua, uc, qva, qvc, qua, quc, rfl, ⟨HWA.out, HWB.out, HWC.out, HWD.out⟩, ⟨HXAB.out, HXAC.out, HXAD.out, HXBC.out, HXBD.out, HXCD.out⟩, HBz.out⟩
end Go.Proofs.YtbcfjbkmkknmfaaGreatDoor
namespace Go.Proofs.YtbcfjbkmkknmfaaGreatDoor
open Go.RowKit

set_option maxHeartbeats 4000000 in
theorem eqProof_same {a1 a2 a3 a4 : Option Addr} {n1 n2 n3 n4 c1 c2 c3 c4 : Nat} {b1 b2 b3 b4 : Option Addr} {d1 d2 d3 d4 : Nat} {z1 z2 z3 z4 : List Int} (s1 s2 e1 e2 : Int) (w : World) (h1 : Sees w a1 n1 c1 z1) (h2 : Sees w a2 n2 c2 z2) (h3 : Sees w a3 n3 c3 z3) (h4 : Sees w a4 n4 c4 z4) (g1 : Sees w b1 n1 d1 z1) (g2 : Sees w b2 n2 d2 z2) (g3 : Sees w b3 n3 d3 z3) (g4 : Sees w b4 n4 d4 z4) :
    Calls Tryz.prog 25 #[.agg #[.int .i64 s1, .int .i64 s2, .int .i64 e1, .int .i64 e2, .slice a1 n1 c1, .slice a2 n2 c2, .slice a3 n3 c3, .slice a4 n4 c4], .agg #[.int .i64 s1, .int .i64 s2, .int .i64 e1, .int .i64 e2, .slice b1 n1 d1, .slice b2 n2 d2, .slice b3 n3 d3, .slice b4 n4 d4]] w fun e w' => e = .returned (.bool true) ∧ Below w.heap.size w w' := by
  have C1 := eqState_same (s1, s2)
  have C2 := eqState_same (e1, e2)
  dsimp only [stv] at C1 C2
  have HA : Hid (Lies ((w.alloc (.cells #[.int .i64 s1, .int .i64 s2, .int .i64 e1, .int .i64 e2, .slice a1 n1 c1, .slice a2 n2 c2, .slice a3 n3 c3, .slice a4 n4 c4] 34)).alloc (.cells #[.int .i64 s1, .int .i64 s2, .int .i64 e1, .int .i64 e2, .slice b1 n1 d1, .slice b2 n2 d2, .slice b3 n3 d3, .slice b4 n4 d4] 34)) w.heap.size [.int .i64 s1, .int .i64 s2, .int .i64 e1, .int .i64 e2, .slice a1 n1 c1, .slice a2 n2 c2, .slice a3 n3 c3, .slice a4 n4 c4]) := (lies_new _ _ _).alloc _
  have HB : Hid (Lies ((w.alloc (.cells #[.int .i64 s1, .int .i64 s2, .int .i64 e1, .int .i64 e2, .slice a1 n1 c1, .slice a2 n2 c2, .slice a3 n3 c3, .slice a4 n4 c4] 34)).alloc (.cells #[.int .i64 s1, .int .i64 s2, .int .i64 e1, .int .i64 e2, .slice b1 n1 d1, .slice b2 n2 d2, .slice b3 n3 d3, .slice b4 n4 d4] 34)) (w.heap.size + 1) [.int .i64 s1, .int .i64 s2, .int .i64 e1, .int .i64 e2, .slice b1 n1 d1, .slice b2 n2 d2, .slice b3 n3 d3, .slice b4 n4 d4]) := lies_new2 _ _ _ _
  have HW : Hid (Below w.heap.size w ((w.alloc (.cells #[.int .i64 s1, .int .i64 s2, .int .i64 e1, .int .i64 e2, .slice a1 n1 c1, .slice a2 n2 c2, .slice a3 n3 c3, .slice a4 n4 c4] 34)).alloc (.cells #[.int .i64 s1, .int .i64 s2, .int .i64 e1, .int .i64 e2, .slice b1 n1 d1, .slice b2 n2 d2, .slice b3 n3 d3, .slice b4 n4 d4] 34))) := ((Below.refl _ _).alloc (Nat.le_refl _) _).alloc (by simp) _
  have H1 : Hid (Sees w a1 n1 c1 z1) := h1
  have G1 : Hid (Sees w b1 n1 d1 z1) := g1
  have H2 : Hid (Sees w a2 n2 c2 z2) := h2
  have G2 : Hid (Sees w b2 n2 d2 z2) := g2
  have H3 : Hid (Sees w a3 n3 c3 z3) := h3
  have G3 : Hid (Sees w b3 n3 d3 z3) := g3
  have H4 : Hid (Sees w a4 n4 c4 z4) := h4
  have G4 : Hid (Sees w b4 n4 d4 z4) := g4
  clear h1 h2 h3 h4 g1 g2 g3 g4
  go_enter Tryz.func25, Tryz.ntmps25
  go_wp2_with fail
  refine (C1 _).mono ?_
  rintro e w1 ⟨rfl, hb1⟩
  have HA1 : Hid (Lies w1 w.heap.size [.int .i64 s1, .int .i64 s2, .int .i64 e1, .int .i64 e2, .slice a1 n1 c1, .slice a2 n2 c2, .slice a3 n3 c3, .slice a4 n4 c4]) := HA.out.belowS hb1
  have HB1 : Hid (Lies w1 (w.heap.size + 1) [.int .i64 s1, .int .i64 s2, .int .i64 e1, .int .i64 e2, .slice b1 n1 d1, .slice b2 n2 d2, .slice b3 n3 d3, .slice b4 n4 d4]) := HB.out.belowS hb1
  have HW1 : Hid (Below w.heap.size w w1) := HW.out.trans (hb1.mono HW.out.size)
  have x2 : w1.cell? ⟨w.heap.size, 2, none⟩ = some (.int .i64 e1) := HA1.out.at 2
  have x3 : w1.cell? ⟨w.heap.size, 3, none⟩ = some (.int .i64 e2) := HA1.out.at 3
  have y2 : w1.cell? ⟨w.heap.size + 1, 2, none⟩ = some (.int .i64 e1) := HB1.out.at 2
  have y3 : w1.cell? ⟨w.heap.size + 1, 3, none⟩ = some (.int .i64 e2) := HB1.out.at 3
  clear hb1 HA HB HW
  go_wp2_with fail
  refine (C2 _).mono ?_
  rintro e w2 ⟨rfl, hb2⟩
  have HA2 : Hid (Lies w2 w.heap.size [.int .i64 s1, .int .i64 s2, .int .i64 e1, .int .i64 e2, .slice a1 n1 c1, .slice a2 n2 c2, .slice a3 n3 c3, .slice a4 n4 c4]) := HA1.out.belowS hb2
  have HB2 : Hid (Lies w2 (w.heap.size + 1) [.int .i64 s1, .int .i64 s2, .int .i64 e1, .int .i64 e2, .slice b1 n1 d1, .slice b2 n2 d2, .slice b3 n3 d3, .slice b4 n4 d4]) := HB1.out.belowS hb2
  have HW2 : Hid (Below w.heap.size w w2) := HW1.out.trans (hb2.mono HW1.out.size)
  clear hb2 HA1 HB1 HW1 x2 x3 y2 y3
  have p : w2.cell? ⟨w.heap.size, 4, none⟩ = some (.slice a1 n1 c1) := HA2.out.at 4
  have q : w2.cell? ⟨w.heap.size + 1, 4, none⟩ = some (.slice b1 n1 d1) := HB2.out.at 4
  go_wp2_with fail
  refine (eqS_yes _ (H1.out.below HW2.out) (G1.out.below HW2.out)).mono ?_
  rintro e w3 ⟨rfl, hkk⟩
  have HK : Hid (Below w2.heap.size w2 w3) := hkk
  have HA3 : Hid (Lies w3 w.heap.size [.int .i64 s1, .int .i64 s2, .int .i64 e1, .int .i64 e2, .slice a1 n1 c1, .slice a2 n2 c2, .slice a3 n3 c3, .slice a4 n4 c4]) := HA2.out.belowS HK.out
  have HB3 : Hid (Lies w3 (w.heap.size + 1) [.int .i64 s1, .int .i64 s2, .int .i64 e1, .int .i64 e2, .slice b1 n1 d1, .slice b2 n2 d2, .slice b3 n3 d3, .slice b4 n4 d4]) := HB2.out.belowS HK.out
  have HW3 : Hid (Below w.heap.size w w3) := HW2.out.trans (HK.out.mono HW2.out.size)
  clear hkk HK HA2 HB2 HW2 p q
  have p : w3.cell? ⟨w.heap.size, 5, none⟩ = some (.slice a2 n2 c2) := HA3.out.at 5
  have q : w3.cell? ⟨w.heap.size + 1, 5, none⟩ = some (.slice b2 n2 d2) := HB3.out.at 5
  go_wp2_with fail
  refine (eqS_yes _ (H2.out.below HW3.out) (G2.out.below HW3.out)).mono ?_
  rintro e w4 ⟨rfl, hkk⟩
  have HK : Hid (Below w3.heap.size w3 w4) := hkk
  have HA4 : Hid (Lies w4 w.heap.size [.int .i64 s1, .int .i64 s2, .int .i64 e1, .int .i64 e2, .slice a1 n1 c1, .slice a2 n2 c2, .slice a3 n3 c3, .slice a4 n4 c4]) := HA3.out.belowS HK.out
  have HB4 : Hid (Lies w4 (w.heap.size + 1) [.int .i64 s1, .int .i64 s2, .int .i64 e1, .int .i64 e2, .slice b1 n1 d1, .slice b2 n2 d2, .slice b3 n3 d3, .slice b4 n4 d4]) := HB3.out.belowS HK.out
  have HW4 : Hid (Below w.heap.size w w4) := HW3.out.trans (HK.out.mono HW3.out.size)
  clear hkk HK HA3 HB3 HW3 p q
  have p : w4.cell? ⟨w.heap.size, 6, none⟩ = some (.slice a3 n3 c3) := HA4.out.at 6
  have q : w4.cell? ⟨w.heap.size + 1, 6, none⟩ = some (.slice b3 n3 d3) := HB4.out.at 6
  go_wp2_with fail
  refine (eqS_yes _ (H3.out.below HW4.out) (G3.out.below HW4.out)).mono ?_
  rintro e w5 ⟨rfl, hkk⟩
  have HK : Hid (Below w4.heap.size w4 w5) := hkk
  have HA5 : Hid (Lies w5 w.heap.size [.int .i64 s1, .int .i64 s2, .int .i64 e1, .int .i64 e2, .slice a1 n1 c1, .slice a2 n2 c2, .slice a3 n3 c3, .slice a4 n4 c4]) := HA4.out.belowS HK.out
  have HB5 : Hid (Lies w5 (w.heap.size + 1) [.int .i64 s1, .int .i64 s2, .int .i64 e1, .int .i64 e2, .slice b1 n1 d1, .slice b2 n2 d2, .slice b3 n3 d3, .slice b4 n4 d4]) := HB4.out.belowS HK.out
  have HW5 : Hid (Below w.heap.size w w5) := HW4.out.trans (HK.out.mono HW4.out.size)
  clear hkk HK HA4 HB4 HW4 p q
  have p : w5.cell? ⟨w.heap.size, 7, none⟩ = some (.slice a4 n4 c4) := HA5.out.at 7
  have q : w5.cell? ⟨w.heap.size + 1, 7, none⟩ = some (.slice b4 n4 d4) := HB5.out.at 7
  go_wp2_with fail
  refine (eqS_yes _ (H4.out.below HW5.out) (G4.out.below HW5.out)).mono ?_
  rintro e w6 ⟨rfl, hkk⟩
  have HK : Hid (Below w5.heap.size w5 w6) := hkk
  have HA6 : Hid (Lies w6 w.heap.size [.int .i64 s1, .int .i64 s2, .int .i64 e1, .int .i64 e2, .slice a1 n1 c1, .slice a2 n2 c2, .slice a3 n3 c3, .slice a4 n4 c4]) := HA5.out.belowS HK.out
  have HB6 : Hid (Lies w6 (w.heap.size + 1) [.int .i64 s1, .int .i64 s2, .int .i64 e1, .int .i64 e2, .slice b1 n1 d1, .slice b2 n2 d2, .slice b3 n3 d3, .slice b4 n4 d4]) := HB5.out.belowS HK.out
  have HW6 : Hid (Below w.heap.size w w6) := HW5.out.trans (HK.out.mono HW5.out.size)
  clear hkk HK HA5 HB5 HW5 p q
  go_wp2
  go_ret
  exact ⟨rfl, HW6.out⟩
end Go.Proofs.YtbcfjbkmkknmfaaGreatDoor
namespace Go.Proofs.YtbcfjbkmkknmfaaGreatDoor
open Go.RowKit

def M.pfn (m : M.Mc) (s : Int × Int) (n : Int) : Nat := if M.provOk m s n = true then 4 * n.toNat else 0
theorem M.pfn_le (m : M.Mc) (s : Int × Int) (n : Int) : M.pfn m s n ≤ 64 := by
  unfold M.pfn
  split
  · rename_i h
    obtain ⟨-, -, N, rfl, hN⟩ := M.provOk_parts h
    have := M.rowsN_pos hN
    omega
  · omega
def ProvPost (m : M.Mc) (s : Int × Int) (n : Int) (w : World) (e : Ending) (w' : World) : Prop :=
  ∃ (a1 : Option Addr) (c1 : Nat) (a2 : Option Addr) (c2 : Nat) (a3 : Option Addr) (c3 : Nat) (a4 : Option Addr) (c4 : Nat), e = .returned (.tuple #[.agg #[.int .i64 (M.prv m s n).s.1, .int .i64 (M.prv m s n).s.2, .int .i64 (M.prv m s n).e.1, .int .i64 (M.prv m s n).e.2, .slice a1 (M.pfn m s n) c1, .slice a2 (M.pfn m s n) c2, .slice a3 (M.pfn m s n) c3, .slice a4 (M.pfn m s n) c4], .bool (M.provOk m s n)]) ∧
    (Owns 2 w' w.heap.size a1 (M.pfn m s n) c1 (M.prv m s n).X ∧ Owns 2 w' w.heap.size a2 (M.pfn m s n) c2 (M.prv m s n).Y ∧ Owns 2 w' w.heap.size a3 (M.pfn m s n) c3 (M.prv m s n).QX ∧ Owns 2 w' w.heap.size a4 (M.pfn m s n) c4 (M.prv m s n).QY) ∧ (far a1 a2 ∧ far a1 a3 ∧ far a1 a4 ∧ far a2 a3 ∧ far a2 a4 ∧ far a3 a4) ∧ Below w.heap.size w w'
theorem provPost_out {m : M.Mc} {s : Int × Int} {n : Int} {w w' : World} {e : Ending} (h : M.provOk m s n = false) (he : e = .returned (.tuple #[.agg #[.int .i64 0, .int .i64 0, .int .i64 0, .int .i64 0, .slice none 0 0, .slice none 0 0, .slice none 0 0, .slice none 0 0], .bool false])) (hb : Below w.heap.size w w') : ProvPost m s n w e w' := by
  have e1 : M.prv m s n = M.Pf.zero := M.prv_out h
  have e2 : M.pfn m s n = 0 := if_neg (by rw [h]; decide)
  unfold ProvPost
  rw [e1, e2, h]
  exact ⟨none, 0, none, 0, none, 0, none, 0, he, ⟨Owns.empty _ _ _, Owns.empty _ _ _, Owns.empty _ _ _, Owns.empty _ _ _⟩, ⟨none_far _, none_far _, none_far _, none_far _, none_far _, none_far _⟩, hb⟩
theorem implProved_any (m : M.Mc) (s : Int × Int) (n : Int) (w : World) : Calls Tryz.prog 9 #[mcv m, stv s, .int .i64 n] w (ProvPost m s n w) := by
  cases h : M.provOk m s n with
  | false => exact (implProved_out m s n w h).mono fun e w' ⟨h1, h2⟩ => provPost_out h h1 h2
  | true =>
    obtain ⟨hm, hs, N, rfl, hN⟩ := M.provOk_parts h
    refine (implProved_in m s N w hm hs hN).mono fun e w' hp => ?_
    have e1 : M.prv m s N = m.pf s N := M.prv_in h
    have e2 : M.pfn m s N = 4 * N := if_pos h
    unfold ProvPost
    rw [e1, e2, h]
    exact hp
theorem specProved_any (m : M.Mc) (s : Int × Int) (n : Int) (w : World) : Calls Tryz.prog 10 #[mcv m, stv s, .int .i64 n] w (ProvPost m s n w) := by
  cases h : M.provOk m s n with
  | false => exact (specProved_out m s n w h).mono fun e w' ⟨h1, h2⟩ => provPost_out h h1 h2
  | true =>
    obtain ⟨hm, hs, N, rfl, hN⟩ := M.provOk_parts h
    refine (specProved_in m s N w hm hs hN).mono fun e w' hp => ?_
    have e1 : M.prv m s N = m.pf s N := M.prv_in h
    have e2 : M.pfn m s N = 4 * N := if_pos h
    unfold ProvPost
    rw [e1, e2, h]
    exact hp
end Go.Proofs.YtbcfjbkmkknmfaaGreatDoor
namespace Go.Proofs.YtbcfjbkmkknmfaaGreatDoor
open Go.RowKit

theorem Row.below2 {w0 w : World} {a : Option Addr} {len cap : Nat} {zs : List Int} (h : Row .u8 w0 a len cap zs) (hb0 : Below w0.heap.size w0 w) : Row .u8 w a len cap zs := by
  rcases h with h | ⟨x, e, hl, hm, hz, hc, hw⟩
  · exact .inl h
  · exact .inr ⟨x, e, hl, hm, hz, fun i hi => (hb0.cell (p := x.add i) (World.block_lt_of_cell? w0 _ (hc i hi))).trans (hc i hi), hw⟩
theorem two2 {j : Nat} (h : j < 2) : (#[Value.int .i64 0, .int .i64 0] : Array Value)[j]? = some (.int .i64 0) := by
  match j, h with
  | 0, _ => rfl
  | 1, _ => rfl
end Go.Proofs.YtbcfjbkmkknmfaaGreatDoor
namespace Go.Proofs.YtbcfjbkmkknmfaaGreatDoor
open Go.RowKit

theorem wrapR (x : Int) : -9223372036854775808 ≤ IntKind.i64.wrap x ∧ IntKind.i64.wrap x ≤ 9223372036854775807 := by rw [IntKind.wrap_i64]; omega
set_option maxHeartbeats 16000000 in
set_option maxRecDepth 10000 in
theorem drawProved_any {a : Option Addr} {len cap : Nat} {zs : List Int} (w : World) (hrow : Row .u8 w a len cap zs) :
    Calls Tryz.prog 8 #[.slice a len cap] w fun e w' => ∃ (m : M.Mc) (s : Int × Int) (n : Int), e = .returned (.tuple #[mcv m, stv s, .int .i64 n]) ∧ -9223372036854775808 ≤ n ∧ n ≤ 9223372036854775807 ∧ Below w.heap.size w w' := by
  have hbw : Below w.heap.size w ((w.alloc (.cells #[.int .i64 0, .int .i64 0, .int .i64 0, .int .i64 0, .int .i64 0, .int .i64 0, .int .i64 0, .int .i64 0, .int .i64 0, .int .i64 0, .int .i64 0, .int .i64 0] 27)).alloc (.cells #[.int .i64 0, .int .i64 0] 29)) := ((Below.refl _ _).alloc (Nat.le_refl _) _).alloc (by simp) _
  have HRw : Hid (Row .u8 ((w.alloc (.cells #[.int .i64 0, .int .i64 0, .int .i64 0, .int .i64 0, .int .i64 0, .int .i64 0, .int .i64 0, .int .i64 0, .int .i64 0, .int .i64 0, .int .i64 0, .int .i64 0] 27)).alloc (.cells #[.int .i64 0, .int .i64 0] 29)) a len cap zs) := hrow.below2 hbw
  have HBW : Hid (Below w.heap.size w ((w.alloc (.cells #[.int .i64 0, .int .i64 0, .int .i64 0, .int .i64 0, .int .i64 0, .int .i64 0, .int .i64 0, .int .i64 0, .int .i64 0, .int .i64 0, .int .i64 0, .int .i64 0] 27)).alloc (.cells #[.int .i64 0, .int .i64 0] 29))) := hbw
  have HZ : Hid (∀ j, (j < 12 → ((w.alloc (.cells #[.int .i64 0, .int .i64 0, .int .i64 0, .int .i64 0, .int .i64 0, .int .i64 0, .int .i64 0, .int .i64 0, .int .i64 0, .int .i64 0, .int .i64 0, .int .i64 0] 27)).alloc (.cells #[.int .i64 0, .int .i64 0] 29)).cell? ⟨w.heap.size, j, none⟩ = some (.int .i64 0)) ∧ (j < 2 → ((w.alloc (.cells #[.int .i64 0, .int .i64 0, .int .i64 0, .int .i64 0, .int .i64 0, .int .i64 0, .int .i64 0, .int .i64 0, .int .i64 0, .int .i64 0, .int .i64 0, .int .i64 0] 27)).alloc (.cells #[.int .i64 0, .int .i64 0] 29)).cell? ⟨w.heap.size + 1, j, none⟩ = some (.int .i64 0)) ∧ ((w.alloc (.cells #[.int .i64 0, .int .i64 0, .int .i64 0, .int .i64 0, .int .i64 0, .int .i64 0, .int .i64 0, .int .i64 0, .int .i64 0, .int .i64 0, .int .i64 0, .int .i64 0] 27)).alloc (.cells #[.int .i64 0, .int .i64 0] 29)).frozen? ⟨w.heap.size, j, none⟩ = false ∧ ((w.alloc (.cells #[.int .i64 0, .int .i64 0, .int .i64 0, .int .i64 0, .int .i64 0, .int .i64 0, .int .i64 0, .int .i64 0, .int .i64 0, .int .i64 0, .int .i64 0, .int .i64 0] 27)).alloc (.cells #[.int .i64 0, .int .i64 0] 29)).frozen? ⟨w.heap.size + 1, j, none⟩ = false) := fun j => by
    have e1 : (w.alloc (.cells #[.int .i64 0, .int .i64 0, .int .i64 0, .int .i64 0, .int .i64 0, .int .i64 0, .int .i64 0, .int .i64 0, .int .i64 0, .int .i64 0, .int .i64 0, .int .i64 0] 27)).heap.size = w.heap.size + 1 := by simp
    have h1 := World.cell?_alloc_new (w.alloc (.cells #[.int .i64 0, .int .i64 0, .int .i64 0, .int .i64 0, .int .i64 0, .int .i64 0, .int .i64 0, .int .i64 0, .int .i64 0, .int .i64 0, .int .i64 0, .int .i64 0] 27)) #[.int .i64 0, .int .i64 0] 29 j
    rw [e1] at h1
    have h0 := (World.cell?_alloc_lt (w := w.alloc (.cells #[.int .i64 0, .int .i64 0, .int .i64 0, .int .i64 0, .int .i64 0, .int .i64 0, .int .i64 0, .int .i64 0, .int .i64 0, .int .i64 0, .int .i64 0, .int .i64 0] 27)) (o := .cells #[.int .i64 0, .int .i64 0] 29) (a := ⟨w.heap.size, j, none⟩) (h := by simp)).trans (World.cell?_alloc_new w #[.int .i64 0, .int .i64 0, .int .i64 0, .int .i64 0, .int .i64 0, .int .i64 0, .int .i64 0, .int .i64 0, .int .i64 0, .int .i64 0, .int .i64 0, .int .i64 0] 27 j)
    refine ⟨fun h => h0.trans (zero12 h), fun h => h1.trans (two2 h), ?_, ?_⟩
    · rw [frozen?_alloc_cells]; exact frozen_one _ _ _ _
    · rw [frozen?_alloc_cells, frozen?_alloc_cells]; simp only [World.frozen?]; rw [Array.getElem?_eq_none (by omega)]
  have HSW : Hid (((w.alloc (.cells #[.int .i64 0, .int .i64 0, .int .i64 0, .int .i64 0, .int .i64 0, .int .i64 0, .int .i64 0, .int .i64 0, .int .i64 0, .int .i64 0, .int .i64 0, .int .i64 0] 27)).alloc (.cells #[.int .i64 0, .int .i64 0] 29)).heap.size = w.heap.size + 1 + 1) := by show _ = _; simp
  clear hbw hrow
  go_enter Tryz.func8, Tryz.ntmps8
  go_wp2_with fail
  refine (open_any _).mono ?_
  rintro e w1 ⟨rfl, hr1⟩
  have hsw := HSW.out
  rw [hsw]
  rw [hsw] at hr1
  generalize ((w.alloc (.cells #[.int .i64 0, .int .i64 0, .int .i64 0, .int .i64 0, .int .i64 0, .int .i64 0, .int .i64 0, .int .i64 0, .int .i64 0, .int .i64 0, .int .i64 0, .int .i64 0] 27)).alloc (.cells #[.int .i64 0, .int .i64 0] 29)) = wb at hr1 HRw HBW HZ hsw
  have HR1 : Hid (Rd wb (w.heap.size + 1 + 1) a len cap w1) := hr1
  have hs1 := hr1.hi
  have HB1 : Hid (Below wb.heap.size wb w1) := hr1.below
  have HSZ : Hid (wb.heap.size = w.heap.size + 1 + 1) := hsw
  clear hr1 hsw HSW
  go_wp2_with fail
  refine (machineR_any HRw.out _ HR1.out).mono ?_
  rintro e w2 ⟨⟨⟨a1, b1, e1, d1, f1, k1⟩, ⟨a2, b2, e2, d2, f2, k2⟩⟩, rfl, hr2, hg2⟩
  dsimp only [mcv]
  have HR2 : Hid (Rd wb (w.heap.size + 1 + 1) a len cap w2) := hr2
  have hs2 : w1.heap.size ≤ w2.heap.size := hg2.size
  clear hr2 hg2
  go_wp2_with fail
  refine (stateR_any HRw.out _ (HR2.out.alloc _)).mono ?_
  rintro e w3 ⟨⟨x, y⟩, rfl, hr3, hg3⟩
  dsimp only [stv]
  have HR3 : Hid (Rd wb (w.heap.size + 1 + 1) a len cap w3) := hr3
  have hs3 : w2.heap.size + 1 ≤ w3.heap.size := by have := hg3.size; simpa using this
  have HM3 : Hid (∀ j, w3.cell? ⟨w2.heap.size, j, none⟩ = (#[.int .i64 a1, .int .i64 b1, .int .i64 e1, .int .i64 d1, .int .i64 f1, .int .i64 k1, .int .i64 a2, .int .i64 b2, .int .i64 e2, .int .i64 d2, .int .i64 f2, .int .i64 k2] : Array Value)[j]?) := fun j => by
    by_cases hj : j < 12
    · have h := World.cell?_alloc_new w2 #[.int .i64 a1, .int .i64 b1, .int .i64 e1, .int .i64 d1, .int .i64 f1, .int .i64 k1, .int .i64 a2, .int .i64 b2, .int .i64 e2, .int .i64 d2, .int .i64 f2, .int .i64 k2] 27 j
      rw [Array.getElem?_eq_getElem (by simpa using hj)] at h ⊢
      exact hg3.cell h (by simp; omega)
    · have hb : w3.heap[w2.heap.size]? = (w2.alloc (.cells #[.int .i64 a1, .int .i64 b1, .int .i64 e1, .int .i64 d1, .int .i64 f1, .int .i64 k1, .int .i64 a2, .int .i64 b2, .int .i64 e2, .int .i64 d2, .int .i64 f2, .int .i64 k2] 27)).heap[w2.heap.size]? := hg3.block _ (by simp) (by simp; omega)
      have h := World.cell?_alloc_new w2 #[.int .i64 a1, .int .i64 b1, .int .i64 e1, .int .i64 d1, .int .i64 f1, .int .i64 k1, .int .i64 a2, .int .i64 b2, .int .i64 e2, .int .i64 d2, .int .i64 f2, .int .i64 k2] 27 j
      simp only [World.cell?] at h ⊢
      rw [hb]; exact h
  clear hr3 hg3
  go_wp2_with fail
  refine (once_any HRw.out 12 (by omega) (by omega) _ (HR3.out.alloc _)).mono ?_
  rintro e w4 ⟨ob, rfl, hr4, hg4⟩
  have HR4 : Hid (Rd wb (w.heap.size + 1 + 1) a len cap w4) := hr4
  have hs4 : w3.heap.size + 1 ≤ w4.heap.size := by have := hg4.size; simpa using this
  have hgm : w3.grownBy w4 (some (w.heap.size + 1 + 1)) := grown_alloc2 hg4
  have HB4 : Hid (Below wb.heap.size wb w4) := hr4.below

  have HK : Hid (∀ W, w4.grownBy W (some (w.heap.size + 1 + 1)) → Rd wb (w.heap.size + 1 + 1) a len cap W → (W.cell? ⟨w2.heap.size, 0, none⟩ = some (.int .i64 a1) ∧ W.cell? ⟨w2.heap.size, 1, none⟩ = some (.int .i64 b1) ∧ W.cell? ⟨w2.heap.size, 2, none⟩ = some (.int .i64 e1) ∧ W.cell? ⟨w2.heap.size, 3, none⟩ = some (.int .i64 d1) ∧ W.cell? ⟨w2.heap.size, 4, none⟩ = some (.int .i64 f1) ∧ W.cell? ⟨w2.heap.size, 5, none⟩ = some (.int .i64 k1) ∧ W.cell? ⟨w2.heap.size, 6, none⟩ = some (.int .i64 a2) ∧ W.cell? ⟨w2.heap.size, 7, none⟩ = some (.int .i64 b2) ∧ W.cell? ⟨w2.heap.size, 8, none⟩ = some (.int .i64 e2) ∧ W.cell? ⟨w2.heap.size, 9, none⟩ = some (.int .i64 d2) ∧ W.cell? ⟨w2.heap.size, 10, none⟩ = some (.int .i64 f2) ∧ W.cell? ⟨w2.heap.size, 11, none⟩ = some (.int .i64 k2) ∧ W.cell? ⟨w3.heap.size, 0, none⟩ = some (.int .i64 x) ∧ W.cell? ⟨w3.heap.size, 1, none⟩ = some (.int .i64 y)) ∧ (W.cell? ⟨w.heap.size, 0, none⟩ = some (.int .i64 0) ∧ W.cell? ⟨w.heap.size, 1, none⟩ = some (.int .i64 0) ∧ W.cell? ⟨w.heap.size, 2, none⟩ = some (.int .i64 0) ∧ W.cell? ⟨w.heap.size, 3, none⟩ = some (.int .i64 0) ∧ W.cell? ⟨w.heap.size, 4, none⟩ = some (.int .i64 0) ∧ W.cell? ⟨w.heap.size, 5, none⟩ = some (.int .i64 0) ∧ W.cell? ⟨w.heap.size, 6, none⟩ = some (.int .i64 0) ∧ W.cell? ⟨w.heap.size, 7, none⟩ = some (.int .i64 0) ∧ W.cell? ⟨w.heap.size, 8, none⟩ = some (.int .i64 0) ∧ W.cell? ⟨w.heap.size, 9, none⟩ = some (.int .i64 0) ∧ W.cell? ⟨w.heap.size, 10, none⟩ = some (.int .i64 0) ∧ W.cell? ⟨w.heap.size, 11, none⟩ = some (.int .i64 0) ∧ W.cell? ⟨w.heap.size + 1, 0, none⟩ = some (.int .i64 0) ∧ W.cell? ⟨w.heap.size + 1, 1, none⟩ = some (.int .i64 0) ∧ W.frozen? ⟨w.heap.size, 0, none⟩ = false ∧ W.frozen? ⟨w.heap.size, 1, none⟩ = false ∧ W.frozen? ⟨w.heap.size, 2, none⟩ = false ∧ W.frozen? ⟨w.heap.size, 3, none⟩ = false ∧ W.frozen? ⟨w.heap.size, 4, none⟩ = false ∧ W.frozen? ⟨w.heap.size, 5, none⟩ = false ∧ W.frozen? ⟨w.heap.size, 6, none⟩ = false ∧ W.frozen? ⟨w.heap.size, 7, none⟩ = false ∧ W.frozen? ⟨w.heap.size, 8, none⟩ = false ∧ W.frozen? ⟨w.heap.size, 9, none⟩ = false ∧ W.frozen? ⟨w.heap.size, 10, none⟩ = false ∧ W.frozen? ⟨w.heap.size, 11, none⟩ = false ∧ W.frozen? ⟨w.heap.size + 1, 0, none⟩ = false ∧ W.frozen? ⟨w.heap.size + 1, 1, none⟩ = false)) := fun W hg hr => by
    have q : ∀ j v, w3.cell? ⟨w2.heap.size, j, none⟩ = some v → W.cell? ⟨w2.heap.size, j, none⟩ = some v := fun j v h => hg.cell (hgm.cell h (by simp; omega)) (by simp; omega)
    have r : ∀ j v, (#[.int .i64 x, .int .i64 y] : Array Value)[j]? = some v → W.cell? ⟨w3.heap.size, j, none⟩ = some v := fun j v h => hg.cell (hg4.cell ((World.cell?_alloc_new _ _ _ _).trans h) (by simp; omega)) (by simp; omega)
    have z := HZ.out
    have b := hr.below
    have hsw := HSZ.out
    exact ⟨⟨q 0 _ (HM3.out 0), q 1 _ (HM3.out 1), q 2 _ (HM3.out 2), q 3 _ (HM3.out 3), q 4 _ (HM3.out 4), q 5 _ (HM3.out 5), q 6 _ (HM3.out 6), q 7 _ (HM3.out 7), q 8 _ (HM3.out 8), q 9 _ (HM3.out 9), q 10 _ (HM3.out 10), q 11 _ (HM3.out 11), r 0 _ rfl, r 1 _ rfl⟩, (b.cell (p := ⟨w.heap.size, 0, none⟩) (by show w.heap.size < _; omega)).trans ((z 0).1 (by omega)), (b.cell (p := ⟨w.heap.size, 1, none⟩) (by show w.heap.size < _; omega)).trans ((z 1).1 (by omega)), (b.cell (p := ⟨w.heap.size, 2, none⟩) (by show w.heap.size < _; omega)).trans ((z 2).1 (by omega)), (b.cell (p := ⟨w.heap.size, 3, none⟩) (by show w.heap.size < _; omega)).trans ((z 3).1 (by omega)), (b.cell (p := ⟨w.heap.size, 4, none⟩) (by show w.heap.size < _; omega)).trans ((z 4).1 (by omega)), (b.cell (p := ⟨w.heap.size, 5, none⟩) (by show w.heap.size < _; omega)).trans ((z 5).1 (by omega)), (b.cell (p := ⟨w.heap.size, 6, none⟩) (by show w.heap.size < _; omega)).trans ((z 6).1 (by omega)), (b.cell (p := ⟨w.heap.size, 7, none⟩) (by show w.heap.size < _; omega)).trans ((z 7).1 (by omega)), (b.cell (p := ⟨w.heap.size, 8, none⟩) (by show w.heap.size < _; omega)).trans ((z 8).1 (by omega)), (b.cell (p := ⟨w.heap.size, 9, none⟩) (by show w.heap.size < _; omega)).trans ((z 9).1 (by omega)), (b.cell (p := ⟨w.heap.size, 10, none⟩) (by show w.heap.size < _; omega)).trans ((z 10).1 (by omega)), (b.cell (p := ⟨w.heap.size, 11, none⟩) (by show w.heap.size < _; omega)).trans ((z 11).1 (by omega)), (b.cell (p := ⟨w.heap.size + 1, 0, none⟩) (by show w.heap.size + 1 < _; omega)).trans ((z 0).2.1 (by omega)), (b.cell (p := ⟨w.heap.size + 1, 1, none⟩) (by show w.heap.size + 1 < _; omega)).trans ((z 1).2.1 (by omega)), (frozen_kept b (show w.heap.size < _ by omega)).trans (z 0).2.2.1, (frozen_kept b (show w.heap.size < _ by omega)).trans (z 1).2.2.1, (frozen_kept b (show w.heap.size < _ by omega)).trans (z 2).2.2.1, (frozen_kept b (show w.heap.size < _ by omega)).trans (z 3).2.2.1, (frozen_kept b (show w.heap.size < _ by omega)).trans (z 4).2.2.1, (frozen_kept b (show w.heap.size < _ by omega)).trans (z 5).2.2.1, (frozen_kept b (show w.heap.size < _ by omega)).trans (z 6).2.2.1, (frozen_kept b (show w.heap.size < _ by omega)).trans (z 7).2.2.1, (frozen_kept b (show w.heap.size < _ by omega)).trans (z 8).2.2.1, (frozen_kept b (show w.heap.size < _ by omega)).trans (z 9).2.2.1, (frozen_kept b (show w.heap.size < _ by omega)).trans (z 10).2.2.1, (frozen_kept b (show w.heap.size < _ by omega)).trans (z 11).2.2.1, (frozen_kept b (show w.heap.size + 1 < _ by omega)).trans (z 0).2.2.2, (frozen_kept b (show w.heap.size + 1 < _ by omega)).trans (z 1).2.2.2⟩
  clear hgm hg4 hr4 HM3
  have HST1 : Hid (∀ W : World, (W.cell? ⟨w2.heap.size, 0, none⟩ = some (.int .i64 a1) ∧ W.cell? ⟨w2.heap.size, 1, none⟩ = some (.int .i64 b1) ∧ W.cell? ⟨w2.heap.size, 2, none⟩ = some (.int .i64 e1) ∧ W.cell? ⟨w2.heap.size, 3, none⟩ = some (.int .i64 d1) ∧ W.cell? ⟨w2.heap.size, 4, none⟩ = some (.int .i64 f1) ∧ W.cell? ⟨w2.heap.size, 5, none⟩ = some (.int .i64 k1) ∧ W.cell? ⟨w2.heap.size, 6, none⟩ = some (.int .i64 a2) ∧ W.cell? ⟨w2.heap.size, 7, none⟩ = some (.int .i64 b2) ∧ W.cell? ⟨w2.heap.size, 8, none⟩ = some (.int .i64 e2) ∧ W.cell? ⟨w2.heap.size, 9, none⟩ = some (.int .i64 d2) ∧ W.cell? ⟨w2.heap.size, 10, none⟩ = some (.int .i64 f2) ∧ W.cell? ⟨w2.heap.size, 11, none⟩ = some (.int .i64 k2) ∧ W.cell? ⟨w3.heap.size, 0, none⟩ = some (.int .i64 x) ∧ W.cell? ⟨w3.heap.size, 1, none⟩ = some (.int .i64 y)) → (((((((((((((W.setCell ⟨w.heap.size, 0, none⟩ (.int .i64 a1)).setCell ⟨w.heap.size, 1, none⟩ (.int .i64 b1)).setCell ⟨w.heap.size, 2, none⟩ (.int .i64 e1)).setCell ⟨w.heap.size, 3, none⟩ (.int .i64 d1)).setCell ⟨w.heap.size, 4, none⟩ (.int .i64 f1)).setCell ⟨w.heap.size, 5, none⟩ (.int .i64 k1)).setCell ⟨w.heap.size, 6, none⟩ (.int .i64 a2)).setCell ⟨w.heap.size, 7, none⟩ (.int .i64 b2)).setCell ⟨w.heap.size, 8, none⟩ (.int .i64 e2)).setCell ⟨w.heap.size, 9, none⟩ (.int .i64 d2)).setCell ⟨w.heap.size, 10, none⟩ (.int .i64 f2)).setCell ⟨w.heap.size, 11, none⟩ (.int .i64 k2)).cell? ⟨w2.heap.size, 0, none⟩ = some (.int .i64 a1) ∧ ((((((((((((W.setCell ⟨w.heap.size, 0, none⟩ (.int .i64 a1)).setCell ⟨w.heap.size, 1, none⟩ (.int .i64 b1)).setCell ⟨w.heap.size, 2, none⟩ (.int .i64 e1)).setCell ⟨w.heap.size, 3, none⟩ (.int .i64 d1)).setCell ⟨w.heap.size, 4, none⟩ (.int .i64 f1)).setCell ⟨w.heap.size, 5, none⟩ (.int .i64 k1)).setCell ⟨w.heap.size, 6, none⟩ (.int .i64 a2)).setCell ⟨w.heap.size, 7, none⟩ (.int .i64 b2)).setCell ⟨w.heap.size, 8, none⟩ (.int .i64 e2)).setCell ⟨w.heap.size, 9, none⟩ (.int .i64 d2)).setCell ⟨w.heap.size, 10, none⟩ (.int .i64 f2)).setCell ⟨w.heap.size, 11, none⟩ (.int .i64 k2)).cell? ⟨w2.heap.size, 1, none⟩ = some (.int .i64 b1) ∧ ((((((((((((W.setCell ⟨w.heap.size, 0, none⟩ (.int .i64 a1)).setCell ⟨w.heap.size, 1, none⟩ (.int .i64 b1)).setCell ⟨w.heap.size, 2, none⟩ (.int .i64 e1)).setCell ⟨w.heap.size, 3, none⟩ (.int .i64 d1)).setCell ⟨w.heap.size, 4, none⟩ (.int .i64 f1)).setCell ⟨w.heap.size, 5, none⟩ (.int .i64 k1)).setCell ⟨w.heap.size, 6, none⟩ (.int .i64 a2)).setCell ⟨w.heap.size, 7, none⟩ (.int .i64 b2)).setCell ⟨w.heap.size, 8, none⟩ (.int .i64 e2)).setCell ⟨w.heap.size, 9, none⟩ (.int .i64 d2)).setCell ⟨w.heap.size, 10, none⟩ (.int .i64 f2)).setCell ⟨w.heap.size, 11, none⟩ (.int .i64 k2)).cell? ⟨w2.heap.size, 2, none⟩ = some (.int .i64 e1) ∧ ((((((((((((W.setCell ⟨w.heap.size, 0, none⟩ (.int .i64 a1)).setCell ⟨w.heap.size, 1, none⟩ (.int .i64 b1)).setCell ⟨w.heap.size, 2, none⟩ (.int .i64 e1)).setCell ⟨w.heap.size, 3, none⟩ (.int .i64 d1)).setCell ⟨w.heap.size, 4, none⟩ (.int .i64 f1)).setCell ⟨w.heap.size, 5, none⟩ (.int .i64 k1)).setCell ⟨w.heap.size, 6, none⟩ (.int .i64 a2)).setCell ⟨w.heap.size, 7, none⟩ (.int .i64 b2)).setCell ⟨w.heap.size, 8, none⟩ (.int .i64 e2)).setCell ⟨w.heap.size, 9, none⟩ (.int .i64 d2)).setCell ⟨w.heap.size, 10, none⟩ (.int .i64 f2)).setCell ⟨w.heap.size, 11, none⟩ (.int .i64 k2)).cell? ⟨w2.heap.size, 3, none⟩ = some (.int .i64 d1) ∧ ((((((((((((W.setCell ⟨w.heap.size, 0, none⟩ (.int .i64 a1)).setCell ⟨w.heap.size, 1, none⟩ (.int .i64 b1)).setCell ⟨w.heap.size, 2, none⟩ (.int .i64 e1)).setCell ⟨w.heap.size, 3, none⟩ (.int .i64 d1)).setCell ⟨w.heap.size, 4, none⟩ (.int .i64 f1)).setCell ⟨w.heap.size, 5, none⟩ (.int .i64 k1)).setCell ⟨w.heap.size, 6, none⟩ (.int .i64 a2)).setCell ⟨w.heap.size, 7, none⟩ (.int .i64 b2)).setCell ⟨w.heap.size, 8, none⟩ (.int .i64 e2)).setCell ⟨w.heap.size, 9, none⟩ (.int .i64 d2)).setCell ⟨w.heap.size, 10, none⟩ (.int .i64 f2)).setCell ⟨w.heap.size, 11, none⟩ (.int .i64 k2)).cell? ⟨w2.heap.size, 4, none⟩ = some (.int .i64 f1) ∧ ((((((((((((W.setCell ⟨w.heap.size, 0, none⟩ (.int .i64 a1)).setCell ⟨w.heap.size, 1, none⟩ (.int .i64 b1)).setCell ⟨w.heap.size, 2, none⟩ (.int .i64 e1)).setCell ⟨w.heap.size, 3, none⟩ (.int .i64 d1)).setCell ⟨w.heap.size, 4, none⟩ (.int .i64 f1)).setCell ⟨w.heap.size, 5, none⟩ (.int .i64 k1)).setCell ⟨w.heap.size, 6, none⟩ (.int .i64 a2)).setCell ⟨w.heap.size, 7, none⟩ (.int .i64 b2)).setCell ⟨w.heap.size, 8, none⟩ (.int .i64 e2)).setCell ⟨w.heap.size, 9, none⟩ (.int .i64 d2)).setCell ⟨w.heap.size, 10, none⟩ (.int .i64 f2)).setCell ⟨w.heap.size, 11, none⟩ (.int .i64 k2)).cell? ⟨w2.heap.size, 5, none⟩ = some (.int .i64 k1) ∧ ((((((((((((W.setCell ⟨w.heap.size, 0, none⟩ (.int .i64 a1)).setCell ⟨w.heap.size, 1, none⟩ (.int .i64 b1)).setCell ⟨w.heap.size, 2, none⟩ (.int .i64 e1)).setCell ⟨w.heap.size, 3, none⟩ (.int .i64 d1)).setCell ⟨w.heap.size, 4, none⟩ (.int .i64 f1)).setCell ⟨w.heap.size, 5, none⟩ (.int .i64 k1)).setCell ⟨w.heap.size, 6, none⟩ (.int .i64 a2)).setCell ⟨w.heap.size, 7, none⟩ (.int .i64 b2)).setCell ⟨w.heap.size, 8, none⟩ (.int .i64 e2)).setCell ⟨w.heap.size, 9, none⟩ (.int .i64 d2)).setCell ⟨w.heap.size, 10, none⟩ (.int .i64 f2)).setCell ⟨w.heap.size, 11, none⟩ (.int .i64 k2)).cell? ⟨w2.heap.size, 6, none⟩ = some (.int .i64 a2) ∧ ((((((((((((W.setCell ⟨w.heap.size, 0, none⟩ (.int .i64 a1)).setCell ⟨w.heap.size, 1, none⟩ (.int .i64 b1)).setCell ⟨w.heap.size, 2, none⟩ (.int .i64 e1)).setCell ⟨w.heap.size, 3, none⟩ (.int .i64 d1)).setCell ⟨w.heap.size, 4, none⟩ (.int .i64 f1)).setCell ⟨w.heap.size, 5, none⟩ (.int .i64 k1)).setCell ⟨w.heap.size, 6, none⟩ (.int .i64 a2)).setCell ⟨w.heap.size, 7, none⟩ (.int .i64 b2)).setCell ⟨w.heap.size, 8, none⟩ (.int .i64 e2)).setCell ⟨w.heap.size, 9, none⟩ (.int .i64 d2)).setCell ⟨w.heap.size, 10, none⟩ (.int .i64 f2)).setCell ⟨w.heap.size, 11, none⟩ (.int .i64 k2)).cell? ⟨w2.heap.size, 7, none⟩ = some (.int .i64 b2) ∧ ((((((((((((W.setCell ⟨w.heap.size, 0, none⟩ (.int .i64 a1)).setCell ⟨w.heap.size, 1, none⟩ (.int .i64 b1)).setCell ⟨w.heap.size, 2, none⟩ (.int .i64 e1)).setCell ⟨w.heap.size, 3, none⟩ (.int .i64 d1)).setCell ⟨w.heap.size, 4, none⟩ (.int .i64 f1)).setCell ⟨w.heap.size, 5, none⟩ (.int .i64 k1)).setCell ⟨w.heap.size, 6, none⟩ (.int .i64 a2)).setCell ⟨w.heap.size, 7, none⟩ (.int .i64 b2)).setCell ⟨w.heap.size, 8, none⟩ (.int .i64 e2)).setCell ⟨w.heap.size, 9, none⟩ (.int .i64 d2)).setCell ⟨w.heap.size, 10, none⟩ (.int .i64 f2)).setCell ⟨w.heap.size, 11, none⟩ (.int .i64 k2)).cell? ⟨w2.heap.size, 8, none⟩ = some (.int .i64 e2) ∧ ((((((((((((W.setCell ⟨w.heap.size, 0, none⟩ (.int .i64 a1)).setCell ⟨w.heap.size, 1, none⟩ (.int .i64 b1)).setCell ⟨w.heap.size, 2, none⟩ (.int .i64 e1)).setCell ⟨w.heap.size, 3, none⟩ (.int .i64 d1)).setCell ⟨w.heap.size, 4, none⟩ (.int .i64 f1)).setCell ⟨w.heap.size, 5, none⟩ (.int .i64 k1)).setCell ⟨w.heap.size, 6, none⟩ (.int .i64 a2)).setCell ⟨w.heap.size, 7, none⟩ (.int .i64 b2)).setCell ⟨w.heap.size, 8, none⟩ (.int .i64 e2)).setCell ⟨w.heap.size, 9, none⟩ (.int .i64 d2)).setCell ⟨w.heap.size, 10, none⟩ (.int .i64 f2)).setCell ⟨w.heap.size, 11, none⟩ (.int .i64 k2)).cell? ⟨w2.heap.size, 9, none⟩ = some (.int .i64 d2) ∧ ((((((((((((W.setCell ⟨w.heap.size, 0, none⟩ (.int .i64 a1)).setCell ⟨w.heap.size, 1, none⟩ (.int .i64 b1)).setCell ⟨w.heap.size, 2, none⟩ (.int .i64 e1)).setCell ⟨w.heap.size, 3, none⟩ (.int .i64 d1)).setCell ⟨w.heap.size, 4, none⟩ (.int .i64 f1)).setCell ⟨w.heap.size, 5, none⟩ (.int .i64 k1)).setCell ⟨w.heap.size, 6, none⟩ (.int .i64 a2)).setCell ⟨w.heap.size, 7, none⟩ (.int .i64 b2)).setCell ⟨w.heap.size, 8, none⟩ (.int .i64 e2)).setCell ⟨w.heap.size, 9, none⟩ (.int .i64 d2)).setCell ⟨w.heap.size, 10, none⟩ (.int .i64 f2)).setCell ⟨w.heap.size, 11, none⟩ (.int .i64 k2)).cell? ⟨w2.heap.size, 10, none⟩ = some (.int .i64 f2) ∧ ((((((((((((W.setCell ⟨w.heap.size, 0, none⟩ (.int .i64 a1)).setCell ⟨w.heap.size, 1, none⟩ (.int .i64 b1)).setCell ⟨w.heap.size, 2, none⟩ (.int .i64 e1)).setCell ⟨w.heap.size, 3, none⟩ (.int .i64 d1)).setCell ⟨w.heap.size, 4, none⟩ (.int .i64 f1)).setCell ⟨w.heap.size, 5, none⟩ (.int .i64 k1)).setCell ⟨w.heap.size, 6, none⟩ (.int .i64 a2)).setCell ⟨w.heap.size, 7, none⟩ (.int .i64 b2)).setCell ⟨w.heap.size, 8, none⟩ (.int .i64 e2)).setCell ⟨w.heap.size, 9, none⟩ (.int .i64 d2)).setCell ⟨w.heap.size, 10, none⟩ (.int .i64 f2)).setCell ⟨w.heap.size, 11, none⟩ (.int .i64 k2)).cell? ⟨w2.heap.size, 11, none⟩ = some (.int .i64 k2) ∧ ((((((((((((W.setCell ⟨w.heap.size, 0, none⟩ (.int .i64 a1)).setCell ⟨w.heap.size, 1, none⟩ (.int .i64 b1)).setCell ⟨w.heap.size, 2, none⟩ (.int .i64 e1)).setCell ⟨w.heap.size, 3, none⟩ (.int .i64 d1)).setCell ⟨w.heap.size, 4, none⟩ (.int .i64 f1)).setCell ⟨w.heap.size, 5, none⟩ (.int .i64 k1)).setCell ⟨w.heap.size, 6, none⟩ (.int .i64 a2)).setCell ⟨w.heap.size, 7, none⟩ (.int .i64 b2)).setCell ⟨w.heap.size, 8, none⟩ (.int .i64 e2)).setCell ⟨w.heap.size, 9, none⟩ (.int .i64 d2)).setCell ⟨w.heap.size, 10, none⟩ (.int .i64 f2)).setCell ⟨w.heap.size, 11, none⟩ (.int .i64 k2)).cell? ⟨w3.heap.size, 0, none⟩ = some (.int .i64 x) ∧ ((((((((((((W.setCell ⟨w.heap.size, 0, none⟩ (.int .i64 a1)).setCell ⟨w.heap.size, 1, none⟩ (.int .i64 b1)).setCell ⟨w.heap.size, 2, none⟩ (.int .i64 e1)).setCell ⟨w.heap.size, 3, none⟩ (.int .i64 d1)).setCell ⟨w.heap.size, 4, none⟩ (.int .i64 f1)).setCell ⟨w.heap.size, 5, none⟩ (.int .i64 k1)).setCell ⟨w.heap.size, 6, none⟩ (.int .i64 a2)).setCell ⟨w.heap.size, 7, none⟩ (.int .i64 b2)).setCell ⟨w.heap.size, 8, none⟩ (.int .i64 e2)).setCell ⟨w.heap.size, 9, none⟩ (.int .i64 d2)).setCell ⟨w.heap.size, 10, none⟩ (.int .i64 f2)).setCell ⟨w.heap.size, 11, none⟩ (.int .i64 k2)).cell? ⟨w3.heap.size, 1, none⟩ = some (.int .i64 y))) := fun W ⟨g0, g1, g2, g3, g4, g5, g6, g7, g8, g9, g10, g11, g12, g13⟩ => ⟨(sets_far (w.heap.size) (p := ⟨w2.heap.size, 0, none⟩) (show w2.heap.size ≠ w.heap.size by omega) [Value.int .i64 a1, Value.int .i64 b1, Value.int .i64 e1, Value.int .i64 d1, Value.int .i64 f1, Value.int .i64 k1, Value.int .i64 a2, Value.int .i64 b2, Value.int .i64 e2, Value.int .i64 d2, Value.int .i64 f2, Value.int .i64 k2] W 0).trans g0, (sets_far (w.heap.size) (p := ⟨w2.heap.size, 1, none⟩) (show w2.heap.size ≠ w.heap.size by omega) [Value.int .i64 a1, Value.int .i64 b1, Value.int .i64 e1, Value.int .i64 d1, Value.int .i64 f1, Value.int .i64 k1, Value.int .i64 a2, Value.int .i64 b2, Value.int .i64 e2, Value.int .i64 d2, Value.int .i64 f2, Value.int .i64 k2] W 0).trans g1, (sets_far (w.heap.size) (p := ⟨w2.heap.size, 2, none⟩) (show w2.heap.size ≠ w.heap.size by omega) [Value.int .i64 a1, Value.int .i64 b1, Value.int .i64 e1, Value.int .i64 d1, Value.int .i64 f1, Value.int .i64 k1, Value.int .i64 a2, Value.int .i64 b2, Value.int .i64 e2, Value.int .i64 d2, Value.int .i64 f2, Value.int .i64 k2] W 0).trans g2, (sets_far (w.heap.size) (p := ⟨w2.heap.size, 3, none⟩) (show w2.heap.size ≠ w.heap.size by omega) [Value.int .i64 a1, Value.int .i64 b1, Value.int .i64 e1, Value.int .i64 d1, Value.int .i64 f1, Value.int .i64 k1, Value.int .i64 a2, Value.int .i64 b2, Value.int .i64 e2, Value.int .i64 d2, Value.int .i64 f2, Value.int .i64 k2] W 0).trans g3, (sets_far (w.heap.size) (p := ⟨w2.heap.size, 4, none⟩) (show w2.heap.size ≠ w.heap.size by omega) [Value.int .i64 a1, Value.int .i64 b1, Value.int .i64 e1, Value.int .i64 d1, Value.int .i64 f1, Value.int .i64 k1, Value.int .i64 a2, Value.int .i64 b2, Value.int .i64 e2, Value.int .i64 d2, Value.int .i64 f2, Value.int .i64 k2] W 0).trans g4, (sets_far (w.heap.size) (p := ⟨w2.heap.size, 5, none⟩) (show w2.heap.size ≠ w.heap.size by omega) [Value.int .i64 a1, Value.int .i64 b1, Value.int .i64 e1, Value.int .i64 d1, Value.int .i64 f1, Value.int .i64 k1, Value.int .i64 a2, Value.int .i64 b2, Value.int .i64 e2, Value.int .i64 d2, Value.int .i64 f2, Value.int .i64 k2] W 0).trans g5, (sets_far (w.heap.size) (p := ⟨w2.heap.size, 6, none⟩) (show w2.heap.size ≠ w.heap.size by omega) [Value.int .i64 a1, Value.int .i64 b1, Value.int .i64 e1, Value.int .i64 d1, Value.int .i64 f1, Value.int .i64 k1, Value.int .i64 a2, Value.int .i64 b2, Value.int .i64 e2, Value.int .i64 d2, Value.int .i64 f2, Value.int .i64 k2] W 0).trans g6, (sets_far (w.heap.size) (p := ⟨w2.heap.size, 7, none⟩) (show w2.heap.size ≠ w.heap.size by omega) [Value.int .i64 a1, Value.int .i64 b1, Value.int .i64 e1, Value.int .i64 d1, Value.int .i64 f1, Value.int .i64 k1, Value.int .i64 a2, Value.int .i64 b2, Value.int .i64 e2, Value.int .i64 d2, Value.int .i64 f2, Value.int .i64 k2] W 0).trans g7, (sets_far (w.heap.size) (p := ⟨w2.heap.size, 8, none⟩) (show w2.heap.size ≠ w.heap.size by omega) [Value.int .i64 a1, Value.int .i64 b1, Value.int .i64 e1, Value.int .i64 d1, Value.int .i64 f1, Value.int .i64 k1, Value.int .i64 a2, Value.int .i64 b2, Value.int .i64 e2, Value.int .i64 d2, Value.int .i64 f2, Value.int .i64 k2] W 0).trans g8, (sets_far (w.heap.size) (p := ⟨w2.heap.size, 9, none⟩) (show w2.heap.size ≠ w.heap.size by omega) [Value.int .i64 a1, Value.int .i64 b1, Value.int .i64 e1, Value.int .i64 d1, Value.int .i64 f1, Value.int .i64 k1, Value.int .i64 a2, Value.int .i64 b2, Value.int .i64 e2, Value.int .i64 d2, Value.int .i64 f2, Value.int .i64 k2] W 0).trans g9, (sets_far (w.heap.size) (p := ⟨w2.heap.size, 10, none⟩) (show w2.heap.size ≠ w.heap.size by omega) [Value.int .i64 a1, Value.int .i64 b1, Value.int .i64 e1, Value.int .i64 d1, Value.int .i64 f1, Value.int .i64 k1, Value.int .i64 a2, Value.int .i64 b2, Value.int .i64 e2, Value.int .i64 d2, Value.int .i64 f2, Value.int .i64 k2] W 0).trans g10, (sets_far (w.heap.size) (p := ⟨w2.heap.size, 11, none⟩) (show w2.heap.size ≠ w.heap.size by omega) [Value.int .i64 a1, Value.int .i64 b1, Value.int .i64 e1, Value.int .i64 d1, Value.int .i64 f1, Value.int .i64 k1, Value.int .i64 a2, Value.int .i64 b2, Value.int .i64 e2, Value.int .i64 d2, Value.int .i64 f2, Value.int .i64 k2] W 0).trans g11, (sets_far (w.heap.size) (p := ⟨w3.heap.size, 0, none⟩) (show w3.heap.size ≠ w.heap.size by omega) [Value.int .i64 a1, Value.int .i64 b1, Value.int .i64 e1, Value.int .i64 d1, Value.int .i64 f1, Value.int .i64 k1, Value.int .i64 a2, Value.int .i64 b2, Value.int .i64 e2, Value.int .i64 d2, Value.int .i64 f2, Value.int .i64 k2] W 0).trans g12, (sets_far (w.heap.size) (p := ⟨w3.heap.size, 1, none⟩) (show w3.heap.size ≠ w.heap.size by omega) [Value.int .i64 a1, Value.int .i64 b1, Value.int .i64 e1, Value.int .i64 d1, Value.int .i64 f1, Value.int .i64 k1, Value.int .i64 a2, Value.int .i64 b2, Value.int .i64 e2, Value.int .i64 d2, Value.int .i64 f2, Value.int .i64 k2] W 0).trans g13⟩
  have HST2 : Hid (∀ W : World, (W.cell? ⟨w2.heap.size, 0, none⟩ = some (.int .i64 a1) ∧ W.cell? ⟨w2.heap.size, 1, none⟩ = some (.int .i64 b1) ∧ W.cell? ⟨w2.heap.size, 2, none⟩ = some (.int .i64 e1) ∧ W.cell? ⟨w2.heap.size, 3, none⟩ = some (.int .i64 d1) ∧ W.cell? ⟨w2.heap.size, 4, none⟩ = some (.int .i64 f1) ∧ W.cell? ⟨w2.heap.size, 5, none⟩ = some (.int .i64 k1) ∧ W.cell? ⟨w2.heap.size, 6, none⟩ = some (.int .i64 a2) ∧ W.cell? ⟨w2.heap.size, 7, none⟩ = some (.int .i64 b2) ∧ W.cell? ⟨w2.heap.size, 8, none⟩ = some (.int .i64 e2) ∧ W.cell? ⟨w2.heap.size, 9, none⟩ = some (.int .i64 d2) ∧ W.cell? ⟨w2.heap.size, 10, none⟩ = some (.int .i64 f2) ∧ W.cell? ⟨w2.heap.size, 11, none⟩ = some (.int .i64 k2) ∧ W.cell? ⟨w3.heap.size, 0, none⟩ = some (.int .i64 x) ∧ W.cell? ⟨w3.heap.size, 1, none⟩ = some (.int .i64 y)) → (((W.setCell ⟨w.heap.size + 1, 0, none⟩ (.int .i64 x)).setCell ⟨w.heap.size + 1, 1, none⟩ (.int .i64 y)).cell? ⟨w2.heap.size, 0, none⟩ = some (.int .i64 a1) ∧ ((W.setCell ⟨w.heap.size + 1, 0, none⟩ (.int .i64 x)).setCell ⟨w.heap.size + 1, 1, none⟩ (.int .i64 y)).cell? ⟨w2.heap.size, 1, none⟩ = some (.int .i64 b1) ∧ ((W.setCell ⟨w.heap.size + 1, 0, none⟩ (.int .i64 x)).setCell ⟨w.heap.size + 1, 1, none⟩ (.int .i64 y)).cell? ⟨w2.heap.size, 2, none⟩ = some (.int .i64 e1) ∧ ((W.setCell ⟨w.heap.size + 1, 0, none⟩ (.int .i64 x)).setCell ⟨w.heap.size + 1, 1, none⟩ (.int .i64 y)).cell? ⟨w2.heap.size, 3, none⟩ = some (.int .i64 d1) ∧ ((W.setCell ⟨w.heap.size + 1, 0, none⟩ (.int .i64 x)).setCell ⟨w.heap.size + 1, 1, none⟩ (.int .i64 y)).cell? ⟨w2.heap.size, 4, none⟩ = some (.int .i64 f1) ∧ ((W.setCell ⟨w.heap.size + 1, 0, none⟩ (.int .i64 x)).setCell ⟨w.heap.size + 1, 1, none⟩ (.int .i64 y)).cell? ⟨w2.heap.size, 5, none⟩ = some (.int .i64 k1) ∧ ((W.setCell ⟨w.heap.size + 1, 0, none⟩ (.int .i64 x)).setCell ⟨w.heap.size + 1, 1, none⟩ (.int .i64 y)).cell? ⟨w2.heap.size, 6, none⟩ = some (.int .i64 a2) ∧ ((W.setCell ⟨w.heap.size + 1, 0, none⟩ (.int .i64 x)).setCell ⟨w.heap.size + 1, 1, none⟩ (.int .i64 y)).cell? ⟨w2.heap.size, 7, none⟩ = some (.int .i64 b2) ∧ ((W.setCell ⟨w.heap.size + 1, 0, none⟩ (.int .i64 x)).setCell ⟨w.heap.size + 1, 1, none⟩ (.int .i64 y)).cell? ⟨w2.heap.size, 8, none⟩ = some (.int .i64 e2) ∧ ((W.setCell ⟨w.heap.size + 1, 0, none⟩ (.int .i64 x)).setCell ⟨w.heap.size + 1, 1, none⟩ (.int .i64 y)).cell? ⟨w2.heap.size, 9, none⟩ = some (.int .i64 d2) ∧ ((W.setCell ⟨w.heap.size + 1, 0, none⟩ (.int .i64 x)).setCell ⟨w.heap.size + 1, 1, none⟩ (.int .i64 y)).cell? ⟨w2.heap.size, 10, none⟩ = some (.int .i64 f2) ∧ ((W.setCell ⟨w.heap.size + 1, 0, none⟩ (.int .i64 x)).setCell ⟨w.heap.size + 1, 1, none⟩ (.int .i64 y)).cell? ⟨w2.heap.size, 11, none⟩ = some (.int .i64 k2) ∧ ((W.setCell ⟨w.heap.size + 1, 0, none⟩ (.int .i64 x)).setCell ⟨w.heap.size + 1, 1, none⟩ (.int .i64 y)).cell? ⟨w3.heap.size, 0, none⟩ = some (.int .i64 x) ∧ ((W.setCell ⟨w.heap.size + 1, 0, none⟩ (.int .i64 x)).setCell ⟨w.heap.size + 1, 1, none⟩ (.int .i64 y)).cell? ⟨w3.heap.size, 1, none⟩ = some (.int .i64 y))) := fun W ⟨g0, g1, g2, g3, g4, g5, g6, g7, g8, g9, g10, g11, g12, g13⟩ => ⟨(sets_far (w.heap.size + 1) (p := ⟨w2.heap.size, 0, none⟩) (show w2.heap.size ≠ w.heap.size + 1 by omega) [Value.int .i64 x, Value.int .i64 y] W 0).trans g0, (sets_far (w.heap.size + 1) (p := ⟨w2.heap.size, 1, none⟩) (show w2.heap.size ≠ w.heap.size + 1 by omega) [Value.int .i64 x, Value.int .i64 y] W 0).trans g1, (sets_far (w.heap.size + 1) (p := ⟨w2.heap.size, 2, none⟩) (show w2.heap.size ≠ w.heap.size + 1 by omega) [Value.int .i64 x, Value.int .i64 y] W 0).trans g2, (sets_far (w.heap.size + 1) (p := ⟨w2.heap.size, 3, none⟩) (show w2.heap.size ≠ w.heap.size + 1 by omega) [Value.int .i64 x, Value.int .i64 y] W 0).trans g3, (sets_far (w.heap.size + 1) (p := ⟨w2.heap.size, 4, none⟩) (show w2.heap.size ≠ w.heap.size + 1 by omega) [Value.int .i64 x, Value.int .i64 y] W 0).trans g4, (sets_far (w.heap.size + 1) (p := ⟨w2.heap.size, 5, none⟩) (show w2.heap.size ≠ w.heap.size + 1 by omega) [Value.int .i64 x, Value.int .i64 y] W 0).trans g5, (sets_far (w.heap.size + 1) (p := ⟨w2.heap.size, 6, none⟩) (show w2.heap.size ≠ w.heap.size + 1 by omega) [Value.int .i64 x, Value.int .i64 y] W 0).trans g6, (sets_far (w.heap.size + 1) (p := ⟨w2.heap.size, 7, none⟩) (show w2.heap.size ≠ w.heap.size + 1 by omega) [Value.int .i64 x, Value.int .i64 y] W 0).trans g7, (sets_far (w.heap.size + 1) (p := ⟨w2.heap.size, 8, none⟩) (show w2.heap.size ≠ w.heap.size + 1 by omega) [Value.int .i64 x, Value.int .i64 y] W 0).trans g8, (sets_far (w.heap.size + 1) (p := ⟨w2.heap.size, 9, none⟩) (show w2.heap.size ≠ w.heap.size + 1 by omega) [Value.int .i64 x, Value.int .i64 y] W 0).trans g9, (sets_far (w.heap.size + 1) (p := ⟨w2.heap.size, 10, none⟩) (show w2.heap.size ≠ w.heap.size + 1 by omega) [Value.int .i64 x, Value.int .i64 y] W 0).trans g10, (sets_far (w.heap.size + 1) (p := ⟨w2.heap.size, 11, none⟩) (show w2.heap.size ≠ w.heap.size + 1 by omega) [Value.int .i64 x, Value.int .i64 y] W 0).trans g11, (sets_far (w.heap.size + 1) (p := ⟨w3.heap.size, 0, none⟩) (show w3.heap.size ≠ w.heap.size + 1 by omega) [Value.int .i64 x, Value.int .i64 y] W 0).trans g12, (sets_far (w.heap.size + 1) (p := ⟨w3.heap.size, 1, none⟩) (show w3.heap.size ≠ w.heap.size + 1 by omega) [Value.int .i64 x, Value.int .i64 y] W 0).trans g13⟩
  have hb0 : w4.grownBy w4.drew (some (w.heap.size + 1 + 1)) := ⟨rfl, rfl, rfl, Nat.le_refl _, fun _ _ _ => rfl⟩
  have HR4d : Hid (Rd wb (w.heap.size + 1 + 1) a len cap w4.drew) := ⟨HR4.out.below.drew, HR4.out.lo, HR4.out.hi, HR4.out.cb, HR4.out.cp, HR4.out.fr⟩
  cases ob with
  | false =>
    go_wp2
    go_region_held3 (fun W => W.cell? ⟨w2.heap.size, 0, none⟩ = some (.int .i64 a1) ∧ W.cell? ⟨w2.heap.size, 1, none⟩ = some (.int .i64 b1) ∧ W.cell? ⟨w2.heap.size, 2, none⟩ = some (.int .i64 e1) ∧ W.cell? ⟨w2.heap.size, 3, none⟩ = some (.int .i64 d1) ∧ W.cell? ⟨w2.heap.size, 4, none⟩ = some (.int .i64 f1) ∧ W.cell? ⟨w2.heap.size, 5, none⟩ = some (.int .i64 k1) ∧ W.cell? ⟨w2.heap.size, 6, none⟩ = some (.int .i64 a2) ∧ W.cell? ⟨w2.heap.size, 7, none⟩ = some (.int .i64 b2) ∧ W.cell? ⟨w2.heap.size, 8, none⟩ = some (.int .i64 e2) ∧ W.cell? ⟨w2.heap.size, 9, none⟩ = some (.int .i64 d2) ∧ W.cell? ⟨w2.heap.size, 10, none⟩ = some (.int .i64 f2) ∧ W.cell? ⟨w2.heap.size, 11, none⟩ = some (.int .i64 k2) ∧ W.cell? ⟨w3.heap.size, 0, none⟩ = some (.int .i64 x) ∧ W.cell? ⟨w3.heap.size, 1, none⟩ = some (.int .i64 y)) (first | with_reducible exact (HK.out _ hgg hrr).1 | with_reducible exact (HK.out _ hb0 HR4d.out).1 | with_reducible exact HST1.out _ (by assumption) | with_reducible exact HST2.out _ (by assumption))
      (first
      | (go_at_call 31; refine (below_any HRw.out 4 (by omega) (by omega) _ HR4d.out).mono ?_; rintro e w5 ⟨n, n0, n1, rfl, hr5, hg5⟩; have hgg : w4.grownBy w5 (some (w.heap.size + 1 + 1)) := hb0.trans hg5; have hrr := hr5; obtain ⟨-, t0, t1, t2, t3, t4, t5, t6, t7, t8, t9, t10, t11, t12, t13, t14, t15, t16, t17, t18, t19, t20, t21, t22, t23, t24, t25, t26, t27⟩ := HK.out _ hgg hrr))
    all_goals
      obtain ⟨wy, hwy⟩ : ∃ u, u = sets w5 (w.heap.size) 0 [.int .i64 a1, .int .i64 b1, .int .i64 e1, .int .i64 d1, .int .i64 f1, .int .i64 k1, .int .i64 a2, .int .i64 b2, .int .i64 e2, .int .i64 d2, .int .i64 f2, .int .i64 k2] := ⟨_, rfl⟩
      have ha := sets_at (w.heap.size) [Value.int .i64 a1, .int .i64 b1, .int .i64 e1, .int .i64 d1, .int .i64 f1, .int .i64 k1, .int .i64 a2, .int .i64 b2, .int .i64 e2, .int .i64 d2, .int .i64 f2, .int .i64 k2] w5 0 (fun j hj => by
        match j, hj with
        | 0, _ => exact ⟨_, t0⟩
        | 1, _ => exact ⟨_, t1⟩
        | 2, _ => exact ⟨_, t2⟩
        | 3, _ => exact ⟨_, t3⟩
        | 4, _ => exact ⟨_, t4⟩
        | 5, _ => exact ⟨_, t5⟩
        | 6, _ => exact ⟨_, t6⟩
        | 7, _ => exact ⟨_, t7⟩
        | 8, _ => exact ⟨_, t8⟩
        | 9, _ => exact ⟨_, t9⟩
        | 10, _ => exact ⟨_, t10⟩
        | 11, _ => exact ⟨_, t11⟩)
      rw [← hwy] at ha
      have y0 : wy.cell? ⟨w.heap.size + 1, 0, none⟩ = some (.int .i64 0) := by rw [hwy, sets_far (w.heap.size) (p := ⟨w.heap.size + 1, 0, none⟩) (show w.heap.size + 1 ≠ w.heap.size by omega)]; exact t12
      have y1 : wy.cell? ⟨w.heap.size + 1, 1, none⟩ = some (.int .i64 0) := by rw [hwy, sets_far (w.heap.size) (p := ⟨w.heap.size + 1, 1, none⟩) (show w.heap.size + 1 ≠ w.heap.size by omega)]; exact t13
      obtain ⟨wz, hwz⟩ : ∃ u, u = sets wy (w.heap.size + 1) 0 [.int .i64 x, .int .i64 y] := ⟨_, rfl⟩
      have hc := sets_at (w.heap.size + 1) [Value.int .i64 x, .int .i64 y] wy 0 (fun j hj => by
        match j, hj with
        | 0, _ => exact ⟨_, y0⟩
        | 1, _ => exact ⟨_, y1⟩)
      rw [← hwz] at hc
      have z0 : wz.cell? ⟨w.heap.size, 0, none⟩ = some (.int .i64 a1) := by rw [hwz, sets_far (w.heap.size + 1) (p := ⟨w.heap.size, 0, none⟩) (show w.heap.size ≠ w.heap.size + 1 by omega)]; simpa using ha 0 _ rfl
      have z1 : wz.cell? ⟨w.heap.size, 1, none⟩ = some (.int .i64 b1) := by rw [hwz, sets_far (w.heap.size + 1) (p := ⟨w.heap.size, 1, none⟩) (show w.heap.size ≠ w.heap.size + 1 by omega)]; simpa using ha 1 _ rfl
      have z2 : wz.cell? ⟨w.heap.size, 2, none⟩ = some (.int .i64 e1) := by rw [hwz, sets_far (w.heap.size + 1) (p := ⟨w.heap.size, 2, none⟩) (show w.heap.size ≠ w.heap.size + 1 by omega)]; simpa using ha 2 _ rfl
      have z3 : wz.cell? ⟨w.heap.size, 3, none⟩ = some (.int .i64 d1) := by rw [hwz, sets_far (w.heap.size + 1) (p := ⟨w.heap.size, 3, none⟩) (show w.heap.size ≠ w.heap.size + 1 by omega)]; simpa using ha 3 _ rfl
      have z4 : wz.cell? ⟨w.heap.size, 4, none⟩ = some (.int .i64 f1) := by rw [hwz, sets_far (w.heap.size + 1) (p := ⟨w.heap.size, 4, none⟩) (show w.heap.size ≠ w.heap.size + 1 by omega)]; simpa using ha 4 _ rfl
      have z5 : wz.cell? ⟨w.heap.size, 5, none⟩ = some (.int .i64 k1) := by rw [hwz, sets_far (w.heap.size + 1) (p := ⟨w.heap.size, 5, none⟩) (show w.heap.size ≠ w.heap.size + 1 by omega)]; simpa using ha 5 _ rfl
      have z6 : wz.cell? ⟨w.heap.size, 6, none⟩ = some (.int .i64 a2) := by rw [hwz, sets_far (w.heap.size + 1) (p := ⟨w.heap.size, 6, none⟩) (show w.heap.size ≠ w.heap.size + 1 by omega)]; simpa using ha 6 _ rfl
      have z7 : wz.cell? ⟨w.heap.size, 7, none⟩ = some (.int .i64 b2) := by rw [hwz, sets_far (w.heap.size + 1) (p := ⟨w.heap.size, 7, none⟩) (show w.heap.size ≠ w.heap.size + 1 by omega)]; simpa using ha 7 _ rfl
      have z8 : wz.cell? ⟨w.heap.size, 8, none⟩ = some (.int .i64 e2) := by rw [hwz, sets_far (w.heap.size + 1) (p := ⟨w.heap.size, 8, none⟩) (show w.heap.size ≠ w.heap.size + 1 by omega)]; simpa using ha 8 _ rfl
      have z9 : wz.cell? ⟨w.heap.size, 9, none⟩ = some (.int .i64 d2) := by rw [hwz, sets_far (w.heap.size + 1) (p := ⟨w.heap.size, 9, none⟩) (show w.heap.size ≠ w.heap.size + 1 by omega)]; simpa using ha 9 _ rfl
      have z10 : wz.cell? ⟨w.heap.size, 10, none⟩ = some (.int .i64 f2) := by rw [hwz, sets_far (w.heap.size + 1) (p := ⟨w.heap.size, 10, none⟩) (show w.heap.size ≠ w.heap.size + 1 by omega)]; simpa using ha 10 _ rfl
      have z11 : wz.cell? ⟨w.heap.size, 11, none⟩ = some (.int .i64 k2) := by rw [hwz, sets_far (w.heap.size + 1) (p := ⟨w.heap.size, 11, none⟩) (show w.heap.size ≠ w.heap.size + 1 by omega)]; simpa using ha 11 _ rfl
      have s0 : wz.cell? ⟨w.heap.size + 1, 0, none⟩ = some (.int .i64 x) := by simpa using hc 0 _ rfl
      have s1 : wz.cell? ⟨w.heap.size + 1, 1, none⟩ = some (.int .i64 y) := by simpa using hc 1 _ rfl
      have HBz : Hid (Below w.heap.size w wz) := by
        show Below _ _ _
        rw [hwz, hwy]
        exact sets_below (by omega) _ _ _ (sets_below (Nat.le_refl _) _ _ _ (HBW.out.trans (hr5.below.mono (by have := HSZ.out; omega))))
      have hwx : wz = ((((((((((((((w5.setCell ⟨w.heap.size, 0, none⟩ (.int .i64 a1)).setCell ⟨w.heap.size, 1, none⟩ (.int .i64 b1)).setCell ⟨w.heap.size, 2, none⟩ (.int .i64 e1)).setCell ⟨w.heap.size, 3, none⟩ (.int .i64 d1)).setCell ⟨w.heap.size, 4, none⟩ (.int .i64 f1)).setCell ⟨w.heap.size, 5, none⟩ (.int .i64 k1)).setCell ⟨w.heap.size, 6, none⟩ (.int .i64 a2)).setCell ⟨w.heap.size, 7, none⟩ (.int .i64 b2)).setCell ⟨w.heap.size, 8, none⟩ (.int .i64 e2)).setCell ⟨w.heap.size, 9, none⟩ (.int .i64 d2)).setCell ⟨w.heap.size, 10, none⟩ (.int .i64 f2)).setCell ⟨w.heap.size, 11, none⟩ (.int .i64 k2)).setCell ⟨w.heap.size + 1, 0, none⟩ (.int .i64 x)).setCell ⟨w.heap.size + 1, 1, none⟩ (.int .i64 y)) := by rw [hwz, hwy]; rfl
      rw [← hwx]
      clear hwx hwy hwz ha hc t0 t1 t2 t3 t4 t5 t6 t7 t8 t9 t10 t11 t12 t13 t14 t15 t16 t17 t18 t19 t20 t21 t22 t23 t24 t25 t26 t27
      go_wp2
      refine bodyPost_ret (v := .tuple #[.agg #[.int .i64 a1, .int .i64 b1, .int .i64 e1, .int .i64 d1, .int .i64 f1, .int .i64 k1, .int .i64 a2, .int .i64 b2, .int .i64 e2, .int .i64 d2, .int .i64 f2, .int .i64 k2], .agg #[.int .i64 x, .int .i64 y], .int .i64 (IntKind.i64.wrap (2 * 2 ^ min (IntKind.u64.wrap n).toNat 64))]) (by simp [results, Tryz.results8, go_sem, z0, z1, z2, z3, z4, z5, z6, z7, z8, z9, z10, z11, s0, s1]) rfl ⟨⟨⟨a1, b1, e1, d1, f1, k1⟩, ⟨a2, b2, e2, d2, f2, k2⟩⟩, (x, y), (IntKind.i64.wrap (2 * 2 ^ min (IntKind.u64.wrap n).toNat 64)), rfl, (wrapR _).1, (wrapR _).2, HBz.out⟩
  | true =>
    go_wp2
    go_region_held3 (fun W => W.cell? ⟨w2.heap.size, 0, none⟩ = some (.int .i64 a1) ∧ W.cell? ⟨w2.heap.size, 1, none⟩ = some (.int .i64 b1) ∧ W.cell? ⟨w2.heap.size, 2, none⟩ = some (.int .i64 e1) ∧ W.cell? ⟨w2.heap.size, 3, none⟩ = some (.int .i64 d1) ∧ W.cell? ⟨w2.heap.size, 4, none⟩ = some (.int .i64 f1) ∧ W.cell? ⟨w2.heap.size, 5, none⟩ = some (.int .i64 k1) ∧ W.cell? ⟨w2.heap.size, 6, none⟩ = some (.int .i64 a2) ∧ W.cell? ⟨w2.heap.size, 7, none⟩ = some (.int .i64 b2) ∧ W.cell? ⟨w2.heap.size, 8, none⟩ = some (.int .i64 e2) ∧ W.cell? ⟨w2.heap.size, 9, none⟩ = some (.int .i64 d2) ∧ W.cell? ⟨w2.heap.size, 10, none⟩ = some (.int .i64 f2) ∧ W.cell? ⟨w2.heap.size, 11, none⟩ = some (.int .i64 k2) ∧ W.cell? ⟨w3.heap.size, 0, none⟩ = some (.int .i64 x) ∧ W.cell? ⟨w3.heap.size, 1, none⟩ = some (.int .i64 y)) (first | with_reducible exact (HK.out _ hgg hrr).1 | with_reducible exact (HK.out _ hb0 HR4d.out).1 | with_reducible exact HST1.out _ (by assumption) | with_reducible exact HST2.out _ (by assumption))
      (first
      | (go_at_call 30; refine (off_any HRw.out 0 32 (by omega) (by omega) (by omega) _ HR4d.out).mono ?_; rintro e w5 ⟨n, n0, n1, rfl, hr5, hg5⟩; have hgg : w4.grownBy w5 (some (w.heap.size + 1 + 1)) := hb0.trans hg5; have hrr := hr5; obtain ⟨-, t0, t1, t2, t3, t4, t5, t6, t7, t8, t9, t10, t11, t12, t13, t14, t15, t16, t17, t18, t19, t20, t21, t22, t23, t24, t25, t26, t27⟩ := HK.out _ hgg hrr))
    all_goals
      obtain ⟨wy, hwy⟩ : ∃ u, u = sets w5 (w.heap.size) 0 [.int .i64 a1, .int .i64 b1, .int .i64 e1, .int .i64 d1, .int .i64 f1, .int .i64 k1, .int .i64 a2, .int .i64 b2, .int .i64 e2, .int .i64 d2, .int .i64 f2, .int .i64 k2] := ⟨_, rfl⟩
      have ha := sets_at (w.heap.size) [Value.int .i64 a1, .int .i64 b1, .int .i64 e1, .int .i64 d1, .int .i64 f1, .int .i64 k1, .int .i64 a2, .int .i64 b2, .int .i64 e2, .int .i64 d2, .int .i64 f2, .int .i64 k2] w5 0 (fun j hj => by
        match j, hj with
        | 0, _ => exact ⟨_, t0⟩
        | 1, _ => exact ⟨_, t1⟩
        | 2, _ => exact ⟨_, t2⟩
        | 3, _ => exact ⟨_, t3⟩
        | 4, _ => exact ⟨_, t4⟩
        | 5, _ => exact ⟨_, t5⟩
        | 6, _ => exact ⟨_, t6⟩
        | 7, _ => exact ⟨_, t7⟩
        | 8, _ => exact ⟨_, t8⟩
        | 9, _ => exact ⟨_, t9⟩
        | 10, _ => exact ⟨_, t10⟩
        | 11, _ => exact ⟨_, t11⟩)
      rw [← hwy] at ha
      have y0 : wy.cell? ⟨w.heap.size + 1, 0, none⟩ = some (.int .i64 0) := by rw [hwy, sets_far (w.heap.size) (p := ⟨w.heap.size + 1, 0, none⟩) (show w.heap.size + 1 ≠ w.heap.size by omega)]; exact t12
      have y1 : wy.cell? ⟨w.heap.size + 1, 1, none⟩ = some (.int .i64 0) := by rw [hwy, sets_far (w.heap.size) (p := ⟨w.heap.size + 1, 1, none⟩) (show w.heap.size + 1 ≠ w.heap.size by omega)]; exact t13
      obtain ⟨wz, hwz⟩ : ∃ u, u = sets wy (w.heap.size + 1) 0 [.int .i64 x, .int .i64 y] := ⟨_, rfl⟩
      have hc := sets_at (w.heap.size + 1) [Value.int .i64 x, .int .i64 y] wy 0 (fun j hj => by
        match j, hj with
        | 0, _ => exact ⟨_, y0⟩
        | 1, _ => exact ⟨_, y1⟩)
      rw [← hwz] at hc
      have z0 : wz.cell? ⟨w.heap.size, 0, none⟩ = some (.int .i64 a1) := by rw [hwz, sets_far (w.heap.size + 1) (p := ⟨w.heap.size, 0, none⟩) (show w.heap.size ≠ w.heap.size + 1 by omega)]; simpa using ha 0 _ rfl
      have z1 : wz.cell? ⟨w.heap.size, 1, none⟩ = some (.int .i64 b1) := by rw [hwz, sets_far (w.heap.size + 1) (p := ⟨w.heap.size, 1, none⟩) (show w.heap.size ≠ w.heap.size + 1 by omega)]; simpa using ha 1 _ rfl
      have z2 : wz.cell? ⟨w.heap.size, 2, none⟩ = some (.int .i64 e1) := by rw [hwz, sets_far (w.heap.size + 1) (p := ⟨w.heap.size, 2, none⟩) (show w.heap.size ≠ w.heap.size + 1 by omega)]; simpa using ha 2 _ rfl
      have z3 : wz.cell? ⟨w.heap.size, 3, none⟩ = some (.int .i64 d1) := by rw [hwz, sets_far (w.heap.size + 1) (p := ⟨w.heap.size, 3, none⟩) (show w.heap.size ≠ w.heap.size + 1 by omega)]; simpa using ha 3 _ rfl
      have z4 : wz.cell? ⟨w.heap.size, 4, none⟩ = some (.int .i64 f1) := by rw [hwz, sets_far (w.heap.size + 1) (p := ⟨w.heap.size, 4, none⟩) (show w.heap.size ≠ w.heap.size + 1 by omega)]; simpa using ha 4 _ rfl
      have z5 : wz.cell? ⟨w.heap.size, 5, none⟩ = some (.int .i64 k1) := by rw [hwz, sets_far (w.heap.size + 1) (p := ⟨w.heap.size, 5, none⟩) (show w.heap.size ≠ w.heap.size + 1 by omega)]; simpa using ha 5 _ rfl
      have z6 : wz.cell? ⟨w.heap.size, 6, none⟩ = some (.int .i64 a2) := by rw [hwz, sets_far (w.heap.size + 1) (p := ⟨w.heap.size, 6, none⟩) (show w.heap.size ≠ w.heap.size + 1 by omega)]; simpa using ha 6 _ rfl
      have z7 : wz.cell? ⟨w.heap.size, 7, none⟩ = some (.int .i64 b2) := by rw [hwz, sets_far (w.heap.size + 1) (p := ⟨w.heap.size, 7, none⟩) (show w.heap.size ≠ w.heap.size + 1 by omega)]; simpa using ha 7 _ rfl
      have z8 : wz.cell? ⟨w.heap.size, 8, none⟩ = some (.int .i64 e2) := by rw [hwz, sets_far (w.heap.size + 1) (p := ⟨w.heap.size, 8, none⟩) (show w.heap.size ≠ w.heap.size + 1 by omega)]; simpa using ha 8 _ rfl
      have z9 : wz.cell? ⟨w.heap.size, 9, none⟩ = some (.int .i64 d2) := by rw [hwz, sets_far (w.heap.size + 1) (p := ⟨w.heap.size, 9, none⟩) (show w.heap.size ≠ w.heap.size + 1 by omega)]; simpa using ha 9 _ rfl
      have z10 : wz.cell? ⟨w.heap.size, 10, none⟩ = some (.int .i64 f2) := by rw [hwz, sets_far (w.heap.size + 1) (p := ⟨w.heap.size, 10, none⟩) (show w.heap.size ≠ w.heap.size + 1 by omega)]; simpa using ha 10 _ rfl
      have z11 : wz.cell? ⟨w.heap.size, 11, none⟩ = some (.int .i64 k2) := by rw [hwz, sets_far (w.heap.size + 1) (p := ⟨w.heap.size, 11, none⟩) (show w.heap.size ≠ w.heap.size + 1 by omega)]; simpa using ha 11 _ rfl
      have s0 : wz.cell? ⟨w.heap.size + 1, 0, none⟩ = some (.int .i64 x) := by simpa using hc 0 _ rfl
      have s1 : wz.cell? ⟨w.heap.size + 1, 1, none⟩ = some (.int .i64 y) := by simpa using hc 1 _ rfl
      have HBz : Hid (Below w.heap.size w wz) := by
        show Below _ _ _
        rw [hwz, hwy]
        exact sets_below (by omega) _ _ _ (sets_below (Nat.le_refl _) _ _ _ (HBW.out.trans (hr5.below.mono (by have := HSZ.out; omega))))
      have hwx : wz = ((((((((((((((w5.setCell ⟨w.heap.size, 0, none⟩ (.int .i64 a1)).setCell ⟨w.heap.size, 1, none⟩ (.int .i64 b1)).setCell ⟨w.heap.size, 2, none⟩ (.int .i64 e1)).setCell ⟨w.heap.size, 3, none⟩ (.int .i64 d1)).setCell ⟨w.heap.size, 4, none⟩ (.int .i64 f1)).setCell ⟨w.heap.size, 5, none⟩ (.int .i64 k1)).setCell ⟨w.heap.size, 6, none⟩ (.int .i64 a2)).setCell ⟨w.heap.size, 7, none⟩ (.int .i64 b2)).setCell ⟨w.heap.size, 8, none⟩ (.int .i64 e2)).setCell ⟨w.heap.size, 9, none⟩ (.int .i64 d2)).setCell ⟨w.heap.size, 10, none⟩ (.int .i64 f2)).setCell ⟨w.heap.size, 11, none⟩ (.int .i64 k2)).setCell ⟨w.heap.size + 1, 0, none⟩ (.int .i64 x)).setCell ⟨w.heap.size + 1, 1, none⟩ (.int .i64 y)) := by rw [hwz, hwy]; rfl
      rw [← hwx]
      clear hwx hwy hwz ha hc t0 t1 t2 t3 t4 t5 t6 t7 t8 t9 t10 t11 t12 t13 t14 t15 t16 t17 t18 t19 t20 t21 t22 t23 t24 t25 t26 t27
      go_wp2
      refine bodyPost_ret (v := .tuple #[.agg #[.int .i64 a1, .int .i64 b1, .int .i64 e1, .int .i64 d1, .int .i64 f1, .int .i64 k1, .int .i64 a2, .int .i64 b2, .int .i64 e2, .int .i64 d2, .int .i64 f2, .int .i64 k2], .agg #[.int .i64 x, .int .i64 y], .int .i64 n]) (by simp [results, Tryz.results8, go_sem, z0, z1, z2, z3, z4, z5, z6, z7, z8, z9, z10, z11, s0, s1]) rfl ⟨⟨⟨a1, b1, e1, d1, f1, k1⟩, ⟨a2, b2, e2, d2, f2, k2⟩⟩, (x, y), n, rfl, by omega, by omega, HBz.out⟩
end Go.Proofs.YtbcfjbkmkknmfaaGreatDoor
namespace Go.Proofs.YtbcfjbkmkknmfaaGreatDoor
open Go.RowKit

/-- what an honest proof is, in plain terms -/
theorem M.honest {m : M.Mc} {s : Int × Int} {n : Int} (h : M.provOk m s n = true) : M.acc m (M.prv m s n) = true ∧ (((M.prv m s n).rows : Nat) : Int) = n ∧ (M.prv m s n).s = s ∧ (M.prv m s n).e = M.aft m s (n - 1) := by
  obtain ⟨hm, hs, N, rfl, hN⟩ := M.provOk_parts h
  have hb := M.rowsN_pos hN
  obtain ⟨h1, h2⟩ := M.complete hm hs hN
  have e : M.prv m s (N : Int) = m.pf s N := by rw [M.prv_in h]; rfl
  have hr : M.runOk m s ((N : Int) - 1) = true := by
    unfold M.runOk; rw [hm, hs]; simp; omega
  refine ⟨by rw [e]; exact h1, by rw [e, h2], by rw [e]; rfl, ?_⟩
  rw [e, M.aft_in hr]
  show m.rn s (N - 1) = m.rn s ((N : Int) - 1).toNat
  congr 1
  omega
set_option maxHeartbeats 8000000 in
set_option maxRecDepth 10000 in
theorem fnComplete_any {ca : Option Addr} {len cap : Nat} {zs : List Int} {aL aN aG aE aR : Addr} (w : World) (he : EnvX w aL aN aG aE aR) (hrow : Row .u8 w ca len cap zs) :
    Calls Tryz.prog 3 #[.slice ca len cap] w fun e w' => e = .returned (.bool true) ∧ Below w.heap.size w w' := by
  have hl0 : (len : Int) ≤ 9223372036854775807 := by
    rcases hrow with ⟨_, rfl, _⟩ | ⟨x, _, h1, h2, _⟩
    · simp
    · unfold maxLen at h2; omega
  by_cases hbig : (1048576 : Int) < (len : Int)
  · clear he
    go_enter Tryz.func3, Tryz.ntmps3
    go_wp2_with fail
    refine (big_any _ _ _ _).mono ?_
    rintro e w' ⟨rfl, rfl⟩
    go_wp2
    go_ret
    exact ⟨rfl, Below.refl _ _⟩
  have hbg : decide ((1048576 : Int) < (len : Int)) = false := by simpa using hbig
  have HR : Hid (Row .u8 w ca len cap zs) := hrow
  have HE0 : Hid (EnvX w aL aN aG aE aR) := he
  clear hrow he hbig
  go_enter Tryz.func3, Tryz.ntmps3
  go_wp2_with fail
  refine (big_any _ _ _ _).mono ?_
  rintro e wz ⟨rfl, hwz⟩
  have hwy := hwz.symm
  clear hwz
  subst hwy
  go_wp2_with fail
  refine (drawProved_any w HR.out).mono ?_
  rintro e w1 ⟨m, s, n, rfl, n0, n1, hb1⟩
  have CI : ∀ W, Calls Tryz.prog 9 #[mcv m, stv s, .int .i64 n] W (ProvPost m s n W) := fun W => implProved_any m s n W
  have CS : ∀ W, Calls Tryz.prog 10 #[mcv m, stv s, .int .i64 n] W (ProvPost m s n W) := fun W => specProved_any m s n W
  have CA := implAfter_any m s (n - 1)
  have CACC : ∀ (W : World) {u1 u2 u3 u4 : Option Addr} {c1 c2 c3 c4 : Nat}, EnvX W aL aN aG aE aR → Sees W u1 (M.pfn m s n) c1 (M.prv m s n).X → Sees W u2 (M.pfn m s n) c2 (M.prv m s n).Y → Sees W u3 (M.pfn m s n) c3 (M.prv m s n).QX → Sees W u4 (M.pfn m s n) c4 (M.prv m s n).QY → Calls Tryz.prog 13 #[mcv m, .agg #[.int .i64 (M.prv m s n).s.1, .int .i64 (M.prv m s n).s.2, .int .i64 (M.prv m s n).e.1, .int .i64 (M.prv m s n).e.2, .slice u1 (M.pfn m s n) c1, .slice u2 (M.pfn m s n) c2, .slice u3 (M.pfn m s n) c3, .slice u4 (M.pfn m s n) c4]] W fun e w' => e = .returned (.bool (M.acc m (M.prv m s n))) ∧ Below W.heap.size W w' := fun W _ _ _ _ _ _ _ _ e g1 g2 g3 g4 => implAccepted_any m _ _ _ _ W e g1 g2 g3 g4
  have CRO : ∀ (W : World) {u1 u2 u3 u4 : Option Addr} {c1 c2 c3 c4 : Nat}, EnvX W aL aN aG aE aR → Sees W u1 (M.pfn m s n) c1 (M.prv m s n).X → Sees W u2 (M.pfn m s n) c2 (M.prv m s n).Y → Sees W u3 (M.pfn m s n) c3 (M.prv m s n).QX → Sees W u4 (M.pfn m s n) c4 (M.prv m s n).QY → Calls Tryz.prog 14 #[.agg #[.int .i64 (M.prv m s n).s.1, .int .i64 (M.prv m s n).s.2, .int .i64 (M.prv m s n).e.1, .int .i64 (M.prv m s n).e.2, .slice u1 (M.pfn m s n) c1, .slice u2 (M.pfn m s n) c2, .slice u3 (M.pfn m s n) c3, .slice u4 (M.pfn m s n) c4]] W fun e w' => e = .returned (.int .i64 ((M.prv m s n).rows : Nat)) ∧ Below W.heap.size W w' := fun W _ _ _ _ _ _ _ _ e g1 g2 g3 g4 => implRowsOf_any _ _ _ _ W e.env g1 g2 g3 g4
  have HH : Hid (M.provOk m s n = true → M.acc m (M.prv m s n) = true ∧ (((M.prv m s n).rows : Nat) : Int) = n ∧ (M.prv m s n).s = s ∧ (M.prv m s n).e = M.aft m s (n - 1)) := M.honest
  have hRB : (M.prv m s n).rows ≤ 16 := by
    by_cases h : (M.prv m s n).rows = 0
    · omega
    · exact (M.rowsN_pos (M.rows_some h).1).2
  have CSM : ∀ (W : World) {u1 u2 : Option Addr} {l1 l2 c1 c2 : Nat} {z : List Int}, Sees W u1 l1 c1 z → Sees W u2 l2 c2 z → Calls Tryz.prog 11 #[.slice u1 l1 c1, .slice u2 l2 c2] W fun e w' => e = .returned (.bool true) ∧ Below W.heap.size W w' := fun W _ _ _ _ _ _ _ g1 g2 => (sameS_any W g1 g2).mono fun e w' ⟨h1, j, h2⟩ => ⟨by rw [h1]; simp, by rw [h2]; exact Below.drewN' (Below.refl _ _) j⟩
  unfold ProvPost at CS CI
  have hL := M.pfn_le m s n
  generalize M.acc m (M.prv m s n) = oA at CACC HH
  generalize (M.prv m s n).rows = R at CRO HH hRB
  generalize M.pfn m s n = L at CS CI CACC CRO hL
  generalize M.provOk m s n = o at CS CI HH
  generalize M.prv m s n = P at CS CI CACC CRO HH
  generalize M.aft m s (n - 1) = ae at CA HH
  generalize M.runOk m s (n - 1) = ro at CA
  obtain ⟨⟨p1, p2⟩, ⟨p3, p4⟩, z1, z2, z3, z4⟩ := P
  obtain ⟨⟨a, b, c, d, f, k⟩, ⟨a', b', c', d', f', k'⟩⟩ := m
  obtain ⟨x, y⟩ := s
  obtain ⟨ax, ay⟩ := ae
  dsimp only [mcv, stv] at CI CS CA CACC CRO HH ⊢
  have HB_0 : Hid (Below w.heap.size w w1) := hb1
  have HE_0 : Hid (EnvX w1 aL aN aG aE aR) := HE0.out.below hb1
  clear hb1 HE0 HR
  go_wp2_with fail
  have hba : Below w1.heap.size w1 ((w1.alloc (.cells #[.int .i64 a, .int .i64 b, .int .i64 c, .int .i64 d, .int .i64 f, .int .i64 k, .int .i64 a', .int .i64 b', .int .i64 c', .int .i64 d', .int .i64 f', .int .i64 k'] 27)).alloc (.cells #[.int .i64 x, .int .i64 y] 29)) := ((Below.refl _ _).alloc (Nat.le_refl _) _).alloc (by simp) _
  have HB_1 : Hid (Below w.heap.size w ((w1.alloc (.cells #[.int .i64 a, .int .i64 b, .int .i64 c, .int .i64 d, .int .i64 f, .int .i64 k, .int .i64 a', .int .i64 b', .int .i64 c', .int .i64 d', .int .i64 f', .int .i64 k'] 27)).alloc (.cells #[.int .i64 x, .int .i64 y] 29))) := HB_0.out.trans (hba.mono HB_0.out.size)
  have HE_1 : Hid (EnvX ((w1.alloc (.cells #[.int .i64 a, .int .i64 b, .int .i64 c, .int .i64 d, .int .i64 f, .int .i64 k, .int .i64 a', .int .i64 b', .int .i64 c', .int .i64 d', .int .i64 f', .int .i64 k'] 27)).alloc (.cells #[.int .i64 x, .int .i64 y] 29)) aL aN aG aE aR) := HE_0.out.below hba
  clear HB_0 HE_0
  clear hba
  have HM_1 : Hid (Lies ((w1.alloc (.cells #[.int .i64 a, .int .i64 b, .int .i64 c, .int .i64 d, .int .i64 f, .int .i64 k, .int .i64 a', .int .i64 b', .int .i64 c', .int .i64 d', .int .i64 f', .int .i64 k'] 27)).alloc (.cells #[.int .i64 x, .int .i64 y] 29)) w1.heap.size [.int .i64 a, .int .i64 b, .int .i64 c, .int .i64 d, .int .i64 f, .int .i64 k, .int .i64 a', .int .i64 b', .int .i64 c', .int .i64 d', .int .i64 f', .int .i64 k']) := (lies_new _ _ _).alloc _
  have HS_1 : Hid (Lies ((w1.alloc (.cells #[.int .i64 a, .int .i64 b, .int .i64 c, .int .i64 d, .int .i64 f, .int .i64 k, .int .i64 a', .int .i64 b', .int .i64 c', .int .i64 d', .int .i64 f', .int .i64 k'] 27)).alloc (.cells #[.int .i64 x, .int .i64 y] 29)) (w1.heap.size + 1) [.int .i64 x, .int .i64 y]) := lies_new2 _ _ _ _
  generalize ((w1.alloc (.cells #[.int .i64 a, .int .i64 b, .int .i64 c, .int .i64 d, .int .i64 f, .int .i64 k, .int .i64 a', .int .i64 b', .int .i64 c', .int .i64 d', .int .i64 f', .int .i64 k'] 27)).alloc (.cells #[.int .i64 x, .int .i64 y] 29)) = w2 at HB_1 HE_1 HM_1 HS_1  ⊢
  generalize w1.heap.size = mb at HM_1 HS_1 ⊢
  refine (CI _).mono ?_
  rintro e w3 ⟨g1, gc1, g2, gc2, g3, gc3, g4, gc4, rfl, ⟨q1, q2, q3, q4⟩, hfar, hb⟩
  have HB_2 : Hid (Below w.heap.size w w3) := HB_1.out.trans (hb.mono HB_1.out.size)
  have HE_2 : Hid (EnvX w3 aL aN aG aE aR) := HE_1.out.below hb
  have HM_2 : Hid (Lies w3 mb [.int .i64 a, .int .i64 b, .int .i64 c, .int .i64 d, .int .i64 f, .int .i64 k, .int .i64 a', .int .i64 b', .int .i64 c', .int .i64 d', .int .i64 f', .int .i64 k']) := HM_1.out.belowS hb
  have HS_2 : Hid (Lies w3 (mb + 1) [.int .i64 x, .int .i64 y]) := HS_1.out.belowS hb
  clear HB_1 HE_1 HM_1 HS_1
  have G1_2 : Hid (Sees w3 g1 L gc1 z1) := q1.sees
  have G2_2 : Hid (Sees w3 g2 L gc2 z2) := q2.sees
  have G3_2 : Hid (Sees w3 g3 L gc3 z3) := q3.sees
  have G4_2 : Hid (Sees w3 g4 L gc4 z4) := q4.sees
  clear hb
  clear q1 q2 q3 q4 hfar
  have hba : Below w3.heap.size w3 (w3.alloc (.cells #[.int .i64 p1, .int .i64 p2, .int .i64 p3, .int .i64 p4, .slice g1 L gc1, .slice g2 L gc2, .slice g3 L gc3, .slice g4 L gc4] 34)) := (Below.refl _ _).alloc (Nat.le_refl _) _
  have HB_3 : Hid (Below w.heap.size w (w3.alloc (.cells #[.int .i64 p1, .int .i64 p2, .int .i64 p3, .int .i64 p4, .slice g1 L gc1, .slice g2 L gc2, .slice g3 L gc3, .slice g4 L gc4] 34))) := HB_2.out.trans (hba.mono HB_2.out.size)
  have HE_3 : Hid (EnvX (w3.alloc (.cells #[.int .i64 p1, .int .i64 p2, .int .i64 p3, .int .i64 p4, .slice g1 L gc1, .slice g2 L gc2, .slice g3 L gc3, .slice g4 L gc4] 34)) aL aN aG aE aR) := HE_2.out.below hba
  have HM_3 : Hid (Lies (w3.alloc (.cells #[.int .i64 p1, .int .i64 p2, .int .i64 p3, .int .i64 p4, .slice g1 L gc1, .slice g2 L gc2, .slice g3 L gc3, .slice g4 L gc4] 34)) mb [.int .i64 a, .int .i64 b, .int .i64 c, .int .i64 d, .int .i64 f, .int .i64 k, .int .i64 a', .int .i64 b', .int .i64 c', .int .i64 d', .int .i64 f', .int .i64 k']) := HM_2.out.belowS hba
  have HS_3 : Hid (Lies (w3.alloc (.cells #[.int .i64 p1, .int .i64 p2, .int .i64 p3, .int .i64 p4, .slice g1 L gc1, .slice g2 L gc2, .slice g3 L gc3, .slice g4 L gc4] 34)) (mb + 1) [.int .i64 x, .int .i64 y]) := HS_2.out.belowS hba
  have G1_3 : Hid (Sees (w3.alloc (.cells #[.int .i64 p1, .int .i64 p2, .int .i64 p3, .int .i64 p4, .slice g1 L gc1, .slice g2 L gc2, .slice g3 L gc3, .slice g4 L gc4] 34)) g1 L gc1 z1) := G1_2.out.below hba
  have G2_3 : Hid (Sees (w3.alloc (.cells #[.int .i64 p1, .int .i64 p2, .int .i64 p3, .int .i64 p4, .slice g1 L gc1, .slice g2 L gc2, .slice g3 L gc3, .slice g4 L gc4] 34)) g2 L gc2 z2) := G2_2.out.below hba
  have G3_3 : Hid (Sees (w3.alloc (.cells #[.int .i64 p1, .int .i64 p2, .int .i64 p3, .int .i64 p4, .slice g1 L gc1, .slice g2 L gc2, .slice g3 L gc3, .slice g4 L gc4] 34)) g3 L gc3 z3) := G3_2.out.below hba
  have G4_3 : Hid (Sees (w3.alloc (.cells #[.int .i64 p1, .int .i64 p2, .int .i64 p3, .int .i64 p4, .slice g1 L gc1, .slice g2 L gc2, .slice g3 L gc3, .slice g4 L gc4] 34)) g4 L gc4 z4) := G4_2.out.below hba
  clear HB_2 HE_2 HM_2 HS_2 G1_2 G2_2 G3_2 G4_2
  clear hba
  have HG_3 : Hid (Lies (w3.alloc (.cells #[.int .i64 p1, .int .i64 p2, .int .i64 p3, .int .i64 p4, .slice g1 L gc1, .slice g2 L gc2, .slice g3 L gc3, .slice g4 L gc4] 34)) w3.heap.size [.int .i64 p1, .int .i64 p2, .int .i64 p3, .int .i64 p4, .slice g1 L gc1, .slice g2 L gc2, .slice g3 L gc3, .slice g4 L gc4]) := lies_new _ _ _
  have m0 : (w3.alloc (.cells #[.int .i64 p1, .int .i64 p2, .int .i64 p3, .int .i64 p4, .slice g1 L gc1, .slice g2 L gc2, .slice g3 L gc3, .slice g4 L gc4] 34)).cell? ⟨mb, 0, none⟩ = some (.int .i64 a) := HM_3.out.at 0
  have m1 : (w3.alloc (.cells #[.int .i64 p1, .int .i64 p2, .int .i64 p3, .int .i64 p4, .slice g1 L gc1, .slice g2 L gc2, .slice g3 L gc3, .slice g4 L gc4] 34)).cell? ⟨mb, 1, none⟩ = some (.int .i64 b) := HM_3.out.at 1
  have m2 : (w3.alloc (.cells #[.int .i64 p1, .int .i64 p2, .int .i64 p3, .int .i64 p4, .slice g1 L gc1, .slice g2 L gc2, .slice g3 L gc3, .slice g4 L gc4] 34)).cell? ⟨mb, 2, none⟩ = some (.int .i64 c) := HM_3.out.at 2
  have m3 : (w3.alloc (.cells #[.int .i64 p1, .int .i64 p2, .int .i64 p3, .int .i64 p4, .slice g1 L gc1, .slice g2 L gc2, .slice g3 L gc3, .slice g4 L gc4] 34)).cell? ⟨mb, 3, none⟩ = some (.int .i64 d) := HM_3.out.at 3
  have m4 : (w3.alloc (.cells #[.int .i64 p1, .int .i64 p2, .int .i64 p3, .int .i64 p4, .slice g1 L gc1, .slice g2 L gc2, .slice g3 L gc3, .slice g4 L gc4] 34)).cell? ⟨mb, 4, none⟩ = some (.int .i64 f) := HM_3.out.at 4
  have m5 : (w3.alloc (.cells #[.int .i64 p1, .int .i64 p2, .int .i64 p3, .int .i64 p4, .slice g1 L gc1, .slice g2 L gc2, .slice g3 L gc3, .slice g4 L gc4] 34)).cell? ⟨mb, 5, none⟩ = some (.int .i64 k) := HM_3.out.at 5
  have m6 : (w3.alloc (.cells #[.int .i64 p1, .int .i64 p2, .int .i64 p3, .int .i64 p4, .slice g1 L gc1, .slice g2 L gc2, .slice g3 L gc3, .slice g4 L gc4] 34)).cell? ⟨mb, 6, none⟩ = some (.int .i64 a') := HM_3.out.at 6
  have m7 : (w3.alloc (.cells #[.int .i64 p1, .int .i64 p2, .int .i64 p3, .int .i64 p4, .slice g1 L gc1, .slice g2 L gc2, .slice g3 L gc3, .slice g4 L gc4] 34)).cell? ⟨mb, 7, none⟩ = some (.int .i64 b') := HM_3.out.at 7
  have m8 : (w3.alloc (.cells #[.int .i64 p1, .int .i64 p2, .int .i64 p3, .int .i64 p4, .slice g1 L gc1, .slice g2 L gc2, .slice g3 L gc3, .slice g4 L gc4] 34)).cell? ⟨mb, 8, none⟩ = some (.int .i64 c') := HM_3.out.at 8
  have m9 : (w3.alloc (.cells #[.int .i64 p1, .int .i64 p2, .int .i64 p3, .int .i64 p4, .slice g1 L gc1, .slice g2 L gc2, .slice g3 L gc3, .slice g4 L gc4] 34)).cell? ⟨mb, 9, none⟩ = some (.int .i64 d') := HM_3.out.at 9
  have m10 : (w3.alloc (.cells #[.int .i64 p1, .int .i64 p2, .int .i64 p3, .int .i64 p4, .slice g1 L gc1, .slice g2 L gc2, .slice g3 L gc3, .slice g4 L gc4] 34)).cell? ⟨mb, 10, none⟩ = some (.int .i64 f') := HM_3.out.at 10
  have m11 : (w3.alloc (.cells #[.int .i64 p1, .int .i64 p2, .int .i64 p3, .int .i64 p4, .slice g1 L gc1, .slice g2 L gc2, .slice g3 L gc3, .slice g4 L gc4] 34)).cell? ⟨mb, 11, none⟩ = some (.int .i64 k') := HM_3.out.at 11
  have s0 : (w3.alloc (.cells #[.int .i64 p1, .int .i64 p2, .int .i64 p3, .int .i64 p4, .slice g1 L gc1, .slice g2 L gc2, .slice g3 L gc3, .slice g4 L gc4] 34)).cell? ⟨mb + 1, 0, none⟩ = some (.int .i64 x) := HS_3.out.at 0
  have s1 : (w3.alloc (.cells #[.int .i64 p1, .int .i64 p2, .int .i64 p3, .int .i64 p4, .slice g1 L gc1, .slice g2 L gc2, .slice g3 L gc3, .slice g4 L gc4] 34)).cell? ⟨mb + 1, 1, none⟩ = some (.int .i64 y) := HS_3.out.at 1
  go_wp2_with fail
  clear m0 m1 m2 m3 m4 m5 m6 m7 m8 m9 m10 m11 s0 s1
  generalize (w3.alloc (.cells #[.int .i64 p1, .int .i64 p2, .int .i64 p3, .int .i64 p4, .slice g1 L gc1, .slice g2 L gc2, .slice g3 L gc3, .slice g4 L gc4] 34)) = w4 at HB_3 HE_3 HM_3 HS_3 G1_3 G2_3 G3_3 G4_3 HG_3  ⊢
  generalize w3.heap.size = gb at HG_3 ⊢
  refine (CS _).mono ?_
  rintro e w5 ⟨h1, hc1, h2, hc2, h3, hc3, h4, hc4, rfl, ⟨q1, q2, q3, q4⟩, hfar, hb⟩
  have HB_4 : Hid (Below w.heap.size w w5) := HB_3.out.trans (hb.mono HB_3.out.size)
  have HE_4 : Hid (EnvX w5 aL aN aG aE aR) := HE_3.out.below hb
  have HM_4 : Hid (Lies w5 mb [.int .i64 a, .int .i64 b, .int .i64 c, .int .i64 d, .int .i64 f, .int .i64 k, .int .i64 a', .int .i64 b', .int .i64 c', .int .i64 d', .int .i64 f', .int .i64 k']) := HM_3.out.belowS hb
  have HS_4 : Hid (Lies w5 (mb + 1) [.int .i64 x, .int .i64 y]) := HS_3.out.belowS hb
  have G1_4 : Hid (Sees w5 g1 L gc1 z1) := G1_3.out.below hb
  have G2_4 : Hid (Sees w5 g2 L gc2 z2) := G2_3.out.below hb
  have G3_4 : Hid (Sees w5 g3 L gc3 z3) := G3_3.out.below hb
  have G4_4 : Hid (Sees w5 g4 L gc4 z4) := G4_3.out.below hb
  have HG_4 : Hid (Lies w5 gb [.int .i64 p1, .int .i64 p2, .int .i64 p3, .int .i64 p4, .slice g1 L gc1, .slice g2 L gc2, .slice g3 L gc3, .slice g4 L gc4]) := HG_3.out.belowS hb
  clear HB_3 HE_3 HM_3 HS_3 G1_3 G2_3 G3_3 G4_3 HG_3
  have H1_4 : Hid (Sees w5 h1 L hc1 z1) := q1.sees
  have H2_4 : Hid (Sees w5 h2 L hc2 z2) := q2.sees
  have H3_4 : Hid (Sees w5 h3 L hc3 z3) := q3.sees
  have H4_4 : Hid (Sees w5 h4 L hc4 z4) := q4.sees
  clear hb
  clear q1 q2 q3 q4 hfar
  have hba : Below w5.heap.size w5 (w5.alloc (.cells #[.int .i64 p1, .int .i64 p2, .int .i64 p3, .int .i64 p4, .slice h1 L hc1, .slice h2 L hc2, .slice h3 L hc3, .slice h4 L hc4] 34)) := (Below.refl _ _).alloc (Nat.le_refl _) _
  have HB_5 : Hid (Below w.heap.size w (w5.alloc (.cells #[.int .i64 p1, .int .i64 p2, .int .i64 p3, .int .i64 p4, .slice h1 L hc1, .slice h2 L hc2, .slice h3 L hc3, .slice h4 L hc4] 34))) := HB_4.out.trans (hba.mono HB_4.out.size)
  have HE_5 : Hid (EnvX (w5.alloc (.cells #[.int .i64 p1, .int .i64 p2, .int .i64 p3, .int .i64 p4, .slice h1 L hc1, .slice h2 L hc2, .slice h3 L hc3, .slice h4 L hc4] 34)) aL aN aG aE aR) := HE_4.out.below hba
  have HM_5 : Hid (Lies (w5.alloc (.cells #[.int .i64 p1, .int .i64 p2, .int .i64 p3, .int .i64 p4, .slice h1 L hc1, .slice h2 L hc2, .slice h3 L hc3, .slice h4 L hc4] 34)) mb [.int .i64 a, .int .i64 b, .int .i64 c, .int .i64 d, .int .i64 f, .int .i64 k, .int .i64 a', .int .i64 b', .int .i64 c', .int .i64 d', .int .i64 f', .int .i64 k']) := HM_4.out.belowS hba
  have HS_5 : Hid (Lies (w5.alloc (.cells #[.int .i64 p1, .int .i64 p2, .int .i64 p3, .int .i64 p4, .slice h1 L hc1, .slice h2 L hc2, .slice h3 L hc3, .slice h4 L hc4] 34)) (mb + 1) [.int .i64 x, .int .i64 y]) := HS_4.out.belowS hba
  have G1_5 : Hid (Sees (w5.alloc (.cells #[.int .i64 p1, .int .i64 p2, .int .i64 p3, .int .i64 p4, .slice h1 L hc1, .slice h2 L hc2, .slice h3 L hc3, .slice h4 L hc4] 34)) g1 L gc1 z1) := G1_4.out.below hba
  have G2_5 : Hid (Sees (w5.alloc (.cells #[.int .i64 p1, .int .i64 p2, .int .i64 p3, .int .i64 p4, .slice h1 L hc1, .slice h2 L hc2, .slice h3 L hc3, .slice h4 L hc4] 34)) g2 L gc2 z2) := G2_4.out.below hba
  have G3_5 : Hid (Sees (w5.alloc (.cells #[.int .i64 p1, .int .i64 p2, .int .i64 p3, .int .i64 p4, .slice h1 L hc1, .slice h2 L hc2, .slice h3 L hc3, .slice h4 L hc4] 34)) g3 L gc3 z3) := G3_4.out.below hba
  have G4_5 : Hid (Sees (w5.alloc (.cells #[.int .i64 p1, .int .i64 p2, .int .i64 p3, .int .i64 p4, .slice h1 L hc1, .slice h2 L hc2, .slice h3 L hc3, .slice h4 L hc4] 34)) g4 L gc4 z4) := G4_4.out.below hba
  have HG_5 : Hid (Lies (w5.alloc (.cells #[.int .i64 p1, .int .i64 p2, .int .i64 p3, .int .i64 p4, .slice h1 L hc1, .slice h2 L hc2, .slice h3 L hc3, .slice h4 L hc4] 34)) gb [.int .i64 p1, .int .i64 p2, .int .i64 p3, .int .i64 p4, .slice g1 L gc1, .slice g2 L gc2, .slice g3 L gc3, .slice g4 L gc4]) := HG_4.out.belowS hba
  have H1_5 : Hid (Sees (w5.alloc (.cells #[.int .i64 p1, .int .i64 p2, .int .i64 p3, .int .i64 p4, .slice h1 L hc1, .slice h2 L hc2, .slice h3 L hc3, .slice h4 L hc4] 34)) h1 L hc1 z1) := H1_4.out.below hba
  have H2_5 : Hid (Sees (w5.alloc (.cells #[.int .i64 p1, .int .i64 p2, .int .i64 p3, .int .i64 p4, .slice h1 L hc1, .slice h2 L hc2, .slice h3 L hc3, .slice h4 L hc4] 34)) h2 L hc2 z2) := H2_4.out.below hba
  have H3_5 : Hid (Sees (w5.alloc (.cells #[.int .i64 p1, .int .i64 p2, .int .i64 p3, .int .i64 p4, .slice h1 L hc1, .slice h2 L hc2, .slice h3 L hc3, .slice h4 L hc4] 34)) h3 L hc3 z3) := H3_4.out.below hba
  have H4_5 : Hid (Sees (w5.alloc (.cells #[.int .i64 p1, .int .i64 p2, .int .i64 p3, .int .i64 p4, .slice h1 L hc1, .slice h2 L hc2, .slice h3 L hc3, .slice h4 L hc4] 34)) h4 L hc4 z4) := H4_4.out.below hba
  clear HB_4 HE_4 HM_4 HS_4 G1_4 G2_4 G3_4 G4_4 HG_4 H1_4 H2_4 H3_4 H4_4
  clear hba
  have HW_5 : Hid (Lies (w5.alloc (.cells #[.int .i64 p1, .int .i64 p2, .int .i64 p3, .int .i64 p4, .slice h1 L hc1, .slice h2 L hc2, .slice h3 L hc3, .slice h4 L hc4] 34)) w5.heap.size [.int .i64 p1, .int .i64 p2, .int .i64 p3, .int .i64 p4, .slice h1 L hc1, .slice h2 L hc2, .slice h3 L hc3, .slice h4 L hc4]) := lies_new _ _ _
  have g_4 : (w5.alloc (.cells #[.int .i64 p1, .int .i64 p2, .int .i64 p3, .int .i64 p4, .slice h1 L hc1, .slice h2 L hc2, .slice h3 L hc3, .slice h4 L hc4] 34)).cell? ⟨gb, 4, none⟩ = some (.slice g1 L gc1) := HG_5.out.at 4
  have h_4 : (w5.alloc (.cells #[.int .i64 p1, .int .i64 p2, .int .i64 p3, .int .i64 p4, .slice h1 L hc1, .slice h2 L hc2, .slice h3 L hc3, .slice h4 L hc4] 34)).cell? ⟨w5.heap.size, 4, none⟩ = some (.slice h1 L hc1) := HW_5.out.at 4
  go_wp2_with fail
  clear g_4 h_4
  generalize (w5.alloc (.cells #[.int .i64 p1, .int .i64 p2, .int .i64 p3, .int .i64 p4, .slice h1 L hc1, .slice h2 L hc2, .slice h3 L hc3, .slice h4 L hc4] 34)) = w6 at HB_5 HE_5 HM_5 HS_5 G1_5 G2_5 G3_5 G4_5 HG_5 H1_5 H2_5 H3_5 H4_5 HW_5  ⊢
  generalize w5.heap.size = hb_ at HW_5 ⊢
  refine (CSM _ G1_5.out H1_5.out).mono ?_
  rintro e w7 ⟨rfl, hb⟩
  have HB_6 : Hid (Below w.heap.size w w7) := HB_5.out.trans (hb.mono HB_5.out.size)
  have HE_6 : Hid (EnvX w7 aL aN aG aE aR) := HE_5.out.below hb
  have HM_6 : Hid (Lies w7 mb [.int .i64 a, .int .i64 b, .int .i64 c, .int .i64 d, .int .i64 f, .int .i64 k, .int .i64 a', .int .i64 b', .int .i64 c', .int .i64 d', .int .i64 f', .int .i64 k']) := HM_5.out.belowS hb
  have HS_6 : Hid (Lies w7 (mb + 1) [.int .i64 x, .int .i64 y]) := HS_5.out.belowS hb
  have G1_6 : Hid (Sees w7 g1 L gc1 z1) := G1_5.out.below hb
  have G2_6 : Hid (Sees w7 g2 L gc2 z2) := G2_5.out.below hb
  have G3_6 : Hid (Sees w7 g3 L gc3 z3) := G3_5.out.below hb
  have G4_6 : Hid (Sees w7 g4 L gc4 z4) := G4_5.out.below hb
  have HG_6 : Hid (Lies w7 gb [.int .i64 p1, .int .i64 p2, .int .i64 p3, .int .i64 p4, .slice g1 L gc1, .slice g2 L gc2, .slice g3 L gc3, .slice g4 L gc4]) := HG_5.out.belowS hb
  have H1_6 : Hid (Sees w7 h1 L hc1 z1) := H1_5.out.below hb
  have H2_6 : Hid (Sees w7 h2 L hc2 z2) := H2_5.out.below hb
  have H3_6 : Hid (Sees w7 h3 L hc3 z3) := H3_5.out.below hb
  have H4_6 : Hid (Sees w7 h4 L hc4 z4) := H4_5.out.below hb
  have HW_6 : Hid (Lies w7 hb_ [.int .i64 p1, .int .i64 p2, .int .i64 p3, .int .i64 p4, .slice h1 L hc1, .slice h2 L hc2, .slice h3 L hc3, .slice h4 L hc4]) := HW_5.out.belowS hb
  clear HB_5 HE_5 HM_5 HS_5 G1_5 G2_5 G3_5 G4_5 HG_5 H1_5 H2_5 H3_5 H4_5 HW_5
  clear hb
  have g_6 : w7.cell? ⟨gb, 6, none⟩ = some (.slice g3 L gc3) := HG_6.out.at 6
  have h_6 : w7.cell? ⟨hb_, 6, none⟩ = some (.slice h3 L hc3) := HW_6.out.at 6
  go_wp2_with fail
  clear g_6 h_6
  refine (CSM _ G3_6.out H3_6.out).mono ?_
  rintro e w8 ⟨rfl, hb⟩
  have HB_7 : Hid (Below w.heap.size w w8) := HB_6.out.trans (hb.mono HB_6.out.size)
  have HE_7 : Hid (EnvX w8 aL aN aG aE aR) := HE_6.out.below hb
  have HM_7 : Hid (Lies w8 mb [.int .i64 a, .int .i64 b, .int .i64 c, .int .i64 d, .int .i64 f, .int .i64 k, .int .i64 a', .int .i64 b', .int .i64 c', .int .i64 d', .int .i64 f', .int .i64 k']) := HM_6.out.belowS hb
  have HS_7 : Hid (Lies w8 (mb + 1) [.int .i64 x, .int .i64 y]) := HS_6.out.belowS hb
  have G1_7 : Hid (Sees w8 g1 L gc1 z1) := G1_6.out.below hb
  have G2_7 : Hid (Sees w8 g2 L gc2 z2) := G2_6.out.below hb
  have G3_7 : Hid (Sees w8 g3 L gc3 z3) := G3_6.out.below hb
  have G4_7 : Hid (Sees w8 g4 L gc4 z4) := G4_6.out.below hb
  have HG_7 : Hid (Lies w8 gb [.int .i64 p1, .int .i64 p2, .int .i64 p3, .int .i64 p4, .slice g1 L gc1, .slice g2 L gc2, .slice g3 L gc3, .slice g4 L gc4]) := HG_6.out.belowS hb
  have H1_7 : Hid (Sees w8 h1 L hc1 z1) := H1_6.out.below hb
  have H2_7 : Hid (Sees w8 h2 L hc2 z2) := H2_6.out.below hb
  have H3_7 : Hid (Sees w8 h3 L hc3 z3) := H3_6.out.below hb
  have H4_7 : Hid (Sees w8 h4 L hc4 z4) := H4_6.out.below hb
  have HW_7 : Hid (Lies w8 hb_ [.int .i64 p1, .int .i64 p2, .int .i64 p3, .int .i64 p4, .slice h1 L hc1, .slice h2 L hc2, .slice h3 L hc3, .slice h4 L hc4]) := HW_6.out.belowS hb
  clear HB_6 HE_6 HM_6 HS_6 G1_6 G2_6 G3_6 G4_6 HG_6 H1_6 H2_6 H3_6 H4_6 HW_6
  clear hb
  have g_5 : w8.cell? ⟨gb, 5, none⟩ = some (.slice g2 L gc2) := HG_7.out.at 5
  have h_5 : w8.cell? ⟨hb_, 5, none⟩ = some (.slice h2 L hc2) := HW_7.out.at 5
  go_wp2_with fail
  clear g_5 h_5
  refine (CSM _ G2_7.out H2_7.out).mono ?_
  rintro e w9 ⟨rfl, hb⟩
  have HB_8 : Hid (Below w.heap.size w w9) := HB_7.out.trans (hb.mono HB_7.out.size)
  have HE_8 : Hid (EnvX w9 aL aN aG aE aR) := HE_7.out.below hb
  have HM_8 : Hid (Lies w9 mb [.int .i64 a, .int .i64 b, .int .i64 c, .int .i64 d, .int .i64 f, .int .i64 k, .int .i64 a', .int .i64 b', .int .i64 c', .int .i64 d', .int .i64 f', .int .i64 k']) := HM_7.out.belowS hb
  have HS_8 : Hid (Lies w9 (mb + 1) [.int .i64 x, .int .i64 y]) := HS_7.out.belowS hb
  have G1_8 : Hid (Sees w9 g1 L gc1 z1) := G1_7.out.below hb
  have G2_8 : Hid (Sees w9 g2 L gc2 z2) := G2_7.out.below hb
  have G3_8 : Hid (Sees w9 g3 L gc3 z3) := G3_7.out.below hb
  have G4_8 : Hid (Sees w9 g4 L gc4 z4) := G4_7.out.below hb
  have HG_8 : Hid (Lies w9 gb [.int .i64 p1, .int .i64 p2, .int .i64 p3, .int .i64 p4, .slice g1 L gc1, .slice g2 L gc2, .slice g3 L gc3, .slice g4 L gc4]) := HG_7.out.belowS hb
  have H1_8 : Hid (Sees w9 h1 L hc1 z1) := H1_7.out.below hb
  have H2_8 : Hid (Sees w9 h2 L hc2 z2) := H2_7.out.below hb
  have H3_8 : Hid (Sees w9 h3 L hc3 z3) := H3_7.out.below hb
  have H4_8 : Hid (Sees w9 h4 L hc4 z4) := H4_7.out.below hb
  have HW_8 : Hid (Lies w9 hb_ [.int .i64 p1, .int .i64 p2, .int .i64 p3, .int .i64 p4, .slice h1 L hc1, .slice h2 L hc2, .slice h3 L hc3, .slice h4 L hc4]) := HW_7.out.belowS hb
  clear HB_7 HE_7 HM_7 HS_7 G1_7 G2_7 G3_7 G4_7 HG_7 H1_7 H2_7 H3_7 H4_7 HW_7
  clear hb
  have g_7 : w9.cell? ⟨gb, 7, none⟩ = some (.slice g4 L gc4) := HG_8.out.at 7
  have h_7 : w9.cell? ⟨hb_, 7, none⟩ = some (.slice h4 L hc4) := HW_8.out.at 7
  go_wp2_with fail
  clear g_7 h_7
  refine (CSM _ G4_8.out H4_8.out).mono ?_
  rintro e w10 ⟨rfl, hb⟩
  have HB_9 : Hid (Below w.heap.size w w10) := HB_8.out.trans (hb.mono HB_8.out.size)
  have HE_9 : Hid (EnvX w10 aL aN aG aE aR) := HE_8.out.below hb
  have HM_9 : Hid (Lies w10 mb [.int .i64 a, .int .i64 b, .int .i64 c, .int .i64 d, .int .i64 f, .int .i64 k, .int .i64 a', .int .i64 b', .int .i64 c', .int .i64 d', .int .i64 f', .int .i64 k']) := HM_8.out.belowS hb
  have HS_9 : Hid (Lies w10 (mb + 1) [.int .i64 x, .int .i64 y]) := HS_8.out.belowS hb
  have G1_9 : Hid (Sees w10 g1 L gc1 z1) := G1_8.out.below hb
  have G2_9 : Hid (Sees w10 g2 L gc2 z2) := G2_8.out.below hb
  have G3_9 : Hid (Sees w10 g3 L gc3 z3) := G3_8.out.below hb
  have G4_9 : Hid (Sees w10 g4 L gc4 z4) := G4_8.out.below hb
  have HG_9 : Hid (Lies w10 gb [.int .i64 p1, .int .i64 p2, .int .i64 p3, .int .i64 p4, .slice g1 L gc1, .slice g2 L gc2, .slice g3 L gc3, .slice g4 L gc4]) := HG_8.out.belowS hb
  have H1_9 : Hid (Sees w10 h1 L hc1 z1) := H1_8.out.below hb
  have H2_9 : Hid (Sees w10 h2 L hc2 z2) := H2_8.out.below hb
  have H3_9 : Hid (Sees w10 h3 L hc3 z3) := H3_8.out.below hb
  have H4_9 : Hid (Sees w10 h4 L hc4 z4) := H4_8.out.below hb
  have HW_9 : Hid (Lies w10 hb_ [.int .i64 p1, .int .i64 p2, .int .i64 p3, .int .i64 p4, .slice h1 L hc1, .slice h2 L hc2, .slice h3 L hc3, .slice h4 L hc4]) := HW_8.out.belowS hb
  clear HB_8 HE_8 HM_8 HS_8 G1_8 G2_8 G3_8 G4_8 HG_8 H1_8 H2_8 H3_8 H4_8 HW_8
  clear hb
  have g_4 : w10.cell? ⟨gb, 4, none⟩ = some (.slice g1 L gc1) := HG_9.out.at 4
  have h_4 : w10.cell? ⟨hb_, 4, none⟩ = some (.slice h1 L hc1) := HW_9.out.at 4
  cases o with
  | false =>
    go_wp2_with fail
    refine (CSM _ G1_9.out H1_9.out).mono ?_
    rintro e w9 ⟨rfl, hb9⟩
    have HB9 : Hid (Below w.heap.size w w9) := HB_9.out.trans (hb9.mono HB_9.out.size)
    clear hb9
    go_wp2
    go_ret
    exact ⟨rfl, HB9.out⟩
  | true =>
  clear g_4 h_4 CSM CI CS
  clear H1_9
  clear H2_9
  clear H3_9
  clear H4_9
  clear HW_9
  obtain ⟨hoA, hRn, hs_, he_⟩ := HH.out rfl
  obtain ⟨rfl, rfl⟩ : p1 = x ∧ p2 = y := by simpa using hs_
  obtain ⟨rfl, rfl⟩ : p3 = ax ∧ p4 = ay := by simpa using he_
  subst hoA
  clear hs_ he_ HH
  have hnw : IntKind.i64.wrap (n - 1) = n - 1 := by rw [IntKind.wrap_i64]; omega
  have m0 : w10.cell? ⟨mb, 0, none⟩ = some (.int .i64 a) := HM_9.out.at 0
  have m1 : w10.cell? ⟨mb, 1, none⟩ = some (.int .i64 b) := HM_9.out.at 1
  have m2 : w10.cell? ⟨mb, 2, none⟩ = some (.int .i64 c) := HM_9.out.at 2
  have m3 : w10.cell? ⟨mb, 3, none⟩ = some (.int .i64 d) := HM_9.out.at 3
  have m4 : w10.cell? ⟨mb, 4, none⟩ = some (.int .i64 f) := HM_9.out.at 4
  have m5 : w10.cell? ⟨mb, 5, none⟩ = some (.int .i64 k) := HM_9.out.at 5
  have m6 : w10.cell? ⟨mb, 6, none⟩ = some (.int .i64 a') := HM_9.out.at 6
  have m7 : w10.cell? ⟨mb, 7, none⟩ = some (.int .i64 b') := HM_9.out.at 7
  have m8 : w10.cell? ⟨mb, 8, none⟩ = some (.int .i64 c') := HM_9.out.at 8
  have m9 : w10.cell? ⟨mb, 9, none⟩ = some (.int .i64 d') := HM_9.out.at 9
  have m10 : w10.cell? ⟨mb, 10, none⟩ = some (.int .i64 f') := HM_9.out.at 10
  have m11 : w10.cell? ⟨mb, 11, none⟩ = some (.int .i64 k') := HM_9.out.at 11
  have s0 : w10.cell? ⟨mb + 1, 0, none⟩ = some (.int .i64 p1) := HS_9.out.at 0
  have s1 : w10.cell? ⟨mb + 1, 1, none⟩ = some (.int .i64 p2) := HS_9.out.at 1
  go_wp2_with fail
  clear m0 m1 m2 m3 m4 m5 m6 m7 m8 m9 m10 m11 s0 s1
  refine (CA _).mono ?_
  rintro e w11 ⟨rfl, hb⟩
  have HB_10 : Hid (Below w.heap.size w w11) := HB_9.out.trans (hb.mono HB_9.out.size)
  have HE_10 : Hid (EnvX w11 aL aN aG aE aR) := HE_9.out.below hb
  have HM_10 : Hid (Lies w11 mb [.int .i64 a, .int .i64 b, .int .i64 c, .int .i64 d, .int .i64 f, .int .i64 k, .int .i64 a', .int .i64 b', .int .i64 c', .int .i64 d', .int .i64 f', .int .i64 k']) := HM_9.out.belowS hb
  have HS_10 : Hid (Lies w11 (mb + 1) [.int .i64 p1, .int .i64 p2]) := HS_9.out.belowS hb
  have G1_10 : Hid (Sees w11 g1 L gc1 z1) := G1_9.out.below hb
  have G2_10 : Hid (Sees w11 g2 L gc2 z2) := G2_9.out.below hb
  have G3_10 : Hid (Sees w11 g3 L gc3 z3) := G3_9.out.below hb
  have G4_10 : Hid (Sees w11 g4 L gc4 z4) := G4_9.out.below hb
  have HG_10 : Hid (Lies w11 gb [.int .i64 p1, .int .i64 p2, .int .i64 p3, .int .i64 p4, .slice g1 L gc1, .slice g2 L gc2, .slice g3 L gc3, .slice g4 L gc4]) := HG_9.out.belowS hb
  clear HB_9 HE_9 HM_9 HS_9 G1_9 G2_9 G3_9 G4_9 HG_9
  clear hb
  have hba : Below w11.heap.size w11 (w11.alloc (.cells #[.int .i64 p3, .int .i64 p4] 29)) := (Below.refl _ _).alloc (Nat.le_refl _) _
  have HB_11 : Hid (Below w.heap.size w (w11.alloc (.cells #[.int .i64 p3, .int .i64 p4] 29))) := HB_10.out.trans (hba.mono HB_10.out.size)
  have HE_11 : Hid (EnvX (w11.alloc (.cells #[.int .i64 p3, .int .i64 p4] 29)) aL aN aG aE aR) := HE_10.out.below hba
  have HM_11 : Hid (Lies (w11.alloc (.cells #[.int .i64 p3, .int .i64 p4] 29)) mb [.int .i64 a, .int .i64 b, .int .i64 c, .int .i64 d, .int .i64 f, .int .i64 k, .int .i64 a', .int .i64 b', .int .i64 c', .int .i64 d', .int .i64 f', .int .i64 k']) := HM_10.out.belowS hba
  have HS_11 : Hid (Lies (w11.alloc (.cells #[.int .i64 p3, .int .i64 p4] 29)) (mb + 1) [.int .i64 p1, .int .i64 p2]) := HS_10.out.belowS hba
  have G1_11 : Hid (Sees (w11.alloc (.cells #[.int .i64 p3, .int .i64 p4] 29)) g1 L gc1 z1) := G1_10.out.below hba
  have G2_11 : Hid (Sees (w11.alloc (.cells #[.int .i64 p3, .int .i64 p4] 29)) g2 L gc2 z2) := G2_10.out.below hba
  have G3_11 : Hid (Sees (w11.alloc (.cells #[.int .i64 p3, .int .i64 p4] 29)) g3 L gc3 z3) := G3_10.out.below hba
  have G4_11 : Hid (Sees (w11.alloc (.cells #[.int .i64 p3, .int .i64 p4] 29)) g4 L gc4 z4) := G4_10.out.below hba
  have HG_11 : Hid (Lies (w11.alloc (.cells #[.int .i64 p3, .int .i64 p4] 29)) gb [.int .i64 p1, .int .i64 p2, .int .i64 p3, .int .i64 p4, .slice g1 L gc1, .slice g2 L gc2, .slice g3 L gc3, .slice g4 L gc4]) := HG_10.out.belowS hba
  clear HB_10 HE_10 HM_10 HS_10 G1_10 G2_10 G3_10 G4_10 HG_10
  clear hba
  have HEe_11 : Hid (Lies (w11.alloc (.cells #[.int .i64 p3, .int .i64 p4] 29)) w11.heap.size [.int .i64 p3, .int .i64 p4]) := lies_new _ _ _
  have m0 : (w11.alloc (.cells #[.int .i64 p3, .int .i64 p4] 29)).cell? ⟨mb, 0, none⟩ = some (.int .i64 a) := HM_11.out.at 0
  have m1 : (w11.alloc (.cells #[.int .i64 p3, .int .i64 p4] 29)).cell? ⟨mb, 1, none⟩ = some (.int .i64 b) := HM_11.out.at 1
  have m2 : (w11.alloc (.cells #[.int .i64 p3, .int .i64 p4] 29)).cell? ⟨mb, 2, none⟩ = some (.int .i64 c) := HM_11.out.at 2
  have m3 : (w11.alloc (.cells #[.int .i64 p3, .int .i64 p4] 29)).cell? ⟨mb, 3, none⟩ = some (.int .i64 d) := HM_11.out.at 3
  have m4 : (w11.alloc (.cells #[.int .i64 p3, .int .i64 p4] 29)).cell? ⟨mb, 4, none⟩ = some (.int .i64 f) := HM_11.out.at 4
  have m5 : (w11.alloc (.cells #[.int .i64 p3, .int .i64 p4] 29)).cell? ⟨mb, 5, none⟩ = some (.int .i64 k) := HM_11.out.at 5
  have m6 : (w11.alloc (.cells #[.int .i64 p3, .int .i64 p4] 29)).cell? ⟨mb, 6, none⟩ = some (.int .i64 a') := HM_11.out.at 6
  have m7 : (w11.alloc (.cells #[.int .i64 p3, .int .i64 p4] 29)).cell? ⟨mb, 7, none⟩ = some (.int .i64 b') := HM_11.out.at 7
  have m8 : (w11.alloc (.cells #[.int .i64 p3, .int .i64 p4] 29)).cell? ⟨mb, 8, none⟩ = some (.int .i64 c') := HM_11.out.at 8
  have m9 : (w11.alloc (.cells #[.int .i64 p3, .int .i64 p4] 29)).cell? ⟨mb, 9, none⟩ = some (.int .i64 d') := HM_11.out.at 9
  have m10 : (w11.alloc (.cells #[.int .i64 p3, .int .i64 p4] 29)).cell? ⟨mb, 10, none⟩ = some (.int .i64 f') := HM_11.out.at 10
  have m11 : (w11.alloc (.cells #[.int .i64 p3, .int .i64 p4] 29)).cell? ⟨mb, 11, none⟩ = some (.int .i64 k') := HM_11.out.at 11
  have g_0 : (w11.alloc (.cells #[.int .i64 p3, .int .i64 p4] 29)).cell? ⟨gb, 0, none⟩ = some (.int .i64 p1) := HG_11.out.at 0
  have g_1 : (w11.alloc (.cells #[.int .i64 p3, .int .i64 p4] 29)).cell? ⟨gb, 1, none⟩ = some (.int .i64 p2) := HG_11.out.at 1
  have g_2 : (w11.alloc (.cells #[.int .i64 p3, .int .i64 p4] 29)).cell? ⟨gb, 2, none⟩ = some (.int .i64 p3) := HG_11.out.at 2
  have g_3 : (w11.alloc (.cells #[.int .i64 p3, .int .i64 p4] 29)).cell? ⟨gb, 3, none⟩ = some (.int .i64 p4) := HG_11.out.at 3
  have g_4 : (w11.alloc (.cells #[.int .i64 p3, .int .i64 p4] 29)).cell? ⟨gb, 4, none⟩ = some (.slice g1 L gc1) := HG_11.out.at 4
  have g_5 : (w11.alloc (.cells #[.int .i64 p3, .int .i64 p4] 29)).cell? ⟨gb, 5, none⟩ = some (.slice g2 L gc2) := HG_11.out.at 5
  have g_6 : (w11.alloc (.cells #[.int .i64 p3, .int .i64 p4] 29)).cell? ⟨gb, 6, none⟩ = some (.slice g3 L gc3) := HG_11.out.at 6
  have g_7 : (w11.alloc (.cells #[.int .i64 p3, .int .i64 p4] 29)).cell? ⟨gb, 7, none⟩ = some (.slice g4 L gc4) := HG_11.out.at 7
  go_wp2_with fail
  clear m0 m1 m2 m3 m4 m5 m6 m7 m8 m9 m10 m11 g_0 g_1 g_2 g_3 g_4 g_5 g_6 g_7
  generalize (w11.alloc (.cells #[.int .i64 p3, .int .i64 p4] 29)) = w12 at HB_11 HE_11 HM_11 HS_11 G1_11 G2_11 G3_11 G4_11 HG_11 HEe_11  ⊢
  generalize w11.heap.size = eb at HEe_11 ⊢
  refine (CACC _ HE_11.out G1_11.out G2_11.out G3_11.out G4_11.out).mono ?_
  rintro e w13 ⟨rfl, hb⟩
  have HB_12 : Hid (Below w.heap.size w w13) := HB_11.out.trans (hb.mono HB_11.out.size)
  have HE_12 : Hid (EnvX w13 aL aN aG aE aR) := HE_11.out.below hb
  have HM_12 : Hid (Lies w13 mb [.int .i64 a, .int .i64 b, .int .i64 c, .int .i64 d, .int .i64 f, .int .i64 k, .int .i64 a', .int .i64 b', .int .i64 c', .int .i64 d', .int .i64 f', .int .i64 k']) := HM_11.out.belowS hb
  have HS_12 : Hid (Lies w13 (mb + 1) [.int .i64 p1, .int .i64 p2]) := HS_11.out.belowS hb
  have G1_12 : Hid (Sees w13 g1 L gc1 z1) := G1_11.out.below hb
  have G2_12 : Hid (Sees w13 g2 L gc2 z2) := G2_11.out.below hb
  have G3_12 : Hid (Sees w13 g3 L gc3 z3) := G3_11.out.below hb
  have G4_12 : Hid (Sees w13 g4 L gc4 z4) := G4_11.out.below hb
  have HG_12 : Hid (Lies w13 gb [.int .i64 p1, .int .i64 p2, .int .i64 p3, .int .i64 p4, .slice g1 L gc1, .slice g2 L gc2, .slice g3 L gc3, .slice g4 L gc4]) := HG_11.out.belowS hb
  have HEe_12 : Hid (Lies w13 eb [.int .i64 p3, .int .i64 p4]) := HEe_11.out.belowS hb
  clear HB_11 HE_11 HM_11 HS_11 G1_11 G2_11 G3_11 G4_11 HG_11 HEe_11
  clear hb
  have g_0 : w13.cell? ⟨gb, 0, none⟩ = some (.int .i64 p1) := HG_12.out.at 0
  have g_1 : w13.cell? ⟨gb, 1, none⟩ = some (.int .i64 p2) := HG_12.out.at 1
  have g_2 : w13.cell? ⟨gb, 2, none⟩ = some (.int .i64 p3) := HG_12.out.at 2
  have g_3 : w13.cell? ⟨gb, 3, none⟩ = some (.int .i64 p4) := HG_12.out.at 3
  have g_4 : w13.cell? ⟨gb, 4, none⟩ = some (.slice g1 L gc1) := HG_12.out.at 4
  have g_5 : w13.cell? ⟨gb, 5, none⟩ = some (.slice g2 L gc2) := HG_12.out.at 5
  have g_6 : w13.cell? ⟨gb, 6, none⟩ = some (.slice g3 L gc3) := HG_12.out.at 6
  have g_7 : w13.cell? ⟨gb, 7, none⟩ = some (.slice g4 L gc4) := HG_12.out.at 7
  go_wp2_with fail
  clear g_0 g_1 g_2 g_3 g_4 g_5 g_6 g_7
  refine (CRO _ HE_12.out G1_12.out G2_12.out G3_12.out G4_12.out).mono ?_
  rintro e w14 ⟨rfl, hb⟩
  have HB_13 : Hid (Below w.heap.size w w14) := HB_12.out.trans (hb.mono HB_12.out.size)
  have HE_13 : Hid (EnvX w14 aL aN aG aE aR) := HE_12.out.below hb
  have HM_13 : Hid (Lies w14 mb [.int .i64 a, .int .i64 b, .int .i64 c, .int .i64 d, .int .i64 f, .int .i64 k, .int .i64 a', .int .i64 b', .int .i64 c', .int .i64 d', .int .i64 f', .int .i64 k']) := HM_12.out.belowS hb
  have HS_13 : Hid (Lies w14 (mb + 1) [.int .i64 p1, .int .i64 p2]) := HS_12.out.belowS hb
  have G1_13 : Hid (Sees w14 g1 L gc1 z1) := G1_12.out.below hb
  have G2_13 : Hid (Sees w14 g2 L gc2 z2) := G2_12.out.below hb
  have G3_13 : Hid (Sees w14 g3 L gc3 z3) := G3_12.out.below hb
  have G4_13 : Hid (Sees w14 g4 L gc4 z4) := G4_12.out.below hb
  have HG_13 : Hid (Lies w14 gb [.int .i64 p1, .int .i64 p2, .int .i64 p3, .int .i64 p4, .slice g1 L gc1, .slice g2 L gc2, .slice g3 L gc3, .slice g4 L gc4]) := HG_12.out.belowS hb
  have HEe_13 : Hid (Lies w14 eb [.int .i64 p3, .int .i64 p4]) := HEe_12.out.belowS hb
  clear HB_12 HE_12 HM_12 HS_12 G1_12 G2_12 G3_12 G4_12 HG_12 HEe_12
  clear hb
  have hRq : ((R : Int) == n) = true := by simp [hRn]
  have g_0 : w14.cell? ⟨gb, 0, none⟩ = some (.int .i64 p1) := HG_13.out.at 0
  have g_1 : w14.cell? ⟨gb, 1, none⟩ = some (.int .i64 p2) := HG_13.out.at 1
  have g_2 : w14.cell? ⟨gb, 2, none⟩ = some (.int .i64 p3) := HG_13.out.at 2
  have g_3 : w14.cell? ⟨gb, 3, none⟩ = some (.int .i64 p4) := HG_13.out.at 3
  have s0 : w14.cell? ⟨mb + 1, 0, none⟩ = some (.int .i64 p1) := HS_13.out.at 0
  have s1 : w14.cell? ⟨mb + 1, 1, none⟩ = some (.int .i64 p2) := HS_13.out.at 1
  have e_0 : w14.cell? ⟨eb, 0, none⟩ = some (.int .i64 p3) := HEe_13.out.at 0
  have e_1 : w14.cell? ⟨eb, 1, none⟩ = some (.int .i64 p4) := HEe_13.out.at 1
  go_wp2
  go_ret
  exact ⟨rfl, HB_13.out⟩
end Go.Proofs.YtbcfjbkmkknmfaaGreatDoor
