/- Arguments that are opened field by field, whatever their depth. A law's proof opened as an argument; what the row says of the package's variables. Two lists of numbers held against each other by the laws. The reader of drawn bytes: each of its steps answers some number in its range and turns nothing but its own place in memory. The reader of drawn bytes, continued: numbers below a bound, words, numbers near a range, elements. What is drawn for the field's laws: some numbers that fit 64 bits; nothing that was there is turned. What is drawn for the laws of polynomials: some lists of numbers in memory of their own. Drawn rules, machines and states: some values each. Drawn machines: some machine each. What DrawRunOf draws: some machine, some state, some number. Division with a rest in the model. The model's polynomials of a proof: scaled, turned, the one that is nought at the rows. The model's rule of two polynomials, what is left of it, and what is nought at the rows. An honest proof, in the model. An honest proof, in the model, where all is right. Proofs held against each other, marked and asked for their marks, in the laws. Proved, in the program and in the model: both give the same proof, with lists of their own. -/
import Derived.Deep.Slices
import Derived.OpenShut
import Derived.Test.YtbcfjbkmkknmfaaGreatDoorRows
import Derived.ProofKit
import Derived.Stop.LaidTwo
import Derived.LaidHandle
import Derived.LaidMore
import Derived.WalkSmall
import Derived.Deep.QuietTactic
import Derived.BigQuiet
import Derived.WalkSpells
import Derived.Maps.AppendAt
import Derived.Maps.Range
import Derived.Deep.RegionHeld3
import Derived.Test.YtbcfjbkmkknmfaaGreatDoorMaA
import Derived.Test.YtbcfjbkmkknmfaaGreatDoorMaS
import Derived.Test.YtbcfjbkmkknmfaaGreatDoorRows
import Derived.Test.YtbcfjbkmkknmfaaGreatDoorErF
import Derived.Test.YtbcfjbkmkknmfaaGreatDoorSlA
import Derived.Test.YtbcfjbkmkknmfaaGreatDoorSlF
import Derived.Test.YtbcfjbkmkknmfaaGreatDoorMaB
import Derived.Test.YtbcfjbkmkknmfaaGreatDoorMaF
import Derived.Test.YtbcfjbkmkknmfaaGreatDoorDivMathB
import Derived.Test.YtbcfjbkmkknmfaaGreatDoorPowB
import Derived.Test.YtbcfjbkmkknmfaaGreatDoorPfA
import Derived.Test.YtbcfjbkmkknmfaaGreatDoorSlL
import Derived.Test.YtbcfjbkmkknmfaaGreatDoorFieldC
import Derived.Test.YtbcfjbkmkknmfaaGreatDoorRootA
import Derived.Test.YtbcfjbkmkknmfaaGreatDoorMaJ
import Derived.Test.YtbcfjbkmkknmfaaGreatDoorPrJ
namespace Go.Proofs.YtbcfjbkmkknmfaaGreatDoor
open Go.RowKit Go.ChangeShapes Go.WideShapes

section
variable {H : Type} {enc : TypeId × Value → H} {P : Program} {w : World} {base : Nat} {spare : Nat → Bool} {held : Bool}
/-- the cells from o on, n of them, read as a t -/
def Part (enc : TypeId × Value → H) (P : Program) (w : World) (base : Nat) (spare : Nat → Bool) (held : Bool) (t : TypeId) (cs : List Value) (o n : Nat) : Prop :=
  ∃ fuel y, DataW.trod enc P w base spare held fuel t ((cs.drop o).take n) = some y
theorem Part.cell {cs : List Value} {o : Nat} {v : Value} (h : (cs.drop o).take 1 = [v]) : cs[o]? = some v := by
  have h1 : ((cs.drop o).take 1)[0]? = some v := by rw [h]; rfl
  rw [List.getElem?_take] at h1
  simpa using h1
theorem Part.int {t : TypeId} {cs : List Value} {o : Nat} {k : IntKind} (h : Part enc P w base spare held t cs o 1) (ht : P.underlying t = some (.int k)) : ∃ z, cs[o]? = some (.int k z) ∧ (Lit.int k z).wf = true := by
  obtain ⟨fuel, y, h⟩ := h
  obtain ⟨z, h1, -, h3⟩ := DataW.trod_int ht h
  exact ⟨z, Part.cell h1, h3⟩
theorem Part.bool {t : TypeId} {cs : List Value} {o : Nat} (h : Part enc P w base spare held t cs o 1) (ht : P.underlying t = some .bool) : ∃ z, cs[o]? = some (.bool z) := by
  obtain ⟨fuel, y, h⟩ := h
  obtain ⟨z, h1, -⟩ := DataW.trod_bool ht h
  exact ⟨z, Part.cell h1⟩
end
end Go.Proofs.YtbcfjbkmkknmfaaGreatDoor
namespace Go.Proofs.YtbcfjbkmkknmfaaGreatDoor
open Go.RowKit Go.ChangeShapes Go.WideShapes

namespace card
abbrev nL : String := "loop.example/g00319/impl.errLength"
abbrev nN : String := "loop.example/g00319/impl.errNoElement"
theorem gL : Tryz.prog.globalNamed nL = some 1 := by kernel_rfl
theorem gN : Tryz.prog.globalNamed nN = some 0 := by kernel_rfl
theorem gT : Tryz.prog.globalNamed "errors.errorType" = some 2 := by kernel_rfl
theorem tL : (Tryz.prog.globals[1]?).map (·.type) = some 107 := by kernel_rfl
theorem tN : (Tryz.prog.globals[0]?).map (·.type) = some 107 := by kernel_rfl
theorem cE : Tryz.prog.cellsOf 247 = 1 := by kernel_rfl
theorem cS : Tryz.prog.cellsOf 9 = 1 := by kernel_rfl
theorem star : "*" ++ "errors.errorString" = "*errors.errorString" := by decide
theorem rowE (u : TypeId) (h : Tryz.prog.typeName? 3 u = some "*errors.errorString") : u = 225 :=
  typeName_ptr_named (nm := "errors.errorString") (by rw [star]; kernel_rfl) (by kernel_rfl) (by decide) u (by rw [star]; exact h)
theorem rt : (Tryz.prog.cutTypes.find? (·.1 == "internal/reflectlite.rtype")).map (·.2) = some 204 := by kernel_rfl
theorem oneRow : ((List.range Tryz.prog.types.size).filter fun t => Tryz.prog.rowNamed t [101, 114, 114, 111, 114]) = [107] := by kernel_rfl
abbrev laid : List (String × DataW Unit) := [("errors.errorType", Rows.laid_errors_errorType), (nN, Rows.laid_loop_example_g00319_impl_errNoElement), (nL, Rows.laid_loop_example_g00319_impl_errLength)]
theorem split {W : World} (h : laidMetH Tryz.prog laid W) : laidMet Tryz.prog [(nN, Rows.laid_loop_example_g00319_impl_errNoElement), (nL, Rows.laid_loop_example_g00319_impl_errLength)] W ∧ handlesMet Tryz.prog [("errors.errorType", Rows.laid_errors_errorType)] W := h
theorem handle {W : World} (h' : handlesMet Tryz.prog [("errors.errorType", Rows.laid_errors_errorType)] W) : W.cell? ⟨2, 0, none⟩ = some (.iface 204 (.agg #[.pointer (some ⟨6, 107, none⟩)])) := by
  obtain ⟨name, u, ty, e1, e2, e3, e4, e5⟩ := h' _ (List.mem_singleton.2 rfl)
  have en : name = [101, 114, 114, 111, 114] := (Option.some.inj e1).symm
  subst en
  obtain rfl := Option.some.inj (rt.symm.trans e2)
  have hm : ty ∈ (List.range Tryz.prog.types.size).filter fun t => Tryz.prog.rowNamed t [101, 114, 114, 111, 114] := List.mem_filter.2 ⟨List.mem_range.2 e3, e4⟩
  rw [oneRow] at hm
  obtain rfl := List.mem_singleton.1 hm
  have hh : typeHandle Tryz.prog 107 = .pointer (some ⟨6, 107, none⟩) := by kernel_rfl
  rw [hh] at e5
  simpa using World.var?_cell gT e5 0
theorem env {W : World} (h : laidMetH Tryz.prog laid W) : ∃ aL aN, Env W aL aN ∧ W.var? Tryz.prog nL = some #[.iface 225 (.pointer (some aL))] ∧ W.var? Tryz.prog nN = some #[.iface 225 (.pointer (some aN))] := by
  obtain ⟨hs, hh⟩ := split h
  obtain ⟨aN, aL, s0, s1, c0, c1, t0, t1, hv0, hv1, hc0, hs0, hz0, hc1, hs1, hz1, hne, hb0, hb1⟩ := laid_sentinels2 hs gN tN gL tL Tryz.underlying107 rowE Tryz.underlying225 Tryz.underlying247 rfl rfl Tryz.underlying9 cE cS
  exact ⟨aL, aN, ⟨by simpa using World.var?_cell gL hv1 0, by simpa using World.var?_cell gN hv0 0, handle hh, hne, ⟨_, _, hb1⟩, ⟨_, _, hb0⟩⟩, hv1, hv0⟩
theorem vars {H : Type} (enc : TypeId × Value → H) {X : World} {aL aN : Addr} (x0 : X.var? Tryz.prog nL = some #[.iface 225 (.pointer (some aL))]) (x1 : X.var? Tryz.prog nN = some #[.iface 225 (.pointer (some aN))]) (sp : Nat → Bool) :
    DataW.TrodVars enc Tryz.prog X sp [nL, nN] [tok enc (.iface 225 (.pointer (some aL))), tok enc (.iface 225 (.pointer (some aN)))] [.cell 1 0, .cell 0 0] :=
  vars_read2 enc gL tL Tryz.underlying107 x0 trivial gN tN Tryz.underlying107 x1 trivial sp
end card
end Go.Proofs.YtbcfjbkmkknmfaaGreatDoor
namespace Go.Proofs.YtbcfjbkmkknmfaaGreatDoor
open Go.RowKit
end Go.Proofs.YtbcfjbkmkknmfaaGreatDoor
namespace Go.Proofs.YtbcfjbkmkknmfaaGreatDoor
open Go.RowKit

/-- a slice of integers that came in: nil, or a row of 'cap' cells that hold the numbers 'zs' -/
def Row (k : IntKind) (w : World) (a : Option Addr) (len cap : Nat) (zs : List Int) : Prop :=
  (a = none ∧ len = 0 ∧ cap = 0 ∧ zs = []) ∨
  ∃ x, a = some x ∧ len ≤ cap ∧ cap ≤ maxLen ∧ zs.length = cap ∧ (∀ i, i < zs.length → w.cell? (x.add i) = some (.int k (zs.getD i 0))) ∧ ∀ n ∈ zs, (Lit.int k n).wf = true

/-- the reader lies in block R: the code's slice and a place in it; below the law's first blocks all is as it was -/
structure Rd (w0 : World) (R : Nat) (a : Option Addr) (len cap : Nat) (w : World) : Prop where
  below : Below w0.heap.size w0 w
  lo : w0.heap.size ≤ R
  hi : R < w.heap.size
  cb : w.cell? ⟨R, 0, none⟩ = some (.slice a len cap)
  cp : ∃ p : Nat, p ≤ len ∧ w.cell? ⟨R, 1, none⟩ = some (.int .i64 p)
  fr : w.frozen? ⟨R, 1, none⟩ = false

theorem row_byte {w0 : World} {a : Option Addr} {len cap : Nat} {zs : List Int} (h : Row .u8 w0 a len cap zs) (p : Nat) (hp : p < len) :
    ∃ b off z, a = some ⟨b, off, none⟩ ∧ b < w0.heap.size ∧ 0 ≤ z ∧ z ≤ 255 ∧ w0.cell? ⟨b, off + p, none⟩ = some (.int .u8 z) ∧ len ≤ cap ∧ (len : Int) ≤ 9223372036854775807 := by
  rcases h with ⟨_, rfl, _, _⟩ | ⟨x, rfl, hl, hm, hz, hc, hw⟩
  · omega
  · obtain ⟨b, off, rfl, hc2⟩ := ints_at hc (by omega)
    have h2 := hc2 p (by omega)
    have hb := World.block_lt_of_cell? w0 ⟨b, off + p, none⟩ h2
    have hz2 := hw (zs.getD p 0) (by rw [List.getD_eq_getElem?_getD, List.getElem?_eq_getElem (by omega)]; exact List.getElem_mem _)
    have hbd := bounds_u8 hz2
    unfold maxLen at hm
    exact ⟨b, off, _, rfl, hb, hbd.1, hbd.2, h2, hl, by omega⟩

theorem grown_drewN {w w' : World} {row : Option Nat} (h : w.grownBy w' row) (n : Nat) : w.grownBy (w'.drewN n) row := ⟨h.os, h.tape, h.output, h.size, h.block⟩

theorem grown_set {w w' : World} {b : Nat} (h : w.grownBy w' (some b)) (a : Addr) (ha : a.block = b) (v : Value) : w.grownBy (w'.setCell a v) (some b) :=
  ⟨h.os, h.tape, h.output, by simpa [World.setCell] using h.size, fun k hk hne => (Below.heap_setCell _ _ _ _ (by intro e; exact hne (by rw [e, ha]))).trans (h.block k hk hne)⟩

theorem rd_step {w0 w : World} {R : Nat} {a : Option Addr} {len cap : Nat} (h : Rd w0 R a len cap w) (q : Nat) (hq : q ≤ len) (n m : Nat) :
    Rd w0 R a len cap (((w.drewN n).setCell ⟨R, 1, none⟩ (.int .i64 q)).drewN m) ∧ w.grownBy (((w.drewN n).setCell ⟨R, 1, none⟩ (.int .i64 q)).drewN m) (some R) := by
  obtain ⟨p, hp, hcp⟩ := h.cp
  have h1 : (w.drewN n).cell? ⟨R, 1, none⟩ = some (.int .i64 p) := hcp
  have h0 : (w.drewN n).cell? ⟨R, 0, none⟩ = some (.slice a len cap) := h.cb
  refine ⟨⟨Below.drewN' ((Below.drewN' h.below n).setCell h.lo _) m, h.lo, ?_, ?_, ⟨q, hq, ?_⟩, ?_⟩, ?_⟩
  · show R < ((w.drewN n).setCell ⟨R, 1, none⟩ (.int .i64 q)).heap.size
    rw [World.size_setCell]; exact h.hi
  · show ((w.drewN n).setCell ⟨R, 1, none⟩ (.int .i64 q)).cell? ⟨R, 0, none⟩ = _
    exact (World.cell?_setCell_other (w := w.drewN n) (a := ⟨R, 1, none⟩) (b := ⟨R, 0, none⟩) (v := .int .i64 q) (h := by simp)).trans h0
  · show ((w.drewN n).setCell ⟨R, 1, none⟩ (.int .i64 q)).cell? ⟨R, 1, none⟩ = _
    exact World.cell?_setCell_same (w := w.drewN n) (a := ⟨R, 1, none⟩) (v := .int .i64 q) (h := h1)
  · show ((w.drewN n).setCell ⟨R, 1, none⟩ (.int .i64 q)).frozen? ⟨R, 1, none⟩ = _
    rw [World.frozen?_setCell]; exact h.fr
  · exact grown_drewN (grown_set (grown_drewN (World.grownBy.refl _ _) n) _ rfl _) m

set_option maxHeartbeats 1000000 in
theorem next_any {w0 : World} {R : Nat} {a : Option Addr} {len cap : Nat} {zs : List Int} (hrow : Row .u8 w0 a len cap zs) (w : World) (h : Rd w0 R a len cap w) :
    Calls Tryz.prog 75 #[.pointer (some ⟨R, 0, none⟩)] w fun e w' => ∃ v : Int, 0 ≤ v ∧ v ≤ 255 ∧ e = .returned (.int .i64 v) ∧ Rd w0 R a len cap w' ∧ w.grownBy w' (some R) := by
  obtain ⟨hb, hlo, hhi, hcb, ⟨p, hp, hcp⟩, hfr⟩ := h
  by_cases hlt : p < len
  · obtain ⟨b, off, z, rfl, hbl, z0, z1, hc, hlc, hl⟩ := row_byte hrow p hlt
    have hc' : w.cell? ⟨b, off + p, none⟩ = some (.int .u8 z) := (hb.cell (p := ⟨b, off + p, none⟩) hbl).trans hc
    have HB : Hid (Below w0.heap.size w0 w) := hb
    have hne : b < R := by omega
    have hpI : (p : Int) < (len : Int) := by omega
    have hg : ¬ (len : Int) ≤ (p : Int) := by omega
    clear hb hrow hc hlt
    go_enter Tryz.func75, Tryz.ntmps75
    go_wp2
    go_quiet (fail)
    go_wp2
    go_quiet (fail)
    go_wp2
    go_ret
    exact ⟨z, z0, z1, rfl, rd_step ⟨HB.out, hlo, hhi, hcb, ⟨p, hp, hcp⟩, hfr⟩ (p + 1) (by omega) _ _⟩
  · have HB : Hid (Below w0.heap.size w0 w) := hb
    clear hb
    go_enter Tryz.func75, Tryz.ntmps75
    go_wp2
    go_quiet (fail)
    go_wp2
    go_ret
    exact ⟨0, by omega, by omega, rfl, ⟨Below.drewN' HB.out _, hlo, hhi, hcb, ⟨p, hp, hcp⟩, hfr⟩, grown_drewN (World.grownBy.refl _ _) _⟩
end Go.Proofs.YtbcfjbkmkknmfaaGreatDoor
namespace Go.Proofs.YtbcfjbkmkknmfaaGreatDoor
open Go.RowKit

set_option maxHeartbeats 1000000 in
theorem below_any {w0 : World} {R : Nat} {a : Option Addr} {len cap : Nat} {zs : List Int} (hrow : Row .u8 w0 a len cap zs) (n : Int) (n0 : 1 ≤ n) (n1 : n ≤ 65536) (w : World) (h : Rd w0 R a len cap w) :
    Calls Tryz.prog 31 #[.pointer (some ⟨R, 0, none⟩), .int .i64 n] w fun e w' => ∃ v : Int, 0 ≤ v ∧ v < n ∧ e = .returned (.int .i64 v) ∧ Rd w0 R a len cap w' ∧ w.grownBy w' (some R) := by
  have HR : Hid (Row .u8 w0 a len cap zs) := hrow
  have H : Hid (Rd w0 R a len cap w) := h
  clear hrow h
  by_cases h1 : n ≤ 1
  · go_enter Tryz.func31, Tryz.ntmps31
    go_wp2
    go_ret
    exact ⟨0, by omega, by omega, rfl, H.out, World.grownBy.refl _ _⟩
  · by_cases h2 : n ≤ 256
    · go_enter Tryz.func31, Tryz.ntmps31
      go_wp2_with fail
      refine (next_any HR.out _ H.out).mono ?_
      rintro e w1 ⟨v, v0, v1, rfl, hr, hg⟩
      have HR1 : Hid (Rd w0 R a len cap w1) := hr
      have HG1 : Hid (w.grownBy w1 (some R)) := hg
      clear hr hg
      go_wp2
      go_ret
      exact ⟨v % n, Int.emod_nonneg _ (by omega), Int.emod_lt_of_pos _ (by omega), rfl, HR1.out, HG1.out⟩
    · go_enter Tryz.func31, Tryz.ntmps31
      go_wp2_with fail
      refine (next_any HR.out _ H.out).mono ?_
      rintro e w1 ⟨v, v0, v1, rfl, hr, hg⟩
      have HR1 : Hid (Rd w0 R a len cap w1) := hr
      have HG1 : Hid (w.grownBy w1 (some R)) := hg
      clear hr hg
      go_wp2_with fail
      refine (next_any HR.out _ HR1.out).mono ?_
      rintro e w2 ⟨u, u0, u1, rfl, hr, hg⟩
      have HR2 : Hid (Rd w0 R a len cap w2) := hr
      have HG2 : Hid (w1.grownBy w2 (some R)) := hg
      clear hr hg
      go_wp2
      go_ret
      exact ⟨(v * 256 + u) % n, Int.emod_nonneg _ (by omega), Int.emod_lt_of_pos _ (by omega), rfl, HR2.out, HG1.out.trans HG2.out⟩

set_option maxHeartbeats 1000000 in
theorem once_any {w0 : World} {R : Nat} {a : Option Addr} {len cap : Nat} {zs : List Int} (hrow : Row .u8 w0 a len cap zs) (n : Int) (n0 : 1 ≤ n) (n1 : n ≤ 65536) (w : World) (h : Rd w0 R a len cap w) :
    Calls Tryz.prog 29 #[.pointer (some ⟨R, 0, none⟩), .int .i64 n] w fun e w' => ∃ v : Bool, e = .returned (.bool v) ∧ Rd w0 R a len cap w' ∧ w.grownBy w' (some R) := by
  have HR : Hid (Row .u8 w0 a len cap zs) := hrow
  have H : Hid (Rd w0 R a len cap w) := h
  clear hrow h
  go_enter Tryz.func29, Tryz.ntmps29
  go_wp2_with fail
  refine (below_any HR.out n n0 n1 _ H.out).mono ?_
  rintro e w1 ⟨v, v0, v1, rfl, hr, hg⟩
  have HR1 : Hid (Rd w0 R a len cap w1) := hr
  have HG1 : Hid (w.grownBy w1 (some R)) := hg
  clear hr hg
  go_wp2
  go_ret
  exact ⟨_, rfl, HR1.out, HG1.out⟩

set_option maxHeartbeats 1000000 in
theorem word_any {w0 : World} {R : Nat} {a : Option Addr} {len cap : Nat} {zs : List Int} (hrow : Row .u8 w0 a len cap zs) (w : World) (h : Rd w0 R a len cap w) :
    Calls Tryz.prog 108 #[.pointer (some ⟨R, 0, none⟩)] w fun e w' => ∃ v : Int, (Lit.int .u64 v).wf = true ∧ e = .returned (.int .u64 v) ∧ Rd w0 R a len cap w' ∧ w.grownBy w' (some R) := by
  have HR : Hid (Row .u8 w0 a len cap zs) := hrow
  have H : Hid (Rd w0 R a len cap w) := h
  clear hrow h
  go_enter Tryz.func108, Tryz.ntmps108
  go_wp2
  go_loopw [3, 4] (fun x i wr => ∃ (xv : Int) (k : Nat), k ≤ 8 ∧ x = .int .u64 xv ∧ i = .int .i64 k ∧ (Lit.int .u64 xv).wf = true ∧ Rd w0 R a len cap wr ∧ w.grownBy wr (some R)) (fun _ i _ => 8 - (intOf i).toNat)
  case atStart => exact ⟨0, 0, by omega, rfl, rfl, by decide, H.out, World.grownBy.refl _ _⟩
  case round =>
    obtain ⟨xv, k, hk, rfl, rfl, hwf, hr, hg⟩ := hrel
    have HW : Hid ((Lit.int .u64 xv).wf = true) := hwf
    have HR0 : Hid (Rd w0 R a len cap wr) := hr
    have HG0 : Hid (w.grownBy wr (some R)) := hg
    have hx := bounds_u64 hwf
    obtain ⟨x0, x1⟩ := hx
    clear hwf hr hg H
    by_cases hlt : k < 8
    · go_wp2_with fail
      refine (next_any HR.out _ HR0.out).mono ?_
      rintro e w1 ⟨v, v0, v1, rfl, hr, hg⟩
      have HR1 : Hid (Rd w0 R a len cap w1) := hr
      have HG1 : Hid (wr.grownBy w1 (some R)) := hg
      clear hr hg
      go_wp2
      go_roundw
      case rel => exact ⟨_, k + 1, by omega, rfl, by go_num, wf_bits _ _ _ _, HR1.out, HG0.out.trans HG1.out⟩
      case measure => simp [intOf]; omega
    · go_wp2
      go_ret
      exact ⟨_, HW.out, rfl, HR0.out, HG0.out⟩

set_option maxHeartbeats 1000000 in
theorem near_any {w0 : World} {R : Nat} {a : Option Addr} {len cap : Nat} {zs : List Int} (hrow : Row .u8 w0 a len cap zs) (lo hi : Int) (l0 : 0 ≤ lo) (lh : lo ≤ hi) (h1 : hi ≤ 4611686018427387904) (w : World) (h : Rd w0 R a len cap w) :
    Calls Tryz.prog 74 #[.pointer (some ⟨R, 0, none⟩), .int .i64 lo, .int .i64 hi] w fun e w' => ∃ v : Int, lo ≤ v ∧ v ≤ hi ∧ e = .returned (.int .i64 v) ∧ Rd w0 R a len cap w' ∧ w.grownBy w' (some R) := by
  have HR : Hid (Row .u8 w0 a len cap zs) := hrow
  have H : Hid (Rd w0 R a len cap w) := h
  clear hrow h
  have hlh : ¬ hi < lo := by omega
  go_enter Tryz.func74, Tryz.ntmps74
  go_wp2_with fail
  refine (below_any HR.out 8 (by omega) (by omega) _ H.out).mono ?_
  rintro e w1 ⟨v, v0, v1, rfl, hr, hg⟩
  have HR1 : Hid (Rd w0 R a len cap w1) := hr
  have HG1 : Hid (w.grownBy w1 (some R)) := hg
  clear hr hg
  by_cases e0 : v = 0
  · subst e0
    go_wp2
    go_ret
    exact ⟨lo, by omega, by omega, rfl, HR1.out, HG1.out⟩
  · by_cases e1 : v = 1
    · subst e1
      go_wp2
      go_ret
      exact ⟨hi, by omega, by omega, rfl, HR1.out, HG1.out⟩
    · have b0 : (v == 0) = false := by simp [e0]
      have b1 : (v == 1) = false := by simp [e1]
      clear e0 e1
      go_wp2_with fail
      refine (word_any HR.out _ HR1.out).mono ?_
      rintro e w2 ⟨x, hx, rfl, hr, hg⟩
      have HR2 : Hid (Rd w0 R a len cap w2) := hr
      have HG2 : Hid (w1.grownBy w2 (some R)) := hg
      obtain ⟨x0, x1⟩ := bounds_u64 hx
      clear hr hg hx
      have hm0 : 0 ≤ x / 2 % (hi - lo + 1) := Int.emod_nonneg _ (by omega)
      have hm1 : x / 2 % (hi - lo + 1) < hi - lo + 1 := Int.emod_lt_of_pos _ (by omega)
      have HM : Hid (0 ≤ x / 2 % (hi - lo + 1) ∧ x / 2 % (hi - lo + 1) < hi - lo + 1) := ⟨hm0, hm1⟩
      clear hm0 hm1
      go_wp2
      go_ret
      have hm := HM.out
      exact ⟨lo + x / 2 % (hi - lo + 1), by omega, by omega, ret_int (by rw [IntWalk.wrap64_in (x / 2 % (hi - lo + 1)) ⟨by omega, by omega⟩, IntWalk.wrap64_in _ ⟨by omega, by omega⟩]), HR2.out, HG1.out.trans HG2.out⟩

theorem Rd.alloc {w0 w : World} {R : Nat} {a : Option Addr} {len cap : Nat} (h : Rd w0 R a len cap w) (o : Obj) : Rd w0 R a len cap (w.alloc o) := by
  have hg := World.grownBy_alloc w o none
  obtain ⟨p, hp, hcp⟩ := h.cp
  have hs : R < (w.alloc o).heap.size := Nat.lt_of_lt_of_le h.hi hg.size
  refine ⟨h.below.alloc (Nat.le_trans h.lo (Nat.le_of_lt h.hi)) o, h.lo, hs, hg.cell h.cb (by simp), ⟨p, hp, hg.cell hcp (by simp)⟩, ?_⟩
  exact (World.frozen?_of_block (a := ⟨R, 1, none⟩) (hg.block R h.hi (by simp))).trans h.fr

theorem grown_alloc_then {w w' : World} {R : Nat} {o : Obj} (h : (w.alloc o).grownBy w' (some R)) : w.grownBy w' (some R) :=
  (World.grownBy_alloc w o (some R)).trans h

theorem alloc_cell (w : World) (cs : Array Value) (t : TypeId) (j : Nat) (u : Value) (h : cs[j]? = some u) : (w.alloc (.cells cs t)).cell? ⟨w.heap.size, j, none⟩ = some u := by
  rw [World.cell?_alloc_new]; exact h

set_option maxHeartbeats 1000000 in
theorem off_any {w0 : World} {R : Nat} {a : Option Addr} {len cap : Nat} {zs : List Int} (hrow : Row .u8 w0 a len cap zs) (lo hi : Int) (l0 : 0 ≤ lo) (lh : lo ≤ hi) (h1 : hi ≤ 4611686018427387904) (w : World) (h : Rd w0 R a len cap w) :
    Calls Tryz.prog 30 #[.pointer (some ⟨R, 0, none⟩), .int .i64 lo, .int .i64 hi] w fun e w' => ∃ v : Int, -9223372036854775808 ≤ v ∧ v ≤ 9223372036854775807 ∧ e = .returned (.int .i64 v) ∧ Rd w0 R a len cap w' ∧ w.grownBy w' (some R) := by
  have HR : Hid (Row .u8 w0 a len cap zs) := hrow
  have H : Hid (Rd w0 R a len cap w) := h
  clear hrow h
  go_enter Tryz.func30, Tryz.ntmps30
  go_wp2_with fail
  refine (once_any HR.out 24 (by omega) (by omega) _ H.out).mono ?_
  rintro e w1 ⟨v, rfl, hr, hg⟩
  have HR1 : Hid (Rd w0 R a len cap w1) := hr
  have HG1 : Hid (w.grownBy w1 (some R)) := hg
  clear hr hg
  cases v with
  | true =>
    go_wp2_with fail
    refine (below_any HR.out 4 (by omega) (by omega) _ (HR1.out.alloc _)).mono ?_
    rintro e w2 ⟨x, x0, x1, rfl, hr, hg⟩
    have hne : w1.heap.size ≠ R := by have := HR1.out.hi; omega
    have c0 := hg.cell (alloc_cell w1 _ _ 0 _ rfl) (by simpa using hne)
    have c1 := hg.cell (alloc_cell w1 _ _ 1 _ rfl) (by simpa using hne)
    have c2 := hg.cell (alloc_cell w1 _ _ 2 _ rfl) (by simpa using hne)
    have c3 := hg.cell (alloc_cell w1 _ _ 3 _ rfl) (by simpa using hne)
    have HR2 : Hid (Rd w0 R a len cap w2) := hr
    have HG2 : Hid (w1.grownBy w2 (some R)) := grown_alloc_then hg
    clear hr hg
    have hx : x = 0 ∨ x = 1 ∨ x = 2 ∨ x = 3 := by omega
    rcases hx with rfl | rfl | rfl | rfl
    all_goals
      go_wp2
      go_ret
      exact ⟨_, by omega, by omega, rfl, HR2.out, HG1.out.trans HG2.out⟩
  | false =>
    go_wp2_with fail
    refine (near_any HR.out lo hi l0 lh h1 _ HR1.out).mono ?_
    rintro e w2 ⟨x, x0, x1, rfl, hr, hg⟩
    have HR2 : Hid (Rd w0 R a len cap w2) := hr
    have HG2 : Hid (w1.grownBy w2 (some R)) := hg
    clear hr hg
    go_wp2
    go_ret
    exact ⟨x, by omega, by omega, rfl, HR2.out, HG1.out.trans HG2.out⟩

set_option maxHeartbeats 2000000 in
theorem elem_any {w0 : World} {R : Nat} {a : Option Addr} {len cap : Nat} {zs : List Int} (hrow : Row .u8 w0 a len cap zs) (w : World) (h : Rd w0 R a len cap w) :
    Calls Tryz.prog 56 #[.pointer (some ⟨R, 0, none⟩)] w fun e w' => ∃ v : Int, -9223372036854775808 ≤ v ∧ v ≤ 9223372036854775807 ∧ e = .returned (.int .i64 v) ∧ Rd w0 R a len cap w' ∧ w.grownBy w' (some R) := by
  have HR : Hid (Row .u8 w0 a len cap zs) := hrow
  have H : Hid (Rd w0 R a len cap w) := h
  clear hrow h
  go_enter Tryz.func56, Tryz.ntmps56
  go_wp2_with fail
  refine (below_any HR.out 6 (by omega) (by omega) _ H.out).mono ?_
  rintro e w1 ⟨v, v0, v1, rfl, hr, hg⟩
  have HR1 : Hid (Rd w0 R a len cap w1) := hr
  have HG1 : Hid (w.grownBy w1 (some R)) := hg
  clear hr hg
  by_cases e1 : v = 1
  · subst e1
    go_wp2_with fail
    refine (below_any HR.out 3 (by omega) (by omega) _ HR1.out).mono ?_
    rintro e w2 ⟨x, x0, x1, rfl, hr, hg⟩
    have HR2 : Hid (Rd w0 R a len cap w2) := hr
    have HG2 : Hid (w1.grownBy w2 (some R)) := hg
    clear hr hg
    go_wp2
    go_ret
    exact ⟨65536 - x, by omega, by omega, rfl, HR2.out, HG1.out.trans HG2.out⟩
  · by_cases e2 : v = 2
    · subst e2
      go_wp2_with fail
      refine (word_any HR.out _ HR1.out).mono ?_
      rintro e w2 ⟨x, hx, rfl, hr, hg⟩
      have HR2 : Hid (Rd w0 R a len cap w2) := hr
      have HG2 : Hid (w1.grownBy w2 (some R)) := hg
      obtain ⟨x0, x1⟩ := bounds_u64 hx
      clear hr hg hx
      go_wp2
      go_ret
      exact ⟨x % 65537, by omega, by omega, rfl, HR2.out, HG1.out.trans HG2.out⟩
    · by_cases e3 : v = 3
      · subst e3
        go_wp2_with fail
        refine (off_any HR.out 0 65536 (by omega) (by omega) (by omega) _ HR1.out).mono ?_
        rintro e w2 ⟨x, x0, x1, rfl, hr, hg⟩
        have HR2 : Hid (Rd w0 R a len cap w2) := hr
        have HG2 : Hid (w1.grownBy w2 (some R)) := hg
        clear hr hg
        go_wp2
        go_ret
        exact ⟨x, x0, x1, rfl, HR2.out, HG1.out.trans HG2.out⟩
      · have b1 : (v == 1) = false := by simp [e1]
        have b2 : (v == 2) = false := by simp [e2]
        have b3 : (v == 3) = false := by simp [e3]
        clear e1 e2 e3
        go_wp2_with fail
        refine (below_any HR.out 6 (by omega) (by omega) _ HR1.out).mono ?_
        rintro e w2 ⟨x, x0, x1, rfl, hr, hg⟩
        have HR2 : Hid (Rd w0 R a len cap w2) := hr
        have HG2 : Hid (w1.grownBy w2 (some R)) := hg
        clear hr hg
        go_wp2
        go_ret
        exact ⟨x, by omega, by omega, rfl, HR2.out, HG1.out.trans HG2.out⟩

set_option maxHeartbeats 1000000 in
theorem open_any {a : Option Addr} {len cap : Nat} (w : World) :
    Calls Tryz.prog 26 #[.slice a len cap] w fun e w' => e = .returned (.pointer (some ⟨w.heap.size, 0, none⟩)) ∧ Rd w w.heap.size a len cap w' := by
  go_enter Tryz.func26, Tryz.ntmps26
  go_wp2
  go_ret
  refine ⟨rfl, ⟨(Below.refl _ _).alloc (Nat.le_refl _) _, Nat.le_refl _, by simp, alloc_cell _ _ _ 0 _ rfl, ⟨0, Nat.zero_le _, alloc_cell _ _ _ 1 _ rfl⟩, ?_⟩⟩
  simp
end Go.Proofs.YtbcfjbkmkknmfaaGreatDoor
namespace Go.Proofs.YtbcfjbkmkknmfaaGreatDoor
open Go.RowKit

set_option maxHeartbeats 400000 in
theorem big_any (a : Option Addr) (len cap : Nat) (w : World) :
    Calls Tryz.prog 7 #[.slice a len cap] w fun e w' => e = .returned (.bool (decide ((1048576 : Int) < (len : Int)))) ∧ w' = w := by
  go_enter Tryz.func7, Tryz.ntmps7
  go_wp2
  go_ret
  exact ⟨rfl, rfl⟩
end Go.Proofs.YtbcfjbkmkknmfaaGreatDoor
namespace Go.Proofs.YtbcfjbkmkknmfaaGreatDoor
open Go.RowKit

theorem Rd.keep {w0 w w' : World} {R : Nat} {a b : Option Addr} {len cap n c : Nat} (h : Rd w0 R a len cap w) (hg : w.grownBy w' (Value.slice b n c).ownBlock) (hne : ∀ x, b = some x → x.block ≠ R) (hlo : ∀ x, b = some x → w0.heap.size ≤ x.block) : Rd w0 R a len cap w' := by
  have hR : some R ≠ (Value.slice b n c).ownBlock := by
    cases b with
    | none => simp [Value.ownBlock]
    | some x => have := hne x rfl; simp [Value.ownBlock]; omega
  obtain ⟨p, hp, hcp⟩ := h.cp
  refine ⟨h.below.grown hg (Nat.le_trans h.lo (Nat.le_of_lt h.hi)) (fun k hk => ?_), h.lo, Nat.lt_of_lt_of_le h.hi hg.size, hg.cell h.cb hR, ⟨p, hp, hg.cell hcp hR⟩, ?_⟩
  · cases b with
    | none => simp [Value.ownBlock] at hk
    | some x => simp [Value.ownBlock] at hk; have := hlo x rfl; omega
  · exact (World.frozen?_of_block (a := ⟨R, 1, none⟩) (hg.block R h.hi hR)).trans h.fr
theorem Rd.grow {w0 w w' : World} {R : Nat} {a : Option Addr} {len cap : Nat} (h : Rd w0 R a len cap w) (hb : Below w.heap.size w w') : Rd w0 R a len cap w' := by
  have hg : w.grownBy w' none := ⟨hb.os, hb.tape, hb.output, hb.size, fun k hk _ => hb.block k hk⟩
  obtain ⟨p, hp, hcp⟩ := h.cp
  refine ⟨h.below.trans (hb.mono (Nat.le_trans h.lo (Nat.le_of_lt h.hi))), h.lo, Nat.lt_of_lt_of_le h.hi hb.size, hg.cell h.cb (by simp), ⟨p, hp, hg.cell hcp (by simp)⟩, ?_⟩
  exact (World.frozen?_of_block (a := ⟨R, 1, none⟩) (hg.block R h.hi (by simp))).trans h.fr
theorem grown_below {w w' w'' : World} {R : Nat} (h : w.grownBy w' (some R)) (hb : Below w'.heap.size w' w'') : w.grownBy w'' (some R) :=
  h.trans ⟨hb.os, hb.tape, hb.output, hb.size, fun k hk _ => hb.block k hk⟩

end Go.Proofs.YtbcfjbkmkknmfaaGreatDoor
namespace Go.Proofs.YtbcfjbkmkknmfaaGreatDoor
open Go.RowKit

theorem grown_alloc2 {w w' : World} {R : Nat} {o : Obj} (h : (w.alloc o).grownBy w' (some R)) : w.grownBy w' (some R) := grown_alloc_then h
theorem grown_frozen {w w' : World} {row : Option Nat} {p : Addr} (h : w.grownBy w' row) (hl : p.block < w.heap.size) (hne : some p.block ≠ row) : w'.frozen? p = w.frozen? p := World.frozen?_of_block (a := p) (h.block p.block hl hne)
theorem grown_sets {w w' : World} {B R : Nat} (h : w.grownBy w' (some R)) (hB : w.heap.size ≤ B) : ∀ (vs : List Value) (i : Nat), w.grownBy (sets w' B i vs) (some R) := by
  intro vs
  induction vs generalizing w' with
  | nil => exact fun _ => h
  | cons v vs ih =>
    intro i
    refine ih ?_ (i + 1)
    exact ⟨h.os, h.tape, h.output, by simpa [World.setCell] using h.size, fun k hk hne => (Below.heap_setCell _ _ _ _ (by intro e; have e' : k = B := e; omega)).trans (h.block k hk hne)⟩
theorem Rd.sets {w0 : World} {R B : Nat} {a : Option Addr} {len cap : Nat} (hB : B ≠ R) (hlo : w0.heap.size ≤ B) : ∀ (vs : List Value) (w : World) (i : Nat), Rd w0 R a len cap w → Rd w0 R a len cap (sets w B i vs) := by
  intro vs w i h
  obtain ⟨p, hp, hcp⟩ := h.cp
  exact ⟨sets_below hlo vs w i h.below, h.lo, by rw [sets_size]; exact h.hi, (sets_far B (show R ≠ B from fun e => hB e.symm) vs w i).trans h.cb, ⟨p, hp, (sets_far B (show R ≠ B from fun e => hB e.symm) vs w i).trans hcp⟩, by rw [sets_frozen]; exact h.fr⟩
set_option maxHeartbeats 2000000 in
theorem stateR_any {w0 : World} {R : Nat} {a : Option Addr} {len cap : Nat} {zs : List Int} (hrow : Row .u8 w0 a len cap zs) (w : World) (h : Rd w0 R a len cap w) :
    Calls Tryz.prog 28 #[.pointer (some ⟨R, 0, none⟩)] w fun e w' => ∃ s : Int × Int, e = .returned (stv s) ∧ Rd w0 R a len cap w' ∧ w.grownBy w' (some R) := by
  have HR : Hid (Row .u8 w0 a len cap zs) := hrow
  have H : Hid (Rd w0 R a len cap w) := h
  have hRw := h.hi
  have hlo := h.lo
  clear hrow h
  go_enter Tryz.func28, Tryz.ntmps28
  go_wp2_with fail
  refine (elem_any HR.out _ (H.out.alloc _)).mono ?_
  rintro e w1 ⟨x, -, -, rfl, hr1, hg1⟩
  have HR1 : Hid (Rd w0 R a len cap w1) := hr1
  have HG1 : Hid (w.grownBy w1 (some R)) := grown_alloc2 hg1
  have hs1 : w.heap.size + 1 ≤ w1.heap.size := by have := hg1.size; simpa using this
  have b0 : w1.cell? ⟨w.heap.size, 0, none⟩ = some (.int .i64 0) := hg1.cell (World.cell?_alloc_new _ _ _ _) (by simp; omega)
  have b1 : w1.cell? ⟨w.heap.size, 1, none⟩ = some (.int .i64 0) := hg1.cell (World.cell?_alloc_new _ _ _ _) (by simp; omega)
  have f0 : w1.frozen? ⟨w.heap.size, 0, none⟩ = false := (grown_frozen hg1 (by simp) (by simp; omega)).trans (frozen_one _ _ _ _)
  have f1 : w1.frozen? ⟨w.heap.size, 1, none⟩ = false := (grown_frozen hg1 (by simp) (by simp; omega)).trans (frozen_one _ _ _ _)
  clear hr1 hg1
  go_wp2_with fail
  refine (elem_any HR.out _ (HR1.out.alloc _)).mono ?_
  rintro e w2 ⟨y, -, -, rfl, hr2, hg2⟩
  have HG2' : Hid (w1.grownBy w2 (some R)) := grown_alloc2 hg2
  have hs2 : w1.heap.size + 1 ≤ w2.heap.size := by have := hg2.size; simpa using this
  have c0 : w2.cell? ⟨w.heap.size, 0, none⟩ = some (.int .i64 0) := HG2'.out.cell b0 (by simp; omega)
  have c1 : w2.cell? ⟨w.heap.size, 1, none⟩ = some (.int .i64 0) := HG2'.out.cell b1 (by simp; omega)
  have g0 : w2.frozen? ⟨w.heap.size, 0, none⟩ = false := (grown_frozen HG2'.out (by simp; omega) (by simp; omega)).trans f0
  have g1 : w2.frozen? ⟨w.heap.size, 1, none⟩ = false := (grown_frozen HG2'.out (by simp; omega) (by simp; omega)).trans f1
  have d0 : w2.cell? ⟨w1.heap.size, 0, none⟩ = some (.int .i64 x) := hg2.cell (World.cell?_alloc_new _ _ _ _) (by simp; omega)
  have d1 : w2.cell? ⟨w1.heap.size, 1, none⟩ = some (.int .i64 0) := hg2.cell (World.cell?_alloc_new _ _ _ _) (by simp; omega)
  have k1 : w2.frozen? ⟨w1.heap.size, 1, none⟩ = false := (grown_frozen hg2 (by simp) (by simp; omega)).trans (frozen_one _ _ _ _)
  obtain ⟨w3, hw3⟩ : ∃ u, u = w2.setCell ⟨w1.heap.size, 1, none⟩ (.int .i64 y) := ⟨_, rfl⟩
  have e0 : w3.cell? ⟨w1.heap.size, 0, none⟩ = some (.int .i64 x) := by rw [hw3]; exact (World.cell?_setCell_other (w := w2) (a := ⟨w1.heap.size, 1, none⟩) (b := ⟨w1.heap.size, 0, none⟩) (v := .int .i64 y) (h := by simp)).trans d0
  have e1 : w3.cell? ⟨w1.heap.size, 1, none⟩ = some (.int .i64 y) := by rw [hw3]; exact World.cell?_setCell_same (w := w2) (a := ⟨w1.heap.size, 1, none⟩) (v := .int .i64 y) (h := d1)
  have m0 : w3.cell? ⟨w.heap.size, 0, none⟩ = some (.int .i64 0) := by rw [hw3]; exact (World.cell?_setCell_other (w := w2) (a := ⟨w1.heap.size, 1, none⟩) (b := ⟨w.heap.size, 0, none⟩) (v := .int .i64 y) (h := by simp)).trans c0
  have m1 : w3.cell? ⟨w.heap.size, 1, none⟩ = some (.int .i64 0) := by rw [hw3]; exact (World.cell?_setCell_other (w := w2) (a := ⟨w1.heap.size, 1, none⟩) (b := ⟨w.heap.size, 1, none⟩) (v := .int .i64 y) (h := by simp)).trans c1
  have n0 : w3.frozen? ⟨w.heap.size, 0, none⟩ = false := by rw [hw3]; simpa using g0
  have n1 : w3.frozen? ⟨w.heap.size, 1, none⟩ = false := by rw [hw3]; simpa using g1
  have HR3 : Hid (Rd w0 R a len cap w3) := by show Rd _ _ _ _ _ _; rw [hw3]; exact Rd.sets (B := w1.heap.size) (by omega) (by omega) [.int .i64 y] w2 1 hr2
  have HG3 : Hid (w.grownBy w3 (some R)) := by show World.grownBy _ _ _; rw [hw3]; exact grown_sets (HG1.out.trans HG2'.out) (by omega) [.int .i64 y] 1
  obtain ⟨w4, hw4⟩ : ∃ u, u = sets w3 w.heap.size 0 [.int .i64 x, .int .i64 y] := ⟨_, rfl⟩
  have ha := sets_at w.heap.size [Value.int .i64 x, .int .i64 y] w3 0 (fun j hj => by
    match j, hj with
    | 0, _ => exact ⟨_, m0⟩
    | 1, _ => exact ⟨_, m1⟩)
  rw [← hw4] at ha
  have r0 : w4.cell? ⟨w.heap.size, 0, none⟩ = some (.int .i64 x) := by simpa using ha 0 _ rfl
  have r1 : w4.cell? ⟨w.heap.size, 1, none⟩ = some (.int .i64 y) := by simpa using ha 1 _ rfl
  have HR4 : Hid (Rd w0 R a len cap w4) := by show Rd _ _ _ _ _ _; rw [hw4]; exact Rd.sets (by omega) (by omega) _ _ _ HR3.out
  have HG4 : Hid (w.grownBy w4 (some R)) := by show World.grownBy _ _ _; rw [hw4]; exact grown_sets HG3.out (Nat.le_refl _) _ _
  have HW3 : Hid (w2.setCell ⟨w1.heap.size, 1, none⟩ (.int .i64 y) = w3) := hw3.symm
  have HW4 : Hid (sets w3 w.heap.size 0 [.int .i64 x, .int .i64 y] = w4) := hw4.symm
  clear hw3 hw4 ha hr2 hg2 b0 b1 f0 f1
  go_wp2_with (first | rw [HW3.out] | rw [show (w3.setCell ⟨w.heap.size, 0, none⟩ (.int .i64 x)).setCell ⟨w.heap.size, 1, none⟩ (.int .i64 y) = w4 from HW4.out])
  refine bodyPost_ret (v := .agg #[.int .i64 x, .int .i64 y]) (by simp [results, Tryz.results28, go_sem, r0, r1]) rfl ⟨(x, y), rfl, HR4.out, HG4.out⟩
set_option maxHeartbeats 4000000 in
theorem ruleR_any {w0 : World} {R : Nat} {a : Option Addr} {len cap : Nat} {zs : List Int} (hrow : Row .u8 w0 a len cap zs) (w : World) (h : Rd w0 R a len cap w) :
    Calls Tryz.prog 73 #[.pointer (some ⟨R, 0, none⟩)] w fun e w' => ∃ r : M.Rl, e = .returned (rlv r) ∧ Rd w0 R a len cap w' ∧ w.grownBy w' (some R) := by
  have HR : Hid (Row .u8 w0 a len cap zs) := hrow
  have H : Hid (Rd w0 R a len cap w) := h
  have hRw := h.hi
  have hlo := h.lo
  clear hrow h
  go_enter Tryz.func73, Tryz.ntmps73
  go_wp2_with fail
  refine (elem_any HR.out _ (H.out.alloc _)).mono ?_
  rintro e w1 ⟨x, -, -, rfl, hr1, hg1⟩
  have HR1 : Hid (Rd w0 R a len cap w1) := hr1
  have HG1 : Hid (w.grownBy w1 (some R)) := grown_alloc2 hg1
  have hs1 : w.heap.size + 1 ≤ w1.heap.size := by have := hg1.size; simpa using this
  have w1bc0 : w1.cell? ⟨w.heap.size, 0, none⟩ = some (.int .i64 0) := hg1.cell (World.cell?_alloc_new _ _ _ _) (by simp; omega)
  have w1bf0 : w1.frozen? ⟨w.heap.size, 0, none⟩ = false := (grown_frozen hg1 (by simp) (by simp; omega)).trans (frozen_one _ _ _ _)
  have w1bc1 : w1.cell? ⟨w.heap.size, 1, none⟩ = some (.int .i64 0) := hg1.cell (World.cell?_alloc_new _ _ _ _) (by simp; omega)
  have w1bf1 : w1.frozen? ⟨w.heap.size, 1, none⟩ = false := (grown_frozen hg1 (by simp) (by simp; omega)).trans (frozen_one _ _ _ _)
  have w1bc2 : w1.cell? ⟨w.heap.size, 2, none⟩ = some (.int .i64 0) := hg1.cell (World.cell?_alloc_new _ _ _ _) (by simp; omega)
  have w1bf2 : w1.frozen? ⟨w.heap.size, 2, none⟩ = false := (grown_frozen hg1 (by simp) (by simp; omega)).trans (frozen_one _ _ _ _)
  have w1bc3 : w1.cell? ⟨w.heap.size, 3, none⟩ = some (.int .i64 0) := hg1.cell (World.cell?_alloc_new _ _ _ _) (by simp; omega)
  have w1bf3 : w1.frozen? ⟨w.heap.size, 3, none⟩ = false := (grown_frozen hg1 (by simp) (by simp; omega)).trans (frozen_one _ _ _ _)
  have w1bc4 : w1.cell? ⟨w.heap.size, 4, none⟩ = some (.int .i64 0) := hg1.cell (World.cell?_alloc_new _ _ _ _) (by simp; omega)
  have w1bf4 : w1.frozen? ⟨w.heap.size, 4, none⟩ = false := (grown_frozen hg1 (by simp) (by simp; omega)).trans (frozen_one _ _ _ _)
  have w1bc5 : w1.cell? ⟨w.heap.size, 5, none⟩ = some (.int .i64 0) := hg1.cell (World.cell?_alloc_new _ _ _ _) (by simp; omega)
  have w1bf5 : w1.frozen? ⟨w.heap.size, 5, none⟩ = false := (grown_frozen hg1 (by simp) (by simp; omega)).trans (frozen_one _ _ _ _)
  clear hr1 hg1
  go_wp2_with fail
  refine (elem_any HR.out _ HR1.out).mono ?_
  rintro e w2 ⟨y, -, -, rfl, hrn, hgn⟩
  have HR2 : Hid (Rd w0 R a len cap w2) := hrn
  have HG2 : Hid (w.grownBy w2 (some R)) := HG1.out.trans hgn
  have hs2 : w1.heap.size ≤ w2.heap.size := hgn.size
  have w2bc0 : w2.cell? ⟨w.heap.size, 0, none⟩ = some (.int .i64 0) := hgn.cell w1bc0 (by simp; omega)
  have w2bf0 : w2.frozen? ⟨w.heap.size, 0, none⟩ = false := (grown_frozen hgn (by simp; omega) (by simp; omega)).trans w1bf0
  have w2bc1 : w2.cell? ⟨w.heap.size, 1, none⟩ = some (.int .i64 0) := hgn.cell w1bc1 (by simp; omega)
  have w2bf1 : w2.frozen? ⟨w.heap.size, 1, none⟩ = false := (grown_frozen hgn (by simp; omega) (by simp; omega)).trans w1bf1
  have w2bc2 : w2.cell? ⟨w.heap.size, 2, none⟩ = some (.int .i64 0) := hgn.cell w1bc2 (by simp; omega)
  have w2bf2 : w2.frozen? ⟨w.heap.size, 2, none⟩ = false := (grown_frozen hgn (by simp; omega) (by simp; omega)).trans w1bf2
  have w2bc3 : w2.cell? ⟨w.heap.size, 3, none⟩ = some (.int .i64 0) := hgn.cell w1bc3 (by simp; omega)
  have w2bf3 : w2.frozen? ⟨w.heap.size, 3, none⟩ = false := (grown_frozen hgn (by simp; omega) (by simp; omega)).trans w1bf3
  have w2bc4 : w2.cell? ⟨w.heap.size, 4, none⟩ = some (.int .i64 0) := hgn.cell w1bc4 (by simp; omega)
  have w2bf4 : w2.frozen? ⟨w.heap.size, 4, none⟩ = false := (grown_frozen hgn (by simp; omega) (by simp; omega)).trans w1bf4
  have w2bc5 : w2.cell? ⟨w.heap.size, 5, none⟩ = some (.int .i64 0) := hgn.cell w1bc5 (by simp; omega)
  have w2bf5 : w2.frozen? ⟨w.heap.size, 5, none⟩ = false := (grown_frozen hgn (by simp; omega) (by simp; omega)).trans w1bf5
  clear hrn hgn w1bc0 w1bc1 w1bc2 w1bc3 w1bc4 w1bc5 w1bf0 w1bf1 w1bf2 w1bf3 w1bf4 w1bf5
  go_wp2_with fail
  refine (elem_any HR.out _ HR2.out).mono ?_
  rintro e w3 ⟨k, -, -, rfl, hrn, hgn⟩
  have HR3 : Hid (Rd w0 R a len cap w3) := hrn
  have HG3 : Hid (w.grownBy w3 (some R)) := HG2.out.trans hgn
  have hs3 : w2.heap.size ≤ w3.heap.size := hgn.size
  have w3bc0 : w3.cell? ⟨w.heap.size, 0, none⟩ = some (.int .i64 0) := hgn.cell w2bc0 (by simp; omega)
  have w3bf0 : w3.frozen? ⟨w.heap.size, 0, none⟩ = false := (grown_frozen hgn (by simp; omega) (by simp; omega)).trans w2bf0
  have w3bc1 : w3.cell? ⟨w.heap.size, 1, none⟩ = some (.int .i64 0) := hgn.cell w2bc1 (by simp; omega)
  have w3bf1 : w3.frozen? ⟨w.heap.size, 1, none⟩ = false := (grown_frozen hgn (by simp; omega) (by simp; omega)).trans w2bf1
  have w3bc2 : w3.cell? ⟨w.heap.size, 2, none⟩ = some (.int .i64 0) := hgn.cell w2bc2 (by simp; omega)
  have w3bf2 : w3.frozen? ⟨w.heap.size, 2, none⟩ = false := (grown_frozen hgn (by simp; omega) (by simp; omega)).trans w2bf2
  have w3bc3 : w3.cell? ⟨w.heap.size, 3, none⟩ = some (.int .i64 0) := hgn.cell w2bc3 (by simp; omega)
  have w3bf3 : w3.frozen? ⟨w.heap.size, 3, none⟩ = false := (grown_frozen hgn (by simp; omega) (by simp; omega)).trans w2bf3
  have w3bc4 : w3.cell? ⟨w.heap.size, 4, none⟩ = some (.int .i64 0) := hgn.cell w2bc4 (by simp; omega)
  have w3bf4 : w3.frozen? ⟨w.heap.size, 4, none⟩ = false := (grown_frozen hgn (by simp; omega) (by simp; omega)).trans w2bf4
  have w3bc5 : w3.cell? ⟨w.heap.size, 5, none⟩ = some (.int .i64 0) := hgn.cell w2bc5 (by simp; omega)
  have w3bf5 : w3.frozen? ⟨w.heap.size, 5, none⟩ = false := (grown_frozen hgn (by simp; omega) (by simp; omega)).trans w2bf5
  clear hrn hgn w2bc0 w2bc1 w2bc2 w2bc3 w2bc4 w2bc5 w2bf0 w2bf1 w2bf2 w2bf3 w2bf4 w2bf5
  go_wp2_with fail
  refine (once_any HR.out 2 (by omega) (by omega) _ (HR3.out.alloc _)).mono ?_
  rintro e w4 ⟨o, rfl, hrn, hgn⟩
  have HR4 : Hid (Rd w0 R a len cap w4) := hrn
  have hgm : w3.grownBy w4 (some R) := grown_alloc2 hgn
  have HG4 : Hid (w.grownBy w4 (some R)) := HG3.out.trans hgm
  have hs4 : w3.heap.size + 1 ≤ w4.heap.size := by have := hgn.size; simpa using this
  have w4bc0 : w4.cell? ⟨w.heap.size, 0, none⟩ = some (.int .i64 0) := hgm.cell w3bc0 (by simp; omega)
  have w4bf0 : w4.frozen? ⟨w.heap.size, 0, none⟩ = false := (grown_frozen hgm (by simp; omega) (by simp; omega)).trans w3bf0
  have w4bc1 : w4.cell? ⟨w.heap.size, 1, none⟩ = some (.int .i64 0) := hgm.cell w3bc1 (by simp; omega)
  have w4bf1 : w4.frozen? ⟨w.heap.size, 1, none⟩ = false := (grown_frozen hgm (by simp; omega) (by simp; omega)).trans w3bf1
  have w4bc2 : w4.cell? ⟨w.heap.size, 2, none⟩ = some (.int .i64 0) := hgm.cell w3bc2 (by simp; omega)
  have w4bf2 : w4.frozen? ⟨w.heap.size, 2, none⟩ = false := (grown_frozen hgm (by simp; omega) (by simp; omega)).trans w3bf2
  have w4bc3 : w4.cell? ⟨w.heap.size, 3, none⟩ = some (.int .i64 0) := hgm.cell w3bc3 (by simp; omega)
  have w4bf3 : w4.frozen? ⟨w.heap.size, 3, none⟩ = false := (grown_frozen hgm (by simp; omega) (by simp; omega)).trans w3bf3
  have w4bc4 : w4.cell? ⟨w.heap.size, 4, none⟩ = some (.int .i64 0) := hgm.cell w3bc4 (by simp; omega)
  have w4bf4 : w4.frozen? ⟨w.heap.size, 4, none⟩ = false := (grown_frozen hgm (by simp; omega) (by simp; omega)).trans w3bf4
  have w4bc5 : w4.cell? ⟨w.heap.size, 5, none⟩ = some (.int .i64 0) := hgm.cell w3bc5 (by simp; omega)
  have w4bf5 : w4.frozen? ⟨w.heap.size, 5, none⟩ = false := (grown_frozen hgm (by simp; omega) (by simp; omega)).trans w3bf5
  have w4dc0 : w4.cell? ⟨w3.heap.size, 0, none⟩ = some (.int .i64 0) := hgn.cell (World.cell?_alloc_new _ _ _ _) (by simp; omega)
  have w4df0 : w4.frozen? ⟨w3.heap.size, 0, none⟩ = false := (grown_frozen hgn (by simp) (by simp; omega)).trans (frozen_one _ _ _ _)
  have w4dc1 : w4.cell? ⟨w3.heap.size, 1, none⟩ = some (.int .i64 0) := hgn.cell (World.cell?_alloc_new _ _ _ _) (by simp; omega)
  have w4df1 : w4.frozen? ⟨w3.heap.size, 1, none⟩ = false := (grown_frozen hgn (by simp) (by simp; omega)).trans (frozen_one _ _ _ _)
  have w4dc2 : w4.cell? ⟨w3.heap.size, 2, none⟩ = some (.int .i64 0) := hgn.cell (World.cell?_alloc_new _ _ _ _) (by simp; omega)
  have w4df2 : w4.frozen? ⟨w3.heap.size, 2, none⟩ = false := (grown_frozen hgn (by simp) (by simp; omega)).trans (frozen_one _ _ _ _)
  have w4dc3 : w4.cell? ⟨w3.heap.size, 3, none⟩ = some (.int .i64 x) := hgn.cell (World.cell?_alloc_new _ _ _ _) (by simp; omega)
  have w4df3 : w4.frozen? ⟨w3.heap.size, 3, none⟩ = false := (grown_frozen hgn (by simp) (by simp; omega)).trans (frozen_one _ _ _ _)
  have w4dc4 : w4.cell? ⟨w3.heap.size, 4, none⟩ = some (.int .i64 y) := hgn.cell (World.cell?_alloc_new _ _ _ _) (by simp; omega)
  have w4df4 : w4.frozen? ⟨w3.heap.size, 4, none⟩ = false := (grown_frozen hgn (by simp) (by simp; omega)).trans (frozen_one _ _ _ _)
  have w4dc5 : w4.cell? ⟨w3.heap.size, 5, none⟩ = some (.int .i64 k) := hgn.cell (World.cell?_alloc_new _ _ _ _) (by simp; omega)
  have w4df5 : w4.frozen? ⟨w3.heap.size, 5, none⟩ = false := (grown_frozen hgn (by simp) (by simp; omega)).trans (frozen_one _ _ _ _)
  clear hrn hgn hgm w3bc0 w3bc1 w3bc2 w3bc3 w3bc4 w3bc5 w3bf0 w3bf1 w3bf2 w3bf3 w3bf4 w3bf5
  cases o with
  | false =>
    obtain ⟨wz, hwz⟩ : ∃ u, u = sets w4 w.heap.size 0 [.int .i64 0, .int .i64 0, .int .i64 0, .int .i64 x, .int .i64 y, .int .i64 k] := ⟨_, rfl⟩
    have ha := sets_at w.heap.size [Value.int .i64 0, .int .i64 0, .int .i64 0, .int .i64 x, .int .i64 y, .int .i64 k] w4 0 (fun j hj => by
      match j, hj with
      | 0, _ => exact ⟨_, w4bc0⟩
      | 1, _ => exact ⟨_, w4bc1⟩
      | 2, _ => exact ⟨_, w4bc2⟩
      | 3, _ => exact ⟨_, w4bc3⟩
      | 4, _ => exact ⟨_, w4bc4⟩
      | 5, _ => exact ⟨_, w4bc5⟩)
    rw [← hwz] at ha
    have z0 : wz.cell? ⟨w.heap.size, 0, none⟩ = some (.int .i64 0) := by simpa using ha 0 _ rfl
    have z1 : wz.cell? ⟨w.heap.size, 1, none⟩ = some (.int .i64 0) := by simpa using ha 1 _ rfl
    have z2 : wz.cell? ⟨w.heap.size, 2, none⟩ = some (.int .i64 0) := by simpa using ha 2 _ rfl
    have z3 : wz.cell? ⟨w.heap.size, 3, none⟩ = some (.int .i64 x) := by simpa using ha 3 _ rfl
    have z4 : wz.cell? ⟨w.heap.size, 4, none⟩ = some (.int .i64 y) := by simpa using ha 4 _ rfl
    have z5 : wz.cell? ⟨w.heap.size, 5, none⟩ = some (.int .i64 k) := by simpa using ha 5 _ rfl
    have HRz : Hid (Rd w0 R a len cap wz) := by show Rd _ _ _ _ _ _; rw [hwz]; exact Rd.sets (by omega) (by omega) _ _ _ HR4.out
    have HGz : Hid (w.grownBy wz (some R)) := by show World.grownBy _ _ _; rw [hwz]; exact grown_sets HG4.out (Nat.le_refl _) _ _
    have HWz : Hid (sets w4 w.heap.size 0 [.int .i64 0, .int .i64 0, .int .i64 0, .int .i64 x, .int .i64 y, .int .i64 k] = wz) := hwz.symm
    clear hwz ha
    go_wp2_with (rw [show ((((((w4.setCell ⟨w.heap.size, 0, none⟩ (.int .i64 0)).setCell ⟨w.heap.size, 1, none⟩ (.int .i64 0)).setCell ⟨w.heap.size, 2, none⟩ (.int .i64 0)).setCell ⟨w.heap.size, 3, none⟩ (.int .i64 x)).setCell ⟨w.heap.size, 4, none⟩ (.int .i64 y)).setCell ⟨w.heap.size, 5, none⟩ (.int .i64 k)) = wz from HWz.out])
    refine bodyPost_ret (v := .agg #[.int .i64 0, .int .i64 0, .int .i64 0, .int .i64 x, .int .i64 y, .int .i64 k]) (by simp [results, Tryz.results73, go_sem, z0, z1, z2, z3, z4, z5]) rfl ⟨⟨0, 0, 0, x, y, k⟩, rfl, HRz.out, HGz.out⟩
  | true =>
    go_wp2_with fail
    refine (elem_any HR.out _ HR4.out).mono ?_
    rintro e w5 ⟨p, -, -, rfl, hrn, hgn⟩
    have HR5 : Hid (Rd w0 R a len cap w5) := hrn
    have HG5 : Hid (w.grownBy w5 (some R)) := HG4.out.trans hgn
    have hs5 : w4.heap.size ≤ w5.heap.size := hgn.size
    have w5bc0 : w5.cell? ⟨w.heap.size, 0, none⟩ = some (.int .i64 0) := hgn.cell w4bc0 (by simp; omega)
    have w5bf0 : w5.frozen? ⟨w.heap.size, 0, none⟩ = false := (grown_frozen hgn (by simp; omega) (by simp; omega)).trans w4bf0
    have w5bc1 : w5.cell? ⟨w.heap.size, 1, none⟩ = some (.int .i64 0) := hgn.cell w4bc1 (by simp; omega)
    have w5bf1 : w5.frozen? ⟨w.heap.size, 1, none⟩ = false := (grown_frozen hgn (by simp; omega) (by simp; omega)).trans w4bf1
    have w5bc2 : w5.cell? ⟨w.heap.size, 2, none⟩ = some (.int .i64 0) := hgn.cell w4bc2 (by simp; omega)
    have w5bf2 : w5.frozen? ⟨w.heap.size, 2, none⟩ = false := (grown_frozen hgn (by simp; omega) (by simp; omega)).trans w4bf2
    have w5bc3 : w5.cell? ⟨w.heap.size, 3, none⟩ = some (.int .i64 0) := hgn.cell w4bc3 (by simp; omega)
    have w5bf3 : w5.frozen? ⟨w.heap.size, 3, none⟩ = false := (grown_frozen hgn (by simp; omega) (by simp; omega)).trans w4bf3
    have w5bc4 : w5.cell? ⟨w.heap.size, 4, none⟩ = some (.int .i64 0) := hgn.cell w4bc4 (by simp; omega)
    have w5bf4 : w5.frozen? ⟨w.heap.size, 4, none⟩ = false := (grown_frozen hgn (by simp; omega) (by simp; omega)).trans w4bf4
    have w5bc5 : w5.cell? ⟨w.heap.size, 5, none⟩ = some (.int .i64 0) := hgn.cell w4bc5 (by simp; omega)
    have w5bf5 : w5.frozen? ⟨w.heap.size, 5, none⟩ = false := (grown_frozen hgn (by simp; omega) (by simp; omega)).trans w4bf5
    have w5dc0 : w5.cell? ⟨w3.heap.size, 0, none⟩ = some (.int .i64 0) := hgn.cell w4dc0 (by simp; omega)
    have w5df0 : w5.frozen? ⟨w3.heap.size, 0, none⟩ = false := (grown_frozen hgn (by simp; omega) (by simp; omega)).trans w4df0
    have w5dc1 : w5.cell? ⟨w3.heap.size, 1, none⟩ = some (.int .i64 0) := hgn.cell w4dc1 (by simp; omega)
    have w5df1 : w5.frozen? ⟨w3.heap.size, 1, none⟩ = false := (grown_frozen hgn (by simp; omega) (by simp; omega)).trans w4df1
    have w5dc2 : w5.cell? ⟨w3.heap.size, 2, none⟩ = some (.int .i64 0) := hgn.cell w4dc2 (by simp; omega)
    have w5df2 : w5.frozen? ⟨w3.heap.size, 2, none⟩ = false := (grown_frozen hgn (by simp; omega) (by simp; omega)).trans w4df2
    have w5dc3 : w5.cell? ⟨w3.heap.size, 3, none⟩ = some (.int .i64 x) := hgn.cell w4dc3 (by simp; omega)
    have w5df3 : w5.frozen? ⟨w3.heap.size, 3, none⟩ = false := (grown_frozen hgn (by simp; omega) (by simp; omega)).trans w4df3
    have w5dc4 : w5.cell? ⟨w3.heap.size, 4, none⟩ = some (.int .i64 y) := hgn.cell w4dc4 (by simp; omega)
    have w5df4 : w5.frozen? ⟨w3.heap.size, 4, none⟩ = false := (grown_frozen hgn (by simp; omega) (by simp; omega)).trans w4df4
    have w5dc5 : w5.cell? ⟨w3.heap.size, 5, none⟩ = some (.int .i64 k) := hgn.cell w4dc5 (by simp; omega)
    have w5df5 : w5.frozen? ⟨w3.heap.size, 5, none⟩ = false := (grown_frozen hgn (by simp; omega) (by simp; omega)).trans w4df5
    clear hrn hgn w4bc0 w4bc1 w4bc2 w4bc3 w4bc4 w4bc5 w4bf0 w4bf1 w4bf2 w4bf3 w4bf4 w4bf5 w4dc0 w4dc1 w4dc2 w4dc3 w4dc4 w4dc5 w4df0 w4df1 w4df2 w4df3 w4df4 w4df5
    obtain ⟨w6, hw6⟩ : ∃ u, u = w5.setCell ⟨w3.heap.size, 0, none⟩ (.int .i64 p) := ⟨_, rfl⟩
    have w6dc0 : w6.cell? ⟨w3.heap.size, 0, none⟩ = some (.int .i64 p) := by rw [hw6]; exact World.cell?_setCell_same (w := w5) (a := ⟨w3.heap.size, 0, none⟩) (v := .int .i64 p) (h := w5dc0)
    have w6df0 : w6.frozen? ⟨w3.heap.size, 0, none⟩ = false := by rw [hw6]; simpa using w5df0
    have w6bc0 : w6.cell? ⟨w.heap.size, 0, none⟩ = some (.int .i64 0) := by rw [hw6]; exact (World.cell?_setCell_other (w := w5) (a := ⟨w3.heap.size, 0, none⟩) (b := ⟨w.heap.size, 0, none⟩) (v := .int .i64 p) (h := by intro e; simp only [Addr.mk.injEq] at e; omega)).trans w5bc0
    have w6bf0 : w6.frozen? ⟨w.heap.size, 0, none⟩ = false := by rw [hw6]; simpa using w5bf0
    have w6dc1 : w6.cell? ⟨w3.heap.size, 1, none⟩ = some (.int .i64 0) := by rw [hw6]; exact (World.cell?_setCell_other (w := w5) (a := ⟨w3.heap.size, 0, none⟩) (b := ⟨w3.heap.size, 1, none⟩) (v := .int .i64 p) (h := by simp)).trans w5dc1
    have w6df1 : w6.frozen? ⟨w3.heap.size, 1, none⟩ = false := by rw [hw6]; simpa using w5df1
    have w6bc1 : w6.cell? ⟨w.heap.size, 1, none⟩ = some (.int .i64 0) := by rw [hw6]; exact (World.cell?_setCell_other (w := w5) (a := ⟨w3.heap.size, 0, none⟩) (b := ⟨w.heap.size, 1, none⟩) (v := .int .i64 p) (h := by intro e; simp only [Addr.mk.injEq] at e; omega)).trans w5bc1
    have w6bf1 : w6.frozen? ⟨w.heap.size, 1, none⟩ = false := by rw [hw6]; simpa using w5bf1
    have w6dc2 : w6.cell? ⟨w3.heap.size, 2, none⟩ = some (.int .i64 0) := by rw [hw6]; exact (World.cell?_setCell_other (w := w5) (a := ⟨w3.heap.size, 0, none⟩) (b := ⟨w3.heap.size, 2, none⟩) (v := .int .i64 p) (h := by simp)).trans w5dc2
    have w6df2 : w6.frozen? ⟨w3.heap.size, 2, none⟩ = false := by rw [hw6]; simpa using w5df2
    have w6bc2 : w6.cell? ⟨w.heap.size, 2, none⟩ = some (.int .i64 0) := by rw [hw6]; exact (World.cell?_setCell_other (w := w5) (a := ⟨w3.heap.size, 0, none⟩) (b := ⟨w.heap.size, 2, none⟩) (v := .int .i64 p) (h := by intro e; simp only [Addr.mk.injEq] at e; omega)).trans w5bc2
    have w6bf2 : w6.frozen? ⟨w.heap.size, 2, none⟩ = false := by rw [hw6]; simpa using w5bf2
    have w6dc3 : w6.cell? ⟨w3.heap.size, 3, none⟩ = some (.int .i64 x) := by rw [hw6]; exact (World.cell?_setCell_other (w := w5) (a := ⟨w3.heap.size, 0, none⟩) (b := ⟨w3.heap.size, 3, none⟩) (v := .int .i64 p) (h := by simp)).trans w5dc3
    have w6df3 : w6.frozen? ⟨w3.heap.size, 3, none⟩ = false := by rw [hw6]; simpa using w5df3
    have w6bc3 : w6.cell? ⟨w.heap.size, 3, none⟩ = some (.int .i64 0) := by rw [hw6]; exact (World.cell?_setCell_other (w := w5) (a := ⟨w3.heap.size, 0, none⟩) (b := ⟨w.heap.size, 3, none⟩) (v := .int .i64 p) (h := by intro e; simp only [Addr.mk.injEq] at e; omega)).trans w5bc3
    have w6bf3 : w6.frozen? ⟨w.heap.size, 3, none⟩ = false := by rw [hw6]; simpa using w5bf3
    have w6dc4 : w6.cell? ⟨w3.heap.size, 4, none⟩ = some (.int .i64 y) := by rw [hw6]; exact (World.cell?_setCell_other (w := w5) (a := ⟨w3.heap.size, 0, none⟩) (b := ⟨w3.heap.size, 4, none⟩) (v := .int .i64 p) (h := by simp)).trans w5dc4
    have w6df4 : w6.frozen? ⟨w3.heap.size, 4, none⟩ = false := by rw [hw6]; simpa using w5df4
    have w6bc4 : w6.cell? ⟨w.heap.size, 4, none⟩ = some (.int .i64 0) := by rw [hw6]; exact (World.cell?_setCell_other (w := w5) (a := ⟨w3.heap.size, 0, none⟩) (b := ⟨w.heap.size, 4, none⟩) (v := .int .i64 p) (h := by intro e; simp only [Addr.mk.injEq] at e; omega)).trans w5bc4
    have w6bf4 : w6.frozen? ⟨w.heap.size, 4, none⟩ = false := by rw [hw6]; simpa using w5bf4
    have w6dc5 : w6.cell? ⟨w3.heap.size, 5, none⟩ = some (.int .i64 k) := by rw [hw6]; exact (World.cell?_setCell_other (w := w5) (a := ⟨w3.heap.size, 0, none⟩) (b := ⟨w3.heap.size, 5, none⟩) (v := .int .i64 p) (h := by simp)).trans w5dc5
    have w6df5 : w6.frozen? ⟨w3.heap.size, 5, none⟩ = false := by rw [hw6]; simpa using w5df5
    have w6bc5 : w6.cell? ⟨w.heap.size, 5, none⟩ = some (.int .i64 0) := by rw [hw6]; exact (World.cell?_setCell_other (w := w5) (a := ⟨w3.heap.size, 0, none⟩) (b := ⟨w.heap.size, 5, none⟩) (v := .int .i64 p) (h := by intro e; simp only [Addr.mk.injEq] at e; omega)).trans w5bc5
    have w6bf5 : w6.frozen? ⟨w.heap.size, 5, none⟩ = false := by rw [hw6]; simpa using w5bf5
    have HR6 : Hid (Rd w0 R a len cap w6) := by show Rd _ _ _ _ _ _; rw [hw6]; exact Rd.sets (B := w3.heap.size) (by omega) (by omega) [.int .i64 p] w5 0 HR5.out
    have HG6 : Hid (w.grownBy w6 (some R)) := by show World.grownBy _ _ _; rw [hw6]; exact grown_sets HG5.out (by omega) [.int .i64 p] 0
    have hs6 : w5.heap.size ≤ w6.heap.size := by rw [hw6]; simp
    have HW6 : Hid (w5.setCell ⟨w3.heap.size, 0, none⟩ (.int .i64 p) = w6) := hw6.symm
    clear hw6 w5bc0 w5bc1 w5bc2 w5bc3 w5bc4 w5bc5 w5bf0 w5bf1 w5bf2 w5bf3 w5bf4 w5bf5
    go_wp2_with (rw [HW6.out])
    refine (elem_any HR.out _ HR6.out).mono ?_
    rintro e w7 ⟨q, -, -, rfl, hrn, hgn⟩
    have HR7 : Hid (Rd w0 R a len cap w7) := hrn
    have HG7 : Hid (w.grownBy w7 (some R)) := HG6.out.trans hgn
    have hs7 : w6.heap.size ≤ w7.heap.size := hgn.size
    have w7bc0 : w7.cell? ⟨w.heap.size, 0, none⟩ = some (.int .i64 0) := hgn.cell w6bc0 (by simp; omega)
    have w7bf0 : w7.frozen? ⟨w.heap.size, 0, none⟩ = false := (grown_frozen hgn (by simp; omega) (by simp; omega)).trans w6bf0
    have w7bc1 : w7.cell? ⟨w.heap.size, 1, none⟩ = some (.int .i64 0) := hgn.cell w6bc1 (by simp; omega)
    have w7bf1 : w7.frozen? ⟨w.heap.size, 1, none⟩ = false := (grown_frozen hgn (by simp; omega) (by simp; omega)).trans w6bf1
    have w7bc2 : w7.cell? ⟨w.heap.size, 2, none⟩ = some (.int .i64 0) := hgn.cell w6bc2 (by simp; omega)
    have w7bf2 : w7.frozen? ⟨w.heap.size, 2, none⟩ = false := (grown_frozen hgn (by simp; omega) (by simp; omega)).trans w6bf2
    have w7bc3 : w7.cell? ⟨w.heap.size, 3, none⟩ = some (.int .i64 0) := hgn.cell w6bc3 (by simp; omega)
    have w7bf3 : w7.frozen? ⟨w.heap.size, 3, none⟩ = false := (grown_frozen hgn (by simp; omega) (by simp; omega)).trans w6bf3
    have w7bc4 : w7.cell? ⟨w.heap.size, 4, none⟩ = some (.int .i64 0) := hgn.cell w6bc4 (by simp; omega)
    have w7bf4 : w7.frozen? ⟨w.heap.size, 4, none⟩ = false := (grown_frozen hgn (by simp; omega) (by simp; omega)).trans w6bf4
    have w7bc5 : w7.cell? ⟨w.heap.size, 5, none⟩ = some (.int .i64 0) := hgn.cell w6bc5 (by simp; omega)
    have w7bf5 : w7.frozen? ⟨w.heap.size, 5, none⟩ = false := (grown_frozen hgn (by simp; omega) (by simp; omega)).trans w6bf5
    have w7dc0 : w7.cell? ⟨w3.heap.size, 0, none⟩ = some (.int .i64 p) := hgn.cell w6dc0 (by simp; omega)
    have w7df0 : w7.frozen? ⟨w3.heap.size, 0, none⟩ = false := (grown_frozen hgn (by simp; omega) (by simp; omega)).trans w6df0
    have w7dc1 : w7.cell? ⟨w3.heap.size, 1, none⟩ = some (.int .i64 0) := hgn.cell w6dc1 (by simp; omega)
    have w7df1 : w7.frozen? ⟨w3.heap.size, 1, none⟩ = false := (grown_frozen hgn (by simp; omega) (by simp; omega)).trans w6df1
    have w7dc2 : w7.cell? ⟨w3.heap.size, 2, none⟩ = some (.int .i64 0) := hgn.cell w6dc2 (by simp; omega)
    have w7df2 : w7.frozen? ⟨w3.heap.size, 2, none⟩ = false := (grown_frozen hgn (by simp; omega) (by simp; omega)).trans w6df2
    have w7dc3 : w7.cell? ⟨w3.heap.size, 3, none⟩ = some (.int .i64 x) := hgn.cell w6dc3 (by simp; omega)
    have w7df3 : w7.frozen? ⟨w3.heap.size, 3, none⟩ = false := (grown_frozen hgn (by simp; omega) (by simp; omega)).trans w6df3
    have w7dc4 : w7.cell? ⟨w3.heap.size, 4, none⟩ = some (.int .i64 y) := hgn.cell w6dc4 (by simp; omega)
    have w7df4 : w7.frozen? ⟨w3.heap.size, 4, none⟩ = false := (grown_frozen hgn (by simp; omega) (by simp; omega)).trans w6df4
    have w7dc5 : w7.cell? ⟨w3.heap.size, 5, none⟩ = some (.int .i64 k) := hgn.cell w6dc5 (by simp; omega)
    have w7df5 : w7.frozen? ⟨w3.heap.size, 5, none⟩ = false := (grown_frozen hgn (by simp; omega) (by simp; omega)).trans w6df5
    clear hrn hgn w6bc0 w6bc1 w6bc2 w6bc3 w6bc4 w6bc5 w6bf0 w6bf1 w6bf2 w6bf3 w6bf4 w6bf5 w6dc0 w6dc1 w6dc2 w6dc3 w6dc4 w6dc5 w6df0 w6df1 w6df2 w6df3 w6df4 w6df5
    obtain ⟨w8, hw8⟩ : ∃ u, u = w7.setCell ⟨w3.heap.size, 1, none⟩ (.int .i64 q) := ⟨_, rfl⟩
    have w8dc0 : w8.cell? ⟨w3.heap.size, 0, none⟩ = some (.int .i64 p) := by rw [hw8]; exact (World.cell?_setCell_other (w := w7) (a := ⟨w3.heap.size, 1, none⟩) (b := ⟨w3.heap.size, 0, none⟩) (v := .int .i64 q) (h := by simp)).trans w7dc0
    have w8df0 : w8.frozen? ⟨w3.heap.size, 0, none⟩ = false := by rw [hw8]; simpa using w7df0
    have w8bc0 : w8.cell? ⟨w.heap.size, 0, none⟩ = some (.int .i64 0) := by rw [hw8]; exact (World.cell?_setCell_other (w := w7) (a := ⟨w3.heap.size, 1, none⟩) (b := ⟨w.heap.size, 0, none⟩) (v := .int .i64 q) (h := by intro e; simp only [Addr.mk.injEq] at e; omega)).trans w7bc0
    have w8bf0 : w8.frozen? ⟨w.heap.size, 0, none⟩ = false := by rw [hw8]; simpa using w7bf0
    have w8dc1 : w8.cell? ⟨w3.heap.size, 1, none⟩ = some (.int .i64 q) := by rw [hw8]; exact World.cell?_setCell_same (w := w7) (a := ⟨w3.heap.size, 1, none⟩) (v := .int .i64 q) (h := w7dc1)
    have w8df1 : w8.frozen? ⟨w3.heap.size, 1, none⟩ = false := by rw [hw8]; simpa using w7df1
    have w8bc1 : w8.cell? ⟨w.heap.size, 1, none⟩ = some (.int .i64 0) := by rw [hw8]; exact (World.cell?_setCell_other (w := w7) (a := ⟨w3.heap.size, 1, none⟩) (b := ⟨w.heap.size, 1, none⟩) (v := .int .i64 q) (h := by intro e; simp only [Addr.mk.injEq] at e; omega)).trans w7bc1
    have w8bf1 : w8.frozen? ⟨w.heap.size, 1, none⟩ = false := by rw [hw8]; simpa using w7bf1
    have w8dc2 : w8.cell? ⟨w3.heap.size, 2, none⟩ = some (.int .i64 0) := by rw [hw8]; exact (World.cell?_setCell_other (w := w7) (a := ⟨w3.heap.size, 1, none⟩) (b := ⟨w3.heap.size, 2, none⟩) (v := .int .i64 q) (h := by simp)).trans w7dc2
    have w8df2 : w8.frozen? ⟨w3.heap.size, 2, none⟩ = false := by rw [hw8]; simpa using w7df2
    have w8bc2 : w8.cell? ⟨w.heap.size, 2, none⟩ = some (.int .i64 0) := by rw [hw8]; exact (World.cell?_setCell_other (w := w7) (a := ⟨w3.heap.size, 1, none⟩) (b := ⟨w.heap.size, 2, none⟩) (v := .int .i64 q) (h := by intro e; simp only [Addr.mk.injEq] at e; omega)).trans w7bc2
    have w8bf2 : w8.frozen? ⟨w.heap.size, 2, none⟩ = false := by rw [hw8]; simpa using w7bf2
    have w8dc3 : w8.cell? ⟨w3.heap.size, 3, none⟩ = some (.int .i64 x) := by rw [hw8]; exact (World.cell?_setCell_other (w := w7) (a := ⟨w3.heap.size, 1, none⟩) (b := ⟨w3.heap.size, 3, none⟩) (v := .int .i64 q) (h := by simp)).trans w7dc3
    have w8df3 : w8.frozen? ⟨w3.heap.size, 3, none⟩ = false := by rw [hw8]; simpa using w7df3
    have w8bc3 : w8.cell? ⟨w.heap.size, 3, none⟩ = some (.int .i64 0) := by rw [hw8]; exact (World.cell?_setCell_other (w := w7) (a := ⟨w3.heap.size, 1, none⟩) (b := ⟨w.heap.size, 3, none⟩) (v := .int .i64 q) (h := by intro e; simp only [Addr.mk.injEq] at e; omega)).trans w7bc3
    have w8bf3 : w8.frozen? ⟨w.heap.size, 3, none⟩ = false := by rw [hw8]; simpa using w7bf3
    have w8dc4 : w8.cell? ⟨w3.heap.size, 4, none⟩ = some (.int .i64 y) := by rw [hw8]; exact (World.cell?_setCell_other (w := w7) (a := ⟨w3.heap.size, 1, none⟩) (b := ⟨w3.heap.size, 4, none⟩) (v := .int .i64 q) (h := by simp)).trans w7dc4
    have w8df4 : w8.frozen? ⟨w3.heap.size, 4, none⟩ = false := by rw [hw8]; simpa using w7df4
    have w8bc4 : w8.cell? ⟨w.heap.size, 4, none⟩ = some (.int .i64 0) := by rw [hw8]; exact (World.cell?_setCell_other (w := w7) (a := ⟨w3.heap.size, 1, none⟩) (b := ⟨w.heap.size, 4, none⟩) (v := .int .i64 q) (h := by intro e; simp only [Addr.mk.injEq] at e; omega)).trans w7bc4
    have w8bf4 : w8.frozen? ⟨w.heap.size, 4, none⟩ = false := by rw [hw8]; simpa using w7bf4
    have w8dc5 : w8.cell? ⟨w3.heap.size, 5, none⟩ = some (.int .i64 k) := by rw [hw8]; exact (World.cell?_setCell_other (w := w7) (a := ⟨w3.heap.size, 1, none⟩) (b := ⟨w3.heap.size, 5, none⟩) (v := .int .i64 q) (h := by simp)).trans w7dc5
    have w8df5 : w8.frozen? ⟨w3.heap.size, 5, none⟩ = false := by rw [hw8]; simpa using w7df5
    have w8bc5 : w8.cell? ⟨w.heap.size, 5, none⟩ = some (.int .i64 0) := by rw [hw8]; exact (World.cell?_setCell_other (w := w7) (a := ⟨w3.heap.size, 1, none⟩) (b := ⟨w.heap.size, 5, none⟩) (v := .int .i64 q) (h := by intro e; simp only [Addr.mk.injEq] at e; omega)).trans w7bc5
    have w8bf5 : w8.frozen? ⟨w.heap.size, 5, none⟩ = false := by rw [hw8]; simpa using w7bf5
    have HR8 : Hid (Rd w0 R a len cap w8) := by show Rd _ _ _ _ _ _; rw [hw8]; exact Rd.sets (B := w3.heap.size) (by omega) (by omega) [.int .i64 q] w7 1 HR7.out
    have HG8 : Hid (w.grownBy w8 (some R)) := by show World.grownBy _ _ _; rw [hw8]; exact grown_sets HG7.out (by omega) [.int .i64 q] 1
    have hs8 : w7.heap.size ≤ w8.heap.size := by rw [hw8]; simp
    have HW8 : Hid (w7.setCell ⟨w3.heap.size, 1, none⟩ (.int .i64 q) = w8) := hw8.symm
    clear hw8 w7bc0 w7bc1 w7bc2 w7bc3 w7bc4 w7bc5 w7bf0 w7bf1 w7bf2 w7bf3 w7bf4 w7bf5
    go_wp2_with (rw [HW8.out])
    refine (elem_any HR.out _ HR8.out).mono ?_
    rintro e w9 ⟨r, -, -, rfl, hrn, hgn⟩
    have HR9 : Hid (Rd w0 R a len cap w9) := hrn
    have HG9 : Hid (w.grownBy w9 (some R)) := HG8.out.trans hgn
    have hs9 : w8.heap.size ≤ w9.heap.size := hgn.size
    have w9bc0 : w9.cell? ⟨w.heap.size, 0, none⟩ = some (.int .i64 0) := hgn.cell w8bc0 (by simp; omega)
    have w9bf0 : w9.frozen? ⟨w.heap.size, 0, none⟩ = false := (grown_frozen hgn (by simp; omega) (by simp; omega)).trans w8bf0
    have w9bc1 : w9.cell? ⟨w.heap.size, 1, none⟩ = some (.int .i64 0) := hgn.cell w8bc1 (by simp; omega)
    have w9bf1 : w9.frozen? ⟨w.heap.size, 1, none⟩ = false := (grown_frozen hgn (by simp; omega) (by simp; omega)).trans w8bf1
    have w9bc2 : w9.cell? ⟨w.heap.size, 2, none⟩ = some (.int .i64 0) := hgn.cell w8bc2 (by simp; omega)
    have w9bf2 : w9.frozen? ⟨w.heap.size, 2, none⟩ = false := (grown_frozen hgn (by simp; omega) (by simp; omega)).trans w8bf2
    have w9bc3 : w9.cell? ⟨w.heap.size, 3, none⟩ = some (.int .i64 0) := hgn.cell w8bc3 (by simp; omega)
    have w9bf3 : w9.frozen? ⟨w.heap.size, 3, none⟩ = false := (grown_frozen hgn (by simp; omega) (by simp; omega)).trans w8bf3
    have w9bc4 : w9.cell? ⟨w.heap.size, 4, none⟩ = some (.int .i64 0) := hgn.cell w8bc4 (by simp; omega)
    have w9bf4 : w9.frozen? ⟨w.heap.size, 4, none⟩ = false := (grown_frozen hgn (by simp; omega) (by simp; omega)).trans w8bf4
    have w9bc5 : w9.cell? ⟨w.heap.size, 5, none⟩ = some (.int .i64 0) := hgn.cell w8bc5 (by simp; omega)
    have w9bf5 : w9.frozen? ⟨w.heap.size, 5, none⟩ = false := (grown_frozen hgn (by simp; omega) (by simp; omega)).trans w8bf5
    have w9dc0 : w9.cell? ⟨w3.heap.size, 0, none⟩ = some (.int .i64 p) := hgn.cell w8dc0 (by simp; omega)
    have w9df0 : w9.frozen? ⟨w3.heap.size, 0, none⟩ = false := (grown_frozen hgn (by simp; omega) (by simp; omega)).trans w8df0
    have w9dc1 : w9.cell? ⟨w3.heap.size, 1, none⟩ = some (.int .i64 q) := hgn.cell w8dc1 (by simp; omega)
    have w9df1 : w9.frozen? ⟨w3.heap.size, 1, none⟩ = false := (grown_frozen hgn (by simp; omega) (by simp; omega)).trans w8df1
    have w9dc2 : w9.cell? ⟨w3.heap.size, 2, none⟩ = some (.int .i64 0) := hgn.cell w8dc2 (by simp; omega)
    have w9df2 : w9.frozen? ⟨w3.heap.size, 2, none⟩ = false := (grown_frozen hgn (by simp; omega) (by simp; omega)).trans w8df2
    have w9dc3 : w9.cell? ⟨w3.heap.size, 3, none⟩ = some (.int .i64 x) := hgn.cell w8dc3 (by simp; omega)
    have w9df3 : w9.frozen? ⟨w3.heap.size, 3, none⟩ = false := (grown_frozen hgn (by simp; omega) (by simp; omega)).trans w8df3
    have w9dc4 : w9.cell? ⟨w3.heap.size, 4, none⟩ = some (.int .i64 y) := hgn.cell w8dc4 (by simp; omega)
    have w9df4 : w9.frozen? ⟨w3.heap.size, 4, none⟩ = false := (grown_frozen hgn (by simp; omega) (by simp; omega)).trans w8df4
    have w9dc5 : w9.cell? ⟨w3.heap.size, 5, none⟩ = some (.int .i64 k) := hgn.cell w8dc5 (by simp; omega)
    have w9df5 : w9.frozen? ⟨w3.heap.size, 5, none⟩ = false := (grown_frozen hgn (by simp; omega) (by simp; omega)).trans w8df5
    clear hrn hgn w8bc0 w8bc1 w8bc2 w8bc3 w8bc4 w8bc5 w8bf0 w8bf1 w8bf2 w8bf3 w8bf4 w8bf5 w8dc0 w8dc1 w8dc2 w8dc3 w8dc4 w8dc5 w8df0 w8df1 w8df2 w8df3 w8df4 w8df5
    obtain ⟨w10, hw10⟩ : ∃ u, u = w9.setCell ⟨w3.heap.size, 2, none⟩ (.int .i64 r) := ⟨_, rfl⟩
    have w10dc0 : w10.cell? ⟨w3.heap.size, 0, none⟩ = some (.int .i64 p) := by rw [hw10]; exact (World.cell?_setCell_other (w := w9) (a := ⟨w3.heap.size, 2, none⟩) (b := ⟨w3.heap.size, 0, none⟩) (v := .int .i64 r) (h := by simp)).trans w9dc0
    have w10df0 : w10.frozen? ⟨w3.heap.size, 0, none⟩ = false := by rw [hw10]; simpa using w9df0
    have w10bc0 : w10.cell? ⟨w.heap.size, 0, none⟩ = some (.int .i64 0) := by rw [hw10]; exact (World.cell?_setCell_other (w := w9) (a := ⟨w3.heap.size, 2, none⟩) (b := ⟨w.heap.size, 0, none⟩) (v := .int .i64 r) (h := by intro e; simp only [Addr.mk.injEq] at e; omega)).trans w9bc0
    have w10bf0 : w10.frozen? ⟨w.heap.size, 0, none⟩ = false := by rw [hw10]; simpa using w9bf0
    have w10dc1 : w10.cell? ⟨w3.heap.size, 1, none⟩ = some (.int .i64 q) := by rw [hw10]; exact (World.cell?_setCell_other (w := w9) (a := ⟨w3.heap.size, 2, none⟩) (b := ⟨w3.heap.size, 1, none⟩) (v := .int .i64 r) (h := by simp)).trans w9dc1
    have w10df1 : w10.frozen? ⟨w3.heap.size, 1, none⟩ = false := by rw [hw10]; simpa using w9df1
    have w10bc1 : w10.cell? ⟨w.heap.size, 1, none⟩ = some (.int .i64 0) := by rw [hw10]; exact (World.cell?_setCell_other (w := w9) (a := ⟨w3.heap.size, 2, none⟩) (b := ⟨w.heap.size, 1, none⟩) (v := .int .i64 r) (h := by intro e; simp only [Addr.mk.injEq] at e; omega)).trans w9bc1
    have w10bf1 : w10.frozen? ⟨w.heap.size, 1, none⟩ = false := by rw [hw10]; simpa using w9bf1
    have w10dc2 : w10.cell? ⟨w3.heap.size, 2, none⟩ = some (.int .i64 r) := by rw [hw10]; exact World.cell?_setCell_same (w := w9) (a := ⟨w3.heap.size, 2, none⟩) (v := .int .i64 r) (h := w9dc2)
    have w10df2 : w10.frozen? ⟨w3.heap.size, 2, none⟩ = false := by rw [hw10]; simpa using w9df2
    have w10bc2 : w10.cell? ⟨w.heap.size, 2, none⟩ = some (.int .i64 0) := by rw [hw10]; exact (World.cell?_setCell_other (w := w9) (a := ⟨w3.heap.size, 2, none⟩) (b := ⟨w.heap.size, 2, none⟩) (v := .int .i64 r) (h := by intro e; simp only [Addr.mk.injEq] at e; omega)).trans w9bc2
    have w10bf2 : w10.frozen? ⟨w.heap.size, 2, none⟩ = false := by rw [hw10]; simpa using w9bf2
    have w10dc3 : w10.cell? ⟨w3.heap.size, 3, none⟩ = some (.int .i64 x) := by rw [hw10]; exact (World.cell?_setCell_other (w := w9) (a := ⟨w3.heap.size, 2, none⟩) (b := ⟨w3.heap.size, 3, none⟩) (v := .int .i64 r) (h := by simp)).trans w9dc3
    have w10df3 : w10.frozen? ⟨w3.heap.size, 3, none⟩ = false := by rw [hw10]; simpa using w9df3
    have w10bc3 : w10.cell? ⟨w.heap.size, 3, none⟩ = some (.int .i64 0) := by rw [hw10]; exact (World.cell?_setCell_other (w := w9) (a := ⟨w3.heap.size, 2, none⟩) (b := ⟨w.heap.size, 3, none⟩) (v := .int .i64 r) (h := by intro e; simp only [Addr.mk.injEq] at e; omega)).trans w9bc3
    have w10bf3 : w10.frozen? ⟨w.heap.size, 3, none⟩ = false := by rw [hw10]; simpa using w9bf3
    have w10dc4 : w10.cell? ⟨w3.heap.size, 4, none⟩ = some (.int .i64 y) := by rw [hw10]; exact (World.cell?_setCell_other (w := w9) (a := ⟨w3.heap.size, 2, none⟩) (b := ⟨w3.heap.size, 4, none⟩) (v := .int .i64 r) (h := by simp)).trans w9dc4
    have w10df4 : w10.frozen? ⟨w3.heap.size, 4, none⟩ = false := by rw [hw10]; simpa using w9df4
    have w10bc4 : w10.cell? ⟨w.heap.size, 4, none⟩ = some (.int .i64 0) := by rw [hw10]; exact (World.cell?_setCell_other (w := w9) (a := ⟨w3.heap.size, 2, none⟩) (b := ⟨w.heap.size, 4, none⟩) (v := .int .i64 r) (h := by intro e; simp only [Addr.mk.injEq] at e; omega)).trans w9bc4
    have w10bf4 : w10.frozen? ⟨w.heap.size, 4, none⟩ = false := by rw [hw10]; simpa using w9bf4
    have w10dc5 : w10.cell? ⟨w3.heap.size, 5, none⟩ = some (.int .i64 k) := by rw [hw10]; exact (World.cell?_setCell_other (w := w9) (a := ⟨w3.heap.size, 2, none⟩) (b := ⟨w3.heap.size, 5, none⟩) (v := .int .i64 r) (h := by simp)).trans w9dc5
    have w10df5 : w10.frozen? ⟨w3.heap.size, 5, none⟩ = false := by rw [hw10]; simpa using w9df5
    have w10bc5 : w10.cell? ⟨w.heap.size, 5, none⟩ = some (.int .i64 0) := by rw [hw10]; exact (World.cell?_setCell_other (w := w9) (a := ⟨w3.heap.size, 2, none⟩) (b := ⟨w.heap.size, 5, none⟩) (v := .int .i64 r) (h := by intro e; simp only [Addr.mk.injEq] at e; omega)).trans w9bc5
    have w10bf5 : w10.frozen? ⟨w.heap.size, 5, none⟩ = false := by rw [hw10]; simpa using w9bf5
    have HR10 : Hid (Rd w0 R a len cap w10) := by show Rd _ _ _ _ _ _; rw [hw10]; exact Rd.sets (B := w3.heap.size) (by omega) (by omega) [.int .i64 r] w9 2 HR9.out
    have HG10 : Hid (w.grownBy w10 (some R)) := by show World.grownBy _ _ _; rw [hw10]; exact grown_sets HG9.out (by omega) [.int .i64 r] 2
    have hs10 : w9.heap.size ≤ w10.heap.size := by rw [hw10]; simp
    have HW10 : Hid (w9.setCell ⟨w3.heap.size, 2, none⟩ (.int .i64 r) = w10) := hw10.symm
    clear hw10 w9bc0 w9bc1 w9bc2 w9bc3 w9bc4 w9bc5 w9bf0 w9bf1 w9bf2 w9bf3 w9bf4 w9bf5
    obtain ⟨wz, hwz⟩ : ∃ u, u = sets w10 w.heap.size 0 [.int .i64 p, .int .i64 q, .int .i64 r, .int .i64 x, .int .i64 y, .int .i64 k] := ⟨_, rfl⟩
    have ha := sets_at w.heap.size [Value.int .i64 p, .int .i64 q, .int .i64 r, .int .i64 x, .int .i64 y, .int .i64 k] w10 0 (fun j hj => by
      match j, hj with
      | 0, _ => exact ⟨_, w10bc0⟩
      | 1, _ => exact ⟨_, w10bc1⟩
      | 2, _ => exact ⟨_, w10bc2⟩
      | 3, _ => exact ⟨_, w10bc3⟩
      | 4, _ => exact ⟨_, w10bc4⟩
      | 5, _ => exact ⟨_, w10bc5⟩)
    rw [← hwz] at ha
    have z0 : wz.cell? ⟨w.heap.size, 0, none⟩ = some (.int .i64 p) := by simpa using ha 0 _ rfl
    have z1 : wz.cell? ⟨w.heap.size, 1, none⟩ = some (.int .i64 q) := by simpa using ha 1 _ rfl
    have z2 : wz.cell? ⟨w.heap.size, 2, none⟩ = some (.int .i64 r) := by simpa using ha 2 _ rfl
    have z3 : wz.cell? ⟨w.heap.size, 3, none⟩ = some (.int .i64 x) := by simpa using ha 3 _ rfl
    have z4 : wz.cell? ⟨w.heap.size, 4, none⟩ = some (.int .i64 y) := by simpa using ha 4 _ rfl
    have z5 : wz.cell? ⟨w.heap.size, 5, none⟩ = some (.int .i64 k) := by simpa using ha 5 _ rfl
    have HRz : Hid (Rd w0 R a len cap wz) := by show Rd _ _ _ _ _ _; rw [hwz]; exact Rd.sets (by omega) (by omega) _ _ _ HR10.out
    have HGz : Hid (w.grownBy wz (some R)) := by show World.grownBy _ _ _; rw [hwz]; exact grown_sets HG10.out (Nat.le_refl _) _ _
    have HWz : Hid (sets w10 w.heap.size 0 [.int .i64 p, .int .i64 q, .int .i64 r, .int .i64 x, .int .i64 y, .int .i64 k] = wz) := hwz.symm
    clear hwz ha
    go_wp2_with (first | rw [HW10.out] | rw [show ((((((w10.setCell ⟨w.heap.size, 0, none⟩ (.int .i64 p)).setCell ⟨w.heap.size, 1, none⟩ (.int .i64 q)).setCell ⟨w.heap.size, 2, none⟩ (.int .i64 r)).setCell ⟨w.heap.size, 3, none⟩ (.int .i64 x)).setCell ⟨w.heap.size, 4, none⟩ (.int .i64 y)).setCell ⟨w.heap.size, 5, none⟩ (.int .i64 k)) = wz from HWz.out])
    refine bodyPost_ret (v := .agg #[.int .i64 p, .int .i64 q, .int .i64 r, .int .i64 x, .int .i64 y, .int .i64 k]) (by simp [results, Tryz.results73, go_sem, z0, z1, z2, z3, z4, z5]) rfl ⟨⟨p, q, r, x, y, k⟩, rfl, HRz.out, HGz.out⟩
end Go.Proofs.YtbcfjbkmkknmfaaGreatDoor
namespace Go.Proofs.YtbcfjbkmkknmfaaGreatDoor
open Go.RowKit

theorem zero12 {j : Nat} (h : j < 12) : (#[Value.int .i64 0, .int .i64 0, .int .i64 0, .int .i64 0, .int .i64 0, .int .i64 0, .int .i64 0, .int .i64 0, .int .i64 0, .int .i64 0, .int .i64 0, .int .i64 0] : Array Value)[j]? = some (.int .i64 0) := by
  match j, h with
  | 0, _ => rfl
  | 1, _ => rfl
  | 2, _ => rfl
  | 3, _ => rfl
  | 4, _ => rfl
  | 5, _ => rfl
  | 6, _ => rfl
  | 7, _ => rfl
  | 8, _ => rfl
  | 9, _ => rfl
  | 10, _ => rfl
  | 11, _ => rfl
set_option maxHeartbeats 8000000 in
set_option maxRecDepth 10000 in
theorem machineR_any {w0 : World} {R : Nat} {a : Option Addr} {len cap : Nat} {zs : List Int} (hrow : Row .u8 w0 a len cap zs) (w : World) (h : Rd w0 R a len cap w) :
    Calls Tryz.prog 27 #[.pointer (some ⟨R, 0, none⟩)] w fun e w' => ∃ m : M.Mc, e = .returned (mcv m) ∧ Rd w0 R a len cap w' ∧ w.grownBy w' (some R) := by
  have HR : Hid (Row .u8 w0 a len cap zs) := hrow
  have H : Hid (Rd w0 R a len cap w) := h
  have hRw := h.hi
  have hlo := h.lo
  clear hrow h
  go_enter Tryz.func27, Tryz.ntmps27
  go_wp2_with fail
  refine (ruleR_any HR.out _ (H.out.alloc _)).mono ?_
  rintro e w1 ⟨⟨p1, p2, p3, p4, p5, p6⟩, rfl, hr1, hg1⟩
  dsimp only [rlv]
  have HR1 : Hid (Rd w0 R a len cap w1) := hr1
  have HG1 : Hid (w.grownBy w1 (some R)) := grown_alloc2 hg1
  have hs1 : w.heap.size + 1 ≤ w1.heap.size := by have := hg1.size; simpa using this
  have HZ1 : Hid (∀ j, j < 12 → w1.cell? ⟨w.heap.size, j, none⟩ = some (.int .i64 0) ∧ w1.frozen? ⟨w.heap.size, j, none⟩ = false) := fun j hj => ⟨hg1.cell ((World.cell?_alloc_new _ _ _ _).trans (zero12 hj)) (by simp; omega), (grown_frozen hg1 (by simp) (by simp; omega)).trans (frozen_one _ _ _ _)⟩
  clear hr1 hg1
  go_wp2_with fail
  refine (ruleR_any HR.out _ (HR1.out.alloc _)).mono ?_
  rintro e w2 ⟨⟨q1, q2, q3, q4, q5, q6⟩, rfl, hr2, hg2⟩
  dsimp only [rlv]
  have hgm : w1.grownBy w2 (some R) := grown_alloc2 hg2
  have HR2 : Hid (Rd w0 R a len cap w2) := hr2
  have HG2 : Hid (w.grownBy w2 (some R)) := HG1.out.trans hgm
  have hs2 : w1.heap.size + 1 ≤ w2.heap.size := by have := hg2.size; simpa using this
  have HZ2 : Hid (∀ j, j < 12 → w2.cell? ⟨w.heap.size, j, none⟩ = some (.int .i64 0) ∧ w2.frozen? ⟨w.heap.size, j, none⟩ = false) := fun j hj => ⟨hgm.cell (HZ1.out j hj).1 (by simp; omega), (grown_frozen hgm (by simp; omega) (by simp; omega)).trans (HZ1.out j hj).2⟩
  have HF2 : Hid (∀ j, w2.frozen? ⟨w1.heap.size, j, none⟩ = false) := fun j => (grown_frozen hg2 (by simp) (by simp; omega)).trans (frozen_one _ _ _ _)
  have c0 : w2.cell? ⟨w1.heap.size, 0, none⟩ = some (.int .i64 p1) := hg2.cell (World.cell?_alloc_new _ _ _ _) (by simp; omega)
  have c1 : w2.cell? ⟨w1.heap.size, 1, none⟩ = some (.int .i64 p2) := hg2.cell (World.cell?_alloc_new _ _ _ _) (by simp; omega)
  have c2 : w2.cell? ⟨w1.heap.size, 2, none⟩ = some (.int .i64 p3) := hg2.cell (World.cell?_alloc_new _ _ _ _) (by simp; omega)
  have c3 : w2.cell? ⟨w1.heap.size, 3, none⟩ = some (.int .i64 p4) := hg2.cell (World.cell?_alloc_new _ _ _ _) (by simp; omega)
  have c4 : w2.cell? ⟨w1.heap.size, 4, none⟩ = some (.int .i64 p5) := hg2.cell (World.cell?_alloc_new _ _ _ _) (by simp; omega)
  have c5 : w2.cell? ⟨w1.heap.size, 5, none⟩ = some (.int .i64 p6) := hg2.cell (World.cell?_alloc_new _ _ _ _) (by simp; omega)
  have c6 : w2.cell? ⟨w1.heap.size, 6, none⟩ = some (.int .i64 0) := hg2.cell (World.cell?_alloc_new _ _ _ _) (by simp; omega)
  have c7 : w2.cell? ⟨w1.heap.size, 7, none⟩ = some (.int .i64 0) := hg2.cell (World.cell?_alloc_new _ _ _ _) (by simp; omega)
  have c8 : w2.cell? ⟨w1.heap.size, 8, none⟩ = some (.int .i64 0) := hg2.cell (World.cell?_alloc_new _ _ _ _) (by simp; omega)
  have c9 : w2.cell? ⟨w1.heap.size, 9, none⟩ = some (.int .i64 0) := hg2.cell (World.cell?_alloc_new _ _ _ _) (by simp; omega)
  have c10 : w2.cell? ⟨w1.heap.size, 10, none⟩ = some (.int .i64 0) := hg2.cell (World.cell?_alloc_new _ _ _ _) (by simp; omega)
  have c11 : w2.cell? ⟨w1.heap.size, 11, none⟩ = some (.int .i64 0) := hg2.cell (World.cell?_alloc_new _ _ _ _) (by simp; omega)
  have f6 := HF2.out 6
  have f7 := HF2.out 7
  have f8 := HF2.out 8
  have f9 := HF2.out 9
  have f10 := HF2.out 10
  have f11 := HF2.out 11
  obtain ⟨w3, hw3⟩ : ∃ u, u = sets w2 w1.heap.size 6 [.int .i64 q1, .int .i64 q2, .int .i64 q3, .int .i64 q4, .int .i64 q5, .int .i64 q6] := ⟨_, rfl⟩
  have ha := sets_at w1.heap.size [Value.int .i64 q1, .int .i64 q2, .int .i64 q3, .int .i64 q4, .int .i64 q5, .int .i64 q6] w2 6 (fun j hj => by
    match j, hj with
    | 0, _ => exact ⟨_, c6⟩
    | 1, _ => exact ⟨_, c7⟩
    | 2, _ => exact ⟨_, c8⟩
    | 3, _ => exact ⟨_, c9⟩
    | 4, _ => exact ⟨_, c10⟩
    | 5, _ => exact ⟨_, c11⟩)
  rw [← hw3] at ha
  have d0 : w3.cell? ⟨w1.heap.size, 0, none⟩ = some (.int .i64 p1) := by rw [hw3, sets_low w1.heap.size 0 _ _ _ (by omega)]; exact c0
  have d1 : w3.cell? ⟨w1.heap.size, 1, none⟩ = some (.int .i64 p2) := by rw [hw3, sets_low w1.heap.size 1 _ _ _ (by omega)]; exact c1
  have d2 : w3.cell? ⟨w1.heap.size, 2, none⟩ = some (.int .i64 p3) := by rw [hw3, sets_low w1.heap.size 2 _ _ _ (by omega)]; exact c2
  have d3 : w3.cell? ⟨w1.heap.size, 3, none⟩ = some (.int .i64 p4) := by rw [hw3, sets_low w1.heap.size 3 _ _ _ (by omega)]; exact c3
  have d4 : w3.cell? ⟨w1.heap.size, 4, none⟩ = some (.int .i64 p5) := by rw [hw3, sets_low w1.heap.size 4 _ _ _ (by omega)]; exact c4
  have d5 : w3.cell? ⟨w1.heap.size, 5, none⟩ = some (.int .i64 p6) := by rw [hw3, sets_low w1.heap.size 5 _ _ _ (by omega)]; exact c5
  have d6 : w3.cell? ⟨w1.heap.size, 6, none⟩ = some (.int .i64 q1) := by simpa using ha 0 _ rfl
  have d7 : w3.cell? ⟨w1.heap.size, 7, none⟩ = some (.int .i64 q2) := by simpa using ha 1 _ rfl
  have d8 : w3.cell? ⟨w1.heap.size, 8, none⟩ = some (.int .i64 q3) := by simpa using ha 2 _ rfl
  have d9 : w3.cell? ⟨w1.heap.size, 9, none⟩ = some (.int .i64 q4) := by simpa using ha 3 _ rfl
  have d10 : w3.cell? ⟨w1.heap.size, 10, none⟩ = some (.int .i64 q5) := by simpa using ha 4 _ rfl
  have d11 : w3.cell? ⟨w1.heap.size, 11, none⟩ = some (.int .i64 q6) := by simpa using ha 5 _ rfl
  have HR3 : Hid (Rd w0 R a len cap w3) := by show Rd _ _ _ _ _ _; rw [hw3]; exact Rd.sets (by omega) (by omega) _ _ _ HR2.out
  have HG3 : Hid (w.grownBy w3 (some R)) := by show World.grownBy _ _ _; rw [hw3]; exact grown_sets HG2.out (by omega) _ _
  have hs3 : w2.heap.size ≤ w3.heap.size := by rw [hw3, sets_size]; exact Nat.le_refl _
  have HZ3 : Hid (∀ j, j < 12 → w3.cell? ⟨w.heap.size, j, none⟩ = some (.int .i64 0) ∧ w3.frozen? ⟨w.heap.size, j, none⟩ = false) := fun j hj => by rw [hw3]; exact ⟨(sets_far _ (show w.heap.size ≠ w1.heap.size by omega) _ _ _).trans (HZ2.out j hj).1, (sets_frozen _ _ _ _ _).trans (HZ2.out j hj).2⟩
  have HF3 : Hid (∀ j, w3.frozen? ⟨w1.heap.size, j, none⟩ = false) := fun j => by rw [hw3, sets_frozen]; exact HF2.out j
  have HW3 : Hid (sets w2 w1.heap.size 6 [.int .i64 q1, .int .i64 q2, .int .i64 q3, .int .i64 q4, .int .i64 q5, .int .i64 q6] = w3) := hw3.symm
  have hmc : ∃ m : M.Mc, (w3.cell? ⟨w1.heap.size, 0, none⟩ = some (.int .i64 m.X.xx) ∧ w3.cell? ⟨w1.heap.size, 1, none⟩ = some (.int .i64 m.X.xy) ∧ w3.cell? ⟨w1.heap.size, 2, none⟩ = some (.int .i64 m.X.yy) ∧ w3.cell? ⟨w1.heap.size, 3, none⟩ = some (.int .i64 m.X.x) ∧ w3.cell? ⟨w1.heap.size, 4, none⟩ = some (.int .i64 m.X.y) ∧ w3.cell? ⟨w1.heap.size, 5, none⟩ = some (.int .i64 m.X.k) ∧ w3.cell? ⟨w1.heap.size, 6, none⟩ = some (.int .i64 m.Y.xx) ∧ w3.cell? ⟨w1.heap.size, 7, none⟩ = some (.int .i64 m.Y.xy) ∧ w3.cell? ⟨w1.heap.size, 8, none⟩ = some (.int .i64 m.Y.yy) ∧ w3.cell? ⟨w1.heap.size, 9, none⟩ = some (.int .i64 m.Y.x) ∧ w3.cell? ⟨w1.heap.size, 10, none⟩ = some (.int .i64 m.Y.y) ∧ w3.cell? ⟨w1.heap.size, 11, none⟩ = some (.int .i64 m.Y.k)) := ⟨⟨⟨p1, p2, p3, p4, p5, p6⟩, ⟨q1, q2, q3, q4, q5, q6⟩⟩, d0, d1, d2, d3, d4, d5, d6, d7, d8, d9, d10, d11⟩
  have HMC : Hid (∃ m : M.Mc, (w3.cell? ⟨w1.heap.size, 0, none⟩ = some (.int .i64 m.X.xx) ∧ w3.cell? ⟨w1.heap.size, 1, none⟩ = some (.int .i64 m.X.xy) ∧ w3.cell? ⟨w1.heap.size, 2, none⟩ = some (.int .i64 m.X.yy) ∧ w3.cell? ⟨w1.heap.size, 3, none⟩ = some (.int .i64 m.X.x) ∧ w3.cell? ⟨w1.heap.size, 4, none⟩ = some (.int .i64 m.X.y) ∧ w3.cell? ⟨w1.heap.size, 5, none⟩ = some (.int .i64 m.X.k) ∧ w3.cell? ⟨w1.heap.size, 6, none⟩ = some (.int .i64 m.Y.xx) ∧ w3.cell? ⟨w1.heap.size, 7, none⟩ = some (.int .i64 m.Y.xy) ∧ w3.cell? ⟨w1.heap.size, 8, none⟩ = some (.int .i64 m.Y.yy) ∧ w3.cell? ⟨w1.heap.size, 9, none⟩ = some (.int .i64 m.Y.x) ∧ w3.cell? ⟨w1.heap.size, 10, none⟩ = some (.int .i64 m.Y.y) ∧ w3.cell? ⟨w1.heap.size, 11, none⟩ = some (.int .i64 m.Y.k))) := hmc
  clear hw3 ha hmc hr2 hg2 hgm d0 d1 d2 d3 d4 d5 d6 d7 d8 d9 d10 d11
  go_wp2_with (rw [show ((((((w2.setCell ⟨w1.heap.size, 6, none⟩ (.int .i64 q1)).setCell ⟨w1.heap.size, 7, none⟩ (.int .i64 q2)).setCell ⟨w1.heap.size, 8, none⟩ (.int .i64 q3)).setCell ⟨w1.heap.size, 9, none⟩ (.int .i64 q4)).setCell ⟨w1.heap.size, 10, none⟩ (.int .i64 q5)).setCell ⟨w1.heap.size, 11, none⟩ (.int .i64 q6)) = w3 from HW3.out])
  clear c0 c1 c2 c3 c4 c5 c6 c7 c8 c9 c10 c11 f6 f7 f8 f9 f10 f11
  go_loopw [4] (fun i wr => ∃ j : Nat, j ≤ 9 ∧ i = .int .i64 j ∧ (∃ m : M.Mc, (wr.cell? ⟨w1.heap.size, 0, none⟩ = some (.int .i64 m.X.xx) ∧ wr.cell? ⟨w1.heap.size, 1, none⟩ = some (.int .i64 m.X.xy) ∧ wr.cell? ⟨w1.heap.size, 2, none⟩ = some (.int .i64 m.X.yy) ∧ wr.cell? ⟨w1.heap.size, 3, none⟩ = some (.int .i64 m.X.x) ∧ wr.cell? ⟨w1.heap.size, 4, none⟩ = some (.int .i64 m.X.y) ∧ wr.cell? ⟨w1.heap.size, 5, none⟩ = some (.int .i64 m.X.k) ∧ wr.cell? ⟨w1.heap.size, 6, none⟩ = some (.int .i64 m.Y.xx) ∧ wr.cell? ⟨w1.heap.size, 7, none⟩ = some (.int .i64 m.Y.xy) ∧ wr.cell? ⟨w1.heap.size, 8, none⟩ = some (.int .i64 m.Y.yy) ∧ wr.cell? ⟨w1.heap.size, 9, none⟩ = some (.int .i64 m.Y.x) ∧ wr.cell? ⟨w1.heap.size, 10, none⟩ = some (.int .i64 m.Y.y) ∧ wr.cell? ⟨w1.heap.size, 11, none⟩ = some (.int .i64 m.Y.k))) ∧ (∀ j, wr.frozen? ⟨w1.heap.size, j, none⟩ = false) ∧ (∀ j, j < 12 → wr.cell? ⟨w.heap.size, j, none⟩ = some (.int .i64 0) ∧ wr.frozen? ⟨w.heap.size, j, none⟩ = false) ∧ Rd w0 R a len cap wr ∧ w.grownBy wr (some R) ∧ w1.heap.size < wr.heap.size) (fun i _ => 9 - (intOf i).toNat)
  case atStart => exact ⟨0, by omega, rfl, HMC.out, HF3.out, HZ3.out, HR3.out, HG3.out, by omega⟩
  case round =>
    obtain ⟨j, hj, rfl, ⟨m, c0, c1, c2, c3, c4, c5, c6, c7, c8, c9, c10, c11⟩, hf, hzz, hr, hg, hsz⟩ := hrel
    have HFr : Hid (∀ j, wr.frozen? ⟨w1.heap.size, j, none⟩ = false) := hf
    have HZr : Hid (∀ j, j < 12 → wr.cell? ⟨w.heap.size, j, none⟩ = some (.int .i64 0) ∧ wr.frozen? ⟨w.heap.size, j, none⟩ = false) := hzz
    have HRr : Hid (Rd w0 R a len cap wr) := hr
    have HGr : Hid (w.grownBy wr (some R)) := hg
    have CM := specMachineOk_any m
    clear hf hzz hr hg HMC HF3 HZ3 HR3 HG3
    obtain ⟨⟨a1, b1, e1, d1, f1, k1⟩, ⟨a2, b2, e2, d2, f2, k2⟩⟩ := m
    dsimp only [mcv] at c0 c1 c2 c3 c4 c5 c6 c7 c8 c9 c10 c11 CM
    by_cases hlt : j < 9
    · have hI : (j : Int) < 9 := by omega
      generalize M.Mc.ok ⟨⟨a1, b1, e1, d1, f1, k1⟩, ⟨a2, b2, e2, d2, f2, k2⟩⟩ = ok at CM
      cases ok with
      | true =>
        go_wp2_with fail
        refine (CM _).mono ?_
        rintro e w4 ⟨rfl, hb4⟩
        have HR4 : Hid (Rd w0 R a len cap w4) := HRr.out.grow hb4
        have HG4 : Hid (w.grownBy w4 (some R)) := grown_below HGr.out hb4
        have hs4 : wr.heap.size ≤ w4.heap.size := hb4.size
        have HZ4 : Hid (∀ j, j < 12 → w4.cell? ⟨w.heap.size, j, none⟩ = some (.int .i64 0) ∧ w4.frozen? ⟨w.heap.size, j, none⟩ = false) := fun j hj => ⟨(hb4.cell (p := ⟨w.heap.size, j, none⟩) (by show w.heap.size < _; omega)).trans (HZr.out j hj).1, (frozen_kept hb4 (show w.heap.size < _ by omega)).trans (HZr.out j hj).2⟩
        have HF4 : Hid (∀ j, w4.frozen? ⟨w1.heap.size, j, none⟩ = false) := fun j => (frozen_kept hb4 hsz).trans (HFr.out j)
        have x0 : w4.cell? ⟨w1.heap.size, 0, none⟩ = some (.int .i64 a1) := (hb4.cell (p := ⟨w1.heap.size, 0, none⟩) hsz).trans c0
        have x1 : w4.cell? ⟨w1.heap.size, 1, none⟩ = some (.int .i64 b1) := (hb4.cell (p := ⟨w1.heap.size, 1, none⟩) hsz).trans c1
        have x2 : w4.cell? ⟨w1.heap.size, 2, none⟩ = some (.int .i64 e1) := (hb4.cell (p := ⟨w1.heap.size, 2, none⟩) hsz).trans c2
        have x3 : w4.cell? ⟨w1.heap.size, 3, none⟩ = some (.int .i64 d1) := (hb4.cell (p := ⟨w1.heap.size, 3, none⟩) hsz).trans c3
        have x4 : w4.cell? ⟨w1.heap.size, 4, none⟩ = some (.int .i64 f1) := (hb4.cell (p := ⟨w1.heap.size, 4, none⟩) hsz).trans c4
        have x5 : w4.cell? ⟨w1.heap.size, 5, none⟩ = some (.int .i64 k1) := (hb4.cell (p := ⟨w1.heap.size, 5, none⟩) hsz).trans c5
        have x6 : w4.cell? ⟨w1.heap.size, 6, none⟩ = some (.int .i64 a2) := (hb4.cell (p := ⟨w1.heap.size, 6, none⟩) hsz).trans c6
        have x7 : w4.cell? ⟨w1.heap.size, 7, none⟩ = some (.int .i64 b2) := (hb4.cell (p := ⟨w1.heap.size, 7, none⟩) hsz).trans c7
        have x8 : w4.cell? ⟨w1.heap.size, 8, none⟩ = some (.int .i64 e2) := (hb4.cell (p := ⟨w1.heap.size, 8, none⟩) hsz).trans c8
        have x9 : w4.cell? ⟨w1.heap.size, 9, none⟩ = some (.int .i64 d2) := (hb4.cell (p := ⟨w1.heap.size, 9, none⟩) hsz).trans c9
        have x10 : w4.cell? ⟨w1.heap.size, 10, none⟩ = some (.int .i64 f2) := (hb4.cell (p := ⟨w1.heap.size, 10, none⟩) hsz).trans c10
        have x11 : w4.cell? ⟨w1.heap.size, 11, none⟩ = some (.int .i64 k2) := (hb4.cell (p := ⟨w1.heap.size, 11, none⟩) hsz).trans c11
        clear hb4 c0 c1 c2 c3 c4 c5 c6 c7 c8 c9 c10 c11
        have s0 := (HZ4.out 0 (by omega)).1
        have t0 := (HZ4.out 0 (by omega)).2
        have s1 := (HZ4.out 1 (by omega)).1
        have t1 := (HZ4.out 1 (by omega)).2
        have s2 := (HZ4.out 2 (by omega)).1
        have t2 := (HZ4.out 2 (by omega)).2
        have s3 := (HZ4.out 3 (by omega)).1
        have t3 := (HZ4.out 3 (by omega)).2
        have s4 := (HZ4.out 4 (by omega)).1
        have t4 := (HZ4.out 4 (by omega)).2
        have s5 := (HZ4.out 5 (by omega)).1
        have t5 := (HZ4.out 5 (by omega)).2
        have s6 := (HZ4.out 6 (by omega)).1
        have t6 := (HZ4.out 6 (by omega)).2
        have s7 := (HZ4.out 7 (by omega)).1
        have t7 := (HZ4.out 7 (by omega)).2
        have s8 := (HZ4.out 8 (by omega)).1
        have t8 := (HZ4.out 8 (by omega)).2
        have s9 := (HZ4.out 9 (by omega)).1
        have t9 := (HZ4.out 9 (by omega)).2
        have s10 := (HZ4.out 10 (by omega)).1
        have t10 := (HZ4.out 10 (by omega)).2
        have s11 := (HZ4.out 11 (by omega)).1
        have t11 := (HZ4.out 11 (by omega)).2
        obtain ⟨wz, hwz⟩ : ∃ u, u = sets w4 w.heap.size 0 [.int .i64 a1, .int .i64 b1, .int .i64 e1, .int .i64 d1, .int .i64 f1, .int .i64 k1, .int .i64 a2, .int .i64 b2, .int .i64 e2, .int .i64 d2, .int .i64 f2, .int .i64 k2] := ⟨_, rfl⟩
        have ha := sets_at w.heap.size [Value.int .i64 a1, .int .i64 b1, .int .i64 e1, .int .i64 d1, .int .i64 f1, .int .i64 k1, .int .i64 a2, .int .i64 b2, .int .i64 e2, .int .i64 d2, .int .i64 f2, .int .i64 k2] w4 0 (fun j hj => by
          match j, hj with
          | 0, _ => exact ⟨_, s0⟩
          | 1, _ => exact ⟨_, s1⟩
          | 2, _ => exact ⟨_, s2⟩
          | 3, _ => exact ⟨_, s3⟩
          | 4, _ => exact ⟨_, s4⟩
          | 5, _ => exact ⟨_, s5⟩
          | 6, _ => exact ⟨_, s6⟩
          | 7, _ => exact ⟨_, s7⟩
          | 8, _ => exact ⟨_, s8⟩
          | 9, _ => exact ⟨_, s9⟩
          | 10, _ => exact ⟨_, s10⟩
          | 11, _ => exact ⟨_, s11⟩)
        rw [← hwz] at ha
        have z0 : wz.cell? ⟨w.heap.size, 0, none⟩ = some (.int .i64 a1) := by simpa using ha 0 _ rfl
        have z1 : wz.cell? ⟨w.heap.size, 1, none⟩ = some (.int .i64 b1) := by simpa using ha 1 _ rfl
        have z2 : wz.cell? ⟨w.heap.size, 2, none⟩ = some (.int .i64 e1) := by simpa using ha 2 _ rfl
        have z3 : wz.cell? ⟨w.heap.size, 3, none⟩ = some (.int .i64 d1) := by simpa using ha 3 _ rfl
        have z4 : wz.cell? ⟨w.heap.size, 4, none⟩ = some (.int .i64 f1) := by simpa using ha 4 _ rfl
        have z5 : wz.cell? ⟨w.heap.size, 5, none⟩ = some (.int .i64 k1) := by simpa using ha 5 _ rfl
        have z6 : wz.cell? ⟨w.heap.size, 6, none⟩ = some (.int .i64 a2) := by simpa using ha 6 _ rfl
        have z7 : wz.cell? ⟨w.heap.size, 7, none⟩ = some (.int .i64 b2) := by simpa using ha 7 _ rfl
        have z8 : wz.cell? ⟨w.heap.size, 8, none⟩ = some (.int .i64 e2) := by simpa using ha 8 _ rfl
        have z9 : wz.cell? ⟨w.heap.size, 9, none⟩ = some (.int .i64 d2) := by simpa using ha 9 _ rfl
        have z10 : wz.cell? ⟨w.heap.size, 10, none⟩ = some (.int .i64 f2) := by simpa using ha 10 _ rfl
        have z11 : wz.cell? ⟨w.heap.size, 11, none⟩ = some (.int .i64 k2) := by simpa using ha 11 _ rfl
        have HRz : Hid (Rd w0 R a len cap wz) := by show Rd _ _ _ _ _ _; rw [hwz]; exact Rd.sets (by omega) (by omega) _ _ _ HR4.out
        have HGz : Hid (w.grownBy wz (some R)) := by show World.grownBy _ _ _; rw [hwz]; exact grown_sets HG4.out (Nat.le_refl _) _ _
        have HWz : Hid (sets w4 w.heap.size 0 [.int .i64 a1, .int .i64 b1, .int .i64 e1, .int .i64 d1, .int .i64 f1, .int .i64 k1, .int .i64 a2, .int .i64 b2, .int .i64 e2, .int .i64 d2, .int .i64 f2, .int .i64 k2] = wz) := hwz.symm
        clear hwz ha
        go_wp2_with (rw [show ((((((((((((w4.setCell ⟨w.heap.size, 0, none⟩ (.int .i64 a1)).setCell ⟨w.heap.size, 1, none⟩ (.int .i64 b1)).setCell ⟨w.heap.size, 2, none⟩ (.int .i64 e1)).setCell ⟨w.heap.size, 3, none⟩ (.int .i64 d1)).setCell ⟨w.heap.size, 4, none⟩ (.int .i64 f1)).setCell ⟨w.heap.size, 5, none⟩ (.int .i64 k1)).setCell ⟨w.heap.size, 6, none⟩ (.int .i64 a2)).setCell ⟨w.heap.size, 7, none⟩ (.int .i64 b2)).setCell ⟨w.heap.size, 8, none⟩ (.int .i64 e2)).setCell ⟨w.heap.size, 9, none⟩ (.int .i64 d2)).setCell ⟨w.heap.size, 10, none⟩ (.int .i64 f2)).setCell ⟨w.heap.size, 11, none⟩ (.int .i64 k2)) = wz from HWz.out])
        refine bodyPost_ret (v := .agg #[.int .i64 a1, .int .i64 b1, .int .i64 e1, .int .i64 d1, .int .i64 f1, .int .i64 k1, .int .i64 a2, .int .i64 b2, .int .i64 e2, .int .i64 d2, .int .i64 f2, .int .i64 k2]) (by simp [results, Tryz.results27, go_sem, z0, z1, z2, z3, z4, z5, z6, z7, z8, z9, z10, z11]) rfl ⟨⟨⟨a1, b1, e1, d1, f1, k1⟩, ⟨a2, b2, e2, d2, f2, k2⟩⟩, rfl, HRz.out, HGz.out⟩
      | false =>
        go_wp2_with fail
        refine (CM _).mono ?_
        rintro e w4 ⟨rfl, hb4⟩
        have HR4 : Hid (Rd w0 R a len cap w4) := HRr.out.grow hb4
        have HG4 : Hid (w.grownBy w4 (some R)) := grown_below HGr.out hb4
        have hs4 : wr.heap.size ≤ w4.heap.size := hb4.size
        have HZ4 : Hid (∀ j, j < 12 → w4.cell? ⟨w.heap.size, j, none⟩ = some (.int .i64 0) ∧ w4.frozen? ⟨w.heap.size, j, none⟩ = false) := fun j hj => ⟨(hb4.cell (p := ⟨w.heap.size, j, none⟩) (by show w.heap.size < _; omega)).trans (HZr.out j hj).1, (frozen_kept hb4 (show w.heap.size < _ by omega)).trans (HZr.out j hj).2⟩
        have HF4 : Hid (∀ j, w4.frozen? ⟨w1.heap.size, j, none⟩ = false) := fun j => (frozen_kept hb4 hsz).trans (HFr.out j)
        have x0 : w4.cell? ⟨w1.heap.size, 0, none⟩ = some (.int .i64 a1) := (hb4.cell (p := ⟨w1.heap.size, 0, none⟩) hsz).trans c0
        have x1 : w4.cell? ⟨w1.heap.size, 1, none⟩ = some (.int .i64 b1) := (hb4.cell (p := ⟨w1.heap.size, 1, none⟩) hsz).trans c1
        have x2 : w4.cell? ⟨w1.heap.size, 2, none⟩ = some (.int .i64 e1) := (hb4.cell (p := ⟨w1.heap.size, 2, none⟩) hsz).trans c2
        have x3 : w4.cell? ⟨w1.heap.size, 3, none⟩ = some (.int .i64 d1) := (hb4.cell (p := ⟨w1.heap.size, 3, none⟩) hsz).trans c3
        have x4 : w4.cell? ⟨w1.heap.size, 4, none⟩ = some (.int .i64 f1) := (hb4.cell (p := ⟨w1.heap.size, 4, none⟩) hsz).trans c4
        have x5 : w4.cell? ⟨w1.heap.size, 5, none⟩ = some (.int .i64 k1) := (hb4.cell (p := ⟨w1.heap.size, 5, none⟩) hsz).trans c5
        have x6 : w4.cell? ⟨w1.heap.size, 6, none⟩ = some (.int .i64 a2) := (hb4.cell (p := ⟨w1.heap.size, 6, none⟩) hsz).trans c6
        have x7 : w4.cell? ⟨w1.heap.size, 7, none⟩ = some (.int .i64 b2) := (hb4.cell (p := ⟨w1.heap.size, 7, none⟩) hsz).trans c7
        have x8 : w4.cell? ⟨w1.heap.size, 8, none⟩ = some (.int .i64 e2) := (hb4.cell (p := ⟨w1.heap.size, 8, none⟩) hsz).trans c8
        have x9 : w4.cell? ⟨w1.heap.size, 9, none⟩ = some (.int .i64 d2) := (hb4.cell (p := ⟨w1.heap.size, 9, none⟩) hsz).trans c9
        have x10 : w4.cell? ⟨w1.heap.size, 10, none⟩ = some (.int .i64 f2) := (hb4.cell (p := ⟨w1.heap.size, 10, none⟩) hsz).trans c10
        have x11 : w4.cell? ⟨w1.heap.size, 11, none⟩ = some (.int .i64 k2) := (hb4.cell (p := ⟨w1.heap.size, 11, none⟩) hsz).trans c11
        clear hb4 c0 c1 c2 c3 c4 c5 c6 c7 c8 c9 c10 c11
        have g0 := HF4.out 0
        have g1 := HF4.out 1
        have g2 := HF4.out 2
        have g3 := HF4.out 3
        have g4 := HF4.out 4
        have g5 := HF4.out 5
        have g6 := HF4.out 6
        have g7 := HF4.out 7
        have g8 := HF4.out 8
        have g9 := HF4.out 9
        have g10 := HF4.out 10
        have g11 := HF4.out 11
        obtain ⟨w5, hw5⟩ : ∃ u, u = sets w4 w1.heap.size 0 [.int .i64 0, .int .i64 0, .int .i64 0, .int .i64 0, .int .i64 1, .int .i64 0, .int .i64 0, .int .i64 0, .int .i64 0, .int .i64 1, .int .i64 ((j : Int) + 1), .int .i64 0] := ⟨_, rfl⟩
        have ha := sets_at w1.heap.size [Value.int .i64 0, .int .i64 0, .int .i64 0, .int .i64 0, .int .i64 1, .int .i64 0, .int .i64 0, .int .i64 0, .int .i64 0, .int .i64 1, .int .i64 ((j : Int) + 1), .int .i64 0] w4 0 (fun j hj => by
          match j, hj with
          | 0, _ => exact ⟨_, x0⟩
          | 1, _ => exact ⟨_, x1⟩
          | 2, _ => exact ⟨_, x2⟩
          | 3, _ => exact ⟨_, x3⟩
          | 4, _ => exact ⟨_, x4⟩
          | 5, _ => exact ⟨_, x5⟩
          | 6, _ => exact ⟨_, x6⟩
          | 7, _ => exact ⟨_, x7⟩
          | 8, _ => exact ⟨_, x8⟩
          | 9, _ => exact ⟨_, x9⟩
          | 10, _ => exact ⟨_, x10⟩
          | 11, _ => exact ⟨_, x11⟩)
        rw [← hw5] at ha
        have HMC5 : Hid (∃ m : M.Mc, (w5.cell? ⟨w1.heap.size, 0, none⟩ = some (.int .i64 m.X.xx) ∧ w5.cell? ⟨w1.heap.size, 1, none⟩ = some (.int .i64 m.X.xy) ∧ w5.cell? ⟨w1.heap.size, 2, none⟩ = some (.int .i64 m.X.yy) ∧ w5.cell? ⟨w1.heap.size, 3, none⟩ = some (.int .i64 m.X.x) ∧ w5.cell? ⟨w1.heap.size, 4, none⟩ = some (.int .i64 m.X.y) ∧ w5.cell? ⟨w1.heap.size, 5, none⟩ = some (.int .i64 m.X.k) ∧ w5.cell? ⟨w1.heap.size, 6, none⟩ = some (.int .i64 m.Y.xx) ∧ w5.cell? ⟨w1.heap.size, 7, none⟩ = some (.int .i64 m.Y.xy) ∧ w5.cell? ⟨w1.heap.size, 8, none⟩ = some (.int .i64 m.Y.yy) ∧ w5.cell? ⟨w1.heap.size, 9, none⟩ = some (.int .i64 m.Y.x) ∧ w5.cell? ⟨w1.heap.size, 10, none⟩ = some (.int .i64 m.Y.y) ∧ w5.cell? ⟨w1.heap.size, 11, none⟩ = some (.int .i64 m.Y.k))) := ⟨⟨⟨0, 0, 0, 0, 1, 0⟩, ⟨0, 0, 0, 1, (j : Int) + 1, 0⟩⟩, by simpa using ha 0 _ rfl, by simpa using ha 1 _ rfl, by simpa using ha 2 _ rfl, by simpa using ha 3 _ rfl, by simpa using ha 4 _ rfl, by simpa using ha 5 _ rfl, by simpa using ha 6 _ rfl, by simpa using ha 7 _ rfl, by simpa using ha 8 _ rfl, by simpa using ha 9 _ rfl, by simpa using ha 10 _ rfl, by simpa using ha 11 _ rfl⟩
        have HR5 : Hid (Rd w0 R a len cap w5) := by show Rd _ _ _ _ _ _; rw [hw5]; exact Rd.sets (by omega) (by omega) _ _ _ HR4.out
        have HG5 : Hid (w.grownBy w5 (some R)) := by show World.grownBy _ _ _; rw [hw5]; exact grown_sets HG4.out (by omega) _ _
        have HZ5 : Hid (∀ j, j < 12 → w5.cell? ⟨w.heap.size, j, none⟩ = some (.int .i64 0) ∧ w5.frozen? ⟨w.heap.size, j, none⟩ = false) := fun j hj => by rw [hw5]; exact ⟨(sets_far _ (show w.heap.size ≠ w1.heap.size by omega) _ _ _).trans (HZ4.out j hj).1, (sets_frozen _ _ _ _ _).trans (HZ4.out j hj).2⟩
        have HF5 : Hid (∀ j, w5.frozen? ⟨w1.heap.size, j, none⟩ = false) := fun j => by rw [hw5, sets_frozen]; exact HF4.out j
        have HS5 : Hid (w1.heap.size < w5.heap.size) := by show _ < _; rw [hw5, sets_size]; omega
        have HW5 : Hid (sets w4 w1.heap.size 0 [.int .i64 0, .int .i64 0, .int .i64 0, .int .i64 0, .int .i64 1, .int .i64 0, .int .i64 0, .int .i64 0, .int .i64 0, .int .i64 1, .int .i64 ((j : Int) + 1), .int .i64 0] = w5) := hw5.symm
        clear hw5 ha
        go_wp2_with (rw [show ((((((((((((w4.setCell ⟨w1.heap.size, 0, none⟩ (.int .i64 0)).setCell ⟨w1.heap.size, 1, none⟩ (.int .i64 0)).setCell ⟨w1.heap.size, 2, none⟩ (.int .i64 0)).setCell ⟨w1.heap.size, 3, none⟩ (.int .i64 0)).setCell ⟨w1.heap.size, 4, none⟩ (.int .i64 1)).setCell ⟨w1.heap.size, 5, none⟩ (.int .i64 0)).setCell ⟨w1.heap.size, 6, none⟩ (.int .i64 0)).setCell ⟨w1.heap.size, 7, none⟩ (.int .i64 0)).setCell ⟨w1.heap.size, 8, none⟩ (.int .i64 0)).setCell ⟨w1.heap.size, 9, none⟩ (.int .i64 1)).setCell ⟨w1.heap.size, 10, none⟩ (.int .i64 ((j : Int) + 1))).setCell ⟨w1.heap.size, 11, none⟩ (.int .i64 0)) = w5 from HW5.out])
        go_roundw
        case rel => exact ⟨j + 1, by omega, by go_num, HMC5.out, HF5.out, HZ5.out, HR5.out, HG5.out, HS5.out⟩
        case measure => simp [intOf]; omega
    · have hj9 : j = 9 := by omega
      subst hj9
      have s0 := (HZr.out 0 (by omega)).1
      have t0 := (HZr.out 0 (by omega)).2
      have s1 := (HZr.out 1 (by omega)).1
      have t1 := (HZr.out 1 (by omega)).2
      have s2 := (HZr.out 2 (by omega)).1
      have t2 := (HZr.out 2 (by omega)).2
      have s3 := (HZr.out 3 (by omega)).1
      have t3 := (HZr.out 3 (by omega)).2
      have s4 := (HZr.out 4 (by omega)).1
      have t4 := (HZr.out 4 (by omega)).2
      have s5 := (HZr.out 5 (by omega)).1
      have t5 := (HZr.out 5 (by omega)).2
      have s6 := (HZr.out 6 (by omega)).1
      have t6 := (HZr.out 6 (by omega)).2
      have s7 := (HZr.out 7 (by omega)).1
      have t7 := (HZr.out 7 (by omega)).2
      have s8 := (HZr.out 8 (by omega)).1
      have t8 := (HZr.out 8 (by omega)).2
      have s9 := (HZr.out 9 (by omega)).1
      have t9 := (HZr.out 9 (by omega)).2
      have s10 := (HZr.out 10 (by omega)).1
      have t10 := (HZr.out 10 (by omega)).2
      have s11 := (HZr.out 11 (by omega)).1
      have t11 := (HZr.out 11 (by omega)).2
      obtain ⟨wz, hwz⟩ : ∃ u, u = sets wr w.heap.size 0 [.int .i64 a1, .int .i64 b1, .int .i64 e1, .int .i64 d1, .int .i64 f1, .int .i64 k1, .int .i64 a2, .int .i64 b2, .int .i64 e2, .int .i64 d2, .int .i64 f2, .int .i64 k2] := ⟨_, rfl⟩
      have ha := sets_at w.heap.size [Value.int .i64 a1, .int .i64 b1, .int .i64 e1, .int .i64 d1, .int .i64 f1, .int .i64 k1, .int .i64 a2, .int .i64 b2, .int .i64 e2, .int .i64 d2, .int .i64 f2, .int .i64 k2] wr 0 (fun j hj => by
        match j, hj with
        | 0, _ => exact ⟨_, s0⟩
        | 1, _ => exact ⟨_, s1⟩
        | 2, _ => exact ⟨_, s2⟩
        | 3, _ => exact ⟨_, s3⟩
        | 4, _ => exact ⟨_, s4⟩
        | 5, _ => exact ⟨_, s5⟩
        | 6, _ => exact ⟨_, s6⟩
        | 7, _ => exact ⟨_, s7⟩
        | 8, _ => exact ⟨_, s8⟩
        | 9, _ => exact ⟨_, s9⟩
        | 10, _ => exact ⟨_, s10⟩
        | 11, _ => exact ⟨_, s11⟩)
      rw [← hwz] at ha
      have z0 : wz.cell? ⟨w.heap.size, 0, none⟩ = some (.int .i64 a1) := by simpa using ha 0 _ rfl
      have z1 : wz.cell? ⟨w.heap.size, 1, none⟩ = some (.int .i64 b1) := by simpa using ha 1 _ rfl
      have z2 : wz.cell? ⟨w.heap.size, 2, none⟩ = some (.int .i64 e1) := by simpa using ha 2 _ rfl
      have z3 : wz.cell? ⟨w.heap.size, 3, none⟩ = some (.int .i64 d1) := by simpa using ha 3 _ rfl
      have z4 : wz.cell? ⟨w.heap.size, 4, none⟩ = some (.int .i64 f1) := by simpa using ha 4 _ rfl
      have z5 : wz.cell? ⟨w.heap.size, 5, none⟩ = some (.int .i64 k1) := by simpa using ha 5 _ rfl
      have z6 : wz.cell? ⟨w.heap.size, 6, none⟩ = some (.int .i64 a2) := by simpa using ha 6 _ rfl
      have z7 : wz.cell? ⟨w.heap.size, 7, none⟩ = some (.int .i64 b2) := by simpa using ha 7 _ rfl
      have z8 : wz.cell? ⟨w.heap.size, 8, none⟩ = some (.int .i64 e2) := by simpa using ha 8 _ rfl
      have z9 : wz.cell? ⟨w.heap.size, 9, none⟩ = some (.int .i64 d2) := by simpa using ha 9 _ rfl
      have z10 : wz.cell? ⟨w.heap.size, 10, none⟩ = some (.int .i64 f2) := by simpa using ha 10 _ rfl
      have z11 : wz.cell? ⟨w.heap.size, 11, none⟩ = some (.int .i64 k2) := by simpa using ha 11 _ rfl
      have HRz : Hid (Rd w0 R a len cap wz) := by show Rd _ _ _ _ _ _; rw [hwz]; exact Rd.sets (by omega) (by omega) _ _ _ HRr.out
      have HGz : Hid (w.grownBy wz (some R)) := by show World.grownBy _ _ _; rw [hwz]; exact grown_sets HGr.out (Nat.le_refl _) _ _
      have HWz : Hid (sets wr w.heap.size 0 [.int .i64 a1, .int .i64 b1, .int .i64 e1, .int .i64 d1, .int .i64 f1, .int .i64 k1, .int .i64 a2, .int .i64 b2, .int .i64 e2, .int .i64 d2, .int .i64 f2, .int .i64 k2] = wz) := hwz.symm
      clear hwz ha
      go_wp2_with (rw [show ((((((((((((wr.setCell ⟨w.heap.size, 0, none⟩ (.int .i64 a1)).setCell ⟨w.heap.size, 1, none⟩ (.int .i64 b1)).setCell ⟨w.heap.size, 2, none⟩ (.int .i64 e1)).setCell ⟨w.heap.size, 3, none⟩ (.int .i64 d1)).setCell ⟨w.heap.size, 4, none⟩ (.int .i64 f1)).setCell ⟨w.heap.size, 5, none⟩ (.int .i64 k1)).setCell ⟨w.heap.size, 6, none⟩ (.int .i64 a2)).setCell ⟨w.heap.size, 7, none⟩ (.int .i64 b2)).setCell ⟨w.heap.size, 8, none⟩ (.int .i64 e2)).setCell ⟨w.heap.size, 9, none⟩ (.int .i64 d2)).setCell ⟨w.heap.size, 10, none⟩ (.int .i64 f2)).setCell ⟨w.heap.size, 11, none⟩ (.int .i64 k2)) = wz from HWz.out])
      refine bodyPost_ret (v := .agg #[.int .i64 a1, .int .i64 b1, .int .i64 e1, .int .i64 d1, .int .i64 f1, .int .i64 k1, .int .i64 a2, .int .i64 b2, .int .i64 e2, .int .i64 d2, .int .i64 f2, .int .i64 k2]) (by simp [results, Tryz.results27, go_sem, z0, z1, z2, z3, z4, z5, z6, z7, z8, z9, z10, z11]) rfl ⟨⟨⟨a1, b1, e1, d1, f1, k1⟩, ⟨a2, b2, e2, d2, f2, k2⟩⟩, rfl, HRz.out, HGz.out⟩
end Go.Proofs.YtbcfjbkmkknmfaaGreatDoor
namespace Go.Proofs.YtbcfjbkmkknmfaaGreatDoor
open Go.RowKit

theorem Row.below2 {w0 w : World} {a : Option Addr} {len cap : Nat} {zs : List Int} (h : Row .u8 w0 a len cap zs) (hb0 : Below w0.heap.size w0 w) : Row .u8 w a len cap zs := by
  rcases h with h | ⟨x, e, hl, hm, hz, hc, hw⟩
  · exact .inl h
  · exact .inr ⟨x, e, hl, hm, hz, fun i hi => (hb0.cell (p := x.add i) (World.block_lt_of_cell? w0 _ (hc i hi))).trans (hc i hi), hw⟩
theorem two2 {j : Nat} (h : j < 2) : (#[Value.int .i64 0, .int .i64 0] : Array Value)[j]? = some (.int .i64 0) := by
  match j, h with
  | 0, _ => rfl
  | 1, _ => rfl
end Go.Proofs.YtbcfjbkmkknmfaaGreatDoor
namespace Go.Proofs.YtbcfjbkmkknmfaaGreatDoor
open Go.RowKit

theorem M.rest_start {f R g : List Int} {q : Int} {i : Nat} (h : R.length = f.length) : R = M.tab f.length (M.restAt R g q i 0) :=
  M.tab_ext h fun t _ => by unfold M.restAt; rw [if_neg (by omega)]
theorem M.rest_old (R g : List Int) (q : Int) (i j : Nat) : M.restAt R g q i j (i + j) = R.getD (i + j) 0 := by unfold M.restAt; rw [if_neg (by omega)]
theorem M.rest_step {R g : List Int} {q : Int} {N i j : Nat} : (M.tab N (M.restAt R g q i j)).set (i + j) ((R.getD (i + j) 0 + (65537 - q) * g.getD j 0) % 65537) = M.tab N (M.restAt R g q i (j + 1)) := by
  rw [M.tab_set]
  apply M.tab_congr
  intro t _
  unfold M.restAt
  by_cases e : t = i + j
  · subst e
    rw [if_pos rfl, if_pos (by omega), Nat.add_sub_cancel_left]
  · rw [if_neg e]
    by_cases h2 : i ≤ t ∧ t < i + j
    · rw [if_pos h2, if_pos (by omega)]
    · rw [if_neg h2, if_neg (by omega)]
theorem M.mul_bd2 {q y : Int} (q0 : 0 ≤ q) (q1 : q < 65537) (y0 : 0 ≤ y) (y1 : y < 65537) : 0 ≤ (65537 - q) * y ∧ (65537 - q) * y ≤ 4295032832 := by
  refine ⟨Int.mul_nonneg (by omega) y0, ?_⟩
  have h1 : (65537 - q) * y ≤ 65537 * y := Int.mul_le_mul_of_nonneg_right (by omega) y0
  omega
set_option maxHeartbeats 4000000 in
theorem l2Divide_long {a b : Option Addr} {n m c d : Nat} {zs ys : List Int} (w : World) (hz : Sees w a n c zs) (hy : Sees w b m d ys) (ha : M.allEl zs = true) (hb : M.allEl ys = true) (ny : M.neat ys) (hn : n ≤ 128) (h1 : 0 < m) (hmn : m ≤ n) :
    Calls Tryz.prog 47 #[.slice a n c, .slice b m d] w fun e w' => ∃ a1 l1 c1 a2 l2 c2 q r, e = .returned (.tuple #[.slice a1 l1 c1, .slice a2 l2 c2]) ∧ Owns 2 w' w.heap.size a1 l1 c1 q ∧ Owns 2 w' w.heap.size a2 l2 c2 r ∧ M.Div zs ys q r ∧ (∀ x y, a1 = some x → a2 = some y → x.block ≠ y.block) ∧ Below w.heap.size w w' := by
  obtain ⟨b1, o1, rfl, hc1⟩ := hz.at (by omega)
  obtain ⟨b2, o2, rfl, hc2⟩ := hy.at h1
  have l2 : b2 < w.heap.size := World.block_lt_of_cell? w _ (hc2 0 h1)
  have HC2 : Hid (∀ i, i < m → w.cell? ⟨b2, o2 + i, none⟩ = some (.int .i64 (ys.getD i 0))) := hc2
  have HZ : Hid (Sees w (some ⟨b1, o1, none⟩) n c zs) := hz
  have HLz : Hid (zs.length = n) := hz.len
  have HLy : Hid (ys.length = m) := hy.len
  have HA : Hid (M.allEl zs = true) := ha
  have HB : Hid (M.allEl ys = true) := hb
  have gl : ys.getD (m - 1) 0 ≠ 0 := by
    rcases ny with e | e
    · rw [hy.len] at e; omega
    · rw [hy.len] at e; exact e
  have HGL : Hid (ys.getD (m - 1) 0 ≠ 0) := gl
  have HL : Hid ((zs.map (Value.int .i64)).length = n * 1) := by show _ = _; rw [List.length_map, hz.len, Nat.mul_one]
  obtain ⟨i0, hi, hz0, hz1, hz2⟩ := info_parts info_i64
  have HI : Hid (Tryz.prog.info? 2 = some i0 ∧ i0.zero = some (Value.int .i64 0) ∧ i0.size = 1 ∧ i0.bytes = 8) := ⟨hi, hz0, hz1, hz2⟩
  obtain ⟨N, hN⟩ : ∃ N, N = n - m + 1 := ⟨_, rfl⟩
  have hNI : (n : Int) - (m : Int) + 1 = (N : Int) := by omega
  have hNp : (0 : Int) < (n : Int) - (m : Int) + 1 := by omega
  have HN : Hid (N = n - m + 1) := hN
  have HNI : Hid ((n : Int) - (m : Int) + 1 = (N : Int)) := hNI
  clear hz hy ha hb hc1 hc2 hi hz0 hz1 hz2 hN hNI gl ny
  go_enter Tryz.func47, Tryz.ntmps47
  go_wp2_with (at_builtin; refine wpList_append_opt _ rfl (.tmp 12) (.tmp 13) 32 rfl w.heap.size 2 i0 (.int .i64 0) 1 8 Tryz.underlying32 HI.out.1 HI.out.2.1 HI.out.2.2.1 HI.out.2.2.2 rfl (by decide) _ 0 [] rfl (World.ownsRow_made w #[] 0 (Nat.le_refl _) (by unfold maxLen; omega) rfl) (some ⟨b1, o1, none⟩) n c (zs.map (Value.int .i64)) rfl HL.out (fun h => by cases h) (sees_all (HZ.out.below ((Below.refl _ _).alloc (Nat.le_refl _) _))) (ints_int _) (by unfold maxLen; omega) (by omega) (by simp) ?_)
  intro v1 w1 hown hgrow
  have hown' : w1.ownsRow w.heap.size 2 1 v1 n (zs.map (Value.int .i64)) := by simpa using hown
  obtain ⟨ra, rc, rfl, ho1⟩ := Owns.form hown'
  have HO1 : Hid (Owns 2 w1 w.heap.size ra n rc zs) := ho1
  have HB1 : Hid (Below w.heap.size w w1) := ((Below.refl w.heap.size w).alloc (Nat.le_refl _) _).grown hgrow (by simp) (fun j hj => by simp [Value.ownBlock] at hj; omega)
  have hs1 : w.heap.size ≤ w1.heap.size := HB1.out.size
  clear hown hown' hgrow ho1
  go_wp2_with (at_make; refine wpList_make_full _ rfl _ _ 32 rfl w1.heap.size 2 i0 (.int .i64 0) 1 Tryz.underlying32 HI.out.1 HI.out.2.1 HI.out.2.2.1 .i64 .i64 _ _ N rfl rfl HNI.out HNI.out (by rw [HI.out.2.2.2]; have := HN.out; omega) (by unfold maxLen; have := HN.out; omega) (Nat.le_refl _) ?_)
  intro w2 hown2 hg2
  have HO2 : Hid (Owns 2 w2 w1.heap.size (some ⟨w1.heap.size, 0, none⟩) N N (List.replicate N 0)) := by
    show w2.ownsRow _ _ _ _ _ _
    rw [made_ints] at hown2; exact hown2
  have hb2 : Below w1.heap.size w1 w2 := below_grown hg2
  have HR2 : Hid (Owns 2 w2 w.heap.size ra n rc zs) := HO1.out.below hb2
  have HB2 : Hid (Below w.heap.size w w2) := HB1.out.trans (hb2.mono hs1)
  obtain ⟨ga, rfl, hga0, hga1, _, _⟩ := HO1.out.block (by omega)
  have cl : w2.cell? ⟨b2, o2 + (m - 1), none⟩ = some (.int .i64 (ys.getD (m - 1) 0)) := (HB2.out.cell (p := ⟨b2, o2 + (m - 1), none⟩) l2).trans (HC2.out (m - 1) (by omega))
  have HST : Hid (M.DInv zs ys zs (List.replicate N 0) N) := by
    have h := M.dinv_start (g := ys) HA.out
    rw [HLz.out, HLy.out, ← HN.out] at h; exact h
  clear hown2 hg2 hb2
  have hm1 : 1 ≤ m := by omega
  have hmI : (0 : Int) ≤ (m : Int) - 1 := by omega
  have hmI2 : (m : Int) - 1 < (m : Int) := by omega
  generalize hlead : ys.getD (m - 1) 0 = lead at cl
  have HLD : Hid (ys.getD (m - 1) 0 = lead) := hlead
  clear hlead
  go_wp2_with fail
  refine (specInv_any lead _).mono ?_
  rintro e w2 ⟨rfl, rfl⟩
  have HIV : Hid (0 ≤ M.inv lead ∧ M.inv lead < 65537) := by
    show _ ∧ _
    rw [← M.el_iff]
    have h := M.el_at HB.out (m - 1)
    rw [HLD.out] at h
    exact M.el_inv ((M.el_iff _).2 h) (by rw [← HLD.out]; exact HGL.out)
  have iv := HIV.out
  generalize hiv : M.inv lead = iv' at iv
  have HIVE : Hid (M.inv lead = iv') := hiv
  obtain ⟨iv0, iv1⟩ := iv
  clear hiv
  have hnm : (n : Int) - (m : Int) = (N : Int) - 1 := by have := HNI.out; omega
  have HNM : Hid ((n : Int) - (m : Int) = (N : Int) - 1) := hnm
  clear hnm cl
  go_wp2
  go_loopw [9] (fun i wr => ∃ (k : Nat) (R O : List Int), k ≤ N ∧ i = .int .i64 ((k : Int) - 1) ∧ Owns 2 wr w.heap.size (some ⟨ga, 0, none⟩) n rc R ∧ Owns 2 wr w1.heap.size (some ⟨w1.heap.size, 0, none⟩) N N O ∧ M.DInv zs ys R O k ∧ Below w.heap.size w wr) (fun i _ => (intOf i + 1).toNat)
  case atStart => exact ⟨N, zs, List.replicate N 0, Nat.le_refl _, congrArg (Value.int .i64) HNM.out, HR2.out, HO2.out, HST.out, HB2.out⟩
  case round =>
    obtain ⟨k, R, O, hk, rfl, hr3, ho3, hd3, hb3⟩ := hrel
    have HR3 : Hid (Owns 2 wr w.heap.size (some ⟨ga, 0, none⟩) n rc R) := hr3
    have HO3 : Hid (Owns 2 wr w1.heap.size (some ⟨w1.heap.size, 0, none⟩) N N O) := ho3
    have HD3 : Hid (M.DInv zs ys R O k) := hd3
    have HB3 : Hid (Below w.heap.size w wr) := hb3
    clear hr3 ho3 hd3 hb3 HO2 HR2 HB2 HST
    by_cases hk0 : 0 < k
    · obtain ⟨i, rfl⟩ : ∃ i, k = i + 1 := ⟨k - 1, by omega⟩
      have him : i + m ≤ n := by have := HN.out; omega
      rw [show ((i + 1 : Nat) : Int) - 1 = (i : Int) by omega]
      obtain ⟨g', hge, _, _, hcr, hfr⟩ := HR3.out.block (by omega)
      simp only [Option.some.injEq, Addr.mk.injEq, and_true] at hge
      subst hge
      have er := hcr (i + m - 1) (by omega)
      obtain ⟨g2, hge2, _, _, hco, hfo⟩ := HO3.out.block (by omega)
      simp only [Option.some.injEq, Addr.mk.injEq, and_true] at hge2
      have eo := hco i (by omega)
      have fo := hfo i
      rw [← hge2] at eo fo
      have x01 := M.el_at HD3.out.ar (i + m - 1)
      have HQ : Hid (R.getD (i + m - 1) 0 = R.getD (i + ys.length - 1) 0) := by show _ = _; rw [HLy.out]
      generalize hx : R.getD (i + m - 1) 0 = x at er x01
      have HX : Hid (R.getD (i + m - 1) 0 = x) := hx
      obtain ⟨x0, x1⟩ := x01
      obtain ⟨m0, m1⟩ := M.mul_bd x0 x1 iv0 iv1
      have HDS : Hid (M.DInv zs ys (M.tab zs.length (M.restAt R ys (x * iv' % 65537) i ys.length)) (O.set i (x * iv' % 65537)) i) := by
        refine M.dinv_step HB.out (by rw [HLy.out]; omega) (by rw [HLy.out]; exact HGL.out) HD3.out (by rw [HLy.out, HLz.out]; exact him) _ ?_
        rw [HLy.out, HX.out, HLD.out, HIVE.out]
      have HLR : Hid (R.length = zs.length) := HD3.out.lr
      have q0 : 0 ≤ x * iv' % 65537 := Int.emod_nonneg _ (by decide)
      have q1 : x * iv' % 65537 < 65537 := Int.emod_lt_of_pos _ (by decide)
      have hi1 : (i : Int) + (m : Int) - 1 < (n : Int) := by omega
      have hi2 : (0 : Int) ≤ (i : Int) + (m : Int) - 1 := by omega
      have hi3 : (i : Int) < (N : Int) := by omega
      generalize O.getD i 0 = oy at eo
      have hne : ga ≠ w1.heap.size := by omega
      clear hx hcr hfr hco hfo hge2
      generalize hq : x * iv' % 65537 = q at HDS q0 q1
      have HQE : Hid (x * iv' % 65537 = q) := hq
      clear hq
      have HOs : Hid (Owns 2 (wr.setCell ⟨w1.heap.size, i, none⟩ (.int .i64 q)) w1.heap.size (some ⟨w1.heap.size, 0, none⟩) N N (O.set i q)) := HO3.out.set i q
      have HRs : Hid (Owns 2 (wr.setCell ⟨w1.heap.size, i, none⟩ (.int .i64 q)) w.heap.size (some ⟨ga, 0, none⟩) n rc (M.tab n (M.restAt R ys q i 0))) := by
        show Owns _ _ _ _ _ _ _
        rw [← HLz.out, ← M.rest_start HLR.out, HLz.out]
        exact HR3.out.other ⟨w1.heap.size, i, none⟩ (fun x hx => by simp only [Option.some.injEq] at hx; subst hx; exact hne) _
      have HBs : Hid (Below w.heap.size w (wr.setCell ⟨w1.heap.size, i, none⟩ (.int .i64 q))) := HB3.out.setCell hs1 _
      have HAR : Hid (M.allEl R = true) := HD3.out.ar
      go_wp2
      rw [HQE.out]
      go_loopw [11] (fun z wv => ∃ j : Nat, j ≤ m ∧ z = .int .i64 j ∧ Owns 2 wv w.heap.size (some ⟨ga, 0, none⟩) n rc (M.tab n (M.restAt R ys q i j)) ∧ Owns 2 wv w1.heap.size (some ⟨w1.heap.size, 0, none⟩) N N (O.set i q) ∧ Below w.heap.size w wv) (fun z _ => m - (intOf z).toNat)
      case atStart => exact ⟨0, by omega, rfl, HRs.out, HOs.out, HBs.out⟩
      case round =>
        obtain ⟨j, hj, rfl, hr5, ho5, hb5⟩ := hrel
        have HR5 : Hid (Owns 2 wr w.heap.size (some ⟨ga, 0, none⟩) n rc (M.tab n (M.restAt R ys q i j))) := hr5
        have HO5 : Hid (Owns 2 wr w1.heap.size (some ⟨w1.heap.size, 0, none⟩) N N (O.set i q)) := ho5
        have HB5 : Hid (Below w.heap.size w wr) := hb5
        clear hr5 ho5 hb5 HOs HRs HBs
        by_cases hjm : j < m
        · have hik : i + j < n := by omega
          have e2 : wr.cell? ⟨b2, o2 + j, none⟩ = some (.int .i64 (ys.getD j 0)) := (HB5.out.cell (p := ⟨b2, o2 + j, none⟩) l2).trans (HC2.out j hjm)
          obtain ⟨g3, hge3, _, _, hc5, hf5⟩ := HR5.out.block (by omega)
          simp only [Option.some.injEq, Addr.mk.injEq, and_true] at hge3
          subst hge3
          have e3 := hc5 (i + j) hik
          have f3 := hf5 (i + j)
          rw [M.tab_get _ _ _ hik, M.rest_old] at e3
          have HS5 : Hid ((M.tab n (M.restAt R ys q i j)).set (i + j) ((R.getD (i + j) 0 + (65537 - q) * ys.getD j 0) % 65537) = M.tab n (M.restAt R ys q i (j + 1))) := M.rest_step
          have y01 := M.el_at HB.out j
          have v01 := M.el_at HAR.out (i + j)
          generalize ys.getD j 0 = y at e2 y01 HS5
          generalize R.getD (i + j) 0 = v at e3 v01 HS5
          obtain ⟨y0, y1⟩ := y01
          obtain ⟨v0, v1⟩ := v01
          obtain ⟨p0, p1⟩ := M.mul_bd2 q0 q1 y0 y1
          have hJ : (j : Int) < (m : Int) := by omega
          have hK : (i : Int) + (j : Int) < (n : Int) := by omega
          have hK0 : (0 : Int) ≤ (i : Int) + (j : Int) := by omega
          have nb2 : b2 ≠ ga := by omega
          clear hc5 hf5 er eo fo
          go_wp2
          go_region
          go_wp2
          go_roundw
          case rel =>
            refine ⟨j + 1, by omega, by go_num, ?_, ?_, (HB5.out.setCell hga0 _).drew⟩
            · rw [← HS5.out]
              exact World.ownsRow.drew (HR5.out.set (i + j) _)
            · exact World.ownsRow.drew (HO5.out.other ⟨ga, i + j, none⟩ (fun x hx => by simp only [Option.some.injEq] at hx; subst hx; exact fun e => hne e.symm) _)
          case measure => simp [intOf]; omega
        · have hjm' : j = m := by omega
          have HF : Hid (Owns 2 wr w.heap.size (some ⟨ga, 0, none⟩) n rc (M.tab zs.length (M.restAt R ys q i ys.length))) := by
            show Owns _ _ _ _ _ _ _
            have h := HR5.out
            rw [hjm', ← HLy.out] at h
            rw [HLz.out]; exact h
          clear hjm'
          go_wp2
          go_roundw
          case rel => exact ⟨i, _, _, by omega, by go_num, HF.out, HO5.out, HDS.out, HB5.out⟩
          case measure => simp [intOf] <;> omega
    · have hk0' : k = 0 := by omega
      subst hk0'
      have HDE : Hid (M.Div zs ys (M.trim O) (M.trim R)) := M.dinv_end (by rw [HLy.out]; omega) HD3.out
      have hNb : N ≤ 1048576 := by have := HN.out; omega
      go_wp2_with fail
      refine (l2Trim_any _ HO3.out.sees hNb).mono ?_
      rintro e w6 ⟨a6, l6, c6, rfl, ho6, hb6⟩
      have HO6 : Hid (Owns 2 w6 wr.heap.size a6 l6 c6 (M.trim O)) := ho6
      have HR6 : Hid (Owns 2 w6 w.heap.size (some ⟨ga, 0, none⟩) n rc R) := HR3.out.below hb6
      have HB6 : Hid (Below w.heap.size w w6) := HB3.out.trans (hb6.mono HB3.out.size)
      clear ho6 hb6
      go_wp2_with fail
      refine (l2Trim_any _ HR6.out.sees (by omega)).mono ?_
      rintro e w7 ⟨a7, l7, c7, rfl, ho7, hb7⟩
      have HO7 : Hid (Owns 2 w7 w.heap.size a6 l6 c6 (M.trim O)) := (HO6.out.below hb7).mono HB3.out.size
      have HR7 : Hid (Owns 2 w7 w.heap.size a7 l7 c7 (M.trim R)) := ho7.mono HB6.out.size
      have HDI : Hid (∀ x y, a6 = some x → a7 = some y → x.block ≠ y.block) := fun x y hx hy => by
        have h1 := HO6.out.hi x hx; have h2 := ho7.lo y hy; omega
      have HB7 : Hid (Below w.heap.size w w7) := HB6.out.trans (hb7.mono HB6.out.size)
      clear ho7 hb7
      go_wp2
      go_ret2
      exact ⟨a6, l6, c6, a7, l7, c7, _, _, rfl, HO7.out, HR7.out, HDE.out, HDI.out, HB7.out⟩
set_option maxHeartbeats 4000000 in
theorem l2Divide_short {a b : Option Addr} {n m c d : Nat} {zs ys : List Int} (w : World) (hz : Sees w a n c zs) (hy : Sees w b m d ys) (ha : M.allEl zs = true) (nz : M.neat zs) (hn : n ≤ 128) (hm : m ≤ 128) (h1 : 0 < m) (hmn : n < m) :
    Calls Tryz.prog 47 #[.slice a n c, .slice b m d] w fun e w' => ∃ a1 l1 c1 a2 l2 c2 q r, e = .returned (.tuple #[.slice a1 l1 c1, .slice a2 l2 c2]) ∧ Owns 2 w' w.heap.size a1 l1 c1 q ∧ Owns 2 w' w.heap.size a2 l2 c2 r ∧ M.Div zs ys q r ∧ (∀ x y, a1 = some x → a2 = some y → x.block ≠ y.block) ∧ Below w.heap.size w w' := by
  obtain ⟨b2, o2, rfl, hc2⟩ := hy.at h1
  have l2 : b2 < w.heap.size := World.block_lt_of_cell? w _ (hc2 0 h1)
  have HC2 : Hid (∀ i, i < m → w.cell? ⟨b2, o2 + i, none⟩ = some (.int .i64 (ys.getD i 0))) := hc2
  have HZ : Hid (Sees w a n c zs) := hz
  have HD : Hid (M.Div zs ys [] zs) := M.div_short nz ha (by rw [hz.len, hy.len]; exact hmn)
  have HTZ : Hid (M.trim zs = zs) := M.trim_neat nz
  have HL : Hid ((zs.map (Value.int .i64)).length = n * 1) := by show _ = _; rw [List.length_map, hz.len, Nat.mul_one]
  obtain ⟨i0, hi, hz0, hz1, hz2⟩ := info_parts info_i64
  have HI : Hid (Tryz.prog.info? 2 = some i0 ∧ i0.zero = some (Value.int .i64 0) ∧ i0.size = 1 ∧ i0.bytes = 8) := ⟨hi, hz0, hz1, hz2⟩
  have hNp : ¬ (0 : Int) < (n : Int) - (m : Int) + 1 := by omega
  have hneg : ¬ (0 : Int) ≤ (n : Int) - (m : Int) := by omega
  clear hz hy ha nz hc2 hi hz0 hz1 hz2
  go_enter Tryz.func47, Tryz.ntmps47
  go_wp2_with (at_builtin; refine wpList_append_opt _ rfl (.tmp 12) (.tmp 13) 32 rfl w.heap.size 2 i0 (.int .i64 0) 1 8 Tryz.underlying32 HI.out.1 HI.out.2.1 HI.out.2.2.1 HI.out.2.2.2 rfl (by decide) _ 0 [] rfl (World.ownsRow_made w #[] 0 (Nat.le_refl _) (by unfold maxLen; omega) rfl) a n c (zs.map (Value.int .i64)) rfl HL.out HZ.out.no (sees_all (HZ.out.below ((Below.refl _ _).alloc (Nat.le_refl _) _))) (ints_int _) (by unfold maxLen; omega) (by omega) (by simp) ?_)
  intro v1 w1 hown hgrow
  have hown' : w1.ownsRow w.heap.size 2 1 v1 n (zs.map (Value.int .i64)) := by simpa using hown
  obtain ⟨ra, rc, rfl, ho1⟩ := Owns.form hown'
  have HO1 : Hid (Owns 2 w1 w.heap.size ra n rc zs) := ho1
  have HB1 : Hid (Below w.heap.size w w1) := ((Below.refl w.heap.size w).alloc (Nat.le_refl _) _).grown hgrow (by simp) (fun j hj => by simp [Value.ownBlock] at hj; omega)
  have hs1 : w.heap.size ≤ w1.heap.size := HB1.out.size
  clear hown hown' hgrow ho1
  go_wp2_with (at_make; refine wpList_make_full _ rfl _ _ 32 rfl w1.heap.size 2 i0 (.int .i64 0) 1 Tryz.underlying32 HI.out.1 HI.out.2.1 HI.out.2.2.1 .i64 .i64 _ _ 0 rfl rfl (by omega) (by omega) (by rw [HI.out.2.2.2]; omega) (by unfold maxLen; omega) (Nat.le_refl _) ?_)
  intro w2 hown2 hg2
  have HO2 : Hid (Owns 2 w2 w1.heap.size (some ⟨w1.heap.size, 0, none⟩) 0 0 []) := by
    show w2.ownsRow _ _ _ _ _ _
    rw [made_ints] at hown2; exact hown2
  have hb2 : Below w1.heap.size w1 w2 := below_grown hg2
  have HR2 : Hid (Owns 2 w2 w.heap.size ra n rc zs) := HO1.out.below hb2
  have HB2 : Hid (Below w.heap.size w w2) := HB1.out.trans (hb2.mono hs1)
  have cl : w2.cell? ⟨b2, o2 + (m - 1), none⟩ = some (.int .i64 (ys.getD (m - 1) 0)) := (HB2.out.cell (p := ⟨b2, o2 + (m - 1), none⟩) l2).trans (HC2.out (m - 1) (by omega))
  clear hown2 hg2 hb2
  have hm1 : 1 ≤ m := by omega
  have hmI : (0 : Int) ≤ (m : Int) - 1 := by omega
  have hmI2 : (m : Int) - 1 < (m : Int) := by omega
  generalize ys.getD (m - 1) 0 = lead at cl
  go_wp2_with fail
  refine (specInv_any lead _).mono ?_
  rintro e w2 ⟨rfl, rfl⟩
  clear cl
  go_wp2
  refine wp_loop_rounds 1 ?_
  rw [rounds_succ]
  go_wp2_with fail
  refine (l2Trim_any _ HO2.out.sees (by omega)).mono ?_
  rintro e w6 ⟨a6, l6, c6, rfl, ho6, hb6⟩
  have HO6 : Hid (Owns 2 w6 w2.heap.size a6 l6 c6 []) := ho6
  have HR6 : Hid (Owns 2 w6 w.heap.size ra n rc zs) := HR2.out.below hb6
  have HB6 : Hid (Below w.heap.size w w6) := HB2.out.trans (hb6.mono HB2.out.size)
  clear ho6 hb6
  go_wp2_with fail
  refine (l2Trim_any _ HR6.out.sees (by omega)).mono ?_
  rintro e w7 ⟨a7, l7, c7, rfl, ho7, hb7⟩
  rw [HTZ.out] at ho7
  have HO7 : Hid (Owns 2 w7 w.heap.size a6 l6 c6 []) := (HO6.out.below hb7).mono HB2.out.size
  have HR7 : Hid (Owns 2 w7 w.heap.size a7 l7 c7 zs) := ho7.mono HB6.out.size
  have HDI : Hid (∀ x y, a6 = some x → a7 = some y → x.block ≠ y.block) := fun x y hx hy => by
    have h1 := HO6.out.hi x hx; have h2 := ho7.lo y hy; omega
  have HB7 : Hid (Below w.heap.size w w7) := HB6.out.trans (hb7.mono HB6.out.size)
  clear ho7 hb7
  go_wp2
  go_ret2
  exact ⟨a6, l6, c6, a7, l7, c7, _, _, rfl, HO7.out, HR7.out, HD.out, HDI.out, HB7.out⟩
end Go.Proofs.YtbcfjbkmkknmfaaGreatDoor
namespace Go.Proofs.YtbcfjbkmkknmfaaGreatDoor
open Go.RowKit

namespace M
theorem pm_congr {ys ys' : List Int} (h : ∀ i, ys.getD i 0 = ys'.getD i 0) : ∀ (zs : List Int) (i : Nat), pm zs ys i = pm zs ys' i
  | [], _ => rfl
  | c :: r, i => by unfold pm; rw [h i, pm_congr h r (i - 1)]
theorem pm_one (x : Int) : ∀ (zs : List Int) (i : Nat), pm zs [x] i = zs.getD i 0 * x % 65537
  | [], i => by show (0 : Int) = 0 * x % 65537; simp
  | c :: r, i => by
    unfold pm
    by_cases h0 : i = 0
    · subst h0; simp
    · obtain ⟨j, rfl⟩ := Nat.exists_eq_succ_of_ne_zero h0
      rw [if_neg h0]
      have e1 : [x].getD j.succ 0 = 0 := rfl
      have e2 : (c :: r).getD j.succ 0 = r.getD j 0 := by simp [List.getD_eq_getElem?_getD]
      rw [e1, e2, Nat.succ_sub_one, pm_one x r j]; omega
theorem scale_eq (zs : List Int) (x : Int) : pmul zs (trim [x]) = trim (pscale zs x) := by
  refine neat_ext (neat_pmul _ _) (neat_trim _) fun i => ?_
  rw [pmul_getD, getD_trim, pscale_getD, pm_congr (fun i => getD_trim [x] i), pm_one]
end M
theorem seesA_one (v : World) (b : Int) (t : TypeId) : Sees (v.alloc (.cells #[Value.int .i64 b] t)) (some ⟨v.heap.size, 0, none⟩) 1 1 [b] := by
  refine ⟨rfl, Nat.le_refl _, by omega, (fun h => by cases h), .inr ⟨v.heap.size, 0, rfl, fun i hi => ?_⟩⟩
  have h0 : i = 0 := by omega
  subst h0
  rw [World.cell?_alloc_new]; rfl
theorem seesA_two (v : World) (b c : Int) (t : TypeId) : Sees (v.alloc (.cells #[Value.int .i64 b, Value.int .i64 c] t)) (some ⟨v.heap.size, 0, none⟩) 2 2 [b, c] := by
  refine ⟨rfl, Nat.le_refl _, by omega, (fun h => by cases h), .inr ⟨v.heap.size, 0, rfl, fun i hi => ?_⟩⟩
  have h0 : i = 0 ∨ i = 1 := by omega
  rcases h0 with h0 | h0 <;> subst h0 <;> rw [World.cell?_alloc_new] <;> rfl
set_option maxHeartbeats 1000000 in
theorem scale_any {a : Option Addr} {n c : Nat} {zs : List Int} (x : Int) (w : World) (hz : Sees w a n c zs) (ha : M.allEl zs = true) (hn : n ≤ 20000) (x0 : 0 ≤ x) (x1 : x < 65537) :
    Calls Tryz.prog 102 #[.slice a n c, .int .i64 x] w fun e w' => ∃ a' l c', e = .returned (.slice a' l c') ∧ Owns 2 w' w.heap.size a' l c' (M.trim (M.pscale zs x)) ∧ Below w.heap.size w w' := by
  have HZ : Hid (Sees w a n c zs) := hz
  have HA : Hid (M.allEl zs = true) := ha
  have HS : Hid (Sees (w.alloc (.cells #[Value.int .i64 x] 2)) (some ⟨w.heap.size, 0, none⟩) 1 1 [x]) := seesA_one w x _
  have HB : Hid (Below w.heap.size w (w.alloc (.cells #[Value.int .i64 x] 2))) := (Below.refl _ _).alloc (Nat.le_refl _) _
  have HX : Hid (M.allEl (M.trim [x]) = true) := M.all_trim (M.all_cons ⟨x0, x1⟩ rfl)
  have HE : Hid (M.pmul zs (M.trim [x]) = M.trim (M.pscale zs x)) := M.scale_eq zs x
  clear hz ha
  go_enter Tryz.func102, Tryz.ntmps102
  go_wp2_with fail
  refine (l2Trim_any _ HS.out (by omega)).mono ?_
  rintro e w1 ⟨a1, l1, c1, rfl, ho1, hb1⟩
  have hl1 : l1 ≤ 1 := by have h := M.len_trim [x]; rw [ho1.len] at h; exact h
  have HO1 : Hid (Owns 2 w1 w.heap.size a1 l1 c1 (M.trim [x])) := ho1.mono HB.out.size
  have HB1 : Hid (Below w.heap.size w w1) := HB.out.trans (hb1.mono HB.out.size)
  clear ho1 hb1
  go_wp2_with fail
  refine (l2Mul_any _ (HZ.out.below HB1.out) HO1.out.sees HA.out HX.out hn (by omega)).mono ?_
  rintro e w2 ⟨a2, l2, c2, rfl, ho2, hb2⟩
  have HO2 : Hid (Owns 2 w2 w.heap.size a2 l2 c2 (M.trim (M.pscale zs x))) := by show Owns _ _ _ _ _ _ _; rw [← HE.out]; exact ho2.mono HB1.out.size
  have HB2 : Hid (Below w.heap.size w w2) := HB1.out.trans (hb2.mono HB1.out.size)
  clear ho2 hb2
  go_wp2
  go_ret
  exact ⟨a2, l2, c2, rfl, HO2.out, HB2.out⟩
theorem M.turn_pow (g : Int) (k : Nat) : g ^ k % 65537 * g % 65537 = g ^ (k + 1) % 65537 := by
  rw [Int.pow_succ, M.mL]
set_option maxHeartbeats 2000000 in
theorem l6Turn_any {a : Option Addr} {n c : Nat} {zs : List Int} (g : Int) (w : World) (hz : Sees w a n c zs) (ha : M.allEl zs = true) (hn : n ≤ 128) (g0 : 0 ≤ g) (g1 : g < 65537) :
    Calls Tryz.prog 101 #[.slice a n c, .int .i64 g] w fun e w' => ∃ a' l c', e = .returned (.slice a' l c') ∧ Owns 2 w' w.heap.size a' l c' (M.turn zs g) ∧ Below w.heap.size w w' := by
  have HZ : Hid (Sees w a n c zs) := hz
  have HA : Hid (M.allEl zs = true) := ha
  have HL : Hid (zs.length = n) := hz.len
  obtain ⟨i0, hi, hz0, hz1, hz2⟩ := info_parts info_i64
  have HI : Hid (Tryz.prog.info? 2 = some i0 ∧ i0.zero = some (Value.int .i64 0) ∧ i0.size = 1 ∧ i0.bytes = 8) := ⟨hi, hz0, hz1, hz2⟩
  have HT : Hid (∀ k, M.tab k (fun i => zs.getD i 0 * (g ^ i % 65537) % 65537) ++ [zs.getD k 0 * (g ^ k % 65537) % 65537] = M.tab (k + 1) (fun i => zs.getD i 0 * (g ^ i % 65537) % 65537)) := fun k => M.tab_snoc k _
  have HE : Hid (M.trim (M.tab n (fun i => zs.getD i 0 * (g ^ i % 65537) % 65537)) = M.turn zs g) := by show _ = _; unfold M.turn; rw [hz.len]
  generalize hTT : (fun i => zs.getD i 0 * (g ^ i % 65537) % 65537) = TT at HT HE
  have HTT : Hid (∀ k, zs.getD k 0 * (g ^ k % 65537) % 65537 = TT k) := fun k => by rw [← hTT]
  have HP : Hid (∀ k, g ^ k % 65537 * g % 65537 = g ^ (k + 1) % 65537) := M.turn_pow g
  have HP0 : Hid (g ^ 0 % 65537 = 1) := by show _ = _; rw [Int.pow_zero]; rfl
  generalize hPP : (fun k : Nat => g ^ k % 65537) = PP
  have HPP : Hid (∀ k, g ^ k % 65537 = PP k) := fun k => by rw [← hPP]
  have HPB : Hid (∀ k, 0 ≤ PP k ∧ PP k < 65537) := fun k => by rw [← HPP.out k]; omega
  simp only [HPP.out] at HT HTT HP HP0
  clear hz ha hi hz0 hz1 hz2 hTT hPP HPP
  go_enter Tryz.func101, Tryz.ntmps101
  go_wp2
  go_loopw [5, 6, 7] (fun s x i wr => ∃ (k : Nat) (a' : Option Addr) (cap' : Nat), k ≤ n ∧ i = .int .i64 k ∧ x = .int .i64 (PP k) ∧ s = .slice a' k cap' ∧ Owns 2 wr w.heap.size a' k cap' (M.tab k TT) ∧ Below w.heap.size w wr) (fun _ _ i _ => n - (intOf i).toNat)
  case atStart =>
    refine ⟨0, _, _, by omega, rfl, by rw [HP0.out], rfl, ?_, ?_⟩
    · exact World.ownsRow_made w #[] 0 (Nat.le_refl _) (by unfold maxLen; omega) rfl
    · exact (Below.refl _ _).alloc (Nat.le_refl _) _
  case round =>
    obtain ⟨k, a', cap', hk, rfl, rfl, rfl, ho1, hb1⟩ := hrel
    have HO1 : Hid (Owns 2 wr w.heap.size a' k cap' (M.tab k TT)) := ho1
    have HB1 : Hid (Below w.heap.size w wr) := hb1
    clear ho1 hb1
    by_cases hlt : k < n
    · obtain ⟨b1, o1, rfl, hc1⟩ := (HZ.out.below HB1.out).at (by omega)
      have e1 := hc1 k hlt
      have hb := M.el_at HA.out k
      have hI : (k : Int) < (n : Int) := by omega
      have HTk := HTT.out k
      have HSk : Hid (M.tab k TT ++ [TT k] = M.tab (k + 1) TT) := by have := HT.out k; rw [HTk] at this; exact this
      have HPk := HP.out k
      obtain ⟨q0, q1⟩ := HPB.out k
      generalize zs.getD k 0 = z at e1 hb HTk
      generalize hPEq : PP (k + 1) = p' at HPk
      have HPEq := hPEq
      generalize PP k = p at HPk HTk q0 q1
      generalize TT k = tk at HTk HSk
      obtain ⟨z0, z1⟩ := hb
      obtain ⟨m0, m1⟩ := M.mul_bd z0 z1 q0 q1
      obtain ⟨m2, m3⟩ := M.mul_bd q0 q1 g0 g1
      have HTk' : Hid (z * p % 65537 = tk) := HTk
      have HPk' : Hid (p * g % 65537 = p') := HPk
      have HPE : Hid (PP (k + 1) = p') := HPEq
      clear hc1 HTk HPk HPEq hPEq
      go_wp2_with (at_builtin; refine wpList_append_own _ rfl _ _ 32 rfl w.heap.size 2 i0 (.int .i64 0) 1 8 Tryz.underlying32 HI.out.1 HI.out.2.1 HI.out.2.2.1 HI.out.2.2.2 rfl (by decide) _ k ((M.tab k TT).map (Value.int .i64)) rfl (World.ownsRow.alloc HO1.out _) ⟨wr.heap.size, 0, none⟩ 1 1 [.int .i64 (z * p % 65537)] rfl rfl (cell_one _ _ _) (one_int _) (by unfold maxLen; omega) (by omega) (by have := HB1.out.size; simp; omega) ?_)
      intro v' w4 hown hgrow _
      rw [HTk'.out] at hown
      have hown' : w4.ownsRow w.heap.size 2 1 v' (k + 1) ((M.tab (k + 1) TT).map (Value.int .i64)) := by rw [← HSk.out, List.map_append]; exact hown
      obtain ⟨b4, c4, rfl, ho4⟩ := Owns.form hown'
      have HO4 : Hid (Owns 2 w4 w.heap.size b4 (k + 1) c4 (M.tab (k + 1) TT)) := ho4
      have HB4 : Hid (Below w.heap.size w w4) := (HB1.out.alloc HB1.out.size _).grown hgrow (by have := HB1.out.size; simp; omega) HO1.out.row
      clear hown hown' hgrow ho4
      go_wp2
      go_roundw
      case rel => exact ⟨k + 1, b4, c4, by omega, by go_num, by rw [HPE.out, ← HPk'.out], rfl, HO4.out, HB4.out⟩
      case measure => simp [intOf]; omega
    · have hkn : k = n := by omega
      subst hkn
      go_wp2_with fail
      refine (l2Trim_any _ HO1.out.sees (by omega)).mono ?_
      rintro e w2 ⟨a2, l2, c2, rfl, ho2, hb2⟩
      have HO2 : Hid (Owns 2 w2 w.heap.size a2 l2 c2 (M.turn zs g)) := by show Owns _ _ _ _ _ _ _; rw [← HE.out]; exact ho2.mono HB1.out.size
      have HB2 : Hid (Below w.heap.size w w2) := HB1.out.trans (hb2.mono HB1.out.size)
      clear ho2 hb2
      go_wp2
      go_ret
      exact ⟨a2, l2, c2, rfl, HO2.out, HB2.out⟩
end Go.Proofs.YtbcfjbkmkknmfaaGreatDoor
namespace Go.Proofs.YtbcfjbkmkknmfaaGreatDoor
open Go.RowKit

set_option maxHeartbeats 2000000 in
theorem l6Zero_any (N : Nat) (w : World) (h0 : 0 < N) (hN : N ≤ 1000) :
    Calls Tryz.prog 50 #[.int .i64 N] w fun e w' => ∃ a' c', e = .returned (.slice a' (N + 1) c') ∧ Owns 2 w' w.heap.size a' (N + 1) c' (M.zeroL N) ∧ Below w.heap.size w w' := by
  obtain ⟨i0, hi, hz0, hz1, hz2⟩ := info_parts info_i64
  have HE : Hid (((List.replicate (N + 1) (0 : Int)).set 0 65536).set N 1 = M.zeroL N) := rfl
  have hI0 : (0 : Int) < (N : Int) := by omega
  have hI1 : (N : Int) ≤ 1000 := by omega
  have hc0 : (0 : Int) < ((N + 1 : Nat) : Int) := by omega
  have hc1 : (N : Int) < ((N + 1 : Nat) : Int) := by omega
  go_enter Tryz.func50, Tryz.ntmps50
  go_wp2_with (at_make; refine wpList_make_full _ rfl _ _ 32 rfl w.heap.size 2 i0 (.int .i64 0) 1 Tryz.underlying32 hi hz0 hz1 .i64 .i64 _ _ (N + 1) rfl rfl (by omega) (by omega) (by rw [hz2]; omega) (by unfold maxLen; omega) (Nat.le_refl _) ?_)
  intro w1 hown hg
  have HO : Hid (Owns 2 w1 w.heap.size (some ⟨w.heap.size, 0, none⟩) (N + 1) (N + 1) (List.replicate (N + 1) 0)) := by
    show w1.ownsRow _ _ _ _ _ _
    rw [made_ints] at hown; exact hown
  have HB : Hid (Below w.heap.size w w1) := below_grown hg
  obtain ⟨g, hge, -, -, hc, hf⟩ := HO.out.block (by omega)
  simp only [Option.some.injEq, Addr.mk.injEq, and_true] at hge
  have c0 := hc 0 (by omega)
  have f0 := hf 0
  have cN := hc N (by omega)
  have fN := hf N
  rw [← hge] at c0 f0 cN fN
  rw [M.replicate_getD] at c0 cN
  clear hown hg hi hz0 hz1 hz2 hc hf hge
  have HO2 : Hid (Owns 2 ((w1.setCell ⟨w.heap.size, 0, none⟩ (.int .i64 65536)).setCell ⟨w.heap.size, N, none⟩ (.int .i64 1)) w.heap.size (some ⟨w.heap.size, 0, none⟩) (N + 1) (N + 1) (M.zeroL N)) := (HO.out.set 0 65536).set N 1
  have HB2 : Hid (Below w.heap.size w ((w1.setCell ⟨w.heap.size, 0, none⟩ (.int .i64 65536)).setCell ⟨w.heap.size, N, none⟩ (.int .i64 1))) := (HB.out.setCell (Nat.le_refl _) _).setCell (Nat.le_refl _) _
  go_wp2
  go_ret
  exact ⟨_, _, rfl, HO2.out, HB2.out⟩
set_option maxHeartbeats 8000000 in
set_option maxRecDepth 10000 in
theorem l6Rule_any {xa ya : Option Addr} {xl xc yl yc : Nat} {xs ys : List Int} (r : M.Rl) (w : World) (hr : r.ok = true) (hx : Sees w xa xl xc xs) (hy : Sees w ya yl yc ys) (ax : M.allEl xs = true) (ay : M.allEl ys = true) (lx : xl ≤ 100) (ly : yl ≤ 100) :
    Calls Tryz.prog 49 #[rlv r, .slice xa xl xc, .slice ya yl yc] w fun e w' => ∃ a' l c', e = .returned (.slice a' l c') ∧ l ≤ 301 ∧ Owns 2 w' w.heap.size a' l c' (M.rl r xs ys) ∧ Below w.heap.size w w' := by
  obtain ⟨hc0, hc1, hc2, hc3, hc4, hc5⟩ := M.rl_bd hr
  obtain ⟨ra, rb, rc, rd, re, rk⟩ := r
  dsimp only [rlv] at hc0 hc1 hc2 hc3 hc4 hc5 ⊢
  unfold M.rl
  have HXa : Hid (M.allEl xs = true) := ax
  have HYa : Hid (M.allEl ys = true) := ay
  have HXn : Hid (xs.length ≤ 100) := by show _ ≤ _; rw [hx.len]; exact lx
  have HYn : Hid (ys.length ≤ 100) := by show _ ≤ _; rw [hy.len]; exact ly
  have HXl : xl ≤ 20000 := by omega
  have HYl : yl ≤ 20000 := by omega
  have HB0 : Hid (Below w.heap.size w (w.alloc (.cells #[.int .i64 ra, .int .i64 rb, .int .i64 rc, .int .i64 rd, .int .i64 re, .int .i64 rk] 25))) := (Below.refl _ _).alloc (Nat.le_refl _) _
  have HR0 : Hid (Lies (w.alloc (.cells #[.int .i64 ra, .int .i64 rb, .int .i64 rc, .int .i64 rd, .int .i64 re, .int .i64 rk] 25)) w.heap.size [.int .i64 ra, .int .i64 rb, .int .i64 rc, .int .i64 rd, .int .i64 re, .int .i64 rk]) := lies_new _ _ _
  have HX0 : Hid (Sees (w.alloc (.cells #[.int .i64 ra, .int .i64 rb, .int .i64 rc, .int .i64 rd, .int .i64 re, .int .i64 rk] 25)) xa xl xc xs) := hx.below HB0.out
  have HY0 : Hid (Sees (w.alloc (.cells #[.int .i64 ra, .int .i64 rb, .int .i64 rc, .int .i64 rd, .int .i64 re, .int .i64 rk] 25)) ya yl yc ys) := hy.below HB0.out
  clear hr hx hy ax ay
  go_enter Tryz.func49, Tryz.ntmps49
  go_wp2
  generalize w.alloc (.cells #[.int .i64 ra, .int .i64 rb, .int .i64 rc, .int .i64 rd, .int .i64 re, .int .i64 rk] 25) = wq at HB0 HR0 HX0 HY0 ⊢
  have HX : Hid (Sees wq xa xl xc xs) := HX0.out
  have HY : Hid (Sees wq ya yl yc ys) := HY0.out
  have HR : Hid (Lies wq w.heap.size [.int .i64 ra, .int .i64 rb, .int .i64 rc, .int .i64 rd, .int .i64 re, .int .i64 rk]) := HR0.out
  have HBq : Hid (Below w.heap.size w wq) := HB0.out
  clear HB0 HR0 HX0 HY0
  refine wp_region_noPanic ?_
  refine wp_region_held_drew (S := fun W => wq.grownBy W none) (by kernel_rfl) (grown_drew _ _) (fun hHeld => ?_)
  generalize wq.drew = wd0 at hHeld ⊢
  refine wpAnyH_take (i := 0) (v := .slice xa xl xc) rfl (by kernel_rfl) (by kernel_rfl) (by kernel_rfl) (fun _ _ _ h => h) (Or.inl ⟨by kernel_rfl, ?_⟩) (by assumption) ?_
  · intro wq hSq; go_simp
  try simp only [Act.put]
  refine wpAnyH_take (i := 1) (v := .slice xa xl xc) rfl (by kernel_rfl) (by kernel_rfl) (by kernel_rfl) (fun _ _ _ h => h) (Or.inl ⟨by kernel_rfl, ?_⟩) (by assumption) ?_
  · intro wq hSq; go_simp
  try simp only [Act.put]
  refine wpAnyH_take (i := 3) (v := .pointer (some ⟨w.heap.size, 0, none⟩)) rfl (by kernel_rfl) (by kernel_rfl) (by kernel_rfl) (fun _ _ _ h => h) (Or.inl ⟨by kernel_rfl, ?_⟩) (by assumption) ?_
  · intro wq hSq; go_simp
  try simp only [Act.put]
  refine wpAnyH_take (i := 4) (v := .int .i64 ra) rfl (by kernel_rfl) (by kernel_rfl) (by kernel_rfl) (fun _ _ _ h => h) (Or.inl ⟨by kernel_rfl, ?_⟩) (by assumption) ?_
  · intro wp hSp; have c0 : wp.cell? ⟨w.heap.size, 0, none⟩ = some (.int .i64 ra) := (HR.out.grown hSp (by simp)).at 0; go_simp
  try simp only [Act.put]
  refine wpAnyH_ready (rs := [2]) (by kernel_rfl) (by simp) ?_
  refine AllReadyH.cons rfl (fun Kk hK => ?_) AllReadyH.nil
  go_simp
  refine (l2Mul_any _ (HX.out.grownR hHeld (by simp)) (HX.out.grownR hHeld (by simp)) HXa.out HXa.out HXl HXl).mono ?_
  rintro e w3 ⟨ma, ml, mc, rfl, ho3, hb3⟩
  go_simp
  have hS3 : wq.grownBy w3 none := grown_step hHeld hb3
  have HM3 : Hid (Owns 2 w3 wd0.heap.size ma ml mc (M.pmul xs xs)) := ho3
  have hml : ml ≤ 300 := by have h1 := ho3.len; have h2 := M.pmul_len xs xs; have := HXn.out; have := HXn.out; rw [show (M.pmul xs xs) = M.pmul xs xs from rfl] at h1; omega
  refine hK.out _ _ hS3 (fun _ => ?_)
  clear hK Kk hb3
  clear ho3
  try simp only [Act.put]
  refine wpAnyH_ready (rs := [5]) (by kernel_rfl) (by simp) ?_
  refine AllReadyH.cons rfl (fun Kk hK => ?_) AllReadyH.nil
  go_simp
  refine (scale_any _ _ HM3.out.sees (M.all_pmul _ _) (by omega) hc0.1 hc0.2).mono ?_
  rintro e w4 ⟨ka, kl, kc, rfl, ho4, hb4⟩
  go_simp
  have hS4 : wq.grownBy w4 none := grown_step hS3 hb4
  have HK4 : Hid (Owns 2 w4 w3.heap.size ka kl kc (M.trim (M.pscale (M.pmul xs xs) ra))) := ho4
  have hkl : kl ≤ 300 := by have h1 := ho4.len; have h2 := M.len_pscale_trim (M.pmul xs xs) ra; have h3 := HM3.out.len; omega
  refine hK.out _ _ hS4 (fun _ => ?_)
  clear hK Kk hb4
  clear ho4
  try simp only [Act.put]
  refine wpAnyH_take (i := 6) (v := .slice ka kl kc) rfl (by kernel_rfl) (by kernel_rfl) (by kernel_rfl) (fun _ _ _ h => h) (Or.inl ⟨by kernel_rfl, ?_⟩) (by assumption) ?_
  · intro wq hSq; go_simp
  try simp only [Act.put]
  refine wpAnyH_done (by kernel_rfl) ?_ _
  refine NoPanic.normal ?_
  go_simp
  have HX2 : Hid (Sees w4 xa xl xc xs) := HX.out.grownR hS4 (by simp)
  have HY2 : Hid (Sees w4 ya yl yc ys) := HY.out.grownR hS4 (by simp)
  have HR2 : Hid (Lies w4 w.heap.size [.int .i64 ra, .int .i64 rb, .int .i64 rc, .int .i64 rd, .int .i64 re, .int .i64 rk]) := HR.out.grown hS4 (by simp)
  have HB2 : Hid (Below w.heap.size w w4) := HBq.out.grown hS4 HBq.out.size (by simp)
  have HS2 : Hid (Owns 2 w4 w.heap.size ka kl kc (M.trim (M.pscale (M.pmul xs xs) ra))) := (HK4.out.mono (Nat.le_trans HBq.out.size hS3.size))
  clear HX HY HR HBq hHeld hS3 hS4 HM3 HK4 hml
  go_wp2
  generalize w4 = wq at HX2 HY2 HR2 HB2 HS2 ⊢
  generalize ka = sa at HS2 ⊢
  generalize kc = sc at HS2 ⊢
  generalize kl = sl at HS2 hkl ⊢
  have HX : Hid (Sees wq xa xl xc xs) := HX2.out
  have HY : Hid (Sees wq ya yl yc ys) := HY2.out
  have HR : Hid (Lies wq w.heap.size [.int .i64 ra, .int .i64 rb, .int .i64 rc, .int .i64 rd, .int .i64 re, .int .i64 rk]) := HR2.out
  have HBq : Hid (Below w.heap.size w wq) := HB2.out
  have HSm : Hid (Sees wq sa sl sc (M.trim (M.pscale (M.pmul xs xs) ra))) := HS2.out.sees
  have HSa : Hid (M.allEl (M.trim (M.pscale (M.pmul xs xs) ra)) = true) := M.all_trim (M.all_pscale _ _)
  have hsl : sl ≤ 300 := hkl
  clear HX2 HY2 HR2 HB2 HS2
  refine wp_region_noPanic ?_
  refine wp_region_held_drew (S := fun W => wq.grownBy W none) (by kernel_rfl) (grown_drew _ _) (fun hHeld => ?_)
  generalize wq.drew = wd0 at hHeld ⊢
  refine wpAnyH_take (i := 0) (v := .slice sa sl sc) rfl (by kernel_rfl) (by kernel_rfl) (by kernel_rfl) (fun _ _ _ h => h) (Or.inl ⟨by kernel_rfl, ?_⟩) (by assumption) ?_
  · intro wq hSq; go_simp
  try simp only [Act.put]
  refine wpAnyH_take (i := 1) (v := .slice xa xl xc) rfl (by kernel_rfl) (by kernel_rfl) (by kernel_rfl) (fun _ _ _ h => h) (Or.inl ⟨by kernel_rfl, ?_⟩) (by assumption) ?_
  · intro wq hSq; go_simp
  try simp only [Act.put]
  refine wpAnyH_take (i := 2) (v := .slice ya yl yc) rfl (by kernel_rfl) (by kernel_rfl) (by kernel_rfl) (fun _ _ _ h => h) (Or.inl ⟨by kernel_rfl, ?_⟩) (by assumption) ?_
  · intro wq hSq; go_simp
  try simp only [Act.put]
  refine wpAnyH_take (i := 4) (v := .pointer (some ⟨w.heap.size, 1, none⟩)) rfl (by kernel_rfl) (by kernel_rfl) (by kernel_rfl) (fun _ _ _ h => h) (Or.inl ⟨by kernel_rfl, ?_⟩) (by assumption) ?_
  · intro wq hSq; go_simp
  try simp only [Act.put]
  refine wpAnyH_take (i := 5) (v := .int .i64 rb) rfl (by kernel_rfl) (by kernel_rfl) (by kernel_rfl) (fun _ _ _ h => h) (Or.inl ⟨by kernel_rfl, ?_⟩) (by assumption) ?_
  · intro wp hSp; have c0 : wp.cell? ⟨w.heap.size, 1, none⟩ = some (.int .i64 rb) := (HR.out.grown hSp (by simp)).at 1; go_simp
  try simp only [Act.put]
  refine wpAnyH_ready (rs := [3]) (by kernel_rfl) (by simp) ?_
  refine AllReadyH.cons rfl (fun Kk hK => ?_) AllReadyH.nil
  go_simp
  refine (l2Mul_any _ (HX.out.grownR hHeld (by simp)) (HY.out.grownR hHeld (by simp)) HXa.out HYa.out HXl HYl).mono ?_
  rintro e w3 ⟨ma, ml, mc, rfl, ho3, hb3⟩
  go_simp
  have hS3 : wq.grownBy w3 none := grown_step hHeld hb3
  have HM3 : Hid (Owns 2 w3 wd0.heap.size ma ml mc (M.pmul xs ys)) := ho3
  have hml : ml ≤ 300 := by have h1 := ho3.len; have h2 := M.pmul_len xs ys; have := HXn.out; have := HYn.out; rw [show (M.pmul xs ys) = M.pmul xs ys from rfl] at h1; omega
  refine hK.out _ _ hS3 (fun _ => ?_)
  clear hK Kk hb3
  clear ho3
  try simp only [Act.put]
  refine wpAnyH_ready (rs := [6]) (by kernel_rfl) (by simp) ?_
  refine AllReadyH.cons rfl (fun Kk hK => ?_) AllReadyH.nil
  go_simp
  refine (scale_any _ _ HM3.out.sees (M.all_pmul _ _) (by omega) hc1.1 hc1.2).mono ?_
  rintro e w4 ⟨ka, kl, kc, rfl, ho4, hb4⟩
  go_simp
  have hS4 : wq.grownBy w4 none := grown_step hS3 hb4
  have HK4 : Hid (Owns 2 w4 w3.heap.size ka kl kc (M.trim (M.pscale (M.pmul xs ys) rb))) := ho4
  have hkl : kl ≤ 300 := by have h1 := ho4.len; have h2 := M.len_pscale_trim (M.pmul xs ys) rb; have h3 := HM3.out.len; omega
  refine hK.out _ _ hS4 (fun _ => ?_)
  clear hK Kk hb4
  clear ho4
  try simp only [Act.put]
  refine wpAnyH_ready (rs := [7]) (by kernel_rfl) (by simp) ?_
  refine AllReadyH.cons rfl (fun Kk hK => ?_) AllReadyH.nil
  go_simp
  refine (l2Add_any _ (HSm.out.grownR hS4 (by simp)) HK4.out.sees HSa.out (M.all_trim (M.all_pscale _ _)) (by omega) (by omega)).mono ?_
  rintro e w5 ⟨na, nl, nc, rfl, ho5, hb5⟩
  go_simp
  have hS5 : wq.grownBy w5 none := grown_step hS4 hb5
  have HN5 : Hid (Owns 2 w5 w.heap.size na nl nc (M.trim (M.padd (M.trim (M.pscale (M.pmul xs xs) ra)) (M.trim (M.pscale (M.pmul xs ys) rb))))) := ho5.mono (Nat.le_trans HBq.out.size hS4.size)
  have hnl : nl ≤ 300 := by have h1 := ho5.len; have h2 := M.len_padd_trim (M.trim (M.pscale (M.pmul xs xs) ra)) (M.trim (M.pscale (M.pmul xs ys) rb)); have h3 := HK4.out.len; have h4 := HSm.out.len; omega
  refine hK.out _ _ hS5 (fun _ => ?_)
  clear hK Kk hb5
  clear ho5
  try simp only [Act.put]
  refine wpAnyH_take (i := 8) (v := .slice na nl nc) rfl (by kernel_rfl) (by kernel_rfl) (by kernel_rfl) (fun _ _ _ h => h) (Or.inl ⟨by kernel_rfl, ?_⟩) (by assumption) ?_
  · intro wq hSq; go_simp
  try simp only [Act.put]
  refine wpAnyH_done (by kernel_rfl) ?_ _
  refine NoPanic.normal ?_
  go_simp
  have HX2 : Hid (Sees w5 xa xl xc xs) := HX.out.grownR hS5 (by simp)
  have HY2 : Hid (Sees w5 ya yl yc ys) := HY.out.grownR hS5 (by simp)
  have HR2 : Hid (Lies w5 w.heap.size [.int .i64 ra, .int .i64 rb, .int .i64 rc, .int .i64 rd, .int .i64 re, .int .i64 rk]) := HR.out.grown hS5 (by simp)
  have HB2 : Hid (Below w.heap.size w w5) := HBq.out.grown hS5 HBq.out.size (by simp)
  have HS2 : Hid (Owns 2 w5 w.heap.size na nl nc (M.trim (M.padd (M.trim (M.pscale (M.pmul xs xs) ra)) (M.trim (M.pscale (M.pmul xs ys) rb))))) := HN5.out
  clear HX HY HR HBq hHeld hS3 hS4 hS5 HM3 HK4 HN5 HSm HSa hml hkl hsl
  go_wp2
  generalize w5 = wq at HX2 HY2 HR2 HB2 HS2 ⊢
  generalize na = sa at HS2 ⊢
  generalize nc = sc at HS2 ⊢
  generalize nl = sl at HS2 hnl ⊢
  have HX : Hid (Sees wq xa xl xc xs) := HX2.out
  have HY : Hid (Sees wq ya yl yc ys) := HY2.out
  have HR : Hid (Lies wq w.heap.size [.int .i64 ra, .int .i64 rb, .int .i64 rc, .int .i64 rd, .int .i64 re, .int .i64 rk]) := HR2.out
  have HBq : Hid (Below w.heap.size w wq) := HB2.out
  have HSm : Hid (Sees wq sa sl sc (M.trim (M.padd (M.trim (M.pscale (M.pmul xs xs) ra)) (M.trim (M.pscale (M.pmul xs ys) rb))))) := HS2.out.sees
  have HSa : Hid (M.allEl (M.trim (M.padd (M.trim (M.pscale (M.pmul xs xs) ra)) (M.trim (M.pscale (M.pmul xs ys) rb)))) = true) := M.all_trim (M.all_padd _ _)
  have hsl : sl ≤ 300 := hnl
  clear HX2 HY2 HR2 HB2 HS2
  refine wp_region_noPanic ?_
  refine wp_region_held_drew (S := fun W => wq.grownBy W none) (by kernel_rfl) (grown_drew _ _) (fun hHeld => ?_)
  generalize wq.drew = wd0 at hHeld ⊢
  refine wpAnyH_take (i := 0) (v := .slice sa sl sc) rfl (by kernel_rfl) (by kernel_rfl) (by kernel_rfl) (fun _ _ _ h => h) (Or.inl ⟨by kernel_rfl, ?_⟩) (by assumption) ?_
  · intro wq hSq; go_simp
  try simp only [Act.put]
  refine wpAnyH_take (i := 1) (v := .slice ya yl yc) rfl (by kernel_rfl) (by kernel_rfl) (by kernel_rfl) (fun _ _ _ h => h) (Or.inl ⟨by kernel_rfl, ?_⟩) (by assumption) ?_
  · intro wq hSq; go_simp
  try simp only [Act.put]
  refine wpAnyH_take (i := 2) (v := .slice ya yl yc) rfl (by kernel_rfl) (by kernel_rfl) (by kernel_rfl) (fun _ _ _ h => h) (Or.inl ⟨by kernel_rfl, ?_⟩) (by assumption) ?_
  · intro wq hSq; go_simp
  try simp only [Act.put]
  refine wpAnyH_take (i := 4) (v := .pointer (some ⟨w.heap.size, 2, none⟩)) rfl (by kernel_rfl) (by kernel_rfl) (by kernel_rfl) (fun _ _ _ h => h) (Or.inl ⟨by kernel_rfl, ?_⟩) (by assumption) ?_
  · intro wq hSq; go_simp
  try simp only [Act.put]
  refine wpAnyH_take (i := 5) (v := .int .i64 rc) rfl (by kernel_rfl) (by kernel_rfl) (by kernel_rfl) (fun _ _ _ h => h) (Or.inl ⟨by kernel_rfl, ?_⟩) (by assumption) ?_
  · intro wp hSp; have c0 : wp.cell? ⟨w.heap.size, 2, none⟩ = some (.int .i64 rc) := (HR.out.grown hSp (by simp)).at 2; go_simp
  try simp only [Act.put]
  refine wpAnyH_ready (rs := [3]) (by kernel_rfl) (by simp) ?_
  refine AllReadyH.cons rfl (fun Kk hK => ?_) AllReadyH.nil
  go_simp
  refine (l2Mul_any _ (HY.out.grownR hHeld (by simp)) (HY.out.grownR hHeld (by simp)) HYa.out HYa.out HYl HYl).mono ?_
  rintro e w3 ⟨ma, ml, mc, rfl, ho3, hb3⟩
  go_simp
  have hS3 : wq.grownBy w3 none := grown_step hHeld hb3
  have HM3 : Hid (Owns 2 w3 wd0.heap.size ma ml mc (M.pmul ys ys)) := ho3
  have hml : ml ≤ 300 := by have h1 := ho3.len; have h2 := M.pmul_len ys ys; have := HYn.out; have := HYn.out; rw [show (M.pmul ys ys) = M.pmul ys ys from rfl] at h1; omega
  refine hK.out _ _ hS3 (fun _ => ?_)
  clear hK Kk hb3
  clear ho3
  try simp only [Act.put]
  refine wpAnyH_ready (rs := [6]) (by kernel_rfl) (by simp) ?_
  refine AllReadyH.cons rfl (fun Kk hK => ?_) AllReadyH.nil
  go_simp
  refine (scale_any _ _ HM3.out.sees (M.all_pmul _ _) (by omega) hc2.1 hc2.2).mono ?_
  rintro e w4 ⟨ka, kl, kc, rfl, ho4, hb4⟩
  go_simp
  have hS4 : wq.grownBy w4 none := grown_step hS3 hb4
  have HK4 : Hid (Owns 2 w4 w3.heap.size ka kl kc (M.trim (M.pscale (M.pmul ys ys) rc))) := ho4
  have hkl : kl ≤ 300 := by have h1 := ho4.len; have h2 := M.len_pscale_trim (M.pmul ys ys) rc; have h3 := HM3.out.len; omega
  refine hK.out _ _ hS4 (fun _ => ?_)
  clear hK Kk hb4
  clear ho4
  try simp only [Act.put]
  refine wpAnyH_ready (rs := [7]) (by kernel_rfl) (by simp) ?_
  refine AllReadyH.cons rfl (fun Kk hK => ?_) AllReadyH.nil
  go_simp
  refine (l2Add_any _ (HSm.out.grownR hS4 (by simp)) HK4.out.sees HSa.out (M.all_trim (M.all_pscale _ _)) (by omega) (by omega)).mono ?_
  rintro e w5 ⟨na, nl, nc, rfl, ho5, hb5⟩
  go_simp
  have hS5 : wq.grownBy w5 none := grown_step hS4 hb5
  have HN5 : Hid (Owns 2 w5 w.heap.size na nl nc (M.trim (M.padd (M.trim (M.padd (M.trim (M.pscale (M.pmul xs xs) ra)) (M.trim (M.pscale (M.pmul xs ys) rb)))) (M.trim (M.pscale (M.pmul ys ys) rc))))) := ho5.mono (Nat.le_trans HBq.out.size hS4.size)
  have hnl : nl ≤ 300 := by have h1 := ho5.len; have h2 := M.len_padd_trim (M.trim (M.padd (M.trim (M.pscale (M.pmul xs xs) ra)) (M.trim (M.pscale (M.pmul xs ys) rb)))) (M.trim (M.pscale (M.pmul ys ys) rc)); have h3 := HK4.out.len; have h4 := HSm.out.len; omega
  refine hK.out _ _ hS5 (fun _ => ?_)
  clear hK Kk hb5
  clear ho5
  try simp only [Act.put]
  refine wpAnyH_take (i := 8) (v := .slice na nl nc) rfl (by kernel_rfl) (by kernel_rfl) (by kernel_rfl) (fun _ _ _ h => h) (Or.inl ⟨by kernel_rfl, ?_⟩) (by assumption) ?_
  · intro wq hSq; go_simp
  try simp only [Act.put]
  refine wpAnyH_done (by kernel_rfl) ?_ _
  refine NoPanic.normal ?_
  go_simp
  have HX2 : Hid (Sees w5 xa xl xc xs) := HX.out.grownR hS5 (by simp)
  have HY2 : Hid (Sees w5 ya yl yc ys) := HY.out.grownR hS5 (by simp)
  have HR2 : Hid (Lies w5 w.heap.size [.int .i64 ra, .int .i64 rb, .int .i64 rc, .int .i64 rd, .int .i64 re, .int .i64 rk]) := HR.out.grown hS5 (by simp)
  have HB2 : Hid (Below w.heap.size w w5) := HBq.out.grown hS5 HBq.out.size (by simp)
  have HS2 : Hid (Owns 2 w5 w.heap.size na nl nc (M.trim (M.padd (M.trim (M.padd (M.trim (M.pscale (M.pmul xs xs) ra)) (M.trim (M.pscale (M.pmul xs ys) rb)))) (M.trim (M.pscale (M.pmul ys ys) rc))))) := HN5.out
  clear HX HY HR HBq hHeld hS3 hS4 hS5 HM3 HK4 HN5 HSm HSa hml hkl hsl
  generalize w5 = wq at HX2 HY2 HR2 HB2 HS2 ⊢
  generalize na = sa at HS2 ⊢
  generalize nc = sc at HS2 ⊢
  generalize nl = sl at HS2 hnl ⊢
  have HX : Hid (Sees wq xa xl xc xs) := HX2.out
  have HY : Hid (Sees wq ya yl yc ys) := HY2.out
  have HR : Hid (Lies wq w.heap.size [.int .i64 ra, .int .i64 rb, .int .i64 rc, .int .i64 rd, .int .i64 re, .int .i64 rk]) := HR2.out
  have HBq : Hid (Below w.heap.size w wq) := HB2.out
  have HSm : Hid (Sees wq sa sl sc (M.trim (M.padd (M.trim (M.padd (M.trim (M.pscale (M.pmul xs xs) ra)) (M.trim (M.pscale (M.pmul xs ys) rb)))) (M.trim (M.pscale (M.pmul ys ys) rc))))) := HS2.out.sees
  have HSa : Hid (M.allEl (M.trim (M.padd (M.trim (M.padd (M.trim (M.pscale (M.pmul xs xs) ra)) (M.trim (M.pscale (M.pmul xs ys) rb)))) (M.trim (M.pscale (M.pmul ys ys) rc)))) = true) := M.all_trim (M.all_padd _ _)
  have hsl : sl ≤ 300 := hnl
  clear HX2 HY2 HR2 HB2 HS2
  have cj : wq.cell? ⟨w.heap.size, 3, none⟩ = some (.int .i64 rd) := HR.out.at 3
  go_wp2_with fail
  refine (scale_any _ _ HX.out HXa.out HXl hc3.1 hc3.2).mono ?_
  rintro e w4 ⟨ka, kl, kc, rfl, ho4, hb4⟩
  have HK4 : Hid (Owns 2 w4 wq.heap.size ka kl kc (M.trim (M.pscale xs rd))) := ho4
  have hkl : kl ≤ 300 := by have h1 := ho4.len; have h2 := M.len_pscale_trim xs rd; have h3 := HXn.out; omega
  have HX1 : Hid (Sees w4 xa xl xc xs) := HX.out.below hb4
  have HY1 : Hid (Sees w4 ya yl yc ys) := HY.out.below hb4
  have HR1 : Hid (Lies w4 w.heap.size [.int .i64 ra, .int .i64 rb, .int .i64 rc, .int .i64 rd, .int .i64 re, .int .i64 rk]) := HR.out.belowS hb4
  have HSm1 : Hid (Sees w4 sa sl sc (M.trim (M.padd (M.trim (M.padd (M.trim (M.pscale (M.pmul xs xs) ra)) (M.trim (M.pscale (M.pmul xs ys) rb)))) (M.trim (M.pscale (M.pmul ys ys) rc))))) := HSm.out.below hb4
  have HB1 : Hid (Below w.heap.size w w4) := HBq.out.trans (hb4.mono HBq.out.size)
  clear ho4 hb4 cj HX HY HR HSm HBq
  go_wp2_with fail
  refine (l2Add_any _ HSm1.out HK4.out.sees HSa.out (M.all_trim (M.all_pscale _ _)) (by omega) (by omega)).mono ?_
  rintro e w5 ⟨na, nl, nc, rfl, ho5, hb5⟩
  have HS2 : Hid (Owns 2 w5 w.heap.size na nl nc (M.trim (M.padd (M.trim (M.padd (M.trim (M.padd (M.trim (M.pscale (M.pmul xs xs) ra)) (M.trim (M.pscale (M.pmul xs ys) rb)))) (M.trim (M.pscale (M.pmul ys ys) rc)))) (M.trim (M.pscale xs rd))))) := ho5.mono HB1.out.size
  have hnl : nl ≤ 300 := by have h1 := ho5.len; have h2 := M.len_padd_trim (M.trim (M.padd (M.trim (M.padd (M.trim (M.pscale (M.pmul xs xs) ra)) (M.trim (M.pscale (M.pmul xs ys) rb)))) (M.trim (M.pscale (M.pmul ys ys) rc)))) (M.trim (M.pscale xs rd)); have h3 := HK4.out.len; have h4 := HSm1.out.len; omega
  have HX2 : Hid (Sees w5 xa xl xc xs) := HX1.out.below hb5
  have HY2 : Hid (Sees w5 ya yl yc ys) := HY1.out.below hb5
  have HR2 : Hid (Lies w5 w.heap.size [.int .i64 ra, .int .i64 rb, .int .i64 rc, .int .i64 rd, .int .i64 re, .int .i64 rk]) := HR1.out.belowS hb5
  have HB2 : Hid (Below w.heap.size w w5) := HB1.out.trans (hb5.mono HB1.out.size)
  clear ho5 hb5 HX1 HY1 HR1 HSm1 HB1 HK4 HSa hkl hsl
  generalize w5 = wq at HX2 HY2 HR2 HB2 HS2 ⊢
  generalize na = sa at HS2 ⊢
  generalize nc = sc at HS2 ⊢
  generalize nl = sl at HS2 hnl ⊢
  have HX : Hid (Sees wq xa xl xc xs) := HX2.out
  have HY : Hid (Sees wq ya yl yc ys) := HY2.out
  have HR : Hid (Lies wq w.heap.size [.int .i64 ra, .int .i64 rb, .int .i64 rc, .int .i64 rd, .int .i64 re, .int .i64 rk]) := HR2.out
  have HBq : Hid (Below w.heap.size w wq) := HB2.out
  have HSm : Hid (Sees wq sa sl sc (M.trim (M.padd (M.trim (M.padd (M.trim (M.padd (M.trim (M.pscale (M.pmul xs xs) ra)) (M.trim (M.pscale (M.pmul xs ys) rb)))) (M.trim (M.pscale (M.pmul ys ys) rc)))) (M.trim (M.pscale xs rd))))) := HS2.out.sees
  have HSa : Hid (M.allEl (M.trim (M.padd (M.trim (M.padd (M.trim (M.padd (M.trim (M.pscale (M.pmul xs xs) ra)) (M.trim (M.pscale (M.pmul xs ys) rb)))) (M.trim (M.pscale (M.pmul ys ys) rc)))) (M.trim (M.pscale xs rd)))) = true) := M.all_trim (M.all_padd _ _)
  have hsl : sl ≤ 300 := hnl
  clear HX2 HY2 HR2 HB2 HS2
  have cj : wq.cell? ⟨w.heap.size, 4, none⟩ = some (.int .i64 re) := HR.out.at 4
  go_wp2_with fail
  refine (scale_any _ _ HY.out HYa.out HYl hc4.1 hc4.2).mono ?_
  rintro e w4 ⟨ka, kl, kc, rfl, ho4, hb4⟩
  have HK4 : Hid (Owns 2 w4 wq.heap.size ka kl kc (M.trim (M.pscale ys re))) := ho4
  have hkl : kl ≤ 300 := by have h1 := ho4.len; have h2 := M.len_pscale_trim ys re; have h3 := HYn.out; omega
  have HX1 : Hid (Sees w4 xa xl xc xs) := HX.out.below hb4
  have HY1 : Hid (Sees w4 ya yl yc ys) := HY.out.below hb4
  have HR1 : Hid (Lies w4 w.heap.size [.int .i64 ra, .int .i64 rb, .int .i64 rc, .int .i64 rd, .int .i64 re, .int .i64 rk]) := HR.out.belowS hb4
  have HSm1 : Hid (Sees w4 sa sl sc (M.trim (M.padd (M.trim (M.padd (M.trim (M.padd (M.trim (M.pscale (M.pmul xs xs) ra)) (M.trim (M.pscale (M.pmul xs ys) rb)))) (M.trim (M.pscale (M.pmul ys ys) rc)))) (M.trim (M.pscale xs rd))))) := HSm.out.below hb4
  have HB1 : Hid (Below w.heap.size w w4) := HBq.out.trans (hb4.mono HBq.out.size)
  clear ho4 hb4 cj HX HY HR HSm HBq
  go_wp2_with fail
  refine (l2Add_any _ HSm1.out HK4.out.sees HSa.out (M.all_trim (M.all_pscale _ _)) (by omega) (by omega)).mono ?_
  rintro e w5 ⟨na, nl, nc, rfl, ho5, hb5⟩
  have HS2 : Hid (Owns 2 w5 w.heap.size na nl nc (M.trim (M.padd (M.trim (M.padd (M.trim (M.padd (M.trim (M.padd (M.trim (M.pscale (M.pmul xs xs) ra)) (M.trim (M.pscale (M.pmul xs ys) rb)))) (M.trim (M.pscale (M.pmul ys ys) rc)))) (M.trim (M.pscale xs rd)))) (M.trim (M.pscale ys re))))) := ho5.mono HB1.out.size
  have hnl : nl ≤ 300 := by have h1 := ho5.len; have h2 := M.len_padd_trim (M.trim (M.padd (M.trim (M.padd (M.trim (M.padd (M.trim (M.pscale (M.pmul xs xs) ra)) (M.trim (M.pscale (M.pmul xs ys) rb)))) (M.trim (M.pscale (M.pmul ys ys) rc)))) (M.trim (M.pscale xs rd)))) (M.trim (M.pscale ys re)); have h3 := HK4.out.len; have h4 := HSm1.out.len; omega
  have HX2 : Hid (Sees w5 xa xl xc xs) := HX1.out.below hb5
  have HY2 : Hid (Sees w5 ya yl yc ys) := HY1.out.below hb5
  have HR2 : Hid (Lies w5 w.heap.size [.int .i64 ra, .int .i64 rb, .int .i64 rc, .int .i64 rd, .int .i64 re, .int .i64 rk]) := HR1.out.belowS hb5
  have HB2 : Hid (Below w.heap.size w w5) := HB1.out.trans (hb5.mono HB1.out.size)
  clear ho5 hb5 HX1 HY1 HR1 HSm1 HB1 HK4 HSa hkl hsl
  generalize w5 = wq at HX2 HY2 HR2 HB2 HS2 ⊢
  generalize na = sa at HS2 ⊢
  generalize nc = sc at HS2 ⊢
  generalize nl = sl at HS2 hnl ⊢
  have HX : Hid (Sees wq xa xl xc xs) := HX2.out
  have HY : Hid (Sees wq ya yl yc ys) := HY2.out
  have HR : Hid (Lies wq w.heap.size [.int .i64 ra, .int .i64 rb, .int .i64 rc, .int .i64 rd, .int .i64 re, .int .i64 rk]) := HR2.out
  have HBq : Hid (Below w.heap.size w wq) := HB2.out
  have HSm : Hid (Sees wq sa sl sc (M.trim (M.padd (M.trim (M.padd (M.trim (M.padd (M.trim (M.padd (M.trim (M.pscale (M.pmul xs xs) ra)) (M.trim (M.pscale (M.pmul xs ys) rb)))) (M.trim (M.pscale (M.pmul ys ys) rc)))) (M.trim (M.pscale xs rd)))) (M.trim (M.pscale ys re))))) := HS2.out.sees
  have HSa : Hid (M.allEl (M.trim (M.padd (M.trim (M.padd (M.trim (M.padd (M.trim (M.padd (M.trim (M.pscale (M.pmul xs xs) ra)) (M.trim (M.pscale (M.pmul xs ys) rb)))) (M.trim (M.pscale (M.pmul ys ys) rc)))) (M.trim (M.pscale xs rd)))) (M.trim (M.pscale ys re)))) = true) := M.all_trim (M.all_padd _ _)
  have hsl : sl ≤ 300 := hnl
  clear HX2 HY2 HR2 HB2 HS2
  have cj : wq.cell? ⟨w.heap.size, 5, none⟩ = some (.int .i64 rk) := HR.out.at 5
  have HO6 : Hid (Sees (wq.alloc (.cells #[Value.int .i64 rk] 2)) (some ⟨wq.heap.size, 0, none⟩) 1 1 [rk]) := seesA_one wq rk _
  have HB6 : Hid (Below wq.heap.size wq (wq.alloc (.cells #[Value.int .i64 rk] 2))) := (Below.refl _ _).alloc (Nat.le_refl _) _
  go_wp2_with fail
  refine (l2Trim_any _ HO6.out (by omega)).mono ?_
  rintro e w4 ⟨ka, kl, kc, rfl, ho4, hb4⟩
  have HK4 : Hid (Owns 2 w4 wq.heap.size ka kl kc (M.trim [rk])) := ho4.mono HB6.out.size
  have hkl : kl ≤ 1 := by have h1 := ho4.len; have h2 := M.len_trim [rk]; have h3 : [rk].length = 1 := rfl; omega
  have HB4 : Hid (Below wq.heap.size wq w4) := HB6.out.trans (hb4.mono HB6.out.size)
  have HSm1 : Hid (Sees w4 sa sl sc (M.trim (M.padd (M.trim (M.padd (M.trim (M.padd (M.trim (M.padd (M.trim (M.pscale (M.pmul xs xs) ra)) (M.trim (M.pscale (M.pmul xs ys) rb)))) (M.trim (M.pscale (M.pmul ys ys) rc)))) (M.trim (M.pscale xs rd)))) (M.trim (M.pscale ys re))))) := HSm.out.below HB4.out
  have HB1 : Hid (Below w.heap.size w w4) := HBq.out.trans (HB4.out.mono HBq.out.size)
  have HKa : Hid (M.allEl (M.trim [rk]) = true) := M.all_trim (M.all_cons ⟨hc5.1, hc5.2⟩ rfl)
  clear ho4 hb4 cj HX HY HR HSm HBq HO6 HB6 HB4
  go_wp2_with fail
  refine (l2Add_any _ HSm1.out HK4.out.sees HSa.out HKa.out (by omega) (by omega)).mono ?_
  rintro e w5 ⟨na, nl, nc, rfl, ho5, hb5⟩
  have HS2 : Hid (Owns 2 w5 w.heap.size na nl nc (M.trim (M.padd (M.trim (M.padd (M.trim (M.padd (M.trim (M.padd (M.trim (M.padd (M.trim (M.pscale (M.pmul xs xs) ra)) (M.trim (M.pscale (M.pmul xs ys) rb)))) (M.trim (M.pscale (M.pmul ys ys) rc)))) (M.trim (M.pscale xs rd)))) (M.trim (M.pscale ys re)))) (M.trim [rk])))) := ho5.mono HB1.out.size
  have hnl : nl ≤ 301 := by have h1 := ho5.len; have h2 := M.len_padd_trim (M.trim (M.padd (M.trim (M.padd (M.trim (M.padd (M.trim (M.padd (M.trim (M.pscale (M.pmul xs xs) ra)) (M.trim (M.pscale (M.pmul xs ys) rb)))) (M.trim (M.pscale (M.pmul ys ys) rc)))) (M.trim (M.pscale xs rd)))) (M.trim (M.pscale ys re)))) (M.trim [rk]); have h3 := HK4.out.len; have h4 := HSm1.out.len; omega
  have HB2 : Hid (Below w.heap.size w w5) := HB1.out.trans (hb5.mono HB1.out.size)
  clear ho5 hb5
  go_wp2
  go_ret
  exact ⟨na, nl, nc, rfl, hnl, HS2.out, HB2.out⟩
set_option maxHeartbeats 4000000 in
theorem l6Left_any {fa ra : Option Addr} {fl fc rl rc : Nat} {fs rs : List Int} (N : Nat) (w : World) (h : M.rowsN N = true) (hf : Sees w fa fl fc fs) (hr : Sees w ra rl rc rs) (af : M.allEl fs = true) (ar : M.allEl rs = true) (lf : fl ≤ 100) (lr : rl ≤ 400) :
    Calls Tryz.prog 48 #[.slice fa fl fc, .slice ra rl rc, .int .i64 N] w fun e w' => ∃ a' l c', e = .returned (.slice a' l c') ∧ Owns 2 w' w.heap.size a' l c' (M.left fs rs (M.root N) (M.lst N)) ∧ Below w.heap.size w w' := by
  have hb16 := M.rowsN_pos h
  have hg := (M.el_iff _).1 (M.root_el (M.two64_two (M.rowsN_two h)))
  have CR := specRoot_any N
  have CT : Hid (∀ (W : World), Sees W fa fl fc fs → Calls Tryz.prog 101 #[.slice fa fl fc, .int .i64 (M.root N)] W fun e w' => ∃ a' l c', e = .returned (.slice a' l c') ∧ Owns 2 w' W.heap.size a' l c' (M.turn fs (M.root N)) ∧ Below W.heap.size W w') := fun W hW => l6Turn_any _ W hW af (by omega) hg.1 hg.2
  have CPw : ∀ W, Calls Tryz.prog 57 #[.int .i64 (M.root N), .int .i64 ((N : Int) - 1)] W fun e w' => e = .returned (.int .i64 (M.lst N)) ∧ w' = W := fun W => by
    have := specPow_in (M.root N) (N - 1) W hg.1 hg.2 (by omega)
    rw [show ((N - 1 : Nat) : Int) = (N : Int) - 1 by omega] at this
    exact this
  have CS : ∀ W, Calls Tryz.prog 61 #[.int .i64 0, .int .i64 (M.lst N)] W fun e w' => e = .returned (.int .i64 (M.sub 0 (M.lst N))) ∧ w' = W := fun W => specSub_any _ _ W
  have hls := (M.el_iff _).1 (M.el_lst N)
  have hsb : 0 ≤ M.sub 0 (M.lst N) ∧ M.sub 0 (M.lst N) < 65537 := by rw [M.sub_in (by decide) (M.el_lst N)]; omega
  have HTl : Hid ((M.turn fs (M.root N)).length ≤ 100) := by have h1 := M.len_turn fs (M.root N); have h2 := hf.len; show _ ≤ _; omega
  have HTa : Hid (M.allEl (M.turn fs (M.root N)) = true) := M.all_turn _ _
  have HF : Hid (Sees w fa fl fc fs) := hf
  have HR : Hid (Sees w ra rl rc rs) := hr
  have HRa : Hid (M.allEl rs = true) := ar
  have HRn : Hid (rs.length ≤ 400) := by show _ ≤ _; rw [hr.len]; exact lr
  unfold M.left
  generalize M.turn fs (M.root N) = T at CT HTl HTa
  generalize M.root N = g at CR CT CPw
  generalize M.lst N = la at CPw CS hsb
  generalize M.sub 0 la = sb at CS hsb
  have hN16 : (N : Int) ≤ 16 := by omega
  have hN2 : (2 : Int) ≤ (N : Int) := by omega
  have hNw : IntKind.i64.wrap ((N : Int) - 1) = (N : Int) - 1 := by rw [IntKind.wrap_i64]; omega
  clear h hf hr af ar hg hls hb16
  go_enter Tryz.func48, Tryz.ntmps48
  go_wp2_with fail
  refine (CR _).mono ?_
  rintro e w ⟨rfl, rfl⟩
  go_wp2_with fail
  refine (CT.out _ HF.out).mono ?_
  rintro e w1 ⟨ta, tl, tc, rfl, ho1, hb1⟩
  have HT1 : Hid (Owns 2 w1 w.heap.size ta tl tc T) := ho1
  have htl : tl ≤ 100 := by have h1 := ho1.len; have h2 := HTl.out; omega
  have HB1 : Hid (Below w.heap.size w w1) := hb1
  clear ho1 hb1
  go_wp2_with fail
  refine (scale_any 65536 _ (HR.out.below HB1.out) HRa.out (by omega) (by omega) (by omega)).mono ?_
  rintro e w2 ⟨ka, kl, kc, rfl, ho2, hb2⟩
  have HK2 : Hid (Owns 2 w2 w1.heap.size ka kl kc (M.trim (M.pscale rs 65536))) := ho2
  have hkl : kl ≤ 400 := by have h1 := ho2.len; have h2 := M.len_pscale_trim rs 65536; have h3 := HRn.out; omega
  have HT2 : Hid (Sees w2 ta tl tc T) := HT1.out.sees.below hb2
  have HB2 : Hid (Below w.heap.size w w2) := HB1.out.trans (hb2.mono HB1.out.size)
  clear ho2 hb2 HT1
  go_wp2_with fail
  refine (l2Add_any _ HT2.out HK2.out.sees HTa.out (M.all_trim (M.all_pscale _ _)) (by omega) (by omega)).mono ?_
  rintro e w3 ⟨na, nl, nc, rfl, ho3, hb3⟩
  have HN3 : Hid (Owns 2 w3 w2.heap.size na nl nc (M.trim (M.padd T (M.trim (M.pscale rs 65536))))) := ho3
  have hnl : nl ≤ 400 := by have h1 := ho3.len; have h2 := M.len_padd_trim T (M.trim (M.pscale rs 65536)); have h3 := HK2.out.len; have h4 := HT2.out.len; omega
  have HB3 : Hid (Below w.heap.size w w3) := HB2.out.trans (hb3.mono HB2.out.size)
  clear ho3 hb3 HT2 HK2
  go_wp2_with fail
  refine (CPw _).mono ?_
  rintro e w3 ⟨rfl, rfl⟩
  go_wp2_with fail
  refine (CS _).mono ?_
  rintro e w3 ⟨rfl, rfl⟩
  have HS4 : Hid (Sees (w3.alloc (.cells #[Value.int .i64 sb, Value.int .i64 1] 2)) (some ⟨w3.heap.size, 0, none⟩) 2 2 [sb, 1]) := seesA_two w3 sb 1 _
  have HBA : Hid (Below w3.heap.size w3 (w3.alloc (.cells #[Value.int .i64 sb, Value.int .i64 1] 2))) := (Below.refl _ _).alloc (Nat.le_refl _) _
  have HSA : Hid (M.allEl [sb, 1] = true) := M.all_cons ⟨hsb.1, hsb.2⟩ (M.all_cons ⟨by omega, by omega⟩ rfl)
  go_wp2_with fail
  refine (l2Mul_any _ (HN3.out.sees.below HBA.out) HS4.out (M.all_trim (M.all_padd _ _)) HSA.out (by omega) (by omega)).mono ?_
  rintro e w5 ⟨oa, ol, oc, rfl, ho5, hb5⟩
  have HO5 : Hid (Owns 2 w5 w.heap.size oa ol oc (M.pmul (M.trim (M.padd T (M.trim (M.pscale rs 65536)))) [sb, 1])) := ho5.mono (Nat.le_trans HB3.out.size HBA.out.size)
  have HB5 : Hid (Below w.heap.size w w5) := HB3.out.trans ((HBA.out.trans (hb5.mono HBA.out.size)).mono HB3.out.size)
  clear ho5 hb5
  go_wp2
  go_ret
  exact ⟨oa, ol, oc, rfl, HO5.out, HB5.out⟩
end Go.Proofs.YtbcfjbkmkknmfaaGreatDoor
namespace Go.Proofs.YtbcfjbkmkknmfaaGreatDoor
open Go.RowKit

set_option maxHeartbeats 4000000 in
set_option maxRecDepth 10000 in
theorem specProved_out (m : M.Mc) (s : Int × Int) (n : Int) (w : World) (h : M.provOk m s n = false) :
    Calls Tryz.prog 10 #[mcv m, stv s, .int .i64 n] w fun e w' => e = .returned (.tuple #[.agg #[.int .i64 0, .int .i64 0, .int .i64 0, .int .i64 0, .slice none 0 0, .slice none 0 0, .slice none 0 0, .slice none 0 0], .bool false]) ∧ Below w.heap.size w w' := by
  have C1 := specMachineOk_any m
  have C2 := specStateOk_any s
  have C3 := l6Rows_any n
  have hno := M.provOk_no h
  clear h
  obtain ⟨⟨a, b, c, d, f, k⟩, ⟨a', b', c', d', f', k'⟩⟩ := m
  obtain ⟨x, y⟩ := s
  dsimp only [mcv, stv] at C1 C2 ⊢
  generalize M.Mc.ok ⟨⟨a, b, c, d, f, k⟩, ⟨a', b', c', d', f', k'⟩⟩ = o1 at C1 hno
  generalize M.sOk (x, y) = o2 at C2 hno
  generalize M.rows n = o3 at C3 hno
  have HS0 : Hid (Lies (((w.alloc (.cells #[.int .i64 a, .int .i64 b, .int .i64 c, .int .i64 d, .int .i64 f, .int .i64 k, .int .i64 a', .int .i64 b', .int .i64 c', .int .i64 d', .int .i64 f', .int .i64 k'] 27)).alloc (.cells #[.int .i64 x, .int .i64 y] 29)).alloc (.cells #[.int .i64 0, .int .i64 0, .int .i64 0, .int .i64 0, .slice none 0 0, .slice none 0 0, .slice none 0 0, .slice none 0 0] 34)) (w.heap.size + 1) [.int .i64 x, .int .i64 y]) := (lies_new2 _ _ _ _).alloc _
  have HZ0 : Hid (Lies (((w.alloc (.cells #[.int .i64 a, .int .i64 b, .int .i64 c, .int .i64 d, .int .i64 f, .int .i64 k, .int .i64 a', .int .i64 b', .int .i64 c', .int .i64 d', .int .i64 f', .int .i64 k'] 27)).alloc (.cells #[.int .i64 x, .int .i64 y] 29)).alloc (.cells #[.int .i64 0, .int .i64 0, .int .i64 0, .int .i64 0, .slice none 0 0, .slice none 0 0, .slice none 0 0, .slice none 0 0] 34)) (w.heap.size + 1 + 1) [.int .i64 0, .int .i64 0, .int .i64 0, .int .i64 0, .slice none 0 0, .slice none 0 0, .slice none 0 0, .slice none 0 0]) := lies_new3 _ _ _ _ _
  have HB0 : Hid (Below w.heap.size w (((w.alloc (.cells #[.int .i64 a, .int .i64 b, .int .i64 c, .int .i64 d, .int .i64 f, .int .i64 k, .int .i64 a', .int .i64 b', .int .i64 c', .int .i64 d', .int .i64 f', .int .i64 k'] 27)).alloc (.cells #[.int .i64 x, .int .i64 y] 29)).alloc (.cells #[.int .i64 0, .int .i64 0, .int .i64 0, .int .i64 0, .slice none 0 0, .slice none 0 0, .slice none 0 0, .slice none 0 0] 34))) := (((Below.refl _ _).alloc (Nat.le_refl _) _).alloc (by simp) _).alloc (by simp; omega) _
  go_enter Tryz.func10, Tryz.ntmps10
  go_wp2_with fail
  refine (C1 _).mono ?_
  rintro e w1 ⟨rfl, hb1⟩
  have HS1 : Hid (Lies w1 (w.heap.size + 1) [.int .i64 x, .int .i64 y]) := HS0.out.belowS hb1
  have HZ1 : Hid (Lies w1 (w.heap.size + 1 + 1) [.int .i64 0, .int .i64 0, .int .i64 0, .int .i64 0, .slice none 0 0, .slice none 0 0, .slice none 0 0, .slice none 0 0]) := HZ0.out.belowS hb1
  have HB1 : Hid (Below w.heap.size w w1) := HB0.out.trans (hb1.mono HB0.out.size)
  have s0 : w1.cell? ⟨w.heap.size + 1, 0, none⟩ = some (.int .i64 x) := HS1.out.at 0
  have s1 : w1.cell? ⟨w.heap.size + 1, 1, none⟩ = some (.int .i64 y) := HS1.out.at 1
  clear hb1 HS0 HZ0 HB0 C1
  rcases hno with rfl | ⟨rfl, rfl⟩ | ⟨rfl, rfl, rfl⟩
  · have HZT : Hid (w1.there (w.heap.size + 1 + 1) 0 8) := HZ1.out.there 0 8 (by simp)
    have HZ4 : Hid (Lies (w1.setCells (w.heap.size + 1 + 1) 0 [.int .i64 0, .int .i64 0, .int .i64 0, .int .i64 0, .slice none 0 0, .slice none 0 0, .slice none 0 0, .slice none 0 0]) (w.heap.size + 1 + 1) [.int .i64 0, .int .i64 0, .int .i64 0, .int .i64 0, .slice none 0 0, .slice none 0 0, .slice none 0 0, .slice none 0 0]) := HZ1.out.setCells [.int .i64 0, .int .i64 0, .int .i64 0, .int .i64 0, .slice none 0 0, .slice none 0 0, .slice none 0 0, .slice none 0 0] 0 (by simp)
    have HB4 : Hid (Below w.heap.size w (w1.setCells (w.heap.size + 1 + 1) 0 [.int .i64 0, .int .i64 0, .int .i64 0, .int .i64 0, .slice none 0 0, .slice none 0 0, .slice none 0 0, .slice none 0 0])) := below_setCells _ 0 HB1.out (by omega)
    go_wp2_with (with_reducible refine wpList_stopn ?_ ?_; rfl)
    show wpList _ _ _ _ _ _
    with_reducible refine wpList_store_mid ?_ 34 (.tmp 6) (.tmp 33) ?_ (w.heap.size + 1 + 1) 0 ([.int .i64 0, .int .i64 0, .int .i64 0, .int .i64 0, .slice none 0 0, .slice none 0 0, .slice none 0 0, .slice none 0 0]).toArray ?_ ?_ ?_ (by kernel_rfl) (by kernel_rfl) ?_
    · exact rfl
    · exact rfl
    · exact rfl
    · exact rfl
    · exact HZT.out
    generalize w1.setCells (w.heap.size + 1 + 1) 0 [.int .i64 0, .int .i64 0, .int .i64 0, .int .i64 0, .slice none 0 0, .slice none 0 0, .slice none 0 0, .slice none 0 0] = wz at HZ4 HB4 ⊢
    go_wp2
    exact bodyPost_ret (results_cell_tmp rfl rfl (run_loadVar_mid wz (w.heap.size + 1 + 1) 0 34 _ _ HZ4.out.row Tryz.underlying34 rfl (by kernel_rfl))) rfl ⟨rfl, HB4.out⟩
  · go_wp2_with fail
    refine (C2 _).mono ?_
    rintro e w2 ⟨rfl, hb2⟩
    have HZ2 : Hid (Lies w2 (w.heap.size + 1 + 1) [.int .i64 0, .int .i64 0, .int .i64 0, .int .i64 0, .slice none 0 0, .slice none 0 0, .slice none 0 0, .slice none 0 0]) := HZ1.out.belowS hb2
    have HB2 : Hid (Below w.heap.size w w2) := HB1.out.trans (hb2.mono HB1.out.size)
    clear hb2 s0 s1 HS1 HZ1 HB1
    have HZT : Hid (w2.there (w.heap.size + 1 + 1) 0 8) := HZ2.out.there 0 8 (by simp)
    have HZ4 : Hid (Lies (w2.setCells (w.heap.size + 1 + 1) 0 [.int .i64 0, .int .i64 0, .int .i64 0, .int .i64 0, .slice none 0 0, .slice none 0 0, .slice none 0 0, .slice none 0 0]) (w.heap.size + 1 + 1) [.int .i64 0, .int .i64 0, .int .i64 0, .int .i64 0, .slice none 0 0, .slice none 0 0, .slice none 0 0, .slice none 0 0]) := HZ2.out.setCells [.int .i64 0, .int .i64 0, .int .i64 0, .int .i64 0, .slice none 0 0, .slice none 0 0, .slice none 0 0, .slice none 0 0] 0 (by simp)
    have HB4 : Hid (Below w.heap.size w (w2.setCells (w.heap.size + 1 + 1) 0 [.int .i64 0, .int .i64 0, .int .i64 0, .int .i64 0, .slice none 0 0, .slice none 0 0, .slice none 0 0, .slice none 0 0])) := below_setCells _ 0 HB2.out (by omega)
    go_wp2_with (with_reducible refine wpList_stopn ?_ ?_; rfl)
    show wpList _ _ _ _ _ _
    with_reducible refine wpList_store_mid ?_ 34 (.tmp 6) (.tmp 33) ?_ (w.heap.size + 1 + 1) 0 ([.int .i64 0, .int .i64 0, .int .i64 0, .int .i64 0, .slice none 0 0, .slice none 0 0, .slice none 0 0, .slice none 0 0]).toArray ?_ ?_ ?_ (by kernel_rfl) (by kernel_rfl) ?_
    · exact rfl
    · exact rfl
    · exact rfl
    · exact rfl
    · exact HZT.out
    generalize w2.setCells (w.heap.size + 1 + 1) 0 [.int .i64 0, .int .i64 0, .int .i64 0, .int .i64 0, .slice none 0 0, .slice none 0 0, .slice none 0 0, .slice none 0 0] = wz at HZ4 HB4 ⊢
    go_wp2
    exact bodyPost_ret (results_cell_tmp rfl rfl (run_loadVar_mid wz (w.heap.size + 1 + 1) 0 34 _ _ HZ4.out.row Tryz.underlying34 rfl (by kernel_rfl))) rfl ⟨rfl, HB4.out⟩
  · go_wp2_with fail
    refine (C2 _).mono ?_
    rintro e w2 ⟨rfl, hb2⟩
    have HZ2 : Hid (Lies w2 (w.heap.size + 1 + 1) [.int .i64 0, .int .i64 0, .int .i64 0, .int .i64 0, .slice none 0 0, .slice none 0 0, .slice none 0 0, .slice none 0 0]) := HZ1.out.belowS hb2
    have HB2 : Hid (Below w.heap.size w w2) := HB1.out.trans (hb2.mono HB1.out.size)
    clear hb2 s0 s1 HS1 HZ1 HB1
    go_wp2_with fail
    refine (C3 _).mono ?_
    rintro e w2 ⟨rfl, rfl⟩
    have HZT : Hid (w2.there (w.heap.size + 1 + 1) 0 8) := HZ2.out.there 0 8 (by simp)
    have HZ4 : Hid (Lies (w2.setCells (w.heap.size + 1 + 1) 0 [.int .i64 0, .int .i64 0, .int .i64 0, .int .i64 0, .slice none 0 0, .slice none 0 0, .slice none 0 0, .slice none 0 0]) (w.heap.size + 1 + 1) [.int .i64 0, .int .i64 0, .int .i64 0, .int .i64 0, .slice none 0 0, .slice none 0 0, .slice none 0 0, .slice none 0 0]) := HZ2.out.setCells [.int .i64 0, .int .i64 0, .int .i64 0, .int .i64 0, .slice none 0 0, .slice none 0 0, .slice none 0 0, .slice none 0 0] 0 (by simp)
    have HB4 : Hid (Below w.heap.size w (w2.setCells (w.heap.size + 1 + 1) 0 [.int .i64 0, .int .i64 0, .int .i64 0, .int .i64 0, .slice none 0 0, .slice none 0 0, .slice none 0 0, .slice none 0 0])) := below_setCells _ 0 HB2.out (by omega)
    go_wp2_with (with_reducible refine wpList_stopn ?_ ?_; rfl)
    show wpList _ _ _ _ _ _
    with_reducible refine wpList_store_mid ?_ 34 (.tmp 6) (.tmp 33) ?_ (w.heap.size + 1 + 1) 0 ([.int .i64 0, .int .i64 0, .int .i64 0, .int .i64 0, .slice none 0 0, .slice none 0 0, .slice none 0 0, .slice none 0 0]).toArray ?_ ?_ ?_ (by kernel_rfl) (by kernel_rfl) ?_
    · exact rfl
    · exact rfl
    · exact rfl
    · exact rfl
    · exact HZT.out
    generalize w2.setCells (w.heap.size + 1 + 1) 0 [.int .i64 0, .int .i64 0, .int .i64 0, .int .i64 0, .slice none 0 0, .slice none 0 0, .slice none 0 0, .slice none 0 0] = wz at HZ4 HB4 ⊢
    go_wp2
    exact bodyPost_ret (results_cell_tmp rfl rfl (run_loadVar_mid wz (w.heap.size + 1 + 1) 0 34 _ _ HZ4.out.row Tryz.underlying34 rfl (by kernel_rfl))) rfl ⟨rfl, HB4.out⟩
end Go.Proofs.YtbcfjbkmkknmfaaGreatDoor
namespace Go.Proofs.YtbcfjbkmkknmfaaGreatDoor
open Go.RowKit

theorem l2Divide_any {a b : Option Addr} {n m c d : Nat} {zs ys : List Int} (w : World) (hz : Sees w a n c zs) (hy : Sees w b m d ys) (ha : M.allEl zs = true) (hb : M.allEl ys = true) (nz : M.neat zs) (ny : M.neat ys) (hn : n ≤ 128) (hm : m ≤ 128) (h1 : 0 < m) :
    Calls Tryz.prog 47 #[.slice a n c, .slice b m d] w fun e w' => ∃ a1 l1 c1 a2 l2 c2 q r, e = .returned (.tuple #[.slice a1 l1 c1, .slice a2 l2 c2]) ∧ Owns 2 w' w.heap.size a1 l1 c1 q ∧ Owns 2 w' w.heap.size a2 l2 c2 r ∧ M.Div zs ys q r ∧ (∀ x y, a1 = some x → a2 = some y → x.block ≠ y.block) ∧ Below w.heap.size w w' := by
  by_cases h : m ≤ n
  · exact l2Divide_long w hz hy ha hb ny hn h1 h
  · exact l2Divide_short w hz hy ha nz hn hm h1 (by omega)
theorem far_atN {a b : Option Addr} {n c m d s : Nat} {pb : Nat} (h : (Value.slice b m d).ownBlock = (Value.slice a n c).ownBlock ∨ (Value.slice b m d).ownBlock = some s) (hp : pb < s) (hv : ∀ y, a = some y → y.block ≠ pb) : ∀ y, b = some y → y.block ≠ pb := by
  refine own_some (b := pb) (n := m) (c := d) ?_
  rcases h with e | e
  · rw [e]; exact own_none hv
  · rw [e]; intro e2; injection e2 with e3; omega
theorem M.fsts_take {ps : List (Int × Int)} {k : Nat} (h : k = ps.length) : (M.fsts ps).take k = M.fsts ps := List.take_of_length_le (by rw [M.fsts_len]; omega)
theorem M.snds_take {ps : List (Int × Int)} {k : Nat} (h : k = ps.length) : (M.snds ps).take k = M.snds ps := List.take_of_length_le (by rw [M.snds_len]; omega)
set_option maxHeartbeats 8000000 in
set_option maxRecDepth 10000 in
theorem specProved_in (m : M.Mc) (s : Int × Int) (N : Nat) (w : World) (hm : m.ok = true) (hs : M.sOk s = true) (h : M.rowsN N = true) :
    Calls Tryz.prog 10 #[mcv m, stv s, .int .i64 N] w fun e w' => ∃ (xa : Option Addr) (xc : Nat) (ya : Option Addr) (yc : Nat) (qxa : Option Addr) (qxc : Nat) (qya : Option Addr) (qyc : Nat), e = .returned (.tuple #[.agg #[.int .i64 s.1, .int .i64 s.2, .int .i64 (m.rn s (N - 1)).1, .int .i64 (m.rn s (N - 1)).2, .slice xa (4 * N) xc, .slice ya (4 * N) yc, .slice qxa (4 * N) qxc, .slice qya (4 * N) qyc], .bool true]) ∧
      (Owns 2 w' w.heap.size xa (4 * N) xc (m.pf s N).X ∧ Owns 2 w' w.heap.size ya (4 * N) yc (m.pf s N).Y ∧ Owns 2 w' w.heap.size qxa (4 * N) qxc (m.pf s N).QX ∧ Owns 2 w' w.heap.size qya (4 * N) qyc (m.pf s N).QY) ∧ (far xa ya ∧ far xa qxa ∧ far xa qya ∧ far ya qxa ∧ far ya qya ∧ far qxa qya) ∧ Below w.heap.size w w' := by
  have hb16 := M.rowsN_pos h
  obtain ⟨K, hK⟩ : ∃ K : Nat, K = 4 * N := ⟨_, rfl⟩
  have hK4 : K ≤ 64 := by omega
  have C1 : ∀ W, Calls Tryz.prog 42 #[mcv m] W fun e w' => e = .returned (.bool true) ∧ Below W.heap.size W w' := fun W => by rw [← hm]; exact specMachineOk_any m W
  have C2 : ∀ W, Calls Tryz.prog 43 #[stv s] W fun e w' => e = .returned (.bool true) ∧ Below W.heap.size W w' := fun W => by rw [← hs]; exact specStateOk_any s W
  have C3 : ∀ W, Calls Tryz.prog 44 #[.int .i64 N] W fun e w' => e = .returned (.bool true) ∧ w' = W := fun W => by rw [← M.rowsI_of h]; exact l6Rows_any N W
  have hro : M.runOk m s ((N : Int) - 1) = true := M.runOk_mk hm hs (by omega) (by omega)
  have C4 : ∀ W, Calls Tryz.prog 45 #[mcv m, stv s, .int .i64 ((N : Int) - 1)] W fun e w' => ∃ a cap, e = .returned (.tuple #[.slice a N cap, .bool true]) ∧ OwnsQ 29 w' W.heap.size a N cap (m.run s (N - 1)) ∧ Below W.heap.size W w' := fun W => (specRunOf_any m s ((N : Int) - 1) W).mono fun e w' ⟨a, l, cap, h1, h2, h3, h4⟩ => by
    rw [hro] at h1
    rw [M.runv_in hro, show ((N : Int) - 1).toNat = N - 1 by omega] at h3
    have hl : l = N := by have := h3.1; rw [M.run_len] at this; omega
    subst hl
    exact ⟨a, cap, h1, h3, h4⟩
  have C5 : Hid (∀ (W : World) {a : Option Addr} {c : Nat}, Sees W a N c (M.fsts (m.run s (N - 1))) → Calls Tryz.prog 46 #[.slice a N c, .int .i64 1] W fun e w' => ∃ a' l c', e = .returned (.slice a' l c') ∧ Owns 2 w' W.heap.size a' l c' (M.fx m s N) ∧ Below W.heap.size W w') := fun W _ _ hW => by
    rw [M.run_fsts m s (by omega)] at hW
    exact l3From_any 1 W hW (M.xsR_all hs N) (M.row_pt (M.rowsN_two h))
  have C6 : Hid (∀ (W : World) {a : Option Addr} {c : Nat}, Sees W a N c (M.snds (m.run s (N - 1))) → Calls Tryz.prog 46 #[.slice a N c, .int .i64 1] W fun e w' => ∃ a' l c', e = .returned (.slice a' l c') ∧ Owns 2 w' W.heap.size a' l c' (M.fy m s N) ∧ Below W.heap.size W w') := fun W _ _ hW => by
    rw [M.run_snds m s (by omega)] at hW
    exact l3From_any 1 W hW (M.ysR_all hs N) (M.row_pt (M.rowsN_two h))
  have ht := M.thru_f m hs h
  obtain ⟨hLX, hLY⟩ := M.left_rows ht
  obtain ⟨hmX, hmY⟩ : m.X.ok = true ∧ m.Y.ok = true := by unfold M.Mc.ok at hm; simpa using hm
  have HXl : Hid ((M.fx m s N).length ≤ N) := ht.lx
  have HYl : Hid ((M.fy m s N).length ≤ N) := ht.ly
  have lrX := M.len_rl m.X (by omega) ht.lx ht.ly
  have lrY := M.len_rl m.Y (by omega) ht.lx ht.ly
  have R1 : Hid (∀ (W : World) {a b : Option Addr} {n c p d : Nat}, Sees W a n c (M.fx m s N) → Sees W b p d (M.fy m s N) → Calls Tryz.prog 49 #[rlv m.X, .slice a n c, .slice b p d] W fun e w' => ∃ a' l c', e = .returned (.slice a' l c') ∧ l ≤ 301 ∧ Owns 2 w' W.heap.size a' l c' (M.rl m.X (M.fx m s N) (M.fy m s N)) ∧ Below W.heap.size W w') := fun W _ _ _ _ _ _ h1 h2 => l6Rule_any m.X W hmX h1 h2 ht.ax ht.ay (by have := h1.len; have := ht.lx; omega) (by have := h2.len; have := ht.ly; omega)
  have R2 : Hid (∀ (W : World) {a b : Option Addr} {n c p d : Nat}, Sees W a n c (M.fx m s N) → Sees W b p d (M.fy m s N) → Calls Tryz.prog 49 #[rlv m.Y, .slice a n c, .slice b p d] W fun e w' => ∃ a' l c', e = .returned (.slice a' l c') ∧ l ≤ 301 ∧ Owns 2 w' W.heap.size a' l c' (M.rl m.Y (M.fx m s N) (M.fy m s N)) ∧ Below W.heap.size W w') := fun W _ _ _ _ _ _ h1 h2 => l6Rule_any m.Y W hmY h1 h2 ht.ax ht.ay (by have := h1.len; have := ht.lx; omega) (by have := h2.len; have := ht.ly; omega)
  have E1 : Hid (∀ (W : World) {a b : Option Addr} {n c p d : Nat}, Sees W a n c (M.fx m s N) → Sees W b p d (M.rl m.X (M.fx m s N) (M.fy m s N)) → Calls Tryz.prog 48 #[.slice a n c, .slice b p d, .int .i64 N] W fun e w' => ∃ a' l c', e = .returned (.slice a' l c') ∧ Owns 2 w' W.heap.size a' l c' (M.left (M.fx m s N) (M.rl m.X (M.fx m s N) (M.fy m s N)) (M.root N) (M.lst N)) ∧ Below W.heap.size W w') := fun W _ _ _ _ _ _ h1 h2 => l6Left_any N W h h1 h2 ht.ax (M.all_rl _ _ _) (by have := h1.len; have := ht.lx; omega) (by have := h2.len; omega)
  have E2 : Hid (∀ (W : World) {a b : Option Addr} {n c p d : Nat}, Sees W a n c (M.fy m s N) → Sees W b p d (M.rl m.Y (M.fx m s N) (M.fy m s N)) → Calls Tryz.prog 48 #[.slice a n c, .slice b p d, .int .i64 N] W fun e w' => ∃ a' l c', e = .returned (.slice a' l c') ∧ Owns 2 w' W.heap.size a' l c' (M.left (M.fy m s N) (M.rl m.Y (M.fx m s N) (M.fy m s N)) (M.root N) (M.lst N)) ∧ Below W.heap.size W w') := fun W _ _ _ _ _ _ h1 h2 => l6Left_any N W h h1 h2 ht.ay (M.all_rl _ _ _) (by have := h1.len; have := ht.ly; omega) (by have := h2.len; omega)
  have Z1 := fun W => l6Zero_any N W (by omega) (by omega)
  have lfX := M.len_left (g := M.root N) (last := M.lst N) (by omega) ht.lx lrX
  have lfY := M.len_left (g := M.root N) (last := M.lst N) (by omega) ht.ly lrY
  have D1 : Hid (∀ (W : World) {a b : Option Addr} {n c d : Nat}, Sees W a n c (M.left (M.fx m s N) (M.rl m.X (M.fx m s N) (M.fy m s N)) (M.root N) (M.lst N)) → Sees W b (N + 1) d (M.zeroL N) → Calls Tryz.prog 47 #[.slice a n c, .slice b (N + 1) d] W fun e w' => ∃ a1 l1 c1 a2 l2 c2 q, e = .returned (.tuple #[.slice a1 l1 c1, .slice a2 l2 c2]) ∧ Owns 2 w' W.heap.size a1 l1 c1 q ∧ (M.wide q N = (m.pf s N).QX ∧ M.allEl q = true) ∧ Below W.heap.size W w') := fun W _ _ _ _ _ h1 h2 => (l2Divide_any W h1 h2 (M.all_left _ _ _ _) (M.zeroL_all (by omega)) (M.neat_left _ _ _ _) (M.zeroL_neat (by omega)) (by have := h1.len; omega) (by omega) (by omega)).mono fun e w' ⟨a1, l1, c1, a2, l2, c2, q, r, g1, g2, _, g4, _, g6⟩ => ⟨a1, l1, c1, a2, l2, c2, q, g1, g2, ⟨M.quo_div h hLX g4, g4.aq⟩, g6⟩
  have D2 : Hid (∀ (W : World) {a b : Option Addr} {n c d : Nat}, Sees W a n c (M.left (M.fy m s N) (M.rl m.Y (M.fx m s N) (M.fy m s N)) (M.root N) (M.lst N)) → Sees W b (N + 1) d (M.zeroL N) → Calls Tryz.prog 47 #[.slice a n c, .slice b (N + 1) d] W fun e w' => ∃ a1 l1 c1 a2 l2 c2 q, e = .returned (.tuple #[.slice a1 l1 c1, .slice a2 l2 c2]) ∧ Owns 2 w' W.heap.size a1 l1 c1 q ∧ (M.wide q N = (m.pf s N).QY ∧ M.allEl q = true) ∧ Below W.heap.size W w') := fun W _ _ _ _ _ h1 h2 => (l2Divide_any W h1 h2 (M.all_left _ _ _ _) (M.zeroL_all (by omega)) (M.neat_left _ _ _ _) (M.zeroL_neat (by omega)) (by have := h1.len; omega) (by omega) (by omega)).mono fun e w' ⟨a1, l1, c1, a2, l2, c2, q, r, g1, g2, _, g4, _, g6⟩ => ⟨a1, l1, c1, a2, l2, c2, q, g1, g2, ⟨M.quo_div h hLY g4, g4.aq⟩, g6⟩
  have EV : Hid (∀ (W : World) {a : Option Addr} {n c : Nat} {q P : List Int}, Sees W a n c q → M.allEl q = true → M.wide q N = P → Calls Tryz.prog 51 #[.slice a n c, .int .i64 (4 * N : Nat), .int .i64 3] W fun e w' => ∃ a' c', e = .returned (.slice a' (4 * N) c') ∧ Owns 2 w' W.heap.size a' (4 * N) c' P ∧ Below W.heap.size W w') := fun W _ _ _ _ _ h1 h2 h3 => by
    subst h3; exact l3Evals_any (4 * N) 3 W h1 h2 (M.rowsN_pt h)
  have CV1 : Hid (∀ (W : World) {a : Option Addr} {n c : Nat}, Sees W a n c (M.fx m s N) → Calls Tryz.prog 51 #[.slice a n c, .int .i64 (4 * N : Nat), .int .i64 3] W fun e w' => ∃ a' c', e = .returned (.slice a' (4 * N) c') ∧ Owns 2 w' W.heap.size a' (4 * N) c' (m.pf s N).X ∧ Below W.heap.size W w') := fun W _ _ _ h1 => EV.out W h1 ht.ax rfl
  have CV2 : Hid (∀ (W : World) {a : Option Addr} {n c : Nat}, Sees W a n c (M.fy m s N) → Calls Tryz.prog 51 #[.slice a n c, .int .i64 (4 * N : Nat), .int .i64 3] W fun e w' => ∃ a' c', e = .returned (.slice a' (4 * N) c') ∧ Owns 2 w' W.heap.size a' (4 * N) c' (m.pf s N).Y ∧ Below W.heap.size W w') := fun W _ _ _ h1 => EV.out W h1 ht.ay rfl
  have HLast : Hid ((m.run s (N - 1)).getD (N - 1) (0, 0) = m.rn s (N - 1)) := M.run_getD m s (Nat.le_refl _)
  have HF0 : Hid (∀ k, k < N → (M.fsts (m.run s (N - 1))).take k ++ [((m.run s (N - 1)).getD k (0, 0)).1] = (M.fsts (m.run s (N - 1))).take (k + 1)) := fun k hk => M.fsts_snoc _ (by rw [M.run_len]; omega)
  have HG0 : Hid (∀ k, k < N → (M.snds (m.run s (N - 1))).take k ++ [((m.run s (N - 1)).getD k (0, 0)).2] = (M.snds (m.run s (N - 1))).take (k + 1)) := fun k hk => M.snds_snoc _ (by rw [M.run_len]; omega)
  have HFN : Hid ((M.fsts (m.run s (N - 1))).take N = M.fsts (m.run s (N - 1))) := M.fsts_take (by rw [M.run_len]; omega)
  have HGN : Hid ((M.snds (m.run s (N - 1))).take N = M.snds (m.run s (N - 1))) := M.snds_take (by rw [M.run_len]; omega)
  simp only [← hK] at EV CV1 CV2 ⊢
  generalize (m.pf s N).X = VX at CV1 ⊢
  generalize (m.pf s N).Y = VY at CV2 ⊢
  generalize (m.pf s N).QX = QX at D1 ⊢
  generalize (m.pf s N).QY = QY at D2 ⊢
  generalize M.left (M.fx m s N) (M.rl m.X (M.fx m s N) (M.fy m s N)) (M.root N) (M.lst N) = LX at E1 D1
  generalize M.left (M.fy m s N) (M.rl m.Y (M.fx m s N) (M.fy m s N)) (M.root N) (M.lst N) = LY at E2 D2
  generalize M.rl m.X (M.fx m s N) (M.fy m s N) = RX at R1 E1
  generalize M.rl m.Y (M.fx m s N) (M.fy m s N) = RY at R2 E2
  generalize M.zeroL N = ZL at Z1 D1 D2
  generalize M.fx m s N = FX at C5 R1 R2 E1 CV1 HXl
  generalize M.fy m s N = FY at C6 R1 R2 E2 CV2 HYl
  generalize M.fsts (m.run s (N - 1)) = FS at C5 HF0 HFN
  generalize M.snds (m.run s (N - 1)) = GS at C6 HG0 HGN
  generalize m.run s (N - 1) = RN at C4 HLast HF0 HG0
  generalize m.rn s (N - 1) = en at HLast ⊢
  have hNw : IntKind.i64.wrap ((N : Int) - 1) = (N : Int) - 1 := by rw [IntKind.wrap_i64]; omega
  have hKw : IntKind.i64.wrap (4 * (N : Int)) = (K : Int) := by rw [IntKind.wrap_i64]; omega
  have hK4i : 4 * (N : Int) = (K : Int) := by omega
  have hNb : (N : Int) ≤ 16 := by omega
  have hNl : (2 : Int) ≤ (N : Int) := by omega
  have hK0 : 0 < K := by omega
  have hN0 : 0 < N := by omega
  have hi0 : (0 : Int) ≤ (N : Int) - 1 := by omega
  have hi2 : ¬ (N : Int) < 1 := by omega
  have hi1 : (N : Int) - 1 < (N : Int) := by omega
  have hNt : ((N : Int) - 1).toNat = N - 1 := by omega
  obtain ⟨i0, hi, hz0, hz1, hz2⟩ := info_parts info_i64
  have HI : Hid (Tryz.prog.info? 2 = some i0 ∧ i0.zero = some (Value.int .i64 0) ∧ i0.size = 1 ∧ i0.bytes = 8) := ⟨hi, hz0, hz1, hz2⟩
  obtain ⟨⟨a, b, c, d, f, k⟩, ⟨a', b', c', d', f', k'⟩⟩ := m
  obtain ⟨x, y⟩ := s
  obtain ⟨ex, ey⟩ := en
  dsimp only [mcv, stv, rlv] at C1 C2 C4 R1 R2 ⊢
  have HMa : Hid (Lies (((w.alloc (.cells #[.int .i64 a, .int .i64 b, .int .i64 c, .int .i64 d, .int .i64 f, .int .i64 k, .int .i64 a', .int .i64 b', .int .i64 c', .int .i64 d', .int .i64 f', .int .i64 k'] 27)).alloc (.cells #[.int .i64 x, .int .i64 y] 29)).alloc (.cells #[.int .i64 0, .int .i64 0, .int .i64 0, .int .i64 0, .slice none 0 0, .slice none 0 0, .slice none 0 0, .slice none 0 0] 34)) w.heap.size [.int .i64 a, .int .i64 b, .int .i64 c, .int .i64 d, .int .i64 f, .int .i64 k, .int .i64 a', .int .i64 b', .int .i64 c', .int .i64 d', .int .i64 f', .int .i64 k']) := ((lies_new _ _ _).alloc _).alloc _
  have HSt : Hid (Lies (((w.alloc (.cells #[.int .i64 a, .int .i64 b, .int .i64 c, .int .i64 d, .int .i64 f, .int .i64 k, .int .i64 a', .int .i64 b', .int .i64 c', .int .i64 d', .int .i64 f', .int .i64 k'] 27)).alloc (.cells #[.int .i64 x, .int .i64 y] 29)).alloc (.cells #[.int .i64 0, .int .i64 0, .int .i64 0, .int .i64 0, .slice none 0 0, .slice none 0 0, .slice none 0 0, .slice none 0 0] 34)) (w.heap.size + 1) [.int .i64 x, .int .i64 y]) := (lies_new2 _ _ _ _).alloc _
  have HZ : Hid (Lies (((w.alloc (.cells #[.int .i64 a, .int .i64 b, .int .i64 c, .int .i64 d, .int .i64 f, .int .i64 k, .int .i64 a', .int .i64 b', .int .i64 c', .int .i64 d', .int .i64 f', .int .i64 k'] 27)).alloc (.cells #[.int .i64 x, .int .i64 y] 29)).alloc (.cells #[.int .i64 0, .int .i64 0, .int .i64 0, .int .i64 0, .slice none 0 0, .slice none 0 0, .slice none 0 0, .slice none 0 0] 34)) (w.heap.size + 1 + 1) [.int .i64 0, .int .i64 0, .int .i64 0, .int .i64 0, .slice none 0 0, .slice none 0 0, .slice none 0 0, .slice none 0 0]) := lies_new3 _ _ _ _ _
  have HB : Hid (Below w.heap.size w (((w.alloc (.cells #[.int .i64 a, .int .i64 b, .int .i64 c, .int .i64 d, .int .i64 f, .int .i64 k, .int .i64 a', .int .i64 b', .int .i64 c', .int .i64 d', .int .i64 f', .int .i64 k'] 27)).alloc (.cells #[.int .i64 x, .int .i64 y] 29)).alloc (.cells #[.int .i64 0, .int .i64 0, .int .i64 0, .int .i64 0, .slice none 0 0, .slice none 0 0, .slice none 0 0, .slice none 0 0] 34))) := (((Below.refl _ _).alloc (Nat.le_refl _) _).alloc (by simp) _).alloc (by simp; omega) _
  clear hm hs h hK hi hz0 hz1 hz2 hro ht hLX hLY hmX hmY lrX lrY lfX lfY
  go_enter Tryz.func10, Tryz.ntmps10
  go_wp2_with fail
  refine (C1 _).mono ?_
  rintro e w1 ⟨rfl, hb1⟩
  have HMan : Hid (Lies w1 w.heap.size [.int .i64 a, .int .i64 b, .int .i64 c, .int .i64 d, .int .i64 f, .int .i64 k, .int .i64 a', .int .i64 b', .int .i64 c', .int .i64 d', .int .i64 f', .int .i64 k']) := HMa.out.belowS hb1
  have HStn : Hid (Lies w1 (w.heap.size + 1) [.int .i64 x, .int .i64 y]) := HSt.out.belowS hb1
  have HZn : Hid (Lies w1 (w.heap.size + 1 + 1) [.int .i64 0, .int .i64 0, .int .i64 0, .int .i64 0, .slice none 0 0, .slice none 0 0, .slice none 0 0, .slice none 0 0]) := HZ.out.belowS hb1
  clear HMa HSt HZ
  have HMa : Hid (Lies w1 w.heap.size [.int .i64 a, .int .i64 b, .int .i64 c, .int .i64 d, .int .i64 f, .int .i64 k, .int .i64 a', .int .i64 b', .int .i64 c', .int .i64 d', .int .i64 f', .int .i64 k']) := HMan.out
  have HSt : Hid (Lies w1 (w.heap.size + 1) [.int .i64 x, .int .i64 y]) := HStn.out
  have HZ : Hid (Lies w1 (w.heap.size + 1 + 1) [.int .i64 0, .int .i64 0, .int .i64 0, .int .i64 0, .slice none 0 0, .slice none 0 0, .slice none 0 0, .slice none 0 0]) := HZn.out
  clear HMan HStn HZn
  have HBn : Hid (Below w.heap.size w w1) := HB.out.trans (hb1.mono HB.out.size)
  clear HB
  have HB : Hid (Below w.heap.size w w1) := HBn.out
  clear HBn hb1
  have s0 : w1.cell? ⟨w.heap.size + 1, 0, none⟩ = some (.int .i64 x) := HSt.out.at 0
  have s1 : w1.cell? ⟨w.heap.size + 1, 1, none⟩ = some (.int .i64 y) := HSt.out.at 1
  go_wp2_with fail
  refine (C2 _).mono ?_
  rintro e w2 ⟨rfl, hb2⟩
  have HMan : Hid (Lies w2 w.heap.size [.int .i64 a, .int .i64 b, .int .i64 c, .int .i64 d, .int .i64 f, .int .i64 k, .int .i64 a', .int .i64 b', .int .i64 c', .int .i64 d', .int .i64 f', .int .i64 k']) := HMa.out.belowS hb2
  have HStn : Hid (Lies w2 (w.heap.size + 1) [.int .i64 x, .int .i64 y]) := HSt.out.belowS hb2
  have HZn : Hid (Lies w2 (w.heap.size + 1 + 1) [.int .i64 0, .int .i64 0, .int .i64 0, .int .i64 0, .slice none 0 0, .slice none 0 0, .slice none 0 0, .slice none 0 0]) := HZ.out.belowS hb2
  clear HMa HSt HZ
  have HMa : Hid (Lies w2 w.heap.size [.int .i64 a, .int .i64 b, .int .i64 c, .int .i64 d, .int .i64 f, .int .i64 k, .int .i64 a', .int .i64 b', .int .i64 c', .int .i64 d', .int .i64 f', .int .i64 k']) := HMan.out
  have HSt : Hid (Lies w2 (w.heap.size + 1) [.int .i64 x, .int .i64 y]) := HStn.out
  have HZ : Hid (Lies w2 (w.heap.size + 1 + 1) [.int .i64 0, .int .i64 0, .int .i64 0, .int .i64 0, .slice none 0 0, .slice none 0 0, .slice none 0 0, .slice none 0 0]) := HZn.out
  clear HMan HStn HZn
  have HBn : Hid (Below w.heap.size w w2) := HB.out.trans (hb2.mono HB.out.size)
  clear HB
  have HB : Hid (Below w.heap.size w w2) := HBn.out
  clear HBn hb2
  clear s0 s1
  go_wp2_with fail
  refine (C3 _).mono ?_
  rintro e w2 ⟨rfl, rfl⟩
  have s0 : w2.cell? ⟨w.heap.size + 1, 0, none⟩ = some (.int .i64 x) := HSt.out.at 0
  have s1 : w2.cell? ⟨w.heap.size + 1, 1, none⟩ = some (.int .i64 y) := HSt.out.at 1
  have m0 : w2.cell? ⟨w.heap.size, 0, none⟩ = some (.int .i64 a) := HMa.out.at 0
  have m1 : w2.cell? ⟨w.heap.size, 1, none⟩ = some (.int .i64 b) := HMa.out.at 1
  have m2 : w2.cell? ⟨w.heap.size, 2, none⟩ = some (.int .i64 c) := HMa.out.at 2
  have m3 : w2.cell? ⟨w.heap.size, 3, none⟩ = some (.int .i64 d) := HMa.out.at 3
  have m4 : w2.cell? ⟨w.heap.size, 4, none⟩ = some (.int .i64 f) := HMa.out.at 4
  have m5 : w2.cell? ⟨w.heap.size, 5, none⟩ = some (.int .i64 k) := HMa.out.at 5
  have m6 : w2.cell? ⟨w.heap.size, 6, none⟩ = some (.int .i64 a') := HMa.out.at 6
  have m7 : w2.cell? ⟨w.heap.size, 7, none⟩ = some (.int .i64 b') := HMa.out.at 7
  have m8 : w2.cell? ⟨w.heap.size, 8, none⟩ = some (.int .i64 c') := HMa.out.at 8
  have m9 : w2.cell? ⟨w.heap.size, 9, none⟩ = some (.int .i64 d') := HMa.out.at 9
  have m10 : w2.cell? ⟨w.heap.size, 10, none⟩ = some (.int .i64 f') := HMa.out.at 10
  have m11 : w2.cell? ⟨w.heap.size, 11, none⟩ = some (.int .i64 k') := HMa.out.at 11
  go_wp2_with fail
  refine (C4 _).mono ?_
  rintro e w3 ⟨la0, lc, rfl, ho3, hb3⟩
  have HRz : Hid (OwnsQ 29 w3 (w.heap.size + 1 + 1 + 1) la0 N lc RN) := ho3.mono HZ.out.2.2
  clear ho3
  have HMan : Hid (Lies w3 w.heap.size [.int .i64 a, .int .i64 b, .int .i64 c, .int .i64 d, .int .i64 f, .int .i64 k, .int .i64 a', .int .i64 b', .int .i64 c', .int .i64 d', .int .i64 f', .int .i64 k']) := HMa.out.belowS hb3
  have HStn : Hid (Lies w3 (w.heap.size + 1) [.int .i64 x, .int .i64 y]) := HSt.out.belowS hb3
  have HZn : Hid (Lies w3 (w.heap.size + 1 + 1) [.int .i64 0, .int .i64 0, .int .i64 0, .int .i64 0, .slice none 0 0, .slice none 0 0, .slice none 0 0, .slice none 0 0]) := HZ.out.belowS hb3
  clear HMa HSt HZ
  have HMa : Hid (Lies w3 w.heap.size [.int .i64 a, .int .i64 b, .int .i64 c, .int .i64 d, .int .i64 f, .int .i64 k, .int .i64 a', .int .i64 b', .int .i64 c', .int .i64 d', .int .i64 f', .int .i64 k']) := HMan.out
  have HSt : Hid (Lies w3 (w.heap.size + 1) [.int .i64 x, .int .i64 y]) := HStn.out
  have HZ : Hid (Lies w3 (w.heap.size + 1 + 1) [.int .i64 0, .int .i64 0, .int .i64 0, .int .i64 0, .slice none 0 0, .slice none 0 0, .slice none 0 0, .slice none 0 0]) := HZn.out
  clear HMan HStn HZn
  have HBn : Hid (Below w.heap.size w w3) := HB.out.trans (hb3.mono HB.out.size)
  clear HB
  have HB : Hid (Below w.heap.size w w3) := HBn.out
  clear HBn hb3
  clear s0 s1 m0 m1 m2 m3 m4 m5 m6 m7 m8 m9 m10 m11 C1 C2 C3 C4
  obtain ⟨lb, hlb, hlo, -, -, hlc⟩ := HRz.out.block hN0
  subst hlb
  have HLC : Hid (∀ i, i < N → w3.cell? ⟨lb, i * 2, none⟩ = some (.int .i64 (RN.getD i (0, 0)).1) ∧ w3.cell? ⟨lb, i * 2 + 1, none⟩ = some (.int .i64 (RN.getD i (0, 0)).2)) := hlc
  have HLlt : Hid (lb < w3.heap.size) := World.block_lt_of_cell? w3 _ (hlc 0 hN0).1
  have HRBl : Hid ((w.heap.size + 1 + 1) < lb) := hlo
  clear hlc HRz hlo
  have HO1 : Hid (Owns 2 ((w3.alloc (.cells #[] 2)).alloc (.cells #[] 2)) w3.heap.size (some ⟨w3.heap.size, 0, none⟩) 0 0 (FS.take 0)) := by
    have h := World.ownsRow_made (base := w3.heap.size) (e := 2) (size := 1) w3 #[] 0 (Nat.le_refl _) (by unfold maxLen; omega) rfl
    exact World.ownsRow.alloc h _
  have HO2 : Hid (Owns 2 ((w3.alloc (.cells #[] 2)).alloc (.cells #[] 2)) w3.heap.size (some ⟨w3.heap.size + 1, 0, none⟩) 0 0 (GS.take 0)) := by
    have h := World.ownsRow_made (base := w3.heap.size) (e := 2) (size := 1) (w3.alloc (.cells #[] 2)) #[] 0 (by simp) (by unfold maxLen; omega) rfl
    rw [show (w3.alloc (.cells #[] 2)).heap.size = w3.heap.size + 1 by simp] at h
    exact h
  have HB3 : Hid (Below w3.heap.size w3 ((w3.alloc (.cells #[] 2)).alloc (.cells #[] 2))) := ((Below.refl _ _).alloc (Nat.le_refl _) _).alloc (by simp) _
  go_wp2
  go_loopw [10, 11, 12] (fun s1 s2 i wr => ∃ (k : Nat) (a1 : Option Addr) (c1 : Nat) (a2 : Option Addr) (c2 : Nat), k ≤ N ∧ i = .int .i64 k ∧ s1 = .slice a1 k c1 ∧ s2 = .slice a2 k c2 ∧ Owns 2 wr w3.heap.size a1 k c1 (FS.take k) ∧ Owns 2 wr w3.heap.size a2 k c2 (GS.take k) ∧ far a1 a2 ∧ Below w3.heap.size w3 wr) (fun _ _ i _ => N - (intOf i).toNat)
  case atStart => exact ⟨0, _, _, _, _, by omega, rfl, rfl, rfl, HO1.out, HO2.out, fun z1 z2 h1 h2 e => by injection h1 with h1; injection h2 with h2; subst h1; subst h2; simp at e, HB3.out⟩
  case round =>
    obtain ⟨k, a1, c1, a2, c2, hk, rfl, rfl, rfl, hp1, hp2, hp3, hp4⟩ := hrel
    have HP1 : Hid (Owns 2 wr w3.heap.size a1 k c1 (FS.take k)) := hp1
    have HP2 : Hid (Owns 2 wr w3.heap.size a2 k c2 (GS.take k)) := hp2
    have HP3 : Hid (far a1 a2) := hp3
    have HP4 : Hid (Below w3.heap.size w3 wr) := hp4
    clear hp1 hp2 hp3 hp4 HO1 HO2 HB3
    by_cases hlt : k < N
    · have e1 := (HP4.out.cell (p := ⟨lb, k * 2, none⟩) HLlt.out).trans (HLC.out k hlt).1
      have e2 := (HP4.out.cell (p := ⟨lb, k * 2 + 1, none⟩) HLlt.out).trans (HLC.out k hlt).2
      have HFk := HF0.out k hlt
      have HGk := HG0.out k hlt
      have hI : (k : Int) < (N : Int) := by omega
      have HE2 : Hid (wr.cell? ⟨lb, k * 2 + 1, none⟩ = some (.int .i64 (RN.getD k (0, 0)).2)) := e2
      have HFk' : Hid (FS.take k ++ [(RN.getD k (0, 0)).1] = FS.take (k + 1)) := HFk
      have HGk' : Hid (GS.take k ++ [(RN.getD k (0, 0)).2] = GS.take (k + 1)) := HGk
      clear HFk HGk e2
      generalize (RN.getD k (0, 0)).1 = u at e1 HFk'
      generalize (RN.getD k (0, 0)).2 = v at HE2 HGk'
      generalize FS.take k = F1 at HP1 HFk'
      generalize GS.take k = G1 at HP2 HGk'
      go_wp2_with (at_builtin; refine wpList_append_own_at _ rfl _ _ 32 rfl w3.heap.size 2 i0 (.int .i64 0) 1 8 Tryz.underlying32 HI.out.1 HI.out.2.1 HI.out.2.2.1 HI.out.2.2.2 rfl (by decide) _ k (F1.map (Value.int .i64)) rfl (World.ownsRow.alloc HP1.out _) ⟨wr.heap.size, 0, none⟩ 1 1 [.int .i64 u] rfl rfl (cell_one _ _ _) (one_int _) (by unfold maxLen; omega) (by omega) (by have := HP4.out.size; simp; omega) ?_)
      intro v' w4 hown hgrow _ hat
      have hown' : w4.ownsRow w3.heap.size 2 1 v' (k + 1) ((FS.take (k + 1)).map (Value.int .i64)) := by rw [← HFk'.out, List.map_append]; exact hown
      obtain ⟨b4, c4, rfl, ho4⟩ := Owns.form hown'
      have HP14 : Hid (Owns 2 w4 w3.heap.size b4 (k + 1) c4 (FS.take (k + 1))) := ho4
      have HP24 : Hid (Owns 2 w4 w3.heap.size a2 k c2 G1) := Owns.grownR (w := wr.alloc (.cells #[Value.int .i64 u] 2)) (HP2.out.below ((Below.refl _ _).alloc (Nat.le_refl _) _)) hgrow (fun z hz => own_none (fun q hq => HP3.out q z hq hz))
      have HP34 : Hid (far b4 a2) := fun z1 z2 h1 h2 => far_atN hat (by have := HP2.out.hi z2 h2; simp; omega) (fun q hq => HP3.out q z2 hq h2) z1 h1
      have HP44 : Hid (Below w3.heap.size w3 w4) := (HP4.out.alloc HP4.out.size _).grown hgrow (by have := HP4.out.size; simp; omega) HP1.out.row
      have e2 : w4.cell? ⟨lb, k * 2 + 1, none⟩ = some (.int .i64 v) := (HP44.out.cell (p := ⟨lb, k * 2 + 1, none⟩) HLlt.out).trans ((HP4.out.cell (p := ⟨lb, k * 2 + 1, none⟩) HLlt.out).symm.trans HE2.out)
      clear hown hown' hgrow ho4 hat HP1 HP2 HP3 HP4 HE2 HFk'
      go_wp2_with (at_builtin; refine wpList_append_own_at _ rfl _ _ 32 rfl w3.heap.size 2 i0 (.int .i64 0) 1 8 Tryz.underlying32 HI.out.1 HI.out.2.1 HI.out.2.2.1 HI.out.2.2.2 rfl (by decide) _ k (G1.map (Value.int .i64)) rfl (World.ownsRow.alloc HP24.out _) ⟨w4.heap.size, 0, none⟩ 1 1 [.int .i64 v] rfl rfl (cell_one _ _ _) (one_int _) (by unfold maxLen; omega) (by omega) (by have := HP44.out.size; simp; omega) ?_)
      intro v' w5 hown hgrow _ hat
      have hown' : w5.ownsRow w3.heap.size 2 1 v' (k + 1) ((GS.take (k + 1)).map (Value.int .i64)) := by rw [← HGk'.out, List.map_append]; exact hown
      obtain ⟨b5, c5, rfl, ho5⟩ := Owns.form hown'
      have HP25 : Hid (Owns 2 w5 w3.heap.size b5 (k + 1) c5 (GS.take (k + 1))) := ho5
      have HP15 : Hid (Owns 2 w5 w3.heap.size b4 (k + 1) c4 (FS.take (k + 1))) := Owns.grownR (w := w4.alloc (.cells #[Value.int .i64 v] 2)) (HP14.out.below ((Below.refl _ _).alloc (Nat.le_refl _) _)) hgrow (fun z hz => own_none (fun q hq => (HP34.out.symm) q z hq hz))
      have HP35 : Hid (far b4 b5) := fun z1 z2 h1 h2 => (far_atN hat (by have := HP14.out.hi z1 h1; simp; omega) (fun q hq => HP34.out.symm q z1 hq h1) z2 h2).symm
      have HP45 : Hid (Below w3.heap.size w3 w5) := (HP44.out.alloc HP44.out.size _).grown hgrow (by have := HP44.out.size; simp; omega) HP24.out.row
      clear hown hown' hgrow ho5 hat HP14 HP24 HP34 HP44
      go_wp2
      go_roundw
      case rel => exact ⟨k + 1, b4, c4, b5, c5, by omega, by go_num, rfl, rfl, HP15.out, HP25.out, HP35.out, HP45.out⟩
      case measure => simp [intOf]; omega
    · have hkn : N = k := by omega
      subst hkn
      rw [HFN.out] at HP1
      rw [HGN.out] at HP2
      have HW3 : Hid (Below w3.heap.size w3 wr) := HP4.out
      have HPx : Hid (Owns 2 wr w3.heap.size a1 N c1 FS) := HP1.out
      have HPy : Hid (Owns 2 wr w3.heap.size a2 N c2 GS) := HP2.out
      clear HP1 HP2 HP3 HP4
      go_wp2_with fail
      refine (C5.out _ HPx.out.sees).mono ?_
      rintro e wt1 ⟨xa, xl, xc, rfl, hox, hbt1⟩
      have hxl : xl ≤ 16 := by have h1 := hox.len; have h2 := HXl.out; omega
      have HXn : Hid (Owns 2 wt1 w3.heap.size xa xl xc FX) := hox.mono HW3.out.size
      have HW3n : Hid (Below w3.heap.size w3 wt1) := HW3.out.trans (hbt1.mono HW3.out.size)
      have HPyn : Hid (Owns 2 wt1 w3.heap.size a2 N c2 GS) := HPy.out.below hbt1
      clear HW3 HPx HPy hbt1
      have HW3 : Hid (Below w3.heap.size w3 wt1) := HW3n.out
      have HPy : Hid (Owns 2 wt1 w3.heap.size a2 N c2 GS) := HPyn.out
      have HX : Hid (Owns 2 wt1 w3.heap.size xa xl xc FX) := HXn.out
      clear HW3n HPyn HXn
      clear hox
      go_wp2_with fail
      refine (C6.out _ HPy.out.sees).mono ?_
      rintro e wt2 ⟨ya, yl, yc, rfl, hoy, hbt2⟩
      have hyl : yl ≤ 16 := by have h1 := hoy.len; have h2 := HYl.out; omega
      have HYn : Hid (Owns 2 wt2 w3.heap.size ya yl yc FY) := hoy.mono HW3.out.size
      have HW3n : Hid (Below w3.heap.size w3 wt2) := HW3.out.trans (hbt2.mono HW3.out.size)
      have HXn : Hid (Owns 2 wt2 w3.heap.size xa xl xc FX) := HX.out.below hbt2
      clear HW3 HPy HX hbt2
      have HW3 : Hid (Below w3.heap.size w3 wt2) := HW3n.out
      have HX : Hid (Owns 2 wt2 w3.heap.size xa xl xc FX) := HXn.out
      have HY : Hid (Owns 2 wt2 w3.heap.size ya yl yc FY) := HYn.out
      clear HW3n HXn HYn
      clear hoy
      have m0 : wt2.cell? ⟨w.heap.size, 0, none⟩ = some (.int .i64 a) := (HMa.out.belowS HW3.out).at 0
      have m1 : wt2.cell? ⟨w.heap.size, 1, none⟩ = some (.int .i64 b) := (HMa.out.belowS HW3.out).at 1
      have m2 : wt2.cell? ⟨w.heap.size, 2, none⟩ = some (.int .i64 c) := (HMa.out.belowS HW3.out).at 2
      have m3 : wt2.cell? ⟨w.heap.size, 3, none⟩ = some (.int .i64 d) := (HMa.out.belowS HW3.out).at 3
      have m4 : wt2.cell? ⟨w.heap.size, 4, none⟩ = some (.int .i64 f) := (HMa.out.belowS HW3.out).at 4
      have m5 : wt2.cell? ⟨w.heap.size, 5, none⟩ = some (.int .i64 k) := (HMa.out.belowS HW3.out).at 5
      go_wp2_with fail
      refine (R1.out _ HX.out.sees HY.out.sees).mono ?_
      rintro e wt3 ⟨ta, tl, tc, rfl, htl, hor, hbt3⟩
      have HTn : Hid (Owns 2 wt3 w3.heap.size ta tl tc RX) := hor.mono HW3.out.size
      have HW3n : Hid (Below w3.heap.size w3 wt3) := HW3.out.trans (hbt3.mono HW3.out.size)
      have HXn : Hid (Owns 2 wt3 w3.heap.size xa xl xc FX) := HX.out.below hbt3
      have HYn : Hid (Owns 2 wt3 w3.heap.size ya yl yc FY) := HY.out.below hbt3
      clear HW3 HX HY hbt3
      have HW3 : Hid (Below w3.heap.size w3 wt3) := HW3n.out
      have HX : Hid (Owns 2 wt3 w3.heap.size xa xl xc FX) := HXn.out
      have HY : Hid (Owns 2 wt3 w3.heap.size ya yl yc FY) := HYn.out
      have HT : Hid (Owns 2 wt3 w3.heap.size ta tl tc RX) := HTn.out
      clear HW3n HXn HYn HTn
      clear hor htl m0 m1 m2 m3 m4 m5
      go_wp2_with fail
      refine (E1.out _ HX.out.sees HT.out.sees).mono ?_
      rintro e wt4 ⟨ea, el, ec, rfl, hoe, hbt4⟩
      have HEn : Hid (Owns 2 wt4 w3.heap.size ea el ec LX) := hoe.mono HW3.out.size
      have HW3n : Hid (Below w3.heap.size w3 wt4) := HW3.out.trans (hbt4.mono HW3.out.size)
      have HXn : Hid (Owns 2 wt4 w3.heap.size xa xl xc FX) := HX.out.below hbt4
      have HYn : Hid (Owns 2 wt4 w3.heap.size ya yl yc FY) := HY.out.below hbt4
      clear HW3 HX HY HT hbt4
      have HW3 : Hid (Below w3.heap.size w3 wt4) := HW3n.out
      have HX : Hid (Owns 2 wt4 w3.heap.size xa xl xc FX) := HXn.out
      have HY : Hid (Owns 2 wt4 w3.heap.size ya yl yc FY) := HYn.out
      have HE : Hid (Owns 2 wt4 w3.heap.size ea el ec LX) := HEn.out
      clear HW3n HXn HYn HEn
      clear hoe
      go_wp2_with fail
      refine (Z1 _).mono ?_
      rintro e wt5 ⟨za, zc, rfl, hoz, hbt5⟩
      have HZzn : Hid (Owns 2 wt5 w3.heap.size za (N + 1) zc ZL) := hoz.mono HW3.out.size
      have HW3n : Hid (Below w3.heap.size w3 wt5) := HW3.out.trans (hbt5.mono HW3.out.size)
      have HXn : Hid (Owns 2 wt5 w3.heap.size xa xl xc FX) := HX.out.below hbt5
      have HYn : Hid (Owns 2 wt5 w3.heap.size ya yl yc FY) := HY.out.below hbt5
      have HEn : Hid (Owns 2 wt5 w3.heap.size ea el ec LX) := HE.out.below hbt5
      clear HW3 HX HY HE hbt5
      have HW3 : Hid (Below w3.heap.size w3 wt5) := HW3n.out
      have HX : Hid (Owns 2 wt5 w3.heap.size xa xl xc FX) := HXn.out
      have HY : Hid (Owns 2 wt5 w3.heap.size ya yl yc FY) := HYn.out
      have HE : Hid (Owns 2 wt5 w3.heap.size ea el ec LX) := HEn.out
      have HZz : Hid (Owns 2 wt5 w3.heap.size za (N + 1) zc ZL) := HZzn.out
      clear HW3n HXn HYn HEn HZzn
      clear hoz
      go_wp2_with fail
      refine (D1.out _ HE.out.sees HZz.out.sees).mono ?_
      rintro e wt6 ⟨qa, ql, qc, qa2, ql2, qc2, q1, rfl, hoq, hq1, hbt6⟩
      have HQn : Hid (Owns 2 wt6 w3.heap.size qa ql qc q1) := hoq.mono HW3.out.size
      have HW3n : Hid (Below w3.heap.size w3 wt6) := HW3.out.trans (hbt6.mono HW3.out.size)
      have HXn : Hid (Owns 2 wt6 w3.heap.size xa xl xc FX) := HX.out.below hbt6
      have HYn : Hid (Owns 2 wt6 w3.heap.size ya yl yc FY) := HY.out.below hbt6
      clear HW3 HX HY HE HZz hbt6
      have HW3 : Hid (Below w3.heap.size w3 wt6) := HW3n.out
      have HX : Hid (Owns 2 wt6 w3.heap.size xa xl xc FX) := HXn.out
      have HY : Hid (Owns 2 wt6 w3.heap.size ya yl yc FY) := HYn.out
      have HQ : Hid (Owns 2 wt6 w3.heap.size qa ql qc q1) := HQn.out
      clear HW3n HXn HYn HQn
      clear hoq
      have HQ1 : Hid (M.wide q1 N = QX ∧ M.allEl q1 = true) := hq1
      clear hq1
      have m6 : wt6.cell? ⟨w.heap.size, 6, none⟩ = some (.int .i64 a') := (HMa.out.belowS HW3.out).at 6
      have m7 : wt6.cell? ⟨w.heap.size, 7, none⟩ = some (.int .i64 b') := (HMa.out.belowS HW3.out).at 7
      have m8 : wt6.cell? ⟨w.heap.size, 8, none⟩ = some (.int .i64 c') := (HMa.out.belowS HW3.out).at 8
      have m9 : wt6.cell? ⟨w.heap.size, 9, none⟩ = some (.int .i64 d') := (HMa.out.belowS HW3.out).at 9
      have m10 : wt6.cell? ⟨w.heap.size, 10, none⟩ = some (.int .i64 f') := (HMa.out.belowS HW3.out).at 10
      have m11 : wt6.cell? ⟨w.heap.size, 11, none⟩ = some (.int .i64 k') := (HMa.out.belowS HW3.out).at 11
      go_wp2_with fail
      refine (R2.out _ HX.out.sees HY.out.sees).mono ?_
      rintro e wt7 ⟨ta, tl, tc, rfl, htl, hor, hbt7⟩
      have HTn : Hid (Owns 2 wt7 w3.heap.size ta tl tc RY) := hor.mono HW3.out.size
      have HW3n : Hid (Below w3.heap.size w3 wt7) := HW3.out.trans (hbt7.mono HW3.out.size)
      have HXn : Hid (Owns 2 wt7 w3.heap.size xa xl xc FX) := HX.out.below hbt7
      have HYn : Hid (Owns 2 wt7 w3.heap.size ya yl yc FY) := HY.out.below hbt7
      have HQn : Hid (Owns 2 wt7 w3.heap.size qa ql qc q1) := HQ.out.below hbt7
      clear HW3 HX HY HQ hbt7
      have HW3 : Hid (Below w3.heap.size w3 wt7) := HW3n.out
      have HX : Hid (Owns 2 wt7 w3.heap.size xa xl xc FX) := HXn.out
      have HY : Hid (Owns 2 wt7 w3.heap.size ya yl yc FY) := HYn.out
      have HQ : Hid (Owns 2 wt7 w3.heap.size qa ql qc q1) := HQn.out
      have HT : Hid (Owns 2 wt7 w3.heap.size ta tl tc RY) := HTn.out
      clear HW3n HXn HYn HQn HTn
      clear hor htl m6 m7 m8 m9 m10 m11
      go_wp2_with fail
      refine (E2.out _ HY.out.sees HT.out.sees).mono ?_
      rintro e wt8 ⟨ea, el, ec, rfl, hoe, hbt8⟩
      have HEn : Hid (Owns 2 wt8 w3.heap.size ea el ec LY) := hoe.mono HW3.out.size
      have HW3n : Hid (Below w3.heap.size w3 wt8) := HW3.out.trans (hbt8.mono HW3.out.size)
      have HXn : Hid (Owns 2 wt8 w3.heap.size xa xl xc FX) := HX.out.below hbt8
      have HYn : Hid (Owns 2 wt8 w3.heap.size ya yl yc FY) := HY.out.below hbt8
      have HQn : Hid (Owns 2 wt8 w3.heap.size qa ql qc q1) := HQ.out.below hbt8
      clear HW3 HX HY HQ HT hbt8
      have HW3 : Hid (Below w3.heap.size w3 wt8) := HW3n.out
      have HX : Hid (Owns 2 wt8 w3.heap.size xa xl xc FX) := HXn.out
      have HY : Hid (Owns 2 wt8 w3.heap.size ya yl yc FY) := HYn.out
      have HQ : Hid (Owns 2 wt8 w3.heap.size qa ql qc q1) := HQn.out
      have HE : Hid (Owns 2 wt8 w3.heap.size ea el ec LY) := HEn.out
      clear HW3n HXn HYn HQn HEn
      clear hoe
      go_wp2_with fail
      refine (Z1 _).mono ?_
      rintro e wt9 ⟨za, zc, rfl, hoz, hbt9⟩
      have HZzn : Hid (Owns 2 wt9 w3.heap.size za (N + 1) zc ZL) := hoz.mono HW3.out.size
      have HW3n : Hid (Below w3.heap.size w3 wt9) := HW3.out.trans (hbt9.mono HW3.out.size)
      have HXn : Hid (Owns 2 wt9 w3.heap.size xa xl xc FX) := HX.out.below hbt9
      have HYn : Hid (Owns 2 wt9 w3.heap.size ya yl yc FY) := HY.out.below hbt9
      have HQn : Hid (Owns 2 wt9 w3.heap.size qa ql qc q1) := HQ.out.below hbt9
      have HEn : Hid (Owns 2 wt9 w3.heap.size ea el ec LY) := HE.out.below hbt9
      clear HW3 HX HY HQ HE hbt9
      have HW3 : Hid (Below w3.heap.size w3 wt9) := HW3n.out
      have HX : Hid (Owns 2 wt9 w3.heap.size xa xl xc FX) := HXn.out
      have HY : Hid (Owns 2 wt9 w3.heap.size ya yl yc FY) := HYn.out
      have HQ : Hid (Owns 2 wt9 w3.heap.size qa ql qc q1) := HQn.out
      have HE : Hid (Owns 2 wt9 w3.heap.size ea el ec LY) := HEn.out
      have HZz : Hid (Owns 2 wt9 w3.heap.size za (N + 1) zc ZL) := HZzn.out
      clear HW3n HXn HYn HQn HEn HZzn
      clear hoz
      go_wp2_with fail
      refine (D2.out _ HE.out.sees HZz.out.sees).mono ?_
      rintro e wt10 ⟨ga, gl, gc, ga2, gl2, gc2, q2, rfl, hog, hq2, hbt10⟩
      have HGn : Hid (Owns 2 wt10 w3.heap.size ga gl gc q2) := hog.mono HW3.out.size
      have HW3n : Hid (Below w3.heap.size w3 wt10) := HW3.out.trans (hbt10.mono HW3.out.size)
      have HXn : Hid (Owns 2 wt10 w3.heap.size xa xl xc FX) := HX.out.below hbt10
      have HYn : Hid (Owns 2 wt10 w3.heap.size ya yl yc FY) := HY.out.below hbt10
      have HQn : Hid (Owns 2 wt10 w3.heap.size qa ql qc q1) := HQ.out.below hbt10
      clear HW3 HX HY HQ HE HZz hbt10
      have HW3 : Hid (Below w3.heap.size w3 wt10) := HW3n.out
      have HX : Hid (Owns 2 wt10 w3.heap.size xa xl xc FX) := HXn.out
      have HY : Hid (Owns 2 wt10 w3.heap.size ya yl yc FY) := HYn.out
      have HQ : Hid (Owns 2 wt10 w3.heap.size qa ql qc q1) := HQn.out
      have HG : Hid (Owns 2 wt10 w3.heap.size ga gl gc q2) := HGn.out
      clear HW3n HXn HYn HQn HGn
      clear hog
      have HQ2 : Hid (M.wide q2 N = QY ∧ M.allEl q2 = true) := hq2
      clear hq2
      go_wp2
      generalize wt10 = wq at HW3 HX HY HQ HG ⊢
      have HStq : Hid (Lies wq (w.heap.size + 1) [.int .i64 x, .int .i64 y]) := HSt.out.belowS HW3.out
      have HZq : Hid (Lies wq (w.heap.size + 1 + 1) [.int .i64 0, .int .i64 0, .int .i64 0, .int .i64 0, .slice none 0 0, .slice none 0 0, .slice none 0 0, .slice none 0 0]) := HZ.out.belowS HW3.out
      have HBq : Hid (Below w.heap.size w wq) := HB.out.trans (HW3.out.mono HB.out.size)
      have hcl := HLC.out (N - 1) (by omega)
      rw [HLast.out] at hcl
      have HEn : Hid (wq.cell? ⟨lb, (N - 1) * 2, none⟩ = some (.int .i64 ex) ∧ wq.cell? ⟨lb, (N - 1) * 2 + 1, none⟩ = some (.int .i64 ey)) := ⟨(HW3.out.cell (p := ⟨lb, (N - 1) * 2, none⟩) HLlt.out).trans hcl.1, (HW3.out.cell (p := ⟨lb, (N - 1) * 2 + 1, none⟩) HLlt.out).trans hcl.2⟩
      have HRb : Hid (some lb ≠ some (w.heap.size + 1 + 1)) := fun e => by injection e with e; have := HRBl.out; omega
      have HRBQ : Hid ((w.heap.size + 1 + 1) < wq.heap.size) := HZq.out.2.2
      have HZ3 : Hid ((w.heap.size + 1 + 1) < w3.heap.size) := HZ.out.2.2
      have HXq : Hid (Sees wq xa xl xc FX) := HX.out.sees
      have HYq : Hid (Sees wq ya yl yc FY) := HY.out.sees
      have HQq : Hid (Sees wq qa ql qc q1) := HQ.out.sees
      have HGq : Hid (Sees wq ga gl gc q2) := HG.out.sees
      have HXqn : Hid (∀ z, xa = some z → some (w.heap.size + 1 + 1) ≠ some z.block) := fun z hz e => by injection e with e; have := HX.out.lo z hz; have := HZ3.out; omega
      have HYqn : Hid (∀ z, ya = some z → some (w.heap.size + 1 + 1) ≠ some z.block) := fun z hz e => by injection e with e; have := HY.out.lo z hz; have := HZ3.out; omega
      have HQqn : Hid (∀ z, qa = some z → some (w.heap.size + 1 + 1) ≠ some z.block) := fun z hz e => by injection e with e; have := HQ.out.lo z hz; have := HZ3.out; omega
      have HGqn : Hid (∀ z, ga = some z → some (w.heap.size + 1 + 1) ≠ some z.block) := fun z hz e => by injection e with e; have := HG.out.lo z hz; have := HZ3.out; omega
      have CV3 : Hid (∀ (W : World) {a : Option Addr} {n c : Nat}, Sees W a n c q1 → Calls Tryz.prog 51 #[.slice a n c, .int .i64 (K : Int), .int .i64 3] W fun e w' => ∃ a' c', e = .returned (.slice a' K c') ∧ Owns 2 w' W.heap.size a' K c' QX ∧ Below W.heap.size W w') := fun W _ _ _ h1 => EV.out W h1 HQ1.out.2 HQ1.out.1
      have CV4 : Hid (∀ (W : World) {a : Option Addr} {n c : Nat}, Sees W a n c q2 → Calls Tryz.prog 51 #[.slice a n c, .int .i64 (K : Int), .int .i64 3] W fun e w' => ∃ a' c', e = .returned (.slice a' K c') ∧ Owns 2 w' W.heap.size a' K c' QY ∧ Below W.heap.size W w') := fun W _ _ _ h1 => EV.out W h1 HQ2.out.2 HQ2.out.1
      clear hcl HX HY HQ HG HW3 HMa HSt HZ HB HLC HLast C5 C6 R1 R2 E1 E2 Z1 D1 D2 EV HQ1 HQ2 HF0 HG0 HFN HGN
      refine wp_region_noPanic ?_
      refine wp_region_held_drew (S := fun W => wq.grownBy W (some (w.heap.size + 1 + 1))) (by kernel_rfl) (grown_drew _ _) (fun hHeld => ?_)
      have HZd : Hid (Lies wq.drew (w.heap.size + 1 + 1) [.int .i64 0, .int .i64 0, .int .i64 0, .int .i64 0, .slice none 0 0, .slice none 0 0, .slice none 0 0, .slice none 0 0]) := HZq.out.below (Below.refl _ _).drew HZq.out.2.2
      generalize wq.drew = wd0 at hHeld HZd ⊢
      refine wpAnyH_take (i := 0) (v := .agg #[.int .i64 x, .int .i64 y]) rfl (by kernel_rfl) (by kernel_rfl) (by kernel_rfl) (fun _ _ _ h => h) (Or.inl ⟨by kernel_rfl, ?_⟩) (by assumption) ?_
      · intro wp hSp; have c0 : wp.cell? ⟨w.heap.size + 1, 0, none⟩ = some (.int .i64 x) := (HStq.out.grown hSp (by simp)).at 0; have c1 : wp.cell? ⟨w.heap.size + 1, 1, none⟩ = some (.int .i64 y) := (HStq.out.grown hSp (by simp)).at 1; go_simp
      try simp only [Act.put]
      refine wpAnyH_take (i := 1) (v := .slice (some ⟨lb, 0, none⟩) N lc) rfl (by kernel_rfl) (by kernel_rfl) (by kernel_rfl) (fun _ _ _ h => h) (Or.inl ⟨by kernel_rfl, ?_⟩) (by assumption) ?_
      · intro wq hSq; go_simp
      try simp only [Act.put]
      refine wpAnyH_take (i := 2) (v := .int .i64 (N : Int)) rfl (by kernel_rfl) (by kernel_rfl) (by kernel_rfl) (fun _ _ _ h => h) (Or.inl ⟨by kernel_rfl, ?_⟩) (by assumption) ?_
      · intro wq hSq; go_simp
      try simp only [Act.put]
      refine wpAnyH_take (i := 3) (v := .int .i64 ((N : Int) - 1)) rfl (by kernel_rfl) (by kernel_rfl) (by kernel_rfl) (fun _ _ _ h => h) (Or.inl ⟨by kernel_rfl, ?_⟩) (by assumption) ?_
      · intro wq hSq; go_simp
      try simp only [Act.put]
      refine wpAnyH_take (i := 4) (v := .pointer (some ⟨lb, (N - 1) * 2, none⟩)) rfl (by kernel_rfl) (by kernel_rfl) (by kernel_rfl) (fun _ _ _ h => h) (Or.inl ⟨by kernel_rfl, ?_⟩) (by assumption) ?_
      · intro wq hSq; go_simp
      try simp only [Act.put]
      refine wpAnyH_take (i := 5) (v := .agg #[.int .i64 ex, .int .i64 ey]) rfl (by kernel_rfl) (by kernel_rfl) (by kernel_rfl) (fun _ _ _ h => h) (Or.inl ⟨by kernel_rfl, ?_⟩) (by assumption) ?_
      · intro wp hSp; have c0 : wp.cell? ⟨lb, (N - 1) * 2, none⟩ = some (.int .i64 ex) := hSp.cell HEn.out.1 HRb.out; have c1 : wp.cell? ⟨lb, (N - 1) * 2 + 1, none⟩ = some (.int .i64 ey) := hSp.cell HEn.out.2 HRb.out; go_simp
      try simp only [Act.put]
      refine wpAnyH_take (i := 6) (v := .slice xa xl xc) rfl (by kernel_rfl) (by kernel_rfl) (by kernel_rfl) (fun _ _ _ h => h) (Or.inl ⟨by kernel_rfl, ?_⟩) (by assumption) ?_
      · intro wq hSq; go_simp
      try simp only [Act.put]
      refine wpAnyH_take (i := 7) (v := .int .i64 (K : Int)) rfl (by kernel_rfl) (by kernel_rfl) (by kernel_rfl) (fun _ _ _ h => h) (Or.inl ⟨by kernel_rfl, ?_⟩) (by assumption) ?_
      · intro wq hSq; go_simp
      try simp only [Act.put]
      refine wpAnyH_take (i := 9) (v := .slice ya yl yc) rfl (by kernel_rfl) (by kernel_rfl) (by kernel_rfl) (fun _ _ _ h => h) (Or.inl ⟨by kernel_rfl, ?_⟩) (by assumption) ?_
      · intro wq hSq; go_simp
      try simp only [Act.put]
      refine wpAnyH_take (i := 10) (v := .int .i64 (K : Int)) rfl (by kernel_rfl) (by kernel_rfl) (by kernel_rfl) (fun _ _ _ h => h) (Or.inl ⟨by kernel_rfl, ?_⟩) (by assumption) ?_
      · intro wq hSq; go_simp
      try simp only [Act.put]
      refine wpAnyH_take (i := 12) (v := .slice qa ql qc) rfl (by kernel_rfl) (by kernel_rfl) (by kernel_rfl) (fun _ _ _ h => h) (Or.inl ⟨by kernel_rfl, ?_⟩) (by assumption) ?_
      · intro wq hSq; go_simp
      try simp only [Act.put]
      refine wpAnyH_take (i := 13) (v := .int .i64 (K : Int)) rfl (by kernel_rfl) (by kernel_rfl) (by kernel_rfl) (fun _ _ _ h => h) (Or.inl ⟨by kernel_rfl, ?_⟩) (by assumption) ?_
      · intro wq hSq; go_simp
      try simp only [Act.put]
      refine wpAnyH_take (i := 15) (v := .slice ga gl gc) rfl (by kernel_rfl) (by kernel_rfl) (by kernel_rfl) (fun _ _ _ h => h) (Or.inl ⟨by kernel_rfl, ?_⟩) (by assumption) ?_
      · intro wq hSq; go_simp
      try simp only [Act.put]
      refine wpAnyH_take (i := 16) (v := .int .i64 (K : Int)) rfl (by kernel_rfl) (by kernel_rfl) (by kernel_rfl) (fun _ _ _ h => h) (Or.inl ⟨by kernel_rfl, ?_⟩) (by assumption) ?_
      · intro wq hSq; go_simp
      try simp only [Act.put]
      refine wpAnyH_ready (rs := [8]) (by kernel_rfl) (by simp) ?_
      refine AllReadyH.cons rfl (fun Kk hK => ?_) AllReadyH.nil
      go_simp
      refine (CV1.out _ (HXq.out.grownR hHeld HXqn.out)).mono ?_
      rintro e wg1 ⟨va, vc, rfl, hoA, hb1⟩
      go_simp
      have hS1 : wq.grownBy wg1 (some (w.heap.size + 1 + 1)) := grown_step hHeld hb1
      have HM1 : Hid (wd0.heap.size ≤ wg1.heap.size) := hb1.size
      have HZd1 : Hid (Lies wg1 (w.heap.size + 1 + 1) [.int .i64 0, .int .i64 0, .int .i64 0, .int .i64 0, .slice none 0 0, .slice none 0 0, .slice none 0 0, .slice none 0 0]) := HZd.out.belowS hb1
      have HVA1 : Hid (Owns 2 wg1 wd0.heap.size va K vc VX) := hoA
      refine hK.out _ _ hS1 (fun _ => ?_)
      clear hK Kk hb1
      have HLA : Hid (∀ z, va = some z → wd0.heap.size ≤ z.block ∧ z.block < wg1.heap.size) := fun z hz => ⟨hoA.lo z hz, hoA.hi z hz⟩
      clear hoA
      try simp only [Act.put]
      refine wpAnyH_ready (rs := [11]) (by kernel_rfl) (by simp) ?_
      refine AllReadyH.cons rfl (fun Kk hK => ?_) AllReadyH.nil
      go_simp
      refine (CV2.out _ (HYq.out.grownR hS1 HYqn.out)).mono ?_
      rintro e wg2 ⟨ua, uc, rfl, hoB, hb2⟩
      go_simp
      have hS2 : wq.grownBy wg2 (some (w.heap.size + 1 + 1)) := grown_step hS1 hb2
      have HVA2 : Hid (Owns 2 wg2 wd0.heap.size va K vc VX) := HVA1.out.below hb2
      have HM2 : Hid (wg1.heap.size ≤ wg2.heap.size) := hb2.size
      have HZd2 : Hid (Lies wg2 (w.heap.size + 1 + 1) [.int .i64 0, .int .i64 0, .int .i64 0, .int .i64 0, .slice none 0 0, .slice none 0 0, .slice none 0 0, .slice none 0 0]) := HZd1.out.belowS hb2
      have HVB2 : Hid (Owns 2 wg2 wg1.heap.size ua K uc VY) := hoB
      refine hK.out _ _ hS2 (fun _ => ?_)
      clear hK Kk hb2
      have HLB : Hid (∀ z, ua = some z → wg1.heap.size ≤ z.block ∧ z.block < wg2.heap.size) := fun z hz => ⟨hoB.lo z hz, hoB.hi z hz⟩
      clear hoB
      try simp only [Act.put]
      refine wpAnyH_ready (rs := [14]) (by kernel_rfl) (by simp) ?_
      refine AllReadyH.cons rfl (fun Kk hK => ?_) AllReadyH.nil
      go_simp
      refine (CV3.out _ (HQq.out.grownR hS2 HQqn.out)).mono ?_
      rintro e wg3 ⟨qva, qvc, rfl, hoC, hb3⟩
      go_simp
      have hS3 : wq.grownBy wg3 (some (w.heap.size + 1 + 1)) := grown_step hS2 hb3
      have HVA3 : Hid (Owns 2 wg3 wd0.heap.size va K vc VX) := HVA2.out.below hb3
      have HVB3 : Hid (Owns 2 wg3 wg1.heap.size ua K uc VY) := HVB2.out.below hb3
      have HM3 : Hid (wg2.heap.size ≤ wg3.heap.size) := hb3.size
      have HZd3 : Hid (Lies wg3 (w.heap.size + 1 + 1) [.int .i64 0, .int .i64 0, .int .i64 0, .int .i64 0, .slice none 0 0, .slice none 0 0, .slice none 0 0, .slice none 0 0]) := HZd2.out.belowS hb3
      have HVC3 : Hid (Owns 2 wg3 wg2.heap.size qva K qvc QX) := hoC
      refine hK.out _ _ hS3 (fun _ => ?_)
      clear hK Kk hb3
      have HLC : Hid (∀ z, qva = some z → wg2.heap.size ≤ z.block ∧ z.block < wg3.heap.size) := fun z hz => ⟨hoC.lo z hz, hoC.hi z hz⟩
      clear hoC
      try simp only [Act.put]
      refine wpAnyH_ready (rs := [17]) (by kernel_rfl) (by simp) ?_
      refine AllReadyH.cons rfl (fun Kk hK => ?_) AllReadyH.nil
      go_simp
      refine (CV4.out _ (HGq.out.grownR hS3 HGqn.out)).mono ?_
      rintro e wg4 ⟨qua, quc, rfl, hoD, hb4⟩
      go_simp
      have hS4 : wq.grownBy wg4 (some (w.heap.size + 1 + 1)) := grown_step hS3 hb4
      have HVA4 : Hid (Owns 2 wg4 wd0.heap.size va K vc VX) := HVA3.out.below hb4
      have HVB4 : Hid (Owns 2 wg4 wg1.heap.size ua K uc VY) := HVB3.out.below hb4
      have HVC4 : Hid (Owns 2 wg4 wg2.heap.size qva K qvc QX) := HVC3.out.below hb4
      have HM4 : Hid (wg3.heap.size ≤ wg4.heap.size) := hb4.size
      have HZd4 : Hid (Lies wg4 (w.heap.size + 1 + 1) [.int .i64 0, .int .i64 0, .int .i64 0, .int .i64 0, .slice none 0 0, .slice none 0 0, .slice none 0 0, .slice none 0 0]) := HZd3.out.belowS hb4
      have HVD4 : Hid (Owns 2 wg4 wg3.heap.size qua K quc QY) := hoD
      refine hK.out _ _ hS4 (fun _ => ?_)
      clear hK Kk hb4
      have HLD : Hid (∀ z, qua = some z → wg3.heap.size ≤ z.block ∧ z.block < wg4.heap.size) := fun z hz => ⟨hoD.lo z hz, hoD.hi z hz⟩
      clear hoD
      try simp only [Act.put]
      refine wpAnyH_take (i := 18) (v := .agg #[.int .i64 x, .int .i64 y, .int .i64 ex, .int .i64 ey, .slice va K vc, .slice ua K uc, .slice qva K qvc, .slice qua K quc]) rfl (by kernel_rfl) (by kernel_rfl) (by kernel_rfl) (fun _ _ _ h => h) (Or.inl ⟨by kernel_rfl, ?_⟩) (by assumption) ?_
      · intro wq hSq; go_simp
      try simp only [Act.put]
      refine wpAnyH_ready (rs := [19]) (by kernel_rfl) (by simp) ?_
      refine AllReadyH.cons rfl (fun Kk hK => ?_) AllReadyH.nil
      rw [if_pos (by kernel_rfl)]
      with_reducible refine wp_store_mid 34 (.tmp 6) (.tmp 118) ?_ (w.heap.size + 1 + 1) 0 ([.int .i64 x, .int .i64 y, .int .i64 ex, .int .i64 ey, .slice va K vc, .slice ua K uc, .slice qva K qvc, .slice qua K quc]).toArray ?_ ?_ ?_ (by kernel_rfl) (by kernel_rfl) ?_
      · exact rfl
      · exact rfl
      · exact rfl
      · exact HZd4.out.there 0 8 (by simp)
      have hSz : wq.grownBy (wg4.setCells (w.heap.size + 1 + 1) 0 [.int .i64 x, .int .i64 y, .int .i64 ex, .int .i64 ey, .slice va K vc, .slice ua K uc, .slice qva K qvc, .slice qua K quc]) (some (w.heap.size + 1 + 1)) := grown_cells hS4 0 _
      have HPz : Hid (Lies (wg4.setCells (w.heap.size + 1 + 1) 0 [.int .i64 x, .int .i64 y, .int .i64 ex, .int .i64 ey, .slice va K vc, .slice ua K uc, .slice qva K qvc, .slice qua K quc]) (w.heap.size + 1 + 1) [.int .i64 x, .int .i64 y, .int .i64 ex, .int .i64 ey, .slice va K vc, .slice ua K uc, .slice qva K qvc, .slice qua K quc]) := HZd4.out.setCells [.int .i64 x, .int .i64 y, .int .i64 ex, .int .i64 ey, .slice va K vc, .slice ua K uc, .slice qva K qvc, .slice qua K quc] 0 (by simp)
      have hcz : wg4.grownBy (wg4.setCells (w.heap.size + 1 + 1) 0 [.int .i64 x, .int .i64 y, .int .i64 ex, .int .i64 ey, .slice va K vc, .slice ua K uc, .slice qva K qvc, .slice qua K quc]) (some (w.heap.size + 1 + 1)) := grown_cells (World.grownBy.refl _ _) 0 _
      refine hK.out _ _ hSz (fun _ => ?_)
      clear hK Kk
      generalize wg4.setCells (w.heap.size + 1 + 1) 0 [.int .i64 x, .int .i64 y, .int .i64 ex, .int .i64 ey, .slice va K vc, .slice ua K uc, .slice qva K qvc, .slice qua K quc] = wz at hSz HPz hcz ⊢
      try simp only [Act.put]
      refine wpAnyH_take (i := 20) (v := .bool true) rfl (by kernel_rfl) (by kernel_rfl) (by kernel_rfl) (fun _ _ _ h => h) (Or.inl ⟨by kernel_rfl, ?_⟩) (by assumption) ?_
      · intro wq hSq; go_simp
      try simp only [Act.put]
      refine wpAnyH_done (by kernel_rfl) ?_ _
      refine NoPanic.normal ?_
      go_simp
      have HWA : Hid (Owns 2 wz w.heap.size va K vc VX) := (HVA4.out.grownR hcz (fun z hz e => by have := (HLA.out z hz).1; have := HRBQ.out; have := hHeld.size; have := hS1.size; have := hS2.size; have := hS3.size; have := hS4.size; injection e with e; omega)).mono (by have := HRBQ.out; have := hHeld.size; have := hS1.size; have := hS2.size; have := hS3.size; have := hS4.size; omega)
      have HWB : Hid (Owns 2 wz w.heap.size ua K uc VY) := (HVB4.out.grownR hcz (fun z hz e => by have := (HLB.out z hz).1; have := HRBQ.out; have := hHeld.size; have := hS1.size; have := hS2.size; have := hS3.size; have := hS4.size; injection e with e; omega)).mono (by have := HRBQ.out; have := hHeld.size; have := hS1.size; have := hS2.size; have := hS3.size; have := hS4.size; omega)
      have HWC : Hid (Owns 2 wz w.heap.size qva K qvc QX) := (HVC4.out.grownR hcz (fun z hz e => by have := (HLC.out z hz).1; have := HRBQ.out; have := hHeld.size; have := hS1.size; have := hS2.size; have := hS3.size; have := hS4.size; injection e with e; omega)).mono (by have := HRBQ.out; have := hHeld.size; have := hS1.size; have := hS2.size; have := hS3.size; have := hS4.size; omega)
      have HWD : Hid (Owns 2 wz w.heap.size qua K quc QY) := (HVD4.out.grownR hcz (fun z hz e => by have := (HLD.out z hz).1; have := HRBQ.out; have := hHeld.size; have := hS1.size; have := hS2.size; have := hS3.size; have := hS4.size; injection e with e; omega)).mono (by have := HRBQ.out; have := hHeld.size; have := hS1.size; have := hS2.size; have := hS3.size; have := hS4.size; omega)
      have HXAB : Hid (far va ua) := fun z1 z2 h1 h2 e => by have := (HLA.out z1 h1).2; have := (HLB.out z2 h2).1; have := HM1.out; have := HM2.out; have := HM3.out; have := HM4.out; omega
      have HXAC : Hid (far va qva) := fun z1 z2 h1 h2 e => by have := (HLA.out z1 h1).2; have := (HLC.out z2 h2).1; have := HM1.out; have := HM2.out; have := HM3.out; have := HM4.out; omega
      have HXAD : Hid (far va qua) := fun z1 z2 h1 h2 e => by have := (HLA.out z1 h1).2; have := (HLD.out z2 h2).1; have := HM1.out; have := HM2.out; have := HM3.out; have := HM4.out; omega
      have HXBC : Hid (far ua qva) := fun z1 z2 h1 h2 e => by have := (HLB.out z1 h1).2; have := (HLC.out z2 h2).1; have := HM1.out; have := HM2.out; have := HM3.out; have := HM4.out; omega
      have HXBD : Hid (far ua qua) := fun z1 z2 h1 h2 e => by have := (HLB.out z1 h1).2; have := (HLD.out z2 h2).1; have := HM1.out; have := HM2.out; have := HM3.out; have := HM4.out; omega
      have HXCD : Hid (far qva qua) := fun z1 z2 h1 h2 e => by have := (HLC.out z1 h1).2; have := (HLD.out z2 h2).1; have := HM1.out; have := HM2.out; have := HM3.out; have := HM4.out; omega
      have HBz : Hid (Below w.heap.size w wz) := HBq.out.grown hSz HBq.out.size (fun q hq => by injection hq with hq; omega)
      go_wp2
      exact bodyPost_ret (results_cell_tmp rfl rfl (run_loadVar_mid wz (w.heap.size + 1 + 1) 0 34 _ _ HPz.out.row Tryz.underlying34 rfl (by kernel_rfl))) rfl ⟨va, vc, ua, uc, qva, qvc, qua, quc, rfl, ⟨HWA.out, HWB.out, HWC.out, HWD.out⟩, ⟨HXAB.out, HXAC.out, HXAD.out, HXBC.out, HXBD.out, HXCD.out⟩, HBz.out⟩
end Go.Proofs.YtbcfjbkmkknmfaaGreatDoor
namespace Go.Proofs.YtbcfjbkmkknmfaaGreatDoor
open Go.RowKit

end Go.Proofs.YtbcfjbkmkknmfaaGreatDoor
namespace Go.Proofs.YtbcfjbkmkknmfaaGreatDoor
open Go.RowKit

def M.pfn (m : M.Mc) (s : Int × Int) (n : Int) : Nat := if M.provOk m s n = true then 4 * n.toNat else 0
theorem M.pfn_le (m : M.Mc) (s : Int × Int) (n : Int) : M.pfn m s n ≤ 64 := by
  unfold M.pfn
  split
  · rename_i h
    obtain ⟨-, -, N, rfl, hN⟩ := M.provOk_parts h
    have := M.rowsN_pos hN
    omega
  · omega
def ProvPost (m : M.Mc) (s : Int × Int) (n : Int) (w : World) (e : Ending) (w' : World) : Prop :=
  ∃ (a1 : Option Addr) (c1 : Nat) (a2 : Option Addr) (c2 : Nat) (a3 : Option Addr) (c3 : Nat) (a4 : Option Addr) (c4 : Nat), e = .returned (.tuple #[.agg #[.int .i64 (M.prv m s n).s.1, .int .i64 (M.prv m s n).s.2, .int .i64 (M.prv m s n).e.1, .int .i64 (M.prv m s n).e.2, .slice a1 (M.pfn m s n) c1, .slice a2 (M.pfn m s n) c2, .slice a3 (M.pfn m s n) c3, .slice a4 (M.pfn m s n) c4], .bool (M.provOk m s n)]) ∧
    (Owns 2 w' w.heap.size a1 (M.pfn m s n) c1 (M.prv m s n).X ∧ Owns 2 w' w.heap.size a2 (M.pfn m s n) c2 (M.prv m s n).Y ∧ Owns 2 w' w.heap.size a3 (M.pfn m s n) c3 (M.prv m s n).QX ∧ Owns 2 w' w.heap.size a4 (M.pfn m s n) c4 (M.prv m s n).QY) ∧ (far a1 a2 ∧ far a1 a3 ∧ far a1 a4 ∧ far a2 a3 ∧ far a2 a4 ∧ far a3 a4) ∧ Below w.heap.size w w'
theorem provPost_out {m : M.Mc} {s : Int × Int} {n : Int} {w w' : World} {e : Ending} (h : M.provOk m s n = false) (he : e = .returned (.tuple #[.agg #[.int .i64 0, .int .i64 0, .int .i64 0, .int .i64 0, .slice none 0 0, .slice none 0 0, .slice none 0 0, .slice none 0 0], .bool false])) (hb : Below w.heap.size w w') : ProvPost m s n w e w' := by
  have e1 : M.prv m s n = M.Pf.zero := M.prv_out h
  have e2 : M.pfn m s n = 0 := if_neg (by rw [h]; decide)
  unfold ProvPost
  rw [e1, e2, h]
  exact ⟨none, 0, none, 0, none, 0, none, 0, he, ⟨Owns.empty _ _ _, Owns.empty _ _ _, Owns.empty _ _ _, Owns.empty _ _ _⟩, ⟨none_far _, none_far _, none_far _, none_far _, none_far _, none_far _⟩, hb⟩
theorem implProved_any (m : M.Mc) (s : Int × Int) (n : Int) (w : World) : Calls Tryz.prog 9 #[mcv m, stv s, .int .i64 n] w (ProvPost m s n w) := by
  cases h : M.provOk m s n with
  | false => exact (implProved_out m s n w h).mono fun e w' ⟨h1, h2⟩ => provPost_out h h1 h2
  | true =>
    obtain ⟨hm, hs, N, rfl, hN⟩ := M.provOk_parts h
    refine (implProved_in m s N w hm hs hN).mono fun e w' hp => ?_
    have e1 : M.prv m s N = m.pf s N := M.prv_in h
    have e2 : M.pfn m s N = 4 * N := if_pos h
    unfold ProvPost
    rw [e1, e2, h]
    exact hp
theorem specProved_any (m : M.Mc) (s : Int × Int) (n : Int) (w : World) : Calls Tryz.prog 10 #[mcv m, stv s, .int .i64 n] w (ProvPost m s n w) := by
  cases h : M.provOk m s n with
  | false => exact (specProved_out m s n w h).mono fun e w' ⟨h1, h2⟩ => provPost_out h h1 h2
  | true =>
    obtain ⟨hm, hs, N, rfl, hN⟩ := M.provOk_parts h
    refine (specProved_in m s N w hm hs hN).mono fun e w' hp => ?_
    have e1 : M.prv m s N = m.pf s N := M.prv_in h
    have e2 : M.pfn m s N = 4 * N := if_pos h
    unfold ProvPost
    rw [e1, e2, h]
    exact hp
end Go.Proofs.YtbcfjbkmkknmfaaGreatDoor
