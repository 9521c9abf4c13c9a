/- Whatever bytes are drawn from: a drawn market with an act, drawn polynomials and a drawn proof that are handed in twice give the same answers twice, and stay as they were: FnTwice holds. No condition besides those of the statement. -/
import Derived.Test.YtbjalickbnpnkaaGreatDoorRows
import Derived.Test.YtbjalickbnpnkaaGreatDoorCards
import Derived.Test.YtbjalickbnpnkaaGreatDoorTie
import Derived.WalkKit
import Derived.ProofKit
import Derived.OpenShut
import Derived.ChangeOld
import Derived.ChangeSame
import Derived.ChangeVars
import Derived.JoinedOf
import Derived.RowKit
import Derived.RowKitTokens
import Derived.LaidLaws
import Derived.LaidHandle
import Derived.LaidMore
import Derived.Below
import Derived.Stop.Joined
import Derived.Conc.Holds
import Derived.SevenTiedAt
import Derived.Test.YtbjalickbnpnkaaGreatDoorPk35
import Derived.Test.YtbjalickbnpnkaaGreatDoorPk23
import Derived.Test.YtbjalickbnpnkaaGreatDoorPk01
import Derived.Stop.LaidTwo
namespace Go.Proofs.YtbjalickbnpnkaaGreatDoor
open Go.RowKit Go.ChangeShapes Go.WideShapes

theorem laidMet_tail {P : Program} {x : String × DataW Unit} {r : List (String × DataW Unit)} {W : World} (h : laidMet P (x :: r) W) : laidMet P r W := by
  obtain ⟨n, d⟩ := x
  obtain ⟨ps, ⟨g, t, cs, f, p, q, hg, ht, hv, hd, hr, e⟩, hnd, hrows⟩ := h
  subst e
  exact ⟨q, hr, (List.nodup_append.1 hnd).2.1, fun b off hm => hrows b off (List.mem_append_right _ hm)⟩
namespace card
abbrev nG : String := "loop.example/g00319/impl.errLong"
abbrev nE : String := "loop.example/g00319/impl.errEnd"
abbrev nR : String := "loop.example/g00319/impl.errRule"
theorem gG : Tryz.prog.globalNamed nG = some 3 := by kernel_rfl
theorem gE : Tryz.prog.globalNamed nE = some 4 := by kernel_rfl
theorem gR : Tryz.prog.globalNamed nR = some 5 := by kernel_rfl
theorem tG : (Tryz.prog.globals[3]?).map (·.type) = some 92 := by kernel_rfl
theorem tE : (Tryz.prog.globals[4]?).map (·.type) = some 92 := by kernel_rfl
theorem tR : (Tryz.prog.globals[5]?).map (·.type) = some 92 := by kernel_rfl
abbrev five : List (String × DataW Unit) := [(nN, Rows.laid_loop_example_g00319_impl_errNoElement), (nL, Rows.laid_loop_example_g00319_impl_errLength), (nG, Rows.laid_loop_example_g00319_impl_errLong), (nE, Rows.laid_loop_example_g00319_impl_errEnd), (nR, Rows.laid_loop_example_g00319_impl_errRule)]
abbrev laidX : List (String × DataW Unit) := ("errors.errorType", Rows.laid_errors_errorType) :: five
theorem splitX {W : World} (h : laidMetH Tryz.prog laidX W) : laidMet Tryz.prog five W ∧ handlesMet Tryz.prog [("errors.errorType", Rows.laid_errors_errorType)] W := h
abbrev at1 (W : World) (n : String) (a : Addr) : Prop := W.var? Tryz.prog n = some #[.iface 309 (.pointer (some a))]
theorem envX {W : World} (h : laidMetH Tryz.prog laidX W) : ∃ aL aN aG aE aR, EnvX W aL aN aG aE aR ∧ at1 W nN aN ∧ at1 W nL aL ∧ at1 W nG aG ∧ at1 W nE aE ∧ at1 W nR aR := by
  obtain ⟨hs, hh⟩ := splitX h
  obtain ⟨aN, aL, s0, s1, c0, c1, t0, t1, hv0, hv1, hc0, hs0, hz0, hc1, hs1, hz1, hne, hb0, hb1⟩ := laid_sentinels2 hs gN tN gL tL Tryz.underlying92 rowE Tryz.underlying309 Tryz.underlying331 rfl rfl Tryz.underlying9 cE cS
  have h2 := laidMet_tail (laidMet_tail hs)
  obtain ⟨aG, _, vG, _, _, _⟩ := laid_sentinel h2 gG tG Tryz.underlying92 rowE Tryz.underlying309 Tryz.underlying331 rfl rfl Tryz.underlying9 cE cS
  have h3 := laidMet_tail h2
  obtain ⟨aE, _, vE, _, _, _⟩ := laid_sentinel h3 gE tE Tryz.underlying92 rowE Tryz.underlying309 Tryz.underlying331 rfl rfl Tryz.underlying9 cE cS
  have h4 := laidMet_tail h3
  obtain ⟨aR, _, vR, _, _, _⟩ := laid_sentinel h4 gR tR Tryz.underlying92 rowE Tryz.underlying309 Tryz.underlying331 rfl rfl Tryz.underlying9 cE cS
  exact ⟨aL, aN, aG, aE, aR, ⟨⟨by simpa using World.var?_cell gL hv1 0, by simpa using World.var?_cell gN hv0 0, handle hh, hne, ⟨_, _, hb1⟩, ⟨_, _, hb0⟩⟩, by simpa using World.var?_cell gG vG 0, by simpa using World.var?_cell gE vE 0, by simpa using World.var?_cell gR vR 0⟩, hv0, hv1, vG, vE, vR⟩
abbrev tk {H : Type} (enc : TypeId × Value → H) (a : Addr) : DataW H := tok enc (.iface 309 (.pointer (some a)))
theorem varsX {H : Type} (enc : TypeId × Value → H) {X : World} {aL aN aG aE aR : Addr} (xN : at1 X nN aN) (xL : at1 X nL aL) (xG : at1 X nG aG) (xE : at1 X nE aE) (xR : at1 X nR aR) (sp : Nat → Bool) :
    DataW.TrodVars enc Tryz.prog X sp [nN, nL, nG, nE, nR] [tk enc aN, tk enc aL, tk enc aG, tk enc aE, tk enc aR] [.cell 0 0, .cell 1 0, .cell 3 0, .cell 4 0, .cell 5 0] :=
  ⟨_, _, _, 1, [], _, gN, tN, xN, trod_held (v := .iface 309 (.pointer (some aN))) Tryz.underlying92 trivial 0,
    ⟨_, _, _, 1, [], _, gL, tL, xL, trod_held (v := .iface 309 (.pointer (some aL))) Tryz.underlying92 trivial 0,
      ⟨_, _, _, 1, [], _, gG, tG, xG, trod_held (v := .iface 309 (.pointer (some aG))) Tryz.underlying92 trivial 0,
        ⟨_, _, _, 1, [], _, gE, tE, xE, trod_held (v := .iface 309 (.pointer (some aE))) Tryz.underlying92 trivial 0,
          ⟨_, _, _, 1, [], [], gR, tR, xR, trod_held (v := .iface 309 (.pointer (some aR))) Tryz.underlying92 trivial 0, rfl, rfl⟩, rfl⟩, rfl⟩, rfl⟩, rfl⟩
end card
end Go.Proofs.YtbjalickbnpnkaaGreatDoor
namespace Go.Proofs.YtbjalickbnpnkaaGreatDoor
open Go.RowKit Go.ChangeShapes Go.WideShapes
theorem card.varsL {H : Type} (enc : TypeId × Value → H) {X : World} {aL aN aG aE aR : Addr} (xN : card.at1 X card.nN aN) (xL : card.at1 X card.nL aL) (xG : card.at1 X card.nG aG) (xE : card.at1 X card.nE aE) (xR : card.at1 X card.nR aR) (sp : Nat → Bool) :
    DataW.TrodVars enc Tryz.prog X sp [card.nL, card.nN, card.nG, card.nE, card.nR] [card.tk enc aL, card.tk enc aN, card.tk enc aG, card.tk enc aE, card.tk enc aR] [.cell 1 0, .cell 0 0, .cell 3 0, .cell 4 0, .cell 5 0] :=
  ⟨_, _, _, 1, [], _, card.gL, card.tL, xL, trod_held (v := .iface 309 (.pointer (some aL))) Tryz.underlying92 trivial 0,
    ⟨_, _, _, 1, [], _, card.gN, card.tN, xN, trod_held (v := .iface 309 (.pointer (some aN))) Tryz.underlying92 trivial 0,
      ⟨_, _, _, 1, [], _, card.gG, card.tG, xG, trod_held (v := .iface 309 (.pointer (some aG))) Tryz.underlying92 trivial 0,
        ⟨_, _, _, 1, [], _, card.gE, card.tE, xE, trod_held (v := .iface 309 (.pointer (some aE))) Tryz.underlying92 trivial 0,
          ⟨_, _, _, 1, [], [], card.gR, card.tR, xR, trod_held (v := .iface 309 (.pointer (some aR))) Tryz.underlying92 trivial 0, rfl, rfl⟩, rfl⟩, rfl⟩, rfl⟩, rfl⟩
end Go.Proofs.YtbjalickbnpnkaaGreatDoor
namespace Go.Proofs.YtbjalickbnpnkaaGreatDoor.fnTwice
open Go.ChangeShapes Go.WideShapes Go.ChangeAt Go.RowKit

theorem own : ownKnob Tryz.prog.godebug = none := by kernel_rfl
theorem laidOut : laidOutB Tryz.prog = true := by kernel_rfl
theorem met (os : Os) (args : Array Value) : laidMetH Tryz.prog card.laidX ((World.doorLaid Tryz.prog 111 os).forCall (fun _ _ => 0) ⟨#[], args, []⟩).memory :=
  laidMetH_of_parts3 (fuel := 8) (laidMet_of_run' 8 (by kernel_rfl) (by kernel_rfl)) (by kernel_rfl) (by kernel_rfl)

set_option maxRecDepth 100000 in
theorem lifted (os : Os) (started : os.Started) (H : Type) (enc : TypeId × Value → H) :
    ReturnsInHanded {} Tryz.checked os 3 .any (fun w args => (Rows.fnTwiceSpec.pre enc Tryz.prog Tryz.f3 [] false w args ∧ laidMetH Tryz.prog card.laidX w) ∧ sizedMet enc Tryz.prog Tryz.f3 (OpenSpec.ofChange Rows.fnTwiceSpec) false w args)
      (Rows.fnTwiceSpec.post enc Tryz.prog Tryz.f3 false true false false) := by
  refine returnsInHanded_of_change_and (C := Tryz.checked) (X := fun w _ => laidMetH Tryz.prog card.laidX w) (fun _ _ _ hh h => h.of_heap hh) own started (by kernel_rfl) Tryz.func3
    (ChangeSpec.witness_shaped (enc := enc) (C := Tryz.checked) (os := os) (X := fun w _ => laidMetH Tryz.prog card.laidX w) false (World.doorLaid Tryz.prog 111 os) #[.slice none 0 0] 8 rfl (World.shaped_of_RefB (by kernel_rfl) (by kernel_rfl)) (by kernel_rfl) (by kernel_rfl) (by kernel_rfl) (met os _)) ?_
  intro W base args ds gs before hval0 hW _ _ hL _
  have hval : ∀ (j : Nat) t v, Tryz.f3.params[j]? = some t → args[j]? = some v → Value.okWide Tryz.prog W .any base t v := hval0
  have hW' := hW
  obtain ⟨p, q, hA0, hV0, rfl, hfz, hnd⟩ := hW
  have hA : DataW.TrodAll enc Tryz.prog W 0 (fun _ => true) true Tryz.f3.params.toList args.toList ds p := hA0
  have hV : DataW.TrodVars enc Tryz.prog W (fun _ => true) [card.nL, card.nN, card.nG, card.nE, card.nR] gs q := hV0
  rw [Tryz.params3] at hA hval
  obtain ⟨v0, d0, rfl, rfl, h0⟩ := trodAll_one hA
  have k0 := h0
  have lt0 : ∀ x ∈ p, x.block < W.heap.size := by obtain ⟨m, hm⟩ := k0; exact DataW.trod_lt m _ _ _ hm
  obtain ⟨a0, len0, cap0, rfl⟩ := okWide_slice Tryz.underlying22 (hval 0 22 v0 rfl rfl)
  obtain ⟨z0, hz⟩ : ∃ zs, Row .u8 W a0 len0 cap0 zs := by
    obtain ⟨fuel, hf⟩ := h0
    rcases open_ints Tryz.underlying22 Tryz.underlying5 (by kernel_rfl) hf with ⟨hcs, _⟩ | ⟨x, l, c, zs, hcs, _, hl, hm, hz, _, hcell, hwz⟩
    · simp [Value.cells] at hcs
      obtain ⟨rfl, rfl, rfl⟩ := hcs
      exact ⟨[], .inl ⟨rfl, rfl, rfl, rfl⟩⟩
    · simp [Value.cells] at hcs
      obtain ⟨rfl, rfl, rfl⟩ := hcs
      exact ⟨zs, .inr ⟨_, rfl, hl, hm, by simpa using hz, hcell, hwz⟩⟩
  obtain ⟨aL, aN, aG, aE, aR, he, vN, vL, vG, vE, vR⟩ := card.envX hL
  obtain ⟨rfl, rfl⟩ := hV.unique (card.varsL enc vN vL vG vE vR _)
  clear hA0 hV0 hval0
  refine (fnTwice_any W he hz).mono fun e W' ⟨hr, bel⟩ => ?_
  subst hr
  have xN := var?_below bel card.gN (World.block_lt_of_cell? W _ he.env.cN) vN
  have xL := var?_below bel card.gL (World.block_lt_of_cell? W _ he.env.cL) vL
  have xG := var?_below bel card.gG (World.block_lt_of_cell? W _ he.cG) vG
  have xE := var?_below bel card.gE (World.block_lt_of_cell? W _ he.cE) vE
  have xR := var?_below bel card.gR (World.block_lt_of_cell? W _ he.cR) vR
  exact ⟨_, rfl, _, _, _, [], _, _, hW', trodAll_mk1 (shut_bool Tryz.underlying4 _), trodAll_mk1 (Below.trod laidOut (by kernel_rfl) (of_decide_eq_true (by kernel_rfl)) k0 bel lt0), card.varsL enc xN xL xG xE xR _, bel.frame _, fun h => by cases h⟩

theorem over : Rows.fnTwiceRow.holds Tryz.pinned (OpenSpec.ofChange Rows.fnTwiceSpec) :=
  OpenClaim.holds_of_wide 3 Tryz.f3 rfl rfl rfl rfl rfl rfl rfl ⟨rfl, rfl, rfl, rfl, rfl⟩ rfl rfl rfl rfl rfl (by kernel_rfl) Tryz.func3 (by kernel_rfl)
    (of_decide_eq_true (by kernel_rfl)) (by unfold Func.isWrapper; first | (rw [if_pos (by decide +kernel)]; kernel_rfl) | (rw [if_neg (by decide +kernel)]; exact ⟨rfl, rfl⟩))
    (fun os started H enc _ => (lifted os started H enc))

theorem proved : Rows.FnTwiceCardSaid :=
  Claim7.holds_tied_plain_at .later [] [.handle, .sentinel, .sentinel, .sentinel, .sentinel, .sentinel] true (true, "e83a57efbcf467d20da297d811db58389795838114a541c0bdd86014467b969d") true
    (over) (fun _ h => by cases h) (by kernel_rfl) (fun _ h => by cases h) fnTwice_row_tie rfl ⟨rfl, rfl⟩ (by kernel_rfl) rfl
    (fun f fn hf hfn => by
      obtain rfl : f = 3 := Option.some.inj ((show Tryz.prog.funcNamed "loop.example/g00319/laws.FnTwice" = some 3 by kernel_rfl).symm.trans hf) |>.symm
      obtain rfl : fn = Tryz.f3 := (Option.some.inj (Tryz.func3.symm.trans hfn)).symm
      exact ⟨by kernel_rfl, fun j t ht => by
        rw [Tryz.params3] at ht
        rcases j with _ | j
        · obtain rfl : t = 22 := by simpa using ht.symm
          exact (show Tryz.prog.wantsStandIn 22 = false by kernel_rfl)
        simp at ht⟩)
    (by kernel_rfl)
end Go.Proofs.YtbjalickbnpnkaaGreatDoor.fnTwice
namespace Go.Proofs.YtbjalickbnpnkaaGreatDoor
theorem fnTwice_holds : Rows.FnTwiceCardSaid := fnTwice.proved
#print axioms fnTwice_holds
end Go.Proofs.YtbjalickbnpnkaaGreatDoor
