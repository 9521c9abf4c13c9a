/- FnExactClaimOf: at every argument ClaimOf answers as the specification, field by field. -/
import Derived.Test.YtbcfjbkmkknmfaaDoorRows
import Derived.Test.YtbcfjbkmkknmfaaDoorCards
import Derived.Test.YtbcfjbkmkknmfaaDoorTie
import Derived.WalkKit
import Derived.ProofKit
import Derived.OpenShut
import Derived.ChangeOld
import Derived.ChangeSame
import Derived.ChangeVars
import Derived.JoinedOf
import Derived.RowKit
import Derived.RowKitTokens
import Derived.LaidLaws
import Derived.LaidHandle
import Derived.LaidMore
import Derived.Below
import Derived.Stop.Joined
import Derived.SevenTiedAt
import Derived.Test.YtbcfjbkmkknmfaaDoorErL
import Derived.Test.YtbcfjbkmkknmfaaDoorErJ
namespace Go.Proofs.YtbcfjbkmkknmfaaDoor.fnExactClaimOf
open Go.ChangeShapes Go.WideShapes Go.ChangeAt Go.RowKit

theorem own : ownKnob Tryd.prog.godebug = none := by kernel_rfl
theorem laidOut : laidOutB Tryd.prog = true := by kernel_rfl
theorem met (os : Os) (args : Array Value) : laidMetH Tryd.prog card.laid ((World.doorLaid Tryd.prog 54 os).forCall (fun _ _ => 0) ⟨#[], args, []⟩).memory :=
  laidMetH_of_parts3 (fuel := 8) (laidMet_of_run' 8 (by kernel_rfl) (by kernel_rfl)) (by kernel_rfl) (by kernel_rfl)

set_option maxRecDepth 100000 in
theorem lifted (os : Os) (started : os.Started) (H : Type) (enc : TypeId × Value → H) :
    ReturnsInHanded {} Tryd.checked os 4 .any (fun w args => (Rows.fnExactClaimOfSpec.pre enc Tryd.prog Tryd.f4 [] false w args ∧ laidMetH Tryd.prog card.laid w) ∧ sizedMet enc Tryd.prog Tryd.f4 (OpenSpec.ofChange Rows.fnExactClaimOfSpec) false w args)
      (Rows.fnExactClaimOfSpec.post enc Tryd.prog Tryd.f4 false true false false) := by
  refine returnsInHanded_of_change_and (C := Tryd.checked) (X := fun w _ => laidMetH Tryd.prog card.laid w) (fun _ _ _ hh h => h.of_heap hh) own started (by kernel_rfl) Tryd.func4
    (ChangeSpec.witness_shaped (enc := enc) (C := Tryd.checked) (os := os) (X := fun w _ => laidMetH Tryd.prog card.laid w) false (World.doorLaid Tryd.prog 54 os) #[.agg #[.int .i64 0, .int .i64 0, .int .i64 0, .int .i64 0, .slice none 0 0, .slice none 0 0, .slice none 0 0, .slice none 0 0]] 8 rfl (World.shaped_of_RefB (by kernel_rfl) (by kernel_rfl)) (by kernel_rfl) (by kernel_rfl) (by kernel_rfl) (met os _)) ?_
  intro W base args ds gs before hval0 hW _ _ hL _
  have hval : ∀ (j : Nat) t v, Tryd.f4.params[j]? = some t → args[j]? = some v → Value.okWide Tryd.prog W .any base t v := hval0
  have hW' := hW
  obtain ⟨p, q, hA0, hV0, rfl, hfz, hnd⟩ := hW
  have hA : DataW.TrodAll enc Tryd.prog W 0 (fun _ => true) true Tryd.f4.params.toList args.toList ds p := hA0
  have hV : DataW.TrodVars enc Tryd.prog W (fun _ => true) [card.nL, card.nN] gs q := hV0
  rw [Tryd.params4] at hA hval
  obtain ⟨v0, d0, rfl, rfl, h0⟩ := trodAll_one hA
  have k0 := h0
  have lt0 : ∀ x ∈ p, x.block < W.heap.size := by obtain ⟨m, hm⟩ := k0; exact DataW.trod_lt m _ _ _ hm
  obtain ⟨s1, s2, e1, e2, a1, n1, c1, z1, a2, n2, c2, z2, a3, n3, c3, z3, a4, n4, c4, z4, rfl, g1, g2, g3, g4⟩ := open_proof (hval 0 26 v0 rfl rfl) h0
  obtain ⟨aL, aN, he, hvL, hvN⟩ := card.env hL
  obtain ⟨rfl, rfl⟩ := hV.unique (card.vars enc hvL hvN _)
  clear hA0 hV0 hval0
  refine (fnClaimOf_any s1 s2 e1 e2 W he g1 g2 g3 g4 (by have := g1.le; have := g1.big; omega) (by have := g2.le; have := g2.big; omega) (by have := g3.le; have := g3.big; omega) (by have := g4.le; have := g4.big; omega)).mono fun e W' ⟨hr, bel⟩ => ?_
  subst hr
  have hL' := var?_below bel card.gL (World.block_lt_of_cell? W _ he.cL) hvL
  have hN' := var?_below bel card.gN (World.block_lt_of_cell? W _ he.cN) hvN
  exact ⟨_, rfl, _, _, _, [], _, _, hW', trodAll_mk1 (shut_bool Tryd.underlying4 _), trodAll_mk1 (Below.trod laidOut (by kernel_rfl) (of_decide_eq_true (by kernel_rfl)) k0 bel lt0), card.vars enc hL' hN' _, bel.frame _, fun h => by cases h⟩

theorem over : Rows.fnExactClaimOfRow.holds Tryd.pinned (OpenSpec.ofChange Rows.fnExactClaimOfSpec) :=
  OpenClaim.holds_of_wide 4 Tryd.f4 rfl rfl rfl rfl rfl rfl rfl ⟨rfl, rfl, rfl, rfl, rfl⟩ rfl rfl rfl rfl rfl (by kernel_rfl) Tryd.func4 (by kernel_rfl)
    (of_decide_eq_true (by kernel_rfl)) (by unfold Func.isWrapper; first | (rw [if_pos (by decide +kernel)]; kernel_rfl) | (rw [if_neg (by decide +kernel)]; exact ⟨rfl, rfl⟩))
    (fun os started H enc _ => lifted os started H enc)

theorem proved : Rows.FnExactClaimOfCardSaid :=
  Claim7.holds_tied_plain_at .later [] [.handle, .sentinel, .sentinel] true (true, "ac09a0197f8cd216be9c00a72865211bfb79dbbf31838f323ec0a5cf19a7e663") true
    (over) (fun _ h => by cases h) (by kernel_rfl) (fun _ h => by cases h) fnExactClaimOf_row_tie rfl ⟨rfl, rfl⟩ (by kernel_rfl) rfl
    (fun f fn hf hfn => by
      obtain rfl : f = 4 := Option.some.inj ((show Tryd.prog.funcNamed "loop.example/g00319/laws.FnExactClaimOf" = some 4 by kernel_rfl).symm.trans hf) |>.symm
      obtain rfl : fn = Tryd.f4 := (Option.some.inj (Tryd.func4.symm.trans hfn)).symm
      exact ⟨by kernel_rfl, fun j t ht => by
        rw [Tryd.params4] at ht
        have h3 : t = 26 := by
          rcases j with _ | j
          · simpa using ht.symm
          · simp at ht
        subst h3
        exact (show Tryd.prog.wantsStandIn 26 = false by kernel_rfl)⟩)
    (by kernel_rfl)
end Go.Proofs.YtbcfjbkmkknmfaaDoor.fnExactClaimOf
namespace Go.Proofs.YtbcfjbkmkknmfaaDoor
theorem fnExactClaimOf_holds : Rows.FnExactClaimOfCardSaid := fnExactClaimOf.proved
#print axioms fnExactClaimOf_holds
end Go.Proofs.YtbcfjbkmkknmfaaDoor
