/- At every machine, state and number Proved answers as its model, every field; its answer owns its memory, behind another call too. -/
import Derived.Test.YtbcfjbkmkknmfaaRows
import Derived.WalkKit
import Derived.ProofKit
import Derived.OpenShut
import Derived.ShutString
import Derived.ChangeOld
import Derived.Below
import Derived.Test.YtbcfjbkmkknmfaaPfC
import Derived.Test.YtbcfjbkmkknmfaaMaO
namespace Go.Proofs.Ytbcfjbkmkknmfaa.fnExactProved
open Go.ChangeShapes Go.WideShapes Go.ChangeAt Go.RowKit
set_option linter.unusedVariables false

theorem own : ownKnob Try.prog.godebug = none := by kernel_rfl
theorem laidOut : laidOutB Try.prog = true := by kernel_rfl

set_option maxHeartbeats 8000000 in
set_option maxRecDepth 100000 in
theorem walk (a0 : M.Mc) (a1 : Int × Int) (a2 : Int) (w : World) :
    Calls Try.prog 3 #[mcv a0, stv a1, .int .i64 a2] w fun e w' => e = .returned (.bool true) ∧ Below w.heap.size w w' := by
  have CT := toMachine_any a0
  have CU := toState_any a1
  have CS : Hid (∀ W, Calls Try.prog 4 #[mcv a0, stv a1, .int .i64 a2] W (ProvPost a0 a1 a2 W)) := fun W => specProved_any a0 a1 a2 W
  have CI : Hid (∀ W, Calls Try.prog 7 #[mcv a0, stv a1, .int .i64 a2] W (ProvPost a0 a1 a2 W)) := fun W => implProved_any a0 a1 a2 W
  unfold ProvPost at CS CI
  have hL := M.pfn_le a0 a1 a2
  generalize M.pfn a0 a1 a2 = L at CS CI hL
  generalize M.provOk a0 a1 a2 = o at CS CI
  generalize M.prv a0 a1 a2 = P at CS CI
  obtain ⟨⟨s1, s2⟩, ⟨e1, e2⟩, z1, z2, z3, z4⟩ := P
  obtain ⟨⟨a, b, c, d, f, k⟩, ⟨a', b', c', d', f', k'⟩⟩ := a0
  obtain ⟨x, y⟩ := a1
  dsimp only [mcv, stv] at CT CU CS CI ⊢
  have HC1 : Hid _ := CT
  have HC3 : Hid _ := CU
  have n1 : (o != o) = false := by simp
  have HMa0 : Hid (Lies ((w.alloc (.cells #[.int .i64 a, .int .i64 b, .int .i64 c, .int .i64 d, .int .i64 f, .int .i64 k, .int .i64 a', .int .i64 b', .int .i64 c', .int .i64 d', .int .i64 f', .int .i64 k'] 25)).alloc (.cells #[.int .i64 x, .int .i64 y] 27)) w.heap.size [.int .i64 a, .int .i64 b, .int .i64 c, .int .i64 d, .int .i64 f, .int .i64 k, .int .i64 a', .int .i64 b', .int .i64 c', .int .i64 d', .int .i64 f', .int .i64 k']) := (lies_new _ _ _).alloc _
  have HSt0 : Hid (Lies ((w.alloc (.cells #[.int .i64 a, .int .i64 b, .int .i64 c, .int .i64 d, .int .i64 f, .int .i64 k, .int .i64 a', .int .i64 b', .int .i64 c', .int .i64 d', .int .i64 f', .int .i64 k'] 25)).alloc (.cells #[.int .i64 x, .int .i64 y] 27)) (w.heap.size + 1) [.int .i64 x, .int .i64 y]) := lies_new2 _ _ _ _
  have HB0 : Hid (Below w.heap.size w ((w.alloc (.cells #[.int .i64 a, .int .i64 b, .int .i64 c, .int .i64 d, .int .i64 f, .int .i64 k, .int .i64 a', .int .i64 b', .int .i64 c', .int .i64 d', .int .i64 f', .int .i64 k'] 25)).alloc (.cells #[.int .i64 x, .int .i64 y] 27))) := ((Below.refl _ _).alloc (Nat.le_refl _) _).alloc (by simp) _
  clear CT CU
  go_enter Try.func3, Try.ntmps3
  go_wp2
  generalize ((w.alloc (.cells #[.int .i64 a, .int .i64 b, .int .i64 c, .int .i64 d, .int .i64 f, .int .i64 k, .int .i64 a', .int .i64 b', .int .i64 c', .int .i64 d', .int .i64 f', .int .i64 k'] 25)).alloc (.cells #[.int .i64 x, .int .i64 y] 27)) = wq at HMa0 HSt0 HB0 ⊢
  have HMa : Hid (Lies wq w.heap.size [.int .i64 a, .int .i64 b, .int .i64 c, .int .i64 d, .int .i64 f, .int .i64 k, .int .i64 a', .int .i64 b', .int .i64 c', .int .i64 d', .int .i64 f', .int .i64 k']) := HMa0.out
  have HSt : Hid (Lies wq (w.heap.size + 1) [.int .i64 x, .int .i64 y]) := HSt0.out
  have HBq : Hid (Below w.heap.size w wq) := HB0.out
  clear HMa0 HSt0 HB0
  apply cutKey
  case f =>
    intro key
    refine wp_region_noPanic ?_
    refine wp_region_held_drew (S := fun W => wq.grownBy W none) (by kernel_rfl) (grown_drew _ _) (fun hHeld => ?_)
    generalize wq.drew = wd0 at hHeld ⊢
    refine wpAnyH_take (i := 0) (v := .agg ([.int .i64 a, .int .i64 b, .int .i64 c, .int .i64 d, .int .i64 f, .int .i64 k, .int .i64 a', .int .i64 b', .int .i64 c', .int .i64 d', .int .i64 f', .int .i64 k']).toArray) rfl (by kernel_rfl) (by kernel_rfl) (by kernel_rfl) (fun _ _ _ h => h) (yieldsIf_load_mid (by kernel_rfl) 25 (.tmp 3) rfl w.heap.size 0 rfl ([.int .i64 a, .int .i64 b, .int .i64 c, .int .i64 d, .int .i64 f, .int .i64 k, .int .i64 a', .int .i64 b', .int .i64 c', .int .i64 d', .int .i64 f', .int .i64 k']) _ (fun W h => (HMa.out.grown h (by simp)).row) Try.underlying25 rfl (by kernel_rfl)) (by assumption) ?_
    try simp only [Act.put]
    refine wpAnyH_take (i := 2) (v := .agg #[.int .i64 x, .int .i64 y]) rfl (by kernel_rfl) (by kernel_rfl) (by kernel_rfl) (fun _ _ _ h => h) (Or.inl ⟨by kernel_rfl, ?_⟩) (by assumption) ?_
    · intro wp hSp; have c0 : wp.cell? ⟨(w.heap.size + 1), 0, none⟩ = some (.int .i64 x) := (HSt.out.grown hSp (by simp)).at 0; have c1 : wp.cell? ⟨(w.heap.size + 1), 1, none⟩ = some (.int .i64 y) := (HSt.out.grown hSp (by simp)).at 1; go_simp
    try simp only [Act.put]
    refine wpAnyH_take (i := 4) (v := .int .i64 a2) rfl (by kernel_rfl) (by kernel_rfl) (by kernel_rfl) (fun _ _ _ h => h) (Or.inl ⟨by kernel_rfl, ?_⟩) (by assumption) ?_
    · intro wq hSq; go_simp
    try simp only [Act.put]
    refine wpAnyH_ready (rs := [1, 9]) (by kernel_rfl) (by simp) ?_
    refine AllReadyH.cons rfl (fun Kk hK => ?_) (AllReadyH.cons rfl (fun Kk hK => ?_) (AllReadyH.nil))
    · go_simp
      refine (HC1.out _).mono ?_
      rintro e wd1 ⟨rfl, hb1⟩
      go_simp
      have hS1 : wq.grownBy wd1 none := grown_step hHeld hb1
      refine hK.out _ _ hS1 (fun _ => ?_)
      clear hK Kk hb1
      try simp only [Act.put]
      refine wpAnyH_ready (rs := [3, 9]) (by kernel_rfl) (by simp) ?_
      refine AllReadyH.cons rfl (fun Kk hK => ?_) (AllReadyH.cons rfl (fun Kk hK => ?_) (AllReadyH.nil))
      · go_simp
        refine (HC3.out _).mono ?_
        rintro e wd2 ⟨rfl, hb2⟩
        go_simp
        have hS2 : wq.grownBy wd2 none := grown_step hS1 hb2
        refine hK.out _ _ hS2 (fun _ => ?_)
        clear hK Kk hb2
        try simp only [Act.put]
        refine wpAnyH_ready (rs := [5, 9]) (by kernel_rfl) (by simp) ?_
        refine AllReadyH.cons rfl (fun Kk hK => ?_) (AllReadyH.cons rfl (fun Kk hK => ?_) (AllReadyH.nil))
        · go_simp
          refine (CS.out _).mono ?_
          rintro e wd3 ⟨u1, uc1, u2, uc2, u3, uc3, u4, uc4, rfl, ⟨ho1, ho2, ho3, ho4⟩, hfar, hb3⟩
          go_simp
          have hS3 : wq.grownBy wd3 none := grown_step hS2 hb3
          have HFA : Hid (far u1 u2 ∧ far u1 u3 ∧ far u1 u4 ∧ far u2 u3 ∧ far u2 u4 ∧ far u3 u4) := hfar
          have HO3_1 : Hid (Owns 2 wd3 wq.heap.size u1 L uc1 z1) := ho1.mono hS2.size
          have HO3_2 : Hid (Owns 2 wd3 wq.heap.size u2 L uc2 z2) := ho2.mono hS2.size
          have HO3_3 : Hid (Owns 2 wd3 wq.heap.size u3 L uc3 z3) := ho3.mono hS2.size
          have HO3_4 : Hid (Owns 2 wd3 wq.heap.size u4 L uc4 z4) := ho4.mono hS2.size
          have HHI1 : Hid (∀ q, u1 = some q → q.block < wd3.heap.size) := ho1.hi
          have HHI2 : Hid (∀ q, u2 = some q → q.block < wd3.heap.size) := ho2.hi
          have HHI3 : Hid (∀ q, u3 = some q → q.block < wd3.heap.size) := ho3.hi
          have HHI4 : Hid (∀ q, u4 = some q → q.block < wd3.heap.size) := ho4.hi
          refine hK.out _ _ hS3 (fun _ => ?_)
          clear hK Kk hb3 ho1 ho2 ho3 ho4 hfar
          try simp only [Act.put]
          refine wpAnyH_take (i := 6) (v := .tuple #[.agg #[.int .i64 s1, .int .i64 s2, .int .i64 e1, .int .i64 e2, .slice u1 L uc1, .slice u2 L uc2, .slice u3 L uc3, .slice u4 L uc4], .bool o]) rfl (by kernel_rfl) (by kernel_rfl) (by kernel_rfl) (fun _ _ _ h => h) (Or.inl ⟨by kernel_rfl, ?_⟩) (by assumption) ?_
          · intro wq hSq; go_simp
          try simp only [Act.put]
          refine wpAnyH_take (i := 7) (v := .agg #[.int .i64 s1, .int .i64 s2, .int .i64 e1, .int .i64 e2, .slice u1 L uc1, .slice u2 L uc2, .slice u3 L uc3, .slice u4 L uc4]) rfl (by kernel_rfl) (by kernel_rfl) (by kernel_rfl) (fun _ _ _ h => h) (Or.inl ⟨by kernel_rfl, ?_⟩) (by assumption) ?_
          · intro wq hSq; go_simp
          try simp only [Act.put]
          refine wpAnyH_take (i := 8) (v := .bool o) rfl (by kernel_rfl) (by kernel_rfl) (by kernel_rfl) (fun _ _ _ h => h) (Or.inl ⟨by kernel_rfl, ?_⟩) (by assumption) ?_
          · intro wq hSq; go_simp
          try simp only [Act.put]
          refine wpAnyH_ready (rs := [9]) (by kernel_rfl) (by simp) ?_
          refine AllReadyH.cons rfl (fun Kk hK => ?_) (AllReadyH.nil)
          · rw [if_pos (by kernel_rfl)]
            refine wp_alloc_as 31 rfl #[.int .i64 0, .int .i64 0, .int .i64 0, .int .i64 0, .slice none 0 0, .slice none 0 0, .slice none 0 0, .slice none 0 0] (by kernel_rfl) ?_
            have hS4 : wq.grownBy (wd3.alloc (.cells #[.int .i64 0, .int .i64 0, .int .i64 0, .int .i64 0, .slice none 0 0, .slice none 0 0, .slice none 0 0, .slice none 0 0] 31)) none := grown_alloc hS3 _
            have HA4 : Hid (Lies (wd3.alloc (.cells #[.int .i64 0, .int .i64 0, .int .i64 0, .int .i64 0, .slice none 0 0, .slice none 0 0, .slice none 0 0, .slice none 0 0] 31)) wd3.heap.size [.int .i64 0, .int .i64 0, .int .i64 0, .int .i64 0, .slice none 0 0, .slice none 0 0, .slice none 0 0, .slice none 0 0]) := lies_new _ _ _
            have HPB : Hid (wq.heap.size ≤ wd3.heap.size) := hS3.size
            have HP4_1 : Hid (Owns 2 (wd3.alloc (.cells #[.int .i64 0, .int .i64 0, .int .i64 0, .int .i64 0, .slice none 0 0, .slice none 0 0, .slice none 0 0, .slice none 0 0] 31)) wq.heap.size u1 L uc1 z1) := HO3_1.out.below ((Below.refl _ _).alloc (Nat.le_refl _) _)
            have HP4_2 : Hid (Owns 2 (wd3.alloc (.cells #[.int .i64 0, .int .i64 0, .int .i64 0, .int .i64 0, .slice none 0 0, .slice none 0 0, .slice none 0 0, .slice none 0 0] 31)) wq.heap.size u2 L uc2 z2) := HO3_2.out.below ((Below.refl _ _).alloc (Nat.le_refl _) _)
            have HP4_3 : Hid (Owns 2 (wd3.alloc (.cells #[.int .i64 0, .int .i64 0, .int .i64 0, .int .i64 0, .slice none 0 0, .slice none 0 0, .slice none 0 0, .slice none 0 0] 31)) wq.heap.size u3 L uc3 z3) := HO3_3.out.below ((Below.refl _ _).alloc (Nat.le_refl _) _)
            have HP4_4 : Hid (Owns 2 (wd3.alloc (.cells #[.int .i64 0, .int .i64 0, .int .i64 0, .int .i64 0, .slice none 0 0, .slice none 0 0, .slice none 0 0, .slice none 0 0] 31)) wq.heap.size u4 L uc4 z4) := HO3_4.out.below ((Below.refl _ _).alloc (Nat.le_refl _) _)
            have HNE1 : Hid (∀ q, u1 = some q → q.block ≠ wd3.heap.size) := fun q hq => Nat.ne_of_lt (HHI1.out q hq)
            have HNE2 : Hid (∀ q, u2 = some q → q.block ≠ wd3.heap.size) := fun q hq => Nat.ne_of_lt (HHI2.out q hq)
            have HNE3 : Hid (∀ q, u3 = some q → q.block ≠ wd3.heap.size) := fun q hq => Nat.ne_of_lt (HHI3.out q hq)
            have HNE4 : Hid (∀ q, u4 = some q → q.block ≠ wd3.heap.size) := fun q hq => Nat.ne_of_lt (HHI4.out q hq)
            refine hK.out _ _ hS4 (fun _ => ?_)
            clear hK Kk HHI1 HHI2 HHI3 HHI4
            generalize wd3.alloc (.cells #[.int .i64 0, .int .i64 0, .int .i64 0, .int .i64 0, .slice none 0 0, .slice none 0 0, .slice none 0 0, .slice none 0 0] 31) = wd4 at hS4 HA4 HP4_1 HP4_2 HP4_3 HP4_4 ⊢
            generalize wd3.heap.size = pb4 at HA4 HPB HNE1 HNE2 HNE3 HNE4 ⊢
            try simp only [Act.put]
            refine wpAnyH_ready (rs := [10]) (by kernel_rfl) (by simp) ?_
            refine AllReadyH.cons rfl (fun Kk hK => ?_) AllReadyH.nil
            rw [if_pos (by kernel_rfl)]
            with_reducible refine wp_store_mid 31 (.tmp 7) (.tmp 22) ?_ pb4 0 ([.int .i64 s1, .int .i64 s2, .int .i64 e1, .int .i64 e2, .slice u1 L uc1, .slice u2 L uc2, .slice u3 L uc3, .slice u4 L uc4]).toArray ?_ ?_ ?_ (by kernel_rfl) (by kernel_rfl) ?_
            · exact rfl
            · exact rfl
            · exact rfl
            · exact HA4.out.there 0 8 (by simp)
            have hSz : wq.grownBy (wd4.setCells pb4 0 [.int .i64 s1, .int .i64 s2, .int .i64 e1, .int .i64 e2, .slice u1 L uc1, .slice u2 L uc2, .slice u3 L uc3, .slice u4 L uc4]) none := grown_far hS4 HPB.out 0 _
            have HPz : Hid (Lies (wd4.setCells pb4 0 [.int .i64 s1, .int .i64 s2, .int .i64 e1, .int .i64 e2, .slice u1 L uc1, .slice u2 L uc2, .slice u3 L uc3, .slice u4 L uc4]) pb4 [.int .i64 s1, .int .i64 s2, .int .i64 e1, .int .i64 e2, .slice u1 L uc1, .slice u2 L uc2, .slice u3 L uc3, .slice u4 L uc4]) := HA4.out.setCells [.int .i64 s1, .int .i64 s2, .int .i64 e1, .int .i64 e2, .slice u1 L uc1, .slice u2 L uc2, .slice u3 L uc3, .slice u4 L uc4] 0 (by simp)
            have HO1z : Hid (Owns 2 (wd4.setCells pb4 0 [.int .i64 s1, .int .i64 s2, .int .i64 e1, .int .i64 e2, .slice u1 L uc1, .slice u2 L uc2, .slice u3 L uc3, .slice u4 L uc4]) wq.heap.size u1 L uc1 z1) := HP4_1.out.grownR (grown_cells (World.grownBy.refl _ _) 0 _) (fun q hq e => HNE1.out q hq (Option.some.inj e).symm)
            have HO2z : Hid (Owns 2 (wd4.setCells pb4 0 [.int .i64 s1, .int .i64 s2, .int .i64 e1, .int .i64 e2, .slice u1 L uc1, .slice u2 L uc2, .slice u3 L uc3, .slice u4 L uc4]) wq.heap.size u2 L uc2 z2) := HP4_2.out.grownR (grown_cells (World.grownBy.refl _ _) 0 _) (fun q hq e => HNE2.out q hq (Option.some.inj e).symm)
            have HO3z : Hid (Owns 2 (wd4.setCells pb4 0 [.int .i64 s1, .int .i64 s2, .int .i64 e1, .int .i64 e2, .slice u1 L uc1, .slice u2 L uc2, .slice u3 L uc3, .slice u4 L uc4]) wq.heap.size u3 L uc3 z3) := HP4_3.out.grownR (grown_cells (World.grownBy.refl _ _) 0 _) (fun q hq e => HNE3.out q hq (Option.some.inj e).symm)
            have HO4z : Hid (Owns 2 (wd4.setCells pb4 0 [.int .i64 s1, .int .i64 s2, .int .i64 e1, .int .i64 e2, .slice u1 L uc1, .slice u2 L uc2, .slice u3 L uc3, .slice u4 L uc4]) wq.heap.size u4 L uc4 z4) := HP4_4.out.grownR (grown_cells (World.grownBy.refl _ _) 0 _) (fun q hq e => HNE4.out q hq (Option.some.inj e).symm)
            refine hK.out _ _ hSz (fun hSzz => ?_)
            clear hK Kk hSzz
            generalize wd4.setCells pb4 0 [.int .i64 s1, .int .i64 s2, .int .i64 e1, .int .i64 e2, .slice u1 L uc1, .slice u2 L uc2, .slice u3 L uc3, .slice u4 L uc4] = wz at hSz HPz HO1z HO2z HO3z HO4z ⊢
            try simp only [Act.put]
            refine wpAnyH_take (i := 11) (v := .bool o) rfl (by kernel_rfl) (by kernel_rfl) (by kernel_rfl) (fun _ _ _ h => h) (Or.inl ⟨by kernel_rfl, ?_⟩) (by assumption) ?_
            · intro wq hSq; go_simp
            try simp only [Act.put]
            refine wpAnyH_done (by kernel_rfl) ?_ _
            refine NoPanic.normal ?_
            go_simp
            have HSz : Hid (wq.grownBy wz none) := hSz
            clear hSz
            generalize pb4 = pb at HNE1 HNE2 HNE3 HNE4 HPB HPz ⊢
            have J1 : Hid (∀ q, u1 = some q → q.block ≠ pb) := HNE1.out
            have J2 : Hid (∀ q, u2 = some q → q.block ≠ pb) := HNE2.out
            have J3 : Hid (∀ q, u3 = some q → q.block ≠ pb) := HNE3.out
            have J4 : Hid (∀ q, u4 = some q → q.block ≠ pb) := HNE4.out
            have J5 : Hid (far u1 u2 ∧ far u1 u3 ∧ far u1 u4 ∧ far u2 u3 ∧ far u2 u4 ∧ far u3 u4) := HFA.out
            have J6 : Hid (wq.heap.size ≤ pb) := HPB.out
            have J7 : Hid (wq.grownBy wz none) := HSz.out
            have J8 : Hid (Owns 2 wz wq.heap.size u1 L uc1 z1) := HO1z.out
            have J9 : Hid (Owns 2 wz wq.heap.size u2 L uc2 z2) := HO2z.out
            have J10 : Hid (Owns 2 wz wq.heap.size u3 L uc3 z3) := HO3z.out
            have J11 : Hid (Owns 2 wz wq.heap.size u4 L uc4 z4) := HO4z.out
            have J12 : Hid (Lies wz pb [.int .i64 s1, .int .i64 s2, .int .i64 e1, .int .i64 e2, .slice u1 L uc1, .slice u2 L uc2, .slice u3 L uc3, .slice u4 L uc4]) := HPz.out
            clear HNE1 HNE2 HNE3 HNE4 HFA HPB HSz HO1z HO2z HO3z HO4z HPz
            clear HO3_1 HO3_2 HO3_3 HO3_4 HP4_1 HP4_2 HP4_3 HP4_4
            revert J12 J11 J10 J9 J8 J7 J6 J5 J4 J3 J2 J1
            revert wz
            revert pb
            revert uc4
            revert u4
            revert uc3
            revert u3
            revert uc2
            revert u2
            revert uc1
            revert u1
            exact key
        · rw [if_pos (by kernel_rfl)]
          refine wp_alloc_as 31 rfl #[.int .i64 0, .int .i64 0, .int .i64 0, .int .i64 0, .slice none 0 0, .slice none 0 0, .slice none 0 0, .slice none 0 0] (by kernel_rfl) ?_
          have hS5 : wq.grownBy (wd2.alloc (.cells #[.int .i64 0, .int .i64 0, .int .i64 0, .int .i64 0, .slice none 0 0, .slice none 0 0, .slice none 0 0, .slice none 0 0] 31)) none := grown_alloc hS2 _
          have HA5 : Hid (Lies (wd2.alloc (.cells #[.int .i64 0, .int .i64 0, .int .i64 0, .int .i64 0, .slice none 0 0, .slice none 0 0, .slice none 0 0, .slice none 0 0] 31)) wd2.heap.size [.int .i64 0, .int .i64 0, .int .i64 0, .int .i64 0, .slice none 0 0, .slice none 0 0, .slice none 0 0, .slice none 0 0]) := lies_new _ _ _
          have HPB : Hid (wq.heap.size ≤ wd2.heap.size) := hS2.size
          refine hK.out _ _ hS5 (fun _ => ?_)
          clear hK Kk
          generalize wd2.alloc (.cells #[.int .i64 0, .int .i64 0, .int .i64 0, .int .i64 0, .slice none 0 0, .slice none 0 0, .slice none 0 0, .slice none 0 0] 31) = wd5 at hS5 HA5 ⊢
          generalize wd2.heap.size = pb5 at HA5 HPB  ⊢
          try simp only [Act.put]
          refine wpAnyH_ready (rs := [5]) (by kernel_rfl) (by simp) ?_
          refine AllReadyH.cons rfl (fun Kk hK => ?_) (AllReadyH.nil)
          · go_simp
            refine (CS.out _).mono ?_
            rintro e wd6 ⟨u1, uc1, u2, uc2, u3, uc3, u4, uc4, rfl, ⟨ho1, ho2, ho3, ho4⟩, hfar, hb6⟩
            go_simp
            have hS6 : wq.grownBy wd6 none := grown_step hS5 hb6
            have HFA : Hid (far u1 u2 ∧ far u1 u3 ∧ far u1 u4 ∧ far u2 u3 ∧ far u2 u4 ∧ far u3 u4) := hfar
            have HO6_1 : Hid (Owns 2 wd6 wq.heap.size u1 L uc1 z1) := ho1.mono hS5.size
            have HO6_2 : Hid (Owns 2 wd6 wq.heap.size u2 L uc2 z2) := ho2.mono hS5.size
            have HO6_3 : Hid (Owns 2 wd6 wq.heap.size u3 L uc3 z3) := ho3.mono hS5.size
            have HO6_4 : Hid (Owns 2 wd6 wq.heap.size u4 L uc4 z4) := ho4.mono hS5.size
            have HA6 : Hid (Lies wd6 pb5 [.int .i64 0, .int .i64 0, .int .i64 0, .int .i64 0, .slice none 0 0, .slice none 0 0, .slice none 0 0, .slice none 0 0]) := HA5.out.belowS hb6
            have HNE1 : Hid (∀ q, u1 = some q → q.block ≠ pb5) := fun q hq => Nat.ne_of_gt (Nat.lt_of_lt_of_le HA5.out.2.2 (ho1.lo q hq))
            have HNE2 : Hid (∀ q, u2 = some q → q.block ≠ pb5) := fun q hq => Nat.ne_of_gt (Nat.lt_of_lt_of_le HA5.out.2.2 (ho2.lo q hq))
            have HNE3 : Hid (∀ q, u3 = some q → q.block ≠ pb5) := fun q hq => Nat.ne_of_gt (Nat.lt_of_lt_of_le HA5.out.2.2 (ho3.lo q hq))
            have HNE4 : Hid (∀ q, u4 = some q → q.block ≠ pb5) := fun q hq => Nat.ne_of_gt (Nat.lt_of_lt_of_le HA5.out.2.2 (ho4.lo q hq))
            refine hK.out _ _ hS6 (fun _ => ?_)
            clear hK Kk hb6 ho1 ho2 ho3 ho4 hfar
            try simp only [Act.put]
            refine wpAnyH_take (i := 6) (v := .tuple #[.agg #[.int .i64 s1, .int .i64 s2, .int .i64 e1, .int .i64 e2, .slice u1 L uc1, .slice u2 L uc2, .slice u3 L uc3, .slice u4 L uc4], .bool o]) rfl (by kernel_rfl) (by kernel_rfl) (by kernel_rfl) (fun _ _ _ h => h) (Or.inl ⟨by kernel_rfl, ?_⟩) (by assumption) ?_
            · intro wq hSq; go_simp
            try simp only [Act.put]
            refine wpAnyH_take (i := 7) (v := .agg #[.int .i64 s1, .int .i64 s2, .int .i64 e1, .int .i64 e2, .slice u1 L uc1, .slice u2 L uc2, .slice u3 L uc3, .slice u4 L uc4]) rfl (by kernel_rfl) (by kernel_rfl) (by kernel_rfl) (fun _ _ _ h => h) (Or.inl ⟨by kernel_rfl, ?_⟩) (by assumption) ?_
            · intro wq hSq; go_simp
            try simp only [Act.put]
            refine wpAnyH_take (i := 8) (v := .bool o) rfl (by kernel_rfl) (by kernel_rfl) (by kernel_rfl) (fun _ _ _ h => h) (Or.inl ⟨by kernel_rfl, ?_⟩) (by assumption) ?_
            · intro wq hSq; go_simp
            try simp only [Act.put]
            refine wpAnyH_ready (rs := [10]) (by kernel_rfl) (by simp) ?_
            refine AllReadyH.cons rfl (fun Kk hK => ?_) AllReadyH.nil
            rw [if_pos (by kernel_rfl)]
            with_reducible refine wp_store_mid 31 (.tmp 7) (.tmp 22) ?_ pb5 0 ([.int .i64 s1, .int .i64 s2, .int .i64 e1, .int .i64 e2, .slice u1 L uc1, .slice u2 L uc2, .slice u3 L uc3, .slice u4 L uc4]).toArray ?_ ?_ ?_ (by kernel_rfl) (by kernel_rfl) ?_
            · exact rfl
            · exact rfl
            · exact rfl
            · exact HA6.out.there 0 8 (by simp)
            have hSz : wq.grownBy (wd6.setCells pb5 0 [.int .i64 s1, .int .i64 s2, .int .i64 e1, .int .i64 e2, .slice u1 L uc1, .slice u2 L uc2, .slice u3 L uc3, .slice u4 L uc4]) none := grown_far hS6 HPB.out 0 _
            have HPz : Hid (Lies (wd6.setCells pb5 0 [.int .i64 s1, .int .i64 s2, .int .i64 e1, .int .i64 e2, .slice u1 L uc1, .slice u2 L uc2, .slice u3 L uc3, .slice u4 L uc4]) pb5 [.int .i64 s1, .int .i64 s2, .int .i64 e1, .int .i64 e2, .slice u1 L uc1, .slice u2 L uc2, .slice u3 L uc3, .slice u4 L uc4]) := HA6.out.setCells [.int .i64 s1, .int .i64 s2, .int .i64 e1, .int .i64 e2, .slice u1 L uc1, .slice u2 L uc2, .slice u3 L uc3, .slice u4 L uc4] 0 (by simp)
            have HO1z : Hid (Owns 2 (wd6.setCells pb5 0 [.int .i64 s1, .int .i64 s2, .int .i64 e1, .int .i64 e2, .slice u1 L uc1, .slice u2 L uc2, .slice u3 L uc3, .slice u4 L uc4]) wq.heap.size u1 L uc1 z1) := HO6_1.out.grownR (grown_cells (World.grownBy.refl _ _) 0 _) (fun q hq e => HNE1.out q hq (Option.some.inj e).symm)
            have HO2z : Hid (Owns 2 (wd6.setCells pb5 0 [.int .i64 s1, .int .i64 s2, .int .i64 e1, .int .i64 e2, .slice u1 L uc1, .slice u2 L uc2, .slice u3 L uc3, .slice u4 L uc4]) wq.heap.size u2 L uc2 z2) := HO6_2.out.grownR (grown_cells (World.grownBy.refl _ _) 0 _) (fun q hq e => HNE2.out q hq (Option.some.inj e).symm)
            have HO3z : Hid (Owns 2 (wd6.setCells pb5 0 [.int .i64 s1, .int .i64 s2, .int .i64 e1, .int .i64 e2, .slice u1 L uc1, .slice u2 L uc2, .slice u3 L uc3, .slice u4 L uc4]) wq.heap.size u3 L uc3 z3) := HO6_3.out.grownR (grown_cells (World.grownBy.refl _ _) 0 _) (fun q hq e => HNE3.out q hq (Option.some.inj e).symm)
            have HO4z : Hid (Owns 2 (wd6.setCells pb5 0 [.int .i64 s1, .int .i64 s2, .int .i64 e1, .int .i64 e2, .slice u1 L uc1, .slice u2 L uc2, .slice u3 L uc3, .slice u4 L uc4]) wq.heap.size u4 L uc4 z4) := HO6_4.out.grownR (grown_cells (World.grownBy.refl _ _) 0 _) (fun q hq e => HNE4.out q hq (Option.some.inj e).symm)
            refine hK.out _ _ hSz (fun hSzz => ?_)
            clear hK Kk hSzz
            generalize wd6.setCells pb5 0 [.int .i64 s1, .int .i64 s2, .int .i64 e1, .int .i64 e2, .slice u1 L uc1, .slice u2 L uc2, .slice u3 L uc3, .slice u4 L uc4] = wz at hSz HPz HO1z HO2z HO3z HO4z ⊢
            try simp only [Act.put]
            refine wpAnyH_take (i := 11) (v := .bool o) rfl (by kernel_rfl) (by kernel_rfl) (by kernel_rfl) (fun _ _ _ h => h) (Or.inl ⟨by kernel_rfl, ?_⟩) (by assumption) ?_
            · intro wq hSq; go_simp
            try simp only [Act.put]
            refine wpAnyH_done (by kernel_rfl) ?_ _
            refine NoPanic.normal ?_
            go_simp
            have HSz : Hid (wq.grownBy wz none) := hSz
            clear hSz
            generalize pb5 = pb at HNE1 HNE2 HNE3 HNE4 HPB HPz ⊢
            have J1 : Hid (∀ q, u1 = some q → q.block ≠ pb) := HNE1.out
            have J2 : Hid (∀ q, u2 = some q → q.block ≠ pb) := HNE2.out
            have J3 : Hid (∀ q, u3 = some q → q.block ≠ pb) := HNE3.out
            have J4 : Hid (∀ q, u4 = some q → q.block ≠ pb) := HNE4.out
            have J5 : Hid (far u1 u2 ∧ far u1 u3 ∧ far u1 u4 ∧ far u2 u3 ∧ far u2 u4 ∧ far u3 u4) := HFA.out
            have J6 : Hid (wq.heap.size ≤ pb) := HPB.out
            have J7 : Hid (wq.grownBy wz none) := HSz.out
            have J8 : Hid (Owns 2 wz wq.heap.size u1 L uc1 z1) := HO1z.out
            have J9 : Hid (Owns 2 wz wq.heap.size u2 L uc2 z2) := HO2z.out
            have J10 : Hid (Owns 2 wz wq.heap.size u3 L uc3 z3) := HO3z.out
            have J11 : Hid (Owns 2 wz wq.heap.size u4 L uc4 z4) := HO4z.out
            have J12 : Hid (Lies wz pb [.int .i64 s1, .int .i64 s2, .int .i64 e1, .int .i64 e2, .slice u1 L uc1, .slice u2 L uc2, .slice u3 L uc3, .slice u4 L uc4]) := HPz.out
            clear HNE1 HNE2 HNE3 HNE4 HFA HPB HSz HO1z HO2z HO3z HO4z HPz
            clear HO6_1 HO6_2 HO6_3 HO6_4
            revert J12 J11 J10 J9 J8 J7 J6 J5 J4 J3 J2 J1
            revert wz
            revert pb
            revert uc4
            revert u4
            revert uc3
            revert u3
            revert uc2
            revert u2
            revert uc1
            revert u1
            exact key
      · rw [if_pos (by kernel_rfl)]
        refine wp_alloc_as 31 rfl #[.int .i64 0, .int .i64 0, .int .i64 0, .int .i64 0, .slice none 0 0, .slice none 0 0, .slice none 0 0, .slice none 0 0] (by kernel_rfl) ?_
        have hS7 : wq.grownBy (wd1.alloc (.cells #[.int .i64 0, .int .i64 0, .int .i64 0, .int .i64 0, .slice none 0 0, .slice none 0 0, .slice none 0 0, .slice none 0 0] 31)) none := grown_alloc hS1 _
        have HA7 : Hid (Lies (wd1.alloc (.cells #[.int .i64 0, .int .i64 0, .int .i64 0, .int .i64 0, .slice none 0 0, .slice none 0 0, .slice none 0 0, .slice none 0 0] 31)) wd1.heap.size [.int .i64 0, .int .i64 0, .int .i64 0, .int .i64 0, .slice none 0 0, .slice none 0 0, .slice none 0 0, .slice none 0 0]) := lies_new _ _ _
        have HPB : Hid (wq.heap.size ≤ wd1.heap.size) := hS1.size
        refine hK.out _ _ hS7 (fun _ => ?_)
        clear hK Kk
        generalize wd1.alloc (.cells #[.int .i64 0, .int .i64 0, .int .i64 0, .int .i64 0, .slice none 0 0, .slice none 0 0, .slice none 0 0, .slice none 0 0] 31) = wd7 at hS7 HA7 ⊢
        generalize wd1.heap.size = pb7 at HA7 HPB  ⊢
        try simp only [Act.put]
        refine wpAnyH_ready (rs := [3]) (by kernel_rfl) (by simp) ?_
        refine AllReadyH.cons rfl (fun Kk hK => ?_) (AllReadyH.nil)
        · go_simp
          refine (HC3.out _).mono ?_
          rintro e wd8 ⟨rfl, hb8⟩
          go_simp
          have hS8 : wq.grownBy wd8 none := grown_step hS7 hb8
          have HA8 : Hid (Lies wd8 pb7 [.int .i64 0, .int .i64 0, .int .i64 0, .int .i64 0, .slice none 0 0, .slice none 0 0, .slice none 0 0, .slice none 0 0]) := HA7.out.belowS hb8
          refine hK.out _ _ hS8 (fun _ => ?_)
          clear hK Kk hb8
          try simp only [Act.put]
          refine wpAnyH_ready (rs := [5]) (by kernel_rfl) (by simp) ?_
          refine AllReadyH.cons rfl (fun Kk hK => ?_) (AllReadyH.nil)
          · go_simp
            refine (CS.out _).mono ?_
            rintro e wd9 ⟨u1, uc1, u2, uc2, u3, uc3, u4, uc4, rfl, ⟨ho1, ho2, ho3, ho4⟩, hfar, hb9⟩
            go_simp
            have hS9 : wq.grownBy wd9 none := grown_step hS8 hb9
            have HFA : Hid (far u1 u2 ∧ far u1 u3 ∧ far u1 u4 ∧ far u2 u3 ∧ far u2 u4 ∧ far u3 u4) := hfar
            have HO9_1 : Hid (Owns 2 wd9 wq.heap.size u1 L uc1 z1) := ho1.mono hS8.size
            have HO9_2 : Hid (Owns 2 wd9 wq.heap.size u2 L uc2 z2) := ho2.mono hS8.size
            have HO9_3 : Hid (Owns 2 wd9 wq.heap.size u3 L uc3 z3) := ho3.mono hS8.size
            have HO9_4 : Hid (Owns 2 wd9 wq.heap.size u4 L uc4 z4) := ho4.mono hS8.size
            have HA9 : Hid (Lies wd9 pb7 [.int .i64 0, .int .i64 0, .int .i64 0, .int .i64 0, .slice none 0 0, .slice none 0 0, .slice none 0 0, .slice none 0 0]) := HA8.out.belowS hb9
            have HNE1 : Hid (∀ q, u1 = some q → q.block ≠ pb7) := fun q hq => Nat.ne_of_gt (Nat.lt_of_lt_of_le HA8.out.2.2 (ho1.lo q hq))
            have HNE2 : Hid (∀ q, u2 = some q → q.block ≠ pb7) := fun q hq => Nat.ne_of_gt (Nat.lt_of_lt_of_le HA8.out.2.2 (ho2.lo q hq))
            have HNE3 : Hid (∀ q, u3 = some q → q.block ≠ pb7) := fun q hq => Nat.ne_of_gt (Nat.lt_of_lt_of_le HA8.out.2.2 (ho3.lo q hq))
            have HNE4 : Hid (∀ q, u4 = some q → q.block ≠ pb7) := fun q hq => Nat.ne_of_gt (Nat.lt_of_lt_of_le HA8.out.2.2 (ho4.lo q hq))
            refine hK.out _ _ hS9 (fun _ => ?_)
            clear hK Kk hb9 ho1 ho2 ho3 ho4 hfar
            try simp only [Act.put]
            refine wpAnyH_take (i := 6) (v := .tuple #[.agg #[.int .i64 s1, .int .i64 s2, .int .i64 e1, .int .i64 e2, .slice u1 L uc1, .slice u2 L uc2, .slice u3 L uc3, .slice u4 L uc4], .bool o]) rfl (by kernel_rfl) (by kernel_rfl) (by kernel_rfl) (fun _ _ _ h => h) (Or.inl ⟨by kernel_rfl, ?_⟩) (by assumption) ?_
            · intro wq hSq; go_simp
            try simp only [Act.put]
            refine wpAnyH_take (i := 7) (v := .agg #[.int .i64 s1, .int .i64 s2, .int .i64 e1, .int .i64 e2, .slice u1 L uc1, .slice u2 L uc2, .slice u3 L uc3, .slice u4 L uc4]) rfl (by kernel_rfl) (by kernel_rfl) (by kernel_rfl) (fun _ _ _ h => h) (Or.inl ⟨by kernel_rfl, ?_⟩) (by assumption) ?_
            · intro wq hSq; go_simp
            try simp only [Act.put]
            refine wpAnyH_take (i := 8) (v := .bool o) rfl (by kernel_rfl) (by kernel_rfl) (by kernel_rfl) (fun _ _ _ h => h) (Or.inl ⟨by kernel_rfl, ?_⟩) (by assumption) ?_
            · intro wq hSq; go_simp
            try simp only [Act.put]
            refine wpAnyH_ready (rs := [10]) (by kernel_rfl) (by simp) ?_
            refine AllReadyH.cons rfl (fun Kk hK => ?_) AllReadyH.nil
            rw [if_pos (by kernel_rfl)]
            with_reducible refine wp_store_mid 31 (.tmp 7) (.tmp 22) ?_ pb7 0 ([.int .i64 s1, .int .i64 s2, .int .i64 e1, .int .i64 e2, .slice u1 L uc1, .slice u2 L uc2, .slice u3 L uc3, .slice u4 L uc4]).toArray ?_ ?_ ?_ (by kernel_rfl) (by kernel_rfl) ?_
            · exact rfl
            · exact rfl
            · exact rfl
            · exact HA9.out.there 0 8 (by simp)
            have hSz : wq.grownBy (wd9.setCells pb7 0 [.int .i64 s1, .int .i64 s2, .int .i64 e1, .int .i64 e2, .slice u1 L uc1, .slice u2 L uc2, .slice u3 L uc3, .slice u4 L uc4]) none := grown_far hS9 HPB.out 0 _
            have HPz : Hid (Lies (wd9.setCells pb7 0 [.int .i64 s1, .int .i64 s2, .int .i64 e1, .int .i64 e2, .slice u1 L uc1, .slice u2 L uc2, .slice u3 L uc3, .slice u4 L uc4]) pb7 [.int .i64 s1, .int .i64 s2, .int .i64 e1, .int .i64 e2, .slice u1 L uc1, .slice u2 L uc2, .slice u3 L uc3, .slice u4 L uc4]) := HA9.out.setCells [.int .i64 s1, .int .i64 s2, .int .i64 e1, .int .i64 e2, .slice u1 L uc1, .slice u2 L uc2, .slice u3 L uc3, .slice u4 L uc4] 0 (by simp)
            have HO1z : Hid (Owns 2 (wd9.setCells pb7 0 [.int .i64 s1, .int .i64 s2, .int .i64 e1, .int .i64 e2, .slice u1 L uc1, .slice u2 L uc2, .slice u3 L uc3, .slice u4 L uc4]) wq.heap.size u1 L uc1 z1) := HO9_1.out.grownR (grown_cells (World.grownBy.refl _ _) 0 _) (fun q hq e => HNE1.out q hq (Option.some.inj e).symm)
            have HO2z : Hid (Owns 2 (wd9.setCells pb7 0 [.int .i64 s1, .int .i64 s2, .int .i64 e1, .int .i64 e2, .slice u1 L uc1, .slice u2 L uc2, .slice u3 L uc3, .slice u4 L uc4]) wq.heap.size u2 L uc2 z2) := HO9_2.out.grownR (grown_cells (World.grownBy.refl _ _) 0 _) (fun q hq e => HNE2.out q hq (Option.some.inj e).symm)
            have HO3z : Hid (Owns 2 (wd9.setCells pb7 0 [.int .i64 s1, .int .i64 s2, .int .i64 e1, .int .i64 e2, .slice u1 L uc1, .slice u2 L uc2, .slice u3 L uc3, .slice u4 L uc4]) wq.heap.size u3 L uc3 z3) := HO9_3.out.grownR (grown_cells (World.grownBy.refl _ _) 0 _) (fun q hq e => HNE3.out q hq (Option.some.inj e).symm)
            have HO4z : Hid (Owns 2 (wd9.setCells pb7 0 [.int .i64 s1, .int .i64 s2, .int .i64 e1, .int .i64 e2, .slice u1 L uc1, .slice u2 L uc2, .slice u3 L uc3, .slice u4 L uc4]) wq.heap.size u4 L uc4 z4) := HO9_4.out.grownR (grown_cells (World.grownBy.refl _ _) 0 _) (fun q hq e => HNE4.out q hq (Option.some.inj e).symm)
            refine hK.out _ _ hSz (fun hSzz => ?_)
            clear hK Kk hSzz
            generalize wd9.setCells pb7 0 [.int .i64 s1, .int .i64 s2, .int .i64 e1, .int .i64 e2, .slice u1 L uc1, .slice u2 L uc2, .slice u3 L uc3, .slice u4 L uc4] = wz at hSz HPz HO1z HO2z HO3z HO4z ⊢
            try simp only [Act.put]
            refine wpAnyH_take (i := 11) (v := .bool o) rfl (by kernel_rfl) (by kernel_rfl) (by kernel_rfl) (fun _ _ _ h => h) (Or.inl ⟨by kernel_rfl, ?_⟩) (by assumption) ?_
            · intro wq hSq; go_simp
            try simp only [Act.put]
            refine wpAnyH_done (by kernel_rfl) ?_ _
            refine NoPanic.normal ?_
            go_simp
            have HSz : Hid (wq.grownBy wz none) := hSz
            clear hSz
            generalize pb7 = pb at HNE1 HNE2 HNE3 HNE4 HPB HPz ⊢
            have J1 : Hid (∀ q, u1 = some q → q.block ≠ pb) := HNE1.out
            have J2 : Hid (∀ q, u2 = some q → q.block ≠ pb) := HNE2.out
            have J3 : Hid (∀ q, u3 = some q → q.block ≠ pb) := HNE3.out
            have J4 : Hid (∀ q, u4 = some q → q.block ≠ pb) := HNE4.out
            have J5 : Hid (far u1 u2 ∧ far u1 u3 ∧ far u1 u4 ∧ far u2 u3 ∧ far u2 u4 ∧ far u3 u4) := HFA.out
            have J6 : Hid (wq.heap.size ≤ pb) := HPB.out
            have J7 : Hid (wq.grownBy wz none) := HSz.out
            have J8 : Hid (Owns 2 wz wq.heap.size u1 L uc1 z1) := HO1z.out
            have J9 : Hid (Owns 2 wz wq.heap.size u2 L uc2 z2) := HO2z.out
            have J10 : Hid (Owns 2 wz wq.heap.size u3 L uc3 z3) := HO3z.out
            have J11 : Hid (Owns 2 wz wq.heap.size u4 L uc4 z4) := HO4z.out
            have J12 : Hid (Lies wz pb [.int .i64 s1, .int .i64 s2, .int .i64 e1, .int .i64 e2, .slice u1 L uc1, .slice u2 L uc2, .slice u3 L uc3, .slice u4 L uc4]) := HPz.out
            clear HNE1 HNE2 HNE3 HNE4 HFA HPB HSz HO1z HO2z HO3z HO4z HPz
            clear HO9_1 HO9_2 HO9_3 HO9_4
            revert J12 J11 J10 J9 J8 J7 J6 J5 J4 J3 J2 J1
            revert wz
            revert pb
            revert uc4
            revert u4
            revert uc3
            revert u3
            revert uc2
            revert u2
            revert uc1
            revert u1
            exact key
    · rw [if_pos (by kernel_rfl)]
      refine wp_alloc_as 31 rfl #[.int .i64 0, .int .i64 0, .int .i64 0, .int .i64 0, .slice none 0 0, .slice none 0 0, .slice none 0 0, .slice none 0 0] (by kernel_rfl) ?_
      have hS10 : wq.grownBy (wd0.alloc (.cells #[.int .i64 0, .int .i64 0, .int .i64 0, .int .i64 0, .slice none 0 0, .slice none 0 0, .slice none 0 0, .slice none 0 0] 31)) none := grown_alloc hHeld _
      have HA10 : Hid (Lies (wd0.alloc (.cells #[.int .i64 0, .int .i64 0, .int .i64 0, .int .i64 0, .slice none 0 0, .slice none 0 0, .slice none 0 0, .slice none 0 0] 31)) wd0.heap.size [.int .i64 0, .int .i64 0, .int .i64 0, .int .i64 0, .slice none 0 0, .slice none 0 0, .slice none 0 0, .slice none 0 0]) := lies_new _ _ _
      have HPB : Hid (wq.heap.size ≤ wd0.heap.size) := hHeld.size
      refine hK.out _ _ hS10 (fun _ => ?_)
      clear hK Kk
      generalize wd0.alloc (.cells #[.int .i64 0, .int .i64 0, .int .i64 0, .int .i64 0, .slice none 0 0, .slice none 0 0, .slice none 0 0, .slice none 0 0] 31) = wd10 at hS10 HA10 ⊢
      generalize wd0.heap.size = pb10 at HA10 HPB  ⊢
      try simp only [Act.put]
      refine wpAnyH_ready (rs := [1]) (by kernel_rfl) (by simp) ?_
      refine AllReadyH.cons rfl (fun Kk hK => ?_) (AllReadyH.nil)
      · go_simp
        refine (HC1.out _).mono ?_
        rintro e wd11 ⟨rfl, hb11⟩
        go_simp
        have hS11 : wq.grownBy wd11 none := grown_step hS10 hb11
        have HA11 : Hid (Lies wd11 pb10 [.int .i64 0, .int .i64 0, .int .i64 0, .int .i64 0, .slice none 0 0, .slice none 0 0, .slice none 0 0, .slice none 0 0]) := HA10.out.belowS hb11
        refine hK.out _ _ hS11 (fun _ => ?_)
        clear hK Kk hb11
        try simp only [Act.put]
        refine wpAnyH_ready (rs := [3]) (by kernel_rfl) (by simp) ?_
        refine AllReadyH.cons rfl (fun Kk hK => ?_) (AllReadyH.nil)
        · go_simp
          refine (HC3.out _).mono ?_
          rintro e wd12 ⟨rfl, hb12⟩
          go_simp
          have hS12 : wq.grownBy wd12 none := grown_step hS11 hb12
          have HA12 : Hid (Lies wd12 pb10 [.int .i64 0, .int .i64 0, .int .i64 0, .int .i64 0, .slice none 0 0, .slice none 0 0, .slice none 0 0, .slice none 0 0]) := HA11.out.belowS hb12
          refine hK.out _ _ hS12 (fun _ => ?_)
          clear hK Kk hb12
          try simp only [Act.put]
          refine wpAnyH_ready (rs := [5]) (by kernel_rfl) (by simp) ?_
          refine AllReadyH.cons rfl (fun Kk hK => ?_) (AllReadyH.nil)
          · go_simp
            refine (CS.out _).mono ?_
            rintro e wd13 ⟨u1, uc1, u2, uc2, u3, uc3, u4, uc4, rfl, ⟨ho1, ho2, ho3, ho4⟩, hfar, hb13⟩
            go_simp
            have hS13 : wq.grownBy wd13 none := grown_step hS12 hb13
            have HFA : Hid (far u1 u2 ∧ far u1 u3 ∧ far u1 u4 ∧ far u2 u3 ∧ far u2 u4 ∧ far u3 u4) := hfar
            have HO13_1 : Hid (Owns 2 wd13 wq.heap.size u1 L uc1 z1) := ho1.mono hS12.size
            have HO13_2 : Hid (Owns 2 wd13 wq.heap.size u2 L uc2 z2) := ho2.mono hS12.size
            have HO13_3 : Hid (Owns 2 wd13 wq.heap.size u3 L uc3 z3) := ho3.mono hS12.size
            have HO13_4 : Hid (Owns 2 wd13 wq.heap.size u4 L uc4 z4) := ho4.mono hS12.size
            have HA13 : Hid (Lies wd13 pb10 [.int .i64 0, .int .i64 0, .int .i64 0, .int .i64 0, .slice none 0 0, .slice none 0 0, .slice none 0 0, .slice none 0 0]) := HA12.out.belowS hb13
            have HNE1 : Hid (∀ q, u1 = some q → q.block ≠ pb10) := fun q hq => Nat.ne_of_gt (Nat.lt_of_lt_of_le HA12.out.2.2 (ho1.lo q hq))
            have HNE2 : Hid (∀ q, u2 = some q → q.block ≠ pb10) := fun q hq => Nat.ne_of_gt (Nat.lt_of_lt_of_le HA12.out.2.2 (ho2.lo q hq))
            have HNE3 : Hid (∀ q, u3 = some q → q.block ≠ pb10) := fun q hq => Nat.ne_of_gt (Nat.lt_of_lt_of_le HA12.out.2.2 (ho3.lo q hq))
            have HNE4 : Hid (∀ q, u4 = some q → q.block ≠ pb10) := fun q hq => Nat.ne_of_gt (Nat.lt_of_lt_of_le HA12.out.2.2 (ho4.lo q hq))
            refine hK.out _ _ hS13 (fun _ => ?_)
            clear hK Kk hb13 ho1 ho2 ho3 ho4 hfar
            try simp only [Act.put]
            refine wpAnyH_take (i := 6) (v := .tuple #[.agg #[.int .i64 s1, .int .i64 s2, .int .i64 e1, .int .i64 e2, .slice u1 L uc1, .slice u2 L uc2, .slice u3 L uc3, .slice u4 L uc4], .bool o]) rfl (by kernel_rfl) (by kernel_rfl) (by kernel_rfl) (fun _ _ _ h => h) (Or.inl ⟨by kernel_rfl, ?_⟩) (by assumption) ?_
            · intro wq hSq; go_simp
            try simp only [Act.put]
            refine wpAnyH_take (i := 7) (v := .agg #[.int .i64 s1, .int .i64 s2, .int .i64 e1, .int .i64 e2, .slice u1 L uc1, .slice u2 L uc2, .slice u3 L uc3, .slice u4 L uc4]) rfl (by kernel_rfl) (by kernel_rfl) (by kernel_rfl) (fun _ _ _ h => h) (Or.inl ⟨by kernel_rfl, ?_⟩) (by assumption) ?_
            · intro wq hSq; go_simp
            try simp only [Act.put]
            refine wpAnyH_take (i := 8) (v := .bool o) rfl (by kernel_rfl) (by kernel_rfl) (by kernel_rfl) (fun _ _ _ h => h) (Or.inl ⟨by kernel_rfl, ?_⟩) (by assumption) ?_
            · intro wq hSq; go_simp
            try simp only [Act.put]
            refine wpAnyH_ready (rs := [10]) (by kernel_rfl) (by simp) ?_
            refine AllReadyH.cons rfl (fun Kk hK => ?_) AllReadyH.nil
            rw [if_pos (by kernel_rfl)]
            with_reducible refine wp_store_mid 31 (.tmp 7) (.tmp 22) ?_ pb10 0 ([.int .i64 s1, .int .i64 s2, .int .i64 e1, .int .i64 e2, .slice u1 L uc1, .slice u2 L uc2, .slice u3 L uc3, .slice u4 L uc4]).toArray ?_ ?_ ?_ (by kernel_rfl) (by kernel_rfl) ?_
            · exact rfl
            · exact rfl
            · exact rfl
            · exact HA13.out.there 0 8 (by simp)
            have hSz : wq.grownBy (wd13.setCells pb10 0 [.int .i64 s1, .int .i64 s2, .int .i64 e1, .int .i64 e2, .slice u1 L uc1, .slice u2 L uc2, .slice u3 L uc3, .slice u4 L uc4]) none := grown_far hS13 HPB.out 0 _
            have HPz : Hid (Lies (wd13.setCells pb10 0 [.int .i64 s1, .int .i64 s2, .int .i64 e1, .int .i64 e2, .slice u1 L uc1, .slice u2 L uc2, .slice u3 L uc3, .slice u4 L uc4]) pb10 [.int .i64 s1, .int .i64 s2, .int .i64 e1, .int .i64 e2, .slice u1 L uc1, .slice u2 L uc2, .slice u3 L uc3, .slice u4 L uc4]) := HA13.out.setCells [.int .i64 s1, .int .i64 s2, .int .i64 e1, .int .i64 e2, .slice u1 L uc1, .slice u2 L uc2, .slice u3 L uc3, .slice u4 L uc4] 0 (by simp)
            have HO1z : Hid (Owns 2 (wd13.setCells pb10 0 [.int .i64 s1, .int .i64 s2, .int .i64 e1, .int .i64 e2, .slice u1 L uc1, .slice u2 L uc2, .slice u3 L uc3, .slice u4 L uc4]) wq.heap.size u1 L uc1 z1) := HO13_1.out.grownR (grown_cells (World.grownBy.refl _ _) 0 _) (fun q hq e => HNE1.out q hq (Option.some.inj e).symm)
            have HO2z : Hid (Owns 2 (wd13.setCells pb10 0 [.int .i64 s1, .int .i64 s2, .int .i64 e1, .int .i64 e2, .slice u1 L uc1, .slice u2 L uc2, .slice u3 L uc3, .slice u4 L uc4]) wq.heap.size u2 L uc2 z2) := HO13_2.out.grownR (grown_cells (World.grownBy.refl _ _) 0 _) (fun q hq e => HNE2.out q hq (Option.some.inj e).symm)
            have HO3z : Hid (Owns 2 (wd13.setCells pb10 0 [.int .i64 s1, .int .i64 s2, .int .i64 e1, .int .i64 e2, .slice u1 L uc1, .slice u2 L uc2, .slice u3 L uc3, .slice u4 L uc4]) wq.heap.size u3 L uc3 z3) := HO13_3.out.grownR (grown_cells (World.grownBy.refl _ _) 0 _) (fun q hq e => HNE3.out q hq (Option.some.inj e).symm)
            have HO4z : Hid (Owns 2 (wd13.setCells pb10 0 [.int .i64 s1, .int .i64 s2, .int .i64 e1, .int .i64 e2, .slice u1 L uc1, .slice u2 L uc2, .slice u3 L uc3, .slice u4 L uc4]) wq.heap.size u4 L uc4 z4) := HO13_4.out.grownR (grown_cells (World.grownBy.refl _ _) 0 _) (fun q hq e => HNE4.out q hq (Option.some.inj e).symm)
            refine hK.out _ _ hSz (fun hSzz => ?_)
            clear hK Kk hSzz
            generalize wd13.setCells pb10 0 [.int .i64 s1, .int .i64 s2, .int .i64 e1, .int .i64 e2, .slice u1 L uc1, .slice u2 L uc2, .slice u3 L uc3, .slice u4 L uc4] = wz at hSz HPz HO1z HO2z HO3z HO4z ⊢
            try simp only [Act.put]
            refine wpAnyH_take (i := 11) (v := .bool o) rfl (by kernel_rfl) (by kernel_rfl) (by kernel_rfl) (fun _ _ _ h => h) (Or.inl ⟨by kernel_rfl, ?_⟩) (by assumption) ?_
            · intro wq hSq; go_simp
            try simp only [Act.put]
            refine wpAnyH_done (by kernel_rfl) ?_ _
            refine NoPanic.normal ?_
            go_simp
            have HSz : Hid (wq.grownBy wz none) := hSz
            clear hSz
            generalize pb10 = pb at HNE1 HNE2 HNE3 HNE4 HPB HPz ⊢
            have J1 : Hid (∀ q, u1 = some q → q.block ≠ pb) := HNE1.out
            have J2 : Hid (∀ q, u2 = some q → q.block ≠ pb) := HNE2.out
            have J3 : Hid (∀ q, u3 = some q → q.block ≠ pb) := HNE3.out
            have J4 : Hid (∀ q, u4 = some q → q.block ≠ pb) := HNE4.out
            have J5 : Hid (far u1 u2 ∧ far u1 u3 ∧ far u1 u4 ∧ far u2 u3 ∧ far u2 u4 ∧ far u3 u4) := HFA.out
            have J6 : Hid (wq.heap.size ≤ pb) := HPB.out
            have J7 : Hid (wq.grownBy wz none) := HSz.out
            have J8 : Hid (Owns 2 wz wq.heap.size u1 L uc1 z1) := HO1z.out
            have J9 : Hid (Owns 2 wz wq.heap.size u2 L uc2 z2) := HO2z.out
            have J10 : Hid (Owns 2 wz wq.heap.size u3 L uc3 z3) := HO3z.out
            have J11 : Hid (Owns 2 wz wq.heap.size u4 L uc4 z4) := HO4z.out
            have J12 : Hid (Lies wz pb [.int .i64 s1, .int .i64 s2, .int .i64 e1, .int .i64 e2, .slice u1 L uc1, .slice u2 L uc2, .slice u3 L uc3, .slice u4 L uc4]) := HPz.out
            clear HNE1 HNE2 HNE3 HNE4 HFA HPB HSz HO1z HO2z HO3z HO4z HPz
            clear HO13_1 HO13_2 HO13_3 HO13_4
            revert J12 J11 J10 J9 J8 J7 J6 J5 J4 J3 J2 J1
            revert wz
            revert pb
            revert uc4
            revert u4
            revert uc3
            revert u3
            revert uc2
            revert u2
            revert uc1
            revert u1
            exact key
  case h =>
    intro u1 uc1 u2 uc2 u3 uc3 u4 uc4 pbu wz HNE1 HNE2 HNE3 HNE4 HFA HPB HSz HO1 HO2 HO3 HO4 HPz
    have HMa1 : Hid (Lies wz w.heap.size [.int .i64 a, .int .i64 b, .int .i64 c, .int .i64 d, .int .i64 f, .int .i64 k, .int .i64 a', .int .i64 b', .int .i64 c', .int .i64 d', .int .i64 f', .int .i64 k']) := HMa.out.grown HSz.out (by simp)
    have HSt1 : Hid (Lies wz (w.heap.size + 1) [.int .i64 x, .int .i64 y]) := HSt.out.grown HSz.out (by simp)
    have HB1 : Hid (Below w.heap.size w wz) := HBq.out.grown HSz.out HBq.out.size (by simp)
    have HU1 : Hid (Sees wz u1 L uc1 z1) := HO1.out.sees
    have HU2 : Hid (Sees wz u2 L uc2 z2) := HO2.out.sees
    have HU3 : Hid (Sees wz u3 L uc3 z3) := HO3.out.sees
    have HU4 : Hid (Sees wz u4 L uc4 z4) := HO4.out.sees
    have HUP : Hid (Lies wz pbu [.int .i64 s1, .int .i64 s2, .int .i64 e1, .int .i64 e2, .slice u1 L uc1, .slice u2 L uc2, .slice u3 L uc3, .slice u4 L uc4]) := HPz.out
    clear HMa HSt HBq HNE1 HNE2 HNE3 HNE4 HFA HPB HSz HO1 HO2 HO3 HO4 HPz CS
    go_wp2
    generalize wz = wq at HMa1 HSt1 HB1 HU1 HU2 HU3 HU4 HUP ⊢
    have HMa : Hid (Lies wq w.heap.size [.int .i64 a, .int .i64 b, .int .i64 c, .int .i64 d, .int .i64 f, .int .i64 k, .int .i64 a', .int .i64 b', .int .i64 c', .int .i64 d', .int .i64 f', .int .i64 k']) := HMa1.out
    have HSt : Hid (Lies wq (w.heap.size + 1) [.int .i64 x, .int .i64 y]) := HSt1.out
    have HBq : Hid (Below w.heap.size w wq) := HB1.out
    clear HMa1 HSt1 HB1
    apply cutKey
    case f =>
      intro key
      refine wp_region_noPanic ?_
      refine wp_region_held_drew (S := fun W => wq.grownBy W none) (by kernel_rfl) (grown_drew _ _) (fun hHeld => ?_)
      generalize wq.drew = wd0 at hHeld ⊢
      refine wpAnyH_take (i := 0) (v := .agg ([.int .i64 a, .int .i64 b, .int .i64 c, .int .i64 d, .int .i64 f, .int .i64 k, .int .i64 a', .int .i64 b', .int .i64 c', .int .i64 d', .int .i64 f', .int .i64 k']).toArray) rfl (by kernel_rfl) (by kernel_rfl) (by kernel_rfl) (fun _ _ _ h => h) (yieldsIf_load_mid (by kernel_rfl) 25 (.tmp 3) rfl w.heap.size 0 rfl ([.int .i64 a, .int .i64 b, .int .i64 c, .int .i64 d, .int .i64 f, .int .i64 k, .int .i64 a', .int .i64 b', .int .i64 c', .int .i64 d', .int .i64 f', .int .i64 k']) _ (fun W h => (HMa.out.grown h (by simp)).row) Try.underlying25 rfl (by kernel_rfl)) (by assumption) ?_
      try simp only [Act.put]
      refine wpAnyH_take (i := 2) (v := .agg #[.int .i64 x, .int .i64 y]) rfl (by kernel_rfl) (by kernel_rfl) (by kernel_rfl) (fun _ _ _ h => h) (Or.inl ⟨by kernel_rfl, ?_⟩) (by assumption) ?_
      · intro wp hSp; have c0 : wp.cell? ⟨(w.heap.size + 1), 0, none⟩ = some (.int .i64 x) := (HSt.out.grown hSp (by simp)).at 0; have c1 : wp.cell? ⟨(w.heap.size + 1), 1, none⟩ = some (.int .i64 y) := (HSt.out.grown hSp (by simp)).at 1; go_simp
      try simp only [Act.put]
      refine wpAnyH_take (i := 4) (v := .int .i64 a2) rfl (by kernel_rfl) (by kernel_rfl) (by kernel_rfl) (fun _ _ _ h => h) (Or.inl ⟨by kernel_rfl, ?_⟩) (by assumption) ?_
      · intro wq hSq; go_simp
      try simp only [Act.put]
      refine wpAnyH_ready (rs := [1, 9]) (by kernel_rfl) (by simp) ?_
      refine AllReadyH.cons rfl (fun Kk hK => ?_) (AllReadyH.cons rfl (fun Kk hK => ?_) (AllReadyH.nil))
      · go_simp
        refine (HC1.out _).mono ?_
        rintro e wd14 ⟨rfl, hb14⟩
        go_simp
        have hS14 : wq.grownBy wd14 none := grown_step hHeld hb14
        refine hK.out _ _ hS14 (fun _ => ?_)
        clear hK Kk hb14
        try simp only [Act.put]
        refine wpAnyH_ready (rs := [3, 9]) (by kernel_rfl) (by simp) ?_
        refine AllReadyH.cons rfl (fun Kk hK => ?_) (AllReadyH.cons rfl (fun Kk hK => ?_) (AllReadyH.nil))
        · go_simp
          refine (HC3.out _).mono ?_
          rintro e wd15 ⟨rfl, hb15⟩
          go_simp
          have hS15 : wq.grownBy wd15 none := grown_step hS14 hb15
          refine hK.out _ _ hS15 (fun _ => ?_)
          clear hK Kk hb15
          try simp only [Act.put]
          refine wpAnyH_ready (rs := [5, 9]) (by kernel_rfl) (by simp) ?_
          refine AllReadyH.cons rfl (fun Kk hK => ?_) (AllReadyH.cons rfl (fun Kk hK => ?_) (AllReadyH.nil))
          · go_simp
            refine (CI.out _).mono ?_
            rintro e wd16 ⟨g1, gc1, g2, gc2, g3, gc3, g4, gc4, rfl, ⟨ho1, ho2, ho3, ho4⟩, hfar, hb16⟩
            go_simp
            have hS16 : wq.grownBy wd16 none := grown_step hS15 hb16
            have HFA : Hid (far g1 g2 ∧ far g1 g3 ∧ far g1 g4 ∧ far g2 g3 ∧ far g2 g4 ∧ far g3 g4) := hfar
            have HO16_1 : Hid (Owns 2 wd16 wq.heap.size g1 L gc1 z1) := ho1.mono hS15.size
            have HO16_2 : Hid (Owns 2 wd16 wq.heap.size g2 L gc2 z2) := ho2.mono hS15.size
            have HO16_3 : Hid (Owns 2 wd16 wq.heap.size g3 L gc3 z3) := ho3.mono hS15.size
            have HO16_4 : Hid (Owns 2 wd16 wq.heap.size g4 L gc4 z4) := ho4.mono hS15.size
            have HHI1 : Hid (∀ q, g1 = some q → q.block < wd16.heap.size) := ho1.hi
            have HHI2 : Hid (∀ q, g2 = some q → q.block < wd16.heap.size) := ho2.hi
            have HHI3 : Hid (∀ q, g3 = some q → q.block < wd16.heap.size) := ho3.hi
            have HHI4 : Hid (∀ q, g4 = some q → q.block < wd16.heap.size) := ho4.hi
            refine hK.out _ _ hS16 (fun _ => ?_)
            clear hK Kk hb16 ho1 ho2 ho3 ho4 hfar
            try simp only [Act.put]
            refine wpAnyH_take (i := 6) (v := .tuple #[.agg #[.int .i64 s1, .int .i64 s2, .int .i64 e1, .int .i64 e2, .slice g1 L gc1, .slice g2 L gc2, .slice g3 L gc3, .slice g4 L gc4], .bool o]) rfl (by kernel_rfl) (by kernel_rfl) (by kernel_rfl) (fun _ _ _ h => h) (Or.inl ⟨by kernel_rfl, ?_⟩) (by assumption) ?_
            · intro wq hSq; go_simp
            try simp only [Act.put]
            refine wpAnyH_take (i := 7) (v := .agg #[.int .i64 s1, .int .i64 s2, .int .i64 e1, .int .i64 e2, .slice g1 L gc1, .slice g2 L gc2, .slice g3 L gc3, .slice g4 L gc4]) rfl (by kernel_rfl) (by kernel_rfl) (by kernel_rfl) (fun _ _ _ h => h) (Or.inl ⟨by kernel_rfl, ?_⟩) (by assumption) ?_
            · intro wq hSq; go_simp
            try simp only [Act.put]
            refine wpAnyH_take (i := 8) (v := .bool o) rfl (by kernel_rfl) (by kernel_rfl) (by kernel_rfl) (fun _ _ _ h => h) (Or.inl ⟨by kernel_rfl, ?_⟩) (by assumption) ?_
            · intro wq hSq; go_simp
            try simp only [Act.put]
            refine wpAnyH_ready (rs := [9]) (by kernel_rfl) (by simp) ?_
            refine AllReadyH.cons rfl (fun Kk hK => ?_) (AllReadyH.nil)
            · rw [if_pos (by kernel_rfl)]
              refine wp_alloc_as 31 rfl #[.int .i64 0, .int .i64 0, .int .i64 0, .int .i64 0, .slice none 0 0, .slice none 0 0, .slice none 0 0, .slice none 0 0] (by kernel_rfl) ?_
              have hS17 : wq.grownBy (wd16.alloc (.cells #[.int .i64 0, .int .i64 0, .int .i64 0, .int .i64 0, .slice none 0 0, .slice none 0 0, .slice none 0 0, .slice none 0 0] 31)) none := grown_alloc hS16 _
              have HA17 : Hid (Lies (wd16.alloc (.cells #[.int .i64 0, .int .i64 0, .int .i64 0, .int .i64 0, .slice none 0 0, .slice none 0 0, .slice none 0 0, .slice none 0 0] 31)) wd16.heap.size [.int .i64 0, .int .i64 0, .int .i64 0, .int .i64 0, .slice none 0 0, .slice none 0 0, .slice none 0 0, .slice none 0 0]) := lies_new _ _ _
              have HPB : Hid (wq.heap.size ≤ wd16.heap.size) := hS16.size
              have HP17_1 : Hid (Owns 2 (wd16.alloc (.cells #[.int .i64 0, .int .i64 0, .int .i64 0, .int .i64 0, .slice none 0 0, .slice none 0 0, .slice none 0 0, .slice none 0 0] 31)) wq.heap.size g1 L gc1 z1) := HO16_1.out.below ((Below.refl _ _).alloc (Nat.le_refl _) _)
              have HP17_2 : Hid (Owns 2 (wd16.alloc (.cells #[.int .i64 0, .int .i64 0, .int .i64 0, .int .i64 0, .slice none 0 0, .slice none 0 0, .slice none 0 0, .slice none 0 0] 31)) wq.heap.size g2 L gc2 z2) := HO16_2.out.below ((Below.refl _ _).alloc (Nat.le_refl _) _)
              have HP17_3 : Hid (Owns 2 (wd16.alloc (.cells #[.int .i64 0, .int .i64 0, .int .i64 0, .int .i64 0, .slice none 0 0, .slice none 0 0, .slice none 0 0, .slice none 0 0] 31)) wq.heap.size g3 L gc3 z3) := HO16_3.out.below ((Below.refl _ _).alloc (Nat.le_refl _) _)
              have HP17_4 : Hid (Owns 2 (wd16.alloc (.cells #[.int .i64 0, .int .i64 0, .int .i64 0, .int .i64 0, .slice none 0 0, .slice none 0 0, .slice none 0 0, .slice none 0 0] 31)) wq.heap.size g4 L gc4 z4) := HO16_4.out.below ((Below.refl _ _).alloc (Nat.le_refl _) _)
              have HNE1 : Hid (∀ q, g1 = some q → q.block ≠ wd16.heap.size) := fun q hq => Nat.ne_of_lt (HHI1.out q hq)
              have HNE2 : Hid (∀ q, g2 = some q → q.block ≠ wd16.heap.size) := fun q hq => Nat.ne_of_lt (HHI2.out q hq)
              have HNE3 : Hid (∀ q, g3 = some q → q.block ≠ wd16.heap.size) := fun q hq => Nat.ne_of_lt (HHI3.out q hq)
              have HNE4 : Hid (∀ q, g4 = some q → q.block ≠ wd16.heap.size) := fun q hq => Nat.ne_of_lt (HHI4.out q hq)
              refine hK.out _ _ hS17 (fun _ => ?_)
              clear hK Kk HHI1 HHI2 HHI3 HHI4
              generalize wd16.alloc (.cells #[.int .i64 0, .int .i64 0, .int .i64 0, .int .i64 0, .slice none 0 0, .slice none 0 0, .slice none 0 0, .slice none 0 0] 31) = wd17 at hS17 HA17 HP17_1 HP17_2 HP17_3 HP17_4 ⊢
              generalize wd16.heap.size = pb17 at HA17 HPB HNE1 HNE2 HNE3 HNE4 ⊢
              try simp only [Act.put]
              refine wpAnyH_ready (rs := [10]) (by kernel_rfl) (by simp) ?_
              refine AllReadyH.cons rfl (fun Kk hK => ?_) AllReadyH.nil
              rw [if_pos (by kernel_rfl)]
              with_reducible refine wp_store_mid 31 (.tmp 9) (.tmp 31) ?_ pb17 0 ([.int .i64 s1, .int .i64 s2, .int .i64 e1, .int .i64 e2, .slice g1 L gc1, .slice g2 L gc2, .slice g3 L gc3, .slice g4 L gc4]).toArray ?_ ?_ ?_ (by kernel_rfl) (by kernel_rfl) ?_
              · exact rfl
              · exact rfl
              · exact rfl
              · exact HA17.out.there 0 8 (by simp)
              have hSz : wq.grownBy (wd17.setCells pb17 0 [.int .i64 s1, .int .i64 s2, .int .i64 e1, .int .i64 e2, .slice g1 L gc1, .slice g2 L gc2, .slice g3 L gc3, .slice g4 L gc4]) none := grown_far hS17 HPB.out 0 _
              have HPz : Hid (Lies (wd17.setCells pb17 0 [.int .i64 s1, .int .i64 s2, .int .i64 e1, .int .i64 e2, .slice g1 L gc1, .slice g2 L gc2, .slice g3 L gc3, .slice g4 L gc4]) pb17 [.int .i64 s1, .int .i64 s2, .int .i64 e1, .int .i64 e2, .slice g1 L gc1, .slice g2 L gc2, .slice g3 L gc3, .slice g4 L gc4]) := HA17.out.setCells [.int .i64 s1, .int .i64 s2, .int .i64 e1, .int .i64 e2, .slice g1 L gc1, .slice g2 L gc2, .slice g3 L gc3, .slice g4 L gc4] 0 (by simp)
              have HO1z : Hid (Owns 2 (wd17.setCells pb17 0 [.int .i64 s1, .int .i64 s2, .int .i64 e1, .int .i64 e2, .slice g1 L gc1, .slice g2 L gc2, .slice g3 L gc3, .slice g4 L gc4]) wq.heap.size g1 L gc1 z1) := HP17_1.out.grownR (grown_cells (World.grownBy.refl _ _) 0 _) (fun q hq e => HNE1.out q hq (Option.some.inj e).symm)
              have HO2z : Hid (Owns 2 (wd17.setCells pb17 0 [.int .i64 s1, .int .i64 s2, .int .i64 e1, .int .i64 e2, .slice g1 L gc1, .slice g2 L gc2, .slice g3 L gc3, .slice g4 L gc4]) wq.heap.size g2 L gc2 z2) := HP17_2.out.grownR (grown_cells (World.grownBy.refl _ _) 0 _) (fun q hq e => HNE2.out q hq (Option.some.inj e).symm)
              have HO3z : Hid (Owns 2 (wd17.setCells pb17 0 [.int .i64 s1, .int .i64 s2, .int .i64 e1, .int .i64 e2, .slice g1 L gc1, .slice g2 L gc2, .slice g3 L gc3, .slice g4 L gc4]) wq.heap.size g3 L gc3 z3) := HP17_3.out.grownR (grown_cells (World.grownBy.refl _ _) 0 _) (fun q hq e => HNE3.out q hq (Option.some.inj e).symm)
              have HO4z : Hid (Owns 2 (wd17.setCells pb17 0 [.int .i64 s1, .int .i64 s2, .int .i64 e1, .int .i64 e2, .slice g1 L gc1, .slice g2 L gc2, .slice g3 L gc3, .slice g4 L gc4]) wq.heap.size g4 L gc4 z4) := HP17_4.out.grownR (grown_cells (World.grownBy.refl _ _) 0 _) (fun q hq e => HNE4.out q hq (Option.some.inj e).symm)
              refine hK.out _ _ hSz (fun hSzz => ?_)
              clear hK Kk hSzz
              generalize wd17.setCells pb17 0 [.int .i64 s1, .int .i64 s2, .int .i64 e1, .int .i64 e2, .slice g1 L gc1, .slice g2 L gc2, .slice g3 L gc3, .slice g4 L gc4] = wz at hSz HPz HO1z HO2z HO3z HO4z ⊢
              try simp only [Act.put]
              refine wpAnyH_take (i := 11) (v := .bool o) rfl (by kernel_rfl) (by kernel_rfl) (by kernel_rfl) (fun _ _ _ h => h) (Or.inl ⟨by kernel_rfl, ?_⟩) (by assumption) ?_
              · intro wq hSq; go_simp
              try simp only [Act.put]
              refine wpAnyH_done (by kernel_rfl) ?_ _
              refine NoPanic.normal ?_
              go_simp
              have HSz : Hid (wq.grownBy wz none) := hSz
              clear hSz
              generalize pb17 = pb at HNE1 HNE2 HNE3 HNE4 HPB HPz ⊢
              have J1 : Hid (∀ q, g1 = some q → q.block ≠ pb) := HNE1.out
              have J2 : Hid (∀ q, g2 = some q → q.block ≠ pb) := HNE2.out
              have J3 : Hid (∀ q, g3 = some q → q.block ≠ pb) := HNE3.out
              have J4 : Hid (∀ q, g4 = some q → q.block ≠ pb) := HNE4.out
              have J5 : Hid (far g1 g2 ∧ far g1 g3 ∧ far g1 g4 ∧ far g2 g3 ∧ far g2 g4 ∧ far g3 g4) := HFA.out
              have J6 : Hid (wq.heap.size ≤ pb) := HPB.out
              have J7 : Hid (wq.grownBy wz none) := HSz.out
              have J8 : Hid (Owns 2 wz wq.heap.size g1 L gc1 z1) := HO1z.out
              have J9 : Hid (Owns 2 wz wq.heap.size g2 L gc2 z2) := HO2z.out
              have J10 : Hid (Owns 2 wz wq.heap.size g3 L gc3 z3) := HO3z.out
              have J11 : Hid (Owns 2 wz wq.heap.size g4 L gc4 z4) := HO4z.out
              have J12 : Hid (Lies wz pb [.int .i64 s1, .int .i64 s2, .int .i64 e1, .int .i64 e2, .slice g1 L gc1, .slice g2 L gc2, .slice g3 L gc3, .slice g4 L gc4]) := HPz.out
              clear HNE1 HNE2 HNE3 HNE4 HFA HPB HSz HO1z HO2z HO3z HO4z HPz
              clear HO16_1 HO16_2 HO16_3 HO16_4 HP17_1 HP17_2 HP17_3 HP17_4
              revert J12 J11 J10 J9 J8 J7 J6 J5 J4 J3 J2 J1
              revert wz
              revert pb
              revert gc4
              revert g4
              revert gc3
              revert g3
              revert gc2
              revert g2
              revert gc1
              revert g1
              exact key
          · rw [if_pos (by kernel_rfl)]
            refine wp_alloc_as 31 rfl #[.int .i64 0, .int .i64 0, .int .i64 0, .int .i64 0, .slice none 0 0, .slice none 0 0, .slice none 0 0, .slice none 0 0] (by kernel_rfl) ?_
            have hS18 : wq.grownBy (wd15.alloc (.cells #[.int .i64 0, .int .i64 0, .int .i64 0, .int .i64 0, .slice none 0 0, .slice none 0 0, .slice none 0 0, .slice none 0 0] 31)) none := grown_alloc hS15 _
            have HA18 : Hid (Lies (wd15.alloc (.cells #[.int .i64 0, .int .i64 0, .int .i64 0, .int .i64 0, .slice none 0 0, .slice none 0 0, .slice none 0 0, .slice none 0 0] 31)) wd15.heap.size [.int .i64 0, .int .i64 0, .int .i64 0, .int .i64 0, .slice none 0 0, .slice none 0 0, .slice none 0 0, .slice none 0 0]) := lies_new _ _ _
            have HPB : Hid (wq.heap.size ≤ wd15.heap.size) := hS15.size
            refine hK.out _ _ hS18 (fun _ => ?_)
            clear hK Kk
            generalize wd15.alloc (.cells #[.int .i64 0, .int .i64 0, .int .i64 0, .int .i64 0, .slice none 0 0, .slice none 0 0, .slice none 0 0, .slice none 0 0] 31) = wd18 at hS18 HA18 ⊢
            generalize wd15.heap.size = pb18 at HA18 HPB  ⊢
            try simp only [Act.put]
            refine wpAnyH_ready (rs := [5]) (by kernel_rfl) (by simp) ?_
            refine AllReadyH.cons rfl (fun Kk hK => ?_) (AllReadyH.nil)
            · go_simp
              refine (CI.out _).mono ?_
              rintro e wd19 ⟨g1, gc1, g2, gc2, g3, gc3, g4, gc4, rfl, ⟨ho1, ho2, ho3, ho4⟩, hfar, hb19⟩
              go_simp
              have hS19 : wq.grownBy wd19 none := grown_step hS18 hb19
              have HFA : Hid (far g1 g2 ∧ far g1 g3 ∧ far g1 g4 ∧ far g2 g3 ∧ far g2 g4 ∧ far g3 g4) := hfar
              have HO19_1 : Hid (Owns 2 wd19 wq.heap.size g1 L gc1 z1) := ho1.mono hS18.size
              have HO19_2 : Hid (Owns 2 wd19 wq.heap.size g2 L gc2 z2) := ho2.mono hS18.size
              have HO19_3 : Hid (Owns 2 wd19 wq.heap.size g3 L gc3 z3) := ho3.mono hS18.size
              have HO19_4 : Hid (Owns 2 wd19 wq.heap.size g4 L gc4 z4) := ho4.mono hS18.size
              have HA19 : Hid (Lies wd19 pb18 [.int .i64 0, .int .i64 0, .int .i64 0, .int .i64 0, .slice none 0 0, .slice none 0 0, .slice none 0 0, .slice none 0 0]) := HA18.out.belowS hb19
              have HNE1 : Hid (∀ q, g1 = some q → q.block ≠ pb18) := fun q hq => Nat.ne_of_gt (Nat.lt_of_lt_of_le HA18.out.2.2 (ho1.lo q hq))
              have HNE2 : Hid (∀ q, g2 = some q → q.block ≠ pb18) := fun q hq => Nat.ne_of_gt (Nat.lt_of_lt_of_le HA18.out.2.2 (ho2.lo q hq))
              have HNE3 : Hid (∀ q, g3 = some q → q.block ≠ pb18) := fun q hq => Nat.ne_of_gt (Nat.lt_of_lt_of_le HA18.out.2.2 (ho3.lo q hq))
              have HNE4 : Hid (∀ q, g4 = some q → q.block ≠ pb18) := fun q hq => Nat.ne_of_gt (Nat.lt_of_lt_of_le HA18.out.2.2 (ho4.lo q hq))
              refine hK.out _ _ hS19 (fun _ => ?_)
              clear hK Kk hb19 ho1 ho2 ho3 ho4 hfar
              try simp only [Act.put]
              refine wpAnyH_take (i := 6) (v := .tuple #[.agg #[.int .i64 s1, .int .i64 s2, .int .i64 e1, .int .i64 e2, .slice g1 L gc1, .slice g2 L gc2, .slice g3 L gc3, .slice g4 L gc4], .bool o]) rfl (by kernel_rfl) (by kernel_rfl) (by kernel_rfl) (fun _ _ _ h => h) (Or.inl ⟨by kernel_rfl, ?_⟩) (by assumption) ?_
              · intro wq hSq; go_simp
              try simp only [Act.put]
              refine wpAnyH_take (i := 7) (v := .agg #[.int .i64 s1, .int .i64 s2, .int .i64 e1, .int .i64 e2, .slice g1 L gc1, .slice g2 L gc2, .slice g3 L gc3, .slice g4 L gc4]) rfl (by kernel_rfl) (by kernel_rfl) (by kernel_rfl) (fun _ _ _ h => h) (Or.inl ⟨by kernel_rfl, ?_⟩) (by assumption) ?_
              · intro wq hSq; go_simp
              try simp only [Act.put]
              refine wpAnyH_take (i := 8) (v := .bool o) rfl (by kernel_rfl) (by kernel_rfl) (by kernel_rfl) (fun _ _ _ h => h) (Or.inl ⟨by kernel_rfl, ?_⟩) (by assumption) ?_
              · intro wq hSq; go_simp
              try simp only [Act.put]
              refine wpAnyH_ready (rs := [10]) (by kernel_rfl) (by simp) ?_
              refine AllReadyH.cons rfl (fun Kk hK => ?_) AllReadyH.nil
              rw [if_pos (by kernel_rfl)]
              with_reducible refine wp_store_mid 31 (.tmp 9) (.tmp 31) ?_ pb18 0 ([.int .i64 s1, .int .i64 s2, .int .i64 e1, .int .i64 e2, .slice g1 L gc1, .slice g2 L gc2, .slice g3 L gc3, .slice g4 L gc4]).toArray ?_ ?_ ?_ (by kernel_rfl) (by kernel_rfl) ?_
              · exact rfl
              · exact rfl
              · exact rfl
              · exact HA19.out.there 0 8 (by simp)
              have hSz : wq.grownBy (wd19.setCells pb18 0 [.int .i64 s1, .int .i64 s2, .int .i64 e1, .int .i64 e2, .slice g1 L gc1, .slice g2 L gc2, .slice g3 L gc3, .slice g4 L gc4]) none := grown_far hS19 HPB.out 0 _
              have HPz : Hid (Lies (wd19.setCells pb18 0 [.int .i64 s1, .int .i64 s2, .int .i64 e1, .int .i64 e2, .slice g1 L gc1, .slice g2 L gc2, .slice g3 L gc3, .slice g4 L gc4]) pb18 [.int .i64 s1, .int .i64 s2, .int .i64 e1, .int .i64 e2, .slice g1 L gc1, .slice g2 L gc2, .slice g3 L gc3, .slice g4 L gc4]) := HA19.out.setCells [.int .i64 s1, .int .i64 s2, .int .i64 e1, .int .i64 e2, .slice g1 L gc1, .slice g2 L gc2, .slice g3 L gc3, .slice g4 L gc4] 0 (by simp)
              have HO1z : Hid (Owns 2 (wd19.setCells pb18 0 [.int .i64 s1, .int .i64 s2, .int .i64 e1, .int .i64 e2, .slice g1 L gc1, .slice g2 L gc2, .slice g3 L gc3, .slice g4 L gc4]) wq.heap.size g1 L gc1 z1) := HO19_1.out.grownR (grown_cells (World.grownBy.refl _ _) 0 _) (fun q hq e => HNE1.out q hq (Option.some.inj e).symm)
              have HO2z : Hid (Owns 2 (wd19.setCells pb18 0 [.int .i64 s1, .int .i64 s2, .int .i64 e1, .int .i64 e2, .slice g1 L gc1, .slice g2 L gc2, .slice g3 L gc3, .slice g4 L gc4]) wq.heap.size g2 L gc2 z2) := HO19_2.out.grownR (grown_cells (World.grownBy.refl _ _) 0 _) (fun q hq e => HNE2.out q hq (Option.some.inj e).symm)
              have HO3z : Hid (Owns 2 (wd19.setCells pb18 0 [.int .i64 s1, .int .i64 s2, .int .i64 e1, .int .i64 e2, .slice g1 L gc1, .slice g2 L gc2, .slice g3 L gc3, .slice g4 L gc4]) wq.heap.size g3 L gc3 z3) := HO19_3.out.grownR (grown_cells (World.grownBy.refl _ _) 0 _) (fun q hq e => HNE3.out q hq (Option.some.inj e).symm)
              have HO4z : Hid (Owns 2 (wd19.setCells pb18 0 [.int .i64 s1, .int .i64 s2, .int .i64 e1, .int .i64 e2, .slice g1 L gc1, .slice g2 L gc2, .slice g3 L gc3, .slice g4 L gc4]) wq.heap.size g4 L gc4 z4) := HO19_4.out.grownR (grown_cells (World.grownBy.refl _ _) 0 _) (fun q hq e => HNE4.out q hq (Option.some.inj e).symm)
              refine hK.out _ _ hSz (fun hSzz => ?_)
              clear hK Kk hSzz
              generalize wd19.setCells pb18 0 [.int .i64 s1, .int .i64 s2, .int .i64 e1, .int .i64 e2, .slice g1 L gc1, .slice g2 L gc2, .slice g3 L gc3, .slice g4 L gc4] = wz at hSz HPz HO1z HO2z HO3z HO4z ⊢
              try simp only [Act.put]
              refine wpAnyH_take (i := 11) (v := .bool o) rfl (by kernel_rfl) (by kernel_rfl) (by kernel_rfl) (fun _ _ _ h => h) (Or.inl ⟨by kernel_rfl, ?_⟩) (by assumption) ?_
              · intro wq hSq; go_simp
              try simp only [Act.put]
              refine wpAnyH_done (by kernel_rfl) ?_ _
              refine NoPanic.normal ?_
              go_simp
              have HSz : Hid (wq.grownBy wz none) := hSz
              clear hSz
              generalize pb18 = pb at HNE1 HNE2 HNE3 HNE4 HPB HPz ⊢
              have J1 : Hid (∀ q, g1 = some q → q.block ≠ pb) := HNE1.out
              have J2 : Hid (∀ q, g2 = some q → q.block ≠ pb) := HNE2.out
              have J3 : Hid (∀ q, g3 = some q → q.block ≠ pb) := HNE3.out
              have J4 : Hid (∀ q, g4 = some q → q.block ≠ pb) := HNE4.out
              have J5 : Hid (far g1 g2 ∧ far g1 g3 ∧ far g1 g4 ∧ far g2 g3 ∧ far g2 g4 ∧ far g3 g4) := HFA.out
              have J6 : Hid (wq.heap.size ≤ pb) := HPB.out
              have J7 : Hid (wq.grownBy wz none) := HSz.out
              have J8 : Hid (Owns 2 wz wq.heap.size g1 L gc1 z1) := HO1z.out
              have J9 : Hid (Owns 2 wz wq.heap.size g2 L gc2 z2) := HO2z.out
              have J10 : Hid (Owns 2 wz wq.heap.size g3 L gc3 z3) := HO3z.out
              have J11 : Hid (Owns 2 wz wq.heap.size g4 L gc4 z4) := HO4z.out
              have J12 : Hid (Lies wz pb [.int .i64 s1, .int .i64 s2, .int .i64 e1, .int .i64 e2, .slice g1 L gc1, .slice g2 L gc2, .slice g3 L gc3, .slice g4 L gc4]) := HPz.out
              clear HNE1 HNE2 HNE3 HNE4 HFA HPB HSz HO1z HO2z HO3z HO4z HPz
              clear HO19_1 HO19_2 HO19_3 HO19_4
              revert J12 J11 J10 J9 J8 J7 J6 J5 J4 J3 J2 J1
              revert wz
              revert pb
              revert gc4
              revert g4
              revert gc3
              revert g3
              revert gc2
              revert g2
              revert gc1
              revert g1
              exact key
        · rw [if_pos (by kernel_rfl)]
          refine wp_alloc_as 31 rfl #[.int .i64 0, .int .i64 0, .int .i64 0, .int .i64 0, .slice none 0 0, .slice none 0 0, .slice none 0 0, .slice none 0 0] (by kernel_rfl) ?_
          have hS20 : wq.grownBy (wd14.alloc (.cells #[.int .i64 0, .int .i64 0, .int .i64 0, .int .i64 0, .slice none 0 0, .slice none 0 0, .slice none 0 0, .slice none 0 0] 31)) none := grown_alloc hS14 _
          have HA20 : Hid (Lies (wd14.alloc (.cells #[.int .i64 0, .int .i64 0, .int .i64 0, .int .i64 0, .slice none 0 0, .slice none 0 0, .slice none 0 0, .slice none 0 0] 31)) wd14.heap.size [.int .i64 0, .int .i64 0, .int .i64 0, .int .i64 0, .slice none 0 0, .slice none 0 0, .slice none 0 0, .slice none 0 0]) := lies_new _ _ _
          have HPB : Hid (wq.heap.size ≤ wd14.heap.size) := hS14.size
          refine hK.out _ _ hS20 (fun _ => ?_)
          clear hK Kk
          generalize wd14.alloc (.cells #[.int .i64 0, .int .i64 0, .int .i64 0, .int .i64 0, .slice none 0 0, .slice none 0 0, .slice none 0 0, .slice none 0 0] 31) = wd20 at hS20 HA20 ⊢
          generalize wd14.heap.size = pb20 at HA20 HPB  ⊢
          try simp only [Act.put]
          refine wpAnyH_ready (rs := [3]) (by kernel_rfl) (by simp) ?_
          refine AllReadyH.cons rfl (fun Kk hK => ?_) (AllReadyH.nil)
          · go_simp
            refine (HC3.out _).mono ?_
            rintro e wd21 ⟨rfl, hb21⟩
            go_simp
            have hS21 : wq.grownBy wd21 none := grown_step hS20 hb21
            have HA21 : Hid (Lies wd21 pb20 [.int .i64 0, .int .i64 0, .int .i64 0, .int .i64 0, .slice none 0 0, .slice none 0 0, .slice none 0 0, .slice none 0 0]) := HA20.out.belowS hb21
            refine hK.out _ _ hS21 (fun _ => ?_)
            clear hK Kk hb21
            try simp only [Act.put]
            refine wpAnyH_ready (rs := [5]) (by kernel_rfl) (by simp) ?_
            refine AllReadyH.cons rfl (fun Kk hK => ?_) (AllReadyH.nil)
            · go_simp
              refine (CI.out _).mono ?_
              rintro e wd22 ⟨g1, gc1, g2, gc2, g3, gc3, g4, gc4, rfl, ⟨ho1, ho2, ho3, ho4⟩, hfar, hb22⟩
              go_simp
              have hS22 : wq.grownBy wd22 none := grown_step hS21 hb22
              have HFA : Hid (far g1 g2 ∧ far g1 g3 ∧ far g1 g4 ∧ far g2 g3 ∧ far g2 g4 ∧ far g3 g4) := hfar
              have HO22_1 : Hid (Owns 2 wd22 wq.heap.size g1 L gc1 z1) := ho1.mono hS21.size
              have HO22_2 : Hid (Owns 2 wd22 wq.heap.size g2 L gc2 z2) := ho2.mono hS21.size
              have HO22_3 : Hid (Owns 2 wd22 wq.heap.size g3 L gc3 z3) := ho3.mono hS21.size
              have HO22_4 : Hid (Owns 2 wd22 wq.heap.size g4 L gc4 z4) := ho4.mono hS21.size
              have HA22 : Hid (Lies wd22 pb20 [.int .i64 0, .int .i64 0, .int .i64 0, .int .i64 0, .slice none 0 0, .slice none 0 0, .slice none 0 0, .slice none 0 0]) := HA21.out.belowS hb22
              have HNE1 : Hid (∀ q, g1 = some q → q.block ≠ pb20) := fun q hq => Nat.ne_of_gt (Nat.lt_of_lt_of_le HA21.out.2.2 (ho1.lo q hq))
              have HNE2 : Hid (∀ q, g2 = some q → q.block ≠ pb20) := fun q hq => Nat.ne_of_gt (Nat.lt_of_lt_of_le HA21.out.2.2 (ho2.lo q hq))
              have HNE3 : Hid (∀ q, g3 = some q → q.block ≠ pb20) := fun q hq => Nat.ne_of_gt (Nat.lt_of_lt_of_le HA21.out.2.2 (ho3.lo q hq))
              have HNE4 : Hid (∀ q, g4 = some q → q.block ≠ pb20) := fun q hq => Nat.ne_of_gt (Nat.lt_of_lt_of_le HA21.out.2.2 (ho4.lo q hq))
              refine hK.out _ _ hS22 (fun _ => ?_)
              clear hK Kk hb22 ho1 ho2 ho3 ho4 hfar
              try simp only [Act.put]
              refine wpAnyH_take (i := 6) (v := .tuple #[.agg #[.int .i64 s1, .int .i64 s2, .int .i64 e1, .int .i64 e2, .slice g1 L gc1, .slice g2 L gc2, .slice g3 L gc3, .slice g4 L gc4], .bool o]) rfl (by kernel_rfl) (by kernel_rfl) (by kernel_rfl) (fun _ _ _ h => h) (Or.inl ⟨by kernel_rfl, ?_⟩) (by assumption) ?_
              · intro wq hSq; go_simp
              try simp only [Act.put]
              refine wpAnyH_take (i := 7) (v := .agg #[.int .i64 s1, .int .i64 s2, .int .i64 e1, .int .i64 e2, .slice g1 L gc1, .slice g2 L gc2, .slice g3 L gc3, .slice g4 L gc4]) rfl (by kernel_rfl) (by kernel_rfl) (by kernel_rfl) (fun _ _ _ h => h) (Or.inl ⟨by kernel_rfl, ?_⟩) (by assumption) ?_
              · intro wq hSq; go_simp
              try simp only [Act.put]
              refine wpAnyH_take (i := 8) (v := .bool o) rfl (by kernel_rfl) (by kernel_rfl) (by kernel_rfl) (fun _ _ _ h => h) (Or.inl ⟨by kernel_rfl, ?_⟩) (by assumption) ?_
              · intro wq hSq; go_simp
              try simp only [Act.put]
              refine wpAnyH_ready (rs := [10]) (by kernel_rfl) (by simp) ?_
              refine AllReadyH.cons rfl (fun Kk hK => ?_) AllReadyH.nil
              rw [if_pos (by kernel_rfl)]
              with_reducible refine wp_store_mid 31 (.tmp 9) (.tmp 31) ?_ pb20 0 ([.int .i64 s1, .int .i64 s2, .int .i64 e1, .int .i64 e2, .slice g1 L gc1, .slice g2 L gc2, .slice g3 L gc3, .slice g4 L gc4]).toArray ?_ ?_ ?_ (by kernel_rfl) (by kernel_rfl) ?_
              · exact rfl
              · exact rfl
              · exact rfl
              · exact HA22.out.there 0 8 (by simp)
              have hSz : wq.grownBy (wd22.setCells pb20 0 [.int .i64 s1, .int .i64 s2, .int .i64 e1, .int .i64 e2, .slice g1 L gc1, .slice g2 L gc2, .slice g3 L gc3, .slice g4 L gc4]) none := grown_far hS22 HPB.out 0 _
              have HPz : Hid (Lies (wd22.setCells pb20 0 [.int .i64 s1, .int .i64 s2, .int .i64 e1, .int .i64 e2, .slice g1 L gc1, .slice g2 L gc2, .slice g3 L gc3, .slice g4 L gc4]) pb20 [.int .i64 s1, .int .i64 s2, .int .i64 e1, .int .i64 e2, .slice g1 L gc1, .slice g2 L gc2, .slice g3 L gc3, .slice g4 L gc4]) := HA22.out.setCells [.int .i64 s1, .int .i64 s2, .int .i64 e1, .int .i64 e2, .slice g1 L gc1, .slice g2 L gc2, .slice g3 L gc3, .slice g4 L gc4] 0 (by simp)
              have HO1z : Hid (Owns 2 (wd22.setCells pb20 0 [.int .i64 s1, .int .i64 s2, .int .i64 e1, .int .i64 e2, .slice g1 L gc1, .slice g2 L gc2, .slice g3 L gc3, .slice g4 L gc4]) wq.heap.size g1 L gc1 z1) := HO22_1.out.grownR (grown_cells (World.grownBy.refl _ _) 0 _) (fun q hq e => HNE1.out q hq (Option.some.inj e).symm)
              have HO2z : Hid (Owns 2 (wd22.setCells pb20 0 [.int .i64 s1, .int .i64 s2, .int .i64 e1, .int .i64 e2, .slice g1 L gc1, .slice g2 L gc2, .slice g3 L gc3, .slice g4 L gc4]) wq.heap.size g2 L gc2 z2) := HO22_2.out.grownR (grown_cells (World.grownBy.refl _ _) 0 _) (fun q hq e => HNE2.out q hq (Option.some.inj e).symm)
              have HO3z : Hid (Owns 2 (wd22.setCells pb20 0 [.int .i64 s1, .int .i64 s2, .int .i64 e1, .int .i64 e2, .slice g1 L gc1, .slice g2 L gc2, .slice g3 L gc3, .slice g4 L gc4]) wq.heap.size g3 L gc3 z3) := HO22_3.out.grownR (grown_cells (World.grownBy.refl _ _) 0 _) (fun q hq e => HNE3.out q hq (Option.some.inj e).symm)
              have HO4z : Hid (Owns 2 (wd22.setCells pb20 0 [.int .i64 s1, .int .i64 s2, .int .i64 e1, .int .i64 e2, .slice g1 L gc1, .slice g2 L gc2, .slice g3 L gc3, .slice g4 L gc4]) wq.heap.size g4 L gc4 z4) := HO22_4.out.grownR (grown_cells (World.grownBy.refl _ _) 0 _) (fun q hq e => HNE4.out q hq (Option.some.inj e).symm)
              refine hK.out _ _ hSz (fun hSzz => ?_)
              clear hK Kk hSzz
              generalize wd22.setCells pb20 0 [.int .i64 s1, .int .i64 s2, .int .i64 e1, .int .i64 e2, .slice g1 L gc1, .slice g2 L gc2, .slice g3 L gc3, .slice g4 L gc4] = wz at hSz HPz HO1z HO2z HO3z HO4z ⊢
              try simp only [Act.put]
              refine wpAnyH_take (i := 11) (v := .bool o) rfl (by kernel_rfl) (by kernel_rfl) (by kernel_rfl) (fun _ _ _ h => h) (Or.inl ⟨by kernel_rfl, ?_⟩) (by assumption) ?_
              · intro wq hSq; go_simp
              try simp only [Act.put]
              refine wpAnyH_done (by kernel_rfl) ?_ _
              refine NoPanic.normal ?_
              go_simp
              have HSz : Hid (wq.grownBy wz none) := hSz
              clear hSz
              generalize pb20 = pb at HNE1 HNE2 HNE3 HNE4 HPB HPz ⊢
              have J1 : Hid (∀ q, g1 = some q → q.block ≠ pb) := HNE1.out
              have J2 : Hid (∀ q, g2 = some q → q.block ≠ pb) := HNE2.out
              have J3 : Hid (∀ q, g3 = some q → q.block ≠ pb) := HNE3.out
              have J4 : Hid (∀ q, g4 = some q → q.block ≠ pb) := HNE4.out
              have J5 : Hid (far g1 g2 ∧ far g1 g3 ∧ far g1 g4 ∧ far g2 g3 ∧ far g2 g4 ∧ far g3 g4) := HFA.out
              have J6 : Hid (wq.heap.size ≤ pb) := HPB.out
              have J7 : Hid (wq.grownBy wz none) := HSz.out
              have J8 : Hid (Owns 2 wz wq.heap.size g1 L gc1 z1) := HO1z.out
              have J9 : Hid (Owns 2 wz wq.heap.size g2 L gc2 z2) := HO2z.out
              have J10 : Hid (Owns 2 wz wq.heap.size g3 L gc3 z3) := HO3z.out
              have J11 : Hid (Owns 2 wz wq.heap.size g4 L gc4 z4) := HO4z.out
              have J12 : Hid (Lies wz pb [.int .i64 s1, .int .i64 s2, .int .i64 e1, .int .i64 e2, .slice g1 L gc1, .slice g2 L gc2, .slice g3 L gc3, .slice g4 L gc4]) := HPz.out
              clear HNE1 HNE2 HNE3 HNE4 HFA HPB HSz HO1z HO2z HO3z HO4z HPz
              clear HO22_1 HO22_2 HO22_3 HO22_4
              revert J12 J11 J10 J9 J8 J7 J6 J5 J4 J3 J2 J1
              revert wz
              revert pb
              revert gc4
              revert g4
              revert gc3
              revert g3
              revert gc2
              revert g2
              revert gc1
              revert g1
              exact key
      · rw [if_pos (by kernel_rfl)]
        refine wp_alloc_as 31 rfl #[.int .i64 0, .int .i64 0, .int .i64 0, .int .i64 0, .slice none 0 0, .slice none 0 0, .slice none 0 0, .slice none 0 0] (by kernel_rfl) ?_
        have hS23 : wq.grownBy (wd0.alloc (.cells #[.int .i64 0, .int .i64 0, .int .i64 0, .int .i64 0, .slice none 0 0, .slice none 0 0, .slice none 0 0, .slice none 0 0] 31)) none := grown_alloc hHeld _
        have HA23 : Hid (Lies (wd0.alloc (.cells #[.int .i64 0, .int .i64 0, .int .i64 0, .int .i64 0, .slice none 0 0, .slice none 0 0, .slice none 0 0, .slice none 0 0] 31)) wd0.heap.size [.int .i64 0, .int .i64 0, .int .i64 0, .int .i64 0, .slice none 0 0, .slice none 0 0, .slice none 0 0, .slice none 0 0]) := lies_new _ _ _
        have HPB : Hid (wq.heap.size ≤ wd0.heap.size) := hHeld.size
        refine hK.out _ _ hS23 (fun _ => ?_)
        clear hK Kk
        generalize wd0.alloc (.cells #[.int .i64 0, .int .i64 0, .int .i64 0, .int .i64 0, .slice none 0 0, .slice none 0 0, .slice none 0 0, .slice none 0 0] 31) = wd23 at hS23 HA23 ⊢
        generalize wd0.heap.size = pb23 at HA23 HPB  ⊢
        try simp only [Act.put]
        refine wpAnyH_ready (rs := [1]) (by kernel_rfl) (by simp) ?_
        refine AllReadyH.cons rfl (fun Kk hK => ?_) (AllReadyH.nil)
        · go_simp
          refine (HC1.out _).mono ?_
          rintro e wd24 ⟨rfl, hb24⟩
          go_simp
          have hS24 : wq.grownBy wd24 none := grown_step hS23 hb24
          have HA24 : Hid (Lies wd24 pb23 [.int .i64 0, .int .i64 0, .int .i64 0, .int .i64 0, .slice none 0 0, .slice none 0 0, .slice none 0 0, .slice none 0 0]) := HA23.out.belowS hb24
          refine hK.out _ _ hS24 (fun _ => ?_)
          clear hK Kk hb24
          try simp only [Act.put]
          refine wpAnyH_ready (rs := [3]) (by kernel_rfl) (by simp) ?_
          refine AllReadyH.cons rfl (fun Kk hK => ?_) (AllReadyH.nil)
          · go_simp
            refine (HC3.out _).mono ?_
            rintro e wd25 ⟨rfl, hb25⟩
            go_simp
            have hS25 : wq.grownBy wd25 none := grown_step hS24 hb25
            have HA25 : Hid (Lies wd25 pb23 [.int .i64 0, .int .i64 0, .int .i64 0, .int .i64 0, .slice none 0 0, .slice none 0 0, .slice none 0 0, .slice none 0 0]) := HA24.out.belowS hb25
            refine hK.out _ _ hS25 (fun _ => ?_)
            clear hK Kk hb25
            try simp only [Act.put]
            refine wpAnyH_ready (rs := [5]) (by kernel_rfl) (by simp) ?_
            refine AllReadyH.cons rfl (fun Kk hK => ?_) (AllReadyH.nil)
            · go_simp
              refine (CI.out _).mono ?_
              rintro e wd26 ⟨g1, gc1, g2, gc2, g3, gc3, g4, gc4, rfl, ⟨ho1, ho2, ho3, ho4⟩, hfar, hb26⟩
              go_simp
              have hS26 : wq.grownBy wd26 none := grown_step hS25 hb26
              have HFA : Hid (far g1 g2 ∧ far g1 g3 ∧ far g1 g4 ∧ far g2 g3 ∧ far g2 g4 ∧ far g3 g4) := hfar
              have HO26_1 : Hid (Owns 2 wd26 wq.heap.size g1 L gc1 z1) := ho1.mono hS25.size
              have HO26_2 : Hid (Owns 2 wd26 wq.heap.size g2 L gc2 z2) := ho2.mono hS25.size
              have HO26_3 : Hid (Owns 2 wd26 wq.heap.size g3 L gc3 z3) := ho3.mono hS25.size
              have HO26_4 : Hid (Owns 2 wd26 wq.heap.size g4 L gc4 z4) := ho4.mono hS25.size
              have HA26 : Hid (Lies wd26 pb23 [.int .i64 0, .int .i64 0, .int .i64 0, .int .i64 0, .slice none 0 0, .slice none 0 0, .slice none 0 0, .slice none 0 0]) := HA25.out.belowS hb26
              have HNE1 : Hid (∀ q, g1 = some q → q.block ≠ pb23) := fun q hq => Nat.ne_of_gt (Nat.lt_of_lt_of_le HA25.out.2.2 (ho1.lo q hq))
              have HNE2 : Hid (∀ q, g2 = some q → q.block ≠ pb23) := fun q hq => Nat.ne_of_gt (Nat.lt_of_lt_of_le HA25.out.2.2 (ho2.lo q hq))
              have HNE3 : Hid (∀ q, g3 = some q → q.block ≠ pb23) := fun q hq => Nat.ne_of_gt (Nat.lt_of_lt_of_le HA25.out.2.2 (ho3.lo q hq))
              have HNE4 : Hid (∀ q, g4 = some q → q.block ≠ pb23) := fun q hq => Nat.ne_of_gt (Nat.lt_of_lt_of_le HA25.out.2.2 (ho4.lo q hq))
              refine hK.out _ _ hS26 (fun _ => ?_)
              clear hK Kk hb26 ho1 ho2 ho3 ho4 hfar
              try simp only [Act.put]
              refine wpAnyH_take (i := 6) (v := .tuple #[.agg #[.int .i64 s1, .int .i64 s2, .int .i64 e1, .int .i64 e2, .slice g1 L gc1, .slice g2 L gc2, .slice g3 L gc3, .slice g4 L gc4], .bool o]) rfl (by kernel_rfl) (by kernel_rfl) (by kernel_rfl) (fun _ _ _ h => h) (Or.inl ⟨by kernel_rfl, ?_⟩) (by assumption) ?_
              · intro wq hSq; go_simp
              try simp only [Act.put]
              refine wpAnyH_take (i := 7) (v := .agg #[.int .i64 s1, .int .i64 s2, .int .i64 e1, .int .i64 e2, .slice g1 L gc1, .slice g2 L gc2, .slice g3 L gc3, .slice g4 L gc4]) rfl (by kernel_rfl) (by kernel_rfl) (by kernel_rfl) (fun _ _ _ h => h) (Or.inl ⟨by kernel_rfl, ?_⟩) (by assumption) ?_
              · intro wq hSq; go_simp
              try simp only [Act.put]
              refine wpAnyH_take (i := 8) (v := .bool o) rfl (by kernel_rfl) (by kernel_rfl) (by kernel_rfl) (fun _ _ _ h => h) (Or.inl ⟨by kernel_rfl, ?_⟩) (by assumption) ?_
              · intro wq hSq; go_simp
              try simp only [Act.put]
              refine wpAnyH_ready (rs := [10]) (by kernel_rfl) (by simp) ?_
              refine AllReadyH.cons rfl (fun Kk hK => ?_) AllReadyH.nil
              rw [if_pos (by kernel_rfl)]
              with_reducible refine wp_store_mid 31 (.tmp 9) (.tmp 31) ?_ pb23 0 ([.int .i64 s1, .int .i64 s2, .int .i64 e1, .int .i64 e2, .slice g1 L gc1, .slice g2 L gc2, .slice g3 L gc3, .slice g4 L gc4]).toArray ?_ ?_ ?_ (by kernel_rfl) (by kernel_rfl) ?_
              · exact rfl
              · exact rfl
              · exact rfl
              · exact HA26.out.there 0 8 (by simp)
              have hSz : wq.grownBy (wd26.setCells pb23 0 [.int .i64 s1, .int .i64 s2, .int .i64 e1, .int .i64 e2, .slice g1 L gc1, .slice g2 L gc2, .slice g3 L gc3, .slice g4 L gc4]) none := grown_far hS26 HPB.out 0 _
              have HPz : Hid (Lies (wd26.setCells pb23 0 [.int .i64 s1, .int .i64 s2, .int .i64 e1, .int .i64 e2, .slice g1 L gc1, .slice g2 L gc2, .slice g3 L gc3, .slice g4 L gc4]) pb23 [.int .i64 s1, .int .i64 s2, .int .i64 e1, .int .i64 e2, .slice g1 L gc1, .slice g2 L gc2, .slice g3 L gc3, .slice g4 L gc4]) := HA26.out.setCells [.int .i64 s1, .int .i64 s2, .int .i64 e1, .int .i64 e2, .slice g1 L gc1, .slice g2 L gc2, .slice g3 L gc3, .slice g4 L gc4] 0 (by simp)
              have HO1z : Hid (Owns 2 (wd26.setCells pb23 0 [.int .i64 s1, .int .i64 s2, .int .i64 e1, .int .i64 e2, .slice g1 L gc1, .slice g2 L gc2, .slice g3 L gc3, .slice g4 L gc4]) wq.heap.size g1 L gc1 z1) := HO26_1.out.grownR (grown_cells (World.grownBy.refl _ _) 0 _) (fun q hq e => HNE1.out q hq (Option.some.inj e).symm)
              have HO2z : Hid (Owns 2 (wd26.setCells pb23 0 [.int .i64 s1, .int .i64 s2, .int .i64 e1, .int .i64 e2, .slice g1 L gc1, .slice g2 L gc2, .slice g3 L gc3, .slice g4 L gc4]) wq.heap.size g2 L gc2 z2) := HO26_2.out.grownR (grown_cells (World.grownBy.refl _ _) 0 _) (fun q hq e => HNE2.out q hq (Option.some.inj e).symm)
              have HO3z : Hid (Owns 2 (wd26.setCells pb23 0 [.int .i64 s1, .int .i64 s2, .int .i64 e1, .int .i64 e2, .slice g1 L gc1, .slice g2 L gc2, .slice g3 L gc3, .slice g4 L gc4]) wq.heap.size g3 L gc3 z3) := HO26_3.out.grownR (grown_cells (World.grownBy.refl _ _) 0 _) (fun q hq e => HNE3.out q hq (Option.some.inj e).symm)
              have HO4z : Hid (Owns 2 (wd26.setCells pb23 0 [.int .i64 s1, .int .i64 s2, .int .i64 e1, .int .i64 e2, .slice g1 L gc1, .slice g2 L gc2, .slice g3 L gc3, .slice g4 L gc4]) wq.heap.size g4 L gc4 z4) := HO26_4.out.grownR (grown_cells (World.grownBy.refl _ _) 0 _) (fun q hq e => HNE4.out q hq (Option.some.inj e).symm)
              refine hK.out _ _ hSz (fun hSzz => ?_)
              clear hK Kk hSzz
              generalize wd26.setCells pb23 0 [.int .i64 s1, .int .i64 s2, .int .i64 e1, .int .i64 e2, .slice g1 L gc1, .slice g2 L gc2, .slice g3 L gc3, .slice g4 L gc4] = wz at hSz HPz HO1z HO2z HO3z HO4z ⊢
              try simp only [Act.put]
              refine wpAnyH_take (i := 11) (v := .bool o) rfl (by kernel_rfl) (by kernel_rfl) (by kernel_rfl) (fun _ _ _ h => h) (Or.inl ⟨by kernel_rfl, ?_⟩) (by assumption) ?_
              · intro wq hSq; go_simp
              try simp only [Act.put]
              refine wpAnyH_done (by kernel_rfl) ?_ _
              refine NoPanic.normal ?_
              go_simp
              have HSz : Hid (wq.grownBy wz none) := hSz
              clear hSz
              generalize pb23 = pb at HNE1 HNE2 HNE3 HNE4 HPB HPz ⊢
              have J1 : Hid (∀ q, g1 = some q → q.block ≠ pb) := HNE1.out
              have J2 : Hid (∀ q, g2 = some q → q.block ≠ pb) := HNE2.out
              have J3 : Hid (∀ q, g3 = some q → q.block ≠ pb) := HNE3.out
              have J4 : Hid (∀ q, g4 = some q → q.block ≠ pb) := HNE4.out
              have J5 : Hid (far g1 g2 ∧ far g1 g3 ∧ far g1 g4 ∧ far g2 g3 ∧ far g2 g4 ∧ far g3 g4) := HFA.out
              have J6 : Hid (wq.heap.size ≤ pb) := HPB.out
              have J7 : Hid (wq.grownBy wz none) := HSz.out
              have J8 : Hid (Owns 2 wz wq.heap.size g1 L gc1 z1) := HO1z.out
              have J9 : Hid (Owns 2 wz wq.heap.size g2 L gc2 z2) := HO2z.out
              have J10 : Hid (Owns 2 wz wq.heap.size g3 L gc3 z3) := HO3z.out
              have J11 : Hid (Owns 2 wz wq.heap.size g4 L gc4 z4) := HO4z.out
              have J12 : Hid (Lies wz pb [.int .i64 s1, .int .i64 s2, .int .i64 e1, .int .i64 e2, .slice g1 L gc1, .slice g2 L gc2, .slice g3 L gc3, .slice g4 L gc4]) := HPz.out
              clear HNE1 HNE2 HNE3 HNE4 HFA HPB HSz HO1z HO2z HO3z HO4z HPz
              clear HO26_1 HO26_2 HO26_3 HO26_4
              revert J12 J11 J10 J9 J8 J7 J6 J5 J4 J3 J2 J1
              revert wz
              revert pb
              revert gc4
              revert g4
              revert gc3
              revert g3
              revert gc2
              revert g2
              revert gc1
              revert g1
              exact key
    case h =>
      intro g1 gc1 g2 gc2 g3 gc3 g4 gc4 pbg wz HNE1 HNE2 HNE3 HNE4 HFA HPB HSz HO1 HO2 HO3 HO4 HPz
      have HX : Hid (Below wq.heap.size wq wz) := ⟨HSz.out.os, HSz.out.tape, HSz.out.output, HSz.out.size, fun k hk => HSz.out.block k hk (by simp)⟩
      have HGP : Hid (Lies wz pbg [.int .i64 s1, .int .i64 s2, .int .i64 e1, .int .i64 e2, .slice g1 L gc1, .slice g2 L gc2, .slice g3 L gc3, .slice g4 L gc4]) := HPz.out
      have HG1 : Hid (Owns 2 wz wq.heap.size g1 L gc1 z1) := HO1.out
      have HG2 : Hid (Owns 2 wz wq.heap.size g2 L gc2 z2) := HO2.out
      have HG3 : Hid (Owns 2 wz wq.heap.size g3 L gc3 z3) := HO3.out
      have HG4 : Hid (Owns 2 wz wq.heap.size g4 L gc4 z4) := HO4.out
      have HGN1 : Hid (∀ q, g1 = some q → q.block ≠ pbg) := HNE1.out
      have HGN2 : Hid (∀ q, g2 = some q → q.block ≠ pbg) := HNE2.out
      have HGN3 : Hid (∀ q, g3 = some q → q.block ≠ pbg) := HNE3.out
      have HGN4 : Hid (∀ q, g4 = some q → q.block ≠ pbg) := HNE4.out
      have HGF : Hid _ := HFA.out
      clear HNE1 HNE2 HNE3 HNE4 HFA HPB HSz HO1 HO2 HO3 HO4 HPz
      have p0 : wz.cell? ⟨pbg, 0, none⟩ = some (.int .i64 s1) := HGP.out.at 0
      have p1 : wz.cell? ⟨pbg, 1, none⟩ = some (.int .i64 s2) := HGP.out.at 1
      have p2 : wz.cell? ⟨pbg, 2, none⟩ = some (.int .i64 e1) := HGP.out.at 2
      have p3 : wz.cell? ⟨pbg, 3, none⟩ = some (.int .i64 e2) := HGP.out.at 3
      have p4 : wz.cell? ⟨pbg, 4, none⟩ = some (.slice g1 L gc1) := HGP.out.at 4
      have p5 : wz.cell? ⟨pbg, 5, none⟩ = some (.slice g2 L gc2) := HGP.out.at 5
      have p6 : wz.cell? ⟨pbg, 6, none⟩ = some (.slice g3 L gc3) := HGP.out.at 6
      have p7 : wz.cell? ⟨pbg, 7, none⟩ = some (.slice g4 L gc4) := HGP.out.at 7
      have HUPz : Hid (Lies wz pbu [.int .i64 s1, .int .i64 s2, .int .i64 e1, .int .i64 e2, .slice u1 L uc1, .slice u2 L uc2, .slice u3 L uc3, .slice u4 L uc4]) := HUP.out.belowS HX.out
      have q0 : wz.cell? ⟨pbu, 0, none⟩ = some (.int .i64 s1) := HUPz.out.at 0
      have q1 : wz.cell? ⟨pbu, 1, none⟩ = some (.int .i64 s2) := HUPz.out.at 1
      have q2 : wz.cell? ⟨pbu, 2, none⟩ = some (.int .i64 e1) := HUPz.out.at 2
      have q3 : wz.cell? ⟨pbu, 3, none⟩ = some (.int .i64 e2) := HUPz.out.at 3
      have q4 : wz.cell? ⟨pbu, 4, none⟩ = some (.slice u1 L uc1) := HUPz.out.at 4
      have q5 : wz.cell? ⟨pbu, 5, none⟩ = some (.slice u2 L uc2) := HUPz.out.at 5
      have q6 : wz.cell? ⟨pbu, 6, none⟩ = some (.slice u3 L uc3) := HUPz.out.at 6
      have q7 : wz.cell? ⟨pbu, 7, none⟩ = some (.slice u4 L uc4) := HUPz.out.at 7
      go_wp2_with fail
      refine (eqProof_same s1 s2 e1 e2 _ HG1.out.sees HG2.out.sees HG3.out.sees HG4.out.sees (HU1.out.below HX.out) (HU2.out.below HX.out) (HU3.out.below HX.out) (HU4.out.below HX.out)).mono ?_
      rintro e w4 ⟨rfl, hb4⟩
      have HX4 : Hid (Below wq.heap.size wq w4) := HX.out.trans (hb4.mono HX.out.size)
      have HGP4 : Hid (Lies w4 pbg [.int .i64 s1, .int .i64 s2, .int .i64 e1, .int .i64 e2, .slice g1 L gc1, .slice g2 L gc2, .slice g3 L gc3, .slice g4 L gc4]) := HGP.out.belowS hb4
      have HG14 : Hid (Owns 2 w4 wq.heap.size g1 L gc1 z1) := HG1.out.below hb4
      have HG24 : Hid (Owns 2 w4 wq.heap.size g2 L gc2 z2) := HG2.out.below hb4
      have HG34 : Hid (Owns 2 w4 wq.heap.size g3 L gc3 z3) := HG3.out.below hb4
      have HG44 : Hid (Owns 2 w4 wq.heap.size g4 L gc4 z4) := HG4.out.below hb4
      clear hb4 HX HGP HG1 HG2 HG3 HG4 HUPz p0 q0 p1 q1 p2 q2 p3 q3 p4 q4 p5 q5 p6 q6 p7 q7
      have p0 : w4.cell? ⟨pbg, 0, none⟩ = some (.int .i64 s1) := HGP4.out.at 0
      have p1 : w4.cell? ⟨pbg, 1, none⟩ = some (.int .i64 s2) := HGP4.out.at 1
      have p2 : w4.cell? ⟨pbg, 2, none⟩ = some (.int .i64 e1) := HGP4.out.at 2
      have p3 : w4.cell? ⟨pbg, 3, none⟩ = some (.int .i64 e2) := HGP4.out.at 3
      have p4 : w4.cell? ⟨pbg, 4, none⟩ = some (.slice g1 L gc1) := HGP4.out.at 4
      have p5 : w4.cell? ⟨pbg, 5, none⟩ = some (.slice g2 L gc2) := HGP4.out.at 5
      have p6 : w4.cell? ⟨pbg, 6, none⟩ = some (.slice g3 L gc3) := HGP4.out.at 6
      have p7 : w4.cell? ⟨pbg, 7, none⟩ = some (.slice g4 L gc4) := HGP4.out.at 7
      go_wp2_with fail
      refine (markProof_any s1 s2 e1 e2 _ HX4.out.size HG14.out HG24.out HG34.out HG44.out HGF.out.1 HGF.out.2.1 HGF.out.2.2.1 HGF.out.2.2.2.1 HGF.out.2.2.2.2.1 HGF.out.2.2.2.2.2 (by omega) (by omega) (by omega) (by omega)).mono ?_
      rintro e w5 ⟨rfl, ⟨m1, m2, m3, m4⟩, hkp, hb5⟩
      have HX5 : Hid (Below wq.heap.size wq w5) := HX4.out.trans hb5
      have HGP5 : Hid (Lies w5 pbg [.int .i64 s1, .int .i64 s2, .int .i64 e1, .int .i64 e2, .slice g1 L gc1, .slice g2 L gc2, .slice g3 L gc3, .slice g4 L gc4]) := hkp _ _ HGP4.out HGN1.out HGN2.out HGN3.out HGN4.out
      have HK1 : Hid (Sees w5 g1 L gc1 (M.marks 1 L)) := m1.sees
      have HK2 : Hid (Sees w5 g2 L gc2 (M.marks (1 + (L : Int)) L)) := m2.sees
      have HK3 : Hid (Sees w5 g3 L gc3 (M.marks (1 + (L : Int) + (L : Int)) L)) := m3.sees
      have HK4 : Hid (Sees w5 g4 L gc4 (M.marks (1 + (L : Int) + (L : Int) + (L : Int)) L)) := m4.sees
      clear hb5 hkp m1 m2 m3 m4 HX4 HGP4 HG14 HG24 HG34 HG44 HGF p0 p1 p2 p3 p4 p5 p6 p7
      have p0 : w5.cell? ⟨pbg, 0, none⟩ = some (.int .i64 s1) := HGP5.out.at 0
      have p1 : w5.cell? ⟨pbg, 1, none⟩ = some (.int .i64 s2) := HGP5.out.at 1
      have p2 : w5.cell? ⟨pbg, 2, none⟩ = some (.int .i64 e1) := HGP5.out.at 2
      have p3 : w5.cell? ⟨pbg, 3, none⟩ = some (.int .i64 e2) := HGP5.out.at 3
      have p4 : w5.cell? ⟨pbg, 4, none⟩ = some (.slice g1 L gc1) := HGP5.out.at 4
      have p5 : w5.cell? ⟨pbg, 5, none⟩ = some (.slice g2 L gc2) := HGP5.out.at 5
      have p6 : w5.cell? ⟨pbg, 6, none⟩ = some (.slice g3 L gc3) := HGP5.out.at 6
      have p7 : w5.cell? ⟨pbg, 7, none⟩ = some (.slice g4 L gc4) := HGP5.out.at 7
      go_wp2_with fail
      refine (heldProof_any s1 s2 e1 e2 _ HK1.out HK2.out HK3.out HK4.out (by omega) (by omega) (by omega) (by omega)).mono ?_
      rintro e w6 ⟨rfl, hb6⟩
      have HX6 : Hid (Below wq.heap.size wq w6) := HX5.out.trans (hb6.mono HX5.out.size)
      have HGP6 : Hid (Lies w6 pbg [.int .i64 s1, .int .i64 s2, .int .i64 e1, .int .i64 e2, .slice g1 L gc1, .slice g2 L gc2, .slice g3 L gc3, .slice g4 L gc4]) := HGP5.out.belowS hb6
      have HN1 : Hid (Sees w6 g1 L gc1 (M.marks 1 L)) := HK1.out.below hb6
      have HN2 : Hid (Sees w6 g2 L gc2 (M.marks (1 + (L : Int)) L)) := HK2.out.below hb6
      have HN3 : Hid (Sees w6 g3 L gc3 (M.marks (1 + (L : Int) + (L : Int)) L)) := HK3.out.below hb6
      have HN4 : Hid (Sees w6 g4 L gc4 (M.marks (1 + (L : Int) + (L : Int) + (L : Int)) L)) := HK4.out.below hb6
      clear hb6 HX5 HGP5 HK1 HK2 HK3 HK4 p0 p1 p2 p3 p4 p5 p6 p7
      have hz : ¬ (1 + (L : Int) + (L : Int) + (L : Int) + (L : Int)) < 0 := by omega
      have hne : ((1 + (L : Int) + (L : Int) + (L : Int) + (L : Int)) != (1 + (L : Int) + (L : Int) + (L : Int) + (L : Int))) = false := by simp
      go_wp2
      have HMa6 : Hid (Lies w6 w.heap.size [.int .i64 a, .int .i64 b, .int .i64 c, .int .i64 d, .int .i64 f, .int .i64 k, .int .i64 a', .int .i64 b', .int .i64 c', .int .i64 d', .int .i64 f', .int .i64 k']) := HMa.out.belowS HX6.out
      have HSt6 : Hid (Lies w6 (w.heap.size + 1) [.int .i64 x, .int .i64 y]) := HSt.out.belowS HX6.out
      have HB6 : Hid (Below w.heap.size w w6) := HBq.out.trans (HX6.out.mono HBq.out.size)
      have HUP6 : Hid (Lies w6 pbu [.int .i64 s1, .int .i64 s2, .int .i64 e1, .int .i64 e2, .slice u1 L uc1, .slice u2 L uc2, .slice u3 L uc3, .slice u4 L uc4]) := HUP.out.belowS HX6.out
      have HU16 : Hid (Sees w6 u1 L uc1 z1) := HU1.out.below HX6.out
      have HU26 : Hid (Sees w6 u2 L uc2 z2) := HU2.out.below HX6.out
      have HU36 : Hid (Sees w6 u3 L uc3 z3) := HU3.out.below HX6.out
      have HU46 : Hid (Sees w6 u4 L uc4 z4) := HU4.out.below HX6.out
      clear HMa HSt HBq HUP HU1 HU2 HU3 HU4 HX6
      generalize w6 = wq at HMa6 HSt6 HB6 HUP6 HU16 HU26 HU36 HU46 HGP6 HN1 HN2 HN3 HN4 ⊢
      have HMa : Hid (Lies wq w.heap.size [.int .i64 a, .int .i64 b, .int .i64 c, .int .i64 d, .int .i64 f, .int .i64 k, .int .i64 a', .int .i64 b', .int .i64 c', .int .i64 d', .int .i64 f', .int .i64 k']) := HMa6.out
      have HSt : Hid (Lies wq (w.heap.size + 1) [.int .i64 x, .int .i64 y]) := HSt6.out
      have HBq : Hid (Below w.heap.size w wq) := HB6.out
      clear HMa6 HSt6 HB6
      apply cutKey
      case f =>
        intro key
        refine wp_region_noPanic ?_
        refine wp_region_held_drew (S := fun W => wq.grownBy W none) (by kernel_rfl) (grown_drew _ _) (fun hHeld => ?_)
        generalize wq.drew = wd0 at hHeld ⊢
        refine wpAnyH_take (i := 0) (v := .agg ([.int .i64 a, .int .i64 b, .int .i64 c, .int .i64 d, .int .i64 f, .int .i64 k, .int .i64 a', .int .i64 b', .int .i64 c', .int .i64 d', .int .i64 f', .int .i64 k']).toArray) rfl (by kernel_rfl) (by kernel_rfl) (by kernel_rfl) (fun _ _ _ h => h) (yieldsIf_load_mid (by kernel_rfl) 25 (.tmp 3) rfl w.heap.size 0 rfl ([.int .i64 a, .int .i64 b, .int .i64 c, .int .i64 d, .int .i64 f, .int .i64 k, .int .i64 a', .int .i64 b', .int .i64 c', .int .i64 d', .int .i64 f', .int .i64 k']) _ (fun W h => (HMa.out.grown h (by simp)).row) Try.underlying25 rfl (by kernel_rfl)) (by assumption) ?_
        try simp only [Act.put]
        refine wpAnyH_take (i := 2) (v := .agg #[.int .i64 x, .int .i64 y]) rfl (by kernel_rfl) (by kernel_rfl) (by kernel_rfl) (fun _ _ _ h => h) (Or.inl ⟨by kernel_rfl, ?_⟩) (by assumption) ?_
        · intro wp hSp; have c0 : wp.cell? ⟨(w.heap.size + 1), 0, none⟩ = some (.int .i64 x) := (HSt.out.grown hSp (by simp)).at 0; have c1 : wp.cell? ⟨(w.heap.size + 1), 1, none⟩ = some (.int .i64 y) := (HSt.out.grown hSp (by simp)).at 1; go_simp
        try simp only [Act.put]
        refine wpAnyH_take (i := 4) (v := .int .i64 a2) rfl (by kernel_rfl) (by kernel_rfl) (by kernel_rfl) (fun _ _ _ h => h) (Or.inl ⟨by kernel_rfl, ?_⟩) (by assumption) ?_
        · intro wq hSq; go_simp
        try simp only [Act.put]
        refine wpAnyH_ready (rs := [1, 9]) (by kernel_rfl) (by simp) ?_
        refine AllReadyH.cons rfl (fun Kk hK => ?_) (AllReadyH.cons rfl (fun Kk hK => ?_) (AllReadyH.nil))
        · go_simp
          refine (HC1.out _).mono ?_
          rintro e wd27 ⟨rfl, hb27⟩
          go_simp
          have hS27 : wq.grownBy wd27 none := grown_step hHeld hb27
          refine hK.out _ _ hS27 (fun _ => ?_)
          clear hK Kk hb27
          try simp only [Act.put]
          refine wpAnyH_ready (rs := [3, 9]) (by kernel_rfl) (by simp) ?_
          refine AllReadyH.cons rfl (fun Kk hK => ?_) (AllReadyH.cons rfl (fun Kk hK => ?_) (AllReadyH.nil))
          · go_simp
            refine (HC3.out _).mono ?_
            rintro e wd28 ⟨rfl, hb28⟩
            go_simp
            have hS28 : wq.grownBy wd28 none := grown_step hS27 hb28
            refine hK.out _ _ hS28 (fun _ => ?_)
            clear hK Kk hb28
            try simp only [Act.put]
            refine wpAnyH_ready (rs := [5, 9]) (by kernel_rfl) (by simp) ?_
            refine AllReadyH.cons rfl (fun Kk hK => ?_) (AllReadyH.cons rfl (fun Kk hK => ?_) (AllReadyH.nil))
            · go_simp
              refine (CI.out _).mono ?_
              rintro e wd29 ⟨h1, hc1, h2, hc2, h3, hc3, h4, hc4, rfl, ⟨ho1, ho2, ho3, ho4⟩, hfar, hb29⟩
              go_simp
              have hS29 : wq.grownBy wd29 none := grown_step hS28 hb29
              have HFA : Hid (far h1 h2 ∧ far h1 h3 ∧ far h1 h4 ∧ far h2 h3 ∧ far h2 h4 ∧ far h3 h4) := hfar
              have HO29_1 : Hid (Owns 2 wd29 wq.heap.size h1 L hc1 z1) := ho1.mono hS28.size
              have HO29_2 : Hid (Owns 2 wd29 wq.heap.size h2 L hc2 z2) := ho2.mono hS28.size
              have HO29_3 : Hid (Owns 2 wd29 wq.heap.size h3 L hc3 z3) := ho3.mono hS28.size
              have HO29_4 : Hid (Owns 2 wd29 wq.heap.size h4 L hc4 z4) := ho4.mono hS28.size
              have HHI1 : Hid (∀ q, h1 = some q → q.block < wd29.heap.size) := ho1.hi
              have HHI2 : Hid (∀ q, h2 = some q → q.block < wd29.heap.size) := ho2.hi
              have HHI3 : Hid (∀ q, h3 = some q → q.block < wd29.heap.size) := ho3.hi
              have HHI4 : Hid (∀ q, h4 = some q → q.block < wd29.heap.size) := ho4.hi
              refine hK.out _ _ hS29 (fun _ => ?_)
              clear hK Kk hb29 ho1 ho2 ho3 ho4 hfar
              try simp only [Act.put]
              refine wpAnyH_take (i := 6) (v := .tuple #[.agg #[.int .i64 s1, .int .i64 s2, .int .i64 e1, .int .i64 e2, .slice h1 L hc1, .slice h2 L hc2, .slice h3 L hc3, .slice h4 L hc4], .bool o]) rfl (by kernel_rfl) (by kernel_rfl) (by kernel_rfl) (fun _ _ _ h => h) (Or.inl ⟨by kernel_rfl, ?_⟩) (by assumption) ?_
              · intro wq hSq; go_simp
              try simp only [Act.put]
              refine wpAnyH_take (i := 7) (v := .agg #[.int .i64 s1, .int .i64 s2, .int .i64 e1, .int .i64 e2, .slice h1 L hc1, .slice h2 L hc2, .slice h3 L hc3, .slice h4 L hc4]) rfl (by kernel_rfl) (by kernel_rfl) (by kernel_rfl) (fun _ _ _ h => h) (Or.inl ⟨by kernel_rfl, ?_⟩) (by assumption) ?_
              · intro wq hSq; go_simp
              try simp only [Act.put]
              refine wpAnyH_take (i := 8) (v := .bool o) rfl (by kernel_rfl) (by kernel_rfl) (by kernel_rfl) (fun _ _ _ h => h) (Or.inl ⟨by kernel_rfl, ?_⟩) (by assumption) ?_
              · intro wq hSq; go_simp
              try simp only [Act.put]
              refine wpAnyH_ready (rs := [9]) (by kernel_rfl) (by simp) ?_
              refine AllReadyH.cons rfl (fun Kk hK => ?_) (AllReadyH.nil)
              · rw [if_pos (by kernel_rfl)]
                refine wp_alloc_as 31 rfl #[.int .i64 0, .int .i64 0, .int .i64 0, .int .i64 0, .slice none 0 0, .slice none 0 0, .slice none 0 0, .slice none 0 0] (by kernel_rfl) ?_
                have hS30 : wq.grownBy (wd29.alloc (.cells #[.int .i64 0, .int .i64 0, .int .i64 0, .int .i64 0, .slice none 0 0, .slice none 0 0, .slice none 0 0, .slice none 0 0] 31)) none := grown_alloc hS29 _
                have HA30 : Hid (Lies (wd29.alloc (.cells #[.int .i64 0, .int .i64 0, .int .i64 0, .int .i64 0, .slice none 0 0, .slice none 0 0, .slice none 0 0, .slice none 0 0] 31)) wd29.heap.size [.int .i64 0, .int .i64 0, .int .i64 0, .int .i64 0, .slice none 0 0, .slice none 0 0, .slice none 0 0, .slice none 0 0]) := lies_new _ _ _
                have HPB : Hid (wq.heap.size ≤ wd29.heap.size) := hS29.size
                have HP30_1 : Hid (Owns 2 (wd29.alloc (.cells #[.int .i64 0, .int .i64 0, .int .i64 0, .int .i64 0, .slice none 0 0, .slice none 0 0, .slice none 0 0, .slice none 0 0] 31)) wq.heap.size h1 L hc1 z1) := HO29_1.out.below ((Below.refl _ _).alloc (Nat.le_refl _) _)
                have HP30_2 : Hid (Owns 2 (wd29.alloc (.cells #[.int .i64 0, .int .i64 0, .int .i64 0, .int .i64 0, .slice none 0 0, .slice none 0 0, .slice none 0 0, .slice none 0 0] 31)) wq.heap.size h2 L hc2 z2) := HO29_2.out.below ((Below.refl _ _).alloc (Nat.le_refl _) _)
                have HP30_3 : Hid (Owns 2 (wd29.alloc (.cells #[.int .i64 0, .int .i64 0, .int .i64 0, .int .i64 0, .slice none 0 0, .slice none 0 0, .slice none 0 0, .slice none 0 0] 31)) wq.heap.size h3 L hc3 z3) := HO29_3.out.below ((Below.refl _ _).alloc (Nat.le_refl _) _)
                have HP30_4 : Hid (Owns 2 (wd29.alloc (.cells #[.int .i64 0, .int .i64 0, .int .i64 0, .int .i64 0, .slice none 0 0, .slice none 0 0, .slice none 0 0, .slice none 0 0] 31)) wq.heap.size h4 L hc4 z4) := HO29_4.out.below ((Below.refl _ _).alloc (Nat.le_refl _) _)
                have HNE1 : Hid (∀ q, h1 = some q → q.block ≠ wd29.heap.size) := fun q hq => Nat.ne_of_lt (HHI1.out q hq)
                have HNE2 : Hid (∀ q, h2 = some q → q.block ≠ wd29.heap.size) := fun q hq => Nat.ne_of_lt (HHI2.out q hq)
                have HNE3 : Hid (∀ q, h3 = some q → q.block ≠ wd29.heap.size) := fun q hq => Nat.ne_of_lt (HHI3.out q hq)
                have HNE4 : Hid (∀ q, h4 = some q → q.block ≠ wd29.heap.size) := fun q hq => Nat.ne_of_lt (HHI4.out q hq)
                refine hK.out _ _ hS30 (fun _ => ?_)
                clear hK Kk HHI1 HHI2 HHI3 HHI4
                generalize wd29.alloc (.cells #[.int .i64 0, .int .i64 0, .int .i64 0, .int .i64 0, .slice none 0 0, .slice none 0 0, .slice none 0 0, .slice none 0 0] 31) = wd30 at hS30 HA30 HP30_1 HP30_2 HP30_3 HP30_4 ⊢
                generalize wd29.heap.size = pb30 at HA30 HPB HNE1 HNE2 HNE3 HNE4 ⊢
                try simp only [Act.put]
                refine wpAnyH_ready (rs := [10]) (by kernel_rfl) (by simp) ?_
                refine AllReadyH.cons rfl (fun Kk hK => ?_) AllReadyH.nil
                rw [if_pos (by kernel_rfl)]
                with_reducible refine wp_store_mid 31 (.tmp 13) (.tmp 60) ?_ pb30 0 ([.int .i64 s1, .int .i64 s2, .int .i64 e1, .int .i64 e2, .slice h1 L hc1, .slice h2 L hc2, .slice h3 L hc3, .slice h4 L hc4]).toArray ?_ ?_ ?_ (by kernel_rfl) (by kernel_rfl) ?_
                · exact rfl
                · exact rfl
                · exact rfl
                · exact HA30.out.there 0 8 (by simp)
                have hSz : wq.grownBy (wd30.setCells pb30 0 [.int .i64 s1, .int .i64 s2, .int .i64 e1, .int .i64 e2, .slice h1 L hc1, .slice h2 L hc2, .slice h3 L hc3, .slice h4 L hc4]) none := grown_far hS30 HPB.out 0 _
                have HPz : Hid (Lies (wd30.setCells pb30 0 [.int .i64 s1, .int .i64 s2, .int .i64 e1, .int .i64 e2, .slice h1 L hc1, .slice h2 L hc2, .slice h3 L hc3, .slice h4 L hc4]) pb30 [.int .i64 s1, .int .i64 s2, .int .i64 e1, .int .i64 e2, .slice h1 L hc1, .slice h2 L hc2, .slice h3 L hc3, .slice h4 L hc4]) := HA30.out.setCells [.int .i64 s1, .int .i64 s2, .int .i64 e1, .int .i64 e2, .slice h1 L hc1, .slice h2 L hc2, .slice h3 L hc3, .slice h4 L hc4] 0 (by simp)
                have HO1z : Hid (Owns 2 (wd30.setCells pb30 0 [.int .i64 s1, .int .i64 s2, .int .i64 e1, .int .i64 e2, .slice h1 L hc1, .slice h2 L hc2, .slice h3 L hc3, .slice h4 L hc4]) wq.heap.size h1 L hc1 z1) := HP30_1.out.grownR (grown_cells (World.grownBy.refl _ _) 0 _) (fun q hq e => HNE1.out q hq (Option.some.inj e).symm)
                have HO2z : Hid (Owns 2 (wd30.setCells pb30 0 [.int .i64 s1, .int .i64 s2, .int .i64 e1, .int .i64 e2, .slice h1 L hc1, .slice h2 L hc2, .slice h3 L hc3, .slice h4 L hc4]) wq.heap.size h2 L hc2 z2) := HP30_2.out.grownR (grown_cells (World.grownBy.refl _ _) 0 _) (fun q hq e => HNE2.out q hq (Option.some.inj e).symm)
                have HO3z : Hid (Owns 2 (wd30.setCells pb30 0 [.int .i64 s1, .int .i64 s2, .int .i64 e1, .int .i64 e2, .slice h1 L hc1, .slice h2 L hc2, .slice h3 L hc3, .slice h4 L hc4]) wq.heap.size h3 L hc3 z3) := HP30_3.out.grownR (grown_cells (World.grownBy.refl _ _) 0 _) (fun q hq e => HNE3.out q hq (Option.some.inj e).symm)
                have HO4z : Hid (Owns 2 (wd30.setCells pb30 0 [.int .i64 s1, .int .i64 s2, .int .i64 e1, .int .i64 e2, .slice h1 L hc1, .slice h2 L hc2, .slice h3 L hc3, .slice h4 L hc4]) wq.heap.size h4 L hc4 z4) := HP30_4.out.grownR (grown_cells (World.grownBy.refl _ _) 0 _) (fun q hq e => HNE4.out q hq (Option.some.inj e).symm)
                refine hK.out _ _ hSz (fun hSzz => ?_)
                clear hK Kk hSzz
                generalize wd30.setCells pb30 0 [.int .i64 s1, .int .i64 s2, .int .i64 e1, .int .i64 e2, .slice h1 L hc1, .slice h2 L hc2, .slice h3 L hc3, .slice h4 L hc4] = wz at hSz HPz HO1z HO2z HO3z HO4z ⊢
                try simp only [Act.put]
                refine wpAnyH_take (i := 11) (v := .bool o) rfl (by kernel_rfl) (by kernel_rfl) (by kernel_rfl) (fun _ _ _ h => h) (Or.inl ⟨by kernel_rfl, ?_⟩) (by assumption) ?_
                · intro wq hSq; go_simp
                try simp only [Act.put]
                refine wpAnyH_done (by kernel_rfl) ?_ _
                refine NoPanic.normal ?_
                go_simp
                have HSz : Hid (wq.grownBy wz none) := hSz
                clear hSz
                generalize pb30 = pb at HNE1 HNE2 HNE3 HNE4 HPB HPz ⊢
                have J1 : Hid (∀ q, h1 = some q → q.block ≠ pb) := HNE1.out
                have J2 : Hid (∀ q, h2 = some q → q.block ≠ pb) := HNE2.out
                have J3 : Hid (∀ q, h3 = some q → q.block ≠ pb) := HNE3.out
                have J4 : Hid (∀ q, h4 = some q → q.block ≠ pb) := HNE4.out
                have J5 : Hid (far h1 h2 ∧ far h1 h3 ∧ far h1 h4 ∧ far h2 h3 ∧ far h2 h4 ∧ far h3 h4) := HFA.out
                have J6 : Hid (wq.heap.size ≤ pb) := HPB.out
                have J7 : Hid (wq.grownBy wz none) := HSz.out
                have J8 : Hid (Owns 2 wz wq.heap.size h1 L hc1 z1) := HO1z.out
                have J9 : Hid (Owns 2 wz wq.heap.size h2 L hc2 z2) := HO2z.out
                have J10 : Hid (Owns 2 wz wq.heap.size h3 L hc3 z3) := HO3z.out
                have J11 : Hid (Owns 2 wz wq.heap.size h4 L hc4 z4) := HO4z.out
                have J12 : Hid (Lies wz pb [.int .i64 s1, .int .i64 s2, .int .i64 e1, .int .i64 e2, .slice h1 L hc1, .slice h2 L hc2, .slice h3 L hc3, .slice h4 L hc4]) := HPz.out
                clear HNE1 HNE2 HNE3 HNE4 HFA HPB HSz HO1z HO2z HO3z HO4z HPz
                clear HO29_1 HO29_2 HO29_3 HO29_4 HP30_1 HP30_2 HP30_3 HP30_4
                revert J12 J11 J10 J9 J8 J7 J6 J5 J4 J3 J2 J1
                revert wz
                revert pb
                revert hc4
                revert h4
                revert hc3
                revert h3
                revert hc2
                revert h2
                revert hc1
                revert h1
                exact key
            · rw [if_pos (by kernel_rfl)]
              refine wp_alloc_as 31 rfl #[.int .i64 0, .int .i64 0, .int .i64 0, .int .i64 0, .slice none 0 0, .slice none 0 0, .slice none 0 0, .slice none 0 0] (by kernel_rfl) ?_
              have hS31 : wq.grownBy (wd28.alloc (.cells #[.int .i64 0, .int .i64 0, .int .i64 0, .int .i64 0, .slice none 0 0, .slice none 0 0, .slice none 0 0, .slice none 0 0] 31)) none := grown_alloc hS28 _
              have HA31 : Hid (Lies (wd28.alloc (.cells #[.int .i64 0, .int .i64 0, .int .i64 0, .int .i64 0, .slice none 0 0, .slice none 0 0, .slice none 0 0, .slice none 0 0] 31)) wd28.heap.size [.int .i64 0, .int .i64 0, .int .i64 0, .int .i64 0, .slice none 0 0, .slice none 0 0, .slice none 0 0, .slice none 0 0]) := lies_new _ _ _
              have HPB : Hid (wq.heap.size ≤ wd28.heap.size) := hS28.size
              refine hK.out _ _ hS31 (fun _ => ?_)
              clear hK Kk
              generalize wd28.alloc (.cells #[.int .i64 0, .int .i64 0, .int .i64 0, .int .i64 0, .slice none 0 0, .slice none 0 0, .slice none 0 0, .slice none 0 0] 31) = wd31 at hS31 HA31 ⊢
              generalize wd28.heap.size = pb31 at HA31 HPB  ⊢
              try simp only [Act.put]
              refine wpAnyH_ready (rs := [5]) (by kernel_rfl) (by simp) ?_
              refine AllReadyH.cons rfl (fun Kk hK => ?_) (AllReadyH.nil)
              · go_simp
                refine (CI.out _).mono ?_
                rintro e wd32 ⟨h1, hc1, h2, hc2, h3, hc3, h4, hc4, rfl, ⟨ho1, ho2, ho3, ho4⟩, hfar, hb32⟩
                go_simp
                have hS32 : wq.grownBy wd32 none := grown_step hS31 hb32
                have HFA : Hid (far h1 h2 ∧ far h1 h3 ∧ far h1 h4 ∧ far h2 h3 ∧ far h2 h4 ∧ far h3 h4) := hfar
                have HO32_1 : Hid (Owns 2 wd32 wq.heap.size h1 L hc1 z1) := ho1.mono hS31.size
                have HO32_2 : Hid (Owns 2 wd32 wq.heap.size h2 L hc2 z2) := ho2.mono hS31.size
                have HO32_3 : Hid (Owns 2 wd32 wq.heap.size h3 L hc3 z3) := ho3.mono hS31.size
                have HO32_4 : Hid (Owns 2 wd32 wq.heap.size h4 L hc4 z4) := ho4.mono hS31.size
                have HA32 : Hid (Lies wd32 pb31 [.int .i64 0, .int .i64 0, .int .i64 0, .int .i64 0, .slice none 0 0, .slice none 0 0, .slice none 0 0, .slice none 0 0]) := HA31.out.belowS hb32
                have HNE1 : Hid (∀ q, h1 = some q → q.block ≠ pb31) := fun q hq => Nat.ne_of_gt (Nat.lt_of_lt_of_le HA31.out.2.2 (ho1.lo q hq))
                have HNE2 : Hid (∀ q, h2 = some q → q.block ≠ pb31) := fun q hq => Nat.ne_of_gt (Nat.lt_of_lt_of_le HA31.out.2.2 (ho2.lo q hq))
                have HNE3 : Hid (∀ q, h3 = some q → q.block ≠ pb31) := fun q hq => Nat.ne_of_gt (Nat.lt_of_lt_of_le HA31.out.2.2 (ho3.lo q hq))
                have HNE4 : Hid (∀ q, h4 = some q → q.block ≠ pb31) := fun q hq => Nat.ne_of_gt (Nat.lt_of_lt_of_le HA31.out.2.2 (ho4.lo q hq))
                refine hK.out _ _ hS32 (fun _ => ?_)
                clear hK Kk hb32 ho1 ho2 ho3 ho4 hfar
                try simp only [Act.put]
                refine wpAnyH_take (i := 6) (v := .tuple #[.agg #[.int .i64 s1, .int .i64 s2, .int .i64 e1, .int .i64 e2, .slice h1 L hc1, .slice h2 L hc2, .slice h3 L hc3, .slice h4 L hc4], .bool o]) rfl (by kernel_rfl) (by kernel_rfl) (by kernel_rfl) (fun _ _ _ h => h) (Or.inl ⟨by kernel_rfl, ?_⟩) (by assumption) ?_
                · intro wq hSq; go_simp
                try simp only [Act.put]
                refine wpAnyH_take (i := 7) (v := .agg #[.int .i64 s1, .int .i64 s2, .int .i64 e1, .int .i64 e2, .slice h1 L hc1, .slice h2 L hc2, .slice h3 L hc3, .slice h4 L hc4]) rfl (by kernel_rfl) (by kernel_rfl) (by kernel_rfl) (fun _ _ _ h => h) (Or.inl ⟨by kernel_rfl, ?_⟩) (by assumption) ?_
                · intro wq hSq; go_simp
                try simp only [Act.put]
                refine wpAnyH_take (i := 8) (v := .bool o) rfl (by kernel_rfl) (by kernel_rfl) (by kernel_rfl) (fun _ _ _ h => h) (Or.inl ⟨by kernel_rfl, ?_⟩) (by assumption) ?_
                · intro wq hSq; go_simp
                try simp only [Act.put]
                refine wpAnyH_ready (rs := [10]) (by kernel_rfl) (by simp) ?_
                refine AllReadyH.cons rfl (fun Kk hK => ?_) AllReadyH.nil
                rw [if_pos (by kernel_rfl)]
                with_reducible refine wp_store_mid 31 (.tmp 13) (.tmp 60) ?_ pb31 0 ([.int .i64 s1, .int .i64 s2, .int .i64 e1, .int .i64 e2, .slice h1 L hc1, .slice h2 L hc2, .slice h3 L hc3, .slice h4 L hc4]).toArray ?_ ?_ ?_ (by kernel_rfl) (by kernel_rfl) ?_
                · exact rfl
                · exact rfl
                · exact rfl
                · exact HA32.out.there 0 8 (by simp)
                have hSz : wq.grownBy (wd32.setCells pb31 0 [.int .i64 s1, .int .i64 s2, .int .i64 e1, .int .i64 e2, .slice h1 L hc1, .slice h2 L hc2, .slice h3 L hc3, .slice h4 L hc4]) none := grown_far hS32 HPB.out 0 _
                have HPz : Hid (Lies (wd32.setCells pb31 0 [.int .i64 s1, .int .i64 s2, .int .i64 e1, .int .i64 e2, .slice h1 L hc1, .slice h2 L hc2, .slice h3 L hc3, .slice h4 L hc4]) pb31 [.int .i64 s1, .int .i64 s2, .int .i64 e1, .int .i64 e2, .slice h1 L hc1, .slice h2 L hc2, .slice h3 L hc3, .slice h4 L hc4]) := HA32.out.setCells [.int .i64 s1, .int .i64 s2, .int .i64 e1, .int .i64 e2, .slice h1 L hc1, .slice h2 L hc2, .slice h3 L hc3, .slice h4 L hc4] 0 (by simp)
                have HO1z : Hid (Owns 2 (wd32.setCells pb31 0 [.int .i64 s1, .int .i64 s2, .int .i64 e1, .int .i64 e2, .slice h1 L hc1, .slice h2 L hc2, .slice h3 L hc3, .slice h4 L hc4]) wq.heap.size h1 L hc1 z1) := HO32_1.out.grownR (grown_cells (World.grownBy.refl _ _) 0 _) (fun q hq e => HNE1.out q hq (Option.some.inj e).symm)
                have HO2z : Hid (Owns 2 (wd32.setCells pb31 0 [.int .i64 s1, .int .i64 s2, .int .i64 e1, .int .i64 e2, .slice h1 L hc1, .slice h2 L hc2, .slice h3 L hc3, .slice h4 L hc4]) wq.heap.size h2 L hc2 z2) := HO32_2.out.grownR (grown_cells (World.grownBy.refl _ _) 0 _) (fun q hq e => HNE2.out q hq (Option.some.inj e).symm)
                have HO3z : Hid (Owns 2 (wd32.setCells pb31 0 [.int .i64 s1, .int .i64 s2, .int .i64 e1, .int .i64 e2, .slice h1 L hc1, .slice h2 L hc2, .slice h3 L hc3, .slice h4 L hc4]) wq.heap.size h3 L hc3 z3) := HO32_3.out.grownR (grown_cells (World.grownBy.refl _ _) 0 _) (fun q hq e => HNE3.out q hq (Option.some.inj e).symm)
                have HO4z : Hid (Owns 2 (wd32.setCells pb31 0 [.int .i64 s1, .int .i64 s2, .int .i64 e1, .int .i64 e2, .slice h1 L hc1, .slice h2 L hc2, .slice h3 L hc3, .slice h4 L hc4]) wq.heap.size h4 L hc4 z4) := HO32_4.out.grownR (grown_cells (World.grownBy.refl _ _) 0 _) (fun q hq e => HNE4.out q hq (Option.some.inj e).symm)
                refine hK.out _ _ hSz (fun hSzz => ?_)
                clear hK Kk hSzz
                generalize wd32.setCells pb31 0 [.int .i64 s1, .int .i64 s2, .int .i64 e1, .int .i64 e2, .slice h1 L hc1, .slice h2 L hc2, .slice h3 L hc3, .slice h4 L hc4] = wz at hSz HPz HO1z HO2z HO3z HO4z ⊢
                try simp only [Act.put]
                refine wpAnyH_take (i := 11) (v := .bool o) rfl (by kernel_rfl) (by kernel_rfl) (by kernel_rfl) (fun _ _ _ h => h) (Or.inl ⟨by kernel_rfl, ?_⟩) (by assumption) ?_
                · intro wq hSq; go_simp
                try simp only [Act.put]
                refine wpAnyH_done (by kernel_rfl) ?_ _
                refine NoPanic.normal ?_
                go_simp
                have HSz : Hid (wq.grownBy wz none) := hSz
                clear hSz
                generalize pb31 = pb at HNE1 HNE2 HNE3 HNE4 HPB HPz ⊢
                have J1 : Hid (∀ q, h1 = some q → q.block ≠ pb) := HNE1.out
                have J2 : Hid (∀ q, h2 = some q → q.block ≠ pb) := HNE2.out
                have J3 : Hid (∀ q, h3 = some q → q.block ≠ pb) := HNE3.out
                have J4 : Hid (∀ q, h4 = some q → q.block ≠ pb) := HNE4.out
                have J5 : Hid (far h1 h2 ∧ far h1 h3 ∧ far h1 h4 ∧ far h2 h3 ∧ far h2 h4 ∧ far h3 h4) := HFA.out
                have J6 : Hid (wq.heap.size ≤ pb) := HPB.out
                have J7 : Hid (wq.grownBy wz none) := HSz.out
                have J8 : Hid (Owns 2 wz wq.heap.size h1 L hc1 z1) := HO1z.out
                have J9 : Hid (Owns 2 wz wq.heap.size h2 L hc2 z2) := HO2z.out
                have J10 : Hid (Owns 2 wz wq.heap.size h3 L hc3 z3) := HO3z.out
                have J11 : Hid (Owns 2 wz wq.heap.size h4 L hc4 z4) := HO4z.out
                have J12 : Hid (Lies wz pb [.int .i64 s1, .int .i64 s2, .int .i64 e1, .int .i64 e2, .slice h1 L hc1, .slice h2 L hc2, .slice h3 L hc3, .slice h4 L hc4]) := HPz.out
                clear HNE1 HNE2 HNE3 HNE4 HFA HPB HSz HO1z HO2z HO3z HO4z HPz
                clear HO32_1 HO32_2 HO32_3 HO32_4
                revert J12 J11 J10 J9 J8 J7 J6 J5 J4 J3 J2 J1
                revert wz
                revert pb
                revert hc4
                revert h4
                revert hc3
                revert h3
                revert hc2
                revert h2
                revert hc1
                revert h1
                exact key
          · rw [if_pos (by kernel_rfl)]
            refine wp_alloc_as 31 rfl #[.int .i64 0, .int .i64 0, .int .i64 0, .int .i64 0, .slice none 0 0, .slice none 0 0, .slice none 0 0, .slice none 0 0] (by kernel_rfl) ?_
            have hS33 : wq.grownBy (wd27.alloc (.cells #[.int .i64 0, .int .i64 0, .int .i64 0, .int .i64 0, .slice none 0 0, .slice none 0 0, .slice none 0 0, .slice none 0 0] 31)) none := grown_alloc hS27 _
            have HA33 : Hid (Lies (wd27.alloc (.cells #[.int .i64 0, .int .i64 0, .int .i64 0, .int .i64 0, .slice none 0 0, .slice none 0 0, .slice none 0 0, .slice none 0 0] 31)) wd27.heap.size [.int .i64 0, .int .i64 0, .int .i64 0, .int .i64 0, .slice none 0 0, .slice none 0 0, .slice none 0 0, .slice none 0 0]) := lies_new _ _ _
            have HPB : Hid (wq.heap.size ≤ wd27.heap.size) := hS27.size
            refine hK.out _ _ hS33 (fun _ => ?_)
            clear hK Kk
            generalize wd27.alloc (.cells #[.int .i64 0, .int .i64 0, .int .i64 0, .int .i64 0, .slice none 0 0, .slice none 0 0, .slice none 0 0, .slice none 0 0] 31) = wd33 at hS33 HA33 ⊢
            generalize wd27.heap.size = pb33 at HA33 HPB  ⊢
            try simp only [Act.put]
            refine wpAnyH_ready (rs := [3]) (by kernel_rfl) (by simp) ?_
            refine AllReadyH.cons rfl (fun Kk hK => ?_) (AllReadyH.nil)
            · go_simp
              refine (HC3.out _).mono ?_
              rintro e wd34 ⟨rfl, hb34⟩
              go_simp
              have hS34 : wq.grownBy wd34 none := grown_step hS33 hb34
              have HA34 : Hid (Lies wd34 pb33 [.int .i64 0, .int .i64 0, .int .i64 0, .int .i64 0, .slice none 0 0, .slice none 0 0, .slice none 0 0, .slice none 0 0]) := HA33.out.belowS hb34
              refine hK.out _ _ hS34 (fun _ => ?_)
              clear hK Kk hb34
              try simp only [Act.put]
              refine wpAnyH_ready (rs := [5]) (by kernel_rfl) (by simp) ?_
              refine AllReadyH.cons rfl (fun Kk hK => ?_) (AllReadyH.nil)
              · go_simp
                refine (CI.out _).mono ?_
                rintro e wd35 ⟨h1, hc1, h2, hc2, h3, hc3, h4, hc4, rfl, ⟨ho1, ho2, ho3, ho4⟩, hfar, hb35⟩
                go_simp
                have hS35 : wq.grownBy wd35 none := grown_step hS34 hb35
                have HFA : Hid (far h1 h2 ∧ far h1 h3 ∧ far h1 h4 ∧ far h2 h3 ∧ far h2 h4 ∧ far h3 h4) := hfar
                have HO35_1 : Hid (Owns 2 wd35 wq.heap.size h1 L hc1 z1) := ho1.mono hS34.size
                have HO35_2 : Hid (Owns 2 wd35 wq.heap.size h2 L hc2 z2) := ho2.mono hS34.size
                have HO35_3 : Hid (Owns 2 wd35 wq.heap.size h3 L hc3 z3) := ho3.mono hS34.size
                have HO35_4 : Hid (Owns 2 wd35 wq.heap.size h4 L hc4 z4) := ho4.mono hS34.size
                have HA35 : Hid (Lies wd35 pb33 [.int .i64 0, .int .i64 0, .int .i64 0, .int .i64 0, .slice none 0 0, .slice none 0 0, .slice none 0 0, .slice none 0 0]) := HA34.out.belowS hb35
                have HNE1 : Hid (∀ q, h1 = some q → q.block ≠ pb33) := fun q hq => Nat.ne_of_gt (Nat.lt_of_lt_of_le HA34.out.2.2 (ho1.lo q hq))
                have HNE2 : Hid (∀ q, h2 = some q → q.block ≠ pb33) := fun q hq => Nat.ne_of_gt (Nat.lt_of_lt_of_le HA34.out.2.2 (ho2.lo q hq))
                have HNE3 : Hid (∀ q, h3 = some q → q.block ≠ pb33) := fun q hq => Nat.ne_of_gt (Nat.lt_of_lt_of_le HA34.out.2.2 (ho3.lo q hq))
                have HNE4 : Hid (∀ q, h4 = some q → q.block ≠ pb33) := fun q hq => Nat.ne_of_gt (Nat.lt_of_lt_of_le HA34.out.2.2 (ho4.lo q hq))
                refine hK.out _ _ hS35 (fun _ => ?_)
                clear hK Kk hb35 ho1 ho2 ho3 ho4 hfar
                try simp only [Act.put]
                refine wpAnyH_take (i := 6) (v := .tuple #[.agg #[.int .i64 s1, .int .i64 s2, .int .i64 e1, .int .i64 e2, .slice h1 L hc1, .slice h2 L hc2, .slice h3 L hc3, .slice h4 L hc4], .bool o]) rfl (by kernel_rfl) (by kernel_rfl) (by kernel_rfl) (fun _ _ _ h => h) (Or.inl ⟨by kernel_rfl, ?_⟩) (by assumption) ?_
                · intro wq hSq; go_simp
                try simp only [Act.put]
                refine wpAnyH_take (i := 7) (v := .agg #[.int .i64 s1, .int .i64 s2, .int .i64 e1, .int .i64 e2, .slice h1 L hc1, .slice h2 L hc2, .slice h3 L hc3, .slice h4 L hc4]) rfl (by kernel_rfl) (by kernel_rfl) (by kernel_rfl) (fun _ _ _ h => h) (Or.inl ⟨by kernel_rfl, ?_⟩) (by assumption) ?_
                · intro wq hSq; go_simp
                try simp only [Act.put]
                refine wpAnyH_take (i := 8) (v := .bool o) rfl (by kernel_rfl) (by kernel_rfl) (by kernel_rfl) (fun _ _ _ h => h) (Or.inl ⟨by kernel_rfl, ?_⟩) (by assumption) ?_
                · intro wq hSq; go_simp
                try simp only [Act.put]
                refine wpAnyH_ready (rs := [10]) (by kernel_rfl) (by simp) ?_
                refine AllReadyH.cons rfl (fun Kk hK => ?_) AllReadyH.nil
                rw [if_pos (by kernel_rfl)]
                with_reducible refine wp_store_mid 31 (.tmp 13) (.tmp 60) ?_ pb33 0 ([.int .i64 s1, .int .i64 s2, .int .i64 e1, .int .i64 e2, .slice h1 L hc1, .slice h2 L hc2, .slice h3 L hc3, .slice h4 L hc4]).toArray ?_ ?_ ?_ (by kernel_rfl) (by kernel_rfl) ?_
                · exact rfl
                · exact rfl
                · exact rfl
                · exact HA35.out.there 0 8 (by simp)
                have hSz : wq.grownBy (wd35.setCells pb33 0 [.int .i64 s1, .int .i64 s2, .int .i64 e1, .int .i64 e2, .slice h1 L hc1, .slice h2 L hc2, .slice h3 L hc3, .slice h4 L hc4]) none := grown_far hS35 HPB.out 0 _
                have HPz : Hid (Lies (wd35.setCells pb33 0 [.int .i64 s1, .int .i64 s2, .int .i64 e1, .int .i64 e2, .slice h1 L hc1, .slice h2 L hc2, .slice h3 L hc3, .slice h4 L hc4]) pb33 [.int .i64 s1, .int .i64 s2, .int .i64 e1, .int .i64 e2, .slice h1 L hc1, .slice h2 L hc2, .slice h3 L hc3, .slice h4 L hc4]) := HA35.out.setCells [.int .i64 s1, .int .i64 s2, .int .i64 e1, .int .i64 e2, .slice h1 L hc1, .slice h2 L hc2, .slice h3 L hc3, .slice h4 L hc4] 0 (by simp)
                have HO1z : Hid (Owns 2 (wd35.setCells pb33 0 [.int .i64 s1, .int .i64 s2, .int .i64 e1, .int .i64 e2, .slice h1 L hc1, .slice h2 L hc2, .slice h3 L hc3, .slice h4 L hc4]) wq.heap.size h1 L hc1 z1) := HO35_1.out.grownR (grown_cells (World.grownBy.refl _ _) 0 _) (fun q hq e => HNE1.out q hq (Option.some.inj e).symm)
                have HO2z : Hid (Owns 2 (wd35.setCells pb33 0 [.int .i64 s1, .int .i64 s2, .int .i64 e1, .int .i64 e2, .slice h1 L hc1, .slice h2 L hc2, .slice h3 L hc3, .slice h4 L hc4]) wq.heap.size h2 L hc2 z2) := HO35_2.out.grownR (grown_cells (World.grownBy.refl _ _) 0 _) (fun q hq e => HNE2.out q hq (Option.some.inj e).symm)
                have HO3z : Hid (Owns 2 (wd35.setCells pb33 0 [.int .i64 s1, .int .i64 s2, .int .i64 e1, .int .i64 e2, .slice h1 L hc1, .slice h2 L hc2, .slice h3 L hc3, .slice h4 L hc4]) wq.heap.size h3 L hc3 z3) := HO35_3.out.grownR (grown_cells (World.grownBy.refl _ _) 0 _) (fun q hq e => HNE3.out q hq (Option.some.inj e).symm)
                have HO4z : Hid (Owns 2 (wd35.setCells pb33 0 [.int .i64 s1, .int .i64 s2, .int .i64 e1, .int .i64 e2, .slice h1 L hc1, .slice h2 L hc2, .slice h3 L hc3, .slice h4 L hc4]) wq.heap.size h4 L hc4 z4) := HO35_4.out.grownR (grown_cells (World.grownBy.refl _ _) 0 _) (fun q hq e => HNE4.out q hq (Option.some.inj e).symm)
                refine hK.out _ _ hSz (fun hSzz => ?_)
                clear hK Kk hSzz
                generalize wd35.setCells pb33 0 [.int .i64 s1, .int .i64 s2, .int .i64 e1, .int .i64 e2, .slice h1 L hc1, .slice h2 L hc2, .slice h3 L hc3, .slice h4 L hc4] = wz at hSz HPz HO1z HO2z HO3z HO4z ⊢
                try simp only [Act.put]
                refine wpAnyH_take (i := 11) (v := .bool o) rfl (by kernel_rfl) (by kernel_rfl) (by kernel_rfl) (fun _ _ _ h => h) (Or.inl ⟨by kernel_rfl, ?_⟩) (by assumption) ?_
                · intro wq hSq; go_simp
                try simp only [Act.put]
                refine wpAnyH_done (by kernel_rfl) ?_ _
                refine NoPanic.normal ?_
                go_simp
                have HSz : Hid (wq.grownBy wz none) := hSz
                clear hSz
                generalize pb33 = pb at HNE1 HNE2 HNE3 HNE4 HPB HPz ⊢
                have J1 : Hid (∀ q, h1 = some q → q.block ≠ pb) := HNE1.out
                have J2 : Hid (∀ q, h2 = some q → q.block ≠ pb) := HNE2.out
                have J3 : Hid (∀ q, h3 = some q → q.block ≠ pb) := HNE3.out
                have J4 : Hid (∀ q, h4 = some q → q.block ≠ pb) := HNE4.out
                have J5 : Hid (far h1 h2 ∧ far h1 h3 ∧ far h1 h4 ∧ far h2 h3 ∧ far h2 h4 ∧ far h3 h4) := HFA.out
                have J6 : Hid (wq.heap.size ≤ pb) := HPB.out
                have J7 : Hid (wq.grownBy wz none) := HSz.out
                have J8 : Hid (Owns 2 wz wq.heap.size h1 L hc1 z1) := HO1z.out
                have J9 : Hid (Owns 2 wz wq.heap.size h2 L hc2 z2) := HO2z.out
                have J10 : Hid (Owns 2 wz wq.heap.size h3 L hc3 z3) := HO3z.out
                have J11 : Hid (Owns 2 wz wq.heap.size h4 L hc4 z4) := HO4z.out
                have J12 : Hid (Lies wz pb [.int .i64 s1, .int .i64 s2, .int .i64 e1, .int .i64 e2, .slice h1 L hc1, .slice h2 L hc2, .slice h3 L hc3, .slice h4 L hc4]) := HPz.out
                clear HNE1 HNE2 HNE3 HNE4 HFA HPB HSz HO1z HO2z HO3z HO4z HPz
                clear HO35_1 HO35_2 HO35_3 HO35_4
                revert J12 J11 J10 J9 J8 J7 J6 J5 J4 J3 J2 J1
                revert wz
                revert pb
                revert hc4
                revert h4
                revert hc3
                revert h3
                revert hc2
                revert h2
                revert hc1
                revert h1
                exact key
        · rw [if_pos (by kernel_rfl)]
          refine wp_alloc_as 31 rfl #[.int .i64 0, .int .i64 0, .int .i64 0, .int .i64 0, .slice none 0 0, .slice none 0 0, .slice none 0 0, .slice none 0 0] (by kernel_rfl) ?_
          have hS36 : wq.grownBy (wd0.alloc (.cells #[.int .i64 0, .int .i64 0, .int .i64 0, .int .i64 0, .slice none 0 0, .slice none 0 0, .slice none 0 0, .slice none 0 0] 31)) none := grown_alloc hHeld _
          have HA36 : Hid (Lies (wd0.alloc (.cells #[.int .i64 0, .int .i64 0, .int .i64 0, .int .i64 0, .slice none 0 0, .slice none 0 0, .slice none 0 0, .slice none 0 0] 31)) wd0.heap.size [.int .i64 0, .int .i64 0, .int .i64 0, .int .i64 0, .slice none 0 0, .slice none 0 0, .slice none 0 0, .slice none 0 0]) := lies_new _ _ _
          have HPB : Hid (wq.heap.size ≤ wd0.heap.size) := hHeld.size
          refine hK.out _ _ hS36 (fun _ => ?_)
          clear hK Kk
          generalize wd0.alloc (.cells #[.int .i64 0, .int .i64 0, .int .i64 0, .int .i64 0, .slice none 0 0, .slice none 0 0, .slice none 0 0, .slice none 0 0] 31) = wd36 at hS36 HA36 ⊢
          generalize wd0.heap.size = pb36 at HA36 HPB  ⊢
          try simp only [Act.put]
          refine wpAnyH_ready (rs := [1]) (by kernel_rfl) (by simp) ?_
          refine AllReadyH.cons rfl (fun Kk hK => ?_) (AllReadyH.nil)
          · go_simp
            refine (HC1.out _).mono ?_
            rintro e wd37 ⟨rfl, hb37⟩
            go_simp
            have hS37 : wq.grownBy wd37 none := grown_step hS36 hb37
            have HA37 : Hid (Lies wd37 pb36 [.int .i64 0, .int .i64 0, .int .i64 0, .int .i64 0, .slice none 0 0, .slice none 0 0, .slice none 0 0, .slice none 0 0]) := HA36.out.belowS hb37
            refine hK.out _ _ hS37 (fun _ => ?_)
            clear hK Kk hb37
            try simp only [Act.put]
            refine wpAnyH_ready (rs := [3]) (by kernel_rfl) (by simp) ?_
            refine AllReadyH.cons rfl (fun Kk hK => ?_) (AllReadyH.nil)
            · go_simp
              refine (HC3.out _).mono ?_
              rintro e wd38 ⟨rfl, hb38⟩
              go_simp
              have hS38 : wq.grownBy wd38 none := grown_step hS37 hb38
              have HA38 : Hid (Lies wd38 pb36 [.int .i64 0, .int .i64 0, .int .i64 0, .int .i64 0, .slice none 0 0, .slice none 0 0, .slice none 0 0, .slice none 0 0]) := HA37.out.belowS hb38
              refine hK.out _ _ hS38 (fun _ => ?_)
              clear hK Kk hb38
              try simp only [Act.put]
              refine wpAnyH_ready (rs := [5]) (by kernel_rfl) (by simp) ?_
              refine AllReadyH.cons rfl (fun Kk hK => ?_) (AllReadyH.nil)
              · go_simp
                refine (CI.out _).mono ?_
                rintro e wd39 ⟨h1, hc1, h2, hc2, h3, hc3, h4, hc4, rfl, ⟨ho1, ho2, ho3, ho4⟩, hfar, hb39⟩
                go_simp
                have hS39 : wq.grownBy wd39 none := grown_step hS38 hb39
                have HFA : Hid (far h1 h2 ∧ far h1 h3 ∧ far h1 h4 ∧ far h2 h3 ∧ far h2 h4 ∧ far h3 h4) := hfar
                have HO39_1 : Hid (Owns 2 wd39 wq.heap.size h1 L hc1 z1) := ho1.mono hS38.size
                have HO39_2 : Hid (Owns 2 wd39 wq.heap.size h2 L hc2 z2) := ho2.mono hS38.size
                have HO39_3 : Hid (Owns 2 wd39 wq.heap.size h3 L hc3 z3) := ho3.mono hS38.size
                have HO39_4 : Hid (Owns 2 wd39 wq.heap.size h4 L hc4 z4) := ho4.mono hS38.size
                have HA39 : Hid (Lies wd39 pb36 [.int .i64 0, .int .i64 0, .int .i64 0, .int .i64 0, .slice none 0 0, .slice none 0 0, .slice none 0 0, .slice none 0 0]) := HA38.out.belowS hb39
                have HNE1 : Hid (∀ q, h1 = some q → q.block ≠ pb36) := fun q hq => Nat.ne_of_gt (Nat.lt_of_lt_of_le HA38.out.2.2 (ho1.lo q hq))
                have HNE2 : Hid (∀ q, h2 = some q → q.block ≠ pb36) := fun q hq => Nat.ne_of_gt (Nat.lt_of_lt_of_le HA38.out.2.2 (ho2.lo q hq))
                have HNE3 : Hid (∀ q, h3 = some q → q.block ≠ pb36) := fun q hq => Nat.ne_of_gt (Nat.lt_of_lt_of_le HA38.out.2.2 (ho3.lo q hq))
                have HNE4 : Hid (∀ q, h4 = some q → q.block ≠ pb36) := fun q hq => Nat.ne_of_gt (Nat.lt_of_lt_of_le HA38.out.2.2 (ho4.lo q hq))
                refine hK.out _ _ hS39 (fun _ => ?_)
                clear hK Kk hb39 ho1 ho2 ho3 ho4 hfar
                try simp only [Act.put]
                refine wpAnyH_take (i := 6) (v := .tuple #[.agg #[.int .i64 s1, .int .i64 s2, .int .i64 e1, .int .i64 e2, .slice h1 L hc1, .slice h2 L hc2, .slice h3 L hc3, .slice h4 L hc4], .bool o]) rfl (by kernel_rfl) (by kernel_rfl) (by kernel_rfl) (fun _ _ _ h => h) (Or.inl ⟨by kernel_rfl, ?_⟩) (by assumption) ?_
                · intro wq hSq; go_simp
                try simp only [Act.put]
                refine wpAnyH_take (i := 7) (v := .agg #[.int .i64 s1, .int .i64 s2, .int .i64 e1, .int .i64 e2, .slice h1 L hc1, .slice h2 L hc2, .slice h3 L hc3, .slice h4 L hc4]) rfl (by kernel_rfl) (by kernel_rfl) (by kernel_rfl) (fun _ _ _ h => h) (Or.inl ⟨by kernel_rfl, ?_⟩) (by assumption) ?_
                · intro wq hSq; go_simp
                try simp only [Act.put]
                refine wpAnyH_take (i := 8) (v := .bool o) rfl (by kernel_rfl) (by kernel_rfl) (by kernel_rfl) (fun _ _ _ h => h) (Or.inl ⟨by kernel_rfl, ?_⟩) (by assumption) ?_
                · intro wq hSq; go_simp
                try simp only [Act.put]
                refine wpAnyH_ready (rs := [10]) (by kernel_rfl) (by simp) ?_
                refine AllReadyH.cons rfl (fun Kk hK => ?_) AllReadyH.nil
                rw [if_pos (by kernel_rfl)]
                with_reducible refine wp_store_mid 31 (.tmp 13) (.tmp 60) ?_ pb36 0 ([.int .i64 s1, .int .i64 s2, .int .i64 e1, .int .i64 e2, .slice h1 L hc1, .slice h2 L hc2, .slice h3 L hc3, .slice h4 L hc4]).toArray ?_ ?_ ?_ (by kernel_rfl) (by kernel_rfl) ?_
                · exact rfl
                · exact rfl
                · exact rfl
                · exact HA39.out.there 0 8 (by simp)
                have hSz : wq.grownBy (wd39.setCells pb36 0 [.int .i64 s1, .int .i64 s2, .int .i64 e1, .int .i64 e2, .slice h1 L hc1, .slice h2 L hc2, .slice h3 L hc3, .slice h4 L hc4]) none := grown_far hS39 HPB.out 0 _
                have HPz : Hid (Lies (wd39.setCells pb36 0 [.int .i64 s1, .int .i64 s2, .int .i64 e1, .int .i64 e2, .slice h1 L hc1, .slice h2 L hc2, .slice h3 L hc3, .slice h4 L hc4]) pb36 [.int .i64 s1, .int .i64 s2, .int .i64 e1, .int .i64 e2, .slice h1 L hc1, .slice h2 L hc2, .slice h3 L hc3, .slice h4 L hc4]) := HA39.out.setCells [.int .i64 s1, .int .i64 s2, .int .i64 e1, .int .i64 e2, .slice h1 L hc1, .slice h2 L hc2, .slice h3 L hc3, .slice h4 L hc4] 0 (by simp)
                have HO1z : Hid (Owns 2 (wd39.setCells pb36 0 [.int .i64 s1, .int .i64 s2, .int .i64 e1, .int .i64 e2, .slice h1 L hc1, .slice h2 L hc2, .slice h3 L hc3, .slice h4 L hc4]) wq.heap.size h1 L hc1 z1) := HO39_1.out.grownR (grown_cells (World.grownBy.refl _ _) 0 _) (fun q hq e => HNE1.out q hq (Option.some.inj e).symm)
                have HO2z : Hid (Owns 2 (wd39.setCells pb36 0 [.int .i64 s1, .int .i64 s2, .int .i64 e1, .int .i64 e2, .slice h1 L hc1, .slice h2 L hc2, .slice h3 L hc3, .slice h4 L hc4]) wq.heap.size h2 L hc2 z2) := HO39_2.out.grownR (grown_cells (World.grownBy.refl _ _) 0 _) (fun q hq e => HNE2.out q hq (Option.some.inj e).symm)
                have HO3z : Hid (Owns 2 (wd39.setCells pb36 0 [.int .i64 s1, .int .i64 s2, .int .i64 e1, .int .i64 e2, .slice h1 L hc1, .slice h2 L hc2, .slice h3 L hc3, .slice h4 L hc4]) wq.heap.size h3 L hc3 z3) := HO39_3.out.grownR (grown_cells (World.grownBy.refl _ _) 0 _) (fun q hq e => HNE3.out q hq (Option.some.inj e).symm)
                have HO4z : Hid (Owns 2 (wd39.setCells pb36 0 [.int .i64 s1, .int .i64 s2, .int .i64 e1, .int .i64 e2, .slice h1 L hc1, .slice h2 L hc2, .slice h3 L hc3, .slice h4 L hc4]) wq.heap.size h4 L hc4 z4) := HO39_4.out.grownR (grown_cells (World.grownBy.refl _ _) 0 _) (fun q hq e => HNE4.out q hq (Option.some.inj e).symm)
                refine hK.out _ _ hSz (fun hSzz => ?_)
                clear hK Kk hSzz
                generalize wd39.setCells pb36 0 [.int .i64 s1, .int .i64 s2, .int .i64 e1, .int .i64 e2, .slice h1 L hc1, .slice h2 L hc2, .slice h3 L hc3, .slice h4 L hc4] = wz at hSz HPz HO1z HO2z HO3z HO4z ⊢
                try simp only [Act.put]
                refine wpAnyH_take (i := 11) (v := .bool o) rfl (by kernel_rfl) (by kernel_rfl) (by kernel_rfl) (fun _ _ _ h => h) (Or.inl ⟨by kernel_rfl, ?_⟩) (by assumption) ?_
                · intro wq hSq; go_simp
                try simp only [Act.put]
                refine wpAnyH_done (by kernel_rfl) ?_ _
                refine NoPanic.normal ?_
                go_simp
                have HSz : Hid (wq.grownBy wz none) := hSz
                clear hSz
                generalize pb36 = pb at HNE1 HNE2 HNE3 HNE4 HPB HPz ⊢
                have J1 : Hid (∀ q, h1 = some q → q.block ≠ pb) := HNE1.out
                have J2 : Hid (∀ q, h2 = some q → q.block ≠ pb) := HNE2.out
                have J3 : Hid (∀ q, h3 = some q → q.block ≠ pb) := HNE3.out
                have J4 : Hid (∀ q, h4 = some q → q.block ≠ pb) := HNE4.out
                have J5 : Hid (far h1 h2 ∧ far h1 h3 ∧ far h1 h4 ∧ far h2 h3 ∧ far h2 h4 ∧ far h3 h4) := HFA.out
                have J6 : Hid (wq.heap.size ≤ pb) := HPB.out
                have J7 : Hid (wq.grownBy wz none) := HSz.out
                have J8 : Hid (Owns 2 wz wq.heap.size h1 L hc1 z1) := HO1z.out
                have J9 : Hid (Owns 2 wz wq.heap.size h2 L hc2 z2) := HO2z.out
                have J10 : Hid (Owns 2 wz wq.heap.size h3 L hc3 z3) := HO3z.out
                have J11 : Hid (Owns 2 wz wq.heap.size h4 L hc4 z4) := HO4z.out
                have J12 : Hid (Lies wz pb [.int .i64 s1, .int .i64 s2, .int .i64 e1, .int .i64 e2, .slice h1 L hc1, .slice h2 L hc2, .slice h3 L hc3, .slice h4 L hc4]) := HPz.out
                clear HNE1 HNE2 HNE3 HNE4 HFA HPB HSz HO1z HO2z HO3z HO4z HPz
                clear HO39_1 HO39_2 HO39_3 HO39_4
                revert J12 J11 J10 J9 J8 J7 J6 J5 J4 J3 J2 J1
                revert wz
                revert pb
                revert hc4
                revert h4
                revert hc3
                revert h3
                revert hc2
                revert h2
                revert hc1
                revert h1
                exact key
      case h =>
        intro h1 hc1 h2 hc2 h3 hc3 h4 hc4 pbh wz HNE1 HNE2 HNE3 HNE4 HFA HPB HSz HO1 HO2 HO3 HO4 HPz
        have HX : Hid (Below wq.heap.size wq wz) := ⟨HSz.out.os, HSz.out.tape, HSz.out.output, HSz.out.size, fun k hk => HSz.out.block k hk (by simp)⟩
        have HHP : Hid (Lies wz pbh [.int .i64 s1, .int .i64 s2, .int .i64 e1, .int .i64 e2, .slice h1 L hc1, .slice h2 L hc2, .slice h3 L hc3, .slice h4 L hc4]) := HPz.out
        have HH1 : Hid (Sees wz h1 L hc1 z1) := HO1.out.sees
        have HH2 : Hid (Sees wz h2 L hc2 z2) := HO2.out.sees
        have HH3 : Hid (Sees wz h3 L hc3 z3) := HO3.out.sees
        have HH4 : Hid (Sees wz h4 L hc4 z4) := HO4.out.sees
        clear HNE1 HNE2 HNE3 HNE4 HFA HPB HSz HO1 HO2 HO3 HO4 HPz
        have p0 : wz.cell? ⟨pbh, 0, none⟩ = some (.int .i64 s1) := HHP.out.at 0
        have p1 : wz.cell? ⟨pbh, 1, none⟩ = some (.int .i64 s2) := HHP.out.at 1
        have p2 : wz.cell? ⟨pbh, 2, none⟩ = some (.int .i64 e1) := HHP.out.at 2
        have p3 : wz.cell? ⟨pbh, 3, none⟩ = some (.int .i64 e2) := HHP.out.at 3
        have p4 : wz.cell? ⟨pbh, 4, none⟩ = some (.slice h1 L hc1) := HHP.out.at 4
        have p5 : wz.cell? ⟨pbh, 5, none⟩ = some (.slice h2 L hc2) := HHP.out.at 5
        have p6 : wz.cell? ⟨pbh, 6, none⟩ = some (.slice h3 L hc3) := HHP.out.at 6
        have p7 : wz.cell? ⟨pbh, 7, none⟩ = some (.slice h4 L hc4) := HHP.out.at 7
        have HUPz : Hid (Lies wz pbu [.int .i64 s1, .int .i64 s2, .int .i64 e1, .int .i64 e2, .slice u1 L uc1, .slice u2 L uc2, .slice u3 L uc3, .slice u4 L uc4]) := HUP6.out.belowS HX.out
        have q0 : wz.cell? ⟨pbu, 0, none⟩ = some (.int .i64 s1) := HUPz.out.at 0
        have q1 : wz.cell? ⟨pbu, 1, none⟩ = some (.int .i64 s2) := HUPz.out.at 1
        have q2 : wz.cell? ⟨pbu, 2, none⟩ = some (.int .i64 e1) := HUPz.out.at 2
        have q3 : wz.cell? ⟨pbu, 3, none⟩ = some (.int .i64 e2) := HUPz.out.at 3
        have q4 : wz.cell? ⟨pbu, 4, none⟩ = some (.slice u1 L uc1) := HUPz.out.at 4
        have q5 : wz.cell? ⟨pbu, 5, none⟩ = some (.slice u2 L uc2) := HUPz.out.at 5
        have q6 : wz.cell? ⟨pbu, 6, none⟩ = some (.slice u3 L uc3) := HUPz.out.at 6
        have q7 : wz.cell? ⟨pbu, 7, none⟩ = some (.slice u4 L uc4) := HUPz.out.at 7
        go_wp2_with fail
        refine (eqProof_same s1 s2 e1 e2 _ HH1.out HH2.out HH3.out HH4.out (HU16.out.below HX.out) (HU26.out.below HX.out) (HU36.out.below HX.out) (HU46.out.below HX.out)).mono ?_
        rintro e w7 ⟨rfl, hb7⟩
        have HX7 : Hid (Below wq.heap.size wq w7) := HX.out.trans (hb7.mono HX.out.size)
        have HGP7 : Hid (Lies w7 pbg [.int .i64 s1, .int .i64 s2, .int .i64 e1, .int .i64 e2, .slice g1 L gc1, .slice g2 L gc2, .slice g3 L gc3, .slice g4 L gc4]) := HGP6.out.belowS HX7.out
        clear hb7 HX HHP HH1 HH2 HH3 HH4 HUPz p0 q0 p1 q1 p2 q2 p3 q3 p4 q4 p5 q5 p6 q6 p7 q7
        have p0 : w7.cell? ⟨pbg, 0, none⟩ = some (.int .i64 s1) := HGP7.out.at 0
        have p1 : w7.cell? ⟨pbg, 1, none⟩ = some (.int .i64 s2) := HGP7.out.at 1
        have p2 : w7.cell? ⟨pbg, 2, none⟩ = some (.int .i64 e1) := HGP7.out.at 2
        have p3 : w7.cell? ⟨pbg, 3, none⟩ = some (.int .i64 e2) := HGP7.out.at 3
        have p4 : w7.cell? ⟨pbg, 4, none⟩ = some (.slice g1 L gc1) := HGP7.out.at 4
        have p5 : w7.cell? ⟨pbg, 5, none⟩ = some (.slice g2 L gc2) := HGP7.out.at 5
        have p6 : w7.cell? ⟨pbg, 6, none⟩ = some (.slice g3 L gc3) := HGP7.out.at 6
        have p7 : w7.cell? ⟨pbg, 7, none⟩ = some (.slice g4 L gc4) := HGP7.out.at 7
        go_wp2_with fail
        refine (heldProof_any s1 s2 e1 e2 _ (HN1.out.below HX7.out) (HN2.out.below HX7.out) (HN3.out.below HX7.out) (HN4.out.below HX7.out) (by omega) (by omega) (by omega) (by omega)).mono ?_
        rintro e w8 ⟨rfl, hb8⟩
        have HB8 : Hid (Below w.heap.size w w8) := (HBq.out.trans (HX7.out.mono HBq.out.size)).trans (hb8.mono (Nat.le_trans HBq.out.size HX7.out.size))
        clear hb8
        go_wp2
        go_ret
        exact ⟨rfl, HB8.out⟩

set_option maxRecDepth 100000 in
theorem lifted (os : Os) (started : os.Started) (H : Type) (enc : TypeId × Value → H) :
    ReturnsInHanded {} Try.checked os 3 .any (Rows.fnExactProvedSpec.pre6 enc Try.prog Try.f3 Rows.fnExactProvedRow.domain false) (Rows.fnExactProvedSpec.post enc Try.prog Try.f3 false true false false) := by
  refine returnsInHanded_of_change (C := Try.checked) own started (by kernel_rfl) Try.func3
    (ChangeSpec.witness6 (enc := enc) (C := Try.checked) false ⟨#[], #[.agg #[.int .i64 0, .int .i64 0, .int .i64 0, .int .i64 0, .int .i64 0, .int .i64 0, .int .i64 0, .int .i64 0, .int .i64 0, .int .i64 0, .int .i64 0, .int .i64 0], .agg #[.int .i64 0, .int .i64 0], .int .i64 0], []⟩ 8 (by kernel_rfl) (by kernel_rfl) (by kernel_rfl) (by kernel_rfl)) ?_
  intro W base args ds gs before hval0 hW hcnd _
  have hval : ∀ (j : Nat) t v, Try.f3.params[j]? = some t → args[j]? = some v → Value.okWide Try.prog W .any base t v := hval0
  have hW' := hW
  obtain ⟨p, q, hA0, hV, rfl, hfz, hnd⟩ := hW
  have hA : DataW.TrodAll enc Try.prog W 0 (fun _ => true) true Try.f3.params.toList args.toList ds p := hA0
  rw [Try.params3] at hA hval
  obtain ⟨v0, vs0, d0, ds0, p0, q0, hargs, rfl, rfl, h0, r0⟩ := trodAll_cons hA
  obtain ⟨v1, vs1, d1, ds1, p1, q1, rfl, rfl, rfl, h1, r1⟩ := trodAll_cons r0
  obtain ⟨v2, vs2, d2, ds2, p2, q2, rfl, rfl, rfl, h2, r2⟩ := trodAll_cons r1
  obtain ⟨rfl, rfl, rfl⟩ := trodAll_nil r2
  obtain rfl : args = #[v0, v1, v2] := by cases args; simp_all
  obtain ⟨rfl, rfl⟩ := trodVars_none hV
  obtain ⟨a0, rfl⟩ := open_machine (hval 0 25 v0 rfl rfl)
  have k0 := h0
  have lt0 : ∀ x ∈ p0, x.block < W.heap.size := by obtain ⟨m, hm⟩ := k0; exact DataW.trod_lt m _ _ _ hm
  obtain ⟨a1, rfl⟩ := open_state (hval 1 27 v1 rfl rfl)
  have k1 := h1
  have lt1 : ∀ x ∈ p1, x.block < W.heap.size := by obtain ⟨m, hm⟩ := k1; exact DataW.trod_lt m _ _ _ hm
  obtain ⟨a2, rfl, rfl, rfl, w2⟩ := open_int Try.underlying2 (hval 2 2 v2 rfl rfl) h2
  clear hA0 hval0
  refine (walk a0 a1 a2 W).mono fun e W' ⟨he, bel⟩ => ?_
  subst he
  exact ⟨_, rfl, _, _, _, [], _, [], hW', trodAll_mk1 (shut_bool Try.underlying4 _), (trodAll_cons_mk (Below.trod laidOut (by kernel_rfl) (of_decide_eq_true (by kernel_rfl)) k0 bel lt0) (trodAll_cons_mk (Below.trod laidOut (by kernel_rfl) (of_decide_eq_true (by kernel_rfl)) k1 bel lt1) (trodAll_cons_mk (shut_int Try.underlying2 w2) trodAll_mk0))), rfl, bel.frame _, fun h => by cases h⟩

theorem over : Rows.fnExactProvedRow.holds Try.pinned (OpenSpec.ofChange Rows.fnExactProvedSpec) :=
  OpenClaim.holds_of_wide 3 Try.f3 rfl rfl rfl rfl rfl rfl rfl ⟨rfl, rfl, rfl, rfl, rfl⟩ rfl rfl rfl rfl rfl (by kernel_rfl) Try.func3 (by kernel_rfl)
    (of_decide_eq_true (by kernel_rfl)) (by unfold Func.isWrapper; first | (rw [if_pos (by decide +kernel)]; kernel_rfl) | (rw [if_neg (by decide +kernel)]; exact ⟨rfl, rfl⟩))
    (fun os started H enc _ => lifted os started H enc)

theorem proved : Rows.FnExactProvedSaid := over
end Go.Proofs.Ytbcfjbkmkknmfaa.fnExactProved
namespace Go.Proofs.Ytbcfjbkmkknmfaa
theorem fnExactProved_holds : Rows.FnExactProvedSaid := fnExactProved.proved
#print axioms fnExactProved_holds
end Go.Proofs.Ytbcfjbkmkknmfaa
