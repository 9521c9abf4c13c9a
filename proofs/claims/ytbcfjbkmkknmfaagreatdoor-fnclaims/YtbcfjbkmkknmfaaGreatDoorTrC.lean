/- The fast transform in the program: a closure that calls itself. -/
import Derived.Deep.RegionHeld3
import Derived.Test.YtbcfjbkmkknmfaaGreatDoorTrB
namespace Go.Proofs.YtbcfjbkmkknmfaaGreatDoor
open Go.RowKit

theorem Owns.one (t : TypeId) (w : World) (x : Int) : Owns t (w.alloc (.cells #[Value.int .i64 x] t)) w.heap.size (some ⟨w.heap.size, 0, none⟩) 1 1 [x] := by
  refine ⟨by simp, .inr ⟨w.heap.size, 1, #[Value.int .i64 x], rfl, Nat.le_refl _, ?_, Nat.le_refl _, by unfold maxLen; omega, by simp, by simp⟩⟩
  unfold World.alloc; simp
/-- the transform's list while it is filled: X i where it has been, else 0 -/
def M.outAt (X : Nat → Int) (c j : Nat) : List Int := M.tab (2 * c) (fun i => if i < j ∨ (c ≤ i ∧ i < c + j) then X i else 0)
theorem M.outAt_zero (X : Nat → Int) (c : Nat) : List.replicate (2 * c) 0 = M.outAt X c 0 := by
  refine M.tab_ext (by simp) fun i hi => ?_
  rw [if_neg (by omega), List.getD_eq_getElem?_getD, List.getElem?_eq_getElem (by simpa using hi)]; simp
theorem M.outAt_step (X : Nat → Int) {c j : Nat} (h : j < c) : ((M.outAt X c j).set j (X j)).set (j + c) (X (j + c)) = M.outAt X c (j + 1) := by
  unfold M.outAt
  rw [M.tab_set, M.tab_set]
  refine M.tab_congr fun i hi => ?_
  by_cases e1 : i = j + c
  · subst e1; rw [if_pos rfl, if_pos (by omega)]
  · rw [if_neg e1]
    by_cases e2 : i = j
    · subst e2; rw [if_pos rfl, if_pos (by omega)]
    · rw [if_neg e2]
      by_cases e3 : i < j ∨ (c ≤ i ∧ i < c + j)
      · rw [if_pos e3, if_pos (by omega)]
      · rw [if_neg e3, if_neg (by omega)]
theorem M.outAt_end (X : Nat → Int) (c : Nat) : M.outAt X c c = M.tab (2 * c) X := M.tab_congr fun i hi => if_pos (by omega)
/-- what the closure finds: the coefficients, itself, the powers -/
def TrEnv (w : World) (la : Option Addr) (lc : Nat) (pa : Option Addr) (pc N RL RF RP : Nat) (zs : List Int) (r : Int) : Prop :=
  Sees w la N lc zs ∧ Sees w pa N pc (M.gp 1 r N) ∧ w.cell? ⟨RL, 0, none⟩ = some (.slice la N lc) ∧ w.cell? ⟨RF, 0, none⟩ = some (.func (.func 136) #[] #[.pointer (some ⟨RL, 0, none⟩), .pointer (some ⟨RF, 0, none⟩), .pointer (some ⟨RP, 0, none⟩)]) ∧ w.cell? ⟨RP, 0, none⟩ = some (.slice pa N pc)
theorem TrEnv.below {w w' : World} {la : Option Addr} {lc : Nat} {pa : Option Addr} {pc N RL RF RP : Nat} {zs : List Int} {r : Int} (h : TrEnv w la lc pa pc N RL RF RP zs r) (hb : Below w.heap.size w w') : TrEnv w' la lc pa pc N RL RF RP zs r := by
  obtain ⟨h1, h2, h3, h4, h5⟩ := h
  exact ⟨h1.below hb, h2.below hb, (hb.cell (p := ⟨RL, 0, none⟩) (World.block_lt_of_cell? w _ h3)).trans h3, (hb.cell (p := ⟨RF, 0, none⟩) (World.block_lt_of_cell? w _ h4)).trans h4, (hb.cell (p := ⟨RP, 0, none⟩) (World.block_lt_of_cell? w _ h5)).trans h5⟩
set_option maxHeartbeats 8000000 in
theorem tr1_any {la : Option Addr} {lc : Nat} {pa : Option Addr} {pc N RL RF RP : Nat} {zs : List Int} {r : Int} (hN : N ≤ 1000) (az : M.allEl zs = true) (hr : ∀ h, N = 2 * h → M.cg (r ^ h) (-1)) (k : Nat) :
    ∀ (c : Nat), c = 2 ^ k → ∀ (f s : Nat) (w : World), s * c = N → f < s → TrEnv w la lc pa pc N RL RF RP zs r →
    Calls Tryz.prog 136 #[.int .i64 f, .int .i64 s, .pointer (some ⟨RL, 0, none⟩), .pointer (some ⟨RF, 0, none⟩), .pointer (some ⟨RP, 0, none⟩)] w fun e w' => ∃ a' c', e = .returned (.slice a' c c') ∧ Owns 73 w' w.heap.size a' c c' (M.tab c (M.fv (fun i => zs.getD i 0) r f s c)) ∧ Below w.heap.size w w' := by
  induction k with
  | zero =>
    intro c hc f s w hs hf henv
    rw [Nat.pow_zero] at hc
    subst hc
    rw [Nat.mul_one] at hs
    subst hs
    have HE : Hid (TrEnv w la lc pa pc s RL RF RP zs r) := henv
    obtain ⟨h1, h2, h3, h4, h5⟩ := henv
    obtain ⟨b1, o1, rfl, hc1⟩ := h1.at (by omega)
    have c1 := hc1 f hf
    have x01 := M.el_at az f
    have HV : Hid ([zs.getD f 0] = M.tab 1 (M.fv (fun i => zs.getD i 0) r f s 1)) := by
      show _ = _
      have := M.fv_one (fun i => zs.getD i 0) r f s x01.1 x01.2
      rw [show M.tab 1 (M.fv (fun i => zs.getD i 0) r f s 1) = [M.fv (fun i => zs.getD i 0) r f s 1 0] from rfl, ← this]
    generalize zs.getD f 0 = x at c1 HV
    have hb1 : ((s : Int) == (s : Int)) = true := by simp
    have hI : (f : Int) < (s : Int) := by omega
    clear hc1 h1 h2 h4 h5 x01
    go_enter Tryz.func136, Tryz.ntmps136
    go_wp2
    go_ret
    refine ⟨_, 1, rfl, ?_, (Below.refl _ _).alloc (Nat.le_refl _) _⟩
    rw [← HV.out]; exact Owns.one _ _ _
  | succ k ih =>
    intro c2 hc2 f s w hs hf henv
    obtain ⟨c, hc⟩ : ∃ c, c = 2 ^ k := ⟨_, rfl⟩
    have hcp : 0 < c := by rw [hc]; exact Nat.pow_pos (by omega)
    have e2 : c2 = 2 * c := by rw [hc2, hc, Nat.pow_succ, Nat.mul_comm]
    subst e2
    obtain ⟨s2, hs2⟩ : ∃ s2, s2 = 2 * s := ⟨_, rfl⟩
    obtain ⟨f2, hf2⟩ : ∃ f2, f2 = f + s := ⟨_, rfl⟩
    have hs2c : s2 * c = N := by rw [hs2, ← hs]; grind
    have hsc : s * c * 2 = N := by rw [← hs]; grind
    have hsN : s < N := by
      have := Nat.mul_le_mul_left s hcp
      omega
    have HX1 : Hid (∀ j, j < c → (M.fv (fun i => zs.getD i 0) r f s2 c j + M.fv (fun i => zs.getD i 0) r f2 s2 c j * (1 * r ^ (j * s) % 65537) % 65537) % 65537 = M.fv (fun i => zs.getD i 0) r f s (2 * c) j) := fun j _ => by
      rw [hs2, hf2, Int.one_mul]; exact M.fv_lo _ r f s c j
    have HX2 : Hid (∀ j, j < c → (M.fv (fun i => zs.getD i 0) r f s2 c j + 65537 - M.fv (fun i => zs.getD i 0) r f2 s2 c j * (1 * r ^ (j * s) % 65537) % 65537) % 65537 = M.fv (fun i => zs.getD i 0) r f s (2 * c) (j + c)) := fun j _ => by
      rw [hs2, hf2, Int.one_mul]; exact M.fv_hi _ r f s c j (hr _ (by omega))
    have HIH : Hid (∀ (f s : Nat) (w : World), s * c = N → f < s → TrEnv w la lc pa pc N RL RF RP zs r →
      Calls Tryz.prog 136 #[.int .i64 f, .int .i64 s, .pointer (some ⟨RL, 0, none⟩), .pointer (some ⟨RF, 0, none⟩), .pointer (some ⟨RP, 0, none⟩)] w fun e w' => ∃ a' c', e = .returned (.slice a' c c') ∧ Owns 73 w' w.heap.size a' c c' (M.tab c (M.fv (fun i => zs.getD i 0) r f s c)) ∧ Below w.heap.size w w') := ih c hc
    have HE : Hid (TrEnv w la lc pa pc N RL RF RP zs r) := henv
    have HFS : Hid (s2 * c = N ∧ f < s2 ∧ f2 < s2) := ⟨hs2c, by omega, by omega⟩
    have HCN : Hid (2 * c ≤ N) := by
      show _ ≤ _
      have h0 : 1 ≤ s := by omega
      have := Nat.mul_le_mul_right (2 * c) h0
      omega
    have HPS : Hid (∀ j, j < c → j * s < N) := fun j hj => by
      have h0 : 1 ≤ s := by omega
      have h1 := Nat.mul_le_mul_right s (show j + 1 ≤ c by omega)
      have h2 : c * s = s * c := Nat.mul_comm _ _
      rw [Nat.add_mul] at h1
      omega
    have hE := henv
    obtain ⟨h1, h2, h3, h4, h5⟩ := hE
    have hb1 : ((s : Int) == (N : Int)) = false := by simp; omega
    have w2s : (2 : Int) * (s : Int) = (s2 : Int) := by omega
    have wfs : (f : Int) + (s : Int) = (f2 : Int) := by omega
    have w2s' : IntKind.i64.wrap (s2 : Int) = (s2 : Int) := by rw [IntKind.wrap_i64]; omega
    have wfs' : IntKind.i64.wrap (f2 : Int) = (f2 : Int) := by rw [IntKind.wrap_i64]; omega
    clear h1 h2 hs hc hc2 hs2 hf2 hsc hs2c ih henv hr
    have HCl : Hid (∀ W, Below w.heap.size w W → W.cell? ⟨RL, 0, none⟩ = some (.slice la N lc) ∧ W.cell? ⟨RF, 0, none⟩ = some (.func (.func 136) #[] #[.pointer (some ⟨RL, 0, none⟩), .pointer (some ⟨RF, 0, none⟩), .pointer (some ⟨RP, 0, none⟩)]) ∧ W.cell? ⟨RP, 0, none⟩ = some (.slice pa N pc)) := fun W hW => (HE.out.below hW).2.2
    have HED : Hid (TrEnv w.drew la lc pa pc N RL RF RP zs r) := HE.out.below (Below.refl _ _).drew
    have HBD : Hid (Below w.heap.size w w.drew) := (Below.refl _ _).drew
    go_enter Tryz.func136, Tryz.ntmps136
    go_wp2
    go_region_with (first
      | (go_at_call_of 136 (Value.int .i64 (f : Int)); refine (HIH.out f s2 _ HFS.out.1 HFS.out.2.1 HED.out).mono ?_; rintro e w1 ⟨a1, c1, rfl, ho1, hb1⟩; have hb1' : Below w.heap.size w w1 := HBD.out.trans hb1; obtain ⟨g1, g2, g3⟩ := HCl.out _ hb1')
      | (go_at_call 136; refine (HIH.out f2 s2 _ HFS.out.1 HFS.out.2.2 (HE.out.below hb1')).mono ?_; rintro e w3 ⟨a3, c3, rfl, ho3, hb3⟩; have hb3' : Below w.heap.size w w3 := hb1'.trans (hb3.mono hb1'.size); obtain ⟨g4, g5, g6⟩ := HCl.out _ hb3'))
    all_goals
      have HO1 : Hid (Owns 73 w3 w.heap.size a1 c c1 (M.tab c (M.fv (fun i => zs.getD i 0) r f s2 c))) := ho1.below hb3
      have HO3 : Hid (Owns 73 w3 w1.heap.size a3 c c3 (M.tab c (M.fv (fun i => zs.getD i 0) r f2 s2 c))) := ho3
      have HB3 : Hid (Below w.heap.size w w3) := hb3'
      clear ho1 hb1 hb1' ho3 hb3 hb3' g1 g2 g3 h3 h4 h5 g4 g5 g6 HIH HED HBD HFS
      obtain ⟨i0, hi, hz0, hz1, hz2⟩ := info_parts info_el
      have hc2 : 2 * c ≤ 1000 := by have := HCN.out; omega
      go_wp2_with (at_make; refine wpList_make_full _ rfl _ _ 89 rfl w3.heap.size 73 i0 (.int .i64 0) 1 Tryz.underlying89 hi hz0 hz1 .i64 .i64 _ _ (2 * c) rfl rfl (by first | omega | simp) (by first | omega | simp) (by rw [hz2]; omega) (by unfold maxLen; omega) (Nat.le_refl _) ?_)
      intro w4 hown hg
      have HO4 : Hid (Owns 73 w4 w3.heap.size (some ⟨w3.heap.size, 0, none⟩) (2 * c) (2 * c) (M.outAt (M.fv (fun i => zs.getD i 0) r f s (2 * c)) c 0)) := by
        show w4.ownsRow _ _ _ _ _ _
        rw [made_ints, M.outAt_zero (M.fv (fun i => zs.getD i 0) r f s (2 * c))] at hown; exact hown
      have HB4 : Hid (Below w3.heap.size w3 w4) := below_grown hg
      clear hown hg hi hz0 hz1 hz2
      go_wp2
      go_loopw [41] (fun i wr => ∃ j : Nat, j ≤ c ∧ i = .int .i64 j ∧ Owns 73 wr w3.heap.size (some ⟨w3.heap.size, 0, none⟩) (2 * c) (2 * c) (M.outAt (M.fv (fun i => zs.getD i 0) r f s (2 * c)) c j) ∧ Below w3.heap.size w3 wr) (fun i _ => c - (intOf i).toNat)
      case atStart => exact ⟨0, by omega, rfl, HO4.out, HB4.out⟩
      case round =>
        obtain ⟨j, hj, rfl, hor, hbr⟩ := hrel
        have HOR : Hid (Owns 73 wr w3.heap.size (some ⟨w3.heap.size, 0, none⟩) (2 * c) (2 * c) (M.outAt (M.fv (fun i => zs.getD i 0) r f s (2 * c)) c j)) := hor
        have HBR : Hid (Below w3.heap.size w3 wr) := hbr
        have HBW : Hid (Below w.heap.size w wr) := HB3.out.trans (hbr.mono HB3.out.size)
        clear hor hbr HO4 HB4
        by_cases hlt : j < c
        · obtain ⟨b1, o1, rfl, hc1⟩ := (HO1.out.sees.below HBR.out).at hcp
          obtain ⟨b2, o2, rfl, hc2'⟩ := (HO3.out.sees.below HBR.out).at hcp
          obtain ⟨b3, o3, rfl, hc3⟩ := (HE.out.2.1.below HBW.out).at (by omega)
          have d1 := hc1 j hlt
          have d2 := hc2' j hlt
          have d3 := hc3 (j * s) (HPS.out j hlt)
          obtain ⟨g, hge, _, _, hc4, hf4⟩ := HOR.out.block (by omega)
          simp only [Option.some.injEq, Addr.mk.injEq, and_true] at hge
          subst hge
          have d4 := hc4 j (by omega)
          have d5 := hc4 (j + c) (by omega)
          have e4 := hf4 j
          have e5 := hf4 (j + c)
          have d6 := (HCl.out _ HBW.out).2.2
          rw [M.tab_get _ _ _ hlt] at d1 d2
          unfold M.gp at d3
          rw [M.tab_get _ _ _ (HPS.out j hlt)] at d3
          have HST : Hid (((M.outAt (M.fv (fun i => zs.getD i 0) r f s (2 * c)) c j).set j ((M.fv (fun i => zs.getD i 0) r f s2 c j + M.fv (fun i => zs.getD i 0) r f2 s2 c j * (1 * r ^ (j * s) % 65537) % 65537) % 65537)).set (j + c) ((M.fv (fun i => zs.getD i 0) r f s2 c j + 65537 - M.fv (fun i => zs.getD i 0) r f2 s2 c j * (1 * r ^ (j * s) % 65537) % 65537) % 65537) = M.outAt (M.fv (fun i => zs.getD i 0) r f s (2 * c)) c (j + 1)) := by
            show _ = _
            rw [HX1.out j hlt, HX2.out j hlt]; exact M.outAt_step _ hlt
          have x01 := M.fv_bd (fun i => zs.getD i 0) r f s2 c j
          have y01 := M.fv_bd (fun i => zs.getD i 0) r f2 s2 c j
          have p01 : 0 ≤ 1 * r ^ (j * s) % 65537 ∧ 1 * r ^ (j * s) % 65537 < 65537 := by omega
          have hps := HPS.out j hlt
          have hjs : (j : Int) * (s : Int) = ((j * s : Nat) : Int) := by rw [Int.natCast_mul]
          generalize M.fv (fun i => zs.getD i 0) r f s2 c j = x at d1 x01 HST
          generalize M.fv (fun i => zs.getD i 0) r f2 s2 c j = y at d2 y01 HST
          generalize 1 * r ^ (j * s) % 65537 = pz at d3 p01 HST
          generalize j * s = js at d3 hps hjs
          generalize (M.outAt (M.fv (fun i => zs.getD i 0) r f s (2 * c)) c j).getD j 0 = q4 at d4
          generalize (M.outAt (M.fv (fun i => zs.getD i 0) r f s (2 * c)) c j).getD (j + c) 0 = q5 at d5
          obtain ⟨jc, hjc⟩ : ∃ jc, jc = j + c := ⟨_, rfl⟩
          rw [← hjc] at d5 e5 HST
          have hjcI : (j : Int) + (c : Int) = (jc : Int) := by omega
          have hjcI2 : (jc : Int) < 2 * (c : Int) := by omega
          have hjcI3 : jc < 2 * c := by omega
          have hjI2 : (j : Int) < 2 * (c : Int) := by omega
          have hne : j ≠ jc := by omega
          have hne' : jc ≠ j := by omega
          have hwjs : IntKind.i64.wrap (js : Int) = (js : Int) := by rw [IntKind.wrap_i64]; omega
          have hpsI : (js : Int) < (N : Int) := by omega
          obtain ⟨x0, x1⟩ := x01
          obtain ⟨y0, y1⟩ := y01
          obtain ⟨p0, p1⟩ := p01
          have hI : (j : Int) < (c : Int) := by omega
          clear hc1 hc2' hc3 hc4 hf4 hjc
          go_wp2
          go_quiet ((go_at_call 115; exact Calls.quiet_of_same (times_any y pz _ y0 y1 p0 p1)))
          have t0 : 0 ≤ y * pz % 65537 := Int.emod_nonneg _ (by decide)
          have t1 : y * pz % 65537 < 65537 := Int.emod_lt_of_pos _ (by decide)
          generalize y * pz % 65537 = t at HST t0 t1 ⊢
          go_wp2_with (first | (go_at_call 137; refine (plus_any x t _ x0 x1 t0 t1).mono ?_; rintro e w' ⟨rfl, rfl⟩) | (go_at_call 122; refine (minus_any x t _ x0 x1 t0 t1).mono ?_; rintro e w' ⟨rfl, rfl⟩))
          go_roundw
          case rel =>
            refine ⟨j + 1, by omega, by go_num, ?_, ((Below.drewN' HBR.out _).setCell (Nat.le_refl _) _).setCell (Nat.le_refl _) _⟩
            rw [← HST.out]
            exact ((HOR.out.drewN _).set j _).set jc _
          case measure => simp [intOf]; omega
        · have hjc : j = c := by omega
          subst hjc
          go_wp2
          go_ret
          refine ⟨_, _, rfl, ?_, HBW.out⟩
          rw [← M.outAt_end]; exact HOR.out.mono HB3.out.size
end Go.Proofs.YtbcfjbkmkknmfaaGreatDoor
