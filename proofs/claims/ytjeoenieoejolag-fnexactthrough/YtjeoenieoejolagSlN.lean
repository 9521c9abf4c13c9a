/- Division with a rest in the program. -/
import Derived.Test.YtjeoenieoejolagSlM
import Derived.Deep.RegionHeld3
namespace Go.Proofs.Ytjeoenieoejolag
open Go.RowKit

set_option maxHeartbeats 1000000 in
theorem polyMinus_any {a b : Option Addr} {n m c d : Nat} {zs ys : List Int} (w : World) (hz : Sees w a n c zs) (hy : Sees w b m d ys) (ha : M.allEl zs = true) (hb : M.allEl ys = true) (hn : n ≤ 100000) (hm : m ≤ 100000) :
    Calls Try.prog 64 #[.slice a n c, .slice b m d] w fun e w' => ∃ a' l c', e = .returned (.slice a' l c') ∧ Owns 50 w' w.heap.size a' l c' (M.trim (M.padd zs (M.trim (M.pscale ys 65536)))) ∧ Below w.heap.size w w' := by
  have HZ : Hid (Sees w a n c zs) := hz
  have HY : Hid (Sees w b m d ys) := hy
  have HA : Hid (M.allEl zs = true) := ha
  have HB : Hid (M.allEl ys = true) := hb
  have HL : Hid ((M.trim (M.pscale ys 65536)).length ≤ 100000) := by show _ ≤ _; have := M.len_trim (M.pscale ys 65536); rw [M.pscale_len, hy.len] at this; omega
  clear hz hy ha hb
  go_enter Try.func64, Try.ntmps64
  go_wp2_with fail
  refine (minus_any 0 1 _ (by omega) (by omega) (by omega) (by omega)).mono ?_
  rintro e w ⟨rfl, rfl⟩
  go_wp2_with fail
  refine (scaled_any 65536 _ HY.out HB.out (by omega) (by omega) (by omega)).mono ?_
  rintro e w1 ⟨a1, l1, c1, rfl, ho1, hb1⟩
  have hl1 : l1 ≤ 100000 := by rw [← ho1.len]; exact HL.out
  have HO1 : Hid (Owns 50 w1 w.heap.size a1 l1 c1 (M.trim (M.pscale ys 65536))) := ho1
  have HB1 : Hid (Below w.heap.size w w1) := hb1
  clear ho1 hb1
  go_wp2_with fail
  refine (polyPlus_any _ (HZ.out.below HB1.out) HO1.out.sees HA.out (M.all_trim (M.all_pscale _ _)) hn hl1).mono ?_
  rintro e w2 ⟨a2, l2, c2, rfl, ho2, hb2⟩
  have HO2 : Hid (Owns 50 w2 w.heap.size a2 l2 c2 (M.trim (M.padd zs (M.trim (M.pscale ys 65536))))) := ho2.mono HB1.out.size
  have HB2 : Hid (Below w.heap.size w w2) := HB1.out.trans (hb2.mono HB1.out.size)
  clear ho2 hb2
  go_wp2
  go_ret
  exact ⟨a2, l2, c2, rfl, HO2.out, HB2.out⟩
set_option maxHeartbeats 4000000 in
theorem dividedBy1_any {g qa ra : Option Addr} {m d qn qc rn rc : Nat} {ys Q R f : List Int} (c iv : Int) (RG RL : Nat) (w : World) (hg : Sees w g m d ys) (hq : Sees w qa qn qc Q) (hr : Sees w ra rn rc R) (hD : M.Div f ys Q R) (ay : M.allEl ys = true) (ny : M.neat ys) (hm : m ≤ 128) (hqn : qn ≤ 1000) (c0 : 0 ≤ c) (c1 : c < 65537) (hiv : iv = M.inv (ys.getD (ys.length - 1) 0))
    (hRG : w.cell? ⟨RG, 0, none⟩ = some (.slice g m d)) (hRL : w.cell? ⟨RL, 0, none⟩ = some (.int .i64 iv)) :
    Calls Try.prog 62 #[.agg #[.slice qa qn qc, .slice ra rn rc], .int .i64 c, .pointer (some ⟨RG, 0, none⟩), .pointer (some ⟨RL, 0, none⟩)] w fun e w' => ∃ a1 l1 c1 a2 l2 c2 Q' R', e = .returned (.agg #[.slice a1 l1 c1, .slice a2 l2 c2]) ∧ Owns 50 w' w.heap.size a1 l1 c1 Q' ∧ Owns 50 w' w.heap.size a2 l2 c2 R' ∧ M.Div (c :: f) ys Q' R' ∧ Below w.heap.size w w' := by
  have HG : Hid (Sees w g m d ys) := hg
  have HQ : Hid (Sees w qa qn qc Q) := hq
  have HR : Hid (Sees w ra rn rc R) := hr
  have HD : Hid (M.Div f ys Q R) := hD
  have HAY : Hid (M.allEl ys = true) := ay
  have HNY : Hid (M.neat ys) := ny
  have hrn : rn ≤ 128 := by have h1 := hD.short; rw [hr.len, hg.len] at h1; omega
  have HIV : Hid (iv = M.inv (ys.getD (ys.length - 1) 0)) := hiv
  have HGl : Hid (∀ w', Below w.heap.size w w' → w'.cell? ⟨RG, 0, none⟩ = some (.slice g m d)) := fun w' hb => (hb.cell (p := ⟨RG, 0, none⟩) (World.block_lt_of_cell? w _ hRG)).trans hRG
  have HLl : Hid (∀ w', Below w.heap.size w w' → w'.cell? ⟨RL, 0, none⟩ = some (.int .i64 iv)) := fun w' hb => (hb.cell (p := ⟨RL, 0, none⟩) (World.block_lt_of_cell? w _ hRL)).trans hRL
  clear hg hq hr hD ay ny hiv
  go_enter Try.func62, Try.ntmps62
  have HIB : Hid (0 ≤ iv ∧ iv < 65537) := by
    show _ ∧ _
    have g0 : 0 < ys.length := by have := HD.out.short; omega
    have gl : ys.getD (ys.length - 1) 0 ≠ 0 := by
      rcases HNY.out with e | e
      · omega
      · exact e
    rw [HIV.out, ← M.el_iff]
    exact M.el_inv ((M.el_iff _).2 (M.el_at HAY.out _)) gl
  obtain ⟨iv0, iv1⟩ := HIB.out
  have HBa : Hid (Below w.heap.size w ((w.alloc (.cells #[Value.slice qa qn qc, Value.slice ra rn rc] 45)).alloc (.cells #[Value.slice none 0 0, Value.slice none 0 0] 45))) := ((Below.refl _ _).alloc (Nat.le_refl _) _).alloc (by simp) _
  have HSz : Hid (((w.alloc (.cells #[Value.slice qa qn qc, Value.slice ra rn rc] 45)).alloc (.cells #[Value.slice none 0 0, Value.slice none 0 0] 45)).heap.size = w.heap.size + 2) := by show _ = _; simp
  have HK : Hid (∀ w', Below (w.heap.size + 2) ((w.alloc (.cells #[Value.slice qa qn qc, Value.slice ra rn rc] 45)).alloc (.cells #[Value.slice none 0 0, Value.slice none 0 0] 45)) w' → w'.cell? ⟨w.heap.size, 0, none⟩ = some (.slice qa qn qc) ∧ w'.cell? ⟨w.heap.size, 1, none⟩ = some (.slice ra rn rc) ∧ w'.cell? ⟨w.heap.size + 1, 0, none⟩ = some (.slice none 0 0) ∧ w'.cell? ⟨w.heap.size + 1, 1, none⟩ = some (.slice none 0 0) ∧ w'.frozen? ⟨w.heap.size + 1, 0, none⟩ = false ∧ w'.frozen? ⟨w.heap.size + 1, 1, none⟩ = false) := by
    intro w' hb
    refine ⟨(hb.cell (p := ⟨w.heap.size, 0, none⟩) (by simp)).trans ?_, (hb.cell (p := ⟨w.heap.size, 1, none⟩) (by simp)).trans ?_, (hb.cell (p := ⟨w.heap.size + 1, 0, none⟩) (by simp)).trans ?_, (hb.cell (p := ⟨w.heap.size + 1, 1, none⟩) (by simp)).trans ?_, (hb.frozen (p := ⟨w.heap.size + 1, 0, none⟩) (by simp)).trans ?_, (hb.frozen (p := ⟨w.heap.size + 1, 1, none⟩) (by simp)).trans ?_⟩ <;> simp
  generalize hwa : (w.alloc (.cells #[Value.slice qa qn qc, Value.slice ra rn rc] 45)).alloc (.cells #[Value.slice none 0 0, Value.slice none 0 0] 45) = wa at HBa HSz HK
  have HWA : Hid ((w.alloc (.cells #[Value.slice qa qn qc, Value.slice ra rn rc] 45)).alloc (.cells #[Value.slice none 0 0, Value.slice none 0 0] 45) = wa) := hwa
  clear hwa
  go_wp2_with fail
  rw [HWA.out]
  refine (shifted_any c _ (HR.out.below HBa.out) (by omega)).mono ?_
  rintro e w1 ⟨ta, tn, tc, rfl, ho1, hb1⟩
  have hb1' : Below (w.heap.size + 2) wa w1 := by rw [← HSz.out]; exact hb1
  have HO1 : Hid (Owns 50 w1 wa.heap.size ta tn tc (M.trim (c :: R))) := ho1
  have HK1 : Hid (Below (w.heap.size + 2) wa w1) := hb1'
  have HB1 : Hid (Below w.heap.size w w1) := HBa.out.trans (hb1.mono HBa.out.size)
  have HT : Hid (M.allEl (M.trim (c :: R)) = true) := M.all_trim (M.all_cons ⟨c0, c1⟩ HD.out.ar)
  have htn : tn ≤ 129 := by
    have h := M.len_trim (c :: R); rw [ho1.len, List.length_cons, HR.out.len] at h; omega
  have HTM : Hid (tn ≤ m) := by
    show _ ≤ _
    have h := M.len_trim (c :: R); rw [ho1.len, List.length_cons] at h
    have h2 := HD.out.short; rw [HG.out.len] at h2; omega
  have hcg := HGl.out _ HB1.out
  obtain ⟨k0, k1, k2, k3, k4, k5⟩ := HK.out _ hb1'
  clear ho1 hb1 hb1'
  by_cases hfull : tn = m
  · have hbf : ((tn : Int) == (m : Int)) = true := by simp [hfull]
    have HF : Hid (tn = m) := hfull
    have htp : 0 < tn := by
      have h2 := HD.out.short; rw [HG.out.len] at h2; omega
    obtain ⟨gt, rfl, _, _, hct, _⟩ := HO1.out.block htp
    have ct := hct (tn - 1) (by omega)
    have x01 := M.el_at HT.out (tn - 1)
    have HU : Hid (∀ x, (M.trim (c :: R)).getD (tn - 1) 0 = x → M.Div (c :: f) ys (M.trim ((x * iv % 65537) :: Q)) (M.trim (M.padd (M.trim (c :: R)) (M.trim (M.pscale (M.trim (M.pscale ys (x * iv % 65537))) 65536))))) := by
      intro x hx
      refine M.horner_full HAY.out HNY.out ⟨c0, c1⟩ HD.out (by rw [HO1.out.len, HG.out.len]; exact HF.out) _ ?_
      rw [HO1.out.len, hx, HIV.out]
    generalize hx : (M.trim (c :: R)).getD (tn - 1) 0 = x at ct x01
    have HDV : Hid (M.Div (c :: f) ys (M.trim ((x * iv % 65537) :: Q)) (M.trim (M.padd (M.trim (c :: R)) (M.trim (M.pscale (M.trim (M.pscale ys (x * iv % 65537))) 65536))))) := HU.out x hx
    obtain ⟨x0, x1⟩ := x01
    have cl := HLl.out _ HB1.out
    have hI1 : (0 : Int) ≤ (tn : Int) - 1 := by omega
    have hI2 : (tn : Int) - 1 < (tn : Int) := by omega
    have ht1 : 1 ≤ tn := by omega
    have u0 : 0 ≤ x * iv % 65537 := Int.emod_nonneg _ (by decide)
    have u1 : x * iv % 65537 < 65537 := Int.emod_lt_of_pos _ (by decide)
    clear hx hct HU hfull
    go_wp2
    go_quiet ((go_at_call 63; exact Calls.quiet_of_same (times_any x iv _ x0 x1 iv0 iv1)))
    generalize hu : x * iv % 65537 = u at HDV u0 u1
    have HUE : Hid (x * iv % 65537 = u) := hu
    clear hu
    go_wp2_with fail
    refine (scaled_any u _ ((HG.out.below HB1.out).drewN _) HAY.out (by omega) u0 u1).mono ?_
    rintro e w3 ⟨ca, cn, cc, rfl, ho3, hb3⟩
    have hb13 : Below w1.heap.size w1 w3 := (Below.drewN' (Below.refl _ _) _).trans hb3
    have HO3 : Hid (Owns 50 w3 w1.heap.size ca cn cc (M.trim (M.pscale ys u))) := ho3
    have HO13 : Hid (Owns 50 w3 wa.heap.size (some ⟨gt, 0, none⟩) tn tc (M.trim (c :: R))) := HO1.out.below hb13
    have HB3 : Hid (Below w.heap.size w w3) := HB1.out.trans (hb13.mono HB1.out.size)
    have HK3 : Hid (Below (w.heap.size + 2) wa w3) := HK1.out.trans (hb13.mono (by rw [← HSz.out]; exact HK1.out.size))
    have hcn : cn ≤ 128 := by
      have h := M.len_trim (M.pscale ys u); rw [ho3.len, M.pscale_len, HG.out.len] at h; omega
    clear ho3 hb3 hb13 k0 k1 k2 k3 k4 k5 ct cl hcg
    go_wp2_with fail
    refine (polyMinus_any _ HO13.out.sees HO3.out.sees HT.out (M.all_trim (M.all_pscale _ _)) (by omega) (by omega)).mono ?_
    rintro e w4 ⟨na, nn, nc, rfl, ho4, hb4⟩
    have HO4 : Hid (Owns 50 w4 w3.heap.size na nn nc (M.trim (M.padd (M.trim (c :: R)) (M.trim (M.pscale (M.trim (M.pscale ys u)) 65536))))) := ho4
    have HB4 : Hid (Below w.heap.size w w4) := HB3.out.trans (hb4.mono HB3.out.size)
    have HK4 : Hid (Below (w.heap.size + 2) wa w4) := HK3.out.trans (hb4.mono (by rw [← HSz.out]; exact HK3.out.size))
    clear ho4 hb4
    obtain ⟨k0, k1, k2, k3, k4, k5⟩ := HK.out _ HK4.out
    go_wp2_with fail
    refine (shifted_any u _ (HQ.out.below HB4.out) (by omega)).mono ?_
    rintro e w2 ⟨sa, sn, sc, rfl, ho2, hb2⟩
    have HO2 : Hid (Owns 50 w2 w.heap.size sa sn sc (M.trim (u :: Q))) := ho2.mono HB4.out.size
    have HO12 : Hid (Owns 50 w2 w.heap.size na nn nc (M.trim (M.padd (M.trim (c :: R)) (M.trim (M.pscale (M.trim (M.pscale ys u)) 65536))))) := (HO4.out.below hb2).mono HB3.out.size
    have HNs : Hid (∀ x, sa = some x → x.block ≠ w.heap.size + 1) := fun x hx => by have h := ho2.lo x hx; have h2 := HK4.out.size; have h3 := HSz.out; omega
    have HNt : Hid (∀ x, na = some x → x.block ≠ w.heap.size + 1) := fun x hx => by have h := HO4.out.lo x hx; have h2 := HK3.out.size; have h3 := HSz.out; omega
    have HB2 : Hid (Below w.heap.size w w2) := HB4.out.trans (hb2.mono HB4.out.size)
    have hk2 : Below (w.heap.size + 2) wa w2 := HK4.out.trans (hb2.mono (by rw [← HSz.out]; exact HK4.out.size))
    clear k0 k1 k2 k3 k4 k5
    obtain ⟨k0, k1, k2, k3, k4, k5⟩ := HK.out _ hk2
    clear ho2 hb2 hk2
    go_wp2
    refine bodyPost_ret (v := .agg #[.slice sa sn sc, .slice na nn nc]) (by simp [results, Try.results62, go_sem, k2, k3]) rfl ⟨sa, sn, sc, na, nn, nc, _, _, rfl, ?_, ?_, HDV.out, ?_⟩
    · exact (HO2.out.other ⟨w.heap.size + 1, 0, none⟩ HNs.out _).other ⟨w.heap.size + 1, 1, none⟩ HNs.out _
    · exact (HO12.out.other ⟨w.heap.size + 1, 0, none⟩ HNt.out _).other ⟨w.heap.size + 1, 1, none⟩ HNt.out _
    · exact (HB2.out.setCell (Nat.le_succ _) _).setCell (Nat.le_succ _) _
  · have hbf : ((tn : Int) == (m : Int)) = false := by simp; omega
    have HDV : Hid (M.Div (c :: f) ys (M.trim (0 :: Q)) (M.trim (c :: R))) := M.horner_short ⟨c0, c1⟩ HD.out (by rw [HO1.out.len, HG.out.len]; have := HTM.out; omega)
    clear hfull
    go_wp2_with fail
    refine (shifted_any 0 _ (HQ.out.below HB1.out) (by omega)).mono ?_
    rintro e w2 ⟨sa, sn, sc, rfl, ho2, hb2⟩
    have HO2 : Hid (Owns 50 w2 w.heap.size sa sn sc (M.trim (0 :: Q))) := ho2.mono HB1.out.size
    have HO12 : Hid (Owns 50 w2 w.heap.size ta tn tc (M.trim (c :: R))) := (HO1.out.below hb2).mono HBa.out.size
    have HNs : Hid (∀ x, sa = some x → x.block ≠ w.heap.size + 1) := fun x hx => by have h := ho2.lo x hx; have h2 := HK1.out.size; have h3 := HSz.out; omega
    have HNt : Hid (∀ x, ta = some x → x.block ≠ w.heap.size + 1) := fun x hx => by have h := HO1.out.lo x hx; have h3 := HSz.out; omega
    have HB2 : Hid (Below w.heap.size w w2) := HB1.out.trans (hb2.mono HB1.out.size)
    have hk2 : Below (w.heap.size + 2) wa w2 := HK1.out.trans (hb2.mono (by rw [← HSz.out]; exact HK1.out.size))
    clear k0 k1 k2 k3 k4 k5
    obtain ⟨k0, k1, k2, k3, k4, k5⟩ := HK.out _ hk2
    clear ho2 hb2 hk2
    go_wp2
    refine bodyPost_ret (v := .agg #[.slice sa sn sc, .slice ta tn tc]) (by simp [results, Try.results62, go_sem, k2, k3]) rfl ⟨sa, sn, sc, ta, tn, tc, _, _, rfl, ?_, ?_, HDV.out, ?_⟩
    · exact (HO2.out.other ⟨w.heap.size + 1, 0, none⟩ HNs.out _).other ⟨w.heap.size + 1, 1, none⟩ HNs.out _
    · exact (HO12.out.other ⟨w.heap.size + 1, 0, none⟩ HNt.out _).other ⟨w.heap.size + 1, 1, none⟩ HNt.out _
    · exact (HB2.out.setCell (Nat.le_succ _) _).setCell (Nat.le_succ _) _
end Go.Proofs.Ytjeoenieoejolag
