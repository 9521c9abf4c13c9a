/- The model's polynomials of a proof: scaled, turned, the one that is nought at the rows. The model's rule of two polynomials, what is left of it, and what is nought at the rows. An honest proof, in the model. An honest proof, in the model, where all is right. -/
import Derived.Test.YtbcfjbkmkknmfaaPfA
import Derived.Test.YtbcfjbkmkknmfaaSlL
import Derived.Test.YtbcfjbkmkknmfaaFieldC
import Derived.Test.YtbcfjbkmkknmfaaRootA
import Derived.Test.YtbcfjbkmkknmfaaMaJ
import Derived.Deep.RegionHeld3
import Derived.Test.YtbcfjbkmkknmfaaPrJ
import Derived.Test.YtbcfjbkmkknmfaaSlM
namespace Go.Proofs.Ytbcfjbkmkknmfaa
open Go.RowKit

namespace M
theorem pm_congr {ys ys' : List Int} (h : ∀ i, ys.getD i 0 = ys'.getD i 0) : ∀ (zs : List Int) (i : Nat), pm zs ys i = pm zs ys' i
  | [], _ => rfl
  | c :: r, i => by unfold pm; rw [h i, pm_congr h r (i - 1)]
theorem pm_one (x : Int) : ∀ (zs : List Int) (i : Nat), pm zs [x] i = zs.getD i 0 * x % 65537
  | [], i => by show (0 : Int) = 0 * x % 65537; simp
  | c :: r, i => by
    unfold pm
    by_cases h0 : i = 0
    · subst h0; simp
    · obtain ⟨j, rfl⟩ := Nat.exists_eq_succ_of_ne_zero h0
      rw [if_neg h0]
      have e1 : [x].getD j.succ 0 = 0 := rfl
      have e2 : (c :: r).getD j.succ 0 = r.getD j 0 := by simp [List.getD_eq_getElem?_getD]
      rw [e1, e2, Nat.succ_sub_one, pm_one x r j]; omega
theorem scale_eq (zs : List Int) (x : Int) : pmul zs (trim [x]) = trim (pscale zs x) := by
  refine neat_ext (neat_pmul _ _) (neat_trim _) fun i => ?_
  rw [pmul_getD, getD_trim, pscale_getD, pm_congr (fun i => getD_trim [x] i), pm_one]
end M
theorem seesA_one (v : World) (b : Int) (t : TypeId) : Sees (v.alloc (.cells #[Value.int .i64 b] t)) (some ⟨v.heap.size, 0, none⟩) 1 1 [b] := by
  refine ⟨rfl, Nat.le_refl _, by omega, (fun h => by cases h), .inr ⟨v.heap.size, 0, rfl, fun i hi => ?_⟩⟩
  have h0 : i = 0 := by omega
  subst h0
  rw [World.cell?_alloc_new]; rfl
theorem seesA_two (v : World) (b c : Int) (t : TypeId) : Sees (v.alloc (.cells #[Value.int .i64 b, Value.int .i64 c] t)) (some ⟨v.heap.size, 0, none⟩) 2 2 [b, c] := by
  refine ⟨rfl, Nat.le_refl _, by omega, (fun h => by cases h), .inr ⟨v.heap.size, 0, rfl, fun i hi => ?_⟩⟩
  have h0 : i = 0 ∨ i = 1 := by omega
  rcases h0 with h0 | h0 <;> subst h0 <;> rw [World.cell?_alloc_new] <;> rfl
set_option maxHeartbeats 1000000 in
theorem scale_any {a : Option Addr} {n c : Nat} {zs : List Int} (x : Int) (w : World) (hz : Sees w a n c zs) (ha : M.allEl zs = true) (hn : n ≤ 20000) (x0 : 0 ≤ x) (x1 : x < 65537) :
    Calls Try.prog 47 #[.slice a n c, .int .i64 x] w fun e w' => ∃ a' l c', e = .returned (.slice a' l c') ∧ Owns 2 w' w.heap.size a' l c' (M.trim (M.pscale zs x)) ∧ Below w.heap.size w w' := by
  have HZ : Hid (Sees w a n c zs) := hz
  have HA : Hid (M.allEl zs = true) := ha
  have HS : Hid (Sees (w.alloc (.cells #[Value.int .i64 x] 2)) (some ⟨w.heap.size, 0, none⟩) 1 1 [x]) := seesA_one w x _
  have HB : Hid (Below w.heap.size w (w.alloc (.cells #[Value.int .i64 x] 2))) := (Below.refl _ _).alloc (Nat.le_refl _) _
  have HX : Hid (M.allEl (M.trim [x]) = true) := M.all_trim (M.all_cons ⟨x0, x1⟩ rfl)
  have HE : Hid (M.pmul zs (M.trim [x]) = M.trim (M.pscale zs x)) := M.scale_eq zs x
  clear hz ha
  go_enter Try.func47, Try.ntmps47
  go_wp2_with fail
  refine (l2Trim_any _ HS.out (by omega)).mono ?_
  rintro e w1 ⟨a1, l1, c1, rfl, ho1, hb1⟩
  have hl1 : l1 ≤ 1 := by have h := M.len_trim [x]; rw [ho1.len] at h; exact h
  have HO1 : Hid (Owns 2 w1 w.heap.size a1 l1 c1 (M.trim [x])) := ho1.mono HB.out.size
  have HB1 : Hid (Below w.heap.size w w1) := HB.out.trans (hb1.mono HB.out.size)
  clear ho1 hb1
  go_wp2_with fail
  refine (l2Mul_any _ (HZ.out.below HB1.out) HO1.out.sees HA.out HX.out hn (by omega)).mono ?_
  rintro e w2 ⟨a2, l2, c2, rfl, ho2, hb2⟩
  have HO2 : Hid (Owns 2 w2 w.heap.size a2 l2 c2 (M.trim (M.pscale zs x))) := by show Owns _ _ _ _ _ _ _; rw [← HE.out]; exact ho2.mono HB1.out.size
  have HB2 : Hid (Below w.heap.size w w2) := HB1.out.trans (hb2.mono HB1.out.size)
  clear ho2 hb2
  go_wp2
  go_ret
  exact ⟨a2, l2, c2, rfl, HO2.out, HB2.out⟩
theorem M.turn_pow (g : Int) (k : Nat) : g ^ k % 65537 * g % 65537 = g ^ (k + 1) % 65537 := by
  rw [Int.pow_succ, M.mL]
set_option maxHeartbeats 2000000 in
theorem l6Turn_any {a : Option Addr} {n c : Nat} {zs : List Int} (g : Int) (w : World) (hz : Sees w a n c zs) (ha : M.allEl zs = true) (hn : n ≤ 128) (g0 : 0 ≤ g) (g1 : g < 65537) :
    Calls Try.prog 46 #[.slice a n c, .int .i64 g] w fun e w' => ∃ a' l c', e = .returned (.slice a' l c') ∧ Owns 2 w' w.heap.size a' l c' (M.turn zs g) ∧ Below w.heap.size w w' := by
  have HZ : Hid (Sees w a n c zs) := hz
  have HA : Hid (M.allEl zs = true) := ha
  have HL : Hid (zs.length = n) := hz.len
  obtain ⟨i0, hi, hz0, hz1, hz2⟩ := info_parts info_i64
  have HI : Hid (Try.prog.info? 2 = some i0 ∧ i0.zero = some (Value.int .i64 0) ∧ i0.size = 1 ∧ i0.bytes = 8) := ⟨hi, hz0, hz1, hz2⟩
  have HT : Hid (∀ k, M.tab k (fun i => zs.getD i 0 * (g ^ i % 65537) % 65537) ++ [zs.getD k 0 * (g ^ k % 65537) % 65537] = M.tab (k + 1) (fun i => zs.getD i 0 * (g ^ i % 65537) % 65537)) := fun k => M.tab_snoc k _
  have HE : Hid (M.trim (M.tab n (fun i => zs.getD i 0 * (g ^ i % 65537) % 65537)) = M.turn zs g) := by show _ = _; unfold M.turn; rw [hz.len]
  generalize hTT : (fun i => zs.getD i 0 * (g ^ i % 65537) % 65537) = TT at HT HE
  have HTT : Hid (∀ k, zs.getD k 0 * (g ^ k % 65537) % 65537 = TT k) := fun k => by rw [← hTT]
  have HP : Hid (∀ k, g ^ k % 65537 * g % 65537 = g ^ (k + 1) % 65537) := M.turn_pow g
  have HP0 : Hid (g ^ 0 % 65537 = 1) := by show _ = _; rw [Int.pow_zero]; rfl
  generalize hPP : (fun k : Nat => g ^ k % 65537) = PP
  have HPP : Hid (∀ k, g ^ k % 65537 = PP k) := fun k => by rw [← hPP]
  have HPB : Hid (∀ k, 0 ≤ PP k ∧ PP k < 65537) := fun k => by rw [← HPP.out k]; omega
  simp only [HPP.out] at HT HTT HP HP0
  clear hz ha hi hz0 hz1 hz2 hTT hPP HPP
  go_enter Try.func46, Try.ntmps46
  go_wp2
  go_loopw [5, 6, 7] (fun s x i wr => ∃ (k : Nat) (a' : Option Addr) (cap' : Nat), k ≤ n ∧ i = .int .i64 k ∧ x = .int .i64 (PP k) ∧ s = .slice a' k cap' ∧ Owns 2 wr w.heap.size a' k cap' (M.tab k TT) ∧ Below w.heap.size w wr) (fun _ _ i _ => n - (intOf i).toNat)
  case atStart =>
    refine ⟨0, _, _, by omega, rfl, by rw [HP0.out], rfl, ?_, ?_⟩
    · exact World.ownsRow_made w #[] 0 (Nat.le_refl _) (by unfold maxLen; omega) rfl
    · exact (Below.refl _ _).alloc (Nat.le_refl _) _
  case round =>
    obtain ⟨k, a', cap', hk, rfl, rfl, rfl, ho1, hb1⟩ := hrel
    have HO1 : Hid (Owns 2 wr w.heap.size a' k cap' (M.tab k TT)) := ho1
    have HB1 : Hid (Below w.heap.size w wr) := hb1
    clear ho1 hb1
    by_cases hlt : k < n
    · obtain ⟨b1, o1, rfl, hc1⟩ := (HZ.out.below HB1.out).at (by omega)
      have e1 := hc1 k hlt
      have hb := M.el_at HA.out k
      have hI : (k : Int) < (n : Int) := by omega
      have HTk := HTT.out k
      have HSk : Hid (M.tab k TT ++ [TT k] = M.tab (k + 1) TT) := by have := HT.out k; rw [HTk] at this; exact this
      have HPk := HP.out k
      obtain ⟨q0, q1⟩ := HPB.out k
      generalize zs.getD k 0 = z at e1 hb HTk
      generalize hPEq : PP (k + 1) = p' at HPk
      have HPEq := hPEq
      generalize PP k = p at HPk HTk q0 q1
      generalize TT k = tk at HTk HSk
      obtain ⟨z0, z1⟩ := hb
      obtain ⟨m0, m1⟩ := M.mul_bd z0 z1 q0 q1
      obtain ⟨m2, m3⟩ := M.mul_bd q0 q1 g0 g1
      have HTk' : Hid (z * p % 65537 = tk) := HTk
      have HPk' : Hid (p * g % 65537 = p') := HPk
      have HPE : Hid (PP (k + 1) = p') := HPEq
      clear hc1 HTk HPk HPEq hPEq
      go_wp2_with (at_builtin; refine wpList_append_own _ rfl _ _ 29 rfl w.heap.size 2 i0 (.int .i64 0) 1 8 Try.underlying29 HI.out.1 HI.out.2.1 HI.out.2.2.1 HI.out.2.2.2 rfl (by decide) _ k ((M.tab k TT).map (Value.int .i64)) rfl (World.ownsRow.alloc HO1.out _) ⟨wr.heap.size, 0, none⟩ 1 1 [.int .i64 (z * p % 65537)] rfl rfl (cell_one _ _ _) (one_int _) (by unfold maxLen; omega) (by omega) (by have := HB1.out.size; simp; omega) ?_)
      intro v' w4 hown hgrow _
      rw [HTk'.out] at hown
      have hown' : w4.ownsRow w.heap.size 2 1 v' (k + 1) ((M.tab (k + 1) TT).map (Value.int .i64)) := by rw [← HSk.out, List.map_append]; exact hown
      obtain ⟨b4, c4, rfl, ho4⟩ := Owns.form hown'
      have HO4 : Hid (Owns 2 w4 w.heap.size b4 (k + 1) c4 (M.tab (k + 1) TT)) := ho4
      have HB4 : Hid (Below w.heap.size w w4) := (HB1.out.alloc HB1.out.size _).grown hgrow (by have := HB1.out.size; simp; omega) HO1.out.row
      clear hown hown' hgrow ho4
      go_wp2
      go_roundw
      case rel => exact ⟨k + 1, b4, c4, by omega, by go_num, by rw [HPE.out, ← HPk'.out], rfl, HO4.out, HB4.out⟩
      case measure => simp [intOf]; omega
    · have hkn : k = n := by omega
      subst hkn
      go_wp2_with fail
      refine (l2Trim_any _ HO1.out.sees (by omega)).mono ?_
      rintro e w2 ⟨a2, l2, c2, rfl, ho2, hb2⟩
      have HO2 : Hid (Owns 2 w2 w.heap.size a2 l2 c2 (M.turn zs g)) := by show Owns _ _ _ _ _ _ _; rw [← HE.out]; exact ho2.mono HB1.out.size
      have HB2 : Hid (Below w.heap.size w w2) := HB1.out.trans (hb2.mono HB1.out.size)
      clear ho2 hb2
      go_wp2
      go_ret
      exact ⟨a2, l2, c2, rfl, HO2.out, HB2.out⟩
end Go.Proofs.Ytbcfjbkmkknmfaa
namespace Go.Proofs.Ytbcfjbkmkknmfaa
open Go.RowKit

set_option maxHeartbeats 2000000 in
theorem l6Zero_any (N : Nat) (w : World) (h0 : 0 < N) (hN : N ≤ 1000) :
    Calls Try.prog 19 #[.int .i64 N] w fun e w' => ∃ a' c', e = .returned (.slice a' (N + 1) c') ∧ Owns 2 w' w.heap.size a' (N + 1) c' (M.zeroL N) ∧ Below w.heap.size w w' := by
  obtain ⟨i0, hi, hz0, hz1, hz2⟩ := info_parts info_i64
  have HE : Hid (((List.replicate (N + 1) (0 : Int)).set 0 65536).set N 1 = M.zeroL N) := rfl
  have hI0 : (0 : Int) < (N : Int) := by omega
  have hI1 : (N : Int) ≤ 1000 := by omega
  have hc0 : (0 : Int) < ((N + 1 : Nat) : Int) := by omega
  have hc1 : (N : Int) < ((N + 1 : Nat) : Int) := by omega
  go_enter Try.func19, Try.ntmps19
  go_wp2_with (at_make; refine wpList_make_full _ rfl _ _ 29 rfl w.heap.size 2 i0 (.int .i64 0) 1 Try.underlying29 hi hz0 hz1 .i64 .i64 _ _ (N + 1) rfl rfl (by omega) (by omega) (by rw [hz2]; omega) (by unfold maxLen; omega) (Nat.le_refl _) ?_)
  intro w1 hown hg
  have HO : Hid (Owns 2 w1 w.heap.size (some ⟨w.heap.size, 0, none⟩) (N + 1) (N + 1) (List.replicate (N + 1) 0)) := by
    show w1.ownsRow _ _ _ _ _ _
    rw [made_ints] at hown; exact hown
  have HB : Hid (Below w.heap.size w w1) := below_grown hg
  obtain ⟨g, hge, -, -, hc, hf⟩ := HO.out.block (by omega)
  simp only [Option.some.injEq, Addr.mk.injEq, and_true] at hge
  have c0 := hc 0 (by omega)
  have f0 := hf 0
  have cN := hc N (by omega)
  have fN := hf N
  rw [← hge] at c0 f0 cN fN
  rw [M.replicate_getD] at c0 cN
  clear hown hg hi hz0 hz1 hz2 hc hf hge
  have HO2 : Hid (Owns 2 ((w1.setCell ⟨w.heap.size, 0, none⟩ (.int .i64 65536)).setCell ⟨w.heap.size, N, none⟩ (.int .i64 1)) w.heap.size (some ⟨w.heap.size, 0, none⟩) (N + 1) (N + 1) (M.zeroL N)) := (HO.out.set 0 65536).set N 1
  have HB2 : Hid (Below w.heap.size w ((w1.setCell ⟨w.heap.size, 0, none⟩ (.int .i64 65536)).setCell ⟨w.heap.size, N, none⟩ (.int .i64 1))) := (HB.out.setCell (Nat.le_refl _) _).setCell (Nat.le_refl _) _
  go_wp2
  go_ret
  exact ⟨_, _, rfl, HO2.out, HB2.out⟩
set_option maxHeartbeats 8000000 in
set_option maxRecDepth 10000 in
theorem l6Rule_any {xa ya : Option Addr} {xl xc yl yc : Nat} {xs ys : List Int} (r : M.Rl) (w : World) (hr : r.ok = true) (hx : Sees w xa xl xc xs) (hy : Sees w ya yl yc ys) (ax : M.allEl xs = true) (ay : M.allEl ys = true) (lx : xl ≤ 100) (ly : yl ≤ 100) :
    Calls Try.prog 18 #[rlv r, .slice xa xl xc, .slice ya yl yc] w fun e w' => ∃ a' l c', e = .returned (.slice a' l c') ∧ l ≤ 301 ∧ Owns 2 w' w.heap.size a' l c' (M.rl r xs ys) ∧ Below w.heap.size w w' := by
  obtain ⟨hc0, hc1, hc2, hc3, hc4, hc5⟩ := M.rl_bd hr
  obtain ⟨ra, rb, rc, rd, re, rk⟩ := r
  dsimp only [rlv] at hc0 hc1 hc2 hc3 hc4 hc5 ⊢
  unfold M.rl
  have HXa : Hid (M.allEl xs = true) := ax
  have HYa : Hid (M.allEl ys = true) := ay
  have HXn : Hid (xs.length ≤ 100) := by show _ ≤ _; rw [hx.len]; exact lx
  have HYn : Hid (ys.length ≤ 100) := by show _ ≤ _; rw [hy.len]; exact ly
  have HXl : xl ≤ 20000 := by omega
  have HYl : yl ≤ 20000 := by omega
  have HB0 : Hid (Below w.heap.size w (w.alloc (.cells #[.int .i64 ra, .int .i64 rb, .int .i64 rc, .int .i64 rd, .int .i64 re, .int .i64 rk] 34))) := (Below.refl _ _).alloc (Nat.le_refl _) _
  have HR0 : Hid (Lies (w.alloc (.cells #[.int .i64 ra, .int .i64 rb, .int .i64 rc, .int .i64 rd, .int .i64 re, .int .i64 rk] 34)) w.heap.size [.int .i64 ra, .int .i64 rb, .int .i64 rc, .int .i64 rd, .int .i64 re, .int .i64 rk]) := lies_new _ _ _
  have HX0 : Hid (Sees (w.alloc (.cells #[.int .i64 ra, .int .i64 rb, .int .i64 rc, .int .i64 rd, .int .i64 re, .int .i64 rk] 34)) xa xl xc xs) := hx.below HB0.out
  have HY0 : Hid (Sees (w.alloc (.cells #[.int .i64 ra, .int .i64 rb, .int .i64 rc, .int .i64 rd, .int .i64 re, .int .i64 rk] 34)) ya yl yc ys) := hy.below HB0.out
  clear hr hx hy ax ay
  go_enter Try.func18, Try.ntmps18
  go_wp2
  generalize w.alloc (.cells #[.int .i64 ra, .int .i64 rb, .int .i64 rc, .int .i64 rd, .int .i64 re, .int .i64 rk] 34) = wq at HB0 HR0 HX0 HY0 ⊢
  have HX : Hid (Sees wq xa xl xc xs) := HX0.out
  have HY : Hid (Sees wq ya yl yc ys) := HY0.out
  have HR : Hid (Lies wq w.heap.size [.int .i64 ra, .int .i64 rb, .int .i64 rc, .int .i64 rd, .int .i64 re, .int .i64 rk]) := HR0.out
  have HBq : Hid (Below w.heap.size w wq) := HB0.out
  clear HB0 HR0 HX0 HY0
  refine wp_region_noPanic ?_
  refine wp_region_held_drew (S := fun W => wq.grownBy W none) (by kernel_rfl) (grown_drew _ _) (fun hHeld => ?_)
  generalize wq.drew = wd0 at hHeld ⊢
  refine wpAnyH_take (i := 0) (v := .slice xa xl xc) rfl (by kernel_rfl) (by kernel_rfl) (by kernel_rfl) (fun _ _ _ h => h) (Or.inl ⟨by kernel_rfl, ?_⟩) (by assumption) ?_
  · intro wq hSq; go_simp
  try simp only [Act.put]
  refine wpAnyH_take (i := 1) (v := .slice xa xl xc) rfl (by kernel_rfl) (by kernel_rfl) (by kernel_rfl) (fun _ _ _ h => h) (Or.inl ⟨by kernel_rfl, ?_⟩) (by assumption) ?_
  · intro wq hSq; go_simp
  try simp only [Act.put]
  refine wpAnyH_take (i := 3) (v := .pointer (some ⟨w.heap.size, 0, none⟩)) rfl (by kernel_rfl) (by kernel_rfl) (by kernel_rfl) (fun _ _ _ h => h) (Or.inl ⟨by kernel_rfl, ?_⟩) (by assumption) ?_
  · intro wq hSq; go_simp
  try simp only [Act.put]
  refine wpAnyH_take (i := 4) (v := .int .i64 ra) rfl (by kernel_rfl) (by kernel_rfl) (by kernel_rfl) (fun _ _ _ h => h) (Or.inl ⟨by kernel_rfl, ?_⟩) (by assumption) ?_
  · intro wp hSp; have c0 : wp.cell? ⟨w.heap.size, 0, none⟩ = some (.int .i64 ra) := (HR.out.grown hSp (by simp)).at 0; go_simp
  try simp only [Act.put]
  refine wpAnyH_ready (rs := [2]) (by kernel_rfl) (by simp) ?_
  refine AllReadyH.cons rfl (fun Kk hK => ?_) AllReadyH.nil
  go_simp
  refine (l2Mul_any _ (HX.out.grownR hHeld (by simp)) (HX.out.grownR hHeld (by simp)) HXa.out HXa.out HXl HXl).mono ?_
  rintro e w3 ⟨ma, ml, mc, rfl, ho3, hb3⟩
  go_simp
  have hS3 : wq.grownBy w3 none := grown_step hHeld hb3
  have HM3 : Hid (Owns 2 w3 wd0.heap.size ma ml mc (M.pmul xs xs)) := ho3
  have hml : ml ≤ 300 := by have h1 := ho3.len; have h2 := M.pmul_len xs xs; have := HXn.out; have := HXn.out; rw [show (M.pmul xs xs) = M.pmul xs xs from rfl] at h1; omega
  refine hK.out _ _ hS3 (fun _ => ?_)
  clear hK Kk hb3
  clear ho3
  try simp only [Act.put]
  refine wpAnyH_ready (rs := [5]) (by kernel_rfl) (by simp) ?_
  refine AllReadyH.cons rfl (fun Kk hK => ?_) AllReadyH.nil
  go_simp
  refine (scale_any _ _ HM3.out.sees (M.all_pmul _ _) (by omega) hc0.1 hc0.2).mono ?_
  rintro e w4 ⟨ka, kl, kc, rfl, ho4, hb4⟩
  go_simp
  have hS4 : wq.grownBy w4 none := grown_step hS3 hb4
  have HK4 : Hid (Owns 2 w4 w3.heap.size ka kl kc (M.trim (M.pscale (M.pmul xs xs) ra))) := ho4
  have hkl : kl ≤ 300 := by have h1 := ho4.len; have h2 := M.len_pscale_trim (M.pmul xs xs) ra; have h3 := HM3.out.len; omega
  refine hK.out _ _ hS4 (fun _ => ?_)
  clear hK Kk hb4
  clear ho4
  try simp only [Act.put]
  refine wpAnyH_take (i := 6) (v := .slice ka kl kc) rfl (by kernel_rfl) (by kernel_rfl) (by kernel_rfl) (fun _ _ _ h => h) (Or.inl ⟨by kernel_rfl, ?_⟩) (by assumption) ?_
  · intro wq hSq; go_simp
  try simp only [Act.put]
  refine wpAnyH_done (by kernel_rfl) ?_ _
  refine NoPanic.normal ?_
  go_simp
  have HX2 : Hid (Sees w4 xa xl xc xs) := HX.out.grownR hS4 (by simp)
  have HY2 : Hid (Sees w4 ya yl yc ys) := HY.out.grownR hS4 (by simp)
  have HR2 : Hid (Lies w4 w.heap.size [.int .i64 ra, .int .i64 rb, .int .i64 rc, .int .i64 rd, .int .i64 re, .int .i64 rk]) := HR.out.grown hS4 (by simp)
  have HB2 : Hid (Below w.heap.size w w4) := HBq.out.grown hS4 HBq.out.size (by simp)
  have HS2 : Hid (Owns 2 w4 w.heap.size ka kl kc (M.trim (M.pscale (M.pmul xs xs) ra))) := (HK4.out.mono (Nat.le_trans HBq.out.size hS3.size))
  clear HX HY HR HBq hHeld hS3 hS4 HM3 HK4 hml
  go_wp2
  generalize w4 = wq at HX2 HY2 HR2 HB2 HS2 ⊢
  generalize ka = sa at HS2 ⊢
  generalize kc = sc at HS2 ⊢
  generalize kl = sl at HS2 hkl ⊢
  have HX : Hid (Sees wq xa xl xc xs) := HX2.out
  have HY : Hid (Sees wq ya yl yc ys) := HY2.out
  have HR : Hid (Lies wq w.heap.size [.int .i64 ra, .int .i64 rb, .int .i64 rc, .int .i64 rd, .int .i64 re, .int .i64 rk]) := HR2.out
  have HBq : Hid (Below w.heap.size w wq) := HB2.out
  have HSm : Hid (Sees wq sa sl sc (M.trim (M.pscale (M.pmul xs xs) ra))) := HS2.out.sees
  have HSa : Hid (M.allEl (M.trim (M.pscale (M.pmul xs xs) ra)) = true) := M.all_trim (M.all_pscale _ _)
  have hsl : sl ≤ 300 := hkl
  clear HX2 HY2 HR2 HB2 HS2
  refine wp_region_noPanic ?_
  refine wp_region_held_drew (S := fun W => wq.grownBy W none) (by kernel_rfl) (grown_drew _ _) (fun hHeld => ?_)
  generalize wq.drew = wd0 at hHeld ⊢
  refine wpAnyH_take (i := 0) (v := .slice sa sl sc) rfl (by kernel_rfl) (by kernel_rfl) (by kernel_rfl) (fun _ _ _ h => h) (Or.inl ⟨by kernel_rfl, ?_⟩) (by assumption) ?_
  · intro wq hSq; go_simp
  try simp only [Act.put]
  refine wpAnyH_take (i := 1) (v := .slice xa xl xc) rfl (by kernel_rfl) (by kernel_rfl) (by kernel_rfl) (fun _ _ _ h => h) (Or.inl ⟨by kernel_rfl, ?_⟩) (by assumption) ?_
  · intro wq hSq; go_simp
  try simp only [Act.put]
  refine wpAnyH_take (i := 2) (v := .slice ya yl yc) rfl (by kernel_rfl) (by kernel_rfl) (by kernel_rfl) (fun _ _ _ h => h) (Or.inl ⟨by kernel_rfl, ?_⟩) (by assumption) ?_
  · intro wq hSq; go_simp
  try simp only [Act.put]
  refine wpAnyH_take (i := 4) (v := .pointer (some ⟨w.heap.size, 1, none⟩)) rfl (by kernel_rfl) (by kernel_rfl) (by kernel_rfl) (fun _ _ _ h => h) (Or.inl ⟨by kernel_rfl, ?_⟩) (by assumption) ?_
  · intro wq hSq; go_simp
  try simp only [Act.put]
  refine wpAnyH_take (i := 5) (v := .int .i64 rb) rfl (by kernel_rfl) (by kernel_rfl) (by kernel_rfl) (fun _ _ _ h => h) (Or.inl ⟨by kernel_rfl, ?_⟩) (by assumption) ?_
  · intro wp hSp; have c0 : wp.cell? ⟨w.heap.size, 1, none⟩ = some (.int .i64 rb) := (HR.out.grown hSp (by simp)).at 1; go_simp
  try simp only [Act.put]
  refine wpAnyH_ready (rs := [3]) (by kernel_rfl) (by simp) ?_
  refine AllReadyH.cons rfl (fun Kk hK => ?_) AllReadyH.nil
  go_simp
  refine (l2Mul_any _ (HX.out.grownR hHeld (by simp)) (HY.out.grownR hHeld (by simp)) HXa.out HYa.out HXl HYl).mono ?_
  rintro e w3 ⟨ma, ml, mc, rfl, ho3, hb3⟩
  go_simp
  have hS3 : wq.grownBy w3 none := grown_step hHeld hb3
  have HM3 : Hid (Owns 2 w3 wd0.heap.size ma ml mc (M.pmul xs ys)) := ho3
  have hml : ml ≤ 300 := by have h1 := ho3.len; have h2 := M.pmul_len xs ys; have := HXn.out; have := HYn.out; rw [show (M.pmul xs ys) = M.pmul xs ys from rfl] at h1; omega
  refine hK.out _ _ hS3 (fun _ => ?_)
  clear hK Kk hb3
  clear ho3
  try simp only [Act.put]
  refine wpAnyH_ready (rs := [6]) (by kernel_rfl) (by simp) ?_
  refine AllReadyH.cons rfl (fun Kk hK => ?_) AllReadyH.nil
  go_simp
  refine (scale_any _ _ HM3.out.sees (M.all_pmul _ _) (by omega) hc1.1 hc1.2).mono ?_
  rintro e w4 ⟨ka, kl, kc, rfl, ho4, hb4⟩
  go_simp
  have hS4 : wq.grownBy w4 none := grown_step hS3 hb4
  have HK4 : Hid (Owns 2 w4 w3.heap.size ka kl kc (M.trim (M.pscale (M.pmul xs ys) rb))) := ho4
  have hkl : kl ≤ 300 := by have h1 := ho4.len; have h2 := M.len_pscale_trim (M.pmul xs ys) rb; have h3 := HM3.out.len; omega
  refine hK.out _ _ hS4 (fun _ => ?_)
  clear hK Kk hb4
  clear ho4
  try simp only [Act.put]
  refine wpAnyH_ready (rs := [7]) (by kernel_rfl) (by simp) ?_
  refine AllReadyH.cons rfl (fun Kk hK => ?_) AllReadyH.nil
  go_simp
  refine (l2Add_any _ (HSm.out.grownR hS4 (by simp)) HK4.out.sees HSa.out (M.all_trim (M.all_pscale _ _)) (by omega) (by omega)).mono ?_
  rintro e w5 ⟨na, nl, nc, rfl, ho5, hb5⟩
  go_simp
  have hS5 : wq.grownBy w5 none := grown_step hS4 hb5
  have HN5 : Hid (Owns 2 w5 w.heap.size na nl nc (M.trim (M.padd (M.trim (M.pscale (M.pmul xs xs) ra)) (M.trim (M.pscale (M.pmul xs ys) rb))))) := ho5.mono (Nat.le_trans HBq.out.size hS4.size)
  have hnl : nl ≤ 300 := by have h1 := ho5.len; have h2 := M.len_padd_trim (M.trim (M.pscale (M.pmul xs xs) ra)) (M.trim (M.pscale (M.pmul xs ys) rb)); have h3 := HK4.out.len; have h4 := HSm.out.len; omega
  refine hK.out _ _ hS5 (fun _ => ?_)
  clear hK Kk hb5
  clear ho5
  try simp only [Act.put]
  refine wpAnyH_take (i := 8) (v := .slice na nl nc) rfl (by kernel_rfl) (by kernel_rfl) (by kernel_rfl) (fun _ _ _ h => h) (Or.inl ⟨by kernel_rfl, ?_⟩) (by assumption) ?_
  · intro wq hSq; go_simp
  try simp only [Act.put]
  refine wpAnyH_done (by kernel_rfl) ?_ _
  refine NoPanic.normal ?_
  go_simp
  have HX2 : Hid (Sees w5 xa xl xc xs) := HX.out.grownR hS5 (by simp)
  have HY2 : Hid (Sees w5 ya yl yc ys) := HY.out.grownR hS5 (by simp)
  have HR2 : Hid (Lies w5 w.heap.size [.int .i64 ra, .int .i64 rb, .int .i64 rc, .int .i64 rd, .int .i64 re, .int .i64 rk]) := HR.out.grown hS5 (by simp)
  have HB2 : Hid (Below w.heap.size w w5) := HBq.out.grown hS5 HBq.out.size (by simp)
  have HS2 : Hid (Owns 2 w5 w.heap.size na nl nc (M.trim (M.padd (M.trim (M.pscale (M.pmul xs xs) ra)) (M.trim (M.pscale (M.pmul xs ys) rb))))) := HN5.out
  clear HX HY HR HBq hHeld hS3 hS4 hS5 HM3 HK4 HN5 HSm HSa hml hkl hsl
  go_wp2
  generalize w5 = wq at HX2 HY2 HR2 HB2 HS2 ⊢
  generalize na = sa at HS2 ⊢
  generalize nc = sc at HS2 ⊢
  generalize nl = sl at HS2 hnl ⊢
  have HX : Hid (Sees wq xa xl xc xs) := HX2.out
  have HY : Hid (Sees wq ya yl yc ys) := HY2.out
  have HR : Hid (Lies wq w.heap.size [.int .i64 ra, .int .i64 rb, .int .i64 rc, .int .i64 rd, .int .i64 re, .int .i64 rk]) := HR2.out
  have HBq : Hid (Below w.heap.size w wq) := HB2.out
  have HSm : Hid (Sees wq sa sl sc (M.trim (M.padd (M.trim (M.pscale (M.pmul xs xs) ra)) (M.trim (M.pscale (M.pmul xs ys) rb))))) := HS2.out.sees
  have HSa : Hid (M.allEl (M.trim (M.padd (M.trim (M.pscale (M.pmul xs xs) ra)) (M.trim (M.pscale (M.pmul xs ys) rb)))) = true) := M.all_trim (M.all_padd _ _)
  have hsl : sl ≤ 300 := hnl
  clear HX2 HY2 HR2 HB2 HS2
  refine wp_region_noPanic ?_
  refine wp_region_held_drew (S := fun W => wq.grownBy W none) (by kernel_rfl) (grown_drew _ _) (fun hHeld => ?_)
  generalize wq.drew = wd0 at hHeld ⊢
  refine wpAnyH_take (i := 0) (v := .slice sa sl sc) rfl (by kernel_rfl) (by kernel_rfl) (by kernel_rfl) (fun _ _ _ h => h) (Or.inl ⟨by kernel_rfl, ?_⟩) (by assumption) ?_
  · intro wq hSq; go_simp
  try simp only [Act.put]
  refine wpAnyH_take (i := 1) (v := .slice ya yl yc) rfl (by kernel_rfl) (by kernel_rfl) (by kernel_rfl) (fun _ _ _ h => h) (Or.inl ⟨by kernel_rfl, ?_⟩) (by assumption) ?_
  · intro wq hSq; go_simp
  try simp only [Act.put]
  refine wpAnyH_take (i := 2) (v := .slice ya yl yc) rfl (by kernel_rfl) (by kernel_rfl) (by kernel_rfl) (fun _ _ _ h => h) (Or.inl ⟨by kernel_rfl, ?_⟩) (by assumption) ?_
  · intro wq hSq; go_simp
  try simp only [Act.put]
  refine wpAnyH_take (i := 4) (v := .pointer (some ⟨w.heap.size, 2, none⟩)) rfl (by kernel_rfl) (by kernel_rfl) (by kernel_rfl) (fun _ _ _ h => h) (Or.inl ⟨by kernel_rfl, ?_⟩) (by assumption) ?_
  · intro wq hSq; go_simp
  try simp only [Act.put]
  refine wpAnyH_take (i := 5) (v := .int .i64 rc) rfl (by kernel_rfl) (by kernel_rfl) (by kernel_rfl) (fun _ _ _ h => h) (Or.inl ⟨by kernel_rfl, ?_⟩) (by assumption) ?_
  · intro wp hSp; have c0 : wp.cell? ⟨w.heap.size, 2, none⟩ = some (.int .i64 rc) := (HR.out.grown hSp (by simp)).at 2; go_simp
  try simp only [Act.put]
  refine wpAnyH_ready (rs := [3]) (by kernel_rfl) (by simp) ?_
  refine AllReadyH.cons rfl (fun Kk hK => ?_) AllReadyH.nil
  go_simp
  refine (l2Mul_any _ (HY.out.grownR hHeld (by simp)) (HY.out.grownR hHeld (by simp)) HYa.out HYa.out HYl HYl).mono ?_
  rintro e w3 ⟨ma, ml, mc, rfl, ho3, hb3⟩
  go_simp
  have hS3 : wq.grownBy w3 none := grown_step hHeld hb3
  have HM3 : Hid (Owns 2 w3 wd0.heap.size ma ml mc (M.pmul ys ys)) := ho3
  have hml : ml ≤ 300 := by have h1 := ho3.len; have h2 := M.pmul_len ys ys; have := HYn.out; have := HYn.out; rw [show (M.pmul ys ys) = M.pmul ys ys from rfl] at h1; omega
  refine hK.out _ _ hS3 (fun _ => ?_)
  clear hK Kk hb3
  clear ho3
  try simp only [Act.put]
  refine wpAnyH_ready (rs := [6]) (by kernel_rfl) (by simp) ?_
  refine AllReadyH.cons rfl (fun Kk hK => ?_) AllReadyH.nil
  go_simp
  refine (scale_any _ _ HM3.out.sees (M.all_pmul _ _) (by omega) hc2.1 hc2.2).mono ?_
  rintro e w4 ⟨ka, kl, kc, rfl, ho4, hb4⟩
  go_simp
  have hS4 : wq.grownBy w4 none := grown_step hS3 hb4
  have HK4 : Hid (Owns 2 w4 w3.heap.size ka kl kc (M.trim (M.pscale (M.pmul ys ys) rc))) := ho4
  have hkl : kl ≤ 300 := by have h1 := ho4.len; have h2 := M.len_pscale_trim (M.pmul ys ys) rc; have h3 := HM3.out.len; omega
  refine hK.out _ _ hS4 (fun _ => ?_)
  clear hK Kk hb4
  clear ho4
  try simp only [Act.put]
  refine wpAnyH_ready (rs := [7]) (by kernel_rfl) (by simp) ?_
  refine AllReadyH.cons rfl (fun Kk hK => ?_) AllReadyH.nil
  go_simp
  refine (l2Add_any _ (HSm.out.grownR hS4 (by simp)) HK4.out.sees HSa.out (M.all_trim (M.all_pscale _ _)) (by omega) (by omega)).mono ?_
  rintro e w5 ⟨na, nl, nc, rfl, ho5, hb5⟩
  go_simp
  have hS5 : wq.grownBy w5 none := grown_step hS4 hb5
  have HN5 : Hid (Owns 2 w5 w.heap.size na nl nc (M.trim (M.padd (M.trim (M.padd (M.trim (M.pscale (M.pmul xs xs) ra)) (M.trim (M.pscale (M.pmul xs ys) rb)))) (M.trim (M.pscale (M.pmul ys ys) rc))))) := ho5.mono (Nat.le_trans HBq.out.size hS4.size)
  have hnl : nl ≤ 300 := by have h1 := ho5.len; have h2 := M.len_padd_trim (M.trim (M.padd (M.trim (M.pscale (M.pmul xs xs) ra)) (M.trim (M.pscale (M.pmul xs ys) rb)))) (M.trim (M.pscale (M.pmul ys ys) rc)); have h3 := HK4.out.len; have h4 := HSm.out.len; omega
  refine hK.out _ _ hS5 (fun _ => ?_)
  clear hK Kk hb5
  clear ho5
  try simp only [Act.put]
  refine wpAnyH_take (i := 8) (v := .slice na nl nc) rfl (by kernel_rfl) (by kernel_rfl) (by kernel_rfl) (fun _ _ _ h => h) (Or.inl ⟨by kernel_rfl, ?_⟩) (by assumption) ?_
  · intro wq hSq; go_simp
  try simp only [Act.put]
  refine wpAnyH_done (by kernel_rfl) ?_ _
  refine NoPanic.normal ?_
  go_simp
  have HX2 : Hid (Sees w5 xa xl xc xs) := HX.out.grownR hS5 (by simp)
  have HY2 : Hid (Sees w5 ya yl yc ys) := HY.out.grownR hS5 (by simp)
  have HR2 : Hid (Lies w5 w.heap.size [.int .i64 ra, .int .i64 rb, .int .i64 rc, .int .i64 rd, .int .i64 re, .int .i64 rk]) := HR.out.grown hS5 (by simp)
  have HB2 : Hid (Below w.heap.size w w5) := HBq.out.grown hS5 HBq.out.size (by simp)
  have HS2 : Hid (Owns 2 w5 w.heap.size na nl nc (M.trim (M.padd (M.trim (M.padd (M.trim (M.pscale (M.pmul xs xs) ra)) (M.trim (M.pscale (M.pmul xs ys) rb)))) (M.trim (M.pscale (M.pmul ys ys) rc))))) := HN5.out
  clear HX HY HR HBq hHeld hS3 hS4 hS5 HM3 HK4 HN5 HSm HSa hml hkl hsl
  generalize w5 = wq at HX2 HY2 HR2 HB2 HS2 ⊢
  generalize na = sa at HS2 ⊢
  generalize nc = sc at HS2 ⊢
  generalize nl = sl at HS2 hnl ⊢
  have HX : Hid (Sees wq xa xl xc xs) := HX2.out
  have HY : Hid (Sees wq ya yl yc ys) := HY2.out
  have HR : Hid (Lies wq w.heap.size [.int .i64 ra, .int .i64 rb, .int .i64 rc, .int .i64 rd, .int .i64 re, .int .i64 rk]) := HR2.out
  have HBq : Hid (Below w.heap.size w wq) := HB2.out
  have HSm : Hid (Sees wq sa sl sc (M.trim (M.padd (M.trim (M.padd (M.trim (M.pscale (M.pmul xs xs) ra)) (M.trim (M.pscale (M.pmul xs ys) rb)))) (M.trim (M.pscale (M.pmul ys ys) rc))))) := HS2.out.sees
  have HSa : Hid (M.allEl (M.trim (M.padd (M.trim (M.padd (M.trim (M.pscale (M.pmul xs xs) ra)) (M.trim (M.pscale (M.pmul xs ys) rb)))) (M.trim (M.pscale (M.pmul ys ys) rc)))) = true) := M.all_trim (M.all_padd _ _)
  have hsl : sl ≤ 300 := hnl
  clear HX2 HY2 HR2 HB2 HS2
  have cj : wq.cell? ⟨w.heap.size, 3, none⟩ = some (.int .i64 rd) := HR.out.at 3
  go_wp2_with fail
  refine (scale_any _ _ HX.out HXa.out HXl hc3.1 hc3.2).mono ?_
  rintro e w4 ⟨ka, kl, kc, rfl, ho4, hb4⟩
  have HK4 : Hid (Owns 2 w4 wq.heap.size ka kl kc (M.trim (M.pscale xs rd))) := ho4
  have hkl : kl ≤ 300 := by have h1 := ho4.len; have h2 := M.len_pscale_trim xs rd; have h3 := HXn.out; omega
  have HX1 : Hid (Sees w4 xa xl xc xs) := HX.out.below hb4
  have HY1 : Hid (Sees w4 ya yl yc ys) := HY.out.below hb4
  have HR1 : Hid (Lies w4 w.heap.size [.int .i64 ra, .int .i64 rb, .int .i64 rc, .int .i64 rd, .int .i64 re, .int .i64 rk]) := HR.out.belowS hb4
  have HSm1 : Hid (Sees w4 sa sl sc (M.trim (M.padd (M.trim (M.padd (M.trim (M.pscale (M.pmul xs xs) ra)) (M.trim (M.pscale (M.pmul xs ys) rb)))) (M.trim (M.pscale (M.pmul ys ys) rc))))) := HSm.out.below hb4
  have HB1 : Hid (Below w.heap.size w w4) := HBq.out.trans (hb4.mono HBq.out.size)
  clear ho4 hb4 cj HX HY HR HSm HBq
  go_wp2_with fail
  refine (l2Add_any _ HSm1.out HK4.out.sees HSa.out (M.all_trim (M.all_pscale _ _)) (by omega) (by omega)).mono ?_
  rintro e w5 ⟨na, nl, nc, rfl, ho5, hb5⟩
  have HS2 : Hid (Owns 2 w5 w.heap.size na nl nc (M.trim (M.padd (M.trim (M.padd (M.trim (M.padd (M.trim (M.pscale (M.pmul xs xs) ra)) (M.trim (M.pscale (M.pmul xs ys) rb)))) (M.trim (M.pscale (M.pmul ys ys) rc)))) (M.trim (M.pscale xs rd))))) := ho5.mono HB1.out.size
  have hnl : nl ≤ 300 := by have h1 := ho5.len; have h2 := M.len_padd_trim (M.trim (M.padd (M.trim (M.padd (M.trim (M.pscale (M.pmul xs xs) ra)) (M.trim (M.pscale (M.pmul xs ys) rb)))) (M.trim (M.pscale (M.pmul ys ys) rc)))) (M.trim (M.pscale xs rd)); have h3 := HK4.out.len; have h4 := HSm1.out.len; omega
  have HX2 : Hid (Sees w5 xa xl xc xs) := HX1.out.below hb5
  have HY2 : Hid (Sees w5 ya yl yc ys) := HY1.out.below hb5
  have HR2 : Hid (Lies w5 w.heap.size [.int .i64 ra, .int .i64 rb, .int .i64 rc, .int .i64 rd, .int .i64 re, .int .i64 rk]) := HR1.out.belowS hb5
  have HB2 : Hid (Below w.heap.size w w5) := HB1.out.trans (hb5.mono HB1.out.size)
  clear ho5 hb5 HX1 HY1 HR1 HSm1 HB1 HK4 HSa hkl hsl
  generalize w5 = wq at HX2 HY2 HR2 HB2 HS2 ⊢
  generalize na = sa at HS2 ⊢
  generalize nc = sc at HS2 ⊢
  generalize nl = sl at HS2 hnl ⊢
  have HX : Hid (Sees wq xa xl xc xs) := HX2.out
  have HY : Hid (Sees wq ya yl yc ys) := HY2.out
  have HR : Hid (Lies wq w.heap.size [.int .i64 ra, .int .i64 rb, .int .i64 rc, .int .i64 rd, .int .i64 re, .int .i64 rk]) := HR2.out
  have HBq : Hid (Below w.heap.size w wq) := HB2.out
  have HSm : Hid (Sees wq sa sl sc (M.trim (M.padd (M.trim (M.padd (M.trim (M.padd (M.trim (M.pscale (M.pmul xs xs) ra)) (M.trim (M.pscale (M.pmul xs ys) rb)))) (M.trim (M.pscale (M.pmul ys ys) rc)))) (M.trim (M.pscale xs rd))))) := HS2.out.sees
  have HSa : Hid (M.allEl (M.trim (M.padd (M.trim (M.padd (M.trim (M.padd (M.trim (M.pscale (M.pmul xs xs) ra)) (M.trim (M.pscale (M.pmul xs ys) rb)))) (M.trim (M.pscale (M.pmul ys ys) rc)))) (M.trim (M.pscale xs rd)))) = true) := M.all_trim (M.all_padd _ _)
  have hsl : sl ≤ 300 := hnl
  clear HX2 HY2 HR2 HB2 HS2
  have cj : wq.cell? ⟨w.heap.size, 4, none⟩ = some (.int .i64 re) := HR.out.at 4
  go_wp2_with fail
  refine (scale_any _ _ HY.out HYa.out HYl hc4.1 hc4.2).mono ?_
  rintro e w4 ⟨ka, kl, kc, rfl, ho4, hb4⟩
  have HK4 : Hid (Owns 2 w4 wq.heap.size ka kl kc (M.trim (M.pscale ys re))) := ho4
  have hkl : kl ≤ 300 := by have h1 := ho4.len; have h2 := M.len_pscale_trim ys re; have h3 := HYn.out; omega
  have HX1 : Hid (Sees w4 xa xl xc xs) := HX.out.below hb4
  have HY1 : Hid (Sees w4 ya yl yc ys) := HY.out.below hb4
  have HR1 : Hid (Lies w4 w.heap.size [.int .i64 ra, .int .i64 rb, .int .i64 rc, .int .i64 rd, .int .i64 re, .int .i64 rk]) := HR.out.belowS hb4
  have HSm1 : Hid (Sees w4 sa sl sc (M.trim (M.padd (M.trim (M.padd (M.trim (M.padd (M.trim (M.pscale (M.pmul xs xs) ra)) (M.trim (M.pscale (M.pmul xs ys) rb)))) (M.trim (M.pscale (M.pmul ys ys) rc)))) (M.trim (M.pscale xs rd))))) := HSm.out.below hb4
  have HB1 : Hid (Below w.heap.size w w4) := HBq.out.trans (hb4.mono HBq.out.size)
  clear ho4 hb4 cj HX HY HR HSm HBq
  go_wp2_with fail
  refine (l2Add_any _ HSm1.out HK4.out.sees HSa.out (M.all_trim (M.all_pscale _ _)) (by omega) (by omega)).mono ?_
  rintro e w5 ⟨na, nl, nc, rfl, ho5, hb5⟩
  have HS2 : Hid (Owns 2 w5 w.heap.size na nl nc (M.trim (M.padd (M.trim (M.padd (M.trim (M.padd (M.trim (M.padd (M.trim (M.pscale (M.pmul xs xs) ra)) (M.trim (M.pscale (M.pmul xs ys) rb)))) (M.trim (M.pscale (M.pmul ys ys) rc)))) (M.trim (M.pscale xs rd)))) (M.trim (M.pscale ys re))))) := ho5.mono HB1.out.size
  have hnl : nl ≤ 300 := by have h1 := ho5.len; have h2 := M.len_padd_trim (M.trim (M.padd (M.trim (M.padd (M.trim (M.padd (M.trim (M.pscale (M.pmul xs xs) ra)) (M.trim (M.pscale (M.pmul xs ys) rb)))) (M.trim (M.pscale (M.pmul ys ys) rc)))) (M.trim (M.pscale xs rd)))) (M.trim (M.pscale ys re)); have h3 := HK4.out.len; have h4 := HSm1.out.len; omega
  have HX2 : Hid (Sees w5 xa xl xc xs) := HX1.out.below hb5
  have HY2 : Hid (Sees w5 ya yl yc ys) := HY1.out.below hb5
  have HR2 : Hid (Lies w5 w.heap.size [.int .i64 ra, .int .i64 rb, .int .i64 rc, .int .i64 rd, .int .i64 re, .int .i64 rk]) := HR1.out.belowS hb5
  have HB2 : Hid (Below w.heap.size w w5) := HB1.out.trans (hb5.mono HB1.out.size)
  clear ho5 hb5 HX1 HY1 HR1 HSm1 HB1 HK4 HSa hkl hsl
  generalize w5 = wq at HX2 HY2 HR2 HB2 HS2 ⊢
  generalize na = sa at HS2 ⊢
  generalize nc = sc at HS2 ⊢
  generalize nl = sl at HS2 hnl ⊢
  have HX : Hid (Sees wq xa xl xc xs) := HX2.out
  have HY : Hid (Sees wq ya yl yc ys) := HY2.out
  have HR : Hid (Lies wq w.heap.size [.int .i64 ra, .int .i64 rb, .int .i64 rc, .int .i64 rd, .int .i64 re, .int .i64 rk]) := HR2.out
  have HBq : Hid (Below w.heap.size w wq) := HB2.out
  have HSm : Hid (Sees wq sa sl sc (M.trim (M.padd (M.trim (M.padd (M.trim (M.padd (M.trim (M.padd (M.trim (M.pscale (M.pmul xs xs) ra)) (M.trim (M.pscale (M.pmul xs ys) rb)))) (M.trim (M.pscale (M.pmul ys ys) rc)))) (M.trim (M.pscale xs rd)))) (M.trim (M.pscale ys re))))) := HS2.out.sees
  have HSa : Hid (M.allEl (M.trim (M.padd (M.trim (M.padd (M.trim (M.padd (M.trim (M.padd (M.trim (M.pscale (M.pmul xs xs) ra)) (M.trim (M.pscale (M.pmul xs ys) rb)))) (M.trim (M.pscale (M.pmul ys ys) rc)))) (M.trim (M.pscale xs rd)))) (M.trim (M.pscale ys re)))) = true) := M.all_trim (M.all_padd _ _)
  have hsl : sl ≤ 300 := hnl
  clear HX2 HY2 HR2 HB2 HS2
  have cj : wq.cell? ⟨w.heap.size, 5, none⟩ = some (.int .i64 rk) := HR.out.at 5
  have HO6 : Hid (Sees (wq.alloc (.cells #[Value.int .i64 rk] 2)) (some ⟨wq.heap.size, 0, none⟩) 1 1 [rk]) := seesA_one wq rk _
  have HB6 : Hid (Below wq.heap.size wq (wq.alloc (.cells #[Value.int .i64 rk] 2))) := (Below.refl _ _).alloc (Nat.le_refl _) _
  go_wp2_with fail
  refine (l2Trim_any _ HO6.out (by omega)).mono ?_
  rintro e w4 ⟨ka, kl, kc, rfl, ho4, hb4⟩
  have HK4 : Hid (Owns 2 w4 wq.heap.size ka kl kc (M.trim [rk])) := ho4.mono HB6.out.size
  have hkl : kl ≤ 1 := by have h1 := ho4.len; have h2 := M.len_trim [rk]; have h3 : [rk].length = 1 := rfl; omega
  have HB4 : Hid (Below wq.heap.size wq w4) := HB6.out.trans (hb4.mono HB6.out.size)
  have HSm1 : Hid (Sees w4 sa sl sc (M.trim (M.padd (M.trim (M.padd (M.trim (M.padd (M.trim (M.padd (M.trim (M.pscale (M.pmul xs xs) ra)) (M.trim (M.pscale (M.pmul xs ys) rb)))) (M.trim (M.pscale (M.pmul ys ys) rc)))) (M.trim (M.pscale xs rd)))) (M.trim (M.pscale ys re))))) := HSm.out.below HB4.out
  have HB1 : Hid (Below w.heap.size w w4) := HBq.out.trans (HB4.out.mono HBq.out.size)
  have HKa : Hid (M.allEl (M.trim [rk]) = true) := M.all_trim (M.all_cons ⟨hc5.1, hc5.2⟩ rfl)
  clear ho4 hb4 cj HX HY HR HSm HBq HO6 HB6 HB4
  go_wp2_with fail
  refine (l2Add_any _ HSm1.out HK4.out.sees HSa.out HKa.out (by omega) (by omega)).mono ?_
  rintro e w5 ⟨na, nl, nc, rfl, ho5, hb5⟩
  have HS2 : Hid (Owns 2 w5 w.heap.size na nl nc (M.trim (M.padd (M.trim (M.padd (M.trim (M.padd (M.trim (M.padd (M.trim (M.padd (M.trim (M.pscale (M.pmul xs xs) ra)) (M.trim (M.pscale (M.pmul xs ys) rb)))) (M.trim (M.pscale (M.pmul ys ys) rc)))) (M.trim (M.pscale xs rd)))) (M.trim (M.pscale ys re)))) (M.trim [rk])))) := ho5.mono HB1.out.size
  have hnl : nl ≤ 301 := by have h1 := ho5.len; have h2 := M.len_padd_trim (M.trim (M.padd (M.trim (M.padd (M.trim (M.padd (M.trim (M.padd (M.trim (M.pscale (M.pmul xs xs) ra)) (M.trim (M.pscale (M.pmul xs ys) rb)))) (M.trim (M.pscale (M.pmul ys ys) rc)))) (M.trim (M.pscale xs rd)))) (M.trim (M.pscale ys re)))) (M.trim [rk]); have h3 := HK4.out.len; have h4 := HSm1.out.len; omega
  have HB2 : Hid (Below w.heap.size w w5) := HB1.out.trans (hb5.mono HB1.out.size)
  clear ho5 hb5
  go_wp2
  go_ret
  exact ⟨na, nl, nc, rfl, hnl, HS2.out, HB2.out⟩
set_option maxHeartbeats 4000000 in
theorem l6Left_any {fa ra : Option Addr} {fl fc rl rc : Nat} {fs rs : List Int} (N : Nat) (w : World) (h : M.rowsN N = true) (hf : Sees w fa fl fc fs) (hr : Sees w ra rl rc rs) (af : M.allEl fs = true) (ar : M.allEl rs = true) (lf : fl ≤ 100) (lr : rl ≤ 400) :
    Calls Try.prog 17 #[.slice fa fl fc, .slice ra rl rc, .int .i64 N] w fun e w' => ∃ a' l c', e = .returned (.slice a' l c') ∧ Owns 2 w' w.heap.size a' l c' (M.left fs rs (M.root N) (M.lst N)) ∧ Below w.heap.size w w' := by
  have hb16 := M.rowsN_pos h
  have hg := (M.el_iff _).1 (M.root_el (M.two64_two (M.rowsN_two h)))
  have CR := specRoot_any N
  have CT : Hid (∀ (W : World), Sees W fa fl fc fs → Calls Try.prog 46 #[.slice fa fl fc, .int .i64 (M.root N)] W fun e w' => ∃ a' l c', e = .returned (.slice a' l c') ∧ Owns 2 w' W.heap.size a' l c' (M.turn fs (M.root N)) ∧ Below W.heap.size W w') := fun W hW => l6Turn_any _ W hW af (by omega) hg.1 hg.2
  have CPw : ∀ W, Calls Try.prog 43 #[.int .i64 (M.root N), .int .i64 ((N : Int) - 1)] W fun e w' => e = .returned (.int .i64 (M.lst N)) ∧ w' = W := fun W => by
    have := specPow_in (M.root N) (N - 1) W hg.1 hg.2 (by omega)
    rw [show ((N - 1 : Nat) : Int) = (N : Int) - 1 by omega] at this
    exact this
  have CS : ∀ W, Calls Try.prog 49 #[.int .i64 0, .int .i64 (M.lst N)] W fun e w' => e = .returned (.int .i64 (M.sub 0 (M.lst N))) ∧ w' = W := fun W => specSub_any _ _ W
  have hls := (M.el_iff _).1 (M.el_lst N)
  have hsb : 0 ≤ M.sub 0 (M.lst N) ∧ M.sub 0 (M.lst N) < 65537 := by rw [M.sub_in (by decide) (M.el_lst N)]; omega
  have HTl : Hid ((M.turn fs (M.root N)).length ≤ 100) := by have h1 := M.len_turn fs (M.root N); have h2 := hf.len; show _ ≤ _; omega
  have HTa : Hid (M.allEl (M.turn fs (M.root N)) = true) := M.all_turn _ _
  have HF : Hid (Sees w fa fl fc fs) := hf
  have HR : Hid (Sees w ra rl rc rs) := hr
  have HRa : Hid (M.allEl rs = true) := ar
  have HRn : Hid (rs.length ≤ 400) := by show _ ≤ _; rw [hr.len]; exact lr
  unfold M.left
  generalize M.turn fs (M.root N) = T at CT HTl HTa
  generalize M.root N = g at CR CT CPw
  generalize M.lst N = la at CPw CS hsb
  generalize M.sub 0 la = sb at CS hsb
  have hN16 : (N : Int) ≤ 16 := by omega
  have hN2 : (2 : Int) ≤ (N : Int) := by omega
  have hNw : IntKind.i64.wrap ((N : Int) - 1) = (N : Int) - 1 := by rw [IntKind.wrap_i64]; omega
  clear h hf hr af ar hg hls hb16
  go_enter Try.func17, Try.ntmps17
  go_wp2_with fail
  refine (CR _).mono ?_
  rintro e w ⟨rfl, rfl⟩
  go_wp2_with fail
  refine (CT.out _ HF.out).mono ?_
  rintro e w1 ⟨ta, tl, tc, rfl, ho1, hb1⟩
  have HT1 : Hid (Owns 2 w1 w.heap.size ta tl tc T) := ho1
  have htl : tl ≤ 100 := by have h1 := ho1.len; have h2 := HTl.out; omega
  have HB1 : Hid (Below w.heap.size w w1) := hb1
  clear ho1 hb1
  go_wp2_with fail
  refine (scale_any 65536 _ (HR.out.below HB1.out) HRa.out (by omega) (by omega) (by omega)).mono ?_
  rintro e w2 ⟨ka, kl, kc, rfl, ho2, hb2⟩
  have HK2 : Hid (Owns 2 w2 w1.heap.size ka kl kc (M.trim (M.pscale rs 65536))) := ho2
  have hkl : kl ≤ 400 := by have h1 := ho2.len; have h2 := M.len_pscale_trim rs 65536; have h3 := HRn.out; omega
  have HT2 : Hid (Sees w2 ta tl tc T) := HT1.out.sees.below hb2
  have HB2 : Hid (Below w.heap.size w w2) := HB1.out.trans (hb2.mono HB1.out.size)
  clear ho2 hb2 HT1
  go_wp2_with fail
  refine (l2Add_any _ HT2.out HK2.out.sees HTa.out (M.all_trim (M.all_pscale _ _)) (by omega) (by omega)).mono ?_
  rintro e w3 ⟨na, nl, nc, rfl, ho3, hb3⟩
  have HN3 : Hid (Owns 2 w3 w2.heap.size na nl nc (M.trim (M.padd T (M.trim (M.pscale rs 65536))))) := ho3
  have hnl : nl ≤ 400 := by have h1 := ho3.len; have h2 := M.len_padd_trim T (M.trim (M.pscale rs 65536)); have h3 := HK2.out.len; have h4 := HT2.out.len; omega
  have HB3 : Hid (Below w.heap.size w w3) := HB2.out.trans (hb3.mono HB2.out.size)
  clear ho3 hb3 HT2 HK2
  go_wp2_with fail
  refine (CPw _).mono ?_
  rintro e w3 ⟨rfl, rfl⟩
  go_wp2_with fail
  refine (CS _).mono ?_
  rintro e w3 ⟨rfl, rfl⟩
  have HS4 : Hid (Sees (w3.alloc (.cells #[Value.int .i64 sb, Value.int .i64 1] 2)) (some ⟨w3.heap.size, 0, none⟩) 2 2 [sb, 1]) := seesA_two w3 sb 1 _
  have HBA : Hid (Below w3.heap.size w3 (w3.alloc (.cells #[Value.int .i64 sb, Value.int .i64 1] 2))) := (Below.refl _ _).alloc (Nat.le_refl _) _
  have HSA : Hid (M.allEl [sb, 1] = true) := M.all_cons ⟨hsb.1, hsb.2⟩ (M.all_cons ⟨by omega, by omega⟩ rfl)
  go_wp2_with fail
  refine (l2Mul_any _ (HN3.out.sees.below HBA.out) HS4.out (M.all_trim (M.all_padd _ _)) HSA.out (by omega) (by omega)).mono ?_
  rintro e w5 ⟨oa, ol, oc, rfl, ho5, hb5⟩
  have HO5 : Hid (Owns 2 w5 w.heap.size oa ol oc (M.pmul (M.trim (M.padd T (M.trim (M.pscale rs 65536)))) [sb, 1])) := ho5.mono (Nat.le_trans HB3.out.size HBA.out.size)
  have HB5 : Hid (Below w.heap.size w w5) := HB3.out.trans ((HBA.out.trans (hb5.mono HBA.out.size)).mono HB3.out.size)
  clear ho5 hb5
  go_wp2
  go_ret
  exact ⟨oa, ol, oc, rfl, HO5.out, HB5.out⟩
end Go.Proofs.Ytbcfjbkmkknmfaa
namespace Go.Proofs.Ytbcfjbkmkknmfaa
open Go.RowKit

set_option maxHeartbeats 4000000 in
set_option maxRecDepth 10000 in
theorem specProved_out (m : M.Mc) (s : Int × Int) (n : Int) (w : World) (h : M.provOk m s n = false) :
    Calls Try.prog 4 #[mcv m, stv s, .int .i64 n] w fun e w' => e = .returned (.tuple #[.agg #[.int .i64 0, .int .i64 0, .int .i64 0, .int .i64 0, .slice none 0 0, .slice none 0 0, .slice none 0 0, .slice none 0 0], .bool false]) ∧ Below w.heap.size w w' := by
  have C1 := specMachineOk_any m
  have C2 := specStateOk_any s
  have C3 := l6Rows_any n
  have hno := M.provOk_no h
  clear h
  obtain ⟨⟨a, b, c, d, f, k⟩, ⟨a', b', c', d', f', k'⟩⟩ := m
  obtain ⟨x, y⟩ := s
  dsimp only [mcv, stv] at C1 C2 ⊢
  generalize M.Mc.ok ⟨⟨a, b, c, d, f, k⟩, ⟨a', b', c', d', f', k'⟩⟩ = o1 at C1 hno
  generalize M.sOk (x, y) = o2 at C2 hno
  generalize M.rows n = o3 at C3 hno
  have HS0 : Hid (Lies (((w.alloc (.cells #[.int .i64 a, .int .i64 b, .int .i64 c, .int .i64 d, .int .i64 f, .int .i64 k, .int .i64 a', .int .i64 b', .int .i64 c', .int .i64 d', .int .i64 f', .int .i64 k'] 36)).alloc (.cells #[.int .i64 x, .int .i64 y] 28)).alloc (.cells #[.int .i64 0, .int .i64 0, .int .i64 0, .int .i64 0, .slice none 0 0, .slice none 0 0, .slice none 0 0, .slice none 0 0] 31)) (w.heap.size + 1) [.int .i64 x, .int .i64 y]) := (lies_new2 _ _ _ _).alloc _
  have HZ0 : Hid (Lies (((w.alloc (.cells #[.int .i64 a, .int .i64 b, .int .i64 c, .int .i64 d, .int .i64 f, .int .i64 k, .int .i64 a', .int .i64 b', .int .i64 c', .int .i64 d', .int .i64 f', .int .i64 k'] 36)).alloc (.cells #[.int .i64 x, .int .i64 y] 28)).alloc (.cells #[.int .i64 0, .int .i64 0, .int .i64 0, .int .i64 0, .slice none 0 0, .slice none 0 0, .slice none 0 0, .slice none 0 0] 31)) (w.heap.size + 1 + 1) [.int .i64 0, .int .i64 0, .int .i64 0, .int .i64 0, .slice none 0 0, .slice none 0 0, .slice none 0 0, .slice none 0 0]) := lies_new3 _ _ _ _ _
  have HB0 : Hid (Below w.heap.size w (((w.alloc (.cells #[.int .i64 a, .int .i64 b, .int .i64 c, .int .i64 d, .int .i64 f, .int .i64 k, .int .i64 a', .int .i64 b', .int .i64 c', .int .i64 d', .int .i64 f', .int .i64 k'] 36)).alloc (.cells #[.int .i64 x, .int .i64 y] 28)).alloc (.cells #[.int .i64 0, .int .i64 0, .int .i64 0, .int .i64 0, .slice none 0 0, .slice none 0 0, .slice none 0 0, .slice none 0 0] 31))) := (((Below.refl _ _).alloc (Nat.le_refl _) _).alloc (by simp) _).alloc (by simp; omega) _
  go_enter Try.func4, Try.ntmps4
  go_wp2_with fail
  refine (C1 _).mono ?_
  rintro e w1 ⟨rfl, hb1⟩
  have HS1 : Hid (Lies w1 (w.heap.size + 1) [.int .i64 x, .int .i64 y]) := HS0.out.belowS hb1
  have HZ1 : Hid (Lies w1 (w.heap.size + 1 + 1) [.int .i64 0, .int .i64 0, .int .i64 0, .int .i64 0, .slice none 0 0, .slice none 0 0, .slice none 0 0, .slice none 0 0]) := HZ0.out.belowS hb1
  have HB1 : Hid (Below w.heap.size w w1) := HB0.out.trans (hb1.mono HB0.out.size)
  have s0 : w1.cell? ⟨w.heap.size + 1, 0, none⟩ = some (.int .i64 x) := HS1.out.at 0
  have s1 : w1.cell? ⟨w.heap.size + 1, 1, none⟩ = some (.int .i64 y) := HS1.out.at 1
  clear hb1 HS0 HZ0 HB0 C1
  rcases hno with rfl | ⟨rfl, rfl⟩ | ⟨rfl, rfl, rfl⟩
  · have HZT : Hid (w1.there (w.heap.size + 1 + 1) 0 8) := HZ1.out.there 0 8 (by simp)
    have HZ4 : Hid (Lies (w1.setCells (w.heap.size + 1 + 1) 0 [.int .i64 0, .int .i64 0, .int .i64 0, .int .i64 0, .slice none 0 0, .slice none 0 0, .slice none 0 0, .slice none 0 0]) (w.heap.size + 1 + 1) [.int .i64 0, .int .i64 0, .int .i64 0, .int .i64 0, .slice none 0 0, .slice none 0 0, .slice none 0 0, .slice none 0 0]) := HZ1.out.setCells [.int .i64 0, .int .i64 0, .int .i64 0, .int .i64 0, .slice none 0 0, .slice none 0 0, .slice none 0 0, .slice none 0 0] 0 (by simp)
    have HB4 : Hid (Below w.heap.size w (w1.setCells (w.heap.size + 1 + 1) 0 [.int .i64 0, .int .i64 0, .int .i64 0, .int .i64 0, .slice none 0 0, .slice none 0 0, .slice none 0 0, .slice none 0 0])) := below_setCells _ 0 HB1.out (by omega)
    go_wp2_with (with_reducible refine wpList_stopn ?_ ?_; rfl)
    show wpList _ _ _ _ _ _
    with_reducible refine wpList_store_mid ?_ 31 (.tmp 6) (.tmp 33) ?_ (w.heap.size + 1 + 1) 0 ([.int .i64 0, .int .i64 0, .int .i64 0, .int .i64 0, .slice none 0 0, .slice none 0 0, .slice none 0 0, .slice none 0 0]).toArray ?_ ?_ ?_ (by kernel_rfl) (by kernel_rfl) ?_
    · exact rfl
    · exact rfl
    · exact rfl
    · exact rfl
    · exact HZT.out
    generalize w1.setCells (w.heap.size + 1 + 1) 0 [.int .i64 0, .int .i64 0, .int .i64 0, .int .i64 0, .slice none 0 0, .slice none 0 0, .slice none 0 0, .slice none 0 0] = wz at HZ4 HB4 ⊢
    go_wp2
    exact bodyPost_ret (results_cell_tmp rfl rfl (run_loadVar_mid wz (w.heap.size + 1 + 1) 0 31 _ _ HZ4.out.row Try.underlying31 rfl (by kernel_rfl))) rfl ⟨rfl, HB4.out⟩
  · go_wp2_with fail
    refine (C2 _).mono ?_
    rintro e w2 ⟨rfl, hb2⟩
    have HZ2 : Hid (Lies w2 (w.heap.size + 1 + 1) [.int .i64 0, .int .i64 0, .int .i64 0, .int .i64 0, .slice none 0 0, .slice none 0 0, .slice none 0 0, .slice none 0 0]) := HZ1.out.belowS hb2
    have HB2 : Hid (Below w.heap.size w w2) := HB1.out.trans (hb2.mono HB1.out.size)
    clear hb2 s0 s1 HS1 HZ1 HB1
    have HZT : Hid (w2.there (w.heap.size + 1 + 1) 0 8) := HZ2.out.there 0 8 (by simp)
    have HZ4 : Hid (Lies (w2.setCells (w.heap.size + 1 + 1) 0 [.int .i64 0, .int .i64 0, .int .i64 0, .int .i64 0, .slice none 0 0, .slice none 0 0, .slice none 0 0, .slice none 0 0]) (w.heap.size + 1 + 1) [.int .i64 0, .int .i64 0, .int .i64 0, .int .i64 0, .slice none 0 0, .slice none 0 0, .slice none 0 0, .slice none 0 0]) := HZ2.out.setCells [.int .i64 0, .int .i64 0, .int .i64 0, .int .i64 0, .slice none 0 0, .slice none 0 0, .slice none 0 0, .slice none 0 0] 0 (by simp)
    have HB4 : Hid (Below w.heap.size w (w2.setCells (w.heap.size + 1 + 1) 0 [.int .i64 0, .int .i64 0, .int .i64 0, .int .i64 0, .slice none 0 0, .slice none 0 0, .slice none 0 0, .slice none 0 0])) := below_setCells _ 0 HB2.out (by omega)
    go_wp2_with (with_reducible refine wpList_stopn ?_ ?_; rfl)
    show wpList _ _ _ _ _ _
    with_reducible refine wpList_store_mid ?_ 31 (.tmp 6) (.tmp 33) ?_ (w.heap.size + 1 + 1) 0 ([.int .i64 0, .int .i64 0, .int .i64 0, .int .i64 0, .slice none 0 0, .slice none 0 0, .slice none 0 0, .slice none 0 0]).toArray ?_ ?_ ?_ (by kernel_rfl) (by kernel_rfl) ?_
    · exact rfl
    · exact rfl
    · exact rfl
    · exact rfl
    · exact HZT.out
    generalize w2.setCells (w.heap.size + 1 + 1) 0 [.int .i64 0, .int .i64 0, .int .i64 0, .int .i64 0, .slice none 0 0, .slice none 0 0, .slice none 0 0, .slice none 0 0] = wz at HZ4 HB4 ⊢
    go_wp2
    exact bodyPost_ret (results_cell_tmp rfl rfl (run_loadVar_mid wz (w.heap.size + 1 + 1) 0 31 _ _ HZ4.out.row Try.underlying31 rfl (by kernel_rfl))) rfl ⟨rfl, HB4.out⟩
  · go_wp2_with fail
    refine (C2 _).mono ?_
    rintro e w2 ⟨rfl, hb2⟩
    have HZ2 : Hid (Lies w2 (w.heap.size + 1 + 1) [.int .i64 0, .int .i64 0, .int .i64 0, .int .i64 0, .slice none 0 0, .slice none 0 0, .slice none 0 0, .slice none 0 0]) := HZ1.out.belowS hb2
    have HB2 : Hid (Below w.heap.size w w2) := HB1.out.trans (hb2.mono HB1.out.size)
    clear hb2 s0 s1 HS1 HZ1 HB1
    go_wp2_with fail
    refine (C3 _).mono ?_
    rintro e w2 ⟨rfl, rfl⟩
    have HZT : Hid (w2.there (w.heap.size + 1 + 1) 0 8) := HZ2.out.there 0 8 (by simp)
    have HZ4 : Hid (Lies (w2.setCells (w.heap.size + 1 + 1) 0 [.int .i64 0, .int .i64 0, .int .i64 0, .int .i64 0, .slice none 0 0, .slice none 0 0, .slice none 0 0, .slice none 0 0]) (w.heap.size + 1 + 1) [.int .i64 0, .int .i64 0, .int .i64 0, .int .i64 0, .slice none 0 0, .slice none 0 0, .slice none 0 0, .slice none 0 0]) := HZ2.out.setCells [.int .i64 0, .int .i64 0, .int .i64 0, .int .i64 0, .slice none 0 0, .slice none 0 0, .slice none 0 0, .slice none 0 0] 0 (by simp)
    have HB4 : Hid (Below w.heap.size w (w2.setCells (w.heap.size + 1 + 1) 0 [.int .i64 0, .int .i64 0, .int .i64 0, .int .i64 0, .slice none 0 0, .slice none 0 0, .slice none 0 0, .slice none 0 0])) := below_setCells _ 0 HB2.out (by omega)
    go_wp2_with (with_reducible refine wpList_stopn ?_ ?_; rfl)
    show wpList _ _ _ _ _ _
    with_reducible refine wpList_store_mid ?_ 31 (.tmp 6) (.tmp 33) ?_ (w.heap.size + 1 + 1) 0 ([.int .i64 0, .int .i64 0, .int .i64 0, .int .i64 0, .slice none 0 0, .slice none 0 0, .slice none 0 0, .slice none 0 0]).toArray ?_ ?_ ?_ (by kernel_rfl) (by kernel_rfl) ?_
    · exact rfl
    · exact rfl
    · exact rfl
    · exact rfl
    · exact HZT.out
    generalize w2.setCells (w.heap.size + 1 + 1) 0 [.int .i64 0, .int .i64 0, .int .i64 0, .int .i64 0, .slice none 0 0, .slice none 0 0, .slice none 0 0, .slice none 0 0] = wz at HZ4 HB4 ⊢
    go_wp2
    exact bodyPost_ret (results_cell_tmp rfl rfl (run_loadVar_mid wz (w.heap.size + 1 + 1) 0 31 _ _ HZ4.out.row Try.underlying31 rfl (by kernel_rfl))) rfl ⟨rfl, HB4.out⟩
end Go.Proofs.Ytbcfjbkmkknmfaa
namespace Go.Proofs.Ytbcfjbkmkknmfaa
open Go.RowKit

theorem l2Divide_any {a b : Option Addr} {n m c d : Nat} {zs ys : List Int} (w : World) (hz : Sees w a n c zs) (hy : Sees w b m d ys) (ha : M.allEl zs = true) (hb : M.allEl ys = true) (nz : M.neat zs) (ny : M.neat ys) (hn : n ≤ 128) (hm : m ≤ 128) (h1 : 0 < m) :
    Calls Try.prog 16 #[.slice a n c, .slice b m d] w fun e w' => ∃ a1 l1 c1 a2 l2 c2 q r, e = .returned (.tuple #[.slice a1 l1 c1, .slice a2 l2 c2]) ∧ Owns 2 w' w.heap.size a1 l1 c1 q ∧ Owns 2 w' w.heap.size a2 l2 c2 r ∧ M.Div zs ys q r ∧ (∀ x y, a1 = some x → a2 = some y → x.block ≠ y.block) ∧ Below w.heap.size w w' := by
  by_cases h : m ≤ n
  · exact l2Divide_long w hz hy ha hb ny hn h1 h
  · exact l2Divide_short w hz hy ha nz hn hm h1 (by omega)
theorem far_atN {a b : Option Addr} {n c m d s : Nat} {pb : Nat} (h : (Value.slice b m d).ownBlock = (Value.slice a n c).ownBlock ∨ (Value.slice b m d).ownBlock = some s) (hp : pb < s) (hv : ∀ y, a = some y → y.block ≠ pb) : ∀ y, b = some y → y.block ≠ pb := by
  refine own_some (b := pb) (n := m) (c := d) ?_
  rcases h with e | e
  · rw [e]; exact own_none hv
  · rw [e]; intro e2; injection e2 with e3; omega
theorem M.fsts_take {ps : List (Int × Int)} {k : Nat} (h : k = ps.length) : (M.fsts ps).take k = M.fsts ps := List.take_of_length_le (by rw [M.fsts_len]; omega)
theorem M.snds_take {ps : List (Int × Int)} {k : Nat} (h : k = ps.length) : (M.snds ps).take k = M.snds ps := List.take_of_length_le (by rw [M.snds_len]; omega)
set_option maxHeartbeats 8000000 in
set_option maxRecDepth 10000 in
theorem specProved_in (m : M.Mc) (s : Int × Int) (N : Nat) (w : World) (hm : m.ok = true) (hs : M.sOk s = true) (h : M.rowsN N = true) :
    Calls Try.prog 4 #[mcv m, stv s, .int .i64 N] w fun e w' => ∃ (xa : Option Addr) (xc : Nat) (ya : Option Addr) (yc : Nat) (qxa : Option Addr) (qxc : Nat) (qya : Option Addr) (qyc : Nat), e = .returned (.tuple #[.agg #[.int .i64 s.1, .int .i64 s.2, .int .i64 (m.rn s (N - 1)).1, .int .i64 (m.rn s (N - 1)).2, .slice xa (4 * N) xc, .slice ya (4 * N) yc, .slice qxa (4 * N) qxc, .slice qya (4 * N) qyc], .bool true]) ∧
      (Owns 2 w' w.heap.size xa (4 * N) xc (m.pf s N).X ∧ Owns 2 w' w.heap.size ya (4 * N) yc (m.pf s N).Y ∧ Owns 2 w' w.heap.size qxa (4 * N) qxc (m.pf s N).QX ∧ Owns 2 w' w.heap.size qya (4 * N) qyc (m.pf s N).QY) ∧ (far xa ya ∧ far xa qxa ∧ far xa qya ∧ far ya qxa ∧ far ya qya ∧ far qxa qya) ∧ Below w.heap.size w w' := by
  have hb16 := M.rowsN_pos h
  obtain ⟨K, hK⟩ : ∃ K : Nat, K = 4 * N := ⟨_, rfl⟩
  have hK4 : K ≤ 64 := by omega
  have C1 : ∀ W, Calls Try.prog 11 #[mcv m] W fun e w' => e = .returned (.bool true) ∧ Below W.heap.size W w' := fun W => by rw [← hm]; exact specMachineOk_any m W
  have C2 : ∀ W, Calls Try.prog 12 #[stv s] W fun e w' => e = .returned (.bool true) ∧ Below W.heap.size W w' := fun W => by rw [← hs]; exact specStateOk_any s W
  have C3 : ∀ W, Calls Try.prog 13 #[.int .i64 N] W fun e w' => e = .returned (.bool true) ∧ w' = W := fun W => by rw [← M.rowsI_of h]; exact l6Rows_any N W
  have hro : M.runOk m s ((N : Int) - 1) = true := M.runOk_mk hm hs (by omega) (by omega)
  have C4 : ∀ W, Calls Try.prog 14 #[mcv m, stv s, .int .i64 ((N : Int) - 1)] W fun e w' => ∃ a cap, e = .returned (.tuple #[.slice a N cap, .bool true]) ∧ OwnsQ 28 w' W.heap.size a N cap (m.run s (N - 1)) ∧ Below W.heap.size W w' := fun W => (specRunOf_any m s ((N : Int) - 1) W).mono fun e w' ⟨a, l, cap, h1, h2, h3, h4⟩ => by
    rw [hro] at h1
    rw [M.runv_in hro, show ((N : Int) - 1).toNat = N - 1 by omega] at h3
    have hl : l = N := by have := h3.1; rw [M.run_len] at this; omega
    subst hl
    exact ⟨a, cap, h1, h3, h4⟩
  have C5 : Hid (∀ (W : World) {a : Option Addr} {c : Nat}, Sees W a N c (M.fsts (m.run s (N - 1))) → Calls Try.prog 15 #[.slice a N c, .int .i64 1] W fun e w' => ∃ a' l c', e = .returned (.slice a' l c') ∧ Owns 2 w' W.heap.size a' l c' (M.fx m s N) ∧ Below W.heap.size W w') := fun W _ _ hW => by
    rw [M.run_fsts m s (by omega)] at hW
    exact l3From_any 1 W hW (M.xsR_all hs N) (M.row_pt (M.rowsN_two h))
  have C6 : Hid (∀ (W : World) {a : Option Addr} {c : Nat}, Sees W a N c (M.snds (m.run s (N - 1))) → Calls Try.prog 15 #[.slice a N c, .int .i64 1] W fun e w' => ∃ a' l c', e = .returned (.slice a' l c') ∧ Owns 2 w' W.heap.size a' l c' (M.fy m s N) ∧ Below W.heap.size W w') := fun W _ _ hW => by
    rw [M.run_snds m s (by omega)] at hW
    exact l3From_any 1 W hW (M.ysR_all hs N) (M.row_pt (M.rowsN_two h))
  have ht := M.thru_f m hs h
  obtain ⟨hLX, hLY⟩ := M.left_rows ht
  obtain ⟨hmX, hmY⟩ : m.X.ok = true ∧ m.Y.ok = true := by unfold M.Mc.ok at hm; simpa using hm
  have HXl : Hid ((M.fx m s N).length ≤ N) := ht.lx
  have HYl : Hid ((M.fy m s N).length ≤ N) := ht.ly
  have lrX := M.len_rl m.X (by omega) ht.lx ht.ly
  have lrY := M.len_rl m.Y (by omega) ht.lx ht.ly
  have R1 : Hid (∀ (W : World) {a b : Option Addr} {n c p d : Nat}, Sees W a n c (M.fx m s N) → Sees W b p d (M.fy m s N) → Calls Try.prog 18 #[rlv m.X, .slice a n c, .slice b p d] W fun e w' => ∃ a' l c', e = .returned (.slice a' l c') ∧ l ≤ 301 ∧ Owns 2 w' W.heap.size a' l c' (M.rl m.X (M.fx m s N) (M.fy m s N)) ∧ Below W.heap.size W w') := fun W _ _ _ _ _ _ h1 h2 => l6Rule_any m.X W hmX h1 h2 ht.ax ht.ay (by have := h1.len; have := ht.lx; omega) (by have := h2.len; have := ht.ly; omega)
  have R2 : Hid (∀ (W : World) {a b : Option Addr} {n c p d : Nat}, Sees W a n c (M.fx m s N) → Sees W b p d (M.fy m s N) → Calls Try.prog 18 #[rlv m.Y, .slice a n c, .slice b p d] W fun e w' => ∃ a' l c', e = .returned (.slice a' l c') ∧ l ≤ 301 ∧ Owns 2 w' W.heap.size a' l c' (M.rl m.Y (M.fx m s N) (M.fy m s N)) ∧ Below W.heap.size W w') := fun W _ _ _ _ _ _ h1 h2 => l6Rule_any m.Y W hmY h1 h2 ht.ax ht.ay (by have := h1.len; have := ht.lx; omega) (by have := h2.len; have := ht.ly; omega)
  have E1 : Hid (∀ (W : World) {a b : Option Addr} {n c p d : Nat}, Sees W a n c (M.fx m s N) → Sees W b p d (M.rl m.X (M.fx m s N) (M.fy m s N)) → Calls Try.prog 17 #[.slice a n c, .slice b p d, .int .i64 N] W fun e w' => ∃ a' l c', e = .returned (.slice a' l c') ∧ Owns 2 w' W.heap.size a' l c' (M.left (M.fx m s N) (M.rl m.X (M.fx m s N) (M.fy m s N)) (M.root N) (M.lst N)) ∧ Below W.heap.size W w') := fun W _ _ _ _ _ _ h1 h2 => l6Left_any N W h h1 h2 ht.ax (M.all_rl _ _ _) (by have := h1.len; have := ht.lx; omega) (by have := h2.len; omega)
  have E2 : Hid (∀ (W : World) {a b : Option Addr} {n c p d : Nat}, Sees W a n c (M.fy m s N) → Sees W b p d (M.rl m.Y (M.fx m s N) (M.fy m s N)) → Calls Try.prog 17 #[.slice a n c, .slice b p d, .int .i64 N] W fun e w' => ∃ a' l c', e = .returned (.slice a' l c') ∧ Owns 2 w' W.heap.size a' l c' (M.left (M.fy m s N) (M.rl m.Y (M.fx m s N) (M.fy m s N)) (M.root N) (M.lst N)) ∧ Below W.heap.size W w') := fun W _ _ _ _ _ _ h1 h2 => l6Left_any N W h h1 h2 ht.ay (M.all_rl _ _ _) (by have := h1.len; have := ht.ly; omega) (by have := h2.len; omega)
  have Z1 := fun W => l6Zero_any N W (by omega) (by omega)
  have lfX := M.len_left (g := M.root N) (last := M.lst N) (by omega) ht.lx lrX
  have lfY := M.len_left (g := M.root N) (last := M.lst N) (by omega) ht.ly lrY
  have D1 : Hid (∀ (W : World) {a b : Option Addr} {n c d : Nat}, Sees W a n c (M.left (M.fx m s N) (M.rl m.X (M.fx m s N) (M.fy m s N)) (M.root N) (M.lst N)) → Sees W b (N + 1) d (M.zeroL N) → Calls Try.prog 16 #[.slice a n c, .slice b (N + 1) d] W fun e w' => ∃ a1 l1 c1 a2 l2 c2 q, e = .returned (.tuple #[.slice a1 l1 c1, .slice a2 l2 c2]) ∧ Owns 2 w' W.heap.size a1 l1 c1 q ∧ (M.wide q N = (m.pf s N).QX ∧ M.allEl q = true) ∧ Below W.heap.size W w') := fun W _ _ _ _ _ h1 h2 => (l2Divide_any W h1 h2 (M.all_left _ _ _ _) (M.zeroL_all (by omega)) (M.neat_left _ _ _ _) (M.zeroL_neat (by omega)) (by have := h1.len; omega) (by omega) (by omega)).mono fun e w' ⟨a1, l1, c1, a2, l2, c2, q, r, g1, g2, _, g4, _, g6⟩ => ⟨a1, l1, c1, a2, l2, c2, q, g1, g2, ⟨M.quo_div h hLX g4, g4.aq⟩, g6⟩
  have D2 : Hid (∀ (W : World) {a b : Option Addr} {n c d : Nat}, Sees W a n c (M.left (M.fy m s N) (M.rl m.Y (M.fx m s N) (M.fy m s N)) (M.root N) (M.lst N)) → Sees W b (N + 1) d (M.zeroL N) → Calls Try.prog 16 #[.slice a n c, .slice b (N + 1) d] W fun e w' => ∃ a1 l1 c1 a2 l2 c2 q, e = .returned (.tuple #[.slice a1 l1 c1, .slice a2 l2 c2]) ∧ Owns 2 w' W.heap.size a1 l1 c1 q ∧ (M.wide q N = (m.pf s N).QY ∧ M.allEl q = true) ∧ Below W.heap.size W w') := fun W _ _ _ _ _ h1 h2 => (l2Divide_any W h1 h2 (M.all_left _ _ _ _) (M.zeroL_all (by omega)) (M.neat_left _ _ _ _) (M.zeroL_neat (by omega)) (by have := h1.len; omega) (by omega) (by omega)).mono fun e w' ⟨a1, l1, c1, a2, l2, c2, q, r, g1, g2, _, g4, _, g6⟩ => ⟨a1, l1, c1, a2, l2, c2, q, g1, g2, ⟨M.quo_div h hLY g4, g4.aq⟩, g6⟩
  have EV : Hid (∀ (W : World) {a : Option Addr} {n c : Nat} {q P : List Int}, Sees W a n c q → M.allEl q = true → M.wide q N = P → Calls Try.prog 20 #[.slice a n c, .int .i64 (4 * N : Nat), .int .i64 3] W fun e w' => ∃ a' c', e = .returned (.slice a' (4 * N) c') ∧ Owns 2 w' W.heap.size a' (4 * N) c' P ∧ Below W.heap.size W w') := fun W _ _ _ _ _ h1 h2 h3 => by
    subst h3; exact l3Evals_any (4 * N) 3 W h1 h2 (M.rowsN_pt h)
  have CV1 : Hid (∀ (W : World) {a : Option Addr} {n c : Nat}, Sees W a n c (M.fx m s N) → Calls Try.prog 20 #[.slice a n c, .int .i64 (4 * N : Nat), .int .i64 3] W fun e w' => ∃ a' c', e = .returned (.slice a' (4 * N) c') ∧ Owns 2 w' W.heap.size a' (4 * N) c' (m.pf s N).X ∧ Below W.heap.size W w') := fun W _ _ _ h1 => EV.out W h1 ht.ax rfl
  have CV2 : Hid (∀ (W : World) {a : Option Addr} {n c : Nat}, Sees W a n c (M.fy m s N) → Calls Try.prog 20 #[.slice a n c, .int .i64 (4 * N : Nat), .int .i64 3] W fun e w' => ∃ a' c', e = .returned (.slice a' (4 * N) c') ∧ Owns 2 w' W.heap.size a' (4 * N) c' (m.pf s N).Y ∧ Below W.heap.size W w') := fun W _ _ _ h1 => EV.out W h1 ht.ay rfl
  have HLast : Hid ((m.run s (N - 1)).getD (N - 1) (0, 0) = m.rn s (N - 1)) := M.run_getD m s (Nat.le_refl _)
  have HF0 : Hid (∀ k, k < N → (M.fsts (m.run s (N - 1))).take k ++ [((m.run s (N - 1)).getD k (0, 0)).1] = (M.fsts (m.run s (N - 1))).take (k + 1)) := fun k hk => M.fsts_snoc _ (by rw [M.run_len]; omega)
  have HG0 : Hid (∀ k, k < N → (M.snds (m.run s (N - 1))).take k ++ [((m.run s (N - 1)).getD k (0, 0)).2] = (M.snds (m.run s (N - 1))).take (k + 1)) := fun k hk => M.snds_snoc _ (by rw [M.run_len]; omega)
  have HFN : Hid ((M.fsts (m.run s (N - 1))).take N = M.fsts (m.run s (N - 1))) := M.fsts_take (by rw [M.run_len]; omega)
  have HGN : Hid ((M.snds (m.run s (N - 1))).take N = M.snds (m.run s (N - 1))) := M.snds_take (by rw [M.run_len]; omega)
  simp only [← hK] at EV CV1 CV2 ⊢
  generalize (m.pf s N).X = VX at CV1 ⊢
  generalize (m.pf s N).Y = VY at CV2 ⊢
  generalize (m.pf s N).QX = QX at D1 ⊢
  generalize (m.pf s N).QY = QY at D2 ⊢
  generalize M.left (M.fx m s N) (M.rl m.X (M.fx m s N) (M.fy m s N)) (M.root N) (M.lst N) = LX at E1 D1
  generalize M.left (M.fy m s N) (M.rl m.Y (M.fx m s N) (M.fy m s N)) (M.root N) (M.lst N) = LY at E2 D2
  generalize M.rl m.X (M.fx m s N) (M.fy m s N) = RX at R1 E1
  generalize M.rl m.Y (M.fx m s N) (M.fy m s N) = RY at R2 E2
  generalize M.zeroL N = ZL at Z1 D1 D2
  generalize M.fx m s N = FX at C5 R1 R2 E1 CV1 HXl
  generalize M.fy m s N = FY at C6 R1 R2 E2 CV2 HYl
  generalize M.fsts (m.run s (N - 1)) = FSx at C5 HF0 HFN
  generalize M.snds (m.run s (N - 1)) = GS at C6 HG0 HGN
  generalize m.run s (N - 1) = RN at C4 HLast HF0 HG0
  generalize m.rn s (N - 1) = en at HLast ⊢
  have hNw : IntKind.i64.wrap ((N : Int) - 1) = (N : Int) - 1 := by rw [IntKind.wrap_i64]; omega
  have hKw : IntKind.i64.wrap (4 * (N : Int)) = (K : Int) := by rw [IntKind.wrap_i64]; omega
  have hK4i : 4 * (N : Int) = (K : Int) := by omega
  have hNb : (N : Int) ≤ 16 := by omega
  have hNl : (2 : Int) ≤ (N : Int) := by omega
  have hK0 : 0 < K := by omega
  have hN0 : 0 < N := by omega
  have hi0 : (0 : Int) ≤ (N : Int) - 1 := by omega
  have hi2 : ¬ (N : Int) < 1 := by omega
  have hi1 : (N : Int) - 1 < (N : Int) := by omega
  have hNt : ((N : Int) - 1).toNat = N - 1 := by omega
  obtain ⟨i0, hi, hz0, hz1, hz2⟩ := info_parts info_i64
  have HI : Hid (Try.prog.info? 2 = some i0 ∧ i0.zero = some (Value.int .i64 0) ∧ i0.size = 1 ∧ i0.bytes = 8) := ⟨hi, hz0, hz1, hz2⟩
  obtain ⟨⟨a, b, c, d, f, k⟩, ⟨a', b', c', d', f', k'⟩⟩ := m
  obtain ⟨x, y⟩ := s
  obtain ⟨ex, ey⟩ := en
  dsimp only [mcv, stv, rlv] at C1 C2 C4 R1 R2 ⊢
  have HMa : Hid (Lies (((w.alloc (.cells #[.int .i64 a, .int .i64 b, .int .i64 c, .int .i64 d, .int .i64 f, .int .i64 k, .int .i64 a', .int .i64 b', .int .i64 c', .int .i64 d', .int .i64 f', .int .i64 k'] 36)).alloc (.cells #[.int .i64 x, .int .i64 y] 28)).alloc (.cells #[.int .i64 0, .int .i64 0, .int .i64 0, .int .i64 0, .slice none 0 0, .slice none 0 0, .slice none 0 0, .slice none 0 0] 31)) w.heap.size [.int .i64 a, .int .i64 b, .int .i64 c, .int .i64 d, .int .i64 f, .int .i64 k, .int .i64 a', .int .i64 b', .int .i64 c', .int .i64 d', .int .i64 f', .int .i64 k']) := ((lies_new _ _ _).alloc _).alloc _
  have HSt : Hid (Lies (((w.alloc (.cells #[.int .i64 a, .int .i64 b, .int .i64 c, .int .i64 d, .int .i64 f, .int .i64 k, .int .i64 a', .int .i64 b', .int .i64 c', .int .i64 d', .int .i64 f', .int .i64 k'] 36)).alloc (.cells #[.int .i64 x, .int .i64 y] 28)).alloc (.cells #[.int .i64 0, .int .i64 0, .int .i64 0, .int .i64 0, .slice none 0 0, .slice none 0 0, .slice none 0 0, .slice none 0 0] 31)) (w.heap.size + 1) [.int .i64 x, .int .i64 y]) := (lies_new2 _ _ _ _).alloc _
  have HZ : Hid (Lies (((w.alloc (.cells #[.int .i64 a, .int .i64 b, .int .i64 c, .int .i64 d, .int .i64 f, .int .i64 k, .int .i64 a', .int .i64 b', .int .i64 c', .int .i64 d', .int .i64 f', .int .i64 k'] 36)).alloc (.cells #[.int .i64 x, .int .i64 y] 28)).alloc (.cells #[.int .i64 0, .int .i64 0, .int .i64 0, .int .i64 0, .slice none 0 0, .slice none 0 0, .slice none 0 0, .slice none 0 0] 31)) (w.heap.size + 1 + 1) [.int .i64 0, .int .i64 0, .int .i64 0, .int .i64 0, .slice none 0 0, .slice none 0 0, .slice none 0 0, .slice none 0 0]) := lies_new3 _ _ _ _ _
  have HB : Hid (Below w.heap.size w (((w.alloc (.cells #[.int .i64 a, .int .i64 b, .int .i64 c, .int .i64 d, .int .i64 f, .int .i64 k, .int .i64 a', .int .i64 b', .int .i64 c', .int .i64 d', .int .i64 f', .int .i64 k'] 36)).alloc (.cells #[.int .i64 x, .int .i64 y] 28)).alloc (.cells #[.int .i64 0, .int .i64 0, .int .i64 0, .int .i64 0, .slice none 0 0, .slice none 0 0, .slice none 0 0, .slice none 0 0] 31))) := (((Below.refl _ _).alloc (Nat.le_refl _) _).alloc (by simp) _).alloc (by simp; omega) _
  clear hm hs h hK hi hz0 hz1 hz2 hro ht hLX hLY hmX hmY lrX lrY lfX lfY
  go_enter Try.func4, Try.ntmps4
  go_wp2_with fail
  refine (C1 _).mono ?_
  rintro e w1 ⟨rfl, hb1⟩
  have HMan : Hid (Lies w1 w.heap.size [.int .i64 a, .int .i64 b, .int .i64 c, .int .i64 d, .int .i64 f, .int .i64 k, .int .i64 a', .int .i64 b', .int .i64 c', .int .i64 d', .int .i64 f', .int .i64 k']) := HMa.out.belowS hb1
  have HStn : Hid (Lies w1 (w.heap.size + 1) [.int .i64 x, .int .i64 y]) := HSt.out.belowS hb1
  have HZn : Hid (Lies w1 (w.heap.size + 1 + 1) [.int .i64 0, .int .i64 0, .int .i64 0, .int .i64 0, .slice none 0 0, .slice none 0 0, .slice none 0 0, .slice none 0 0]) := HZ.out.belowS hb1
  clear HMa HSt HZ
  have HMa : Hid (Lies w1 w.heap.size [.int .i64 a, .int .i64 b, .int .i64 c, .int .i64 d, .int .i64 f, .int .i64 k, .int .i64 a', .int .i64 b', .int .i64 c', .int .i64 d', .int .i64 f', .int .i64 k']) := HMan.out
  have HSt : Hid (Lies w1 (w.heap.size + 1) [.int .i64 x, .int .i64 y]) := HStn.out
  have HZ : Hid (Lies w1 (w.heap.size + 1 + 1) [.int .i64 0, .int .i64 0, .int .i64 0, .int .i64 0, .slice none 0 0, .slice none 0 0, .slice none 0 0, .slice none 0 0]) := HZn.out
  clear HMan HStn HZn
  have HBn : Hid (Below w.heap.size w w1) := HB.out.trans (hb1.mono HB.out.size)
  clear HB
  have HB : Hid (Below w.heap.size w w1) := HBn.out
  clear HBn hb1
  have s0 : w1.cell? ⟨w.heap.size + 1, 0, none⟩ = some (.int .i64 x) := HSt.out.at 0
  have s1 : w1.cell? ⟨w.heap.size + 1, 1, none⟩ = some (.int .i64 y) := HSt.out.at 1
  go_wp2_with fail
  refine (C2 _).mono ?_
  rintro e w2 ⟨rfl, hb2⟩
  have HMan : Hid (Lies w2 w.heap.size [.int .i64 a, .int .i64 b, .int .i64 c, .int .i64 d, .int .i64 f, .int .i64 k, .int .i64 a', .int .i64 b', .int .i64 c', .int .i64 d', .int .i64 f', .int .i64 k']) := HMa.out.belowS hb2
  have HStn : Hid (Lies w2 (w.heap.size + 1) [.int .i64 x, .int .i64 y]) := HSt.out.belowS hb2
  have HZn : Hid (Lies w2 (w.heap.size + 1 + 1) [.int .i64 0, .int .i64 0, .int .i64 0, .int .i64 0, .slice none 0 0, .slice none 0 0, .slice none 0 0, .slice none 0 0]) := HZ.out.belowS hb2
  clear HMa HSt HZ
  have HMa : Hid (Lies w2 w.heap.size [.int .i64 a, .int .i64 b, .int .i64 c, .int .i64 d, .int .i64 f, .int .i64 k, .int .i64 a', .int .i64 b', .int .i64 c', .int .i64 d', .int .i64 f', .int .i64 k']) := HMan.out
  have HSt : Hid (Lies w2 (w.heap.size + 1) [.int .i64 x, .int .i64 y]) := HStn.out
  have HZ : Hid (Lies w2 (w.heap.size + 1 + 1) [.int .i64 0, .int .i64 0, .int .i64 0, .int .i64 0, .slice none 0 0, .slice none 0 0, .slice none 0 0, .slice none 0 0]) := HZn.out
  clear HMan HStn HZn
  have HBn : Hid (Below w.heap.size w w2) := HB.out.trans (hb2.mono HB.out.size)
  clear HB
  have HB : Hid (Below w.heap.size w w2) := HBn.out
  clear HBn hb2
  clear s0 s1
  go_wp2_with fail
  refine (C3 _).mono ?_
  rintro e w2 ⟨rfl, rfl⟩
  have s0 : w2.cell? ⟨w.heap.size + 1, 0, none⟩ = some (.int .i64 x) := HSt.out.at 0
  have s1 : w2.cell? ⟨w.heap.size + 1, 1, none⟩ = some (.int .i64 y) := HSt.out.at 1
  have m0 : w2.cell? ⟨w.heap.size, 0, none⟩ = some (.int .i64 a) := HMa.out.at 0
  have m1 : w2.cell? ⟨w.heap.size, 1, none⟩ = some (.int .i64 b) := HMa.out.at 1
  have m2 : w2.cell? ⟨w.heap.size, 2, none⟩ = some (.int .i64 c) := HMa.out.at 2
  have m3 : w2.cell? ⟨w.heap.size, 3, none⟩ = some (.int .i64 d) := HMa.out.at 3
  have m4 : w2.cell? ⟨w.heap.size, 4, none⟩ = some (.int .i64 f) := HMa.out.at 4
  have m5 : w2.cell? ⟨w.heap.size, 5, none⟩ = some (.int .i64 k) := HMa.out.at 5
  have m6 : w2.cell? ⟨w.heap.size, 6, none⟩ = some (.int .i64 a') := HMa.out.at 6
  have m7 : w2.cell? ⟨w.heap.size, 7, none⟩ = some (.int .i64 b') := HMa.out.at 7
  have m8 : w2.cell? ⟨w.heap.size, 8, none⟩ = some (.int .i64 c') := HMa.out.at 8
  have m9 : w2.cell? ⟨w.heap.size, 9, none⟩ = some (.int .i64 d') := HMa.out.at 9
  have m10 : w2.cell? ⟨w.heap.size, 10, none⟩ = some (.int .i64 f') := HMa.out.at 10
  have m11 : w2.cell? ⟨w.heap.size, 11, none⟩ = some (.int .i64 k') := HMa.out.at 11
  go_wp2_with fail
  refine (C4 _).mono ?_
  rintro e w3 ⟨la0, lc, rfl, ho3, hb3⟩
  have HRz : Hid (OwnsQ 28 w3 (w.heap.size + 1 + 1 + 1) la0 N lc RN) := ho3.mono HZ.out.2.2
  clear ho3
  have HMan : Hid (Lies w3 w.heap.size [.int .i64 a, .int .i64 b, .int .i64 c, .int .i64 d, .int .i64 f, .int .i64 k, .int .i64 a', .int .i64 b', .int .i64 c', .int .i64 d', .int .i64 f', .int .i64 k']) := HMa.out.belowS hb3
  have HStn : Hid (Lies w3 (w.heap.size + 1) [.int .i64 x, .int .i64 y]) := HSt.out.belowS hb3
  have HZn : Hid (Lies w3 (w.heap.size + 1 + 1) [.int .i64 0, .int .i64 0, .int .i64 0, .int .i64 0, .slice none 0 0, .slice none 0 0, .slice none 0 0, .slice none 0 0]) := HZ.out.belowS hb3
  clear HMa HSt HZ
  have HMa : Hid (Lies w3 w.heap.size [.int .i64 a, .int .i64 b, .int .i64 c, .int .i64 d, .int .i64 f, .int .i64 k, .int .i64 a', .int .i64 b', .int .i64 c', .int .i64 d', .int .i64 f', .int .i64 k']) := HMan.out
  have HSt : Hid (Lies w3 (w.heap.size + 1) [.int .i64 x, .int .i64 y]) := HStn.out
  have HZ : Hid (Lies w3 (w.heap.size + 1 + 1) [.int .i64 0, .int .i64 0, .int .i64 0, .int .i64 0, .slice none 0 0, .slice none 0 0, .slice none 0 0, .slice none 0 0]) := HZn.out
  clear HMan HStn HZn
  have HBn : Hid (Below w.heap.size w w3) := HB.out.trans (hb3.mono HB.out.size)
  clear HB
  have HB : Hid (Below w.heap.size w w3) := HBn.out
  clear HBn hb3
  clear s0 s1 m0 m1 m2 m3 m4 m5 m6 m7 m8 m9 m10 m11 C1 C2 C3 C4
  obtain ⟨lb, hlb, hlo, -, -, hlc⟩ := HRz.out.block hN0
  subst hlb
  have HLC : Hid (∀ i, i < N → w3.cell? ⟨lb, i * 2, none⟩ = some (.int .i64 (RN.getD i (0, 0)).1) ∧ w3.cell? ⟨lb, i * 2 + 1, none⟩ = some (.int .i64 (RN.getD i (0, 0)).2)) := hlc
  have HLlt : Hid (lb < w3.heap.size) := World.block_lt_of_cell? w3 _ (hlc 0 hN0).1
  have HRBl : Hid ((w.heap.size + 1 + 1) < lb) := hlo
  clear hlc HRz hlo
  have HO1 : Hid (Owns 2 ((w3.alloc (.cells #[] 2)).alloc (.cells #[] 2)) w3.heap.size (some ⟨w3.heap.size, 0, none⟩) 0 0 (FSx.take 0)) := by
    have h := World.ownsRow_made (base := w3.heap.size) (e := 2) (size := 1) w3 #[] 0 (Nat.le_refl _) (by unfold maxLen; omega) rfl
    exact World.ownsRow.alloc h _
  have HO2 : Hid (Owns 2 ((w3.alloc (.cells #[] 2)).alloc (.cells #[] 2)) w3.heap.size (some ⟨w3.heap.size + 1, 0, none⟩) 0 0 (GS.take 0)) := by
    have h := World.ownsRow_made (base := w3.heap.size) (e := 2) (size := 1) (w3.alloc (.cells #[] 2)) #[] 0 (by simp) (by unfold maxLen; omega) rfl
    rw [show (w3.alloc (.cells #[] 2)).heap.size = w3.heap.size + 1 by simp] at h
    exact h
  have HB3 : Hid (Below w3.heap.size w3 ((w3.alloc (.cells #[] 2)).alloc (.cells #[] 2))) := ((Below.refl _ _).alloc (Nat.le_refl _) _).alloc (by simp) _
  go_wp2
  go_loopw [10, 11, 12] (fun s1 s2 i wr => ∃ (k : Nat) (a1 : Option Addr) (c1 : Nat) (a2 : Option Addr) (c2 : Nat), k ≤ N ∧ i = .int .i64 k ∧ s1 = .slice a1 k c1 ∧ s2 = .slice a2 k c2 ∧ Owns 2 wr w3.heap.size a1 k c1 (FSx.take k) ∧ Owns 2 wr w3.heap.size a2 k c2 (GS.take k) ∧ far a1 a2 ∧ Below w3.heap.size w3 wr) (fun _ _ i _ => N - (intOf i).toNat)
  case atStart => exact ⟨0, _, _, _, _, by omega, rfl, rfl, rfl, HO1.out, HO2.out, fun z1 z2 h1 h2 e => by injection h1 with h1; injection h2 with h2; subst h1; subst h2; simp at e, HB3.out⟩
  case round =>
    obtain ⟨k, a1, c1, a2, c2, hk, rfl, rfl, rfl, hp1, hp2, hp3, hp4⟩ := hrel
    have HP1 : Hid (Owns 2 wr w3.heap.size a1 k c1 (FSx.take k)) := hp1
    have HP2 : Hid (Owns 2 wr w3.heap.size a2 k c2 (GS.take k)) := hp2
    have HP3 : Hid (far a1 a2) := hp3
    have HP4 : Hid (Below w3.heap.size w3 wr) := hp4
    clear hp1 hp2 hp3 hp4 HO1 HO2 HB3
    by_cases hlt : k < N
    · have e1 := (HP4.out.cell (p := ⟨lb, k * 2, none⟩) HLlt.out).trans (HLC.out k hlt).1
      have e2 := (HP4.out.cell (p := ⟨lb, k * 2 + 1, none⟩) HLlt.out).trans (HLC.out k hlt).2
      have HFk := HF0.out k hlt
      have HGk := HG0.out k hlt
      have hI : (k : Int) < (N : Int) := by omega
      have HE2 : Hid (wr.cell? ⟨lb, k * 2 + 1, none⟩ = some (.int .i64 (RN.getD k (0, 0)).2)) := e2
      have HFk' : Hid (FSx.take k ++ [(RN.getD k (0, 0)).1] = FSx.take (k + 1)) := HFk
      have HGk' : Hid (GS.take k ++ [(RN.getD k (0, 0)).2] = GS.take (k + 1)) := HGk
      clear HFk HGk e2
      generalize (RN.getD k (0, 0)).1 = u at e1 HFk'
      generalize (RN.getD k (0, 0)).2 = v at HE2 HGk'
      generalize FSx.take k = F1 at HP1 HFk'
      generalize GS.take k = G1 at HP2 HGk'
      go_wp2_with (at_builtin; refine wpList_append_own_at _ rfl _ _ 29 rfl w3.heap.size 2 i0 (.int .i64 0) 1 8 Try.underlying29 HI.out.1 HI.out.2.1 HI.out.2.2.1 HI.out.2.2.2 rfl (by decide) _ k (F1.map (Value.int .i64)) rfl (World.ownsRow.alloc HP1.out _) ⟨wr.heap.size, 0, none⟩ 1 1 [.int .i64 u] rfl rfl (cell_one _ _ _) (one_int _) (by unfold maxLen; omega) (by omega) (by have := HP4.out.size; simp; omega) ?_)
      intro v' w4 hown hgrow _ hat
      have hown' : w4.ownsRow w3.heap.size 2 1 v' (k + 1) ((FSx.take (k + 1)).map (Value.int .i64)) := by rw [← HFk'.out, List.map_append]; exact hown
      obtain ⟨b4, c4, rfl, ho4⟩ := Owns.form hown'
      have HP14 : Hid (Owns 2 w4 w3.heap.size b4 (k + 1) c4 (FSx.take (k + 1))) := ho4
      have HP24 : Hid (Owns 2 w4 w3.heap.size a2 k c2 G1) := Owns.grownR (w := wr.alloc (.cells #[Value.int .i64 u] 2)) (HP2.out.below ((Below.refl _ _).alloc (Nat.le_refl _) _)) hgrow (fun z hz => own_none (fun q hq => HP3.out q z hq hz))
      have HP34 : Hid (far b4 a2) := fun z1 z2 h1 h2 => far_atN hat (by have := HP2.out.hi z2 h2; simp; omega) (fun q hq => HP3.out q z2 hq h2) z1 h1
      have HP44 : Hid (Below w3.heap.size w3 w4) := (HP4.out.alloc HP4.out.size _).grown hgrow (by have := HP4.out.size; simp; omega) HP1.out.row
      have e2 : w4.cell? ⟨lb, k * 2 + 1, none⟩ = some (.int .i64 v) := (HP44.out.cell (p := ⟨lb, k * 2 + 1, none⟩) HLlt.out).trans ((HP4.out.cell (p := ⟨lb, k * 2 + 1, none⟩) HLlt.out).symm.trans HE2.out)
      clear hown hown' hgrow ho4 hat HP1 HP2 HP3 HP4 HE2 HFk'
      go_wp2_with (at_builtin; refine wpList_append_own_at _ rfl _ _ 29 rfl w3.heap.size 2 i0 (.int .i64 0) 1 8 Try.underlying29 HI.out.1 HI.out.2.1 HI.out.2.2.1 HI.out.2.2.2 rfl (by decide) _ k (G1.map (Value.int .i64)) rfl (World.ownsRow.alloc HP24.out _) ⟨w4.heap.size, 0, none⟩ 1 1 [.int .i64 v] rfl rfl (cell_one _ _ _) (one_int _) (by unfold maxLen; omega) (by omega) (by have := HP44.out.size; simp; omega) ?_)
      intro v' w5 hown hgrow _ hat
      have hown' : w5.ownsRow w3.heap.size 2 1 v' (k + 1) ((GS.take (k + 1)).map (Value.int .i64)) := by rw [← HGk'.out, List.map_append]; exact hown
      obtain ⟨b5, c5, rfl, ho5⟩ := Owns.form hown'
      have HP25 : Hid (Owns 2 w5 w3.heap.size b5 (k + 1) c5 (GS.take (k + 1))) := ho5
      have HP15 : Hid (Owns 2 w5 w3.heap.size b4 (k + 1) c4 (FSx.take (k + 1))) := Owns.grownR (w := w4.alloc (.cells #[Value.int .i64 v] 2)) (HP14.out.below ((Below.refl _ _).alloc (Nat.le_refl _) _)) hgrow (fun z hz => own_none (fun q hq => (HP34.out.symm) q z hq hz))
      have HP35 : Hid (far b4 b5) := fun z1 z2 h1 h2 => (far_atN hat (by have := HP14.out.hi z1 h1; simp; omega) (fun q hq => HP34.out.symm q z1 hq h1) z2 h2).symm
      have HP45 : Hid (Below w3.heap.size w3 w5) := (HP44.out.alloc HP44.out.size _).grown hgrow (by have := HP44.out.size; simp; omega) HP24.out.row
      clear hown hown' hgrow ho5 hat HP14 HP24 HP34 HP44
      go_wp2
      go_roundw
      case rel => exact ⟨k + 1, b4, c4, b5, c5, by omega, by go_num, rfl, rfl, HP15.out, HP25.out, HP35.out, HP45.out⟩
      case measure => simp [intOf]; omega
    · have hkn : N = k := by omega
      subst hkn
      rw [HFN.out] at HP1
      rw [HGN.out] at HP2
      have HW3 : Hid (Below w3.heap.size w3 wr) := HP4.out
      have HPx : Hid (Owns 2 wr w3.heap.size a1 N c1 FSx) := HP1.out
      have HPy : Hid (Owns 2 wr w3.heap.size a2 N c2 GS) := HP2.out
      clear HP1 HP2 HP3 HP4
      go_wp2_with fail
      refine (C5.out _ HPx.out.sees).mono ?_
      rintro e wt1 ⟨xa, xl, xc, rfl, hox, hbt1⟩
      have hxl : xl ≤ 16 := by have h1 := hox.len; have h2 := HXl.out; omega
      have HXn : Hid (Owns 2 wt1 w3.heap.size xa xl xc FX) := hox.mono HW3.out.size
      have HW3n : Hid (Below w3.heap.size w3 wt1) := HW3.out.trans (hbt1.mono HW3.out.size)
      have HPyn : Hid (Owns 2 wt1 w3.heap.size a2 N c2 GS) := HPy.out.below hbt1
      clear HW3 HPx HPy hbt1
      have HW3 : Hid (Below w3.heap.size w3 wt1) := HW3n.out
      have HPy : Hid (Owns 2 wt1 w3.heap.size a2 N c2 GS) := HPyn.out
      have HX : Hid (Owns 2 wt1 w3.heap.size xa xl xc FX) := HXn.out
      clear HW3n HPyn HXn
      clear hox
      go_wp2_with fail
      refine (C6.out _ HPy.out.sees).mono ?_
      rintro e wt2 ⟨ya, yl, yc, rfl, hoy, hbt2⟩
      have hyl : yl ≤ 16 := by have h1 := hoy.len; have h2 := HYl.out; omega
      have HYn : Hid (Owns 2 wt2 w3.heap.size ya yl yc FY) := hoy.mono HW3.out.size
      have HW3n : Hid (Below w3.heap.size w3 wt2) := HW3.out.trans (hbt2.mono HW3.out.size)
      have HXn : Hid (Owns 2 wt2 w3.heap.size xa xl xc FX) := HX.out.below hbt2
      clear HW3 HPy HX hbt2
      have HW3 : Hid (Below w3.heap.size w3 wt2) := HW3n.out
      have HX : Hid (Owns 2 wt2 w3.heap.size xa xl xc FX) := HXn.out
      have HY : Hid (Owns 2 wt2 w3.heap.size ya yl yc FY) := HYn.out
      clear HW3n HXn HYn
      clear hoy
      have m0 : wt2.cell? ⟨w.heap.size, 0, none⟩ = some (.int .i64 a) := (HMa.out.belowS HW3.out).at 0
      have m1 : wt2.cell? ⟨w.heap.size, 1, none⟩ = some (.int .i64 b) := (HMa.out.belowS HW3.out).at 1
      have m2 : wt2.cell? ⟨w.heap.size, 2, none⟩ = some (.int .i64 c) := (HMa.out.belowS HW3.out).at 2
      have m3 : wt2.cell? ⟨w.heap.size, 3, none⟩ = some (.int .i64 d) := (HMa.out.belowS HW3.out).at 3
      have m4 : wt2.cell? ⟨w.heap.size, 4, none⟩ = some (.int .i64 f) := (HMa.out.belowS HW3.out).at 4
      have m5 : wt2.cell? ⟨w.heap.size, 5, none⟩ = some (.int .i64 k) := (HMa.out.belowS HW3.out).at 5
      go_wp2_with fail
      refine (R1.out _ HX.out.sees HY.out.sees).mono ?_
      rintro e wt3 ⟨ta, tl, tc, rfl, htl, hor, hbt3⟩
      have HTn : Hid (Owns 2 wt3 w3.heap.size ta tl tc RX) := hor.mono HW3.out.size
      have HW3n : Hid (Below w3.heap.size w3 wt3) := HW3.out.trans (hbt3.mono HW3.out.size)
      have HXn : Hid (Owns 2 wt3 w3.heap.size xa xl xc FX) := HX.out.below hbt3
      have HYn : Hid (Owns 2 wt3 w3.heap.size ya yl yc FY) := HY.out.below hbt3
      clear HW3 HX HY hbt3
      have HW3 : Hid (Below w3.heap.size w3 wt3) := HW3n.out
      have HX : Hid (Owns 2 wt3 w3.heap.size xa xl xc FX) := HXn.out
      have HY : Hid (Owns 2 wt3 w3.heap.size ya yl yc FY) := HYn.out
      have HT : Hid (Owns 2 wt3 w3.heap.size ta tl tc RX) := HTn.out
      clear HW3n HXn HYn HTn
      clear hor htl m0 m1 m2 m3 m4 m5
      go_wp2_with fail
      refine (E1.out _ HX.out.sees HT.out.sees).mono ?_
      rintro e wt4 ⟨ea, el, ec, rfl, hoe, hbt4⟩
      have HEn : Hid (Owns 2 wt4 w3.heap.size ea el ec LX) := hoe.mono HW3.out.size
      have HW3n : Hid (Below w3.heap.size w3 wt4) := HW3.out.trans (hbt4.mono HW3.out.size)
      have HXn : Hid (Owns 2 wt4 w3.heap.size xa xl xc FX) := HX.out.below hbt4
      have HYn : Hid (Owns 2 wt4 w3.heap.size ya yl yc FY) := HY.out.below hbt4
      clear HW3 HX HY HT hbt4
      have HW3 : Hid (Below w3.heap.size w3 wt4) := HW3n.out
      have HX : Hid (Owns 2 wt4 w3.heap.size xa xl xc FX) := HXn.out
      have HY : Hid (Owns 2 wt4 w3.heap.size ya yl yc FY) := HYn.out
      have HE : Hid (Owns 2 wt4 w3.heap.size ea el ec LX) := HEn.out
      clear HW3n HXn HYn HEn
      clear hoe
      go_wp2_with fail
      refine (Z1 _).mono ?_
      rintro e wt5 ⟨za, zc, rfl, hoz, hbt5⟩
      have HZzn : Hid (Owns 2 wt5 w3.heap.size za (N + 1) zc ZL) := hoz.mono HW3.out.size
      have HW3n : Hid (Below w3.heap.size w3 wt5) := HW3.out.trans (hbt5.mono HW3.out.size)
      have HXn : Hid (Owns 2 wt5 w3.heap.size xa xl xc FX) := HX.out.below hbt5
      have HYn : Hid (Owns 2 wt5 w3.heap.size ya yl yc FY) := HY.out.below hbt5
      have HEn : Hid (Owns 2 wt5 w3.heap.size ea el ec LX) := HE.out.below hbt5
      clear HW3 HX HY HE hbt5
      have HW3 : Hid (Below w3.heap.size w3 wt5) := HW3n.out
      have HX : Hid (Owns 2 wt5 w3.heap.size xa xl xc FX) := HXn.out
      have HY : Hid (Owns 2 wt5 w3.heap.size ya yl yc FY) := HYn.out
      have HE : Hid (Owns 2 wt5 w3.heap.size ea el ec LX) := HEn.out
      have HZz : Hid (Owns 2 wt5 w3.heap.size za (N + 1) zc ZL) := HZzn.out
      clear HW3n HXn HYn HEn HZzn
      clear hoz
      go_wp2_with fail
      refine (D1.out _ HE.out.sees HZz.out.sees).mono ?_
      rintro e wt6 ⟨qa, ql, qc, qa2, ql2, qc2, q1, rfl, hoq, hq1, hbt6⟩
      have HQn : Hid (Owns 2 wt6 w3.heap.size qa ql qc q1) := hoq.mono HW3.out.size
      have HW3n : Hid (Below w3.heap.size w3 wt6) := HW3.out.trans (hbt6.mono HW3.out.size)
      have HXn : Hid (Owns 2 wt6 w3.heap.size xa xl xc FX) := HX.out.below hbt6
      have HYn : Hid (Owns 2 wt6 w3.heap.size ya yl yc FY) := HY.out.below hbt6
      clear HW3 HX HY HE HZz hbt6
      have HW3 : Hid (Below w3.heap.size w3 wt6) := HW3n.out
      have HX : Hid (Owns 2 wt6 w3.heap.size xa xl xc FX) := HXn.out
      have HY : Hid (Owns 2 wt6 w3.heap.size ya yl yc FY) := HYn.out
      have HQ : Hid (Owns 2 wt6 w3.heap.size qa ql qc q1) := HQn.out
      clear HW3n HXn HYn HQn
      clear hoq
      have HQ1 : Hid (M.wide q1 N = QX ∧ M.allEl q1 = true) := hq1
      clear hq1
      have m6 : wt6.cell? ⟨w.heap.size, 6, none⟩ = some (.int .i64 a') := (HMa.out.belowS HW3.out).at 6
      have m7 : wt6.cell? ⟨w.heap.size, 7, none⟩ = some (.int .i64 b') := (HMa.out.belowS HW3.out).at 7
      have m8 : wt6.cell? ⟨w.heap.size, 8, none⟩ = some (.int .i64 c') := (HMa.out.belowS HW3.out).at 8
      have m9 : wt6.cell? ⟨w.heap.size, 9, none⟩ = some (.int .i64 d') := (HMa.out.belowS HW3.out).at 9
      have m10 : wt6.cell? ⟨w.heap.size, 10, none⟩ = some (.int .i64 f') := (HMa.out.belowS HW3.out).at 10
      have m11 : wt6.cell? ⟨w.heap.size, 11, none⟩ = some (.int .i64 k') := (HMa.out.belowS HW3.out).at 11
      go_wp2_with fail
      refine (R2.out _ HX.out.sees HY.out.sees).mono ?_
      rintro e wt7 ⟨ta, tl, tc, rfl, htl, hor, hbt7⟩
      have HTn : Hid (Owns 2 wt7 w3.heap.size ta tl tc RY) := hor.mono HW3.out.size
      have HW3n : Hid (Below w3.heap.size w3 wt7) := HW3.out.trans (hbt7.mono HW3.out.size)
      have HXn : Hid (Owns 2 wt7 w3.heap.size xa xl xc FX) := HX.out.below hbt7
      have HYn : Hid (Owns 2 wt7 w3.heap.size ya yl yc FY) := HY.out.below hbt7
      have HQn : Hid (Owns 2 wt7 w3.heap.size qa ql qc q1) := HQ.out.below hbt7
      clear HW3 HX HY HQ hbt7
      have HW3 : Hid (Below w3.heap.size w3 wt7) := HW3n.out
      have HX : Hid (Owns 2 wt7 w3.heap.size xa xl xc FX) := HXn.out
      have HY : Hid (Owns 2 wt7 w3.heap.size ya yl yc FY) := HYn.out
      have HQ : Hid (Owns 2 wt7 w3.heap.size qa ql qc q1) := HQn.out
      have HT : Hid (Owns 2 wt7 w3.heap.size ta tl tc RY) := HTn.out
      clear HW3n HXn HYn HQn HTn
      clear hor htl m6 m7 m8 m9 m10 m11
      go_wp2_with fail
      refine (E2.out _ HY.out.sees HT.out.sees).mono ?_
      rintro e wt8 ⟨ea, el, ec, rfl, hoe, hbt8⟩
      have HEn : Hid (Owns 2 wt8 w3.heap.size ea el ec LY) := hoe.mono HW3.out.size
      have HW3n : Hid (Below w3.heap.size w3 wt8) := HW3.out.trans (hbt8.mono HW3.out.size)
      have HXn : Hid (Owns 2 wt8 w3.heap.size xa xl xc FX) := HX.out.below hbt8
      have HYn : Hid (Owns 2 wt8 w3.heap.size ya yl yc FY) := HY.out.below hbt8
      have HQn : Hid (Owns 2 wt8 w3.heap.size qa ql qc q1) := HQ.out.below hbt8
      clear HW3 HX HY HQ HT hbt8
      have HW3 : Hid (Below w3.heap.size w3 wt8) := HW3n.out
      have HX : Hid (Owns 2 wt8 w3.heap.size xa xl xc FX) := HXn.out
      have HY : Hid (Owns 2 wt8 w3.heap.size ya yl yc FY) := HYn.out
      have HQ : Hid (Owns 2 wt8 w3.heap.size qa ql qc q1) := HQn.out
      have HE : Hid (Owns 2 wt8 w3.heap.size ea el ec LY) := HEn.out
      clear HW3n HXn HYn HQn HEn
      clear hoe
      go_wp2_with fail
      refine (Z1 _).mono ?_
      rintro e wt9 ⟨za, zc, rfl, hoz, hbt9⟩
      have HZzn : Hid (Owns 2 wt9 w3.heap.size za (N + 1) zc ZL) := hoz.mono HW3.out.size
      have HW3n : Hid (Below w3.heap.size w3 wt9) := HW3.out.trans (hbt9.mono HW3.out.size)
      have HXn : Hid (Owns 2 wt9 w3.heap.size xa xl xc FX) := HX.out.below hbt9
      have HYn : Hid (Owns 2 wt9 w3.heap.size ya yl yc FY) := HY.out.below hbt9
      have HQn : Hid (Owns 2 wt9 w3.heap.size qa ql qc q1) := HQ.out.below hbt9
      have HEn : Hid (Owns 2 wt9 w3.heap.size ea el ec LY) := HE.out.below hbt9
      clear HW3 HX HY HQ HE hbt9
      have HW3 : Hid (Below w3.heap.size w3 wt9) := HW3n.out
      have HX : Hid (Owns 2 wt9 w3.heap.size xa xl xc FX) := HXn.out
      have HY : Hid (Owns 2 wt9 w3.heap.size ya yl yc FY) := HYn.out
      have HQ : Hid (Owns 2 wt9 w3.heap.size qa ql qc q1) := HQn.out
      have HE : Hid (Owns 2 wt9 w3.heap.size ea el ec LY) := HEn.out
      have HZz : Hid (Owns 2 wt9 w3.heap.size za (N + 1) zc ZL) := HZzn.out
      clear HW3n HXn HYn HQn HEn HZzn
      clear hoz
      go_wp2_with fail
      refine (D2.out _ HE.out.sees HZz.out.sees).mono ?_
      rintro e wt10 ⟨ga, gl, gc, ga2, gl2, gc2, q2, rfl, hog, hq2, hbt10⟩
      have HGn : Hid (Owns 2 wt10 w3.heap.size ga gl gc q2) := hog.mono HW3.out.size
      have HW3n : Hid (Below w3.heap.size w3 wt10) := HW3.out.trans (hbt10.mono HW3.out.size)
      have HXn : Hid (Owns 2 wt10 w3.heap.size xa xl xc FX) := HX.out.below hbt10
      have HYn : Hid (Owns 2 wt10 w3.heap.size ya yl yc FY) := HY.out.below hbt10
      have HQn : Hid (Owns 2 wt10 w3.heap.size qa ql qc q1) := HQ.out.below hbt10
      clear HW3 HX HY HQ HE HZz hbt10
      have HW3 : Hid (Below w3.heap.size w3 wt10) := HW3n.out
      have HX : Hid (Owns 2 wt10 w3.heap.size xa xl xc FX) := HXn.out
      have HY : Hid (Owns 2 wt10 w3.heap.size ya yl yc FY) := HYn.out
      have HQ : Hid (Owns 2 wt10 w3.heap.size qa ql qc q1) := HQn.out
      have HG : Hid (Owns 2 wt10 w3.heap.size ga gl gc q2) := HGn.out
      clear HW3n HXn HYn HQn HGn
      clear hog
      have HQ2 : Hid (M.wide q2 N = QY ∧ M.allEl q2 = true) := hq2
      clear hq2
      go_wp2
      generalize wt10 = wq at HW3 HX HY HQ HG ⊢
      have HStq : Hid (Lies wq (w.heap.size + 1) [.int .i64 x, .int .i64 y]) := HSt.out.belowS HW3.out
      have HZq : Hid (Lies wq (w.heap.size + 1 + 1) [.int .i64 0, .int .i64 0, .int .i64 0, .int .i64 0, .slice none 0 0, .slice none 0 0, .slice none 0 0, .slice none 0 0]) := HZ.out.belowS HW3.out
      have HBq : Hid (Below w.heap.size w wq) := HB.out.trans (HW3.out.mono HB.out.size)
      have hcl := HLC.out (N - 1) (by omega)
      rw [HLast.out] at hcl
      have HEn : Hid (wq.cell? ⟨lb, (N - 1) * 2, none⟩ = some (.int .i64 ex) ∧ wq.cell? ⟨lb, (N - 1) * 2 + 1, none⟩ = some (.int .i64 ey)) := ⟨(HW3.out.cell (p := ⟨lb, (N - 1) * 2, none⟩) HLlt.out).trans hcl.1, (HW3.out.cell (p := ⟨lb, (N - 1) * 2 + 1, none⟩) HLlt.out).trans hcl.2⟩
      have HRb : Hid (some lb ≠ some (w.heap.size + 1 + 1)) := fun e => by injection e with e; have := HRBl.out; omega
      have HRBQ : Hid ((w.heap.size + 1 + 1) < wq.heap.size) := HZq.out.2.2
      have HZ3 : Hid ((w.heap.size + 1 + 1) < w3.heap.size) := HZ.out.2.2
      have HXq : Hid (Sees wq xa xl xc FX) := HX.out.sees
      have HYq : Hid (Sees wq ya yl yc FY) := HY.out.sees
      have HQq : Hid (Sees wq qa ql qc q1) := HQ.out.sees
      have HGq : Hid (Sees wq ga gl gc q2) := HG.out.sees
      have HXqn : Hid (∀ z, xa = some z → some (w.heap.size + 1 + 1) ≠ some z.block) := fun z hz e => by injection e with e; have := HX.out.lo z hz; have := HZ3.out; omega
      have HYqn : Hid (∀ z, ya = some z → some (w.heap.size + 1 + 1) ≠ some z.block) := fun z hz e => by injection e with e; have := HY.out.lo z hz; have := HZ3.out; omega
      have HQqn : Hid (∀ z, qa = some z → some (w.heap.size + 1 + 1) ≠ some z.block) := fun z hz e => by injection e with e; have := HQ.out.lo z hz; have := HZ3.out; omega
      have HGqn : Hid (∀ z, ga = some z → some (w.heap.size + 1 + 1) ≠ some z.block) := fun z hz e => by injection e with e; have := HG.out.lo z hz; have := HZ3.out; omega
      have CV3 : Hid (∀ (W : World) {a : Option Addr} {n c : Nat}, Sees W a n c q1 → Calls Try.prog 20 #[.slice a n c, .int .i64 (K : Int), .int .i64 3] W fun e w' => ∃ a' c', e = .returned (.slice a' K c') ∧ Owns 2 w' W.heap.size a' K c' QX ∧ Below W.heap.size W w') := fun W _ _ _ h1 => EV.out W h1 HQ1.out.2 HQ1.out.1
      have CV4 : Hid (∀ (W : World) {a : Option Addr} {n c : Nat}, Sees W a n c q2 → Calls Try.prog 20 #[.slice a n c, .int .i64 (K : Int), .int .i64 3] W fun e w' => ∃ a' c', e = .returned (.slice a' K c') ∧ Owns 2 w' W.heap.size a' K c' QY ∧ Below W.heap.size W w') := fun W _ _ _ h1 => EV.out W h1 HQ2.out.2 HQ2.out.1
      clear hcl HX HY HQ HG HW3 HMa HSt HZ HB HLC HLast C5 C6 R1 R2 E1 E2 Z1 D1 D2 EV HQ1 HQ2 HF0 HG0 HFN HGN
      refine wp_region_noPanic ?_
      refine wp_region_held_drew (S := fun W => wq.grownBy W (some (w.heap.size + 1 + 1))) (by kernel_rfl) (grown_drew _ _) (fun hHeld => ?_)
      have HZd : Hid (Lies wq.drew (w.heap.size + 1 + 1) [.int .i64 0, .int .i64 0, .int .i64 0, .int .i64 0, .slice none 0 0, .slice none 0 0, .slice none 0 0, .slice none 0 0]) := HZq.out.below (Below.refl _ _).drew HZq.out.2.2
      generalize wq.drew = wd0 at hHeld HZd ⊢
      refine wpAnyH_take (i := 0) (v := .agg #[.int .i64 x, .int .i64 y]) rfl (by kernel_rfl) (by kernel_rfl) (by kernel_rfl) (fun _ _ _ h => h) (Or.inl ⟨by kernel_rfl, ?_⟩) (by assumption) ?_
      · intro wp hSp; have c0 : wp.cell? ⟨w.heap.size + 1, 0, none⟩ = some (.int .i64 x) := (HStq.out.grown hSp (by simp)).at 0; have c1 : wp.cell? ⟨w.heap.size + 1, 1, none⟩ = some (.int .i64 y) := (HStq.out.grown hSp (by simp)).at 1; go_simp
      try simp only [Act.put]
      refine wpAnyH_take (i := 1) (v := .slice (some ⟨lb, 0, none⟩) N lc) rfl (by kernel_rfl) (by kernel_rfl) (by kernel_rfl) (fun _ _ _ h => h) (Or.inl ⟨by kernel_rfl, ?_⟩) (by assumption) ?_
      · intro wq hSq; go_simp
      try simp only [Act.put]
      refine wpAnyH_take (i := 2) (v := .int .i64 (N : Int)) rfl (by kernel_rfl) (by kernel_rfl) (by kernel_rfl) (fun _ _ _ h => h) (Or.inl ⟨by kernel_rfl, ?_⟩) (by assumption) ?_
      · intro wq hSq; go_simp
      try simp only [Act.put]
      refine wpAnyH_take (i := 3) (v := .int .i64 ((N : Int) - 1)) rfl (by kernel_rfl) (by kernel_rfl) (by kernel_rfl) (fun _ _ _ h => h) (Or.inl ⟨by kernel_rfl, ?_⟩) (by assumption) ?_
      · intro wq hSq; go_simp
      try simp only [Act.put]
      refine wpAnyH_take (i := 4) (v := .pointer (some ⟨lb, (N - 1) * 2, none⟩)) rfl (by kernel_rfl) (by kernel_rfl) (by kernel_rfl) (fun _ _ _ h => h) (Or.inl ⟨by kernel_rfl, ?_⟩) (by assumption) ?_
      · intro wq hSq; go_simp
      try simp only [Act.put]
      refine wpAnyH_take (i := 5) (v := .agg #[.int .i64 ex, .int .i64 ey]) rfl (by kernel_rfl) (by kernel_rfl) (by kernel_rfl) (fun _ _ _ h => h) (Or.inl ⟨by kernel_rfl, ?_⟩) (by assumption) ?_
      · intro wp hSp; have c0 : wp.cell? ⟨lb, (N - 1) * 2, none⟩ = some (.int .i64 ex) := hSp.cell HEn.out.1 HRb.out; have c1 : wp.cell? ⟨lb, (N - 1) * 2 + 1, none⟩ = some (.int .i64 ey) := hSp.cell HEn.out.2 HRb.out; go_simp
      try simp only [Act.put]
      refine wpAnyH_take (i := 6) (v := .slice xa xl xc) rfl (by kernel_rfl) (by kernel_rfl) (by kernel_rfl) (fun _ _ _ h => h) (Or.inl ⟨by kernel_rfl, ?_⟩) (by assumption) ?_
      · intro wq hSq; go_simp
      try simp only [Act.put]
      refine wpAnyH_take (i := 7) (v := .int .i64 (K : Int)) rfl (by kernel_rfl) (by kernel_rfl) (by kernel_rfl) (fun _ _ _ h => h) (Or.inl ⟨by kernel_rfl, ?_⟩) (by assumption) ?_
      · intro wq hSq; go_simp
      try simp only [Act.put]
      refine wpAnyH_take (i := 9) (v := .slice ya yl yc) rfl (by kernel_rfl) (by kernel_rfl) (by kernel_rfl) (fun _ _ _ h => h) (Or.inl ⟨by kernel_rfl, ?_⟩) (by assumption) ?_
      · intro wq hSq; go_simp
      try simp only [Act.put]
      refine wpAnyH_take (i := 10) (v := .int .i64 (K : Int)) rfl (by kernel_rfl) (by kernel_rfl) (by kernel_rfl) (fun _ _ _ h => h) (Or.inl ⟨by kernel_rfl, ?_⟩) (by assumption) ?_
      · intro wq hSq; go_simp
      try simp only [Act.put]
      refine wpAnyH_take (i := 12) (v := .slice qa ql qc) rfl (by kernel_rfl) (by kernel_rfl) (by kernel_rfl) (fun _ _ _ h => h) (Or.inl ⟨by kernel_rfl, ?_⟩) (by assumption) ?_
      · intro wq hSq; go_simp
      try simp only [Act.put]
      refine wpAnyH_take (i := 13) (v := .int .i64 (K : Int)) rfl (by kernel_rfl) (by kernel_rfl) (by kernel_rfl) (fun _ _ _ h => h) (Or.inl ⟨by kernel_rfl, ?_⟩) (by assumption) ?_
      · intro wq hSq; go_simp
      try simp only [Act.put]
      refine wpAnyH_take (i := 15) (v := .slice ga gl gc) rfl (by kernel_rfl) (by kernel_rfl) (by kernel_rfl) (fun _ _ _ h => h) (Or.inl ⟨by kernel_rfl, ?_⟩) (by assumption) ?_
      · intro wq hSq; go_simp
      try simp only [Act.put]
      refine wpAnyH_take (i := 16) (v := .int .i64 (K : Int)) rfl (by kernel_rfl) (by kernel_rfl) (by kernel_rfl) (fun _ _ _ h => h) (Or.inl ⟨by kernel_rfl, ?_⟩) (by assumption) ?_
      · intro wq hSq; go_simp
      try simp only [Act.put]
      refine wpAnyH_ready (rs := [8]) (by kernel_rfl) (by simp) ?_
      refine AllReadyH.cons rfl (fun Kk hK => ?_) AllReadyH.nil
      go_simp
      refine (CV1.out _ (HXq.out.grownR hHeld HXqn.out)).mono ?_
      rintro e wg1 ⟨va, vc, rfl, hoA, hb1⟩
      go_simp
      have hS1 : wq.grownBy wg1 (some (w.heap.size + 1 + 1)) := grown_step hHeld hb1
      have HM1 : Hid (wd0.heap.size ≤ wg1.heap.size) := hb1.size
      have HZd1 : Hid (Lies wg1 (w.heap.size + 1 + 1) [.int .i64 0, .int .i64 0, .int .i64 0, .int .i64 0, .slice none 0 0, .slice none 0 0, .slice none 0 0, .slice none 0 0]) := HZd.out.belowS hb1
      have HVA1 : Hid (Owns 2 wg1 wd0.heap.size va K vc VX) := hoA
      refine hK.out _ _ hS1 (fun _ => ?_)
      clear hK Kk hb1
      have HLA : Hid (∀ z, va = some z → wd0.heap.size ≤ z.block ∧ z.block < wg1.heap.size) := fun z hz => ⟨hoA.lo z hz, hoA.hi z hz⟩
      clear hoA
      try simp only [Act.put]
      refine wpAnyH_ready (rs := [11]) (by kernel_rfl) (by simp) ?_
      refine AllReadyH.cons rfl (fun Kk hK => ?_) AllReadyH.nil
      go_simp
      refine (CV2.out _ (HYq.out.grownR hS1 HYqn.out)).mono ?_
      rintro e wg2 ⟨ua, uc, rfl, hoB, hb2⟩
      go_simp
      have hS2 : wq.grownBy wg2 (some (w.heap.size + 1 + 1)) := grown_step hS1 hb2
      have HVA2 : Hid (Owns 2 wg2 wd0.heap.size va K vc VX) := HVA1.out.below hb2
      have HM2 : Hid (wg1.heap.size ≤ wg2.heap.size) := hb2.size
      have HZd2 : Hid (Lies wg2 (w.heap.size + 1 + 1) [.int .i64 0, .int .i64 0, .int .i64 0, .int .i64 0, .slice none 0 0, .slice none 0 0, .slice none 0 0, .slice none 0 0]) := HZd1.out.belowS hb2
      have HVB2 : Hid (Owns 2 wg2 wg1.heap.size ua K uc VY) := hoB
      refine hK.out _ _ hS2 (fun _ => ?_)
      clear hK Kk hb2
      have HLB : Hid (∀ z, ua = some z → wg1.heap.size ≤ z.block ∧ z.block < wg2.heap.size) := fun z hz => ⟨hoB.lo z hz, hoB.hi z hz⟩
      clear hoB
      try simp only [Act.put]
      refine wpAnyH_ready (rs := [14]) (by kernel_rfl) (by simp) ?_
      refine AllReadyH.cons rfl (fun Kk hK => ?_) AllReadyH.nil
      go_simp
      refine (CV3.out _ (HQq.out.grownR hS2 HQqn.out)).mono ?_
      rintro e wg3 ⟨qva, qvc, rfl, hoC, hb3⟩
      go_simp
      have hS3 : wq.grownBy wg3 (some (w.heap.size + 1 + 1)) := grown_step hS2 hb3
      have HVA3 : Hid (Owns 2 wg3 wd0.heap.size va K vc VX) := HVA2.out.below hb3
      have HVB3 : Hid (Owns 2 wg3 wg1.heap.size ua K uc VY) := HVB2.out.below hb3
      have HM3 : Hid (wg2.heap.size ≤ wg3.heap.size) := hb3.size
      have HZd3 : Hid (Lies wg3 (w.heap.size + 1 + 1) [.int .i64 0, .int .i64 0, .int .i64 0, .int .i64 0, .slice none 0 0, .slice none 0 0, .slice none 0 0, .slice none 0 0]) := HZd2.out.belowS hb3
      have HVC3 : Hid (Owns 2 wg3 wg2.heap.size qva K qvc QX) := hoC
      refine hK.out _ _ hS3 (fun _ => ?_)
      clear hK Kk hb3
      have HLC : Hid (∀ z, qva = some z → wg2.heap.size ≤ z.block ∧ z.block < wg3.heap.size) := fun z hz => ⟨hoC.lo z hz, hoC.hi z hz⟩
      clear hoC
      try simp only [Act.put]
      refine wpAnyH_ready (rs := [17]) (by kernel_rfl) (by simp) ?_
      refine AllReadyH.cons rfl (fun Kk hK => ?_) AllReadyH.nil
      go_simp
      refine (CV4.out _ (HGq.out.grownR hS3 HGqn.out)).mono ?_
      rintro e wg4 ⟨qua, quc, rfl, hoD, hb4⟩
      go_simp
      have hS4 : wq.grownBy wg4 (some (w.heap.size + 1 + 1)) := grown_step hS3 hb4
      have HVA4 : Hid (Owns 2 wg4 wd0.heap.size va K vc VX) := HVA3.out.below hb4
      have HVB4 : Hid (Owns 2 wg4 wg1.heap.size ua K uc VY) := HVB3.out.below hb4
      have HVC4 : Hid (Owns 2 wg4 wg2.heap.size qva K qvc QX) := HVC3.out.below hb4
      have HM4 : Hid (wg3.heap.size ≤ wg4.heap.size) := hb4.size
      have HZd4 : Hid (Lies wg4 (w.heap.size + 1 + 1) [.int .i64 0, .int .i64 0, .int .i64 0, .int .i64 0, .slice none 0 0, .slice none 0 0, .slice none 0 0, .slice none 0 0]) := HZd3.out.belowS hb4
      have HVD4 : Hid (Owns 2 wg4 wg3.heap.size qua K quc QY) := hoD
      refine hK.out _ _ hS4 (fun _ => ?_)
      clear hK Kk hb4
      have HLD : Hid (∀ z, qua = some z → wg3.heap.size ≤ z.block ∧ z.block < wg4.heap.size) := fun z hz => ⟨hoD.lo z hz, hoD.hi z hz⟩
      clear hoD
      try simp only [Act.put]
      refine wpAnyH_take (i := 18) (v := .agg #[.int .i64 x, .int .i64 y, .int .i64 ex, .int .i64 ey, .slice va K vc, .slice ua K uc, .slice qva K qvc, .slice qua K quc]) rfl (by kernel_rfl) (by kernel_rfl) (by kernel_rfl) (fun _ _ _ h => h) (Or.inl ⟨by kernel_rfl, ?_⟩) (by assumption) ?_
      · intro wq hSq; go_simp
      try simp only [Act.put]
      refine wpAnyH_ready (rs := [19]) (by kernel_rfl) (by simp) ?_
      refine AllReadyH.cons rfl (fun Kk hK => ?_) AllReadyH.nil
      rw [if_pos (by kernel_rfl)]
      with_reducible refine wp_store_mid 31 (.tmp 6) (.tmp 118) ?_ (w.heap.size + 1 + 1) 0 ([.int .i64 x, .int .i64 y, .int .i64 ex, .int .i64 ey, .slice va K vc, .slice ua K uc, .slice qva K qvc, .slice qua K quc]).toArray ?_ ?_ ?_ (by kernel_rfl) (by kernel_rfl) ?_
      · exact rfl
      · exact rfl
      · exact rfl
      · exact HZd4.out.there 0 8 (by simp)
      have hSz : wq.grownBy (wg4.setCells (w.heap.size + 1 + 1) 0 [.int .i64 x, .int .i64 y, .int .i64 ex, .int .i64 ey, .slice va K vc, .slice ua K uc, .slice qva K qvc, .slice qua K quc]) (some (w.heap.size + 1 + 1)) := grown_cells hS4 0 _
      have HPz : Hid (Lies (wg4.setCells (w.heap.size + 1 + 1) 0 [.int .i64 x, .int .i64 y, .int .i64 ex, .int .i64 ey, .slice va K vc, .slice ua K uc, .slice qva K qvc, .slice qua K quc]) (w.heap.size + 1 + 1) [.int .i64 x, .int .i64 y, .int .i64 ex, .int .i64 ey, .slice va K vc, .slice ua K uc, .slice qva K qvc, .slice qua K quc]) := HZd4.out.setCells [.int .i64 x, .int .i64 y, .int .i64 ex, .int .i64 ey, .slice va K vc, .slice ua K uc, .slice qva K qvc, .slice qua K quc] 0 (by simp)
      have hcz : wg4.grownBy (wg4.setCells (w.heap.size + 1 + 1) 0 [.int .i64 x, .int .i64 y, .int .i64 ex, .int .i64 ey, .slice va K vc, .slice ua K uc, .slice qva K qvc, .slice qua K quc]) (some (w.heap.size + 1 + 1)) := grown_cells (World.grownBy.refl _ _) 0 _
      refine hK.out _ _ hSz (fun _ => ?_)
      clear hK Kk
      generalize wg4.setCells (w.heap.size + 1 + 1) 0 [.int .i64 x, .int .i64 y, .int .i64 ex, .int .i64 ey, .slice va K vc, .slice ua K uc, .slice qva K qvc, .slice qua K quc] = wz at hSz HPz hcz ⊢
      try simp only [Act.put]
      refine wpAnyH_take (i := 20) (v := .bool true) rfl (by kernel_rfl) (by kernel_rfl) (by kernel_rfl) (fun _ _ _ h => h) (Or.inl ⟨by kernel_rfl, ?_⟩) (by assumption) ?_
      · intro wq hSq; go_simp
      try simp only [Act.put]
      refine wpAnyH_done (by kernel_rfl) ?_ _
      refine NoPanic.normal ?_
      go_simp
      have HWA : Hid (Owns 2 wz w.heap.size va K vc VX) := (HVA4.out.grownR hcz (fun z hz e => by have := (HLA.out z hz).1; have := HRBQ.out; have := hHeld.size; have := hS1.size; have := hS2.size; have := hS3.size; have := hS4.size; injection e with e; omega)).mono (by have := HRBQ.out; have := hHeld.size; have := hS1.size; have := hS2.size; have := hS3.size; have := hS4.size; omega)
      have HWB : Hid (Owns 2 wz w.heap.size ua K uc VY) := (HVB4.out.grownR hcz (fun z hz e => by have := (HLB.out z hz).1; have := HRBQ.out; have := hHeld.size; have := hS1.size; have := hS2.size; have := hS3.size; have := hS4.size; injection e with e; omega)).mono (by have := HRBQ.out; have := hHeld.size; have := hS1.size; have := hS2.size; have := hS3.size; have := hS4.size; omega)
      have HWC : Hid (Owns 2 wz w.heap.size qva K qvc QX) := (HVC4.out.grownR hcz (fun z hz e => by have := (HLC.out z hz).1; have := HRBQ.out; have := hHeld.size; have := hS1.size; have := hS2.size; have := hS3.size; have := hS4.size; injection e with e; omega)).mono (by have := HRBQ.out; have := hHeld.size; have := hS1.size; have := hS2.size; have := hS3.size; have := hS4.size; omega)
      have HWD : Hid (Owns 2 wz w.heap.size qua K quc QY) := (HVD4.out.grownR hcz (fun z hz e => by have := (HLD.out z hz).1; have := HRBQ.out; have := hHeld.size; have := hS1.size; have := hS2.size; have := hS3.size; have := hS4.size; injection e with e; omega)).mono (by have := HRBQ.out; have := hHeld.size; have := hS1.size; have := hS2.size; have := hS3.size; have := hS4.size; omega)
      have HXAB : Hid (far va ua) := fun z1 z2 h1 h2 e => by have := (HLA.out z1 h1).2; have := (HLB.out z2 h2).1; have := HM1.out; have := HM2.out; have := HM3.out; have := HM4.out; omega
      have HXAC : Hid (far va qva) := fun z1 z2 h1 h2 e => by have := (HLA.out z1 h1).2; have := (HLC.out z2 h2).1; have := HM1.out; have := HM2.out; have := HM3.out; have := HM4.out; omega
      have HXAD : Hid (far va qua) := fun z1 z2 h1 h2 e => by have := (HLA.out z1 h1).2; have := (HLD.out z2 h2).1; have := HM1.out; have := HM2.out; have := HM3.out; have := HM4.out; omega
      have HXBC : Hid (far ua qva) := fun z1 z2 h1 h2 e => by have := (HLB.out z1 h1).2; have := (HLC.out z2 h2).1; have := HM1.out; have := HM2.out; have := HM3.out; have := HM4.out; omega
      have HXBD : Hid (far ua qua) := fun z1 z2 h1 h2 e => by have := (HLB.out z1 h1).2; have := (HLD.out z2 h2).1; have := HM1.out; have := HM2.out; have := HM3.out; have := HM4.out; omega
      have HXCD : Hid (far qva qua) := fun z1 z2 h1 h2 e => by have := (HLC.out z1 h1).2; have := (HLD.out z2 h2).1; have := HM1.out; have := HM2.out; have := HM3.out; have := HM4.out; omega
      have HBz : Hid (Below w.heap.size w wz) := HBq.out.grown hSz HBq.out.size (fun q hq => by injection hq with hq; omega)
      go_wp2
      exact bodyPost_ret (results_cell_tmp rfl rfl (run_loadVar_mid wz (w.heap.size + 1 + 1) 0 31 _ _ HPz.out.row Try.underlying31 rfl (by kernel_rfl))) rfl ⟨va, vc, ua, uc, qva, qvc, qua, quc, rfl, ⟨HWA.out, HWB.out, HWC.out, HWD.out⟩, ⟨HXAB.out, HXAC.out, HXAD.out, HXBC.out, HXBD.out, HXCD.out⟩, HBz.out⟩
end Go.Proofs.Ytbcfjbkmkknmfaa
