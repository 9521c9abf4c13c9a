/- Division with a rest in the model. -/
import Derived.Test.YtfhknkppiidnkaaGreatDivMathB
import Derived.Test.YtfhknkppiidnkaaGreatPowB
namespace Go.Proofs.YtfhknkppiidnkaaGreat
open Go.RowKit

theorem M.rest_start {f R g : List Int} {q : Int} {i : Nat} (h : R.length = f.length) : R = M.tab f.length (M.restAt R g q i 0) :=
  M.tab_ext h fun t _ => by unfold M.restAt; rw [if_neg (by omega)]
theorem M.rest_old (R g : List Int) (q : Int) (i j : Nat) : M.restAt R g q i j (i + j) = R.getD (i + j) 0 := by unfold M.restAt; rw [if_neg (by omega)]
theorem M.rest_step {R g : List Int} {q : Int} {N i j : Nat} : (M.tab N (M.restAt R g q i j)).set (i + j) ((R.getD (i + j) 0 + (65537 - q) * g.getD j 0) % 65537) = M.tab N (M.restAt R g q i (j + 1)) := by
  rw [M.tab_set]
  apply M.tab_congr
  intro t _
  unfold M.restAt
  by_cases e : t = i + j
  · subst e
    rw [if_pos rfl, if_pos (by omega), Nat.add_sub_cancel_left]
  · rw [if_neg e]
    by_cases h2 : i ≤ t ∧ t < i + j
    · rw [if_pos h2, if_pos (by omega)]
    · rw [if_neg h2, if_neg (by omega)]
theorem M.mul_bd2 {q y : Int} (q0 : 0 ≤ q) (q1 : q < 65537) (y0 : 0 ≤ y) (y1 : y < 65537) : 0 ≤ (65537 - q) * y ∧ (65537 - q) * y ≤ 4295032832 := by
  refine ⟨Int.mul_nonneg (by omega) y0, ?_⟩
  have h1 : (65537 - q) * y ≤ 65537 * y := Int.mul_le_mul_of_nonneg_right (by omega) y0
  omega
set_option maxHeartbeats 4000000 in
theorem l2Divide_long {a b : Option Addr} {n m c d : Nat} {zs ys : List Int} (w : World) (hz : Sees w a n c zs) (hy : Sees w b m d ys) (ha : M.allEl zs = true) (hb : M.allEl ys = true) (ny : M.neat ys) (hn : n ≤ 128) (h1 : 0 < m) (hmn : m ≤ n) :
    Calls Tryz.prog 79 #[.slice a n c, .slice b m d] w fun e w' => ∃ a1 l1 c1 a2 l2 c2 q r, e = .returned (.tuple #[.slice a1 l1 c1, .slice a2 l2 c2]) ∧ Owns 2 w' w.heap.size a1 l1 c1 q ∧ Owns 2 w' w.heap.size a2 l2 c2 r ∧ M.Div zs ys q r ∧ (∀ x y, a1 = some x → a2 = some y → x.block ≠ y.block) ∧ Below w.heap.size w w' := by
  obtain ⟨b1, o1, rfl, hc1⟩ := hz.at (by omega)
  obtain ⟨b2, o2, rfl, hc2⟩ := hy.at h1
  have l2 : b2 < w.heap.size := World.block_lt_of_cell? w _ (hc2 0 h1)
  have HC2 : Hid (∀ i, i < m → w.cell? ⟨b2, o2 + i, none⟩ = some (.int .i64 (ys.getD i 0))) := hc2
  have HZ : Hid (Sees w (some ⟨b1, o1, none⟩) n c zs) := hz
  have HLz : Hid (zs.length = n) := hz.len
  have HLy : Hid (ys.length = m) := hy.len
  have HA : Hid (M.allEl zs = true) := ha
  have HB : Hid (M.allEl ys = true) := hb
  have gl : ys.getD (m - 1) 0 ≠ 0 := by
    rcases ny with e | e
    · rw [hy.len] at e; omega
    · rw [hy.len] at e; exact e
  have HGL : Hid (ys.getD (m - 1) 0 ≠ 0) := gl
  have HL : Hid ((zs.map (Value.int .i64)).length = n * 1) := by show _ = _; rw [List.length_map, hz.len, Nat.mul_one]
  obtain ⟨i0, hi, hz0, hz1, hz2⟩ := info_parts info_i64
  have HI : Hid (Tryz.prog.info? 2 = some i0 ∧ i0.zero = some (Value.int .i64 0) ∧ i0.size = 1 ∧ i0.bytes = 8) := ⟨hi, hz0, hz1, hz2⟩
  obtain ⟨N, hN⟩ : ∃ N, N = n - m + 1 := ⟨_, rfl⟩
  have hNI : (n : Int) - (m : Int) + 1 = (N : Int) := by omega
  have hNp : (0 : Int) < (n : Int) - (m : Int) + 1 := by omega
  have HN : Hid (N = n - m + 1) := hN
  have HNI : Hid ((n : Int) - (m : Int) + 1 = (N : Int)) := hNI
  clear hz hy ha hb hc1 hc2 hi hz0 hz1 hz2 hN hNI gl ny
  go_enter Tryz.func79, Tryz.ntmps79
  go_wp2_with (at_builtin; refine wpList_append_opt _ rfl (.tmp 12) (.tmp 13) 24 rfl w.heap.size 2 i0 (.int .i64 0) 1 8 Tryz.underlying24 HI.out.1 HI.out.2.1 HI.out.2.2.1 HI.out.2.2.2 rfl (by decide) _ 0 [] rfl (World.ownsRow_made w #[] 0 (Nat.le_refl _) (by unfold maxLen; omega) rfl) (some ⟨b1, o1, none⟩) n c (zs.map (Value.int .i64)) rfl HL.out (fun h => by cases h) (sees_all (HZ.out.below ((Below.refl _ _).alloc (Nat.le_refl _) _))) (ints_int _) (by unfold maxLen; omega) (by omega) (by simp) ?_)
  intro v1 w1 hown hgrow
  have hown' : w1.ownsRow w.heap.size 2 1 v1 n (zs.map (Value.int .i64)) := by simpa using hown
  obtain ⟨ra, rc, rfl, ho1⟩ := Owns.form hown'
  have HO1 : Hid (Owns 2 w1 w.heap.size ra n rc zs) := ho1
  have HB1 : Hid (Below w.heap.size w w1) := ((Below.refl w.heap.size w).alloc (Nat.le_refl _) _).grown hgrow (by simp) (fun j hj => by simp [Value.ownBlock] at hj; omega)
  have hs1 : w.heap.size ≤ w1.heap.size := HB1.out.size
  clear hown hown' hgrow ho1
  go_wp2_with (at_make; refine wpList_make_full _ rfl _ _ 24 rfl w1.heap.size 2 i0 (.int .i64 0) 1 Tryz.underlying24 HI.out.1 HI.out.2.1 HI.out.2.2.1 .i64 .i64 _ _ N rfl rfl HNI.out HNI.out (by rw [HI.out.2.2.2]; have := HN.out; omega) (by unfold maxLen; have := HN.out; omega) (Nat.le_refl _) ?_)
  intro w2 hown2 hg2
  have HO2 : Hid (Owns 2 w2 w1.heap.size (some ⟨w1.heap.size, 0, none⟩) N N (List.replicate N 0)) := by
    show w2.ownsRow _ _ _ _ _ _
    rw [made_ints] at hown2; exact hown2
  have hb2 : Below w1.heap.size w1 w2 := below_grown hg2
  have HR2 : Hid (Owns 2 w2 w.heap.size ra n rc zs) := HO1.out.below hb2
  have HB2 : Hid (Below w.heap.size w w2) := HB1.out.trans (hb2.mono hs1)
  obtain ⟨ga, rfl, hga0, hga1, _, _⟩ := HO1.out.block (by omega)
  have cl : w2.cell? ⟨b2, o2 + (m - 1), none⟩ = some (.int .i64 (ys.getD (m - 1) 0)) := (HB2.out.cell (p := ⟨b2, o2 + (m - 1), none⟩) l2).trans (HC2.out (m - 1) (by omega))
  have HST : Hid (M.DInv zs ys zs (List.replicate N 0) N) := by
    have h := M.dinv_start (g := ys) HA.out
    rw [HLz.out, HLy.out, ← HN.out] at h; exact h
  clear hown2 hg2 hb2
  have hm1 : 1 ≤ m := by omega
  have hmI : (0 : Int) ≤ (m : Int) - 1 := by omega
  have hmI2 : (m : Int) - 1 < (m : Int) := by omega
  generalize hlead : ys.getD (m - 1) 0 = lead at cl
  have HLD : Hid (ys.getD (m - 1) 0 = lead) := hlead
  clear hlead
  go_wp2_with fail
  refine (specInv_any lead _).mono ?_
  rintro e w2 ⟨rfl, rfl⟩
  have HIV : Hid (0 ≤ M.inv lead ∧ M.inv lead < 65537) := by
    show _ ∧ _
    rw [← M.el_iff]
    have h := M.el_at HB.out (m - 1)
    rw [HLD.out] at h
    exact M.el_inv ((M.el_iff _).2 h) (by rw [← HLD.out]; exact HGL.out)
  have iv := HIV.out
  generalize hiv : M.inv lead = iv' at iv
  have HIVE : Hid (M.inv lead = iv') := hiv
  obtain ⟨iv0, iv1⟩ := iv
  clear hiv
  have hnm : (n : Int) - (m : Int) = (N : Int) - 1 := by have := HNI.out; omega
  have HNM : Hid ((n : Int) - (m : Int) = (N : Int) - 1) := hnm
  clear hnm cl
  go_wp2
  go_loopw [9] (fun i wr => ∃ (k : Nat) (R O : List Int), k ≤ N ∧ i = .int .i64 ((k : Int) - 1) ∧ Owns 2 wr w.heap.size (some ⟨ga, 0, none⟩) n rc R ∧ Owns 2 wr w1.heap.size (some ⟨w1.heap.size, 0, none⟩) N N O ∧ M.DInv zs ys R O k ∧ Below w.heap.size w wr) (fun i _ => (intOf i + 1).toNat)
  case atStart => exact ⟨N, zs, List.replicate N 0, Nat.le_refl _, congrArg (Value.int .i64) HNM.out, HR2.out, HO2.out, HST.out, HB2.out⟩
  case round =>
    obtain ⟨k, R, O, hk, rfl, hr3, ho3, hd3, hb3⟩ := hrel
    have HR3 : Hid (Owns 2 wr w.heap.size (some ⟨ga, 0, none⟩) n rc R) := hr3
    have HO3 : Hid (Owns 2 wr w1.heap.size (some ⟨w1.heap.size, 0, none⟩) N N O) := ho3
    have HD3 : Hid (M.DInv zs ys R O k) := hd3
    have HB3 : Hid (Below w.heap.size w wr) := hb3
    clear hr3 ho3 hd3 hb3 HO2 HR2 HB2 HST
    by_cases hk0 : 0 < k
    · obtain ⟨i, rfl⟩ : ∃ i, k = i + 1 := ⟨k - 1, by omega⟩
      have him : i + m ≤ n := by have := HN.out; omega
      rw [show ((i + 1 : Nat) : Int) - 1 = (i : Int) by omega]
      obtain ⟨g', hge, _, _, hcr, hfr⟩ := HR3.out.block (by omega)
      simp only [Option.some.injEq, Addr.mk.injEq, and_true] at hge
      subst hge
      have er := hcr (i + m - 1) (by omega)
      obtain ⟨g2, hge2, _, _, hco, hfo⟩ := HO3.out.block (by omega)
      simp only [Option.some.injEq, Addr.mk.injEq, and_true] at hge2
      have eo := hco i (by omega)
      have fo := hfo i
      rw [← hge2] at eo fo
      have x01 := M.el_at HD3.out.ar (i + m - 1)
      have HQ : Hid (R.getD (i + m - 1) 0 = R.getD (i + ys.length - 1) 0) := by show _ = _; rw [HLy.out]
      generalize hx : R.getD (i + m - 1) 0 = x at er x01
      have HX : Hid (R.getD (i + m - 1) 0 = x) := hx
      obtain ⟨x0, x1⟩ := x01
      obtain ⟨m0, m1⟩ := M.mul_bd x0 x1 iv0 iv1
      have HDS : Hid (M.DInv zs ys (M.tab zs.length (M.restAt R ys (x * iv' % 65537) i ys.length)) (O.set i (x * iv' % 65537)) i) := by
        refine M.dinv_step HB.out (by rw [HLy.out]; omega) (by rw [HLy.out]; exact HGL.out) HD3.out (by rw [HLy.out, HLz.out]; exact him) _ ?_
        rw [HLy.out, HX.out, HLD.out, HIVE.out]
      have HLR : Hid (R.length = zs.length) := HD3.out.lr
      have q0 : 0 ≤ x * iv' % 65537 := Int.emod_nonneg _ (by decide)
      have q1 : x * iv' % 65537 < 65537 := Int.emod_lt_of_pos _ (by decide)
      have hi1 : (i : Int) + (m : Int) - 1 < (n : Int) := by omega
      have hi2 : (0 : Int) ≤ (i : Int) + (m : Int) - 1 := by omega
      have hi3 : (i : Int) < (N : Int) := by omega
      generalize O.getD i 0 = oy at eo
      have hne : ga ≠ w1.heap.size := by omega
      clear hx hcr hfr hco hfo hge2
      generalize hq : x * iv' % 65537 = q at HDS q0 q1
      have HQE : Hid (x * iv' % 65537 = q) := hq
      clear hq
      have HOs : Hid (Owns 2 (wr.setCell ⟨w1.heap.size, i, none⟩ (.int .i64 q)) w1.heap.size (some ⟨w1.heap.size, 0, none⟩) N N (O.set i q)) := HO3.out.set i q
      have HRs : Hid (Owns 2 (wr.setCell ⟨w1.heap.size, i, none⟩ (.int .i64 q)) w.heap.size (some ⟨ga, 0, none⟩) n rc (M.tab n (M.restAt R ys q i 0))) := by
        show Owns _ _ _ _ _ _ _
        rw [← HLz.out, ← M.rest_start HLR.out, HLz.out]
        exact HR3.out.other ⟨w1.heap.size, i, none⟩ (fun x hx => by simp only [Option.some.injEq] at hx; subst hx; exact hne) _
      have HBs : Hid (Below w.heap.size w (wr.setCell ⟨w1.heap.size, i, none⟩ (.int .i64 q))) := HB3.out.setCell hs1 _
      have HAR : Hid (M.allEl R = true) := HD3.out.ar
      go_wp2
      rw [HQE.out]
      go_loopw [11] (fun z wv => ∃ j : Nat, j ≤ m ∧ z = .int .i64 j ∧ Owns 2 wv w.heap.size (some ⟨ga, 0, none⟩) n rc (M.tab n (M.restAt R ys q i j)) ∧ Owns 2 wv w1.heap.size (some ⟨w1.heap.size, 0, none⟩) N N (O.set i q) ∧ Below w.heap.size w wv) (fun z _ => m - (intOf z).toNat)
      case atStart => exact ⟨0, by omega, rfl, HRs.out, HOs.out, HBs.out⟩
      case round =>
        obtain ⟨j, hj, rfl, hr5, ho5, hb5⟩ := hrel
        have HR5 : Hid (Owns 2 wr w.heap.size (some ⟨ga, 0, none⟩) n rc (M.tab n (M.restAt R ys q i j))) := hr5
        have HO5 : Hid (Owns 2 wr w1.heap.size (some ⟨w1.heap.size, 0, none⟩) N N (O.set i q)) := ho5
        have HB5 : Hid (Below w.heap.size w wr) := hb5
        clear hr5 ho5 hb5 HOs HRs HBs
        by_cases hjm : j < m
        · have hik : i + j < n := by omega
          have e2 : wr.cell? ⟨b2, o2 + j, none⟩ = some (.int .i64 (ys.getD j 0)) := (HB5.out.cell (p := ⟨b2, o2 + j, none⟩) l2).trans (HC2.out j hjm)
          obtain ⟨g3, hge3, _, _, hc5, hf5⟩ := HR5.out.block (by omega)
          simp only [Option.some.injEq, Addr.mk.injEq, and_true] at hge3
          subst hge3
          have e3 := hc5 (i + j) hik
          have f3 := hf5 (i + j)
          rw [M.tab_get _ _ _ hik, M.rest_old] at e3
          have HS5 : Hid ((M.tab n (M.restAt R ys q i j)).set (i + j) ((R.getD (i + j) 0 + (65537 - q) * ys.getD j 0) % 65537) = M.tab n (M.restAt R ys q i (j + 1))) := M.rest_step
          have y01 := M.el_at HB.out j
          have v01 := M.el_at HAR.out (i + j)
          generalize ys.getD j 0 = y at e2 y01 HS5
          generalize R.getD (i + j) 0 = v at e3 v01 HS5
          obtain ⟨y0, y1⟩ := y01
          obtain ⟨v0, v1⟩ := v01
          obtain ⟨p0, p1⟩ := M.mul_bd2 q0 q1 y0 y1
          have hJ : (j : Int) < (m : Int) := by omega
          have hK : (i : Int) + (j : Int) < (n : Int) := by omega
          have hK0 : (0 : Int) ≤ (i : Int) + (j : Int) := by omega
          have nb2 : b2 ≠ ga := by omega
          clear hc5 hf5 er eo fo
          go_wp2
          go_region
          go_wp2
          go_roundw
          case rel =>
            refine ⟨j + 1, by omega, by go_num, ?_, ?_, (HB5.out.setCell hga0 _).drew⟩
            · rw [← HS5.out]
              exact World.ownsRow.drew (HR5.out.set (i + j) _)
            · exact World.ownsRow.drew (HO5.out.other ⟨ga, i + j, none⟩ (fun x hx => by simp only [Option.some.injEq] at hx; subst hx; exact fun e => hne e.symm) _)
          case measure => simp [intOf]; omega
        · have hjm' : j = m := by omega
          have HF : Hid (Owns 2 wr w.heap.size (some ⟨ga, 0, none⟩) n rc (M.tab zs.length (M.restAt R ys q i ys.length))) := by
            show Owns _ _ _ _ _ _ _
            have h := HR5.out
            rw [hjm', ← HLy.out] at h
            rw [HLz.out]; exact h
          clear hjm'
          go_wp2
          go_roundw
          case rel => exact ⟨i, _, _, by omega, by go_num, HF.out, HO5.out, HDS.out, HB5.out⟩
          case measure => simp [intOf] <;> omega
    · have hk0' : k = 0 := by omega
      subst hk0'
      have HDE : Hid (M.Div zs ys (M.trim O) (M.trim R)) := M.dinv_end (by rw [HLy.out]; omega) HD3.out
      have hNb : N ≤ 1048576 := by have := HN.out; omega
      go_wp2_with fail
      refine (l2Trim_any _ HO3.out.sees hNb).mono ?_
      rintro e w6 ⟨a6, l6, c6, rfl, ho6, hb6⟩
      have HO6 : Hid (Owns 2 w6 wr.heap.size a6 l6 c6 (M.trim O)) := ho6
      have HR6 : Hid (Owns 2 w6 w.heap.size (some ⟨ga, 0, none⟩) n rc R) := HR3.out.below hb6
      have HB6 : Hid (Below w.heap.size w w6) := HB3.out.trans (hb6.mono HB3.out.size)
      clear ho6 hb6
      go_wp2_with fail
      refine (l2Trim_any _ HR6.out.sees (by omega)).mono ?_
      rintro e w7 ⟨a7, l7, c7, rfl, ho7, hb7⟩
      have HO7 : Hid (Owns 2 w7 w.heap.size a6 l6 c6 (M.trim O)) := (HO6.out.below hb7).mono HB3.out.size
      have HR7 : Hid (Owns 2 w7 w.heap.size a7 l7 c7 (M.trim R)) := ho7.mono HB6.out.size
      have HDI : Hid (∀ x y, a6 = some x → a7 = some y → x.block ≠ y.block) := fun x y hx hy => by
        have h1 := HO6.out.hi x hx; have h2 := ho7.lo y hy; omega
      have HB7 : Hid (Below w.heap.size w w7) := HB6.out.trans (hb7.mono HB6.out.size)
      clear ho7 hb7
      go_wp2
      go_ret2
      exact ⟨a6, l6, c6, a7, l7, c7, _, _, rfl, HO7.out, HR7.out, HDE.out, HDI.out, HB7.out⟩
set_option maxHeartbeats 4000000 in
theorem l2Divide_short {a b : Option Addr} {n m c d : Nat} {zs ys : List Int} (w : World) (hz : Sees w a n c zs) (hy : Sees w b m d ys) (ha : M.allEl zs = true) (nz : M.neat zs) (hn : n ≤ 128) (hm : m ≤ 128) (h1 : 0 < m) (hmn : n < m) :
    Calls Tryz.prog 79 #[.slice a n c, .slice b m d] w fun e w' => ∃ a1 l1 c1 a2 l2 c2 q r, e = .returned (.tuple #[.slice a1 l1 c1, .slice a2 l2 c2]) ∧ Owns 2 w' w.heap.size a1 l1 c1 q ∧ Owns 2 w' w.heap.size a2 l2 c2 r ∧ M.Div zs ys q r ∧ (∀ x y, a1 = some x → a2 = some y → x.block ≠ y.block) ∧ Below w.heap.size w w' := by
  obtain ⟨b2, o2, rfl, hc2⟩ := hy.at h1
  have l2 : b2 < w.heap.size := World.block_lt_of_cell? w _ (hc2 0 h1)
  have HC2 : Hid (∀ i, i < m → w.cell? ⟨b2, o2 + i, none⟩ = some (.int .i64 (ys.getD i 0))) := hc2
  have HZ : Hid (Sees w a n c zs) := hz
  have HD : Hid (M.Div zs ys [] zs) := M.div_short nz ha (by rw [hz.len, hy.len]; exact hmn)
  have HTZ : Hid (M.trim zs = zs) := M.trim_neat nz
  have HL : Hid ((zs.map (Value.int .i64)).length = n * 1) := by show _ = _; rw [List.length_map, hz.len, Nat.mul_one]
  obtain ⟨i0, hi, hz0, hz1, hz2⟩ := info_parts info_i64
  have HI : Hid (Tryz.prog.info? 2 = some i0 ∧ i0.zero = some (Value.int .i64 0) ∧ i0.size = 1 ∧ i0.bytes = 8) := ⟨hi, hz0, hz1, hz2⟩
  have hNp : ¬ (0 : Int) < (n : Int) - (m : Int) + 1 := by omega
  have hneg : ¬ (0 : Int) ≤ (n : Int) - (m : Int) := by omega
  clear hz hy ha nz hc2 hi hz0 hz1 hz2
  go_enter Tryz.func79, Tryz.ntmps79
  go_wp2_with (at_builtin; refine wpList_append_opt _ rfl (.tmp 12) (.tmp 13) 24 rfl w.heap.size 2 i0 (.int .i64 0) 1 8 Tryz.underlying24 HI.out.1 HI.out.2.1 HI.out.2.2.1 HI.out.2.2.2 rfl (by decide) _ 0 [] rfl (World.ownsRow_made w #[] 0 (Nat.le_refl _) (by unfold maxLen; omega) rfl) a n c (zs.map (Value.int .i64)) rfl HL.out HZ.out.no (sees_all (HZ.out.below ((Below.refl _ _).alloc (Nat.le_refl _) _))) (ints_int _) (by unfold maxLen; omega) (by omega) (by simp) ?_)
  intro v1 w1 hown hgrow
  have hown' : w1.ownsRow w.heap.size 2 1 v1 n (zs.map (Value.int .i64)) := by simpa using hown
  obtain ⟨ra, rc, rfl, ho1⟩ := Owns.form hown'
  have HO1 : Hid (Owns 2 w1 w.heap.size ra n rc zs) := ho1
  have HB1 : Hid (Below w.heap.size w w1) := ((Below.refl w.heap.size w).alloc (Nat.le_refl _) _).grown hgrow (by simp) (fun j hj => by simp [Value.ownBlock] at hj; omega)
  have hs1 : w.heap.size ≤ w1.heap.size := HB1.out.size
  clear hown hown' hgrow ho1
  go_wp2_with (at_make; refine wpList_make_full _ rfl _ _ 24 rfl w1.heap.size 2 i0 (.int .i64 0) 1 Tryz.underlying24 HI.out.1 HI.out.2.1 HI.out.2.2.1 .i64 .i64 _ _ 0 rfl rfl (by omega) (by omega) (by rw [HI.out.2.2.2]; omega) (by unfold maxLen; omega) (Nat.le_refl _) ?_)
  intro w2 hown2 hg2
  have HO2 : Hid (Owns 2 w2 w1.heap.size (some ⟨w1.heap.size, 0, none⟩) 0 0 []) := by
    show w2.ownsRow _ _ _ _ _ _
    rw [made_ints] at hown2; exact hown2
  have hb2 : Below w1.heap.size w1 w2 := below_grown hg2
  have HR2 : Hid (Owns 2 w2 w.heap.size ra n rc zs) := HO1.out.below hb2
  have HB2 : Hid (Below w.heap.size w w2) := HB1.out.trans (hb2.mono hs1)
  have cl : w2.cell? ⟨b2, o2 + (m - 1), none⟩ = some (.int .i64 (ys.getD (m - 1) 0)) := (HB2.out.cell (p := ⟨b2, o2 + (m - 1), none⟩) l2).trans (HC2.out (m - 1) (by omega))
  clear hown2 hg2 hb2
  have hm1 : 1 ≤ m := by omega
  have hmI : (0 : Int) ≤ (m : Int) - 1 := by omega
  have hmI2 : (m : Int) - 1 < (m : Int) := by omega
  generalize ys.getD (m - 1) 0 = lead at cl
  go_wp2_with fail
  refine (specInv_any lead _).mono ?_
  rintro e w2 ⟨rfl, rfl⟩
  clear cl
  go_wp2
  refine wp_loop_rounds 1 ?_
  rw [rounds_succ]
  go_wp2_with fail
  refine (l2Trim_any _ HO2.out.sees (by omega)).mono ?_
  rintro e w6 ⟨a6, l6, c6, rfl, ho6, hb6⟩
  have HO6 : Hid (Owns 2 w6 w2.heap.size a6 l6 c6 []) := ho6
  have HR6 : Hid (Owns 2 w6 w.heap.size ra n rc zs) := HR2.out.below hb6
  have HB6 : Hid (Below w.heap.size w w6) := HB2.out.trans (hb6.mono HB2.out.size)
  clear ho6 hb6
  go_wp2_with fail
  refine (l2Trim_any _ HR6.out.sees (by omega)).mono ?_
  rintro e w7 ⟨a7, l7, c7, rfl, ho7, hb7⟩
  rw [HTZ.out] at ho7
  have HO7 : Hid (Owns 2 w7 w.heap.size a6 l6 c6 []) := (HO6.out.below hb7).mono HB2.out.size
  have HR7 : Hid (Owns 2 w7 w.heap.size a7 l7 c7 zs) := ho7.mono HB6.out.size
  have HDI : Hid (∀ x y, a6 = some x → a7 = some y → x.block ≠ y.block) := fun x y hx hy => by
    have h1 := HO6.out.hi x hx; have h2 := ho7.lo y hy; omega
  have HB7 : Hid (Below w.heap.size w w7) := HB6.out.trans (hb7.mono HB6.out.size)
  clear ho7 hb7
  go_wp2
  go_ret2
  exact ⟨a6, l6, c6, a7, l7, c7, _, _, rfl, HO7.out, HR7.out, HD.out, HDI.out, HB7.out⟩
theorem M.div_len {f g q r : List Int} (h : M.Div f g q r) (hf : f.length ≤ 128) (hg : g.length ≤ 128) (ag : M.allEl g = true) (ng : M.neat g) : q.length ≤ 128 ∧ r.length ≤ 128 := by
  refine ⟨?_, by have := h.short; omega⟩
  rcases Nat.lt_or_ge 128 q.length with hl | hl
  · exfalso
    have g0 : 0 < g.length := by have := h.short; omega
    have e1 : q.getD (q.length - 1) 0 ≠ 0 := by
      rcases h.nq with x | x
      · omega
      · exact x
    have e2 : g.getD (g.length - 1) 0 ≠ 0 := by
      rcases ng with x | x
      · omega
      · exact x
    have hne := M.prod_ne ((M.el_iff _).2 (M.el_at h.aq _)) ((M.el_iff _).2 (M.el_at ag _)) e1 e2
    rw [← M.pm_lead q g (by omega) g0] at hne
    have he := h.eq (q.length + g.length - 2)
    have hs := h.short
    rw [M.getD_out (zs := f) (by omega), M.getD_out (zs := r) (by omega)] at he
    have hb := M.pm_bd q g (q.length + g.length - 2)
    omega
  · exact hl
end Go.Proofs.YtfhknkppiidnkaaGreat
