/- The polynomial through points, in the model. -/
import Derived.Test.YtjeoenieoejolagThC
import Derived.Test.YtjeoenieoejolagFieldC
namespace Go.Proofs.Ytjeoenieoejolag
open Go.RowKit

theorem sees_one' (v : World) (b : Int) (t : TypeId) : Sees (v.alloc (.cells #[Value.int .i64 b] t)) (some ⟨v.heap.size, 0, none⟩) 1 1 [b] := by
  refine ⟨rfl, Nat.le_refl _, by omega, (fun h => by cases h), .inr ⟨v.heap.size, 0, rfl, fun i hi => ?_⟩⟩
  have h0 : i = 0 := by omega
  subst h0
  rw [World.cell?_alloc_new]; rfl
theorem sees_two (v : World) (b c : Int) (t : TypeId) : Sees (v.alloc (.cells #[Value.int .i64 b, Value.int .i64 c] t)) (some ⟨v.heap.size, 0, none⟩) 2 2 [b, c] := by
  refine ⟨rfl, Nat.le_refl _, by omega, (fun h => by cases h), .inr ⟨v.heap.size, 0, rfl, fun i hi => ?_⟩⟩
  have h0 : i = 0 ∨ i = 1 := by omega
  rcases h0 with h0 | h0 <;> subst h0 <;> rw [World.cell?_alloc_new] <;> rfl
set_option maxHeartbeats 1000000 in
theorem l2Scale_any {a : Option Addr} {n c : Nat} {zs : List Int} (x : Int) (w : World) (hz : Sees w a n c zs) (ha : M.allEl zs = true) (hn : n ≤ 20000) (x0 : 0 ≤ x) (x1 : x < 65537) :
    Calls Try.prog 36 #[.slice a n c, .int .i64 x] w fun e w' => ∃ a' l c', e = .returned (.slice a' l c') ∧ Owns 2 w' w.heap.size a' l c' (M.pmul zs (M.trim [x])) ∧ Below w.heap.size w w' := by
  have HZ : Hid (Sees w a n c zs) := hz
  have HA : Hid (M.allEl zs = true) := ha
  have HS : Hid (Sees (w.alloc (.cells #[Value.int .i64 x] 2)) (some ⟨w.heap.size, 0, none⟩) 1 1 [x]) := sees_one' w x _
  have HB : Hid (Below w.heap.size w (w.alloc (.cells #[Value.int .i64 x] 2))) := (Below.refl _ _).alloc (Nat.le_refl _) _
  have HX : Hid (M.allEl (M.trim [x]) = true) := M.all_trim (M.all_cons ⟨x0, x1⟩ rfl)
  clear hz ha
  go_enter Try.func36, Try.ntmps36
  go_wp2_with fail
  refine (l2Trim_any _ HS.out (by omega)).mono ?_
  rintro e w1 ⟨a1, l1, c1, rfl, ho1, hb1⟩
  have hl1 : l1 ≤ 1 := by have h := M.len_trim [x]; rw [ho1.len] at h; exact h
  have HO1 : Hid (Owns 2 w1 w.heap.size a1 l1 c1 (M.trim [x])) := ho1.mono HB.out.size
  have HB1 : Hid (Below w.heap.size w w1) := HB.out.trans (hb1.mono HB.out.size)
  clear ho1 hb1
  go_wp2_with fail
  refine (l2Mul_any _ (HZ.out.below HB1.out) HO1.out.sees HA.out HX.out hn (by omega)).mono ?_
  rintro e w2 ⟨a2, l2, c2, rfl, ho2, hb2⟩
  have HO2 : Hid (Owns 2 w2 w.heap.size a2 l2 c2 (M.pmul zs (M.trim [x]))) := ho2.mono HB1.out.size
  have HB2 : Hid (Below w.heap.size w w2) := HB1.out.trans (hb2.mono HB1.out.size)
  clear ho2 hb2
  go_wp2
  go_ret
  exact ⟨a2, l2, c2, rfl, HO2.out, HB2.out⟩
set_option maxHeartbeats 8000000 in
theorem specThrough_in {a b : Option Addr} {m c d : Nat} {xs ys : List Int} (w : World) (hx : Sees w a m c xs) (hy : Sees w b m d ys) (h1 : 1 ≤ m) (h2 : m ≤ 64) (hax : M.allEl xs = true) (hay : M.allEl ys = true) :
    Calls Try.prog 19 #[.slice a m c, .slice b m d] w fun e w' => ∃ a' l c', e = .returned (.tuple #[.slice a' l c', .bool (M.thOk xs ys)]) ∧ l ≤ 128 ∧ Owns 2 w' w.heap.size a' l c' (M.thv xs ys) ∧ Below w.heap.size w w' := by
  obtain ⟨b1, o1, rfl, hc1⟩ := hx.at (by omega)
  obtain ⟨b2, o2, rfl, hc2⟩ := hy.at (by omega)
  have lb1 : b1 < w.heap.size := World.block_lt_of_cell? w _ (hc1 0 (by omega))
  have lb2 : b2 < w.heap.size := World.block_lt_of_cell? w _ (hc2 0 (by omega))
  have HX : Hid (Sees w (some ⟨b1, o1, none⟩) m c xs) := hx
  have HY : Hid (Sees w (some ⟨b2, o2, none⟩) m d ys) := hy
  have HC1 : Hid (∀ i, i < m → w.cell? ⟨b1, o1 + i, none⟩ = some (.int .i64 (xs.getD i 0))) := hc1
  have HC2 : Hid (∀ i, i < m → w.cell? ⟨b2, o2 + i, none⟩ = some (.int .i64 (ys.getD i 0))) := hc2
  have HLX : Hid (xs.length = m) := hx.len
  have HLY : Hid (ys.length = m) := hy.len
  have HAX : Hid (M.allEl xs = true) := hax
  have HAY : Hid (M.allEl ys = true) := hay
  have g1 : decide ((m : Int) < 1) = false := decide_eq_false (by omega)
  have g2 : decide ((64 : Int) < (m : Int)) = false := decide_eq_false (by omega)
  have g3 : ((m : Int) != (m : Int)) = false := by simp
  have HOa : Hid (Owns 2 (w.alloc (.cells #[] 2)) w.heap.size (some ⟨w.heap.size, 0, none⟩) 0 0 []) := World.ownsRow_made w #[] 0 (Nat.le_refl _) (by unfold maxLen; omega) rfl
  have HBa : Hid (Below w.heap.size w (w.alloc (.cells #[] 2))) := (Below.refl _ _).alloc (Nat.le_refl _) _
  clear hx hy hc1 hc2
  go_enter Try.func19, Try.ntmps19
  go_wp2_with fail
  refine (l1All_any _ HX.out).mono ?_
  rintro e w ⟨rfl, rfl⟩
  rw [hax]
  go_wp2_with fail
  refine (l1All_any _ HY.out).mono ?_
  rintro e w ⟨rfl, rfl⟩
  rw [hay]
  go_wp2
  go_loopw [6, 7] (fun s i wr => ∃ (k : Nat) (oa : Option Addr) (on oc : Nat) (O : List Int), k ≤ m ∧ i = .int .i64 k ∧ s = .slice oa on oc ∧ Owns 2 wr w.heap.size oa on oc O ∧ M.Lgo xs ys O k ∧ (∀ i j, i < k → j < m → j ≠ i → xs.getD j 0 ≠ xs.getD i 0) ∧ Below w.heap.size w wr) (fun _ i _ => m - (intOf i).toNat)
  case atStart => exact ⟨0, _, 0, 0, [], by omega, rfl, rfl, HOa.out, M.lgo_start xs ys, fun i j h => by omega, HBa.out⟩
  case round =>
    obtain ⟨i, oa, on, oc, O, hi, rfl, rfl, ho, hlg, hun, hb⟩ := hrel
    have HO : Hid (Owns 2 wr w.heap.size oa on oc O) := ho
    have HLG : Hid (M.Lgo xs ys O i) := hlg
    have HUN : Hid (∀ i' j, i' < i → j < m → j ≠ i' → xs.getD j 0 ≠ xs.getD i' 0) := hun
    have HB : Hid (Below w.heap.size w wr) := hb
    clear ho hlg hun hb HOa HBa
    by_cases hlt : i < m
    · have hI : (i : Int) < (m : Int) := by omega
      have HSw : Hid (Sees (wr.alloc (.cells #[Value.int .i64 1] 2)) (some ⟨wr.heap.size, 0, none⟩) 1 1 [1]) := sees_one' wr 1 _
      have HBr : Hid (Below wr.heap.size wr (wr.alloc (.cells #[Value.int .i64 1] 2))) := (Below.refl _ _).alloc (Nat.le_refl _) _
      go_wp2
      go_loopw [8, 9, 10] (fun s t q wv => ∃ (k : Nat) (fa : Option Addr) (fn fc : Nat) (f : List Int) (bt : Int), k ≤ m ∧ q = .int .i64 k ∧ s = .slice fa fn fc ∧ t = .int .i64 bt ∧ Sees wv fa fn fc f ∧ Owns 2 wv w.heap.size oa on oc O ∧ M.Lag xs f bt i k ∧ (∀ j, j < k → j ≠ i → xs.getD j 0 ≠ xs.getD i 0) ∧ Below w.heap.size w wv) (fun _ _ q _ => m - (intOf q).toNat)
      case atStart => exact ⟨0, _, 1, 1, [1], 1, by omega, rfl, rfl, rfl, HSw.out, HO.out.below HBr.out, M.lag_start xs i, fun j h => by omega, HB.out.trans (HBr.out.mono HB.out.size)⟩
      case round =>
        obtain ⟨k, fa, fn, fc, f, bt, hk, rfl, rfl, rfl, hf, ho, hlag, hne, hbv⟩ := hrel
        have HF : Hid (Sees wr fa fn fc f) := hf
        have HOO : Hid (Owns 2 wr w.heap.size oa on oc O) := ho
        have HLAG : Hid (M.Lag xs f bt i k) := hlag
        have HNE : Hid (∀ j, j < k → j ≠ i → xs.getD j 0 ≠ xs.getD i 0) := hne
        have HBV : Hid (Below w.heap.size w wr) := hbv
        obtain ⟨bt0, bt1⟩ := hlag.bd
        clear hf ho hlag hne hbv HSw HBr HO HB
        have e1 : wr.cell? ⟨b1, o1 + i, none⟩ = some (.int .i64 (xs.getD i 0)) := (HBV.out.cell (p := ⟨b1, o1 + i, none⟩) lb1).trans (HC1.out i hlt)
        have hfn : fn ≤ 100 := by rw [← HF.out.len]; have h := HLAG.out.lf; split at h <;> omega
        by_cases hkm : k < m
        · have hK : (k : Int) < (m : Int) := by omega
          by_cases hki : k = i
          · have q1 : ((k : Int) == (i : Int)) = true := by simp [hki]
            have HKI : Hid (k = i) := hki
            clear hki
            go_wp2
            go_roundw
            case rel =>
              refine ⟨k + 1, fa, fn, fc, f, bt, by omega, by go_num, rfl, rfl, HF.out, HOO.out, ?_, fun j hj hji => HNE.out j (by have := HKI.out; omega) hji, HBV.out⟩
              have h := HLAG.out
              rw [HKI.out] at h ⊢
              exact M.lag_skip h
            case measure => simp [intOf]; omega
          · have q1 : ((k : Int) == (i : Int)) = false := by simp; omega
            have e2 : wr.cell? ⟨b1, o1 + k, none⟩ = some (.int .i64 (xs.getD k 0)) := (HBV.out.cell (p := ⟨b1, o1 + k, none⟩) lb1).trans (HC1.out k hkm)
            have HSTEP : Hid (xs.getD k 0 ≠ xs.getD i 0 → M.Lag xs (M.pmul f [M.sub 0 (xs.getD k 0), 1]) (bt * M.sub (xs.getD i 0) (xs.getD k 0) % 65537) i (k + 1)) := fun h => M.lag_step HLAG.out HAX.out hki h
            have HNO : Hid (xs.getD k 0 = xs.getD i 0 → M.thOk xs ys = false) := fun h => M.thOk_no (.inr (.inr (.inr (decide_eq_false fun hd => M.nodup_ne hd (by rw [HLX.out]; exact hkm) (by rw [HLX.out]; exact hlt) hki h))))
            have HNS : Hid (xs.getD k 0 ≠ xs.getD i 0 → ∀ j, j < k + 1 → j ≠ i → xs.getD j 0 ≠ xs.getD i 0) := fun h j hj hji => by
              by_cases e : j = k
              · subst e; exact h
              · exact HNE.out j (by omega) hji
            have hel : M.el (M.sub (xs.getD i 0) (xs.getD k 0)) = true := by
              have a1 := (M.el_iff _).2 (M.el_at HAX.out i); have a2 := (M.el_iff _).2 (M.el_at HAX.out k)
              exact M.el_sub a1 a2
            have hel0 : M.el (M.sub 0 (xs.getD k 0)) = true := by
              have a2 := (M.el_iff _).2 (M.el_at HAX.out k)
              exact M.el_sub (by decide) a2
            generalize xs.getD k 0 = y at e2 HSTEP HNO HNS hel hel0
            generalize hxx : xs.getD i 0 = x at e1 HSTEP HNO HNS hel
            have HXX : Hid (xs.getD i 0 = x) := hxx
            clear hxx
            obtain ⟨z0, z1⟩ := (M.el_iff _).1 hel
            obtain ⟨y0, y1⟩ := (M.el_iff _).1 hel0
            clear hel hel0
            have HYA : Hid (M.allEl [M.sub 0 y, 1] = true) := M.all_cons ⟨y0, y1⟩ (by decide)
            by_cases he : y = x
            · have q2 : (y == x) = true := by simp [he]
              have E : Hid (M.thOk xs ys = false) := HNO.out he
              clear he
              go_wp2
              go_quiet (fail)
              go_wp2
              go_ret2
              exact ⟨none, 0, 0, by rw [E.out]; rfl, by omega, by rw [M.thv_out E.out]; exact Owns.empty _ _ _, Below.drewN' HBV.out _⟩
            · have q2 : (y == x) = false := by simp [he]
              have HST : Hid (M.Lag xs (M.pmul f [M.sub 0 y, 1]) (bt * M.sub x y % 65537) i (k + 1)) := HSTEP.out he
              have HNN : Hid (∀ j, j < k + 1 → j ≠ i → xs.getD j 0 ≠ x) := HNS.out he
              clear he HSTEP HNO HNS
              go_wp2
              go_quiet (fail)
              have hbd : Below w.heap.size w (wr.drewN nq) := Below.drewN' HBV.out _
              have hfd : Sees (wr.drewN nq) fa fn fc f := HF.out.drewN _
              have hod : Owns 2 (wr.drewN nq) w.heap.size oa on oc O := HOO.out.drewN _
              have d1 : (wr.drewN nq).cell? ⟨b1, o1 + i, none⟩ = some (.int .i64 x) := e1
              have d2 : (wr.drewN nq).cell? ⟨b1, o1 + k, none⟩ = some (.int .i64 y) := e2
              generalize wr.drewN nq = wd at hbd hfd hod d1 d2
              have HBD : Hid (Below w.heap.size w wd) := hbd
              have HFD : Hid (Sees wd fa fn fc f) := hfd
              have HOD : Hid (Owns 2 wd w.heap.size oa on oc O) := hod
              have HBA : Hid (Below wd.heap.size wd (wd.alloc (.cells #[Value.int .i64 (M.sub 0 y), Value.int .i64 1] 2))) := (Below.refl _ _).alloc (Nat.le_refl _) _
              have HS2 : Hid (Sees (wd.alloc (.cells #[Value.int .i64 (M.sub 0 y), Value.int .i64 1] 2)) (some ⟨wd.heap.size, 0, none⟩) 2 2 [M.sub 0 y, 1]) := sees_two wd _ _ _
              clear hbd hfd hod e1 e2 HF HOO HBV
              go_wp2_with fail
              refine (specSub_any 0 y _).mono ?_
              rintro e wd ⟨rfl, rfl⟩
              go_wp2_with fail
              refine (l2Mul_any _ (HFD.out.below HBA.out) HS2.out HLAG.out.fl HYA.out (by omega) (by omega)).mono ?_
              rintro e w1 ⟨pa, pl, pc, rfl, hop, hb1⟩
              have hb1' : Below wd.heap.size wd w1 := HBA.out.trans (hb1.mono HBA.out.size)
              have HOP : Hid (Owns 2 w1 wd.heap.size pa pl pc (M.pmul f [M.sub 0 y, 1])) := hop.mono HBA.out.size
              have HO1 : Hid (Owns 2 w1 w.heap.size oa on oc O) := HOD.out.below hb1'
              have HB1 : Hid (Below w.heap.size w w1) := HBD.out.trans (hb1'.mono HBD.out.size)
              have c1 := (hb1'.cell (p := ⟨b1, o1 + i, none⟩) (World.block_lt_of_cell? wd _ d1)).trans d1
              have c2 := (hb1'.cell (p := ⟨b1, o1 + k, none⟩) (World.block_lt_of_cell? wd _ d2)).trans d2
              have hsub : Hid (∀ W, Calls Try.prog 35 #[.int .i64 x, .int .i64 y] W fun e w' => e = .returned (.int .i64 (M.sub x y)) ∧ w' = W) := fun W => specSub_any x y W
              clear hop hb1 hb1' d1 d2
              generalize M.sub x y = z at z0 z1 HST hsub
              obtain ⟨m0, m1⟩ := M.mul_bd bt0 bt1 z0 z1
              go_wp2
              go_quiet ((go_at_call 35; exact Calls.quiet_of_same (hsub.out _)))
              go_wp2
              go_roundw
              case rel => exact ⟨k + 1, pa, pl, pc, _, _, by omega, by go_num, rfl, rfl, HOP.out.sees.drewN _, HO1.out.drewN _, HST.out, HNN.out, Below.drewN' HB1.out _⟩
              case measure => simp [intOf]; omega
        · have hkm' : k = m := by omega
          subst hkm'
          have e2 : wr.cell? ⟨b2, o2 + i, none⟩ = some (.int .i64 (ys.getD i 0)) := (HBV.out.cell (p := ⟨b2, o2 + i, none⟩) lb2).trans (HC2.out i hlt)
          have HSTEP : Hid (M.Lgo xs ys (M.trim (M.padd O (M.pmul f (M.trim [ys.getD i 0 * M.inv bt % 65537])))) (i + 1)) := by
            have h := HLAG.out
            rw [← HLX.out] at h
            exact M.lgo_step HLG.out h (by rw [HLX.out]; exact hlt) HAY.out
          have HNE2 : Hid (∀ i' j, i' < i + 1 → j < k → j ≠ i' → xs.getD j 0 ≠ xs.getD i' 0) := fun i' j hi' hj hji => by
            by_cases e : i' = i
            · subst e; exact HNE.out j hj hji
            · exact HUN.out i' j (by omega) hj hji
          obtain ⟨iv0, iv1⟩ := (M.el_iff _).1 (M.el_inv ((M.el_iff _).2 ⟨bt0, bt1⟩) HLAG.out.b0)
          obtain ⟨y0, y1⟩ := M.el_at HAY.out i
          generalize ys.getD i 0 = y at e2 HSTEP y0 y1
          have HINV : Hid (∀ W, Calls Try.prog 37 #[.int .i64 bt] W fun e w' => e = .returned (.int .i64 (M.inv bt)) ∧ w' = W) := fun W => specInv_any bt W
          generalize M.inv bt = iv at HSTEP iv0 iv1 HINV
          obtain ⟨m0, m1⟩ := M.mul_bd y0 y1 iv0 iv1
          have c0 : 0 ≤ y * iv % 65537 := by omega
          have c1 : y * iv % 65537 < 65537 := by omega
          generalize hcc : y * iv % 65537 = cc at HSTEP c0 c1
          have HCC : Hid (y * iv % 65537 = cc) := hcc
          have hct : (y * iv).tmod 65537 = cc := by rw [Int.tmod_eq_emod_of_nonneg m0]; exact hcc
          have hcw : IntKind.i64.wrap (y * iv) = y * iv := by rw [IntKind.wrap_i64]; omega
          have hb0 : Below wr.heap.size wr wr.drew := (Below.refl _ _).drew
          have HK : Hid (∀ W, Below wr.heap.size wr W → W.cell? ⟨b2, o2 + i, none⟩ = some (.int .i64 y)) := fun W hW => (hW.cell (p := ⟨b2, o2 + i, none⟩) (World.block_lt_of_cell? wr _ e2)).trans e2
          have HFd : Hid (Sees wr.drew fa fn fc f) := HF.out.below hb0
          have HLo : Hid (O.length ≤ 100000) := by show _ ≤ _; have h := HLG.out.lo; rw [HLX.out] at h; omega
          have HLp : Hid ((M.pmul f (M.trim [cc])).length ≤ 100000) := by
            show _ ≤ _
            have h := M.pmul_len f (M.trim [cc]); have h2 := M.len_trim [cc]; rw [HF.out.len] at h
            simp only [List.length_cons, List.length_nil] at h2; omega
          clear hcc
          go_wp2
          go_region_held3 (fun W => W.cell? ⟨b2, o2 + i, none⟩ = some (.int .i64 y)) (first | exact HK.out _ hb0 | exact HK.out _ hbb)
            (first
              | (go_at_call 37; refine (HINV.out _).mono ?_; rintro e w1 ⟨rfl, rfl⟩)
              | (go_at_call 36; refine (l2Scale_any cc _ HFd.out HLAG.out.fl (by omega) c0 c1).mono ?_; rintro e w1 ⟨pa, pl, pc, rfl, hop, hb1⟩; have hbb : Below wr.heap.size wr w1 := hb0.trans hb1)
              | (go_at_call 26; refine (l2Add_any _ (HOO.out.below hbb).sees hop.sees HLG.out.ol (M.all_pmul _ _) (by rw [← HOO.out.len]; exact HLo.out) (by rw [← hop.len]; exact HLp.out)).mono ?_; rintro e w2 ⟨qa, ql, qc, rfl, hoq, hb2⟩; have hsz := hbb.size; replace hbb : Below wr.heap.size wr w2 := hbb.trans (hb2.mono hbb.size)))
          have HOQ : Hid (Owns 2 w2 w.heap.size qa ql qc (M.trim (M.padd O (M.pmul f (M.trim [cc]))))) := hoq.mono (Nat.le_trans HBV.out.size hsz)
          have HB2 : Hid (Below w.heap.size w w2) := HBV.out.trans (hbb.mono HBV.out.size)
          clear hoq hop hb1 hb2 hbb
          go_wp2
          go_roundw
          case rel => exact ⟨i + 1, qa, ql, qc, _, by omega, by go_num, rfl, HOQ.out, HSTEP.out, HNE2.out, HB2.out⟩
          case measure => simp [intOf]; omega
    · have him : i = m := by omega
      subst him
      have HND : Hid (xs.Nodup) := (M.nodup_iff xs).2 fun p q hpq hq => HUN.out q p (by rw [HLX.out] at hq; exact hq) (by rw [HLX.out] at hq; omega) (by omega)
      have E : Hid (M.thOk xs ys = true) := M.thOk_mk (M.thLens_yes (by rw [HLX.out]; exact h1) (by rw [HLX.out]; exact h2) (by rw [HLX.out, HLY.out])) HAX.out HAY.out HND.out
      have HV : Hid (O = M.thv xs ys) := by
        show _ = _
        have h := HLG.out
        rw [← HLX.out] at h
        exact M.thv_of E.out (M.lgo_end h)
      have hon : on ≤ 64 := by have h := M.thv_len xs ys; rw [← HV.out, HO.out.len] at h; exact h
      go_wp2
      go_ret2
      exact ⟨oa, on, oc, by rw [E.out]; rfl, by omega, by rw [← HV.out]; exact HO.out, HB.out⟩
set_option maxHeartbeats 4000000 in
theorem specThrough_any {a b : Option Addr} {n m c d : Nat} {xs ys : List Int} (w : World) (hx : Sees w a n c xs) (hy : Sees w b m d ys) :
    Calls Try.prog 19 #[.slice a n c, .slice b m d] w fun e w' => ∃ a' l c', e = .returned (.tuple #[.slice a' l c', .bool (M.thOk xs ys)]) ∧ l ≤ 128 ∧ Owns 2 w' w.heap.size a' l c' (M.thv xs ys) ∧ Below w.heap.size w w' := by
  have hlx := hx.len
  have hly := hy.len
  have bn : (n : Int) ≤ 9223372036854775807 := by have := hx.big; have := hx.le; omega
  have bm : (m : Int) ≤ 9223372036854775807 := by have := hy.big; have := hy.le; omega
  have HX : Hid (Sees w a n c xs) := hx
  have HY : Hid (Sees w b m d ys) := hy
  clear hx hy
  by_cases h1 : n < 1
  · have E : Hid (M.thOk xs ys = false) := M.thOk_no (.inl (M.thLens_no (.inl (by omega))))
    have g1 : (n : Int) < 1 := by omega
    clear hlx hly
    go_enter Try.func19, Try.ntmps19
    go_wp2
    go_ret2
    exact ⟨none, 0, 0, by rw [E.out]; rfl, by omega, by rw [M.thv_out E.out]; exact Owns.empty _ _ _, Below.refl _ _⟩
  · have g1 : decide ((n : Int) < 1) = false := decide_eq_false (by omega)
    by_cases h2 : 64 < n
    · have E : Hid (M.thOk xs ys = false) := M.thOk_no (.inl (M.thLens_no (.inr (.inl (by omega)))))
      have g2 : (64 : Int) < (n : Int) := by omega
      clear hlx hly
      go_enter Try.func19, Try.ntmps19
      go_wp2
      go_ret2
      exact ⟨none, 0, 0, by rw [E.out]; rfl, by omega, by rw [M.thv_out E.out]; exact Owns.empty _ _ _, Below.refl _ _⟩
    · have g2 : decide ((64 : Int) < (n : Int)) = false := decide_eq_false (by omega)
      by_cases h3 : m = n
      · subst h3
        have g3 : ((m : Int) != (m : Int)) = false := by simp
        cases ha : M.allEl xs with
        | false =>
          have E : Hid (M.thOk xs ys = false) := M.thOk_no (.inr (.inl ha))
          clear hlx hly
          go_enter Try.func19, Try.ntmps19
          go_wp2_with fail
          refine (l1All_any _ HX.out).mono ?_
          rintro e w ⟨rfl, rfl⟩
          rw [ha]
          go_wp2
          go_ret2
          exact ⟨none, 0, 0, by rw [E.out]; rfl, by omega, by rw [M.thv_out E.out]; exact Owns.empty _ _ _, Below.refl _ _⟩
        | true =>
          cases hb : M.allEl ys with
          | false =>
            have E : Hid (M.thOk xs ys = false) := M.thOk_no (.inr (.inr (.inl hb)))
            clear hlx hly
            go_enter Try.func19, Try.ntmps19
            go_wp2_with fail
            refine (l1All_any _ HX.out).mono ?_
            rintro e w ⟨rfl, rfl⟩
            rw [ha]
            go_wp2_with fail
            refine (l1All_any _ HY.out).mono ?_
            rintro e w ⟨rfl, rfl⟩
            rw [hb]
            go_wp2
            go_ret2
            exact ⟨none, 0, 0, by rw [E.out]; rfl, by omega, by rw [M.thv_out E.out]; exact Owns.empty _ _ _, Below.refl _ _⟩
          | true => exact specThrough_in w HX.out HY.out (by omega) (by omega) ha hb
      · have E : Hid (M.thOk xs ys = false) := M.thOk_no (.inl (M.thLens_no (.inr (.inr (by omega)))))
        have g3 : ((n : Int) != (m : Int)) = true := by simp; omega
        clear hlx hly
        go_enter Try.func19, Try.ntmps19
        go_wp2
        go_ret2
        exact ⟨none, 0, 0, by rw [E.out]; rfl, by omega, by rw [M.thv_out E.out]; exact Owns.empty _ _ _, Below.refl _ _⟩
end Go.Proofs.Ytjeoenieoejolag
