/- Division with a rest in the program, continued: the fold over the coefficients. -/
import Derived.Test.YtjeoenieoejolagSlN
namespace Go.Proofs.Ytjeoenieoejolag
open Go.RowKit

theorem Sees.drew {w : World} {a : Option Addr} {n cap : Nat} {zs : List Int} (h : Sees w a n cap zs) : Sees w.drew a n cap zs := h.of_cells fun _ _ hp _ => hp
theorem two_set (w : World) (B : Nat) (u v x y : Value) (h0 : w.cell? ⟨B, 0, none⟩ = some x) (h1 : w.cell? ⟨B, 1, none⟩ = some y) :
    ((w.setCell ⟨B, 0, none⟩ u).setCell ⟨B, 1, none⟩ v).cell? ⟨B, 0, none⟩ = some u ∧ ((w.setCell ⟨B, 0, none⟩ u).setCell ⟨B, 1, none⟩ v).cell? ⟨B, 1, none⟩ = some v ∧ (∀ p : Addr, p.block ≠ B → ((w.setCell ⟨B, 0, none⟩ u).setCell ⟨B, 1, none⟩ v).cell? p = w.cell? p) ∧ (∀ p, ((w.setCell ⟨B, 0, none⟩ u).setCell ⟨B, 1, none⟩ v).frozen? p = w.frozen? p) ∧ ((w.setCell ⟨B, 0, none⟩ u).setCell ⟨B, 1, none⟩ v).heap.size = w.heap.size := by
  have a1 : (w.setCell ⟨B, 0, none⟩ u).cell? ⟨B, 1, none⟩ = some y := (World.cell?_setCell_other (w := w) (a := ⟨B, 0, none⟩) (b := ⟨B, 1, none⟩) (v := u) (h := by simp)).trans h1
  have a0 : (w.setCell ⟨B, 0, none⟩ u).cell? ⟨B, 0, none⟩ = some u := World.cell?_setCell_same (w := w) (a := ⟨B, 0, none⟩) (v := u) (h := h0)
  refine ⟨?_, World.cell?_setCell_same (w := w.setCell ⟨B, 0, none⟩ u) (a := ⟨B, 1, none⟩) (v := v) (h := a1), fun p hp => ?_, fun p => by simp, by simp⟩
  · exact (World.cell?_setCell_other (w := w.setCell ⟨B, 0, none⟩ u) (a := ⟨B, 1, none⟩) (b := ⟨B, 0, none⟩) (v := v) (h := by simp)).trans a0
  · refine (World.cell?_setCell_other (w := w.setCell ⟨B, 0, none⟩ u) (a := ⟨B, 1, none⟩) (b := p) (v := v) (h := ?_)).trans (World.cell?_setCell_other (w := w) (a := ⟨B, 0, none⟩) (b := p) (v := u) (h := ?_))
    · intro e; exact hp (by rw [← e])
    · intro e; exact hp (by rw [← e])
theorem M.div_drop {zs ys Q R : List Int} {k : Nat} (hk : k < zs.length) (h : M.Div (zs.getD k 0 :: zs.drop (k + 1)) ys Q R) : M.Div (zs.drop k) ys Q R := by
  rw [List.drop_eq_getElem_cons hk]
  rw [List.getD_eq_getElem?_getD, List.getElem?_eq_getElem hk] at h
  exact h
theorem M.div_qlen {f g q r : List Int} (h : M.Div f g q r) (ag : M.allEl g = true) (ng : M.neat g) : q.length ≤ f.length + 1 := by
  rcases Nat.lt_or_ge (f.length + 1) q.length with hl | hl
  · exfalso
    have g0 : 0 < g.length := by have := h.short; omega
    have e1 : q.getD (q.length - 1) 0 ≠ 0 := by
      rcases h.nq with x | x
      · omega
      · exact x
    have e2 : g.getD (g.length - 1) 0 ≠ 0 := by
      rcases ng with x | x
      · omega
      · exact x
    have hne := M.prod_ne ((M.el_iff _).2 (M.el_at h.aq _)) ((M.el_iff _).2 (M.el_at ag _)) e1 e2
    rw [← M.pm_lead q g (by omega) g0] at hne
    have he := h.eq (q.length + g.length - 2)
    have hs := h.short
    rw [M.getD_out (zs := f) (by omega), M.getD_out (zs := r) (by omega)] at he
    have hb := M.pm_bd q g (q.length + g.length - 2)
    omega
  · exact hl
set_option maxHeartbeats 4000000 in
theorem foldDiv_any {a g : Option Addr} {n cc m d : Nat} {zs ys : List Int} (iv : Int) (RG RL : Nat) (w : World) (hz : Sees w a n cc zs) (hg : Sees w g m d ys) (az : M.allEl zs = true) (ay : M.allEl ys = true) (ny : M.neat ys) (hn : n ≤ 128) (hm : m ≤ 128) (hm0 : 0 < m) (hiv : iv = M.inv (ys.getD (ys.length - 1) 0))
    (hRG : w.cell? ⟨RG, 0, none⟩ = some (.slice g m d)) (hRL : w.cell? ⟨RL, 0, none⟩ = some (.int .i64 iv)) :
    Calls Try.prog 61 #[.slice a n cc, .agg #[.slice none 0 0, .slice none 0 0], .func (.func 62) #[] #[.pointer (some ⟨RG, 0, none⟩), .pointer (some ⟨RL, 0, none⟩)]] w fun e w' => ∃ a1 l1 c1 a2 l2 c2 Q R, e = .returned (.agg #[.slice a1 l1 c1, .slice a2 l2 c2]) ∧ Owns 50 w' w.heap.size a1 l1 c1 Q ∧ Owns 50 w' w.heap.size a2 l2 c2 R ∧ M.Div zs ys Q R ∧ Below w.heap.size w w' := by
  have HZ : Hid (Sees w a n cc zs) := hz
  have HG : Hid (Sees w g m d ys) := hg
  have HAZ : Hid (M.allEl zs = true) := az
  have HAY : Hid (M.allEl ys = true) := ay
  have HNY : Hid (M.neat ys) := ny
  have HIV : Hid (iv = M.inv (ys.getD (ys.length - 1) 0)) := hiv
  have HGl : Hid (∀ w', Below w.heap.size w w' → w'.cell? ⟨RG, 0, none⟩ = some (.slice g m d)) := fun w' hb => (hb.cell (p := ⟨RG, 0, none⟩) (World.block_lt_of_cell? w _ hRG)).trans hRG
  have HLl : Hid (∀ w', Below w.heap.size w w' → w'.cell? ⟨RL, 0, none⟩ = some (.int .i64 iv)) := fun w' hb => (hb.cell (p := ⟨RL, 0, none⟩) (World.block_lt_of_cell? w _ hRL)).trans hRL
  have HST : Hid (M.Div (zs.drop n) ys [] []) := by
    show M.Div _ _ _ _
    rw [List.drop_of_length_le (by rw [hz.len]; exact Nat.le_refl _)]
    exact M.div_short (.inl rfl) rfl (by rw [hg.len]; exact hm0)
  have HBa : Hid (Below w.heap.size w ((w.alloc (.cells #[Value.slice none 0 0, Value.slice none 0 0] 45)).alloc (.cells #[Value.slice none 0 0, Value.slice none 0 0] 45))) := ((Below.refl _ _).alloc (Nat.le_refl _) _).alloc (by simp) _
  clear hz hg az ay ny hiv hRG hRL
  go_enter Try.func61, Try.ntmps61
  go_wp2
  go_loopw [7] (fun i wr => ∃ (k : Nat) (qa : Option Addr) (qn qc : Nat) (ra : Option Addr) (rn rc : Nat) (Q R : List Int), k ≤ n ∧ i = .int .i64 ((k : Int) - 1) ∧ w.heap.size + 2 ≤ wr.heap.size ∧ wr.cell? ⟨w.heap.size, 0, none⟩ = some (.slice qa qn qc) ∧ wr.cell? ⟨w.heap.size, 1, none⟩ = some (.slice ra rn rc) ∧ wr.frozen? ⟨w.heap.size, 0, none⟩ = false ∧ wr.frozen? ⟨w.heap.size, 1, none⟩ = false ∧
      wr.cell? ⟨w.heap.size + 1, 0, none⟩ = some (.slice none 0 0) ∧ wr.cell? ⟨w.heap.size + 1, 1, none⟩ = some (.slice none 0 0) ∧ wr.frozen? ⟨w.heap.size + 1, 0, none⟩ = false ∧ wr.frozen? ⟨w.heap.size + 1, 1, none⟩ = false ∧
      Owns 50 wr (w.heap.size + 2) qa qn qc Q ∧ Owns 50 wr (w.heap.size + 2) ra rn rc R ∧ M.Div (zs.drop k) ys Q R ∧ Below w.heap.size w wr) (fun i _ => (intOf i + 1).toNat)
  case atStart => exact ⟨n, none, 0, 0, none, 0, 0, [], [], Nat.le_refl _, rfl, by simp, by simp, by simp, by simp, by simp, by simp, by simp, by simp, by simp, Owns.empty _ _ _, Owns.empty _ _ _, HST.out, HBa.out⟩
  case round =>
    obtain ⟨k, qa, qn, qc, ra, rn, rc, Q, R, hk, rfl, hsz, s0, s1, s2, s3, t0, t1, t2, t3, hoq, hor, hd, hb⟩ := hrel
    have HOQ : Hid (Owns 50 wr (w.heap.size + 2) qa qn qc Q) := hoq
    have HOR : Hid (Owns 50 wr (w.heap.size + 2) ra rn rc R) := hor
    have HD : Hid (M.Div (zs.drop k) ys Q R) := hd
    have HB : Hid (Below w.heap.size w wr) := hb
    clear hoq hor hd hb HST HBa
    by_cases h0 : 0 < k
    · obtain ⟨b1, o1, rfl, hc1⟩ := (HZ.out.below HB.out).at (by omega)
      have e1 := hc1 (k - 1) (by omega)
      have x01 := M.el_at HAZ.out (k - 1)
      have HDD : Hid (∀ x Q' R', zs.getD (k - 1) 0 = x → M.Div (x :: zs.drop k) ys Q' R' → M.Div (zs.drop (k - 1)) ys Q' R') := by
        intro x Q' R' hx h
        refine M.div_drop (by rw [HZ.out.len]; omega) ?_
        rw [hx, show k - 1 + 1 = k by omega]; exact h
      have hqn : qn ≤ 1000 := by
        have h := M.div_qlen HD.out HAY.out HNY.out
        rw [HOQ.out.len, List.length_drop, HZ.out.len] at h; omega
      clear hc1
      generalize hx : zs.getD (k - 1) 0 = x at e1 x01
      have HX : Hid (zs.getD (k - 1) 0 = x) := hx
      obtain ⟨x0, x1⟩ := x01
      have hI1 : (0 : Int) ≤ (k : Int) - 1 := by omega
      have hI2 : (k : Int) - 1 < (n : Int) := by omega
      have HCt : Hid (∀ W, Below w.heap.size w W → Sees W qa qn qc Q → Sees W ra rn rc R → Calls Try.prog 62 #[.agg #[.slice qa qn qc, .slice ra rn rc], .int .i64 x, .pointer (some ⟨RG, 0, none⟩), .pointer (some ⟨RL, 0, none⟩)] W fun e w' => ∃ a1 l1 c1 a2 l2 c2 Q' R', e = .returned (.agg #[.slice a1 l1 c1, .slice a2 l2 c2]) ∧ Owns 50 w' W.heap.size a1 l1 c1 Q' ∧ Owns 50 w' W.heap.size a2 l2 c2 R' ∧ M.Div (x :: zs.drop k) ys Q' R' ∧ Below W.heap.size W w') := fun W hW h1 h2 => dividedBy1_any x iv RG RL W (HG.out.below hW) h1 h2 HD.out HAY.out HNY.out hm hqn x0 x1 HIV.out (HGl.out W hW) (HLl.out W hW)
      have HKp : Hid (∀ W, Below wr.drew.heap.size wr.drew W → W.cell? ⟨w.heap.size, 0, none⟩ = some (.slice qa qn qc) ∧ W.cell? ⟨w.heap.size, 1, none⟩ = some (.slice ra rn rc) ∧ W.frozen? ⟨w.heap.size, 0, none⟩ = false ∧ W.frozen? ⟨w.heap.size, 1, none⟩ = false ∧ W.cell? ⟨w.heap.size + 1, 0, none⟩ = some (.slice none 0 0) ∧ W.cell? ⟨w.heap.size + 1, 1, none⟩ = some (.slice none 0 0) ∧ W.frozen? ⟨w.heap.size + 1, 0, none⟩ = false ∧ W.frozen? ⟨w.heap.size + 1, 1, none⟩ = false) := by
        intro W hW
        have hW' : Below wr.heap.size wr W := (Below.refl _ _).drew.trans hW
        exact ⟨(hW'.cell (p := ⟨w.heap.size, 0, none⟩) (show w.heap.size < _ by omega)).trans s0, (hW'.cell (p := ⟨w.heap.size, 1, none⟩) (show w.heap.size < _ by omega)).trans s1, (hW'.frozen (p := ⟨w.heap.size, 0, none⟩) (show w.heap.size < _ by omega)).trans s2, (hW'.frozen (p := ⟨w.heap.size, 1, none⟩) (show w.heap.size < _ by omega)).trans s3, (hW'.cell (p := ⟨w.heap.size + 1, 0, none⟩) (show w.heap.size + 1 < _ by omega)).trans t0, (hW'.cell (p := ⟨w.heap.size + 1, 1, none⟩) (show w.heap.size + 1 < _ by omega)).trans t1, (hW'.frozen (p := ⟨w.heap.size + 1, 0, none⟩) (show w.heap.size + 1 < _ by omega)).trans t2, (hW'.frozen (p := ⟨w.heap.size + 1, 1, none⟩) (show w.heap.size + 1 < _ by omega)).trans t3⟩
      clear hx
      go_wp2
      go_region_with ((go_at_call 62; refine (HCt.out _ HB.out.drew HOQ.out.sees.drew HOR.out.sees.drew).mono ?_; rintro e w2 ⟨a1, l1, c1, a2, l2, c2, Q', R', rfl, ho1, ho2, hd2, hb2⟩; obtain ⟨g0, g1, g2, g3, g4, g5, g6, g7⟩ := HKp.out _ hb2))
      all_goals
        have HO1 : Hid (Owns 50 w2 (w.heap.size + 2) a1 l1 c1 Q') := ho1.mono hsz
        have HO2 : Hid (Owns 50 w2 (w.heap.size + 2) a2 l2 c2 R') := ho2.mono hsz
        have HD2 : Hid (M.Div (zs.drop (k - 1)) ys Q' R') := HDD.out x Q' R' HX.out hd2
        have HB2 : Hid (Below w.heap.size w w2) := HB.out.drew.trans (hb2.mono (show w.heap.size ≤ wr.heap.size by omega))
        have HSZ : Hid (w.heap.size + 2 ≤ w2.heap.size) := Nat.le_trans hsz hb2.size
        have HTS : Hid (_ ∧ _ ∧ _ ∧ _ ∧ _) := two_set w2 w.heap.size (.slice a1 l1 c1) (.slice a2 l2 c2) _ _ g0 g1
        have HF : Hid (w2.frozen? ⟨w.heap.size, 0, none⟩ = false ∧ w2.frozen? ⟨w.heap.size, 1, none⟩ = false ∧ w2.cell? ⟨w.heap.size + 1, 0, none⟩ = some (.slice none 0 0) ∧ w2.cell? ⟨w.heap.size + 1, 1, none⟩ = some (.slice none 0 0) ∧ w2.frozen? ⟨w.heap.size + 1, 0, none⟩ = false ∧ w2.frozen? ⟨w.heap.size + 1, 1, none⟩ = false) := ⟨g2, g3, g4, g5, g6, g7⟩
        clear ho1 ho2 hd2 hb2 g0 g1 g2 g3 g4 g5 g6 g7
        go_wp2
        go_roundw
        case rel =>
          obtain ⟨u0, u1, u2, u3, u4⟩ := HTS.out
          obtain ⟨f0, f1, f2, f3, f4, f5⟩ := HF.out
          refine ⟨k - 1, a1, l1, c1, a2, l2, c2, Q', R', by omega, by go_num, ?_, u0, u1, (u3 _).trans f0, (u3 _).trans f1, (u2 _ (by simp)).trans f2, (u2 _ (by simp)).trans f3, (u3 _).trans f4, (u3 _).trans f5, ?_, ?_, HD2.out, (HB2.out.setCell (Nat.le_refl _) _).setCell (Nat.le_refl _) _⟩
          · rw [u4]; exact HSZ.out
          · have h := HO1.out.lo
            exact (HO1.out.other ⟨w.heap.size, 0, none⟩ (fun x hx => by have := h x hx; simp; omega) _).other ⟨w.heap.size, 1, none⟩ (fun x hx => by have := h x hx; simp; omega) _
          · have h := HO2.out.lo
            exact (HO2.out.other ⟨w.heap.size, 0, none⟩ (fun x hx => by have := h x hx; simp; omega) _).other ⟨w.heap.size, 1, none⟩ (fun x hx => by have := h x hx; simp; omega) _
        case measure => simp [intOf] <;> omega
    · have hk0 : k = 0 := by omega
      subst hk0
      have HD0 : Hid (M.Div zs ys Q R) := HD.out
      have HTS : Hid (_ ∧ _ ∧ _ ∧ _ ∧ _) := two_set wr (w.heap.size + 1) (.slice qa qn qc) (.slice ra rn rc) _ _ t0 t1
      go_wp2
      obtain ⟨u0, u1, u2, u3, u4⟩ := HTS.out
      refine bodyPost_ret (v := .agg #[.slice qa qn qc, .slice ra rn rc]) (by simp [results, Try.results61, go_sem, t0, t1]) rfl ⟨qa, qn, qc, ra, rn, rc, Q, R, rfl, ?_, ?_, HD0.out, (HB.out.setCell (Nat.le_succ _) _).setCell (Nat.le_succ _) _⟩
      · have h := HOQ.out.lo
        exact ((HOQ.out.other ⟨w.heap.size + 1, 0, none⟩ (fun x hx => by have := h x hx; simp; omega) _).other ⟨w.heap.size + 1, 1, none⟩ (fun x hx => by have := h x hx; simp; omega) _).mono (by omega)
      · have h := HOR.out.lo
        exact ((HOR.out.other ⟨w.heap.size + 1, 0, none⟩ (fun x hx => by have := h x hx; simp; omega) _).other ⟨w.heap.size + 1, 1, none⟩ (fun x hx => by have := h x hx; simp; omega) _).mono (by omega)
end Go.Proofs.Ytjeoenieoejolag
