/- Products of polynomials in the program. -/
import Derived.Test.YtjeoenieoejolagSlJ
import Derived.Deep.RegionWith
namespace Go.Proofs.Ytjeoenieoejolag
open Go.RowKit

theorem shifted_in {a : Option Addr} {n cc : Nat} {zs : List Int} (c : Int) {w wc : World} (hb : Below w.heap.size w wc) (hz : Sees w a n cc zs) (hn : n ≤ 1000000) :
    Calls Try.prog 58 #[.slice a n cc, .int .i64 c] wc fun e w' => ∃ a' l cap', e = .returned (.slice a' l cap') ∧ Owns 50 w' w.heap.size a' l cap' (M.trim (c :: zs)) ∧ Below w.heap.size w w' ∧ Below wc.heap.size wc w' :=
  (shifted_any c wc (hz.below hb) hn).mono fun _ _ ⟨a', l, cap', he, ho, hbl⟩ => ⟨a', l, cap', he, ho.mono hb.size, hb.trans (hbl.mono hb.size), hbl⟩
theorem scaled_in {a : Option Addr} {n cc : Nat} {zs : List Int} (c : Int) {w wc : World} (hb : Below w.heap.size w wc) (hz : Sees w a n cc zs) (hall : M.allEl zs = true) (hn : n ≤ 1000000) (c0 : 0 ≤ c) (c1 : c < 65537) :
    Calls Try.prog 59 #[.slice a n cc, .int .i64 c] wc fun e w' => ∃ a' l cap', e = .returned (.slice a' l cap') ∧ Owns 50 w' w.heap.size a' l cap' (M.trim (M.pscale zs c)) ∧ Below w.heap.size w w' ∧ Below wc.heap.size wc w' :=
  (scaled_any c wc (hz.below hb) hall hn c0 c1).mono fun _ _ ⟨a', l, cap', he, ho, hbl⟩ => ⟨a', l, cap', he, ho.mono hb.size, hb.trans (hbl.mono hb.size), hbl⟩
theorem plus_in {a b : Option Addr} {n m c d : Nat} {zs ys : List Int} {w wc : World} (hb : Below w.heap.size w wc) (hz : Sees wc a n c zs) (hy : Sees wc b m d ys) (h1 : M.allEl zs = true) (h2 : M.allEl ys = true) (hn : zs.length ≤ 100000) (hm : ys.length ≤ 100000) :
    Calls Try.prog 29 #[.slice a n c, .slice b m d] wc fun e w' => ∃ a' l c', e = .returned (.slice a' l c') ∧ Owns 50 w' w.heap.size a' l c' (M.trim (M.padd zs ys)) ∧ Below w.heap.size w w' :=
  (polyPlus_any wc hz hy h1 h2 (by rw [← hz.len]; exact hn) (by rw [← hy.len]; exact hm)).mono fun _ _ ⟨a', l, c', he, ho, hbl⟩ => ⟨a', l, c', he, ho.mono hb.size, hb.trans (hbl.mono hb.size)⟩
set_option maxHeartbeats 4000000 in
theorem times1_any {a g : Option Addr} {n cc m d : Nat} {L ys : List Int} (c : Int) (R : Nat) (w : World) (hz : Sees w a n cc L) (hg : Sees w g m d ys) (hL : M.allEl L = true) (hy : M.allEl ys = true) (hn : n ≤ 50000) (hm : m ≤ 50000) (c0 : 0 ≤ c) (c1 : c < 65537) (hR : w.cell? ⟨R, 0, none⟩ = some (.slice g m d)) :
    Calls Try.prog 57 #[.slice a n cc, .int .i64 c, .pointer (some ⟨R, 0, none⟩)] w fun e w' => ∃ a' l c', e = .returned (.slice a' l c') ∧ Owns 50 w' w.heap.size a' l c' (M.trim (M.padd (M.trim (0 :: L)) (M.trim (M.pscale ys c)))) ∧ Below w.heap.size w w' := by
  have HZ : Hid (Sees w a n cc L) := hz
  have HG : Hid (Sees w g m d ys) := hg
  have HA : Hid (M.allEl ys = true) := hy
  have H1 : Hid (M.allEl (M.trim (0 :: L)) = true) := M.all_trim (M.all_cons (by omega) hL)
  have H2 : Hid (M.allEl (M.trim (M.pscale ys c)) = true) := M.all_trim (M.all_pscale _ _)
  have H3 : Hid ((M.trim (0 :: L)).length ≤ 100000) := by show _ ≤ _; have := M.len_trim (0 :: L); rw [List.length_cons, hz.len] at this; omega
  have H4 : Hid ((M.trim (M.pscale ys c)).length ≤ 100000) := by show _ ≤ _; have := M.len_trim (M.pscale ys c); rw [M.pscale_len, hg.len] at this; omega
  have HRl : Hid (∀ w', Below w.heap.size w w' → w'.cell? ⟨R, 0, none⟩ = some (.slice g m d)) := fun w' hb => (hb.cell (p := ⟨R, 0, none⟩) (World.block_lt_of_cell? w _ hR)).trans hR
  have hb0 : Below w.heap.size w w.drew := (Below.refl _ _).drew
  clear hz hg hL hy
  go_enter Try.func57, Try.ntmps57
  go_wp2
  go_region_with (first
    | (go_at_call 58; refine (shifted_in 0 (by assumption) HZ.out (by omega)).mono ?_; rintro e ws ⟨sa, sl, sc, rfl, hos, hbs, hcs⟩; (try have hok2 := hok.below hcs); have hrs := HRl.out _ hbs; clear hcs)
    | (go_at_call 59; refine (scaled_in c (by assumption) HG.out HA.out (by omega) c0 c1).mono ?_; rintro e wk ⟨ka, kl, kc, rfl, hok, hbk, hck⟩; (try have hos2 := hos.below hck); have hrk := HRl.out _ hbk; clear hck)
    | (go_at_call 29; refine (plus_in (by assumption) (Owns.sees (by first | exact hos2 | exact hos)) (Owns.sees (by first | exact hok2 | exact hok)) H1.out H2.out H3.out H4.out).mono ?_; rintro e wp ⟨pa, pl, pc, rfl, hop, hbp⟩))
  all_goals
    have HOP : Hid (Owns 50 wp w.heap.size pa pl pc (M.trim (M.padd (M.trim (0 :: L)) (M.trim (M.pscale ys c))))) := hop
    have HBP : Hid (Below w.heap.size w wp) := hbp
    clear hop hbp
    go_wp2
    go_ret
    exact ⟨pa, pl, pc, rfl, HOP.out, HBP.out⟩
/-- what a product has so far: a neat list of elements with the product's coefficients -/
structure M.Prod (zs ys L : List Int) (k : Nat) : Prop where
  neat : M.neat L
  all : M.allEl L = true
  co : ∀ i, L.getD i 0 = M.pm (zs.drop k) ys i
  len : L.length ≤ zs.length + ys.length
theorem M.prod_len {zs ys L : List Int} (hn : M.neat L) (hc : ∀ i, L.getD i 0 = M.pm zs ys i) : L.length ≤ zs.length + ys.length := by
  rcases hn with e | e
  · omega
  · rcases Nat.lt_or_ge (zs.length + ys.length) L.length with h | h
    · exfalso; apply e; rw [hc]; exact M.pm_out (by omega)
    · exact h
theorem M.prod_start (zs ys : List Int) : M.Prod zs ys [] zs.length :=
  ⟨.inl rfl, rfl, fun i => by rw [List.drop_length]; rfl, by simp⟩
theorem M.prod_step {zs ys L : List Int} {k : Nat} (h : M.Prod zs ys L (k + 1)) (hk : k < zs.length) : M.Prod zs ys (M.trim (M.padd (M.trim (0 :: L)) (M.trim (M.pscale ys (zs.getD k 0))))) k := by
  have hc : ∀ i, (M.trim (M.padd (M.trim (0 :: L)) (M.trim (M.pscale ys (zs.getD k 0))))).getD i 0 = M.pm (zs.drop k) ys i := by
    intro i
    rw [List.drop_eq_getElem_cons hk, M.horner_step _ _ _ _ h.co]
    rw [List.getD_eq_getElem?_getD, List.getElem?_eq_getElem hk]; rfl
  refine ⟨M.neat_trim _, M.all_trim (M.all_padd _ _), hc, ?_⟩
  have := M.prod_len (M.neat_trim _) hc
  rw [List.length_drop] at this; omega
theorem M.prod_end {zs ys L : List Int} (h : M.Prod zs ys L 0) : L = M.pmul zs ys :=
  M.neat_ext h.neat (M.neat_pmul _ _) fun i => by rw [h.co, M.pmul_getD]; rfl
set_option maxHeartbeats 1000000 in
theorem foldTimes_any {a g b : Option Addr} {n cc m d cap : Nat} {zs ys : List Int} (R : Nat) (w0 w : World) (hz : Sees w0 a n cc zs) (hg : Sees w0 g m d ys) (ha : M.allEl zs = true) (hy : M.allEl ys = true) (hn : n ≤ 20000) (hm : m ≤ 20000) (hbl : Below w0.heap.size w0 w) (ho : Owns 50 w w0.heap.size b 0 cap []) (hR : w0.cell? ⟨R, 0, none⟩ = some (.slice g m d)) :
    Calls Try.prog 56 #[.slice a n cc, .slice b 0 cap, .func (.func 57) #[] #[.pointer (some ⟨R, 0, none⟩)]] w fun e w' => ∃ a' l c', e = .returned (.slice a' l c') ∧ Owns 50 w' w0.heap.size a' l c' (M.pmul zs ys) ∧ Below w0.heap.size w0 w' := by
  have HZ : Hid (Sees w0 a n cc zs) := hz
  have HG : Hid (Sees w0 g m d ys) := hg
  have HA : Hid (M.allEl zs = true) := ha
  have HY : Hid (M.allEl ys = true) := hy
  have HB : Hid (Below w0.heap.size w0 w) := hbl
  have HO : Hid (Owns 50 w w0.heap.size b 0 cap []) := ho
  have HRl : Hid (∀ w', Below w0.heap.size w0 w' → w'.cell? ⟨R, 0, none⟩ = some (.slice g m d)) := fun w' hb => (hb.cell (p := ⟨R, 0, none⟩) (World.block_lt_of_cell? w0 _ hR)).trans hR
  have HST : Hid (M.Prod zs ys [] n) := by show M.Prod zs ys [] n; rw [← hz.len]; exact M.prod_start zs ys
  clear hz hg ha hy hbl ho hR
  go_enter Try.func56, Try.ntmps56
  go_wp2
  go_loopw [1, 7] (fun s i wr => ∃ (k : Nat) (a' : Option Addr) (l cap' : Nat) (L : List Int), k ≤ n ∧ i = .int .i64 ((k : Int) - 1) ∧ s = .slice a' l cap' ∧ Owns 50 wr w0.heap.size a' l cap' L ∧ M.Prod zs ys L k ∧ Below w0.heap.size w0 wr) (fun _ i _ => (intOf i + 1).toNat)
  case atStart => exact ⟨n, b, 0, cap, [], Nat.le_refl _, rfl, rfl, HO.out, HST.out, HB.out⟩
  case round =>
    obtain ⟨k, a', l, cap', L, hk, rfl, rfl, ho1, hp1, hb1⟩ := hrel
    have HO1 : Hid (Owns 50 wr w0.heap.size a' l cap' L) := ho1
    have HP1 : Hid (M.Prod zs ys L k) := hp1
    have HB1 : Hid (Below w0.heap.size w0 wr) := hb1
    have hl : l ≤ 40000 := by
      have h1 := hp1.len; rw [ho1.len, HZ.out.len, HG.out.len] at h1; omega
    clear ho1 hp1 hb1 HO HB HST
    by_cases h0 : 0 < k
    · obtain ⟨b1, o1, rfl, hc1⟩ := (HZ.out.below HB1.out).at (by omega)
      have e1 := hc1 (k - 1) (by omega)
      have hel := M.el_at HA.out (k - 1)
      have hst := M.prod_step (k := k - 1) (by rw [show k - 1 + 1 = k by omega]; exact HP1.out) (by rw [HZ.out.len]; omega)
      clear hc1
      generalize hx : zs.getD (k - 1) 0 = x at e1 hel hst
      have HS : Hid (M.Prod zs ys (M.trim (M.padd (M.trim (0 :: L)) (M.trim (M.pscale ys x)))) (k - 1)) := hst
      obtain ⟨x0, x1⟩ := hel
      have hI1 : (0 : Int) ≤ (k : Int) - 1 := by omega
      have hI2 : (k : Int) - 1 < (n : Int) := by omega
      clear hx hst
      go_wp2_with fail
      refine (times1_any x R _ HO1.out.sees (HG.out.below HB1.out) HP1.out.all HY.out (by omega) (by omega) x0 x1 (HRl.out _ HB1.out)).mono ?_
      rintro e w1 ⟨a2, l2, c2, rfl, ho2, hb2⟩
      have HO2 : Hid (Owns 50 w1 w0.heap.size a2 l2 c2 (M.trim (M.padd (M.trim (0 :: L)) (M.trim (M.pscale ys x))))) := ho2.mono HB1.out.size
      have HB2 : Hid (Below w0.heap.size w0 w1) := HB1.out.trans (hb2.mono HB1.out.size)
      clear ho2 hb2
      go_wp2
      go_roundw
      case rel => exact ⟨k - 1, a2, l2, c2, _, by omega, by go_num, rfl, HO2.out, HS.out, HB2.out⟩
      case measure => simp [intOf]; omega
    · have hk0 : k = 0 := by omega
      subst hk0
      go_wp2
      go_ret
      exact ⟨a', l, cap', rfl, by rw [← M.prod_end HP1.out]; exact HO1.out, HB1.out⟩
set_option maxHeartbeats 1000000 in
theorem polyTimes_any {a g : Option Addr} {n cc m d : Nat} {zs ys : List Int} (w : World) (hz : Sees w a n cc zs) (hg : Sees w g m d ys) (ha : M.allEl zs = true) (hy : M.allEl ys = true) (hn : n ≤ 20000) (hm : m ≤ 20000) :
    Calls Try.prog 31 #[.slice a n cc, .slice g m d] w fun e w' => ∃ a' l c', e = .returned (.slice a' l c') ∧ Owns 50 w' w.heap.size a' l c' (M.pmul zs ys) ∧ Below w.heap.size w w' := by
  have HZ : Hid (Sees w a n cc zs) := hz
  have HG : Hid (Sees w g m d ys) := hg
  have HA : Hid (M.allEl zs = true) := ha
  have HY : Hid (M.allEl ys = true) := hy
  have HBa : Hid (Below w.heap.size w (w.alloc (.cells #[Value.slice g m d] 37))) := (Below.refl _ _).alloc (Nat.le_refl _) _
  have HBb : Hid (Below (w.alloc (.cells #[Value.slice g m d] 37)).heap.size (w.alloc (.cells #[Value.slice g m d] 37)) ((w.alloc (.cells #[Value.slice g m d] 37)).alloc (.cells #[] 50))) := (Below.refl _ _).alloc (Nat.le_refl _) _
  have HC : Hid ((w.alloc (.cells #[Value.slice g m d] 37)).cell? ⟨w.heap.size, 0, none⟩ = some (.slice g m d)) := by show _ = _; rw [World.cell?_alloc_new]; rfl
  have HO : Hid (Owns 50 ((w.alloc (.cells #[Value.slice g m d] 37)).alloc (.cells #[] 50)) (w.alloc (.cells #[Value.slice g m d] 37)).heap.size (some ⟨w.heap.size + 1, 0, none⟩) 0 0 []) := by
    have h := World.ownsRow_made (e := 50) (size := 1) (base := (w.alloc (.cells #[Value.slice g m d] 37)).heap.size) (w.alloc (.cells #[Value.slice g m d] 37)) #[] 0 (Nat.le_refl _) (by unfold maxLen; omega) rfl
    have e : (w.alloc (.cells #[Value.slice g m d] 37)).heap.size = w.heap.size + 1 := by simp
    show Owns _ _ _ _ _ _ _
    unfold Owns
    rw [e] at h ⊢
    exact h
  clear hz hg ha hy
  go_enter Try.func31, Try.ntmps31
  go_wp2_with fail
  refine (foldTimes_any w.heap.size _ _ (HZ.out.below HBa.out) (HG.out.below HBa.out) HA.out HY.out hn hm HBb.out HO.out HC.out).mono ?_
  rintro e w2 ⟨a2, l2, c2, rfl, ho2, hb2⟩
  have HO2 : Hid (Owns 50 w2 w.heap.size a2 l2 c2 (M.pmul zs ys)) := ho2.mono (by simp)
  have HB2 : Hid (Below w.heap.size w w2) := HBa.out.trans (hb2.mono HBa.out.size)
  clear ho2 hb2 HO HBa HBb HC
  go_wp2
  go_ret
  exact ⟨a2, l2, c2, rfl, HO2.out, HB2.out⟩
end Go.Proofs.Ytjeoenieoejolag
