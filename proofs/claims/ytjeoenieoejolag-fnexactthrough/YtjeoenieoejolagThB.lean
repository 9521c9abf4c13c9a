/- The polynomial through points, in the program: one point more. -/
import Derived.Test.YtjeoenieoejolagThA
import Derived.Deep.RegionHeld3
namespace Go.Proofs.Ytjeoenieoejolag
open Go.RowKit

theorem plus_at {a b : Option Addr} {n m c d : Nat} {zs ys : List Int} {w wc : World} (hb : Below w.heap.size w wc) (hz : Sees wc a n c zs) (hy : Sees wc b m d ys) (h1 : M.allEl zs = true) (h2 : M.allEl ys = true) (hn : zs.length ≤ 100000) (hm : ys.length ≤ 100000) :
    Calls Try.prog 29 #[.slice a n c, .slice b m d] wc fun e w' => ∃ a' l c', e = .returned (.slice a' l c') ∧ Owns 50 w' w.heap.size a' l c' (M.trim (M.padd zs ys)) ∧ Below w.heap.size w w' ∧ Below wc.heap.size wc w' :=
  (polyPlus_any wc hz hy h1 h2 (by rw [← hz.len]; exact hn) (by rw [← hy.len]; exact hm)).mono fun _ _ ⟨a', l, c', he, ho, hbl⟩ => ⟨a', l, c', he, ho.mono hb.size, hb.trans (hbl.mono hb.size), hbl⟩
theorem minus_at {a b : Option Addr} {n m c d : Nat} {zs ys : List Int} {w wc : World} (hb : Below w.heap.size w wc) (hz : Sees wc a n c zs) (hy : Sees wc b m d ys) (h1 : M.allEl zs = true) (h2 : M.allEl ys = true) (hn : zs.length ≤ 100000) (hm : ys.length ≤ 100000) :
    Calls Try.prog 64 #[.slice a n c, .slice b m d] wc fun e w' => ∃ a' l c', e = .returned (.slice a' l c') ∧ Owns 50 w' w.heap.size a' l c' (M.trim (M.padd zs (M.trim (M.pscale ys 65536)))) ∧ Below w.heap.size w w' ∧ Below wc.heap.size wc w' :=
  (polyMinus_any wc hz hy h1 h2 (by rw [← hz.len]; exact hn) (by rw [← hy.len]; exact hm)).mono fun _ _ ⟨a', l, c', he, ho, hbl⟩ => ⟨a', l, c', he, ho.mono hb.size, hb.trans (hbl.mono hb.size), hbl⟩
theorem chain3' (w : World) (A B C : Array Value) (t1 t2 t3 : TypeId) (i : Nat) :
    (((w.alloc (.cells A t1)).alloc (.cells B t2)).alloc (.cells C t3)).cell? ⟨w.heap.size, i, none⟩ = A[i]? ∧ (((w.alloc (.cells A t1)).alloc (.cells B t2)).alloc (.cells C t3)).cell? ⟨w.heap.size + 1, i, none⟩ = B[i]? ∧ (((w.alloc (.cells A t1)).alloc (.cells B t2)).alloc (.cells C t3)).cell? ⟨w.heap.size + 1 + 1, i, none⟩ = C[i]? ∧ (((w.alloc (.cells A t1)).alloc (.cells B t2)).alloc (.cells C t3)).frozen? ⟨w.heap.size + 1 + 1, i, none⟩ = false := by
  have s1 : (w.alloc (.cells A t1)).heap.size = w.heap.size + 1 := by simp
  have s2 : ((w.alloc (.cells A t1)).alloc (.cells B t2)).heap.size = w.heap.size + 1 + 1 := by simp
  refine ⟨?_, ?_, ?_, ?_⟩
  · refine (World.cell?_alloc_lt (w := (w.alloc (.cells A t1)).alloc (.cells B t2)) (o := .cells C t3) (a := ⟨w.heap.size, i, none⟩) (h := by rw [s2]; simp; omega)).trans ((World.cell?_alloc_lt (w := w.alloc (.cells A t1)) (o := .cells B t2) (a := ⟨w.heap.size, i, none⟩) (h := by rw [s1]; simp)).trans ?_)
    rw [World.cell?_alloc_new]
  · refine (World.cell?_alloc_lt (w := (w.alloc (.cells A t1)).alloc (.cells B t2)) (o := .cells C t3) (a := ⟨w.heap.size + 1, i, none⟩) (h := by rw [s2]; simp)).trans ?_
    rw [← s1, World.cell?_alloc_new]
  · rw [← s2, World.cell?_alloc_new]
  · rw [frozen?_alloc_cells, frozen?_alloc_cells, frozen?_alloc_cells]; simp only [World.frozen?]; rw [Array.getElem?_eq_none (by omega)]
theorem far_set (W : World) (B : Nat) (p : Addr) (u v : Value) (hp : p.block ≠ B) : ((W.setCell ⟨B, 0, none⟩ u).setCell ⟨B, 1, none⟩ v).cell? p = W.cell? p := by
  refine (World.cell?_setCell_other (w := W.setCell ⟨B, 0, none⟩ u) (a := ⟨B, 1, none⟩) (b := p) (v := v) (h := ?_)).trans (World.cell?_setCell_other (w := W) (a := ⟨B, 0, none⟩) (b := p) (v := u) (h := ?_))
  · intro e; exact hp (by rw [← e])
  · intro e; exact hp (by rw [← e])
set_option maxHeartbeats 40000000 in
theorem passWith_any {ta za : Option Addr} {tn tc zn zc : Nat} {T Z : List Int} (x y : Int) (w : World) (ht : Sees w ta tn tc T) (hz : Sees w za zn zc Z) (aT : M.allEl T = true) (aZ : M.allEl Z = true) (hn : tn ≤ 1000) (hm : zn ≤ 1000) (x0 : 0 ≤ x) (x1 : x < 65537) (y0 : 0 ≤ y) (y1 : y < 65537) :
    Calls Try.prog 42 #[.agg #[.slice ta tn tc, .slice za zn zc], .agg #[.int .i64 x, .int .i64 y]] w fun e w' => ∃ a1 l1 c1 a2 l2 c2, e = .returned (.agg #[.slice a1 l1 c1, .slice a2 l2 c2]) ∧ Owns 50 w' w.heap.size a1 l1 c1 (M.nthr T Z x y) ∧ Owns 50 w' w.heap.size a2 l2 c2 (M.nzer Z x) ∧ Below w.heap.size w w' := by
  have HT : Hid (Sees w ta tn tc T) := ht
  have HZ : Hid (Sees w za zn zc Z) := hz
  have HAT : Hid (M.allEl T = true) := aT
  have HAZ : Hid (M.allEl Z = true) := aZ
  have HLT : Hid (T.length ≤ 1000) := by show _ ≤ _; rw [ht.len]; exact hn
  have HLZ : Hid (Z.length ≤ 1000) := by show _ ≤ _; rw [hz.len]; exact hm
  obtain ⟨et0, et1⟩ := M.ev_bd T x
  obtain ⟨ez0, ez1⟩ := M.ev_bd Z x
  have HFAC : Hid (∀ u, (y + 65537 - M.ev T x) % 65537 * M.pw (M.ev Z x) 65535 % 65537 = u → M.nthr T Z x y = M.trim (M.padd T (M.trim (M.pscale Z u))) ∧ 0 ≤ u ∧ u < 65537) := fun u hu => by
    refine ⟨by rw [← hu]; rfl, by omega, by omega⟩
  have HNZ : Hid (M.nzer Z x = M.trim (M.padd (M.trim (0 :: Z)) (M.trim (M.pscale (M.trim (M.pscale Z x)) 65536)))) := rfl
  clear ht hz aT aZ
  have HBa : Hid (Below w.heap.size w (((w.alloc (.cells #[Value.slice ta tn tc, Value.slice za zn zc] 52)).alloc (.cells #[Value.int .i64 x, Value.int .i64 y] 55)).alloc (.cells #[Value.slice none 0 0, Value.slice none 0 0] 52))) := (((Below.refl _ _).alloc (Nat.le_refl _) _).alloc (by simp) _).alloc (by simp; omega) _
  have HSz : Hid ((((w.alloc (.cells #[Value.slice ta tn tc, Value.slice za zn zc] 52)).alloc (.cells #[Value.int .i64 x, Value.int .i64 y] 55)).alloc (.cells #[Value.slice none 0 0, Value.slice none 0 0] 52)).heap.size = w.heap.size + 3) := by show _ = _; simp
  have HK : Hid (∀ W, Below (w.heap.size + 3) (((w.alloc (.cells #[Value.slice ta tn tc, Value.slice za zn zc] 52)).alloc (.cells #[Value.int .i64 x, Value.int .i64 y] 55)).alloc (.cells #[Value.slice none 0 0, Value.slice none 0 0] 52)) W → (W.cell? ⟨w.heap.size, 0, none⟩ = some (.slice ta tn tc) ∧ W.cell? ⟨w.heap.size, 1, none⟩ = some (.slice za zn zc) ∧ W.cell? ⟨w.heap.size + 1, 0, none⟩ = some (.int .i64 x) ∧ W.cell? ⟨w.heap.size + 1, 1, none⟩ = some (.int .i64 y)) ∧ (W.cell? ⟨w.heap.size + 1 + 1, 0, none⟩ = some (.slice none 0 0) ∧ W.cell? ⟨w.heap.size + 1 + 1, 1, none⟩ = some (.slice none 0 0) ∧ W.frozen? ⟨w.heap.size + 1 + 1, 0, none⟩ = false ∧ W.frozen? ⟨w.heap.size + 1 + 1, 1, none⟩ = false)) := by
    intro W hW
    refine ⟨⟨(hW.cell (p := ⟨w.heap.size, 0, none⟩) (show w.heap.size < _ by omega)).trans (chain3' w _ _ _ _ _ _ 0).1, (hW.cell (p := ⟨w.heap.size, 1, none⟩) (show w.heap.size < _ by omega)).trans (chain3' w _ _ _ _ _ _ 1).1, (hW.cell (p := ⟨w.heap.size + 1, 0, none⟩) (show w.heap.size + 1 < _ by omega)).trans (chain3' w _ _ _ _ _ _ 0).2.1, (hW.cell (p := ⟨w.heap.size + 1, 1, none⟩) (show w.heap.size + 1 < _ by omega)).trans (chain3' w _ _ _ _ _ _ 1).2.1⟩, (hW.cell (p := ⟨w.heap.size + 1 + 1, 0, none⟩) (show w.heap.size + 1 + 1 < _ by omega)).trans (chain3' w _ _ _ _ _ _ 0).2.2.1, (hW.cell (p := ⟨w.heap.size + 1 + 1, 1, none⟩) (show w.heap.size + 1 + 1 < _ by omega)).trans (chain3' w _ _ _ _ _ _ 1).2.2.1, (hW.frozen (p := ⟨w.heap.size + 1 + 1, 0, none⟩) (show w.heap.size + 1 + 1 < _ by omega)).trans (chain3' w _ _ _ _ _ _ 0).2.2.2, (hW.frozen (p := ⟨w.heap.size + 1 + 1, 1, none⟩) (show w.heap.size + 1 + 1 < _ by omega)).trans (chain3' w _ _ _ _ _ _ 1).2.2.2⟩
  generalize hwa : (((w.alloc (.cells #[Value.slice ta tn tc, Value.slice za zn zc] 52)).alloc (.cells #[Value.int .i64 x, Value.int .i64 y] 55)).alloc (.cells #[Value.slice none 0 0, Value.slice none 0 0] 52)) = wa at HBa HSz HK
  have HWA : Hid ((((w.alloc (.cells #[Value.slice ta tn tc, Value.slice za zn zc] 52)).alloc (.cells #[Value.int .i64 x, Value.int .i64 y] 55)).alloc (.cells #[Value.slice none 0 0, Value.slice none 0 0] 52)) = wa) := hwa
  clear hwa
  have hb0 : Below (w.heap.size + 3) wa wa.drew := by rw [← HSz.out]; exact (Below.refl _ _).drew
  have HSA : Hid (Below w.heap.size w wa.drew) := HBa.out.drew
  go_enter Try.func42, Try.ntmps42
  go_wp2
  rw [HWA.out]
  go_region_held3 (fun W => W.cell? ⟨w.heap.size, 0, none⟩ = some (.slice ta tn tc) ∧ W.cell? ⟨w.heap.size, 1, none⟩ = some (.slice za zn zc) ∧ W.cell? ⟨w.heap.size + 1, 0, none⟩ = some (.int .i64 x) ∧ W.cell? ⟨w.heap.size + 1, 1, none⟩ = some (.int .i64 y)) (first | exact (HK.out _ hb0).1 | exact (HK.out _ hbb).1)
    (first
      | (go_at_call 71; refine (polyAt_any x _ (HT.out.below HSA.out) HAT.out x0 x1).mono ?_; rintro e w1 ⟨rfl, hb1⟩; have hbb : Below (w.heap.size + 3) wa w1 := hb0.trans (hb1.mono (by have := HSz.out; show _ ≤ wa.heap.size; omega)))
      | (go_at_call 70; refine (minus_any y (M.ev T x) _ y0 y1 et0 et1).mono ?_; rintro e w1 ⟨rfl, rfl⟩))
  have HB1 : Hid (Below w.heap.size w w1) := HBa.out.trans (hbb.mono (by omega))
  have HK1 : Hid (Below (w.heap.size + 3) wa w1) := hbb
  obtain ⟨⟨k0, k1, k2, k3⟩, _⟩ := HK.out _ hbb
  have u0 : 0 ≤ (y + 65537 - M.ev T x) % 65537 := by omega
  have u1 : (y + 65537 - M.ev T x) % 65537 < 65537 := by omega
  generalize hlk : (y + 65537 - M.ev T x) % 65537 = lk at u0 u1 HFAC
  have HLK : Hid ((y + 65537 - M.ev T x) % 65537 = lk) := hlk
  clear hlk hbb hb1 hb0
  go_wp2_with fail
  refine (polyAt_any x _ (HZ.out.below HB1.out) HAZ.out x0 x1).mono ?_
  rintro e w2 ⟨rfl, hb2⟩
  have HB2 : Hid (Below w.heap.size w w2) := HB1.out.trans (hb2.mono HB1.out.size)
  have HK2 : Hid (Below (w.heap.size + 3) wa w2) := HK1.out.trans (hb2.mono (by have := HSz.out; have := HK1.out.size; omega))
  clear hb2 k0 k1 k2 k3
  go_wp2_with fail
  refine (inverse_any (M.ev Z x) _ ez0 ez1).mono ?_
  rintro e w2 ⟨rfl, rfl⟩
  obtain ⟨p0, p1⟩ := M.pw_bd (M.ev Z x) 65535
  go_wp2_with fail
  refine (times_any lk (M.pw (M.ev Z x) 65535) _ u0 u1 p0 p1).mono ?_
  rintro e w2 ⟨rfl, rfl⟩
  obtain ⟨hE, f0, f1⟩ := HFAC.out _ rfl
  generalize hfac : lk * M.pw (M.ev Z x) 65535 % 65537 = fac at hE f0 f1
  have HFC : Hid (lk * M.pw (M.ev Z x) 65535 % 65537 = fac) := hfac
  have HE : Hid (M.nthr T Z x y = M.trim (M.padd T (M.trim (M.pscale Z fac)))) := hE
  clear hfac hE
  have hb0 : Below w2.heap.size w2 w2.drew := (Below.refl _ _).drew
  have HT2 : Hid (Sees w2 ta tn tc T) := HT.out.below HB2.out
  have HZ2 : Hid (Sees w2 za zn zc Z) := HZ.out.below HB2.out
  have HKK : Hid (∀ W, Below w2.heap.size w2 W → Below (w.heap.size + 3) wa W) := fun W hW => HK2.out.trans (hW.mono (by have := HSz.out; have := HK2.out.size; omega))
  have HST : Hid (∀ (W : World) (u v : Value), (W.cell? ⟨w.heap.size, 0, none⟩ = some (.slice ta tn tc) ∧ W.cell? ⟨w.heap.size, 1, none⟩ = some (.slice za zn zc) ∧ W.cell? ⟨w.heap.size + 1, 0, none⟩ = some (.int .i64 x) ∧ W.cell? ⟨w.heap.size + 1, 1, none⟩ = some (.int .i64 y)) → ((W.setCell ⟨w.heap.size + 1 + 1, 0, none⟩ u).setCell ⟨w.heap.size + 1 + 1, 1, none⟩ v).cell? ⟨w.heap.size, 0, none⟩ = some (.slice ta tn tc) ∧ ((W.setCell ⟨w.heap.size + 1 + 1, 0, none⟩ u).setCell ⟨w.heap.size + 1 + 1, 1, none⟩ v).cell? ⟨w.heap.size, 1, none⟩ = some (.slice za zn zc) ∧ ((W.setCell ⟨w.heap.size + 1 + 1, 0, none⟩ u).setCell ⟨w.heap.size + 1 + 1, 1, none⟩ v).cell? ⟨w.heap.size + 1, 0, none⟩ = some (.int .i64 x) ∧ ((W.setCell ⟨w.heap.size + 1 + 1, 0, none⟩ u).setCell ⟨w.heap.size + 1 + 1, 1, none⟩ v).cell? ⟨w.heap.size + 1, 1, none⟩ = some (.int .i64 y)) := fun W u v ⟨h0, h1, h2, h3⟩ =>
    ⟨(far_set W _ _ u v (show w.heap.size ≠ w.heap.size + 1 + 1 by omega)).trans h0, (far_set W _ _ u v (show w.heap.size ≠ w.heap.size + 1 + 1 by omega)).trans h1, (far_set W _ _ u v (show w.heap.size + 1 ≠ w.heap.size + 1 + 1 by omega)).trans h2, (far_set W _ _ u v (show w.heap.size + 1 ≠ w.heap.size + 1 + 1 by omega)).trans h3⟩
  have HP1 : Hid (M.allEl (M.trim (M.pscale Z fac)) = true) := M.all_trim (M.all_pscale _ _)
  have HP2 : Hid ((M.trim (M.pscale Z fac)).length ≤ 100000) := by show _ ≤ _; have := M.len_trim (M.pscale Z fac); rw [M.pscale_len] at this; have := HLZ.out; omega
  have HP3 : Hid (M.allEl (M.trim (0 :: Z)) = true) := M.all_trim (M.all_cons (by omega) HAZ.out)
  have HP4 : Hid ((M.trim (0 :: Z)).length ≤ 100000) := by show _ ≤ _; have := M.len_trim (0 :: Z); rw [List.length_cons] at this; have := HLZ.out; omega
  have HP5 : Hid (M.allEl (M.trim (M.pscale Z x)) = true) := M.all_trim (M.all_pscale _ _)
  have HP6 : Hid ((M.trim (M.pscale Z x)).length ≤ 100000) := by show _ ≤ _; have := M.len_trim (M.pscale Z x); rw [M.pscale_len] at this; have := HLZ.out; omega
  have HP7 : Hid (T.length ≤ 100000) := by show _ ≤ _; have := HLT.out; omega
  go_wp2
  go_region_held3 (fun W => W.cell? ⟨w.heap.size, 0, none⟩ = some (.slice ta tn tc) ∧ W.cell? ⟨w.heap.size, 1, none⟩ = some (.slice za zn zc) ∧ W.cell? ⟨w.heap.size + 1, 0, none⟩ = some (.int .i64 x) ∧ W.cell? ⟨w.heap.size + 1, 1, none⟩ = some (.int .i64 y)) (first | exact (HK.out _ (HKK.out _ hbb)).1 | exact (HK.out _ (HKK.out _ hb0)).1 | exact HST.out _ _ _ (by assumption))
    (first
      | (go_at_call_of 59 (Value.int .i64 fac); refine (scaled_in fac (by assumption) HZ2.out HAZ.out (by omega) f0 f1).mono ?_; rintro e wk ⟨ka, kl, kc, rfl, hok, hbb, hcc⟩; (try replace hos := Owns.below hos hcc); (try replace hox := Owns.below hox hcc); (try replace hom := Owns.below hom hcc); obtain ⟨-, t0, t1, t2, t3⟩ := HK.out _ (HKK.out _ hbb))
      | (go_at_call_of 59 (Value.int .i64 x); refine (scaled_in x (by assumption) HZ2.out HAZ.out (by omega) x0 x1).mono ?_; rintro e wx ⟨xa, xl, xc, rfl, hox, hbb, hcc⟩; (try replace hok := Owns.below hok hcc); (try replace hop := Owns.below hop hcc); (try replace hos := Owns.below hos hcc); obtain ⟨-, t0, t1, t2, t3⟩ := HK.out _ (HKK.out _ hbb))
      | (go_at_call 58; refine (shifted_in 0 (by assumption) HZ2.out (by omega)).mono ?_; rintro e ws ⟨sa, sl, sc, rfl, hos, hbb, hcc⟩; (try replace hok := Owns.below hok hcc); (try replace hop := Owns.below hop hcc); (try replace hox := Owns.below hox hcc); obtain ⟨-, t0, t1, t2, t3⟩ := HK.out _ (HKK.out _ hbb))
      | (go_at_call 29; refine (plus_at (w := w2) (by assumption) (Sees.below HT2.out (by assumption)) hok.sees HAT.out HP1.out HP7.out HP2.out).mono ?_; rintro e wp ⟨pa, pl, pc, rfl, hop, hbb, hcc⟩; (try replace hos := Owns.below hos hcc); (try replace hox := Owns.below hox hcc); (try replace hom := Owns.below hom hcc); obtain ⟨-, t0, t1, t2, t3⟩ := HK.out _ (HKK.out _ hbb))
      | (go_at_call 64; refine (minus_at (w := w2) (by assumption) hos.sees hox.sees HP3.out HP5.out HP4.out HP6.out).mono ?_; rintro e wm ⟨ma, ml, mc, rfl, hom, hbb, hcc⟩; (try replace hok := Owns.below hok hcc); (try replace hop := Owns.below hop hcc); obtain ⟨-, t0, t1, t2, t3⟩ := HK.out _ (HKK.out _ hbb)))
  all_goals
    have HOP : Hid (Owns 50 _ w2.heap.size pa pl pc (M.trim (M.padd T (M.trim (M.pscale Z fac))))) := hop
    have HOM : Hid (Owns 50 _ w2.heap.size ma ml mc (M.trim (M.padd (M.trim (0 :: Z)) (M.trim (M.pscale (M.trim (M.pscale Z x)) 65536))))) := hom
    have HBB : Hid (Below w2.heap.size w2 _) := hbb
    clear hop hom hcc hok hos hox
    go_wp2
    refine bodyPost_ret (v := .agg #[.slice pa pl pc, .slice ma ml mc]) (by simp [results, Try.results42, go_sem, t0, t1]) rfl ⟨pa, pl, pc, ma, ml, mc, rfl, ?_, ?_, ?_⟩
    · have h := HOP.out.lo
      have h2 := HK2.out.size
      have h3 := HSz.out
      rw [HE.out]
      exact ((HOP.out.other ⟨w.heap.size + 1 + 1, 0, none⟩ (fun x hx => by have := h x hx; simp; omega) _).other ⟨w.heap.size + 1 + 1, 1, none⟩ (fun x hx => by have := h x hx; simp; omega) _).mono HB2.out.size
    · have h := HOM.out.lo
      have h2 := HK2.out.size
      have h3 := HSz.out
      rw [HNZ.out]
      exact ((HOM.out.other ⟨w.heap.size + 1 + 1, 0, none⟩ (fun x hx => by have := h x hx; simp; omega) _).other ⟨w.heap.size + 1 + 1, 1, none⟩ (fun x hx => by have := h x hx; simp; omega) _).mono HB2.out.size
    · exact ((HB2.out.trans (HBB.out.mono HB2.out.size)).setCell (by show w.heap.size ≤ w.heap.size + 1 + 1; omega) _).setCell (by show w.heap.size ≤ w.heap.size + 1 + 1; omega) _
end Go.Proofs.Ytjeoenieoejolag
