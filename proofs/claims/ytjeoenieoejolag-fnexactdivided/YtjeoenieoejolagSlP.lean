/- What Divided answers in the program. -/
import Derived.Test.YtjeoenieoejolagSlO
namespace Go.Proofs.Ytjeoenieoejolag
open Go.RowKit

theorem chain3 (w : World) (A B C : Array Value) (t1 t2 t3 : TypeId) (i : Nat) :
    (((w.alloc (.cells A t1)).alloc (.cells B t2)).alloc (.cells C t3)).cell? ⟨w.heap.size, i, none⟩ = A[i]? ∧ (((w.alloc (.cells A t1)).alloc (.cells B t2)).alloc (.cells C t3)).cell? ⟨w.heap.size + 1, i, none⟩ = B[i]? ∧ (((w.alloc (.cells A t1)).alloc (.cells B t2)).alloc (.cells C t3)).cell? ⟨w.heap.size + 1 + 1, i, none⟩ = C[i]? ∧ (((w.alloc (.cells A t1)).alloc (.cells B t2)).alloc (.cells C t3)).frozen? ⟨w.heap.size + 1, i, none⟩ = false := by
  have s1 : (w.alloc (.cells A t1)).heap.size = w.heap.size + 1 := by simp
  have s2 : ((w.alloc (.cells A t1)).alloc (.cells B t2)).heap.size = w.heap.size + 1 + 1 := by simp
  refine ⟨?_, ?_, ?_, ?_⟩
  · refine (World.cell?_alloc_lt (w := (w.alloc (.cells A t1)).alloc (.cells B t2)) (o := .cells C t3) (a := ⟨w.heap.size, i, none⟩) (h := by rw [s2]; simp; omega)).trans ((World.cell?_alloc_lt (w := w.alloc (.cells A t1)) (o := .cells B t2) (a := ⟨w.heap.size, i, none⟩) (h := by rw [s1]; simp)).trans ?_)
    rw [World.cell?_alloc_new]
  · refine (World.cell?_alloc_lt (w := (w.alloc (.cells A t1)).alloc (.cells B t2)) (o := .cells C t3) (a := ⟨w.heap.size + 1, i, none⟩) (h := by rw [s2]; simp)).trans ?_
    rw [← s1, World.cell?_alloc_new]
  · rw [← s2, World.cell?_alloc_new]
  · rw [frozen?_alloc_cells, frozen?_alloc_cells, frozen?_alloc_cells]; simp [World.frozen?]
set_option maxHeartbeats 4000000 in
theorem dividedBy_any {a g : Option Addr} {n cc m d : Nat} {zs ys : List Int} (w : World) (hz : Sees w a n cc zs) (hg : Sees w g m d ys) (az : M.allEl zs = true) (ay : M.allEl ys = true) (ny : M.neat ys) (hn : n ≤ 128) (hm : m ≤ 128) (hm0 : 0 < m) :
    Calls Try.prog 33 #[.slice a n cc, .slice g m d] w fun e w' => ∃ a1 l1 c1 a2 l2 c2 Q R, e = .returned (.agg #[.slice a1 l1 c1, .slice a2 l2 c2]) ∧ Owns 50 w' w.heap.size a1 l1 c1 Q ∧ Owns 50 w' w.heap.size a2 l2 c2 R ∧ M.Div zs ys Q R ∧ Below w.heap.size w w' := by
  obtain ⟨b2, o2, rfl, hc2⟩ := hg.at hm0
  have l2 : b2 < w.heap.size := World.block_lt_of_cell? w _ (hc2 0 hm0)
  have cl : w.cell? ⟨b2, o2 + (m - 1), none⟩ = some (.int .i64 (ys.getD (m - 1) 0)) := hc2 (m - 1) (by omega)
  have x01 := M.el_at ay (m - 1)
  have gl : ys.getD (m - 1) 0 ≠ 0 := by
    rcases ny with e | e
    · rw [hg.len] at e; omega
    · rw [hg.len] at e; exact e
  have HINV : Hid (M.pw (ys.getD (m - 1) 0) 65535 = M.inv (ys.getD (ys.length - 1) 0)) := by
    show _ = _
    rw [hg.len, M.inv_in ((M.el_iff _).2 x01) gl]
  have HZ : Hid (Sees w a n cc zs) := hz
  have HG : Hid (Sees w (some ⟨b2, o2, none⟩) m d ys) := hg
  have HAZ : Hid (M.allEl zs = true) := az
  have HAY : Hid (M.allEl ys = true) := ay
  have HNY : Hid (M.neat ys) := ny
  generalize ys.getD (m - 1) 0 = x at cl x01 HINV
  obtain ⟨x0, x1⟩ := x01
  have hm1 : 1 ≤ m := by omega
  have hmI : (0 : Int) ≤ (m : Int) - 1 := by omega
  have hmI2 : (m : Int) - 1 < (m : Int) := by omega
  clear hz hg az ay ny hc2 gl
  have HBa : Hid (Below w.heap.size w (((w.alloc (.cells #[Value.slice (some ⟨b2, o2, none⟩) m d] 37)).alloc (.cells #[Value.slice none 0 0, Value.slice none 0 0] 45)).alloc (.cells #[Value.int .i64 (M.pw x 65535)] 50))) := (((Below.refl _ _).alloc (Nat.le_refl _) _).alloc (by simp) _).alloc (by simp; omega) _
  have HC1 : Hid ((((w.alloc (.cells #[Value.slice (some ⟨b2, o2, none⟩) m d] 37)).alloc (.cells #[Value.slice none 0 0, Value.slice none 0 0] 45)).alloc (.cells #[Value.int .i64 (M.pw x 65535)] 50)).cell? ⟨w.heap.size, 0, none⟩ = some (.slice (some ⟨b2, o2, none⟩) m d)) := (chain3 w _ _ _ _ _ _ 0).1
  have HC2 : Hid ((((w.alloc (.cells #[Value.slice (some ⟨b2, o2, none⟩) m d] 37)).alloc (.cells #[Value.slice none 0 0, Value.slice none 0 0] 45)).alloc (.cells #[Value.int .i64 (M.pw x 65535)] 50)).cell? ⟨w.heap.size + 1 + 1, 0, none⟩ = some (.int .i64 (M.pw x 65535))) := (chain3 w _ _ _ _ _ _ 0).2.2.1
  have HC3 : Hid ((((w.alloc (.cells #[Value.slice (some ⟨b2, o2, none⟩) m d] 37)).alloc (.cells #[Value.slice none 0 0, Value.slice none 0 0] 45)).alloc (.cells #[Value.int .i64 (M.pw x 65535)] 50)).cell? ⟨w.heap.size + 1, 0, none⟩ = some (.slice none 0 0) ∧ (((w.alloc (.cells #[Value.slice (some ⟨b2, o2, none⟩) m d] 37)).alloc (.cells #[Value.slice none 0 0, Value.slice none 0 0] 45)).alloc (.cells #[Value.int .i64 (M.pw x 65535)] 50)).cell? ⟨w.heap.size + 1, 1, none⟩ = some (.slice none 0 0) ∧ (((w.alloc (.cells #[Value.slice (some ⟨b2, o2, none⟩) m d] 37)).alloc (.cells #[Value.slice none 0 0, Value.slice none 0 0] 45)).alloc (.cells #[Value.int .i64 (M.pw x 65535)] 50)).frozen? ⟨w.heap.size + 1, 0, none⟩ = false ∧ (((w.alloc (.cells #[Value.slice (some ⟨b2, o2, none⟩) m d] 37)).alloc (.cells #[Value.slice none 0 0, Value.slice none 0 0] 45)).alloc (.cells #[Value.int .i64 (M.pw x 65535)] 50)).frozen? ⟨w.heap.size + 1, 1, none⟩ = false) := ⟨(chain3 w _ _ _ _ _ _ 0).2.1, (chain3 w _ _ _ _ _ _ 1).2.1, (chain3 w _ _ _ _ _ _ 0).2.2.2, (chain3 w _ _ _ _ _ _ 1).2.2.2⟩
  have HSz : Hid ((((w.alloc (.cells #[Value.slice (some ⟨b2, o2, none⟩) m d] 37)).alloc (.cells #[Value.slice none 0 0, Value.slice none 0 0] 45)).alloc (.cells #[Value.int .i64 (M.pw x 65535)] 50)).heap.size = w.heap.size + 3) := by show _ = _; simp
  generalize hwa : (((w.alloc (.cells #[Value.slice (some ⟨b2, o2, none⟩) m d] 37)).alloc (.cells #[Value.slice none 0 0, Value.slice none 0 0] 45)).alloc (.cells #[Value.int .i64 (M.pw x 65535)] 50)) = wa at HBa HC1 HC2 HC3 HSz
  have HWA : Hid ((((w.alloc (.cells #[Value.slice (some ⟨b2, o2, none⟩) m d] 37)).alloc (.cells #[Value.slice none 0 0, Value.slice none 0 0] 45)).alloc (.cells #[Value.int .i64 (M.pw x 65535)] 50)) = wa) := hwa
  clear hwa
  go_enter Try.func33, Try.ntmps33
  go_wp2_with fail
  refine (inverse_any x _ x0 x1).mono ?_
  rintro e w1 ⟨rfl, rfl⟩
  go_wp2_with fail
  rw [HWA.out]
  refine (foldDiv_any (M.pw x 65535) w.heap.size (w.heap.size + 1 + 1) _ (HZ.out.below HBa.out) (HG.out.below HBa.out) HAZ.out HAY.out HNY.out hn hm hm0 HINV.out HC1.out HC2.out).mono ?_
  rintro e w2 ⟨a1, l1, c1, a2, l2, c2, Q, R, rfl, ho1, ho2, hd, hb2⟩
  have HO1 : Hid (Owns 50 w2 (w.heap.size + 3) a1 l1 c1 Q) := by show Owns _ _ _ _ _ _ _; rw [← HSz.out]; exact ho1
  have HO2 : Hid (Owns 50 w2 (w.heap.size + 3) a2 l2 c2 R) := by show Owns _ _ _ _ _ _ _; rw [← HSz.out]; exact ho2
  have HD : Hid (M.Div zs ys Q R) := hd
  have HB2 : Hid (Below w.heap.size w w2) := HBa.out.trans (hb2.mono HBa.out.size)
  have t0 := (hb2.cell (p := ⟨w.heap.size + 1, 0, none⟩) (show w.heap.size + 1 < _ by rw [HSz.out]; omega)).trans HC3.out.1
  have t1 := (hb2.cell (p := ⟨w.heap.size + 1, 1, none⟩) (show w.heap.size + 1 < _ by rw [HSz.out]; omega)).trans HC3.out.2.1
  have t2 := (hb2.frozen (p := ⟨w.heap.size + 1, 0, none⟩) (show w.heap.size + 1 < _ by rw [HSz.out]; omega)).trans HC3.out.2.2.1
  have t3 := (hb2.frozen (p := ⟨w.heap.size + 1, 1, none⟩) (show w.heap.size + 1 < _ by rw [HSz.out]; omega)).trans HC3.out.2.2.2
  clear ho1 ho2 hd hb2 HC1 HC2 HC3 HWA HBa
  go_wp2
  refine bodyPost_ret (v := .agg #[.slice a1 l1 c1, .slice a2 l2 c2]) (by simp [results, Try.results33, go_sem, t0, t1]) rfl ⟨a1, l1, c1, a2, l2, c2, Q, R, rfl, ?_, ?_, HD.out, (HB2.out.setCell (Nat.le_succ _) _).setCell (Nat.le_succ _) _⟩
  · have h := HO1.out.lo
    exact ((HO1.out.other ⟨w.heap.size + 1, 0, none⟩ (fun x hx => by have := h x hx; simp; omega) _).other ⟨w.heap.size + 1, 1, none⟩ (fun x hx => by have := h x hx; simp; omega) _).mono (by omega)
  · have h := HO2.out.lo
    exact ((HO2.out.other ⟨w.heap.size + 1, 0, none⟩ (fun x hx => by have := h x hx; simp; omega) _).other ⟨w.heap.size + 1, 1, none⟩ (fun x hx => by have := h x hx; simp; omega) _).mono (by omega)
theorem numbers_in {a : Option Addr} {n c : Nat} {zs : List Int} {w wc : World} (hb : Below w.heap.size w wc) (hz : Sees w a n c zs) (hn : n ≤ 1048576) :
    Calls Try.prog 28 #[.slice a n c] wc fun e w' => ∃ a' cap', e = .returned (.slice a' n cap') ∧ Owns 2 w' wc.heap.size a' n cap' zs ∧ Below w.heap.size w w' ∧ Below wc.heap.size wc w' :=
  (numbersOf_any wc (hz.below hb) hn).mono fun _ _ ⟨a', cap', he, ho, hbl⟩ => ⟨a', cap', he, ho, hb.trans (hbl.mono hb.size), hbl⟩
set_option maxHeartbeats 4000000 in
theorem implDivided_any {a b : Option Addr} {n m c d : Nat} {zs ys : List Int} (w : World) (hz : Sees w a n c zs) (hy : Sees w b m d ys) :
    Calls Try.prog 18 #[.slice a n c, .slice b m d] w fun e w' => ∃ a1 l1 c1 a2 l2 c2 q r, e = .returned (.tuple #[.slice a1 l1 c1, .slice a2 l2 c2, .bool (M.divOk zs ys)]) ∧ l1 ≤ 128 ∧ l2 ≤ 128 ∧ M.DivRes zs ys q r ∧ Owns 2 w' w.heap.size a1 l1 c1 q ∧ Owns 2 w' w.heap.size a2 l2 c2 r ∧ (∀ x y, a1 = some x → a2 = some y → x.block ≠ y.block) ∧ Below w.heap.size w w' := by
  have hlz := hz.len
  have hly := hy.len
  have HZ : Hid (Sees w a n c zs) := hz
  have HY : Hid (Sees w b m d ys) := hy
  clear hz hy
  cases hb : M.both zs ys with
  | false =>
    have E : Hid (M.divOk zs ys = false) := by show _ = _; simp [M.divOk, hb]
    have HBo : Hid (M.both zs ys = false) := hb
    clear hlz hly hb
    go_enter Try.func18, Try.ntmps18
    go_wp2_with fail
    refine (polysOf_out _ HZ.out HY.out HBo.out).mono ?_
    rintro e w ⟨rfl, rfl⟩
    go_wp2
    go_ret3
    exact ⟨none, 0, 0, none, 0, 0, [], [], by rw [E.out]; rfl, by omega, by omega, .inr ⟨E.out, rfl, rfl⟩, Owns.empty _ _ _, Owns.empty _ _ _, (fun x y h => by cases h), Below.refl _ _⟩
  | true =>
    have HBo : Hid (M.both zs ys = true) := hb
    obtain ⟨h1, h2⟩ := M.both_parts hb
    have HP1 : Hid (zs.length ≤ 128 ∧ M.allEl zs = true) := M.polyOk_parts h1
    have HP2 : Hid (ys.length ≤ 128 ∧ M.allEl ys = true) := M.polyOk_parts h2
    have HN2 : Hid (M.neat ys) := M.neat_polyOk h2
    have hn : n ≤ 128 := by have := HP1.out.1; omega
    have hm : m ≤ 128 := by have := HP2.out.1; omega
    by_cases h0 : m = 0
    · have E : Hid (M.divOk zs ys = false) := by show _ = _; simp [M.divOk, hly, h0]
      have bm : ((m : Int) == 0) = true := by simp [h0]
      clear hlz hly hb h1 h2 h0
      go_enter Try.func18, Try.ntmps18
      go_wp2_with fail
      refine (polysOf_in _ HZ.out HY.out HBo.out).mono ?_
      rintro e w1 ⟨a1, b1, c1, d1, rfl, ho1, ho2, hb1⟩
      have HB1 : Hid (Below w.heap.size w w1) := hb1
      clear ho1 ho2 hb1
      go_wp2
      go_ret3
      exact ⟨none, 0, 0, none, 0, 0, [], [], by rw [E.out]; rfl, by omega, by omega, .inr ⟨E.out, rfl, rfl⟩, Owns.empty _ _ _, Owns.empty _ _ _, (fun x y h => by cases h), HB1.out⟩
    · have E : Hid (M.divOk zs ys = true) := by show _ = _; simp [M.divOk, hb, hly, h0]
      have bm : ((m : Int) == 0) = false := by simp [h0]
      have hm0 : 0 < m := by omega
      clear hlz hly hb h1 h2 h0
      go_enter Try.func18, Try.ntmps18
      go_wp2_with fail
      refine (polysOf_in _ HZ.out HY.out HBo.out).mono ?_
      rintro e w1 ⟨a1, b1, c1, d1, rfl, ho1, ho2, hb1⟩
      have HO1 : Hid (Owns 50 w1 w.heap.size a1 n c1 zs) := ho1
      have HO2 : Hid (Owns 50 w1 w.heap.size b1 m d1 ys) := ho2
      have HB1 : Hid (Below w.heap.size w w1) := hb1
      clear ho1 ho2 hb1
      go_wp2_with fail
      refine (dividedBy_any _ HO1.out.sees HO2.out.sees HP1.out.2 HP2.out.2 HN2.out hn hm hm0).mono ?_
      rintro e w2 ⟨qa, qn, qc, ra, rn, rc, Q, R, rfl, hoq, hor, hd, hb2⟩
      have hl := M.div_len hd HP1.out.1 HP2.out.1 HP2.out.2 HN2.out
      have hqn : qn ≤ 128 := by rw [← hoq.len]; exact hl.1
      have hrn : rn ≤ 128 := by rw [← hor.len]; exact hl.2
      have HOQ : Hid (Owns 50 w2 w1.heap.size qa qn qc Q) := hoq
      have HOR : Hid (Owns 50 w2 w1.heap.size ra rn rc R) := hor
      have HD : Hid (M.Div zs ys Q R) := hd
      have HB2 : Hid (Below w.heap.size w w2) := HB1.out.trans (hb2.mono HB1.out.size)
      clear hoq hor hd hb2 hl
      have hb0 : Below (w2.alloc (.cells #[Value.slice qa qn qc, Value.slice ra rn rc] 45)).heap.size (w2.alloc (.cells #[Value.slice qa qn qc, Value.slice ra rn rc] 45)) (w2.alloc (.cells #[Value.slice qa qn qc, Value.slice ra rn rc] 45)).drew := (Below.refl _ _).drew
      have HOQ2 : Hid (Sees (w2.alloc (.cells #[Value.slice qa qn qc, Value.slice ra rn rc] 45)) qa qn qc Q) := (HOQ.out.below ((Below.refl _ _).alloc (Nat.le_refl _) _)).sees
      have HOR2 : Hid (Sees (w2.alloc (.cells #[Value.slice qa qn qc, Value.slice ra rn rc] 45)) ra rn rc R) := (HOR.out.below ((Below.refl _ _).alloc (Nat.le_refl _) _)).sees
      have HBX : Hid (Below w.heap.size w (w2.alloc (.cells #[Value.slice qa qn qc, Value.slice ra rn rc] 45))) := HB2.out.alloc HB2.out.size _
      have HRl : Hid (∀ W, Below (w2.alloc (.cells #[Value.slice qa qn qc, Value.slice ra rn rc] 45)).heap.size (w2.alloc (.cells #[Value.slice qa qn qc, Value.slice ra rn rc] 45)) W → W.cell? ⟨w2.heap.size, 0, none⟩ = some (.slice qa qn qc) ∧ W.cell? ⟨w2.heap.size, 1, none⟩ = some (.slice ra rn rc)) := fun W hW => by
        have hs : w2.heap.size < (w2.alloc (.cells #[Value.slice qa qn qc, Value.slice ra rn rc] 45)).heap.size := by simp
        refine ⟨(hW.cell (p := ⟨w2.heap.size, 0, none⟩) hs).trans ?_, (hW.cell (p := ⟨w2.heap.size, 1, none⟩) hs).trans ?_⟩
        · rw [World.cell?_alloc_new]; rfl
        · rw [World.cell?_alloc_new]; rfl
      go_wp2
      go_region_with (first
        | (go_at_call_of 28 (Value.slice qa qn qc); refine (numbers_in (by assumption) HOQ2.out (by omega)).mono ?_; rintro e wq ⟨ea, ec, rfl, hoe, hbe, hce⟩; (try have hof2 := hof.below hce); have zq := HRl.out _ hbe; obtain ⟨zq0, zq1⟩ := zq)
        | (go_at_call_of 28 (Value.slice ra rn rc); refine (numbers_in (by assumption) HOR2.out (by omega)).mono ?_; rintro e wf ⟨fa, fc, rfl, hof, hbf, hcf⟩; (try have hoe2 := hoe.below hcf); have zr := HRl.out _ hbf; obtain ⟨zr0, zr1⟩ := zr))
      all_goals
        have HDI : Hid (∀ x y, ea = some x → fa = some y → x.block ≠ y.block) := fun x y hx hy => by
          have h1 := hoe.hi x hx; have h2 := hof.lo y hy; have h3 := hoe.lo x hx; have h4 := hof.hi y hy
          omega
        first
          | (have HE : Hid (Owns 2 wf w.heap.size ea qn ec Q) := hoe2.mono HBX.out.size
             have HF : Hid (Owns 2 wf w.heap.size fa rn fc R) := hof.mono (Nat.le_trans HBX.out.size hbe.size)
             have HBF : Hid (Below w.heap.size w wf) := HBX.out.trans (hbf.mono HBX.out.size)
             clear hoe hof hbe hbf hce hcf hoe2 zq0 zq1 zr0 zr1
             go_wp2
             go_ret3
             exact ⟨ea, qn, ec, fa, rn, fc, Q, R, by rw [E.out]; rfl, hqn, hrn, .inl ⟨E.out, HD.out⟩, HE.out, HF.out, HDI.out, HBF.out⟩)
          | (have HF : Hid (Owns 2 wq w.heap.size fa rn fc R) := hof2.mono HBX.out.size
             have HE : Hid (Owns 2 wq w.heap.size ea qn ec Q) := hoe.mono (Nat.le_trans HBX.out.size hbf.size)
             have HBF : Hid (Below w.heap.size w wq) := HBX.out.trans (hbe.mono HBX.out.size)
             clear hoe hof hbe hbf hce hcf hof2 zq0 zq1 zr0 zr1
             go_wp2
             go_ret3
             exact ⟨ea, qn, ec, fa, rn, fc, Q, R, by rw [E.out]; rfl, hqn, hrn, .inl ⟨E.out, HD.out⟩, HE.out, HF.out, HDI.out, HBF.out⟩)
end Go.Proofs.Ytjeoenieoejolag
