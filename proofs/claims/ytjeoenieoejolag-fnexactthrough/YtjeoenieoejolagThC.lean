/- The polynomial through points, in the program: all points, and the whole function. -/
import Derived.Test.YtjeoenieoejolagThB
namespace Go.Proofs.Ytjeoenieoejolag
open Go.RowKit

theorem Sees.other {w : World} {a : Option Addr} {n cap : Nat} {zs : List Int} (h : Sees w a n cap zs) (p : Addr) (v : Value) (hp : ∀ x, a = some x → x.block ≠ p.block) : Sees (w.setCell p v) a n cap zs :=
  h.of_cells fun q u hq hx => by
    obtain ⟨y, hy, hb⟩ := hx
    exact (World.cell?_setCell_other (w := w) (a := p) (b := q) (v := v) (h := fun e => hp y hy (by rw [hb, ← e]))).trans hq
theorem set_two (w : World) (B : Nat) (u v x y : Value) (h0 : w.cell? ⟨B, 0, none⟩ = some x) (h1 : w.cell? ⟨B, 1, none⟩ = some y) :
    ((w.setCell ⟨B, 0, none⟩ u).setCell ⟨B, 1, none⟩ v).cell? ⟨B, 0, none⟩ = some u ∧ ((w.setCell ⟨B, 0, none⟩ u).setCell ⟨B, 1, none⟩ v).cell? ⟨B, 1, none⟩ = some v ∧ (∀ p : Addr, p.block ≠ B → ((w.setCell ⟨B, 0, none⟩ u).setCell ⟨B, 1, none⟩ v).cell? p = w.cell? p) ∧ (∀ p, ((w.setCell ⟨B, 0, none⟩ u).setCell ⟨B, 1, none⟩ v).frozen? p = w.frozen? p) ∧ ((w.setCell ⟨B, 0, none⟩ u).setCell ⟨B, 1, none⟩ v).heap.size = w.heap.size := by
  have a1 : (w.setCell ⟨B, 0, none⟩ u).cell? ⟨B, 1, none⟩ = some y := (World.cell?_setCell_other (w := w) (a := ⟨B, 0, none⟩) (b := ⟨B, 1, none⟩) (v := u) (h := by simp)).trans h1
  have a0 : (w.setCell ⟨B, 0, none⟩ u).cell? ⟨B, 0, none⟩ = some u := World.cell?_setCell_same (w := w) (a := ⟨B, 0, none⟩) (v := u) (h := h0)
  refine ⟨?_, World.cell?_setCell_same (w := w.setCell ⟨B, 0, none⟩ u) (a := ⟨B, 1, none⟩) (v := v) (h := a1), fun p hp => far_set w B p u v hp, fun p => by simp, by simp⟩
  exact (World.cell?_setCell_other (w := w.setCell ⟨B, 0, none⟩ u) (a := ⟨B, 1, none⟩) (b := ⟨B, 0, none⟩) (v := v) (h := by simp)).trans a0
theorem nwts_zero (xs ys : List Int) : (M.nwts xs ys 0).1 = [] ∧ (M.nwts xs ys 0).2 = [1] := ⟨rfl, rfl⟩
theorem nwts_succ (xs ys : List Int) (k : Nat) : (M.nwts xs ys (k + 1)).1 = M.nthr (M.nwts xs ys k).1 (M.nwts xs ys k).2 (xs.getD k 0) (ys.getD k 0) ∧ (M.nwts xs ys (k + 1)).2 = M.nzer (M.nwts xs ys k).2 (xs.getD k 0) := ⟨rfl, rfl⟩
set_option maxHeartbeats 8000000 in
theorem foldPass_any {ta za : Option Addr} {g n pc tc zc : Nat} {xs ys : List Int} (w : World) (hp : ∀ i, i < n → w.cell? ⟨g, i * 2, none⟩ = some (.int .i64 (xs.getD i 0)) ∧ w.cell? ⟨g, i * 2 + 1, none⟩ = some (.int .i64 (ys.getD i 0))) (hn0 : 0 < n) (hn : n ≤ 64) (hnc : n ≤ pc) (hl : xs.length = n)
    (hT : Sees w ta 0 tc []) (hZ : Sees w za 1 zc [1]) (hta : ∀ u, ta = some u → u.block < w.heap.size) (hza : ∀ u, za = some u → u.block < w.heap.size) (ax : M.allEl xs = true) (ay : M.allEl ys = true) (hd : xs.Nodup) :
    Calls Try.prog 40 #[.slice (some ⟨g, 0, none⟩) n pc, .agg #[.slice ta 0 tc, .slice za 1 zc], .func (.func 42) #[] #[]] w fun e w' => ∃ a1 l1 c1 a2 l2 c2, e = .returned (.agg #[.slice a1 l1 c1, .slice a2 l2 c2]) ∧ Sees w' a1 l1 c1 (M.nwts xs ys n).1 ∧ (∀ u, a1 = some u → w.heap.size ≤ u.block) ∧ Below w.heap.size w w' := by
  have HP : Hid (∀ i, i < n → w.cell? ⟨g, i * 2, none⟩ = some (.int .i64 (xs.getD i 0)) ∧ w.cell? ⟨g, i * 2 + 1, none⟩ = some (.int .i64 (ys.getD i 0))) := hp
  have hg : g < w.heap.size := World.block_lt_of_cell? w ⟨g, 0 * 2, none⟩ (hp 0 hn0).1
  have HT : Hid (Sees w ta 0 tc []) := hT
  have HZ : Hid (Sees w za 1 zc [1]) := hZ
  have HTA : Hid (∀ u, ta = some u → u.block < w.heap.size) := hta
  have HZA : Hid (∀ u, za = some u → u.block < w.heap.size) := hza
  have HAX : Hid (M.allEl xs = true) := ax
  have HAY : Hid (M.allEl ys = true) := ay
  have HD : Hid (xs.Nodup) := hd
  have HL : Hid (xs.length = n) := hl
  have HBa : Hid (Below w.heap.size w ((w.alloc (.cells #[Value.slice ta 0 tc, Value.slice za 1 zc] 52)).alloc (.cells #[Value.slice none 0 0, Value.slice none 0 0] 52))) := ((Below.refl _ _).alloc (Nat.le_refl _) _).alloc (by simp) _
  clear hp hT hZ hta hza ax ay hd hl
  go_enter Try.func40, Try.ntmps40
  go_wp2
  go_loopw [11] (fun i wr => ∃ (k : Nat) (ta : Option Addr) (tn tc : Nat) (za : Option Addr) (zn zc : Nat), k ≤ n ∧ i = .int .i64 k ∧ w.heap.size + 2 ≤ wr.heap.size ∧ wr.cell? ⟨w.heap.size, 0, none⟩ = some (.slice ta tn tc) ∧ wr.cell? ⟨w.heap.size, 1, none⟩ = some (.slice za zn zc) ∧ wr.frozen? ⟨w.heap.size, 0, none⟩ = false ∧ wr.frozen? ⟨w.heap.size, 1, none⟩ = false ∧
      wr.cell? ⟨w.heap.size + 1, 0, none⟩ = some (.slice none 0 0) ∧ wr.cell? ⟨w.heap.size + 1, 1, none⟩ = some (.slice none 0 0) ∧ wr.frozen? ⟨w.heap.size + 1, 0, none⟩ = false ∧ wr.frozen? ⟨w.heap.size + 1, 1, none⟩ = false ∧
      Sees wr ta tn tc (M.nwts xs ys k).1 ∧ Sees wr za zn zc (M.nwts xs ys k).2 ∧ (∀ u, ta = some u → u.block ≠ w.heap.size ∧ u.block ≠ w.heap.size + 1) ∧ (∀ u, za = some u → u.block ≠ w.heap.size ∧ u.block ≠ w.heap.size + 1) ∧ (0 < k → ∀ u, ta = some u → w.heap.size ≤ u.block) ∧ Below w.heap.size w wr) (fun i _ => n - (intOf i).toNat)
  case atStart =>
    refine ⟨0, ta, 0, tc, za, 1, zc, Nat.zero_le _, rfl, by simp, by simp, by simp, by simp, by simp, by simp, by simp, by simp, by simp, HT.out.below HBa.out, HZ.out.below HBa.out, fun u hu => ?_, fun u hu => ?_, fun h => by omega, HBa.out⟩
    · have := HTA.out u hu; omega
    · have := HZA.out u hu; omega
  case round =>
    obtain ⟨k, ta, tn, tc, za, zn, zc, hk, rfl, hsz, s0, s1, s2, s3, t0, t1, t2, t3, hst, hsz2, hna, hnz, hlo, hb⟩ := hrel
    have HST : Hid (Sees wr ta tn tc (M.nwts xs ys k).1) := hst
    have HSZ : Hid (Sees wr za zn zc (M.nwts xs ys k).2) := hsz2
    have HNA : Hid (∀ u, ta = some u → u.block ≠ w.heap.size ∧ u.block ≠ w.heap.size + 1) := hna
    have HNZ : Hid (∀ u, za = some u → u.block ≠ w.heap.size ∧ u.block ≠ w.heap.size + 1) := hnz
    have HB : Hid (Below w.heap.size w wr) := hb
    have HLO : Hid (0 < k → ∀ u, ta = some u → w.heap.size ≤ u.block) := hlo
    clear hst hsz2 hna hnz hlo hb HBa HT HZ HTA HZA
    by_cases hlt : k < n
    · have HNW := M.nwts_ok HD.out HAX.out HAY.out k (by rw [HL.out]; omega)
      have HNW' : Hid (M.Nwt xs ys (M.nwts xs ys k).1 (M.nwts xs ys k).2 k) := HNW
      clear HNW
      obtain ⟨p0, p1⟩ := HP.out k hlt
      have e0 := (HB.out.cell (p := ⟨g, k * 2, none⟩) hg).trans p0
      have e1 := (HB.out.cell (p := ⟨g, k * 2 + 1, none⟩) hg).trans p1
      have x01 := M.el_at HAX.out k
      have y01 := M.el_at HAY.out k
      have HSU : Hid ((M.nwts xs ys (k + 1)).1 = M.nthr (M.nwts xs ys k).1 (M.nwts xs ys k).2 (xs.getD k 0) (ys.getD k 0) ∧ (M.nwts xs ys (k + 1)).2 = M.nzer (M.nwts xs ys k).2 (xs.getD k 0)) := nwts_succ xs ys k
      clear p0 p1
      generalize xs.getD k 0 = x at e0 x01 HSU
      generalize ys.getD k 0 = y at e1 y01 HSU
      obtain ⟨x0, x1⟩ := x01
      obtain ⟨y0, y1⟩ := y01
      have hI : (k : Int) < (n : Int) := by omega
      have htn : tn ≤ 1000 := by rw [← HST.out.len]; have := HNW'.out.lt; omega
      have hzn : zn ≤ 1000 := by rw [← HSZ.out.len]; have := HNW'.out.lz; omega
      have r0 : (wr.alloc (.cells #[Value.int .i64 x, Value.int .i64 y] 55)).cell? ⟨w.heap.size, 0, none⟩ = some (.slice ta tn tc) := (World.cell?_alloc_lt (w := wr) (o := .cells #[Value.int .i64 x, Value.int .i64 y] 55) (a := ⟨w.heap.size, 0, none⟩) (h := show w.heap.size < _ by omega)).trans s0
      have r1 : (wr.alloc (.cells #[Value.int .i64 x, Value.int .i64 y] 55)).cell? ⟨w.heap.size, 1, none⟩ = some (.slice za zn zc) := (World.cell?_alloc_lt (w := wr) (o := .cells #[Value.int .i64 x, Value.int .i64 y] 55) (a := ⟨w.heap.size, 1, none⟩) (h := show w.heap.size < _ by omega)).trans s1
      have HBP : Hid (Below wr.heap.size wr (wr.alloc (.cells #[Value.int .i64 x, Value.int .i64 y] 55))) := (Below.refl _ _).alloc (Nat.le_refl _) _
      go_wp2_with fail
      refine (passWith_any x y _ (HST.out.below HBP.out) (HSZ.out.below HBP.out) HNW'.out.tl HNW'.out.zl htn hzn x0 x1 y0 y1).mono ?_
      rintro e w2 ⟨a1, l1, c1, a2, l2, c2, rfl, ho1, ho2, hb2⟩
      have hW : Below wr.heap.size wr w2 := HBP.out.trans (hb2.mono HBP.out.size)
      have hs2 : w.heap.size + 2 ≤ (wr.alloc (.cells #[Value.int .i64 x, Value.int .i64 y] 55)).heap.size := by simp; omega
      have HO1 : Hid (Owns 50 w2 (w.heap.size + 2) a1 l1 c1 (M.nwts xs ys (k + 1)).1) := by show Owns _ _ _ _ _ _ _; rw [HSU.out.1]; exact ho1.mono hs2
      have HO2 : Hid (Owns 50 w2 (w.heap.size + 2) a2 l2 c2 (M.nwts xs ys (k + 1)).2) := by show Owns _ _ _ _ _ _ _; rw [HSU.out.2]; exact ho2.mono hs2
      have HB2 : Hid (Below w.heap.size w w2) := HB.out.trans (hW.mono HB.out.size)
      have HSZ2 : Hid (w.heap.size + 2 ≤ w2.heap.size) := Nat.le_trans hsz hW.size
      have g0 := (hW.cell (p := ⟨w.heap.size, 0, none⟩) (show w.heap.size < _ by omega)).trans s0
      have g1 := (hW.cell (p := ⟨w.heap.size, 1, none⟩) (show w.heap.size < _ by omega)).trans s1
      have g2 := (hW.frozen (p := ⟨w.heap.size, 0, none⟩) (show w.heap.size < _ by omega)).trans s2
      have g3 := (hW.frozen (p := ⟨w.heap.size, 1, none⟩) (show w.heap.size < _ by omega)).trans s3
      have HTS : Hid (_ ∧ _ ∧ _ ∧ _ ∧ _) := set_two w2 w.heap.size (.slice a1 l1 c1) (.slice a2 l2 c2) _ _ g0 g1
      have HF : Hid (w2.frozen? ⟨w.heap.size, 0, none⟩ = false ∧ w2.frozen? ⟨w.heap.size, 1, none⟩ = false ∧ w2.cell? ⟨w.heap.size + 1, 0, none⟩ = some (.slice none 0 0) ∧ w2.cell? ⟨w.heap.size + 1, 1, none⟩ = some (.slice none 0 0) ∧ w2.frozen? ⟨w.heap.size + 1, 0, none⟩ = false ∧ w2.frozen? ⟨w.heap.size + 1, 1, none⟩ = false) := ⟨g2, g3, (hW.cell (p := ⟨w.heap.size + 1, 0, none⟩) (show w.heap.size + 1 < _ by omega)).trans t0, (hW.cell (p := ⟨w.heap.size + 1, 1, none⟩) (show w.heap.size + 1 < _ by omega)).trans t1, (hW.frozen (p := ⟨w.heap.size + 1, 0, none⟩) (show w.heap.size + 1 < _ by omega)).trans t2, (hW.frozen (p := ⟨w.heap.size + 1, 1, none⟩) (show w.heap.size + 1 < _ by omega)).trans t3⟩
      clear ho1 ho2 hb2 hW hs2
      go_wp2
      go_roundw
      case rel =>
        obtain ⟨u0, u1, u2, u3, u4⟩ := HTS.out
        obtain ⟨f0, f1, f2, f3, f4, f5⟩ := HF.out
        have h1 := HO1.out.lo
        have h2 := HO2.out.lo
        refine ⟨k + 1, a1, l1, c1, a2, l2, c2, by omega, by go_num, ?_, u0, u1, (u3 _).trans f0, (u3 _).trans f1, (u2 _ (by simp)).trans f2, (u2 _ (by simp)).trans f3, (u3 _).trans f4, (u3 _).trans f5, ?_, ?_, ?_, ?_, fun _ u hu => (by have := h1 u hu; omega), (HB2.out.setCell (Nat.le_refl _) _).setCell (Nat.le_refl _) _⟩
        · rw [u4]; exact HSZ2.out
        · exact (HO1.out.sees.other ⟨w.heap.size, 0, none⟩ _ (fun x hx => by have := h1 x hx; simp; omega)).other ⟨w.heap.size, 1, none⟩ _ (fun x hx => by have := h1 x hx; simp; omega)
        · exact (HO2.out.sees.other ⟨w.heap.size, 0, none⟩ _ (fun x hx => by have := h2 x hx; simp; omega)).other ⟨w.heap.size, 1, none⟩ _ (fun x hx => by have := h2 x hx; simp; omega)
        · intro u hu; have := h1 u hu; omega
        · intro u hu; have := h2 u hu; omega
      case measure => simp [intOf]; omega
    · have hkn : k = n := by omega
      subst hkn
      go_wp2
      refine bodyPost_ret (v := .agg #[.slice ta tn tc, .slice za zn zc]) (by simp [results, Try.results40, go_sem, t0, t1]) rfl ⟨ta, tn, tc, za, zn, zc, rfl, ?_, HLO.out hn0, (HB.out.setCell (Nat.le_succ _) _).setCell (Nat.le_succ _) _⟩
      exact (HST.out.other ⟨w.heap.size + 1, 0, none⟩ _ (fun x hx => (HNA.out x hx).2)).other ⟨w.heap.size + 1, 1, none⟩ _ (fun x hx => (HNA.out x hx).2)
theorem OwnsP.block {w : World} {base n cap : Nat} {a : Option Addr} {xs ys : List Int} (h : OwnsP w base a n cap xs ys) (h0 : 0 < n) : ∃ g, a = some ⟨g, 0, none⟩ ∧ base ≤ g ∧ n ≤ cap ∧ (cap : Int) ≤ 9223372036854775807 ∧ ∀ i, i < n → w.cell? ⟨g, i * 2, none⟩ = some (.int .i64 (xs.getD i 0)) ∧ w.cell? ⟨g, i * 2 + 1, none⟩ = some (.int .i64 (ys.getD i 0)) := by
  have hcl : ∀ g, (Value.slice a n cap).ownBlock = some g → _ := fun g hg => World.ownsRow.cells h hg
  rcases h.2 with ⟨_, h0'⟩ | ⟨g, c, cur, e, hb, hh, hn, hm, _, _⟩
  · omega
  · simp only [Value.slice.injEq] at e
    obtain ⟨rfl, -, rfl⟩ := e
    have hadd : ∀ j, (⟨g, 0, none⟩ : Addr).add j = ⟨g, j, none⟩ := fun j => by unfold Addr.add; split <;> simp_all
    unfold maxLen at hm
    refine ⟨g, rfl, hb, hn, by omega, fun i hi => ?_⟩
    obtain ⟨h1, h2⟩ := M.prs_get xs ys hi
    have c1 := hcl g rfl _ _ h1
    have c2 := hcl g rfl _ _ h2
    rw [hadd] at c1 c2
    exact ⟨c1, c2⟩
theorem pointsOf_in {a b : Option Addr} {n c d : Nat} {xs ys : List Int} {w wc : World} (hb : Below w.heap.size w wc) (hx : Sees w a n c xs) (hy : Sees w b n d ys) (hn : n ≤ 64) (h0 : 0 < n) :
    Calls Try.prog 41 #[.slice a n c, .slice b n d] wc fun e w' => ∃ g cap', e = .returned (.slice (some ⟨g, 0, none⟩) n cap') ∧ n ≤ cap' ∧ (∀ i, i < n → w'.cell? ⟨g, i * 2, none⟩ = some (.int .i64 (xs.getD i 0)) ∧ w'.cell? ⟨g, i * 2 + 1, none⟩ = some (.int .i64 (ys.getD i 0))) ∧ Below w.heap.size w w' ∧ Below wc.heap.size wc w' :=
  (pointsOf_any wc (hx.below hb) (hy.below hb) hn).mono fun _ _ ⟨_, cap', he, ho, hbl⟩ => by
    obtain ⟨g, rfl, _, hc, _, hcell⟩ := ho.block h0
    exact ⟨g, cap', he, hc, hcell, hb.trans (hbl.mono hb.size), hbl⟩
theorem foldPass_in {g n pc B : Nat} {xs ys : List Int} {wa wc : World} (hb : Below wa.heap.size wa wc) (hp : ∀ i, i < n → wc.cell? ⟨g, i * 2, none⟩ = some (.int .i64 (xs.getD i 0)) ∧ wc.cell? ⟨g, i * 2 + 1, none⟩ = some (.int .i64 (ys.getD i 0))) (hn0 : 0 < n) (hn : n ≤ 64) (hnc : n ≤ pc) (hl : xs.length = n)
    (hT : Sees wa (some ⟨B, 0, none⟩) 0 0 []) (hZ : Sees wa (some ⟨B + 1, 0, none⟩) 1 1 [1]) (hB : B + 1 < wa.heap.size) (ax : M.allEl xs = true) (ay : M.allEl ys = true) (hd : xs.Nodup) :
    Calls Try.prog 40 #[.slice (some ⟨g, 0, none⟩) n pc, .agg #[.slice (some ⟨B, 0, none⟩) 0 0, .slice (some ⟨B + 1, 0, none⟩) 1 1], .func (.func 42) #[] #[]] wc fun e w' => ∃ a1 l1 c1 a2 l2 c2, e = .returned (.agg #[.slice a1 l1 c1, .slice a2 l2 c2]) ∧ Sees w' a1 l1 c1 (M.nwts xs ys n).1 ∧ (∀ u, a1 = some u → wc.heap.size ≤ u.block) ∧ Below wa.heap.size wa w' ∧ Below wc.heap.size wc w' :=
  (foldPass_any wc hp hn0 hn hnc hl (hT.below hb) (hZ.below hb) (fun u hu => by have := hb.size; cases hu; show B < _; omega) (fun u hu => by have := hb.size; cases hu; show B + 1 < _; omega) ax ay hd).mono
    fun _ _ ⟨a1, l1, c1, a2, l2, c2, he, hs, hlo, hbl⟩ => ⟨a1, l1, c1, a2, l2, c2, he, hs, hlo, hb.trans (hbl.mono hb.size), hbl⟩
theorem alloc_kept {w w' : World} {t : TypeId} {x y : Value} (hb : Below (w.alloc (.cells #[x, y] t)).heap.size (w.alloc (.cells #[x, y] t)) w') : w'.cell? ⟨w.heap.size, 0, none⟩ = some x ∧ w'.cell? ⟨w.heap.size, 1, none⟩ = some y ∧ w'.frozen? ⟨w.heap.size, 0, none⟩ = false ∧ w'.frozen? ⟨w.heap.size, 1, none⟩ = false := by
  have hs : w.heap.size < (w.alloc (.cells #[x, y] t)).heap.size := by simp
  refine ⟨(hb.cell (p := ⟨w.heap.size, 0, none⟩) hs).trans ?_, (hb.cell (p := ⟨w.heap.size, 1, none⟩) hs).trans ?_, (hb.frozen (p := ⟨w.heap.size, 0, none⟩) hs).trans ?_, (hb.frozen (p := ⟨w.heap.size, 1, none⟩) hs).trans ?_⟩
  · rw [World.cell?_alloc_new]; rfl
  · rw [World.cell?_alloc_new]; rfl
  · rw [frozen?_alloc_cells]; simp [World.frozen?]
  · rw [frozen?_alloc_cells]; simp [World.frozen?]
theorem cells_kept {w w' : World} {p : Nat} {x y : Value} (hb : Below w.heap.size w w') (h : w.cell? ⟨p, 0, none⟩ = some x ∧ w.cell? ⟨p, 1, none⟩ = some y ∧ w.frozen? ⟨p, 0, none⟩ = false ∧ w.frozen? ⟨p, 1, none⟩ = false) : w'.cell? ⟨p, 0, none⟩ = some x ∧ w'.cell? ⟨p, 1, none⟩ = some y ∧ w'.frozen? ⟨p, 0, none⟩ = false ∧ w'.frozen? ⟨p, 1, none⟩ = false := by
  have hs : p < w.heap.size := World.block_lt_of_cell? w _ h.1
  exact ⟨(hb.cell (p := ⟨p, 0, none⟩) hs).trans h.1, (hb.cell (p := ⟨p, 1, none⟩) hs).trans h.2.1, (hb.frozen (p := ⟨p, 0, none⟩) hs).trans h.2.2.1, (hb.frozen (p := ⟨p, 1, none⟩) hs).trans h.2.2.2⟩
theorem M.thOk_no {xs ys : List Int} (h : M.thLens xs ys = false ∨ M.allEl xs = false ∨ M.allEl ys = false ∨ decide xs.Nodup = false) : M.thOk xs ys = false := by
  unfold M.thOk
  rcases h with h | h | h | h <;> rw [h] <;> simp
theorem M.thLens_no {xs ys : List Int} (h : xs.length < 1 ∨ 64 < xs.length ∨ ys.length ≠ xs.length) : M.thLens xs ys = false := by
  unfold M.thLens
  rcases h with h | h | h
  · rw [decide_eq_false (by omega)]; rfl
  · rw [decide_eq_false (p := xs.length ≤ 64) (by omega)]; simp
  · rw [decide_eq_false (p := ys.length = xs.length) h]; simp
theorem M.thLens_yes {xs ys : List Int} (h1 : 1 ≤ xs.length) (h2 : xs.length ≤ 64) (h3 : ys.length = xs.length) : M.thLens xs ys = true := by
  unfold M.thLens; rw [decide_eq_true h1, decide_eq_true h2, decide_eq_true h3]; rfl
set_option maxHeartbeats 8000000 in
theorem implThrough_any {a b : Option Addr} {n m c d : Nat} {xs ys : List Int} (w : World) (hx : Sees w a n c xs) (hy : Sees w b m d ys) :
    Calls Try.prog 20 #[.slice a n c, .slice b m d] w fun e w' => ∃ a' l c', e = .returned (.tuple #[.slice a' l c', .bool (M.thOk xs ys)]) ∧ l ≤ 128 ∧ Owns 2 w' w.heap.size a' l c' (M.thv xs ys) ∧ Below w.heap.size w w' := by
  have hlx := hx.len
  have hly := hy.len
  have bn : (n : Int) ≤ 9223372036854775807 := by have := hx.big; have := hx.le; omega
  have bm : (m : Int) ≤ 9223372036854775807 := by have := hy.big; have := hy.le; omega
  have HX : Hid (Sees w a n c xs) := hx
  have HY : Hid (Sees w b m d ys) := hy
  clear hx hy
  by_cases h1 : n < 1
  · have E : Hid (M.thOk xs ys = false) := M.thOk_no (.inl (M.thLens_no (.inl (by omega))))
    have g1 : (n : Int) < 1 := by omega
    clear hlx hly
    go_enter Try.func20, Try.ntmps20
    go_wp2
    go_ret2
    exact ⟨none, 0, 0, by rw [E.out]; rfl, by omega, by rw [M.thv_out E.out]; exact Owns.empty _ _ _, Below.refl _ _⟩
  · have g1 : decide ((n : Int) < 1) = false := decide_eq_false (by omega)
    by_cases h2 : 64 < n
    · have E : Hid (M.thOk xs ys = false) := M.thOk_no (.inl (M.thLens_no (.inr (.inl (by omega)))))
      have g2 : (64 : Int) < (n : Int) := by omega
      clear hlx hly
      go_enter Try.func20, Try.ntmps20
      go_wp2
      go_ret2
      exact ⟨none, 0, 0, by rw [E.out]; rfl, by omega, by rw [M.thv_out E.out]; exact Owns.empty _ _ _, Below.refl _ _⟩
    · have g2 : decide ((64 : Int) < (n : Int)) = false := decide_eq_false (by omega)
      by_cases h3 : m = n
      · subst h3
        have g3 : ((m : Int) != (m : Int)) = false := by simp
        have HL : Hid (M.thLens xs ys = true) := M.thLens_yes (by omega) (by omega) (by omega)
        cases ha : M.allEl xs with
        | false =>
          have E : Hid (M.thOk xs ys = false) := M.thOk_no (.inr (.inl ha))
          clear hlx hly
          go_enter Try.func20, Try.ntmps20
          go_wp2_with fail
          refine (allElements_any _ HX.out).mono ?_
          rintro e w ⟨rfl, rfl⟩
          rw [ha]
          go_wp2
          go_ret2
          exact ⟨none, 0, 0, by rw [E.out]; rfl, by omega, by rw [M.thv_out E.out]; exact Owns.empty _ _ _, Below.refl _ _⟩
        | true =>
          cases hb : M.allEl ys with
          | false =>
            have E : Hid (M.thOk xs ys = false) := M.thOk_no (.inr (.inr (.inl hb)))
            clear hlx hly
            go_enter Try.func20, Try.ntmps20
            go_wp2_with fail
            refine (allElements_any _ HX.out).mono ?_
            rintro e w ⟨rfl, rfl⟩
            rw [ha]
            go_wp2_with fail
            refine (allElements_any _ HY.out).mono ?_
            rintro e w ⟨rfl, rfl⟩
            rw [hb]
            go_wp2
            go_ret2
            exact ⟨none, 0, 0, by rw [E.out]; rfl, by omega, by rw [M.thv_out E.out]; exact Owns.empty _ _ _, Below.refl _ _⟩
          | true =>
            cases hd : decide xs.Nodup with
            | false =>
              have E : Hid (M.thOk xs ys = false) := M.thOk_no (.inr (.inr (.inr hd)))
              clear hlx hly
              go_enter Try.func20, Try.ntmps20
              go_wp2_with fail
              refine (allElements_any _ HX.out).mono ?_
              rintro e w ⟨rfl, rfl⟩
              rw [ha]
              go_wp2_with fail
              refine (allElements_any _ HY.out).mono ?_
              rintro e w ⟨rfl, rfl⟩
              rw [hb]
              go_wp2_with fail
              refine (allUnlike_any _ HX.out).mono ?_
              rintro e w ⟨rfl, rfl⟩
              rw [hd]
              go_wp2
              go_ret2
              exact ⟨none, 0, 0, by rw [E.out]; rfl, by omega, by rw [M.thv_out E.out]; exact Owns.empty _ _ _, Below.refl _ _⟩
            | true =>
              have HD : Hid (xs.Nodup) := by show xs.Nodup; exact of_decide_eq_true hd
              have HAX : Hid (M.allEl xs = true) := ha
              have HAY : Hid (M.allEl ys = true) := hb
              have E : Hid (M.thOk xs ys = true) := M.thOk_mk HL.out ha hb HD.out
              have HV : Hid (M.thv xs ys = (M.nwts xs ys m).1) := by show _ = _; rw [M.thv_in E.out, hlx]
              have HVL : Hid ((M.thv xs ys).length ≤ 64) := M.thv_len xs ys
              have HLX : Hid (xs.length = m) := hlx
              clear hlx hly
              have HBa : Hid (Below w.heap.size w (((w.alloc (.cells #[] 50)).alloc (.cells #[Value.int .i64 1] 50)).alloc (.cells #[Value.slice (some ⟨w.heap.size, 0, none⟩) 0 0, Value.slice (some ⟨w.heap.size + 1, 0, none⟩) 1 1] 52))) := (((Below.refl _ _).alloc (Nat.le_refl _) _).alloc (by simp) _).alloc (by simp; omega) _
              have HSz : Hid ((((w.alloc (.cells #[] 50)).alloc (.cells #[Value.int .i64 1] 50)).alloc (.cells #[Value.slice (some ⟨w.heap.size, 0, none⟩) 0 0, Value.slice (some ⟨w.heap.size + 1, 0, none⟩) 1 1] 52)).heap.size = w.heap.size + 3) := by show _ = _; simp
              have HK : Hid (∀ W, Below (((w.alloc (.cells #[] 50)).alloc (.cells #[Value.int .i64 1] 50)).alloc (.cells #[Value.slice (some ⟨w.heap.size, 0, none⟩) 0 0, Value.slice (some ⟨w.heap.size + 1, 0, none⟩) 1 1] 52)).heap.size (((w.alloc (.cells #[] 50)).alloc (.cells #[Value.int .i64 1] 50)).alloc (.cells #[Value.slice (some ⟨w.heap.size, 0, none⟩) 0 0, Value.slice (some ⟨w.heap.size + 1, 0, none⟩) 1 1] 52)) W → W.cell? ⟨w.heap.size + 1 + 1, 0, none⟩ = some (.slice (some ⟨w.heap.size, 0, none⟩) 0 0) ∧ W.cell? ⟨w.heap.size + 1 + 1, 1, none⟩ = some (.slice (some ⟨w.heap.size + 1, 0, none⟩) 1 1)) := fun W hW =>
                ⟨(hW.cell (p := ⟨w.heap.size + 1 + 1, 0, none⟩) (show w.heap.size + 1 + 1 < _ by rw [HSz.out]; omega)).trans (chain3' w _ _ _ _ _ _ 0).2.2.1, (hW.cell (p := ⟨w.heap.size + 1 + 1, 1, none⟩) (show w.heap.size + 1 + 1 < _ by rw [HSz.out]; omega)).trans (chain3' w _ _ _ _ _ _ 1).2.2.1⟩
              have HTa : Hid (Sees (((w.alloc (.cells #[] 50)).alloc (.cells #[Value.int .i64 1] 50)).alloc (.cells #[Value.slice (some ⟨w.heap.size, 0, none⟩) 0 0, Value.slice (some ⟨w.heap.size + 1, 0, none⟩) 1 1] 52)) (some ⟨w.heap.size, 0, none⟩) 0 0 []) := ⟨rfl, by omega, by omega, (fun h => by cases h), .inl rfl⟩
              have HZa : Hid (Sees (((w.alloc (.cells #[] 50)).alloc (.cells #[Value.int .i64 1] 50)).alloc (.cells #[Value.slice (some ⟨w.heap.size, 0, none⟩) 0 0, Value.slice (some ⟨w.heap.size + 1, 0, none⟩) 1 1] 52)) (some ⟨w.heap.size + 1, 0, none⟩) 1 1 [1]) := ⟨rfl, by omega, by omega, (fun h => by cases h), .inr ⟨_, _, rfl, fun i hi => by
                have h0 : i = 0 := by omega
                subst h0
                exact (chain3' w _ _ _ _ _ _ 0).2.1⟩⟩
              have HBa1 : Hid (w.heap.size + 1 < (((w.alloc (.cells #[] 50)).alloc (.cells #[Value.int .i64 1] 50)).alloc (.cells #[Value.slice (some ⟨w.heap.size, 0, none⟩) 0 0, Value.slice (some ⟨w.heap.size + 1, 0, none⟩) 1 1] 52)).heap.size) := by show _ < _; rw [HSz.out]; omega
              have HBL : Hid (∀ (W : World) (o : Obj), Below (((w.alloc (.cells #[] 50)).alloc (.cells #[Value.int .i64 1] 50)).alloc (.cells #[Value.slice (some ⟨w.heap.size, 0, none⟩) 0 0, Value.slice (some ⟨w.heap.size + 1, 0, none⟩) 1 1] 52)).heap.size (((w.alloc (.cells #[] 50)).alloc (.cells #[Value.int .i64 1] 50)).alloc (.cells #[Value.slice (some ⟨w.heap.size, 0, none⟩) 0 0, Value.slice (some ⟨w.heap.size + 1, 0, none⟩) 1 1] 52)) W → Below (((w.alloc (.cells #[] 50)).alloc (.cells #[Value.int .i64 1] 50)).alloc (.cells #[Value.slice (some ⟨w.heap.size, 0, none⟩) 0 0, Value.slice (some ⟨w.heap.size + 1, 0, none⟩) 1 1] 52)).heap.size (((w.alloc (.cells #[] 50)).alloc (.cells #[Value.int .i64 1] 50)).alloc (.cells #[Value.slice (some ⟨w.heap.size, 0, none⟩) 0 0, Value.slice (some ⟨w.heap.size + 1, 0, none⟩) 1 1] 52)) (W.alloc o)) := fun W o h => h.alloc h.size _
              have HBS : Hid (∀ (W : World) (p : Nat) (u v : Value), (((w.alloc (.cells #[] 50)).alloc (.cells #[Value.int .i64 1] 50)).alloc (.cells #[Value.slice (some ⟨w.heap.size, 0, none⟩) 0 0, Value.slice (some ⟨w.heap.size + 1, 0, none⟩) 1 1] 52)).heap.size ≤ p → Below (((w.alloc (.cells #[] 50)).alloc (.cells #[Value.int .i64 1] 50)).alloc (.cells #[Value.slice (some ⟨w.heap.size, 0, none⟩) 0 0, Value.slice (some ⟨w.heap.size + 1, 0, none⟩) 1 1] 52)).heap.size (((w.alloc (.cells #[] 50)).alloc (.cells #[Value.int .i64 1] 50)).alloc (.cells #[Value.slice (some ⟨w.heap.size, 0, none⟩) 0 0, Value.slice (some ⟨w.heap.size + 1, 0, none⟩) 1 1] 52)) W → Below (((w.alloc (.cells #[] 50)).alloc (.cells #[Value.int .i64 1] 50)).alloc (.cells #[Value.slice (some ⟨w.heap.size, 0, none⟩) 0 0, Value.slice (some ⟨w.heap.size + 1, 0, none⟩) 1 1] 52)).heap.size (((w.alloc (.cells #[] 50)).alloc (.cells #[Value.int .i64 1] 50)).alloc (.cells #[Value.slice (some ⟨w.heap.size, 0, none⟩) 0 0, Value.slice (some ⟨w.heap.size + 1, 0, none⟩) 1 1] 52)) ((W.setCell ⟨p, 0, none⟩ u).setCell ⟨p, 1, none⟩ v)) := fun W p u v hp h => (h.setCell hp _).setCell hp _
              have HPA : Hid (∀ (W : World) (o : Obj) (g : Nat), (∀ i, i < m → W.cell? ⟨g, i * 2, none⟩ = some (.int .i64 (xs.getD i 0)) ∧ W.cell? ⟨g, i * 2 + 1, none⟩ = some (.int .i64 (ys.getD i 0))) → ∀ i, i < m → (W.alloc o).cell? ⟨g, i * 2, none⟩ = some (.int .i64 (xs.getD i 0)) ∧ (W.alloc o).cell? ⟨g, i * 2 + 1, none⟩ = some (.int .i64 (ys.getD i 0))) := fun W o g h i hi =>
                ⟨(World.cell?_alloc_lt (w := W) (o := o) (a := ⟨g, i * 2, none⟩) (h := World.block_lt_of_cell? W _ (h i hi).1)).trans (h i hi).1, (World.cell?_alloc_lt (w := W) (o := o) (a := ⟨g, i * 2 + 1, none⟩) (h := World.block_lt_of_cell? W _ (h i hi).2)).trans (h i hi).2⟩
              have HXa : Hid (Sees (((w.alloc (.cells #[] 50)).alloc (.cells #[Value.int .i64 1] 50)).alloc (.cells #[Value.slice (some ⟨w.heap.size, 0, none⟩) 0 0, Value.slice (some ⟨w.heap.size + 1, 0, none⟩) 1 1] 52)) a m c xs) := HX.out.below HBa.out
              have HYa : Hid (Sees (((w.alloc (.cells #[] 50)).alloc (.cells #[Value.int .i64 1] 50)).alloc (.cells #[Value.slice (some ⟨w.heap.size, 0, none⟩) 0 0, Value.slice (some ⟨w.heap.size + 1, 0, none⟩) 1 1] 52)) b m d ys) := HY.out.below HBa.out
              generalize hwa : (((w.alloc (.cells #[] 50)).alloc (.cells #[Value.int .i64 1] 50)).alloc (.cells #[Value.slice (some ⟨w.heap.size, 0, none⟩) 0 0, Value.slice (some ⟨w.heap.size + 1, 0, none⟩) 1 1] 52)) = wa at HBa HSz HK HTa HZa HBa1 HBL HBS HXa HYa
              have HWA : Hid ((((w.alloc (.cells #[] 50)).alloc (.cells #[Value.int .i64 1] 50)).alloc (.cells #[Value.slice (some ⟨w.heap.size, 0, none⟩) 0 0, Value.slice (some ⟨w.heap.size + 1, 0, none⟩) 1 1] 52)) = wa) := hwa
              clear hwa
              have hb0 : Below wa.heap.size wa wa.drew := (Below.refl _ _).drew
              have hm0 : 0 < m := by omega
              have hm64 : m ≤ 64 := by omega
              go_enter Try.func20, Try.ntmps20
              go_wp2_with fail
              refine (allElements_any _ HX.out).mono ?_
              rintro e w ⟨rfl, rfl⟩
              rw [ha]
              go_wp2_with fail
              refine (allElements_any _ HY.out).mono ?_
              rintro e w ⟨rfl, rfl⟩
              rw [hb]
              go_wp2_with fail
              refine (allUnlike_any _ HX.out).mono ?_
              rintro e w ⟨rfl, rfl⟩
              rw [hd]
              go_wp2
              rw [HWA.out]
              go_region_held3 (fun W => W.cell? ⟨w.heap.size + 1 + 1, 0, none⟩ = some (.slice (some ⟨w.heap.size, 0, none⟩) 0 0) ∧ W.cell? ⟨w.heap.size + 1 + 1, 1, none⟩ = some (.slice (some ⟨w.heap.size + 1, 0, none⟩) 1 1)) (first | exact HK.out _ hb0 | exact HK.out _ hbb | exact HK.out _ (HBL.out _ _ hb0) | exact HK.out _ (HBL.out _ _ hbb) | exact HK.out _ (HBS.out _ _ _ _ (Nat.le_refl _) hbb) | exact HK.out _ (HBS.out _ _ _ _ z1 hbb))
                (first
                  | (go_at_call 41; refine (pointsOf_in (w := wa) (by first | exact hb0 | exact HBL.out _ _ hb0) HXa.out HYa.out hm64 hm0).mono ?_; rintro e w1 ⟨g, pc, rfl, hpc, hpt, hbb, hcc⟩; have z1 : wa.heap.size ≤ w1.heap.size := hbb.size; (first | have hq := alloc_kept hcc | have hq := alloc_kept ((Below.refl _ _).drew.trans hcc) | skip))
                  | (go_at_call 40; refine (foldPass_in (wa := wa) (by first | exact hbb | exact HBL.out _ _ hbb) (by first | exact hpt | exact HPA.out _ _ _ hpt) hm0 hm64 hpc HLX.out HTa.out HZa.out HBa1.out HAX.out HAY.out HD.out).mono ?_; rintro e w2 ⟨a1, l1, c1, a2, l2, c2, rfl, hsT, hlo, hbb, hcc⟩; (first | have hpl := World.block_lt_of_cell? _ _ hq.1 | skip); (first | have hq := alloc_kept hcc | have hq := cells_kept hcc hq | skip)))
              all_goals
                have hl1 : l1 ≤ 64 := by have h := HVL.out; rw [HV.out, hsT.len] at h; exact h
                have HSW : Hid (w.heap.size ≤ wa.heap.size) := HBa.out.size
                go_wp2_with fail
                refine (numbersOf_any _ (by first | exact Sees.other (Sees.other hsT _ _ (fun u hu => by have h1 := hlo u hu; simp at h1 hpl ⊢; omega)) _ _ (fun u hu => by have h1 := hlo u hu; simp at h1 hpl ⊢; omega) | exact Sees.other (Sees.other hsT _ _ (fun u hu => by have h1 := hlo u hu; simp at h1 ⊢; omega)) _ _ (fun u hu => by have h1 := hlo u hu; simp at h1 ⊢; omega) | exact hsT.below ((Below.refl _ _).alloc (Nat.le_refl _) _)) (by omega)).mono ?_
                rintro e w4 ⟨a4, c4, rfl, ho4, hb4⟩
                have hbF : Below wa.heap.size wa w4 := by first | exact (HBS.out _ _ _ _ (Nat.le_refl _) hbb).trans (hb4.mono (HBS.out _ _ _ _ (Nat.le_refl _) hbb).size) | exact (HBS.out _ _ _ _ z1 hbb).trans (hb4.mono (HBS.out _ _ _ _ z1 hbb).size) | exact (HBL.out _ _ hbb).trans (hb4.mono (HBL.out _ _ hbb).size)
                have HO4 : Hid (Owns 2 w4 w.heap.size a4 l1 c4 (M.thv xs ys)) := by
                  show Owns _ _ _ _ _ _ _
                  rw [HV.out]
                  first
                    | exact ho4.mono (Nat.le_trans HSW.out (HBS.out _ _ _ _ (Nat.le_refl _) hbb).size)
                    | exact ho4.mono (Nat.le_trans HSW.out (HBS.out _ _ _ _ z1 hbb).size)
                    | exact ho4.mono (Nat.le_trans HSW.out (HBL.out _ _ hbb).size)
                have HB4 : Hid (Below w.heap.size w w4) := HBa.out.trans (hbF.mono HSW.out)
                clear ho4 hb4 hbF
                go_wp2
                go_ret2
                exact ⟨a4, l1, c4, by rw [E.out]; rfl, by omega, HO4.out, HB4.out⟩
      · have E : Hid (M.thOk xs ys = false) := M.thOk_no (.inl (M.thLens_no (.inr (.inr (by omega)))))
        have g3 : ((m : Int) != (n : Int)) = true := by simp; omega
        clear hlx hly
        go_enter Try.func20, Try.ntmps20
        go_wp2
        go_ret2
        exact ⟨none, 0, 0, by rw [E.out]; rfl, by omega, by rw [M.thv_out E.out]; exact Owns.empty _ _ _, Below.refl _ _⟩
end Go.Proofs.Ytjeoenieoejolag
