/- A slice of claims that came in: opened, counted, made anew by the law's own helper. -/
import Derived.Test.YtjeoenieoejolajOpA
import Derived.Test.YtjeoenieoejolajLvC
import Derived.Test.YtjeoenieoejolajClB
namespace Go.Proofs.Ytjeoenieoejolaj
open Go.RowKit Go.ChangeShapes Go.WideShapes Go.Deep

theorem made_prc (n : Nat) : (madeCells #[.int .i64 0, .int .i64 0, .int .i64 0, .int .i64 0, .int .i64 0] (n * 5)).toList = prc (List.replicate n M.c0) := by
  have hr : ∀ x ∈ prc (List.replicate n M.c0), x = Value.int .i64 0 := by
    intro x hx
    unfold prc at hx
    obtain ⟨p, hp, h⟩ := List.mem_flatMap.1 hx
    rw [List.eq_of_mem_replicate hp] at h
    simpa [cvs, M.c0] using h
  apply List.ext_getElem
  · rw [prc_len]; simp [madeCells]
  · intro i h1 h2
    rw [hr _ (List.getElem_mem h2)]
    have : i % 5 = 0 ∨ i % 5 = 1 ∨ i % 5 = 2 ∨ i % 5 = 3 ∨ i % 5 = 4 := by omega
    rcases this with h | h | h | h | h <;> simp [madeCells, h]
theorem OwnsC.all {t : TypeId} {w : World} {base n : Nat} {a : Option Addr} {cs : List M.Cl} (h : OwnsC t w base a n n cs) (h0 : 0 < n) : ∃ g, a = some ⟨g, 0, none⟩ ∧ base ≤ g ∧ Lies w g (prc cs) := by
  obtain ⟨hl, _, h⟩ := h
  rcases h with ⟨e, _⟩ | ⟨g', c, cur, e, hb, hh, hn, _, hs, ht⟩
  · simp at e; omega
  · simp only [Value.slice.injEq] at e
    obtain ⟨rfl, -, rfl⟩ := e
    have hcur : cur.toList = prc cs := by
      have hlen : cur.toList.length = (prc cs).length := by rw [Array.length_toList, hs, prc_len, hl]
      rw [← ht, List.take_of_length_le (by rw [hlen, prc_len, hl]; exact Nat.le_refl _)]
    refine ⟨g', rfl, hb, fun i => by rw [← hcur]; simp [World.cell?, hh], fun i => by simp [World.frozen?, hh], ?_⟩
    rcases Nat.lt_or_ge g' w.heap.size with hl | hl
    · exact hl
    · rw [Array.getElem?_eq_none hl] at hh; simp at hh
theorem Lies.seesC {w : World} {g n : Nat} {cs : List M.Cl} (h : Lies w g (prc cs)) (hl : cs.length = n) (hb : n ≤ 1048576) : SeesC w (some ⟨g, 0, none⟩) n n cs :=
  ⟨hl, Nat.le_refl _, by omega, fun e => by simp at e, .inr ⟨g, 0, rfl, fun i hi j hj => by
    rw [Nat.zero_add, h.at, prc_get cs (by omega) hj]⟩⟩
theorem prc_setL (xs : List M.Cl) {i : Nat} (c : M.Cl) (h : i < xs.length) : spl (prc xs) (i * 5) (cvs c) = prc (xs.set i c) := by
  have := prc_set xs [] c h
  rwa [List.append_nil, List.append_nil] at this
theorem info_claimX : (Try.prog.info? 37).map (fun i => (i.zero, i.size, i.bytes)) = some (some (.agg #[.int .i64 0, .int .i64 0, .int .i64 0, .int .i64 0, .int .i64 0]), 5, 40) := by kernel_rfl
set_option maxRecDepth 10000 in
theorem open_claims {H : Type} {enc : TypeId × Value → H} {W : World} {d : DataW H} {p : List MemPlace} {a : Option Addr} {n c : Nat} (h : DataW.Trod enc Try.prog W 0 (fun _ => true) true 44 (.slice a n c) d p) : ∃ cs, SeesC W a n c cs := by
  obtain ⟨fuel, hf⟩ := h
  rcases Go.Deep.open_slice Try.underlying44 hf with ⟨hcs, _⟩ | ⟨x, l, cp, m, nn, D, Pl, hcs, _, hl, hm, hmm, _, hx⟩
  · simp [Value.cells] at hcs
    obtain ⟨rfl, rfl, rfl⟩ := hcs
    exact ⟨[], rfl, by omega, by omega, fun _ => ⟨rfl, rfl⟩, .inl rfl⟩
  · simp [Value.cells] at hcs
    obtain ⟨rfl, rfl, rfl⟩ := hcs
    have hmc : m = c := by simpa using hmm
    subst hmc
    have ce : Try.prog.cellsOf 29 = 5 := by kernel_rfl
    have each : ∀ i, i < m → ∃ q : M.Cl, ∀ j, j < 5 → W.cell? (x.add (i * 5 + j)) = (cvs q)[j]? := by
      intro i hi
      obtain ⟨cs', h1, h2⟩ := hx i hi
      rw [ce] at h1
      obtain ⟨_, hlen, hcell⟩ := World.cells?_some h1
      have P0 := part_all h2 5 (by omega)
      have PS := P0.field Try.underlying29 0 _ rfl 2 (by kernel_rfl) (by decide)
      have PE := P0.field Try.underlying29 1 _ rfl 2 (by kernel_rfl) (by decide)
      have PN := P0.field Try.underlying29 2 _ rfl 1 (by kernel_rfl) (by decide)
      obtain ⟨x0, e0, -⟩ := (PS.field Try.underlying27 0 _ rfl 1 (by kernel_rfl) (by decide)).int Try.underlying2
      obtain ⟨x1, e1, -⟩ := (PS.field Try.underlying27 1 _ rfl 1 (by kernel_rfl) (by decide)).int Try.underlying2
      obtain ⟨x2, e2, -⟩ := (PE.field Try.underlying27 0 _ rfl 1 (by kernel_rfl) (by decide)).int Try.underlying2
      obtain ⟨x3, e3, -⟩ := (PE.field Try.underlying27 1 _ rfl 1 (by kernel_rfl) (by decide)).int Try.underlying2
      obtain ⟨x4, e4, -⟩ := PN.int Try.underlying2
      refine ⟨⟨(x0, x1), (x2, x3), x4⟩, fun j hj => ?_⟩
      have hc := hcell j (by omega)
      rw [add_add] at hc
      rw [hc]
      have hj5 : j = 0 ∨ j = 1 ∨ j = 2 ∨ j = 3 ∨ j = 4 := by omega
      rcases hj5 with rfl | rfl | rfl | rfl | rfl
      · exact e0
      · exact e1
      · exact e2
      · exact e3
      · exact e4
    haveI : Inhabited M.Cl := ⟨M.c0⟩
    obtain ⟨q, hq⟩ := Go.Deep.choose_lt each
    refine ⟨(List.range n).map q, by simp, hl, (by unfold maxLen at hm; omega), (fun h => by cases h), ?_⟩
    by_cases h0 : n = 0
    · exact .inl h0
    · obtain ⟨b, off, spot⟩ := x
      have hspot : spot = none := by
        have := hq 0 (by omega) 0 (by omega)
        simpa [Addr.add] using World.cell?_spot (this.trans rfl)
      subst hspot
      refine .inr ⟨b, off, rfl, fun i hi j hj => ?_⟩
      have hg : ((List.range n).map q).getD i M.c0 = q i := by rw [List.getD_eq_getElem?_getD]; simp [hi]
      rw [hg]
      have := hq i (by omega) j hj
      rw [Go.WideShapes.add_plain, ← Nat.add_assoc] at this
      exact this
set_option maxHeartbeats 4000000 in
set_option maxRecDepth 100000 in
theorem toClaimS_any {a : Option Addr} {n c : Nat} {cs : List M.Cl} (w : World) (hz : SeesC w a n c cs) (hb : n ≤ 1048576) :
    Calls Try.prog 16 #[.slice a n c] w fun e w' => ∃ a', e = .returned (.slice a' n n) ∧ SeesC w' a' n n cs ∧ Below w.heap.size w w' := by
  have HZ : Hid (SeesC w a n c cs) := hz
  have hcI : (n : Int) ≤ c := by have := hz.le; omega
  have hcl : cs.length = n := hz.len
  clear hz
  obtain ⟨i0, hi, hz0, hz1, hz2⟩ := info_parts info_claimX
  go_enter Try.func16, Try.ntmps16
  go_wp2_with (at_make; refine wpList_make_full _ rfl _ _ 47 rfl w.heap.size 37 i0 (.agg #[.int .i64 0, .int .i64 0, .int .i64 0, .int .i64 0, .int .i64 0]) 5 Try.underlying47 hi hz0 hz1 .i64 .i64 _ _ n rfl rfl rfl rfl (by rw [hz2]; omega) (by unfold maxLen; omega) (Nat.le_refl _) ?_)
  intro w1 hown hg
  have ho : OwnsC 37 w1 w.heap.size (some ⟨w.heap.size, 0, none⟩) n n (List.replicate n M.c0) := ⟨by simp, by rw [← made_prc]; exact hown⟩
  have HL : Hid (0 < n → Lies w1 w.heap.size (prc (List.replicate n M.c0))) := fun h0 => by
    obtain ⟨g, hge, _, hl⟩ := ho.all h0
    simp only [Option.some.injEq, Addr.mk.injEq, and_true] at hge
    subst hge; exact hl
  have HB : Hid (Below w.heap.size w w1) := below_grown hg
  have HRD : Hid (cs.take 0 ++ (List.replicate n M.c0).drop 0 = List.replicate n M.c0) := by show _ = _; simp
  clear hown hg hi hz0 hz1 hz2 ho
  go_wp2
  go_loopw [4] (fun i wr => ∃ j : Nat, j ≤ n ∧ i = .int .i64 j ∧ (0 < n → Lies wr w.heap.size (prc (cs.take j ++ (List.replicate n M.c0).drop j))) ∧ Below w.heap.size w wr) (fun i _ => n - (intOf i).toNat)
  case atStart => exact ⟨0, by omega, rfl, fun h => by rw [HRD.out]; exact HL.out h, HB.out⟩
  case round =>
    obtain ⟨j, hj, rfl, hl1, hb1⟩ := hrel
    have HL1 : Hid (0 < n → Lies wr w.heap.size (prc (cs.take j ++ (List.replicate n M.c0).drop j))) := hl1
    have HB1 : Hid (Below w.heap.size w wr) := hb1
    clear hl1 hb1 HL HB HRD
    by_cases hlt : j < n
    · obtain ⟨b1, o1, rfl, hc1⟩ := (HZ.out.below HB1.out).at (by omega)
      have hA := hc1 j hlt
      have hI : (j : Int) < (n : Int) := by omega
      have C1 := toClaim_any (cs.getD j M.c0)
      have HNX : Hid (spl (prc (cs.take j ++ (List.replicate n M.c0).drop j)) (j * 5) (cvs (cs.getD j M.c0)) = prc (cs.take (j + 1) ++ (List.replicate n M.c0).drop (j + 1))) := by
        show _ = _
        rw [prc_setL _ _ (by rw [List.length_append, List.length_take, List.length_drop, List.length_replicate]; omega)]
        congr 1
        rw [List.set_append_right _ _ (by rw [List.length_take]; omega), List.length_take, show j - min j cs.length = 0 by omega, List.drop_eq_getElem_cons (by simpa using hlt), List.set_cons_zero, List.take_succ_eq_append_getElem (by omega), List.append_assoc]
        rw [show cs.getD j M.c0 = cs[j] by rw [List.getD_eq_getElem?_getD, List.getElem?_eq_getElem (by omega)]; rfl]
        rfl
      have HLN : Hid ((prc (cs.take j ++ (List.replicate n M.c0).drop j)).length = n * 5) := by
        show _ = _
        rw [prc_len, List.length_append, List.length_take, List.length_drop, List.length_replicate, hcl, show min j n + (n - j) = n by omega]
      generalize cs.getD j M.c0 = cq at hA C1 HNX
      have HL2 := HL1.out (by omega)
      generalize prc (cs.take j ++ (List.replicate n M.c0).drop j) = P0 at HL2 HNX HLN
      obtain ⟨⟨x, y⟩, ⟨x', y'⟩, n'⟩ := cq
      dsimp only [clv] at C1
      have a0 : wr.cell? ⟨b1, o1 + j * 5, none⟩ = some (.int .i64 x) := hA 0 (by omega)
      have a1 : wr.cell? ⟨b1, o1 + j * 5 + 1, none⟩ = some (.int .i64 y) := hA 1 (by omega)
      have a2 : wr.cell? ⟨b1, o1 + j * 5 + 2, none⟩ = some (.int .i64 x') := hA 2 (by omega)
      have a3 : wr.cell? ⟨b1, o1 + j * 5 + 3, none⟩ = some (.int .i64 y') := hA 3 (by omega)
      have a4 : wr.cell? ⟨b1, o1 + j * 5 + 4, none⟩ = some (.int .i64 n') := hA 4 (by omega)
      clear hc1 hA
      go_wp2_with fail
      refine (C1 _).mono ?_
      rintro e w2 ⟨rfl, hb2⟩
      have LP : Hid (Lies w2 w.heap.size P0) := HL2.belowS hb2
      have HB2 : Hid (Below w.heap.size w w2) := HB1.out.trans (hb2.mono HB1.out.size)
      have tA : w2.there w.heap.size (j * 5) (cvs (⟨(x, y), (x', y'), n'⟩ : M.Cl)).toArray.size := LP.out.there _ 5 (by rw [HLN.out]; omega)
      have iA : (Try.prog.info? 37).map (·.size) = some (cvs (⟨(x, y), (x', y'), n'⟩ : M.Cl)).toArray.size := (show (Try.prog.info? 37).map (·.size) = some 5 by kernel_rfl)
      have oA : (cvs (⟨(x, y), (x', y'), n'⟩ : M.Cl)).toArray.all (·.oneCell') = true := all_oneCell_toArray (five_ints _)
      clear hb2 HL2 C1 a0 a1 a2 a3 a4
      go_wp2_with (with_reducible refine wpList_stopn ?_ ?_; rfl)
      show wpList _ _ _ _ _ _
      with_reducible refine wpList_store_mid ?_ 37 (.tmp 21) (.tmp 20) ?_ w.heap.size (j * 5) (cvs (⟨(x, y), (x', y'), n'⟩ : M.Cl)).toArray ?_ ?_ tA iA oA ?_
      exact rfl
      exact rfl
      exact rfl
      exact rfl
      have LP3 : Hid (Lies (w2.setCells w.heap.size (j * 5) (cvs ⟨(x, y), (x', y'), n'⟩)) w.heap.size (prc (cs.take (j + 1) ++ (List.replicate n M.c0).drop (j + 1)))) := by
        have := LP.out.setCells (cvs ⟨(x, y), (x', y'), n'⟩) (j * 5) (by rw [HLN.out]; simp [cvs]; omega)
        rwa [HNX.out] at this
      have HB3 : Hid (Below w.heap.size w (w2.setCells w.heap.size (j * 5) (cvs ⟨(x, y), (x', y'), n'⟩))) := below_setCells _ _ HB2.out (Nat.le_refl _)
      show wpList _ _ _ _ _ (w2.setCells w.heap.size (j * 5) (cvs ⟨(x, y), (x', y'), n'⟩))
      clear tA iA oA LP HB2
      generalize w2.setCells w.heap.size (j * 5) (cvs ⟨(x, y), (x', y'), n'⟩) = w3 at *
      go_wp2
      go_roundw
      case rel => exact ⟨j + 1, by omega, by go_num, fun _ => LP3.out, HB3.out⟩
      case measure => simp [intOf]; omega
    · have hjn : j = n := by omega
      subst hjn
      go_wp2
      go_ret
      refine ⟨_, rfl, ?_, HB1.out⟩
      by_cases h0 : j = 0
      · exact ⟨hcl, Nat.le_refl _, by omega, fun e => by simp at e, .inl h0⟩
      · have := HL1.out (by omega)
        rw [List.drop_of_length_le (by simp), List.append_nil, List.take_of_length_le (by omega)] at this
        exact this.seesC hcl hb
theorem szClaimS_any (a : Option Addr) (n c : Nat) (k : Int) (w : World) (hn : (n : Int) ≤ 9223372036854775807) (h0 : 0 ≤ k) (hk : k ≤ 9223372036854775807) :
    Calls Try.prog 14 #[.slice a n c, .int .i64 k] w fun e w' => e = .returned (.int .i64 (if k - (n : Int) < 0 then -1 else k - n)) ∧ w' = w := by
  by_cases h : k - (n : Int) < 0
  · rw [if_pos h]
    go_enter Try.func14, Try.ntmps14
    go_wp2
    go_ret
    exact ⟨rfl, rfl⟩
  · rw [if_neg h]
    go_enter Try.func14, Try.ntmps14
    go_wp2
    go_ret
    exact ⟨rfl, rfl⟩
end Go.Proofs.Ytjeoenieoejolaj
