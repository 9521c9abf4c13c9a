/- Whether states are a run, in the model's text. -/
import Derived.Test.YtjeoenieoejolaiMaM
import Derived.Test.YtjeoenieoejolaiMaB
namespace Go.Proofs.Ytjeoenieoejolai
open Go.RowKit

theorem M.isRn_true {m : M.Mc} {p : Int × Int} {ps : List (Int × Int)} {o : Bool} : ∀ {k : Nat}, M.isRn m p ps o k = true ↔ o = true ∧ ∀ i, i < k → ps.getD i (0, 0) = m.rn p i
  | 0 => by simp [M.isRn]
  | k + 1 => by
    unfold M.isRn
    rw [Bool.and_eq_true, M.isRn_true, Bool.and_eq_true, decide_eq_true_iff, decide_eq_true_iff]
    constructor
    · rintro ⟨⟨ho, h⟩, h1, h2⟩
      refine ⟨ho, fun i hi => ?_⟩
      by_cases e : i = k
      · subst e; exact Prod.ext h1 h2
      · exact h i (by omega)
    · rintro ⟨ho, h⟩
      have := h k (by omega)
      exact ⟨⟨ho, fun i hi => h i (by omega)⟩, by rw [this], by rw [this]⟩
/-- the first k states are right, and each but the first is what comes next -/
def M.Ok (m : M.Mc) (ps : List (Int × Int)) (k : Nat) : Prop := ∀ i, i < k → M.sOk (ps.getD i (0, 0)) = true ∧ (0 < i → ps.getD i (0, 0) = m.nx (ps.getD (i - 1) (0, 0)))
theorem M.ok_rn {m : M.Mc} {ps : List (Int × Int)} {k : Nat} (h : M.Ok m ps k) : ∀ i, i < k → ps.getD i (0, 0) = m.rn (ps.getD 0 (0, 0)) i
  | 0, _ => rfl
  | i + 1, hi => by
    rw [(h (i + 1) hi).2 (by omega), show i + 1 - 1 = i by omega, M.ok_rn h i (by omega)]; rfl
theorem M.trOk_yes {m : M.Mc} {ps : List (Int × Int)} (h0 : 0 < ps.length) (h : M.Ok m ps ps.length) : M.trOk m ps = true :=
  M.isRn_true.2 ⟨(h 0 h0).1, M.ok_rn h⟩
theorem M.trOk_no {m : M.Mc} {ps : List (Int × Int)} {k : Nat} (hk : k < ps.length) (h : M.sOk (ps.getD k (0, 0)) = false ∨ (0 < k ∧ ps.getD k (0, 0) ≠ m.nx (ps.getD (k - 1) (0, 0)))) : M.trOk m ps = false := by
  cases ht : M.trOk m ps with
  | false => rfl
  | true =>
    obtain ⟨ho, hr⟩ := M.isRn_true.1 ht
    exfalso
    rcases h with h | ⟨h0, h⟩
    · rw [hr k hk, M.sOk_rn m ho] at h; cases h
    · apply h
      rw [hr k hk, hr (k - 1) (by omega)]
      obtain ⟨j, rfl⟩ : ∃ j, k = j + 1 := ⟨k - 1, by omega⟩
      rfl
theorem M.both {x p y r : Int} (h : false = !(decide (x = p) && decide (y = r))) : x = p ∧ y = r := by
  by_cases h1 : x = p <;> by_cases h2 : y = r <;> simp_all
set_option maxHeartbeats 4000000 in
set_option maxRecDepth 10000 in
theorem specTraceOk_any {la : Option Addr} {n lc : Nat} {ps : List (Int × Int)} (m : M.Mc) (w : World) (hz : SeesQ w la n lc ps) :
    Calls Try.prog 21 #[mcv m, .slice la n lc] w fun e w' => e = .returned (.bool (M.traceOk m ps)) ∧ Below w.heap.size w w' := by
  have HZ : Hid (SeesQ w la n lc ps) := hz
  have hnb : (n : Int) ≤ 9223372036854775807 := by have := hz.big; have := hz.le; omega
  have hlen := hz.len
  have hcI : (n : Int) ≤ lc := by have := hz.le; omega
  have C1 := specMachineOk_any m
  by_cases hok : m.ok = true ∧ 1 ≤ n ∧ n ≤ 1001
  · obtain ⟨h1, h2, h3⟩ := hok
    rw [M.traceOk_yes h1 (by omega) (by omega)]
    have CN : Hid (∀ (q : Int × Int) (w : World), M.sOk q = true → Calls Try.prog 31 #[mcv m, stv q] w fun e w' => e = .returned (stv (m.nx q)) ∧ Below w.heap.size w w') := fun q w hq => specNext_any m q w h1 hq
    rw [h1] at C1
    have HY : Hid (M.Ok m ps n → M.trOk m ps = true) := fun h => M.trOk_yes (by omega) (by rw [hlen]; exact h)
    have HN : Hid (∀ k, k < n → (M.sOk (ps.getD k (0, 0)) = false ∨ (0 < k ∧ ps.getD k (0, 0) ≠ m.nx (ps.getD (k - 1) (0, 0)))) → M.trOk m ps = false) := fun k hk h => M.trOk_no (by omega) h
    have HP0 : Hid (∃ m0, m0 = m) := ⟨_, rfl⟩
    obtain ⟨m0, hm0⟩ := HP0.out
    rw [← hm0] at HY HN
    rw [show (fun (e : Ending) (w' : World) => e = Ending.returned (.bool (M.trOk m ps)) ∧ Below w.heap.size w w') = (fun e w' => e = Ending.returned (.bool (M.trOk m0 ps)) ∧ Below w.heap.size w w') by rw [hm0]]
    have CN0 : Hid (∀ (q : Int × Int) (w : World), M.sOk q = true → Calls Try.prog 31 #[mcv m, stv q] w fun e w' => e = .returned (stv (m0.nx q)) ∧ Below w.heap.size w w') := by rw [hm0]; exact CN.out
    clear CN hz hlen h1 HP0 hm0
    obtain ⟨⟨a, b, c, d, f, k⟩, ⟨a', b', c', d', f', k'⟩⟩ := m
    dsimp only [mcv, stv] at C1 CN0 ⊢
    have i1 : ¬ (n : Int) < 1 := by omega
    have i2 : ¬ 1001 < (n : Int) := by omega
    go_enter Try.func21, Try.ntmps21
    go_wp2_with fail
    refine (C1 _).mono ?_
    rintro e w1 ⟨rfl, hb1⟩
    have HB1 : Hid (Below w.heap.size w w1) := ((Below.refl _ _).alloc (Nat.le_refl _) _).trans (hb1.mono (by simp))
    have HM : Hid (∀ i, w1.cell? ⟨w.heap.size, i, none⟩ = ((#[.int .i64 a, .int .i64 b, .int .i64 c, .int .i64 d, .int .i64 f, .int .i64 k, .int .i64 a', .int .i64 b', .int .i64 c', .int .i64 d', .int .i64 f', .int .i64 k'] : Array Value))[i]?) := fun i => (hb1.cell (p := ⟨w.heap.size, i, none⟩) (by simp)).trans (World.cell?_alloc_new _ _ _ _)
    have HS1 : Hid (w.heap.size < w1.heap.size) := by have := hb1.size; simp at this; show _ < _; omega
    clear hb1 C1
    go_wp2
    go_loopw [5] (fun i wr => ∃ (j : Nat), j ≤ n ∧ i = .int .i64 j ∧ M.Ok m0 ps j ∧ Below w.heap.size w wr ∧ w.heap.size < wr.heap.size ∧ (∀ i, wr.cell? ⟨w.heap.size, i, none⟩ = ((#[.int .i64 a, .int .i64 b, .int .i64 c, .int .i64 d, .int .i64 f, .int .i64 k, .int .i64 a', .int .i64 b', .int .i64 c', .int .i64 d', .int .i64 f', .int .i64 k'] : Array Value))[i]?)) (fun i _ => n - (intOf i).toNat)
    case atStart => exact ⟨0, by omega, rfl, fun i h => by omega, HB1.out, HS1.out, HM.out⟩
    case round =>
      obtain ⟨j, hj, rfl, hok1, hb2, hs2, hm2⟩ := hrel
      have HOk : Hid (M.Ok m0 ps j) := hok1
      have HB2 : Hid (Below w.heap.size w wr) := hb2
      have HS2 : Hid (w.heap.size < wr.heap.size) := hs2
      have HM1 : Hid (∀ i, wr.cell? ⟨w.heap.size, i, none⟩ = ((#[.int .i64 a, .int .i64 b, .int .i64 c, .int .i64 d, .int .i64 f, .int .i64 k, .int .i64 a', .int .i64 b', .int .i64 c', .int .i64 d', .int .i64 f', .int .i64 k'] : Array Value))[i]?) := hm2
      clear hok1 hb2 hs2 hm2 HM HB1 HS1
      by_cases hlt : j < n
      · obtain ⟨b1, o1, rfl, hc1⟩ := (HZ.out.below HB2.out).at (by omega)
        obtain ⟨e1, e2⟩ := hc1 j hlt
        have HC1 : Hid (∀ i, i < n → wr.cell? ⟨b1, o1 + i * 2, none⟩ = some (.int .i64 (ps.getD i (0, 0)).1) ∧ wr.cell? ⟨b1, o1 + i * 2 + 1, none⟩ = some (.int .i64 (ps.getD i (0, 0)).2)) := hc1
        have hI : (j : Int) < (n : Int) := by omega
        have CS := specStateOk_any (ps.getD j (0, 0))
        have HNj := HN.out j hlt
        have HNh : Hid (M.sOk (ps.getD j (0, 0)) = false ∨ (0 < j ∧ ps.getD j (0, 0) ≠ m0.nx (ps.getD (j - 1) (0, 0))) → M.trOk m0 ps = false) := HNj
        clear hc1 HNj
        cases hsk : M.sOk (ps.getD j (0, 0)) with
        | false =>
          rw [hsk] at CS
          have HR : Hid (M.trOk m0 ps = false) := HNh.out (.inl hsk)
          generalize ps.getD j (0, 0) = q at e1 e2 CS
          obtain ⟨x, y⟩ := q
          dsimp only [stv] at e1 e2 CS
          clear hsk HNh
          have HK : Hid (∀ W, Below wr.heap.size wr W → W.cell? ⟨b1, o1 + j * 2, none⟩ = some (.int .i64 x) ∧ W.cell? ⟨b1, o1 + j * 2 + 1, none⟩ = some (.int .i64 y)) := fun W h => by
            have hl : b1 < wr.heap.size := World.block_lt_of_cell? wr ⟨b1, o1 + j * 2, none⟩ e1
            exact ⟨(h.cell (p := ⟨b1, o1 + j * 2, none⟩) hl).trans e1, (h.cell (p := ⟨b1, o1 + j * 2 + 1, none⟩) hl).trans e2⟩
          have hb0 : Below wr.heap.size wr wr.drew := (Below.refl _ _).drew
          have CSi : ∀ wc, Below wr.heap.size wr wc → Calls Try.prog 30 #[.agg #[.int .i64 x, .int .i64 y]] wc fun e w' => e = .returned (.bool false) ∧ Below wr.heap.size wr w' := fun wc h => (CS wc).mono fun _ _ hh => ⟨hh.1, h.trans (hh.2.mono h.size)⟩
          go_wp2
          refine wp_region_noPanic ?_
          refine wp_region_held_drew (S := fun W => W.cell? ⟨b1, o1 + j * 2, none⟩ = some (.int .i64 x) ∧ W.cell? ⟨b1, o1 + j * 2 + 1, none⟩ = some (.int .i64 y)) (by kernel_rfl) (HK.out _ hb0) (fun hHeld => ?_)
          refine wpAnyH_take (i := 0) (v := .slice (some ⟨b1, o1, none⟩) n lc) rfl (by kernel_rfl) (by kernel_rfl) (by kernel_rfl) (fun _ _ _ h => h) (Or.inl ⟨by kernel_rfl, ?_⟩) (by assumption) ?_
          · intro wq hSq; go_simp
          try simp only [Act.put]
          refine wpAnyH_take (i := 1) (v := .int .i64 j) rfl (by kernel_rfl) (by kernel_rfl) (by kernel_rfl) (fun _ _ _ h => h) (Or.inl ⟨by kernel_rfl, ?_⟩) (by assumption) ?_
          · intro wq hSq; go_simp
          try simp only [Act.put]
          refine wpAnyH_take (i := 2) (v := .pointer (some ⟨b1, o1 + j * 2, none⟩)) rfl (by kernel_rfl) (by kernel_rfl) (by kernel_rfl) (fun _ _ _ h => h) (Or.inl ⟨by kernel_rfl, ?_⟩) (by assumption) ?_
          · intro wq hSq; go_simp
          try simp only [Act.put]
          refine wpAnyH_take (i := 3) (v := .agg #[.int .i64 x, .int .i64 y]) rfl (by kernel_rfl) (by kernel_rfl) (by kernel_rfl) (fun _ _ _ h => h) (Or.inl ⟨by kernel_rfl, ?_⟩) (by assumption) ?_
          · intro wq hSq; go_simp
          try simp only [Act.put]
          refine wpAnyH_ready (rs := [4]) (by kernel_rfl) (by simp) ?_
          refine AllReadyH.cons rfl (fun K hK => ?_) AllReadyH.nil
          go_simp
          refine (CSi _ hb0).mono ?_
          rintro e W2 ⟨rfl, hb2⟩
          go_simp
          refine hK.out _ _ ?_ (fun hHeld => ?_)
          · exact HK.out _ hb2
          clear hK K
          try simp only [Act.put]
          refine wpAnyH_take (i := 5) (v := .bool true) rfl (by kernel_rfl) (by kernel_rfl) (by kernel_rfl) (fun _ _ _ h => h) (Or.inl ⟨by kernel_rfl, ?_⟩) (by assumption) ?_
          · intro wq hSq; go_simp
          try simp only [Act.put]
          refine wpAnyH_take (i := 6) (v := .bool true) rfl (by kernel_rfl) (by kernel_rfl) (by kernel_rfl) (fun _ _ _ h => h) (Or.inl ⟨by kernel_rfl, ?_⟩) (by assumption) ?_
          · intro wq hSq; go_simp
          try simp only [Act.put]
          refine wpAnyH_take (i := 7) (v := undef) rfl (by kernel_rfl) (by kernel_rfl) (by kernel_rfl) (fun _ _ _ h => h) (Or.inr ⟨by kernel_rfl, rfl⟩) (by assumption) ?_
          try simp only [Act.put]
          refine wpAnyH_take (i := 8) (v := undef) rfl (by kernel_rfl) (by kernel_rfl) (by kernel_rfl) (fun _ _ _ h => h) (Or.inr ⟨by kernel_rfl, rfl⟩) (by assumption) ?_
          try simp only [Act.put]
          refine wpAnyH_take (i := 9) (v := undef) rfl (by kernel_rfl) (by kernel_rfl) (by kernel_rfl) (fun _ _ _ h => h) (Or.inr ⟨by kernel_rfl, rfl⟩) (by assumption) ?_
          try simp only [Act.put]
          refine wpAnyH_take (i := 10) (v := undef) rfl (by kernel_rfl) (by kernel_rfl) (by kernel_rfl) (fun _ _ _ h => h) (Or.inr ⟨by kernel_rfl, rfl⟩) (by assumption) ?_
          try simp only [Act.put]
          refine wpAnyH_take (i := 11) (v := undef) rfl (by kernel_rfl) (by kernel_rfl) (by kernel_rfl) (fun _ _ _ h => h) (Or.inr ⟨by kernel_rfl, rfl⟩) (by assumption) ?_
          try simp only [Act.put]
          refine wpAnyH_take (i := 12) (v := undef) rfl (by kernel_rfl) (by kernel_rfl) (by kernel_rfl) (fun _ _ _ h => h) (Or.inr ⟨by kernel_rfl, rfl⟩) (by assumption) ?_
          try simp only [Act.put]
          refine wpAnyH_take (i := 13) (v := undef) rfl (by kernel_rfl) (by kernel_rfl) (by kernel_rfl) (fun _ _ _ h => h) (Or.inr ⟨by kernel_rfl, rfl⟩) (by assumption) ?_
          try simp only [Act.put]
          refine wpAnyH_take (i := 14) (v := undef) rfl (by kernel_rfl) (by kernel_rfl) (by kernel_rfl) (fun _ _ _ h => h) (Or.inr ⟨by kernel_rfl, rfl⟩) (by assumption) ?_
          try simp only [Act.put]
          refine wpAnyH_take (i := 15) (v := undef) rfl (by kernel_rfl) (by kernel_rfl) (by kernel_rfl) (fun _ _ _ h => h) (Or.inr ⟨by kernel_rfl, rfl⟩) (by assumption) ?_
          try simp only [Act.put]
          refine wpAnyH_take (i := 16) (v := undef) rfl (by kernel_rfl) (by kernel_rfl) (by kernel_rfl) (fun _ _ _ h => h) (Or.inr ⟨by kernel_rfl, rfl⟩) (by assumption) ?_
          try simp only [Act.put]
          refine wpAnyH_take (i := 17) (v := undef) rfl (by kernel_rfl) (by kernel_rfl) (by kernel_rfl) (fun _ _ _ h => h) (Or.inr ⟨by kernel_rfl, rfl⟩) (by assumption) ?_
          try simp only [Act.put]
          refine wpAnyH_take (i := 18) (v := undef) rfl (by kernel_rfl) (by kernel_rfl) (by kernel_rfl) (fun _ _ _ h => h) (Or.inr ⟨by kernel_rfl, rfl⟩) (by assumption) ?_
          try simp only [Act.put]
          refine wpAnyH_take (i := 19) (v := undef) rfl (by kernel_rfl) (by kernel_rfl) (by kernel_rfl) (fun _ _ _ h => h) (Or.inr ⟨by kernel_rfl, rfl⟩) (by assumption) ?_
          try simp only [Act.put]
          refine wpAnyH_take (i := 20) (v := undef) rfl (by kernel_rfl) (by kernel_rfl) (by kernel_rfl) (fun _ _ _ h => h) (Or.inr ⟨by kernel_rfl, rfl⟩) (by assumption) ?_
          try simp only [Act.put]
          refine wpAnyH_take (i := 21) (v := undef) rfl (by kernel_rfl) (by kernel_rfl) (by kernel_rfl) (fun _ _ _ h => h) (Or.inr ⟨by kernel_rfl, rfl⟩) (by assumption) ?_
          try simp only [Act.put]
          refine wpAnyH_take (i := 22) (v := undef) rfl (by kernel_rfl) (by kernel_rfl) (by kernel_rfl) (fun _ _ _ h => h) (Or.inr ⟨by kernel_rfl, rfl⟩) (by assumption) ?_
          try simp only [Act.put]
          refine wpAnyH_take (i := 23) (v := .bool true) rfl (by kernel_rfl) (by kernel_rfl) (by kernel_rfl) (fun _ _ _ h => h) (Or.inl ⟨by kernel_rfl, ?_⟩) (by assumption) ?_
          · intro wq hSq; go_simp
          try simp only [Act.put]
          refine wpAnyH_done (by kernel_rfl) ?_ _
          refine NoPanic.normal ?_
          go_simp
          go_wp2
          go_ret
          exact ⟨by rw [HR.out]; rfl, HB2.out.trans (hb2.mono HB2.out.size)⟩
        | true =>
          rw [hsk] at CS
          have HSj : Hid (M.sOk (ps.getD j (0, 0)) = true) := hsk
          by_cases hj0 : j = 0
          · have HOk2 : Hid (M.Ok m0 ps (j + 1)) := fun i hi => by
              obtain rfl : i = j := by omega
              exact ⟨HSj.out, fun h => by omega⟩
            have i0 : ¬ (0 : Int) < (j : Int) := by omega
            generalize ps.getD j (0, 0) = q at e1 e2 CS
            obtain ⟨x, y⟩ := q
            dsimp only [stv] at e1 e2 CS
            clear hsk HNh HSj hj0
            have HK : Hid (∀ W, Below wr.heap.size wr W → W.cell? ⟨b1, o1 + j * 2, none⟩ = some (.int .i64 x) ∧ W.cell? ⟨b1, o1 + j * 2 + 1, none⟩ = some (.int .i64 y)) := fun W h => by
              have hl : b1 < wr.heap.size := World.block_lt_of_cell? wr ⟨b1, o1 + j * 2, none⟩ e1
              exact ⟨(h.cell (p := ⟨b1, o1 + j * 2, none⟩) hl).trans e1, (h.cell (p := ⟨b1, o1 + j * 2 + 1, none⟩) hl).trans e2⟩
            have hb0 : Below wr.heap.size wr wr.drew := (Below.refl _ _).drew
            have CSi : ∀ wc, Below wr.heap.size wr wc → Calls Try.prog 30 #[.agg #[.int .i64 x, .int .i64 y]] wc fun e w' => e = .returned (.bool true) ∧ Below wr.heap.size wr w' := fun wc h => (CS wc).mono fun _ _ hh => ⟨hh.1, h.trans (hh.2.mono h.size)⟩
            go_wp2
            refine wp_region_noPanic ?_
            refine wp_region_held_drew (S := fun W => W.cell? ⟨b1, o1 + j * 2, none⟩ = some (.int .i64 x) ∧ W.cell? ⟨b1, o1 + j * 2 + 1, none⟩ = some (.int .i64 y)) (by kernel_rfl) (HK.out _ hb0) (fun hHeld => ?_)
            refine wpAnyH_take (i := 0) (v := .slice (some ⟨b1, o1, none⟩) n lc) rfl (by kernel_rfl) (by kernel_rfl) (by kernel_rfl) (fun _ _ _ h => h) (Or.inl ⟨by kernel_rfl, ?_⟩) (by assumption) ?_
            · intro wq hSq; go_simp
            try simp only [Act.put]
            refine wpAnyH_take (i := 1) (v := .int .i64 j) rfl (by kernel_rfl) (by kernel_rfl) (by kernel_rfl) (fun _ _ _ h => h) (Or.inl ⟨by kernel_rfl, ?_⟩) (by assumption) ?_
            · intro wq hSq; go_simp
            try simp only [Act.put]
            refine wpAnyH_take (i := 2) (v := .pointer (some ⟨b1, o1 + j * 2, none⟩)) rfl (by kernel_rfl) (by kernel_rfl) (by kernel_rfl) (fun _ _ _ h => h) (Or.inl ⟨by kernel_rfl, ?_⟩) (by assumption) ?_
            · intro wq hSq; go_simp
            try simp only [Act.put]
            refine wpAnyH_take (i := 3) (v := .agg #[.int .i64 x, .int .i64 y]) rfl (by kernel_rfl) (by kernel_rfl) (by kernel_rfl) (fun _ _ _ h => h) (Or.inl ⟨by kernel_rfl, ?_⟩) (by assumption) ?_
            · intro wq hSq; go_simp
            try simp only [Act.put]
            refine wpAnyH_ready (rs := [4]) (by kernel_rfl) (by simp) ?_
            refine AllReadyH.cons rfl (fun K hK => ?_) AllReadyH.nil
            go_simp
            refine (CSi _ hb0).mono ?_
            rintro e W2 ⟨rfl, hb2⟩
            go_simp
            refine hK.out _ _ ?_ (fun hHeld => ?_)
            · exact HK.out _ hb2
            clear hK K
            try simp only [Act.put]
            refine wpAnyH_take (i := 5) (v := .bool false) rfl (by kernel_rfl) (by kernel_rfl) (by kernel_rfl) (fun _ _ _ h => h) (Or.inl ⟨by kernel_rfl, ?_⟩) (by assumption) ?_
            · intro wq hSq; go_simp
            try simp only [Act.put]
            refine wpAnyH_take (i := 6) (v := .bool false) rfl (by kernel_rfl) (by kernel_rfl) (by kernel_rfl) (fun _ _ _ h => h) (Or.inl ⟨by kernel_rfl, ?_⟩) (by assumption) ?_
            · intro wq hSq; go_simp
            try simp only [Act.put]
            refine wpAnyH_take (i := 7) (v := .int .i64 j) rfl (by kernel_rfl) (by kernel_rfl) (by kernel_rfl) (fun _ _ _ h => h) (Or.inl ⟨by kernel_rfl, ?_⟩) (by assumption) ?_
            · intro wq hSq; go_simp
            try simp only [Act.put]
            refine wpAnyH_take (i := 8) (v := .bool false) rfl (by kernel_rfl) (by kernel_rfl) (by kernel_rfl) (fun _ _ _ h => h) (Or.inl ⟨by kernel_rfl, ?_⟩) (by assumption) ?_
            · intro wq hSq; go_simp; omega
            try simp only [Act.put]
            refine wpAnyH_take (i := 9) (v := .bool false) rfl (by kernel_rfl) (by kernel_rfl) (by kernel_rfl) (fun _ _ _ h => h) (Or.inl ⟨by kernel_rfl, ?_⟩) (by assumption) ?_
            · intro wq hSq; go_simp
            try simp only [Act.put]
            refine wpAnyH_take (i := 10) (v := undef) rfl (by kernel_rfl) (by kernel_rfl) (by kernel_rfl) (fun _ _ _ h => h) (Or.inr ⟨by kernel_rfl, rfl⟩) (by assumption) ?_
            try simp only [Act.put]
            refine wpAnyH_take (i := 11) (v := undef) rfl (by kernel_rfl) (by kernel_rfl) (by kernel_rfl) (fun _ _ _ h => h) (Or.inr ⟨by kernel_rfl, rfl⟩) (by assumption) ?_
            try simp only [Act.put]
            refine wpAnyH_take (i := 12) (v := undef) rfl (by kernel_rfl) (by kernel_rfl) (by kernel_rfl) (fun _ _ _ h => h) (Or.inr ⟨by kernel_rfl, rfl⟩) (by assumption) ?_
            try simp only [Act.put]
            refine wpAnyH_take (i := 13) (v := undef) rfl (by kernel_rfl) (by kernel_rfl) (by kernel_rfl) (fun _ _ _ h => h) (Or.inr ⟨by kernel_rfl, rfl⟩) (by assumption) ?_
            try simp only [Act.put]
            refine wpAnyH_take (i := 14) (v := undef) rfl (by kernel_rfl) (by kernel_rfl) (by kernel_rfl) (fun _ _ _ h => h) (Or.inr ⟨by kernel_rfl, rfl⟩) (by assumption) ?_
            try simp only [Act.put]
            refine wpAnyH_take (i := 15) (v := undef) rfl (by kernel_rfl) (by kernel_rfl) (by kernel_rfl) (fun _ _ _ h => h) (Or.inr ⟨by kernel_rfl, rfl⟩) (by assumption) ?_
            try simp only [Act.put]
            refine wpAnyH_take (i := 16) (v := undef) rfl (by kernel_rfl) (by kernel_rfl) (by kernel_rfl) (fun _ _ _ h => h) (Or.inr ⟨by kernel_rfl, rfl⟩) (by assumption) ?_
            try simp only [Act.put]
            refine wpAnyH_take (i := 17) (v := undef) rfl (by kernel_rfl) (by kernel_rfl) (by kernel_rfl) (fun _ _ _ h => h) (Or.inr ⟨by kernel_rfl, rfl⟩) (by assumption) ?_
            try simp only [Act.put]
            refine wpAnyH_take (i := 18) (v := undef) rfl (by kernel_rfl) (by kernel_rfl) (by kernel_rfl) (fun _ _ _ h => h) (Or.inr ⟨by kernel_rfl, rfl⟩) (by assumption) ?_
            try simp only [Act.put]
            refine wpAnyH_take (i := 19) (v := undef) rfl (by kernel_rfl) (by kernel_rfl) (by kernel_rfl) (fun _ _ _ h => h) (Or.inr ⟨by kernel_rfl, rfl⟩) (by assumption) ?_
            try simp only [Act.put]
            refine wpAnyH_take (i := 20) (v := undef) rfl (by kernel_rfl) (by kernel_rfl) (by kernel_rfl) (fun _ _ _ h => h) (Or.inr ⟨by kernel_rfl, rfl⟩) (by assumption) ?_
            try simp only [Act.put]
            refine wpAnyH_take (i := 21) (v := undef) rfl (by kernel_rfl) (by kernel_rfl) (by kernel_rfl) (fun _ _ _ h => h) (Or.inr ⟨by kernel_rfl, rfl⟩) (by assumption) ?_
            try simp only [Act.put]
            refine wpAnyH_take (i := 22) (v := .bool false) rfl (by kernel_rfl) (by kernel_rfl) (by kernel_rfl) (fun _ _ _ h => h) (Or.inl ⟨by kernel_rfl, ?_⟩) (by assumption) ?_
            · intro wq hSq; go_simp
            try simp only [Act.put]
            refine wpAnyH_take (i := 23) (v := .bool false) rfl (by kernel_rfl) (by kernel_rfl) (by kernel_rfl) (fun _ _ _ h => h) (Or.inl ⟨by kernel_rfl, ?_⟩) (by assumption) ?_
            · intro wq hSq; go_simp
            try simp only [Act.put]
            refine wpAnyH_done (by kernel_rfl) ?_ _
            refine NoPanic.normal ?_
            go_simp
            go_wp2
            refine ⟨⟨j + 1, by omega, by simp, HOk2.out, HB2.out.trans (hb2.mono HB2.out.size), by have := HS2.out; have := hb2.size; omega, fun i => (hb2.cell (p := ⟨w.heap.size, i, none⟩) HS2.out).trans (HM1.out i)⟩, by simp [intOf]; omega⟩
          · obtain ⟨t, ht⟩ : ∃ t, j = t + 1 := ⟨j - 1, by omega⟩
            have HTt : Hid (j = t + 1) := ht
            have i0 : (0 : Int) < (j : Int) := by omega
            have htI : (t : Int) < (n : Int) := by omega
            have htn : t < n := by omega
            have htw : IntKind.i64.wrap ((j : Int) - 1) = (t : Int) := by rw [show (j : Int) - 1 = (t : Int) by omega]; exact wrap_smallm (by omega) (by omega)
            obtain ⟨e3, e4⟩ := HC1.out t htn
            have hst := (HOk.out t (by omega)).1
            have HOk2 : Hid (ps.getD j (0, 0) = m0.nx (ps.getD t (0, 0)) → M.Ok m0 ps (j + 1)) := fun hh i hi => by
              by_cases e : i = j
              · subst e; exact ⟨HSj.out, fun _ => by rw [HTt.out, show t + 1 - 1 = t by omega, ← HTt.out]; exact hh⟩
              · exact HOk.out i (by omega)
            have HR : Hid (¬ ps.getD j (0, 0) = m0.nx (ps.getD t (0, 0)) → M.trOk m0 ps = false) := fun hh => HNh.out (.inr ⟨by omega, by rw [show j - 1 = t by omega]; exact hh⟩)
            have CX := fun wc => CN0.out (ps.getD t (0, 0)) wc hst
            clear hsk HNh HSj hj0 ht hst
            generalize ps.getD j (0, 0) = q at e1 e2 CS HOk2 HR
            generalize ps.getD t (0, 0) = q' at e3 e4 CX HOk2 HR
            generalize m0.nx q' = z at CX HOk2 HR
            obtain ⟨x, y⟩ := q
            obtain ⟨x', y'⟩ := q'
            obtain ⟨p, r⟩ := z
            dsimp only [stv] at e1 e2 e3 e4 CS CX
            have HK : Hid (∀ W, Below wr.heap.size wr W → W.cell? ⟨b1, o1 + j * 2, none⟩ = some (.int .i64 x) ∧ W.cell? ⟨b1, o1 + j * 2 + 1, none⟩ = some (.int .i64 y) ∧ W.cell? ⟨b1, o1 + t * 2, none⟩ = some (.int .i64 x') ∧ W.cell? ⟨b1, o1 + t * 2 + 1, none⟩ = some (.int .i64 y') ∧ W.cell? ⟨w.heap.size, 0, none⟩ = some (.int .i64 a) ∧ W.cell? ⟨w.heap.size, 1, none⟩ = some (.int .i64 b) ∧ W.cell? ⟨w.heap.size, 2, none⟩ = some (.int .i64 c) ∧ W.cell? ⟨w.heap.size, 3, none⟩ = some (.int .i64 d) ∧ W.cell? ⟨w.heap.size, 4, none⟩ = some (.int .i64 f) ∧ W.cell? ⟨w.heap.size, 5, none⟩ = some (.int .i64 k) ∧ W.cell? ⟨w.heap.size, 6, none⟩ = some (.int .i64 a') ∧ W.cell? ⟨w.heap.size, 7, none⟩ = some (.int .i64 b') ∧ W.cell? ⟨w.heap.size, 8, none⟩ = some (.int .i64 c') ∧ W.cell? ⟨w.heap.size, 9, none⟩ = some (.int .i64 d') ∧ W.cell? ⟨w.heap.size, 10, none⟩ = some (.int .i64 f') ∧ W.cell? ⟨w.heap.size, 11, none⟩ = some (.int .i64 k')) := fun W h => by
              have hl : b1 < wr.heap.size := World.block_lt_of_cell? wr ⟨b1, o1 + j * 2, none⟩ e1
              exact ⟨(h.cell (p := ⟨b1, o1 + j * 2, none⟩) hl).trans e1, (h.cell (p := ⟨b1, o1 + j * 2 + 1, none⟩) hl).trans e2, (h.cell (p := ⟨b1, o1 + t * 2, none⟩) hl).trans e3, (h.cell (p := ⟨b1, o1 + t * 2 + 1, none⟩) hl).trans e4, (h.cell (p := ⟨w.heap.size, 0, none⟩) HS2.out).trans (HM1.out 0), (h.cell (p := ⟨w.heap.size, 1, none⟩) HS2.out).trans (HM1.out 1), (h.cell (p := ⟨w.heap.size, 2, none⟩) HS2.out).trans (HM1.out 2), (h.cell (p := ⟨w.heap.size, 3, none⟩) HS2.out).trans (HM1.out 3), (h.cell (p := ⟨w.heap.size, 4, none⟩) HS2.out).trans (HM1.out 4), (h.cell (p := ⟨w.heap.size, 5, none⟩) HS2.out).trans (HM1.out 5), (h.cell (p := ⟨w.heap.size, 6, none⟩) HS2.out).trans (HM1.out 6), (h.cell (p := ⟨w.heap.size, 7, none⟩) HS2.out).trans (HM1.out 7), (h.cell (p := ⟨w.heap.size, 8, none⟩) HS2.out).trans (HM1.out 8), (h.cell (p := ⟨w.heap.size, 9, none⟩) HS2.out).trans (HM1.out 9), (h.cell (p := ⟨w.heap.size, 10, none⟩) HS2.out).trans (HM1.out 10), (h.cell (p := ⟨w.heap.size, 11, none⟩) HS2.out).trans (HM1.out 11)⟩
            have hb0 : Below wr.heap.size wr wr.drew := (Below.refl _ _).drew
            have CSi : ∀ wc, Below wr.heap.size wr wc → Calls Try.prog 30 #[.agg #[.int .i64 x, .int .i64 y]] wc fun e w' => e = .returned (.bool true) ∧ Below wr.heap.size wr w' := fun wc h => (CS wc).mono fun _ _ hh => ⟨hh.1, h.trans (hh.2.mono h.size)⟩
            have CXi : ∀ wc, Below wr.heap.size wr wc → Calls Try.prog 31 #[.agg #[.int .i64 a, .int .i64 b, .int .i64 c, .int .i64 d, .int .i64 f, .int .i64 k, .int .i64 a', .int .i64 b', .int .i64 c', .int .i64 d', .int .i64 f', .int .i64 k'], .agg #[.int .i64 x', .int .i64 y']] wc fun e w' => e = .returned (.agg #[.int .i64 p, .int .i64 r]) ∧ Below wr.heap.size wr w' := fun wc h => (CX wc).mono fun _ _ hh => ⟨hh.1, h.trans (hh.2.mono h.size)⟩
            obtain ⟨B, HBv⟩ : ∃ B : Bool, Hid (B = !(decide (x = p) && decide (y = r))) := ⟨_, rfl⟩
            clear CS CX e1 e2 e3 e4
            go_wp2
            refine wp_region_noPanic ?_
            refine wp_region_held_drew (S := fun W => W.cell? ⟨b1, o1 + j * 2, none⟩ = some (.int .i64 x) ∧ W.cell? ⟨b1, o1 + j * 2 + 1, none⟩ = some (.int .i64 y) ∧ W.cell? ⟨b1, o1 + t * 2, none⟩ = some (.int .i64 x') ∧ W.cell? ⟨b1, o1 + t * 2 + 1, none⟩ = some (.int .i64 y') ∧ W.cell? ⟨w.heap.size, 0, none⟩ = some (.int .i64 a) ∧ W.cell? ⟨w.heap.size, 1, none⟩ = some (.int .i64 b) ∧ W.cell? ⟨w.heap.size, 2, none⟩ = some (.int .i64 c) ∧ W.cell? ⟨w.heap.size, 3, none⟩ = some (.int .i64 d) ∧ W.cell? ⟨w.heap.size, 4, none⟩ = some (.int .i64 f) ∧ W.cell? ⟨w.heap.size, 5, none⟩ = some (.int .i64 k) ∧ W.cell? ⟨w.heap.size, 6, none⟩ = some (.int .i64 a') ∧ W.cell? ⟨w.heap.size, 7, none⟩ = some (.int .i64 b') ∧ W.cell? ⟨w.heap.size, 8, none⟩ = some (.int .i64 c') ∧ W.cell? ⟨w.heap.size, 9, none⟩ = some (.int .i64 d') ∧ W.cell? ⟨w.heap.size, 10, none⟩ = some (.int .i64 f') ∧ W.cell? ⟨w.heap.size, 11, none⟩ = some (.int .i64 k')) (by kernel_rfl) (HK.out _ hb0) (fun hHeld => ?_)
            refine wpAnyH_take (i := 0) (v := .slice (some ⟨b1, o1, none⟩) n lc) rfl (by kernel_rfl) (by kernel_rfl) (by kernel_rfl) (fun _ _ _ h => h) (Or.inl ⟨by kernel_rfl, ?_⟩) (by assumption) ?_
            · intro wq hSq; go_simp
            try simp only [Act.put]
            refine wpAnyH_take (i := 1) (v := .int .i64 j) rfl (by kernel_rfl) (by kernel_rfl) (by kernel_rfl) (fun _ _ _ h => h) (Or.inl ⟨by kernel_rfl, ?_⟩) (by assumption) ?_
            · intro wq hSq; go_simp
            try simp only [Act.put]
            refine wpAnyH_take (i := 2) (v := .pointer (some ⟨b1, o1 + j * 2, none⟩)) rfl (by kernel_rfl) (by kernel_rfl) (by kernel_rfl) (fun _ _ _ h => h) (Or.inl ⟨by kernel_rfl, ?_⟩) (by assumption) ?_
            · intro wq hSq; go_simp
            try simp only [Act.put]
            refine wpAnyH_take (i := 3) (v := .agg #[.int .i64 x, .int .i64 y]) rfl (by kernel_rfl) (by kernel_rfl) (by kernel_rfl) (fun _ _ _ h => h) (Or.inl ⟨by kernel_rfl, ?_⟩) (by assumption) ?_
            · intro wq hSq; go_simp
            try simp only [Act.put]
            refine wpAnyH_ready (rs := [4]) (by kernel_rfl) (by simp) ?_
            refine AllReadyH.cons rfl (fun K hK => ?_) AllReadyH.nil
            go_simp
            refine (CSi _ hb0).mono ?_
            rintro e W2 ⟨rfl, hb2⟩
            go_simp
            refine hK.out _ _ ?_ (fun hHeld => ?_)
            · exact HK.out _ hb2
            clear hK K
            try simp only [Act.put]
            refine wpAnyH_take (i := 5) (v := .bool false) rfl (by kernel_rfl) (by kernel_rfl) (by kernel_rfl) (fun _ _ _ h => h) (Or.inl ⟨by kernel_rfl, ?_⟩) (by assumption) ?_
            · intro wq hSq; go_simp
            try simp only [Act.put]
            refine wpAnyH_take (i := 6) (v := .bool false) rfl (by kernel_rfl) (by kernel_rfl) (by kernel_rfl) (fun _ _ _ h => h) (Or.inl ⟨by kernel_rfl, ?_⟩) (by assumption) ?_
            · intro wq hSq; go_simp
            try simp only [Act.put]
            refine wpAnyH_take (i := 7) (v := .int .i64 j) rfl (by kernel_rfl) (by kernel_rfl) (by kernel_rfl) (fun _ _ _ h => h) (Or.inl ⟨by kernel_rfl, ?_⟩) (by assumption) ?_
            · intro wq hSq; go_simp
            try simp only [Act.put]
            refine wpAnyH_take (i := 8) (v := .bool true) rfl (by kernel_rfl) (by kernel_rfl) (by kernel_rfl) (fun _ _ _ h => h) (Or.inl ⟨by kernel_rfl, ?_⟩) (by assumption) ?_
            · intro wq hSq; go_simp; omega
            try simp only [Act.put]
            refine wpAnyH_take (i := 9) (v := .bool true) rfl (by kernel_rfl) (by kernel_rfl) (by kernel_rfl) (fun _ _ _ h => h) (Or.inl ⟨by kernel_rfl, ?_⟩) (by assumption) ?_
            · intro wq hSq; go_simp
            try simp only [Act.put]
            refine wpAnyH_take (i := 10) (v := .slice (some ⟨b1, o1, none⟩) n lc) rfl (by kernel_rfl) (by kernel_rfl) (by kernel_rfl) (fun _ _ _ h => h) (Or.inl ⟨by kernel_rfl, ?_⟩) (by assumption) ?_
            · intro wq hSq; go_simp
            try simp only [Act.put]
            refine wpAnyH_take (i := 11) (v := .int .i64 j) rfl (by kernel_rfl) (by kernel_rfl) (by kernel_rfl) (fun _ _ _ h => h) (Or.inl ⟨by kernel_rfl, ?_⟩) (by assumption) ?_
            · intro wq hSq; go_simp
            try simp only [Act.put]
            refine wpAnyH_take (i := 12) (v := .pointer (some ⟨b1, o1 + j * 2, none⟩)) rfl (by kernel_rfl) (by kernel_rfl) (by kernel_rfl) (fun _ _ _ h => h) (Or.inl ⟨by kernel_rfl, ?_⟩) (by assumption) ?_
            · intro wq hSq; go_simp
            try simp only [Act.put]
            refine wpAnyH_take (i := 13) (v := .agg #[.int .i64 x, .int .i64 y]) rfl (by kernel_rfl) (by kernel_rfl) (by kernel_rfl) (fun _ _ _ h => h) (Or.inl ⟨by kernel_rfl, ?_⟩) (by assumption) ?_
            · intro wq hSq; go_simp
            try simp only [Act.put]
            refine wpAnyH_take (i := 14) (v := .agg #[.int .i64 a, .int .i64 b, .int .i64 c, .int .i64 d, .int .i64 f, .int .i64 k, .int .i64 a', .int .i64 b', .int .i64 c', .int .i64 d', .int .i64 f', .int .i64 k']) rfl (by kernel_rfl) (by kernel_rfl) (by kernel_rfl) (fun _ _ _ h => h) (Or.inl ⟨by kernel_rfl, ?_⟩) (by assumption) ?_
            · intro wq hSq; go_simp
            try simp only [Act.put]
            refine wpAnyH_take (i := 15) (v := .slice (some ⟨b1, o1, none⟩) n lc) rfl (by kernel_rfl) (by kernel_rfl) (by kernel_rfl) (fun _ _ _ h => h) (Or.inl ⟨by kernel_rfl, ?_⟩) (by assumption) ?_
            · intro wq hSq; go_simp
            try simp only [Act.put]
            refine wpAnyH_take (i := 16) (v := .int .i64 j) rfl (by kernel_rfl) (by kernel_rfl) (by kernel_rfl) (fun _ _ _ h => h) (Or.inl ⟨by kernel_rfl, ?_⟩) (by assumption) ?_
            · intro wq hSq; go_simp
            try simp only [Act.put]
            refine wpAnyH_take (i := 17) (v := .int .i64 t) rfl (by kernel_rfl) (by kernel_rfl) (by kernel_rfl) (fun _ _ _ h => h) (Or.inl ⟨by kernel_rfl, ?_⟩) (by assumption) ?_
            · intro wq hSq; go_simp
            try simp only [Act.put]
            refine wpAnyH_take (i := 18) (v := .pointer (some ⟨b1, o1 + t * 2, none⟩)) rfl (by kernel_rfl) (by kernel_rfl) (by kernel_rfl) (fun _ _ _ h => h) (Or.inl ⟨by kernel_rfl, ?_⟩) (by assumption) ?_
            · intro wq hSq; go_simp
            try simp only [Act.put]
            refine wpAnyH_take (i := 19) (v := .agg #[.int .i64 x', .int .i64 y']) rfl (by kernel_rfl) (by kernel_rfl) (by kernel_rfl) (fun _ _ _ h => h) (Or.inl ⟨by kernel_rfl, ?_⟩) (by assumption) ?_
            · intro wq hSq; go_simp
            try simp only [Act.put]
            refine wpAnyH_ready (rs := [20]) (by kernel_rfl) (by simp) ?_
            refine AllReadyH.cons rfl (fun K hK => ?_) AllReadyH.nil
            go_simp
            refine (CXi _ hb2).mono ?_
            rintro e W3 ⟨rfl, hb3⟩
            go_simp
            refine hK.out _ _ ?_ (fun hHeld => ?_)
            · exact HK.out _ hb3
            clear hK K
            try simp only [Act.put]
            refine wpAnyH_take (i := 21) (v := .bool B) rfl (by kernel_rfl) (by kernel_rfl) (by kernel_rfl) (fun _ _ _ h => h) (Or.inl ⟨by kernel_rfl, ?_⟩) (by assumption) ?_
            · intro wq hSq; have hBv := HBv.out; by_cases hx : x = p <;> by_cases hy : y = r <;> (rw [hBv]; go_simp; try simp [hx, hy])
            try simp only [Act.put]
            refine wpAnyH_take (i := 22) (v := .bool B) rfl (by kernel_rfl) (by kernel_rfl) (by kernel_rfl) (fun _ _ _ h => h) (Or.inl ⟨by kernel_rfl, ?_⟩) (by assumption) ?_
            · intro wq hSq; go_simp
            try simp only [Act.put]
            refine wpAnyH_take (i := 23) (v := .bool B) rfl (by kernel_rfl) (by kernel_rfl) (by kernel_rfl) (fun _ _ _ h => h) (Or.inl ⟨by kernel_rfl, ?_⟩) (by assumption) ?_
            · intro wq hSq; go_simp
            try simp only [Act.put]
            refine wpAnyH_done (by kernel_rfl) ?_ _
            refine NoPanic.normal ?_
            have hBv := HBv.out
            clear HBv
            cases B
            · have he : x = p ∧ y = r := M.both hBv
              obtain ⟨rfl, rfl⟩ := he
              clear hBv
              go_simp
              go_wp2
              refine ⟨⟨j + 1, by omega, by simp, HOk2.out rfl, HB2.out.trans (hb3.mono HB2.out.size), by have := HS2.out; have := hb3.size; omega, fun i => (hb3.cell (p := ⟨w.heap.size, i, none⟩) HS2.out).trans (HM1.out i)⟩, by simp [intOf]; omega⟩
            · have hne : M.trOk m0 ps = false := HR.out (fun h => by cases h; simp at hBv)
              clear hBv
              go_simp
              go_wp2
              go_ret
              exact ⟨by rw [hne]; rfl, HB2.out.trans (hb3.mono HB2.out.size)⟩
      · have hjn : j = n := by omega
        subst hjn
        have hy := HY.out HOk.out
        go_wp2
        go_ret
        exact ⟨by rw [hy]; rfl, HB2.out⟩
  · have hno : m.ok = false ∨ (m.ok = true ∧ n < 1) ∨ (m.ok = true ∧ 1 ≤ n ∧ 1001 < n) := by
      cases h : m.ok with
      | false => exact .inl rfl
      | true =>
        by_cases h1 : n < 1
        · exact .inr (.inl ⟨rfl, h1⟩)
        · exact .inr (.inr ⟨rfl, by omega, by
            rcases Nat.lt_or_ge 1001 n with h2 | h2
            · exact h2
            · exact absurd ⟨h, by omega, h2⟩ hok⟩)
    have hno1 : m.ok = false ∨ ps.length < 1 ∨ 1001 < ps.length := by
      rcases hno with h | ⟨_, h⟩ | ⟨_, _, h⟩
      · exact .inl h
      · exact .inr (.inl (by omega))
      · exact .inr (.inr (by omega))
    rw [M.traceOk_no hno1]
    clear hno1
    clear hok hz hlen
    generalize m.ok = o at C1 hno
    obtain ⟨⟨a, b, c, d, f, k⟩, ⟨a', b', c', d', f', k'⟩⟩ := m
    dsimp only [mcv] at C1 ⊢
    have hno2 : o = false ∨ (o = true ∧ (n : Int) < 1) ∨ (o = true ∧ ¬ (n : Int) < 1 ∧ 1001 < (n : Int)) := by
      rcases hno with h | ⟨h, h2⟩ | ⟨h, h2, h3⟩
      · exact .inl h
      · exact .inr (.inl ⟨h, by omega⟩)
      · exact .inr (.inr ⟨h, by omega, by omega⟩)
    clear hno
    rcases hno2 with rfl | ⟨rfl, i1⟩ | ⟨rfl, i1, i2⟩
    all_goals
      go_enter Try.func21, Try.ntmps21
      go_wp2_with fail
      refine (C1 _).mono ?_
      rintro e w1 ⟨rfl, hb1⟩
      have HB1 : Hid (Below w.heap.size w w1) := ((Below.refl _ _).alloc (Nat.le_refl _) _).trans (hb1.mono (by simp))
      clear hb1
      go_wp2
      go_ret
      exact ⟨rfl, HB1.out⟩
end Go.Proofs.Ytjeoenieoejolai
