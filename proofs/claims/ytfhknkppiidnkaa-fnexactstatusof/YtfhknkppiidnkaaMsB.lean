/- How far a job is, in the model. -/
import Derived.Test.YtfhknkppiidnkaaMsA
import Derived.Test.YtfhknkppiidnkaaMkQ
import Derived.Test.YtfhknkppiidnkaaGrA
import Derived.Test.YtfhknkppiidnkaaMkX
namespace Go.Proofs.Ytfhknkppiidnkaa
open Go.RowKit

theorem M.jobAt_some (id : Int) : ∀ (js : List M.Jb) (k : Nat), 0 ≤ M.jobAt id k js → ∃ i, i < js.length ∧ M.jobAt id k js = ((k + i : Nat) : Int) ∧ (js.getD i M.j0).id = id
  | [], k, h => by unfold M.jobAt at h; omega
  | j :: l, k, h => by
    unfold M.jobAt at h ⊢
    by_cases e : j.id = id
    · rw [if_pos e]; exact ⟨0, by simp, rfl, e⟩
    · rw [if_neg e] at h ⊢
      obtain ⟨i, h1, h2, h3⟩ := M.jobAt_some id l (k + 1) h
      refine ⟨i + 1, by simpa using h1, ?_, h3⟩
      rw [h2]; congr 1; omega
/-- what is told of a job -/
def M.stOk (now next id : Int) (bs : List Int) (js : List M.Jb) : Bool := M.mkOk now next bs js && decide (0 ≤ M.jobAt id 0 js)
def M.stN (now next id : Int) (bs : List Int) (js : List M.Jb) : Nat := if M.stOk now next id bs js = true then ((js.getD (M.jobAt id 0 js).toNat M.j0).ts.filter (·.done)).length else 0
def M.stL (now next id : Int) (bs : List Int) (js : List M.Jb) : Nat := if M.stOk now next id bs js = true then (js.getD (M.jobAt id 0 js).toNat M.j0).ts.length else 0
set_option maxHeartbeats 8000000 in
set_option maxRecDepth 10000 in
theorem specStatusOf_any {ab aj : Option Addr} {nb cb nj cj : Nat} {bs : List Int} {js : List M.Jb} (now next id : Int) (w : World) (hz : SeesM w ab nb cb aj nj cj bs js) :
    Calls Try.prog 10 #[.agg #[.int .i64 now, .int .i64 next, .slice ab nb cb, .slice aj nj cj], .int .i64 id] w fun e w' => e = .returned (.tuple #[.int .i64 (M.stN now next id bs js : Nat), .int .i64 (M.stL now next id bs js : Nat), .bool (M.stOk now next id bs js)]) ∧ Below w.heap.size w w' := by
  have HM : Hid (SeesM w ab nb cb aj nj cj bs js) := hz
  have hcj : (nj : Int) ≤ cj := by have := hz.j.le; omega
  have bnj : (nj : Int) ≤ 9223372036854775807 := by have := hz.j.big; have := hz.j.le; omega
  have hlen : js.length = nj := hz.j.len
  have C1 : ∀ W, SeesJ W aj nj cj js → Calls Try.prog 28 #[.agg #[.int .i64 now, .int .i64 next, .slice ab nb cb, .slice aj nj cj], .int .i64 id] W fun e w' => e = .returned (.int .i64 (M.jobAt id 0 js)) ∧ Below W.heap.size W w' := fun W h => l8Job_any now next id W h
  have C2 : ∀ W, SeesM W ab nb cb aj nj cj bs js → Calls Try.prog 6 #[.agg #[.int .i64 now, .int .i64 next, .slice ab nb cb, .slice aj nj cj]] W fun e w' => e = .returned (.bool (M.mkOk now next bs js)) ∧ Below W.heap.size W w' := fun W h => specMarketOk_any now next W h
  have HJS := M.jobAt_some id js 0
  have HF : Hid (M.stOk now next id bs js = false → M.stN now next id bs js = 0 ∧ M.stL now next id bs js = 0) := fun h => by unfold M.stN M.stL; rw [h]; exact ⟨rfl, rfl⟩
  have HTt : Hid (M.stOk now next id bs js = true → M.stN now next id bs js = ((js.getD (M.jobAt id 0 js).toNat M.j0).ts.filter (·.done)).length ∧ M.stL now next id bs js = (js.getD (M.jobAt id 0 js).toNat M.j0).ts.length) := fun h => by unfold M.stN M.stL; rw [h]; exact ⟨rfl, rfl⟩
  generalize M.stN now next id bs js = sn at HF HTt ⊢
  generalize M.stL now next id bs js = sl at HF HTt ⊢
  have hSt : M.stOk now next id bs js = (M.mkOk now next bs js && decide (0 ≤ M.jobAt id 0 js)) := rfl
  generalize M.stOk now next id bs js = os at hSt HF HTt ⊢
  generalize M.mkOk now next bs js = om at C2 hSt
  generalize M.jobAt id 0 js = at_ at C1 hSt HJS HTt
  have HSt : Hid (os = (om && decide (0 ≤ at_))) := hSt
  clear hz hSt 
  go_enter Try.func10, Try.ntmps10
  have HA_0 : Hid (Lies (w.alloc (.cells #[.int .i64 now, .int .i64 next, .slice ab nb cb, .slice aj nj cj] 30)) w.heap.size [.int .i64 now, .int .i64 next, .slice ab nb cb, .slice aj nj cj]) := lies_new _ _ _
  have HB_0 : Hid (Below w.heap.size w (w.alloc (.cells #[.int .i64 now, .int .i64 next, .slice ab nb cb, .slice aj nj cj] 30))) := (Below.refl _ _).alloc (Nat.le_refl _) _
  go_wp2_with fail
  generalize (w.alloc (.cells #[.int .i64 now, .int .i64 next, .slice ab nb cb, .slice aj nj cj] 30)) = wa at HA_0 HB_0  ⊢
  refine (C1 _ (HM.out.j.below HB_0.out)).mono ?_
  rintro e wb ⟨rfl, hb⟩
  have HA_1 : Hid (Lies wb w.heap.size [.int .i64 now, .int .i64 next, .slice ab nb cb, .slice aj nj cj]) := HA_0.out.belowS hb
  have HB_1 : Hid (Below w.heap.size w wb) := HB_0.out.trans (hb.mono HB_0.out.size)
  clear HA_0 HB_0
  clear hb
  have x0 : wb.cell? ⟨w.heap.size, 0, none⟩ = some (.int .i64 now) := HA_1.out.at 0
  have x1 : wb.cell? ⟨w.heap.size, 1, none⟩ = some (.int .i64 next) := HA_1.out.at 1
  have x2 : wb.cell? ⟨w.heap.size, 2, none⟩ = some (.slice ab nb cb) := HA_1.out.at 2
  have x3 : wb.cell? ⟨w.heap.size, 3, none⟩ = some (.slice aj nj cj) := HA_1.out.at 3
  go_wp2_with fail
  clear x0 x1 x2 x3
  refine (C2 _ (HM.out.below HB_1.out)).mono ?_
  rintro e wc ⟨rfl, hb⟩
  have HA_2 : Hid (Lies wc w.heap.size [.int .i64 now, .int .i64 next, .slice ab nb cb, .slice aj nj cj]) := HA_1.out.belowS hb
  have HB_2 : Hid (Below w.heap.size w wc) := HB_1.out.trans (hb.mono HB_1.out.size)
  clear HA_1 HB_1
  clear hb
  cases om with
  | false =>
    obtain rfl : os = false := by rw [HSt.out]; rfl
    obtain ⟨rfl, rfl⟩ := HF.out (by simp)
    go_wp2
    exact bodyPost_ret (v := .tuple #[.int .i64 0, .int .i64 0, .bool false]) (by simp [results, Try.results10, go_sem]) rfl ⟨rfl, HB_2.out⟩
  | true =>
    by_cases h : 0 ≤ at_
    case neg =>
      obtain rfl : os = false := by rw [HSt.out]; simp; omega
      have hneg : at_ < 0 := by omega
      obtain ⟨rfl, rfl⟩ := HF.out (by simp)
      go_wp2
      exact bodyPost_ret (v := .tuple #[.int .i64 0, .int .i64 0, .bool false]) (by simp [results, Try.results10, go_sem]) rfl ⟨rfl, HB_2.out⟩
    obtain rfl : os = true := by rw [HSt.out]; simp; omega
    obtain ⟨i, hi, hat, _⟩ := HJS h
    rw [Nat.zero_add] at hat
    subst hat
    rw [hlen] at hi
    obtain ⟨hsn, hsl⟩ := HTt.out (by simp)
    rw [Int.toNat_natCast] at hsn hsl
    obtain ⟨b1, o1, rfl, hc1⟩ := (HM.out.j.below HB_2.out).at (by omega)
    obtain ⟨ta, tc, hA, hT⟩ := hc1 i hi
    have x17 : wc.cell? ⟨b1, o1 + i * 18 + 17, none⟩ = some (.slice ta (js.getD i M.j0).ts.length tc) := hA 17 (by omega)
    generalize (js.getD i M.j0).ts = tl at hT x17 hsn hsl
    have HSN : Hid (sn = (tl.filter (·.done)).length) := hsn
    have HSL : Hid (sl = tl.length) := hsl
    clear hsn hsl
    clear hA hc1
    have HTl : Hid (tl.length = tl.length) := rfl
    generalize htn : tl.length = tn at hT x17
    have HTN : Hid (tl.length = tn) := htn
    clear HTl
    have hiI : (i : Int) < (nj : Int) := by omega
    have hi0 : (0 : Int) ≤ (i : Int) := by omega
    have hnn : ¬ (i : Int) < 0 := by omega
    have htc : (tn : Int) ≤ tc := by have := hT.le; omega
    have htb : (tn : Int) ≤ 9223372036854775807 := by have := hT.le; have := hT.big; omega
    have x3 : wc.cell? ⟨w.heap.size, 3, none⟩ = some (.slice (some ⟨b1, o1, none⟩) nj cj) := HA_2.out.at 3
    go_wp2
    have HT2 : Hid (SeesT wc ta tn tc tl) := hT
    clear hT htn
    go_loop [8, 9] (fun l i => ∃ q : Nat, q ≤ tn ∧ i = .int .i64 q ∧ l = .int .i64 (((tl.take q).filter (·.done)).length : Nat)) (fun _ i => tn - (intOf i).toNat)
    case atStart => exact ⟨0, by omega, rfl, rfl⟩
    case round =>
      obtain ⟨q, hq, rfl, rfl⟩ := hrel
      by_cases hlt : q < tn
      · obtain ⟨b2, o2, rfl, hc2⟩ := HT2.out.at (by omega)
        have c2 : wc.cell? ⟨b2, o2 + q * 3, none⟩ = some (.bool (tl.getD q M.t0).done) := hc2 q hlt 0 (by omega)
        have hG := M.count_step M.t0 HTN.out hlt
        have hle : ((tl.take q).filter (·.done)).length ≤ q := Nat.le_trans (List.length_filter_le _ _) (by rw [List.length_take]; omega)
        generalize (tl.getD q M.t0).done = d at c2 hG
        generalize ((tl.take q).filter (·.done)).length = m at hG hle
        have HG : Hid (((tl.take (q + 1)).filter (·.done)).length = (if d = true then m + 1 else m)) := hG
        clear hc2 hG
        have hqI : (q : Int) < (tn : Int) := by omega
        have hmI : (m : Int) + 1 ≤ 9223372036854775807 := by omega
        cases d with
        | false =>
          go_wp2
          go_round
          case rel => exact ⟨q + 1, by omega, by go_num, by rw [HG.out]; rfl⟩
          case measure => simp [intOf]; omega
        | true =>
          go_wp2
          go_round
          case rel => exact ⟨q + 1, by omega, by go_num, by rw [HG.out, if_pos rfl]; go_num⟩
          case measure => simp [intOf]; omega
      · have hqe : q = tn := by omega
        subst hqe
        have hfl : tl.take q = tl := List.take_of_length_le (Nat.le_of_eq HTN.out)
        rw [hfl, ← HSN.out]
        have HSL2 : Hid (sl = q) := HSL.out.trans HTN.out
        clear hfl
        go_wp2_with fail
        refine wp_region_noPanic ?_
        refine wp_region_held_drew (S := fun W => wc.grownBy W none) (by kernel_rfl) (grown_drew _ _) (fun hHeld => ?_)
        generalize wc.drew = wd0 at hHeld ⊢
        have HX0 : Hid (Below wc.heap.size wc wd0) := ⟨hHeld.os, hHeld.tape, hHeld.output, hHeld.size, fun k hk => hHeld.block k hk (by simp)⟩
        refine wpAnyH_take (i := 0) (v := .int .i64 (sn : Nat)) rfl (by kernel_rfl) (by kernel_rfl) (by kernel_rfl) (fun _ _ _ h => h) (Or.inl ⟨by kernel_rfl, ?_⟩) (by assumption) ?_
        · intro wq hSq; go_simp
        try simp only [Act.put]
        refine wpAnyH_take (i := 1) (v := .pointer (some ⟨w.heap.size, 3, none⟩)) rfl (by kernel_rfl) (by kernel_rfl) (by kernel_rfl) (fun _ _ _ h => h) (Or.inl ⟨by kernel_rfl, ?_⟩) (by assumption) ?_
        · intro wq hSq; go_simp
        try simp only [Act.put]
        refine wpAnyH_take (i := 2) (v := .slice (some ⟨b1, o1, none⟩) nj cj) rfl (by kernel_rfl) (by kernel_rfl) (by kernel_rfl) (fun _ _ _ h => h) (Or.inl ⟨by kernel_rfl, ?_⟩) (by assumption) ?_
        · intro wp hSp; have c0 : wp.cell? ⟨w.heap.size, 3, none⟩ = some (.slice (some ⟨b1, o1, none⟩) nj cj) := (HA_2.out.grown hSp (by simp)).at 3; go_simp
        try simp only [Act.put]
        refine wpAnyH_take (i := 3) (v := .int .i64 (i : Nat)) rfl (by kernel_rfl) (by kernel_rfl) (by kernel_rfl) (fun _ _ _ h => h) (Or.inl ⟨by kernel_rfl, ?_⟩) (by assumption) ?_
        · intro wq hSq; go_simp
        try simp only [Act.put]
        refine wpAnyH_take (i := 4) (v := .pointer (some ⟨b1, o1 + i * 18, none⟩)) rfl (by kernel_rfl) (by kernel_rfl) (by kernel_rfl) (fun _ _ _ h => h) (Or.inl ⟨by kernel_rfl, ?_⟩) (by assumption) ?_
        · intro wq hSq; go_simp
        try simp only [Act.put]
        refine wpAnyH_take (i := 5) (v := .pointer (some ⟨b1, o1 + i * 18 + 17, none⟩)) rfl (by kernel_rfl) (by kernel_rfl) (by kernel_rfl) (fun _ _ _ h => h) (Or.inl ⟨by kernel_rfl, ?_⟩) (by assumption) ?_
        · intro wq hSq; go_simp
        try simp only [Act.put]
        refine wpAnyH_take (i := 6) (v := .slice ta q tc) rfl (by kernel_rfl) (by kernel_rfl) (by kernel_rfl) (fun _ _ _ h => h) (Or.inl ⟨by kernel_rfl, ?_⟩) (by assumption) ?_
        · intro wp hSp; have c0 : wp.cell? ⟨b1, o1 + i * 18 + 17, none⟩ = some (.slice ta q tc) := hSp.cell x17 (by simp); go_simp
        try simp only [Act.put]
        refine wpAnyH_take (i := 7) (v := .int .i64 (q : Nat)) rfl (by kernel_rfl) (by kernel_rfl) (by kernel_rfl) (fun _ _ _ h => h) (Or.inl ⟨by kernel_rfl, ?_⟩) (by assumption) ?_
        · intro wq hSq; go_simp
        try simp only [Act.put]
        refine wpAnyH_take (i := 8) (v := .int .i64 (sn : Nat)) rfl (by kernel_rfl) (by kernel_rfl) (by kernel_rfl) (fun _ _ _ h => h) (Or.inl ⟨by kernel_rfl, ?_⟩) (by assumption) ?_
        · intro wq hSq; go_simp
        try simp only [Act.put]
        refine wpAnyH_take (i := 9) (v := .int .i64 (q : Nat)) rfl (by kernel_rfl) (by kernel_rfl) (by kernel_rfl) (fun _ _ _ h => h) (Or.inl ⟨by kernel_rfl, ?_⟩) (by assumption) ?_
        · intro wq hSq; go_simp
        try simp only [Act.put]
        refine wpAnyH_take (i := 10) (v := .bool true) rfl (by kernel_rfl) (by kernel_rfl) (by kernel_rfl) (fun _ _ _ h => h) (Or.inl ⟨by kernel_rfl, ?_⟩) (by assumption) ?_
        · intro wq hSq; go_simp
        try simp only [Act.put]
        refine wpAnyH_done (by kernel_rfl) ?_ _
        refine NoPanic.normal ?_
        go_simp
        have HA_3 : Hid (Lies wd0 w.heap.size [.int .i64 now, .int .i64 next, .slice ab nb cb, .slice (some ⟨b1, o1, none⟩) nj cj]) := HA_2.out.belowS HX0.out
        have HB_3 : Hid (Below w.heap.size w wd0) := HB_2.out.trans (HX0.out.mono HB_2.out.size)
        clear HA_2 HB_2
        go_wp2
        obtain rfl := HSL2.out
        exact bodyPost_ret (v := .tuple #[.int .i64 sn, .int .i64 sl, .bool true]) (by simp [results, Try.results10, go_sem]) rfl ⟨rfl, HB_3.out⟩
end Go.Proofs.Ytfhknkppiidnkaa
