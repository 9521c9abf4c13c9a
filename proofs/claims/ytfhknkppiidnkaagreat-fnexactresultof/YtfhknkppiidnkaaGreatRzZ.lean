/- Where a job stands in a market, in the model. How far a job is, in the model. A map from numbers: its entries in the order of their birth. A hall: a market while a call works on it, in blocks of its own. A job enters a hall. A market while a call works on it, in the program. A job of a market, in the program; how far it is. A job's result, in the model. A job's result, in the program. FnExactResultOf: the walk. -/
import Derived.Test.YtfhknkppiidnkaaGreatMkQ
import Derived.Test.YtfhknkppiidnkaaGreatMkF
import Derived.Test.YtfhknkppiidnkaaGreatGrA
import Derived.Test.YtfhknkppiidnkaaGreatMkX
import Derived.Maps.Own
import Derived.Test.YtfhknkppiidnkaaGreatMkA
import Derived.Test.YtfhknkppiidnkaaGreatMkV
import Derived.Maps.AppendAt
import Derived.Test.YtfhknkppiidnkaaGreatLvF
import Derived.Test.YtfhknkppiidnkaaGreatClP
import Derived.Test.YtfhknkppiidnkaaGreatLvE
import Derived.Test.YtfhknkppiidnkaaGreatMkG
import Derived.Test.YtfhknkppiidnkaaGreatClB
namespace Go.Proofs.YtfhknkppiidnkaaGreat
open Go.RowKit

/-- a job's place, below nought where there is none -/
def M.jobAt (id : Int) (k : Nat) : List M.Jb → Int
  | [] => -1
  | j :: l => if j.id = id then (k : Int) else M.jobAt id (k + 1) l
set_option maxHeartbeats 2000000 in
theorem l8Job_any {ab aj : Option Addr} {nb cb nj cj : Nat} {js : List M.Jb} (now next id : Int) (w : World) (hz : SeesJ w aj nj cj js) :
    Calls Tryz.prog 25 #[.agg #[.int .i64 now, .int .i64 next, .slice ab nb cb, .slice aj nj cj], .int .i64 id] w fun e w' => e = .returned (.int .i64 (M.jobAt id 0 js)) ∧ Below w.heap.size w w' := by
  have bn : (nj : Int) ≤ 9223372036854775807 := by have := hz.big; have := hz.le; omega
  have hcI : (nj : Int) ≤ cj := by have := hz.le; omega
  have HL0 : Hid (Lies (w.alloc (.cells #[.int .i64 now, .int .i64 next, .slice ab nb cb, .slice aj nj cj] 27)) w.heap.size [.int .i64 now, .int .i64 next, .slice ab nb cb, .slice aj nj cj]) := lies_new _ _ _
  have HB0 : Hid (Below w.heap.size w (w.alloc (.cells #[.int .i64 now, .int .i64 next, .slice ab nb cb, .slice aj nj cj] 27))) := (Below.refl _ _).alloc (Nat.le_refl _) _
  have HZ : Hid (SeesJ (w.alloc (.cells #[.int .i64 now, .int .i64 next, .slice ab nb cb, .slice aj nj cj] 27)) aj nj cj js) := hz.below HB0.out
  generalize hR : M.jobAt id 0 js = R
  have HR : Hid (M.jobAt id 0 js = R) := hR
  clear hR hz
  go_enter Tryz.func25, Tryz.ntmps25
  go_wp2
  generalize (w.alloc (.cells #[.int .i64 now, .int .i64 next, .slice ab nb cb, .slice aj nj cj] 27)) = w1 at HL0 HB0 HZ ⊢
  have x3 : w1.cell? ⟨w.heap.size, 3, none⟩ = some (.slice aj nj cj) := HL0.out.at 3
  go_loop [5] (fun i => ∃ k : Nat, k ≤ nj ∧ i = .int .i64 k ∧ M.jobAt id k (js.drop k) = R) (fun i => nj - (intOf i).toNat)
  case atStart => exact ⟨0, by omega, rfl, HR.out⟩
  case round =>
    obtain ⟨k, hk, rfl, hg⟩ := hrel
    by_cases hlt : k < nj
    · obtain ⟨b1, o1, rfl, hc1⟩ := HZ.out.at (by omega)
      obtain ⟨ta, tc, hA, _⟩ := hc1 k hlt
      have c1 : w1.cell? ⟨b1, o1 + k * 18, none⟩ = some (.int .i64 (js.getD k M.j0).id) := hA 0 (by omega)
      have hG : (if (js.getD k M.j0).id = id then (k : Int) else M.jobAt id (k + 1) (js.drop (k + 1))) = R := by
        rw [← hg, drop_step M.j0 HZ.out.len hlt]; rfl
      generalize (js.getD k M.j0).id = x at c1 hG
      clear hc1 hA hg
      have hI : (k : Int) < (nj : Int) := by omega
      by_cases hx : x = id
      · have hb : (x == id) = true := by simp [hx]
        have HF : Hid ((k : Int) = R) := by show _ = _; rw [if_pos hx] at hG; exact hG
        clear hx hG
        go_wp2
        go_ret
        exact ⟨by rw [← HF.out]; rfl, HB0.out⟩
      · have hb : (x == id) = false := by simp [hx]
        have HG3 : Hid (M.jobAt id (k + 1) (js.drop (k + 1)) = R) := by show _ = _; rw [if_neg hx] at hG; exact hG
        clear hx hG
        go_wp2
        go_round
        case rel => exact ⟨k + 1, by omega, by go_num, HG3.out⟩
        case measure => simp [intOf]; omega
    · have HF : Hid (-1 = R) := by show _ = _; rw [List.drop_of_length_le (by rw [HZ.out.len]; omega)] at hg; exact hg
      clear hg
      go_wp2
      go_ret
      exact ⟨by rw [← HF.out]; rfl, HB0.out⟩
end Go.Proofs.YtfhknkppiidnkaaGreat
namespace Go.Proofs.YtfhknkppiidnkaaGreat
open Go.RowKit

theorem M.jobAt_some (id : Int) : ∀ (js : List M.Jb) (k : Nat), 0 ≤ M.jobAt id k js → ∃ i, i < js.length ∧ M.jobAt id k js = ((k + i : Nat) : Int) ∧ (js.getD i M.j0).id = id
  | [], k, h => by unfold M.jobAt at h; omega
  | j :: l, k, h => by
    unfold M.jobAt at h ⊢
    by_cases e : j.id = id
    · rw [if_pos e]; exact ⟨0, by simp, rfl, e⟩
    · rw [if_neg e] at h ⊢
      obtain ⟨i, h1, h2, h3⟩ := M.jobAt_some id l (k + 1) h
      refine ⟨i + 1, by simpa using h1, ?_, h3⟩
      rw [h2]; congr 1; omega
def M.jobOf (id : Int) (js : List M.Jb) : M.Jb := js.getD (M.jobAt id 0 js).toNat M.j0
/-- what is told of a job -/
def M.stOk (now next id : Int) (bs : List Int) (js : List M.Jb) : Bool := M.mkOk now next bs js && decide (0 ≤ M.jobAt id 0 js)
def M.stN (now next id : Int) (bs : List Int) (js : List M.Jb) : Nat := if M.stOk now next id bs js = true then ((js.getD (M.jobAt id 0 js).toNat M.j0).ts.filter (·.done)).length else 0
def M.stL (now next id : Int) (bs : List Int) (js : List M.Jb) : Nat := if M.stOk now next id bs js = true then (js.getD (M.jobAt id 0 js).toNat M.j0).ts.length else 0
set_option maxHeartbeats 8000000 in
set_option maxRecDepth 10000 in
theorem specStatusOf_any {ab aj : Option Addr} {nb cb nj cj : Nat} {bs : List Int} {js : List M.Jb} (now next id : Int) (w : World) (hz : SeesM w ab nb cb aj nj cj bs js) :
    Calls Tryz.prog 10 #[.agg #[.int .i64 now, .int .i64 next, .slice ab nb cb, .slice aj nj cj], .int .i64 id] w fun e w' => e = .returned (.tuple #[.int .i64 (M.stN now next id bs js : Nat), .int .i64 (M.stL now next id bs js : Nat), .bool (M.stOk now next id bs js)]) ∧ Below w.heap.size w w' := by
  have HM : Hid (SeesM w ab nb cb aj nj cj bs js) := hz
  have hcj : (nj : Int) ≤ cj := by have := hz.j.le; omega
  have bnj : (nj : Int) ≤ 9223372036854775807 := by have := hz.j.big; have := hz.j.le; omega
  have hlen : js.length = nj := hz.j.len
  have C1 : ∀ W, SeesJ W aj nj cj js → Calls Tryz.prog 25 #[.agg #[.int .i64 now, .int .i64 next, .slice ab nb cb, .slice aj nj cj], .int .i64 id] W fun e w' => e = .returned (.int .i64 (M.jobAt id 0 js)) ∧ Below W.heap.size W w' := fun W h => l8Job_any now next id W h
  have C2 : ∀ W, SeesM W ab nb cb aj nj cj bs js → Calls Tryz.prog 26 #[.agg #[.int .i64 now, .int .i64 next, .slice ab nb cb, .slice aj nj cj]] W fun e w' => e = .returned (.bool (M.mkOk now next bs js)) ∧ Below W.heap.size W w' := fun W h => specMarketOk_any now next W h
  have HJS := M.jobAt_some id js 0
  have HF : Hid (M.stOk now next id bs js = false → M.stN now next id bs js = 0 ∧ M.stL now next id bs js = 0) := fun h => by unfold M.stN M.stL; rw [h]; exact ⟨rfl, rfl⟩
  have HTt : Hid (M.stOk now next id bs js = true → M.stN now next id bs js = ((js.getD (M.jobAt id 0 js).toNat M.j0).ts.filter (·.done)).length ∧ M.stL now next id bs js = (js.getD (M.jobAt id 0 js).toNat M.j0).ts.length) := fun h => by unfold M.stN M.stL; rw [h]; exact ⟨rfl, rfl⟩
  generalize M.stN now next id bs js = sn at HF HTt ⊢
  generalize M.stL now next id bs js = sl at HF HTt ⊢
  have hSt : M.stOk now next id bs js = (M.mkOk now next bs js && decide (0 ≤ M.jobAt id 0 js)) := rfl
  generalize M.stOk now next id bs js = os at hSt HF HTt ⊢
  generalize M.mkOk now next bs js = om at C2 hSt
  generalize M.jobAt id 0 js = at_ at C1 hSt HJS HTt
  have HSt : Hid (os = (om && decide (0 ≤ at_))) := hSt
  clear hz hSt 
  go_enter Tryz.func10, Tryz.ntmps10
  have HA_0 : Hid (Lies (w.alloc (.cells #[.int .i64 now, .int .i64 next, .slice ab nb cb, .slice aj nj cj] 27)) w.heap.size [.int .i64 now, .int .i64 next, .slice ab nb cb, .slice aj nj cj]) := lies_new _ _ _
  have HB_0 : Hid (Below w.heap.size w (w.alloc (.cells #[.int .i64 now, .int .i64 next, .slice ab nb cb, .slice aj nj cj] 27))) := (Below.refl _ _).alloc (Nat.le_refl _) _
  go_wp2_with fail
  generalize (w.alloc (.cells #[.int .i64 now, .int .i64 next, .slice ab nb cb, .slice aj nj cj] 27)) = wa at HA_0 HB_0  ⊢
  refine (C1 _ (HM.out.j.below HB_0.out)).mono ?_
  rintro e wb ⟨rfl, hb⟩
  have HA_1 : Hid (Lies wb w.heap.size [.int .i64 now, .int .i64 next, .slice ab nb cb, .slice aj nj cj]) := HA_0.out.belowS hb
  have HB_1 : Hid (Below w.heap.size w wb) := HB_0.out.trans (hb.mono HB_0.out.size)
  clear HA_0 HB_0
  clear hb
  have x0 : wb.cell? ⟨w.heap.size, 0, none⟩ = some (.int .i64 now) := HA_1.out.at 0
  have x1 : wb.cell? ⟨w.heap.size, 1, none⟩ = some (.int .i64 next) := HA_1.out.at 1
  have x2 : wb.cell? ⟨w.heap.size, 2, none⟩ = some (.slice ab nb cb) := HA_1.out.at 2
  have x3 : wb.cell? ⟨w.heap.size, 3, none⟩ = some (.slice aj nj cj) := HA_1.out.at 3
  go_wp2_with fail
  clear x0 x1 x2 x3
  refine (C2 _ (HM.out.below HB_1.out)).mono ?_
  rintro e wc ⟨rfl, hb⟩
  have HA_2 : Hid (Lies wc w.heap.size [.int .i64 now, .int .i64 next, .slice ab nb cb, .slice aj nj cj]) := HA_1.out.belowS hb
  have HB_2 : Hid (Below w.heap.size w wc) := HB_1.out.trans (hb.mono HB_1.out.size)
  clear HA_1 HB_1
  clear hb
  cases om with
  | false =>
    obtain rfl : os = false := by rw [HSt.out]; rfl
    obtain ⟨rfl, rfl⟩ := HF.out (by simp)
    go_wp2
    exact bodyPost_ret (v := .tuple #[.int .i64 0, .int .i64 0, .bool false]) (by simp [results, Tryz.results10, go_sem]) rfl ⟨rfl, HB_2.out⟩
  | true =>
    by_cases h : 0 ≤ at_
    case neg =>
      obtain rfl : os = false := by rw [HSt.out]; simp; omega
      have hneg : at_ < 0 := by omega
      obtain ⟨rfl, rfl⟩ := HF.out (by simp)
      go_wp2
      exact bodyPost_ret (v := .tuple #[.int .i64 0, .int .i64 0, .bool false]) (by simp [results, Tryz.results10, go_sem]) rfl ⟨rfl, HB_2.out⟩
    obtain rfl : os = true := by rw [HSt.out]; simp; omega
    obtain ⟨i, hi, hat, _⟩ := HJS h
    rw [Nat.zero_add] at hat
    subst hat
    rw [hlen] at hi
    obtain ⟨hsn, hsl⟩ := HTt.out (by simp)
    rw [Int.toNat_natCast] at hsn hsl
    obtain ⟨b1, o1, rfl, hc1⟩ := (HM.out.j.below HB_2.out).at (by omega)
    obtain ⟨ta, tc, hA, hT⟩ := hc1 i hi
    have x17 : wc.cell? ⟨b1, o1 + i * 18 + 17, none⟩ = some (.slice ta (js.getD i M.j0).ts.length tc) := hA 17 (by omega)
    generalize (js.getD i M.j0).ts = tl at hT x17 hsn hsl
    have HSN : Hid (sn = (tl.filter (·.done)).length) := hsn
    have HSL : Hid (sl = tl.length) := hsl
    clear hsn hsl
    clear hA hc1
    have HTl : Hid (tl.length = tl.length) := rfl
    generalize htn : tl.length = tn at hT x17
    have HTN : Hid (tl.length = tn) := htn
    clear HTl
    have hiI : (i : Int) < (nj : Int) := by omega
    have hi0 : (0 : Int) ≤ (i : Int) := by omega
    have hnn : ¬ (i : Int) < 0 := by omega
    have htc : (tn : Int) ≤ tc := by have := hT.le; omega
    have htb : (tn : Int) ≤ 9223372036854775807 := by have := hT.le; have := hT.big; omega
    have x3 : wc.cell? ⟨w.heap.size, 3, none⟩ = some (.slice (some ⟨b1, o1, none⟩) nj cj) := HA_2.out.at 3
    go_wp2
    have HT2 : Hid (SeesT wc ta tn tc tl) := hT
    clear hT htn
    go_loop [8, 9] (fun l i => ∃ q : Nat, q ≤ tn ∧ i = .int .i64 q ∧ l = .int .i64 (((tl.take q).filter (·.done)).length : Nat)) (fun _ i => tn - (intOf i).toNat)
    case atStart => exact ⟨0, by omega, rfl, rfl⟩
    case round =>
      obtain ⟨q, hq, rfl, rfl⟩ := hrel
      by_cases hlt : q < tn
      · obtain ⟨b2, o2, rfl, hc2⟩ := HT2.out.at (by omega)
        have c2 : wc.cell? ⟨b2, o2 + q * 3, none⟩ = some (.bool (tl.getD q M.t0).done) := hc2 q hlt 0 (by omega)
        have hG := M.count_step M.t0 HTN.out hlt
        have hle : ((tl.take q).filter (·.done)).length ≤ q := Nat.le_trans (List.length_filter_le _ _) (by rw [List.length_take]; omega)
        generalize (tl.getD q M.t0).done = d at c2 hG
        generalize ((tl.take q).filter (·.done)).length = m at hG hle
        have HG : Hid (((tl.take (q + 1)).filter (·.done)).length = (if d = true then m + 1 else m)) := hG
        clear hc2 hG
        have hqI : (q : Int) < (tn : Int) := by omega
        have hmI : (m : Int) + 1 ≤ 9223372036854775807 := by omega
        cases d with
        | false =>
          go_wp2
          go_round
          case rel => exact ⟨q + 1, by omega, by go_num, by rw [HG.out]; rfl⟩
          case measure => simp [intOf]; omega
        | true =>
          go_wp2
          go_round
          case rel => exact ⟨q + 1, by omega, by go_num, by rw [HG.out, if_pos rfl]; go_num⟩
          case measure => simp [intOf]; omega
      · have hqe : q = tn := by omega
        subst hqe
        have hfl : tl.take q = tl := List.take_of_length_le (Nat.le_of_eq HTN.out)
        rw [hfl, ← HSN.out]
        have HSL2 : Hid (sl = q) := HSL.out.trans HTN.out
        clear hfl
        go_wp2_with fail
        refine wp_region_noPanic ?_
        refine wp_region_held_drew (S := fun W => wc.grownBy W none) (by kernel_rfl) (grown_drew _ _) (fun hHeld => ?_)
        generalize wc.drew = wd0 at hHeld ⊢
        have HX0 : Hid (Below wc.heap.size wc wd0) := ⟨hHeld.os, hHeld.tape, hHeld.output, hHeld.size, fun k hk => hHeld.block k hk (by simp)⟩
        refine wpAnyH_take (i := 0) (v := .int .i64 (sn : Nat)) rfl (by kernel_rfl) (by kernel_rfl) (by kernel_rfl) (fun _ _ _ h => h) (Or.inl ⟨by kernel_rfl, ?_⟩) (by assumption) ?_
        · intro wq hSq; go_simp
        try simp only [Act.put]
        refine wpAnyH_take (i := 1) (v := .pointer (some ⟨w.heap.size, 3, none⟩)) rfl (by kernel_rfl) (by kernel_rfl) (by kernel_rfl) (fun _ _ _ h => h) (Or.inl ⟨by kernel_rfl, ?_⟩) (by assumption) ?_
        · intro wq hSq; go_simp
        try simp only [Act.put]
        refine wpAnyH_take (i := 2) (v := .slice (some ⟨b1, o1, none⟩) nj cj) rfl (by kernel_rfl) (by kernel_rfl) (by kernel_rfl) (fun _ _ _ h => h) (Or.inl ⟨by kernel_rfl, ?_⟩) (by assumption) ?_
        · intro wp hSp; have c0 : wp.cell? ⟨w.heap.size, 3, none⟩ = some (.slice (some ⟨b1, o1, none⟩) nj cj) := (HA_2.out.grown hSp (by simp)).at 3; go_simp
        try simp only [Act.put]
        refine wpAnyH_take (i := 3) (v := .int .i64 (i : Nat)) rfl (by kernel_rfl) (by kernel_rfl) (by kernel_rfl) (fun _ _ _ h => h) (Or.inl ⟨by kernel_rfl, ?_⟩) (by assumption) ?_
        · intro wq hSq; go_simp
        try simp only [Act.put]
        refine wpAnyH_take (i := 4) (v := .pointer (some ⟨b1, o1 + i * 18, none⟩)) rfl (by kernel_rfl) (by kernel_rfl) (by kernel_rfl) (fun _ _ _ h => h) (Or.inl ⟨by kernel_rfl, ?_⟩) (by assumption) ?_
        · intro wq hSq; go_simp
        try simp only [Act.put]
        refine wpAnyH_take (i := 5) (v := .pointer (some ⟨b1, o1 + i * 18 + 17, none⟩)) rfl (by kernel_rfl) (by kernel_rfl) (by kernel_rfl) (fun _ _ _ h => h) (Or.inl ⟨by kernel_rfl, ?_⟩) (by assumption) ?_
        · intro wq hSq; go_simp
        try simp only [Act.put]
        refine wpAnyH_take (i := 6) (v := .slice ta q tc) rfl (by kernel_rfl) (by kernel_rfl) (by kernel_rfl) (fun _ _ _ h => h) (Or.inl ⟨by kernel_rfl, ?_⟩) (by assumption) ?_
        · intro wp hSp; have c0 : wp.cell? ⟨b1, o1 + i * 18 + 17, none⟩ = some (.slice ta q tc) := hSp.cell x17 (by simp); go_simp
        try simp only [Act.put]
        refine wpAnyH_take (i := 7) (v := .int .i64 (q : Nat)) rfl (by kernel_rfl) (by kernel_rfl) (by kernel_rfl) (fun _ _ _ h => h) (Or.inl ⟨by kernel_rfl, ?_⟩) (by assumption) ?_
        · intro wq hSq; go_simp
        try simp only [Act.put]
        refine wpAnyH_take (i := 8) (v := .int .i64 (sn : Nat)) rfl (by kernel_rfl) (by kernel_rfl) (by kernel_rfl) (fun _ _ _ h => h) (Or.inl ⟨by kernel_rfl, ?_⟩) (by assumption) ?_
        · intro wq hSq; go_simp
        try simp only [Act.put]
        refine wpAnyH_take (i := 9) (v := .int .i64 (q : Nat)) rfl (by kernel_rfl) (by kernel_rfl) (by kernel_rfl) (fun _ _ _ h => h) (Or.inl ⟨by kernel_rfl, ?_⟩) (by assumption) ?_
        · intro wq hSq; go_simp
        try simp only [Act.put]
        refine wpAnyH_take (i := 10) (v := .bool true) rfl (by kernel_rfl) (by kernel_rfl) (by kernel_rfl) (fun _ _ _ h => h) (Or.inl ⟨by kernel_rfl, ?_⟩) (by assumption) ?_
        · intro wq hSq; go_simp
        try simp only [Act.put]
        refine wpAnyH_done (by kernel_rfl) ?_ _
        refine NoPanic.normal ?_
        go_simp
        have HA_3 : Hid (Lies wd0 w.heap.size [.int .i64 now, .int .i64 next, .slice ab nb cb, .slice (some ⟨b1, o1, none⟩) nj cj]) := HA_2.out.belowS HX0.out
        have HB_3 : Hid (Below w.heap.size w wd0) := HB_2.out.trans (HX0.out.mono HB_2.out.size)
        clear HA_2 HB_2
        go_wp2
        obtain rfl := HSL2.out
        exact bodyPost_ret (v := .tuple #[.int .i64 sn, .int .i64 sl, .bool true]) (by simp [results, Tryz.results10, go_sem]) rfl ⟨rfl, HB_3.out⟩
end Go.Proofs.YtfhknkppiidnkaaGreat
namespace Go.Proofs.YtfhknkppiidnkaaGreat
open Go.RowKit Go.ChangeMaps Go.MapKept

def mes (n : Nat) : List (Int × Value) → List MapEntry
  | [] => []
  | x :: l => ⟨.int .i64 x.1, x.2, n⟩ :: mes (n + 1) l
def look (k : Int) : List (Int × Value) → Option Value
  | [] => none
  | x :: l => if k = x.1 then some x.2 else look k l
theorem mes_append (n : Nat) (l : List (Int × Value)) (x : Int × Value) : mes n (l ++ [x]) = mes n l ++ [⟨.int .i64 x.1, x.2, n + l.length⟩] := by
  induction l generalizing n with
  | nil => rfl
  | cons y l ih => simp only [List.cons_append, mes, ih, List.length_cons, Nat.add_assoc, Nat.add_comm 1]
theorem look_append (k : Int) (l : List (Int × Value)) (x : Int × Value) (h : look k l = none) : look k (l ++ [x]) = if k = x.1 then some x.2 else none := by
  induction l with
  | nil => rfl
  | cons y l ih =>
    simp only [look] at h
    split at h
    · simp at h
    · rename_i hk
      simp only [List.cons_append, look, if_neg hk]
      exact ih h
theorem look_none {k : Int} {l : List (Int × Value)} (h : ∀ x ∈ l, x.1 ≠ k) : look k l = none := by
  induction l with
  | nil => rfl
  | cons y l ih =>
    simp only [look]
    rw [if_neg (fun e => h y (by simp) e.symm)]
    exact ih fun x hx => h x (by simp [hx])
theorem find_mes_none {k : Int} : ∀ (l : List (Int × Value)) (n i : Nat), look k l = none → Instr.findNow (.int .i64) (.int .i64 k) (mes n l) i = some none
  | [], _, _, _ => rfl
  | x :: l, n, i, h => by
    simp only [look] at h
    split at h
    · simp at h
    · rename_i hk
      simp only [mes, Instr.findNow, Instr.sameNow, if_true]
      rw [show (k == x.1) = false by simp [hk]]
      exact find_mes_none l (n + 1) (i + 1) h
theorem find_mes_some {k : Int} {v : Value} : ∀ (l : List (Int × Value)) (n i : Nat), look k l = some v → ∃ j, Instr.findNow (.int .i64) (.int .i64 k) (mes n l) i = some (some (j, v))
  | [], _, _, h => by simp [look] at h
  | x :: l, n, i, h => by
    simp only [look] at h
    split at h
    · rename_i hk
      simp only [mes, Instr.findNow, Instr.sameNow, if_true]
      rw [show (k == x.1) = true by simp [hk]]
      exact ⟨i, by simpa using h⟩
    · rename_i hk
      simp only [mes, Instr.findNow, Instr.sameNow, if_true]
      rw [show (k == x.1) = false by simp [hk]]
      exact find_mes_some l (n + 1) (i + 1) h
/-- block b is a map with just these entries -/
def IsMap (w : World) (b : Nat) (l : List (Int × Value)) : Prop := w.heap[b]? = some (.map (mes 0 l).toArray l.length)
theorem IsMap.lt {w : World} {b : Nat} {l : List (Int × Value)} (h : IsMap w b l) : b < w.heap.size := by
  rcases Nat.lt_or_ge b w.heap.size with hl | hl
  · exact hl
  · unfold IsMap at h; rw [Array.getElem?_eq_none hl] at h; simp at h
theorem isMap_new (w : World) : IsMap (w.alloc (.map #[] 0)) w.heap.size [] := by
  show (w.heap.push _)[w.heap.size]? = _
  simp [mes]
theorem IsMap.below {w w' : World} {b : Nat} {l : List (Int × Value)} (h : IsMap w b l) (hb : Below w.heap.size w w') : IsMap w' b l := (hb.block b h.lt).trans h
theorem IsMap.grown {w w' : World} {b : Nat} {l : List (Int × Value)} {row : Option Nat} (h : IsMap w b l) (hg : w.grownBy w' row) (hne : row ≠ some b) : IsMap w' b l := (hg.block b h.lt (fun e => hne e.symm)).trans h
theorem IsMap.alloc {w : World} {b : Nat} {l : List (Int × Value)} (h : IsMap w b l) (o : Obj) : IsMap (w.alloc o) b l := h.grown (World.grownBy_alloc w o none) (by simp)
theorem IsMap.setCell {w : World} {b : Nat} {l : List (Int × Value)} (h : IsMap w b l) (p : Addr) (v : Value) : IsMap (w.setCell p v) b l := by
  unfold IsMap at h ⊢
  by_cases e : p.block = b
  · subst e
    simp [World.setCell, Array.getElem?_modify, h]
  · simp [World.setCell, Array.getElem?_modify, h, e]
/-- a store at a new key -/
theorem IsMap.put {P : Program} {w : World} {b : Nat} {l : List (Int × Value)} {t k e : TypeId} (h : IsMap w b l) (ht : P.underlying t = some (.map k e)) (hk : P.underlying k = some (.int .i64)) (key : Int) (v : Value) (hn : look key l = none) :
    ∃ w', (Instr.mapUpdate t (.map (some b)) (.int .i64 key) v).run P w = .ok () w' ∧ IsMap w' b (l ++ [(key, v)]) ∧ w.grownBy w' (some b) := by
  have hf : (Instr.findKey k (.int .i64 key) (mes 0 l)).run P w = .ok none w := by
    simp [Instr.findKey, run_underlying hk, find_mes_none l 0 0 hn, Result.andThen]
  refine ⟨setBlock w b (.map ((mes 0 l).toArray.push ⟨.int .i64 key, v, l.length⟩) (l.length + 1)), ?_, ?_, ⟨rfl, rfl, rfl, by simp [setBlock], fun i _ hi => heap_setBlock_other h _ (fun e => hi (by rw [e]))⟩⟩
  · simp [Instr.mapUpdate, run_underlying ht, MapKept.run_getObj_map h, run_checkKey hk (show IsKey (.int .i64) (.int .i64 key) from rfl) false 9999, hf, MapKept.run_setObj_map _ h, Result.andThen, setBlock]
  · unfold IsMap
    rw [heap_setBlock_same h, mes_append, Nat.zero_add]
    simp
/-- what is there under a key -/
theorem IsMap.get {P : Program} {w : World} {b : Nat} {l : List (Int × Value)} {t k e : TypeId} (h : IsMap w b l) (ht : P.underlying t = some (.map k e)) (hk : P.underlying k = some (.int .i64)) (key : Int) (v : Value) (hn : look key l = some v) (ok : Bool) :
    (Instr.lookup t (.map (some b)) (.int .i64 key) ok).run P w = .ok (if ok then .tuple #[v, .bool true] else v) w := by
  obtain ⟨j, hj⟩ := find_mes_some l 0 0 hn
  have hf : (Instr.findKey k (.int .i64 key) (mes 0 l)).run P w = .ok (some (j, v)) w := by
    simp [Instr.findKey, run_underlying hk, hj, Result.andThen]
  cases ok <;> simp [Instr.lookup, run_underlying ht, MapKept.run_getObj_map h, run_checkKey hk (show IsKey (.int .i64) (.int .i64 key) from rfl) _ 9999, hf, Result.andThen]
theorem IsMap.miss {P : Program} {w : World} {b : Nat} {l : List (Int × Value)} {t k e : TypeId} (h : IsMap w b l) (ht : P.underlying t = some (.map k e)) (hk : P.underlying k = some (.int .i64)) (key : Int) {z : Value} (hz : (zeroValue e).run P w = .ok z w) (hn : look key l = none) (ok : Bool) :
    (Instr.lookup t (.map (some b)) (.int .i64 key) ok).run P w = .ok (if ok then .tuple #[z, .bool false] else z) w := by
  have hf : (Instr.findKey k (.int .i64 key) (mes 0 l)).run P w = .ok none w := by
    simp [Instr.findKey, run_underlying hk, find_mes_none l 0 0 hn, Result.andThen]
  cases ok <;> simp [Instr.lookup, run_underlying ht, MapKept.run_getObj_map h, run_checkKey hk (show IsKey (.int .i64) (.int .i64 key) from rfl) _ 9999, hf, hz, Result.andThen]
/-- the store, at the operation -/
theorem wpList_mapUpdate_new {P : Program} (w : World) {ops : Array Oper} {rest : List Oper} {o : Oper} {a : Act} {Q : Exit → Act → World → Prop}
    (hg : o.guard = none) (m x v : Operand) (t : TypeId) (hop : o.op = Op.mapUpdate t m x v) (k e : TypeId) (ht : P.underlying t = some (.map k e)) (hk : P.underlying k = some (.int .i64))
    (b : Nat) (l : List (Int × Value)) (hm : a.eval m = .map (some b)) (h : IsMap w b l) (key : Int) (val : Value) (hx : a.eval x = .int .i64 key) (hv : a.eval v = val) (hn : look key l = none)
    (hK : ∀ w', IsMap w' b (l ++ [(key, val)]) → w.grownBy w' (some b) → wpList P ops Q rest (a.put o.dst undef) w') :
    wpList P ops Q (o :: rest) a w := by
  refine wpList_plain hg fun K' hK' => ?_
  obtain ⟨w', hrun, r1, r2⟩ := h.put ht hk key val hn
  unfold Oper.wp
  simp [execOp, hop, hm, hx, hv, hrun, Result.andThen]
  exact hK' _ _ (hK w' r1 r2)
end Go.Proofs.YtfhknkppiidnkaaGreat
namespace Go.Proofs.YtfhknkppiidnkaaGreat
open Go.RowKit

theorem grown_setCell (w : World) (p : Addr) (v : Value) : w.grownBy (w.setCell p v) (some p.block) :=
  ⟨rfl, rfl, rfl, by simp [World.setCell], fun i _ hi => by
    have he : p.block ≠ i := fun e => hi (by rw [e])
    simp [World.setCell, Array.getElem?_modify, he]⟩
theorem grown_of_belowN {w w' : World} (hb : Below w.heap.size w w') (row : Option Nat) : w.grownBy w' row := ⟨hb.os, hb.tape, hb.output, hb.size, fun k hk _ => hb.block k hk⟩
theorem below_of_grown {w w' : World} {row : Option Nat} {B : Nat} (h : w.grownBy w' row) (hB : B ≤ w.heap.size) (hr : ∀ z, row = some z → B ≤ z) : Below B w w' :=
  ⟨h.os, h.tape, h.output, h.size, fun k hk => h.block k (Nat.lt_of_lt_of_le hk hB) (fun e => absurd (hr k e.symm) (by omega))⟩
theorem step_append_at {P : Program} {ops : Array Oper} {o : Oper} {a : Act} {w : World} {K : Act → World → Prop} {Q : Exit → Act → World → Prop} {E : Prop}
    (hg : o.guard = none) (s x : Operand) (t : TypeId) (hop : o.op = Op.call { callee := Callee.builtin Builtin.append, args := #[s, x], argTypes := #[t, t] })
    (base : Nat) (e : TypeId) (i : TypeInfo) (z : Value) (size bytes : Nat) (ht : P.underlying t = some (.slice e)) (hi : P.info? e = some i) (hz : i.zero = some z) (hsize : i.size = size) (hby : i.bytes = bytes) (hzs : z.cells.size = size) (hsz : 0 < size)
    (v : Value) (n : Nat) (xs : List Value) (hs : a.eval s = v) (hown : w.ownsRow base e size v n xs) (ad : Addr) (m c : Nat) (news : List Value) (hx : a.eval x = .slice (some ad) m c) (hl : news.length = m * size) (hnews : ∀ j u, news[j]? = some u → w.cell? (ad.add j) = some u) (h1 : ∀ u ∈ news, u.oneCell' = true)
    (h63 : n + m ≤ maxLen) (hbytes : (n + m) * bytes ≤ 140737488355328) (hbase : base ≤ w.heap.size)
    (hK : ∀ v' w', w'.ownsRow base e size v' (n + m) (xs ++ news) → w.grownBy w' v.ownBlock → (v'.ownBlock = v.ownBlock ∨ v'.ownBlock = some w.heap.size) → K (a.put o.dst v') w') :
    if Region.wanted o (yielded ops a.tmps) = true then Oper.wp P o a w K Q else E := by
  have hw : Region.wanted o (yielded ops a.tmps) = true := by simp [Region.wanted, hg]
  rw [if_pos hw]
  obtain ⟨v', w', hrun, r1, r2, _, r4⟩ := run_append_own_at (P := P) w base t o.type e i z size bytes ht hi hz hsize hby hzs hsz v n xs hown ad m c news hl hnews h1 h63 hbytes hbase
  unfold Oper.wp
  simp [execOp, hop, resolve, invoke, builtin, hs, hx, hrun, Result.andThen]
  exact hK v' w' r1 r2 r4
/-- the blocks of a slice -/
def ob : Option Addr → List Nat
  | none => []
  | some x => [x.block]
theorem own_ob {a : Option Addr} {n c g : Nat} (h : (Value.slice a n c).ownBlock = some g) : g ∈ ob a := by
  cases a with
  | none => simp [Value.ownBlock] at h
  | some x => simp [Value.ownBlock] at h; simp [ob, h]
theorem ob_own {a : Option Addr} {n c g : Nat} (h : g ∈ ob a) : (Value.slice a n c).ownBlock = some g := by
  cases a with
  | none => simp [ob] at h
  | some x => simp [ob] at h; simp [Value.ownBlock, h]
/-- tasks in a block of their own -/
def OwnsT (w : World) (base : Nat) (a : Option Addr) (n c : Nat) (ts : List M.Tk) : Prop := ts.length = n ∧ w.ownsRow base 74 3 (.slice a n c) n (ts.flatMap tvs)
theorem OwnsT.grown {w w' : World} {base : Nat} {a : Option Addr} {n c : Nat} {ts : List M.Tk} {row : Option Nat} (h : OwnsT w base a n c ts) (hg : w.grownBy w' row) (hr : ∀ g ∈ ob a, row ≠ some g) : OwnsT w' base a n c ts := by
  refine ⟨h.1, h.2.kept hg ?_⟩
  cases e : (Value.slice a n c).ownBlock with
  | none => exact .inl rfl
  | some g => exact .inr (fun e2 => hr g (own_ob e) e2.symm)
theorem OwnsT.lt {w : World} {base : Nat} {a : Option Addr} {n c : Nat} {ts : List M.Tk} (h : OwnsT w base a n c ts) : ∀ g ∈ ob a, base ≤ g ∧ g < w.heap.size := fun g hg => World.ownsRow.lt h.2 g (ob_own hg)
theorem OwnsT.sees {w : World} {base : Nat} {a : Option Addr} {n c : Nat} {ts : List M.Tk} (h : OwnsT w base a n c ts) : SeesT w a n c ts := by
  obtain ⟨hl, h1, h2⟩ := h
  have hx : w.ownsRow base 74 3 (.slice a n c) n (ts.flatMap tvs) := ⟨h1, h2⟩
  rcases h2 with ⟨e, h0⟩ | ⟨g, cap, cur, e, hb, hh, hn, hm, hs, ht⟩
  · simp only [Value.slice.injEq] at e
    obtain ⟨rfl, rfl, rfl⟩ := e
    exact ⟨hl, Nat.le_refl _, by decide, fun _ => ⟨rfl, rfl⟩, .inl rfl⟩
  · simp only [Value.slice.injEq, true_and] at e
    obtain ⟨rfl, rfl⟩ := e
    refine ⟨hl, hn, by unfold maxLen at hm; omega, fun e => by simp at e, ?_⟩
    refine .inr ⟨g, 0, rfl, fun i hi j hj => ?_⟩
    rw [Nat.zero_add, World.ownsRow.cellAt hx (i * 3 + j) (by omega), flat_get tvs_len M.t0 ts (by omega) hj]
theorem OwnsT.form {w : World} {base n : Nat} {v : Value} {ts : List M.Tk} (hl : ts.length = n) (h : w.ownsRow base 74 3 v n (ts.flatMap tvs)) : ∃ a cap, v = .slice a n cap ∧ OwnsT w base a n cap ts := by
  rcases h.2 with ⟨rfl, rfl⟩ | ⟨g, cap, cur, rfl, _⟩
  · exact ⟨none, 0, rfl, hl, h⟩
  · exact ⟨_, cap, rfl, hl, h⟩
/-- a job of a hall: where it lies, and its tasks -/
structure HJ where
  j : M.Jb
  b : Nat
  a : Option Addr
  c : Nat
def HJ.vs (q : HJ) : List Value := jvs q.j q.a q.c
def HJ.ent (q : HJ) : Int × Value := (q.j.id, .pointer (some ⟨q.b, 0, none⟩))
def HJ.bl (q : HJ) : List Nat := q.b :: ob q.a
/-- the jobs of a hall -/
def HallJ (w : World) (base : Nat) (qs : List HJ) : Prop := ∀ q ∈ qs, Lies w q.b q.vs ∧ OwnsT w base q.a q.j.ts.length q.c q.j.ts
theorem HallJ.grown {w w' : World} {base : Nat} {qs : List HJ} {row : Option Nat} (h : HallJ w base qs) (hg : w.grownBy w' row) (hr : ∀ g ∈ qs.flatMap HJ.bl, row ≠ some g) : HallJ w' base qs := fun q hq => by
  have hm : ∀ g ∈ q.bl, row ≠ some g := fun g hg => hr g (List.mem_flatMap.2 ⟨q, hq, hg⟩)
  exact ⟨(h q hq).1.grown hg (hm q.b (by simp [HJ.bl])), (h q hq).2.grown hg fun g hg => hm g (by simp [HJ.bl, hg])⟩
def bls (h mb : Nat) (ab ai : Option Addr) (qs : List HJ) : List Nat := h :: mb :: (ob ab ++ (ob ai ++ qs.flatMap HJ.bl))
/-- a hall -/
structure Hall (w : World) (base h : Nat) (now next : Int) (ab : Option Addr) (nb cb : Nat) (bs : List Int) (ai : Option Addr) (ni ci : Nat) (mb : Nat) (qs : List HJ) : Prop where
  l : Lies w h [.int .i64 now, .int .i64 next, .slice ab nb cb, .slice ai ni ci, .map (some mb)]
  b : Owns 2 w base ab nb cb bs
  i : Owns 2 w base ai ni ci (qs.map (·.j.id))
  m : IsMap w mb (qs.map HJ.ent)
  j : HallJ w base qs
  d : (bls h mb ab ai qs).Nodup
  lo : ∀ g ∈ bls h mb ab ai qs, base ≤ g
theorem Owns.grown {w w' : World} {base : Nat} {a : Option Addr} {n c : Nat} {zs : List Int} {row : Option Nat} {t : TypeId} (h : Owns t w base a n c zs) (hg : w.grownBy w' row) (hr : ∀ g ∈ ob a, row ≠ some g) : Owns t w' base a n c zs := by
  refine World.ownsRow.kept h hg ?_
  cases e : (Value.slice a n c).ownBlock with
  | none => exact .inl rfl
  | some g => exact .inr (fun e2 => hr g (own_ob e) e2.symm)
section
variable {w w' : World} {base h : Nat} {now next : Int} {ab : Option Addr} {nb cb : Nat} {bs : List Int} {ai : Option Addr} {ni ci : Nat} {mb : Nat} {qs : List HJ}
theorem Hall.grown {row : Option Nat} (H : Hall w base h now next ab nb cb bs ai ni ci mb qs) (hg : w.grownBy w' row) (hr : ∀ g ∈ bls h mb ab ai qs, row ≠ some g) : Hall w' base h now next ab nb cb bs ai ni ci mb qs :=
  ⟨H.l.grown hg (hr h (by simp [bls])), H.b.grown hg fun g hg => hr g (by simp [bls, hg]), H.i.grown hg fun g hg => hr g (by simp [bls, hg]), H.m.grown hg (hr mb (by simp [bls])), H.j.grown hg fun g hg => hr g (by unfold bls; simp only [List.mem_cons, List.mem_append]; exact .inr (.inr (.inr (.inr hg)))), H.d, H.lo⟩
theorem Hall.below (H : Hall w base h now next ab nb cb bs ai ni ci mb qs) (hb : Below w.heap.size w w') : Hall w' base h now next ab nb cb bs ai ni ci mb qs := H.grown (grown_of_belowN hb none) (fun _ _ => by simp)
theorem Hall.lt (H : Hall w base h now next ab nb cb bs ai ni ci mb qs) : ∀ g ∈ bls h mb ab ai qs, g < w.heap.size := by
  intro g hg
  unfold bls at hg
  simp only [List.mem_cons, List.mem_append] at hg
  rcases hg with rfl | rfl | hg | hg | hg
  · exact H.l.2.2
  · exact H.m.lt
  · exact (World.ownsRow.lt H.b g (ob_own hg)).2
  · exact (World.ownsRow.lt H.i g (ob_own hg)).2
  · obtain ⟨q, hq, hg⟩ := List.mem_flatMap.1 hg
    simp only [HJ.bl, List.mem_cons] at hg
    rcases hg with rfl | hg
    · exact (H.j q hq).1.2.2
    · exact ((H.j q hq).2.lt g hg).2
/-- which blocks are unlike -/
theorem bls_nodup : (bls h mb ab ai qs).Nodup ↔ (h ≠ mb ∧ h ∉ ob ab ∧ h ∉ ob ai ∧ h ∉ qs.flatMap HJ.bl) ∧ (mb ∉ ob ab ∧ mb ∉ ob ai ∧ mb ∉ qs.flatMap HJ.bl) ∧ (∀ g ∈ ob ab, g ∉ ob ai ∧ g ∉ qs.flatMap HJ.bl) ∧ (∀ g ∈ ob ai, g ∉ qs.flatMap HJ.bl) ∧ (qs.flatMap HJ.bl).Nodup := by
  have h1 : ∀ a : Option Addr, (ob a).Nodup := fun a => by cases a <;> simp [ob]
  unfold bls
  rw [List.nodup_cons, List.nodup_cons, List.nodup_append, List.nodup_append]
  simp only [List.mem_cons, List.mem_append, not_or]
  constructor
  · rintro ⟨⟨a1, a2, a3, a4⟩, ⟨b2, b3, b4⟩, _, ⟨_, c1, c2⟩, c3⟩
    exact ⟨⟨a1, a2, a3, a4⟩, ⟨b2, b3, b4⟩, fun g hg => ⟨fun e => c3 g hg g (.inl e) rfl, fun e => c3 g hg g (.inr e) rfl⟩, fun g hg e => c2 g hg g e rfl, c1⟩
  · rintro ⟨⟨a1, a2, a3, a4⟩, ⟨b2, b3, b4⟩, c3, c2, c1⟩
    exact ⟨⟨a1, a2, a3, a4⟩, ⟨b2, b3, b4⟩, h1 _, ⟨h1 _, c1, fun g hg g' hg' e => c2 g hg (e ▸ hg')⟩, fun g hg g' hg' e => hg'.elim (fun x => (c3 g hg).1 (e ▸ x)) (fun x => (c3 g hg).2 (e ▸ x))⟩
end
theorem cutK {P G : Prop} (f : Key P → G) (h : P) : G := f ⟨h⟩
theorem Hall.entered {w1 w7 w8 w9 : World} {base h : Nat} {now next : Int} {ab : Option Addr} {nb cb : Nat} {bs : List Int} {ai : Option Addr} {ni ci : Nat} {mb : Nat} {qs : List HJ} (H : Hall w1 base h now next ab nb cb bs ai ni ci mb qs) (q : HJ)
    (hJ : Lies w1 q.b q.vs) (hT : OwnsT w1 base q.a q.j.ts.length q.c q.j.ts) (hqb : q.b ∉ bls h mb ab ai qs) (hqa : ∀ g ∈ ob q.a, g ∉ bls h mb ab ai qs) (hqq : q.b ∉ ob q.a) (hql : base ≤ q.b)
    {ai' : Option Addr} {ci' z : Nat} (g7 : w1.grownBy w7 (Value.slice ai ni ci).ownBlock) (o7 : Owns 2 w7 base ai' (ni + 1) ci' (qs.map (fun q : HJ => q.j.id) ++ [q.j.id])) (hz : w1.heap.size ≤ z)
    (a7 : (Value.slice ai' (ni + 1) ci').ownBlock = (Value.slice ai ni ci).ownBlock ∨ (Value.slice ai' (ni + 1) ci').ownBlock = some z)
    (g8 : w7.grownBy w8 (some h)) (l8 : Lies w8 h [.int .i64 now, .int .i64 next, .slice ab nb cb, .slice ai' (ni + 1) ci', .map (some mb)]) (g9 : w8.grownBy w9 (some mb)) (m9 : IsMap w9 mb (qs.map HJ.ent ++ [q.ent])) :
    Hall w9 base h now next ab nb cb bs ai' (ni + 1) ci' mb (qs ++ [q]) := by
  obtain ⟨⟨hm, hab, hai, hjs⟩, ⟨mab, mai, mjs⟩, dab, dai, djs⟩ := bls_nodup.1 H.d
  have lt1 := H.lt
  have sj : ∀ {g}, g ∈ qs.flatMap HJ.bl → g ∈ bls h mb ab ai qs := fun {g} hg => by unfold bls; simp only [List.mem_cons, List.mem_append]; exact .inr (.inr (.inr (.inr hg)))
  have sb : ∀ {g}, g ∈ ob ab → g ∈ bls h mb ab ai qs := fun {g} hg => by simp [bls, hg]
  have si : ∀ {g}, g ∈ ob ai → g ∈ bls h mb ab ai qs := fun {g} hg => by simp [bls, hg]
  have sh : h ∈ bls h mb ab ai qs := by simp [bls]
  have sm : mb ∈ bls h mb ab ai qs := by simp [bls]
  have ha : ∀ {g}, g ∈ ob ai' → g ∈ ob ai ∨ w1.heap.size ≤ g := fun {g} hg => by
    have e := ob_own (n := ni + 1) (c := ci') hg
    rcases a7 with e2 | e2
    · exact .inl (own_ob (e2.symm.trans e))
    · rw [e2] at e; injection e with e; exact .inr (by omega)
  have old : ∀ {g}, g ∈ bls h mb ab ai qs → g ∉ ob ai → g ∉ ob ai' := fun {g} hg hn hi => by
    rcases ha hi with h1 | h1
    · exact hn h1
    · have := lt1 g hg; omega
  have qlt : q.b < w1.heap.size := hJ.2.2
  have qalt : ∀ g ∈ ob q.a, g < w1.heap.size := fun g hg => (hT.lt g hg).2
  have nsome : ∀ {a b : Nat}, a ≠ b → some a ≠ some b := fun hne e => hne (Option.some.inj e)
  have n7 : ∀ {g}, g ∉ ob ai → (Value.slice ai ni ci).ownBlock ≠ some g := fun hn e => hn (own_ob e)
  have neq : ∀ {x g : Nat}, x ∈ bls h mb ab ai qs → g ∉ bls h mb ab ai qs → x ≠ g := fun hx hg e => hg (e ▸ hx)
  have qi : q.b ∉ ob ai' := fun hi => (ha hi).elim (fun h1 => hqb (si h1)) (fun h1 => by omega)
  have qai : ∀ g ∈ ob q.a, g ∉ ob ai' := fun g hg hi => (ha hi).elim (fun h1 => hqa g hg (si h1)) (fun h1 => by have := qalt g hg; omega)
  have fm : ∀ {g}, g ∈ (qs ++ [q]).flatMap HJ.bl ↔ g ∈ qs.flatMap HJ.bl ∨ g = q.b ∨ g ∈ ob q.a := fun {g} => by simp [List.flatMap_append, HJ.bl]
  refine ⟨l8.grown g9 (nsome hm.symm), ?_, ?_, ?_, ?_, ?_, ?_⟩
  · exact ((H.b.grown g7 fun g hg => n7 (dab g hg).1).grown g8 fun g hg => nsome fun e => hab (e ▸ hg)).grown g9 fun g hg => nsome fun e => mab (e ▸ hg)
  · rw [List.map_append]
    exact (o7.grown g8 fun g hg => nsome fun e => old sh hai (e ▸ hg)).grown g9 fun g hg => nsome fun e => old sm mai (e ▸ hg)
  · rw [List.map_append]; exact m9
  · intro x hx
    rcases List.mem_append.1 hx with hx | hx
    · have := ((H.j.grown g7 fun g hg => n7 fun e => dai g e hg).grown g8 fun g hg => nsome fun e => hjs (e ▸ hg)).grown g9 fun g hg => nsome fun e => mjs (e ▸ hg)
      exact this x hx
    · simp only [List.mem_singleton] at hx
      subst hx
      exact ⟨((hJ.grown g7 (n7 fun e => hqb (si e))).grown g8 (nsome (neq sh hqb))).grown g9 (nsome (neq sm hqb)), ((hT.grown g7 fun g hg => n7 fun e => hqa g hg (si e)).grown g8 fun g hg => nsome (neq sh (hqa g hg))).grown g9 fun g hg => nsome (neq sm (hqa g hg))⟩
  · refine bls_nodup.2 ⟨⟨hm, hab, old sh hai, fun e => ?_⟩, ⟨mab, old sm mai, fun e => ?_⟩, fun g hg => ⟨old (sb hg) (dab g hg).1, fun e => ?_⟩, fun g hg e => ?_, ?_⟩
    · rcases fm.1 e with e | e | e
      · exact hjs e
      · exact neq sh hqb e
      · exact hqa _ e sh
    · rcases fm.1 e with e | e | e
      · exact mjs e
      · exact neq sm hqb e
      · exact hqa _ e sm
    · rcases fm.1 e with e | e | e
      · exact (dab g hg).2 e
      · exact hqb (e ▸ sb hg)
      · exact hqa _ e (sb hg)
    · rcases fm.1 e with e | e | e
      · exact old (sj e) (fun h1 => dai g h1 e) hg
      · exact qi (e ▸ hg)
      · exact qai g e hg
    · rw [List.flatMap_append, List.nodup_append]
      refine ⟨djs, ?_, ?_⟩
      · have h1 : (ob q.a).Nodup := by cases q.a <;> simp [ob]
        simp only [List.flatMap_cons, List.flatMap_nil, List.append_nil, HJ.bl, List.nodup_cons]
        exact ⟨hqq, h1⟩
      · intro g hg g' hg' e
        subst e
        simp only [List.flatMap_cons, List.flatMap_nil, List.append_nil, HJ.bl, List.mem_cons] at hg'
        rcases hg' with e | e
        · exact hqb (e ▸ sj hg)
        · exact hqa _ e (sj hg)
  · intro g hg
    unfold bls at hg
    simp only [List.mem_cons, List.mem_append] at hg
    rcases hg with rfl | rfl | hg | hg | hg
    · exact H.lo _ sh
    · exact H.lo _ sm
    · exact H.lo _ (sb hg)
    · exact (World.ownsRow.lt o7 g (ob_own hg)).1
    · rcases fm.1 hg with e | e | e
      · exact H.lo _ (sj e)
      · exact e ▸ hql
      · exact (hT.lt g e).1
/-- what the map tells of a job -/
theorem look_ents (id : Int) : ∀ qs : List HJ, look id (qs.map HJ.ent) = (qs.find? (fun q => id == q.j.id)).map fun q => .pointer (some ⟨q.b, 0, none⟩)
  | [] => rfl
  | q :: qs => by
    rw [List.map_cons, List.find?_cons]
    show (if id = q.j.id then _ else _) = _
    by_cases e : id = q.j.id
    · rw [if_pos e, show (id == q.j.id) = true by simp [e]]; rfl
    · rw [if_neg e, show (id == q.j.id) = false by simp [e]]; exact look_ents id qs
end Go.Proofs.YtfhknkppiidnkaaGreat
namespace Go.Proofs.YtfhknkppiidnkaaGreat
open Go.RowKit

set_option maxHeartbeats 8000000 in
set_option maxRecDepth 10000 in
theorem enter_any {base h : Nat} {now next : Int} {ab : Option Addr} {nb cb : Nat} {bs : List Int} {ai : Option Addr} {ni ci : Nat} {mb : Nat} {qs : List HJ} (jq : M.Jb) (ta : Option Addr) (tc : Nat) (w : World)
    (H : Hall w base h now next ab nb cb bs ai ni ci mb qs) (hn : ∀ q ∈ qs, q.j.id ≠ jq.id) (hT : OwnsT w base ta jq.ts.length tc jq.ts) (hd : ∀ g ∈ ob ta, g ∉ bls h mb ab ai qs) (hb0 : base ≤ w.heap.size) (hni : ni ≤ 1000) :
    Calls Tryz.prog 85 #[.pointer (some ⟨h, 0, none⟩), .agg (jvs jq ta tc).toArray] w fun e w' => e = .returned (.tuple #[]) ∧ ∃ ai' ci', Hall w' base h now next ab nb cb bs ai' (ni + 1) ci' mb (qs ++ [⟨jq, w.heap.size, ta, tc⟩]) ∧ Below base w w' := by
  have HH : Hid (Hall w base h now next ab nb cb bs ai ni ci mb qs) := H
  have HN : Hid (∀ q ∈ qs, q.j.id ≠ jq.id) := hn
  have HT : Hid (OwnsT w base ta jq.ts.length tc jq.ts) := hT
  have HD : Hid (∀ g ∈ ob ta, g ∉ bls h mb ab ai qs) := hd
  have HI : Hid (∃ i0, Tryz.prog.info? 2 = some i0 ∧ i0.zero = some (.int .i64 0) ∧ i0.size = 1 ∧ i0.bytes = 8) := by
    obtain ⟨i0, h1, h2, h3, h4⟩ := info_parts info_i64
    exact ⟨i0, h1, h2, h3, h4⟩
  clear H hn hT hd
  obtain ⟨jid, ⟨⟨a, b, c', d, f, k⟩, ⟨a', b', c'', d', f', k'⟩⟩, ⟨s1, s2⟩, jr, jg, tl⟩ := jq
  dsimp only [jvs] at HT HN ⊢
  generalize htl : tl.length = tn at HT ⊢
  have HTL : Hid (tl.length = tn) := htl
  clear htl
  go_enter Tryz.func85, Tryz.ntmps85
  have HJ_0 : Hid (Lies (w.alloc (.cells #[.int .i64 jid, .int .i64 a, .int .i64 b, .int .i64 c', .int .i64 d, .int .i64 f, .int .i64 k, .int .i64 a', .int .i64 b', .int .i64 c'', .int .i64 d', .int .i64 f', .int .i64 k', .int .i64 s1, .int .i64 s2, .int .i64 jr, .bool jg, .slice ta tn tc] 44)) w.heap.size [.int .i64 jid, .int .i64 a, .int .i64 b, .int .i64 c', .int .i64 d, .int .i64 f, .int .i64 k, .int .i64 a', .int .i64 b', .int .i64 c'', .int .i64 d', .int .i64 f', .int .i64 k', .int .i64 s1, .int .i64 s2, .int .i64 jr, .bool jg, .slice ta tn tc]) := lies_new _ _ _
  have HG_0 : Hid (Hall (w.alloc (.cells #[.int .i64 jid, .int .i64 a, .int .i64 b, .int .i64 c', .int .i64 d, .int .i64 f, .int .i64 k, .int .i64 a', .int .i64 b', .int .i64 c'', .int .i64 d', .int .i64 f', .int .i64 k', .int .i64 s1, .int .i64 s2, .int .i64 jr, .bool jg, .slice ta tn tc] 44)) base h now next ab nb cb bs ai ni ci mb qs) := HH.out.below ((Below.refl _ _).alloc (Nat.le_refl _) _)
  have HTa_0 : Hid (OwnsT (w.alloc (.cells #[.int .i64 jid, .int .i64 a, .int .i64 b, .int .i64 c', .int .i64 d, .int .i64 f, .int .i64 k, .int .i64 a', .int .i64 b', .int .i64 c'', .int .i64 d', .int .i64 f', .int .i64 k', .int .i64 s1, .int .i64 s2, .int .i64 jr, .bool jg, .slice ta tn tc] 44)) base ta tn tc tl) := HT.out.grown (World.grownBy_alloc w _ none) (fun _ _ => by simp)
  have HBa : Hid (Below w.heap.size w (w.alloc (.cells #[.int .i64 jid, .int .i64 a, .int .i64 b, .int .i64 c', .int .i64 d, .int .i64 f, .int .i64 k, .int .i64 a', .int .i64 b', .int .i64 c'', .int .i64 d', .int .i64 f', .int .i64 k', .int .i64 s1, .int .i64 s2, .int .i64 jr, .bool jg, .slice ta tn tc] 44))) := (Below.refl _ _).alloc (Nat.le_refl _) _
  have HSZ : Hid ((w.alloc (.cells #[.int .i64 jid, .int .i64 a, .int .i64 b, .int .i64 c', .int .i64 d, .int .i64 f, .int .i64 k, .int .i64 a', .int .i64 b', .int .i64 c'', .int .i64 d', .int .i64 f', .int .i64 k', .int .i64 s1, .int .i64 s2, .int .i64 jr, .bool jg, .slice ta tn tc] 44)).heap.size = w.heap.size + 1) := by show _ = _; simp
  go_wp2_with fail
  generalize (w.alloc (.cells #[.int .i64 jid, .int .i64 a, .int .i64 b, .int .i64 c', .int .i64 d, .int .i64 f, .int .i64 k, .int .i64 a', .int .i64 b', .int .i64 c'', .int .i64 d', .int .i64 f', .int .i64 k', .int .i64 s1, .int .i64 s2, .int .i64 jr, .bool jg, .slice ta tn tc] 44)) = w1 at HJ_0 HG_0 HTa_0 HBa HSZ ⊢
  have h3 : w1.cell? ⟨h, 3, none⟩ = some (.slice ai ni ci) := HG_0.out.l.at 3
  have j0 : w1.cell? ⟨w.heap.size, 0, none⟩ = some (.int .i64 jid) := HJ_0.out.at 0
  have HLT : Hid (∀ g ∈ bls h mb ab ai qs, g < w.heap.size) := HH.out.lt
  have HB1 : Hid (base ≤ w1.heap.size) := by show _ ≤ _; rw [HSZ.out]; omega
  obtain ⟨i0, hi, hz0, hz1, hz2⟩ := HI.out
  have h3b : (w1.alloc (.cells #[.int .i64 jid] 2)).cell? ⟨h, 3, none⟩ = some (.slice ai ni ci) := (HG_0.out.l.alloc _).at 3
  have HND := bls_nodup.1 HH.out.d
  have HD1 : Hid (h ∉ ob ai) := HND.1.2.2.1
  have HD2 : Hid (∀ g ∈ ob ai, g ≠ w.heap.size) := fun g hg => by have := HLT.out g (by simp [bls, hg]); omega
  clear HND
  apply cutK
  case f =>
    intro key
    go_region_law (refine step_append_at rfl (.tmp 8) (.tmp 11) 24 rfl base 2 i0 (.int .i64 0) 1 8 Tryz.underlying24 hi hz0 hz1 hz2 rfl (by decide) (.slice ai ni ci) ni ((qs.map (fun q : HJ => q.j.id)).map (Value.int .i64)) (by simp [Act.eval]) (World.ownsRow.drew (World.ownsRow.alloc HG_0.out.i _)) ⟨w1.heap.size, 0, none⟩ 1 1 [.int .i64 jid] (by simp [Act.eval]) rfl (cell_one w1 jid _) (one_int jid) (by unfold maxLen; omega) (by omega) (by simp; exact Nat.le_succ_of_le HB1.out) ?_; intro v' w7 hown hgrow hat; have hown' : w7.ownsRow base 2 1 v' (ni + 1) (((qs.map (fun q : HJ => q.j.id)) ++ [jid]).map (Value.int .i64)) := (by rw [List.map_append]; exact hown); obtain ⟨ai', ci', rfl, ho⟩ := Owns.form hown'; have HO7 : Hid (Owns 2 w7 base ai' (ni + 1) ci' ((qs.map (fun q : HJ => q.j.id)) ++ [jid])) := ho; have HG7 : Hid (w1.grownBy w7 (Value.slice ai ni ci).ownBlock) := ((World.grownBy_alloc w1 _ _).trans (grown_drew _ _)).trans hgrow; have HA7 : Hid ((Value.slice ai' (ni + 1) ci').ownBlock = (Value.slice ai ni ci).ownBlock ∨ (Value.slice ai' (ni + 1) ci').ownBlock = some (w1.heap.size + 1)) := (show _ ∨ _ by simpa using hat); have HL7 : Hid (Lies w7 h [.int .i64 now, .int .i64 next, .slice ab nb cb, .slice ai ni ci, .map (some mb)]) := HG_0.out.l.grown HG7.out (fun e => HD1.out (own_ob e)); have c3 : w7.cell? ⟨h, 3, none⟩ = some (.slice ai ni ci) := HL7.out.at 3; have f3 : w7.frozen? ⟨h, 3, none⟩ = false := HL7.out.fr 3; clear hown hown' hgrow hat ho)
    all_goals
      clear c3 f3
      revert w7 ai' ci'
      exact key.out
  case h =>
    intro w7 ai' ci' HO7 HG7 HA7 HL7
    have HL8 : Hid (Lies (w7.setCell ⟨h, 3, none⟩ (.slice ai' (ni + 1) ci')) h [.int .i64 now, .int .i64 next, .slice ab nb cb, .slice ai' (ni + 1) ci', .map (some mb)]) := HL7.out.set 3 (by simp) _
    have HG8 : Hid (w7.grownBy (w7.setCell ⟨h, 3, none⟩ (.slice ai' (ni + 1) ci')) (some h)) := grown_setCell _ _ _
    generalize w7.setCell ⟨h, 3, none⟩ (.slice ai' (ni + 1) ci') = w8 at HL8 HG8 ⊢
    go_wp2_with fail
    have HND := bls_nodup.1 HH.out.d
    have HM8 : Hid (IsMap w8.drew mb (qs.map HJ.ent)) := show IsMap w8 mb _ from ((HG_0.out.m.grown HG7.out (fun e => HND.2.1.2.1 (own_ob e))).grown HG8.out (fun e => HND.1.1 (Option.some.inj e)))
    have HJ8 : Hid (Lies w8 w.heap.size [.int .i64 jid, .int .i64 a, .int .i64 b, .int .i64 c', .int .i64 d, .int .i64 f, .int .i64 k, .int .i64 a', .int .i64 b', .int .i64 c'', .int .i64 d', .int .i64 f', .int .i64 k', .int .i64 s1, .int .i64 s2, .int .i64 jr, .bool jg, .slice ta tn tc]) := (HJ_0.out.grown HG7.out (fun e => HD2.out _ (own_ob e) rfl)).grown HG8.out (fun e => by have := HLT.out h (by simp [bls]); have := Option.some.inj e; omega)
    obtain ⟨w9, hrun, hm9, hg9⟩ := HM8.out.put (P := Tryz.prog) (t := 104) Tryz.underlying104 Tryz.underlying2 jid (.pointer (some ⟨w.heap.size, 0, none⟩)) (by rw [look_ents, List.find?_eq_none.2 (fun q hq => by simpa using fun e => HN.out q hq e.symm)]; rfl)
    have HM9 : Hid (IsMap w9 mb (qs.map HJ.ent ++ [(jid, .pointer (some ⟨w.heap.size, 0, none⟩))])) := hm9
    have HG9 : Hid (w8.grownBy w9 (some mb)) := (grown_drew _ _).trans hg9
    clear hm9 hg9 HND
    have h4 : w8.cell? ⟨h, 4, none⟩ = some (.map (some mb)) := HL8.out.at 4
    have j8 : w8.cell? ⟨w.heap.size, 0, none⟩ = some (.int .i64 jid) := HJ8.out.at 0
    apply cutK
    case f =>
      intro key
      go_region_law (fail)
      all_goals exact key.out
    case h =>
      have hTq : OwnsT w1 base ta tl.length tc tl := by rw [HTL.out]; exact HTa_0.out
      have hJq : Lies w1 w.heap.size (jvs ⟨jid, ⟨⟨a, b, c', d, f, k⟩, ⟨a', b', c'', d', f', k'⟩⟩, (s1, s2), jr, jg, tl⟩ ta tc) := by have := HJ_0.out; rw [← HTL.out] at this; exact this
      have hqb : w.heap.size ∉ bls h mb ab ai qs := fun e => by have := HLT.out _ e; omega
      have hqq : w.heap.size ∉ ob ta := fun e => by have := (HT.out.lt _ e).2; omega
      have HF := HG_0.out.entered ⟨⟨jid, ⟨⟨a, b, c', d, f, k⟩, ⟨a', b', c'', d', f', k'⟩⟩, (s1, s2), jr, jg, tl⟩, w.heap.size, ta, tc⟩ hJq hTq hqb HD.out hqq hb0 HG7.out HO7.out (Nat.le_succ _) HA7.out HG8.out HL8.out HG9.out HM9.out
      have hlo := HG_0.out.lo
      have sz7 := HG7.out.size
      have sz8 := HG8.out.size
      have HBf : Below base w w9 := (HBa.out.mono hb0).trans ((below_of_grown HG7.out HB1.out (fun z e => hlo z (by simp [bls, own_ob e]))).trans ((below_of_grown HG8.out (Nat.le_trans HB1.out sz7) (fun z e => hlo z (by simp [bls, Option.some.inj e]))).trans (below_of_grown HG9.out (Nat.le_trans HB1.out (Nat.le_trans sz7 sz8)) (fun z e => hlo z (by simp [bls, Option.some.inj e])))))
      exact bodyPost_end (v := .tuple #[]) (by simp [results, Tryz.results85, go_sem]) rfl ⟨rfl, ai', ci', HF, HBf⟩
end Go.Proofs.YtfhknkppiidnkaaGreat
namespace Go.Proofs.YtfhknkppiidnkaaGreat
open Go.RowKit

theorem step_append_opt {P : Program} {ops : Array Oper} {o : Oper} {a : Act} {w : World} {K : Act → World → Prop} {Q : Exit → Act → World → Prop} {E : Prop}
    (hg : o.guard = none) (s x : Operand) (t : TypeId) (hop : o.op = Op.call { callee := Callee.builtin Builtin.append, args := #[s, x], argTypes := #[t, t] })
    (base : Nat) (e : TypeId) (i : TypeInfo) (z : Value) (size bytes : Nat) (ht : P.underlying t = some (.slice e)) (hi : P.info? e = some i) (hz : i.zero = some z) (hsize : i.size = size) (hby : i.bytes = bytes) (hzs : z.cells.size = size) (hsz : 0 < size)
    (v : Value) (n : Nat) (xs : List Value) (hs : a.eval s = v) (hown : w.ownsRow base e size v n xs) (ao : Option Addr) (m c : Nat) (news : List Value) (hx : a.eval x = .slice ao m c) (hl : news.length = m * size) (hnone : ao = none → m = 0 ∧ c = 0)
    (hnews : ∀ ad, ao = some ad → ∀ j u, news[j]? = some u → w.cell? (ad.add j) = some u) (h1 : ∀ u ∈ news, u.oneCell' = true)
    (h63 : n + m ≤ maxLen) (hbytes : (n + m) * bytes ≤ 140737488355328) (hbase : base ≤ w.heap.size)
    (hK : ∀ v' w', w'.ownsRow base e size v' (n + m) (xs ++ news) → w.grownBy w' v.ownBlock → (v'.ownBlock = v.ownBlock ∨ v'.ownBlock = some w.heap.size) → K (a.put o.dst v') w') :
    if Region.wanted o (yielded ops a.tmps) = true then Oper.wp P o a w K Q else E := by
  cases ao with
  | some ad => exact step_append_at hg s x t hop base e i z size bytes ht hi hz hsize hby hzs hsz v n xs hs hown ad m c news hx hl (hnews ad rfl) h1 h63 hbytes hbase hK
  | none =>
    obtain ⟨rfl, rfl⟩ := hnone rfl
    have hn : news = [] := List.eq_nil_of_length_eq_zero (by simpa using hl)
    subst hn
    have hw : Region.wanted o (yielded ops a.tmps) = true := by simp [Region.wanted, hg]
    rw [if_pos hw]
    have hrun := run_append_owned_none (P := P) w base t o.type e i size ht hi v n xs hown
    unfold Oper.wp
    simp [execOp, hop, resolve, invoke, builtin, hs, hx, hrun, Result.andThen]
    exact hK v w (by simpa using hown) (World.grownBy.refl _ _) (.inl rfl)
theorem wpList_append_optat {P : Program} (w : World) {ops : Array Oper} {rest : List Oper} {o : Oper} {a : Act} {Q : Exit → Act → World → Prop} (hgd : o.guard = none) (s x : Operand) (t : TypeId)
    (ho : o.op = .call { callee := .builtin .append, args := #[s, x], argTypes := #[t, t] })
    (base : Nat) (e : TypeId) (i : TypeInfo) (z : Value) (size bytes : Nat) (ht : P.underlying t = some (.slice e)) (hi : P.info? e = some i) (hz : i.zero = some z)
    (hsize : i.size = size) (hby : i.bytes = bytes) (hzs : z.cells.size = size) (hsz : 0 < size)
    (v : Value) (n : Nat) (xs : List Value) (hs : a.eval s = v) (hown : w.ownsRow base e size v n xs)
    (ao : Option Addr) (m c : Nat) (news : List Value) (hx : a.eval x = .slice ao m c) (hl : news.length = m * size) (hnone : ao = none → m = 0 ∧ c = 0)
    (hnews : ∀ ad, ao = some ad → ∀ j u, news[j]? = some u → w.cell? (ad.add j) = some u) (h1 : ∀ u ∈ news, u.oneCell' = true)
    (h63 : n + m ≤ maxLen) (hbytes : (n + m) * bytes ≤ 140737488355328) (hbase : base ≤ w.heap.size)
    (h : ∀ v' w', w'.ownsRow base e size v' (n + m) (xs ++ news) → w.grownBy w' v.ownBlock → (v'.ownBlock = v.ownBlock ∨ v'.ownBlock = some w.heap.size) → wpList P ops Q rest (a.put o.dst v') w') : wpList P ops Q (o :: rest) a w := by
  cases ao with
  | some ad => exact wpList_append_own_at w hgd s x t ho base e i z size bytes ht hi hz hsize hby hzs hsz v n xs hs hown ad m c news hx hl (hnews ad rfl) h1 h63 hbytes hbase (fun v' w' h2 h3 _ h5 => h v' w' h2 h3 h5)
  | none =>
    obtain ⟨rfl, rfl⟩ := hnone rfl
    have hn : news = [] := List.eq_nil_of_length_eq_zero (by simpa using hl)
    subst hn
    refine wpList_plain hgd fun K hK' => ?_
    have hrun := run_append_owned_none (P := P) w base t o.type e i size ht hi v n xs hown
    unfold Oper.wp
    simp [execOp, ho, resolve, invoke, builtin, hs, hx, hrun, Result.andThen]
    exact hK' _ _ (h v w (by simpa using hown) (World.grownBy.refl _ _) (.inl rfl))
/-- the ids rise, and all jobs are right -/
theorem M.jsGo_rise {now next : Int} : ∀ {js : List M.Jb} {last : Int}, M.jsGo now next last js = true → (∀ j ∈ js, last < j.id ∧ j.id < next ∧ M.jbOk now j = true) ∧ js.Pairwise (fun a b => a.id < b.id)
  | [], _, _ => ⟨fun j hj => by simp at hj, List.Pairwise.nil⟩
  | x :: l, last, h => by
    unfold M.jsGo at h
    simp only [Bool.and_eq_true, decide_eq_true_eq] at h
    obtain ⟨⟨⟨h1, h2⟩, h3⟩, h4⟩ := h
    obtain ⟨ih1, ih2⟩ := M.jsGo_rise h4
    refine ⟨fun j hj => ?_, List.pairwise_cons.2 ⟨fun j hj => (ih1 j hj).1, ih2⟩⟩
    rcases List.mem_cons.1 hj with rfl | hj
    · exact ⟨by omega, by omega, h3⟩
    · obtain ⟨a, b, c⟩ := ih1 j hj
      exact ⟨by omega, b, c⟩
theorem M.bn_few {bs : List Int} (h : M.bnGo 0 bs = true) : bs.length ≤ 9 := by
  have key : ∀ (l : List Int) (x : Int), 0 ≤ x → x ≤ 9 → M.bnGo x l = true → (l.length : Int) ≤ 9 - x := by
    intro l
    induction l with
    | nil => intro x h0 h9 _; simp; omega
    | cons y l ih =>
      intro x h0 h9 h
      unfold M.bnGo M.wkOk at h
      simp only [Bool.and_eq_true, decide_eq_true_eq] at h
      have := ih y (by omega) (by omega) h.2
      rw [List.length_cons]
      omega
  have := key bs 0 (by omega) (by omega) h
  omega
structure M.Right (now next : Int) (bs : List Int) (js : List M.Jb) : Prop where
  now0 : 0 ≤ now
  now1 : now ≤ 1000000000
  next0 : 1 ≤ next
  next1 : next ≤ 1000000000
  few : js.length ≤ 6
  bn : M.bnGo 0 bs = true
  job : ∀ j ∈ js, 0 < j.id ∧ j.id < next ∧ M.jbOk now j = true
  rise : js.Pairwise (fun a b => a.id < b.id)
  nd : (M.wks js).Nodup
  bd : ∀ x ∈ M.wks js, bs.contains x = false
theorem M.right_iff {now next : Int} {bs : List Int} {js : List M.Jb} (h : M.mkOk now next bs js = true) : M.Right now next bs js := by
  unfold M.mkOk at h
  simp only [Bool.and_eq_true, decide_eq_true_eq] at h
  obtain ⟨⟨h1, h2⟩, ⟨h3, h4⟩, h5, ⟨h6, h7⟩, h8, h9⟩ := h
  obtain ⟨h10, h11⟩ := M.jsGo_rise h7
  refine ⟨h1, h2, h3, h4, h6, h5, h10, h11, h8, fun x hx => ?_⟩
  simp only [Bool.not_eq_true', List.any_eq_false] at h9
  simpa using h9 x hx
theorem M.Right.before {now next : Int} {bs : List Int} {js : List M.Jb} (h : M.Right now next bs js) {k : Nat} (hk : k < js.length) : ∀ x ∈ js.take k, x.id ≠ (js.getD k M.j0).id := by
  intro x hx
  have hp := h.rise
  rw [← List.take_append_drop k js, List.pairwise_append] at hp
  have hd : js.drop k = js.getD k M.j0 :: js.drop (k + 1) := drop_step M.j0 rfl hk
  have := hp.2.2 x hx (js.getD k M.j0) (by rw [hd]; simp)
  omega
theorem M.Right.tasks {now next : Int} {bs : List Int} {js : List M.Jb} (h : M.Right now next bs js) : ∀ j ∈ js, 1 ≤ j.ts.length ∧ j.ts.length ≤ 8 := by
  intro j hj
  have := (h.job j hj).2.2
  unfold M.jbOk at this
  simp only [Bool.and_eq_true, decide_eq_true_eq] at this
  exact ⟨this.1.2.2.2.1, this.1.2.2.2.2.1⟩
theorem info_taskK : (Tryz.prog.info? 74).map (fun i => (i.zero, i.size, i.bytes)) = some (some (.agg #[.bool false, .int .i64 0, .int .i64 0]), 3, 24) := by kernel_rfl
theorem SeesT.news {w : World} {a : Option Addr} {n cap : Nat} {ts : List M.Tk} (h : SeesT w a n cap ts) : ∀ ad, a = some ad → ∀ j u, (ts.flatMap tvs)[j]? = some u → w.cell? (ad.add j) = some u := by
  intro ad e j u hj
  have hl := h.len
  have hjl : j < ts.length * 3 := by
    have := (List.getElem?_eq_some_iff.1 hj).1
    rwa [flat_len tvs_len] at this
  obtain ⟨b, off, e2, hc⟩ := h.at (by omega)
  rw [e] at e2
  simp only [Option.some.injEq] at e2
  subst e2
  have hq : j / 3 < ts.length := by rw [Nat.div_lt_iff_lt_mul (by omega)]; exact hjl
  have hm : j % 3 < 3 := Nat.mod_lt _ (by omega)
  have h1 := hc (j / 3) (by omega) (j % 3) hm
  rw [← flat_get tvs_len M.t0 ts hq hm, show off + j / 3 * 3 + j % 3 = off + j by omega, show j / 3 * 3 + j % 3 = j by omega, hj] at h1
  unfold Addr.add
  split
  · rename_i e0; subst e0; exact h1
  · exact h1
theorem tvs_one (ts : List M.Tk) : ∀ u ∈ ts.flatMap tvs, u.oneCell' = true := by
  intro u hu
  obtain ⟨t, _, hu⟩ := List.mem_flatMap.1 hu
  simp only [tvs, List.mem_cons, List.not_mem_nil, or_false] at hu
  rcases hu with rfl | rfl | rfl <;> rfl
/-- an empty hall -/
theorem hall_new {w : World} {base h mb : Nat} {now next : Int} {ab : Option Addr} {nb cb : Nat} {bs : List Int} (hl : Lies w h [.int .i64 now, .int .i64 next, .slice ab nb cb, .slice none 0 0, .map (some mb)]) (ho : Owns 2 w base ab nb cb bs) (hm : IsMap w mb []) (hne : h ≠ mb) (hbh : base ≤ h) (hbm : base ≤ mb) (h1 : h ∉ ob ab) (h2 : mb ∉ ob ab) :
    Hall w base h now next ab nb cb bs none 0 0 mb [] :=
  ⟨hl, ho, Owns.empty _ _ _, hm, fun q hq => by simp at hq, bls_nodup.2 ⟨⟨hne, h1, by simp [ob], by simp⟩, ⟨h2, by simp [ob], by simp⟩, fun g _ => ⟨by simp [ob], by simp⟩, fun g hg => by simp [ob] at hg, by simp⟩, fun g hg => by
    unfold bls at hg
    simp only [List.mem_cons, List.mem_append, ob, List.flatMap_nil, List.not_mem_nil, or_false] at hg
    rcases hg with rfl | rfl | hg
    · exact hbh
    · exact hbm
    · exact (World.ownsRow.lt ho g (ob_own hg)).1⟩
set_option maxHeartbeats 8000000 in
set_option maxRecDepth 10000 in
theorem hallOf_no {ab aj : Option Addr} {nb cb nj cj : Nat} {bs : List Int} {js : List M.Jb} (now next : Int) (w : World) (hz : SeesM w ab nb cb aj nj cj bs js) (hf : M.mkOk now next bs js = false) :
    Calls Tryz.prog 48 #[.agg #[.int .i64 now, .int .i64 next, .slice ab nb cb, .slice aj nj cj]] w fun e w' => e = .returned (.tuple #[.pointer none, .bool false]) ∧ Below w.heap.size w w' := by
  have HM : Hid (SeesM w ab nb cb aj nj cj bs js) := hz
  have C1 : ∀ W, SeesM W ab nb cb aj nj cj bs js → Calls Tryz.prog 84 #[.agg #[.int .i64 now, .int .i64 next, .slice ab nb cb, .slice aj nj cj]] W fun e w' => e = .returned (.bool false) ∧ Below W.heap.size W w' := fun W h => by rw [← hf]; exact implMarketOk_any now next W h
  clear hz hf
  go_enter Tryz.func48, Tryz.ntmps48
  have HA_0 : Hid (Lies (w.alloc (.cells #[.int .i64 now, .int .i64 next, .slice ab nb cb, .slice aj nj cj] 27)) w.heap.size [.int .i64 now, .int .i64 next, .slice ab nb cb, .slice aj nj cj]) := lies_new _ _ _
  have HB_0 : Hid (Below w.heap.size w (w.alloc (.cells #[.int .i64 now, .int .i64 next, .slice ab nb cb, .slice aj nj cj] 27))) := (Below.refl _ _).alloc (Nat.le_refl _) _
  go_wp2_with fail
  generalize (w.alloc (.cells #[.int .i64 now, .int .i64 next, .slice ab nb cb, .slice aj nj cj] 27)) = wa at HA_0 HB_0  ⊢
  refine (C1 _ (HM.out.below HB_0.out)).mono ?_
  rintro e wb ⟨rfl, hb⟩
  have HA_1 : Hid (Lies wb w.heap.size [.int .i64 now, .int .i64 next, .slice ab nb cb, .slice aj nj cj]) := HA_0.out.belowS hb
  have HB_1 : Hid (Below w.heap.size w wb) := HB_0.out.trans (hb.mono HB_0.out.size)
  clear HA_0 HB_0
  clear hb
  go_wp2
  exact bodyPost_ret (v := .tuple #[.pointer none, .bool false]) (by simp [results, Tryz.results48, go_sem]) rfl ⟨rfl, HB_1.out⟩
/-- what hallOf leaves -/
def HallPost (w : World) (now next : Int) (bs : List Int) (js : List M.Jb) (e : Ending) (w' : World) : Prop :=
  ∃ h ab nb cb ai ni ci mb qs, e = .returned (.tuple #[.pointer (some ⟨h, 0, none⟩), .bool true]) ∧ Hall w' w.heap.size h now next ab nb cb bs ai ni ci mb qs ∧ qs.map (·.j) = js ∧ Below w.heap.size w w'
set_option maxHeartbeats 8000000 in
set_option maxRecDepth 10000 in
theorem hallOf_yes {ab aj : Option Addr} {nb cb nj cj : Nat} {bs : List Int} {js : List M.Jb} (now next : Int) (w : World) (hz : SeesM w ab nb cb aj nj cj bs js) (hf : M.mkOk now next bs js = true) :
    Calls Tryz.prog 48 #[.agg #[.int .i64 now, .int .i64 next, .slice ab nb cb, .slice aj nj cj]] w fun e w' => HallPost w now next bs js e w' := by
  have HM : Hid (SeesM w ab nb cb aj nj cj bs js) := hz
  have C1 : ∀ W, SeesM W ab nb cb aj nj cj bs js → Calls Tryz.prog 84 #[.agg #[.int .i64 now, .int .i64 next, .slice ab nb cb, .slice aj nj cj]] W fun e w' => e = .returned (.bool true) ∧ Below W.heap.size W w' := fun W h => by rw [← hf]; exact implMarketOk_any now next W h
  have HF : Hid (M.mkOk now next bs js = true) := hf
  clear hz hf
  go_enter Tryz.func48, Tryz.ntmps48
  have HA_0 : Hid (Lies (w.alloc (.cells #[.int .i64 now, .int .i64 next, .slice ab nb cb, .slice aj nj cj] 27)) w.heap.size [.int .i64 now, .int .i64 next, .slice ab nb cb, .slice aj nj cj]) := lies_new _ _ _
  have HB_0 : Hid (Below w.heap.size w (w.alloc (.cells #[.int .i64 now, .int .i64 next, .slice ab nb cb, .slice aj nj cj] 27))) := (Below.refl _ _).alloc (Nat.le_refl _) _
  go_wp2_with fail
  generalize (w.alloc (.cells #[.int .i64 now, .int .i64 next, .slice ab nb cb, .slice aj nj cj] 27)) = wa at HA_0 HB_0  ⊢
  refine (C1 _ (HM.out.below HB_0.out)).mono ?_
  rintro e wb ⟨rfl, hb⟩
  have HA_1 : Hid (Lies wb w.heap.size [.int .i64 now, .int .i64 next, .slice ab nb cb, .slice aj nj cj]) := HA_0.out.belowS hb
  have HB_1 : Hid (Below w.heap.size w wb) := HB_0.out.trans (hb.mono HB_0.out.size)
  clear HA_0 HB_0
  clear hb
  have x0 : wb.cell? ⟨w.heap.size, 0, none⟩ = some (.int .i64 now) := HA_1.out.at 0
  have x1 : wb.cell? ⟨w.heap.size, 1, none⟩ = some (.int .i64 next) := HA_1.out.at 1
  have x2 : wb.cell? ⟨w.heap.size, 2, none⟩ = some (.slice ab nb cb) := HA_1.out.at 2
  have x3 : wb.cell? ⟨w.heap.size, 3, none⟩ = some (.slice aj nj cj) := HA_1.out.at 3
  have hmk := run_makeMap (P := Tryz.prog) 104 wb
  go_wp2_with fail
  clear x0 x1 x2 x3 hmk
  have hbw : Below wb.heap.size wb ((wb.alloc (.map #[] 0)).alloc (.cells #[.int .i64 now, .int .i64 next, .slice none 0 0, .slice none 0 0, .map (some wb.heap.size)] 106)) := ((Below.refl _ _).alloc (Nat.le_refl _) _).alloc (by simp) _
  have HBS : Hid (w.heap.size ≤ wb.heap.size) := HB_1.out.size
  have HA_2 : Hid (Lies ((wb.alloc (.map #[] 0)).alloc (.cells #[.int .i64 now, .int .i64 next, .slice none 0 0, .slice none 0 0, .map (some wb.heap.size)] 106)) w.heap.size [.int .i64 now, .int .i64 next, .slice ab nb cb, .slice aj nj cj]) := HA_1.out.belowS hbw
  have HB_2 : Hid (Below w.heap.size w ((wb.alloc (.map #[] 0)).alloc (.cells #[.int .i64 now, .int .i64 next, .slice none 0 0, .slice none 0 0, .map (some wb.heap.size)] 106))) := HB_1.out.trans (hbw.mono HB_1.out.size)
  clear HA_1 HB_1
  clear hbw
  have HH_2 : Hid (Lies ((wb.alloc (.map #[] 0)).alloc (.cells #[.int .i64 now, .int .i64 next, .slice none 0 0, .slice none 0 0, .map (some wb.heap.size)] 106)) (wb.heap.size + 1) [.int .i64 now, .int .i64 next, .slice none 0 0, .slice none 0 0, .map (some wb.heap.size)]) := lies_new2 wb _ _ _
  have HM1 : Hid (IsMap ((wb.alloc (.map #[] 0)).alloc (.cells #[.int .i64 now, .int .i64 next, .slice none 0 0, .slice none 0 0, .map (some wb.heap.size)] 106)) wb.heap.size []) := (isMap_new wb).alloc _
  have HSZ : Hid (((wb.alloc (.map #[] 0)).alloc (.cells #[.int .i64 now, .int .i64 next, .slice none 0 0, .slice none 0 0, .map (some wb.heap.size)] 106)).heap.size = wb.heap.size + 1 + 1) := by show _ = _; simp
  generalize ((wb.alloc (.map #[] 0)).alloc (.cells #[.int .i64 now, .int .i64 next, .slice none 0 0, .slice none 0 0, .map (some wb.heap.size)] 106)) = w1 at HA_2 HB_2 HH_2 HM1 HSZ ⊢
  generalize hhb : wb.heap.size + 1 = hb at HH_2 HSZ ⊢
  generalize wb.heap.size = mb at hhb HM1 HBS HH_2 ⊢
  have HHB : Hid (mb + 1 = hb) := hhb
  clear hhb
  have h2 : w1.cell? ⟨hb, 2, none⟩ = some (.slice none 0 0) := HH_2.out.at 2
  have m2 : w1.cell? ⟨w.heap.size, 2, none⟩ = some (.slice ab nb cb) := HA_2.out.at 2
  have hsb := (HM.out.below HB_2.out).b
  have HSB : Hid (Sees w1.drew ab nb cb bs) := hsb.of_cells fun _ _ hp _ => hp
  have HLB : Hid (bs.length = nb) := hsb.len
  have HNB : Hid (ab = none → nb = 0 ∧ cb = 0) := hsb.no
  have HR : Hid (M.Right now next bs js) := M.right_iff HF.out
  have hnbI : nb ≤ 9 := by have := M.bn_few HR.out.bn; rw [HLB.out] at this; exact this
  clear hsb
  obtain ⟨i0, hi, hz0, hz1, hz2⟩ := info_parts info_i64
  have HNL : Hid (((bs.take nb).map (Value.int .i64)).length = nb * 1) := by show _ = _; have := HLB.out; simp; omega
  have HBx : Hid (w.heap.size ≤ w1.heap.size) := HB_2.out.size
  apply cutK
  case f =>
    intro key
    go_region_law (refine step_append_opt rfl (.tmp 21) (.tmp 23) 24 rfl w.heap.size 2 i0 (.int .i64 0) 1 8 Tryz.underlying24 hi hz0 hz1 hz2 rfl (by decide) (.slice none 0 0) 0 [] (by simp [Act.eval]) (World.ownsRow_nil _ _ _ _) ab nb cb ((bs.take nb).map (Value.int .i64)) (by simp [Act.eval]) HNL.out HNB.out (sees_news HSB.out nb (Nat.le_refl _)) (ints_int _) (by unfold maxLen; omega) (by omega) HBx.out ?_; intro v' w7 hown hgrow hat; have hown' : w7.ownsRow w.heap.size 2 1 v' nb (bs.map (Value.int .i64)) := (by rw [Nat.zero_add, List.nil_append, List.take_of_length_le (Nat.le_of_eq HLB.out)] at hown; exact hown); obtain ⟨ab', cb', rfl, ho⟩ := Owns.form hown'; have HO7 : Hid (Owns 2 w7 w.heap.size ab' nb cb' bs) := ho; have HG7 : Hid (w1.grownBy w7 none) := (grown_drew _ _).trans hgrow; have HA7 : Hid ((Value.slice ab' nb cb').ownBlock = none ∨ (Value.slice ab' nb cb').ownBlock = some w1.heap.size) := hat; have HL7 : Hid (Lies w7 hb [.int .i64 now, .int .i64 next, .slice none 0 0, .slice none 0 0, .map (some mb)]) := HH_2.out.grown HG7.out (by simp); have c3 : w7.cell? ⟨hb, 2, none⟩ = some (.slice none 0 0) := HL7.out.at 2; have f3 : w7.frozen? ⟨hb, 2, none⟩ = false := HL7.out.fr 2; clear hown hown' hgrow hat ho)
    all_goals
      clear c3 f3
      revert w7 ab' cb'
      exact key.out
  case h =>
    intro w7 ab' cb' HO7 HG7 HA7 HL7
    have HL8 : Hid (Lies (w7.setCell ⟨hb, 2, none⟩ (.slice ab' nb cb')) hb [.int .i64 now, .int .i64 next, .slice ab' nb cb', .slice none 0 0, .map (some mb)]) := HL7.out.set 2 (by simp) _
    have HG8 : Hid (w7.grownBy (w7.setCell ⟨hb, 2, none⟩ (.slice ab' nb cb')) (some hb)) := grown_setCell _ _ _
    have HM8 : Hid (IsMap (w7.setCell ⟨hb, 2, none⟩ (.slice ab' nb cb')) mb []) := (HM1.out.grown HG7.out (by simp)).setCell _ _
    have hlt : hb < w1.heap.size := by rw [HSZ.out]; omega
    have hob : ∀ g ∈ ob ab', w1.heap.size ≤ g := fun g hg => by have e := ob_own (n := nb) (c := cb') hg; rcases HA7.out with e2 | e2 <;> rw [e2] at e <;> simp at e; omega
    have HO8 : Hid (Owns 2 (w7.setCell ⟨hb, 2, none⟩ (.slice ab' nb cb')) w.heap.size ab' nb cb' bs) := HO7.out.grown HG8.out (fun g hg e => by have := hob g hg; have := Option.some.inj e; omega)
    have HB8 : Hid (Below w.heap.size w (w7.setCell ⟨hb, 2, none⟩ (.slice ab' nb cb'))) := (HB_2.out.trans (below_of_grown HG7.out HBx.out (by simp))).trans (below_of_grown HG8.out (Nat.le_trans HBx.out HG7.out.size) (fun z e => by have := Option.some.inj e; have := HHB.out; have := HBS.out; omega))
    have HA8 : Hid (Lies (w7.setCell ⟨hb, 2, none⟩ (.slice ab' nb cb')) w.heap.size [.int .i64 now, .int .i64 next, .slice ab nb cb, .slice aj nj cj]) := (HA_2.out.grown HG7.out (by simp)).far (by have := HHB.out; have := HBS.out; omega) _ _
    have HX : Hid (Hall (w7.setCell ⟨hb, 2, none⟩ (.slice ab' nb cb')) w.heap.size hb now next ab' nb cb' bs none 0 0 mb []) := hall_new HL8.out HO8.out HM8.out (by have := HHB.out; omega) (by have := HHB.out; have := HBS.out; omega) HBS.out (fun e => by have := hob _ e; omega) (fun e => by have := hob _ e; have := HHB.out; omega)
    generalize (w7.setCell ⟨hb, 2, none⟩ (.slice ab' nb cb')) = w8 at HX HA8 HB8 HL8 HG8 HM8 HO8 ⊢
    clear HL8 HG8 HM8 HO8 HO7 HG7 HA7 HL7 hob hlt HM1 h2 m2 HNL HSB HSZ HBx HA_2 HB_2 HH_2
    have hjl := HM.out.j.len
    have hnj : nj ≤ 6 := by have := HR.out.few; omega
    have bnj : (nj : Int) ≤ 9223372036854775807 := by omega
    have hjl2 := HM.out.j.le
    have hcj : (nj : Int) ≤ cj := by omega
    clear hjl2 hi hz0 hz1 hz2 i0 HNB HLB C1 HF
    have x3 : w8.cell? ⟨w.heap.size, 3, none⟩ = some (.slice aj nj cj) := HA8.out.at 3
    go_wp2_with fail
    clear x3
    go_loopw [30] (fun i wr => ∃ (k : Nat) (ai : Option Addr) (ni ci : Nat) (qs : List HJ), k ≤ nj ∧ i = .int .i64 k ∧ Hall wr w.heap.size hb now next ab' nb cb' bs ai ni ci mb qs ∧ qs.map (·.j) = js.take k ∧ Below w.heap.size w wr) (fun i _ => nj - (intOf i).toNat)
    case atStart => exact ⟨0, none, 0, 0, [], by omega, rfl, HX.out, rfl, HB8.out⟩
    case round =>
      obtain ⟨kk, ai, ni, ci, qs, hk, rfl, hh, hqs, hb1⟩ := hrel
      clear HX HB8 HA8
      by_cases hlt : kk < nj
      case pos =>
        obtain ⟨b1, o1, rfl, hc1⟩ := (HM.out.j.below hb1).at (by omega)
        obtain ⟨ta, tc, hA, hT⟩ := hc1 kk hlt
        have hkI : (kk : Int) < (nj : Int) := by omega
        have hmem : js.getD kk M.j0 ∈ js := by rw [List.getD_eq_getElem?_getD, List.getElem?_eq_getElem (by omega)]; simp
        have htk : js.take (kk + 1) = js.take kk ++ [js.getD kk M.j0] := by rw [List.take_add_one, List.getD_eq_getElem?_getD, List.getElem?_eq_getElem (by omega)]; simp
        have hbf := HR.out.before (k := kk) (by omega)
        have htt := HR.out.tasks _ hmem
        have hni : ni = kk := by have h1 := hh.i.len; have h2 := congrArg List.length hqs; rw [List.length_map] at h1 h2; rw [List.length_take] at h2; omega
        have HNQ : Hid (∀ q ∈ qs, q.j.id ≠ (js.getD kk M.j0).id) := fun q hq => hbf q.j (by rw [← hqs]; exact List.mem_map.2 ⟨q, hq, rfl⟩)
        generalize js.getD kk M.j0 = cq at hA hT htk htt HNQ
        obtain ⟨jid, ⟨⟨a, b, c', d, f, k⟩, ⟨a', b', c'', d', f', k'⟩⟩, ⟨s1, s2⟩, jr, jg, tl⟩ := cq
        dsimp only at hT htk htt HNQ
        have hR : wr.rangeAt b1 (o1 + kk * 18) (jvs ⟨jid, ⟨⟨a, b, c', d, f, k⟩, ⟨a', b', c'', d', f', k'⟩⟩, (s1, s2), jr, jg, tl⟩ ta tc) := row_of_cells rfl hA
        have HT : Hid (SeesT wr ta tl.length tc tl) := hT
        dsimp only [jvs] at hR
        generalize htl : tl.length = tn at hR HT htt
        have HTL : Hid (tl.length = tn) := htl
        have HQS : Hid (qs.map (·.j) ++ [⟨jid, ⟨⟨a, b, c', d, f, k⟩, ⟨a', b', c'', d', f', k'⟩⟩, (s1, s2), jr, jg, tl⟩] = js.take (kk + 1)) := by show _ = _; rw [hqs]; exact htk.symm
        have HNI : Hid (ni = kk) := hni
        clear hc1 hA hT hmem htk hbf hqs htl hni
        have HB_0 : Hid (Below w.heap.size w wr) := hb1
        have HG_0 : Hid (Hall wr w.heap.size hb now next ab' nb cb' bs ai ni ci mb qs) := hh
        have T1_0 : Hid (SeesT wr ta tn tc tl) := HT.out
        have HLT : Hid (∀ g ∈ bls hb mb ab' ai qs, g < wr.heap.size) := hh.lt
        have HWB : Hid (w.heap.size ≤ wr.heap.size) := hb1.size
        clear hb1 hh HT
        go_wp2_with (with_reducible refine wpList_stop 33 ?_ ?_; rfl)
        show wpList _ _ _ _ _ _
        have iL : (Tryz.prog.info? 44).map (·.size) = some ([.int .i64 jid, .int .i64 a, .int .i64 b, .int .i64 c', .int .i64 d, .int .i64 f, .int .i64 k, .int .i64 a', .int .i64 b', .int .i64 c'', .int .i64 d', .int .i64 f', .int .i64 k', .int .i64 s1, .int .i64 s2, .int .i64 jr, .bool jg, .slice ta tn tc] : List Value).length := (show (Tryz.prog.info? 44).map (·.size) = some 18 by kernel_rfl)
        with_reducible refine wpList_load_mid ?qg 44 ?qlj ?qo b1 (o1 + kk * 18) ?qhx [.int .i64 jid, .int .i64 a, .int .i64 b, .int .i64 c', .int .i64 d, .int .i64 f, .int .i64 k, .int .i64 a', .int .i64 b', .int .i64 c'', .int .i64 d', .int .i64 f', .int .i64 k', .int .i64 s1, .int .i64 s2, .int .i64 jr, .bool jg, .slice ta tn tc] _ hR Tryz.underlying44 ?qd iL ?qr
        case qg => exact rfl
        case qo => exact rfl
        case qhx => exact rfl
        case qd => exact rfl
        case qr =>
          clear iL
          show wpList _ _ _ _ _ _
          clear hR
          have HSW : Hid (wr.heap.size = wr.heap.size) := rfl
          go_wp2_with (with_reducible refine wpList_stop 6 ?_ ?_; rfl)
          show wpList _ _ _ _ _ _
          have hal : (Instr.alloc 44 true (.tuple #[])).run Tryz.prog wr = .ok (.pointer (some ⟨wr.heap.size, 0, none⟩)) (wr.alloc (.cells #[.int .i64 0, .int .i64 0, .int .i64 0, .int .i64 0, .int .i64 0, .int .i64 0, .int .i64 0, .int .i64 0, .int .i64 0, .int .i64 0, .int .i64 0, .int .i64 0, .int .i64 0, .int .i64 0, .int .i64 0, .int .i64 0, .bool false, .slice none 0 0] 44)) := by kernel_rfl
          with_reducible refine wpList_alloc_as ?qg 44 ?qo #[.int .i64 0, .int .i64 0, .int .i64 0, .int .i64 0, .int .i64 0, .int .i64 0, .int .i64 0, .int .i64 0, .int .i64 0, .int .i64 0, .int .i64 0, .int .i64 0, .int .i64 0, .int .i64 0, .int .i64 0, .int .i64 0, .bool false, .slice none 0 0] hal ?qr
          case qg => exact rfl
          case qo => exact rfl
          case qr =>
            clear hal
            show wpList _ _ _ _ _ _
            have tA : (wr.alloc (.cells #[.int .i64 0, .int .i64 0, .int .i64 0, .int .i64 0, .int .i64 0, .int .i64 0, .int .i64 0, .int .i64 0, .int .i64 0, .int .i64 0, .int .i64 0, .int .i64 0, .int .i64 0, .int .i64 0, .int .i64 0, .int .i64 0, .bool false, .slice none 0 0] 44)).there wr.heap.size 0 ([.int .i64 jid, .int .i64 a, .int .i64 b, .int .i64 c', .int .i64 d, .int .i64 f, .int .i64 k, .int .i64 a', .int .i64 b', .int .i64 c'', .int .i64 d', .int .i64 f', .int .i64 k', .int .i64 s1, .int .i64 s2, .int .i64 jr, .bool jg, .slice ta tn tc] : List Value).toArray.size := (lies_new _ _ _).there _ 18 (by simp)
            have iA : (Tryz.prog.info? 44).map (·.size) = some ([.int .i64 jid, .int .i64 a, .int .i64 b, .int .i64 c', .int .i64 d, .int .i64 f, .int .i64 k, .int .i64 a', .int .i64 b', .int .i64 c'', .int .i64 d', .int .i64 f', .int .i64 k', .int .i64 s1, .int .i64 s2, .int .i64 jr, .bool jg, .slice ta tn tc] : List Value).toArray.size := (show (Tryz.prog.info? 44).map (·.size) = some 18 by kernel_rfl)
            with_reducible refine wpList_store_mid ?qg 44 ?qsx0 ?qsy0 ?qo wr.heap.size 0 ([.int .i64 jid, .int .i64 a, .int .i64 b, .int .i64 c', .int .i64 d, .int .i64 f, .int .i64 k, .int .i64 a', .int .i64 b', .int .i64 c'', .int .i64 d', .int .i64 f', .int .i64 k', .int .i64 s1, .int .i64 s2, .int .i64 jr, .bool jg, .slice ta tn tc] : List Value).toArray ?qhx ?qhy tA iA (by kernel_rfl) ?qr
            case qg => exact rfl
            case qo => exact rfl
            case qhx => exact rfl
            case qhy => exact rfl
            case qr =>
              clear tA iA
              show wpList _ _ _ _ _ ((wr.alloc (.cells #[.int .i64 0, .int .i64 0, .int .i64 0, .int .i64 0, .int .i64 0, .int .i64 0, .int .i64 0, .int .i64 0, .int .i64 0, .int .i64 0, .int .i64 0, .int .i64 0, .int .i64 0, .int .i64 0, .int .i64 0, .int .i64 0, .bool false, .slice none 0 0] 44)).setCells wr.heap.size 0 [.int .i64 jid, .int .i64 a, .int .i64 b, .int .i64 c', .int .i64 d, .int .i64 f, .int .i64 k, .int .i64 a', .int .i64 b', .int .i64 c'', .int .i64 d', .int .i64 f', .int .i64 k', .int .i64 s1, .int .i64 s2, .int .i64 jr, .bool jg, .slice ta tn tc])
              have hba : Below wr.heap.size wr ((wr.alloc (.cells #[.int .i64 0, .int .i64 0, .int .i64 0, .int .i64 0, .int .i64 0, .int .i64 0, .int .i64 0, .int .i64 0, .int .i64 0, .int .i64 0, .int .i64 0, .int .i64 0, .int .i64 0, .int .i64 0, .int .i64 0, .int .i64 0, .bool false, .slice none 0 0] 44)).setCells wr.heap.size 0 [.int .i64 jid, .int .i64 a, .int .i64 b, .int .i64 c', .int .i64 d, .int .i64 f, .int .i64 k, .int .i64 a', .int .i64 b', .int .i64 c'', .int .i64 d', .int .i64 f', .int .i64 k', .int .i64 s1, .int .i64 s2, .int .i64 jr, .bool jg, .slice ta tn tc]) := below_setCells _ _ ((Below.refl _ _).alloc (Nat.le_refl _) _) (Nat.le_refl _)
              have HB_1 : Hid (Below w.heap.size w ((wr.alloc (.cells #[.int .i64 0, .int .i64 0, .int .i64 0, .int .i64 0, .int .i64 0, .int .i64 0, .int .i64 0, .int .i64 0, .int .i64 0, .int .i64 0, .int .i64 0, .int .i64 0, .int .i64 0, .int .i64 0, .int .i64 0, .int .i64 0, .bool false, .slice none 0 0] 44)).setCells wr.heap.size 0 [.int .i64 jid, .int .i64 a, .int .i64 b, .int .i64 c', .int .i64 d, .int .i64 f, .int .i64 k, .int .i64 a', .int .i64 b', .int .i64 c'', .int .i64 d', .int .i64 f', .int .i64 k', .int .i64 s1, .int .i64 s2, .int .i64 jr, .bool jg, .slice ta tn tc])) := HB_0.out.trans (hba.mono HB_0.out.size)
              have HG_1 : Hid (Hall ((wr.alloc (.cells #[.int .i64 0, .int .i64 0, .int .i64 0, .int .i64 0, .int .i64 0, .int .i64 0, .int .i64 0, .int .i64 0, .int .i64 0, .int .i64 0, .int .i64 0, .int .i64 0, .int .i64 0, .int .i64 0, .int .i64 0, .int .i64 0, .bool false, .slice none 0 0] 44)).setCells wr.heap.size 0 [.int .i64 jid, .int .i64 a, .int .i64 b, .int .i64 c', .int .i64 d, .int .i64 f, .int .i64 k, .int .i64 a', .int .i64 b', .int .i64 c'', .int .i64 d', .int .i64 f', .int .i64 k', .int .i64 s1, .int .i64 s2, .int .i64 jr, .bool jg, .slice ta tn tc]) w.heap.size hb now next ab' nb cb' bs ai ni ci mb qs) := HG_0.out.below hba
              have T1_1 : Hid (SeesT ((wr.alloc (.cells #[.int .i64 0, .int .i64 0, .int .i64 0, .int .i64 0, .int .i64 0, .int .i64 0, .int .i64 0, .int .i64 0, .int .i64 0, .int .i64 0, .int .i64 0, .int .i64 0, .int .i64 0, .int .i64 0, .int .i64 0, .int .i64 0, .bool false, .slice none 0 0] 44)).setCells wr.heap.size 0 [.int .i64 jid, .int .i64 a, .int .i64 b, .int .i64 c', .int .i64 d, .int .i64 f, .int .i64 k, .int .i64 a', .int .i64 b', .int .i64 c'', .int .i64 d', .int .i64 f', .int .i64 k', .int .i64 s1, .int .i64 s2, .int .i64 jr, .bool jg, .slice ta tn tc]) ta tn tc tl) := T1_0.out.below hba
              clear HB_0 HG_0 T1_0
              clear hba
              have HJ_1 : Hid (Lies ((wr.alloc (.cells #[.int .i64 0, .int .i64 0, .int .i64 0, .int .i64 0, .int .i64 0, .int .i64 0, .int .i64 0, .int .i64 0, .int .i64 0, .int .i64 0, .int .i64 0, .int .i64 0, .int .i64 0, .int .i64 0, .int .i64 0, .int .i64 0, .bool false, .slice none 0 0] 44)).setCells wr.heap.size 0 [.int .i64 jid, .int .i64 a, .int .i64 b, .int .i64 c', .int .i64 d, .int .i64 f, .int .i64 k, .int .i64 a', .int .i64 b', .int .i64 c'', .int .i64 d', .int .i64 f', .int .i64 k', .int .i64 s1, .int .i64 s2, .int .i64 jr, .bool jg, .slice ta tn tc]) wr.heap.size [.int .i64 jid, .int .i64 a, .int .i64 b, .int .i64 c', .int .i64 d, .int .i64 f, .int .i64 k, .int .i64 a', .int .i64 b', .int .i64 c'', .int .i64 d', .int .i64 f', .int .i64 k', .int .i64 s1, .int .i64 s2, .int .i64 jr, .bool jg, .slice ta tn tc]) := (lies_new wr #[.int .i64 0, .int .i64 0, .int .i64 0, .int .i64 0, .int .i64 0, .int .i64 0, .int .i64 0, .int .i64 0, .int .i64 0, .int .i64 0, .int .i64 0, .int .i64 0, .int .i64 0, .int .i64 0, .int .i64 0, .int .i64 0, .bool false, .slice none 0 0] 44).setCells [.int .i64 jid, .int .i64 a, .int .i64 b, .int .i64 c', .int .i64 d, .int .i64 f, .int .i64 k, .int .i64 a', .int .i64 b', .int .i64 c'', .int .i64 d', .int .i64 f', .int .i64 k', .int .i64 s1, .int .i64 s2, .int .i64 jr, .bool jg, .slice ta tn tc] 0 (by simp)
              generalize ((wr.alloc (.cells #[.int .i64 0, .int .i64 0, .int .i64 0, .int .i64 0, .int .i64 0, .int .i64 0, .int .i64 0, .int .i64 0, .int .i64 0, .int .i64 0, .int .i64 0, .int .i64 0, .int .i64 0, .int .i64 0, .int .i64 0, .int .i64 0, .bool false, .slice none 0 0] 44)).setCells wr.heap.size 0 [.int .i64 jid, .int .i64 a, .int .i64 b, .int .i64 c', .int .i64 d, .int .i64 f, .int .i64 k, .int .i64 a', .int .i64 b', .int .i64 c'', .int .i64 d', .int .i64 f', .int .i64 k', .int .i64 s1, .int .i64 s2, .int .i64 jr, .bool jg, .slice ta tn tc]) = w2 at HB_1 HG_1 T1_1 HJ_1  ⊢
              generalize wr.heap.size = jb at HJ_1 HLT HWB ⊢
              have hwj : wr.heap.size = wr.heap.size := rfl
              clear hwj HSW
              have hj2 := HJ_1.out.2.2
              have hba : Below w2.heap.size w2 (w2.alloc (.cells #[] 74)) := (Below.refl _ _).alloc (Nat.le_refl _) _
              have HB_2 : Hid (Below w.heap.size w (w2.alloc (.cells #[] 74))) := HB_1.out.trans (hba.mono HB_1.out.size)
              have HG_2 : Hid (Hall (w2.alloc (.cells #[] 74)) w.heap.size hb now next ab' nb cb' bs ai ni ci mb qs) := HG_1.out.below hba
              have T1_2 : Hid (SeesT (w2.alloc (.cells #[] 74)) ta tn tc tl) := T1_1.out.below hba
              have HJ_2 : Hid (Lies (w2.alloc (.cells #[] 74)) jb [.int .i64 jid, .int .i64 a, .int .i64 b, .int .i64 c', .int .i64 d, .int .i64 f, .int .i64 k, .int .i64 a', .int .i64 b', .int .i64 c'', .int .i64 d', .int .i64 f', .int .i64 k', .int .i64 s1, .int .i64 s2, .int .i64 jr, .bool jg, .slice ta tn tc]) := HJ_1.out.belowS hba
              clear HB_1 HG_1 T1_1 HJ_1
              clear hba
              have x17 : (w2.alloc (.cells #[] 74)).cell? ⟨jb, 17, none⟩ = some (.slice ta tn tc) := HJ_2.out.at 17
              obtain ⟨i0, hi, hz0, hz1, hz2⟩ := info_parts info_taskK
              have hszE : (w2.alloc (.cells #[] 74)).heap.size = w2.heap.size + 1 := by simp
              have hse : w.heap.size ≤ (w2.alloc (.cells #[] 74)).heap.size := HB_2.out.size
              have HLN : Hid ((tl.flatMap tvs).length = tn * 3) := by show _ = _; rw [flat_len tvs_len, HTL.out]
              go_wp2_with (with_reducible refine wpList_stop 37 ?_ ?_; rfl)
              show wpList _ _ _ _ _ _
              refine wpList_append_optat _ rfl _ _ 42 rfl w.heap.size 74 i0 (.agg #[.bool false, .int .i64 0, .int .i64 0]) 3 24 Tryz.underlying42 hi hz0 hz1 hz2 rfl (by decide) _ 0 [] rfl (World.ownsRow_made w2 #[] 0 (Nat.le_trans HWB.out (Nat.le_of_lt hj2)) (by unfold maxLen; omega) (by simp)) ta tn tc (tl.flatMap tvs) rfl HLN.out T1_2.out.no T1_2.out.news (tvs_one tl) (by unfold maxLen; omega) (by omega) hse ?_
              intro v' w7 hown hgrow hat
              rw [Nat.zero_add, List.nil_append] at hown
              obtain ⟨ta', tc', rfl, hT7⟩ := OwnsT.form HTL.out hown
              have HT7 : Hid (OwnsT w7 w.heap.size ta' tn tc' tl) := hT7
              have hob : ∀ g ∈ ob ta', w2.heap.size ≤ g := fun g hg => by have e := ob_own (n := tn) (c := tc') hg; rcases hat with e2 | e2 <;> (rw [e2] at e; have e := Option.some.inj e; first | exact Nat.le_of_eq e | (rw [hszE] at e; omega))
              have hg7 : (w2.alloc (.cells #[] 74)).grownBy w7 (some w2.heap.size) := hgrow
              have HLw : Hid (∀ g ∈ bls hb mb ab' ai qs, g < w2.heap.size) := fun g hg => by have := HLT.out g hg; omega
              have HG7 : Hid (Hall w7 w.heap.size hb now next ab' nb cb' bs ai ni ci mb qs) := HG_2.out.grown hg7 (fun g hg e => by have := HLw.out g hg; have := Option.some.inj e; omega)
              have HJ7 : Hid (Lies w7 jb [.int .i64 jid, .int .i64 a, .int .i64 b, .int .i64 c', .int .i64 d, .int .i64 f, .int .i64 k, .int .i64 a', .int .i64 b', .int .i64 c'', .int .i64 d', .int .i64 f', .int .i64 k', .int .i64 s1, .int .i64 s2, .int .i64 jr, .bool jg, .slice ta tn tc]) := HJ_2.out.grown hg7 (fun e => by have := Option.some.inj e; omega)
              have HB7 : Hid (Below w.heap.size w w7) := HB_2.out.trans (below_of_grown hg7 hse (fun z e => by have := Option.some.inj e; have := HWB.out; have := hj2; omega))
              have hs7 := hg7.size
              have HD7 : Hid (∀ g ∈ ob ta', g ∉ bls hb mb ab' ai qs) := fun g hg hx => by have := hob g hg; have := HLw.out g hx; omega
              have HDj : Hid (∀ g ∈ ob ta', g ≠ jb) := fun g hg e => by have := hob g hg; omega
              have HJn : Hid (∀ g ∈ bls hb mb ab' ai qs, g ≠ jb) := fun g hg e => by have := HLT.out g hg; omega
              have c17 : w7.cell? ⟨jb, 17, none⟩ = some (.slice ta tn tc) := HJ7.out.at 17
              have f17 : w7.frozen? ⟨jb, 17, none⟩ = false := HJ7.out.fr 17
              clear hown hgrow hat hT7 hob hg7 hs7 hi hz0 hz1 hz2 hszE HLN x17 HB_2 HG_2 T1_2 HJ_2
              go_wp2_with (with_reducible refine wpList_stop 40 ?_ ?_; rfl)
              show wpList _ _ _ _ _ _
              have HJ9 : Hid (Lies (w7.setCell ⟨jb, 17, none⟩ (.slice ta' tn tc')) jb [.int .i64 jid, .int .i64 a, .int .i64 b, .int .i64 c', .int .i64 d, .int .i64 f, .int .i64 k, .int .i64 a', .int .i64 b', .int .i64 c'', .int .i64 d', .int .i64 f', .int .i64 k', .int .i64 s1, .int .i64 s2, .int .i64 jr, .bool jg, .slice ta' tn tc']) := HJ7.out.set 17 (by simp) _
              have hg9 : w7.grownBy (w7.setCell ⟨jb, 17, none⟩ (.slice ta' tn tc')) (some jb) := grown_setCell _ _ _
              have HG9 : Hid (Hall (w7.setCell ⟨jb, 17, none⟩ (.slice ta' tn tc')) w.heap.size hb now next ab' nb cb' bs ai ni ci mb qs) := HG7.out.grown hg9 (fun g hg e => HJn.out g hg (Option.some.inj e).symm)
              have HT9 : Hid (OwnsT (w7.setCell ⟨jb, 17, none⟩ (.slice ta' tn tc')) w.heap.size ta' tn tc' tl) := HT7.out.grown hg9 (fun g hg e => HDj.out g hg (Option.some.inj e).symm)
              have HB9 : Hid (Below w.heap.size w (w7.setCell ⟨jb, 17, none⟩ (.slice ta' tn tc'))) := HB7.out.trans (below_of_grown hg9 HB7.out.size (fun z e => by have := Option.some.inj e; have := HWB.out; omega))
              generalize (w7.setCell ⟨jb, 17, none⟩ (.slice ta' tn tc')) = w9 at HJ9 HG9 HT9 HB9 hg9 ⊢
              clear HG7 HJ7 HB7 HT7 hg9 c17 f17
              have hR9 := HJ9.out.row
              have iL : (Tryz.prog.info? 44).map (·.size) = some ([.int .i64 jid, .int .i64 a, .int .i64 b, .int .i64 c', .int .i64 d, .int .i64 f, .int .i64 k, .int .i64 a', .int .i64 b', .int .i64 c'', .int .i64 d', .int .i64 f', .int .i64 k', .int .i64 s1, .int .i64 s2, .int .i64 jr, .bool jg, .slice ta' tn tc'] : List Value).length := (show (Tryz.prog.info? 44).map (·.size) = some 18 by kernel_rfl)
              with_reducible refine wpList_load_mid ?qg 44 ?qlk ?qo jb 0 ?qhx [.int .i64 jid, .int .i64 a, .int .i64 b, .int .i64 c', .int .i64 d, .int .i64 f, .int .i64 k, .int .i64 a', .int .i64 b', .int .i64 c'', .int .i64 d', .int .i64 f', .int .i64 k', .int .i64 s1, .int .i64 s2, .int .i64 jr, .bool jg, .slice ta' tn tc'] _ hR9 Tryz.underlying44 ?qd iL ?qr
              case qg => exact rfl
              case qo => exact rfl
              case qhx => exact rfl
              case qd => exact rfl
              case qr =>
                clear iL
                show wpList _ _ _ _ _ _
                clear hR9
                have C4 : Calls Tryz.prog 85 #[.pointer (some ⟨hb, 0, none⟩), .agg #[.int .i64 jid, .int .i64 a, .int .i64 b, .int .i64 c', .int .i64 d, .int .i64 f, .int .i64 k, .int .i64 a', .int .i64 b', .int .i64 c'', .int .i64 d', .int .i64 f', .int .i64 k', .int .i64 s1, .int .i64 s2, .int .i64 jr, .bool jg, .slice ta' tn tc']] w9 fun e w' => e = .returned (.tuple #[]) ∧ ∃ ai' ci', Hall w' w.heap.size hb now next ab' nb cb' bs ai' (ni + 1) ci' mb (qs ++ [⟨⟨jid, ⟨⟨a, b, c', d, f, k⟩, ⟨a', b', c'', d', f', k'⟩⟩, (s1, s2), jr, jg, tl⟩, w9.heap.size, ta', tc'⟩]) ∧ Below w.heap.size w9 w' := by
                  have h0 := enter_any ⟨jid, ⟨⟨a, b, c', d, f, k⟩, ⟨a', b', c'', d', f', k'⟩⟩, (s1, s2), jr, jg, tl⟩ ta' tc' w9 HG9.out HNQ.out (by show OwnsT _ _ _ tl.length _ _; rw [HTL.out]; exact HT9.out) HD7.out HB9.out.size (by rw [HNI.out]; omega)
                  dsimp only [jvs] at h0
                  rw [HTL.out] at h0
                  exact h0
                go_wp2_with fail
                refine C4.mono ?_
                rintro e w10 ⟨rfl, ai2, ci2, hH, hB⟩
                have HH' : Hid (Hall w10 w.heap.size hb now next ab' nb cb' bs ai2 (ni + 1) ci2 mb (qs ++ [⟨⟨jid, ⟨⟨a, b, c', d, f, k⟩, ⟨a', b', c'', d', f', k'⟩⟩, (s1, s2), jr, jg, tl⟩, w9.heap.size, ta', tc'⟩])) := hH
                have HB' : Hid (Below w.heap.size w w10) := HB9.out.trans hB
                clear hH hB C4
                go_wp2
                go_roundw
                case rel => exact ⟨kk + 1, ai2, ni + 1, ci2, _, by omega, by go_num, HH'.out, by rw [List.map_append]; exact HQS.out, HB'.out⟩
                case measure => simp [intOf]; omega
      have hke : kk = nj := by omega
      have HHf : Hid (Hall wr w.heap.size hb now next ab' nb cb' bs ai ni ci mb qs) := hh
      have HQf : Hid (qs.map (·.j) = js) := by show _ = _; rw [hqs, List.take_of_length_le (by omega)]
      have HBf : Hid (Below w.heap.size w wr) := hb1
      have hkI : ¬ (kk : Int) < (nj : Int) := by omega
      clear hh hqs hb1
      go_wp2
      exact bodyPost_ret (v := .tuple #[.pointer (some ⟨hb, 0, none⟩), .bool true]) (by simp [results, Tryz.results48, go_sem]) rfl ⟨hb, ab', nb, cb', ai, ni, ci, mb, qs, rfl, HHf.out, HQf.out, HBf.out⟩
end Go.Proofs.YtfhknkppiidnkaaGreat
namespace Go.Proofs.YtfhknkppiidnkaaGreat
open Go.RowKit

theorem jobAt_find (id : Int) : ∀ (qs : List HJ) (k : Nat), (∃ q i, qs.find? (fun q => id == q.j.id) = some q ∧ q ∈ qs ∧ M.jobAt id k (qs.map (·.j)) = ((k + i : Nat) : Int) ∧ (qs.map (·.j)).getD i M.j0 = q.j) ∨ (qs.find? (fun q => id == q.j.id) = none ∧ M.jobAt id k (qs.map (·.j)) = -1)
  | [], _ => .inr ⟨rfl, rfl⟩
  | q :: qs, k => by
    rw [List.find?_cons, List.map_cons]
    unfold M.jobAt
    by_cases e : q.j.id = id
    · rw [if_pos e, show (id == q.j.id) = true by simp [e]]
      exact .inl ⟨q, 0, rfl, by simp, rfl, rfl⟩
    · rw [if_neg e, show (id == q.j.id) = false by simpa using fun e2 => e e2.symm]
      rcases jobAt_find id qs (k + 1) with ⟨q', i, h1, h2, h3, h4⟩ | ⟨h1, h2⟩
      · exact .inl ⟨q', i + 1, h1, by simp [h2], by rw [h3]; congr 1; omega, h4⟩
      · exact .inr ⟨h1, h2⟩
/-- what jobIn leaves -/
def JobPost (w : World) (now next id : Int) (bs : List Int) (js : List M.Jb) (e : Ending) (w' : World) : Prop :=
  (M.stOk now next id bs js = false → e = .returned (.tuple #[.pointer none, .bool false])) ∧
  (M.stOk now next id bs js = true → ∃ q : HJ, e = .returned (.tuple #[.pointer (some ⟨q.b, 0, none⟩), .bool true]) ∧ q.j = js.getD (M.jobAt id 0 js).toNat M.j0 ∧ Lies w' q.b q.vs ∧ SeesT w' q.a q.j.ts.length q.c q.j.ts) ∧ Below w.heap.size w w'
set_option maxHeartbeats 8000000 in
set_option maxRecDepth 10000 in
theorem jobIn_any {ab aj : Option Addr} {nb cb nj cj : Nat} {bs : List Int} {js : List M.Jb} (now next id : Int) (w : World) (hz : SeesM w ab nb cb aj nj cj bs js) :
    Calls Tryz.prog 21 #[.agg #[.int .i64 now, .int .i64 next, .slice ab nb cb, .slice aj nj cj], .int .i64 id] w fun e w' => JobPost w now next id bs js e w' := by
  cases hf : M.mkOk now next bs js with
  | false =>
    have C1 := fun W (h : SeesM W ab nb cb aj nj cj bs js) => hallOf_no now next W h hf
    have HO : Hid (M.stOk now next id bs js = false) := by show _ = _; unfold M.stOk; rw [hf]; rfl
    have HM : Hid (SeesM w ab nb cb aj nj cj bs js) := hz
    clear hz hf
    go_enter Tryz.func21, Tryz.ntmps21
    have HB_0 : Hid (Below w.heap.size w (w.alloc (.cells #[.int .i64 now, .int .i64 next, .slice ab nb cb, .slice aj nj cj] 27))) := (Below.refl _ _).alloc (Nat.le_refl _) _
    go_wp2_with fail
    generalize (w.alloc (.cells #[.int .i64 now, .int .i64 next, .slice ab nb cb, .slice aj nj cj] 27)) = wa at HB_0  ⊢
    refine (C1 _ (HM.out.below HB_0.out)).mono ?_
    rintro e wb ⟨rfl, hb⟩
    have HB_1 : Hid (Below w.heap.size w wb) := HB_0.out.trans (hb.mono HB_0.out.size)
    clear HB_0
    clear hb
    go_wp2
    exact bodyPost_ret (v := .tuple #[.pointer none, .bool false]) (by simp [results, Tryz.results21, go_sem]) rfl ⟨fun _ => rfl, fun h => by rw [HO.out] at h; simp at h, HB_1.out⟩
  | true =>
    have C1 := fun W (h : SeesM W ab nb cb aj nj cj bs js) => hallOf_yes now next W h hf
    have HM : Hid (SeesM w ab nb cb aj nj cj bs js) := hz
    have HO : Hid (M.stOk now next id bs js = decide (0 ≤ M.jobAt id 0 js)) := by show _ = _; unfold M.stOk; rw [hf]; rfl
    clear hz hf
    go_enter Tryz.func21, Tryz.ntmps21
    have HB_0 : Hid (Below w.heap.size w (w.alloc (.cells #[.int .i64 now, .int .i64 next, .slice ab nb cb, .slice aj nj cj] 27))) := (Below.refl _ _).alloc (Nat.le_refl _) _
    go_wp2_with fail
    generalize (w.alloc (.cells #[.int .i64 now, .int .i64 next, .slice ab nb cb, .slice aj nj cj] 27)) = wa at HB_0  ⊢
    refine (C1 _ (HM.out.below HB_0.out)).mono ?_
    rintro e wb ⟨h, ab', nb', cb', ai, ni, ci, mb, qs, rfl, hh, hqs, hb⟩
    have HB : Hid (Below w.heap.size w wb) := HB_0.out.trans (hb.mono HB_0.out.size)
    have HH : Hid (Hall wb wa.heap.size h now next ab' nb' cb' bs ai ni ci mb qs) := hh
    clear hb hh C1 HM HB_0
    have h4 : wb.cell? ⟨h, 4, none⟩ = some (.map (some mb)) := HH.out.l.at 4
    subst hqs
    rcases jobAt_find id qs 0 with ⟨q, i, h1, h2, h3, h4'⟩ | ⟨h1, h2⟩
    · have hlk : look id (qs.map HJ.ent) = some (.pointer (some ⟨q.b, 0, none⟩)) := by rw [look_ents, h1]; rfl
      have hrun := HH.out.m.get (P := Tryz.prog) (t := 104) Tryz.underlying104 Tryz.underlying2 id _ hlk true
      simp only [if_true] at hrun
      have HQ : Hid (q ∈ qs) := h2
      have HI : Hid (M.jobAt id 0 (qs.map (·.j)) = (i : Int)) := by show _ = _; rw [h3]; simp
      have HG : Hid ((qs.map (·.j)).getD i M.j0 = q.j) := h4'
      clear h1 h2 h3 h4' hlk
      go_wp2_with fail
      have HJq := HH.out.j q HQ.out
      exact bodyPost_ret (v := .tuple #[.pointer (some ⟨q.b, 0, none⟩), .bool true]) (by simp [results, Tryz.results21, go_sem]) rfl ⟨fun h => by rw [HO.out, HI.out] at h; simp at h, fun _ => ⟨q, rfl, by rw [HI.out, Int.toNat_natCast]; exact HG.out.symm, HJq.1, HJq.2.sees⟩, HB.out⟩
    · have hlk : look id (qs.map HJ.ent) = none := by rw [look_ents, h1]; rfl
      have hzp : (zeroValue 61).run Tryz.prog wb = .ok (.pointer none) wb := by kernel_rfl
      have hrun := HH.out.m.miss (P := Tryz.prog) (t := 104) Tryz.underlying104 Tryz.underlying2 id hzp hlk true
      simp only [if_true] at hrun
      have HI : Hid (M.jobAt id 0 (qs.map (·.j)) = -1) := h2
      clear h1 h2 hlk hzp
      go_wp2_with fail
      exact bodyPost_ret (v := .tuple #[.pointer none, .bool false]) (by simp [results, Tryz.results21, go_sem]) rfl ⟨fun _ => rfl, fun h => by rw [HO.out, HI.out] at h; simp at h, HB.out⟩
set_option maxHeartbeats 8000000 in
set_option maxRecDepth 10000 in
theorem implStatusOf_any {ab aj : Option Addr} {nb cb nj cj : Nat} {bs : List Int} {js : List M.Jb} (now next id : Int) (w : World) (hz : SeesM w ab nb cb aj nj cj bs js) :
    Calls Tryz.prog 9 #[.agg #[.int .i64 now, .int .i64 next, .slice ab nb cb, .slice aj nj cj], .int .i64 id] w fun e w' => e = .returned (.tuple #[.int .i64 (M.stN now next id bs js : Nat), .int .i64 (M.stL now next id bs js : Nat), .bool (M.stOk now next id bs js)]) ∧ Below w.heap.size w w' := by
  have C1 := fun W (h : SeesM W ab nb cb aj nj cj bs js) => jobIn_any now next id W h
  have HM : Hid (SeesM w ab nb cb aj nj cj bs js) := hz
  have HF : Hid (M.stOk now next id bs js = false → M.stN now next id bs js = 0 ∧ M.stL now next id bs js = 0) := fun h => by unfold M.stN M.stL; rw [h]; exact ⟨rfl, rfl⟩
  have HTt : Hid (M.stOk now next id bs js = true → M.stN now next id bs js = ((js.getD (M.jobAt id 0 js).toNat M.j0).ts.filter (·.done)).length ∧ M.stL now next id bs js = (js.getD (M.jobAt id 0 js).toNat M.j0).ts.length) := fun h => by unfold M.stN M.stL; rw [h]; exact ⟨rfl, rfl⟩
  unfold JobPost at C1
  generalize M.stN now next id bs js = sn at HF HTt ⊢
  generalize M.stL now next id bs js = sl at HF HTt ⊢
  generalize M.stOk now next id bs js = so at HF HTt C1 ⊢
  clear hz
  go_enter Tryz.func9, Tryz.ntmps9
  have HB_0 : Hid (Below w.heap.size w (w.alloc (.cells #[.int .i64 now, .int .i64 next, .slice ab nb cb, .slice aj nj cj] 27))) := (Below.refl _ _).alloc (Nat.le_refl _) _
  go_wp2_with fail
  generalize (w.alloc (.cells #[.int .i64 now, .int .i64 next, .slice ab nb cb, .slice aj nj cj] 27)) = wa at HB_0  ⊢
  refine (C1 _ (HM.out.below HB_0.out)).mono ?_
  rintro e wb ⟨h1, h2, hb⟩
  have HB_1 : Hid (Below w.heap.size w wb) := HB_0.out.trans (hb.mono HB_0.out.size)
  clear HB_0
  clear C1 HM hb
  cases so with
  | false =>
    obtain rfl := h1 rfl
    obtain ⟨rfl, rfl⟩ := HF.out rfl
    clear h1 h2 HF HTt
    go_wp2
    exact bodyPost_ret (v := .tuple #[.int .i64 0, .int .i64 0, .bool false]) (by simp [results, Tryz.results9, go_sem]) rfl ⟨rfl, HB_1.out⟩
  | true =>
    obtain ⟨q, rfl, hq, hl, hs⟩ := h2 rfl
    obtain ⟨e1, e2⟩ := HTt.out rfl
    rw [← hq] at e1 e2
    subst e1 e2
    have CD : ∀ W, Lies W q.b q.vs → SeesT W q.a q.j.ts.length q.c q.j.ts → Calls Tryz.prog 30 #[.pointer (some ⟨q.b, 0, none⟩)] W fun e w' => e = .returned (.int .i64 ((q.j.ts.filter (·.done)).length : Nat)) ∧ Below W.heap.size W w' := fun W h1 h2 => doneTasks_any W (h1.at 17) h2
    have hbig : (q.j.ts.length : Int) ≤ 9223372036854775807 := by have := hs.le; have := hs.big; omega
    generalize hsn : (q.j.ts.filter (·.done)).length = sn at CD
    have HSN : Hid ((q.j.ts.filter (·.done)).length = sn) := hsn
    clear hsn
    clear h1 h2 HF HTt hq
    have HQ_1 : Hid (Lies wb q.b q.vs) := hl
    have T1_1 : Hid (SeesT wb q.a q.j.ts.length q.c q.j.ts) := hs
    clear hl hs
    have x17 : wb.cell? ⟨q.b, 17, none⟩ = some (.slice q.a q.j.ts.length q.c) := HQ_1.out.at 17
    go_wp2_with fail
    clear x17
    refine wp_region_noPanic ?_
    refine wp_region_held_drew (S := fun W => wb.grownBy W none) (by kernel_rfl) (grown_drew _ _) (fun hHeld => ?_)
    generalize wb.drew = wd0 at hHeld ⊢
    have HX0 : Hid (Below wb.heap.size wb wd0) := ⟨hHeld.os, hHeld.tape, hHeld.output, hHeld.size, fun k hk => hHeld.block k hk (by simp)⟩
    refine wpAnyH_take (i := 0) (v := .pointer (some ⟨q.b, 0, none⟩)) rfl (by kernel_rfl) (by kernel_rfl) (by kernel_rfl) (fun _ _ _ h => h) (Or.inl ⟨by kernel_rfl, ?_⟩) (by assumption) ?_
    · intro wq hSq; go_simp
    try simp only [Act.put]
    refine wpAnyH_take (i := 2) (v := .pointer (some ⟨q.b, 0, none⟩)) rfl (by kernel_rfl) (by kernel_rfl) (by kernel_rfl) (fun _ _ _ h => h) (Or.inl ⟨by kernel_rfl, ?_⟩) (by assumption) ?_
    · intro wq hSq; go_simp
    try simp only [Act.put]
    refine wpAnyH_take (i := 3) (v := .pointer (some ⟨q.b, 0, none⟩)) rfl (by kernel_rfl) (by kernel_rfl) (by kernel_rfl) (fun _ _ _ h => h) (Or.inl ⟨by kernel_rfl, ?_⟩) (by assumption) ?_
    · intro wq hSq; go_simp
    try simp only [Act.put]
    refine wpAnyH_take (i := 4) (v := .pointer (some ⟨q.b, 17, none⟩)) rfl (by kernel_rfl) (by kernel_rfl) (by kernel_rfl) (fun _ _ _ h => h) (Or.inl ⟨by kernel_rfl, ?_⟩) (by assumption) ?_
    · intro wq hSq; go_simp
    try simp only [Act.put]
    refine wpAnyH_take (i := 5) (v := .slice q.a q.j.ts.length q.c) rfl (by kernel_rfl) (by kernel_rfl) (by kernel_rfl) (fun _ _ _ h => h) (Or.inl ⟨by kernel_rfl, ?_⟩) (by assumption) ?_
    · intro wp hSp; have c0 : wp.cell? ⟨q.b, 17, none⟩ = some (.slice q.a q.j.ts.length q.c) := (HQ_1.out.grown hSp (by simp)).at 17; go_simp
    try simp only [Act.put]
    refine wpAnyH_take (i := 6) (v := .int .i64 (q.j.ts.length : Nat)) rfl (by kernel_rfl) (by kernel_rfl) (by kernel_rfl) (fun _ _ _ h => h) (Or.inl ⟨by kernel_rfl, ?_⟩) (by assumption) ?_
    · intro wq hSq; go_simp
    try simp only [Act.put]
    refine wpAnyH_ready (rs := [1]) (by kernel_rfl) (by simp) ?_
    refine AllReadyH.cons rfl (fun Kk hK => ?_) AllReadyH.nil
    go_simp
    refine (CD _ (HQ_1.out.belowS HX0.out) (T1_1.out.below HX0.out)).mono ?_
    rintro e wd1 ⟨rfl, hb1⟩
    go_simp
    have hS1 : wb.grownBy wd1 none := grown_step hHeld hb1
    have HX1 : Hid (Below wb.heap.size wb wd1) := ⟨hS1.os, hS1.tape, hS1.output, hS1.size, fun k hk => hS1.block k hk (by simp)⟩
    refine hK.out _ _ hS1 (fun _ => ?_)
    clear hK Kk hb1
    try simp only [Act.put]
    refine wpAnyH_take (i := 7) (v := .int .i64 (sn : Nat)) rfl (by kernel_rfl) (by kernel_rfl) (by kernel_rfl) (fun _ _ _ h => h) (Or.inl ⟨by kernel_rfl, ?_⟩) (by assumption) ?_
    · intro wq hSq; go_simp
    try simp only [Act.put]
    refine wpAnyH_take (i := 8) (v := .int .i64 (q.j.ts.length : Nat)) rfl (by kernel_rfl) (by kernel_rfl) (by kernel_rfl) (fun _ _ _ h => h) (Or.inl ⟨by kernel_rfl, ?_⟩) (by assumption) ?_
    · intro wq hSq; go_simp
    try simp only [Act.put]
    refine wpAnyH_take (i := 9) (v := .bool true) rfl (by kernel_rfl) (by kernel_rfl) (by kernel_rfl) (fun _ _ _ h => h) (Or.inl ⟨by kernel_rfl, ?_⟩) (by assumption) ?_
    · intro wq hSq; go_simp
    try simp only [Act.put]
    refine wpAnyH_done (by kernel_rfl) ?_ _
    refine NoPanic.normal ?_
    go_simp
    have HB_2 : Hid (Below w.heap.size w wd1) := HB_1.out.trans (HX1.out.mono HB_1.out.size)
    have HQ_2 : Hid (Lies wd1 q.b q.vs) := HQ_1.out.belowS HX1.out
    have T1_2 : Hid (SeesT wd1 q.a q.j.ts.length q.c q.j.ts) := T1_1.out.below HX1.out
    clear HB_1 HQ_1 T1_1
    go_wp2_with fail
    exact bodyPost_ret (v := .tuple #[.int .i64 (sn : Nat), .int .i64 (q.j.ts.length : Nat), .bool true]) (by simp [results, Tryz.results9, go_sem]) rfl ⟨by rw [HSN.out], HB_2.out⟩
end Go.Proofs.YtfhknkppiidnkaaGreat
namespace Go.Proofs.YtfhknkppiidnkaaGreat
open Go.RowKit

/-- what is told as a job's result -/
def M.resIn (now next id : Int) (bs : List Int) (js : List M.Jb) : Bool := M.stOk now next id bs js && (M.jobOf id js).ts.all (·.done)
def M.resL (id : Int) (js : List M.Jb) : List M.Cl := M.cutv (M.jobOf id js).m (M.jobOf id js).s (M.jobOf id js).rows (M.jobOf id js).ts.length
def M.resC (now next id : Int) (bs : List Int) (js : List M.Jb) : M.Cl := if M.resIn now next id bs js = true then M.allv (M.resL id js) else M.c0
def M.resB (now next id : Int) (bs : List Int) (js : List M.Jb) : Bool := M.resIn now next id bs js && M.allOk (M.resL id js)
set_option maxHeartbeats 8000000 in
set_option maxRecDepth 10000 in
theorem specResultOf_any {ab aj : Option Addr} {nb cb nj cj : Nat} {bs : List Int} {js : List M.Jb} (now next id : Int) (w : World) (hz : SeesM w ab nb cb aj nj cj bs js) :
    Calls Tryz.prog 8 #[.agg #[.int .i64 now, .int .i64 next, .slice ab nb cb, .slice aj nj cj], .int .i64 id] w fun e w' => e = .returned (.tuple #[clv (M.resC now next id bs js), .bool (M.resB now next id bs js)]) ∧ Below w.heap.size w w' := by
  have HM : Hid (SeesM w ab nb cb aj nj cj bs js) := hz
  have hcj : (nj : Int) ≤ cj := by have := hz.j.le; omega
  have bnj : (nj : Int) ≤ 9223372036854775807 := by have := hz.j.big; have := hz.j.le; omega
  have hlen : js.length = nj := hz.j.len
  have C1 : ∀ W, SeesJ W aj nj cj js → Calls Tryz.prog 25 #[.agg #[.int .i64 now, .int .i64 next, .slice ab nb cb, .slice aj nj cj], .int .i64 id] W fun e w' => e = .returned (.int .i64 (M.jobAt id 0 js)) ∧ Below W.heap.size W w' := fun W h => l8Job_any now next id W h
  have C2 : ∀ W, SeesM W ab nb cb aj nj cj bs js → Calls Tryz.prog 26 #[.agg #[.int .i64 now, .int .i64 next, .slice ab nb cb, .slice aj nj cj]] W fun e w' => e = .returned (.bool (M.mkOk now next bs js)) ∧ Below W.heap.size W w' := fun W h => specMarketOk_any now next W h
  have HJS := M.jobAt_some id js 0
  have HF : Hid (M.resIn now next id bs js = false → M.resC now next id bs js = M.c0 ∧ M.resB now next id bs js = false) := fun h => by unfold M.resC M.resB; rw [h]; exact ⟨rfl, rfl⟩
  have HTt : Hid (M.resIn now next id bs js = true → M.resC now next id bs js = M.allv (M.resL id js) ∧ M.resB now next id bs js = M.allOk (M.resL id js)) := fun h => by unfold M.resC M.resB; rw [h]; exact ⟨rfl, rfl⟩
  generalize M.resC now next id bs js = rc at HF HTt ⊢
  generalize M.resB now next id bs js = rb at HF HTt ⊢
  have hSt : M.resIn now next id bs js = ((M.mkOk now next bs js && decide (0 ≤ M.jobAt id 0 js)) && (js.getD (M.jobAt id 0 js).toNat M.j0).ts.all (·.done)) := rfl
  have hRl : M.resL id js = M.cutv (js.getD (M.jobAt id 0 js).toNat M.j0).m (js.getD (M.jobAt id 0 js).toNat M.j0).s (js.getD (M.jobAt id 0 js).toNat M.j0).rows (js.getD (M.jobAt id 0 js).toNat M.j0).ts.length := rfl
  generalize M.resL id js = rl at hRl HTt
  generalize M.resIn now next id bs js = os at hSt HF HTt
  generalize M.mkOk now next bs js = om at C2 hSt
  generalize M.jobAt id 0 js = at_ at C1 hSt HJS hRl
  have HSt : Hid (os = ((om && decide (0 ≤ at_)) && (js.getD at_.toNat M.j0).ts.all (·.done))) := hSt
  have HRl : Hid (rl = M.cutv (js.getD at_.toNat M.j0).m (js.getD at_.toNat M.j0).s (js.getD at_.toNat M.j0).rows (js.getD at_.toNat M.j0).ts.length) := hRl
  clear hz hSt hRl
  go_enter Tryz.func8, Tryz.ntmps8
  have HA_0 : Hid (Lies ((w.alloc (.cells #[.int .i64 now, .int .i64 next, .slice ab nb cb, .slice aj nj cj] 27)).alloc (.cells #[.int .i64 0, .int .i64 0, .int .i64 0, .int .i64 0, .int .i64 0] 33)) w.heap.size [.int .i64 now, .int .i64 next, .slice ab nb cb, .slice aj nj cj]) := (lies_new _ _ _).alloc _
  have HZ_0 : Hid (Lies ((w.alloc (.cells #[.int .i64 now, .int .i64 next, .slice ab nb cb, .slice aj nj cj] 27)).alloc (.cells #[.int .i64 0, .int .i64 0, .int .i64 0, .int .i64 0, .int .i64 0] 33)) (w.heap.size + 1) [.int .i64 0, .int .i64 0, .int .i64 0, .int .i64 0, .int .i64 0]) := lies_new2 _ _ _ _
  have HB_0 : Hid (Below w.heap.size w ((w.alloc (.cells #[.int .i64 now, .int .i64 next, .slice ab nb cb, .slice aj nj cj] 27)).alloc (.cells #[.int .i64 0, .int .i64 0, .int .i64 0, .int .i64 0, .int .i64 0] 33))) := ((Below.refl _ _).alloc (Nat.le_refl _) _).alloc (by simp) _
  go_wp2_with fail
  generalize ((w.alloc (.cells #[.int .i64 now, .int .i64 next, .slice ab nb cb, .slice aj nj cj] 27)).alloc (.cells #[.int .i64 0, .int .i64 0, .int .i64 0, .int .i64 0, .int .i64 0] 33)) = wa at HA_0 HZ_0 HB_0  ⊢
  refine (C1 _ (HM.out.j.below HB_0.out)).mono ?_
  rintro e wb ⟨rfl, hb⟩
  have HA_1 : Hid (Lies wb w.heap.size [.int .i64 now, .int .i64 next, .slice ab nb cb, .slice aj nj cj]) := HA_0.out.belowS hb
  have HZ_1 : Hid (Lies wb (w.heap.size + 1) [.int .i64 0, .int .i64 0, .int .i64 0, .int .i64 0, .int .i64 0]) := HZ_0.out.belowS hb
  have HB_1 : Hid (Below w.heap.size w wb) := HB_0.out.trans (hb.mono HB_0.out.size)
  clear HA_0 HZ_0 HB_0
  clear hb
  have x0 : wb.cell? ⟨w.heap.size, 0, none⟩ = some (.int .i64 now) := HA_1.out.at 0
  have x1 : wb.cell? ⟨w.heap.size, 1, none⟩ = some (.int .i64 next) := HA_1.out.at 1
  have x2 : wb.cell? ⟨w.heap.size, 2, none⟩ = some (.slice ab nb cb) := HA_1.out.at 2
  have x3 : wb.cell? ⟨w.heap.size, 3, none⟩ = some (.slice aj nj cj) := HA_1.out.at 3
  go_wp2_with fail
  clear x0 x1 x2 x3
  refine (C2 _ (HM.out.below HB_1.out)).mono ?_
  rintro e wc ⟨rfl, hb⟩
  have HA_2 : Hid (Lies wc w.heap.size [.int .i64 now, .int .i64 next, .slice ab nb cb, .slice aj nj cj]) := HA_1.out.belowS hb
  have HZ_2 : Hid (Lies wc (w.heap.size + 1) [.int .i64 0, .int .i64 0, .int .i64 0, .int .i64 0, .int .i64 0]) := HZ_1.out.belowS hb
  have HB_2 : Hid (Below w.heap.size w wc) := HB_1.out.trans (hb.mono HB_1.out.size)
  clear HA_1 HZ_1 HB_1
  clear hb
  cases om with
  | false =>
    obtain rfl : os = false := by rw [HSt.out]; rfl
    obtain ⟨rfl, rfl⟩ := HF.out (by simp)
    have z0 : wc.cell? ⟨w.heap.size + 1, 0, none⟩ = some (.int .i64 0) := HZ_2.out.at 0
    have fz0 : wc.frozen? ⟨w.heap.size + 1, 0, none⟩ = false := HZ_2.out.fr 0
    have z1 : wc.cell? ⟨w.heap.size + 1, 1, none⟩ = some (.int .i64 0) := HZ_2.out.at 1
    have fz1 : wc.frozen? ⟨w.heap.size + 1, 1, none⟩ = false := HZ_2.out.fr 1
    have z2 : wc.cell? ⟨w.heap.size + 1, 2, none⟩ = some (.int .i64 0) := HZ_2.out.at 2
    have fz2 : wc.frozen? ⟨w.heap.size + 1, 2, none⟩ = false := HZ_2.out.fr 2
    have z3 : wc.cell? ⟨w.heap.size + 1, 3, none⟩ = some (.int .i64 0) := HZ_2.out.at 3
    have fz3 : wc.frozen? ⟨w.heap.size + 1, 3, none⟩ = false := HZ_2.out.fr 3
    have z4 : wc.cell? ⟨w.heap.size + 1, 4, none⟩ = some (.int .i64 0) := HZ_2.out.at 4
    have fz4 : wc.frozen? ⟨w.heap.size + 1, 4, none⟩ = false := HZ_2.out.fr 4
    go_wp2_with fail
    show bodyPost _ _ _ _ _ (wc.setCells (w.heap.size + 1) 0 [.int .i64 0, .int .i64 0, .int .i64 0, .int .i64 0, .int .i64 0])
    have hLf : Lies (wc.setCells (w.heap.size + 1) 0 [.int .i64 0, .int .i64 0, .int .i64 0, .int .i64 0, .int .i64 0]) (w.heap.size + 1) [.int .i64 0, .int .i64 0, .int .i64 0, .int .i64 0, .int .i64 0] := HZ_2.out.setCells [.int .i64 0, .int .i64 0, .int .i64 0, .int .i64 0, .int .i64 0] 0 (by simp)
    have hgf : wc.grownBy (wc.setCells (w.heap.size + 1) 0 [.int .i64 0, .int .i64 0, .int .i64 0, .int .i64 0, .int .i64 0]) (some (w.heap.size + 1)) := grown_cells (World.grownBy.refl _ _) 0 _
    have hBf : Below w.heap.size w (wc.setCells (w.heap.size + 1) 0 [.int .i64 0, .int .i64 0, .int .i64 0, .int .i64 0, .int .i64 0]) := HB_2.out.trans (below_setCells _ 0 (Below.refl _ _) (by omega))
    generalize (wc.setCells (w.heap.size + 1) 0 [.int .i64 0, .int .i64 0, .int .i64 0, .int .i64 0, .int .i64 0]) = wf at hLf hBf ⊢
    exact bodyPost_ret (results_cell_tmp rfl rfl (run_loadVar_mid wf (w.heap.size + 1) 0 33 _ _ hLf.row Tryz.underlying33 rfl (by kernel_rfl))) rfl ⟨rfl, hBf⟩
  | true =>
    by_cases h : 0 ≤ at_
    case neg =>
      obtain rfl : os = false := by rw [HSt.out]; simp; omega
      have hneg : at_ < 0 := by omega
      obtain ⟨rfl, rfl⟩ := HF.out (by simp)
      have z0 : wc.cell? ⟨w.heap.size + 1, 0, none⟩ = some (.int .i64 0) := HZ_2.out.at 0
      have fz0 : wc.frozen? ⟨w.heap.size + 1, 0, none⟩ = false := HZ_2.out.fr 0
      have z1 : wc.cell? ⟨w.heap.size + 1, 1, none⟩ = some (.int .i64 0) := HZ_2.out.at 1
      have fz1 : wc.frozen? ⟨w.heap.size + 1, 1, none⟩ = false := HZ_2.out.fr 1
      have z2 : wc.cell? ⟨w.heap.size + 1, 2, none⟩ = some (.int .i64 0) := HZ_2.out.at 2
      have fz2 : wc.frozen? ⟨w.heap.size + 1, 2, none⟩ = false := HZ_2.out.fr 2
      have z3 : wc.cell? ⟨w.heap.size + 1, 3, none⟩ = some (.int .i64 0) := HZ_2.out.at 3
      have fz3 : wc.frozen? ⟨w.heap.size + 1, 3, none⟩ = false := HZ_2.out.fr 3
      have z4 : wc.cell? ⟨w.heap.size + 1, 4, none⟩ = some (.int .i64 0) := HZ_2.out.at 4
      have fz4 : wc.frozen? ⟨w.heap.size + 1, 4, none⟩ = false := HZ_2.out.fr 4
      go_wp2_with fail
      show bodyPost _ _ _ _ _ (wc.setCells (w.heap.size + 1) 0 [.int .i64 0, .int .i64 0, .int .i64 0, .int .i64 0, .int .i64 0])
      have hLf : Lies (wc.setCells (w.heap.size + 1) 0 [.int .i64 0, .int .i64 0, .int .i64 0, .int .i64 0, .int .i64 0]) (w.heap.size + 1) [.int .i64 0, .int .i64 0, .int .i64 0, .int .i64 0, .int .i64 0] := HZ_2.out.setCells [.int .i64 0, .int .i64 0, .int .i64 0, .int .i64 0, .int .i64 0] 0 (by simp)
      have hgf : wc.grownBy (wc.setCells (w.heap.size + 1) 0 [.int .i64 0, .int .i64 0, .int .i64 0, .int .i64 0, .int .i64 0]) (some (w.heap.size + 1)) := grown_cells (World.grownBy.refl _ _) 0 _
      have hBf : Below w.heap.size w (wc.setCells (w.heap.size + 1) 0 [.int .i64 0, .int .i64 0, .int .i64 0, .int .i64 0, .int .i64 0]) := HB_2.out.trans (below_setCells _ 0 (Below.refl _ _) (by omega))
      generalize (wc.setCells (w.heap.size + 1) 0 [.int .i64 0, .int .i64 0, .int .i64 0, .int .i64 0, .int .i64 0]) = wf at hLf hBf ⊢
      exact bodyPost_ret (results_cell_tmp rfl rfl (run_loadVar_mid wf (w.heap.size + 1) 0 33 _ _ hLf.row Tryz.underlying33 rfl (by kernel_rfl))) rfl ⟨rfl, hBf⟩
    obtain ⟨i, hi, hat, _⟩ := HJS h
    rw [Nat.zero_add] at hat
    subst hat
    rw [hlen] at hi
    have hSt2 := HSt.out
    have hRl2 := HRl.out
    rw [Int.toNat_natCast] at hSt2 hRl2
    clear HSt HRl HJS
    obtain ⟨b1, o1, rfl, hc1⟩ := (HM.out.j.below HB_2.out).at (by omega)
    obtain ⟨ta, tc, hA, hT⟩ := hc1 i hi
    generalize js.getD i M.j0 = cq at hA hT hSt2 hRl2
    obtain ⟨jid, ⟨⟨a, b, c', d, f, k⟩, ⟨a', b', c'', d', f', k'⟩⟩, ⟨s1, s2⟩, jr, jg, tl⟩ := cq
    dsimp only at hT hSt2 hRl2
    have hR : wc.rangeAt b1 (o1 + i * 18) (jvs ⟨jid, ⟨⟨a, b, c', d, f, k⟩, ⟨a', b', c'', d', f', k'⟩⟩, (s1, s2), jr, jg, tl⟩ ta tc) := row_of_cells rfl hA
    have HT : Hid (SeesT wc ta tl.length tc tl) := hT
    dsimp only [jvs] at hR
    have C3 : ∀ W, SeesT W ta tl.length tc tl → Calls Tryz.prog 27 #[.agg #[.int .i64 jid, .int .i64 a, .int .i64 b, .int .i64 c', .int .i64 d, .int .i64 f, .int .i64 k, .int .i64 a', .int .i64 b', .int .i64 c'', .int .i64 d', .int .i64 f', .int .i64 k', .int .i64 s1, .int .i64 s2, .int .i64 jr, .bool jg, .slice ta tl.length tc]] W fun e w' => e = .returned (.bool (tl.all (·.done))) ∧ Below W.heap.size W w' := fun W h => l8All_any jid a b c' d f k a' b' c'' d' f' k' s1 s2 jr jg W h
    have C4 := specCutOf_any ⟨⟨a, b, c', d, f, k⟩, ⟨a', b', c'', d', f', k'⟩⟩ (s1, s2) jr (tl.length : Nat)
    dsimp only [mcv, stv] at C4
    rw [← hRl2] at C4
    have bln : (tl.length : Int) ≤ 9223372036854775807 := by have := hT.big; have := hT.le; omega
    generalize tl.length = tn at hR HT C3 C4 bln
    generalize tl.all (·.done) = od at hSt2 C3
    have HSt : Hid (os = od) := by show _ = _; rw [hSt2]; simp
    clear hc1 hA hT hSt2 hRl2
    have T1_2 : Hid (SeesT wc ta tn tc tl) := HT.out
    have hiI : (i : Int) < (nj : Int) := by omega
    have hi0 : (0 : Int) ≤ (i : Int) := by omega
    have hnn : ¬ (i : Int) < 0 := by omega
    clear HT h
    have x3 : wc.cell? ⟨w.heap.size, 3, none⟩ = some (.slice (some ⟨b1, o1, none⟩) nj cj) := HA_2.out.at 3
    have hdi : decide ((i : Int) < 0) = false := by simp
    go_wp2_with (with_reducible refine wpList_stop 25 ?_ ?_; rfl)
    show wpList _ _ _ _ _ _
    clear x3 hdi
    have iL : (Tryz.prog.info? 44).map (·.size) = some ([.int .i64 jid, .int .i64 a, .int .i64 b, .int .i64 c', .int .i64 d, .int .i64 f, .int .i64 k, .int .i64 a', .int .i64 b', .int .i64 c'', .int .i64 d', .int .i64 f', .int .i64 k', .int .i64 s1, .int .i64 s2, .int .i64 jr, .bool jg, .slice ta tn tc] : List Value).length := (show (Tryz.prog.info? 44).map (·.size) = some 18 by kernel_rfl)
    with_reducible refine wpList_load_want ?qw 44 ?qlw ?qo b1 (o1 + i * 18) ?qhx [.int .i64 jid, .int .i64 a, .int .i64 b, .int .i64 c', .int .i64 d, .int .i64 f, .int .i64 k, .int .i64 a', .int .i64 b', .int .i64 c'', .int .i64 d', .int .i64 f', .int .i64 k', .int .i64 s1, .int .i64 s2, .int .i64 jr, .bool jg, .slice ta tn tc] _ hR Tryz.underlying44 ?qd iL ?qr
    case qw => kernel_rfl
    case qo => exact rfl
    case qhx => kernel_rfl
    case qd => exact rfl
    case qr =>
      clear iL
      show wpList _ _ _ _ _ _
      go_wp2_with fail
      refine (C3 _ T1_2.out).mono ?_
      rintro e wd ⟨rfl, hb2⟩
      have HA_3 : Hid (Lies wd w.heap.size [.int .i64 now, .int .i64 next, .slice ab nb cb, .slice (some ⟨b1, o1, none⟩) nj cj]) := HA_2.out.belowS hb2
      have HZ_3 : Hid (Lies wd (w.heap.size + 1) [.int .i64 0, .int .i64 0, .int .i64 0, .int .i64 0, .int .i64 0]) := HZ_2.out.belowS hb2
      have HB_3 : Hid (Below w.heap.size w wd) := HB_2.out.trans (hb2.mono HB_2.out.size)
      have T1_3 : Hid (SeesT wd ta tn tc tl) := T1_2.out.below hb2
      clear HA_2 HZ_2 HB_2 T1_2
      have hR2 : wd.rangeAt b1 (o1 + i * 18) [.int .i64 jid, .int .i64 a, .int .i64 b, .int .i64 c', .int .i64 d, .int .i64 f, .int .i64 k, .int .i64 a', .int .i64 b', .int .i64 c'', .int .i64 d', .int .i64 f', .int .i64 k', .int .i64 s1, .int .i64 s2, .int .i64 jr, .bool jg, .slice ta tn tc] := range_below hR hb2
      cases od with
      | false =>
        obtain rfl : os = false := HSt.out
        obtain ⟨rfl, rfl⟩ := HF.out (by simp)
        have z0 : wd.cell? ⟨w.heap.size + 1, 0, none⟩ = some (.int .i64 0) := HZ_3.out.at 0
        have fz0 : wd.frozen? ⟨w.heap.size + 1, 0, none⟩ = false := HZ_3.out.fr 0
        have z1 : wd.cell? ⟨w.heap.size + 1, 1, none⟩ = some (.int .i64 0) := HZ_3.out.at 1
        have fz1 : wd.frozen? ⟨w.heap.size + 1, 1, none⟩ = false := HZ_3.out.fr 1
        have z2 : wd.cell? ⟨w.heap.size + 1, 2, none⟩ = some (.int .i64 0) := HZ_3.out.at 2
        have fz2 : wd.frozen? ⟨w.heap.size + 1, 2, none⟩ = false := HZ_3.out.fr 2
        have z3 : wd.cell? ⟨w.heap.size + 1, 3, none⟩ = some (.int .i64 0) := HZ_3.out.at 3
        have fz3 : wd.frozen? ⟨w.heap.size + 1, 3, none⟩ = false := HZ_3.out.fr 3
        have z4 : wd.cell? ⟨w.heap.size + 1, 4, none⟩ = some (.int .i64 0) := HZ_3.out.at 4
        have fz4 : wd.frozen? ⟨w.heap.size + 1, 4, none⟩ = false := HZ_3.out.fr 4
        go_wp2_with fail
        show bodyPost _ _ _ _ _ (wd.setCells (w.heap.size + 1) 0 [.int .i64 0, .int .i64 0, .int .i64 0, .int .i64 0, .int .i64 0])
        have hLf : Lies (wd.setCells (w.heap.size + 1) 0 [.int .i64 0, .int .i64 0, .int .i64 0, .int .i64 0, .int .i64 0]) (w.heap.size + 1) [.int .i64 0, .int .i64 0, .int .i64 0, .int .i64 0, .int .i64 0] := HZ_3.out.setCells [.int .i64 0, .int .i64 0, .int .i64 0, .int .i64 0, .int .i64 0] 0 (by simp)
        have hgf : wd.grownBy (wd.setCells (w.heap.size + 1) 0 [.int .i64 0, .int .i64 0, .int .i64 0, .int .i64 0, .int .i64 0]) (some (w.heap.size + 1)) := grown_cells (World.grownBy.refl _ _) 0 _
        have hBf : Below w.heap.size w (wd.setCells (w.heap.size + 1) 0 [.int .i64 0, .int .i64 0, .int .i64 0, .int .i64 0, .int .i64 0]) := HB_3.out.trans (below_setCells _ 0 (Below.refl _ _) (by omega))
        generalize (wd.setCells (w.heap.size + 1) 0 [.int .i64 0, .int .i64 0, .int .i64 0, .int .i64 0, .int .i64 0]) = wf at hLf hBf ⊢
        exact bodyPost_ret (results_cell_tmp rfl rfl (run_loadVar_mid wf (w.heap.size + 1) 0 33 _ _ hLf.row Tryz.underlying33 rfl (by kernel_rfl))) rfl ⟨rfl, hBf⟩
      | true =>
        obtain rfl : os = true := HSt.out
        obtain ⟨hrc, hrb⟩ := HTt.out (by simp)
        clear HF HTt HSt C1 C2 C3
        have x3 : wd.cell? ⟨w.heap.size, 3, none⟩ = some (.slice (some ⟨b1, o1, none⟩) nj cj) := HA_3.out.at 3
        go_wp2_with (with_reducible refine wpList_stop 34 ?_ ?_; rfl)
        show wpList _ _ _ _ _ _
        clear x3
        have iL : (Tryz.prog.info? 44).map (·.size) = some ([.int .i64 jid, .int .i64 a, .int .i64 b, .int .i64 c', .int .i64 d, .int .i64 f, .int .i64 k, .int .i64 a', .int .i64 b', .int .i64 c'', .int .i64 d', .int .i64 f', .int .i64 k', .int .i64 s1, .int .i64 s2, .int .i64 jr, .bool jg, .slice ta tn tc] : List Value).length := (show (Tryz.prog.info? 44).map (·.size) = some 18 by kernel_rfl)
        with_reducible refine wpList_load_mid ?qg 44 ?qlj ?qo b1 (o1 + i * 18) ?qhx [.int .i64 jid, .int .i64 a, .int .i64 b, .int .i64 c', .int .i64 d, .int .i64 f, .int .i64 k, .int .i64 a', .int .i64 b', .int .i64 c'', .int .i64 d', .int .i64 f', .int .i64 k', .int .i64 s1, .int .i64 s2, .int .i64 jr, .bool jg, .slice ta tn tc] _ hR2 Tryz.underlying44 ?qd iL ?qr
        case qg => exact rfl
        case qo => exact rfl
        case qhx => exact rfl
        case qd => exact rfl
        case qr =>
          clear iL
          show wpList _ _ _ _ _ _
          clear hR2 hR
          go_wp2_with (with_reducible refine wpList_stop 7 ?_ ?_; rfl)
          show wpList _ _ _ _ _ _
          have hal : (Instr.alloc 44 true (.tuple #[])).run Tryz.prog wd = .ok (.pointer (some ⟨wd.heap.size, 0, none⟩)) (wd.alloc (.cells #[.int .i64 0, .int .i64 0, .int .i64 0, .int .i64 0, .int .i64 0, .int .i64 0, .int .i64 0, .int .i64 0, .int .i64 0, .int .i64 0, .int .i64 0, .int .i64 0, .int .i64 0, .int .i64 0, .int .i64 0, .int .i64 0, .bool false, .slice none 0 0] 44)) := by kernel_rfl
          with_reducible refine wpList_alloc_as ?qg 44 ?qo #[.int .i64 0, .int .i64 0, .int .i64 0, .int .i64 0, .int .i64 0, .int .i64 0, .int .i64 0, .int .i64 0, .int .i64 0, .int .i64 0, .int .i64 0, .int .i64 0, .int .i64 0, .int .i64 0, .int .i64 0, .int .i64 0, .bool false, .slice none 0 0] hal ?qr
          case qg => exact rfl
          case qo => exact rfl
          case qr =>
            clear hal
            show wpList _ _ _ _ _ _
            have tA : (wd.alloc (.cells #[.int .i64 0, .int .i64 0, .int .i64 0, .int .i64 0, .int .i64 0, .int .i64 0, .int .i64 0, .int .i64 0, .int .i64 0, .int .i64 0, .int .i64 0, .int .i64 0, .int .i64 0, .int .i64 0, .int .i64 0, .int .i64 0, .bool false, .slice none 0 0] 44)).there wd.heap.size 0 ([.int .i64 jid, .int .i64 a, .int .i64 b, .int .i64 c', .int .i64 d, .int .i64 f, .int .i64 k, .int .i64 a', .int .i64 b', .int .i64 c'', .int .i64 d', .int .i64 f', .int .i64 k', .int .i64 s1, .int .i64 s2, .int .i64 jr, .bool jg, .slice ta tn tc] : List Value).toArray.size := (lies_new _ _ _).there _ 18 (by simp)
            have iA : (Tryz.prog.info? 44).map (·.size) = some ([.int .i64 jid, .int .i64 a, .int .i64 b, .int .i64 c', .int .i64 d, .int .i64 f, .int .i64 k, .int .i64 a', .int .i64 b', .int .i64 c'', .int .i64 d', .int .i64 f', .int .i64 k', .int .i64 s1, .int .i64 s2, .int .i64 jr, .bool jg, .slice ta tn tc] : List Value).toArray.size := (show (Tryz.prog.info? 44).map (·.size) = some 18 by kernel_rfl)
            with_reducible refine wpList_store_mid ?qg 44 ?qsx3 ?qsy3 ?qo wd.heap.size 0 ([.int .i64 jid, .int .i64 a, .int .i64 b, .int .i64 c', .int .i64 d, .int .i64 f, .int .i64 k, .int .i64 a', .int .i64 b', .int .i64 c'', .int .i64 d', .int .i64 f', .int .i64 k', .int .i64 s1, .int .i64 s2, .int .i64 jr, .bool jg, .slice ta tn tc] : List Value).toArray ?qhx ?qhy tA iA (by kernel_rfl) ?qr
            case qg => exact rfl
            case qo => exact rfl
            case qhx => exact rfl
            case qhy => exact rfl
            case qr =>
              clear tA iA
              show wpList _ _ _ _ _ ((wd.alloc (.cells #[.int .i64 0, .int .i64 0, .int .i64 0, .int .i64 0, .int .i64 0, .int .i64 0, .int .i64 0, .int .i64 0, .int .i64 0, .int .i64 0, .int .i64 0, .int .i64 0, .int .i64 0, .int .i64 0, .int .i64 0, .int .i64 0, .bool false, .slice none 0 0] 44)).setCells wd.heap.size 0 [.int .i64 jid, .int .i64 a, .int .i64 b, .int .i64 c', .int .i64 d, .int .i64 f, .int .i64 k, .int .i64 a', .int .i64 b', .int .i64 c'', .int .i64 d', .int .i64 f', .int .i64 k', .int .i64 s1, .int .i64 s2, .int .i64 jr, .bool jg, .slice ta tn tc])
              have hba : Below wd.heap.size wd ((wd.alloc (.cells #[.int .i64 0, .int .i64 0, .int .i64 0, .int .i64 0, .int .i64 0, .int .i64 0, .int .i64 0, .int .i64 0, .int .i64 0, .int .i64 0, .int .i64 0, .int .i64 0, .int .i64 0, .int .i64 0, .int .i64 0, .int .i64 0, .bool false, .slice none 0 0] 44)).setCells wd.heap.size 0 [.int .i64 jid, .int .i64 a, .int .i64 b, .int .i64 c', .int .i64 d, .int .i64 f, .int .i64 k, .int .i64 a', .int .i64 b', .int .i64 c'', .int .i64 d', .int .i64 f', .int .i64 k', .int .i64 s1, .int .i64 s2, .int .i64 jr, .bool jg, .slice ta tn tc]) := below_setCells _ _ ((Below.refl _ _).alloc (Nat.le_refl _) _) (Nat.le_refl _)
              have HA_4 : Hid (Lies ((wd.alloc (.cells #[.int .i64 0, .int .i64 0, .int .i64 0, .int .i64 0, .int .i64 0, .int .i64 0, .int .i64 0, .int .i64 0, .int .i64 0, .int .i64 0, .int .i64 0, .int .i64 0, .int .i64 0, .int .i64 0, .int .i64 0, .int .i64 0, .bool false, .slice none 0 0] 44)).setCells wd.heap.size 0 [.int .i64 jid, .int .i64 a, .int .i64 b, .int .i64 c', .int .i64 d, .int .i64 f, .int .i64 k, .int .i64 a', .int .i64 b', .int .i64 c'', .int .i64 d', .int .i64 f', .int .i64 k', .int .i64 s1, .int .i64 s2, .int .i64 jr, .bool jg, .slice ta tn tc]) w.heap.size [.int .i64 now, .int .i64 next, .slice ab nb cb, .slice (some ⟨b1, o1, none⟩) nj cj]) := HA_3.out.belowS hba
              have HZ_4 : Hid (Lies ((wd.alloc (.cells #[.int .i64 0, .int .i64 0, .int .i64 0, .int .i64 0, .int .i64 0, .int .i64 0, .int .i64 0, .int .i64 0, .int .i64 0, .int .i64 0, .int .i64 0, .int .i64 0, .int .i64 0, .int .i64 0, .int .i64 0, .int .i64 0, .bool false, .slice none 0 0] 44)).setCells wd.heap.size 0 [.int .i64 jid, .int .i64 a, .int .i64 b, .int .i64 c', .int .i64 d, .int .i64 f, .int .i64 k, .int .i64 a', .int .i64 b', .int .i64 c'', .int .i64 d', .int .i64 f', .int .i64 k', .int .i64 s1, .int .i64 s2, .int .i64 jr, .bool jg, .slice ta tn tc]) (w.heap.size + 1) [.int .i64 0, .int .i64 0, .int .i64 0, .int .i64 0, .int .i64 0]) := HZ_3.out.belowS hba
              have HB_4 : Hid (Below w.heap.size w ((wd.alloc (.cells #[.int .i64 0, .int .i64 0, .int .i64 0, .int .i64 0, .int .i64 0, .int .i64 0, .int .i64 0, .int .i64 0, .int .i64 0, .int .i64 0, .int .i64 0, .int .i64 0, .int .i64 0, .int .i64 0, .int .i64 0, .int .i64 0, .bool false, .slice none 0 0] 44)).setCells wd.heap.size 0 [.int .i64 jid, .int .i64 a, .int .i64 b, .int .i64 c', .int .i64 d, .int .i64 f, .int .i64 k, .int .i64 a', .int .i64 b', .int .i64 c'', .int .i64 d', .int .i64 f', .int .i64 k', .int .i64 s1, .int .i64 s2, .int .i64 jr, .bool jg, .slice ta tn tc])) := HB_3.out.trans (hba.mono HB_3.out.size)
              have T1_4 : Hid (SeesT ((wd.alloc (.cells #[.int .i64 0, .int .i64 0, .int .i64 0, .int .i64 0, .int .i64 0, .int .i64 0, .int .i64 0, .int .i64 0, .int .i64 0, .int .i64 0, .int .i64 0, .int .i64 0, .int .i64 0, .int .i64 0, .int .i64 0, .int .i64 0, .bool false, .slice none 0 0] 44)).setCells wd.heap.size 0 [.int .i64 jid, .int .i64 a, .int .i64 b, .int .i64 c', .int .i64 d, .int .i64 f, .int .i64 k, .int .i64 a', .int .i64 b', .int .i64 c'', .int .i64 d', .int .i64 f', .int .i64 k', .int .i64 s1, .int .i64 s2, .int .i64 jr, .bool jg, .slice ta tn tc]) ta tn tc tl) := T1_3.out.below hba
              clear HA_3 HZ_3 HB_3 T1_3
              clear hba
              have HJ_4 : Hid (Lies ((wd.alloc (.cells #[.int .i64 0, .int .i64 0, .int .i64 0, .int .i64 0, .int .i64 0, .int .i64 0, .int .i64 0, .int .i64 0, .int .i64 0, .int .i64 0, .int .i64 0, .int .i64 0, .int .i64 0, .int .i64 0, .int .i64 0, .int .i64 0, .bool false, .slice none 0 0] 44)).setCells wd.heap.size 0 [.int .i64 jid, .int .i64 a, .int .i64 b, .int .i64 c', .int .i64 d, .int .i64 f, .int .i64 k, .int .i64 a', .int .i64 b', .int .i64 c'', .int .i64 d', .int .i64 f', .int .i64 k', .int .i64 s1, .int .i64 s2, .int .i64 jr, .bool jg, .slice ta tn tc]) wd.heap.size [.int .i64 jid, .int .i64 a, .int .i64 b, .int .i64 c', .int .i64 d, .int .i64 f, .int .i64 k, .int .i64 a', .int .i64 b', .int .i64 c'', .int .i64 d', .int .i64 f', .int .i64 k', .int .i64 s1, .int .i64 s2, .int .i64 jr, .bool jg, .slice ta tn tc]) := (lies_new wd #[.int .i64 0, .int .i64 0, .int .i64 0, .int .i64 0, .int .i64 0, .int .i64 0, .int .i64 0, .int .i64 0, .int .i64 0, .int .i64 0, .int .i64 0, .int .i64 0, .int .i64 0, .int .i64 0, .int .i64 0, .int .i64 0, .bool false, .slice none 0 0] 44).setCells [.int .i64 jid, .int .i64 a, .int .i64 b, .int .i64 c', .int .i64 d, .int .i64 f, .int .i64 k, .int .i64 a', .int .i64 b', .int .i64 c'', .int .i64 d', .int .i64 f', .int .i64 k', .int .i64 s1, .int .i64 s2, .int .i64 jr, .bool jg, .slice ta tn tc] 0 (by simp)
              generalize ((wd.alloc (.cells #[.int .i64 0, .int .i64 0, .int .i64 0, .int .i64 0, .int .i64 0, .int .i64 0, .int .i64 0, .int .i64 0, .int .i64 0, .int .i64 0, .int .i64 0, .int .i64 0, .int .i64 0, .int .i64 0, .int .i64 0, .int .i64 0, .bool false, .slice none 0 0] 44)).setCells wd.heap.size 0 [.int .i64 jid, .int .i64 a, .int .i64 b, .int .i64 c', .int .i64 d, .int .i64 f, .int .i64 k, .int .i64 a', .int .i64 b', .int .i64 c'', .int .i64 d', .int .i64 f', .int .i64 k', .int .i64 s1, .int .i64 s2, .int .i64 jr, .bool jg, .slice ta tn tc]) = w2 at HA_4 HZ_4 HB_4 T1_4 HJ_4  ⊢
              generalize wd.heap.size = jb at HJ_4  ⊢
              have y0 : w2.cell? ⟨jb, 0, none⟩ = some (.int .i64 jid) := HJ_4.out.at 0
              have y1 : w2.cell? ⟨jb, 1, none⟩ = some (.int .i64 a) := HJ_4.out.at 1
              have y2 : w2.cell? ⟨jb, 2, none⟩ = some (.int .i64 b) := HJ_4.out.at 2
              have y3 : w2.cell? ⟨jb, 3, none⟩ = some (.int .i64 c') := HJ_4.out.at 3
              have y4 : w2.cell? ⟨jb, 4, none⟩ = some (.int .i64 d) := HJ_4.out.at 4
              have y5 : w2.cell? ⟨jb, 5, none⟩ = some (.int .i64 f) := HJ_4.out.at 5
              have y6 : w2.cell? ⟨jb, 6, none⟩ = some (.int .i64 k) := HJ_4.out.at 6
              have y7 : w2.cell? ⟨jb, 7, none⟩ = some (.int .i64 a') := HJ_4.out.at 7
              have y8 : w2.cell? ⟨jb, 8, none⟩ = some (.int .i64 b') := HJ_4.out.at 8
              have y9 : w2.cell? ⟨jb, 9, none⟩ = some (.int .i64 c'') := HJ_4.out.at 9
              have y10 : w2.cell? ⟨jb, 10, none⟩ = some (.int .i64 d') := HJ_4.out.at 10
              have y11 : w2.cell? ⟨jb, 11, none⟩ = some (.int .i64 f') := HJ_4.out.at 11
              have y12 : w2.cell? ⟨jb, 12, none⟩ = some (.int .i64 k') := HJ_4.out.at 12
              have y13 : w2.cell? ⟨jb, 13, none⟩ = some (.int .i64 s1) := HJ_4.out.at 13
              have y14 : w2.cell? ⟨jb, 14, none⟩ = some (.int .i64 s2) := HJ_4.out.at 14
              have y15 : w2.cell? ⟨jb, 15, none⟩ = some (.int .i64 jr) := HJ_4.out.at 15
              have y16 : w2.cell? ⟨jb, 16, none⟩ = some (.bool jg) := HJ_4.out.at 16
              have y17 : w2.cell? ⟨jb, 17, none⟩ = some (.slice ta tn tc) := HJ_4.out.at 17
              go_wp2_with fail
              clear y0 y1 y2 y3 y4 y5 y6 y7 y8 y9 y10 y11 y12 y13 y14 y15 y16 y17
              refine (C4 _).mono ?_
              rintro e we ⟨al, ll, lc, rfl, hll, hoc, hb3⟩
              have HA_5 : Hid (Lies we w.heap.size [.int .i64 now, .int .i64 next, .slice ab nb cb, .slice (some ⟨b1, o1, none⟩) nj cj]) := HA_4.out.belowS hb3
              have HZ_5 : Hid (Lies we (w.heap.size + 1) [.int .i64 0, .int .i64 0, .int .i64 0, .int .i64 0, .int .i64 0]) := HZ_4.out.belowS hb3
              have HB_5 : Hid (Below w.heap.size w we) := HB_4.out.trans (hb3.mono HB_4.out.size)
              have T1_5 : Hid (SeesT we ta tn tc tl) := T1_4.out.below hb3
              have HJ_5 : Hid (Lies we jb [.int .i64 jid, .int .i64 a, .int .i64 b, .int .i64 c', .int .i64 d, .int .i64 f, .int .i64 k, .int .i64 a', .int .i64 b', .int .i64 c'', .int .i64 d', .int .i64 f', .int .i64 k', .int .i64 s1, .int .i64 s2, .int .i64 jr, .bool jg, .slice ta tn tc]) := HJ_4.out.belowS hb3
              clear HA_4 HZ_4 HB_4 T1_4 HJ_4
              have hsc := hoc.sees
              clear hb3 hoc C4
              have SC_5 : Hid (SeesC we al ll lc rl) := hsc
              clear hsc
              go_wp2_with fail
              refine (specJoinedAll_any _ SC_5.out).mono ?_
              rintro e wf0 ⟨rfl, hb4⟩
              have HA_6 : Hid (Lies wf0 w.heap.size [.int .i64 now, .int .i64 next, .slice ab nb cb, .slice (some ⟨b1, o1, none⟩) nj cj]) := HA_5.out.belowS hb4
              have HZ_6 : Hid (Lies wf0 (w.heap.size + 1) [.int .i64 0, .int .i64 0, .int .i64 0, .int .i64 0, .int .i64 0]) := HZ_5.out.belowS hb4
              have HB_6 : Hid (Below w.heap.size w wf0) := HB_5.out.trans (hb4.mono HB_5.out.size)
              have T1_6 : Hid (SeesT wf0 ta tn tc tl) := T1_5.out.below hb4
              have HJ_6 : Hid (Lies wf0 jb [.int .i64 jid, .int .i64 a, .int .i64 b, .int .i64 c', .int .i64 d, .int .i64 f, .int .i64 k, .int .i64 a', .int .i64 b', .int .i64 c'', .int .i64 d', .int .i64 f', .int .i64 k', .int .i64 s1, .int .i64 s2, .int .i64 jr, .bool jg, .slice ta tn tc]) := HJ_5.out.belowS hb4
              have SC_6 : Hid (SeesC wf0 al ll lc rl) := SC_5.out.below hb4
              clear HA_5 HZ_5 HB_5 T1_5 HJ_5 SC_5
              clear hb4
              rw [← hrc, ← hrb]
              clear hrc hrb
              obtain ⟨⟨x1, x2⟩, ⟨y1, y2⟩, n1⟩ := rc
              dsimp only [clv]
              have z0 : wf0.cell? ⟨w.heap.size + 1, 0, none⟩ = some (.int .i64 0) := HZ_6.out.at 0
              have fz0 : wf0.frozen? ⟨w.heap.size + 1, 0, none⟩ = false := HZ_6.out.fr 0
              have z1 : wf0.cell? ⟨w.heap.size + 1, 1, none⟩ = some (.int .i64 0) := HZ_6.out.at 1
              have fz1 : wf0.frozen? ⟨w.heap.size + 1, 1, none⟩ = false := HZ_6.out.fr 1
              have z2 : wf0.cell? ⟨w.heap.size + 1, 2, none⟩ = some (.int .i64 0) := HZ_6.out.at 2
              have fz2 : wf0.frozen? ⟨w.heap.size + 1, 2, none⟩ = false := HZ_6.out.fr 2
              have z3 : wf0.cell? ⟨w.heap.size + 1, 3, none⟩ = some (.int .i64 0) := HZ_6.out.at 3
              have fz3 : wf0.frozen? ⟨w.heap.size + 1, 3, none⟩ = false := HZ_6.out.fr 3
              have z4 : wf0.cell? ⟨w.heap.size + 1, 4, none⟩ = some (.int .i64 0) := HZ_6.out.at 4
              have fz4 : wf0.frozen? ⟨w.heap.size + 1, 4, none⟩ = false := HZ_6.out.fr 4
              go_wp2_with fail
              show bodyPost _ _ _ _ _ (wf0.setCells (w.heap.size + 1) 0 [.int .i64 x1, .int .i64 x2, .int .i64 y1, .int .i64 y2, .int .i64 n1])
              have hLf : Lies (wf0.setCells (w.heap.size + 1) 0 [.int .i64 x1, .int .i64 x2, .int .i64 y1, .int .i64 y2, .int .i64 n1]) (w.heap.size + 1) [.int .i64 x1, .int .i64 x2, .int .i64 y1, .int .i64 y2, .int .i64 n1] := HZ_6.out.setCells [.int .i64 x1, .int .i64 x2, .int .i64 y1, .int .i64 y2, .int .i64 n1] 0 (by simp)
              have hgf : wf0.grownBy (wf0.setCells (w.heap.size + 1) 0 [.int .i64 x1, .int .i64 x2, .int .i64 y1, .int .i64 y2, .int .i64 n1]) (some (w.heap.size + 1)) := grown_cells (World.grownBy.refl _ _) 0 _
              have hBf : Below w.heap.size w (wf0.setCells (w.heap.size + 1) 0 [.int .i64 x1, .int .i64 x2, .int .i64 y1, .int .i64 y2, .int .i64 n1]) := HB_6.out.trans (below_setCells _ 0 (Below.refl _ _) (by omega))
              generalize (wf0.setCells (w.heap.size + 1) 0 [.int .i64 x1, .int .i64 x2, .int .i64 y1, .int .i64 y2, .int .i64 n1]) = wf at hLf hBf ⊢
              exact bodyPost_ret (results_cell_tmp rfl rfl (run_loadVar_mid wf (w.heap.size + 1) 0 33 _ _ hLf.row Tryz.underlying33 rfl (by kernel_rfl))) rfl ⟨rfl, hBf⟩
end Go.Proofs.YtfhknkppiidnkaaGreat
namespace Go.Proofs.YtfhknkppiidnkaaGreat
open Go.RowKit

theorem M.cut_right {now next id : Int} {bs : List Int} {js : List M.Jb} (h : M.stOk now next id bs js = true) : M.cutOk (M.jobOf id js).m (M.jobOf id js).s (M.jobOf id js).rows (M.jobOf id js).ts.length = true := by
  unfold M.stOk at h
  rw [Bool.and_eq_true, decide_eq_true_eq] at h
  obtain ⟨i, hi, hat, _⟩ := M.jobAt_some id js 0 h.2
  have hR := M.right_iff h.1
  have e : M.jobOf id js = js.getD i M.j0 := by unfold M.jobOf; rw [hat]; simp
  have hm : js.getD i M.j0 ∈ js := by rw [List.getD_eq_getElem?_getD, List.getElem?_eq_getElem hi]; simp
  have h1 := (hR.job _ hm).2.2
  have h2 := hR.tasks _ hm
  rw [e]
  unfold M.jbOk at h1
  simp only [Bool.and_eq_true] at h1
  unfold M.cutOk
  rw [h1.1.1, h1.1.2.1, h1.1.2.2.1, decide_eq_true (show (1 : Int) ≤ (js.getD i M.j0).ts.length by omega), decide_eq_true (show ((js.getD i M.j0).ts.length : Int) ≤ 8 by omega)]
  rfl
set_option maxHeartbeats 8000000 in
set_option maxRecDepth 10000 in
theorem implResultOf_any {ab aj : Option Addr} {nb cb nj cj : Nat} {bs : List Int} {js : List M.Jb} (now next id : Int) (w : World) (hz : SeesM w ab nb cb aj nj cj bs js) :
    Calls Tryz.prog 7 #[.agg #[.int .i64 now, .int .i64 next, .slice ab nb cb, .slice aj nj cj], .int .i64 id] w fun e w' => e = .returned (.tuple #[clv (M.resC now next id bs js), .bool (M.resB now next id bs js)]) ∧ Below w.heap.size w w' := by
  have C1 := fun W (h : SeesM W ab nb cb aj nj cj bs js) => jobIn_any now next id W h
  have HM : Hid (SeesM w ab nb cb aj nj cj bs js) := hz
  have HC := M.cut_right (now := now) (next := next) (id := id) (bs := bs) (js := js)
  have HF : Hid (M.resIn now next id bs js = false → M.resC now next id bs js = M.c0 ∧ M.resB now next id bs js = false) := fun h => by unfold M.resC M.resB; rw [h]; exact ⟨rfl, rfl⟩
  have HTt : Hid (M.resIn now next id bs js = true → M.resC now next id bs js = M.allv (M.resL id js) ∧ M.resB now next id bs js = M.allOk (M.resL id js)) := fun h => by unfold M.resC M.resB; rw [h]; exact ⟨rfl, rfl⟩
  have hSt : M.resIn now next id bs js = (M.stOk now next id bs js && (M.jobOf id js).ts.all (·.done)) := rfl
  have hRl : M.resL id js = M.cutv (M.jobOf id js).m (M.jobOf id js).s (M.jobOf id js).rows (M.jobOf id js).ts.length := rfl
  unfold JobPost at C1
  rw [show js.getD (M.jobAt id 0 js).toNat M.j0 = M.jobOf id js from rfl] at C1
  generalize M.resC now next id bs js = rc at HF HTt ⊢
  generalize M.resB now next id bs js = rb at HF HTt ⊢
  generalize M.resL id js = rl at hRl HTt
  generalize M.resIn now next id bs js = os at hSt HF HTt
  generalize M.stOk now next id bs js = so at hSt C1 HC
  generalize M.jobOf id js = jf at hSt hRl C1 HC
  have HSt : Hid (os = (so && jf.ts.all (·.done))) := hSt
  have HRl : Hid (rl = M.cutv jf.m jf.s jf.rows jf.ts.length) := hRl
  have HCt : Hid (so = true → M.cutOk jf.m jf.s jf.rows jf.ts.length = true) := HC
  clear hz hSt hRl HC
  go_enter Tryz.func7, Tryz.ntmps7
  have HZ_0 : Hid (Lies ((w.alloc (.cells #[.int .i64 now, .int .i64 next, .slice ab nb cb, .slice aj nj cj] 27)).alloc (.cells #[.int .i64 0, .int .i64 0, .int .i64 0, .int .i64 0, .int .i64 0] 33)) (w.heap.size + 1) [.int .i64 0, .int .i64 0, .int .i64 0, .int .i64 0, .int .i64 0]) := lies_new2 _ _ _ _
  have HB_0 : Hid (Below w.heap.size w ((w.alloc (.cells #[.int .i64 now, .int .i64 next, .slice ab nb cb, .slice aj nj cj] 27)).alloc (.cells #[.int .i64 0, .int .i64 0, .int .i64 0, .int .i64 0, .int .i64 0] 33))) := ((Below.refl _ _).alloc (Nat.le_refl _) _).alloc (by simp) _
  go_wp2_with fail
  generalize ((w.alloc (.cells #[.int .i64 now, .int .i64 next, .slice ab nb cb, .slice aj nj cj] 27)).alloc (.cells #[.int .i64 0, .int .i64 0, .int .i64 0, .int .i64 0, .int .i64 0] 33)) = wa at HZ_0 HB_0  ⊢
  refine (C1 _ (HM.out.below HB_0.out)).mono ?_
  rintro e wb ⟨h1, h2, hb⟩
  have HZ_1 : Hid (Lies wb (w.heap.size + 1) [.int .i64 0, .int .i64 0, .int .i64 0, .int .i64 0, .int .i64 0]) := HZ_0.out.belowS hb
  have HB_1 : Hid (Below w.heap.size w wb) := HB_0.out.trans (hb.mono HB_0.out.size)
  clear HZ_0 HB_0
  clear C1 HM hb
  cases so with
  | false =>
    obtain rfl := h1 rfl
    obtain rfl : os = false := HSt.out
    obtain ⟨rfl, rfl⟩ := HF.out rfl
    clear h1 h2 HF HTt
    have z0 : wb.cell? ⟨w.heap.size + 1, 0, none⟩ = some (.int .i64 0) := HZ_1.out.at 0
    have fz0 : wb.frozen? ⟨w.heap.size + 1, 0, none⟩ = false := HZ_1.out.fr 0
    have z1 : wb.cell? ⟨w.heap.size + 1, 1, none⟩ = some (.int .i64 0) := HZ_1.out.at 1
    have fz1 : wb.frozen? ⟨w.heap.size + 1, 1, none⟩ = false := HZ_1.out.fr 1
    have z2 : wb.cell? ⟨w.heap.size + 1, 2, none⟩ = some (.int .i64 0) := HZ_1.out.at 2
    have fz2 : wb.frozen? ⟨w.heap.size + 1, 2, none⟩ = false := HZ_1.out.fr 2
    have z3 : wb.cell? ⟨w.heap.size + 1, 3, none⟩ = some (.int .i64 0) := HZ_1.out.at 3
    have fz3 : wb.frozen? ⟨w.heap.size + 1, 3, none⟩ = false := HZ_1.out.fr 3
    have z4 : wb.cell? ⟨w.heap.size + 1, 4, none⟩ = some (.int .i64 0) := HZ_1.out.at 4
    have fz4 : wb.frozen? ⟨w.heap.size + 1, 4, none⟩ = false := HZ_1.out.fr 4
    go_wp2_with fail
    show bodyPost _ _ _ _ _ (wb.setCells (w.heap.size + 1) 0 [.int .i64 0, .int .i64 0, .int .i64 0, .int .i64 0, .int .i64 0])
    have hLf : Lies (wb.setCells (w.heap.size + 1) 0 [.int .i64 0, .int .i64 0, .int .i64 0, .int .i64 0, .int .i64 0]) (w.heap.size + 1) [.int .i64 0, .int .i64 0, .int .i64 0, .int .i64 0, .int .i64 0] := HZ_1.out.setCells [.int .i64 0, .int .i64 0, .int .i64 0, .int .i64 0, .int .i64 0] 0 (by simp)
    have hgf : wb.grownBy (wb.setCells (w.heap.size + 1) 0 [.int .i64 0, .int .i64 0, .int .i64 0, .int .i64 0, .int .i64 0]) (some (w.heap.size + 1)) := grown_cells (World.grownBy.refl _ _) 0 _
    have hBf : Below w.heap.size w (wb.setCells (w.heap.size + 1) 0 [.int .i64 0, .int .i64 0, .int .i64 0, .int .i64 0, .int .i64 0]) := HB_1.out.trans (below_setCells _ 0 (Below.refl _ _) (by omega))
    generalize (wb.setCells (w.heap.size + 1) 0 [.int .i64 0, .int .i64 0, .int .i64 0, .int .i64 0, .int .i64 0]) = wf at hLf hBf ⊢
    exact bodyPost_ret (results_cell_tmp rfl rfl (run_loadVar_mid wf (w.heap.size + 1) 0 33 _ _ hLf.row Tryz.underlying33 rfl (by kernel_rfl))) rfl ⟨rfl, hBf⟩
  | true =>
    obtain ⟨q, rfl, hq, hl, hs⟩ := h2 rfl
    subst hq
    have CD : ∀ W, Lies W q.b q.vs → SeesT W q.a q.j.ts.length q.c q.j.ts → Calls Tryz.prog 22 #[.pointer (some ⟨q.b, 0, none⟩)] W fun e w' => e = .returned (.bool (q.j.ts.all (·.done))) ∧ Below W.heap.size W w' := fun W h1 h2 => allDone_any W (h1.at 17) h2
    have C4 := implCutOf_any q.j.m q.j.s q.j.rows (q.j.ts.length : Nat)
    rw [HCt.out rfl, ← HRl.out] at C4
    dsimp only [mcv, stv] at C4
    have hbig : (q.j.ts.length : Int) ≤ 9223372036854775807 := by have := hs.le; have := hs.big; omega
    have HSo : Hid (os = q.j.ts.all (·.done)) := HSt.out
    generalize q.j.ts.all (·.done) = od at CD HSo
    clear h1 h2 HSt HCt HRl
    have HQ_1 : Hid (Lies wb q.b q.vs) := hl
    have T1_1 : Hid (SeesT wb q.a q.j.ts.length q.c q.j.ts) := hs
    clear hl hs
    go_wp2_with fail
    refine (CD _ HQ_1.out T1_1.out).mono ?_
    rintro e wc ⟨rfl, hb⟩
    have HZ_2 : Hid (Lies wc (w.heap.size + 1) [.int .i64 0, .int .i64 0, .int .i64 0, .int .i64 0, .int .i64 0]) := HZ_1.out.belowS hb
    have HB_2 : Hid (Below w.heap.size w wc) := HB_1.out.trans (hb.mono HB_1.out.size)
    have HQ_2 : Hid (Lies wc q.b q.vs) := HQ_1.out.belowS hb
    have T1_2 : Hid (SeesT wc q.a q.j.ts.length q.c q.j.ts) := T1_1.out.below hb
    clear HZ_1 HB_1 HQ_1 T1_1
    clear hb
    cases od with
    | false =>
      obtain rfl : os = false := HSo.out
      obtain ⟨rfl, rfl⟩ := HF.out rfl
      clear HF HTt
      have z0 : wc.cell? ⟨w.heap.size + 1, 0, none⟩ = some (.int .i64 0) := HZ_2.out.at 0
      have fz0 : wc.frozen? ⟨w.heap.size + 1, 0, none⟩ = false := HZ_2.out.fr 0
      have z1 : wc.cell? ⟨w.heap.size + 1, 1, none⟩ = some (.int .i64 0) := HZ_2.out.at 1
      have fz1 : wc.frozen? ⟨w.heap.size + 1, 1, none⟩ = false := HZ_2.out.fr 1
      have z2 : wc.cell? ⟨w.heap.size + 1, 2, none⟩ = some (.int .i64 0) := HZ_2.out.at 2
      have fz2 : wc.frozen? ⟨w.heap.size + 1, 2, none⟩ = false := HZ_2.out.fr 2
      have z3 : wc.cell? ⟨w.heap.size + 1, 3, none⟩ = some (.int .i64 0) := HZ_2.out.at 3
      have fz3 : wc.frozen? ⟨w.heap.size + 1, 3, none⟩ = false := HZ_2.out.fr 3
      have z4 : wc.cell? ⟨w.heap.size + 1, 4, none⟩ = some (.int .i64 0) := HZ_2.out.at 4
      have fz4 : wc.frozen? ⟨w.heap.size + 1, 4, none⟩ = false := HZ_2.out.fr 4
      go_wp2_with fail
      show bodyPost _ _ _ _ _ (wc.setCells (w.heap.size + 1) 0 [.int .i64 0, .int .i64 0, .int .i64 0, .int .i64 0, .int .i64 0])
      have hLf : Lies (wc.setCells (w.heap.size + 1) 0 [.int .i64 0, .int .i64 0, .int .i64 0, .int .i64 0, .int .i64 0]) (w.heap.size + 1) [.int .i64 0, .int .i64 0, .int .i64 0, .int .i64 0, .int .i64 0] := HZ_2.out.setCells [.int .i64 0, .int .i64 0, .int .i64 0, .int .i64 0, .int .i64 0] 0 (by simp)
      have hgf : wc.grownBy (wc.setCells (w.heap.size + 1) 0 [.int .i64 0, .int .i64 0, .int .i64 0, .int .i64 0, .int .i64 0]) (some (w.heap.size + 1)) := grown_cells (World.grownBy.refl _ _) 0 _
      have hBf : Below w.heap.size w (wc.setCells (w.heap.size + 1) 0 [.int .i64 0, .int .i64 0, .int .i64 0, .int .i64 0, .int .i64 0]) := HB_2.out.trans (below_setCells _ 0 (Below.refl _ _) (by omega))
      generalize (wc.setCells (w.heap.size + 1) 0 [.int .i64 0, .int .i64 0, .int .i64 0, .int .i64 0, .int .i64 0]) = wf at hLf hBf ⊢
      exact bodyPost_ret (results_cell_tmp rfl rfl (run_loadVar_mid wf (w.heap.size + 1) 0 33 _ _ hLf.row Tryz.underlying33 rfl (by kernel_rfl))) rfl ⟨rfl, hBf⟩
    | true =>
      obtain rfl : os = true := HSo.out
      obtain ⟨hrc, hrb⟩ := HTt.out rfl
      clear HF HTt HSo CD
      go_wp2_with fail
      refine wp_region_noPanic ?_
      refine wp_region_held_drew (S := fun W => wc.grownBy W none) (by kernel_rfl) (grown_drew _ _) (fun hHeld => ?_)
      generalize wc.drew = wd0 at hHeld ⊢
      have HX0 : Hid (Below wc.heap.size wc wd0) := ⟨hHeld.os, hHeld.tape, hHeld.output, hHeld.size, fun k hk => hHeld.block k hk (by simp)⟩
      refine wpAnyH_take (i := 0) (v := .pointer (some ⟨q.b, 0, none⟩)) rfl (by kernel_rfl) (by kernel_rfl) (by kernel_rfl) (fun _ _ _ h => h) (Or.inl ⟨by kernel_rfl, ?_⟩) (by assumption) ?_
      · intro wq hSq; go_simp
      try simp only [Act.put]
      refine wpAnyH_take (i := 1) (v := .pointer (some ⟨q.b, 0, none⟩)) rfl (by kernel_rfl) (by kernel_rfl) (by kernel_rfl) (fun _ _ _ h => h) (Or.inl ⟨by kernel_rfl, ?_⟩) (by assumption) ?_
      · intro wq hSq; go_simp
      try simp only [Act.put]
      refine wpAnyH_take (i := 2) (v := .pointer (some ⟨q.b, 1, none⟩)) rfl (by kernel_rfl) (by kernel_rfl) (by kernel_rfl) (fun _ _ _ h => h) (Or.inl ⟨by kernel_rfl, ?_⟩) (by assumption) ?_
      · intro wq hSq; go_simp
      try simp only [Act.put]
      have hMM : ∀ W : World, wc.grownBy W none → W.rangeAt q.b 1 [.int .i64 q.j.m.X.xx, .int .i64 q.j.m.X.xy, .int .i64 q.j.m.X.yy, .int .i64 q.j.m.X.x, .int .i64 q.j.m.X.y, .int .i64 q.j.m.X.k, .int .i64 q.j.m.Y.xx, .int .i64 q.j.m.Y.xy, .int .i64 q.j.m.Y.yy, .int .i64 q.j.m.Y.x, .int .i64 q.j.m.Y.y, .int .i64 q.j.m.Y.k] := fun W h => (HQ_2.out.grown h (by simp)).mid 1 12
      refine wpAnyH_take (i := 3) (v := .agg ([.int .i64 q.j.m.X.xx, .int .i64 q.j.m.X.xy, .int .i64 q.j.m.X.yy, .int .i64 q.j.m.X.x, .int .i64 q.j.m.X.y, .int .i64 q.j.m.X.k, .int .i64 q.j.m.Y.xx, .int .i64 q.j.m.Y.xy, .int .i64 q.j.m.Y.yy, .int .i64 q.j.m.Y.x, .int .i64 q.j.m.Y.y, .int .i64 q.j.m.Y.k] : List Value).toArray) rfl (by kernel_rfl) (by kernel_rfl) (by kernel_rfl) (fun _ _ _ h => h) (yieldsIf_load_mid (by kernel_rfl) 41 (.tmp 26) rfl q.b 1 rfl ([.int .i64 q.j.m.X.xx, .int .i64 q.j.m.X.xy, .int .i64 q.j.m.X.yy, .int .i64 q.j.m.X.x, .int .i64 q.j.m.X.y, .int .i64 q.j.m.X.k, .int .i64 q.j.m.Y.xx, .int .i64 q.j.m.Y.xy, .int .i64 q.j.m.Y.yy, .int .i64 q.j.m.Y.x, .int .i64 q.j.m.Y.y, .int .i64 q.j.m.Y.k] : List Value) _ hMM Tryz.underlying41 rfl (by kernel_rfl)) (by assumption) ?_
      try simp only [Act.put]
      clear hMM
      refine wpAnyH_take (i := 4) (v := .pointer (some ⟨q.b, 0, none⟩)) rfl (by kernel_rfl) (by kernel_rfl) (by kernel_rfl) (fun _ _ _ h => h) (Or.inl ⟨by kernel_rfl, ?_⟩) (by assumption) ?_
      · intro wq hSq; go_simp
      try simp only [Act.put]
      refine wpAnyH_take (i := 5) (v := .pointer (some ⟨q.b, 0, none⟩)) rfl (by kernel_rfl) (by kernel_rfl) (by kernel_rfl) (fun _ _ _ h => h) (Or.inl ⟨by kernel_rfl, ?_⟩) (by assumption) ?_
      · intro wq hSq; go_simp
      try simp only [Act.put]
      refine wpAnyH_take (i := 6) (v := .pointer (some ⟨q.b, 13, none⟩)) rfl (by kernel_rfl) (by kernel_rfl) (by kernel_rfl) (fun _ _ _ h => h) (Or.inl ⟨by kernel_rfl, ?_⟩) (by assumption) ?_
      · intro wq hSq; go_simp
      try simp only [Act.put]
      refine wpAnyH_take (i := 7) (v := .agg #[.int .i64 q.j.s.1, .int .i64 q.j.s.2]) rfl (by kernel_rfl) (by kernel_rfl) (by kernel_rfl) (fun _ _ _ h => h) (Or.inl ⟨by kernel_rfl, ?_⟩) (by assumption) ?_
      · intro wp hSp; have c0 : wp.cell? ⟨q.b, 13, none⟩ = some (.int .i64 q.j.s.1) := (HQ_2.out.grown hSp (by simp)).at 13; have c1 : wp.cell? ⟨q.b, 14, none⟩ = some (.int .i64 q.j.s.2) := (HQ_2.out.grown hSp (by simp)).at 14; go_simp
      try simp only [Act.put]
      refine wpAnyH_take (i := 8) (v := .pointer (some ⟨q.b, 0, none⟩)) rfl (by kernel_rfl) (by kernel_rfl) (by kernel_rfl) (fun _ _ _ h => h) (Or.inl ⟨by kernel_rfl, ?_⟩) (by assumption) ?_
      · intro wq hSq; go_simp
      try simp only [Act.put]
      refine wpAnyH_take (i := 9) (v := .pointer (some ⟨q.b, 0, none⟩)) rfl (by kernel_rfl) (by kernel_rfl) (by kernel_rfl) (fun _ _ _ h => h) (Or.inl ⟨by kernel_rfl, ?_⟩) (by assumption) ?_
      · intro wq hSq; go_simp
      try simp only [Act.put]
      refine wpAnyH_take (i := 10) (v := .pointer (some ⟨q.b, 15, none⟩)) rfl (by kernel_rfl) (by kernel_rfl) (by kernel_rfl) (fun _ _ _ h => h) (Or.inl ⟨by kernel_rfl, ?_⟩) (by assumption) ?_
      · intro wq hSq; go_simp
      try simp only [Act.put]
      refine wpAnyH_take (i := 11) (v := .int .i64 q.j.rows) rfl (by kernel_rfl) (by kernel_rfl) (by kernel_rfl) (fun _ _ _ h => h) (Or.inl ⟨by kernel_rfl, ?_⟩) (by assumption) ?_
      · intro wp hSp; have c0 : wp.cell? ⟨q.b, 15, none⟩ = some (.int .i64 q.j.rows) := (HQ_2.out.grown hSp (by simp)).at 15; go_simp
      try simp only [Act.put]
      refine wpAnyH_take (i := 12) (v := .pointer (some ⟨q.b, 0, none⟩)) rfl (by kernel_rfl) (by kernel_rfl) (by kernel_rfl) (fun _ _ _ h => h) (Or.inl ⟨by kernel_rfl, ?_⟩) (by assumption) ?_
      · intro wq hSq; go_simp
      try simp only [Act.put]
      refine wpAnyH_take (i := 13) (v := .pointer (some ⟨q.b, 0, none⟩)) rfl (by kernel_rfl) (by kernel_rfl) (by kernel_rfl) (fun _ _ _ h => h) (Or.inl ⟨by kernel_rfl, ?_⟩) (by assumption) ?_
      · intro wq hSq; go_simp
      try simp only [Act.put]
      refine wpAnyH_take (i := 14) (v := .pointer (some ⟨q.b, 17, none⟩)) rfl (by kernel_rfl) (by kernel_rfl) (by kernel_rfl) (fun _ _ _ h => h) (Or.inl ⟨by kernel_rfl, ?_⟩) (by assumption) ?_
      · intro wq hSq; go_simp
      try simp only [Act.put]
      refine wpAnyH_take (i := 15) (v := .slice q.a q.j.ts.length q.c) rfl (by kernel_rfl) (by kernel_rfl) (by kernel_rfl) (fun _ _ _ h => h) (Or.inl ⟨by kernel_rfl, ?_⟩) (by assumption) ?_
      · intro wp hSp; have c0 : wp.cell? ⟨q.b, 17, none⟩ = some (.slice q.a q.j.ts.length q.c) := (HQ_2.out.grown hSp (by simp)).at 17; go_simp
      try simp only [Act.put]
      refine wpAnyH_take (i := 16) (v := .int .i64 (q.j.ts.length : Nat)) rfl (by kernel_rfl) (by kernel_rfl) (by kernel_rfl) (fun _ _ _ h => h) (Or.inl ⟨by kernel_rfl, ?_⟩) (by assumption) ?_
      · intro wq hSq; go_simp
      try simp only [Act.put]
      refine wpAnyH_ready (rs := [17]) (by kernel_rfl) (by simp) ?_
      refine AllReadyH.cons rfl (fun Kk hK => ?_) AllReadyH.nil
      go_simp
      refine (C4 _).mono ?_
      rintro e wd1 ⟨al, ll, lc, rfl, hll, hoc, hb1⟩
      go_simp
      have hS1 : wc.grownBy wd1 none := grown_step hHeld hb1
      have HX1 : Hid (Below wc.heap.size wc wd1) := ⟨hS1.os, hS1.tape, hS1.output, hS1.size, fun k hk => hS1.block k hk (by simp)⟩
      have SC_r1 : Hid (SeesC wd1 al ll lc rl) := hoc.sees
      refine hK.out _ _ hS1 (fun _ => ?_)
      clear hK Kk hb1
      try simp only [Act.put]
      refine wpAnyH_take (i := 18) (v := .tuple #[.slice al ll lc, .bool true]) rfl (by kernel_rfl) (by kernel_rfl) (by kernel_rfl) (fun _ _ _ h => h) (Or.inl ⟨by kernel_rfl, ?_⟩) (by assumption) ?_
      · intro wq hSq; go_simp
      try simp only [Act.put]
      refine wpAnyH_take (i := 19) (v := .slice al ll lc) rfl (by kernel_rfl) (by kernel_rfl) (by kernel_rfl) (fun _ _ _ h => h) (Or.inl ⟨by kernel_rfl, ?_⟩) (by assumption) ?_
      · intro wq hSq; go_simp
      try simp only [Act.put]
      refine wpAnyH_take (i := 20) (v := .bool true) rfl (by kernel_rfl) (by kernel_rfl) (by kernel_rfl) (fun _ _ _ h => h) (Or.inl ⟨by kernel_rfl, ?_⟩) (by assumption) ?_
      · intro wq hSq; go_simp
      try simp only [Act.put]
      refine wpAnyH_take (i := 21) (v := .slice al ll lc) rfl (by kernel_rfl) (by kernel_rfl) (by kernel_rfl) (fun _ _ _ h => h) (Or.inl ⟨by kernel_rfl, ?_⟩) (by assumption) ?_
      · intro wq hSq; go_simp
      try simp only [Act.put]
      refine wpAnyH_take (i := 22) (v := .bool true) rfl (by kernel_rfl) (by kernel_rfl) (by kernel_rfl) (fun _ _ _ h => h) (Or.inl ⟨by kernel_rfl, ?_⟩) (by assumption) ?_
      · intro wq hSq; go_simp
      try simp only [Act.put]
      refine wpAnyH_done (by kernel_rfl) ?_ _
      refine NoPanic.normal ?_
      go_simp
      have HZ_3 : Hid (Lies wd1 (w.heap.size + 1) [.int .i64 0, .int .i64 0, .int .i64 0, .int .i64 0, .int .i64 0]) := HZ_2.out.belowS HX1.out
      have HB_3 : Hid (Below w.heap.size w wd1) := HB_2.out.trans (HX1.out.mono HB_2.out.size)
      have HQ_3 : Hid (Lies wd1 q.b q.vs) := HQ_2.out.belowS HX1.out
      have T1_3 : Hid (SeesT wd1 q.a q.j.ts.length q.c q.j.ts) := T1_2.out.below HX1.out
      clear HZ_2 HB_2 HQ_2 T1_2
      have SC_3 : Hid (SeesC wd1 al ll lc rl) := SC_r1.out
      clear hoc hll
      go_wp2_with fail
      refine (implJoinedAll_any _ SC_3.out).mono ?_
      rintro e wf0 ⟨rfl, hb4⟩
      have HZ_4 : Hid (Lies wf0 (w.heap.size + 1) [.int .i64 0, .int .i64 0, .int .i64 0, .int .i64 0, .int .i64 0]) := HZ_3.out.belowS hb4
      have HB_4 : Hid (Below w.heap.size w wf0) := HB_3.out.trans (hb4.mono HB_3.out.size)
      have HQ_4 : Hid (Lies wf0 q.b q.vs) := HQ_3.out.belowS hb4
      have T1_4 : Hid (SeesT wf0 q.a q.j.ts.length q.c q.j.ts) := T1_3.out.below hb4
      have SC_4 : Hid (SeesC wf0 al ll lc rl) := SC_3.out.below hb4
      clear HZ_3 HB_3 HQ_3 T1_3 SC_3
      clear hb4
      rw [← hrc, ← hrb]
      clear hrc hrb
      obtain ⟨⟨x1, x2⟩, ⟨y1, y2⟩, n1⟩ := rc
      dsimp only [clv]
      have z0 : wf0.cell? ⟨w.heap.size + 1, 0, none⟩ = some (.int .i64 0) := HZ_4.out.at 0
      have fz0 : wf0.frozen? ⟨w.heap.size + 1, 0, none⟩ = false := HZ_4.out.fr 0
      have z1 : wf0.cell? ⟨w.heap.size + 1, 1, none⟩ = some (.int .i64 0) := HZ_4.out.at 1
      have fz1 : wf0.frozen? ⟨w.heap.size + 1, 1, none⟩ = false := HZ_4.out.fr 1
      have z2 : wf0.cell? ⟨w.heap.size + 1, 2, none⟩ = some (.int .i64 0) := HZ_4.out.at 2
      have fz2 : wf0.frozen? ⟨w.heap.size + 1, 2, none⟩ = false := HZ_4.out.fr 2
      have z3 : wf0.cell? ⟨w.heap.size + 1, 3, none⟩ = some (.int .i64 0) := HZ_4.out.at 3
      have fz3 : wf0.frozen? ⟨w.heap.size + 1, 3, none⟩ = false := HZ_4.out.fr 3
      have z4 : wf0.cell? ⟨w.heap.size + 1, 4, none⟩ = some (.int .i64 0) := HZ_4.out.at 4
      have fz4 : wf0.frozen? ⟨w.heap.size + 1, 4, none⟩ = false := HZ_4.out.fr 4
      go_wp2_with fail
      show bodyPost _ _ _ _ _ (wf0.setCells (w.heap.size + 1) 0 [.int .i64 x1, .int .i64 x2, .int .i64 y1, .int .i64 y2, .int .i64 n1])
      have hLf : Lies (wf0.setCells (w.heap.size + 1) 0 [.int .i64 x1, .int .i64 x2, .int .i64 y1, .int .i64 y2, .int .i64 n1]) (w.heap.size + 1) [.int .i64 x1, .int .i64 x2, .int .i64 y1, .int .i64 y2, .int .i64 n1] := HZ_4.out.setCells [.int .i64 x1, .int .i64 x2, .int .i64 y1, .int .i64 y2, .int .i64 n1] 0 (by simp)
      have hgf : wf0.grownBy (wf0.setCells (w.heap.size + 1) 0 [.int .i64 x1, .int .i64 x2, .int .i64 y1, .int .i64 y2, .int .i64 n1]) (some (w.heap.size + 1)) := grown_cells (World.grownBy.refl _ _) 0 _
      have hBf : Below w.heap.size w (wf0.setCells (w.heap.size + 1) 0 [.int .i64 x1, .int .i64 x2, .int .i64 y1, .int .i64 y2, .int .i64 n1]) := HB_4.out.trans (below_setCells _ 0 (Below.refl _ _) (by omega))
      generalize (wf0.setCells (w.heap.size + 1) 0 [.int .i64 x1, .int .i64 x2, .int .i64 y1, .int .i64 y2, .int .i64 n1]) = wf at hLf hBf ⊢
      exact bodyPost_ret (results_cell_tmp rfl rfl (run_loadVar_mid wf (w.heap.size + 1) 0 33 _ _ hLf.row Tryz.underlying33 rfl (by kernel_rfl))) rfl ⟨rfl, hBf⟩
end Go.Proofs.YtfhknkppiidnkaaGreat
namespace Go.Proofs.YtfhknkppiidnkaaGreat
open Go.RowKit

set_option maxHeartbeats 8000000 in
set_option maxRecDepth 10000 in
theorem fnResultOf_any {ab aj : Option Addr} {nb cb nj cj : Nat} {bs : List Int} {js : List M.Jb} (now next id : Int) (w : World) (hz : SeesM w ab nb cb aj nj cj bs js) :
    Calls Tryz.prog 4 #[.agg #[.int .i64 now, .int .i64 next, .slice ab nb cb, .slice aj nj cj], .int .i64 id] w fun e w' => e = .returned (.bool true) ∧ Below w.heap.size w w' := by
  have HM : Hid (SeesM w ab nb cb aj nj cj bs js) := hz
  obtain ⟨rc, hrc⟩ : ∃ rc, rc = M.resC now next id bs js := ⟨_, rfl⟩
  obtain ⟨rb, hrb⟩ : ∃ rb, rb = M.resB now next id bs js := ⟨_, rfl⟩
  have CS : ∀ (W : World) {x y : Option Addr}, SeesM W x nb nb y nj nj bs js → Calls Tryz.prog 8 #[.agg #[.int .i64 now, .int .i64 next, .slice x nb nb, .slice y nj nj], .int .i64 id] W fun e w' => e = .returned (.tuple #[clv rc, .bool rb]) ∧ Below W.heap.size W w' := fun W _ _ h => by rw [hrc, hrb]; exact specResultOf_any now next id W h
  have CI : ∀ (W : World) {x y : Option Addr}, SeesM W x nb nb y nj nj bs js → Calls Tryz.prog 7 #[.agg #[.int .i64 now, .int .i64 next, .slice x nb nb, .slice y nj nj], .int .i64 id] W fun e w' => e = .returned (.tuple #[clv rc, .bool rb]) ∧ Below W.heap.size W w' := fun W _ _ h => by rw [hrc, hrb]; exact implResultOf_any now next id W h
  have CE := eqClaim_same rc
  clear hz hrc hrb
  obtain ⟨⟨p1, p2⟩, ⟨p3, p4⟩, p5⟩ := rc
  dsimp only [clv] at CS CI CE
  go_enter Tryz.func4, Tryz.ntmps4
  have HA_0 : Hid (Lies (w.alloc (.cells #[.int .i64 now, .int .i64 next, .slice ab nb cb, .slice aj nj cj] 48)) w.heap.size [.int .i64 now, .int .i64 next, .slice ab nb cb, .slice aj nj cj]) := lies_new _ _ _
  have HB_0 : Hid (Below w.heap.size w (w.alloc (.cells #[.int .i64 now, .int .i64 next, .slice ab nb cb, .slice aj nj cj] 48))) := (Below.refl _ _).alloc (Nat.le_refl _) _
  go_wp2_with fail
  generalize (w.alloc (.cells #[.int .i64 now, .int .i64 next, .slice ab nb cb, .slice aj nj cj] 48)) = wa at HA_0 HB_0  ⊢
  refine (szMarket_any now next _ (HM.out.below HB_0.out)).mono ?_
  rintro e wb ⟨r, rfl, hsm, hb⟩
  have HA_1 : Hid (Lies wb w.heap.size [.int .i64 now, .int .i64 next, .slice ab nb cb, .slice aj nj cj]) := HA_0.out.belowS hb
  have HB_1 : Hid (Below w.heap.size w wb) := HB_0.out.trans (hb.mono HB_0.out.size)
  clear HA_0 HB_0
  clear hb
  rcases hsm with rfl | ⟨hr0, hnb, hnj, htn⟩
  · go_wp2
    go_ret
    exact ⟨rfl, HB_1.out⟩
  have HTN : Hid (∀ i, (js.getD i M.j0).ts.length ≤ 1048576) := htn
  clear htn
  have x0 : wb.cell? ⟨w.heap.size, 0, none⟩ = some (.int .i64 now) := HA_1.out.at 0
  have x1 : wb.cell? ⟨w.heap.size, 1, none⟩ = some (.int .i64 next) := HA_1.out.at 1
  have x2 : wb.cell? ⟨w.heap.size, 2, none⟩ = some (.slice ab nb cb) := HA_1.out.at 2
  have x3 : wb.cell? ⟨w.heap.size, 3, none⟩ = some (.slice aj nj cj) := HA_1.out.at 3
  go_wp2_with fail
  clear x0 x1 x2 x3
  refine (toMarket_any now next _ (HM.out.below HB_1.out) hnb hnj HTN.out).mono ?_
  rintro e wc ⟨u1, v1, rfl, hs, hb⟩
  have HA_2 : Hid (Lies wc w.heap.size [.int .i64 now, .int .i64 next, .slice ab nb cb, .slice aj nj cj]) := HA_1.out.belowS hb
  have HB_2 : Hid (Below w.heap.size w wc) := HB_1.out.trans (hb.mono HB_1.out.size)
  clear HA_1 HB_1
  have S1_2 : Hid (SeesM wc u1 nb nb v1 nj nj bs js) := hs
  clear hb
  clear hs
  go_wp2_with fail
  refine (CS _ S1_2.out).mono ?_
  rintro e wd ⟨rfl, hb⟩
  have HA_3 : Hid (Lies wd w.heap.size [.int .i64 now, .int .i64 next, .slice ab nb cb, .slice aj nj cj]) := HA_2.out.belowS hb
  have HB_3 : Hid (Below w.heap.size w wd) := HB_2.out.trans (hb.mono HB_2.out.size)
  have S1_3 : Hid (SeesM wd u1 nb nb v1 nj nj bs js) := S1_2.out.below hb
  clear HA_2 HB_2 S1_2
  clear hb
  clear S1_3
  clear CS
  have hba : Below wd.heap.size wd (wd.alloc (.cells #[.int .i64 p1, .int .i64 p2, .int .i64 p3, .int .i64 p4, .int .i64 p5] 33)) := (Below.refl _ _).alloc (Nat.le_refl _) _
  have HA_4 : Hid (Lies (wd.alloc (.cells #[.int .i64 p1, .int .i64 p2, .int .i64 p3, .int .i64 p4, .int .i64 p5] 33)) w.heap.size [.int .i64 now, .int .i64 next, .slice ab nb cb, .slice aj nj cj]) := HA_3.out.belowS hba
  have HB_4 : Hid (Below w.heap.size w (wd.alloc (.cells #[.int .i64 p1, .int .i64 p2, .int .i64 p3, .int .i64 p4, .int .i64 p5] 33))) := HB_3.out.trans (hba.mono HB_3.out.size)
  clear HA_3 HB_3
  clear hba
  have HC_4 : Hid (Lies (wd.alloc (.cells #[.int .i64 p1, .int .i64 p2, .int .i64 p3, .int .i64 p4, .int .i64 p5] 33)) wd.heap.size [.int .i64 p1, .int .i64 p2, .int .i64 p3, .int .i64 p4, .int .i64 p5]) := lies_new _ _ _
  have x0 : (wd.alloc (.cells #[.int .i64 p1, .int .i64 p2, .int .i64 p3, .int .i64 p4, .int .i64 p5] 33)).cell? ⟨w.heap.size, 0, none⟩ = some (.int .i64 now) := HA_4.out.at 0
  have x1 : (wd.alloc (.cells #[.int .i64 p1, .int .i64 p2, .int .i64 p3, .int .i64 p4, .int .i64 p5] 33)).cell? ⟨w.heap.size, 1, none⟩ = some (.int .i64 next) := HA_4.out.at 1
  have x2 : (wd.alloc (.cells #[.int .i64 p1, .int .i64 p2, .int .i64 p3, .int .i64 p4, .int .i64 p5] 33)).cell? ⟨w.heap.size, 2, none⟩ = some (.slice ab nb cb) := HA_4.out.at 2
  have x3 : (wd.alloc (.cells #[.int .i64 p1, .int .i64 p2, .int .i64 p3, .int .i64 p4, .int .i64 p5] 33)).cell? ⟨w.heap.size, 3, none⟩ = some (.slice aj nj cj) := HA_4.out.at 3
  go_wp2_with fail
  clear x0 x1 x2 x3
  generalize (wd.alloc (.cells #[.int .i64 p1, .int .i64 p2, .int .i64 p3, .int .i64 p4, .int .i64 p5] 33)) = wd2 at HA_4 HB_4 HC_4  ⊢
  generalize wd.heap.size = cb1 at HC_4  ⊢
  refine (toMarket_any now next _ (HM.out.below HB_4.out) hnb hnj HTN.out).mono ?_
  rintro e we ⟨u2, v2, rfl, hs, hb⟩
  have HA_5 : Hid (Lies we w.heap.size [.int .i64 now, .int .i64 next, .slice ab nb cb, .slice aj nj cj]) := HA_4.out.belowS hb
  have HB_5 : Hid (Below w.heap.size w we) := HB_4.out.trans (hb.mono HB_4.out.size)
  have HC_5 : Hid (Lies we cb1 [.int .i64 p1, .int .i64 p2, .int .i64 p3, .int .i64 p4, .int .i64 p5]) := HC_4.out.belowS hb
  clear HA_4 HB_4 HC_4
  have S2_5 : Hid (SeesM we u2 nb nb v2 nj nj bs js) := hs
  clear hb
  clear hs
  have hba : Below we.heap.size we (we.alloc (.cells #[.int .i64 now, .int .i64 next, .slice u2 nb nb, .slice v2 nj nj] 27)) := (Below.refl _ _).alloc (Nat.le_refl _) _
  have HA_6 : Hid (Lies (we.alloc (.cells #[.int .i64 now, .int .i64 next, .slice u2 nb nb, .slice v2 nj nj] 27)) w.heap.size [.int .i64 now, .int .i64 next, .slice ab nb cb, .slice aj nj cj]) := HA_5.out.belowS hba
  have HB_6 : Hid (Below w.heap.size w (we.alloc (.cells #[.int .i64 now, .int .i64 next, .slice u2 nb nb, .slice v2 nj nj] 27))) := HB_5.out.trans (hba.mono HB_5.out.size)
  have HC_6 : Hid (Lies (we.alloc (.cells #[.int .i64 now, .int .i64 next, .slice u2 nb nb, .slice v2 nj nj] 27)) cb1 [.int .i64 p1, .int .i64 p2, .int .i64 p3, .int .i64 p4, .int .i64 p5]) := HC_5.out.belowS hba
  have S2_6 : Hid (SeesM (we.alloc (.cells #[.int .i64 now, .int .i64 next, .slice u2 nb nb, .slice v2 nj nj] 27)) u2 nb nb v2 nj nj bs js) := S2_5.out.below hba
  clear HA_5 HB_5 HC_5 S2_5
  clear hba
  have HX_6 : Hid (Lies (we.alloc (.cells #[.int .i64 now, .int .i64 next, .slice u2 nb nb, .slice v2 nj nj] 27)) we.heap.size [.int .i64 now, .int .i64 next, .slice u2 nb nb, .slice v2 nj nj]) := lies_new _ _ _
  go_wp2_with fail
  generalize (we.alloc (.cells #[.int .i64 now, .int .i64 next, .slice u2 nb nb, .slice v2 nj nj] 27)) = wf at HA_6 HB_6 HC_6 S2_6 HX_6  ⊢
  generalize we.heap.size = xb at HX_6  ⊢
  refine (CI _ S2_6.out).mono ?_
  rintro e wg ⟨rfl, hb⟩
  have HA_7 : Hid (Lies wg w.heap.size [.int .i64 now, .int .i64 next, .slice ab nb cb, .slice aj nj cj]) := HA_6.out.belowS hb
  have HB_7 : Hid (Below w.heap.size w wg) := HB_6.out.trans (hb.mono HB_6.out.size)
  have HC_7 : Hid (Lies wg cb1 [.int .i64 p1, .int .i64 p2, .int .i64 p3, .int .i64 p4, .int .i64 p5]) := HC_6.out.belowS hb
  have S2_7 : Hid (SeesM wg u2 nb nb v2 nj nj bs js) := S2_6.out.below hb
  have HX_7 : Hid (Lies wg xb [.int .i64 now, .int .i64 next, .slice u2 nb nb, .slice v2 nj nj]) := HX_6.out.belowS hb
  clear HA_6 HB_6 HC_6 S2_6 HX_6
  clear hb
  clear CI
  have ho : (rb != rb) = false := by simp
  have hba : Below wg.heap.size wg (wg.alloc (.cells #[.int .i64 p1, .int .i64 p2, .int .i64 p3, .int .i64 p4, .int .i64 p5] 33)) := (Below.refl _ _).alloc (Nat.le_refl _) _
  have HA_8 : Hid (Lies (wg.alloc (.cells #[.int .i64 p1, .int .i64 p2, .int .i64 p3, .int .i64 p4, .int .i64 p5] 33)) w.heap.size [.int .i64 now, .int .i64 next, .slice ab nb cb, .slice aj nj cj]) := HA_7.out.belowS hba
  have HB_8 : Hid (Below w.heap.size w (wg.alloc (.cells #[.int .i64 p1, .int .i64 p2, .int .i64 p3, .int .i64 p4, .int .i64 p5] 33))) := HB_7.out.trans (hba.mono HB_7.out.size)
  have HC_8 : Hid (Lies (wg.alloc (.cells #[.int .i64 p1, .int .i64 p2, .int .i64 p3, .int .i64 p4, .int .i64 p5] 33)) cb1 [.int .i64 p1, .int .i64 p2, .int .i64 p3, .int .i64 p4, .int .i64 p5]) := HC_7.out.belowS hba
  have S2_8 : Hid (SeesM (wg.alloc (.cells #[.int .i64 p1, .int .i64 p2, .int .i64 p3, .int .i64 p4, .int .i64 p5] 33)) u2 nb nb v2 nj nj bs js) := S2_7.out.below hba
  have HX_8 : Hid (Lies (wg.alloc (.cells #[.int .i64 p1, .int .i64 p2, .int .i64 p3, .int .i64 p4, .int .i64 p5] 33)) xb [.int .i64 now, .int .i64 next, .slice u2 nb nb, .slice v2 nj nj]) := HX_7.out.belowS hba
  clear HA_7 HB_7 HC_7 S2_7 HX_7
  clear hba
  have HD_8 : Hid (Lies (wg.alloc (.cells #[.int .i64 p1, .int .i64 p2, .int .i64 p3, .int .i64 p4, .int .i64 p5] 33)) wg.heap.size [.int .i64 p1, .int .i64 p2, .int .i64 p3, .int .i64 p4, .int .i64 p5]) := lies_new _ _ _
  have cx0 : (wg.alloc (.cells #[.int .i64 p1, .int .i64 p2, .int .i64 p3, .int .i64 p4, .int .i64 p5] 33)).cell? ⟨cb1, 0, none⟩ = some (.int .i64 p1) := HC_8.out.at 0
  have cx1 : (wg.alloc (.cells #[.int .i64 p1, .int .i64 p2, .int .i64 p3, .int .i64 p4, .int .i64 p5] 33)).cell? ⟨cb1, 1, none⟩ = some (.int .i64 p2) := HC_8.out.at 1
  have cx2 : (wg.alloc (.cells #[.int .i64 p1, .int .i64 p2, .int .i64 p3, .int .i64 p4, .int .i64 p5] 33)).cell? ⟨cb1, 2, none⟩ = some (.int .i64 p3) := HC_8.out.at 2
  have cx3 : (wg.alloc (.cells #[.int .i64 p1, .int .i64 p2, .int .i64 p3, .int .i64 p4, .int .i64 p5] 33)).cell? ⟨cb1, 3, none⟩ = some (.int .i64 p4) := HC_8.out.at 3
  have cx4 : (wg.alloc (.cells #[.int .i64 p1, .int .i64 p2, .int .i64 p3, .int .i64 p4, .int .i64 p5] 33)).cell? ⟨cb1, 4, none⟩ = some (.int .i64 p5) := HC_8.out.at 4
  have cy0 : (wg.alloc (.cells #[.int .i64 p1, .int .i64 p2, .int .i64 p3, .int .i64 p4, .int .i64 p5] 33)).cell? ⟨wg.heap.size, 0, none⟩ = some (.int .i64 p1) := HD_8.out.at 0
  have cy1 : (wg.alloc (.cells #[.int .i64 p1, .int .i64 p2, .int .i64 p3, .int .i64 p4, .int .i64 p5] 33)).cell? ⟨wg.heap.size, 1, none⟩ = some (.int .i64 p2) := HD_8.out.at 1
  have cy2 : (wg.alloc (.cells #[.int .i64 p1, .int .i64 p2, .int .i64 p3, .int .i64 p4, .int .i64 p5] 33)).cell? ⟨wg.heap.size, 2, none⟩ = some (.int .i64 p3) := HD_8.out.at 2
  have cy3 : (wg.alloc (.cells #[.int .i64 p1, .int .i64 p2, .int .i64 p3, .int .i64 p4, .int .i64 p5] 33)).cell? ⟨wg.heap.size, 3, none⟩ = some (.int .i64 p4) := HD_8.out.at 3
  have cy4 : (wg.alloc (.cells #[.int .i64 p1, .int .i64 p2, .int .i64 p3, .int .i64 p4, .int .i64 p5] 33)).cell? ⟨wg.heap.size, 4, none⟩ = some (.int .i64 p5) := HD_8.out.at 4
  go_wp2_with fail
  clear cx0 cx1 cx2 cx3 cx4 cy0 cy1 cy2 cy3 cy4
  generalize (wg.alloc (.cells #[.int .i64 p1, .int .i64 p2, .int .i64 p3, .int .i64 p4, .int .i64 p5] 33)) = wh at HA_8 HB_8 HC_8 S2_8 HX_8 HD_8  ⊢
  generalize wg.heap.size = db at HD_8  ⊢
  refine (CE _).mono ?_
  rintro e wi ⟨rfl, hb⟩
  have HA_9 : Hid (Lies wi w.heap.size [.int .i64 now, .int .i64 next, .slice ab nb cb, .slice aj nj cj]) := HA_8.out.belowS hb
  have HB_9 : Hid (Below w.heap.size w wi) := HB_8.out.trans (hb.mono HB_8.out.size)
  have HC_9 : Hid (Lies wi cb1 [.int .i64 p1, .int .i64 p2, .int .i64 p3, .int .i64 p4, .int .i64 p5]) := HC_8.out.belowS hb
  have S2_9 : Hid (SeesM wi u2 nb nb v2 nj nj bs js) := S2_8.out.below hb
  have HX_9 : Hid (Lies wi xb [.int .i64 now, .int .i64 next, .slice u2 nb nb, .slice v2 nj nj]) := HX_8.out.belowS hb
  have HD_9 : Hid (Lies wi db [.int .i64 p1, .int .i64 p2, .int .i64 p3, .int .i64 p4, .int .i64 p5]) := HD_8.out.belowS hb
  clear HA_8 HB_8 HC_8 S2_8 HX_8 HD_8
  clear hb
  clear HC_9
  clear HD_9
  clear CE
  go_wp2_with fail
  refine wp_region_noPanic ?_
  refine wp_region_held_drew (S := fun W => wi.grownBy W none) (by kernel_rfl) (grown_drew _ _) (fun hHeld => ?_)
  generalize wi.drew = wd0 at hHeld ⊢
  have HX0 : Hid (Below wi.heap.size wi wd0) := ⟨hHeld.os, hHeld.tape, hHeld.output, hHeld.size, fun k hk => hHeld.block k hk (by simp)⟩
  refine wpAnyH_take (i := 0) (v := .agg ([.int .i64 now, .int .i64 next, .slice u2 nb nb, .slice v2 nj nj]).toArray) rfl (by kernel_rfl) (by kernel_rfl) (by kernel_rfl) (fun _ _ _ h => h) (yieldsIf_load_mid (by kernel_rfl) 27 (.tmp 8) rfl xb 0 rfl ([.int .i64 now, .int .i64 next, .slice u2 nb nb, .slice v2 nj nj]) _ (fun W h => (HX_9.out.grown h (by simp)).row) Tryz.underlying27 rfl (by kernel_rfl)) (by assumption) ?_
  try simp only [Act.put]
  refine wpAnyH_take (i := 1) (v := .agg ([.int .i64 now, .int .i64 next, .slice ab nb cb, .slice aj nj cj]).toArray) rfl (by kernel_rfl) (by kernel_rfl) (by kernel_rfl) (fun _ _ _ h => h) (yieldsIf_load_mid (by kernel_rfl) 48 (.tmp 2) rfl w.heap.size 0 rfl ([.int .i64 now, .int .i64 next, .slice ab nb cb, .slice aj nj cj]) _ (fun W h => (HA_9.out.grown h (by simp)).row) Tryz.underlying48 rfl (by kernel_rfl)) (by assumption) ?_
  try simp only [Act.put]
  refine wpAnyH_ready (rs := [2]) (by kernel_rfl) (by simp) ?_
  refine AllReadyH.cons rfl (fun Kk hK => ?_) AllReadyH.nil
  go_simp
  refine (toMarket_any now next _ (HM.out.below (HB_9.out.trans (HX0.out.mono HB_9.out.size))) hnb hnj HTN.out).mono ?_
  rintro e wd1 ⟨u3, y3, rfl, hs, hb1⟩
  go_simp
  have hS1 : wi.grownBy wd1 none := grown_step hHeld hb1
  have HX1 : Hid (Below wi.heap.size wi wd1) := ⟨hS1.os, hS1.tape, hS1.output, hS1.size, fun k hk => hS1.block k hk (by simp)⟩
  have S3_r1 : Hid (SeesM wd1 u3 nb nb y3 nj nj bs js) := hs
  refine hK.out _ _ hS1 (fun _ => ?_)
  clear hK Kk hb1
  try simp only [Act.put]
  refine wpAnyH_ready (rs := [3]) (by kernel_rfl) (by simp) ?_
  refine AllReadyH.cons rfl (fun Kk hK => ?_) AllReadyH.nil
  go_simp
  refine (eqMarket_same now next _ (S2_9.out.below HX1.out) S3_r1.out).mono ?_
  rintro e wd2 ⟨rfl, hb2⟩
  go_simp
  have hS2 : wi.grownBy wd2 none := grown_step hS1 hb2
  have HX2 : Hid (Below wi.heap.size wi wd2) := ⟨hS2.os, hS2.tape, hS2.output, hS2.size, fun k hk => hS2.block k hk (by simp)⟩
  have S3_r2 : Hid (SeesM wd2 u3 nb nb y3 nj nj bs js) := S3_r1.out.below hb2
  refine hK.out _ _ hS2 (fun _ => ?_)
  clear hK Kk hb2
  try simp only [Act.put]
  refine wpAnyH_take (i := 4) (v := .bool false) rfl (by kernel_rfl) (by kernel_rfl) (by kernel_rfl) (fun _ _ _ h => h) (Or.inl ⟨by kernel_rfl, ?_⟩) (by assumption) ?_
  · intro wq hSq; go_simp
  try simp only [Act.put]
  refine wpAnyH_done (by kernel_rfl) ?_ _
  refine NoPanic.normal ?_
  go_simp
  have HA_10 : Hid (Lies wd2 w.heap.size [.int .i64 now, .int .i64 next, .slice ab nb cb, .slice aj nj cj]) := HA_9.out.belowS HX2.out
  have HB_10 : Hid (Below w.heap.size w wd2) := HB_9.out.trans (HX2.out.mono HB_9.out.size)
  have S2_10 : Hid (SeesM wd2 u2 nb nb v2 nj nj bs js) := S2_9.out.below HX2.out
  have HX_10 : Hid (Lies wd2 xb [.int .i64 now, .int .i64 next, .slice u2 nb nb, .slice v2 nj nj]) := HX_9.out.belowS HX2.out
  clear HA_9 HB_9 S2_9 HX_9
  have S3_10 : Hid (SeesM wd2 u3 nb nb y3 nj nj bs js) := S3_r2.out
  go_wp2
  go_ret
  exact ⟨rfl, HB_10.out⟩
end Go.Proofs.YtfhknkppiidnkaaGreat
