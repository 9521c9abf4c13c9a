/- FnExactStatusOf: the walk. -/
import Derived.Test.YtfhknkppiidnkaaMkG
import Derived.Test.YtfhknkppiidnkaaMsB
import Derived.Test.YtfhknkppiidnkaaHlD
namespace Go.Proofs.Ytfhknkppiidnkaa
open Go.RowKit

set_option maxHeartbeats 8000000 in
set_option maxRecDepth 10000 in
theorem fnStatusOf_any {ab aj : Option Addr} {nb cb nj cj : Nat} {bs : List Int} {js : List M.Jb} (now next id : Int) (w : World) (hz : SeesM w ab nb cb aj nj cj bs js) :
    Calls Try.prog 4 #[.agg #[.int .i64 now, .int .i64 next, .slice ab nb cb, .slice aj nj cj], .int .i64 id] w fun e w' => e = .returned (.bool true) ∧ Below w.heap.size w w' := by
  have HM : Hid (SeesM w ab nb cb aj nj cj bs js) := hz
  have CS : ∀ (W : World) {x y : Option Addr}, SeesM W x nb nb y nj nj bs js → Calls Try.prog 10 #[.agg #[.int .i64 now, .int .i64 next, .slice x nb nb, .slice y nj nj], .int .i64 id] W fun e w' => e = .returned (.tuple #[.int .i64 (M.stN now next id bs js : Nat), .int .i64 (M.stL now next id bs js : Nat), .bool (M.stOk now next id bs js)]) ∧ Below W.heap.size W w' := fun W _ _ h => specStatusOf_any now next id W h
  have CI : ∀ (W : World) {x y : Option Addr}, SeesM W x nb nb y nj nj bs js → Calls Try.prog 11 #[.agg #[.int .i64 now, .int .i64 next, .slice x nb nb, .slice y nj nj], .int .i64 id] W fun e w' => e = .returned (.tuple #[.int .i64 (M.stN now next id bs js : Nat), .int .i64 (M.stL now next id bs js : Nat), .bool (M.stOk now next id bs js)]) ∧ Below W.heap.size W w' := fun W _ _ h => implStatusOf_any now next id W h
  generalize M.stOk now next id bs js = o at CS CI
  generalize M.stN now next id bs js = sn at CS CI
  generalize M.stL now next id bs js = sl at CS CI
  clear hz 
  go_enter Try.func4, Try.ntmps4
  have HA_0 : Hid (Lies (w.alloc (.cells #[.int .i64 now, .int .i64 next, .slice ab nb cb, .slice aj nj cj] 25)) w.heap.size [.int .i64 now, .int .i64 next, .slice ab nb cb, .slice aj nj cj]) := lies_new _ _ _
  have HB_0 : Hid (Below w.heap.size w (w.alloc (.cells #[.int .i64 now, .int .i64 next, .slice ab nb cb, .slice aj nj cj] 25))) := (Below.refl _ _).alloc (Nat.le_refl _) _
  go_wp2_with fail
  generalize (w.alloc (.cells #[.int .i64 now, .int .i64 next, .slice ab nb cb, .slice aj nj cj] 25)) = wa at HA_0 HB_0  ⊢
  refine (szMarket_any now next _ (HM.out.below HB_0.out)).mono ?_
  rintro e wb ⟨r, rfl, hsm, hb⟩
  have HA_1 : Hid (Lies wb w.heap.size [.int .i64 now, .int .i64 next, .slice ab nb cb, .slice aj nj cj]) := HA_0.out.belowS hb
  have HB_1 : Hid (Below w.heap.size w wb) := HB_0.out.trans (hb.mono HB_0.out.size)
  clear HA_0 HB_0
  clear hb
  rcases hsm with rfl | ⟨hr0, hnb, hnj, htn⟩
  · go_wp2
    go_ret
    exact ⟨rfl, HB_1.out⟩
  have HTN : Hid (∀ i, (js.getD i M.j0).ts.length ≤ 1048576) := htn
  clear htn
  have x0 : wb.cell? ⟨w.heap.size, 0, none⟩ = some (.int .i64 now) := HA_1.out.at 0
  have x1 : wb.cell? ⟨w.heap.size, 1, none⟩ = some (.int .i64 next) := HA_1.out.at 1
  have x2 : wb.cell? ⟨w.heap.size, 2, none⟩ = some (.slice ab nb cb) := HA_1.out.at 2
  have x3 : wb.cell? ⟨w.heap.size, 3, none⟩ = some (.slice aj nj cj) := HA_1.out.at 3
  go_wp2_with fail
  clear x0 x1 x2 x3
  refine (toMarket_any now next _ (HM.out.below HB_1.out) hnb hnj HTN.out).mono ?_
  rintro e wc ⟨u1, y1, rfl, hs, hb⟩
  have HA_2 : Hid (Lies wc w.heap.size [.int .i64 now, .int .i64 next, .slice ab nb cb, .slice aj nj cj]) := HA_1.out.belowS hb
  have HB_2 : Hid (Below w.heap.size w wc) := HB_1.out.trans (hb.mono HB_1.out.size)
  clear HA_1 HB_1
  have S1_2 : Hid (SeesM wc u1 nb nb y1 nj nj bs js) := hs
  clear hb
  clear hs
  go_wp2_with fail
  refine (CS _ S1_2.out).mono ?_
  rintro e wd ⟨rfl, hb⟩
  have HA_3 : Hid (Lies wd w.heap.size [.int .i64 now, .int .i64 next, .slice ab nb cb, .slice aj nj cj]) := HA_2.out.belowS hb
  have HB_3 : Hid (Below w.heap.size w wd) := HB_2.out.trans (hb.mono HB_2.out.size)
  have S1_3 : Hid (SeesM wd u1 nb nb y1 nj nj bs js) := S1_2.out.below hb
  clear HA_2 HB_2 S1_2
  clear hb
  clear S1_3
  clear CS
  have x0 : wd.cell? ⟨w.heap.size, 0, none⟩ = some (.int .i64 now) := HA_3.out.at 0
  have x1 : wd.cell? ⟨w.heap.size, 1, none⟩ = some (.int .i64 next) := HA_3.out.at 1
  have x2 : wd.cell? ⟨w.heap.size, 2, none⟩ = some (.slice ab nb cb) := HA_3.out.at 2
  have x3 : wd.cell? ⟨w.heap.size, 3, none⟩ = some (.slice aj nj cj) := HA_3.out.at 3
  go_wp2_with fail
  clear x0 x1 x2 x3
  refine (toMarket_any now next _ (HM.out.below HB_3.out) hnb hnj HTN.out).mono ?_
  rintro e we ⟨u2, y2, rfl, hs, hb⟩
  have HA_4 : Hid (Lies we w.heap.size [.int .i64 now, .int .i64 next, .slice ab nb cb, .slice aj nj cj]) := HA_3.out.belowS hb
  have HB_4 : Hid (Below w.heap.size w we) := HB_3.out.trans (hb.mono HB_3.out.size)
  clear HA_3 HB_3
  have S2_4 : Hid (SeesM we u2 nb nb y2 nj nj bs js) := hs
  clear hb
  clear hs
  have hba : Below we.heap.size we (we.alloc (.cells #[.int .i64 now, .int .i64 next, .slice u2 nb nb, .slice y2 nj nj] 30)) := (Below.refl _ _).alloc (Nat.le_refl _) _
  have HA_5 : Hid (Lies (we.alloc (.cells #[.int .i64 now, .int .i64 next, .slice u2 nb nb, .slice y2 nj nj] 30)) w.heap.size [.int .i64 now, .int .i64 next, .slice ab nb cb, .slice aj nj cj]) := HA_4.out.belowS hba
  have HB_5 : Hid (Below w.heap.size w (we.alloc (.cells #[.int .i64 now, .int .i64 next, .slice u2 nb nb, .slice y2 nj nj] 30))) := HB_4.out.trans (hba.mono HB_4.out.size)
  have S2_5 : Hid (SeesM (we.alloc (.cells #[.int .i64 now, .int .i64 next, .slice u2 nb nb, .slice y2 nj nj] 30)) u2 nb nb y2 nj nj bs js) := S2_4.out.below hba
  clear HA_4 HB_4 S2_4
  clear hba
  have HX_5 : Hid (Lies (we.alloc (.cells #[.int .i64 now, .int .i64 next, .slice u2 nb nb, .slice y2 nj nj] 30)) we.heap.size [.int .i64 now, .int .i64 next, .slice u2 nb nb, .slice y2 nj nj]) := lies_new _ _ _
  go_wp2_with fail
  generalize (we.alloc (.cells #[.int .i64 now, .int .i64 next, .slice u2 nb nb, .slice y2 nj nj] 30)) = wf at HA_5 HB_5 S2_5 HX_5  ⊢
  generalize we.heap.size = xb at HX_5  ⊢
  refine (CI _ S2_5.out).mono ?_
  rintro e wg ⟨rfl, hb⟩
  have HA_6 : Hid (Lies wg w.heap.size [.int .i64 now, .int .i64 next, .slice ab nb cb, .slice aj nj cj]) := HA_5.out.belowS hb
  have HB_6 : Hid (Below w.heap.size w wg) := HB_5.out.trans (hb.mono HB_5.out.size)
  have S2_6 : Hid (SeesM wg u2 nb nb y2 nj nj bs js) := S2_5.out.below hb
  have HX_6 : Hid (Lies wg xb [.int .i64 now, .int .i64 next, .slice u2 nb nb, .slice y2 nj nj]) := HX_5.out.belowS hb
  clear HA_5 HB_5 S2_5 HX_5
  clear hb
  clear CI
  have ho : (o != o) = false := by simp
  have hn : ((sn : Int) != (sn : Int)) = false := by simp
  have hl : ((sl : Int) != (sl : Int)) = false := by simp
  go_wp2_with fail
  refine wp_region_noPanic ?_
  refine wp_region_held_drew (S := fun W => wg.grownBy W none) (by kernel_rfl) (grown_drew _ _) (fun hHeld => ?_)
  generalize wg.drew = wd0 at hHeld ⊢
  have HX0 : Hid (Below wg.heap.size wg wd0) := ⟨hHeld.os, hHeld.tape, hHeld.output, hHeld.size, fun k hk => hHeld.block k hk (by simp)⟩
  refine wpAnyH_take (i := 0) (v := .agg ([.int .i64 now, .int .i64 next, .slice u2 nb nb, .slice y2 nj nj]).toArray) rfl (by kernel_rfl) (by kernel_rfl) (by kernel_rfl) (fun _ _ _ h => h) (yieldsIf_load_mid (by kernel_rfl) 30 (.tmp 9) rfl xb 0 rfl ([.int .i64 now, .int .i64 next, .slice u2 nb nb, .slice y2 nj nj]) _ (fun W h => (HX_6.out.grown h (by simp)).row) Try.underlying30 rfl (by kernel_rfl)) (by assumption) ?_
  try simp only [Act.put]
  refine wpAnyH_take (i := 1) (v := .agg ([.int .i64 now, .int .i64 next, .slice ab nb cb, .slice aj nj cj]).toArray) rfl (by kernel_rfl) (by kernel_rfl) (by kernel_rfl) (fun _ _ _ h => h) (yieldsIf_load_mid (by kernel_rfl) 25 (.tmp 2) rfl w.heap.size 0 rfl ([.int .i64 now, .int .i64 next, .slice ab nb cb, .slice aj nj cj]) _ (fun W h => (HA_6.out.grown h (by simp)).row) Try.underlying25 rfl (by kernel_rfl)) (by assumption) ?_
  try simp only [Act.put]
  refine wpAnyH_ready (rs := [2]) (by kernel_rfl) (by simp) ?_
  refine AllReadyH.cons rfl (fun Kk hK => ?_) AllReadyH.nil
  go_simp
  refine (toMarket_any now next _ (HM.out.below (HB_6.out.trans (HX0.out.mono HB_6.out.size))) hnb hnj HTN.out).mono ?_
  rintro e wd1 ⟨u3, y3, rfl, hs, hb1⟩
  go_simp
  have hS1 : wg.grownBy wd1 none := grown_step hHeld hb1
  have HX1 : Hid (Below wg.heap.size wg wd1) := ⟨hS1.os, hS1.tape, hS1.output, hS1.size, fun k hk => hS1.block k hk (by simp)⟩
  have S3_r1 : Hid (SeesM wd1 u3 nb nb y3 nj nj bs js) := hs
  refine hK.out _ _ hS1 (fun _ => ?_)
  clear hK Kk hb1
  try simp only [Act.put]
  refine wpAnyH_ready (rs := [3]) (by kernel_rfl) (by simp) ?_
  refine AllReadyH.cons rfl (fun Kk hK => ?_) AllReadyH.nil
  go_simp
  refine (eqMarket_same now next _ (S2_6.out.below HX1.out) S3_r1.out).mono ?_
  rintro e wd2 ⟨rfl, hb2⟩
  go_simp
  have hS2 : wg.grownBy wd2 none := grown_step hS1 hb2
  have HX2 : Hid (Below wg.heap.size wg wd2) := ⟨hS2.os, hS2.tape, hS2.output, hS2.size, fun k hk => hS2.block k hk (by simp)⟩
  have S3_r2 : Hid (SeesM wd2 u3 nb nb y3 nj nj bs js) := S3_r1.out.below hb2
  refine hK.out _ _ hS2 (fun _ => ?_)
  clear hK Kk hb2
  try simp only [Act.put]
  refine wpAnyH_take (i := 4) (v := .bool false) rfl (by kernel_rfl) (by kernel_rfl) (by kernel_rfl) (fun _ _ _ h => h) (Or.inl ⟨by kernel_rfl, ?_⟩) (by assumption) ?_
  · intro wq hSq; go_simp
  try simp only [Act.put]
  refine wpAnyH_done (by kernel_rfl) ?_ _
  refine NoPanic.normal ?_
  go_simp
  have HA_7 : Hid (Lies wd2 w.heap.size [.int .i64 now, .int .i64 next, .slice ab nb cb, .slice aj nj cj]) := HA_6.out.belowS HX2.out
  have HB_7 : Hid (Below w.heap.size w wd2) := HB_6.out.trans (HX2.out.mono HB_6.out.size)
  have S2_7 : Hid (SeesM wd2 u2 nb nb y2 nj nj bs js) := S2_6.out.below HX2.out
  have HX_7 : Hid (Lies wd2 xb [.int .i64 now, .int .i64 next, .slice u2 nb nb, .slice y2 nj nj]) := HX_6.out.belowS HX2.out
  clear HA_6 HB_6 S2_6 HX_6
  have S3_7 : Hid (SeesM wd2 u3 nb nb y3 nj nj bs js) := S3_r2.out
  go_wp2
  go_ret
  exact ⟨rfl, HB_7.out⟩
end Go.Proofs.Ytfhknkppiidnkaa
