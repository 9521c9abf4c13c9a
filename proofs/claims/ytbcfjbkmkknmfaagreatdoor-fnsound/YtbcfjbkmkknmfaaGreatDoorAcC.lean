/- The checks of a proof that has its form, one by one: short polynomials, both ends, the quotients. What impl.Accepted answers: nil just where all checks hold. What impl.Accepted answers. -/
import Derived.Test.YtbcfjbkmkknmfaaGreatDoorErF
import Derived.Test.YtbcfjbkmkknmfaaGreatDoorPrJ
namespace Go.Proofs.YtbcfjbkmkknmfaaGreatDoor
open Go.RowKit Go.Extern.Stop Go.Stop Go.Extern

theorem M.blw_wide {z : List Int} {N : Nat} (h : M.rowsN N = true) (hl : z.length = 4 * N) (ha : M.allEl z = true) : M.blw z 3 (N : Int) = M.lenOk z N := by
  have h1 := M.frOk_wide h hl ha
  unfold M.blw M.frv M.lenOk
  rw [h1]
  simp
/-- what a call must find of the package's variables -/
structure EnvX (w : World) (aL aN aG aE aR : Addr) : Prop where
  env : Env w aL aN
  cG : w.cell? ⟨3, 0, none⟩ = some (.iface 225 (.pointer (some aG)))
  cE : w.cell? ⟨4, 0, none⟩ = some (.iface 225 (.pointer (some aE)))
  cR : w.cell? ⟨5, 0, none⟩ = some (.iface 225 (.pointer (some aR)))
theorem EnvX.below {w w' : World} {aL aN aG aE aR : Addr} (h : EnvX w aL aN aG aE aR) (hb : Below w.heap.size w w') : EnvX w' aL aN aG aE aR where
  env := h.env.below hb
  cG := (hb.cell (p := ⟨3, 0, none⟩) (World.block_lt_of_cell? w _ h.cG)).trans h.cG
  cE := (hb.cell (p := ⟨4, 0, none⟩) (World.block_lt_of_cell? w _ h.cE)).trans h.cE
  cR := (hb.cell (p := ⟨5, 0, none⟩) (World.block_lt_of_cell? w _ h.cR)).trans h.cR
/-- nil just where all is right; else a refusal -/
def FP (ok : Bool) (e : Ending) : Prop := (ok = true ∧ e = .returned .nilIface) ∨ (ok = false ∧ ∃ s p a, e = .returned (rfv s p a))
theorem FP.no {e : Ending} (h : ∃ s p a, e = .returned (rfv s p a)) : FP false e := .inr ⟨rfl, h⟩
set_option maxHeartbeats 8000000 in
set_option maxRecDepth 10000 in
theorem lengthFault_any {a1 a2 a3 a4 : Option Addr} {n1 n2 n3 n4 c1 c2 c3 c4 : Nat} {z1 z2 z3 z4 : List Int} {aL aN aG aE aR : Addr} (s1 s2 e1 e2 : Int) (N : Nat) (w : World) (h : M.rowsN N = true) (he : EnvX w aL aN aG aE aR) (h1 : Sees w a1 n1 c1 z1) (h2 : Sees w a2 n2 c2 z2) (h3 : Sees w a3 n3 c3 z3) (h4 : Sees w a4 n4 c4 z4) (ha1 : M.allEl z1 = true) (ha2 : M.allEl z2 = true) (ha3 : M.allEl z3 = true) (ha4 : M.allEl z4 = true) (l1 : z1.length = 4 * N) (l2 : z2.length = 4 * N) (l3 : z3.length = 4 * N) (l4 : z4.length = 4 * N) :
    Calls Tryz.prog 125 #[frv N, .agg #[.int .i64 s1, .int .i64 s2, .int .i64 e1, .int .i64 e2, .slice a1 n1 c1, .slice a2 n2 c2, .slice a3 n3 c3, .slice a4 n4 c4]] w fun e w' => FP (M.lenOk z1 N && (M.lenOk z2 N && (M.lenOk z3 N && M.lenOk z4 N))) e ∧ Below w.heap.size w w' := by
  have hN16 : (N : Int) ≤ 16 := by have := M.rowsN_pos h; omega
  have q1 := M.blw_wide h l1 ha1
  have q2 := M.blw_wide h l2 ha2
  have q3 := M.blw_wide h l3 ha3
  have q4 := M.blw_wide h l4 ha4
  have H1 : Hid (Sees w a1 n1 c1 z1) := h1
  have H2 : Hid (Sees w a2 n2 c2 z2) := h2
  have H3 : Hid (Sees w a3 n3 c3 z3) := h3
  have H4 : Hid (Sees w a4 n4 c4 z4) := h4
  have HF0 : Hid (Lies ((w.alloc (.cells #[.int .i64 (N : Int), .int .i64 1, .int .i64 (M.root (N : Int)), .int .i64 (4 * (N : Int)), .int .i64 3, .int .i64 (M.root (4 * (N : Int))), .int .i64 (M.lst N)] 81)).alloc (.cells #[.int .i64 s1, .int .i64 s2, .int .i64 e1, .int .i64 e2, .slice a1 n1 c1, .slice a2 n2 c2, .slice a3 n3 c3, .slice a4 n4 c4] 34)) w.heap.size [.int .i64 (N : Int), .int .i64 1, .int .i64 (M.root (N : Int)), .int .i64 (4 * (N : Int)), .int .i64 3, .int .i64 (M.root (4 * (N : Int))), .int .i64 (M.lst N)]) := (lies_new _ _ _).alloc _
  have HB0 : Hid (Below w.heap.size w ((w.alloc (.cells #[.int .i64 (N : Int), .int .i64 1, .int .i64 (M.root (N : Int)), .int .i64 (4 * (N : Int)), .int .i64 3, .int .i64 (M.root (4 * (N : Int))), .int .i64 (M.lst N)] 81)).alloc (.cells #[.int .i64 s1, .int .i64 s2, .int .i64 e1, .int .i64 e2, .slice a1 n1 c1, .slice a2 n2 c2, .slice a3 n3 c3, .slice a4 n4 c4] 34))) := ((Below.refl _ _).alloc (Nat.le_refl _) _).alloc (by simp) _
  have HE0 : Hid (EnvX ((w.alloc (.cells #[.int .i64 (N : Int), .int .i64 1, .int .i64 (M.root (N : Int)), .int .i64 (4 * (N : Int)), .int .i64 3, .int .i64 (M.root (4 * (N : Int))), .int .i64 (M.lst N)] 81)).alloc (.cells #[.int .i64 s1, .int .i64 s2, .int .i64 e1, .int .i64 e2, .slice a1 n1 c1, .slice a2 n2 c2, .slice a3 n3 c3, .slice a4 n4 c4] 34)) aL aN aG aE aR) := he.below HB0.out
  have CL := listsOf_any (a1 := a1) (a2 := a2) (a3 := a3) (a4 := a4) (n1 := n1) (n2 := n2) (n3 := n3) (n4 := n4) (c1 := c1) (c2 := c2) (c3 := c3) (c4 := c4) s1 s2 e1 e2
  clear he h1 h2 h3 h4 ha1 ha2 ha3 ha4 l1 l2 l3 l4
  have Q1 : Hid (M.blw z1 3 (N : Int) = M.lenOk z1 N) := q1
  have Q2 : Hid (M.blw z2 3 (N : Int) = M.lenOk z2 N) := q2
  have Q3 : Hid (M.blw z3 3 (N : Int) = M.lenOk z3 N) := q3
  have Q4 : Hid (M.blw z4 3 (N : Int) = M.lenOk z4 N) := q4
  clear q1 q2 q3 q4
  generalize M.lenOk z1 N = o1 at Q1 ⊢
  generalize M.lenOk z2 N = o2 at Q2 ⊢
  generalize M.lenOk z3 N = o3 at Q3 ⊢
  generalize M.lenOk z4 N = o4 at Q4 ⊢
  unfold frv
  go_enter Tryz.func125, Tryz.ntmps125
  go_wp2_with fail
  refine (CL _).mono ?_
  rintro e w2 ⟨g, rfl, hl2, hb2⟩
  have HF : Hid (Lies w2 w.heap.size [.int .i64 (N : Int), .int .i64 1, .int .i64 (M.root (N : Int)), .int .i64 (4 * (N : Int)), .int .i64 3, .int .i64 (M.root (4 * (N : Int))), .int .i64 (M.lst N)]) := HF0.out.belowS hb2
  have HLL : Hid (Lies w2 g [.string { data := #[88] }, .slice a1 n1 c1, .string { data := #[89] }, .slice a2 n2 c2, .string { data := #[81, 88] }, .slice a3 n3 c3, .string { data := #[81, 89] }, .slice a4 n4 c4]) := hl2
  have HB : Hid (Below w.heap.size w w2) := HB0.out.trans (hb2.mono HB0.out.size)
  have HE : Hid (EnvX w2 aL aN aG aE aR) := HE0.out.below hb2
  clear hl2 hb2 HF0 HB0 HE0 CL
  go_wp2
  refine wp_loop_rounds 5 ?_
  have x0 : w2.cell? ⟨g, 0, none⟩ = some (.string { data := #[88] }) := HLL.out.at 0
  have x1 : w2.cell? ⟨g, 1, none⟩ = some (.slice a1 n1 c1) := HLL.out.at 1
  have HFn : Hid (Lies (w2.alloc (.cells #[.string { data := #[88] }, .slice a1 n1 c1] 180)) w.heap.size [.int .i64 (N : Int), .int .i64 1, .int .i64 (M.root (N : Int)), .int .i64 (4 * (N : Int)), .int .i64 3, .int .i64 (M.root (4 * (N : Int))), .int .i64 (M.lst N)]) := HF.out.alloc _
  have HLn : Hid (Lies (w2.alloc (.cells #[.string { data := #[88] }, .slice a1 n1 c1] 180)) g [.string { data := #[88] }, .slice a1 n1 c1, .string { data := #[89] }, .slice a2 n2 c2, .string { data := #[81, 88] }, .slice a3 n3 c3, .string { data := #[81, 89] }, .slice a4 n4 c4]) := HLL.out.alloc _
  have HBn : Hid (Below w.heap.size w (w2.alloc (.cells #[.string { data := #[88] }, .slice a1 n1 c1] 180))) := HB.out.alloc HB.out.size _
  have HEn : Hid (EnvX (w2.alloc (.cells #[.string { data := #[88] }, .slice a1 n1 c1] 180)) aL aN aG aE aR) := HE.out.below ((Below.refl _ _).alloc (Nat.le_refl _) _)
  have HVn : Hid (Lies (w2.alloc (.cells #[.string { data := #[88] }, .slice a1 n1 c1] 180)) w2.heap.size [.string { data := #[88] }, .slice a1 n1 c1]) := lies_new _ _ _
  have f0 : (w2.alloc (.cells #[.string { data := #[88] }, .slice a1 n1 c1] 180)).cell? ⟨w.heap.size, 0, none⟩ = some (.int .i64 (N : Int)) := HFn.out.at 0
  have hcf := implBelow_any 3 (N : Int) (w2.alloc (.cells #[.string { data := #[88] }, .slice a1 n1 c1] 180)) (H1.out.below HBn.out)
  rw [Q1.out] at hcf
  rw [rounds_succ]
  go_wp2_with fail
  refine hcf.mono ?_
  rintro e wl1 ⟨rfl, hb⟩
  generalize (w2.alloc (.cells #[.string { data := #[88] }, .slice a1 n1 c1] 180)) = wv at HFn HLn HBn HEn HVn hb hcf f0 ⊢
  generalize w2.heap.size = vb at HVn ⊢
  clear x0 x1 HF HLL HB HE hcf f0
  have HF : Hid (Lies wl1 w.heap.size [.int .i64 (N : Int), .int .i64 1, .int .i64 (M.root (N : Int)), .int .i64 (4 * (N : Int)), .int .i64 3, .int .i64 (M.root (4 * (N : Int))), .int .i64 (M.lst N)]) := HFn.out.belowS hb
  have HLL : Hid (Lies wl1 g [.string { data := #[88] }, .slice a1 n1 c1, .string { data := #[89] }, .slice a2 n2 c2, .string { data := #[81, 88] }, .slice a3 n3 c3, .string { data := #[81, 89] }, .slice a4 n4 c4]) := HLn.out.belowS hb
  have HB : Hid (Below w.heap.size w wl1) := HBn.out.trans (hb.mono HBn.out.size)
  have HE : Hid (EnvX wl1 aL aN aG aE aR) := HEn.out.below hb
  have y0 : wl1.cell? ⟨vb, 0, none⟩ = some (.string { data := #[88] }) := (HVn.out.belowS hb).at 0
  clear hb HFn HLn HBn HEn HVn
  cases o1 with
  | false =>
    have gG := HE.out.cG
    go_wp2_with fail
    refine (inPart_sent _ aG _ HE.out.env).mono ?_
    rintro e w9 ⟨rfl, hb9⟩
    have HB9 : Hid (Below w.heap.size w w9) := HB.out.trans (hb9.mono HB.out.size)
    clear hb9
    go_wp2
    go_ret
    exact ⟨.inr ⟨by simp, _, _, _, rfl⟩, HB9.out⟩
  | true =>
  clear y0
  go_wp2
  have x0 : wl1.cell? ⟨g, 2, none⟩ = some (.string { data := #[89] }) := HLL.out.at 2
  have x1 : wl1.cell? ⟨g, 3, none⟩ = some (.slice a2 n2 c2) := HLL.out.at 3
  have HFn : Hid (Lies (wl1.alloc (.cells #[.string { data := #[89] }, .slice a2 n2 c2] 180)) w.heap.size [.int .i64 (N : Int), .int .i64 1, .int .i64 (M.root (N : Int)), .int .i64 (4 * (N : Int)), .int .i64 3, .int .i64 (M.root (4 * (N : Int))), .int .i64 (M.lst N)]) := HF.out.alloc _
  have HLn : Hid (Lies (wl1.alloc (.cells #[.string { data := #[89] }, .slice a2 n2 c2] 180)) g [.string { data := #[88] }, .slice a1 n1 c1, .string { data := #[89] }, .slice a2 n2 c2, .string { data := #[81, 88] }, .slice a3 n3 c3, .string { data := #[81, 89] }, .slice a4 n4 c4]) := HLL.out.alloc _
  have HBn : Hid (Below w.heap.size w (wl1.alloc (.cells #[.string { data := #[89] }, .slice a2 n2 c2] 180))) := HB.out.alloc HB.out.size _
  have HEn : Hid (EnvX (wl1.alloc (.cells #[.string { data := #[89] }, .slice a2 n2 c2] 180)) aL aN aG aE aR) := HE.out.below ((Below.refl _ _).alloc (Nat.le_refl _) _)
  have HVn : Hid (Lies (wl1.alloc (.cells #[.string { data := #[89] }, .slice a2 n2 c2] 180)) wl1.heap.size [.string { data := #[89] }, .slice a2 n2 c2]) := lies_new _ _ _
  have f0 : (wl1.alloc (.cells #[.string { data := #[89] }, .slice a2 n2 c2] 180)).cell? ⟨w.heap.size, 0, none⟩ = some (.int .i64 (N : Int)) := HFn.out.at 0
  have hcf := implBelow_any 3 (N : Int) (wl1.alloc (.cells #[.string { data := #[89] }, .slice a2 n2 c2] 180)) (H2.out.below HBn.out)
  rw [Q2.out] at hcf
  rw [rounds_succ]
  go_wp2_with fail
  refine hcf.mono ?_
  rintro e wl2 ⟨rfl, hb⟩
  generalize (wl1.alloc (.cells #[.string { data := #[89] }, .slice a2 n2 c2] 180)) = wv at HFn HLn HBn HEn HVn hb hcf f0 ⊢
  generalize wl1.heap.size = vb at HVn ⊢
  clear x0 x1 HF HLL HB HE hcf f0
  have HF : Hid (Lies wl2 w.heap.size [.int .i64 (N : Int), .int .i64 1, .int .i64 (M.root (N : Int)), .int .i64 (4 * (N : Int)), .int .i64 3, .int .i64 (M.root (4 * (N : Int))), .int .i64 (M.lst N)]) := HFn.out.belowS hb
  have HLL : Hid (Lies wl2 g [.string { data := #[88] }, .slice a1 n1 c1, .string { data := #[89] }, .slice a2 n2 c2, .string { data := #[81, 88] }, .slice a3 n3 c3, .string { data := #[81, 89] }, .slice a4 n4 c4]) := HLn.out.belowS hb
  have HB : Hid (Below w.heap.size w wl2) := HBn.out.trans (hb.mono HBn.out.size)
  have HE : Hid (EnvX wl2 aL aN aG aE aR) := HEn.out.below hb
  have y0 : wl2.cell? ⟨vb, 0, none⟩ = some (.string { data := #[89] }) := (HVn.out.belowS hb).at 0
  clear hb HFn HLn HBn HEn HVn
  cases o2 with
  | false =>
    have gG := HE.out.cG
    go_wp2_with fail
    refine (inPart_sent _ aG _ HE.out.env).mono ?_
    rintro e w9 ⟨rfl, hb9⟩
    have HB9 : Hid (Below w.heap.size w w9) := HB.out.trans (hb9.mono HB.out.size)
    clear hb9
    go_wp2
    go_ret
    exact ⟨.inr ⟨by simp, _, _, _, rfl⟩, HB9.out⟩
  | true =>
  clear y0
  go_wp2
  have x0 : wl2.cell? ⟨g, 4, none⟩ = some (.string { data := #[81, 88] }) := HLL.out.at 4
  have x1 : wl2.cell? ⟨g, 5, none⟩ = some (.slice a3 n3 c3) := HLL.out.at 5
  have HFn : Hid (Lies (wl2.alloc (.cells #[.string { data := #[81, 88] }, .slice a3 n3 c3] 180)) w.heap.size [.int .i64 (N : Int), .int .i64 1, .int .i64 (M.root (N : Int)), .int .i64 (4 * (N : Int)), .int .i64 3, .int .i64 (M.root (4 * (N : Int))), .int .i64 (M.lst N)]) := HF.out.alloc _
  have HLn : Hid (Lies (wl2.alloc (.cells #[.string { data := #[81, 88] }, .slice a3 n3 c3] 180)) g [.string { data := #[88] }, .slice a1 n1 c1, .string { data := #[89] }, .slice a2 n2 c2, .string { data := #[81, 88] }, .slice a3 n3 c3, .string { data := #[81, 89] }, .slice a4 n4 c4]) := HLL.out.alloc _
  have HBn : Hid (Below w.heap.size w (wl2.alloc (.cells #[.string { data := #[81, 88] }, .slice a3 n3 c3] 180))) := HB.out.alloc HB.out.size _
  have HEn : Hid (EnvX (wl2.alloc (.cells #[.string { data := #[81, 88] }, .slice a3 n3 c3] 180)) aL aN aG aE aR) := HE.out.below ((Below.refl _ _).alloc (Nat.le_refl _) _)
  have HVn : Hid (Lies (wl2.alloc (.cells #[.string { data := #[81, 88] }, .slice a3 n3 c3] 180)) wl2.heap.size [.string { data := #[81, 88] }, .slice a3 n3 c3]) := lies_new _ _ _
  have f0 : (wl2.alloc (.cells #[.string { data := #[81, 88] }, .slice a3 n3 c3] 180)).cell? ⟨w.heap.size, 0, none⟩ = some (.int .i64 (N : Int)) := HFn.out.at 0
  have hcf := implBelow_any 3 (N : Int) (wl2.alloc (.cells #[.string { data := #[81, 88] }, .slice a3 n3 c3] 180)) (H3.out.below HBn.out)
  rw [Q3.out] at hcf
  rw [rounds_succ]
  go_wp2_with fail
  refine hcf.mono ?_
  rintro e wl3 ⟨rfl, hb⟩
  generalize (wl2.alloc (.cells #[.string { data := #[81, 88] }, .slice a3 n3 c3] 180)) = wv at HFn HLn HBn HEn HVn hb hcf f0 ⊢
  generalize wl2.heap.size = vb at HVn ⊢
  clear x0 x1 HF HLL HB HE hcf f0
  have HF : Hid (Lies wl3 w.heap.size [.int .i64 (N : Int), .int .i64 1, .int .i64 (M.root (N : Int)), .int .i64 (4 * (N : Int)), .int .i64 3, .int .i64 (M.root (4 * (N : Int))), .int .i64 (M.lst N)]) := HFn.out.belowS hb
  have HLL : Hid (Lies wl3 g [.string { data := #[88] }, .slice a1 n1 c1, .string { data := #[89] }, .slice a2 n2 c2, .string { data := #[81, 88] }, .slice a3 n3 c3, .string { data := #[81, 89] }, .slice a4 n4 c4]) := HLn.out.belowS hb
  have HB : Hid (Below w.heap.size w wl3) := HBn.out.trans (hb.mono HBn.out.size)
  have HE : Hid (EnvX wl3 aL aN aG aE aR) := HEn.out.below hb
  have y0 : wl3.cell? ⟨vb, 0, none⟩ = some (.string { data := #[81, 88] }) := (HVn.out.belowS hb).at 0
  clear hb HFn HLn HBn HEn HVn
  cases o3 with
  | false =>
    have gG := HE.out.cG
    go_wp2_with fail
    refine (inPart_sent _ aG _ HE.out.env).mono ?_
    rintro e w9 ⟨rfl, hb9⟩
    have HB9 : Hid (Below w.heap.size w w9) := HB.out.trans (hb9.mono HB.out.size)
    clear hb9
    go_wp2
    go_ret
    exact ⟨.inr ⟨by simp, _, _, _, rfl⟩, HB9.out⟩
  | true =>
  clear y0
  go_wp2
  have x0 : wl3.cell? ⟨g, 6, none⟩ = some (.string { data := #[81, 89] }) := HLL.out.at 6
  have x1 : wl3.cell? ⟨g, 7, none⟩ = some (.slice a4 n4 c4) := HLL.out.at 7
  have HFn : Hid (Lies (wl3.alloc (.cells #[.string { data := #[81, 89] }, .slice a4 n4 c4] 180)) w.heap.size [.int .i64 (N : Int), .int .i64 1, .int .i64 (M.root (N : Int)), .int .i64 (4 * (N : Int)), .int .i64 3, .int .i64 (M.root (4 * (N : Int))), .int .i64 (M.lst N)]) := HF.out.alloc _
  have HLn : Hid (Lies (wl3.alloc (.cells #[.string { data := #[81, 89] }, .slice a4 n4 c4] 180)) g [.string { data := #[88] }, .slice a1 n1 c1, .string { data := #[89] }, .slice a2 n2 c2, .string { data := #[81, 88] }, .slice a3 n3 c3, .string { data := #[81, 89] }, .slice a4 n4 c4]) := HLL.out.alloc _
  have HBn : Hid (Below w.heap.size w (wl3.alloc (.cells #[.string { data := #[81, 89] }, .slice a4 n4 c4] 180))) := HB.out.alloc HB.out.size _
  have HEn : Hid (EnvX (wl3.alloc (.cells #[.string { data := #[81, 89] }, .slice a4 n4 c4] 180)) aL aN aG aE aR) := HE.out.below ((Below.refl _ _).alloc (Nat.le_refl _) _)
  have HVn : Hid (Lies (wl3.alloc (.cells #[.string { data := #[81, 89] }, .slice a4 n4 c4] 180)) wl3.heap.size [.string { data := #[81, 89] }, .slice a4 n4 c4]) := lies_new _ _ _
  have f0 : (wl3.alloc (.cells #[.string { data := #[81, 89] }, .slice a4 n4 c4] 180)).cell? ⟨w.heap.size, 0, none⟩ = some (.int .i64 (N : Int)) := HFn.out.at 0
  have hcf := implBelow_any 3 (N : Int) (wl3.alloc (.cells #[.string { data := #[81, 89] }, .slice a4 n4 c4] 180)) (H4.out.below HBn.out)
  rw [Q4.out] at hcf
  rw [rounds_succ]
  go_wp2_with fail
  refine hcf.mono ?_
  rintro e wl4 ⟨rfl, hb⟩
  generalize (wl3.alloc (.cells #[.string { data := #[81, 89] }, .slice a4 n4 c4] 180)) = wv at HFn HLn HBn HEn HVn hb hcf f0 ⊢
  generalize wl3.heap.size = vb at HVn ⊢
  clear x0 x1 HF HLL HB HE hcf f0
  have HF : Hid (Lies wl4 w.heap.size [.int .i64 (N : Int), .int .i64 1, .int .i64 (M.root (N : Int)), .int .i64 (4 * (N : Int)), .int .i64 3, .int .i64 (M.root (4 * (N : Int))), .int .i64 (M.lst N)]) := HFn.out.belowS hb
  have HLL : Hid (Lies wl4 g [.string { data := #[88] }, .slice a1 n1 c1, .string { data := #[89] }, .slice a2 n2 c2, .string { data := #[81, 88] }, .slice a3 n3 c3, .string { data := #[81, 89] }, .slice a4 n4 c4]) := HLn.out.belowS hb
  have HB : Hid (Below w.heap.size w wl4) := HBn.out.trans (hb.mono HBn.out.size)
  have HE : Hid (EnvX wl4 aL aN aG aE aR) := HEn.out.below hb
  have y0 : wl4.cell? ⟨vb, 0, none⟩ = some (.string { data := #[81, 89] }) := (HVn.out.belowS hb).at 0
  clear hb HFn HLn HBn HEn HVn
  cases o4 with
  | false =>
    have gG := HE.out.cG
    go_wp2_with fail
    refine (inPart_sent _ aG _ HE.out.env).mono ?_
    rintro e w9 ⟨rfl, hb9⟩
    have HB9 : Hid (Below w.heap.size w w9) := HB.out.trans (hb9.mono HB.out.size)
    clear hb9
    go_wp2
    go_ret
    exact ⟨.inr ⟨by simp, _, _, _, rfl⟩, HB9.out⟩
  | true =>
  clear y0
  go_wp2
  rw [rounds_succ]
  go_wp2
  go_ret
  exact ⟨.inl ⟨rfl, rfl⟩, HB.out⟩
def M.qk (zs ms : List Int) (N k : Nat) : Bool := (List.range k).all fun i => zs.getD i 0 * M.zer N i % 65537 == ms.getD i 0
theorem M.qk_succ (zs ms : List Int) (N k : Nat) : M.qk zs ms N (k + 1) = (M.qk zs ms N k && (zs.getD k 0 * M.zer N k % 65537 == ms.getD k 0)) := by
  unfold M.qk; rw [List.range_succ, List.all_append]; simp
theorem M.qk_no {zs ms : List Int} {N k n : Nat} (hk : k < n) (h : (zs.getD k 0 * M.zer N k % 65537 == ms.getD k 0) = false) : M.qk zs ms N n = false := by
  cases e : M.qk zs ms N n with
  | false => rfl
  | true =>
    unfold M.qk at e
    have := List.all_eq_true.1 e k (List.mem_range.2 hk)
    rw [h] at this; cases this
set_option maxHeartbeats 4000000 in
theorem quotientFault_any {a b : Option Addr} {c d : Nat} {zs ms : List Int} {aL aN aG aE aR : Addr} (N : Nat) (w : World) (h : M.rowsN N = true) (he : EnvX w aL aN aG aE aR) (hz : Sees w a (4 * N) c zs) (hm : Sees w b (4 * N) d ms) (az : M.allEl zs = true) :
    Calls Tryz.prog 127 #[frv N, .slice a (4 * N) c, .slice b (4 * N) d] w fun e w' => FP (M.qk zs ms N (4 * N)) e ∧ Below w.heap.size w w' := by
  have hb16 := M.rowsN_pos h
  obtain ⟨K, hK⟩ : ∃ K : Nat, K = 4 * N := ⟨_, rfl⟩
  have hKi : 4 * (N : Int) = (K : Int) := by omega
  have CZ := fun W => zeros_any N W h
  have CT : Hid (∀ i W, Calls Tryz.prog 115 #[.int .i64 (zs.getD i 0), .int .i64 (M.zer N i)] W fun e w' => e = .returned (.int .i64 (zs.getD i 0 * M.zer N i % 65537)) ∧ w' = W) := fun i W => times_any _ _ W (M.el_at az i).1 (M.el_at az i).2 (M.zer_bd N i).1 (M.zer_bd N i).2
  have HT : Hid (∀ k, k < K → (M.tab K (M.zer N)).getD k 0 = M.zer N k) := fun k hk => M.tab_get _ _ _ hk
  have HQ0 : Hid (M.qk zs ms N 0 = true) := rfl
  have HQS : Hid (∀ k, M.qk zs ms N k = true → (zs.getD k 0 * M.zer N k % 65537 == ms.getD k 0) = true → M.qk zs ms N (k + 1) = true) := fun k h1 h2 => by rw [M.qk_succ, h1, h2]; rfl
  have HQN : Hid (∀ k, k < K → (zs.getD k 0 * M.zer N k % 65537 == ms.getD k 0) = false → M.qk zs ms N K = false) := fun k h1 h2 => M.qk_no h1 h2
  unfold frv at CZ ⊢
  rw [hKi, ← hK] at CZ ⊢
  rw [← hK] at hz hm
  have hKb : K ≤ 64 := by omega
  generalize M.tab K (M.zer N) = G at CZ HT
  generalize M.root (N : Int) = R1 at CZ ⊢
  generalize M.root (K : Int) = R4 at CZ ⊢
  generalize M.lst N = la at CZ ⊢
  have HB0 : Hid (Below w.heap.size w (w.alloc (.cells #[.int .i64 (N : Int), .int .i64 1, .int .i64 R1, .int .i64 (K : Int), .int .i64 3, .int .i64 R4, .int .i64 la] 81))) := (Below.refl _ _).alloc (Nat.le_refl _) _
  have HZ0 : Hid (Sees w a K c zs) := hz
  have HM0 : Hid (Sees w b K d ms) := hm
  have HE0 : Hid (EnvX w aL aN aG aE aR) := he
  clear hz hm he az h hK hKi
  go_enter Tryz.func127, Tryz.ntmps127
  go_wp2_with fail
  refine (CZ _).mono ?_
  rintro e w1 ⟨za, zc, rfl, ho, hb⟩
  have HO : Hid (Sees w1 za K zc G) := ho.sees
  have HB : Hid (Below w.heap.size w w1) := HB0.out.trans (hb.mono HB0.out.size)
  have HZ : Hid (Sees w1 a K c zs) := HZ0.out.below HB.out
  have HM : Hid (Sees w1 b K d ms) := HM0.out.below HB.out
  have HE : Hid (EnvX w1 aL aN aG aE aR) := HE0.out.below HB.out
  clear ho hb HB0 HZ0 HM0 HE0 CZ
  go_wp2
  go_loopw [12] (fun i wr => ∃ k : Nat, k ≤ K ∧ i = .int .i64 k ∧ Below w1.heap.size w1 wr ∧ M.qk zs ms N k = true) (fun i _ => K - (intOf i).toNat)
  case atStart => exact ⟨0, by omega, rfl, Below.refl _ _, HQ0.out⟩
  case round =>
    obtain ⟨k, hk, rfl, hbk, hq⟩ := hrel
    have HQ : Hid (M.qk zs ms N k = true) := hq
    have HBk : Hid (Below w1.heap.size w1 wr) := hbk
    have HBw : Hid (Below w.heap.size w wr) := HB.out.trans (hbk.mono HB.out.size)
    clear hq hbk
    by_cases hlt : k < K
    · obtain ⟨b1, o1, rfl, hc1⟩ := (HO.out.below HBk.out).at (by omega)
      obtain ⟨b2, o2, rfl, hc2⟩ := (HZ.out.below HBk.out).at (by omega)
      obtain ⟨b3, o3, rfl, hc3⟩ := (HM.out.below HBk.out).at (by omega)
      have r1 := hc1 k hlt
      have r2 := hc2 k hlt
      have r3 := hc3 k hlt
      rw [HT.out k hlt] at r1
      have hI : (k : Int) < (K : Int) := by omega
      have hk0 : (0 : Int) ≤ (k : Int) := by omega
      have C1 := CT.out k
      have HS1 := HQS.out k
      have HS2 := HQN.out k hlt
      generalize zs.getD k 0 * M.zer N k % 65537 = pr at C1 HS1 HS2
      generalize zs.getD k 0 = zk at r2 C1
      generalize M.zer N k = ek at r1 C1
      generalize ms.getD k 0 = mk at r3 HS1 HS2
      have R2 : Hid (wr.cell? ⟨b2, o2 + k, none⟩ = some (.int .i64 zk)) := r2
      have R3 : Hid (wr.cell? ⟨b3, o3 + k, none⟩ = some (.int .i64 mk)) := r3
      have HS1' : Hid _ := HS1
      have HS2' : Hid _ := HS2
      clear hc1 hc2 hc3 r2 r3 HS1 HS2
      go_wp2_with fail
      refine wp_region_noPanic ?_
      refine wp_region_held_drew (S := fun W => wr.grownBy W none) (by kernel_rfl) (grown_drew _ _) (fun hHeld => ?_)
      generalize wr.drew = wd0 at hHeld ⊢
      refine wpAnyH_take (i := 0) (v := .slice (some ⟨b2, o2, none⟩) K c) rfl (by kernel_rfl) (by kernel_rfl) (by kernel_rfl) (fun _ _ _ h => h) (Or.inl ⟨by kernel_rfl, ?_⟩) (by assumption) ?_
      · intro wq hSq; go_simp
      try simp only [Act.put]
      refine wpAnyH_take (i := 1) (v := .int .i64 (k : Int)) rfl (by kernel_rfl) (by kernel_rfl) (by kernel_rfl) (fun _ _ _ h => h) (Or.inl ⟨by kernel_rfl, ?_⟩) (by assumption) ?_
      · intro wq hSq; go_simp
      try simp only [Act.put]
      refine wpAnyH_take (i := 2) (v := .pointer (some ⟨b2, o2 + k, none⟩)) rfl (by kernel_rfl) (by kernel_rfl) (by kernel_rfl) (fun _ _ _ h => h) (Or.inl ⟨by kernel_rfl, ?_⟩) (by assumption) ?_
      · intro wq hSq; go_simp
      try simp only [Act.put]
      refine wpAnyH_take (i := 3) (v := .int .i64 zk) rfl (by kernel_rfl) (by kernel_rfl) (by kernel_rfl) (fun _ _ _ h => h) (Or.inl ⟨by kernel_rfl, ?_⟩) (by assumption) ?_
      · intro wp hSp; have c0 : wp.cell? ⟨b2, o2 + k, none⟩ = some (.int .i64 zk) := hSp.cell R2.out (by simp); go_simp
      try simp only [Act.put]
      refine wpAnyH_take (i := 4) (v := .int .i64 ek) rfl (by kernel_rfl) (by kernel_rfl) (by kernel_rfl) (fun _ _ _ h => h) (Or.inl ⟨by kernel_rfl, ?_⟩) (by assumption) ?_
      · intro wq hSq; go_simp
      try simp only [Act.put]
      refine wpAnyH_take (i := 6) (v := .slice (some ⟨b3, o3, none⟩) K d) rfl (by kernel_rfl) (by kernel_rfl) (by kernel_rfl) (fun _ _ _ h => h) (Or.inl ⟨by kernel_rfl, ?_⟩) (by assumption) ?_
      · intro wq hSq; go_simp
      try simp only [Act.put]
      refine wpAnyH_take (i := 7) (v := .int .i64 (k : Int)) rfl (by kernel_rfl) (by kernel_rfl) (by kernel_rfl) (fun _ _ _ h => h) (Or.inl ⟨by kernel_rfl, ?_⟩) (by assumption) ?_
      · intro wq hSq; go_simp
      try simp only [Act.put]
      refine wpAnyH_take (i := 8) (v := .pointer (some ⟨b3, o3 + k, none⟩)) rfl (by kernel_rfl) (by kernel_rfl) (by kernel_rfl) (fun _ _ _ h => h) (Or.inl ⟨by kernel_rfl, ?_⟩) (by assumption) ?_
      · intro wq hSq; go_simp
      try simp only [Act.put]
      refine wpAnyH_take (i := 9) (v := .int .i64 mk) rfl (by kernel_rfl) (by kernel_rfl) (by kernel_rfl) (fun _ _ _ h => h) (Or.inl ⟨by kernel_rfl, ?_⟩) (by assumption) ?_
      · intro wp hSp; have c0 : wp.cell? ⟨b3, o3 + k, none⟩ = some (.int .i64 mk) := hSp.cell R3.out (by simp); go_simp
      try simp only [Act.put]
      refine wpAnyH_ready (rs := [5]) (by kernel_rfl) (by simp) ?_
      refine AllReadyH.cons rfl (fun Kk hK => ?_) AllReadyH.nil
      go_simp
      refine (C1 _).mono ?_
      rintro e wn ⟨rfl, rfl⟩
      go_simp
      refine hK.out _ _ (by assumption) (fun hHeld1 => ?_)
      clear hK Kk
      try simp only [Act.put]
      refine wpAnyH_take (i := 10) (v := .bool (pr != mk)) rfl (by kernel_rfl) (by kernel_rfl) (by kernel_rfl) (fun _ _ _ h => h) (Or.inl ⟨by kernel_rfl, ?_⟩) (by assumption) ?_
      · intro wq hSq; go_simp
      try simp only [Act.put]
      refine wpAnyH_done (by kernel_rfl) ?_ _
      refine NoPanic.normal ?_
      go_simp
      have HBd : Hid (Below w1.heap.size w1 wn) := HBk.out.grown hHeld HBk.out.size (by simp)
      have HBe : Hid (Below w.heap.size w wn) := HBw.out.grown hHeld HBw.out.size (by simp)
      clear hHeld1 hHeld
      cases hd : (pr == mk) with
      | true =>
        have hne : (pr != mk) = false := by simp [bne, hd]
        have HN1 : Hid (M.qk zs ms N (k + 1) = true) := HS1'.out HQ.out hd
        clear HS1' HS2' hd
        go_wp2
        go_roundw
        case rel => exact ⟨k + 1, by omega, by go_num, HBd.out, HN1.out⟩
        case measure => simp [intOf]; omega
      | false =>
        have hne : (pr != mk) = true := by simp [bne, hd]
        have HN1 : Hid (M.qk zs ms N K = false) := HS2'.out hd
        have gR := (HE.out.below HBd.out).cR
        clear HS1' HS2' hd
        go_wp2
        go_ret
        exact ⟨.inr ⟨HN1.out, _, _, _, rfl⟩, HBe.out⟩
    · have hkn : k = K := by omega
      subst hkn
      go_wp2
      go_ret
      exact ⟨.inl ⟨HQ.out, rfl⟩, HBw.out⟩
set_option maxHeartbeats 4000000 in
theorem endFault_any {a b : Option Addr} {n m c d : Nat} {zs ms : List Int} {aL aN aG aE aR : Addr} (s1 s2 e1 e2 : Int) (N : Nat) (w : World) (he : EnvX w aL aN aG aE aR) (hz : Sees w a n c zs) (hm : Sees w b m d ms) (az : M.allEl zs = true) (am : M.allEl ms = true) :
    Calls Tryz.prog 126 #[frv N, .slice a n c, .slice b m d, .agg #[.int .i64 s1, .int .i64 s2], .agg #[.int .i64 e1, .int .i64 e2]] w fun e w' => FP ((decide (M.ev zs 1 = s1) && decide (M.ev ms 1 = s2)) && (decide (M.ev zs (M.lst N) = e1) && decide (M.ev ms (M.lst N) = e2))) e ∧ Below w.heap.size w w' := by
  have hl := (M.el_iff _).1 (M.el_lst N)
  have CX1 : ∀ W, Sees W a n c zs → Calls Tryz.prog 143 #[.slice a n c, .int .i64 1] W fun e w' => e = .returned (.int .i64 (M.ev zs 1)) ∧ Below W.heap.size W w' := fun W hW => polyAt_any 1 W hW az (by omega) (by omega)
  have CY1 : ∀ W, Sees W b m d ms → Calls Tryz.prog 143 #[.slice b m d, .int .i64 1] W fun e w' => e = .returned (.int .i64 (M.ev ms 1)) ∧ Below W.heap.size W w' := fun W hW => polyAt_any 1 W hW am (by omega) (by omega)
  have CX2 : ∀ W, Sees W a n c zs → Calls Tryz.prog 143 #[.slice a n c, .int .i64 (M.lst N)] W fun e w' => e = .returned (.int .i64 (M.ev zs (M.lst N))) ∧ Below W.heap.size W w' := fun W hW => polyAt_any _ W hW az hl.1 hl.2
  have CY2 : ∀ W, Sees W b m d ms → Calls Tryz.prog 143 #[.slice b m d, .int .i64 (M.lst N)] W fun e w' => e = .returned (.int .i64 (M.ev ms (M.lst N))) ∧ Below W.heap.size W w' := fun W hW => polyAt_any _ W hW am hl.1 hl.2
  unfold frv
  generalize M.ev zs 1 = x1 at CX1 ⊢
  generalize M.ev ms 1 = y1 at CY1 ⊢
  generalize M.ev zs (M.lst N) = x2 at CX2 ⊢
  generalize M.ev ms (M.lst N) = y2 at CY2 ⊢
  generalize M.lst N = la at CX2 CY2 ⊢
  generalize M.root (N : Int) = R1
  generalize M.root (4 * (N : Int)) = R4
  generalize 4 * (N : Int) = N4
  have HB00 : Below w.heap.size w (((w.alloc (.cells #[.int .i64 (N : Int), .int .i64 1, .int .i64 R1, .int .i64 N4, .int .i64 3, .int .i64 R4, .int .i64 la] 81)).alloc (.cells #[.int .i64 s1, .int .i64 s2] 29)).alloc (.cells #[.int .i64 e1, .int .i64 e2] 29)) := (((Below.refl _ _).alloc (Nat.le_refl _) _).alloc (by simp) _).alloc (by simp; omega) _
  have HF_0 : Hid (Lies (((w.alloc (.cells #[.int .i64 (N : Int), .int .i64 1, .int .i64 R1, .int .i64 N4, .int .i64 3, .int .i64 R4, .int .i64 la] 81)).alloc (.cells #[.int .i64 s1, .int .i64 s2] 29)).alloc (.cells #[.int .i64 e1, .int .i64 e2] 29)) w.heap.size [.int .i64 (N : Int), .int .i64 1, .int .i64 R1, .int .i64 N4, .int .i64 3, .int .i64 R4, .int .i64 la]) := ((lies_new _ _ _).alloc _).alloc _
  have HS_0 : Hid (Lies (((w.alloc (.cells #[.int .i64 (N : Int), .int .i64 1, .int .i64 R1, .int .i64 N4, .int .i64 3, .int .i64 R4, .int .i64 la] 81)).alloc (.cells #[.int .i64 s1, .int .i64 s2] 29)).alloc (.cells #[.int .i64 e1, .int .i64 e2] 29)) (w.heap.size + 1) [.int .i64 s1, .int .i64 s2]) := (lies_new2 _ _ _ _).alloc _
  have HN_0 : Hid (Lies (((w.alloc (.cells #[.int .i64 (N : Int), .int .i64 1, .int .i64 R1, .int .i64 N4, .int .i64 3, .int .i64 R4, .int .i64 la] 81)).alloc (.cells #[.int .i64 s1, .int .i64 s2] 29)).alloc (.cells #[.int .i64 e1, .int .i64 e2] 29)) (w.heap.size + 1 + 1) [.int .i64 e1, .int .i64 e2]) := lies_new3 _ _ _ _ _
  have HB_0 : Hid (Below w.heap.size w (((w.alloc (.cells #[.int .i64 (N : Int), .int .i64 1, .int .i64 R1, .int .i64 N4, .int .i64 3, .int .i64 R4, .int .i64 la] 81)).alloc (.cells #[.int .i64 s1, .int .i64 s2] 29)).alloc (.cells #[.int .i64 e1, .int .i64 e2] 29))) := HB00
  have HE_0 : Hid (EnvX (((w.alloc (.cells #[.int .i64 (N : Int), .int .i64 1, .int .i64 R1, .int .i64 N4, .int .i64 3, .int .i64 R4, .int .i64 la] 81)).alloc (.cells #[.int .i64 s1, .int .i64 s2] 29)).alloc (.cells #[.int .i64 e1, .int .i64 e2] 29)) aL aN aG aE aR) := he.below HB00
  have SX_0 : Hid (Sees (((w.alloc (.cells #[.int .i64 (N : Int), .int .i64 1, .int .i64 R1, .int .i64 N4, .int .i64 3, .int .i64 R4, .int .i64 la] 81)).alloc (.cells #[.int .i64 s1, .int .i64 s2] 29)).alloc (.cells #[.int .i64 e1, .int .i64 e2] 29)) a n c zs) := hz.below HB00
  have SY_0 : Hid (Sees (((w.alloc (.cells #[.int .i64 (N : Int), .int .i64 1, .int .i64 R1, .int .i64 N4, .int .i64 3, .int .i64 R4, .int .i64 la] 81)).alloc (.cells #[.int .i64 s1, .int .i64 s2] 29)).alloc (.cells #[.int .i64 e1, .int .i64 e2] 29)) b m d ms) := hm.below HB00
  clear HB00 he hz hm az am hl
  go_enter Tryz.func126, Tryz.ntmps126
  go_wp2_with fail
  generalize (((w.alloc (.cells #[.int .i64 (N : Int), .int .i64 1, .int .i64 R1, .int .i64 N4, .int .i64 3, .int .i64 R4, .int .i64 la] 81)).alloc (.cells #[.int .i64 s1, .int .i64 s2] 29)).alloc (.cells #[.int .i64 e1, .int .i64 e2] 29)) = wq at HF_0 HS_0 HN_0 HB_0 HE_0 SX_0 SY_0 ⊢
  refine wp_region_noPanic ?_
  refine wp_region_held_drew (S := fun W => wq.grownBy W none) (by kernel_rfl) (grown_drew _ _) (fun hHeld => ?_)
  generalize wq.drew = wd0 at hHeld ⊢
  have HX0 : Hid (Below wq.heap.size wq wd0) := ⟨hHeld.os, hHeld.tape, hHeld.output, hHeld.size, fun k hk => hHeld.block k hk (by simp)⟩
  refine wpAnyH_take (i := 0) (v := .slice a n c) rfl (by kernel_rfl) (by kernel_rfl) (by kernel_rfl) (fun _ _ _ h => h) (Or.inl ⟨by kernel_rfl, ?_⟩) (by assumption) ?_
  · intro wq hSq; go_simp
  try simp only [Act.put]
  refine wpAnyH_take (i := 2) (v := .slice b m d) rfl (by kernel_rfl) (by kernel_rfl) (by kernel_rfl) (fun _ _ _ h => h) (Or.inl ⟨by kernel_rfl, ?_⟩) (by assumption) ?_
  · intro wq hSq; go_simp
  try simp only [Act.put]
  refine wpAnyH_take (i := 6) (v := .agg #[.int .i64 s1, .int .i64 s2]) rfl (by kernel_rfl) (by kernel_rfl) (by kernel_rfl) (fun _ _ _ h => h) (Or.inl ⟨by kernel_rfl, ?_⟩) (by assumption) ?_
  · intro wp hSp; have c0 : wp.cell? ⟨w.heap.size + 1, 0, none⟩ = some (.int .i64 s1) := (HS_0.out.grown hSp (by simp)).at 0; have c1 : wp.cell? ⟨w.heap.size + 1, 1, none⟩ = some (.int .i64 s2) := (HS_0.out.grown hSp (by simp)).at 1; go_simp
  try simp only [Act.put]
  refine wpAnyH_ready (rs := [1]) (by kernel_rfl) (by simp) ?_
  refine AllReadyH.cons rfl (fun Kk hK => ?_) AllReadyH.nil
  go_simp
  refine (CX1 _ (SX_0.out.below HX0.out)).mono ?_
  rintro e wd1 ⟨rfl, hb1⟩
  go_simp
  have hS1 : wq.grownBy wd1 none := grown_step hHeld hb1
  have HX1 : Hid (Below wq.heap.size wq wd1) := ⟨hS1.os, hS1.tape, hS1.output, hS1.size, fun k hk => hS1.block k hk (by simp)⟩
  refine hK.out _ _ hS1 (fun _ => ?_)
  clear hK Kk hb1
  try simp only [Act.put]
  refine wpAnyH_ready (rs := [3]) (by kernel_rfl) (by simp) ?_
  refine AllReadyH.cons rfl (fun Kk hK => ?_) AllReadyH.nil
  go_simp
  refine (CY1 _ (SY_0.out.below HX1.out)).mono ?_
  rintro e wd2 ⟨rfl, hb2⟩
  go_simp
  have hS2 : wq.grownBy wd2 none := grown_step hS1 hb2
  refine hK.out _ _ hS2 (fun _ => ?_)
  clear hK Kk hb2
  try simp only [Act.put]
  refine wpAnyH_take (i := 4) (v := .agg #[.int .i64 x1, .int .i64 y1]) rfl (by kernel_rfl) (by kernel_rfl) (by kernel_rfl) (fun _ _ _ h => h) (Or.inl ⟨by kernel_rfl, ?_⟩) (by assumption) ?_
  · intro wq hSq; go_simp
  try simp only [Act.put]
  refine wpAnyH_ready (rs := [5]) (by kernel_rfl) (by simp) ?_
  refine AllReadyH.cons rfl (fun Kk hK => ?_) AllReadyH.nil
  go_simp
  refine (state_any (x1, y1) _).mono ?_
  rintro e wd3 ⟨rfl, hb3⟩
  go_simp
  have hS3 : wq.grownBy wd3 none := grown_step hS2 hb3
  have HX3 : Hid (Below wq.heap.size wq wd3) := ⟨hS3.os, hS3.tape, hS3.output, hS3.size, fun k hk => hS3.block k hk (by simp)⟩
  refine hK.out _ _ hS3 (fun _ => ?_)
  clear hK Kk hb3
  try simp only [Act.put]
  refine wpAnyH_take (i := 7) (v := .bool (!(decide (x1 = s1) && decide (y1 = s2)))) rfl (by kernel_rfl) (by kernel_rfl) (by kernel_rfl) (fun _ _ _ h => h) (Or.inl ⟨by kernel_rfl, ?_⟩) (by assumption) ?_
  · intro wp hSp; dsimp only [stv]; go_simp; by_cases hx : x1 = s1 <;> by_cases hy : y1 = s2 <;> simp [hx, hy]
  try simp only [Act.put]
  refine wpAnyH_done (by kernel_rfl) ?_ _
  refine NoPanic.normal ?_
  go_simp
  have HF_1 : Hid (Lies wd3 w.heap.size [.int .i64 (N : Int), .int .i64 1, .int .i64 R1, .int .i64 N4, .int .i64 3, .int .i64 R4, .int .i64 la]) := HF_0.out.belowS HX3.out
  have HS_1 : Hid (Lies wd3 (w.heap.size + 1) [.int .i64 s1, .int .i64 s2]) := HS_0.out.belowS HX3.out
  have HN_1 : Hid (Lies wd3 (w.heap.size + 1 + 1) [.int .i64 e1, .int .i64 e2]) := HN_0.out.belowS HX3.out
  have HB_1 : Hid (Below w.heap.size w wd3) := HB_0.out.trans (HX3.out.mono HB_0.out.size)
  have HE_1 : Hid (EnvX wd3 aL aN aG aE aR) := HE_0.out.below HX3.out
  have SX_1 : Hid (Sees wd3 a n c zs) := SX_0.out.below HX3.out
  have SY_1 : Hid (Sees wd3 b m d ms) := SY_0.out.below HX3.out
  clear HF_0 HS_0 HN_0 HB_0 HE_0 SX_0 SY_0
  cases hd : (!decide (x1 = s1) || !decide (y1 = s2)) with
  | true =>
    have gE := HE_1.out.cE
    go_wp2_with fail
    refine (inPart_sent _ aE _ HE_1.out.env).mono ?_
    rintro e w9 ⟨rfl, hb9⟩
    have HB9 : Hid (Below w.heap.size w w9) := HB_1.out.trans (hb9.mono HB_1.out.size)
    clear hb9
    go_wp2
    go_ret
    refine ⟨.inr ⟨?_, _, _, _, rfl⟩, HB9.out⟩
    cases h1 : decide (x1 = s1) <;> cases h2 : decide (y1 = s2) <;> simp_all
  | false =>
  have HD1 : Hid ((decide (x1 = s1) && decide (y1 = s2)) = true) := by show _ = _; cases h1 : decide (x1 = s1) <;> cases h2 : decide (y1 = s2) <;> simp_all
  go_wp2_with fail
  generalize wd3 = wq at HF_1 HS_1 HN_1 HB_1 HE_1 SX_1 SY_1 ⊢
  refine wp_region_noPanic ?_
  refine wp_region_held_drew (S := fun W => wq.grownBy W none) (by kernel_rfl) (grown_drew _ _) (fun hHeld => ?_)
  generalize wq.drew = wd0 at hHeld ⊢
  have HX0 : Hid (Below wq.heap.size wq wd0) := ⟨hHeld.os, hHeld.tape, hHeld.output, hHeld.size, fun k hk => hHeld.block k hk (by simp)⟩
  refine wpAnyH_take (i := 0) (v := .slice a n c) rfl (by kernel_rfl) (by kernel_rfl) (by kernel_rfl) (fun _ _ _ h => h) (Or.inl ⟨by kernel_rfl, ?_⟩) (by assumption) ?_
  · intro wq hSq; go_simp
  try simp only [Act.put]
  refine wpAnyH_take (i := 4) (v := .slice b m d) rfl (by kernel_rfl) (by kernel_rfl) (by kernel_rfl) (fun _ _ _ h => h) (Or.inl ⟨by kernel_rfl, ?_⟩) (by assumption) ?_
  · intro wq hSq; go_simp
  try simp only [Act.put]
  refine wpAnyH_take (i := 1) (v := .pointer (some ⟨w.heap.size, 6, none⟩)) rfl (by kernel_rfl) (by kernel_rfl) (by kernel_rfl) (fun _ _ _ h => h) (Or.inl ⟨by kernel_rfl, ?_⟩) (by assumption) ?_
  · intro wq hSq; go_simp
  try simp only [Act.put]
  refine wpAnyH_take (i := 5) (v := .pointer (some ⟨w.heap.size, 6, none⟩)) rfl (by kernel_rfl) (by kernel_rfl) (by kernel_rfl) (fun _ _ _ h => h) (Or.inl ⟨by kernel_rfl, ?_⟩) (by assumption) ?_
  · intro wq hSq; go_simp
  try simp only [Act.put]
  refine wpAnyH_take (i := 2) (v := .int .i64 la) rfl (by kernel_rfl) (by kernel_rfl) (by kernel_rfl) (fun _ _ _ h => h) (Or.inl ⟨by kernel_rfl, ?_⟩) (by assumption) ?_
  · intro wp hSp; have c6 : wp.cell? ⟨w.heap.size, 6, none⟩ = some (.int .i64 la) := (HF_1.out.grown hSp (by simp)).at 6; go_simp
  try simp only [Act.put]
  refine wpAnyH_take (i := 6) (v := .int .i64 la) rfl (by kernel_rfl) (by kernel_rfl) (by kernel_rfl) (fun _ _ _ h => h) (Or.inl ⟨by kernel_rfl, ?_⟩) (by assumption) ?_
  · intro wp hSp; have c6 : wp.cell? ⟨w.heap.size, 6, none⟩ = some (.int .i64 la) := (HF_1.out.grown hSp (by simp)).at 6; go_simp
  try simp only [Act.put]
  refine wpAnyH_take (i := 10) (v := .agg #[.int .i64 e1, .int .i64 e2]) rfl (by kernel_rfl) (by kernel_rfl) (by kernel_rfl) (fun _ _ _ h => h) (Or.inl ⟨by kernel_rfl, ?_⟩) (by assumption) ?_
  · intro wp hSp; have c0 : wp.cell? ⟨w.heap.size + 1 + 1, 0, none⟩ = some (.int .i64 e1) := (HN_1.out.grown hSp (by simp)).at 0; have c1 : wp.cell? ⟨w.heap.size + 1 + 1, 1, none⟩ = some (.int .i64 e2) := (HN_1.out.grown hSp (by simp)).at 1; go_simp
  try simp only [Act.put]
  refine wpAnyH_ready (rs := [3]) (by kernel_rfl) (by simp) ?_
  refine AllReadyH.cons rfl (fun Kk hK => ?_) AllReadyH.nil
  go_simp
  refine (CX2 _ (SX_1.out.below HX0.out)).mono ?_
  rintro e wd1 ⟨rfl, hb1⟩
  go_simp
  have hS1 : wq.grownBy wd1 none := grown_step hHeld hb1
  have HX1 : Hid (Below wq.heap.size wq wd1) := ⟨hS1.os, hS1.tape, hS1.output, hS1.size, fun k hk => hS1.block k hk (by simp)⟩
  refine hK.out _ _ hS1 (fun _ => ?_)
  clear hK Kk hb1
  try simp only [Act.put]
  refine wpAnyH_ready (rs := [7]) (by kernel_rfl) (by simp) ?_
  refine AllReadyH.cons rfl (fun Kk hK => ?_) AllReadyH.nil
  go_simp
  refine (CY2 _ (SY_1.out.below HX1.out)).mono ?_
  rintro e wd2 ⟨rfl, hb2⟩
  go_simp
  have hS2 : wq.grownBy wd2 none := grown_step hS1 hb2
  refine hK.out _ _ hS2 (fun _ => ?_)
  clear hK Kk hb2
  try simp only [Act.put]
  refine wpAnyH_take (i := 8) (v := .agg #[.int .i64 x2, .int .i64 y2]) rfl (by kernel_rfl) (by kernel_rfl) (by kernel_rfl) (fun _ _ _ h => h) (Or.inl ⟨by kernel_rfl, ?_⟩) (by assumption) ?_
  · intro wq hSq; go_simp
  try simp only [Act.put]
  refine wpAnyH_ready (rs := [9]) (by kernel_rfl) (by simp) ?_
  refine AllReadyH.cons rfl (fun Kk hK => ?_) AllReadyH.nil
  go_simp
  refine (state_any (x2, y2) _).mono ?_
  rintro e wd3 ⟨rfl, hb3⟩
  go_simp
  have hS3 : wq.grownBy wd3 none := grown_step hS2 hb3
  have HX3 : Hid (Below wq.heap.size wq wd3) := ⟨hS3.os, hS3.tape, hS3.output, hS3.size, fun k hk => hS3.block k hk (by simp)⟩
  refine hK.out _ _ hS3 (fun _ => ?_)
  clear hK Kk hb3
  try simp only [Act.put]
  refine wpAnyH_take (i := 11) (v := .bool (!(decide (x2 = e1) && decide (y2 = e2)))) rfl (by kernel_rfl) (by kernel_rfl) (by kernel_rfl) (fun _ _ _ h => h) (Or.inl ⟨by kernel_rfl, ?_⟩) (by assumption) ?_
  · intro wp hSp; dsimp only [stv]; go_simp; by_cases hx : x2 = e1 <;> by_cases hy : y2 = e2 <;> simp [hx, hy]
  try simp only [Act.put]
  refine wpAnyH_done (by kernel_rfl) ?_ _
  refine NoPanic.normal ?_
  go_simp
  have HF_2 : Hid (Lies wd3 w.heap.size [.int .i64 (N : Int), .int .i64 1, .int .i64 R1, .int .i64 N4, .int .i64 3, .int .i64 R4, .int .i64 la]) := HF_1.out.belowS HX3.out
  have HS_2 : Hid (Lies wd3 (w.heap.size + 1) [.int .i64 s1, .int .i64 s2]) := HS_1.out.belowS HX3.out
  have HN_2 : Hid (Lies wd3 (w.heap.size + 1 + 1) [.int .i64 e1, .int .i64 e2]) := HN_1.out.belowS HX3.out
  have HB_2 : Hid (Below w.heap.size w wd3) := HB_1.out.trans (HX3.out.mono HB_1.out.size)
  have HE_2 : Hid (EnvX wd3 aL aN aG aE aR) := HE_1.out.below HX3.out
  have SX_2 : Hid (Sees wd3 a n c zs) := SX_1.out.below HX3.out
  have SY_2 : Hid (Sees wd3 b m d ms) := SY_1.out.below HX3.out
  clear HF_1 HS_1 HN_1 HB_1 HE_1 SX_1 SY_1
  cases hd : (!decide (x2 = e1) || !decide (y2 = e2)) with
  | true =>
    have gE := HE_2.out.cE
    go_wp2_with fail
    refine (inPart_sent _ aE _ HE_2.out.env).mono ?_
    rintro e w9 ⟨rfl, hb9⟩
    have HB9 : Hid (Below w.heap.size w w9) := HB_2.out.trans (hb9.mono HB_2.out.size)
    clear hb9
    go_wp2
    go_ret
    refine ⟨.inr ⟨?_, _, _, _, rfl⟩, HB9.out⟩
    cases h1 : decide (x2 = e1) <;> cases h2 : decide (y2 = e2) <;> simp_all
  | false =>
  have HD2 : Hid ((decide (x2 = e1) && decide (y2 = e2)) = true) := by show _ = _; cases h1 : decide (x2 = e1) <;> cases h2 : decide (y2 = e2) <;> simp_all
  go_wp2
  go_ret
  exact ⟨.inl ⟨by rw [HD1.out, HD2.out]; rfl, rfl⟩, HB_2.out⟩
end Go.Proofs.YtbcfjbkmkknmfaaGreatDoor
namespace Go.Proofs.YtbcfjbkmkknmfaaGreatDoor
open Go.RowKit Go.Extern.Stop Go.Stop Go.Extern

theorem M.qk_x (m : M.Mc) (X Y Q : List Int) (N : Nat) : M.qk Q (M.fsts (M.tabP (4 * N) (M.missAt m (M.zipP X Y (4 * N)) N))) N (4 * N) = M.qOk m.X X Y X Q N (4 * N) := by
  have e : ∀ i, i < 4 * N → (M.fsts (M.tabP (4 * N) (M.missAt m (M.zipP X Y (4 * N)) N))).getD i 0 = M.mis m.X X Y X N i := fun i hi => by rw [M.fsts_get, M.tabP_get _ hi, M.missAt_fst m X Y hi]
  unfold M.qk M.qOk
  rw [Bool.eq_iff_iff, List.all_eq_true, List.all_eq_true]
  constructor
  · intro h i hi
    have := h i hi
    rw [e i (List.mem_range.1 hi)] at this; exact this
  · intro h i hi
    rw [e i (List.mem_range.1 hi)]; exact h i hi
theorem M.qk_y (m : M.Mc) (X Y Q : List Int) (N : Nat) : M.qk Q (M.snds (M.tabP (4 * N) (M.missAt m (M.zipP X Y (4 * N)) N))) N (4 * N) = M.qOk m.Y X Y Y Q N (4 * N) := by
  have e : ∀ i, i < 4 * N → (M.snds (M.tabP (4 * N) (M.missAt m (M.zipP X Y (4 * N)) N))).getD i 0 = M.mis m.Y X Y Y N i := fun i hi => by rw [M.snds_get, M.tabP_get _ hi, M.missAt_snd m X Y hi]
  unfold M.qk M.qOk
  rw [Bool.eq_iff_iff, List.all_eq_true, List.all_eq_true]
  constructor
  · intro h i hi
    have := h i hi
    rw [e i (List.mem_range.1 hi)] at this; exact this
  · intro h i hi
    rw [e i (List.mem_range.1 hi)]; exact h i hi
/-- the value of a fault: nil just where all is right -/
def FV (ok : Bool) (v : Value) : Prop := (ok = true ∧ v = .nilIface) ∨ (ok = false ∧ ∃ s p a, v = rfv s p a)
theorem FP.val {ok : Bool} {e : Ending} {w w' : World} (h : FP ok e ∧ Below w.heap.size w w') : ∃ v, e = .returned v ∧ FV ok v ∧ Below w.heap.size w w' := by
  obtain ⟨⟨h1, h2⟩ | ⟨h1, s, p, a, h2⟩, hb⟩ := h
  · exact ⟨_, h2, .inl ⟨h1, rfl⟩, hb⟩
  · exact ⟨_, h2, .inr ⟨h1, s, p, a, rfl⟩, hb⟩
theorem inPart_nil (s : ByteArray) (w : World) : Calls Tryz.prog 104 #[.string s, .nilIface] w fun e w' => e = .returned .nilIface ∧ Below w.heap.size w w' := by
  go_enter Tryz.func104, Tryz.ntmps104
  go_wp2
  go_ret
  first | exact ⟨rfl, Below.refl _ _⟩ | exact ⟨rfl, (Below.refl _ _).alloc (Nat.le_refl _) _⟩
theorem inPart_val {aL aN : Addr} (s : ByteArray) {ok : Bool} {v : Value} (hv : FV ok v) (w : World) (he : Env w aL aN) : Calls Tryz.prog 104 #[.string s, v] w fun e w' => ∃ v', e = .returned v' ∧ FV ok v' ∧ Below w.heap.size w w' := by
  rcases hv with ⟨h1, rfl⟩ | ⟨h1, s0, p, a, rfl⟩
  · exact (inPart_nil s w).mono fun e w' ⟨h, hb⟩ => ⟨_, h, .inl ⟨h1, rfl⟩, hb⟩
  · exact (inPart_ref s s0 p a w he).mono fun e w' ⟨h, hb⟩ => ⟨_, h, .inr ⟨h1, _, _, _, rfl⟩, hb⟩
set_option maxHeartbeats 8000000 in
set_option maxRecDepth 10000 in
theorem faultOf_any {a1 a2 a3 a4 : Option Addr} {c1 c2 c3 c4 : Nat} {z1 z2 z3 z4 : List Int} {aL aN aG aE aR : Addr} (m : M.Mc) (s1 s2 e1 e2 : Int) (N : Nat) (w : World) (h : M.rowsN N = true) (hm : m.ok = true) (he : EnvX w aL aN aG aE aR) (h1 : Sees w a1 (4 * N) c1 z1) (h2 : Sees w a2 (4 * N) c2 z2) (h3 : Sees w a3 (4 * N) c3 z3) (h4 : Sees w a4 (4 * N) c4 z4) (ha1 : M.allEl z1 = true) (ha2 : M.allEl z2 = true) (ha3 : M.allEl z3 = true) (ha4 : M.allEl z4 = true) :
    Calls Tryz.prog 105 #[frv N, .iface 133 (mcv m), .agg #[.int .i64 s1, .int .i64 s2, .int .i64 e1, .int .i64 e2, .slice a1 (4 * N) c1, .slice a2 (4 * N) c2, .slice a3 (4 * N) c3, .slice a4 (4 * N) c4]] w fun e w' => FP (M.accN m ⟨(s1, s2), (e1, e2), z1, z2, z3, z4⟩ N) e ∧ Below w.heap.size w w' := by
  have hb16 := M.rowsN_pos h
  obtain ⟨K, hK⟩ : ∃ K : Nat, K = 4 * N := ⟨_, rfl⟩
  have hKi : 4 * (N : Int) = (K : Int) := by omega
  have hKb : K ≤ 64 := by omega
  have hK0 : 0 < K := by omega
  obtain ⟨MS, hMS⟩ : ∃ MS, MS = M.tabP (4 * N) (M.missAt m (M.zipP z1 z2 (4 * N)) N) := ⟨_, rfl⟩
  obtain ⟨oL, hoL⟩ : ∃ o, o = (M.lenOk z1 N && (M.lenOk z2 N && (M.lenOk z3 N && M.lenOk z4 N))) := ⟨_, rfl⟩
  obtain ⟨oE, hoE⟩ : ∃ o, o = M.endOk ⟨(s1, s2), (e1, e2), z1, z2, z3, z4⟩ N := ⟨_, rfl⟩
  obtain ⟨oX, hoX⟩ : ∃ o, o = M.qOk m.X z1 z2 z1 z3 N (4 * N) := ⟨_, rfl⟩
  obtain ⟨oY, hoY⟩ : ∃ o, o = M.qOk m.Y z1 z2 z2 z4 N (4 * N) := ⟨_, rfl⟩
  have hacc : M.accN m ⟨(s1, s2), (e1, e2), z1, z2, z3, z4⟩ N = (oL && (oE && (oX && oY))) := by rw [hoL, hoE, hoX, hoY]; rfl
  rw [hacc]
  have CE : ∀ {a : Option Addr} {c : Nat} {z : List Int} (W : World), Sees W a (4 * N) c z → Calls Tryz.prog 112 #[.slice a (4 * N) c] W fun e w' => ∃ a' cap', e = .returned (.slice a' (4 * N) cap') ∧ Owns 73 w' W.heap.size a' (4 * N) cap' z ∧ Below W.heap.size W w' := fun W hW => elementsOf_any W hW (by omega)
  have CLF : ∀ W, EnvX W aL aN aG aE aR → Sees W a1 (4 * N) c1 z1 → Sees W a2 (4 * N) c2 z2 → Sees W a3 (4 * N) c3 z3 → Sees W a4 (4 * N) c4 z4 → Calls Tryz.prog 125 #[frv N, .agg #[.int .i64 s1, .int .i64 s2, .int .i64 e1, .int .i64 e2, .slice a1 (4 * N) c1, .slice a2 (4 * N) c2, .slice a3 (4 * N) c3, .slice a4 (4 * N) c4]] W fun e w' => FP oL e ∧ Below W.heap.size W w' := fun W e g1 g2 g3 g4 => by
    rw [hoL]; exact lengthFault_any s1 s2 e1 e2 N W h e g1 g2 g3 g4 ha1 ha2 ha3 ha4 g1.len g2.len g3.len g4.len
  have CPO : ∀ {a : Option Addr} {c : Nat} {z : List Int} (W : World), M.allEl z = true → Sees W a (4 * N) c z → Calls Tryz.prog 81 #[.agg #[.int .i64 ((4 * N : Nat) : Int), .int .i64 3, .int .i64 (M.root ((4 * N : Nat) : Int))], .slice a (4 * N) c] W fun e w' => ∃ a' m c', e = .returned (.slice a' m c') ∧ Owns 73 w' W.heap.size a' m c' (M.frs z 3) ∧ Below W.heap.size W w' := fun W hz hW => polyOf_any 3 W hW hz (M.rowsN_pt h)
  have CEF : ∀ {xa ya : Option Addr} {nx ny cx cy : Nat} (W : World), EnvX W aL aN aG aE aR → Sees W xa nx cx (M.frs z1 3) → Sees W ya ny cy (M.frs z2 3) → Calls Tryz.prog 126 #[frv N, .slice xa nx cx, .slice ya ny cy, .agg #[.int .i64 s1, .int .i64 s2], .agg #[.int .i64 e1, .int .i64 e2]] W fun e w' => ∃ v, e = .returned v ∧ FV oE v ∧ Below W.heap.size W w' := fun W e gx gy => by
    rw [hoE]; exact (endFault_any s1 s2 e1 e2 N W e gx gy (M.frs_all _ _) (M.frs_all _ _)).mono fun _ _ hp => FP.val hp
  have CPA : ∀ {xa ya : Option Addr} {cx cy : Nat} (W : World), Sees W xa (4 * N) cx z1 → Sees W ya (4 * N) cy z2 → Calls Tryz.prog 82 #[.slice xa (4 * N) cx, .slice ya (4 * N) cy] W fun e w' => ∃ a' cap', e = .returned (.slice a' (4 * N) cap') ∧ OwnsQ 75 w' W.heap.size a' (4 * N) cap' (M.zipP z1 z2 (4 * N)) ∧ Below W.heap.size W w' := fun W gx gy => pairsOf_any W gx gy (by omega)
  have CMI : ∀ {xa : Option Addr} {cx : Nat} (W : World), SeesQ W xa (4 * N) cx (M.zipP z1 z2 (4 * N)) → Calls Tryz.prog 85 #[frv N, .iface 133 (mcv m), .slice xa (4 * N) cx] W fun e w' => ∃ a' c', e = .returned (.slice a' (4 * N) c') ∧ OwnsQ 75 w' W.heap.size a' (4 * N) c' MS ∧ Below W.heap.size W w' := fun W gx => by
    rw [hMS]; exact misses_any m N W h hm gx (M.zip_ok ha1 ha2)
  have CXS : ∀ {xa : Option Addr} {cx : Nat} (W : World), SeesQ W xa (4 * N) cx MS → Calls Tryz.prog 40 #[.slice xa (4 * N) cx] W fun e w' => ∃ a' cap', e = .returned (.slice a' (4 * N) cap') ∧ Owns 73 w' W.heap.size a' (4 * N) cap' (M.fsts MS) ∧ Below W.heap.size W w' := fun W gx => xsOf_any W gx (by omega)
  have CYS : ∀ {xa : Option Addr} {cx : Nat} (W : World), SeesQ W xa (4 * N) cx MS → Calls Tryz.prog 41 #[.slice xa (4 * N) cx] W fun e w' => ∃ a' cap', e = .returned (.slice a' (4 * N) cap') ∧ Owns 73 w' W.heap.size a' (4 * N) cap' (M.snds MS) ∧ Below W.heap.size W w' := fun W gx => ysOf_any W gx (by omega)
  have CQX : ∀ {xa ya : Option Addr} {cx cy : Nat} (W : World), EnvX W aL aN aG aE aR → Sees W xa (4 * N) cx z3 → Sees W ya (4 * N) cy (M.fsts MS) → Calls Tryz.prog 127 #[frv N, .slice xa (4 * N) cx, .slice ya (4 * N) cy] W fun e w' => ∃ v, e = .returned v ∧ FV oX v ∧ Below W.heap.size W w' := fun W e gx gy => by
    have := quotientFault_any N W h e gx gy ha3; rw [hMS, M.qk_x, ← hoX] at this; exact this.mono fun _ _ hp => FP.val hp
  have CQY : ∀ {xa ya : Option Addr} {cx cy : Nat} (W : World), EnvX W aL aN aG aE aR → Sees W xa (4 * N) cx z4 → Sees W ya (4 * N) cy (M.snds MS) → Calls Tryz.prog 127 #[frv N, .slice xa (4 * N) cx, .slice ya (4 * N) cy] W fun e w' => ∃ v, e = .returned v ∧ FV oY v ∧ Below W.heap.size W w' := fun W e gx gy => by
    have := quotientFault_any N W h e gx gy ha4; rw [hMS, M.qk_y, ← hoY] at this; exact this.mono fun _ _ hp => FP.val hp
  clear hoL hoE hoX hoY hacc hMS hm
  unfold frv at CLF CEF CMI CQX CQY ⊢
  simp only [hKi, ← hK] at CE CLF CPO CEF CPA CMI CXS CYS CQX CQY h1 h2 h3 h4 ⊢
  generalize M.zipP z1 z2 K = ZP at CPA CMI
  generalize M.fsts MS = XS at CXS CQX
  generalize M.snds MS = YS at CYS CQY
  have CPO1 := fun {a c} W => @CPO a c z1 W ha1
  have CPO2 := fun {a c} W => @CPO a c z2 W ha2
  generalize M.frs z1 3 = F1 at CEF CPO1
  generalize M.frs z2 3 = F2 at CEF CPO2
  clear CPO ha1 ha2 ha3 ha4
  generalize M.root (N : Int) = R1 at CLF CEF CMI CQX CQY ⊢
  generalize M.root (K : Int) = R4 at CLF CPO1 CPO2 CEF CMI CQX CQY ⊢
  generalize M.lst N = la at CLF CEF CMI CQX CQY ⊢
  generalize Value.iface 133 (mcv m) = IF at CMI ⊢
  have HB00 : Below w.heap.size w ((w.alloc (.cells #[.int .i64 (N : Int), .int .i64 1, .int .i64 R1, .int .i64 (K : Int), .int .i64 3, .int .i64 R4, .int .i64 la] 81)).alloc (.cells #[.int .i64 s1, .int .i64 s2, .int .i64 e1, .int .i64 e2, .slice a1 K c1, .slice a2 K c2, .slice a3 K c3, .slice a4 K c4] 34)) := ((Below.refl _ _).alloc (Nat.le_refl _) _).alloc (by simp) _
  have HF_0 : Hid (Lies ((w.alloc (.cells #[.int .i64 (N : Int), .int .i64 1, .int .i64 R1, .int .i64 (K : Int), .int .i64 3, .int .i64 R4, .int .i64 la] 81)).alloc (.cells #[.int .i64 s1, .int .i64 s2, .int .i64 e1, .int .i64 e2, .slice a1 K c1, .slice a2 K c2, .slice a3 K c3, .slice a4 K c4] 34)) w.heap.size [.int .i64 (N : Int), .int .i64 1, .int .i64 R1, .int .i64 (K : Int), .int .i64 3, .int .i64 R4, .int .i64 la]) := (lies_new _ _ _).alloc _
  have HP_0 : Hid (Lies ((w.alloc (.cells #[.int .i64 (N : Int), .int .i64 1, .int .i64 R1, .int .i64 (K : Int), .int .i64 3, .int .i64 R4, .int .i64 la] 81)).alloc (.cells #[.int .i64 s1, .int .i64 s2, .int .i64 e1, .int .i64 e2, .slice a1 K c1, .slice a2 K c2, .slice a3 K c3, .slice a4 K c4] 34)) (w.heap.size + 1) [.int .i64 s1, .int .i64 s2, .int .i64 e1, .int .i64 e2, .slice a1 K c1, .slice a2 K c2, .slice a3 K c3, .slice a4 K c4]) := lies_new2 _ _ _ _
  have HB_0 : Hid (Below w.heap.size w ((w.alloc (.cells #[.int .i64 (N : Int), .int .i64 1, .int .i64 R1, .int .i64 (K : Int), .int .i64 3, .int .i64 R4, .int .i64 la] 81)).alloc (.cells #[.int .i64 s1, .int .i64 s2, .int .i64 e1, .int .i64 e2, .slice a1 K c1, .slice a2 K c2, .slice a3 K c3, .slice a4 K c4] 34))) := HB00
  have HE_0 : Hid (EnvX ((w.alloc (.cells #[.int .i64 (N : Int), .int .i64 1, .int .i64 R1, .int .i64 (K : Int), .int .i64 3, .int .i64 R4, .int .i64 la] 81)).alloc (.cells #[.int .i64 s1, .int .i64 s2, .int .i64 e1, .int .i64 e2, .slice a1 K c1, .slice a2 K c2, .slice a3 K c3, .slice a4 K c4] 34)) aL aN aG aE aR) := he.below HB00
  have S1_0 : Hid (Sees ((w.alloc (.cells #[.int .i64 (N : Int), .int .i64 1, .int .i64 R1, .int .i64 (K : Int), .int .i64 3, .int .i64 R4, .int .i64 la] 81)).alloc (.cells #[.int .i64 s1, .int .i64 s2, .int .i64 e1, .int .i64 e2, .slice a1 K c1, .slice a2 K c2, .slice a3 K c3, .slice a4 K c4] 34)) a1 K c1 z1) := h1.below HB00
  have S2_0 : Hid (Sees ((w.alloc (.cells #[.int .i64 (N : Int), .int .i64 1, .int .i64 R1, .int .i64 (K : Int), .int .i64 3, .int .i64 R4, .int .i64 la] 81)).alloc (.cells #[.int .i64 s1, .int .i64 s2, .int .i64 e1, .int .i64 e2, .slice a1 K c1, .slice a2 K c2, .slice a3 K c3, .slice a4 K c4] 34)) a2 K c2 z2) := h2.below HB00
  have S3_0 : Hid (Sees ((w.alloc (.cells #[.int .i64 (N : Int), .int .i64 1, .int .i64 R1, .int .i64 (K : Int), .int .i64 3, .int .i64 R4, .int .i64 la] 81)).alloc (.cells #[.int .i64 s1, .int .i64 s2, .int .i64 e1, .int .i64 e2, .slice a1 K c1, .slice a2 K c2, .slice a3 K c3, .slice a4 K c4] 34)) a3 K c3 z3) := h3.below HB00
  have S4_0 : Hid (Sees ((w.alloc (.cells #[.int .i64 (N : Int), .int .i64 1, .int .i64 R1, .int .i64 (K : Int), .int .i64 3, .int .i64 R4, .int .i64 la] 81)).alloc (.cells #[.int .i64 s1, .int .i64 s2, .int .i64 e1, .int .i64 e2, .slice a1 K c1, .slice a2 K c2, .slice a3 K c3, .slice a4 K c4] 34)) a4 K c4 z4) := h4.below HB00
  clear HB00 he h1 h2 h3 h4 hK hKi h hb16
  have p4 : ((w.alloc (.cells #[.int .i64 (N : Int), .int .i64 1, .int .i64 R1, .int .i64 (K : Int), .int .i64 3, .int .i64 R4, .int .i64 la] 81)).alloc (.cells #[.int .i64 s1, .int .i64 s2, .int .i64 e1, .int .i64 e2, .slice a1 K c1, .slice a2 K c2, .slice a3 K c3, .slice a4 K c4] 34)).cell? ⟨w.heap.size + 1, 4, none⟩ = some (.slice a1 K c1) := HP_0.out.at 4
  have p5 : ((w.alloc (.cells #[.int .i64 (N : Int), .int .i64 1, .int .i64 R1, .int .i64 (K : Int), .int .i64 3, .int .i64 R4, .int .i64 la] 81)).alloc (.cells #[.int .i64 s1, .int .i64 s2, .int .i64 e1, .int .i64 e2, .slice a1 K c1, .slice a2 K c2, .slice a3 K c3, .slice a4 K c4] 34)).cell? ⟨w.heap.size + 1, 5, none⟩ = some (.slice a2 K c2) := HP_0.out.at 5
  go_enter Tryz.func105, Tryz.ntmps105
  go_wp2_with fail
  generalize ((w.alloc (.cells #[.int .i64 (N : Int), .int .i64 1, .int .i64 R1, .int .i64 (K : Int), .int .i64 3, .int .i64 R4, .int .i64 la] 81)).alloc (.cells #[.int .i64 s1, .int .i64 s2, .int .i64 e1, .int .i64 e2, .slice a1 K c1, .slice a2 K c2, .slice a3 K c3, .slice a4 K c4] 34)) = wq at HF_0 HP_0 HB_0 HE_0 S1_0 S2_0 S3_0 S4_0 p4 p5 ⊢
  clear p4 p5
  refine wp_region_noPanic ?_
  refine wp_region_held_drew (S := fun W => wq.grownBy W none) (by kernel_rfl) (grown_drew _ _) (fun hHeld => ?_)
  generalize wq.drew = wd0 at hHeld ⊢
  have HX0 : Hid (Below wq.heap.size wq wd0) := ⟨hHeld.os, hHeld.tape, hHeld.output, hHeld.size, fun k hk => hHeld.block k hk (by simp)⟩
  refine wpAnyH_take (i := 0) (v := .pointer (some ⟨w.heap.size + 1, 4, none⟩)) rfl (by kernel_rfl) (by kernel_rfl) (by kernel_rfl) (fun _ _ _ h => h) (Or.inl ⟨by kernel_rfl, ?_⟩) (by assumption) ?_
  · intro wq hSq; go_simp
  try simp only [Act.put]
  refine wpAnyH_take (i := 1) (v := .slice a1 K c1) rfl (by kernel_rfl) (by kernel_rfl) (by kernel_rfl) (fun _ _ _ h => h) (Or.inl ⟨by kernel_rfl, ?_⟩) (by assumption) ?_
  · intro wp hSp; have c0 : wp.cell? ⟨w.heap.size + 1, 4, none⟩ = some (.slice a1 K c1) := (HP_0.out.grown hSp (by simp)).at 4; go_simp
  try simp only [Act.put]
  refine wpAnyH_take (i := 3) (v := .pointer (some ⟨w.heap.size + 1, 5, none⟩)) rfl (by kernel_rfl) (by kernel_rfl) (by kernel_rfl) (fun _ _ _ h => h) (Or.inl ⟨by kernel_rfl, ?_⟩) (by assumption) ?_
  · intro wq hSq; go_simp
  try simp only [Act.put]
  refine wpAnyH_take (i := 4) (v := .slice a2 K c2) rfl (by kernel_rfl) (by kernel_rfl) (by kernel_rfl) (fun _ _ _ h => h) (Or.inl ⟨by kernel_rfl, ?_⟩) (by assumption) ?_
  · intro wp hSp; have c0 : wp.cell? ⟨w.heap.size + 1, 5, none⟩ = some (.slice a2 K c2) := (HP_0.out.grown hSp (by simp)).at 5; go_simp
  try simp only [Act.put]
  refine wpAnyH_ready (rs := [2]) (by kernel_rfl) (by simp) ?_
  refine AllReadyH.cons rfl (fun Kk hK => ?_) AllReadyH.nil
  go_simp
  refine (CE _ (S1_0.out.below HX0.out)).mono ?_
  rintro e wd1 ⟨xa, xc, rfl, ho, hb1⟩
  go_simp
  have hS1 : wq.grownBy wd1 none := grown_step hHeld hb1
  have HX1 : Hid (Below wq.heap.size wq wd1) := ⟨hS1.os, hS1.tape, hS1.output, hS1.size, fun k hk => hS1.block k hk (by simp)⟩
  have X_r1 : Hid (Sees wd1 xa K xc z1) := ho.sees
  refine hK.out _ _ hS1 (fun _ => ?_)
  clear hK Kk hb1
  try simp only [Act.put]
  refine wpAnyH_ready (rs := [5]) (by kernel_rfl) (by simp) ?_
  refine AllReadyH.cons rfl (fun Kk hK => ?_) AllReadyH.nil
  go_simp
  refine (CE _ (S2_0.out.below HX1.out)).mono ?_
  rintro e wd2 ⟨ya, yc, rfl, ho, hb2⟩
  go_simp
  have hS2 : wq.grownBy wd2 none := grown_step hS1 hb2
  have HX2 : Hid (Below wq.heap.size wq wd2) := ⟨hS2.os, hS2.tape, hS2.output, hS2.size, fun k hk => hS2.block k hk (by simp)⟩
  have X_r2 : Hid (Sees wd2 xa K xc z1) := X_r1.out.below hb2
  have Y_r2 : Hid (Sees wd2 ya K yc z2) := ho.sees
  refine hK.out _ _ hS2 (fun _ => ?_)
  clear hK Kk hb2
  try simp only [Act.put]
  refine wpAnyH_take (i := 6) (v := .slice xa K xc) rfl (by kernel_rfl) (by kernel_rfl) (by kernel_rfl) (fun _ _ _ h => h) (Or.inl ⟨by kernel_rfl, ?_⟩) (by assumption) ?_
  · intro wq hSq; go_simp
  try simp only [Act.put]
  refine wpAnyH_take (i := 7) (v := .slice ya K yc) rfl (by kernel_rfl) (by kernel_rfl) (by kernel_rfl) (fun _ _ _ h => h) (Or.inl ⟨by kernel_rfl, ?_⟩) (by assumption) ?_
  · intro wq hSq; go_simp
  try simp only [Act.put]
  refine wpAnyH_done (by kernel_rfl) ?_ _
  refine NoPanic.normal ?_
  go_simp
  have HF_1 : Hid (Lies wd2 w.heap.size [.int .i64 (N : Int), .int .i64 1, .int .i64 R1, .int .i64 (K : Int), .int .i64 3, .int .i64 R4, .int .i64 la]) := HF_0.out.belowS HX2.out
  have HP_1 : Hid (Lies wd2 (w.heap.size + 1) [.int .i64 s1, .int .i64 s2, .int .i64 e1, .int .i64 e2, .slice a1 K c1, .slice a2 K c2, .slice a3 K c3, .slice a4 K c4]) := HP_0.out.belowS HX2.out
  have HB_1 : Hid (Below w.heap.size w wd2) := HB_0.out.trans (HX2.out.mono HB_0.out.size)
  have HE_1 : Hid (EnvX wd2 aL aN aG aE aR) := HE_0.out.below HX2.out
  have S1_1 : Hid (Sees wd2 a1 K c1 z1) := S1_0.out.below HX2.out
  have S2_1 : Hid (Sees wd2 a2 K c2 z2) := S2_0.out.below HX2.out
  have S3_1 : Hid (Sees wd2 a3 K c3 z3) := S3_0.out.below HX2.out
  have S4_1 : Hid (Sees wd2 a4 K c4 z4) := S4_0.out.below HX2.out
  clear HF_0 HP_0 HB_0 HE_0 S1_0 S2_0 S3_0 S4_0
  have X_1 : Hid (Sees wd2 xa K xc z1) := X_r2.out
  have Y_1 : Hid (Sees wd2 ya K yc z2) := Y_r2.out
  have p0 : wd2.cell? ⟨w.heap.size + 1, 0, none⟩ = some (.int .i64 s1) := HP_1.out.at 0
  have p1 : wd2.cell? ⟨w.heap.size + 1, 1, none⟩ = some (.int .i64 s2) := HP_1.out.at 1
  have p2 : wd2.cell? ⟨w.heap.size + 1, 2, none⟩ = some (.int .i64 e1) := HP_1.out.at 2
  have p3 : wd2.cell? ⟨w.heap.size + 1, 3, none⟩ = some (.int .i64 e2) := HP_1.out.at 3
  have p4 : wd2.cell? ⟨w.heap.size + 1, 4, none⟩ = some (.slice a1 K c1) := HP_1.out.at 4
  have p5 : wd2.cell? ⟨w.heap.size + 1, 5, none⟩ = some (.slice a2 K c2) := HP_1.out.at 5
  have p6 : wd2.cell? ⟨w.heap.size + 1, 6, none⟩ = some (.slice a3 K c3) := HP_1.out.at 6
  have p7 : wd2.cell? ⟨w.heap.size + 1, 7, none⟩ = some (.slice a4 K c4) := HP_1.out.at 7
  have f0 : wd2.cell? ⟨w.heap.size, 0, none⟩ = some (.int .i64 (N : Int)) := HF_1.out.at 0
  have f1 : wd2.cell? ⟨w.heap.size, 1, none⟩ = some (.int .i64 1) := HF_1.out.at 1
  have f2 : wd2.cell? ⟨w.heap.size, 2, none⟩ = some (.int .i64 R1) := HF_1.out.at 2
  have f3 : wd2.cell? ⟨w.heap.size, 3, none⟩ = some (.int .i64 (K : Int)) := HF_1.out.at 3
  have f4 : wd2.cell? ⟨w.heap.size, 4, none⟩ = some (.int .i64 3) := HF_1.out.at 4
  have f5 : wd2.cell? ⟨w.heap.size, 5, none⟩ = some (.int .i64 R4) := HF_1.out.at 5
  have f6 : wd2.cell? ⟨w.heap.size, 6, none⟩ = some (.int .i64 la) := HF_1.out.at 6
  go_wp2_with fail
  refine (CLF _ HE_1.out S1_1.out S2_1.out S3_1.out S4_1.out).mono ?_
  rintro e w3 ⟨hp, hb⟩
  have HF_2 : Hid (Lies w3 w.heap.size [.int .i64 (N : Int), .int .i64 1, .int .i64 R1, .int .i64 (K : Int), .int .i64 3, .int .i64 R4, .int .i64 la]) := HF_1.out.belowS hb
  have HP_2 : Hid (Lies w3 (w.heap.size + 1) [.int .i64 s1, .int .i64 s2, .int .i64 e1, .int .i64 e2, .slice a1 K c1, .slice a2 K c2, .slice a3 K c3, .slice a4 K c4]) := HP_1.out.belowS hb
  have HB_2 : Hid (Below w.heap.size w w3) := HB_1.out.trans (hb.mono HB_1.out.size)
  have HE_2 : Hid (EnvX w3 aL aN aG aE aR) := HE_1.out.below hb
  have S1_2 : Hid (Sees w3 a1 K c1 z1) := S1_1.out.below hb
  have S2_2 : Hid (Sees w3 a2 K c2 z2) := S2_1.out.below hb
  have S3_2 : Hid (Sees w3 a3 K c3 z3) := S3_1.out.below hb
  have S4_2 : Hid (Sees w3 a4 K c4 z4) := S4_1.out.below hb
  have X_2 : Hid (Sees w3 xa K xc z1) := X_1.out.below hb
  have Y_2 : Hid (Sees w3 ya K yc z2) := Y_1.out.below hb
  clear HF_1 HP_1 HB_1 HE_1 S1_1 S2_1 S3_1 S4_1 X_1 Y_1
  clear hb
  rcases hp with ⟨ho, rfl⟩ | ⟨ho, ps, pq, pv, rfl⟩
  rotate_left
  · subst ho
    have hnn := fun W => run_neq_iface_nil (P := Tryz.prog) W 171 (.agg #[.string ps, .int .i64 pq, .iface 225 (.pointer (some pv))]) Tryz.underlying107
    unfold rfv
    go_wp2
    go_ret
    exact ⟨.inr ⟨by simp, _, _, _, rfl⟩, HB_2.out⟩
  subst ho
  clear p0 p1 p2 p3 p4 p5 p6 p7 f0 f1 f2 f3 f4 f5 f6
  go_wp2_with fail
  generalize w3 = wq at HF_2 HP_2 HB_2 HE_2 S1_2 S2_2 S3_2 S4_2 X_2 Y_2  ⊢
  refine wp_region_noPanic ?_
  refine wp_region_held_drew (S := fun W => wq.grownBy W none) (by kernel_rfl) (grown_drew _ _) (fun hHeld => ?_)
  generalize wq.drew = wd0 at hHeld ⊢
  have HX0 : Hid (Below wq.heap.size wq wd0) := ⟨hHeld.os, hHeld.tape, hHeld.output, hHeld.size, fun k hk => hHeld.block k hk (by simp)⟩
  refine wpAnyH_take (i := 0) (v := .agg ([.int .i64 (N : Int), .int .i64 1, .int .i64 R1, .int .i64 (K : Int), .int .i64 3, .int .i64 R4, .int .i64 la]).toArray) rfl (by kernel_rfl) (by kernel_rfl) (by kernel_rfl) (fun _ _ _ h => h) (yieldsIf_load_mid (by kernel_rfl) 81 (.tmp 3) rfl w.heap.size 0 rfl ([.int .i64 (N : Int), .int .i64 1, .int .i64 R1, .int .i64 (K : Int), .int .i64 3, .int .i64 R4, .int .i64 la]) _ (fun W h => (HF_2.out.grown h (by simp)).row) Tryz.underlying81 rfl (by kernel_rfl)) (by assumption) ?_
  try simp only [Act.put]
  refine wpAnyH_take (i := 1) (v := .pointer (some ⟨w.heap.size, 3, none⟩)) rfl (by kernel_rfl) (by kernel_rfl) (by kernel_rfl) (fun _ _ _ h => h) (Or.inl ⟨by kernel_rfl, ?_⟩) (by assumption) ?_
  · intro wq hSq; go_simp
  try simp only [Act.put]
  refine wpAnyH_take (i := 2) (v := .agg #[.int .i64 (K : Int), .int .i64 3, .int .i64 R4]) rfl (by kernel_rfl) (by kernel_rfl) (by kernel_rfl) (fun _ _ _ h => h) (Or.inl ⟨by kernel_rfl, ?_⟩) (by assumption) ?_
  · intro wp hSp; have c0 : wp.cell? ⟨w.heap.size, 3, none⟩ = some (.int .i64 (K : Int)) := (HF_2.out.grown hSp (by simp)).at 3; have c1 : wp.cell? ⟨w.heap.size, 4, none⟩ = some (.int .i64 3) := (HF_2.out.grown hSp (by simp)).at 4; have c2 : wp.cell? ⟨w.heap.size, 5, none⟩ = some (.int .i64 R4) := (HF_2.out.grown hSp (by simp)).at 5; go_simp
  try simp only [Act.put]
  refine wpAnyH_take (i := 5) (v := .pointer (some ⟨w.heap.size, 3, none⟩)) rfl (by kernel_rfl) (by kernel_rfl) (by kernel_rfl) (fun _ _ _ h => h) (Or.inl ⟨by kernel_rfl, ?_⟩) (by assumption) ?_
  · intro wq hSq; go_simp
  try simp only [Act.put]
  refine wpAnyH_take (i := 6) (v := .agg #[.int .i64 (K : Int), .int .i64 3, .int .i64 R4]) rfl (by kernel_rfl) (by kernel_rfl) (by kernel_rfl) (fun _ _ _ h => h) (Or.inl ⟨by kernel_rfl, ?_⟩) (by assumption) ?_
  · intro wp hSp; have c0 : wp.cell? ⟨w.heap.size, 3, none⟩ = some (.int .i64 (K : Int)) := (HF_2.out.grown hSp (by simp)).at 3; have c1 : wp.cell? ⟨w.heap.size, 4, none⟩ = some (.int .i64 3) := (HF_2.out.grown hSp (by simp)).at 4; have c2 : wp.cell? ⟨w.heap.size, 5, none⟩ = some (.int .i64 R4) := (HF_2.out.grown hSp (by simp)).at 5; go_simp
  try simp only [Act.put]
  refine wpAnyH_take (i := 3) (v := .slice xa K xc) rfl (by kernel_rfl) (by kernel_rfl) (by kernel_rfl) (fun _ _ _ h => h) (Or.inl ⟨by kernel_rfl, ?_⟩) (by assumption) ?_
  · intro wq hSq; go_simp
  try simp only [Act.put]
  refine wpAnyH_take (i := 7) (v := .slice ya K yc) rfl (by kernel_rfl) (by kernel_rfl) (by kernel_rfl) (fun _ _ _ h => h) (Or.inl ⟨by kernel_rfl, ?_⟩) (by assumption) ?_
  · intro wq hSq; go_simp
  try simp only [Act.put]
  refine wpAnyH_take (i := 9) (v := .pointer (some ⟨w.heap.size + 1, 0, none⟩)) rfl (by kernel_rfl) (by kernel_rfl) (by kernel_rfl) (fun _ _ _ h => h) (Or.inl ⟨by kernel_rfl, ?_⟩) (by assumption) ?_
  · intro wq hSq; go_simp
  try simp only [Act.put]
  refine wpAnyH_take (i := 10) (v := .agg #[.int .i64 s1, .int .i64 s2]) rfl (by kernel_rfl) (by kernel_rfl) (by kernel_rfl) (fun _ _ _ h => h) (Or.inl ⟨by kernel_rfl, ?_⟩) (by assumption) ?_
  · intro wp hSp; have c0 : wp.cell? ⟨w.heap.size + 1, 0, none⟩ = some (.int .i64 s1) := (HP_2.out.grown hSp (by simp)).at 0; have c1 : wp.cell? ⟨w.heap.size + 1, 1, none⟩ = some (.int .i64 s2) := (HP_2.out.grown hSp (by simp)).at 1; go_simp
  try simp only [Act.put]
  refine wpAnyH_take (i := 11) (v := .pointer (some ⟨w.heap.size + 1, 2, none⟩)) rfl (by kernel_rfl) (by kernel_rfl) (by kernel_rfl) (fun _ _ _ h => h) (Or.inl ⟨by kernel_rfl, ?_⟩) (by assumption) ?_
  · intro wq hSq; go_simp
  try simp only [Act.put]
  refine wpAnyH_take (i := 12) (v := .agg #[.int .i64 e1, .int .i64 e2]) rfl (by kernel_rfl) (by kernel_rfl) (by kernel_rfl) (fun _ _ _ h => h) (Or.inl ⟨by kernel_rfl, ?_⟩) (by assumption) ?_
  · intro wp hSp; have c0 : wp.cell? ⟨w.heap.size + 1, 2, none⟩ = some (.int .i64 e1) := (HP_2.out.grown hSp (by simp)).at 2; have c1 : wp.cell? ⟨w.heap.size + 1, 3, none⟩ = some (.int .i64 e2) := (HP_2.out.grown hSp (by simp)).at 3; go_simp
  try simp only [Act.put]
  refine wpAnyH_ready (rs := [4]) (by kernel_rfl) (by simp) ?_
  refine AllReadyH.cons rfl (fun Kk hK => ?_) AllReadyH.nil
  go_simp
  refine (CPO1 _ (X_2.out.below HX0.out)).mono ?_
  rintro e wd1 ⟨fa, fn, fc, rfl, ho, hb1⟩
  go_simp
  have hS1 : wq.grownBy wd1 none := grown_step hHeld hb1
  have HX1 : Hid (Below wq.heap.size wq wd1) := ⟨hS1.os, hS1.tape, hS1.output, hS1.size, fun k hk => hS1.block k hk (by simp)⟩
  have F1_r1 : Hid (Sees wd1 fa fn fc F1) := ho.sees
  refine hK.out _ _ hS1 (fun _ => ?_)
  clear hK Kk hb1
  try simp only [Act.put]
  refine wpAnyH_ready (rs := [8]) (by kernel_rfl) (by simp) ?_
  refine AllReadyH.cons rfl (fun Kk hK => ?_) AllReadyH.nil
  go_simp
  refine (CPO2 _ (Y_2.out.below HX1.out)).mono ?_
  rintro e wd2 ⟨ga, gn, gc, rfl, ho, hb2⟩
  go_simp
  have hS2 : wq.grownBy wd2 none := grown_step hS1 hb2
  have HX2 : Hid (Below wq.heap.size wq wd2) := ⟨hS2.os, hS2.tape, hS2.output, hS2.size, fun k hk => hS2.block k hk (by simp)⟩
  have F1_r2 : Hid (Sees wd2 fa fn fc F1) := F1_r1.out.below hb2
  have F2_r2 : Hid (Sees wd2 ga gn gc F2) := ho.sees
  refine hK.out _ _ hS2 (fun _ => ?_)
  clear hK Kk hb2
  try simp only [Act.put]
  refine wpAnyH_ready (rs := [13]) (by kernel_rfl) (by simp) ?_
  refine AllReadyH.cons rfl (fun Kk hK => ?_) AllReadyH.nil
  go_simp
  refine (CEF _ (HE_2.out.below HX2.out) F1_r2.out F2_r2.out).mono ?_
  rintro e wd3 ⟨v, rfl, hv, hb3⟩
  go_simp
  have hS3 : wq.grownBy wd3 none := grown_step hS2 hb3
  have HX3 : Hid (Below wq.heap.size wq wd3) := ⟨hS3.os, hS3.tape, hS3.output, hS3.size, fun k hk => hS3.block k hk (by simp)⟩
  have F1_r3 : Hid (Sees wd3 fa fn fc F1) := F1_r2.out.below hb3
  have F2_r3 : Hid (Sees wd3 ga gn gc F2) := F2_r2.out.below hb3
  refine hK.out _ _ hS3 (fun _ => ?_)
  clear hK Kk hb3
  try simp only [Act.put]
  refine wpAnyH_take (i := 14) (v := v) rfl (by kernel_rfl) (by kernel_rfl) (by kernel_rfl) (fun _ _ _ h => h) (Or.inl ⟨by kernel_rfl, ?_⟩) (by assumption) ?_
  · intro wq hSq; go_simp
  try simp only [Act.put]
  refine wpAnyH_done (by kernel_rfl) ?_ _
  refine NoPanic.normal ?_
  go_simp
  have HF_3 : Hid (Lies wd3 w.heap.size [.int .i64 (N : Int), .int .i64 1, .int .i64 R1, .int .i64 (K : Int), .int .i64 3, .int .i64 R4, .int .i64 la]) := HF_2.out.belowS HX3.out
  have HP_3 : Hid (Lies wd3 (w.heap.size + 1) [.int .i64 s1, .int .i64 s2, .int .i64 e1, .int .i64 e2, .slice a1 K c1, .slice a2 K c2, .slice a3 K c3, .slice a4 K c4]) := HP_2.out.belowS HX3.out
  have HB_3 : Hid (Below w.heap.size w wd3) := HB_2.out.trans (HX3.out.mono HB_2.out.size)
  have HE_3 : Hid (EnvX wd3 aL aN aG aE aR) := HE_2.out.below HX3.out
  have S1_3 : Hid (Sees wd3 a1 K c1 z1) := S1_2.out.below HX3.out
  have S2_3 : Hid (Sees wd3 a2 K c2 z2) := S2_2.out.below HX3.out
  have S3_3 : Hid (Sees wd3 a3 K c3 z3) := S3_2.out.below HX3.out
  have S4_3 : Hid (Sees wd3 a4 K c4 z4) := S4_2.out.below HX3.out
  have X_3 : Hid (Sees wd3 xa K xc z1) := X_2.out.below HX3.out
  have Y_3 : Hid (Sees wd3 ya K yc z2) := Y_2.out.below HX3.out
  clear HF_2 HP_2 HB_2 HE_2 S1_2 S2_2 S3_2 S4_2 X_2 Y_2
  have F1_3 : Hid (Sees wd3 fa fn fc F1) := F1_r3.out
  have F2_3 : Hid (Sees wd3 ga gn gc F2) := F2_r3.out
  clear F1_3
  clear F2_3
  rcases hv with ⟨ho, rfl⟩ | ⟨ho, ps, pq, pv, rfl⟩
  rotate_left
  · subst ho
    have hnn := fun W => run_neq_iface_nil (P := Tryz.prog) W 171 (.agg #[.string ps, .int .i64 pq, .iface 225 (.pointer (some pv))]) Tryz.underlying107
    unfold rfv
    go_wp2
    go_ret
    exact ⟨.inr ⟨by simp, _, _, _, rfl⟩, HB_3.out⟩
  subst ho
  go_wp2_with fail
  generalize wd3 = wq at HF_3 HP_3 HB_3 HE_3 S1_3 S2_3 S3_3 S4_3 X_3 Y_3  ⊢
  refine wp_region_noPanic ?_
  refine wp_region_held_drew (S := fun W => wq.grownBy W none) (by kernel_rfl) (grown_drew _ _) (fun hHeld => ?_)
  generalize wq.drew = wd0 at hHeld ⊢
  have HX0 : Hid (Below wq.heap.size wq wd0) := ⟨hHeld.os, hHeld.tape, hHeld.output, hHeld.size, fun k hk => hHeld.block k hk (by simp)⟩
  refine wpAnyH_take (i := 0) (v := .agg ([.int .i64 (N : Int), .int .i64 1, .int .i64 R1, .int .i64 (K : Int), .int .i64 3, .int .i64 R4, .int .i64 la]).toArray) rfl (by kernel_rfl) (by kernel_rfl) (by kernel_rfl) (fun _ _ _ h => h) (yieldsIf_load_mid (by kernel_rfl) 81 (.tmp 3) rfl w.heap.size 0 rfl ([.int .i64 (N : Int), .int .i64 1, .int .i64 R1, .int .i64 (K : Int), .int .i64 3, .int .i64 R4, .int .i64 la]) _ (fun W h => (HF_3.out.grown h (by simp)).row) Tryz.underlying81 rfl (by kernel_rfl)) (by assumption) ?_
  try simp only [Act.put]
  refine wpAnyH_take (i := 1) (v := IF) rfl (by kernel_rfl) (by kernel_rfl) (by kernel_rfl) (fun _ _ _ h => h) (Or.inl ⟨by kernel_rfl, ?_⟩) (by assumption) ?_
  · intro wq hSq; go_simp
  try simp only [Act.put]
  refine wpAnyH_take (i := 2) (v := .slice xa K xc) rfl (by kernel_rfl) (by kernel_rfl) (by kernel_rfl) (fun _ _ _ h => h) (Or.inl ⟨by kernel_rfl, ?_⟩) (by assumption) ?_
  · intro wq hSq; go_simp
  try simp only [Act.put]
  refine wpAnyH_take (i := 3) (v := .slice ya K yc) rfl (by kernel_rfl) (by kernel_rfl) (by kernel_rfl) (fun _ _ _ h => h) (Or.inl ⟨by kernel_rfl, ?_⟩) (by assumption) ?_
  · intro wq hSq; go_simp
  try simp only [Act.put]
  refine wpAnyH_ready (rs := [4]) (by kernel_rfl) (by simp) ?_
  refine AllReadyH.cons rfl (fun Kk hK => ?_) AllReadyH.nil
  go_simp
  refine (CPA _ (X_3.out.below HX0.out) (Y_3.out.below HX0.out)).mono ?_
  rintro e wd1 ⟨pa, pc, rfl, ho, hb1⟩
  go_simp
  have hS1 : wq.grownBy wd1 none := grown_step hHeld hb1
  have HX1 : Hid (Below wq.heap.size wq wd1) := ⟨hS1.os, hS1.tape, hS1.output, hS1.size, fun k hk => hS1.block k hk (by simp)⟩
  have PQ_r1 : Hid (SeesQ wd1 pa K pc ZP) := ho.sees hK0
  refine hK.out _ _ hS1 (fun _ => ?_)
  clear hK Kk hb1
  try simp only [Act.put]
  refine wpAnyH_ready (rs := [5]) (by kernel_rfl) (by simp) ?_
  refine AllReadyH.cons rfl (fun Kk hK => ?_) AllReadyH.nil
  go_simp
  refine (CMI _ PQ_r1.out).mono ?_
  rintro e wd2 ⟨ma, mc, rfl, ho, hb2⟩
  go_simp
  have hS2 : wq.grownBy wd2 none := grown_step hS1 hb2
  have HX2 : Hid (Below wq.heap.size wq wd2) := ⟨hS2.os, hS2.tape, hS2.output, hS2.size, fun k hk => hS2.block k hk (by simp)⟩
  have PQ_r2 : Hid (SeesQ wd2 pa K pc ZP) := PQ_r1.out.below hb2
  have MQ_r2 : Hid (SeesQ wd2 ma K mc MS) := ho.sees hK0
  refine hK.out _ _ hS2 (fun _ => ?_)
  clear hK Kk hb2
  try simp only [Act.put]
  refine wpAnyH_take (i := 6) (v := .slice ma K mc) rfl (by kernel_rfl) (by kernel_rfl) (by kernel_rfl) (fun _ _ _ h => h) (Or.inl ⟨by kernel_rfl, ?_⟩) (by assumption) ?_
  · intro wq hSq; go_simp
  try simp only [Act.put]
  refine wpAnyH_done (by kernel_rfl) ?_ _
  refine NoPanic.normal ?_
  go_simp
  have HF_4 : Hid (Lies wd2 w.heap.size [.int .i64 (N : Int), .int .i64 1, .int .i64 R1, .int .i64 (K : Int), .int .i64 3, .int .i64 R4, .int .i64 la]) := HF_3.out.belowS HX2.out
  have HP_4 : Hid (Lies wd2 (w.heap.size + 1) [.int .i64 s1, .int .i64 s2, .int .i64 e1, .int .i64 e2, .slice a1 K c1, .slice a2 K c2, .slice a3 K c3, .slice a4 K c4]) := HP_3.out.belowS HX2.out
  have HB_4 : Hid (Below w.heap.size w wd2) := HB_3.out.trans (HX2.out.mono HB_3.out.size)
  have HE_4 : Hid (EnvX wd2 aL aN aG aE aR) := HE_3.out.below HX2.out
  have S1_4 : Hid (Sees wd2 a1 K c1 z1) := S1_3.out.below HX2.out
  have S2_4 : Hid (Sees wd2 a2 K c2 z2) := S2_3.out.below HX2.out
  have S3_4 : Hid (Sees wd2 a3 K c3 z3) := S3_3.out.below HX2.out
  have S4_4 : Hid (Sees wd2 a4 K c4 z4) := S4_3.out.below HX2.out
  have X_4 : Hid (Sees wd2 xa K xc z1) := X_3.out.below HX2.out
  have Y_4 : Hid (Sees wd2 ya K yc z2) := Y_3.out.below HX2.out
  clear HF_3 HP_3 HB_3 HE_3 S1_3 S2_3 S3_3 S4_3 X_3 Y_3
  have PQ_4 : Hid (SeesQ wd2 pa K pc ZP) := PQ_r2.out
  have MQ_4 : Hid (SeesQ wd2 ma K mc MS) := MQ_r2.out
  clear PQ_4
  clear X_4
  clear Y_4
  clear S1_4
  clear S2_4
  go_wp2_with fail
  generalize wd2 = wq at HF_4 HP_4 HB_4 HE_4 S3_4 S4_4 MQ_4  ⊢
  refine wp_region_noPanic ?_
  refine wp_region_held_drew (S := fun W => wq.grownBy W none) (by kernel_rfl) (grown_drew _ _) (fun hHeld => ?_)
  generalize wq.drew = wd0 at hHeld ⊢
  have HX0 : Hid (Below wq.heap.size wq wd0) := ⟨hHeld.os, hHeld.tape, hHeld.output, hHeld.size, fun k hk => hHeld.block k hk (by simp)⟩
  refine wpAnyH_take (i := 0) (v := .agg ([.int .i64 (N : Int), .int .i64 1, .int .i64 R1, .int .i64 (K : Int), .int .i64 3, .int .i64 R4, .int .i64 la]).toArray) rfl (by kernel_rfl) (by kernel_rfl) (by kernel_rfl) (fun _ _ _ h => h) (yieldsIf_load_mid (by kernel_rfl) 81 (.tmp 3) rfl w.heap.size 0 rfl ([.int .i64 (N : Int), .int .i64 1, .int .i64 R1, .int .i64 (K : Int), .int .i64 3, .int .i64 R4, .int .i64 la]) _ (fun W h => (HF_4.out.grown h (by simp)).row) Tryz.underlying81 rfl (by kernel_rfl)) (by assumption) ?_
  try simp only [Act.put]
  refine wpAnyH_take (i := 1) (v := .pointer (some ⟨w.heap.size + 1, 6, none⟩)) rfl (by kernel_rfl) (by kernel_rfl) (by kernel_rfl) (fun _ _ _ h => h) (Or.inl ⟨by kernel_rfl, ?_⟩) (by assumption) ?_
  · intro wq hSq; go_simp
  try simp only [Act.put]
  refine wpAnyH_take (i := 2) (v := .slice a3 K c3) rfl (by kernel_rfl) (by kernel_rfl) (by kernel_rfl) (fun _ _ _ h => h) (Or.inl ⟨by kernel_rfl, ?_⟩) (by assumption) ?_
  · intro wp hSp; have c0 : wp.cell? ⟨w.heap.size + 1, 6, none⟩ = some (.slice a3 K c3) := (HP_4.out.grown hSp (by simp)).at 6; go_simp
  try simp only [Act.put]
  refine wpAnyH_take (i := 4) (v := .slice ma K mc) rfl (by kernel_rfl) (by kernel_rfl) (by kernel_rfl) (fun _ _ _ h => h) (Or.inl ⟨by kernel_rfl, ?_⟩) (by assumption) ?_
  · intro wq hSq; go_simp
  try simp only [Act.put]
  refine wpAnyH_ready (rs := [3]) (by kernel_rfl) (by simp) ?_
  refine AllReadyH.cons rfl (fun Kk hK => ?_) AllReadyH.nil
  go_simp
  refine (CE _ (S3_4.out.below HX0.out)).mono ?_
  rintro e wd1 ⟨qa, qc, rfl, ho, hb1⟩
  go_simp
  have hS1 : wq.grownBy wd1 none := grown_step hHeld hb1
  have HX1 : Hid (Below wq.heap.size wq wd1) := ⟨hS1.os, hS1.tape, hS1.output, hS1.size, fun k hk => hS1.block k hk (by simp)⟩
  have QA_r1 : Hid (Sees wd1 qa K qc z3) := ho.sees
  refine hK.out _ _ hS1 (fun _ => ?_)
  clear hK Kk hb1
  try simp only [Act.put]
  refine wpAnyH_ready (rs := [5]) (by kernel_rfl) (by simp) ?_
  refine AllReadyH.cons rfl (fun Kk hK => ?_) AllReadyH.nil
  go_simp
  refine (CXS _ (MQ_4.out.below HX1.out)).mono ?_
  rintro e wd2 ⟨ra, rc, rfl, ho, hb2⟩
  go_simp
  have hS2 : wq.grownBy wd2 none := grown_step hS1 hb2
  have HX2 : Hid (Below wq.heap.size wq wd2) := ⟨hS2.os, hS2.tape, hS2.output, hS2.size, fun k hk => hS2.block k hk (by simp)⟩
  have QA_r2 : Hid (Sees wd2 qa K qc z3) := QA_r1.out.below hb2
  have RA_r2 : Hid (Sees wd2 ra K rc XS) := ho.sees
  refine hK.out _ _ hS2 (fun _ => ?_)
  clear hK Kk hb2
  try simp only [Act.put]
  refine wpAnyH_ready (rs := [6]) (by kernel_rfl) (by simp) ?_
  refine AllReadyH.cons rfl (fun Kk hK => ?_) AllReadyH.nil
  go_simp
  refine (CQX _ (HE_4.out.below HX2.out) QA_r2.out RA_r2.out).mono ?_
  rintro e wd3 ⟨v, rfl, hv, hb3⟩
  go_simp
  have hS3 : wq.grownBy wd3 none := grown_step hS2 hb3
  have HX3 : Hid (Below wq.heap.size wq wd3) := ⟨hS3.os, hS3.tape, hS3.output, hS3.size, fun k hk => hS3.block k hk (by simp)⟩
  have QA_r3 : Hid (Sees wd3 qa K qc z3) := QA_r2.out.below hb3
  have RA_r3 : Hid (Sees wd3 ra K rc XS) := RA_r2.out.below hb3
  refine hK.out _ _ hS3 (fun _ => ?_)
  clear hK Kk hb3
  try simp only [Act.put]
  refine wpAnyH_take (i := 7) (v := v) rfl (by kernel_rfl) (by kernel_rfl) (by kernel_rfl) (fun _ _ _ h => h) (Or.inl ⟨by kernel_rfl, ?_⟩) (by assumption) ?_
  · intro wq hSq; go_simp
  try simp only [Act.put]
  refine wpAnyH_done (by kernel_rfl) ?_ _
  refine NoPanic.normal ?_
  go_simp
  have HF_5 : Hid (Lies wd3 w.heap.size [.int .i64 (N : Int), .int .i64 1, .int .i64 R1, .int .i64 (K : Int), .int .i64 3, .int .i64 R4, .int .i64 la]) := HF_4.out.belowS HX3.out
  have HP_5 : Hid (Lies wd3 (w.heap.size + 1) [.int .i64 s1, .int .i64 s2, .int .i64 e1, .int .i64 e2, .slice a1 K c1, .slice a2 K c2, .slice a3 K c3, .slice a4 K c4]) := HP_4.out.belowS HX3.out
  have HB_5 : Hid (Below w.heap.size w wd3) := HB_4.out.trans (HX3.out.mono HB_4.out.size)
  have HE_5 : Hid (EnvX wd3 aL aN aG aE aR) := HE_4.out.below HX3.out
  have S3_5 : Hid (Sees wd3 a3 K c3 z3) := S3_4.out.below HX3.out
  have S4_5 : Hid (Sees wd3 a4 K c4 z4) := S4_4.out.below HX3.out
  have MQ_5 : Hid (SeesQ wd3 ma K mc MS) := MQ_4.out.below HX3.out
  clear HF_4 HP_4 HB_4 HE_4 S3_4 S4_4 MQ_4
  have QA_5 : Hid (Sees wd3 qa K qc z3) := QA_r3.out
  have RA_5 : Hid (Sees wd3 ra K rc XS) := RA_r3.out
  clear QA_5
  clear RA_5
  rcases hv with ⟨ho, rfl⟩ | ⟨ho, ps, pq, pv, rfl⟩
  rotate_left
  · subst ho
    have hnn := fun W => run_neq_iface_nil (P := Tryz.prog) W 171 (.agg #[.string ps, .int .i64 pq, .iface 225 (.pointer (some pv))]) Tryz.underlying107
    unfold rfv
    go_wp2_with fail
    refine (inPart_ref _ ps pq pv _ HE_5.out.env).mono ?_
    rintro e w9 ⟨rfl, hb9⟩
    have HB9 : Hid (Below w.heap.size w w9) := HB_5.out.trans (hb9.mono HB_5.out.size)
    clear hb9
    go_wp2
    go_ret
    exact ⟨.inr ⟨by simp, _, _, _, rfl⟩, HB9.out⟩
  subst ho
  go_wp2_with fail
  generalize wd3 = wq at HF_5 HP_5 HB_5 HE_5 S3_5 S4_5 MQ_5  ⊢
  refine wp_region_noPanic ?_
  refine wp_region_held_drew (S := fun W => wq.grownBy W none) (by kernel_rfl) (grown_drew _ _) (fun hHeld => ?_)
  generalize wq.drew = wd0 at hHeld ⊢
  have HX0 : Hid (Below wq.heap.size wq wd0) := ⟨hHeld.os, hHeld.tape, hHeld.output, hHeld.size, fun k hk => hHeld.block k hk (by simp)⟩
  refine wpAnyH_take (i := 0) (v := .agg ([.int .i64 (N : Int), .int .i64 1, .int .i64 R1, .int .i64 (K : Int), .int .i64 3, .int .i64 R4, .int .i64 la]).toArray) rfl (by kernel_rfl) (by kernel_rfl) (by kernel_rfl) (fun _ _ _ h => h) (yieldsIf_load_mid (by kernel_rfl) 81 (.tmp 3) rfl w.heap.size 0 rfl ([.int .i64 (N : Int), .int .i64 1, .int .i64 R1, .int .i64 (K : Int), .int .i64 3, .int .i64 R4, .int .i64 la]) _ (fun W h => (HF_5.out.grown h (by simp)).row) Tryz.underlying81 rfl (by kernel_rfl)) (by assumption) ?_
  try simp only [Act.put]
  refine wpAnyH_take (i := 1) (v := .pointer (some ⟨w.heap.size + 1, 7, none⟩)) rfl (by kernel_rfl) (by kernel_rfl) (by kernel_rfl) (fun _ _ _ h => h) (Or.inl ⟨by kernel_rfl, ?_⟩) (by assumption) ?_
  · intro wq hSq; go_simp
  try simp only [Act.put]
  refine wpAnyH_take (i := 2) (v := .slice a4 K c4) rfl (by kernel_rfl) (by kernel_rfl) (by kernel_rfl) (fun _ _ _ h => h) (Or.inl ⟨by kernel_rfl, ?_⟩) (by assumption) ?_
  · intro wp hSp; have c0 : wp.cell? ⟨w.heap.size + 1, 7, none⟩ = some (.slice a4 K c4) := (HP_5.out.grown hSp (by simp)).at 7; go_simp
  try simp only [Act.put]
  refine wpAnyH_take (i := 4) (v := .slice ma K mc) rfl (by kernel_rfl) (by kernel_rfl) (by kernel_rfl) (fun _ _ _ h => h) (Or.inl ⟨by kernel_rfl, ?_⟩) (by assumption) ?_
  · intro wq hSq; go_simp
  try simp only [Act.put]
  refine wpAnyH_ready (rs := [3]) (by kernel_rfl) (by simp) ?_
  refine AllReadyH.cons rfl (fun Kk hK => ?_) AllReadyH.nil
  go_simp
  refine (CE _ (S4_5.out.below HX0.out)).mono ?_
  rintro e wd1 ⟨qa, qc, rfl, ho, hb1⟩
  go_simp
  have hS1 : wq.grownBy wd1 none := grown_step hHeld hb1
  have HX1 : Hid (Below wq.heap.size wq wd1) := ⟨hS1.os, hS1.tape, hS1.output, hS1.size, fun k hk => hS1.block k hk (by simp)⟩
  have QA_r1 : Hid (Sees wd1 qa K qc z4) := ho.sees
  refine hK.out _ _ hS1 (fun _ => ?_)
  clear hK Kk hb1
  try simp only [Act.put]
  refine wpAnyH_ready (rs := [5]) (by kernel_rfl) (by simp) ?_
  refine AllReadyH.cons rfl (fun Kk hK => ?_) AllReadyH.nil
  go_simp
  refine (CYS _ (MQ_5.out.below HX1.out)).mono ?_
  rintro e wd2 ⟨ra, rc, rfl, ho, hb2⟩
  go_simp
  have hS2 : wq.grownBy wd2 none := grown_step hS1 hb2
  have HX2 : Hid (Below wq.heap.size wq wd2) := ⟨hS2.os, hS2.tape, hS2.output, hS2.size, fun k hk => hS2.block k hk (by simp)⟩
  have QA_r2 : Hid (Sees wd2 qa K qc z4) := QA_r1.out.below hb2
  have RA_r2 : Hid (Sees wd2 ra K rc YS) := ho.sees
  refine hK.out _ _ hS2 (fun _ => ?_)
  clear hK Kk hb2
  try simp only [Act.put]
  refine wpAnyH_ready (rs := [6]) (by kernel_rfl) (by simp) ?_
  refine AllReadyH.cons rfl (fun Kk hK => ?_) AllReadyH.nil
  go_simp
  refine (CQY _ (HE_5.out.below HX2.out) QA_r2.out RA_r2.out).mono ?_
  rintro e wd3 ⟨v, rfl, hv, hb3⟩
  go_simp
  have hS3 : wq.grownBy wd3 none := grown_step hS2 hb3
  have HX3 : Hid (Below wq.heap.size wq wd3) := ⟨hS3.os, hS3.tape, hS3.output, hS3.size, fun k hk => hS3.block k hk (by simp)⟩
  have QA_r3 : Hid (Sees wd3 qa K qc z4) := QA_r2.out.below hb3
  have RA_r3 : Hid (Sees wd3 ra K rc YS) := RA_r2.out.below hb3
  refine hK.out _ _ hS3 (fun _ => ?_)
  clear hK Kk hb3
  try simp only [Act.put]
  refine wpAnyH_ready (rs := [7]) (by kernel_rfl) (by simp) ?_
  refine AllReadyH.cons rfl (fun Kk hK => ?_) AllReadyH.nil
  go_simp
  refine (inPart_val _ hv _ (HE_5.out.below HX3.out).env).mono ?_
  rintro e wd4 ⟨v2, rfl, hv2, hb4⟩
  go_simp
  have hS4 : wq.grownBy wd4 none := grown_step hS3 hb4
  have HX4 : Hid (Below wq.heap.size wq wd4) := ⟨hS4.os, hS4.tape, hS4.output, hS4.size, fun k hk => hS4.block k hk (by simp)⟩
  have QA_r4 : Hid (Sees wd4 qa K qc z4) := QA_r3.out.below hb4
  have RA_r4 : Hid (Sees wd4 ra K rc YS) := RA_r3.out.below hb4
  refine hK.out _ _ hS4 (fun _ => ?_)
  clear hK Kk hb4
  try simp only [Act.put]
  refine wpAnyH_take (i := 8) (v := v2) rfl (by kernel_rfl) (by kernel_rfl) (by kernel_rfl) (fun _ _ _ h => h) (Or.inl ⟨by kernel_rfl, ?_⟩) (by assumption) ?_
  · intro wq hSq; go_simp
  try simp only [Act.put]
  refine wpAnyH_done (by kernel_rfl) ?_ _
  refine NoPanic.normal ?_
  go_simp
  have HF_6 : Hid (Lies wd4 w.heap.size [.int .i64 (N : Int), .int .i64 1, .int .i64 R1, .int .i64 (K : Int), .int .i64 3, .int .i64 R4, .int .i64 la]) := HF_5.out.belowS HX4.out
  have HP_6 : Hid (Lies wd4 (w.heap.size + 1) [.int .i64 s1, .int .i64 s2, .int .i64 e1, .int .i64 e2, .slice a1 K c1, .slice a2 K c2, .slice a3 K c3, .slice a4 K c4]) := HP_5.out.belowS HX4.out
  have HB_6 : Hid (Below w.heap.size w wd4) := HB_5.out.trans (HX4.out.mono HB_5.out.size)
  have HE_6 : Hid (EnvX wd4 aL aN aG aE aR) := HE_5.out.below HX4.out
  have S3_6 : Hid (Sees wd4 a3 K c3 z3) := S3_5.out.below HX4.out
  have S4_6 : Hid (Sees wd4 a4 K c4 z4) := S4_5.out.below HX4.out
  have MQ_6 : Hid (SeesQ wd4 ma K mc MS) := MQ_5.out.below HX4.out
  clear HF_5 HP_5 HB_5 HE_5 S3_5 S4_5 MQ_5
  have QA_6 : Hid (Sees wd4 qa K qc z4) := QA_r4.out
  have RA_6 : Hid (Sees wd4 ra K rc YS) := RA_r4.out
  go_wp2
  go_ret
  refine ⟨?_, HB_6.out⟩
  rcases hv2 with ⟨h1, rfl⟩ | ⟨h1, s, p, a, rfl⟩
  · exact .inl ⟨by rw [h1]; rfl, rfl⟩
  · exact .inr ⟨by rw [h1]; rfl, s, p, a, rfl⟩
end Go.Proofs.YtbcfjbkmkknmfaaGreatDoor
namespace Go.Proofs.YtbcfjbkmkknmfaaGreatDoor
open Go.RowKit Go.Extern.Stop Go.Stop Go.Extern

theorem M.acc_m {m : M.Mc} {p : M.Pf} (h : m.ok = false) : M.acc m p = false := by unfold M.acc; rw [h]; rfl
theorem M.acc_r {m : M.Mc} {p : M.Pf} (h : p.rows = 0) : M.acc m p = false := by unfold M.acc; rw [h]; simp
theorem M.acc_in {m : M.Mc} {p : M.Pf} (h : m.ok = true) (hr : p.rows ≠ 0) : M.acc m p = M.accN m p p.rows := by unfold M.acc; rw [h, decide_eq_true hr]; rfl
set_option maxHeartbeats 8000000 in
set_option maxRecDepth 10000 in
theorem faultIn_any {a1 a2 a3 a4 : Option Addr} {n1 n2 n3 n4 c1 c2 c3 c4 : Nat} {z1 z2 z3 z4 : List Int} {aL aN aG aE aR : Addr} (m : M.Mc) (s1 s2 e1 e2 : Int) (w : World) (he : EnvX w aL aN aG aE aR) (h1 : Sees w a1 n1 c1 z1) (h2 : Sees w a2 n2 c2 z2) (h3 : Sees w a3 n3 c3 z3) (h4 : Sees w a4 n4 c4 z4) :
    Calls Tryz.prog 53 #[mcv m, .agg #[.int .i64 s1, .int .i64 s2, .int .i64 e1, .int .i64 e2, .slice a1 n1 c1, .slice a2 n2 c2, .slice a3 n3 c3, .slice a4 n4 c4]] w fun e w' => FP (M.acc m (⟨(s1, s2), (e1, e2), z1, z2, z3, z4⟩ : M.Pf)) e ∧ Below w.heap.size w w' := by
  have C1 : ∀ W, Calls Tryz.prog 32 #[mcv m] W fun e w' => ∃ v, e = .returned (.tuple #[v, .bool m.ok]) ∧ (m.ok = true → v = .iface 133 (mcv m)) ∧ Below W.heap.size W w' := fun W => (stepperOf_any m W).mono fun e w' ⟨m', h1, h2, h3⟩ => ⟨_, h1, fun h => by rw [h2 h], h3⟩
  have HRI : ∀ W, EnvX W aL aN aG aE aR → Sees W a1 n1 c1 z1 → Sees W a2 n2 c2 z2 → Sees W a3 n3 c3 z3 → Sees W a4 n4 c4 z4 → Calls Tryz.prog 54 #[.agg #[.int .i64 s1, .int .i64 s2, .int .i64 e1, .int .i64 e2, .slice a1 n1 c1, .slice a2 n2 c2, .slice a3 n3 c3, .slice a4 n4 c4]] W fun e w' => RIPost (⟨(s1, s2), (e1, e2), z1, z2, z3, z4⟩ : M.Pf) e ∧ Below W.heap.size W w' := fun W e g1 g2 g3 g4 => rowsIn_any s1 s2 e1 e2 W e.env g1 g2 g3 g4
  have HM0 : Hid (m.ok = false → M.acc m (⟨(s1, s2), (e1, e2), z1, z2, z3, z4⟩ : M.Pf) = false) := M.acc_m
  have HR0 : Hid ((⟨(s1, s2), (e1, e2), z1, z2, z3, z4⟩ : M.Pf).rows = 0 → M.acc m (⟨(s1, s2), (e1, e2), z1, z2, z3, z4⟩ : M.Pf) = false) := M.acc_r
  have HIN : Hid (m.ok = true → (⟨(s1, s2), (e1, e2), z1, z2, z3, z4⟩ : M.Pf).rows ≠ 0 → M.acc m (⟨(s1, s2), (e1, e2), z1, z2, z3, z4⟩ : M.Pf) = M.accN m (⟨(s1, s2), (e1, e2), z1, z2, z3, z4⟩ : M.Pf) (⟨(s1, s2), (e1, e2), z1, z2, z3, z4⟩ : M.Pf).rows) := M.acc_in
  have HRS : Hid ((⟨(s1, s2), (e1, e2), z1, z2, z3, z4⟩ : M.Pf).rows ≠ 0 → M.rowsN (⟨(s1, s2), (e1, e2), z1, z2, z3, z4⟩ : M.Pf).rows = true ∧ (⟨(s1, s2), (e1, e2), z1, z2, z3, z4⟩ : M.Pf).form (⟨(s1, s2), (e1, e2), z1, z2, z3, z4⟩ : M.Pf).rows = true) := M.rows_some
  have HE : Hid (EnvX w aL aN aG aE aR) := he
  have H1 : Hid (Sees w a1 n1 c1 z1) := h1
  have H2 : Hid (Sees w a2 n2 c2 z2) := h2
  have H3 : Hid (Sees w a3 n3 c3 z3) := h3
  have H4 : Hid (Sees w a4 n4 c4 z4) := h4
  clear he h1 h2 h3 h4
  have CFO : ∀ (N : Nat) (W : World), M.rowsN N = true → m.ok = true → (⟨(s1, s2), (e1, e2), z1, z2, z3, z4⟩ : M.Pf).form N = true → EnvX W aL aN aG aE aR → Sees W a1 n1 c1 z1 → Sees W a2 n2 c2 z2 → Sees W a3 n3 c3 z3 → Sees W a4 n4 c4 z4 → Calls Tryz.prog 105 #[frv N, .iface 133 (mcv m), .agg #[.int .i64 s1, .int .i64 s2, .int .i64 e1, .int .i64 e2, .slice a1 n1 c1, .slice a2 n2 c2, .slice a3 n3 c3, .slice a4 n4 c4]] W fun e w' => FP (M.accN m (⟨(s1, s2), (e1, e2), z1, z2, z3, z4⟩ : M.Pf) N) e ∧ Below W.heap.size W w' := fun N W hN hm hf e g1 g2 g3 g4 => by
    obtain ⟨⟨q1, r1⟩, ⟨q2, r2⟩, ⟨q3, r3⟩, ⟨q4, r4⟩, _, _⟩ := (M.form_iff _ _).1 hf
    dsimp only at q1 q2 q3 q4 r1 r2 r3 r4
    have u1 := g1.len.symm.trans q1
    have u2 := g2.len.symm.trans q2
    have u3 := g3.len.symm.trans q3
    have u4 := g4.len.symm.trans q4
    subst u1 u2 u3 u4
    exact faultOf_any m s1 s2 e1 e2 N W hN hm e g1 g2 g3 g4 r1 r2 r3 r4
  have CFR := fun N W h => frameOf_in N W h
  generalize M.acc m (⟨(s1, s2), (e1, e2), z1, z2, z3, z4⟩ : M.Pf) = oA at HM0 HR0 HIN ⊢
  generalize (⟨(s1, s2), (e1, e2), z1, z2, z3, z4⟩ : M.Pf) = P at HRI HM0 HR0 HIN HRS CFO
  generalize m.ok = om at C1 HM0 HIN CFO
  generalize hIF : Value.iface 133 (mcv m) = IF at CFO
  rw [hIF] at C1
  have HAC : Hid (∃ accN : M.Pf → Nat → Bool, accN = M.accN m) := ⟨_, rfl⟩
  obtain ⟨accN, haccN⟩ := HAC.out
  rw [← haccN] at HIN CFO
  clear hIF haccN HAC
  obtain ⟨⟨a, b, c, d, f, k⟩, ⟨a', b', c', d', f', k'⟩⟩ := m
  dsimp only [mcv] at C1 ⊢
  have HB00 : Below w.heap.size w ((w.alloc (.cells #[.int .i64 a, .int .i64 b, .int .i64 c, .int .i64 d, .int .i64 f, .int .i64 k, .int .i64 a', .int .i64 b', .int .i64 c', .int .i64 d', .int .i64 f', .int .i64 k'] 27)).alloc (.cells #[.int .i64 s1, .int .i64 s2, .int .i64 e1, .int .i64 e2, .slice a1 n1 c1, .slice a2 n2 c2, .slice a3 n3 c3, .slice a4 n4 c4] 34)) := ((Below.refl _ _).alloc (Nat.le_refl _) _).alloc (by simp) _
  have HP_0 : Hid (Lies ((w.alloc (.cells #[.int .i64 a, .int .i64 b, .int .i64 c, .int .i64 d, .int .i64 f, .int .i64 k, .int .i64 a', .int .i64 b', .int .i64 c', .int .i64 d', .int .i64 f', .int .i64 k'] 27)).alloc (.cells #[.int .i64 s1, .int .i64 s2, .int .i64 e1, .int .i64 e2, .slice a1 n1 c1, .slice a2 n2 c2, .slice a3 n3 c3, .slice a4 n4 c4] 34)) (w.heap.size + 1) [.int .i64 s1, .int .i64 s2, .int .i64 e1, .int .i64 e2, .slice a1 n1 c1, .slice a2 n2 c2, .slice a3 n3 c3, .slice a4 n4 c4]) := lies_new2 _ _ _ _
  have HB_0 : Hid (Below w.heap.size w ((w.alloc (.cells #[.int .i64 a, .int .i64 b, .int .i64 c, .int .i64 d, .int .i64 f, .int .i64 k, .int .i64 a', .int .i64 b', .int .i64 c', .int .i64 d', .int .i64 f', .int .i64 k'] 27)).alloc (.cells #[.int .i64 s1, .int .i64 s2, .int .i64 e1, .int .i64 e2, .slice a1 n1 c1, .slice a2 n2 c2, .slice a3 n3 c3, .slice a4 n4 c4] 34))) := HB00
  have HE_0 : Hid (EnvX ((w.alloc (.cells #[.int .i64 a, .int .i64 b, .int .i64 c, .int .i64 d, .int .i64 f, .int .i64 k, .int .i64 a', .int .i64 b', .int .i64 c', .int .i64 d', .int .i64 f', .int .i64 k'] 27)).alloc (.cells #[.int .i64 s1, .int .i64 s2, .int .i64 e1, .int .i64 e2, .slice a1 n1 c1, .slice a2 n2 c2, .slice a3 n3 c3, .slice a4 n4 c4] 34)) aL aN aG aE aR) := HE.out.below HB00
  have S1_0 : Hid (Sees ((w.alloc (.cells #[.int .i64 a, .int .i64 b, .int .i64 c, .int .i64 d, .int .i64 f, .int .i64 k, .int .i64 a', .int .i64 b', .int .i64 c', .int .i64 d', .int .i64 f', .int .i64 k'] 27)).alloc (.cells #[.int .i64 s1, .int .i64 s2, .int .i64 e1, .int .i64 e2, .slice a1 n1 c1, .slice a2 n2 c2, .slice a3 n3 c3, .slice a4 n4 c4] 34)) a1 n1 c1 z1) := H1.out.below HB00
  have S2_0 : Hid (Sees ((w.alloc (.cells #[.int .i64 a, .int .i64 b, .int .i64 c, .int .i64 d, .int .i64 f, .int .i64 k, .int .i64 a', .int .i64 b', .int .i64 c', .int .i64 d', .int .i64 f', .int .i64 k'] 27)).alloc (.cells #[.int .i64 s1, .int .i64 s2, .int .i64 e1, .int .i64 e2, .slice a1 n1 c1, .slice a2 n2 c2, .slice a3 n3 c3, .slice a4 n4 c4] 34)) a2 n2 c2 z2) := H2.out.below HB00
  have S3_0 : Hid (Sees ((w.alloc (.cells #[.int .i64 a, .int .i64 b, .int .i64 c, .int .i64 d, .int .i64 f, .int .i64 k, .int .i64 a', .int .i64 b', .int .i64 c', .int .i64 d', .int .i64 f', .int .i64 k'] 27)).alloc (.cells #[.int .i64 s1, .int .i64 s2, .int .i64 e1, .int .i64 e2, .slice a1 n1 c1, .slice a2 n2 c2, .slice a3 n3 c3, .slice a4 n4 c4] 34)) a3 n3 c3 z3) := H3.out.below HB00
  have S4_0 : Hid (Sees ((w.alloc (.cells #[.int .i64 a, .int .i64 b, .int .i64 c, .int .i64 d, .int .i64 f, .int .i64 k, .int .i64 a', .int .i64 b', .int .i64 c', .int .i64 d', .int .i64 f', .int .i64 k'] 27)).alloc (.cells #[.int .i64 s1, .int .i64 s2, .int .i64 e1, .int .i64 e2, .slice a1 n1 c1, .slice a2 n2 c2, .slice a3 n3 c3, .slice a4 n4 c4] 34)) a4 n4 c4 z4) := H4.out.below HB00
  clear HB00 HE H1 H2 H3 H4
  go_enter Tryz.func53, Tryz.ntmps53
  go_wp2_with fail
  refine (C1 _).mono ?_
  rintro e w1 ⟨v, rfl, hv, hb⟩
  have HP_1 : Hid (Lies w1 (w.heap.size + 1) [.int .i64 s1, .int .i64 s2, .int .i64 e1, .int .i64 e2, .slice a1 n1 c1, .slice a2 n2 c2, .slice a3 n3 c3, .slice a4 n4 c4]) := HP_0.out.belowS hb
  have HB_1 : Hid (Below w.heap.size w w1) := HB_0.out.trans (hb.mono HB_0.out.size)
  have HE_1 : Hid (EnvX w1 aL aN aG aE aR) := HE_0.out.below hb
  have S1_1 : Hid (Sees w1 a1 n1 c1 z1) := S1_0.out.below hb
  have S2_1 : Hid (Sees w1 a2 n2 c2 z2) := S2_0.out.below hb
  have S3_1 : Hid (Sees w1 a3 n3 c3 z3) := S3_0.out.below hb
  have S4_1 : Hid (Sees w1 a4 n4 c4 z4) := S4_0.out.below hb
  clear HP_0 HB_0 HE_0 S1_0 S2_0 S3_0 S4_0
  clear hb
  have HV : Hid (om = true → v = IF) := hv
  clear hv
  cases om with
  | false =>
    have gN := HE_1.out.env.cN
    go_wp2_with fail
    refine (inPart_sent _ aN _ HE_1.out.env).mono ?_
    rintro e w9 ⟨rfl, hb9⟩
    have HB9 : Hid (Below w.heap.size w w9) := HB_1.out.trans (hb9.mono HB_1.out.size)
    clear hb9
    go_wp2
    go_ret
    exact ⟨.inr ⟨HM0.out (by simp), _, _, _, rfl⟩, HB9.out⟩
  | true =>
  obtain rfl : v = IF := HV.out rfl
  clear HV
  have p0 : w1.cell? ⟨w.heap.size + 1, 0, none⟩ = some (.int .i64 s1) := HP_1.out.at 0
  have p1 : w1.cell? ⟨w.heap.size + 1, 1, none⟩ = some (.int .i64 s2) := HP_1.out.at 1
  have p2 : w1.cell? ⟨w.heap.size + 1, 2, none⟩ = some (.int .i64 e1) := HP_1.out.at 2
  have p3 : w1.cell? ⟨w.heap.size + 1, 3, none⟩ = some (.int .i64 e2) := HP_1.out.at 3
  have p4 : w1.cell? ⟨w.heap.size + 1, 4, none⟩ = some (.slice a1 n1 c1) := HP_1.out.at 4
  have p5 : w1.cell? ⟨w.heap.size + 1, 5, none⟩ = some (.slice a2 n2 c2) := HP_1.out.at 5
  have p6 : w1.cell? ⟨w.heap.size + 1, 6, none⟩ = some (.slice a3 n3 c3) := HP_1.out.at 6
  have p7 : w1.cell? ⟨w.heap.size + 1, 7, none⟩ = some (.slice a4 n4 c4) := HP_1.out.at 7
  go_wp2_with fail
  refine (HRI _ HE_1.out S1_1.out S2_1.out S3_1.out S4_1.out).mono ?_
  rintro e w2 ⟨hp, hb⟩
  have HP_2 : Hid (Lies w2 (w.heap.size + 1) [.int .i64 s1, .int .i64 s2, .int .i64 e1, .int .i64 e2, .slice a1 n1 c1, .slice a2 n2 c2, .slice a3 n3 c3, .slice a4 n4 c4]) := HP_1.out.belowS hb
  have HB_2 : Hid (Below w.heap.size w w2) := HB_1.out.trans (hb.mono HB_1.out.size)
  have HE_2 : Hid (EnvX w2 aL aN aG aE aR) := HE_1.out.below hb
  have S1_2 : Hid (Sees w2 a1 n1 c1 z1) := S1_1.out.below hb
  have S2_2 : Hid (Sees w2 a2 n2 c2 z2) := S2_1.out.below hb
  have S3_2 : Hid (Sees w2 a3 n3 c3 z3) := S3_1.out.below hb
  have S4_2 : Hid (Sees w2 a4 n4 c4 z4) := S4_1.out.below hb
  clear HP_1 HB_1 HE_1 S1_1 S2_1 S3_1 S4_1
  clear hb
  clear p0 p1 p2 p3 p4 p5 p6 p7
  rcases hp with ⟨hr, rfl⟩ | ⟨hr, ps, pq, pv, rfl⟩
  rotate_left
  · have HR : Hid (P.rows = 0) := hr
    clear hr
    have hnn := fun W => run_neq_iface_nil (P := Tryz.prog) W 171 (.agg #[.string ps, .int .i64 pq, .iface 225 (.pointer (some pv))]) Tryz.underlying107
    unfold rfv
    go_wp2
    go_ret
    exact ⟨.inr ⟨HR0.out HR.out, _, _, _, rfl⟩, HB_2.out⟩
  have HRN : Hid (M.rowsN P.rows = true) := (HRS.out hr).1
  have HRF : Hid (P.form P.rows = true) := (HRS.out hr).2
  have HAC : Hid (oA = accN P P.rows) := HIN.out (by simp) hr
  have hR16 : P.rows ≤ 16 := (M.rowsN_pos HRN.out).2
  clear hr HIN HRS HR0 HM0
  generalize P.rows = R at HRN HRF HAC hR16 ⊢
  go_wp2_with fail
  refine (CFR R _ HRN.out).mono ?_
  rintro e w3 ⟨rfl, hb⟩
  have HP_3 : Hid (Lies w3 (w.heap.size + 1) [.int .i64 s1, .int .i64 s2, .int .i64 e1, .int .i64 e2, .slice a1 n1 c1, .slice a2 n2 c2, .slice a3 n3 c3, .slice a4 n4 c4]) := HP_2.out.belowS hb
  have HB_3 : Hid (Below w.heap.size w w3) := HB_2.out.trans (hb.mono HB_2.out.size)
  have HE_3 : Hid (EnvX w3 aL aN aG aE aR) := HE_2.out.below hb
  have S1_3 : Hid (Sees w3 a1 n1 c1 z1) := S1_2.out.below hb
  have S2_3 : Hid (Sees w3 a2 n2 c2 z2) := S2_2.out.below hb
  have S3_3 : Hid (Sees w3 a3 n3 c3 z3) := S3_2.out.below hb
  have S4_3 : Hid (Sees w3 a4 n4 c4 z4) := S4_2.out.below hb
  clear HP_2 HB_2 HE_2 S1_2 S2_2 S3_2 S4_2
  clear hb
  have CF := fun W e g1 g2 g3 g4 => CFO R W HRN.out (by simp) HRF.out e g1 g2 g3 g4
  clear CFO CFR
  unfold frv at CF ⊢
  generalize M.root (R : Int) = R1 at CF ⊢
  generalize M.root (4 * (R : Int)) = R4 at CF ⊢
  generalize M.lst R = la at CF ⊢
  have hba : Below w3.heap.size w3 (w3.alloc (.cells #[.int .i64 (R : Int), .int .i64 1, .int .i64 R1, .int .i64 (4 * (R : Int)), .int .i64 3, .int .i64 R4, .int .i64 la] 81)) := (Below.refl _ _).alloc (Nat.le_refl _) _
  have HP_4 : Hid (Lies (w3.alloc (.cells #[.int .i64 (R : Int), .int .i64 1, .int .i64 R1, .int .i64 (4 * (R : Int)), .int .i64 3, .int .i64 R4, .int .i64 la] 81)) (w.heap.size + 1) [.int .i64 s1, .int .i64 s2, .int .i64 e1, .int .i64 e2, .slice a1 n1 c1, .slice a2 n2 c2, .slice a3 n3 c3, .slice a4 n4 c4]) := HP_3.out.belowS hba
  have HB_4 : Hid (Below w.heap.size w (w3.alloc (.cells #[.int .i64 (R : Int), .int .i64 1, .int .i64 R1, .int .i64 (4 * (R : Int)), .int .i64 3, .int .i64 R4, .int .i64 la] 81))) := HB_3.out.trans (hba.mono HB_3.out.size)
  have HE_4 : Hid (EnvX (w3.alloc (.cells #[.int .i64 (R : Int), .int .i64 1, .int .i64 R1, .int .i64 (4 * (R : Int)), .int .i64 3, .int .i64 R4, .int .i64 la] 81)) aL aN aG aE aR) := HE_3.out.below hba
  have S1_4 : Hid (Sees (w3.alloc (.cells #[.int .i64 (R : Int), .int .i64 1, .int .i64 R1, .int .i64 (4 * (R : Int)), .int .i64 3, .int .i64 R4, .int .i64 la] 81)) a1 n1 c1 z1) := S1_3.out.below hba
  have S2_4 : Hid (Sees (w3.alloc (.cells #[.int .i64 (R : Int), .int .i64 1, .int .i64 R1, .int .i64 (4 * (R : Int)), .int .i64 3, .int .i64 R4, .int .i64 la] 81)) a2 n2 c2 z2) := S2_3.out.below hba
  have S3_4 : Hid (Sees (w3.alloc (.cells #[.int .i64 (R : Int), .int .i64 1, .int .i64 R1, .int .i64 (4 * (R : Int)), .int .i64 3, .int .i64 R4, .int .i64 la] 81)) a3 n3 c3 z3) := S3_3.out.below hba
  have S4_4 : Hid (Sees (w3.alloc (.cells #[.int .i64 (R : Int), .int .i64 1, .int .i64 R1, .int .i64 (4 * (R : Int)), .int .i64 3, .int .i64 R4, .int .i64 la] 81)) a4 n4 c4 z4) := S4_3.out.below hba
  clear HP_3 HB_3 HE_3 S1_3 S2_3 S3_3 S4_3
  clear hba
  have HF_4 : Hid (Lies (w3.alloc (.cells #[.int .i64 (R : Int), .int .i64 1, .int .i64 R1, .int .i64 (4 * (R : Int)), .int .i64 3, .int .i64 R4, .int .i64 la] 81)) w3.heap.size [.int .i64 (R : Int), .int .i64 1, .int .i64 R1, .int .i64 (4 * (R : Int)), .int .i64 3, .int .i64 R4, .int .i64 la]) := lies_new _ _ _
  have f0 : (w3.alloc (.cells #[.int .i64 (R : Int), .int .i64 1, .int .i64 R1, .int .i64 (4 * (R : Int)), .int .i64 3, .int .i64 R4, .int .i64 la] 81)).cell? ⟨w3.heap.size, 0, none⟩ = some (.int .i64 (R : Int)) := HF_4.out.at 0
  have f1 : (w3.alloc (.cells #[.int .i64 (R : Int), .int .i64 1, .int .i64 R1, .int .i64 (4 * (R : Int)), .int .i64 3, .int .i64 R4, .int .i64 la] 81)).cell? ⟨w3.heap.size, 1, none⟩ = some (.int .i64 1) := HF_4.out.at 1
  have f2 : (w3.alloc (.cells #[.int .i64 (R : Int), .int .i64 1, .int .i64 R1, .int .i64 (4 * (R : Int)), .int .i64 3, .int .i64 R4, .int .i64 la] 81)).cell? ⟨w3.heap.size, 2, none⟩ = some (.int .i64 R1) := HF_4.out.at 2
  have f3 : (w3.alloc (.cells #[.int .i64 (R : Int), .int .i64 1, .int .i64 R1, .int .i64 (4 * (R : Int)), .int .i64 3, .int .i64 R4, .int .i64 la] 81)).cell? ⟨w3.heap.size, 3, none⟩ = some (.int .i64 (4 * (R : Int))) := HF_4.out.at 3
  have f4 : (w3.alloc (.cells #[.int .i64 (R : Int), .int .i64 1, .int .i64 R1, .int .i64 (4 * (R : Int)), .int .i64 3, .int .i64 R4, .int .i64 la] 81)).cell? ⟨w3.heap.size, 4, none⟩ = some (.int .i64 3) := HF_4.out.at 4
  have f5 : (w3.alloc (.cells #[.int .i64 (R : Int), .int .i64 1, .int .i64 R1, .int .i64 (4 * (R : Int)), .int .i64 3, .int .i64 R4, .int .i64 la] 81)).cell? ⟨w3.heap.size, 5, none⟩ = some (.int .i64 R4) := HF_4.out.at 5
  have f6 : (w3.alloc (.cells #[.int .i64 (R : Int), .int .i64 1, .int .i64 R1, .int .i64 (4 * (R : Int)), .int .i64 3, .int .i64 R4, .int .i64 la] 81)).cell? ⟨w3.heap.size, 6, none⟩ = some (.int .i64 la) := HF_4.out.at 6
  have p0 : (w3.alloc (.cells #[.int .i64 (R : Int), .int .i64 1, .int .i64 R1, .int .i64 (4 * (R : Int)), .int .i64 3, .int .i64 R4, .int .i64 la] 81)).cell? ⟨w.heap.size + 1, 0, none⟩ = some (.int .i64 s1) := HP_4.out.at 0
  have p1 : (w3.alloc (.cells #[.int .i64 (R : Int), .int .i64 1, .int .i64 R1, .int .i64 (4 * (R : Int)), .int .i64 3, .int .i64 R4, .int .i64 la] 81)).cell? ⟨w.heap.size + 1, 1, none⟩ = some (.int .i64 s2) := HP_4.out.at 1
  have p2 : (w3.alloc (.cells #[.int .i64 (R : Int), .int .i64 1, .int .i64 R1, .int .i64 (4 * (R : Int)), .int .i64 3, .int .i64 R4, .int .i64 la] 81)).cell? ⟨w.heap.size + 1, 2, none⟩ = some (.int .i64 e1) := HP_4.out.at 2
  have p3 : (w3.alloc (.cells #[.int .i64 (R : Int), .int .i64 1, .int .i64 R1, .int .i64 (4 * (R : Int)), .int .i64 3, .int .i64 R4, .int .i64 la] 81)).cell? ⟨w.heap.size + 1, 3, none⟩ = some (.int .i64 e2) := HP_4.out.at 3
  have p4 : (w3.alloc (.cells #[.int .i64 (R : Int), .int .i64 1, .int .i64 R1, .int .i64 (4 * (R : Int)), .int .i64 3, .int .i64 R4, .int .i64 la] 81)).cell? ⟨w.heap.size + 1, 4, none⟩ = some (.slice a1 n1 c1) := HP_4.out.at 4
  have p5 : (w3.alloc (.cells #[.int .i64 (R : Int), .int .i64 1, .int .i64 R1, .int .i64 (4 * (R : Int)), .int .i64 3, .int .i64 R4, .int .i64 la] 81)).cell? ⟨w.heap.size + 1, 5, none⟩ = some (.slice a2 n2 c2) := HP_4.out.at 5
  have p6 : (w3.alloc (.cells #[.int .i64 (R : Int), .int .i64 1, .int .i64 R1, .int .i64 (4 * (R : Int)), .int .i64 3, .int .i64 R4, .int .i64 la] 81)).cell? ⟨w.heap.size + 1, 6, none⟩ = some (.slice a3 n3 c3) := HP_4.out.at 6
  have p7 : (w3.alloc (.cells #[.int .i64 (R : Int), .int .i64 1, .int .i64 R1, .int .i64 (4 * (R : Int)), .int .i64 3, .int .i64 R4, .int .i64 la] 81)).cell? ⟨w.heap.size + 1, 7, none⟩ = some (.slice a4 n4 c4) := HP_4.out.at 7
  go_wp2_with fail
  clear p0 p1 p2 p3 p4 p5 p6 p7 f0 f1 f2 f3 f4 f5 f6
  refine ((CF _ HE_4.out S1_4.out S2_4.out S3_4.out S4_4.out).mono fun _ _ hp => FP.val hp).mono ?_
  rintro e w5 ⟨v2, rfl, hv2, hb⟩
  have HP_5 : Hid (Lies w5 (w.heap.size + 1) [.int .i64 s1, .int .i64 s2, .int .i64 e1, .int .i64 e2, .slice a1 n1 c1, .slice a2 n2 c2, .slice a3 n3 c3, .slice a4 n4 c4]) := HP_4.out.belowS hb
  have HB_5 : Hid (Below w.heap.size w w5) := HB_4.out.trans (hb.mono HB_4.out.size)
  have HE_5 : Hid (EnvX w5 aL aN aG aE aR) := HE_4.out.below hb
  have S1_5 : Hid (Sees w5 a1 n1 c1 z1) := S1_4.out.below hb
  have S2_5 : Hid (Sees w5 a2 n2 c2 z2) := S2_4.out.below hb
  have S3_5 : Hid (Sees w5 a3 n3 c3 z3) := S3_4.out.below hb
  have S4_5 : Hid (Sees w5 a4 n4 c4 z4) := S4_4.out.below hb
  have HF_5 : Hid (Lies w5 w3.heap.size [.int .i64 (R : Int), .int .i64 1, .int .i64 R1, .int .i64 (4 * (R : Int)), .int .i64 3, .int .i64 R4, .int .i64 la]) := HF_4.out.belowS hb
  clear HP_4 HB_4 HE_4 S1_4 S2_4 S3_4 S4_4 HF_4
  clear hb
  go_wp2
  go_ret
  refine ⟨?_, HB_5.out⟩
  rw [HAC.out]
  rcases hv2 with ⟨h1, rfl⟩ | ⟨h1, s, p, a, rfl⟩
  · exact .inl ⟨h1, rfl⟩
  · exact .inr ⟨h1, s, p, a, rfl⟩
set_option maxHeartbeats 4000000 in
theorem implAccepted_any {a1 a2 a3 a4 : Option Addr} {n1 n2 n3 n4 c1 c2 c3 c4 : Nat} {z1 z2 z3 z4 : List Int} {aL aN aG aE aR : Addr} (m : M.Mc) (s1 s2 e1 e2 : Int) (w : World) (he : EnvX w aL aN aG aE aR) (h1 : Sees w a1 n1 c1 z1) (h2 : Sees w a2 n2 c2 z2) (h3 : Sees w a3 n3 c3 z3) (h4 : Sees w a4 n4 c4 z4) :
    Calls Tryz.prog 13 #[mcv m, .agg #[.int .i64 s1, .int .i64 s2, .int .i64 e1, .int .i64 e2, .slice a1 n1 c1, .slice a2 n2 c2, .slice a3 n3 c3, .slice a4 n4 c4]] w fun e w' => e = .returned (.bool (M.acc m (⟨(s1, s2), (e1, e2), z1, z2, z3, z4⟩ : M.Pf))) ∧ Below w.heap.size w w' := by
  have CF : ∀ W, EnvX W aL aN aG aE aR → Sees W a1 n1 c1 z1 → Sees W a2 n2 c2 z2 → Sees W a3 n3 c3 z3 → Sees W a4 n4 c4 z4 → Calls Tryz.prog 53 #[mcv m, .agg #[.int .i64 s1, .int .i64 s2, .int .i64 e1, .int .i64 e2, .slice a1 n1 c1, .slice a2 n2 c2, .slice a3 n3 c3, .slice a4 n4 c4]] W fun e w' => ∃ v, e = .returned v ∧ FV (M.acc m (⟨(s1, s2), (e1, e2), z1, z2, z3, z4⟩ : M.Pf)) v ∧ Below W.heap.size W w' := fun W e g1 g2 g3 g4 => (faultIn_any m s1 s2 e1 e2 W e g1 g2 g3 g4).mono fun _ _ hp => FP.val hp
  generalize M.acc m (⟨(s1, s2), (e1, e2), z1, z2, z3, z4⟩ : M.Pf) = oA at CF ⊢
  obtain ⟨⟨a, b, c, d, f, k⟩, ⟨a', b', c', d', f', k'⟩⟩ := m
  dsimp only [mcv] at CF ⊢
  have HB00 : Below w.heap.size w ((w.alloc (.cells #[.int .i64 a, .int .i64 b, .int .i64 c, .int .i64 d, .int .i64 f, .int .i64 k, .int .i64 a', .int .i64 b', .int .i64 c', .int .i64 d', .int .i64 f', .int .i64 k'] 27)).alloc (.cells #[.int .i64 s1, .int .i64 s2, .int .i64 e1, .int .i64 e2, .slice a1 n1 c1, .slice a2 n2 c2, .slice a3 n3 c3, .slice a4 n4 c4] 34)) := ((Below.refl _ _).alloc (Nat.le_refl _) _).alloc (by simp) _
  have HB_0 : Hid (Below w.heap.size w ((w.alloc (.cells #[.int .i64 a, .int .i64 b, .int .i64 c, .int .i64 d, .int .i64 f, .int .i64 k, .int .i64 a', .int .i64 b', .int .i64 c', .int .i64 d', .int .i64 f', .int .i64 k'] 27)).alloc (.cells #[.int .i64 s1, .int .i64 s2, .int .i64 e1, .int .i64 e2, .slice a1 n1 c1, .slice a2 n2 c2, .slice a3 n3 c3, .slice a4 n4 c4] 34))) := HB00
  have HE_0 : Hid (EnvX ((w.alloc (.cells #[.int .i64 a, .int .i64 b, .int .i64 c, .int .i64 d, .int .i64 f, .int .i64 k, .int .i64 a', .int .i64 b', .int .i64 c', .int .i64 d', .int .i64 f', .int .i64 k'] 27)).alloc (.cells #[.int .i64 s1, .int .i64 s2, .int .i64 e1, .int .i64 e2, .slice a1 n1 c1, .slice a2 n2 c2, .slice a3 n3 c3, .slice a4 n4 c4] 34)) aL aN aG aE aR) := he.below HB00
  have S1_0 : Hid (Sees ((w.alloc (.cells #[.int .i64 a, .int .i64 b, .int .i64 c, .int .i64 d, .int .i64 f, .int .i64 k, .int .i64 a', .int .i64 b', .int .i64 c', .int .i64 d', .int .i64 f', .int .i64 k'] 27)).alloc (.cells #[.int .i64 s1, .int .i64 s2, .int .i64 e1, .int .i64 e2, .slice a1 n1 c1, .slice a2 n2 c2, .slice a3 n3 c3, .slice a4 n4 c4] 34)) a1 n1 c1 z1) := h1.below HB00
  have S2_0 : Hid (Sees ((w.alloc (.cells #[.int .i64 a, .int .i64 b, .int .i64 c, .int .i64 d, .int .i64 f, .int .i64 k, .int .i64 a', .int .i64 b', .int .i64 c', .int .i64 d', .int .i64 f', .int .i64 k'] 27)).alloc (.cells #[.int .i64 s1, .int .i64 s2, .int .i64 e1, .int .i64 e2, .slice a1 n1 c1, .slice a2 n2 c2, .slice a3 n3 c3, .slice a4 n4 c4] 34)) a2 n2 c2 z2) := h2.below HB00
  have S3_0 : Hid (Sees ((w.alloc (.cells #[.int .i64 a, .int .i64 b, .int .i64 c, .int .i64 d, .int .i64 f, .int .i64 k, .int .i64 a', .int .i64 b', .int .i64 c', .int .i64 d', .int .i64 f', .int .i64 k'] 27)).alloc (.cells #[.int .i64 s1, .int .i64 s2, .int .i64 e1, .int .i64 e2, .slice a1 n1 c1, .slice a2 n2 c2, .slice a3 n3 c3, .slice a4 n4 c4] 34)) a3 n3 c3 z3) := h3.below HB00
  have S4_0 : Hid (Sees ((w.alloc (.cells #[.int .i64 a, .int .i64 b, .int .i64 c, .int .i64 d, .int .i64 f, .int .i64 k, .int .i64 a', .int .i64 b', .int .i64 c', .int .i64 d', .int .i64 f', .int .i64 k'] 27)).alloc (.cells #[.int .i64 s1, .int .i64 s2, .int .i64 e1, .int .i64 e2, .slice a1 n1 c1, .slice a2 n2 c2, .slice a3 n3 c3, .slice a4 n4 c4] 34)) a4 n4 c4 z4) := h4.below HB00
  clear HB00 he h1 h2 h3 h4
  go_enter Tryz.func13, Tryz.ntmps13
  go_wp2_with fail
  refine (CF _ HE_0.out S1_0.out S2_0.out S3_0.out S4_0.out).mono ?_
  rintro e w1 ⟨v, rfl, hv, hb⟩
  have HB_1 : Hid (Below w.heap.size w w1) := HB_0.out.trans (hb.mono HB_0.out.size)
  have HE_1 : Hid (EnvX w1 aL aN aG aE aR) := HE_0.out.below hb
  have S1_1 : Hid (Sees w1 a1 n1 c1 z1) := S1_0.out.below hb
  have S2_1 : Hid (Sees w1 a2 n2 c2 z2) := S2_0.out.below hb
  have S3_1 : Hid (Sees w1 a3 n3 c3 z3) := S3_0.out.below hb
  have S4_1 : Hid (Sees w1 a4 n4 c4 z4) := S4_0.out.below hb
  clear HB_0 HE_0 S1_0 S2_0 S3_0 S4_0
  clear hb
  rcases hv with ⟨rfl, rfl⟩ | ⟨rfl, ps, pq, pv, rfl⟩
  · go_wp2
    go_ret
    exact ⟨rfl, HB_1.out⟩
  · have hnn := fun W => run_eql_iface_nil_left (P := Tryz.prog) W 171 (.agg #[.string ps, .int .i64 pq, .iface 225 (.pointer (some pv))]) Tryz.underlying107
    unfold rfv
    go_wp2
    go_ret
    exact ⟨rfl, HB_1.out⟩
end Go.Proofs.YtbcfjbkmkknmfaaGreatDoor
