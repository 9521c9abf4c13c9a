/- How many rows a proof has, in the program. How many rows a proof has, and what it claims, in the program. -/
import Derived.Test.YtbcfjbkmkknmfaaDoorErD
namespace Go.Proofs.YtbcfjbkmkknmfaaDoor
open Go.RowKit Go.Extern.Stop Go.Stop Go.Extern

theorem run_neq_iface_nil {P : Program} {ti : TypeId} {ms : Array (String × TypeId)} (w : World) (tp : TypeId) (v : Value) (hi : P.underlying ti = some (.interface ms)) : (binOp .neq ti (.iface tp v) .nilIface).run P w = .ok (.bool true) w := by
  have h : ∀ d : Nat, (Op.equalIn (d + 1) ti (.iface tp v) .nilIface).run P w = .ok false w := fun d => by simp [Op.equalIn, run_underlying hi]
  simp only [binOp]
  simp [Op.equal, Op.maxDepth, h 9999]
theorem M.lenEl_no {l : List Int} {n : Nat} (h : ¬ (l.length : Int) = 4 * (n : Int)) : M.lenEl l n = false := by
  cases e : M.lenEl l n with
  | false => rfl
  | true => exact absurd ((M.lenEl_iff l n).1 e).1 (by omega)
theorem M.lenEl_el {l : List Int} (h : M.allEl l = false) (n : Nat) : M.lenEl l n = false := by
  cases e : M.lenEl l n with
  | false => rfl
  | true => rw [((M.lenEl_iff l n).1 e).2] at h; cases h
theorem M.lenEl_yes {l : List Int} {n : Nat} (h1 : (l.length : Int) = 4 * (n : Int)) (h2 : M.allEl l = true) : M.lenEl l n = true := (M.lenEl_iff l n).2 ⟨by omega, h2⟩
theorem M.form_len1 {s e : Int × Int} {z1 z2 z3 z4 : List Int} {n : Nat} (h : ¬ (z1.length : Int) = 4 * (n : Int)) : M.Pf.form ⟨s, e, z1, z2, z3, z4⟩ n = false := by
  unfold M.Pf.form; dsimp only; rw [M.lenEl_no h]; simp
theorem M.form_el1 {s e : Int × Int} {z1 z2 z3 z4 : List Int} (h : M.allEl z1 = false) (n : Nat) : M.Pf.form ⟨s, e, z1, z2, z3, z4⟩ n = false := by
  unfold M.Pf.form; dsimp only; rw [M.lenEl_el h]; simp
theorem M.form_len2 {s e : Int × Int} {z1 z2 z3 z4 : List Int} {n : Nat} (h : ¬ (z2.length : Int) = 4 * (n : Int)) : M.Pf.form ⟨s, e, z1, z2, z3, z4⟩ n = false := by
  unfold M.Pf.form; dsimp only; rw [M.lenEl_no h]; simp
theorem M.form_el2 {s e : Int × Int} {z1 z2 z3 z4 : List Int} (h : M.allEl z2 = false) (n : Nat) : M.Pf.form ⟨s, e, z1, z2, z3, z4⟩ n = false := by
  unfold M.Pf.form; dsimp only; rw [M.lenEl_el h]; simp
theorem M.form_len3 {s e : Int × Int} {z1 z2 z3 z4 : List Int} {n : Nat} (h : ¬ (z3.length : Int) = 4 * (n : Int)) : M.Pf.form ⟨s, e, z1, z2, z3, z4⟩ n = false := by
  unfold M.Pf.form; dsimp only; rw [M.lenEl_no h]; simp
theorem M.form_el3 {s e : Int × Int} {z1 z2 z3 z4 : List Int} (h : M.allEl z3 = false) (n : Nat) : M.Pf.form ⟨s, e, z1, z2, z3, z4⟩ n = false := by
  unfold M.Pf.form; dsimp only; rw [M.lenEl_el h]; simp
theorem M.form_len4 {s e : Int × Int} {z1 z2 z3 z4 : List Int} {n : Nat} (h : ¬ (z4.length : Int) = 4 * (n : Int)) : M.Pf.form ⟨s, e, z1, z2, z3, z4⟩ n = false := by
  unfold M.Pf.form; dsimp only; rw [M.lenEl_no h]; simp
theorem M.form_el4 {s e : Int × Int} {z1 z2 z3 z4 : List Int} (h : M.allEl z4 = false) (n : Nat) : M.Pf.form ⟨s, e, z1, z2, z3, z4⟩ n = false := by
  unfold M.Pf.form; dsimp only; rw [M.lenEl_el h]; simp
theorem M.form_s {s e : Int × Int} {z1 z2 z3 z4 : List Int} (h : M.sOk s = false) (n : Nat) : M.Pf.form ⟨s, e, z1, z2, z3, z4⟩ n = false := by
  unfold M.Pf.form; dsimp only; rw [h]; simp
theorem M.form_e {s e : Int × Int} {z1 z2 z3 z4 : List Int} (h : M.sOk e = false) (n : Nat) : M.Pf.form ⟨s, e, z1, z2, z3, z4⟩ n = false := by
  unfold M.Pf.form; dsimp only; rw [h]; simp
def FFPost (p : M.Pf) (N : Nat) (aL aN : Addr) (e : Ending) : Prop :=
  (e = .returned .nilIface ∧ p.form N = true) ∨ ((∃ s q, e = .returned (rfv s q aL)) ∧ p.form N = false) ∨ ((∃ s q, e = .returned (rfv s q aN)) ∧ ∀ k, p.form k = false)
set_option maxHeartbeats 2000000 in
theorem listsOf_any {a1 a2 a3 a4 : Option Addr} {n1 n2 n3 n4 c1 c2 c3 c4 : Nat} (s1 s2 e1 e2 : Int) (w : World) : Calls Tryd.prog 26 #[.agg #[.int .i64 s1, .int .i64 s2, .int .i64 e1, .int .i64 e2, .slice a1 n1 c1, .slice a2 n2 c2, .slice a3 n3 c3, .slice a4 n4 c4]] w fun e w' => ∃ g, e = .returned (.slice (some ⟨g, 0, none⟩) 4 4) ∧ Lies w' g [.string { data := #[88] }, .slice a1 n1 c1, .string { data := #[89] }, .slice a2 n2 c2, .string { data := #[81, 88] }, .slice a3 n3 c3, .string { data := #[81, 89] }, .slice a4 n4 c4] ∧ Below w.heap.size w w' := by
  have HL : Hid (Lies ((w.alloc (.cells #[.int .i64 s1, .int .i64 s2, .int .i64 e1, .int .i64 e2, .slice a1 n1 c1, .slice a2 n2 c2, .slice a3 n3 c3, .slice a4 n4 c4] 31)).alloc (.cells #[.string { data := #[88] }, .slice a1 n1 c1, .string { data := #[89] }, .slice a2 n2 c2, .string { data := #[81, 88] }, .slice a3 n3 c3, .string { data := #[81, 89] }, .slice a4 n4 c4] 58)) (w.heap.size + 1) [.string { data := #[88] }, .slice a1 n1 c1, .string { data := #[89] }, .slice a2 n2 c2, .string { data := #[81, 88] }, .slice a3 n3 c3, .string { data := #[81, 89] }, .slice a4 n4 c4]) := lies_new2 _ _ _ _
  have HB : Hid (Below w.heap.size w ((w.alloc (.cells #[.int .i64 s1, .int .i64 s2, .int .i64 e1, .int .i64 e2, .slice a1 n1 c1, .slice a2 n2 c2, .slice a3 n3 c3, .slice a4 n4 c4] 31)).alloc (.cells #[.string { data := #[88] }, .slice a1 n1 c1, .string { data := #[89] }, .slice a2 n2 c2, .string { data := #[81, 88] }, .slice a3 n3 c3, .string { data := #[81, 89] }, .slice a4 n4 c4] 58))) := ((Below.refl _ _).alloc (Nat.le_refl _) _).alloc (by simp) _
  go_enter Tryd.func26, Tryd.ntmps26
  go_wp2
  go_ret
  exact ⟨_, rfl, HL.out, HB.out⟩
set_option maxHeartbeats 8000000 in
set_option maxRecDepth 10000 in
theorem formFault_any {a1 a2 a3 a4 : Option Addr} {n1 n2 n3 n4 c1 c2 c3 c4 : Nat} {z1 z2 z3 z4 : List Int} {aL aN : Addr} (s1 s2 e1 e2 : Int) (N : Nat) (w : World) (hN : N ≤ 16) (he : Env w aL aN) (h1 : Sees w a1 n1 c1 z1) (h2 : Sees w a2 n2 c2 z2) (h3 : Sees w a3 n3 c3 z3) (h4 : Sees w a4 n4 c4 z4) :
    Calls Tryd.prog 24 #[.agg #[.int .i64 s1, .int .i64 s2, .int .i64 e1, .int .i64 e2, .slice a1 n1 c1, .slice a2 n2 c2, .slice a3 n3 c3, .slice a4 n4 c4], .int .i64 N] w fun e w' => FFPost (⟨(s1, s2), (e1, e2), z1, z2, z3, z4⟩ : M.Pf) N aL aN e ∧ Below w.heap.size w w' := by
  have C1 := implStateOk_any (s1, s2)
  have C2 := implStateOk_any (e1, e2)
  have HS1 : Hid (M.sOk (s1, s2) = false → ∀ k, M.Pf.form (⟨(s1, s2), (e1, e2), z1, z2, z3, z4⟩ : M.Pf) k = false) := fun h => M.form_s h
  have HS2 : Hid (M.sOk (e1, e2) = false → ∀ k, M.Pf.form (⟨(s1, s2), (e1, e2), z1, z2, z3, z4⟩ : M.Pf) k = false) := fun h => M.form_e h
  have HS3 : Hid (M.sOk (s1, s2) = true → M.sOk (e1, e2) = true → M.lenEl z1 N = true → M.lenEl z2 N = true → M.lenEl z3 N = true → M.lenEl z4 N = true → M.Pf.form (⟨(s1, s2), (e1, e2), z1, z2, z3, z4⟩ : M.Pf) N = true) := fun g1 g2 g3 g4 g5 g6 => by
    show _ = _; unfold M.Pf.form; dsimp only; rw [g1, g2, g3, g4, g5, g6]; rfl
  generalize M.sOk (s1, s2) = o1 at C1 HS1 HS3
  generalize M.sOk (e1, e2) = o2 at C2 HS2 HS3
  dsimp only [stv] at C1 C2
  have L1 : Hid (z1.length = n1) := h1.len
  have L2 : Hid (z2.length = n2) := h2.len
  have L3 : Hid (z3.length = n3) := h3.len
  have L4 : Hid (z4.length = n4) := h4.len
  have H1 : Hid (Sees w a1 n1 c1 z1) := h1
  have H2 : Hid (Sees w a2 n2 c2 z2) := h2
  have H3 : Hid (Sees w a3 n3 c3 z3) := h3
  have H4 : Hid (Sees w a4 n4 c4 z4) := h4
  have hN16 : (N : Int) ≤ 16 := by omega
  have HA0 : Hid (Lies (w.alloc (.cells #[.int .i64 s1, .int .i64 s2, .int .i64 e1, .int .i64 e2, .slice a1 n1 c1, .slice a2 n2 c2, .slice a3 n3 c3, .slice a4 n4 c4] 31)) w.heap.size [.int .i64 s1, .int .i64 s2, .int .i64 e1, .int .i64 e2, .slice a1 n1 c1, .slice a2 n2 c2, .slice a3 n3 c3, .slice a4 n4 c4]) := lies_new _ _ _
  have HB0 : Hid (Below w.heap.size w (w.alloc (.cells #[.int .i64 s1, .int .i64 s2, .int .i64 e1, .int .i64 e2, .slice a1 n1 c1, .slice a2 n2 c2, .slice a3 n3 c3, .slice a4 n4 c4] 31))) := (Below.refl _ _).alloc (Nat.le_refl _) _
  have HE0 : Hid (Env (w.alloc (.cells #[.int .i64 s1, .int .i64 s2, .int .i64 e1, .int .i64 e2, .slice a1 n1 c1, .slice a2 n2 c2, .slice a3 n3 c3, .slice a4 n4 c4] 31)) aL aN) := he.below HB0.out
  have CL := listsOf_any (a1 := a1) (a2 := a2) (a3 := a3) (a4 := a4) (n1 := n1) (n2 := n2) (n3 := n3) (n4 := n4) (c1 := c1) (c2 := c2) (c3 := c3) (c4 := c4) s1 s2 e1 e2
  clear he h1 h2 h3 h4
  go_enter Tryd.func24, Tryd.ntmps24
  go_wp2_with fail
  refine (CL _).mono ?_
  rintro e w2 ⟨g, rfl, hl2, hb2⟩
  have HA : Hid (Lies w2 w.heap.size [.int .i64 s1, .int .i64 s2, .int .i64 e1, .int .i64 e2, .slice a1 n1 c1, .slice a2 n2 c2, .slice a3 n3 c3, .slice a4 n4 c4]) := HA0.out.belowS hb2
  have HLL : Hid (Lies w2 g [.string { data := #[88] }, .slice a1 n1 c1, .string { data := #[89] }, .slice a2 n2 c2, .string { data := #[81, 88] }, .slice a3 n3 c3, .string { data := #[81, 89] }, .slice a4 n4 c4]) := hl2
  have HB : Hid (Below w.heap.size w w2) := HB0.out.trans (hb2.mono HB0.out.size)
  have HE : Hid (Env w2 aL aN) := HE0.out.below hb2
  clear hl2 hb2 HA0 HB0 HE0 CL
  go_wp2
  refine wp_loop_rounds 5 ?_
  have x0 : w2.cell? ⟨g, 0, none⟩ = some (.string { data := #[88] }) := HLL.out.at 0
  have x1 : w2.cell? ⟨g, 1, none⟩ = some (.slice a1 n1 c1) := HLL.out.at 1
  have HAn : Hid (Lies (w2.alloc (.cells #[.string { data := #[88] }, .slice a1 n1 c1] 58)) w.heap.size [.int .i64 s1, .int .i64 s2, .int .i64 e1, .int .i64 e2, .slice a1 n1 c1, .slice a2 n2 c2, .slice a3 n3 c3, .slice a4 n4 c4]) := HA.out.alloc _
  have HLn : Hid (Lies (w2.alloc (.cells #[.string { data := #[88] }, .slice a1 n1 c1] 58)) g [.string { data := #[88] }, .slice a1 n1 c1, .string { data := #[89] }, .slice a2 n2 c2, .string { data := #[81, 88] }, .slice a3 n3 c3, .string { data := #[81, 89] }, .slice a4 n4 c4]) := HLL.out.alloc _
  have HBn : Hid (Below w.heap.size w (w2.alloc (.cells #[.string { data := #[88] }, .slice a1 n1 c1] 58))) := HB.out.alloc HB.out.size _
  have HEn : Hid (Env (w2.alloc (.cells #[.string { data := #[88] }, .slice a1 n1 c1] 58)) aL aN) := HE.out.below ((Below.refl _ _).alloc (Nat.le_refl _) _)
  have HVn : Hid (Lies (w2.alloc (.cells #[.string { data := #[88] }, .slice a1 n1 c1] 58)) w2.heap.size [.string { data := #[88] }, .slice a1 n1 c1]) := lies_new _ _ _
  have hcf := listFault_any (4 * N) (w2.alloc (.cells #[.string { data := #[88] }, .slice a1 n1 c1] 58)) HEn.out (H1.out.below HBn.out)
  rw [rounds_succ]
  go_wp2_with fail
  refine hcf.mono ?_
  rintro e wl1 ⟨hpost, hwl⟩
  generalize (w2.alloc (.cells #[.string { data := #[88] }, .slice a1 n1 c1] 58)) = wv at HAn HLn HBn HEn HVn hwl hcf ⊢
  subst hwl
  generalize w2.heap.size = vb at HVn ⊢
  clear x0 x1 HA HLL HB HE hcf
  have HA : Hid (Lies wl1 w.heap.size [.int .i64 s1, .int .i64 s2, .int .i64 e1, .int .i64 e2, .slice a1 n1 c1, .slice a2 n2 c2, .slice a3 n3 c3, .slice a4 n4 c4]) := HAn.out
  have HLL : Hid (Lies wl1 g [.string { data := #[88] }, .slice a1 n1 c1, .string { data := #[89] }, .slice a2 n2 c2, .string { data := #[81, 88] }, .slice a3 n3 c3, .string { data := #[81, 89] }, .slice a4 n4 c4]) := HLn.out
  have HB : Hid (Below w.heap.size w wl1) := HBn.out
  have HE : Hid (Env wl1 aL aN) := HEn.out
  have y0 : wl1.cell? ⟨vb, 0, none⟩ = some (.string { data := #[88] }) := HVn.out.at 0
  clear HAn HLn HBn HEn HVn
  rcases hpost with ⟨hlen, rfl⟩ | ⟨hlen, hal, rfl⟩ | ⟨hlen, hal, i, rfl⟩
  · have HLen : Hid (¬ (n1 : Int) = 4 * N) := hlen
    clear hlen
    have hnn := fun W => run_neq_iface_nil (P := Tryd.prog) W 105 (.pointer (some aL)) Tryd.underlying47
    unfold snv
    go_wp2_with fail
    refine (inPart_sent _ aL _ HE.out).mono ?_
    rintro e w9 ⟨rfl, hb9⟩
    have HB9 : Hid (Below w.heap.size w w9) := HB.out.trans (hb9.mono HB.out.size)
    clear hb9
    go_wp2
    go_ret
    exact ⟨.inr (.inl ⟨⟨_, _, rfl⟩, M.form_len1 (by rw [L1.out]; exact HLen.out)⟩), HB9.out⟩
  rotate_left
  · have HAl : Hid (M.allEl z1 = false) := hal
    clear hlen hal
    have hnn := fun W => run_neq_iface_nil (P := Tryd.prog) W 70 (.agg #[.string ByteArray.empty, .int .i64 i, .iface 105 (.pointer (some aN))]) Tryd.underlying47
    unfold rfv
    go_wp2_with fail
    refine (inPart_ref _ ByteArray.empty i aN _ HE.out).mono ?_
    rintro e w9 ⟨rfl, hb9⟩
    have HB9 : Hid (Below w.heap.size w w9) := HB.out.trans (hb9.mono HB.out.size)
    clear hb9
    go_wp2
    go_ret
    exact ⟨.inr (.inr ⟨⟨_, _, rfl⟩, fun kk => M.form_el1 HAl.out kk⟩), HB9.out⟩
  have HLen1 : Hid ((n1 : Int) = 4 * N) := hlen
  have HAl1 : Hid (M.allEl z1 = true) := hal
  clear hlen hal y0
  go_wp2
  have x0 : wl1.cell? ⟨g, 2, none⟩ = some (.string { data := #[89] }) := HLL.out.at 2
  have x1 : wl1.cell? ⟨g, 3, none⟩ = some (.slice a2 n2 c2) := HLL.out.at 3
  have HAn : Hid (Lies (wl1.alloc (.cells #[.string { data := #[89] }, .slice a2 n2 c2] 58)) w.heap.size [.int .i64 s1, .int .i64 s2, .int .i64 e1, .int .i64 e2, .slice a1 n1 c1, .slice a2 n2 c2, .slice a3 n3 c3, .slice a4 n4 c4]) := HA.out.alloc _
  have HLn : Hid (Lies (wl1.alloc (.cells #[.string { data := #[89] }, .slice a2 n2 c2] 58)) g [.string { data := #[88] }, .slice a1 n1 c1, .string { data := #[89] }, .slice a2 n2 c2, .string { data := #[81, 88] }, .slice a3 n3 c3, .string { data := #[81, 89] }, .slice a4 n4 c4]) := HLL.out.alloc _
  have HBn : Hid (Below w.heap.size w (wl1.alloc (.cells #[.string { data := #[89] }, .slice a2 n2 c2] 58))) := HB.out.alloc HB.out.size _
  have HEn : Hid (Env (wl1.alloc (.cells #[.string { data := #[89] }, .slice a2 n2 c2] 58)) aL aN) := HE.out.below ((Below.refl _ _).alloc (Nat.le_refl _) _)
  have HVn : Hid (Lies (wl1.alloc (.cells #[.string { data := #[89] }, .slice a2 n2 c2] 58)) wl1.heap.size [.string { data := #[89] }, .slice a2 n2 c2]) := lies_new _ _ _
  have hcf := listFault_any (4 * N) (wl1.alloc (.cells #[.string { data := #[89] }, .slice a2 n2 c2] 58)) HEn.out (H2.out.below HBn.out)
  rw [rounds_succ]
  go_wp2_with fail
  refine hcf.mono ?_
  rintro e wl2 ⟨hpost, hwl⟩
  generalize (wl1.alloc (.cells #[.string { data := #[89] }, .slice a2 n2 c2] 58)) = wv at HAn HLn HBn HEn HVn hwl hcf ⊢
  subst hwl
  generalize wl1.heap.size = vb at HVn ⊢
  clear x0 x1 HA HLL HB HE hcf
  have HA : Hid (Lies wl2 w.heap.size [.int .i64 s1, .int .i64 s2, .int .i64 e1, .int .i64 e2, .slice a1 n1 c1, .slice a2 n2 c2, .slice a3 n3 c3, .slice a4 n4 c4]) := HAn.out
  have HLL : Hid (Lies wl2 g [.string { data := #[88] }, .slice a1 n1 c1, .string { data := #[89] }, .slice a2 n2 c2, .string { data := #[81, 88] }, .slice a3 n3 c3, .string { data := #[81, 89] }, .slice a4 n4 c4]) := HLn.out
  have HB : Hid (Below w.heap.size w wl2) := HBn.out
  have HE : Hid (Env wl2 aL aN) := HEn.out
  have y0 : wl2.cell? ⟨vb, 0, none⟩ = some (.string { data := #[89] }) := HVn.out.at 0
  clear HAn HLn HBn HEn HVn
  rcases hpost with ⟨hlen, rfl⟩ | ⟨hlen, hal, rfl⟩ | ⟨hlen, hal, i, rfl⟩
  · have HLen : Hid (¬ (n2 : Int) = 4 * N) := hlen
    clear hlen
    have hnn := fun W => run_neq_iface_nil (P := Tryd.prog) W 105 (.pointer (some aL)) Tryd.underlying47
    unfold snv
    go_wp2_with fail
    refine (inPart_sent _ aL _ HE.out).mono ?_
    rintro e w9 ⟨rfl, hb9⟩
    have HB9 : Hid (Below w.heap.size w w9) := HB.out.trans (hb9.mono HB.out.size)
    clear hb9
    go_wp2
    go_ret
    exact ⟨.inr (.inl ⟨⟨_, _, rfl⟩, M.form_len2 (by rw [L2.out]; exact HLen.out)⟩), HB9.out⟩
  rotate_left
  · have HAl : Hid (M.allEl z2 = false) := hal
    clear hlen hal
    have hnn := fun W => run_neq_iface_nil (P := Tryd.prog) W 70 (.agg #[.string ByteArray.empty, .int .i64 i, .iface 105 (.pointer (some aN))]) Tryd.underlying47
    unfold rfv
    go_wp2_with fail
    refine (inPart_ref _ ByteArray.empty i aN _ HE.out).mono ?_
    rintro e w9 ⟨rfl, hb9⟩
    have HB9 : Hid (Below w.heap.size w w9) := HB.out.trans (hb9.mono HB.out.size)
    clear hb9
    go_wp2
    go_ret
    exact ⟨.inr (.inr ⟨⟨_, _, rfl⟩, fun kk => M.form_el2 HAl.out kk⟩), HB9.out⟩
  have HLen2 : Hid ((n2 : Int) = 4 * N) := hlen
  have HAl2 : Hid (M.allEl z2 = true) := hal
  clear hlen hal y0
  go_wp2
  have x0 : wl2.cell? ⟨g, 4, none⟩ = some (.string { data := #[81, 88] }) := HLL.out.at 4
  have x1 : wl2.cell? ⟨g, 5, none⟩ = some (.slice a3 n3 c3) := HLL.out.at 5
  have HAn : Hid (Lies (wl2.alloc (.cells #[.string { data := #[81, 88] }, .slice a3 n3 c3] 58)) w.heap.size [.int .i64 s1, .int .i64 s2, .int .i64 e1, .int .i64 e2, .slice a1 n1 c1, .slice a2 n2 c2, .slice a3 n3 c3, .slice a4 n4 c4]) := HA.out.alloc _
  have HLn : Hid (Lies (wl2.alloc (.cells #[.string { data := #[81, 88] }, .slice a3 n3 c3] 58)) g [.string { data := #[88] }, .slice a1 n1 c1, .string { data := #[89] }, .slice a2 n2 c2, .string { data := #[81, 88] }, .slice a3 n3 c3, .string { data := #[81, 89] }, .slice a4 n4 c4]) := HLL.out.alloc _
  have HBn : Hid (Below w.heap.size w (wl2.alloc (.cells #[.string { data := #[81, 88] }, .slice a3 n3 c3] 58))) := HB.out.alloc HB.out.size _
  have HEn : Hid (Env (wl2.alloc (.cells #[.string { data := #[81, 88] }, .slice a3 n3 c3] 58)) aL aN) := HE.out.below ((Below.refl _ _).alloc (Nat.le_refl _) _)
  have HVn : Hid (Lies (wl2.alloc (.cells #[.string { data := #[81, 88] }, .slice a3 n3 c3] 58)) wl2.heap.size [.string { data := #[81, 88] }, .slice a3 n3 c3]) := lies_new _ _ _
  have hcf := listFault_any (4 * N) (wl2.alloc (.cells #[.string { data := #[81, 88] }, .slice a3 n3 c3] 58)) HEn.out (H3.out.below HBn.out)
  rw [rounds_succ]
  go_wp2_with fail
  refine hcf.mono ?_
  rintro e wl3 ⟨hpost, hwl⟩
  generalize (wl2.alloc (.cells #[.string { data := #[81, 88] }, .slice a3 n3 c3] 58)) = wv at HAn HLn HBn HEn HVn hwl hcf ⊢
  subst hwl
  generalize wl2.heap.size = vb at HVn ⊢
  clear x0 x1 HA HLL HB HE hcf
  have HA : Hid (Lies wl3 w.heap.size [.int .i64 s1, .int .i64 s2, .int .i64 e1, .int .i64 e2, .slice a1 n1 c1, .slice a2 n2 c2, .slice a3 n3 c3, .slice a4 n4 c4]) := HAn.out
  have HLL : Hid (Lies wl3 g [.string { data := #[88] }, .slice a1 n1 c1, .string { data := #[89] }, .slice a2 n2 c2, .string { data := #[81, 88] }, .slice a3 n3 c3, .string { data := #[81, 89] }, .slice a4 n4 c4]) := HLn.out
  have HB : Hid (Below w.heap.size w wl3) := HBn.out
  have HE : Hid (Env wl3 aL aN) := HEn.out
  have y0 : wl3.cell? ⟨vb, 0, none⟩ = some (.string { data := #[81, 88] }) := HVn.out.at 0
  clear HAn HLn HBn HEn HVn
  rcases hpost with ⟨hlen, rfl⟩ | ⟨hlen, hal, rfl⟩ | ⟨hlen, hal, i, rfl⟩
  · have HLen : Hid (¬ (n3 : Int) = 4 * N) := hlen
    clear hlen
    have hnn := fun W => run_neq_iface_nil (P := Tryd.prog) W 105 (.pointer (some aL)) Tryd.underlying47
    unfold snv
    go_wp2_with fail
    refine (inPart_sent _ aL _ HE.out).mono ?_
    rintro e w9 ⟨rfl, hb9⟩
    have HB9 : Hid (Below w.heap.size w w9) := HB.out.trans (hb9.mono HB.out.size)
    clear hb9
    go_wp2
    go_ret
    exact ⟨.inr (.inl ⟨⟨_, _, rfl⟩, M.form_len3 (by rw [L3.out]; exact HLen.out)⟩), HB9.out⟩
  rotate_left
  · have HAl : Hid (M.allEl z3 = false) := hal
    clear hlen hal
    have hnn := fun W => run_neq_iface_nil (P := Tryd.prog) W 70 (.agg #[.string ByteArray.empty, .int .i64 i, .iface 105 (.pointer (some aN))]) Tryd.underlying47
    unfold rfv
    go_wp2_with fail
    refine (inPart_ref _ ByteArray.empty i aN _ HE.out).mono ?_
    rintro e w9 ⟨rfl, hb9⟩
    have HB9 : Hid (Below w.heap.size w w9) := HB.out.trans (hb9.mono HB.out.size)
    clear hb9
    go_wp2
    go_ret
    exact ⟨.inr (.inr ⟨⟨_, _, rfl⟩, fun kk => M.form_el3 HAl.out kk⟩), HB9.out⟩
  have HLen3 : Hid ((n3 : Int) = 4 * N) := hlen
  have HAl3 : Hid (M.allEl z3 = true) := hal
  clear hlen hal y0
  go_wp2
  have x0 : wl3.cell? ⟨g, 6, none⟩ = some (.string { data := #[81, 89] }) := HLL.out.at 6
  have x1 : wl3.cell? ⟨g, 7, none⟩ = some (.slice a4 n4 c4) := HLL.out.at 7
  have HAn : Hid (Lies (wl3.alloc (.cells #[.string { data := #[81, 89] }, .slice a4 n4 c4] 58)) w.heap.size [.int .i64 s1, .int .i64 s2, .int .i64 e1, .int .i64 e2, .slice a1 n1 c1, .slice a2 n2 c2, .slice a3 n3 c3, .slice a4 n4 c4]) := HA.out.alloc _
  have HLn : Hid (Lies (wl3.alloc (.cells #[.string { data := #[81, 89] }, .slice a4 n4 c4] 58)) g [.string { data := #[88] }, .slice a1 n1 c1, .string { data := #[89] }, .slice a2 n2 c2, .string { data := #[81, 88] }, .slice a3 n3 c3, .string { data := #[81, 89] }, .slice a4 n4 c4]) := HLL.out.alloc _
  have HBn : Hid (Below w.heap.size w (wl3.alloc (.cells #[.string { data := #[81, 89] }, .slice a4 n4 c4] 58))) := HB.out.alloc HB.out.size _
  have HEn : Hid (Env (wl3.alloc (.cells #[.string { data := #[81, 89] }, .slice a4 n4 c4] 58)) aL aN) := HE.out.below ((Below.refl _ _).alloc (Nat.le_refl _) _)
  have HVn : Hid (Lies (wl3.alloc (.cells #[.string { data := #[81, 89] }, .slice a4 n4 c4] 58)) wl3.heap.size [.string { data := #[81, 89] }, .slice a4 n4 c4]) := lies_new _ _ _
  have hcf := listFault_any (4 * N) (wl3.alloc (.cells #[.string { data := #[81, 89] }, .slice a4 n4 c4] 58)) HEn.out (H4.out.below HBn.out)
  rw [rounds_succ]
  go_wp2_with fail
  refine hcf.mono ?_
  rintro e wl4 ⟨hpost, hwl⟩
  generalize (wl3.alloc (.cells #[.string { data := #[81, 89] }, .slice a4 n4 c4] 58)) = wv at HAn HLn HBn HEn HVn hwl hcf ⊢
  subst hwl
  generalize wl3.heap.size = vb at HVn ⊢
  clear x0 x1 HA HLL HB HE hcf
  have HA : Hid (Lies wl4 w.heap.size [.int .i64 s1, .int .i64 s2, .int .i64 e1, .int .i64 e2, .slice a1 n1 c1, .slice a2 n2 c2, .slice a3 n3 c3, .slice a4 n4 c4]) := HAn.out
  have HLL : Hid (Lies wl4 g [.string { data := #[88] }, .slice a1 n1 c1, .string { data := #[89] }, .slice a2 n2 c2, .string { data := #[81, 88] }, .slice a3 n3 c3, .string { data := #[81, 89] }, .slice a4 n4 c4]) := HLn.out
  have HB : Hid (Below w.heap.size w wl4) := HBn.out
  have HE : Hid (Env wl4 aL aN) := HEn.out
  have y0 : wl4.cell? ⟨vb, 0, none⟩ = some (.string { data := #[81, 89] }) := HVn.out.at 0
  clear HAn HLn HBn HEn HVn
  rcases hpost with ⟨hlen, rfl⟩ | ⟨hlen, hal, rfl⟩ | ⟨hlen, hal, i, rfl⟩
  · have HLen : Hid (¬ (n4 : Int) = 4 * N) := hlen
    clear hlen
    have hnn := fun W => run_neq_iface_nil (P := Tryd.prog) W 105 (.pointer (some aL)) Tryd.underlying47
    unfold snv
    go_wp2_with fail
    refine (inPart_sent _ aL _ HE.out).mono ?_
    rintro e w9 ⟨rfl, hb9⟩
    have HB9 : Hid (Below w.heap.size w w9) := HB.out.trans (hb9.mono HB.out.size)
    clear hb9
    go_wp2
    go_ret
    exact ⟨.inr (.inl ⟨⟨_, _, rfl⟩, M.form_len4 (by rw [L4.out]; exact HLen.out)⟩), HB9.out⟩
  rotate_left
  · have HAl : Hid (M.allEl z4 = false) := hal
    clear hlen hal
    have hnn := fun W => run_neq_iface_nil (P := Tryd.prog) W 70 (.agg #[.string ByteArray.empty, .int .i64 i, .iface 105 (.pointer (some aN))]) Tryd.underlying47
    unfold rfv
    go_wp2_with fail
    refine (inPart_ref _ ByteArray.empty i aN _ HE.out).mono ?_
    rintro e w9 ⟨rfl, hb9⟩
    have HB9 : Hid (Below w.heap.size w w9) := HB.out.trans (hb9.mono HB.out.size)
    clear hb9
    go_wp2
    go_ret
    exact ⟨.inr (.inr ⟨⟨_, _, rfl⟩, fun kk => M.form_el4 HAl.out kk⟩), HB9.out⟩
  have HLen4 : Hid ((n4 : Int) = 4 * N) := hlen
  have HAl4 : Hid (M.allEl z4 = true) := hal
  clear hlen hal y0
  go_wp2
  rw [rounds_succ]
  have s0 : wl4.cell? ⟨w.heap.size, 0, none⟩ = some (.int .i64 s1) := HA.out.at 0
  have s1' : wl4.cell? ⟨w.heap.size, 1, none⟩ = some (.int .i64 s2) := HA.out.at 1
  go_wp2_with fail
  refine (C1 _).mono ?_
  rintro e w5 ⟨rfl, hb5⟩
  have HA5 : Hid (Lies w5 w.heap.size [.int .i64 s1, .int .i64 s2, .int .i64 e1, .int .i64 e2, .slice a1 n1 c1, .slice a2 n2 c2, .slice a3 n3 c3, .slice a4 n4 c4]) := HA.out.belowS hb5
  have HB5 : Hid (Below w.heap.size w w5) := HB.out.trans (hb5.mono HB.out.size)
  have HE5 : Hid (Env w5 aL aN) := HE.out.below hb5
  clear hb5 s0 s1' HA HLL HB HE
  cases o1 with
  | false =>
    have gN := HE5.out.cN
    go_wp2_with fail
    refine (inPart_sent _ aN _ HE5.out).mono ?_
    rintro e w9 ⟨rfl, hb9⟩
    have HB9 : Hid (Below w.heap.size w w9) := HB5.out.trans (hb9.mono HB5.out.size)
    clear hb9
    go_wp2
    go_ret
    exact ⟨.inr (.inr ⟨⟨_, _, rfl⟩, HS1.out (by simp)⟩), HB9.out⟩
  | true =>
    have s0 : w5.cell? ⟨w.heap.size, 2, none⟩ = some (.int .i64 e1) := HA5.out.at 2
    have s1' : w5.cell? ⟨w.heap.size, 3, none⟩ = some (.int .i64 e2) := HA5.out.at 3
    go_wp2_with fail
    refine (C2 _).mono ?_
    rintro e w6 ⟨rfl, hb6⟩
    have HB6 : Hid (Below w.heap.size w w6) := HB5.out.trans (hb6.mono HB5.out.size)
    have HE6 : Hid (Env w6 aL aN) := HE5.out.below hb6
    clear hb6 s0 s1' HA5 HB5 HE5
    cases o2 with
    | false =>
      have gN := HE6.out.cN
      go_wp2_with fail
      refine (inPart_sent _ aN _ HE6.out).mono ?_
      rintro e w9 ⟨rfl, hb9⟩
      have HB9 : Hid (Below w.heap.size w w9) := HB6.out.trans (hb9.mono HB6.out.size)
      clear hb9
      go_wp2
      go_ret
      exact ⟨.inr (.inr ⟨⟨_, _, rfl⟩, HS2.out (by simp)⟩), HB9.out⟩
    | true =>
      go_wp2
      go_ret
      exact ⟨.inl ⟨rfl, HS3.out (by simp) (by simp) (M.lenEl_yes (by rw [L1.out]; exact HLen1.out) HAl1.out) (M.lenEl_yes (by rw [L2.out]; exact HLen2.out) HAl2.out) (M.lenEl_yes (by rw [L3.out]; exact HLen3.out) HAl3.out) (M.lenEl_yes (by rw [L4.out]; exact HLen4.out) HAl4.out)⟩, HB6.out⟩
end Go.Proofs.YtbcfjbkmkknmfaaDoor
namespace Go.Proofs.YtbcfjbkmkknmfaaDoor
open Go.RowKit Go.Extern.Stop Go.Stop Go.Extern

theorem M.rows2 {p : M.Pf} (h : p.form 2 = true) : p.rows = 2 := M.rows_of rfl h
theorem M.rows4 {p : M.Pf} (h : p.form 4 = true) : p.rows = 4 := M.rows_of rfl h
theorem M.rows8 {p : M.Pf} (h : p.form 8 = true) : p.rows = 8 := M.rows_of rfl h
theorem M.rows16 {p : M.Pf} (h : p.form 16 = true) : p.rows = 16 := M.rows_of rfl h
theorem M.rows0 {p : M.Pf} (h2 : p.form 2 = false) (h4 : p.form 4 = false) (h8 : p.form 8 = false) (h16 : p.form 16 = false) : p.rows = 0 := by
  unfold M.Pf.rows; rw [h2, h4, h8, h16]; simp
def RIPost (p : M.Pf) (e : Ending) : Prop := (p.rows ≠ 0 ∧ e = .returned (.tuple #[.int .i64 (p.rows : Nat), .nilIface])) ∨ (p.rows = 0 ∧ ∃ s q a, e = .returned (.tuple #[.int .i64 0, rfv s q a]))
set_option maxHeartbeats 8000000 in
set_option maxRecDepth 10000 in
theorem rowsIn_any {a1 a2 a3 a4 : Option Addr} {n1 n2 n3 n4 c1 c2 c3 c4 : Nat} {z1 z2 z3 z4 : List Int} {aL aN : Addr} (s1 s2 e1 e2 : Int) (w : World) (he : Env w aL aN) (h1 : Sees w a1 n1 c1 z1) (h2 : Sees w a2 n2 c2 z2) (h3 : Sees w a3 n3 c3 z3) (h4 : Sees w a4 n4 c4 z4) :
    Calls Tryd.prog 19 #[.agg #[.int .i64 s1, .int .i64 s2, .int .i64 e1, .int .i64 e2, .slice a1 n1 c1, .slice a2 n2 c2, .slice a3 n3 c3, .slice a4 n4 c4]] w fun e w' => RIPost (⟨(s1, s2), (e1, e2), z1, z2, z3, z4⟩ : M.Pf) e ∧ Below w.heap.size w w' := by
  generalize hPF : (⟨(s1, s2), (e1, e2), z1, z2, z3, z4⟩ : M.Pf) = P
  have HPF : Hid ((⟨(s1, s2), (e1, e2), z1, z2, z3, z4⟩ : M.Pf) = P) := hPF
  have HR2 : Hid (P.form 2 = true → P.rows = 2) := M.rows2
  have HR4 : Hid (P.form 4 = true → P.form 2 = false → P.rows = 4) := fun h _ => M.rows4 h
  have HR8 : Hid (P.form 8 = true → P.form 2 = false → P.form 4 = false → P.rows = 8) := fun h _ _ => M.rows8 h
  have HR16 : Hid (P.form 16 = true → P.form 2 = false → P.form 4 = false → P.form 8 = false → P.rows = 16) := fun h _ _ _ => M.rows16 h
  have HR0 : Hid (P.form 2 = false → P.form 4 = false → P.form 8 = false → P.form 16 = false → P.rows = 0) := M.rows0
  have H1 : Hid (Sees w a1 n1 c1 z1) := h1
  have H2 : Hid (Sees w a2 n2 c2 z2) := h2
  have H3 : Hid (Sees w a3 n3 c3 z3) := h3
  have H4 : Hid (Sees w a4 n4 c4 z4) := h4
  have HA0 : Hid (Lies (w.alloc (.cells #[.int .i64 s1, .int .i64 s2, .int .i64 e1, .int .i64 e2, .slice a1 n1 c1, .slice a2 n2 c2, .slice a3 n3 c3, .slice a4 n4 c4] 31)) w.heap.size [.int .i64 s1, .int .i64 s2, .int .i64 e1, .int .i64 e2, .slice a1 n1 c1, .slice a2 n2 c2, .slice a3 n3 c3, .slice a4 n4 c4]) := lies_new _ _ _
  have HB0 : Hid (Below w.heap.size w (w.alloc (.cells #[.int .i64 s1, .int .i64 s2, .int .i64 e1, .int .i64 e2, .slice a1 n1 c1, .slice a2 n2 c2, .slice a3 n3 c3, .slice a4 n4 c4] 31))) := (Below.refl _ _).alloc (Nat.le_refl _) _
  have HE0 : Hid (Env (w.alloc (.cells #[.int .i64 s1, .int .i64 s2, .int .i64 e1, .int .i64 e2, .slice a1 n1 c1, .slice a2 n2 c2, .slice a3 n3 c3, .slice a4 n4 c4] 31)) aL aN) := he.below HB0.out
  have hcf := formFault_any (a1 := a1) (a2 := a2) (a3 := a3) (a4 := a4) (n1 := n1) (n2 := n2) (n3 := n3) (n4 := n4) (c1 := c1) (c2 := c2) (c3 := c3) (c4 := c4) s1 s2 e1 e2 2 (w.alloc (.cells #[.int .i64 s1, .int .i64 s2, .int .i64 e1, .int .i64 e2, .slice a1 n1 c1, .slice a2 n2 c2, .slice a3 n3 c3, .slice a4 n4 c4] 31)) (by decide) HE0.out (h1.below HB0.out) (h2.below HB0.out) (h3.below HB0.out) (h4.below HB0.out)
  clear he h1 h2 h3 h4 hPF
  go_enter Tryd.func19, Tryd.ntmps19
  go_wp2_with fail
  refine hcf.mono ?_
  rintro e w2 ⟨hp, hb⟩
  have HA2 : Hid (Lies w2 w.heap.size [.int .i64 s1, .int .i64 s2, .int .i64 e1, .int .i64 e2, .slice a1 n1 c1, .slice a2 n2 c2, .slice a3 n3 c3, .slice a4 n4 c4]) := HA0.out.belowS hb
  have HB2 : Hid (Below w.heap.size w w2) := HB0.out.trans (hb.mono HB0.out.size)
  have HE2 : Hid (Env w2 aL aN) := HE0.out.below hb
  clear hb hcf HA0 HB0 HE0
  rw [HPF.out] at hp
  rcases hp with ⟨rfl, hf⟩ | ⟨⟨ps, pq, rfl⟩, hf⟩ | ⟨⟨ps, pq, rfl⟩, hf⟩
  · have HF : Hid (P.form 2 = true) := hf
    clear hf
    have gL := HE2.out.cL
    go_wp2
    refine wp_loop_rounds 4 ?_
    rw [rounds_succ]
    go_wp2_with fail
    refine (is_nil aL _).mono ?_
    rintro e wx ⟨rfl, hwx⟩
    subst hwx
    go_wp2
    go_ret2
    exact ⟨.inl ⟨by rw [HR2.out HF.out]; decide, by rw [HR2.out HF.out]; rfl⟩, HB2.out⟩
  · have HF2 : Hid (P.form 2 = false) := hf
    clear hf
    have gL := HE2.out.cL
    unfold rfv
    go_wp2
    refine wp_loop_rounds 4 ?_
    rw [rounds_succ]
    go_wp2_with fail
    refine (is_ref_same ps pq aL _).mono ?_
    rintro e wx2 ⟨rfl, hbx⟩
    have HAx : Hid (Lies wx2 w.heap.size [.int .i64 s1, .int .i64 s2, .int .i64 e1, .int .i64 e2, .slice a1 n1 c1, .slice a2 n2 c2, .slice a3 n3 c3, .slice a4 n4 c4]) := HA2.out.belowS hbx
    have HBx : Hid (Below w.heap.size w wx2) := HB2.out.trans (hbx.mono HB2.out.size)
    have HEx : Hid (Env wx2 aL aN) := HE2.out.below hbx
    have x0 : wx2.cell? ⟨w.heap.size, 0, none⟩ = some (.int .i64 s1) := HAx.out.at 0
    have x1 : wx2.cell? ⟨w.heap.size, 1, none⟩ = some (.int .i64 s2) := HAx.out.at 1
    have x2 : wx2.cell? ⟨w.heap.size, 2, none⟩ = some (.int .i64 e1) := HAx.out.at 2
    have x3 : wx2.cell? ⟨w.heap.size, 3, none⟩ = some (.int .i64 e2) := HAx.out.at 3
    have x4 : wx2.cell? ⟨w.heap.size, 4, none⟩ = some (.slice a1 n1 c1) := HAx.out.at 4
    have x5 : wx2.cell? ⟨w.heap.size, 5, none⟩ = some (.slice a2 n2 c2) := HAx.out.at 5
    have x6 : wx2.cell? ⟨w.heap.size, 6, none⟩ = some (.slice a3 n3 c3) := HAx.out.at 6
    have x7 : wx2.cell? ⟨w.heap.size, 7, none⟩ = some (.slice a4 n4 c4) := HAx.out.at 7
    have hcf := formFault_any (a1 := a1) (a2 := a2) (a3 := a3) (a4 := a4) (n1 := n1) (n2 := n2) (n3 := n3) (n4 := n4) (c1 := c1) (c2 := c2) (c3 := c3) (c4 := c4) s1 s2 e1 e2 4 wx2 (by decide) HEx.out (H1.out.below HBx.out) (H2.out.below HBx.out) (H3.out.below HBx.out) (H4.out.below HBx.out)
    clear hbx gL HA2 HB2 HE2
    go_wp2_with fail
    refine hcf.mono ?_
    rintro e w4 ⟨hp, hb⟩
    have HA4 : Hid (Lies w4 w.heap.size [.int .i64 s1, .int .i64 s2, .int .i64 e1, .int .i64 e2, .slice a1 n1 c1, .slice a2 n2 c2, .slice a3 n3 c3, .slice a4 n4 c4]) := HAx.out.belowS hb
    have HB4 : Hid (Below w.heap.size w w4) := HBx.out.trans (hb.mono HBx.out.size)
    have HE4 : Hid (Env w4 aL aN) := HEx.out.below hb
    clear hb hcf HAx HBx HEx x0 x1 x2 x3 x4 x5 x6 x7
    rw [HPF.out] at hp
    rcases hp with ⟨rfl, hf⟩ | ⟨⟨ps, pq, rfl⟩, hf⟩ | ⟨⟨ps, pq, rfl⟩, hf⟩
    · have HF : Hid (P.form 4 = true) := hf
      clear hf
      have gL := HE4.out.cL
      go_wp2
      rw [rounds_succ]
      go_wp2_with fail
      refine (is_nil aL _).mono ?_
      rintro e wx ⟨rfl, hwx⟩
      subst hwx
      go_wp2
      go_ret2
      exact ⟨.inl ⟨by rw [HR4.out HF.out HF2.out]; decide, by rw [HR4.out HF.out HF2.out]; rfl⟩, HB4.out⟩
    · have HF4 : Hid (P.form 4 = false) := hf
      clear hf
      have gL := HE4.out.cL
      unfold rfv
      go_wp2
      rw [rounds_succ]
      go_wp2_with fail
      refine (is_ref_same ps pq aL _).mono ?_
      rintro e wx4 ⟨rfl, hbx⟩
      have HAx : Hid (Lies wx4 w.heap.size [.int .i64 s1, .int .i64 s2, .int .i64 e1, .int .i64 e2, .slice a1 n1 c1, .slice a2 n2 c2, .slice a3 n3 c3, .slice a4 n4 c4]) := HA4.out.belowS hbx
      have HBx : Hid (Below w.heap.size w wx4) := HB4.out.trans (hbx.mono HB4.out.size)
      have HEx : Hid (Env wx4 aL aN) := HE4.out.below hbx
      have x0 : wx4.cell? ⟨w.heap.size, 0, none⟩ = some (.int .i64 s1) := HAx.out.at 0
      have x1 : wx4.cell? ⟨w.heap.size, 1, none⟩ = some (.int .i64 s2) := HAx.out.at 1
      have x2 : wx4.cell? ⟨w.heap.size, 2, none⟩ = some (.int .i64 e1) := HAx.out.at 2
      have x3 : wx4.cell? ⟨w.heap.size, 3, none⟩ = some (.int .i64 e2) := HAx.out.at 3
      have x4 : wx4.cell? ⟨w.heap.size, 4, none⟩ = some (.slice a1 n1 c1) := HAx.out.at 4
      have x5 : wx4.cell? ⟨w.heap.size, 5, none⟩ = some (.slice a2 n2 c2) := HAx.out.at 5
      have x6 : wx4.cell? ⟨w.heap.size, 6, none⟩ = some (.slice a3 n3 c3) := HAx.out.at 6
      have x7 : wx4.cell? ⟨w.heap.size, 7, none⟩ = some (.slice a4 n4 c4) := HAx.out.at 7
      have hcf := formFault_any (a1 := a1) (a2 := a2) (a3 := a3) (a4 := a4) (n1 := n1) (n2 := n2) (n3 := n3) (n4 := n4) (c1 := c1) (c2 := c2) (c3 := c3) (c4 := c4) s1 s2 e1 e2 8 wx4 (by decide) HEx.out (H1.out.below HBx.out) (H2.out.below HBx.out) (H3.out.below HBx.out) (H4.out.below HBx.out)
      clear hbx gL HA4 HB4 HE4
      go_wp2_with fail
      refine hcf.mono ?_
      rintro e w8 ⟨hp, hb⟩
      have HA8 : Hid (Lies w8 w.heap.size [.int .i64 s1, .int .i64 s2, .int .i64 e1, .int .i64 e2, .slice a1 n1 c1, .slice a2 n2 c2, .slice a3 n3 c3, .slice a4 n4 c4]) := HAx.out.belowS hb
      have HB8 : Hid (Below w.heap.size w w8) := HBx.out.trans (hb.mono HBx.out.size)
      have HE8 : Hid (Env w8 aL aN) := HEx.out.below hb
      clear hb hcf HAx HBx HEx x0 x1 x2 x3 x4 x5 x6 x7
      rw [HPF.out] at hp
      rcases hp with ⟨rfl, hf⟩ | ⟨⟨ps, pq, rfl⟩, hf⟩ | ⟨⟨ps, pq, rfl⟩, hf⟩
      · have HF : Hid (P.form 8 = true) := hf
        clear hf
        have gL := HE8.out.cL
        go_wp2
        rw [rounds_succ]
        go_wp2_with fail
        refine (is_nil aL _).mono ?_
        rintro e wx ⟨rfl, hwx⟩
        subst hwx
        go_wp2
        go_ret2
        exact ⟨.inl ⟨by rw [HR8.out HF.out HF2.out HF4.out]; decide, by rw [HR8.out HF.out HF2.out HF4.out]; rfl⟩, HB8.out⟩
      · have HF8 : Hid (P.form 8 = false) := hf
        clear hf
        have gL := HE8.out.cL
        unfold rfv
        go_wp2
        rw [rounds_succ]
        go_wp2_with fail
        refine (is_ref_same ps pq aL _).mono ?_
        rintro e wx8 ⟨rfl, hbx⟩
        have HAx : Hid (Lies wx8 w.heap.size [.int .i64 s1, .int .i64 s2, .int .i64 e1, .int .i64 e2, .slice a1 n1 c1, .slice a2 n2 c2, .slice a3 n3 c3, .slice a4 n4 c4]) := HA8.out.belowS hbx
        have HBx : Hid (Below w.heap.size w wx8) := HB8.out.trans (hbx.mono HB8.out.size)
        have HEx : Hid (Env wx8 aL aN) := HE8.out.below hbx
        have x0 : wx8.cell? ⟨w.heap.size, 0, none⟩ = some (.int .i64 s1) := HAx.out.at 0
        have x1 : wx8.cell? ⟨w.heap.size, 1, none⟩ = some (.int .i64 s2) := HAx.out.at 1
        have x2 : wx8.cell? ⟨w.heap.size, 2, none⟩ = some (.int .i64 e1) := HAx.out.at 2
        have x3 : wx8.cell? ⟨w.heap.size, 3, none⟩ = some (.int .i64 e2) := HAx.out.at 3
        have x4 : wx8.cell? ⟨w.heap.size, 4, none⟩ = some (.slice a1 n1 c1) := HAx.out.at 4
        have x5 : wx8.cell? ⟨w.heap.size, 5, none⟩ = some (.slice a2 n2 c2) := HAx.out.at 5
        have x6 : wx8.cell? ⟨w.heap.size, 6, none⟩ = some (.slice a3 n3 c3) := HAx.out.at 6
        have x7 : wx8.cell? ⟨w.heap.size, 7, none⟩ = some (.slice a4 n4 c4) := HAx.out.at 7
        have hcf := formFault_any (a1 := a1) (a2 := a2) (a3 := a3) (a4 := a4) (n1 := n1) (n2 := n2) (n3 := n3) (n4 := n4) (c1 := c1) (c2 := c2) (c3 := c3) (c4 := c4) s1 s2 e1 e2 16 wx8 (by decide) HEx.out (H1.out.below HBx.out) (H2.out.below HBx.out) (H3.out.below HBx.out) (H4.out.below HBx.out)
        clear hbx gL HA8 HB8 HE8
        go_wp2_with fail
        refine hcf.mono ?_
        rintro e w16 ⟨hp, hb⟩
        have HA16 : Hid (Lies w16 w.heap.size [.int .i64 s1, .int .i64 s2, .int .i64 e1, .int .i64 e2, .slice a1 n1 c1, .slice a2 n2 c2, .slice a3 n3 c3, .slice a4 n4 c4]) := HAx.out.belowS hb
        have HB16 : Hid (Below w.heap.size w w16) := HBx.out.trans (hb.mono HBx.out.size)
        have HE16 : Hid (Env w16 aL aN) := HEx.out.below hb
        clear hb hcf HAx HBx HEx x0 x1 x2 x3 x4 x5 x6 x7
        rw [HPF.out] at hp
        rcases hp with ⟨rfl, hf⟩ | ⟨⟨ps, pq, rfl⟩, hf⟩ | ⟨⟨ps, pq, rfl⟩, hf⟩
        · have HF : Hid (P.form 16 = true) := hf
          clear hf
          go_wp2
          rw [rounds_succ]
          go_wp2
          go_ret2
          exact ⟨.inl ⟨by rw [HR16.out HF.out HF2.out HF4.out HF8.out]; decide, by rw [HR16.out HF.out HF2.out HF4.out HF8.out]; rfl⟩, HB16.out⟩
        · have HF16 : Hid (P.form 16 = false) := hf
          clear hf
          have hnn := fun W => run_neq_iface_nil (P := Tryd.prog) W 70 (.agg #[.string ps, .int .i64 pq, .iface 105 (.pointer (some aL))]) Tryd.underlying47
          unfold rfv
          go_wp2
          rw [rounds_succ]
          go_wp2
          go_ret2
          exact ⟨.inr ⟨HR0.out HF2.out HF4.out HF8.out HF16.out, _, _, _, rfl⟩, HB16.out⟩
        · have HF : Hid (∀ k, P.form k = false) := hf
          clear hf
          have hnn := fun W => run_neq_iface_nil (P := Tryd.prog) W 70 (.agg #[.string ps, .int .i64 pq, .iface 105 (.pointer (some aN))]) Tryd.underlying47
          unfold rfv
          go_wp2
          rw [rounds_succ]
          go_wp2
          go_ret2
          exact ⟨.inr ⟨HR0.out (HF.out 2) (HF.out 4) (HF.out 8) (HF.out 16), _, _, _, rfl⟩, HB16.out⟩
      · have HF : Hid (∀ k, P.form k = false) := hf
        clear hf
        have hnn := fun W => run_neq_iface_nil (P := Tryd.prog) W 70 (.agg #[.string ps, .int .i64 pq, .iface 105 (.pointer (some aN))]) Tryd.underlying47
        have gL := HE8.out.cL
        obtain ⟨ca, ta, hha⟩ := HE8.out.hN
        obtain ⟨cb, tb, hhb⟩ := HE8.out.hL
        have HHA : Hid (w8.heap[aN.block]? = some (.cells ca ta (0, 0))) := hha
        have HHB : Hid (w8.heap[aL.block]? = some (.cells cb tb (0, 0))) := hhb
        clear hha hhb
        unfold rfv
        go_wp2
        rw [rounds_succ]
        go_wp2_with fail
        refine (is_ref_other ps pq aN aL ca cb ta tb _ HE8.out.ne HHA.out HHB.out).mono ?_
        rintro e wx ⟨rfl, hbx⟩
        have HBx : Hid (Below w.heap.size w wx) := HB8.out.trans (hbx.mono HB8.out.size)
        clear hbx
        go_wp2
        go_ret2
        exact ⟨.inr ⟨HR0.out (HF.out 2) (HF.out 4) (HF.out 8) (HF.out 16), _, _, _, rfl⟩, HBx.out⟩
    · have HF : Hid (∀ k, P.form k = false) := hf
      clear hf
      have hnn := fun W => run_neq_iface_nil (P := Tryd.prog) W 70 (.agg #[.string ps, .int .i64 pq, .iface 105 (.pointer (some aN))]) Tryd.underlying47
      have gL := HE4.out.cL
      obtain ⟨ca, ta, hha⟩ := HE4.out.hN
      obtain ⟨cb, tb, hhb⟩ := HE4.out.hL
      have HHA : Hid (w4.heap[aN.block]? = some (.cells ca ta (0, 0))) := hha
      have HHB : Hid (w4.heap[aL.block]? = some (.cells cb tb (0, 0))) := hhb
      clear hha hhb
      unfold rfv
      go_wp2
      rw [rounds_succ]
      go_wp2_with fail
      refine (is_ref_other ps pq aN aL ca cb ta tb _ HE4.out.ne HHA.out HHB.out).mono ?_
      rintro e wx ⟨rfl, hbx⟩
      have HBx : Hid (Below w.heap.size w wx) := HB4.out.trans (hbx.mono HB4.out.size)
      clear hbx
      go_wp2
      go_ret2
      exact ⟨.inr ⟨HR0.out (HF.out 2) (HF.out 4) (HF.out 8) (HF.out 16), _, _, _, rfl⟩, HBx.out⟩
  · have HF : Hid (∀ k, P.form k = false) := hf
    clear hf
    have hnn := fun W => run_neq_iface_nil (P := Tryd.prog) W 70 (.agg #[.string ps, .int .i64 pq, .iface 105 (.pointer (some aN))]) Tryd.underlying47
    have gL := HE2.out.cL
    obtain ⟨ca, ta, hha⟩ := HE2.out.hN
    obtain ⟨cb, tb, hhb⟩ := HE2.out.hL
    have HHA : Hid (w2.heap[aN.block]? = some (.cells ca ta (0, 0))) := hha
    have HHB : Hid (w2.heap[aL.block]? = some (.cells cb tb (0, 0))) := hhb
    clear hha hhb
    unfold rfv
    go_wp2
    refine wp_loop_rounds 4 ?_
    rw [rounds_succ]
    go_wp2_with fail
    refine (is_ref_other ps pq aN aL ca cb ta tb _ HE2.out.ne HHA.out HHB.out).mono ?_
    rintro e wx ⟨rfl, hbx⟩
    have HBx : Hid (Below w.heap.size w wx) := HB2.out.trans (hbx.mono HB2.out.size)
    clear hbx
    go_wp2
    go_ret2
    exact ⟨.inr ⟨HR0.out (HF.out 2) (HF.out 4) (HF.out 8) (HF.out 16), _, _, _, rfl⟩, HBx.out⟩

set_option maxHeartbeats 4000000 in
theorem implRowsOf_any {a1 a2 a3 a4 : Option Addr} {n1 n2 n3 n4 c1 c2 c3 c4 : Nat} {z1 z2 z3 z4 : List Int} {aL aN : Addr} (s1 s2 e1 e2 : Int) (w : World) (he : Env w aL aN) (h1 : Sees w a1 n1 c1 z1) (h2 : Sees w a2 n2 c2 z2) (h3 : Sees w a3 n3 c3 z3) (h4 : Sees w a4 n4 c4 z4) :
    Calls Tryd.prog 8 #[.agg #[.int .i64 s1, .int .i64 s2, .int .i64 e1, .int .i64 e2, .slice a1 n1 c1, .slice a2 n2 c2, .slice a3 n3 c3, .slice a4 n4 c4]] w fun e w' => e = .returned (.int .i64 (M.Pf.rows (⟨(s1, s2), (e1, e2), z1, z2, z3, z4⟩ : M.Pf) : Nat)) ∧ Below w.heap.size w w' := by
  have HB0 : Hid (Below w.heap.size w (w.alloc (.cells #[.int .i64 s1, .int .i64 s2, .int .i64 e1, .int .i64 e2, .slice a1 n1 c1, .slice a2 n2 c2, .slice a3 n3 c3, .slice a4 n4 c4] 31))) := (Below.refl _ _).alloc (Nat.le_refl _) _
  have hcf := rowsIn_any (a1 := a1) (a2 := a2) (a3 := a3) (a4 := a4) (n1 := n1) (n2 := n2) (n3 := n3) (n4 := n4) (c1 := c1) (c2 := c2) (c3 := c3) (c4 := c4) s1 s2 e1 e2 (w.alloc (.cells #[.int .i64 s1, .int .i64 s2, .int .i64 e1, .int .i64 e2, .slice a1 n1 c1, .slice a2 n2 c2, .slice a3 n3 c3, .slice a4 n4 c4] 31)) (he.below HB0.out) (h1.below HB0.out) (h2.below HB0.out) (h3.below HB0.out) (h4.below HB0.out)
  generalize (⟨(s1, s2), (e1, e2), z1, z2, z3, z4⟩ : M.Pf) = P at hcf ⊢
  clear he h1 h2 h3 h4
  go_enter Tryd.func8, Tryd.ntmps8
  go_wp2_with fail
  refine hcf.mono ?_
  rintro e w2 ⟨hp, hb⟩
  have HB2 : Hid (Below w.heap.size w w2) := HB0.out.trans (hb.mono HB0.out.size)
  clear hb hcf HB0
  rcases hp with ⟨hr, rfl⟩ | ⟨hr, ps, pq, pa, rfl⟩
  · clear hr
    go_wp2
    go_ret
    exact ⟨rfl, HB2.out⟩
  · have hnn := fun W => run_neq_iface_nil (P := Tryd.prog) W 70 (.agg #[.string ps, .int .i64 pq, .iface 105 (.pointer (some pa))]) Tryd.underlying47
    have HR : Hid (P.rows = 0) := hr
    clear hr
    unfold rfv
    go_wp2
    go_ret
    exact ⟨by rw [HR.out]; rfl, HB2.out⟩
end Go.Proofs.YtbcfjbkmkknmfaaDoor
