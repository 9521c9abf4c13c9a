/- How many rows a proof has, in the model; a law's proof turned into the program's. -/
import Derived.Test.YtbcfjbkmkknmfaaGreatDoorPfA
import Derived.Test.YtbcfjbkmkknmfaaGreatDoorMaA
import Derived.Test.YtbcfjbkmkknmfaaGreatDoorMaS
namespace Go.Proofs.YtbcfjbkmkknmfaaGreatDoor
open Go.RowKit

theorem M.rows_need {p : M.Pf} {q : Nat} (hq : q = p.X.length / 4) (h : p.rows ≠ 0) : M.rows (q : Int) = true ∧ (p.X.length : Int) = 4 * (q : Int) ∧ p.Y.length = p.X.length ∧ p.QX.length = p.X.length ∧ p.QY.length = p.X.length ∧ M.sOk p.s = true ∧ M.sOk p.e = true ∧ M.allEl p.X = true ∧ M.allEl p.Y = true ∧ M.allEl p.QX = true ∧ M.allEl p.QY = true := by
  obtain ⟨h1, h2⟩ := M.rows_some h
  obtain ⟨⟨a1, b1⟩, ⟨a2, b2⟩, ⟨a3, b3⟩, ⟨a4, b4⟩, c1, c2⟩ := (M.form_iff _ _).1 h2
  have hqr : q = p.rows := by omega
  refine ⟨?_, by omega, by omega, by omega, by omega, c1, c2, b1, b2, b3, b4⟩
  rw [hqr]
  rcases M.rowsN_cases h1 with e | e | e | e <;> rw [e] <;> rfl
theorem M.rows_have {p : M.Pf} {q : Nat} (h0 : M.rows (q : Int) = true) (h1 : (p.X.length : Int) = 4 * (q : Int)) (h2 : p.Y.length = p.X.length) (h3 : p.QX.length = p.X.length) (h4 : p.QY.length = p.X.length) (h5 : M.sOk p.s = true) (h6 : M.sOk p.e = true) (h7 : M.allEl p.X = true) (h8 : M.allEl p.Y = true) (h9 : M.allEl p.QX = true) (hA : M.allEl p.QY = true) : p.rows = q := by
  refine M.rows_of ?_ ((M.form_iff _ _).2 ⟨⟨by omega, h7⟩, ⟨by omega, h8⟩, ⟨by omega, h9⟩, ⟨by omega, hA⟩, h5, h6⟩)
  rcases M.rows_yes h0 with e | e | e | e
  · have : q = 2 := by omega
    subst this; rfl
  · have : q = 4 := by omega
    subst this; rfl
  · have : q = 8 := by omega
    subst this; rfl
  · have : q = 16 := by omega
    subst this; rfl
theorem wpList_runG {P : Program} {w : World} {ops : Array Oper} {rest : List Oper} {o : Oper} {a : Act} {Q : Exit → Act → World → Prop} (hw : Region.wanted o (yielded ops a.tmps) = true) (v : Value) (w' : World)
    (hrun : (execOp a.eval o).run P w = .ok (.value v) w') (h : wpList P ops Q rest (a.put o.dst v) w') : wpList P ops Q (o :: rest) a w := by
  refine wpList_step fun K hK => ?_
  rw [if_pos hw]
  unfold Oper.wp
  rw [hrun]
  exact hK _ _ h
def fastGo (P : Program) (ops : Array Oper) : List Oper → Act → World → Option (Act × World)
  | [], a, w => some (a, w)
  | o :: rest, a, w =>
    if Region.wanted o (yielded ops a.tmps) then
      match (execOp a.eval o).run P w with
      | .ok (.value v) w' => fastGo P ops rest (a.put o.dst v) w'
      | _ => none
    else fastGo P ops rest (a.put o.dst undef) w
theorem wpList_fast {P : Program} {ops : Array Oper} {Q : Exit → Act → World → Prop} : ∀ (rest : List Oper) (a : Act) (w : World) {a' : Act} {w' : World}, fastGo P ops rest a w = some (a', w') → Q .normal a' w' → wpList P ops Q rest a w
  | [], a, w, a', w', h, k => by
    simp only [fastGo, Option.some.injEq, Prod.mk.injEq] at h
    obtain ⟨rfl, rfl⟩ := h
    exact k
  | o :: rest, a, w, a', w', h, k => by
    unfold fastGo at h
    split at h
    · rename_i hw
      split at h
      · rename_i v w1 hr
        exact wpList_runG hw v w1 hr (wpList_fast rest _ _ h k)
      · cases h
    · rename_i hw
      exact wpList_skip (by simpa using hw) (wpList_fast rest _ _ h k)
theorem wpList_fastS {P : Program} {ops : Array Oper} {Q : Exit → Act → World → Prop} {rest : List Oper} {a : Act} {w : World} (js : List Nat) (h : fastGo P ops rest a w = some (js.foldl (fun a j => a.put (some j) (.bool true)) a, w))
    (k : Q .normal (js.foldl (fun a j => a.put (some j) (.bool true)) a) w) : wpList P ops Q rest a w := wpList_fast rest a w h k
theorem M.zero_of {R : Nat} {P : Prop} (h : R ≠ 0 → P) (hn : ¬ P) : R = 0 := Classical.byContradiction fun h0 => hn (h h0)
set_option maxHeartbeats 40000000 in
set_option maxRecDepth 10000 in
theorem specRowsOf_any {a1 a2 a3 a4 : Option Addr} {n1 n2 n3 n4 c1 c2 c3 c4 : Nat} {z1 z2 z3 z4 : List Int} (s1 s2 e1 e2 : Int) (w : World) (h1 : Sees w a1 n1 c1 z1) (h2 : Sees w a2 n2 c2 z2) (h3 : Sees w a3 n3 c3 z3) (h4 : Sees w a4 n4 c4 z4) (l1 : n1 ≤ 1048576) (l2 : n2 ≤ 1048576) (l3 : n3 ≤ 1048576) (l4 : n4 ≤ 1048576) :
    Calls Tryz.prog 17 #[.agg #[.int .i64 s1, .int .i64 s2, .int .i64 e1, .int .i64 e2, .slice a1 n1 c1, .slice a2 n2 c2, .slice a3 n3 c3, .slice a4 n4 c4]] w fun e w' => e = .returned (.int .i64 (M.Pf.rows (⟨(s1, s2), (e1, e2), z1, z2, z3, z4⟩ : M.Pf) : Nat)) ∧ Below w.heap.size w w' := by
  obtain ⟨q, hq⟩ : ∃ q, q = n1 / 4 := ⟨_, rfl⟩
  have hneed := M.rows_need (p := (⟨(s1, s2), (e1, e2), z1, z2, z3, z4⟩ : M.Pf)) (q := q) (by rw [hq]; exact congrArg (· / 4) h1.len.symm)
  have hhave := M.rows_have (p := (⟨(s1, s2), (e1, e2), z1, z2, z3, z4⟩ : M.Pf)) (q := q)
  dsimp only at hneed hhave
  rw [h1.len, h2.len, h3.len, h4.len] at hneed hhave
  have C1 := l6Rows_any (q : Int)
  have C2 := specStateOk_any (s1, s2)
  have C3 := specStateOk_any (e1, e2)
  have D1 : ∀ W, Sees W a1 n1 c1 z1 → Calls Tryz.prog 64 #[.slice a1 n1 c1] W fun e w' => e = .returned (.bool (M.allEl z1)) ∧ w' = W := fun W hW => l1All_any W hW
  have D2 : ∀ W, Sees W a2 n2 c2 z2 → Calls Tryz.prog 64 #[.slice a2 n2 c2] W fun e w' => e = .returned (.bool (M.allEl z2)) ∧ w' = W := fun W hW => l1All_any W hW
  have D3 : ∀ W, Sees W a3 n3 c3 z3 → Calls Tryz.prog 64 #[.slice a3 n3 c3] W fun e w' => e = .returned (.bool (M.allEl z3)) ∧ w' = W := fun W hW => l1All_any W hW
  have D4 : ∀ W, Sees W a4 n4 c4 z4 → Calls Tryz.prog 64 #[.slice a4 n4 c4] W fun e w' => e = .returned (.bool (M.allEl z4)) ∧ w' = W := fun W hW => l1All_any W hW
  generalize M.Pf.rows (⟨(s1, s2), (e1, e2), z1, z2, z3, z4⟩ : M.Pf) = R at hneed hhave ⊢
  generalize M.sOk (s1, s2) = o1 at C2 hneed hhave
  generalize M.sOk (e1, e2) = o2 at C3 hneed hhave
  generalize M.rows (q : Int) = o0 at C1 hneed hhave
  generalize M.allEl z1 = p1 at D1 hneed hhave
  generalize M.allEl z2 = p2 at D2 hneed hhave
  generalize M.allEl z3 = p3 at D3 hneed hhave
  generalize M.allEl z4 = p4 at D4 hneed hhave
  have NEED : Hid (R ≠ 0 → o0 = true ∧ (n1 : Int) = 4 * (q : Int) ∧ n2 = n1 ∧ n3 = n1 ∧ n4 = n1 ∧ o1 = true ∧ o2 = true ∧ p1 = true ∧ p2 = true ∧ p3 = true ∧ p4 = true) := hneed
  have HAVE : Hid (o0 = true → (n1 : Int) = 4 * (q : Int) → n2 = n1 → n3 = n1 → n4 = n1 → o1 = true → o2 = true → p1 = true → p2 = true → p3 = true → p4 = true → R = q) := hhave
  have HQ : Hid (q = n1 / 4) := hq
  have HD1 : Hid (∀ W, Sees W a1 n1 c1 z1 → Calls Tryz.prog 64 #[.slice a1 n1 c1] W fun e w' => e = .returned (.bool p1) ∧ w' = W) := D1
  have HD2 : Hid (∀ W, Sees W a2 n2 c2 z2 → Calls Tryz.prog 64 #[.slice a2 n2 c2] W fun e w' => e = .returned (.bool p2) ∧ w' = W) := D2
  have HD3 : Hid (∀ W, Sees W a3 n3 c3 z3 → Calls Tryz.prog 64 #[.slice a3 n3 c3] W fun e w' => e = .returned (.bool p3) ∧ w' = W) := D3
  have HD4 : Hid (∀ W, Sees W a4 n4 c4 z4 → Calls Tryz.prog 64 #[.slice a4 n4 c4] W fun e w' => e = .returned (.bool p4) ∧ w' = W) := D4
  have HC1 : Hid (∀ W, Calls Tryz.prog 44 #[.int .i64 (q : Int)] W fun e w' => e = .returned (.bool o0) ∧ w' = W) := C1
  have HC2 : Hid (∀ W, Calls Tryz.prog 43 #[.agg #[.int .i64 s1, .int .i64 s2]] W fun e w' => e = .returned (.bool o1) ∧ Below W.heap.size W w') := C2
  have HC3 : Hid (∀ W, Calls Tryz.prog 43 #[.agg #[.int .i64 e1, .int .i64 e2]] W fun e w' => e = .returned (.bool o2) ∧ Below W.heap.size W w') := C3
  have H1 : Hid (Sees w a1 n1 c1 z1) := h1
  have H2 : Hid (Sees w a2 n2 c2 z2) := h2
  have H3 : Hid (Sees w a3 n3 c3 z3) := h3
  have H4 : Hid (Sees w a4 n4 c4 z4) := h4
  have hdiv : (n1 : Int).tdiv 4 = (q : Int) := by rw [Int.tdiv_eq_ediv_of_nonneg (by omega)]; omega
  have hn1 : (n1 : Int) ≤ 1048576 := by omega
  have hn2 : (n2 : Int) ≤ 1048576 := by omega
  have hn3 : (n3 : Int) ≤ 1048576 := by omega
  have hn4 : (n4 : Int) ≤ 1048576 := by omega
  have hq1 : (q : Int) ≤ 262144 := by omega
  have HA : Hid (Lies (w.alloc (.cells #[.int .i64 s1, .int .i64 s2, .int .i64 e1, .int .i64 e2, .slice a1 n1 c1, .slice a2 n2 c2, .slice a3 n3 c3, .slice a4 n4 c4] 34)) w.heap.size [.int .i64 s1, .int .i64 s2, .int .i64 e1, .int .i64 e2, .slice a1 n1 c1, .slice a2 n2 c2, .slice a3 n3 c3, .slice a4 n4 c4]) := lies_new _ _ _
  have HB : Hid (Below w.heap.size w (w.alloc (.cells #[.int .i64 s1, .int .i64 s2, .int .i64 e1, .int .i64 e2, .slice a1 n1 c1, .slice a2 n2 c2, .slice a3 n3 c3, .slice a4 n4 c4] 34))) := (Below.refl _ _).alloc (Nat.le_refl _) _
  clear hneed hhave hq D1 D2 D3 D4 C1 C2 C3 h1 h2 h3 h4
  go_enter Tryz.func17, Tryz.ntmps17
  go_wp2_with fail
  refine (HC1.out _).mono ?_
  rintro e wa ⟨rfl, hwa⟩
  generalize (w.alloc (.cells #[.int .i64 s1, .int .i64 s2, .int .i64 e1, .int .i64 e2, .slice a1 n1 c1, .slice a2 n2 c2, .slice a3 n3 c3, .slice a4 n4 c4] 34)) = wv at HA HB hwa ⊢
  subst hwa
  have x0 : wa.cell? ⟨w.heap.size, 0, none⟩ = some (.int .i64 s1) := HA.out.at 0
  have x1 : wa.cell? ⟨w.heap.size, 1, none⟩ = some (.int .i64 s2) := HA.out.at 1
  have x2 : wa.cell? ⟨w.heap.size, 2, none⟩ = some (.int .i64 e1) := HA.out.at 2
  have x3 : wa.cell? ⟨w.heap.size, 3, none⟩ = some (.int .i64 e2) := HA.out.at 3
  have x4 : wa.cell? ⟨w.heap.size, 4, none⟩ = some (.slice a1 n1 c1) := HA.out.at 4
  have x5 : wa.cell? ⟨w.heap.size, 5, none⟩ = some (.slice a2 n2 c2) := HA.out.at 5
  have x6 : wa.cell? ⟨w.heap.size, 6, none⟩ = some (.slice a3 n3 c3) := HA.out.at 6
  have x7 : wa.cell? ⟨w.heap.size, 7, none⟩ = some (.slice a4 n4 c4) := HA.out.at 7
  cases o0 with
  | false =>
    have HZ0 : Hid (R = 0) := M.zero_of NEED.out (fun h => absurd h.1 (by simp))
    try clear NEED
    try clear HAVE
    try clear HQ
    try clear HD1
    try clear HD2
    try clear HD3
    try clear HD4
    try clear HC1
    try clear HC2
    try clear HC3
    try clear H1
    try clear H2
    try clear H3
    try clear H4
    try clear HA
    try clear x0
    try clear x1
    try clear x2
    try clear x3
    try clear x4
    try clear x5
    try clear x6
    try clear x7
    try clear hdiv
    try clear hn1
    try clear hn2
    try clear hn3
    try clear hn4
    try clear hq1
    try clear l1
    try clear l2
    try clear l3
    try clear l4
    try clear HX1
    try clear HX2
    try clear HX3
    try clear HX4
    rename_i hxk
    refine hxk _ _ ?_
    clear hxk
    with_reducible refine wpList_fastS [10, 11, 18, 19, 27, 28, 36, 37, 45, 46, 51, 52, 57, 58, 63, 64, 69, 70, 75, 76, 81] ?_ ?_
    · kernel_rfl
    dsimp only [List.foldl]
    go_simp
    go_wp2
    go_ret
    exact ⟨by rw [HZ0.out]; rfl, HB.out⟩
  | true =>
    go_wp2_with fail
    rotate_left 1
    · have HZ0 : Hid (R = 0) := M.zero_of NEED.out (fun h => by have k1 := h.2.1; have k2 := h.2.2.1; have k3 := h.2.2.2.1; have k4 := h.2.2.2.2.1; omega)
      go_ret
      exact ⟨by rw [HZ0.out]; rfl, HB.out⟩
    · have HZ0 : Hid (R = 0) := M.zero_of NEED.out (fun h => by have k1 := h.2.1; have k2 := h.2.2.1; have k3 := h.2.2.2.1; have k4 := h.2.2.2.2.1; omega)
      go_ret
      exact ⟨by rw [HZ0.out]; rfl, HB.out⟩
    · have HZ0 : Hid (R = 0) := M.zero_of NEED.out (fun h => by have k1 := h.2.1; have k2 := h.2.2.1; have k3 := h.2.2.2.1; have k4 := h.2.2.2.2.1; omega)
      go_ret
      exact ⟨by rw [HZ0.out]; rfl, HB.out⟩
    · have HZ0 : Hid (R = 0) := M.zero_of NEED.out (fun h => by have k1 := h.2.1; have k2 := h.2.2.1; have k3 := h.2.2.2.1; have k4 := h.2.2.2.2.1; omega)
      go_ret
      exact ⟨by rw [HZ0.out]; rfl, HB.out⟩
    rename_i y1 y2 y3 y4 kk ak
    have HX1 : Hid ((n1 : Int) = 4 * (q : Int)) := y1
    have HX2 : Hid (n2 = n1) := by show n2 = n1; omega
    have HX3 : Hid (n3 = n1) := by show n3 = n1; omega
    have HX4 : Hid (n4 = n1) := by show n4 = n1; omega
    refine (HC2.out _).mono ?_
    rintro e wb ⟨rfl, hbb⟩
    have HAb : Hid (Lies wb w.heap.size [.int .i64 s1, .int .i64 s2, .int .i64 e1, .int .i64 e2, .slice a1 n1 c1, .slice a2 n2 c2, .slice a3 n3 c3, .slice a4 n4 c4]) := HA.out.belowS hbb
    have HBb : Hid (Below w.heap.size w wb) := HB.out.trans (hbb.mono HB.out.size)
    clear hbb HA HB
    clear x0 x1 x2 x3 x4 x5 x6 x7
    have HA : Hid (Lies wb w.heap.size [.int .i64 s1, .int .i64 s2, .int .i64 e1, .int .i64 e2, .slice a1 n1 c1, .slice a2 n2 c2, .slice a3 n3 c3, .slice a4 n4 c4]) := HAb.out
    have HB : Hid (Below w.heap.size w wb) := HBb.out
    clear HAb HBb
    have x0 : wb.cell? ⟨w.heap.size, 0, none⟩ = some (.int .i64 s1) := HA.out.at 0
    have x1 : wb.cell? ⟨w.heap.size, 1, none⟩ = some (.int .i64 s2) := HA.out.at 1
    have x2 : wb.cell? ⟨w.heap.size, 2, none⟩ = some (.int .i64 e1) := HA.out.at 2
    have x3 : wb.cell? ⟨w.heap.size, 3, none⟩ = some (.int .i64 e2) := HA.out.at 3
    have x4 : wb.cell? ⟨w.heap.size, 4, none⟩ = some (.slice a1 n1 c1) := HA.out.at 4
    have x5 : wb.cell? ⟨w.heap.size, 5, none⟩ = some (.slice a2 n2 c2) := HA.out.at 5
    have x6 : wb.cell? ⟨w.heap.size, 6, none⟩ = some (.slice a3 n3 c3) := HA.out.at 6
    have x7 : wb.cell? ⟨w.heap.size, 7, none⟩ = some (.slice a4 n4 c4) := HA.out.at 7
    cases o1 with
    | false =>
      have HZ0 : Hid (R = 0) := M.zero_of NEED.out (fun h => absurd h.2.2.2.2.2.1 (by simp))
      try clear NEED
      try clear HAVE
      try clear HQ
      try clear HD1
      try clear HD2
      try clear HD3
      try clear HD4
      try clear HC1
      try clear HC2
      try clear HC3
      try clear H1
      try clear H2
      try clear H3
      try clear H4
      try clear HA
      try clear x0
      try clear x1
      try clear x2
      try clear x3
      try clear x4
      try clear x5
      try clear x6
      try clear x7
      try clear hdiv
      try clear hn1
      try clear hn2
      try clear hn3
      try clear hn4
      try clear hq1
      try clear l1
      try clear l2
      try clear l3
      try clear l4
      try clear HX1
      try clear HX2
      try clear HX3
      try clear HX4
      refine ak _ _ ?_
      clear ak
      with_reducible refine wpList_fastS [50, 51, 52, 57, 58, 63, 64, 69, 70, 75, 76, 81] ?_ ?_
      · kernel_rfl
      dsimp only [List.foldl]
      go_simp
      go_wp2
      go_ret
      exact ⟨by rw [HZ0.out]; rfl, HB.out⟩
    | true =>
      go_wp2_with fail
      refine (HC3.out _).mono ?_
      rintro e wc ⟨rfl, hbb⟩
      have HAb : Hid (Lies wc w.heap.size [.int .i64 s1, .int .i64 s2, .int .i64 e1, .int .i64 e2, .slice a1 n1 c1, .slice a2 n2 c2, .slice a3 n3 c3, .slice a4 n4 c4]) := HA.out.belowS hbb
      have HBb : Hid (Below w.heap.size w wc) := HB.out.trans (hbb.mono HB.out.size)
      clear hbb HA HB
      clear x0 x1 x2 x3 x4 x5 x6 x7
      have HA : Hid (Lies wc w.heap.size [.int .i64 s1, .int .i64 s2, .int .i64 e1, .int .i64 e2, .slice a1 n1 c1, .slice a2 n2 c2, .slice a3 n3 c3, .slice a4 n4 c4]) := HAb.out
      have HB : Hid (Below w.heap.size w wc) := HBb.out
      clear HAb HBb
      have x0 : wc.cell? ⟨w.heap.size, 0, none⟩ = some (.int .i64 s1) := HA.out.at 0
      have x1 : wc.cell? ⟨w.heap.size, 1, none⟩ = some (.int .i64 s2) := HA.out.at 1
      have x2 : wc.cell? ⟨w.heap.size, 2, none⟩ = some (.int .i64 e1) := HA.out.at 2
      have x3 : wc.cell? ⟨w.heap.size, 3, none⟩ = some (.int .i64 e2) := HA.out.at 3
      have x4 : wc.cell? ⟨w.heap.size, 4, none⟩ = some (.slice a1 n1 c1) := HA.out.at 4
      have x5 : wc.cell? ⟨w.heap.size, 5, none⟩ = some (.slice a2 n2 c2) := HA.out.at 5
      have x6 : wc.cell? ⟨w.heap.size, 6, none⟩ = some (.slice a3 n3 c3) := HA.out.at 6
      have x7 : wc.cell? ⟨w.heap.size, 7, none⟩ = some (.slice a4 n4 c4) := HA.out.at 7
      cases o2 with
      | false =>
        have HZ0 : Hid (R = 0) := M.zero_of NEED.out (fun h => absurd h.2.2.2.2.2.2.1 (by simp))
        try clear NEED
        try clear HAVE
        try clear HQ
        try clear HD1
        try clear HD2
        try clear HD3
        try clear HD4
        try clear HC1
        try clear HC2
        try clear HC3
        try clear H1
        try clear H2
        try clear H3
        try clear H4
        try clear HA
        try clear x0
        try clear x1
        try clear x2
        try clear x3
        try clear x4
        try clear x5
        try clear x6
        try clear x7
        try clear hdiv
        try clear hn1
        try clear hn2
        try clear hn3
        try clear hn4
        try clear hq1
        try clear l1
        try clear l2
        try clear l3
        try clear l4
        try clear HX1
        try clear HX2
        try clear HX3
        try clear HX4
        rename_i hxk
        refine hxk _ _ ?_
        clear hxk
        with_reducible refine wpList_fastS [56, 57, 58, 63, 64, 69, 70, 75, 76, 81] ?_ ?_
        · kernel_rfl
        dsimp only [List.foldl]
        go_simp
        go_wp2
        go_ret
        exact ⟨by rw [HZ0.out]; rfl, HB.out⟩
      | true =>
        go_wp2_with fail
        refine (HD1.out _ (H1.out.below HB.out)).mono ?_
        rintro e wd ⟨rfl, hwd⟩
        subst hwd
        cases p1 with
        | false =>
          have HZ0 : Hid (R = 0) := M.zero_of NEED.out (fun h => absurd h.2.2.2.2.2.2.2.1 (by simp))
          try clear NEED
          try clear HAVE
          try clear HQ
          try clear HD1
          try clear HD2
          try clear HD3
          try clear HD4
          try clear HC1
          try clear HC2
          try clear HC3
          try clear H1
          try clear H2
          try clear H3
          try clear H4
          try clear HA
          try clear x0
          try clear x1
          try clear x2
          try clear x3
          try clear x4
          try clear x5
          try clear x6
          try clear x7
          try clear hdiv
          try clear hn1
          try clear hn2
          try clear hn3
          try clear hn4
          try clear hq1
          try clear l1
          try clear l2
          try clear l3
          try clear l4
          try clear HX1
          try clear HX2
          try clear HX3
          try clear HX4
          rename_i hxk
          refine hxk _ _ ?_
          clear hxk
          with_reducible refine wpList_fastS [62, 63, 64, 69, 70, 75, 76, 81] ?_ ?_
          · kernel_rfl
          dsimp only [List.foldl]
          go_simp
          go_wp2
          go_ret
          exact ⟨by rw [HZ0.out]; rfl, HB.out⟩
        | true =>
          go_wp2_with fail
          refine (HD2.out _ (H2.out.below HB.out)).mono ?_
          rintro e wd ⟨rfl, hwd⟩
          subst hwd
          cases p2 with
          | false =>
            have HZ0 : Hid (R = 0) := M.zero_of NEED.out (fun h => absurd h.2.2.2.2.2.2.2.2.1 (by simp))
            try clear NEED
            try clear HAVE
            try clear HQ
            try clear HD1
            try clear HD2
            try clear HD3
            try clear HD4
            try clear HC1
            try clear HC2
            try clear HC3
            try clear H1
            try clear H2
            try clear H3
            try clear H4
            try clear HA
            try clear x0
            try clear x1
            try clear x2
            try clear x3
            try clear x4
            try clear x5
            try clear x6
            try clear x7
            try clear hdiv
            try clear hn1
            try clear hn2
            try clear hn3
            try clear hn4
            try clear hq1
            try clear l1
            try clear l2
            try clear l3
            try clear l4
            try clear HX1
            try clear HX2
            try clear HX3
            try clear HX4
            rename_i hxk
            refine hxk _ _ ?_
            clear hxk
            with_reducible refine wpList_fastS [68, 69, 70, 75, 76, 81] ?_ ?_
            · kernel_rfl
            dsimp only [List.foldl]
            go_simp
            go_wp2
            go_ret
            exact ⟨by rw [HZ0.out]; rfl, HB.out⟩
          | true =>
            go_wp2_with fail
            refine (HD3.out _ (H3.out.below HB.out)).mono ?_
            rintro e wd ⟨rfl, hwd⟩
            subst hwd
            cases p3 with
            | false =>
              have HZ0 : Hid (R = 0) := M.zero_of NEED.out (fun h => absurd h.2.2.2.2.2.2.2.2.2.1 (by simp))
              try clear NEED
              try clear HAVE
              try clear HQ
              try clear HD1
              try clear HD2
              try clear HD3
              try clear HD4
              try clear HC1
              try clear HC2
              try clear HC3
              try clear H1
              try clear H2
              try clear H3
              try clear H4
              try clear HA
              try clear x0
              try clear x1
              try clear x2
              try clear x3
              try clear x4
              try clear x5
              try clear x6
              try clear x7
              try clear hdiv
              try clear hn1
              try clear hn2
              try clear hn3
              try clear hn4
              try clear hq1
              try clear l1
              try clear l2
              try clear l3
              try clear l4
              try clear HX1
              try clear HX2
              try clear HX3
              try clear HX4
              rename_i hxk
              refine hxk _ _ ?_
              clear hxk
              with_reducible refine wpList_fastS [74, 75, 76, 81] ?_ ?_
              · kernel_rfl
              dsimp only [List.foldl]
              go_simp
              go_wp2
              go_ret
              exact ⟨by rw [HZ0.out]; rfl, HB.out⟩
            | true =>
              go_wp2_with fail
              refine (HD4.out _ (H4.out.below HB.out)).mono ?_
              rintro e wd ⟨rfl, hwd⟩
              subst hwd
              cases p4 with
              | false =>
                have HZ0 : Hid (R = 0) := M.zero_of NEED.out (fun h => absurd h.2.2.2.2.2.2.2.2.2.2 (by simp))
                try clear NEED
                try clear HAVE
                try clear HQ
                try clear HD1
                try clear HD2
                try clear HD3
                try clear HD4
                try clear HC1
                try clear HC2
                try clear HC3
                try clear H1
                try clear H2
                try clear H3
                try clear H4
                try clear HA
                try clear x0
                try clear x1
                try clear x2
                try clear x3
                try clear x4
                try clear x5
                try clear x6
                try clear x7
                try clear hdiv
                try clear hn1
                try clear hn2
                try clear hn3
                try clear hn4
                try clear hq1
                try clear l1
                try clear l2
                try clear l3
                try clear l4
                try clear HX1
                try clear HX2
                try clear HX3
                try clear HX4
                rename_i hxk
                refine hxk _ _ ?_
                clear hxk
                with_reducible refine wpList_fastS [80, 81] ?_ ?_
                · kernel_rfl
                dsimp only [List.foldl]
                go_simp
                go_wp2
                go_ret
                exact ⟨by rw [HZ0.out]; rfl, HB.out⟩
              | true =>
                go_wp2
                go_ret
                exact ⟨by rw [HAVE.out (by simp) HX1.out HX2.out HX3.out HX4.out (by simp) (by simp) (by simp) (by simp) (by simp) (by simp)]; rfl, HB.out⟩
end Go.Proofs.YtbcfjbkmkknmfaaGreatDoor
