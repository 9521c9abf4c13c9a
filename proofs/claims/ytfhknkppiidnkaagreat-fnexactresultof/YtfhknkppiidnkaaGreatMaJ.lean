/- Whether states are a run, in the program. Runs, in the model's text. After and Next, in the model's text. -/
import Derived.Test.YtfhknkppiidnkaaGreatMaF
import Derived.Deep.RegionWith
import Derived.Laws.StructEq
namespace Go.Proofs.YtfhknkppiidnkaaGreat
open Go.RowKit

/-- are the first k states what comes from p? -/
def M.isRn (m : M.Mc) (p : Int × Int) (ps : List (Int × Int)) (o : Bool) : Nat → Bool
  | 0 => o
  | k + 1 => M.isRn m p ps o k && (decide ((ps.getD k (0, 0)).1 = (m.rn p k).1) && decide ((ps.getD k (0, 0)).2 = (m.rn p k).2))
def M.trOk (m : M.Mc) (ps : List (Int × Int)) : Bool := M.isRn m (ps.getD 0 (0, 0)) ps (M.sOk (ps.getD 0 (0, 0))) ps.length
def M.traceOk (m : M.Mc) (ps : List (Int × Int)) : Bool := m.ok && (decide (1 ≤ ps.length) && (decide (ps.length ≤ 1001) && M.trOk m ps))
theorem M.isRn_false (m : M.Mc) (p : Int × Int) (ps : List (Int × Int)) : ∀ k, M.isRn m p ps false k = false
  | 0 => rfl
  | k + 1 => by rw [M.isRn, M.isRn_false m p ps k]; rfl
end Go.Proofs.YtfhknkppiidnkaaGreat
namespace Go.Proofs.YtfhknkppiidnkaaGreat
open Go.RowKit

theorem step_append_ownm {P : Program} {ops : Array Oper} {o : Oper} {a : Act} {w : World} {K : Act → World → Prop} {Q : Exit → Act → World → Prop} {E : Prop}
    (hg : o.guard = none) (s x : Operand) (t : TypeId) (hop : o.op = Op.call { callee := Callee.builtin Builtin.append, args := #[s, x], argTypes := #[t, t] })
    (base : Nat) (e : TypeId) (i : TypeInfo) (z : Value) (size bytes : Nat) (ht : P.underlying t = some (.slice e)) (hi : P.info? e = some i) (hz : i.zero = some z) (hsize : i.size = size) (hby : i.bytes = bytes) (hzs : z.cells.size = size) (hsz : 0 < size)
    (v : Value) (n : Nat) (xs : List Value) (hs : a.eval s = v) (hown : w.ownsRow base e size v n xs) (ad : Addr) (m c : Nat) (news : List Value) (hx : a.eval x = .slice (some ad) m c) (hl : news.length = m * size) (hnews : ∀ j u, news[j]? = some u → w.cell? (ad.add j) = some u) (h1 : ∀ u ∈ news, u.oneCell' = true)
    (h63 : n + m ≤ maxLen) (hbytes : (n + m) * bytes ≤ 140737488355328) (hbase : base ≤ w.heap.size)
    (hK : ∀ v' w', w'.ownsRow base e size v' (n + m) (xs ++ news) → w.grownBy w' v.ownBlock → K (a.put o.dst v') w') :
    if Region.wanted o (yielded ops a.tmps) = true then Oper.wp P o a w K Q else E := by
  have hw : Region.wanted o (yielded ops a.tmps) = true := by simp [Region.wanted, hg]
  rw [if_pos hw]
  obtain ⟨v', w', hrun, r1, r2, _, _⟩ := run_append_own_at (P := P) w base t o.type e i z size bytes ht hi hz hsize hby hzs hsz v n xs hown ad m c news hl hnews h1 h63 hbytes hbase
  unfold Oper.wp
  simp [execOp, hop, resolve, invoke, builtin, hs, hx, hrun, Result.andThen]
  exact hK v' w' r1 r2
theorem info_stateK : (Tryz.prog.info? 31).map (fun i => (i.zero, i.size, i.bytes)) = some (some (.agg #[.int .i64 0, .int .i64 0]), 2, 16) := by kernel_rfl
theorem l1In_any (n : Int) (w : World) : Calls Tryz.prog 43 #[.int .i64 n, .int .i64 0, .int .i64 1000] w fun e w' => e = .returned (.bool (decide (0 ≤ n) && decide (n ≤ 1000))) ∧ w' = w := by
  by_cases h0 : 0 ≤ n
  · by_cases h1 : n ≤ 1000
    · rw [decide_eq_true h0, decide_eq_true h1]
      go_enter Tryz.func43, Tryz.ntmps43
      go_wp2
      go_ret
      exact ⟨rfl, rfl⟩
    · rw [decide_eq_true h0, decide_eq_false h1]
      go_enter Tryz.func43, Tryz.ntmps43
      go_wp2
      go_ret
      exact ⟨rfl, rfl⟩
  · rw [decide_eq_false h0]
    go_enter Tryz.func43, Tryz.ntmps43
    go_wp2
    go_ret
    exact ⟨rfl, rfl⟩
theorem ownsQ_built {t : TypeId} (w : World) (base : Nat) (hb : base ≤ w.heap.size) (x y : Int) : OwnsQ t (w.alloc (.cells #[.int .i64 x, .int .i64 y] t)) base (some ⟨w.heap.size, 0, none⟩) 1 1 [(x, y)] := by
  refine ⟨rfl, rfl, .inr ⟨w.heap.size, 1, #[.int .i64 x, .int .i64 y], rfl, hb, ?_, Nat.le_refl _, by unfold maxLen; omega, rfl, rfl⟩⟩
  show (w.heap.push _)[w.heap.size]? = _
  simp
set_option maxHeartbeats 4000000 in
set_option maxRecDepth 10000 in
theorem specRunOf_any (m : M.Mc) (s : Int × Int) (n : Int) (w : World) : Calls Tryz.prog 77 #[mcv m, stv s, .int .i64 n] w fun e w' => ∃ a l cap, e = .returned (.tuple #[.slice a l cap, .bool (M.runOk m s n)]) ∧ l ≤ 1001 ∧ OwnsQ 31 w' w.heap.size a l cap (M.runv m s n) ∧ Below w.heap.size w w' := by
  have C1 := specMachineOk_any m
  have C2 := specStateOk_any s
  have C3 := l1In_any n
  have HT : Hid (∀ W, Below ((w.alloc (.cells #[.int .i64 m.X.xx, .int .i64 m.X.xy, .int .i64 m.X.yy, .int .i64 m.X.x, .int .i64 m.X.y, .int .i64 m.X.k, .int .i64 m.Y.xx, .int .i64 m.Y.xy, .int .i64 m.Y.yy, .int .i64 m.Y.x, .int .i64 m.Y.y, .int .i64 m.Y.k] 41)).alloc (.cells #[.int .i64 s.1, .int .i64 s.2] 31)).heap.size ((w.alloc (.cells #[.int .i64 m.X.xx, .int .i64 m.X.xy, .int .i64 m.X.yy, .int .i64 m.X.x, .int .i64 m.X.y, .int .i64 m.X.k, .int .i64 m.Y.xx, .int .i64 m.Y.xy, .int .i64 m.Y.yy, .int .i64 m.Y.x, .int .i64 m.Y.y, .int .i64 m.Y.k] 41)).alloc (.cells #[.int .i64 s.1, .int .i64 s.2] 31)) W → W.cell? ⟨w.heap.size, 0, none⟩ = some (.int .i64 m.X.xx) ∧ W.cell? ⟨w.heap.size, 1, none⟩ = some (.int .i64 m.X.xy) ∧ W.cell? ⟨w.heap.size, 2, none⟩ = some (.int .i64 m.X.yy) ∧ W.cell? ⟨w.heap.size, 3, none⟩ = some (.int .i64 m.X.x) ∧ W.cell? ⟨w.heap.size, 4, none⟩ = some (.int .i64 m.X.y) ∧ W.cell? ⟨w.heap.size, 5, none⟩ = some (.int .i64 m.X.k) ∧ W.cell? ⟨w.heap.size, 6, none⟩ = some (.int .i64 m.Y.xx) ∧ W.cell? ⟨w.heap.size, 7, none⟩ = some (.int .i64 m.Y.xy) ∧ W.cell? ⟨w.heap.size, 8, none⟩ = some (.int .i64 m.Y.yy) ∧ W.cell? ⟨w.heap.size, 9, none⟩ = some (.int .i64 m.Y.x) ∧ W.cell? ⟨w.heap.size, 10, none⟩ = some (.int .i64 m.Y.y) ∧ W.cell? ⟨w.heap.size, 11, none⟩ = some (.int .i64 m.Y.k) ∧ W.cell? ⟨w.heap.size + 1, 0, none⟩ = some (.int .i64 s.1) ∧ W.cell? ⟨w.heap.size + 1, 1, none⟩ = some (.int .i64 s.2)) := fun W hW => by
    have e1 : (w.alloc (.cells #[.int .i64 m.X.xx, .int .i64 m.X.xy, .int .i64 m.X.yy, .int .i64 m.X.x, .int .i64 m.X.y, .int .i64 m.X.k, .int .i64 m.Y.xx, .int .i64 m.Y.xy, .int .i64 m.Y.yy, .int .i64 m.Y.x, .int .i64 m.Y.y, .int .i64 m.Y.k] 41)).heap.size = w.heap.size + 1 := by simp
    have h1 := fun i => World.cell?_alloc_new (w.alloc (.cells #[.int .i64 m.X.xx, .int .i64 m.X.xy, .int .i64 m.X.yy, .int .i64 m.X.x, .int .i64 m.X.y, .int .i64 m.X.k, .int .i64 m.Y.xx, .int .i64 m.Y.xy, .int .i64 m.Y.yy, .int .i64 m.Y.x, .int .i64 m.Y.y, .int .i64 m.Y.k] 41)) #[.int .i64 s.1, .int .i64 s.2] 31 i
    rw [e1] at h1
    have h0 := fun i => (World.cell?_alloc_lt (w := w.alloc (.cells #[.int .i64 m.X.xx, .int .i64 m.X.xy, .int .i64 m.X.yy, .int .i64 m.X.x, .int .i64 m.X.y, .int .i64 m.X.k, .int .i64 m.Y.xx, .int .i64 m.Y.xy, .int .i64 m.Y.yy, .int .i64 m.Y.x, .int .i64 m.Y.y, .int .i64 m.Y.k] 41)) (o := .cells #[.int .i64 s.1, .int .i64 s.2] 31) (a := ⟨w.heap.size, i, none⟩) (h := by simp)).trans (World.cell?_alloc_new w #[.int .i64 m.X.xx, .int .i64 m.X.xy, .int .i64 m.X.yy, .int .i64 m.X.x, .int .i64 m.X.y, .int .i64 m.X.k, .int .i64 m.Y.xx, .int .i64 m.Y.xy, .int .i64 m.Y.yy, .int .i64 m.Y.x, .int .i64 m.Y.y, .int .i64 m.Y.k] 41 i)
    exact ⟨(hW.cell (p := ⟨w.heap.size, 0, none⟩) (by simp; omega)).trans (h0 0), (hW.cell (p := ⟨w.heap.size, 1, none⟩) (by simp; omega)).trans (h0 1), (hW.cell (p := ⟨w.heap.size, 2, none⟩) (by simp; omega)).trans (h0 2), (hW.cell (p := ⟨w.heap.size, 3, none⟩) (by simp; omega)).trans (h0 3), (hW.cell (p := ⟨w.heap.size, 4, none⟩) (by simp; omega)).trans (h0 4), (hW.cell (p := ⟨w.heap.size, 5, none⟩) (by simp; omega)).trans (h0 5), (hW.cell (p := ⟨w.heap.size, 6, none⟩) (by simp; omega)).trans (h0 6), (hW.cell (p := ⟨w.heap.size, 7, none⟩) (by simp; omega)).trans (h0 7), (hW.cell (p := ⟨w.heap.size, 8, none⟩) (by simp; omega)).trans (h0 8), (hW.cell (p := ⟨w.heap.size, 9, none⟩) (by simp; omega)).trans (h0 9), (hW.cell (p := ⟨w.heap.size, 10, none⟩) (by simp; omega)).trans (h0 10), (hW.cell (p := ⟨w.heap.size, 11, none⟩) (by simp; omega)).trans (h0 11), (hW.cell (p := ⟨w.heap.size + 1, 0, none⟩) (by simp)).trans (h1 0), (hW.cell (p := ⟨w.heap.size + 1, 1, none⟩) (by simp)).trans (h1 1)⟩
  cases hok : M.runOk m s n with
  | false =>
    have HV : Hid (M.runv m s n = []) := M.runv_out hok
    have hno : m.ok = false ∨ (m.ok = true ∧ M.sOk s = false) ∨ (m.ok = true ∧ M.sOk s = true ∧ (decide (0 ≤ n) && decide (n ≤ 1000)) = false) := by
      unfold M.runOk at hok
      cases h1 : m.ok <;> cases h2 : M.sOk s <;> simp_all
    clear hok
    generalize m.ok = o1 at C1 hno
    generalize M.sOk s = o2 at C2 hno
    generalize (decide (0 ≤ n) && decide (n ≤ 1000)) = o3 at C3 hno
    obtain ⟨⟨a, b, c, d, f, k⟩, ⟨a', b', c', d', f', k'⟩⟩ := m
    obtain ⟨x, y⟩ := s
    dsimp only [mcv, stv] at C1 C2 HT ⊢
    rcases hno with rfl | ⟨rfl, rfl⟩ | ⟨rfl, rfl, rfl⟩
    all_goals
      go_enter Tryz.func77, Tryz.ntmps77
      go_wp2_with fail
      refine (C1 _).mono ?_
      rintro e w1 ⟨rfl, hb1⟩
      obtain ⟨q0, q1, q2, q3, q4, q5, q6, q7, q8, q9, q10, q11, q12, q13⟩ := HT.out _ hb1
      have HB1 : Hid (Below w.heap.size w w1) := (((Below.refl _ _).alloc (Nat.le_refl _) _).alloc (by simp) _).trans (hb1.mono (by simp; omega))
      clear hb1
      try (
        go_wp2_with fail
        refine (C2 _).mono ?_
        rintro e w2 ⟨rfl, hb2⟩
        replace HB1 : Hid (Below w.heap.size w w2) := HB1.out.trans (hb2.mono HB1.out.size)
        clear hb2)
      try (
        go_wp2_with fail
        refine (C3 _).mono ?_
        rintro e w3 ⟨rfl, rfl⟩)
      go_wp2
      go_ret2
      exact ⟨none, 0, 0, rfl, by omega, by rw [HV.out]; exact ownsQ_none _ _ _, HB1.out⟩
  | true =>
    obtain ⟨hm, hs, h3, h4⟩ := M.runOk_parts hok
    have HV : Hid (M.runv m s n = m.run s n.toNat) := M.runv_in hok
    rw [hm] at C1
    rw [hs] at C2
    rw [decide_eq_true h3, decide_eq_true h4] at C3
    obtain ⟨N, rfl⟩ := Int.eq_ofNat_of_zero_le h3
    have hN : N ≤ 1000 := by omega
    have HL : Hid (Int.toNat (N : Int) = N) := Int.toNat_natCast N
    have HM : Hid (m.ok = true) := hm
    have HS : Hid (M.sOk s = true) := hs
    have HMv : Hid (∃ m0, m0 = m) := ⟨_, rfl⟩
    obtain ⟨m0, hm0⟩ := HMv.out
    have HS0 : Hid (∃ s0, s0 = s) := ⟨_, rfl⟩
    obtain ⟨s0, hs0⟩ := HS0.out
    have CN : Hid (∀ (q : Int × Int) (w : World), M.sOk q = true → Calls Tryz.prog 106 #[mcv m, stv q] w fun e w' => e = .returned (stv (m0.nx q)) ∧ Below w.heap.size w w') := fun q w hq => by rw [hm0]; exact specNext_any m q w HM.out hq
    have HV0 : Hid (M.runv m s (N : Int) = m0.run s0 N) := by show _ = _; rw [hm0, hs0, HV.out, HL.out]
    have HSr : Hid (∀ k, M.sOk (m0.rn s0 k) = true) := fun k => by rw [hs0]; exact M.sOk_rn m0 HS.out k
    have HR0 : Hid (m0.run s0 0 = [s]) := by show _ = _; rw [← hs0]; rfl
    obtain ⟨i0, hi, hz0, hz1, hz2⟩ := info_parts info_stateK
    have HI : Hid (Tryz.prog.info? 31 = some i0 ∧ i0.zero = some (.agg #[.int .i64 0, .int .i64 0]) ∧ i0.size = 2 ∧ i0.bytes = 16) := ⟨hi, hz0, hz1, hz2⟩
    clear hok hm hs h3 h4 HMv HS0 hm0 hs0 HM HS HV HL hi hz0 hz1 hz2
    obtain ⟨⟨a, b, c, d, f, k⟩, ⟨a', b', c', d', f', k'⟩⟩ := m
    obtain ⟨x, y⟩ := s
    dsimp only [mcv, stv] at C1 C2 HT CN ⊢
    go_enter Tryz.func77, Tryz.ntmps77
    go_wp2_with fail
    refine (C1 _).mono ?_
    rintro e w1 ⟨rfl, hb1⟩
    have HB0 : Hid (Below _ _ w1) := hb1
    obtain ⟨q0, q1, q2, q3, q4, q5, q6, q7, q8, q9, q10, q11, q12, q13⟩ := HT.out _ hb1
    have HB1 : Hid (Below w.heap.size w w1) := (((Below.refl _ _).alloc (Nat.le_refl _) _).alloc (by simp) _).trans (hb1.mono (by simp; omega))
    clear hb1
    go_wp2_with fail
    refine (C2 _).mono ?_
    rintro e w2 ⟨rfl, hb2⟩
    have HB2 : Hid (Below w.heap.size w w2) := HB1.out.trans (hb2.mono HB1.out.size)
    have HB3 : Hid (Below (w.heap.size + 2) _ w2) := (HB0.out.trans (hb2.mono HB0.out.size)).mono (by simp)
    obtain ⟨r0, r1, r2, r3, r4, r5, r6, r7, r8, r9, r10, r11, r12, r13⟩ := HT.out _ (HB0.out.trans (hb2.mono HB0.out.size))
    clear hb2 q0 q1 q2 q3 q4 q5 q6 q7 q8 q9 q10 q11 q12 q13 HB0 HB1
    go_wp2_with fail
    refine (C3 _).mono ?_
    rintro e w2 ⟨rfl, rfl⟩
    have HO : Hid (OwnsQ 31 (w2.alloc (.cells #[.int .i64 x, .int .i64 y] 31)) (w.heap.size + 2) (some ⟨w2.heap.size, 0, none⟩) 1 1 (m0.run s0 0)) := by
      show OwnsQ _ _ _ _ _ _ _
      rw [HR0.out]; exact ownsQ_built _ _ (by have := HB3.out.size; simpa using this) x y
    have HBx : Hid (Below (w.heap.size + 2) w2 (w2.alloc (.cells #[.int .i64 x, .int .i64 y] 31))) := (Below.refl _ _).alloc (by have := HB3.out.size; simpa using this) _
    have HBy : Hid (Below w.heap.size w (w2.alloc (.cells #[.int .i64 x, .int .i64 y] 31))) := HB2.out.alloc HB2.out.size _
    have hsz2 : w.heap.size + 2 ≤ w2.heap.size := by have := HB3.out.size; simpa using this
    clear HT C1 C2 C3 HB3
    go_wp2
    go_loopw [8, 9] (fun s i wr => ∃ (j : Nat) (al : Option Addr) (cap' : Nat), j ≤ N ∧ i = .int .i64 j ∧ s = .slice al (j + 1) cap' ∧ OwnsQ 31 wr (w.heap.size + 2) al (j + 1) cap' (m0.run s0 j) ∧ Below (w.heap.size + 2) w2 wr ∧ Below w.heap.size w wr) (fun _ i _ => N - (intOf i).toNat)
    case atStart => exact ⟨0, _, _, by omega, rfl, rfl, HO.out, HBx.out, HBy.out⟩
    case round =>
      obtain ⟨j, al, cap', hj, rfl, rfl, ho1, hbr, hb1⟩ := hrel
      have HO1 : Hid (OwnsQ 31 wr (w.heap.size + 2) al (j + 1) cap' (m0.run s0 j)) := ho1
      have HB1 : Hid (Below w.heap.size w wr) := hb1
      have HBr : Hid (Below (w.heap.size + 2) w2 wr) := hbr
      have hszr : w.heap.size + 2 ≤ wr.heap.size := Nat.le_trans hsz2 hbr.size
      by_cases hlt : j < N
      · obtain ⟨g, rfl, hg, hcap, hbig, hc⟩ := ho1.block (by omega)
        obtain ⟨e1, e2⟩ := hc j (by omega)
        rw [M.run_get m0 s0 j j (Nat.le_refl _)] at e1 e2
        have vv0 := (hbr.cell (p := ⟨w.heap.size, 0, none⟩) (by simp)).trans r0
        have vv1 := (hbr.cell (p := ⟨w.heap.size, 1, none⟩) (by simp)).trans r1
        have vv2 := (hbr.cell (p := ⟨w.heap.size, 2, none⟩) (by simp)).trans r2
        have vv3 := (hbr.cell (p := ⟨w.heap.size, 3, none⟩) (by simp)).trans r3
        have vv4 := (hbr.cell (p := ⟨w.heap.size, 4, none⟩) (by simp)).trans r4
        have vv5 := (hbr.cell (p := ⟨w.heap.size, 5, none⟩) (by simp)).trans r5
        have vv6 := (hbr.cell (p := ⟨w.heap.size, 6, none⟩) (by simp)).trans r6
        have vv7 := (hbr.cell (p := ⟨w.heap.size, 7, none⟩) (by simp)).trans r7
        have vv8 := (hbr.cell (p := ⟨w.heap.size, 8, none⟩) (by simp)).trans r8
        have vv9 := (hbr.cell (p := ⟨w.heap.size, 9, none⟩) (by simp)).trans r9
        have vv10 := (hbr.cell (p := ⟨w.heap.size, 10, none⟩) (by simp)).trans r10
        have vv11 := (hbr.cell (p := ⟨w.heap.size, 11, none⟩) (by simp)).trans r11
        have hI : (j : Int) < (N : Int) := by omega
        have hcI : (j : Int) + 1 ≤ cap' := by omega
        have hjj : (j : Int) < (j : Int) + 1 := by omega
        have HN : Hid (m0.run s0 j ++ [m0.nx (m0.rn s0 j)] = m0.run s0 (j + 1)) := M.run_snoc m0 s0 j
        have CQ := CN.out (m0.rn s0 j)
        have HSj : Hid (M.sOk (m0.rn s0 j) = true) := HSr.out j
        generalize m0.rn s0 j = q at e1 e2 HN CQ HSj
        generalize hnx : m0.nx q = q2 at HN CQ
        obtain ⟨u, v⟩ := q
        obtain ⟨u2, v2⟩ := q2
        dsimp only at e1 e2 CQ
        clear ho1 hbr hb1 hc HO HBx HBy hnx r0 r1 r2 r3 r4 r5 r6 r7 r8 r9 r10 r11 r12 r13
        go_wp2
        go_region_law (first
          | (refine step_append_ownm rfl (.tmp 30) (.tmp 37) 108 rfl (w.heap.size + 2) 31 i0 (.agg #[.int .i64 0, .int .i64 0]) 2 16 Tryz.underlying108 HI.out.1 HI.out.2.1 HI.out.2.2.1 HI.out.2.2.2 rfl (by decide) (.slice (some ⟨g, 0, none⟩) (j + 1) cap') (j + 1) (prs (m0.run s0 j)) (by simp [Act.eval]) (World.ownsRow.alloc (HO1.out.below ((Below.refl _ _).drew.trans hb4)).2 _) ⟨w4.heap.size, 0, none⟩ 1 1 [.int .i64 u2, .int .i64 v2] (by simp [Act.eval]) rfl (cell_twoq w4 _ _ _) (two_intsq _ _) (by unfold maxLen; omega) (by omega) (by have := hb4.size; simp at this; simp; omega) ?_; intro v' w5 hown hgrow)
          | (go_simp; go_wp2_with (go_at_call 106; refine (CQ _ HSj.out).mono ?_; rintro e w4 ⟨rfl, hb4⟩)))
        all_goals
          have hown' : w5.ownsRow (w.heap.size + 2) 31 2 v' (j + 1 + 1) (prs (m0.run s0 (j + 1))) := by rw [← HN.out, ← prs_snoc]; exact hown
          obtain ⟨b5, c5, rfl, ho5⟩ := OwnsQ.form (M.run_len m0 s0 (j + 1)) hown'
          have HO5 : Hid (OwnsQ 31 w5 (w.heap.size + 2) b5 (j + 1 + 1) c5 (m0.run s0 (j + 1))) := ho5
          have hrow := HO1.out.row
          have hb4' : Below wr.heap.size wr w4 := (Below.refl _ _).drew.trans hb4
          have hs4 := hb4'.size
          have HBr5 : Hid (Below (w.heap.size + 2) w2 w5) := ((HBr.out.trans (hb4'.mono hszr)).alloc (by omega) _).grown hgrow (by simp; omega) hrow
          have HB5 : Hid (Below w.heap.size w w5) := ((HB1.out.trans (hb4'.mono HB1.out.size)).alloc (by have := HB1.out.size; omega) _).grown hgrow (by have := HB1.out.size; simp; omega) (fun q hq => by have := hrow q hq; omega)
          clear hown hown' hgrow ho5 hrow hb4 hb4' vv0 vv1 vv2 vv3 vv4 vv5 vv6 vv7 vv8 vv9 vv10 vv11 e1 e2
          go_wp2
          go_roundw
          case rel => exact ⟨j + 1, b5, c5, by omega, by go_num, rfl, HO5.out, HBr5.out, HB5.out⟩
          case measure => simp [intOf]; omega
      · have hjn : j = N := by omega
        subst hjn
        go_wp2
        go_ret2
        exact ⟨al, j + 1, cap', rfl, by omega, by rw [HV0.out]; exact HO1.out.mono (by omega), HB1.out⟩
end Go.Proofs.YtfhknkppiidnkaaGreat
namespace Go.Proofs.YtfhknkppiidnkaaGreat
open Go.RowKit

set_option maxHeartbeats 2000000 in
theorem specAfter_any (m : M.Mc) (s : Int × Int) (n : Int) (w : World) : Calls Tryz.prog 57 #[mcv m, stv s, .int .i64 n] w fun e w' => e = .returned (.tuple #[stv (M.aft m s n), .bool (M.runOk m s n)]) ∧ Below w.heap.size w w' := by
  have C1 := specRunOf_any m s n
  have HT : Hid (∀ W, Below (((w.alloc (.cells #[.int .i64 m.X.xx, .int .i64 m.X.xy, .int .i64 m.X.yy, .int .i64 m.X.x, .int .i64 m.X.y, .int .i64 m.X.k, .int .i64 m.Y.xx, .int .i64 m.Y.xy, .int .i64 m.Y.yy, .int .i64 m.Y.x, .int .i64 m.Y.y, .int .i64 m.Y.k] 41)).alloc (.cells #[.int .i64 s.1, .int .i64 s.2] 31)).alloc (.cells #[.int .i64 0, .int .i64 0] 31)).heap.size (((w.alloc (.cells #[.int .i64 m.X.xx, .int .i64 m.X.xy, .int .i64 m.X.yy, .int .i64 m.X.x, .int .i64 m.X.y, .int .i64 m.X.k, .int .i64 m.Y.xx, .int .i64 m.Y.xy, .int .i64 m.Y.yy, .int .i64 m.Y.x, .int .i64 m.Y.y, .int .i64 m.Y.k] 41)).alloc (.cells #[.int .i64 s.1, .int .i64 s.2] 31)).alloc (.cells #[.int .i64 0, .int .i64 0] 31)) W → W.cell? ⟨w.heap.size + 1 + 1, 0, none⟩ = some (.int .i64 0) ∧ W.cell? ⟨w.heap.size + 1 + 1, 1, none⟩ = some (.int .i64 0) ∧ W.frozen? ⟨w.heap.size + 1 + 1, 0, none⟩ = false ∧ W.frozen? ⟨w.heap.size + 1 + 1, 1, none⟩ = false) := fun W hW =>
    ⟨(hW.cell (p := ⟨w.heap.size + 1 + 1, 0, none⟩) (by simp)).trans (chain3m w _ _ _ _ _ _ 0).2.2.1, (hW.cell (p := ⟨w.heap.size + 1 + 1, 1, none⟩) (by simp)).trans (chain3m w _ _ _ _ _ _ 1).2.2.1, (frozen_kept hW (show w.heap.size + 1 + 1 < _ by simp)).trans (chain3m w _ _ _ _ _ _ 0).2.2.2, (frozen_kept hW (show w.heap.size + 1 + 1 < _ by simp)).trans (chain3m w _ _ _ _ _ _ 1).2.2.2⟩
  cases hok : M.runOk m s n with
  | false =>
    rw [M.aft_out hok]
    rw [hok] at C1
    obtain ⟨⟨a, b, c, d, f, k⟩, ⟨a', b', c', d', f', k'⟩⟩ := m
    obtain ⟨x, y⟩ := s
    dsimp only [mcv, stv] at C1 HT ⊢
    clear hok
    go_enter Tryz.func57, Tryz.ntmps57
    go_wp2_with fail
    refine (C1 _).mono ?_
    rintro e w1 ⟨ra, rl, rc, rfl, -, -, hb1⟩
    have HB1 : Hid (Below w.heap.size w w1) := ((((Below.refl _ _).alloc (Nat.le_refl _) _).alloc (by simp) _).alloc (by simp; omega) _).trans (hb1.mono (by simp; omega))
    obtain ⟨t0, t1, t2, t3⟩ := HT.out _ hb1
    clear hb1
    go_wp2
    refine bodyPost_ret (v := .tuple #[.agg #[.int .i64 0, .int .i64 0], .bool false]) (by simp [results, Tryz.results57, go_sem, t0, t1]) rfl ⟨rfl, ?_⟩
    exact (HB1.out.setCell (by show w.heap.size ≤ w.heap.size + 1 + 1; omega) _).setCell (by show w.heap.size ≤ w.heap.size + 1 + 1; omega) _
  | true =>
    obtain ⟨hm, hs, h3, h4⟩ := M.runOk_parts hok
    rw [M.aft_in hok]
    have hlen := len0 hok
    have HG : Hid ((M.runv m s n).getD n.toNat (0, 0) = m.rn s n.toNat) := by show _ = _; rw [M.runv_in hok]; exact M.run_get m s _ _ (Nat.le_refl _)
    rw [hok] at C1
    generalize M.runv m s n = rn at C1 HG hlen
    generalize m.rn s n.toNat = q at HG ⊢
    obtain ⟨N, rfl⟩ := Int.eq_ofNat_of_zero_le h3
    rw [Int.toNat_natCast] at HG hlen
    have hN : N ≤ 1000 := by omega
    obtain ⟨⟨a, b, c, d, f, k⟩, ⟨a', b', c', d', f', k'⟩⟩ := m
    obtain ⟨x, y⟩ := s
    obtain ⟨u, v⟩ := q
    dsimp only [mcv, stv] at C1 HT ⊢
    clear hok hm hs h3 h4
    go_enter Tryz.func57, Tryz.ntmps57
    go_wp2_with fail
    refine (C1 _).mono ?_
    rintro e w1 ⟨ra, rl, rc, rfl, -, ho1, hb1⟩
    have HB1 : Hid (Below w.heap.size w w1) := ((((Below.refl _ _).alloc (Nat.le_refl _) _).alloc (by simp) _).alloc (by simp; omega) _).trans (hb1.mono (by simp; omega))
    obtain ⟨t0, t1, t2, t3⟩ := HT.out _ hb1
    have hrl : rl = N + 1 := by rw [← ho1.1]; exact hlen
    subst hrl
    obtain ⟨g, rfl, hgb, hcap, hbig, hc⟩ := ho1.block (by omega)
    obtain ⟨e1, e2⟩ := hc N (by omega)
    rw [HG.out] at e1 e2
    have hcI : (N : Int) + 1 ≤ rc := by omega
    have hNN : (N : Int) < (N : Int) + 1 := by omega
    have hgne : g ≠ w.heap.size + 1 + 1 := by simp at hgb; omega
    clear hb1 ho1 hc hgb
    dsimp only at e1 e2
    go_wp2
    refine bodyPost_ret (v := .tuple #[.agg #[.int .i64 u, .int .i64 v], .bool true]) (by simp [results, Tryz.results57, go_sem, t0, t1]) rfl ⟨rfl, ?_⟩
    exact (HB1.out.setCell (by show w.heap.size ≤ w.heap.size + 1 + 1; omega) _).setCell (by show w.heap.size ≤ w.heap.size + 1 + 1; omega) _
theorem M.runOk_one (m : M.Mc) (s : Int × Int) : M.runOk m s 1 = (m.ok && M.sOk s) := by unfold M.runOk; simp
theorem M.aft_one {m : M.Mc} {s : Int × Int} (h : M.runOk m s 1 = true) : M.aft m s 1 = m.nx s := M.aft_in h
theorem eqState_same (s : Int × Int) (w : World) : Calls Tryz.prog 37 #[stv s, stv s] w fun e w' => e = .returned (.bool true) ∧ Below w.heap.size w w' := by
  obtain ⟨x, y⟩ := s
  dsimp only [stv]
  have n1 : (x != x) = false := by simp
  have n2 : (y != y) = false := by simp
  go_enter Tryz.func37, Tryz.ntmps37
  go_wp2
  go_ret
  exact ⟨rfl, ((Below.refl _ _).alloc (Nat.le_refl _) _).alloc (by simp) _⟩
end Go.Proofs.YtfhknkppiidnkaaGreat
