/- Whether states are a run, in the program. Runs, in the model's text. After and Next, in the model's text. -/
import Derived.Test.YtjeoenieoejolaiMaF
import Derived.Deep.RegionWith
import Derived.Laws.StructEq
namespace Go.Proofs.Ytjeoenieoejolai
open Go.RowKit

/-- are the first k states what comes from p? -/
def M.isRn (m : M.Mc) (p : Int × Int) (ps : List (Int × Int)) (o : Bool) : Nat → Bool
  | 0 => o
  | k + 1 => M.isRn m p ps o k && (decide ((ps.getD k (0, 0)).1 = (m.rn p k).1) && decide ((ps.getD k (0, 0)).2 = (m.rn p k).2))
def M.trOk (m : M.Mc) (ps : List (Int × Int)) : Bool := M.isRn m (ps.getD 0 (0, 0)) ps (M.sOk (ps.getD 0 (0, 0))) ps.length
def M.traceOk (m : M.Mc) (ps : List (Int × Int)) : Bool := m.ok && (decide (1 ≤ ps.length) && (decide (ps.length ≤ 1001) && M.trOk m ps))
theorem M.isRn_false (m : M.Mc) (p : Int × Int) (ps : List (Int × Int)) : ∀ k, M.isRn m p ps false k = false
  | 0 => rfl
  | k + 1 => by rw [M.isRn, M.isRn_false m p ps k]; rfl
set_option maxHeartbeats 4000000 in
theorem isRun_any {a : Option Addr} {n c : Nat} {ps : List (Int × Int)} (m : M.Mc) (w : World) (hm : m.ok = true) (hz : SeesQ w a n c ps) (h0 : 0 < n) :
    Calls Try.prog 38 #[.iface 108 (mcv m), .slice a n c] w fun e w' => e = .returned (.bool (M.trOk m ps)) ∧ Below w.heap.size w w' := by
  have HM : Hid (m.ok = true) := hm
  have HZ : Hid (SeesQ w a n c ps) := hz
  have hnb : (n : Int) ≤ 9223372036854775807 := by have := hz.big; have := hz.le; omega
  have hnc : (n : Int) ≤ c := by have := hz.le; omega
  have HF : Hid (∀ p o, (o = M.sOk (ps.getD 0 (0, 0))) → (o = true → p = ps.getD 0 (0, 0)) → M.isRn m p ps o n = M.trOk m ps) := fun p o ho hp => by
    unfold M.trOk
    rw [hz.len]
    cases o with
    | false => rw [← ho, M.isRn_false, M.isRn_false]
    | true => rw [← ho, hp rfl]
  obtain ⟨b1, o1, rfl, hc1⟩ := hz.at h0
  obtain ⟨e1, e2⟩ := hc1 0 h0
  clear hz hm hc1
  have C1 := statePair_any (ps.getD 0 (0, 0))
  generalize ps.getD 0 (0, 0) = q at C1 e1 e2 HF
  have HSo : Hid (∃ o, o = M.sOk q) := ⟨_, rfl⟩
  obtain ⟨o, ho⟩ := HSo.out
  rw [← ho] at C1
  have HO : Hid (o = M.sOk q) := ho
  clear ho HSo
  obtain ⟨x, y⟩ := q
  dsimp only [stv] at C1 e1 e2
  simp only [Nat.zero_mul, Nat.add_zero] at e1 e2
  go_enter Try.func38, Try.ntmps38
  go_wp2_with fail
  refine (C1 _).mono ?_
  rintro e w1 ⟨p, rfl, hp, hE, hb1⟩
  have HP : Hid (M.sOk p = true) := hp
  have HR : Hid (M.isRn m p ps o n = M.trOk m ps) := HF.out p o HO.out hE
  have HB1 : Hid (Below w.heap.size w w1) := hb1
  have hs1 := hb1.size
  clear hp hE hb1 HF HO C1
  have HP0 : Hid (p = m.rn p 0) := rfl
  obtain ⟨u, v⟩ := p
  go_wp2
  go_loopw [6, 18] (fun s i wr => ∃ (k : Nat), k ≤ n ∧ i = .int .i64 k ∧ s = .bool (M.isRn m (u, v) ps o k) ∧ Below w.heap.size w wr ∧ w1.heap.size < wr.heap.size ∧ (wr.cell? ⟨w1.heap.size, 0, none⟩ = some (.int .i64 (m.rn (u, v) k).1) ∧ wr.cell? ⟨w1.heap.size, 1, none⟩ = some (.int .i64 (m.rn (u, v) k).2) ∧ wr.frozen? ⟨w1.heap.size, 0, none⟩ = false ∧ wr.frozen? ⟨w1.heap.size, 1, none⟩ = false)) (fun _ i _ => n - (intOf i).toNat)
  case atStart => exact ⟨0, by omega, rfl, rfl, HB1.out.alloc hs1 _, by simp, World.cell?_alloc_new _ _ _ _, World.cell?_alloc_new _ _ _ _, frozen_one _ _ _ _, frozen_one _ _ _ _⟩
  case round =>
    obtain ⟨k, hk, rfl, rfl, hbr, hsr, c0, c1, f0, f1⟩ := hrel
    have HBr : Hid (Below w.heap.size w wr) := hbr
    clear hbr
    by_cases hlt : k < n
    · obtain ⟨b2, o2, hob, hc2⟩ := (HZ.out.below HBr.out).at (by omega)
      simp only [Option.some.injEq, Addr.mk.injEq, and_true] at hob
      obtain ⟨rfl, rfl⟩ := hob
      obtain ⟨d0, d1⟩ := hc2 k hlt
      have hI : (k : Int) < (n : Int) := by omega
      have HSk : Hid (M.sOk (m.rn (u, v) k) = true) := M.sOk_rn m HP.out k
      have HN : Hid (m.nx (m.rn (u, v) k) = m.rn (u, v) (k + 1)) := rfl
      have HRk : Hid (M.isRn m (u, v) ps o (k + 1) = (M.isRn m (u, v) ps o k && (decide ((ps.getD k (0, 0)).1 = (m.rn (u, v) k).1) && decide ((ps.getD k (0, 0)).2 = (m.rn (u, v) k).2)))) := rfl
      have CS := state_any (m.rn (u, v) k)
      generalize m.rn (u, v) k = q at c0 c1 HSk HN HRk CS
      generalize ps.getD k (0, 0) = t at d0 d1 HRk
      obtain ⟨u2, v2⟩ := q
      obtain ⟨x2, y2⟩ := t
      dsimp only [stv] at c0 c1 d0 d1 HRk CS
      have hmt := method_next m
      clear hc2
      cases hb : M.isRn m (u, v) ps o k with
      | false =>
        rw [hb] at HRk
        clear hb
        go_wp2
        go_region
        have HB2 : Hid (Below w.heap.size w (wr.alloc (.cells #[.int .i64 x2, .int .i64 y2] 28)).drew) := (HBr.out.alloc HBr.out.size _).drew
        have HS2 : Hid (w1.heap.size < (wr.alloc (.cells #[.int .i64 x2, .int .i64 y2] 28)).drew.heap.size) := by show _ < _; simp; omega
        have HK : Hid ((wr.alloc (.cells #[.int .i64 x2, .int .i64 y2] 28)).drew.cell? ⟨w1.heap.size, 0, none⟩ = some (.int .i64 u2) ∧ (wr.alloc (.cells #[.int .i64 x2, .int .i64 y2] 28)).drew.cell? ⟨w1.heap.size, 1, none⟩ = some (.int .i64 v2) ∧ (wr.alloc (.cells #[.int .i64 x2, .int .i64 y2] 28)).drew.frozen? ⟨w1.heap.size, 0, none⟩ = false ∧ (wr.alloc (.cells #[.int .i64 x2, .int .i64 y2] 28)).drew.frozen? ⟨w1.heap.size, 1, none⟩ = false) := ⟨(World.cell?_alloc_lt (w := wr) (o := .cells #[.int .i64 x2, .int .i64 y2] 28) (a := ⟨w1.heap.size, 0, none⟩) (h := hsr)).trans c0, (World.cell?_alloc_lt (w := wr) (o := .cells #[.int .i64 x2, .int .i64 y2] 28) (a := ⟨w1.heap.size, 1, none⟩) (h := hsr)).trans c1, (show (wr.alloc (.cells #[.int .i64 x2, .int .i64 y2] 28)).frozen? ⟨w1.heap.size, 0, none⟩ = _ by rw [frozen?_alloc_cells]).trans f0, (show (wr.alloc (.cells #[.int .i64 x2, .int .i64 y2] 28)).frozen? ⟨w1.heap.size, 1, none⟩ = _ by rw [frozen?_alloc_cells]).trans f1⟩
        go_wp2_with fail
        refine (stepM_any m (u2, v2) _ HM.out HSk.out).mono ?_
        rintro e w3 ⟨rfl, hb3⟩
        have HB3 : Hid (Below w.heap.size w w3) := HB2.out.trans (hb3.mono HB2.out.size)
        have HS3 : Hid (w1.heap.size < w3.heap.size) := Nat.lt_of_lt_of_le HS2.out hb3.size
        have t0 : w3.cell? ⟨w1.heap.size, 0, none⟩ = some (.int .i64 u2) := (hb3.cell (p := ⟨w1.heap.size, 0, none⟩) HS2.out).trans (by first | exact k2 | exact HK.out.1)
        have t1 : w3.cell? ⟨w1.heap.size, 1, none⟩ = some (.int .i64 v2) := (hb3.cell (p := ⟨w1.heap.size, 1, none⟩) HS2.out).trans (by first | exact k3 | exact HK.out.2.1)
        have t2 : w3.frozen? ⟨w1.heap.size, 0, none⟩ = false := (frozen_kept hb3 HS2.out).trans (by first | exact k4 | exact HK.out.2.2.1)
        have t3 : w3.frozen? ⟨w1.heap.size, 1, none⟩ = false := (frozen_kept hb3 HS2.out).trans (by first | exact k5 | exact HK.out.2.2.2)
        generalize m.nx (u2, v2) = q at HN
        obtain ⟨u4, v4⟩ := q
        obtain ⟨w4, hw4⟩ : ∃ w4, w4 = sets w3 w1.heap.size 0 [.int .i64 u4, .int .i64 v4] := ⟨_, rfl⟩
        have ha := sets_at w1.heap.size [Value.int .i64 u4, .int .i64 v4] w3 0 (fun j hj => by
          match j, hj with
          | 0, _ => exact ⟨_, t0⟩
          | 1, _ => exact ⟨_, t1⟩)
        rw [← hw4] at ha
        have HC4 : Hid (w4.cell? ⟨w1.heap.size, 0, none⟩ = some (.int .i64 (m.rn (u, v) (k + 1)).1) ∧ w4.cell? ⟨w1.heap.size, 1, none⟩ = some (.int .i64 (m.rn (u, v) (k + 1)).2) ∧ w4.frozen? ⟨w1.heap.size, 0, none⟩ = false ∧ w4.frozen? ⟨w1.heap.size, 1, none⟩ = false) := by
          show _ ∧ _
          rw [← HN.out]
          exact ⟨by simpa using ha 0 _ rfl, by simpa using ha 1 _ rfl, by rw [hw4, sets_frozen]; exact t2, by rw [hw4, sets_frozen]; exact t3⟩
        have HS4 : Hid (w1.heap.size < w4.heap.size) := by show _ < _; rw [hw4, sets_size]; exact HS3.out
        have HB4 : Hid (Below w.heap.size w w4) := by
          show Below _ _ _
          rw [hw4]; exact sets_below hs1 _ _ _ HB3.out
        have HW4 : Hid (sets w3 w1.heap.size 0 [.int .i64 u4, .int .i64 v4] = w4) := hw4.symm
        clear ha hw4 hb3
        go_wp2_with (rw [show (w3.setCell ⟨w1.heap.size, 0, none⟩ (.int .i64 u4)).setCell ⟨w1.heap.size, 1, none⟩ (.int .i64 v4) = w4 from HW4.out])
        go_roundw
        case rel => exact ⟨k + 1, by omega, by go_num, by rw [HRk.out]; rfl, HB4.out, HS4.out, HC4.out⟩
        case measure => simp [intOf]; omega
      | true =>
        rw [hb] at HRk
        clear hb
        have HCell : Hid (∀ W, Below (wr.alloc (.cells #[.int .i64 x2, .int .i64 y2] 28)).heap.size (wr.alloc (.cells #[.int .i64 x2, .int .i64 y2] 28)) W → (W.cell? ⟨wr.heap.size, 0, none⟩ = some (.int .i64 x2) ∧ W.cell? ⟨wr.heap.size, 1, none⟩ = some (.int .i64 y2)) ∧ (W.cell? ⟨w1.heap.size, 0, none⟩ = some (.int .i64 u2) ∧ W.cell? ⟨w1.heap.size, 1, none⟩ = some (.int .i64 v2) ∧ W.frozen? ⟨w1.heap.size, 0, none⟩ = false ∧ W.frozen? ⟨w1.heap.size, 1, none⟩ = false)) := fun W hW =>
          ⟨⟨(hW.cell (p := ⟨wr.heap.size, 0, none⟩) (by simp)).trans (World.cell?_alloc_new _ _ _ _), (hW.cell (p := ⟨wr.heap.size, 1, none⟩) (by simp)).trans (World.cell?_alloc_new _ _ _ _)⟩, ((hW.cell (p := ⟨w1.heap.size, 0, none⟩) (by simp; omega)).trans (World.cell?_alloc_lt (w := wr) (o := .cells #[.int .i64 x2, .int .i64 y2] 28) (a := ⟨w1.heap.size, 0, none⟩) (h := hsr))).trans c0, ((hW.cell (p := ⟨w1.heap.size, 1, none⟩) (by simp; omega)).trans (World.cell?_alloc_lt (w := wr) (o := .cells #[.int .i64 x2, .int .i64 y2] 28) (a := ⟨w1.heap.size, 1, none⟩) (h := hsr))).trans c1, ((frozen_kept hW (show w1.heap.size < _ by simp; omega)).trans (by rw [frozen?_alloc_cells])).trans f0, ((frozen_kept hW (show w1.heap.size < _ by simp; omega)).trans (by rw [frozen?_alloc_cells])).trans f1⟩
        have HV : Hid (M.isRn m (u, v) ps o (k + 1) = ((x2 == u2) && (y2 == v2))) := by
          show _ = _
          rw [HRk.out]; simp only [Bool.true_and]
          rcases Decidable.em (x2 = u2) with h | h <;> rcases Decidable.em (y2 = v2) with h' | h' <;> simp [h, h']
        have hcs : ((x2 == u2) = true ∧ (y2 == v2) = true) ∨ ((x2 == u2) = false ∧ True) ∨ ((x2 == u2) = true ∧ (y2 == v2) = false) := by
          cases (x2 == u2) <;> cases (y2 == v2) <;> simp
        have hcs2 : ∃ z : Bool, M.isRn m (u, v) ps o (k + 1) = z ∧ (((x2 == u2) = true ∧ (y2 == v2) = true ∧ z = true) ∨ ((x2 == u2) = false ∧ z = false) ∨ ((x2 == u2) = true ∧ (y2 == v2) = false ∧ z = false)) := by
          rcases hcs with ⟨hd1, hd2⟩ | ⟨hd1, hd2⟩ | ⟨hd1, hd2⟩
          · exact ⟨true, by rw [HV.out, hd1, hd2]; rfl, .inl ⟨hd1, hd2, rfl⟩⟩
          · exact ⟨false, by rw [HV.out, hd1]; rfl, .inr (.inl ⟨hd1, rfl⟩)⟩
          · exact ⟨false, by rw [HV.out, hd1, hd2]; rfl, .inr (.inr ⟨hd1, hd2, rfl⟩)⟩
        obtain ⟨z, hz, hcs3⟩ := hcs2
        have HZv : Hid (M.isRn m (u, v) ps o (k + 1) = z) := hz
        clear hz hcs HV HRk
        rcases hcs3 with ⟨hd1, hd2, rfl⟩ | ⟨hd1, rfl⟩ | ⟨hd1, hd2, rfl⟩
        all_goals
          go_wp2
          go_region_with (go_at_call 36; refine (CS _).mono ?_; rintro e w2 ⟨rfl, hb2⟩; obtain ⟨⟨k0, k1⟩, k2, k3, k4, k5⟩ := HCell.out _ ((Below.refl _ _).drew.trans hb2))
        all_goals
          have HB2 : Hid (Below w.heap.size w w2) := (HBr.out.alloc HBr.out.size _).trans (((Below.refl _ _).drew.trans hb2).mono (by have := HBr.out.size; simp; omega))
          have HS2 : Hid (w1.heap.size < w2.heap.size) := by have := hb2.size; simp at this; show _ < _; omega
          go_wp2_with fail
          refine (stepM_any m (u2, v2) _ HM.out HSk.out).mono ?_
          rintro e w3 ⟨rfl, hb3⟩
          have HB3 : Hid (Below w.heap.size w w3) := HB2.out.trans (hb3.mono HB2.out.size)
          have HS3 : Hid (w1.heap.size < w3.heap.size) := Nat.lt_of_lt_of_le HS2.out hb3.size
          have t0 : w3.cell? ⟨w1.heap.size, 0, none⟩ = some (.int .i64 u2) := (hb3.cell (p := ⟨w1.heap.size, 0, none⟩) HS2.out).trans (by first | exact k2 | exact HK.out.1)
          have t1 : w3.cell? ⟨w1.heap.size, 1, none⟩ = some (.int .i64 v2) := (hb3.cell (p := ⟨w1.heap.size, 1, none⟩) HS2.out).trans (by first | exact k3 | exact HK.out.2.1)
          have t2 : w3.frozen? ⟨w1.heap.size, 0, none⟩ = false := (frozen_kept hb3 HS2.out).trans (by first | exact k4 | exact HK.out.2.2.1)
          have t3 : w3.frozen? ⟨w1.heap.size, 1, none⟩ = false := (frozen_kept hb3 HS2.out).trans (by first | exact k5 | exact HK.out.2.2.2)
          generalize m.nx (u2, v2) = q at HN
          obtain ⟨u4, v4⟩ := q
          obtain ⟨w4, hw4⟩ : ∃ w4, w4 = sets w3 w1.heap.size 0 [.int .i64 u4, .int .i64 v4] := ⟨_, rfl⟩
          have ha := sets_at w1.heap.size [Value.int .i64 u4, .int .i64 v4] w3 0 (fun j hj => by
            match j, hj with
            | 0, _ => exact ⟨_, t0⟩
            | 1, _ => exact ⟨_, t1⟩)
          rw [← hw4] at ha
          have HC4 : Hid (w4.cell? ⟨w1.heap.size, 0, none⟩ = some (.int .i64 (m.rn (u, v) (k + 1)).1) ∧ w4.cell? ⟨w1.heap.size, 1, none⟩ = some (.int .i64 (m.rn (u, v) (k + 1)).2) ∧ w4.frozen? ⟨w1.heap.size, 0, none⟩ = false ∧ w4.frozen? ⟨w1.heap.size, 1, none⟩ = false) := by
            show _ ∧ _
            rw [← HN.out]
            exact ⟨by simpa using ha 0 _ rfl, by simpa using ha 1 _ rfl, by rw [hw4, sets_frozen]; exact t2, by rw [hw4, sets_frozen]; exact t3⟩
          have HS4 : Hid (w1.heap.size < w4.heap.size) := by show _ < _; rw [hw4, sets_size]; exact HS3.out
          have HB4 : Hid (Below w.heap.size w w4) := by
            show Below _ _ _
            rw [hw4]; exact sets_below hs1 _ _ _ HB3.out
          have HW4 : Hid (sets w3 w1.heap.size 0 [.int .i64 u4, .int .i64 v4] = w4) := hw4.symm
          clear ha hw4 hb3
          go_wp2_with (rw [show (w3.setCell ⟨w1.heap.size, 0, none⟩ (.int .i64 u4)).setCell ⟨w1.heap.size, 1, none⟩ (.int .i64 v4) = w4 from HW4.out])
          go_roundw
          case rel => exact ⟨k + 1, by omega, by go_num, by rw [HZv.out], HB4.out, HS4.out, HC4.out⟩
          case measure => simp [intOf]; omega
    · have hkn : k = n := by omega
      subst hkn
      have hr := HR.out
      rw [hr]
      go_wp2
      go_ret
      exact ⟨by first | rfl | rw [HR.out]; rfl, HBr.out⟩
end Go.Proofs.Ytjeoenieoejolai
namespace Go.Proofs.Ytjeoenieoejolai
open Go.RowKit

theorem step_append_ownm {P : Program} {ops : Array Oper} {o : Oper} {a : Act} {w : World} {K : Act → World → Prop} {Q : Exit → Act → World → Prop} {E : Prop}
    (hg : o.guard = none) (s x : Operand) (t : TypeId) (hop : o.op = Op.call { callee := Callee.builtin Builtin.append, args := #[s, x], argTypes := #[t, t] })
    (base : Nat) (e : TypeId) (i : TypeInfo) (z : Value) (size bytes : Nat) (ht : P.underlying t = some (.slice e)) (hi : P.info? e = some i) (hz : i.zero = some z) (hsize : i.size = size) (hby : i.bytes = bytes) (hzs : z.cells.size = size) (hsz : 0 < size)
    (v : Value) (n : Nat) (xs : List Value) (hs : a.eval s = v) (hown : w.ownsRow base e size v n xs) (ad : Addr) (m c : Nat) (news : List Value) (hx : a.eval x = .slice (some ad) m c) (hl : news.length = m * size) (hnews : ∀ j u, news[j]? = some u → w.cell? (ad.add j) = some u) (h1 : ∀ u ∈ news, u.oneCell' = true)
    (h63 : n + m ≤ maxLen) (hbytes : (n + m) * bytes ≤ 140737488355328) (hbase : base ≤ w.heap.size)
    (hK : ∀ v' w', w'.ownsRow base e size v' (n + m) (xs ++ news) → w.grownBy w' v.ownBlock → K (a.put o.dst v') w') :
    if Region.wanted o (yielded ops a.tmps) = true then Oper.wp P o a w K Q else E := by
  have hw : Region.wanted o (yielded ops a.tmps) = true := by simp [Region.wanted, hg]
  rw [if_pos hw]
  obtain ⟨v', w', hrun, r1, r2, _, _⟩ := run_append_own_at (P := P) w base t o.type e i z size bytes ht hi hz hsize hby hzs hsz v n xs hown ad m c news hl hnews h1 h63 hbytes hbase
  unfold Oper.wp
  simp [execOp, hop, resolve, invoke, builtin, hs, hx, hrun, Result.andThen]
  exact hK v' w' r1 r2
theorem info_stateK : (Try.prog.info? 28).map (fun i => (i.zero, i.size, i.bytes)) = some (some (.agg #[.int .i64 0, .int .i64 0]), 2, 16) := by kernel_rfl
theorem l1In_any (n : Int) (w : World) : Calls Try.prog 33 #[.int .i64 n, .int .i64 0, .int .i64 1000] w fun e w' => e = .returned (.bool (decide (0 ≤ n) && decide (n ≤ 1000))) ∧ w' = w := by
  by_cases h0 : 0 ≤ n
  · by_cases h1 : n ≤ 1000
    · rw [decide_eq_true h0, decide_eq_true h1]
      go_enter Try.func33, Try.ntmps33
      go_wp2
      go_ret
      exact ⟨rfl, rfl⟩
    · rw [decide_eq_true h0, decide_eq_false h1]
      go_enter Try.func33, Try.ntmps33
      go_wp2
      go_ret
      exact ⟨rfl, rfl⟩
  · rw [decide_eq_false h0]
    go_enter Try.func33, Try.ntmps33
    go_wp2
    go_ret
    exact ⟨rfl, rfl⟩
theorem ownsQ_built {t : TypeId} (w : World) (base : Nat) (hb : base ≤ w.heap.size) (x y : Int) : OwnsQ t (w.alloc (.cells #[.int .i64 x, .int .i64 y] t)) base (some ⟨w.heap.size, 0, none⟩) 1 1 [(x, y)] := by
  refine ⟨rfl, rfl, .inr ⟨w.heap.size, 1, #[.int .i64 x, .int .i64 y], rfl, hb, ?_, Nat.le_refl _, by unfold maxLen; omega, rfl, rfl⟩⟩
  show (w.heap.push _)[w.heap.size]? = _
  simp
set_option maxHeartbeats 4000000 in
set_option maxRecDepth 10000 in
theorem specRunOf_any (m : M.Mc) (s : Int × Int) (n : Int) (w : World) : Calls Try.prog 13 #[mcv m, stv s, .int .i64 n] w fun e w' => ∃ a l cap, e = .returned (.tuple #[.slice a l cap, .bool (M.runOk m s n)]) ∧ l ≤ 1001 ∧ OwnsQ 28 w' w.heap.size a l cap (M.runv m s n) ∧ Below w.heap.size w w' := by
  have C1 := specMachineOk_any m
  have C2 := specStateOk_any s
  have C3 := l1In_any n
  have HT : Hid (∀ W, Below ((w.alloc (.cells #[.int .i64 m.X.xx, .int .i64 m.X.xy, .int .i64 m.X.yy, .int .i64 m.X.x, .int .i64 m.X.y, .int .i64 m.X.k, .int .i64 m.Y.xx, .int .i64 m.Y.xy, .int .i64 m.Y.yy, .int .i64 m.Y.x, .int .i64 m.Y.y, .int .i64 m.Y.k] 33)).alloc (.cells #[.int .i64 s.1, .int .i64 s.2] 28)).heap.size ((w.alloc (.cells #[.int .i64 m.X.xx, .int .i64 m.X.xy, .int .i64 m.X.yy, .int .i64 m.X.x, .int .i64 m.X.y, .int .i64 m.X.k, .int .i64 m.Y.xx, .int .i64 m.Y.xy, .int .i64 m.Y.yy, .int .i64 m.Y.x, .int .i64 m.Y.y, .int .i64 m.Y.k] 33)).alloc (.cells #[.int .i64 s.1, .int .i64 s.2] 28)) W → W.cell? ⟨w.heap.size, 0, none⟩ = some (.int .i64 m.X.xx) ∧ W.cell? ⟨w.heap.size, 1, none⟩ = some (.int .i64 m.X.xy) ∧ W.cell? ⟨w.heap.size, 2, none⟩ = some (.int .i64 m.X.yy) ∧ W.cell? ⟨w.heap.size, 3, none⟩ = some (.int .i64 m.X.x) ∧ W.cell? ⟨w.heap.size, 4, none⟩ = some (.int .i64 m.X.y) ∧ W.cell? ⟨w.heap.size, 5, none⟩ = some (.int .i64 m.X.k) ∧ W.cell? ⟨w.heap.size, 6, none⟩ = some (.int .i64 m.Y.xx) ∧ W.cell? ⟨w.heap.size, 7, none⟩ = some (.int .i64 m.Y.xy) ∧ W.cell? ⟨w.heap.size, 8, none⟩ = some (.int .i64 m.Y.yy) ∧ W.cell? ⟨w.heap.size, 9, none⟩ = some (.int .i64 m.Y.x) ∧ W.cell? ⟨w.heap.size, 10, none⟩ = some (.int .i64 m.Y.y) ∧ W.cell? ⟨w.heap.size, 11, none⟩ = some (.int .i64 m.Y.k) ∧ W.cell? ⟨w.heap.size + 1, 0, none⟩ = some (.int .i64 s.1) ∧ W.cell? ⟨w.heap.size + 1, 1, none⟩ = some (.int .i64 s.2)) := fun W hW => by
    have e1 : (w.alloc (.cells #[.int .i64 m.X.xx, .int .i64 m.X.xy, .int .i64 m.X.yy, .int .i64 m.X.x, .int .i64 m.X.y, .int .i64 m.X.k, .int .i64 m.Y.xx, .int .i64 m.Y.xy, .int .i64 m.Y.yy, .int .i64 m.Y.x, .int .i64 m.Y.y, .int .i64 m.Y.k] 33)).heap.size = w.heap.size + 1 := by simp
    have h1 := fun i => World.cell?_alloc_new (w.alloc (.cells #[.int .i64 m.X.xx, .int .i64 m.X.xy, .int .i64 m.X.yy, .int .i64 m.X.x, .int .i64 m.X.y, .int .i64 m.X.k, .int .i64 m.Y.xx, .int .i64 m.Y.xy, .int .i64 m.Y.yy, .int .i64 m.Y.x, .int .i64 m.Y.y, .int .i64 m.Y.k] 33)) #[.int .i64 s.1, .int .i64 s.2] 28 i
    rw [e1] at h1
    have h0 := fun i => (World.cell?_alloc_lt (w := w.alloc (.cells #[.int .i64 m.X.xx, .int .i64 m.X.xy, .int .i64 m.X.yy, .int .i64 m.X.x, .int .i64 m.X.y, .int .i64 m.X.k, .int .i64 m.Y.xx, .int .i64 m.Y.xy, .int .i64 m.Y.yy, .int .i64 m.Y.x, .int .i64 m.Y.y, .int .i64 m.Y.k] 33)) (o := .cells #[.int .i64 s.1, .int .i64 s.2] 28) (a := ⟨w.heap.size, i, none⟩) (h := by simp)).trans (World.cell?_alloc_new w #[.int .i64 m.X.xx, .int .i64 m.X.xy, .int .i64 m.X.yy, .int .i64 m.X.x, .int .i64 m.X.y, .int .i64 m.X.k, .int .i64 m.Y.xx, .int .i64 m.Y.xy, .int .i64 m.Y.yy, .int .i64 m.Y.x, .int .i64 m.Y.y, .int .i64 m.Y.k] 33 i)
    exact ⟨(hW.cell (p := ⟨w.heap.size, 0, none⟩) (by simp; omega)).trans (h0 0), (hW.cell (p := ⟨w.heap.size, 1, none⟩) (by simp; omega)).trans (h0 1), (hW.cell (p := ⟨w.heap.size, 2, none⟩) (by simp; omega)).trans (h0 2), (hW.cell (p := ⟨w.heap.size, 3, none⟩) (by simp; omega)).trans (h0 3), (hW.cell (p := ⟨w.heap.size, 4, none⟩) (by simp; omega)).trans (h0 4), (hW.cell (p := ⟨w.heap.size, 5, none⟩) (by simp; omega)).trans (h0 5), (hW.cell (p := ⟨w.heap.size, 6, none⟩) (by simp; omega)).trans (h0 6), (hW.cell (p := ⟨w.heap.size, 7, none⟩) (by simp; omega)).trans (h0 7), (hW.cell (p := ⟨w.heap.size, 8, none⟩) (by simp; omega)).trans (h0 8), (hW.cell (p := ⟨w.heap.size, 9, none⟩) (by simp; omega)).trans (h0 9), (hW.cell (p := ⟨w.heap.size, 10, none⟩) (by simp; omega)).trans (h0 10), (hW.cell (p := ⟨w.heap.size, 11, none⟩) (by simp; omega)).trans (h0 11), (hW.cell (p := ⟨w.heap.size + 1, 0, none⟩) (by simp)).trans (h1 0), (hW.cell (p := ⟨w.heap.size + 1, 1, none⟩) (by simp)).trans (h1 1)⟩
  cases hok : M.runOk m s n with
  | false =>
    have HV : Hid (M.runv m s n = []) := M.runv_out hok
    have hno : m.ok = false ∨ (m.ok = true ∧ M.sOk s = false) ∨ (m.ok = true ∧ M.sOk s = true ∧ (decide (0 ≤ n) && decide (n ≤ 1000)) = false) := by
      unfold M.runOk at hok
      cases h1 : m.ok <;> cases h2 : M.sOk s <;> simp_all
    clear hok
    generalize m.ok = o1 at C1 hno
    generalize M.sOk s = o2 at C2 hno
    generalize (decide (0 ≤ n) && decide (n ≤ 1000)) = o3 at C3 hno
    obtain ⟨⟨a, b, c, d, f, k⟩, ⟨a', b', c', d', f', k'⟩⟩ := m
    obtain ⟨x, y⟩ := s
    dsimp only [mcv, stv] at C1 C2 HT ⊢
    rcases hno with rfl | ⟨rfl, rfl⟩ | ⟨rfl, rfl, rfl⟩
    all_goals
      go_enter Try.func13, Try.ntmps13
      go_wp2_with fail
      refine (C1 _).mono ?_
      rintro e w1 ⟨rfl, hb1⟩
      obtain ⟨q0, q1, q2, q3, q4, q5, q6, q7, q8, q9, q10, q11, q12, q13⟩ := HT.out _ hb1
      have HB1 : Hid (Below w.heap.size w w1) := (((Below.refl _ _).alloc (Nat.le_refl _) _).alloc (by simp) _).trans (hb1.mono (by simp; omega))
      clear hb1
      try (
        go_wp2_with fail
        refine (C2 _).mono ?_
        rintro e w2 ⟨rfl, hb2⟩
        replace HB1 : Hid (Below w.heap.size w w2) := HB1.out.trans (hb2.mono HB1.out.size)
        clear hb2)
      try (
        go_wp2_with fail
        refine (C3 _).mono ?_
        rintro e w3 ⟨rfl, rfl⟩)
      go_wp2
      go_ret2
      exact ⟨none, 0, 0, rfl, by omega, by rw [HV.out]; exact ownsQ_none _ _ _, HB1.out⟩
  | true =>
    obtain ⟨hm, hs, h3, h4⟩ := M.runOk_parts hok
    have HV : Hid (M.runv m s n = m.run s n.toNat) := M.runv_in hok
    rw [hm] at C1
    rw [hs] at C2
    rw [decide_eq_true h3, decide_eq_true h4] at C3
    obtain ⟨N, rfl⟩ := Int.eq_ofNat_of_zero_le h3
    have hN : N ≤ 1000 := by omega
    have HL : Hid (Int.toNat (N : Int) = N) := Int.toNat_natCast N
    have HM : Hid (m.ok = true) := hm
    have HS : Hid (M.sOk s = true) := hs
    have HMv : Hid (∃ m0, m0 = m) := ⟨_, rfl⟩
    obtain ⟨m0, hm0⟩ := HMv.out
    have HS0 : Hid (∃ s0, s0 = s) := ⟨_, rfl⟩
    obtain ⟨s0, hs0⟩ := HS0.out
    have CN : Hid (∀ (q : Int × Int) (w : World), M.sOk q = true → Calls Try.prog 31 #[mcv m, stv q] w fun e w' => e = .returned (stv (m0.nx q)) ∧ Below w.heap.size w w') := fun q w hq => by rw [hm0]; exact specNext_any m q w HM.out hq
    have HV0 : Hid (M.runv m s (N : Int) = m0.run s0 N) := by show _ = _; rw [hm0, hs0, HV.out, HL.out]
    have HSr : Hid (∀ k, M.sOk (m0.rn s0 k) = true) := fun k => by rw [hs0]; exact M.sOk_rn m0 HS.out k
    have HR0 : Hid (m0.run s0 0 = [s]) := by show _ = _; rw [← hs0]; rfl
    obtain ⟨i0, hi, hz0, hz1, hz2⟩ := info_parts info_stateK
    have HI : Hid (Try.prog.info? 28 = some i0 ∧ i0.zero = some (.agg #[.int .i64 0, .int .i64 0]) ∧ i0.size = 2 ∧ i0.bytes = 16) := ⟨hi, hz0, hz1, hz2⟩
    clear hok hm hs h3 h4 HMv HS0 hm0 hs0 HM HS HV HL hi hz0 hz1 hz2
    obtain ⟨⟨a, b, c, d, f, k⟩, ⟨a', b', c', d', f', k'⟩⟩ := m
    obtain ⟨x, y⟩ := s
    dsimp only [mcv, stv] at C1 C2 HT CN ⊢
    go_enter Try.func13, Try.ntmps13
    go_wp2_with fail
    refine (C1 _).mono ?_
    rintro e w1 ⟨rfl, hb1⟩
    have HB0 : Hid (Below _ _ w1) := hb1
    obtain ⟨q0, q1, q2, q3, q4, q5, q6, q7, q8, q9, q10, q11, q12, q13⟩ := HT.out _ hb1
    have HB1 : Hid (Below w.heap.size w w1) := (((Below.refl _ _).alloc (Nat.le_refl _) _).alloc (by simp) _).trans (hb1.mono (by simp; omega))
    clear hb1
    go_wp2_with fail
    refine (C2 _).mono ?_
    rintro e w2 ⟨rfl, hb2⟩
    have HB2 : Hid (Below w.heap.size w w2) := HB1.out.trans (hb2.mono HB1.out.size)
    have HB3 : Hid (Below (w.heap.size + 2) _ w2) := (HB0.out.trans (hb2.mono HB0.out.size)).mono (by simp)
    obtain ⟨r0, r1, r2, r3, r4, r5, r6, r7, r8, r9, r10, r11, r12, r13⟩ := HT.out _ (HB0.out.trans (hb2.mono HB0.out.size))
    clear hb2 q0 q1 q2 q3 q4 q5 q6 q7 q8 q9 q10 q11 q12 q13 HB0 HB1
    go_wp2_with fail
    refine (C3 _).mono ?_
    rintro e w2 ⟨rfl, rfl⟩
    have HO : Hid (OwnsQ 28 (w2.alloc (.cells #[.int .i64 x, .int .i64 y] 28)) (w.heap.size + 2) (some ⟨w2.heap.size, 0, none⟩) 1 1 (m0.run s0 0)) := by
      show OwnsQ _ _ _ _ _ _ _
      rw [HR0.out]; exact ownsQ_built _ _ (by have := HB3.out.size; simpa using this) x y
    have HBx : Hid (Below (w.heap.size + 2) w2 (w2.alloc (.cells #[.int .i64 x, .int .i64 y] 28))) := (Below.refl _ _).alloc (by have := HB3.out.size; simpa using this) _
    have HBy : Hid (Below w.heap.size w (w2.alloc (.cells #[.int .i64 x, .int .i64 y] 28))) := HB2.out.alloc HB2.out.size _
    have hsz2 : w.heap.size + 2 ≤ w2.heap.size := by have := HB3.out.size; simpa using this
    clear HT C1 C2 C3 HB3
    go_wp2
    go_loopw [8, 9] (fun s i wr => ∃ (j : Nat) (al : Option Addr) (cap' : Nat), j ≤ N ∧ i = .int .i64 j ∧ s = .slice al (j + 1) cap' ∧ OwnsQ 28 wr (w.heap.size + 2) al (j + 1) cap' (m0.run s0 j) ∧ Below (w.heap.size + 2) w2 wr ∧ Below w.heap.size w wr) (fun _ i _ => N - (intOf i).toNat)
    case atStart => exact ⟨0, _, _, by omega, rfl, rfl, HO.out, HBx.out, HBy.out⟩
    case round =>
      obtain ⟨j, al, cap', hj, rfl, rfl, ho1, hbr, hb1⟩ := hrel
      have HO1 : Hid (OwnsQ 28 wr (w.heap.size + 2) al (j + 1) cap' (m0.run s0 j)) := ho1
      have HB1 : Hid (Below w.heap.size w wr) := hb1
      have HBr : Hid (Below (w.heap.size + 2) w2 wr) := hbr
      have hszr : w.heap.size + 2 ≤ wr.heap.size := Nat.le_trans hsz2 hbr.size
      by_cases hlt : j < N
      · obtain ⟨g, rfl, hg, hcap, hbig, hc⟩ := ho1.block (by omega)
        obtain ⟨e1, e2⟩ := hc j (by omega)
        rw [M.run_get m0 s0 j j (Nat.le_refl _)] at e1 e2
        have vv0 := (hbr.cell (p := ⟨w.heap.size, 0, none⟩) (by simp)).trans r0
        have vv1 := (hbr.cell (p := ⟨w.heap.size, 1, none⟩) (by simp)).trans r1
        have vv2 := (hbr.cell (p := ⟨w.heap.size, 2, none⟩) (by simp)).trans r2
        have vv3 := (hbr.cell (p := ⟨w.heap.size, 3, none⟩) (by simp)).trans r3
        have vv4 := (hbr.cell (p := ⟨w.heap.size, 4, none⟩) (by simp)).trans r4
        have vv5 := (hbr.cell (p := ⟨w.heap.size, 5, none⟩) (by simp)).trans r5
        have vv6 := (hbr.cell (p := ⟨w.heap.size, 6, none⟩) (by simp)).trans r6
        have vv7 := (hbr.cell (p := ⟨w.heap.size, 7, none⟩) (by simp)).trans r7
        have vv8 := (hbr.cell (p := ⟨w.heap.size, 8, none⟩) (by simp)).trans r8
        have vv9 := (hbr.cell (p := ⟨w.heap.size, 9, none⟩) (by simp)).trans r9
        have vv10 := (hbr.cell (p := ⟨w.heap.size, 10, none⟩) (by simp)).trans r10
        have vv11 := (hbr.cell (p := ⟨w.heap.size, 11, none⟩) (by simp)).trans r11
        have hI : (j : Int) < (N : Int) := by omega
        have hcI : (j : Int) + 1 ≤ cap' := by omega
        have hjj : (j : Int) < (j : Int) + 1 := by omega
        have HN : Hid (m0.run s0 j ++ [m0.nx (m0.rn s0 j)] = m0.run s0 (j + 1)) := M.run_snoc m0 s0 j
        have CQ := CN.out (m0.rn s0 j)
        have HSj : Hid (M.sOk (m0.rn s0 j) = true) := HSr.out j
        generalize m0.rn s0 j = q at e1 e2 HN CQ HSj
        generalize hnx : m0.nx q = q2 at HN CQ
        obtain ⟨u, v⟩ := q
        obtain ⟨u2, v2⟩ := q2
        dsimp only at e1 e2 CQ
        clear ho1 hbr hb1 hc HO HBx HBy hnx r0 r1 r2 r3 r4 r5 r6 r7 r8 r9 r10 r11 r12 r13
        go_wp2
        go_region_law (first
          | (refine step_append_ownm rfl (.tmp 30) (.tmp 37) 38 rfl (w.heap.size + 2) 28 i0 (.agg #[.int .i64 0, .int .i64 0]) 2 16 Try.underlying38 HI.out.1 HI.out.2.1 HI.out.2.2.1 HI.out.2.2.2 rfl (by decide) (.slice (some ⟨g, 0, none⟩) (j + 1) cap') (j + 1) (prs (m0.run s0 j)) (by simp [Act.eval]) (World.ownsRow.alloc (HO1.out.below ((Below.refl _ _).drew.trans hb4)).2 _) ⟨w4.heap.size, 0, none⟩ 1 1 [.int .i64 u2, .int .i64 v2] (by simp [Act.eval]) rfl (cell_twoq w4 _ _ _) (two_intsq _ _) (by unfold maxLen; omega) (by omega) (by have := hb4.size; simp at this; simp; omega) ?_; intro v' w5 hown hgrow)
          | (go_simp; go_wp2_with (go_at_call 31; refine (CQ _ HSj.out).mono ?_; rintro e w4 ⟨rfl, hb4⟩)))
        all_goals
          have hown' : w5.ownsRow (w.heap.size + 2) 28 2 v' (j + 1 + 1) (prs (m0.run s0 (j + 1))) := by rw [← HN.out, ← prs_snoc]; exact hown
          obtain ⟨b5, c5, rfl, ho5⟩ := OwnsQ.form (M.run_len m0 s0 (j + 1)) hown'
          have HO5 : Hid (OwnsQ 28 w5 (w.heap.size + 2) b5 (j + 1 + 1) c5 (m0.run s0 (j + 1))) := ho5
          have hrow := HO1.out.row
          have hb4' : Below wr.heap.size wr w4 := (Below.refl _ _).drew.trans hb4
          have hs4 := hb4'.size
          have HBr5 : Hid (Below (w.heap.size + 2) w2 w5) := ((HBr.out.trans (hb4'.mono hszr)).alloc (by omega) _).grown hgrow (by simp; omega) hrow
          have HB5 : Hid (Below w.heap.size w w5) := ((HB1.out.trans (hb4'.mono HB1.out.size)).alloc (by have := HB1.out.size; omega) _).grown hgrow (by have := HB1.out.size; simp; omega) (fun q hq => by have := hrow q hq; omega)
          clear hown hown' hgrow ho5 hrow hb4 hb4' vv0 vv1 vv2 vv3 vv4 vv5 vv6 vv7 vv8 vv9 vv10 vv11 e1 e2
          go_wp2
          go_roundw
          case rel => exact ⟨j + 1, b5, c5, by omega, by go_num, rfl, HO5.out, HBr5.out, HB5.out⟩
          case measure => simp [intOf]; omega
      · have hjn : j = N := by omega
        subst hjn
        go_wp2
        go_ret2
        exact ⟨al, j + 1, cap', rfl, by omega, by rw [HV0.out]; exact HO1.out.mono (by omega), HB1.out⟩
end Go.Proofs.Ytjeoenieoejolai
namespace Go.Proofs.Ytjeoenieoejolai
open Go.RowKit

set_option maxHeartbeats 2000000 in
theorem specAfter_any (m : M.Mc) (s : Int × Int) (n : Int) (w : World) : Calls Try.prog 18 #[mcv m, stv s, .int .i64 n] w fun e w' => e = .returned (.tuple #[stv (M.aft m s n), .bool (M.runOk m s n)]) ∧ Below w.heap.size w w' := by
  have C1 := specRunOf_any m s n
  have HT : Hid (∀ W, Below (((w.alloc (.cells #[.int .i64 m.X.xx, .int .i64 m.X.xy, .int .i64 m.X.yy, .int .i64 m.X.x, .int .i64 m.X.y, .int .i64 m.X.k, .int .i64 m.Y.xx, .int .i64 m.Y.xy, .int .i64 m.Y.yy, .int .i64 m.Y.x, .int .i64 m.Y.y, .int .i64 m.Y.k] 33)).alloc (.cells #[.int .i64 s.1, .int .i64 s.2] 28)).alloc (.cells #[.int .i64 0, .int .i64 0] 28)).heap.size (((w.alloc (.cells #[.int .i64 m.X.xx, .int .i64 m.X.xy, .int .i64 m.X.yy, .int .i64 m.X.x, .int .i64 m.X.y, .int .i64 m.X.k, .int .i64 m.Y.xx, .int .i64 m.Y.xy, .int .i64 m.Y.yy, .int .i64 m.Y.x, .int .i64 m.Y.y, .int .i64 m.Y.k] 33)).alloc (.cells #[.int .i64 s.1, .int .i64 s.2] 28)).alloc (.cells #[.int .i64 0, .int .i64 0] 28)) W → W.cell? ⟨w.heap.size + 1 + 1, 0, none⟩ = some (.int .i64 0) ∧ W.cell? ⟨w.heap.size + 1 + 1, 1, none⟩ = some (.int .i64 0) ∧ W.frozen? ⟨w.heap.size + 1 + 1, 0, none⟩ = false ∧ W.frozen? ⟨w.heap.size + 1 + 1, 1, none⟩ = false) := fun W hW =>
    ⟨(hW.cell (p := ⟨w.heap.size + 1 + 1, 0, none⟩) (by simp)).trans (chain3m w _ _ _ _ _ _ 0).2.2.1, (hW.cell (p := ⟨w.heap.size + 1 + 1, 1, none⟩) (by simp)).trans (chain3m w _ _ _ _ _ _ 1).2.2.1, (frozen_kept hW (show w.heap.size + 1 + 1 < _ by simp)).trans (chain3m w _ _ _ _ _ _ 0).2.2.2, (frozen_kept hW (show w.heap.size + 1 + 1 < _ by simp)).trans (chain3m w _ _ _ _ _ _ 1).2.2.2⟩
  cases hok : M.runOk m s n with
  | false =>
    rw [M.aft_out hok]
    rw [hok] at C1
    obtain ⟨⟨a, b, c, d, f, k⟩, ⟨a', b', c', d', f', k'⟩⟩ := m
    obtain ⟨x, y⟩ := s
    dsimp only [mcv, stv] at C1 HT ⊢
    clear hok
    go_enter Try.func18, Try.ntmps18
    go_wp2_with fail
    refine (C1 _).mono ?_
    rintro e w1 ⟨ra, rl, rc, rfl, -, -, hb1⟩
    have HB1 : Hid (Below w.heap.size w w1) := ((((Below.refl _ _).alloc (Nat.le_refl _) _).alloc (by simp) _).alloc (by simp; omega) _).trans (hb1.mono (by simp; omega))
    obtain ⟨t0, t1, t2, t3⟩ := HT.out _ hb1
    clear hb1
    go_wp2
    refine bodyPost_ret (v := .tuple #[.agg #[.int .i64 0, .int .i64 0], .bool false]) (by simp [results, Try.results18, go_sem, t0, t1]) rfl ⟨rfl, ?_⟩
    exact (HB1.out.setCell (by show w.heap.size ≤ w.heap.size + 1 + 1; omega) _).setCell (by show w.heap.size ≤ w.heap.size + 1 + 1; omega) _
  | true =>
    obtain ⟨hm, hs, h3, h4⟩ := M.runOk_parts hok
    rw [M.aft_in hok]
    have hlen := len0 hok
    have HG : Hid ((M.runv m s n).getD n.toNat (0, 0) = m.rn s n.toNat) := by show _ = _; rw [M.runv_in hok]; exact M.run_get m s _ _ (Nat.le_refl _)
    rw [hok] at C1
    generalize M.runv m s n = rn at C1 HG hlen
    generalize m.rn s n.toNat = q at HG ⊢
    obtain ⟨N, rfl⟩ := Int.eq_ofNat_of_zero_le h3
    rw [Int.toNat_natCast] at HG hlen
    have hN : N ≤ 1000 := by omega
    obtain ⟨⟨a, b, c, d, f, k⟩, ⟨a', b', c', d', f', k'⟩⟩ := m
    obtain ⟨x, y⟩ := s
    obtain ⟨u, v⟩ := q
    dsimp only [mcv, stv] at C1 HT ⊢
    clear hok hm hs h3 h4
    go_enter Try.func18, Try.ntmps18
    go_wp2_with fail
    refine (C1 _).mono ?_
    rintro e w1 ⟨ra, rl, rc, rfl, -, ho1, hb1⟩
    have HB1 : Hid (Below w.heap.size w w1) := ((((Below.refl _ _).alloc (Nat.le_refl _) _).alloc (by simp) _).alloc (by simp; omega) _).trans (hb1.mono (by simp; omega))
    obtain ⟨t0, t1, t2, t3⟩ := HT.out _ hb1
    have hrl : rl = N + 1 := by rw [← ho1.1]; exact hlen
    subst hrl
    obtain ⟨g, rfl, hgb, hcap, hbig, hc⟩ := ho1.block (by omega)
    obtain ⟨e1, e2⟩ := hc N (by omega)
    rw [HG.out] at e1 e2
    have hcI : (N : Int) + 1 ≤ rc := by omega
    have hNN : (N : Int) < (N : Int) + 1 := by omega
    have hgne : g ≠ w.heap.size + 1 + 1 := by simp at hgb; omega
    clear hb1 ho1 hc hgb
    dsimp only at e1 e2
    go_wp2
    refine bodyPost_ret (v := .tuple #[.agg #[.int .i64 u, .int .i64 v], .bool true]) (by simp [results, Try.results18, go_sem, t0, t1]) rfl ⟨rfl, ?_⟩
    exact (HB1.out.setCell (by show w.heap.size ≤ w.heap.size + 1 + 1; omega) _).setCell (by show w.heap.size ≤ w.heap.size + 1 + 1; omega) _
theorem M.runOk_one (m : M.Mc) (s : Int × Int) : M.runOk m s 1 = (m.ok && M.sOk s) := by unfold M.runOk; simp
theorem M.aft_one {m : M.Mc} {s : Int × Int} (h : M.runOk m s 1 = true) : M.aft m s 1 = m.nx s := M.aft_in h
set_option maxHeartbeats 2000000 in
theorem specNextE_any (m : M.Mc) (s : Int × Int) (w : World) : Calls Try.prog 8 #[mcv m, stv s] w fun e w' => e = .returned (.tuple #[stv (M.aft m s 1), .bool (M.runOk m s 1)]) ∧ Below w.heap.size w w' := by
  have C1 := specMachineOk_any m
  have C2 := specStateOk_any s
  have HT : Hid (∀ W, Below (((w.alloc (.cells #[.int .i64 m.X.xx, .int .i64 m.X.xy, .int .i64 m.X.yy, .int .i64 m.X.x, .int .i64 m.X.y, .int .i64 m.X.k, .int .i64 m.Y.xx, .int .i64 m.Y.xy, .int .i64 m.Y.yy, .int .i64 m.Y.x, .int .i64 m.Y.y, .int .i64 m.Y.k] 33)).alloc (.cells #[.int .i64 s.1, .int .i64 s.2] 28)).alloc (.cells #[.int .i64 0, .int .i64 0] 28)).heap.size (((w.alloc (.cells #[.int .i64 m.X.xx, .int .i64 m.X.xy, .int .i64 m.X.yy, .int .i64 m.X.x, .int .i64 m.X.y, .int .i64 m.X.k, .int .i64 m.Y.xx, .int .i64 m.Y.xy, .int .i64 m.Y.yy, .int .i64 m.Y.x, .int .i64 m.Y.y, .int .i64 m.Y.k] 33)).alloc (.cells #[.int .i64 s.1, .int .i64 s.2] 28)).alloc (.cells #[.int .i64 0, .int .i64 0] 28)) W → W.cell? ⟨w.heap.size + 1 + 1, 0, none⟩ = some (.int .i64 0) ∧ W.cell? ⟨w.heap.size + 1 + 1, 1, none⟩ = some (.int .i64 0) ∧ W.frozen? ⟨w.heap.size + 1 + 1, 0, none⟩ = false ∧ W.frozen? ⟨w.heap.size + 1 + 1, 1, none⟩ = false) := fun W hW =>
    ⟨(hW.cell (p := ⟨w.heap.size + 1 + 1, 0, none⟩) (by simp)).trans (chain3m w _ _ _ _ _ _ 0).2.2.1, (hW.cell (p := ⟨w.heap.size + 1 + 1, 1, none⟩) (by simp)).trans (chain3m w _ _ _ _ _ _ 1).2.2.1, (frozen_kept hW (show w.heap.size + 1 + 1 < _ by simp)).trans (chain3m w _ _ _ _ _ _ 0).2.2.2, (frozen_kept hW (show w.heap.size + 1 + 1 < _ by simp)).trans (chain3m w _ _ _ _ _ _ 1).2.2.2⟩
  have HT2 : Hid (∀ W, Below (((w.alloc (.cells #[.int .i64 m.X.xx, .int .i64 m.X.xy, .int .i64 m.X.yy, .int .i64 m.X.x, .int .i64 m.X.y, .int .i64 m.X.k, .int .i64 m.Y.xx, .int .i64 m.Y.xy, .int .i64 m.Y.yy, .int .i64 m.Y.x, .int .i64 m.Y.y, .int .i64 m.Y.k] 33)).alloc (.cells #[.int .i64 s.1, .int .i64 s.2] 28)).alloc (.cells #[.int .i64 0, .int .i64 0] 28)).heap.size (((w.alloc (.cells #[.int .i64 m.X.xx, .int .i64 m.X.xy, .int .i64 m.X.yy, .int .i64 m.X.x, .int .i64 m.X.y, .int .i64 m.X.k, .int .i64 m.Y.xx, .int .i64 m.Y.xy, .int .i64 m.Y.yy, .int .i64 m.Y.x, .int .i64 m.Y.y, .int .i64 m.Y.k] 33)).alloc (.cells #[.int .i64 s.1, .int .i64 s.2] 28)).alloc (.cells #[.int .i64 0, .int .i64 0] 28)) W → ∀ i, W.cell? ⟨w.heap.size, i, none⟩ = ((#[.int .i64 m.X.xx, .int .i64 m.X.xy, .int .i64 m.X.yy, .int .i64 m.X.x, .int .i64 m.X.y, .int .i64 m.X.k, .int .i64 m.Y.xx, .int .i64 m.Y.xy, .int .i64 m.Y.yy, .int .i64 m.Y.x, .int .i64 m.Y.y, .int .i64 m.Y.k] : Array Value))[i]? ∧ W.cell? ⟨w.heap.size + 1, i, none⟩ = ((#[.int .i64 s.1, .int .i64 s.2] : Array Value))[i]?) := fun W hW i =>
    ⟨(hW.cell (p := ⟨w.heap.size, i, none⟩) (by simp; omega)).trans (chain3m w _ _ _ _ _ _ i).1, (hW.cell (p := ⟨w.heap.size + 1, i, none⟩) (by simp)).trans (chain3m w _ _ _ _ _ _ i).2.1⟩
  cases hok : M.runOk m s 1 with
  | false =>
    rw [M.aft_out hok]
    rw [M.runOk_one] at hok
    generalize m.ok = o1 at C1 hok
    generalize M.sOk s = o2 at C2 hok
    obtain ⟨⟨a, b, c, d, f, k⟩, ⟨a', b', c', d', f', k'⟩⟩ := m
    obtain ⟨x, y⟩ := s
    dsimp only [mcv, stv] at C1 C2 HT HT2 ⊢
    cases o1 with
    | false =>
      go_enter Try.func8, Try.ntmps8
      go_wp2_with fail
      refine (C1 _).mono ?_
      rintro e w1 ⟨rfl, hb1⟩
      have HB1 : Hid (Below w.heap.size w w1) := ((((Below.refl _ _).alloc (Nat.le_refl _) _).alloc (by simp) _).alloc (by simp; omega) _).trans (hb1.mono (by simp; omega))
      obtain ⟨t0, t1, t2, t3⟩ := HT.out _ hb1
      clear hb1
      go_wp2
      refine bodyPost_ret (v := .tuple #[.agg #[.int .i64 0, .int .i64 0], .bool false]) (by simp [results, Try.results8, go_sem, t0, t1]) rfl ⟨rfl, ?_⟩
      exact (HB1.out.setCell (by show w.heap.size ≤ w.heap.size + 1 + 1; omega) _).setCell (by show w.heap.size ≤ w.heap.size + 1 + 1; omega) _
    | true =>
      obtain rfl : o2 = false := by simpa using hok
      go_enter Try.func8, Try.ntmps8
      go_wp2_with fail
      refine (C1 _).mono ?_
      rintro e w1 ⟨rfl, hb1⟩
      have HB1 : Hid (Below w.heap.size w w1) := ((((Below.refl _ _).alloc (Nat.le_refl _) _).alloc (by simp) _).alloc (by simp; omega) _).trans (hb1.mono (by simp; omega))
      have HB1' : Hid (Below _ _ w1) := hb1
      have q0 : w1.cell? ⟨w.heap.size + 1, 0, none⟩ = some (.int .i64 x) := (HT2.out _ hb1 0).2
      have q1 : w1.cell? ⟨w.heap.size + 1, 1, none⟩ = some (.int .i64 y) := (HT2.out _ hb1 1).2
      clear hb1
      go_wp2_with fail
      refine (C2 _).mono ?_
      rintro e w2 ⟨rfl, hb2⟩
      have HB2 : Hid (Below w.heap.size w w2) := HB1.out.trans (hb2.mono HB1.out.size)
      obtain ⟨t0, t1, t2, t3⟩ := HT.out _ (HB1'.out.trans (hb2.mono HB1'.out.size))
      clear hb2 HB1'
      go_wp2
      refine bodyPost_ret (v := .tuple #[.agg #[.int .i64 0, .int .i64 0], .bool false]) (by simp [results, Try.results8, go_sem, t0, t1]) rfl ⟨rfl, ?_⟩
      exact (HB2.out.setCell (by show w.heap.size ≤ w.heap.size + 1 + 1; omega) _).setCell (by show w.heap.size ≤ w.heap.size + 1 + 1; omega) _
  | true =>
    obtain ⟨hm, hs, -, -⟩ := M.runOk_parts hok
    have C3 := fun w => specNext_any m s w hm hs
    rw [M.aft_one hok]
    rw [hm] at C1
    rw [hs] at C2
    generalize m.nx s = q at C3 ⊢
    obtain ⟨⟨a, b, c, d, f, k⟩, ⟨a', b', c', d', f', k'⟩⟩ := m
    obtain ⟨x, y⟩ := s
    obtain ⟨u, v⟩ := q
    dsimp only [mcv, stv] at C1 C2 C3 HT HT2 ⊢
    clear hok hm hs
    go_enter Try.func8, Try.ntmps8
    go_wp2_with fail
    refine (C1 _).mono ?_
    rintro e w1 ⟨rfl, hb1⟩
    have HB1 : Hid (Below w.heap.size w w1) := ((((Below.refl _ _).alloc (Nat.le_refl _) _).alloc (by simp) _).alloc (by simp; omega) _).trans (hb1.mono (by simp; omega))
    have HB1' : Hid (Below _ _ w1) := hb1
    have q0 : w1.cell? ⟨w.heap.size + 1, 0, none⟩ = some (.int .i64 x) := (HT2.out _ hb1 0).2
    have q1 : w1.cell? ⟨w.heap.size + 1, 1, none⟩ = some (.int .i64 y) := (HT2.out _ hb1 1).2
    clear hb1
    go_wp2_with fail
    refine (C2 _).mono ?_
    rintro e w2 ⟨rfl, hb2⟩
    have HB2 : Hid (Below w.heap.size w w2) := HB1.out.trans (hb2.mono HB1.out.size)
    have hb2' := HB1'.out.trans (hb2.mono HB1'.out.size)
    have HB2' : Hid (Below _ _ w2) := hb2'
    have ht := HT2.out _ hb2'
    have z0 : w2.cell? ⟨w.heap.size, 0, none⟩ = some (.int .i64 a) := (ht 0).1
    have z1 : w2.cell? ⟨w.heap.size, 1, none⟩ = some (.int .i64 b) := (ht 1).1
    have z2 : w2.cell? ⟨w.heap.size, 2, none⟩ = some (.int .i64 c) := (ht 2).1
    have z3 : w2.cell? ⟨w.heap.size, 3, none⟩ = some (.int .i64 d) := (ht 3).1
    have z4 : w2.cell? ⟨w.heap.size, 4, none⟩ = some (.int .i64 f) := (ht 4).1
    have z5 : w2.cell? ⟨w.heap.size, 5, none⟩ = some (.int .i64 k) := (ht 5).1
    have z6 : w2.cell? ⟨w.heap.size, 6, none⟩ = some (.int .i64 a') := (ht 6).1
    have z7 : w2.cell? ⟨w.heap.size, 7, none⟩ = some (.int .i64 b') := (ht 7).1
    have z8 : w2.cell? ⟨w.heap.size, 8, none⟩ = some (.int .i64 c') := (ht 8).1
    have z9 : w2.cell? ⟨w.heap.size, 9, none⟩ = some (.int .i64 d') := (ht 9).1
    have z10 : w2.cell? ⟨w.heap.size, 10, none⟩ = some (.int .i64 f') := (ht 10).1
    have z11 : w2.cell? ⟨w.heap.size, 11, none⟩ = some (.int .i64 k') := (ht 11).1
    have q2 : w2.cell? ⟨w.heap.size + 1, 0, none⟩ = some (.int .i64 x) := (ht 0).2
    have q3 : w2.cell? ⟨w.heap.size + 1, 1, none⟩ = some (.int .i64 y) := (ht 1).2
    clear hb2 HB1' ht hb2' q0 q1
    go_wp2_with fail
    refine (C3 _).mono ?_
    rintro e w3 ⟨rfl, hb3⟩
    have HB3 : Hid (Below w.heap.size w w3) := HB2.out.trans (hb3.mono HB2.out.size)
    obtain ⟨t0, t1, t2, t3⟩ := HT.out _ (HB2'.out.trans (hb3.mono HB2'.out.size))
    clear hb3 HB2' q2 q3 z0 z1 z2 z3 z4 z5 z6 z7 z8 z9 z10 z11
    go_wp2
    refine bodyPost_ret (v := .tuple #[.agg #[.int .i64 u, .int .i64 v], .bool true]) (by simp [results, Try.results8, go_sem, t0, t1]) rfl ⟨rfl, ?_⟩
    exact (HB3.out.setCell (by show w.heap.size ≤ w.heap.size + 1 + 1; omega) _).setCell (by show w.heap.size ≤ w.heap.size + 1 + 1; omega) _
theorem eqState_same (s : Int × Int) (w : World) : Calls Try.prog 12 #[stv s, stv s] w fun e w' => e = .returned (.bool true) ∧ Below w.heap.size w w' := by
  obtain ⟨x, y⟩ := s
  dsimp only [stv]
  have n1 : (x != x) = false := by simp
  have n2 : (y != y) = false := by simp
  go_enter Try.func12, Try.ntmps12
  go_wp2
  go_ret
  exact ⟨rfl, ((Below.refl _ _).alloc (Nat.le_refl _) _).alloc (by simp) _⟩
end Go.Proofs.Ytjeoenieoejolai
