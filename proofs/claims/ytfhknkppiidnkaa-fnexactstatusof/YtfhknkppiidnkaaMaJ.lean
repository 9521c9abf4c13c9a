/- Whether states are a run, in the program. Runs, in the model's text. After and Next, in the model's text. -/
import Derived.Test.YtfhknkppiidnkaaMaF
import Derived.Deep.RegionWith
import Derived.Laws.StructEq
namespace Go.Proofs.Ytfhknkppiidnkaa
open Go.RowKit

/-- are the first k states what comes from p? -/
def M.isRn (m : M.Mc) (p : Int × Int) (ps : List (Int × Int)) (o : Bool) : Nat → Bool
  | 0 => o
  | k + 1 => M.isRn m p ps o k && (decide ((ps.getD k (0, 0)).1 = (m.rn p k).1) && decide ((ps.getD k (0, 0)).2 = (m.rn p k).2))
def M.trOk (m : M.Mc) (ps : List (Int × Int)) : Bool := M.isRn m (ps.getD 0 (0, 0)) ps (M.sOk (ps.getD 0 (0, 0))) ps.length
def M.traceOk (m : M.Mc) (ps : List (Int × Int)) : Bool := m.ok && (decide (1 ≤ ps.length) && (decide (ps.length ≤ 1001) && M.trOk m ps))
theorem M.isRn_false (m : M.Mc) (p : Int × Int) (ps : List (Int × Int)) : ∀ k, M.isRn m p ps false k = false
  | 0 => rfl
  | k + 1 => by rw [M.isRn, M.isRn_false m p ps k]; rfl
end Go.Proofs.Ytfhknkppiidnkaa
namespace Go.Proofs.Ytfhknkppiidnkaa
open Go.RowKit

theorem step_append_ownm {P : Program} {ops : Array Oper} {o : Oper} {a : Act} {w : World} {K : Act → World → Prop} {Q : Exit → Act → World → Prop} {E : Prop}
    (hg : o.guard = none) (s x : Operand) (t : TypeId) (hop : o.op = Op.call { callee := Callee.builtin Builtin.append, args := #[s, x], argTypes := #[t, t] })
    (base : Nat) (e : TypeId) (i : TypeInfo) (z : Value) (size bytes : Nat) (ht : P.underlying t = some (.slice e)) (hi : P.info? e = some i) (hz : i.zero = some z) (hsize : i.size = size) (hby : i.bytes = bytes) (hzs : z.cells.size = size) (hsz : 0 < size)
    (v : Value) (n : Nat) (xs : List Value) (hs : a.eval s = v) (hown : w.ownsRow base e size v n xs) (ad : Addr) (m c : Nat) (news : List Value) (hx : a.eval x = .slice (some ad) m c) (hl : news.length = m * size) (hnews : ∀ j u, news[j]? = some u → w.cell? (ad.add j) = some u) (h1 : ∀ u ∈ news, u.oneCell' = true)
    (h63 : n + m ≤ maxLen) (hbytes : (n + m) * bytes ≤ 140737488355328) (hbase : base ≤ w.heap.size)
    (hK : ∀ v' w', w'.ownsRow base e size v' (n + m) (xs ++ news) → w.grownBy w' v.ownBlock → K (a.put o.dst v') w') :
    if Region.wanted o (yielded ops a.tmps) = true then Oper.wp P o a w K Q else E := by
  have hw : Region.wanted o (yielded ops a.tmps) = true := by simp [Region.wanted, hg]
  rw [if_pos hw]
  obtain ⟨v', w', hrun, r1, r2, _, _⟩ := run_append_own_at (P := P) w base t o.type e i z size bytes ht hi hz hsize hby hzs hsz v n xs hown ad m c news hl hnews h1 h63 hbytes hbase
  unfold Oper.wp
  simp [execOp, hop, resolve, invoke, builtin, hs, hx, hrun, Result.andThen]
  exact hK v' w' r1 r2
theorem l1In_any (n : Int) (w : World) : Calls Try.prog 14 #[.int .i64 n, .int .i64 0, .int .i64 1000] w fun e w' => e = .returned (.bool (decide (0 ≤ n) && decide (n ≤ 1000))) ∧ w' = w := by
  by_cases h0 : 0 ≤ n
  · by_cases h1 : n ≤ 1000
    · rw [decide_eq_true h0, decide_eq_true h1]
      go_enter Try.func14, Try.ntmps14
      go_wp2
      go_ret
      exact ⟨rfl, rfl⟩
    · rw [decide_eq_true h0, decide_eq_false h1]
      go_enter Try.func14, Try.ntmps14
      go_wp2
      go_ret
      exact ⟨rfl, rfl⟩
  · rw [decide_eq_false h0]
    go_enter Try.func14, Try.ntmps14
    go_wp2
    go_ret
    exact ⟨rfl, rfl⟩
theorem ownsQ_built {t : TypeId} (w : World) (base : Nat) (hb : base ≤ w.heap.size) (x y : Int) : OwnsQ t (w.alloc (.cells #[.int .i64 x, .int .i64 y] t)) base (some ⟨w.heap.size, 0, none⟩) 1 1 [(x, y)] := by
  refine ⟨rfl, rfl, .inr ⟨w.heap.size, 1, #[.int .i64 x, .int .i64 y], rfl, hb, ?_, Nat.le_refl _, by unfold maxLen; omega, rfl, rfl⟩⟩
  show (w.heap.push _)[w.heap.size]? = _
  simp
end Go.Proofs.Ytfhknkppiidnkaa
namespace Go.Proofs.Ytfhknkppiidnkaa
open Go.RowKit

theorem M.runOk_one (m : M.Mc) (s : Int × Int) : M.runOk m s 1 = (m.ok && M.sOk s) := by unfold M.runOk; simp
theorem M.aft_one {m : M.Mc} {s : Int × Int} (h : M.runOk m s 1 = true) : M.aft m s 1 = m.nx s := M.aft_in h
theorem eqState_same (s : Int × Int) (w : World) : Calls Try.prog 62 #[stv s, stv s] w fun e w' => e = .returned (.bool true) ∧ Below w.heap.size w w' := by
  obtain ⟨x, y⟩ := s
  dsimp only [stv]
  have n1 : (x != x) = false := by simp
  have n2 : (y != y) = false := by simp
  go_enter Try.func62, Try.ntmps62
  go_wp2
  go_ret
  exact ⟨rfl, ((Below.refl _ _).alloc (Nat.le_refl _) _).alloc (by simp) _⟩
end Go.Proofs.Ytfhknkppiidnkaa
