/- Claims joined as a tree: what stays the same on the way. Structs of many cells: rows of cells read and written at once, whatever their number. Levels of claims in the program: an array of forty, and how many of them count. Levels of claims: from a slice, and the level above. -/
import Derived.Test.YtfhknkppiidnkaaGreatClP
import Derived.Test.YtfhknkppiidnkaaGreatClA
namespace Go.Proofs.YtfhknkppiidnkaaGreat
open Go.RowKit

def M.lnk : List M.Cl → Bool
  | [] => true
  | a :: r => M.clOk a && ((match r with | [] => true | b :: _ => decide (a.e.1 = b.s.1) && decide (a.e.2 = b.s.2)) && M.lnk r)
def M.tot : List M.Cl → Int
  | [] => 0
  | a :: r => a.n + M.tot r
def M.chain (l : List M.Cl) : Bool := M.lnk l && decide (M.tot l ≤ 1000)
def M.whole (l : List M.Cl) : M.Cl := ⟨(l.headD M.c0).s, (l.getLastD M.c0).e, M.tot l⟩
theorem M.lnk_one (a : M.Cl) : M.lnk [a] = M.clOk a := by show (M.clOk a && (true && true)) = _; simp
theorem M.lnk_two (a b : M.Cl) (r : List M.Cl) : M.lnk (a :: b :: r) = (M.clOk a && ((decide (a.e.1 = b.s.1) && decide (a.e.2 = b.s.2)) && M.lnk (b :: r))) := rfl
theorem M.lnk_tail {a : M.Cl} {r : List M.Cl} (h : M.lnk (a :: r) = true) : M.lnk r = true := by
  unfold M.lnk at h; simp only [Bool.and_eq_true] at h; exact h.2.2
theorem M.lnk_app : ∀ (p r : List M.Cl), M.lnk (p ++ r) = true → M.lnk r = true
  | [], _, h => h
  | _ :: p, r, h => M.lnk_app p r (M.lnk_tail h)
theorem M.tot_app : ∀ (p r : List M.Cl), M.tot (p ++ r) = M.tot p + M.tot r
  | [], r => by simp [M.tot]
  | a :: p, r => by show a.n + M.tot (p ++ r) = _; rw [M.tot_app p r]; show _ = a.n + M.tot p + _; omega
theorem M.tot_pos : ∀ (l : List M.Cl), M.lnk l = true → 0 ≤ M.tot l
  | [], _ => by simp [M.tot]
  | a :: r, h => by
    have h1 := M.tot_pos r (M.lnk_tail h)
    unfold M.lnk at h; simp only [Bool.and_eq_true] at h
    have := M.clOk_n h.1
    show 0 ≤ a.n + M.tot r; omega
theorem M.tot_pre : ∀ (p r : List M.Cl), M.lnk (p ++ r) = true → 0 ≤ M.tot p
  | [], _, _ => by simp [M.tot]
  | a :: p, r, h => by
    have h1 := M.tot_pre p r (M.lnk_tail h)
    have h2 : M.lnk (a :: (p ++ r)) = true := h
    unfold M.lnk at h2; simp only [Bool.and_eq_true] at h2
    have := M.clOk_n h2.1
    show 0 ≤ a.n + M.tot p; omega
theorem M.clOk_s {c : M.Cl} (h : M.clOk c = true) : M.sOk c.s = true ∧ M.sOk c.e = true := by
  unfold M.clOk at h; simp only [Bool.and_eq_true] at h; exact ⟨h.1, h.2.1⟩
theorem M.clOk_of {c : M.Cl} (h1 : M.sOk c.s = true) (h2 : M.sOk c.e = true) (h3 : 1 ≤ c.n) (h4 : c.n ≤ 1000) : M.clOk c = true := by
  unfold M.clOk; rw [h1, h2, decide_eq_true h3, decide_eq_true h4]; rfl
theorem M.joinOk_parts {a b : M.Cl} (h : M.joinOk a b = true) : M.clOk a = true ∧ M.clOk b = true ∧ a.e.1 = b.s.1 ∧ a.e.2 = b.s.2 ∧ a.n + b.n ≤ 1000 := by
  unfold M.joinOk at h; simp only [Bool.and_eq_true, decide_eq_true_eq] at h
  exact ⟨h.1, h.2.1, h.2.2.1.1, h.2.2.1.2, h.2.2.2⟩
theorem M.joinOk_of {a b : M.Cl} (h1 : M.clOk a = true) (h2 : M.clOk b = true) (h3 : a.e.1 = b.s.1) (h4 : a.e.2 = b.s.2) (h5 : a.n + b.n ≤ 1000) : M.joinOk a b = true := by
  unfold M.joinOk; rw [h1, h2, decide_eq_true h3, decide_eq_true h4, decide_eq_true h5]; rfl
theorem M.join_ok {a b : M.Cl} (h : M.joinOk a b = true) : M.clOk (M.joinv a b) = true := by
  obtain ⟨h1, h2, -, -, h5⟩ := M.joinOk_parts h
  have n1 := M.clOk_n h1
  have n2 := M.clOk_n h2
  rw [M.joinv_in h]
  exact M.clOk_of (M.clOk_s h1).1 (M.clOk_s h2).2 (show 1 ≤ a.n + b.n by omega) h5
theorem M.lnk_join {a b : M.Cl} (h : M.joinOk a b = true) : ∀ (p r : List M.Cl), M.lnk (p ++ M.joinv a b :: r) = M.lnk (p ++ a :: b :: r)
  | [], r => by
    obtain ⟨h1, h2, h3, h4, -⟩ := M.joinOk_parts h
    have h6 := M.join_ok h
    show M.lnk (M.joinv a b :: r) = M.lnk (a :: b :: r)
    rw [M.lnk_two a b r, h1, decide_eq_true h3, decide_eq_true h4]
    cases r with
    | nil => rw [M.lnk_one, M.lnk_one, h6, h2]; rfl
    | cons c r => rw [M.lnk_two (M.joinv a b), M.lnk_two b, h6, h2, M.joinv_in h]; rfl
  | x :: p, r => by
    have ih := M.lnk_join h p r
    show M.lnk (x :: (p ++ M.joinv a b :: r)) = M.lnk (x :: (p ++ a :: b :: r))
    unfold M.lnk
    rw [ih]
    cases p with
    | nil => rw [show ([] : List M.Cl) ++ M.joinv a b :: r = M.joinv a b :: r from rfl, show ([] : List M.Cl) ++ a :: b :: r = a :: b :: r from rfl, M.joinv_in h]
    | cons y p => rfl
theorem M.tot_join {a b : M.Cl} (h : M.joinOk a b = true) (p r : List M.Cl) : M.tot (p ++ M.joinv a b :: r) = M.tot (p ++ a :: b :: r) := by
  rw [M.tot_app, M.tot_app, M.joinv_in h]
  show _ + (a.n + b.n + M.tot r) = _ + (a.n + (b.n + M.tot r))
  omega
theorem M.chain_join {a b : M.Cl} (h : M.joinOk a b = true) (p r : List M.Cl) : M.chain (p ++ M.joinv a b :: r) = M.chain (p ++ a :: b :: r) := by
  unfold M.chain; rw [M.lnk_join h, M.tot_join h]
theorem M.chain_bad {a b : M.Cl} (h : M.joinOk a b = false) (p r : List M.Cl) : M.chain (p ++ a :: b :: r) = false := by
  cases hc : M.chain (p ++ a :: b :: r) with
  | false => rfl
  | true =>
    unfold M.chain at hc; simp only [Bool.and_eq_true, decide_eq_true_eq] at hc
    obtain ⟨hl, ht⟩ := hc
    have h1 := M.tot_pre p _ hl
    have h2 := M.lnk_app p _ hl
    have h3 := M.tot_pos _ (M.lnk_tail (M.lnk_tail h2))
    rw [M.tot_app] at ht
    have ht' : M.tot p + (a.n + (b.n + M.tot r)) ≤ 1000 := ht
    have h4 := M.lnk_tail h2
    unfold M.lnk at h2 h4
    simp only [Bool.and_eq_true, decide_eq_true_eq] at h2 h4
    rw [M.joinOk_of h2.1 h4.1 h2.2.1.1 h2.2.1.2 (by omega)] at h
    exact h
theorem M.whole_join {a b : M.Cl} (h : M.joinOk a b = true) (p r : List M.Cl) : M.whole (p ++ M.joinv a b :: r) = M.whole (p ++ a :: b :: r) := by
  unfold M.whole
  rw [M.tot_join h]
  have e1 : ((p ++ M.joinv a b :: r).headD M.c0).s = ((p ++ a :: b :: r).headD M.c0).s := by
    cases p with
    | nil => rw [M.joinv_in h]; rfl
    | cons x p => rfl
  have e2 : ((p ++ M.joinv a b :: r).getLastD M.c0).e = ((p ++ a :: b :: r).getLastD M.c0).e := by
    rw [List.getLastD_eq_getLast?, List.getLastD_eq_getLast?]
    cases r with
    | nil =>
      rw [show p ++ [a, b] = (p ++ [a]) ++ [b] by simp, List.getLast?_append, List.getLast?_append]
      simp [M.joinv_in h]
    | cons x r =>
      rw [show p ++ M.joinv a b :: x :: r = (p ++ [M.joinv a b]) ++ (x :: r) by simp, show p ++ a :: b :: x :: r = (p ++ [a, b]) ++ (x :: r) by simp, List.getLast?_append, List.getLast?_append]
      simp [List.getLast?_cons]
  rw [e1, e2]
/-- what stands for a list of claims, halfway joined -/
structure M.Same (l cs : List M.Cl) : Prop where
  ch : M.chain cs = M.chain l
  wh : M.whole cs = M.whole l
  hd : M.clOk (cs.headD M.c0) = true
theorem M.Same.refl {l : List M.Cl} (h : M.clOk (l.headD M.c0) = true) : M.Same l l := ⟨rfl, rfl, h⟩
theorem M.Same.join {l p r : List M.Cl} {a b : M.Cl} (h : M.Same l (p ++ a :: b :: r)) (hj : M.joinOk a b = true) : M.Same l (p ++ M.joinv a b :: r) := by
  refine ⟨(M.chain_join hj p r).trans h.ch, (M.whole_join hj p r).trans h.wh, ?_⟩
  cases p with
  | nil => exact M.join_ok hj
  | cons x p => exact h.hd
theorem M.Same.bad {l p r : List M.Cl} {a b : M.Cl} (h : M.Same l (p ++ a :: b :: r)) (hj : M.joinOk a b = false) : M.chain l = false := by
  rw [← h.ch]; exact M.chain_bad hj p r
theorem M.Same.one {l : List M.Cl} {c : M.Cl} (h : M.Same l [c]) : M.chain l = true ∧ M.whole l = c := by
  have hd : M.clOk c = true := h.hd
  have hn := M.clOk_n hd
  refine ⟨?_, ?_⟩
  · rw [← h.ch]
    unfold M.chain M.lnk M.tot
    rw [hd]
    simp [M.lnk, M.tot]; omega
  · rw [← h.wh]
    unfold M.whole M.tot
    simp [M.tot]
def M.allOk (l : List M.Cl) : Bool := decide (1 ≤ l.length) && (decide (l.length ≤ 40) && M.chain l)
def M.allv (l : List M.Cl) : M.Cl := if M.allOk l = true then M.whole l else M.c0
theorem M.allv_in {l : List M.Cl} (h : M.allOk l = true) : M.allv l = M.whole l := if_pos h
theorem M.allv_out {l : List M.Cl} (h : M.allOk l = false) : M.allv l = M.c0 := if_neg (by rw [h]; decide)
theorem M.allOk_bad {l : List M.Cl} (h : M.clOk (l.headD M.c0) = false) : M.allOk l = false := by
  cases l with
  | nil => rfl
  | cons a r =>
    have h' : M.clOk a = false := h
    unfold M.allOk M.chain M.lnk; rw [h']; simp
/-- one by one -/
def M.step (p : M.Cl × Bool) (c : M.Cl) : M.Cl × Bool := if p.2 = true then (M.joinv p.1 c, M.joinOk p.1 c) else p
theorem M.seq_bad (p : M.Cl × Bool) (h : p.2 = false) : ∀ r : List M.Cl, r.foldl M.step p = p
  | [] => rfl
  | c :: r => by
    show r.foldl M.step (M.step p c) = p
    unfold M.step; rw [if_neg (by rw [h]; decide)]; exact M.seq_bad p h r
theorem M.seq {l : List M.Cl} : ∀ (r : List M.Cl) (c : M.Cl), M.Same l (c :: r) → (r.foldl M.step (c, true)).2 = M.chain l ∧ (M.chain l = true → (r.foldl M.step (c, true)).1 = M.whole l)
  | [], c, h => ⟨h.one.1.symm, fun _ => h.one.2.symm⟩
  | d :: r, c, h => by
    show (r.foldl M.step (M.step (c, true) d)).2 = _ ∧ (_ → (r.foldl M.step (M.step (c, true) d)).1 = _)
    rw [show M.step (c, true) d = (M.joinv c d, M.joinOk c d) from rfl]
    cases hj : M.joinOk c d with
    | false =>
      rw [M.seq_bad _ rfl]
      have := M.Same.bad (p := []) h hj
      exact ⟨this.symm, fun h' => by rw [this] at h'; simp at h'⟩
    | true => exact M.seq r _ (M.Same.join (p := []) h hj)
theorem M.seq_law {cs : List M.Cl} (h1 : 1 ≤ cs.length) (h2 : cs.length ≤ 40) :
    ((cs.drop 1).foldl M.step (cs.getD 0 M.c0, M.clOk (cs.getD 0 M.c0))).2 = M.allOk cs ∧ (M.allOk cs = true → ((cs.drop 1).foldl M.step (cs.getD 0 M.c0, M.clOk (cs.getD 0 M.c0))).1 = M.allv cs) := by
  match cs, h1 with
  | c :: r, _ =>
    show (r.foldl M.step (c, M.clOk c)).2 = _ ∧ (_ → (r.foldl M.step (c, M.clOk c)).1 = _)
    have hok : M.allOk (c :: r) = M.chain (c :: r) := by unfold M.allOk; rw [decide_eq_true (show 1 ≤ (c :: r).length by simp), decide_eq_true h2]; rfl
    cases hc : M.clOk c with
    | false =>
      rw [M.seq_bad _ rfl]
      have := M.allOk_bad (l := c :: r) hc
      exact ⟨this.symm, fun h => by rw [this] at h; simp at h⟩
    | true =>
      have := M.seq r c (M.Same.refl (l := c :: r) hc)
      refine ⟨by rw [hok]; exact this.1, fun h => ?_⟩
      rw [M.allv_in h]; rw [hok] at h; exact this.2 h
end Go.Proofs.YtfhknkppiidnkaaGreat
namespace Go.Proofs.YtfhknkppiidnkaaGreat
open Go.RowKit

def lvs (xs : List M.Cl) (m : Int) : List Value := prc xs ++ [.int .i64 m]
def lvv (xs : List M.Cl) (m : Int) : Value := .agg (lvs xs m).toArray
def M.z40 : List M.Cl := List.replicate 40 M.c0
theorem lvs_len {xs : List M.Cl} (h : xs.length = 40) (m : Int) : (lvs xs m).length = 201 := by unfold lvs; rw [List.length_append, prc_len, h]; rfl
theorem lvs_one {xs : List M.Cl} {m : Int} : ∀ v ∈ lvs xs m, v.oneCell' = true := by
  intro v hv
  unfold lvs at hv
  rcases List.mem_append.1 hv with h | h
  · unfold prc at h
    obtain ⟨c, _, h⟩ := List.mem_flatMap.1 h
    exact five_ints c v h
  · rw [List.mem_singleton.1 h]; rfl
theorem lvs_at {xs : List M.Cl} (hx : xs.length = 40) (m : Int) {i : Nat} (hi : i < 40) : ∀ j v, (cvs (xs.getD i M.c0))[j]? = some v → (lvs xs m)[i * 5 + j]? = some v := by
  intro j v hv
  have hj : j < 5 := by
    rcases Nat.lt_or_ge j 5 with h | h
    · exact h
    · rw [List.getElem?_eq_none (by simpa [cvs] using h)] at hv; simp at hv
  unfold lvs
  rw [List.getElem?_append_left (by rw [prc_len]; omega), prc_get xs (by omega) hj]; exact hv
theorem lvs_many {xs : List M.Cl} (hx : xs.length = 40) (m : Int) : (lvs xs m)[200]? = some (.int .i64 m) := by
  unfold lvs; rw [List.getElem?_append_right (by rw [prc_len]; omega), prc_len, hx]; rfl
theorem lvs_set_many {xs : List M.Cl} (hx : xs.length = 40) (m k : Int) : (lvs xs m).set 200 (.int .i64 k) = lvs xs k := by
  unfold lvs; rw [List.set_append_right _ _ (by rw [prc_len]; omega), prc_len, hx]; rfl
theorem prc_set : ∀ (xs : List M.Cl) (r : List Value) {i : Nat} (c : M.Cl), i < xs.length → spl (prc xs ++ r) (i * 5) (cvs c) = prc (xs.set i c) ++ r
  | [], _, _, _, h => by simp at h
  | p :: xs, r, 0, c, _ => by
    unfold spl
    show (cvs p ++ prc xs ++ r).take (0 * 5) ++ (cvs c ++ (cvs p ++ prc xs ++ r).drop (0 * 5 + 5)) = cvs c ++ prc xs ++ r
    rw [Nat.zero_mul, Nat.zero_add, List.take_zero, List.nil_append, List.append_assoc (cvs p), List.drop_append_of_le_length (by simp [cvs]), List.append_assoc (cvs c)]
    rfl
  | p :: xs, r, i + 1, c, h => by
    have ih := prc_set xs r (i := i) c (by simpa using h)
    unfold spl at ih ⊢
    show (cvs p ++ prc xs ++ r).take ((i + 1) * 5) ++ (cvs c ++ (cvs p ++ prc xs ++ r).drop ((i + 1) * 5 + (cvs c).length)) = cvs p ++ prc (xs.set i c) ++ r
    rw [List.append_assoc (cvs p), List.append_assoc (cvs p), show (i + 1) * 5 = (cvs p).length + i * 5 by simp [cvs]; omega, List.take_length_add_append, Nat.add_assoc, List.drop_length_add_append, List.append_assoc (cvs p), ih]
theorem lvs_set {xs : List M.Cl} (hx : xs.length = 40) (m : Int) {i : Nat} (hi : i < 40) (c : M.Cl) : spl (lvs xs m) (i * 5) (cvs c) = lvs (xs.set i c) m := by
  unfold lvs; exact prc_set xs _ c (by omega)
end Go.Proofs.YtfhknkppiidnkaaGreat
namespace Go.Proofs.YtfhknkppiidnkaaGreat
open Go.RowKit

theorem prc_drop : ∀ (n : Nat) (xs : List M.Cl), (prc xs).drop (n * 5) = prc (xs.drop n)
  | 0, xs => by simp
  | n + 1, [] => by simp [prc]
  | n + 1, x :: xs => by
    show (cvs x ++ prc xs).drop ((n + 1) * 5) = prc (xs.drop n)
    rw [show (n + 1) * 5 = (cvs x).length + n * 5 by simp [cvs]; omega, List.drop_length_add_append, prc_drop n xs]
theorem lvs_copy {cs : List M.Cl} (h : cs.length ≤ 40) (m : Int) : spl (lvs M.z40 m) 0 (prc cs) = lvs (cs ++ M.z40.drop cs.length) m := by
  unfold spl lvs
  rw [List.take_zero, List.nil_append, Nat.zero_add, prc_len, List.drop_append_of_le_length (by rw [prc_len]; simp [M.z40]; omega), prc_drop]
  simp [prc]
theorem z40_len : M.z40.length = 40 := by simp [M.z40]
theorem take_z40 {cs : List M.Cl} : (cs ++ M.z40.drop cs.length).take cs.length = cs := by simp
theorem len_z40 {cs : List M.Cl} (h : cs.length ≤ 40) : (cs ++ M.z40.drop cs.length).length = 40 := by rw [List.length_append, List.length_drop, z40_len]; omega
theorem prc_one {cs : List M.Cl} : ∀ v ∈ prc cs, v.oneCell' = true := by
  intro v h
  unfold prc at h
  obtain ⟨c, _, h⟩ := List.mem_flatMap.1 h
  exact five_ints c v h
theorem SeesC.cells {w : World} {b off n cap : Nat} {cs : List M.Cl} (h : SeesC w (some ⟨b, off, none⟩) n cap cs) : ∀ j v, (prc cs)[j]? = some v → w.cell? ((⟨b, off, none⟩ : Addr).add j) = some v := by
  intro j v hv
  have hj : j < cs.length * 5 := by
    rcases Nat.lt_or_ge j (cs.length * 5) with h | h
    · exact h
    · rw [List.getElem?_eq_none (by rw [prc_len]; exact h)] at hv; simp at hv
  have hn := h.len
  obtain ⟨b', off', e, hc⟩ := h.at (by omega)
  simp only [Option.some.injEq, Addr.mk.injEq, and_true] at e
  obtain ⟨rfl, rfl⟩ := e
  have h1 := hc (j / 5) (by omega) (j % 5) (by omega)
  have h2 := prc_get cs (i := j / 5) (j := j % 5) (by omega) (by omega)
  rw [show j / 5 * 5 + j % 5 = j by omega, hv] at h2
  rw [← h2, show off + j / 5 * 5 + j % 5 = off + j by omega] at h1
  rw [Addr.add_mid]; exact h1
theorem lv_zero : Tryz.zeroCells113 = (lvs M.z40 0).toArray := by kernel_rfl
theorem lv_size : (Tryz.prog.info? 113).map (·.size) = some 201 := by kernel_rfl
theorem cl_size : (Tryz.prog.info? 33).map (·.size) = some 5 := by kernel_rfl
theorem zc_list : Tryz.zeroCells113.toList = lvs M.z40 0 := by rw [lv_zero]
theorem zc_info : (Tryz.prog.info? 113).map (·.size) = some Tryz.zeroCells113.size := by kernel_rfl
theorem zc_len : Tryz.zeroCells113.size = 201 := by kernel_rfl
theorem zc_one : Tryz.zeroCells113.all (·.oneCell') = true := by rw [lv_zero]; exact all_oneCell_toArray lvs_one
theorem lies_zc (w : World) : Lies (w.alloc (.cells Tryz.zeroCells113 113)) w.heap.size (lvs M.z40 0) := by
  have := lies_new w Tryz.zeroCells113 113
  rwa [zc_list] at this
theorem load_lv {w : World} {b : Nat} {vs : List Value} (h : Lies w b vs) (hl : vs.length = 201) : (loadVar 113 ⟨b, 0, none⟩).run Tryz.prog w = .ok (.agg vs.toArray) w :=
  run_loadVar_mid w b 0 113 vs _ h.row Tryz.underlying113 rfl (by rw [lv_size, hl])
set_option maxHeartbeats 2000000 in
theorem claimLevelOf_no {a : Option Addr} {n cap : Nat} (w : World) (hn : n < 1 ∨ 40 < n) (hb : (n : Int) ≤ 9223372036854775807) :
    Calls Tryz.prog 51 #[.slice a n cap] w fun e w' => e = .returned (.tuple #[lvv M.z40 0, .bool false]) ∧ Below w.heap.size w w' := by
  have L0 : Hid (Lies (w.alloc (.cells Tryz.zeroCells113 113)) w.heap.size (lvs M.z40 0)) := lies_zc w
  have ht : (w.alloc (.cells Tryz.zeroCells113 113)).there w.heap.size 0 Tryz.zeroCells113.size := by rw [zc_len]; exact L0.out.there 0 201 (by rw [lvs_len z40_len]; omega)
  have HB : Hid (Below w.heap.size w (w.alloc (.cells Tryz.zeroCells113 113))) := (Below.refl _ _).alloc (Nat.le_refl _) _
  rcases hn with hn | hn
  all_goals
    go_enter Tryz.func51, Tryz.ntmps51
    go_wp2_with (first | (refine wpList_store_mid rfl 113 _ _ rfl _ 0 Tryz.zeroCells113 rfl rfl ht zc_info zc_one ?_))
    have L1 := L0.out.setCells Tryz.zeroCells113.toList 0 (by rw [zc_list]; simp [lvs_len z40_len])
    rw [spl_all (by rw [zc_list])] at L1
    rw [zc_list] at L1 ⊢
    have hl := load_lv L1 (lvs_len z40_len 0)
    exact bodyPost_ret (results_cell_tmp rfl rfl hl) rfl ⟨rfl, below_setCells _ _ HB.out (Nat.le_refl _)⟩
set_option maxHeartbeats 2000000 in
set_option maxRecDepth 100000 in
theorem claimLevelOf_yes {b off n cap : Nat} {cs : List M.Cl} (w : World) (hs : SeesC w (some ⟨b, off, none⟩) n cap cs) (hn0 : 1 ≤ n) (hn : n ≤ 40) :
    Calls Tryz.prog 51 #[.slice (some ⟨b, off, none⟩) n cap] w fun e w' => e = .returned (.tuple #[lvv (cs ++ M.z40.drop cs.length) n, .bool true]) ∧ Below w.heap.size w w' := by
  have hl : cs.length = n := hs.len
  have hZ : (lvs M.z40 0).length = 201 := lvs_len z40_len 0
  have L0 : Hid (Lies ((w.alloc (.cells Tryz.zeroCells113 113)).alloc (.cells Tryz.zeroCells113 113)) w.heap.size (lvs M.z40 0)) := (lies_zc w).alloc _
  have L1 : Hid (Lies ((w.alloc (.cells Tryz.zeroCells113 113)).alloc (.cells Tryz.zeroCells113 113)) (w.heap.size + 1) (lvs M.z40 0)) := by
    have := lies_zc (w.alloc (.cells Tryz.zeroCells113 113))
    rwa [show (w.alloc (.cells Tryz.zeroCells113 113)).heap.size = w.heap.size + 1 by simp] at this
  have HB : Hid (Below w.heap.size w ((w.alloc (.cells Tryz.zeroCells113 113)).alloc (.cells Tryz.zeroCells113 113))) := ((Below.refl _ _).alloc (Nat.le_refl _) _).alloc (by simp) _
  have hsrc : Hid (∀ j v, (prc cs)[j]? = some v → ((w.alloc (.cells Tryz.zeroCells113 113)).alloc (.cells Tryz.zeroCells113 113)).cell? ((⟨b, off, none⟩ : Addr).add j) = some v) :=
    (hs.below ((HB.out))).cells
  have hp : Hid ((prc cs).length = Nat.min n 40 * 5) := by show _ = _; rw [prc_len, hl, show Nat.min n 40 = n from Nat.min_eq_left hn]
  have ht : ((w.alloc (.cells Tryz.zeroCells113 113)).alloc (.cells Tryz.zeroCells113 113)).there (w.heap.size + 1) 0 (prc cs).length := L1.out.there 0 _ (by rw [prc_len]; omega)
  have L2 := L1.out.setCells (prc cs) 0 (by rw [prc_len]; omega)
  rw [lvs_copy (by omega)] at L2
  have L02 := L0.out.farCells (prc cs) 0 (show w.heap.size ≠ w.heap.size + 1 by omega)
  have HB2 := below_setCells (prc cs) 0 HB.out (show w.heap.size ≤ w.heap.size + 1 by omega)
  have hx : (cs ++ M.z40.drop cs.length).length = 40 := len_z40 (by omega)
  have HL2 : Hid (Lies (((w.alloc (.cells Tryz.zeroCells113 113)).alloc (.cells Tryz.zeroCells113 113)).setCells (w.heap.size + 1) 0 (prc cs)) (w.heap.size + 1) (lvs (cs ++ M.z40.drop cs.length) 0)) := L2
  have HL02 : Hid (Lies (((w.alloc (.cells Tryz.zeroCells113 113)).alloc (.cells Tryz.zeroCells113 113)).setCells (w.heap.size + 1) 0 (prc cs)) w.heap.size (lvs M.z40 0)) := L02
  have HBB2 : Hid (Below w.heap.size w (((w.alloc (.cells Tryz.zeroCells113 113)).alloc (.cells Tryz.zeroCells113 113)).setCells (w.heap.size + 1) 0 (prc cs))) := HB2
  have hcp := run_copy_many (P := Tryz.prog) ((w.alloc (.cells Tryz.zeroCells113 113)).alloc (.cells Tryz.zeroCells113 113)) 65 65 3 33 (w.heap.size + 1) 0 40 40 ⟨b, off, none⟩ n cap 5 (prc cs) Tryz.underlying65 cl_size hp.out hsrc.out ht prc_one
  rw [show Nat.min n 40 = n from Nat.min_eq_left hn] at hcp
  generalize hW : ((w.alloc (.cells Tryz.zeroCells113 113)).alloc (.cells Tryz.zeroCells113 113)).setCells (w.heap.size + 1) 0 (prc cs) = W at hcp HL2 HL02 HBB2
  have m0 : W.cell? ⟨w.heap.size + 1, 200, none⟩ = some (.int .i64 0) := (HL2.out.at 200).trans (lvs_many hx 0)
  have m1 : W.frozen? ⟨w.heap.size + 1, 200, none⟩ = false := HL2.out.fr 200
  have L3 := HL2.out.set 200 (by rw [lvs_len hx]; omega) (.int .i64 (n : Int))
  rw [lvs_set_many hx] at L3
  have L03 := HL02.out.far (show w.heap.size ≠ w.heap.size + 1 by omega) 200 (.int .i64 (n : Int))
  have HB3 : Hid (Below w.heap.size w (W.setCell ⟨w.heap.size + 1, 200, none⟩ (.int .i64 (n : Int)))) := HBB2.out.setCell (show w.heap.size ≤ w.heap.size + 1 by omega) _
  have hr := L3.row
  have hi : (Tryz.prog.info? 113).map (·.size) = some (lvs (cs ++ M.z40.drop cs.length) (n : Int)).length := by rw [lvs_len hx]; exact lv_size
  have hiA : (Tryz.prog.info? 113).map (·.size) = some (lvs (cs ++ M.z40.drop cs.length) (n : Int)).toArray.size := by rw [List.size_toArray]; exact hi
  have htA : (W.setCell ⟨w.heap.size + 1, 200, none⟩ (.int .i64 (n : Int))).there w.heap.size 0 (lvs (cs ++ M.z40.drop cs.length) (n : Int)).toArray.size := by rw [show (lvs (cs ++ M.z40.drop cs.length) (n : Int)).toArray.size = 201 from lvs_len hx _]; exact L03.there 0 201 (by rw [hZ]; omega)
  have h1A : (lvs (cs ++ M.z40.drop cs.length) (n : Int)).toArray.all (·.oneCell') = true := all_oneCell_toArray lvs_one
  have L4 : Hid (Lies ((W.setCell ⟨w.heap.size + 1, 200, none⟩ (.int .i64 (n : Int))).setCells w.heap.size 0 (lvs (cs ++ M.z40.drop cs.length) (n : Int))) w.heap.size (lvs (cs ++ M.z40.drop cs.length) (n : Int))) := by
    have := L03.setCells (lvs (cs ++ M.z40.drop cs.length) (n : Int)) 0 (by rw [lvs_len hx, hZ]; omega)
    rwa [spl_all (by rw [lvs_len hx, hZ])] at this
  have hlen : Hid ((lvs (cs ++ M.z40.drop cs.length) (n : Int)).length = 201) := lvs_len hx _
  unfold lvv
  generalize lvs (cs ++ M.z40.drop cs.length) (n : Int) = X at *
  clear L3 L03 hs hZ HL2 HL02 HBB2 hW
  go_enter Tryz.func51, Tryz.ntmps51
  go_wp2_with (first | (refine wpList_load_mid rfl 113 _ rfl (w.heap.size + 1) 0 rfl X _ hr Tryz.underlying113 rfl hi ?_) | (refine wpList_store_mid rfl 113 _ _ rfl w.heap.size 0 X.toArray rfl rfl htA hiA h1A ?_))
  exact bodyPost_ret (results_cell_tmp rfl rfl (load_lv L4.out hlen.out)) rfl ⟨rfl, below_setCells _ _ HB3.out (Nat.le_refl _)⟩
end Go.Proofs.YtfhknkppiidnkaaGreat
