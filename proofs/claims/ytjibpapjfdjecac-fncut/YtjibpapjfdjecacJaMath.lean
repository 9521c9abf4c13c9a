/- Claims joined as a tree: what stays the same on the way. -/
import Derived.Test.YtjibpapjfdjecacClP
namespace Go.Proofs.Ytjibpapjfdjecac
open Go.RowKit

def M.lnk : List M.Cl → Bool
  | [] => true
  | a :: r => M.clOk a && ((match r with | [] => true | b :: _ => decide (a.e.1 = b.s.1) && decide (a.e.2 = b.s.2)) && M.lnk r)
def M.tot : List M.Cl → Int
  | [] => 0
  | a :: r => a.n + M.tot r
def M.chain (l : List M.Cl) : Bool := M.lnk l && decide (M.tot l ≤ 1000)
def M.whole (l : List M.Cl) : M.Cl := ⟨(l.headD M.c0).s, (l.getLastD M.c0).e, M.tot l⟩
theorem M.lnk_one (a : M.Cl) : M.lnk [a] = M.clOk a := by show (M.clOk a && (true && true)) = _; simp
theorem M.lnk_two (a b : M.Cl) (r : List M.Cl) : M.lnk (a :: b :: r) = (M.clOk a && ((decide (a.e.1 = b.s.1) && decide (a.e.2 = b.s.2)) && M.lnk (b :: r))) := rfl
theorem M.lnk_tail {a : M.Cl} {r : List M.Cl} (h : M.lnk (a :: r) = true) : M.lnk r = true := by
  unfold M.lnk at h; simp only [Bool.and_eq_true] at h; exact h.2.2
theorem M.lnk_app : ∀ (p r : List M.Cl), M.lnk (p ++ r) = true → M.lnk r = true
  | [], _, h => h
  | _ :: p, r, h => M.lnk_app p r (M.lnk_tail h)
theorem M.tot_app : ∀ (p r : List M.Cl), M.tot (p ++ r) = M.tot p + M.tot r
  | [], r => by simp [M.tot]
  | a :: p, r => by show a.n + M.tot (p ++ r) = _; rw [M.tot_app p r]; show _ = a.n + M.tot p + _; omega
theorem M.tot_pos : ∀ (l : List M.Cl), M.lnk l = true → 0 ≤ M.tot l
  | [], _ => by simp [M.tot]
  | a :: r, h => by
    have h1 := M.tot_pos r (M.lnk_tail h)
    unfold M.lnk at h; simp only [Bool.and_eq_true] at h
    have := M.clOk_n h.1
    show 0 ≤ a.n + M.tot r; omega
theorem M.tot_pre : ∀ (p r : List M.Cl), M.lnk (p ++ r) = true → 0 ≤ M.tot p
  | [], _, _ => by simp [M.tot]
  | a :: p, r, h => by
    have h1 := M.tot_pre p r (M.lnk_tail h)
    have h2 : M.lnk (a :: (p ++ r)) = true := h
    unfold M.lnk at h2; simp only [Bool.and_eq_true] at h2
    have := M.clOk_n h2.1
    show 0 ≤ a.n + M.tot p; omega
theorem M.clOk_s {c : M.Cl} (h : M.clOk c = true) : M.sOk c.s = true ∧ M.sOk c.e = true := by
  unfold M.clOk at h; simp only [Bool.and_eq_true] at h; exact ⟨h.1, h.2.1⟩
theorem M.clOk_of {c : M.Cl} (h1 : M.sOk c.s = true) (h2 : M.sOk c.e = true) (h3 : 1 ≤ c.n) (h4 : c.n ≤ 1000) : M.clOk c = true := by
  unfold M.clOk; rw [h1, h2, decide_eq_true h3, decide_eq_true h4]; rfl
theorem M.joinOk_parts {a b : M.Cl} (h : M.joinOk a b = true) : M.clOk a = true ∧ M.clOk b = true ∧ a.e.1 = b.s.1 ∧ a.e.2 = b.s.2 ∧ a.n + b.n ≤ 1000 := by
  unfold M.joinOk at h; simp only [Bool.and_eq_true, decide_eq_true_eq] at h
  exact ⟨h.1, h.2.1, h.2.2.1.1, h.2.2.1.2, h.2.2.2⟩
theorem M.joinOk_of {a b : M.Cl} (h1 : M.clOk a = true) (h2 : M.clOk b = true) (h3 : a.e.1 = b.s.1) (h4 : a.e.2 = b.s.2) (h5 : a.n + b.n ≤ 1000) : M.joinOk a b = true := by
  unfold M.joinOk; rw [h1, h2, decide_eq_true h3, decide_eq_true h4, decide_eq_true h5]; rfl
theorem M.join_ok {a b : M.Cl} (h : M.joinOk a b = true) : M.clOk (M.joinv a b) = true := by
  obtain ⟨h1, h2, -, -, h5⟩ := M.joinOk_parts h
  have n1 := M.clOk_n h1
  have n2 := M.clOk_n h2
  rw [M.joinv_in h]
  exact M.clOk_of (M.clOk_s h1).1 (M.clOk_s h2).2 (show 1 ≤ a.n + b.n by omega) h5
theorem M.lnk_join {a b : M.Cl} (h : M.joinOk a b = true) : ∀ (p r : List M.Cl), M.lnk (p ++ M.joinv a b :: r) = M.lnk (p ++ a :: b :: r)
  | [], r => by
    obtain ⟨h1, h2, h3, h4, -⟩ := M.joinOk_parts h
    have h6 := M.join_ok h
    show M.lnk (M.joinv a b :: r) = M.lnk (a :: b :: r)
    rw [M.lnk_two a b r, h1, decide_eq_true h3, decide_eq_true h4]
    cases r with
    | nil => rw [M.lnk_one, M.lnk_one, h6, h2]; rfl
    | cons c r => rw [M.lnk_two (M.joinv a b), M.lnk_two b, h6, h2, M.joinv_in h]; rfl
  | x :: p, r => by
    have ih := M.lnk_join h p r
    show M.lnk (x :: (p ++ M.joinv a b :: r)) = M.lnk (x :: (p ++ a :: b :: r))
    unfold M.lnk
    rw [ih]
    cases p with
    | nil => rw [show ([] : List M.Cl) ++ M.joinv a b :: r = M.joinv a b :: r from rfl, show ([] : List M.Cl) ++ a :: b :: r = a :: b :: r from rfl, M.joinv_in h]
    | cons y p => rfl
theorem M.tot_join {a b : M.Cl} (h : M.joinOk a b = true) (p r : List M.Cl) : M.tot (p ++ M.joinv a b :: r) = M.tot (p ++ a :: b :: r) := by
  rw [M.tot_app, M.tot_app, M.joinv_in h]
  show _ + (a.n + b.n + M.tot r) = _ + (a.n + (b.n + M.tot r))
  omega
theorem M.chain_join {a b : M.Cl} (h : M.joinOk a b = true) (p r : List M.Cl) : M.chain (p ++ M.joinv a b :: r) = M.chain (p ++ a :: b :: r) := by
  unfold M.chain; rw [M.lnk_join h, M.tot_join h]
theorem M.chain_bad {a b : M.Cl} (h : M.joinOk a b = false) (p r : List M.Cl) : M.chain (p ++ a :: b :: r) = false := by
  cases hc : M.chain (p ++ a :: b :: r) with
  | false => rfl
  | true =>
    unfold M.chain at hc; simp only [Bool.and_eq_true, decide_eq_true_eq] at hc
    obtain ⟨hl, ht⟩ := hc
    have h1 := M.tot_pre p _ hl
    have h2 := M.lnk_app p _ hl
    have h3 := M.tot_pos _ (M.lnk_tail (M.lnk_tail h2))
    rw [M.tot_app] at ht
    have ht' : M.tot p + (a.n + (b.n + M.tot r)) ≤ 1000 := ht
    have h4 := M.lnk_tail h2
    unfold M.lnk at h2 h4
    simp only [Bool.and_eq_true, decide_eq_true_eq] at h2 h4
    rw [M.joinOk_of h2.1 h4.1 h2.2.1.1 h2.2.1.2 (by omega)] at h
    exact h
theorem M.whole_join {a b : M.Cl} (h : M.joinOk a b = true) (p r : List M.Cl) : M.whole (p ++ M.joinv a b :: r) = M.whole (p ++ a :: b :: r) := by
  unfold M.whole
  rw [M.tot_join h]
  have e1 : ((p ++ M.joinv a b :: r).headD M.c0).s = ((p ++ a :: b :: r).headD M.c0).s := by
    cases p with
    | nil => rw [M.joinv_in h]; rfl
    | cons x p => rfl
  have e2 : ((p ++ M.joinv a b :: r).getLastD M.c0).e = ((p ++ a :: b :: r).getLastD M.c0).e := by
    rw [List.getLastD_eq_getLast?, List.getLastD_eq_getLast?]
    cases r with
    | nil =>
      rw [show p ++ [a, b] = (p ++ [a]) ++ [b] by simp, List.getLast?_append, List.getLast?_append]
      simp [M.joinv_in h]
    | cons x r =>
      rw [show p ++ M.joinv a b :: x :: r = (p ++ [M.joinv a b]) ++ (x :: r) by simp, show p ++ a :: b :: x :: r = (p ++ [a, b]) ++ (x :: r) by simp, List.getLast?_append, List.getLast?_append]
      simp [List.getLast?_cons]
  rw [e1, e2]
/-- what stands for a list of claims, halfway joined -/
structure M.Same (l cs : List M.Cl) : Prop where
  ch : M.chain cs = M.chain l
  wh : M.whole cs = M.whole l
  hd : M.clOk (cs.headD M.c0) = true
theorem M.Same.refl {l : List M.Cl} (h : M.clOk (l.headD M.c0) = true) : M.Same l l := ⟨rfl, rfl, h⟩
theorem M.Same.join {l p r : List M.Cl} {a b : M.Cl} (h : M.Same l (p ++ a :: b :: r)) (hj : M.joinOk a b = true) : M.Same l (p ++ M.joinv a b :: r) := by
  refine ⟨(M.chain_join hj p r).trans h.ch, (M.whole_join hj p r).trans h.wh, ?_⟩
  cases p with
  | nil => exact M.join_ok hj
  | cons x p => exact h.hd
theorem M.Same.bad {l p r : List M.Cl} {a b : M.Cl} (h : M.Same l (p ++ a :: b :: r)) (hj : M.joinOk a b = false) : M.chain l = false := by
  rw [← h.ch]; exact M.chain_bad hj p r
theorem M.Same.one {l : List M.Cl} {c : M.Cl} (h : M.Same l [c]) : M.chain l = true ∧ M.whole l = c := by
  have hd : M.clOk c = true := h.hd
  have hn := M.clOk_n hd
  refine ⟨?_, ?_⟩
  · rw [← h.ch]
    unfold M.chain M.lnk M.tot
    rw [hd]
    simp [M.lnk, M.tot]; omega
  · rw [← h.wh]
    unfold M.whole M.tot
    simp [M.tot]
def M.allOk (l : List M.Cl) : Bool := decide (1 ≤ l.length) && (decide (l.length ≤ 40) && M.chain l)
def M.allv (l : List M.Cl) : M.Cl := if M.allOk l = true then M.whole l else M.c0
theorem M.allv_in {l : List M.Cl} (h : M.allOk l = true) : M.allv l = M.whole l := if_pos h
theorem M.allv_out {l : List M.Cl} (h : M.allOk l = false) : M.allv l = M.c0 := if_neg (by rw [h]; decide)
theorem M.allOk_bad {l : List M.Cl} (h : M.clOk (l.headD M.c0) = false) : M.allOk l = false := by
  cases l with
  | nil => rfl
  | cons a r =>
    have h' : M.clOk a = false := h
    unfold M.allOk M.chain M.lnk; rw [h']; simp
/-- one by one -/
def M.step (p : M.Cl × Bool) (c : M.Cl) : M.Cl × Bool := if p.2 = true then (M.joinv p.1 c, M.joinOk p.1 c) else p
theorem M.seq_bad (p : M.Cl × Bool) (h : p.2 = false) : ∀ r : List M.Cl, r.foldl M.step p = p
  | [] => rfl
  | c :: r => by
    show r.foldl M.step (M.step p c) = p
    unfold M.step; rw [if_neg (by rw [h]; decide)]; exact M.seq_bad p h r
theorem M.seq {l : List M.Cl} : ∀ (r : List M.Cl) (c : M.Cl), M.Same l (c :: r) → (r.foldl M.step (c, true)).2 = M.chain l ∧ (M.chain l = true → (r.foldl M.step (c, true)).1 = M.whole l)
  | [], c, h => ⟨h.one.1.symm, fun _ => h.one.2.symm⟩
  | d :: r, c, h => by
    show (r.foldl M.step (M.step (c, true) d)).2 = _ ∧ (_ → (r.foldl M.step (M.step (c, true) d)).1 = _)
    rw [show M.step (c, true) d = (M.joinv c d, M.joinOk c d) from rfl]
    cases hj : M.joinOk c d with
    | false =>
      rw [M.seq_bad _ rfl]
      have := M.Same.bad (p := []) h hj
      exact ⟨this.symm, fun h' => by rw [this] at h'; simp at h'⟩
    | true => exact M.seq r _ (M.Same.join (p := []) h hj)
end Go.Proofs.Ytjibpapjfdjecac
