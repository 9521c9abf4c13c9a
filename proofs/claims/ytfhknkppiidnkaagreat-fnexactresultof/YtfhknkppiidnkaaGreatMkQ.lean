/- What a right market is: the program's way of asking, the model's way, and that both are one. Whether a market is right, in the program: its small parts. Leased tasks and done ones, in the program. Whether a job is right, in the program. Operations taken by hand: a guarded load, a block made anew and filled. -/
import Derived.Test.YtfhknkppiidnkaaGreatMkA
import Derived.Test.YtfhknkppiidnkaaGreatRwA
import Derived.Test.YtfhknkppiidnkaaGreatSlB
import Derived.Test.YtfhknkppiidnkaaGreatGrA
import Derived.Test.YtfhknkppiidnkaaGreatMkF
import Derived.Test.YtfhknkppiidnkaaGreatMaF
import Derived.Test.YtfhknkppiidnkaaGreatLiA
namespace Go.Proofs.YtfhknkppiidnkaaGreat
open Go.RowKit

namespace M
def wkOk (x : Int) : Bool := decide (1 ≤ x) && decide (x ≤ 9)
/-- the banned, ahead of whom the last one was -/
def bnGo (last : Int) : List Int → Bool
  | [] => true
  | x :: l => (decide (last < x) && wkOk x) && bnGo x l
def tkOk (now : Int) (t : Tk) : Bool := (decide (t.worker = 0) && decide (t.due = 0)) || (!t.done && (wkOk t.worker && (decide (now + 1 ≤ t.due) && decide (t.due ≤ now + 5))))
def leased (t : Tk) : Bool := decide (t.worker ≠ 0)
def jbOk (now : Int) (j : Jb) : Bool := (j.m.ok && (M.sOk j.s && (M.rows j.rows && (decide (1 ≤ j.ts.length) && (decide (j.ts.length ≤ 8) && j.ts.all (tkOk now)))))) && (!j.gone || (!j.ts.any leased && !j.ts.all (·.done)))
def jsGo (now next last : Int) : List Jb → Bool
  | [] => true
  | j :: l => ((decide (last + 1 ≤ j.id) && decide (j.id ≤ next - 1)) && jbOk now j) && jsGo now next j.id l
def wkT (ts : List Tk) : List Int := (ts.filter leased).map (·.worker)
def wks (js : List Jb) : List Int := js.flatMap fun j => wkT j.ts
def mkOk (now next : Int) (bs : List Int) (js : List Jb) : Bool :=
  (decide (0 ≤ now) && decide (now ≤ 1000000000)) && ((decide (1 ≤ next) && decide (next ≤ 1000000000)) && (bnGo 0 bs && ((decide (js.length ≤ 6) && jsGo now next 0 js) && (decide (wks js).Nodup && !(wks js).any (fun x => bs.contains x)))))
/-- the model's way -/
def spK (now : Int) (bs : List Int) (t : Tk) : Bool := if t.done || decide (t.worker = 0) then decide (t.worker = 0) && decide (t.due = 0) else wkOk t.worker && (!bs.contains t.worker && (decide (now < t.due) && decide (t.due ≤ now + 5)))
def spT (now : Int) (bs : List Int) (gone : Bool) (busy : List Int) : List Tk → Bool
  | [] => true
  | t :: l => ((spK now bs t && !(gone && leased t)) && !(leased t && busy.contains t.worker)) && spT now bs gone (busy ++ [t.worker]) l
def spH (next last : Int) (j : Jb) : Bool := (decide (1 ≤ j.id) && decide (j.id ≤ 1000000000)) && (decide (j.id < next) && (decide (last < j.id) && (j.m.ok && (M.sOk j.s && (M.rows j.rows && (decide (1 ≤ j.ts.length) && decide (j.ts.length ≤ 8)))))))
def spJ (now next : Int) (bs : List Int) (last : Int) (busy : List Int) : List Jb → Bool
  | [] => true
  | j :: l => (spH next last j && (spT now bs j.gone busy j.ts && !(j.gone && j.ts.all (·.done)))) && spJ now next bs j.id (busy ++ j.ts.map (·.worker)) l
def spOk (now next : Int) (bs : List Int) (js : List Jb) : Bool :=
  (decide (0 ≤ now) && decide (now ≤ 1000000000)) && ((decide (1 ≤ next) && decide (next ≤ 1000000000)) && (decide (js.length ≤ 6) && (decide (bs.length ≤ 9) && (bnGo 0 bs && spJ now next bs 0 [] js))))
theorem bnGo_len : ∀ (bs : List Int) (last : Int), 0 ≤ last → bnGo last bs = true → (bs.length : Int) + last ≤ 9 ∨ bs = []
  | [], _, _, _ => .inr rfl
  | x :: l, last, h0, h => by
    unfold bnGo wkOk at h
    simp only [Bool.and_eq_true, decide_eq_true_eq] at h
    obtain ⟨⟨h1, h2, h3⟩, h4⟩ := h
    left
    rcases bnGo_len l x (by omega) h4 with e | e
    · rw [List.length_cons]; omega
    · subst e; simp; omega
theorem spK_iff (now : Int) (bs : List Int) (t : Tk) : spK now bs t = true ↔ tkOk now t = true ∧ (leased t = true → t.worker ∉ bs) := by
  unfold spK tkOk leased wkOk
  by_cases hd : t.done = true <;> by_cases hw : t.worker = 0 <;> simp [hd, hw]
  constructor
  · rintro ⟨h1, h2, h3, h4⟩; exact ⟨⟨h1, by omega, h4⟩, h2⟩
  · rintro ⟨⟨h1, h3, h4⟩, h2⟩; exact ⟨h1, h2, by omega, h4⟩
theorem wkT_cons (t : Tk) (l : List Tk) : wkT (t :: l) = if leased t = true then t.worker :: wkT l else wkT l := by
  unfold wkT
  rw [List.filter_cons]
  by_cases h : leased t = true <;> simp [h]
theorem wkT_ne {ts : List Tk} {x : Int} (h : x ∈ wkT ts) : x ≠ 0 := by
  unfold wkT at h
  obtain ⟨t, ht, rfl⟩ := List.mem_map.1 h
  have := (List.mem_filter.1 ht).2
  unfold leased at this
  simpa using this
theorem wkT_mem {ts : List Tk} {x : Int} : x ∈ wkT ts ↔ x ≠ 0 ∧ x ∈ ts.map (·.worker) := by
  unfold wkT leased
  simp only [List.mem_map, List.mem_filter, decide_eq_true_eq]
  constructor
  · rintro ⟨t, ⟨h1, h2⟩, rfl⟩; exact ⟨h2, t, h1, rfl⟩
  · rintro ⟨h2, t, h1, rfl⟩; exact ⟨t, ⟨h1, h2⟩, rfl⟩
theorem spT_iff (now : Int) (bs : List Int) (gone : Bool) : ∀ (ts : List Tk) (busy : List Int), spT now bs gone busy ts = true ↔
    (∀ t ∈ ts, tkOk now t = true) ∧ (gone = true → ∀ t ∈ ts, leased t = false) ∧ (wkT ts).Nodup ∧ (∀ x ∈ wkT ts, x ∉ busy) ∧ (∀ x ∈ wkT ts, x ∉ bs)
  | [], busy => by simp [spT, wkT]
  | t :: l, busy => by
    unfold spT
    rw [Bool.and_eq_true, Bool.and_eq_true, Bool.and_eq_true, spK_iff, spT_iff now bs gone l]
    rw [wkT_cons]
    by_cases hl : leased t = true
    · have hw : t.worker ≠ 0 := by unfold leased at hl; simpa using hl
      rw [if_pos hl]
      simp only [hl, List.mem_cons, forall_eq_or_imp, List.nodup_cons, Bool.and_true, Bool.true_and, Bool.not_eq_true', List.contains_eq_mem, decide_eq_false_iff_not, List.mem_append, List.not_mem_nil, or_false, not_or]
      constructor
      · rintro ⟨⟨⟨⟨h1, h2⟩, h3⟩, h4⟩, h5, h6, h7, h8, h9⟩
        exact ⟨⟨h1, h5⟩, fun hg => by simp [hg] at h3, ⟨fun hm => (h8 _ hm).2 rfl, h7⟩, ⟨h4, fun x hx => (h8 x hx).1⟩, h2 trivial, h9⟩
      · rintro ⟨⟨h1, h5⟩, h3, ⟨h4, h7⟩, ⟨h6, h8⟩, h2, h9⟩
        refine ⟨⟨⟨⟨h1, fun _ => h2⟩, ?_⟩, h6⟩, h5, fun hg => (h3 hg).2, h7, fun x hx => ⟨h8 x hx, fun e => h4 (e ▸ hx)⟩, h9⟩
        cases gone
        · rfl
        · exact absurd (h3 rfl).1 (by simp)
    · have hf : leased t = false := by simpa using hl
      have hw : t.worker = 0 := by unfold leased at hf; simpa using hf
      rw [if_neg hl]
      simp only [hf, List.mem_cons, forall_eq_or_imp, Bool.and_false, Bool.false_and, Bool.not_false, and_true, true_and, Bool.false_eq_true, false_implies, List.mem_append, List.not_mem_nil, or_false, not_or]
      constructor
      · rintro ⟨h1, h5, h6, h7, h8, h9⟩
        exact ⟨⟨h1, h5⟩, h6, h7, fun x hx => (h8 x hx).1, h9⟩
      · rintro ⟨⟨h1, h5⟩, h6, h7, h8, h9⟩
        exact ⟨h1, h5, h6, h7, fun x hx => ⟨h8 x hx, fun e => wkT_ne hx (e.trans hw)⟩, h9⟩
theorem spJ_iff (now next : Int) (bs : List Int) (hn : next ≤ 1000000000) : ∀ (js : List Jb) (last : Int) (busy : List Int), 0 ≤ last → (spJ now next bs last busy js = true ↔
    jsGo now next last js = true ∧ (wks js).Nodup ∧ (∀ x ∈ wks js, x ∉ busy) ∧ (∀ x ∈ wks js, x ∉ bs))
  | [], _, _, _ => by simp [spJ, jsGo, wks]
  | j :: l, last, busy, h0 => by
    by_cases hid : last + 1 ≤ j.id ∧ j.id ≤ next - 1
    · have ih := spJ_iff now next bs hn l j.id (busy ++ j.ts.map (·.worker)) (by omega)
      unfold spJ jsGo
      have hw : wks (j :: l) = wkT j.ts ++ wks l := by simp [wks]
      have hh : spH next last j = (j.m.ok && (M.sOk j.s && (M.rows j.rows && (decide (1 ≤ j.ts.length) && decide (j.ts.length ≤ 8))))) := by
        unfold spH
        rw [show decide (1 ≤ j.id) = true by simp; omega, show decide (j.id ≤ 1000000000) = true by simp; omega, show decide (j.id < next) = true by simp; omega, show decide (last < j.id) = true by simp; omega]
        rfl
      have hne : ∀ x ∈ wks l, x ≠ 0 := fun x hx => by
        unfold wks at hx
        obtain ⟨q, _, hq⟩ := List.mem_flatMap.1 hx
        exact wkT_ne hq
      rw [Bool.and_eq_true, Bool.and_eq_true, Bool.and_eq_true, spT_iff, ih, hh, hw, List.nodup_append]
      unfold jbOk
      simp only [Bool.and_eq_true, decide_eq_true_eq, List.all_eq_true, Bool.or_eq_true, Bool.not_eq_true', List.mem_append, not_or]
      have hany : j.ts.any leased = false ↔ ∀ t ∈ j.ts, leased t = false := by simp
      rw [hany]
      constructor
      · rintro ⟨⟨⟨a1, a2, a3, a4, a5⟩, ⟨b1, b2, b3, b4, b5⟩, c⟩, d1, d2, d3, d4⟩
        refine ⟨⟨⟨hid, ⟨a1, a2, a3, a4, a5, b1⟩, ?_⟩, d1⟩, ⟨b3, d2, fun x hx y hy e => ?_⟩, ?_, ?_⟩
        · cases hg : j.gone
          · exact .inl rfl
          · rw [hg] at c; exact .inr ⟨b2 hg, by simpa using c⟩
        · subst e; exact (d3 x hy).2 (wkT_mem.1 hx).2
        · rintro x (h | h)
          · exact b4 x h
          · exact (d3 x h).1
        · rintro x (h | h)
          · exact b5 x h
          · exact d4 x h
      · rintro ⟨⟨⟨-, ⟨a1, a2, a3, a4, a5, b1⟩, g⟩, d1⟩, ⟨b3, d2, e⟩, f1, f2⟩
        refine ⟨⟨⟨a1, a2, a3, a4, a5⟩, ⟨b1, fun hg => ?_, b3, fun x hx => f1 x (.inl hx), fun x hx => f2 x (.inl hx)⟩, ?_⟩, d1, d2, fun x hx => ⟨f1 x (.inr hx), fun hm => e x (wkT_mem.2 ⟨hne x hx, hm⟩) x hx rfl⟩, fun x hx => f2 x (.inr hx)⟩
        · rcases g with g | g
          · rw [hg] at g; cases g
          · exact g.1
        · rcases g with g | g
          · rw [g]; rfl
          · rw [g.2]; simp
    · constructor
      · intro h
        unfold spJ spH at h
        simp only [Bool.and_eq_true, decide_eq_true_eq] at h
        exact absurd ⟨by omega, by omega⟩ hid
      · rintro ⟨h, -⟩
        unfold jsGo at h
        simp only [Bool.and_eq_true, decide_eq_true_eq] at h
        exact absurd h.1.1 hid
theorem spOk_eq (now next : Int) (bs : List Int) (js : List Jb) : spOk now next bs js = mkOk now next bs js := by
  rw [Bool.eq_iff_iff]
  unfold spOk mkOk
  simp only [Bool.and_eq_true, decide_eq_true_eq]
  have hany : (!(wks js).any (fun x => bs.contains x)) = true ↔ ∀ x ∈ wks js, x ∉ bs := by simp
  rw [hany]
  constructor
  · rintro ⟨a, ⟨b1, b2⟩, c, d, e, f⟩
    obtain ⟨f1, f2, -, f4⟩ := (spJ_iff now next bs b2 js 0 [] (by omega)).1 f
    exact ⟨a, ⟨b1, b2⟩, e, ⟨c, f1⟩, f2, f4⟩
  · rintro ⟨a, ⟨b1, b2⟩, e, ⟨c, f1⟩, f2, f4⟩
    refine ⟨a, ⟨b1, b2⟩, c, ?_, e, (spJ_iff now next bs b2 js 0 [] (by omega)).2 ⟨f1, f2, fun _ _ => List.not_mem_nil, f4⟩⟩
    rcases bnGo_len bs 0 (by omega) e with h | h
    · omega
    · subst h; simp
end M
end Go.Proofs.YtfhknkppiidnkaaGreat
namespace Go.Proofs.YtfhknkppiidnkaaGreat
open Go.RowKit

theorem drop_step {α : Type} {l : List α} {k n : Nat} (d : α) (hl : l.length = n) (h : k < n) : l.drop k = l.getD k d :: l.drop (k + 1) := by
  rw [List.drop_eq_getElem_cons (by omega), List.getD_eq_getElem?_getD, List.getElem?_eq_getElem (by omega)]; rfl
theorem within_any (n lo hi : Int) (w : World) : Calls Tryz.prog 118 #[.int .i64 n, .int .i64 lo, .int .i64 hi] w fun e w' => e = .returned (.bool (decide (lo ≤ n) && decide (n ≤ hi))) ∧ w' = w := by
  by_cases h1 : lo ≤ n
  · go_enter Tryz.func118, Tryz.ntmps118
    go_wp2
    go_ret
    exact ⟨by simp [h1], rfl⟩
  · go_enter Tryz.func118, Tryz.ntmps118
    go_wp2
    go_ret
    exact ⟨by simp; omega, rfl⟩
theorem workerOk_any (n : Int) (w : World) : Calls Tryz.prog 133 #[.int .i64 n] w fun e w' => e = .returned (.bool (M.wkOk n)) ∧ w' = w := by
  go_enter Tryz.func133, Tryz.ntmps133
  go_wp2_with fail
  refine (within_any _ _ _ _).mono ?_
  rintro e wz ⟨rfl, rfl⟩
  go_wp2
  go_ret
  exact ⟨rfl, rfl⟩
theorem isLeased_any (t : M.Tk) (w : World) : Calls Tryz.prog 135 #[tkv t] w fun e w' => e = .returned (.bool (M.leased t)) ∧ Below w.heap.size w w' := by
  have h : M.leased t = (t.worker != 0) := by unfold M.leased; by_cases e : t.worker = 0 <;> simp [e]
  rw [h]
  obtain ⟨d, x, y⟩ := t
  dsimp only [tkv]
  have HB : Hid (Below w.heap.size w (w.alloc (.cells #[.bool d, .int .i64 x, .int .i64 y] 74))) := (Below.refl _ _).alloc (Nat.le_refl _) _
  go_enter Tryz.func135, Tryz.ntmps135
  go_wp2
  go_ret
  exact ⟨rfl, HB.out⟩
theorem bannedOk_any {a : Option Addr} {n c : Nat} {zs : List Int} (w : World) (hz : Sees w a n c zs) :
    Calls Tryz.prog 119 #[.slice a n c] w fun e w' => e = .returned (.bool (M.bnGo 0 zs)) ∧ w' = w := by
  have bn : (n : Int) ≤ 9223372036854775807 := by have := hz.big; have := hz.le; omega
  have HZ : Hid (Sees w a n c zs) := hz
  clear hz
  generalize hR : M.bnGo 0 zs = R
  have HR : Hid (M.bnGo 0 zs = R) := hR
  clear hR
  go_enter Tryz.func119, Tryz.ntmps119
  go_wp2
  go_loop [3, 8] (fun l i => ∃ (k : Nat) (q : Int), k ≤ n ∧ i = .int .i64 k ∧ l = .int .i64 q ∧ M.bnGo q (zs.drop k) = R) (fun _ i => n - (intOf i).toNat)
  case atStart => exact ⟨0, 0, by omega, rfl, rfl, HR.out⟩
  case round =>
    obtain ⟨k, q, hk, rfl, rfl, hg⟩ := hrel
    by_cases hlt : k < n
    · obtain ⟨b1, o1, rfl, hc1⟩ := HZ.out.at (by omega)
      have c1 := hc1 k hlt
      have hG : ((decide (q < zs.getD k 0) && M.wkOk (zs.getD k 0)) && M.bnGo (zs.getD k 0) (zs.drop (k + 1))) = R := by
        rw [← hg, drop_step 0 HZ.out.len hlt]; rfl
      have HC : Hid (M.bnGo (zs.getD k 0) (zs.drop (k + 1)) = M.bnGo (zs.getD k 0) (zs.drop (k + 1))) := rfl
      clear hc1 hg HC
      have C1 := workerOk_any (zs.getD k 0)
      generalize zs.getD k 0 = x at c1 hG C1
      have HG : Hid (((decide (q < x) && M.wkOk x) && M.bnGo x (zs.drop (k + 1))) = R) := hG
      clear hG
      have hI : (k : Int) < (n : Int) := by omega
      by_cases hx : x ≤ q
      · have hRf : Hid (false = R) := by show false = R; have := HG.out; rw [show decide (q < x) = false by simp; omega] at this; simpa using this
        go_wp2
        go_ret
        exact ⟨ret_bool hRf.out, rfl⟩
      · have hx' : q < x := by omega
        have HG2 : Hid ((M.wkOk x && M.bnGo x (zs.drop (k + 1))) = R) := by show _ = _; have := HG.out; rw [show decide (q < x) = true by simp; omega] at this; simpa using this
        clear HG
        generalize M.wkOk x = ow at C1 HG2
        go_wp2_with fail
        refine (C1 _).mono ?_
        rintro e wz ⟨rfl, hwz⟩
        have hwy := hwz.symm
        clear hwz
        subst hwy
        cases ow with
        | false =>
          go_wp2
          go_ret
          exact ⟨ret_bool HG2.out, rfl⟩
        | true =>
          have HG3 : Hid (M.bnGo x (zs.drop (k + 1)) = R) := by show _ = _; have := HG2.out; simpa using this
          go_wp2
          go_round
          case rel => exact ⟨k + 1, x, by omega, by go_num, rfl, HG3.out⟩
          case measure => simp [intOf]; omega
    · go_wp2
      go_ret
      refine ⟨ret_bool ?_, rfl⟩
      rw [List.drop_of_length_le (by rw [HZ.out.len]; omega)] at hg
      exact hg
theorem taskOk_any (t : M.Tk) (now : Int) (h0 : 0 ≤ now) (h1 : now ≤ 1000000000) (w : World) : Calls Tryz.prog 153 #[tkv t, .int .i64 now] w fun e w' => e = .returned (.bool (M.tkOk now t)) ∧ Below w.heap.size w w' := by
  unfold M.tkOk
  obtain ⟨d, x, y⟩ := t
  dsimp only [tkv]
  have C1 := workerOk_any x
  have C2 := within_any y (now + 1) (now + 5)
  have HB : Hid (Below w.heap.size w (w.alloc (.cells #[.bool d, .int .i64 x, .int .i64 y] 74))) := (Below.refl _ _).alloc (Nat.le_refl _) _
  generalize M.wkOk x = ow at C1 ⊢
  generalize (decide (now + 1 ≤ y) && decide (y ≤ now + 5)) = od at C2 ⊢
  by_cases hx : x = 0
  · by_cases hy : y = 0
    · subst hx
      subst hy
      go_enter Tryz.func153, Tryz.ntmps153
      go_wp2
      go_ret
      exact ⟨by simp, HB.out⟩
    · subst hx
      have gy : (y == 0) = false := by simp [hy]
      go_enter Tryz.func153, Tryz.ntmps153
      cases d with
      | true =>
        go_wp2
        go_ret
        exact ⟨by simp; omega, HB.out⟩
      | false =>
        go_wp2_with fail
        refine (C1 _).mono ?_
        rintro e wz ⟨rfl, hwz⟩
        have hwy := hwz.symm
        clear hwz
        subst hwy
        cases ow with
        | false =>
          go_wp2
          go_ret
          exact ⟨by simp; omega, HB.out⟩
        | true =>
          go_wp2_with fail
          refine (C2 _).mono ?_
          rintro e wz ⟨rfl, hwz⟩
          have hwy := hwz.symm
          clear hwz
          subst hwy
          go_wp2
          go_ret
          refine ⟨?_, HB.out⟩
          have hno : ¬ y = 0 := by omega
          simp [hno]
  · have gx : (x == 0) = false := by simp [hx]
    go_enter Tryz.func153, Tryz.ntmps153
    cases d with
    | true =>
      go_wp2
      go_ret
      exact ⟨by simp; omega, HB.out⟩
    | false =>
      go_wp2_with fail
      refine (C1 _).mono ?_
      rintro e wz ⟨rfl, hwz⟩
      have hwy := hwz.symm
      clear hwz
      subst hwy
      cases ow with
      | false =>
        go_wp2
        go_ret
        exact ⟨by simp; omega, HB.out⟩
      | true =>
        go_wp2_with fail
        refine (C2 _).mono ?_
        rintro e wz ⟨rfl, hwz⟩
        have hwy := hwz.symm
        clear hwz
        subst hwy
        go_wp2
        go_ret
        refine ⟨?_, HB.out⟩
        have hno : (decide (x = 0) && decide (y = 0)) = false := by simp; omega
        rw [hno]
        simp
theorem tasksOk_any {a : Option Addr} {n c : Nat} {ts : List M.Tk} (now : Int) (h0 : 0 ≤ now) (h1 : now ≤ 1000000000) (w : World) (hz : SeesT w a n c ts) :
    Calls Tryz.prog 145 #[.slice a n c, .int .i64 now] w fun e w' => e = .returned (.bool (decide (1 ≤ n) && (decide (n ≤ 8) && ts.all (M.tkOk now)))) ∧ Below w.heap.size w w' := by
  have bn : (n : Int) ≤ 9223372036854775807 := by have := hz.big; have := hz.le; omega
  have HZ : Hid (SeesT w a n c ts) := hz
  clear hz
  by_cases hs : 1 ≤ n ∧ n ≤ 8
  · obtain ⟨hs1, hs2⟩ := hs
    have hs1I : (1 : Int) ≤ (n : Int) := by omega
    have hs2I : (n : Int) ≤ 8 := by omega
    rw [show decide (1 ≤ n) = true by simpa using hs1, show decide (n ≤ 8) = true by simpa using hs2, Bool.true_and, Bool.true_and]
    generalize hR : ts.all (M.tkOk now) = R
    have HR : Hid (ts.all (M.tkOk now) = R) := hR
    clear hR
    go_enter Tryz.func145, Tryz.ntmps145
    go_wp2
    go_loopw [17] (fun i wr => ∃ k : Nat, k ≤ n ∧ i = .int .i64 k ∧ (ts.drop k).all (M.tkOk now) = R ∧ Below w.heap.size w wr) (fun i _ => n - (intOf i).toNat)
    case atStart => exact ⟨0, by omega, rfl, HR.out, Below.refl _ _⟩
    case round =>
      obtain ⟨k, hk, rfl, hg, hb1⟩ := hrel
      have HB1 : Hid (Below w.heap.size w wr) := hb1
      clear hb1
      by_cases hlt : k < n
      · obtain ⟨b1, o1, rfl, hc1⟩ := (HZ.out.below HB1.out).at (by omega)
        have hG : (M.tkOk now (ts.getD k M.t0) && (ts.drop (k + 1)).all (M.tkOk now)) = R := by
          rw [← hg, drop_step M.t0 HZ.out.len hlt]; rfl
        have hA := hc1 k hlt
        have C1 := taskOk_any (ts.getD k M.t0) now h0 h1
        generalize ts.getD k M.t0 = x at hA hG C1
        obtain ⟨d, x, y⟩ := x
        dsimp only [tkv] at C1
        have HG : Hid ((M.tkOk now ⟨d, x, y⟩ && (ts.drop (k + 1)).all (M.tkOk now)) = R) := hG
        have a0 : wr.cell? ⟨b1, o1 + k * 3, none⟩ = some (.bool d) := hA 0 (by omega)
        have a1 : wr.cell? ⟨b1, o1 + k * 3 + 1, none⟩ = some (.int .i64 x) := hA 1 (by omega)
        have a2 : wr.cell? ⟨b1, o1 + k * 3 + 2, none⟩ = some (.int .i64 y) := hA 2 (by omega)
        clear hc1 hA hg hG
        generalize M.tkOk now ⟨d, x, y⟩ = ow at C1 HG
        have hI : (k : Int) < (n : Int) := by omega
        go_wp2_with fail
        refine (C1 _).mono ?_
        rintro e w2 ⟨rfl, hb2⟩
        have HB2 : Hid (Below w.heap.size w w2) := (HB1.out.alloc HB1.out.size _).trans (hb2.mono (HB1.out.alloc HB1.out.size _).size)
        clear hb2
        cases ow with
        | false =>
          go_wp2
          go_ret
          exact ⟨ret_bool HG.out, HB2.out⟩
        | true =>
          have HG3 : Hid ((ts.drop (k + 1)).all (M.tkOk now) = R) := by show _ = _; have := HG.out; simpa using this
          go_wp2
          go_roundw
          case rel => exact ⟨k + 1, by omega, by go_num, HG3.out, HB2.out⟩
          case measure => simp [intOf]; omega
      · go_wp2
        go_ret
        refine ⟨ret_bool ?_, HB1.out⟩
        rw [List.drop_of_length_le (by rw [HZ.out.len]; omega)] at hg
        exact hg
  · have hF : (decide (1 ≤ n) && (decide (n ≤ 8) && ts.all (M.tkOk now))) = false := by
      by_cases h : 1 ≤ n
      · rw [show decide (n ≤ 8) = false by simp; omega]; simp
      · rw [show decide (1 ≤ n) = false by simp; omega]; rfl
    rw [hF]
    by_cases h : 1 ≤ n
    · have g1 : (8 : Int) < (n : Int) := by omega
      have g2 : ¬ (n : Int) < 1 := by omega
      go_enter Tryz.func145, Tryz.ntmps145
      go_wp2
      go_ret
      exact ⟨rfl, Below.refl _ _⟩
    · have g1 : (n : Int) < 1 := by omega
      go_enter Tryz.func145, Tryz.ntmps145
      go_wp2
      go_ret
      exact ⟨rfl, Below.refl _ _⟩
end Go.Proofs.YtfhknkppiidnkaaGreat
namespace Go.Proofs.YtfhknkppiidnkaaGreat
open Go.RowKit

theorem indexLeased_any {a : Option Addr} {n c : Nat} {ts : List M.Tk} (w : World) (hz : SeesT w a n c ts) :
    Calls Tryz.prog 154 #[.slice a n c, .func (.func 135) #[] #[]] w fun e w' => ∃ r : Int, e = .returned (.int .i64 r) ∧ decide (0 ≤ r) = ts.any M.leased ∧ Below w.heap.size w w' := by
  have bn : (n : Int) ≤ 9223372036854775807 := by have := hz.big; have := hz.le; omega
  have hcI : (n : Int) ≤ c := by have := hz.le; omega
  have HZ : Hid (SeesT w a n c ts) := hz
  clear hz
  generalize hR : ts.any M.leased = R
  have HR : Hid (ts.any M.leased = R) := hR
  clear hR
  go_enter Tryz.func154, Tryz.ntmps154
  go_wp2
  go_loopw [8] (fun i wr => ∃ k : Nat, k ≤ n ∧ i = .int .i64 k ∧ (ts.drop k).any M.leased = R ∧ Below w.heap.size w wr) (fun i _ => n - (intOf i).toNat)
  case atStart => exact ⟨0, by omega, rfl, HR.out, Below.refl _ _⟩
  case round =>
    obtain ⟨k, hk, rfl, hg, hb1⟩ := hrel
    have HB1 : Hid (Below w.heap.size w wr) := hb1
    clear hb1
    by_cases hlt : k < n
    · obtain ⟨b1, o1, rfl, hc1⟩ := (HZ.out.below HB1.out).at (by omega)
      have hG : (M.leased (ts.getD k M.t0) || (ts.drop (k + 1)).any M.leased) = R := by
        rw [← hg, drop_step M.t0 HZ.out.len hlt]; rfl
      have hA := hc1 k hlt
      have C1 := isLeased_any (ts.getD k M.t0)
      generalize ts.getD k M.t0 = x at hA hG C1
      obtain ⟨d, x, y⟩ := x
      dsimp only [tkv] at C1
      have HG : Hid ((M.leased ⟨d, x, y⟩ || (ts.drop (k + 1)).any M.leased) = R) := hG
      have a0 : wr.cell? ⟨b1, o1 + k * 3, none⟩ = some (.bool d) := hA 0 (by omega)
      have a1 : wr.cell? ⟨b1, o1 + k * 3 + 1, none⟩ = some (.int .i64 x) := hA 1 (by omega)
      have a2 : wr.cell? ⟨b1, o1 + k * 3 + 2, none⟩ = some (.int .i64 y) := hA 2 (by omega)
      clear hc1 hA hg hG
      generalize M.leased ⟨d, x, y⟩ = ow at C1 HG
      have hI : (k : Int) < (n : Int) := by omega
      go_wp2_with fail
      refine (C1 _).mono ?_
      rintro e w2 ⟨rfl, hb2⟩
      have HB2 : Hid (Below w.heap.size w w2) := HB1.out.trans (hb2.mono HB1.out.size)
      clear hb2
      cases ow with
      | true =>
        go_wp2
        go_ret
        refine ⟨_, rfl, ?_, HB2.out⟩
        have := HG.out
        rw [Bool.true_or] at this
        rw [← this]; simp
      | false =>
        have HG3 : Hid ((ts.drop (k + 1)).any M.leased = R) := by show _ = _; have := HG.out; simpa using this
        go_wp2
        go_roundw
        case rel => exact ⟨k + 1, by omega, by go_num, HG3.out, HB2.out⟩
        case measure => simp [intOf]; omega
    · go_wp2
      go_ret
      refine ⟨_, rfl, ?_, HB1.out⟩
      rw [List.drop_of_length_le (by rw [HZ.out.len]; omega)] at hg
      rw [← hg]; rfl
theorem containsLeased_any {a : Option Addr} {n c : Nat} {ts : List M.Tk} (w : World) (hz : SeesT w a n c ts) :
    Calls Tryz.prog 146 #[.slice a n c, .func (.func 135) #[] #[]] w fun e w' => e = .returned (.bool (ts.any M.leased)) ∧ Below w.heap.size w w' := by
  have HZ : Hid (SeesT w a n c ts) := hz
  clear hz
  go_enter Tryz.func146, Tryz.ntmps146
  go_wp2_with fail
  refine (indexLeased_any _ HZ.out).mono ?_
  rintro e w1 ⟨r, rfl, hr, hb⟩
  have HR : Hid (decide (0 ≤ r) = ts.any M.leased) := hr
  have HB : Hid (Below w.heap.size w w1) := hb
  clear hr hb
  go_wp2
  go_ret
  exact ⟨ret_bool HR.out, HB.out⟩
theorem M.count_step {ts : List M.Tk} {k n : Nat} (d : M.Tk) (hl : ts.length = n) (h : k < n) : ((ts.take (k + 1)).filter (·.done)).length = (if (ts.getD k d).done = true then ((ts.take k).filter (·.done)).length + 1 else ((ts.take k).filter (·.done)).length) := by
  rw [List.take_succ_eq_append_getElem (by omega), List.filter_append, List.length_append, List.getD_eq_getElem?_getD, List.getElem?_eq_getElem (by omega)]
  by_cases e : ts[k].done = true <;> simp [e]
set_option maxRecDepth 10000 in
theorem done1_any (m : Nat) (t : M.Tk) (hm : (m : Int) + 1 ≤ 9223372036854775807) (w : World) : Calls Tryz.prog 61 #[.int .i64 m, tkv t] w fun e w' => e = .returned (.int .i64 ((if t.done = true then m + 1 else m : Nat) : Int)) ∧ Below w.heap.size w w' := by
  obtain ⟨d, x, y⟩ := t
  dsimp only [tkv]
  have HB : Hid (Below w.heap.size w (w.alloc (.cells #[.bool d, .int .i64 x, .int .i64 y] 74))) := (Below.refl _ _).alloc (Nat.le_refl _) _
  cases d with
  | true =>
    rw [if_pos rfl]
    have hc : ((m + 1 : Nat) : Int) = (m : Int) + 1 := by omega
    rw [hc]
    clear hc
    go_enter Tryz.func61, Tryz.ntmps61
    go_wp2
    go_ret
    exact ⟨rfl, HB.out⟩
  | false =>
    rw [if_neg (by decide)]
    go_enter Tryz.func61, Tryz.ntmps61
    go_wp2
    go_ret
    exact ⟨rfl, HB.out⟩
theorem foldDone_any {a : Option Addr} {n c : Nat} {ts : List M.Tk} (w : World) (hz : SeesT w a n c ts) :
    Calls Tryz.prog 60 #[.slice a n c, .int .i64 0, .func (.func 61) #[] #[]] w fun e w' => e = .returned (.int .i64 ((ts.filter (·.done)).length : Nat)) ∧ Below w.heap.size w w' := by
  have bn : (n : Int) ≤ 9223372036854775807 := by have := hz.big; have := hz.le; omega
  have hcI : (n : Int) ≤ c := by have := hz.le; omega
  have HZ : Hid (SeesT w a n c ts) := hz
  clear hz
  go_enter Tryz.func60, Tryz.ntmps60
  go_wp2
  go_loopw [1, 11] (fun l i wr => ∃ k : Nat, k ≤ n ∧ i = .int .i64 k ∧ l = .int .i64 (((ts.take k).filter (·.done)).length : Nat) ∧ Below w.heap.size w wr) (fun _ i _ => n - (intOf i).toNat)
  case atStart => exact ⟨0, by omega, rfl, rfl, Below.refl _ _⟩
  case round =>
    obtain ⟨k, hk, rfl, rfl, hb1⟩ := hrel
    have HB1 : Hid (Below w.heap.size w wr) := hb1
    clear hb1
    by_cases hlt : k < n
    · obtain ⟨b1, o1, rfl, hc1⟩ := (HZ.out.below HB1.out).at (by omega)
      have hG := M.count_step M.t0 HZ.out.len hlt
      have hle : ((ts.take k).filter (·.done)).length ≤ k := Nat.le_trans (List.length_filter_le _ _) (by rw [List.length_take]; omega)
      have hA := hc1 k hlt
      generalize ts.getD k M.t0 = x at hA hG
      obtain ⟨d, x, y⟩ := x
      dsimp only at hG
      generalize ((ts.take k).filter (·.done)).length = m at hG hle
      have HG : Hid (((ts.take (k + 1)).filter (·.done)).length = (if d = true then m + 1 else m)) := hG
      have a0 : wr.cell? ⟨b1, o1 + k * 3, none⟩ = some (.bool d) := hA 0 (by omega)
      have a1 : wr.cell? ⟨b1, o1 + k * 3 + 1, none⟩ = some (.int .i64 x) := hA 1 (by omega)
      have a2 : wr.cell? ⟨b1, o1 + k * 3 + 2, none⟩ = some (.int .i64 y) := hA 2 (by omega)
      clear hc1 hA hG
      have hI : (k : Int) < (n : Int) := by omega
      have hmI : (m : Int) + 1 ≤ 9223372036854775807 := by omega
      go_wp2_with fail
      refine (done1_any m ⟨d, x, y⟩ (by omega) _).mono ?_
      rintro e w2 ⟨rfl, hb2⟩
      have HB2 : Hid (Below w.heap.size w w2) := (HB1.out.alloc HB1.out.size _).trans (hb2.mono (HB1.out.alloc HB1.out.size _).size)
      clear hb2
      go_wp2
      go_roundw
      case rel =>
        refine ⟨k + 1, by omega, by go_num, ?_, HB2.out⟩
        rw [HG.out]
      case measure => simp [intOf]; omega
    · go_wp2
      go_ret
      refine ⟨?_, HB1.out⟩
      rw [List.take_of_length_le (by rw [HZ.out.len]; omega)]
      rfl
theorem doneTasks_any {jb : Nat} {a : Option Addr} {n c : Nat} {ts : List M.Tk} (w : World) (hc : w.cell? ⟨jb, 17, none⟩ = some (.slice a n c)) (hz : SeesT w a n c ts) :
    Calls Tryz.prog 30 #[.pointer (some ⟨jb, 0, none⟩)] w fun e w' => e = .returned (.int .i64 ((ts.filter (·.done)).length : Nat)) ∧ Below w.heap.size w w' := by
  have CF := foldDone_any w hz
  generalize (ts.filter (·.done)).length = m at CF ⊢
  clear hz
  go_enter Tryz.func30, Tryz.ntmps30
  go_wp2_with fail
  refine CF.mono ?_
  rintro e w1 ⟨rfl, hb⟩
  have HB : Hid (Below w.heap.size w w1) := hb
  clear hb
  go_wp2
  go_ret
  exact ⟨rfl, HB.out⟩
theorem M.count_all {ts : List M.Tk} {n : Nat} (hl : ts.length = n) : (((ts.filter (·.done)).length : Nat) == n) = ts.all (·.done) := by
  subst hl
  rw [Bool.eq_iff_iff, beq_iff_eq, List.all_eq_true]
  constructor
  · intro h t ht
    have := List.filter_eq_self.1 ((List.filter_sublist (p := fun t : M.Tk => t.done) (l := ts)).eq_of_length h)
    exact this t ht
  · intro h
    rw [List.filter_eq_self.2 h]
theorem allDone_any {jb : Nat} {a : Option Addr} {n c : Nat} {ts : List M.Tk} (w : World) (hc : w.cell? ⟨jb, 17, none⟩ = some (.slice a n c)) (hz : SeesT w a n c ts) :
    Calls Tryz.prog 22 #[.pointer (some ⟨jb, 0, none⟩)] w fun e w' => e = .returned (.bool (ts.all (·.done))) ∧ Below w.heap.size w w' := by
  have CD : ∀ W, W.cell? ⟨jb, 17, none⟩ = some (.slice a n c) → SeesT W a n c ts → Calls Tryz.prog 30 #[.pointer (some ⟨jb, 0, none⟩)] W fun e w' => e = .returned (.int .i64 ((ts.filter (·.done)).length : Nat)) ∧ Below W.heap.size W w' := fun W h1 h2 => doneTasks_any W h1 h2
  have HA : Hid ((((ts.filter (·.done)).length : Nat) == n) = ts.all (·.done)) := M.count_all hz.len
  have bn : (n : Int) ≤ 9223372036854775807 := by have := hz.big; have := hz.le; omega
  generalize (ts.filter (·.done)).length = m at HA CD
  generalize ts.all (·.done) = oa at HA ⊢
  have hmn : ((m : Int) == (n : Int)) = oa := by rw [← HA.out, Bool.eq_iff_iff, beq_iff_eq, beq_iff_eq]; omega
  go_enter Tryz.func22, Tryz.ntmps22
  go_wp2_with fail
  have T1_0 : Hid (SeesT w a n c ts) := hz
  clear hz
  refine wp_region_noPanic ?_
  refine wp_region_held_drew (S := fun W => w.grownBy W none) (by kernel_rfl) (grown_drew _ _) (fun hHeld => ?_)
  generalize w.drew = wd0 at hHeld ⊢
  have HX0 : Hid (Below w.heap.size w wd0) := ⟨hHeld.os, hHeld.tape, hHeld.output, hHeld.size, fun k hk => hHeld.block k hk (by simp)⟩
  refine wpAnyH_take (i := 0) (v := .pointer (some ⟨jb, 0, none⟩)) rfl (by kernel_rfl) (by kernel_rfl) (by kernel_rfl) (fun _ _ _ h => h) (Or.inl ⟨by kernel_rfl, ?_⟩) (by assumption) ?_
  · intro wq hSq; go_simp
  try simp only [Act.put]
  refine wpAnyH_take (i := 2) (v := .pointer (some ⟨jb, 0, none⟩)) rfl (by kernel_rfl) (by kernel_rfl) (by kernel_rfl) (fun _ _ _ h => h) (Or.inl ⟨by kernel_rfl, ?_⟩) (by assumption) ?_
  · intro wq hSq; go_simp
  try simp only [Act.put]
  refine wpAnyH_take (i := 3) (v := .pointer (some ⟨jb, 0, none⟩)) rfl (by kernel_rfl) (by kernel_rfl) (by kernel_rfl) (fun _ _ _ h => h) (Or.inl ⟨by kernel_rfl, ?_⟩) (by assumption) ?_
  · intro wq hSq; go_simp
  try simp only [Act.put]
  refine wpAnyH_take (i := 4) (v := .pointer (some ⟨jb, 17, none⟩)) rfl (by kernel_rfl) (by kernel_rfl) (by kernel_rfl) (fun _ _ _ h => h) (Or.inl ⟨by kernel_rfl, ?_⟩) (by assumption) ?_
  · intro wq hSq; go_simp
  try simp only [Act.put]
  refine wpAnyH_take (i := 5) (v := .slice a n c) rfl (by kernel_rfl) (by kernel_rfl) (by kernel_rfl) (fun _ _ _ h => h) (Or.inl ⟨by kernel_rfl, ?_⟩) (by assumption) ?_
  · intro wp hSp; have c0 : wp.cell? ⟨jb, 17, none⟩ = some (.slice a n c) := hSp.cell hc (by simp); go_simp
  try simp only [Act.put]
  refine wpAnyH_take (i := 6) (v := .int .i64 n) rfl (by kernel_rfl) (by kernel_rfl) (by kernel_rfl) (fun _ _ _ h => h) (Or.inl ⟨by kernel_rfl, ?_⟩) (by assumption) ?_
  · intro wq hSq; go_simp
  try simp only [Act.put]
  refine wpAnyH_ready (rs := [1]) (by kernel_rfl) (by simp) ?_
  refine AllReadyH.cons rfl (fun Kk hK => ?_) AllReadyH.nil
  go_simp
  refine (CD _ (hHeld.cell hc (by simp)) (T1_0.out.below HX0.out)).mono ?_
  rintro e wd1 ⟨rfl, hb1⟩
  go_simp
  have hS1 : w.grownBy wd1 none := grown_step hHeld hb1
  have HX1 : Hid (Below w.heap.size w wd1) := ⟨hS1.os, hS1.tape, hS1.output, hS1.size, fun k hk => hS1.block k hk (by simp)⟩
  refine hK.out _ _ hS1 (fun _ => ?_)
  clear hK Kk hb1
  try simp only [Act.put]
  refine wpAnyH_take (i := 7) (v := .bool ((m : Int) == (n : Int))) rfl (by kernel_rfl) (by kernel_rfl) (by kernel_rfl) (fun _ _ _ h => h) (Or.inl ⟨by kernel_rfl, ?_⟩) (by assumption) ?_
  · intro wq hSq; go_simp
  try simp only [Act.put]
  rw [hmn]
  refine wpAnyH_take (i := 8) (v := .bool oa) rfl (by kernel_rfl) (by kernel_rfl) (by kernel_rfl) (fun _ _ _ h => h) (Or.inl ⟨by kernel_rfl, ?_⟩) (by assumption) ?_
  · intro wq hSq; go_simp
  try simp only [Act.put]
  refine wpAnyH_done (by kernel_rfl) ?_ _
  refine NoPanic.normal ?_
  go_simp
  have T1_1 : Hid (SeesT wd1 a n c ts) := T1_0.out.below HX1.out
  clear T1_0
  go_wp2
  go_ret
  exact ⟨rfl, HX1.out⟩
end Go.Proofs.YtfhknkppiidnkaaGreat
namespace Go.Proofs.YtfhknkppiidnkaaGreat
open Go.RowKit

set_option maxHeartbeats 8000000 in
set_option maxRecDepth 10000 in
theorem jobOk_any {ta : Option Addr} {tn tc : Nat} {tl : List M.Tk} (jid a b c d f k a' b' c' d' f' k' s1 s2 jr : Int) (jg : Bool) (now : Int) (h0 : 0 ≤ now) (h1 : now ≤ 1000000000) (w : World) (hz : SeesT w ta tn tc tl) :
    Calls Tryz.prog 134 #[.agg #[.int .i64 jid, .int .i64 a, .int .i64 b, .int .i64 c, .int .i64 d, .int .i64 f, .int .i64 k, .int .i64 a', .int .i64 b', .int .i64 c', .int .i64 d', .int .i64 f', .int .i64 k', .int .i64 s1, .int .i64 s2, .int .i64 jr, .bool jg, .slice ta tn tc], .int .i64 now] w fun e w' => e = .returned (.bool (M.jbOk now ⟨jid, ⟨⟨a, b, c, d, f, k⟩, ⟨a', b', c', d', f', k'⟩⟩, (s1, s2), jr, jg, tl⟩)) ∧ Below w.heap.size w w' := by
  have hl := hz.len
  have C1 := implMachineOk_any ⟨⟨a, b, c, d, f, k⟩, ⟨a', b', c', d', f', k'⟩⟩
  have C2 := implStateOk_any (s1, s2)
  have C3 := rowsOk_any jr
  have HZ : Hid (SeesT w ta tn tc tl) := hz
  unfold M.jbOk
  dsimp only [mcv, stv] at C1 C2 ⊢
  rw [hl]
  have C4 : ∀ W, SeesT W ta tn tc tl → Calls Tryz.prog 145 #[.slice ta tn tc, .int .i64 now] W fun e w' => e = .returned (.bool (decide (1 ≤ tn) && (decide (tn ≤ 8) && tl.all (M.tkOk now)))) ∧ Below W.heap.size W w' := fun W h => tasksOk_any now h0 h1 W h
  generalize (decide (1 ≤ tn) && (decide (tn ≤ 8) && tl.all (M.tkOk now))) = o4 at C4 ⊢
  generalize M.rows jr = o3 at C3 ⊢
  generalize M.sOk (s1, s2) = o2 at C2 ⊢
  generalize M.Mc.ok ⟨⟨a, b, c, d, f, k⟩, ⟨a', b', c', d', f', k'⟩⟩ = o1 at C1 ⊢
  have C5 : ∀ W, SeesT W ta tn tc tl → Calls Tryz.prog 146 #[.slice ta tn tc, .func (.func 135) #[] #[]] W fun e w' => e = .returned (.bool (tl.any M.leased)) ∧ Below W.heap.size W w' := fun W h => containsLeased_any W h
  have C6 : ∀ W, W.cell? ⟨w.heap.size, 17, none⟩ = some (.slice ta tn tc) → SeesT W ta tn tc tl → Calls Tryz.prog 22 #[.pointer (some ⟨w.heap.size, 0, none⟩)] W fun e w' => e = .returned (.bool (tl.all (·.done))) ∧ Below W.heap.size W w' := fun W h1 h2 => allDone_any W h1 h2
  generalize tl.any M.leased = o5 at C5 ⊢
  generalize tl.all (·.done) = o6 at C6 ⊢
  clear hz
  go_enter Tryz.func134, Tryz.ntmps134
  have HA_0 : Hid (Lies (w.alloc (.cells #[.int .i64 jid, .int .i64 a, .int .i64 b, .int .i64 c, .int .i64 d, .int .i64 f, .int .i64 k, .int .i64 a', .int .i64 b', .int .i64 c', .int .i64 d', .int .i64 f', .int .i64 k', .int .i64 s1, .int .i64 s2, .int .i64 jr, .bool jg, .slice ta tn tc] 44)) w.heap.size [.int .i64 jid, .int .i64 a, .int .i64 b, .int .i64 c, .int .i64 d, .int .i64 f, .int .i64 k, .int .i64 a', .int .i64 b', .int .i64 c', .int .i64 d', .int .i64 f', .int .i64 k', .int .i64 s1, .int .i64 s2, .int .i64 jr, .bool jg, .slice ta tn tc]) := lies_new _ _ _
  have HB_0 : Hid (Below w.heap.size w (w.alloc (.cells #[.int .i64 jid, .int .i64 a, .int .i64 b, .int .i64 c, .int .i64 d, .int .i64 f, .int .i64 k, .int .i64 a', .int .i64 b', .int .i64 c', .int .i64 d', .int .i64 f', .int .i64 k', .int .i64 s1, .int .i64 s2, .int .i64 jr, .bool jg, .slice ta tn tc] 44))) := (Below.refl _ _).alloc (Nat.le_refl _) _
  go_wp2_with fail
  generalize (w.alloc (.cells #[.int .i64 jid, .int .i64 a, .int .i64 b, .int .i64 c, .int .i64 d, .int .i64 f, .int .i64 k, .int .i64 a', .int .i64 b', .int .i64 c', .int .i64 d', .int .i64 f', .int .i64 k', .int .i64 s1, .int .i64 s2, .int .i64 jr, .bool jg, .slice ta tn tc] 44)) = wa at HA_0 HB_0  ⊢
  refine (C1 _).mono ?_
  rintro e wb ⟨rfl, hb⟩
  have HA_1 : Hid (Lies wb w.heap.size [.int .i64 jid, .int .i64 a, .int .i64 b, .int .i64 c, .int .i64 d, .int .i64 f, .int .i64 k, .int .i64 a', .int .i64 b', .int .i64 c', .int .i64 d', .int .i64 f', .int .i64 k', .int .i64 s1, .int .i64 s2, .int .i64 jr, .bool jg, .slice ta tn tc]) := HA_0.out.belowS hb
  have HB_1 : Hid (Below w.heap.size w wb) := HB_0.out.trans (hb.mono HB_0.out.size)
  clear HA_0 HB_0
  clear hb
  cases o1 with
  | false =>
    go_wp2
    go_ret
    exact ⟨by simp, HB_1.out⟩
  | true =>
    have x13 : wb.cell? ⟨w.heap.size, 13, none⟩ = some (.int .i64 s1) := HA_1.out.at 13
    have x14 : wb.cell? ⟨w.heap.size, 14, none⟩ = some (.int .i64 s2) := HA_1.out.at 14
    go_wp2_with fail
    clear x13 x14
    refine (C2 _).mono ?_
    rintro e wc ⟨rfl, hb⟩
    have HA_2 : Hid (Lies wc w.heap.size [.int .i64 jid, .int .i64 a, .int .i64 b, .int .i64 c, .int .i64 d, .int .i64 f, .int .i64 k, .int .i64 a', .int .i64 b', .int .i64 c', .int .i64 d', .int .i64 f', .int .i64 k', .int .i64 s1, .int .i64 s2, .int .i64 jr, .bool jg, .slice ta tn tc]) := HA_1.out.belowS hb
    have HB_2 : Hid (Below w.heap.size w wc) := HB_1.out.trans (hb.mono HB_1.out.size)
    clear HA_1 HB_1
    clear hb
    cases o2 with
    | false =>
      go_wp2
      go_ret
      exact ⟨by simp, HB_2.out⟩
    | true =>
      have x15 : wc.cell? ⟨w.heap.size, 15, none⟩ = some (.int .i64 jr) := HA_2.out.at 15
      go_wp2_with fail
      clear x15
      refine (C3 _).mono ?_
      rintro e wz ⟨rfl, hwz⟩
      have hwy := hwz.symm
      clear hwz
      subst hwy
      cases o3 with
      | false =>
        go_wp2
        go_ret
        exact ⟨by simp, HB_2.out⟩
      | true =>
        have x17 : wc.cell? ⟨w.heap.size, 17, none⟩ = some (.slice ta tn tc) := HA_2.out.at 17
        go_wp2_with fail
        clear x17
        refine (C4 _ (HZ.out.below HB_2.out)).mono ?_
        rintro e wd ⟨rfl, hb⟩
        have HA_3 : Hid (Lies wd w.heap.size [.int .i64 jid, .int .i64 a, .int .i64 b, .int .i64 c, .int .i64 d, .int .i64 f, .int .i64 k, .int .i64 a', .int .i64 b', .int .i64 c', .int .i64 d', .int .i64 f', .int .i64 k', .int .i64 s1, .int .i64 s2, .int .i64 jr, .bool jg, .slice ta tn tc]) := HA_2.out.belowS hb
        have HB_3 : Hid (Below w.heap.size w wd) := HB_2.out.trans (hb.mono HB_2.out.size)
        clear HA_2 HB_2
        clear hb
        cases o4 with
        | false =>
          go_wp2
          go_ret
          exact ⟨by simp, HB_3.out⟩
        | true =>
          have x16 : wd.cell? ⟨w.heap.size, 16, none⟩ = some (.bool jg) := HA_3.out.at 16
          have x17 : wd.cell? ⟨w.heap.size, 17, none⟩ = some (.slice ta tn tc) := HA_3.out.at 17
          cases jg with
          | false =>
            go_wp2
            go_ret
            exact ⟨by simp, HB_3.out⟩
          | true =>
            go_wp2_with fail
            clear x16 x17
            refine (C5 _ (HZ.out.below HB_3.out)).mono ?_
            rintro e we ⟨rfl, hb⟩
            have HA_4 : Hid (Lies we w.heap.size [.int .i64 jid, .int .i64 a, .int .i64 b, .int .i64 c, .int .i64 d, .int .i64 f, .int .i64 k, .int .i64 a', .int .i64 b', .int .i64 c', .int .i64 d', .int .i64 f', .int .i64 k', .int .i64 s1, .int .i64 s2, .int .i64 jr, .bool true, .slice ta tn tc]) := HA_3.out.belowS hb
            have HB_4 : Hid (Below w.heap.size w we) := HB_3.out.trans (hb.mono HB_3.out.size)
            clear HA_3 HB_3
            clear hb
            cases o5 with
            | true =>
              go_wp2
              go_ret
              exact ⟨by simp, HB_4.out⟩
            | false =>
              have x17 : we.cell? ⟨w.heap.size, 17, none⟩ = some (.slice ta tn tc) := HA_4.out.at 17
              go_wp2_with fail
              refine (C6 _ x17 (HZ.out.below HB_4.out)).mono ?_
              rintro e wf ⟨rfl, hb⟩
              have HA_5 : Hid (Lies wf w.heap.size [.int .i64 jid, .int .i64 a, .int .i64 b, .int .i64 c, .int .i64 d, .int .i64 f, .int .i64 k, .int .i64 a', .int .i64 b', .int .i64 c', .int .i64 d', .int .i64 f', .int .i64 k', .int .i64 s1, .int .i64 s2, .int .i64 jr, .bool true, .slice ta tn tc]) := HA_4.out.belowS hb
              have HB_5 : Hid (Below w.heap.size w wf) := HB_4.out.trans (hb.mono HB_4.out.size)
              clear HA_4 HB_4
              clear hb
              go_wp2
              go_ret
              exact ⟨by simp, HB_5.out⟩
end Go.Proofs.YtfhknkppiidnkaaGreat
namespace Go.Proofs.YtfhknkppiidnkaaGreat
open Go.RowKit

section
variable {P : Program} {ops : Array Oper} {rest : List Oper} {o : Oper} {a : Act} {w : World} {Q : Exit → Act → World → Prop}
theorem wpList_wanted (hw : Region.wanted o (yielded ops a.tmps) = true)
    (h : ∀ K : Act → World → Prop, (∀ a w, wpList P ops Q rest a w → K a w) → o.wp P a w K Q) : wpList P ops Q (o :: rest) a w :=
  wpList_step fun K hK => by simp only [hw, if_true]; exact h K hK
theorem wpList_load_want (hw : Region.wanted o (yielded ops a.tmps) = true) (ty : TypeId) (x : Operand) (ho : o.op = .load ty x)
    (b i : Nat) (hx : a.eval x = .pointer (some ⟨b, i, none⟩)) (cs : List Value) (d : TypeDesc) (hc : w.rangeAt b i cs)
    (hu : P.underlying ty = some d) (hd : d.isRow = true) (hi : (P.info? ty).map (·.size) = some cs.length)
    (h : wpList P ops Q rest (a.put o.dst (.agg cs.toArray)) w) : wpList P ops Q (o :: rest) a w :=
  wpList_wanted hw fun _ hK => wp_load_mid ty x ho b i hx cs d hc hu hd hi (hK _ _ h)
end
end Go.Proofs.YtfhknkppiidnkaaGreat
