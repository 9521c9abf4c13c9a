/- Slices of numbers that the program makes for itself: what it owns, how a store turns it, and the copy that the laws make of an argument. What PolyOk answers, in the program and in its model, of every slice of numbers. -/
import Derived.Test.YtfhknkppiidnkaaGreatSlA
namespace Go.Proofs.YtfhknkppiidnkaaGreat
open Go.RowKit

/-- the slice (a, n, cap) lies in a block of its own, from 'base' on, of elements of type t, and holds the numbers zs -/
def Owns (t : TypeId) (w : World) (base : Nat) (a : Option Addr) (n cap : Nat) (zs : List Int) : Prop :=
  w.ownsRow base t 1 (.slice a n cap) n (zs.map (Value.int .i64))

theorem Owns.len {t : TypeId} {w : World} {base : Nat} {a : Option Addr} {n cap : Nat} {zs : List Int} (h : Owns t w base a n cap zs) : zs.length = n := by
  have := h.1; simpa using this
theorem Owns.cap_le {t : TypeId} {w : World} {base : Nat} {a : Option Addr} {n cap : Nat} {zs : List Int} (h : Owns t w base a n cap zs) : n ≤ cap ∧ (cap : Int) ≤ 9223372036854775807 := by
  rcases h.2 with ⟨e, h0⟩ | ⟨g, c, cur, e, _, _, hn, hm, _, _⟩
  · simp only [Value.slice.injEq] at e; omega
  · simp only [Value.slice.injEq] at e
    unfold maxLen at hm; omega
theorem Owns.block {t : TypeId} {w : World} {base : Nat} {a : Option Addr} {n cap : Nat} {zs : List Int} (h : Owns t w base a n cap zs) (h0 : 0 < n) :
    ∃ g, a = some ⟨g, 0, none⟩ ∧ base ≤ g ∧ g < w.heap.size ∧ (∀ i, i < n → w.cell? ⟨g, i, none⟩ = some (.int .i64 (zs.getD i 0))) ∧ ∀ i, w.frozen? ⟨g, i, none⟩ = false := by
  have hl := h.len
  have hcl : ∀ g, (Value.slice a n cap).ownBlock = some g → _ := fun g hg => World.ownsRow.cells h hg
  rcases h.2 with ⟨e, h0'⟩ | ⟨g, c, cur, e, hb, hh, hn, hm, _, _⟩
  · omega
  · simp only [Value.slice.injEq] at e
    obtain ⟨rfl, -, -⟩ := e
    have hlt : g < w.heap.size := by
      rcases Nat.lt_or_ge g w.heap.size with h' | h'
      · exact h'
      · rw [Array.getElem?_eq_none h'] at hh; cases hh
    refine ⟨g, rfl, hb, hlt, fun i hi => ?_, fun i => ?_⟩
    · have := hcl g rfl i (.int .i64 (zs.getD i 0)) (by rw [List.getElem?_map, List.getElem?_eq_getElem (by omega)]; simp [List.getD_eq_getElem?_getD, List.getElem?_eq_getElem (show i < zs.length by omega)])
      simp only [Addr.add] at this
      split at this
      · rename_i e; subst e; exact this
      · simpa using this
    · simp [World.frozen?, hh]
theorem Owns.sees {t : TypeId} {w : World} {base : Nat} {a : Option Addr} {n cap : Nat} {zs : List Int} (h : Owns t w base a n cap zs) : Sees w a n cap zs := by
  refine ⟨h.len, h.cap_le.1, h.cap_le.2, ?_, ?_⟩
  · intro e
    subst e
    rcases h.2 with ⟨e, h0⟩ | ⟨g, c, cur, e, _⟩
    · simp only [Value.slice.injEq] at e; exact ⟨h0, e.2.2⟩
    · simp at e
  by_cases h0 : 0 < n
  · obtain ⟨g, rfl, _, _, hc, _⟩ := h.block h0
    exact .inr ⟨g, 0, rfl, fun i hi => by rw [Nat.zero_add]; exact hc i hi⟩
  · exact .inl (by omega)
theorem Owns.below {t : TypeId} {w w' : World} {base : Nat} {a : Option Addr} {n cap : Nat} {zs : List Int} (h : Owns t w base a n cap zs) (hb : Below w.heap.size w w') : Owns t w' base a n cap zs :=
  World.ownsRow.kept h (w' := w') (row := none) ⟨hb.os, hb.tape, hb.output, hb.size, fun k hk _ => hb.block k hk⟩ (by cases hv : (Value.slice a n cap).ownBlock <;> simp)
theorem Owns.mono {t : TypeId} {w : World} {base base' : Nat} {a : Option Addr} {n cap : Nat} {zs : List Int} (h : Owns t w base a n cap zs) (hb : base' ≤ base) : Owns t w base' a n cap zs := by
  refine ⟨h.1, ?_⟩
  rcases h.2 with e | ⟨g, c, cur, e, hg, r⟩
  · exact .inl e
  · exact .inr ⟨g, c, cur, e, by omega, r⟩
theorem Owns.set {t : TypeId} {w : World} {base g n cap : Nat} {zs : List Int} (h : Owns t w base (some ⟨g, 0, none⟩) n cap zs) (k : Nat) (x : Int) : Owns t (w.setCell ⟨g, k, none⟩ (.int .i64 x)) base (some ⟨g, 0, none⟩) n cap (zs.set k x) := by
  obtain ⟨hl, h⟩ := h
  refine ⟨by simpa using hl, ?_⟩
  rcases h with ⟨e, _⟩ | ⟨g', c, cur, e, hb, hh, hn, hm, hs, ht⟩
  · simp at e
  · simp only [Value.slice.injEq, Option.some.injEq, Addr.mk.injEq] at e
    obtain ⟨⟨rfl, -, -⟩, -, rfl⟩ := e
    refine .inr ⟨g, cap, cur.setIfInBounds k (.int .i64 x), rfl, hb, ?_, hn, hm, by simpa using hs, ?_⟩
    · simp [World.setCell, Array.getElem?_modify, hh]
    · rw [Array.toList_setIfInBounds, List.take_set, ht, List.map_set]
theorem Owns.other {t : TypeId} {w : World} {base : Nat} {a : Option Addr} {n cap : Nat} {zs : List Int} (h : Owns t w base a n cap zs) (p : Addr) (hp : ∀ x, a = some x → x.block ≠ p.block) (v : Value) : Owns t (w.setCell p v) base a n cap zs := by
  refine World.ownsRow.kept h (w' := w.setCell p v) (row := some p.block) ⟨rfl, rfl, rfl, by simp [World.setCell], fun k hk hne => Below.heap_setCell _ _ _ _ (fun e => hne (by rw [e]))⟩ ?_
  cases a with
  | none => exact .inl rfl
  | some x => exact .inr (by simpa [Value.ownBlock] using hp x rfl)

theorem below_grown {w w' : World} (hg : w.grownBy w' none) : Below w.heap.size w w' :=
  (Below.refl _ _).grown hg (Nat.le_refl _) (fun k hk => by cases hk)
theorem made_ints (n : Nat) : (madeCells #[Value.int .i64 0] n).toList = (List.replicate n (0 : Int)).map (Value.int .i64) := by
  apply List.ext_getElem
  · simp [madeCells]
  · intro i h1 h2
    simp [madeCells, Nat.mod_one]
theorem take_step {zs : List Int} {k : Nat} (h : k < zs.length) : (zs.take k ++ List.replicate (zs.length - k) (0 : Int)).set k (zs.getD k 0) = zs.take (k + 1) ++ List.replicate (zs.length - (k + 1)) 0 := by
  have e : zs.length - k = (zs.length - (k + 1)) + 1 := by omega
  rw [e, List.replicate_succ, List.set_append_right _ _ (by simp; omega)]
  rw [List.length_take, Nat.min_eq_left (Nat.le_of_lt h), Nat.sub_self, List.set_cons_zero, List.take_succ_eq_append_getElem h, List.append_assoc, List.singleton_append]
  rw [List.getD_eq_getElem?_getD, List.getElem?_eq_getElem h]; rfl

/-- a slice of 64-bit integers that came in -/
def RowI (w : World) (a : Option Addr) (len cap : Nat) (zs : List Int) : Prop :=
  (a = none ∧ len = 0 ∧ cap = 0 ∧ zs = []) ∨
  ∃ x, a = some x ∧ len ≤ cap ∧ cap ≤ maxLen ∧ zs.length = cap ∧ (∀ i, i < zs.length → w.cell? (x.add i) = some (.int .i64 (zs.getD i 0))) ∧ ∀ n ∈ zs, (Lit.int .i64 n).wf = true
theorem sees_of_row {w : World} {a : Option Addr} {len cap : Nat} {zs : List Int} (h : RowI w a len cap zs) : Sees w a len cap (zs.take len) := by
  rcases h with ⟨rfl, rfl, rfl, rfl⟩ | ⟨x, rfl, hl, hm, hz, hc, _⟩
  · exact ⟨rfl, by omega, by omega, fun _ => ⟨rfl, rfl⟩, .inl rfl⟩
  · refine ⟨by rw [List.length_take]; omega, hl, (by unfold maxLen at hm; omega), (fun h => by cases h), ?_⟩
    by_cases h0 : len = 0
    · exact .inl h0
    · obtain ⟨b, off, rfl, hc2⟩ := ints_at hc (by omega)
      refine .inr ⟨b, off, rfl, fun i hi => ?_⟩
      have h1 := hc2 i (by omega)
      rw [List.getD_eq_getElem?_getD, List.getElem?_take_of_lt hi, ← List.getD_eq_getElem?_getD]; exact h1

theorem info_i64 : (Tryz.prog.info? 2).map (fun i => (i.zero, i.size, i.bytes)) = some (some (.int .i64 0), 1, 8) := by kernel_rfl

set_option maxHeartbeats 2000000 in
theorem toS_any {a : Option Addr} {n c : Nat} {zs : List Int} (w : World) (hz : Sees w a n c zs) (hb : n ≤ 1048576) :
    Calls Tryz.prog 35 #[.slice a n c] w fun e w' => ∃ a', e = .returned (.slice a' n n) ∧ Owns 2 w' w.heap.size a' n n zs ∧ Below w.heap.size w w' := by
  have HZ : Hid (Sees w a n c zs) := hz
  clear hz
  obtain ⟨i0, hi, hz0, hz1, hz2⟩ := info_parts info_i64
  go_enter Tryz.func35, Tryz.ntmps35
  go_wp2_with (at_make; refine wpList_make_full _ rfl _ _ 24 rfl w.heap.size 2 i0 (.int .i64 0) 1 Tryz.underlying24 hi hz0 hz1 .i64 .i64 _ _ n rfl rfl rfl rfl (by rw [hz2]; omega) (by unfold maxLen; omega) (Nat.le_refl _) ?_)
  intro w1 hown hg
  have HO : Hid (Owns 2 w1 w.heap.size (some ⟨w.heap.size, 0, none⟩) n n (List.replicate n 0)) := by
    show w1.ownsRow _ _ _ _ _ _
    rw [made_ints] at hown; exact hown
  have HB : Hid (Below w.heap.size w w1) := below_grown hg
  clear hown hg hi hz0 hz1 hz2
  go_wp2
  go_loopw [4] (fun i wr => ∃ k : Nat, k ≤ n ∧ i = .int .i64 k ∧ Owns 2 wr w.heap.size (some ⟨w.heap.size, 0, none⟩) n n (zs.take k ++ List.replicate (n - k) 0) ∧ Below w.heap.size w wr) (fun i _ => n - (intOf i).toNat)
  case atStart => exact ⟨0, by omega, rfl, HO.out, HB.out⟩
  case round =>
    obtain ⟨k, hk, rfl, ho, hbl⟩ := hrel
    have HO1 : Hid (Owns 2 wr w.heap.size (some ⟨w.heap.size, 0, none⟩) n n (zs.take k ++ List.replicate (n - k) 0)) := ho
    have HB1 : Hid (Below w.heap.size w wr) := hbl
    clear ho hbl HO HB
    by_cases hlt : k < n
    · obtain ⟨b1, o1, rfl, hc1⟩ := (HZ.out.below HB1.out).at (by omega)
      have c1 := hc1 k hlt
      clear hc1
      obtain ⟨g, hge, _, _, hc2, hf⟩ := HO1.out.block (by omega)
      simp only [Option.some.injEq, Addr.mk.injEq, and_true] at hge
      subst hge
      have c2 := hc2 k hlt
      have f2 := hf k
      generalize hx : zs.getD k 0 = x at c1
      have HX : Hid (zs.getD k 0 = x) := hx
      generalize (zs.take k ++ List.replicate (n - k) 0).getD k 0 = y at c2
      have hI : (k : Int) < (n : Int) := by omega
      clear hx hc2 hf
      go_wp2
      go_roundw
      case rel =>
        refine ⟨k + 1, by omega, by go_num, ?_, HB1.out.setCell (Nat.le_refl _) _⟩
        have h := HO1.out.set k x
        rw [← HX.out, ← HZ.out.len, take_step (by rw [HZ.out.len]; exact hlt), HZ.out.len] at h
        rw [← HX.out]; exact h
      case measure => simp [intOf]; omega
    · have hkn : k = n := by omega
      have HK : Hid (k = n) := hkn
      clear hkn
      go_wp2
      go_ret
      refine ⟨_, rfl, ?_, HB1.out⟩
      have h := HO1.out
      rw [HK.out, Nat.sub_self, List.replicate_zero, List.append_nil, List.take_of_length_le (by rw [HZ.out.len]; exact Nat.le_refl _)] at h
      exact h
end Go.Proofs.YtfhknkppiidnkaaGreat
namespace Go.Proofs.YtfhknkppiidnkaaGreat
open Go.RowKit

def M.polyOk (zs : List Int) : Bool := decide (zs.length ≤ 128) && (M.allEl zs && (decide (zs.length = 0) || (zs.getD (zs.length - 1) 0 != 0)))

set_option maxHeartbeats 1000000 in
theorem allEl1_any (ok : Bool) (x : Int) (w : World) :
    Calls Tryz.prog 150 #[.bool ok, .int .i64 x] w fun e w' => e = .returned (.bool (ok && M.el x)) ∧ w' = w := by
  cases he : M.el x with
  | true =>
    obtain ⟨x0, x1⟩ := (M.el_iff x).1 he
    clear he
    cases ok with
    | true =>
      go_enter Tryz.func150, Tryz.ntmps150
      go_wp2_with fail
      refine (elementOf_in x _ x0 x1).mono ?_
      rintro e w' ⟨rfl, rfl⟩
      go_wp2
      go_ret
      exact ⟨rfl, rfl⟩
    | false =>
      go_enter Tryz.func150, Tryz.ntmps150
      go_wp2_with fail
      refine (elementOf_in x _ x0 x1).mono ?_
      rintro e w' ⟨rfl, rfl⟩
      go_wp2
      go_ret
      exact ⟨rfl, rfl⟩
  | false =>
    have HX : Hid (x < 0 ∨ 65537 ≤ x) := (M.el_not x).1 he
    clear he
    cases ok with
    | true =>
      go_enter Tryz.func150, Tryz.ntmps150
      go_wp2_with fail
      refine (elementOf_out x _ HX.out).mono ?_
      rintro e w' ⟨rfl, rfl⟩
      go_wp2
      go_ret
      exact ⟨rfl, rfl⟩
    | false =>
      go_enter Tryz.func150, Tryz.ntmps150
      go_wp2_with fail
      refine (elementOf_out x _ HX.out).mono ?_
      rintro e w' ⟨rfl, rfl⟩
      go_wp2
      go_ret
      exact ⟨rfl, rfl⟩
theorem M.all_step {zs : List Int} {k : Nat} (hk : k < zs.length) : ((zs.take k).all M.el && M.el (zs.getD k 0)) = (zs.take (k + 1)).all M.el := by
  rw [List.take_succ_eq_append_getElem hk, List.all_append, List.getD_eq_getElem?_getD, List.getElem?_eq_getElem hk]
  simp
set_option maxHeartbeats 1000000 in
theorem foldAll_any {a : Option Addr} {n c : Nat} {zs : List Int} (w : World) (hz : Sees w a n c zs) :
    Calls Tryz.prog 149 #[.slice a n c, .bool true, .func (.func 150) #[] #[]] w fun e w' => e = .returned (.bool (M.allEl zs)) ∧ w' = w := by
  have bn : (n : Int) ≤ 9223372036854775807 := by have := hz.big; have := hz.le; omega
  have HZ : Hid (Sees w a n c zs) := hz
  clear hz
  go_enter Tryz.func149, Tryz.ntmps149
  go_wp2
  go_loop [1, 11] (fun s i => ∃ k : Nat, k ≤ n ∧ i = .int .i64 k ∧ s = .bool ((zs.take k).all M.el)) (fun _ i => n - (intOf i).toNat)
  case atStart => exact ⟨0, by omega, rfl, rfl⟩
  case round =>
    obtain ⟨k, hk, rfl, rfl⟩ := hrel
    by_cases hlt : k < n
    · obtain ⟨b1, o1, rfl, hc1⟩ := HZ.out.at (by omega)
      have c1 := hc1 k hlt
      have HS : Hid (((zs.take k).all M.el && M.el (zs.getD k 0)) = (zs.take (k + 1)).all M.el) := M.all_step (by rw [HZ.out.len]; exact hlt)
      clear hc1
      generalize hx : zs.getD k 0 = x at c1
      have HX : Hid (zs.getD k 0 = x) := hx
      generalize hs : (zs.take k).all M.el = s
      have HT : Hid ((zs.take k).all M.el = s) := hs
      have hI : (k : Int) < (n : Int) := by omega
      clear hx hs
      go_wp2_with fail
      refine (allEl1_any s x _).mono ?_
      rintro e w' ⟨rfl, rfl⟩
      go_wp2
      go_round
      case rel => exact ⟨k + 1, by omega, by go_num, by rw [← HS.out, HT.out, HX.out]⟩
      case measure => simp [intOf]; omega
    · go_wp2
      go_ret
      refine ⟨ret_bool ?_, rfl⟩
      rw [List.take_of_length_le (by rw [HZ.out.len]; omega)]; rfl
theorem allElements_any {a : Option Addr} {n c : Nat} {zs : List Int} (w : World) (hz : Sees w a n c zs) :
    Calls Tryz.prog 140 #[.slice a n c] w fun e w' => e = .returned (.bool (M.allEl zs)) ∧ w' = w := by
  have HZ : Hid (Sees w a n c zs) := hz
  clear hz
  go_enter Tryz.func140, Tryz.ntmps140
  go_wp2_with fail
  refine (foldAll_any _ HZ.out).mono ?_
  rintro e w' ⟨rfl, rfl⟩
  go_wp2
  go_ret
  exact ⟨rfl, rfl⟩
def M.coefOk (zs : List Int) : Bool := decide (zs.length ≤ 128) && M.allEl zs
end Go.Proofs.YtfhknkppiidnkaaGreat
