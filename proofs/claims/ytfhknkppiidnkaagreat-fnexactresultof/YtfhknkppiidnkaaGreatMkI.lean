/- Whether a market is right, in the model: its small parts. What is left of a drawn region, when it only skips, moves and picks, in one step. -/
import Derived.Test.YtfhknkppiidnkaaGreatMkQ
import Derived.Test.YtfhknkppiidnkaaGreatMkF
import Derived.Test.YtfhknkppiidnkaaGreatClA
import Derived.Test.YtfhknkppiidnkaaGreatLiA
import Derived.OrdersHeld
namespace Go.Proofs.YtfhknkppiidnkaaGreat
open Go.RowKit

set_option maxHeartbeats 2000000 in
theorem l8Banned_any {ab aj : Option Addr} {nb cb nj cj : Nat} {bs : List Int} (now next who : Int) (w : World) (hz : Sees w ab nb cb bs) :
    Calls Tryz.prog 44 #[.agg #[.int .i64 now, .int .i64 next, .slice ab nb cb, .slice aj nj cj], .int .i64 who] w fun e w' => e = .returned (.bool (bs.contains who)) ∧ Below w.heap.size w w' := by
  have bn : (nb : Int) ≤ 9223372036854775807 := by have := hz.big; have := hz.le; omega
  have hcI : (nb : Int) ≤ cb := by have := hz.le; omega
  have HL0 : Hid (Lies (w.alloc (.cells #[.int .i64 now, .int .i64 next, .slice ab nb cb, .slice aj nj cj] 27)) w.heap.size [.int .i64 now, .int .i64 next, .slice ab nb cb, .slice aj nj cj]) := lies_new _ _ _
  have HB0 : Hid (Below w.heap.size w (w.alloc (.cells #[.int .i64 now, .int .i64 next, .slice ab nb cb, .slice aj nj cj] 27))) := (Below.refl _ _).alloc (Nat.le_refl _) _
  have HZ : Hid (Sees (w.alloc (.cells #[.int .i64 now, .int .i64 next, .slice ab nb cb, .slice aj nj cj] 27)) ab nb cb bs) := hz.below HB0.out
  generalize hR : bs.contains who = R
  have HR : Hid (bs.contains who = R) := hR
  clear hR hz
  go_enter Tryz.func44, Tryz.ntmps44
  go_wp2
  generalize (w.alloc (.cells #[.int .i64 now, .int .i64 next, .slice ab nb cb, .slice aj nj cj] 27)) = w1 at HL0 HB0 HZ ⊢
  have x2 : w1.cell? ⟨w.heap.size, 2, none⟩ = some (.slice ab nb cb) := HL0.out.at 2
  go_loop [5] (fun i => ∃ k : Nat, k ≤ nb ∧ i = .int .i64 k ∧ (bs.drop k).contains who = R) (fun i => nb - (intOf i).toNat)
  case atStart => exact ⟨0, by omega, rfl, HR.out⟩
  case round =>
    obtain ⟨k, hk, rfl, hg⟩ := hrel
    by_cases hlt : k < nb
    · obtain ⟨b1, o1, rfl, hc1⟩ := HZ.out.at (by omega)
      have c1 := hc1 k hlt
      have hG : (who == bs.getD k 0 || (bs.drop (k + 1)).contains who) = R := by
        rw [← hg, drop_step 0 HZ.out.len hlt, List.contains_cons]
      generalize bs.getD k 0 = x at c1 hG
      have HG : Hid ((who == x || (bs.drop (k + 1)).contains who) = R) := hG
      clear hc1 hg hG
      have hI : (k : Int) < (nb : Int) := by omega
      by_cases hx : who = x
      · have hb : (who == x) = true := by simp [hx]
        have hb2 : (x == who) = true := by simp [hx]
        have HT : Hid (true = R) := by show _ = _; have := HG.out; rw [hb, Bool.true_or] at this; exact this
        clear hx
        go_wp2
        go_ret
        exact ⟨ret_bool HT.out, HB0.out⟩
      · have hb : (who == x) = false := by simp [hx]
        have hb2 : (x == who) = false := by simp; exact fun e => hx e.symm
        have HG3 : Hid ((bs.drop (k + 1)).contains who = R) := by show _ = _; have := HG.out; rw [hb, Bool.false_or] at this; exact this
        clear hx
        go_wp2
        go_round
        case rel => exact ⟨k + 1, by omega, by go_num, HG3.out⟩
        case measure => simp [intOf]; omega
    · go_wp2
      go_ret
      refine ⟨ret_bool ?_, HB0.out⟩
      rw [List.drop_of_length_le (by rw [HZ.out.len]; omega)] at hg
      exact hg
set_option maxHeartbeats 2000000 in
theorem l8All_any {ta : Option Addr} {tn tc : Nat} {tl : List M.Tk} (jid a b c d f k a' b' c' d' f' k' s1 s2 jr : Int) (jg : Bool) (w : World) (hz : SeesT w ta tn tc tl) :
    Calls Tryz.prog 27 #[.agg #[.int .i64 jid, .int .i64 a, .int .i64 b, .int .i64 c, .int .i64 d, .int .i64 f, .int .i64 k, .int .i64 a', .int .i64 b', .int .i64 c', .int .i64 d', .int .i64 f', .int .i64 k', .int .i64 s1, .int .i64 s2, .int .i64 jr, .bool jg, .slice ta tn tc]] w fun e w' => e = .returned (.bool (tl.all (·.done))) ∧ Below w.heap.size w w' := by
  have bn : (tn : Int) ≤ 9223372036854775807 := by have := hz.big; have := hz.le; omega
  have hcI : (tn : Int) ≤ tc := by have := hz.le; omega
  have HL0 : Hid (Lies (w.alloc (.cells #[.int .i64 jid, .int .i64 a, .int .i64 b, .int .i64 c, .int .i64 d, .int .i64 f, .int .i64 k, .int .i64 a', .int .i64 b', .int .i64 c', .int .i64 d', .int .i64 f', .int .i64 k', .int .i64 s1, .int .i64 s2, .int .i64 jr, .bool jg, .slice ta tn tc] 44)) w.heap.size [.int .i64 jid, .int .i64 a, .int .i64 b, .int .i64 c, .int .i64 d, .int .i64 f, .int .i64 k, .int .i64 a', .int .i64 b', .int .i64 c', .int .i64 d', .int .i64 f', .int .i64 k', .int .i64 s1, .int .i64 s2, .int .i64 jr, .bool jg, .slice ta tn tc]) := lies_new _ _ _
  have HB0 : Hid (Below w.heap.size w (w.alloc (.cells #[.int .i64 jid, .int .i64 a, .int .i64 b, .int .i64 c, .int .i64 d, .int .i64 f, .int .i64 k, .int .i64 a', .int .i64 b', .int .i64 c', .int .i64 d', .int .i64 f', .int .i64 k', .int .i64 s1, .int .i64 s2, .int .i64 jr, .bool jg, .slice ta tn tc] 44))) := (Below.refl _ _).alloc (Nat.le_refl _) _
  have HZ : Hid (SeesT (w.alloc (.cells #[.int .i64 jid, .int .i64 a, .int .i64 b, .int .i64 c, .int .i64 d, .int .i64 f, .int .i64 k, .int .i64 a', .int .i64 b', .int .i64 c', .int .i64 d', .int .i64 f', .int .i64 k', .int .i64 s1, .int .i64 s2, .int .i64 jr, .bool jg, .slice ta tn tc] 44)) ta tn tc tl) := hz.below HB0.out
  generalize hR : tl.all (·.done) = R
  have HR : Hid (tl.all (·.done) = R) := hR
  clear hR hz
  go_enter Tryz.func27, Tryz.ntmps27
  go_wp2
  generalize w.alloc (.cells #[.int .i64 jid, .int .i64 a, .int .i64 b, .int .i64 c, .int .i64 d, .int .i64 f, .int .i64 k, .int .i64 a', .int .i64 b', .int .i64 c', .int .i64 d', .int .i64 f', .int .i64 k', .int .i64 s1, .int .i64 s2, .int .i64 jr, .bool jg, .slice ta tn tc] 44) = w1 at HL0 HB0 HZ ⊢
  have x17 : w1.cell? ⟨w.heap.size, 17, none⟩ = some (.slice ta tn tc) := HL0.out.at 17
  go_loop [3] (fun i => ∃ q : Nat, q ≤ tn ∧ i = .int .i64 q ∧ (tl.drop q).all (·.done) = R) (fun i => tn - (intOf i).toNat)
  case atStart => exact ⟨0, by omega, rfl, HR.out⟩
  case round =>
    obtain ⟨q, hq, rfl, hg⟩ := hrel
    by_cases hlt : q < tn
    · obtain ⟨b1, o1, rfl, hc1⟩ := HZ.out.at (by omega)
      have c1 : w1.cell? ⟨b1, o1 + q * 3, none⟩ = some (.bool (tl.getD q M.t0).done) := hc1 q hlt 0 (by omega)
      have hG : ((tl.getD q M.t0).done && (tl.drop (q + 1)).all (·.done)) = R := by
        rw [← hg, drop_step M.t0 HZ.out.len hlt, List.all_cons]
      generalize (tl.getD q M.t0).done = x at c1 hG
      have HG : Hid ((x && (tl.drop (q + 1)).all (·.done)) = R) := hG
      clear hc1 hg hG
      have hI : (q : Int) < (tn : Int) := by omega
      cases x with
      | false =>
        go_wp2
        go_ret
        exact ⟨ret_bool HG.out, HB0.out⟩
      | true =>
        have HG3 : Hid ((tl.drop (q + 1)).all (·.done) = R) := by show _ = _; have := HG.out; rw [Bool.true_and] at this; exact this
        go_wp2
        go_round
        case rel => exact ⟨q + 1, by omega, by go_num, HG3.out⟩
        case measure => simp [intOf]; omega
    · go_wp2
      go_ret
      refine ⟨ret_bool ?_, HB0.out⟩
      rw [List.drop_of_length_le (by rw [HZ.out.len]; omega)] at hg
      exact hg
set_option maxHeartbeats 4000000 in
set_option maxRecDepth 10000 in
theorem l8Task_any {ab aj : Option Addr} {nb cb nj cj : Nat} {bs : List Int} (now next : Int) (tk : M.Tk) (h0 : 0 ≤ now) (h1 : now ≤ 1000000000) (w : World) (hz : Sees w ab nb cb bs) :
    Calls Tryz.prog 56 #[.agg #[.int .i64 now, .int .i64 next, .slice ab nb cb, .slice aj nj cj], tkv tk] w fun e w' => e = .returned (.bool (M.spK now bs tk)) ∧ Below w.heap.size w w' := by
  obtain ⟨td, x, y⟩ := tk
  unfold M.spK
  dsimp only [tkv]
  have C1 := l1InG_any x 1 9
  have C2 : ∀ W, Sees W ab nb cb bs → Calls Tryz.prog 44 #[.agg #[.int .i64 now, .int .i64 next, .slice ab nb cb, .slice aj nj cj], .int .i64 x] W fun e w' => e = .returned (.bool (bs.contains x)) ∧ Below W.heap.size W w' := fun W h => l8Banned_any now next x W h
  have HZ : Hid (Sees w ab nb cb bs) := hz
  change ∀ w, Calls Tryz.prog 43 #[.int .i64 x, .int .i64 1, .int .i64 9] w fun e w' => e = .returned (.bool (M.wkOk x)) ∧ w' = w at C1
  generalize bs.contains x = o2 at C2 ⊢
  generalize M.wkOk x = o1 at C1 ⊢
  clear hz
  by_cases hd : td = true ∨ x = 0
  · have hc : (td || decide (x = 0)) = true := by rcases hd with e | e <;> simp [e]
    rw [if_pos hc]
    rcases hd with rfl | rfl
    · by_cases hx : x = 0
      · subst hx
        go_enter Tryz.func56, Tryz.ntmps56
        go_wp2
        go_ret
        exact ⟨by by_cases hy : y = 0 <;> simp [hy], ((Below.refl _ _).alloc (Nat.le_refl _) _).alloc (by simp) _⟩
      · have gx : (x == 0) = false := by simp [hx]
        go_enter Tryz.func56, Tryz.ntmps56
        go_wp2
        go_ret
        exact ⟨by simp [hx], ((Below.refl _ _).alloc (Nat.le_refl _) _).alloc (by simp) _⟩
    · cases td with
      | true =>
        go_enter Tryz.func56, Tryz.ntmps56
        go_wp2
        go_ret
        exact ⟨by by_cases hy : y = 0 <;> simp [hy], ((Below.refl _ _).alloc (Nat.le_refl _) _).alloc (by simp) _⟩
      | false =>
        go_enter Tryz.func56, Tryz.ntmps56
        go_wp2
        go_ret
        exact ⟨by by_cases hy : y = 0 <;> simp [hy], ((Below.refl _ _).alloc (Nat.le_refl _) _).alloc (by simp) _⟩
  · have hx : ¬ x = 0 := fun e => hd (.inr e)
    have hdf : td = false := by cases td with
      | false => rfl
      | true => exact absurd (.inl rfl) hd
    subst hdf
    rw [if_neg (by simp [hx])]
    have gx : (x == 0) = false := by simp [hx]
    clear hd
    go_enter Tryz.func56, Tryz.ntmps56
    have HA_0 : Hid (Lies ((w.alloc (.cells #[.int .i64 now, .int .i64 next, .slice ab nb cb, .slice aj nj cj] 27)).alloc (.cells #[.bool false, .int .i64 x, .int .i64 y] 74)) w.heap.size [.int .i64 now, .int .i64 next, .slice ab nb cb, .slice aj nj cj]) := (lies_new _ _ _).alloc _
    have HT_0 : Hid (Lies ((w.alloc (.cells #[.int .i64 now, .int .i64 next, .slice ab nb cb, .slice aj nj cj] 27)).alloc (.cells #[.bool false, .int .i64 x, .int .i64 y] 74)) (w.heap.size + 1) [.bool false, .int .i64 x, .int .i64 y]) := lies_new2 _ _ _ _
    have HB_0 : Hid (Below w.heap.size w ((w.alloc (.cells #[.int .i64 now, .int .i64 next, .slice ab nb cb, .slice aj nj cj] 27)).alloc (.cells #[.bool false, .int .i64 x, .int .i64 y] 74))) := ((Below.refl _ _).alloc (Nat.le_refl _) _).alloc (by simp) _
    go_wp2_with fail
    generalize ((w.alloc (.cells #[.int .i64 now, .int .i64 next, .slice ab nb cb, .slice aj nj cj] 27)).alloc (.cells #[.bool false, .int .i64 x, .int .i64 y] 74)) = wa at HA_0 HT_0 HB_0  ⊢
    refine (C1 _).mono ?_
    rintro e wz ⟨rfl, hwz⟩
    have hwy := hwz.symm
    clear hwz
    subst hwy
    cases o1 with
    | false =>
      go_wp2
      go_ret
      exact ⟨by simp, HB_0.out⟩
    | true =>
      have x0 : wa.cell? ⟨w.heap.size, 0, none⟩ = some (.int .i64 now) := HA_0.out.at 0
      have x1 : wa.cell? ⟨w.heap.size, 1, none⟩ = some (.int .i64 next) := HA_0.out.at 1
      have x2 : wa.cell? ⟨w.heap.size, 2, none⟩ = some (.slice ab nb cb) := HA_0.out.at 2
      have x3 : wa.cell? ⟨w.heap.size, 3, none⟩ = some (.slice aj nj cj) := HA_0.out.at 3
      have y1 : wa.cell? ⟨w.heap.size + 1, 1, none⟩ = some (.int .i64 x) := HT_0.out.at 1
      go_wp2_with fail
      clear x0 x1 x2 x3 y1
      refine (C2 _ (HZ.out.below HB_0.out)).mono ?_
      rintro e wb ⟨rfl, hb⟩
      have HA_1 : Hid (Lies wb w.heap.size [.int .i64 now, .int .i64 next, .slice ab nb cb, .slice aj nj cj]) := HA_0.out.belowS hb
      have HT_1 : Hid (Lies wb (w.heap.size + 1) [.bool false, .int .i64 x, .int .i64 y]) := HT_0.out.belowS hb
      have HB_1 : Hid (Below w.heap.size w wb) := HB_0.out.trans (hb.mono HB_0.out.size)
      clear HA_0 HT_0 HB_0
      clear hb
      cases o2 with
      | true =>
        go_wp2
        go_ret
        exact ⟨by simp, HB_1.out⟩
      | false =>
        have x0 : wb.cell? ⟨w.heap.size, 0, none⟩ = some (.int .i64 now) := HA_1.out.at 0
        have y2 : wb.cell? ⟨w.heap.size + 1, 2, none⟩ = some (.int .i64 y) := HT_1.out.at 2
        by_cases h2 : now < y
        · go_wp2
          go_ret
          exact ⟨by simp [h2], HB_1.out⟩
        · go_wp2
          go_ret
          exact ⟨by simp; omega, HB_1.out⟩
end Go.Proofs.YtfhknkppiidnkaaGreat
namespace Go.Proofs.YtfhknkppiidnkaaGreat
open Go.RowKit

theorem Lies.mid {W : World} {b : Nat} {vs : List Value} (h : Lies W b vs) (o n : Nat) : W.rangeAt b o ((vs.drop o).take n) := h.range o _ fun j v hv => by
  rw [List.getElem?_take] at hv
  split at hv
  · rwa [List.getElem?_drop] at hv
  · cases hv
def valH (ops : Array Oper) (o : Oper) (a : Act) : Option Value :=
  if Region.wanted o (yielded ops a.tmps) then
    match o.op with
    | .pick x y z => match a.eval x with
      | .bool true => some (a.eval y)
      | .bool false => some (a.eval z)
      | _ => none
    | .move x => some (a.eval x)
    | _ => none
  else some undef
theorem valH_yields {P : Program} {ops : Array Oper} {S : World → Prop} {o : Oper} {a : Act} {v : Value} (h : valH ops o a = some v) : YieldsIf P ops S o v a := by
  unfold valH at h
  by_cases hw : Region.wanted o (yielded ops a.tmps) = true
  · rw [if_pos hw] at h
    refine .inl ⟨hw, fun w _ => ?_⟩
    split at h
    · rename_i x y z ho
      split at h
      · rename_i hx; injection h with h; subst h
        simp [execOp, ho, hx, asBool]
      · rename_i hx; injection h with h; subst h
        simp [execOp, ho, hx, asBool]
      · cases h
    · rename_i x ho; injection h with h; subst h
      simp [execOp, ho]
    · cases h
  · rw [if_neg hw] at h
    injection h with h
    exact .inr ⟨by simpa using hw, h.symm⟩
def finH (md : Region.Mode) (ops : Array Oper) : List Nat → Array Bool → Act → Option Act
  | [], listed, a => if Region.ready md ops listed = [] then some a else none
  | i :: l, listed, a =>
    match ops[i]? with
    | none => none
    | some o =>
      if Region.free md ops listed i = true ∧ (Region.ready md ops listed).contains i = true then
        match valH ops o a with
        | some v => finH md ops l (listed.setIfInBounds i true) (a.put o.dst v)
        | none => none
      else none
theorem wpAnyH_fin {P : Program} {md : Region.Mode} {ops : Array Oper} {Q : Exit → Act → World → Prop} {S : World → Prop} {w : World} (hs : Region.noSelect ops = true) (hQ : ∀ c a a' w, Q (.panic c) a' w → Q (.panic c) a w) (hS : S w) :
    ∀ (l : List Nat) (fuel : Nat) (listed : Array Bool) (a : Act) {a' : Act}, l.length ≤ fuel → finH md ops l listed a = some a' → Q .normal a' w → wpAnyH P md ops Q S fuel listed a w
  | [], fuel, listed, a, a', _, h, k => by
    unfold finH at h
    split at h
    · rename_i hr
      injection h with h; subst h
      exact wpAnyH_done hr k fuel
    · cases h
  | i :: l, 0, listed, a, a', hf, h, k => by simp at hf
  | i :: l, fuel + 1, listed, a, a', hf, h, k => by
    unfold finH at h
    split at h
    · cases h
    · rename_i o ho
      split at h
      · rename_i hc
        split at h
        · rename_i v hv
          exact wpAnyH_take ho hs hc.1 hc.2 (fun c a w => hQ c _ _ w) (valH_yields hv) hS (wpAnyH_fin hs hQ hS l fuel _ _ (by simpa using hf) h k)
        · cases h
      · cases h
theorem wpAnyH_finS {P : Program} {md : Region.Mode} {ops : Array Oper} {Q : Exit → Act → World → Prop} {S : World → Prop} {w : World} {fuel : Nat} {listed : Array Bool} {a : Act} (l : List Nat) (ps : List (Nat × Value)) (hs : Region.noSelect ops = true) (hQ : ∀ c a a' w, Q (.panic c) a' w → Q (.panic c) a w) (hS : S w) (hf : l.length ≤ fuel)
    (h : finH md ops l listed a = some (ps.foldl (fun a p => a.put (some p.1) p.2) a)) (k : Q .normal (ps.foldl (fun a p => a.put (some p.1) p.2) a) w) : wpAnyH P md ops Q S fuel listed a w := wpAnyH_fin hs hQ hS l fuel listed a hf h k
end Go.Proofs.YtfhknkppiidnkaaGreat
