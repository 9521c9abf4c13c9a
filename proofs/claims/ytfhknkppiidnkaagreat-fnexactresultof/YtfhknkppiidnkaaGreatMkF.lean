/- Tasks: what the laws make of them, and whether they are alike. Jobs and markets: what the laws make of them, how much they hold, and whether they are alike. Slices of jobs: made anew, counted. Markets: counted, made anew, held against one another. Markets made anew, and held against one another. -/
import Derived.Test.YtfhknkppiidnkaaGreatMkA
import Derived.Test.YtfhknkppiidnkaaGreatSlB
import Derived.Test.YtfhknkppiidnkaaGreatMaJ
namespace Go.Proofs.YtfhknkppiidnkaaGreat
open Go.RowKit Go.ChangeShapes Go.WideShapes

set_option maxHeartbeats 2000000 in
theorem toTask_any (t : M.Tk) (w : World) : Calls Tryz.prog 128 #[tkv t] w fun e w' => e = .returned (tkv t) ∧ Below w.heap.size w w' := by
  obtain ⟨d, x, y⟩ := t
  dsimp only [tkv]
  go_enter Tryz.func128, Tryz.ntmps128
  go_wp2
  refine bodyPost_ret (v := .agg #[.bool d, .int .i64 x, .int .i64 y]) (by simp [results, Tryz.results128, go_sem]) rfl ⟨rfl, ?_⟩
  exact (((Below.refl _ _).alloc (Nat.le_refl _) _).alloc (by simp) _).alloc (by simp; omega) _
theorem eqTask_same (t : M.Tk) (w : World) : Calls Tryz.prog 130 #[tkv t, tkv t] w fun e w' => e = .returned (.bool true) ∧ Below w.heap.size w w' := by
  obtain ⟨d, x, y⟩ := t
  dsimp only [tkv]
  have n0 : (d != d) = false := by simp
  have n1 : (x != x) = false := by simp
  have n2 : (y != y) = false := by simp
  go_enter Tryz.func130, Tryz.ntmps130
  go_wp2
  go_ret
  exact ⟨rfl, ((Below.refl _ _).alloc (Nat.le_refl _) _).alloc (by simp) _⟩
theorem three_vals (t : M.Tk) : ∀ u ∈ tvs t, u.oneCell' = true := by
  intro u hu
  simp [tvs] at hu
  rcases hu with rfl | rfl | rfl <;> rfl
theorem info_task : (Tryz.prog.info? 74).map (fun i => (i.zero, i.size, i.bytes)) = some (some (.agg #[.bool false, .int .i64 0, .int .i64 0]), 3, 24) := by kernel_rfl
set_option maxHeartbeats 4000000 in
set_option maxRecDepth 100000 in
theorem toTaskS_any {a : Option Addr} {n c : Nat} {cs : List M.Tk} (w : World) (hz : SeesT w a n c cs) (hb : n ≤ 1048576) :
    Calls Tryz.prog 97 #[.slice a n c] w fun e w' => ∃ a', e = .returned (.slice a' n n) ∧ SeesT w' a' n n cs ∧ (∀ x, a' = some x → w.heap.size ≤ x.block) ∧ Below w.heap.size w w' := by
  have HZ : Hid (SeesT w a n c cs) := hz
  have hcI : (n : Int) ≤ c := by have := hz.le; omega
  have hcl : cs.length = n := hz.len
  clear hz
  obtain ⟨i0, hi, hz0, hz1, hz2⟩ := info_parts info_task
  go_enter Tryz.func97, Tryz.ntmps97
  go_wp2_with (at_make; refine wpList_make_full _ rfl _ _ 42 rfl w.heap.size 74 i0 (.agg #[.bool false, .int .i64 0, .int .i64 0]) 3 Tryz.underlying42 hi hz0 hz1 .i64 .i64 _ _ n rfl rfl rfl rfl (by rw [hz2]; omega) (by unfold maxLen; omega) (Nat.le_refl _) ?_)
  intro w1 hown hg
  have HL : Hid (Lies w1 w.heap.size ((List.replicate n M.t0).flatMap tvs)) := by
    have h0 := owns_all hown
    rwa [flat_made M.t0 tvs_len #[.bool false, .int .i64 0, .int .i64 0] rfl] at h0
  have HB : Hid (Below w.heap.size w w1) := below_grown hg
  have HRD : Hid (cs.take 0 ++ (List.replicate n M.t0).drop 0 = List.replicate n M.t0) := by show _ = _; simp
  clear hown hg hi hz0 hz1 hz2
  go_wp2
  go_loopw [4] (fun i wr => ∃ j : Nat, j ≤ n ∧ i = .int .i64 j ∧ Lies wr w.heap.size ((cs.take j ++ (List.replicate n M.t0).drop j).flatMap tvs) ∧ Below w.heap.size w wr) (fun i _ => n - (intOf i).toNat)
  case atStart => exact ⟨0, by omega, rfl, by rw [HRD.out]; exact HL.out, HB.out⟩
  case round =>
    obtain ⟨j, hj, rfl, hl1, hb1⟩ := hrel
    have HL1 : Hid (Lies wr w.heap.size ((cs.take j ++ (List.replicate n M.t0).drop j).flatMap tvs)) := hl1
    have HB1 : Hid (Below w.heap.size w wr) := hb1
    clear hl1 hb1 HL HB HRD
    by_cases hlt : j < n
    · obtain ⟨b1, o1, rfl, hc1⟩ := (HZ.out.below HB1.out).at (by omega)
      have hA := hc1 j hlt
      have hI : (j : Int) < (n : Int) := by omega
      have C1 := toTask_any (cs.getD j M.t0)
      have HNX : Hid (spl ((cs.take j ++ (List.replicate n M.t0).drop j).flatMap tvs) (j * 3) (tvs (cs.getD j M.t0)) = (cs.take (j + 1) ++ (List.replicate n M.t0).drop (j + 1)).flatMap tvs) := by
        show _ = _
        rw [flat_set tvs_len _ _ (by rw [List.length_append, List.length_take, List.length_drop, List.length_replicate]; omega)]
        congr 1
        rw [List.set_append_right _ _ (by rw [List.length_take]; omega), List.length_take, show j - min j cs.length = 0 by omega, List.drop_eq_getElem_cons (by simpa using hlt), List.set_cons_zero, List.take_succ_eq_append_getElem (by omega), List.append_assoc]
        rw [show cs.getD j M.t0 = cs[j] by rw [List.getD_eq_getElem?_getD, List.getElem?_eq_getElem (by omega)]; rfl]
        rfl
      have HLN : Hid (((cs.take j ++ (List.replicate n M.t0).drop j).flatMap tvs).length = n * 3) := by
        show _ = _
        rw [flat_len tvs_len, List.length_append, List.length_take, List.length_drop, List.length_replicate, hcl, show min j n + (n - j) = n by omega]
      generalize cs.getD j M.t0 = cq at hA C1 HNX
      have HL2 := HL1.out
      generalize (cs.take j ++ (List.replicate n M.t0).drop j).flatMap tvs = P0 at HL2 HNX HLN
      clear HL1
      obtain ⟨d, x, y⟩ := cq
      dsimp only [tkv] at C1
      have a0 : wr.cell? ⟨b1, o1 + j * 3, none⟩ = some (.bool d) := hA 0 (by omega)
      have a1 : wr.cell? ⟨b1, o1 + j * 3 + 1, none⟩ = some (.int .i64 x) := hA 1 (by omega)
      have a2 : wr.cell? ⟨b1, o1 + j * 3 + 2, none⟩ = some (.int .i64 y) := hA 2 (by omega)
      clear hc1 hA
      go_wp2_with fail
      refine (C1 _).mono ?_
      rintro e w2 ⟨rfl, hb2⟩
      have LP : Hid (Lies w2 w.heap.size P0) := HL2.belowS hb2
      have HB2 : Hid (Below w.heap.size w w2) := HB1.out.trans (hb2.mono HB1.out.size)
      have tA : w2.there w.heap.size (j * 3) (tvs (⟨d, x, y⟩ : M.Tk)).toArray.size := LP.out.there _ 3 (by rw [HLN.out]; omega)
      have iA : (Tryz.prog.info? 74).map (·.size) = some (tvs (⟨d, x, y⟩ : M.Tk)).toArray.size := (show (Tryz.prog.info? 74).map (·.size) = some 3 by kernel_rfl)
      have oA : (tvs (⟨d, x, y⟩ : M.Tk)).toArray.all (·.oneCell') = true := all_oneCell_toArray (three_vals _)
      clear hb2 HL2 C1 a0 a1 a2
      go_wp2_with (with_reducible refine wpList_stopn ?_ ?_; rfl)
      show wpList _ _ _ _ _ _
      with_reducible refine wpList_store_mid ?_ 74 (.tmp 21) (.tmp 20) ?_ w.heap.size (j * 3) (tvs (⟨d, x, y⟩ : M.Tk)).toArray ?_ ?_ tA iA oA ?_
      exact rfl
      exact rfl
      exact rfl
      exact rfl
      have LP3 : Hid (Lies (w2.setCells w.heap.size (j * 3) (tvs ⟨d, x, y⟩)) w.heap.size ((cs.take (j + 1) ++ (List.replicate n M.t0).drop (j + 1)).flatMap tvs)) := by
        have := LP.out.setCells (tvs ⟨d, x, y⟩) (j * 3) (by rw [HLN.out]; simp [tvs]; omega)
        rwa [HNX.out] at this
      have HB3 : Hid (Below w.heap.size w (w2.setCells w.heap.size (j * 3) (tvs ⟨d, x, y⟩))) := below_setCells _ _ HB2.out (Nat.le_refl _)
      show wpList _ _ _ _ _ (w2.setCells w.heap.size (j * 3) (tvs ⟨d, x, y⟩))
      clear tA iA oA LP HB2
      generalize w2.setCells w.heap.size (j * 3) (tvs ⟨d, x, y⟩) = w3 at *
      go_wp2
      go_roundw
      case rel => exact ⟨j + 1, by omega, by go_num, LP3.out, HB3.out⟩
      case measure => simp [intOf]; omega
    · have hjn : j = n := by omega
      subst hjn
      go_wp2
      go_ret
      refine ⟨_, rfl, ?_, fun x hx => by injection hx with hx; rw [← hx]; exact Nat.le_refl _, HB1.out⟩
      have := HL1.out
      rw [List.drop_of_length_le (by simp), List.append_nil, List.take_of_length_le (by omega)] at this
      exact this.seesT hcl hb
theorem szTaskS_any (a : Option Addr) (n c : Nat) (k : Int) (w : World) (hn : (n : Int) ≤ 9223372036854775807) (h0 : 0 ≤ k) (hk : k ≤ 9223372036854775807) :
    Calls Tryz.prog 94 #[.slice a n c, .int .i64 k] w fun e w' => e = .returned (.int .i64 (if k - (n : Int) < 0 then -1 else k - n)) ∧ w' = w := by
  by_cases h : k - (n : Int) < 0
  · rw [if_pos h]
    go_enter Tryz.func94, Tryz.ntmps94
    go_wp2
    go_ret
    exact ⟨rfl, rfl⟩
  · rw [if_neg h]
    go_enter Tryz.func94, Tryz.ntmps94
    go_wp2
    go_ret
    exact ⟨rfl, rfl⟩
set_option maxHeartbeats 2000000 in
theorem eqT_same {a b : Option Addr} {n c d : Nat} {cs : List M.Tk} (w : World) (hz : SeesT w a n c cs) (hy : SeesT w b n d cs) :
    Calls Tryz.prog 99 #[.slice a n c, .slice b n d] w fun e w' => e = .returned (.bool true) ∧ Below w.heap.size w w' := by
  have HZ : Hid (SeesT w a n c cs) := hz
  have HY : Hid (SeesT w b n d cs) := hy
  have hnb : (n : Int) ≤ 9223372036854775807 := by have := hz.big; have := hz.le; omega
  have hcI : (n : Int) ≤ c := by have := hz.le; omega
  have hdI : (n : Int) ≤ d := by have := hy.le; omega
  clear hz hy
  have n1 : ((n : Int) != (n : Int)) = false := by simp
  go_enter Tryz.func99, Tryz.ntmps99
  go_wp2
  go_loopw [5] (fun i wr => ∃ j : Nat, j ≤ n ∧ i = .int .i64 j ∧ Below w.heap.size w wr) (fun i _ => n - (intOf i).toNat)
  case atStart => exact ⟨0, by omega, rfl, Below.refl _ _⟩
  case round =>
    obtain ⟨j, hj, rfl, hb1⟩ := hrel
    have HB1 : Hid (Below w.heap.size w wr) := hb1
    clear hb1
    by_cases hlt : j < n
    · obtain ⟨b1, o1, rfl, hc1⟩ := (HZ.out.below HB1.out).at (by omega)
      obtain ⟨b2, o2, rfl, hc2⟩ := (HY.out.below HB1.out).at (by omega)
      have p0 : wr.cell? ⟨b1, o1 + j * 3, none⟩ = some (.bool (cs.getD j M.t0).done) := hc1 j hlt 0 (by omega)
      have p1 : wr.cell? ⟨b1, o1 + j * 3 + 1, none⟩ = some (.int .i64 (cs.getD j M.t0).worker) := hc1 j hlt 1 (by omega)
      have p2 : wr.cell? ⟨b1, o1 + j * 3 + 2, none⟩ = some (.int .i64 (cs.getD j M.t0).due) := hc1 j hlt 2 (by omega)
      have q0 : wr.cell? ⟨b2, o2 + j * 3, none⟩ = some (.bool (cs.getD j M.t0).done) := hc2 j hlt 0 (by omega)
      have q1 : wr.cell? ⟨b2, o2 + j * 3 + 1, none⟩ = some (.int .i64 (cs.getD j M.t0).worker) := hc2 j hlt 1 (by omega)
      have q2 : wr.cell? ⟨b2, o2 + j * 3 + 2, none⟩ = some (.int .i64 (cs.getD j M.t0).due) := hc2 j hlt 2 (by omega)
      have hI : (j : Int) < (n : Int) := by omega
      have CE := eqTask_same (cs.getD j M.t0)
      generalize cs.getD j M.t0 = c0 at p0 p1 p2 q0 q1 q2 CE
      obtain ⟨z, x, y⟩ := c0
      dsimp only [tkv] at p0 p1 p2 q0 q1 q2 CE
      clear hc1 hc2
      go_wp2
      go_region_with (go_at_call 130; refine (CE _).mono ?_; rintro e w2 ⟨rfl, hb2⟩)
      all_goals
        have HB2 : Hid (Below w.heap.size w w2) := HB1.out.trans (((Below.refl _ _).drew.trans hb2).mono HB1.out.size)
        clear hb2
        go_wp2
        go_roundw
        case rel => exact ⟨j + 1, by omega, by go_num, HB2.out⟩
        case measure => simp [intOf]; omega
    · have hjn : j = n := by omega
      subst hjn
      go_wp2
      go_ret
      exact ⟨rfl, HB1.out⟩
end Go.Proofs.YtfhknkppiidnkaaGreat
namespace Go.Proofs.YtfhknkppiidnkaaGreat
open Go.RowKit Go.ChangeShapes Go.WideShapes

theorem cell_setCells : ∀ (us : List Value) (W : World) (b o : Nat) (p : Addr), p.block ≠ b → (W.setCells b o us).cell? p = W.cell? p
  | [], _, _, _, _, _ => rfl
  | u :: us, W, b, o, p, h => (cell_setCells us _ b (o + 1) p h).trans (World.cell?_setCell_other (w := W) (a := ⟨b, o, none⟩) (b := p) (v := u) (h := by intro e; rw [← e] at h; exact h rfl))
theorem SeesT.kept {w w' : World} {a : Option Addr} {n c : Nat} {ts : List M.Tk} (h : SeesT w a n c ts) (hc : ∀ x i, a = some x → w'.cell? ⟨x.block, i, none⟩ = w.cell? ⟨x.block, i, none⟩) : SeesT w' a n c ts := by
  refine ⟨h.len, h.le, h.big, h.no, ?_⟩
  rcases h.pos with e | ⟨b, o, e, hp⟩
  · exact .inl e
  · exact .inr ⟨b, o, e, fun i hi j hj => (hc _ _ e).trans (hp i hi j hj)⟩
theorem SeesT.setCs {w : World} {a : Option Addr} {n c b : Nat} {ts : List M.Tk} (h : SeesT w a n c ts) (hne : ∀ x, a = some x → x.block = b → False) (o : Nat) (us : List Value) : SeesT (w.setCells b o us) a n c ts :=
  h.kept fun x _ hx => cell_setCells _ _ _ _ _ fun e => hne x hx e
theorem SeesT.setC {w : World} {a : Option Addr} {n c b : Nat} {ts : List M.Tk} (h : SeesT w a n c ts) (hne : ∀ x, a = some x → x.block = b → False) (o : Nat) (u : Value) : SeesT (w.setCell ⟨b, o, none⟩ u) a n c ts :=
  h.setCs hne o [u]
theorem szJob_any {ta : Option Addr} {tn tc : Nat} (jid a b c d f k a' b' c' d' f' k' s1 s2 jr : Int) (jg : Bool) (n : Int) (w : World) (hn : (tn : Int) ≤ 9223372036854775807) (h0 : 0 ≤ n) (hk : n ≤ 9223372036854775807) :
    Calls Tryz.prog 65 #[.agg #[.int .i64 jid, .int .i64 a, .int .i64 b, .int .i64 c, .int .i64 d, .int .i64 f, .int .i64 k, .int .i64 a', .int .i64 b', .int .i64 c', .int .i64 d', .int .i64 f', .int .i64 k', .int .i64 s1, .int .i64 s2, .int .i64 jr, .bool jg, .slice ta tn tc], .int .i64 n] w fun e w' => e = .returned (.int .i64 (if n - (tn : Int) < 0 then -1 else n - tn)) ∧ Below w.heap.size w w' := by
  have HB : Hid (Below w.heap.size w (w.alloc (.cells #[.int .i64 jid, .int .i64 a, .int .i64 b, .int .i64 c, .int .i64 d, .int .i64 f, .int .i64 k, .int .i64 a', .int .i64 b', .int .i64 c', .int .i64 d', .int .i64 f', .int .i64 k', .int .i64 s1, .int .i64 s2, .int .i64 jr, .bool jg, .slice ta tn tc] 137))) := (Below.refl _ _).alloc (Nat.le_refl _) _
  go_enter Tryz.func65, Tryz.ntmps65
  go_wp2_with fail
  refine (szTaskS_any _ _ _ _ _ hn h0 hk).mono ?_
  rintro e wz ⟨rfl, rfl⟩
  by_cases h : n - (tn : Int) < 0
  · rw [if_pos h]
    go_wp2
    go_ret
    exact ⟨rfl, HB.out⟩
  · rw [if_neg h]
    go_wp2
    go_ret
    exact ⟨rfl, HB.out⟩
set_option maxHeartbeats 8000000 in
set_option maxRecDepth 10000 in
theorem toJob_any {ta : Option Addr} {tn tc : Nat} {tl : List M.Tk} (jid a b c d f k a' b' c' d' f' k' s1 s2 jr : Int) (jg : Bool) (w : World) (hz : SeesT w ta tn tc tl) (hn : tn ≤ 1048576) :
    Calls Tryz.prog 66 #[.agg #[.int .i64 jid, .int .i64 a, .int .i64 b, .int .i64 c, .int .i64 d, .int .i64 f, .int .i64 k, .int .i64 a', .int .i64 b', .int .i64 c', .int .i64 d', .int .i64 f', .int .i64 k', .int .i64 s1, .int .i64 s2, .int .i64 jr, .bool jg, .slice ta tn tc]] w fun e w' => ∃ ta', e = .returned (.agg #[.int .i64 jid, .int .i64 a, .int .i64 b, .int .i64 c, .int .i64 d, .int .i64 f, .int .i64 k, .int .i64 a', .int .i64 b', .int .i64 c', .int .i64 d', .int .i64 f', .int .i64 k', .int .i64 s1, .int .i64 s2, .int .i64 jr, .bool jg, .slice ta' tn tn]) ∧ SeesT w' ta' tn tn tl ∧ (∀ x, ta' = some x → w.heap.size ≤ x.block) ∧ Below w.heap.size w w' := by
  have HZ : Hid (SeesT w ta tn tc tl) := hz
  have C1 := toMachine_any ⟨⟨a, b, c, d, f, k⟩, ⟨a', b', c', d', f', k'⟩⟩
  have C2 := toState_any (s1, s2)
  dsimp only [mcv, stv] at C1 C2
  clear hz
  have HA_0 : Hid (Lies (((w.alloc (.cells #[.int .i64 jid, .int .i64 a, .int .i64 b, .int .i64 c, .int .i64 d, .int .i64 f, .int .i64 k, .int .i64 a', .int .i64 b', .int .i64 c', .int .i64 d', .int .i64 f', .int .i64 k', .int .i64 s1, .int .i64 s2, .int .i64 jr, .bool jg, .slice ta tn tc] 137)).alloc (.cells #[.int .i64 0, .int .i64 0, .int .i64 0, .int .i64 0, .int .i64 0, .int .i64 0, .int .i64 0, .int .i64 0, .int .i64 0, .int .i64 0, .int .i64 0, .int .i64 0, .int .i64 0, .int .i64 0, .int .i64 0, .int .i64 0, .bool false, .slice none 0 0] 44)).alloc (.cells #[.int .i64 jid, .int .i64 0, .int .i64 0, .int .i64 0, .int .i64 0, .int .i64 0, .int .i64 0, .int .i64 0, .int .i64 0, .int .i64 0, .int .i64 0, .int .i64 0, .int .i64 0, .int .i64 0, .int .i64 0, .int .i64 0, .bool false, .slice none 0 0] 44)) w.heap.size [.int .i64 jid, .int .i64 a, .int .i64 b, .int .i64 c, .int .i64 d, .int .i64 f, .int .i64 k, .int .i64 a', .int .i64 b', .int .i64 c', .int .i64 d', .int .i64 f', .int .i64 k', .int .i64 s1, .int .i64 s2, .int .i64 jr, .bool jg, .slice ta tn tc]) := ((lies_new _ _ _).alloc _).alloc _
  have HR_0 : Hid (Lies (((w.alloc (.cells #[.int .i64 jid, .int .i64 a, .int .i64 b, .int .i64 c, .int .i64 d, .int .i64 f, .int .i64 k, .int .i64 a', .int .i64 b', .int .i64 c', .int .i64 d', .int .i64 f', .int .i64 k', .int .i64 s1, .int .i64 s2, .int .i64 jr, .bool jg, .slice ta tn tc] 137)).alloc (.cells #[.int .i64 0, .int .i64 0, .int .i64 0, .int .i64 0, .int .i64 0, .int .i64 0, .int .i64 0, .int .i64 0, .int .i64 0, .int .i64 0, .int .i64 0, .int .i64 0, .int .i64 0, .int .i64 0, .int .i64 0, .int .i64 0, .bool false, .slice none 0 0] 44)).alloc (.cells #[.int .i64 jid, .int .i64 0, .int .i64 0, .int .i64 0, .int .i64 0, .int .i64 0, .int .i64 0, .int .i64 0, .int .i64 0, .int .i64 0, .int .i64 0, .int .i64 0, .int .i64 0, .int .i64 0, .int .i64 0, .int .i64 0, .bool false, .slice none 0 0] 44)) (w.heap.size + 1) [.int .i64 0, .int .i64 0, .int .i64 0, .int .i64 0, .int .i64 0, .int .i64 0, .int .i64 0, .int .i64 0, .int .i64 0, .int .i64 0, .int .i64 0, .int .i64 0, .int .i64 0, .int .i64 0, .int .i64 0, .int .i64 0, .bool false, .slice none 0 0]) := (lies_new2 _ _ _ _).alloc _
  have HO_0 : Hid (Lies (((w.alloc (.cells #[.int .i64 jid, .int .i64 a, .int .i64 b, .int .i64 c, .int .i64 d, .int .i64 f, .int .i64 k, .int .i64 a', .int .i64 b', .int .i64 c', .int .i64 d', .int .i64 f', .int .i64 k', .int .i64 s1, .int .i64 s2, .int .i64 jr, .bool jg, .slice ta tn tc] 137)).alloc (.cells #[.int .i64 0, .int .i64 0, .int .i64 0, .int .i64 0, .int .i64 0, .int .i64 0, .int .i64 0, .int .i64 0, .int .i64 0, .int .i64 0, .int .i64 0, .int .i64 0, .int .i64 0, .int .i64 0, .int .i64 0, .int .i64 0, .bool false, .slice none 0 0] 44)).alloc (.cells #[.int .i64 jid, .int .i64 0, .int .i64 0, .int .i64 0, .int .i64 0, .int .i64 0, .int .i64 0, .int .i64 0, .int .i64 0, .int .i64 0, .int .i64 0, .int .i64 0, .int .i64 0, .int .i64 0, .int .i64 0, .int .i64 0, .bool false, .slice none 0 0] 44)) (w.heap.size + 1 + 1) [.int .i64 jid, .int .i64 0, .int .i64 0, .int .i64 0, .int .i64 0, .int .i64 0, .int .i64 0, .int .i64 0, .int .i64 0, .int .i64 0, .int .i64 0, .int .i64 0, .int .i64 0, .int .i64 0, .int .i64 0, .int .i64 0, .bool false, .slice none 0 0]) := lies_new3 _ _ _ _ _
  have HB_0 : Hid (Below w.heap.size w (((w.alloc (.cells #[.int .i64 jid, .int .i64 a, .int .i64 b, .int .i64 c, .int .i64 d, .int .i64 f, .int .i64 k, .int .i64 a', .int .i64 b', .int .i64 c', .int .i64 d', .int .i64 f', .int .i64 k', .int .i64 s1, .int .i64 s2, .int .i64 jr, .bool jg, .slice ta tn tc] 137)).alloc (.cells #[.int .i64 0, .int .i64 0, .int .i64 0, .int .i64 0, .int .i64 0, .int .i64 0, .int .i64 0, .int .i64 0, .int .i64 0, .int .i64 0, .int .i64 0, .int .i64 0, .int .i64 0, .int .i64 0, .int .i64 0, .int .i64 0, .bool false, .slice none 0 0] 44)).alloc (.cells #[.int .i64 jid, .int .i64 0, .int .i64 0, .int .i64 0, .int .i64 0, .int .i64 0, .int .i64 0, .int .i64 0, .int .i64 0, .int .i64 0, .int .i64 0, .int .i64 0, .int .i64 0, .int .i64 0, .int .i64 0, .int .i64 0, .bool false, .slice none 0 0] 44))) := (((Below.refl _ _).alloc (Nat.le_refl _) _).alloc (by simp) _).alloc (by simp; omega) _
  go_enter Tryz.func66, Tryz.ntmps66
  go_wp2_with fail
  generalize (((w.alloc (.cells #[.int .i64 jid, .int .i64 a, .int .i64 b, .int .i64 c, .int .i64 d, .int .i64 f, .int .i64 k, .int .i64 a', .int .i64 b', .int .i64 c', .int .i64 d', .int .i64 f', .int .i64 k', .int .i64 s1, .int .i64 s2, .int .i64 jr, .bool jg, .slice ta tn tc] 137)).alloc (.cells #[.int .i64 0, .int .i64 0, .int .i64 0, .int .i64 0, .int .i64 0, .int .i64 0, .int .i64 0, .int .i64 0, .int .i64 0, .int .i64 0, .int .i64 0, .int .i64 0, .int .i64 0, .int .i64 0, .int .i64 0, .int .i64 0, .bool false, .slice none 0 0] 44)).alloc (.cells #[.int .i64 jid, .int .i64 0, .int .i64 0, .int .i64 0, .int .i64 0, .int .i64 0, .int .i64 0, .int .i64 0, .int .i64 0, .int .i64 0, .int .i64 0, .int .i64 0, .int .i64 0, .int .i64 0, .int .i64 0, .int .i64 0, .bool false, .slice none 0 0] 44)) = wa at HA_0 HR_0 HO_0 HB_0  ⊢
  refine (C1 _).mono ?_
  rintro e wb ⟨rfl, hb⟩
  have HA_1 : Hid (Lies wb w.heap.size [.int .i64 jid, .int .i64 a, .int .i64 b, .int .i64 c, .int .i64 d, .int .i64 f, .int .i64 k, .int .i64 a', .int .i64 b', .int .i64 c', .int .i64 d', .int .i64 f', .int .i64 k', .int .i64 s1, .int .i64 s2, .int .i64 jr, .bool jg, .slice ta tn tc]) := HA_0.out.belowS hb
  have HR_1 : Hid (Lies wb (w.heap.size + 1) [.int .i64 0, .int .i64 0, .int .i64 0, .int .i64 0, .int .i64 0, .int .i64 0, .int .i64 0, .int .i64 0, .int .i64 0, .int .i64 0, .int .i64 0, .int .i64 0, .int .i64 0, .int .i64 0, .int .i64 0, .int .i64 0, .bool false, .slice none 0 0]) := HR_0.out.belowS hb
  have HO_1 : Hid (Lies wb (w.heap.size + 1 + 1) [.int .i64 jid, .int .i64 0, .int .i64 0, .int .i64 0, .int .i64 0, .int .i64 0, .int .i64 0, .int .i64 0, .int .i64 0, .int .i64 0, .int .i64 0, .int .i64 0, .int .i64 0, .int .i64 0, .int .i64 0, .int .i64 0, .bool false, .slice none 0 0]) := HO_0.out.belowS hb
  have HB_1 : Hid (Below w.heap.size w wb) := HB_0.out.trans (hb.mono HB_0.out.size)
  clear HA_0 HR_0 HO_0 HB_0
  clear hb
  go_wp2_with (with_reducible refine wpList_stopn ?_ ?_; rfl)
  show wpList _ _ _ _ _ _
  have tA : wb.there (w.heap.size + 1 + 1) 1 ([.int .i64 a, .int .i64 b, .int .i64 c, .int .i64 d, .int .i64 f, .int .i64 k, .int .i64 a', .int .i64 b', .int .i64 c', .int .i64 d', .int .i64 f', .int .i64 k'] : List Value).toArray.size := HO_1.out.there _ 12 (by simp)
  have iA : (Tryz.prog.info? 41).map (·.size) = some ([.int .i64 a, .int .i64 b, .int .i64 c, .int .i64 d, .int .i64 f, .int .i64 k, .int .i64 a', .int .i64 b', .int .i64 c', .int .i64 d', .int .i64 f', .int .i64 k'] : List Value).toArray.size := (show (Tryz.prog.info? 41).map (·.size) = some 12 by kernel_rfl)
  with_reducible refine wpList_store_mid ?qg 41 ?qx1 ?qy1 ?qo (w.heap.size + 1 + 1) 1 ([.int .i64 a, .int .i64 b, .int .i64 c, .int .i64 d, .int .i64 f, .int .i64 k, .int .i64 a', .int .i64 b', .int .i64 c', .int .i64 d', .int .i64 f', .int .i64 k'] : List Value).toArray ?qhx ?qhy tA iA (by kernel_rfl) ?qr
  case qg => exact rfl
  case qo => exact rfl
  case qhx => exact rfl
  case qhy => exact rfl
  case qr =>
    show wpList _ _ _ _ _ (wb.setCells (w.heap.size + 1 + 1) 1 [.int .i64 a, .int .i64 b, .int .i64 c, .int .i64 d, .int .i64 f, .int .i64 k, .int .i64 a', .int .i64 b', .int .i64 c', .int .i64 d', .int .i64 f', .int .i64 k'])
    clear tA iA
    have HA_2 : Hid (Lies (wb.setCells (w.heap.size + 1 + 1) 1 [.int .i64 a, .int .i64 b, .int .i64 c, .int .i64 d, .int .i64 f, .int .i64 k, .int .i64 a', .int .i64 b', .int .i64 c', .int .i64 d', .int .i64 f', .int .i64 k']) w.heap.size [.int .i64 jid, .int .i64 a, .int .i64 b, .int .i64 c, .int .i64 d, .int .i64 f, .int .i64 k, .int .i64 a', .int .i64 b', .int .i64 c', .int .i64 d', .int .i64 f', .int .i64 k', .int .i64 s1, .int .i64 s2, .int .i64 jr, .bool jg, .slice ta tn tc]) := HA_1.out.farCells _ _ (by omega)
    have HR_2 : Hid (Lies (wb.setCells (w.heap.size + 1 + 1) 1 [.int .i64 a, .int .i64 b, .int .i64 c, .int .i64 d, .int .i64 f, .int .i64 k, .int .i64 a', .int .i64 b', .int .i64 c', .int .i64 d', .int .i64 f', .int .i64 k']) (w.heap.size + 1) [.int .i64 0, .int .i64 0, .int .i64 0, .int .i64 0, .int .i64 0, .int .i64 0, .int .i64 0, .int .i64 0, .int .i64 0, .int .i64 0, .int .i64 0, .int .i64 0, .int .i64 0, .int .i64 0, .int .i64 0, .int .i64 0, .bool false, .slice none 0 0]) := HR_1.out.farCells _ _ (by omega)
    have HO_2 : Hid (Lies (wb.setCells (w.heap.size + 1 + 1) 1 [.int .i64 a, .int .i64 b, .int .i64 c, .int .i64 d, .int .i64 f, .int .i64 k, .int .i64 a', .int .i64 b', .int .i64 c', .int .i64 d', .int .i64 f', .int .i64 k']) (w.heap.size + 1 + 1) [.int .i64 jid, .int .i64 a, .int .i64 b, .int .i64 c, .int .i64 d, .int .i64 f, .int .i64 k, .int .i64 a', .int .i64 b', .int .i64 c', .int .i64 d', .int .i64 f', .int .i64 k', .int .i64 0, .int .i64 0, .int .i64 0, .bool false, .slice none 0 0]) := HO_1.out.setCells [.int .i64 a, .int .i64 b, .int .i64 c, .int .i64 d, .int .i64 f, .int .i64 k, .int .i64 a', .int .i64 b', .int .i64 c', .int .i64 d', .int .i64 f', .int .i64 k'] 1 (by simp)
    have HB_2 : Hid (Below w.heap.size w (wb.setCells (w.heap.size + 1 + 1) 1 [.int .i64 a, .int .i64 b, .int .i64 c, .int .i64 d, .int .i64 f, .int .i64 k, .int .i64 a', .int .i64 b', .int .i64 c', .int .i64 d', .int .i64 f', .int .i64 k'])) := below_setCells _ _ HB_1.out (by omega)
    clear HA_1 HR_1 HO_1 HB_1
    generalize (wb.setCells (w.heap.size + 1 + 1) 1 [.int .i64 a, .int .i64 b, .int .i64 c, .int .i64 d, .int .i64 f, .int .i64 k, .int .i64 a', .int .i64 b', .int .i64 c', .int .i64 d', .int .i64 f', .int .i64 k']) = wc at HA_2 HR_2 HO_2 HB_2  ⊢
    have y13 : wc.cell? ⟨w.heap.size, 13, none⟩ = some (.int .i64 s1) := HA_2.out.at 13
    have y14 : wc.cell? ⟨w.heap.size, 14, none⟩ = some (.int .i64 s2) := HA_2.out.at 14
    go_wp2_with fail
    clear y13 y14
    refine (C2 _).mono ?_
    rintro e wd ⟨rfl, hb⟩
    have HA_3 : Hid (Lies wd w.heap.size [.int .i64 jid, .int .i64 a, .int .i64 b, .int .i64 c, .int .i64 d, .int .i64 f, .int .i64 k, .int .i64 a', .int .i64 b', .int .i64 c', .int .i64 d', .int .i64 f', .int .i64 k', .int .i64 s1, .int .i64 s2, .int .i64 jr, .bool jg, .slice ta tn tc]) := HA_2.out.belowS hb
    have HR_3 : Hid (Lies wd (w.heap.size + 1) [.int .i64 0, .int .i64 0, .int .i64 0, .int .i64 0, .int .i64 0, .int .i64 0, .int .i64 0, .int .i64 0, .int .i64 0, .int .i64 0, .int .i64 0, .int .i64 0, .int .i64 0, .int .i64 0, .int .i64 0, .int .i64 0, .bool false, .slice none 0 0]) := HR_2.out.belowS hb
    have HO_3 : Hid (Lies wd (w.heap.size + 1 + 1) [.int .i64 jid, .int .i64 a, .int .i64 b, .int .i64 c, .int .i64 d, .int .i64 f, .int .i64 k, .int .i64 a', .int .i64 b', .int .i64 c', .int .i64 d', .int .i64 f', .int .i64 k', .int .i64 0, .int .i64 0, .int .i64 0, .bool false, .slice none 0 0]) := HO_2.out.belowS hb
    have HB_3 : Hid (Below w.heap.size w wd) := HB_2.out.trans (hb.mono HB_2.out.size)
    clear HA_2 HR_2 HO_2 HB_2
    clear hb
    go_wp2_with (with_reducible refine wpList_stopn ?_ ?_; rfl)
    show wpList _ _ _ _ _ _
    have tA : wd.there (w.heap.size + 1 + 1) 13 ([.int .i64 s1, .int .i64 s2] : List Value).toArray.size := HO_3.out.there _ 2 (by simp)
    have iA : (Tryz.prog.info? 31).map (·.size) = some ([.int .i64 s1, .int .i64 s2] : List Value).toArray.size := (show (Tryz.prog.info? 31).map (·.size) = some 2 by kernel_rfl)
    with_reducible refine wpList_store_mid ?qg 31 ?qx3 ?qy3 ?qo (w.heap.size + 1 + 1) 13 ([.int .i64 s1, .int .i64 s2] : List Value).toArray ?qhx ?qhy tA iA (by kernel_rfl) ?qr
    case qg => exact rfl
    case qo => exact rfl
    case qhx => exact rfl
    case qhy => exact rfl
    case qr =>
      show wpList _ _ _ _ _ (wd.setCells (w.heap.size + 1 + 1) 13 [.int .i64 s1, .int .i64 s2])
      clear tA iA
      have HA_4 : Hid (Lies (wd.setCells (w.heap.size + 1 + 1) 13 [.int .i64 s1, .int .i64 s2]) w.heap.size [.int .i64 jid, .int .i64 a, .int .i64 b, .int .i64 c, .int .i64 d, .int .i64 f, .int .i64 k, .int .i64 a', .int .i64 b', .int .i64 c', .int .i64 d', .int .i64 f', .int .i64 k', .int .i64 s1, .int .i64 s2, .int .i64 jr, .bool jg, .slice ta tn tc]) := HA_3.out.farCells _ _ (by omega)
      have HR_4 : Hid (Lies (wd.setCells (w.heap.size + 1 + 1) 13 [.int .i64 s1, .int .i64 s2]) (w.heap.size + 1) [.int .i64 0, .int .i64 0, .int .i64 0, .int .i64 0, .int .i64 0, .int .i64 0, .int .i64 0, .int .i64 0, .int .i64 0, .int .i64 0, .int .i64 0, .int .i64 0, .int .i64 0, .int .i64 0, .int .i64 0, .int .i64 0, .bool false, .slice none 0 0]) := HR_3.out.farCells _ _ (by omega)
      have HO_4 : Hid (Lies (wd.setCells (w.heap.size + 1 + 1) 13 [.int .i64 s1, .int .i64 s2]) (w.heap.size + 1 + 1) [.int .i64 jid, .int .i64 a, .int .i64 b, .int .i64 c, .int .i64 d, .int .i64 f, .int .i64 k, .int .i64 a', .int .i64 b', .int .i64 c', .int .i64 d', .int .i64 f', .int .i64 k', .int .i64 s1, .int .i64 s2, .int .i64 0, .bool false, .slice none 0 0]) := HO_3.out.setCells [.int .i64 s1, .int .i64 s2] 13 (by simp)
      have HB_4 : Hid (Below w.heap.size w (wd.setCells (w.heap.size + 1 + 1) 13 [.int .i64 s1, .int .i64 s2])) := below_setCells _ _ HB_3.out (by omega)
      clear HA_3 HR_3 HO_3 HB_3
      generalize (wd.setCells (w.heap.size + 1 + 1) 13 [.int .i64 s1, .int .i64 s2]) = we at HA_4 HR_4 HO_4 HB_4  ⊢
      have x15 : we.cell? ⟨w.heap.size, 15, none⟩ = some (.int .i64 jr) := HA_4.out.at 15
      have t15 : we.cell? ⟨(w.heap.size + 1 + 1), 15, none⟩ = some (.int .i64 0) := HO_4.out.at 15
      have u15 : we.frozen? ⟨(w.heap.size + 1 + 1), 15, none⟩ = false := HO_4.out.fr 15
      have HA_5 : Hid (Lies (we.setCell ⟨(w.heap.size + 1 + 1), 15, none⟩ (.int .i64 jr)) w.heap.size [.int .i64 jid, .int .i64 a, .int .i64 b, .int .i64 c, .int .i64 d, .int .i64 f, .int .i64 k, .int .i64 a', .int .i64 b', .int .i64 c', .int .i64 d', .int .i64 f', .int .i64 k', .int .i64 s1, .int .i64 s2, .int .i64 jr, .bool jg, .slice ta tn tc]) := HA_4.out.far (by omega) _ _
      have HR_5 : Hid (Lies (we.setCell ⟨(w.heap.size + 1 + 1), 15, none⟩ (.int .i64 jr)) (w.heap.size + 1) [.int .i64 0, .int .i64 0, .int .i64 0, .int .i64 0, .int .i64 0, .int .i64 0, .int .i64 0, .int .i64 0, .int .i64 0, .int .i64 0, .int .i64 0, .int .i64 0, .int .i64 0, .int .i64 0, .int .i64 0, .int .i64 0, .bool false, .slice none 0 0]) := HR_4.out.far (by omega) _ _
      have HO_5 : Hid (Lies (we.setCell ⟨(w.heap.size + 1 + 1), 15, none⟩ (.int .i64 jr)) (w.heap.size + 1 + 1) [.int .i64 jid, .int .i64 a, .int .i64 b, .int .i64 c, .int .i64 d, .int .i64 f, .int .i64 k, .int .i64 a', .int .i64 b', .int .i64 c', .int .i64 d', .int .i64 f', .int .i64 k', .int .i64 s1, .int .i64 s2, .int .i64 jr, .bool false, .slice none 0 0]) := HO_4.out.set 15 (by simp) _
      have HB_5 : Hid (Below w.heap.size w (we.setCell ⟨(w.heap.size + 1 + 1), 15, none⟩ (.int .i64 jr))) := HB_4.out.setCell (by show w.heap.size ≤ (w.heap.size + 1 + 1); omega) _
      clear HA_4 HR_4 HO_4 HB_4
      have x16 : (we.setCell ⟨(w.heap.size + 1 + 1), 15, none⟩ (.int .i64 jr)).cell? ⟨w.heap.size, 16, none⟩ = some (.bool jg) := HA_5.out.at 16
      have t16 : (we.setCell ⟨(w.heap.size + 1 + 1), 15, none⟩ (.int .i64 jr)).cell? ⟨(w.heap.size + 1 + 1), 16, none⟩ = some (.bool false) := HO_5.out.at 16
      have u16 : (we.setCell ⟨(w.heap.size + 1 + 1), 15, none⟩ (.int .i64 jr)).frozen? ⟨(w.heap.size + 1 + 1), 16, none⟩ = false := HO_5.out.fr 16
      have HA_6 : Hid (Lies ((we.setCell ⟨(w.heap.size + 1 + 1), 15, none⟩ (.int .i64 jr)).setCell ⟨(w.heap.size + 1 + 1), 16, none⟩ (.bool jg)) w.heap.size [.int .i64 jid, .int .i64 a, .int .i64 b, .int .i64 c, .int .i64 d, .int .i64 f, .int .i64 k, .int .i64 a', .int .i64 b', .int .i64 c', .int .i64 d', .int .i64 f', .int .i64 k', .int .i64 s1, .int .i64 s2, .int .i64 jr, .bool jg, .slice ta tn tc]) := HA_5.out.far (by omega) _ _
      have HR_6 : Hid (Lies ((we.setCell ⟨(w.heap.size + 1 + 1), 15, none⟩ (.int .i64 jr)).setCell ⟨(w.heap.size + 1 + 1), 16, none⟩ (.bool jg)) (w.heap.size + 1) [.int .i64 0, .int .i64 0, .int .i64 0, .int .i64 0, .int .i64 0, .int .i64 0, .int .i64 0, .int .i64 0, .int .i64 0, .int .i64 0, .int .i64 0, .int .i64 0, .int .i64 0, .int .i64 0, .int .i64 0, .int .i64 0, .bool false, .slice none 0 0]) := HR_5.out.far (by omega) _ _
      have HO_6 : Hid (Lies ((we.setCell ⟨(w.heap.size + 1 + 1), 15, none⟩ (.int .i64 jr)).setCell ⟨(w.heap.size + 1 + 1), 16, none⟩ (.bool jg)) (w.heap.size + 1 + 1) [.int .i64 jid, .int .i64 a, .int .i64 b, .int .i64 c, .int .i64 d, .int .i64 f, .int .i64 k, .int .i64 a', .int .i64 b', .int .i64 c', .int .i64 d', .int .i64 f', .int .i64 k', .int .i64 s1, .int .i64 s2, .int .i64 jr, .bool jg, .slice none 0 0]) := HO_5.out.set 16 (by simp) _
      have HB_6 : Hid (Below w.heap.size w ((we.setCell ⟨(w.heap.size + 1 + 1), 15, none⟩ (.int .i64 jr)).setCell ⟨(w.heap.size + 1 + 1), 16, none⟩ (.bool jg))) := HB_5.out.setCell (by show w.heap.size ≤ (w.heap.size + 1 + 1); omega) _
      clear HA_5 HR_5 HO_5 HB_5
      have y17 : ((we.setCell ⟨(w.heap.size + 1 + 1), 15, none⟩ (.int .i64 jr)).setCell ⟨(w.heap.size + 1 + 1), 16, none⟩ (.bool jg)).cell? ⟨w.heap.size, 17, none⟩ = some (.slice ta tn tc) := HA_6.out.at 17
      go_wp2_with fail
      clear x15 t15 u15 x16 t16 u16 y17
      generalize ((we.setCell ⟨(w.heap.size + 1 + 1), 15, none⟩ (.int .i64 jr)).setCell ⟨(w.heap.size + 1 + 1), 16, none⟩ (.bool jg)) = wf at HA_6 HR_6 HO_6 HB_6  ⊢
      have hO : w.heap.size + 1 + 1 < wf.heap.size := HO_6.out.2.2
      refine (toTaskS_any _ (HZ.out.below HB_6.out) hn).mono ?_
      rintro e wg ⟨ta', rfl, ht, hlo, hb⟩
      have HA_7 : Hid (Lies wg w.heap.size [.int .i64 jid, .int .i64 a, .int .i64 b, .int .i64 c, .int .i64 d, .int .i64 f, .int .i64 k, .int .i64 a', .int .i64 b', .int .i64 c', .int .i64 d', .int .i64 f', .int .i64 k', .int .i64 s1, .int .i64 s2, .int .i64 jr, .bool jg, .slice ta tn tc]) := HA_6.out.belowS hb
      have HR_7 : Hid (Lies wg (w.heap.size + 1) [.int .i64 0, .int .i64 0, .int .i64 0, .int .i64 0, .int .i64 0, .int .i64 0, .int .i64 0, .int .i64 0, .int .i64 0, .int .i64 0, .int .i64 0, .int .i64 0, .int .i64 0, .int .i64 0, .int .i64 0, .int .i64 0, .bool false, .slice none 0 0]) := HR_6.out.belowS hb
      have HO_7 : Hid (Lies wg (w.heap.size + 1 + 1) [.int .i64 jid, .int .i64 a, .int .i64 b, .int .i64 c, .int .i64 d, .int .i64 f, .int .i64 k, .int .i64 a', .int .i64 b', .int .i64 c', .int .i64 d', .int .i64 f', .int .i64 k', .int .i64 s1, .int .i64 s2, .int .i64 jr, .bool jg, .slice none 0 0]) := HO_6.out.belowS hb
      have HB_7 : Hid (Below w.heap.size w wg) := HB_6.out.trans (hb.mono HB_6.out.size)
      clear HA_6 HR_6 HO_6 HB_6
      have HT_7 : Hid (SeesT wg ta' tn tn tl) := ht
      clear hb
      have LHT : Hid (∀ q, ta' = some q → w.heap.size + 1 + 1 < q.block) := fun q hq => Nat.lt_of_lt_of_le hO (hlo q hq)
      clear ht hlo hO
      have t17 : wg.cell? ⟨(w.heap.size + 1 + 1), 17, none⟩ = some (.slice none 0 0) := HO_7.out.at 17
      have u17 : wg.frozen? ⟨(w.heap.size + 1 + 1), 17, none⟩ = false := HO_7.out.fr 17
      have HA_8 : Hid (Lies (wg.setCell ⟨(w.heap.size + 1 + 1), 17, none⟩ (.slice ta' tn tn)) w.heap.size [.int .i64 jid, .int .i64 a, .int .i64 b, .int .i64 c, .int .i64 d, .int .i64 f, .int .i64 k, .int .i64 a', .int .i64 b', .int .i64 c', .int .i64 d', .int .i64 f', .int .i64 k', .int .i64 s1, .int .i64 s2, .int .i64 jr, .bool jg, .slice ta tn tc]) := HA_7.out.far (by omega) _ _
      have HR_8 : Hid (Lies (wg.setCell ⟨(w.heap.size + 1 + 1), 17, none⟩ (.slice ta' tn tn)) (w.heap.size + 1) [.int .i64 0, .int .i64 0, .int .i64 0, .int .i64 0, .int .i64 0, .int .i64 0, .int .i64 0, .int .i64 0, .int .i64 0, .int .i64 0, .int .i64 0, .int .i64 0, .int .i64 0, .int .i64 0, .int .i64 0, .int .i64 0, .bool false, .slice none 0 0]) := HR_7.out.far (by omega) _ _
      have HO_8 : Hid (Lies (wg.setCell ⟨(w.heap.size + 1 + 1), 17, none⟩ (.slice ta' tn tn)) (w.heap.size + 1 + 1) [.int .i64 jid, .int .i64 a, .int .i64 b, .int .i64 c, .int .i64 d, .int .i64 f, .int .i64 k, .int .i64 a', .int .i64 b', .int .i64 c', .int .i64 d', .int .i64 f', .int .i64 k', .int .i64 s1, .int .i64 s2, .int .i64 jr, .bool jg, .slice ta' tn tn]) := HO_7.out.set 17 (by simp) _
      have HB_8 : Hid (Below w.heap.size w (wg.setCell ⟨(w.heap.size + 1 + 1), 17, none⟩ (.slice ta' tn tn))) := HB_7.out.setCell (by show w.heap.size ≤ (w.heap.size + 1 + 1); omega) _
      have HT_8 : Hid (SeesT (wg.setCell ⟨(w.heap.size + 1 + 1), 17, none⟩ (.slice ta' tn tn)) ta' tn tn tl) := HT_7.out.setC (fun q hq e => by have := LHT.out q hq; omega) _ _
      clear HA_7 HR_7 HO_7 HB_7 HT_7
      go_wp2_with (with_reducible refine wpList_stop 25 ?_ ?_; rfl)
      show wpList _ _ _ _ _ _
      clear t17 u17
      generalize (wg.setCell ⟨(w.heap.size + 1 + 1), 17, none⟩ (.slice ta' tn tn)) = wh at HA_8 HR_8 HO_8 HB_8 HT_8  ⊢
      have iL : (Tryz.prog.info? 44).map (·.size) = some ([.int .i64 jid, .int .i64 a, .int .i64 b, .int .i64 c, .int .i64 d, .int .i64 f, .int .i64 k, .int .i64 a', .int .i64 b', .int .i64 c', .int .i64 d', .int .i64 f', .int .i64 k', .int .i64 s1, .int .i64 s2, .int .i64 jr, .bool jg, .slice ta' tn tn] : List Value).length := (show (Tryz.prog.info? 44).map (·.size) = some 18 by kernel_rfl)
      with_reducible refine wpList_load_mid ?qg 44 ?ql8 ?qo (w.heap.size + 1 + 1) 0 ?qhx [.int .i64 jid, .int .i64 a, .int .i64 b, .int .i64 c, .int .i64 d, .int .i64 f, .int .i64 k, .int .i64 a', .int .i64 b', .int .i64 c', .int .i64 d', .int .i64 f', .int .i64 k', .int .i64 s1, .int .i64 s2, .int .i64 jr, .bool jg, .slice ta' tn tn] _ HO_8.out.row Tryz.underlying44 ?qd iL ?qr
      case qg => exact rfl
      case qo => exact rfl
      case qhx => exact rfl
      case qd => exact rfl
      case qr =>
        clear iL
        show wpList _ _ _ _ _ _
        have tA : wh.there (w.heap.size + 1) 0 ([.int .i64 jid, .int .i64 a, .int .i64 b, .int .i64 c, .int .i64 d, .int .i64 f, .int .i64 k, .int .i64 a', .int .i64 b', .int .i64 c', .int .i64 d', .int .i64 f', .int .i64 k', .int .i64 s1, .int .i64 s2, .int .i64 jr, .bool jg, .slice ta' tn tn] : List Value).toArray.size := HR_8.out.there _ 18 (by simp)
        have iA : (Tryz.prog.info? 44).map (·.size) = some ([.int .i64 jid, .int .i64 a, .int .i64 b, .int .i64 c, .int .i64 d, .int .i64 f, .int .i64 k, .int .i64 a', .int .i64 b', .int .i64 c', .int .i64 d', .int .i64 f', .int .i64 k', .int .i64 s1, .int .i64 s2, .int .i64 jr, .bool jg, .slice ta' tn tn] : List Value).toArray.size := (show (Tryz.prog.info? 44).map (·.size) = some 18 by kernel_rfl)
        with_reducible refine wpList_store_mid ?qg 44 ?qx8 ?qy8 ?qo (w.heap.size + 1) 0 ([.int .i64 jid, .int .i64 a, .int .i64 b, .int .i64 c, .int .i64 d, .int .i64 f, .int .i64 k, .int .i64 a', .int .i64 b', .int .i64 c', .int .i64 d', .int .i64 f', .int .i64 k', .int .i64 s1, .int .i64 s2, .int .i64 jr, .bool jg, .slice ta' tn tn] : List Value).toArray ?qhx ?qhy tA iA (by kernel_rfl) ?qr
        case qg => exact rfl
        case qo => exact rfl
        case qhx => exact rfl
        case qhy => exact rfl
        case qr =>
          show wpList _ _ _ _ _ (wh.setCells (w.heap.size + 1) 0 [.int .i64 jid, .int .i64 a, .int .i64 b, .int .i64 c, .int .i64 d, .int .i64 f, .int .i64 k, .int .i64 a', .int .i64 b', .int .i64 c', .int .i64 d', .int .i64 f', .int .i64 k', .int .i64 s1, .int .i64 s2, .int .i64 jr, .bool jg, .slice ta' tn tn])
          clear tA iA
          have HA_9 : Hid (Lies (wh.setCells (w.heap.size + 1) 0 [.int .i64 jid, .int .i64 a, .int .i64 b, .int .i64 c, .int .i64 d, .int .i64 f, .int .i64 k, .int .i64 a', .int .i64 b', .int .i64 c', .int .i64 d', .int .i64 f', .int .i64 k', .int .i64 s1, .int .i64 s2, .int .i64 jr, .bool jg, .slice ta' tn tn]) w.heap.size [.int .i64 jid, .int .i64 a, .int .i64 b, .int .i64 c, .int .i64 d, .int .i64 f, .int .i64 k, .int .i64 a', .int .i64 b', .int .i64 c', .int .i64 d', .int .i64 f', .int .i64 k', .int .i64 s1, .int .i64 s2, .int .i64 jr, .bool jg, .slice ta tn tc]) := HA_8.out.farCells _ _ (by omega)
          have HR_9 : Hid (Lies (wh.setCells (w.heap.size + 1) 0 [.int .i64 jid, .int .i64 a, .int .i64 b, .int .i64 c, .int .i64 d, .int .i64 f, .int .i64 k, .int .i64 a', .int .i64 b', .int .i64 c', .int .i64 d', .int .i64 f', .int .i64 k', .int .i64 s1, .int .i64 s2, .int .i64 jr, .bool jg, .slice ta' tn tn]) (w.heap.size + 1) [.int .i64 jid, .int .i64 a, .int .i64 b, .int .i64 c, .int .i64 d, .int .i64 f, .int .i64 k, .int .i64 a', .int .i64 b', .int .i64 c', .int .i64 d', .int .i64 f', .int .i64 k', .int .i64 s1, .int .i64 s2, .int .i64 jr, .bool jg, .slice ta' tn tn]) := HR_8.out.setCells [.int .i64 jid, .int .i64 a, .int .i64 b, .int .i64 c, .int .i64 d, .int .i64 f, .int .i64 k, .int .i64 a', .int .i64 b', .int .i64 c', .int .i64 d', .int .i64 f', .int .i64 k', .int .i64 s1, .int .i64 s2, .int .i64 jr, .bool jg, .slice ta' tn tn] 0 (by simp)
          have HO_9 : Hid (Lies (wh.setCells (w.heap.size + 1) 0 [.int .i64 jid, .int .i64 a, .int .i64 b, .int .i64 c, .int .i64 d, .int .i64 f, .int .i64 k, .int .i64 a', .int .i64 b', .int .i64 c', .int .i64 d', .int .i64 f', .int .i64 k', .int .i64 s1, .int .i64 s2, .int .i64 jr, .bool jg, .slice ta' tn tn]) (w.heap.size + 1 + 1) [.int .i64 jid, .int .i64 a, .int .i64 b, .int .i64 c, .int .i64 d, .int .i64 f, .int .i64 k, .int .i64 a', .int .i64 b', .int .i64 c', .int .i64 d', .int .i64 f', .int .i64 k', .int .i64 s1, .int .i64 s2, .int .i64 jr, .bool jg, .slice ta' tn tn]) := HO_8.out.farCells _ _ (by omega)
          have HB_9 : Hid (Below w.heap.size w (wh.setCells (w.heap.size + 1) 0 [.int .i64 jid, .int .i64 a, .int .i64 b, .int .i64 c, .int .i64 d, .int .i64 f, .int .i64 k, .int .i64 a', .int .i64 b', .int .i64 c', .int .i64 d', .int .i64 f', .int .i64 k', .int .i64 s1, .int .i64 s2, .int .i64 jr, .bool jg, .slice ta' tn tn])) := below_setCells _ _ HB_8.out (by omega)
          have HT_9 : Hid (SeesT (wh.setCells (w.heap.size + 1) 0 [.int .i64 jid, .int .i64 a, .int .i64 b, .int .i64 c, .int .i64 d, .int .i64 f, .int .i64 k, .int .i64 a', .int .i64 b', .int .i64 c', .int .i64 d', .int .i64 f', .int .i64 k', .int .i64 s1, .int .i64 s2, .int .i64 jr, .bool jg, .slice ta' tn tn]) ta' tn tn tl) := HT_8.out.setCs (fun q hq e => by have := LHT.out q hq; omega) _ _
          clear HA_8 HR_8 HO_8 HB_8 HT_8
          generalize (wh.setCells (w.heap.size + 1) 0 [.int .i64 jid, .int .i64 a, .int .i64 b, .int .i64 c, .int .i64 d, .int .i64 f, .int .i64 k, .int .i64 a', .int .i64 b', .int .i64 c', .int .i64 d', .int .i64 f', .int .i64 k', .int .i64 s1, .int .i64 s2, .int .i64 jr, .bool jg, .slice ta' tn tn]) = wi at HA_9 HR_9 HO_9 HB_9 HT_9  ⊢
          go_wp2
          exact bodyPost_ret (results_cell rfl rfl (run_loadVar_mid wi (w.heap.size + 1) 0 44 _ _ HR_9.out.row Tryz.underlying44 rfl (by kernel_rfl))) rfl ⟨ta', rfl, HT_9.out, fun q hq => by have := LHT.out q hq; omega, HB_9.out⟩
end Go.Proofs.YtfhknkppiidnkaaGreat
namespace Go.Proofs.YtfhknkppiidnkaaGreat
open Go.RowKit Go.ChangeShapes Go.WideShapes

/-- the walk is held ahead of a load, of a store of this type -/
theorem wpList_stopT {P : Program} {w : World} {ops : Array Oper} {rest : List Oper} {o : Oper} {a : Act} {Q : Exit → Act → World → Prop} (t : TypeId) (x : Operand) (_hd : o.op = .load t x) (h : Hid (wpList P ops Q (o :: rest) a w)) : wpList P ops Q (o :: rest) a w := h
theorem wpList_stopS {P : Program} {w : World} {ops : Array Oper} {rest : List Oper} {o : Oper} {a : Act} {Q : Exit → Act → World → Prop} (t : TypeId) (x y : Operand) (_hd : o.op = .store t x y) (h : Hid (wpList P ops Q (o :: rest) a w)) : wpList P ops Q (o :: rest) a w := h
theorem row_of_cells {w : World} {b o n : Nat} {vs : List Value} (hl : vs.length = n) (h : ∀ j, j < n → w.cell? ⟨b, o + j, none⟩ = vs[j]?) : w.rangeAt b o vs := fun j v hv => by
  have hj : j < vs.length := by
    rcases Nat.lt_or_ge j vs.length with h' | h'
    · exact h'
    · rw [List.getElem?_eq_none h'] at hv; cases hv
  exact (h j (by omega)).trans hv
/-- jobs made anew, j of them: the rest is zero -/
def JPre (g n j : Nat) (js : List M.Jb) (wr : World) : Prop := ∃ qs : List (M.Jb × Option Addr × Nat), qs.map (·.1) = js.take j ∧ Lies wr g ((qs ++ (List.replicate n (M.j0, none, 0)).drop j).flatMap jrv) ∧ ∀ q ∈ qs, SeesT wr q.2.1 q.1.ts.length q.2.2 q.1.ts ∧ ∀ x, q.2.1 = some x → g < x.block
theorem JPre.zero {g n : Nat} {js : List M.Jb} {wr : World} (h : Lies wr g ((List.replicate n (M.j0, none, 0)).flatMap jrv)) : JPre g n 0 js wr :=
  ⟨[], by simp, by simpa using h, fun q hq => by cases hq⟩
theorem JPre.len {g n j : Nat} {js : List M.Jb} {wr : World} (h : JPre g n j js wr) (hj : j ≤ n) (hl : js.length = n) : ∃ vs, Lies wr g vs ∧ vs.length = n * 18 := by
  obtain ⟨qs, h1, h2, _⟩ := h
  have hq : qs.length = j := by have := congrArg List.length h1; simpa [hl, hj] using this
  exact ⟨_, h2, by rw [flat_len jrv_len, List.length_append, List.length_drop, List.length_replicate, hq]; congr 1; omega⟩
theorem JPre.step {g n j : Nat} {js : List M.Jb} {wr w' : World} {ta : Option Addr} {tc : Nat} (h : JPre g n j js wr) (hj : j < n) (hl : js.length = n) (hb : Below wr.heap.size wr w') (ht : SeesT w' ta (js.getD j M.j0).ts.length tc (js.getD j M.j0).ts) (ho : ∀ x, ta = some x → g < x.block) : JPre g n (j + 1) js (w'.setCells g (j * 18) (jvs (js.getD j M.j0) ta tc)) := by
  obtain ⟨qs, h1, h2, h3⟩ := h
  have hq : qs.length = j := by have := congrArg List.length h1; rw [List.length_map, List.length_take] at this; omega
  have e : js.getD j M.j0 = js[j] := by rw [List.getD_eq_getElem?_getD, List.getElem?_eq_getElem (by omega)]; rfl
  refine ⟨qs ++ [(js.getD j M.j0, ta, tc)], ?_, ?_, ?_⟩
  · rw [List.map_append, h1, List.take_succ_eq_append_getElem (by omega), e]; rfl
  · have h4 := (h2.belowS hb).setCells (jrv (js.getD j M.j0, ta, tc)) (j * 18) (by rw [flat_len jrv_len, jrv_len, List.length_append, List.length_drop, List.length_replicate, hq]; omega)
    rw [flat_set jrv_len _ _ (by rw [List.length_append, List.length_drop, List.length_replicate, hq]; omega)] at h4
    have e2 : (qs ++ (List.replicate n ((M.j0, none, 0) : M.Jb × Option Addr × Nat)).drop j).set j (js.getD j M.j0, ta, tc) = qs ++ [(js.getD j M.j0, ta, tc)] ++ (List.replicate n ((M.j0, none, 0) : M.Jb × Option Addr × Nat)).drop (j + 1) := by
      rw [List.set_append_right _ _ (by omega), hq, Nat.sub_self, List.drop_eq_getElem_cons (by simpa using hj), List.set_cons_zero, List.append_assoc]; rfl
    rw [e2] at h4
    exact h4
  · intro q hq'
    rcases List.mem_append.1 hq' with hm | hm
    · obtain ⟨a1, a2⟩ := h3 q hm
      exact ⟨(a1.below hb).setCs (fun x hx e => by have := a2 x hx; omega) _ _, a2⟩
    · rw [List.mem_singleton] at hm; subst hm
      exact ⟨ht.setCs (fun x hx e => by have := ho x hx; omega) _ _, ho⟩
/-- jobs are shown in every world that has the cells from B on -/
def KeepsJ (B : Nat) (w : World) (a : Option Addr) (n c : Nat) (js : List M.Jb) : Prop := ∀ W : World, (∀ p : Addr, B ≤ p.block → W.cell? p = w.cell? p) → SeesJ W a n c js
theorem KeepsJ.sees {B : Nat} {w : World} {a : Option Addr} {n c : Nat} {js : List M.Jb} (h : KeepsJ B w a n c js) : SeesJ w a n c js := h w fun _ _ => rfl
theorem KeepsJ.setCs {B b : Nat} {w : World} {a : Option Addr} {n c : Nat} {js : List M.Jb} (h : KeepsJ B w a n c js) (hb : b < B) (o : Nat) (us : List Value) : KeepsJ B (w.setCells b o us) a n c js := fun W hW => h W fun p hp => (hW p hp).trans (cell_setCells _ _ _ _ _ (by omega))
theorem KeepsJ.setC {B b : Nat} {w : World} {a : Option Addr} {n c : Nat} {js : List M.Jb} (h : KeepsJ B w a n c js) (hb : b < B) (o : Nat) (u : Value) : KeepsJ B (w.setCell ⟨b, o, none⟩ u) a n c js := h.setCs hb o [u]
theorem JPre.keeps {g n : Nat} {js : List M.Jb} {wr : World} (h : JPre g n n js wr) (hl : js.length = n) (hn : n ≤ 1048576) : KeepsJ g wr (some ⟨g, 0, none⟩) n n js := by
  intro W hW
  obtain ⟨qs, h1, h2, h3⟩ := h
  rw [List.take_of_length_le (by omega)] at h1
  have hq : qs.length = n := by have := congrArg List.length h1; rw [List.length_map] at this; omega
  rw [List.drop_of_length_le (by simp), List.append_nil] at h2
  refine ⟨hl, Nat.le_refl _, by omega, fun e => by simp at e, .inr ⟨g, 0, rfl, fun i hi => ?_⟩⟩
  have hi' : i < qs.length := by omega
  have hqi : js.getD i M.j0 = (qs[i]).1 := by rw [← h1, List.getD_eq_getElem?_getD, List.getElem?_map, List.getElem?_eq_getElem hi']; rfl
  obtain ⟨t1, t2⟩ := h3 _ (List.getElem_mem hi')
  refine ⟨qs[i].2.1, qs[i].2.2, fun j hj => ?_, ?_⟩
  · rw [hW _ (Nat.le_refl _), Nat.zero_add, h2.at, flat_get jrv_len (M.j0, none, 0) qs hi' hj, hqi, List.getD_eq_getElem?_getD, List.getElem?_eq_getElem hi']; rfl
  · rw [hqi]
    exact t1.kept fun x i hx => hW _ (by have := t2 x hx; show g ≤ x.block; omega)
theorem info_job : (Tryz.prog.info? 44).map (fun i => (i.zero, i.size, i.bytes)) = some (some (.agg #[.int .i64 0, .int .i64 0, .int .i64 0, .int .i64 0, .int .i64 0, .int .i64 0, .int .i64 0, .int .i64 0, .int .i64 0, .int .i64 0, .int .i64 0, .int .i64 0, .int .i64 0, .int .i64 0, .int .i64 0, .int .i64 0, .bool false, .slice none 0 0]), 18, 160) := by kernel_rfl
set_option maxHeartbeats 8000000 in
set_option maxRecDepth 100000 in
theorem toJobS_any {a : Option Addr} {n c : Nat} {js : List M.Jb} (w : World) (hz : SeesJ w a n c js) (hb : n ≤ 1048576) (ht : ∀ i, (js.getD i M.j0).ts.length ≤ 1048576) :
    Calls Tryz.prog 36 #[.slice a n c] w fun e w' => ∃ a', e = .returned (.slice a' n n) ∧ KeepsJ w.heap.size w' a' n n js ∧ Below w.heap.size w w' := by
  have HZ : Hid (SeesJ w a n c js) := hz
  have hcI : (n : Int) ≤ c := by have := hz.le; omega
  have hcl : js.length = n := hz.len
  clear hz
  obtain ⟨i0, hi, hz0, hz1, hz2⟩ := info_parts info_job
  go_enter Tryz.func36, Tryz.ntmps36
  go_wp2_with (at_make; refine wpList_make_full _ rfl _ _ 25 rfl w.heap.size 44 i0 (.agg #[.int .i64 0, .int .i64 0, .int .i64 0, .int .i64 0, .int .i64 0, .int .i64 0, .int .i64 0, .int .i64 0, .int .i64 0, .int .i64 0, .int .i64 0, .int .i64 0, .int .i64 0, .int .i64 0, .int .i64 0, .int .i64 0, .bool false, .slice none 0 0]) 18 Tryz.underlying25 hi hz0 hz1 .i64 .i64 _ _ n rfl rfl rfl rfl (by rw [hz2]; omega) (by unfold maxLen; omega) (Nat.le_refl _) ?_)
  intro w1 hown hg
  have HL : Hid (JPre w.heap.size n 0 js w1) := by
    have h0 := owns_all hown
    rw [flat_made ((M.j0, none, 0) : M.Jb × Option Addr × Nat) jrv_len #[.int .i64 0, .int .i64 0, .int .i64 0, .int .i64 0, .int .i64 0, .int .i64 0, .int .i64 0, .int .i64 0, .int .i64 0, .int .i64 0, .int .i64 0, .int .i64 0, .int .i64 0, .int .i64 0, .int .i64 0, .int .i64 0, .bool false, .slice none 0 0] rfl] at h0
    exact JPre.zero h0
  have HB : Hid (Below w.heap.size w w1) := below_grown hg
  have hs1 : w.heap.size < w1.heap.size := by
    rcases hown.2 with ⟨e, _⟩ | ⟨g', c', cur, e, _, hh, _⟩
    · simp at e
    · simp only [Value.slice.injEq, Option.some.injEq, Addr.mk.injEq, and_true, true_and] at e
      obtain ⟨rfl, rfl⟩ := e
      rcases Nat.lt_or_ge w.heap.size w1.heap.size with hl | hl
      · exact hl
      · rw [Array.getElem?_eq_none hl] at hh; simp at hh
  clear hown hg hi hz0 hz1 hz2
  go_wp2
  go_loopw [4] (fun i wr => ∃ j : Nat, j ≤ n ∧ i = .int .i64 j ∧ JPre w.heap.size n j js wr ∧ Below w.heap.size w wr ∧ w.heap.size < wr.heap.size) (fun i _ => n - (intOf i).toNat)
  case atStart => exact ⟨0, by omega, rfl, HL.out, HB.out, hs1⟩
  case round =>
    obtain ⟨j, hj, rfl, hl1, hb1, hs2⟩ := hrel
    have HL1 : Hid (JPre w.heap.size n j js wr) := hl1
    have HB1 : Hid (Below w.heap.size w wr) := hb1
    clear hl1 hb1 HL HB hs1
    by_cases hlt : j < n
    · obtain ⟨b1, o1, rfl, hc1⟩ := (HZ.out.below HB1.out).at (by omega)
      obtain ⟨ta, tc, hA, hT⟩ := hc1 j hlt
      have hI : (j : Int) < (n : Int) := by omega
      have htn := ht j
      have HN : Hid (∀ (w' : World) (ta' : Option Addr) (tc' : Nat), Below wr.heap.size wr w' → SeesT w' ta' (js.getD j M.j0).ts.length tc' (js.getD j M.j0).ts → (∀ x, ta' = some x → w.heap.size < x.block) → JPre w.heap.size n (j + 1) js (w'.setCells w.heap.size (j * 18) (jvs (js.getD j M.j0) ta' tc'))) := fun w' ta' tc' hb' h1' h2' => HL1.out.step hlt hcl hb' h1' h2'
      obtain ⟨vs, hvs, hvl⟩ := HL1.out.len hj hcl
      have HV : Hid (Lies wr w.heap.size vs) := hvs
      have HVL : Hid (vs.length = n * 18) := hvl
      generalize js.getD j M.j0 = cq at hA hT HN htn
      obtain ⟨jid, ⟨⟨a, b, c', d, f, k⟩, ⟨a', b', c'', d', f', k'⟩⟩, ⟨s1, s2⟩, jr, jg, tl⟩ := cq
      dsimp only at hT HN htn
      have hR : wr.rangeAt b1 (o1 + j * 18) (jvs ⟨jid, ⟨⟨a, b, c', d, f, k⟩, ⟨a', b', c'', d', f', k'⟩⟩, (s1, s2), jr, jg, tl⟩ ta tc) := row_of_cells rfl hA
      have HT : Hid (SeesT wr ta tl.length tc tl) := hT
      dsimp only [jvs] at hR HN
      generalize htl : tl.length = tn at hR HT HN htn
      clear htl hc1 hA hT hvs hvl HL1
      go_wp2_with (with_reducible refine wpList_stop 19 ?_ ?_; rfl)
      show wpList _ _ _ _ _ _
      have iL : (Tryz.prog.info? 137).map (·.size) = some ([.int .i64 jid, .int .i64 a, .int .i64 b, .int .i64 c', .int .i64 d, .int .i64 f, .int .i64 k, .int .i64 a', .int .i64 b', .int .i64 c'', .int .i64 d', .int .i64 f', .int .i64 k', .int .i64 s1, .int .i64 s2, .int .i64 jr, .bool jg, .slice ta tn tc] : List Value).length := (show (Tryz.prog.info? 137).map (·.size) = some 18 by kernel_rfl)
      with_reducible refine wpList_load_mid ?qg 137 ?ql ?qo b1 (o1 + j * 18) ?qhx [.int .i64 jid, .int .i64 a, .int .i64 b, .int .i64 c', .int .i64 d, .int .i64 f, .int .i64 k, .int .i64 a', .int .i64 b', .int .i64 c'', .int .i64 d', .int .i64 f', .int .i64 k', .int .i64 s1, .int .i64 s2, .int .i64 jr, .bool jg, .slice ta tn tc] _ hR Tryz.underlying137 ?qd iL ?qr
      case qg => exact rfl
      case qo => exact rfl
      case qhx => exact rfl
      case qd => exact rfl
      case qr =>
        clear iL
        show wpList _ _ _ _ _ _
        go_wp2_with fail
        refine (toJob_any jid a b c' d f k a' b' c'' d' f' k' s1 s2 jr jg _ HT.out htn).mono ?_
        rintro e w2 ⟨ta', rfl, ht', hlo, hb2⟩
        have LP : Hid (Lies w2 w.heap.size vs) := HV.out.belowS hb2
        have HB2 : Hid (Below w.heap.size w w2) := HB1.out.trans (hb2.mono HB1.out.size)
        have hs3 := hb2.size
        have HJ : Hid (JPre w.heap.size n (j + 1) js (w2.setCells w.heap.size (j * 18) [.int .i64 jid, .int .i64 a, .int .i64 b, .int .i64 c', .int .i64 d, .int .i64 f, .int .i64 k, .int .i64 a', .int .i64 b', .int .i64 c'', .int .i64 d', .int .i64 f', .int .i64 k', .int .i64 s1, .int .i64 s2, .int .i64 jr, .bool jg, .slice ta' tn tn])) := HN.out w2 ta' tn hb2 ht' (fun x hx => Nat.lt_of_lt_of_le hs2 (hlo x hx))
        have tA : w2.there w.heap.size (j * 18) ([.int .i64 jid, .int .i64 a, .int .i64 b, .int .i64 c', .int .i64 d, .int .i64 f, .int .i64 k, .int .i64 a', .int .i64 b', .int .i64 c'', .int .i64 d', .int .i64 f', .int .i64 k', .int .i64 s1, .int .i64 s2, .int .i64 jr, .bool jg, .slice ta' tn tn] : List Value).toArray.size := LP.out.there _ 18 (by rw [HVL.out]; omega)
        have iA : (Tryz.prog.info? 44).map (·.size) = some ([.int .i64 jid, .int .i64 a, .int .i64 b, .int .i64 c', .int .i64 d, .int .i64 f, .int .i64 k, .int .i64 a', .int .i64 b', .int .i64 c'', .int .i64 d', .int .i64 f', .int .i64 k', .int .i64 s1, .int .i64 s2, .int .i64 jr, .bool jg, .slice ta' tn tn] : List Value).toArray.size := (show (Tryz.prog.info? 44).map (·.size) = some 18 by kernel_rfl)
        clear hb2 HV ht' hlo HN hR HT
        go_wp2_with (with_reducible refine wpList_stopn ?_ ?_; rfl)
        show wpList _ _ _ _ _ _
        with_reducible refine wpList_store_mid ?qg 44 ?qx ?qy ?qo w.heap.size (j * 18) ([.int .i64 jid, .int .i64 a, .int .i64 b, .int .i64 c', .int .i64 d, .int .i64 f, .int .i64 k, .int .i64 a', .int .i64 b', .int .i64 c'', .int .i64 d', .int .i64 f', .int .i64 k', .int .i64 s1, .int .i64 s2, .int .i64 jr, .bool jg, .slice ta' tn tn] : List Value).toArray ?qhx ?qhy tA iA (by kernel_rfl) ?qr
        case qg => exact rfl
        case qo => exact rfl
        case qhx => exact rfl
        case qhy => exact rfl
        case qr =>
          have HB3 : Hid (Below w.heap.size w (w2.setCells w.heap.size (j * 18) [.int .i64 jid, .int .i64 a, .int .i64 b, .int .i64 c', .int .i64 d, .int .i64 f, .int .i64 k, .int .i64 a', .int .i64 b', .int .i64 c'', .int .i64 d', .int .i64 f', .int .i64 k', .int .i64 s1, .int .i64 s2, .int .i64 jr, .bool jg, .slice ta' tn tn])) := below_setCells _ _ HB2.out (Nat.le_refl _)
          have HS3 : Hid (w.heap.size < (w2.setCells w.heap.size (j * 18) [.int .i64 jid, .int .i64 a, .int .i64 b, .int .i64 c', .int .i64 d, .int .i64 f, .int .i64 k, .int .i64 a', .int .i64 b', .int .i64 c'', .int .i64 d', .int .i64 f', .int .i64 k', .int .i64 s1, .int .i64 s2, .int .i64 jr, .bool jg, .slice ta' tn tn]).heap.size) := (LP.out.setCells [.int .i64 jid, .int .i64 a, .int .i64 b, .int .i64 c', .int .i64 d, .int .i64 f, .int .i64 k, .int .i64 a', .int .i64 b', .int .i64 c'', .int .i64 d', .int .i64 f', .int .i64 k', .int .i64 s1, .int .i64 s2, .int .i64 jr, .bool jg, .slice ta' tn tn] (j * 18) (by rw [HVL.out]; simp; omega)).2.2
          show wpList _ _ _ _ _ (w2.setCells w.heap.size (j * 18) [.int .i64 jid, .int .i64 a, .int .i64 b, .int .i64 c', .int .i64 d, .int .i64 f, .int .i64 k, .int .i64 a', .int .i64 b', .int .i64 c'', .int .i64 d', .int .i64 f', .int .i64 k', .int .i64 s1, .int .i64 s2, .int .i64 jr, .bool jg, .slice ta' tn tn])
          clear tA iA LP HB2 hs3
          generalize w2.setCells w.heap.size (j * 18) [.int .i64 jid, .int .i64 a, .int .i64 b, .int .i64 c', .int .i64 d, .int .i64 f, .int .i64 k, .int .i64 a', .int .i64 b', .int .i64 c'', .int .i64 d', .int .i64 f', .int .i64 k', .int .i64 s1, .int .i64 s2, .int .i64 jr, .bool jg, .slice ta' tn tn] = w3 at *
          go_wp2
          go_roundw
          case rel => exact ⟨j + 1, by omega, by go_num, HJ.out, HB3.out, HS3.out⟩
          case measure => simp [intOf]; omega
    · have hjn : j = n := by omega
      subst hjn
      go_wp2
      go_ret
      exact ⟨_, rfl, HL1.out.keeps hcl hb, HB1.out⟩
end Go.Proofs.YtfhknkppiidnkaaGreat
namespace Go.Proofs.YtfhknkppiidnkaaGreat
open Go.RowKit Go.ChangeShapes Go.WideShapes

/-- what the count of jobs tells -/
def SzPost (n : Nat) (js : List M.Jb) (k r : Int) : Prop := r = -1 ∨ (0 ≤ r ∧ r ≤ k ∧ (n : Int) ≤ k ∧ ∀ i, ((js.getD i M.j0).ts.length : Int) ≤ k)
set_option maxHeartbeats 4000000 in
set_option maxRecDepth 10000 in
theorem szJobS_any {a : Option Addr} {n c : Nat} {js : List M.Jb} (q : Int) (w : World) (hz : SeesJ w a n c js) (h0 : 0 ≤ q) (hk : q ≤ 9223372036854775807) :
    Calls Tryz.prog 34 #[.slice a n c, .int .i64 q] w fun e w' => ∃ r, e = .returned (.int .i64 r) ∧ SzPost n js q r ∧ Below w.heap.size w w' := by
  have HZ : Hid (SeesJ w a n c js) := hz
  have hcI : (n : Int) ≤ c := by have := hz.le; omega
  have hnb : (n : Int) ≤ 9223372036854775807 := by have := hz.big; omega
  have hcl : js.length = n := hz.len
  clear hz
  by_cases hneg : q - (n : Int) < 0
  · go_enter Tryz.func34, Tryz.ntmps34
    go_wp2
    go_ret
    exact ⟨-1, rfl, .inl rfl, Below.refl _ _⟩
  go_enter Tryz.func34, Tryz.ntmps34
  go_wp2
  go_loopw [1, 5] (fun l i wr => ∃ (j : Nat) (r : Int), j ≤ n ∧ i = .int .i64 j ∧ l = .int .i64 r ∧ 0 ≤ r ∧ r ≤ q ∧ (∀ p, p < j → ((js.getD p M.j0).ts.length : Int) ≤ q) ∧ Below w.heap.size w wr) (fun _ i _ => n - (intOf i).toNat)
  case atStart => exact ⟨0, _, by omega, rfl, rfl, by omega, by omega, fun p hp => by omega, Below.refl _ _⟩
  case round =>
    obtain ⟨j, r, hj, rfl, rfl, hr0, hr1, hall, hb1⟩ := hrel
    have HB1 : Hid (Below w.heap.size w wr) := hb1
    have HA : Hid (∀ p, p < j → ((js.getD p M.j0).ts.length : Int) ≤ q) := hall
    clear hb1 hall
    by_cases hlt : j < n
    · obtain ⟨b1, o1, rfl, hc1⟩ := (HZ.out.below HB1.out).at (by omega)
      obtain ⟨ta, tc, hA, hT⟩ := hc1 j hlt
      have hI : (j : Int) < (n : Int) := by omega
      have HX : Hid ((js.getD j M.j0).ts.length = (js.getD j M.j0).ts.length) := rfl
      generalize hcq : js.getD j M.j0 = cq at hA hT
      have HQ : Hid (js.getD j M.j0 = cq) := hcq
      clear hcq HX
      obtain ⟨jid, ⟨⟨a, b, c', d, f, k⟩, ⟨a', b', c'', d', f', k'⟩⟩, ⟨s1, s2⟩, jr, jg, tl⟩ := cq
      dsimp only at hT
      have hR : wr.rangeAt b1 (o1 + j * 18) (jvs ⟨jid, ⟨⟨a, b, c', d, f, k⟩, ⟨a', b', c'', d', f', k'⟩⟩, (s1, s2), jr, jg, tl⟩ ta tc) := row_of_cells rfl hA
      have htb : (tl.length : Int) ≤ 9223372036854775807 := by have := hT.le; have := hT.big; omega
      dsimp only [jvs] at hR
      generalize htl : tl.length = tn at hR htb
      have HTL : Hid (tl.length = tn) := htl
      clear htl hc1 hA hT
      go_wp2_with (with_reducible refine wpList_stop 21 ?_ ?_; rfl)
      show wpList _ _ _ _ _ _
      have iL : (Tryz.prog.info? 137).map (·.size) = some ([.int .i64 jid, .int .i64 a, .int .i64 b, .int .i64 c', .int .i64 d, .int .i64 f, .int .i64 k, .int .i64 a', .int .i64 b', .int .i64 c'', .int .i64 d', .int .i64 f', .int .i64 k', .int .i64 s1, .int .i64 s2, .int .i64 jr, .bool jg, .slice ta tn tc] : List Value).length := (show (Tryz.prog.info? 137).map (·.size) = some 18 by kernel_rfl)
      with_reducible refine wpList_load_mid ?qg 137 ?ql ?qo b1 (o1 + j * 18) ?qhx [.int .i64 jid, .int .i64 a, .int .i64 b, .int .i64 c', .int .i64 d, .int .i64 f, .int .i64 k, .int .i64 a', .int .i64 b', .int .i64 c'', .int .i64 d', .int .i64 f', .int .i64 k', .int .i64 s1, .int .i64 s2, .int .i64 jr, .bool jg, .slice ta tn tc] _ hR Tryz.underlying137 ?qd iL ?qr
      case qg => exact rfl
      case qo => exact rfl
      case qhx => exact rfl
      case qd => exact rfl
      case qr =>
        clear iL
        show wpList _ _ _ _ _ _

        go_wp2_with fail
        refine (szJob_any jid a b c' d f k a' b' c'' d' f' k' s1 s2 jr jg _ _ htb hr0 (by omega)).mono ?_
        rintro e w2 ⟨rfl, hb2⟩
        have HB2 : Hid (Below w.heap.size w w2) := HB1.out.trans (hb2.mono HB1.out.size)
        clear hb2 hR
        by_cases hn2 : r - (tn : Int) < 0
        · rw [if_pos hn2]
          go_wp2
          go_ret
          exact ⟨-1, rfl, .inl rfl, HB2.out⟩
        · rw [if_neg hn2]
          go_wp2
          go_roundw
          case rel =>
            refine ⟨j + 1, _, by omega, by go_num, rfl, by omega, by omega, fun p hp => ?_, HB2.out⟩
            by_cases e : p = j
            · subst e; rw [HQ.out]; show ((tl.length : Nat) : Int) ≤ q; rw [HTL.out]; omega
            · exact HA.out p (by omega)
          case measure => simp [intOf]; omega
    · have hjn : j = n := by omega
      subst hjn
      go_wp2
      go_ret
      refine ⟨_, rfl, .inr ⟨hr0, hr1, by omega, fun i => ?_⟩, HB1.out⟩
      by_cases hi : i < j
      · exact HA.out i hi
      · rw [List.getD_eq_getElem?_getD, List.getElem?_eq_none (by omega)]; exact h0
theorem szI_any (a : Option Addr) (n c : Nat) (k : Int) (w : World) (hn : (n : Int) ≤ 9223372036854775807) (h0 : 0 ≤ k) (hk : k ≤ 9223372036854775807) :
    Calls Tryz.prog 33 #[.slice a n c, .int .i64 k] w fun e w' => e = .returned (.int .i64 (if k - (n : Int) < 0 then -1 else k - n)) ∧ w' = w := by
  by_cases h : k - (n : Int) < 0
  · rw [if_pos h]
    go_enter Tryz.func33, Tryz.ntmps33
    go_wp2
    go_ret
    exact ⟨rfl, rfl⟩
  · rw [if_neg h]
    go_enter Tryz.func33, Tryz.ntmps33
    go_wp2
    go_ret
    exact ⟨rfl, rfl⟩
def SmPost (nb nj : Nat) (js : List M.Jb) (r : Int) : Prop := r = -1 ∨ (0 ≤ r ∧ nb ≤ 1048576 ∧ nj ≤ 1048576 ∧ ∀ i, (js.getD i M.j0).ts.length ≤ 1048576)
set_option maxHeartbeats 4000000 in
theorem szMarket_any {ab aj : Option Addr} {nb cb nj cj : Nat} {bs : List Int} {js : List M.Jb} (now next : Int) (w : World) (hz : SeesM w ab nb cb aj nj cj bs js) :
    Calls Tryz.prog 12 #[.agg #[.int .i64 now, .int .i64 next, .slice ab nb cb, .slice aj nj cj], .int .i64 1048576] w fun e w' => ∃ r, e = .returned (.int .i64 r) ∧ SmPost nb nj js r ∧ Below w.heap.size w w' := by
  have hnb : (nb : Int) ≤ 9223372036854775807 := by have := hz.b.big; have := hz.b.le; omega
  have HB0 : Hid (Below w.heap.size w (w.alloc (.cells #[.int .i64 now, .int .i64 next, .slice ab nb cb, .slice aj nj cj] 48))) := (Below.refl _ _).alloc (Nat.le_refl _) _
  have HJ0 : Hid (SeesJ (w.alloc (.cells #[.int .i64 now, .int .i64 next, .slice ab nb cb, .slice aj nj cj] 48)) aj nj cj js) := hz.j.below HB0.out
  clear hz
  by_cases h : (1048576 : Int) - (nb : Int) < 0
  · clear HJ0
    go_enter Tryz.func12, Tryz.ntmps12
    go_wp2_with fail
    refine (szI_any _ _ _ _ _ hnb (by omega) (by omega)).mono ?_
    rintro e wz ⟨rfl, rfl⟩
    rw [if_pos h]
    go_wp2
    go_ret
    exact ⟨-1, rfl, .inl rfl, HB0.out⟩
  · go_enter Tryz.func12, Tryz.ntmps12
    go_wp2_with fail
    refine (szI_any _ _ _ _ _ hnb (by omega) (by omega)).mono ?_
    rintro e wz ⟨rfl, rfl⟩
    rw [if_neg (show ¬ (1048576 : Int) - (nb : Int) < 0 by omega)]
    go_wp2_with fail
    refine (szJobS_any _ _ HJ0.out (by omega) (by omega)).mono ?_
    rintro e w1 ⟨r, rfl, hp, hb⟩
    have HB1 : Hid (Below w.heap.size w w1) := HB0.out.trans (hb.mono HB0.out.size)
    clear hb HJ0 HB0
    rcases hp with rfl | ⟨h1, h2, h3, h4⟩
    · go_wp2
      go_ret
      exact ⟨-1, rfl, .inl rfl, HB1.out⟩
    · have H4 : Hid (∀ i, (js.getD i M.j0).ts.length ≤ 1048576) := fun i => by have := h4 i; omega
      clear h4
      go_wp2
      go_ret
      exact ⟨r, rfl, .inr ⟨h1, by omega, by omega, H4.out⟩, HB1.out⟩
end Go.Proofs.YtfhknkppiidnkaaGreat
namespace Go.Proofs.YtfhknkppiidnkaaGreat
open Go.RowKit Go.ChangeShapes Go.WideShapes

theorem KeepsJ.mono {B B' : Nat} {w : World} {a : Option Addr} {n c : Nat} {js : List M.Jb} (h : KeepsJ B' w a n c js) (hb : B ≤ B') : KeepsJ B w a n c js := fun W hW => h W fun p hp => hW p (by omega)
theorem owns_lo {t : TypeId} {w : World} {base : Nat} {a : Option Addr} {n cap : Nat} {zs : List Int} (h : Owns t w base a n cap zs) : ∀ x, a = some x → base ≤ x.block := by
  intro x hx
  rcases h.2 with ⟨e, _⟩ | ⟨g, c, cur, e, hb, _⟩
  · simp only [Value.slice.injEq] at e; rw [e.1] at hx; cases hx
  · simp only [Value.slice.injEq] at e; rw [e.1] at hx; injection hx with hx; rw [← hx]; exact hb
/-- numbers are shown, and lie from block B on -/
structure LoS (B : Nat) (w : World) (a : Option Addr) (n c : Nat) (zs : List Int) : Prop where
  sees : Sees w a n c zs
  lo : ∀ x, a = some x → B ≤ x.block
theorem LoS.below {B : Nat} {w w' : World} {a : Option Addr} {n c : Nat} {zs : List Int} (h : LoS B w a n c zs) (hb : Below w.heap.size w w') : LoS B w' a n c zs := ⟨h.sees.below hb, h.lo⟩
theorem LoS.setCs {B b : Nat} {w : World} {a : Option Addr} {n c : Nat} {zs : List Int} (h : LoS B w a n c zs) (hb : b < B) (o : Nat) (us : List Value) : LoS B (w.setCells b o us) a n c zs :=
  ⟨h.sees.of_cells fun p v hv ⟨x, hx, e⟩ => by rw [cell_setCells _ _ _ _ _ (by have := h.lo x hx; omega)]; exact hv, h.lo⟩
theorem LoS.setC {B b : Nat} {w : World} {a : Option Addr} {n c : Nat} {zs : List Int} (h : LoS B w a n c zs) (hb : b < B) (o : Nat) (u : Value) : LoS B (w.setCell ⟨b, o, none⟩ u) a n c zs := h.setCs hb o [u]
set_option maxHeartbeats 8000000 in
set_option maxRecDepth 10000 in
theorem toMarket_any {ab aj : Option Addr} {nb cb nj cj : Nat} {bs : List Int} {js : List M.Jb} (now next : Int) (w : World) (hz : SeesM w ab nb cb aj nj cj bs js) (hnb : nb ≤ 1048576) (hnj : nj ≤ 1048576) (htn : ∀ i, (js.getD i M.j0).ts.length ≤ 1048576) :
    Calls Tryz.prog 13 #[.agg #[.int .i64 now, .int .i64 next, .slice ab nb cb, .slice aj nj cj]] w fun e w' => ∃ ab' aj', e = .returned (.agg #[.int .i64 now, .int .i64 next, .slice ab' nb nb, .slice aj' nj nj]) ∧ SeesM w' ab' nb nb aj' nj nj bs js ∧ Below w.heap.size w w' := by
  have HM : Hid (SeesM w ab nb cb aj nj cj bs js) := hz
  have HTN : Hid (∀ i, (js.getD i M.j0).ts.length ≤ 1048576) := htn
  clear hz htn
  have HA_0 : Hid (Lies (((w.alloc (.cells #[.int .i64 now, .int .i64 next, .slice ab nb cb, .slice aj nj cj] 48)).alloc (.cells #[.int .i64 0, .int .i64 0, .slice none 0 0, .slice none 0 0] 27)).alloc (.cells #[.int .i64 now, .int .i64 next, .slice none 0 0, .slice none 0 0] 27)) w.heap.size [.int .i64 now, .int .i64 next, .slice ab nb cb, .slice aj nj cj]) := ((lies_new _ _ _).alloc _).alloc _
  have HR_0 : Hid (Lies (((w.alloc (.cells #[.int .i64 now, .int .i64 next, .slice ab nb cb, .slice aj nj cj] 48)).alloc (.cells #[.int .i64 0, .int .i64 0, .slice none 0 0, .slice none 0 0] 27)).alloc (.cells #[.int .i64 now, .int .i64 next, .slice none 0 0, .slice none 0 0] 27)) (w.heap.size + 1) [.int .i64 0, .int .i64 0, .slice none 0 0, .slice none 0 0]) := (lies_new2 _ _ _ _).alloc _
  have HO_0 : Hid (Lies (((w.alloc (.cells #[.int .i64 now, .int .i64 next, .slice ab nb cb, .slice aj nj cj] 48)).alloc (.cells #[.int .i64 0, .int .i64 0, .slice none 0 0, .slice none 0 0] 27)).alloc (.cells #[.int .i64 now, .int .i64 next, .slice none 0 0, .slice none 0 0] 27)) (w.heap.size + 1 + 1) [.int .i64 now, .int .i64 next, .slice none 0 0, .slice none 0 0]) := lies_new3 _ _ _ _ _
  have HB_0 : Hid (Below w.heap.size w (((w.alloc (.cells #[.int .i64 now, .int .i64 next, .slice ab nb cb, .slice aj nj cj] 48)).alloc (.cells #[.int .i64 0, .int .i64 0, .slice none 0 0, .slice none 0 0] 27)).alloc (.cells #[.int .i64 now, .int .i64 next, .slice none 0 0, .slice none 0 0] 27))) := (((Below.refl _ _).alloc (Nat.le_refl _) _).alloc (by simp) _).alloc (by simp; omega) _
  go_enter Tryz.func13, Tryz.ntmps13
  go_wp2_with fail
  generalize (((w.alloc (.cells #[.int .i64 now, .int .i64 next, .slice ab nb cb, .slice aj nj cj] 48)).alloc (.cells #[.int .i64 0, .int .i64 0, .slice none 0 0, .slice none 0 0] 27)).alloc (.cells #[.int .i64 now, .int .i64 next, .slice none 0 0, .slice none 0 0] 27)) = wa at HA_0 HR_0 HO_0 HB_0  ⊢
  have hO : w.heap.size + 1 + 1 < wa.heap.size := HO_0.out.2.2
  refine (toS_any _ (HM.out.b.below HB_0.out) hnb).mono ?_
  rintro e wb ⟨ab', rfl, ho, hb⟩
  have HA_1 : Hid (Lies wb w.heap.size [.int .i64 now, .int .i64 next, .slice ab nb cb, .slice aj nj cj]) := HA_0.out.belowS hb
  have HR_1 : Hid (Lies wb (w.heap.size + 1) [.int .i64 0, .int .i64 0, .slice none 0 0, .slice none 0 0]) := HR_0.out.belowS hb
  have HO_1 : Hid (Lies wb (w.heap.size + 1 + 1) [.int .i64 now, .int .i64 next, .slice none 0 0, .slice none 0 0]) := HO_0.out.belowS hb
  have HB_1 : Hid (Below w.heap.size w wb) := HB_0.out.trans (hb.mono HB_0.out.size)
  clear HA_0 HR_0 HO_0 HB_0
  have HW_1 : Hid (LoS (w.heap.size + 1 + 1 + 1) wb ab' nb nb bs) := ⟨ho.sees, fun x hx => Nat.le_trans hO (owns_lo ho x hx)⟩
  clear hb
  clear ho hO
  have t2 : wb.cell? ⟨(w.heap.size + 1 + 1), 2, none⟩ = some (.slice none 0 0) := HO_1.out.at 2
  have u2 : wb.frozen? ⟨(w.heap.size + 1 + 1), 2, none⟩ = false := HO_1.out.fr 2
  have HW_2 : Hid (LoS (w.heap.size + 1 + 1 + 1) (wb.setCell ⟨(w.heap.size + 1 + 1), 2, none⟩ (.slice ab' nb nb)) ab' nb nb bs) := HW_1.out.setC (by omega) _ _
  clear HW_1
  have HA_2 : Hid (Lies (wb.setCell ⟨(w.heap.size + 1 + 1), 2, none⟩ (.slice ab' nb nb)) w.heap.size [.int .i64 now, .int .i64 next, .slice ab nb cb, .slice aj nj cj]) := HA_1.out.far (by omega) _ _
  have HR_2 : Hid (Lies (wb.setCell ⟨(w.heap.size + 1 + 1), 2, none⟩ (.slice ab' nb nb)) (w.heap.size + 1) [.int .i64 0, .int .i64 0, .slice none 0 0, .slice none 0 0]) := HR_1.out.far (by omega) _ _
  have HO_2 : Hid (Lies (wb.setCell ⟨(w.heap.size + 1 + 1), 2, none⟩ (.slice ab' nb nb)) (w.heap.size + 1 + 1) [.int .i64 now, .int .i64 next, .slice ab' nb nb, .slice none 0 0]) := HO_1.out.set 2 (by simp) _
  have HB_2 : Hid (Below w.heap.size w (wb.setCell ⟨(w.heap.size + 1 + 1), 2, none⟩ (.slice ab' nb nb))) := HB_1.out.setCell (by show w.heap.size ≤ (w.heap.size + 1 + 1); omega) _
  clear HA_1 HR_1 HO_1 HB_1
  have y3 : (wb.setCell ⟨(w.heap.size + 1 + 1), 2, none⟩ (.slice ab' nb nb)).cell? ⟨w.heap.size, 3, none⟩ = some (.slice aj nj cj) := HA_2.out.at 3
  go_wp2_with fail
  clear t2 u2 y3
  generalize (wb.setCell ⟨(w.heap.size + 1 + 1), 2, none⟩ (.slice ab' nb nb)) = wc at HA_2 HR_2 HO_2 HB_2 HW_2  ⊢
  have hO : w.heap.size + 1 + 1 < wc.heap.size := HO_2.out.2.2
  refine (toJobS_any _ (HM.out.j.below HB_2.out) hnj HTN.out).mono ?_
  rintro e wd ⟨aj', rfl, hkj, hb⟩
  have HA_3 : Hid (Lies wd w.heap.size [.int .i64 now, .int .i64 next, .slice ab nb cb, .slice aj nj cj]) := HA_2.out.belowS hb
  have HR_3 : Hid (Lies wd (w.heap.size + 1) [.int .i64 0, .int .i64 0, .slice none 0 0, .slice none 0 0]) := HR_2.out.belowS hb
  have HO_3 : Hid (Lies wd (w.heap.size + 1 + 1) [.int .i64 now, .int .i64 next, .slice ab' nb nb, .slice none 0 0]) := HO_2.out.belowS hb
  have HB_3 : Hid (Below w.heap.size w wd) := HB_2.out.trans (hb.mono HB_2.out.size)
  have HW_3 : Hid (LoS (w.heap.size + 1 + 1 + 1) wd ab' nb nb bs) := HW_2.out.below hb
  clear HA_2 HR_2 HO_2 HB_2 HW_2
  have HK_3 : Hid (KeepsJ (w.heap.size + 1 + 1 + 1) wd aj' nj nj js) := hkj.mono (by omega)
  clear hb
  clear hkj hO
  have t3 : wd.cell? ⟨(w.heap.size + 1 + 1), 3, none⟩ = some (.slice none 0 0) := HO_3.out.at 3
  have u3 : wd.frozen? ⟨(w.heap.size + 1 + 1), 3, none⟩ = false := HO_3.out.fr 3
  have HW_4 : Hid (LoS (w.heap.size + 1 + 1 + 1) (wd.setCell ⟨(w.heap.size + 1 + 1), 3, none⟩ (.slice aj' nj nj)) ab' nb nb bs) := HW_3.out.setC (by omega) _ _
  have HK_4 : Hid (KeepsJ (w.heap.size + 1 + 1 + 1) (wd.setCell ⟨(w.heap.size + 1 + 1), 3, none⟩ (.slice aj' nj nj)) aj' nj nj js) := HK_3.out.setC (by omega) _ _
  clear HW_3 HK_3
  have HA_4 : Hid (Lies (wd.setCell ⟨(w.heap.size + 1 + 1), 3, none⟩ (.slice aj' nj nj)) w.heap.size [.int .i64 now, .int .i64 next, .slice ab nb cb, .slice aj nj cj]) := HA_3.out.far (by omega) _ _
  have HR_4 : Hid (Lies (wd.setCell ⟨(w.heap.size + 1 + 1), 3, none⟩ (.slice aj' nj nj)) (w.heap.size + 1) [.int .i64 0, .int .i64 0, .slice none 0 0, .slice none 0 0]) := HR_3.out.far (by omega) _ _
  have HO_4 : Hid (Lies (wd.setCell ⟨(w.heap.size + 1 + 1), 3, none⟩ (.slice aj' nj nj)) (w.heap.size + 1 + 1) [.int .i64 now, .int .i64 next, .slice ab' nb nb, .slice aj' nj nj]) := HO_3.out.set 3 (by simp) _
  have HB_4 : Hid (Below w.heap.size w (wd.setCell ⟨(w.heap.size + 1 + 1), 3, none⟩ (.slice aj' nj nj))) := HB_3.out.setCell (by show w.heap.size ≤ (w.heap.size + 1 + 1); omega) _
  clear HA_3 HR_3 HO_3 HB_3
  go_wp2_with (with_reducible refine wpList_stop 18 ?_ ?_; rfl)
  show wpList _ _ _ _ _ _
  clear t3 u3
  generalize (wd.setCell ⟨(w.heap.size + 1 + 1), 3, none⟩ (.slice aj' nj nj)) = wh at HA_4 HR_4 HO_4 HB_4 HW_4 HK_4  ⊢
  have iL : (Tryz.prog.info? 27).map (·.size) = some ([.int .i64 now, .int .i64 next, .slice ab' nb nb, .slice aj' nj nj] : List Value).length := (show (Tryz.prog.info? 27).map (·.size) = some 4 by kernel_rfl)
  with_reducible refine wpList_load_mid ?qg 27 ?ql4 ?qo (w.heap.size + 1 + 1) 0 ?qhx [.int .i64 now, .int .i64 next, .slice ab' nb nb, .slice aj' nj nj] _ HO_4.out.row Tryz.underlying27 ?qd iL ?qr
  case qg => exact rfl
  case qo => exact rfl
  case qhx => exact rfl
  case qd => exact rfl
  case qr =>
    clear iL
    show wpList _ _ _ _ _ _
    have tA : wh.there (w.heap.size + 1) 0 ([.int .i64 now, .int .i64 next, .slice ab' nb nb, .slice aj' nj nj] : List Value).toArray.size := HR_4.out.there _ 4 (by simp)
    have iA : (Tryz.prog.info? 27).map (·.size) = some ([.int .i64 now, .int .i64 next, .slice ab' nb nb, .slice aj' nj nj] : List Value).toArray.size := (show (Tryz.prog.info? 27).map (·.size) = some 4 by kernel_rfl)
    with_reducible refine wpList_store_mid ?qg 27 ?qx4 ?qy4 ?qo (w.heap.size + 1) 0 ([.int .i64 now, .int .i64 next, .slice ab' nb nb, .slice aj' nj nj] : List Value).toArray ?qhx ?qhy tA iA (by kernel_rfl) ?qr
    case qg => exact rfl
    case qo => exact rfl
    case qhx => exact rfl
    case qhy => exact rfl
    case qr =>
      show wpList _ _ _ _ _ (wh.setCells (w.heap.size + 1) 0 [.int .i64 now, .int .i64 next, .slice ab' nb nb, .slice aj' nj nj])
      clear tA iA
      have HW_5 : Hid (LoS (w.heap.size + 1 + 1 + 1) (wh.setCells (w.heap.size + 1) 0 [.int .i64 now, .int .i64 next, .slice ab' nb nb, .slice aj' nj nj]) ab' nb nb bs) := HW_4.out.setCs (by omega) _ _
      have HK_5 : Hid (KeepsJ (w.heap.size + 1 + 1 + 1) (wh.setCells (w.heap.size + 1) 0 [.int .i64 now, .int .i64 next, .slice ab' nb nb, .slice aj' nj nj]) aj' nj nj js) := HK_4.out.setCs (by omega) _ _
      clear HW_4 HK_4
      have HA_5 : Hid (Lies (wh.setCells (w.heap.size + 1) 0 [.int .i64 now, .int .i64 next, .slice ab' nb nb, .slice aj' nj nj]) w.heap.size [.int .i64 now, .int .i64 next, .slice ab nb cb, .slice aj nj cj]) := HA_4.out.farCells _ _ (by omega)
      have HR_5 : Hid (Lies (wh.setCells (w.heap.size + 1) 0 [.int .i64 now, .int .i64 next, .slice ab' nb nb, .slice aj' nj nj]) (w.heap.size + 1) [.int .i64 now, .int .i64 next, .slice ab' nb nb, .slice aj' nj nj]) := HR_4.out.setCells [.int .i64 now, .int .i64 next, .slice ab' nb nb, .slice aj' nj nj] 0 (by simp)
      have HO_5 : Hid (Lies (wh.setCells (w.heap.size + 1) 0 [.int .i64 now, .int .i64 next, .slice ab' nb nb, .slice aj' nj nj]) (w.heap.size + 1 + 1) [.int .i64 now, .int .i64 next, .slice ab' nb nb, .slice aj' nj nj]) := HO_4.out.farCells _ _ (by omega)
      have HB_5 : Hid (Below w.heap.size w (wh.setCells (w.heap.size + 1) 0 [.int .i64 now, .int .i64 next, .slice ab' nb nb, .slice aj' nj nj])) := below_setCells _ _ HB_4.out (by omega)
      clear HA_4 HR_4 HO_4 HB_4
      generalize (wh.setCells (w.heap.size + 1) 0 [.int .i64 now, .int .i64 next, .slice ab' nb nb, .slice aj' nj nj]) = wi at HA_5 HR_5 HO_5 HB_5 HW_5 HK_5  ⊢
      go_wp2
      exact bodyPost_ret (results_cell rfl rfl (run_loadVar_mid wi (w.heap.size + 1) 0 27 _ _ HR_5.out.row Tryz.underlying27 rfl (by kernel_rfl))) rfl ⟨ab', aj', rfl, ⟨HW_5.out.sees, HK_5.out.sees⟩, HB_5.out⟩
end Go.Proofs.YtfhknkppiidnkaaGreat
