/- A polynomial times an element, a polynomial times x and an element, in the program. -/
import Derived.Test.YtjeoenieoejolagMulMath
namespace Go.Proofs.Ytjeoenieoejolag
open Go.RowKit

set_option maxHeartbeats 1000000 in
theorem scaled1_any {a : Option Addr} {n cap : Nat} {ys : List Int} (x c : Int) (R base : Nat) (w : World) (ho : Owns 50 w base a n cap ys) (hb : base ≤ w.heap.size) (hn : n ≤ 2000000) (x0 : 0 ≤ x) (x1 : x < 65537) (c0 : 0 ≤ c) (c1 : c < 65537) (hc : w.cell? ⟨R, 0, none⟩ = some (.int .i64 c)) :
    Calls Try.prog 84 #[.slice a n cap, .int .i64 x, .pointer (some ⟨R, 0, none⟩)] w fun e w' => ∃ a' cap', e = .returned (.slice a' (n + 1) cap') ∧ Owns 50 w' base a' (n + 1) cap' (ys ++ [x * c % 65537]) ∧ w.grownBy w' (Value.slice a n cap).ownBlock := by
  have HO : Hid (Owns 50 w base a n cap ys) := ho
  obtain ⟨i0, hi, hz0, hz1, hz2⟩ := info_parts info_el
  clear ho
  go_enter Try.func84, Try.ntmps84
  go_wp2_with fail
  refine (times_any x c _ x0 x1 c0 c1).mono ?_
  rintro e w ⟨rfl, rfl⟩
  go_wp2_with (at_builtin; refine wpList_append_own _ rfl _ _ 36 rfl base 50 i0 (.int .i64 0) 1 8 Try.underlying36 hi hz0 hz1 hz2 rfl (by decide) _ n (ys.map (Value.int .i64)) rfl (World.ownsRow.alloc HO.out _) ⟨w.heap.size, 0, none⟩ 1 1 [.int .i64 (x * c % 65537)] rfl rfl (cell_one w _ _) (one_int _) (by unfold maxLen; omega) (by omega) (by simp; omega) ?_)
  intro v' w1 hown hgrow _
  have hown' : w1.ownsRow base 50 1 v' (n + 1) ((ys ++ [x * c % 65537]).map (Value.int .i64)) := by rw [List.map_append]; exact hown
  obtain ⟨a', cap', rfl, ho'⟩ := Owns.form hown'
  have HO' : Hid (Owns 50 w1 base a' (n + 1) cap' (ys ++ [x * c % 65537])) := ho'
  have HG : Hid (w.grownBy w1 (Value.slice a n cap).ownBlock) := (World.grownBy_alloc w _ _).trans hgrow
  clear hown hown' hgrow ho' hi hz0 hz1 hz2
  go_wp2
  go_ret
  exact ⟨a', cap', rfl, HO'.out, HG.out⟩
theorem M.pscale_len (zs : List Int) (c : Int) : (M.pscale zs c).length = zs.length := by simp [M.pscale]
theorem M.pscale_snoc {zs : List Int} {c : Int} {k : Nat} (h : k < zs.length) : (M.pscale zs c).take k ++ [zs.getD k 0 * c % 65537] = (M.pscale zs c).take (k + 1) := by
  rw [← take_snoc (by rw [M.pscale_len]; exact h), M.pscale_getD]
set_option maxHeartbeats 1000000 in
theorem foldScaled_any {a b : Option Addr} {n cc cap : Nat} {zs : List Int} (c : Int) (R : Nat) (w0 w : World) (hz : Sees w0 a n cc zs) (hall : M.allEl zs = true) (hbl : Below w0.heap.size w0 w) (ho : Owns 50 w w0.heap.size b 0 cap []) (hn : n ≤ 1048576) (c0 : 0 ≤ c) (c1 : c < 65537) (hR : R < w0.heap.size) (hc : w0.cell? ⟨R, 0, none⟩ = some (.int .i64 c)) :
    Calls Try.prog 83 #[.slice a n cc, .slice b 0 cap, .func (.func 84) #[] #[.pointer (some ⟨R, 0, none⟩)]] w fun e w' => ∃ a' cap', e = .returned (.slice a' n cap') ∧ Owns 50 w' w0.heap.size a' n cap' (M.pscale zs c) ∧ Below w0.heap.size w0 w' := by
  have HZ : Hid (Sees w0 a n cc zs) := hz
  have HA : Hid (M.allEl zs = true) := hall
  have HB : Hid (Below w0.heap.size w0 w) := hbl
  have HO : Hid (Owns 50 w w0.heap.size b 0 cap []) := ho
  have HC : Hid (w0.cell? ⟨R, 0, none⟩ = some (.int .i64 c)) := hc
  clear hz hbl ho hc hall
  go_enter Try.func83, Try.ntmps83
  go_wp2
  go_loopw [1, 11] (fun s i wr => ∃ (k : Nat) (a' : Option Addr) (cap' : Nat), k ≤ n ∧ i = .int .i64 k ∧ s = .slice a' k cap' ∧ Owns 50 wr w0.heap.size a' k cap' ((M.pscale zs c).take k) ∧ Below w0.heap.size w0 wr) (fun _ i _ => n - (intOf i).toNat)
  case atStart => exact ⟨0, b, cap, by omega, rfl, rfl, HO.out, HB.out⟩
  case round =>
    obtain ⟨k, a', cap', hk, rfl, rfl, ho1, hb1⟩ := hrel
    have HO1 : Hid (Owns 50 wr w0.heap.size a' k cap' ((M.pscale zs c).take k)) := ho1
    have HB1 : Hid (Below w0.heap.size w0 wr) := hb1
    clear ho1 hb1 HO HB
    by_cases hlt : k < n
    · obtain ⟨b1, o1, rfl, hc1⟩ := (HZ.out.below HB1.out).at (by omega)
      have e1 := hc1 k hlt
      clear hc1
      have HS : Hid ((M.pscale zs c).take k ++ [zs.getD k 0 * c % 65537] = (M.pscale zs c).take (k + 1)) := M.pscale_snoc (by rw [HZ.out.len]; exact hlt)
      have hel := M.el_at HA.out k
      generalize hx : zs.getD k 0 = x at e1 hel
      have HX : Hid (zs.getD k 0 = x) := hx
      obtain ⟨x0, x1⟩ := hel
      have hI : (k : Int) < (n : Int) := by omega
      have HCR : Hid (wr.cell? ⟨R, 0, none⟩ = some (.int .i64 c)) := (HB1.out.cell (p := ⟨R, 0, none⟩) hR).trans HC.out
      clear hx
      go_wp2_with fail
      refine (scaled1_any x c R w0.heap.size _ HO1.out HB1.out.size (by omega) x0 x1 c0 c1 HCR.out).mono ?_
      rintro e w1 ⟨a2, cap2, rfl, ho2, hg2⟩
      have HO2 : Hid (Owns 50 w1 w0.heap.size a2 (k + 1) cap2 ((M.pscale zs c).take k ++ [x * c % 65537])) := ho2
      have HB2 : Hid (Below w0.heap.size w0 w1) := HB1.out.grown hg2 HB1.out.size HO1.out.row
      clear ho2 hg2
      go_wp2
      go_roundw
      case rel => exact ⟨k + 1, a2, cap2, by omega, by go_num, rfl, by rw [← HS.out, HX.out]; exact HO2.out, HB2.out⟩
      case measure => simp [intOf]; omega
    · have hkn : k = n := by omega
      subst hkn
      go_wp2
      go_ret
      refine ⟨a', cap', rfl, ?_, HB1.out⟩
      have h := HO1.out
      rw [List.take_of_length_le (by rw [M.pscale_len, HZ.out.len]; exact Nat.le_refl _)] at h
      exact h
set_option maxHeartbeats 1000000 in
theorem scaled_any {a : Option Addr} {n cc : Nat} {zs : List Int} (c : Int) (w : World) (hz : Sees w a n cc zs) (hall : M.allEl zs = true) (hn : n ≤ 1000000) (c0 : 0 ≤ c) (c1 : c < 65537) :
    Calls Try.prog 59 #[.slice a n cc, .int .i64 c] w fun e w' => ∃ a' l cap', e = .returned (.slice a' l cap') ∧ Owns 50 w' w.heap.size a' l cap' (M.trim (M.pscale zs c)) ∧ Below w.heap.size w w' := by
  have HZ : Hid (Sees w a n cc zs) := hz
  have HA : Hid (M.allEl zs = true) := hall
  obtain ⟨i0, hi, hz0, hz1, hz2⟩ := info_parts info_el
  clear hz hall
  go_enter Try.func59, Try.ntmps59
  go_wp2_with (at_make; refine wpList_make_own _ rfl _ _ 36 rfl (w.heap.size + 1) 50 i0 (.int .i64 0) 1 Try.underlying36 hi hz0 hz1 .i64 .i64 _ n rfl rfl rfl (by rw [hz2]; omega) (by unfold maxLen; omega) (by simp) ?_)
  intro w1 hown hg
  have hsz : (w.alloc (.cells #[Value.int .i64 c] 50)).heap.size = w.heap.size + 1 := by simp
  have HO : Hid (Owns 50 w1 (w.alloc (.cells #[Value.int .i64 c] 50)).heap.size (some ⟨w.heap.size + 1, 0, none⟩) 0 n []) := by
    show Owns _ _ _ _ _ _ _
    rw [hsz]
    exact hown
  have HBa : Hid (Below w.heap.size w (w.alloc (.cells #[Value.int .i64 c] 50))) := (Below.refl _ _).alloc (Nat.le_refl _) _
  have HB : Hid (Below (w.alloc (.cells #[Value.int .i64 c] 50)).heap.size (w.alloc (.cells #[Value.int .i64 c] 50)) w1) := below_grown hg
  have HR : Hid (w.heap.size < (w.alloc (.cells #[Value.int .i64 c] 50)).heap.size) := by show _ < _; rw [hsz]; omega
  have HC : Hid ((w.alloc (.cells #[Value.int .i64 c] 50)).cell? ⟨w.heap.size, 0, none⟩ = some (.int .i64 c)) := by show _ = _; rw [World.cell?_alloc_new]; rfl
  clear hown hg hi hz0 hz1 hz2 hsz
  go_wp2_with fail
  refine (foldScaled_any c w.heap.size _ _ (HZ.out.below HBa.out) HA.out HB.out HO.out (by omega) c0 c1 HR.out HC.out).mono ?_
  rintro e w2 ⟨a2, cap2, rfl, ho, hb⟩
  have HO2 : Hid (Owns 50 w2 w.heap.size a2 n cap2 (M.pscale zs c)) := ho.mono (by simp)
  have HB2 : Hid (Below w.heap.size w w2) := HBa.out.trans (hb.mono HBa.out.size)
  clear ho hb HO HBa HB HR HC
  go_wp2_with fail
  refine (trimmedPoly_any _ HO2.out.sees (by omega)).mono ?_
  rintro e w3 ⟨a3, l3, c3, rfl, ho3, hb3⟩
  have HO3 : Hid (Owns 50 w3 w.heap.size a3 l3 c3 (M.trim (M.pscale zs c))) := ho3.mono HB2.out.size
  have HB3 : Hid (Below w.heap.size w w3) := HB2.out.trans (hb3.mono HB2.out.size)
  clear ho3 hb3
  go_wp2
  go_ret
  exact ⟨a3, l3, c3, rfl, HO3.out, HB3.out⟩

theorem wpList_append_optmix {P : Program} (w : World) {ops : Array Oper} {rest : List Oper} {o : Oper} {a : Act} {Q : Exit → Act → World → Prop} (hgd : o.guard = none) (s x : Operand) (t t2 : TypeId)
    (ho : o.op = .call { callee := .builtin .append, args := #[s, x], argTypes := #[t, t2] })
    (base : Nat) (e : TypeId) (i : TypeInfo) (z : Value) (size bytes : Nat) (ht : P.underlying t = some (.slice e)) (ht2 : P.underlying t2 = some (.slice e)) (hi : P.info? e = some i) (hz : i.zero = some z)
    (hsize : i.size = size) (hby : i.bytes = bytes) (hzs : z.cells.size = size) (hsz : 0 < size)
    (b : Option Addr) (n cb : Nat) (xs : List Value) (hs : a.eval s = .slice b n cb) (hown : w.ownsRow base e size (.slice b n cb) n xs)
    (ao : Option Addr) (m c : Nat) (news : List Value) (hx : a.eval x = .slice ao m c) (hl : news.length = m * size) (hnone : ao = none → m = 0 ∧ c = 0)
    (hnews : ∀ ad, ao = some ad → ∀ j u, news[j]? = some u → w.cell? (ad.add j) = some u) (h1 : ∀ u ∈ news, u.oneCell' = true)
    (h63 : n + m ≤ maxLen) (hbytes : (n + m) * bytes ≤ 140737488355328) (hbase : base ≤ w.heap.size)
    (h : ∀ v' w', w'.ownsRow base e size v' (n + m) (xs ++ news) → w.grownBy w' (Value.slice b n cb).ownBlock → wpList P ops Q rest (a.put o.dst v') w') : wpList P ops Q (o :: rest) a w := by
  cases ao with
  | some ad =>
    obtain ⟨v', w', hrun, h2, h3, _⟩ := run_append_own (P := P) w base t o.type e i z size bytes ht hi hz hsize hby hzs hsz _ n xs hown ad m c news hl (hnews ad rfl) h1 h63 hbytes hbase
    rw [← run_append_mix (P := P) w t t2 e o.type i _ _ _ _ _ _ ht ht2 hi] at hrun
    refine wpList_plain hgd fun K hK' => ?_
    unfold Oper.wp
    simp [execOp, ho, resolve, invoke, builtin, hs, hx, hrun, Result.andThen]
    exact hK' _ _ (h v' w' h2 h3)
  | none =>
    obtain ⟨rfl, rfl⟩ := hnone rfl
    have hn : news = [] := List.eq_nil_of_length_eq_zero (by simpa using hl)
    subst hn
    refine wpList_plain hgd fun K hK' => ?_
    have hrun := run_append_owned_none (P := P) w base t o.type e i size ht hi _ n xs hown
    rw [← run_append_mix (P := P) w t t2 e o.type i _ _ _ _ _ _ ht ht2 hi] at hrun
    unfold Oper.wp
    simp [execOp, ho, resolve, invoke, builtin, hs, hx, hrun, Result.andThen]
    exact hK' _ _ (h _ w (by simpa using hown) (World.grownBy.refl _ _))
theorem sees_all {w : World} {a : Option Addr} {n c : Nat} {zs : List Int} (h : Sees w a n c zs) : ∀ ad, a = some ad → ∀ j u, (zs.map (Value.int .i64))[j]? = some u → w.cell? (ad.add j) = some u := by
  have := sees_news h n (Nat.le_refl _)
  rw [List.take_of_length_le (by rw [h.len]; exact Nat.le_refl _)] at this
  exact this
set_option maxHeartbeats 2000000 in
theorem shifted_any {a : Option Addr} {n cc : Nat} {zs : List Int} (c : Int) (w : World) (hz : Sees w a n cc zs) (hn : n ≤ 1000000) :
    Calls Try.prog 58 #[.slice a n cc, .int .i64 c] w fun e w' => ∃ a' l cap', e = .returned (.slice a' l cap') ∧ Owns 50 w' w.heap.size a' l cap' (M.trim (c :: zs)) ∧ Below w.heap.size w w' := by
  have HZ : Hid (Sees w a n cc zs) := hz
  obtain ⟨i0, hi, hz0, hz1, hz2⟩ := info_parts info_el
  have HI : Hid (Try.prog.info? 50 = some i0 ∧ i0.zero = some (Value.int .i64 0) ∧ i0.size = 1 ∧ i0.bytes = 8) := ⟨hi, hz0, hz1, hz2⟩
  have HL : Hid ((zs.map (Value.int .i64)).length = n * 1) := by show _ = _; rw [List.length_map, hz.len, Nat.mul_one]
  clear hz hi hz0 hz1 hz2
  go_enter Try.func58, Try.ntmps58
  go_wp2_with (at_make; refine wpList_make_own _ rfl _ _ 36 rfl w.heap.size 50 i0 (.int .i64 0) 1 Try.underlying36 HI.out.1 HI.out.2.1 HI.out.2.2.1 .i64 .i64 _ (n + 1) rfl rfl (by omega) (by rw [HI.out.2.2.2]; omega) (by unfold maxLen; omega) (Nat.le_refl _) ?_)
  intro w1 hown hg
  have HO1 : Hid (Owns 50 w1 w.heap.size (some ⟨w.heap.size, 0, none⟩) 0 (n + 1) []) := hown
  have HB1 : Hid (Below w.heap.size w w1) := below_grown hg
  have hs1 : w.heap.size ≤ w1.heap.size := hg.size
  clear hown hg
  go_wp2_with (at_builtin; refine wpList_append_own _ rfl (.tmp 9) (.tmp 11) 36 rfl w.heap.size 50 i0 (.int .i64 0) 1 8 Try.underlying36 HI.out.1 HI.out.2.1 HI.out.2.2.1 HI.out.2.2.2 rfl (by decide) _ 0 (([] : List Int).map (Value.int .i64)) rfl (World.ownsRow.alloc HO1.out _) ⟨w1.heap.size, 0, none⟩ 1 1 [.int .i64 c] rfl rfl (cell_one w1 _ _) (one_int _) (by unfold maxLen; omega) (by omega) (by simp; omega) ?_)
  intro v2 w2 hown2 hgrow2 _
  have hown2' : w2.ownsRow w.heap.size 50 1 v2 1 (([c] : List Int).map (Value.int .i64)) := by simpa using hown2
  obtain ⟨a2, cap2, rfl, ho2⟩ := Owns.form hown2'
  have HO2 : Hid (Owns 50 w2 w.heap.size a2 1 cap2 [c]) := ho2
  have HB2 : Hid (Below w.heap.size w w2) := HB1.out.grown ((World.grownBy_alloc w1 _ _).trans hgrow2) hs1 HO1.out.row
  clear hown2 hown2' hgrow2 ho2 HO1 HB1 hs1
  go_wp2_with (at_builtin; refine wpList_append_optmix _ rfl (.tmp 13) (.tmp 14) 36 37 rfl w.heap.size 50 i0 (.int .i64 0) 1 8 Try.underlying36 Try.underlying37 HI.out.1 HI.out.2.1 HI.out.2.2.1 HI.out.2.2.2 rfl (by decide) a2 1 cap2 (([c] : List Int).map (Value.int .i64)) rfl HO2.out a n cc (zs.map (Value.int .i64)) rfl HL.out HZ.out.no (sees_all (HZ.out.below HB2.out)) (ints_int _) (by unfold maxLen; omega) (by omega) HB2.out.size ?_)
  intro v3 w3 hown3 hgrow3
  have hown3' : w3.ownsRow w.heap.size 50 1 v3 (1 + n) ((c :: zs).map (Value.int .i64)) := by simpa using hown3
  obtain ⟨a3, cap3, rfl, ho3⟩ := Owns.form hown3'
  have HO3 : Hid (Owns 50 w3 w.heap.size a3 (1 + n) cap3 (c :: zs)) := ho3
  have HB3 : Hid (Below w.heap.size w w3) := HB2.out.grown hgrow3 HB2.out.size HO2.out.row
  clear hown3 hown3' hgrow3 ho3 HO2 HB2
  go_wp2_with fail
  refine (trimmedPoly_any _ HO3.out.sees (by omega)).mono ?_
  rintro e w4 ⟨a4, l4, c4, rfl, ho4, hb4⟩
  have HO4 : Hid (Owns 50 w4 w.heap.size a4 l4 c4 (M.trim (c :: zs))) := ho4.mono HB3.out.size
  have HB4 : Hid (Below w.heap.size w w4) := HB3.out.trans (hb4.mono HB3.out.size)
  clear ho4 hb4
  go_wp2
  go_ret
  exact ⟨a4, l4, c4, rfl, HO4.out, HB4.out⟩
end Go.Proofs.Ytjeoenieoejolag
