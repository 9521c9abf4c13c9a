/- Slices that grow: one number is appended, a list is appended; the copies that the program makes between numbers and elements. Zeros at the end of a list are left out, in the program and in its model. -/
import Derived.Test.YtfhknkppiidnkaaGreatSlB
import Derived.Deep.RegionLaw
import Derived.Deep.OwnRows
namespace Go.Proofs.YtfhknkppiidnkaaGreat
open Go.RowKit

theorem Owns.form {t : TypeId} {w : World} {base n : Nat} {v : Value} {zs : List Int} (h : w.ownsRow base t 1 v n (zs.map (Value.int .i64))) : ∃ a cap, v = .slice a n cap ∧ Owns t w base a n cap zs := by
  rcases h.2 with ⟨e, h0⟩ | ⟨g, c, cur, e, _⟩
  · subst e h0; exact ⟨none, 0, rfl, h⟩
  · subst e; exact ⟨_, c, rfl, h⟩
theorem Owns.row {t : TypeId} {w : World} {base : Nat} {a : Option Addr} {n cap : Nat} {zs : List Int} (h : Owns t w base a n cap zs) : ∀ k, (Value.slice a n cap).ownBlock = some k → base ≤ k := fun k hk => (World.ownsRow.lt h k hk).1
theorem info_el : (Tryz.prog.info? 126).map (fun i => (i.zero, i.size, i.bytes)) = some (some (.int .i64 0), 1, 8) := by kernel_rfl
theorem one_int (x : Int) : ∀ u ∈ [Value.int .i64 x], u.oneCell' = true := by intro u hu; simp at hu; subst hu; rfl
theorem ints_int (zs : List Int) : ∀ u ∈ zs.map (Value.int .i64), u.oneCell' = true := ints_oneCell .i64 zs
theorem cell_one (w : World) (x : Int) (t : TypeId) : ∀ j u, [Value.int .i64 x][j]? = some u → (w.alloc (.cells #[Value.int .i64 x] t)).cell? ((⟨w.heap.size, 0, none⟩ : Addr).add j) = some u := by
  intro j u hj
  match j, hj with
  | 0, hj => simp at hj; subst hj; simp [Addr.add]
theorem take_snoc {zs : List Int} {k : Nat} (h : k < zs.length) : zs.take k ++ [zs.getD k 0] = zs.take (k + 1) := by
  rw [List.take_succ_eq_append_getElem h, List.getD_eq_getElem?_getD, List.getElem?_eq_getElem h]; rfl

set_option maxHeartbeats 1000000 in
theorem elementsOf1_any {a : Option Addr} {n cap : Nat} {ys : List Int} (x : Int) (base : Nat) (w : World) (ho : Owns 126 w base a n cap ys) (hb : base ≤ w.heap.size) (hn : n ≤ 2000000) :
    Calls Tryz.prog 152 #[.slice a n cap, .int .i64 x] w fun e w' => ∃ a' cap', e = .returned (.slice a' (n + 1) cap') ∧ Owns 126 w' base a' (n + 1) cap' (ys ++ [x]) ∧ w.grownBy w' (Value.slice a n cap).ownBlock := by
  have HO : Hid (Owns 126 w base a n cap ys) := ho
  obtain ⟨i0, hi, hz0, hz1, hz2⟩ := info_parts info_el
  clear ho
  go_enter Tryz.func152, Tryz.ntmps152
  go_wp2_with (at_builtin; refine wpList_append_own _ rfl _ _ 203 rfl base 126 i0 (.int .i64 0) 1 8 Tryz.underlying203 hi hz0 hz1 hz2 rfl (by decide) _ n (ys.map (Value.int .i64)) rfl (World.ownsRow.alloc HO.out _) ⟨w.heap.size, 0, none⟩ 1 1 [.int .i64 x] rfl rfl (cell_one w x _) (one_int x) (by unfold maxLen; omega) (by omega) (by simp; omega) ?_)
  intro v' w1 hown hgrow _
  have hown' : w1.ownsRow base 126 1 v' (n + 1) ((ys ++ [x]).map (Value.int .i64)) := by rw [List.map_append]; exact hown
  obtain ⟨a', cap', rfl, ho'⟩ := Owns.form hown'
  have HO' : Hid (Owns 126 w1 base a' (n + 1) cap' (ys ++ [x])) := ho'
  have HG : Hid (w.grownBy w1 (Value.slice a n cap).ownBlock) := (World.grownBy_alloc w _ _).trans hgrow
  clear hown hown' hgrow ho' hi hz0 hz1 hz2
  go_wp2
  go_ret
  exact ⟨a', cap', rfl, HO'.out, HG.out⟩
set_option maxHeartbeats 1000000 in
theorem foldelementsOf_any {a b : Option Addr} {n c cap : Nat} {zs : List Int} (w0 w : World) (hz : Sees w0 a n c zs) (hbl : Below w0.heap.size w0 w) (ho : Owns 126 w w0.heap.size b 0 cap []) (hn : n ≤ 1048576) :
    Calls Tryz.prog 151 #[.slice a n c, .slice b 0 cap, .func (.func 152) #[] #[]] w fun e w' => ∃ a' cap', e = .returned (.slice a' n cap') ∧ Owns 126 w' w0.heap.size a' n cap' zs ∧ Below w0.heap.size w0 w' := by
  have HZ : Hid (Sees w0 a n c zs) := hz
  have HB : Hid (Below w0.heap.size w0 w) := hbl
  have HO : Hid (Owns 126 w w0.heap.size b 0 cap []) := ho
  clear hz hbl ho
  go_enter Tryz.func151, Tryz.ntmps151
  go_wp2
  go_loopw [1, 11] (fun s i wr => ∃ (k : Nat) (a' : Option Addr) (cap' : Nat), k ≤ n ∧ i = .int .i64 k ∧ s = .slice a' k cap' ∧ Owns 126 wr w0.heap.size a' k cap' (zs.take k) ∧ Below w0.heap.size w0 wr) (fun _ i _ => n - (intOf i).toNat)
  case atStart => exact ⟨0, b, cap, by omega, rfl, rfl, HO.out, HB.out⟩
  case round =>
    obtain ⟨k, a', cap', hk, rfl, rfl, ho1, hb1⟩ := hrel
    have HO1 : Hid (Owns 126 wr w0.heap.size a' k cap' (zs.take k)) := ho1
    have HB1 : Hid (Below w0.heap.size w0 wr) := hb1
    clear ho1 hb1 HO HB
    by_cases hlt : k < n
    · obtain ⟨b1, o1, rfl, hc1⟩ := (HZ.out.below HB1.out).at (by omega)
      have c1 := hc1 k hlt
      clear hc1
      have HS : Hid (zs.take k ++ [zs.getD k 0] = zs.take (k + 1)) := take_snoc (by rw [HZ.out.len]; exact hlt)
      generalize hx : zs.getD k 0 = x at c1
      have HX : Hid (zs.getD k 0 = x) := hx
      have hI : (k : Int) < (n : Int) := by omega
      clear hx
      go_wp2_with fail
      refine (elementsOf1_any x w0.heap.size _ HO1.out HB1.out.size (by omega)).mono ?_
      rintro e w1 ⟨a2, cap2, rfl, ho2, hg2⟩
      have HO2 : Hid (Owns 126 w1 w0.heap.size a2 (k + 1) cap2 (zs.take k ++ [x])) := ho2
      have HB2 : Hid (Below w0.heap.size w0 w1) := HB1.out.grown hg2 HB1.out.size HO1.out.row
      clear ho2 hg2
      go_wp2
      go_roundw
      case rel => exact ⟨k + 1, a2, cap2, by omega, by go_num, rfl, by rw [← HS.out, HX.out]; exact HO2.out, HB2.out⟩
      case measure => simp [intOf]; omega
    · have hkn : k = n := by omega
      subst hkn
      go_wp2
      go_ret
      refine ⟨a', cap', rfl, ?_, HB1.out⟩
      have h := HO1.out
      rw [List.take_of_length_le (by rw [HZ.out.len]; exact Nat.le_refl _)] at h
      exact h
set_option maxHeartbeats 1000000 in
theorem elementsOf_any {a : Option Addr} {n c : Nat} {zs : List Int} (w : World) (hz : Sees w a n c zs) (hn : n ≤ 1048576) :
    Calls Tryz.prog 141 #[.slice a n c] w fun e w' => ∃ a' cap', e = .returned (.slice a' n cap') ∧ Owns 126 w' w.heap.size a' n cap' zs ∧ Below w.heap.size w w' := by
  have HZ : Hid (Sees w a n c zs) := hz
  obtain ⟨i0, hi, hz0, hz1, hz2⟩ := info_parts info_el
  clear hz
  go_enter Tryz.func141, Tryz.ntmps141
  go_wp2_with (at_make; refine wpList_make_own _ rfl _ _ 203 rfl w.heap.size 126 i0 (.int .i64 0) 1 Tryz.underlying203 hi hz0 hz1 .i64 .i64 _ n rfl rfl rfl (by rw [hz2]; omega) (by unfold maxLen; omega) (Nat.le_refl _) ?_)
  intro w1 hown hg
  have HO : Hid (Owns 126 w1 w.heap.size (some ⟨w.heap.size, 0, none⟩) 0 n []) := hown
  have HB : Hid (Below w.heap.size w w1) := below_grown hg
  clear hown hg hi hz0 hz1 hz2
  go_wp2_with fail
  refine (foldelementsOf_any w _ HZ.out HB.out HO.out hn).mono ?_
  rintro e w2 ⟨a', cap', rfl, ho, hb⟩
  have HO2 : Hid (Owns 126 w2 w.heap.size a' n cap' zs) := ho
  have HB2 : Hid (Below w.heap.size w w2) := hb
  clear ho hb
  go_wp2
  go_ret
  exact ⟨a', cap', rfl, HO2.out, HB2.out⟩

end Go.Proofs.YtfhknkppiidnkaaGreat
namespace Go.Proofs.YtfhknkppiidnkaaGreat
open Go.RowKit

/-- how many of the first k numbers stay when the zeros at their end are left out -/
def M.tl (zs : List Int) : Nat → Nat
  | 0 => 0
  | k + 1 => if zs.getD k 0 = 0 then M.tl zs k else k + 1
def M.trim (zs : List Int) : List Int := zs.take (M.tl zs zs.length)
def M.TlInv (zs : List Int) (n k : Nat) : Prop := M.tl zs k = M.tl zs n
theorem M.tl_le (zs : List Int) (k : Nat) : M.tl zs k ≤ k := by
  induction k with
  | zero => exact Nat.le_refl _
  | succ k ih => unfold M.tl; split <;> omega
theorem M.tlinv_step {zs : List Int} {n k : Nat} (h : M.TlInv zs n k) (h0 : 0 < k) (hz : zs.getD (k - 1) 0 = 0) : M.TlInv zs n (k - 1) := by
  unfold M.TlInv at *
  rw [← h]
  obtain ⟨j, rfl⟩ : ∃ j, k = j + 1 := ⟨k - 1, by omega⟩
  rw [Nat.add_sub_cancel] at hz ⊢
  conv => rhs; unfold M.tl
  rw [if_pos hz]
theorem M.tlinv_stop {zs : List Int} {n k : Nat} (h : M.TlInv zs n k) (h0 : 0 < k) (hz : zs.getD (k - 1) 0 ≠ 0) : M.tl zs n = k := by
  unfold M.TlInv at h
  rw [← h]
  obtain ⟨j, rfl⟩ : ∃ j, k = j + 1 := ⟨k - 1, by omega⟩
  rw [Nat.add_sub_cancel] at hz
  unfold M.tl
  rw [if_neg hz]
theorem M.tlinv_end {zs : List Int} {n : Nat} (h : M.TlInv zs n 0) : M.tl zs n = 0 := h.symm

theorem sees_news {w : World} {a : Option Addr} {n c : Nat} {zs : List Int} (h : Sees w a n c zs) (k : Nat) (hk : k ≤ n) :
    ∀ ad, a = some ad → ∀ j u, ((zs.take k).map (Value.int .i64))[j]? = some u → w.cell? (ad.add j) = some u := by
  intro ad e j u hj
  have hl := h.len
  have hjk : j < k := by
    have := (List.getElem?_eq_some_iff.1 hj).1
    rw [List.length_map, List.length_take] at this; omega
  obtain ⟨b, off, e2, hc⟩ := h.at (by omega)
  rw [e] at e2
  simp only [Option.some.injEq] at e2
  subst e2
  have h1 := hc j (by omega)
  rw [List.getElem?_map, List.getElem?_take_of_lt hjk, List.getElem?_eq_getElem (by omega)] at hj
  simp only [Option.map_some, Option.some.injEq] at hj
  subst hj
  rw [List.getD_eq_getElem?_getD, List.getElem?_eq_getElem (by omega)] at h1
  simp only [Option.getD_some] at h1
  unfold Addr.add
  split
  · rename_i e0; subst e0; exact h1
  · exact h1

theorem wpList_append_opt {P : Program} (w : World) {ops : Array Oper} {rest : List Oper} {o : Oper} {a : Act} {Q : Exit → Act → World → Prop} (hgd : o.guard = none) (s x : Operand) (t : TypeId)
    (ho : o.op = .call { callee := .builtin .append, args := #[s, x], argTypes := #[t, t] })
    (base : Nat) (e : TypeId) (i : TypeInfo) (z : Value) (size bytes : Nat) (ht : P.underlying t = some (.slice e)) (hi : P.info? e = some i) (hz : i.zero = some z)
    (hsize : i.size = size) (hby : i.bytes = bytes) (hzs : z.cells.size = size) (hsz : 0 < size)
    (v : Value) (n : Nat) (xs : List Value) (hs : a.eval s = v) (hown : w.ownsRow base e size v n xs)
    (ao : Option Addr) (m c : Nat) (news : List Value) (hx : a.eval x = .slice ao m c) (hl : news.length = m * size) (hnone : ao = none → m = 0 ∧ c = 0)
    (hnews : ∀ ad, ao = some ad → ∀ j u, news[j]? = some u → w.cell? (ad.add j) = some u) (h1 : ∀ u ∈ news, u.oneCell' = true)
    (h63 : n + m ≤ maxLen) (hbytes : (n + m) * bytes ≤ 140737488355328) (hbase : base ≤ w.heap.size)
    (h : ∀ v' w', w'.ownsRow base e size v' (n + m) (xs ++ news) → w.grownBy w' v.ownBlock → wpList P ops Q rest (a.put o.dst v') w') : wpList P ops Q (o :: rest) a w := by
  cases ao with
  | some ad => exact wpList_append_own w hgd s x t ho base e i z size bytes ht hi hz hsize hby hzs hsz v n xs hs hown ad m c news hx hl (hnews ad rfl) h1 h63 hbytes hbase (fun v' w' h2 h3 _ => h v' w' h2 h3)
  | none =>
    obtain ⟨rfl, rfl⟩ := hnone rfl
    have hn : news = [] := List.eq_nil_of_length_eq_zero (by simpa using hl)
    subst hn
    refine wpList_plain hgd fun K hK' => ?_
    have hrun := run_append_owned_none (P := P) w base t o.type e i size ht hi v n xs hown
    unfold Oper.wp
    simp [execOp, ho, resolve, invoke, builtin, hs, hx, hrun, Result.andThen]
    exact hK' _ _ (h v w (by simpa using hown) (World.grownBy.refl _ _))

set_option maxHeartbeats 2000000 in
theorem l2Trim_any {a : Option Addr} {n c : Nat} {zs : List Int} (w : World) (hz : Sees w a n c zs) (hn : n ≤ 1048576) :
    Calls Tryz.prog 110 #[.slice a n c] w fun e w' => ∃ a' m cap', e = .returned (.slice a' m cap') ∧ Owns 2 w' w.heap.size a' m cap' (M.trim zs) ∧ Below w.heap.size w w' := by
  have HZ : Hid (Sees w a n c zs) := hz
  have HN : Hid (a = none → n = 0 ∧ c = 0) := hz.no
  have hcap : n ≤ c := hz.le
  have hcb : (c : Int) ≤ 9223372036854775807 := hz.big
  obtain ⟨i0, hi, hz0, hz1, hz2⟩ := info_parts info_i64
  have HI : Hid (Tryz.prog.info? 2 = some i0 ∧ i0.zero = some (Value.int .i64 0) ∧ i0.size = 1 ∧ i0.bytes = 8) := ⟨hi, hz0, hz1, hz2⟩
  have HL : Hid (∀ k, k ≤ n → ((zs.take k).map (Value.int .i64)).length = k * 1) := fun k hk => by rw [List.length_map, List.length_take, hz.len]; omega
  clear hz hi hz0 hz1 hz2
  go_enter Tryz.func110, Tryz.ntmps110
  go_wp2
  go_loop [3] (fun s => ∃ k : Nat, k ≤ n ∧ s = .int .i64 k ∧ M.TlInv zs n k) (fun s => (intOf s).toNat)
  case atStart => exact ⟨n, Nat.le_refl _, rfl, rfl⟩
  case round =>
    obtain ⟨k, hk, rfl, hinv⟩ := hrel
    have HV : Hid (M.TlInv zs n k) := hinv
    clear hinv
    by_cases h0 : 0 < k
    · obtain ⟨b1, o1, rfl, hc1⟩ := HZ.out.at (by omega)
      have c1 := hc1 (k - 1) (by omega)
      clear hc1
      generalize hx : zs.getD (k - 1) 0 = x at c1
      have HX : Hid (zs.getD (k - 1) 0 = x) := hx
      clear hx
      have hI : (0 : Int) < (k : Int) := by omega
      have hI1 : (0 : Int) ≤ (k : Int) - 1 := by omega
      have hI2 : (k : Int) - 1 < (n : Int) := by omega
      by_cases he : x = 0
      · have hb : (x == 0) = true := by simp [he]
        have HE : Hid (M.TlInv zs n (k - 1)) := M.tlinv_step HV.out h0 (by rw [HX.out]; exact he)
        clear he
        go_wp2
        go_round
        case rel => exact ⟨k - 1, by omega, by go_num, HE.out⟩
        case measure => simp [intOf]; omega
      · have hb : (x == 0) = false := by simp [he]
        have HE : Hid (M.tl zs n = k) := M.tlinv_stop HV.out h0 (by rw [HX.out]; exact he)
        clear he
        have HNK : Hid (some (⟨b1, o1, none⟩ : Addr) = none → k = 0 ∧ c = 0) := fun h => by cases h
        go_wp2_with (at_builtin; refine wpList_append_opt _ rfl _ _ 24 rfl w.heap.size 2 i0 (.int .i64 0) 1 8 Tryz.underlying24 HI.out.1 HI.out.2.1 HI.out.2.2.1 HI.out.2.2.2 rfl (by decide) _ 0 [] rfl (World.ownsRow_made w #[] 0 (Nat.le_refl _) (by unfold maxLen; omega) rfl) (some ⟨b1, o1, none⟩) k c ((zs.take k).map (Value.int .i64)) rfl (HL.out k hk) HNK.out (sees_news (HZ.out.below ((Below.refl _ _).alloc (Nat.le_refl _) _)) k hk) (ints_int _) (by unfold maxLen; omega) (by omega) (by simp) ?_)
        intro v' w1 hown hgrow
        have hown' : w1.ownsRow w.heap.size 2 1 v' k ((zs.take k).map (Value.int .i64)) := by simpa using hown
        obtain ⟨a', cap', rfl, ho'⟩ := Owns.form hown'
        have HO' : Hid (Owns 2 w1 w.heap.size a' k cap' (M.trim zs)) := by
          show Owns 2 w1 w.heap.size a' k cap' (M.trim zs)
          unfold M.trim; rw [HZ.out.len, HE.out]; exact ho'
        have HG : Hid (Below w.heap.size w w1) := ((Below.refl w.heap.size w).alloc (Nat.le_refl _) _).grown hgrow (by simp) (fun j hj => by simp [Value.ownBlock] at hj; omega)
        clear hown hown' hgrow ho'
        go_wp2
        go_ret
        exact ⟨a', _, cap', rfl, HO'.out, HG.out⟩
    · have hk0 : k = 0 := by omega
      subst hk0
      have HE : Hid (M.tl zs n = 0) := M.tlinv_end HV.out
      have HNK : Hid (a = none → 0 = 0 ∧ c = 0) := fun h => ⟨rfl, (HN.out h).2⟩
      go_wp2_with (at_builtin; refine wpList_append_opt _ rfl _ _ 24 rfl w.heap.size 2 i0 (.int .i64 0) 1 8 Tryz.underlying24 HI.out.1 HI.out.2.1 HI.out.2.2.1 HI.out.2.2.2 rfl (by decide) _ 0 [] rfl (World.ownsRow_made w #[] 0 (Nat.le_refl _) (by unfold maxLen; omega) rfl) a 0 c ((zs.take 0).map (Value.int .i64)) rfl (HL.out 0 hk) HNK.out (sees_news (HZ.out.below ((Below.refl _ _).alloc (Nat.le_refl _) _)) 0 hk) (ints_int _) (by unfold maxLen; omega) (by omega) (by simp) ?_)
      intro v' w1 hown hgrow
      have hown' : w1.ownsRow w.heap.size 2 1 v' 0 ((zs.take 0).map (Value.int .i64)) := by simpa using hown
      obtain ⟨a', cap', rfl, ho'⟩ := Owns.form hown'
      have HO' : Hid (Owns 2 w1 w.heap.size a' 0 cap' (M.trim zs)) := by
        show Owns 2 w1 w.heap.size a' 0 cap' (M.trim zs)
        unfold M.trim; rw [HZ.out.len, HE.out]; exact ho'
      have HG : Hid (Below w.heap.size w w1) := ((Below.refl w.heap.size w).alloc (Nat.le_refl _) _).grown hgrow (by simp) (fun j hj => by simp [Value.ownBlock] at hj; omega)
      clear hown hown' hgrow ho'
      go_wp2
      go_ret
      exact ⟨a', _, cap', rfl, HO'.out, HG.out⟩

theorem run_append_mix {P : Program} (w : World) (t t2 e : TypeId) (ty : TypeId) (i : TypeInfo) (b b' : Option Addr) (n m c d : Nat) (h1 : P.underlying t = some (.slice e)) (h2 : P.underlying t2 = some (.slice e)) (hi : P.info? e = some i) :
    (Builtin.append_ #[t, t2] ty #[.slice b n c, .slice b' m d]).run P w = (Builtin.append_ #[t, t] ty #[.slice b n c, .slice b' m d]).run P w := by
  simp [Builtin.append_, run_underlying h1, run_underlying h2, sizeOf, typeInfo, hi]
theorem step_append_mix {P : Program} {ops : Array Oper} {o : Oper} {a : Act} {w : World} {K : Act → World → Prop} {Q : Exit → Act → World → Prop} {E : Prop}
    (hg : o.guard = none) (s x : Operand) (t t2 : TypeId) (hop : o.op = Op.call { callee := Callee.builtin Builtin.append, args := #[s, x], argTypes := #[t, t2] })
    (base : Nat) (e : TypeId) (i : TypeInfo) (size : Nat) (h1 : P.underlying t = some (.slice e)) (h1' : P.underlying t2 = some (.slice e)) (h2 : P.info? e = some i) (h4 : i.size = size)
    (g k cap : Nat) (xs : List Value) (hs : a.eval s = .slice (some ⟨g, 0, none⟩) k cap) (hown : w.ownsRow base e size (.slice (some ⟨g, 0, none⟩) k cap) k xs) (ao : Option Addr) (m c : Nat) (news : List Value) (hx : a.eval x = .slice ao m c) (hn : news.length = m * size)
    (hnone : ao = none → m = 0 ∧ c = 0) (hc : ∀ ad, ao = some ad → ∀ j u, news[j]? = some u → w.cell? (ad.add j) = some u) (h1c : ∀ u ∈ news, u.oneCell' = true) (b1 : k + m ≤ cap)
    (hK : ∀ w', w'.ownsRow base e size (.slice (some ⟨g, 0, none⟩) (k + m) cap) (k + m) (xs ++ news) → w.grownBy w' (some g) → K (a.put o.dst (.slice (some ⟨g, 0, none⟩) (k + m) cap)) w') :
    if Region.wanted o (yielded ops a.tmps) = true then Oper.wp P o a w K Q else E := by
  have hw : Region.wanted o (yielded ops a.tmps) = true := by simp [Region.wanted, hg]
  rw [if_pos hw]
  cases ao with
  | some ad =>
    obtain ⟨w', hrun, r1, r2⟩ := run_append_fits (P := P) w base t o.type e i size h1 h2 h4 g k cap xs hown ad m c news hn (hc ad rfl) h1c b1
    rw [← run_append_mix (P := P) w t t2 e o.type i _ _ _ _ _ _ h1 h1' h2] at hrun
    unfold Oper.wp
    simp [execOp, hop, resolve, invoke, builtin, hs, hx, hrun, Result.andThen]
    exact hK w' r1 r2
  | none =>
    obtain ⟨rfl, rfl⟩ := hnone rfl
    have hnews : news = [] := List.eq_nil_of_length_eq_zero (by simpa using hn)
    subst hnews
    have hrun := run_append_owned_none (P := P) w base t o.type e i size h1 h2 _ k xs hown
    rw [← run_append_mix (P := P) w t t2 e o.type i _ _ _ _ _ _ h1 h1' h2] at hrun
    unfold Oper.wp
    simp [execOp, hop, resolve, invoke, builtin, hs, hx, hrun, Result.andThen]
    have h := hK w (by simpa using hown) (World.grownBy.refl _ _)
    exact h

end Go.Proofs.YtfhknkppiidnkaaGreat
