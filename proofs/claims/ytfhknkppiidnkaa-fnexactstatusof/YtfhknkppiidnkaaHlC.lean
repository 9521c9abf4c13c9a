/- A market while a call works on it, in the program. -/
import Derived.Test.YtfhknkppiidnkaaHlB
namespace Go.Proofs.Ytfhknkppiidnkaa
open Go.RowKit

theorem step_append_opt {P : Program} {ops : Array Oper} {o : Oper} {a : Act} {w : World} {K : Act → World → Prop} {Q : Exit → Act → World → Prop} {E : Prop}
    (hg : o.guard = none) (s x : Operand) (t : TypeId) (hop : o.op = Op.call { callee := Callee.builtin Builtin.append, args := #[s, x], argTypes := #[t, t] })
    (base : Nat) (e : TypeId) (i : TypeInfo) (z : Value) (size bytes : Nat) (ht : P.underlying t = some (.slice e)) (hi : P.info? e = some i) (hz : i.zero = some z) (hsize : i.size = size) (hby : i.bytes = bytes) (hzs : z.cells.size = size) (hsz : 0 < size)
    (v : Value) (n : Nat) (xs : List Value) (hs : a.eval s = v) (hown : w.ownsRow base e size v n xs) (ao : Option Addr) (m c : Nat) (news : List Value) (hx : a.eval x = .slice ao m c) (hl : news.length = m * size) (hnone : ao = none → m = 0 ∧ c = 0)
    (hnews : ∀ ad, ao = some ad → ∀ j u, news[j]? = some u → w.cell? (ad.add j) = some u) (h1 : ∀ u ∈ news, u.oneCell' = true)
    (h63 : n + m ≤ maxLen) (hbytes : (n + m) * bytes ≤ 140737488355328) (hbase : base ≤ w.heap.size)
    (hK : ∀ v' w', w'.ownsRow base e size v' (n + m) (xs ++ news) → w.grownBy w' v.ownBlock → (v'.ownBlock = v.ownBlock ∨ v'.ownBlock = some w.heap.size) → K (a.put o.dst v') w') :
    if Region.wanted o (yielded ops a.tmps) = true then Oper.wp P o a w K Q else E := by
  cases ao with
  | some ad => exact step_append_at hg s x t hop base e i z size bytes ht hi hz hsize hby hzs hsz v n xs hs hown ad m c news hx hl (hnews ad rfl) h1 h63 hbytes hbase hK
  | none =>
    obtain ⟨rfl, rfl⟩ := hnone rfl
    have hn : news = [] := List.eq_nil_of_length_eq_zero (by simpa using hl)
    subst hn
    have hw : Region.wanted o (yielded ops a.tmps) = true := by simp [Region.wanted, hg]
    rw [if_pos hw]
    have hrun := run_append_owned_none (P := P) w base t o.type e i size ht hi v n xs hown
    unfold Oper.wp
    simp [execOp, hop, resolve, invoke, builtin, hs, hx, hrun, Result.andThen]
    exact hK v w (by simpa using hown) (World.grownBy.refl _ _) (.inl rfl)
theorem wpList_append_optat {P : Program} (w : World) {ops : Array Oper} {rest : List Oper} {o : Oper} {a : Act} {Q : Exit → Act → World → Prop} (hgd : o.guard = none) (s x : Operand) (t : TypeId)
    (ho : o.op = .call { callee := .builtin .append, args := #[s, x], argTypes := #[t, t] })
    (base : Nat) (e : TypeId) (i : TypeInfo) (z : Value) (size bytes : Nat) (ht : P.underlying t = some (.slice e)) (hi : P.info? e = some i) (hz : i.zero = some z)
    (hsize : i.size = size) (hby : i.bytes = bytes) (hzs : z.cells.size = size) (hsz : 0 < size)
    (v : Value) (n : Nat) (xs : List Value) (hs : a.eval s = v) (hown : w.ownsRow base e size v n xs)
    (ao : Option Addr) (m c : Nat) (news : List Value) (hx : a.eval x = .slice ao m c) (hl : news.length = m * size) (hnone : ao = none → m = 0 ∧ c = 0)
    (hnews : ∀ ad, ao = some ad → ∀ j u, news[j]? = some u → w.cell? (ad.add j) = some u) (h1 : ∀ u ∈ news, u.oneCell' = true)
    (h63 : n + m ≤ maxLen) (hbytes : (n + m) * bytes ≤ 140737488355328) (hbase : base ≤ w.heap.size)
    (h : ∀ v' w', w'.ownsRow base e size v' (n + m) (xs ++ news) → w.grownBy w' v.ownBlock → (v'.ownBlock = v.ownBlock ∨ v'.ownBlock = some w.heap.size) → wpList P ops Q rest (a.put o.dst v') w') : wpList P ops Q (o :: rest) a w := by
  cases ao with
  | some ad => exact wpList_append_own_at w hgd s x t ho base e i z size bytes ht hi hz hsize hby hzs hsz v n xs hs hown ad m c news hx hl (hnews ad rfl) h1 h63 hbytes hbase (fun v' w' h2 h3 _ h5 => h v' w' h2 h3 h5)
  | none =>
    obtain ⟨rfl, rfl⟩ := hnone rfl
    have hn : news = [] := List.eq_nil_of_length_eq_zero (by simpa using hl)
    subst hn
    refine wpList_plain hgd fun K hK' => ?_
    have hrun := run_append_owned_none (P := P) w base t o.type e i size ht hi v n xs hown
    unfold Oper.wp
    simp [execOp, ho, resolve, invoke, builtin, hs, hx, hrun, Result.andThen]
    exact hK' _ _ (h v w (by simpa using hown) (World.grownBy.refl _ _) (.inl rfl))
/-- the ids rise, and all jobs are right -/
theorem M.jsGo_rise {now next : Int} : ∀ {js : List M.Jb} {last : Int}, M.jsGo now next last js = true → (∀ j ∈ js, last < j.id ∧ j.id < next ∧ M.jbOk now j = true) ∧ js.Pairwise (fun a b => a.id < b.id)
  | [], _, _ => ⟨fun j hj => by simp at hj, List.Pairwise.nil⟩
  | x :: l, last, h => by
    unfold M.jsGo at h
    simp only [Bool.and_eq_true, decide_eq_true_eq] at h
    obtain ⟨⟨⟨h1, h2⟩, h3⟩, h4⟩ := h
    obtain ⟨ih1, ih2⟩ := M.jsGo_rise h4
    refine ⟨fun j hj => ?_, List.pairwise_cons.2 ⟨fun j hj => (ih1 j hj).1, ih2⟩⟩
    rcases List.mem_cons.1 hj with rfl | hj
    · exact ⟨by omega, by omega, h3⟩
    · obtain ⟨a, b, c⟩ := ih1 j hj
      exact ⟨by omega, b, c⟩
theorem M.bn_few {bs : List Int} (h : M.bnGo 0 bs = true) : bs.length ≤ 9 := by
  have key : ∀ (l : List Int) (x : Int), 0 ≤ x → x ≤ 9 → M.bnGo x l = true → (l.length : Int) ≤ 9 - x := by
    intro l
    induction l with
    | nil => intro x h0 h9 _; simp; omega
    | cons y l ih =>
      intro x h0 h9 h
      unfold M.bnGo M.wkOk at h
      simp only [Bool.and_eq_true, decide_eq_true_eq] at h
      have := ih y (by omega) (by omega) h.2
      rw [List.length_cons]
      omega
  have := key bs 0 (by omega) (by omega) h
  omega
structure M.Right (now next : Int) (bs : List Int) (js : List M.Jb) : Prop where
  now0 : 0 ≤ now
  now1 : now ≤ 1000000000
  next0 : 1 ≤ next
  next1 : next ≤ 1000000000
  few : js.length ≤ 6
  bn : M.bnGo 0 bs = true
  job : ∀ j ∈ js, 0 < j.id ∧ j.id < next ∧ M.jbOk now j = true
  rise : js.Pairwise (fun a b => a.id < b.id)
  nd : (M.wks js).Nodup
  bd : ∀ x ∈ M.wks js, bs.contains x = false
theorem M.right_iff {now next : Int} {bs : List Int} {js : List M.Jb} (h : M.mkOk now next bs js = true) : M.Right now next bs js := by
  unfold M.mkOk at h
  simp only [Bool.and_eq_true, decide_eq_true_eq] at h
  obtain ⟨⟨h1, h2⟩, ⟨h3, h4⟩, h5, ⟨h6, h7⟩, h8, h9⟩ := h
  obtain ⟨h10, h11⟩ := M.jsGo_rise h7
  refine ⟨h1, h2, h3, h4, h6, h5, h10, h11, h8, fun x hx => ?_⟩
  simp only [Bool.not_eq_true', List.any_eq_false] at h9
  simpa using h9 x hx
theorem M.Right.before {now next : Int} {bs : List Int} {js : List M.Jb} (h : M.Right now next bs js) {k : Nat} (hk : k < js.length) : ∀ x ∈ js.take k, x.id ≠ (js.getD k M.j0).id := by
  intro x hx
  have hp := h.rise
  rw [← List.take_append_drop k js, List.pairwise_append] at hp
  have hd : js.drop k = js.getD k M.j0 :: js.drop (k + 1) := drop_step M.j0 rfl hk
  have := hp.2.2 x hx (js.getD k M.j0) (by rw [hd]; simp)
  omega
theorem M.Right.tasks {now next : Int} {bs : List Int} {js : List M.Jb} (h : M.Right now next bs js) : ∀ j ∈ js, 1 ≤ j.ts.length ∧ j.ts.length ≤ 8 := by
  intro j hj
  have := (h.job j hj).2.2
  unfold M.jbOk at this
  simp only [Bool.and_eq_true, decide_eq_true_eq] at this
  exact ⟨this.1.2.2.2.1, this.1.2.2.2.2.1⟩
theorem info_taskK : (Try.prog.info? 53).map (fun i => (i.zero, i.size, i.bytes)) = some (some (.agg #[.bool false, .int .i64 0, .int .i64 0]), 3, 24) := by kernel_rfl
theorem SeesT.news {w : World} {a : Option Addr} {n cap : Nat} {ts : List M.Tk} (h : SeesT w a n cap ts) : ∀ ad, a = some ad → ∀ j u, (ts.flatMap tvs)[j]? = some u → w.cell? (ad.add j) = some u := by
  intro ad e j u hj
  have hl := h.len
  have hjl : j < ts.length * 3 := by
    have := (List.getElem?_eq_some_iff.1 hj).1
    rwa [flat_len tvs_len] at this
  obtain ⟨b, off, e2, hc⟩ := h.at (by omega)
  rw [e] at e2
  simp only [Option.some.injEq] at e2
  subst e2
  have hq : j / 3 < ts.length := by rw [Nat.div_lt_iff_lt_mul (by omega)]; exact hjl
  have hm : j % 3 < 3 := Nat.mod_lt _ (by omega)
  have h1 := hc (j / 3) (by omega) (j % 3) hm
  rw [← flat_get tvs_len M.t0 ts hq hm, show off + j / 3 * 3 + j % 3 = off + j by omega, show j / 3 * 3 + j % 3 = j by omega, hj] at h1
  unfold Addr.add
  split
  · rename_i e0; subst e0; exact h1
  · exact h1
theorem tvs_one (ts : List M.Tk) : ∀ u ∈ ts.flatMap tvs, u.oneCell' = true := by
  intro u hu
  obtain ⟨t, _, hu⟩ := List.mem_flatMap.1 hu
  simp only [tvs, List.mem_cons, List.not_mem_nil, or_false] at hu
  rcases hu with rfl | rfl | rfl <;> rfl
/-- an empty hall -/
theorem hall_new {w : World} {base h mb : Nat} {now next : Int} {ab : Option Addr} {nb cb : Nat} {bs : List Int} (hl : Lies w h [.int .i64 now, .int .i64 next, .slice ab nb cb, .slice none 0 0, .map (some mb)]) (ho : Owns 2 w base ab nb cb bs) (hm : IsMap w mb []) (hne : h ≠ mb) (hbh : base ≤ h) (hbm : base ≤ mb) (h1 : h ∉ ob ab) (h2 : mb ∉ ob ab) :
    Hall w base h now next ab nb cb bs none 0 0 mb [] :=
  ⟨hl, ho, Owns.empty _ _ _, hm, fun q hq => by simp at hq, bls_nodup.2 ⟨⟨hne, h1, by simp [ob], by simp⟩, ⟨h2, by simp [ob], by simp⟩, fun g _ => ⟨by simp [ob], by simp⟩, fun g hg => by simp [ob] at hg, by simp⟩, fun g hg => by
    unfold bls at hg
    simp only [List.mem_cons, List.mem_append, ob, List.flatMap_nil, List.not_mem_nil, or_false] at hg
    rcases hg with rfl | rfl | hg
    · exact hbh
    · exact hbm
    · exact (World.ownsRow.lt ho g (ob_own hg)).1⟩
set_option maxHeartbeats 8000000 in
set_option maxRecDepth 10000 in
theorem hallOf_no {ab aj : Option Addr} {nb cb nj cj : Nat} {bs : List Int} {js : List M.Jb} (now next : Int) (w : World) (hz : SeesM w ab nb cb aj nj cj bs js) (hf : M.mkOk now next bs js = false) :
    Calls Try.prog 45 #[.agg #[.int .i64 now, .int .i64 next, .slice ab nb cb, .slice aj nj cj]] w fun e w' => e = .returned (.tuple #[.pointer none, .bool false]) ∧ Below w.heap.size w w' := by
  have HM : Hid (SeesM w ab nb cb aj nj cj bs js) := hz
  have C1 : ∀ W, SeesM W ab nb cb aj nj cj bs js → Calls Try.prog 8 #[.agg #[.int .i64 now, .int .i64 next, .slice ab nb cb, .slice aj nj cj]] W fun e w' => e = .returned (.bool false) ∧ Below W.heap.size W w' := fun W h => by rw [← hf]; exact implMarketOk_any now next W h
  clear hz hf
  go_enter Try.func45, Try.ntmps45
  have HA_0 : Hid (Lies (w.alloc (.cells #[.int .i64 now, .int .i64 next, .slice ab nb cb, .slice aj nj cj] 30)) w.heap.size [.int .i64 now, .int .i64 next, .slice ab nb cb, .slice aj nj cj]) := lies_new _ _ _
  have HB_0 : Hid (Below w.heap.size w (w.alloc (.cells #[.int .i64 now, .int .i64 next, .slice ab nb cb, .slice aj nj cj] 30))) := (Below.refl _ _).alloc (Nat.le_refl _) _
  go_wp2_with fail
  generalize (w.alloc (.cells #[.int .i64 now, .int .i64 next, .slice ab nb cb, .slice aj nj cj] 30)) = wa at HA_0 HB_0  ⊢
  refine (C1 _ (HM.out.below HB_0.out)).mono ?_
  rintro e wb ⟨rfl, hb⟩
  have HA_1 : Hid (Lies wb w.heap.size [.int .i64 now, .int .i64 next, .slice ab nb cb, .slice aj nj cj]) := HA_0.out.belowS hb
  have HB_1 : Hid (Below w.heap.size w wb) := HB_0.out.trans (hb.mono HB_0.out.size)
  clear HA_0 HB_0
  clear hb
  go_wp2
  exact bodyPost_ret (v := .tuple #[.pointer none, .bool false]) (by simp [results, Try.results45, go_sem]) rfl ⟨rfl, HB_1.out⟩
/-- what hallOf leaves -/
def HallPost (w : World) (now next : Int) (bs : List Int) (js : List M.Jb) (e : Ending) (w' : World) : Prop :=
  ∃ h ab nb cb ai ni ci mb qs, e = .returned (.tuple #[.pointer (some ⟨h, 0, none⟩), .bool true]) ∧ Hall w' w.heap.size h now next ab nb cb bs ai ni ci mb qs ∧ qs.map (·.j) = js ∧ Below w.heap.size w w'
set_option maxHeartbeats 8000000 in
set_option maxRecDepth 10000 in
theorem hallOf_yes {ab aj : Option Addr} {nb cb nj cj : Nat} {bs : List Int} {js : List M.Jb} (now next : Int) (w : World) (hz : SeesM w ab nb cb aj nj cj bs js) (hf : M.mkOk now next bs js = true) :
    Calls Try.prog 45 #[.agg #[.int .i64 now, .int .i64 next, .slice ab nb cb, .slice aj nj cj]] w fun e w' => HallPost w now next bs js e w' := by
  have HM : Hid (SeesM w ab nb cb aj nj cj bs js) := hz
  have C1 : ∀ W, SeesM W ab nb cb aj nj cj bs js → Calls Try.prog 8 #[.agg #[.int .i64 now, .int .i64 next, .slice ab nb cb, .slice aj nj cj]] W fun e w' => e = .returned (.bool true) ∧ Below W.heap.size W w' := fun W h => by rw [← hf]; exact implMarketOk_any now next W h
  have HF : Hid (M.mkOk now next bs js = true) := hf
  clear hz hf
  go_enter Try.func45, Try.ntmps45
  have HA_0 : Hid (Lies (w.alloc (.cells #[.int .i64 now, .int .i64 next, .slice ab nb cb, .slice aj nj cj] 30)) w.heap.size [.int .i64 now, .int .i64 next, .slice ab nb cb, .slice aj nj cj]) := lies_new _ _ _
  have HB_0 : Hid (Below w.heap.size w (w.alloc (.cells #[.int .i64 now, .int .i64 next, .slice ab nb cb, .slice aj nj cj] 30))) := (Below.refl _ _).alloc (Nat.le_refl _) _
  go_wp2_with fail
  generalize (w.alloc (.cells #[.int .i64 now, .int .i64 next, .slice ab nb cb, .slice aj nj cj] 30)) = wa at HA_0 HB_0  ⊢
  refine (C1 _ (HM.out.below HB_0.out)).mono ?_
  rintro e wb ⟨rfl, hb⟩
  have HA_1 : Hid (Lies wb w.heap.size [.int .i64 now, .int .i64 next, .slice ab nb cb, .slice aj nj cj]) := HA_0.out.belowS hb
  have HB_1 : Hid (Below w.heap.size w wb) := HB_0.out.trans (hb.mono HB_0.out.size)
  clear HA_0 HB_0
  clear hb
  have x0 : wb.cell? ⟨w.heap.size, 0, none⟩ = some (.int .i64 now) := HA_1.out.at 0
  have x1 : wb.cell? ⟨w.heap.size, 1, none⟩ = some (.int .i64 next) := HA_1.out.at 1
  have x2 : wb.cell? ⟨w.heap.size, 2, none⟩ = some (.slice ab nb cb) := HA_1.out.at 2
  have x3 : wb.cell? ⟨w.heap.size, 3, none⟩ = some (.slice aj nj cj) := HA_1.out.at 3
  have hmk := run_makeMap (P := Try.prog) 86 wb
  go_wp2_with fail
  clear x0 x1 x2 x3 hmk
  have hbw : Below wb.heap.size wb ((wb.alloc (.map #[] 0)).alloc (.cells #[.int .i64 now, .int .i64 next, .slice none 0 0, .slice none 0 0, .map (some wb.heap.size)] 88)) := ((Below.refl _ _).alloc (Nat.le_refl _) _).alloc (by simp) _
  have HBS : Hid (w.heap.size ≤ wb.heap.size) := HB_1.out.size
  have HA_2 : Hid (Lies ((wb.alloc (.map #[] 0)).alloc (.cells #[.int .i64 now, .int .i64 next, .slice none 0 0, .slice none 0 0, .map (some wb.heap.size)] 88)) w.heap.size [.int .i64 now, .int .i64 next, .slice ab nb cb, .slice aj nj cj]) := HA_1.out.belowS hbw
  have HB_2 : Hid (Below w.heap.size w ((wb.alloc (.map #[] 0)).alloc (.cells #[.int .i64 now, .int .i64 next, .slice none 0 0, .slice none 0 0, .map (some wb.heap.size)] 88))) := HB_1.out.trans (hbw.mono HB_1.out.size)
  clear HA_1 HB_1
  clear hbw
  have HH_2 : Hid (Lies ((wb.alloc (.map #[] 0)).alloc (.cells #[.int .i64 now, .int .i64 next, .slice none 0 0, .slice none 0 0, .map (some wb.heap.size)] 88)) (wb.heap.size + 1) [.int .i64 now, .int .i64 next, .slice none 0 0, .slice none 0 0, .map (some wb.heap.size)]) := lies_new2 wb _ _ _
  have HM1 : Hid (IsMap ((wb.alloc (.map #[] 0)).alloc (.cells #[.int .i64 now, .int .i64 next, .slice none 0 0, .slice none 0 0, .map (some wb.heap.size)] 88)) wb.heap.size []) := (isMap_new wb).alloc _
  have HSZ : Hid (((wb.alloc (.map #[] 0)).alloc (.cells #[.int .i64 now, .int .i64 next, .slice none 0 0, .slice none 0 0, .map (some wb.heap.size)] 88)).heap.size = wb.heap.size + 1 + 1) := by show _ = _; simp
  generalize ((wb.alloc (.map #[] 0)).alloc (.cells #[.int .i64 now, .int .i64 next, .slice none 0 0, .slice none 0 0, .map (some wb.heap.size)] 88)) = w1 at HA_2 HB_2 HH_2 HM1 HSZ ⊢
  generalize hhb : wb.heap.size + 1 = hb at HH_2 HSZ ⊢
  generalize wb.heap.size = mb at hhb HM1 HBS HH_2 ⊢
  have HHB : Hid (mb + 1 = hb) := hhb
  clear hhb
  have h2 : w1.cell? ⟨hb, 2, none⟩ = some (.slice none 0 0) := HH_2.out.at 2
  have m2 : w1.cell? ⟨w.heap.size, 2, none⟩ = some (.slice ab nb cb) := HA_2.out.at 2
  have hsb := (HM.out.below HB_2.out).b
  have HSB : Hid (Sees w1.drew ab nb cb bs) := hsb.of_cells fun _ _ hp _ => hp
  have HLB : Hid (bs.length = nb) := hsb.len
  have HNB : Hid (ab = none → nb = 0 ∧ cb = 0) := hsb.no
  have HR : Hid (M.Right now next bs js) := M.right_iff HF.out
  have hnbI : nb ≤ 9 := by have := M.bn_few HR.out.bn; rw [HLB.out] at this; exact this
  clear hsb
  obtain ⟨i0, hi, hz0, hz1, hz2⟩ := info_parts info_i64
  have HNL : Hid (((bs.take nb).map (Value.int .i64)).length = nb * 1) := by show _ = _; have := HLB.out; simp; omega
  have HBx : Hid (w.heap.size ≤ w1.heap.size) := HB_2.out.size
  apply cutK
  case f =>
    intro key
    go_region_law (refine step_append_opt rfl (.tmp 21) (.tmp 23) 22 rfl w.heap.size 2 i0 (.int .i64 0) 1 8 Try.underlying22 hi hz0 hz1 hz2 rfl (by decide) (.slice none 0 0) 0 [] (by simp [Act.eval]) (World.ownsRow_nil _ _ _ _) ab nb cb ((bs.take nb).map (Value.int .i64)) (by simp [Act.eval]) HNL.out HNB.out (sees_news HSB.out nb (Nat.le_refl _)) (ints_int _) (by unfold maxLen; omega) (by omega) HBx.out ?_; intro v' w7 hown hgrow hat; have hown' : w7.ownsRow w.heap.size 2 1 v' nb (bs.map (Value.int .i64)) := (by rw [Nat.zero_add, List.nil_append, List.take_of_length_le (Nat.le_of_eq HLB.out)] at hown; exact hown); obtain ⟨ab', cb', rfl, ho⟩ := Owns.form hown'; have HO7 : Hid (Owns 2 w7 w.heap.size ab' nb cb' bs) := ho; have HG7 : Hid (w1.grownBy w7 none) := (grown_drew _ _).trans hgrow; have HA7 : Hid ((Value.slice ab' nb cb').ownBlock = none ∨ (Value.slice ab' nb cb').ownBlock = some w1.heap.size) := hat; have HL7 : Hid (Lies w7 hb [.int .i64 now, .int .i64 next, .slice none 0 0, .slice none 0 0, .map (some mb)]) := HH_2.out.grown HG7.out (by simp); have c3 : w7.cell? ⟨hb, 2, none⟩ = some (.slice none 0 0) := HL7.out.at 2; have f3 : w7.frozen? ⟨hb, 2, none⟩ = false := HL7.out.fr 2; clear hown hown' hgrow hat ho)
    all_goals
      clear c3 f3
      revert w7 ab' cb'
      exact key.out
  case h =>
    intro w7 ab' cb' HO7 HG7 HA7 HL7
    have HL8 : Hid (Lies (w7.setCell ⟨hb, 2, none⟩ (.slice ab' nb cb')) hb [.int .i64 now, .int .i64 next, .slice ab' nb cb', .slice none 0 0, .map (some mb)]) := HL7.out.set 2 (by simp) _
    have HG8 : Hid (w7.grownBy (w7.setCell ⟨hb, 2, none⟩ (.slice ab' nb cb')) (some hb)) := grown_setCell _ _ _
    have HM8 : Hid (IsMap (w7.setCell ⟨hb, 2, none⟩ (.slice ab' nb cb')) mb []) := (HM1.out.grown HG7.out (by simp)).setCell _ _
    have hlt : hb < w1.heap.size := by rw [HSZ.out]; omega
    have hob : ∀ g ∈ ob ab', w1.heap.size ≤ g := fun g hg => by have e := ob_own (n := nb) (c := cb') hg; rcases HA7.out with e2 | e2 <;> rw [e2] at e <;> simp at e; omega
    have HO8 : Hid (Owns 2 (w7.setCell ⟨hb, 2, none⟩ (.slice ab' nb cb')) w.heap.size ab' nb cb' bs) := HO7.out.grown HG8.out (fun g hg e => by have := hob g hg; have := Option.some.inj e; omega)
    have HB8 : Hid (Below w.heap.size w (w7.setCell ⟨hb, 2, none⟩ (.slice ab' nb cb'))) := (HB_2.out.trans (below_of_grown HG7.out HBx.out (by simp))).trans (below_of_grown HG8.out (Nat.le_trans HBx.out HG7.out.size) (fun z e => by have := Option.some.inj e; have := HHB.out; have := HBS.out; omega))
    have HA8 : Hid (Lies (w7.setCell ⟨hb, 2, none⟩ (.slice ab' nb cb')) w.heap.size [.int .i64 now, .int .i64 next, .slice ab nb cb, .slice aj nj cj]) := (HA_2.out.grown HG7.out (by simp)).far (by have := HHB.out; have := HBS.out; omega) _ _
    have HX : Hid (Hall (w7.setCell ⟨hb, 2, none⟩ (.slice ab' nb cb')) w.heap.size hb now next ab' nb cb' bs none 0 0 mb []) := hall_new HL8.out HO8.out HM8.out (by have := HHB.out; omega) (by have := HHB.out; have := HBS.out; omega) HBS.out (fun e => by have := hob _ e; omega) (fun e => by have := hob _ e; have := HHB.out; omega)
    generalize (w7.setCell ⟨hb, 2, none⟩ (.slice ab' nb cb')) = w8 at HX HA8 HB8 HL8 HG8 HM8 HO8 ⊢
    clear HL8 HG8 HM8 HO8 HO7 HG7 HA7 HL7 hob hlt HM1 h2 m2 HNL HSB HSZ HBx HA_2 HB_2 HH_2
    have hjl := HM.out.j.len
    have hnj : nj ≤ 6 := by have := HR.out.few; omega
    have bnj : (nj : Int) ≤ 9223372036854775807 := by omega
    have hjl2 := HM.out.j.le
    have hcj : (nj : Int) ≤ cj := by omega
    clear hjl2 hi hz0 hz1 hz2 i0 HNB HLB C1 HF
    have x3 : w8.cell? ⟨w.heap.size, 3, none⟩ = some (.slice aj nj cj) := HA8.out.at 3
    go_wp2_with fail
    clear x3
    go_loopw [30] (fun i wr => ∃ (k : Nat) (ai : Option Addr) (ni ci : Nat) (qs : List HJ), k ≤ nj ∧ i = .int .i64 k ∧ Hall wr w.heap.size hb now next ab' nb cb' bs ai ni ci mb qs ∧ qs.map (·.j) = js.take k ∧ Below w.heap.size w wr) (fun i _ => nj - (intOf i).toNat)
    case atStart => exact ⟨0, none, 0, 0, [], by omega, rfl, HX.out, rfl, HB8.out⟩
    case round =>
      obtain ⟨kk, ai, ni, ci, qs, hk, rfl, hh, hqs, hb1⟩ := hrel
      clear HX HB8 HA8
      by_cases hlt : kk < nj
      case pos =>
        obtain ⟨b1, o1, rfl, hc1⟩ := (HM.out.j.below hb1).at (by omega)
        obtain ⟨ta, tc, hA, hT⟩ := hc1 kk hlt
        have hkI : (kk : Int) < (nj : Int) := by omega
        have hmem : js.getD kk M.j0 ∈ js := by rw [List.getD_eq_getElem?_getD, List.getElem?_eq_getElem (by omega)]; simp
        have htk : js.take (kk + 1) = js.take kk ++ [js.getD kk M.j0] := by rw [List.take_add_one, List.getD_eq_getElem?_getD, List.getElem?_eq_getElem (by omega)]; simp
        have hbf := HR.out.before (k := kk) (by omega)
        have htt := HR.out.tasks _ hmem
        have hni : ni = kk := by have h1 := hh.i.len; have h2 := congrArg List.length hqs; rw [List.length_map] at h1 h2; rw [List.length_take] at h2; omega
        have HNQ : Hid (∀ q ∈ qs, q.j.id ≠ (js.getD kk M.j0).id) := fun q hq => hbf q.j (by rw [← hqs]; exact List.mem_map.2 ⟨q, hq, rfl⟩)
        generalize js.getD kk M.j0 = cq at hA hT htk htt HNQ
        obtain ⟨jid, ⟨⟨a, b, c', d, f, k⟩, ⟨a', b', c'', d', f', k'⟩⟩, ⟨s1, s2⟩, jr, jg, tl⟩ := cq
        dsimp only at hT htk htt HNQ
        have hR : wr.rangeAt b1 (o1 + kk * 18) (jvs ⟨jid, ⟨⟨a, b, c', d, f, k⟩, ⟨a', b', c'', d', f', k'⟩⟩, (s1, s2), jr, jg, tl⟩ ta tc) := row_of_cells rfl hA
        have HT : Hid (SeesT wr ta tl.length tc tl) := hT
        dsimp only [jvs] at hR
        generalize htl : tl.length = tn at hR HT htt
        have HTL : Hid (tl.length = tn) := htl
        have HQS : Hid (qs.map (·.j) ++ [⟨jid, ⟨⟨a, b, c', d, f, k⟩, ⟨a', b', c'', d', f', k'⟩⟩, (s1, s2), jr, jg, tl⟩] = js.take (kk + 1)) := by show _ = _; rw [hqs]; exact htk.symm
        have HNI : Hid (ni = kk) := hni
        clear hc1 hA hT hmem htk hbf hqs htl hni
        have HB_0 : Hid (Below w.heap.size w wr) := hb1
        have HG_0 : Hid (Hall wr w.heap.size hb now next ab' nb cb' bs ai ni ci mb qs) := hh
        have T1_0 : Hid (SeesT wr ta tn tc tl) := HT.out
        have HLT : Hid (∀ g ∈ bls hb mb ab' ai qs, g < wr.heap.size) := hh.lt
        have HWB : Hid (w.heap.size ≤ wr.heap.size) := hb1.size
        clear hb1 hh HT
        go_wp2_with (with_reducible refine wpList_stop 33 ?_ ?_; rfl)
        show wpList _ _ _ _ _ _
        have iL : (Try.prog.info? 48).map (·.size) = some ([.int .i64 jid, .int .i64 a, .int .i64 b, .int .i64 c', .int .i64 d, .int .i64 f, .int .i64 k, .int .i64 a', .int .i64 b', .int .i64 c'', .int .i64 d', .int .i64 f', .int .i64 k', .int .i64 s1, .int .i64 s2, .int .i64 jr, .bool jg, .slice ta tn tc] : List Value).length := (show (Try.prog.info? 48).map (·.size) = some 18 by kernel_rfl)
        with_reducible refine wpList_load_mid ?qg 48 ?qlj ?qo b1 (o1 + kk * 18) ?qhx [.int .i64 jid, .int .i64 a, .int .i64 b, .int .i64 c', .int .i64 d, .int .i64 f, .int .i64 k, .int .i64 a', .int .i64 b', .int .i64 c'', .int .i64 d', .int .i64 f', .int .i64 k', .int .i64 s1, .int .i64 s2, .int .i64 jr, .bool jg, .slice ta tn tc] _ hR Try.underlying48 ?qd iL ?qr
        case qg => exact rfl
        case qo => exact rfl
        case qhx => exact rfl
        case qd => exact rfl
        case qr =>
          clear iL
          show wpList _ _ _ _ _ _
          clear hR
          have HSW : Hid (wr.heap.size = wr.heap.size) := rfl
          go_wp2_with (with_reducible refine wpList_stop 6 ?_ ?_; rfl)
          show wpList _ _ _ _ _ _
          have hal : (Instr.alloc 48 true (.tuple #[])).run Try.prog wr = .ok (.pointer (some ⟨wr.heap.size, 0, none⟩)) (wr.alloc (.cells #[.int .i64 0, .int .i64 0, .int .i64 0, .int .i64 0, .int .i64 0, .int .i64 0, .int .i64 0, .int .i64 0, .int .i64 0, .int .i64 0, .int .i64 0, .int .i64 0, .int .i64 0, .int .i64 0, .int .i64 0, .int .i64 0, .bool false, .slice none 0 0] 48)) := by kernel_rfl
          with_reducible refine wpList_alloc_as ?qg 48 ?qo #[.int .i64 0, .int .i64 0, .int .i64 0, .int .i64 0, .int .i64 0, .int .i64 0, .int .i64 0, .int .i64 0, .int .i64 0, .int .i64 0, .int .i64 0, .int .i64 0, .int .i64 0, .int .i64 0, .int .i64 0, .int .i64 0, .bool false, .slice none 0 0] hal ?qr
          case qg => exact rfl
          case qo => exact rfl
          case qr =>
            clear hal
            show wpList _ _ _ _ _ _
            have tA : (wr.alloc (.cells #[.int .i64 0, .int .i64 0, .int .i64 0, .int .i64 0, .int .i64 0, .int .i64 0, .int .i64 0, .int .i64 0, .int .i64 0, .int .i64 0, .int .i64 0, .int .i64 0, .int .i64 0, .int .i64 0, .int .i64 0, .int .i64 0, .bool false, .slice none 0 0] 48)).there wr.heap.size 0 ([.int .i64 jid, .int .i64 a, .int .i64 b, .int .i64 c', .int .i64 d, .int .i64 f, .int .i64 k, .int .i64 a', .int .i64 b', .int .i64 c'', .int .i64 d', .int .i64 f', .int .i64 k', .int .i64 s1, .int .i64 s2, .int .i64 jr, .bool jg, .slice ta tn tc] : List Value).toArray.size := (lies_new _ _ _).there _ 18 (by simp)
            have iA : (Try.prog.info? 48).map (·.size) = some ([.int .i64 jid, .int .i64 a, .int .i64 b, .int .i64 c', .int .i64 d, .int .i64 f, .int .i64 k, .int .i64 a', .int .i64 b', .int .i64 c'', .int .i64 d', .int .i64 f', .int .i64 k', .int .i64 s1, .int .i64 s2, .int .i64 jr, .bool jg, .slice ta tn tc] : List Value).toArray.size := (show (Try.prog.info? 48).map (·.size) = some 18 by kernel_rfl)
            with_reducible refine wpList_store_mid ?qg 48 ?qsx0 ?qsy0 ?qo wr.heap.size 0 ([.int .i64 jid, .int .i64 a, .int .i64 b, .int .i64 c', .int .i64 d, .int .i64 f, .int .i64 k, .int .i64 a', .int .i64 b', .int .i64 c'', .int .i64 d', .int .i64 f', .int .i64 k', .int .i64 s1, .int .i64 s2, .int .i64 jr, .bool jg, .slice ta tn tc] : List Value).toArray ?qhx ?qhy tA iA (by kernel_rfl) ?qr
            case qg => exact rfl
            case qo => exact rfl
            case qhx => exact rfl
            case qhy => exact rfl
            case qr =>
              clear tA iA
              show wpList _ _ _ _ _ ((wr.alloc (.cells #[.int .i64 0, .int .i64 0, .int .i64 0, .int .i64 0, .int .i64 0, .int .i64 0, .int .i64 0, .int .i64 0, .int .i64 0, .int .i64 0, .int .i64 0, .int .i64 0, .int .i64 0, .int .i64 0, .int .i64 0, .int .i64 0, .bool false, .slice none 0 0] 48)).setCells wr.heap.size 0 [.int .i64 jid, .int .i64 a, .int .i64 b, .int .i64 c', .int .i64 d, .int .i64 f, .int .i64 k, .int .i64 a', .int .i64 b', .int .i64 c'', .int .i64 d', .int .i64 f', .int .i64 k', .int .i64 s1, .int .i64 s2, .int .i64 jr, .bool jg, .slice ta tn tc])
              have hba : Below wr.heap.size wr ((wr.alloc (.cells #[.int .i64 0, .int .i64 0, .int .i64 0, .int .i64 0, .int .i64 0, .int .i64 0, .int .i64 0, .int .i64 0, .int .i64 0, .int .i64 0, .int .i64 0, .int .i64 0, .int .i64 0, .int .i64 0, .int .i64 0, .int .i64 0, .bool false, .slice none 0 0] 48)).setCells wr.heap.size 0 [.int .i64 jid, .int .i64 a, .int .i64 b, .int .i64 c', .int .i64 d, .int .i64 f, .int .i64 k, .int .i64 a', .int .i64 b', .int .i64 c'', .int .i64 d', .int .i64 f', .int .i64 k', .int .i64 s1, .int .i64 s2, .int .i64 jr, .bool jg, .slice ta tn tc]) := below_setCells _ _ ((Below.refl _ _).alloc (Nat.le_refl _) _) (Nat.le_refl _)
              have HB_1 : Hid (Below w.heap.size w ((wr.alloc (.cells #[.int .i64 0, .int .i64 0, .int .i64 0, .int .i64 0, .int .i64 0, .int .i64 0, .int .i64 0, .int .i64 0, .int .i64 0, .int .i64 0, .int .i64 0, .int .i64 0, .int .i64 0, .int .i64 0, .int .i64 0, .int .i64 0, .bool false, .slice none 0 0] 48)).setCells wr.heap.size 0 [.int .i64 jid, .int .i64 a, .int .i64 b, .int .i64 c', .int .i64 d, .int .i64 f, .int .i64 k, .int .i64 a', .int .i64 b', .int .i64 c'', .int .i64 d', .int .i64 f', .int .i64 k', .int .i64 s1, .int .i64 s2, .int .i64 jr, .bool jg, .slice ta tn tc])) := HB_0.out.trans (hba.mono HB_0.out.size)
              have HG_1 : Hid (Hall ((wr.alloc (.cells #[.int .i64 0, .int .i64 0, .int .i64 0, .int .i64 0, .int .i64 0, .int .i64 0, .int .i64 0, .int .i64 0, .int .i64 0, .int .i64 0, .int .i64 0, .int .i64 0, .int .i64 0, .int .i64 0, .int .i64 0, .int .i64 0, .bool false, .slice none 0 0] 48)).setCells wr.heap.size 0 [.int .i64 jid, .int .i64 a, .int .i64 b, .int .i64 c', .int .i64 d, .int .i64 f, .int .i64 k, .int .i64 a', .int .i64 b', .int .i64 c'', .int .i64 d', .int .i64 f', .int .i64 k', .int .i64 s1, .int .i64 s2, .int .i64 jr, .bool jg, .slice ta tn tc]) w.heap.size hb now next ab' nb cb' bs ai ni ci mb qs) := HG_0.out.below hba
              have T1_1 : Hid (SeesT ((wr.alloc (.cells #[.int .i64 0, .int .i64 0, .int .i64 0, .int .i64 0, .int .i64 0, .int .i64 0, .int .i64 0, .int .i64 0, .int .i64 0, .int .i64 0, .int .i64 0, .int .i64 0, .int .i64 0, .int .i64 0, .int .i64 0, .int .i64 0, .bool false, .slice none 0 0] 48)).setCells wr.heap.size 0 [.int .i64 jid, .int .i64 a, .int .i64 b, .int .i64 c', .int .i64 d, .int .i64 f, .int .i64 k, .int .i64 a', .int .i64 b', .int .i64 c'', .int .i64 d', .int .i64 f', .int .i64 k', .int .i64 s1, .int .i64 s2, .int .i64 jr, .bool jg, .slice ta tn tc]) ta tn tc tl) := T1_0.out.below hba
              clear HB_0 HG_0 T1_0
              clear hba
              have HJ_1 : Hid (Lies ((wr.alloc (.cells #[.int .i64 0, .int .i64 0, .int .i64 0, .int .i64 0, .int .i64 0, .int .i64 0, .int .i64 0, .int .i64 0, .int .i64 0, .int .i64 0, .int .i64 0, .int .i64 0, .int .i64 0, .int .i64 0, .int .i64 0, .int .i64 0, .bool false, .slice none 0 0] 48)).setCells wr.heap.size 0 [.int .i64 jid, .int .i64 a, .int .i64 b, .int .i64 c', .int .i64 d, .int .i64 f, .int .i64 k, .int .i64 a', .int .i64 b', .int .i64 c'', .int .i64 d', .int .i64 f', .int .i64 k', .int .i64 s1, .int .i64 s2, .int .i64 jr, .bool jg, .slice ta tn tc]) wr.heap.size [.int .i64 jid, .int .i64 a, .int .i64 b, .int .i64 c', .int .i64 d, .int .i64 f, .int .i64 k, .int .i64 a', .int .i64 b', .int .i64 c'', .int .i64 d', .int .i64 f', .int .i64 k', .int .i64 s1, .int .i64 s2, .int .i64 jr, .bool jg, .slice ta tn tc]) := (lies_new wr #[.int .i64 0, .int .i64 0, .int .i64 0, .int .i64 0, .int .i64 0, .int .i64 0, .int .i64 0, .int .i64 0, .int .i64 0, .int .i64 0, .int .i64 0, .int .i64 0, .int .i64 0, .int .i64 0, .int .i64 0, .int .i64 0, .bool false, .slice none 0 0] 48).setCells [.int .i64 jid, .int .i64 a, .int .i64 b, .int .i64 c', .int .i64 d, .int .i64 f, .int .i64 k, .int .i64 a', .int .i64 b', .int .i64 c'', .int .i64 d', .int .i64 f', .int .i64 k', .int .i64 s1, .int .i64 s2, .int .i64 jr, .bool jg, .slice ta tn tc] 0 (by simp)
              generalize ((wr.alloc (.cells #[.int .i64 0, .int .i64 0, .int .i64 0, .int .i64 0, .int .i64 0, .int .i64 0, .int .i64 0, .int .i64 0, .int .i64 0, .int .i64 0, .int .i64 0, .int .i64 0, .int .i64 0, .int .i64 0, .int .i64 0, .int .i64 0, .bool false, .slice none 0 0] 48)).setCells wr.heap.size 0 [.int .i64 jid, .int .i64 a, .int .i64 b, .int .i64 c', .int .i64 d, .int .i64 f, .int .i64 k, .int .i64 a', .int .i64 b', .int .i64 c'', .int .i64 d', .int .i64 f', .int .i64 k', .int .i64 s1, .int .i64 s2, .int .i64 jr, .bool jg, .slice ta tn tc]) = w2 at HB_1 HG_1 T1_1 HJ_1  ⊢
              generalize wr.heap.size = jb at HJ_1 HLT HWB ⊢
              have hwj : wr.heap.size = wr.heap.size := rfl
              clear hwj HSW
              have hj2 := HJ_1.out.2.2
              have hba : Below w2.heap.size w2 (w2.alloc (.cells #[] 53)) := (Below.refl _ _).alloc (Nat.le_refl _) _
              have HB_2 : Hid (Below w.heap.size w (w2.alloc (.cells #[] 53))) := HB_1.out.trans (hba.mono HB_1.out.size)
              have HG_2 : Hid (Hall (w2.alloc (.cells #[] 53)) w.heap.size hb now next ab' nb cb' bs ai ni ci mb qs) := HG_1.out.below hba
              have T1_2 : Hid (SeesT (w2.alloc (.cells #[] 53)) ta tn tc tl) := T1_1.out.below hba
              have HJ_2 : Hid (Lies (w2.alloc (.cells #[] 53)) jb [.int .i64 jid, .int .i64 a, .int .i64 b, .int .i64 c', .int .i64 d, .int .i64 f, .int .i64 k, .int .i64 a', .int .i64 b', .int .i64 c'', .int .i64 d', .int .i64 f', .int .i64 k', .int .i64 s1, .int .i64 s2, .int .i64 jr, .bool jg, .slice ta tn tc]) := HJ_1.out.belowS hba
              clear HB_1 HG_1 T1_1 HJ_1
              clear hba
              have x17 : (w2.alloc (.cells #[] 53)).cell? ⟨jb, 17, none⟩ = some (.slice ta tn tc) := HJ_2.out.at 17
              obtain ⟨i0, hi, hz0, hz1, hz2⟩ := info_parts info_taskK
              have hszE : (w2.alloc (.cells #[] 53)).heap.size = w2.heap.size + 1 := by simp
              have hse : w.heap.size ≤ (w2.alloc (.cells #[] 53)).heap.size := HB_2.out.size
              have HLN : Hid ((tl.flatMap tvs).length = tn * 3) := by show _ = _; rw [flat_len tvs_len, HTL.out]
              go_wp2_with (with_reducible refine wpList_stop 37 ?_ ?_; rfl)
              show wpList _ _ _ _ _ _
              refine wpList_append_optat _ rfl _ _ 46 rfl w.heap.size 53 i0 (.agg #[.bool false, .int .i64 0, .int .i64 0]) 3 24 Try.underlying46 hi hz0 hz1 hz2 rfl (by decide) _ 0 [] rfl (World.ownsRow_made w2 #[] 0 (Nat.le_trans HWB.out (Nat.le_of_lt hj2)) (by unfold maxLen; omega) (by simp)) ta tn tc (tl.flatMap tvs) rfl HLN.out T1_2.out.no T1_2.out.news (tvs_one tl) (by unfold maxLen; omega) (by omega) hse ?_
              intro v' w7 hown hgrow hat
              rw [Nat.zero_add, List.nil_append] at hown
              obtain ⟨ta', tc', rfl, hT7⟩ := OwnsT.form HTL.out hown
              have HT7 : Hid (OwnsT w7 w.heap.size ta' tn tc' tl) := hT7
              have hob : ∀ g ∈ ob ta', w2.heap.size ≤ g := fun g hg => by have e := ob_own (n := tn) (c := tc') hg; rcases hat with e2 | e2 <;> (rw [e2] at e; have e := Option.some.inj e; first | exact Nat.le_of_eq e | (rw [hszE] at e; omega))
              have hg7 : (w2.alloc (.cells #[] 53)).grownBy w7 (some w2.heap.size) := hgrow
              have HLw : Hid (∀ g ∈ bls hb mb ab' ai qs, g < w2.heap.size) := fun g hg => by have := HLT.out g hg; omega
              have HG7 : Hid (Hall w7 w.heap.size hb now next ab' nb cb' bs ai ni ci mb qs) := HG_2.out.grown hg7 (fun g hg e => by have := HLw.out g hg; have := Option.some.inj e; omega)
              have HJ7 : Hid (Lies w7 jb [.int .i64 jid, .int .i64 a, .int .i64 b, .int .i64 c', .int .i64 d, .int .i64 f, .int .i64 k, .int .i64 a', .int .i64 b', .int .i64 c'', .int .i64 d', .int .i64 f', .int .i64 k', .int .i64 s1, .int .i64 s2, .int .i64 jr, .bool jg, .slice ta tn tc]) := HJ_2.out.grown hg7 (fun e => by have := Option.some.inj e; omega)
              have HB7 : Hid (Below w.heap.size w w7) := HB_2.out.trans (below_of_grown hg7 hse (fun z e => by have := Option.some.inj e; have := HWB.out; have := hj2; omega))
              have hs7 := hg7.size
              have HD7 : Hid (∀ g ∈ ob ta', g ∉ bls hb mb ab' ai qs) := fun g hg hx => by have := hob g hg; have := HLw.out g hx; omega
              have HDj : Hid (∀ g ∈ ob ta', g ≠ jb) := fun g hg e => by have := hob g hg; omega
              have HJn : Hid (∀ g ∈ bls hb mb ab' ai qs, g ≠ jb) := fun g hg e => by have := HLT.out g hg; omega
              have c17 : w7.cell? ⟨jb, 17, none⟩ = some (.slice ta tn tc) := HJ7.out.at 17
              have f17 : w7.frozen? ⟨jb, 17, none⟩ = false := HJ7.out.fr 17
              clear hown hgrow hat hT7 hob hg7 hs7 hi hz0 hz1 hz2 hszE HLN x17 HB_2 HG_2 T1_2 HJ_2
              go_wp2_with (with_reducible refine wpList_stop 40 ?_ ?_; rfl)
              show wpList _ _ _ _ _ _
              have HJ9 : Hid (Lies (w7.setCell ⟨jb, 17, none⟩ (.slice ta' tn tc')) jb [.int .i64 jid, .int .i64 a, .int .i64 b, .int .i64 c', .int .i64 d, .int .i64 f, .int .i64 k, .int .i64 a', .int .i64 b', .int .i64 c'', .int .i64 d', .int .i64 f', .int .i64 k', .int .i64 s1, .int .i64 s2, .int .i64 jr, .bool jg, .slice ta' tn tc']) := HJ7.out.set 17 (by simp) _
              have hg9 : w7.grownBy (w7.setCell ⟨jb, 17, none⟩ (.slice ta' tn tc')) (some jb) := grown_setCell _ _ _
              have HG9 : Hid (Hall (w7.setCell ⟨jb, 17, none⟩ (.slice ta' tn tc')) w.heap.size hb now next ab' nb cb' bs ai ni ci mb qs) := HG7.out.grown hg9 (fun g hg e => HJn.out g hg (Option.some.inj e).symm)
              have HT9 : Hid (OwnsT (w7.setCell ⟨jb, 17, none⟩ (.slice ta' tn tc')) w.heap.size ta' tn tc' tl) := HT7.out.grown hg9 (fun g hg e => HDj.out g hg (Option.some.inj e).symm)
              have HB9 : Hid (Below w.heap.size w (w7.setCell ⟨jb, 17, none⟩ (.slice ta' tn tc'))) := HB7.out.trans (below_of_grown hg9 HB7.out.size (fun z e => by have := Option.some.inj e; have := HWB.out; omega))
              generalize (w7.setCell ⟨jb, 17, none⟩ (.slice ta' tn tc')) = w9 at HJ9 HG9 HT9 HB9 hg9 ⊢
              clear HG7 HJ7 HB7 HT7 hg9 c17 f17
              have hR9 := HJ9.out.row
              have iL : (Try.prog.info? 48).map (·.size) = some ([.int .i64 jid, .int .i64 a, .int .i64 b, .int .i64 c', .int .i64 d, .int .i64 f, .int .i64 k, .int .i64 a', .int .i64 b', .int .i64 c'', .int .i64 d', .int .i64 f', .int .i64 k', .int .i64 s1, .int .i64 s2, .int .i64 jr, .bool jg, .slice ta' tn tc'] : List Value).length := (show (Try.prog.info? 48).map (·.size) = some 18 by kernel_rfl)
              with_reducible refine wpList_load_mid ?qg 48 ?qlk ?qo jb 0 ?qhx [.int .i64 jid, .int .i64 a, .int .i64 b, .int .i64 c', .int .i64 d, .int .i64 f, .int .i64 k, .int .i64 a', .int .i64 b', .int .i64 c'', .int .i64 d', .int .i64 f', .int .i64 k', .int .i64 s1, .int .i64 s2, .int .i64 jr, .bool jg, .slice ta' tn tc'] _ hR9 Try.underlying48 ?qd iL ?qr
              case qg => exact rfl
              case qo => exact rfl
              case qhx => exact rfl
              case qd => exact rfl
              case qr =>
                clear iL
                show wpList _ _ _ _ _ _
                clear hR9
                have C4 : Calls Try.prog 64 #[.pointer (some ⟨hb, 0, none⟩), .agg #[.int .i64 jid, .int .i64 a, .int .i64 b, .int .i64 c', .int .i64 d, .int .i64 f, .int .i64 k, .int .i64 a', .int .i64 b', .int .i64 c'', .int .i64 d', .int .i64 f', .int .i64 k', .int .i64 s1, .int .i64 s2, .int .i64 jr, .bool jg, .slice ta' tn tc']] w9 fun e w' => e = .returned (.tuple #[]) ∧ ∃ ai' ci', Hall w' w.heap.size hb now next ab' nb cb' bs ai' (ni + 1) ci' mb (qs ++ [⟨⟨jid, ⟨⟨a, b, c', d, f, k⟩, ⟨a', b', c'', d', f', k'⟩⟩, (s1, s2), jr, jg, tl⟩, w9.heap.size, ta', tc'⟩]) ∧ Below w.heap.size w9 w' := by
                  have h0 := enter_any ⟨jid, ⟨⟨a, b, c', d, f, k⟩, ⟨a', b', c'', d', f', k'⟩⟩, (s1, s2), jr, jg, tl⟩ ta' tc' w9 HG9.out HNQ.out (by show OwnsT _ _ _ tl.length _ _; rw [HTL.out]; exact HT9.out) HD7.out HB9.out.size (by rw [HNI.out]; omega)
                  dsimp only [jvs] at h0
                  rw [HTL.out] at h0
                  exact h0
                go_wp2_with fail
                refine C4.mono ?_
                rintro e w10 ⟨rfl, ai2, ci2, hH, hB⟩
                have HH' : Hid (Hall w10 w.heap.size hb now next ab' nb cb' bs ai2 (ni + 1) ci2 mb (qs ++ [⟨⟨jid, ⟨⟨a, b, c', d, f, k⟩, ⟨a', b', c'', d', f', k'⟩⟩, (s1, s2), jr, jg, tl⟩, w9.heap.size, ta', tc'⟩])) := hH
                have HB' : Hid (Below w.heap.size w w10) := HB9.out.trans hB
                clear hH hB C4
                go_wp2
                go_roundw
                case rel => exact ⟨kk + 1, ai2, ni + 1, ci2, _, by omega, by go_num, HH'.out, by rw [List.map_append]; exact HQS.out, HB'.out⟩
                case measure => simp [intOf]; omega
      have hke : kk = nj := by omega
      have HHf : Hid (Hall wr w.heap.size hb now next ab' nb cb' bs ai ni ci mb qs) := hh
      have HQf : Hid (qs.map (·.j) = js) := by show _ = _; rw [hqs, List.take_of_length_le (by omega)]
      have HBf : Hid (Below w.heap.size w wr) := hb1
      have hkI : ¬ (kk : Int) < (nj : Int) := by omega
      clear hh hqs hb1
      go_wp2
      exact bodyPost_ret (v := .tuple #[.pointer (some ⟨hb, 0, none⟩), .bool true]) (by simp [results, Try.results45, go_sem]) rfl ⟨hb, ab', nb, cb', ai, ni, ci, mb, qs, rfl, HHf.out, HQf.out, HBf.out⟩
end Go.Proofs.Ytfhknkppiidnkaa
