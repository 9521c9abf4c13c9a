/- A job of a market, in the program; how far it is. -/
import Derived.Test.YtfhknkppiidnkaaHlC
import Derived.Test.YtfhknkppiidnkaaMsB
namespace Go.Proofs.Ytfhknkppiidnkaa
open Go.RowKit

theorem jobAt_find (id : Int) : ∀ (qs : List HJ) (k : Nat), (∃ q i, qs.find? (fun q => id == q.j.id) = some q ∧ q ∈ qs ∧ M.jobAt id k (qs.map (·.j)) = ((k + i : Nat) : Int) ∧ (qs.map (·.j)).getD i M.j0 = q.j) ∨ (qs.find? (fun q => id == q.j.id) = none ∧ M.jobAt id k (qs.map (·.j)) = -1)
  | [], _ => .inr ⟨rfl, rfl⟩
  | q :: qs, k => by
    rw [List.find?_cons, List.map_cons]
    unfold M.jobAt
    by_cases e : q.j.id = id
    · rw [if_pos e, show (id == q.j.id) = true by simp [e]]
      exact .inl ⟨q, 0, rfl, by simp, rfl, rfl⟩
    · rw [if_neg e, show (id == q.j.id) = false by simpa using fun e2 => e e2.symm]
      rcases jobAt_find id qs (k + 1) with ⟨q', i, h1, h2, h3, h4⟩ | ⟨h1, h2⟩
      · exact .inl ⟨q', i + 1, h1, by simp [h2], by rw [h3]; congr 1; omega, h4⟩
      · exact .inr ⟨h1, h2⟩
/-- what jobIn leaves -/
def JobPost (w : World) (now next id : Int) (bs : List Int) (js : List M.Jb) (e : Ending) (w' : World) : Prop :=
  (M.stOk now next id bs js = false → e = .returned (.tuple #[.pointer none, .bool false])) ∧
  (M.stOk now next id bs js = true → ∃ q : HJ, e = .returned (.tuple #[.pointer (some ⟨q.b, 0, none⟩), .bool true]) ∧ q.j = js.getD (M.jobAt id 0 js).toNat M.j0 ∧ Lies w' q.b q.vs ∧ SeesT w' q.a q.j.ts.length q.c q.j.ts) ∧ Below w.heap.size w w'
set_option maxHeartbeats 8000000 in
set_option maxRecDepth 10000 in
theorem jobIn_any {ab aj : Option Addr} {nb cb nj cj : Nat} {bs : List Int} {js : List M.Jb} (now next id : Int) (w : World) (hz : SeesM w ab nb cb aj nj cj bs js) :
    Calls Try.prog 29 #[.agg #[.int .i64 now, .int .i64 next, .slice ab nb cb, .slice aj nj cj], .int .i64 id] w fun e w' => JobPost w now next id bs js e w' := by
  cases hf : M.mkOk now next bs js with
  | false =>
    have C1 := fun W (h : SeesM W ab nb cb aj nj cj bs js) => hallOf_no now next W h hf
    have HO : Hid (M.stOk now next id bs js = false) := by show _ = _; unfold M.stOk; rw [hf]; rfl
    have HM : Hid (SeesM w ab nb cb aj nj cj bs js) := hz
    clear hz hf
    go_enter Try.func29, Try.ntmps29
    have HB_0 : Hid (Below w.heap.size w (w.alloc (.cells #[.int .i64 now, .int .i64 next, .slice ab nb cb, .slice aj nj cj] 30))) := (Below.refl _ _).alloc (Nat.le_refl _) _
    go_wp2_with fail
    generalize (w.alloc (.cells #[.int .i64 now, .int .i64 next, .slice ab nb cb, .slice aj nj cj] 30)) = wa at HB_0  ⊢
    refine (C1 _ (HM.out.below HB_0.out)).mono ?_
    rintro e wb ⟨rfl, hb⟩
    have HB_1 : Hid (Below w.heap.size w wb) := HB_0.out.trans (hb.mono HB_0.out.size)
    clear HB_0
    clear hb
    go_wp2
    exact bodyPost_ret (v := .tuple #[.pointer none, .bool false]) (by simp [results, Try.results29, go_sem]) rfl ⟨fun _ => rfl, fun h => by rw [HO.out] at h; simp at h, HB_1.out⟩
  | true =>
    have C1 := fun W (h : SeesM W ab nb cb aj nj cj bs js) => hallOf_yes now next W h hf
    have HM : Hid (SeesM w ab nb cb aj nj cj bs js) := hz
    have HO : Hid (M.stOk now next id bs js = decide (0 ≤ M.jobAt id 0 js)) := by show _ = _; unfold M.stOk; rw [hf]; rfl
    clear hz hf
    go_enter Try.func29, Try.ntmps29
    have HB_0 : Hid (Below w.heap.size w (w.alloc (.cells #[.int .i64 now, .int .i64 next, .slice ab nb cb, .slice aj nj cj] 30))) := (Below.refl _ _).alloc (Nat.le_refl _) _
    go_wp2_with fail
    generalize (w.alloc (.cells #[.int .i64 now, .int .i64 next, .slice ab nb cb, .slice aj nj cj] 30)) = wa at HB_0  ⊢
    refine (C1 _ (HM.out.below HB_0.out)).mono ?_
    rintro e wb ⟨h, ab', nb', cb', ai, ni, ci, mb, qs, rfl, hh, hqs, hb⟩
    have HB : Hid (Below w.heap.size w wb) := HB_0.out.trans (hb.mono HB_0.out.size)
    have HH : Hid (Hall wb wa.heap.size h now next ab' nb' cb' bs ai ni ci mb qs) := hh
    clear hb hh C1 HM HB_0
    have h4 : wb.cell? ⟨h, 4, none⟩ = some (.map (some mb)) := HH.out.l.at 4
    subst hqs
    rcases jobAt_find id qs 0 with ⟨q, i, h1, h2, h3, h4'⟩ | ⟨h1, h2⟩
    · have hlk : look id (qs.map HJ.ent) = some (.pointer (some ⟨q.b, 0, none⟩)) := by rw [look_ents, h1]; rfl
      have hrun := HH.out.m.get (P := Try.prog) (t := 86) Try.underlying86 Try.underlying2 id _ hlk true
      simp only [if_true] at hrun
      have HQ : Hid (q ∈ qs) := h2
      have HI : Hid (M.jobAt id 0 (qs.map (·.j)) = (i : Int)) := by show _ = _; rw [h3]; simp
      have HG : Hid ((qs.map (·.j)).getD i M.j0 = q.j) := h4'
      clear h1 h2 h3 h4' hlk
      go_wp2_with fail
      have HJq := HH.out.j q HQ.out
      exact bodyPost_ret (v := .tuple #[.pointer (some ⟨q.b, 0, none⟩), .bool true]) (by simp [results, Try.results29, go_sem]) rfl ⟨fun h => by rw [HO.out, HI.out] at h; simp at h, fun _ => ⟨q, rfl, by rw [HI.out, Int.toNat_natCast]; exact HG.out.symm, HJq.1, HJq.2.sees⟩, HB.out⟩
    · have hlk : look id (qs.map HJ.ent) = none := by rw [look_ents, h1]; rfl
      have hzp : (zeroValue 62).run Try.prog wb = .ok (.pointer none) wb := by kernel_rfl
      have hrun := HH.out.m.miss (P := Try.prog) (t := 86) Try.underlying86 Try.underlying2 id hzp hlk true
      simp only [if_true] at hrun
      have HI : Hid (M.jobAt id 0 (qs.map (·.j)) = -1) := h2
      clear h1 h2 hlk hzp
      go_wp2_with fail
      exact bodyPost_ret (v := .tuple #[.pointer none, .bool false]) (by simp [results, Try.results29, go_sem]) rfl ⟨fun _ => rfl, fun h => by rw [HO.out, HI.out] at h; simp at h, HB.out⟩
set_option maxHeartbeats 8000000 in
set_option maxRecDepth 10000 in
theorem implStatusOf_any {ab aj : Option Addr} {nb cb nj cj : Nat} {bs : List Int} {js : List M.Jb} (now next id : Int) (w : World) (hz : SeesM w ab nb cb aj nj cj bs js) :
    Calls Try.prog 11 #[.agg #[.int .i64 now, .int .i64 next, .slice ab nb cb, .slice aj nj cj], .int .i64 id] w fun e w' => e = .returned (.tuple #[.int .i64 (M.stN now next id bs js : Nat), .int .i64 (M.stL now next id bs js : Nat), .bool (M.stOk now next id bs js)]) ∧ Below w.heap.size w w' := by
  have C1 := fun W (h : SeesM W ab nb cb aj nj cj bs js) => jobIn_any now next id W h
  have HM : Hid (SeesM w ab nb cb aj nj cj bs js) := hz
  have HF : Hid (M.stOk now next id bs js = false → M.stN now next id bs js = 0 ∧ M.stL now next id bs js = 0) := fun h => by unfold M.stN M.stL; rw [h]; exact ⟨rfl, rfl⟩
  have HTt : Hid (M.stOk now next id bs js = true → M.stN now next id bs js = ((js.getD (M.jobAt id 0 js).toNat M.j0).ts.filter (·.done)).length ∧ M.stL now next id bs js = (js.getD (M.jobAt id 0 js).toNat M.j0).ts.length) := fun h => by unfold M.stN M.stL; rw [h]; exact ⟨rfl, rfl⟩
  unfold JobPost at C1
  generalize M.stN now next id bs js = sn at HF HTt ⊢
  generalize M.stL now next id bs js = sl at HF HTt ⊢
  generalize M.stOk now next id bs js = so at HF HTt C1 ⊢
  clear hz
  go_enter Try.func11, Try.ntmps11
  have HB_0 : Hid (Below w.heap.size w (w.alloc (.cells #[.int .i64 now, .int .i64 next, .slice ab nb cb, .slice aj nj cj] 30))) := (Below.refl _ _).alloc (Nat.le_refl _) _
  go_wp2_with fail
  generalize (w.alloc (.cells #[.int .i64 now, .int .i64 next, .slice ab nb cb, .slice aj nj cj] 30)) = wa at HB_0  ⊢
  refine (C1 _ (HM.out.below HB_0.out)).mono ?_
  rintro e wb ⟨h1, h2, hb⟩
  have HB_1 : Hid (Below w.heap.size w wb) := HB_0.out.trans (hb.mono HB_0.out.size)
  clear HB_0
  clear C1 HM hb
  cases so with
  | false =>
    obtain rfl := h1 rfl
    obtain ⟨rfl, rfl⟩ := HF.out rfl
    clear h1 h2 HF HTt
    go_wp2
    exact bodyPost_ret (v := .tuple #[.int .i64 0, .int .i64 0, .bool false]) (by simp [results, Try.results11, go_sem]) rfl ⟨rfl, HB_1.out⟩
  | true =>
    obtain ⟨q, rfl, hq, hl, hs⟩ := h2 rfl
    obtain ⟨e1, e2⟩ := HTt.out rfl
    rw [← hq] at e1 e2
    subst e1 e2
    have CD : ∀ W, Lies W q.b q.vs → SeesT W q.a q.j.ts.length q.c q.j.ts → Calls Try.prog 30 #[.pointer (some ⟨q.b, 0, none⟩)] W fun e w' => e = .returned (.int .i64 ((q.j.ts.filter (·.done)).length : Nat)) ∧ Below W.heap.size W w' := fun W h1 h2 => doneTasks_any W (h1.at 17) h2
    have hbig : (q.j.ts.length : Int) ≤ 9223372036854775807 := by have := hs.le; have := hs.big; omega
    generalize hsn : (q.j.ts.filter (·.done)).length = sn at CD
    have HSN : Hid ((q.j.ts.filter (·.done)).length = sn) := hsn
    clear hsn
    clear h1 h2 HF HTt hq
    have HQ_1 : Hid (Lies wb q.b q.vs) := hl
    have T1_1 : Hid (SeesT wb q.a q.j.ts.length q.c q.j.ts) := hs
    clear hl hs
    have x17 : wb.cell? ⟨q.b, 17, none⟩ = some (.slice q.a q.j.ts.length q.c) := HQ_1.out.at 17
    go_wp2_with fail
    clear x17
    refine wp_region_noPanic ?_
    refine wp_region_held_drew (S := fun W => wb.grownBy W none) (by kernel_rfl) (grown_drew _ _) (fun hHeld => ?_)
    generalize wb.drew = wd0 at hHeld ⊢
    have HX0 : Hid (Below wb.heap.size wb wd0) := ⟨hHeld.os, hHeld.tape, hHeld.output, hHeld.size, fun k hk => hHeld.block k hk (by simp)⟩
    refine wpAnyH_take (i := 0) (v := .pointer (some ⟨q.b, 0, none⟩)) rfl (by kernel_rfl) (by kernel_rfl) (by kernel_rfl) (fun _ _ _ h => h) (Or.inl ⟨by kernel_rfl, ?_⟩) (by assumption) ?_
    · intro wq hSq; go_simp
    try simp only [Act.put]
    refine wpAnyH_take (i := 2) (v := .pointer (some ⟨q.b, 0, none⟩)) rfl (by kernel_rfl) (by kernel_rfl) (by kernel_rfl) (fun _ _ _ h => h) (Or.inl ⟨by kernel_rfl, ?_⟩) (by assumption) ?_
    · intro wq hSq; go_simp
    try simp only [Act.put]
    refine wpAnyH_take (i := 3) (v := .pointer (some ⟨q.b, 0, none⟩)) rfl (by kernel_rfl) (by kernel_rfl) (by kernel_rfl) (fun _ _ _ h => h) (Or.inl ⟨by kernel_rfl, ?_⟩) (by assumption) ?_
    · intro wq hSq; go_simp
    try simp only [Act.put]
    refine wpAnyH_take (i := 4) (v := .pointer (some ⟨q.b, 17, none⟩)) rfl (by kernel_rfl) (by kernel_rfl) (by kernel_rfl) (fun _ _ _ h => h) (Or.inl ⟨by kernel_rfl, ?_⟩) (by assumption) ?_
    · intro wq hSq; go_simp
    try simp only [Act.put]
    refine wpAnyH_take (i := 5) (v := .slice q.a q.j.ts.length q.c) rfl (by kernel_rfl) (by kernel_rfl) (by kernel_rfl) (fun _ _ _ h => h) (Or.inl ⟨by kernel_rfl, ?_⟩) (by assumption) ?_
    · intro wp hSp; have c0 : wp.cell? ⟨q.b, 17, none⟩ = some (.slice q.a q.j.ts.length q.c) := (HQ_1.out.grown hSp (by simp)).at 17; go_simp
    try simp only [Act.put]
    refine wpAnyH_take (i := 6) (v := .int .i64 (q.j.ts.length : Nat)) rfl (by kernel_rfl) (by kernel_rfl) (by kernel_rfl) (fun _ _ _ h => h) (Or.inl ⟨by kernel_rfl, ?_⟩) (by assumption) ?_
    · intro wq hSq; go_simp
    try simp only [Act.put]
    refine wpAnyH_ready (rs := [1]) (by kernel_rfl) (by simp) ?_
    refine AllReadyH.cons rfl (fun Kk hK => ?_) AllReadyH.nil
    go_simp
    refine (CD _ (HQ_1.out.belowS HX0.out) (T1_1.out.below HX0.out)).mono ?_
    rintro e wd1 ⟨rfl, hb1⟩
    go_simp
    have hS1 : wb.grownBy wd1 none := grown_step hHeld hb1
    have HX1 : Hid (Below wb.heap.size wb wd1) := ⟨hS1.os, hS1.tape, hS1.output, hS1.size, fun k hk => hS1.block k hk (by simp)⟩
    refine hK.out _ _ hS1 (fun _ => ?_)
    clear hK Kk hb1
    try simp only [Act.put]
    refine wpAnyH_take (i := 7) (v := .int .i64 (sn : Nat)) rfl (by kernel_rfl) (by kernel_rfl) (by kernel_rfl) (fun _ _ _ h => h) (Or.inl ⟨by kernel_rfl, ?_⟩) (by assumption) ?_
    · intro wq hSq; go_simp
    try simp only [Act.put]
    refine wpAnyH_take (i := 8) (v := .int .i64 (q.j.ts.length : Nat)) rfl (by kernel_rfl) (by kernel_rfl) (by kernel_rfl) (fun _ _ _ h => h) (Or.inl ⟨by kernel_rfl, ?_⟩) (by assumption) ?_
    · intro wq hSq; go_simp
    try simp only [Act.put]
    refine wpAnyH_take (i := 9) (v := .bool true) rfl (by kernel_rfl) (by kernel_rfl) (by kernel_rfl) (fun _ _ _ h => h) (Or.inl ⟨by kernel_rfl, ?_⟩) (by assumption) ?_
    · intro wq hSq; go_simp
    try simp only [Act.put]
    refine wpAnyH_done (by kernel_rfl) ?_ _
    refine NoPanic.normal ?_
    go_simp
    have HB_2 : Hid (Below w.heap.size w wd1) := HB_1.out.trans (HX1.out.mono HB_1.out.size)
    have HQ_2 : Hid (Lies wd1 q.b q.vs) := HQ_1.out.belowS HX1.out
    have T1_2 : Hid (SeesT wd1 q.a q.j.ts.length q.c q.j.ts) := T1_1.out.below HX1.out
    clear HB_1 HQ_1 T1_1
    go_wp2_with fail
    exact bodyPost_ret (v := .tuple #[.int .i64 (sn : Nat), .int .i64 (q.j.ts.length : Nat), .bool true]) (by simp [results, Try.results11, go_sem]) rfl ⟨by rw [HSN.out], HB_2.out⟩
end Go.Proofs.Ytfhknkppiidnkaa
