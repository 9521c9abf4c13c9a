/- Whether a market is right, in the model. The loop over the banned, in the model. A job of the market, in the model: up to what is asked of it. -/
import Derived.Test.YtfhknkppiidnkaaGreatMkI
import Derived.Test.YtfhknkppiidnkaaGreatMkV
import Derived.Test.YtfhknkppiidnkaaGreatMaB
namespace Go.Proofs.YtfhknkppiidnkaaGreat
open Go.RowKit

theorem owns_empty {t : TypeId} (w : World) {base : Nat} (hb : base ≤ w.heap.size) : Owns t (w.alloc (.cells #[] t)) base (some ⟨w.heap.size, 0, none⟩) 0 0 [] := by
  refine ⟨rfl, .inr ⟨w.heap.size, 0, #[], rfl, hb, ?_, Nat.le_refl _, Nat.zero_le _, rfl, rfl⟩⟩
  show (w.heap.push _)[w.heap.size]? = _
  simp
/-- where the walk over a job's tasks stands -/
def SpL (now : Int) (bs : List Int) (jg : Bool) (tl : List M.Tk) (R SN : Bool) (WF : List Int) (w1 : World) (jb : Nat) (JQ : List Value) (p : Nat) (us : List Int) (l : Value) (wr : World) : Prop :=
  ((M.spT now bs jg us (tl.drop p) && !(jg && tl.all (·.done))) && SN) = R ∧ us ++ (tl.drop p).map (·.worker) = WF ∧ Lies wr jb JQ ∧ l.ownBlock ≠ some jb ∧ LsR w1 us l wr
def MkxGoal : Prop := ∀ (ab aj : Option Addr) (nb cb nj cj : Nat) (bs : List Int) (js : List M.Jb) (now next : Int) (w : World), SeesM w ab nb cb aj nj cj bs js →
    Calls Tryz.prog 26 #[.agg #[.int .i64 now, .int .i64 next, .slice ab nb cb, .slice aj nj cj]] w fun e w' => e = .returned (.bool (M.mkOk now next bs js)) ∧ Below w.heap.size w w'
set_option maxHeartbeats 32000000 in
set_option maxRecDepth 100000 in
def mkxA : Cut2 MkxGoal := by
  apply Cut2.mk
  intro key1 key2 ab aj nb cb nj cj bs js now next w hz
  rw [← M.spOk_eq]
  have hlen : js.length = nj := hz.j.len
  have hlb : bs.length = nb := hz.b.len
  have bnb : (nb : Int) ≤ 9223372036854775807 := by have := hz.b.big; have := hz.b.le; omega
  have bnj : (nj : Int) ≤ 9223372036854775807 := by have := hz.j.big; have := hz.j.le; omega
  have hcb : (nb : Int) ≤ cb := by have := hz.b.le; omega
  have hcj : (nj : Int) ≤ cj := by have := hz.j.le; omega
  have HL0 : Hid (Lies (w.alloc (.cells #[.int .i64 now, .int .i64 next, .slice ab nb cb, .slice aj nj cj] 27)) w.heap.size [.int .i64 now, .int .i64 next, .slice ab nb cb, .slice aj nj cj]) := lies_new _ _ _
  have HB0 : Hid (Below w.heap.size w (w.alloc (.cells #[.int .i64 now, .int .i64 next, .slice ab nb cb, .slice aj nj cj] 27))) := (Below.refl _ _).alloc (Nat.le_refl _) _
  have HM0 : Hid (SeesM (w.alloc (.cells #[.int .i64 now, .int .i64 next, .slice ab nb cb, .slice aj nj cj] 27)) ab nb cb aj nj cj bs js) := hz.below HB0.out
  have HI : Hid (∃ i0, Tryz.prog.info? 2 = some i0 ∧ i0.zero = some (.int .i64 0) ∧ i0.size = 1 ∧ i0.bytes = 8) := by
    obtain ⟨i0, h1, h2, h3, h4⟩ := info_parts info_i64
    exact ⟨i0, h1, h2, h3, h4⟩
  have C1 := l1InG_any now 0 1000000000
  have C2 := l1InG_any next 1 1000000000
  generalize hR : M.spOk now next bs js = R
  unfold M.spOk at hR
  rw [hlen, hlb] at hR
  have HN : Hid ((decide (0 ≤ now) && decide (now ≤ 1000000000)) = true → 0 ≤ now ∧ now ≤ 1000000000) := fun h => by simpa using h
  have HX : Hid ((decide (1 ≤ next) && decide (next ≤ 1000000000)) = true → 1 ≤ next ∧ next ≤ 1000000000) := fun h => by simpa using h
  generalize (decide (1 ≤ next) && decide (next ≤ 1000000000)) = o2 at C2 hR HX
  generalize (decide (0 ≤ now) && decide (now ≤ 1000000000)) = o1 at C1 hR HN
  have HR : Hid ((o1 && (o2 && (decide (nj ≤ 6) && (decide (nb ≤ 9) && (M.bnGo 0 bs && M.spJ now next bs 0 [] js))))) = R) := hR
  clear hz hR
  go_enter Tryz.func26, Tryz.ntmps26
  go_wp2_with fail
  generalize (w.alloc (.cells #[.int .i64 now, .int .i64 next, .slice ab nb cb, .slice aj nj cj] 27)) = w1 at HL0 HB0 HM0 ⊢
  refine (C1 _).mono ?_
  rintro e wz ⟨rfl, hwz⟩
  have hwy := hwz.symm
  clear hwz
  subst hwy
  cases o1 with
  | false =>
    go_wp2
    go_ret
    exact ⟨ret_bool HR.out, HB0.out⟩
  | true =>
    have x1 : w1.cell? ⟨w.heap.size, 1, none⟩ = some (.int .i64 next) := HL0.out.at 1
    go_wp2_with fail
    clear x1
    refine (C2 _).mono ?_
    rintro e wz ⟨rfl, hwz⟩
    have hwy := hwz.symm
    clear hwz
    subst hwy
    cases o2 with
    | false =>
      go_wp2
      go_ret
      exact ⟨ret_bool HR.out, HB0.out⟩
    | true =>
      obtain ⟨now0, now1⟩ := HN.out (by simp)
      obtain ⟨next0, next1⟩ := HX.out (by simp)
      clear HN HX
      have x3 : w1.cell? ⟨w.heap.size, 3, none⟩ = some (.slice aj nj cj) := HL0.out.at 3
      have x2 : w1.cell? ⟨w.heap.size, 2, none⟩ = some (.slice ab nb cb) := HL0.out.at 2
      by_cases h6 : nj ≤ 6
      case neg =>
        have h6I : (6 : Int) < (nj : Int) := by omega
        have HF : Hid (false = R) := by show _ = _; have := HR.out; rw [show decide (nj ≤ 6) = false by simpa using h6] at this; simpa using this
        go_wp2
        go_ret
        exact ⟨ret_bool HF.out, HB0.out⟩
      have h6I : (nj : Int) ≤ 6 := by omega
      by_cases h9 : nb ≤ 9
      case neg =>
        have h9I : (9 : Int) < (nb : Int) := by omega
        have HF : Hid (false = R) := by show _ = _; have := HR.out; rw [show decide (nb ≤ 9) = false by simpa using h9] at this; simpa using this
        go_wp2
        go_ret
        exact ⟨ret_bool HF.out, HB0.out⟩
      have h9I : (nb : Int) ≤ 9 := by omega
      have HR1 : Hid ((M.bnGo 0 bs && M.spJ now next bs 0 [] js) = R) := by show _ = _; have := HR.out; rw [show decide (nj ≤ 6) = true by simpa using h6, show decide (nb ≤ 9) = true by simpa using h9] at this; simpa using this
      clear HR
      go_wp2
      generalize hSJ : M.spJ now next bs 0 [] js = SJ at HR1
      have HSJ : Hid (M.spJ now next bs 0 [] js = SJ) := hSJ
      clear hSJ x3 x2
      go_loopw [3] (fun i wr => ∃ (q : Nat) (l : Int), q ≤ nb ∧ i = .int .i64 q ∧ (q = 0 → l = 0) ∧ (∀ q', q = q' + 1 → l = bs.getD q' 0) ∧ (M.bnGo l (bs.drop q) && SJ) = R ∧ Below w1.heap.size w1 wr) (fun i _ => nb - (intOf i).toNat)
      case atStart => exact ⟨0, 0, by omega, rfl, fun _ => rfl, (fun q' h => by omega), HR1.out, Below.refl _ _⟩
      case round =>
        obtain ⟨q, l, hq, rfl, hl0, hl1, hg, hb1⟩ := hrel
        clear HR1
        by_cases hlt : q < nb
        case pos =>
          rename_i mkx1z1 mkx1z2 mkx1z3 mkx1z4
          revert ab aj nb cb nj cj bs js now next w hlen hlb bnb bnj hcb hcj HI R mkx1z1 w1 HL0 HB0 HM0 C1 C2 now0 now1 next0 next1 h6 h6I h9 h9I mkx1z2 mkx1z3 mkx1z4 SJ HSJ wr u2 u32 u33 u34 u35 u36 u37 u38 u39 u40 u41 u42 u43 u44 u45 u46 u47 u48 u49 u50 u51 u52 u53 u54 u55 u56 u57 u58 u59 u60 u61 u62 u63 q l hq hl0 hl1 hg hb1 hlt
          exact key1.out
        have hqe : q = nb := by omega
        subst hqe
        have HR2 : Hid (SJ = R) := by show _ = _; have := hg; rw [List.drop_of_length_le (by omega)] at this; simpa [M.bnGo] using this
        have HB1 : Hid (Below w1.heap.size w1 wr) := hb1
        have x2 : wr.cell? ⟨w.heap.size, 2, none⟩ = some (.slice ab q cb) := (HL0.out.belowS hb1).at 2
        clear hg hb1 hl0 hl1
        go_wp2_with fail
        clear x2
        have HOE : Hid (Owns 2 (wr.alloc (.cells #[] 2)) w1.heap.size (some ⟨wr.heap.size, 0, none⟩) 0 0 []) := owns_empty _ HB1.out.size
        have HBE : Hid (Below w1.heap.size w1 (wr.alloc (.cells #[] 2))) := HB1.out.alloc HB1.out.size _
        clear HB1
        generalize wr.alloc (.cells #[] 2) = we at HOE HBE ⊢
        generalize wr.heap.size = eb at HOE ⊢
        go_loopw [4, 5] (fun l i wr => ∃ (j : Nat) (lst : Int) (ws : List Int), j ≤ nj ∧ i = .int .i64 j ∧ (j = 0 → lst = 0) ∧ (∀ j', j = j' + 1 → lst = (js.getD j' M.j0).id) ∧ M.spJ now next bs lst ws (js.drop j) = R ∧ ws.length ≤ 8 * j ∧ LsR w1 ws l wr) (fun _ i _ => nj - (intOf i).toNat)
        case atStart => exact ⟨0, 0, [], by omega, rfl, fun _ => rfl, (fun q' h => by omega), HSJ.out.trans HR2.out, Nat.zero_le _, _, 0, 0, rfl, HOE.out, HBE.out⟩
        case round =>
          obtain ⟨j, lst, ws, hj, rfl, hl0, hl1, hg, hws, al, ml, cl, rfl, ho1, hb1⟩ := hrel
          clear HOE HBE HSJ HR2
          by_cases hlt : j < nj
          case pos =>
            rename_i mkx2z1 mkx2z2 mkx2z3 mkx2z4 mkx2z5 mkx2z6 mkx2z7 mkx2z8 mkx2z9 mkx2z10 mkx2z11
            revert ab aj cb nj cj bs js now next w hlen bnj hcj HI R mkx2z1 w1 HB0 C1 C2 now0 now1 next0 next1 h6 h6I mkx2z2 SJ mkx2z3 mkx2z4 u32 u33 u34 u35 u36 u37 u38 u39 u40 u41 u42 u43 u44 u45 u46 u47 u48 u49 u50 u51 u52 u53 u54 u55 u56 u57 u58 u59 u60 u61 u62 u63 q l hlb bnb hcb HL0 HM0 h9 h9I mkx2z5 hq mkx2z6 mkx2z7 mkx2z8 mkx2z9 mkx2z10 mkx2z11 we eb wr u2 u6 u7 u8 u9 u65 u66 u67 u68 u69 u70 u71 u72 u73 u74 u75 u76 u77 u78 u79 u80 u81 u82 u83 u84 u85 u86 u87 u88 u89 u90 u91 u92 u93 u94 u95 u96 u97 u98 u99 u100 u101 u102 u103 u104 u105 u106 u107 u108 u109 u110 u111 u112 u113 u114 u115 u116 u117 u118 u119 u120 u121 u122 u123 u124 u125 u126 u127 u128 u129 u130 u131 u132 u133 u134 u135 u136 u137 u138 u139 u140 u141 u142 u143 u144 u145 u146 u147 u148 u149 u150 u151 u152 u153 u154 u155 u156 u157 u158 u159 u160 u161 u162 u163 u164 u165 u166 u167 u168 u169 u170 u171 u172 u173 u174 u175 u176 u177 u178 u179 u180 u181 u182 u183 u184 u185 u186 u187 j lst ws hj hl0 hl1 hg hws al ml cl ho1 hb1 hlt
            exact key2.out
          have hje : j = nj := by omega
          subst hje
          have HRt : Hid (true = R) := by show _ = _; have := hg; rw [List.drop_of_length_le (by omega)] at this; exact this
          have x3 : wr.cell? ⟨w.heap.size, 3, none⟩ = some (.slice aj j cj) := (HL0.out.belowS hb1).at 3
          have HBf : Hid (Below w.heap.size w wr) := HB0.out.trans (hb1.mono HB0.out.size)
          clear hg hb1 ho1 hl0 hl1
          go_wp2
          go_ret
          exact ⟨ret_bool HRt.out, HBf.out⟩
end Go.Proofs.YtfhknkppiidnkaaGreat
namespace Go.Proofs.YtfhknkppiidnkaaGreat
open Go.RowKit

set_option maxHeartbeats 32000000 in
set_option maxRecDepth 100000 in
theorem mkxA_1 : mkxA.p := by
          intro ab aj nb cb nj cj bs js now next w hlen hlb bnb bnj hcb hcj HI R mkx1z1 w1 HL0 HB0 HM0 C1 C2 now0 now1 next0 next1 h6 h6I h9 h9I mkx1z2 mkx1z3 mkx1z4 SJ HSJ wr u2 u32 u33 u34 u35 u36 u37 u38 u39 u40 u41 u42 u43 u44 u45 u46 u47 u48 u49 u50 u51 u52 u53 u54 u55 u56 u57 u58 u59 u60 u61 u62 u63 q l hq hl0 hl1 hg hb1 hlt
          obtain ⟨b1, o1, rfl, hc1⟩ := (HM0.out.b.below hb1).at (by omega)
          have c1 := hc1 q hlt
          have hG : (((decide (l < bs.getD q 0) && M.wkOk (bs.getD q 0)) && M.bnGo (bs.getD q 0) (bs.drop (q + 1))) && SJ) = R := by rw [← hg, drop_step 0 hlb hlt]; rfl
          have hqI : (q : Int) < (nb : Int) := by omega
          have C3 := l1InG_any (bs.getD q 0) 1 9
          change ∀ w, Calls Tryz.prog 43 #[.int .i64 (bs.getD q 0), .int .i64 1, .int .i64 9] w fun e w' => e = .returned (.bool (M.wkOk (bs.getD q 0))) ∧ w' = w at C3
          have HX1 : Hid (M.wkOk (bs.getD q 0) = true → 1 ≤ bs.getD q 0) := fun h => by unfold M.wkOk at h; simp at h; exact h.1
          have hnx : ∀ q', q + 1 = q' + 1 → bs.getD q 0 = bs.getD q' 0 := fun q' h => by rw [Nat.succ.inj h]
          have HNX : Hid (∀ q', q + 1 = q' + 1 → bs.getD q 0 = bs.getD q' 0) := hnx
          clear hnx hg
          have HB_0 : Hid (Below w1.heap.size w1 wr) := hb1
          have HL_0 : Hid (Lies wr w.heap.size [.int .i64 now, .int .i64 next, .slice (some ⟨b1, o1, none⟩) nb cb, .slice aj nj cj]) := HL0.out.belowS hb1
          clear hb1
          have x2 : wr.cell? ⟨w.heap.size, 2, none⟩ = some (.slice (some ⟨b1, o1, none⟩) nb cb) := HL_0.out.at 2
          go_wp2_with fail
          clear x2
          generalize bs.getD q 0 = x at c1 hG C3 HX1 HNX
          generalize M.wkOk x = ow at hG C3 HX1
          have HG : Hid ((((decide (l < x) && ow) && M.bnGo x (bs.drop (q + 1))) && SJ) = R) := hG
          clear hG
          by_cases hq0 : q = 0
          case pos =>
            obtain rfl := hl0 hq0
            have hgt : ¬ (0 : Int) < (q : Int) := by omega
            have HQ0 : Hid (q = 0) := hq0
            clear hl0 hl1 hc1 hq0
            refine wp_region_noPanic ?_
            refine wp_region_held_drew (S := fun W => wr.grownBy W none) (by kernel_rfl) (grown_drew _ _) (fun hHeld => ?_)
            generalize wr.drew = wd0 at hHeld ⊢
            have HX0 : Hid (Below wr.heap.size wr wd0) := ⟨hHeld.os, hHeld.tape, hHeld.output, hHeld.size, fun k hk => hHeld.block k hk (by simp)⟩
            refine wpAnyH_take (i := 0) (v := .pointer (some ⟨w.heap.size, 2, none⟩)) rfl (by kernel_rfl) (by kernel_rfl) (by kernel_rfl) (fun _ _ _ h => h) (Or.inl ⟨by kernel_rfl, ?_⟩) (by assumption) ?_
            · intro wq hSq; go_simp
            try simp only [Act.put]
            refine wpAnyH_take (i := 1) (v := .slice (some ⟨b1, o1, none⟩) nb cb) rfl (by kernel_rfl) (by kernel_rfl) (by kernel_rfl) (fun _ _ _ h => h) (Or.inl ⟨by kernel_rfl, ?_⟩) (by assumption) ?_
            · intro wp hSp; have c0 : wp.cell? ⟨w.heap.size, 2, none⟩ = some (.slice (some ⟨b1, o1, none⟩) nb cb) := (HL_0.out.grown hSp (by simp)).at 2; go_simp
            try simp only [Act.put]
            refine wpAnyH_take (i := 2) (v := .int .i64 (q : Nat)) rfl (by kernel_rfl) (by kernel_rfl) (by kernel_rfl) (fun _ _ _ h => h) (Or.inl ⟨by kernel_rfl, ?_⟩) (by assumption) ?_
            · intro wq hSq; go_simp
            try simp only [Act.put]
            refine wpAnyH_take (i := 3) (v := .pointer (some ⟨b1, o1 + q, none⟩)) rfl (by kernel_rfl) (by kernel_rfl) (by kernel_rfl) (fun _ _ _ h => h) (Or.inl ⟨by kernel_rfl, ?_⟩) (by assumption) ?_
            · intro wq hSq; go_simp
            try simp only [Act.put]
            refine wpAnyH_take (i := 4) (v := .int .i64 x) rfl (by kernel_rfl) (by kernel_rfl) (by kernel_rfl) (fun _ _ _ h => h) (Or.inl ⟨by kernel_rfl, ?_⟩) (by assumption) ?_
            · intro wp hSp; have c0 : wp.cell? ⟨b1, o1 + q, none⟩ = some (.int .i64 x) := hSp.cell c1 (by simp); go_simp
            try simp only [Act.put]
            refine wpAnyH_ready (rs := [5]) (by kernel_rfl) (by simp) ?_
            refine AllReadyH.cons rfl (fun Kk hK => ?_) AllReadyH.nil
            go_simp
            refine (C3 _).mono ?_
            rintro e wn ⟨rfl, hwn⟩; have hwm := hwn.symm; clear hwn; subst hwm
            go_simp
            refine hK.out _ _ (by assumption) (fun hHeld1 => ?_)
            clear hK Kk
            try simp only [Act.put]
            refine wpAnyH_take (i := 6) (v := .bool (!ow)) rfl (by kernel_rfl) (by kernel_rfl) (by kernel_rfl) (fun _ _ _ h => h) (Or.inl ⟨by kernel_rfl, ?_⟩) (by assumption) ?_
            · intro wq hSq; go_simp
            try simp only [Act.put]
            refine wpAnyH_take (i := 7) (v := .bool (!ow)) rfl (by kernel_rfl) (by kernel_rfl) (by kernel_rfl) (fun _ _ _ h => h) (Or.inl ⟨by kernel_rfl, ?_⟩) (by assumption) ?_
            · intro wq hSq; go_simp
            try simp only [Act.put]
            cases ow with
            | false =>
              refine wpAnyH_take (i := 8) (v := undef) rfl (by kernel_rfl) (by kernel_rfl) (by kernel_rfl) (fun _ _ _ h => h) (Or.inr ⟨by kernel_rfl, rfl⟩) (by assumption) ?_
              try simp only [Act.put]
              refine wpAnyH_take (i := 9) (v := undef) rfl (by kernel_rfl) (by kernel_rfl) (by kernel_rfl) (fun _ _ _ h => h) (Or.inr ⟨by kernel_rfl, rfl⟩) (by assumption) ?_
              try simp only [Act.put]
              refine wpAnyH_take (i := 10) (v := undef) rfl (by kernel_rfl) (by kernel_rfl) (by kernel_rfl) (fun _ _ _ h => h) (Or.inr ⟨by kernel_rfl, rfl⟩) (by assumption) ?_
              try simp only [Act.put]
              refine wpAnyH_take (i := 11) (v := undef) rfl (by kernel_rfl) (by kernel_rfl) (by kernel_rfl) (fun _ _ _ h => h) (Or.inr ⟨by kernel_rfl, rfl⟩) (by assumption) ?_
              try simp only [Act.put]
              refine wpAnyH_take (i := 12) (v := undef) rfl (by kernel_rfl) (by kernel_rfl) (by kernel_rfl) (fun _ _ _ h => h) (Or.inr ⟨by kernel_rfl, rfl⟩) (by assumption) ?_
              try simp only [Act.put]
              refine wpAnyH_take (i := 13) (v := undef) rfl (by kernel_rfl) (by kernel_rfl) (by kernel_rfl) (fun _ _ _ h => h) (Or.inr ⟨by kernel_rfl, rfl⟩) (by assumption) ?_
              try simp only [Act.put]
              refine wpAnyH_take (i := 14) (v := undef) rfl (by kernel_rfl) (by kernel_rfl) (by kernel_rfl) (fun _ _ _ h => h) (Or.inr ⟨by kernel_rfl, rfl⟩) (by assumption) ?_
              try simp only [Act.put]
              refine wpAnyH_take (i := 15) (v := undef) rfl (by kernel_rfl) (by kernel_rfl) (by kernel_rfl) (fun _ _ _ h => h) (Or.inr ⟨by kernel_rfl, rfl⟩) (by assumption) ?_
              try simp only [Act.put]
              refine wpAnyH_take (i := 16) (v := undef) rfl (by kernel_rfl) (by kernel_rfl) (by kernel_rfl) (fun _ _ _ h => h) (Or.inr ⟨by kernel_rfl, rfl⟩) (by assumption) ?_
              try simp only [Act.put]
              refine wpAnyH_take (i := 17) (v := undef) rfl (by kernel_rfl) (by kernel_rfl) (by kernel_rfl) (fun _ _ _ h => h) (Or.inr ⟨by kernel_rfl, rfl⟩) (by assumption) ?_
              try simp only [Act.put]
              refine wpAnyH_take (i := 18) (v := undef) rfl (by kernel_rfl) (by kernel_rfl) (by kernel_rfl) (fun _ _ _ h => h) (Or.inr ⟨by kernel_rfl, rfl⟩) (by assumption) ?_
              try simp only [Act.put]
              refine wpAnyH_take (i := 19) (v := undef) rfl (by kernel_rfl) (by kernel_rfl) (by kernel_rfl) (fun _ _ _ h => h) (Or.inr ⟨by kernel_rfl, rfl⟩) (by assumption) ?_
              try simp only [Act.put]
              refine wpAnyH_take (i := 20) (v := undef) rfl (by kernel_rfl) (by kernel_rfl) (by kernel_rfl) (fun _ _ _ h => h) (Or.inr ⟨by kernel_rfl, rfl⟩) (by assumption) ?_
              try simp only [Act.put]
              refine wpAnyH_take (i := 21) (v := undef) rfl (by kernel_rfl) (by kernel_rfl) (by kernel_rfl) (fun _ _ _ h => h) (Or.inr ⟨by kernel_rfl, rfl⟩) (by assumption) ?_
              try simp only [Act.put]
              refine wpAnyH_take (i := 22) (v := undef) rfl (by kernel_rfl) (by kernel_rfl) (by kernel_rfl) (fun _ _ _ h => h) (Or.inr ⟨by kernel_rfl, rfl⟩) (by assumption) ?_
              try simp only [Act.put]
              refine wpAnyH_take (i := 23) (v := undef) rfl (by kernel_rfl) (by kernel_rfl) (by kernel_rfl) (fun _ _ _ h => h) (Or.inr ⟨by kernel_rfl, rfl⟩) (by assumption) ?_
              try simp only [Act.put]
              refine wpAnyH_take (i := 24) (v := .bool true) rfl (by kernel_rfl) (by kernel_rfl) (by kernel_rfl) (fun _ _ _ h => h) (Or.inl ⟨by kernel_rfl, ?_⟩) (by assumption) ?_
              · intro wq hSq; go_simp
              try simp only [Act.put]
              refine wpAnyH_done (by kernel_rfl) ?_ _
              refine NoPanic.normal ?_
              go_simp
              have HF : Hid (false = R) := by show _ = _; have := HG.out; simpa using this
              have HBx : Hid (Below w.heap.size w wd0) := HB0.out.trans ((HB_0.out.trans (HX0.out.mono HB_0.out.size)).mono HB0.out.size)
              go_wp2
              go_ret
              exact ⟨ret_bool HF.out, HBx.out⟩
            | true =>
              refine wpAnyH_take (i := 8) (v := .int .i64 (q : Nat)) rfl (by kernel_rfl) (by kernel_rfl) (by kernel_rfl) (fun _ _ _ h => h) (Or.inl ⟨by kernel_rfl, ?_⟩) (by assumption) ?_
              · intro wq hSq; go_simp
              try simp only [Act.put]
              refine wpAnyH_take (i := 9) (v := .bool false) rfl (by kernel_rfl) (by kernel_rfl) (by kernel_rfl) (fun _ _ _ h => h) (Or.inl ⟨by kernel_rfl, ?_⟩) (by assumption) ?_
              · intro wq hSq; go_simp; exact HQ0.out
              try simp only [Act.put]
              refine wpAnyH_take (i := 10) (v := .bool false) rfl (by kernel_rfl) (by kernel_rfl) (by kernel_rfl) (fun _ _ _ h => h) (Or.inl ⟨by kernel_rfl, ?_⟩) (by assumption) ?_
              · intro wq hSq; go_simp
              try simp only [Act.put]
              refine wpAnyH_take (i := 11) (v := undef) rfl (by kernel_rfl) (by kernel_rfl) (by kernel_rfl) (fun _ _ _ h => h) (Or.inr ⟨by kernel_rfl, rfl⟩) (by assumption) ?_
              try simp only [Act.put]
              refine wpAnyH_take (i := 12) (v := undef) rfl (by kernel_rfl) (by kernel_rfl) (by kernel_rfl) (fun _ _ _ h => h) (Or.inr ⟨by kernel_rfl, rfl⟩) (by assumption) ?_
              try simp only [Act.put]
              refine wpAnyH_take (i := 13) (v := undef) rfl (by kernel_rfl) (by kernel_rfl) (by kernel_rfl) (fun _ _ _ h => h) (Or.inr ⟨by kernel_rfl, rfl⟩) (by assumption) ?_
              try simp only [Act.put]
              refine wpAnyH_take (i := 14) (v := undef) rfl (by kernel_rfl) (by kernel_rfl) (by kernel_rfl) (fun _ _ _ h => h) (Or.inr ⟨by kernel_rfl, rfl⟩) (by assumption) ?_
              try simp only [Act.put]
              refine wpAnyH_take (i := 15) (v := undef) rfl (by kernel_rfl) (by kernel_rfl) (by kernel_rfl) (fun _ _ _ h => h) (Or.inr ⟨by kernel_rfl, rfl⟩) (by assumption) ?_
              try simp only [Act.put]
              refine wpAnyH_take (i := 16) (v := undef) rfl (by kernel_rfl) (by kernel_rfl) (by kernel_rfl) (fun _ _ _ h => h) (Or.inr ⟨by kernel_rfl, rfl⟩) (by assumption) ?_
              try simp only [Act.put]
              refine wpAnyH_take (i := 17) (v := undef) rfl (by kernel_rfl) (by kernel_rfl) (by kernel_rfl) (fun _ _ _ h => h) (Or.inr ⟨by kernel_rfl, rfl⟩) (by assumption) ?_
              try simp only [Act.put]
              refine wpAnyH_take (i := 18) (v := undef) rfl (by kernel_rfl) (by kernel_rfl) (by kernel_rfl) (fun _ _ _ h => h) (Or.inr ⟨by kernel_rfl, rfl⟩) (by assumption) ?_
              try simp only [Act.put]
              refine wpAnyH_take (i := 19) (v := undef) rfl (by kernel_rfl) (by kernel_rfl) (by kernel_rfl) (fun _ _ _ h => h) (Or.inr ⟨by kernel_rfl, rfl⟩) (by assumption) ?_
              try simp only [Act.put]
              refine wpAnyH_take (i := 20) (v := undef) rfl (by kernel_rfl) (by kernel_rfl) (by kernel_rfl) (fun _ _ _ h => h) (Or.inr ⟨by kernel_rfl, rfl⟩) (by assumption) ?_
              try simp only [Act.put]
              refine wpAnyH_take (i := 21) (v := undef) rfl (by kernel_rfl) (by kernel_rfl) (by kernel_rfl) (fun _ _ _ h => h) (Or.inr ⟨by kernel_rfl, rfl⟩) (by assumption) ?_
              try simp only [Act.put]
              refine wpAnyH_take (i := 22) (v := undef) rfl (by kernel_rfl) (by kernel_rfl) (by kernel_rfl) (fun _ _ _ h => h) (Or.inr ⟨by kernel_rfl, rfl⟩) (by assumption) ?_
              try simp only [Act.put]
              refine wpAnyH_take (i := 23) (v := .bool false) rfl (by kernel_rfl) (by kernel_rfl) (by kernel_rfl) (fun _ _ _ h => h) (Or.inl ⟨by kernel_rfl, ?_⟩) (by assumption) ?_
              · intro wq hSq; go_simp
              try simp only [Act.put]
              refine wpAnyH_take (i := 24) (v := .bool false) rfl (by kernel_rfl) (by kernel_rfl) (by kernel_rfl) (fun _ _ _ h => h) (Or.inl ⟨by kernel_rfl, ?_⟩) (by assumption) ?_
              · intro wq hSq; go_simp
              try simp only [Act.put]
              refine wpAnyH_done (by kernel_rfl) ?_ _
              refine NoPanic.normal ?_
              go_simp
              have HB_1 : Hid (Below w1.heap.size w1 wd0) := HB_0.out.trans (HX0.out.mono HB_0.out.size)
              have HL_1 : Hid (Lies wd0 w.heap.size [.int .i64 now, .int .i64 next, .slice (some ⟨b1, o1, none⟩) nb cb, .slice aj nj cj]) := HL_0.out.belowS HX0.out
              clear HB_0 HL_0
              have hx1 := HX1.out rfl
              have HG3 : Hid ((M.bnGo x (bs.drop (q + 1)) && SJ) = R) := by show _ = _; have := HG.out; rw [show decide ((0 : Int) < x) = true by simp; omega] at this; simpa using this
              go_wp2
              go_roundw
              case rel => exact ⟨q + 1, x, by omega, by go_num, (fun h => by omega), HNX.out, HG3.out, HB_1.out⟩
              case measure => simp [intOf]; omega
          obtain ⟨p, hp⟩ : ∃ p, q = p + 1 := ⟨q - 1, by omega⟩
          have c0 := hc1 p (by omega)
          obtain rfl := hl1 p hp
          generalize bs.getD p 0 = l at c0 HG
          clear hl0 hl1 hc1 hq0
          have hsb2 : (q : Int) - 1 = (p : Int) := by omega
          have hwp : IntKind.i64.wrap (p : Int) = (p : Int) := by rw [IntKind.wrap_i64]; omega
          have hpos : (0 : Int) < (q : Int) := by omega
          have hpn : (p : Int) < (nb : Int) := by omega
          have hp0 : (0 : Int) ≤ (p : Int) := by omega
          have HQP : Hid (0 < q) := (by omega : 0 < q)
          clear hp
          refine wp_region_noPanic ?_
          refine wp_region_held_drew (S := fun W => wr.grownBy W none) (by kernel_rfl) (grown_drew _ _) (fun hHeld => ?_)
          generalize wr.drew = wd0 at hHeld ⊢
          have HX0 : Hid (Below wr.heap.size wr wd0) := ⟨hHeld.os, hHeld.tape, hHeld.output, hHeld.size, fun k hk => hHeld.block k hk (by simp)⟩
          refine wpAnyH_take (i := 0) (v := .pointer (some ⟨w.heap.size, 2, none⟩)) rfl (by kernel_rfl) (by kernel_rfl) (by kernel_rfl) (fun _ _ _ h => h) (Or.inl ⟨by kernel_rfl, ?_⟩) (by assumption) ?_
          · intro wq hSq; go_simp
          try simp only [Act.put]
          refine wpAnyH_take (i := 1) (v := .slice (some ⟨b1, o1, none⟩) nb cb) rfl (by kernel_rfl) (by kernel_rfl) (by kernel_rfl) (fun _ _ _ h => h) (Or.inl ⟨by kernel_rfl, ?_⟩) (by assumption) ?_
          · intro wp hSp; have c0 : wp.cell? ⟨w.heap.size, 2, none⟩ = some (.slice (some ⟨b1, o1, none⟩) nb cb) := (HL_0.out.grown hSp (by simp)).at 2; go_simp
          try simp only [Act.put]
          refine wpAnyH_take (i := 2) (v := .int .i64 (q : Nat)) rfl (by kernel_rfl) (by kernel_rfl) (by kernel_rfl) (fun _ _ _ h => h) (Or.inl ⟨by kernel_rfl, ?_⟩) (by assumption) ?_
          · intro wq hSq; go_simp
          try simp only [Act.put]
          refine wpAnyH_take (i := 3) (v := .pointer (some ⟨b1, o1 + q, none⟩)) rfl (by kernel_rfl) (by kernel_rfl) (by kernel_rfl) (fun _ _ _ h => h) (Or.inl ⟨by kernel_rfl, ?_⟩) (by assumption) ?_
          · intro wq hSq; go_simp
          try simp only [Act.put]
          refine wpAnyH_take (i := 4) (v := .int .i64 x) rfl (by kernel_rfl) (by kernel_rfl) (by kernel_rfl) (fun _ _ _ h => h) (Or.inl ⟨by kernel_rfl, ?_⟩) (by assumption) ?_
          · intro wp hSp; have c0 : wp.cell? ⟨b1, o1 + q, none⟩ = some (.int .i64 x) := hSp.cell c1 (by simp); go_simp
          try simp only [Act.put]
          refine wpAnyH_ready (rs := [5]) (by kernel_rfl) (by simp) ?_
          refine AllReadyH.cons rfl (fun Kk hK => ?_) AllReadyH.nil
          go_simp
          refine (C3 _).mono ?_
          rintro e wn ⟨rfl, hwn⟩; have hwm := hwn.symm; clear hwn; subst hwm
          go_simp
          refine hK.out _ _ (by assumption) (fun hHeld1 => ?_)
          clear hK Kk
          try simp only [Act.put]
          refine wpAnyH_take (i := 6) (v := .bool (!ow)) rfl (by kernel_rfl) (by kernel_rfl) (by kernel_rfl) (fun _ _ _ h => h) (Or.inl ⟨by kernel_rfl, ?_⟩) (by assumption) ?_
          · intro wq hSq; go_simp
          try simp only [Act.put]
          refine wpAnyH_take (i := 7) (v := .bool (!ow)) rfl (by kernel_rfl) (by kernel_rfl) (by kernel_rfl) (fun _ _ _ h => h) (Or.inl ⟨by kernel_rfl, ?_⟩) (by assumption) ?_
          · intro wq hSq; go_simp
          try simp only [Act.put]
          cases ow with
          | false =>
            refine wpAnyH_take (i := 8) (v := undef) rfl (by kernel_rfl) (by kernel_rfl) (by kernel_rfl) (fun _ _ _ h => h) (Or.inr ⟨by kernel_rfl, rfl⟩) (by assumption) ?_
            try simp only [Act.put]
            refine wpAnyH_take (i := 9) (v := undef) rfl (by kernel_rfl) (by kernel_rfl) (by kernel_rfl) (fun _ _ _ h => h) (Or.inr ⟨by kernel_rfl, rfl⟩) (by assumption) ?_
            try simp only [Act.put]
            refine wpAnyH_take (i := 10) (v := undef) rfl (by kernel_rfl) (by kernel_rfl) (by kernel_rfl) (fun _ _ _ h => h) (Or.inr ⟨by kernel_rfl, rfl⟩) (by assumption) ?_
            try simp only [Act.put]
            refine wpAnyH_take (i := 11) (v := undef) rfl (by kernel_rfl) (by kernel_rfl) (by kernel_rfl) (fun _ _ _ h => h) (Or.inr ⟨by kernel_rfl, rfl⟩) (by assumption) ?_
            try simp only [Act.put]
            refine wpAnyH_take (i := 12) (v := undef) rfl (by kernel_rfl) (by kernel_rfl) (by kernel_rfl) (fun _ _ _ h => h) (Or.inr ⟨by kernel_rfl, rfl⟩) (by assumption) ?_
            try simp only [Act.put]
            refine wpAnyH_take (i := 13) (v := undef) rfl (by kernel_rfl) (by kernel_rfl) (by kernel_rfl) (fun _ _ _ h => h) (Or.inr ⟨by kernel_rfl, rfl⟩) (by assumption) ?_
            try simp only [Act.put]
            refine wpAnyH_take (i := 14) (v := undef) rfl (by kernel_rfl) (by kernel_rfl) (by kernel_rfl) (fun _ _ _ h => h) (Or.inr ⟨by kernel_rfl, rfl⟩) (by assumption) ?_
            try simp only [Act.put]
            refine wpAnyH_take (i := 15) (v := undef) rfl (by kernel_rfl) (by kernel_rfl) (by kernel_rfl) (fun _ _ _ h => h) (Or.inr ⟨by kernel_rfl, rfl⟩) (by assumption) ?_
            try simp only [Act.put]
            refine wpAnyH_take (i := 16) (v := undef) rfl (by kernel_rfl) (by kernel_rfl) (by kernel_rfl) (fun _ _ _ h => h) (Or.inr ⟨by kernel_rfl, rfl⟩) (by assumption) ?_
            try simp only [Act.put]
            refine wpAnyH_take (i := 17) (v := undef) rfl (by kernel_rfl) (by kernel_rfl) (by kernel_rfl) (fun _ _ _ h => h) (Or.inr ⟨by kernel_rfl, rfl⟩) (by assumption) ?_
            try simp only [Act.put]
            refine wpAnyH_take (i := 18) (v := undef) rfl (by kernel_rfl) (by kernel_rfl) (by kernel_rfl) (fun _ _ _ h => h) (Or.inr ⟨by kernel_rfl, rfl⟩) (by assumption) ?_
            try simp only [Act.put]
            refine wpAnyH_take (i := 19) (v := undef) rfl (by kernel_rfl) (by kernel_rfl) (by kernel_rfl) (fun _ _ _ h => h) (Or.inr ⟨by kernel_rfl, rfl⟩) (by assumption) ?_
            try simp only [Act.put]
            refine wpAnyH_take (i := 20) (v := undef) rfl (by kernel_rfl) (by kernel_rfl) (by kernel_rfl) (fun _ _ _ h => h) (Or.inr ⟨by kernel_rfl, rfl⟩) (by assumption) ?_
            try simp only [Act.put]
            refine wpAnyH_take (i := 21) (v := undef) rfl (by kernel_rfl) (by kernel_rfl) (by kernel_rfl) (fun _ _ _ h => h) (Or.inr ⟨by kernel_rfl, rfl⟩) (by assumption) ?_
            try simp only [Act.put]
            refine wpAnyH_take (i := 22) (v := undef) rfl (by kernel_rfl) (by kernel_rfl) (by kernel_rfl) (fun _ _ _ h => h) (Or.inr ⟨by kernel_rfl, rfl⟩) (by assumption) ?_
            try simp only [Act.put]
            refine wpAnyH_take (i := 23) (v := undef) rfl (by kernel_rfl) (by kernel_rfl) (by kernel_rfl) (fun _ _ _ h => h) (Or.inr ⟨by kernel_rfl, rfl⟩) (by assumption) ?_
            try simp only [Act.put]
            refine wpAnyH_take (i := 24) (v := .bool true) rfl (by kernel_rfl) (by kernel_rfl) (by kernel_rfl) (fun _ _ _ h => h) (Or.inl ⟨by kernel_rfl, ?_⟩) (by assumption) ?_
            · intro wq hSq; go_simp
            try simp only [Act.put]
            refine wpAnyH_done (by kernel_rfl) ?_ _
            refine NoPanic.normal ?_
            go_simp
            have HF : Hid (false = R) := by show _ = _; have := HG.out; simpa using this
            have HBx : Hid (Below w.heap.size w wd0) := HB0.out.trans ((HB_0.out.trans (HX0.out.mono HB_0.out.size)).mono HB0.out.size)
            go_wp2
            go_ret
            exact ⟨ret_bool HF.out, HBx.out⟩
          | true =>
            refine wpAnyH_take (i := 8) (v := .int .i64 (q : Nat)) rfl (by kernel_rfl) (by kernel_rfl) (by kernel_rfl) (fun _ _ _ h => h) (Or.inl ⟨by kernel_rfl, ?_⟩) (by assumption) ?_
            · intro wq hSq; go_simp
            try simp only [Act.put]
            refine wpAnyH_take (i := 9) (v := .bool true) rfl (by kernel_rfl) (by kernel_rfl) (by kernel_rfl) (fun _ _ _ h => h) (Or.inl ⟨by kernel_rfl, ?_⟩) (by assumption) ?_
            · intro wq hSq; go_simp; exact HQP.out
            try simp only [Act.put]
            refine wpAnyH_take (i := 10) (v := .bool true) rfl (by kernel_rfl) (by kernel_rfl) (by kernel_rfl) (fun _ _ _ h => h) (Or.inl ⟨by kernel_rfl, ?_⟩) (by assumption) ?_
            · intro wq hSq; go_simp
            try simp only [Act.put]
            refine wpAnyH_take (i := 11) (v := .pointer (some ⟨w.heap.size, 2, none⟩)) rfl (by kernel_rfl) (by kernel_rfl) (by kernel_rfl) (fun _ _ _ h => h) (Or.inl ⟨by kernel_rfl, ?_⟩) (by assumption) ?_
            · intro wq hSq; go_simp
            try simp only [Act.put]
            refine wpAnyH_take (i := 12) (v := .slice (some ⟨b1, o1, none⟩) nb cb) rfl (by kernel_rfl) (by kernel_rfl) (by kernel_rfl) (fun _ _ _ h => h) (Or.inl ⟨by kernel_rfl, ?_⟩) (by assumption) ?_
            · intro wp hSp; have c0 : wp.cell? ⟨w.heap.size, 2, none⟩ = some (.slice (some ⟨b1, o1, none⟩) nb cb) := (HL_0.out.grown hSp (by simp)).at 2; go_simp
            try simp only [Act.put]
            refine wpAnyH_take (i := 13) (v := .int .i64 (q : Nat)) rfl (by kernel_rfl) (by kernel_rfl) (by kernel_rfl) (fun _ _ _ h => h) (Or.inl ⟨by kernel_rfl, ?_⟩) (by assumption) ?_
            · intro wq hSq; go_simp
            try simp only [Act.put]
            refine wpAnyH_take (i := 14) (v := .int .i64 p) rfl (by kernel_rfl) (by kernel_rfl) (by kernel_rfl) (fun _ _ _ h => h) (Or.inl ⟨by kernel_rfl, ?_⟩) (by assumption) ?_
            · intro wq hSq; go_simp
            try simp only [Act.put]
            refine wpAnyH_take (i := 15) (v := .pointer (some ⟨b1, o1 + p, none⟩)) rfl (by kernel_rfl) (by kernel_rfl) (by kernel_rfl) (fun _ _ _ h => h) (Or.inl ⟨by kernel_rfl, ?_⟩) (by assumption) ?_
            · intro wq hSq; go_simp
            try simp only [Act.put]
            refine wpAnyH_take (i := 16) (v := .int .i64 l) rfl (by kernel_rfl) (by kernel_rfl) (by kernel_rfl) (fun _ _ _ h => h) (Or.inl ⟨by kernel_rfl, ?_⟩) (by assumption) ?_
            · intro wp hSp; have c0 : wp.cell? ⟨b1, o1 + p, none⟩ = some (.int .i64 l) := hSp.cell c0 (by simp); go_simp
            try simp only [Act.put]
            refine wpAnyH_take (i := 17) (v := .pointer (some ⟨w.heap.size, 2, none⟩)) rfl (by kernel_rfl) (by kernel_rfl) (by kernel_rfl) (fun _ _ _ h => h) (Or.inl ⟨by kernel_rfl, ?_⟩) (by assumption) ?_
            · intro wq hSq; go_simp
            try simp only [Act.put]
            refine wpAnyH_take (i := 18) (v := .slice (some ⟨b1, o1, none⟩) nb cb) rfl (by kernel_rfl) (by kernel_rfl) (by kernel_rfl) (fun _ _ _ h => h) (Or.inl ⟨by kernel_rfl, ?_⟩) (by assumption) ?_
            · intro wp hSp; have c0 : wp.cell? ⟨w.heap.size, 2, none⟩ = some (.slice (some ⟨b1, o1, none⟩) nb cb) := (HL_0.out.grown hSp (by simp)).at 2; go_simp
            try simp only [Act.put]
            refine wpAnyH_take (i := 19) (v := .int .i64 (q : Nat)) rfl (by kernel_rfl) (by kernel_rfl) (by kernel_rfl) (fun _ _ _ h => h) (Or.inl ⟨by kernel_rfl, ?_⟩) (by assumption) ?_
            · intro wq hSq; go_simp
            try simp only [Act.put]
            refine wpAnyH_take (i := 20) (v := .pointer (some ⟨b1, o1 + q, none⟩)) rfl (by kernel_rfl) (by kernel_rfl) (by kernel_rfl) (fun _ _ _ h => h) (Or.inl ⟨by kernel_rfl, ?_⟩) (by assumption) ?_
            · intro wq hSq; go_simp
            try simp only [Act.put]
            refine wpAnyH_take (i := 21) (v := .int .i64 x) rfl (by kernel_rfl) (by kernel_rfl) (by kernel_rfl) (fun _ _ _ h => h) (Or.inl ⟨by kernel_rfl, ?_⟩) (by assumption) ?_
            · intro wp hSp; have c0 : wp.cell? ⟨b1, o1 + q, none⟩ = some (.int .i64 x) := hSp.cell c1 (by simp); go_simp
            try simp only [Act.put]
            by_cases hlx : x ≤ l
            · have hd : decide (x ≤ l) = true := by simp [hlx]
              refine wpAnyH_take (i := 22) (v := .bool true) rfl (by kernel_rfl) (by kernel_rfl) (by kernel_rfl) (fun _ _ _ h => h) (Or.inl ⟨by kernel_rfl, ?_⟩) (by assumption) ?_
              · intro wq hSq; go_simp
              try simp only [Act.put]
              refine wpAnyH_take (i := 23) (v := .bool true) rfl (by kernel_rfl) (by kernel_rfl) (by kernel_rfl) (fun _ _ _ h => h) (Or.inl ⟨by kernel_rfl, ?_⟩) (by assumption) ?_
              · intro wq hSq; go_simp
              try simp only [Act.put]
              refine wpAnyH_take (i := 24) (v := .bool true) rfl (by kernel_rfl) (by kernel_rfl) (by kernel_rfl) (fun _ _ _ h => h) (Or.inl ⟨by kernel_rfl, ?_⟩) (by assumption) ?_
              · intro wq hSq; go_simp
              try simp only [Act.put]
              refine wpAnyH_done (by kernel_rfl) ?_ _
              refine NoPanic.normal ?_
              go_simp
              have HF : Hid (false = R) := by show _ = _; have := HG.out; rw [show decide (l < x) = false by simp; omega] at this; simpa using this
              have HBx : Hid (Below w.heap.size w wd0) := HB0.out.trans ((HB_0.out.trans (HX0.out.mono HB_0.out.size)).mono HB0.out.size)
              go_wp2
              go_ret
              exact ⟨ret_bool HF.out, HBx.out⟩
            · have hd : decide (x ≤ l) = false := by simp; omega
              refine wpAnyH_take (i := 22) (v := .bool false) rfl (by kernel_rfl) (by kernel_rfl) (by kernel_rfl) (fun _ _ _ h => h) (Or.inl ⟨by kernel_rfl, ?_⟩) (by assumption) ?_
              · intro wq hSq; go_simp
              try simp only [Act.put]
              refine wpAnyH_take (i := 23) (v := .bool false) rfl (by kernel_rfl) (by kernel_rfl) (by kernel_rfl) (fun _ _ _ h => h) (Or.inl ⟨by kernel_rfl, ?_⟩) (by assumption) ?_
              · intro wq hSq; go_simp
              try simp only [Act.put]
              refine wpAnyH_take (i := 24) (v := .bool false) rfl (by kernel_rfl) (by kernel_rfl) (by kernel_rfl) (fun _ _ _ h => h) (Or.inl ⟨by kernel_rfl, ?_⟩) (by assumption) ?_
              · intro wq hSq; go_simp
              try simp only [Act.put]
              refine wpAnyH_done (by kernel_rfl) ?_ _
              refine NoPanic.normal ?_
              go_simp
              have HB_1 : Hid (Below w1.heap.size w1 wd0) := HB_0.out.trans (HX0.out.mono HB_0.out.size)
              have HL_1 : Hid (Lies wd0 w.heap.size [.int .i64 now, .int .i64 next, .slice (some ⟨b1, o1, none⟩) nb cb, .slice aj nj cj]) := HL_0.out.belowS HX0.out
              clear HB_0 HL_0
              have HG3 : Hid ((M.bnGo x (bs.drop (q + 1)) && SJ) = R) := by show _ = _; have := HG.out; rw [show decide (l < x) = true by simp; omega] at this; simpa using this
              go_wp2
              go_roundw
              case rel => exact ⟨q + 1, x, by omega, by go_num, (fun h => by omega), HNX.out, HG3.out, HB_1.out⟩
              case measure => simp [intOf]; omega
end Go.Proofs.YtfhknkppiidnkaaGreat
namespace Go.Proofs.YtfhknkppiidnkaaGreat
open Go.RowKit

set_option maxHeartbeats 32000000 in
set_option maxRecDepth 100000 in
def mkxB : Cut2 mkxA.q := by
            apply Cut2.mk
            intro key1 key2
            intro ab aj cb nj cj bs js now next w hlen bnj hcj HI R mkx2z1 w1 HB0 C1 C2 now0 now1 next0 next1 h6 h6I mkx2z2 SJ mkx2z3 mkx2z4 u32 u33 u34 u35 u36 u37 u38 u39 u40 u41 u42 u43 u44 u45 u46 u47 u48 u49 u50 u51 u52 u53 u54 u55 u56 u57 u58 u59 u60 u61 u62 u63 q l hlb bnb hcb HL0 HM0 h9 h9I mkx2z5 hq mkx2z6 mkx2z7 mkx2z8 mkx2z9 mkx2z10 mkx2z11 we eb wr u2 u6 u7 u8 u9 u65 u66 u67 u68 u69 u70 u71 u72 u73 u74 u75 u76 u77 u78 u79 u80 u81 u82 u83 u84 u85 u86 u87 u88 u89 u90 u91 u92 u93 u94 u95 u96 u97 u98 u99 u100 u101 u102 u103 u104 u105 u106 u107 u108 u109 u110 u111 u112 u113 u114 u115 u116 u117 u118 u119 u120 u121 u122 u123 u124 u125 u126 u127 u128 u129 u130 u131 u132 u133 u134 u135 u136 u137 u138 u139 u140 u141 u142 u143 u144 u145 u146 u147 u148 u149 u150 u151 u152 u153 u154 u155 u156 u157 u158 u159 u160 u161 u162 u163 u164 u165 u166 u167 u168 u169 u170 u171 u172 u173 u174 u175 u176 u177 u178 u179 u180 u181 u182 u183 u184 u185 u186 u187 j lst ws hj hl0 hl1 hg hws al ml cl ho1 hb1 hlt
            obtain ⟨b1, o1, rfl, hc1⟩ := HM0.out.j.at (by omega)
            obtain ⟨ta, tc, hA, hT⟩ := hc1 j hlt
            have hjI : (j : Int) < (nj : Int) := by omega
            have hG := hg
            rw [drop_step M.j0 hlen hlt] at hG
            unfold M.spJ M.spH at hG
            have hnid : ∀ j', j + 1 = j' + 1 → (js.getD j M.j0).id = (js.getD j' M.j0).id := fun j' h => by rw [Nat.succ.inj h]
            have HPI : Hid (∀ p, j = p + 1 → w1.cell? ⟨b1, o1 + p * 18, none⟩ = some (.int .i64 lst)) := fun p hp => by
              obtain ⟨ta', tc', hA', _⟩ := hc1 p (by omega)
              have := hA' 0 (by omega)
              rw [hl1 p hp]; exact this
            generalize js.getD j M.j0 = cq at hA hT hG hnid
            obtain ⟨jid, ⟨⟨a, b, c', d, f, k⟩, ⟨a', b', c'', d', f', k'⟩⟩, ⟨s1, s2⟩, jr, jg, tl⟩ := cq
            dsimp only at hT hG hnid
            have hR : wr.rangeAt b1 (o1 + j * 18) (jvs ⟨jid, ⟨⟨a, b, c', d, f, k⟩, ⟨a', b', c'', d', f', k'⟩⟩, (s1, s2), jr, jg, tl⟩ ta tc) := range_below (row_of_cells rfl hA) hb1
            have HT : Hid (SeesT w1 ta tl.length tc tl) := hT
            dsimp only [jvs] at hR
            generalize htl : tl.length = tn at hR HT hG
            have HTL : Hid (tl.length = tn) := htl
            have HNI : Hid (∀ j', j + 1 = j' + 1 → jid = (js.getD j' M.j0).id) := hnid
            have htcI : (tn : Int) ≤ tc := by have := HT.out.le; omega
            have htnb : (tn : Int) ≤ 9223372036854775807 := by have := HT.out.le; have := HT.out.big; omega
            have C3 := l1InG_any jid 1 1000000000
            have CM := specMachineOk_any ⟨⟨a, b, c', d, f, k⟩, ⟨a', b', c'', d', f', k'⟩⟩
            have CS := specStateOk_any (s1, s2)
            have CR := l6Rows_any jr
            dsimp only [mcv, stv] at CM CS
            generalize M.rows jr = oR at CR hG
            generalize M.sOk (s1, s2) = oS at CS hG
            generalize M.Mc.ok ⟨⟨a, b, c', d, f, k⟩, ⟨a', b', c'', d', f', k'⟩⟩ = oM at CM hG
            have HI1 : Hid ((decide (1 ≤ jid) && decide (jid ≤ 1000000000)) = true → 1 ≤ jid) := fun h => by simp at h; exact h.1
            generalize (decide (1 ≤ jid) && decide (jid ≤ 1000000000)) = oI at C3 hG HI1
            have HG : Hid (_ = R) := hG
            clear hc1 hA hT hg hG htl hnid hl1
            have HB_0 : Hid (Below w1.heap.size w1 wr) := hb1
            have HL_0 : Hid (Lies wr w.heap.size [.int .i64 now, .int .i64 next, .slice ab q cb, .slice (some ⟨b1, o1, none⟩) nj cj]) := HL0.out.belowS hb1
            have HO_0 : Hid (Owns 2 wr w1.heap.size al ml cl ws) := ho1
            have hnb : ∀ z, (Value.slice al ml cl).ownBlock = some z → z < wr.heap.size := fun z hz => (World.ownsRow.lt ho1 z hz).2
            have hne0 : (Value.slice al ml cl).ownBlock ≠ some wr.heap.size := fun e => absurd (hnb _ e) (by omega)
            clear hnb hb1 ho1
            have m3 : wr.cell? ⟨w.heap.size, 3, none⟩ = some (.slice (some ⟨b1, o1, none⟩) nj cj) := HL_0.out.at 3
            go_wp2_with (with_reducible refine wpList_stop 76 ?_ ?_; rfl)
            show wpList _ _ _ _ _ _
            clear m3
            have iL : (Tryz.prog.info? 44).map (·.size) = some ([.int .i64 jid, .int .i64 a, .int .i64 b, .int .i64 c', .int .i64 d, .int .i64 f, .int .i64 k, .int .i64 a', .int .i64 b', .int .i64 c'', .int .i64 d', .int .i64 f', .int .i64 k', .int .i64 s1, .int .i64 s2, .int .i64 jr, .bool jg, .slice ta tn tc] : List Value).length := (show (Tryz.prog.info? 44).map (·.size) = some 18 by kernel_rfl)
            with_reducible refine wpList_load_mid ?qg 44 ?qlj ?qo b1 (o1 + j * 18) ?qhx [.int .i64 jid, .int .i64 a, .int .i64 b, .int .i64 c', .int .i64 d, .int .i64 f, .int .i64 k, .int .i64 a', .int .i64 b', .int .i64 c'', .int .i64 d', .int .i64 f', .int .i64 k', .int .i64 s1, .int .i64 s2, .int .i64 jr, .bool jg, .slice ta tn tc] _ hR Tryz.underlying44 ?qd iL ?qr
            case qg => exact rfl
            case qo => exact rfl
            case qhx => exact rfl
            case qd => exact rfl
            case qr =>
              clear iL
              show wpList _ _ _ _ _ _
              clear hR
              go_wp2_with (with_reducible refine wpList_stop 6 ?_ ?_; rfl)
              show wpList _ _ _ _ _ _
              have hal : (Instr.alloc 44 true (.tuple #[])).run Tryz.prog wr = .ok (.pointer (some ⟨wr.heap.size, 0, none⟩)) (wr.alloc (.cells #[.int .i64 0, .int .i64 0, .int .i64 0, .int .i64 0, .int .i64 0, .int .i64 0, .int .i64 0, .int .i64 0, .int .i64 0, .int .i64 0, .int .i64 0, .int .i64 0, .int .i64 0, .int .i64 0, .int .i64 0, .int .i64 0, .bool false, .slice none 0 0] 44)) := by kernel_rfl
              with_reducible refine wpList_alloc_as ?qg 44 ?qo #[.int .i64 0, .int .i64 0, .int .i64 0, .int .i64 0, .int .i64 0, .int .i64 0, .int .i64 0, .int .i64 0, .int .i64 0, .int .i64 0, .int .i64 0, .int .i64 0, .int .i64 0, .int .i64 0, .int .i64 0, .int .i64 0, .bool false, .slice none 0 0] hal ?qr
              case qg => exact rfl
              case qo => exact rfl
              case qr =>
                clear hal
                show wpList _ _ _ _ _ _
                have tA : (wr.alloc (.cells #[.int .i64 0, .int .i64 0, .int .i64 0, .int .i64 0, .int .i64 0, .int .i64 0, .int .i64 0, .int .i64 0, .int .i64 0, .int .i64 0, .int .i64 0, .int .i64 0, .int .i64 0, .int .i64 0, .int .i64 0, .int .i64 0, .bool false, .slice none 0 0] 44)).there wr.heap.size 0 ([.int .i64 jid, .int .i64 a, .int .i64 b, .int .i64 c', .int .i64 d, .int .i64 f, .int .i64 k, .int .i64 a', .int .i64 b', .int .i64 c'', .int .i64 d', .int .i64 f', .int .i64 k', .int .i64 s1, .int .i64 s2, .int .i64 jr, .bool jg, .slice ta tn tc] : List Value).toArray.size := (lies_new _ _ _).there _ 18 (by simp)
                have iA : (Tryz.prog.info? 44).map (·.size) = some ([.int .i64 jid, .int .i64 a, .int .i64 b, .int .i64 c', .int .i64 d, .int .i64 f, .int .i64 k, .int .i64 a', .int .i64 b', .int .i64 c'', .int .i64 d', .int .i64 f', .int .i64 k', .int .i64 s1, .int .i64 s2, .int .i64 jr, .bool jg, .slice ta tn tc] : List Value).toArray.size := (show (Tryz.prog.info? 44).map (·.size) = some 18 by kernel_rfl)
                with_reducible refine wpList_store_mid ?qg 44 ?qsx0 ?qsy0 ?qo wr.heap.size 0 ([.int .i64 jid, .int .i64 a, .int .i64 b, .int .i64 c', .int .i64 d, .int .i64 f, .int .i64 k, .int .i64 a', .int .i64 b', .int .i64 c'', .int .i64 d', .int .i64 f', .int .i64 k', .int .i64 s1, .int .i64 s2, .int .i64 jr, .bool jg, .slice ta tn tc] : List Value).toArray ?qhx ?qhy tA iA (by kernel_rfl) ?qr
                case qg => exact rfl
                case qo => exact rfl
                case qhx => exact rfl
                case qhy => exact rfl
                case qr =>
                  clear tA iA
                  show wpList _ _ _ _ _ ((wr.alloc (.cells #[.int .i64 0, .int .i64 0, .int .i64 0, .int .i64 0, .int .i64 0, .int .i64 0, .int .i64 0, .int .i64 0, .int .i64 0, .int .i64 0, .int .i64 0, .int .i64 0, .int .i64 0, .int .i64 0, .int .i64 0, .int .i64 0, .bool false, .slice none 0 0] 44)).setCells wr.heap.size 0 [.int .i64 jid, .int .i64 a, .int .i64 b, .int .i64 c', .int .i64 d, .int .i64 f, .int .i64 k, .int .i64 a', .int .i64 b', .int .i64 c'', .int .i64 d', .int .i64 f', .int .i64 k', .int .i64 s1, .int .i64 s2, .int .i64 jr, .bool jg, .slice ta tn tc])
                  have hba : Below wr.heap.size wr ((wr.alloc (.cells #[.int .i64 0, .int .i64 0, .int .i64 0, .int .i64 0, .int .i64 0, .int .i64 0, .int .i64 0, .int .i64 0, .int .i64 0, .int .i64 0, .int .i64 0, .int .i64 0, .int .i64 0, .int .i64 0, .int .i64 0, .int .i64 0, .bool false, .slice none 0 0] 44)).setCells wr.heap.size 0 [.int .i64 jid, .int .i64 a, .int .i64 b, .int .i64 c', .int .i64 d, .int .i64 f, .int .i64 k, .int .i64 a', .int .i64 b', .int .i64 c'', .int .i64 d', .int .i64 f', .int .i64 k', .int .i64 s1, .int .i64 s2, .int .i64 jr, .bool jg, .slice ta tn tc]) := below_setCells _ _ ((Below.refl _ _).alloc (Nat.le_refl _) _) (Nat.le_refl _)
                  have HB_1 : Hid (Below w1.heap.size w1 ((wr.alloc (.cells #[.int .i64 0, .int .i64 0, .int .i64 0, .int .i64 0, .int .i64 0, .int .i64 0, .int .i64 0, .int .i64 0, .int .i64 0, .int .i64 0, .int .i64 0, .int .i64 0, .int .i64 0, .int .i64 0, .int .i64 0, .int .i64 0, .bool false, .slice none 0 0] 44)).setCells wr.heap.size 0 [.int .i64 jid, .int .i64 a, .int .i64 b, .int .i64 c', .int .i64 d, .int .i64 f, .int .i64 k, .int .i64 a', .int .i64 b', .int .i64 c'', .int .i64 d', .int .i64 f', .int .i64 k', .int .i64 s1, .int .i64 s2, .int .i64 jr, .bool jg, .slice ta tn tc])) := HB_0.out.trans (hba.mono HB_0.out.size)
                  have HL_1 : Hid (Lies ((wr.alloc (.cells #[.int .i64 0, .int .i64 0, .int .i64 0, .int .i64 0, .int .i64 0, .int .i64 0, .int .i64 0, .int .i64 0, .int .i64 0, .int .i64 0, .int .i64 0, .int .i64 0, .int .i64 0, .int .i64 0, .int .i64 0, .int .i64 0, .bool false, .slice none 0 0] 44)).setCells wr.heap.size 0 [.int .i64 jid, .int .i64 a, .int .i64 b, .int .i64 c', .int .i64 d, .int .i64 f, .int .i64 k, .int .i64 a', .int .i64 b', .int .i64 c'', .int .i64 d', .int .i64 f', .int .i64 k', .int .i64 s1, .int .i64 s2, .int .i64 jr, .bool jg, .slice ta tn tc]) w.heap.size [.int .i64 now, .int .i64 next, .slice ab q cb, .slice (some ⟨b1, o1, none⟩) nj cj]) := HL_0.out.belowS hba
                  have HO_1 : Hid (Owns 2 ((wr.alloc (.cells #[.int .i64 0, .int .i64 0, .int .i64 0, .int .i64 0, .int .i64 0, .int .i64 0, .int .i64 0, .int .i64 0, .int .i64 0, .int .i64 0, .int .i64 0, .int .i64 0, .int .i64 0, .int .i64 0, .int .i64 0, .int .i64 0, .bool false, .slice none 0 0] 44)).setCells wr.heap.size 0 [.int .i64 jid, .int .i64 a, .int .i64 b, .int .i64 c', .int .i64 d, .int .i64 f, .int .i64 k, .int .i64 a', .int .i64 b', .int .i64 c'', .int .i64 d', .int .i64 f', .int .i64 k', .int .i64 s1, .int .i64 s2, .int .i64 jr, .bool jg, .slice ta tn tc]) w1.heap.size al ml cl ws) := HO_0.out.below hba
                  clear HB_0 HL_0 HO_0
                  clear hba
                  have HJ_1 : Hid (Lies ((wr.alloc (.cells #[.int .i64 0, .int .i64 0, .int .i64 0, .int .i64 0, .int .i64 0, .int .i64 0, .int .i64 0, .int .i64 0, .int .i64 0, .int .i64 0, .int .i64 0, .int .i64 0, .int .i64 0, .int .i64 0, .int .i64 0, .int .i64 0, .bool false, .slice none 0 0] 44)).setCells wr.heap.size 0 [.int .i64 jid, .int .i64 a, .int .i64 b, .int .i64 c', .int .i64 d, .int .i64 f, .int .i64 k, .int .i64 a', .int .i64 b', .int .i64 c'', .int .i64 d', .int .i64 f', .int .i64 k', .int .i64 s1, .int .i64 s2, .int .i64 jr, .bool jg, .slice ta tn tc]) wr.heap.size [.int .i64 jid, .int .i64 a, .int .i64 b, .int .i64 c', .int .i64 d, .int .i64 f, .int .i64 k, .int .i64 a', .int .i64 b', .int .i64 c'', .int .i64 d', .int .i64 f', .int .i64 k', .int .i64 s1, .int .i64 s2, .int .i64 jr, .bool jg, .slice ta tn tc]) := (lies_new wr #[.int .i64 0, .int .i64 0, .int .i64 0, .int .i64 0, .int .i64 0, .int .i64 0, .int .i64 0, .int .i64 0, .int .i64 0, .int .i64 0, .int .i64 0, .int .i64 0, .int .i64 0, .int .i64 0, .int .i64 0, .int .i64 0, .bool false, .slice none 0 0] 44).setCells [.int .i64 jid, .int .i64 a, .int .i64 b, .int .i64 c', .int .i64 d, .int .i64 f, .int .i64 k, .int .i64 a', .int .i64 b', .int .i64 c'', .int .i64 d', .int .i64 f', .int .i64 k', .int .i64 s1, .int .i64 s2, .int .i64 jr, .bool jg, .slice ta tn tc] 0 (by simp)
                  generalize ((wr.alloc (.cells #[.int .i64 0, .int .i64 0, .int .i64 0, .int .i64 0, .int .i64 0, .int .i64 0, .int .i64 0, .int .i64 0, .int .i64 0, .int .i64 0, .int .i64 0, .int .i64 0, .int .i64 0, .int .i64 0, .int .i64 0, .int .i64 0, .bool false, .slice none 0 0] 44)).setCells wr.heap.size 0 [.int .i64 jid, .int .i64 a, .int .i64 b, .int .i64 c', .int .i64 d, .int .i64 f, .int .i64 k, .int .i64 a', .int .i64 b', .int .i64 c'', .int .i64 d', .int .i64 f', .int .i64 k', .int .i64 s1, .int .i64 s2, .int .i64 jr, .bool jg, .slice ta tn tc]) = w2 at HB_1 HL_1 HO_1 HJ_1  ⊢
                  generalize wr.heap.size = jb at HJ_1 hne0 ⊢
                  go_wp2_with fail
                  by_cases hj0 : j = 0
                  case pos =>
                    obtain rfl := hl0 hj0
                    have hgt : ¬ (0 : Int) < (j : Int) := by omega
                    have HQ0 : Hid (j = 0) := hj0
                    clear hl0 hj0 HPI
                    rename_i mkx3z1 mkx3z2 mkx3z3 mkx3z4 mkx3z5 mkx3z6 mkx3z7
                    revert ab cb nj cj bs js now next w hlen bnj hcj HI R mkx2z1 w1 HB0 C1 C2 now0 now1 next0 next1 h6 h6I mkx2z2 SJ mkx2z3 mkx2z4 u32 u33 u34 u35 u36 u37 u38 u39 u40 u41 u42 u43 u44 u45 u46 u47 u48 u49 u50 u51 u52 u53 u54 u55 u56 u57 u58 u59 u60 u61 u62 u63 q l hlb bnb hcb h9 h9I mkx2z5 hq mkx2z6 mkx2z8 mkx2z10 mkx2z11 we eb wr u2 u6 u7 u8 u9 u65 u66 u67 u68 u69 u70 u71 u72 u73 u74 u75 u76 u77 u78 u79 u80 u81 u82 u83 u84 u85 u86 u87 u88 u89 u90 u91 u92 u93 u94 u95 u96 u97 u98 u99 u100 u101 u102 u103 u104 u105 u106 u107 u108 u109 u110 u111 u112 u113 u114 u115 u116 u117 u118 u119 u120 u121 u122 u123 u124 u125 u126 u127 u128 u129 u130 u131 u132 u133 u134 u135 u136 u137 u138 u139 u140 u141 u142 u143 u144 u145 u146 u147 u148 u149 u150 u151 u152 u153 u154 u155 u156 u157 u158 u159 u160 u161 u162 u163 u164 u165 u166 u167 u168 u169 u170 u171 u172 u173 u174 u175 u176 u177 u178 u179 u180 u181 u182 u183 u184 u185 u186 u187 j ws hj hws al ml cl hlt b1 o1 HL0 HM0 mkx2z7 mkx2z9 ta tc hjI jid jr jg tl a b c' d f k a' b' c'' d' f' k' s1 s2 tn HT HTL HNI htcI htnb oR CR oS CS oM CM oI C3 HI1 mkx3z1 mkx3z2 mkx3z3 w2 HB_1 HL_1 HO_1 jb HJ_1 hne0 mkx3z4 mkx3z5 mkx3z6 mkx3z7 HG hgt HQ0
                    exact key1.out
                  obtain ⟨p, hp⟩ : ∃ p, j = p + 1 := ⟨j - 1, by omega⟩
                  have c0 : w2.cell? ⟨b1, o1 + p * 18, none⟩ = some (.int .i64 lst) := (HB_1.out.cell (p := ⟨b1, o1 + p * 18, none⟩) (World.block_lt_of_cell? w1 _ (HPI.out p hp))).trans (HPI.out p hp)
                  have hsb2 : (j : Int) - 1 = (p : Int) := by omega
                  have hwp : IntKind.i64.wrap (p : Int) = (p : Int) := by rw [IntKind.wrap_i64]; omega
                  have hpos : (0 : Int) < (j : Int) := by omega
                  have hpn : (p : Int) < (nj : Int) := by omega
                  have hp0 : (0 : Int) ≤ (p : Int) := by omega
                  have HQP : Hid (0 < j) := (by omega : 0 < j)
                  clear hp hl0 hj0 HPI
                  rename_i mkx4z1 mkx4z2 mkx4z3 mkx4z4 mkx4z5 mkx4z6 mkx4z7
                  revert ab cb nj cj bs js now next w hlen bnj hcj HI R mkx2z1 w1 HB0 C1 C2 now0 now1 next0 next1 h6 h6I mkx2z2 SJ mkx2z3 mkx2z4 u32 u33 u34 u35 u36 u37 u38 u39 u40 u41 u42 u43 u44 u45 u46 u47 u48 u49 u50 u51 u52 u53 u54 u55 u56 u57 u58 u59 u60 u61 u62 u63 q l hlb bnb hcb h9 h9I mkx2z5 hq mkx2z6 mkx2z8 mkx2z10 mkx2z11 we eb wr u2 u6 u7 u8 u9 u65 u66 u67 u68 u69 u70 u71 u72 u73 u74 u75 u76 u77 u78 u79 u80 u81 u82 u83 u84 u85 u86 u87 u88 u89 u90 u91 u92 u93 u94 u95 u96 u97 u98 u99 u100 u101 u102 u103 u104 u105 u106 u107 u108 u109 u110 u111 u112 u113 u114 u115 u116 u117 u118 u119 u120 u121 u122 u123 u124 u125 u126 u127 u128 u129 u130 u131 u132 u133 u134 u135 u136 u137 u138 u139 u140 u141 u142 u143 u144 u145 u146 u147 u148 u149 u150 u151 u152 u153 u154 u155 u156 u157 u158 u159 u160 u161 u162 u163 u164 u165 u166 u167 u168 u169 u170 u171 u172 u173 u174 u175 u176 u177 u178 u179 u180 u181 u182 u183 u184 u185 u186 u187 j lst ws hj hws al ml cl hlt b1 o1 HL0 HM0 mkx2z7 mkx2z9 ta tc hjI jid jr jg tl a b c' d f k a' b' c'' d' f' k' s1 s2 tn HT HTL HNI htcI htnb oR CR oS CS oM CM oI C3 HI1 HG mkx4z1 mkx4z2 mkx4z3 w2 HB_1 HL_1 HO_1 jb HJ_1 hne0 mkx4z4 mkx4z5 mkx4z6 mkx4z7 p c0 hsb2 hwp hpos hpn hp0 HQP
                  exact key2.out
end Go.Proofs.YtfhknkppiidnkaaGreat
