/- A job enters a hall. -/
import Derived.Test.YtfhknkppiidnkaaHlA
namespace Go.Proofs.Ytfhknkppiidnkaa
open Go.RowKit

set_option maxHeartbeats 8000000 in
set_option maxRecDepth 10000 in
theorem enter_any {base h : Nat} {now next : Int} {ab : Option Addr} {nb cb : Nat} {bs : List Int} {ai : Option Addr} {ni ci : Nat} {mb : Nat} {qs : List HJ} (jq : M.Jb) (ta : Option Addr) (tc : Nat) (w : World)
    (H : Hall w base h now next ab nb cb bs ai ni ci mb qs) (hn : ∀ q ∈ qs, q.j.id ≠ jq.id) (hT : OwnsT w base ta jq.ts.length tc jq.ts) (hd : ∀ g ∈ ob ta, g ∉ bls h mb ab ai qs) (hb0 : base ≤ w.heap.size) (hni : ni ≤ 1000) :
    Calls Try.prog 64 #[.pointer (some ⟨h, 0, none⟩), .agg (jvs jq ta tc).toArray] w fun e w' => e = .returned (.tuple #[]) ∧ ∃ ai' ci', Hall w' base h now next ab nb cb bs ai' (ni + 1) ci' mb (qs ++ [⟨jq, w.heap.size, ta, tc⟩]) ∧ Below base w w' := by
  have HH : Hid (Hall w base h now next ab nb cb bs ai ni ci mb qs) := H
  have HN : Hid (∀ q ∈ qs, q.j.id ≠ jq.id) := hn
  have HT : Hid (OwnsT w base ta jq.ts.length tc jq.ts) := hT
  have HD : Hid (∀ g ∈ ob ta, g ∉ bls h mb ab ai qs) := hd
  have HI : Hid (∃ i0, Try.prog.info? 2 = some i0 ∧ i0.zero = some (.int .i64 0) ∧ i0.size = 1 ∧ i0.bytes = 8) := by
    obtain ⟨i0, h1, h2, h3, h4⟩ := info_parts info_i64
    exact ⟨i0, h1, h2, h3, h4⟩
  clear H hn hT hd
  obtain ⟨jid, ⟨⟨a, b, c', d, f, k⟩, ⟨a', b', c'', d', f', k'⟩⟩, ⟨s1, s2⟩, jr, jg, tl⟩ := jq
  dsimp only [jvs] at HT HN ⊢
  generalize htl : tl.length = tn at HT ⊢
  have HTL : Hid (tl.length = tn) := htl
  clear htl
  go_enter Try.func64, Try.ntmps64
  have HJ_0 : Hid (Lies (w.alloc (.cells #[.int .i64 jid, .int .i64 a, .int .i64 b, .int .i64 c', .int .i64 d, .int .i64 f, .int .i64 k, .int .i64 a', .int .i64 b', .int .i64 c'', .int .i64 d', .int .i64 f', .int .i64 k', .int .i64 s1, .int .i64 s2, .int .i64 jr, .bool jg, .slice ta tn tc] 48)) w.heap.size [.int .i64 jid, .int .i64 a, .int .i64 b, .int .i64 c', .int .i64 d, .int .i64 f, .int .i64 k, .int .i64 a', .int .i64 b', .int .i64 c'', .int .i64 d', .int .i64 f', .int .i64 k', .int .i64 s1, .int .i64 s2, .int .i64 jr, .bool jg, .slice ta tn tc]) := lies_new _ _ _
  have HG_0 : Hid (Hall (w.alloc (.cells #[.int .i64 jid, .int .i64 a, .int .i64 b, .int .i64 c', .int .i64 d, .int .i64 f, .int .i64 k, .int .i64 a', .int .i64 b', .int .i64 c'', .int .i64 d', .int .i64 f', .int .i64 k', .int .i64 s1, .int .i64 s2, .int .i64 jr, .bool jg, .slice ta tn tc] 48)) base h now next ab nb cb bs ai ni ci mb qs) := HH.out.below ((Below.refl _ _).alloc (Nat.le_refl _) _)
  have HTa_0 : Hid (OwnsT (w.alloc (.cells #[.int .i64 jid, .int .i64 a, .int .i64 b, .int .i64 c', .int .i64 d, .int .i64 f, .int .i64 k, .int .i64 a', .int .i64 b', .int .i64 c'', .int .i64 d', .int .i64 f', .int .i64 k', .int .i64 s1, .int .i64 s2, .int .i64 jr, .bool jg, .slice ta tn tc] 48)) base ta tn tc tl) := HT.out.grown (World.grownBy_alloc w _ none) (fun _ _ => by simp)
  have HBa : Hid (Below w.heap.size w (w.alloc (.cells #[.int .i64 jid, .int .i64 a, .int .i64 b, .int .i64 c', .int .i64 d, .int .i64 f, .int .i64 k, .int .i64 a', .int .i64 b', .int .i64 c'', .int .i64 d', .int .i64 f', .int .i64 k', .int .i64 s1, .int .i64 s2, .int .i64 jr, .bool jg, .slice ta tn tc] 48))) := (Below.refl _ _).alloc (Nat.le_refl _) _
  have HSZ : Hid ((w.alloc (.cells #[.int .i64 jid, .int .i64 a, .int .i64 b, .int .i64 c', .int .i64 d, .int .i64 f, .int .i64 k, .int .i64 a', .int .i64 b', .int .i64 c'', .int .i64 d', .int .i64 f', .int .i64 k', .int .i64 s1, .int .i64 s2, .int .i64 jr, .bool jg, .slice ta tn tc] 48)).heap.size = w.heap.size + 1) := by show _ = _; simp
  go_wp2_with fail
  generalize (w.alloc (.cells #[.int .i64 jid, .int .i64 a, .int .i64 b, .int .i64 c', .int .i64 d, .int .i64 f, .int .i64 k, .int .i64 a', .int .i64 b', .int .i64 c'', .int .i64 d', .int .i64 f', .int .i64 k', .int .i64 s1, .int .i64 s2, .int .i64 jr, .bool jg, .slice ta tn tc] 48)) = w1 at HJ_0 HG_0 HTa_0 HBa HSZ ⊢
  have h3 : w1.cell? ⟨h, 3, none⟩ = some (.slice ai ni ci) := HG_0.out.l.at 3
  have j0 : w1.cell? ⟨w.heap.size, 0, none⟩ = some (.int .i64 jid) := HJ_0.out.at 0
  have HLT : Hid (∀ g ∈ bls h mb ab ai qs, g < w.heap.size) := HH.out.lt
  have HB1 : Hid (base ≤ w1.heap.size) := by show _ ≤ _; rw [HSZ.out]; omega
  obtain ⟨i0, hi, hz0, hz1, hz2⟩ := HI.out
  have h3b : (w1.alloc (.cells #[.int .i64 jid] 2)).cell? ⟨h, 3, none⟩ = some (.slice ai ni ci) := (HG_0.out.l.alloc _).at 3
  have HND := bls_nodup.1 HH.out.d
  have HD1 : Hid (h ∉ ob ai) := HND.1.2.2.1
  have HD2 : Hid (∀ g ∈ ob ai, g ≠ w.heap.size) := fun g hg => by have := HLT.out g (by simp [bls, hg]); omega
  clear HND
  apply cutK
  case f =>
    intro key
    go_region_law (refine step_append_at rfl (.tmp 8) (.tmp 11) 22 rfl base 2 i0 (.int .i64 0) 1 8 Try.underlying22 hi hz0 hz1 hz2 rfl (by decide) (.slice ai ni ci) ni ((qs.map (fun q : HJ => q.j.id)).map (Value.int .i64)) (by simp [Act.eval]) (World.ownsRow.drew (World.ownsRow.alloc HG_0.out.i _)) ⟨w1.heap.size, 0, none⟩ 1 1 [.int .i64 jid] (by simp [Act.eval]) rfl (cell_one w1 jid _) (one_int jid) (by unfold maxLen; omega) (by omega) (by simp; exact Nat.le_succ_of_le HB1.out) ?_; intro v' w7 hown hgrow hat; have hown' : w7.ownsRow base 2 1 v' (ni + 1) (((qs.map (fun q : HJ => q.j.id)) ++ [jid]).map (Value.int .i64)) := (by rw [List.map_append]; exact hown); obtain ⟨ai', ci', rfl, ho⟩ := Owns.form hown'; have HO7 : Hid (Owns 2 w7 base ai' (ni + 1) ci' ((qs.map (fun q : HJ => q.j.id)) ++ [jid])) := ho; have HG7 : Hid (w1.grownBy w7 (Value.slice ai ni ci).ownBlock) := ((World.grownBy_alloc w1 _ _).trans (grown_drew _ _)).trans hgrow; have HA7 : Hid ((Value.slice ai' (ni + 1) ci').ownBlock = (Value.slice ai ni ci).ownBlock ∨ (Value.slice ai' (ni + 1) ci').ownBlock = some (w1.heap.size + 1)) := (show _ ∨ _ by simpa using hat); have HL7 : Hid (Lies w7 h [.int .i64 now, .int .i64 next, .slice ab nb cb, .slice ai ni ci, .map (some mb)]) := HG_0.out.l.grown HG7.out (fun e => HD1.out (own_ob e)); have c3 : w7.cell? ⟨h, 3, none⟩ = some (.slice ai ni ci) := HL7.out.at 3; have f3 : w7.frozen? ⟨h, 3, none⟩ = false := HL7.out.fr 3; clear hown hown' hgrow hat ho)
    all_goals
      clear c3 f3
      revert w7 ai' ci'
      exact key.out
  case h =>
    intro w7 ai' ci' HO7 HG7 HA7 HL7
    have HL8 : Hid (Lies (w7.setCell ⟨h, 3, none⟩ (.slice ai' (ni + 1) ci')) h [.int .i64 now, .int .i64 next, .slice ab nb cb, .slice ai' (ni + 1) ci', .map (some mb)]) := HL7.out.set 3 (by simp) _
    have HG8 : Hid (w7.grownBy (w7.setCell ⟨h, 3, none⟩ (.slice ai' (ni + 1) ci')) (some h)) := grown_setCell _ _ _
    generalize w7.setCell ⟨h, 3, none⟩ (.slice ai' (ni + 1) ci') = w8 at HL8 HG8 ⊢
    go_wp2_with fail
    have HND := bls_nodup.1 HH.out.d
    have HM8 : Hid (IsMap w8.drew mb (qs.map HJ.ent)) := show IsMap w8 mb _ from ((HG_0.out.m.grown HG7.out (fun e => HND.2.1.2.1 (own_ob e))).grown HG8.out (fun e => HND.1.1 (Option.some.inj e)))
    have HJ8 : Hid (Lies w8 w.heap.size [.int .i64 jid, .int .i64 a, .int .i64 b, .int .i64 c', .int .i64 d, .int .i64 f, .int .i64 k, .int .i64 a', .int .i64 b', .int .i64 c'', .int .i64 d', .int .i64 f', .int .i64 k', .int .i64 s1, .int .i64 s2, .int .i64 jr, .bool jg, .slice ta tn tc]) := (HJ_0.out.grown HG7.out (fun e => HD2.out _ (own_ob e) rfl)).grown HG8.out (fun e => by have := HLT.out h (by simp [bls]); have := Option.some.inj e; omega)
    obtain ⟨w9, hrun, hm9, hg9⟩ := HM8.out.put (P := Try.prog) (t := 86) Try.underlying86 Try.underlying2 jid (.pointer (some ⟨w.heap.size, 0, none⟩)) (by rw [look_ents, List.find?_eq_none.2 (fun q hq => by simpa using fun e => HN.out q hq e.symm)]; rfl)
    have HM9 : Hid (IsMap w9 mb (qs.map HJ.ent ++ [(jid, .pointer (some ⟨w.heap.size, 0, none⟩))])) := hm9
    have HG9 : Hid (w8.grownBy w9 (some mb)) := (grown_drew _ _).trans hg9
    clear hm9 hg9 HND
    have h4 : w8.cell? ⟨h, 4, none⟩ = some (.map (some mb)) := HL8.out.at 4
    have j8 : w8.cell? ⟨w.heap.size, 0, none⟩ = some (.int .i64 jid) := HJ8.out.at 0
    apply cutK
    case f =>
      intro key
      go_region_law (fail)
      all_goals exact key.out
    case h =>
      have hTq : OwnsT w1 base ta tl.length tc tl := by rw [HTL.out]; exact HTa_0.out
      have hJq : Lies w1 w.heap.size (jvs ⟨jid, ⟨⟨a, b, c', d, f, k⟩, ⟨a', b', c'', d', f', k'⟩⟩, (s1, s2), jr, jg, tl⟩ ta tc) := by have := HJ_0.out; rw [← HTL.out] at this; exact this
      have hqb : w.heap.size ∉ bls h mb ab ai qs := fun e => by have := HLT.out _ e; omega
      have hqq : w.heap.size ∉ ob ta := fun e => by have := (HT.out.lt _ e).2; omega
      have HF := HG_0.out.entered ⟨⟨jid, ⟨⟨a, b, c', d, f, k⟩, ⟨a', b', c'', d', f', k'⟩⟩, (s1, s2), jr, jg, tl⟩, w.heap.size, ta, tc⟩ hJq hTq hqb HD.out hqq hb0 HG7.out HO7.out (Nat.le_succ _) HA7.out HG8.out HL8.out HG9.out HM9.out
      have hlo := HG_0.out.lo
      have sz7 := HG7.out.size
      have sz8 := HG8.out.size
      have HBf : Below base w w9 := (HBa.out.mono hb0).trans ((below_of_grown HG7.out HB1.out (fun z e => hlo z (by simp [bls, own_ob e]))).trans ((below_of_grown HG8.out (Nat.le_trans HB1.out sz7) (fun z e => hlo z (by simp [bls, Option.some.inj e]))).trans (below_of_grown HG9.out (Nat.le_trans HB1.out (Nat.le_trans sz7 sz8)) (fun z e => hlo z (by simp [bls, Option.some.inj e])))))
      exact bodyPost_end (v := .tuple #[]) (by simp [results, Try.results64, go_sem]) rfl ⟨rfl, ai', ci', HF, HBf⟩
end Go.Proofs.Ytfhknkppiidnkaa
