/- Whether jobs and leases are right, in the program. Who is banned, in the program: what is found in a slice. Whether leases are right, and a whole market, in the program. Whether a market is right, in the program. -/
import Derived.Test.YtfhknkppiidnkaaGreatMkQ
import Derived.Test.YtfhknkppiidnkaaGreatMkF
import Derived.Test.YtfhknkppiidnkaaGreatThA
import Derived.Test.YtfhknkppiidnkaaGreatSlD
namespace Go.Proofs.YtfhknkppiidnkaaGreat
open Go.RowKit

set_option maxHeartbeats 8000000 in
set_option maxRecDepth 10000 in
theorem jobsOk_any {ab aj : Option Addr} {nb cb nj cj : Nat} {js : List M.Jb} (now next : Int) (h0 : 0 ≤ now) (h1 : now ≤ 1000000000) (g0 : 1 ≤ next) (g1 : next ≤ 1000000000) (w : World) (hz : SeesJ w aj nj cj js) :
    Calls Tryz.prog 120 #[.agg #[.int .i64 now, .int .i64 next, .slice ab nb cb, .slice aj nj cj]] w fun e w' => e = .returned (.bool (decide (nj ≤ 6) && M.jsGo now next 0 js)) ∧ Below w.heap.size w w' := by
  have bn : (nj : Int) ≤ 9223372036854775807 := by have := hz.big; have := hz.le; omega
  have HZ : Hid (SeesJ w aj nj cj js) := hz
  have HL0 : Hid (Lies (w.alloc (.cells #[.int .i64 now, .int .i64 next, .slice ab nb cb, .slice aj nj cj] 27)) w.heap.size [.int .i64 now, .int .i64 next, .slice ab nb cb, .slice aj nj cj]) := lies_new _ _ _
  have HB0 : Hid (Below w.heap.size w (w.alloc (.cells #[.int .i64 now, .int .i64 next, .slice ab nb cb, .slice aj nj cj] 27))) := (Below.refl _ _).alloc (Nat.le_refl _) _
  clear hz
  by_cases hs : nj ≤ 6
  · have hsI : (nj : Int) ≤ 6 := by omega
    rw [show decide (nj ≤ 6) = true by simpa using hs, Bool.true_and]
    generalize hR : M.jsGo now next 0 js = R
    have HR : Hid (M.jsGo now next 0 js = R) := hR
    clear hR
    go_enter Tryz.func120, Tryz.ntmps120
    go_wp2
    go_loopw [3, 13] (fun l i wr => ∃ (j : Nat) (q : Int), j ≤ nj ∧ i = .int .i64 j ∧ l = .int .i64 q ∧ 0 ≤ q ∧ q ≤ 1000000000 ∧ M.jsGo now next q (js.drop j) = R ∧ Lies wr w.heap.size [.int .i64 now, .int .i64 next, .slice ab nb cb, .slice aj nj cj] ∧ Below w.heap.size w wr) (fun _ i _ => nj - (intOf i).toNat)
    case atStart => exact ⟨0, 0, by omega, rfl, rfl, by omega, by omega, HR.out, HL0.out, HB0.out⟩
    case round =>
      obtain ⟨j, q, hj, rfl, rfl, hq0, hq1, hg, hl1, hb1⟩ := hrel
      have HB1 : Hid (Below w.heap.size w wr) := hb1
      have HL1 : Hid (Lies wr w.heap.size [.int .i64 now, .int .i64 next, .slice ab nb cb, .slice aj nj cj]) := hl1
      clear hb1 hl1 HL0 HB0 HR
      by_cases hlt : j < nj
      · obtain ⟨b1, o1, rfl, hc1⟩ := (HZ.out.below HB1.out).at (by omega)
        obtain ⟨ta, tc, hA, hT⟩ := hc1 j hlt
        have hI : (j : Int) < (nj : Int) := by omega
        have hG : (((decide (q + 1 ≤ (js.getD j M.j0).id) && decide ((js.getD j M.j0).id ≤ next - 1)) && M.jbOk now (js.getD j M.j0)) && M.jsGo now next (js.getD j M.j0).id (js.drop (j + 1))) = R := by
          rw [← hg, drop_step M.j0 HZ.out.len hlt]; rfl
        generalize js.getD j M.j0 = cq at hA hT hG
        obtain ⟨jid, ⟨⟨a, b, c', d, f, k⟩, ⟨a', b', c'', d', f', k'⟩⟩, ⟨s1, s2⟩, jr, jg, tl⟩ := cq
        dsimp only at hT hG
        have hR : wr.rangeAt b1 (o1 + j * 18) (jvs ⟨jid, ⟨⟨a, b, c', d, f, k⟩, ⟨a', b', c'', d', f', k'⟩⟩, (s1, s2), jr, jg, tl⟩ ta tc) := row_of_cells rfl hA
        have HT : Hid (SeesT wr ta tl.length tc tl) := hT
        have C2 : ∀ W, SeesT W ta tl.length tc tl → Calls Tryz.prog 134 #[.agg (jvs ⟨jid, ⟨⟨a, b, c', d, f, k⟩, ⟨a', b', c'', d', f', k'⟩⟩, (s1, s2), jr, jg, tl⟩ ta tc).toArray, .int .i64 now] W fun e w' => e = .returned (.bool (M.jbOk now ⟨jid, ⟨⟨a, b, c', d, f, k⟩, ⟨a', b', c'', d', f', k'⟩⟩, (s1, s2), jr, jg, tl⟩)) ∧ Below W.heap.size W w' := fun W h => jobOk_any jid a b c' d f k a' b' c'' d' f' k' s1 s2 jr jg now h0 h1 W h
        have C1 := within_any jid (q + 1) (next - 1)
        dsimp only [jvs] at hR C2
        generalize M.jbOk now ⟨jid, ⟨⟨a, b, c', d, f, k⟩, ⟨a', b', c'', d', f', k'⟩⟩, (s1, s2), jr, jg, tl⟩ = ob2 at hG C2
        generalize tl.length = tn at hR HT C2
        generalize hG1 : (decide (q + 1 ≤ jid) && decide (jid ≤ next - 1)) = ob1 at hG C1
        have HG1 : Hid ((decide (q + 1 ≤ jid) && decide (jid ≤ next - 1)) = ob1) := hG1
        have HG : Hid (((ob1 && ob2) && M.jsGo now next jid (js.drop (j + 1))) = R) := hG
        clear hc1 hA hT hg hG hG1
        go_wp2_with (with_reducible refine wpList_stop 16 ?_ ?_; rfl)
        show wpList _ _ _ _ _ _
        have iL : (Tryz.prog.info? 44).map (·.size) = some ([.int .i64 jid, .int .i64 a, .int .i64 b, .int .i64 c', .int .i64 d, .int .i64 f, .int .i64 k, .int .i64 a', .int .i64 b', .int .i64 c'', .int .i64 d', .int .i64 f', .int .i64 k', .int .i64 s1, .int .i64 s2, .int .i64 jr, .bool jg, .slice ta tn tc] : List Value).length := (show (Tryz.prog.info? 44).map (·.size) = some 18 by kernel_rfl)
        with_reducible refine wpList_load_mid ?qg 44 ?ql ?qo b1 (o1 + j * 18) ?qhx [.int .i64 jid, .int .i64 a, .int .i64 b, .int .i64 c', .int .i64 d, .int .i64 f, .int .i64 k, .int .i64 a', .int .i64 b', .int .i64 c'', .int .i64 d', .int .i64 f', .int .i64 k', .int .i64 s1, .int .i64 s2, .int .i64 jr, .bool jg, .slice ta tn tc] _ hR Tryz.underlying44 ?qd iL ?qr
        case qg => exact rfl
        case qo => exact rfl
        case qhx => exact rfl
        case qd => exact rfl
        case qr =>
          clear iL
          show wpList _ _ _ _ _ _

          have HL_0 : Hid (Lies wr w.heap.size [.int .i64 now, .int .i64 next, .slice ab nb cb, .slice (some ⟨b1, o1, none⟩) nj cj]) := HL1.out
          have HB_0 : Hid (Below w.heap.size w wr) := HB1.out
          have T1_0 : Hid (SeesT wr ta tn tc tl) := HT.out
          clear HL1 HB1 HT hR
          go_wp2_with (with_reducible refine wpList_stop 5 ?_ ?_; rfl)
          show wpList _ _ _ _ _ _
          have hal : (Instr.alloc 44 true (.tuple #[])).run Tryz.prog wr = .ok (.pointer (some ⟨wr.heap.size, 0, none⟩)) (wr.alloc (.cells #[.int .i64 0, .int .i64 0, .int .i64 0, .int .i64 0, .int .i64 0, .int .i64 0, .int .i64 0, .int .i64 0, .int .i64 0, .int .i64 0, .int .i64 0, .int .i64 0, .int .i64 0, .int .i64 0, .int .i64 0, .int .i64 0, .bool false, .slice none 0 0] 44)) := by kernel_rfl
          with_reducible refine wpList_alloc_as ?qg 44 ?qo #[.int .i64 0, .int .i64 0, .int .i64 0, .int .i64 0, .int .i64 0, .int .i64 0, .int .i64 0, .int .i64 0, .int .i64 0, .int .i64 0, .int .i64 0, .int .i64 0, .int .i64 0, .int .i64 0, .int .i64 0, .int .i64 0, .bool false, .slice none 0 0] hal ?qr
          case qg => exact rfl
          case qo => exact rfl
          case qr =>
            clear hal
            show wpList _ _ _ _ _ _
            have tA : (wr.alloc (.cells #[.int .i64 0, .int .i64 0, .int .i64 0, .int .i64 0, .int .i64 0, .int .i64 0, .int .i64 0, .int .i64 0, .int .i64 0, .int .i64 0, .int .i64 0, .int .i64 0, .int .i64 0, .int .i64 0, .int .i64 0, .int .i64 0, .bool false, .slice none 0 0] 44)).there wr.heap.size 0 ([.int .i64 jid, .int .i64 a, .int .i64 b, .int .i64 c', .int .i64 d, .int .i64 f, .int .i64 k, .int .i64 a', .int .i64 b', .int .i64 c'', .int .i64 d', .int .i64 f', .int .i64 k', .int .i64 s1, .int .i64 s2, .int .i64 jr, .bool jg, .slice ta tn tc] : List Value).toArray.size := (lies_new _ _ _).there _ 18 (by simp)
            have iA : (Tryz.prog.info? 44).map (·.size) = some ([.int .i64 jid, .int .i64 a, .int .i64 b, .int .i64 c', .int .i64 d, .int .i64 f, .int .i64 k, .int .i64 a', .int .i64 b', .int .i64 c'', .int .i64 d', .int .i64 f', .int .i64 k', .int .i64 s1, .int .i64 s2, .int .i64 jr, .bool jg, .slice ta tn tc] : List Value).toArray.size := (show (Tryz.prog.info? 44).map (·.size) = some 18 by kernel_rfl)
            with_reducible refine wpList_store_mid ?qg 44 ?qsx0 ?qsy0 ?qo wr.heap.size 0 ([.int .i64 jid, .int .i64 a, .int .i64 b, .int .i64 c', .int .i64 d, .int .i64 f, .int .i64 k, .int .i64 a', .int .i64 b', .int .i64 c'', .int .i64 d', .int .i64 f', .int .i64 k', .int .i64 s1, .int .i64 s2, .int .i64 jr, .bool jg, .slice ta tn tc] : List Value).toArray ?qhx ?qhy tA iA (by kernel_rfl) ?qr
            case qg => exact rfl
            case qo => exact rfl
            case qhx => exact rfl
            case qhy => exact rfl
            case qr =>
              clear tA iA
              show wpList _ _ _ _ _ ((wr.alloc (.cells #[.int .i64 0, .int .i64 0, .int .i64 0, .int .i64 0, .int .i64 0, .int .i64 0, .int .i64 0, .int .i64 0, .int .i64 0, .int .i64 0, .int .i64 0, .int .i64 0, .int .i64 0, .int .i64 0, .int .i64 0, .int .i64 0, .bool false, .slice none 0 0] 44)).setCells wr.heap.size 0 [.int .i64 jid, .int .i64 a, .int .i64 b, .int .i64 c', .int .i64 d, .int .i64 f, .int .i64 k, .int .i64 a', .int .i64 b', .int .i64 c'', .int .i64 d', .int .i64 f', .int .i64 k', .int .i64 s1, .int .i64 s2, .int .i64 jr, .bool jg, .slice ta tn tc])
              have hba : Below wr.heap.size wr ((wr.alloc (.cells #[.int .i64 0, .int .i64 0, .int .i64 0, .int .i64 0, .int .i64 0, .int .i64 0, .int .i64 0, .int .i64 0, .int .i64 0, .int .i64 0, .int .i64 0, .int .i64 0, .int .i64 0, .int .i64 0, .int .i64 0, .int .i64 0, .bool false, .slice none 0 0] 44)).setCells wr.heap.size 0 [.int .i64 jid, .int .i64 a, .int .i64 b, .int .i64 c', .int .i64 d, .int .i64 f, .int .i64 k, .int .i64 a', .int .i64 b', .int .i64 c'', .int .i64 d', .int .i64 f', .int .i64 k', .int .i64 s1, .int .i64 s2, .int .i64 jr, .bool jg, .slice ta tn tc]) := below_setCells _ _ ((Below.refl _ _).alloc (Nat.le_refl _) _) (Nat.le_refl _)
              have HL_1 : Hid (Lies ((wr.alloc (.cells #[.int .i64 0, .int .i64 0, .int .i64 0, .int .i64 0, .int .i64 0, .int .i64 0, .int .i64 0, .int .i64 0, .int .i64 0, .int .i64 0, .int .i64 0, .int .i64 0, .int .i64 0, .int .i64 0, .int .i64 0, .int .i64 0, .bool false, .slice none 0 0] 44)).setCells wr.heap.size 0 [.int .i64 jid, .int .i64 a, .int .i64 b, .int .i64 c', .int .i64 d, .int .i64 f, .int .i64 k, .int .i64 a', .int .i64 b', .int .i64 c'', .int .i64 d', .int .i64 f', .int .i64 k', .int .i64 s1, .int .i64 s2, .int .i64 jr, .bool jg, .slice ta tn tc]) w.heap.size [.int .i64 now, .int .i64 next, .slice ab nb cb, .slice (some ⟨b1, o1, none⟩) nj cj]) := HL_0.out.belowS hba
              have HB_1 : Hid (Below w.heap.size w ((wr.alloc (.cells #[.int .i64 0, .int .i64 0, .int .i64 0, .int .i64 0, .int .i64 0, .int .i64 0, .int .i64 0, .int .i64 0, .int .i64 0, .int .i64 0, .int .i64 0, .int .i64 0, .int .i64 0, .int .i64 0, .int .i64 0, .int .i64 0, .bool false, .slice none 0 0] 44)).setCells wr.heap.size 0 [.int .i64 jid, .int .i64 a, .int .i64 b, .int .i64 c', .int .i64 d, .int .i64 f, .int .i64 k, .int .i64 a', .int .i64 b', .int .i64 c'', .int .i64 d', .int .i64 f', .int .i64 k', .int .i64 s1, .int .i64 s2, .int .i64 jr, .bool jg, .slice ta tn tc])) := HB_0.out.trans (hba.mono HB_0.out.size)
              have T1_1 : Hid (SeesT ((wr.alloc (.cells #[.int .i64 0, .int .i64 0, .int .i64 0, .int .i64 0, .int .i64 0, .int .i64 0, .int .i64 0, .int .i64 0, .int .i64 0, .int .i64 0, .int .i64 0, .int .i64 0, .int .i64 0, .int .i64 0, .int .i64 0, .int .i64 0, .bool false, .slice none 0 0] 44)).setCells wr.heap.size 0 [.int .i64 jid, .int .i64 a, .int .i64 b, .int .i64 c', .int .i64 d, .int .i64 f, .int .i64 k, .int .i64 a', .int .i64 b', .int .i64 c'', .int .i64 d', .int .i64 f', .int .i64 k', .int .i64 s1, .int .i64 s2, .int .i64 jr, .bool jg, .slice ta tn tc]) ta tn tc tl) := T1_0.out.below hba
              clear HL_0 HB_0 T1_0
              clear hba
              have HJ_1 : Hid (Lies ((wr.alloc (.cells #[.int .i64 0, .int .i64 0, .int .i64 0, .int .i64 0, .int .i64 0, .int .i64 0, .int .i64 0, .int .i64 0, .int .i64 0, .int .i64 0, .int .i64 0, .int .i64 0, .int .i64 0, .int .i64 0, .int .i64 0, .int .i64 0, .bool false, .slice none 0 0] 44)).setCells wr.heap.size 0 [.int .i64 jid, .int .i64 a, .int .i64 b, .int .i64 c', .int .i64 d, .int .i64 f, .int .i64 k, .int .i64 a', .int .i64 b', .int .i64 c'', .int .i64 d', .int .i64 f', .int .i64 k', .int .i64 s1, .int .i64 s2, .int .i64 jr, .bool jg, .slice ta tn tc]) wr.heap.size [.int .i64 jid, .int .i64 a, .int .i64 b, .int .i64 c', .int .i64 d, .int .i64 f, .int .i64 k, .int .i64 a', .int .i64 b', .int .i64 c'', .int .i64 d', .int .i64 f', .int .i64 k', .int .i64 s1, .int .i64 s2, .int .i64 jr, .bool jg, .slice ta tn tc]) := (lies_new wr #[.int .i64 0, .int .i64 0, .int .i64 0, .int .i64 0, .int .i64 0, .int .i64 0, .int .i64 0, .int .i64 0, .int .i64 0, .int .i64 0, .int .i64 0, .int .i64 0, .int .i64 0, .int .i64 0, .int .i64 0, .int .i64 0, .bool false, .slice none 0 0] 44).setCells [.int .i64 jid, .int .i64 a, .int .i64 b, .int .i64 c', .int .i64 d, .int .i64 f, .int .i64 k, .int .i64 a', .int .i64 b', .int .i64 c'', .int .i64 d', .int .i64 f', .int .i64 k', .int .i64 s1, .int .i64 s2, .int .i64 jr, .bool jg, .slice ta tn tc] 0 (by simp)
              generalize ((wr.alloc (.cells #[.int .i64 0, .int .i64 0, .int .i64 0, .int .i64 0, .int .i64 0, .int .i64 0, .int .i64 0, .int .i64 0, .int .i64 0, .int .i64 0, .int .i64 0, .int .i64 0, .int .i64 0, .int .i64 0, .int .i64 0, .int .i64 0, .bool false, .slice none 0 0] 44)).setCells wr.heap.size 0 [.int .i64 jid, .int .i64 a, .int .i64 b, .int .i64 c', .int .i64 d, .int .i64 f, .int .i64 k, .int .i64 a', .int .i64 b', .int .i64 c'', .int .i64 d', .int .i64 f', .int .i64 k', .int .i64 s1, .int .i64 s2, .int .i64 jr, .bool jg, .slice ta tn tc]) = w2 at HL_1 HB_1 T1_1 HJ_1  ⊢
              generalize wr.heap.size = jb at HJ_1  ⊢
              have m1 : w2.cell? ⟨w.heap.size, 1, none⟩ = some (.int .i64 next) := HL_1.out.at 1
              have x0 : w2.cell? ⟨jb, 0, none⟩ = some (.int .i64 jid) := HJ_1.out.at 0
              go_wp2_with fail
              clear m1 x0
              refine (C1 _).mono ?_
              rintro e wz ⟨rfl, hwz⟩
              have hwy := hwz.symm
              clear hwz
              subst hwy
              cases ob1 with
              | false =>
                go_wp2
                go_ret
                exact ⟨ret_bool HG.out, HB_1.out⟩
              | true =>
                have hG1 := HG1.out
                simp only [Bool.and_eq_true, decide_eq_true_eq] at hG1
                obtain ⟨hi0, hi1⟩ := hG1
                go_wp2_with (with_reducible refine wpList_stop 25 ?_ ?_; rfl)
                show wpList _ _ _ _ _ _
                with_reducible refine wpList_run ?qg (.bool false) w2 ?qrun ?qr
                case qg => exact rfl
                case qrun => exact rfl
                case qr =>
                  show wpList _ _ _ _ _ _
                  with_reducible refine wpList_run ?qg (.bool false) w2 ?qrun ?qr
                  case qg => exact rfl
                  case qrun => exact rfl
                  case qr =>
                    show wpList _ _ _ _ _ _
                    have iL : (Tryz.prog.info? 44).map (·.size) = some ([.int .i64 jid, .int .i64 a, .int .i64 b, .int .i64 c', .int .i64 d, .int .i64 f, .int .i64 k, .int .i64 a', .int .i64 b', .int .i64 c'', .int .i64 d', .int .i64 f', .int .i64 k', .int .i64 s1, .int .i64 s2, .int .i64 jr, .bool jg, .slice ta tn tc] : List Value).length := (show (Tryz.prog.info? 44).map (·.size) = some 18 by kernel_rfl)
                    with_reducible refine wpList_load_want ?qw 44 ?qlw ?qo jb 0 ?qhx [.int .i64 jid, .int .i64 a, .int .i64 b, .int .i64 c', .int .i64 d, .int .i64 f, .int .i64 k, .int .i64 a', .int .i64 b', .int .i64 c'', .int .i64 d', .int .i64 f', .int .i64 k', .int .i64 s1, .int .i64 s2, .int .i64 jr, .bool jg, .slice ta tn tc] _ HJ_1.out.row Tryz.underlying44 ?qd iL ?qr
                    case qw => exact rfl
                    case qo => exact rfl
                    case qhx => exact rfl
                    case qd => exact rfl
                    case qr =>
                      clear iL
                      show wpList _ _ _ _ _ _
                      have m0 : w2.cell? ⟨w.heap.size, 0, none⟩ = some (.int .i64 now) := HL_1.out.at 0
                      go_wp2_with fail
                      clear m0
                      refine (C2 _ T1_1.out).mono ?_
                      rintro e w3 ⟨rfl, hb⟩
                      have HL_2 : Hid (Lies w3 w.heap.size [.int .i64 now, .int .i64 next, .slice ab nb cb, .slice (some ⟨b1, o1, none⟩) nj cj]) := HL_1.out.belowS hb
                      have HB_2 : Hid (Below w.heap.size w w3) := HB_1.out.trans (hb.mono HB_1.out.size)
                      have T1_2 : Hid (SeesT w3 ta tn tc tl) := T1_1.out.below hb
                      have HJ_2 : Hid (Lies w3 jb [.int .i64 jid, .int .i64 a, .int .i64 b, .int .i64 c', .int .i64 d, .int .i64 f, .int .i64 k, .int .i64 a', .int .i64 b', .int .i64 c'', .int .i64 d', .int .i64 f', .int .i64 k', .int .i64 s1, .int .i64 s2, .int .i64 jr, .bool jg, .slice ta tn tc]) := HJ_1.out.belowS hb
                      clear HL_1 HB_1 T1_1 HJ_1
                      clear hb
                      cases ob2 with
                      | false =>
                        go_wp2
                        go_ret
                        exact ⟨ret_bool HG.out, HB_2.out⟩
                      | true =>
                        have HG3 : Hid (M.jsGo now next jid (js.drop (j + 1)) = R) := by show _ = _; have := HG.out; simpa using this
                        have x0 : w3.cell? ⟨jb, 0, none⟩ = some (.int .i64 jid) := HJ_2.out.at 0
                        go_wp2
                        go_roundw
                        case rel => exact ⟨j + 1, jid, by omega, by go_num, rfl, by omega, by omega, HG3.out, HL_2.out, HB_2.out⟩
                        case measure => simp [intOf]; omega
      · go_wp2
        go_ret
        refine ⟨ret_bool ?_, HB1.out⟩
        rw [List.drop_of_length_le (by rw [HZ.out.len]; omega)] at hg
        exact hg
  · have hsI : (6 : Int) < (nj : Int) := by omega
    rw [show decide (nj ≤ 6) = false by simpa using hs, Bool.false_and]
    go_enter Tryz.func120, Tryz.ntmps120
    go_wp2
    go_ret
    exact ⟨rfl, HB0.out⟩
end Go.Proofs.YtfhknkppiidnkaaGreat
namespace Go.Proofs.YtfhknkppiidnkaaGreat
open Go.RowKit

theorem indexInt_any {a : Option Addr} {n c : Nat} {zs : List Int} (v : Int) (w : World) (hz : Sees w a n c zs) :
    Calls Tryz.prog 147 #[.slice a n c, .int .i64 v] w fun e w' => ∃ r : Int, e = .returned (.int .i64 r) ∧ decide (0 ≤ r) = zs.contains v ∧ w' = w := by
  have bn : (n : Int) ≤ 9223372036854775807 := by have := hz.big; have := hz.le; omega
  have hcI : (n : Int) ≤ c := by have := hz.le; omega
  have HZ : Hid (Sees w a n c zs) := hz
  generalize hR : zs.contains v = R
  have HR : Hid (zs.contains v = R) := hR
  clear hR hz
  go_enter Tryz.func147, Tryz.ntmps147
  go_wp2
  go_loop [8] (fun i => ∃ k : Nat, k ≤ n ∧ i = .int .i64 k ∧ (zs.drop k).contains v = R) (fun i => n - (intOf i).toNat)
  case atStart => exact ⟨0, by omega, rfl, HR.out⟩
  case round =>
    obtain ⟨k, hk, rfl, hg⟩ := hrel
    by_cases hlt : k < n
    · obtain ⟨b1, o1, rfl, hc1⟩ := HZ.out.at (by omega)
      have c1 := hc1 k hlt
      have hG : (v == zs.getD k 0 || (zs.drop (k + 1)).contains v) = R := by
        rw [← hg, drop_step 0 HZ.out.len hlt, List.contains_cons]
      generalize zs.getD k 0 = x at c1 hG
      have HG : Hid ((v == x || (zs.drop (k + 1)).contains v) = R) := hG
      clear hc1 hg hG
      have hI : (k : Int) < (n : Int) := by omega
      by_cases hx : v = x
      · have hb : (v == x) = true := by simp [hx]
        have hb2 : (x == v) = true := by simp [hx]
        clear hx
        go_wp2
        go_ret
        refine ⟨_, rfl, ?_, rfl⟩
        have := HG.out
        rw [hb, Bool.true_or] at this
        rw [← this]; simp
      · have hb : (v == x) = false := by simp [hx]
        have hb2 : (x == v) = false := by simp; exact fun e => hx e.symm
        have HG3 : Hid ((zs.drop (k + 1)).contains v = R) := by show _ = _; have := HG.out; rw [hb, Bool.false_or] at this; exact this
        clear hx
        go_wp2
        go_round
        case rel => exact ⟨k + 1, by omega, by go_num, HG3.out⟩
        case measure => simp [intOf]; omega
    · go_wp2
      go_ret
      refine ⟨_, rfl, ?_, rfl⟩
      rw [List.drop_of_length_le (by rw [HZ.out.len]; omega)] at hg
      rw [← hg]; rfl
theorem containsInt_any {a : Option Addr} {n c : Nat} {zs : List Int} (v : Int) (w : World) (hz : Sees w a n c zs) :
    Calls Tryz.prog 137 #[.slice a n c, .int .i64 v] w fun e w' => e = .returned (.bool (zs.contains v)) ∧ w' = w := by
  have HZ : Hid (Sees w a n c zs) := hz
  clear hz
  go_enter Tryz.func137, Tryz.ntmps137
  go_wp2_with fail
  refine (indexInt_any v _ HZ.out).mono ?_
  rintro e wz ⟨r, rfl, hr, rfl⟩
  have HR : Hid (decide (0 ≤ r) = zs.contains v) := hr
  clear hr
  go_wp2
  go_ret
  exact ⟨ret_bool HR.out, rfl⟩
theorem isBanned_any {mb : Nat} {a : Option Addr} {n c : Nat} {zs : List Int} (v : Int) (w : World) (hc : w.cell? ⟨mb, 2, none⟩ = some (.slice a n c)) (hz : Sees w a n c zs) :
    Calls Tryz.prog 136 #[.int .i64 v, .pointer (some ⟨mb, 0, none⟩)] w fun e w' => e = .returned (.bool (zs.contains v)) ∧ w' = w := by
  have CC := containsInt_any v w hz
  generalize zs.contains v = o at CC ⊢
  clear hz
  go_enter Tryz.func136, Tryz.ntmps136
  go_wp2_with fail
  refine CC.mono ?_
  rintro e wz ⟨rfl, rfl⟩
  go_wp2
  go_ret
  exact ⟨rfl, rfl⟩
theorem indexBanned_any {mb : Nat} {a : Option Addr} {n c : Nat} {zs : List Int} {ab : Option Addr} {nb cb : Nat} {bs : List Int} (w : World) (hc : w.cell? ⟨mb, 2, none⟩ = some (.slice ab nb cb)) (hb : Sees w ab nb cb bs) (hz : Sees w a n c zs) :
    Calls Tryz.prog 148 #[.slice a n c, .func (.func 136) #[] #[.pointer (some ⟨mb, 0, none⟩)]] w fun e w' => ∃ r : Int, e = .returned (.int .i64 r) ∧ decide (0 ≤ r) = zs.any (fun x => bs.contains x) ∧ w' = w := by
  have bn : (n : Int) ≤ 9223372036854775807 := by have := hz.big; have := hz.le; omega
  have hcI : (n : Int) ≤ c := by have := hz.le; omega
  have HZ : Hid (Sees w a n c zs) := hz
  have HC : Hid (∀ v, Calls Tryz.prog 136 #[.int .i64 v, .pointer (some ⟨mb, 0, none⟩)] w fun e w' => e = .returned (.bool (bs.contains v)) ∧ w' = w) := fun v => isBanned_any v w hc hb
  generalize hR : zs.any (fun x => bs.contains x) = R
  have HR : Hid (zs.any (fun x => bs.contains x) = R) := hR
  clear hR hz hb hc
  go_enter Tryz.func148, Tryz.ntmps148
  go_wp2
  go_loop [8] (fun i => ∃ k : Nat, k ≤ n ∧ i = .int .i64 k ∧ (zs.drop k).any (fun x => bs.contains x) = R) (fun i => n - (intOf i).toNat)
  case atStart => exact ⟨0, by omega, rfl, HR.out⟩
  case round =>
    obtain ⟨k, hk, rfl, hg⟩ := hrel
    by_cases hlt : k < n
    · obtain ⟨b1, o1, rfl, hc1⟩ := HZ.out.at (by omega)
      have c1 := hc1 k hlt
      have hG : (bs.contains (zs.getD k 0) || (zs.drop (k + 1)).any (fun x => bs.contains x)) = R := by
        rw [← hg, drop_step 0 HZ.out.len hlt, List.any_cons]
      have C1 := HC.out (zs.getD k 0)
      generalize zs.getD k 0 = x at c1 hG C1
      generalize bs.contains x = ob at hG C1
      have HG : Hid ((ob || (zs.drop (k + 1)).any (fun x => bs.contains x)) = R) := hG
      clear hc1 hg hG
      have hI : (k : Int) < (n : Int) := by omega
      go_wp2_with fail
      refine C1.mono ?_
      rintro e wz ⟨rfl, hwz⟩
      have hwy := hwz.symm
      clear hwz
      subst hwy
      cases ob with
      | true =>
        go_wp2
        go_ret
        refine ⟨_, rfl, ?_, rfl⟩
        have := HG.out
        rw [Bool.true_or] at this
        rw [← this]; simp
      | false =>
        have HG3 : Hid ((zs.drop (k + 1)).any (fun x => bs.contains x) = R) := by show _ = _; have := HG.out; rw [Bool.false_or] at this; exact this
        go_wp2
        go_round
        case rel => exact ⟨k + 1, by omega, by go_num, HG3.out⟩
        case measure => simp [intOf]; omega
    · go_wp2
      go_ret
      refine ⟨_, rfl, ?_, rfl⟩
      rw [List.drop_of_length_le (by rw [HZ.out.len]; omega)] at hg
      rw [← hg]; rfl
theorem containsBanned_any {mb : Nat} {a : Option Addr} {n c : Nat} {zs : List Int} {ab : Option Addr} {nb cb : Nat} {bs : List Int} (w : World) (hc : w.cell? ⟨mb, 2, none⟩ = some (.slice ab nb cb)) (hb : Sees w ab nb cb bs) (hz : Sees w a n c zs) :
    Calls Tryz.prog 139 #[.slice a n c, .func (.func 136) #[] #[.pointer (some ⟨mb, 0, none⟩)]] w fun e w' => e = .returned (.bool (zs.any (fun x => bs.contains x))) ∧ w' = w := by
  have CI := indexBanned_any w hc hb hz
  generalize zs.any (fun x => bs.contains x) = o at CI ⊢
  clear hc hb hz
  go_enter Tryz.func139, Tryz.ntmps139
  go_wp2_with fail
  refine CI.mono ?_
  rintro e wz ⟨r, rfl, hr, rfl⟩
  have HR : Hid (decide (0 ≤ r) = o) := hr
  clear hr
  go_wp2
  go_ret
  exact ⟨ret_bool HR.out, rfl⟩
end Go.Proofs.YtfhknkppiidnkaaGreat
namespace Go.Proofs.YtfhknkppiidnkaaGreat
open Go.RowKit

theorem M.wkT_len (ts : List M.Tk) : (M.wkT ts).length ≤ ts.length := by unfold M.wkT; rw [List.length_map]; exact List.length_filter_le _ _
theorem M.wks_len : ∀ js : List M.Jb, (∀ j ∈ js, j.ts.length ≤ 8) → (M.wks js).length ≤ 8 * js.length
  | [], _ => by simp [M.wks]
  | j :: js, h => by
    have h1 := M.wks_len js fun q hq => h q (List.mem_cons_of_mem _ hq)
    have h2 := M.wkT_len j.ts
    have h3 := h j List.mem_cons_self
    have e : M.wks (j :: js) = M.wkT j.ts ++ M.wks js := by simp [M.wks]
    rw [e, List.length_append, List.length_cons]; omega
theorem M.jsGo_small {now next : Int} : ∀ {js : List M.Jb} {last : Int}, M.jsGo now next last js = true → ∀ j ∈ js, j.ts.length ≤ 8
  | [], _, _, _, h => by cases h
  | q :: js, last, h, j, hj => by
    unfold M.jsGo M.jbOk at h
    simp only [Bool.and_eq_true, decide_eq_true_eq] at h
    rcases List.mem_cons.1 hj with e | e
    · rw [e]; exact h.1.2.1.2.2.2.2.1
    · exact M.jsGo_small h.2 j e
theorem M.wks_step {js : List M.Jb} {j n : Nat} (hl : js.length = n) (h : j < n) : M.wks (js.take (j + 1)) = M.wks (js.take j) ++ M.wkT (js.getD j M.j0).ts := by
  unfold M.wks
  rw [List.take_succ_eq_append_getElem (by omega), List.flatMap_append, List.getD_eq_getElem?_getD, List.getElem?_eq_getElem (by omega)]
  congr 1
  rw [List.flatMap_cons, List.flatMap_nil, List.append_nil]; rfl
theorem range_below {w w' : World} {b o : Nat} {cs : List Value} (h : w.rangeAt b o cs) (hb : Below w.heap.size w w') : w'.rangeAt b o cs := fun j v hv => (hb.cell (p := ⟨b, o + j, none⟩) (World.block_lt_of_cell? w _ (h j v hv))).trans (h j v hv)
theorem M.wkT_step {ts : List M.Tk} {k n : Nat} (hl : ts.length = n) (h : k < n) : M.wkT (ts.take (k + 1)) = M.wkT (ts.take k) ++ (if M.leased (ts.getD k M.t0) = true then [(ts.getD k M.t0).worker] else []) := by
  rw [List.take_succ_eq_append_getElem (by omega), List.getD_eq_getElem?_getD, List.getElem?_eq_getElem (by omega)]
  unfold M.wkT
  rw [List.filter_append, List.map_append]
  congr 1
  by_cases e : M.leased ts[k] = true <;> simp [e]
theorem Owns.count {t : TypeId} {w : World} {base n cap : Nat} {a : Option Addr} {zs : List Int} (h : Owns t w base a n cap zs) : zs.length = n := by
  have := h.1
  rw [List.length_map] at this; omega
/-- where the walk over leases stands -/
def LsR (w1 : World) (ws : List Int) (l : Value) (wr : World) : Prop := ∃ (a : Option Addr) (m c : Nat), l = .slice a m c ∧ Owns 2 wr w1.heap.size a m c ws ∧ Below w1.heap.size w1 wr
set_option maxHeartbeats 8000000 in
set_option maxRecDepth 10000 in
theorem leasesOk_any {ab aj : Option Addr} {nb cb nj cj : Nat} {bs : List Int} {js : List M.Jb} (now next : Int) (w : World) (hz : SeesM w ab nb cb aj nj cj bs js) (hj6 : nj ≤ 6) (ht8 : ∀ j ∈ js, j.ts.length ≤ 8) :
    Calls Tryz.prog 121 #[.agg #[.int .i64 now, .int .i64 next, .slice ab nb cb, .slice aj nj cj]] w fun e w' => e = .returned (.bool (decide (M.wks js).Nodup && !(M.wks js).any (fun x => bs.contains x))) ∧ Below w.heap.size w w' := by
  have bn : (nj : Int) ≤ 9223372036854775807 := by omega
  have hlen : js.length = nj := hz.j.len
  have HL0 : Hid (Lies (w.alloc (.cells #[.int .i64 now, .int .i64 next, .slice ab nb cb, .slice aj nj cj] 27)) w.heap.size [.int .i64 now, .int .i64 next, .slice ab nb cb, .slice aj nj cj]) := lies_new _ _ _
  have HB0 : Hid (Below w.heap.size w (w.alloc (.cells #[.int .i64 now, .int .i64 next, .slice ab nb cb, .slice aj nj cj] 27))) := (Below.refl _ _).alloc (Nat.le_refl _) _
  have HM0 : Hid (SeesM (w.alloc (.cells #[.int .i64 now, .int .i64 next, .slice ab nb cb, .slice aj nj cj] 27)) ab nb cb aj nj cj bs js) := hz.below HB0.out
  have HT8 : Hid (∀ j, j ≤ nj → (M.wks (js.take j)).length ≤ 8 * j) := fun j hj => by
    have := M.wks_len (js.take j) fun q hq => ht8 q (List.mem_of_mem_take hq)
    rw [List.length_take] at this; omega
  have HT9 : Hid (∀ j, (js.getD j M.j0).ts.length ≤ 8) := fun j => by
    rw [List.getD_eq_getElem?_getD]
    by_cases h : j < js.length
    · rw [List.getElem?_eq_getElem h]; exact ht8 _ (List.getElem_mem h)
    · rw [List.getElem?_eq_none (by omega)]; exact Nat.zero_le _
  have HI : Hid (∃ i0, Tryz.prog.info? 2 = some i0 ∧ i0.zero = some (.int .i64 0) ∧ i0.size = 1 ∧ i0.bytes = 8) := by
    obtain ⟨i0, h1, h2, h3, h4⟩ := info_parts info_i64
    exact ⟨i0, h1, h2, h3, h4⟩
  generalize hN : decide (M.wks js).Nodup = oN
  have HN : Hid (decide (M.wks js).Nodup = oN) := hN
  generalize hAn : (M.wks js).any (fun x => bs.contains x) = oA
  have HAn : Hid ((M.wks js).any (fun x => bs.contains x) = oA) := hAn
  clear hz ht8 hN hAn
  go_enter Tryz.func121, Tryz.ntmps121
  go_wp2
  generalize (w.alloc (.cells #[.int .i64 now, .int .i64 next, .slice ab nb cb, .slice aj nj cj] 27)) = w1 at HL0 HB0 HM0 ⊢
  go_loopw [3, 12] (fun l i wr => ∃ j : Nat, j ≤ nj ∧ i = .int .i64 j ∧ LsR w1 (M.wks (js.take j)) l wr) (fun _ i _ => nj - (intOf i).toNat)
  case atStart => exact ⟨0, by omega, rfl, none, 0, 0, rfl, ⟨rfl, .inl ⟨rfl, rfl⟩⟩, Below.refl _ _⟩
  case round =>
    obtain ⟨j, hj, rfl, al, ml, cl, rfl, ho1, hb1⟩ := hrel
    have HB1 : Hid (Below w1.heap.size w1 wr) := hb1
    have HO1 : Hid (Owns 2 wr w1.heap.size al ml cl (M.wks (js.take j))) := ho1
    clear hb1 ho1
    by_cases hlt : j < nj
    · obtain ⟨b1, o1, rfl, hc1⟩ := HM0.out.j.at (by omega)
      obtain ⟨ta, tc, hA, hT⟩ := hc1 j hlt
      have hI : (j : Int) < (nj : Int) := by omega
      have HW : Hid (M.wks (js.take (j + 1)) = M.wks (js.take j) ++ M.wkT (js.getD j M.j0).ts) := M.wks_step hlen hlt
      have h9 := HT9.out j
      have h8 := HT8.out j hj
      generalize js.getD j M.j0 = cq at hA hT HW h9
      obtain ⟨jid, ⟨⟨a, b, c', d, f, k⟩, ⟨a', b', c'', d', f', k'⟩⟩, ⟨s1, s2⟩, jr, jg, tl⟩ := cq
      dsimp only at hT HW h9
      have hR : wr.rangeAt b1 (o1 + j * 18) (jvs ⟨jid, ⟨⟨a, b, c', d, f, k⟩, ⟨a', b', c'', d', f', k'⟩⟩, (s1, s2), jr, jg, tl⟩ ta tc) := range_below (row_of_cells rfl hA) HB1.out
      have HT : Hid (SeesT w1 ta tl.length tc tl) := hT
      dsimp only [jvs] at hR
      generalize htl : tl.length = tn at hR HT h9
      have HTL : Hid (tl.length = tn) := htl
      clear hc1 hA hT htl
      go_wp2_with (with_reducible refine wpList_stop 15 ?_ ?_; rfl)
      show wpList _ _ _ _ _ _
      have iL : (Tryz.prog.info? 44).map (·.size) = some ([.int .i64 jid, .int .i64 a, .int .i64 b, .int .i64 c', .int .i64 d, .int .i64 f, .int .i64 k, .int .i64 a', .int .i64 b', .int .i64 c'', .int .i64 d', .int .i64 f', .int .i64 k', .int .i64 s1, .int .i64 s2, .int .i64 jr, .bool jg, .slice ta tn tc] : List Value).length := (show (Tryz.prog.info? 44).map (·.size) = some 18 by kernel_rfl)
      with_reducible refine wpList_load_mid ?qg 44 ?ql ?qo b1 (o1 + j * 18) ?qhx [.int .i64 jid, .int .i64 a, .int .i64 b, .int .i64 c', .int .i64 d, .int .i64 f, .int .i64 k, .int .i64 a', .int .i64 b', .int .i64 c'', .int .i64 d', .int .i64 f', .int .i64 k', .int .i64 s1, .int .i64 s2, .int .i64 jr, .bool jg, .slice ta tn tc] _ hR Tryz.underlying44 ?qd iL ?qr
      case qg => exact rfl
      case qo => exact rfl
      case qhx => exact rfl
      case qd => exact rfl
      case qr =>
        clear iL
        show wpList _ _ _ _ _ _
        have HB_0 : Hid (Below w1.heap.size w1 wr) := HB1.out
        have HO_0 : Hid (Owns 2 wr w1.heap.size al ml cl (M.wks (js.take j))) := HO1.out
        clear HB1 HO1 hR
        go_wp2_with (with_reducible refine wpList_stop 5 ?_ ?_; rfl)
        show wpList _ _ _ _ _ _
        have hal : (Instr.alloc 44 true (.tuple #[])).run Tryz.prog wr = .ok (.pointer (some ⟨wr.heap.size, 0, none⟩)) (wr.alloc (.cells #[.int .i64 0, .int .i64 0, .int .i64 0, .int .i64 0, .int .i64 0, .int .i64 0, .int .i64 0, .int .i64 0, .int .i64 0, .int .i64 0, .int .i64 0, .int .i64 0, .int .i64 0, .int .i64 0, .int .i64 0, .int .i64 0, .bool false, .slice none 0 0] 44)) := by kernel_rfl
        with_reducible refine wpList_alloc_as ?qg 44 ?qo #[.int .i64 0, .int .i64 0, .int .i64 0, .int .i64 0, .int .i64 0, .int .i64 0, .int .i64 0, .int .i64 0, .int .i64 0, .int .i64 0, .int .i64 0, .int .i64 0, .int .i64 0, .int .i64 0, .int .i64 0, .int .i64 0, .bool false, .slice none 0 0] hal ?qr
        case qg => exact rfl
        case qo => exact rfl
        case qr =>
          clear hal
          show wpList _ _ _ _ _ _
          have tA : (wr.alloc (.cells #[.int .i64 0, .int .i64 0, .int .i64 0, .int .i64 0, .int .i64 0, .int .i64 0, .int .i64 0, .int .i64 0, .int .i64 0, .int .i64 0, .int .i64 0, .int .i64 0, .int .i64 0, .int .i64 0, .int .i64 0, .int .i64 0, .bool false, .slice none 0 0] 44)).there wr.heap.size 0 ([.int .i64 jid, .int .i64 a, .int .i64 b, .int .i64 c', .int .i64 d, .int .i64 f, .int .i64 k, .int .i64 a', .int .i64 b', .int .i64 c'', .int .i64 d', .int .i64 f', .int .i64 k', .int .i64 s1, .int .i64 s2, .int .i64 jr, .bool jg, .slice ta tn tc] : List Value).toArray.size := (lies_new _ _ _).there _ 18 (by simp)
          have iA : (Tryz.prog.info? 44).map (·.size) = some ([.int .i64 jid, .int .i64 a, .int .i64 b, .int .i64 c', .int .i64 d, .int .i64 f, .int .i64 k, .int .i64 a', .int .i64 b', .int .i64 c'', .int .i64 d', .int .i64 f', .int .i64 k', .int .i64 s1, .int .i64 s2, .int .i64 jr, .bool jg, .slice ta tn tc] : List Value).toArray.size := (show (Tryz.prog.info? 44).map (·.size) = some 18 by kernel_rfl)
          with_reducible refine wpList_store_mid ?qg 44 ?qsx0 ?qsy0 ?qo wr.heap.size 0 ([.int .i64 jid, .int .i64 a, .int .i64 b, .int .i64 c', .int .i64 d, .int .i64 f, .int .i64 k, .int .i64 a', .int .i64 b', .int .i64 c'', .int .i64 d', .int .i64 f', .int .i64 k', .int .i64 s1, .int .i64 s2, .int .i64 jr, .bool jg, .slice ta tn tc] : List Value).toArray ?qhx ?qhy tA iA (by kernel_rfl) ?qr
          case qg => exact rfl
          case qo => exact rfl
          case qhx => exact rfl
          case qhy => exact rfl
          case qr =>
            clear tA iA
            show wpList _ _ _ _ _ ((wr.alloc (.cells #[.int .i64 0, .int .i64 0, .int .i64 0, .int .i64 0, .int .i64 0, .int .i64 0, .int .i64 0, .int .i64 0, .int .i64 0, .int .i64 0, .int .i64 0, .int .i64 0, .int .i64 0, .int .i64 0, .int .i64 0, .int .i64 0, .bool false, .slice none 0 0] 44)).setCells wr.heap.size 0 [.int .i64 jid, .int .i64 a, .int .i64 b, .int .i64 c', .int .i64 d, .int .i64 f, .int .i64 k, .int .i64 a', .int .i64 b', .int .i64 c'', .int .i64 d', .int .i64 f', .int .i64 k', .int .i64 s1, .int .i64 s2, .int .i64 jr, .bool jg, .slice ta tn tc])
            have hba : Below wr.heap.size wr ((wr.alloc (.cells #[.int .i64 0, .int .i64 0, .int .i64 0, .int .i64 0, .int .i64 0, .int .i64 0, .int .i64 0, .int .i64 0, .int .i64 0, .int .i64 0, .int .i64 0, .int .i64 0, .int .i64 0, .int .i64 0, .int .i64 0, .int .i64 0, .bool false, .slice none 0 0] 44)).setCells wr.heap.size 0 [.int .i64 jid, .int .i64 a, .int .i64 b, .int .i64 c', .int .i64 d, .int .i64 f, .int .i64 k, .int .i64 a', .int .i64 b', .int .i64 c'', .int .i64 d', .int .i64 f', .int .i64 k', .int .i64 s1, .int .i64 s2, .int .i64 jr, .bool jg, .slice ta tn tc]) := below_setCells _ _ ((Below.refl _ _).alloc (Nat.le_refl _) _) (Nat.le_refl _)
            have HB_1 : Hid (Below w1.heap.size w1 ((wr.alloc (.cells #[.int .i64 0, .int .i64 0, .int .i64 0, .int .i64 0, .int .i64 0, .int .i64 0, .int .i64 0, .int .i64 0, .int .i64 0, .int .i64 0, .int .i64 0, .int .i64 0, .int .i64 0, .int .i64 0, .int .i64 0, .int .i64 0, .bool false, .slice none 0 0] 44)).setCells wr.heap.size 0 [.int .i64 jid, .int .i64 a, .int .i64 b, .int .i64 c', .int .i64 d, .int .i64 f, .int .i64 k, .int .i64 a', .int .i64 b', .int .i64 c'', .int .i64 d', .int .i64 f', .int .i64 k', .int .i64 s1, .int .i64 s2, .int .i64 jr, .bool jg, .slice ta tn tc])) := HB_0.out.trans (hba.mono HB_0.out.size)
            have HO_1 : Hid (Owns 2 ((wr.alloc (.cells #[.int .i64 0, .int .i64 0, .int .i64 0, .int .i64 0, .int .i64 0, .int .i64 0, .int .i64 0, .int .i64 0, .int .i64 0, .int .i64 0, .int .i64 0, .int .i64 0, .int .i64 0, .int .i64 0, .int .i64 0, .int .i64 0, .bool false, .slice none 0 0] 44)).setCells wr.heap.size 0 [.int .i64 jid, .int .i64 a, .int .i64 b, .int .i64 c', .int .i64 d, .int .i64 f, .int .i64 k, .int .i64 a', .int .i64 b', .int .i64 c'', .int .i64 d', .int .i64 f', .int .i64 k', .int .i64 s1, .int .i64 s2, .int .i64 jr, .bool jg, .slice ta tn tc]) w1.heap.size al ml cl (M.wks (js.take j))) := HO_0.out.below hba
            clear HB_0 HO_0
            clear hba
            have HJ_1 : Hid (Lies ((wr.alloc (.cells #[.int .i64 0, .int .i64 0, .int .i64 0, .int .i64 0, .int .i64 0, .int .i64 0, .int .i64 0, .int .i64 0, .int .i64 0, .int .i64 0, .int .i64 0, .int .i64 0, .int .i64 0, .int .i64 0, .int .i64 0, .int .i64 0, .bool false, .slice none 0 0] 44)).setCells wr.heap.size 0 [.int .i64 jid, .int .i64 a, .int .i64 b, .int .i64 c', .int .i64 d, .int .i64 f, .int .i64 k, .int .i64 a', .int .i64 b', .int .i64 c'', .int .i64 d', .int .i64 f', .int .i64 k', .int .i64 s1, .int .i64 s2, .int .i64 jr, .bool jg, .slice ta tn tc]) wr.heap.size [.int .i64 jid, .int .i64 a, .int .i64 b, .int .i64 c', .int .i64 d, .int .i64 f, .int .i64 k, .int .i64 a', .int .i64 b', .int .i64 c'', .int .i64 d', .int .i64 f', .int .i64 k', .int .i64 s1, .int .i64 s2, .int .i64 jr, .bool jg, .slice ta tn tc]) := (lies_new wr #[.int .i64 0, .int .i64 0, .int .i64 0, .int .i64 0, .int .i64 0, .int .i64 0, .int .i64 0, .int .i64 0, .int .i64 0, .int .i64 0, .int .i64 0, .int .i64 0, .int .i64 0, .int .i64 0, .int .i64 0, .int .i64 0, .bool false, .slice none 0 0] 44).setCells [.int .i64 jid, .int .i64 a, .int .i64 b, .int .i64 c', .int .i64 d, .int .i64 f, .int .i64 k, .int .i64 a', .int .i64 b', .int .i64 c'', .int .i64 d', .int .i64 f', .int .i64 k', .int .i64 s1, .int .i64 s2, .int .i64 jr, .bool jg, .slice ta tn tc] 0 (by simp)
            generalize ((wr.alloc (.cells #[.int .i64 0, .int .i64 0, .int .i64 0, .int .i64 0, .int .i64 0, .int .i64 0, .int .i64 0, .int .i64 0, .int .i64 0, .int .i64 0, .int .i64 0, .int .i64 0, .int .i64 0, .int .i64 0, .int .i64 0, .int .i64 0, .bool false, .slice none 0 0] 44)).setCells wr.heap.size 0 [.int .i64 jid, .int .i64 a, .int .i64 b, .int .i64 c', .int .i64 d, .int .i64 f, .int .i64 k, .int .i64 a', .int .i64 b', .int .i64 c'', .int .i64 d', .int .i64 f', .int .i64 k', .int .i64 s1, .int .i64 s2, .int .i64 jr, .bool jg, .slice ta tn tc]) = w2 at HB_1 HO_1 HJ_1  ⊢
            generalize wr.heap.size = jb at HJ_1  ⊢
            have x17 : w2.cell? ⟨jb, 17, none⟩ = some (.slice ta tn tc) := HJ_1.out.at 17
            have hnt : (tn : Int) ≤ 8 := by omega
            go_wp2
            clear x17
            clear HJ_1
            go_loopw [3, 19] (fun l i wr => ∃ p : Nat, p ≤ tn ∧ i = .int .i64 p ∧ LsR w1 (M.wks (js.take j) ++ M.wkT (tl.take p)) l wr) (fun _ i _ => tn - (intOf i).toNat)
            case atStart => exact ⟨0, by omega, rfl, al, ml, cl, rfl, by rw [List.take_zero, show M.wkT [] = [] from rfl, List.append_nil]; exact HO_1.out, HB_1.out⟩
            case round =>
              obtain ⟨p, hp, rfl, ai, mi, ci, rfl, ho2, hb2⟩ := hrel
              clear HO_1 HB_1
              have HB_0 : Hid (Below w1.heap.size w1 wr) := hb2
              have HO_0 : Hid (Owns 2 wr w1.heap.size ai mi ci (M.wks (js.take j) ++ M.wkT (tl.take p))) := ho2
              have hT2 := HT.out.below hb2
              have hmc := ho2.count
              rw [List.length_append] at hmc
              have hm8 := M.wkT_len (tl.take p)
              rw [List.length_take] at hm8
              clear ho2 hb2
              have hmi : mi ≤ 100 := by omega
              clear hmc hm8
              by_cases hpt : p < tn
              · obtain ⟨b2, o2, rfl, hc2⟩ := hT2.at (by omega)
                have hA := hc2 p hpt
                have hPI : (p : Int) < (tn : Int) := by omega
                have HWT : Hid (M.wkT (tl.take (p + 1)) = M.wkT (tl.take p) ++ (if M.leased (tl.getD p M.t0) = true then [(tl.getD p M.t0).worker] else [])) := M.wkT_step HTL.out hpt
                have C1 := isLeased_any (tl.getD p M.t0)
                generalize tl.getD p M.t0 = x at hA HWT C1
                obtain ⟨td, x, y⟩ := x
                dsimp only [tkv] at C1 HWT
                generalize M.leased ⟨td, x, y⟩ = ow at C1 HWT
                have a0 : wr.cell? ⟨b2, o2 + p * 3, none⟩ = some (.bool td) := hA 0 (by omega)
                have a1 : wr.cell? ⟨b2, o2 + p * 3 + 1, none⟩ = some (.int .i64 x) := hA 1 (by omega)
                have a2 : wr.cell? ⟨b2, o2 + p * 3 + 2, none⟩ = some (.int .i64 y) := hA 2 (by omega)
                clear hc2 hA hT2
                have hba : Below wr.heap.size wr (wr.alloc (.cells #[.bool td, .int .i64 x, .int .i64 y] 74)) := (Below.refl _ _).alloc (Nat.le_refl _) _
                have HB_1 : Hid (Below w1.heap.size w1 (wr.alloc (.cells #[.bool td, .int .i64 x, .int .i64 y] 74))) := HB_0.out.trans (hba.mono HB_0.out.size)
                have HO_1 : Hid (Owns 2 (wr.alloc (.cells #[.bool td, .int .i64 x, .int .i64 y] 74)) w1.heap.size ai mi ci (M.wks (js.take j) ++ M.wkT (tl.take p))) := HO_0.out.below hba
                clear HB_0 HO_0
                clear hba
                have HK_1 : Hid (Lies (wr.alloc (.cells #[.bool td, .int .i64 x, .int .i64 y] 74)) wr.heap.size [.bool td, .int .i64 x, .int .i64 y]) := lies_new _ _ _
                go_wp2_with fail
                clear a0 a1 a2
                generalize (wr.alloc (.cells #[.bool td, .int .i64 x, .int .i64 y] 74)) = w3 at HB_1 HO_1 HK_1  ⊢
                generalize wr.heap.size = tb at HK_1  ⊢
                refine (C1 _).mono ?_
                rintro e w5 ⟨rfl, hb⟩
                have HB_2 : Hid (Below w1.heap.size w1 w5) := HB_1.out.trans (hb.mono HB_1.out.size)
                have HO_2 : Hid (Owns 2 w5 w1.heap.size ai mi ci (M.wks (js.take j) ++ M.wkT (tl.take p))) := HO_1.out.below hb
                have HK_2 : Hid (Lies w5 tb [.bool td, .int .i64 x, .int .i64 y]) := HK_1.out.belowS hb
                clear HB_1 HO_1 HK_1
                clear hb
                cases ow with
                | false =>
                  have HW2 : Hid (M.wks (js.take j) ++ M.wkT (tl.take p) = M.wks (js.take j) ++ M.wkT (tl.take (p + 1))) := by show _ = _; rw [HWT.out, if_neg (by decide), List.append_nil]
                  go_wp2
                  go_roundw
                  case rel => exact ⟨p + 1, by omega, by go_num, ai, mi, ci, rfl, by rw [← HW2.out]; exact HO_2.out, HB_2.out⟩
                  case measure => simp [intOf]; omega
                | true =>
                  have HW2 : Hid (M.wks (js.take j) ++ M.wkT (tl.take p) ++ [x] = M.wks (js.take j) ++ M.wkT (tl.take (p + 1))) := by show _ = _; rw [HWT.out, if_pos rfl, List.append_assoc]
                  generalize M.wks (js.take j) ++ M.wkT (tl.take p) = ws at HW2 HO_2
                  obtain ⟨i0, hi, hz0, hz1, hz2⟩ := HI.out
                  have hsz := HB_2.out.size
                  have x_1 : w5.cell? ⟨tb, 1, none⟩ = some (.int .i64 x) := HK_2.out.at 1
                  go_wp2_with (at_builtin; refine wpList_append_own _ rfl _ _ 24 rfl w1.heap.size 2 i0 (.int .i64 0) 1 8 Tryz.underlying24 hi hz0 hz1 hz2 rfl (by decide) _ mi (ws.map (Value.int .i64)) rfl (World.ownsRow.alloc HO_2.out _) ⟨w5.heap.size, 0, none⟩ 1 1 [.int .i64 x] rfl rfl (cell_one w5 x _) (one_int x) (by unfold maxLen; omega) (by omega) (by simp; omega) ?_)
                  intro v' w6 hown hgrow _
                  have hown' : w6.ownsRow w1.heap.size 2 1 v' (mi + 1) ((ws ++ [x]).map (Value.int .i64)) := by rw [List.map_append]; exact hown
                  obtain ⟨a', cap', rfl, ho'⟩ := Owns.form hown'
                  have HO' : Hid (Owns 2 w6 w1.heap.size a' (mi + 1) cap' (ws ++ [x])) := ho'
                  have HB' : Hid (Below w1.heap.size w1 w6) := below_grownBy HB_2.out ((World.grownBy_alloc w5 _ _).trans hgrow) hsz (fun q hq => (World.ownsRow.lt HO_2.out q hq).1)
                  clear hown hown' hgrow ho' hi hz0 hz1 hz2 x_1 hsz
                  rw [HW2.out] at HO'
                  go_wp2
                  go_roundw
                  case rel => exact ⟨p + 1, by omega, by go_num, a', mi + 1, cap', rfl, HO'.out, HB'.out⟩
                  case measure => simp [intOf]; omega
              · have hpe : p = tn := by omega
                subst hpe
                have HW3 : Hid (M.wks (js.take j) ++ M.wkT (tl.take p) = M.wks (js.take (j + 1))) := by have e : tl.take p = tl := List.take_of_length_le (Nat.le_of_eq HTL.out); show _ = _; rw [HW.out, e]
                go_wp2
                go_roundw
                case rel => exact ⟨j + 1, by omega, by go_num, ai, mi, ci, rfl, by rw [← HW3.out]; exact HO_0.out, HB_0.out⟩
                case measure => simp [intOf]; omega
    · have hje : j = nj := by omega
      subst hje
      have hW : M.wks (js.take j) = M.wks js := by rw [List.take_of_length_le (by omega)]
      rw [hW] at HO1
      have C1 := allUnlike_any wr HO1.out.sees
      have C2 := containsBanned_any wr ((HL0.out.belowS HB1.out).at 2) (HM0.out.b.below HB1.out) HO1.out.sees
      rw [HN.out] at C1
      rw [HAn.out] at C2
      have HBf : Hid (Below w.heap.size w wr) := HB0.out.trans (HB1.out.mono HB0.out.size)
      clear hW HO1 HB1
      go_wp2_with fail
      refine C1.mono ?_
      rintro e wz ⟨rfl, hwz⟩
      have hwy := hwz.symm
      clear hwz
      subst hwy
      cases oN with
      | false =>
        go_wp2
        go_ret
        exact ⟨rfl, HBf.out⟩
      | true =>
        go_wp2_with fail
        refine C2.mono ?_
        rintro e wz ⟨rfl, hwz⟩
        have hwy := hwz.symm
        clear hwz
        subst hwy
        go_wp2
        go_ret
        exact ⟨rfl, HBf.out⟩
end Go.Proofs.YtfhknkppiidnkaaGreat
namespace Go.Proofs.YtfhknkppiidnkaaGreat
open Go.RowKit

set_option maxHeartbeats 8000000 in
set_option maxRecDepth 10000 in
theorem implMarketOk_any {ab aj : Option Addr} {nb cb nj cj : Nat} {bs : List Int} {js : List M.Jb} (now next : Int) (w : World) (hz : SeesM w ab nb cb aj nj cj bs js) :
    Calls Tryz.prog 84 #[.agg #[.int .i64 now, .int .i64 next, .slice ab nb cb, .slice aj nj cj]] w fun e w' => e = .returned (.bool (M.mkOk now next bs js)) ∧ Below w.heap.size w w' := by
  have hlen : js.length = nj := hz.j.len
  have HM : Hid (SeesM w ab nb cb aj nj cj bs js) := hz
  have C1 := within_any now 0 1000000000
  have C2 := within_any next 1 1000000000
  have C3 : ∀ W, Sees W ab nb cb bs → Calls Tryz.prog 119 #[.slice ab nb cb] W fun e w' => e = .returned (.bool (M.bnGo 0 bs)) ∧ w' = W := fun W h => bannedOk_any W h
  have C4 : Hid ((decide (0 ≤ now) && decide (now ≤ 1000000000)) = true → (decide (1 ≤ next) && decide (next ≤ 1000000000)) = true → ∀ W, SeesJ W aj nj cj js → Calls Tryz.prog 120 #[.agg #[.int .i64 now, .int .i64 next, .slice ab nb cb, .slice aj nj cj]] W fun e w' => e = .returned (.bool (decide (nj ≤ 6) && M.jsGo now next 0 js)) ∧ Below W.heap.size W w') := fun h1 h2 W h => by
    simp only [Bool.and_eq_true, decide_eq_true_eq] at h1 h2
    exact jobsOk_any now next h1.1 h1.2 h2.1 h2.2 W h
  have C5 : Hid ((decide (nj ≤ 6) && M.jsGo now next 0 js) = true → ∀ W, SeesM W ab nb cb aj nj cj bs js → Calls Tryz.prog 121 #[.agg #[.int .i64 now, .int .i64 next, .slice ab nb cb, .slice aj nj cj]] W fun e w' => e = .returned (.bool (decide (M.wks js).Nodup && !(M.wks js).any (fun x => bs.contains x))) ∧ Below W.heap.size W w') := fun h1 W h => by
    simp only [Bool.and_eq_true, decide_eq_true_eq] at h1
    exact leasesOk_any now next W h h1.1 (M.jsGo_small h1.2)
  unfold M.mkOk
  rw [hlen]
  generalize (decide (M.wks js).Nodup && !(M.wks js).any (fun x => bs.contains x)) = o5 at C5 ⊢
  generalize (decide (nj ≤ 6) && M.jsGo now next 0 js) = o4 at C4 C5 ⊢
  generalize M.bnGo 0 bs = o3 at C3 ⊢
  generalize (decide (1 ≤ next) && decide (next ≤ 1000000000)) = o2 at C2 C4 ⊢
  generalize (decide (0 ≤ now) && decide (now ≤ 1000000000)) = o1 at C1 C4 ⊢
  clear hz
  go_enter Tryz.func84, Tryz.ntmps84
  have HA_0 : Hid (Lies (w.alloc (.cells #[.int .i64 now, .int .i64 next, .slice ab nb cb, .slice aj nj cj] 27)) w.heap.size [.int .i64 now, .int .i64 next, .slice ab nb cb, .slice aj nj cj]) := lies_new _ _ _
  have HB_0 : Hid (Below w.heap.size w (w.alloc (.cells #[.int .i64 now, .int .i64 next, .slice ab nb cb, .slice aj nj cj] 27))) := (Below.refl _ _).alloc (Nat.le_refl _) _
  go_wp2_with fail
  generalize (w.alloc (.cells #[.int .i64 now, .int .i64 next, .slice ab nb cb, .slice aj nj cj] 27)) = wa at HA_0 HB_0  ⊢
  refine (C1 _).mono ?_
  rintro e wz ⟨rfl, hwz⟩
  have hwy := hwz.symm
  clear hwz
  subst hwy
  cases o1 with
  | false =>
    go_wp2
    go_ret
    exact ⟨by simp, HB_0.out⟩
  | true =>
    have x1 : wa.cell? ⟨w.heap.size, 1, none⟩ = some (.int .i64 next) := HA_0.out.at 1
    go_wp2_with fail
    clear x1
    refine (C2 _).mono ?_
    rintro e wz ⟨rfl, hwz⟩
    have hwy := hwz.symm
    clear hwz
    subst hwy
    cases o2 with
    | false =>
      go_wp2
      go_ret
      exact ⟨by simp, HB_0.out⟩
    | true =>
      have x2 : wa.cell? ⟨w.heap.size, 2, none⟩ = some (.slice ab nb cb) := HA_0.out.at 2
      go_wp2_with fail
      clear x2
      refine (C3 _ (HM.out.b.below HB_0.out)).mono ?_
      rintro e wz ⟨rfl, hwz⟩
      have hwy := hwz.symm
      clear hwz
      subst hwy
      cases o3 with
      | false =>
        go_wp2
        go_ret
        exact ⟨by simp, HB_0.out⟩
      | true =>
        have x0 : wa.cell? ⟨w.heap.size, 0, none⟩ = some (.int .i64 now) := HA_0.out.at 0
        have x1 : wa.cell? ⟨w.heap.size, 1, none⟩ = some (.int .i64 next) := HA_0.out.at 1
        have x2 : wa.cell? ⟨w.heap.size, 2, none⟩ = some (.slice ab nb cb) := HA_0.out.at 2
        have x3 : wa.cell? ⟨w.heap.size, 3, none⟩ = some (.slice aj nj cj) := HA_0.out.at 3
        go_wp2_with fail
        clear x0 x1 x2 x3
        refine (C4.out (by simp) (by simp) _ (HM.out.j.below HB_0.out)).mono ?_
        rintro e wb ⟨rfl, hb⟩
        have HA_1 : Hid (Lies wb w.heap.size [.int .i64 now, .int .i64 next, .slice ab nb cb, .slice aj nj cj]) := HA_0.out.belowS hb
        have HB_1 : Hid (Below w.heap.size w wb) := HB_0.out.trans (hb.mono HB_0.out.size)
        clear HA_0 HB_0
        clear hb
        cases o4 with
        | false =>
          go_wp2
          go_ret
          exact ⟨by simp, HB_1.out⟩
        | true =>
          have x0 : wb.cell? ⟨w.heap.size, 0, none⟩ = some (.int .i64 now) := HA_1.out.at 0
          have x1 : wb.cell? ⟨w.heap.size, 1, none⟩ = some (.int .i64 next) := HA_1.out.at 1
          have x2 : wb.cell? ⟨w.heap.size, 2, none⟩ = some (.slice ab nb cb) := HA_1.out.at 2
          have x3 : wb.cell? ⟨w.heap.size, 3, none⟩ = some (.slice aj nj cj) := HA_1.out.at 3
          go_wp2_with fail
          clear x0 x1 x2 x3
          refine (C5.out (by simp) _ (HM.out.below HB_1.out)).mono ?_
          rintro e wc ⟨rfl, hb⟩
          have HA_2 : Hid (Lies wc w.heap.size [.int .i64 now, .int .i64 next, .slice ab nb cb, .slice aj nj cj]) := HA_1.out.belowS hb
          have HB_2 : Hid (Below w.heap.size w wc) := HB_1.out.trans (hb.mono HB_1.out.size)
          clear HA_1 HB_1
          clear hb
          go_wp2
          go_ret
          exact ⟨by simp, HB_2.out⟩
end Go.Proofs.YtfhknkppiidnkaaGreat
