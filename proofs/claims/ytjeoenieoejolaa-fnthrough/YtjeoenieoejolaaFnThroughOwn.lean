/- For every code the law FnThrough returns true: there is one polynomial, shorter than there are drawn points, that goes through them all; with no condition. -/
import Derived.Test.YtjeoenieoejolaaRows
import Derived.WalkKit
import Derived.ProofKit
import Derived.OpenShut
import Derived.ShutString
import Derived.ChangeOld
import Derived.Below
import Derived.Test.YtjeoenieoejolaaThLaw
import Derived.Test.YtjeoenieoejolaaRdH
import Derived.Test.YtjeoenieoejolaaSlS
import Derived.Test.YtjeoenieoejolaaRdA
namespace Go.Proofs.Ytjeoenieoejolaa.fnThrough
open Go.ChangeShapes Go.WideShapes Go.ChangeAt Go.RowKit
open Go.ChangeMaps (open_string shut_string)
set_option linter.unusedVariables false

theorem own : ownKnob Try.prog.godebug = none := by kernel_rfl
theorem laidOut : laidOutB Try.prog = true := by kernel_rfl

def IsRow (k : IntKind) (w : World) (a : Option Addr) (len cap : Nat) (zs : List Int) : Prop :=
  (a = none ∧ len = 0 ∧ cap = 0 ∧ zs = []) ∨
  ∃ x, a = some x ∧ len ≤ cap ∧ cap ≤ maxLen ∧ zs.length = cap ∧ (∀ i, i < zs.length → w.cell? (x.add i) = some (.int k (zs.getD i 0))) ∧ ∀ n ∈ zs, (Lit.int k n).wf = true

set_option maxHeartbeats 8000000 in
set_option maxRecDepth 100000 in
theorem walk (a0 : Option Addr) (len0 cap0 : Nat) (z0 : List Int) (w : World) (w0 : IsRow .u8 w a0 len0 cap0 z0) :
    Calls Try.prog 8 #[.slice a0 len0 cap0] w fun e w' => e = .returned (.bool true) ∧ Below w.heap.size w w' := by
  have hrow : Row .u8 w a0 len0 cap0 z0 := w0
  clear w0
  by_cases hbig : (1048576 : Int) < (len0 : Int)
  · go_enter Try.func8, Try.ntmps8
    go_wp2_with fail
    refine (big_any _ _ _ _).mono ?_
    rintro e w' ⟨rfl, rfl⟩
    go_wp2
    go_ret
    exact ⟨rfl, Below.refl _ _⟩
  · have HR : Hid (Row .u8 w a0 len0 cap0 z0) := hrow
    have hb : decide ((1048576 : Int) < (len0 : Int)) = false := by simpa using hbig
    clear hrow
    go_enter Try.func8, Try.ntmps8
    go_wp2_with fail
    refine (big_any _ _ _ _).mono ?_
    rintro e w ⟨rfl, rfl⟩
    go_wp2_with fail
    refine (drawThrough_any w HR.out).mono ?_
    rintro e v1 ⟨xb, xn, xc, xs, yb, yn, yc, ys, rfl, hxn, hyn, ho_x, ho_y, hbl⟩
    have O_x_1 : Hid (Owns 2 v1 w.heap.size xb xn xc (xs)) := ho_x
    have O_y_1 : Hid (Owns 2 v1 w.heap.size yb yn yc (ys)) := ho_y
    have HB1 : Hid (Below w.heap.size w v1) := hbl
    clear hbl ho_x ho_y
    go_wp2_with fail
    refine (implThrough_any _ O_x_1.out.sees O_y_1.out.sees).mono ?_
    rintro e v2 ⟨fa, fm, fc, rfl, hfm, ho_f, hbl⟩
    have O_x_2 : Hid (Owns 2 v2 w.heap.size xb xn xc (xs)) := O_x_1.out.below hbl
    have O_y_2 : Hid (Owns 2 v2 w.heap.size yb yn yc (ys)) := O_y_1.out.below hbl
    have O_f_2 : Hid (Owns 2 v2 w.heap.size fa fm fc (M.thv xs ys)) := ho_f.mono HB1.out.size
    have HB2 : Hid (Below w.heap.size w v2) := HB1.out.trans (hbl.mono HB1.out.size)
    clear hbl ho_f
    go_wp2_with fail
    refine (specThrough_any _ O_x_2.out.sees O_y_2.out.sees).mono ?_
    rintro e v3 ⟨wa, wm, wc, rfl, hwm, ho_w, hbl⟩
    have O_x_3 : Hid (Owns 2 v3 w.heap.size xb xn xc (xs)) := O_x_2.out.below hbl
    have O_y_3 : Hid (Owns 2 v3 w.heap.size yb yn yc (ys)) := O_y_2.out.below hbl
    have O_f_3 : Hid (Owns 2 v3 w.heap.size fa fm fc (M.thv xs ys)) := O_f_2.out.below hbl
    have O_w_3 : Hid (Owns 2 v3 w.heap.size wa wm wc (M.thv xs ys)) := ho_w.mono HB2.out.size
    have HB3 : Hid (Below w.heap.size w v3) := HB2.out.trans (hbl.mono HB2.out.size)
    clear hbl ho_w
    have nf : (M.thOk xs ys != M.thOk xs ys) = false := by simp
    have ef : (M.thOk xs ys == M.thOk xs ys) = true := by simp
    go_wp2_with fail
    refine (sameS_yes _ O_f_3.out.sees O_w_3.out.sees).mono ?_
    rintro e v4 ⟨rfl, hbl⟩
    have O_x_4 : Hid (Owns 2 v4 w.heap.size xb xn xc (xs)) := O_x_3.out.below hbl
    have O_y_4 : Hid (Owns 2 v4 w.heap.size yb yn yc (ys)) := O_y_3.out.below hbl
    have O_f_4 : Hid (Owns 2 v4 w.heap.size fa fm fc (M.thv xs ys)) := O_f_3.out.below hbl
    have O_w_4 : Hid (Owns 2 v4 w.heap.size wa wm wc (M.thv xs ys)) := O_w_3.out.below hbl
    have HB4 : Hid (Below w.heap.size w v4) := HB3.out.trans (hbl.mono HB3.out.size)
    clear hbl
    cases hok : M.thOk xs ys with
    | false =>
      rw [hok] at nf ef
      go_wp2_with fail
      refine (sameS_yes _ O_f_4.out.sees O_w_4.out.sees).mono ?_
      rintro e v5 ⟨rfl, hbl⟩
      have O_x_5 : Hid (Owns 2 v5 w.heap.size xb xn xc (xs)) := O_x_4.out.below hbl
      have O_y_5 : Hid (Owns 2 v5 w.heap.size yb yn yc (ys)) := O_y_4.out.below hbl
      have O_f_5 : Hid (Owns 2 v5 w.heap.size fa fm fc (M.thv xs ys)) := O_f_4.out.below hbl
      have O_w_5 : Hid (Owns 2 v5 w.heap.size wa wm wc (M.thv xs ys)) := O_w_4.out.below hbl
      have HB5 : Hid (Below w.heap.size w v5) := HB4.out.trans (hbl.mono HB4.out.size)
      clear hbl
      go_wp2
      go_ret
      exact ⟨rfl, HB5.out⟩
    | true =>
      rw [hok] at nf ef
      have HOK : Hid (M.thOk xs ys = true) := hok
      have HLX : Hid (xs.length = xn) := O_x_4.out.len
      have hyx : yn = xn := by rw [← O_y_4.out.len, ← O_x_4.out.len]; exact (M.thLens_parts (M.thOk_parts HOK.out).1).2.2
      subst hyx
      have hfx : fm ≤ yn := by rw [← O_f_4.out.len, ← HLX.out]; exact M.law_thLen HOK.out
      have hfI : (fm : Int) ≤ (yn : Int) := by omega
      have hn0 : 0 < yn := by have := (M.thLens_parts (M.thOk_parts HOK.out).1).1; rw [HLX.out] at this; exact this
      have HAT : Hid (∀ i, i < yn → M.atv (M.thv xs ys) (xs.getD i 0) = ys.getD i 0) := fun i hi => M.law_at HOK.out (by rw [HLX.out]; exact hi)
      have HBK : Hid (∀ g, M.polyOk g = true → g.length ≤ yn → M.thv xs (M.backs g xs yn) = g) := fun g h1 h2 => by
        have h := M.law_back HOK.out h1 (by rw [HLX.out]; exact h2)
        rw [HLX.out] at h; exact h
      clear hok
      go_wp2
      go_loopw [9] (fun i wr => ∃ j : Nat, j ≤ yn ∧ i = .int .i64 j ∧ Below v4.heap.size v4 wr) (fun i _ => yn - (intOf i).toNat)
      case atStart => exact ⟨0, by omega, rfl, Below.refl _ _⟩
      case round =>
        obtain ⟨j, hj, rfl, hbr⟩ := hrel
        have HBR : Hid (Below v4.heap.size v4 wr) := hbr
        clear hbr
        by_cases hlt : j < yn
        · obtain ⟨b1, o1, rfl, hc1⟩ := (O_x_4.out.below HBR.out).sees.at (by omega)
          obtain ⟨b2, o2, rfl, hc2⟩ := (O_y_4.out.below HBR.out).sees.at (by omega)
          have d1 := hc1 j hlt
          have d2 := hc2 j hlt
          have hne : (M.atv (M.thv xs ys) (xs.getD j 0) != ys.getD j 0) = false := by rw [HAT.out j hlt]; simp
          have HFD : Hid (Sees wr.drew fa fm fc (M.thv xs ys)) := ((O_f_4.out.below HBR.out).sees.below (Below.refl _ _).drew)
          generalize xs.getD j 0 = x at d1 hne
          generalize ys.getD j 0 = y at d2 hne
          have HCL : Hid (∀ W, Below wr.drew.heap.size wr.drew W → W.cell? ⟨b1, o1 + j, none⟩ = some (.int .i64 x) ∧ W.cell? ⟨b2, o2 + j, none⟩ = some (.int .i64 y)) := fun W hW => by
            have hW' := (Below.refl wr.heap.size wr).drew.trans hW
            exact ⟨(hW'.cell (p := ⟨b1, o1 + j, none⟩) (World.block_lt_of_cell? wr _ d1)).trans d1, (hW'.cell (p := ⟨b2, o2 + j, none⟩) (World.block_lt_of_cell? wr _ d2)).trans d2⟩
          have hI : (j : Int) < (yn : Int) := by omega
          clear hc1 hc2
          go_wp2
          go_region_with ((go_at_call 31; refine (implAt_any x _ HFD.out).mono ?_; rintro e w2 ⟨rfl, hb2⟩; obtain ⟨g1, g2⟩ := HCL.out _ hb2))
          all_goals
            have HB2 : Hid (Below v4.heap.size v4 w2) := HBR.out.drew.trans (hb2.mono HBR.out.size)
            clear hb2 g1 g2
            go_wp2
            go_roundw
            case rel => exact ⟨j + 1, by omega, by go_num, HB2.out⟩
            case measure => simp [intOf] <;> omega
        · have hbl : Below v4.heap.size v4 wr := HBR.out
          have O_x_5 : Hid (Owns 2 wr w.heap.size xb yn xc (xs)) := O_x_4.out.below hbl
          have O_y_5 : Hid (Owns 2 wr w.heap.size yb yn yc (ys)) := O_y_4.out.below hbl
          have O_f_5 : Hid (Owns 2 wr w.heap.size fa fm fc (M.thv xs ys)) := O_f_4.out.below hbl
          have HB5 : Hid (Below w.heap.size w wr) := HB4.out.trans (hbl.mono HB4.out.size)
          clear hbl
          have hIe : ¬ (j : Int) < (yn : Int) := by omega
          go_wp2_with fail
          refine (drawAt_any w _ HR.out HB5.out).mono ?_
          rintro e v6 ⟨ga, gn, gc, gs, gx, rfl, hgn, ho_g, hbl⟩
          have O_x_6 : Hid (Owns 2 v6 w.heap.size xb yn xc (xs)) := O_x_5.out.below hbl
          have O_y_6 : Hid (Owns 2 v6 w.heap.size yb yn yc (ys)) := O_y_5.out.below hbl
          have O_f_6 : Hid (Owns 2 v6 w.heap.size fa fm fc (M.thv xs ys)) := O_f_5.out.below hbl
          have O_g_6 : Hid (Owns 2 v6 w.heap.size ga gn gc (gs)) := ho_g.mono HB5.out.size
          have HB6 : Hid (Below w.heap.size w v6) := HB5.out.trans (hbl.mono HB5.out.size)
          clear hbl ho_g
          have HGL : Hid (gs.length = gn) := O_g_6.out.len
          by_cases hgl : yn < gn
          · have hgI : (yn : Int) < (gn : Int) := by omega
            go_wp2
            go_ret
            exact ⟨rfl, HB6.out⟩
          · have hgI : decide ((yn : Int) < (gn : Int)) = false := decide_eq_false (by omega)
            cases hpo : M.polyOk gs with
            | false =>
              go_wp2_with fail
              refine (specPolyOk_any _ O_g_6.out.sees).mono ?_
              rintro e v6 ⟨rfl, rfl⟩
              rw [hpo]
              go_wp2
              go_ret
              exact ⟨rfl, HB6.out⟩
            | true =>
              have HBG : Hid (M.thv xs (M.backs gs xs yn) = gs) := HBK.out gs hpo (by rw [HGL.out]; omega)
              go_wp2_with fail
              refine (specPolyOk_any _ O_g_6.out.sees).mono ?_
              rintro e v6 ⟨rfl, rfl⟩
              rw [hpo]
              obtain ⟨i0, hi, hz0, hz1, hz2⟩ := info_parts info_i64
              have HI : Hid (Try.prog.info? 2 = some i0 ∧ i0.zero = some (Value.int .i64 0) ∧ i0.size = 1 ∧ i0.bytes = 8) := ⟨hi, hz0, hz1, hz2⟩
              have HOa : Hid (Owns 2 (v6.alloc (.cells #[] 2)) v6.heap.size (some ⟨v6.heap.size, 0, none⟩) 0 0 []) := World.ownsRow_made v6 #[] 0 (Nat.le_refl _) (by unfold maxLen; omega) rfl
              have HBa : Hid (Below v6.heap.size v6 (v6.alloc (.cells #[] 2))) := (Below.refl _ _).alloc (Nat.le_refl _) _
              clear hi hz0 hz1 hz2 hpo
              go_wp2
              go_loopw [12, 13] (fun s i wv => ∃ (q : Nat) (ba : Option Addr) (bc : Nat), q ≤ yn ∧ i = .int .i64 q ∧ s = .slice ba q bc ∧ Owns 2 wv v6.heap.size ba q bc (M.backs gs xs q) ∧ Below v6.heap.size v6 wv) (fun _ i _ => yn - (intOf i).toNat)
              case atStart => exact ⟨0, _, 0, by omega, rfl, rfl, HOa.out, HBa.out⟩
              case round =>
                obtain ⟨q, ba, bc, hq, rfl, rfl, hob, hbr⟩ := hrel
                have HOB : Hid (Owns 2 wr v6.heap.size ba q bc (M.backs gs xs q)) := hob
                have HBR2 : Hid (Below v6.heap.size v6 wr) := hbr
                clear hob hbr HOa HBa
                by_cases hlt2 : q < yn
                · obtain ⟨b1, o1, rfl, hc1⟩ := (O_x_6.out.below HBR2.out).sees.at (by omega)
                  have d1 := hc1 q hlt2
                  have HSN : Hid (M.backs gs xs q ++ [M.atv gs (xs.getD q 0)] = M.backs gs xs (q + 1)) := M.backs_snoc gs xs q
                  generalize xs.getD q 0 = x at d1 HSN
                  have hI : (q : Int) < (yn : Int) := by omega
                  clear hc1
                  go_wp2_with fail
                  refine (implAt_any x _ (O_g_6.out.below HBR2.out).sees).mono ?_
                  rintro e u2 ⟨rfl, hb2⟩
                  have hB2 : Below v6.heap.size v6 u2 := HBR2.out.trans (hb2.mono HBR2.out.size)
                  have HOB2 : Hid (Owns 2 u2 v6.heap.size ba q bc (M.backs gs xs q)) := HOB.out.below hb2
                  have HB2 : Hid (Below v6.heap.size v6 u2) := hB2
                  have hs2 : v6.heap.size ≤ u2.heap.size := hB2.size
                  clear hb2 hB2
                  generalize M.atv gs x = y at HSN
                  go_wp2_with (at_builtin; refine wpList_append_own _ rfl _ _ 30 rfl v6.heap.size 2 i0 (.int .i64 0) 1 8 Try.underlying30 HI.out.1 HI.out.2.1 HI.out.2.2.1 HI.out.2.2.2 rfl (by decide) _ q ((M.backs gs xs q).map (Value.int .i64)) rfl (World.ownsRow.alloc HOB2.out _) ⟨u2.heap.size, 0, none⟩ 1 1 [.int .i64 y] rfl rfl (cell_one u2 _ _) (one_int _) (by unfold maxLen; omega) (by omega) (by simp; omega) ?_)
                  intro v' u3 hown hgrow _
                  have hown' : u3.ownsRow v6.heap.size 2 1 v' (q + 1) ((M.backs gs xs (q + 1)).map (Value.int .i64)) := by rw [← HSN.out, List.map_append]; exact hown
                  obtain ⟨b4, c4, rfl, ho4⟩ := Owns.form hown'
                  have HO4 : Hid (Owns 2 u3 v6.heap.size b4 (q + 1) c4 (M.backs gs xs (q + 1))) := ho4
                  have HB4 : Hid (Below v6.heap.size v6 u3) := (HB2.out.alloc hs2 _).grown hgrow (by simp; omega) HOB2.out.row
                  clear hown hown' hgrow ho4
                  go_wp2
                  go_roundw
                  case rel => exact ⟨q + 1, b4, c4, by omega, by go_num, rfl, HO4.out, HB4.out⟩
                  case measure => simp [intOf]; omega
                · have hqn : q = yn := by omega
                  subst hqn
                  have O_b_7 : Hid (Owns 2 wr w.heap.size ba q bc (M.backs gs xs q)) := HOB.out.mono HB6.out.size
                  have hbl : Below v6.heap.size v6 wr := HBR2.out
                  have O_x_7 : Hid (Owns 2 wr w.heap.size xb q xc (xs)) := O_x_6.out.below hbl
                  have O_g_7 : Hid (Owns 2 wr w.heap.size ga gn gc (gs)) := O_g_6.out.below hbl
                  have HB7 : Hid (Below w.heap.size w wr) := HB6.out.trans (hbl.mono HB6.out.size)
                  clear hbl
                  go_wp2_with fail
                  refine (implThrough_any _ O_x_7.out.sees O_b_7.out.sees).mono ?_
                  rintro e v8 ⟨ha, hm, hc, rfl, hhm, ho_h, hbl⟩
                  rw [HBG.out] at ho_h
                  have O_x_8 : Hid (Owns 2 v8 w.heap.size xb q xc (xs)) := O_x_7.out.below hbl
                  have O_g_8 : Hid (Owns 2 v8 w.heap.size ga gn gc (gs)) := O_g_7.out.below hbl
                  have O_b_8 : Hid (Owns 2 v8 w.heap.size ba q bc (M.backs gs xs q)) := O_b_7.out.below hbl
                  have O_h_8 : Hid (Owns 2 v8 w.heap.size ha hm hc (gs)) := ho_h.mono HB7.out.size
                  have HB8 : Hid (Below w.heap.size w v8) := HB7.out.trans (hbl.mono HB7.out.size)
                  clear hbl ho_h
                  go_wp2_with fail
                  refine (sameS_yes _ O_h_8.out.sees O_g_8.out.sees).mono ?_
                  rintro e v9 ⟨rfl, hbl⟩
                  have O_x_9 : Hid (Owns 2 v9 w.heap.size xb q xc (xs)) := O_x_8.out.below hbl
                  have O_g_9 : Hid (Owns 2 v9 w.heap.size ga gn gc (gs)) := O_g_8.out.below hbl
                  have O_b_9 : Hid (Owns 2 v9 w.heap.size ba q bc (M.backs gs xs q)) := O_b_8.out.below hbl
                  have O_h_9 : Hid (Owns 2 v9 w.heap.size ha hm hc (gs)) := O_h_8.out.below hbl
                  have HB9 : Hid (Below w.heap.size w v9) := HB8.out.trans (hbl.mono HB8.out.size)
                  clear hbl
                  go_wp2
                  go_ret
                  exact ⟨rfl, HB9.out⟩

set_option maxRecDepth 100000 in
theorem lifted (os : Os) (started : os.Started) (H : Type) (enc : TypeId × Value → H) :
    ReturnsInHanded {} Try.checked os 8 .any (Rows.fnThroughSpec.pre6 enc Try.prog Try.f8 Rows.fnThroughRow.domain false) (Rows.fnThroughSpec.post enc Try.prog Try.f8 false true false false) := by
  refine returnsInHanded_of_change (C := Try.checked) own started (by kernel_rfl) Try.func8
    (ChangeSpec.witness6 (enc := enc) (C := Try.checked) false ⟨#[], #[.slice none 0 0], []⟩ 8 (by kernel_rfl) (by kernel_rfl) (by kernel_rfl) (by kernel_rfl)) ?_
  intro W base args ds gs before hval0 hW hcnd _
  have hval : ∀ (j : Nat) t v, Try.f8.params[j]? = some t → args[j]? = some v → Value.okWide Try.prog W .any base t v := hval0
  have hW' := hW
  obtain ⟨p, q, hA0, hV, rfl, hfz, hnd⟩ := hW
  have hA : DataW.TrodAll enc Try.prog W 0 (fun _ => true) true Try.f8.params.toList args.toList ds p := hA0
  rw [Try.params8] at hA hval
  obtain ⟨v0, vs0, d0, ds0, p0, q0, hargs, rfl, rfl, h0, r0⟩ := trodAll_cons hA
  obtain ⟨rfl, rfl, rfl⟩ := trodAll_nil r0
  obtain rfl : args = #[v0] := by cases args; simp_all
  obtain ⟨rfl, rfl⟩ := trodVars_none hV
  obtain ⟨a0, len0, cap0, rfl⟩ := okWide_slice Try.underlying22 (hval 0 22 v0 rfl rfl)
  have k0 := h0
  have lt0 : ∀ x ∈ p0, x.block < W.heap.size := by obtain ⟨m, hm⟩ := k0; exact DataW.trod_lt m _ _ _ hm
  obtain ⟨z0, w0⟩ : ∃ zs, IsRow .u8 W a0 len0 cap0 zs := by
    obtain ⟨fuel, hf⟩ := h0
    rcases open_ints Try.underlying22 Try.underlying5 (by kernel_rfl) hf with ⟨hcs, _⟩ | ⟨x, l, c, zs, hcs, _, hl, hm, hz, _, hcell, hwz⟩
    · simp [Value.cells] at hcs
      obtain ⟨rfl, rfl, rfl⟩ := hcs
      exact ⟨[], .inl ⟨rfl, rfl, rfl, rfl⟩⟩
    · simp [Value.cells] at hcs
      obtain ⟨rfl, rfl, rfl⟩ := hcs
      exact ⟨zs, .inr ⟨_, rfl, hl, hm, by simpa using hz, hcell, hwz⟩⟩
  clear hA0 hval0
  refine (walk a0 len0 cap0 z0 W w0).mono fun e W' ⟨he, bel⟩ => ?_
  subst he
  exact ⟨_, rfl, _, _, _, [], _, [], hW', trodAll_mk1 (shut_bool Try.underlying4 _), (trodAll_cons_mk (Below.trod laidOut (by kernel_rfl) (of_decide_eq_true (by kernel_rfl)) k0 bel lt0) trodAll_mk0), rfl, bel.frame _, fun h => by cases h⟩

theorem over : Rows.fnThroughRow.holds Try.pinned (OpenSpec.ofChange Rows.fnThroughSpec) :=
  OpenClaim.holds_of_wide 8 Try.f8 rfl rfl rfl rfl rfl rfl rfl ⟨rfl, rfl, rfl, rfl, rfl⟩ rfl rfl rfl rfl rfl (by kernel_rfl) Try.func8 (by kernel_rfl)
    (of_decide_eq_true (by kernel_rfl)) (by unfold Func.isWrapper; first | (rw [if_pos (by decide +kernel)]; kernel_rfl) | (rw [if_neg (by decide +kernel)]; exact ⟨rfl, rfl⟩))
    (fun os started H enc _ => lifted os started H enc)

theorem proved : Rows.FnThroughSaid := over
end Go.Proofs.Ytjeoenieoejolaa.fnThrough
namespace Go.Proofs.Ytjeoenieoejolaa
theorem fnThrough_holds : Rows.FnThroughSaid := fnThrough.proved
#print axioms fnThrough_holds
end Go.Proofs.Ytjeoenieoejolaa
