/- Why a proof is refused: the faults of one list, and the part that they were met in. -/
import Derived.Test.YtbcfjbkmkknmfaaDoorErC
import Derived.Test.YtbcfjbkmkknmfaaDoorPrLaw
import Derived.Test.YtbcfjbkmkknmfaaDoorGrA
namespace Go.Proofs.YtbcfjbkmkknmfaaDoor
open Go.RowKit Go.Extern.Stop Go.Stop Go.Extern

/-- a refusal's value -/
def rfv (s : ByteArray) (p : Int) (a : Addr) : Value := .iface 70 (.agg #[.string s, .int .i64 p, .iface 105 (.pointer (some a))])
/-- a sentinel's value -/
def snv (a : Addr) : Value := .iface 105 (.pointer (some a))
/-- what a call must find of the package's variables -/
structure Env (w : World) (aL aN : Addr) : Prop where
  cL : w.cell? ⟨0, 0, none⟩ = some (.iface 105 (.pointer (some aL)))
  cN : w.cell? ⟨1, 0, none⟩ = some (.iface 105 (.pointer (some aN)))
  cT : w.cell? ⟨2, 0, none⟩ = some (.iface 78 (.agg #[.pointer (some ⟨3, 47, none⟩)]))
  ne : aN ≠ aL
  hL : ∃ c t, w.heap[aL.block]? = some (.cells c t (0, 0))
  hN : ∃ c t, w.heap[aN.block]? = some (.cells c t (0, 0))
theorem Env.below {w w' : World} {aL aN : Addr} (h : Env w aL aN) (hb : Below w.heap.size w w') : Env w' aL aN where
  cL := (hb.cell (p := ⟨0, 0, none⟩) (World.block_lt_of_cell? w _ h.cL)).trans h.cL
  cN := (hb.cell (p := ⟨1, 0, none⟩) (World.block_lt_of_cell? w _ h.cN)).trans h.cN
  cT := (hb.cell (p := ⟨2, 0, none⟩) (World.block_lt_of_cell? w _ h.cT)).trans h.cT
  ne := h.ne
  hL := by obtain ⟨c, t, e⟩ := h.hL; exact ⟨c, t, (hb.block _ (Owns.grownR.lt_of_heap e)).trans e⟩
  hN := by obtain ⟨c, t, e⟩ := h.hN; exact ⟨c, t, (hb.block _ (Owns.grownR.lt_of_heap e)).trans e⟩
set_option maxHeartbeats 4000000 in
theorem inPart_sent {aL aN : Addr} (s : ByteArray) (a : Addr) (w : World) (he : Env w aL aN) : Calls Tryd.prog 28 #[.string s, .iface 105 (.pointer (some a))] w fun e w' => e = .returned (rfv s (-1) a) ∧ Below w.heap.size w w' := by
  have hn := fun W => run_eql_iface_nil_left (P := Tryd.prog) W 105 (.pointer (some a)) Tryd.underlying47
  have HB0 : Hid (Below w.heap.size w (w.alloc (.cells #[.string ByteArray.empty, .int .i64 0, .nilIface] 70))) := (Below.refl _ _).alloc (Nat.le_refl _) _
  have HL0 : Hid (Lies (w.alloc (.cells #[.string ByteArray.empty, .int .i64 0, .nilIface] 70)) w.heap.size [.string ByteArray.empty, .int .i64 0, .nilIface]) := lies_new _ _ _
  have CA := as_miss a ⟨w.heap.size, 0, none⟩ (w.alloc (.cells #[.string ByteArray.empty, .int .i64 0, .nilIface] 70)) (he.below HB0.out).cT
  unfold rfv
  clear he
  go_enter Tryd.func28, Tryd.ntmps28
  go_wp2_with fail
  refine CA.mono ?_
  rintro e w1 ⟨rfl, hb1⟩
  have HL1 : Hid (Lies w1 w.heap.size [.string ByteArray.empty, .int .i64 0, .nilIface]) := HL0.out.belowS hb1
  have HB1 : Hid (Below w.heap.size w w1) := HB0.out.trans (hb1.mono HB0.out.size)
  have t0 : w1.cell? ⟨w.heap.size, 0, none⟩ = some (.string ByteArray.empty) := HL1.out.at 0
  have t1 : w1.cell? ⟨w.heap.size, 1, none⟩ = some (.int .i64 0) := HL1.out.at 1
  have t2 : w1.cell? ⟨w.heap.size, 2, none⟩ = some .nilIface := HL1.out.at 2
  have u0 : w1.frozen? ⟨w.heap.size, 0, none⟩ = false := HL1.out.fr 0
  have u1 : w1.frozen? ⟨w.heap.size, 1, none⟩ = false := HL1.out.fr 1
  have u2 : w1.frozen? ⟨w.heap.size, 2, none⟩ = false := HL1.out.fr 2
  have HBz : Hid (Below w.heap.size w ((((w1.setCell ⟨w.heap.size, 0, none⟩ (.string ByteArray.empty)).setCell ⟨w.heap.size, 1, none⟩ (.int .i64 (-1))).setCell ⟨w.heap.size, 2, none⟩ (.iface 105 (.pointer (some a)))).setCell ⟨w.heap.size, 0, none⟩ (.string s))) := (((HB1.out.setCell (Nat.le_refl _) _).setCell (Nat.le_refl _) _).setCell (Nat.le_refl _) _).setCell (Nat.le_refl _) _
  clear hb1 HL0 HB0
  go_wp2
  go_ret
  exact ⟨rfl, HBz.out⟩
set_option maxHeartbeats 4000000 in
theorem inPart_ref {aL aN : Addr} (s s0 : ByteArray) (p : Int) (a : Addr) (w : World) (he : Env w aL aN) : Calls Tryd.prog 28 #[.string s, rfv s0 p a] w fun e w' => e = .returned (rfv s p a) ∧ Below w.heap.size w w' := by
  have hn := fun W => run_eql_iface_nil_left (P := Tryd.prog) W 70 (.agg #[.string s0, .int .i64 p, .iface 105 (.pointer (some a))]) Tryd.underlying47
  have HB0 : Hid (Below w.heap.size w (w.alloc (.cells #[.string ByteArray.empty, .int .i64 0, .nilIface] 70))) := (Below.refl _ _).alloc (Nat.le_refl _) _
  have HL0 : Hid (Lies (w.alloc (.cells #[.string ByteArray.empty, .int .i64 0, .nilIface] 70)) w.heap.size [.string ByteArray.empty, .int .i64 0, .nilIface]) := lies_new _ _ _
  have CA := as_hit s0 p a w.heap.size [.string ByteArray.empty, .int .i64 0, .nilIface] (w.alloc (.cells #[.string ByteArray.empty, .int .i64 0, .nilIface] 70)) (he.below HB0.out).cT HL0.out rfl
  unfold rfv
  clear he
  go_enter Tryd.func28, Tryd.ntmps28
  go_wp2_with fail
  refine CA.mono ?_
  rintro e w1 ⟨rfl, hl1, hg1⟩
  have HB1 : Hid (Below w.heap.size w w1) := HB0.out.grown hg1 HB0.out.size (fun q hq => by injection hq with hq; omega)
  have t0 : w1.cell? ⟨w.heap.size, 0, none⟩ = some (.string s0) := hl1.at 0
  have t1 : w1.cell? ⟨w.heap.size, 1, none⟩ = some (.int .i64 p) := hl1.at 1
  have t2 : w1.cell? ⟨w.heap.size, 2, none⟩ = some (.iface 105 (.pointer (some a))) := hl1.at 2
  have u0 : w1.frozen? ⟨w.heap.size, 0, none⟩ = false := hl1.fr 0
  have HBz : Hid (Below w.heap.size w (w1.setCell ⟨w.heap.size, 0, none⟩ (.string s))) := HB1.out.setCell (Nat.le_refl _) _
  clear hg1 hl1 HL0 HB0
  go_wp2
  go_ret
  exact ⟨rfl, HBz.out⟩
theorem M.all_stepE {zs : List Int} {k : Nat} (hk : k < zs.length) : ((zs.take k).all M.el && M.el (zs.getD k 0)) = (zs.take (k + 1)).all M.el := by
  rw [List.take_succ_eq_append_getElem hk, List.all_append, List.getD_eq_getElem?_getD, List.getElem?_eq_getElem hk]
  simp
def LFPost (n : Nat) (many : Int) (zs : List Int) (aL aN : Addr) (e : Ending) : Prop := ((¬ (n : Int) = many ∧ e = .returned (snv aL)) ∨ ((n : Int) = many ∧ M.allEl zs = true ∧ e = .returned .nilIface) ∨ ((n : Int) = many ∧ M.allEl zs = false ∧ ∃ i : Int, e = .returned (rfv ByteArray.empty i aN)))
theorem elementE_any (a : Int) (w : World) : Calls Tryd.prog 32 #[.int .i64 a] w fun e w' => e = .returned (.tuple #[.int .i64 (if M.el a = true then a else 0), .bool (M.el a)]) ∧ w' = w := by
  cases h : M.el a with
  | true => exact elementOf_in a w ((M.el_iff a).1 h).1 ((M.el_iff a).1 h).2
  | false =>
    refine elementOf_out a w ?_
    rcases Int.lt_or_le a 0 with h0 | h0
    · exact .inl h0
    · rcases Int.lt_or_le a 65537 with h1 | h1
      · rw [(M.el_iff a).2 ⟨h0, h1⟩] at h; cases h
      · exact .inr h1
set_option maxHeartbeats 4000000 in
theorem listFault_any {a : Option Addr} {n c : Nat} {zs : List Int} {aL aN : Addr} (many : Int) (w : World) (he : Env w aL aN) (hz : Sees w a n c zs) : Calls Tryd.prog 27 #[.slice a n c, .int .i64 many] w fun e w' => LFPost n many zs aL aN e ∧ w' = w := by
  have gL := he.cL
  have gN := he.cN
  have bn : (n : Int) ≤ 9223372036854775807 := by have := hz.big; have := hz.le; omega
  by_cases hm : (n : Int) = many
  · subst hm
    have hne : ((n : Int) != (n : Int)) = false := by simp
    have HZ : Hid (Sees w a n c zs) := hz
    clear gL he
    go_enter Tryd.func27, Tryd.ntmps27
    go_wp2
    go_loopw [16] (fun i wr => ∃ k : Nat, k ≤ n ∧ i = .int .i64 k ∧ wr = w ∧ (zs.take k).all M.el = true) (fun i _ => n - (intOf i).toNat)
    case atStart => exact ⟨0, by omega, rfl, rfl, rfl⟩
    case round =>
      obtain ⟨k, hk, rfl, rfl, hall⟩ := hrel
      have HA : Hid ((zs.take k).all M.el = true) := hall
      clear hall
      by_cases hlt : k < n
      · obtain ⟨b1, o1, rfl, hc1⟩ := HZ.out.at (by omega)
        have e1 := hc1 k hlt
        have hI : (k : Int) < (n : Int) := by omega
        have HS : Hid (((zs.take k).all M.el && M.el (zs.getD k 0)) = (zs.take (k + 1)).all M.el) := M.all_stepE (by rw [HZ.out.len]; exact hlt)
        have C1 := elementE_any (zs.getD k 0)
        generalize hx : zs.getD k 0 = x at e1 HS C1
        clear hc1
        cases hel : M.el x with
        | true =>
          rw [hel] at C1 HS
          have HS' : Hid ((zs.take (k + 1)).all M.el = true) := by have h1 := HS.out; rw [HA.out] at h1; exact h1.symm
          clear HS hx hel
          go_wp2_with fail
          refine (C1 _).mono ?_
          rintro e w ⟨rfl, rfl⟩
          go_wp2
          go_roundw
          case rel => exact ⟨k + 1, by omega, by go_num, by simp, HS'.out⟩
          case measure => simp [intOf]; omega
        | false =>
          rw [hel] at C1 HS
          have HS' : Hid ((zs.take (k + 1)).all M.el = false) := by have h1 := HS.out; rw [HA.out] at h1; exact h1.symm
          clear HS hx hel
          go_wp2_with fail
          refine (C1 _).mono ?_
          rintro e w ⟨rfl, rfl⟩
          go_wp2
          go_ret
          refine ⟨.inr (.inr ⟨rfl, ?_, _, rfl⟩), rfl⟩
          have h1 := HS'.out
          cases hz1 : M.allEl zs with
          | false => rfl
          | true =>
            exfalso
            have : (zs.take (k + 1)).all M.el = true := by
              rw [List.all_eq_true] at *
              intro u hu
              exact (List.all_eq_true.1 hz1) u (List.mem_of_mem_take hu)
            rw [this] at h1; cases h1
      · have hkn : k = n := by omega
        have HKN : Hid (M.allEl zs = true) := by
          have h1 := HA.out
          rw [hkn, List.take_of_length_le (by rw [HZ.out.len]; exact Nat.le_refl _)] at h1
          exact h1
        go_wp2
        go_ret
        exact ⟨.inr (.inl ⟨rfl, HKN.out, rfl⟩), rfl⟩
  · have hne : ((n : Int) != many) = true := by simp [hm]
    clear hz he
    go_enter Tryd.func27, Tryd.ntmps27
    go_wp2
    go_ret
    exact ⟨.inl ⟨hm, rfl⟩, rfl⟩
end Go.Proofs.YtbcfjbkmkknmfaaDoor
