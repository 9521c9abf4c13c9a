/- At every list of claims JoinedAll answers as its model, every field; it writes into no argument; a list of more than 2 to the 20 claims is passed by. -/
import Derived.Test.YtjeoenieoejolajRows
import Derived.WalkKit
import Derived.ProofKit
import Derived.OpenShut
import Derived.ShutString
import Derived.ChangeOld
import Derived.Below
import Derived.Test.YtjeoenieoejolajClY
import Derived.Test.YtjeoenieoejolajClU
import Derived.Test.YtjeoenieoejolajLvE
import Derived.Test.YtjeoenieoejolajLvF
namespace Go.Proofs.Ytjeoenieoejolaj.fnExactJoinedAll
open Go.ChangeShapes Go.WideShapes Go.ChangeAt Go.RowKit
set_option linter.unusedVariables false

theorem own : ownKnob Try.prog.godebug = none := by kernel_rfl
theorem laidOut : laidOutB Try.prog = true := by kernel_rfl

set_option maxHeartbeats 8000000 in
set_option maxRecDepth 100000 in
theorem walk (a0 : Option Addr) (len0 cap0 : Nat) (z0 : List M.Cl) (w : World) (hs0 : SeesC w a0 len0 cap0 z0) :
    Calls Try.prog 5 #[.slice a0 len0 cap0] w fun e w' => e = .returned (.bool true) ∧ Below w.heap.size w w' := by
  have HZ : Hid (SeesC w a0 len0 cap0 z0) := hs0
  have bn : (len0 : Int) ≤ 9223372036854775807 := by have := hs0.big; have := hs0.le; omega
  clear hs0
  have CZ := fun W => szClaimS_any a0 len0 cap0 1048576 W bn (by omega) (by omega)
  by_cases hbig : (1048576 : Int) - (len0 : Int) < 0
  · rw [if_pos hbig] at CZ
    go_enter Try.func5, Try.ntmps5
    go_wp2_with fail
    refine (CZ _).mono ?_
    rintro e w1 ⟨rfl, rfl⟩
    go_wp2
    go_ret
    exact ⟨rfl, Below.refl _ _⟩
  · rw [if_neg hbig] at CZ
    have hn : len0 ≤ 1048576 := by omega
    have CS : Hid (∀ (a : Option Addr) (W : World), SeesC W a len0 len0 z0 → Calls Try.prog 15 #[.slice a len0 len0] W fun e w' => e = .returned (.tuple #[clv (M.allv z0), .bool (M.allOk z0)]) ∧ Below W.heap.size W w') := fun a W h => specJoinedAll_any W h
    have CI : Hid (∀ (a : Option Addr) (W : World), SeesC W a len0 len0 z0 → Calls Try.prog 17 #[.slice a len0 len0] W fun e w' => e = .returned (.tuple #[clv (M.allv z0), .bool (M.allOk z0)]) ∧ Below W.heap.size W w') := fun a W h => implJoinedAll_any W h
    have CE := eqClaim_same (M.allv z0)
    generalize M.allv z0 = q at CS CI CE
    generalize M.allOk z0 = o at CS CI
    obtain ⟨⟨s1, s2⟩, ⟨t1, t2⟩, st⟩ := q
    dsimp only [clv] at CS CI CE
    have n1 : (o != o) = false := by simp
    go_enter Try.func5, Try.ntmps5
    go_wp2_with fail
    refine (CZ _).mono ?_
    rintro e w ⟨rfl, rfl⟩
    go_wp2_with fail
    refine (toClaimS_any w HZ.out hn).mono ?_
    rintro e w2 ⟨x2, rfl, hx2, hb2⟩
    have HB2 : Hid (Below w.heap.size w w2) := hb2
    go_wp2_with fail
    refine (CS.out _ _ hx2).mono ?_
    rintro e w3 ⟨rfl, hb3⟩
    have HB3 : Hid (Below w.heap.size w (w3.alloc (.cells #[.int .i64 s1, .int .i64 s2, .int .i64 t1, .int .i64 t2, .int .i64 st] 37))) := (HB2.out.trans (hb3.mono HB2.out.size)).alloc (Nat.le_trans HB2.out.size hb3.size) _
    have LQ3 : Hid (Lies (w3.alloc (.cells #[.int .i64 s1, .int .i64 s2, .int .i64 t1, .int .i64 t2, .int .i64 st] 37)) w3.heap.size [.int .i64 s1, .int .i64 s2, .int .i64 t1, .int .i64 t2, .int .i64 st]) := lies_new _ _ _
    clear hx2 hb2 hb3 HB2
    go_wp2_with fail
    refine (toClaimS_any _ (HZ.out.below HB3.out) hn).mono ?_
    rintro e w4 ⟨x4, rfl, hx4, hb4⟩
    have HB4 : Hid (Below w.heap.size w w4) := HB3.out.trans (hb4.mono HB3.out.size)
    have LQ4 : Hid (Lies w4 w3.heap.size [.int .i64 s1, .int .i64 s2, .int .i64 t1, .int .i64 t2, .int .i64 st]) := LQ3.out.belowS hb4
    have HX4 : Hid (SeesC w4 x4 len0 len0 z0) := hx4
    clear hx4 hb4 HB3 LQ3
    go_wp2_with fail
    refine (CI.out _ _ HX4.out).mono ?_
    rintro e w5 ⟨rfl, hb5⟩
    have HB5 : Hid (Below w.heap.size w (w5.alloc (.cells #[.int .i64 s1, .int .i64 s2, .int .i64 t1, .int .i64 t2, .int .i64 st] 37))) := (HB4.out.trans (hb5.mono HB4.out.size)).alloc (Nat.le_trans HB4.out.size hb5.size) _
    have LA5 : Hid (Lies (w5.alloc (.cells #[.int .i64 s1, .int .i64 s2, .int .i64 t1, .int .i64 t2, .int .i64 st] 37)) w3.heap.size [.int .i64 s1, .int .i64 s2, .int .i64 t1, .int .i64 t2, .int .i64 st]) := (LQ4.out.belowS hb5).alloc _
    have LB5 : Hid (Lies (w5.alloc (.cells #[.int .i64 s1, .int .i64 s2, .int .i64 t1, .int .i64 t2, .int .i64 st] 37)) w5.heap.size [.int .i64 s1, .int .i64 s2, .int .i64 t1, .int .i64 t2, .int .i64 st]) := lies_new _ _ _
    have HX5 : Hid (SeesC (w5.alloc (.cells #[.int .i64 s1, .int .i64 s2, .int .i64 t1, .int .i64 t2, .int .i64 st] 37)) x4 len0 len0 z0) := (HX4.out.below hb5).below ((Below.refl _ _).alloc (Nat.le_refl _) _)
    clear hb5 HB4 LQ4 HX4
    have p0 : (w5.alloc (.cells #[.int .i64 s1, .int .i64 s2, .int .i64 t1, .int .i64 t2, .int .i64 st] 37)).cell? ⟨w3.heap.size, 0, none⟩ = some (.int .i64 s1) := LA5.out.at 0
    have r0 : (w5.alloc (.cells #[.int .i64 s1, .int .i64 s2, .int .i64 t1, .int .i64 t2, .int .i64 st] 37)).cell? ⟨w5.heap.size, 0, none⟩ = some (.int .i64 s1) := LB5.out.at 0
    have p1 : (w5.alloc (.cells #[.int .i64 s1, .int .i64 s2, .int .i64 t1, .int .i64 t2, .int .i64 st] 37)).cell? ⟨w3.heap.size, 1, none⟩ = some (.int .i64 s2) := LA5.out.at 1
    have r1 : (w5.alloc (.cells #[.int .i64 s1, .int .i64 s2, .int .i64 t1, .int .i64 t2, .int .i64 st] 37)).cell? ⟨w5.heap.size, 1, none⟩ = some (.int .i64 s2) := LB5.out.at 1
    have p2 : (w5.alloc (.cells #[.int .i64 s1, .int .i64 s2, .int .i64 t1, .int .i64 t2, .int .i64 st] 37)).cell? ⟨w3.heap.size, 2, none⟩ = some (.int .i64 t1) := LA5.out.at 2
    have r2 : (w5.alloc (.cells #[.int .i64 s1, .int .i64 s2, .int .i64 t1, .int .i64 t2, .int .i64 st] 37)).cell? ⟨w5.heap.size, 2, none⟩ = some (.int .i64 t1) := LB5.out.at 2
    have p3 : (w5.alloc (.cells #[.int .i64 s1, .int .i64 s2, .int .i64 t1, .int .i64 t2, .int .i64 st] 37)).cell? ⟨w3.heap.size, 3, none⟩ = some (.int .i64 t2) := LA5.out.at 3
    have r3 : (w5.alloc (.cells #[.int .i64 s1, .int .i64 s2, .int .i64 t1, .int .i64 t2, .int .i64 st] 37)).cell? ⟨w5.heap.size, 3, none⟩ = some (.int .i64 t2) := LB5.out.at 3
    have p4 : (w5.alloc (.cells #[.int .i64 s1, .int .i64 s2, .int .i64 t1, .int .i64 t2, .int .i64 st] 37)).cell? ⟨w3.heap.size, 4, none⟩ = some (.int .i64 st) := LA5.out.at 4
    have r4 : (w5.alloc (.cells #[.int .i64 s1, .int .i64 s2, .int .i64 t1, .int .i64 t2, .int .i64 st] 37)).cell? ⟨w5.heap.size, 4, none⟩ = some (.int .i64 st) := LB5.out.at 4
    go_wp2_with fail
    refine (CE _).mono ?_
    rintro e w6 ⟨rfl, hb6⟩
    have HB6 : Hid (Below w.heap.size w w6) := HB5.out.trans (hb6.mono HB5.out.size)
    have HX6 : Hid (SeesC w6 x4 len0 len0 z0) := HX5.out.below hb6
    clear hb6 HB5 HX5 LA5 LB5 p0 p1 p2 p3 p4 r0 r1 r2 r3 r4
    go_wp2_with fail
    refine (toClaimS_any _ (HZ.out.below HB6.out) hn).mono ?_
    rintro e w7 ⟨x7, rfl, hx7, hb7⟩
    have HB7 : Hid (Below w.heap.size w w7) := HB6.out.trans (hb7.mono HB6.out.size)
    have HX7 : Hid (SeesC w7 x4 len0 len0 z0) := HX6.out.below hb7
    have HY7 : Hid (SeesC w7 x7 len0 len0 z0) := hx7
    clear hx7 hb7 HB6 HX6
    go_wp2_with fail
    refine (eqC_same _ HX7.out HY7.out).mono ?_
    rintro e w8 ⟨rfl, hb8⟩
    have HB8 : Hid (Below w.heap.size w w8) := HB7.out.trans (hb8.mono HB7.out.size)
    clear hb8
    go_wp2
    go_ret
    exact ⟨rfl, HB8.out⟩

set_option maxRecDepth 100000 in
theorem lifted (os : Os) (started : os.Started) (H : Type) (enc : TypeId × Value → H) :
    ReturnsInHanded {} Try.checked os 5 .any (Rows.fnExactJoinedAllSpec.pre6 enc Try.prog Try.f5 Rows.fnExactJoinedAllRow.domain false) (Rows.fnExactJoinedAllSpec.post enc Try.prog Try.f5 false true false false) := by
  refine returnsInHanded_of_change (C := Try.checked) own started (by kernel_rfl) Try.func5
    (ChangeSpec.witness6 (enc := enc) (C := Try.checked) false ⟨#[], #[.slice none 0 0], []⟩ 8 (by kernel_rfl) (by kernel_rfl) (by kernel_rfl) (by kernel_rfl)) ?_
  intro W base args ds gs before hval0 hW hcnd _
  have hval : ∀ (j : Nat) t v, Try.f5.params[j]? = some t → args[j]? = some v → Value.okWide Try.prog W .any base t v := hval0
  have hW' := hW
  obtain ⟨p, q, hA0, hV, rfl, hfz, hnd⟩ := hW
  have hA : DataW.TrodAll enc Try.prog W 0 (fun _ => true) true Try.f5.params.toList args.toList ds p := hA0
  rw [Try.params5] at hA hval
  obtain ⟨v0, vs0, d0, ds0, p0, q0, hargs, rfl, rfl, h0, r0⟩ := trodAll_cons hA
  obtain ⟨rfl, rfl, rfl⟩ := trodAll_nil r0
  obtain rfl : args = #[v0] := by cases args; simp_all
  obtain ⟨rfl, rfl⟩ := trodVars_none hV
  obtain ⟨a0, len0, cap0, rfl⟩ := okWide_slice Try.underlying44 (hval 0 44 v0 rfl rfl)
  have k0 := h0
  have lt0 : ∀ x ∈ p0, x.block < W.heap.size := by obtain ⟨m, hm⟩ := k0; exact DataW.trod_lt m _ _ _ hm
  obtain ⟨z0, hs0⟩ := open_claims h0
  clear hA0 hval0
  refine (walk a0 len0 cap0 z0 W hs0).mono fun e W' ⟨he, bel⟩ => ?_
  subst he
  exact ⟨_, rfl, _, _, _, [], _, [], hW', trodAll_mk1 (shut_bool Try.underlying4 _), (trodAll_cons_mk (Below.trod laidOut (by kernel_rfl) (of_decide_eq_true (by kernel_rfl)) k0 bel lt0) trodAll_mk0), rfl, bel.frame _, fun h => by cases h⟩

theorem over : Rows.fnExactJoinedAllRow.holds Try.pinned (OpenSpec.ofChange Rows.fnExactJoinedAllSpec) :=
  OpenClaim.holds_of_wide 5 Try.f5 rfl rfl rfl rfl rfl rfl rfl ⟨rfl, rfl, rfl, rfl, rfl⟩ rfl rfl rfl rfl rfl (by kernel_rfl) Try.func5 (by kernel_rfl)
    (of_decide_eq_true (by kernel_rfl)) (by unfold Func.isWrapper; first | (rw [if_pos (by decide +kernel)]; kernel_rfl) | (rw [if_neg (by decide +kernel)]; exact ⟨rfl, rfl⟩))
    (fun os started H enc _ => lifted os started H enc)

theorem proved : Rows.FnExactJoinedAllSaid := over
end Go.Proofs.Ytjeoenieoejolaj.fnExactJoinedAll
namespace Go.Proofs.Ytjeoenieoejolaj
theorem fnExactJoinedAll_holds : Rows.FnExactJoinedAllSaid := fnExactJoinedAll.proved
#print axioms fnExactJoinedAll_holds
end Go.Proofs.Ytjeoenieoejolaj
