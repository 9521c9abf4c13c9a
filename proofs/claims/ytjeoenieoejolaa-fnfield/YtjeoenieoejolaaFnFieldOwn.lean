/- For every code that is handed in the law FnField returns true: sums and products are in whatever order, products of sums are sums of products, and what is taken away and put back is as it was, with no condition on the input. -/
import Derived.Test.YtjeoenieoejolaaRows
import Derived.WalkKit
import Derived.ProofKit
import Derived.OpenShut
import Derived.ShutString
import Derived.ChangeOld
import Derived.Below
import Derived.Test.YtjeoenieoejolaaFieldC
import Derived.Test.YtjeoenieoejolaaFieldMath
import Derived.Test.YtjeoenieoejolaaRdA
namespace Go.Proofs.Ytjeoenieoejolaa.fnField
open Go.ChangeShapes Go.WideShapes Go.ChangeAt Go.RowKit
open Go.ChangeMaps (open_string shut_string)
set_option linter.unusedVariables false

theorem own : ownKnob Try.prog.godebug = none := by kernel_rfl
theorem laidOut : laidOutB Try.prog = true := by kernel_rfl

def IsRow (k : IntKind) (w : World) (a : Option Addr) (len cap : Nat) (zs : List Int) : Prop :=
  (a = none ∧ len = 0 ∧ cap = 0 ∧ zs = []) ∨
  ∃ x, a = some x ∧ len ≤ cap ∧ cap ≤ maxLen ∧ zs.length = cap ∧ (∀ i, i < zs.length → w.cell? (x.add i) = some (.int k (zs.getD i 0))) ∧ ∀ n ∈ zs, (Lit.int k n).wf = true

set_option maxHeartbeats 8000000 in
set_option maxRecDepth 100000 in
theorem walk (a0 : Option Addr) (len0 cap0 : Nat) (z0 : List Int) (w : World) (w0 : IsRow .u8 w a0 len0 cap0 z0) :
    Calls Try.prog 3 #[.slice a0 len0 cap0] w fun e w' => e = .returned (.bool true) ∧ Below w.heap.size w w' := by
  have hrow : Row .u8 w a0 len0 cap0 z0 := w0
  clear w0
  by_cases hbig : (1048576 : Int) < (len0 : Int)
  · go_enter Try.func3, Try.ntmps3
    go_wp2_with fail
    refine (big_any _ _ _ _).mono ?_
    rintro e w' ⟨rfl, rfl⟩
    go_wp2
    go_ret
    exact ⟨rfl, Below.refl _ _⟩
  · have HR : Hid (Row .u8 w a0 len0 cap0 z0) := hrow
    have hb : decide ((1048576 : Int) < (len0 : Int)) = false := by simpa using hbig
    clear hrow
    go_enter Try.func3, Try.ntmps3
    go_wp2_with fail
    refine (big_any _ _ _ _).mono ?_
    rintro e w ⟨rfl, rfl⟩
    go_wp2_with fail
    refine (drawAdd_any _ HR.out).mono ?_
    rintro e w1 ⟨a, b, ax0, ax1, bx0, bx1, rfl, hbel⟩
    have HB : Hid (Below w.heap.size w w1) := hbel
    clear hbel HR ax0 ax1 bx0 bx1
    have n1 : (M.add a b != M.add a b) = false := by simp
    have n2 : (M.mul a b != M.mul a b) = false := by simp
    have n3 : (M.sub a b != M.sub a b) = false := by simp
    by_cases hin : M.el a = true ∧ M.el b = true
    · obtain ⟨ha, hb'⟩ := hin
      have hlen0 : (0 : Int) ≤ (len0 : Int) := by omega
      have hc : M.el ((len0 : Int) % 65537) = true := M.el_mod _
      have t1 : (M.mul ((len0 : Int) % 65537) (M.add a b) != M.add (M.mul ((len0 : Int) % 65537) a) (M.mul ((len0 : Int) % 65537) b)) = false := by rw [M.mul_add' ha hb' hc]; simp
      have t2 : (M.add (M.add a b) ((len0 : Int) % 65537) != M.add a (M.add b ((len0 : Int) % 65537))) = false := by rw [M.add_assoc' ha hb' hc]; simp
      have t3 : (M.mul (M.mul a b) ((len0 : Int) % 65537) != M.mul a (M.mul b ((len0 : Int) % 65537))) = false := by rw [M.mul_assoc' ha hb' hc]; simp
      have u1 : (M.add (M.sub a b) b == a) = true := by rw [M.sub_add' ha hb']; simp
      have u2 : (M.add b a == M.add a b) = true := by rw [M.add_comm' a b]; simp
      have u3 : (M.mul b a == M.mul a b) = true := by rw [M.mul_comm' a b]; simp
      have u4 : M.el (M.add a b) = true := M.el_add ha hb'
      have u5 : M.el (M.mul a b) = true := M.el_mul ha hb'
      have u6 : M.el (M.sub a b) = true := M.el_sub ha hb'
      have u7 : (M.add a 0 == a) = true := by rw [M.add_zero' ha]; simp
      have u8 : (M.mul a 1 == a) = true := by rw [M.mul_one' ha]; simp
      clear hc
      go_wp2_with (first
        | (go_at_call 11; refine (implAdd_any _ _ _).mono ?_; rintro e w' ⟨rfl, rfl⟩)
        | (go_at_call 12; refine (implMul_any _ _ _).mono ?_; rintro e w' ⟨rfl, rfl⟩)
        | (go_at_call 13; refine (implSub_any _ _ _).mono ?_; rintro e w' ⟨rfl, rfl⟩)
        | (go_at_call 14; refine (specAdd_any _ _ _).mono ?_; rintro e w' ⟨rfl, rfl⟩)
        | (go_at_call 15; refine (specMul_any _ _ _).mono ?_; rintro e w' ⟨rfl, rfl⟩)
        | (go_at_call 16; refine (specSub_any _ _ _).mono ?_; rintro e w' ⟨rfl, rfl⟩)
        | (go_at_call 17; refine (in_any _ _).mono ?_; rintro e w' ⟨rfl, rfl⟩))
      go_ret
      exact ⟨rfl, HB.out⟩
    · have e1 : (M.add a b == M.add a b) = true := by simp
      have e2 : (M.mul a b == M.mul a b) = true := by simp
      have e3 : (M.sub a b == M.sub a b) = true := by simp
      have e4 : (M.add a b == -1) = true := by
        have : M.add a b = -1 := by simp only [M.add, if_neg hin]
        rw [this]; rfl
      cases ha : M.el a with
      | false =>
        clear hin
        go_wp2_with (first
          | (go_at_call 11; refine (implAdd_any _ _ _).mono ?_; rintro e w' ⟨rfl, rfl⟩)
          | (go_at_call 12; refine (implMul_any _ _ _).mono ?_; rintro e w' ⟨rfl, rfl⟩)
          | (go_at_call 13; refine (implSub_any _ _ _).mono ?_; rintro e w' ⟨rfl, rfl⟩)
          | (go_at_call 14; refine (specAdd_any _ _ _).mono ?_; rintro e w' ⟨rfl, rfl⟩)
          | (go_at_call 15; refine (specMul_any _ _ _).mono ?_; rintro e w' ⟨rfl, rfl⟩)
          | (go_at_call 16; refine (specSub_any _ _ _).mono ?_; rintro e w' ⟨rfl, rfl⟩)
          | (go_at_call 17; refine (in_any _ _).mono ?_; rintro e w' ⟨rfl, rfl⟩))
        go_ret
        exact ⟨rfl, HB.out⟩
      | true =>
        have hb' : M.el b = false := by
          cases h : M.el b with
          | false => rfl
          | true => exact absurd ⟨ha, h⟩ hin
        clear hin
        go_wp2_with (first
          | (go_at_call 11; refine (implAdd_any _ _ _).mono ?_; rintro e w' ⟨rfl, rfl⟩)
          | (go_at_call 12; refine (implMul_any _ _ _).mono ?_; rintro e w' ⟨rfl, rfl⟩)
          | (go_at_call 13; refine (implSub_any _ _ _).mono ?_; rintro e w' ⟨rfl, rfl⟩)
          | (go_at_call 14; refine (specAdd_any _ _ _).mono ?_; rintro e w' ⟨rfl, rfl⟩)
          | (go_at_call 15; refine (specMul_any _ _ _).mono ?_; rintro e w' ⟨rfl, rfl⟩)
          | (go_at_call 16; refine (specSub_any _ _ _).mono ?_; rintro e w' ⟨rfl, rfl⟩)
          | (go_at_call 17; refine (in_any _ _).mono ?_; rintro e w' ⟨rfl, rfl⟩))
        go_ret
        exact ⟨rfl, HB.out⟩

set_option maxRecDepth 100000 in
theorem lifted (os : Os) (started : os.Started) (H : Type) (enc : TypeId × Value → H) :
    ReturnsInHanded {} Try.checked os 3 .any (Rows.fnFieldSpec.pre6 enc Try.prog Try.f3 Rows.fnFieldRow.domain false) (Rows.fnFieldSpec.post enc Try.prog Try.f3 false true false false) := by
  refine returnsInHanded_of_change (C := Try.checked) own started (by kernel_rfl) Try.func3
    (ChangeSpec.witness6 (enc := enc) (C := Try.checked) false ⟨#[], #[.slice none 0 0], []⟩ 8 (by kernel_rfl) (by kernel_rfl) (by kernel_rfl) (by kernel_rfl)) ?_
  intro W base args ds gs before hval0 hW hcnd _
  have hval : ∀ (j : Nat) t v, Try.f3.params[j]? = some t → args[j]? = some v → Value.okWide Try.prog W .any base t v := hval0
  have hW' := hW
  obtain ⟨p, q, hA0, hV, rfl, hfz, hnd⟩ := hW
  have hA : DataW.TrodAll enc Try.prog W 0 (fun _ => true) true Try.f3.params.toList args.toList ds p := hA0
  rw [Try.params3] at hA hval
  obtain ⟨v0, vs0, d0, ds0, p0, q0, hargs, rfl, rfl, h0, r0⟩ := trodAll_cons hA
  obtain ⟨rfl, rfl, rfl⟩ := trodAll_nil r0
  obtain rfl : args = #[v0] := by cases args; simp_all
  obtain ⟨rfl, rfl⟩ := trodVars_none hV
  obtain ⟨a0, len0, cap0, rfl⟩ := okWide_slice Try.underlying22 (hval 0 22 v0 rfl rfl)
  have k0 := h0
  have lt0 : ∀ x ∈ p0, x.block < W.heap.size := by obtain ⟨m, hm⟩ := k0; exact DataW.trod_lt m _ _ _ hm
  obtain ⟨z0, w0⟩ : ∃ zs, IsRow .u8 W a0 len0 cap0 zs := by
    obtain ⟨fuel, hf⟩ := h0
    rcases open_ints Try.underlying22 Try.underlying5 (by kernel_rfl) hf with ⟨hcs, _⟩ | ⟨x, l, c, zs, hcs, _, hl, hm, hz, _, hcell, hwz⟩
    · simp [Value.cells] at hcs
      obtain ⟨rfl, rfl, rfl⟩ := hcs
      exact ⟨[], .inl ⟨rfl, rfl, rfl, rfl⟩⟩
    · simp [Value.cells] at hcs
      obtain ⟨rfl, rfl, rfl⟩ := hcs
      exact ⟨zs, .inr ⟨_, rfl, hl, hm, by simpa using hz, hcell, hwz⟩⟩
  clear hA0 hval0
  refine (walk a0 len0 cap0 z0 W w0).mono fun e W' ⟨he, bel⟩ => ?_
  subst he
  exact ⟨_, rfl, _, _, _, [], _, [], hW', trodAll_mk1 (shut_bool Try.underlying4 _), (trodAll_cons_mk (Below.trod laidOut (by kernel_rfl) (of_decide_eq_true (by kernel_rfl)) k0 bel lt0) trodAll_mk0), rfl, bel.frame _, fun h => by cases h⟩

theorem over : Rows.fnFieldRow.holds Try.pinned (OpenSpec.ofChange Rows.fnFieldSpec) :=
  OpenClaim.holds_of_wide 3 Try.f3 rfl rfl rfl rfl rfl rfl rfl ⟨rfl, rfl, rfl, rfl, rfl⟩ rfl rfl rfl rfl rfl (by kernel_rfl) Try.func3 (by kernel_rfl)
    (of_decide_eq_true (by kernel_rfl)) (by unfold Func.isWrapper; first | (rw [if_pos (by decide +kernel)]; kernel_rfl) | (rw [if_neg (by decide +kernel)]; exact ⟨rfl, rfl⟩))
    (fun os started H enc _ => lifted os started H enc)

theorem proved : Rows.FnFieldSaid := over
end Go.Proofs.Ytjeoenieoejolaa.fnField
namespace Go.Proofs.Ytjeoenieoejolaa
theorem fnField_holds : Rows.FnFieldSaid := fnField.proved
#print axioms fnField_holds
end Go.Proofs.Ytjeoenieoejolaa
