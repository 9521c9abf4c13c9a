/- errors.Is and errors.As of the refusals: Go's own text of both is walked, for nil, for a refusal that wraps a sentinel, for a bare sentinel. errors.As at a target of the refusals' type: a bare sentinel does not fit and nothing turns; a refusal fits and the target gets it. errors.As at a refusal: the target gets it. The places of the refusals' parts, and what a call must find of the package's variables. -/
import Derived.Test.YtbcfjbkmkknmfaaDoorChecked
import Derived.WalkKit
import Derived.LaidEql
import Derived.Stop.Asserts
import Derived.RowKitTokens
import Derived.Below
import Derived.Test.YtbcfjbkmkknmfaaDoorLiA
namespace Go.Proofs.YtbcfjbkmkknmfaaDoor
open Go.RowKit Go.Extern.Stop Go.Stop Go.Extern

theorem Tryd.isTypeOf (v : Value) (w : World) : (Extern.ReflectliteType.typeOf #[.iface 105 v]).run Tryd.prog w = .ok (.iface 78 (.agg #[.pointer (some ⟨3, 105, none⟩)])) w := by kernel_rfl
theorem Tryd.callComparable (w : World) : (callFunc 65 #[.agg #[.pointer (some ⟨3, 105, none⟩)]]).run Tryd.prog w = .ok (.value (.bool true)) w := by kernel_rfl
theorem Tryd.isMethodComparable (fuel : Nat) (v : Value) (w : World) : (Go.method (fuel + 1) 78 v "Comparable").run Tryd.prog w = .ok (65, v) w := by kernel_rfl
theorem Tryd.isComp : (Tryd.prog.info? 105).map (·.comparable) = some true := by kernel_rfl
theorem Tryd.isSize : (Tryd.prog.info? 129).map (·.size) = some 1 := by kernel_rfl
theorem Tryd.noIsE (v : Value) (xT : TypeId) (w : World) : (Instr.typeAssert (.iface 105 v) xT 80 true).run Tryd.prog w = .ok (.tuple #[.nilIface, .bool false]) w := run_typeAssert_lacksB Tryd.underlying80 (by kernel_rfl) (by kernel_rfl) v xT w
theorem Tryd.noUnwrapE (v : Value) (xT : TypeId) (w : World) : (Instr.typeAssert (.iface 105 v) xT 83 true).run Tryd.prog w = .ok (.tuple #[.nilIface, .bool false]) w := run_typeAssert_lacksB Tryd.underlying83 (by kernel_rfl) (by kernel_rfl) v xT w
theorem Tryd.noUnwrapsE (v : Value) (xT : TypeId) (w : World) : (Instr.typeAssert (.iface 105 v) xT 85 true).run Tryd.prog w = .ok (.tuple #[.nilIface, .bool false]) w := run_typeAssert_lacksB Tryd.underlying85 (by kernel_rfl) (by kernel_rfl) v xT w
theorem Tryd.noIsR (v : Value) (xT : TypeId) (w : World) : (Instr.typeAssert (.iface 70 v) xT 80 true).run Tryd.prog w = .ok (.tuple #[.nilIface, .bool false]) w := run_typeAssert_lacksB Tryd.underlying80 (by kernel_rfl) (by kernel_rfl) v xT w
theorem Tryd.hasUnwrapR (v : Value) (xT : TypeId) (w : World) : (Instr.typeAssert (.iface 70 v) xT 83 true).run Tryd.prog w = .ok (.tuple #[.iface 70 v, .bool true]) w := run_typeAssert_hasB Tryd.underlying83 (by kernel_rfl) v xT w
theorem Tryd.methodUnwrap (fuel : Nat) (a b c : Value) (w : World) : (Go.method (fuel + 1) 70 (.agg #[a, b, c]) "Unwrap").run Tryd.prog w = .ok (61, .agg #[a, b, c]) w := by kernel_rfl
/-- errors.Is(nil, x). -/
theorem is_nil (b : Addr) (w : World) :
    Calls Tryd.prog 25 #[.nilIface, .iface 105 (.pointer (some b))] w fun e w' => e = .returned (.bool false) ∧ w' = w := by
  have hn := run_eql_iface_nil_left (P := Tryd.prog) w 105 (.pointer (some b)) Tryd.underlying47
  go_enter Tryd.func25, Tryd.ntmps25
  go_wp2
  go_ret
  exact ⟨rfl, rfl⟩
set_option maxHeartbeats 4000000 in
/-- errors.Is(r, x), r a refusal that wraps x. -/
theorem is_ref_same (s : ByteArray) (p : Int) (b : Addr) (w : World) :
    Calls Tryd.prog 25 #[.iface 70 (.agg #[.string s, .int .i64 p, .iface 105 (.pointer (some b))]), .iface 105 (.pointer (some b))] w fun e w' => e = .returned (.bool true) ∧ Below w.heap.size w w' := by
  obtain ⟨i, hi, hcmp⟩ := Option.map_eq_some_iff.1 Tryd.isComp
  obtain ⟨j, hj, hjs⟩ := Option.map_eq_some_iff.1 Tryd.isSize
  have h8 := @run_callFunc_extern Tryd.prog 30 _ Extern.ReflectliteType.typeOf Tryd.func30 (by kernel_rfl) (by kernel_rfl) (by kernel_rfl) (by kernel_rfl)
  have h32 := Tryd.callComparable
  have tT := Tryd.isTypeOf
  have mR := Tryd.isMethodComparable
  have nR := Tryd.noIsR
  have uR := Tryd.hasUnwrapR
  have mU := Tryd.methodUnwrap
  have heq := fun W => run_eql_iface_ptr_same (P := Tryd.prog) W b Tryd.underlying47 Tryd.underlying105 hi hcmp hj
  have hty := fun W => run_eql_iface_types (P := Tryd.prog) 70 105 (.agg #[.string s, .int .i64 p, .iface 105 (.pointer (some b))]) (.pointer (some b)) Tryd.underlying47 (by decide) W
  have HB : Hid (Below w.heap.size w (w.alloc (.cells #[.string s, .int .i64 p, .iface 105 (.pointer (some b))] 70))) := (Below.refl _ _).alloc (Nat.le_refl _) _
  go_enter Tryd.func25, Tryd.ntmps25
  go_wp2
  refine wp_loop_rounds 2 ?_
  rw [rounds_succ]
  go_wp2
  rw [rounds_succ]
  go_wp2
  go_ret
  exact ⟨rfl, HB.out⟩
set_option maxHeartbeats 4000000 in
/-- errors.Is(r, x), r a refusal that wraps another sentinel. -/
theorem is_ref_other (s : ByteArray) (p : Int) (a b : Addr) (ca cb : Array Value) (ta tb : TypeId) (w : World) (hne : a ≠ b) (ha : w.heap[a.block]? = some (.cells ca ta (0, 0))) (hb : w.heap[b.block]? = some (.cells cb tb (0, 0))) :
    Calls Tryd.prog 25 #[.iface 70 (.agg #[.string s, .int .i64 p, .iface 105 (.pointer (some a))]), .iface 105 (.pointer (some b))] w fun e w' => e = .returned (.bool false) ∧ Below w.heap.size w w' := by
  obtain ⟨i, hi, hcmp⟩ := Option.map_eq_some_iff.1 Tryd.isComp
  obtain ⟨j, hj, hjs⟩ := Option.map_eq_some_iff.1 Tryd.isSize
  have h8 := @run_callFunc_extern Tryd.prog 30 _ Extern.ReflectliteType.typeOf Tryd.func30 (by kernel_rfl) (by kernel_rfl) (by kernel_rfl) (by kernel_rfl)
  have h32 := Tryd.callComparable
  have tT := Tryd.isTypeOf
  have mR := Tryd.isMethodComparable
  have nR := Tryd.noIsR
  have uR := Tryd.hasUnwrapR
  have nE := Tryd.noIsE
  have uE := Tryd.noUnwrapE
  have vE := Tryd.noUnwrapsE
  have mU := Tryd.methodUnwrap
  have HB : Hid (Below w.heap.size w (w.alloc (.cells #[.string s, .int .i64 p, .iface 105 (.pointer (some a))] 70))) := (Below.refl _ _).alloc (Nat.le_refl _) _
  have lt : ∀ {g : Nat} {o : Obj}, w.heap[g]? = some o → g < w.heap.size := fun {g o} h => by
    rcases Nat.lt_or_ge g w.heap.size with h' | h'
    · exact h'
    · rw [Array.getElem?_eq_none h'] at h; cases h
  have heq := run_eql_iface_ptr_other (P := Tryd.prog) (w.alloc (.cells #[.string s, .int .i64 p, .iface 105 (.pointer (some a))] 70)) Tryd.underlying47 Tryd.underlying105 hi hcmp hj (by rw [hjs]; decide) hne ((Below.heap_alloc w _ _ (lt ha)).trans ha) ((Below.heap_alloc w _ _ (lt hb)).trans hb)
  have hty := fun W => run_eql_iface_types (P := Tryd.prog) 70 105 (.agg #[.string s, .int .i64 p, .iface 105 (.pointer (some a))]) (.pointer (some b)) Tryd.underlying47 (by decide) W
  clear lt ha hb
  go_enter Tryd.func25, Tryd.ntmps25
  go_wp2
  refine wp_loop_rounds 2 ?_
  rw [rounds_succ]
  go_wp2
  rw [rounds_succ]
  go_wp2
  go_ret
  exact ⟨rfl, HB.out⟩
end Go.Proofs.YtbcfjbkmkknmfaaDoor
namespace Go.Proofs.YtbcfjbkmkknmfaaDoor
open Go.RowKit Go.Extern.Stop Go.Stop Go.Extern

theorem Tryd.asValueOf (t : Addr) (w : World) : (callFunc 35 #[.iface 72 (.pointer (some t))]).run Tryd.prog w = .ok (.value (.agg #[.pointer (some ⟨3, 72, none⟩), .pointer (some ⟨w.heap.size, 0, none⟩), .int .u64 150])) (w.alloc (.cells #[.pointer (some t)] 72)) := by kernel_rfl
theorem Tryd.asType (a : Addr) (w : World) : (callFunc 36 #[.agg #[.pointer (some ⟨3, 72, none⟩), .pointer (some a), .int .u64 150]]).run Tryd.prog w = .ok (.value (.iface 78 (.agg #[.pointer (some ⟨3, 72, none⟩)]))) w := by kernel_rfl
theorem Tryd.asMKind (fuel : Nat) (h : Value) (w : World) : (Go.method (fuel + 1) 78 (.agg #[h]) "Kind").run Tryd.prog w = .ok (56, h) w := by kernel_rfl
theorem Tryd.asKindP (w : World) : (callFunc 56 #[.pointer (some ⟨3, 72, none⟩)]).run Tryd.prog w = .ok (.value (.int .u8 22)) w := by kernel_rfl
theorem Tryd.asKindR (w : World) : (callFunc 56 #[.pointer (some ⟨3, 70, none⟩)]).run Tryd.prog w = .ok (.value (.int .u8 25)) w := by kernel_rfl
theorem Tryd.asMElem (fuel : Nat) (h : Value) (w : World) : (Go.method (fuel + 1) 78 (.agg #[h]) "Elem").run Tryd.prog w = .ok (66, .agg #[h]) w := by kernel_rfl
theorem Tryd.asElem (w : World) : (callFunc 66 #[.agg #[.pointer (some ⟨3, 72, none⟩)]]).run Tryd.prog w = .ok (.value (.iface 78 (.agg #[.pointer (some ⟨3, 70, none⟩)]))) w := by kernel_rfl
theorem Tryd.asMImpl (fuel : Nat) (h : Value) (w : World) : (Go.method (fuel + 1) 78 (.agg #[h]) "Implements").run Tryd.prog w = .ok (67, .agg #[h]) w := by kernel_rfl
theorem Tryd.asImpl (w : World) : (callFunc 67 #[.agg #[.pointer (some ⟨3, 70, none⟩)], .iface 78 (.agg #[.pointer (some ⟨3, 47, none⟩)])]).run Tryd.prog w = .ok (.value (.bool true)) w := by kernel_rfl
theorem Tryd.asTypeOfR (v : Value) (w : World) : (callFunc 30 #[.iface 70 v]).run Tryd.prog w = .ok (.value (.iface 78 (.agg #[.pointer (some ⟨3, 70, none⟩)]))) w := by kernel_rfl
theorem Tryd.asTypeOfE (v : Value) (w : World) : (callFunc 30 #[.iface 105 v]).run Tryd.prog w = .ok (.value (.iface 78 (.agg #[.pointer (some ⟨3, 105, none⟩)]))) w := by kernel_rfl
theorem Tryd.asMAsg (fuel : Nat) (h : Value) (w : World) : (Go.method (fuel + 1) 78 (.agg #[h]) "AssignableTo").run Tryd.prog w = .ok (64, .agg #[h]) w := by kernel_rfl
theorem Tryd.asAsgR (w : World) : (callFunc 64 #[.agg #[.pointer (some ⟨3, 70, none⟩)], .iface 78 (.agg #[.pointer (some ⟨3, 70, none⟩)])]).run Tryd.prog w = .ok (.value (.bool true)) w := by kernel_rfl
theorem Tryd.asAsgE (w : World) : (callFunc 64 #[.agg #[.pointer (some ⟨3, 105, none⟩)], .iface 78 (.agg #[.pointer (some ⟨3, 70, none⟩)])]).run Tryd.prog w = .ok (.value (.bool false)) w := by kernel_rfl
theorem Tryd.noAsE (v : Value) (xT : TypeId) (w : World) : (Instr.typeAssert (.iface 105 v) xT 102 true).run Tryd.prog w = .ok (.tuple #[.nilIface, .bool false]) w := run_typeAssert_lacksB Tryd.underlying102 (by kernel_rfl) (by kernel_rfl) v xT w
theorem rlmA (z : Sem Value) (f : TypeId → Addr → Nat → Nat → Sem Value) (v : Value) :
    ReflectliteValue.method z f #[v] = (do match ← ReflectliteValue.parts v with | none => z | some (t, a, fl) => f t a fl (fl % 32)) := rfl
theorem Tryd.asPartsP (a : Addr) (w : World) : (ReflectliteValue.parts (.agg #[.pointer (some ⟨3, 72, none⟩), .pointer (some a), .int .u64 150])).run Tryd.prog w = .ok (some (72, a, 150)) w := by kernel_rfl
theorem Tryd.asIsNil (a p : Addr) (W : World) (ha : W.cell? a = some (.pointer (some p))) :
    (callFunc 37 #[.agg #[.pointer (some ⟨3, 72, none⟩), .pointer (some a), .int .u64 150]]).run Tryd.prog W = .ok (.value (.bool false)) W := by
  have h8 := @run_callFunc_extern Tryd.prog 37 _ (ReflectliteValue.method (ReflectliteValue.valueError "reflectlite.Value.IsNil" 0) ReflectliteValue.isNil) Tryd.func37 (by kernel_rfl) (by kernel_rfl) (by kernel_rfl) (by kernel_rfl)
  rw [h8, rlmA]
  simp only [Sem.run_bind, Tryd.asPartsP, Result.andThen]
  simp [ReflectliteValue.isNil, loadVar, isAgg, underlying, Tryd.underlying72, ha, Result.andThen]
theorem Tryd.asElemT (w : World) : (Rtype.elem? 72).run Tryd.prog w = .ok (some 70) w := by kernel_rfl
theorem Tryd.asMk (p : Addr) (w : World) : (ReflectliteValue.mk 70 p ReflectliteValue.flagAddr).run Tryd.prog w = .ok (.agg #[.pointer (some ⟨3, 70, none⟩), .pointer (some p), .int .u64 409]) w := by kernel_rfl
theorem Tryd.asElemV (a p : Addr) (W : World) (ha : W.cell? a = some (.pointer (some p))) :
    (callFunc 40 #[.agg #[.pointer (some ⟨3, 72, none⟩), .pointer (some a), .int .u64 150]]).run Tryd.prog W = .ok (.value (.agg #[.pointer (some ⟨3, 70, none⟩), .pointer (some p), .int .u64 409])) W := by
  have h8 := @run_callFunc_extern Tryd.prog 40 _ (ReflectliteValue.method (ReflectliteValue.valueError "reflectlite.Value.Elem" 0) ReflectliteValue.elem) Tryd.func40 (by kernel_rfl) (by kernel_rfl) (by kernel_rfl) (by kernel_rfl)
  rw [h8, rlmA]
  simp only [Sem.run_bind, Tryd.asPartsP, Result.andThen]
  simp [ReflectliteValue.elem, loadVar, isAgg, underlying, Tryd.underlying72, ha, Result.andThen, Tryd.asElemT, Tryd.asMk]
theorem Tryd.asValueOfR (s : ByteArray) (p : Int) (y : TypeId) (v : Value) (w : World) : (callFunc 35 #[.iface 70 (.agg #[.string s, .int .i64 p, .iface y v])]).run Tryd.prog w = .ok (.value (.agg #[.pointer (some ⟨3, 70, none⟩), .pointer (some ⟨w.heap.size, 0, none⟩), .int .u64 153])) (w.alloc (.cells #[.string s, .int .i64 p, .iface y v] 70)) := by kernel_rfl
theorem Tryd.asPartsA (a : Addr) (w : World) : (ReflectliteValue.parts (.agg #[.pointer (some ⟨3, 70, none⟩), .pointer (some a), .int .u64 409])).run Tryd.prog w = .ok (some (70, a, 409)) w := by kernel_rfl
theorem Tryd.asPartsB (a : Addr) (w : World) : (ReflectliteValue.parts (.agg #[.pointer (some ⟨3, 70, none⟩), .pointer (some a), .int .u64 153])).run Tryd.prog w = .ok (some (70, a, 153)) w := by kernel_rfl
theorem Tryd.asDirect (w : World) : (Rtype.directlyAssignable 70 70).run Tryd.prog w = .ok true w := by kernel_rfl
theorem rlsA (v x : Value) : ReflectliteValue.set #[v, x] = (do
    let (some (dst, a, fl), some (src, b, _)) := (← ReflectliteValue.parts v, ← ReflectliteValue.parts x)
      | unsupported (.noEntry "extern/(internal/reflectlite.Value).Set.zeroValue")
    if fl / ReflectliteValue.flagAddr % 2 == 0 then unsupported (.noEntry "extern/(internal/reflectlite.Value).Set.unaddressable")
    let val ← loadVar src b
    if ← Rtype.directlyAssignable dst src then storeVar dst a val
    else if ← Rtype.implements dst src then
      if (← Rtype.kind src) == 20 then
        match val with
        | .nilIface => unsupported (.noEntry "extern/reflectlite: a nil value of one interface type handed on as a value of another")
        | _ => storeVar dst a val
      else storeVar dst a (.iface src val)
    else panicString ("reflectlite.Set: value of type " ++ (← Rtype.spelt src) ++ " is not assignable to type " ++ (← Rtype.spelt dst))
    pure (.tuple #[])) := rfl
theorem Tryd.asSet (tb b : Nat) (s : ByteArray) (p : Int) (y : TypeId) (v : Value) (olds : List Value) (W : World) (hb : Lies W b [.string s, .int .i64 p, .iface y v]) (ht : Lies W tb olds) (hl : olds.length = 3) :
    (callFunc 41 #[.agg #[.pointer (some ⟨3, 70, none⟩), .pointer (some ⟨tb, 0, none⟩), .int .u64 409], .agg #[.pointer (some ⟨3, 70, none⟩), .pointer (some ⟨b, 0, none⟩), .int .u64 153]]).run Tryd.prog W = .ok (.value (.tuple #[])) (W.setCells tb 0 [.string s, .int .i64 p, .iface y v]) := by
  have h8 := @run_callFunc_extern Tryd.prog 41 _ ReflectliteValue.set Tryd.func41 (by kernel_rfl) (by kernel_rfl) (by kernel_rfl) (by kernel_rfl)
  have hld := run_loadVar_mid (P := Tryd.prog) W b 0 70 [.string s, .int .i64 p, .iface y v] _ hb.row Tryd.underlying70 rfl (by kernel_rfl)
  have hst := run_storeVar_mid (P := Tryd.prog) W tb 0 70 #[.string s, .int .i64 p, .iface y v] (ht.there 0 3 (by omega)) (by kernel_rfl) (all_oneCell_toArray (cs := [.string s, .int .i64 p, .iface y v]) (fun u hu => by simp at hu; rcases hu with rfl | rfl | rfl <;> rfl))
  rw [h8, rlsA]
  simp only [Sem.run_bind, Tryd.asPartsA, Tryd.asPartsB, Result.andThen]
  simp only [show ((409 / ReflectliteValue.flagAddr % 2 == 0) = false) by decide, Bool.false_eq_true, if_false, Sem.run_bind, hld, Result.andThen, Tryd.asDirect, if_true, Sem.run_pure]
  rw [hst]
set_option maxHeartbeats 8000000 in
/-- errors.As(x, &r), x a bare sentinel: false. -/
theorem as_miss (b t : Addr) (w : World) (hg : w.cell? ⟨2, 0, none⟩ = some (.iface 78 (.agg #[.pointer (some ⟨3, 47, none⟩)]))) :
    Calls Tryd.prog 33 #[.iface 105 (.pointer (some b)), .iface 72 (.pointer (some t))] w fun e w' => e = .returned (.bool false) ∧ Below w.heap.size w w' := by
  have hn := fun W => run_eql_iface_nil_left (P := Tryd.prog) W 105 (.pointer (some b)) Tryd.underlying47
  have v1 := Tryd.asValueOf
  have v2 := Tryd.asType
  have v3 := Tryd.asMKind
  have v4 := Tryd.asKindP
  have v5 := Tryd.asKindR
  have v6 := Tryd.asMElem
  have v7 := Tryd.asElem
  have v8 := Tryd.asMImpl
  have v9 := Tryd.asImpl
  have va := Tryd.asTypeOfE
  have vb := Tryd.asMAsg
  have vc := Tryd.asAsgE
  have vd := Tryd.noAsE
  have ve := Tryd.noUnwrapE
  have vf := Tryd.noUnwrapsE
  have vn := Tryd.asIsNil ⟨w.heap.size, 0, none⟩ t ((w.alloc (.cells #[.pointer (some t)] 72)).alloc (.cells #[.pointer (some ⟨3, 72, none⟩), .pointer (some ⟨w.heap.size, 0, none⟩), .int .u64 150] 91)) (by rw [World.cell?_alloc_lt _ _ ⟨w.heap.size, 0, none⟩ (by simp)]; exact World.cell?_alloc_new _ _ _ _)
  have hlt := World.block_lt_of_cell? w _ hg
  have hg2 : ((w.alloc (.cells #[.pointer (some t)] 72)).alloc (.cells #[.pointer (some ⟨3, 72, none⟩), .pointer (some ⟨w.heap.size, 0, none⟩), .int .u64 150] 91)).cell? ⟨2, 0, none⟩ = some (.iface 78 (.agg #[.pointer (some ⟨3, 47, none⟩)])) := by
    rw [World.cell?_alloc_lt _ _ ⟨2, 0, none⟩ (by simp; exact Nat.lt_succ_of_lt hlt), World.cell?_alloc_lt _ _ ⟨2, 0, none⟩ hlt]; exact hg
  have HB : Hid (Below w.heap.size w (((w.alloc (.cells #[.pointer (some t)] 72)).alloc (.cells #[.pointer (some ⟨3, 72, none⟩), .pointer (some ⟨w.heap.size, 0, none⟩), .int .u64 150] 91)).alloc (.cells #[.pointer (some ⟨3, 72, none⟩), .pointer (some ⟨w.heap.size, 0, none⟩), .int .u64 150] 91))) := (((Below.refl _ _).alloc (Nat.le_refl _) _).alloc (by simp) _).alloc (by simp; omega) _
  clear hg
  go_enter Tryd.func33, Tryd.ntmps33
  go_wp2
  refine wp_loop_rounds 1 ?_
  rw [rounds_succ]
  go_wp2
  go_ret
  exact ⟨rfl, HB.out⟩
end Go.Proofs.YtbcfjbkmkknmfaaDoor
namespace Go.Proofs.YtbcfjbkmkknmfaaDoor
open Go.RowKit Go.Extern.Stop Go.Stop Go.Extern

theorem grownR_cells {a w : World} {b : Nat} (h : a.grownBy w (some b)) (o : Nat) (us : List Value) : a.grownBy (w.setCells b o us) (some b) := by
  have hz : ∀ (us : List Value) (w : World) (o : Nat), w.grownBy (w.setCells b o us) (some b) := by
    intro us
    induction us with
    | nil => exact fun w _ => World.grownBy.refl w _
    | cons u us ih =>
      intro w o
      have h1 : w.grownBy (w.setCell ⟨b, o, none⟩ u) (some b) := ⟨rfl, rfl, rfl, by simp [World.setCell], fun k _ hk => Below.heap_setCell w _ u k (fun e => hk (by rw [e]))⟩
      exact h1.trans (ih _ _)
  exact h.trans (hz us w o)
set_option maxHeartbeats 8000000 in
/-- errors.As(r, &x), r a refusal: true, and x is r. -/
theorem as_hit (s : ByteArray) (p : Int) (b : Addr) (tb : Nat) (olds : List Value) (w : World) (hg : w.cell? ⟨2, 0, none⟩ = some (.iface 78 (.agg #[.pointer (some ⟨3, 47, none⟩)]))) (ht : Lies w tb olds) (hl : olds.length = 3) :
    Calls Tryd.prog 33 #[.iface 70 (.agg #[.string s, .int .i64 p, .iface 105 (.pointer (some b))]), .iface 72 (.pointer (some ⟨tb, 0, none⟩))] w fun e w' => e = .returned (.bool true) ∧ Lies w' tb [.string s, .int .i64 p, .iface 105 (.pointer (some b))] ∧ w.grownBy w' (some tb) := by
  have hn := fun W => run_eql_iface_nil_left (P := Tryd.prog) W 70 (.agg #[.string s, .int .i64 p, .iface 105 (.pointer (some b))]) Tryd.underlying47
  have v1 := Tryd.asValueOf
  have v2 := Tryd.asType
  have v3 := Tryd.asMKind
  have v4 := Tryd.asKindP
  have v5 := Tryd.asKindR
  have v6 := Tryd.asMElem
  have v7 := Tryd.asElem
  have v8 := Tryd.asMImpl
  have v9 := Tryd.asImpl
  have va := Tryd.asTypeOfR
  have vb := Tryd.asMAsg
  have vc := Tryd.asAsgR
  have vr := Tryd.asValueOfR
  have vn := Tryd.asIsNil ⟨w.heap.size, 0, none⟩ ⟨tb, 0, none⟩ ((w.alloc (.cells #[.pointer (some ⟨tb, 0, none⟩)] 72)).alloc (.cells #[.pointer (some ⟨3, 72, none⟩), .pointer (some ⟨w.heap.size, 0, none⟩), .int .u64 150] 91)) (by rw [World.cell?_alloc_lt _ _ ⟨w.heap.size, 0, none⟩ (by simp)]; exact World.cell?_alloc_new _ _ _ _)
  have vm := Tryd.asElemV ⟨w.heap.size, 0, none⟩ ⟨tb, 0, none⟩ (((w.alloc (.cells #[.pointer (some ⟨tb, 0, none⟩)] 72)).alloc (.cells #[.pointer (some ⟨3, 72, none⟩), .pointer (some ⟨w.heap.size, 0, none⟩), .int .u64 150] 91)).alloc (.cells #[.pointer (some ⟨3, 72, none⟩), .pointer (some ⟨w.heap.size, 0, none⟩), .int .u64 150] 91)) (by rw [World.cell?_alloc_lt _ _ ⟨w.heap.size, 0, none⟩ (by simp; omega), World.cell?_alloc_lt _ _ ⟨w.heap.size, 0, none⟩ (by simp)]; exact World.cell?_alloc_new _ _ _ _)
  have hlt := World.block_lt_of_cell? w _ hg
  have hg2 : ((w.alloc (.cells #[.pointer (some ⟨tb, 0, none⟩)] 72)).alloc (.cells #[.pointer (some ⟨3, 72, none⟩), .pointer (some ⟨w.heap.size, 0, none⟩), .int .u64 150] 91)).cell? ⟨2, 0, none⟩ = some (.iface 78 (.agg #[.pointer (some ⟨3, 47, none⟩)])) := by
    rw [World.cell?_alloc_lt _ _ ⟨2, 0, none⟩ (by simp; exact Nat.lt_succ_of_lt hlt), World.cell?_alloc_lt _ _ ⟨2, 0, none⟩ hlt]; exact hg
  have hLb := lies_new4 w (.cells #[.pointer (some ⟨tb, 0, none⟩)] 72) (.cells #[.pointer (some ⟨3, 72, none⟩), .pointer (some ⟨w.heap.size, 0, none⟩), .int .u64 150] 91) (.cells #[.pointer (some ⟨3, 72, none⟩), .pointer (some ⟨w.heap.size, 0, none⟩), .int .u64 150] 91) #[.string s, .int .i64 p, .iface 105 (.pointer (some b))] 70
  have hLt := (((ht.alloc (.cells #[.pointer (some ⟨tb, 0, none⟩)] 72)).alloc (.cells #[.pointer (some ⟨3, 72, none⟩), .pointer (some ⟨w.heap.size, 0, none⟩), .int .u64 150] 91)).alloc (.cells #[.pointer (some ⟨3, 72, none⟩), .pointer (some ⟨w.heap.size, 0, none⟩), .int .u64 150] 91)).alloc (.cells #[.string s, .int .i64 p, .iface 105 (.pointer (some b))] 70)
  have hG : w.grownBy ((((w.alloc (.cells #[.pointer (some ⟨tb, 0, none⟩)] 72)).alloc (.cells #[.pointer (some ⟨3, 72, none⟩), .pointer (some ⟨w.heap.size, 0, none⟩), .int .u64 150] 91)).alloc (.cells #[.pointer (some ⟨3, 72, none⟩), .pointer (some ⟨w.heap.size, 0, none⟩), .int .u64 150] 91)).alloc (.cells #[.string s, .int .i64 p, .iface 105 (.pointer (some b))] 70)) (some tb) :=
    (((World.grownBy_alloc w _ _).trans (World.grownBy_alloc _ _ _)).trans (World.grownBy_alloc _ _ _)).trans (World.grownBy_alloc _ _ _)
  have hst := Tryd.asSet tb (w.heap.size + 1 + 1 + 1) s p 105 (.pointer (some b)) olds _ hLb hLt hl
  have HLt : Hid (Lies (((((w.alloc (.cells #[.pointer (some ⟨tb, 0, none⟩)] 72)).alloc (.cells #[.pointer (some ⟨3, 72, none⟩), .pointer (some ⟨w.heap.size, 0, none⟩), .int .u64 150] 91)).alloc (.cells #[.pointer (some ⟨3, 72, none⟩), .pointer (some ⟨w.heap.size, 0, none⟩), .int .u64 150] 91)).alloc (.cells #[.string s, .int .i64 p, .iface 105 (.pointer (some b))] 70)).setCells tb 0 [.string s, .int .i64 p, .iface 105 (.pointer (some b))]) tb [.string s, .int .i64 p, .iface 105 (.pointer (some b))]) := by
    have := hLt.setCells [.string s, .int .i64 p, .iface 105 (.pointer (some b))] 0 (by simp [hl])
    rw [spl_all (by simp [hl])] at this
    exact this
  have HG : Hid (w.grownBy (((((w.alloc (.cells #[.pointer (some ⟨tb, 0, none⟩)] 72)).alloc (.cells #[.pointer (some ⟨3, 72, none⟩), .pointer (some ⟨w.heap.size, 0, none⟩), .int .u64 150] 91)).alloc (.cells #[.pointer (some ⟨3, 72, none⟩), .pointer (some ⟨w.heap.size, 0, none⟩), .int .u64 150] 91)).alloc (.cells #[.string s, .int .i64 p, .iface 105 (.pointer (some b))] 70)).setCells tb 0 [.string s, .int .i64 p, .iface 105 (.pointer (some b))]) (some tb)) := grownR_cells hG 0 _
  clear hg hLb hLt hG ht
  generalize hww : ((((w.alloc (.cells #[.pointer (some ⟨tb, 0, none⟩)] 72)).alloc (.cells #[.pointer (some ⟨3, 72, none⟩), .pointer (some ⟨w.heap.size, 0, none⟩), .int .u64 150] 91)).alloc (.cells #[.pointer (some ⟨3, 72, none⟩), .pointer (some ⟨w.heap.size, 0, none⟩), .int .u64 150] 91)).alloc (.cells #[.string s, .int .i64 p, .iface 105 (.pointer (some b))] 70)).setCells tb 0 [.string s, .int .i64 p, .iface 105 (.pointer (some b))] = wz at HLt HG hst
  clear hww
  go_enter Tryd.func33, Tryd.ntmps33
  go_wp2
  refine wp_loop_rounds 1 ?_
  rw [rounds_succ]
  go_wp2
  go_ret
  exact ⟨rfl, HLt.out, HG.out⟩
end Go.Proofs.YtbcfjbkmkknmfaaDoor
