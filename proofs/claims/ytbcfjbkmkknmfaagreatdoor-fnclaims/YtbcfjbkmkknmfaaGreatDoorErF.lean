/- errors.Is and errors.As of the refusals: Go's own text of both is walked, for nil, for a refusal that wraps a sentinel, for a bare sentinel. errors.As at a target of the refusals' type: a bare sentinel does not fit and nothing turns; a refusal fits and the target gets it. errors.As at a refusal: the target gets it. The places of the refusals' parts, and what a call must find of the package's variables. Why a proof is refused: the faults of one list, and the part that they were met in. How many rows a proof has, in the program. How many rows a proof has, and what it claims, in the program. -/
import Derived.Test.YtbcfjbkmkknmfaaGreatDoorChecked
import Derived.WalkKit
import Derived.LaidEql
import Derived.Stop.Asserts
import Derived.RowKitTokens
import Derived.Below
import Derived.Test.YtbcfjbkmkknmfaaGreatDoorChecked
import Derived.Test.YtbcfjbkmkknmfaaGreatDoorLiA
import Derived.Test.YtbcfjbkmkknmfaaGreatDoorPrLaw
import Derived.Test.YtbcfjbkmkknmfaaGreatDoorGrA
namespace Go.Proofs.YtbcfjbkmkknmfaaGreatDoor
open Go.RowKit Go.Extern.Stop Go.Stop Go.Extern

theorem Tryz.isTypeOf (v : Value) (w : World) : (Extern.ReflectliteType.typeOf #[.iface 225 v]).run Tryz.prog w = .ok (.iface 204 (.agg #[.pointer (some ⟨6, 225, none⟩)])) w := by kernel_rfl
theorem Tryz.callComparable (w : World) : (callFunc 176 #[.agg #[.pointer (some ⟨6, 225, none⟩)]]).run Tryz.prog w = .ok (.value (.bool true)) w := by kernel_rfl
theorem Tryz.isMethodComparable (fuel : Nat) (v : Value) (w : World) : (Go.method (fuel + 1) 204 v "Comparable").run Tryz.prog w = .ok (176, v) w := by kernel_rfl
theorem Tryz.isComp : (Tryz.prog.info? 225).map (·.comparable) = some true := by kernel_rfl
theorem Tryz.isSize : (Tryz.prog.info? 247).map (·.size) = some 1 := by kernel_rfl
theorem Tryz.noIsE (v : Value) (xT : TypeId) (w : World) : (Instr.typeAssert (.iface 225 v) xT 206 true).run Tryz.prog w = .ok (.tuple #[.nilIface, .bool false]) w := run_typeAssert_lacksB Tryz.underlying206 (by kernel_rfl) (by kernel_rfl) v xT w
theorem Tryz.noUnwrapE (v : Value) (xT : TypeId) (w : World) : (Instr.typeAssert (.iface 225 v) xT 209 true).run Tryz.prog w = .ok (.tuple #[.nilIface, .bool false]) w := run_typeAssert_lacksB Tryz.underlying209 (by kernel_rfl) (by kernel_rfl) v xT w
theorem Tryz.noUnwrapsE (v : Value) (xT : TypeId) (w : World) : (Instr.typeAssert (.iface 225 v) xT 211 true).run Tryz.prog w = .ok (.tuple #[.nilIface, .bool false]) w := run_typeAssert_lacksB Tryz.underlying211 (by kernel_rfl) (by kernel_rfl) v xT w
theorem Tryz.noIsR (v : Value) (xT : TypeId) (w : World) : (Instr.typeAssert (.iface 171 v) xT 206 true).run Tryz.prog w = .ok (.tuple #[.nilIface, .bool false]) w := run_typeAssert_lacksB Tryz.underlying206 (by kernel_rfl) (by kernel_rfl) v xT w
theorem Tryz.hasUnwrapR (v : Value) (xT : TypeId) (w : World) : (Instr.typeAssert (.iface 171 v) xT 209 true).run Tryz.prog w = .ok (.tuple #[.iface 171 v, .bool true]) w := run_typeAssert_hasB Tryz.underlying209 (by kernel_rfl) v xT w
theorem Tryz.methodUnwrap (fuel : Nat) (a b c : Value) (w : World) : (Go.method (fuel + 1) 171 (.agg #[a, b, c]) "Unwrap").run Tryz.prog w = .ok (170, .agg #[a, b, c]) w := by kernel_rfl
/-- errors.Is(nil, x). -/
theorem is_nil (b : Addr) (w : World) :
    Calls Tryz.prog 107 #[.nilIface, .iface 225 (.pointer (some b))] w fun e w' => e = .returned (.bool false) ∧ w' = w := by
  have hn := run_eql_iface_nil_left (P := Tryz.prog) w 225 (.pointer (some b)) Tryz.underlying107
  go_enter Tryz.func107, Tryz.ntmps107
  go_wp2
  go_ret
  exact ⟨rfl, rfl⟩
set_option maxHeartbeats 4000000 in
/-- errors.Is(r, x), r a refusal that wraps x. -/
theorem is_ref_same (s : ByteArray) (p : Int) (b : Addr) (w : World) :
    Calls Tryz.prog 107 #[.iface 171 (.agg #[.string s, .int .i64 p, .iface 225 (.pointer (some b))]), .iface 225 (.pointer (some b))] w fun e w' => e = .returned (.bool true) ∧ Below w.heap.size w w' := by
  obtain ⟨i, hi, hcmp⟩ := Option.map_eq_some_iff.1 Tryz.isComp
  obtain ⟨j, hj, hjs⟩ := Option.map_eq_some_iff.1 Tryz.isSize
  have h8 := @run_callFunc_extern Tryz.prog 130 _ Extern.ReflectliteType.typeOf Tryz.func130 (by kernel_rfl) (by kernel_rfl) (by kernel_rfl) (by kernel_rfl)
  have h32 := Tryz.callComparable
  have tT := Tryz.isTypeOf
  have mR := Tryz.isMethodComparable
  have nR := Tryz.noIsR
  have uR := Tryz.hasUnwrapR
  have mU := Tryz.methodUnwrap
  have heq := fun W => run_eql_iface_ptr_same (P := Tryz.prog) W b Tryz.underlying107 Tryz.underlying225 hi hcmp hj
  have hty := fun W => run_eql_iface_types (P := Tryz.prog) 171 225 (.agg #[.string s, .int .i64 p, .iface 225 (.pointer (some b))]) (.pointer (some b)) Tryz.underlying107 (by decide) W
  have HB : Hid (Below w.heap.size w (w.alloc (.cells #[.string s, .int .i64 p, .iface 225 (.pointer (some b))] 171))) := (Below.refl _ _).alloc (Nat.le_refl _) _
  go_enter Tryz.func107, Tryz.ntmps107
  go_wp2
  refine wp_loop_rounds 2 ?_
  rw [rounds_succ]
  go_wp2
  rw [rounds_succ]
  go_wp2
  go_ret
  exact ⟨rfl, HB.out⟩
set_option maxHeartbeats 4000000 in
/-- errors.Is(r, x), r a refusal that wraps another sentinel. -/
theorem is_ref_other (s : ByteArray) (p : Int) (a b : Addr) (ca cb : Array Value) (ta tb : TypeId) (w : World) (hne : a ≠ b) (ha : w.heap[a.block]? = some (.cells ca ta (0, 0))) (hb : w.heap[b.block]? = some (.cells cb tb (0, 0))) :
    Calls Tryz.prog 107 #[.iface 171 (.agg #[.string s, .int .i64 p, .iface 225 (.pointer (some a))]), .iface 225 (.pointer (some b))] w fun e w' => e = .returned (.bool false) ∧ Below w.heap.size w w' := by
  obtain ⟨i, hi, hcmp⟩ := Option.map_eq_some_iff.1 Tryz.isComp
  obtain ⟨j, hj, hjs⟩ := Option.map_eq_some_iff.1 Tryz.isSize
  have h8 := @run_callFunc_extern Tryz.prog 130 _ Extern.ReflectliteType.typeOf Tryz.func130 (by kernel_rfl) (by kernel_rfl) (by kernel_rfl) (by kernel_rfl)
  have h32 := Tryz.callComparable
  have tT := Tryz.isTypeOf
  have mR := Tryz.isMethodComparable
  have nR := Tryz.noIsR
  have uR := Tryz.hasUnwrapR
  have nE := Tryz.noIsE
  have uE := Tryz.noUnwrapE
  have vE := Tryz.noUnwrapsE
  have mU := Tryz.methodUnwrap
  have HB : Hid (Below w.heap.size w (w.alloc (.cells #[.string s, .int .i64 p, .iface 225 (.pointer (some a))] 171))) := (Below.refl _ _).alloc (Nat.le_refl _) _
  have lt : ∀ {g : Nat} {o : Obj}, w.heap[g]? = some o → g < w.heap.size := fun {g o} h => by
    rcases Nat.lt_or_ge g w.heap.size with h' | h'
    · exact h'
    · rw [Array.getElem?_eq_none h'] at h; cases h
  have heq := run_eql_iface_ptr_other (P := Tryz.prog) (w.alloc (.cells #[.string s, .int .i64 p, .iface 225 (.pointer (some a))] 171)) Tryz.underlying107 Tryz.underlying225 hi hcmp hj (by rw [hjs]; decide) hne ((Below.heap_alloc w _ _ (lt ha)).trans ha) ((Below.heap_alloc w _ _ (lt hb)).trans hb)
  have hty := fun W => run_eql_iface_types (P := Tryz.prog) 171 225 (.agg #[.string s, .int .i64 p, .iface 225 (.pointer (some a))]) (.pointer (some b)) Tryz.underlying107 (by decide) W
  clear lt ha hb
  go_enter Tryz.func107, Tryz.ntmps107
  go_wp2
  refine wp_loop_rounds 2 ?_
  rw [rounds_succ]
  go_wp2
  rw [rounds_succ]
  go_wp2
  go_ret
  exact ⟨rfl, HB.out⟩
end Go.Proofs.YtbcfjbkmkknmfaaGreatDoor
namespace Go.Proofs.YtbcfjbkmkknmfaaGreatDoor
open Go.RowKit Go.Extern.Stop Go.Stop Go.Extern

theorem Tryz.asValueOf (t : Addr) (w : World) : (callFunc 138 #[.iface 173 (.pointer (some t))]).run Tryz.prog w = .ok (.value (.agg #[.pointer (some ⟨6, 173, none⟩), .pointer (some ⟨w.heap.size, 0, none⟩), .int .u64 150])) (w.alloc (.cells #[.pointer (some t)] 173)) := by kernel_rfl
theorem Tryz.asType (a : Addr) (w : World) : (callFunc 139 #[.agg #[.pointer (some ⟨6, 173, none⟩), .pointer (some a), .int .u64 150]]).run Tryz.prog w = .ok (.value (.iface 204 (.agg #[.pointer (some ⟨6, 173, none⟩)]))) w := by kernel_rfl
theorem Tryz.asMKind (fuel : Nat) (h : Value) (w : World) : (Go.method (fuel + 1) 204 (.agg #[h]) "Kind").run Tryz.prog w = .ok (164, h) w := by kernel_rfl
theorem Tryz.asKindP (w : World) : (callFunc 164 #[.pointer (some ⟨6, 173, none⟩)]).run Tryz.prog w = .ok (.value (.int .u8 22)) w := by kernel_rfl
theorem Tryz.asKindR (w : World) : (callFunc 164 #[.pointer (some ⟨6, 171, none⟩)]).run Tryz.prog w = .ok (.value (.int .u8 25)) w := by kernel_rfl
theorem Tryz.asMElem (fuel : Nat) (h : Value) (w : World) : (Go.method (fuel + 1) 204 (.agg #[h]) "Elem").run Tryz.prog w = .ok (177, .agg #[h]) w := by kernel_rfl
theorem Tryz.asElem (w : World) : (callFunc 177 #[.agg #[.pointer (some ⟨6, 173, none⟩)]]).run Tryz.prog w = .ok (.value (.iface 204 (.agg #[.pointer (some ⟨6, 171, none⟩)]))) w := by kernel_rfl
theorem Tryz.asMImpl (fuel : Nat) (h : Value) (w : World) : (Go.method (fuel + 1) 204 (.agg #[h]) "Implements").run Tryz.prog w = .ok (178, .agg #[h]) w := by kernel_rfl
theorem Tryz.asImpl (w : World) : (callFunc 178 #[.agg #[.pointer (some ⟨6, 171, none⟩)], .iface 204 (.agg #[.pointer (some ⟨6, 107, none⟩)])]).run Tryz.prog w = .ok (.value (.bool true)) w := by kernel_rfl
theorem Tryz.asTypeOfR (v : Value) (w : World) : (callFunc 130 #[.iface 171 v]).run Tryz.prog w = .ok (.value (.iface 204 (.agg #[.pointer (some ⟨6, 171, none⟩)]))) w := by kernel_rfl
theorem Tryz.asTypeOfE (v : Value) (w : World) : (callFunc 130 #[.iface 225 v]).run Tryz.prog w = .ok (.value (.iface 204 (.agg #[.pointer (some ⟨6, 225, none⟩)]))) w := by kernel_rfl
theorem Tryz.asMAsg (fuel : Nat) (h : Value) (w : World) : (Go.method (fuel + 1) 204 (.agg #[h]) "AssignableTo").run Tryz.prog w = .ok (175, .agg #[h]) w := by kernel_rfl
theorem Tryz.asAsgR (w : World) : (callFunc 175 #[.agg #[.pointer (some ⟨6, 171, none⟩)], .iface 204 (.agg #[.pointer (some ⟨6, 171, none⟩)])]).run Tryz.prog w = .ok (.value (.bool true)) w := by kernel_rfl
theorem Tryz.asAsgE (w : World) : (callFunc 175 #[.agg #[.pointer (some ⟨6, 225, none⟩)], .iface 204 (.agg #[.pointer (some ⟨6, 171, none⟩)])]).run Tryz.prog w = .ok (.value (.bool false)) w := by kernel_rfl
theorem Tryz.noAsE (v : Value) (xT : TypeId) (w : World) : (Instr.typeAssert (.iface 225 v) xT 216 true).run Tryz.prog w = .ok (.tuple #[.nilIface, .bool false]) w := run_typeAssert_lacksB Tryz.underlying216 (by kernel_rfl) (by kernel_rfl) v xT w
theorem rlmA (z : Sem Value) (f : TypeId → Addr → Nat → Nat → Sem Value) (v : Value) :
    ReflectliteValue.method z f #[v] = (do match ← ReflectliteValue.parts v with | none => z | some (t, a, fl) => f t a fl (fl % 32)) := rfl
theorem Tryz.asPartsP (a : Addr) (w : World) : (ReflectliteValue.parts (.agg #[.pointer (some ⟨6, 173, none⟩), .pointer (some a), .int .u64 150])).run Tryz.prog w = .ok (some (173, a, 150)) w := by kernel_rfl
theorem Tryz.asIsNil (a p : Addr) (W : World) (ha : W.cell? a = some (.pointer (some p))) :
    (callFunc 140 #[.agg #[.pointer (some ⟨6, 173, none⟩), .pointer (some a), .int .u64 150]]).run Tryz.prog W = .ok (.value (.bool false)) W := by
  have h8 := @run_callFunc_extern Tryz.prog 140 _ (ReflectliteValue.method (ReflectliteValue.valueError "reflectlite.Value.IsNil" 0) ReflectliteValue.isNil) Tryz.func140 (by kernel_rfl) (by kernel_rfl) (by kernel_rfl) (by kernel_rfl)
  rw [h8, rlmA]
  simp only [Sem.run_bind, Tryz.asPartsP, Result.andThen]
  simp [ReflectliteValue.isNil, loadVar, isAgg, underlying, Tryz.underlying173, ha, Result.andThen]
theorem Tryz.asElemT (w : World) : (Rtype.elem? 173).run Tryz.prog w = .ok (some 171) w := by kernel_rfl
theorem Tryz.asMk (p : Addr) (w : World) : (ReflectliteValue.mk 171 p ReflectliteValue.flagAddr).run Tryz.prog w = .ok (.agg #[.pointer (some ⟨6, 171, none⟩), .pointer (some p), .int .u64 409]) w := by kernel_rfl
theorem Tryz.asElemV (a p : Addr) (W : World) (ha : W.cell? a = some (.pointer (some p))) :
    (callFunc 144 #[.agg #[.pointer (some ⟨6, 173, none⟩), .pointer (some a), .int .u64 150]]).run Tryz.prog W = .ok (.value (.agg #[.pointer (some ⟨6, 171, none⟩), .pointer (some p), .int .u64 409])) W := by
  have h8 := @run_callFunc_extern Tryz.prog 144 _ (ReflectliteValue.method (ReflectliteValue.valueError "reflectlite.Value.Elem" 0) ReflectliteValue.elem) Tryz.func144 (by kernel_rfl) (by kernel_rfl) (by kernel_rfl) (by kernel_rfl)
  rw [h8, rlmA]
  simp only [Sem.run_bind, Tryz.asPartsP, Result.andThen]
  simp [ReflectliteValue.elem, loadVar, isAgg, underlying, Tryz.underlying173, ha, Result.andThen, Tryz.asElemT, Tryz.asMk]
theorem Tryz.asValueOfR (s : ByteArray) (p : Int) (y : TypeId) (v : Value) (w : World) : (callFunc 138 #[.iface 171 (.agg #[.string s, .int .i64 p, .iface y v])]).run Tryz.prog w = .ok (.value (.agg #[.pointer (some ⟨6, 171, none⟩), .pointer (some ⟨w.heap.size, 0, none⟩), .int .u64 153])) (w.alloc (.cells #[.string s, .int .i64 p, .iface y v] 171)) := by kernel_rfl
theorem Tryz.asPartsA (a : Addr) (w : World) : (ReflectliteValue.parts (.agg #[.pointer (some ⟨6, 171, none⟩), .pointer (some a), .int .u64 409])).run Tryz.prog w = .ok (some (171, a, 409)) w := by kernel_rfl
theorem Tryz.asPartsB (a : Addr) (w : World) : (ReflectliteValue.parts (.agg #[.pointer (some ⟨6, 171, none⟩), .pointer (some a), .int .u64 153])).run Tryz.prog w = .ok (some (171, a, 153)) w := by kernel_rfl
theorem Tryz.asDirect (w : World) : (Rtype.directlyAssignable 171 171).run Tryz.prog w = .ok true w := by kernel_rfl
theorem rlsA (v x : Value) : ReflectliteValue.set #[v, x] = (do
    let (some (dst, a, fl), some (src, b, _)) := (← ReflectliteValue.parts v, ← ReflectliteValue.parts x)
      | unsupported (.noEntry "extern/(internal/reflectlite.Value).Set.zeroValue")
    if fl / ReflectliteValue.flagAddr % 2 == 0 then unsupported (.noEntry "extern/(internal/reflectlite.Value).Set.unaddressable")
    let val ← loadVar src b
    if ← Rtype.directlyAssignable dst src then storeVar dst a val
    else if ← Rtype.implements dst src then
      if (← Rtype.kind src) == 20 then
        match val with
        | .nilIface => unsupported (.noEntry "extern/reflectlite: a nil value of one interface type handed on as a value of another")
        | _ => storeVar dst a val
      else storeVar dst a (.iface src val)
    else panicString ("reflectlite.Set: value of type " ++ (← Rtype.spelt src) ++ " is not assignable to type " ++ (← Rtype.spelt dst))
    pure (.tuple #[])) := rfl
theorem Tryz.asSet (tb b : Nat) (s : ByteArray) (p : Int) (y : TypeId) (v : Value) (olds : List Value) (W : World) (hb : Lies W b [.string s, .int .i64 p, .iface y v]) (ht : Lies W tb olds) (hl : olds.length = 3) :
    (callFunc 145 #[.agg #[.pointer (some ⟨6, 171, none⟩), .pointer (some ⟨tb, 0, none⟩), .int .u64 409], .agg #[.pointer (some ⟨6, 171, none⟩), .pointer (some ⟨b, 0, none⟩), .int .u64 153]]).run Tryz.prog W = .ok (.value (.tuple #[])) (W.setCells tb 0 [.string s, .int .i64 p, .iface y v]) := by
  have h8 := @run_callFunc_extern Tryz.prog 145 _ ReflectliteValue.set Tryz.func145 (by kernel_rfl) (by kernel_rfl) (by kernel_rfl) (by kernel_rfl)
  have hld := run_loadVar_mid (P := Tryz.prog) W b 0 171 [.string s, .int .i64 p, .iface y v] _ hb.row Tryz.underlying171 rfl (by kernel_rfl)
  have hst := run_storeVar_mid (P := Tryz.prog) W tb 0 171 #[.string s, .int .i64 p, .iface y v] (ht.there 0 3 (by omega)) (by kernel_rfl) (all_oneCell_toArray (cs := [.string s, .int .i64 p, .iface y v]) (fun u hu => by simp at hu; rcases hu with rfl | rfl | rfl <;> rfl))
  rw [h8, rlsA]
  simp only [Sem.run_bind, Tryz.asPartsA, Tryz.asPartsB, Result.andThen]
  simp only [show ((409 / ReflectliteValue.flagAddr % 2 == 0) = false) by decide, Bool.false_eq_true, if_false, Sem.run_bind, hld, Result.andThen, Tryz.asDirect, if_true, Sem.run_pure]
  rw [hst]
set_option maxHeartbeats 8000000 in
/-- errors.As(x, &r), x a bare sentinel: false. -/
theorem as_miss (b t : Addr) (w : World) (hg : w.cell? ⟨2, 0, none⟩ = some (.iface 204 (.agg #[.pointer (some ⟨6, 107, none⟩)]))) :
    Calls Tryz.prog 124 #[.iface 225 (.pointer (some b)), .iface 173 (.pointer (some t))] w fun e w' => e = .returned (.bool false) ∧ Below w.heap.size w w' := by
  have hn := fun W => run_eql_iface_nil_left (P := Tryz.prog) W 225 (.pointer (some b)) Tryz.underlying107
  have v1 := Tryz.asValueOf
  have v2 := Tryz.asType
  have v3 := Tryz.asMKind
  have v4 := Tryz.asKindP
  have v5 := Tryz.asKindR
  have v6 := Tryz.asMElem
  have v7 := Tryz.asElem
  have v8 := Tryz.asMImpl
  have v9 := Tryz.asImpl
  have va := Tryz.asTypeOfE
  have vb := Tryz.asMAsg
  have vc := Tryz.asAsgE
  have vd := Tryz.noAsE
  have ve := Tryz.noUnwrapE
  have vf := Tryz.noUnwrapsE
  have vn := Tryz.asIsNil ⟨w.heap.size, 0, none⟩ t ((w.alloc (.cells #[.pointer (some t)] 173)).alloc (.cells #[.pointer (some ⟨6, 173, none⟩), .pointer (some ⟨w.heap.size, 0, none⟩), .int .u64 150] 195)) (by rw [World.cell?_alloc_lt _ _ ⟨w.heap.size, 0, none⟩ (by simp)]; exact World.cell?_alloc_new _ _ _ _)
  have hlt := World.block_lt_of_cell? w _ hg
  have hg2 : ((w.alloc (.cells #[.pointer (some t)] 173)).alloc (.cells #[.pointer (some ⟨6, 173, none⟩), .pointer (some ⟨w.heap.size, 0, none⟩), .int .u64 150] 195)).cell? ⟨2, 0, none⟩ = some (.iface 204 (.agg #[.pointer (some ⟨6, 107, none⟩)])) := by
    rw [World.cell?_alloc_lt _ _ ⟨2, 0, none⟩ (by simp; exact Nat.lt_succ_of_lt hlt), World.cell?_alloc_lt _ _ ⟨2, 0, none⟩ hlt]; exact hg
  have HB : Hid (Below w.heap.size w (((w.alloc (.cells #[.pointer (some t)] 173)).alloc (.cells #[.pointer (some ⟨6, 173, none⟩), .pointer (some ⟨w.heap.size, 0, none⟩), .int .u64 150] 195)).alloc (.cells #[.pointer (some ⟨6, 173, none⟩), .pointer (some ⟨w.heap.size, 0, none⟩), .int .u64 150] 195))) := (((Below.refl _ _).alloc (Nat.le_refl _) _).alloc (by simp) _).alloc (by simp; omega) _
  clear hg
  go_enter Tryz.func124, Tryz.ntmps124
  go_wp2
  refine wp_loop_rounds 1 ?_
  rw [rounds_succ]
  go_wp2
  go_ret
  exact ⟨rfl, HB.out⟩
end Go.Proofs.YtbcfjbkmkknmfaaGreatDoor
namespace Go.Proofs.YtbcfjbkmkknmfaaGreatDoor
open Go.RowKit Go.Extern.Stop Go.Stop Go.Extern

theorem grownR_cells {a w : World} {b : Nat} (h : a.grownBy w (some b)) (o : Nat) (us : List Value) : a.grownBy (w.setCells b o us) (some b) := by
  have hz : ∀ (us : List Value) (w : World) (o : Nat), w.grownBy (w.setCells b o us) (some b) := by
    intro us
    induction us with
    | nil => exact fun w _ => World.grownBy.refl w _
    | cons u us ih =>
      intro w o
      have h1 : w.grownBy (w.setCell ⟨b, o, none⟩ u) (some b) := ⟨rfl, rfl, rfl, by simp [World.setCell], fun k _ hk => Below.heap_setCell w _ u k (fun e => hk (by rw [e]))⟩
      exact h1.trans (ih _ _)
  exact h.trans (hz us w o)
set_option maxHeartbeats 8000000 in
/-- errors.As(r, &x), r a refusal: true, and x is r. -/
theorem as_hit (s : ByteArray) (p : Int) (b : Addr) (tb : Nat) (olds : List Value) (w : World) (hg : w.cell? ⟨2, 0, none⟩ = some (.iface 204 (.agg #[.pointer (some ⟨6, 107, none⟩)]))) (ht : Lies w tb olds) (hl : olds.length = 3) :
    Calls Tryz.prog 124 #[.iface 171 (.agg #[.string s, .int .i64 p, .iface 225 (.pointer (some b))]), .iface 173 (.pointer (some ⟨tb, 0, none⟩))] w fun e w' => e = .returned (.bool true) ∧ Lies w' tb [.string s, .int .i64 p, .iface 225 (.pointer (some b))] ∧ w.grownBy w' (some tb) := by
  have hn := fun W => run_eql_iface_nil_left (P := Tryz.prog) W 171 (.agg #[.string s, .int .i64 p, .iface 225 (.pointer (some b))]) Tryz.underlying107
  have v1 := Tryz.asValueOf
  have v2 := Tryz.asType
  have v3 := Tryz.asMKind
  have v4 := Tryz.asKindP
  have v5 := Tryz.asKindR
  have v6 := Tryz.asMElem
  have v7 := Tryz.asElem
  have v8 := Tryz.asMImpl
  have v9 := Tryz.asImpl
  have va := Tryz.asTypeOfR
  have vb := Tryz.asMAsg
  have vc := Tryz.asAsgR
  have vr := Tryz.asValueOfR
  have vn := Tryz.asIsNil ⟨w.heap.size, 0, none⟩ ⟨tb, 0, none⟩ ((w.alloc (.cells #[.pointer (some ⟨tb, 0, none⟩)] 173)).alloc (.cells #[.pointer (some ⟨6, 173, none⟩), .pointer (some ⟨w.heap.size, 0, none⟩), .int .u64 150] 195)) (by rw [World.cell?_alloc_lt _ _ ⟨w.heap.size, 0, none⟩ (by simp)]; exact World.cell?_alloc_new _ _ _ _)
  have vm := Tryz.asElemV ⟨w.heap.size, 0, none⟩ ⟨tb, 0, none⟩ (((w.alloc (.cells #[.pointer (some ⟨tb, 0, none⟩)] 173)).alloc (.cells #[.pointer (some ⟨6, 173, none⟩), .pointer (some ⟨w.heap.size, 0, none⟩), .int .u64 150] 195)).alloc (.cells #[.pointer (some ⟨6, 173, none⟩), .pointer (some ⟨w.heap.size, 0, none⟩), .int .u64 150] 195)) (by rw [World.cell?_alloc_lt _ _ ⟨w.heap.size, 0, none⟩ (by simp; omega), World.cell?_alloc_lt _ _ ⟨w.heap.size, 0, none⟩ (by simp)]; exact World.cell?_alloc_new _ _ _ _)
  have hlt := World.block_lt_of_cell? w _ hg
  have hg2 : ((w.alloc (.cells #[.pointer (some ⟨tb, 0, none⟩)] 173)).alloc (.cells #[.pointer (some ⟨6, 173, none⟩), .pointer (some ⟨w.heap.size, 0, none⟩), .int .u64 150] 195)).cell? ⟨2, 0, none⟩ = some (.iface 204 (.agg #[.pointer (some ⟨6, 107, none⟩)])) := by
    rw [World.cell?_alloc_lt _ _ ⟨2, 0, none⟩ (by simp; exact Nat.lt_succ_of_lt hlt), World.cell?_alloc_lt _ _ ⟨2, 0, none⟩ hlt]; exact hg
  have hLb := lies_new4 w (.cells #[.pointer (some ⟨tb, 0, none⟩)] 173) (.cells #[.pointer (some ⟨6, 173, none⟩), .pointer (some ⟨w.heap.size, 0, none⟩), .int .u64 150] 195) (.cells #[.pointer (some ⟨6, 173, none⟩), .pointer (some ⟨w.heap.size, 0, none⟩), .int .u64 150] 195) #[.string s, .int .i64 p, .iface 225 (.pointer (some b))] 171
  have hLt := (((ht.alloc (.cells #[.pointer (some ⟨tb, 0, none⟩)] 173)).alloc (.cells #[.pointer (some ⟨6, 173, none⟩), .pointer (some ⟨w.heap.size, 0, none⟩), .int .u64 150] 195)).alloc (.cells #[.pointer (some ⟨6, 173, none⟩), .pointer (some ⟨w.heap.size, 0, none⟩), .int .u64 150] 195)).alloc (.cells #[.string s, .int .i64 p, .iface 225 (.pointer (some b))] 171)
  have hG : w.grownBy ((((w.alloc (.cells #[.pointer (some ⟨tb, 0, none⟩)] 173)).alloc (.cells #[.pointer (some ⟨6, 173, none⟩), .pointer (some ⟨w.heap.size, 0, none⟩), .int .u64 150] 195)).alloc (.cells #[.pointer (some ⟨6, 173, none⟩), .pointer (some ⟨w.heap.size, 0, none⟩), .int .u64 150] 195)).alloc (.cells #[.string s, .int .i64 p, .iface 225 (.pointer (some b))] 171)) (some tb) :=
    (((World.grownBy_alloc w _ _).trans (World.grownBy_alloc _ _ _)).trans (World.grownBy_alloc _ _ _)).trans (World.grownBy_alloc _ _ _)
  have hst := Tryz.asSet tb (w.heap.size + 1 + 1 + 1) s p 225 (.pointer (some b)) olds _ hLb hLt hl
  have HLt : Hid (Lies (((((w.alloc (.cells #[.pointer (some ⟨tb, 0, none⟩)] 173)).alloc (.cells #[.pointer (some ⟨6, 173, none⟩), .pointer (some ⟨w.heap.size, 0, none⟩), .int .u64 150] 195)).alloc (.cells #[.pointer (some ⟨6, 173, none⟩), .pointer (some ⟨w.heap.size, 0, none⟩), .int .u64 150] 195)).alloc (.cells #[.string s, .int .i64 p, .iface 225 (.pointer (some b))] 171)).setCells tb 0 [.string s, .int .i64 p, .iface 225 (.pointer (some b))]) tb [.string s, .int .i64 p, .iface 225 (.pointer (some b))]) := by
    have := hLt.setCells [.string s, .int .i64 p, .iface 225 (.pointer (some b))] 0 (by simp [hl])
    rw [spl_all (by simp [hl])] at this
    exact this
  have HG : Hid (w.grownBy (((((w.alloc (.cells #[.pointer (some ⟨tb, 0, none⟩)] 173)).alloc (.cells #[.pointer (some ⟨6, 173, none⟩), .pointer (some ⟨w.heap.size, 0, none⟩), .int .u64 150] 195)).alloc (.cells #[.pointer (some ⟨6, 173, none⟩), .pointer (some ⟨w.heap.size, 0, none⟩), .int .u64 150] 195)).alloc (.cells #[.string s, .int .i64 p, .iface 225 (.pointer (some b))] 171)).setCells tb 0 [.string s, .int .i64 p, .iface 225 (.pointer (some b))]) (some tb)) := grownR_cells hG 0 _
  clear hg hLb hLt hG ht
  generalize hww : ((((w.alloc (.cells #[.pointer (some ⟨tb, 0, none⟩)] 173)).alloc (.cells #[.pointer (some ⟨6, 173, none⟩), .pointer (some ⟨w.heap.size, 0, none⟩), .int .u64 150] 195)).alloc (.cells #[.pointer (some ⟨6, 173, none⟩), .pointer (some ⟨w.heap.size, 0, none⟩), .int .u64 150] 195)).alloc (.cells #[.string s, .int .i64 p, .iface 225 (.pointer (some b))] 171)).setCells tb 0 [.string s, .int .i64 p, .iface 225 (.pointer (some b))] = wz at HLt HG hst
  clear hww
  go_enter Tryz.func124, Tryz.ntmps124
  go_wp2
  refine wp_loop_rounds 1 ?_
  rw [rounds_succ]
  go_wp2
  go_ret
  exact ⟨rfl, HLt.out, HG.out⟩
end Go.Proofs.YtbcfjbkmkknmfaaGreatDoor
namespace Go.Proofs.YtbcfjbkmkknmfaaGreatDoor
open Go.RowKit Go.Extern.Stop Go.Stop Go.Extern

/-- a refusal's value -/
def rfv (s : ByteArray) (p : Int) (a : Addr) : Value := .iface 171 (.agg #[.string s, .int .i64 p, .iface 225 (.pointer (some a))])
/-- a sentinel's value -/
def snv (a : Addr) : Value := .iface 225 (.pointer (some a))
/-- what a call must find of the package's variables -/
structure Env (w : World) (aL aN : Addr) : Prop where
  cL : w.cell? ⟨1, 0, none⟩ = some (.iface 225 (.pointer (some aL)))
  cN : w.cell? ⟨0, 0, none⟩ = some (.iface 225 (.pointer (some aN)))
  cT : w.cell? ⟨2, 0, none⟩ = some (.iface 204 (.agg #[.pointer (some ⟨6, 107, none⟩)]))
  ne : aN ≠ aL
  hL : ∃ c t, w.heap[aL.block]? = some (.cells c t (0, 0))
  hN : ∃ c t, w.heap[aN.block]? = some (.cells c t (0, 0))
theorem Env.below {w w' : World} {aL aN : Addr} (h : Env w aL aN) (hb : Below w.heap.size w w') : Env w' aL aN where
  cL := (hb.cell (p := ⟨1, 0, none⟩) (World.block_lt_of_cell? w _ h.cL)).trans h.cL
  cN := (hb.cell (p := ⟨0, 0, none⟩) (World.block_lt_of_cell? w _ h.cN)).trans h.cN
  cT := (hb.cell (p := ⟨2, 0, none⟩) (World.block_lt_of_cell? w _ h.cT)).trans h.cT
  ne := h.ne
  hL := by obtain ⟨c, t, e⟩ := h.hL; exact ⟨c, t, (hb.block _ (Owns.grownR.lt_of_heap e)).trans e⟩
  hN := by obtain ⟨c, t, e⟩ := h.hN; exact ⟨c, t, (hb.block _ (Owns.grownR.lt_of_heap e)).trans e⟩
set_option maxHeartbeats 4000000 in
theorem inPart_sent {aL aN : Addr} (s : ByteArray) (a : Addr) (w : World) (he : Env w aL aN) : Calls Tryz.prog 104 #[.string s, .iface 225 (.pointer (some a))] w fun e w' => e = .returned (rfv s (-1) a) ∧ Below w.heap.size w w' := by
  have hn := fun W => run_eql_iface_nil_left (P := Tryz.prog) W 225 (.pointer (some a)) Tryz.underlying107
  have HB0 : Hid (Below w.heap.size w (w.alloc (.cells #[.string ByteArray.empty, .int .i64 0, .nilIface] 171))) := (Below.refl _ _).alloc (Nat.le_refl _) _
  have HL0 : Hid (Lies (w.alloc (.cells #[.string ByteArray.empty, .int .i64 0, .nilIface] 171)) w.heap.size [.string ByteArray.empty, .int .i64 0, .nilIface]) := lies_new _ _ _
  have CA := as_miss a ⟨w.heap.size, 0, none⟩ (w.alloc (.cells #[.string ByteArray.empty, .int .i64 0, .nilIface] 171)) (he.below HB0.out).cT
  unfold rfv
  clear he
  go_enter Tryz.func104, Tryz.ntmps104
  go_wp2_with fail
  refine CA.mono ?_
  rintro e w1 ⟨rfl, hb1⟩
  have HL1 : Hid (Lies w1 w.heap.size [.string ByteArray.empty, .int .i64 0, .nilIface]) := HL0.out.belowS hb1
  have HB1 : Hid (Below w.heap.size w w1) := HB0.out.trans (hb1.mono HB0.out.size)
  have t0 : w1.cell? ⟨w.heap.size, 0, none⟩ = some (.string ByteArray.empty) := HL1.out.at 0
  have t1 : w1.cell? ⟨w.heap.size, 1, none⟩ = some (.int .i64 0) := HL1.out.at 1
  have t2 : w1.cell? ⟨w.heap.size, 2, none⟩ = some .nilIface := HL1.out.at 2
  have u0 : w1.frozen? ⟨w.heap.size, 0, none⟩ = false := HL1.out.fr 0
  have u1 : w1.frozen? ⟨w.heap.size, 1, none⟩ = false := HL1.out.fr 1
  have u2 : w1.frozen? ⟨w.heap.size, 2, none⟩ = false := HL1.out.fr 2
  have HBz : Hid (Below w.heap.size w ((((w1.setCell ⟨w.heap.size, 0, none⟩ (.string ByteArray.empty)).setCell ⟨w.heap.size, 1, none⟩ (.int .i64 (-1))).setCell ⟨w.heap.size, 2, none⟩ (.iface 225 (.pointer (some a)))).setCell ⟨w.heap.size, 0, none⟩ (.string s))) := (((HB1.out.setCell (Nat.le_refl _) _).setCell (Nat.le_refl _) _).setCell (Nat.le_refl _) _).setCell (Nat.le_refl _) _
  clear hb1 HL0 HB0
  go_wp2
  go_ret
  exact ⟨rfl, HBz.out⟩
set_option maxHeartbeats 4000000 in
theorem inPart_ref {aL aN : Addr} (s s0 : ByteArray) (p : Int) (a : Addr) (w : World) (he : Env w aL aN) : Calls Tryz.prog 104 #[.string s, rfv s0 p a] w fun e w' => e = .returned (rfv s p a) ∧ Below w.heap.size w w' := by
  have hn := fun W => run_eql_iface_nil_left (P := Tryz.prog) W 171 (.agg #[.string s0, .int .i64 p, .iface 225 (.pointer (some a))]) Tryz.underlying107
  have HB0 : Hid (Below w.heap.size w (w.alloc (.cells #[.string ByteArray.empty, .int .i64 0, .nilIface] 171))) := (Below.refl _ _).alloc (Nat.le_refl _) _
  have HL0 : Hid (Lies (w.alloc (.cells #[.string ByteArray.empty, .int .i64 0, .nilIface] 171)) w.heap.size [.string ByteArray.empty, .int .i64 0, .nilIface]) := lies_new _ _ _
  have CA := as_hit s0 p a w.heap.size [.string ByteArray.empty, .int .i64 0, .nilIface] (w.alloc (.cells #[.string ByteArray.empty, .int .i64 0, .nilIface] 171)) (he.below HB0.out).cT HL0.out rfl
  unfold rfv
  clear he
  go_enter Tryz.func104, Tryz.ntmps104
  go_wp2_with fail
  refine CA.mono ?_
  rintro e w1 ⟨rfl, hl1, hg1⟩
  have HB1 : Hid (Below w.heap.size w w1) := HB0.out.grown hg1 HB0.out.size (fun q hq => by injection hq with hq; omega)
  have t0 : w1.cell? ⟨w.heap.size, 0, none⟩ = some (.string s0) := hl1.at 0
  have t1 : w1.cell? ⟨w.heap.size, 1, none⟩ = some (.int .i64 p) := hl1.at 1
  have t2 : w1.cell? ⟨w.heap.size, 2, none⟩ = some (.iface 225 (.pointer (some a))) := hl1.at 2
  have u0 : w1.frozen? ⟨w.heap.size, 0, none⟩ = false := hl1.fr 0
  have HBz : Hid (Below w.heap.size w (w1.setCell ⟨w.heap.size, 0, none⟩ (.string s))) := HB1.out.setCell (Nat.le_refl _) _
  clear hg1 hl1 HL0 HB0
  go_wp2
  go_ret
  exact ⟨rfl, HBz.out⟩
theorem M.all_stepE {zs : List Int} {k : Nat} (hk : k < zs.length) : ((zs.take k).all M.el && M.el (zs.getD k 0)) = (zs.take (k + 1)).all M.el := by
  rw [List.take_succ_eq_append_getElem hk, List.all_append, List.getD_eq_getElem?_getD, List.getElem?_eq_getElem hk]
  simp
def LFPost (n : Nat) (many : Int) (zs : List Int) (aL aN : Addr) (e : Ending) : Prop := ((¬ (n : Int) = many ∧ e = .returned (snv aL)) ∨ ((n : Int) = many ∧ M.allEl zs = true ∧ e = .returned .nilIface) ∨ ((n : Int) = many ∧ M.allEl zs = false ∧ ∃ i : Int, e = .returned (rfv ByteArray.empty i aN)))
theorem elementE_any (a : Int) (w : World) : Calls Tryz.prog 113 #[.int .i64 a] w fun e w' => e = .returned (.tuple #[.int .i64 (if M.el a = true then a else 0), .bool (M.el a)]) ∧ w' = w := by
  cases h : M.el a with
  | true => exact elementOf_in a w ((M.el_iff a).1 h).1 ((M.el_iff a).1 h).2
  | false =>
    refine elementOf_out a w ?_
    rcases Int.lt_or_le a 0 with h0 | h0
    · exact .inl h0
    · rcases Int.lt_or_le a 65537 with h1 | h1
      · rw [(M.el_iff a).2 ⟨h0, h1⟩] at h; cases h
      · exact .inr h1
set_option maxHeartbeats 4000000 in
theorem listFault_any {a : Option Addr} {n c : Nat} {zs : List Int} {aL aN : Addr} (many : Int) (w : World) (he : Env w aL aN) (hz : Sees w a n c zs) : Calls Tryz.prog 129 #[.slice a n c, .int .i64 many] w fun e w' => LFPost n many zs aL aN e ∧ w' = w := by
  have gL := he.cL
  have gN := he.cN
  have bn : (n : Int) ≤ 9223372036854775807 := by have := hz.big; have := hz.le; omega
  by_cases hm : (n : Int) = many
  · subst hm
    have hne : ((n : Int) != (n : Int)) = false := by simp
    have HZ : Hid (Sees w a n c zs) := hz
    clear gL he
    go_enter Tryz.func129, Tryz.ntmps129
    go_wp2
    go_loopw [16] (fun i wr => ∃ k : Nat, k ≤ n ∧ i = .int .i64 k ∧ wr = w ∧ (zs.take k).all M.el = true) (fun i _ => n - (intOf i).toNat)
    case atStart => exact ⟨0, by omega, rfl, rfl, rfl⟩
    case round =>
      obtain ⟨k, hk, rfl, rfl, hall⟩ := hrel
      have HA : Hid ((zs.take k).all M.el = true) := hall
      clear hall
      by_cases hlt : k < n
      · obtain ⟨b1, o1, rfl, hc1⟩ := HZ.out.at (by omega)
        have e1 := hc1 k hlt
        have hI : (k : Int) < (n : Int) := by omega
        have HS : Hid (((zs.take k).all M.el && M.el (zs.getD k 0)) = (zs.take (k + 1)).all M.el) := M.all_stepE (by rw [HZ.out.len]; exact hlt)
        have C1 := elementE_any (zs.getD k 0)
        generalize hx : zs.getD k 0 = x at e1 HS C1
        clear hc1
        cases hel : M.el x with
        | true =>
          rw [hel] at C1 HS
          have HS' : Hid ((zs.take (k + 1)).all M.el = true) := by have h1 := HS.out; rw [HA.out] at h1; exact h1.symm
          clear HS hx hel
          go_wp2_with fail
          refine (C1 _).mono ?_
          rintro e w ⟨rfl, rfl⟩
          go_wp2
          go_roundw
          case rel => exact ⟨k + 1, by omega, by go_num, by simp, HS'.out⟩
          case measure => simp [intOf]; omega
        | false =>
          rw [hel] at C1 HS
          have HS' : Hid ((zs.take (k + 1)).all M.el = false) := by have h1 := HS.out; rw [HA.out] at h1; exact h1.symm
          clear HS hx hel
          go_wp2_with fail
          refine (C1 _).mono ?_
          rintro e w ⟨rfl, rfl⟩
          go_wp2
          go_ret
          refine ⟨.inr (.inr ⟨rfl, ?_, _, rfl⟩), rfl⟩
          have h1 := HS'.out
          cases hz1 : M.allEl zs with
          | false => rfl
          | true =>
            exfalso
            have : (zs.take (k + 1)).all M.el = true := by
              rw [List.all_eq_true] at *
              intro u hu
              exact (List.all_eq_true.1 hz1) u (List.mem_of_mem_take hu)
            rw [this] at h1; cases h1
      · have hkn : k = n := by omega
        have HKN : Hid (M.allEl zs = true) := by
          have h1 := HA.out
          rw [hkn, List.take_of_length_le (by rw [HZ.out.len]; exact Nat.le_refl _)] at h1
          exact h1
        go_wp2
        go_ret
        exact ⟨.inr (.inl ⟨rfl, HKN.out, rfl⟩), rfl⟩
  · have hne : ((n : Int) != many) = true := by simp [hm]
    clear hz he
    go_enter Tryz.func129, Tryz.ntmps129
    go_wp2
    go_ret
    exact ⟨.inl ⟨hm, rfl⟩, rfl⟩
end Go.Proofs.YtbcfjbkmkknmfaaGreatDoor
namespace Go.Proofs.YtbcfjbkmkknmfaaGreatDoor
open Go.RowKit Go.Extern.Stop Go.Stop Go.Extern

theorem run_neq_iface_nil {P : Program} {ti : TypeId} {ms : Array (String × TypeId)} (w : World) (tp : TypeId) (v : Value) (hi : P.underlying ti = some (.interface ms)) : (binOp .neq ti (.iface tp v) .nilIface).run P w = .ok (.bool true) w := by
  have h : ∀ d : Nat, (Op.equalIn (d + 1) ti (.iface tp v) .nilIface).run P w = .ok false w := fun d => by simp [Op.equalIn, run_underlying hi]
  simp only [binOp]
  simp [Op.equal, Op.maxDepth, h 9999]
theorem M.lenEl_no {l : List Int} {n : Nat} (h : ¬ (l.length : Int) = 4 * (n : Int)) : M.lenEl l n = false := by
  cases e : M.lenEl l n with
  | false => rfl
  | true => exact absurd ((M.lenEl_iff l n).1 e).1 (by omega)
theorem M.lenEl_el {l : List Int} (h : M.allEl l = false) (n : Nat) : M.lenEl l n = false := by
  cases e : M.lenEl l n with
  | false => rfl
  | true => rw [((M.lenEl_iff l n).1 e).2] at h; cases h
theorem M.lenEl_yes {l : List Int} {n : Nat} (h1 : (l.length : Int) = 4 * (n : Int)) (h2 : M.allEl l = true) : M.lenEl l n = true := (M.lenEl_iff l n).2 ⟨by omega, h2⟩
theorem M.form_len1 {s e : Int × Int} {z1 z2 z3 z4 : List Int} {n : Nat} (h : ¬ (z1.length : Int) = 4 * (n : Int)) : M.Pf.form ⟨s, e, z1, z2, z3, z4⟩ n = false := by
  unfold M.Pf.form; dsimp only; rw [M.lenEl_no h]; simp
theorem M.form_el1 {s e : Int × Int} {z1 z2 z3 z4 : List Int} (h : M.allEl z1 = false) (n : Nat) : M.Pf.form ⟨s, e, z1, z2, z3, z4⟩ n = false := by
  unfold M.Pf.form; dsimp only; rw [M.lenEl_el h]; simp
theorem M.form_len2 {s e : Int × Int} {z1 z2 z3 z4 : List Int} {n : Nat} (h : ¬ (z2.length : Int) = 4 * (n : Int)) : M.Pf.form ⟨s, e, z1, z2, z3, z4⟩ n = false := by
  unfold M.Pf.form; dsimp only; rw [M.lenEl_no h]; simp
theorem M.form_el2 {s e : Int × Int} {z1 z2 z3 z4 : List Int} (h : M.allEl z2 = false) (n : Nat) : M.Pf.form ⟨s, e, z1, z2, z3, z4⟩ n = false := by
  unfold M.Pf.form; dsimp only; rw [M.lenEl_el h]; simp
theorem M.form_len3 {s e : Int × Int} {z1 z2 z3 z4 : List Int} {n : Nat} (h : ¬ (z3.length : Int) = 4 * (n : Int)) : M.Pf.form ⟨s, e, z1, z2, z3, z4⟩ n = false := by
  unfold M.Pf.form; dsimp only; rw [M.lenEl_no h]; simp
theorem M.form_el3 {s e : Int × Int} {z1 z2 z3 z4 : List Int} (h : M.allEl z3 = false) (n : Nat) : M.Pf.form ⟨s, e, z1, z2, z3, z4⟩ n = false := by
  unfold M.Pf.form; dsimp only; rw [M.lenEl_el h]; simp
theorem M.form_len4 {s e : Int × Int} {z1 z2 z3 z4 : List Int} {n : Nat} (h : ¬ (z4.length : Int) = 4 * (n : Int)) : M.Pf.form ⟨s, e, z1, z2, z3, z4⟩ n = false := by
  unfold M.Pf.form; dsimp only; rw [M.lenEl_no h]; simp
theorem M.form_el4 {s e : Int × Int} {z1 z2 z3 z4 : List Int} (h : M.allEl z4 = false) (n : Nat) : M.Pf.form ⟨s, e, z1, z2, z3, z4⟩ n = false := by
  unfold M.Pf.form; dsimp only; rw [M.lenEl_el h]; simp
theorem M.form_s {s e : Int × Int} {z1 z2 z3 z4 : List Int} (h : M.sOk s = false) (n : Nat) : M.Pf.form ⟨s, e, z1, z2, z3, z4⟩ n = false := by
  unfold M.Pf.form; dsimp only; rw [h]; simp
theorem M.form_e {s e : Int × Int} {z1 z2 z3 z4 : List Int} (h : M.sOk e = false) (n : Nat) : M.Pf.form ⟨s, e, z1, z2, z3, z4⟩ n = false := by
  unfold M.Pf.form; dsimp only; rw [h]; simp
def FFPost (p : M.Pf) (N : Nat) (aL aN : Addr) (e : Ending) : Prop :=
  (e = .returned .nilIface ∧ p.form N = true) ∨ ((∃ s q, e = .returned (rfv s q aL)) ∧ p.form N = false) ∨ ((∃ s q, e = .returned (rfv s q aN)) ∧ ∀ k, p.form k = false)
set_option maxHeartbeats 2000000 in
theorem listsOf_any {a1 a2 a3 a4 : Option Addr} {n1 n2 n3 n4 c1 c2 c3 c4 : Nat} (s1 s2 e1 e2 : Int) (w : World) : Calls Tryz.prog 128 #[.agg #[.int .i64 s1, .int .i64 s2, .int .i64 e1, .int .i64 e2, .slice a1 n1 c1, .slice a2 n2 c2, .slice a3 n3 c3, .slice a4 n4 c4]] w fun e w' => ∃ g, e = .returned (.slice (some ⟨g, 0, none⟩) 4 4) ∧ Lies w' g [.string { data := #[88] }, .slice a1 n1 c1, .string { data := #[89] }, .slice a2 n2 c2, .string { data := #[81, 88] }, .slice a3 n3 c3, .string { data := #[81, 89] }, .slice a4 n4 c4] ∧ Below w.heap.size w w' := by
  have HL : Hid (Lies ((w.alloc (.cells #[.int .i64 s1, .int .i64 s2, .int .i64 e1, .int .i64 e2, .slice a1 n1 c1, .slice a2 n2 c2, .slice a3 n3 c3, .slice a4 n4 c4] 34)).alloc (.cells #[.string { data := #[88] }, .slice a1 n1 c1, .string { data := #[89] }, .slice a2 n2 c2, .string { data := #[81, 88] }, .slice a3 n3 c3, .string { data := #[81, 89] }, .slice a4 n4 c4] 180)) (w.heap.size + 1) [.string { data := #[88] }, .slice a1 n1 c1, .string { data := #[89] }, .slice a2 n2 c2, .string { data := #[81, 88] }, .slice a3 n3 c3, .string { data := #[81, 89] }, .slice a4 n4 c4]) := lies_new2 _ _ _ _
  have HB : Hid (Below w.heap.size w ((w.alloc (.cells #[.int .i64 s1, .int .i64 s2, .int .i64 e1, .int .i64 e2, .slice a1 n1 c1, .slice a2 n2 c2, .slice a3 n3 c3, .slice a4 n4 c4] 34)).alloc (.cells #[.string { data := #[88] }, .slice a1 n1 c1, .string { data := #[89] }, .slice a2 n2 c2, .string { data := #[81, 88] }, .slice a3 n3 c3, .string { data := #[81, 89] }, .slice a4 n4 c4] 180))) := ((Below.refl _ _).alloc (Nat.le_refl _) _).alloc (by simp) _
  go_enter Tryz.func128, Tryz.ntmps128
  go_wp2
  go_ret
  exact ⟨_, rfl, HL.out, HB.out⟩
set_option maxHeartbeats 8000000 in
set_option maxRecDepth 10000 in
theorem formFault_any {a1 a2 a3 a4 : Option Addr} {n1 n2 n3 n4 c1 c2 c3 c4 : Nat} {z1 z2 z3 z4 : List Int} {aL aN : Addr} (s1 s2 e1 e2 : Int) (N : Nat) (w : World) (hN : N ≤ 16) (he : Env w aL aN) (h1 : Sees w a1 n1 c1 z1) (h2 : Sees w a2 n2 c2 z2) (h3 : Sees w a3 n3 c3 z3) (h4 : Sees w a4 n4 c4 z4) :
    Calls Tryz.prog 106 #[.agg #[.int .i64 s1, .int .i64 s2, .int .i64 e1, .int .i64 e2, .slice a1 n1 c1, .slice a2 n2 c2, .slice a3 n3 c3, .slice a4 n4 c4], .int .i64 N] w fun e w' => FFPost (⟨(s1, s2), (e1, e2), z1, z2, z3, z4⟩ : M.Pf) N aL aN e ∧ Below w.heap.size w w' := by
  have C1 := implStateOk_any (s1, s2)
  have C2 := implStateOk_any (e1, e2)
  have HS1 : Hid (M.sOk (s1, s2) = false → ∀ k, M.Pf.form (⟨(s1, s2), (e1, e2), z1, z2, z3, z4⟩ : M.Pf) k = false) := fun h => M.form_s h
  have HS2 : Hid (M.sOk (e1, e2) = false → ∀ k, M.Pf.form (⟨(s1, s2), (e1, e2), z1, z2, z3, z4⟩ : M.Pf) k = false) := fun h => M.form_e h
  have HS3 : Hid (M.sOk (s1, s2) = true → M.sOk (e1, e2) = true → M.lenEl z1 N = true → M.lenEl z2 N = true → M.lenEl z3 N = true → M.lenEl z4 N = true → M.Pf.form (⟨(s1, s2), (e1, e2), z1, z2, z3, z4⟩ : M.Pf) N = true) := fun g1 g2 g3 g4 g5 g6 => by
    show _ = _; unfold M.Pf.form; dsimp only; rw [g1, g2, g3, g4, g5, g6]; rfl
  generalize M.sOk (s1, s2) = o1 at C1 HS1 HS3
  generalize M.sOk (e1, e2) = o2 at C2 HS2 HS3
  dsimp only [stv] at C1 C2
  have L1 : Hid (z1.length = n1) := h1.len
  have L2 : Hid (z2.length = n2) := h2.len
  have L3 : Hid (z3.length = n3) := h3.len
  have L4 : Hid (z4.length = n4) := h4.len
  have H1 : Hid (Sees w a1 n1 c1 z1) := h1
  have H2 : Hid (Sees w a2 n2 c2 z2) := h2
  have H3 : Hid (Sees w a3 n3 c3 z3) := h3
  have H4 : Hid (Sees w a4 n4 c4 z4) := h4
  have hN16 : (N : Int) ≤ 16 := by omega
  have HA0 : Hid (Lies (w.alloc (.cells #[.int .i64 s1, .int .i64 s2, .int .i64 e1, .int .i64 e2, .slice a1 n1 c1, .slice a2 n2 c2, .slice a3 n3 c3, .slice a4 n4 c4] 34)) w.heap.size [.int .i64 s1, .int .i64 s2, .int .i64 e1, .int .i64 e2, .slice a1 n1 c1, .slice a2 n2 c2, .slice a3 n3 c3, .slice a4 n4 c4]) := lies_new _ _ _
  have HB0 : Hid (Below w.heap.size w (w.alloc (.cells #[.int .i64 s1, .int .i64 s2, .int .i64 e1, .int .i64 e2, .slice a1 n1 c1, .slice a2 n2 c2, .slice a3 n3 c3, .slice a4 n4 c4] 34))) := (Below.refl _ _).alloc (Nat.le_refl _) _
  have HE0 : Hid (Env (w.alloc (.cells #[.int .i64 s1, .int .i64 s2, .int .i64 e1, .int .i64 e2, .slice a1 n1 c1, .slice a2 n2 c2, .slice a3 n3 c3, .slice a4 n4 c4] 34)) aL aN) := he.below HB0.out
  have CL := listsOf_any (a1 := a1) (a2 := a2) (a3 := a3) (a4 := a4) (n1 := n1) (n2 := n2) (n3 := n3) (n4 := n4) (c1 := c1) (c2 := c2) (c3 := c3) (c4 := c4) s1 s2 e1 e2
  clear he h1 h2 h3 h4
  go_enter Tryz.func106, Tryz.ntmps106
  go_wp2_with fail
  refine (CL _).mono ?_
  rintro e w2 ⟨g, rfl, hl2, hb2⟩
  have HA : Hid (Lies w2 w.heap.size [.int .i64 s1, .int .i64 s2, .int .i64 e1, .int .i64 e2, .slice a1 n1 c1, .slice a2 n2 c2, .slice a3 n3 c3, .slice a4 n4 c4]) := HA0.out.belowS hb2
  have HLL : Hid (Lies w2 g [.string { data := #[88] }, .slice a1 n1 c1, .string { data := #[89] }, .slice a2 n2 c2, .string { data := #[81, 88] }, .slice a3 n3 c3, .string { data := #[81, 89] }, .slice a4 n4 c4]) := hl2
  have HB : Hid (Below w.heap.size w w2) := HB0.out.trans (hb2.mono HB0.out.size)
  have HE : Hid (Env w2 aL aN) := HE0.out.below hb2
  clear hl2 hb2 HA0 HB0 HE0 CL
  go_wp2
  refine wp_loop_rounds 5 ?_
  have x0 : w2.cell? ⟨g, 0, none⟩ = some (.string { data := #[88] }) := HLL.out.at 0
  have x1 : w2.cell? ⟨g, 1, none⟩ = some (.slice a1 n1 c1) := HLL.out.at 1
  have HAn : Hid (Lies (w2.alloc (.cells #[.string { data := #[88] }, .slice a1 n1 c1] 180)) w.heap.size [.int .i64 s1, .int .i64 s2, .int .i64 e1, .int .i64 e2, .slice a1 n1 c1, .slice a2 n2 c2, .slice a3 n3 c3, .slice a4 n4 c4]) := HA.out.alloc _
  have HLn : Hid (Lies (w2.alloc (.cells #[.string { data := #[88] }, .slice a1 n1 c1] 180)) g [.string { data := #[88] }, .slice a1 n1 c1, .string { data := #[89] }, .slice a2 n2 c2, .string { data := #[81, 88] }, .slice a3 n3 c3, .string { data := #[81, 89] }, .slice a4 n4 c4]) := HLL.out.alloc _
  have HBn : Hid (Below w.heap.size w (w2.alloc (.cells #[.string { data := #[88] }, .slice a1 n1 c1] 180))) := HB.out.alloc HB.out.size _
  have HEn : Hid (Env (w2.alloc (.cells #[.string { data := #[88] }, .slice a1 n1 c1] 180)) aL aN) := HE.out.below ((Below.refl _ _).alloc (Nat.le_refl _) _)
  have HVn : Hid (Lies (w2.alloc (.cells #[.string { data := #[88] }, .slice a1 n1 c1] 180)) w2.heap.size [.string { data := #[88] }, .slice a1 n1 c1]) := lies_new _ _ _
  have hcf := listFault_any (4 * N) (w2.alloc (.cells #[.string { data := #[88] }, .slice a1 n1 c1] 180)) HEn.out (H1.out.below HBn.out)
  rw [rounds_succ]
  go_wp2_with fail
  refine hcf.mono ?_
  rintro e wl1 ⟨hpost, hwl⟩
  generalize (w2.alloc (.cells #[.string { data := #[88] }, .slice a1 n1 c1] 180)) = wv at HAn HLn HBn HEn HVn hwl hcf ⊢
  subst hwl
  generalize w2.heap.size = vb at HVn ⊢
  clear x0 x1 HA HLL HB HE hcf
  have HA : Hid (Lies wl1 w.heap.size [.int .i64 s1, .int .i64 s2, .int .i64 e1, .int .i64 e2, .slice a1 n1 c1, .slice a2 n2 c2, .slice a3 n3 c3, .slice a4 n4 c4]) := HAn.out
  have HLL : Hid (Lies wl1 g [.string { data := #[88] }, .slice a1 n1 c1, .string { data := #[89] }, .slice a2 n2 c2, .string { data := #[81, 88] }, .slice a3 n3 c3, .string { data := #[81, 89] }, .slice a4 n4 c4]) := HLn.out
  have HB : Hid (Below w.heap.size w wl1) := HBn.out
  have HE : Hid (Env wl1 aL aN) := HEn.out
  have y0 : wl1.cell? ⟨vb, 0, none⟩ = some (.string { data := #[88] }) := HVn.out.at 0
  clear HAn HLn HBn HEn HVn
  rcases hpost with ⟨hlen, rfl⟩ | ⟨hlen, hal, rfl⟩ | ⟨hlen, hal, i, rfl⟩
  · have HLen : Hid (¬ (n1 : Int) = 4 * N) := hlen
    clear hlen
    have hnn := fun W => run_neq_iface_nil (P := Tryz.prog) W 225 (.pointer (some aL)) Tryz.underlying107
    unfold snv
    go_wp2_with fail
    refine (inPart_sent _ aL _ HE.out).mono ?_
    rintro e w9 ⟨rfl, hb9⟩
    have HB9 : Hid (Below w.heap.size w w9) := HB.out.trans (hb9.mono HB.out.size)
    clear hb9
    go_wp2
    go_ret
    exact ⟨.inr (.inl ⟨⟨_, _, rfl⟩, M.form_len1 (by rw [L1.out]; exact HLen.out)⟩), HB9.out⟩
  rotate_left
  · have HAl : Hid (M.allEl z1 = false) := hal
    clear hlen hal
    have hnn := fun W => run_neq_iface_nil (P := Tryz.prog) W 171 (.agg #[.string ByteArray.empty, .int .i64 i, .iface 225 (.pointer (some aN))]) Tryz.underlying107
    unfold rfv
    go_wp2_with fail
    refine (inPart_ref _ ByteArray.empty i aN _ HE.out).mono ?_
    rintro e w9 ⟨rfl, hb9⟩
    have HB9 : Hid (Below w.heap.size w w9) := HB.out.trans (hb9.mono HB.out.size)
    clear hb9
    go_wp2
    go_ret
    exact ⟨.inr (.inr ⟨⟨_, _, rfl⟩, fun kk => M.form_el1 HAl.out kk⟩), HB9.out⟩
  have HLen1 : Hid ((n1 : Int) = 4 * N) := hlen
  have HAl1 : Hid (M.allEl z1 = true) := hal
  clear hlen hal y0
  go_wp2
  have x0 : wl1.cell? ⟨g, 2, none⟩ = some (.string { data := #[89] }) := HLL.out.at 2
  have x1 : wl1.cell? ⟨g, 3, none⟩ = some (.slice a2 n2 c2) := HLL.out.at 3
  have HAn : Hid (Lies (wl1.alloc (.cells #[.string { data := #[89] }, .slice a2 n2 c2] 180)) w.heap.size [.int .i64 s1, .int .i64 s2, .int .i64 e1, .int .i64 e2, .slice a1 n1 c1, .slice a2 n2 c2, .slice a3 n3 c3, .slice a4 n4 c4]) := HA.out.alloc _
  have HLn : Hid (Lies (wl1.alloc (.cells #[.string { data := #[89] }, .slice a2 n2 c2] 180)) g [.string { data := #[88] }, .slice a1 n1 c1, .string { data := #[89] }, .slice a2 n2 c2, .string { data := #[81, 88] }, .slice a3 n3 c3, .string { data := #[81, 89] }, .slice a4 n4 c4]) := HLL.out.alloc _
  have HBn : Hid (Below w.heap.size w (wl1.alloc (.cells #[.string { data := #[89] }, .slice a2 n2 c2] 180))) := HB.out.alloc HB.out.size _
  have HEn : Hid (Env (wl1.alloc (.cells #[.string { data := #[89] }, .slice a2 n2 c2] 180)) aL aN) := HE.out.below ((Below.refl _ _).alloc (Nat.le_refl _) _)
  have HVn : Hid (Lies (wl1.alloc (.cells #[.string { data := #[89] }, .slice a2 n2 c2] 180)) wl1.heap.size [.string { data := #[89] }, .slice a2 n2 c2]) := lies_new _ _ _
  have hcf := listFault_any (4 * N) (wl1.alloc (.cells #[.string { data := #[89] }, .slice a2 n2 c2] 180)) HEn.out (H2.out.below HBn.out)
  rw [rounds_succ]
  go_wp2_with fail
  refine hcf.mono ?_
  rintro e wl2 ⟨hpost, hwl⟩
  generalize (wl1.alloc (.cells #[.string { data := #[89] }, .slice a2 n2 c2] 180)) = wv at HAn HLn HBn HEn HVn hwl hcf ⊢
  subst hwl
  generalize wl1.heap.size = vb at HVn ⊢
  clear x0 x1 HA HLL HB HE hcf
  have HA : Hid (Lies wl2 w.heap.size [.int .i64 s1, .int .i64 s2, .int .i64 e1, .int .i64 e2, .slice a1 n1 c1, .slice a2 n2 c2, .slice a3 n3 c3, .slice a4 n4 c4]) := HAn.out
  have HLL : Hid (Lies wl2 g [.string { data := #[88] }, .slice a1 n1 c1, .string { data := #[89] }, .slice a2 n2 c2, .string { data := #[81, 88] }, .slice a3 n3 c3, .string { data := #[81, 89] }, .slice a4 n4 c4]) := HLn.out
  have HB : Hid (Below w.heap.size w wl2) := HBn.out
  have HE : Hid (Env wl2 aL aN) := HEn.out
  have y0 : wl2.cell? ⟨vb, 0, none⟩ = some (.string { data := #[89] }) := HVn.out.at 0
  clear HAn HLn HBn HEn HVn
  rcases hpost with ⟨hlen, rfl⟩ | ⟨hlen, hal, rfl⟩ | ⟨hlen, hal, i, rfl⟩
  · have HLen : Hid (¬ (n2 : Int) = 4 * N) := hlen
    clear hlen
    have hnn := fun W => run_neq_iface_nil (P := Tryz.prog) W 225 (.pointer (some aL)) Tryz.underlying107
    unfold snv
    go_wp2_with fail
    refine (inPart_sent _ aL _ HE.out).mono ?_
    rintro e w9 ⟨rfl, hb9⟩
    have HB9 : Hid (Below w.heap.size w w9) := HB.out.trans (hb9.mono HB.out.size)
    clear hb9
    go_wp2
    go_ret
    exact ⟨.inr (.inl ⟨⟨_, _, rfl⟩, M.form_len2 (by rw [L2.out]; exact HLen.out)⟩), HB9.out⟩
  rotate_left
  · have HAl : Hid (M.allEl z2 = false) := hal
    clear hlen hal
    have hnn := fun W => run_neq_iface_nil (P := Tryz.prog) W 171 (.agg #[.string ByteArray.empty, .int .i64 i, .iface 225 (.pointer (some aN))]) Tryz.underlying107
    unfold rfv
    go_wp2_with fail
    refine (inPart_ref _ ByteArray.empty i aN _ HE.out).mono ?_
    rintro e w9 ⟨rfl, hb9⟩
    have HB9 : Hid (Below w.heap.size w w9) := HB.out.trans (hb9.mono HB.out.size)
    clear hb9
    go_wp2
    go_ret
    exact ⟨.inr (.inr ⟨⟨_, _, rfl⟩, fun kk => M.form_el2 HAl.out kk⟩), HB9.out⟩
  have HLen2 : Hid ((n2 : Int) = 4 * N) := hlen
  have HAl2 : Hid (M.allEl z2 = true) := hal
  clear hlen hal y0
  go_wp2
  have x0 : wl2.cell? ⟨g, 4, none⟩ = some (.string { data := #[81, 88] }) := HLL.out.at 4
  have x1 : wl2.cell? ⟨g, 5, none⟩ = some (.slice a3 n3 c3) := HLL.out.at 5
  have HAn : Hid (Lies (wl2.alloc (.cells #[.string { data := #[81, 88] }, .slice a3 n3 c3] 180)) w.heap.size [.int .i64 s1, .int .i64 s2, .int .i64 e1, .int .i64 e2, .slice a1 n1 c1, .slice a2 n2 c2, .slice a3 n3 c3, .slice a4 n4 c4]) := HA.out.alloc _
  have HLn : Hid (Lies (wl2.alloc (.cells #[.string { data := #[81, 88] }, .slice a3 n3 c3] 180)) g [.string { data := #[88] }, .slice a1 n1 c1, .string { data := #[89] }, .slice a2 n2 c2, .string { data := #[81, 88] }, .slice a3 n3 c3, .string { data := #[81, 89] }, .slice a4 n4 c4]) := HLL.out.alloc _
  have HBn : Hid (Below w.heap.size w (wl2.alloc (.cells #[.string { data := #[81, 88] }, .slice a3 n3 c3] 180))) := HB.out.alloc HB.out.size _
  have HEn : Hid (Env (wl2.alloc (.cells #[.string { data := #[81, 88] }, .slice a3 n3 c3] 180)) aL aN) := HE.out.below ((Below.refl _ _).alloc (Nat.le_refl _) _)
  have HVn : Hid (Lies (wl2.alloc (.cells #[.string { data := #[81, 88] }, .slice a3 n3 c3] 180)) wl2.heap.size [.string { data := #[81, 88] }, .slice a3 n3 c3]) := lies_new _ _ _
  have hcf := listFault_any (4 * N) (wl2.alloc (.cells #[.string { data := #[81, 88] }, .slice a3 n3 c3] 180)) HEn.out (H3.out.below HBn.out)
  rw [rounds_succ]
  go_wp2_with fail
  refine hcf.mono ?_
  rintro e wl3 ⟨hpost, hwl⟩
  generalize (wl2.alloc (.cells #[.string { data := #[81, 88] }, .slice a3 n3 c3] 180)) = wv at HAn HLn HBn HEn HVn hwl hcf ⊢
  subst hwl
  generalize wl2.heap.size = vb at HVn ⊢
  clear x0 x1 HA HLL HB HE hcf
  have HA : Hid (Lies wl3 w.heap.size [.int .i64 s1, .int .i64 s2, .int .i64 e1, .int .i64 e2, .slice a1 n1 c1, .slice a2 n2 c2, .slice a3 n3 c3, .slice a4 n4 c4]) := HAn.out
  have HLL : Hid (Lies wl3 g [.string { data := #[88] }, .slice a1 n1 c1, .string { data := #[89] }, .slice a2 n2 c2, .string { data := #[81, 88] }, .slice a3 n3 c3, .string { data := #[81, 89] }, .slice a4 n4 c4]) := HLn.out
  have HB : Hid (Below w.heap.size w wl3) := HBn.out
  have HE : Hid (Env wl3 aL aN) := HEn.out
  have y0 : wl3.cell? ⟨vb, 0, none⟩ = some (.string { data := #[81, 88] }) := HVn.out.at 0
  clear HAn HLn HBn HEn HVn
  rcases hpost with ⟨hlen, rfl⟩ | ⟨hlen, hal, rfl⟩ | ⟨hlen, hal, i, rfl⟩
  · have HLen : Hid (¬ (n3 : Int) = 4 * N) := hlen
    clear hlen
    have hnn := fun W => run_neq_iface_nil (P := Tryz.prog) W 225 (.pointer (some aL)) Tryz.underlying107
    unfold snv
    go_wp2_with fail
    refine (inPart_sent _ aL _ HE.out).mono ?_
    rintro e w9 ⟨rfl, hb9⟩
    have HB9 : Hid (Below w.heap.size w w9) := HB.out.trans (hb9.mono HB.out.size)
    clear hb9
    go_wp2
    go_ret
    exact ⟨.inr (.inl ⟨⟨_, _, rfl⟩, M.form_len3 (by rw [L3.out]; exact HLen.out)⟩), HB9.out⟩
  rotate_left
  · have HAl : Hid (M.allEl z3 = false) := hal
    clear hlen hal
    have hnn := fun W => run_neq_iface_nil (P := Tryz.prog) W 171 (.agg #[.string ByteArray.empty, .int .i64 i, .iface 225 (.pointer (some aN))]) Tryz.underlying107
    unfold rfv
    go_wp2_with fail
    refine (inPart_ref _ ByteArray.empty i aN _ HE.out).mono ?_
    rintro e w9 ⟨rfl, hb9⟩
    have HB9 : Hid (Below w.heap.size w w9) := HB.out.trans (hb9.mono HB.out.size)
    clear hb9
    go_wp2
    go_ret
    exact ⟨.inr (.inr ⟨⟨_, _, rfl⟩, fun kk => M.form_el3 HAl.out kk⟩), HB9.out⟩
  have HLen3 : Hid ((n3 : Int) = 4 * N) := hlen
  have HAl3 : Hid (M.allEl z3 = true) := hal
  clear hlen hal y0
  go_wp2
  have x0 : wl3.cell? ⟨g, 6, none⟩ = some (.string { data := #[81, 89] }) := HLL.out.at 6
  have x1 : wl3.cell? ⟨g, 7, none⟩ = some (.slice a4 n4 c4) := HLL.out.at 7
  have HAn : Hid (Lies (wl3.alloc (.cells #[.string { data := #[81, 89] }, .slice a4 n4 c4] 180)) w.heap.size [.int .i64 s1, .int .i64 s2, .int .i64 e1, .int .i64 e2, .slice a1 n1 c1, .slice a2 n2 c2, .slice a3 n3 c3, .slice a4 n4 c4]) := HA.out.alloc _
  have HLn : Hid (Lies (wl3.alloc (.cells #[.string { data := #[81, 89] }, .slice a4 n4 c4] 180)) g [.string { data := #[88] }, .slice a1 n1 c1, .string { data := #[89] }, .slice a2 n2 c2, .string { data := #[81, 88] }, .slice a3 n3 c3, .string { data := #[81, 89] }, .slice a4 n4 c4]) := HLL.out.alloc _
  have HBn : Hid (Below w.heap.size w (wl3.alloc (.cells #[.string { data := #[81, 89] }, .slice a4 n4 c4] 180))) := HB.out.alloc HB.out.size _
  have HEn : Hid (Env (wl3.alloc (.cells #[.string { data := #[81, 89] }, .slice a4 n4 c4] 180)) aL aN) := HE.out.below ((Below.refl _ _).alloc (Nat.le_refl _) _)
  have HVn : Hid (Lies (wl3.alloc (.cells #[.string { data := #[81, 89] }, .slice a4 n4 c4] 180)) wl3.heap.size [.string { data := #[81, 89] }, .slice a4 n4 c4]) := lies_new _ _ _
  have hcf := listFault_any (4 * N) (wl3.alloc (.cells #[.string { data := #[81, 89] }, .slice a4 n4 c4] 180)) HEn.out (H4.out.below HBn.out)
  rw [rounds_succ]
  go_wp2_with fail
  refine hcf.mono ?_
  rintro e wl4 ⟨hpost, hwl⟩
  generalize (wl3.alloc (.cells #[.string { data := #[81, 89] }, .slice a4 n4 c4] 180)) = wv at HAn HLn HBn HEn HVn hwl hcf ⊢
  subst hwl
  generalize wl3.heap.size = vb at HVn ⊢
  clear x0 x1 HA HLL HB HE hcf
  have HA : Hid (Lies wl4 w.heap.size [.int .i64 s1, .int .i64 s2, .int .i64 e1, .int .i64 e2, .slice a1 n1 c1, .slice a2 n2 c2, .slice a3 n3 c3, .slice a4 n4 c4]) := HAn.out
  have HLL : Hid (Lies wl4 g [.string { data := #[88] }, .slice a1 n1 c1, .string { data := #[89] }, .slice a2 n2 c2, .string { data := #[81, 88] }, .slice a3 n3 c3, .string { data := #[81, 89] }, .slice a4 n4 c4]) := HLn.out
  have HB : Hid (Below w.heap.size w wl4) := HBn.out
  have HE : Hid (Env wl4 aL aN) := HEn.out
  have y0 : wl4.cell? ⟨vb, 0, none⟩ = some (.string { data := #[81, 89] }) := HVn.out.at 0
  clear HAn HLn HBn HEn HVn
  rcases hpost with ⟨hlen, rfl⟩ | ⟨hlen, hal, rfl⟩ | ⟨hlen, hal, i, rfl⟩
  · have HLen : Hid (¬ (n4 : Int) = 4 * N) := hlen
    clear hlen
    have hnn := fun W => run_neq_iface_nil (P := Tryz.prog) W 225 (.pointer (some aL)) Tryz.underlying107
    unfold snv
    go_wp2_with fail
    refine (inPart_sent _ aL _ HE.out).mono ?_
    rintro e w9 ⟨rfl, hb9⟩
    have HB9 : Hid (Below w.heap.size w w9) := HB.out.trans (hb9.mono HB.out.size)
    clear hb9
    go_wp2
    go_ret
    exact ⟨.inr (.inl ⟨⟨_, _, rfl⟩, M.form_len4 (by rw [L4.out]; exact HLen.out)⟩), HB9.out⟩
  rotate_left
  · have HAl : Hid (M.allEl z4 = false) := hal
    clear hlen hal
    have hnn := fun W => run_neq_iface_nil (P := Tryz.prog) W 171 (.agg #[.string ByteArray.empty, .int .i64 i, .iface 225 (.pointer (some aN))]) Tryz.underlying107
    unfold rfv
    go_wp2_with fail
    refine (inPart_ref _ ByteArray.empty i aN _ HE.out).mono ?_
    rintro e w9 ⟨rfl, hb9⟩
    have HB9 : Hid (Below w.heap.size w w9) := HB.out.trans (hb9.mono HB.out.size)
    clear hb9
    go_wp2
    go_ret
    exact ⟨.inr (.inr ⟨⟨_, _, rfl⟩, fun kk => M.form_el4 HAl.out kk⟩), HB9.out⟩
  have HLen4 : Hid ((n4 : Int) = 4 * N) := hlen
  have HAl4 : Hid (M.allEl z4 = true) := hal
  clear hlen hal y0
  go_wp2
  rw [rounds_succ]
  have s0 : wl4.cell? ⟨w.heap.size, 0, none⟩ = some (.int .i64 s1) := HA.out.at 0
  have s1' : wl4.cell? ⟨w.heap.size, 1, none⟩ = some (.int .i64 s2) := HA.out.at 1
  go_wp2_with fail
  refine (C1 _).mono ?_
  rintro e w5 ⟨rfl, hb5⟩
  have HA5 : Hid (Lies w5 w.heap.size [.int .i64 s1, .int .i64 s2, .int .i64 e1, .int .i64 e2, .slice a1 n1 c1, .slice a2 n2 c2, .slice a3 n3 c3, .slice a4 n4 c4]) := HA.out.belowS hb5
  have HB5 : Hid (Below w.heap.size w w5) := HB.out.trans (hb5.mono HB.out.size)
  have HE5 : Hid (Env w5 aL aN) := HE.out.below hb5
  clear hb5 s0 s1' HA HLL HB HE
  cases o1 with
  | false =>
    have gN := HE5.out.cN
    go_wp2_with fail
    refine (inPart_sent _ aN _ HE5.out).mono ?_
    rintro e w9 ⟨rfl, hb9⟩
    have HB9 : Hid (Below w.heap.size w w9) := HB5.out.trans (hb9.mono HB5.out.size)
    clear hb9
    go_wp2
    go_ret
    exact ⟨.inr (.inr ⟨⟨_, _, rfl⟩, HS1.out (by simp)⟩), HB9.out⟩
  | true =>
    have s0 : w5.cell? ⟨w.heap.size, 2, none⟩ = some (.int .i64 e1) := HA5.out.at 2
    have s1' : w5.cell? ⟨w.heap.size, 3, none⟩ = some (.int .i64 e2) := HA5.out.at 3
    go_wp2_with fail
    refine (C2 _).mono ?_
    rintro e w6 ⟨rfl, hb6⟩
    have HB6 : Hid (Below w.heap.size w w6) := HB5.out.trans (hb6.mono HB5.out.size)
    have HE6 : Hid (Env w6 aL aN) := HE5.out.below hb6
    clear hb6 s0 s1' HA5 HB5 HE5
    cases o2 with
    | false =>
      have gN := HE6.out.cN
      go_wp2_with fail
      refine (inPart_sent _ aN _ HE6.out).mono ?_
      rintro e w9 ⟨rfl, hb9⟩
      have HB9 : Hid (Below w.heap.size w w9) := HB6.out.trans (hb9.mono HB6.out.size)
      clear hb9
      go_wp2
      go_ret
      exact ⟨.inr (.inr ⟨⟨_, _, rfl⟩, HS2.out (by simp)⟩), HB9.out⟩
    | true =>
      go_wp2
      go_ret
      exact ⟨.inl ⟨rfl, HS3.out (by simp) (by simp) (M.lenEl_yes (by rw [L1.out]; exact HLen1.out) HAl1.out) (M.lenEl_yes (by rw [L2.out]; exact HLen2.out) HAl2.out) (M.lenEl_yes (by rw [L3.out]; exact HLen3.out) HAl3.out) (M.lenEl_yes (by rw [L4.out]; exact HLen4.out) HAl4.out)⟩, HB6.out⟩
end Go.Proofs.YtbcfjbkmkknmfaaGreatDoor
namespace Go.Proofs.YtbcfjbkmkknmfaaGreatDoor
open Go.RowKit Go.Extern.Stop Go.Stop Go.Extern

theorem M.rows2 {p : M.Pf} (h : p.form 2 = true) : p.rows = 2 := M.rows_of rfl h
theorem M.rows4 {p : M.Pf} (h : p.form 4 = true) : p.rows = 4 := M.rows_of rfl h
theorem M.rows8 {p : M.Pf} (h : p.form 8 = true) : p.rows = 8 := M.rows_of rfl h
theorem M.rows16 {p : M.Pf} (h : p.form 16 = true) : p.rows = 16 := M.rows_of rfl h
theorem M.rows0 {p : M.Pf} (h2 : p.form 2 = false) (h4 : p.form 4 = false) (h8 : p.form 8 = false) (h16 : p.form 16 = false) : p.rows = 0 := by
  unfold M.Pf.rows; rw [h2, h4, h8, h16]; simp
def RIPost (p : M.Pf) (e : Ending) : Prop := (p.rows ≠ 0 ∧ e = .returned (.tuple #[.int .i64 (p.rows : Nat), .nilIface])) ∨ (p.rows = 0 ∧ ∃ s q a, e = .returned (.tuple #[.int .i64 0, rfv s q a]))
set_option maxHeartbeats 8000000 in
set_option maxRecDepth 10000 in
theorem rowsIn_any {a1 a2 a3 a4 : Option Addr} {n1 n2 n3 n4 c1 c2 c3 c4 : Nat} {z1 z2 z3 z4 : List Int} {aL aN : Addr} (s1 s2 e1 e2 : Int) (w : World) (he : Env w aL aN) (h1 : Sees w a1 n1 c1 z1) (h2 : Sees w a2 n2 c2 z2) (h3 : Sees w a3 n3 c3 z3) (h4 : Sees w a4 n4 c4 z4) :
    Calls Tryz.prog 54 #[.agg #[.int .i64 s1, .int .i64 s2, .int .i64 e1, .int .i64 e2, .slice a1 n1 c1, .slice a2 n2 c2, .slice a3 n3 c3, .slice a4 n4 c4]] w fun e w' => RIPost (⟨(s1, s2), (e1, e2), z1, z2, z3, z4⟩ : M.Pf) e ∧ Below w.heap.size w w' := by
  generalize hPF : (⟨(s1, s2), (e1, e2), z1, z2, z3, z4⟩ : M.Pf) = P
  have HPF : Hid ((⟨(s1, s2), (e1, e2), z1, z2, z3, z4⟩ : M.Pf) = P) := hPF
  have HR2 : Hid (P.form 2 = true → P.rows = 2) := M.rows2
  have HR4 : Hid (P.form 4 = true → P.form 2 = false → P.rows = 4) := fun h _ => M.rows4 h
  have HR8 : Hid (P.form 8 = true → P.form 2 = false → P.form 4 = false → P.rows = 8) := fun h _ _ => M.rows8 h
  have HR16 : Hid (P.form 16 = true → P.form 2 = false → P.form 4 = false → P.form 8 = false → P.rows = 16) := fun h _ _ _ => M.rows16 h
  have HR0 : Hid (P.form 2 = false → P.form 4 = false → P.form 8 = false → P.form 16 = false → P.rows = 0) := M.rows0
  have H1 : Hid (Sees w a1 n1 c1 z1) := h1
  have H2 : Hid (Sees w a2 n2 c2 z2) := h2
  have H3 : Hid (Sees w a3 n3 c3 z3) := h3
  have H4 : Hid (Sees w a4 n4 c4 z4) := h4
  have HA0 : Hid (Lies (w.alloc (.cells #[.int .i64 s1, .int .i64 s2, .int .i64 e1, .int .i64 e2, .slice a1 n1 c1, .slice a2 n2 c2, .slice a3 n3 c3, .slice a4 n4 c4] 34)) w.heap.size [.int .i64 s1, .int .i64 s2, .int .i64 e1, .int .i64 e2, .slice a1 n1 c1, .slice a2 n2 c2, .slice a3 n3 c3, .slice a4 n4 c4]) := lies_new _ _ _
  have HB0 : Hid (Below w.heap.size w (w.alloc (.cells #[.int .i64 s1, .int .i64 s2, .int .i64 e1, .int .i64 e2, .slice a1 n1 c1, .slice a2 n2 c2, .slice a3 n3 c3, .slice a4 n4 c4] 34))) := (Below.refl _ _).alloc (Nat.le_refl _) _
  have HE0 : Hid (Env (w.alloc (.cells #[.int .i64 s1, .int .i64 s2, .int .i64 e1, .int .i64 e2, .slice a1 n1 c1, .slice a2 n2 c2, .slice a3 n3 c3, .slice a4 n4 c4] 34)) aL aN) := he.below HB0.out
  have hcf := formFault_any (a1 := a1) (a2 := a2) (a3 := a3) (a4 := a4) (n1 := n1) (n2 := n2) (n3 := n3) (n4 := n4) (c1 := c1) (c2 := c2) (c3 := c3) (c4 := c4) s1 s2 e1 e2 2 (w.alloc (.cells #[.int .i64 s1, .int .i64 s2, .int .i64 e1, .int .i64 e2, .slice a1 n1 c1, .slice a2 n2 c2, .slice a3 n3 c3, .slice a4 n4 c4] 34)) (by decide) HE0.out (h1.below HB0.out) (h2.below HB0.out) (h3.below HB0.out) (h4.below HB0.out)
  clear he h1 h2 h3 h4 hPF
  go_enter Tryz.func54, Tryz.ntmps54
  go_wp2_with fail
  refine hcf.mono ?_
  rintro e w2 ⟨hp, hb⟩
  have HA2 : Hid (Lies w2 w.heap.size [.int .i64 s1, .int .i64 s2, .int .i64 e1, .int .i64 e2, .slice a1 n1 c1, .slice a2 n2 c2, .slice a3 n3 c3, .slice a4 n4 c4]) := HA0.out.belowS hb
  have HB2 : Hid (Below w.heap.size w w2) := HB0.out.trans (hb.mono HB0.out.size)
  have HE2 : Hid (Env w2 aL aN) := HE0.out.below hb
  clear hb hcf HA0 HB0 HE0
  rw [HPF.out] at hp
  rcases hp with ⟨rfl, hf⟩ | ⟨⟨ps, pq, rfl⟩, hf⟩ | ⟨⟨ps, pq, rfl⟩, hf⟩
  · have HF : Hid (P.form 2 = true) := hf
    clear hf
    have gL := HE2.out.cL
    go_wp2
    refine wp_loop_rounds 4 ?_
    rw [rounds_succ]
    go_wp2_with fail
    refine (is_nil aL _).mono ?_
    rintro e wx ⟨rfl, hwx⟩
    subst hwx
    go_wp2
    go_ret2
    exact ⟨.inl ⟨by rw [HR2.out HF.out]; decide, by rw [HR2.out HF.out]; rfl⟩, HB2.out⟩
  · have HF2 : Hid (P.form 2 = false) := hf
    clear hf
    have gL := HE2.out.cL
    unfold rfv
    go_wp2
    refine wp_loop_rounds 4 ?_
    rw [rounds_succ]
    go_wp2_with fail
    refine (is_ref_same ps pq aL _).mono ?_
    rintro e wx2 ⟨rfl, hbx⟩
    have HAx : Hid (Lies wx2 w.heap.size [.int .i64 s1, .int .i64 s2, .int .i64 e1, .int .i64 e2, .slice a1 n1 c1, .slice a2 n2 c2, .slice a3 n3 c3, .slice a4 n4 c4]) := HA2.out.belowS hbx
    have HBx : Hid (Below w.heap.size w wx2) := HB2.out.trans (hbx.mono HB2.out.size)
    have HEx : Hid (Env wx2 aL aN) := HE2.out.below hbx
    have x0 : wx2.cell? ⟨w.heap.size, 0, none⟩ = some (.int .i64 s1) := HAx.out.at 0
    have x1 : wx2.cell? ⟨w.heap.size, 1, none⟩ = some (.int .i64 s2) := HAx.out.at 1
    have x2 : wx2.cell? ⟨w.heap.size, 2, none⟩ = some (.int .i64 e1) := HAx.out.at 2
    have x3 : wx2.cell? ⟨w.heap.size, 3, none⟩ = some (.int .i64 e2) := HAx.out.at 3
    have x4 : wx2.cell? ⟨w.heap.size, 4, none⟩ = some (.slice a1 n1 c1) := HAx.out.at 4
    have x5 : wx2.cell? ⟨w.heap.size, 5, none⟩ = some (.slice a2 n2 c2) := HAx.out.at 5
    have x6 : wx2.cell? ⟨w.heap.size, 6, none⟩ = some (.slice a3 n3 c3) := HAx.out.at 6
    have x7 : wx2.cell? ⟨w.heap.size, 7, none⟩ = some (.slice a4 n4 c4) := HAx.out.at 7
    have hcf := formFault_any (a1 := a1) (a2 := a2) (a3 := a3) (a4 := a4) (n1 := n1) (n2 := n2) (n3 := n3) (n4 := n4) (c1 := c1) (c2 := c2) (c3 := c3) (c4 := c4) s1 s2 e1 e2 4 wx2 (by decide) HEx.out (H1.out.below HBx.out) (H2.out.below HBx.out) (H3.out.below HBx.out) (H4.out.below HBx.out)
    clear hbx gL HA2 HB2 HE2
    go_wp2_with fail
    refine hcf.mono ?_
    rintro e w4 ⟨hp, hb⟩
    have HA4 : Hid (Lies w4 w.heap.size [.int .i64 s1, .int .i64 s2, .int .i64 e1, .int .i64 e2, .slice a1 n1 c1, .slice a2 n2 c2, .slice a3 n3 c3, .slice a4 n4 c4]) := HAx.out.belowS hb
    have HB4 : Hid (Below w.heap.size w w4) := HBx.out.trans (hb.mono HBx.out.size)
    have HE4 : Hid (Env w4 aL aN) := HEx.out.below hb
    clear hb hcf HAx HBx HEx x0 x1 x2 x3 x4 x5 x6 x7
    rw [HPF.out] at hp
    rcases hp with ⟨rfl, hf⟩ | ⟨⟨ps, pq, rfl⟩, hf⟩ | ⟨⟨ps, pq, rfl⟩, hf⟩
    · have HF : Hid (P.form 4 = true) := hf
      clear hf
      have gL := HE4.out.cL
      go_wp2
      rw [rounds_succ]
      go_wp2_with fail
      refine (is_nil aL _).mono ?_
      rintro e wx ⟨rfl, hwx⟩
      subst hwx
      go_wp2
      go_ret2
      exact ⟨.inl ⟨by rw [HR4.out HF.out HF2.out]; decide, by rw [HR4.out HF.out HF2.out]; rfl⟩, HB4.out⟩
    · have HF4 : Hid (P.form 4 = false) := hf
      clear hf
      have gL := HE4.out.cL
      unfold rfv
      go_wp2
      rw [rounds_succ]
      go_wp2_with fail
      refine (is_ref_same ps pq aL _).mono ?_
      rintro e wx4 ⟨rfl, hbx⟩
      have HAx : Hid (Lies wx4 w.heap.size [.int .i64 s1, .int .i64 s2, .int .i64 e1, .int .i64 e2, .slice a1 n1 c1, .slice a2 n2 c2, .slice a3 n3 c3, .slice a4 n4 c4]) := HA4.out.belowS hbx
      have HBx : Hid (Below w.heap.size w wx4) := HB4.out.trans (hbx.mono HB4.out.size)
      have HEx : Hid (Env wx4 aL aN) := HE4.out.below hbx
      have x0 : wx4.cell? ⟨w.heap.size, 0, none⟩ = some (.int .i64 s1) := HAx.out.at 0
      have x1 : wx4.cell? ⟨w.heap.size, 1, none⟩ = some (.int .i64 s2) := HAx.out.at 1
      have x2 : wx4.cell? ⟨w.heap.size, 2, none⟩ = some (.int .i64 e1) := HAx.out.at 2
      have x3 : wx4.cell? ⟨w.heap.size, 3, none⟩ = some (.int .i64 e2) := HAx.out.at 3
      have x4 : wx4.cell? ⟨w.heap.size, 4, none⟩ = some (.slice a1 n1 c1) := HAx.out.at 4
      have x5 : wx4.cell? ⟨w.heap.size, 5, none⟩ = some (.slice a2 n2 c2) := HAx.out.at 5
      have x6 : wx4.cell? ⟨w.heap.size, 6, none⟩ = some (.slice a3 n3 c3) := HAx.out.at 6
      have x7 : wx4.cell? ⟨w.heap.size, 7, none⟩ = some (.slice a4 n4 c4) := HAx.out.at 7
      have hcf := formFault_any (a1 := a1) (a2 := a2) (a3 := a3) (a4 := a4) (n1 := n1) (n2 := n2) (n3 := n3) (n4 := n4) (c1 := c1) (c2 := c2) (c3 := c3) (c4 := c4) s1 s2 e1 e2 8 wx4 (by decide) HEx.out (H1.out.below HBx.out) (H2.out.below HBx.out) (H3.out.below HBx.out) (H4.out.below HBx.out)
      clear hbx gL HA4 HB4 HE4
      go_wp2_with fail
      refine hcf.mono ?_
      rintro e w8 ⟨hp, hb⟩
      have HA8 : Hid (Lies w8 w.heap.size [.int .i64 s1, .int .i64 s2, .int .i64 e1, .int .i64 e2, .slice a1 n1 c1, .slice a2 n2 c2, .slice a3 n3 c3, .slice a4 n4 c4]) := HAx.out.belowS hb
      have HB8 : Hid (Below w.heap.size w w8) := HBx.out.trans (hb.mono HBx.out.size)
      have HE8 : Hid (Env w8 aL aN) := HEx.out.below hb
      clear hb hcf HAx HBx HEx x0 x1 x2 x3 x4 x5 x6 x7
      rw [HPF.out] at hp
      rcases hp with ⟨rfl, hf⟩ | ⟨⟨ps, pq, rfl⟩, hf⟩ | ⟨⟨ps, pq, rfl⟩, hf⟩
      · have HF : Hid (P.form 8 = true) := hf
        clear hf
        have gL := HE8.out.cL
        go_wp2
        rw [rounds_succ]
        go_wp2_with fail
        refine (is_nil aL _).mono ?_
        rintro e wx ⟨rfl, hwx⟩
        subst hwx
        go_wp2
        go_ret2
        exact ⟨.inl ⟨by rw [HR8.out HF.out HF2.out HF4.out]; decide, by rw [HR8.out HF.out HF2.out HF4.out]; rfl⟩, HB8.out⟩
      · have HF8 : Hid (P.form 8 = false) := hf
        clear hf
        have gL := HE8.out.cL
        unfold rfv
        go_wp2
        rw [rounds_succ]
        go_wp2_with fail
        refine (is_ref_same ps pq aL _).mono ?_
        rintro e wx8 ⟨rfl, hbx⟩
        have HAx : Hid (Lies wx8 w.heap.size [.int .i64 s1, .int .i64 s2, .int .i64 e1, .int .i64 e2, .slice a1 n1 c1, .slice a2 n2 c2, .slice a3 n3 c3, .slice a4 n4 c4]) := HA8.out.belowS hbx
        have HBx : Hid (Below w.heap.size w wx8) := HB8.out.trans (hbx.mono HB8.out.size)
        have HEx : Hid (Env wx8 aL aN) := HE8.out.below hbx
        have x0 : wx8.cell? ⟨w.heap.size, 0, none⟩ = some (.int .i64 s1) := HAx.out.at 0
        have x1 : wx8.cell? ⟨w.heap.size, 1, none⟩ = some (.int .i64 s2) := HAx.out.at 1
        have x2 : wx8.cell? ⟨w.heap.size, 2, none⟩ = some (.int .i64 e1) := HAx.out.at 2
        have x3 : wx8.cell? ⟨w.heap.size, 3, none⟩ = some (.int .i64 e2) := HAx.out.at 3
        have x4 : wx8.cell? ⟨w.heap.size, 4, none⟩ = some (.slice a1 n1 c1) := HAx.out.at 4
        have x5 : wx8.cell? ⟨w.heap.size, 5, none⟩ = some (.slice a2 n2 c2) := HAx.out.at 5
        have x6 : wx8.cell? ⟨w.heap.size, 6, none⟩ = some (.slice a3 n3 c3) := HAx.out.at 6
        have x7 : wx8.cell? ⟨w.heap.size, 7, none⟩ = some (.slice a4 n4 c4) := HAx.out.at 7
        have hcf := formFault_any (a1 := a1) (a2 := a2) (a3 := a3) (a4 := a4) (n1 := n1) (n2 := n2) (n3 := n3) (n4 := n4) (c1 := c1) (c2 := c2) (c3 := c3) (c4 := c4) s1 s2 e1 e2 16 wx8 (by decide) HEx.out (H1.out.below HBx.out) (H2.out.below HBx.out) (H3.out.below HBx.out) (H4.out.below HBx.out)
        clear hbx gL HA8 HB8 HE8
        go_wp2_with fail
        refine hcf.mono ?_
        rintro e w16 ⟨hp, hb⟩
        have HA16 : Hid (Lies w16 w.heap.size [.int .i64 s1, .int .i64 s2, .int .i64 e1, .int .i64 e2, .slice a1 n1 c1, .slice a2 n2 c2, .slice a3 n3 c3, .slice a4 n4 c4]) := HAx.out.belowS hb
        have HB16 : Hid (Below w.heap.size w w16) := HBx.out.trans (hb.mono HBx.out.size)
        have HE16 : Hid (Env w16 aL aN) := HEx.out.below hb
        clear hb hcf HAx HBx HEx x0 x1 x2 x3 x4 x5 x6 x7
        rw [HPF.out] at hp
        rcases hp with ⟨rfl, hf⟩ | ⟨⟨ps, pq, rfl⟩, hf⟩ | ⟨⟨ps, pq, rfl⟩, hf⟩
        · have HF : Hid (P.form 16 = true) := hf
          clear hf
          go_wp2
          rw [rounds_succ]
          go_wp2
          go_ret2
          exact ⟨.inl ⟨by rw [HR16.out HF.out HF2.out HF4.out HF8.out]; decide, by rw [HR16.out HF.out HF2.out HF4.out HF8.out]; rfl⟩, HB16.out⟩
        · have HF16 : Hid (P.form 16 = false) := hf
          clear hf
          have hnn := fun W => run_neq_iface_nil (P := Tryz.prog) W 171 (.agg #[.string ps, .int .i64 pq, .iface 225 (.pointer (some aL))]) Tryz.underlying107
          unfold rfv
          go_wp2
          rw [rounds_succ]
          go_wp2
          go_ret2
          exact ⟨.inr ⟨HR0.out HF2.out HF4.out HF8.out HF16.out, _, _, _, rfl⟩, HB16.out⟩
        · have HF : Hid (∀ k, P.form k = false) := hf
          clear hf
          have hnn := fun W => run_neq_iface_nil (P := Tryz.prog) W 171 (.agg #[.string ps, .int .i64 pq, .iface 225 (.pointer (some aN))]) Tryz.underlying107
          unfold rfv
          go_wp2
          rw [rounds_succ]
          go_wp2
          go_ret2
          exact ⟨.inr ⟨HR0.out (HF.out 2) (HF.out 4) (HF.out 8) (HF.out 16), _, _, _, rfl⟩, HB16.out⟩
      · have HF : Hid (∀ k, P.form k = false) := hf
        clear hf
        have hnn := fun W => run_neq_iface_nil (P := Tryz.prog) W 171 (.agg #[.string ps, .int .i64 pq, .iface 225 (.pointer (some aN))]) Tryz.underlying107
        have gL := HE8.out.cL
        obtain ⟨ca, ta, hha⟩ := HE8.out.hN
        obtain ⟨cb, tb, hhb⟩ := HE8.out.hL
        have HHA : Hid (w8.heap[aN.block]? = some (.cells ca ta (0, 0))) := hha
        have HHB : Hid (w8.heap[aL.block]? = some (.cells cb tb (0, 0))) := hhb
        clear hha hhb
        unfold rfv
        go_wp2
        rw [rounds_succ]
        go_wp2_with fail
        refine (is_ref_other ps pq aN aL ca cb ta tb _ HE8.out.ne HHA.out HHB.out).mono ?_
        rintro e wx ⟨rfl, hbx⟩
        have HBx : Hid (Below w.heap.size w wx) := HB8.out.trans (hbx.mono HB8.out.size)
        clear hbx
        go_wp2
        go_ret2
        exact ⟨.inr ⟨HR0.out (HF.out 2) (HF.out 4) (HF.out 8) (HF.out 16), _, _, _, rfl⟩, HBx.out⟩
    · have HF : Hid (∀ k, P.form k = false) := hf
      clear hf
      have hnn := fun W => run_neq_iface_nil (P := Tryz.prog) W 171 (.agg #[.string ps, .int .i64 pq, .iface 225 (.pointer (some aN))]) Tryz.underlying107
      have gL := HE4.out.cL
      obtain ⟨ca, ta, hha⟩ := HE4.out.hN
      obtain ⟨cb, tb, hhb⟩ := HE4.out.hL
      have HHA : Hid (w4.heap[aN.block]? = some (.cells ca ta (0, 0))) := hha
      have HHB : Hid (w4.heap[aL.block]? = some (.cells cb tb (0, 0))) := hhb
      clear hha hhb
      unfold rfv
      go_wp2
      rw [rounds_succ]
      go_wp2_with fail
      refine (is_ref_other ps pq aN aL ca cb ta tb _ HE4.out.ne HHA.out HHB.out).mono ?_
      rintro e wx ⟨rfl, hbx⟩
      have HBx : Hid (Below w.heap.size w wx) := HB4.out.trans (hbx.mono HB4.out.size)
      clear hbx
      go_wp2
      go_ret2
      exact ⟨.inr ⟨HR0.out (HF.out 2) (HF.out 4) (HF.out 8) (HF.out 16), _, _, _, rfl⟩, HBx.out⟩
  · have HF : Hid (∀ k, P.form k = false) := hf
    clear hf
    have hnn := fun W => run_neq_iface_nil (P := Tryz.prog) W 171 (.agg #[.string ps, .int .i64 pq, .iface 225 (.pointer (some aN))]) Tryz.underlying107
    have gL := HE2.out.cL
    obtain ⟨ca, ta, hha⟩ := HE2.out.hN
    obtain ⟨cb, tb, hhb⟩ := HE2.out.hL
    have HHA : Hid (w2.heap[aN.block]? = some (.cells ca ta (0, 0))) := hha
    have HHB : Hid (w2.heap[aL.block]? = some (.cells cb tb (0, 0))) := hhb
    clear hha hhb
    unfold rfv
    go_wp2
    refine wp_loop_rounds 4 ?_
    rw [rounds_succ]
    go_wp2_with fail
    refine (is_ref_other ps pq aN aL ca cb ta tb _ HE2.out.ne HHA.out HHB.out).mono ?_
    rintro e wx ⟨rfl, hbx⟩
    have HBx : Hid (Below w.heap.size w wx) := HB2.out.trans (hbx.mono HB2.out.size)
    clear hbx
    go_wp2
    go_ret2
    exact ⟨.inr ⟨HR0.out (HF.out 2) (HF.out 4) (HF.out 8) (HF.out 16), _, _, _, rfl⟩, HBx.out⟩

set_option maxHeartbeats 4000000 in
theorem implRowsOf_any {a1 a2 a3 a4 : Option Addr} {n1 n2 n3 n4 c1 c2 c3 c4 : Nat} {z1 z2 z3 z4 : List Int} {aL aN : Addr} (s1 s2 e1 e2 : Int) (w : World) (he : Env w aL aN) (h1 : Sees w a1 n1 c1 z1) (h2 : Sees w a2 n2 c2 z2) (h3 : Sees w a3 n3 c3 z3) (h4 : Sees w a4 n4 c4 z4) :
    Calls Tryz.prog 14 #[.agg #[.int .i64 s1, .int .i64 s2, .int .i64 e1, .int .i64 e2, .slice a1 n1 c1, .slice a2 n2 c2, .slice a3 n3 c3, .slice a4 n4 c4]] w fun e w' => e = .returned (.int .i64 (M.Pf.rows (⟨(s1, s2), (e1, e2), z1, z2, z3, z4⟩ : M.Pf) : Nat)) ∧ Below w.heap.size w w' := by
  have HB0 : Hid (Below w.heap.size w (w.alloc (.cells #[.int .i64 s1, .int .i64 s2, .int .i64 e1, .int .i64 e2, .slice a1 n1 c1, .slice a2 n2 c2, .slice a3 n3 c3, .slice a4 n4 c4] 34))) := (Below.refl _ _).alloc (Nat.le_refl _) _
  have hcf := rowsIn_any (a1 := a1) (a2 := a2) (a3 := a3) (a4 := a4) (n1 := n1) (n2 := n2) (n3 := n3) (n4 := n4) (c1 := c1) (c2 := c2) (c3 := c3) (c4 := c4) s1 s2 e1 e2 (w.alloc (.cells #[.int .i64 s1, .int .i64 s2, .int .i64 e1, .int .i64 e2, .slice a1 n1 c1, .slice a2 n2 c2, .slice a3 n3 c3, .slice a4 n4 c4] 34)) (he.below HB0.out) (h1.below HB0.out) (h2.below HB0.out) (h3.below HB0.out) (h4.below HB0.out)
  generalize (⟨(s1, s2), (e1, e2), z1, z2, z3, z4⟩ : M.Pf) = P at hcf ⊢
  clear he h1 h2 h3 h4
  go_enter Tryz.func14, Tryz.ntmps14
  go_wp2_with fail
  refine hcf.mono ?_
  rintro e w2 ⟨hp, hb⟩
  have HB2 : Hid (Below w.heap.size w w2) := HB0.out.trans (hb.mono HB0.out.size)
  clear hb hcf HB0
  rcases hp with ⟨hr, rfl⟩ | ⟨hr, ps, pq, pa, rfl⟩
  · clear hr
    go_wp2
    go_ret
    exact ⟨rfl, HB2.out⟩
  · have hnn := fun W => run_neq_iface_nil (P := Tryz.prog) W 171 (.agg #[.string ps, .int .i64 pq, .iface 225 (.pointer (some pa))]) Tryz.underlying107
    have HR : Hid (P.rows = 0) := hr
    clear hr
    unfold rfv
    go_wp2
    go_ret
    exact ⟨by rw [HR.out]; rfl, HB2.out⟩
end Go.Proofs.YtbcfjbkmkknmfaaGreatDoor
