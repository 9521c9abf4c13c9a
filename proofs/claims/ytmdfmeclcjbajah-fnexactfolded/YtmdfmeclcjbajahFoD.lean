/- What Folded answers in the model, at all arguments. -/
import Derived.Test.YtmdfmeclcjbajahFoC
namespace Go.Proofs.Ytmdfmeclcjbajah
open Go.RowKit

set_option maxHeartbeats 2000000 in
theorem specFolded_any {la : Option Addr} {lc N : Nat} {zs : List Int} (s b : Int) (w : World) (hz : Sees w la N lc zs) :
    Calls Try.prog 15 #[.slice la N lc, .int .i64 s, .int .i64 b] w fun e w' => ∃ a' m c', e = .returned (.tuple #[.slice a' m c', .bool (M.foOk zs s b)]) ∧ m ≤ 32 ∧ Owns 2 w' w.heap.size a' m c' (M.fov zs s b) ∧ Below w.heap.size w w' := by
  cases h : M.foOk zs s b with
  | true =>
    refine (specFolded_in s b w hz h).mono ?_
    rintro e w' ⟨a', c', rfl, ho, hbl⟩
    have hN := (M.two64_bd (M.ptOk_parts (M.foOk_parts h).1).1).2
    rw [hz.len] at hN
    exact ⟨a', N / 2, c', rfl, by omega, by rw [M.fov_in h]; exact ho, hbl⟩
  | false =>
    have E : Hid (M.fov zs s b = []) := M.fov_out h
    have HZ : Hid (Sees w la N lc zs) := hz
    have bn : (N : Int) ≤ 9223372036854775807 := by have := hz.big; have := hz.le; omega
    cases hp : M.ptOk N s with
    | false =>
      have HP : Hid (M.ptOk N s = false) := hp
      clear hz h hp
      go_enter Try.func15, Try.ntmps15
      go_wp2_with fail
      refine (l3Ok_any N s _).mono ?_
      rintro e w ⟨rfl, rfl⟩
      rw [HP.out]
      go_wp2
      go_ret2
      exact ⟨none, 0, 0, rfl, by omega, by rw [E.out]; exact Owns.empty _ _ _, Below.refl _ _⟩
    | true =>
      have HP : Hid (M.ptOk N s = true) := hp
      by_cases h2 : 2 ≤ N
      · have hnt : decide ((N : Int) < 2) = false := decide_eq_false (by omega)
        cases az : M.allEl zs with
        | false =>
          have HA : Hid (M.allEl zs = false) := az
          clear hz h hp az
          go_enter Try.func15, Try.ntmps15
          go_wp2_with fail
          refine (l3Ok_any N s _).mono ?_
          rintro e w ⟨rfl, rfl⟩
          rw [HP.out]
          go_wp2_with fail
          refine (l1All_any _ HZ.out).mono ?_
          rintro e w ⟨rfl, rfl⟩
          rw [HA.out]
          go_wp2
          go_ret2
          exact ⟨none, 0, 0, rfl, by omega, by rw [E.out]; exact Owns.empty _ _ _, Below.refl _ _⟩
        | true =>
          have HA : Hid (M.allEl zs = true) := az
          have hb : M.el b = false := by
            unfold M.foOk M.frOk at h; rw [hz.len, hp, az] at h; simpa [h2] using h
          have HE : Hid (M.el b = false) := hb
          clear hz h hp az hb
          go_enter Try.func15, Try.ntmps15
          go_wp2_with fail
          refine (l3Ok_any N s _).mono ?_
          rintro e w ⟨rfl, rfl⟩
          rw [HP.out]
          go_wp2_with fail
          refine (l1All_any _ HZ.out).mono ?_
          rintro e w ⟨rfl, rfl⟩
          rw [HA.out]
          go_wp2_with fail
          refine (l1F_any b _).mono ?_
          rintro e w ⟨rfl, rfl⟩
          rw [HE.out]
          go_wp2
          go_ret2
          exact ⟨none, 0, 0, rfl, by omega, by rw [E.out]; exact Owns.empty _ _ _, Below.refl _ _⟩
      · have hnt : decide ((N : Int) < 2) = true := decide_eq_true (by omega)
        clear hz h hp
        go_enter Try.func15, Try.ntmps15
        go_wp2_with fail
        refine (l3Ok_any N s _).mono ?_
        rintro e w ⟨rfl, rfl⟩
        rw [HP.out]
        go_wp2
        go_ret2
        exact ⟨none, 0, 0, rfl, by omega, by rw [E.out]; exact Owns.empty _ _ _, Below.refl _ _⟩
end Go.Proofs.Ytmdfmeclcjbajah
