/- What Folded answers, in the program and in its model, at all arguments. -/
import Derived.Test.YtjeoenieoejolahFoB
import Derived.Test.YtjeoenieoejolahTrH
import Derived.Test.YtjeoenieoejolahFieldC
import Derived.Sort.AtCall
import Derived.Test.YtjeoenieoejolahHvC
namespace Go.Proofs.Ytjeoenieoejolah
open Go.RowKit

/-- the i-th folded value -/
def M.foc (zs : List Int) (s b : Int) (i : Nat) : Int := M.fo b (E3.of (s * M.root zs.length ^ i) (zs.getD i 0) (zs.getD (i + zs.length / 2) 0))
def M.fos (zs : List Int) (s b : Int) : List Int := M.tab (zs.length / 2) (M.foc zs s b)
def M.foOk (zs : List Int) (s b : Int) : Bool := M.frOk zs s && decide (2 ≤ zs.length) && M.el b
def M.fov (zs : List Int) (s b : Int) : List Int := if M.foOk zs s b = true then M.fos zs s b else []
theorem M.fov_in {zs : List Int} {s b : Int} (h : M.foOk zs s b = true) : M.fov zs s b = M.fos zs s b := if_pos h
theorem M.fov_out {zs : List Int} {s b : Int} (h : M.foOk zs s b = false) : M.fov zs s b = [] := if_neg (by rw [h]; decide)
theorem M.fos_opp (zs : List Int) (s b : Int) : (M.opp zs s (M.root zs.length) (zs.length / 2) (zs.length / 2)).map (M.fo b) = M.fos zs s b := by
  unfold M.opp M.fos M.tab M.foc
  rw [List.map_map]; rfl
theorem M.fos_len (zs : List Int) (s b : Int) : (M.fos zs s b).length = zs.length / 2 := M.tab_len _ _
theorem M.two64_even {n : Nat} (h : M.two64 (n : Int) = true) (h2 : 2 ≤ n) : n = 2 * (n / 2) := by
  obtain ⟨i, hi, e⟩ := (M.two64_iff _).1 h
  match i, hi, e with
  | 0, _, e => simp at e; omega
  | i + 1, _, e => rw [Int.pow_succ] at e; omega
theorem M.cg_nz {a : Int} (h : M.el a = true) (h0 : a ≠ 0) : ¬ M.cg a 0 := by
  obtain ⟨a0, a1⟩ := (M.el_iff a).1 h; unfold M.cg; omega
theorem M.inv_of {a y : Int} (ha : M.el a = true) (h0 : a ≠ 0) (hy : M.el y = true) (h : M.cg (a * y) 1) : M.inv a = y := by
  rw [M.inv_in ha h0]
  obtain ⟨y0, y1⟩ := (M.el_iff y).1 hy
  obtain ⟨p0, p1⟩ := M.pw_bd a 65535
  have h1 := M.cg_inv (M.cg_nz ha h0)
  generalize M.pw a 65535 = p at h1 p0 p1 ⊢
  have h2 : M.cg (a * (p - y)) 0 := by rw [Int.mul_sub]; exact M.cg_0sub (h1.trans h.symm)
  exact M.cg_eq (M.cg_sub0 (M.cg_zero h2 (M.cg_nz ha h0))) p0 p1 y0 y1
theorem M.inv2 : M.inv 2 = 32769 := M.inv_of (by decide) (by decide) (by decide) (by unfold M.cg; decide)
theorem M.pt_nz {n : Nat} {s : Int} (h : M.ptOk n s = true) (i : Nat) : s * M.root n ^ i % 65537 ≠ 0 := by
  obtain ⟨h1, h2, h3⟩ := M.ptOk_parts h
  have hn : 0 < n := by have := (M.two64_bd h1).1; omega
  have hr : ¬ M.cg (M.root n ^ i) 0 := M.pow_ne (M.cg_nz (M.root_el (M.two64_two h1)) (M.root_ne (M.two64_two h1) hn)) i
  intro e
  exact hr (M.cg_zero (a := s) (by unfold M.cg; omega) (M.cg_nz h2 h3))
/-- the model's way of reckoning a folded value -/
theorem M.fo_model {x y z b X : Int} (hX : X % 65537 = x) (x0 : x ≠ 0) (hy : M.el y = true) (hz : M.el z = true) (hb : M.el b = true) : M.add (M.mul (M.add y z) 32769) (M.mul b (M.mul (M.mul (M.sub y z) 32769) (M.inv x))) = M.fo b (E3.of X y z) := by
  have e2 : M.el 32769 = true := by decide
  have hx : M.el x = true := by rw [← hX]; exact M.el_mod X
  obtain ⟨y0, y1⟩ := (M.el_iff y).1 hy
  obtain ⟨z0, z1⟩ := (M.el_iff z).1 hz
  rw [M.add_in hy hz, M.sub_in hy hz, M.mul_in (M.el_mod _) e2, M.mul_in (M.el_mod _) e2, M.inv_in hx x0, M.mul_in (M.el_mod _) ((M.el_iff _).2 (M.pw_bd _ _)), M.mul_in hb (M.el_mod _), M.add_in (M.el_mod _) (M.el_mod _)]
  unfold M.fo E3.of
  dsimp only
  rw [hX, Int.emod_eq_of_lt y0 y1, Int.emod_eq_of_lt z0 z1]
theorem quiet_plus {P : Program} {f : FuncId} {args : Array Value} {w : World} {q n : Nat} {v : Value}
    (h : Calls P f args (w.drewN (q + n)) fun e w' => e = .returned v ∧ w' = w.drewN (q + n)) : Calls P f args (w.drewN (q + n)) fun e w'' => e = .returned v ∧ ∃ m, w'' = w.drewN (q + m) :=
  h.mono fun _ _ h' => ⟨h'.1, n, h'.2⟩
theorem wrap_small {x : Int} (h0 : 0 ≤ x) (h1 : x < 9223372036854775808) : IntKind.i64.wrap x = x := by
  unfold IntKind.wrap
  have e : x % 2 ^ IntKind.i64.bits = x := Int.emod_eq_of_lt h0 (by show x < 18446744073709551616; omega)
  simp only [e]
  rw [if_neg]
  rw [Bool.and_eq_true, decide_eq_true_iff]
  rintro ⟨_, h⟩
  have h' : x ≥ 9223372036854775808 := h
  omega
theorem M.foOk_parts {zs : List Int} {s b : Int} (h : M.foOk zs s b = true) : M.ptOk zs.length s = true ∧ M.allEl zs = true ∧ 2 ≤ zs.length ∧ M.el b = true := by
  unfold M.foOk M.frOk at h; simpa [and_assoc, and_left_comm] using h
set_option maxHeartbeats 2000000 in
theorem implFolded_any {la : Option Addr} {lc N : Nat} {zs : List Int} (s b : Int) (w : World) (hz : Sees w la N lc zs) :
    Calls Try.prog 18 #[.slice la N lc, .int .i64 s, .int .i64 b] w fun e w' => ∃ a' m c', e = .returned (.tuple #[.slice a' m c', .bool (M.foOk zs s b)]) ∧ m ≤ 32 ∧ Owns 2 w' w.heap.size a' m c' (M.fov zs s b) ∧ Below w.heap.size w w' := by
  cases h : M.foOk zs s b with
  | true =>
    obtain ⟨hp, az, h2, hb⟩ := M.foOk_parts h
    rw [hz.len] at hp h2
    obtain ⟨b0, b1⟩ := (M.el_iff b).1 hb
    have hN := (M.two64_bd (M.ptOk_parts hp).1).2
    have he := M.two64_even (M.ptOk_parts hp).1 h2
    refine (implFolded_in (h := N / 2) s b w hz az hp he (by omega) b0 b1).mono ?_
    rintro e w' ⟨a', c', rfl, ho, hbl⟩
    refine ⟨a', N / 2, c', rfl, by omega, ?_, hbl⟩
    have e2 := M.fos_opp zs s b
    rw [hz.len] at e2
    rw [M.fov_in h, ← e2]; exact ho
  | false =>
    have E : Hid (M.fov zs s b = []) := M.fov_out h
    have HZ : Hid (Sees w la N lc zs) := hz
    cases hf : M.frOk zs s with
    | false =>
      have F : Hid (M.frOk zs s = false) := hf
      clear hz h hf
      by_cases hb : 0 ≤ b ∧ b < 65537
      · obtain ⟨b0, b1⟩ := hb
        go_enter Try.func18, Try.ntmps18
        go_wp2_with fail
        refine (placesVals_out s _ HZ.out F.out).mono ?_
        rintro e w1 ⟨rfl, hb1⟩
        have HB1 : Hid (Below w.heap.size w w1) := hb1
        clear hb1
        go_wp2_with fail
        refine (elementOf_in b _ b0 b1).mono ?_
        rintro e w2 ⟨rfl, rfl⟩
        go_wp2
        go_ret2
        exact ⟨none, 0, 0, rfl, by omega, by rw [E.out]; exact Owns.empty _ _ _, by first | exact (HB1.out.alloc HB1.out.size _).alloc (by have := HB1.out.size; simp; omega) _ | exact HB1.out.alloc HB1.out.size _⟩
      · have hb' : b < 0 ∨ 65537 ≤ b := by omega
        go_enter Try.func18, Try.ntmps18
        go_wp2_with fail
        refine (placesVals_out s _ HZ.out F.out).mono ?_
        rintro e w1 ⟨rfl, hb1⟩
        have HB1 : Hid (Below w.heap.size w w1) := hb1
        clear hb1
        go_wp2_with fail
        refine (elementOf_out b _ hb').mono ?_
        rintro e w2 ⟨rfl, rfl⟩
        go_wp2
        go_ret2
        exact ⟨none, 0, 0, rfl, by omega, by rw [E.out]; exact Owns.empty _ _ _, by first | exact (HB1.out.alloc HB1.out.size _).alloc (by have := HB1.out.size; simp; omega) _ | exact HB1.out.alloc HB1.out.size _⟩
    | true =>
      obtain ⟨hp, az⟩ : M.ptOk N s = true ∧ M.allEl zs = true := by unfold M.frOk at hf; rw [hz.len] at hf; simpa using hf
      have HP : Hid (M.ptOk N s = true) := hp
      have HA : Hid (M.allEl zs = true) := az
      have hN := (M.two64_bd (M.ptOk_parts hp).1).1
      cases hb : M.el b with
      | false =>
        have hb' : b < 0 ∨ 65537 ≤ b := (M.el_not b).1 hb
        clear hz h hf hp az hb
        go_enter Try.func18, Try.ntmps18
        go_wp2_with fail
        refine (placesVals_in s _ HZ.out HA.out HP.out).mono ?_
        rintro e w1 ⟨a1, c1, rfl, ho1, hb1⟩
        have HB1 : Hid (Below w.heap.size w w1) := hb1
        clear ho1 hb1
        generalize M.root N = q
        go_wp2_with fail
        refine (elementOf_out b _ hb').mono ?_
        rintro e w2 ⟨rfl, rfl⟩
        go_wp2
        go_ret2
        exact ⟨none, 0, 0, rfl, by omega, by rw [E.out]; exact Owns.empty _ _ _, by first | exact (HB1.out.alloc HB1.out.size _).alloc (by have := HB1.out.size; simp; omega) _ | exact HB1.out.alloc HB1.out.size _⟩
      | true =>
        obtain ⟨b0, b1⟩ := (M.el_iff b).1 hb
        have h1 : N = 1 := by
          unfold M.foOk at h; rw [hf, hb, hz.len] at h; simp at h; omega
        subst h1
        clear hz h hf hp az hb
        go_enter Try.func18, Try.ntmps18
        go_wp2_with fail
        refine (placesVals_in s _ HZ.out HA.out HP.out).mono ?_
        rintro e w1 ⟨a1, c1, rfl, ho1, hb1⟩
        have HB1 : Hid (Below w.heap.size w w1) := hb1
        clear ho1 hb1
        generalize M.root _ = q
        go_wp2_with fail
        refine (elementOf_in b _ b0 b1).mono ?_
        rintro e w2 ⟨rfl, rfl⟩
        go_wp2
        go_ret2
        exact ⟨none, 0, 0, rfl, by omega, by rw [E.out]; exact Owns.empty _ _ _, by first | exact (HB1.out.alloc HB1.out.size _).alloc (by have := HB1.out.size; simp; omega) _ | exact HB1.out.alloc HB1.out.size _⟩
set_option maxRecDepth 100000 in
set_option maxHeartbeats 8000000 in
theorem specFolded_in {la : Option Addr} {lc N : Nat} {zs : List Int} (s b : Int) (w : World) (hz : Sees w la N lc zs) (hk : M.foOk zs s b = true) :
    Calls Try.prog 17 #[.slice la N lc, .int .i64 s, .int .i64 b] w fun e w' => ∃ a' c', e = .returned (.tuple #[.slice a' (N / 2) c', .bool true]) ∧ Owns 2 w' w.heap.size a' (N / 2) c' (M.fos zs s b) ∧ Below w.heap.size w w' := by
  have HZ : Hid (Sees w la N lc zs) := hz
  obtain ⟨hp, az, h2, hb⟩ := M.foOk_parts hk
  have HL : Hid (zs.length = N) := hz.len
  rw [hz.len] at hp h2
  obtain ⟨h, hh⟩ : ∃ h, N / 2 = h := ⟨_, rfl⟩
  have HN : Hid (N = 2 * h) := by show _ = _; rw [← hh]; exact M.two64_even (M.ptOk_parts hp).1 h2
  have hN64 : N ≤ 64 := by have := (M.two64_bd (M.ptOk_parts hp).1).2; omega
  have HP : Hid (M.ptOk N s = true) := hp
  have HA : Hid (M.allEl zs = true) := az
  have HE : Hid (M.el b = true) := hb
  have HF : Hid (M.tab h (M.foc zs s b) = M.fos zs s b) := by show _ = _; unfold M.fos; rw [hz.len, hh]
  have HV : Hid (∀ k, M.add (M.mul (M.add (zs.getD k 0) (zs.getD (k + h) 0)) 32769) (M.mul b (M.mul (M.mul (M.sub (zs.getD k 0) (zs.getD (k + h) 0)) 32769) (M.inv (s * M.root N ^ k % 65537)))) = M.foc zs s b k) := fun k => by
    unfold M.foc; rw [hz.len, hh]
    exact M.fo_model rfl (M.pt_nz hp k) ((M.el_iff _).2 (M.el_at az k)) ((M.el_iff _).2 (M.el_at az (k + h))) hb
  have hnt : decide ((N : Int) < 2) = false := decide_eq_false (by omega)
  have t1 : (N : Int) / 2 = (h : Int) := by have := HN.out; omega
  have t2 : (N : Int).tdiv 2 = (h : Int) := by rw [Int.tdiv_eq_ediv_of_nonneg (by omega)]; exact t1
  rw [hh]
  obtain ⟨i0, hi, hz0, hz1, hz2⟩ := info_parts info_i64
  have HI : Hid (Try.prog.info? 2 = some i0 ∧ i0.zero = some (Value.int .i64 0) ∧ i0.size = 1 ∧ i0.bytes = 8) := ⟨hi, hz0, hz1, hz2⟩
  clear hz hp az hb hk hi hz0 hz1 hz2 hh
  go_enter Try.func17, Try.ntmps17
  go_wp2_with fail
  refine (l3Ok_any N s _).mono ?_
  rintro e w0 ⟨rfl, rfl⟩
  rw [HP.out]
  go_wp2_with fail
  refine (l1All_any _ HZ.out).mono ?_
  rintro e w0 ⟨rfl, rfl⟩
  rw [HA.out]
  go_wp2_with fail
  refine (l1F_any b _).mono ?_
  rintro e w0 ⟨rfl, rfl⟩
  rw [HE.out]
  have HO0 : Hid (Owns 2 (w0.alloc (.cells #[] 2)) w0.heap.size (some ⟨w0.heap.size, 0, none⟩) 0 0 []) := World.ownsRow_made w0 #[] 0 (Nat.le_refl _) (by unfold maxLen; omega) rfl
  go_wp2_with fail
  refine (l3Points_any N s _ HP.out).mono ?_
  rintro e w1 ⟨ax, cx, rfl, hox, hbx⟩
  have HO1 : Hid (Owns 2 w1 w0.heap.size (some ⟨w0.heap.size, 0, none⟩) 0 0 []) := HO0.out.below hbx
  have HB1 : Hid (Below w0.heap.size w0 w1) := ((Below.refl _ _).alloc (Nat.le_refl _) _).trans (hbx.mono (by simp))
  have HX : Hid (Owns 2 w1 (w0.heap.size + 1) ax N cx (M.gp s (M.root N) N)) := by rw [World.size_alloc] at hox; exact hox
  have HS1 : Hid (w0.heap.size + 1 ≤ w1.heap.size) := by show _ ≤ _; have := hbx.size; simpa using this
  clear hox hbx HO0
  go_wp2_with fail
  refine (specInv_any 2 _).mono ?_
  rintro e w2 ⟨rfl, rfl⟩
  rw [M.inv2]
  go_wp2
  go_loopw [9, 12] (fun o i wr => ∃ (k : Nat) (a1 : Option Addr) (c1 : Nat), k ≤ h ∧ i = .int .i64 k ∧ o = .slice a1 k c1 ∧ Owns 2 wr w0.heap.size a1 k c1 (M.tab k (M.foc zs s b)) ∧ Owns 2 wr (w0.heap.size + 1) ax N cx (M.gp s (M.root N) N) ∧ (∀ x y, a1 = some x → ax = some y → x.block ≠ y.block) ∧ Below w0.heap.size w0 wr ∧ w2.heap.size ≤ wr.heap.size) (fun _ i _ => h - (intOf i).toNat)
  case atStart => exact ⟨0, _, _, by omega, rfl, rfl, HO1.out, HX.out, (fun x y hx hy => by cases hx; have := HX.out.lo y hy; simp; omega), HB1.out, Nat.le_refl _⟩
  case round =>
    obtain ⟨k, a1, c1, hk, rfl, rfl, ho1, hox, hdj, hbr, hsz⟩ := hrel
    have HR1 : Hid (Owns 2 wr w0.heap.size a1 k c1 (M.tab k (M.foc zs s b))) := ho1
    have HRX : Hid (Owns 2 wr (w0.heap.size + 1) ax N cx (M.gp s (M.root N) N)) := hox
    have HDJ : Hid (∀ x y, a1 = some x → ax = some y → x.block ≠ y.block) := hdj
    have HBR : Hid (Below w0.heap.size w0 wr) := hbr
    clear ho1 hox hdj hbr HO1 HX HB1
    by_cases hlt : k < h
    · have hNN := HN.out
      obtain ⟨bz, oz, rfl, hcz⟩ := (HZ.out.below HBR.out).at (by omega)
      have d1 := hcz k (by omega)
      have d2 := hcz (k + h) (by omega)
      obtain ⟨bx, ox, rfl, hcx⟩ := HRX.out.sees.at (by omega)
      have d3 := hcx k (by omega)
      have hI : (k : Int) < (h : Int) := by omega
      have hJ : (k : Int) < (N : Int) := by omega
      obtain ⟨kh, hkh⟩ : ∃ kh, kh = k + h := ⟨_, rfl⟩
      have hkI : (k : Int) + (h : Int) = (kh : Int) := by omega
      have hkN : (kh : Int) < (N : Int) := by omega
      have hw1 : IntKind.i64.wrap (h : Int) = (h : Int) := wrap_small (by omega) (by omega)
      have hw2 : IntKind.i64.wrap (kh : Int) = (kh : Int) := wrap_small (by omega) (by omega)
      have HVk := HV.out k
      have HV' : Hid (M.tab k (M.foc zs s b) ++ [M.foc zs s b k] = M.tab (k + 1) (M.foc zs s b)) := M.tab_snoc k _
      rw [show (M.gp s (M.root N) N).getD k 0 = s * M.root N ^ k % 65537 from M.tab_get _ _ _ (by omega)] at d3
      generalize zs.getD k 0 = y at d1 HVk
      rw [← hkh] at d2 HVk
      generalize zs.getD kh 0 = z at d2 HVk
      generalize s * M.root N ^ k % 65537 = x at d3 HVk
      have HW : Hid (M.add (M.mul (M.add y z) 32769) (M.mul b (M.mul (M.mul (M.sub y z) 32769) (M.inv x))) = M.foc zs s b k) := HVk
      clear HVk hcz hcx hNN hkh
      go_wp2
      go_quiet (first
        | (go_at_call 42; exact Calls.quiet_of_same (v := .int .i64 (M.add y z)) (specAdd_any y z _))
        | (go_at_call 41; exact Calls.quiet_of_same (v := .int .i64 (M.mul (M.add y z) 32769)) (specMul_any (M.add y z) 32769 _)))
      obtain ⟨n1, hn1⟩ : ∃ n1, n1 = nq := ⟨_, rfl⟩
      subst hn1
      go_wp2
      go_quiet (first
        | (go_at_call 43; exact quiet_plus (v := .int .i64 (M.sub y z)) (specSub_any y z _))
        | (go_at_call 40; exact quiet_plus (v := .int .i64 (M.inv x)) (specInv_any x _))
        | (go_at_call_has 41 (M.inv x); exact quiet_plus (v := .int .i64 (M.mul (M.mul (M.sub y z) 32769) (M.inv x))) (specMul_any (M.mul (M.sub y z) 32769) (M.inv x) _))
        | (go_at_call 41; exact quiet_plus (v := .int .i64 (M.mul (M.sub y z) 32769)) (specMul_any (M.sub y z) 32769 _)))
      have HBD : Hid (Below wr.heap.size wr (wr.drewN (n1 + nq))) := Below.drewN' (Below.refl _ _) _
      have HRW : Hid (Owns 2 (wr.drewN (n1 + nq)) w0.heap.size a1 k c1 (M.tab k (M.foc zs s b))) := HR1.out.below HBD.out
      have HXW : Hid (Owns 2 (wr.drewN (n1 + nq)) (w0.heap.size + 1) (some ⟨bx, ox, none⟩) N cx (M.gp s (M.root N) N)) := HRX.out.below HBD.out
      have HBW : Hid (Below w0.heap.size w0 (wr.drewN (n1 + nq))) := HBR.out.trans (HBD.out.mono HBR.out.size)
      have hsW : w2.heap.size ≤ (wr.drewN (n1 + nq)).heap.size := hsz
      go_wp2_with fail
      refine (specMul_any b (M.mul (M.mul (M.sub y z) 32769) (M.inv x)) _).mono ?_
      rintro e W ⟨rfl, rfl⟩
      go_wp2_with fail
      refine (specAdd_any (M.mul (M.add y z) 32769) (M.mul b (M.mul (M.mul (M.sub y z) 32769) (M.inv x))) _).mono ?_
      rintro e W ⟨rfl, rfl⟩
      rw [HW.out]
      obtain ⟨W, hW⟩ : ∃ W, W = wr.drewN (n1 + nq) := ⟨_, rfl⟩
      rw [← hW] at HBD HRW HXW HBW hsW
      rw [← hW]
      clear hW
      generalize hv : M.foc zs s b k = val at HV'
      have HVV : Hid (M.foc zs s b k = val) := hv
      clear hv HW
      have hszW := HBW.out.size
      go_wp2_with (at_builtin; refine wpList_append_own_at _ rfl _ _ 22 rfl w0.heap.size 2 i0 (.int .i64 0) 1 8 Try.underlying22 HI.out.1 HI.out.2.1 HI.out.2.2.1 HI.out.2.2.2 rfl (by decide) _ k ((M.tab k (M.foc zs s b)).map (Value.int .i64)) rfl (World.ownsRow.alloc HRW.out _) ⟨W.heap.size, 0, none⟩ 1 1 [.int .i64 val] rfl rfl (cell_one W _ _) (one_int _) (by unfold maxLen; omega) (by omega) (by simp; omega) ?_)
      intro v' w3 hown hgrow _ hat
      have hown' : w3.ownsRow w0.heap.size 2 1 v' (k + 1) ((M.tab (k + 1) (M.foc zs s b)).map (Value.int .i64)) := by rw [← HV'.out, List.map_append]; exact hown
      obtain ⟨a3, c3, rfl, ho3⟩ := Owns.form hown'
      have hg1 := (World.grownBy_alloc W _ _).trans hgrow
      have HO3 : Hid (Owns 2 w3 w0.heap.size a3 (k + 1) c3 (M.tab (k + 1) (M.foc zs s b))) := ho3
      have HX3 : Hid (Owns 2 w3 (w0.heap.size + 1) (some ⟨bx, ox, none⟩) N cx (M.gp s (M.root N) N)) := HXW.out.keep hg1 (fun x y hx hy e => HDJ.out y x hy hx e.symm)
      have HDJ3 : Hid (∀ x y, a3 = some x → (some ⟨bx, ox, none⟩ : Option Addr) = some y → x.block ≠ y.block) := fun x y hx hy => by
        rcases own_at (by simpa using hat) x hx with ⟨z, hz, e⟩ | e
        · rw [← e]; exact HDJ.out z y hz hy
        · have := HXW.out.hi y hy; omega
      have HB3 : Hid (Below w0.heap.size w0 w3) := HBW.out.grown hg1 hszW HRW.out.row
      have hs3 : w2.heap.size ≤ w3.heap.size := Nat.le_trans hsW hg1.size
      clear hown hown' hgrow ho3 hat hg1
      go_wp2
      go_roundw
      case rel => exact ⟨k + 1, a3, c3, by omega, by go_num, rfl, HO3.out, HX3.out, HDJ3.out, HB3.out, hs3⟩
      case measure => simp [intOf]; omega
    · have hkn : k = h := by omega
      subst hkn
      go_wp2
      go_ret2
      exact ⟨a1, c1, rfl, by rw [← HF.out]; exact HR1.out, HBR.out⟩
end Go.Proofs.Ytjeoenieoejolah
namespace Go.Proofs.Ytjeoenieoejolah
open Go.RowKit

set_option maxHeartbeats 2000000 in
theorem specFolded_any {la : Option Addr} {lc N : Nat} {zs : List Int} (s b : Int) (w : World) (hz : Sees w la N lc zs) :
    Calls Try.prog 17 #[.slice la N lc, .int .i64 s, .int .i64 b] w fun e w' => ∃ a' m c', e = .returned (.tuple #[.slice a' m c', .bool (M.foOk zs s b)]) ∧ m ≤ 32 ∧ Owns 2 w' w.heap.size a' m c' (M.fov zs s b) ∧ Below w.heap.size w w' := by
  cases h : M.foOk zs s b with
  | true =>
    refine (specFolded_in s b w hz h).mono ?_
    rintro e w' ⟨a', c', rfl, ho, hbl⟩
    have hN := (M.two64_bd (M.ptOk_parts (M.foOk_parts h).1).1).2
    rw [hz.len] at hN
    exact ⟨a', N / 2, c', rfl, by omega, by rw [M.fov_in h]; exact ho, hbl⟩
  | false =>
    have E : Hid (M.fov zs s b = []) := M.fov_out h
    have HZ : Hid (Sees w la N lc zs) := hz
    have bn : (N : Int) ≤ 9223372036854775807 := by have := hz.big; have := hz.le; omega
    cases hp : M.ptOk N s with
    | false =>
      have HP : Hid (M.ptOk N s = false) := hp
      clear hz h hp
      go_enter Try.func17, Try.ntmps17
      go_wp2_with fail
      refine (l3Ok_any N s _).mono ?_
      rintro e w ⟨rfl, rfl⟩
      rw [HP.out]
      go_wp2
      go_ret2
      exact ⟨none, 0, 0, rfl, by omega, by rw [E.out]; exact Owns.empty _ _ _, Below.refl _ _⟩
    | true =>
      have HP : Hid (M.ptOk N s = true) := hp
      by_cases h2 : 2 ≤ N
      · have hnt : decide ((N : Int) < 2) = false := decide_eq_false (by omega)
        cases az : M.allEl zs with
        | false =>
          have HA : Hid (M.allEl zs = false) := az
          clear hz h hp az
          go_enter Try.func17, Try.ntmps17
          go_wp2_with fail
          refine (l3Ok_any N s _).mono ?_
          rintro e w ⟨rfl, rfl⟩
          rw [HP.out]
          go_wp2_with fail
          refine (l1All_any _ HZ.out).mono ?_
          rintro e w ⟨rfl, rfl⟩
          rw [HA.out]
          go_wp2
          go_ret2
          exact ⟨none, 0, 0, rfl, by omega, by rw [E.out]; exact Owns.empty _ _ _, Below.refl _ _⟩
        | true =>
          have HA : Hid (M.allEl zs = true) := az
          have hb : M.el b = false := by
            unfold M.foOk M.frOk at h; rw [hz.len, hp, az] at h; simpa [h2] using h
          have HE : Hid (M.el b = false) := hb
          clear hz h hp az hb
          go_enter Try.func17, Try.ntmps17
          go_wp2_with fail
          refine (l3Ok_any N s _).mono ?_
          rintro e w ⟨rfl, rfl⟩
          rw [HP.out]
          go_wp2_with fail
          refine (l1All_any _ HZ.out).mono ?_
          rintro e w ⟨rfl, rfl⟩
          rw [HA.out]
          go_wp2_with fail
          refine (l1F_any b _).mono ?_
          rintro e w ⟨rfl, rfl⟩
          rw [HE.out]
          go_wp2
          go_ret2
          exact ⟨none, 0, 0, rfl, by omega, by rw [E.out]; exact Owns.empty _ _ _, Below.refl _ _⟩
      · have hnt : decide ((N : Int) < 2) = true := decide_eq_true (by omega)
        clear hz h hp
        go_enter Try.func17, Try.ntmps17
        go_wp2_with fail
        refine (l3Ok_any N s _).mono ?_
        rintro e w ⟨rfl, rfl⟩
        rw [HP.out]
        go_wp2
        go_ret2
        exact ⟨none, 0, 0, rfl, by omega, by rw [E.out]; exact Owns.empty _ _ _, Below.refl _ _⟩
end Go.Proofs.Ytjeoenieoejolah
