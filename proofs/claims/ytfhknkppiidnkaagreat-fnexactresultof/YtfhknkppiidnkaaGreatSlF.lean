/- What a polynomial is at an element, in the program and in its model. The marks that the laws write into a list, and how they are held against it; what Trimmed answers. -/
import Derived.Test.YtfhknkppiidnkaaGreatSlD
import Derived.Test.YtfhknkppiidnkaaGreatFieldA
namespace Go.Proofs.YtfhknkppiidnkaaGreat
open Go.RowKit

/-- the sum of zs[i] times x to the i, modulo 65537, by Horner's rule -/
def M.ev (zs : List Int) (x : Int) : Int := zs.foldr (fun c y => (y * x + c) % 65537) 0
theorem M.ev_bd (zs : List Int) (x : Int) : 0 ≤ M.ev zs x ∧ M.ev zs x < 65537 := by
  cases zs with
  | nil => show 0 ≤ (0 : Int) ∧ (0 : Int) < 65537; omega
  | cons c r => unfold M.ev; rw [List.foldr_cons]; omega
theorem M.ev_cons (c : Int) (r : List Int) (x : Int) : M.ev (c :: r) x = (M.ev r x * x + c) % 65537 := rfl
theorem M.ev_drop {zs : List Int} {k : Nat} (h : k < zs.length) (x : Int) : (M.ev (zs.drop (k + 1)) x * x + zs.getD k 0) % 65537 = M.ev (zs.drop k) x := by
  rw [List.drop_eq_getElem_cons h, M.ev_cons, List.getD_eq_getElem?_getD, List.getElem?_eq_getElem h]; rfl
theorem M.el_at {zs : List Int} (h : M.allEl zs = true) (k : Nat) : 0 ≤ zs.getD k 0 ∧ zs.getD k 0 < 65537 := by
  by_cases hk : k < zs.length
  · rw [List.getD_eq_getElem?_getD, List.getElem?_eq_getElem hk]
    exact (M.el_iff _).1 (List.all_eq_true.1 h _ (List.getElem_mem _))
  · rw [List.getD_eq_getElem?_getD, List.getElem?_eq_none (by omega)]; exact ⟨by decide, by decide⟩

set_option maxHeartbeats 1000000 in
theorem l2At_any {a : Option Addr} {n c : Nat} {zs : List Int} (x : Int) (w : World) (hz : Sees w a n c zs) (hall : M.allEl zs = true) (x0 : 0 ≤ x) (x1 : x < 65537) :
    Calls Tryz.prog 117 #[.slice a n c, .int .i64 x] w fun e w' => e = .returned (.int .i64 (M.ev zs x)) ∧ w' = w := by
  have bn : (n : Int) ≤ 9223372036854775807 := by have := hz.big; have := hz.le; omega
  have HZ : Hid (Sees w a n c zs) := hz
  have HA : Hid (M.allEl zs = true) := hall
  clear hz hall
  go_enter Tryz.func117, Tryz.ntmps117
  go_wp2
  go_loop [5, 6] (fun y i => ∃ (k : Nat) (v : Int), k ≤ n ∧ 0 ≤ v ∧ v < 65537 ∧ i = .int .i64 ((k : Int) - 1) ∧ y = .int .i64 v ∧ v = M.ev (zs.drop k) x) (fun _ i => (intOf i + 1).toNat)
  case atStart => exact ⟨n, 0, Nat.le_refl _, by omega, by omega, rfl, rfl, by rw [List.drop_of_length_le (by rw [HZ.out.len]; exact Nat.le_refl _)]; rfl⟩
  case round =>
    obtain ⟨k, v, hk, v0, v1, rfl, rfl, hv⟩ := hrel
    have HV : Hid (v = M.ev (zs.drop k) x) := hv
    clear hv
    by_cases h0 : 0 < k
    · obtain ⟨b1, o1, rfl, hc1⟩ := HZ.out.at (by omega)
      have c1 := hc1 (k - 1) (by omega)
      have hd := M.ev_drop (zs := zs) (k := k - 1) (by rw [HZ.out.len]; omega) x
      have hel := M.el_at HA.out (k - 1)
      clear hc1
      generalize hx : zs.getD (k - 1) 0 = z at c1 hd hel
      obtain ⟨z0, z1⟩ := hel
      rw [show k - 1 + 1 = k by omega, ← HV.out] at hd
      have HD : Hid ((v * x + z) % 65537 = M.ev (zs.drop (k - 1)) x) := hd
      clear hd hx
      obtain ⟨m0, m1⟩ := M.mul_bd v0 v1 x0 x1
      have hI1 : (0 : Int) ≤ (k : Int) - 1 := by omega
      have hI2 : (k : Int) - 1 < (n : Int) := by omega
      go_wp2
      go_round
      case rel => exact ⟨k - 1, (v * x + z) % 65537, by omega, Int.emod_nonneg _ (by decide), Int.emod_lt_of_pos _ (by decide), by go_num, rfl, HD.out⟩
      case measure => simp [intOf]; omega
    · have hk0 : k = 0 := by omega
      subst hk0
      go_wp2
      go_ret
      exact ⟨ret_int HV.out, rfl⟩

theorem M.ev_snoc0 (l : List Int) (x : Int) : M.ev (l ++ [0]) x = M.ev l x := by
  induction l with
  | nil => show (0 * x + 0) % 65537 = 0; simp
  | cons c r ih => rw [List.cons_append, M.ev_cons, M.ev_cons, ih]
theorem M.ev_tl (zs : List Int) (x : Int) (k : Nat) (hk : k ≤ zs.length) : M.ev (zs.take (M.tl zs k)) x = M.ev (zs.take k) x := by
  induction k with
  | zero => rfl
  | succ k ih =>
    unfold M.tl
    by_cases h : zs.getD k 0 = 0
    · rw [if_pos h, ih (by omega), ← take_snoc (by omega), h, M.ev_snoc0]
    · rw [if_neg h]
theorem M.ev_trim (zs : List Int) (x : Int) : M.ev (M.trim zs) x = M.ev zs x := by
  unfold M.trim; rw [M.ev_tl zs x _ (Nat.le_refl _), List.take_length]
theorem M.all_trim {zs : List Int} (h : M.allEl zs = true) : M.allEl (M.trim zs) = true := by
  unfold M.trim M.allEl at *
  rw [List.all_eq_true] at *
  exact fun x hx => h x (List.mem_of_mem_take hx)
theorem M.len_trim (zs : List Int) : (M.trim zs).length ≤ zs.length := by
  unfold M.trim; rw [List.length_take]; omega
def M.atv (zs : List Int) (x : Int) : Int := if M.coefOk zs = true ∧ M.el x = true then M.ev zs x else -1
theorem M.coef_parts {zs : List Int} (h : M.coefOk zs = true) : zs.length ≤ 128 ∧ M.allEl zs = true := by
  unfold M.coefOk at h; simpa using h

end Go.Proofs.YtfhknkppiidnkaaGreat
namespace Go.Proofs.YtfhknkppiidnkaaGreat
open Go.RowKit

/-- the numbers k, k + 1, .., n of them -/
def M.marks (k : Int) (n : Nat) : List Int := (List.range n).map fun i : Nat => k + (i : Int)
theorem M.marks_len (k : Int) (n : Nat) : (M.marks k n).length = n := by simp [M.marks]
theorem M.marks_get (k : Int) (n i : Nat) (h : i < n) : (M.marks k n).getD i 0 = k + (i : Int) := by
  rw [List.getD_eq_getElem?_getD, List.getElem?_eq_getElem (by rw [M.marks_len]; exact h)]
  simp [M.marks]
theorem M.mark_step {zs : List Int} {k : Int} {n j : Nat} (hl : zs.length = n) (h : j < n) : ((M.marks k n).take j ++ zs.drop j).set j (k + (j : Int)) = (M.marks k n).take (j + 1) ++ zs.drop (j + 1) := by
  have h1 : j < (M.marks k n).length := by rw [M.marks_len]; exact h
  rw [List.set_append_right _ _ (by simp [M.marks_len]; omega), List.length_take, Nat.min_eq_left (Nat.le_of_lt h1), Nat.sub_self]
  rw [List.drop_eq_getElem_cons (by omega), List.set_cons_zero, List.take_succ_eq_append_getElem h1, List.append_assoc, List.singleton_append]
  congr 2
  have := M.marks_get k n j h
  rw [List.getD_eq_getElem?_getD, List.getElem?_eq_getElem h1] at this
  exact this.symm

theorem Owns.lo {t : TypeId} {w : World} {base : Nat} {a : Option Addr} {n cap : Nat} {zs : List Int} (h : Owns t w base a n cap zs) : ∀ x, a = some x → base ≤ x.block := by
  rintro x rfl; exact (World.ownsRow.lt h _ rfl).1
theorem Owns.hi {t : TypeId} {w : World} {base : Nat} {a : Option Addr} {n cap : Nat} {zs : List Int} (h : Owns t w base a n cap zs) : ∀ x, a = some x → x.block < w.heap.size := by
  rintro x rfl; exact (World.ownsRow.lt h _ rfl).2
theorem Owns.keep {t : TypeId} {w w' : World} {base : Nat} {a b : Option Addr} {n cap m d : Nat} {zs : List Int} (h : Owns t w base a n cap zs) (hg : w.grownBy w' (Value.slice b m d).ownBlock) (hne : ∀ x y, a = some x → b = some y → x.block ≠ y.block) : Owns t w' base a n cap zs := by
  refine World.ownsRow.kept h hg ?_
  cases a with
  | none => exact .inl rfl
  | some x =>
    refine .inr ?_
    cases b with
    | none => simp [Value.ownBlock]
    | some y => simpa [Value.ownBlock] using hne x y rfl rfl
theorem below_mark {t : TypeId} {w0 w w' : World} {B base : Nat} {a : Option Addr} {n cap : Nat} {zs : List Int} (hb : Below B w0 w) (h : Owns t w base a n cap zs) (hB : B ≤ base) (hs : B ≤ w.heap.size) (hg : w.grownBy w' (Value.slice a n cap).ownBlock) : Below B w0 w' :=
  hb.grown hg hs (fun k hk => Nat.le_trans hB (h.row k hk))
theorem Sees.keep {w w' : World} {a b : Option Addr} {n cap m d : Nat} {zs : List Int} (h : Sees w a n cap zs) (hg : w.grownBy w' (Value.slice b m d).ownBlock) (hne : ∀ x y, a = some x → b = some y → x.block ≠ y.block) : Sees w' a n cap zs := by
  refine h.of_cells fun p v hp ⟨x, hx, hxp⟩ => hg.cell hp ?_
  cases b with
  | none => simp [Value.ownBlock]
  | some y => have := hne x y hx rfl; simp [Value.ownBlock]; omega
theorem Owns.drewN {t : TypeId} {w : World} {base : Nat} {a : Option Addr} {n cap : Nat} {zs : List Int} (h : Owns t w base a n cap zs) (k : Nat) : Owns t (w.drewN k) base a n cap zs := h
def M.trimv (zs : List Int) : List Int := if M.coefOk zs = true then M.trim zs else []
theorem Owns.empty (w : World) (t : TypeId) (base : Nat) : Owns t w base none 0 0 [] := World.ownsRow_nil w base t 1
end Go.Proofs.YtfhknkppiidnkaaGreat
