/- One short polynomial goes through points, by Newton's way and by Lagrange's; no program in sight. -/
import Derived.Test.YtfhknkppiidnkaaGreatRootsMath
import Derived.Test.YtfhknkppiidnkaaGreatFieldMath
namespace Go.Proofs.YtfhknkppiidnkaaGreat
namespace M
theorem nodup_iff (xs : List Int) : xs.Nodup ↔ ∀ i j, i < j → j < xs.length → xs.getD i 0 ≠ xs.getD j 0 := by
  unfold List.Nodup
  rw [List.pairwise_iff_getElem]
  constructor
  · intro h i j hij hj
    have := h i j (by omega) hj hij
    simpa [List.getD_eq_getElem?_getD, List.getElem?_eq_getElem hj, List.getElem?_eq_getElem (show i < xs.length by omega)] using this
  · intro h i j hi hj hij
    have := h i j hij hj
    simpa [List.getD_eq_getElem?_getD, List.getElem?_eq_getElem hj, List.getElem?_eq_getElem hi] using this
theorem nodup_ne {xs : List Int} (h : xs.Nodup) {i j : Nat} (hi : i < xs.length) (hj : j < xs.length) (hne : i ≠ j) : xs.getD i 0 ≠ xs.getD j 0 := by
  rcases Nat.lt_or_gt_of_ne hne with hl | hl
  · exact (nodup_iff xs).1 h i j hl hj
  · exact fun e => (nodup_iff xs).1 h j i hl hi e.symm
/-- f is a short polynomial through the points -/
structure Thr (xs ys f : List Int) : Prop where
  nt : neat f
  al : allEl f = true
  ln : f.length ≤ xs.length
  vs : ∀ j, j < xs.length → ev f (xs.getD j 0) = ys.getD j 0
theorem thr_unique {xs ys f h : List Int} (hd : xs.Nodup) (ax : allEl xs = true) (h1 : Thr xs ys f) (h2 : Thr xs ys h) : f = h :=
  interp_unique h1.nt h2.nt h1.al h2.al h1.ln h2.ln hd fun x hx => by
    obtain ⟨j, hj, e⟩ := List.mem_iff_getElem.1 hx
    have e' : xs.getD j 0 = x := by rw [List.getD_eq_getElem?_getD, List.getElem?_eq_getElem hj]; exact e
    have b := el_at ax j
    have v1 := h1.vs j hj
    have v2 := h2.vs j hj
    rw [e'] at b v1 v2
    exact ⟨b.1, b.2, by rw [v1, v2]⟩
theorem cg_lt {a b : Int} (h : cg a b) (a0 : 0 ≤ a) (a1 : a < 65537) : a = b % 65537 := by unfold cg at h; omega
/-- Newton's way: through is through the first k points, zero is nought just there -/
structure Nwt (xs ys T Z : List Int) (k : Nat) : Prop where
  nt : neat T
  tl : allEl T = true
  lt : T.length ≤ k
  vt : ∀ j, j < k → ev T (xs.getD j 0) = ys.getD j 0
  zl : allEl Z = true
  lz : Z.length ≤ k + 1
  vz : ∀ j, j < k → ev Z (xs.getD j 0) = 0
  nz : ∀ x, 0 ≤ x → x < 65537 → (∀ j, j < k → xs.getD j 0 ≠ x) → ev Z x ≠ 0
theorem nwt_start (xs ys : List Int) : Nwt xs ys [] [1] 0 :=
  ⟨.inl rfl, rfl, by simp, fun j h => by omega, by decide, by simp, fun j h => by omega, fun x _ _ _ => by
    rw [ev_cons]; show (0 * x + 1) % 65537 ≠ 0; rw [Int.zero_mul]; decide⟩
def nfac (T Z : List Int) (x y : Int) : Int := (y + 65537 - ev T x) % 65537 * pw (ev Z x) 65535 % 65537
def nthr (T Z : List Int) (x y : Int) : List Int := trim (padd T (trim (pscale Z (nfac T Z x y))))
def nzer (Z : List Int) (x : Int) : List Int := trim (padd (trim (0 :: Z)) (trim (pscale (trim (pscale Z x)) 65536)))
theorem nthr_ev (T Z : List Int) (x y u : Int) : ev (nthr T Z x y) u = (ev T u + ev Z u * nfac T Z x y % 65537) % 65537 := by
  unfold nthr; rw [ev_trim, ev_padd, ev_trim, ev_pscale]
theorem nzer_ev (Z : List Int) (x u : Int) : ev (nzer Z x) u = ev Z u * ((u - x) % 65537) % 65537 := by
  unfold nzer; rw [ev_trim, ev_padd, ev_trim, ev_trim, ev_pscale, ev_trim, ev_pscale, ev_cons]
  show cg _ _
  have h1 : cg ((ev Z u * u + 0) % 65537) (ev Z u * u) := (cg_mod _).trans (cg_of_eq (by omega))
  have h2 : cg (ev Z u * x % 65537 * 65536 % 65537) (ev Z u * x * -1) := (cg_mod _).trans ((cg_mod _).mul (show cg 65536 (-1) by unfold cg; decide))
  refine (h1.add h2).trans ?_
  refine (cg_of_eq ?_).trans ((cg.refl (ev Z u)).mul (cg_mod (u - x)).symm)
  generalize ev Z u = e
  grind
theorem nwt_step {xs ys T Z : List Int} {k : Nat} (h : Nwt xs ys T Z k) (hd : xs.Nodup) (hk : k < xs.length) (ax : allEl xs = true) (ay : allEl ys = true) :
    Nwt xs ys (nthr T Z (xs.getD k 0) (ys.getD k 0)) (nzer Z (xs.getD k 0)) (k + 1) := by
  have bx := el_at ax k
  have by' := el_at ay k
  have hz : ev Z (xs.getD k 0) ≠ 0 := h.nz _ bx.1 bx.2 fun j hj => nodup_ne hd (by omega) hk (by omega)
  refine ⟨neat_trim _, all_trim (all_padd _ _), ?_, ?_, all_trim (all_padd _ _), ?_, ?_, ?_⟩
  · have h1 := len_trim (padd T (trim (pscale Z (nfac T Z (xs.getD k 0) (ys.getD k 0)))))
    have h2 := len_trim (pscale Z (nfac T Z (xs.getD k 0) (ys.getD k 0)))
    rw [padd_len] at h1
    rw [pscale_len'] at h2
    have := h.lt; have := h.lz
    unfold nthr; omega
  · intro j hj
    rw [nthr_ev]
    by_cases e : j = k
    · subst e
      have hb := ev_bd Z (xs.getD j 0)
      have hc := lead_cancel (a := (ys.getD j 0 + 65537 - ev T (xs.getD j 0)) % 65537) (b := ev Z (xs.getD j 0)) ⟨by omega, by omega⟩ hb hz
      rw [inv_in ((el_iff _).2 hb) hz] at hc
      unfold nfac
      rw [Int.mul_comm (ev Z _), hc]
      have := ev_bd T (xs.getD j 0)
      omega
    · rw [h.vz j (by omega), h.vt j (by omega)]
      have := el_at ay j
      simp only [Int.zero_mul]; omega
  · have h1 := len_trim (padd (trim (0 :: Z)) (trim (pscale (trim (pscale Z (xs.getD k 0))) 65536)))
    have h2 := len_trim (0 :: Z)
    have h3 := len_trim (pscale (trim (pscale Z (xs.getD k 0))) 65536)
    have h4 := len_trim (pscale Z (xs.getD k 0))
    rw [padd_len] at h1
    rw [pscale_len'] at h3 h4
    rw [List.length_cons] at h2
    have := h.lz
    unfold nzer; omega
  · intro j hj
    rw [nzer_ev]
    by_cases e : j = k
    · subst e; rw [Int.sub_self]; simp
    · rw [h.vz j (by omega)]; simp
  · intro x x0 x1 hx
    rw [nzer_ev]
    have hne := hx k (by omega)
    exact prod_ne ((el_iff _).2 (ev_bd Z x)) ((el_iff _).2 ⟨by omega, by omega⟩) (h.nz x x0 x1 fun j hj => hx j (by omega)) (by omega)
theorem nwt_end {xs ys T Z : List Int} (h : Nwt xs ys T Z xs.length) : Thr xs ys T := ⟨h.nt, h.tl, h.lt, h.vt⟩
/-- Lagrange's way: f is nought at the first k points but for point i, and b there -/
structure Lag (xs f : List Int) (b : Int) (i k : Nat) : Prop where
  fl : allEl f = true
  lf : f.length ≤ (if i < k then k else k + 1)
  vz : ∀ j, j < k → j ≠ i → ev f (xs.getD j 0) = 0
  vb : ev f (xs.getD i 0) = b
  b0 : b ≠ 0
theorem Lag.bd {xs f : List Int} {b : Int} {i k : Nat} (h : Lag xs f b i k) : 0 ≤ b ∧ b < 65537 := by rw [← h.vb]; exact ev_bd _ _
theorem lag_start (xs : List Int) (i : Nat) : Lag xs [1] 1 i 0 :=
  ⟨by decide, by simp, fun j h => by omega, by rw [ev_cons]; show (0 * _ + 1) % 65537 = 1; rw [Int.zero_mul]; decide, by decide⟩
theorem lag_skip {xs f : List Int} {b : Int} {i : Nat} (h : Lag xs f b i i) : Lag xs f b i (i + 1) :=
  ⟨h.fl, by have := h.lf; rw [if_neg (by omega)] at this; rw [if_pos (by omega)]; exact this, fun j hj hne => h.vz j (by omega) hne, h.vb, h.b0⟩
theorem lag_step {xs f : List Int} {b : Int} {i k : Nat} (h : Lag xs f b i k) (ax : allEl xs = true) (hne : k ≠ i) (hx : xs.getD k 0 ≠ xs.getD i 0) :
    Lag xs (pmul f [sub 0 (xs.getD k 0), 1]) (b * sub (xs.getD i 0) (xs.getD k 0) % 65537) i (k + 1) := by
  have bk := el_at ax k
  have bi := el_at ax i
  have ek := (el_iff _).2 bk
  have ei := (el_iff _).2 bi
  have e0 : [sub 0 (xs.getD k 0), 1] = lin (xs.getD k 0) := by
    unfold lin; rw [sub_in (by decide) ek, Int.zero_add]
  rw [e0, sub_in ei ek]
  refine ⟨all_pmul _ _, ?_, ?_, ?_, ?_⟩
  · have h1 := pmul_len f (lin (xs.getD k 0))
    have h2 : (lin (xs.getD k 0)).length = 2 := rfl
    have h3 := h.lf
    split at h3 <;> split <;> omega
  · intro j hj hji
    rw [ev_pmul, lin_ev]
    by_cases e : j = k
    · subst e
      rw [show (xs.getD j 0 + (65537 - xs.getD j 0)) % 65537 = 0 by omega]; simp
    · rw [h.vz j (by omega) hji]; simp
  · rw [ev_pmul, lin_ev, h.vb, Int.add_sub_assoc]
  · exact prod_ne ((el_iff _).2 h.bd) ((el_iff _).2 ⟨by omega, by omega⟩) h.b0 (by omega)
/-- the sum so far: through the first i points, nought at the others -/
structure Lgo (xs ys O : List Int) (i : Nat) : Prop where
  nt : neat O
  ol : allEl O = true
  lo : O.length ≤ xs.length
  vs : ∀ j, j < i → ev O (xs.getD j 0) = ys.getD j 0
  vz : ∀ j, i ≤ j → j < xs.length → ev O (xs.getD j 0) = 0
theorem lgo_start (xs ys : List Int) : Lgo xs ys [] 0 := ⟨.inl rfl, rfl, by simp, fun j h => by omega, fun _ _ _ => rfl⟩
theorem ev_single {c : Int} (c0 : 0 ≤ c) (c1 : c < 65537) (x : Int) : ev (trim [c]) x = c := by
  rw [ev_trim, ev_cons]; show (0 * x + c) % 65537 = c; rw [Int.zero_mul]; omega
theorem lgo_step {xs ys O f : List Int} {b : Int} {i : Nat} (ho : Lgo xs ys O i) (h : Lag xs f b i xs.length) (hi : i < xs.length) (ay : allEl ys = true) :
    Lgo xs ys (trim (padd O (pmul f (trim [ys.getD i 0 * inv b % 65537])))) (i + 1) := by
  have c0 : 0 ≤ ys.getD i 0 * inv b % 65537 := by omega
  have c1 : ys.getD i 0 * inv b % 65537 < 65537 := by omega
  have hv : ∀ u, ev (trim (padd O (pmul f (trim [ys.getD i 0 * inv b % 65537])))) u = (ev O u + ev f u * (ys.getD i 0 * inv b % 65537) % 65537) % 65537 := fun u => by
    rw [ev_trim, ev_padd, ev_pmul, ev_single c0 c1]
  refine ⟨neat_trim _, all_trim (all_padd _ _), ?_, ?_, ?_⟩
  · have h1 := len_trim (padd O (pmul f (trim [ys.getD i 0 * inv b % 65537])))
    have h2 := pmul_len f (trim [ys.getD i 0 * inv b % 65537])
    have h3 := len_trim [ys.getD i 0 * inv b % 65537]
    have h4 := h.lf
    have h5 := ho.lo
    rw [if_pos hi] at h4
    rw [padd_len] at h1
    simp only [List.length_cons, List.length_nil] at h3
    omega
  · intro j hj
    rw [hv]
    by_cases e : j = i
    · subst e
      rw [ho.vz j (Nat.le_refl _) hi, h.vb, Int.mul_comm b, lead_cancel (el_at ay j) h.bd h.b0]
      have := el_at ay j
      omega
    · rw [ho.vs j (by omega), h.vz j (by omega) e]
      have := el_at ay j
      simp only [Int.zero_mul]; omega
  · intro j hj hjl
    rw [hv, ho.vz j (by omega) hjl, h.vz j hjl (by omega)]
    simp
theorem lgo_end {xs ys O : List Int} (h : Lgo xs ys O xs.length) : Thr xs ys O := ⟨h.nt, h.ol, h.lo, h.vs⟩
def thLens (xs ys : List Int) : Bool := decide (1 ≤ xs.length) && (decide (xs.length ≤ 64) && decide (ys.length = xs.length))
def thOk (xs ys : List Int) : Bool := thLens xs ys && (allEl xs && (allEl ys && decide xs.Nodup))
def ThRes (xs ys f : List Int) : Prop := (thOk xs ys = true ∧ Thr xs ys f) ∨ (thOk xs ys = false ∧ f = [])
theorem thLens_parts {xs ys : List Int} (h : thLens xs ys = true) : 1 ≤ xs.length ∧ xs.length ≤ 64 ∧ ys.length = xs.length := by
  unfold thLens at h; simpa using h
theorem thOk_parts {xs ys : List Int} (h : thOk xs ys = true) : thLens xs ys = true ∧ allEl xs = true ∧ allEl ys = true ∧ xs.Nodup := by
  unfold thOk at h; simpa using h
theorem thRes_unique {xs ys f h : List Int} (h1 : ThRes xs ys f) (h2 : ThRes xs ys h) : f = h := by
  rcases h1 with ⟨o, t⟩ | ⟨o, t⟩
  · rcases h2 with ⟨o', t'⟩ | ⟨o', t'⟩
    · obtain ⟨_, ax, _, hd⟩ := thOk_parts o
      exact thr_unique hd ax t t'
    · rw [o] at o'; cases o'
  · rcases h2 with ⟨o', t'⟩ | ⟨o', t'⟩
    · rw [o] at o'; cases o'
    · rw [t, t']
theorem thRes_len {xs ys f : List Int} (h : ThRes xs ys f) : f.length ≤ 64 := by
  rcases h with ⟨o, t⟩ | ⟨_, t⟩
  · have := (thLens_parts (thOk_parts o).1).2.1; have := t.ln; omega
  · rw [t]; simp
/-- Newton's pairs -/
def nwts (xs ys : List Int) : Nat → List Int × List Int
  | 0 => ([], [1])
  | k + 1 => (nthr (nwts xs ys k).1 (nwts xs ys k).2 (xs.getD k 0) (ys.getD k 0), nzer (nwts xs ys k).2 (xs.getD k 0))
theorem nwts_ok {xs ys : List Int} (hd : xs.Nodup) (ax : allEl xs = true) (ay : allEl ys = true) : ∀ k, k ≤ xs.length → Nwt xs ys (nwts xs ys k).1 (nwts xs ys k).2 k := by
  intro k
  induction k with
  | zero => intro _; exact nwt_start xs ys
  | succ k ih => intro hk; exact nwt_step (ih (by omega)) hd (by omega) ax ay
def thv (xs ys : List Int) : List Int := if thOk xs ys = true then (nwts xs ys xs.length).1 else []
theorem thv_in {xs ys : List Int} (h : thOk xs ys = true) : thv xs ys = (nwts xs ys xs.length).1 := if_pos h
theorem thv_out {xs ys : List Int} (h : thOk xs ys = false) : thv xs ys = [] := if_neg (by rw [h]; decide)
theorem thRes_thv (xs ys : List Int) : ThRes xs ys (thv xs ys) := by
  cases h : thOk xs ys with
  | true =>
    obtain ⟨_, ax, ay, hd⟩ := thOk_parts h
    exact .inl ⟨h, by rw [thv_in h]; exact nwt_end (nwts_ok hd ax ay _ (Nat.le_refl _))⟩
  | false => exact .inr ⟨h, thv_out h⟩
theorem thv_len (xs ys : List Int) : (thv xs ys).length ≤ 64 := thRes_len (thRes_thv xs ys)
theorem thv_of {xs ys f : List Int} (h : thOk xs ys = true) (ht : Thr xs ys f) : f = thv xs ys := thRes_unique (.inl ⟨h, ht⟩) (thRes_thv xs ys)
theorem thOk_mk {xs ys : List Int} (h1 : thLens xs ys = true) (h2 : allEl xs = true) (h3 : allEl ys = true) (h4 : xs.Nodup) : thOk xs ys = true := by
  unfold thOk; rw [h1, h2, h3, decide_eq_true h4]; rfl
end M
end Go.Proofs.YtfhknkppiidnkaaGreat
