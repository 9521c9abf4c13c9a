/- Claims joined as a tree, in the model. -/
import Derived.Test.YtfhknkppiidnkaaGreatLvE
import Derived.Test.YtfhknkppiidnkaaGreatClS
import Derived.Test.YtfhknkppiidnkaaGreatClB
namespace Go.Proofs.YtfhknkppiidnkaaGreat
open Go.RowKit

def slLen : Value → Nat
  | .slice _ n _ => n
  | _ => 0
/-- the first cells of a block are these claims -/
def CellsC (wr : World) (g k : Nat) (xs : List M.Cl) : Prop := ∀ i, i < k → ∀ q, q < 5 → wr.cell? ⟨g, i * 5 + q, none⟩ = (cvs (xs.getD i M.c0))[q]?
theorem CellsC.below {W W' : World} {B g k : Nat} {xs : List M.Cl} (h : CellsC W g k xs) (hb : Below B W W') (hg : g < B) : CellsC W' g k xs := fun i hi q hq => (hb.cell (p := ⟨g, i * 5 + q, none⟩) hg).trans (h i hi q hq)
theorem CellsC.grown {W W' : World} {g k : Nat} {xs : List M.Cl} {row : Option Nat} (h : CellsC W g k xs) (hg : W.grownBy W' row) (hl : g < W.heap.size) (hr : row ≠ some g) : CellsC W' g k xs := fun i hi q hq => by
  have hb : W'.heap[g]? = W.heap[g]? := hg.block g hl (fun e' => hr (by rw [e']))
  exact (World.cell?_of_block (a := ⟨g, i * 5 + q, none⟩) hb).trans (h i hi q hq)
/-- the inner loop -/
def SjI (cs xs : List M.Cl) (k g : Nat) (w wo : World) (s i : Value) (wr : World) : Prop := ∃ (j : Nat) (an : Option Addr) (cn : Nat) (ns : List M.Cl), s = .slice an j cn ∧ i = .int .i64 ((2 * j : Nat) : Int) ∧ 2 * j ≤ k ∧ OwnsC 33 wr wo.heap.size an j cn ns ∧ M.Same cs (ns ++ xs.drop (2 * j)) ∧ Lies wr w.heap.size [.int .i64 0, .int .i64 0, .int .i64 0, .int .i64 0, .int .i64 0] ∧ CellsC wr g k xs ∧ wo.heap.size ≤ wr.heap.size ∧ Below w.heap.size w wr
theorem dropL_two {xs : List M.Cl} {j : Nat} (h : 2 * j + 1 < xs.length) : xs.drop (2 * j) = xs.getD (2 * j) M.c0 :: xs.getD (2 * j + 1) M.c0 :: xs.drop (2 * (j + 1)) := by
  have := drop_two (xs := xs) (m := xs.length) h (Nat.le_refl _)
  rwa [List.take_length] at this
theorem dropL_one {xs : List M.Cl} {j : Nat} (h : 2 * j + 1 = xs.length) : xs.drop (2 * j) = [xs.getD (2 * j) M.c0] := by
  have := drop_one (xs := xs) h (Nat.le_refl _)
  rw [List.take_length, List.drop_of_length_le (i := 2 * (j + 1)) (by omega)] at this
  exact this
/-- the outer loop: what 'now' shows -/
def SjR (cs : List M.Cl) (w : World) (s : Value) (wr : World) : Prop := ∃ (a : Option Addr) (k cap : Nat) (xs : List M.Cl), s = .slice a k cap ∧ 1 ≤ k ∧ k ≤ 40 ∧ OwnsC 33 wr (w.heap.size + 1) a k cap xs ∧ M.Same cs xs ∧ Lies wr w.heap.size [.int .i64 0, .int .i64 0, .int .i64 0, .int .i64 0, .int .i64 0] ∧ Below w.heap.size w wr
set_option maxHeartbeats 8000000 in
set_option maxRecDepth 100000 in
theorem specJoinedAll_any {a : Option Addr} {n cap : Nat} {cs : List M.Cl} (w : World) (hs : SeesC w a n cap cs) :
    Calls Tryz.prog 29 #[.slice a n cap] w fun e w' => e = .returned (.tuple #[clv (M.allv cs), .bool (M.allOk cs)]) ∧ Below w.heap.size w w' := by
  have hcl : cs.length = n := hs.len
  have hnb : (n : Int) ≤ 9223372036854775807 := by have := hs.big; have := hs.le; omega
  have hcI : (n : Int) ≤ cap := by have := hs.le; omega
  have HB0 : Hid (Below w.heap.size w (w.alloc (.cells #[.int .i64 0, .int .i64 0, .int .i64 0, .int .i64 0, .int .i64 0] 33))) := (Below.refl _ _).alloc (Nat.le_refl _) _
  have LZ : Hid (Lies (w.alloc (.cells #[.int .i64 0, .int .i64 0, .int .i64 0, .int .i64 0, .int .i64 0] 33)) w.heap.size [.int .i64 0, .int .i64 0, .int .i64 0, .int .i64 0, .int .i64 0]) := lies_new _ _ _
  by_cases hr : 1 ≤ n ∧ n ≤ 40
  · obtain ⟨h1, h40⟩ := hr
    have h1I : ¬ ((n : Int) < 1) := by omega
    have h40I : ¬ (40 < (n : Int)) := by omega
    have h0N : 0 < n := by omega
    have h1d : decide ((n : Int) < 1) = false := decide_eq_false h1I
    have h40d : decide (40 < (n : Int)) = false := decide_eq_false h40I
    obtain ⟨b, off, rfl, hc⟩ := hs.at (by omega)
    have hbl : b < w.heap.size := World.block_lt_of_cell? w ⟨b, off + 0 * 5 + 0, none⟩ ((hc 0 (by omega) 0 (by omega)).trans rfl)
    have hA : ∀ j v, (cvs (cs.getD 0 M.c0))[j]? = some v → (w.alloc (.cells #[.int .i64 0, .int .i64 0, .int .i64 0, .int .i64 0, .int .i64 0] 33)).cell? ⟨b, off + j, none⟩ = some v := fun j v hv => by
      have hj : j < 5 := by
        rcases Nat.lt_or_ge j 5 with h | h
        · exact h
        · rw [List.getElem?_eq_none (by simpa [cvs] using h)] at hv; simp at hv
      have := hc 0 (by omega) j hj
      rw [hv, Nat.zero_mul, Nat.add_zero] at this
      exact (HB0.out.cell (p := ⟨b, off + j, none⟩) hbl).trans this
    have hhd : cs.getD 0 M.c0 = cs.headD M.c0 := by cases cs <;> rfl
    have CO := l7Ok_any (cs.headD M.c0)
    have HS0 : Hid (M.clOk (cs.headD M.c0) = true → M.Same cs cs) := fun h => M.Same.refl h
    have HBAD : Hid (M.clOk (cs.headD M.c0) = false → M.allOk cs = false) := fun h => M.allOk_bad h
    have HSEE : Hid (SeesC w (some ⟨b, off, none⟩) n cap cs) := hs
    rw [hhd] at hA
    generalize M.clOk (cs.headD M.c0) = co at CO HS0 HBAD
    generalize cs.headD M.c0 = c0 at hA CO
    obtain ⟨⟨x, y⟩, ⟨x', y'⟩, n'⟩ := c0
    dsimp only [clv] at CO
    have a0 : (w.alloc (.cells #[.int .i64 0, .int .i64 0, .int .i64 0, .int .i64 0, .int .i64 0] 33)).cell? ⟨b, off, none⟩ = some (.int .i64 x) := hA 0 _ rfl
    have a1 : (w.alloc (.cells #[.int .i64 0, .int .i64 0, .int .i64 0, .int .i64 0, .int .i64 0] 33)).cell? ⟨b, off + 1, none⟩ = some (.int .i64 y) := hA 1 _ rfl
    have a2 : (w.alloc (.cells #[.int .i64 0, .int .i64 0, .int .i64 0, .int .i64 0, .int .i64 0] 33)).cell? ⟨b, off + 2, none⟩ = some (.int .i64 x') := hA 2 _ rfl
    have a3 : (w.alloc (.cells #[.int .i64 0, .int .i64 0, .int .i64 0, .int .i64 0, .int .i64 0] 33)).cell? ⟨b, off + 3, none⟩ = some (.int .i64 y') := hA 3 _ rfl
    have a4 : (w.alloc (.cells #[.int .i64 0, .int .i64 0, .int .i64 0, .int .i64 0, .int .i64 0] 33)).cell? ⟨b, off + 4, none⟩ = some (.int .i64 n') := hA 4 _ rfl
    clear hs hc hA hhd
    go_enter Tryz.func29, Tryz.ntmps29
    go_wp2_with fail
    refine (CO _).mono ?_
    rintro e w1 ⟨rfl, hb1⟩
    have LZ1 : Hid (Lies w1 w.heap.size [.int .i64 0, .int .i64 0, .int .i64 0, .int .i64 0, .int .i64 0]) := LZ.out.belowS hb1
    have HB1 : Hid (Below w.heap.size w w1) := HB0.out.trans (hb1.mono HB0.out.size)
    have HSE1 : Hid (SeesC w1 (some ⟨b, off, none⟩) n cap cs) := HSEE.out.below HB1.out
    clear hb1 a0 a1 a2 a3 a4 CO LZ HB0 HSEE
    have LZ := LZ1
    cases co with
    | false =>
      have z0 : w1.cell? ⟨w.heap.size, 0, none⟩ = some (.int .i64 0) := LZ.out.at 0
      have y0 : w1.frozen? ⟨w.heap.size, 0, none⟩ = false := LZ.out.fr 0
      have z1 : w1.cell? ⟨w.heap.size, 1, none⟩ = some (.int .i64 0) := LZ.out.at 1
      have y1 : w1.frozen? ⟨w.heap.size, 1, none⟩ = false := LZ.out.fr 1
      have z2 : w1.cell? ⟨w.heap.size, 2, none⟩ = some (.int .i64 0) := LZ.out.at 2
      have y2 : w1.frozen? ⟨w.heap.size, 2, none⟩ = false := LZ.out.fr 2
      have z3 : w1.cell? ⟨w.heap.size, 3, none⟩ = some (.int .i64 0) := LZ.out.at 3
      have y3 : w1.frozen? ⟨w.heap.size, 3, none⟩ = false := LZ.out.fr 3
      have z4 : w1.cell? ⟨w.heap.size, 4, none⟩ = some (.int .i64 0) := LZ.out.at 4
      have y4 : w1.frozen? ⟨w.heap.size, 4, none⟩ = false := LZ.out.fr 4
      go_wp2
      refine bodyPost_ret (v := .tuple #[.agg #[.int .i64 0, .int .i64 0, .int .i64 0, .int .i64 0, .int .i64 0], .bool false]) (by simp [results, Tryz.results29, go_sem, z0, z1, z2, z3, z4]) rfl ⟨by rw [M.allv_out (HBAD.out (by simp)), HBAD.out (by simp)]; rfl, ?_⟩
      exact ((((HB1.out.setCell (Nat.le_refl _) _).setCell (Nat.le_refl _) _).setCell (Nat.le_refl _) _).setCell (Nat.le_refl _) _).setCell (Nat.le_refl _) _
    | true =>
      obtain ⟨i0, hi, hz0, hz1, hz2⟩ := info_parts info_claim
      have HI : Hid (Tryz.prog.info? 33 = some i0 ∧ i0.zero = some (.agg #[.int .i64 0, .int .i64 0, .int .i64 0, .int .i64 0, .int .i64 0]) ∧ i0.size = 5 ∧ i0.bytes = 40) := ⟨hi, hz0, hz1, hz2⟩
      clear hi hz0 hz1 hz2
      have hs1 : w.heap.size + 1 ≤ w1.heap.size := by have := LZ1.out.2.2; omega
      have HO : Hid (OwnsC 33 (w1.alloc (.cells #[] 33)) (w.heap.size + 1) (some ⟨w1.heap.size, 0, none⟩) 0 0 []) := ownsC_empty _ _ hs1
      have hsrc : Hid (∀ j u, (prc cs)[j]? = some u → (w1.alloc (.cells #[] 33)).cell? ((⟨b, off, none⟩ : Addr).add j) = some u) := (HSE1.out.below ((Below.refl _ _).alloc (Nat.le_refl _) _)).cells
      have hnl : Hid ((prc cs).length = n * 5) := by show _ = _; rw [prc_len, hcl]
      go_wp2_with (with_reducible refine wpList_stop 27 ?_ ?_; rfl)
      show wpList _ _ _ _ _ _
      refine wpList_append_own _ rfl (.tmp 25) (.tmp 26) 65 rfl (w.heap.size + 1) 33 i0 (.agg #[.int .i64 0, .int .i64 0, .int .i64 0, .int .i64 0, .int .i64 0]) 5 40 Tryz.underlying65 HI.out.1 HI.out.2.1 HI.out.2.2.1 HI.out.2.2.2 rfl (by decide) _ 0 (prc []) rfl HO.out.2 ⟨b, off, none⟩ n cap (prc cs) rfl hnl.out hsrc.out prc_one (by unfold maxLen; omega) (by omega) (by simp; omega) ?_
      intro v' w2 hown hgrow _
      have hown' : w2.ownsRow (w.heap.size + 1) 33 5 v' n (prc cs) := by
        rw [show (0 : Nat) + n = n by omega, show prc [] ++ prc cs = prc cs from rfl] at hown; exact hown
      obtain ⟨a2, c2, rfl, ho2⟩ := OwnsC.form hcl hown'
      have hrow := HO.out.row
      have ST : Hid (SjR cs w (.slice a2 n c2) w2) := ⟨a2, n, c2, cs, rfl, h1, h40, ho2, HS0.out (by simp), (LZ1.out.alloc _).grown hgrow (fun e => by have := hrow _ e; omega), (HB1.out.alloc HB1.out.size _).grown hgrow (by have := HB1.out.size; simp; omega) (fun q hq => by have := hrow q hq; omega)⟩
      clear hown hown' hgrow ho2 hrow HO hsrc hnl HSE1 HB1 LZ1 LZ HS0 HBAD
      have HC1 : Hid (1 ≤ cs.length) := by show _ ≤ _; omega
      have HC40 : Hid (cs.length ≤ 40) := by show _ ≤ _; omega
      go_wp2
      go_loopw [4] (fun s wr => SjR cs w s wr) (fun s _ => slLen s)
      case atStart => exact ST.out
      case round =>
        obtain ⟨al, k, kc, xs, rfl, hk1, hk40, ho, hsm, lz, hb⟩ := hrel
        obtain ⟨g, rfl, hgb, hkc, hkb, hcells⟩ := ho.block (by omega)
        have hglt := (ho.lo _ rfl).2
        have HXL : Hid (xs.length = k) := ho.1
        have HC0 : Hid (CellsC wr g k xs) := hcells
        have HSM : Hid (M.Same cs xs) := hsm
        have LZ0 : Hid (Lies wr w.heap.size [.int .i64 0, .int .i64 0, .int .i64 0, .int .i64 0, .int .i64 0]) := lz
        have HBr : Hid (Below w.heap.size w wr) := hb
        have HGL : Hid (g < wr.heap.size) := hglt
        have HGB : Hid (w.heap.size + 1 ≤ g) := hgb
        have hkI : (k : Int) ≤ kc := by omega
        have hk0N : 0 < k := by omega
        clear ho hsm lz hb hcells hglt hgb ST
        by_cases hk : 1 < k
        · have hkgI : (1 : Int) < (k : Int) := by omega
          have ST2 : Hid (SjI cs xs k g w wr (.slice (some ⟨wr.heap.size, 0, none⟩) 0 0) (.int .i64 ((2 * 0 : Nat) : Int)) (wr.alloc (.cells #[] 33))) := ⟨0, _, 0, [], rfl, rfl, by omega, ownsC_empty _ _ (Nat.le_refl _), by simpa using HSM.out, LZ0.out.alloc _, HC0.out.below ((Below.refl wr.heap.size _).alloc (Nat.le_refl _) _) HGL.out, by simp, HBr.out.alloc HBr.out.size _⟩
          have HWS : Hid (w.heap.size < wr.heap.size) := LZ0.out.2.2
          generalize hwo : wr = wo at *
          clear HC0 HSM LZ0 HBr
          go_wp2
          go_loopw [5, 6] (fun s i wr => SjI cs xs k g w wo s i wr) (fun _ i _ => 80 - (intOf i).toNat)
          case atStart => exact ST2.out
          case round =>
            obtain ⟨j, an, cn, ns, rfl, rfl, hj, ho, hsm, lz, hcc, hsz, hb⟩ := hrel
            have HO : Hid (OwnsC 33 wr wo.heap.size an j cn ns) := ho
            have HNL : Hid (ns.length = j) := ho.1
            have HSM : Hid (M.Same cs (ns ++ xs.drop (2 * j))) := hsm
            have LZ0 : Hid (Lies wr w.heap.size [.int .i64 0, .int .i64 0, .int .i64 0, .int .i64 0, .int .i64 0]) := lz
            have HCC : Hid (CellsC wr g k xs) := hcc
            have HSZ : Hid (wo.heap.size ≤ wr.heap.size) := hsz
            have HBr : Hid (Below w.heap.size w wr) := hb
            clear ho hsm lz hcc hsz hb ST2
            by_cases hlt : 2 * j + 1 < k
            · have hltI : 2 * (j : Int) + 1 < (k : Int) := by omega
              have hlI : 2 * (j : Int) < (k : Int) := by omega
              have hl0 : (0 : Int) ≤ 2 * (j : Int) + 1 := by omega
              have hl00 : (0 : Int) ≤ 2 * (j : Int) := by omega
              have hlw0 : IntKind.i64.wrap (2 * (j : Int)) = 2 * (j : Int) := by rw [IntKind.wrap_i64]; omega
              have hlt0 : (2 * (j : Int)).toNat = 2 * j := by omega
              have hlw : IntKind.i64.wrap (2 * (j : Int) + 1) = 2 * (j : Int) + 1 := by rw [IntKind.wrap_i64]; omega
              have hlt2 : (2 * (j : Int) + 1).toNat = 2 * j + 1 := by omega
              have HS2 := HSM.out
              rw [dropL_two (by rw [HXL.out]; exact hlt)] at HS2
              have c0 := HCC.out (2 * j) (by omega)
              have c1 := HCC.out (2 * j + 1) (by omega)
              generalize xs.getD (2 * j) M.c0 = ca at HS2 c0
              generalize xs.getD (2 * j + 1) M.c0 = cb at HS2 c1
              have CJ := specJoined_any ca cb
              have HR1 : Hid (M.joinOk ca cb = true → M.Same cs (ns ++ M.joinv ca cb :: xs.drop (2 * (j + 1)))) := fun h => HS2.join h
              have HR2 : Hid (M.joinOk ca cb = false → M.allOk cs = false) := fun h => by rw [M.allOk_in HC1.out HC40.out]; exact HS2.bad h
              clear HS2 HSM
              generalize M.joinOk ca cb = jo at CJ HR1 HR2
              generalize M.joinv ca cb = jv at CJ HR1
              obtain ⟨⟨x, y⟩, ⟨x', y'⟩, n'⟩ := ca
              obtain ⟨⟨u, v⟩, ⟨u', v'⟩, p⟩ := cb
              obtain ⟨⟨j1, j2⟩, ⟨j3, j4⟩, j5⟩ := jv
              dsimp only [clv] at CJ
              have HGR : Hid (g < wr.heap.size) := Nat.lt_of_lt_of_le HGL.out HSZ.out
              have HK : Hid (∀ W, Below wr.heap.size wr W → W.cell? ⟨g, 2 * j * 5, none⟩ = some (.int .i64 x) ∧ W.cell? ⟨g, 2 * j * 5 + 1, none⟩ = some (.int .i64 y) ∧ W.cell? ⟨g, 2 * j * 5 + 2, none⟩ = some (.int .i64 x') ∧ W.cell? ⟨g, 2 * j * 5 + 3, none⟩ = some (.int .i64 y') ∧ W.cell? ⟨g, 2 * j * 5 + 4, none⟩ = some (.int .i64 n') ∧ W.cell? ⟨g, (2 * j + 1) * 5, none⟩ = some (.int .i64 u) ∧ W.cell? ⟨g, (2 * j + 1) * 5 + 1, none⟩ = some (.int .i64 v) ∧ W.cell? ⟨g, (2 * j + 1) * 5 + 2, none⟩ = some (.int .i64 u') ∧ W.cell? ⟨g, (2 * j + 1) * 5 + 3, none⟩ = some (.int .i64 v') ∧ W.cell? ⟨g, (2 * j + 1) * 5 + 4, none⟩ = some (.int .i64 p)) := fun W hW => by
                have f : ∀ {o : Nat} {v : Value}, wr.cell? ⟨g, o, none⟩ = some v → W.cell? ⟨g, o, none⟩ = some v := fun h => (hW.cell (p := ⟨g, _, none⟩) HGR.out).trans h
                exact ⟨f (c0 0 (by omega)), f (c0 1 (by omega)), f (c0 2 (by omega)), f (c0 3 (by omega)), f (c0 4 (by omega)), f (c1 0 (by omega)), f (c1 1 (by omega)), f (c1 2 (by omega)), f (c1 3 (by omega)), f (c1 4 (by omega))⟩
              have AJ : ∀ wc, Below wr.heap.size wr wc → Calls Tryz.prog 59 #[.agg #[.int .i64 x, .int .i64 y, .int .i64 x', .int .i64 y', .int .i64 n'], .agg #[.int .i64 u, .int .i64 v, .int .i64 u', .int .i64 v', .int .i64 p]] wc fun e w' => e = .returned (.tuple #[.agg #[.int .i64 j1, .int .i64 j2, .int .i64 j3, .int .i64 j4, .int .i64 j5], .bool jo]) ∧ Below wr.heap.size wr w' ∧ Below wc.heap.size wc w' := fun wc h => (CJ wc).mono fun _ _ hh => ⟨hh.1, h.trans (hh.2.mono h.size), hh.2⟩
              have HBL : Hid (∀ W, Below wr.heap.size wr W → Below wr.heap.size wr (W.alloc (.cells #[.int .i64 0, .int .i64 0, .int .i64 0, .int .i64 0, .int .i64 0] 33))) := fun W h => h.alloc h.size _
              have hb5 : Below wr.heap.size wr wr.drew := (Below.refl _ _).drew
              have hb5a : Below wr.heap.size wr (wr.alloc (.cells #[.int .i64 0, .int .i64 0, .int .i64 0, .int .i64 0, .int .i64 0] 33)).drew := (HBL.out _ (Below.refl _ _)).drew
              clear c0 c1 CJ
              go_wp2
              go_region_held3 (fun W => W.cell? ⟨g, 2 * j * 5, none⟩ = some (.int .i64 x) ∧ W.cell? ⟨g, 2 * j * 5 + 1, none⟩ = some (.int .i64 y) ∧ W.cell? ⟨g, 2 * j * 5 + 2, none⟩ = some (.int .i64 x') ∧ W.cell? ⟨g, 2 * j * 5 + 3, none⟩ = some (.int .i64 y') ∧ W.cell? ⟨g, 2 * j * 5 + 4, none⟩ = some (.int .i64 n') ∧ W.cell? ⟨g, (2 * j + 1) * 5, none⟩ = some (.int .i64 u) ∧ W.cell? ⟨g, (2 * j + 1) * 5 + 1, none⟩ = some (.int .i64 v) ∧ W.cell? ⟨g, (2 * j + 1) * 5 + 2, none⟩ = some (.int .i64 u') ∧ W.cell? ⟨g, (2 * j + 1) * 5 + 3, none⟩ = some (.int .i64 v') ∧ W.cell? ⟨g, (2 * j + 1) * 5 + 4, none⟩ = some (.int .i64 p)) (first | with_reducible exact HK.out _ hbb | with_reducible exact HK.out _ hb5 | with_reducible exact HK.out _ (HBL.out _ hbb) | with_reducible exact HK.out _ (HBL.out _ hb5) | with_reducible exact HK.out _ hb5a | with_reducible exact HK.out _ (leafS5 hbb (by omega) hq).1 | with_reducible exact HK.out _ (leafA5 hbb (by omega)).1)
                (first
                  | (go_at_call 59; refine (AJ _ (by first | with_reducible exact hb5 | with_reducible exact hb5a | with_reducible exact HBL.out _ hb5)).mono ?_; rintro e v6 ⟨rfl, hbb, hcc⟩; (first | (have hq : Lies v6 wr.heap.size [.int .i64 0, .int .i64 0, .int .i64 0, .int .i64 0, .int .i64 0] := lies_kept hcc; obtain ⟨hq0, hq1, hq2, hq3, hq4, hf0, hf1, hf2, hf3, hf4⟩ := hq.five) | (have hq : Lies v6 wr.heap.size [.int .i64 0, .int .i64 0, .int .i64 0, .int .i64 0, .int .i64 0] := lies_kept ((Below.refl _ _).drew.trans hcc); obtain ⟨hq0, hq1, hq2, hq3, hq4, hf0, hf1, hf2, hf3, hf4⟩ := hq.five) | skip)))
              all_goals
                first
                  | (have hR := leafS5 (v0 := .int .i64 j1) (v1 := .int .i64 j2) (v2 := .int .i64 j3) (v3 := .int .i64 j4) (v4 := .int .i64 j5) hbb (by omega) hq; generalize (((((v6.setCell _ _).setCell _ _).setCell _ _).setCell _ _).setCell _ _) = W at hR ⊢; obtain ⟨hBW, hLW, -⟩ := hR; generalize hPJ : wr.heap.size = PJ at hLW ⊢)
                  | (have hR := leafA5 (t := 33) (vs := #[.int .i64 j1, .int .i64 j2, .int .i64 j3, .int .i64 j4, .int .i64 j5]) hbb (by omega); generalize v6.alloc _ = W at hR ⊢; obtain ⟨hBW, hLW, -⟩ := hR; generalize v6.heap.size = PJ at hLW ⊢)
                (try clear hPJ)
                have HBW : Hid (Below wr.heap.size wr W) := hBW
                have LPJ : Hid (Lies W PJ [.int .i64 j1, .int .i64 j2, .int .i64 j3, .int .i64 j4, .int .i64 j5]) := hLW
                have LZ : Hid (Lies W w.heap.size [.int .i64 0, .int .i64 0, .int .i64 0, .int .i64 0, .int .i64 0]) := LZ0.out.belowS hBW
                have HOW : Hid (OwnsC 33 W wo.heap.size an j cn ns) := HO.out.below hBW
                have HCW : Hid (CellsC W g k xs) := HCC.out.below hBW HGR.out
                have HBB : Hid (Below w.heap.size w W) := HBr.out.trans (hBW.mono HBr.out.size)
                clear hBW hLW hbb hcc
                (try clear hq hq0 hq1 hq2 hq3 hq4 hf0 hf1 hf2 hf3 hf4)
                clear HK AJ HBL hb5 hb5a HO LZ0 HCC HBr
                cases jo with
                | false =>
                  have z0 : W.cell? ⟨w.heap.size, 0, none⟩ = some (.int .i64 0) := LZ.out.at 0
                  have y0 : W.frozen? ⟨w.heap.size, 0, none⟩ = false := LZ.out.fr 0
                  have z1 : W.cell? ⟨w.heap.size, 1, none⟩ = some (.int .i64 0) := LZ.out.at 1
                  have y1 : W.frozen? ⟨w.heap.size, 1, none⟩ = false := LZ.out.fr 1
                  have z2 : W.cell? ⟨w.heap.size, 2, none⟩ = some (.int .i64 0) := LZ.out.at 2
                  have y2 : W.frozen? ⟨w.heap.size, 2, none⟩ = false := LZ.out.fr 2
                  have z3 : W.cell? ⟨w.heap.size, 3, none⟩ = some (.int .i64 0) := LZ.out.at 3
                  have y3 : W.frozen? ⟨w.heap.size, 3, none⟩ = false := LZ.out.fr 3
                  have z4 : W.cell? ⟨w.heap.size, 4, none⟩ = some (.int .i64 0) := LZ.out.at 4
                  have y4 : W.frozen? ⟨w.heap.size, 4, none⟩ = false := LZ.out.fr 4
                  go_wp2
                  refine bodyPost_ret (v := .tuple #[.agg #[.int .i64 0, .int .i64 0, .int .i64 0, .int .i64 0, .int .i64 0], .bool false]) (by simp [results, Tryz.results29, go_sem, z0, z1, z2, z3, z4]) rfl ⟨by rw [M.allv_out (HR2.out (by simp)), HR2.out (by simp)]; rfl, ?_⟩
                  exact ((((HBB.out.setCell (Nat.le_refl _) _).setCell (Nat.le_refl _) _).setCell (Nat.le_refl _) _).setCell (Nat.le_refl _) _).setCell (Nat.le_refl _) _
                | true =>
                  have HSN := HR1.out (by simp)
                  have HSJ : Hid (M.Same cs ((ns ++ [⟨(j1, j2), (j3, j4), j5⟩]) ++ xs.drop (2 * (j + 1)))) := by show M.Same _ _; rw [List.append_assoc]; exact HSN
                  have HNS : Hid ((ns ++ [(⟨(j1, j2), (j3, j4), j5⟩ : M.Cl)]).length = j + 1) := by show _ = _; rw [List.length_append, HNL.out]; rfl
                  clear HSN
                  have e0 : W.cell? ⟨PJ, 0, none⟩ = some (.int .i64 j1) := LPJ.out.at 0
                  have e1 : W.cell? ⟨PJ, 1, none⟩ = some (.int .i64 j2) := LPJ.out.at 1
                  have e2 : W.cell? ⟨PJ, 2, none⟩ = some (.int .i64 j3) := LPJ.out.at 2
                  have e3 : W.cell? ⟨PJ, 3, none⟩ = some (.int .i64 j4) := LPJ.out.at 3
                  have e4 : W.cell? ⟨PJ, 4, none⟩ = some (.int .i64 j5) := LPJ.out.at 4
                  go_wp2_with (with_reducible refine wpList_stop 58 ?_ ?_; rfl)
                  show wpList _ _ _ _ _ _
                  refine wpList_append_own _ rfl (.tmp 55) (.tmp 57) 65 rfl wo.heap.size 33 i0 (.agg #[.int .i64 0, .int .i64 0, .int .i64 0, .int .i64 0, .int .i64 0]) 5 40 Tryz.underlying65 HI.out.1 HI.out.2.1 HI.out.2.2.1 HI.out.2.2.2 rfl (by decide) _ j (prc ns) rfl (World.ownsRow.alloc HOW.out.2 _) ⟨W.heap.size, 0, none⟩ 1 1 (cvs ⟨(j1, j2), (j3, j4), j5⟩) rfl rfl (cell_five W _ _) (five_ints _) (by unfold maxLen; omega) (by omega) (by have := HSZ.out; have := HBW.out.size; simp; omega) ?_
                  intro vv w6 hown hgrow _
                  have hown' : w6.ownsRow wo.heap.size 33 5 vv (j + 1) (prc (ns ++ [⟨(j1, j2), (j3, j4), j5⟩])) := by rw [← prc_snoc]; exact hown
                  obtain ⟨a6, c6, rfl, ho6⟩ := OwnsC.form HNS.out hown'
                  have hrow := HOW.out.row
                  have HO6 : Hid (OwnsC 33 w6 wo.heap.size a6 (j + 1) c6 (ns ++ [⟨(j1, j2), (j3, j4), j5⟩])) := ho6
                  have LZ6 : Hid (Lies w6 w.heap.size [.int .i64 0, .int .i64 0, .int .i64 0, .int .i64 0, .int .i64 0]) := (LZ.out.alloc _).grown hgrow (fun e => by have := hrow _ e; have := HWS.out; omega)
                  have HC6 : Hid (CellsC w6 g k xs) := (HCW.out.below ((Below.refl W.heap.size _).alloc (Nat.le_refl _) _) (Nat.lt_of_lt_of_le HGR.out HBW.out.size)).grown hgrow (by have := HGR.out; have := HBW.out.size; simp; omega) (fun e => by have := hrow _ e; have := HGL.out; omega)
                  have HB6 : Hid (Below w.heap.size w w6) := (HBB.out.alloc HBB.out.size _).grown hgrow (by have := HBB.out.size; simp; omega) (fun q hq => by have := hrow q hq; have := HWS.out; omega)
                  have HS6 : Hid (wo.heap.size ≤ w6.heap.size) := by have := hgrow.size; have := HSZ.out; have := HBW.out.size; simp at *; show _ ≤ _; omega
                  clear hown hown' hgrow ho6 hrow e0 e1 e2 e3 e4 HOW HCW LZ LPJ
                  go_wp2
                  go_roundw
                  case rel => exact ⟨j + 1, a6, c6, _, rfl, by go_num, by omega, HO6.out, HSJ.out, LZ6.out, HC6.out, HS6.out, HB6.out⟩
                  case measure => simp [intOf]; omega
            · have hgeI : ¬ (2 * (j : Int) + 1 < (k : Int)) := by omega
              by_cases hev : 2 * j = k
              · have hdr : xs.drop (2 * j) = [] := List.drop_of_length_le (by rw [HXL.out]; omega)
                have HSN : Hid (M.Same cs ns) := by have := HSM.out; rwa [hdr, List.append_nil] at this
                have hmod : (k : Int) % 2 = 0 := by omega
                have hmodt : (k : Int).tmod 2 = 0 := by rw [Int.tmod_eq_emod_of_nonneg (by omega)]; exact hmod
                clear hdr HSM
                have HEV : Hid (2 * j = k) := hev
                clear hev
                go_wp2
                go_roundw
                case rel => exact ⟨an, j, cn, ns, rfl, by have := HEV.out; omega, by have := HEV.out; omega, HO.out.mono (by have := HWS.out; omega), HSN.out, LZ0.out, HBr.out⟩
                case measure => have := HEV.out; simp [slLen]; omega
              · have hodd : 2 * j + 1 = k := by omega
                have hdr : xs.drop (2 * j) = [xs.getD (2 * j) M.c0] := dropL_one (by rw [HXL.out]; exact hodd)
                have hmod : (k : Int) % 2 = 1 := by omega
                have hmodt : (k : Int).tmod 2 = 1 := by rw [Int.tmod_eq_emod_of_nonneg (by omega)]; exact hmod
                have HS2 := HSM.out
                rw [hdr] at HS2
                have c0 := HCC.out (2 * j) (by omega)
                have HOD : Hid (2 * j + 1 = k) := hodd
                have hk1t : ((k : Int) - 1).toNat = 2 * j := by omega
                have hk1e : (k : Int) - 1 = 2 * (j : Int) := by omega
                have hk1w : IntKind.i64.wrap ((k : Int) - 1) = (k : Int) - 1 := by rw [IntKind.wrap_i64]; omega
                generalize xs.getD (2 * j) M.c0 = ca at HS2 c0
                obtain ⟨⟨x, y⟩, ⟨x', y'⟩, n'⟩ := ca
                have HNS : Hid ((ns ++ [(⟨(x, y), (x', y'), n'⟩ : M.Cl)]).length = j + 1) := by show _ = _; rw [List.length_append, HNL.out]; rfl
                have HSN : Hid (M.Same cs (ns ++ [⟨(x, y), (x', y'), n'⟩])) := HS2
                have a0 : wr.cell? ⟨g, 2 * j * 5, none⟩ = some (.int .i64 x) := c0 0 (by omega)
                have a1 : wr.cell? ⟨g, 2 * j * 5 + 1, none⟩ = some (.int .i64 y) := c0 1 (by omega)
                have a2 : wr.cell? ⟨g, 2 * j * 5 + 2, none⟩ = some (.int .i64 x') := c0 2 (by omega)
                have a3 : wr.cell? ⟨g, 2 * j * 5 + 3, none⟩ = some (.int .i64 y') := c0 3 (by omega)
                have a4 : wr.cell? ⟨g, 2 * j * 5 + 4, none⟩ = some (.int .i64 n') := c0 4 (by omega)
                have hjI : 2 * (j : Int) < (k : Int) := by omega
                clear HS2 HSM c0 hdr hodd hev
                go_wp2_with (with_reducible refine wpList_stop 71 ?_ ?_; rfl)
                show wpList _ _ _ _ _ _
                refine wpList_append_own _ rfl (.tmp 63) (.tmp 70) 65 rfl wo.heap.size 33 i0 (.agg #[.int .i64 0, .int .i64 0, .int .i64 0, .int .i64 0, .int .i64 0]) 5 40 Tryz.underlying65 HI.out.1 HI.out.2.1 HI.out.2.2.1 HI.out.2.2.2 rfl (by decide) _ j (prc ns) rfl (World.ownsRow.alloc HO.out.2 _) ⟨wr.heap.size, 0, none⟩ 1 1 (cvs ⟨(x, y), (x', y'), n'⟩) rfl rfl (cell_five wr _ _) (five_ints _) (by unfold maxLen; omega) (by omega) (by have := HSZ.out; simp; omega) ?_
                intro vv w6 hown hgrow _
                have hown' : w6.ownsRow wo.heap.size 33 5 vv (j + 1) (prc (ns ++ [⟨(x, y), (x', y'), n'⟩])) := by rw [← prc_snoc]; exact hown
                obtain ⟨a6, c6, rfl, ho6⟩ := OwnsC.form HNS.out hown'
                have hrow := HO.out.row
                have HO6 : Hid (OwnsC 33 w6 wo.heap.size a6 (j + 1) c6 (ns ++ [⟨(x, y), (x', y'), n'⟩])) := ho6
                have LZ6 : Hid (Lies w6 w.heap.size [.int .i64 0, .int .i64 0, .int .i64 0, .int .i64 0, .int .i64 0]) := (LZ0.out.alloc _).grown hgrow (fun e => by have := hrow _ e; have := HWS.out; omega)
                have HB6 : Hid (Below w.heap.size w w6) := (HBr.out.alloc HBr.out.size _).grown hgrow (by have := HBr.out.size; simp; omega) (fun q hq => by have := hrow q hq; have := HWS.out; omega)
                clear hown hown' hgrow ho6 hrow a0 a1 a2 a3 a4 HO LZ0 HCC
                go_wp2
                go_roundw
                case rel => exact ⟨a6, j + 1, c6, _, rfl, by have := HOD.out; omega, by have := HOD.out; omega, HO6.out.mono (by have := HWS.out; omega), HSN.out, LZ6.out, HB6.out⟩
                case measure => have := HOD.out; simp [slLen]; omega
        · have hk1' : k = 1 := by omega
          subst hk1'
          have hnI : ¬ ((1 : Int) < ((1 : Nat) : Int)) := by omega
          have hone : xs = [xs.getD 0 M.c0] := by
            have h := HXL.out
            match xs, h with
            | [x], _ => rfl
          have hsame := HSM.out
          rw [hone] at hsame
          obtain ⟨hch, hwh⟩ := hsame.one
          have hok : M.allOk cs = true := by rw [M.allOk_in HC1.out HC40.out]; exact hch
          have HOK : Hid (M.allOk cs = true) := hok
          have HWH : Hid (M.allv cs = xs.getD 0 M.c0) := by show _ = _; rw [M.allv_in hok, hwh]
          have hA : ∀ q, q < 5 → wr.cell? ⟨g, 0 * 5 + q, none⟩ = (cvs (xs.getD 0 M.c0))[q]? := HC0.out 0 (by omega)
          clear hone hsame hch hwh hok HSM HXL HC0
          generalize xs.getD 0 M.c0 = c1 at hA HWH
          obtain ⟨⟨x, y⟩, ⟨x', y'⟩, n'⟩ := c1
          have a0 : wr.cell? ⟨g, 0, none⟩ = some (.int .i64 x) := by have := hA 0 (by omega); simpa [cvs] using this
          have a1 : wr.cell? ⟨g, 1, none⟩ = some (.int .i64 y) := by have := hA 1 (by omega); simpa [cvs] using this
          have a2 : wr.cell? ⟨g, 2, none⟩ = some (.int .i64 x') := by have := hA 2 (by omega); simpa [cvs] using this
          have a3 : wr.cell? ⟨g, 3, none⟩ = some (.int .i64 y') := by have := hA 3 (by omega); simpa [cvs] using this
          have a4 : wr.cell? ⟨g, 4, none⟩ = some (.int .i64 n') := by have := hA 4 (by omega); simpa [cvs] using this
          have LZ := LZ0
          have z0 : wr.cell? ⟨w.heap.size, 0, none⟩ = some (.int .i64 0) := LZ.out.at 0
          have y0 : wr.frozen? ⟨w.heap.size, 0, none⟩ = false := LZ.out.fr 0
          have z1 : wr.cell? ⟨w.heap.size, 1, none⟩ = some (.int .i64 0) := LZ.out.at 1
          have y1 : wr.frozen? ⟨w.heap.size, 1, none⟩ = false := LZ.out.fr 1
          have z2 : wr.cell? ⟨w.heap.size, 2, none⟩ = some (.int .i64 0) := LZ.out.at 2
          have y2 : wr.frozen? ⟨w.heap.size, 2, none⟩ = false := LZ.out.fr 2
          have z3 : wr.cell? ⟨w.heap.size, 3, none⟩ = some (.int .i64 0) := LZ.out.at 3
          have y3 : wr.frozen? ⟨w.heap.size, 3, none⟩ = false := LZ.out.fr 3
          have z4 : wr.cell? ⟨w.heap.size, 4, none⟩ = some (.int .i64 0) := LZ.out.at 4
          have y4 : wr.frozen? ⟨w.heap.size, 4, none⟩ = false := LZ.out.fr 4
          clear hA
          go_wp2
          refine bodyPost_ret (v := .tuple #[.agg #[.int .i64 x, .int .i64 y, .int .i64 x', .int .i64 y', .int .i64 n'], .bool true]) (by simp [results, Tryz.results29, go_sem, z0, z1, z2, z3, z4]) rfl ⟨by rw [HWH.out, HOK.out]; rfl, ?_⟩
          exact ((((HBr.out.setCell (Nat.le_refl _) _).setCell (Nat.le_refl _) _).setCell (Nat.le_refl _) _).setCell (Nat.le_refl _) _).setCell (Nat.le_refl _) _
  · have hno : M.allOk cs = false := M.allOk_no (by omega)
    have HNO : Hid (M.allOk cs = false) := hno
    clear hno
    have z0 : (w.alloc (.cells #[.int .i64 0, .int .i64 0, .int .i64 0, .int .i64 0, .int .i64 0] 33)).cell? ⟨w.heap.size, 0, none⟩ = some (.int .i64 0) := LZ.out.at 0
    have y0 : (w.alloc (.cells #[.int .i64 0, .int .i64 0, .int .i64 0, .int .i64 0, .int .i64 0] 33)).frozen? ⟨w.heap.size, 0, none⟩ = false := LZ.out.fr 0
    have z1 : (w.alloc (.cells #[.int .i64 0, .int .i64 0, .int .i64 0, .int .i64 0, .int .i64 0] 33)).cell? ⟨w.heap.size, 1, none⟩ = some (.int .i64 0) := LZ.out.at 1
    have y1 : (w.alloc (.cells #[.int .i64 0, .int .i64 0, .int .i64 0, .int .i64 0, .int .i64 0] 33)).frozen? ⟨w.heap.size, 1, none⟩ = false := LZ.out.fr 1
    have z2 : (w.alloc (.cells #[.int .i64 0, .int .i64 0, .int .i64 0, .int .i64 0, .int .i64 0] 33)).cell? ⟨w.heap.size, 2, none⟩ = some (.int .i64 0) := LZ.out.at 2
    have y2 : (w.alloc (.cells #[.int .i64 0, .int .i64 0, .int .i64 0, .int .i64 0, .int .i64 0] 33)).frozen? ⟨w.heap.size, 2, none⟩ = false := LZ.out.fr 2
    have z3 : (w.alloc (.cells #[.int .i64 0, .int .i64 0, .int .i64 0, .int .i64 0, .int .i64 0] 33)).cell? ⟨w.heap.size, 3, none⟩ = some (.int .i64 0) := LZ.out.at 3
    have y3 : (w.alloc (.cells #[.int .i64 0, .int .i64 0, .int .i64 0, .int .i64 0, .int .i64 0] 33)).frozen? ⟨w.heap.size, 3, none⟩ = false := LZ.out.fr 3
    have z4 : (w.alloc (.cells #[.int .i64 0, .int .i64 0, .int .i64 0, .int .i64 0, .int .i64 0] 33)).cell? ⟨w.heap.size, 4, none⟩ = some (.int .i64 0) := LZ.out.at 4
    have y4 : (w.alloc (.cells #[.int .i64 0, .int .i64 0, .int .i64 0, .int .i64 0, .int .i64 0] 33)).frozen? ⟨w.heap.size, 4, none⟩ = false := LZ.out.fr 4
    by_cases h1 : (n : Int) < 1
    · have h1d : decide ((n : Int) < 1) = true := by simpa using h1
      go_enter Tryz.func29, Tryz.ntmps29
      go_wp2
      refine bodyPost_ret (v := .tuple #[.agg #[.int .i64 0, .int .i64 0, .int .i64 0, .int .i64 0, .int .i64 0], .bool false]) (by simp [results, Tryz.results29, go_sem, z0, z1, z2, z3, z4]) rfl ⟨by rw [M.allv_out HNO.out, HNO.out]; rfl, ?_⟩
      exact HB0.out
    · have h1d : decide ((n : Int) < 1) = false := by simpa using h1
      have h40 : 40 < (n : Int) := by omega
      have h40d : decide (40 < (n : Int)) = true := by simpa using h40
      go_enter Tryz.func29, Tryz.ntmps29
      go_wp2
      refine bodyPost_ret (v := .tuple #[.agg #[.int .i64 0, .int .i64 0, .int .i64 0, .int .i64 0, .int .i64 0], .bool false]) (by simp [results, Tryz.results29, go_sem, z0, z1, z2, z3, z4]) rfl ⟨by rw [M.allv_out HNO.out, HNO.out]; rfl, ?_⟩
      exact HB0.out
set_option maxHeartbeats 2000000 in
theorem specJoinedAll_nil (a : Option Addr) (cap : Nat) (w : World) :
    Calls Tryz.prog 29 #[.slice a 0 cap] w fun e w' => e = .returned (.tuple #[clv (M.allv []), .bool (M.allOk [])]) ∧ Below w.heap.size w w' := by
  have HB0 : Hid (Below w.heap.size w (w.alloc (.cells #[.int .i64 0, .int .i64 0, .int .i64 0, .int .i64 0, .int .i64 0] 33))) := (Below.refl _ _).alloc (Nat.le_refl _) _
  have LZ : Hid (Lies (w.alloc (.cells #[.int .i64 0, .int .i64 0, .int .i64 0, .int .i64 0, .int .i64 0] 33)) w.heap.size [.int .i64 0, .int .i64 0, .int .i64 0, .int .i64 0, .int .i64 0]) := lies_new _ _ _
  have HNO : Hid (M.allOk [] = false) := M.allOk_no (by simp)
  have z0 : (w.alloc (.cells #[.int .i64 0, .int .i64 0, .int .i64 0, .int .i64 0, .int .i64 0] 33)).cell? ⟨w.heap.size, 0, none⟩ = some (.int .i64 0) := LZ.out.at 0
  have y0 : (w.alloc (.cells #[.int .i64 0, .int .i64 0, .int .i64 0, .int .i64 0, .int .i64 0] 33)).frozen? ⟨w.heap.size, 0, none⟩ = false := LZ.out.fr 0
  have z1 : (w.alloc (.cells #[.int .i64 0, .int .i64 0, .int .i64 0, .int .i64 0, .int .i64 0] 33)).cell? ⟨w.heap.size, 1, none⟩ = some (.int .i64 0) := LZ.out.at 1
  have y1 : (w.alloc (.cells #[.int .i64 0, .int .i64 0, .int .i64 0, .int .i64 0, .int .i64 0] 33)).frozen? ⟨w.heap.size, 1, none⟩ = false := LZ.out.fr 1
  have z2 : (w.alloc (.cells #[.int .i64 0, .int .i64 0, .int .i64 0, .int .i64 0, .int .i64 0] 33)).cell? ⟨w.heap.size, 2, none⟩ = some (.int .i64 0) := LZ.out.at 2
  have y2 : (w.alloc (.cells #[.int .i64 0, .int .i64 0, .int .i64 0, .int .i64 0, .int .i64 0] 33)).frozen? ⟨w.heap.size, 2, none⟩ = false := LZ.out.fr 2
  have z3 : (w.alloc (.cells #[.int .i64 0, .int .i64 0, .int .i64 0, .int .i64 0, .int .i64 0] 33)).cell? ⟨w.heap.size, 3, none⟩ = some (.int .i64 0) := LZ.out.at 3
  have y3 : (w.alloc (.cells #[.int .i64 0, .int .i64 0, .int .i64 0, .int .i64 0, .int .i64 0] 33)).frozen? ⟨w.heap.size, 3, none⟩ = false := LZ.out.fr 3
  have z4 : (w.alloc (.cells #[.int .i64 0, .int .i64 0, .int .i64 0, .int .i64 0, .int .i64 0] 33)).cell? ⟨w.heap.size, 4, none⟩ = some (.int .i64 0) := LZ.out.at 4
  have y4 : (w.alloc (.cells #[.int .i64 0, .int .i64 0, .int .i64 0, .int .i64 0, .int .i64 0] 33)).frozen? ⟨w.heap.size, 4, none⟩ = false := LZ.out.fr 4
  go_enter Tryz.func29, Tryz.ntmps29
  go_wp2
  refine bodyPost_ret (v := .tuple #[.agg #[.int .i64 0, .int .i64 0, .int .i64 0, .int .i64 0, .int .i64 0], .bool false]) (by simp [results, Tryz.results29, go_sem, z0, z1, z2, z3, z4]) rfl ⟨by rw [M.allv_out HNO.out, HNO.out]; rfl, ?_⟩
  exact HB0.out
end Go.Proofs.YtfhknkppiidnkaaGreat
