/- What DrawProved draws: some machine, some state, some number. FnComplete: the walk. A drawn proof: some proof, whose lists lie in blocks of their own. What DrawAccepted draws: some machine, some proof. FnSound: the walk. -/
import Derived.Test.YtbcfjbkmkknmfaaGreatDoorSoY
import Derived.Test.YtbcfjbkmkknmfaaGreatDoorAcC
import Derived.Test.YtbcfjbkmkknmfaaGreatDoorAcW
namespace Go.Proofs.YtbcfjbkmkknmfaaGreatDoor
open Go.RowKit

end Go.Proofs.YtbcfjbkmkknmfaaGreatDoor
namespace Go.Proofs.YtbcfjbkmkknmfaaGreatDoor
open Go.RowKit

/-- what an honest proof is, in plain terms -/
theorem M.honest {m : M.Mc} {s : Int × Int} {n : Int} (h : M.provOk m s n = true) : M.acc m (M.prv m s n) = true ∧ (((M.prv m s n).rows : Nat) : Int) = n ∧ (M.prv m s n).s = s ∧ (M.prv m s n).e = M.aft m s (n - 1) := by
  obtain ⟨hm, hs, N, rfl, hN⟩ := M.provOk_parts h
  have hb := M.rowsN_pos hN
  obtain ⟨h1, h2⟩ := M.complete hm hs hN
  have e : M.prv m s (N : Int) = m.pf s N := by rw [M.prv_in h]; rfl
  have hr : M.runOk m s ((N : Int) - 1) = true := by
    unfold M.runOk; rw [hm, hs]; simp; omega
  refine ⟨by rw [e]; exact h1, by rw [e, h2], by rw [e]; rfl, ?_⟩
  rw [e, M.aft_in hr]
  show m.rn s (N - 1) = m.rn s ((N : Int) - 1).toNat
  congr 1
  omega
end Go.Proofs.YtbcfjbkmkknmfaaGreatDoor
namespace Go.Proofs.YtbcfjbkmkknmfaaGreatDoor
open Go.RowKit

/-- what is known of a drawn proof -/
structure Dp (w0 w : World) (R : Nat) (ca : Option Addr) (len cap : Nat) (e : Ending) (W : World) (s1 s2 e1 e2 : Int) (a1 : Option Addr) (n1 c1 : Nat) (z1 : List Int) (a2 : Option Addr) (n2 c2 : Nat) (z2 : List Int) (a3 : Option Addr) (n3 c3 : Nat) (z3 : List Int) (a4 : Option Addr) (n4 c4 : Nat) (z4 : List Int) : Prop where
  val : e = .returned (.agg #[.int .i64 s1, .int .i64 s2, .int .i64 e1, .int .i64 e2, .slice a1 n1 c1, .slice a2 n2 c2, .slice a3 n3 c3, .slice a4 n4 c4])
  x : Sees W a1 n1 c1 z1
  y : Sees W a2 n2 c2 z2
  qx : Sees W a3 n3 c3 z3
  qy : Sees W a4 n4 c4 z4
  few : n1 ≤ 64 ∧ n2 ≤ 64 ∧ n3 ≤ 64 ∧ n4 ≤ 64
  lo : (∀ q, a1 = some q → w.heap.size ≤ q.block) ∧ (∀ q, a2 = some q → w.heap.size ≤ q.block) ∧ (∀ q, a3 = some q → w.heap.size ≤ q.block) ∧ (∀ q, a4 = some q → w.heap.size ≤ q.block)
  rd : Rd w0 R ca len cap W
  gr : w.grownBy W (some R)
theorem Rd.cells {w0 w : World} {R b o : Nat} {ca : Option Addr} {len cap : Nat} (h : Rd w0 R ca len cap w) (hb : w0.heap.size ≤ b) (hne : b ≠ R) (us : List Value) : Rd w0 R ca len cap (w.setCells b o us) :=
  h.keep (b := some ⟨b, 0, none⟩) (n := 1) (c := 1) (grown_cells (World.grownBy.refl _ _) o us) (fun x hx => by injection hx with hx; subst hx; exact hne) (fun x hx => by injection hx with hx; subst hx; exact hb)
theorem grown_farS {a w : World} {row : Option Nat} {b i : Nat} {v : Value} (h : a.grownBy w row) (hb : a.heap.size ≤ b) : a.grownBy (w.setCell ⟨b, i, none⟩ v) row :=
  ⟨h.os, h.tape, h.output, by simpa [World.setCell] using h.size, fun j hj hne => (Below.heap_setCell _ _ _ _ (by show j ≠ b; omega)).trans (h.block j hj hne)⟩
theorem Rd.setS {w0 w : World} {R b i : Nat} {ca : Option Addr} {len cap : Nat} {v : Value} (h : Rd w0 R ca len cap w) (hb : w0.heap.size ≤ b) (hne : b ≠ R) : Rd w0 R ca len cap (w.setCell ⟨b, i, none⟩ v) :=
  h.keep (b := some ⟨b, 0, none⟩) (n := 1) (c := 1) (grown_set (World.grownBy.refl _ _) ⟨b, i, none⟩ rfl v) (fun x hx => by injection hx with hx; subst hx; exact hne) (fun x hx => by injection hx with hx; subst hx; exact hb)
theorem Sees.setS {w : World} {a : Option Addr} {n c b i : Nat} {z : List Int} {v : Value} (h : Sees w a n c z) (hb : ∀ x, a = some x → x.block ≠ b) : Sees (w.setCell ⟨b, i, none⟩ v) a n c z :=
  h.grownR (grown_set (World.grownBy.refl _ _) ⟨b, i, none⟩ rfl v) (fun x hx e => hb x hx (Option.some.inj e).symm)
def ProvSome (W : World) (e : Ending) (w' : World) : Prop := ∃ (p1 p2 p3 p4 : Int) (L : Nat) (o : Bool) (z1 z2 z3 z4 : List Int) (g1 : Option Addr) (gc1 : Nat) (g2 : Option Addr) (gc2 : Nat) (g3 : Option Addr) (gc3 : Nat) (g4 : Option Addr) (gc4 : Nat), e = .returned (.tuple #[.agg #[.int .i64 p1, .int .i64 p2, .int .i64 p3, .int .i64 p4, .slice g1 L gc1, .slice g2 L gc2, .slice g3 L gc3, .slice g4 L gc4], .bool o]) ∧ L ≤ 64 ∧ (Owns 2 w' W.heap.size g1 L gc1 z1 ∧ Owns 2 w' W.heap.size g2 L gc2 z2 ∧ Owns 2 w' W.heap.size g3 L gc3 z3 ∧ Owns 2 w' W.heap.size g4 L gc4 z4) ∧ (far g1 g2 ∧ far g1 g3 ∧ far g1 g4 ∧ far g2 g3 ∧ far g2 g4 ∧ far g3 g4) ∧ Below W.heap.size W w'
theorem provSome_of {m : M.Mc} {s : Int × Int} {n : Int} {W : World} {e : Ending} {w' : World} (h : ProvPost m s n W e w') : ProvSome W e w' := by
  obtain ⟨a1, c1, a2, c2, a3, c3, a4, c4, he, ho, hf, hb⟩ := h
  exact ⟨_, _, _, _, _, _, _, _, _, _, a1, c1, a2, c2, a3, c3, a4, c4, he, M.pfn_le m s n, ho, hf, hb⟩
set_option maxHeartbeats 8000000 in
set_option maxRecDepth 10000 in
theorem proofR_any {w0 : World} {R : Nat} {ca : Option Addr} {len cap : Nat} {zs : List Int} (hrow : Row .u8 w0 ca len cap zs) (m : M.Mc) (w : World) (h : Rd w0 R ca len cap w) :
    Calls Tryz.prog 55 #[.pointer (some ⟨R, 0, none⟩), mcv m] w fun e w' => ∃ s1 s2 e1 e2 a1 n1 c1 z1 a2 n2 c2 z2 a3 n3 c3 z3 a4 n4 c4 z4, Dp w0 w R ca len cap e w' s1 s2 e1 e2 a1 n1 c1 z1 a2 n2 c2 z2 a3 n3 c3 z3 a4 n4 c4 z4 := by
  have CS : ∀ (s : Int × Int) (n : Int) (W : World), Calls Tryz.prog 10 #[mcv m, stv s, .int .i64 n] W (ProvPost m s n W) := fun s n W => specProved_any m s n W
  have CS : Hid (∀ (s : Int × Int) (n : Int) (W : World), Calls Tryz.prog 10 #[mcv m, stv s, .int .i64 n] W fun e w' => ProvSome W e w') := fun s n W => (CS s n W).mono fun e w' h => provSome_of h
  unfold ProvSome at CS
  have HRow : Hid (Row .u8 w0 ca len cap zs) := hrow
  have hRw : R < w.heap.size := h.hi
  obtain ⟨⟨a, b, c, d, f, k⟩, ⟨a', b', c', d', f', k'⟩⟩ := m
  dsimp only [mcv, stv] at CS ⊢
  have hba : Below w.heap.size w ((w.alloc (.cells #[.int .i64 a, .int .i64 b, .int .i64 c, .int .i64 d, .int .i64 f, .int .i64 k, .int .i64 a', .int .i64 b', .int .i64 c', .int .i64 d', .int .i64 f', .int .i64 k'] 27)).alloc (.cells #[.int .i64 0, .int .i64 0, .int .i64 0, .int .i64 0, .slice none 0 0, .slice none 0 0, .slice none 0 0, .slice none 0 0] 34)) := ((Below.refl _ _).alloc (Nat.le_refl _) _).alloc (by simp) _
  have HM_0 : Hid (Lies ((w.alloc (.cells #[.int .i64 a, .int .i64 b, .int .i64 c, .int .i64 d, .int .i64 f, .int .i64 k, .int .i64 a', .int .i64 b', .int .i64 c', .int .i64 d', .int .i64 f', .int .i64 k'] 27)).alloc (.cells #[.int .i64 0, .int .i64 0, .int .i64 0, .int .i64 0, .slice none 0 0, .slice none 0 0, .slice none 0 0, .slice none 0 0] 34)) w.heap.size [.int .i64 a, .int .i64 b, .int .i64 c, .int .i64 d, .int .i64 f, .int .i64 k, .int .i64 a', .int .i64 b', .int .i64 c', .int .i64 d', .int .i64 f', .int .i64 k']) := (lies_new _ _ _).alloc _
  have HZ_0 : Hid (Lies ((w.alloc (.cells #[.int .i64 a, .int .i64 b, .int .i64 c, .int .i64 d, .int .i64 f, .int .i64 k, .int .i64 a', .int .i64 b', .int .i64 c', .int .i64 d', .int .i64 f', .int .i64 k'] 27)).alloc (.cells #[.int .i64 0, .int .i64 0, .int .i64 0, .int .i64 0, .slice none 0 0, .slice none 0 0, .slice none 0 0, .slice none 0 0] 34)) (w.heap.size + 1) [.int .i64 0, .int .i64 0, .int .i64 0, .int .i64 0, .slice none 0 0, .slice none 0 0, .slice none 0 0, .slice none 0 0]) := lies_new2 _ _ _ _
  have RD_0 : Hid (Rd w0 R ca len cap ((w.alloc (.cells #[.int .i64 a, .int .i64 b, .int .i64 c, .int .i64 d, .int .i64 f, .int .i64 k, .int .i64 a', .int .i64 b', .int .i64 c', .int .i64 d', .int .i64 f', .int .i64 k'] 27)).alloc (.cells #[.int .i64 0, .int .i64 0, .int .i64 0, .int .i64 0, .slice none 0 0, .slice none 0 0, .slice none 0 0, .slice none 0 0] 34))) := (h.alloc _).alloc _
  have GR_0 : Hid (w.grownBy ((w.alloc (.cells #[.int .i64 a, .int .i64 b, .int .i64 c, .int .i64 d, .int .i64 f, .int .i64 k, .int .i64 a', .int .i64 b', .int .i64 c', .int .i64 d', .int .i64 f', .int .i64 k'] 27)).alloc (.cells #[.int .i64 0, .int .i64 0, .int .i64 0, .int .i64 0, .slice none 0 0, .slice none 0 0, .slice none 0 0, .slice none 0 0] 34)) (some R)) := grown_of_below hba _
  have hqs : ((w.alloc (.cells #[.int .i64 a, .int .i64 b, .int .i64 c, .int .i64 d, .int .i64 f, .int .i64 k, .int .i64 a', .int .i64 b', .int .i64 c', .int .i64 d', .int .i64 f', .int .i64 k'] 27)).alloc (.cells #[.int .i64 0, .int .i64 0, .int .i64 0, .int .i64 0, .slice none 0 0, .slice none 0 0, .slice none 0 0, .slice none 0 0] 34)).heap.size = w.heap.size + 2 := by simp
  have hw0 : w0.heap.size ≤ w.heap.size := h.below.size
  clear hba h hrow
  go_enter Tryz.func55, Tryz.ntmps55
  go_wp2_with fail
  generalize ((w.alloc (.cells #[.int .i64 a, .int .i64 b, .int .i64 c, .int .i64 d, .int .i64 f, .int .i64 k, .int .i64 a', .int .i64 b', .int .i64 c', .int .i64 d', .int .i64 f', .int .i64 k'] 27)).alloc (.cells #[.int .i64 0, .int .i64 0, .int .i64 0, .int .i64 0, .slice none 0 0, .slice none 0 0, .slice none 0 0, .slice none 0 0] 34)) = wq at hqs HM_0 HZ_0 RD_0 GR_0 ⊢
  have HNm : some R ≠ some w.heap.size := by simp; omega
  have HNz : some R ≠ some (w.heap.size + 1) := by simp; omega
  have HPBL : Hid (∀ p, wq.heap.size ≤ p → w.heap.size ≠ p ∧ w.heap.size + 1 ≠ p ∧ w0.heap.size ≤ p ∧ p ≠ R ∧ w.heap.size ≤ p ∧ some R ≠ some p) := fun p hp => ⟨by omega, by omega, by omega, by omega, by omega, by simp; omega⟩
  apply cutKey
  case f =>
    intro key
    refine wp_region_noPanic ?_
    refine wp_region_held_drew (S := fun W => wq.grownBy W (some R)) (by kernel_rfl) (grown_drew _ _) (fun hHeld => ?_)
    have hbd : Below wq.heap.size wq wq.drew := (Below.refl _ _).drew
    have HM_r0 : Hid (Lies wq.drew w.heap.size [.int .i64 a, .int .i64 b, .int .i64 c, .int .i64 d, .int .i64 f, .int .i64 k, .int .i64 a', .int .i64 b', .int .i64 c', .int .i64 d', .int .i64 f', .int .i64 k']) := HM_0.out.belowS hbd
    have HZ_r0 : Hid (Lies wq.drew (w.heap.size + 1) [.int .i64 0, .int .i64 0, .int .i64 0, .int .i64 0, .slice none 0 0, .slice none 0 0, .slice none 0 0, .slice none 0 0]) := HZ_0.out.belowS hbd
    have RD_r0 : Hid (Rd w0 R ca len cap wq.drew) := RD_0.out.grow hbd
    have GR_r0 : Hid (w.grownBy wq.drew (some R)) := GR_0.out.trans (grown_of_below hbd _)
    generalize wq.drew = wd0 at hHeld HM_r0 HZ_r0 RD_r0 GR_r0 ⊢
    clear hbd
    refine wpAnyH_take (i := 0) (v := .agg ([.int .i64 a, .int .i64 b, .int .i64 c, .int .i64 d, .int .i64 f, .int .i64 k, .int .i64 a', .int .i64 b', .int .i64 c', .int .i64 d', .int .i64 f', .int .i64 k']).toArray) rfl (by kernel_rfl) (by kernel_rfl) (by kernel_rfl) (fun _ _ _ h => h) (yieldsIf_load_mid (by kernel_rfl) 27 (.tmp 3) rfl w.heap.size 0 rfl ([.int .i64 a, .int .i64 b, .int .i64 c, .int .i64 d, .int .i64 f, .int .i64 k, .int .i64 a', .int .i64 b', .int .i64 c', .int .i64 d', .int .i64 f', .int .i64 k']) _ (fun W h => (HM_0.out.grown h HNm).row) Tryz.underlying27 rfl (by kernel_rfl)) (by assumption) ?_
    try simp only [Act.put]
    refine wpAnyH_take (i := 1) (v := .pointer (some ⟨R, 0, none⟩)) rfl (by kernel_rfl) (by kernel_rfl) (by kernel_rfl) (fun _ _ _ h => h) (Or.inl ⟨by kernel_rfl, ?_⟩) (by assumption) ?_
    · intro wq hSq; go_simp
    try simp only [Act.put]
    refine wpAnyH_take (i := 3) (v := .pointer (some ⟨R, 0, none⟩)) rfl (by kernel_rfl) (by kernel_rfl) (by kernel_rfl) (fun _ _ _ h => h) (Or.inl ⟨by kernel_rfl, ?_⟩) (by assumption) ?_
    · intro wq hSq; go_simp
    try simp only [Act.put]
    refine wpAnyH_ready (rs := [2, 11]) (by kernel_rfl) (by simp) ?_
    refine AllReadyH.cons rfl (fun Kk hK => ?_) (AllReadyH.cons rfl (fun Kk hK => ?_) (AllReadyH.nil))
    · go_simp
      refine (stateR_any HRow.out _ RD_r0.out).mono ?_
      rintro e wd1 ⟨⟨x, y⟩, rfl, hr1, hg1⟩
      go_simp
      have hS1 : wq.grownBy wd1 (some R) := hHeld.trans hg1
      have HM_t1 : Hid (Lies wd1 w.heap.size [.int .i64 a, .int .i64 b, .int .i64 c, .int .i64 d, .int .i64 f, .int .i64 k, .int .i64 a', .int .i64 b', .int .i64 c', .int .i64 d', .int .i64 f', .int .i64 k']) := HM_r0.out.grown hg1 HNm
      have HZ_t1 : Hid (Lies wd1 (w.heap.size + 1) [.int .i64 0, .int .i64 0, .int .i64 0, .int .i64 0, .slice none 0 0, .slice none 0 0, .slice none 0 0, .slice none 0 0]) := HZ_r0.out.grown hg1 HNz
      have RD_t1 : Hid (Rd w0 R ca len cap wd1) := hr1
      have GR_t1 : Hid (w.grownBy wd1 (some R)) := GR_r0.out.trans hg1
      refine hK.out _ _ hS1 (fun _ => ?_)
      clear hK Kk hg1 hr1 HM_r0 HZ_r0 RD_r0 GR_r0
      try simp only [Act.put]
      refine wpAnyH_ready (rs := [4, 11]) (by kernel_rfl) (by simp) ?_
      refine AllReadyH.cons rfl (fun Kk hK => ?_) (AllReadyH.cons rfl (fun Kk hK => ?_) (AllReadyH.nil))
      · go_simp
        refine (below_any HRow.out 3 (by decide) (by decide) _ RD_t1.out).mono ?_
        rintro e wd2 ⟨v, v0, v1, rfl, hr2, hg2⟩
        go_simp
        have hS2 : wq.grownBy wd2 (some R) := hS1.trans hg2
        have HM_t2 : Hid (Lies wd2 w.heap.size [.int .i64 a, .int .i64 b, .int .i64 c, .int .i64 d, .int .i64 f, .int .i64 k, .int .i64 a', .int .i64 b', .int .i64 c', .int .i64 d', .int .i64 f', .int .i64 k']) := HM_t1.out.grown hg2 HNm
        have HZ_t2 : Hid (Lies wd2 (w.heap.size + 1) [.int .i64 0, .int .i64 0, .int .i64 0, .int .i64 0, .slice none 0 0, .slice none 0 0, .slice none 0 0, .slice none 0 0]) := HZ_t1.out.grown hg2 HNz
        have RD_t2 : Hid (Rd w0 R ca len cap wd2) := hr2
        have GR_t2 : Hid (w.grownBy wd2 (some R)) := GR_t1.out.trans hg2
        refine hK.out _ _ hS2 (fun _ => ?_)
        clear hK Kk hg2 hr2 HM_t1 HZ_t1 RD_t1 GR_t1
        try simp only [Act.put]
        refine wpAnyH_take (i := 5) (v := .int .u64 (IntKind.u64.wrap v)) rfl (by kernel_rfl) (by kernel_rfl) (by kernel_rfl) (fun _ _ _ h => h) (Or.inl ⟨by kernel_rfl, ?_⟩) (by assumption) ?_
        · intro wq hSq; go_simp
        try simp only [Act.put]
        refine wpAnyH_take (i := 6) (v := .int .i64 (IntKind.i64.wrap (2 * 2 ^ min (IntKind.u64.wrap v).toNat 64))) rfl (by kernel_rfl) (by kernel_rfl) (by kernel_rfl) (fun _ _ _ h => h) (Or.inl ⟨by kernel_rfl, ?_⟩) (by assumption) ?_
        · intro wq hSq; go_simp
        try simp only [Act.put]
        refine wpAnyH_ready (rs := [7, 11]) (by kernel_rfl) (by simp) ?_
        refine AllReadyH.cons rfl (fun Kk hK => ?_) (AllReadyH.cons rfl (fun Kk hK => ?_) (AllReadyH.nil))
        · go_simp
          refine (CS.out (x, y) (IntKind.i64.wrap (2 * 2 ^ min (IntKind.u64.wrap v).toNat 64)) _).mono ?_
          rintro e wd3 ⟨p1, p2, p3, p4, L, o, z1, z2, z3, z4, g1, gc1, g2, gc2, g3, gc3, g4, gc4, rfl, hL, ⟨q1, q2, q3, q4⟩, hfar, hb3⟩
          go_simp
          have hS3 : wq.grownBy wd3 (some R) := hS2.trans (grown_of_below hb3 _)
          have HM_t3 : Hid (Lies wd3 w.heap.size [.int .i64 a, .int .i64 b, .int .i64 c, .int .i64 d, .int .i64 f, .int .i64 k, .int .i64 a', .int .i64 b', .int .i64 c', .int .i64 d', .int .i64 f', .int .i64 k']) := HM_t2.out.belowS hb3
          have HZ_t3 : Hid (Lies wd3 (w.heap.size + 1) [.int .i64 0, .int .i64 0, .int .i64 0, .int .i64 0, .slice none 0 0, .slice none 0 0, .slice none 0 0, .slice none 0 0]) := HZ_t2.out.belowS hb3
          have RD_t3 : Hid (Rd w0 R ca len cap wd3) := RD_t2.out.grow hb3
          have GR_t3 : Hid (w.grownBy wd3 (some R)) := GR_t2.out.trans (grown_of_below hb3 _)
          have O1_t3 : Hid (Owns 2 wd3 wq.heap.size g1 L gc1 z1) := q1.mono hS2.size
          have O2_t3 : Hid (Owns 2 wd3 wq.heap.size g2 L gc2 z2) := q2.mono hS2.size
          have O3_t3 : Hid (Owns 2 wd3 wq.heap.size g3 L gc3 z3) := q3.mono hS2.size
          have O4_t3 : Hid (Owns 2 wd3 wq.heap.size g4 L gc4 z4) := q4.mono hS2.size
          have FA_t3 : Hid (far g1 g2 ∧ far g1 g3 ∧ far g1 g4 ∧ far g2 g3 ∧ far g2 g4 ∧ far g3 g4) := hfar
          have LL_t3 : Hid (L ≤ 64) := hL
          clear q1 q2 q3 q4 hfar hL
          refine hK.out _ _ hS3 (fun _ => ?_)
          clear hK Kk hb3 HM_t2 HZ_t2 RD_t2 GR_t2
          try simp only [Act.put]
          refine wpAnyH_take (i := 8) (v := .tuple #[.agg #[.int .i64 p1, .int .i64 p2, .int .i64 p3, .int .i64 p4, .slice g1 L gc1, .slice g2 L gc2, .slice g3 L gc3, .slice g4 L gc4], .bool o]) rfl (by kernel_rfl) (by kernel_rfl) (by kernel_rfl) (fun _ _ _ h => h) (Or.inl ⟨by kernel_rfl, ?_⟩) (by assumption) ?_
          · intro wq hSq; go_simp
          try simp only [Act.put]
          refine wpAnyH_take (i := 9) (v := .agg #[.int .i64 p1, .int .i64 p2, .int .i64 p3, .int .i64 p4, .slice g1 L gc1, .slice g2 L gc2, .slice g3 L gc3, .slice g4 L gc4]) rfl (by kernel_rfl) (by kernel_rfl) (by kernel_rfl) (fun _ _ _ h => h) (Or.inl ⟨by kernel_rfl, ?_⟩) (by assumption) ?_
          · intro wq hSq; go_simp
          try simp only [Act.put]
          refine wpAnyH_take (i := 10) (v := .bool o) rfl (by kernel_rfl) (by kernel_rfl) (by kernel_rfl) (fun _ _ _ h => h) (Or.inl ⟨by kernel_rfl, ?_⟩) (by assumption) ?_
          · intro wq hSq; go_simp
          try simp only [Act.put]
          refine wpAnyH_ready (rs := [11]) (by kernel_rfl) (by simp) ?_
          refine AllReadyH.cons rfl (fun Kk hK => ?_) (AllReadyH.nil)
          · rw [if_pos (by kernel_rfl)]
            refine wp_alloc_as 34 rfl #[.int .i64 0, .int .i64 0, .int .i64 0, .int .i64 0, .slice none 0 0, .slice none 0 0, .slice none 0 0, .slice none 0 0] (by kernel_rfl) ?_
            have hba : Below wd3.heap.size wd3 (wd3.alloc (.cells #[.int .i64 0, .int .i64 0, .int .i64 0, .int .i64 0, .slice none 0 0, .slice none 0 0, .slice none 0 0, .slice none 0 0] 34)) := (Below.refl _ _).alloc (Nat.le_refl _) _
            have hS4 : wq.grownBy (wd3.alloc (.cells #[.int .i64 0, .int .i64 0, .int .i64 0, .int .i64 0, .slice none 0 0, .slice none 0 0, .slice none 0 0, .slice none 0 0] 34)) (some R) := grown_alloc hS3 _
            have HM_t4 : Hid (Lies (wd3.alloc (.cells #[.int .i64 0, .int .i64 0, .int .i64 0, .int .i64 0, .slice none 0 0, .slice none 0 0, .slice none 0 0, .slice none 0 0] 34)) w.heap.size [.int .i64 a, .int .i64 b, .int .i64 c, .int .i64 d, .int .i64 f, .int .i64 k, .int .i64 a', .int .i64 b', .int .i64 c', .int .i64 d', .int .i64 f', .int .i64 k']) := HM_t3.out.belowS hba
            have HZ_t4 : Hid (Lies (wd3.alloc (.cells #[.int .i64 0, .int .i64 0, .int .i64 0, .int .i64 0, .slice none 0 0, .slice none 0 0, .slice none 0 0, .slice none 0 0] 34)) (w.heap.size + 1) [.int .i64 0, .int .i64 0, .int .i64 0, .int .i64 0, .slice none 0 0, .slice none 0 0, .slice none 0 0, .slice none 0 0]) := HZ_t3.out.belowS hba
            have RD_t4 : Hid (Rd w0 R ca len cap (wd3.alloc (.cells #[.int .i64 0, .int .i64 0, .int .i64 0, .int .i64 0, .slice none 0 0, .slice none 0 0, .slice none 0 0, .slice none 0 0] 34))) := RD_t3.out.grow hba
            have GR_t4 : Hid (w.grownBy (wd3.alloc (.cells #[.int .i64 0, .int .i64 0, .int .i64 0, .int .i64 0, .slice none 0 0, .slice none 0 0, .slice none 0 0, .slice none 0 0] 34)) (some R)) := GR_t3.out.trans (grown_of_below hba _)
            have O1_t4 : Hid (Owns 2 (wd3.alloc (.cells #[.int .i64 0, .int .i64 0, .int .i64 0, .int .i64 0, .slice none 0 0, .slice none 0 0, .slice none 0 0, .slice none 0 0] 34)) wq.heap.size g1 L gc1 z1) := O1_t3.out.below hba
            have O2_t4 : Hid (Owns 2 (wd3.alloc (.cells #[.int .i64 0, .int .i64 0, .int .i64 0, .int .i64 0, .slice none 0 0, .slice none 0 0, .slice none 0 0, .slice none 0 0] 34)) wq.heap.size g2 L gc2 z2) := O2_t3.out.below hba
            have O3_t4 : Hid (Owns 2 (wd3.alloc (.cells #[.int .i64 0, .int .i64 0, .int .i64 0, .int .i64 0, .slice none 0 0, .slice none 0 0, .slice none 0 0, .slice none 0 0] 34)) wq.heap.size g3 L gc3 z3) := O3_t3.out.below hba
            have O4_t4 : Hid (Owns 2 (wd3.alloc (.cells #[.int .i64 0, .int .i64 0, .int .i64 0, .int .i64 0, .slice none 0 0, .slice none 0 0, .slice none 0 0, .slice none 0 0] 34)) wq.heap.size g4 L gc4 z4) := O4_t3.out.below hba
            have HA_t4 : Hid (Lies (wd3.alloc (.cells #[.int .i64 0, .int .i64 0, .int .i64 0, .int .i64 0, .slice none 0 0, .slice none 0 0, .slice none 0 0, .slice none 0 0] 34)) wd3.heap.size [.int .i64 0, .int .i64 0, .int .i64 0, .int .i64 0, .slice none 0 0, .slice none 0 0, .slice none 0 0, .slice none 0 0]) := lies_new _ _ _
            have PB_t4 : Hid (wq.heap.size ≤ wd3.heap.size) := hS3.size
            have NE1_t4 : Hid (∀ q, g1 = some q → q.block ≠ wd3.heap.size) := fun q hq => Nat.ne_of_lt (O1_t3.out.hi q hq)
            have NE2_t4 : Hid (∀ q, g2 = some q → q.block ≠ wd3.heap.size) := fun q hq => Nat.ne_of_lt (O2_t3.out.hi q hq)
            have NE3_t4 : Hid (∀ q, g3 = some q → q.block ≠ wd3.heap.size) := fun q hq => Nat.ne_of_lt (O3_t3.out.hi q hq)
            have NE4_t4 : Hid (∀ q, g4 = some q → q.block ≠ wd3.heap.size) := fun q hq => Nat.ne_of_lt (O4_t3.out.hi q hq)
            refine hK.out _ _ hS4 (fun _ => ?_)
            clear hK Kk hba HM_t3 HZ_t3 RD_t3 GR_t3 O1_t3 O2_t3 O3_t3 O4_t3
            generalize (wd3.alloc (.cells #[.int .i64 0, .int .i64 0, .int .i64 0, .int .i64 0, .slice none 0 0, .slice none 0 0, .slice none 0 0, .slice none 0 0] 34)) = wd4 at HA_t4 hS4 HM_t4 HZ_t4 RD_t4 GR_t4 O1_t4 O2_t4 O3_t4 O4_t4 ⊢
            generalize wd3.heap.size = pb4 at HA_t4 PB_t4 NE1_t4 NE2_t4 NE3_t4 NE4_t4 ⊢
            try simp only [Act.put]
            refine wpAnyH_ready (rs := [12]) (by kernel_rfl) (by simp) ?_
            refine AllReadyH.cons rfl (fun Kk hK => ?_) AllReadyH.nil
            rw [if_pos (by kernel_rfl)]
            with_reducible refine wp_store_mid 34 (.tmp 5) (.tmp 19) ?_ pb4 0 ([.int .i64 p1, .int .i64 p2, .int .i64 p3, .int .i64 p4, .slice g1 L gc1, .slice g2 L gc2, .slice g3 L gc3, .slice g4 L gc4]).toArray ?_ ?_ ?_ (by kernel_rfl) (by kernel_rfl) ?_
            · exact rfl
            · exact rfl
            · exact rfl
            · exact HA_t4.out.there 0 8 (by simp)
            have hPB := PB_t4.out
            obtain ⟨kM, kZ, kW, kR, kw, kS⟩ := HPBL.out _ hPB
            have hSz : wq.grownBy (wd4.setCells pb4 0 [.int .i64 p1, .int .i64 p2, .int .i64 p3, .int .i64 p4, .slice g1 L gc1, .slice g2 L gc2, .slice g3 L gc3, .slice g4 L gc4]) (some R) := grown_far hS4 hPB 0 _
            have HP_z : Hid (Lies (wd4.setCells pb4 0 [.int .i64 p1, .int .i64 p2, .int .i64 p3, .int .i64 p4, .slice g1 L gc1, .slice g2 L gc2, .slice g3 L gc3, .slice g4 L gc4]) pb4 [.int .i64 p1, .int .i64 p2, .int .i64 p3, .int .i64 p4, .slice g1 L gc1, .slice g2 L gc2, .slice g3 L gc3, .slice g4 L gc4]) := HA_t4.out.setCells [.int .i64 p1, .int .i64 p2, .int .i64 p3, .int .i64 p4, .slice g1 L gc1, .slice g2 L gc2, .slice g3 L gc3, .slice g4 L gc4] 0 (by simp)
            have HM_z : Hid (Lies (wd4.setCells pb4 0 [.int .i64 p1, .int .i64 p2, .int .i64 p3, .int .i64 p4, .slice g1 L gc1, .slice g2 L gc2, .slice g3 L gc3, .slice g4 L gc4]) w.heap.size [.int .i64 a, .int .i64 b, .int .i64 c, .int .i64 d, .int .i64 f, .int .i64 k, .int .i64 a', .int .i64 b', .int .i64 c', .int .i64 d', .int .i64 f', .int .i64 k']) := Lies.farCells _ 0 HM_t4.out kM
            have HZ_z : Hid (Lies (wd4.setCells pb4 0 [.int .i64 p1, .int .i64 p2, .int .i64 p3, .int .i64 p4, .slice g1 L gc1, .slice g2 L gc2, .slice g3 L gc3, .slice g4 L gc4]) (w.heap.size + 1) [.int .i64 0, .int .i64 0, .int .i64 0, .int .i64 0, .slice none 0 0, .slice none 0 0, .slice none 0 0, .slice none 0 0]) := Lies.farCells _ 0 HZ_t4.out kZ
            have RD_z : Hid (Rd w0 R ca len cap (wd4.setCells pb4 0 [.int .i64 p1, .int .i64 p2, .int .i64 p3, .int .i64 p4, .slice g1 L gc1, .slice g2 L gc2, .slice g3 L gc3, .slice g4 L gc4])) := RD_t4.out.cells kW kR _
            have GR_z : Hid (w.grownBy (wd4.setCells pb4 0 [.int .i64 p1, .int .i64 p2, .int .i64 p3, .int .i64 p4, .slice g1 L gc1, .slice g2 L gc2, .slice g3 L gc3, .slice g4 L gc4]) (some R)) := grown_far GR_t4.out kw 0 _
            have O1_z : Hid (Owns 2 (wd4.setCells pb4 0 [.int .i64 p1, .int .i64 p2, .int .i64 p3, .int .i64 p4, .slice g1 L gc1, .slice g2 L gc2, .slice g3 L gc3, .slice g4 L gc4]) wq.heap.size g1 L gc1 z1) := O1_t4.out.grownR (grown_cells (World.grownBy.refl _ _) 0 _) (fun q hq e => NE1_t4.out q hq (Option.some.inj e).symm)
            have O2_z : Hid (Owns 2 (wd4.setCells pb4 0 [.int .i64 p1, .int .i64 p2, .int .i64 p3, .int .i64 p4, .slice g1 L gc1, .slice g2 L gc2, .slice g3 L gc3, .slice g4 L gc4]) wq.heap.size g2 L gc2 z2) := O2_t4.out.grownR (grown_cells (World.grownBy.refl _ _) 0 _) (fun q hq e => NE2_t4.out q hq (Option.some.inj e).symm)
            have O3_z : Hid (Owns 2 (wd4.setCells pb4 0 [.int .i64 p1, .int .i64 p2, .int .i64 p3, .int .i64 p4, .slice g1 L gc1, .slice g2 L gc2, .slice g3 L gc3, .slice g4 L gc4]) wq.heap.size g3 L gc3 z3) := O3_t4.out.grownR (grown_cells (World.grownBy.refl _ _) 0 _) (fun q hq e => NE3_t4.out q hq (Option.some.inj e).symm)
            have O4_z : Hid (Owns 2 (wd4.setCells pb4 0 [.int .i64 p1, .int .i64 p2, .int .i64 p3, .int .i64 p4, .slice g1 L gc1, .slice g2 L gc2, .slice g3 L gc3, .slice g4 L gc4]) wq.heap.size g4 L gc4 z4) := O4_t4.out.grownR (grown_cells (World.grownBy.refl _ _) 0 _) (fun q hq e => NE4_t4.out q hq (Option.some.inj e).symm)
            refine hK.out _ _ hSz (fun hSzz => ?_)
            clear hK Kk hSzz
            generalize (wd4.setCells pb4 0 [.int .i64 p1, .int .i64 p2, .int .i64 p3, .int .i64 p4, .slice g1 L gc1, .slice g2 L gc2, .slice g3 L gc3, .slice g4 L gc4]) = wz at hSz HP_z HM_z HZ_z RD_z GR_z O1_z O2_z O3_z O4_z ⊢
            try simp only [Act.put]
            refine wpAnyH_take (i := 13) (v := .bool o) rfl (by kernel_rfl) (by kernel_rfl) (by kernel_rfl) (fun _ _ _ h => h) (Or.inl ⟨by kernel_rfl, ?_⟩) (by assumption) ?_
            · intro wq hSq; go_simp
            try simp only [Act.put]
            refine wpAnyH_done (by kernel_rfl) ?_ _
            refine NoPanic.normal ?_
            go_simp
            clear hSz hPB kM kZ kW kR kw kS
            have J_HM : Hid _ := HM_z.out
            have J_HZ : Hid _ := HZ_z.out
            have J_RD : Hid _ := RD_z.out
            have J_GR : Hid _ := GR_z.out
            have J_O1 : Hid _ := O1_z.out
            have J_O2 : Hid _ := O2_z.out
            have J_O3 : Hid _ := O3_z.out
            have J_O4 : Hid _ := O4_z.out
            have J_FA : Hid _ := FA_t3.out
            have J_LL : Hid _ := LL_t3.out
            have J_PB : Hid _ := PB_t4.out
            have J_NE1 : Hid _ := NE1_t4.out
            have J_NE2 : Hid _ := NE2_t4.out
            have J_NE3 : Hid _ := NE3_t4.out
            have J_NE4 : Hid _ := NE4_t4.out
            have J_HP : Hid _ := HP_z.out
            clear HM_z HZ_z RD_z GR_z O1_z O2_z O3_z O4_z HP_z HM_t4 HZ_t4 RD_t4 GR_t4 O1_t4 O2_t4 O3_t4 O4_t4 FA_t3 LL_t3 HA_t4 PB_t4 NE1_t4 NE2_t4 NE3_t4 NE4_t4
            generalize pb4 = pb at J_PB J_NE1 J_NE2 J_NE3 J_NE4 J_HP ⊢
            revert J_HP J_NE4 J_NE3 J_NE2 J_NE1 J_PB J_LL J_FA J_O4 J_O3 J_O2 J_O1 J_GR J_RD J_HZ J_HM
            revert wz
            revert pb
            revert gc4
            revert g4
            revert z4
            revert gc3
            revert g3
            revert z3
            revert gc2
            revert g2
            revert z2
            revert gc1
            revert g1
            revert z1
            revert o
            revert L
            revert p4
            revert p3
            revert p2
            revert p1
            clear v0 v1
            revert v
            revert y
            revert x
            exact key
        · rw [if_pos (by kernel_rfl)]
          refine wp_alloc_as 34 rfl #[.int .i64 0, .int .i64 0, .int .i64 0, .int .i64 0, .slice none 0 0, .slice none 0 0, .slice none 0 0, .slice none 0 0] (by kernel_rfl) ?_
          have hba : Below wd2.heap.size wd2 (wd2.alloc (.cells #[.int .i64 0, .int .i64 0, .int .i64 0, .int .i64 0, .slice none 0 0, .slice none 0 0, .slice none 0 0, .slice none 0 0] 34)) := (Below.refl _ _).alloc (Nat.le_refl _) _
          have hS5 : wq.grownBy (wd2.alloc (.cells #[.int .i64 0, .int .i64 0, .int .i64 0, .int .i64 0, .slice none 0 0, .slice none 0 0, .slice none 0 0, .slice none 0 0] 34)) (some R) := grown_alloc hS2 _
          have HM_t5 : Hid (Lies (wd2.alloc (.cells #[.int .i64 0, .int .i64 0, .int .i64 0, .int .i64 0, .slice none 0 0, .slice none 0 0, .slice none 0 0, .slice none 0 0] 34)) w.heap.size [.int .i64 a, .int .i64 b, .int .i64 c, .int .i64 d, .int .i64 f, .int .i64 k, .int .i64 a', .int .i64 b', .int .i64 c', .int .i64 d', .int .i64 f', .int .i64 k']) := HM_t2.out.belowS hba
          have HZ_t5 : Hid (Lies (wd2.alloc (.cells #[.int .i64 0, .int .i64 0, .int .i64 0, .int .i64 0, .slice none 0 0, .slice none 0 0, .slice none 0 0, .slice none 0 0] 34)) (w.heap.size + 1) [.int .i64 0, .int .i64 0, .int .i64 0, .int .i64 0, .slice none 0 0, .slice none 0 0, .slice none 0 0, .slice none 0 0]) := HZ_t2.out.belowS hba
          have RD_t5 : Hid (Rd w0 R ca len cap (wd2.alloc (.cells #[.int .i64 0, .int .i64 0, .int .i64 0, .int .i64 0, .slice none 0 0, .slice none 0 0, .slice none 0 0, .slice none 0 0] 34))) := RD_t2.out.grow hba
          have GR_t5 : Hid (w.grownBy (wd2.alloc (.cells #[.int .i64 0, .int .i64 0, .int .i64 0, .int .i64 0, .slice none 0 0, .slice none 0 0, .slice none 0 0, .slice none 0 0] 34)) (some R)) := GR_t2.out.trans (grown_of_below hba _)
          have HA_t5 : Hid (Lies (wd2.alloc (.cells #[.int .i64 0, .int .i64 0, .int .i64 0, .int .i64 0, .slice none 0 0, .slice none 0 0, .slice none 0 0, .slice none 0 0] 34)) wd2.heap.size [.int .i64 0, .int .i64 0, .int .i64 0, .int .i64 0, .slice none 0 0, .slice none 0 0, .slice none 0 0, .slice none 0 0]) := lies_new _ _ _
          have PB_t5 : Hid (wq.heap.size ≤ wd2.heap.size) := hS2.size
          refine hK.out _ _ hS5 (fun _ => ?_)
          clear hK Kk hba HM_t2 HZ_t2 RD_t2 GR_t2
          generalize (wd2.alloc (.cells #[.int .i64 0, .int .i64 0, .int .i64 0, .int .i64 0, .slice none 0 0, .slice none 0 0, .slice none 0 0, .slice none 0 0] 34)) = wd5 at HA_t5 hS5 HM_t5 HZ_t5 RD_t5 GR_t5 ⊢
          generalize wd2.heap.size = pb5 at HA_t5 PB_t5 ⊢
          try simp only [Act.put]
          refine wpAnyH_ready (rs := [7]) (by kernel_rfl) (by simp) ?_
          refine AllReadyH.cons rfl (fun Kk hK => ?_) (AllReadyH.nil)
          · go_simp
            refine (CS.out (x, y) (IntKind.i64.wrap (2 * 2 ^ min (IntKind.u64.wrap v).toNat 64)) _).mono ?_
            rintro e wd6 ⟨p1, p2, p3, p4, L, o, z1, z2, z3, z4, g1, gc1, g2, gc2, g3, gc3, g4, gc4, rfl, hL, ⟨q1, q2, q3, q4⟩, hfar, hb6⟩
            go_simp
            have hS6 : wq.grownBy wd6 (some R) := hS5.trans (grown_of_below hb6 _)
            have HM_t6 : Hid (Lies wd6 w.heap.size [.int .i64 a, .int .i64 b, .int .i64 c, .int .i64 d, .int .i64 f, .int .i64 k, .int .i64 a', .int .i64 b', .int .i64 c', .int .i64 d', .int .i64 f', .int .i64 k']) := HM_t5.out.belowS hb6
            have HZ_t6 : Hid (Lies wd6 (w.heap.size + 1) [.int .i64 0, .int .i64 0, .int .i64 0, .int .i64 0, .slice none 0 0, .slice none 0 0, .slice none 0 0, .slice none 0 0]) := HZ_t5.out.belowS hb6
            have RD_t6 : Hid (Rd w0 R ca len cap wd6) := RD_t5.out.grow hb6
            have GR_t6 : Hid (w.grownBy wd6 (some R)) := GR_t5.out.trans (grown_of_below hb6 _)
            have HA_t6 : Hid (Lies wd6 pb5 [.int .i64 0, .int .i64 0, .int .i64 0, .int .i64 0, .slice none 0 0, .slice none 0 0, .slice none 0 0, .slice none 0 0]) := HA_t5.out.belowS hb6
            have O1_t6 : Hid (Owns 2 wd6 wq.heap.size g1 L gc1 z1) := q1.mono hS5.size
            have O2_t6 : Hid (Owns 2 wd6 wq.heap.size g2 L gc2 z2) := q2.mono hS5.size
            have O3_t6 : Hid (Owns 2 wd6 wq.heap.size g3 L gc3 z3) := q3.mono hS5.size
            have O4_t6 : Hid (Owns 2 wd6 wq.heap.size g4 L gc4 z4) := q4.mono hS5.size
            have FA_t6 : Hid (far g1 g2 ∧ far g1 g3 ∧ far g1 g4 ∧ far g2 g3 ∧ far g2 g4 ∧ far g3 g4) := hfar
            have LL_t6 : Hid (L ≤ 64) := hL
            have NE1_t6 : Hid (∀ q, g1 = some q → q.block ≠ pb5) := fun q hq => Nat.ne_of_gt (Nat.lt_of_lt_of_le HA_t5.out.2.2 (q1.lo q hq))
            have NE2_t6 : Hid (∀ q, g2 = some q → q.block ≠ pb5) := fun q hq => Nat.ne_of_gt (Nat.lt_of_lt_of_le HA_t5.out.2.2 (q2.lo q hq))
            have NE3_t6 : Hid (∀ q, g3 = some q → q.block ≠ pb5) := fun q hq => Nat.ne_of_gt (Nat.lt_of_lt_of_le HA_t5.out.2.2 (q3.lo q hq))
            have NE4_t6 : Hid (∀ q, g4 = some q → q.block ≠ pb5) := fun q hq => Nat.ne_of_gt (Nat.lt_of_lt_of_le HA_t5.out.2.2 (q4.lo q hq))
            clear q1 q2 q3 q4 hfar hL
            refine hK.out _ _ hS6 (fun _ => ?_)
            clear hK Kk hb6 HM_t5 HZ_t5 RD_t5 GR_t5 HA_t5
            try simp only [Act.put]
            refine wpAnyH_take (i := 8) (v := .tuple #[.agg #[.int .i64 p1, .int .i64 p2, .int .i64 p3, .int .i64 p4, .slice g1 L gc1, .slice g2 L gc2, .slice g3 L gc3, .slice g4 L gc4], .bool o]) rfl (by kernel_rfl) (by kernel_rfl) (by kernel_rfl) (fun _ _ _ h => h) (Or.inl ⟨by kernel_rfl, ?_⟩) (by assumption) ?_
            · intro wq hSq; go_simp
            try simp only [Act.put]
            refine wpAnyH_take (i := 9) (v := .agg #[.int .i64 p1, .int .i64 p2, .int .i64 p3, .int .i64 p4, .slice g1 L gc1, .slice g2 L gc2, .slice g3 L gc3, .slice g4 L gc4]) rfl (by kernel_rfl) (by kernel_rfl) (by kernel_rfl) (fun _ _ _ h => h) (Or.inl ⟨by kernel_rfl, ?_⟩) (by assumption) ?_
            · intro wq hSq; go_simp
            try simp only [Act.put]
            refine wpAnyH_take (i := 10) (v := .bool o) rfl (by kernel_rfl) (by kernel_rfl) (by kernel_rfl) (fun _ _ _ h => h) (Or.inl ⟨by kernel_rfl, ?_⟩) (by assumption) ?_
            · intro wq hSq; go_simp
            try simp only [Act.put]
            refine wpAnyH_ready (rs := [12]) (by kernel_rfl) (by simp) ?_
            refine AllReadyH.cons rfl (fun Kk hK => ?_) AllReadyH.nil
            rw [if_pos (by kernel_rfl)]
            with_reducible refine wp_store_mid 34 (.tmp 5) (.tmp 19) ?_ pb5 0 ([.int .i64 p1, .int .i64 p2, .int .i64 p3, .int .i64 p4, .slice g1 L gc1, .slice g2 L gc2, .slice g3 L gc3, .slice g4 L gc4]).toArray ?_ ?_ ?_ (by kernel_rfl) (by kernel_rfl) ?_
            · exact rfl
            · exact rfl
            · exact rfl
            · exact HA_t6.out.there 0 8 (by simp)
            have hPB := PB_t5.out
            obtain ⟨kM, kZ, kW, kR, kw, kS⟩ := HPBL.out _ hPB
            have hSz : wq.grownBy (wd6.setCells pb5 0 [.int .i64 p1, .int .i64 p2, .int .i64 p3, .int .i64 p4, .slice g1 L gc1, .slice g2 L gc2, .slice g3 L gc3, .slice g4 L gc4]) (some R) := grown_far hS6 hPB 0 _
            have HP_z : Hid (Lies (wd6.setCells pb5 0 [.int .i64 p1, .int .i64 p2, .int .i64 p3, .int .i64 p4, .slice g1 L gc1, .slice g2 L gc2, .slice g3 L gc3, .slice g4 L gc4]) pb5 [.int .i64 p1, .int .i64 p2, .int .i64 p3, .int .i64 p4, .slice g1 L gc1, .slice g2 L gc2, .slice g3 L gc3, .slice g4 L gc4]) := HA_t6.out.setCells [.int .i64 p1, .int .i64 p2, .int .i64 p3, .int .i64 p4, .slice g1 L gc1, .slice g2 L gc2, .slice g3 L gc3, .slice g4 L gc4] 0 (by simp)
            have HM_z : Hid (Lies (wd6.setCells pb5 0 [.int .i64 p1, .int .i64 p2, .int .i64 p3, .int .i64 p4, .slice g1 L gc1, .slice g2 L gc2, .slice g3 L gc3, .slice g4 L gc4]) w.heap.size [.int .i64 a, .int .i64 b, .int .i64 c, .int .i64 d, .int .i64 f, .int .i64 k, .int .i64 a', .int .i64 b', .int .i64 c', .int .i64 d', .int .i64 f', .int .i64 k']) := Lies.farCells _ 0 HM_t6.out kM
            have HZ_z : Hid (Lies (wd6.setCells pb5 0 [.int .i64 p1, .int .i64 p2, .int .i64 p3, .int .i64 p4, .slice g1 L gc1, .slice g2 L gc2, .slice g3 L gc3, .slice g4 L gc4]) (w.heap.size + 1) [.int .i64 0, .int .i64 0, .int .i64 0, .int .i64 0, .slice none 0 0, .slice none 0 0, .slice none 0 0, .slice none 0 0]) := Lies.farCells _ 0 HZ_t6.out kZ
            have RD_z : Hid (Rd w0 R ca len cap (wd6.setCells pb5 0 [.int .i64 p1, .int .i64 p2, .int .i64 p3, .int .i64 p4, .slice g1 L gc1, .slice g2 L gc2, .slice g3 L gc3, .slice g4 L gc4])) := RD_t6.out.cells kW kR _
            have GR_z : Hid (w.grownBy (wd6.setCells pb5 0 [.int .i64 p1, .int .i64 p2, .int .i64 p3, .int .i64 p4, .slice g1 L gc1, .slice g2 L gc2, .slice g3 L gc3, .slice g4 L gc4]) (some R)) := grown_far GR_t6.out kw 0 _
            have O1_z : Hid (Owns 2 (wd6.setCells pb5 0 [.int .i64 p1, .int .i64 p2, .int .i64 p3, .int .i64 p4, .slice g1 L gc1, .slice g2 L gc2, .slice g3 L gc3, .slice g4 L gc4]) wq.heap.size g1 L gc1 z1) := O1_t6.out.grownR (grown_cells (World.grownBy.refl _ _) 0 _) (fun q hq e => NE1_t6.out q hq (Option.some.inj e).symm)
            have O2_z : Hid (Owns 2 (wd6.setCells pb5 0 [.int .i64 p1, .int .i64 p2, .int .i64 p3, .int .i64 p4, .slice g1 L gc1, .slice g2 L gc2, .slice g3 L gc3, .slice g4 L gc4]) wq.heap.size g2 L gc2 z2) := O2_t6.out.grownR (grown_cells (World.grownBy.refl _ _) 0 _) (fun q hq e => NE2_t6.out q hq (Option.some.inj e).symm)
            have O3_z : Hid (Owns 2 (wd6.setCells pb5 0 [.int .i64 p1, .int .i64 p2, .int .i64 p3, .int .i64 p4, .slice g1 L gc1, .slice g2 L gc2, .slice g3 L gc3, .slice g4 L gc4]) wq.heap.size g3 L gc3 z3) := O3_t6.out.grownR (grown_cells (World.grownBy.refl _ _) 0 _) (fun q hq e => NE3_t6.out q hq (Option.some.inj e).symm)
            have O4_z : Hid (Owns 2 (wd6.setCells pb5 0 [.int .i64 p1, .int .i64 p2, .int .i64 p3, .int .i64 p4, .slice g1 L gc1, .slice g2 L gc2, .slice g3 L gc3, .slice g4 L gc4]) wq.heap.size g4 L gc4 z4) := O4_t6.out.grownR (grown_cells (World.grownBy.refl _ _) 0 _) (fun q hq e => NE4_t6.out q hq (Option.some.inj e).symm)
            refine hK.out _ _ hSz (fun hSzz => ?_)
            clear hK Kk hSzz
            generalize (wd6.setCells pb5 0 [.int .i64 p1, .int .i64 p2, .int .i64 p3, .int .i64 p4, .slice g1 L gc1, .slice g2 L gc2, .slice g3 L gc3, .slice g4 L gc4]) = wz at hSz HP_z HM_z HZ_z RD_z GR_z O1_z O2_z O3_z O4_z ⊢
            try simp only [Act.put]
            refine wpAnyH_take (i := 13) (v := .bool o) rfl (by kernel_rfl) (by kernel_rfl) (by kernel_rfl) (fun _ _ _ h => h) (Or.inl ⟨by kernel_rfl, ?_⟩) (by assumption) ?_
            · intro wq hSq; go_simp
            try simp only [Act.put]
            refine wpAnyH_done (by kernel_rfl) ?_ _
            refine NoPanic.normal ?_
            go_simp
            clear hSz hPB kM kZ kW kR kw kS
            have J_HM : Hid _ := HM_z.out
            have J_HZ : Hid _ := HZ_z.out
            have J_RD : Hid _ := RD_z.out
            have J_GR : Hid _ := GR_z.out
            have J_O1 : Hid _ := O1_z.out
            have J_O2 : Hid _ := O2_z.out
            have J_O3 : Hid _ := O3_z.out
            have J_O4 : Hid _ := O4_z.out
            have J_FA : Hid _ := FA_t6.out
            have J_LL : Hid _ := LL_t6.out
            have J_PB : Hid _ := PB_t5.out
            have J_NE1 : Hid _ := NE1_t6.out
            have J_NE2 : Hid _ := NE2_t6.out
            have J_NE3 : Hid _ := NE3_t6.out
            have J_NE4 : Hid _ := NE4_t6.out
            have J_HP : Hid _ := HP_z.out
            clear HM_z HZ_z RD_z GR_z O1_z O2_z O3_z O4_z HP_z HM_t6 HZ_t6 RD_t6 GR_t6 HA_t6 PB_t5 O1_t6 O2_t6 O3_t6 O4_t6 FA_t6 LL_t6 NE1_t6 NE2_t6 NE3_t6 NE4_t6
            generalize pb5 = pb at J_PB J_NE1 J_NE2 J_NE3 J_NE4 J_HP ⊢
            revert J_HP J_NE4 J_NE3 J_NE2 J_NE1 J_PB J_LL J_FA J_O4 J_O3 J_O2 J_O1 J_GR J_RD J_HZ J_HM
            revert wz
            revert pb
            revert gc4
            revert g4
            revert z4
            revert gc3
            revert g3
            revert z3
            revert gc2
            revert g2
            revert z2
            revert gc1
            revert g1
            revert z1
            revert o
            revert L
            revert p4
            revert p3
            revert p2
            revert p1
            clear v0 v1
            revert v
            revert y
            revert x
            exact key
      · rw [if_pos (by kernel_rfl)]
        refine wp_alloc_as 34 rfl #[.int .i64 0, .int .i64 0, .int .i64 0, .int .i64 0, .slice none 0 0, .slice none 0 0, .slice none 0 0, .slice none 0 0] (by kernel_rfl) ?_
        have hba : Below wd1.heap.size wd1 (wd1.alloc (.cells #[.int .i64 0, .int .i64 0, .int .i64 0, .int .i64 0, .slice none 0 0, .slice none 0 0, .slice none 0 0, .slice none 0 0] 34)) := (Below.refl _ _).alloc (Nat.le_refl _) _
        have hS7 : wq.grownBy (wd1.alloc (.cells #[.int .i64 0, .int .i64 0, .int .i64 0, .int .i64 0, .slice none 0 0, .slice none 0 0, .slice none 0 0, .slice none 0 0] 34)) (some R) := grown_alloc hS1 _
        have HM_t7 : Hid (Lies (wd1.alloc (.cells #[.int .i64 0, .int .i64 0, .int .i64 0, .int .i64 0, .slice none 0 0, .slice none 0 0, .slice none 0 0, .slice none 0 0] 34)) w.heap.size [.int .i64 a, .int .i64 b, .int .i64 c, .int .i64 d, .int .i64 f, .int .i64 k, .int .i64 a', .int .i64 b', .int .i64 c', .int .i64 d', .int .i64 f', .int .i64 k']) := HM_t1.out.belowS hba
        have HZ_t7 : Hid (Lies (wd1.alloc (.cells #[.int .i64 0, .int .i64 0, .int .i64 0, .int .i64 0, .slice none 0 0, .slice none 0 0, .slice none 0 0, .slice none 0 0] 34)) (w.heap.size + 1) [.int .i64 0, .int .i64 0, .int .i64 0, .int .i64 0, .slice none 0 0, .slice none 0 0, .slice none 0 0, .slice none 0 0]) := HZ_t1.out.belowS hba
        have RD_t7 : Hid (Rd w0 R ca len cap (wd1.alloc (.cells #[.int .i64 0, .int .i64 0, .int .i64 0, .int .i64 0, .slice none 0 0, .slice none 0 0, .slice none 0 0, .slice none 0 0] 34))) := RD_t1.out.grow hba
        have GR_t7 : Hid (w.grownBy (wd1.alloc (.cells #[.int .i64 0, .int .i64 0, .int .i64 0, .int .i64 0, .slice none 0 0, .slice none 0 0, .slice none 0 0, .slice none 0 0] 34)) (some R)) := GR_t1.out.trans (grown_of_below hba _)
        have HA_t7 : Hid (Lies (wd1.alloc (.cells #[.int .i64 0, .int .i64 0, .int .i64 0, .int .i64 0, .slice none 0 0, .slice none 0 0, .slice none 0 0, .slice none 0 0] 34)) wd1.heap.size [.int .i64 0, .int .i64 0, .int .i64 0, .int .i64 0, .slice none 0 0, .slice none 0 0, .slice none 0 0, .slice none 0 0]) := lies_new _ _ _
        have PB_t7 : Hid (wq.heap.size ≤ wd1.heap.size) := hS1.size
        refine hK.out _ _ hS7 (fun _ => ?_)
        clear hK Kk hba HM_t1 HZ_t1 RD_t1 GR_t1
        generalize (wd1.alloc (.cells #[.int .i64 0, .int .i64 0, .int .i64 0, .int .i64 0, .slice none 0 0, .slice none 0 0, .slice none 0 0, .slice none 0 0] 34)) = wd7 at HA_t7 hS7 HM_t7 HZ_t7 RD_t7 GR_t7 ⊢
        generalize wd1.heap.size = pb7 at HA_t7 PB_t7 ⊢
        try simp only [Act.put]
        refine wpAnyH_ready (rs := [4]) (by kernel_rfl) (by simp) ?_
        refine AllReadyH.cons rfl (fun Kk hK => ?_) (AllReadyH.nil)
        · go_simp
          refine (below_any HRow.out 3 (by decide) (by decide) _ RD_t7.out).mono ?_
          rintro e wd8 ⟨v, v0, v1, rfl, hr8, hg8⟩
          go_simp
          have hS8 : wq.grownBy wd8 (some R) := hS7.trans hg8
          have HM_t8 : Hid (Lies wd8 w.heap.size [.int .i64 a, .int .i64 b, .int .i64 c, .int .i64 d, .int .i64 f, .int .i64 k, .int .i64 a', .int .i64 b', .int .i64 c', .int .i64 d', .int .i64 f', .int .i64 k']) := HM_t7.out.grown hg8 HNm
          have HZ_t8 : Hid (Lies wd8 (w.heap.size + 1) [.int .i64 0, .int .i64 0, .int .i64 0, .int .i64 0, .slice none 0 0, .slice none 0 0, .slice none 0 0, .slice none 0 0]) := HZ_t7.out.grown hg8 HNz
          have RD_t8 : Hid (Rd w0 R ca len cap wd8) := hr8
          have GR_t8 : Hid (w.grownBy wd8 (some R)) := GR_t7.out.trans hg8
          have HA_t8 : Hid (Lies wd8 pb7 [.int .i64 0, .int .i64 0, .int .i64 0, .int .i64 0, .slice none 0 0, .slice none 0 0, .slice none 0 0, .slice none 0 0]) := HA_t7.out.grown hg8 (HPBL.out _ PB_t7.out).2.2.2.2.2
          refine hK.out _ _ hS8 (fun _ => ?_)
          clear hK Kk hg8 hr8 HM_t7 HZ_t7 RD_t7 GR_t7 HA_t7
          try simp only [Act.put]
          refine wpAnyH_take (i := 5) (v := .int .u64 (IntKind.u64.wrap v)) rfl (by kernel_rfl) (by kernel_rfl) (by kernel_rfl) (fun _ _ _ h => h) (Or.inl ⟨by kernel_rfl, ?_⟩) (by assumption) ?_
          · intro wq hSq; go_simp
          try simp only [Act.put]
          refine wpAnyH_take (i := 6) (v := .int .i64 (IntKind.i64.wrap (2 * 2 ^ min (IntKind.u64.wrap v).toNat 64))) rfl (by kernel_rfl) (by kernel_rfl) (by kernel_rfl) (fun _ _ _ h => h) (Or.inl ⟨by kernel_rfl, ?_⟩) (by assumption) ?_
          · intro wq hSq; go_simp
          try simp only [Act.put]
          refine wpAnyH_ready (rs := [7]) (by kernel_rfl) (by simp) ?_
          refine AllReadyH.cons rfl (fun Kk hK => ?_) (AllReadyH.nil)
          · go_simp
            refine (CS.out (x, y) (IntKind.i64.wrap (2 * 2 ^ min (IntKind.u64.wrap v).toNat 64)) _).mono ?_
            rintro e wd9 ⟨p1, p2, p3, p4, L, o, z1, z2, z3, z4, g1, gc1, g2, gc2, g3, gc3, g4, gc4, rfl, hL, ⟨q1, q2, q3, q4⟩, hfar, hb9⟩
            go_simp
            have hS9 : wq.grownBy wd9 (some R) := hS8.trans (grown_of_below hb9 _)
            have HM_t9 : Hid (Lies wd9 w.heap.size [.int .i64 a, .int .i64 b, .int .i64 c, .int .i64 d, .int .i64 f, .int .i64 k, .int .i64 a', .int .i64 b', .int .i64 c', .int .i64 d', .int .i64 f', .int .i64 k']) := HM_t8.out.belowS hb9
            have HZ_t9 : Hid (Lies wd9 (w.heap.size + 1) [.int .i64 0, .int .i64 0, .int .i64 0, .int .i64 0, .slice none 0 0, .slice none 0 0, .slice none 0 0, .slice none 0 0]) := HZ_t8.out.belowS hb9
            have RD_t9 : Hid (Rd w0 R ca len cap wd9) := RD_t8.out.grow hb9
            have GR_t9 : Hid (w.grownBy wd9 (some R)) := GR_t8.out.trans (grown_of_below hb9 _)
            have HA_t9 : Hid (Lies wd9 pb7 [.int .i64 0, .int .i64 0, .int .i64 0, .int .i64 0, .slice none 0 0, .slice none 0 0, .slice none 0 0, .slice none 0 0]) := HA_t8.out.belowS hb9
            have O1_t9 : Hid (Owns 2 wd9 wq.heap.size g1 L gc1 z1) := q1.mono hS8.size
            have O2_t9 : Hid (Owns 2 wd9 wq.heap.size g2 L gc2 z2) := q2.mono hS8.size
            have O3_t9 : Hid (Owns 2 wd9 wq.heap.size g3 L gc3 z3) := q3.mono hS8.size
            have O4_t9 : Hid (Owns 2 wd9 wq.heap.size g4 L gc4 z4) := q4.mono hS8.size
            have FA_t9 : Hid (far g1 g2 ∧ far g1 g3 ∧ far g1 g4 ∧ far g2 g3 ∧ far g2 g4 ∧ far g3 g4) := hfar
            have LL_t9 : Hid (L ≤ 64) := hL
            have NE1_t9 : Hid (∀ q, g1 = some q → q.block ≠ pb7) := fun q hq => Nat.ne_of_gt (Nat.lt_of_lt_of_le HA_t8.out.2.2 (q1.lo q hq))
            have NE2_t9 : Hid (∀ q, g2 = some q → q.block ≠ pb7) := fun q hq => Nat.ne_of_gt (Nat.lt_of_lt_of_le HA_t8.out.2.2 (q2.lo q hq))
            have NE3_t9 : Hid (∀ q, g3 = some q → q.block ≠ pb7) := fun q hq => Nat.ne_of_gt (Nat.lt_of_lt_of_le HA_t8.out.2.2 (q3.lo q hq))
            have NE4_t9 : Hid (∀ q, g4 = some q → q.block ≠ pb7) := fun q hq => Nat.ne_of_gt (Nat.lt_of_lt_of_le HA_t8.out.2.2 (q4.lo q hq))
            clear q1 q2 q3 q4 hfar hL
            refine hK.out _ _ hS9 (fun _ => ?_)
            clear hK Kk hb9 HM_t8 HZ_t8 RD_t8 GR_t8 HA_t8
            try simp only [Act.put]
            refine wpAnyH_take (i := 8) (v := .tuple #[.agg #[.int .i64 p1, .int .i64 p2, .int .i64 p3, .int .i64 p4, .slice g1 L gc1, .slice g2 L gc2, .slice g3 L gc3, .slice g4 L gc4], .bool o]) rfl (by kernel_rfl) (by kernel_rfl) (by kernel_rfl) (fun _ _ _ h => h) (Or.inl ⟨by kernel_rfl, ?_⟩) (by assumption) ?_
            · intro wq hSq; go_simp
            try simp only [Act.put]
            refine wpAnyH_take (i := 9) (v := .agg #[.int .i64 p1, .int .i64 p2, .int .i64 p3, .int .i64 p4, .slice g1 L gc1, .slice g2 L gc2, .slice g3 L gc3, .slice g4 L gc4]) rfl (by kernel_rfl) (by kernel_rfl) (by kernel_rfl) (fun _ _ _ h => h) (Or.inl ⟨by kernel_rfl, ?_⟩) (by assumption) ?_
            · intro wq hSq; go_simp
            try simp only [Act.put]
            refine wpAnyH_take (i := 10) (v := .bool o) rfl (by kernel_rfl) (by kernel_rfl) (by kernel_rfl) (fun _ _ _ h => h) (Or.inl ⟨by kernel_rfl, ?_⟩) (by assumption) ?_
            · intro wq hSq; go_simp
            try simp only [Act.put]
            refine wpAnyH_ready (rs := [12]) (by kernel_rfl) (by simp) ?_
            refine AllReadyH.cons rfl (fun Kk hK => ?_) AllReadyH.nil
            rw [if_pos (by kernel_rfl)]
            with_reducible refine wp_store_mid 34 (.tmp 5) (.tmp 19) ?_ pb7 0 ([.int .i64 p1, .int .i64 p2, .int .i64 p3, .int .i64 p4, .slice g1 L gc1, .slice g2 L gc2, .slice g3 L gc3, .slice g4 L gc4]).toArray ?_ ?_ ?_ (by kernel_rfl) (by kernel_rfl) ?_
            · exact rfl
            · exact rfl
            · exact rfl
            · exact HA_t9.out.there 0 8 (by simp)
            have hPB := PB_t7.out
            obtain ⟨kM, kZ, kW, kR, kw, kS⟩ := HPBL.out _ hPB
            have hSz : wq.grownBy (wd9.setCells pb7 0 [.int .i64 p1, .int .i64 p2, .int .i64 p3, .int .i64 p4, .slice g1 L gc1, .slice g2 L gc2, .slice g3 L gc3, .slice g4 L gc4]) (some R) := grown_far hS9 hPB 0 _
            have HP_z : Hid (Lies (wd9.setCells pb7 0 [.int .i64 p1, .int .i64 p2, .int .i64 p3, .int .i64 p4, .slice g1 L gc1, .slice g2 L gc2, .slice g3 L gc3, .slice g4 L gc4]) pb7 [.int .i64 p1, .int .i64 p2, .int .i64 p3, .int .i64 p4, .slice g1 L gc1, .slice g2 L gc2, .slice g3 L gc3, .slice g4 L gc4]) := HA_t9.out.setCells [.int .i64 p1, .int .i64 p2, .int .i64 p3, .int .i64 p4, .slice g1 L gc1, .slice g2 L gc2, .slice g3 L gc3, .slice g4 L gc4] 0 (by simp)
            have HM_z : Hid (Lies (wd9.setCells pb7 0 [.int .i64 p1, .int .i64 p2, .int .i64 p3, .int .i64 p4, .slice g1 L gc1, .slice g2 L gc2, .slice g3 L gc3, .slice g4 L gc4]) w.heap.size [.int .i64 a, .int .i64 b, .int .i64 c, .int .i64 d, .int .i64 f, .int .i64 k, .int .i64 a', .int .i64 b', .int .i64 c', .int .i64 d', .int .i64 f', .int .i64 k']) := Lies.farCells _ 0 HM_t9.out kM
            have HZ_z : Hid (Lies (wd9.setCells pb7 0 [.int .i64 p1, .int .i64 p2, .int .i64 p3, .int .i64 p4, .slice g1 L gc1, .slice g2 L gc2, .slice g3 L gc3, .slice g4 L gc4]) (w.heap.size + 1) [.int .i64 0, .int .i64 0, .int .i64 0, .int .i64 0, .slice none 0 0, .slice none 0 0, .slice none 0 0, .slice none 0 0]) := Lies.farCells _ 0 HZ_t9.out kZ
            have RD_z : Hid (Rd w0 R ca len cap (wd9.setCells pb7 0 [.int .i64 p1, .int .i64 p2, .int .i64 p3, .int .i64 p4, .slice g1 L gc1, .slice g2 L gc2, .slice g3 L gc3, .slice g4 L gc4])) := RD_t9.out.cells kW kR _
            have GR_z : Hid (w.grownBy (wd9.setCells pb7 0 [.int .i64 p1, .int .i64 p2, .int .i64 p3, .int .i64 p4, .slice g1 L gc1, .slice g2 L gc2, .slice g3 L gc3, .slice g4 L gc4]) (some R)) := grown_far GR_t9.out kw 0 _
            have O1_z : Hid (Owns 2 (wd9.setCells pb7 0 [.int .i64 p1, .int .i64 p2, .int .i64 p3, .int .i64 p4, .slice g1 L gc1, .slice g2 L gc2, .slice g3 L gc3, .slice g4 L gc4]) wq.heap.size g1 L gc1 z1) := O1_t9.out.grownR (grown_cells (World.grownBy.refl _ _) 0 _) (fun q hq e => NE1_t9.out q hq (Option.some.inj e).symm)
            have O2_z : Hid (Owns 2 (wd9.setCells pb7 0 [.int .i64 p1, .int .i64 p2, .int .i64 p3, .int .i64 p4, .slice g1 L gc1, .slice g2 L gc2, .slice g3 L gc3, .slice g4 L gc4]) wq.heap.size g2 L gc2 z2) := O2_t9.out.grownR (grown_cells (World.grownBy.refl _ _) 0 _) (fun q hq e => NE2_t9.out q hq (Option.some.inj e).symm)
            have O3_z : Hid (Owns 2 (wd9.setCells pb7 0 [.int .i64 p1, .int .i64 p2, .int .i64 p3, .int .i64 p4, .slice g1 L gc1, .slice g2 L gc2, .slice g3 L gc3, .slice g4 L gc4]) wq.heap.size g3 L gc3 z3) := O3_t9.out.grownR (grown_cells (World.grownBy.refl _ _) 0 _) (fun q hq e => NE3_t9.out q hq (Option.some.inj e).symm)
            have O4_z : Hid (Owns 2 (wd9.setCells pb7 0 [.int .i64 p1, .int .i64 p2, .int .i64 p3, .int .i64 p4, .slice g1 L gc1, .slice g2 L gc2, .slice g3 L gc3, .slice g4 L gc4]) wq.heap.size g4 L gc4 z4) := O4_t9.out.grownR (grown_cells (World.grownBy.refl _ _) 0 _) (fun q hq e => NE4_t9.out q hq (Option.some.inj e).symm)
            refine hK.out _ _ hSz (fun hSzz => ?_)
            clear hK Kk hSzz
            generalize (wd9.setCells pb7 0 [.int .i64 p1, .int .i64 p2, .int .i64 p3, .int .i64 p4, .slice g1 L gc1, .slice g2 L gc2, .slice g3 L gc3, .slice g4 L gc4]) = wz at hSz HP_z HM_z HZ_z RD_z GR_z O1_z O2_z O3_z O4_z ⊢
            try simp only [Act.put]
            refine wpAnyH_take (i := 13) (v := .bool o) rfl (by kernel_rfl) (by kernel_rfl) (by kernel_rfl) (fun _ _ _ h => h) (Or.inl ⟨by kernel_rfl, ?_⟩) (by assumption) ?_
            · intro wq hSq; go_simp
            try simp only [Act.put]
            refine wpAnyH_done (by kernel_rfl) ?_ _
            refine NoPanic.normal ?_
            go_simp
            clear hSz hPB kM kZ kW kR kw kS
            have J_HM : Hid _ := HM_z.out
            have J_HZ : Hid _ := HZ_z.out
            have J_RD : Hid _ := RD_z.out
            have J_GR : Hid _ := GR_z.out
            have J_O1 : Hid _ := O1_z.out
            have J_O2 : Hid _ := O2_z.out
            have J_O3 : Hid _ := O3_z.out
            have J_O4 : Hid _ := O4_z.out
            have J_FA : Hid _ := FA_t9.out
            have J_LL : Hid _ := LL_t9.out
            have J_PB : Hid _ := PB_t7.out
            have J_NE1 : Hid _ := NE1_t9.out
            have J_NE2 : Hid _ := NE2_t9.out
            have J_NE3 : Hid _ := NE3_t9.out
            have J_NE4 : Hid _ := NE4_t9.out
            have J_HP : Hid _ := HP_z.out
            clear HM_z HZ_z RD_z GR_z O1_z O2_z O3_z O4_z HP_z HM_t9 HZ_t9 RD_t9 GR_t9 HA_t9 PB_t7 O1_t9 O2_t9 O3_t9 O4_t9 FA_t9 LL_t9 NE1_t9 NE2_t9 NE3_t9 NE4_t9
            generalize pb7 = pb at J_PB J_NE1 J_NE2 J_NE3 J_NE4 J_HP ⊢
            revert J_HP J_NE4 J_NE3 J_NE2 J_NE1 J_PB J_LL J_FA J_O4 J_O3 J_O2 J_O1 J_GR J_RD J_HZ J_HM
            revert wz
            revert pb
            revert gc4
            revert g4
            revert z4
            revert gc3
            revert g3
            revert z3
            revert gc2
            revert g2
            revert z2
            revert gc1
            revert g1
            revert z1
            revert o
            revert L
            revert p4
            revert p3
            revert p2
            revert p1
            clear v0 v1
            revert v
            revert y
            revert x
            exact key
    · rw [if_pos (by kernel_rfl)]
      refine wp_alloc_as 34 rfl #[.int .i64 0, .int .i64 0, .int .i64 0, .int .i64 0, .slice none 0 0, .slice none 0 0, .slice none 0 0, .slice none 0 0] (by kernel_rfl) ?_
      have hba : Below wd0.heap.size wd0 (wd0.alloc (.cells #[.int .i64 0, .int .i64 0, .int .i64 0, .int .i64 0, .slice none 0 0, .slice none 0 0, .slice none 0 0, .slice none 0 0] 34)) := (Below.refl _ _).alloc (Nat.le_refl _) _
      have hS10 : wq.grownBy (wd0.alloc (.cells #[.int .i64 0, .int .i64 0, .int .i64 0, .int .i64 0, .slice none 0 0, .slice none 0 0, .slice none 0 0, .slice none 0 0] 34)) (some R) := grown_alloc hHeld _
      have HM_t10 : Hid (Lies (wd0.alloc (.cells #[.int .i64 0, .int .i64 0, .int .i64 0, .int .i64 0, .slice none 0 0, .slice none 0 0, .slice none 0 0, .slice none 0 0] 34)) w.heap.size [.int .i64 a, .int .i64 b, .int .i64 c, .int .i64 d, .int .i64 f, .int .i64 k, .int .i64 a', .int .i64 b', .int .i64 c', .int .i64 d', .int .i64 f', .int .i64 k']) := HM_r0.out.belowS hba
      have HZ_t10 : Hid (Lies (wd0.alloc (.cells #[.int .i64 0, .int .i64 0, .int .i64 0, .int .i64 0, .slice none 0 0, .slice none 0 0, .slice none 0 0, .slice none 0 0] 34)) (w.heap.size + 1) [.int .i64 0, .int .i64 0, .int .i64 0, .int .i64 0, .slice none 0 0, .slice none 0 0, .slice none 0 0, .slice none 0 0]) := HZ_r0.out.belowS hba
      have RD_t10 : Hid (Rd w0 R ca len cap (wd0.alloc (.cells #[.int .i64 0, .int .i64 0, .int .i64 0, .int .i64 0, .slice none 0 0, .slice none 0 0, .slice none 0 0, .slice none 0 0] 34))) := RD_r0.out.grow hba
      have GR_t10 : Hid (w.grownBy (wd0.alloc (.cells #[.int .i64 0, .int .i64 0, .int .i64 0, .int .i64 0, .slice none 0 0, .slice none 0 0, .slice none 0 0, .slice none 0 0] 34)) (some R)) := GR_r0.out.trans (grown_of_below hba _)
      have HA_t10 : Hid (Lies (wd0.alloc (.cells #[.int .i64 0, .int .i64 0, .int .i64 0, .int .i64 0, .slice none 0 0, .slice none 0 0, .slice none 0 0, .slice none 0 0] 34)) wd0.heap.size [.int .i64 0, .int .i64 0, .int .i64 0, .int .i64 0, .slice none 0 0, .slice none 0 0, .slice none 0 0, .slice none 0 0]) := lies_new _ _ _
      have PB_t10 : Hid (wq.heap.size ≤ wd0.heap.size) := hHeld.size
      refine hK.out _ _ hS10 (fun _ => ?_)
      clear hK Kk hba HM_r0 HZ_r0 RD_r0 GR_r0
      generalize (wd0.alloc (.cells #[.int .i64 0, .int .i64 0, .int .i64 0, .int .i64 0, .slice none 0 0, .slice none 0 0, .slice none 0 0, .slice none 0 0] 34)) = wd10 at HA_t10 hS10 HM_t10 HZ_t10 RD_t10 GR_t10 ⊢
      generalize wd0.heap.size = pb10 at HA_t10 PB_t10 ⊢
      try simp only [Act.put]
      refine wpAnyH_ready (rs := [2]) (by kernel_rfl) (by simp) ?_
      refine AllReadyH.cons rfl (fun Kk hK => ?_) (AllReadyH.nil)
      · go_simp
        refine (stateR_any HRow.out _ RD_t10.out).mono ?_
        rintro e wd11 ⟨⟨x, y⟩, rfl, hr11, hg11⟩
        go_simp
        have hS11 : wq.grownBy wd11 (some R) := hS10.trans hg11
        have HM_t11 : Hid (Lies wd11 w.heap.size [.int .i64 a, .int .i64 b, .int .i64 c, .int .i64 d, .int .i64 f, .int .i64 k, .int .i64 a', .int .i64 b', .int .i64 c', .int .i64 d', .int .i64 f', .int .i64 k']) := HM_t10.out.grown hg11 HNm
        have HZ_t11 : Hid (Lies wd11 (w.heap.size + 1) [.int .i64 0, .int .i64 0, .int .i64 0, .int .i64 0, .slice none 0 0, .slice none 0 0, .slice none 0 0, .slice none 0 0]) := HZ_t10.out.grown hg11 HNz
        have RD_t11 : Hid (Rd w0 R ca len cap wd11) := hr11
        have GR_t11 : Hid (w.grownBy wd11 (some R)) := GR_t10.out.trans hg11
        have HA_t11 : Hid (Lies wd11 pb10 [.int .i64 0, .int .i64 0, .int .i64 0, .int .i64 0, .slice none 0 0, .slice none 0 0, .slice none 0 0, .slice none 0 0]) := HA_t10.out.grown hg11 (HPBL.out _ PB_t10.out).2.2.2.2.2
        refine hK.out _ _ hS11 (fun _ => ?_)
        clear hK Kk hg11 hr11 HM_t10 HZ_t10 RD_t10 GR_t10 HA_t10
        try simp only [Act.put]
        refine wpAnyH_ready (rs := [4]) (by kernel_rfl) (by simp) ?_
        refine AllReadyH.cons rfl (fun Kk hK => ?_) (AllReadyH.nil)
        · go_simp
          refine (below_any HRow.out 3 (by decide) (by decide) _ RD_t11.out).mono ?_
          rintro e wd12 ⟨v, v0, v1, rfl, hr12, hg12⟩
          go_simp
          have hS12 : wq.grownBy wd12 (some R) := hS11.trans hg12
          have HM_t12 : Hid (Lies wd12 w.heap.size [.int .i64 a, .int .i64 b, .int .i64 c, .int .i64 d, .int .i64 f, .int .i64 k, .int .i64 a', .int .i64 b', .int .i64 c', .int .i64 d', .int .i64 f', .int .i64 k']) := HM_t11.out.grown hg12 HNm
          have HZ_t12 : Hid (Lies wd12 (w.heap.size + 1) [.int .i64 0, .int .i64 0, .int .i64 0, .int .i64 0, .slice none 0 0, .slice none 0 0, .slice none 0 0, .slice none 0 0]) := HZ_t11.out.grown hg12 HNz
          have RD_t12 : Hid (Rd w0 R ca len cap wd12) := hr12
          have GR_t12 : Hid (w.grownBy wd12 (some R)) := GR_t11.out.trans hg12
          have HA_t12 : Hid (Lies wd12 pb10 [.int .i64 0, .int .i64 0, .int .i64 0, .int .i64 0, .slice none 0 0, .slice none 0 0, .slice none 0 0, .slice none 0 0]) := HA_t11.out.grown hg12 (HPBL.out _ PB_t10.out).2.2.2.2.2
          refine hK.out _ _ hS12 (fun _ => ?_)
          clear hK Kk hg12 hr12 HM_t11 HZ_t11 RD_t11 GR_t11 HA_t11
          try simp only [Act.put]
          refine wpAnyH_take (i := 5) (v := .int .u64 (IntKind.u64.wrap v)) rfl (by kernel_rfl) (by kernel_rfl) (by kernel_rfl) (fun _ _ _ h => h) (Or.inl ⟨by kernel_rfl, ?_⟩) (by assumption) ?_
          · intro wq hSq; go_simp
          try simp only [Act.put]
          refine wpAnyH_take (i := 6) (v := .int .i64 (IntKind.i64.wrap (2 * 2 ^ min (IntKind.u64.wrap v).toNat 64))) rfl (by kernel_rfl) (by kernel_rfl) (by kernel_rfl) (fun _ _ _ h => h) (Or.inl ⟨by kernel_rfl, ?_⟩) (by assumption) ?_
          · intro wq hSq; go_simp
          try simp only [Act.put]
          refine wpAnyH_ready (rs := [7]) (by kernel_rfl) (by simp) ?_
          refine AllReadyH.cons rfl (fun Kk hK => ?_) (AllReadyH.nil)
          · go_simp
            refine (CS.out (x, y) (IntKind.i64.wrap (2 * 2 ^ min (IntKind.u64.wrap v).toNat 64)) _).mono ?_
            rintro e wd13 ⟨p1, p2, p3, p4, L, o, z1, z2, z3, z4, g1, gc1, g2, gc2, g3, gc3, g4, gc4, rfl, hL, ⟨q1, q2, q3, q4⟩, hfar, hb13⟩
            go_simp
            have hS13 : wq.grownBy wd13 (some R) := hS12.trans (grown_of_below hb13 _)
            have HM_t13 : Hid (Lies wd13 w.heap.size [.int .i64 a, .int .i64 b, .int .i64 c, .int .i64 d, .int .i64 f, .int .i64 k, .int .i64 a', .int .i64 b', .int .i64 c', .int .i64 d', .int .i64 f', .int .i64 k']) := HM_t12.out.belowS hb13
            have HZ_t13 : Hid (Lies wd13 (w.heap.size + 1) [.int .i64 0, .int .i64 0, .int .i64 0, .int .i64 0, .slice none 0 0, .slice none 0 0, .slice none 0 0, .slice none 0 0]) := HZ_t12.out.belowS hb13
            have RD_t13 : Hid (Rd w0 R ca len cap wd13) := RD_t12.out.grow hb13
            have GR_t13 : Hid (w.grownBy wd13 (some R)) := GR_t12.out.trans (grown_of_below hb13 _)
            have HA_t13 : Hid (Lies wd13 pb10 [.int .i64 0, .int .i64 0, .int .i64 0, .int .i64 0, .slice none 0 0, .slice none 0 0, .slice none 0 0, .slice none 0 0]) := HA_t12.out.belowS hb13
            have O1_t13 : Hid (Owns 2 wd13 wq.heap.size g1 L gc1 z1) := q1.mono hS12.size
            have O2_t13 : Hid (Owns 2 wd13 wq.heap.size g2 L gc2 z2) := q2.mono hS12.size
            have O3_t13 : Hid (Owns 2 wd13 wq.heap.size g3 L gc3 z3) := q3.mono hS12.size
            have O4_t13 : Hid (Owns 2 wd13 wq.heap.size g4 L gc4 z4) := q4.mono hS12.size
            have FA_t13 : Hid (far g1 g2 ∧ far g1 g3 ∧ far g1 g4 ∧ far g2 g3 ∧ far g2 g4 ∧ far g3 g4) := hfar
            have LL_t13 : Hid (L ≤ 64) := hL
            have NE1_t13 : Hid (∀ q, g1 = some q → q.block ≠ pb10) := fun q hq => Nat.ne_of_gt (Nat.lt_of_lt_of_le HA_t12.out.2.2 (q1.lo q hq))
            have NE2_t13 : Hid (∀ q, g2 = some q → q.block ≠ pb10) := fun q hq => Nat.ne_of_gt (Nat.lt_of_lt_of_le HA_t12.out.2.2 (q2.lo q hq))
            have NE3_t13 : Hid (∀ q, g3 = some q → q.block ≠ pb10) := fun q hq => Nat.ne_of_gt (Nat.lt_of_lt_of_le HA_t12.out.2.2 (q3.lo q hq))
            have NE4_t13 : Hid (∀ q, g4 = some q → q.block ≠ pb10) := fun q hq => Nat.ne_of_gt (Nat.lt_of_lt_of_le HA_t12.out.2.2 (q4.lo q hq))
            clear q1 q2 q3 q4 hfar hL
            refine hK.out _ _ hS13 (fun _ => ?_)
            clear hK Kk hb13 HM_t12 HZ_t12 RD_t12 GR_t12 HA_t12
            try simp only [Act.put]
            refine wpAnyH_take (i := 8) (v := .tuple #[.agg #[.int .i64 p1, .int .i64 p2, .int .i64 p3, .int .i64 p4, .slice g1 L gc1, .slice g2 L gc2, .slice g3 L gc3, .slice g4 L gc4], .bool o]) rfl (by kernel_rfl) (by kernel_rfl) (by kernel_rfl) (fun _ _ _ h => h) (Or.inl ⟨by kernel_rfl, ?_⟩) (by assumption) ?_
            · intro wq hSq; go_simp
            try simp only [Act.put]
            refine wpAnyH_take (i := 9) (v := .agg #[.int .i64 p1, .int .i64 p2, .int .i64 p3, .int .i64 p4, .slice g1 L gc1, .slice g2 L gc2, .slice g3 L gc3, .slice g4 L gc4]) rfl (by kernel_rfl) (by kernel_rfl) (by kernel_rfl) (fun _ _ _ h => h) (Or.inl ⟨by kernel_rfl, ?_⟩) (by assumption) ?_
            · intro wq hSq; go_simp
            try simp only [Act.put]
            refine wpAnyH_take (i := 10) (v := .bool o) rfl (by kernel_rfl) (by kernel_rfl) (by kernel_rfl) (fun _ _ _ h => h) (Or.inl ⟨by kernel_rfl, ?_⟩) (by assumption) ?_
            · intro wq hSq; go_simp
            try simp only [Act.put]
            refine wpAnyH_ready (rs := [12]) (by kernel_rfl) (by simp) ?_
            refine AllReadyH.cons rfl (fun Kk hK => ?_) AllReadyH.nil
            rw [if_pos (by kernel_rfl)]
            with_reducible refine wp_store_mid 34 (.tmp 5) (.tmp 19) ?_ pb10 0 ([.int .i64 p1, .int .i64 p2, .int .i64 p3, .int .i64 p4, .slice g1 L gc1, .slice g2 L gc2, .slice g3 L gc3, .slice g4 L gc4]).toArray ?_ ?_ ?_ (by kernel_rfl) (by kernel_rfl) ?_
            · exact rfl
            · exact rfl
            · exact rfl
            · exact HA_t13.out.there 0 8 (by simp)
            have hPB := PB_t10.out
            obtain ⟨kM, kZ, kW, kR, kw, kS⟩ := HPBL.out _ hPB
            have hSz : wq.grownBy (wd13.setCells pb10 0 [.int .i64 p1, .int .i64 p2, .int .i64 p3, .int .i64 p4, .slice g1 L gc1, .slice g2 L gc2, .slice g3 L gc3, .slice g4 L gc4]) (some R) := grown_far hS13 hPB 0 _
            have HP_z : Hid (Lies (wd13.setCells pb10 0 [.int .i64 p1, .int .i64 p2, .int .i64 p3, .int .i64 p4, .slice g1 L gc1, .slice g2 L gc2, .slice g3 L gc3, .slice g4 L gc4]) pb10 [.int .i64 p1, .int .i64 p2, .int .i64 p3, .int .i64 p4, .slice g1 L gc1, .slice g2 L gc2, .slice g3 L gc3, .slice g4 L gc4]) := HA_t13.out.setCells [.int .i64 p1, .int .i64 p2, .int .i64 p3, .int .i64 p4, .slice g1 L gc1, .slice g2 L gc2, .slice g3 L gc3, .slice g4 L gc4] 0 (by simp)
            have HM_z : Hid (Lies (wd13.setCells pb10 0 [.int .i64 p1, .int .i64 p2, .int .i64 p3, .int .i64 p4, .slice g1 L gc1, .slice g2 L gc2, .slice g3 L gc3, .slice g4 L gc4]) w.heap.size [.int .i64 a, .int .i64 b, .int .i64 c, .int .i64 d, .int .i64 f, .int .i64 k, .int .i64 a', .int .i64 b', .int .i64 c', .int .i64 d', .int .i64 f', .int .i64 k']) := Lies.farCells _ 0 HM_t13.out kM
            have HZ_z : Hid (Lies (wd13.setCells pb10 0 [.int .i64 p1, .int .i64 p2, .int .i64 p3, .int .i64 p4, .slice g1 L gc1, .slice g2 L gc2, .slice g3 L gc3, .slice g4 L gc4]) (w.heap.size + 1) [.int .i64 0, .int .i64 0, .int .i64 0, .int .i64 0, .slice none 0 0, .slice none 0 0, .slice none 0 0, .slice none 0 0]) := Lies.farCells _ 0 HZ_t13.out kZ
            have RD_z : Hid (Rd w0 R ca len cap (wd13.setCells pb10 0 [.int .i64 p1, .int .i64 p2, .int .i64 p3, .int .i64 p4, .slice g1 L gc1, .slice g2 L gc2, .slice g3 L gc3, .slice g4 L gc4])) := RD_t13.out.cells kW kR _
            have GR_z : Hid (w.grownBy (wd13.setCells pb10 0 [.int .i64 p1, .int .i64 p2, .int .i64 p3, .int .i64 p4, .slice g1 L gc1, .slice g2 L gc2, .slice g3 L gc3, .slice g4 L gc4]) (some R)) := grown_far GR_t13.out kw 0 _
            have O1_z : Hid (Owns 2 (wd13.setCells pb10 0 [.int .i64 p1, .int .i64 p2, .int .i64 p3, .int .i64 p4, .slice g1 L gc1, .slice g2 L gc2, .slice g3 L gc3, .slice g4 L gc4]) wq.heap.size g1 L gc1 z1) := O1_t13.out.grownR (grown_cells (World.grownBy.refl _ _) 0 _) (fun q hq e => NE1_t13.out q hq (Option.some.inj e).symm)
            have O2_z : Hid (Owns 2 (wd13.setCells pb10 0 [.int .i64 p1, .int .i64 p2, .int .i64 p3, .int .i64 p4, .slice g1 L gc1, .slice g2 L gc2, .slice g3 L gc3, .slice g4 L gc4]) wq.heap.size g2 L gc2 z2) := O2_t13.out.grownR (grown_cells (World.grownBy.refl _ _) 0 _) (fun q hq e => NE2_t13.out q hq (Option.some.inj e).symm)
            have O3_z : Hid (Owns 2 (wd13.setCells pb10 0 [.int .i64 p1, .int .i64 p2, .int .i64 p3, .int .i64 p4, .slice g1 L gc1, .slice g2 L gc2, .slice g3 L gc3, .slice g4 L gc4]) wq.heap.size g3 L gc3 z3) := O3_t13.out.grownR (grown_cells (World.grownBy.refl _ _) 0 _) (fun q hq e => NE3_t13.out q hq (Option.some.inj e).symm)
            have O4_z : Hid (Owns 2 (wd13.setCells pb10 0 [.int .i64 p1, .int .i64 p2, .int .i64 p3, .int .i64 p4, .slice g1 L gc1, .slice g2 L gc2, .slice g3 L gc3, .slice g4 L gc4]) wq.heap.size g4 L gc4 z4) := O4_t13.out.grownR (grown_cells (World.grownBy.refl _ _) 0 _) (fun q hq e => NE4_t13.out q hq (Option.some.inj e).symm)
            refine hK.out _ _ hSz (fun hSzz => ?_)
            clear hK Kk hSzz
            generalize (wd13.setCells pb10 0 [.int .i64 p1, .int .i64 p2, .int .i64 p3, .int .i64 p4, .slice g1 L gc1, .slice g2 L gc2, .slice g3 L gc3, .slice g4 L gc4]) = wz at hSz HP_z HM_z HZ_z RD_z GR_z O1_z O2_z O3_z O4_z ⊢
            try simp only [Act.put]
            refine wpAnyH_take (i := 13) (v := .bool o) rfl (by kernel_rfl) (by kernel_rfl) (by kernel_rfl) (fun _ _ _ h => h) (Or.inl ⟨by kernel_rfl, ?_⟩) (by assumption) ?_
            · intro wq hSq; go_simp
            try simp only [Act.put]
            refine wpAnyH_done (by kernel_rfl) ?_ _
            refine NoPanic.normal ?_
            go_simp
            clear hSz hPB kM kZ kW kR kw kS
            have J_HM : Hid _ := HM_z.out
            have J_HZ : Hid _ := HZ_z.out
            have J_RD : Hid _ := RD_z.out
            have J_GR : Hid _ := GR_z.out
            have J_O1 : Hid _ := O1_z.out
            have J_O2 : Hid _ := O2_z.out
            have J_O3 : Hid _ := O3_z.out
            have J_O4 : Hid _ := O4_z.out
            have J_FA : Hid _ := FA_t13.out
            have J_LL : Hid _ := LL_t13.out
            have J_PB : Hid _ := PB_t10.out
            have J_NE1 : Hid _ := NE1_t13.out
            have J_NE2 : Hid _ := NE2_t13.out
            have J_NE3 : Hid _ := NE3_t13.out
            have J_NE4 : Hid _ := NE4_t13.out
            have J_HP : Hid _ := HP_z.out
            clear HM_z HZ_z RD_z GR_z O1_z O2_z O3_z O4_z HP_z HM_t13 HZ_t13 RD_t13 GR_t13 HA_t13 PB_t10 O1_t13 O2_t13 O3_t13 O4_t13 FA_t13 LL_t13 NE1_t13 NE2_t13 NE3_t13 NE4_t13
            generalize pb10 = pb at J_PB J_NE1 J_NE2 J_NE3 J_NE4 J_HP ⊢
            revert J_HP J_NE4 J_NE3 J_NE2 J_NE1 J_PB J_LL J_FA J_O4 J_O3 J_O2 J_O1 J_GR J_RD J_HZ J_HM
            revert wz
            revert pb
            revert gc4
            revert g4
            revert z4
            revert gc3
            revert g3
            revert z3
            revert gc2
            revert g2
            revert z2
            revert gc1
            revert g1
            revert z1
            revert o
            revert L
            revert p4
            revert p3
            revert p2
            revert p1
            clear v0 v1
            revert v
            revert y
            revert x
            exact key
  case h =>
    intro x y v p1 p2 p3 p4 L o z1 g1 gc1 z2 g2 gc2 z3 g3 gc3 z4 g4 gc4 pb wz J_HM J_HZ J_RD J_GR J_O1 J_O2 J_O3 J_O4 J_FA J_LL J_PB J_NE1 J_NE2 J_NE3 J_NE4 J_HP
    have HM_0 : Hid (Lies wz w.heap.size [.int .i64 a, .int .i64 b, .int .i64 c, .int .i64 d, .int .i64 f, .int .i64 k, .int .i64 a', .int .i64 b', .int .i64 c', .int .i64 d', .int .i64 f', .int .i64 k']) := J_HM.out
    have HZ_0 : Hid (Lies wz (w.heap.size + 1) [.int .i64 0, .int .i64 0, .int .i64 0, .int .i64 0, .slice none 0 0, .slice none 0 0, .slice none 0 0, .slice none 0 0]) := J_HZ.out
    have RD_0 : Hid (Rd w0 R ca len cap wz) := J_RD.out
    have GR_0 : Hid (w.grownBy wz (some R)) := J_GR.out
    have O1_0 : Hid (Owns 2 wz wq.heap.size g1 L gc1 z1) := J_O1.out
    have O2_0 : Hid (Owns 2 wz wq.heap.size g2 L gc2 z2) := J_O2.out
    have O3_0 : Hid (Owns 2 wz wq.heap.size g3 L gc3 z3) := J_O3.out
    have O4_0 : Hid (Owns 2 wz wq.heap.size g4 L gc4 z4) := J_O4.out
    have HP_0 : Hid (Lies wz pb [.int .i64 p1, .int .i64 p2, .int .i64 p3, .int .i64 p4, .slice g1 L gc1, .slice g2 L gc2, .slice g3 L gc3, .slice g4 L gc4]) := J_HP.out
    have LOO1 : Hid (∀ q, g1 = some q → wq.heap.size ≤ q.block) := O1_0.out.lo
    have LOO2 : Hid (∀ q, g2 = some q → wq.heap.size ≤ q.block) := O2_0.out.lo
    have LOO3 : Hid (∀ q, g3 = some q → wq.heap.size ≤ q.block) := O3_0.out.lo
    have LOO4 : Hid (∀ q, g4 = some q → wq.heap.size ≤ q.block) := O4_0.out.lo
    have kPB := J_PB.out
    obtain ⟨kM, kZ, kW, kR, kw, kS⟩ := HPBL.out _ kPB
    have HN64 : L ≤ 64 := J_LL.out
    clear J_HM J_HZ J_RD J_GR J_O1 J_O2 J_O3 J_O4 J_HP J_LL J_PB
    go_wp2_with fail
    refine (below_any HRow.out 10 (by decide) (by decide) _ RD_0.out).mono ?_
    rintro e w2 ⟨v2, u0, u1, rfl, hr, hg⟩
    have HM_1 : Hid (Lies w2 w.heap.size [.int .i64 a, .int .i64 b, .int .i64 c, .int .i64 d, .int .i64 f, .int .i64 k, .int .i64 a', .int .i64 b', .int .i64 c', .int .i64 d', .int .i64 f', .int .i64 k']) := HM_0.out.grown hg HNm
    have HZ_1 : Hid (Lies w2 (w.heap.size + 1) [.int .i64 0, .int .i64 0, .int .i64 0, .int .i64 0, .slice none 0 0, .slice none 0 0, .slice none 0 0, .slice none 0 0]) := HZ_0.out.grown hg HNz
    have RD_1 : Hid (Rd w0 R ca len cap w2) := hr
    have GR_1 : Hid (w.grownBy w2 (some R)) := GR_0.out.trans hg
    have O1_1 : Hid (Owns 2 w2 wq.heap.size g1 L gc1 z1) := O1_0.out.grownR hg (fun q hq e => by have := LOO1.out q hq; injection e with e; omega)
    have O2_1 : Hid (Owns 2 w2 wq.heap.size g2 L gc2 z2) := O2_0.out.grownR hg (fun q hq e => by have := LOO2.out q hq; injection e with e; omega)
    have O3_1 : Hid (Owns 2 w2 wq.heap.size g3 L gc3 z3) := O3_0.out.grownR hg (fun q hq e => by have := LOO3.out q hq; injection e with e; omega)
    have O4_1 : Hid (Owns 2 w2 wq.heap.size g4 L gc4 z4) := O4_0.out.grownR hg (fun q hq e => by have := LOO4.out q hq; injection e with e; omega)
    have HP_1 : Hid (Lies w2 pb [.int .i64 p1, .int .i64 p2, .int .i64 p3, .int .i64 p4, .slice g1 L gc1, .slice g2 L gc2, .slice g3 L gc3, .slice g4 L gc4]) := HP_0.out.grown hg kS
    clear HM_0 HZ_0 RD_0 GR_0 O1_0 O2_0 O3_0 O4_0 HP_0
    clear hg hr
    have NZ1 : ∀ q, g1 = some q → q.block ≠ w.heap.size + 1 := fun q hq => by have := LOO1.out q hq; omega
    have LW1 : ∀ q, g1 = some q → w.heap.size ≤ q.block := fun q hq => by have := LOO1.out q hq; omega
    have NP1 : ∀ q, g1 = some q → q.block ≠ pb := J_NE1.out
    have NZ2 : ∀ q, g2 = some q → q.block ≠ w.heap.size + 1 := fun q hq => by have := LOO2.out q hq; omega
    have LW2 : ∀ q, g2 = some q → w.heap.size ≤ q.block := fun q hq => by have := LOO2.out q hq; omega
    have NP2 : ∀ q, g2 = some q → q.block ≠ pb := J_NE2.out
    have NZ3 : ∀ q, g3 = some q → q.block ≠ w.heap.size + 1 := fun q hq => by have := LOO3.out q hq; omega
    have LW3 : ∀ q, g3 = some q → w.heap.size ≤ q.block := fun q hq => by have := LOO3.out q hq; omega
    have NP3 : ∀ q, g3 = some q → q.block ≠ pb := J_NE3.out
    have NZ4 : ∀ q, g4 = some q → q.block ≠ w.heap.size + 1 := fun q hq => by have := LOO4.out q hq; omega
    have LW4 : ∀ q, g4 = some q → w.heap.size ≤ q.block := fun q hq => by have := LOO4.out q hq; omega
    have NP4 : ∀ q, g4 = some q → q.block ≠ pb := J_NE4.out
    clear u0 u1
    obtain ⟨F12, F13, F14, F23, F24, F34⟩ := J_FA.out
    by_cases h5 : v2 = 5
    · subst h5
      by_cases hL0 : L = 0
      · have hLi : ¬ (0 : Int) < (L : Int) := by omega
        clear hL0
        have c0 : w2.cell? ⟨pb, 0, none⟩ = some (.int .i64 p1) := HP_1.out.at 0
        have c1 : w2.cell? ⟨pb, 1, none⟩ = some (.int .i64 p2) := HP_1.out.at 1
        have c2 : w2.cell? ⟨pb, 2, none⟩ = some (.int .i64 p3) := HP_1.out.at 2
        have c3 : w2.cell? ⟨pb, 3, none⟩ = some (.int .i64 p4) := HP_1.out.at 3
        have c4 : w2.cell? ⟨pb, 4, none⟩ = some (.slice g1 L gc1) := HP_1.out.at 4
        have c5 : w2.cell? ⟨pb, 5, none⟩ = some (.slice g2 L gc2) := HP_1.out.at 5
        have c6 : w2.cell? ⟨pb, 6, none⟩ = some (.slice g3 L gc3) := HP_1.out.at 6
        have c7 : w2.cell? ⟨pb, 7, none⟩ = some (.slice g4 L gc4) := HP_1.out.at 7
        have y0 : w2.cell? ⟨w.heap.size + 1, 0, none⟩ = some (.int .i64 0) := HZ_1.out.at 0
        have y1 : w2.cell? ⟨w.heap.size + 1, 1, none⟩ = some (.int .i64 0) := HZ_1.out.at 1
        have y2 : w2.cell? ⟨w.heap.size + 1, 2, none⟩ = some (.int .i64 0) := HZ_1.out.at 2
        have y3 : w2.cell? ⟨w.heap.size + 1, 3, none⟩ = some (.int .i64 0) := HZ_1.out.at 3
        have y4 : w2.cell? ⟨w.heap.size + 1, 4, none⟩ = some (.slice none 0 0) := HZ_1.out.at 4
        have y5 : w2.cell? ⟨w.heap.size + 1, 5, none⟩ = some (.slice none 0 0) := HZ_1.out.at 5
        have y6 : w2.cell? ⟨w.heap.size + 1, 6, none⟩ = some (.slice none 0 0) := HZ_1.out.at 6
        have y7 : w2.cell? ⟨w.heap.size + 1, 7, none⟩ = some (.slice none 0 0) := HZ_1.out.at 7
        have f0 : w2.frozen? ⟨w.heap.size + 1, 0, none⟩ = false := HZ_1.out.fr 0
        have f1 : w2.frozen? ⟨w.heap.size + 1, 1, none⟩ = false := HZ_1.out.fr 1
        have f2 : w2.frozen? ⟨w.heap.size + 1, 2, none⟩ = false := HZ_1.out.fr 2
        have f3 : w2.frozen? ⟨w.heap.size + 1, 3, none⟩ = false := HZ_1.out.fr 3
        have f4 : w2.frozen? ⟨w.heap.size + 1, 4, none⟩ = false := HZ_1.out.fr 4
        have f5 : w2.frozen? ⟨w.heap.size + 1, 5, none⟩ = false := HZ_1.out.fr 5
        have f6 : w2.frozen? ⟨w.heap.size + 1, 6, none⟩ = false := HZ_1.out.fr 6
        have f7 : w2.frozen? ⟨w.heap.size + 1, 7, none⟩ = false := HZ_1.out.fr 7
        have r0 : w2.frozen? ⟨pb, 0, none⟩ = false := HP_1.out.fr 0
        have r1 : w2.frozen? ⟨pb, 1, none⟩ = false := HP_1.out.fr 1
        have r2 : w2.frozen? ⟨pb, 2, none⟩ = false := HP_1.out.fr 2
        have r3 : w2.frozen? ⟨pb, 3, none⟩ = false := HP_1.out.fr 3
        have r4 : w2.frozen? ⟨pb, 4, none⟩ = false := HP_1.out.fr 4
        have r5 : w2.frozen? ⟨pb, 5, none⟩ = false := HP_1.out.fr 5
        have r6 : w2.frozen? ⟨pb, 6, none⟩ = false := HP_1.out.fr 6
        have r7 : w2.frozen? ⟨pb, 7, none⟩ = false := HP_1.out.fr 7
        go_wp2
        refine bodyPost_ret (v := .agg #[.int .i64 p1, .int .i64 p2, .int .i64 p3, .int .i64 p4, .slice g1 L gc1, .slice g2 L gc2, .slice g3 L gc3, .slice g4 L gc4]) (by simp [results, Tryz.results55, go_sem, y0, y1, y2, y3, y4, y5, y6, y7]) rfl ⟨_, _, _, _, _, _, _, z1, _, _, _, z2, _, _, _, z3, _, _, _, z4, ⟨rfl, ?_, ?_, ?_, ?_, ⟨by omega, by omega, by omega, by omega⟩, ⟨LW1, LW2, LW3, LW4⟩, ?_, ?_⟩⟩
        · exact (Sees.setS ((Sees.setS ((Sees.setS ((Sees.setS ((Sees.setS ((Sees.setS ((Sees.setS ((Sees.setS (O1_1.out.sees) NZ1)) NZ1)) NZ1)) NZ1)) NZ1)) NZ1)) NZ1)) NZ1)
        · exact (Sees.setS ((Sees.setS ((Sees.setS ((Sees.setS ((Sees.setS ((Sees.setS ((Sees.setS ((Sees.setS (O2_1.out.sees) NZ2)) NZ2)) NZ2)) NZ2)) NZ2)) NZ2)) NZ2)) NZ2)
        · exact (Sees.setS ((Sees.setS ((Sees.setS ((Sees.setS ((Sees.setS ((Sees.setS ((Sees.setS ((Sees.setS (O3_1.out.sees) NZ3)) NZ3)) NZ3)) NZ3)) NZ3)) NZ3)) NZ3)) NZ3)
        · exact (Sees.setS ((Sees.setS ((Sees.setS ((Sees.setS ((Sees.setS ((Sees.setS ((Sees.setS ((Sees.setS (O4_1.out.sees) NZ4)) NZ4)) NZ4)) NZ4)) NZ4)) NZ4)) NZ4)) NZ4)
        · exact (Rd.setS ((Rd.setS ((Rd.setS ((Rd.setS ((Rd.setS ((Rd.setS ((Rd.setS ((Rd.setS (RD_1.out) (by omega) (by omega))) (by omega) (by omega))) (by omega) (by omega))) (by omega) (by omega))) (by omega) (by omega))) (by omega) (by omega))) (by omega) (by omega))) (by omega) (by omega))
        · exact (grown_farS ((grown_farS ((grown_farS ((grown_farS ((grown_farS ((grown_farS ((grown_farS ((grown_farS (GR_1.out) (by omega))) (by omega))) (by omega))) (by omega))) (by omega))) (by omega))) (by omega))) (by omega))
      have hLi : (0 : Int) < (L : Int) := by omega
      have hLb : (L : Int) ≤ 64 := by omega
      obtain ⟨gq, hgq, hqlo, _, _, _⟩ := O1_1.out.block (by omega)
      subst hgq
      have c4 : w2.cell? ⟨pb, 4, none⟩ = some (.slice (some ⟨gq, 0, none⟩) L gc1) := HP_1.out.at 4
      go_wp2_with fail
      clear c4
      have hbd : Below w2.heap.size w2 w2.drew := (Below.refl _ _).drew
      have HM_r0 : Hid (Lies w2.drew w.heap.size [.int .i64 a, .int .i64 b, .int .i64 c, .int .i64 d, .int .i64 f, .int .i64 k, .int .i64 a', .int .i64 b', .int .i64 c', .int .i64 d', .int .i64 f', .int .i64 k']) := HM_1.out.belowS hbd
      have HZ_r0 : Hid (Lies w2.drew (w.heap.size + 1) [.int .i64 0, .int .i64 0, .int .i64 0, .int .i64 0, .slice none 0 0, .slice none 0 0, .slice none 0 0, .slice none 0 0]) := HZ_1.out.belowS hbd
      have RD_r0 : Hid (Rd w0 R ca len cap w2.drew) := RD_1.out.grow hbd
      have GR_r0 : Hid (w.grownBy w2.drew (some R)) := GR_1.out.trans (grown_of_below hbd _)
      have O1_r0 : Hid (Owns 2 w2.drew wq.heap.size (some ⟨gq, 0, none⟩) L gc1 z1) := O1_1.out.below hbd
      have O2_r0 : Hid (Owns 2 w2.drew wq.heap.size g2 L gc2 z2) := O2_1.out.below hbd
      have O3_r0 : Hid (Owns 2 w2.drew wq.heap.size g3 L gc3 z3) := O3_1.out.below hbd
      have O4_r0 : Hid (Owns 2 w2.drew wq.heap.size g4 L gc4 z4) := O4_1.out.below hbd
      have HP_r0 : Hid (Lies w2.drew pb [.int .i64 p1, .int .i64 p2, .int .i64 p3, .int .i64 p4, .slice (some ⟨gq, 0, none⟩) L gc1, .slice g2 L gc2, .slice g3 L gc3, .slice g4 L gc4]) := HP_1.out.belowS hbd
      clear hbd HM_1 HZ_1 RD_1 GR_1 O1_1 O2_1 O3_1 O4_1 HP_1
      refine wp_region_noPanic ?_
      refine wp_region_held_drew (S := fun W => w.grownBy W (some R) ∧ W.cell? ⟨pb, 4, none⟩ = some (.slice (some ⟨gq, 0, none⟩) L gc1)) (by kernel_rfl) (⟨GR_r0.out, HP_r0.out.at 4⟩) (fun hHeld => ?_)
      generalize w2.drew = wd0 at hHeld HM_r0 HZ_r0 RD_r0 GR_r0 O1_r0 O2_r0 O3_r0 O4_r0 HP_r0 ⊢
      refine wpAnyH_take (i := 0) (v := .pointer (some ⟨pb, 4, none⟩)) rfl (by kernel_rfl) (by kernel_rfl) (by kernel_rfl) (fun _ _ _ h => h) (Or.inl ⟨by kernel_rfl, ?_⟩) (by assumption) ?_
      · intro wq hSq; go_simp
      try simp only [Act.put]
      refine wpAnyH_take (i := 1) (v := .slice (some ⟨gq, 0, none⟩) L gc1) rfl (by kernel_rfl) (by kernel_rfl) (by kernel_rfl) (fun _ _ _ h => h) (Or.inl ⟨by kernel_rfl, ?_⟩) (by assumption) ?_
      · intro wp hSp; have c0 := hSp.2; go_simp
      try simp only [Act.put]
      refine wpAnyH_take (i := 2) (v := .pointer (some ⟨R, 0, none⟩)) rfl (by kernel_rfl) (by kernel_rfl) (by kernel_rfl) (fun _ _ _ h => h) (Or.inl ⟨by kernel_rfl, ?_⟩) (by assumption) ?_
      · intro wq hSq; go_simp
      try simp only [Act.put]
      refine wpAnyH_take (i := 3) (v := .pointer (some ⟨pb, 4, none⟩)) rfl (by kernel_rfl) (by kernel_rfl) (by kernel_rfl) (fun _ _ _ h => h) (Or.inl ⟨by kernel_rfl, ?_⟩) (by assumption) ?_
      · intro wq hSq; go_simp
      try simp only [Act.put]
      refine wpAnyH_take (i := 4) (v := .slice (some ⟨gq, 0, none⟩) L gc1) rfl (by kernel_rfl) (by kernel_rfl) (by kernel_rfl) (fun _ _ _ h => h) (Or.inl ⟨by kernel_rfl, ?_⟩) (by assumption) ?_
      · intro wp hSp; have c0 := hSp.2; go_simp
      try simp only [Act.put]
      refine wpAnyH_take (i := 5) (v := .int .i64 (L : Int)) rfl (by kernel_rfl) (by kernel_rfl) (by kernel_rfl) (fun _ _ _ h => h) (Or.inl ⟨by kernel_rfl, ?_⟩) (by assumption) ?_
      · intro wq hSq; go_simp
      try simp only [Act.put]
      refine wpAnyH_take (i := 7) (v := .pointer (some ⟨R, 0, none⟩)) rfl (by kernel_rfl) (by kernel_rfl) (by kernel_rfl) (fun _ _ _ h => h) (Or.inl ⟨by kernel_rfl, ?_⟩) (by assumption) ?_
      · intro wq hSq; go_simp
      try simp only [Act.put]
      refine wpAnyH_ready (rs := [6]) (by kernel_rfl) (by simp) ?_
      refine AllReadyH.cons rfl (fun Kk hK => ?_) AllReadyH.nil
      go_simp
      refine (below_any HRow.out (L : Int) (by omega) (by omega) _ RD_r0.out).mono ?_
      rintro e wd1 ⟨v3, t0, t1, rfl, hr1, hg1⟩
      go_simp
      have HM_r1 : Hid (Lies wd1 w.heap.size [.int .i64 a, .int .i64 b, .int .i64 c, .int .i64 d, .int .i64 f, .int .i64 k, .int .i64 a', .int .i64 b', .int .i64 c', .int .i64 d', .int .i64 f', .int .i64 k']) := HM_r0.out.grown hg1 HNm
      have HZ_r1 : Hid (Lies wd1 (w.heap.size + 1) [.int .i64 0, .int .i64 0, .int .i64 0, .int .i64 0, .slice none 0 0, .slice none 0 0, .slice none 0 0, .slice none 0 0]) := HZ_r0.out.grown hg1 HNz
      have RD_r1 : Hid (Rd w0 R ca len cap wd1) := hr1
      have GR_r1 : Hid (w.grownBy wd1 (some R)) := GR_r0.out.trans hg1
      have O1_r1 : Hid (Owns 2 wd1 wq.heap.size (some ⟨gq, 0, none⟩) L gc1 z1) := O1_r0.out.grownR hg1 (fun q hq e => by have := LOO1.out q hq; injection e with e; omega)
      have O2_r1 : Hid (Owns 2 wd1 wq.heap.size g2 L gc2 z2) := O2_r0.out.grownR hg1 (fun q hq e => by have := LOO2.out q hq; injection e with e; omega)
      have O3_r1 : Hid (Owns 2 wd1 wq.heap.size g3 L gc3 z3) := O3_r0.out.grownR hg1 (fun q hq e => by have := LOO3.out q hq; injection e with e; omega)
      have O4_r1 : Hid (Owns 2 wd1 wq.heap.size g4 L gc4 z4) := O4_r0.out.grownR hg1 (fun q hq e => by have := LOO4.out q hq; injection e with e; omega)
      have HP_r1 : Hid (Lies wd1 pb [.int .i64 p1, .int .i64 p2, .int .i64 p3, .int .i64 p4, .slice (some ⟨gq, 0, none⟩) L gc1, .slice g2 L gc2, .slice g3 L gc3, .slice g4 L gc4]) := HP_r0.out.grown hg1 kS
      have hS1 : w.grownBy wd1 (some R) ∧ wd1.cell? ⟨pb, 4, none⟩ = some (.slice (some ⟨gq, 0, none⟩) L gc1) := ⟨GR_r1.out, HP_r1.out.at 4⟩
      refine hK.out _ _ hS1 (fun _ => ?_)
      clear hK Kk hg1 HM_r0 HZ_r0 RD_r0 GR_r0 O1_r0 O2_r0 O3_r0 O4_r0 HP_r0 hr1
      try simp only [Act.put]
      refine wpAnyH_ready (rs := [8]) (by kernel_rfl) (by simp) ?_
      refine AllReadyH.cons rfl (fun Kk hK => ?_) AllReadyH.nil
      go_simp
      refine (elem_any HRow.out _ RD_r1.out).mono ?_
      rintro e wd2 ⟨ev, ev0, ev1, rfl, hr2, hg2⟩
      go_simp
      have HM_r2 : Hid (Lies wd2 w.heap.size [.int .i64 a, .int .i64 b, .int .i64 c, .int .i64 d, .int .i64 f, .int .i64 k, .int .i64 a', .int .i64 b', .int .i64 c', .int .i64 d', .int .i64 f', .int .i64 k']) := HM_r1.out.grown hg2 HNm
      have HZ_r2 : Hid (Lies wd2 (w.heap.size + 1) [.int .i64 0, .int .i64 0, .int .i64 0, .int .i64 0, .slice none 0 0, .slice none 0 0, .slice none 0 0, .slice none 0 0]) := HZ_r1.out.grown hg2 HNz
      have RD_r2 : Hid (Rd w0 R ca len cap wd2) := hr2
      have GR_r2 : Hid (w.grownBy wd2 (some R)) := GR_r1.out.trans hg2
      have O1_r2 : Hid (Owns 2 wd2 wq.heap.size (some ⟨gq, 0, none⟩) L gc1 z1) := O1_r1.out.grownR hg2 (fun q hq e => by have := LOO1.out q hq; injection e with e; omega)
      have O2_r2 : Hid (Owns 2 wd2 wq.heap.size g2 L gc2 z2) := O2_r1.out.grownR hg2 (fun q hq e => by have := LOO2.out q hq; injection e with e; omega)
      have O3_r2 : Hid (Owns 2 wd2 wq.heap.size g3 L gc3 z3) := O3_r1.out.grownR hg2 (fun q hq e => by have := LOO3.out q hq; injection e with e; omega)
      have O4_r2 : Hid (Owns 2 wd2 wq.heap.size g4 L gc4 z4) := O4_r1.out.grownR hg2 (fun q hq e => by have := LOO4.out q hq; injection e with e; omega)
      have HP_r2 : Hid (Lies wd2 pb [.int .i64 p1, .int .i64 p2, .int .i64 p3, .int .i64 p4, .slice (some ⟨gq, 0, none⟩) L gc1, .slice g2 L gc2, .slice g3 L gc3, .slice g4 L gc4]) := HP_r1.out.grown hg2 kS
      have hS2 : w.grownBy wd2 (some R) ∧ wd2.cell? ⟨pb, 4, none⟩ = some (.slice (some ⟨gq, 0, none⟩) L gc1) := ⟨GR_r2.out, HP_r2.out.at 4⟩
      refine hK.out _ _ hS2 (fun _ => ?_)
      clear hK Kk hg2 HM_r1 HZ_r1 RD_r1 GR_r1 O1_r1 O2_r1 O3_r1 O4_r1 HP_r1 hr2
      try simp only [Act.put]
      have hvn : v3.toNat < L := by omega
      refine wpAnyH_take (i := 9) (v := .pointer (some ⟨gq, v3.toNat, none⟩)) rfl (by kernel_rfl) (by kernel_rfl) (by kernel_rfl) (fun _ _ _ h => h) (Or.inl ⟨by kernel_rfl, ?_⟩) (by assumption) ?_
      · intro wq hSq; go_simp
      try simp only [Act.put]
      obtain ⟨gq2, hgq2, _, _, hcl, hfr⟩ := O1_r2.out.block (by omega)
      have hgg : gq = gq2 := by simpa using hgq2
      subst hgg
      have cc := hcl v3.toNat hvn
      have ff := hfr v3.toNat
      clear hcl hfr hgq2
      refine wpAnyH_ready (rs := [10]) (by kernel_rfl) (by simp) ?_
      refine AllReadyH.cons rfl (fun Kk hK => ?_) AllReadyH.nil
      go_simp
      have HM_z : Hid (Lies (wd2.setCell ⟨gq, v3.toNat, none⟩ (.int .i64 ev)) w.heap.size [.int .i64 a, .int .i64 b, .int .i64 c, .int .i64 d, .int .i64 f, .int .i64 k, .int .i64 a', .int .i64 b', .int .i64 c', .int .i64 d', .int .i64 f', .int .i64 k']) := HM_r2.out.far (by omega) _ _
      have HZ_z : Hid (Lies (wd2.setCell ⟨gq, v3.toNat, none⟩ (.int .i64 ev)) (w.heap.size + 1) [.int .i64 0, .int .i64 0, .int .i64 0, .int .i64 0, .slice none 0 0, .slice none 0 0, .slice none 0 0, .slice none 0 0]) := HZ_r2.out.far (by omega) _ _
      have RD_z : Hid (Rd w0 R ca len cap (wd2.setCell ⟨gq, v3.toNat, none⟩ (.int .i64 ev))) := Rd.setS RD_r2.out (by omega) (by omega)
      have GR_z : Hid (w.grownBy (wd2.setCell ⟨gq, v3.toNat, none⟩ (.int .i64 ev)) (some R)) := grown_farS GR_r2.out (by omega)
      have O1_z : Hid (Owns 2 (wd2.setCell ⟨gq, v3.toNat, none⟩ (.int .i64 ev)) wq.heap.size (some ⟨gq, 0, none⟩) L gc1 (z1.set v3.toNat ev)) := O1_r2.out.set v3.toNat ev
      have O2_z : Hid (Owns 2 (wd2.setCell ⟨gq, v3.toNat, none⟩ (.int .i64 ev)) wq.heap.size g2 L gc2 z2) := O2_r2.out.other ⟨gq, v3.toNat, none⟩ (fun q hq => Ne.symm (F12 ⟨gq, 0, none⟩ q rfl hq)) _
      have O3_z : Hid (Owns 2 (wd2.setCell ⟨gq, v3.toNat, none⟩ (.int .i64 ev)) wq.heap.size g3 L gc3 z3) := O3_r2.out.other ⟨gq, v3.toNat, none⟩ (fun q hq => Ne.symm (F13 ⟨gq, 0, none⟩ q rfl hq)) _
      have O4_z : Hid (Owns 2 (wd2.setCell ⟨gq, v3.toNat, none⟩ (.int .i64 ev)) wq.heap.size g4 L gc4 z4) := O4_r2.out.other ⟨gq, v3.toNat, none⟩ (fun q hq => Ne.symm (F14 ⟨gq, 0, none⟩ q rfl hq)) _
      have HP_z : Hid (Lies (wd2.setCell ⟨gq, v3.toNat, none⟩ (.int .i64 ev)) pb [.int .i64 p1, .int .i64 p2, .int .i64 p3, .int .i64 p4, .slice (some ⟨gq, 0, none⟩) L gc1, .slice g2 L gc2, .slice g3 L gc3, .slice g4 L gc4]) := HP_r2.out.far (Ne.symm (NP1 _ rfl)) _ _
      have hSz : w.grownBy (wd2.setCell ⟨gq, v3.toNat, none⟩ (.int .i64 ev)) (some R) ∧ (wd2.setCell ⟨gq, v3.toNat, none⟩ (.int .i64 ev)).cell? ⟨pb, 4, none⟩ = some (.slice (some ⟨gq, 0, none⟩) L gc1) := ⟨GR_z.out, HP_z.out.at 4⟩
      refine hK.out _ _ hSz (fun _ => ?_)
      clear hK Kk cc ff hSz HM_r2 HZ_r2 RD_r2 GR_r2 O1_r2 O2_r2 O3_r2 O4_r2 HP_r2
      generalize (wd2.setCell ⟨gq, v3.toNat, none⟩ (.int .i64 ev)) = wy at HM_z HZ_z RD_z GR_z O1_z O2_z O3_z O4_z HP_z ⊢
      try simp only [Act.put]
      refine wpAnyH_done (by kernel_rfl) ?_ _
      refine NoPanic.normal ?_
      go_simp
      have HM_2 : Hid (Lies wy w.heap.size [.int .i64 a, .int .i64 b, .int .i64 c, .int .i64 d, .int .i64 f, .int .i64 k, .int .i64 a', .int .i64 b', .int .i64 c', .int .i64 d', .int .i64 f', .int .i64 k']) := HM_z.out
      have HZ_2 : Hid (Lies wy (w.heap.size + 1) [.int .i64 0, .int .i64 0, .int .i64 0, .int .i64 0, .slice none 0 0, .slice none 0 0, .slice none 0 0, .slice none 0 0]) := HZ_z.out
      have RD_2 : Hid (Rd w0 R ca len cap wy) := RD_z.out
      have GR_2 : Hid (w.grownBy wy (some R)) := GR_z.out
      have O1_2 : Hid (Owns 2 wy wq.heap.size (some ⟨gq, 0, none⟩) L gc1 (z1.set v3.toNat ev)) := O1_z.out
      have O2_2 : Hid (Owns 2 wy wq.heap.size g2 L gc2 z2) := O2_z.out
      have O3_2 : Hid (Owns 2 wy wq.heap.size g3 L gc3 z3) := O3_z.out
      have O4_2 : Hid (Owns 2 wy wq.heap.size g4 L gc4 z4) := O4_z.out
      have HP_2 : Hid (Lies wy pb [.int .i64 p1, .int .i64 p2, .int .i64 p3, .int .i64 p4, .slice (some ⟨gq, 0, none⟩) L gc1, .slice g2 L gc2, .slice g3 L gc3, .slice g4 L gc4]) := HP_z.out
      clear HM_z HZ_z RD_z GR_z O1_z O2_z O3_z O4_z HP_z
      have c0 : wy.cell? ⟨pb, 0, none⟩ = some (.int .i64 p1) := HP_2.out.at 0
      have c1 : wy.cell? ⟨pb, 1, none⟩ = some (.int .i64 p2) := HP_2.out.at 1
      have c2 : wy.cell? ⟨pb, 2, none⟩ = some (.int .i64 p3) := HP_2.out.at 2
      have c3 : wy.cell? ⟨pb, 3, none⟩ = some (.int .i64 p4) := HP_2.out.at 3
      have c4 : wy.cell? ⟨pb, 4, none⟩ = some (.slice (some ⟨gq, 0, none⟩) L gc1) := HP_2.out.at 4
      have c5 : wy.cell? ⟨pb, 5, none⟩ = some (.slice g2 L gc2) := HP_2.out.at 5
      have c6 : wy.cell? ⟨pb, 6, none⟩ = some (.slice g3 L gc3) := HP_2.out.at 6
      have c7 : wy.cell? ⟨pb, 7, none⟩ = some (.slice g4 L gc4) := HP_2.out.at 7
      have y0 : wy.cell? ⟨w.heap.size + 1, 0, none⟩ = some (.int .i64 0) := HZ_2.out.at 0
      have y1 : wy.cell? ⟨w.heap.size + 1, 1, none⟩ = some (.int .i64 0) := HZ_2.out.at 1
      have y2 : wy.cell? ⟨w.heap.size + 1, 2, none⟩ = some (.int .i64 0) := HZ_2.out.at 2
      have y3 : wy.cell? ⟨w.heap.size + 1, 3, none⟩ = some (.int .i64 0) := HZ_2.out.at 3
      have y4 : wy.cell? ⟨w.heap.size + 1, 4, none⟩ = some (.slice none 0 0) := HZ_2.out.at 4
      have y5 : wy.cell? ⟨w.heap.size + 1, 5, none⟩ = some (.slice none 0 0) := HZ_2.out.at 5
      have y6 : wy.cell? ⟨w.heap.size + 1, 6, none⟩ = some (.slice none 0 0) := HZ_2.out.at 6
      have y7 : wy.cell? ⟨w.heap.size + 1, 7, none⟩ = some (.slice none 0 0) := HZ_2.out.at 7
      have f0 : wy.frozen? ⟨w.heap.size + 1, 0, none⟩ = false := HZ_2.out.fr 0
      have f1 : wy.frozen? ⟨w.heap.size + 1, 1, none⟩ = false := HZ_2.out.fr 1
      have f2 : wy.frozen? ⟨w.heap.size + 1, 2, none⟩ = false := HZ_2.out.fr 2
      have f3 : wy.frozen? ⟨w.heap.size + 1, 3, none⟩ = false := HZ_2.out.fr 3
      have f4 : wy.frozen? ⟨w.heap.size + 1, 4, none⟩ = false := HZ_2.out.fr 4
      have f5 : wy.frozen? ⟨w.heap.size + 1, 5, none⟩ = false := HZ_2.out.fr 5
      have f6 : wy.frozen? ⟨w.heap.size + 1, 6, none⟩ = false := HZ_2.out.fr 6
      have f7 : wy.frozen? ⟨w.heap.size + 1, 7, none⟩ = false := HZ_2.out.fr 7
      go_wp2
      refine bodyPost_ret (v := .agg #[.int .i64 p1, .int .i64 p2, .int .i64 p3, .int .i64 p4, .slice (some ⟨gq, 0, none⟩) L gc1, .slice g2 L gc2, .slice g3 L gc3, .slice g4 L gc4]) (by simp [results, Tryz.results55, go_sem, y0, y1, y2, y3, y4, y5, y6, y7]) rfl ⟨_, _, _, _, _, _, _, (z1.set v3.toNat ev), _, _, _, z2, _, _, _, z3, _, _, _, z4, ⟨rfl, ?_, ?_, ?_, ?_, ⟨by omega, by omega, by omega, by omega⟩, ⟨LW1, LW2, LW3, LW4⟩, ?_, ?_⟩⟩
      · exact (Sees.setS ((Sees.setS ((Sees.setS ((Sees.setS ((Sees.setS ((Sees.setS ((Sees.setS ((Sees.setS (O1_2.out.sees) NZ1)) NZ1)) NZ1)) NZ1)) NZ1)) NZ1)) NZ1)) NZ1)
      · exact (Sees.setS ((Sees.setS ((Sees.setS ((Sees.setS ((Sees.setS ((Sees.setS ((Sees.setS ((Sees.setS (O2_2.out.sees) NZ2)) NZ2)) NZ2)) NZ2)) NZ2)) NZ2)) NZ2)) NZ2)
      · exact (Sees.setS ((Sees.setS ((Sees.setS ((Sees.setS ((Sees.setS ((Sees.setS ((Sees.setS ((Sees.setS (O3_2.out.sees) NZ3)) NZ3)) NZ3)) NZ3)) NZ3)) NZ3)) NZ3)) NZ3)
      · exact (Sees.setS ((Sees.setS ((Sees.setS ((Sees.setS ((Sees.setS ((Sees.setS ((Sees.setS ((Sees.setS (O4_2.out.sees) NZ4)) NZ4)) NZ4)) NZ4)) NZ4)) NZ4)) NZ4)) NZ4)
      · exact (Rd.setS ((Rd.setS ((Rd.setS ((Rd.setS ((Rd.setS ((Rd.setS ((Rd.setS ((Rd.setS (RD_2.out) (by omega) (by omega))) (by omega) (by omega))) (by omega) (by omega))) (by omega) (by omega))) (by omega) (by omega))) (by omega) (by omega))) (by omega) (by omega))) (by omega) (by omega))
      · exact (grown_farS ((grown_farS ((grown_farS ((grown_farS ((grown_farS ((grown_farS ((grown_farS ((grown_farS (GR_2.out) (by omega))) (by omega))) (by omega))) (by omega))) (by omega))) (by omega))) (by omega))) (by omega))
    by_cases h6 : v2 = 6
    · subst h6
      by_cases hL0 : L = 0
      · have hLi : ¬ (0 : Int) < (L : Int) := by omega
        clear hL0
        have c0 : w2.cell? ⟨pb, 0, none⟩ = some (.int .i64 p1) := HP_1.out.at 0
        have c1 : w2.cell? ⟨pb, 1, none⟩ = some (.int .i64 p2) := HP_1.out.at 1
        have c2 : w2.cell? ⟨pb, 2, none⟩ = some (.int .i64 p3) := HP_1.out.at 2
        have c3 : w2.cell? ⟨pb, 3, none⟩ = some (.int .i64 p4) := HP_1.out.at 3
        have c4 : w2.cell? ⟨pb, 4, none⟩ = some (.slice g1 L gc1) := HP_1.out.at 4
        have c5 : w2.cell? ⟨pb, 5, none⟩ = some (.slice g2 L gc2) := HP_1.out.at 5
        have c6 : w2.cell? ⟨pb, 6, none⟩ = some (.slice g3 L gc3) := HP_1.out.at 6
        have c7 : w2.cell? ⟨pb, 7, none⟩ = some (.slice g4 L gc4) := HP_1.out.at 7
        have y0 : w2.cell? ⟨w.heap.size + 1, 0, none⟩ = some (.int .i64 0) := HZ_1.out.at 0
        have y1 : w2.cell? ⟨w.heap.size + 1, 1, none⟩ = some (.int .i64 0) := HZ_1.out.at 1
        have y2 : w2.cell? ⟨w.heap.size + 1, 2, none⟩ = some (.int .i64 0) := HZ_1.out.at 2
        have y3 : w2.cell? ⟨w.heap.size + 1, 3, none⟩ = some (.int .i64 0) := HZ_1.out.at 3
        have y4 : w2.cell? ⟨w.heap.size + 1, 4, none⟩ = some (.slice none 0 0) := HZ_1.out.at 4
        have y5 : w2.cell? ⟨w.heap.size + 1, 5, none⟩ = some (.slice none 0 0) := HZ_1.out.at 5
        have y6 : w2.cell? ⟨w.heap.size + 1, 6, none⟩ = some (.slice none 0 0) := HZ_1.out.at 6
        have y7 : w2.cell? ⟨w.heap.size + 1, 7, none⟩ = some (.slice none 0 0) := HZ_1.out.at 7
        have f0 : w2.frozen? ⟨w.heap.size + 1, 0, none⟩ = false := HZ_1.out.fr 0
        have f1 : w2.frozen? ⟨w.heap.size + 1, 1, none⟩ = false := HZ_1.out.fr 1
        have f2 : w2.frozen? ⟨w.heap.size + 1, 2, none⟩ = false := HZ_1.out.fr 2
        have f3 : w2.frozen? ⟨w.heap.size + 1, 3, none⟩ = false := HZ_1.out.fr 3
        have f4 : w2.frozen? ⟨w.heap.size + 1, 4, none⟩ = false := HZ_1.out.fr 4
        have f5 : w2.frozen? ⟨w.heap.size + 1, 5, none⟩ = false := HZ_1.out.fr 5
        have f6 : w2.frozen? ⟨w.heap.size + 1, 6, none⟩ = false := HZ_1.out.fr 6
        have f7 : w2.frozen? ⟨w.heap.size + 1, 7, none⟩ = false := HZ_1.out.fr 7
        have r0 : w2.frozen? ⟨pb, 0, none⟩ = false := HP_1.out.fr 0
        have r1 : w2.frozen? ⟨pb, 1, none⟩ = false := HP_1.out.fr 1
        have r2 : w2.frozen? ⟨pb, 2, none⟩ = false := HP_1.out.fr 2
        have r3 : w2.frozen? ⟨pb, 3, none⟩ = false := HP_1.out.fr 3
        have r4 : w2.frozen? ⟨pb, 4, none⟩ = false := HP_1.out.fr 4
        have r5 : w2.frozen? ⟨pb, 5, none⟩ = false := HP_1.out.fr 5
        have r6 : w2.frozen? ⟨pb, 6, none⟩ = false := HP_1.out.fr 6
        have r7 : w2.frozen? ⟨pb, 7, none⟩ = false := HP_1.out.fr 7
        go_wp2
        refine bodyPost_ret (v := .agg #[.int .i64 p1, .int .i64 p2, .int .i64 p3, .int .i64 p4, .slice g1 L gc1, .slice g2 L gc2, .slice g3 L gc3, .slice g4 L gc4]) (by simp [results, Tryz.results55, go_sem, y0, y1, y2, y3, y4, y5, y6, y7]) rfl ⟨_, _, _, _, _, _, _, z1, _, _, _, z2, _, _, _, z3, _, _, _, z4, ⟨rfl, ?_, ?_, ?_, ?_, ⟨by omega, by omega, by omega, by omega⟩, ⟨LW1, LW2, LW3, LW4⟩, ?_, ?_⟩⟩
        · exact (Sees.setS ((Sees.setS ((Sees.setS ((Sees.setS ((Sees.setS ((Sees.setS ((Sees.setS ((Sees.setS (O1_1.out.sees) NZ1)) NZ1)) NZ1)) NZ1)) NZ1)) NZ1)) NZ1)) NZ1)
        · exact (Sees.setS ((Sees.setS ((Sees.setS ((Sees.setS ((Sees.setS ((Sees.setS ((Sees.setS ((Sees.setS (O2_1.out.sees) NZ2)) NZ2)) NZ2)) NZ2)) NZ2)) NZ2)) NZ2)) NZ2)
        · exact (Sees.setS ((Sees.setS ((Sees.setS ((Sees.setS ((Sees.setS ((Sees.setS ((Sees.setS ((Sees.setS (O3_1.out.sees) NZ3)) NZ3)) NZ3)) NZ3)) NZ3)) NZ3)) NZ3)) NZ3)
        · exact (Sees.setS ((Sees.setS ((Sees.setS ((Sees.setS ((Sees.setS ((Sees.setS ((Sees.setS ((Sees.setS (O4_1.out.sees) NZ4)) NZ4)) NZ4)) NZ4)) NZ4)) NZ4)) NZ4)) NZ4)
        · exact (Rd.setS ((Rd.setS ((Rd.setS ((Rd.setS ((Rd.setS ((Rd.setS ((Rd.setS ((Rd.setS (RD_1.out) (by omega) (by omega))) (by omega) (by omega))) (by omega) (by omega))) (by omega) (by omega))) (by omega) (by omega))) (by omega) (by omega))) (by omega) (by omega))) (by omega) (by omega))
        · exact (grown_farS ((grown_farS ((grown_farS ((grown_farS ((grown_farS ((grown_farS ((grown_farS ((grown_farS (GR_1.out) (by omega))) (by omega))) (by omega))) (by omega))) (by omega))) (by omega))) (by omega))) (by omega))
      have hLi : (0 : Int) < (L : Int) := by omega
      have hLb : (L : Int) ≤ 64 := by omega
      obtain ⟨gq, hgq, hqlo, _, _, _⟩ := O4_1.out.block (by omega)
      subst hgq
      have c7 : w2.cell? ⟨pb, 7, none⟩ = some (.slice (some ⟨gq, 0, none⟩) L gc4) := HP_1.out.at 7
      go_wp2_with fail
      clear c7
      have hbd : Below w2.heap.size w2 w2.drew := (Below.refl _ _).drew
      have HM_r0 : Hid (Lies w2.drew w.heap.size [.int .i64 a, .int .i64 b, .int .i64 c, .int .i64 d, .int .i64 f, .int .i64 k, .int .i64 a', .int .i64 b', .int .i64 c', .int .i64 d', .int .i64 f', .int .i64 k']) := HM_1.out.belowS hbd
      have HZ_r0 : Hid (Lies w2.drew (w.heap.size + 1) [.int .i64 0, .int .i64 0, .int .i64 0, .int .i64 0, .slice none 0 0, .slice none 0 0, .slice none 0 0, .slice none 0 0]) := HZ_1.out.belowS hbd
      have RD_r0 : Hid (Rd w0 R ca len cap w2.drew) := RD_1.out.grow hbd
      have GR_r0 : Hid (w.grownBy w2.drew (some R)) := GR_1.out.trans (grown_of_below hbd _)
      have O1_r0 : Hid (Owns 2 w2.drew wq.heap.size g1 L gc1 z1) := O1_1.out.below hbd
      have O2_r0 : Hid (Owns 2 w2.drew wq.heap.size g2 L gc2 z2) := O2_1.out.below hbd
      have O3_r0 : Hid (Owns 2 w2.drew wq.heap.size g3 L gc3 z3) := O3_1.out.below hbd
      have O4_r0 : Hid (Owns 2 w2.drew wq.heap.size (some ⟨gq, 0, none⟩) L gc4 z4) := O4_1.out.below hbd
      have HP_r0 : Hid (Lies w2.drew pb [.int .i64 p1, .int .i64 p2, .int .i64 p3, .int .i64 p4, .slice g1 L gc1, .slice g2 L gc2, .slice g3 L gc3, .slice (some ⟨gq, 0, none⟩) L gc4]) := HP_1.out.belowS hbd
      clear hbd HM_1 HZ_1 RD_1 GR_1 O1_1 O2_1 O3_1 O4_1 HP_1
      refine wp_region_noPanic ?_
      refine wp_region_held_drew (S := fun W => w.grownBy W (some R) ∧ W.cell? ⟨pb, 7, none⟩ = some (.slice (some ⟨gq, 0, none⟩) L gc4)) (by kernel_rfl) (⟨GR_r0.out, HP_r0.out.at 7⟩) (fun hHeld => ?_)
      generalize w2.drew = wd0 at hHeld HM_r0 HZ_r0 RD_r0 GR_r0 O1_r0 O2_r0 O3_r0 O4_r0 HP_r0 ⊢
      refine wpAnyH_take (i := 0) (v := .pointer (some ⟨pb, 7, none⟩)) rfl (by kernel_rfl) (by kernel_rfl) (by kernel_rfl) (fun _ _ _ h => h) (Or.inl ⟨by kernel_rfl, ?_⟩) (by assumption) ?_
      · intro wq hSq; go_simp
      try simp only [Act.put]
      refine wpAnyH_take (i := 1) (v := .slice (some ⟨gq, 0, none⟩) L gc4) rfl (by kernel_rfl) (by kernel_rfl) (by kernel_rfl) (fun _ _ _ h => h) (Or.inl ⟨by kernel_rfl, ?_⟩) (by assumption) ?_
      · intro wp hSp; have c0 := hSp.2; go_simp
      try simp only [Act.put]
      refine wpAnyH_take (i := 2) (v := .pointer (some ⟨R, 0, none⟩)) rfl (by kernel_rfl) (by kernel_rfl) (by kernel_rfl) (fun _ _ _ h => h) (Or.inl ⟨by kernel_rfl, ?_⟩) (by assumption) ?_
      · intro wq hSq; go_simp
      try simp only [Act.put]
      refine wpAnyH_take (i := 3) (v := .pointer (some ⟨pb, 7, none⟩)) rfl (by kernel_rfl) (by kernel_rfl) (by kernel_rfl) (fun _ _ _ h => h) (Or.inl ⟨by kernel_rfl, ?_⟩) (by assumption) ?_
      · intro wq hSq; go_simp
      try simp only [Act.put]
      refine wpAnyH_take (i := 4) (v := .slice (some ⟨gq, 0, none⟩) L gc4) rfl (by kernel_rfl) (by kernel_rfl) (by kernel_rfl) (fun _ _ _ h => h) (Or.inl ⟨by kernel_rfl, ?_⟩) (by assumption) ?_
      · intro wp hSp; have c0 := hSp.2; go_simp
      try simp only [Act.put]
      refine wpAnyH_take (i := 5) (v := .int .i64 (L : Int)) rfl (by kernel_rfl) (by kernel_rfl) (by kernel_rfl) (fun _ _ _ h => h) (Or.inl ⟨by kernel_rfl, ?_⟩) (by assumption) ?_
      · intro wq hSq; go_simp
      try simp only [Act.put]
      refine wpAnyH_take (i := 7) (v := .pointer (some ⟨R, 0, none⟩)) rfl (by kernel_rfl) (by kernel_rfl) (by kernel_rfl) (fun _ _ _ h => h) (Or.inl ⟨by kernel_rfl, ?_⟩) (by assumption) ?_
      · intro wq hSq; go_simp
      try simp only [Act.put]
      refine wpAnyH_ready (rs := [6]) (by kernel_rfl) (by simp) ?_
      refine AllReadyH.cons rfl (fun Kk hK => ?_) AllReadyH.nil
      go_simp
      refine (below_any HRow.out (L : Int) (by omega) (by omega) _ RD_r0.out).mono ?_
      rintro e wd1 ⟨v3, t0, t1, rfl, hr1, hg1⟩
      go_simp
      have HM_r1 : Hid (Lies wd1 w.heap.size [.int .i64 a, .int .i64 b, .int .i64 c, .int .i64 d, .int .i64 f, .int .i64 k, .int .i64 a', .int .i64 b', .int .i64 c', .int .i64 d', .int .i64 f', .int .i64 k']) := HM_r0.out.grown hg1 HNm
      have HZ_r1 : Hid (Lies wd1 (w.heap.size + 1) [.int .i64 0, .int .i64 0, .int .i64 0, .int .i64 0, .slice none 0 0, .slice none 0 0, .slice none 0 0, .slice none 0 0]) := HZ_r0.out.grown hg1 HNz
      have RD_r1 : Hid (Rd w0 R ca len cap wd1) := hr1
      have GR_r1 : Hid (w.grownBy wd1 (some R)) := GR_r0.out.trans hg1
      have O1_r1 : Hid (Owns 2 wd1 wq.heap.size g1 L gc1 z1) := O1_r0.out.grownR hg1 (fun q hq e => by have := LOO1.out q hq; injection e with e; omega)
      have O2_r1 : Hid (Owns 2 wd1 wq.heap.size g2 L gc2 z2) := O2_r0.out.grownR hg1 (fun q hq e => by have := LOO2.out q hq; injection e with e; omega)
      have O3_r1 : Hid (Owns 2 wd1 wq.heap.size g3 L gc3 z3) := O3_r0.out.grownR hg1 (fun q hq e => by have := LOO3.out q hq; injection e with e; omega)
      have O4_r1 : Hid (Owns 2 wd1 wq.heap.size (some ⟨gq, 0, none⟩) L gc4 z4) := O4_r0.out.grownR hg1 (fun q hq e => by have := LOO4.out q hq; injection e with e; omega)
      have HP_r1 : Hid (Lies wd1 pb [.int .i64 p1, .int .i64 p2, .int .i64 p3, .int .i64 p4, .slice g1 L gc1, .slice g2 L gc2, .slice g3 L gc3, .slice (some ⟨gq, 0, none⟩) L gc4]) := HP_r0.out.grown hg1 kS
      have hS1 : w.grownBy wd1 (some R) ∧ wd1.cell? ⟨pb, 7, none⟩ = some (.slice (some ⟨gq, 0, none⟩) L gc4) := ⟨GR_r1.out, HP_r1.out.at 7⟩
      refine hK.out _ _ hS1 (fun _ => ?_)
      clear hK Kk hg1 HM_r0 HZ_r0 RD_r0 GR_r0 O1_r0 O2_r0 O3_r0 O4_r0 HP_r0 hr1
      try simp only [Act.put]
      refine wpAnyH_ready (rs := [8]) (by kernel_rfl) (by simp) ?_
      refine AllReadyH.cons rfl (fun Kk hK => ?_) AllReadyH.nil
      go_simp
      refine (elem_any HRow.out _ RD_r1.out).mono ?_
      rintro e wd2 ⟨ev, ev0, ev1, rfl, hr2, hg2⟩
      go_simp
      have HM_r2 : Hid (Lies wd2 w.heap.size [.int .i64 a, .int .i64 b, .int .i64 c, .int .i64 d, .int .i64 f, .int .i64 k, .int .i64 a', .int .i64 b', .int .i64 c', .int .i64 d', .int .i64 f', .int .i64 k']) := HM_r1.out.grown hg2 HNm
      have HZ_r2 : Hid (Lies wd2 (w.heap.size + 1) [.int .i64 0, .int .i64 0, .int .i64 0, .int .i64 0, .slice none 0 0, .slice none 0 0, .slice none 0 0, .slice none 0 0]) := HZ_r1.out.grown hg2 HNz
      have RD_r2 : Hid (Rd w0 R ca len cap wd2) := hr2
      have GR_r2 : Hid (w.grownBy wd2 (some R)) := GR_r1.out.trans hg2
      have O1_r2 : Hid (Owns 2 wd2 wq.heap.size g1 L gc1 z1) := O1_r1.out.grownR hg2 (fun q hq e => by have := LOO1.out q hq; injection e with e; omega)
      have O2_r2 : Hid (Owns 2 wd2 wq.heap.size g2 L gc2 z2) := O2_r1.out.grownR hg2 (fun q hq e => by have := LOO2.out q hq; injection e with e; omega)
      have O3_r2 : Hid (Owns 2 wd2 wq.heap.size g3 L gc3 z3) := O3_r1.out.grownR hg2 (fun q hq e => by have := LOO3.out q hq; injection e with e; omega)
      have O4_r2 : Hid (Owns 2 wd2 wq.heap.size (some ⟨gq, 0, none⟩) L gc4 z4) := O4_r1.out.grownR hg2 (fun q hq e => by have := LOO4.out q hq; injection e with e; omega)
      have HP_r2 : Hid (Lies wd2 pb [.int .i64 p1, .int .i64 p2, .int .i64 p3, .int .i64 p4, .slice g1 L gc1, .slice g2 L gc2, .slice g3 L gc3, .slice (some ⟨gq, 0, none⟩) L gc4]) := HP_r1.out.grown hg2 kS
      have hS2 : w.grownBy wd2 (some R) ∧ wd2.cell? ⟨pb, 7, none⟩ = some (.slice (some ⟨gq, 0, none⟩) L gc4) := ⟨GR_r2.out, HP_r2.out.at 7⟩
      refine hK.out _ _ hS2 (fun _ => ?_)
      clear hK Kk hg2 HM_r1 HZ_r1 RD_r1 GR_r1 O1_r1 O2_r1 O3_r1 O4_r1 HP_r1 hr2
      try simp only [Act.put]
      have hvn : v3.toNat < L := by omega
      refine wpAnyH_take (i := 9) (v := .pointer (some ⟨gq, v3.toNat, none⟩)) rfl (by kernel_rfl) (by kernel_rfl) (by kernel_rfl) (fun _ _ _ h => h) (Or.inl ⟨by kernel_rfl, ?_⟩) (by assumption) ?_
      · intro wq hSq; go_simp
      try simp only [Act.put]
      obtain ⟨gq2, hgq2, _, _, hcl, hfr⟩ := O4_r2.out.block (by omega)
      have hgg : gq = gq2 := by simpa using hgq2
      subst hgg
      have cc := hcl v3.toNat hvn
      have ff := hfr v3.toNat
      clear hcl hfr hgq2
      refine wpAnyH_ready (rs := [10]) (by kernel_rfl) (by simp) ?_
      refine AllReadyH.cons rfl (fun Kk hK => ?_) AllReadyH.nil
      go_simp
      have HM_z : Hid (Lies (wd2.setCell ⟨gq, v3.toNat, none⟩ (.int .i64 ev)) w.heap.size [.int .i64 a, .int .i64 b, .int .i64 c, .int .i64 d, .int .i64 f, .int .i64 k, .int .i64 a', .int .i64 b', .int .i64 c', .int .i64 d', .int .i64 f', .int .i64 k']) := HM_r2.out.far (by omega) _ _
      have HZ_z : Hid (Lies (wd2.setCell ⟨gq, v3.toNat, none⟩ (.int .i64 ev)) (w.heap.size + 1) [.int .i64 0, .int .i64 0, .int .i64 0, .int .i64 0, .slice none 0 0, .slice none 0 0, .slice none 0 0, .slice none 0 0]) := HZ_r2.out.far (by omega) _ _
      have RD_z : Hid (Rd w0 R ca len cap (wd2.setCell ⟨gq, v3.toNat, none⟩ (.int .i64 ev))) := Rd.setS RD_r2.out (by omega) (by omega)
      have GR_z : Hid (w.grownBy (wd2.setCell ⟨gq, v3.toNat, none⟩ (.int .i64 ev)) (some R)) := grown_farS GR_r2.out (by omega)
      have O1_z : Hid (Owns 2 (wd2.setCell ⟨gq, v3.toNat, none⟩ (.int .i64 ev)) wq.heap.size g1 L gc1 z1) := O1_r2.out.other ⟨gq, v3.toNat, none⟩ (fun q hq => F14 q ⟨gq, 0, none⟩ hq rfl) _
      have O2_z : Hid (Owns 2 (wd2.setCell ⟨gq, v3.toNat, none⟩ (.int .i64 ev)) wq.heap.size g2 L gc2 z2) := O2_r2.out.other ⟨gq, v3.toNat, none⟩ (fun q hq => F24 q ⟨gq, 0, none⟩ hq rfl) _
      have O3_z : Hid (Owns 2 (wd2.setCell ⟨gq, v3.toNat, none⟩ (.int .i64 ev)) wq.heap.size g3 L gc3 z3) := O3_r2.out.other ⟨gq, v3.toNat, none⟩ (fun q hq => F34 q ⟨gq, 0, none⟩ hq rfl) _
      have O4_z : Hid (Owns 2 (wd2.setCell ⟨gq, v3.toNat, none⟩ (.int .i64 ev)) wq.heap.size (some ⟨gq, 0, none⟩) L gc4 (z4.set v3.toNat ev)) := O4_r2.out.set v3.toNat ev
      have HP_z : Hid (Lies (wd2.setCell ⟨gq, v3.toNat, none⟩ (.int .i64 ev)) pb [.int .i64 p1, .int .i64 p2, .int .i64 p3, .int .i64 p4, .slice g1 L gc1, .slice g2 L gc2, .slice g3 L gc3, .slice (some ⟨gq, 0, none⟩) L gc4]) := HP_r2.out.far (Ne.symm (NP4 _ rfl)) _ _
      have hSz : w.grownBy (wd2.setCell ⟨gq, v3.toNat, none⟩ (.int .i64 ev)) (some R) ∧ (wd2.setCell ⟨gq, v3.toNat, none⟩ (.int .i64 ev)).cell? ⟨pb, 7, none⟩ = some (.slice (some ⟨gq, 0, none⟩) L gc4) := ⟨GR_z.out, HP_z.out.at 7⟩
      refine hK.out _ _ hSz (fun _ => ?_)
      clear hK Kk cc ff hSz HM_r2 HZ_r2 RD_r2 GR_r2 O1_r2 O2_r2 O3_r2 O4_r2 HP_r2
      generalize (wd2.setCell ⟨gq, v3.toNat, none⟩ (.int .i64 ev)) = wy at HM_z HZ_z RD_z GR_z O1_z O2_z O3_z O4_z HP_z ⊢
      try simp only [Act.put]
      refine wpAnyH_done (by kernel_rfl) ?_ _
      refine NoPanic.normal ?_
      go_simp
      have HM_2 : Hid (Lies wy w.heap.size [.int .i64 a, .int .i64 b, .int .i64 c, .int .i64 d, .int .i64 f, .int .i64 k, .int .i64 a', .int .i64 b', .int .i64 c', .int .i64 d', .int .i64 f', .int .i64 k']) := HM_z.out
      have HZ_2 : Hid (Lies wy (w.heap.size + 1) [.int .i64 0, .int .i64 0, .int .i64 0, .int .i64 0, .slice none 0 0, .slice none 0 0, .slice none 0 0, .slice none 0 0]) := HZ_z.out
      have RD_2 : Hid (Rd w0 R ca len cap wy) := RD_z.out
      have GR_2 : Hid (w.grownBy wy (some R)) := GR_z.out
      have O1_2 : Hid (Owns 2 wy wq.heap.size g1 L gc1 z1) := O1_z.out
      have O2_2 : Hid (Owns 2 wy wq.heap.size g2 L gc2 z2) := O2_z.out
      have O3_2 : Hid (Owns 2 wy wq.heap.size g3 L gc3 z3) := O3_z.out
      have O4_2 : Hid (Owns 2 wy wq.heap.size (some ⟨gq, 0, none⟩) L gc4 (z4.set v3.toNat ev)) := O4_z.out
      have HP_2 : Hid (Lies wy pb [.int .i64 p1, .int .i64 p2, .int .i64 p3, .int .i64 p4, .slice g1 L gc1, .slice g2 L gc2, .slice g3 L gc3, .slice (some ⟨gq, 0, none⟩) L gc4]) := HP_z.out
      clear HM_z HZ_z RD_z GR_z O1_z O2_z O3_z O4_z HP_z
      have c0 : wy.cell? ⟨pb, 0, none⟩ = some (.int .i64 p1) := HP_2.out.at 0
      have c1 : wy.cell? ⟨pb, 1, none⟩ = some (.int .i64 p2) := HP_2.out.at 1
      have c2 : wy.cell? ⟨pb, 2, none⟩ = some (.int .i64 p3) := HP_2.out.at 2
      have c3 : wy.cell? ⟨pb, 3, none⟩ = some (.int .i64 p4) := HP_2.out.at 3
      have c4 : wy.cell? ⟨pb, 4, none⟩ = some (.slice g1 L gc1) := HP_2.out.at 4
      have c5 : wy.cell? ⟨pb, 5, none⟩ = some (.slice g2 L gc2) := HP_2.out.at 5
      have c6 : wy.cell? ⟨pb, 6, none⟩ = some (.slice g3 L gc3) := HP_2.out.at 6
      have c7 : wy.cell? ⟨pb, 7, none⟩ = some (.slice (some ⟨gq, 0, none⟩) L gc4) := HP_2.out.at 7
      have y0 : wy.cell? ⟨w.heap.size + 1, 0, none⟩ = some (.int .i64 0) := HZ_2.out.at 0
      have y1 : wy.cell? ⟨w.heap.size + 1, 1, none⟩ = some (.int .i64 0) := HZ_2.out.at 1
      have y2 : wy.cell? ⟨w.heap.size + 1, 2, none⟩ = some (.int .i64 0) := HZ_2.out.at 2
      have y3 : wy.cell? ⟨w.heap.size + 1, 3, none⟩ = some (.int .i64 0) := HZ_2.out.at 3
      have y4 : wy.cell? ⟨w.heap.size + 1, 4, none⟩ = some (.slice none 0 0) := HZ_2.out.at 4
      have y5 : wy.cell? ⟨w.heap.size + 1, 5, none⟩ = some (.slice none 0 0) := HZ_2.out.at 5
      have y6 : wy.cell? ⟨w.heap.size + 1, 6, none⟩ = some (.slice none 0 0) := HZ_2.out.at 6
      have y7 : wy.cell? ⟨w.heap.size + 1, 7, none⟩ = some (.slice none 0 0) := HZ_2.out.at 7
      have f0 : wy.frozen? ⟨w.heap.size + 1, 0, none⟩ = false := HZ_2.out.fr 0
      have f1 : wy.frozen? ⟨w.heap.size + 1, 1, none⟩ = false := HZ_2.out.fr 1
      have f2 : wy.frozen? ⟨w.heap.size + 1, 2, none⟩ = false := HZ_2.out.fr 2
      have f3 : wy.frozen? ⟨w.heap.size + 1, 3, none⟩ = false := HZ_2.out.fr 3
      have f4 : wy.frozen? ⟨w.heap.size + 1, 4, none⟩ = false := HZ_2.out.fr 4
      have f5 : wy.frozen? ⟨w.heap.size + 1, 5, none⟩ = false := HZ_2.out.fr 5
      have f6 : wy.frozen? ⟨w.heap.size + 1, 6, none⟩ = false := HZ_2.out.fr 6
      have f7 : wy.frozen? ⟨w.heap.size + 1, 7, none⟩ = false := HZ_2.out.fr 7
      go_wp2
      refine bodyPost_ret (v := .agg #[.int .i64 p1, .int .i64 p2, .int .i64 p3, .int .i64 p4, .slice g1 L gc1, .slice g2 L gc2, .slice g3 L gc3, .slice (some ⟨gq, 0, none⟩) L gc4]) (by simp [results, Tryz.results55, go_sem, y0, y1, y2, y3, y4, y5, y6, y7]) rfl ⟨_, _, _, _, _, _, _, z1, _, _, _, z2, _, _, _, z3, _, _, _, (z4.set v3.toNat ev), ⟨rfl, ?_, ?_, ?_, ?_, ⟨by omega, by omega, by omega, by omega⟩, ⟨LW1, LW2, LW3, LW4⟩, ?_, ?_⟩⟩
      · exact (Sees.setS ((Sees.setS ((Sees.setS ((Sees.setS ((Sees.setS ((Sees.setS ((Sees.setS ((Sees.setS (O1_2.out.sees) NZ1)) NZ1)) NZ1)) NZ1)) NZ1)) NZ1)) NZ1)) NZ1)
      · exact (Sees.setS ((Sees.setS ((Sees.setS ((Sees.setS ((Sees.setS ((Sees.setS ((Sees.setS ((Sees.setS (O2_2.out.sees) NZ2)) NZ2)) NZ2)) NZ2)) NZ2)) NZ2)) NZ2)) NZ2)
      · exact (Sees.setS ((Sees.setS ((Sees.setS ((Sees.setS ((Sees.setS ((Sees.setS ((Sees.setS ((Sees.setS (O3_2.out.sees) NZ3)) NZ3)) NZ3)) NZ3)) NZ3)) NZ3)) NZ3)) NZ3)
      · exact (Sees.setS ((Sees.setS ((Sees.setS ((Sees.setS ((Sees.setS ((Sees.setS ((Sees.setS ((Sees.setS (O4_2.out.sees) NZ4)) NZ4)) NZ4)) NZ4)) NZ4)) NZ4)) NZ4)) NZ4)
      · exact (Rd.setS ((Rd.setS ((Rd.setS ((Rd.setS ((Rd.setS ((Rd.setS ((Rd.setS ((Rd.setS (RD_2.out) (by omega) (by omega))) (by omega) (by omega))) (by omega) (by omega))) (by omega) (by omega))) (by omega) (by omega))) (by omega) (by omega))) (by omega) (by omega))) (by omega) (by omega))
      · exact (grown_farS ((grown_farS ((grown_farS ((grown_farS ((grown_farS ((grown_farS ((grown_farS ((grown_farS (GR_2.out) (by omega))) (by omega))) (by omega))) (by omega))) (by omega))) (by omega))) (by omega))) (by omega))
    by_cases h7 : v2 = 7
    · subst h7
      go_wp2_with fail
      refine (stateR_any HRow.out _ RD_1.out).mono ?_
      rintro e w3 ⟨⟨ex, ey⟩, rfl, hr, hg⟩
      have HM_2 : Hid (Lies w3 w.heap.size [.int .i64 a, .int .i64 b, .int .i64 c, .int .i64 d, .int .i64 f, .int .i64 k, .int .i64 a', .int .i64 b', .int .i64 c', .int .i64 d', .int .i64 f', .int .i64 k']) := HM_1.out.grown hg HNm
      have HZ_2 : Hid (Lies w3 (w.heap.size + 1) [.int .i64 0, .int .i64 0, .int .i64 0, .int .i64 0, .slice none 0 0, .slice none 0 0, .slice none 0 0, .slice none 0 0]) := HZ_1.out.grown hg HNz
      have RD_2 : Hid (Rd w0 R ca len cap w3) := hr
      have GR_2 : Hid (w.grownBy w3 (some R)) := GR_1.out.trans hg
      have O1_2 : Hid (Owns 2 w3 wq.heap.size g1 L gc1 z1) := O1_1.out.grownR hg (fun q hq e => by have := LOO1.out q hq; injection e with e; omega)
      have O2_2 : Hid (Owns 2 w3 wq.heap.size g2 L gc2 z2) := O2_1.out.grownR hg (fun q hq e => by have := LOO2.out q hq; injection e with e; omega)
      have O3_2 : Hid (Owns 2 w3 wq.heap.size g3 L gc3 z3) := O3_1.out.grownR hg (fun q hq e => by have := LOO3.out q hq; injection e with e; omega)
      have O4_2 : Hid (Owns 2 w3 wq.heap.size g4 L gc4 z4) := O4_1.out.grownR hg (fun q hq e => by have := LOO4.out q hq; injection e with e; omega)
      have HP_2 : Hid (Lies w3 pb [.int .i64 p1, .int .i64 p2, .int .i64 p3, .int .i64 p4, .slice g1 L gc1, .slice g2 L gc2, .slice g3 L gc3, .slice g4 L gc4]) := HP_1.out.grown hg kS
      clear HM_1 HZ_1 RD_1 GR_1 O1_1 O2_1 O3_1 O4_1 HP_1
      clear hg hr
      dsimp only [stv]
      have c0 : w3.cell? ⟨pb, 0, none⟩ = some (.int .i64 p1) := HP_2.out.at 0
      have c1 : w3.cell? ⟨pb, 1, none⟩ = some (.int .i64 p2) := HP_2.out.at 1
      have c2 : w3.cell? ⟨pb, 2, none⟩ = some (.int .i64 p3) := HP_2.out.at 2
      have c3 : w3.cell? ⟨pb, 3, none⟩ = some (.int .i64 p4) := HP_2.out.at 3
      have c4 : w3.cell? ⟨pb, 4, none⟩ = some (.slice g1 L gc1) := HP_2.out.at 4
      have c5 : w3.cell? ⟨pb, 5, none⟩ = some (.slice g2 L gc2) := HP_2.out.at 5
      have c6 : w3.cell? ⟨pb, 6, none⟩ = some (.slice g3 L gc3) := HP_2.out.at 6
      have c7 : w3.cell? ⟨pb, 7, none⟩ = some (.slice g4 L gc4) := HP_2.out.at 7
      have y0 : w3.cell? ⟨w.heap.size + 1, 0, none⟩ = some (.int .i64 0) := HZ_2.out.at 0
      have y1 : w3.cell? ⟨w.heap.size + 1, 1, none⟩ = some (.int .i64 0) := HZ_2.out.at 1
      have y2 : w3.cell? ⟨w.heap.size + 1, 2, none⟩ = some (.int .i64 0) := HZ_2.out.at 2
      have y3 : w3.cell? ⟨w.heap.size + 1, 3, none⟩ = some (.int .i64 0) := HZ_2.out.at 3
      have y4 : w3.cell? ⟨w.heap.size + 1, 4, none⟩ = some (.slice none 0 0) := HZ_2.out.at 4
      have y5 : w3.cell? ⟨w.heap.size + 1, 5, none⟩ = some (.slice none 0 0) := HZ_2.out.at 5
      have y6 : w3.cell? ⟨w.heap.size + 1, 6, none⟩ = some (.slice none 0 0) := HZ_2.out.at 6
      have y7 : w3.cell? ⟨w.heap.size + 1, 7, none⟩ = some (.slice none 0 0) := HZ_2.out.at 7
      have f0 : w3.frozen? ⟨w.heap.size + 1, 0, none⟩ = false := HZ_2.out.fr 0
      have f1 : w3.frozen? ⟨w.heap.size + 1, 1, none⟩ = false := HZ_2.out.fr 1
      have f2 : w3.frozen? ⟨w.heap.size + 1, 2, none⟩ = false := HZ_2.out.fr 2
      have f3 : w3.frozen? ⟨w.heap.size + 1, 3, none⟩ = false := HZ_2.out.fr 3
      have f4 : w3.frozen? ⟨w.heap.size + 1, 4, none⟩ = false := HZ_2.out.fr 4
      have f5 : w3.frozen? ⟨w.heap.size + 1, 5, none⟩ = false := HZ_2.out.fr 5
      have f6 : w3.frozen? ⟨w.heap.size + 1, 6, none⟩ = false := HZ_2.out.fr 6
      have f7 : w3.frozen? ⟨w.heap.size + 1, 7, none⟩ = false := HZ_2.out.fr 7
      have r0 : w3.frozen? ⟨pb, 0, none⟩ = false := HP_2.out.fr 0
      have r1 : w3.frozen? ⟨pb, 1, none⟩ = false := HP_2.out.fr 1
      have r2 : w3.frozen? ⟨pb, 2, none⟩ = false := HP_2.out.fr 2
      have r3 : w3.frozen? ⟨pb, 3, none⟩ = false := HP_2.out.fr 3
      have r4 : w3.frozen? ⟨pb, 4, none⟩ = false := HP_2.out.fr 4
      have r5 : w3.frozen? ⟨pb, 5, none⟩ = false := HP_2.out.fr 5
      have r6 : w3.frozen? ⟨pb, 6, none⟩ = false := HP_2.out.fr 6
      have r7 : w3.frozen? ⟨pb, 7, none⟩ = false := HP_2.out.fr 7
      go_wp2
      refine bodyPost_ret (v := .agg #[.int .i64 p1, .int .i64 p2, .int .i64 ex, .int .i64 ey, .slice g1 L gc1, .slice g2 L gc2, .slice g3 L gc3, .slice g4 L gc4]) (by simp [results, Tryz.results55, go_sem, y0, y1, y2, y3, y4, y5, y6, y7]) rfl ⟨_, _, _, _, _, _, _, z1, _, _, _, z2, _, _, _, z3, _, _, _, z4, ⟨rfl, ?_, ?_, ?_, ?_, ⟨by omega, by omega, by omega, by omega⟩, ⟨LW1, LW2, LW3, LW4⟩, ?_, ?_⟩⟩
      · exact (Sees.setS ((Sees.setS ((Sees.setS ((Sees.setS ((Sees.setS ((Sees.setS ((Sees.setS ((Sees.setS ((Sees.setS ((Sees.setS (O1_2.out.sees) NP1)) NP1)) NZ1)) NZ1)) NZ1)) NZ1)) NZ1)) NZ1)) NZ1)) NZ1)
      · exact (Sees.setS ((Sees.setS ((Sees.setS ((Sees.setS ((Sees.setS ((Sees.setS ((Sees.setS ((Sees.setS ((Sees.setS ((Sees.setS (O2_2.out.sees) NP2)) NP2)) NZ2)) NZ2)) NZ2)) NZ2)) NZ2)) NZ2)) NZ2)) NZ2)
      · exact (Sees.setS ((Sees.setS ((Sees.setS ((Sees.setS ((Sees.setS ((Sees.setS ((Sees.setS ((Sees.setS ((Sees.setS ((Sees.setS (O3_2.out.sees) NP3)) NP3)) NZ3)) NZ3)) NZ3)) NZ3)) NZ3)) NZ3)) NZ3)) NZ3)
      · exact (Sees.setS ((Sees.setS ((Sees.setS ((Sees.setS ((Sees.setS ((Sees.setS ((Sees.setS ((Sees.setS ((Sees.setS ((Sees.setS (O4_2.out.sees) NP4)) NP4)) NZ4)) NZ4)) NZ4)) NZ4)) NZ4)) NZ4)) NZ4)) NZ4)
      · exact (Rd.setS ((Rd.setS ((Rd.setS ((Rd.setS ((Rd.setS ((Rd.setS ((Rd.setS ((Rd.setS ((Rd.setS ((Rd.setS (RD_2.out) (by omega) (by omega))) (by omega) (by omega))) (by omega) (by omega))) (by omega) (by omega))) (by omega) (by omega))) (by omega) (by omega))) (by omega) (by omega))) (by omega) (by omega))) (by omega) (by omega))) (by omega) (by omega))
      · exact (grown_farS ((grown_farS ((grown_farS ((grown_farS ((grown_farS ((grown_farS ((grown_farS ((grown_farS ((grown_farS ((grown_farS (GR_2.out) (by omega))) (by omega))) (by omega))) (by omega))) (by omega))) (by omega))) (by omega))) (by omega))) (by omega))) (by omega))
    by_cases h8 : v2 = 8
    · subst h8
      have i2w : w.heap.size + 2 ≤ w2.heap.size := by have := HZ_1.out.2.2; omega
      have i3w : pb < w2.heap.size := HP_1.out.2.2
      go_wp2_with fail
      clear J_NE1 J_NE2 J_NE3 J_NE4 J_FA
      have OH1 : ∀ q, g1 = some q → q.block < w2.heap.size := O1_1.out.hi
      have LOR1 : ∀ q, g1 = some q → some R ≠ some q.block := fun q hq => (HPBL.out _ (LOO1.out q hq)).2.2.2.2.2
      have OH2 : ∀ q, g2 = some q → q.block < w2.heap.size := O2_1.out.hi
      have LOR2 : ∀ q, g2 = some q → some R ≠ some q.block := fun q hq => (HPBL.out _ (LOO2.out q hq)).2.2.2.2.2
      have OH3 : ∀ q, g3 = some q → q.block < w2.heap.size := O3_1.out.hi
      have LOR3 : ∀ q, g3 = some q → some R ≠ some q.block := fun q hq => (HPBL.out _ (LOO3.out q hq)).2.2.2.2.2
      have OH4 : ∀ q, g4 = some q → q.block < w2.heap.size := O4_1.out.hi
      have LOR4 : ∀ q, g4 = some q → some R ≠ some q.block := fun q hq => (HPBL.out _ (LOO4.out q hq)).2.2.2.2.2
      have HPB2 : Hid (∀ p, w2.heap.size ≤ p → w.heap.size ≠ p ∧ w.heap.size + 1 ≠ p ∧ pb ≠ p ∧ w0.heap.size ≤ p ∧ p ≠ R ∧ w.heap.size ≤ p ∧ some R ≠ some p) := fun p hp => by
        have i1 := HM_1.out.2.2
        have i2 := HZ_1.out.2.2
        have i3 := HP_1.out.2.2
        exact ⟨by omega, by omega, by omega, by omega, by omega, by omega, by simp; omega⟩
      apply cutKey
      case f =>
        intro key
        refine wp_region_noPanic ?_
        refine wp_region_held_drew (S := fun W => w2.grownBy W (some R)) (by kernel_rfl) (grown_drew _ _) (fun hHeld => ?_)
        have hbd : Below w2.heap.size w2 w2.drew := (Below.refl _ _).drew
        have HM_r0 : Hid (Lies w2.drew w.heap.size [.int .i64 a, .int .i64 b, .int .i64 c, .int .i64 d, .int .i64 f, .int .i64 k, .int .i64 a', .int .i64 b', .int .i64 c', .int .i64 d', .int .i64 f', .int .i64 k']) := HM_1.out.belowS hbd
        have HZ_r0 : Hid (Lies w2.drew (w.heap.size + 1) [.int .i64 0, .int .i64 0, .int .i64 0, .int .i64 0, .slice none 0 0, .slice none 0 0, .slice none 0 0, .slice none 0 0]) := HZ_1.out.belowS hbd
        have RD_r0 : Hid (Rd w0 R ca len cap w2.drew) := RD_1.out.grow hbd
        have GR_r0 : Hid (w.grownBy w2.drew (some R)) := GR_1.out.trans (grown_of_below hbd _)
        have O1_r0 : Hid (Owns 2 w2.drew wq.heap.size g1 L gc1 z1) := O1_1.out.below hbd
        have O2_r0 : Hid (Owns 2 w2.drew wq.heap.size g2 L gc2 z2) := O2_1.out.below hbd
        have O3_r0 : Hid (Owns 2 w2.drew wq.heap.size g3 L gc3 z3) := O3_1.out.below hbd
        have O4_r0 : Hid (Owns 2 w2.drew wq.heap.size g4 L gc4 z4) := O4_1.out.below hbd
        have HP_r0 : Hid (Lies w2.drew pb [.int .i64 p1, .int .i64 p2, .int .i64 p3, .int .i64 p4, .slice g1 L gc1, .slice g2 L gc2, .slice g3 L gc3, .slice g4 L gc4]) := HP_1.out.belowS hbd
        generalize w2.drew = wd0 at hHeld HM_r0 HZ_r0 RD_r0 GR_r0 O1_r0 O2_r0 O3_r0 O4_r0 HP_r0 ⊢
        clear hbd
        refine wpAnyH_take (i := 0) (v := .agg ([.int .i64 a, .int .i64 b, .int .i64 c, .int .i64 d, .int .i64 f, .int .i64 k, .int .i64 a', .int .i64 b', .int .i64 c', .int .i64 d', .int .i64 f', .int .i64 k']).toArray) rfl (by kernel_rfl) (by kernel_rfl) (by kernel_rfl) (fun _ _ _ h => h) (yieldsIf_load_mid (by kernel_rfl) 27 (.tmp 3) rfl w.heap.size 0 rfl ([.int .i64 a, .int .i64 b, .int .i64 c, .int .i64 d, .int .i64 f, .int .i64 k, .int .i64 a', .int .i64 b', .int .i64 c', .int .i64 d', .int .i64 f', .int .i64 k']) _ (fun W h => (HM_1.out.grown h HNm).row) Tryz.underlying27 rfl (by kernel_rfl)) (by assumption) ?_
        try simp only [Act.put]
        refine wpAnyH_take (i := 1) (v := .pointer (some ⟨R, 0, none⟩)) rfl (by kernel_rfl) (by kernel_rfl) (by kernel_rfl) (fun _ _ _ h => h) (Or.inl ⟨by kernel_rfl, ?_⟩) (by assumption) ?_
        · intro wq hSq; go_simp
        try simp only [Act.put]
        refine wpAnyH_ready (rs := [2, 7]) (by kernel_rfl) (by simp) ?_
        refine AllReadyH.cons rfl (fun Kk hK => ?_) (AllReadyH.cons rfl (fun Kk hK => ?_) (AllReadyH.nil))
        · go_simp
          refine (stateR_any HRow.out _ RD_r0.out).mono ?_
          rintro e wd14 ⟨⟨tx, ty⟩, rfl, hr14, hg14⟩
          go_simp
          have hS14 : w2.grownBy wd14 (some R) := hHeld.trans hg14
          have HM_t14 : Hid (Lies wd14 w.heap.size [.int .i64 a, .int .i64 b, .int .i64 c, .int .i64 d, .int .i64 f, .int .i64 k, .int .i64 a', .int .i64 b', .int .i64 c', .int .i64 d', .int .i64 f', .int .i64 k']) := HM_r0.out.grown hg14 HNm
          have HZ_t14 : Hid (Lies wd14 (w.heap.size + 1) [.int .i64 0, .int .i64 0, .int .i64 0, .int .i64 0, .slice none 0 0, .slice none 0 0, .slice none 0 0, .slice none 0 0]) := HZ_r0.out.grown hg14 HNz
          have RD_t14 : Hid (Rd w0 R ca len cap wd14) := hr14
          have GR_t14 : Hid (w.grownBy wd14 (some R)) := GR_r0.out.trans hg14
          have O1_t14 : Hid (Owns 2 wd14 wq.heap.size g1 L gc1 z1) := O1_r0.out.grownR hg14 LOR1
          have O2_t14 : Hid (Owns 2 wd14 wq.heap.size g2 L gc2 z2) := O2_r0.out.grownR hg14 LOR2
          have O3_t14 : Hid (Owns 2 wd14 wq.heap.size g3 L gc3 z3) := O3_r0.out.grownR hg14 LOR3
          have O4_t14 : Hid (Owns 2 wd14 wq.heap.size g4 L gc4 z4) := O4_r0.out.grownR hg14 LOR4
          have HP_t14 : Hid (Lies wd14 pb [.int .i64 p1, .int .i64 p2, .int .i64 p3, .int .i64 p4, .slice g1 L gc1, .slice g2 L gc2, .slice g3 L gc3, .slice g4 L gc4]) := HP_r0.out.grown hg14 kS
          refine hK.out _ _ hS14 (fun _ => ?_)
          clear hK Kk hg14 hr14 HM_r0 HZ_r0 RD_r0 GR_r0 O1_r0 O2_r0 O3_r0 O4_r0 HP_r0
          try simp only [Act.put]
          refine wpAnyH_ready (rs := [3, 7]) (by kernel_rfl) (by simp) ?_
          refine AllReadyH.cons rfl (fun Kk hK => ?_) (AllReadyH.cons rfl (fun Kk hK => ?_) (AllReadyH.nil))
          · go_simp
            refine (CS.out (tx, ty) 4 _).mono ?_
            rintro e wd15 ⟨r1, r2, r3, r4, L2, o2, zz1, zz2, zz3, zz4, h1, hc1, h2, hc2, h3, hc3, h4, hc4, rfl, hL, ⟨q1, q2, q3, q4⟩, hfar, hb15⟩
            go_simp
            have hS15 : w2.grownBy wd15 (some R) := hS14.trans (grown_of_below hb15 _)
            have HM_t15 : Hid (Lies wd15 w.heap.size [.int .i64 a, .int .i64 b, .int .i64 c, .int .i64 d, .int .i64 f, .int .i64 k, .int .i64 a', .int .i64 b', .int .i64 c', .int .i64 d', .int .i64 f', .int .i64 k']) := HM_t14.out.belowS hb15
            have HZ_t15 : Hid (Lies wd15 (w.heap.size + 1) [.int .i64 0, .int .i64 0, .int .i64 0, .int .i64 0, .slice none 0 0, .slice none 0 0, .slice none 0 0, .slice none 0 0]) := HZ_t14.out.belowS hb15
            have RD_t15 : Hid (Rd w0 R ca len cap wd15) := RD_t14.out.grow hb15
            have GR_t15 : Hid (w.grownBy wd15 (some R)) := GR_t14.out.trans (grown_of_below hb15 _)
            have O1_t15 : Hid (Owns 2 wd15 wq.heap.size g1 L gc1 z1) := O1_t14.out.below hb15
            have O2_t15 : Hid (Owns 2 wd15 wq.heap.size g2 L gc2 z2) := O2_t14.out.below hb15
            have O3_t15 : Hid (Owns 2 wd15 wq.heap.size g3 L gc3 z3) := O3_t14.out.below hb15
            have O4_t15 : Hid (Owns 2 wd15 wq.heap.size g4 L gc4 z4) := O4_t14.out.below hb15
            have HP_t15 : Hid (Lies wd15 pb [.int .i64 p1, .int .i64 p2, .int .i64 p3, .int .i64 p4, .slice g1 L gc1, .slice g2 L gc2, .slice g3 L gc3, .slice g4 L gc4]) := HP_t14.out.belowS hb15
            have Q1_t15 : Hid (Owns 2 wd15 w2.heap.size h1 L2 hc1 zz1) := q1.mono hS14.size
            have LM_t15 : Hid (L2 ≤ 64) := hL
            clear q1 q2 q3 q4 hfar hL
            refine hK.out _ _ hS15 (fun _ => ?_)
            clear hK Kk hb15 HM_t14 HZ_t14 RD_t14 GR_t14 O1_t14 O2_t14 O3_t14 O4_t14 HP_t14
            try simp only [Act.put]
            refine wpAnyH_take (i := 4) (v := .tuple #[.agg #[.int .i64 r1, .int .i64 r2, .int .i64 r3, .int .i64 r4, .slice h1 L2 hc1, .slice h2 L2 hc2, .slice h3 L2 hc3, .slice h4 L2 hc4], .bool o2]) rfl (by kernel_rfl) (by kernel_rfl) (by kernel_rfl) (fun _ _ _ h => h) (Or.inl ⟨by kernel_rfl, ?_⟩) (by assumption) ?_
            · intro wq hSq; go_simp
            try simp only [Act.put]
            refine wpAnyH_take (i := 5) (v := .agg #[.int .i64 r1, .int .i64 r2, .int .i64 r3, .int .i64 r4, .slice h1 L2 hc1, .slice h2 L2 hc2, .slice h3 L2 hc3, .slice h4 L2 hc4]) rfl (by kernel_rfl) (by kernel_rfl) (by kernel_rfl) (fun _ _ _ h => h) (Or.inl ⟨by kernel_rfl, ?_⟩) (by assumption) ?_
            · intro wq hSq; go_simp
            try simp only [Act.put]
            refine wpAnyH_take (i := 6) (v := .bool o2) rfl (by kernel_rfl) (by kernel_rfl) (by kernel_rfl) (fun _ _ _ h => h) (Or.inl ⟨by kernel_rfl, ?_⟩) (by assumption) ?_
            · intro wq hSq; go_simp
            try simp only [Act.put]
            refine wpAnyH_ready (rs := [7]) (by kernel_rfl) (by simp) ?_
            refine AllReadyH.cons rfl (fun Kk hK => ?_) (AllReadyH.nil)
            · rw [if_pos (by kernel_rfl)]
              refine wp_alloc_as 34 rfl #[.int .i64 0, .int .i64 0, .int .i64 0, .int .i64 0, .slice none 0 0, .slice none 0 0, .slice none 0 0, .slice none 0 0] (by kernel_rfl) ?_
              have hba : Below wd15.heap.size wd15 (wd15.alloc (.cells #[.int .i64 0, .int .i64 0, .int .i64 0, .int .i64 0, .slice none 0 0, .slice none 0 0, .slice none 0 0, .slice none 0 0] 34)) := (Below.refl _ _).alloc (Nat.le_refl _) _
              have hS16 : w2.grownBy (wd15.alloc (.cells #[.int .i64 0, .int .i64 0, .int .i64 0, .int .i64 0, .slice none 0 0, .slice none 0 0, .slice none 0 0, .slice none 0 0] 34)) (some R) := grown_alloc hS15 _
              have HM_t16 : Hid (Lies (wd15.alloc (.cells #[.int .i64 0, .int .i64 0, .int .i64 0, .int .i64 0, .slice none 0 0, .slice none 0 0, .slice none 0 0, .slice none 0 0] 34)) w.heap.size [.int .i64 a, .int .i64 b, .int .i64 c, .int .i64 d, .int .i64 f, .int .i64 k, .int .i64 a', .int .i64 b', .int .i64 c', .int .i64 d', .int .i64 f', .int .i64 k']) := HM_t15.out.belowS hba
              have HZ_t16 : Hid (Lies (wd15.alloc (.cells #[.int .i64 0, .int .i64 0, .int .i64 0, .int .i64 0, .slice none 0 0, .slice none 0 0, .slice none 0 0, .slice none 0 0] 34)) (w.heap.size + 1) [.int .i64 0, .int .i64 0, .int .i64 0, .int .i64 0, .slice none 0 0, .slice none 0 0, .slice none 0 0, .slice none 0 0]) := HZ_t15.out.belowS hba
              have RD_t16 : Hid (Rd w0 R ca len cap (wd15.alloc (.cells #[.int .i64 0, .int .i64 0, .int .i64 0, .int .i64 0, .slice none 0 0, .slice none 0 0, .slice none 0 0, .slice none 0 0] 34))) := RD_t15.out.grow hba
              have GR_t16 : Hid (w.grownBy (wd15.alloc (.cells #[.int .i64 0, .int .i64 0, .int .i64 0, .int .i64 0, .slice none 0 0, .slice none 0 0, .slice none 0 0, .slice none 0 0] 34)) (some R)) := GR_t15.out.trans (grown_of_below hba _)
              have O1_t16 : Hid (Owns 2 (wd15.alloc (.cells #[.int .i64 0, .int .i64 0, .int .i64 0, .int .i64 0, .slice none 0 0, .slice none 0 0, .slice none 0 0, .slice none 0 0] 34)) wq.heap.size g1 L gc1 z1) := O1_t15.out.below hba
              have O2_t16 : Hid (Owns 2 (wd15.alloc (.cells #[.int .i64 0, .int .i64 0, .int .i64 0, .int .i64 0, .slice none 0 0, .slice none 0 0, .slice none 0 0, .slice none 0 0] 34)) wq.heap.size g2 L gc2 z2) := O2_t15.out.below hba
              have O3_t16 : Hid (Owns 2 (wd15.alloc (.cells #[.int .i64 0, .int .i64 0, .int .i64 0, .int .i64 0, .slice none 0 0, .slice none 0 0, .slice none 0 0, .slice none 0 0] 34)) wq.heap.size g3 L gc3 z3) := O3_t15.out.below hba
              have O4_t16 : Hid (Owns 2 (wd15.alloc (.cells #[.int .i64 0, .int .i64 0, .int .i64 0, .int .i64 0, .slice none 0 0, .slice none 0 0, .slice none 0 0, .slice none 0 0] 34)) wq.heap.size g4 L gc4 z4) := O4_t15.out.below hba
              have HP_t16 : Hid (Lies (wd15.alloc (.cells #[.int .i64 0, .int .i64 0, .int .i64 0, .int .i64 0, .slice none 0 0, .slice none 0 0, .slice none 0 0, .slice none 0 0] 34)) pb [.int .i64 p1, .int .i64 p2, .int .i64 p3, .int .i64 p4, .slice g1 L gc1, .slice g2 L gc2, .slice g3 L gc3, .slice g4 L gc4]) := HP_t15.out.belowS hba
              have Q1_t16 : Hid (Owns 2 (wd15.alloc (.cells #[.int .i64 0, .int .i64 0, .int .i64 0, .int .i64 0, .slice none 0 0, .slice none 0 0, .slice none 0 0, .slice none 0 0] 34)) w2.heap.size h1 L2 hc1 zz1) := Q1_t15.out.below hba
              have HA_t16 : Hid (Lies (wd15.alloc (.cells #[.int .i64 0, .int .i64 0, .int .i64 0, .int .i64 0, .slice none 0 0, .slice none 0 0, .slice none 0 0, .slice none 0 0] 34)) wd15.heap.size [.int .i64 0, .int .i64 0, .int .i64 0, .int .i64 0, .slice none 0 0, .slice none 0 0, .slice none 0 0, .slice none 0 0]) := lies_new _ _ _
              have PB_t16 : Hid (w2.heap.size ≤ wd15.heap.size) := hS15.size
              have NF1_t16 : Hid (∀ q, h1 = some q → q.block ≠ wd15.heap.size) := fun q hq => Nat.ne_of_lt (Q1_t15.out.hi q hq)
              refine hK.out _ _ hS16 (fun _ => ?_)
              clear hK Kk hba HM_t15 HZ_t15 RD_t15 GR_t15 O1_t15 O2_t15 O3_t15 O4_t15 HP_t15 Q1_t15
              generalize (wd15.alloc (.cells #[.int .i64 0, .int .i64 0, .int .i64 0, .int .i64 0, .slice none 0 0, .slice none 0 0, .slice none 0 0, .slice none 0 0] 34)) = wd16 at HA_t16 hS16 HM_t16 HZ_t16 RD_t16 GR_t16 O1_t16 O2_t16 O3_t16 O4_t16 HP_t16 Q1_t16 ⊢
              generalize wd15.heap.size = pb16 at HA_t16 PB_t16 NF1_t16 ⊢
              try simp only [Act.put]
              refine wpAnyH_ready (rs := [8]) (by kernel_rfl) (by simp) ?_
              refine AllReadyH.cons rfl (fun Kk hK => ?_) AllReadyH.nil
              rw [if_pos (by kernel_rfl)]
              with_reducible refine wp_store_mid 34 (.tmp 7) (.tmp 67) ?_ pb16 0 ([.int .i64 r1, .int .i64 r2, .int .i64 r3, .int .i64 r4, .slice h1 L2 hc1, .slice h2 L2 hc2, .slice h3 L2 hc3, .slice h4 L2 hc4]).toArray ?_ ?_ ?_ (by kernel_rfl) (by kernel_rfl) ?_
              · exact rfl
              · exact rfl
              · exact rfl
              · exact HA_t16.out.there 0 8 (by simp)
              have hPB := PB_t16.out
              obtain ⟨lM, lZ, lP, lW, lR, lw, lS⟩ := HPB2.out _ hPB
              have hSz : w2.grownBy (wd16.setCells pb16 0 [.int .i64 r1, .int .i64 r2, .int .i64 r3, .int .i64 r4, .slice h1 L2 hc1, .slice h2 L2 hc2, .slice h3 L2 hc3, .slice h4 L2 hc4]) (some R) := grown_far hS16 hPB 0 _
              have HQ_z : Hid (Lies (wd16.setCells pb16 0 [.int .i64 r1, .int .i64 r2, .int .i64 r3, .int .i64 r4, .slice h1 L2 hc1, .slice h2 L2 hc2, .slice h3 L2 hc3, .slice h4 L2 hc4]) pb16 [.int .i64 r1, .int .i64 r2, .int .i64 r3, .int .i64 r4, .slice h1 L2 hc1, .slice h2 L2 hc2, .slice h3 L2 hc3, .slice h4 L2 hc4]) := HA_t16.out.setCells [.int .i64 r1, .int .i64 r2, .int .i64 r3, .int .i64 r4, .slice h1 L2 hc1, .slice h2 L2 hc2, .slice h3 L2 hc3, .slice h4 L2 hc4] 0 (by simp)
              have HM_z : Hid (Lies (wd16.setCells pb16 0 [.int .i64 r1, .int .i64 r2, .int .i64 r3, .int .i64 r4, .slice h1 L2 hc1, .slice h2 L2 hc2, .slice h3 L2 hc3, .slice h4 L2 hc4]) w.heap.size [.int .i64 a, .int .i64 b, .int .i64 c, .int .i64 d, .int .i64 f, .int .i64 k, .int .i64 a', .int .i64 b', .int .i64 c', .int .i64 d', .int .i64 f', .int .i64 k']) := Lies.farCells _ 0 HM_t16.out lM
              have HZ_z : Hid (Lies (wd16.setCells pb16 0 [.int .i64 r1, .int .i64 r2, .int .i64 r3, .int .i64 r4, .slice h1 L2 hc1, .slice h2 L2 hc2, .slice h3 L2 hc3, .slice h4 L2 hc4]) (w.heap.size + 1) [.int .i64 0, .int .i64 0, .int .i64 0, .int .i64 0, .slice none 0 0, .slice none 0 0, .slice none 0 0, .slice none 0 0]) := Lies.farCells _ 0 HZ_t16.out lZ
              have HP_z : Hid (Lies (wd16.setCells pb16 0 [.int .i64 r1, .int .i64 r2, .int .i64 r3, .int .i64 r4, .slice h1 L2 hc1, .slice h2 L2 hc2, .slice h3 L2 hc3, .slice h4 L2 hc4]) pb [.int .i64 p1, .int .i64 p2, .int .i64 p3, .int .i64 p4, .slice g1 L gc1, .slice g2 L gc2, .slice g3 L gc3, .slice g4 L gc4]) := Lies.farCells _ 0 HP_t16.out lP
              have RD_z : Hid (Rd w0 R ca len cap (wd16.setCells pb16 0 [.int .i64 r1, .int .i64 r2, .int .i64 r3, .int .i64 r4, .slice h1 L2 hc1, .slice h2 L2 hc2, .slice h3 L2 hc3, .slice h4 L2 hc4])) := RD_t16.out.cells lW lR _
              have GR_z : Hid (w.grownBy (wd16.setCells pb16 0 [.int .i64 r1, .int .i64 r2, .int .i64 r3, .int .i64 r4, .slice h1 L2 hc1, .slice h2 L2 hc2, .slice h3 L2 hc3, .slice h4 L2 hc4]) (some R)) := grown_far GR_t16.out lw 0 _
              have O1_z : Hid (Owns 2 (wd16.setCells pb16 0 [.int .i64 r1, .int .i64 r2, .int .i64 r3, .int .i64 r4, .slice h1 L2 hc1, .slice h2 L2 hc2, .slice h3 L2 hc3, .slice h4 L2 hc4]) wq.heap.size g1 L gc1 z1) := O1_t16.out.grownR (grown_cells (World.grownBy.refl _ _) 0 _) (fun q hq e => Nat.lt_irrefl _ (Nat.lt_of_lt_of_le (OH1 q hq) (Nat.le_trans hPB (Nat.le_of_eq (Option.some.inj e)))))
              have O2_z : Hid (Owns 2 (wd16.setCells pb16 0 [.int .i64 r1, .int .i64 r2, .int .i64 r3, .int .i64 r4, .slice h1 L2 hc1, .slice h2 L2 hc2, .slice h3 L2 hc3, .slice h4 L2 hc4]) wq.heap.size g2 L gc2 z2) := O2_t16.out.grownR (grown_cells (World.grownBy.refl _ _) 0 _) (fun q hq e => Nat.lt_irrefl _ (Nat.lt_of_lt_of_le (OH2 q hq) (Nat.le_trans hPB (Nat.le_of_eq (Option.some.inj e)))))
              have O3_z : Hid (Owns 2 (wd16.setCells pb16 0 [.int .i64 r1, .int .i64 r2, .int .i64 r3, .int .i64 r4, .slice h1 L2 hc1, .slice h2 L2 hc2, .slice h3 L2 hc3, .slice h4 L2 hc4]) wq.heap.size g3 L gc3 z3) := O3_t16.out.grownR (grown_cells (World.grownBy.refl _ _) 0 _) (fun q hq e => Nat.lt_irrefl _ (Nat.lt_of_lt_of_le (OH3 q hq) (Nat.le_trans hPB (Nat.le_of_eq (Option.some.inj e)))))
              have O4_z : Hid (Owns 2 (wd16.setCells pb16 0 [.int .i64 r1, .int .i64 r2, .int .i64 r3, .int .i64 r4, .slice h1 L2 hc1, .slice h2 L2 hc2, .slice h3 L2 hc3, .slice h4 L2 hc4]) wq.heap.size g4 L gc4 z4) := O4_t16.out.grownR (grown_cells (World.grownBy.refl _ _) 0 _) (fun q hq e => Nat.lt_irrefl _ (Nat.lt_of_lt_of_le (OH4 q hq) (Nat.le_trans hPB (Nat.le_of_eq (Option.some.inj e)))))
              have Q1_z : Hid (Owns 2 (wd16.setCells pb16 0 [.int .i64 r1, .int .i64 r2, .int .i64 r3, .int .i64 r4, .slice h1 L2 hc1, .slice h2 L2 hc2, .slice h3 L2 hc3, .slice h4 L2 hc4]) w2.heap.size h1 L2 hc1 zz1) := Q1_t16.out.grownR (grown_cells (World.grownBy.refl _ _) 0 _) (fun q hq e => NF1_t16.out q hq (Option.some.inj e).symm)
              refine hK.out _ _ hSz (fun hSzz => ?_)
              clear hK Kk hSzz
              generalize (wd16.setCells pb16 0 [.int .i64 r1, .int .i64 r2, .int .i64 r3, .int .i64 r4, .slice h1 L2 hc1, .slice h2 L2 hc2, .slice h3 L2 hc3, .slice h4 L2 hc4]) = wx at hSz HQ_z HM_z HZ_z HP_z RD_z GR_z O1_z O2_z O3_z O4_z Q1_z ⊢
              try simp only [Act.put]
              refine wpAnyH_take (i := 9) (v := .bool o2) rfl (by kernel_rfl) (by kernel_rfl) (by kernel_rfl) (fun _ _ _ h => h) (Or.inl ⟨by kernel_rfl, ?_⟩) (by assumption) ?_
              · intro wq hSq; go_simp
              try simp only [Act.put]
              refine wpAnyH_done (by kernel_rfl) ?_ _
              refine NoPanic.normal ?_
              go_simp
              clear hSz lM lZ lP lW lR lw lS
              have J_HM : Hid _ := HM_z.out
              have J_HZ : Hid _ := HZ_z.out
              have J_HP : Hid _ := HP_z.out
              have J_RD : Hid _ := RD_z.out
              have J_GR : Hid _ := GR_z.out
              have J_O1 : Hid _ := O1_z.out
              have J_O2 : Hid _ := O2_z.out
              have J_O3 : Hid _ := O3_z.out
              have J_O4 : Hid _ := O4_z.out
              have J_Q1 : Hid _ := Q1_z.out
              have J_LM : Hid _ := LM_t15.out
              have J_HQ : Hid _ := HQ_z.out
              have J_QB : Hid _ := hPB
              clear hPB
              clear HQ_z HM_z HZ_z HP_z RD_z GR_z O1_z O2_z O3_z O4_z Q1_z HM_t16 HZ_t16 RD_t16 GR_t16 O1_t16 O2_t16 O3_t16 O4_t16 HP_t16 Q1_t16 LM_t15 HA_t16 PB_t16 NF1_t16
              generalize pb16 = qb at J_QB J_HQ ⊢
              revert J_QB J_HQ J_LM J_Q1 J_O4 J_O3 J_O2 J_O1 J_GR J_RD J_HP J_HZ J_HM
              revert wx
              revert qb
              revert hc4
              revert h4
              revert hc3
              revert h3
              revert hc2
              revert h2
              revert hc1
              revert h1
              clear zz2 zz3 zz4
              revert zz1
              revert o2
              revert L2
              revert r4
              revert r3
              revert r2
              revert r1
              revert ty
              revert tx
              exact key
          · rw [if_pos (by kernel_rfl)]
            refine wp_alloc_as 34 rfl #[.int .i64 0, .int .i64 0, .int .i64 0, .int .i64 0, .slice none 0 0, .slice none 0 0, .slice none 0 0, .slice none 0 0] (by kernel_rfl) ?_
            have hba : Below wd14.heap.size wd14 (wd14.alloc (.cells #[.int .i64 0, .int .i64 0, .int .i64 0, .int .i64 0, .slice none 0 0, .slice none 0 0, .slice none 0 0, .slice none 0 0] 34)) := (Below.refl _ _).alloc (Nat.le_refl _) _
            have hS17 : w2.grownBy (wd14.alloc (.cells #[.int .i64 0, .int .i64 0, .int .i64 0, .int .i64 0, .slice none 0 0, .slice none 0 0, .slice none 0 0, .slice none 0 0] 34)) (some R) := grown_alloc hS14 _
            have HM_t17 : Hid (Lies (wd14.alloc (.cells #[.int .i64 0, .int .i64 0, .int .i64 0, .int .i64 0, .slice none 0 0, .slice none 0 0, .slice none 0 0, .slice none 0 0] 34)) w.heap.size [.int .i64 a, .int .i64 b, .int .i64 c, .int .i64 d, .int .i64 f, .int .i64 k, .int .i64 a', .int .i64 b', .int .i64 c', .int .i64 d', .int .i64 f', .int .i64 k']) := HM_t14.out.belowS hba
            have HZ_t17 : Hid (Lies (wd14.alloc (.cells #[.int .i64 0, .int .i64 0, .int .i64 0, .int .i64 0, .slice none 0 0, .slice none 0 0, .slice none 0 0, .slice none 0 0] 34)) (w.heap.size + 1) [.int .i64 0, .int .i64 0, .int .i64 0, .int .i64 0, .slice none 0 0, .slice none 0 0, .slice none 0 0, .slice none 0 0]) := HZ_t14.out.belowS hba
            have RD_t17 : Hid (Rd w0 R ca len cap (wd14.alloc (.cells #[.int .i64 0, .int .i64 0, .int .i64 0, .int .i64 0, .slice none 0 0, .slice none 0 0, .slice none 0 0, .slice none 0 0] 34))) := RD_t14.out.grow hba
            have GR_t17 : Hid (w.grownBy (wd14.alloc (.cells #[.int .i64 0, .int .i64 0, .int .i64 0, .int .i64 0, .slice none 0 0, .slice none 0 0, .slice none 0 0, .slice none 0 0] 34)) (some R)) := GR_t14.out.trans (grown_of_below hba _)
            have O1_t17 : Hid (Owns 2 (wd14.alloc (.cells #[.int .i64 0, .int .i64 0, .int .i64 0, .int .i64 0, .slice none 0 0, .slice none 0 0, .slice none 0 0, .slice none 0 0] 34)) wq.heap.size g1 L gc1 z1) := O1_t14.out.below hba
            have O2_t17 : Hid (Owns 2 (wd14.alloc (.cells #[.int .i64 0, .int .i64 0, .int .i64 0, .int .i64 0, .slice none 0 0, .slice none 0 0, .slice none 0 0, .slice none 0 0] 34)) wq.heap.size g2 L gc2 z2) := O2_t14.out.below hba
            have O3_t17 : Hid (Owns 2 (wd14.alloc (.cells #[.int .i64 0, .int .i64 0, .int .i64 0, .int .i64 0, .slice none 0 0, .slice none 0 0, .slice none 0 0, .slice none 0 0] 34)) wq.heap.size g3 L gc3 z3) := O3_t14.out.below hba
            have O4_t17 : Hid (Owns 2 (wd14.alloc (.cells #[.int .i64 0, .int .i64 0, .int .i64 0, .int .i64 0, .slice none 0 0, .slice none 0 0, .slice none 0 0, .slice none 0 0] 34)) wq.heap.size g4 L gc4 z4) := O4_t14.out.below hba
            have HP_t17 : Hid (Lies (wd14.alloc (.cells #[.int .i64 0, .int .i64 0, .int .i64 0, .int .i64 0, .slice none 0 0, .slice none 0 0, .slice none 0 0, .slice none 0 0] 34)) pb [.int .i64 p1, .int .i64 p2, .int .i64 p3, .int .i64 p4, .slice g1 L gc1, .slice g2 L gc2, .slice g3 L gc3, .slice g4 L gc4]) := HP_t14.out.belowS hba
            have HA_t17 : Hid (Lies (wd14.alloc (.cells #[.int .i64 0, .int .i64 0, .int .i64 0, .int .i64 0, .slice none 0 0, .slice none 0 0, .slice none 0 0, .slice none 0 0] 34)) wd14.heap.size [.int .i64 0, .int .i64 0, .int .i64 0, .int .i64 0, .slice none 0 0, .slice none 0 0, .slice none 0 0, .slice none 0 0]) := lies_new _ _ _
            have PB_t17 : Hid (w2.heap.size ≤ wd14.heap.size) := hS14.size
            refine hK.out _ _ hS17 (fun _ => ?_)
            clear hK Kk hba HM_t14 HZ_t14 RD_t14 GR_t14 O1_t14 O2_t14 O3_t14 O4_t14 HP_t14
            generalize (wd14.alloc (.cells #[.int .i64 0, .int .i64 0, .int .i64 0, .int .i64 0, .slice none 0 0, .slice none 0 0, .slice none 0 0, .slice none 0 0] 34)) = wd17 at HA_t17 hS17 HM_t17 HZ_t17 RD_t17 GR_t17 O1_t17 O2_t17 O3_t17 O4_t17 HP_t17 ⊢
            generalize wd14.heap.size = pb17 at HA_t17 PB_t17 ⊢
            try simp only [Act.put]
            refine wpAnyH_ready (rs := [3]) (by kernel_rfl) (by simp) ?_
            refine AllReadyH.cons rfl (fun Kk hK => ?_) (AllReadyH.nil)
            · go_simp
              refine (CS.out (tx, ty) 4 _).mono ?_
              rintro e wd18 ⟨r1, r2, r3, r4, L2, o2, zz1, zz2, zz3, zz4, h1, hc1, h2, hc2, h3, hc3, h4, hc4, rfl, hL, ⟨q1, q2, q3, q4⟩, hfar, hb18⟩
              go_simp
              have hS18 : w2.grownBy wd18 (some R) := hS17.trans (grown_of_below hb18 _)
              have HM_t18 : Hid (Lies wd18 w.heap.size [.int .i64 a, .int .i64 b, .int .i64 c, .int .i64 d, .int .i64 f, .int .i64 k, .int .i64 a', .int .i64 b', .int .i64 c', .int .i64 d', .int .i64 f', .int .i64 k']) := HM_t17.out.belowS hb18
              have HZ_t18 : Hid (Lies wd18 (w.heap.size + 1) [.int .i64 0, .int .i64 0, .int .i64 0, .int .i64 0, .slice none 0 0, .slice none 0 0, .slice none 0 0, .slice none 0 0]) := HZ_t17.out.belowS hb18
              have RD_t18 : Hid (Rd w0 R ca len cap wd18) := RD_t17.out.grow hb18
              have GR_t18 : Hid (w.grownBy wd18 (some R)) := GR_t17.out.trans (grown_of_below hb18 _)
              have O1_t18 : Hid (Owns 2 wd18 wq.heap.size g1 L gc1 z1) := O1_t17.out.below hb18
              have O2_t18 : Hid (Owns 2 wd18 wq.heap.size g2 L gc2 z2) := O2_t17.out.below hb18
              have O3_t18 : Hid (Owns 2 wd18 wq.heap.size g3 L gc3 z3) := O3_t17.out.below hb18
              have O4_t18 : Hid (Owns 2 wd18 wq.heap.size g4 L gc4 z4) := O4_t17.out.below hb18
              have HP_t18 : Hid (Lies wd18 pb [.int .i64 p1, .int .i64 p2, .int .i64 p3, .int .i64 p4, .slice g1 L gc1, .slice g2 L gc2, .slice g3 L gc3, .slice g4 L gc4]) := HP_t17.out.belowS hb18
              have HA_t18 : Hid (Lies wd18 pb17 [.int .i64 0, .int .i64 0, .int .i64 0, .int .i64 0, .slice none 0 0, .slice none 0 0, .slice none 0 0, .slice none 0 0]) := HA_t17.out.belowS hb18
              have Q1_t18 : Hid (Owns 2 wd18 w2.heap.size h1 L2 hc1 zz1) := q1.mono hS17.size
              have LM_t18 : Hid (L2 ≤ 64) := hL
              have NF1_t18 : Hid (∀ q, h1 = some q → q.block ≠ pb17) := fun q hq => Nat.ne_of_gt (Nat.lt_of_lt_of_le HA_t17.out.2.2 (q1.lo q hq))
              clear q1 q2 q3 q4 hfar hL
              refine hK.out _ _ hS18 (fun _ => ?_)
              clear hK Kk hb18 HM_t17 HZ_t17 RD_t17 GR_t17 O1_t17 O2_t17 O3_t17 O4_t17 HP_t17 HA_t17
              try simp only [Act.put]
              refine wpAnyH_take (i := 4) (v := .tuple #[.agg #[.int .i64 r1, .int .i64 r2, .int .i64 r3, .int .i64 r4, .slice h1 L2 hc1, .slice h2 L2 hc2, .slice h3 L2 hc3, .slice h4 L2 hc4], .bool o2]) rfl (by kernel_rfl) (by kernel_rfl) (by kernel_rfl) (fun _ _ _ h => h) (Or.inl ⟨by kernel_rfl, ?_⟩) (by assumption) ?_
              · intro wq hSq; go_simp
              try simp only [Act.put]
              refine wpAnyH_take (i := 5) (v := .agg #[.int .i64 r1, .int .i64 r2, .int .i64 r3, .int .i64 r4, .slice h1 L2 hc1, .slice h2 L2 hc2, .slice h3 L2 hc3, .slice h4 L2 hc4]) rfl (by kernel_rfl) (by kernel_rfl) (by kernel_rfl) (fun _ _ _ h => h) (Or.inl ⟨by kernel_rfl, ?_⟩) (by assumption) ?_
              · intro wq hSq; go_simp
              try simp only [Act.put]
              refine wpAnyH_take (i := 6) (v := .bool o2) rfl (by kernel_rfl) (by kernel_rfl) (by kernel_rfl) (fun _ _ _ h => h) (Or.inl ⟨by kernel_rfl, ?_⟩) (by assumption) ?_
              · intro wq hSq; go_simp
              try simp only [Act.put]
              refine wpAnyH_ready (rs := [8]) (by kernel_rfl) (by simp) ?_
              refine AllReadyH.cons rfl (fun Kk hK => ?_) AllReadyH.nil
              rw [if_pos (by kernel_rfl)]
              with_reducible refine wp_store_mid 34 (.tmp 7) (.tmp 67) ?_ pb17 0 ([.int .i64 r1, .int .i64 r2, .int .i64 r3, .int .i64 r4, .slice h1 L2 hc1, .slice h2 L2 hc2, .slice h3 L2 hc3, .slice h4 L2 hc4]).toArray ?_ ?_ ?_ (by kernel_rfl) (by kernel_rfl) ?_
              · exact rfl
              · exact rfl
              · exact rfl
              · exact HA_t18.out.there 0 8 (by simp)
              have hPB := PB_t17.out
              obtain ⟨lM, lZ, lP, lW, lR, lw, lS⟩ := HPB2.out _ hPB
              have hSz : w2.grownBy (wd18.setCells pb17 0 [.int .i64 r1, .int .i64 r2, .int .i64 r3, .int .i64 r4, .slice h1 L2 hc1, .slice h2 L2 hc2, .slice h3 L2 hc3, .slice h4 L2 hc4]) (some R) := grown_far hS18 hPB 0 _
              have HQ_z : Hid (Lies (wd18.setCells pb17 0 [.int .i64 r1, .int .i64 r2, .int .i64 r3, .int .i64 r4, .slice h1 L2 hc1, .slice h2 L2 hc2, .slice h3 L2 hc3, .slice h4 L2 hc4]) pb17 [.int .i64 r1, .int .i64 r2, .int .i64 r3, .int .i64 r4, .slice h1 L2 hc1, .slice h2 L2 hc2, .slice h3 L2 hc3, .slice h4 L2 hc4]) := HA_t18.out.setCells [.int .i64 r1, .int .i64 r2, .int .i64 r3, .int .i64 r4, .slice h1 L2 hc1, .slice h2 L2 hc2, .slice h3 L2 hc3, .slice h4 L2 hc4] 0 (by simp)
              have HM_z : Hid (Lies (wd18.setCells pb17 0 [.int .i64 r1, .int .i64 r2, .int .i64 r3, .int .i64 r4, .slice h1 L2 hc1, .slice h2 L2 hc2, .slice h3 L2 hc3, .slice h4 L2 hc4]) w.heap.size [.int .i64 a, .int .i64 b, .int .i64 c, .int .i64 d, .int .i64 f, .int .i64 k, .int .i64 a', .int .i64 b', .int .i64 c', .int .i64 d', .int .i64 f', .int .i64 k']) := Lies.farCells _ 0 HM_t18.out lM
              have HZ_z : Hid (Lies (wd18.setCells pb17 0 [.int .i64 r1, .int .i64 r2, .int .i64 r3, .int .i64 r4, .slice h1 L2 hc1, .slice h2 L2 hc2, .slice h3 L2 hc3, .slice h4 L2 hc4]) (w.heap.size + 1) [.int .i64 0, .int .i64 0, .int .i64 0, .int .i64 0, .slice none 0 0, .slice none 0 0, .slice none 0 0, .slice none 0 0]) := Lies.farCells _ 0 HZ_t18.out lZ
              have HP_z : Hid (Lies (wd18.setCells pb17 0 [.int .i64 r1, .int .i64 r2, .int .i64 r3, .int .i64 r4, .slice h1 L2 hc1, .slice h2 L2 hc2, .slice h3 L2 hc3, .slice h4 L2 hc4]) pb [.int .i64 p1, .int .i64 p2, .int .i64 p3, .int .i64 p4, .slice g1 L gc1, .slice g2 L gc2, .slice g3 L gc3, .slice g4 L gc4]) := Lies.farCells _ 0 HP_t18.out lP
              have RD_z : Hid (Rd w0 R ca len cap (wd18.setCells pb17 0 [.int .i64 r1, .int .i64 r2, .int .i64 r3, .int .i64 r4, .slice h1 L2 hc1, .slice h2 L2 hc2, .slice h3 L2 hc3, .slice h4 L2 hc4])) := RD_t18.out.cells lW lR _
              have GR_z : Hid (w.grownBy (wd18.setCells pb17 0 [.int .i64 r1, .int .i64 r2, .int .i64 r3, .int .i64 r4, .slice h1 L2 hc1, .slice h2 L2 hc2, .slice h3 L2 hc3, .slice h4 L2 hc4]) (some R)) := grown_far GR_t18.out lw 0 _
              have O1_z : Hid (Owns 2 (wd18.setCells pb17 0 [.int .i64 r1, .int .i64 r2, .int .i64 r3, .int .i64 r4, .slice h1 L2 hc1, .slice h2 L2 hc2, .slice h3 L2 hc3, .slice h4 L2 hc4]) wq.heap.size g1 L gc1 z1) := O1_t18.out.grownR (grown_cells (World.grownBy.refl _ _) 0 _) (fun q hq e => Nat.lt_irrefl _ (Nat.lt_of_lt_of_le (OH1 q hq) (Nat.le_trans hPB (Nat.le_of_eq (Option.some.inj e)))))
              have O2_z : Hid (Owns 2 (wd18.setCells pb17 0 [.int .i64 r1, .int .i64 r2, .int .i64 r3, .int .i64 r4, .slice h1 L2 hc1, .slice h2 L2 hc2, .slice h3 L2 hc3, .slice h4 L2 hc4]) wq.heap.size g2 L gc2 z2) := O2_t18.out.grownR (grown_cells (World.grownBy.refl _ _) 0 _) (fun q hq e => Nat.lt_irrefl _ (Nat.lt_of_lt_of_le (OH2 q hq) (Nat.le_trans hPB (Nat.le_of_eq (Option.some.inj e)))))
              have O3_z : Hid (Owns 2 (wd18.setCells pb17 0 [.int .i64 r1, .int .i64 r2, .int .i64 r3, .int .i64 r4, .slice h1 L2 hc1, .slice h2 L2 hc2, .slice h3 L2 hc3, .slice h4 L2 hc4]) wq.heap.size g3 L gc3 z3) := O3_t18.out.grownR (grown_cells (World.grownBy.refl _ _) 0 _) (fun q hq e => Nat.lt_irrefl _ (Nat.lt_of_lt_of_le (OH3 q hq) (Nat.le_trans hPB (Nat.le_of_eq (Option.some.inj e)))))
              have O4_z : Hid (Owns 2 (wd18.setCells pb17 0 [.int .i64 r1, .int .i64 r2, .int .i64 r3, .int .i64 r4, .slice h1 L2 hc1, .slice h2 L2 hc2, .slice h3 L2 hc3, .slice h4 L2 hc4]) wq.heap.size g4 L gc4 z4) := O4_t18.out.grownR (grown_cells (World.grownBy.refl _ _) 0 _) (fun q hq e => Nat.lt_irrefl _ (Nat.lt_of_lt_of_le (OH4 q hq) (Nat.le_trans hPB (Nat.le_of_eq (Option.some.inj e)))))
              have Q1_z : Hid (Owns 2 (wd18.setCells pb17 0 [.int .i64 r1, .int .i64 r2, .int .i64 r3, .int .i64 r4, .slice h1 L2 hc1, .slice h2 L2 hc2, .slice h3 L2 hc3, .slice h4 L2 hc4]) w2.heap.size h1 L2 hc1 zz1) := Q1_t18.out.grownR (grown_cells (World.grownBy.refl _ _) 0 _) (fun q hq e => NF1_t18.out q hq (Option.some.inj e).symm)
              refine hK.out _ _ hSz (fun hSzz => ?_)
              clear hK Kk hSzz
              generalize (wd18.setCells pb17 0 [.int .i64 r1, .int .i64 r2, .int .i64 r3, .int .i64 r4, .slice h1 L2 hc1, .slice h2 L2 hc2, .slice h3 L2 hc3, .slice h4 L2 hc4]) = wx at hSz HQ_z HM_z HZ_z HP_z RD_z GR_z O1_z O2_z O3_z O4_z Q1_z ⊢
              try simp only [Act.put]
              refine wpAnyH_take (i := 9) (v := .bool o2) rfl (by kernel_rfl) (by kernel_rfl) (by kernel_rfl) (fun _ _ _ h => h) (Or.inl ⟨by kernel_rfl, ?_⟩) (by assumption) ?_
              · intro wq hSq; go_simp
              try simp only [Act.put]
              refine wpAnyH_done (by kernel_rfl) ?_ _
              refine NoPanic.normal ?_
              go_simp
              clear hSz lM lZ lP lW lR lw lS
              have J_HM : Hid _ := HM_z.out
              have J_HZ : Hid _ := HZ_z.out
              have J_HP : Hid _ := HP_z.out
              have J_RD : Hid _ := RD_z.out
              have J_GR : Hid _ := GR_z.out
              have J_O1 : Hid _ := O1_z.out
              have J_O2 : Hid _ := O2_z.out
              have J_O3 : Hid _ := O3_z.out
              have J_O4 : Hid _ := O4_z.out
              have J_Q1 : Hid _ := Q1_z.out
              have J_LM : Hid _ := LM_t18.out
              have J_HQ : Hid _ := HQ_z.out
              have J_QB : Hid _ := hPB
              clear hPB
              clear HQ_z HM_z HZ_z HP_z RD_z GR_z O1_z O2_z O3_z O4_z Q1_z HM_t18 HZ_t18 RD_t18 GR_t18 O1_t18 O2_t18 O3_t18 O4_t18 HP_t18 HA_t18 PB_t17 Q1_t18 LM_t18 NF1_t18
              generalize pb17 = qb at J_QB J_HQ ⊢
              revert J_QB J_HQ J_LM J_Q1 J_O4 J_O3 J_O2 J_O1 J_GR J_RD J_HP J_HZ J_HM
              revert wx
              revert qb
              revert hc4
              revert h4
              revert hc3
              revert h3
              revert hc2
              revert h2
              revert hc1
              revert h1
              clear zz2 zz3 zz4
              revert zz1
              revert o2
              revert L2
              revert r4
              revert r3
              revert r2
              revert r1
              revert ty
              revert tx
              exact key
        · rw [if_pos (by kernel_rfl)]
          refine wp_alloc_as 34 rfl #[.int .i64 0, .int .i64 0, .int .i64 0, .int .i64 0, .slice none 0 0, .slice none 0 0, .slice none 0 0, .slice none 0 0] (by kernel_rfl) ?_
          have hba : Below wd0.heap.size wd0 (wd0.alloc (.cells #[.int .i64 0, .int .i64 0, .int .i64 0, .int .i64 0, .slice none 0 0, .slice none 0 0, .slice none 0 0, .slice none 0 0] 34)) := (Below.refl _ _).alloc (Nat.le_refl _) _
          have hS19 : w2.grownBy (wd0.alloc (.cells #[.int .i64 0, .int .i64 0, .int .i64 0, .int .i64 0, .slice none 0 0, .slice none 0 0, .slice none 0 0, .slice none 0 0] 34)) (some R) := grown_alloc hHeld _
          have HM_t19 : Hid (Lies (wd0.alloc (.cells #[.int .i64 0, .int .i64 0, .int .i64 0, .int .i64 0, .slice none 0 0, .slice none 0 0, .slice none 0 0, .slice none 0 0] 34)) w.heap.size [.int .i64 a, .int .i64 b, .int .i64 c, .int .i64 d, .int .i64 f, .int .i64 k, .int .i64 a', .int .i64 b', .int .i64 c', .int .i64 d', .int .i64 f', .int .i64 k']) := HM_r0.out.belowS hba
          have HZ_t19 : Hid (Lies (wd0.alloc (.cells #[.int .i64 0, .int .i64 0, .int .i64 0, .int .i64 0, .slice none 0 0, .slice none 0 0, .slice none 0 0, .slice none 0 0] 34)) (w.heap.size + 1) [.int .i64 0, .int .i64 0, .int .i64 0, .int .i64 0, .slice none 0 0, .slice none 0 0, .slice none 0 0, .slice none 0 0]) := HZ_r0.out.belowS hba
          have RD_t19 : Hid (Rd w0 R ca len cap (wd0.alloc (.cells #[.int .i64 0, .int .i64 0, .int .i64 0, .int .i64 0, .slice none 0 0, .slice none 0 0, .slice none 0 0, .slice none 0 0] 34))) := RD_r0.out.grow hba
          have GR_t19 : Hid (w.grownBy (wd0.alloc (.cells #[.int .i64 0, .int .i64 0, .int .i64 0, .int .i64 0, .slice none 0 0, .slice none 0 0, .slice none 0 0, .slice none 0 0] 34)) (some R)) := GR_r0.out.trans (grown_of_below hba _)
          have O1_t19 : Hid (Owns 2 (wd0.alloc (.cells #[.int .i64 0, .int .i64 0, .int .i64 0, .int .i64 0, .slice none 0 0, .slice none 0 0, .slice none 0 0, .slice none 0 0] 34)) wq.heap.size g1 L gc1 z1) := O1_r0.out.below hba
          have O2_t19 : Hid (Owns 2 (wd0.alloc (.cells #[.int .i64 0, .int .i64 0, .int .i64 0, .int .i64 0, .slice none 0 0, .slice none 0 0, .slice none 0 0, .slice none 0 0] 34)) wq.heap.size g2 L gc2 z2) := O2_r0.out.below hba
          have O3_t19 : Hid (Owns 2 (wd0.alloc (.cells #[.int .i64 0, .int .i64 0, .int .i64 0, .int .i64 0, .slice none 0 0, .slice none 0 0, .slice none 0 0, .slice none 0 0] 34)) wq.heap.size g3 L gc3 z3) := O3_r0.out.below hba
          have O4_t19 : Hid (Owns 2 (wd0.alloc (.cells #[.int .i64 0, .int .i64 0, .int .i64 0, .int .i64 0, .slice none 0 0, .slice none 0 0, .slice none 0 0, .slice none 0 0] 34)) wq.heap.size g4 L gc4 z4) := O4_r0.out.below hba
          have HP_t19 : Hid (Lies (wd0.alloc (.cells #[.int .i64 0, .int .i64 0, .int .i64 0, .int .i64 0, .slice none 0 0, .slice none 0 0, .slice none 0 0, .slice none 0 0] 34)) pb [.int .i64 p1, .int .i64 p2, .int .i64 p3, .int .i64 p4, .slice g1 L gc1, .slice g2 L gc2, .slice g3 L gc3, .slice g4 L gc4]) := HP_r0.out.belowS hba
          have HA_t19 : Hid (Lies (wd0.alloc (.cells #[.int .i64 0, .int .i64 0, .int .i64 0, .int .i64 0, .slice none 0 0, .slice none 0 0, .slice none 0 0, .slice none 0 0] 34)) wd0.heap.size [.int .i64 0, .int .i64 0, .int .i64 0, .int .i64 0, .slice none 0 0, .slice none 0 0, .slice none 0 0, .slice none 0 0]) := lies_new _ _ _
          have PB_t19 : Hid (w2.heap.size ≤ wd0.heap.size) := hHeld.size
          refine hK.out _ _ hS19 (fun _ => ?_)
          clear hK Kk hba HM_r0 HZ_r0 RD_r0 GR_r0 O1_r0 O2_r0 O3_r0 O4_r0 HP_r0
          generalize (wd0.alloc (.cells #[.int .i64 0, .int .i64 0, .int .i64 0, .int .i64 0, .slice none 0 0, .slice none 0 0, .slice none 0 0, .slice none 0 0] 34)) = wd19 at HA_t19 hS19 HM_t19 HZ_t19 RD_t19 GR_t19 O1_t19 O2_t19 O3_t19 O4_t19 HP_t19 ⊢
          generalize wd0.heap.size = pb19 at HA_t19 PB_t19 ⊢
          try simp only [Act.put]
          refine wpAnyH_ready (rs := [2]) (by kernel_rfl) (by simp) ?_
          refine AllReadyH.cons rfl (fun Kk hK => ?_) (AllReadyH.nil)
          · go_simp
            refine (stateR_any HRow.out _ RD_t19.out).mono ?_
            rintro e wd20 ⟨⟨tx, ty⟩, rfl, hr20, hg20⟩
            go_simp
            have hS20 : w2.grownBy wd20 (some R) := hS19.trans hg20
            have HM_t20 : Hid (Lies wd20 w.heap.size [.int .i64 a, .int .i64 b, .int .i64 c, .int .i64 d, .int .i64 f, .int .i64 k, .int .i64 a', .int .i64 b', .int .i64 c', .int .i64 d', .int .i64 f', .int .i64 k']) := HM_t19.out.grown hg20 HNm
            have HZ_t20 : Hid (Lies wd20 (w.heap.size + 1) [.int .i64 0, .int .i64 0, .int .i64 0, .int .i64 0, .slice none 0 0, .slice none 0 0, .slice none 0 0, .slice none 0 0]) := HZ_t19.out.grown hg20 HNz
            have RD_t20 : Hid (Rd w0 R ca len cap wd20) := hr20
            have GR_t20 : Hid (w.grownBy wd20 (some R)) := GR_t19.out.trans hg20
            have O1_t20 : Hid (Owns 2 wd20 wq.heap.size g1 L gc1 z1) := O1_t19.out.grownR hg20 LOR1
            have O2_t20 : Hid (Owns 2 wd20 wq.heap.size g2 L gc2 z2) := O2_t19.out.grownR hg20 LOR2
            have O3_t20 : Hid (Owns 2 wd20 wq.heap.size g3 L gc3 z3) := O3_t19.out.grownR hg20 LOR3
            have O4_t20 : Hid (Owns 2 wd20 wq.heap.size g4 L gc4 z4) := O4_t19.out.grownR hg20 LOR4
            have HP_t20 : Hid (Lies wd20 pb [.int .i64 p1, .int .i64 p2, .int .i64 p3, .int .i64 p4, .slice g1 L gc1, .slice g2 L gc2, .slice g3 L gc3, .slice g4 L gc4]) := HP_t19.out.grown hg20 kS
            have HA_t20 : Hid (Lies wd20 pb19 [.int .i64 0, .int .i64 0, .int .i64 0, .int .i64 0, .slice none 0 0, .slice none 0 0, .slice none 0 0, .slice none 0 0]) := HA_t19.out.grown hg20 (HPB2.out _ PB_t19.out).2.2.2.2.2.2
            refine hK.out _ _ hS20 (fun _ => ?_)
            clear hK Kk hg20 hr20 HM_t19 HZ_t19 RD_t19 GR_t19 O1_t19 O2_t19 O3_t19 O4_t19 HP_t19 HA_t19
            try simp only [Act.put]
            refine wpAnyH_ready (rs := [3]) (by kernel_rfl) (by simp) ?_
            refine AllReadyH.cons rfl (fun Kk hK => ?_) (AllReadyH.nil)
            · go_simp
              refine (CS.out (tx, ty) 4 _).mono ?_
              rintro e wd21 ⟨r1, r2, r3, r4, L2, o2, zz1, zz2, zz3, zz4, h1, hc1, h2, hc2, h3, hc3, h4, hc4, rfl, hL, ⟨q1, q2, q3, q4⟩, hfar, hb21⟩
              go_simp
              have hS21 : w2.grownBy wd21 (some R) := hS20.trans (grown_of_below hb21 _)
              have HM_t21 : Hid (Lies wd21 w.heap.size [.int .i64 a, .int .i64 b, .int .i64 c, .int .i64 d, .int .i64 f, .int .i64 k, .int .i64 a', .int .i64 b', .int .i64 c', .int .i64 d', .int .i64 f', .int .i64 k']) := HM_t20.out.belowS hb21
              have HZ_t21 : Hid (Lies wd21 (w.heap.size + 1) [.int .i64 0, .int .i64 0, .int .i64 0, .int .i64 0, .slice none 0 0, .slice none 0 0, .slice none 0 0, .slice none 0 0]) := HZ_t20.out.belowS hb21
              have RD_t21 : Hid (Rd w0 R ca len cap wd21) := RD_t20.out.grow hb21
              have GR_t21 : Hid (w.grownBy wd21 (some R)) := GR_t20.out.trans (grown_of_below hb21 _)
              have O1_t21 : Hid (Owns 2 wd21 wq.heap.size g1 L gc1 z1) := O1_t20.out.below hb21
              have O2_t21 : Hid (Owns 2 wd21 wq.heap.size g2 L gc2 z2) := O2_t20.out.below hb21
              have O3_t21 : Hid (Owns 2 wd21 wq.heap.size g3 L gc3 z3) := O3_t20.out.below hb21
              have O4_t21 : Hid (Owns 2 wd21 wq.heap.size g4 L gc4 z4) := O4_t20.out.below hb21
              have HP_t21 : Hid (Lies wd21 pb [.int .i64 p1, .int .i64 p2, .int .i64 p3, .int .i64 p4, .slice g1 L gc1, .slice g2 L gc2, .slice g3 L gc3, .slice g4 L gc4]) := HP_t20.out.belowS hb21
              have HA_t21 : Hid (Lies wd21 pb19 [.int .i64 0, .int .i64 0, .int .i64 0, .int .i64 0, .slice none 0 0, .slice none 0 0, .slice none 0 0, .slice none 0 0]) := HA_t20.out.belowS hb21
              have Q1_t21 : Hid (Owns 2 wd21 w2.heap.size h1 L2 hc1 zz1) := q1.mono hS20.size
              have LM_t21 : Hid (L2 ≤ 64) := hL
              have NF1_t21 : Hid (∀ q, h1 = some q → q.block ≠ pb19) := fun q hq => Nat.ne_of_gt (Nat.lt_of_lt_of_le HA_t20.out.2.2 (q1.lo q hq))
              clear q1 q2 q3 q4 hfar hL
              refine hK.out _ _ hS21 (fun _ => ?_)
              clear hK Kk hb21 HM_t20 HZ_t20 RD_t20 GR_t20 O1_t20 O2_t20 O3_t20 O4_t20 HP_t20 HA_t20
              try simp only [Act.put]
              refine wpAnyH_take (i := 4) (v := .tuple #[.agg #[.int .i64 r1, .int .i64 r2, .int .i64 r3, .int .i64 r4, .slice h1 L2 hc1, .slice h2 L2 hc2, .slice h3 L2 hc3, .slice h4 L2 hc4], .bool o2]) rfl (by kernel_rfl) (by kernel_rfl) (by kernel_rfl) (fun _ _ _ h => h) (Or.inl ⟨by kernel_rfl, ?_⟩) (by assumption) ?_
              · intro wq hSq; go_simp
              try simp only [Act.put]
              refine wpAnyH_take (i := 5) (v := .agg #[.int .i64 r1, .int .i64 r2, .int .i64 r3, .int .i64 r4, .slice h1 L2 hc1, .slice h2 L2 hc2, .slice h3 L2 hc3, .slice h4 L2 hc4]) rfl (by kernel_rfl) (by kernel_rfl) (by kernel_rfl) (fun _ _ _ h => h) (Or.inl ⟨by kernel_rfl, ?_⟩) (by assumption) ?_
              · intro wq hSq; go_simp
              try simp only [Act.put]
              refine wpAnyH_take (i := 6) (v := .bool o2) rfl (by kernel_rfl) (by kernel_rfl) (by kernel_rfl) (fun _ _ _ h => h) (Or.inl ⟨by kernel_rfl, ?_⟩) (by assumption) ?_
              · intro wq hSq; go_simp
              try simp only [Act.put]
              refine wpAnyH_ready (rs := [8]) (by kernel_rfl) (by simp) ?_
              refine AllReadyH.cons rfl (fun Kk hK => ?_) AllReadyH.nil
              rw [if_pos (by kernel_rfl)]
              with_reducible refine wp_store_mid 34 (.tmp 7) (.tmp 67) ?_ pb19 0 ([.int .i64 r1, .int .i64 r2, .int .i64 r3, .int .i64 r4, .slice h1 L2 hc1, .slice h2 L2 hc2, .slice h3 L2 hc3, .slice h4 L2 hc4]).toArray ?_ ?_ ?_ (by kernel_rfl) (by kernel_rfl) ?_
              · exact rfl
              · exact rfl
              · exact rfl
              · exact HA_t21.out.there 0 8 (by simp)
              have hPB := PB_t19.out
              obtain ⟨lM, lZ, lP, lW, lR, lw, lS⟩ := HPB2.out _ hPB
              have hSz : w2.grownBy (wd21.setCells pb19 0 [.int .i64 r1, .int .i64 r2, .int .i64 r3, .int .i64 r4, .slice h1 L2 hc1, .slice h2 L2 hc2, .slice h3 L2 hc3, .slice h4 L2 hc4]) (some R) := grown_far hS21 hPB 0 _
              have HQ_z : Hid (Lies (wd21.setCells pb19 0 [.int .i64 r1, .int .i64 r2, .int .i64 r3, .int .i64 r4, .slice h1 L2 hc1, .slice h2 L2 hc2, .slice h3 L2 hc3, .slice h4 L2 hc4]) pb19 [.int .i64 r1, .int .i64 r2, .int .i64 r3, .int .i64 r4, .slice h1 L2 hc1, .slice h2 L2 hc2, .slice h3 L2 hc3, .slice h4 L2 hc4]) := HA_t21.out.setCells [.int .i64 r1, .int .i64 r2, .int .i64 r3, .int .i64 r4, .slice h1 L2 hc1, .slice h2 L2 hc2, .slice h3 L2 hc3, .slice h4 L2 hc4] 0 (by simp)
              have HM_z : Hid (Lies (wd21.setCells pb19 0 [.int .i64 r1, .int .i64 r2, .int .i64 r3, .int .i64 r4, .slice h1 L2 hc1, .slice h2 L2 hc2, .slice h3 L2 hc3, .slice h4 L2 hc4]) w.heap.size [.int .i64 a, .int .i64 b, .int .i64 c, .int .i64 d, .int .i64 f, .int .i64 k, .int .i64 a', .int .i64 b', .int .i64 c', .int .i64 d', .int .i64 f', .int .i64 k']) := Lies.farCells _ 0 HM_t21.out lM
              have HZ_z : Hid (Lies (wd21.setCells pb19 0 [.int .i64 r1, .int .i64 r2, .int .i64 r3, .int .i64 r4, .slice h1 L2 hc1, .slice h2 L2 hc2, .slice h3 L2 hc3, .slice h4 L2 hc4]) (w.heap.size + 1) [.int .i64 0, .int .i64 0, .int .i64 0, .int .i64 0, .slice none 0 0, .slice none 0 0, .slice none 0 0, .slice none 0 0]) := Lies.farCells _ 0 HZ_t21.out lZ
              have HP_z : Hid (Lies (wd21.setCells pb19 0 [.int .i64 r1, .int .i64 r2, .int .i64 r3, .int .i64 r4, .slice h1 L2 hc1, .slice h2 L2 hc2, .slice h3 L2 hc3, .slice h4 L2 hc4]) pb [.int .i64 p1, .int .i64 p2, .int .i64 p3, .int .i64 p4, .slice g1 L gc1, .slice g2 L gc2, .slice g3 L gc3, .slice g4 L gc4]) := Lies.farCells _ 0 HP_t21.out lP
              have RD_z : Hid (Rd w0 R ca len cap (wd21.setCells pb19 0 [.int .i64 r1, .int .i64 r2, .int .i64 r3, .int .i64 r4, .slice h1 L2 hc1, .slice h2 L2 hc2, .slice h3 L2 hc3, .slice h4 L2 hc4])) := RD_t21.out.cells lW lR _
              have GR_z : Hid (w.grownBy (wd21.setCells pb19 0 [.int .i64 r1, .int .i64 r2, .int .i64 r3, .int .i64 r4, .slice h1 L2 hc1, .slice h2 L2 hc2, .slice h3 L2 hc3, .slice h4 L2 hc4]) (some R)) := grown_far GR_t21.out lw 0 _
              have O1_z : Hid (Owns 2 (wd21.setCells pb19 0 [.int .i64 r1, .int .i64 r2, .int .i64 r3, .int .i64 r4, .slice h1 L2 hc1, .slice h2 L2 hc2, .slice h3 L2 hc3, .slice h4 L2 hc4]) wq.heap.size g1 L gc1 z1) := O1_t21.out.grownR (grown_cells (World.grownBy.refl _ _) 0 _) (fun q hq e => Nat.lt_irrefl _ (Nat.lt_of_lt_of_le (OH1 q hq) (Nat.le_trans hPB (Nat.le_of_eq (Option.some.inj e)))))
              have O2_z : Hid (Owns 2 (wd21.setCells pb19 0 [.int .i64 r1, .int .i64 r2, .int .i64 r3, .int .i64 r4, .slice h1 L2 hc1, .slice h2 L2 hc2, .slice h3 L2 hc3, .slice h4 L2 hc4]) wq.heap.size g2 L gc2 z2) := O2_t21.out.grownR (grown_cells (World.grownBy.refl _ _) 0 _) (fun q hq e => Nat.lt_irrefl _ (Nat.lt_of_lt_of_le (OH2 q hq) (Nat.le_trans hPB (Nat.le_of_eq (Option.some.inj e)))))
              have O3_z : Hid (Owns 2 (wd21.setCells pb19 0 [.int .i64 r1, .int .i64 r2, .int .i64 r3, .int .i64 r4, .slice h1 L2 hc1, .slice h2 L2 hc2, .slice h3 L2 hc3, .slice h4 L2 hc4]) wq.heap.size g3 L gc3 z3) := O3_t21.out.grownR (grown_cells (World.grownBy.refl _ _) 0 _) (fun q hq e => Nat.lt_irrefl _ (Nat.lt_of_lt_of_le (OH3 q hq) (Nat.le_trans hPB (Nat.le_of_eq (Option.some.inj e)))))
              have O4_z : Hid (Owns 2 (wd21.setCells pb19 0 [.int .i64 r1, .int .i64 r2, .int .i64 r3, .int .i64 r4, .slice h1 L2 hc1, .slice h2 L2 hc2, .slice h3 L2 hc3, .slice h4 L2 hc4]) wq.heap.size g4 L gc4 z4) := O4_t21.out.grownR (grown_cells (World.grownBy.refl _ _) 0 _) (fun q hq e => Nat.lt_irrefl _ (Nat.lt_of_lt_of_le (OH4 q hq) (Nat.le_trans hPB (Nat.le_of_eq (Option.some.inj e)))))
              have Q1_z : Hid (Owns 2 (wd21.setCells pb19 0 [.int .i64 r1, .int .i64 r2, .int .i64 r3, .int .i64 r4, .slice h1 L2 hc1, .slice h2 L2 hc2, .slice h3 L2 hc3, .slice h4 L2 hc4]) w2.heap.size h1 L2 hc1 zz1) := Q1_t21.out.grownR (grown_cells (World.grownBy.refl _ _) 0 _) (fun q hq e => NF1_t21.out q hq (Option.some.inj e).symm)
              refine hK.out _ _ hSz (fun hSzz => ?_)
              clear hK Kk hSzz
              generalize (wd21.setCells pb19 0 [.int .i64 r1, .int .i64 r2, .int .i64 r3, .int .i64 r4, .slice h1 L2 hc1, .slice h2 L2 hc2, .slice h3 L2 hc3, .slice h4 L2 hc4]) = wx at hSz HQ_z HM_z HZ_z HP_z RD_z GR_z O1_z O2_z O3_z O4_z Q1_z ⊢
              try simp only [Act.put]
              refine wpAnyH_take (i := 9) (v := .bool o2) rfl (by kernel_rfl) (by kernel_rfl) (by kernel_rfl) (fun _ _ _ h => h) (Or.inl ⟨by kernel_rfl, ?_⟩) (by assumption) ?_
              · intro wq hSq; go_simp
              try simp only [Act.put]
              refine wpAnyH_done (by kernel_rfl) ?_ _
              refine NoPanic.normal ?_
              go_simp
              clear hSz lM lZ lP lW lR lw lS
              have J_HM : Hid _ := HM_z.out
              have J_HZ : Hid _ := HZ_z.out
              have J_HP : Hid _ := HP_z.out
              have J_RD : Hid _ := RD_z.out
              have J_GR : Hid _ := GR_z.out
              have J_O1 : Hid _ := O1_z.out
              have J_O2 : Hid _ := O2_z.out
              have J_O3 : Hid _ := O3_z.out
              have J_O4 : Hid _ := O4_z.out
              have J_Q1 : Hid _ := Q1_z.out
              have J_LM : Hid _ := LM_t21.out
              have J_HQ : Hid _ := HQ_z.out
              have J_QB : Hid _ := hPB
              clear hPB
              clear HQ_z HM_z HZ_z HP_z RD_z GR_z O1_z O2_z O3_z O4_z Q1_z HM_t21 HZ_t21 RD_t21 GR_t21 O1_t21 O2_t21 O3_t21 O4_t21 HP_t21 HA_t21 PB_t19 Q1_t21 LM_t21 NF1_t21
              generalize pb19 = qb at J_QB J_HQ ⊢
              revert J_QB J_HQ J_LM J_Q1 J_O4 J_O3 J_O2 J_O1 J_GR J_RD J_HP J_HZ J_HM
              revert wx
              revert qb
              revert hc4
              revert h4
              revert hc3
              revert h3
              revert hc2
              revert h2
              revert hc1
              revert h1
              clear zz2 zz3 zz4
              revert zz1
              revert o2
              revert L2
              revert r4
              revert r3
              revert r2
              revert r1
              revert ty
              revert tx
              exact key
      case h =>
        intro tx ty r1 r2 r3 r4 L2 o2 zz1 h1 hc1 h2 hc2 h3 hc3 h4 hc4 qb wx J_HM J_HZ J_HP J_RD J_GR J_O1 J_O2 J_O3 J_O4 J_Q1 J_LM J_QB J_HQ
        clear HM_1 HZ_1 RD_1 GR_1 O1_1 O2_1 O3_1 O4_1 HP_1
        have HM_2 : Hid (Lies wx w.heap.size [.int .i64 a, .int .i64 b, .int .i64 c, .int .i64 d, .int .i64 f, .int .i64 k, .int .i64 a', .int .i64 b', .int .i64 c', .int .i64 d', .int .i64 f', .int .i64 k']) := J_HM.out
        have HZ_2 : Hid (Lies wx (w.heap.size + 1) [.int .i64 0, .int .i64 0, .int .i64 0, .int .i64 0, .slice none 0 0, .slice none 0 0, .slice none 0 0, .slice none 0 0]) := J_HZ.out
        have HP_2 : Hid (Lies wx pb [.int .i64 p1, .int .i64 p2, .int .i64 p3, .int .i64 p4, .slice g1 L gc1, .slice g2 L gc2, .slice g3 L gc3, .slice g4 L gc4]) := J_HP.out
        have RD_2 : Hid (Rd w0 R ca len cap wx) := J_RD.out
        have GR_2 : Hid (w.grownBy wx (some R)) := J_GR.out
        have O1_2 : Hid (Owns 2 wx wq.heap.size g1 L gc1 z1) := J_O1.out
        have O2_2 : Hid (Owns 2 wx wq.heap.size g2 L gc2 z2) := J_O2.out
        have O3_2 : Hid (Owns 2 wx wq.heap.size g3 L gc3 z3) := J_O3.out
        have O4_2 : Hid (Owns 2 wx wq.heap.size g4 L gc4 z4) := J_O4.out
        have Q1_2 : Hid (Owns 2 wx w2.heap.size h1 L2 hc1 zz1) := J_Q1.out
        have HQ_2 : Hid (Lies wx qb [.int .i64 r1, .int .i64 r2, .int .i64 r3, .int .i64 r4, .slice h1 L2 hc1, .slice h2 L2 hc2, .slice h3 L2 hc3, .slice h4 L2 hc4]) := J_HQ.out
        have hL2 : L2 ≤ 64 := J_LM.out
        have LH : ∀ q, h1 = some q → w2.heap.size ≤ q.block := Q1_2.out.lo
        have hw2 : w.heap.size + 2 ≤ w2.heap.size := i2w
        have NZh : ∀ q, h1 = some q → q.block ≠ w.heap.size + 1 := fun q hq => by have := LH q hq; omega
        have NPh : ∀ q, h1 = some q → q.block ≠ pb := fun q hq => by have := LH q hq; omega
        have LWh : ∀ q, h1 = some q → w.heap.size ≤ q.block := fun q hq => by have := LH q hq; omega
        clear J_HM J_HZ J_HP J_RD J_GR J_O1 J_O2 J_O3 J_O4 J_Q1 J_LM J_HQ J_QB
        have c0 : wx.cell? ⟨pb, 0, none⟩ = some (.int .i64 p1) := HP_2.out.at 0
        have c1 : wx.cell? ⟨pb, 1, none⟩ = some (.int .i64 p2) := HP_2.out.at 1
        have c2 : wx.cell? ⟨pb, 2, none⟩ = some (.int .i64 p3) := HP_2.out.at 2
        have c3 : wx.cell? ⟨pb, 3, none⟩ = some (.int .i64 p4) := HP_2.out.at 3
        have c4 : wx.cell? ⟨pb, 4, none⟩ = some (.slice g1 L gc1) := HP_2.out.at 4
        have c5 : wx.cell? ⟨pb, 5, none⟩ = some (.slice g2 L gc2) := HP_2.out.at 5
        have c6 : wx.cell? ⟨pb, 6, none⟩ = some (.slice g3 L gc3) := HP_2.out.at 6
        have c7 : wx.cell? ⟨pb, 7, none⟩ = some (.slice g4 L gc4) := HP_2.out.at 7
        have y0 : wx.cell? ⟨w.heap.size + 1, 0, none⟩ = some (.int .i64 0) := HZ_2.out.at 0
        have y1 : wx.cell? ⟨w.heap.size + 1, 1, none⟩ = some (.int .i64 0) := HZ_2.out.at 1
        have y2 : wx.cell? ⟨w.heap.size + 1, 2, none⟩ = some (.int .i64 0) := HZ_2.out.at 2
        have y3 : wx.cell? ⟨w.heap.size + 1, 3, none⟩ = some (.int .i64 0) := HZ_2.out.at 3
        have y4 : wx.cell? ⟨w.heap.size + 1, 4, none⟩ = some (.slice none 0 0) := HZ_2.out.at 4
        have y5 : wx.cell? ⟨w.heap.size + 1, 5, none⟩ = some (.slice none 0 0) := HZ_2.out.at 5
        have y6 : wx.cell? ⟨w.heap.size + 1, 6, none⟩ = some (.slice none 0 0) := HZ_2.out.at 6
        have y7 : wx.cell? ⟨w.heap.size + 1, 7, none⟩ = some (.slice none 0 0) := HZ_2.out.at 7
        have f0 : wx.frozen? ⟨w.heap.size + 1, 0, none⟩ = false := HZ_2.out.fr 0
        have f1 : wx.frozen? ⟨w.heap.size + 1, 1, none⟩ = false := HZ_2.out.fr 1
        have f2 : wx.frozen? ⟨w.heap.size + 1, 2, none⟩ = false := HZ_2.out.fr 2
        have f3 : wx.frozen? ⟨w.heap.size + 1, 3, none⟩ = false := HZ_2.out.fr 3
        have f4 : wx.frozen? ⟨w.heap.size + 1, 4, none⟩ = false := HZ_2.out.fr 4
        have f5 : wx.frozen? ⟨w.heap.size + 1, 5, none⟩ = false := HZ_2.out.fr 5
        have f6 : wx.frozen? ⟨w.heap.size + 1, 6, none⟩ = false := HZ_2.out.fr 6
        have f7 : wx.frozen? ⟨w.heap.size + 1, 7, none⟩ = false := HZ_2.out.fr 7
        have r0 : wx.frozen? ⟨pb, 0, none⟩ = false := HP_2.out.fr 0
        have r1 : wx.frozen? ⟨pb, 1, none⟩ = false := HP_2.out.fr 1
        have r2 : wx.frozen? ⟨pb, 2, none⟩ = false := HP_2.out.fr 2
        have r3 : wx.frozen? ⟨pb, 3, none⟩ = false := HP_2.out.fr 3
        have r4 : wx.frozen? ⟨pb, 4, none⟩ = false := HP_2.out.fr 4
        have r5 : wx.frozen? ⟨pb, 5, none⟩ = false := HP_2.out.fr 5
        have r6 : wx.frozen? ⟨pb, 6, none⟩ = false := HP_2.out.fr 6
        have r7 : wx.frozen? ⟨pb, 7, none⟩ = false := HP_2.out.fr 7
        have q4 : wx.cell? ⟨qb, 4, none⟩ = some (.slice h1 L2 hc1) := HQ_2.out.at 4
        go_wp2
        refine bodyPost_ret (v := .agg #[.int .i64 p1, .int .i64 p2, .int .i64 p3, .int .i64 p4, .slice h1 L2 hc1, .slice g2 L gc2, .slice g3 L gc3, .slice g4 L gc4]) (by simp [results, Tryz.results55, go_sem, y0, y1, y2, y3, y4, y5, y6, y7]) rfl ⟨_, _, _, _, _, _, _, zz1, _, _, _, z2, _, _, _, z3, _, _, _, z4, ⟨rfl, ?_, ?_, ?_, ?_, ⟨by omega, by omega, by omega, by omega⟩, ⟨LWh, LW2, LW3, LW4⟩, ?_, ?_⟩⟩
        · exact (Sees.setS ((Sees.setS ((Sees.setS ((Sees.setS ((Sees.setS ((Sees.setS ((Sees.setS ((Sees.setS ((Sees.setS (Q1_2.out.sees) NPh)) NZh)) NZh)) NZh)) NZh)) NZh)) NZh)) NZh)) NZh)
        · exact (Sees.setS ((Sees.setS ((Sees.setS ((Sees.setS ((Sees.setS ((Sees.setS ((Sees.setS ((Sees.setS ((Sees.setS (O2_2.out.sees) NP2)) NZ2)) NZ2)) NZ2)) NZ2)) NZ2)) NZ2)) NZ2)) NZ2)
        · exact (Sees.setS ((Sees.setS ((Sees.setS ((Sees.setS ((Sees.setS ((Sees.setS ((Sees.setS ((Sees.setS ((Sees.setS (O3_2.out.sees) NP3)) NZ3)) NZ3)) NZ3)) NZ3)) NZ3)) NZ3)) NZ3)) NZ3)
        · exact (Sees.setS ((Sees.setS ((Sees.setS ((Sees.setS ((Sees.setS ((Sees.setS ((Sees.setS ((Sees.setS ((Sees.setS (O4_2.out.sees) NP4)) NZ4)) NZ4)) NZ4)) NZ4)) NZ4)) NZ4)) NZ4)) NZ4)
        · exact (Rd.setS ((Rd.setS ((Rd.setS ((Rd.setS ((Rd.setS ((Rd.setS ((Rd.setS ((Rd.setS ((Rd.setS (RD_2.out) (by omega) (by omega))) (by omega) (by omega))) (by omega) (by omega))) (by omega) (by omega))) (by omega) (by omega))) (by omega) (by omega))) (by omega) (by omega))) (by omega) (by omega))) (by omega) (by omega))
        · exact (grown_farS ((grown_farS ((grown_farS ((grown_farS ((grown_farS ((grown_farS ((grown_farS ((grown_farS ((grown_farS (GR_2.out) (by omega))) (by omega))) (by omega))) (by omega))) (by omega))) (by omega))) (by omega))) (by omega))) (by omega))
    by_cases h9 : v2 = 9
    · subst h9
      have d2 : w2.cell? ⟨pb, 2, none⟩ = some (.int .i64 p3) := HP_1.out.at 2
      have d3 : w2.cell? ⟨pb, 3, none⟩ = some (.int .i64 p4) := HP_1.out.at 3
      have hba : Below w2.heap.size w2 (w2.alloc (.cells #[.int .i64 p3, .int .i64 p4] 29)) := (Below.refl _ _).alloc (Nat.le_refl _) _
      have HM_2 : Hid (Lies (w2.alloc (.cells #[.int .i64 p3, .int .i64 p4] 29)) w.heap.size [.int .i64 a, .int .i64 b, .int .i64 c, .int .i64 d, .int .i64 f, .int .i64 k, .int .i64 a', .int .i64 b', .int .i64 c', .int .i64 d', .int .i64 f', .int .i64 k']) := HM_1.out.belowS hba
      have HZ_2 : Hid (Lies (w2.alloc (.cells #[.int .i64 p3, .int .i64 p4] 29)) (w.heap.size + 1) [.int .i64 0, .int .i64 0, .int .i64 0, .int .i64 0, .slice none 0 0, .slice none 0 0, .slice none 0 0, .slice none 0 0]) := HZ_1.out.belowS hba
      have RD_2 : Hid (Rd w0 R ca len cap (w2.alloc (.cells #[.int .i64 p3, .int .i64 p4] 29))) := RD_1.out.grow hba
      have GR_2 : Hid (w.grownBy (w2.alloc (.cells #[.int .i64 p3, .int .i64 p4] 29)) (some R)) := GR_1.out.trans (grown_of_below hba _)
      have O1_2 : Hid (Owns 2 (w2.alloc (.cells #[.int .i64 p3, .int .i64 p4] 29)) wq.heap.size g1 L gc1 z1) := O1_1.out.below hba
      have O2_2 : Hid (Owns 2 (w2.alloc (.cells #[.int .i64 p3, .int .i64 p4] 29)) wq.heap.size g2 L gc2 z2) := O2_1.out.below hba
      have O3_2 : Hid (Owns 2 (w2.alloc (.cells #[.int .i64 p3, .int .i64 p4] 29)) wq.heap.size g3 L gc3 z3) := O3_1.out.below hba
      have O4_2 : Hid (Owns 2 (w2.alloc (.cells #[.int .i64 p3, .int .i64 p4] 29)) wq.heap.size g4 L gc4 z4) := O4_1.out.below hba
      have HP_2 : Hid (Lies (w2.alloc (.cells #[.int .i64 p3, .int .i64 p4] 29)) pb [.int .i64 p1, .int .i64 p2, .int .i64 p3, .int .i64 p4, .slice g1 L gc1, .slice g2 L gc2, .slice g3 L gc3, .slice g4 L gc4]) := HP_1.out.belowS hba
      clear HM_1 HZ_1 RD_1 GR_1 O1_1 O2_1 O3_1 O4_1 HP_1
      clear hba
      have HN_2 : Hid (Lies (w2.alloc (.cells #[.int .i64 p3, .int .i64 p4] 29)) w2.heap.size [.int .i64 p3, .int .i64 p4]) := lies_new _ _ _
      have c0 : (w2.alloc (.cells #[.int .i64 p3, .int .i64 p4] 29)).cell? ⟨pb, 0, none⟩ = some (.int .i64 p1) := HP_2.out.at 0
      have c1 : (w2.alloc (.cells #[.int .i64 p3, .int .i64 p4] 29)).cell? ⟨pb, 1, none⟩ = some (.int .i64 p2) := HP_2.out.at 1
      have c2 : (w2.alloc (.cells #[.int .i64 p3, .int .i64 p4] 29)).cell? ⟨pb, 2, none⟩ = some (.int .i64 p3) := HP_2.out.at 2
      have c3 : (w2.alloc (.cells #[.int .i64 p3, .int .i64 p4] 29)).cell? ⟨pb, 3, none⟩ = some (.int .i64 p4) := HP_2.out.at 3
      have c4 : (w2.alloc (.cells #[.int .i64 p3, .int .i64 p4] 29)).cell? ⟨pb, 4, none⟩ = some (.slice g1 L gc1) := HP_2.out.at 4
      have c5 : (w2.alloc (.cells #[.int .i64 p3, .int .i64 p4] 29)).cell? ⟨pb, 5, none⟩ = some (.slice g2 L gc2) := HP_2.out.at 5
      have c6 : (w2.alloc (.cells #[.int .i64 p3, .int .i64 p4] 29)).cell? ⟨pb, 6, none⟩ = some (.slice g3 L gc3) := HP_2.out.at 6
      have c7 : (w2.alloc (.cells #[.int .i64 p3, .int .i64 p4] 29)).cell? ⟨pb, 7, none⟩ = some (.slice g4 L gc4) := HP_2.out.at 7
      have y0 : (w2.alloc (.cells #[.int .i64 p3, .int .i64 p4] 29)).cell? ⟨w.heap.size + 1, 0, none⟩ = some (.int .i64 0) := HZ_2.out.at 0
      have y1 : (w2.alloc (.cells #[.int .i64 p3, .int .i64 p4] 29)).cell? ⟨w.heap.size + 1, 1, none⟩ = some (.int .i64 0) := HZ_2.out.at 1
      have y2 : (w2.alloc (.cells #[.int .i64 p3, .int .i64 p4] 29)).cell? ⟨w.heap.size + 1, 2, none⟩ = some (.int .i64 0) := HZ_2.out.at 2
      have y3 : (w2.alloc (.cells #[.int .i64 p3, .int .i64 p4] 29)).cell? ⟨w.heap.size + 1, 3, none⟩ = some (.int .i64 0) := HZ_2.out.at 3
      have y4 : (w2.alloc (.cells #[.int .i64 p3, .int .i64 p4] 29)).cell? ⟨w.heap.size + 1, 4, none⟩ = some (.slice none 0 0) := HZ_2.out.at 4
      have y5 : (w2.alloc (.cells #[.int .i64 p3, .int .i64 p4] 29)).cell? ⟨w.heap.size + 1, 5, none⟩ = some (.slice none 0 0) := HZ_2.out.at 5
      have y6 : (w2.alloc (.cells #[.int .i64 p3, .int .i64 p4] 29)).cell? ⟨w.heap.size + 1, 6, none⟩ = some (.slice none 0 0) := HZ_2.out.at 6
      have y7 : (w2.alloc (.cells #[.int .i64 p3, .int .i64 p4] 29)).cell? ⟨w.heap.size + 1, 7, none⟩ = some (.slice none 0 0) := HZ_2.out.at 7
      have f0 : (w2.alloc (.cells #[.int .i64 p3, .int .i64 p4] 29)).frozen? ⟨w.heap.size + 1, 0, none⟩ = false := HZ_2.out.fr 0
      have f1 : (w2.alloc (.cells #[.int .i64 p3, .int .i64 p4] 29)).frozen? ⟨w.heap.size + 1, 1, none⟩ = false := HZ_2.out.fr 1
      have f2 : (w2.alloc (.cells #[.int .i64 p3, .int .i64 p4] 29)).frozen? ⟨w.heap.size + 1, 2, none⟩ = false := HZ_2.out.fr 2
      have f3 : (w2.alloc (.cells #[.int .i64 p3, .int .i64 p4] 29)).frozen? ⟨w.heap.size + 1, 3, none⟩ = false := HZ_2.out.fr 3
      have f4 : (w2.alloc (.cells #[.int .i64 p3, .int .i64 p4] 29)).frozen? ⟨w.heap.size + 1, 4, none⟩ = false := HZ_2.out.fr 4
      have f5 : (w2.alloc (.cells #[.int .i64 p3, .int .i64 p4] 29)).frozen? ⟨w.heap.size + 1, 5, none⟩ = false := HZ_2.out.fr 5
      have f6 : (w2.alloc (.cells #[.int .i64 p3, .int .i64 p4] 29)).frozen? ⟨w.heap.size + 1, 6, none⟩ = false := HZ_2.out.fr 6
      have f7 : (w2.alloc (.cells #[.int .i64 p3, .int .i64 p4] 29)).frozen? ⟨w.heap.size + 1, 7, none⟩ = false := HZ_2.out.fr 7
      have r0 : (w2.alloc (.cells #[.int .i64 p3, .int .i64 p4] 29)).frozen? ⟨pb, 0, none⟩ = false := HP_2.out.fr 0
      have r1 : (w2.alloc (.cells #[.int .i64 p3, .int .i64 p4] 29)).frozen? ⟨pb, 1, none⟩ = false := HP_2.out.fr 1
      have r2 : (w2.alloc (.cells #[.int .i64 p3, .int .i64 p4] 29)).frozen? ⟨pb, 2, none⟩ = false := HP_2.out.fr 2
      have r3 : (w2.alloc (.cells #[.int .i64 p3, .int .i64 p4] 29)).frozen? ⟨pb, 3, none⟩ = false := HP_2.out.fr 3
      have r4 : (w2.alloc (.cells #[.int .i64 p3, .int .i64 p4] 29)).frozen? ⟨pb, 4, none⟩ = false := HP_2.out.fr 4
      have r5 : (w2.alloc (.cells #[.int .i64 p3, .int .i64 p4] 29)).frozen? ⟨pb, 5, none⟩ = false := HP_2.out.fr 5
      have r6 : (w2.alloc (.cells #[.int .i64 p3, .int .i64 p4] 29)).frozen? ⟨pb, 6, none⟩ = false := HP_2.out.fr 6
      have r7 : (w2.alloc (.cells #[.int .i64 p3, .int .i64 p4] 29)).frozen? ⟨pb, 7, none⟩ = false := HP_2.out.fr 7
      have n0 : (w2.alloc (.cells #[.int .i64 p3, .int .i64 p4] 29)).cell? ⟨w2.heap.size, 0, none⟩ = some (.int .i64 p3) := HN_2.out.at 0
      have n1 : (w2.alloc (.cells #[.int .i64 p3, .int .i64 p4] 29)).cell? ⟨w2.heap.size, 1, none⟩ = some (.int .i64 p4) := HN_2.out.at 1
      go_wp2
      refine bodyPost_ret (v := .agg #[.int .i64 p3, .int .i64 p4, .int .i64 p1, .int .i64 p2, .slice g1 L gc1, .slice g2 L gc2, .slice g3 L gc3, .slice g4 L gc4]) (by simp [results, Tryz.results55, go_sem, y0, y1, y2, y3, y4, y5, y6, y7]) rfl ⟨_, _, _, _, _, _, _, z1, _, _, _, z2, _, _, _, z3, _, _, _, z4, ⟨rfl, ?_, ?_, ?_, ?_, ⟨by omega, by omega, by omega, by omega⟩, ⟨LW1, LW2, LW3, LW4⟩, ?_, ?_⟩⟩
      · exact (Sees.setS ((Sees.setS ((Sees.setS ((Sees.setS ((Sees.setS ((Sees.setS ((Sees.setS ((Sees.setS ((Sees.setS ((Sees.setS ((Sees.setS ((Sees.setS (O1_2.out.sees) NP1)) NP1)) NP1)) NP1)) NZ1)) NZ1)) NZ1)) NZ1)) NZ1)) NZ1)) NZ1)) NZ1)
      · exact (Sees.setS ((Sees.setS ((Sees.setS ((Sees.setS ((Sees.setS ((Sees.setS ((Sees.setS ((Sees.setS ((Sees.setS ((Sees.setS ((Sees.setS ((Sees.setS (O2_2.out.sees) NP2)) NP2)) NP2)) NP2)) NZ2)) NZ2)) NZ2)) NZ2)) NZ2)) NZ2)) NZ2)) NZ2)
      · exact (Sees.setS ((Sees.setS ((Sees.setS ((Sees.setS ((Sees.setS ((Sees.setS ((Sees.setS ((Sees.setS ((Sees.setS ((Sees.setS ((Sees.setS ((Sees.setS (O3_2.out.sees) NP3)) NP3)) NP3)) NP3)) NZ3)) NZ3)) NZ3)) NZ3)) NZ3)) NZ3)) NZ3)) NZ3)
      · exact (Sees.setS ((Sees.setS ((Sees.setS ((Sees.setS ((Sees.setS ((Sees.setS ((Sees.setS ((Sees.setS ((Sees.setS ((Sees.setS ((Sees.setS ((Sees.setS (O4_2.out.sees) NP4)) NP4)) NP4)) NP4)) NZ4)) NZ4)) NZ4)) NZ4)) NZ4)) NZ4)) NZ4)) NZ4)
      · exact (Rd.setS ((Rd.setS ((Rd.setS ((Rd.setS ((Rd.setS ((Rd.setS ((Rd.setS ((Rd.setS ((Rd.setS ((Rd.setS ((Rd.setS ((Rd.setS (RD_2.out) (by omega) (by omega))) (by omega) (by omega))) (by omega) (by omega))) (by omega) (by omega))) (by omega) (by omega))) (by omega) (by omega))) (by omega) (by omega))) (by omega) (by omega))) (by omega) (by omega))) (by omega) (by omega))) (by omega) (by omega))) (by omega) (by omega))
      · exact (grown_farS ((grown_farS ((grown_farS ((grown_farS ((grown_farS ((grown_farS ((grown_farS ((grown_farS ((grown_farS ((grown_farS ((grown_farS ((grown_farS (GR_2.out) (by omega))) (by omega))) (by omega))) (by omega))) (by omega))) (by omega))) (by omega))) (by omega))) (by omega))) (by omega))) (by omega))) (by omega))
    have e5 : (v2 == 5) = false := by simp [h5]
    have e6 : (v2 == 6) = false := by simp [h6]
    have e7 : (v2 == 7) = false := by simp [h7]
    have e8 : (v2 == 8) = false := by simp [h8]
    have e9 : (v2 == 9) = false := by simp [h9]
    clear h5 h6 h7 h8 h9
    have c0 : w2.cell? ⟨pb, 0, none⟩ = some (.int .i64 p1) := HP_1.out.at 0
    have c1 : w2.cell? ⟨pb, 1, none⟩ = some (.int .i64 p2) := HP_1.out.at 1
    have c2 : w2.cell? ⟨pb, 2, none⟩ = some (.int .i64 p3) := HP_1.out.at 2
    have c3 : w2.cell? ⟨pb, 3, none⟩ = some (.int .i64 p4) := HP_1.out.at 3
    have c4 : w2.cell? ⟨pb, 4, none⟩ = some (.slice g1 L gc1) := HP_1.out.at 4
    have c5 : w2.cell? ⟨pb, 5, none⟩ = some (.slice g2 L gc2) := HP_1.out.at 5
    have c6 : w2.cell? ⟨pb, 6, none⟩ = some (.slice g3 L gc3) := HP_1.out.at 6
    have c7 : w2.cell? ⟨pb, 7, none⟩ = some (.slice g4 L gc4) := HP_1.out.at 7
    have y0 : w2.cell? ⟨w.heap.size + 1, 0, none⟩ = some (.int .i64 0) := HZ_1.out.at 0
    have y1 : w2.cell? ⟨w.heap.size + 1, 1, none⟩ = some (.int .i64 0) := HZ_1.out.at 1
    have y2 : w2.cell? ⟨w.heap.size + 1, 2, none⟩ = some (.int .i64 0) := HZ_1.out.at 2
    have y3 : w2.cell? ⟨w.heap.size + 1, 3, none⟩ = some (.int .i64 0) := HZ_1.out.at 3
    have y4 : w2.cell? ⟨w.heap.size + 1, 4, none⟩ = some (.slice none 0 0) := HZ_1.out.at 4
    have y5 : w2.cell? ⟨w.heap.size + 1, 5, none⟩ = some (.slice none 0 0) := HZ_1.out.at 5
    have y6 : w2.cell? ⟨w.heap.size + 1, 6, none⟩ = some (.slice none 0 0) := HZ_1.out.at 6
    have y7 : w2.cell? ⟨w.heap.size + 1, 7, none⟩ = some (.slice none 0 0) := HZ_1.out.at 7
    have f0 : w2.frozen? ⟨w.heap.size + 1, 0, none⟩ = false := HZ_1.out.fr 0
    have f1 : w2.frozen? ⟨w.heap.size + 1, 1, none⟩ = false := HZ_1.out.fr 1
    have f2 : w2.frozen? ⟨w.heap.size + 1, 2, none⟩ = false := HZ_1.out.fr 2
    have f3 : w2.frozen? ⟨w.heap.size + 1, 3, none⟩ = false := HZ_1.out.fr 3
    have f4 : w2.frozen? ⟨w.heap.size + 1, 4, none⟩ = false := HZ_1.out.fr 4
    have f5 : w2.frozen? ⟨w.heap.size + 1, 5, none⟩ = false := HZ_1.out.fr 5
    have f6 : w2.frozen? ⟨w.heap.size + 1, 6, none⟩ = false := HZ_1.out.fr 6
    have f7 : w2.frozen? ⟨w.heap.size + 1, 7, none⟩ = false := HZ_1.out.fr 7
    have r0 : w2.frozen? ⟨pb, 0, none⟩ = false := HP_1.out.fr 0
    have r1 : w2.frozen? ⟨pb, 1, none⟩ = false := HP_1.out.fr 1
    have r2 : w2.frozen? ⟨pb, 2, none⟩ = false := HP_1.out.fr 2
    have r3 : w2.frozen? ⟨pb, 3, none⟩ = false := HP_1.out.fr 3
    have r4 : w2.frozen? ⟨pb, 4, none⟩ = false := HP_1.out.fr 4
    have r5 : w2.frozen? ⟨pb, 5, none⟩ = false := HP_1.out.fr 5
    have r6 : w2.frozen? ⟨pb, 6, none⟩ = false := HP_1.out.fr 6
    have r7 : w2.frozen? ⟨pb, 7, none⟩ = false := HP_1.out.fr 7
    go_wp2
    refine bodyPost_ret (v := .agg #[.int .i64 p1, .int .i64 p2, .int .i64 p3, .int .i64 p4, .slice g1 L gc1, .slice g2 L gc2, .slice g3 L gc3, .slice g4 L gc4]) (by simp [results, Tryz.results55, go_sem, y0, y1, y2, y3, y4, y5, y6, y7]) rfl ⟨_, _, _, _, _, _, _, z1, _, _, _, z2, _, _, _, z3, _, _, _, z4, ⟨rfl, ?_, ?_, ?_, ?_, ⟨by omega, by omega, by omega, by omega⟩, ⟨LW1, LW2, LW3, LW4⟩, ?_, ?_⟩⟩
    · exact (Sees.setS ((Sees.setS ((Sees.setS ((Sees.setS ((Sees.setS ((Sees.setS ((Sees.setS ((Sees.setS (O1_1.out.sees) NZ1)) NZ1)) NZ1)) NZ1)) NZ1)) NZ1)) NZ1)) NZ1)
    · exact (Sees.setS ((Sees.setS ((Sees.setS ((Sees.setS ((Sees.setS ((Sees.setS ((Sees.setS ((Sees.setS (O2_1.out.sees) NZ2)) NZ2)) NZ2)) NZ2)) NZ2)) NZ2)) NZ2)) NZ2)
    · exact (Sees.setS ((Sees.setS ((Sees.setS ((Sees.setS ((Sees.setS ((Sees.setS ((Sees.setS ((Sees.setS (O3_1.out.sees) NZ3)) NZ3)) NZ3)) NZ3)) NZ3)) NZ3)) NZ3)) NZ3)
    · exact (Sees.setS ((Sees.setS ((Sees.setS ((Sees.setS ((Sees.setS ((Sees.setS ((Sees.setS ((Sees.setS (O4_1.out.sees) NZ4)) NZ4)) NZ4)) NZ4)) NZ4)) NZ4)) NZ4)) NZ4)
    · exact (Rd.setS ((Rd.setS ((Rd.setS ((Rd.setS ((Rd.setS ((Rd.setS ((Rd.setS ((Rd.setS (RD_1.out) (by omega) (by omega))) (by omega) (by omega))) (by omega) (by omega))) (by omega) (by omega))) (by omega) (by omega))) (by omega) (by omega))) (by omega) (by omega))) (by omega) (by omega))
    · exact (grown_farS ((grown_farS ((grown_farS ((grown_farS ((grown_farS ((grown_farS ((grown_farS ((grown_farS (GR_1.out) (by omega))) (by omega))) (by omega))) (by omega))) (by omega))) (by omega))) (by omega))) (by omega))
end Go.Proofs.YtbcfjbkmkknmfaaGreatDoor
namespace Go.Proofs.YtbcfjbkmkknmfaaGreatDoor
open Go.RowKit

/-- what is drawn: some machine, some proof -/
def DaPost (w : World) (e : Ending) (w' : World) : Prop := ∃ (m : M.Mc) (s1 s2 e1 e2 : Int) (a1 : Option Addr) (n1 c1 : Nat) (z1 : List Int) (a2 : Option Addr) (n2 c2 : Nat) (z2 : List Int) (a3 : Option Addr) (n3 c3 : Nat) (z3 : List Int) (a4 : Option Addr) (n4 c4 : Nat) (z4 : List Int), e = .returned (.tuple #[mcv m, .agg #[.int .i64 s1, .int .i64 s2, .int .i64 e1, .int .i64 e2, .slice a1 n1 c1, .slice a2 n2 c2, .slice a3 n3 c3, .slice a4 n4 c4]]) ∧ (Sees w' a1 n1 c1 z1 ∧ Sees w' a2 n2 c2 z2 ∧ Sees w' a3 n3 c3 z3 ∧ Sees w' a4 n4 c4 z4) ∧ (n1 ≤ 64 ∧ n2 ≤ 64 ∧ n3 ≤ 64 ∧ n4 ≤ 64) ∧ Below w.heap.size w w'
set_option maxHeartbeats 8000000 in
set_option maxRecDepth 10000 in
theorem drawAccepted_any {ca : Option Addr} {len cap : Nat} {zs : List Int} (w : World) (hrow : Row .u8 w ca len cap zs) :
    Calls Tryz.prog 15 #[.slice ca len cap] w (DaPost w) := by
  have hbw : Below w.heap.size w ((w.alloc (.cells #[.int .i64 0, .int .i64 0, .int .i64 0, .int .i64 0, .int .i64 0, .int .i64 0, .int .i64 0, .int .i64 0, .int .i64 0, .int .i64 0, .int .i64 0, .int .i64 0] 27)).alloc (.cells #[.int .i64 0, .int .i64 0, .int .i64 0, .int .i64 0, .slice none 0 0, .slice none 0 0, .slice none 0 0, .slice none 0 0] 34)) := ((Below.refl _ _).alloc (Nat.le_refl _) _).alloc (by simp) _
  have HRow : Hid (Row .u8 ((w.alloc (.cells #[.int .i64 0, .int .i64 0, .int .i64 0, .int .i64 0, .int .i64 0, .int .i64 0, .int .i64 0, .int .i64 0, .int .i64 0, .int .i64 0, .int .i64 0, .int .i64 0] 27)).alloc (.cells #[.int .i64 0, .int .i64 0, .int .i64 0, .int .i64 0, .slice none 0 0, .slice none 0 0, .slice none 0 0, .slice none 0 0] 34)) ca len cap zs) := hrow.below2 hbw
  have HBW : Hid (Below w.heap.size w ((w.alloc (.cells #[.int .i64 0, .int .i64 0, .int .i64 0, .int .i64 0, .int .i64 0, .int .i64 0, .int .i64 0, .int .i64 0, .int .i64 0, .int .i64 0, .int .i64 0, .int .i64 0] 27)).alloc (.cells #[.int .i64 0, .int .i64 0, .int .i64 0, .int .i64 0, .slice none 0 0, .slice none 0 0, .slice none 0 0, .slice none 0 0] 34))) := hbw
  have HZA : Hid (Lies ((w.alloc (.cells #[.int .i64 0, .int .i64 0, .int .i64 0, .int .i64 0, .int .i64 0, .int .i64 0, .int .i64 0, .int .i64 0, .int .i64 0, .int .i64 0, .int .i64 0, .int .i64 0] 27)).alloc (.cells #[.int .i64 0, .int .i64 0, .int .i64 0, .int .i64 0, .slice none 0 0, .slice none 0 0, .slice none 0 0, .slice none 0 0] 34)) w.heap.size [.int .i64 0, .int .i64 0, .int .i64 0, .int .i64 0, .int .i64 0, .int .i64 0, .int .i64 0, .int .i64 0, .int .i64 0, .int .i64 0, .int .i64 0, .int .i64 0]) := (lies_new _ _ _).alloc _
  have HZB : Hid (Lies ((w.alloc (.cells #[.int .i64 0, .int .i64 0, .int .i64 0, .int .i64 0, .int .i64 0, .int .i64 0, .int .i64 0, .int .i64 0, .int .i64 0, .int .i64 0, .int .i64 0, .int .i64 0] 27)).alloc (.cells #[.int .i64 0, .int .i64 0, .int .i64 0, .int .i64 0, .slice none 0 0, .slice none 0 0, .slice none 0 0, .slice none 0 0] 34)) (w.heap.size + 1) [.int .i64 0, .int .i64 0, .int .i64 0, .int .i64 0, .slice none 0 0, .slice none 0 0, .slice none 0 0, .slice none 0 0]) := lies_new2 _ _ _ _
  have hsw : ((w.alloc (.cells #[.int .i64 0, .int .i64 0, .int .i64 0, .int .i64 0, .int .i64 0, .int .i64 0, .int .i64 0, .int .i64 0, .int .i64 0, .int .i64 0, .int .i64 0, .int .i64 0] 27)).alloc (.cells #[.int .i64 0, .int .i64 0, .int .i64 0, .int .i64 0, .slice none 0 0, .slice none 0 0, .slice none 0 0, .slice none 0 0] 34)).heap.size = w.heap.size + 1 + 1 := by simp
  clear hbw hrow
  go_enter Tryz.func15, Tryz.ntmps15
  go_wp2_with fail
  refine (open_any _).mono ?_
  rintro e w1 ⟨rfl, hr1⟩
  rw [hsw]
  rw [hsw] at hr1
  generalize ((w.alloc (.cells #[.int .i64 0, .int .i64 0, .int .i64 0, .int .i64 0, .int .i64 0, .int .i64 0, .int .i64 0, .int .i64 0, .int .i64 0, .int .i64 0, .int .i64 0, .int .i64 0] 27)).alloc (.cells #[.int .i64 0, .int .i64 0, .int .i64 0, .int .i64 0, .slice none 0 0, .slice none 0 0, .slice none 0 0, .slice none 0 0] 34)) = wb at hr1 HRow HBW HZA HZB hsw
  have hR1 := hr1.hi
  have RD_0 : Hid (Rd wb (w.heap.size + 1 + 1) ca len cap w1) := hr1
  clear hr1
  go_wp2_with fail
  refine (machineR_any HRow.out _ RD_0.out).mono ?_
  rintro e w2 ⟨⟨⟨a, b, c, d, f, k⟩, ⟨a', b', c', d', f', k'⟩⟩, rfl, hr, hg⟩
  have RD_1 : Hid (Rd wb (w.heap.size + 1 + 1) ca len cap w2) := hr
  clear RD_0
  clear hg hr
  have hR2 : (w.heap.size + 1 + 1) < w2.heap.size := RD_1.out.hi
  dsimp only [mcv]
  have hba : Below w2.heap.size w2 (w2.alloc (.cells #[.int .i64 a, .int .i64 b, .int .i64 c, .int .i64 d, .int .i64 f, .int .i64 k, .int .i64 a', .int .i64 b', .int .i64 c', .int .i64 d', .int .i64 f', .int .i64 k'] 27)) := (Below.refl _ _).alloc (Nat.le_refl _) _
  have RD_2 : Hid (Rd wb (w.heap.size + 1 + 1) ca len cap (w2.alloc (.cells #[.int .i64 a, .int .i64 b, .int .i64 c, .int .i64 d, .int .i64 f, .int .i64 k, .int .i64 a', .int .i64 b', .int .i64 c', .int .i64 d', .int .i64 f', .int .i64 k'] 27))) := RD_1.out.grow hba
  clear RD_1
  clear hba
  have HM_2 : Hid (Lies (w2.alloc (.cells #[.int .i64 a, .int .i64 b, .int .i64 c, .int .i64 d, .int .i64 f, .int .i64 k, .int .i64 a', .int .i64 b', .int .i64 c', .int .i64 d', .int .i64 f', .int .i64 k'] 27)) w2.heap.size [.int .i64 a, .int .i64 b, .int .i64 c, .int .i64 d, .int .i64 f, .int .i64 k, .int .i64 a', .int .i64 b', .int .i64 c', .int .i64 d', .int .i64 f', .int .i64 k']) := lies_new _ _ _
  go_wp2_with fail
  generalize (w2.alloc (.cells #[.int .i64 a, .int .i64 b, .int .i64 c, .int .i64 d, .int .i64 f, .int .i64 k, .int .i64 a', .int .i64 b', .int .i64 c', .int .i64 d', .int .i64 f', .int .i64 k'] 27)) = w3 at RD_2 HM_2  ⊢
  generalize w2.heap.size = mb at HM_2 hR2 ⊢
  have hm3 : mb < w3.heap.size := HM_2.out.2.2
  refine (proofR_any HRow.out ⟨⟨a, b, c, d, f, k⟩, ⟨a', b', c', d', f', k'⟩⟩ _ RD_2.out).mono ?_
  rintro e w4 ⟨s1, s2, e1, e2, a1, n1, c1, z1, a2, n2, c2, z2, a3, n3, c3, z3, a4, n4, c4, z4, ⟨rfl, x1, x2, x3, x4, ⟨l1, l2, l3, l4⟩, ⟨o1, o2, o3, o4⟩, hr, hg⟩⟩
  have RD_3 : Hid (Rd wb (w.heap.size + 1 + 1) ca len cap w4) := hr
  have HM_3 : Hid (Lies w4 mb [.int .i64 a, .int .i64 b, .int .i64 c, .int .i64 d, .int .i64 f, .int .i64 k, .int .i64 a', .int .i64 b', .int .i64 c', .int .i64 d', .int .i64 f', .int .i64 k']) := HM_2.out.grown hg (by simp; omega)
  clear RD_2 HM_2
  have S1_3 : Hid (Sees w4 a1 n1 c1 z1) := x1
  have LOS1 : Hid (∀ q, a1 = some q → w3.heap.size ≤ q.block) := o1
  have S2_3 : Hid (Sees w4 a2 n2 c2 z2) := x2
  have LOS2 : Hid (∀ q, a2 = some q → w3.heap.size ≤ q.block) := o2
  have S3_3 : Hid (Sees w4 a3 n3 c3 z3) := x3
  have LOS3 : Hid (∀ q, a3 = some q → w3.heap.size ≤ q.block) := o3
  have S4_3 : Hid (Sees w4 a4 n4 c4 z4) := x4
  have LOS4 : Hid (∀ q, a4 = some q → w3.heap.size ≤ q.block) := o4
  have hs34 := hg.size
  clear hg hr x1 x2 x3 x4 o1 o2 o3 o4
  have hba : Below w4.heap.size w4 (w4.alloc (.cells #[.int .i64 s1, .int .i64 s2, .int .i64 e1, .int .i64 e2, .slice a1 n1 c1, .slice a2 n2 c2, .slice a3 n3 c3, .slice a4 n4 c4] 34)) := (Below.refl _ _).alloc (Nat.le_refl _) _
  have RD_4 : Hid (Rd wb (w.heap.size + 1 + 1) ca len cap (w4.alloc (.cells #[.int .i64 s1, .int .i64 s2, .int .i64 e1, .int .i64 e2, .slice a1 n1 c1, .slice a2 n2 c2, .slice a3 n3 c3, .slice a4 n4 c4] 34))) := RD_3.out.grow hba
  have HM_4 : Hid (Lies (w4.alloc (.cells #[.int .i64 s1, .int .i64 s2, .int .i64 e1, .int .i64 e2, .slice a1 n1 c1, .slice a2 n2 c2, .slice a3 n3 c3, .slice a4 n4 c4] 34)) mb [.int .i64 a, .int .i64 b, .int .i64 c, .int .i64 d, .int .i64 f, .int .i64 k, .int .i64 a', .int .i64 b', .int .i64 c', .int .i64 d', .int .i64 f', .int .i64 k']) := HM_3.out.belowS hba
  have S1_4 : Hid (Sees (w4.alloc (.cells #[.int .i64 s1, .int .i64 s2, .int .i64 e1, .int .i64 e2, .slice a1 n1 c1, .slice a2 n2 c2, .slice a3 n3 c3, .slice a4 n4 c4] 34)) a1 n1 c1 z1) := S1_3.out.below hba
  have S2_4 : Hid (Sees (w4.alloc (.cells #[.int .i64 s1, .int .i64 s2, .int .i64 e1, .int .i64 e2, .slice a1 n1 c1, .slice a2 n2 c2, .slice a3 n3 c3, .slice a4 n4 c4] 34)) a2 n2 c2 z2) := S2_3.out.below hba
  have S3_4 : Hid (Sees (w4.alloc (.cells #[.int .i64 s1, .int .i64 s2, .int .i64 e1, .int .i64 e2, .slice a1 n1 c1, .slice a2 n2 c2, .slice a3 n3 c3, .slice a4 n4 c4] 34)) a3 n3 c3 z3) := S3_3.out.below hba
  have S4_4 : Hid (Sees (w4.alloc (.cells #[.int .i64 s1, .int .i64 s2, .int .i64 e1, .int .i64 e2, .slice a1 n1 c1, .slice a2 n2 c2, .slice a3 n3 c3, .slice a4 n4 c4] 34)) a4 n4 c4 z4) := S4_3.out.below hba
  clear RD_3 HM_3 S1_3 S2_3 S3_3 S4_3
  clear hba
  have HP_4 : Hid (Lies (w4.alloc (.cells #[.int .i64 s1, .int .i64 s2, .int .i64 e1, .int .i64 e2, .slice a1 n1 c1, .slice a2 n2 c2, .slice a3 n3 c3, .slice a4 n4 c4] 34)) w4.heap.size [.int .i64 s1, .int .i64 s2, .int .i64 e1, .int .i64 e2, .slice a1 n1 c1, .slice a2 n2 c2, .slice a3 n3 c3, .slice a4 n4 c4]) := lies_new _ _ _
  go_wp2_with fail
  have hRp : (w.heap.size + 1 + 1) < w4.heap.size := by omega
  have hmp : mb < w4.heap.size := by omega
  generalize (w4.alloc (.cells #[.int .i64 s1, .int .i64 s2, .int .i64 e1, .int .i64 e2, .slice a1 n1 c1, .slice a2 n2 c2, .slice a3 n3 c3, .slice a4 n4 c4] 34)) = w5 at RD_4 HM_4 S1_4 S2_4 S3_4 S4_4 HP_4  ⊢
  generalize w4.heap.size = pb at HP_4 hRp hmp ⊢
  have hp5 : pb < w5.heap.size := HP_4.out.2.2
  refine (once_any HRow.out 8 (by decide) (by decide) _ RD_4.out).mono ?_
  rintro e w6 ⟨ob, rfl, hr, hg⟩
  have RD_5 : Hid (Rd wb (w.heap.size + 1 + 1) ca len cap w6) := hr
  have HM_5 : Hid (Lies w6 mb [.int .i64 a, .int .i64 b, .int .i64 c, .int .i64 d, .int .i64 f, .int .i64 k, .int .i64 a', .int .i64 b', .int .i64 c', .int .i64 d', .int .i64 f', .int .i64 k']) := HM_4.out.grown hg (by simp; omega)
  have S1_5 : Hid (Sees w6 a1 n1 c1 z1) := S1_4.out.grownR hg (fun q hq e => by have := LOS1.out q hq; injection e with e; omega)
  have S2_5 : Hid (Sees w6 a2 n2 c2 z2) := S2_4.out.grownR hg (fun q hq e => by have := LOS2.out q hq; injection e with e; omega)
  have S3_5 : Hid (Sees w6 a3 n3 c3 z3) := S3_4.out.grownR hg (fun q hq e => by have := LOS3.out q hq; injection e with e; omega)
  have S4_5 : Hid (Sees w6 a4 n4 c4 z4) := S4_4.out.grownR hg (fun q hq e => by have := LOS4.out q hq; injection e with e; omega)
  have HP_5 : Hid (Lies w6 pb [.int .i64 s1, .int .i64 s2, .int .i64 e1, .int .i64 e2, .slice a1 n1 c1, .slice a2 n2 c2, .slice a3 n3 c3, .slice a4 n4 c4]) := HP_4.out.grown hg (by simp; omega)
  clear RD_4 HM_4 S1_4 S2_4 S3_4 S4_4 HP_4
  clear hg hr
  have NA1 : ∀ q, a1 = some q → q.block ≠ w.heap.size := fun q hq => by have := LOS1.out q hq; omega
  have NB1 : ∀ q, a1 = some q → q.block ≠ w.heap.size + 1 := fun q hq => by have := LOS1.out q hq; omega
  have NM1 : ∀ q, a1 = some q → q.block ≠ mb := fun q hq => by have := LOS1.out q hq; omega
  have NA2 : ∀ q, a2 = some q → q.block ≠ w.heap.size := fun q hq => by have := LOS2.out q hq; omega
  have NB2 : ∀ q, a2 = some q → q.block ≠ w.heap.size + 1 := fun q hq => by have := LOS2.out q hq; omega
  have NM2 : ∀ q, a2 = some q → q.block ≠ mb := fun q hq => by have := LOS2.out q hq; omega
  have NA3 : ∀ q, a3 = some q → q.block ≠ w.heap.size := fun q hq => by have := LOS3.out q hq; omega
  have NB3 : ∀ q, a3 = some q → q.block ≠ w.heap.size + 1 := fun q hq => by have := LOS3.out q hq; omega
  have NM3 : ∀ q, a3 = some q → q.block ≠ mb := fun q hq => by have := LOS3.out q hq; omega
  have NA4 : ∀ q, a4 = some q → q.block ≠ w.heap.size := fun q hq => by have := LOS4.out q hq; omega
  have NB4 : ∀ q, a4 = some q → q.block ≠ w.heap.size + 1 := fun q hq => by have := LOS4.out q hq; omega
  have NM4 : ∀ q, a4 = some q → q.block ≠ mb := fun q hq => by have := LOS4.out q hq; omega
  cases ob with
  | false =>
    go_wp2_with fail
    have HB_d : Hid (Below w.heap.size w w6.drew) := (HBW.out.trans (RD_5.out.below.mono HBW.out.size)).trans ((Below.refl _ _).drew.mono (Nat.le_trans HBW.out.size RD_5.out.below.size))
    have ZA_d : Hid (Lies w6.drew w.heap.size [.int .i64 0, .int .i64 0, .int .i64 0, .int .i64 0, .int .i64 0, .int .i64 0, .int .i64 0, .int .i64 0, .int .i64 0, .int .i64 0, .int .i64 0, .int .i64 0]) := (HZA.out.belowS RD_5.out.below).belowS (Below.refl _ _).drew
    have ZB_d : Hid (Lies w6.drew (w.heap.size + 1) [.int .i64 0, .int .i64 0, .int .i64 0, .int .i64 0, .slice none 0 0, .slice none 0 0, .slice none 0 0, .slice none 0 0]) := (HZB.out.belowS RD_5.out.below).belowS (Below.refl _ _).drew
    have T1_d : Hid (Sees w6.drew a1 n1 c1 z1) := S1_5.out.below (Below.refl _ _).drew
    have T2_d : Hid (Sees w6.drew a2 n2 c2 z2) := S2_5.out.below (Below.refl _ _).drew
    have T3_d : Hid (Sees w6.drew a3 n3 c3 z3) := S3_5.out.below (Below.refl _ _).drew
    have T4_d : Hid (Sees w6.drew a4 n4 c4 z4) := S4_5.out.below (Below.refl _ _).drew
    refine wp_region_noPanic ?_
    refine wp_region_held_drew (S := fun W => Lies W mb [.int .i64 a, .int .i64 b, .int .i64 c, .int .i64 d, .int .i64 f, .int .i64 k, .int .i64 a', .int .i64 b', .int .i64 c', .int .i64 d', .int .i64 f', .int .i64 k'] ∧ Lies W pb [.int .i64 s1, .int .i64 s2, .int .i64 e1, .int .i64 e2, .slice a1 n1 c1, .slice a2 n2 c2, .slice a3 n3 c3, .slice a4 n4 c4]) (by kernel_rfl) ⟨HM_5.out.belowS (Below.refl _ _).drew, HP_5.out.belowS (Below.refl _ _).drew⟩ (fun hHeld => ?_)
    generalize w6.drew = wd0 at hHeld HB_d ZA_d ZB_d T1_d T2_d T3_d T4_d ⊢
    refine wpAnyH_take (i := 0) (v := .agg ([.int .i64 a, .int .i64 b, .int .i64 c, .int .i64 d, .int .i64 f, .int .i64 k, .int .i64 a', .int .i64 b', .int .i64 c', .int .i64 d', .int .i64 f', .int .i64 k']).toArray) rfl (by kernel_rfl) (by kernel_rfl) (by kernel_rfl) (fun _ _ _ h => h) (yieldsIf_load_mid (by kernel_rfl) 27 (.tmp 5) rfl mb 0 rfl ([.int .i64 a, .int .i64 b, .int .i64 c, .int .i64 d, .int .i64 f, .int .i64 k, .int .i64 a', .int .i64 b', .int .i64 c', .int .i64 d', .int .i64 f', .int .i64 k']) _ (fun W h => h.1.row) Tryz.underlying27 rfl (by kernel_rfl)) (by assumption) ?_
    try simp only [Act.put]
    refine wpAnyH_take (i := 1) (v := .agg ([.int .i64 s1, .int .i64 s2, .int .i64 e1, .int .i64 e2, .slice a1 n1 c1, .slice a2 n2 c2, .slice a3 n3 c3, .slice a4 n4 c4]).toArray) rfl (by kernel_rfl) (by kernel_rfl) (by kernel_rfl) (fun _ _ _ h => h) (yieldsIf_load_mid (by kernel_rfl) 34 (.tmp 6) rfl pb 0 rfl ([.int .i64 s1, .int .i64 s2, .int .i64 e1, .int .i64 e2, .slice a1 n1 c1, .slice a2 n2 c2, .slice a3 n3 c3, .slice a4 n4 c4]) _ (fun W h => h.2.row) Tryz.underlying34 rfl (by kernel_rfl)) (by assumption) ?_
    try simp only [Act.put]
    have jm : mb ≠ w.heap.size := by omega
    have jn : mb ≠ w.heap.size + 1 := by omega
    have jp : pb ≠ w.heap.size := by omega
    have jq : pb ≠ w.heap.size + 1 := by omega
    have jr : w.heap.size + 1 ≠ w.heap.size := by omega
    have hT1 : Lies (wd0.setCells w.heap.size 0 [.int .i64 a, .int .i64 b, .int .i64 c, .int .i64 d, .int .i64 f, .int .i64 k, .int .i64 a', .int .i64 b', .int .i64 c', .int .i64 d', .int .i64 f', .int .i64 k']) mb [.int .i64 a, .int .i64 b, .int .i64 c, .int .i64 d, .int .i64 f, .int .i64 k, .int .i64 a', .int .i64 b', .int .i64 c', .int .i64 d', .int .i64 f', .int .i64 k'] ∧ Lies (wd0.setCells w.heap.size 0 [.int .i64 a, .int .i64 b, .int .i64 c, .int .i64 d, .int .i64 f, .int .i64 k, .int .i64 a', .int .i64 b', .int .i64 c', .int .i64 d', .int .i64 f', .int .i64 k']) pb [.int .i64 s1, .int .i64 s2, .int .i64 e1, .int .i64 e2, .slice a1 n1 c1, .slice a2 n2 c2, .slice a3 n3 c3, .slice a4 n4 c4] := ⟨Lies.farCells _ 0 hHeld.1 jm, Lies.farCells _ 0 hHeld.2 jp⟩
    have ZB_1 : Hid (Lies (wd0.setCells w.heap.size 0 [.int .i64 a, .int .i64 b, .int .i64 c, .int .i64 d, .int .i64 f, .int .i64 k, .int .i64 a', .int .i64 b', .int .i64 c', .int .i64 d', .int .i64 f', .int .i64 k']) (w.heap.size + 1) [.int .i64 0, .int .i64 0, .int .i64 0, .int .i64 0, .slice none 0 0, .slice none 0 0, .slice none 0 0, .slice none 0 0]) := Lies.farCells _ 0 ZB_d.out jr
    have hT2 : Lies ((wd0.setCells w.heap.size 0 [.int .i64 a, .int .i64 b, .int .i64 c, .int .i64 d, .int .i64 f, .int .i64 k, .int .i64 a', .int .i64 b', .int .i64 c', .int .i64 d', .int .i64 f', .int .i64 k']).setCells (w.heap.size + 1) 0 [.int .i64 s1, .int .i64 s2, .int .i64 e1, .int .i64 e2, .slice a1 n1 c1, .slice a2 n2 c2, .slice a3 n3 c3, .slice a4 n4 c4]) mb [.int .i64 a, .int .i64 b, .int .i64 c, .int .i64 d, .int .i64 f, .int .i64 k, .int .i64 a', .int .i64 b', .int .i64 c', .int .i64 d', .int .i64 f', .int .i64 k'] ∧ Lies ((wd0.setCells w.heap.size 0 [.int .i64 a, .int .i64 b, .int .i64 c, .int .i64 d, .int .i64 f, .int .i64 k, .int .i64 a', .int .i64 b', .int .i64 c', .int .i64 d', .int .i64 f', .int .i64 k']).setCells (w.heap.size + 1) 0 [.int .i64 s1, .int .i64 s2, .int .i64 e1, .int .i64 e2, .slice a1 n1 c1, .slice a2 n2 c2, .slice a3 n3 c3, .slice a4 n4 c4]) pb [.int .i64 s1, .int .i64 s2, .int .i64 e1, .int .i64 e2, .slice a1 n1 c1, .slice a2 n2 c2, .slice a3 n3 c3, .slice a4 n4 c4] := ⟨Lies.farCells _ 0 hT1.1 jn, Lies.farCells _ 0 hT1.2 jq⟩
    have LA : Hid (Lies ((wd0.setCells w.heap.size 0 [.int .i64 a, .int .i64 b, .int .i64 c, .int .i64 d, .int .i64 f, .int .i64 k, .int .i64 a', .int .i64 b', .int .i64 c', .int .i64 d', .int .i64 f', .int .i64 k']).setCells (w.heap.size + 1) 0 [.int .i64 s1, .int .i64 s2, .int .i64 e1, .int .i64 e2, .slice a1 n1 c1, .slice a2 n2 c2, .slice a3 n3 c3, .slice a4 n4 c4]) w.heap.size [.int .i64 a, .int .i64 b, .int .i64 c, .int .i64 d, .int .i64 f, .int .i64 k, .int .i64 a', .int .i64 b', .int .i64 c', .int .i64 d', .int .i64 f', .int .i64 k']) := Lies.farCells _ 0 (ZA_d.out.setCells [.int .i64 a, .int .i64 b, .int .i64 c, .int .i64 d, .int .i64 f, .int .i64 k, .int .i64 a', .int .i64 b', .int .i64 c', .int .i64 d', .int .i64 f', .int .i64 k'] 0 (by simp)) jr.symm
    have LB : Hid (Lies ((wd0.setCells w.heap.size 0 [.int .i64 a, .int .i64 b, .int .i64 c, .int .i64 d, .int .i64 f, .int .i64 k, .int .i64 a', .int .i64 b', .int .i64 c', .int .i64 d', .int .i64 f', .int .i64 k']).setCells (w.heap.size + 1) 0 [.int .i64 s1, .int .i64 s2, .int .i64 e1, .int .i64 e2, .slice a1 n1 c1, .slice a2 n2 c2, .slice a3 n3 c3, .slice a4 n4 c4]) (w.heap.size + 1) [.int .i64 s1, .int .i64 s2, .int .i64 e1, .int .i64 e2, .slice a1 n1 c1, .slice a2 n2 c2, .slice a3 n3 c3, .slice a4 n4 c4]) := ZB_1.out.setCells [.int .i64 s1, .int .i64 s2, .int .i64 e1, .int .i64 e2, .slice a1 n1 c1, .slice a2 n2 c2, .slice a3 n3 c3, .slice a4 n4 c4] 0 (by simp)
    have HBf : Hid (Below w.heap.size w ((wd0.setCells w.heap.size 0 [.int .i64 a, .int .i64 b, .int .i64 c, .int .i64 d, .int .i64 f, .int .i64 k, .int .i64 a', .int .i64 b', .int .i64 c', .int .i64 d', .int .i64 f', .int .i64 k']).setCells (w.heap.size + 1) 0 [.int .i64 s1, .int .i64 s2, .int .i64 e1, .int .i64 e2, .slice a1 n1 c1, .slice a2 n2 c2, .slice a3 n3 c3, .slice a4 n4 c4])) := below_setCells _ 0 (below_setCells _ 0 HB_d.out (Nat.le_refl _)) (by omega)
    have U1 : Hid (Sees ((wd0.setCells w.heap.size 0 [.int .i64 a, .int .i64 b, .int .i64 c, .int .i64 d, .int .i64 f, .int .i64 k, .int .i64 a', .int .i64 b', .int .i64 c', .int .i64 d', .int .i64 f', .int .i64 k']).setCells (w.heap.size + 1) 0 [.int .i64 s1, .int .i64 s2, .int .i64 e1, .int .i64 e2, .slice a1 n1 c1, .slice a2 n2 c2, .slice a3 n3 c3, .slice a4 n4 c4]) a1 n1 c1 z1) := (T1_d.out.grownR (grown_cells (World.grownBy.refl _ _) 0 _) (fun q hq e => NA1 q hq (Option.some.inj e).symm)).grownR (grown_cells (World.grownBy.refl _ _) 0 _) (fun q hq e => NB1 q hq (Option.some.inj e).symm)
    have U2 : Hid (Sees ((wd0.setCells w.heap.size 0 [.int .i64 a, .int .i64 b, .int .i64 c, .int .i64 d, .int .i64 f, .int .i64 k, .int .i64 a', .int .i64 b', .int .i64 c', .int .i64 d', .int .i64 f', .int .i64 k']).setCells (w.heap.size + 1) 0 [.int .i64 s1, .int .i64 s2, .int .i64 e1, .int .i64 e2, .slice a1 n1 c1, .slice a2 n2 c2, .slice a3 n3 c3, .slice a4 n4 c4]) a2 n2 c2 z2) := (T2_d.out.grownR (grown_cells (World.grownBy.refl _ _) 0 _) (fun q hq e => NA2 q hq (Option.some.inj e).symm)).grownR (grown_cells (World.grownBy.refl _ _) 0 _) (fun q hq e => NB2 q hq (Option.some.inj e).symm)
    have U3 : Hid (Sees ((wd0.setCells w.heap.size 0 [.int .i64 a, .int .i64 b, .int .i64 c, .int .i64 d, .int .i64 f, .int .i64 k, .int .i64 a', .int .i64 b', .int .i64 c', .int .i64 d', .int .i64 f', .int .i64 k']).setCells (w.heap.size + 1) 0 [.int .i64 s1, .int .i64 s2, .int .i64 e1, .int .i64 e2, .slice a1 n1 c1, .slice a2 n2 c2, .slice a3 n3 c3, .slice a4 n4 c4]) a3 n3 c3 z3) := (T3_d.out.grownR (grown_cells (World.grownBy.refl _ _) 0 _) (fun q hq e => NA3 q hq (Option.some.inj e).symm)).grownR (grown_cells (World.grownBy.refl _ _) 0 _) (fun q hq e => NB3 q hq (Option.some.inj e).symm)
    have U4 : Hid (Sees ((wd0.setCells w.heap.size 0 [.int .i64 a, .int .i64 b, .int .i64 c, .int .i64 d, .int .i64 f, .int .i64 k, .int .i64 a', .int .i64 b', .int .i64 c', .int .i64 d', .int .i64 f', .int .i64 k']).setCells (w.heap.size + 1) 0 [.int .i64 s1, .int .i64 s2, .int .i64 e1, .int .i64 e2, .slice a1 n1 c1, .slice a2 n2 c2, .slice a3 n3 c3, .slice a4 n4 c4]) a4 n4 c4 z4) := (T4_d.out.grownR (grown_cells (World.grownBy.refl _ _) 0 _) (fun q hq e => NA4 q hq (Option.some.inj e).symm)).grownR (grown_cells (World.grownBy.refl _ _) 0 _) (fun q hq e => NB4 q hq (Option.some.inj e).symm)
    refine wpAnyH_ready (rs := [2]) (by kernel_rfl) (by simp) ?_
    refine AllReadyH.cons rfl (fun Kk hK => ?_) AllReadyH.nil
    rw [if_pos (by kernel_rfl)]
    with_reducible refine wp_store_mid 27 (.tmp 2) (.tmp 20) ?_ w.heap.size 0 ([.int .i64 a, .int .i64 b, .int .i64 c, .int .i64 d, .int .i64 f, .int .i64 k, .int .i64 a', .int .i64 b', .int .i64 c', .int .i64 d', .int .i64 f', .int .i64 k']).toArray ?_ ?_ ?_ (by kernel_rfl) (by kernel_rfl) ?_
    · exact rfl
    · exact rfl
    · exact rfl
    · exact ZA_d.out.there 0 12 (by simp)
    refine hK.out _ _ (hT1) (fun hHeld2 => ?_)
    clear hK Kk
    try simp only [Act.put]
    refine wpAnyH_ready (rs := [3]) (by kernel_rfl) (by simp) ?_
    refine AllReadyH.cons rfl (fun Kk hK => ?_) AllReadyH.nil
    rw [if_pos (by kernel_rfl)]
    with_reducible refine wp_store_mid 34 (.tmp 3) (.tmp 21) ?_ (w.heap.size + 1) 0 ([.int .i64 s1, .int .i64 s2, .int .i64 e1, .int .i64 e2, .slice a1 n1 c1, .slice a2 n2 c2, .slice a3 n3 c3, .slice a4 n4 c4]).toArray ?_ ?_ ?_ (by kernel_rfl) (by kernel_rfl) ?_
    · exact rfl
    · exact rfl
    · exact rfl
    · exact ZB_1.out.there 0 8 (by simp)
    refine hK.out _ _ (hT2) (fun hHeld2 => ?_)
    clear hK Kk
    try simp only [Act.put]
    refine wpAnyH_done (by kernel_rfl) ?_ _
    refine NoPanic.normal ?_
    go_simp
    clear hT1 hT2
    generalize ((wd0.setCells w.heap.size 0 [.int .i64 a, .int .i64 b, .int .i64 c, .int .i64 d, .int .i64 f, .int .i64 k, .int .i64 a', .int .i64 b', .int .i64 c', .int .i64 d', .int .i64 f', .int .i64 k']).setCells (w.heap.size + 1) 0 [.int .i64 s1, .int .i64 s2, .int .i64 e1, .int .i64 e2, .slice a1 n1 c1, .slice a2 n2 c2, .slice a3 n3 c3, .slice a4 n4 c4]) = wf at LA LB HBf U1 U2 U3 U4 ⊢
    have u0 : wf.cell? ⟨w.heap.size, 0, none⟩ = some (.int .i64 a) := LA.out.at 0
    have u1 : wf.cell? ⟨w.heap.size, 1, none⟩ = some (.int .i64 b) := LA.out.at 1
    have u2 : wf.cell? ⟨w.heap.size, 2, none⟩ = some (.int .i64 c) := LA.out.at 2
    have u3 : wf.cell? ⟨w.heap.size, 3, none⟩ = some (.int .i64 d) := LA.out.at 3
    have u4 : wf.cell? ⟨w.heap.size, 4, none⟩ = some (.int .i64 f) := LA.out.at 4
    have u5 : wf.cell? ⟨w.heap.size, 5, none⟩ = some (.int .i64 k) := LA.out.at 5
    have u6 : wf.cell? ⟨w.heap.size, 6, none⟩ = some (.int .i64 a') := LA.out.at 6
    have u7 : wf.cell? ⟨w.heap.size, 7, none⟩ = some (.int .i64 b') := LA.out.at 7
    have u8 : wf.cell? ⟨w.heap.size, 8, none⟩ = some (.int .i64 c') := LA.out.at 8
    have u9 : wf.cell? ⟨w.heap.size, 9, none⟩ = some (.int .i64 d') := LA.out.at 9
    have u10 : wf.cell? ⟨w.heap.size, 10, none⟩ = some (.int .i64 f') := LA.out.at 10
    have u11 : wf.cell? ⟨w.heap.size, 11, none⟩ = some (.int .i64 k') := LA.out.at 11
    have x0 : wf.cell? ⟨w.heap.size + 1, 0, none⟩ = some (.int .i64 s1) := LB.out.at 0
    have x1 : wf.cell? ⟨w.heap.size + 1, 1, none⟩ = some (.int .i64 s2) := LB.out.at 1
    have x2 : wf.cell? ⟨w.heap.size + 1, 2, none⟩ = some (.int .i64 e1) := LB.out.at 2
    have x3 : wf.cell? ⟨w.heap.size + 1, 3, none⟩ = some (.int .i64 e2) := LB.out.at 3
    have x4 : wf.cell? ⟨w.heap.size + 1, 4, none⟩ = some (.slice a1 n1 c1) := LB.out.at 4
    have x5 : wf.cell? ⟨w.heap.size + 1, 5, none⟩ = some (.slice a2 n2 c2) := LB.out.at 5
    have x6 : wf.cell? ⟨w.heap.size + 1, 6, none⟩ = some (.slice a3 n3 c3) := LB.out.at 6
    have x7 : wf.cell? ⟨w.heap.size + 1, 7, none⟩ = some (.slice a4 n4 c4) := LB.out.at 7
    go_wp2
    refine bodyPost_ret (v := .tuple #[.agg #[.int .i64 a, .int .i64 b, .int .i64 c, .int .i64 d, .int .i64 f, .int .i64 k, .int .i64 a', .int .i64 b', .int .i64 c', .int .i64 d', .int .i64 f', .int .i64 k'], .agg #[.int .i64 s1, .int .i64 s2, .int .i64 e1, .int .i64 e2, .slice a1 n1 c1, .slice a2 n2 c2, .slice a3 n3 c3, .slice a4 n4 c4]]) (by simp [results, Tryz.results15, go_sem, u0, u1, u2, u3, u4, u5, u6, u7, u8, u9, u10, u11, x0, x1, x2, x3, x4, x5, x6, x7]) rfl (by unfold DaPost; exact ⟨⟨⟨a, b, c, d, f, k⟩, ⟨a', b', c', d', f', k'⟩⟩, s1, s2, e1, e2, a1, n1, c1, z1, a2, n2, c2, z2, a3, n3, c3, z3, a4, n4, c4, z4, rfl, ⟨U1.out, U2.out, U3.out, U4.out⟩, ⟨l1, l2, l3, l4⟩, HBf.out⟩)
  | true =>
    go_wp2_with fail
    refine (elem_any HRow.out _ RD_5.out).mono ?_
    rintro e w7 ⟨ev, ev0, ev1, rfl, hr, hg⟩
    have RD_6 : Hid (Rd wb (w.heap.size + 1 + 1) ca len cap w7) := hr
    have HM_6 : Hid (Lies w7 mb [.int .i64 a, .int .i64 b, .int .i64 c, .int .i64 d, .int .i64 f, .int .i64 k, .int .i64 a', .int .i64 b', .int .i64 c', .int .i64 d', .int .i64 f', .int .i64 k']) := HM_5.out.grown hg (by simp; omega)
    have S1_6 : Hid (Sees w7 a1 n1 c1 z1) := S1_5.out.grownR hg (fun q hq e => by have := LOS1.out q hq; injection e with e; omega)
    have S2_6 : Hid (Sees w7 a2 n2 c2 z2) := S2_5.out.grownR hg (fun q hq e => by have := LOS2.out q hq; injection e with e; omega)
    have S3_6 : Hid (Sees w7 a3 n3 c3 z3) := S3_5.out.grownR hg (fun q hq e => by have := LOS3.out q hq; injection e with e; omega)
    have S4_6 : Hid (Sees w7 a4 n4 c4 z4) := S4_5.out.grownR hg (fun q hq e => by have := LOS4.out q hq; injection e with e; omega)
    have HP_6 : Hid (Lies w7 pb [.int .i64 s1, .int .i64 s2, .int .i64 e1, .int .i64 e2, .slice a1 n1 c1, .slice a2 n2 c2, .slice a3 n3 c3, .slice a4 n4 c4]) := HP_5.out.grown hg (by simp; omega)
    clear RD_5 HM_5 S1_5 S2_5 S3_5 S4_5 HP_5
    clear hg hr
    have m11 : w7.cell? ⟨mb, 11, none⟩ = some (.int .i64 k') := HM_6.out.at 11
    have mf : w7.frozen? ⟨mb, 11, none⟩ = false := HM_6.out.fr 11
    go_wp2_with fail
    clear m11 mf
    have HM_x : Hid (Lies (w7.setCell ⟨mb, 11, none⟩ (.int .i64 ev)) mb [.int .i64 a, .int .i64 b, .int .i64 c, .int .i64 d, .int .i64 f, .int .i64 k, .int .i64 a', .int .i64 b', .int .i64 c', .int .i64 d', .int .i64 f', .int .i64 ev]) := HM_6.out.set 11 (by simp) _
    have HP_x : Hid (Lies (w7.setCell ⟨mb, 11, none⟩ (.int .i64 ev)) pb [.int .i64 s1, .int .i64 s2, .int .i64 e1, .int .i64 e2, .slice a1 n1 c1, .slice a2 n2 c2, .slice a3 n3 c3, .slice a4 n4 c4]) := HP_6.out.far (by omega) _ _
    have RD_x : Hid (Rd wb (w.heap.size + 1 + 1) ca len cap (w7.setCell ⟨mb, 11, none⟩ (.int .i64 ev))) := Rd.setS RD_6.out (by omega) (by omega)
    have S1_x : Hid (Sees (w7.setCell ⟨mb, 11, none⟩ (.int .i64 ev)) a1 n1 c1 z1) := Sees.setS S1_6.out NM1
    have S2_x : Hid (Sees (w7.setCell ⟨mb, 11, none⟩ (.int .i64 ev)) a2 n2 c2 z2) := Sees.setS S2_6.out NM2
    have S3_x : Hid (Sees (w7.setCell ⟨mb, 11, none⟩ (.int .i64 ev)) a3 n3 c3 z3) := Sees.setS S3_6.out NM3
    have S4_x : Hid (Sees (w7.setCell ⟨mb, 11, none⟩ (.int .i64 ev)) a4 n4 c4 z4) := Sees.setS S4_6.out NM4
    clear RD_6 HM_6 S1_6 S2_6 S3_6 S4_6 HP_6
    generalize (w7.setCell ⟨mb, 11, none⟩ (.int .i64 ev)) = w8 at HM_x HP_x RD_x S1_x S2_x S3_x S4_x ⊢
    have HB_d : Hid (Below w.heap.size w w8.drew) := (HBW.out.trans (RD_x.out.below.mono HBW.out.size)).trans ((Below.refl _ _).drew.mono (Nat.le_trans HBW.out.size RD_x.out.below.size))
    have ZA_d : Hid (Lies w8.drew w.heap.size [.int .i64 0, .int .i64 0, .int .i64 0, .int .i64 0, .int .i64 0, .int .i64 0, .int .i64 0, .int .i64 0, .int .i64 0, .int .i64 0, .int .i64 0, .int .i64 0]) := (HZA.out.belowS RD_x.out.below).belowS (Below.refl _ _).drew
    have ZB_d : Hid (Lies w8.drew (w.heap.size + 1) [.int .i64 0, .int .i64 0, .int .i64 0, .int .i64 0, .slice none 0 0, .slice none 0 0, .slice none 0 0, .slice none 0 0]) := (HZB.out.belowS RD_x.out.below).belowS (Below.refl _ _).drew
    have T1_d : Hid (Sees w8.drew a1 n1 c1 z1) := S1_x.out.below (Below.refl _ _).drew
    have T2_d : Hid (Sees w8.drew a2 n2 c2 z2) := S2_x.out.below (Below.refl _ _).drew
    have T3_d : Hid (Sees w8.drew a3 n3 c3 z3) := S3_x.out.below (Below.refl _ _).drew
    have T4_d : Hid (Sees w8.drew a4 n4 c4 z4) := S4_x.out.below (Below.refl _ _).drew
    refine wp_region_noPanic ?_
    refine wp_region_held_drew (S := fun W => Lies W mb [.int .i64 a, .int .i64 b, .int .i64 c, .int .i64 d, .int .i64 f, .int .i64 k, .int .i64 a', .int .i64 b', .int .i64 c', .int .i64 d', .int .i64 f', .int .i64 ev] ∧ Lies W pb [.int .i64 s1, .int .i64 s2, .int .i64 e1, .int .i64 e2, .slice a1 n1 c1, .slice a2 n2 c2, .slice a3 n3 c3, .slice a4 n4 c4]) (by kernel_rfl) ⟨HM_x.out.belowS (Below.refl _ _).drew, HP_x.out.belowS (Below.refl _ _).drew⟩ (fun hHeld => ?_)
    generalize w8.drew = wd0 at hHeld HB_d ZA_d ZB_d T1_d T2_d T3_d T4_d ⊢
    refine wpAnyH_take (i := 0) (v := .agg ([.int .i64 a, .int .i64 b, .int .i64 c, .int .i64 d, .int .i64 f, .int .i64 k, .int .i64 a', .int .i64 b', .int .i64 c', .int .i64 d', .int .i64 f', .int .i64 ev]).toArray) rfl (by kernel_rfl) (by kernel_rfl) (by kernel_rfl) (fun _ _ _ h => h) (yieldsIf_load_mid (by kernel_rfl) 27 (.tmp 5) rfl mb 0 rfl ([.int .i64 a, .int .i64 b, .int .i64 c, .int .i64 d, .int .i64 f, .int .i64 k, .int .i64 a', .int .i64 b', .int .i64 c', .int .i64 d', .int .i64 f', .int .i64 ev]) _ (fun W h => h.1.row) Tryz.underlying27 rfl (by kernel_rfl)) (by assumption) ?_
    try simp only [Act.put]
    refine wpAnyH_take (i := 1) (v := .agg ([.int .i64 s1, .int .i64 s2, .int .i64 e1, .int .i64 e2, .slice a1 n1 c1, .slice a2 n2 c2, .slice a3 n3 c3, .slice a4 n4 c4]).toArray) rfl (by kernel_rfl) (by kernel_rfl) (by kernel_rfl) (fun _ _ _ h => h) (yieldsIf_load_mid (by kernel_rfl) 34 (.tmp 6) rfl pb 0 rfl ([.int .i64 s1, .int .i64 s2, .int .i64 e1, .int .i64 e2, .slice a1 n1 c1, .slice a2 n2 c2, .slice a3 n3 c3, .slice a4 n4 c4]) _ (fun W h => h.2.row) Tryz.underlying34 rfl (by kernel_rfl)) (by assumption) ?_
    try simp only [Act.put]
    have jm : mb ≠ w.heap.size := by omega
    have jn : mb ≠ w.heap.size + 1 := by omega
    have jp : pb ≠ w.heap.size := by omega
    have jq : pb ≠ w.heap.size + 1 := by omega
    have jr : w.heap.size + 1 ≠ w.heap.size := by omega
    have hT1 : Lies (wd0.setCells w.heap.size 0 [.int .i64 a, .int .i64 b, .int .i64 c, .int .i64 d, .int .i64 f, .int .i64 k, .int .i64 a', .int .i64 b', .int .i64 c', .int .i64 d', .int .i64 f', .int .i64 ev]) mb [.int .i64 a, .int .i64 b, .int .i64 c, .int .i64 d, .int .i64 f, .int .i64 k, .int .i64 a', .int .i64 b', .int .i64 c', .int .i64 d', .int .i64 f', .int .i64 ev] ∧ Lies (wd0.setCells w.heap.size 0 [.int .i64 a, .int .i64 b, .int .i64 c, .int .i64 d, .int .i64 f, .int .i64 k, .int .i64 a', .int .i64 b', .int .i64 c', .int .i64 d', .int .i64 f', .int .i64 ev]) pb [.int .i64 s1, .int .i64 s2, .int .i64 e1, .int .i64 e2, .slice a1 n1 c1, .slice a2 n2 c2, .slice a3 n3 c3, .slice a4 n4 c4] := ⟨Lies.farCells _ 0 hHeld.1 jm, Lies.farCells _ 0 hHeld.2 jp⟩
    have ZB_1 : Hid (Lies (wd0.setCells w.heap.size 0 [.int .i64 a, .int .i64 b, .int .i64 c, .int .i64 d, .int .i64 f, .int .i64 k, .int .i64 a', .int .i64 b', .int .i64 c', .int .i64 d', .int .i64 f', .int .i64 ev]) (w.heap.size + 1) [.int .i64 0, .int .i64 0, .int .i64 0, .int .i64 0, .slice none 0 0, .slice none 0 0, .slice none 0 0, .slice none 0 0]) := Lies.farCells _ 0 ZB_d.out jr
    have hT2 : Lies ((wd0.setCells w.heap.size 0 [.int .i64 a, .int .i64 b, .int .i64 c, .int .i64 d, .int .i64 f, .int .i64 k, .int .i64 a', .int .i64 b', .int .i64 c', .int .i64 d', .int .i64 f', .int .i64 ev]).setCells (w.heap.size + 1) 0 [.int .i64 s1, .int .i64 s2, .int .i64 e1, .int .i64 e2, .slice a1 n1 c1, .slice a2 n2 c2, .slice a3 n3 c3, .slice a4 n4 c4]) mb [.int .i64 a, .int .i64 b, .int .i64 c, .int .i64 d, .int .i64 f, .int .i64 k, .int .i64 a', .int .i64 b', .int .i64 c', .int .i64 d', .int .i64 f', .int .i64 ev] ∧ Lies ((wd0.setCells w.heap.size 0 [.int .i64 a, .int .i64 b, .int .i64 c, .int .i64 d, .int .i64 f, .int .i64 k, .int .i64 a', .int .i64 b', .int .i64 c', .int .i64 d', .int .i64 f', .int .i64 ev]).setCells (w.heap.size + 1) 0 [.int .i64 s1, .int .i64 s2, .int .i64 e1, .int .i64 e2, .slice a1 n1 c1, .slice a2 n2 c2, .slice a3 n3 c3, .slice a4 n4 c4]) pb [.int .i64 s1, .int .i64 s2, .int .i64 e1, .int .i64 e2, .slice a1 n1 c1, .slice a2 n2 c2, .slice a3 n3 c3, .slice a4 n4 c4] := ⟨Lies.farCells _ 0 hT1.1 jn, Lies.farCells _ 0 hT1.2 jq⟩
    have LA : Hid (Lies ((wd0.setCells w.heap.size 0 [.int .i64 a, .int .i64 b, .int .i64 c, .int .i64 d, .int .i64 f, .int .i64 k, .int .i64 a', .int .i64 b', .int .i64 c', .int .i64 d', .int .i64 f', .int .i64 ev]).setCells (w.heap.size + 1) 0 [.int .i64 s1, .int .i64 s2, .int .i64 e1, .int .i64 e2, .slice a1 n1 c1, .slice a2 n2 c2, .slice a3 n3 c3, .slice a4 n4 c4]) w.heap.size [.int .i64 a, .int .i64 b, .int .i64 c, .int .i64 d, .int .i64 f, .int .i64 k, .int .i64 a', .int .i64 b', .int .i64 c', .int .i64 d', .int .i64 f', .int .i64 ev]) := Lies.farCells _ 0 (ZA_d.out.setCells [.int .i64 a, .int .i64 b, .int .i64 c, .int .i64 d, .int .i64 f, .int .i64 k, .int .i64 a', .int .i64 b', .int .i64 c', .int .i64 d', .int .i64 f', .int .i64 ev] 0 (by simp)) jr.symm
    have LB : Hid (Lies ((wd0.setCells w.heap.size 0 [.int .i64 a, .int .i64 b, .int .i64 c, .int .i64 d, .int .i64 f, .int .i64 k, .int .i64 a', .int .i64 b', .int .i64 c', .int .i64 d', .int .i64 f', .int .i64 ev]).setCells (w.heap.size + 1) 0 [.int .i64 s1, .int .i64 s2, .int .i64 e1, .int .i64 e2, .slice a1 n1 c1, .slice a2 n2 c2, .slice a3 n3 c3, .slice a4 n4 c4]) (w.heap.size + 1) [.int .i64 s1, .int .i64 s2, .int .i64 e1, .int .i64 e2, .slice a1 n1 c1, .slice a2 n2 c2, .slice a3 n3 c3, .slice a4 n4 c4]) := ZB_1.out.setCells [.int .i64 s1, .int .i64 s2, .int .i64 e1, .int .i64 e2, .slice a1 n1 c1, .slice a2 n2 c2, .slice a3 n3 c3, .slice a4 n4 c4] 0 (by simp)
    have HBf : Hid (Below w.heap.size w ((wd0.setCells w.heap.size 0 [.int .i64 a, .int .i64 b, .int .i64 c, .int .i64 d, .int .i64 f, .int .i64 k, .int .i64 a', .int .i64 b', .int .i64 c', .int .i64 d', .int .i64 f', .int .i64 ev]).setCells (w.heap.size + 1) 0 [.int .i64 s1, .int .i64 s2, .int .i64 e1, .int .i64 e2, .slice a1 n1 c1, .slice a2 n2 c2, .slice a3 n3 c3, .slice a4 n4 c4])) := below_setCells _ 0 (below_setCells _ 0 HB_d.out (Nat.le_refl _)) (by omega)
    have U1 : Hid (Sees ((wd0.setCells w.heap.size 0 [.int .i64 a, .int .i64 b, .int .i64 c, .int .i64 d, .int .i64 f, .int .i64 k, .int .i64 a', .int .i64 b', .int .i64 c', .int .i64 d', .int .i64 f', .int .i64 ev]).setCells (w.heap.size + 1) 0 [.int .i64 s1, .int .i64 s2, .int .i64 e1, .int .i64 e2, .slice a1 n1 c1, .slice a2 n2 c2, .slice a3 n3 c3, .slice a4 n4 c4]) a1 n1 c1 z1) := (T1_d.out.grownR (grown_cells (World.grownBy.refl _ _) 0 _) (fun q hq e => NA1 q hq (Option.some.inj e).symm)).grownR (grown_cells (World.grownBy.refl _ _) 0 _) (fun q hq e => NB1 q hq (Option.some.inj e).symm)
    have U2 : Hid (Sees ((wd0.setCells w.heap.size 0 [.int .i64 a, .int .i64 b, .int .i64 c, .int .i64 d, .int .i64 f, .int .i64 k, .int .i64 a', .int .i64 b', .int .i64 c', .int .i64 d', .int .i64 f', .int .i64 ev]).setCells (w.heap.size + 1) 0 [.int .i64 s1, .int .i64 s2, .int .i64 e1, .int .i64 e2, .slice a1 n1 c1, .slice a2 n2 c2, .slice a3 n3 c3, .slice a4 n4 c4]) a2 n2 c2 z2) := (T2_d.out.grownR (grown_cells (World.grownBy.refl _ _) 0 _) (fun q hq e => NA2 q hq (Option.some.inj e).symm)).grownR (grown_cells (World.grownBy.refl _ _) 0 _) (fun q hq e => NB2 q hq (Option.some.inj e).symm)
    have U3 : Hid (Sees ((wd0.setCells w.heap.size 0 [.int .i64 a, .int .i64 b, .int .i64 c, .int .i64 d, .int .i64 f, .int .i64 k, .int .i64 a', .int .i64 b', .int .i64 c', .int .i64 d', .int .i64 f', .int .i64 ev]).setCells (w.heap.size + 1) 0 [.int .i64 s1, .int .i64 s2, .int .i64 e1, .int .i64 e2, .slice a1 n1 c1, .slice a2 n2 c2, .slice a3 n3 c3, .slice a4 n4 c4]) a3 n3 c3 z3) := (T3_d.out.grownR (grown_cells (World.grownBy.refl _ _) 0 _) (fun q hq e => NA3 q hq (Option.some.inj e).symm)).grownR (grown_cells (World.grownBy.refl _ _) 0 _) (fun q hq e => NB3 q hq (Option.some.inj e).symm)
    have U4 : Hid (Sees ((wd0.setCells w.heap.size 0 [.int .i64 a, .int .i64 b, .int .i64 c, .int .i64 d, .int .i64 f, .int .i64 k, .int .i64 a', .int .i64 b', .int .i64 c', .int .i64 d', .int .i64 f', .int .i64 ev]).setCells (w.heap.size + 1) 0 [.int .i64 s1, .int .i64 s2, .int .i64 e1, .int .i64 e2, .slice a1 n1 c1, .slice a2 n2 c2, .slice a3 n3 c3, .slice a4 n4 c4]) a4 n4 c4 z4) := (T4_d.out.grownR (grown_cells (World.grownBy.refl _ _) 0 _) (fun q hq e => NA4 q hq (Option.some.inj e).symm)).grownR (grown_cells (World.grownBy.refl _ _) 0 _) (fun q hq e => NB4 q hq (Option.some.inj e).symm)
    refine wpAnyH_ready (rs := [2]) (by kernel_rfl) (by simp) ?_
    refine AllReadyH.cons rfl (fun Kk hK => ?_) AllReadyH.nil
    rw [if_pos (by kernel_rfl)]
    with_reducible refine wp_store_mid 27 (.tmp 2) (.tmp 20) ?_ w.heap.size 0 ([.int .i64 a, .int .i64 b, .int .i64 c, .int .i64 d, .int .i64 f, .int .i64 k, .int .i64 a', .int .i64 b', .int .i64 c', .int .i64 d', .int .i64 f', .int .i64 ev]).toArray ?_ ?_ ?_ (by kernel_rfl) (by kernel_rfl) ?_
    · exact rfl
    · exact rfl
    · exact rfl
    · exact ZA_d.out.there 0 12 (by simp)
    refine hK.out _ _ (hT1) (fun hHeld2 => ?_)
    clear hK Kk
    try simp only [Act.put]
    refine wpAnyH_ready (rs := [3]) (by kernel_rfl) (by simp) ?_
    refine AllReadyH.cons rfl (fun Kk hK => ?_) AllReadyH.nil
    rw [if_pos (by kernel_rfl)]
    with_reducible refine wp_store_mid 34 (.tmp 3) (.tmp 21) ?_ (w.heap.size + 1) 0 ([.int .i64 s1, .int .i64 s2, .int .i64 e1, .int .i64 e2, .slice a1 n1 c1, .slice a2 n2 c2, .slice a3 n3 c3, .slice a4 n4 c4]).toArray ?_ ?_ ?_ (by kernel_rfl) (by kernel_rfl) ?_
    · exact rfl
    · exact rfl
    · exact rfl
    · exact ZB_1.out.there 0 8 (by simp)
    refine hK.out _ _ (hT2) (fun hHeld2 => ?_)
    clear hK Kk
    try simp only [Act.put]
    refine wpAnyH_done (by kernel_rfl) ?_ _
    refine NoPanic.normal ?_
    go_simp
    clear hT1 hT2
    generalize ((wd0.setCells w.heap.size 0 [.int .i64 a, .int .i64 b, .int .i64 c, .int .i64 d, .int .i64 f, .int .i64 k, .int .i64 a', .int .i64 b', .int .i64 c', .int .i64 d', .int .i64 f', .int .i64 ev]).setCells (w.heap.size + 1) 0 [.int .i64 s1, .int .i64 s2, .int .i64 e1, .int .i64 e2, .slice a1 n1 c1, .slice a2 n2 c2, .slice a3 n3 c3, .slice a4 n4 c4]) = wf at LA LB HBf U1 U2 U3 U4 ⊢
    have u0 : wf.cell? ⟨w.heap.size, 0, none⟩ = some (.int .i64 a) := LA.out.at 0
    have u1 : wf.cell? ⟨w.heap.size, 1, none⟩ = some (.int .i64 b) := LA.out.at 1
    have u2 : wf.cell? ⟨w.heap.size, 2, none⟩ = some (.int .i64 c) := LA.out.at 2
    have u3 : wf.cell? ⟨w.heap.size, 3, none⟩ = some (.int .i64 d) := LA.out.at 3
    have u4 : wf.cell? ⟨w.heap.size, 4, none⟩ = some (.int .i64 f) := LA.out.at 4
    have u5 : wf.cell? ⟨w.heap.size, 5, none⟩ = some (.int .i64 k) := LA.out.at 5
    have u6 : wf.cell? ⟨w.heap.size, 6, none⟩ = some (.int .i64 a') := LA.out.at 6
    have u7 : wf.cell? ⟨w.heap.size, 7, none⟩ = some (.int .i64 b') := LA.out.at 7
    have u8 : wf.cell? ⟨w.heap.size, 8, none⟩ = some (.int .i64 c') := LA.out.at 8
    have u9 : wf.cell? ⟨w.heap.size, 9, none⟩ = some (.int .i64 d') := LA.out.at 9
    have u10 : wf.cell? ⟨w.heap.size, 10, none⟩ = some (.int .i64 f') := LA.out.at 10
    have u11 : wf.cell? ⟨w.heap.size, 11, none⟩ = some (.int .i64 ev) := LA.out.at 11
    have x0 : wf.cell? ⟨w.heap.size + 1, 0, none⟩ = some (.int .i64 s1) := LB.out.at 0
    have x1 : wf.cell? ⟨w.heap.size + 1, 1, none⟩ = some (.int .i64 s2) := LB.out.at 1
    have x2 : wf.cell? ⟨w.heap.size + 1, 2, none⟩ = some (.int .i64 e1) := LB.out.at 2
    have x3 : wf.cell? ⟨w.heap.size + 1, 3, none⟩ = some (.int .i64 e2) := LB.out.at 3
    have x4 : wf.cell? ⟨w.heap.size + 1, 4, none⟩ = some (.slice a1 n1 c1) := LB.out.at 4
    have x5 : wf.cell? ⟨w.heap.size + 1, 5, none⟩ = some (.slice a2 n2 c2) := LB.out.at 5
    have x6 : wf.cell? ⟨w.heap.size + 1, 6, none⟩ = some (.slice a3 n3 c3) := LB.out.at 6
    have x7 : wf.cell? ⟨w.heap.size + 1, 7, none⟩ = some (.slice a4 n4 c4) := LB.out.at 7
    go_wp2
    refine bodyPost_ret (v := .tuple #[.agg #[.int .i64 a, .int .i64 b, .int .i64 c, .int .i64 d, .int .i64 f, .int .i64 k, .int .i64 a', .int .i64 b', .int .i64 c', .int .i64 d', .int .i64 f', .int .i64 ev], .agg #[.int .i64 s1, .int .i64 s2, .int .i64 e1, .int .i64 e2, .slice a1 n1 c1, .slice a2 n2 c2, .slice a3 n3 c3, .slice a4 n4 c4]]) (by simp [results, Tryz.results15, go_sem, u0, u1, u2, u3, u4, u5, u6, u7, u8, u9, u10, u11, x0, x1, x2, x3, x4, x5, x6, x7]) rfl (by unfold DaPost; exact ⟨⟨⟨a, b, c, d, f, k⟩, ⟨a', b', c', d', f', ev⟩⟩, s1, s2, e1, e2, a1, n1, c1, z1, a2, n2, c2, z2, a3, n3, c3, z3, a4, n4, c4, z4, rfl, ⟨U1.out, U2.out, U3.out, U4.out⟩, ⟨l1, l2, l3, l4⟩, HBf.out⟩)
end Go.Proofs.YtbcfjbkmkknmfaaGreatDoor
namespace Go.Proofs.YtbcfjbkmkknmfaaGreatDoor
open Go.RowKit

/-- what is accepted is an honest proof -/
theorem M.soundF {m : M.Mc} {p : M.Pf} (h : M.acc m p = true) : M.provOk m p.s (p.rows : Nat) = true ∧ M.prv m p.s (p.rows : Nat) = p ∧ M.runOk m p.s ((p.rows : Nat) - 1 : Int) = true ∧ M.aft m p.s ((p.rows : Nat) - 1 : Int) = p.e := by
  obtain ⟨hm, hs, hN, he⟩ := M.sound h
  have hb := M.rowsN_pos hN
  have hp : M.provOk m p.s (p.rows : Nat) = true := by unfold M.provOk; rw [hm, hs, M.rowsI_of hN]; rfl
  have hv : M.prv m p.s (p.rows : Nat) = p := by rw [M.prv_in hp]; exact he.symm
  have hh := M.honest hp
  rw [hv] at hh
  refine ⟨hp, hv, ?_, hh.2.2.2.symm⟩
  unfold M.runOk; rw [hm, hs]; simp; omega
set_option maxHeartbeats 8000000 in
set_option maxRecDepth 10000 in
theorem fnSound_any {ca : Option Addr} {len cap : Nat} {zs : List Int} {aL aN aG aE aR : Addr} (w : World) (he : EnvX w aL aN aG aE aR) (hrow : Row .u8 w ca len cap zs) :
    Calls Tryz.prog 4 #[.slice ca len cap] w fun e w' => e = .returned (.bool true) ∧ Below w.heap.size w w' := by
  have hl0 : (len : Int) ≤ 9223372036854775807 := by
    rcases hrow with ⟨_, rfl, _⟩ | ⟨x, _, h1, h2, _⟩
    · simp
    · unfold maxLen at h2; omega
  by_cases hbig : (1048576 : Int) < (len : Int)
  · clear he
    go_enter Tryz.func4, Tryz.ntmps4
    go_wp2_with fail
    refine (big_any _ _ _ _).mono ?_
    rintro e w' ⟨rfl, rfl⟩
    go_wp2
    go_ret
    exact ⟨rfl, Below.refl _ _⟩
  have hbg : decide ((1048576 : Int) < (len : Int)) = false := by simpa using hbig
  have HR : Hid (Row .u8 w ca len cap zs) := hrow
  have HE0 : Hid (EnvX w aL aN aG aE aR) := he
  clear hrow he hbig
  go_enter Tryz.func4, Tryz.ntmps4
  go_wp2_with fail
  refine (big_any _ _ _ _).mono ?_
  rintro e wz ⟨rfl, hwz⟩
  have hwy := hwz.symm
  clear hwz
  subst hwy
  go_wp2_with fail
  refine (drawAccepted_any w HR.out).mono ?_
  rintro e w1 ⟨m, s1, s2, e1, e2, a1, n1, c1, z1, a2, n2, c2, z2, a3, n3, c3, z3, a4, n4, c4, z4, rfl, ⟨x1, x2, x3, x4⟩, ⟨l1, l2, l3, l4⟩, hb1⟩
  have CI : ∀ (W : World), EnvX W aL aN aG aE aR → Sees W a1 n1 c1 z1 → Sees W a2 n2 c2 z2 → Sees W a3 n3 c3 z3 → Sees W a4 n4 c4 z4 → Calls Tryz.prog 13 #[mcv m, .agg #[.int .i64 s1, .int .i64 s2, .int .i64 e1, .int .i64 e2, .slice a1 n1 c1, .slice a2 n2 c2, .slice a3 n3 c3, .slice a4 n4 c4]] W fun e w' => e = .returned (.bool (M.acc m (⟨(s1, s2), (e1, e2), z1, z2, z3, z4⟩ : M.Pf))) ∧ Below W.heap.size W w' := fun W e g1 g2 g3 g4 => implAccepted_any m _ _ _ _ W e g1 g2 g3 g4
  have CS : ∀ (W : World), Sees W a1 n1 c1 z1 → Sees W a2 n2 c2 z2 → Sees W a3 n3 c3 z3 → Sees W a4 n4 c4 z4 → Calls Tryz.prog 16 #[mcv m, .agg #[.int .i64 s1, .int .i64 s2, .int .i64 e1, .int .i64 e2, .slice a1 n1 c1, .slice a2 n2 c2, .slice a3 n3 c3, .slice a4 n4 c4]] W fun e w' => e = .returned (.bool (M.acc m (⟨(s1, s2), (e1, e2), z1, z2, z3, z4⟩ : M.Pf))) ∧ Below W.heap.size W w' := fun W g1 g2 g3 g4 => specAccepted_any m _ _ _ _ W g1 g2 g3 g4 (by omega) (by omega) (by omega) (by omega)
  have CRI : ∀ (W : World), EnvX W aL aN aG aE aR → Sees W a1 n1 c1 z1 → Sees W a2 n2 c2 z2 → Sees W a3 n3 c3 z3 → Sees W a4 n4 c4 z4 → Calls Tryz.prog 14 #[.agg #[.int .i64 s1, .int .i64 s2, .int .i64 e1, .int .i64 e2, .slice a1 n1 c1, .slice a2 n2 c2, .slice a3 n3 c3, .slice a4 n4 c4]] W fun e w' => e = .returned (.int .i64 ((⟨(s1, s2), (e1, e2), z1, z2, z3, z4⟩ : M.Pf).rows : Nat)) ∧ Below W.heap.size W w' := fun W e g1 g2 g3 g4 => implRowsOf_any _ _ _ _ W e.env g1 g2 g3 g4
  have CRS : ∀ (W : World), Sees W a1 n1 c1 z1 → Sees W a2 n2 c2 z2 → Sees W a3 n3 c3 z3 → Sees W a4 n4 c4 z4 → Calls Tryz.prog 17 #[.agg #[.int .i64 s1, .int .i64 s2, .int .i64 e1, .int .i64 e2, .slice a1 n1 c1, .slice a2 n2 c2, .slice a3 n3 c3, .slice a4 n4 c4]] W fun e w' => e = .returned (.int .i64 ((⟨(s1, s2), (e1, e2), z1, z2, z3, z4⟩ : M.Pf).rows : Nat)) ∧ Below W.heap.size W w' := fun W g1 g2 g3 g4 => specRowsOf_any _ _ _ _ W g1 g2 g3 g4 (by omega) (by omega) (by omega) (by omega)
  have CA := implAfter_any m (s1, s2) (((⟨(s1, s2), (e1, e2), z1, z2, z3, z4⟩ : M.Pf).rows : Nat) - 1 : Int)
  have CP : ∀ W, Calls Tryz.prog 9 #[mcv m, stv (s1, s2), .int .i64 ((⟨(s1, s2), (e1, e2), z1, z2, z3, z4⟩ : M.Pf).rows : Nat)] W (ProvPost m (s1, s2) ((⟨(s1, s2), (e1, e2), z1, z2, z3, z4⟩ : M.Pf).rows : Nat) W) := fun W => implProved_any m (s1, s2) _ W
  unfold ProvPost at CP
  have HS : Hid (M.acc m (⟨(s1, s2), (e1, e2), z1, z2, z3, z4⟩ : M.Pf) = true → M.provOk m (s1, s2) ((⟨(s1, s2), (e1, e2), z1, z2, z3, z4⟩ : M.Pf).rows : Nat) = true ∧ M.prv m (s1, s2) ((⟨(s1, s2), (e1, e2), z1, z2, z3, z4⟩ : M.Pf).rows : Nat) = (⟨(s1, s2), (e1, e2), z1, z2, z3, z4⟩ : M.Pf) ∧ M.runOk m (s1, s2) (((⟨(s1, s2), (e1, e2), z1, z2, z3, z4⟩ : M.Pf).rows : Nat) - 1 : Int) = true ∧ M.aft m (s1, s2) (((⟨(s1, s2), (e1, e2), z1, z2, z3, z4⟩ : M.Pf).rows : Nat) - 1 : Int) = (e1, e2)) := fun h => M.soundF h
  have hRB : (⟨(s1, s2), (e1, e2), z1, z2, z3, z4⟩ : M.Pf).rows ≤ 16 := by
    by_cases h : (⟨(s1, s2), (e1, e2), z1, z2, z3, z4⟩ : M.Pf).rows = 0
    · omega
    · exact (M.rowsN_pos (M.rows_some h).1).2
  have CSM : ∀ (W : World) {u1 u2 : Option Addr} {q1 q2 b1 b2 : Nat} {z : List Int}, Sees W u1 q1 b1 z → Sees W u2 q2 b2 z → Calls Tryz.prog 11 #[.slice u1 q1 b1, .slice u2 q2 b2] W fun e w' => e = .returned (.bool true) ∧ Below W.heap.size W w' := fun W _ _ _ _ _ _ _ g1 g2 => (sameS_any W g1 g2).mono fun e w' ⟨h1, j, h2⟩ => ⟨by rw [h1]; simp, by rw [h2]; exact Below.drewN' (Below.refl _ _) j⟩
  generalize hPF : (⟨(s1, s2), (e1, e2), z1, z2, z3, z4⟩ : M.Pf) = P at CI CS CRI CRS CA CP HS hRB
  have HPF : Hid ((⟨(s1, s2), (e1, e2), z1, z2, z3, z4⟩ : M.Pf) = P) := hPF
  clear hPF
  generalize M.acc m P = o at CI CS HS
  generalize P.rows = N at CRI CRS CA CP HS hRB
  generalize M.prv m (s1, s2) (N : Nat) = Q at CP HS
  generalize M.pfn m (s1, s2) (N : Nat) = L at CP
  generalize M.provOk m (s1, s2) (N : Nat) = po at CP HS
  generalize M.aft m (s1, s2) ((N : Nat) - 1 : Int) = ae at CA HS
  generalize M.runOk m (s1, s2) ((N : Nat) - 1 : Int) = ro at CA HS
  obtain ⟨⟨a, b, c, d, f, k⟩, ⟨a', b', c', d', f', k'⟩⟩ := m
  obtain ⟨ax, ay⟩ := ae
  dsimp only [mcv, stv] at CI CS CA CP ⊢
  have HB_0 : Hid (Below w.heap.size w w1) := hb1
  have HE_0 : Hid (EnvX w1 aL aN aG aE aR) := HE0.out.below hb1
  have S1_0 : Hid (Sees w1 a1 n1 c1 z1) := x1
  have S2_0 : Hid (Sees w1 a2 n2 c2 z2) := x2
  have S3_0 : Hid (Sees w1 a3 n3 c3 z3) := x3
  have S4_0 : Hid (Sees w1 a4 n4 c4 z4) := x4
  clear hb1 HE0 HR x1 x2 x3 x4
  go_wp2_with fail
  have hba : Below w1.heap.size w1 ((w1.alloc (.cells #[.int .i64 a, .int .i64 b, .int .i64 c, .int .i64 d, .int .i64 f, .int .i64 k, .int .i64 a', .int .i64 b', .int .i64 c', .int .i64 d', .int .i64 f', .int .i64 k'] 27)).alloc (.cells #[.int .i64 s1, .int .i64 s2, .int .i64 e1, .int .i64 e2, .slice a1 n1 c1, .slice a2 n2 c2, .slice a3 n3 c3, .slice a4 n4 c4] 34)) := ((Below.refl _ _).alloc (Nat.le_refl _) _).alloc (by simp) _
  have HB_1 : Hid (Below w.heap.size w ((w1.alloc (.cells #[.int .i64 a, .int .i64 b, .int .i64 c, .int .i64 d, .int .i64 f, .int .i64 k, .int .i64 a', .int .i64 b', .int .i64 c', .int .i64 d', .int .i64 f', .int .i64 k'] 27)).alloc (.cells #[.int .i64 s1, .int .i64 s2, .int .i64 e1, .int .i64 e2, .slice a1 n1 c1, .slice a2 n2 c2, .slice a3 n3 c3, .slice a4 n4 c4] 34))) := HB_0.out.trans (hba.mono HB_0.out.size)
  have HE_1 : Hid (EnvX ((w1.alloc (.cells #[.int .i64 a, .int .i64 b, .int .i64 c, .int .i64 d, .int .i64 f, .int .i64 k, .int .i64 a', .int .i64 b', .int .i64 c', .int .i64 d', .int .i64 f', .int .i64 k'] 27)).alloc (.cells #[.int .i64 s1, .int .i64 s2, .int .i64 e1, .int .i64 e2, .slice a1 n1 c1, .slice a2 n2 c2, .slice a3 n3 c3, .slice a4 n4 c4] 34)) aL aN aG aE aR) := HE_0.out.below hba
  have S1_1 : Hid (Sees ((w1.alloc (.cells #[.int .i64 a, .int .i64 b, .int .i64 c, .int .i64 d, .int .i64 f, .int .i64 k, .int .i64 a', .int .i64 b', .int .i64 c', .int .i64 d', .int .i64 f', .int .i64 k'] 27)).alloc (.cells #[.int .i64 s1, .int .i64 s2, .int .i64 e1, .int .i64 e2, .slice a1 n1 c1, .slice a2 n2 c2, .slice a3 n3 c3, .slice a4 n4 c4] 34)) a1 n1 c1 z1) := S1_0.out.below hba
  have S2_1 : Hid (Sees ((w1.alloc (.cells #[.int .i64 a, .int .i64 b, .int .i64 c, .int .i64 d, .int .i64 f, .int .i64 k, .int .i64 a', .int .i64 b', .int .i64 c', .int .i64 d', .int .i64 f', .int .i64 k'] 27)).alloc (.cells #[.int .i64 s1, .int .i64 s2, .int .i64 e1, .int .i64 e2, .slice a1 n1 c1, .slice a2 n2 c2, .slice a3 n3 c3, .slice a4 n4 c4] 34)) a2 n2 c2 z2) := S2_0.out.below hba
  have S3_1 : Hid (Sees ((w1.alloc (.cells #[.int .i64 a, .int .i64 b, .int .i64 c, .int .i64 d, .int .i64 f, .int .i64 k, .int .i64 a', .int .i64 b', .int .i64 c', .int .i64 d', .int .i64 f', .int .i64 k'] 27)).alloc (.cells #[.int .i64 s1, .int .i64 s2, .int .i64 e1, .int .i64 e2, .slice a1 n1 c1, .slice a2 n2 c2, .slice a3 n3 c3, .slice a4 n4 c4] 34)) a3 n3 c3 z3) := S3_0.out.below hba
  have S4_1 : Hid (Sees ((w1.alloc (.cells #[.int .i64 a, .int .i64 b, .int .i64 c, .int .i64 d, .int .i64 f, .int .i64 k, .int .i64 a', .int .i64 b', .int .i64 c', .int .i64 d', .int .i64 f', .int .i64 k'] 27)).alloc (.cells #[.int .i64 s1, .int .i64 s2, .int .i64 e1, .int .i64 e2, .slice a1 n1 c1, .slice a2 n2 c2, .slice a3 n3 c3, .slice a4 n4 c4] 34)) a4 n4 c4 z4) := S4_0.out.below hba
  clear HB_0 HE_0 S1_0 S2_0 S3_0 S4_0
  clear hba
  have HM_1 : Hid (Lies ((w1.alloc (.cells #[.int .i64 a, .int .i64 b, .int .i64 c, .int .i64 d, .int .i64 f, .int .i64 k, .int .i64 a', .int .i64 b', .int .i64 c', .int .i64 d', .int .i64 f', .int .i64 k'] 27)).alloc (.cells #[.int .i64 s1, .int .i64 s2, .int .i64 e1, .int .i64 e2, .slice a1 n1 c1, .slice a2 n2 c2, .slice a3 n3 c3, .slice a4 n4 c4] 34)) w1.heap.size [.int .i64 a, .int .i64 b, .int .i64 c, .int .i64 d, .int .i64 f, .int .i64 k, .int .i64 a', .int .i64 b', .int .i64 c', .int .i64 d', .int .i64 f', .int .i64 k']) := (lies_new _ _ _).alloc _
  have HP_1 : Hid (Lies ((w1.alloc (.cells #[.int .i64 a, .int .i64 b, .int .i64 c, .int .i64 d, .int .i64 f, .int .i64 k, .int .i64 a', .int .i64 b', .int .i64 c', .int .i64 d', .int .i64 f', .int .i64 k'] 27)).alloc (.cells #[.int .i64 s1, .int .i64 s2, .int .i64 e1, .int .i64 e2, .slice a1 n1 c1, .slice a2 n2 c2, .slice a3 n3 c3, .slice a4 n4 c4] 34)) (w1.heap.size + 1) [.int .i64 s1, .int .i64 s2, .int .i64 e1, .int .i64 e2, .slice a1 n1 c1, .slice a2 n2 c2, .slice a3 n3 c3, .slice a4 n4 c4]) := lies_new2 _ _ _ _
  generalize ((w1.alloc (.cells #[.int .i64 a, .int .i64 b, .int .i64 c, .int .i64 d, .int .i64 f, .int .i64 k, .int .i64 a', .int .i64 b', .int .i64 c', .int .i64 d', .int .i64 f', .int .i64 k'] 27)).alloc (.cells #[.int .i64 s1, .int .i64 s2, .int .i64 e1, .int .i64 e2, .slice a1 n1 c1, .slice a2 n2 c2, .slice a3 n3 c3, .slice a4 n4 c4] 34)) = w2 at HB_1 HE_1 S1_1 S2_1 S3_1 S4_1 HM_1 HP_1  ⊢
  generalize w1.heap.size = mb at HM_1 HP_1  ⊢
  refine (CI _ HE_1.out S1_1.out S2_1.out S3_1.out S4_1.out).mono ?_
  rintro e w3 ⟨rfl, hb⟩
  have HB_2 : Hid (Below w.heap.size w w3) := HB_1.out.trans (hb.mono HB_1.out.size)
  have HE_2 : Hid (EnvX w3 aL aN aG aE aR) := HE_1.out.below hb
  have S1_2 : Hid (Sees w3 a1 n1 c1 z1) := S1_1.out.below hb
  have S2_2 : Hid (Sees w3 a2 n2 c2 z2) := S2_1.out.below hb
  have S3_2 : Hid (Sees w3 a3 n3 c3 z3) := S3_1.out.below hb
  have S4_2 : Hid (Sees w3 a4 n4 c4 z4) := S4_1.out.below hb
  have HM_2 : Hid (Lies w3 mb [.int .i64 a, .int .i64 b, .int .i64 c, .int .i64 d, .int .i64 f, .int .i64 k, .int .i64 a', .int .i64 b', .int .i64 c', .int .i64 d', .int .i64 f', .int .i64 k']) := HM_1.out.belowS hb
  have HP_2 : Hid (Lies w3 (mb + 1) [.int .i64 s1, .int .i64 s2, .int .i64 e1, .int .i64 e2, .slice a1 n1 c1, .slice a2 n2 c2, .slice a3 n3 c3, .slice a4 n4 c4]) := HP_1.out.belowS hb
  clear HB_1 HE_1 S1_1 S2_1 S3_1 S4_1 HM_1 HP_1
  clear hb
  have hoo : (o != o) = false := by simp
  have hNN : ((N : Int) != (N : Int)) = false := by simp
  go_wp2_with fail
  generalize w3 = wq at HB_2 HE_2 S1_2 S2_2 S3_2 S4_2 HM_2 HP_2  ⊢
  refine wp_region_noPanic ?_
  refine wp_region_held_drew (S := fun W => wq.grownBy W none) (by kernel_rfl) (grown_drew _ _) (fun hHeld => ?_)
  generalize wq.drew = wd0 at hHeld ⊢
  have HX0 : Hid (Below wq.heap.size wq wd0) := ⟨hHeld.os, hHeld.tape, hHeld.output, hHeld.size, fun k hk => hHeld.block k hk (by simp)⟩
  refine wpAnyH_take (i := 0) (v := .bool o) rfl (by kernel_rfl) (by kernel_rfl) (by kernel_rfl) (fun _ _ _ h => h) (Or.inl ⟨by kernel_rfl, ?_⟩) (by assumption) ?_
  · intro wq hSq; go_simp
  try simp only [Act.put]
  refine wpAnyH_take (i := 1) (v := .agg ([.int .i64 a, .int .i64 b, .int .i64 c, .int .i64 d, .int .i64 f, .int .i64 k, .int .i64 a', .int .i64 b', .int .i64 c', .int .i64 d', .int .i64 f', .int .i64 k']).toArray) rfl (by kernel_rfl) (by kernel_rfl) (by kernel_rfl) (fun _ _ _ h => h) (yieldsIf_load_mid (by kernel_rfl) 27 (.tmp 3) rfl mb 0 rfl ([.int .i64 a, .int .i64 b, .int .i64 c, .int .i64 d, .int .i64 f, .int .i64 k, .int .i64 a', .int .i64 b', .int .i64 c', .int .i64 d', .int .i64 f', .int .i64 k']) _ (fun W h => (HM_2.out.grown h (by simp)).row) Tryz.underlying27 rfl (by kernel_rfl)) (by assumption) ?_
  try simp only [Act.put]
  refine wpAnyH_take (i := 2) (v := .agg ([.int .i64 s1, .int .i64 s2, .int .i64 e1, .int .i64 e2, .slice a1 n1 c1, .slice a2 n2 c2, .slice a3 n3 c3, .slice a4 n4 c4]).toArray) rfl (by kernel_rfl) (by kernel_rfl) (by kernel_rfl) (fun _ _ _ h => h) (yieldsIf_load_mid (by kernel_rfl) 34 (.tmp 4) rfl (mb + 1) 0 rfl ([.int .i64 s1, .int .i64 s2, .int .i64 e1, .int .i64 e2, .slice a1 n1 c1, .slice a2 n2 c2, .slice a3 n3 c3, .slice a4 n4 c4]) _ (fun W h => (HP_2.out.grown h (by simp)).row) Tryz.underlying34 rfl (by kernel_rfl)) (by assumption) ?_
  try simp only [Act.put]
  refine wpAnyH_ready (rs := [3]) (by kernel_rfl) (by simp) ?_
  refine AllReadyH.cons rfl (fun Kk hK => ?_) AllReadyH.nil
  go_simp
  refine (CS _ (S1_2.out.below HX0.out) (S2_2.out.below HX0.out) (S3_2.out.below HX0.out) (S4_2.out.below HX0.out)).mono ?_
  rintro e wd1 ⟨rfl, hb1⟩
  go_simp
  have hS1 : wq.grownBy wd1 none := grown_step hHeld hb1
  have HX1 : Hid (Below wq.heap.size wq wd1) := ⟨hS1.os, hS1.tape, hS1.output, hS1.size, fun k hk => hS1.block k hk (by simp)⟩
  refine hK.out _ _ hS1 (fun _ => ?_)
  clear hK Kk hb1
  try simp only [Act.put]
  refine wpAnyH_take (i := 4) (v := .bool (o != o)) rfl (by kernel_rfl) (by kernel_rfl) (by kernel_rfl) (fun _ _ _ h => h) (Or.inl ⟨by kernel_rfl, ?_⟩) (by assumption) ?_
  · intro wq hSq; go_simp
  try simp only [Act.put]
  rw [hoo]
  refine wpAnyH_take (i := 5) (v := .bool false) rfl (by kernel_rfl) (by kernel_rfl) (by kernel_rfl) (fun _ _ _ h => h) (Or.inl ⟨by kernel_rfl, ?_⟩) (by assumption) ?_
  · intro wq hSq; go_simp
  try simp only [Act.put]
  refine wpAnyH_take (i := 6) (v := .agg ([.int .i64 s1, .int .i64 s2, .int .i64 e1, .int .i64 e2, .slice a1 n1 c1, .slice a2 n2 c2, .slice a3 n3 c3, .slice a4 n4 c4]).toArray) rfl (by kernel_rfl) (by kernel_rfl) (by kernel_rfl) (fun _ _ _ h => h) (yieldsIf_load_mid (by kernel_rfl) 34 (.tmp 4) rfl (mb + 1) 0 rfl ([.int .i64 s1, .int .i64 s2, .int .i64 e1, .int .i64 e2, .slice a1 n1 c1, .slice a2 n2 c2, .slice a3 n3 c3, .slice a4 n4 c4]) _ (fun W h => (HP_2.out.grown h (by simp)).row) Tryz.underlying34 rfl (by kernel_rfl)) (by assumption) ?_
  try simp only [Act.put]
  refine wpAnyH_take (i := 8) (v := .agg ([.int .i64 s1, .int .i64 s2, .int .i64 e1, .int .i64 e2, .slice a1 n1 c1, .slice a2 n2 c2, .slice a3 n3 c3, .slice a4 n4 c4]).toArray) rfl (by kernel_rfl) (by kernel_rfl) (by kernel_rfl) (fun _ _ _ h => h) (yieldsIf_load_mid (by kernel_rfl) 34 (.tmp 4) rfl (mb + 1) 0 rfl ([.int .i64 s1, .int .i64 s2, .int .i64 e1, .int .i64 e2, .slice a1 n1 c1, .slice a2 n2 c2, .slice a3 n3 c3, .slice a4 n4 c4]) _ (fun W h => (HP_2.out.grown h (by simp)).row) Tryz.underlying34 rfl (by kernel_rfl)) (by assumption) ?_
  try simp only [Act.put]
  refine wpAnyH_ready (rs := [7]) (by kernel_rfl) (by simp) ?_
  refine AllReadyH.cons rfl (fun Kk hK => ?_) AllReadyH.nil
  go_simp
  refine (CRI _ (HE_2.out.below HX1.out) (S1_2.out.below HX1.out) (S2_2.out.below HX1.out) (S3_2.out.below HX1.out) (S4_2.out.below HX1.out)).mono ?_
  rintro e wd2 ⟨rfl, hb2⟩
  go_simp
  have hS2 : wq.grownBy wd2 none := grown_step hS1 hb2
  have HX2 : Hid (Below wq.heap.size wq wd2) := ⟨hS2.os, hS2.tape, hS2.output, hS2.size, fun k hk => hS2.block k hk (by simp)⟩
  refine hK.out _ _ hS2 (fun _ => ?_)
  clear hK Kk hb2
  try simp only [Act.put]
  refine wpAnyH_ready (rs := [9]) (by kernel_rfl) (by simp) ?_
  refine AllReadyH.cons rfl (fun Kk hK => ?_) AllReadyH.nil
  go_simp
  refine (CRS _ (S1_2.out.below HX2.out) (S2_2.out.below HX2.out) (S3_2.out.below HX2.out) (S4_2.out.below HX2.out)).mono ?_
  rintro e wd3 ⟨rfl, hb3⟩
  go_simp
  have hS3 : wq.grownBy wd3 none := grown_step hS2 hb3
  have HX3 : Hid (Below wq.heap.size wq wd3) := ⟨hS3.os, hS3.tape, hS3.output, hS3.size, fun k hk => hS3.block k hk (by simp)⟩
  refine hK.out _ _ hS3 (fun _ => ?_)
  clear hK Kk hb3
  try simp only [Act.put]
  refine wpAnyH_take (i := 10) (v := .bool ((N : Int) != (N : Int))) rfl (by kernel_rfl) (by kernel_rfl) (by kernel_rfl) (fun _ _ _ h => h) (Or.inl ⟨by kernel_rfl, ?_⟩) (by assumption) ?_
  · intro wq hSq; go_simp
  try simp only [Act.put]
  rw [hNN]
  refine wpAnyH_take (i := 11) (v := .bool false) rfl (by kernel_rfl) (by kernel_rfl) (by kernel_rfl) (fun _ _ _ h => h) (Or.inl ⟨by kernel_rfl, ?_⟩) (by assumption) ?_
  · intro wq hSq; go_simp
  try simp only [Act.put]
  refine wpAnyH_take (i := 12) (v := .bool false) rfl (by kernel_rfl) (by kernel_rfl) (by kernel_rfl) (fun _ _ _ h => h) (Or.inl ⟨by kernel_rfl, ?_⟩) (by assumption) ?_
  · intro wq hSq; go_simp
  try simp only [Act.put]
  refine wpAnyH_take (i := 13) (v := .bool o) rfl (by kernel_rfl) (by kernel_rfl) (by kernel_rfl) (fun _ _ _ h => h) (Or.inl ⟨by kernel_rfl, ?_⟩) (by assumption) ?_
  · intro wq hSq; go_simp
  try simp only [Act.put]
  refine wpAnyH_take (i := 14) (v := .bool (!o)) rfl (by kernel_rfl) (by kernel_rfl) (by kernel_rfl) (fun _ _ _ h => h) (Or.inl ⟨by kernel_rfl, ?_⟩) (by assumption) ?_
  · intro wq hSq; go_simp
  try simp only [Act.put]
  refine wpAnyH_take (i := 15) (v := .bool (!o)) rfl (by kernel_rfl) (by kernel_rfl) (by kernel_rfl) (fun _ _ _ h => h) (Or.inl ⟨by kernel_rfl, ?_⟩) (by assumption) ?_
  · intro wq hSq; go_simp
  try simp only [Act.put]
  refine wpAnyH_done (by kernel_rfl) ?_ _
  refine NoPanic.normal ?_
  go_simp
  have HB_3 : Hid (Below w.heap.size w wd3) := HB_2.out.trans (HX3.out.mono HB_2.out.size)
  have HE_3 : Hid (EnvX wd3 aL aN aG aE aR) := HE_2.out.below HX3.out
  have S1_3 : Hid (Sees wd3 a1 n1 c1 z1) := S1_2.out.below HX3.out
  have S2_3 : Hid (Sees wd3 a2 n2 c2 z2) := S2_2.out.below HX3.out
  have S3_3 : Hid (Sees wd3 a3 n3 c3 z3) := S3_2.out.below HX3.out
  have S4_3 : Hid (Sees wd3 a4 n4 c4 z4) := S4_2.out.below HX3.out
  have HM_3 : Hid (Lies wd3 mb [.int .i64 a, .int .i64 b, .int .i64 c, .int .i64 d, .int .i64 f, .int .i64 k, .int .i64 a', .int .i64 b', .int .i64 c', .int .i64 d', .int .i64 f', .int .i64 k']) := HM_2.out.belowS HX3.out
  have HP_3 : Hid (Lies wd3 (mb + 1) [.int .i64 s1, .int .i64 s2, .int .i64 e1, .int .i64 e2, .slice a1 n1 c1, .slice a2 n2 c2, .slice a3 n3 c3, .slice a4 n4 c4]) := HP_2.out.belowS HX3.out
  clear HB_2 HE_2 S1_2 S2_2 S3_2 S4_2 HM_2 HP_2
  cases o with
  | false =>
    have m0 : wd3.cell? ⟨mb, 0, none⟩ = some (.int .i64 a) := HM_3.out.at 0
    have m1 : wd3.cell? ⟨mb, 1, none⟩ = some (.int .i64 b) := HM_3.out.at 1
    have m2 : wd3.cell? ⟨mb, 2, none⟩ = some (.int .i64 c) := HM_3.out.at 2
    have m3 : wd3.cell? ⟨mb, 3, none⟩ = some (.int .i64 d) := HM_3.out.at 3
    have m4 : wd3.cell? ⟨mb, 4, none⟩ = some (.int .i64 f) := HM_3.out.at 4
    have m5 : wd3.cell? ⟨mb, 5, none⟩ = some (.int .i64 k) := HM_3.out.at 5
    have m6 : wd3.cell? ⟨mb, 6, none⟩ = some (.int .i64 a') := HM_3.out.at 6
    have m7 : wd3.cell? ⟨mb, 7, none⟩ = some (.int .i64 b') := HM_3.out.at 7
    have m8 : wd3.cell? ⟨mb, 8, none⟩ = some (.int .i64 c') := HM_3.out.at 8
    have m9 : wd3.cell? ⟨mb, 9, none⟩ = some (.int .i64 d') := HM_3.out.at 9
    have m10 : wd3.cell? ⟨mb, 10, none⟩ = some (.int .i64 f') := HM_3.out.at 10
    have m11 : wd3.cell? ⟨mb, 11, none⟩ = some (.int .i64 k') := HM_3.out.at 11
    have p0 : wd3.cell? ⟨mb + 1, 0, none⟩ = some (.int .i64 s1) := HP_3.out.at 0
    have p1 : wd3.cell? ⟨mb + 1, 1, none⟩ = some (.int .i64 s2) := HP_3.out.at 1
    have p2 : wd3.cell? ⟨mb + 1, 2, none⟩ = some (.int .i64 e1) := HP_3.out.at 2
    have p3 : wd3.cell? ⟨mb + 1, 3, none⟩ = some (.int .i64 e2) := HP_3.out.at 3
    have p4 : wd3.cell? ⟨mb + 1, 4, none⟩ = some (.slice a1 n1 c1) := HP_3.out.at 4
    have p5 : wd3.cell? ⟨mb + 1, 5, none⟩ = some (.slice a2 n2 c2) := HP_3.out.at 5
    have p6 : wd3.cell? ⟨mb + 1, 6, none⟩ = some (.slice a3 n3 c3) := HP_3.out.at 6
    have p7 : wd3.cell? ⟨mb + 1, 7, none⟩ = some (.slice a4 n4 c4) := HP_3.out.at 7
    go_wp2_with fail
    refine (CS _ S1_3.out S2_3.out S3_3.out S4_3.out).mono ?_
    rintro e w9 ⟨rfl, hb9⟩
    have HB9 : Hid (Below w.heap.size w w9) := HB_3.out.trans (hb9.mono HB_3.out.size)
    clear hb9
    go_wp2
    go_ret
    exact ⟨rfl, HB9.out⟩
  | true =>
  obtain ⟨rfl, hQ, rfl, hae⟩ := HS.out rfl
  obtain ⟨rfl, rfl⟩ : ax = e1 ∧ ay = e2 := by simpa using hae
  clear hae HS CI CS CRS
  subst hQ
  obtain rfl := HPF.out
  clear HPF
  dsimp only at CP
  have p0 : wd3.cell? ⟨mb + 1, 0, none⟩ = some (.int .i64 s1) := HP_3.out.at 0
  have p1 : wd3.cell? ⟨mb + 1, 1, none⟩ = some (.int .i64 s2) := HP_3.out.at 1
  have p2 : wd3.cell? ⟨mb + 1, 2, none⟩ = some (.int .i64 ax) := HP_3.out.at 2
  have p3 : wd3.cell? ⟨mb + 1, 3, none⟩ = some (.int .i64 ay) := HP_3.out.at 3
  have p4 : wd3.cell? ⟨mb + 1, 4, none⟩ = some (.slice a1 n1 c1) := HP_3.out.at 4
  have p5 : wd3.cell? ⟨mb + 1, 5, none⟩ = some (.slice a2 n2 c2) := HP_3.out.at 5
  have p6 : wd3.cell? ⟨mb + 1, 6, none⟩ = some (.slice a3 n3 c3) := HP_3.out.at 6
  have p7 : wd3.cell? ⟨mb + 1, 7, none⟩ = some (.slice a4 n4 c4) := HP_3.out.at 7
  go_wp2_with fail
  clear p0 p1 p2 p3 p4 p5 p6 p7
  refine (CRI _ HE_3.out S1_3.out S2_3.out S3_3.out S4_3.out).mono ?_
  rintro e w7 ⟨rfl, hb⟩
  have HB_4 : Hid (Below w.heap.size w w7) := HB_3.out.trans (hb.mono HB_3.out.size)
  have HE_4 : Hid (EnvX w7 aL aN aG aE aR) := HE_3.out.below hb
  have S1_4 : Hid (Sees w7 a1 n1 c1 z1) := S1_3.out.below hb
  have S2_4 : Hid (Sees w7 a2 n2 c2 z2) := S2_3.out.below hb
  have S3_4 : Hid (Sees w7 a3 n3 c3 z3) := S3_3.out.below hb
  have S4_4 : Hid (Sees w7 a4 n4 c4 z4) := S4_3.out.below hb
  have HM_4 : Hid (Lies w7 mb [.int .i64 a, .int .i64 b, .int .i64 c, .int .i64 d, .int .i64 f, .int .i64 k, .int .i64 a', .int .i64 b', .int .i64 c', .int .i64 d', .int .i64 f', .int .i64 k']) := HM_3.out.belowS hb
  have HP_4 : Hid (Lies w7 (mb + 1) [.int .i64 s1, .int .i64 s2, .int .i64 ax, .int .i64 ay, .slice a1 n1 c1, .slice a2 n2 c2, .slice a3 n3 c3, .slice a4 n4 c4]) := HP_3.out.belowS hb
  clear HB_3 HE_3 S1_3 S2_3 S3_3 S4_3 HM_3 HP_3
  clear hb
  have hnw : IntKind.i64.wrap ((N : Int) - 1) = (N : Int) - 1 := by rw [IntKind.wrap_i64]; omega
  have m0 : w7.cell? ⟨mb, 0, none⟩ = some (.int .i64 a) := HM_4.out.at 0
  have m1 : w7.cell? ⟨mb, 1, none⟩ = some (.int .i64 b) := HM_4.out.at 1
  have m2 : w7.cell? ⟨mb, 2, none⟩ = some (.int .i64 c) := HM_4.out.at 2
  have m3 : w7.cell? ⟨mb, 3, none⟩ = some (.int .i64 d) := HM_4.out.at 3
  have m4 : w7.cell? ⟨mb, 4, none⟩ = some (.int .i64 f) := HM_4.out.at 4
  have m5 : w7.cell? ⟨mb, 5, none⟩ = some (.int .i64 k) := HM_4.out.at 5
  have m6 : w7.cell? ⟨mb, 6, none⟩ = some (.int .i64 a') := HM_4.out.at 6
  have m7 : w7.cell? ⟨mb, 7, none⟩ = some (.int .i64 b') := HM_4.out.at 7
  have m8 : w7.cell? ⟨mb, 8, none⟩ = some (.int .i64 c') := HM_4.out.at 8
  have m9 : w7.cell? ⟨mb, 9, none⟩ = some (.int .i64 d') := HM_4.out.at 9
  have m10 : w7.cell? ⟨mb, 10, none⟩ = some (.int .i64 f') := HM_4.out.at 10
  have m11 : w7.cell? ⟨mb, 11, none⟩ = some (.int .i64 k') := HM_4.out.at 11
  have p0 : w7.cell? ⟨mb + 1, 0, none⟩ = some (.int .i64 s1) := HP_4.out.at 0
  have p1 : w7.cell? ⟨mb + 1, 1, none⟩ = some (.int .i64 s2) := HP_4.out.at 1
  have p2 : w7.cell? ⟨mb + 1, 2, none⟩ = some (.int .i64 ax) := HP_4.out.at 2
  have p3 : w7.cell? ⟨mb + 1, 3, none⟩ = some (.int .i64 ay) := HP_4.out.at 3
  have p4 : w7.cell? ⟨mb + 1, 4, none⟩ = some (.slice a1 n1 c1) := HP_4.out.at 4
  have p5 : w7.cell? ⟨mb + 1, 5, none⟩ = some (.slice a2 n2 c2) := HP_4.out.at 5
  have p6 : w7.cell? ⟨mb + 1, 6, none⟩ = some (.slice a3 n3 c3) := HP_4.out.at 6
  have p7 : w7.cell? ⟨mb + 1, 7, none⟩ = some (.slice a4 n4 c4) := HP_4.out.at 7
  go_wp2_with fail
  clear m0 m1 m2 m3 m4 m5 m6 m7 m8 m9 m10 m11 p0 p1 p2 p3 p4 p5 p6 p7
  refine (CA _).mono ?_
  rintro e w8 ⟨rfl, hb⟩
  have HB_5 : Hid (Below w.heap.size w w8) := HB_4.out.trans (hb.mono HB_4.out.size)
  have HE_5 : Hid (EnvX w8 aL aN aG aE aR) := HE_4.out.below hb
  have S1_5 : Hid (Sees w8 a1 n1 c1 z1) := S1_4.out.below hb
  have S2_5 : Hid (Sees w8 a2 n2 c2 z2) := S2_4.out.below hb
  have S3_5 : Hid (Sees w8 a3 n3 c3 z3) := S3_4.out.below hb
  have S4_5 : Hid (Sees w8 a4 n4 c4 z4) := S4_4.out.below hb
  have HM_5 : Hid (Lies w8 mb [.int .i64 a, .int .i64 b, .int .i64 c, .int .i64 d, .int .i64 f, .int .i64 k, .int .i64 a', .int .i64 b', .int .i64 c', .int .i64 d', .int .i64 f', .int .i64 k']) := HM_4.out.belowS hb
  have HP_5 : Hid (Lies w8 (mb + 1) [.int .i64 s1, .int .i64 s2, .int .i64 ax, .int .i64 ay, .slice a1 n1 c1, .slice a2 n2 c2, .slice a3 n3 c3, .slice a4 n4 c4]) := HP_4.out.belowS hb
  clear HB_4 HE_4 S1_4 S2_4 S3_4 S4_4 HM_4 HP_4
  clear hb
  have hba : Below w8.heap.size w8 (w8.alloc (.cells #[.int .i64 ax, .int .i64 ay] 29)) := (Below.refl _ _).alloc (Nat.le_refl _) _
  have HB_6 : Hid (Below w.heap.size w (w8.alloc (.cells #[.int .i64 ax, .int .i64 ay] 29))) := HB_5.out.trans (hba.mono HB_5.out.size)
  have HE_6 : Hid (EnvX (w8.alloc (.cells #[.int .i64 ax, .int .i64 ay] 29)) aL aN aG aE aR) := HE_5.out.below hba
  have S1_6 : Hid (Sees (w8.alloc (.cells #[.int .i64 ax, .int .i64 ay] 29)) a1 n1 c1 z1) := S1_5.out.below hba
  have S2_6 : Hid (Sees (w8.alloc (.cells #[.int .i64 ax, .int .i64 ay] 29)) a2 n2 c2 z2) := S2_5.out.below hba
  have S3_6 : Hid (Sees (w8.alloc (.cells #[.int .i64 ax, .int .i64 ay] 29)) a3 n3 c3 z3) := S3_5.out.below hba
  have S4_6 : Hid (Sees (w8.alloc (.cells #[.int .i64 ax, .int .i64 ay] 29)) a4 n4 c4 z4) := S4_5.out.below hba
  have HM_6 : Hid (Lies (w8.alloc (.cells #[.int .i64 ax, .int .i64 ay] 29)) mb [.int .i64 a, .int .i64 b, .int .i64 c, .int .i64 d, .int .i64 f, .int .i64 k, .int .i64 a', .int .i64 b', .int .i64 c', .int .i64 d', .int .i64 f', .int .i64 k']) := HM_5.out.belowS hba
  have HP_6 : Hid (Lies (w8.alloc (.cells #[.int .i64 ax, .int .i64 ay] 29)) (mb + 1) [.int .i64 s1, .int .i64 s2, .int .i64 ax, .int .i64 ay, .slice a1 n1 c1, .slice a2 n2 c2, .slice a3 n3 c3, .slice a4 n4 c4]) := HP_5.out.belowS hba
  clear HB_5 HE_5 S1_5 S2_5 S3_5 S4_5 HM_5 HP_5
  clear hba
  have HN_6 : Hid (Lies (w8.alloc (.cells #[.int .i64 ax, .int .i64 ay] 29)) w8.heap.size [.int .i64 ax, .int .i64 ay]) := lies_new _ _ _
  have m0 : (w8.alloc (.cells #[.int .i64 ax, .int .i64 ay] 29)).cell? ⟨mb, 0, none⟩ = some (.int .i64 a) := HM_6.out.at 0
  have m1 : (w8.alloc (.cells #[.int .i64 ax, .int .i64 ay] 29)).cell? ⟨mb, 1, none⟩ = some (.int .i64 b) := HM_6.out.at 1
  have m2 : (w8.alloc (.cells #[.int .i64 ax, .int .i64 ay] 29)).cell? ⟨mb, 2, none⟩ = some (.int .i64 c) := HM_6.out.at 2
  have m3 : (w8.alloc (.cells #[.int .i64 ax, .int .i64 ay] 29)).cell? ⟨mb, 3, none⟩ = some (.int .i64 d) := HM_6.out.at 3
  have m4 : (w8.alloc (.cells #[.int .i64 ax, .int .i64 ay] 29)).cell? ⟨mb, 4, none⟩ = some (.int .i64 f) := HM_6.out.at 4
  have m5 : (w8.alloc (.cells #[.int .i64 ax, .int .i64 ay] 29)).cell? ⟨mb, 5, none⟩ = some (.int .i64 k) := HM_6.out.at 5
  have m6 : (w8.alloc (.cells #[.int .i64 ax, .int .i64 ay] 29)).cell? ⟨mb, 6, none⟩ = some (.int .i64 a') := HM_6.out.at 6
  have m7 : (w8.alloc (.cells #[.int .i64 ax, .int .i64 ay] 29)).cell? ⟨mb, 7, none⟩ = some (.int .i64 b') := HM_6.out.at 7
  have m8 : (w8.alloc (.cells #[.int .i64 ax, .int .i64 ay] 29)).cell? ⟨mb, 8, none⟩ = some (.int .i64 c') := HM_6.out.at 8
  have m9 : (w8.alloc (.cells #[.int .i64 ax, .int .i64 ay] 29)).cell? ⟨mb, 9, none⟩ = some (.int .i64 d') := HM_6.out.at 9
  have m10 : (w8.alloc (.cells #[.int .i64 ax, .int .i64 ay] 29)).cell? ⟨mb, 10, none⟩ = some (.int .i64 f') := HM_6.out.at 10
  have m11 : (w8.alloc (.cells #[.int .i64 ax, .int .i64 ay] 29)).cell? ⟨mb, 11, none⟩ = some (.int .i64 k') := HM_6.out.at 11
  have p0 : (w8.alloc (.cells #[.int .i64 ax, .int .i64 ay] 29)).cell? ⟨mb + 1, 0, none⟩ = some (.int .i64 s1) := HP_6.out.at 0
  have p1 : (w8.alloc (.cells #[.int .i64 ax, .int .i64 ay] 29)).cell? ⟨mb + 1, 1, none⟩ = some (.int .i64 s2) := HP_6.out.at 1
  have p2 : (w8.alloc (.cells #[.int .i64 ax, .int .i64 ay] 29)).cell? ⟨mb + 1, 2, none⟩ = some (.int .i64 ax) := HP_6.out.at 2
  have p3 : (w8.alloc (.cells #[.int .i64 ax, .int .i64 ay] 29)).cell? ⟨mb + 1, 3, none⟩ = some (.int .i64 ay) := HP_6.out.at 3
  have p4 : (w8.alloc (.cells #[.int .i64 ax, .int .i64 ay] 29)).cell? ⟨mb + 1, 4, none⟩ = some (.slice a1 n1 c1) := HP_6.out.at 4
  have p5 : (w8.alloc (.cells #[.int .i64 ax, .int .i64 ay] 29)).cell? ⟨mb + 1, 5, none⟩ = some (.slice a2 n2 c2) := HP_6.out.at 5
  have p6 : (w8.alloc (.cells #[.int .i64 ax, .int .i64 ay] 29)).cell? ⟨mb + 1, 6, none⟩ = some (.slice a3 n3 c3) := HP_6.out.at 6
  have p7 : (w8.alloc (.cells #[.int .i64 ax, .int .i64 ay] 29)).cell? ⟨mb + 1, 7, none⟩ = some (.slice a4 n4 c4) := HP_6.out.at 7
  go_wp2_with fail
  clear m0 m1 m2 m3 m4 m5 m6 m7 m8 m9 m10 m11 p0 p1 p2 p3 p4 p5 p6 p7
  generalize (w8.alloc (.cells #[.int .i64 ax, .int .i64 ay] 29)) = w9 at HB_6 HE_6 S1_6 S2_6 S3_6 S4_6 HM_6 HP_6 HN_6  ⊢
  generalize w8.heap.size = eb at HN_6  ⊢
  refine (CP _).mono ?_
  rintro e w10 ⟨g1, gc1, g2, gc2, g3, gc3, g4, gc4, rfl, ⟨q1, q2, q3, q4⟩, hfar, hb⟩
  have HB_7 : Hid (Below w.heap.size w w10) := HB_6.out.trans (hb.mono HB_6.out.size)
  have HE_7 : Hid (EnvX w10 aL aN aG aE aR) := HE_6.out.below hb
  have S1_7 : Hid (Sees w10 a1 n1 c1 z1) := S1_6.out.below hb
  have S2_7 : Hid (Sees w10 a2 n2 c2 z2) := S2_6.out.below hb
  have S3_7 : Hid (Sees w10 a3 n3 c3 z3) := S3_6.out.below hb
  have S4_7 : Hid (Sees w10 a4 n4 c4 z4) := S4_6.out.below hb
  have HM_7 : Hid (Lies w10 mb [.int .i64 a, .int .i64 b, .int .i64 c, .int .i64 d, .int .i64 f, .int .i64 k, .int .i64 a', .int .i64 b', .int .i64 c', .int .i64 d', .int .i64 f', .int .i64 k']) := HM_6.out.belowS hb
  have HP_7 : Hid (Lies w10 (mb + 1) [.int .i64 s1, .int .i64 s2, .int .i64 ax, .int .i64 ay, .slice a1 n1 c1, .slice a2 n2 c2, .slice a3 n3 c3, .slice a4 n4 c4]) := HP_6.out.belowS hb
  have HN_7 : Hid (Lies w10 eb [.int .i64 ax, .int .i64 ay]) := HN_6.out.belowS hb
  clear HB_6 HE_6 S1_6 S2_6 S3_6 S4_6 HM_6 HP_6 HN_6
  have G1_7 : Hid (Sees w10 g1 L gc1 z1) := q1.sees
  have G2_7 : Hid (Sees w10 g2 L gc2 z2) := q2.sees
  have G3_7 : Hid (Sees w10 g3 L gc3 z3) := q3.sees
  have G4_7 : Hid (Sees w10 g4 L gc4 z4) := q4.sees
  clear hb
  clear q1 q2 q3 q4 hfar
  have hba : Below w10.heap.size w10 (w10.alloc (.cells #[.int .i64 s1, .int .i64 s2, .int .i64 ax, .int .i64 ay, .slice g1 L gc1, .slice g2 L gc2, .slice g3 L gc3, .slice g4 L gc4] 34)) := (Below.refl _ _).alloc (Nat.le_refl _) _
  have HB_8 : Hid (Below w.heap.size w (w10.alloc (.cells #[.int .i64 s1, .int .i64 s2, .int .i64 ax, .int .i64 ay, .slice g1 L gc1, .slice g2 L gc2, .slice g3 L gc3, .slice g4 L gc4] 34))) := HB_7.out.trans (hba.mono HB_7.out.size)
  have HE_8 : Hid (EnvX (w10.alloc (.cells #[.int .i64 s1, .int .i64 s2, .int .i64 ax, .int .i64 ay, .slice g1 L gc1, .slice g2 L gc2, .slice g3 L gc3, .slice g4 L gc4] 34)) aL aN aG aE aR) := HE_7.out.below hba
  have S1_8 : Hid (Sees (w10.alloc (.cells #[.int .i64 s1, .int .i64 s2, .int .i64 ax, .int .i64 ay, .slice g1 L gc1, .slice g2 L gc2, .slice g3 L gc3, .slice g4 L gc4] 34)) a1 n1 c1 z1) := S1_7.out.below hba
  have S2_8 : Hid (Sees (w10.alloc (.cells #[.int .i64 s1, .int .i64 s2, .int .i64 ax, .int .i64 ay, .slice g1 L gc1, .slice g2 L gc2, .slice g3 L gc3, .slice g4 L gc4] 34)) a2 n2 c2 z2) := S2_7.out.below hba
  have S3_8 : Hid (Sees (w10.alloc (.cells #[.int .i64 s1, .int .i64 s2, .int .i64 ax, .int .i64 ay, .slice g1 L gc1, .slice g2 L gc2, .slice g3 L gc3, .slice g4 L gc4] 34)) a3 n3 c3 z3) := S3_7.out.below hba
  have S4_8 : Hid (Sees (w10.alloc (.cells #[.int .i64 s1, .int .i64 s2, .int .i64 ax, .int .i64 ay, .slice g1 L gc1, .slice g2 L gc2, .slice g3 L gc3, .slice g4 L gc4] 34)) a4 n4 c4 z4) := S4_7.out.below hba
  have HM_8 : Hid (Lies (w10.alloc (.cells #[.int .i64 s1, .int .i64 s2, .int .i64 ax, .int .i64 ay, .slice g1 L gc1, .slice g2 L gc2, .slice g3 L gc3, .slice g4 L gc4] 34)) mb [.int .i64 a, .int .i64 b, .int .i64 c, .int .i64 d, .int .i64 f, .int .i64 k, .int .i64 a', .int .i64 b', .int .i64 c', .int .i64 d', .int .i64 f', .int .i64 k']) := HM_7.out.belowS hba
  have HP_8 : Hid (Lies (w10.alloc (.cells #[.int .i64 s1, .int .i64 s2, .int .i64 ax, .int .i64 ay, .slice g1 L gc1, .slice g2 L gc2, .slice g3 L gc3, .slice g4 L gc4] 34)) (mb + 1) [.int .i64 s1, .int .i64 s2, .int .i64 ax, .int .i64 ay, .slice a1 n1 c1, .slice a2 n2 c2, .slice a3 n3 c3, .slice a4 n4 c4]) := HP_7.out.belowS hba
  have HN_8 : Hid (Lies (w10.alloc (.cells #[.int .i64 s1, .int .i64 s2, .int .i64 ax, .int .i64 ay, .slice g1 L gc1, .slice g2 L gc2, .slice g3 L gc3, .slice g4 L gc4] 34)) eb [.int .i64 ax, .int .i64 ay]) := HN_7.out.belowS hba
  have G1_8 : Hid (Sees (w10.alloc (.cells #[.int .i64 s1, .int .i64 s2, .int .i64 ax, .int .i64 ay, .slice g1 L gc1, .slice g2 L gc2, .slice g3 L gc3, .slice g4 L gc4] 34)) g1 L gc1 z1) := G1_7.out.below hba
  have G2_8 : Hid (Sees (w10.alloc (.cells #[.int .i64 s1, .int .i64 s2, .int .i64 ax, .int .i64 ay, .slice g1 L gc1, .slice g2 L gc2, .slice g3 L gc3, .slice g4 L gc4] 34)) g2 L gc2 z2) := G2_7.out.below hba
  have G3_8 : Hid (Sees (w10.alloc (.cells #[.int .i64 s1, .int .i64 s2, .int .i64 ax, .int .i64 ay, .slice g1 L gc1, .slice g2 L gc2, .slice g3 L gc3, .slice g4 L gc4] 34)) g3 L gc3 z3) := G3_7.out.below hba
  have G4_8 : Hid (Sees (w10.alloc (.cells #[.int .i64 s1, .int .i64 s2, .int .i64 ax, .int .i64 ay, .slice g1 L gc1, .slice g2 L gc2, .slice g3 L gc3, .slice g4 L gc4] 34)) g4 L gc4 z4) := G4_7.out.below hba
  clear HB_7 HE_7 S1_7 S2_7 S3_7 S4_7 HM_7 HP_7 HN_7 G1_7 G2_7 G3_7 G4_7
  clear hba
  have HQ_8 : Hid (Lies (w10.alloc (.cells #[.int .i64 s1, .int .i64 s2, .int .i64 ax, .int .i64 ay, .slice g1 L gc1, .slice g2 L gc2, .slice g3 L gc3, .slice g4 L gc4] 34)) w10.heap.size [.int .i64 s1, .int .i64 s2, .int .i64 ax, .int .i64 ay, .slice g1 L gc1, .slice g2 L gc2, .slice g3 L gc3, .slice g4 L gc4]) := lies_new _ _ _
  have p0 : (w10.alloc (.cells #[.int .i64 s1, .int .i64 s2, .int .i64 ax, .int .i64 ay, .slice g1 L gc1, .slice g2 L gc2, .slice g3 L gc3, .slice g4 L gc4] 34)).cell? ⟨mb + 1, 0, none⟩ = some (.int .i64 s1) := HP_8.out.at 0
  have p1 : (w10.alloc (.cells #[.int .i64 s1, .int .i64 s2, .int .i64 ax, .int .i64 ay, .slice g1 L gc1, .slice g2 L gc2, .slice g3 L gc3, .slice g4 L gc4] 34)).cell? ⟨mb + 1, 1, none⟩ = some (.int .i64 s2) := HP_8.out.at 1
  have p2 : (w10.alloc (.cells #[.int .i64 s1, .int .i64 s2, .int .i64 ax, .int .i64 ay, .slice g1 L gc1, .slice g2 L gc2, .slice g3 L gc3, .slice g4 L gc4] 34)).cell? ⟨mb + 1, 2, none⟩ = some (.int .i64 ax) := HP_8.out.at 2
  have p3 : (w10.alloc (.cells #[.int .i64 s1, .int .i64 s2, .int .i64 ax, .int .i64 ay, .slice g1 L gc1, .slice g2 L gc2, .slice g3 L gc3, .slice g4 L gc4] 34)).cell? ⟨mb + 1, 3, none⟩ = some (.int .i64 ay) := HP_8.out.at 3
  have p4 : (w10.alloc (.cells #[.int .i64 s1, .int .i64 s2, .int .i64 ax, .int .i64 ay, .slice g1 L gc1, .slice g2 L gc2, .slice g3 L gc3, .slice g4 L gc4] 34)).cell? ⟨mb + 1, 4, none⟩ = some (.slice a1 n1 c1) := HP_8.out.at 4
  have p5 : (w10.alloc (.cells #[.int .i64 s1, .int .i64 s2, .int .i64 ax, .int .i64 ay, .slice g1 L gc1, .slice g2 L gc2, .slice g3 L gc3, .slice g4 L gc4] 34)).cell? ⟨mb + 1, 5, none⟩ = some (.slice a2 n2 c2) := HP_8.out.at 5
  have p6 : (w10.alloc (.cells #[.int .i64 s1, .int .i64 s2, .int .i64 ax, .int .i64 ay, .slice g1 L gc1, .slice g2 L gc2, .slice g3 L gc3, .slice g4 L gc4] 34)).cell? ⟨mb + 1, 6, none⟩ = some (.slice a3 n3 c3) := HP_8.out.at 6
  have p7 : (w10.alloc (.cells #[.int .i64 s1, .int .i64 s2, .int .i64 ax, .int .i64 ay, .slice g1 L gc1, .slice g2 L gc2, .slice g3 L gc3, .slice g4 L gc4] 34)).cell? ⟨mb + 1, 7, none⟩ = some (.slice a4 n4 c4) := HP_8.out.at 7
  have q0 : (w10.alloc (.cells #[.int .i64 s1, .int .i64 s2, .int .i64 ax, .int .i64 ay, .slice g1 L gc1, .slice g2 L gc2, .slice g3 L gc3, .slice g4 L gc4] 34)).cell? ⟨w10.heap.size, 0, none⟩ = some (.int .i64 s1) := HQ_8.out.at 0
  have q1 : (w10.alloc (.cells #[.int .i64 s1, .int .i64 s2, .int .i64 ax, .int .i64 ay, .slice g1 L gc1, .slice g2 L gc2, .slice g3 L gc3, .slice g4 L gc4] 34)).cell? ⟨w10.heap.size, 1, none⟩ = some (.int .i64 s2) := HQ_8.out.at 1
  have q2 : (w10.alloc (.cells #[.int .i64 s1, .int .i64 s2, .int .i64 ax, .int .i64 ay, .slice g1 L gc1, .slice g2 L gc2, .slice g3 L gc3, .slice g4 L gc4] 34)).cell? ⟨w10.heap.size, 2, none⟩ = some (.int .i64 ax) := HQ_8.out.at 2
  have q3 : (w10.alloc (.cells #[.int .i64 s1, .int .i64 s2, .int .i64 ax, .int .i64 ay, .slice g1 L gc1, .slice g2 L gc2, .slice g3 L gc3, .slice g4 L gc4] 34)).cell? ⟨w10.heap.size, 3, none⟩ = some (.int .i64 ay) := HQ_8.out.at 3
  have q4 : (w10.alloc (.cells #[.int .i64 s1, .int .i64 s2, .int .i64 ax, .int .i64 ay, .slice g1 L gc1, .slice g2 L gc2, .slice g3 L gc3, .slice g4 L gc4] 34)).cell? ⟨w10.heap.size, 4, none⟩ = some (.slice g1 L gc1) := HQ_8.out.at 4
  have q5 : (w10.alloc (.cells #[.int .i64 s1, .int .i64 s2, .int .i64 ax, .int .i64 ay, .slice g1 L gc1, .slice g2 L gc2, .slice g3 L gc3, .slice g4 L gc4] 34)).cell? ⟨w10.heap.size, 5, none⟩ = some (.slice g2 L gc2) := HQ_8.out.at 5
  have q6 : (w10.alloc (.cells #[.int .i64 s1, .int .i64 s2, .int .i64 ax, .int .i64 ay, .slice g1 L gc1, .slice g2 L gc2, .slice g3 L gc3, .slice g4 L gc4] 34)).cell? ⟨w10.heap.size, 6, none⟩ = some (.slice g3 L gc3) := HQ_8.out.at 6
  have q7 : (w10.alloc (.cells #[.int .i64 s1, .int .i64 s2, .int .i64 ax, .int .i64 ay, .slice g1 L gc1, .slice g2 L gc2, .slice g3 L gc3, .slice g4 L gc4] 34)).cell? ⟨w10.heap.size, 7, none⟩ = some (.slice g4 L gc4) := HQ_8.out.at 7
  have e_0 : (w10.alloc (.cells #[.int .i64 s1, .int .i64 s2, .int .i64 ax, .int .i64 ay, .slice g1 L gc1, .slice g2 L gc2, .slice g3 L gc3, .slice g4 L gc4] 34)).cell? ⟨eb, 0, none⟩ = some (.int .i64 ax) := HN_8.out.at 0
  have e_1 : (w10.alloc (.cells #[.int .i64 s1, .int .i64 s2, .int .i64 ax, .int .i64 ay, .slice g1 L gc1, .slice g2 L gc2, .slice g3 L gc3, .slice g4 L gc4] 34)).cell? ⟨eb, 1, none⟩ = some (.int .i64 ay) := HN_8.out.at 1
  go_wp2_with fail
  clear p0 p1 p2 p3 p4 p5 p6 p7 q0 q1 q2 q3 q4 q5 q6 q7 e_0 e_1
  generalize (w10.alloc (.cells #[.int .i64 s1, .int .i64 s2, .int .i64 ax, .int .i64 ay, .slice g1 L gc1, .slice g2 L gc2, .slice g3 L gc3, .slice g4 L gc4] 34)) = w11 at HB_8 HE_8 S1_8 S2_8 S3_8 S4_8 HM_8 HP_8 HN_8 G1_8 G2_8 G3_8 G4_8 HQ_8  ⊢
  generalize w10.heap.size = qb at HQ_8  ⊢
  refine (CSM _ S1_8.out G1_8.out).mono ?_
  rintro e w12 ⟨rfl, hb⟩
  have HB_9 : Hid (Below w.heap.size w w12) := HB_8.out.trans (hb.mono HB_8.out.size)
  have HE_9 : Hid (EnvX w12 aL aN aG aE aR) := HE_8.out.below hb
  have S1_9 : Hid (Sees w12 a1 n1 c1 z1) := S1_8.out.below hb
  have S2_9 : Hid (Sees w12 a2 n2 c2 z2) := S2_8.out.below hb
  have S3_9 : Hid (Sees w12 a3 n3 c3 z3) := S3_8.out.below hb
  have S4_9 : Hid (Sees w12 a4 n4 c4 z4) := S4_8.out.below hb
  have HM_9 : Hid (Lies w12 mb [.int .i64 a, .int .i64 b, .int .i64 c, .int .i64 d, .int .i64 f, .int .i64 k, .int .i64 a', .int .i64 b', .int .i64 c', .int .i64 d', .int .i64 f', .int .i64 k']) := HM_8.out.belowS hb
  have HP_9 : Hid (Lies w12 (mb + 1) [.int .i64 s1, .int .i64 s2, .int .i64 ax, .int .i64 ay, .slice a1 n1 c1, .slice a2 n2 c2, .slice a3 n3 c3, .slice a4 n4 c4]) := HP_8.out.belowS hb
  have HN_9 : Hid (Lies w12 eb [.int .i64 ax, .int .i64 ay]) := HN_8.out.belowS hb
  have G1_9 : Hid (Sees w12 g1 L gc1 z1) := G1_8.out.below hb
  have G2_9 : Hid (Sees w12 g2 L gc2 z2) := G2_8.out.below hb
  have G3_9 : Hid (Sees w12 g3 L gc3 z3) := G3_8.out.below hb
  have G4_9 : Hid (Sees w12 g4 L gc4 z4) := G4_8.out.below hb
  have HQ_9 : Hid (Lies w12 qb [.int .i64 s1, .int .i64 s2, .int .i64 ax, .int .i64 ay, .slice g1 L gc1, .slice g2 L gc2, .slice g3 L gc3, .slice g4 L gc4]) := HQ_8.out.belowS hb
  clear HB_8 HE_8 S1_8 S2_8 S3_8 S4_8 HM_8 HP_8 HN_8 G1_8 G2_8 G3_8 G4_8 HQ_8
  clear hb
  have p0 : w12.cell? ⟨mb + 1, 0, none⟩ = some (.int .i64 s1) := HP_9.out.at 0
  have p1 : w12.cell? ⟨mb + 1, 1, none⟩ = some (.int .i64 s2) := HP_9.out.at 1
  have p2 : w12.cell? ⟨mb + 1, 2, none⟩ = some (.int .i64 ax) := HP_9.out.at 2
  have p3 : w12.cell? ⟨mb + 1, 3, none⟩ = some (.int .i64 ay) := HP_9.out.at 3
  have p4 : w12.cell? ⟨mb + 1, 4, none⟩ = some (.slice a1 n1 c1) := HP_9.out.at 4
  have p5 : w12.cell? ⟨mb + 1, 5, none⟩ = some (.slice a2 n2 c2) := HP_9.out.at 5
  have p6 : w12.cell? ⟨mb + 1, 6, none⟩ = some (.slice a3 n3 c3) := HP_9.out.at 6
  have p7 : w12.cell? ⟨mb + 1, 7, none⟩ = some (.slice a4 n4 c4) := HP_9.out.at 7
  have q0 : w12.cell? ⟨qb, 0, none⟩ = some (.int .i64 s1) := HQ_9.out.at 0
  have q1 : w12.cell? ⟨qb, 1, none⟩ = some (.int .i64 s2) := HQ_9.out.at 1
  have q2 : w12.cell? ⟨qb, 2, none⟩ = some (.int .i64 ax) := HQ_9.out.at 2
  have q3 : w12.cell? ⟨qb, 3, none⟩ = some (.int .i64 ay) := HQ_9.out.at 3
  have q4 : w12.cell? ⟨qb, 4, none⟩ = some (.slice g1 L gc1) := HQ_9.out.at 4
  have q5 : w12.cell? ⟨qb, 5, none⟩ = some (.slice g2 L gc2) := HQ_9.out.at 5
  have q6 : w12.cell? ⟨qb, 6, none⟩ = some (.slice g3 L gc3) := HQ_9.out.at 6
  have q7 : w12.cell? ⟨qb, 7, none⟩ = some (.slice g4 L gc4) := HQ_9.out.at 7
  have e_0 : w12.cell? ⟨eb, 0, none⟩ = some (.int .i64 ax) := HN_9.out.at 0
  have e_1 : w12.cell? ⟨eb, 1, none⟩ = some (.int .i64 ay) := HN_9.out.at 1
  go_wp2_with fail
  clear p0 p1 p2 p3 p4 p5 p6 p7 q0 q1 q2 q3 q4 q5 q6 q7 e_0 e_1
  refine (CSM _ S2_9.out G2_9.out).mono ?_
  rintro e w13 ⟨rfl, hb⟩
  have HB_10 : Hid (Below w.heap.size w w13) := HB_9.out.trans (hb.mono HB_9.out.size)
  have HE_10 : Hid (EnvX w13 aL aN aG aE aR) := HE_9.out.below hb
  have S1_10 : Hid (Sees w13 a1 n1 c1 z1) := S1_9.out.below hb
  have S2_10 : Hid (Sees w13 a2 n2 c2 z2) := S2_9.out.below hb
  have S3_10 : Hid (Sees w13 a3 n3 c3 z3) := S3_9.out.below hb
  have S4_10 : Hid (Sees w13 a4 n4 c4 z4) := S4_9.out.below hb
  have HM_10 : Hid (Lies w13 mb [.int .i64 a, .int .i64 b, .int .i64 c, .int .i64 d, .int .i64 f, .int .i64 k, .int .i64 a', .int .i64 b', .int .i64 c', .int .i64 d', .int .i64 f', .int .i64 k']) := HM_9.out.belowS hb
  have HP_10 : Hid (Lies w13 (mb + 1) [.int .i64 s1, .int .i64 s2, .int .i64 ax, .int .i64 ay, .slice a1 n1 c1, .slice a2 n2 c2, .slice a3 n3 c3, .slice a4 n4 c4]) := HP_9.out.belowS hb
  have HN_10 : Hid (Lies w13 eb [.int .i64 ax, .int .i64 ay]) := HN_9.out.belowS hb
  have G1_10 : Hid (Sees w13 g1 L gc1 z1) := G1_9.out.below hb
  have G2_10 : Hid (Sees w13 g2 L gc2 z2) := G2_9.out.below hb
  have G3_10 : Hid (Sees w13 g3 L gc3 z3) := G3_9.out.below hb
  have G4_10 : Hid (Sees w13 g4 L gc4 z4) := G4_9.out.below hb
  have HQ_10 : Hid (Lies w13 qb [.int .i64 s1, .int .i64 s2, .int .i64 ax, .int .i64 ay, .slice g1 L gc1, .slice g2 L gc2, .slice g3 L gc3, .slice g4 L gc4]) := HQ_9.out.belowS hb
  clear HB_9 HE_9 S1_9 S2_9 S3_9 S4_9 HM_9 HP_9 HN_9 G1_9 G2_9 G3_9 G4_9 HQ_9
  clear hb
  have p0 : w13.cell? ⟨mb + 1, 0, none⟩ = some (.int .i64 s1) := HP_10.out.at 0
  have p1 : w13.cell? ⟨mb + 1, 1, none⟩ = some (.int .i64 s2) := HP_10.out.at 1
  have p2 : w13.cell? ⟨mb + 1, 2, none⟩ = some (.int .i64 ax) := HP_10.out.at 2
  have p3 : w13.cell? ⟨mb + 1, 3, none⟩ = some (.int .i64 ay) := HP_10.out.at 3
  have p4 : w13.cell? ⟨mb + 1, 4, none⟩ = some (.slice a1 n1 c1) := HP_10.out.at 4
  have p5 : w13.cell? ⟨mb + 1, 5, none⟩ = some (.slice a2 n2 c2) := HP_10.out.at 5
  have p6 : w13.cell? ⟨mb + 1, 6, none⟩ = some (.slice a3 n3 c3) := HP_10.out.at 6
  have p7 : w13.cell? ⟨mb + 1, 7, none⟩ = some (.slice a4 n4 c4) := HP_10.out.at 7
  have q0 : w13.cell? ⟨qb, 0, none⟩ = some (.int .i64 s1) := HQ_10.out.at 0
  have q1 : w13.cell? ⟨qb, 1, none⟩ = some (.int .i64 s2) := HQ_10.out.at 1
  have q2 : w13.cell? ⟨qb, 2, none⟩ = some (.int .i64 ax) := HQ_10.out.at 2
  have q3 : w13.cell? ⟨qb, 3, none⟩ = some (.int .i64 ay) := HQ_10.out.at 3
  have q4 : w13.cell? ⟨qb, 4, none⟩ = some (.slice g1 L gc1) := HQ_10.out.at 4
  have q5 : w13.cell? ⟨qb, 5, none⟩ = some (.slice g2 L gc2) := HQ_10.out.at 5
  have q6 : w13.cell? ⟨qb, 6, none⟩ = some (.slice g3 L gc3) := HQ_10.out.at 6
  have q7 : w13.cell? ⟨qb, 7, none⟩ = some (.slice g4 L gc4) := HQ_10.out.at 7
  have e_0 : w13.cell? ⟨eb, 0, none⟩ = some (.int .i64 ax) := HN_10.out.at 0
  have e_1 : w13.cell? ⟨eb, 1, none⟩ = some (.int .i64 ay) := HN_10.out.at 1
  go_wp2_with fail
  clear p0 p1 p2 p3 p4 p5 p6 p7 q0 q1 q2 q3 q4 q5 q6 q7 e_0 e_1
  refine (CSM _ S3_10.out G3_10.out).mono ?_
  rintro e w14 ⟨rfl, hb⟩
  have HB_11 : Hid (Below w.heap.size w w14) := HB_10.out.trans (hb.mono HB_10.out.size)
  have HE_11 : Hid (EnvX w14 aL aN aG aE aR) := HE_10.out.below hb
  have S1_11 : Hid (Sees w14 a1 n1 c1 z1) := S1_10.out.below hb
  have S2_11 : Hid (Sees w14 a2 n2 c2 z2) := S2_10.out.below hb
  have S3_11 : Hid (Sees w14 a3 n3 c3 z3) := S3_10.out.below hb
  have S4_11 : Hid (Sees w14 a4 n4 c4 z4) := S4_10.out.below hb
  have HM_11 : Hid (Lies w14 mb [.int .i64 a, .int .i64 b, .int .i64 c, .int .i64 d, .int .i64 f, .int .i64 k, .int .i64 a', .int .i64 b', .int .i64 c', .int .i64 d', .int .i64 f', .int .i64 k']) := HM_10.out.belowS hb
  have HP_11 : Hid (Lies w14 (mb + 1) [.int .i64 s1, .int .i64 s2, .int .i64 ax, .int .i64 ay, .slice a1 n1 c1, .slice a2 n2 c2, .slice a3 n3 c3, .slice a4 n4 c4]) := HP_10.out.belowS hb
  have HN_11 : Hid (Lies w14 eb [.int .i64 ax, .int .i64 ay]) := HN_10.out.belowS hb
  have G1_11 : Hid (Sees w14 g1 L gc1 z1) := G1_10.out.below hb
  have G2_11 : Hid (Sees w14 g2 L gc2 z2) := G2_10.out.below hb
  have G3_11 : Hid (Sees w14 g3 L gc3 z3) := G3_10.out.below hb
  have G4_11 : Hid (Sees w14 g4 L gc4 z4) := G4_10.out.below hb
  have HQ_11 : Hid (Lies w14 qb [.int .i64 s1, .int .i64 s2, .int .i64 ax, .int .i64 ay, .slice g1 L gc1, .slice g2 L gc2, .slice g3 L gc3, .slice g4 L gc4]) := HQ_10.out.belowS hb
  clear HB_10 HE_10 S1_10 S2_10 S3_10 S4_10 HM_10 HP_10 HN_10 G1_10 G2_10 G3_10 G4_10 HQ_10
  clear hb
  have p0 : w14.cell? ⟨mb + 1, 0, none⟩ = some (.int .i64 s1) := HP_11.out.at 0
  have p1 : w14.cell? ⟨mb + 1, 1, none⟩ = some (.int .i64 s2) := HP_11.out.at 1
  have p2 : w14.cell? ⟨mb + 1, 2, none⟩ = some (.int .i64 ax) := HP_11.out.at 2
  have p3 : w14.cell? ⟨mb + 1, 3, none⟩ = some (.int .i64 ay) := HP_11.out.at 3
  have p4 : w14.cell? ⟨mb + 1, 4, none⟩ = some (.slice a1 n1 c1) := HP_11.out.at 4
  have p5 : w14.cell? ⟨mb + 1, 5, none⟩ = some (.slice a2 n2 c2) := HP_11.out.at 5
  have p6 : w14.cell? ⟨mb + 1, 6, none⟩ = some (.slice a3 n3 c3) := HP_11.out.at 6
  have p7 : w14.cell? ⟨mb + 1, 7, none⟩ = some (.slice a4 n4 c4) := HP_11.out.at 7
  have q0 : w14.cell? ⟨qb, 0, none⟩ = some (.int .i64 s1) := HQ_11.out.at 0
  have q1 : w14.cell? ⟨qb, 1, none⟩ = some (.int .i64 s2) := HQ_11.out.at 1
  have q2 : w14.cell? ⟨qb, 2, none⟩ = some (.int .i64 ax) := HQ_11.out.at 2
  have q3 : w14.cell? ⟨qb, 3, none⟩ = some (.int .i64 ay) := HQ_11.out.at 3
  have q4 : w14.cell? ⟨qb, 4, none⟩ = some (.slice g1 L gc1) := HQ_11.out.at 4
  have q5 : w14.cell? ⟨qb, 5, none⟩ = some (.slice g2 L gc2) := HQ_11.out.at 5
  have q6 : w14.cell? ⟨qb, 6, none⟩ = some (.slice g3 L gc3) := HQ_11.out.at 6
  have q7 : w14.cell? ⟨qb, 7, none⟩ = some (.slice g4 L gc4) := HQ_11.out.at 7
  have e_0 : w14.cell? ⟨eb, 0, none⟩ = some (.int .i64 ax) := HN_11.out.at 0
  have e_1 : w14.cell? ⟨eb, 1, none⟩ = some (.int .i64 ay) := HN_11.out.at 1
  go_wp2_with fail
  clear p0 p1 p2 p3 p4 p5 p6 p7 q0 q1 q2 q3 q4 q5 q6 q7 e_0 e_1
  refine (CSM _ S4_11.out G4_11.out).mono ?_
  rintro e w15 ⟨rfl, hb⟩
  have HB_12 : Hid (Below w.heap.size w w15) := HB_11.out.trans (hb.mono HB_11.out.size)
  have HE_12 : Hid (EnvX w15 aL aN aG aE aR) := HE_11.out.below hb
  have S1_12 : Hid (Sees w15 a1 n1 c1 z1) := S1_11.out.below hb
  have S2_12 : Hid (Sees w15 a2 n2 c2 z2) := S2_11.out.below hb
  have S3_12 : Hid (Sees w15 a3 n3 c3 z3) := S3_11.out.below hb
  have S4_12 : Hid (Sees w15 a4 n4 c4 z4) := S4_11.out.below hb
  have HM_12 : Hid (Lies w15 mb [.int .i64 a, .int .i64 b, .int .i64 c, .int .i64 d, .int .i64 f, .int .i64 k, .int .i64 a', .int .i64 b', .int .i64 c', .int .i64 d', .int .i64 f', .int .i64 k']) := HM_11.out.belowS hb
  have HP_12 : Hid (Lies w15 (mb + 1) [.int .i64 s1, .int .i64 s2, .int .i64 ax, .int .i64 ay, .slice a1 n1 c1, .slice a2 n2 c2, .slice a3 n3 c3, .slice a4 n4 c4]) := HP_11.out.belowS hb
  have HN_12 : Hid (Lies w15 eb [.int .i64 ax, .int .i64 ay]) := HN_11.out.belowS hb
  have G1_12 : Hid (Sees w15 g1 L gc1 z1) := G1_11.out.below hb
  have G2_12 : Hid (Sees w15 g2 L gc2 z2) := G2_11.out.below hb
  have G3_12 : Hid (Sees w15 g3 L gc3 z3) := G3_11.out.below hb
  have G4_12 : Hid (Sees w15 g4 L gc4 z4) := G4_11.out.below hb
  have HQ_12 : Hid (Lies w15 qb [.int .i64 s1, .int .i64 s2, .int .i64 ax, .int .i64 ay, .slice g1 L gc1, .slice g2 L gc2, .slice g3 L gc3, .slice g4 L gc4]) := HQ_11.out.belowS hb
  clear HB_11 HE_11 S1_11 S2_11 S3_11 S4_11 HM_11 HP_11 HN_11 G1_11 G2_11 G3_11 G4_11 HQ_11
  clear hb
  go_wp2
  go_ret
  exact ⟨rfl, HB_12.out⟩
end Go.Proofs.YtbcfjbkmkknmfaaGreatDoor
