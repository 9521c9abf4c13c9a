/- The law of division in the words of what the program answers; no program in sight. -/
import Derived.Test.YtjeoenieoejolaaLawMath
import Derived.Test.YtjeoenieoejolaaDivMathB
import Derived.Test.YtjeoenieoejolaaSlO
namespace Go.Proofs.Ytjeoenieoejolaa
namespace M
theorem divRes_in {zs ys q r : List Int} (h : DivRes zs ys q r) (ho : divOk zs ys = true) : Div zs ys q r := by
  rcases h with ⟨_, h⟩ | ⟨e, _⟩
  · exact h
  · rw [ho] at e; cases e
theorem divOk_parts {zs ys : List Int} (h : divOk zs ys = true) : polyOk zs = true ∧ polyOk ys = true := by
  unfold divOk at h
  simp only [Bool.and_eq_true] at h
  exact both_parts h.1
theorem div_mulOk {zs ys q r : List Int} (ho : divOk zs ys = true) (h : Div zs ys q r) (h1 : zs.length ≤ 50) (h2 : ys.length ≤ 50) : mulOk q ys = true := by
  obtain ⟨p1, p2⟩ := divOk_parts ho
  have hq := div_qlen h (polyOk_parts p2).2 (neat_polyOk p2)
  have hk : polyOk q = true := polyOk_mk (by omega) h.aq h.nq
  unfold mulOk both
  rw [hk, p2]; simp; omega
theorem div_back {zs ys q r : List Int} (ho : divOk zs ys = true) (h : Div zs ys q r) (h1 : zs.length ≤ 50) (h2 : ys.length ≤ 50) : addv (mulv q ys) r = zs := by
  obtain ⟨p1, p2⟩ := divOk_parts ho
  have hm := div_mulOk ho h h1 h2
  have hs := h.short
  have k1 : polyOk (mulv q ys) = true := law_mulOk hm
  have k2 : polyOk r = true := polyOk_mk (by omega) h.ar h.nr
  unfold addv; rw [if_pos (both_mk k1 k2)]
  refine neat_ext (neat_trim _) (neat_polyOk p1) fun i => ?_
  rw [getD_trim, padd_getD]
  unfold mulv; rw [if_pos hm, pmul_getD, h.eq i]
theorem trimv_same {zs : List Int} (h : polyOk zs = true) : trimv zs = zs := by
  unfold trimv; rw [if_pos (coef_of h)]; exact trim_neat (neat_polyOk h)
end M
end Go.Proofs.Ytjeoenieoejolaa
