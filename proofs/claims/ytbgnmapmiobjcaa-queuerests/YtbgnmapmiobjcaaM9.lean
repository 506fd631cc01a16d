/- A house far from its bounds stays valid over a sweep, and loses no money. No condition. -/
import Derived.Test.YtbgnmapmiobjcaaM8
namespace Go.Proofs.Ytbgnmapmiobjcaa
open Go.RowKit
set_option linter.unusedSimpArgs false
set_option linter.unusedVariables false

def GoodPs (ps : List PayS) : Prop := ∀ p ∈ ps, goodPayB p = true
theorem goB_all {nx : Int} : ∀ (ps : List PayS) (seen : List Int), goB nx seen ps = true → GoodPs ps ∧ (∀ p ∈ ps, p.seq ∉ seen) ∧ ∀ (i j : Nat) (p q : PayS), ps[i]? = some p → ps[j]? = some q → p.seq = q.seq → i = j
  | [], seen, _ => ⟨fun p hp => (by cases hp), fun p hp => (by cases hp), fun i j p q h => (by simp at h)⟩
  | x :: r, seen, h => by
    simp only [goB] at h
    cases hb : (!goodPayB x || decide (nx ≤ x.seq) || decide (x.seq ∈ seen))
    · rw [hb] at h
      simp only [cond_false] at h
      simp only [Bool.or_eq_false_iff, Bool.not_eq_false', decide_eq_false_iff_not] at hb
      obtain ⟨h1, h2, h3⟩ := goB_all r _ h
      have hx : ∀ p ∈ r, p.seq ≠ x.seq := fun p hp e => h2 p hp (by rw [e]; simp)
      refine ⟨fun p hp => ?_, fun p hp => ?_, fun i j p q hi hj e => ?_⟩
      · rcases List.mem_cons.1 hp with rfl | hp
        · exact hb.1.1
        · exact h1 p hp
      · rcases List.mem_cons.1 hp with rfl | hp
        · exact hb.2
        · exact fun hm => h2 p hp (by simp [hm])
      · cases i with
        | zero =>
          cases j with
          | zero => rfl
          | succ j =>
            simp at hi hj; subst hi
            exact absurd e.symm (hx q (List.mem_of_getElem? hj))
        | succ i =>
          cases j with
          | zero =>
            simp at hi hj; subst hj
            exact absurd e (hx p (List.mem_of_getElem? hi))
          | succ j =>
            simp at hi hj
            rw [h3 i j p q hi hj e]
    · rw [hb] at h; cases h
theorem good_pays {h : H} {ps : List PayS} (hg : goodB h ps = true) : GoodPs ps ∧ SeqsApart ps ∧ ps.length ≤ 24 := by
  unfold goodB goodPaysB at hg
  simp only [Bool.and_eq_true] at hg
  obtain ⟨⟨⟨⟨_, h1⟩, _⟩, _⟩, _⟩ := hg
  cases hl : decide (24 < (ps.length : Int))
  · rw [hl] at h1
    simp only [cond_false] at h1
    obtain ⟨e1, _, e3⟩ := goB_all ps [] h1
    have := of_decide_eq_false hl
    exact ⟨e1, e3, by omega⟩
  · rw [hl] at h1; cases h1
structure Room (k : Int) (h : H) : Prop where
  has : ∀ i : Int, 0 ≤ i ∧ i < 4 → -1099478073344 - k * 1000000 ≤ h.has i ∧ h.has i ≤ 1099478073344 + k * 1000000
  cred : ∀ i : Int, 0 ≤ i ∧ i < 4 → 0 ≤ h.cred i ∧ h.cred i ≤ 1000000
  diag : ∀ i : Int, 0 ≤ i ∧ i < 4 → h.sent i i = 0
  sent : ∀ i j : Int, 0 ≤ i ∧ i < 4 → 0 ≤ j ∧ j < 4 → 0 ≤ h.sent i j ∧ h.sent i j ≤ 1099478073344 + k * 1000000
  lim : ∀ i j : Int, 0 ≤ i ∧ i < 4 → 0 ≤ j ∧ j < 4 → -1 ≤ h.lim i j ∧ h.lim i j ≤ 1000000
theorem Room.good {k : Int} {h : H} (r : Room k h) (hk : k ≤ 33) : GoodH h :=
  ⟨fun i hi => by have := r.has i hi; omega, r.cred, r.diag, fun i j hi hj => by have := r.sent i j hi hj; omega, r.lim⟩
theorem room_of {h : H} (g : GoodH h) (hr : roomyB h = true) : Room 0 h := by
  unfold roomyB at hr
  simp only [a4_iff, Bool.and_eq_true, Bool.not_eq_true', decide_eq_false_iff_not] at hr
  exact ⟨fun i hi => by have := (hr i hi).1; omega, g.cred, g.diag, fun i j hi hj => by have h1 := (hr i hi).2 j hj; have := g.sent i j hi hj; omega, g.lim⟩
theorem Room.move {k : Int} {h : H} (r : Room k h) (h0 : 0 ≤ k) (hk : k ≤ 32) {a b n : Int} (ht : goodTransferB a b n = true) : Room (k + 1) (moveM h a b n) := by
  obtain ⟨ha, hb, hne, h1, h2⟩ := transfer_spec ht
  rw [move_eq (r.good (by omega)) ht]
  refine ⟨fun i hi => ?_, r.cred, fun i hi => ?_, fun i j hi hj => ?_, r.lim⟩
  · have e1 := r.has i hi
    simp only [up1]
    split
    · rename_i e; subst e; omega
    · split
      · rename_i e; subst e; omega
      · omega
  · simp only [up2]
    split
    · rename_i e; exact absurd (e.1.symm.trans e.2) hne
    · exact r.diag i hi
  · have e1 := r.sent i j hi hj
    simp only [up2]
    split
    · rename_i e; obtain ⟨e2, e3⟩ := e; subst e2; subst e3; omega
    · omega
theorem settleP_good {ps : List PayS} (hg : GoodPs ps) (i : Int) : GoodPs (settleP ps i) := by
  unfold settleP
  split
  · rename_i p hs
    intro q hq
    obtain ⟨_, hp, _⟩ := settles_spec hs
    rcases List.mem_or_eq_of_mem_set hq with hq | rfl
    · exact hg q hq
    · have := hg p (List.mem_of_getElem? hp)
      simp only [goodPayB, goodStateB, Bool.and_eq_true] at this ⊢
      exact ⟨⟨this.1.1, by simp⟩, this.2⟩
  · exact hg
theorem pay_transfer {p : PayS} (h : goodPayB p = true) : goodTransferB p.src p.dst p.amt = true := by
  simp only [goodPayB, Bool.and_eq_true] at h
  exact h.1.1.1
theorem chain_room : ∀ (r : List Int) (c : H) (ps : List PayS) (k : Int), Room k c → GoodPs ps → Chain c ps r → 0 ≤ k → k + r.length ≤ 33 → Room (k + r.length) (chainC c ps r) ∧ GoodPs (chainP ps r) ∧ sumM (chainC c ps r) = sumM c
  | [], c, ps, k, hr, hg, _, _, _ => ⟨by simpa [chainC] using hr, hg, rfl⟩
  | i :: r, c, ps, k, hr, hg, hc, h0, hk => by
    obtain ⟨⟨b, _, hf⟩, h2⟩ := hc
    obtain ⟨p, _, _, h3, _⟩ := firstM_spec hf
    simp only [List.length_cons] at hk
    have hp := (settles_spec h3).2.1
    have ht := pay_transfer (hg p (List.mem_of_getElem? hp))
    have e : settleC c ps i = moveM c p.src p.dst p.amt := by simp only [settleC, h3]
    have hr' : Room (k + 1) (settleC c ps i) := by rw [e]; exact hr.move h0 (by omega) ht
    obtain ⟨a1, a2, a3⟩ := chain_room r _ _ (k + 1) hr' (settleP_good hg i) h2 (by omega) (by omega)
    refine ⟨?_, a2, ?_⟩
    · have e1 : k + ((i :: r).length : Int) = k + 1 + (r.length : Int) := by simp only [List.length_cons]; omega
      rw [e1]; exact a1
    · simp only [chainC]
      rw [a3, e]
      exact move_sum (hr.good (by omega)) _ _ _
/-- what a sweep of a roomy house leaves -/
theorem sweep_room {h : H} {ps : List PayS} (hg : goodB h.core ps = true) (hr : roomyB h.core = true) : GoodH (sweepM h.core ps).c ∧ sumM (sweepM h.core ps).c = sumM h.core ∧ (sweepM h.core ps).xs.length ≤ 24 := by
  obtain ⟨g1, g2, g3⟩ := good_pays hg
  obtain ⟨c1, c2, c3⟩ := sweepM_goes hg
  have hl : (sweepM h.core ps).xs.length ≤ 24 := by
    have h1 : ∀ (r : List Int) (c : H) (ps : List PayS), Chain c ps r → r.length ≤ cnt ps := by
      intro r
      induction r with
      | nil => intros; simp
      | cons i r ih =>
        intro c ps h
        obtain ⟨⟨b, _, hf⟩, h2⟩ := h
        obtain ⟨p, _, _, h3, _⟩ := firstM_spec hf
        have := cnt_settle h3
        have := ih _ _ h2
        simp only [List.length_cons]; omega
    have := h1 _ _ _ c1
    have h4 : cnt ps ≤ ps.length := List.countP_le_length
    omega
  obtain ⟨a1, a2, a3⟩ := chain_room _ _ _ 0 (room_of (good_of hg) hr) g1 c1 (by omega) (by omega)
  rw [c2]
  exact ⟨a1.good (by omega), a3, hl⟩
end Go.Proofs.Ytbgnmapmiobjcaa
