/- What a payment does to a good house that is far from its bounds: plain numbers, no program. Conditions: the house is good (and roomy, where said). -/
import Derived.Test.YtmkboljfbmlebaaM1
namespace Go.Proofs.Ytmkboljfbmlebaa
open Go.RowKit
set_option linter.unusedSimpArgs false
set_option linter.unusedVariables false

theorem wr_in {a : Int} (h1 : -9223372036854775808 ≤ a) (h2 : a ≤ 9223372036854775807) : wr a = a := wrap_in h1 h2
theorem four {i : Int} (h : 0 ≤ i ∧ i < 4) : i = 0 ∨ i = 1 ∨ i = 2 ∨ i = 3 := by omega
theorem a4_iff (p : Int → Bool) : a4 p = true ↔ ∀ i : Int, 0 ≤ i ∧ i < 4 → p i = true := by
  unfold a4
  simp only [Bool.and_eq_true]
  constructor
  · rintro ⟨⟨⟨h0, h1⟩, h2⟩, h3⟩ i hi
    rcases four hi with rfl | rfl | rfl | rfl <;> assumption
  · intro h
    exact ⟨⟨⟨h 0 (by omega), h 1 (by omega)⟩, h 2 (by omega)⟩, h 3 (by omega)⟩
structure GoodH (h : H) : Prop where
  has : ∀ i : Int, 0 ≤ i ∧ i < 4 → -1099511627776 ≤ h.has i ∧ h.has i ≤ 1099511627776
  cred : ∀ i : Int, 0 ≤ i ∧ i < 4 → 0 ≤ h.cred i ∧ h.cred i ≤ 1000000
  diag : ∀ i : Int, 0 ≤ i ∧ i < 4 → h.sent i i = 0
  sent : ∀ i k : Int, 0 ≤ i ∧ i < 4 → 0 ≤ k ∧ k < 4 → 0 ≤ h.sent i k ∧ h.sent i k ≤ 1099511627776
  lim : ∀ i k : Int, 0 ≤ i ∧ i < 4 → 0 ≤ k ∧ k < 4 → -1 ≤ h.lim i k ∧ h.lim i k ≤ 1000000
theorem within_iff {n lo hi : Int} : withinB n lo hi = true ↔ lo ≤ n ∧ n ≤ hi := by simp [withinB]
theorem good_of {h : H} {ps : List PayS} (hg : goodB h ps = true) : GoodH h := by
  unfold goodB accGoodB sentGoodB limGoodB at hg
  simp only [Bool.and_eq_true, a4_iff, within_iff, decide_eq_true_eq] at hg
  obtain ⟨⟨⟨_, h1⟩, h2⟩, h3⟩ := hg
  exact ⟨fun i hi => (h1 i hi).1, fun i hi => (h1 i hi).2, fun i hi => (h2 i hi).1, fun i k hi hk => (h2 i hi).2 k hk, fun i k hi hk => h3 i hi k hk⟩
theorem transfer_spec {a b n : Int} (h : goodTransferB a b n = true) : (0 ≤ a ∧ a < 4) ∧ (0 ≤ b ∧ b < 4) ∧ a ≠ b ∧ 1 ≤ n ∧ n ≤ 1000000 := transfer_lt h
theorem move_eq {h : H} (g : GoodH h) {a b n : Int} (ht : goodTransferB a b n = true) :
    moveM h a b n = { h with has := up1 (up1 h.has a (h.has a - n)) b (h.has b + n), sent := up2 h.sent a b (h.sent a b + n) } := by
  obtain ⟨ha, hb, hne, h1, h2⟩ := transfer_spec ht
  have e1 := g.has a ha
  have e2 := g.has b hb
  have e3 := g.sent a b ha hb
  have e4 : up1 h.has a (h.has a - n) b = h.has b := by simp only [up1, if_neg (fun e : b = a => hne e.symm)]
  unfold moveM
  rw [if_pos ht, wr_in (by omega) (by omega), e4, wr_in (by omega) (by omega), wr_in (by omega) (by omega)]
theorem move_no {h : H} {a b n : Int} (ht : goodTransferB a b n = false) : moveM h a b n = h := by unfold moveM; rw [if_neg (by simp [ht])]
theorem sum_eq {h : H} (g : ∀ i : Int, 0 ≤ i ∧ i < 4 → -1099512627776 ≤ h.has i ∧ h.has i ≤ 1099512627776) : sumM h = h.has 0 + h.has 1 + h.has 2 + h.has 3 := by
  have e0 := g 0 (by omega)
  have e1 := g 1 (by omega)
  have e2 := g 2 (by omega)
  have e3 := g 3 (by omega)
  unfold sumM
  rw [wr_in (a := 0 + h.has 0) (by omega) (by omega), wr_in (a := 0 + h.has 0 + h.has 1) (by omega) (by omega), wr_in (a := 0 + h.has 0 + h.has 1 + h.has 2) (by omega) (by omega), wr_in (by omega) (by omega)]
  omega
theorem move_has {h : H} (g : GoodH h) (a b n : Int) : ∀ i : Int, 0 ≤ i ∧ i < 4 → -1099512627776 ≤ (moveM h a b n).has i ∧ (moveM h a b n).has i ≤ 1099512627776 := by
  intro i hi
  have e0 := g.has i hi
  cases ht : goodTransferB a b n
  · rw [move_no ht]; omega
  · obtain ⟨ha, hb, hne, h1, h2⟩ := transfer_spec ht
    have e1 := g.has a ha
    have e2 := g.has b hb
    rw [move_eq g ht]
    simp only [up1]
    split
    · omega
    · split <;> omega
theorem move_sent {h : H} (g : GoodH h) (a b n : Int) : ∀ i k : Int, 0 ≤ i ∧ i < 4 → 0 ≤ k ∧ k < 4 → 0 ≤ (moveM h a b n).sent i k ∧ (moveM h a b n).sent i k ≤ 1099512627776 := by
  intro i k hi hk
  have e0 := g.sent i k hi hk
  cases ht : goodTransferB a b n
  · rw [move_no ht]; omega
  · obtain ⟨ha, hb, hne, h1, h2⟩ := transfer_spec ht
    have e1 := g.sent a b ha hb
    rw [move_eq g ht]
    simp only [up2]
    split <;> omega
theorem move_sum {h : H} (g : GoodH h) (a b n : Int) : sumM (moveM h a b n) = sumM h := by
  rw [sum_eq (move_has g a b n), sum_eq (fun i hi => by have := g.has i hi; omega)]
  cases ht : goodTransferB a b n
  · rw [move_no ht]
  · obtain ⟨ha, hb, hne, h1, h2⟩ := transfer_spec ht
    rw [move_eq g ht]
    rcases four ha with rfl | rfl | rfl | rfl <;> rcases four hb with rfl | rfl | rfl | rfl <;> first
      | exact absurd rfl hne
      | (simp [up1]; omega)
theorem move_other {h : H} (a b n : Int) {i : Int} (h1 : i ≠ a) (h2 : i ≠ b) : (moveM h a b n).has i = h.has i := by
  unfold moveM
  split
  · simp only [up1, if_neg h1, if_neg h2]
  · rfl
theorem move_cred {h : H} (a b n : Int) : (moveM h a b n).cred = h.cred := by unfold moveM; split <;> rfl
theorem move_lim {h : H} (a b n : Int) : (moveM h a b n).lim = h.lim := by unfold moveM; split <;> rfl
theorem isBank_of {i : Int} (h : 0 ≤ i ∧ i < 4) : isBankB i = true := by simp [isBankB, withinB]; omega
theorem net_eq {x : H} (g : ∀ i k : Int, 0 ≤ i ∧ i < 4 → 0 ≤ k ∧ k < 4 → 0 ≤ x.sent i k ∧ x.sent i k ≤ 1099512627776) {i k : Int} (hi : 0 ≤ i ∧ i < 4) (hk : 0 ≤ k ∧ k < 4) : netM x i k = x.sent i k - x.sent k i := by
  have e1 := g i k hi hk
  have e2 := g k i hk hi
  unfold netM
  rw [isBank_of hi, isBank_of hk]
  simp only [Bool.not_true, Bool.or_self, Bool.false_eq_true, if_false]
  exact wr_in (by omega) (by omega)
theorem net_anti {x : H} (g : ∀ i k : Int, 0 ≤ i ∧ i < 4 → 0 ≤ k ∧ k < 4 → 0 ≤ x.sent i k ∧ x.sent i k ≤ 1099512627776) {i k : Int} (hi : 0 ≤ i ∧ i < 4) (hk : 0 ≤ k ∧ k < 4) : netM x i k = wr (0 - netM x k i) := by
  have e1 := g i k hi hk
  have e2 := g k i hk hi
  rw [net_eq g hi hk, net_eq g hk hi, wr_in (by omega) (by omega)]
  omega
theorem left_eq {x : H} {i : Int} (hi : 0 ≤ i ∧ i < 4) (g : -1099512627776 ≤ x.has i ∧ x.has i ≤ 1099512627776) (c : 0 ≤ x.cred i ∧ x.cred i ≤ 1000000) : leftM x i = x.has i + x.cred i := by
  unfold leftM
  rw [isBank_of hi]
  simp only [Bool.not_true, Bool.false_eq_true, if_false]
  exact wr_in (by omega) (by omega)
/-- what May says, of a good house -/
theorem may_spec {h : H} (g : GoodH h) {a b n : Int} (hm : mayM h a b n = true) : goodTransferB a b n = true ∧ n ≤ h.has a + h.cred a ∧ (h.lim a b = -1 ∨ h.sent a b - h.sent b a + n ≤ h.lim a b) := by
  unfold mayM at hm
  cases ht : goodTransferB a b n
  · rw [ht] at hm; simp at hm
  · obtain ⟨ha, hb, hne, h1, h2⟩ := transfer_spec ht
    have e1 := g.has a ha
    have e2 := g.cred a ha
    have e3 := g.sent a b ha hb
    have e4 := g.sent b a hb ha
    have l : leftM h a = h.has a + h.cred a := left_eq ha (by omega) e2
    have nn : netM h a b = h.sent a b - h.sent b a := net_eq (fun i k hi hk => by have := g.sent i k hi hk; omega) ha hb
    have w : wr (h.sent a b - h.sent b a + n) = h.sent a b - h.sent b a + n := wr_in (by omega) (by omega)
    rw [ht, l, nn, w] at hm
    by_cases hl : h.has a + h.cred a < n
    · simp [hl] at hm
    · simp [hl] at hm
      exact ⟨rfl, by omega, hm⟩
theorem may_left {h : H} (g : GoodH h) {a b n : Int} (hm : mayM h a b n = true) : leftM (moveM h a b n) a < 0 ↔ False := by
  obtain ⟨ht, h1, _⟩ := may_spec g hm
  obtain ⟨ha, hb, hne, _, _⟩ := transfer_spec ht
  have e := move_has g a b n a ha
  have c := g.cred a ha
  have e1 := g.has a ha
  rw [left_eq ha e (by rw [move_cred]; exact c), move_cred, move_eq g ht]
  simp only [up1, if_neg hne, if_true, iff_false]
  omega
theorem may_right {h : H} (g : GoodH h) {a b n : Int} (hm : mayM h a b n = true) : leftM (moveM h a b n) b = wr (leftM h b + n) := by
  obtain ⟨ht, h1, _⟩ := may_spec g hm
  obtain ⟨ha, hb, hne, _, _⟩ := transfer_spec ht
  have e := move_has g a b n b hb
  have c := g.cred b hb
  have e1 := g.has b hb
  rw [left_eq hb e (by rw [move_cred]; exact c), move_cred, left_eq hb (by omega) c, wr_in (by omega) (by omega), move_eq g ht]
  simp only [up1, if_true]
  omega
theorem may_net {h : H} (g : GoodH h) {a b n : Int} (hm : mayM h a b n = true) (hl : 0 ≤ (moveM h a b n).lim a b) : ¬ (moveM h a b n).lim a b < netM (moveM h a b n) a b := by
  obtain ⟨ht, h1, h2⟩ := may_spec g hm
  obtain ⟨ha, hb, hne, _, _⟩ := transfer_spec ht
  rw [net_eq (move_sent g a b n) ha hb, move_lim] at *
  rw [move_eq g ht]
  simp only [up2, and_self, if_true, if_neg (fun e : b = a ∧ a = b => hne e.2)]
  omega
theorem acc_same {h : H} {a b n i : Int} (h1 : ¬ i = a) (h2 : ¬ i = b) : acc2L ((moveM h a b n).has i) ((moveM h a b n).cred i) = acc2L (h.has i) (h.cred i) := by
  rw [move_other a b n h1 h2, move_cred]
end Go.Proofs.Ytmkboljfbmlebaa
