/- Houses not far beyond their bounds: what may be sent is asked alike on both sides. No condition. -/
import Derived.Test.YtbgnmapmiobjcaaM10
namespace Go.Proofs.Ytbgnmapmiobjcaa
open Go.RowKit
set_option linter.unusedSimpArgs false
set_option linter.unusedVariables false

structure NearG (k : Int) (h : H) : Prop where
  near : Near k h
  cred : ∀ i : Int, 0 ≤ i ∧ i < 4 → 0 ≤ h.cred i ∧ h.cred i ≤ 1000000
  lim : ∀ i j : Int, 0 ≤ i ∧ i < 4 → 0 ≤ j ∧ j < 4 → -1 ≤ h.lim i j ∧ h.lim i j ≤ 1000000
theorem GoodH.nearG {h : H} (g : GoodH h) : NearG 0 h := ⟨g.near, g.cred, g.lim⟩
theorem NearG.core {k : Int} {h : H} (g : NearG k h) : NearG k h.core := ⟨⟨g.near.has, g.near.sent⟩, g.cred, g.lim⟩
theorem NearG.ofCore {k : Int} {h : H} (g : NearG k h.core) : NearG k h := ⟨⟨g.near.has, g.near.sent⟩, g.cred, g.lim⟩
theorem NearG.mono {k k' : Int} {h : H} (g : NearG k h) (hk : k ≤ k') : NearG k' h :=
  ⟨⟨fun i hi => by have := g.near.has i hi; omega, fun i j hi hj => by have := g.near.sent i j hi hj; omega⟩, g.cred, g.lim⟩
theorem may_near {h : H} {k : Int} (g : NearG k h) (hk : k ≤ 1000000) (a b n : Int) : mayM h a b n = maySendM h a b n := by
  unfold mayM maySendM
  cases ht : goodTransferB a b n
  · rfl
  · obtain ⟨ha, hb, hne, h1, h2⟩ := transfer_spec ht
    have e1 := g.near.has a ha
    have e2 := g.cred a ha
    have e3 := g.near.sent a b ha hb
    have e4 := g.near.sent b a hb ha
    have e5 := g.lim a b ha hb
    have l : leftM h a = h.has a + h.cred a := by
      unfold leftM
      rw [isBank_of ha]
      simp only [Bool.not_true, Bool.false_eq_true, if_false]
      exact wr_in (by omega) (by omega)
    have nn : netM h a b = h.sent a b - h.sent b a := by
      unfold netM
      rw [isBank_of ha, isBank_of hb]
      simp only [Bool.not_true, Bool.or_self, Bool.false_eq_true, if_false]
      exact wr_in (by omega) (by omega)
    rw [l, nn, wr_in (a := h.has a - n) (by omega) (by omega), wr_in (a := 0 - h.cred a) (by omega) (by omega), wr_in (a := h.sent a b - h.sent b a) (by omega) (by omega)]
    have d1 : decide (h.has a + h.cred a < n) = decide (h.has a - n < 0 - h.cred a) := by rw [Bool.eq_iff_iff]; simp; omega
    have d2 : decide (h.lim a b = -1) = decide (h.lim a b ≤ -1) := by rw [Bool.eq_iff_iff]; simp; omega
    rw [d1, d2]
theorem NearG.move {k : Int} {h : H} (g : NearG k h) (h0 : 0 ≤ k) (hk : k ≤ 1000000) {a b n : Int} (ht : goodTransferB a b n = true) : NearG (k + 1) (moveM h a b n) := by
  obtain ⟨ha, hb, hne, h1, h2⟩ := transfer_spec ht
  rw [move_at g.near hk ht]
  refine ⟨⟨fun i hi => ?_, fun i j hi hj => ?_⟩, g.cred, g.lim⟩
  · have e1 := g.near.has i hi
    have e2 := g.near.has a ha
    have e3 := g.near.has b hb
    simp only [up1]
    split
    · omega
    · split <;> omega
  · have e1 := g.near.sent i j hi hj
    have e2 := g.near.sent a b ha hb
    simp only [up2]
    split <;> omega
theorem NearG.settle {k : Int} {c : H} {ps : List PayS} (g : NearG k c) (h0 : 0 ≤ k) (hk : k ≤ 1000000) (hg : GoodPs ps) (n : Int) : NearG (k + 1) (settleC c ps n) := by
  unfold settleC
  split
  · rename_i p hs
    exact g.move h0 hk (pay_transfer (hg p (List.mem_of_getElem? (settles_spec hs).2.1)))
  · exact g.mono (by omega)
theorem drain_near (bank : Int) : ∀ (m : Nat) (s : QS) (k : Int), cnt s.ps = m → GoodPs s.ps → NearG k s.c → 0 ≤ k → k + m ≤ 1000000 → NearG (k + m - cnt (drain bank s).ps) (drain bank s).c ∧ GoodPs (drain bank s).ps := by
  intro m
  induction m using Nat.strongRecOn with
  | _ m ih =>
    intro s k hm hg hn h0 hk
    cases h : firstM s.c s.ps bank with
    | none => rw [drain_end h, hm]; exact ⟨hn.mono (by omega), hg⟩
    | some i =>
      rw [drain_go h]
      obtain ⟨p, r, _, h1, _⟩ := firstM_spec h
      have hc := cnt_settle h1
      have := ih (cnt (settleP s.ps i)) (by omega) (s.go i) (k + 1) rfl (settleP_good hg i) (hn.settle h0 (by omega) hg i) (by omega) (by omega)
      refine ⟨this.1.mono ?_, this.2⟩
      omega
end Go.Proofs.Ytbgnmapmiobjcaa
