/- What may be done together: where each bank stands behind it, and that of two such the more of each bank may be done too. No condition. -/
import Derived.Test.YtbgnmapmiobjcaaM7
namespace Go.Proofs.Ytbgnmapmiobjcaa
open Go.RowKit
set_option linter.unusedSimpArgs false
set_option linter.unusedVariables false

def moveQ (ps : List PayS) (bank : Int) (x : H) : List Int → H
  | [] => x
  | i :: r => moveQ ps bank (match ps[i.toNat]? with | some p => moveM x bank p.dst p.amt | none => x) r
theorem moveQ_snoc (ps : List PayS) (bank : Int) : ∀ (xs : List Int) (x : H) (i : Int), moveQ ps bank x (xs ++ [i]) = (match ps[i.toNat]? with | some p => moveM (moveQ ps bank x xs) bank p.dst p.amt | none => moveQ ps bank x xs)
  | [], x, i => rfl
  | j :: r, x, i => by simp only [List.cons_append, moveQ]; exact moveQ_snoc ps bank r _ i
def movesTo (h : H) (ps : List PayS) (n : Int → Int) : Nat → H
  | 0 => h
  | b + 1 => moveQ ps b (movesTo h ps n b) ((queueM ps b).take (n b).toNat)
def okBank (x : H) (b : Int) : Bool := !decide (wr (x.has b + x.cred b) < 0) && a4 fun t => !(decide (0 ≤ x.lim b t) && decide (x.lim b t < wr (x.sent b t - x.sent t b)))
def togetherM (h : H) (ps : List PayS) (n : Int → Int) : Bool :=
  goodB h ps && (a4 fun b => withinB (n b) 0 (queueM ps b).length) && a4 fun b => decide (n b = 0) || okBank (movesTo h ps n 4) b

/-! sums -/
def amtOf (ps : List PayS) (i : Int) : Int := match ps[i.toNat]? with | some p => p.amt | none => 0
def toOf (ps : List PayS) (d i : Int) : Int := match ps[i.toNat]? with | some p => if p.dst = d then p.amt else 0 | none => 0
def outS (ps : List PayS) : List Int → Int
  | [] => 0
  | i :: r => amtOf ps i + outS ps r
def toS (ps : List PayS) (d : Int) : List Int → Int
  | [] => 0
  | i :: r => toOf ps d i + toS ps d r
def GoodL (ps : List PayS) (bank : Int) (xs : List Int) : Prop := ∀ i ∈ xs, ∃ p, ps[i.toNat]? = some p ∧ goodTransferB bank p.dst p.amt = true
structure Near (k : Int) (h : H) : Prop where
  has : ∀ i : Int, 0 ≤ i ∧ i < 4 → -1099511627776 - k * 1000000 ≤ h.has i ∧ h.has i ≤ 1099511627776 + k * 1000000
  sent : ∀ i j : Int, 0 ≤ i ∧ i < 4 → 0 ≤ j ∧ j < 4 → 0 ≤ h.sent i j ∧ h.sent i j ≤ 1099511627776 + k * 1000000
theorem GoodH.near {h : H} (g : GoodH h) : Near 0 h := ⟨fun i hi => by have := g.has i hi; omega, fun i j hi hj => by have := g.sent i j hi hj; omega⟩
theorem move_at {h : H} {k : Int} (hn : Near k h) (hk : k ≤ 1000000) {a b n : Int} (ht : goodTransferB a b n = true) :
    moveM h a b n = { h with has := up1 (up1 h.has a (h.has a - n)) b (h.has b + n), sent := up2 h.sent a b (h.sent a b + n) } := by
  obtain ⟨ha, hb, hne, h1, h2⟩ := transfer_spec ht
  have e1 := hn.has a ha
  have e2 := hn.has b hb
  have e3 := hn.sent a b ha hb
  unfold moveM
  rw [if_pos ht]
  have x1 : wr (h.has a - n) = h.has a - n := wr_in (by omega) (by omega)
  have x2 : up1 h.has a (wr (h.has a - n)) b = h.has b := by unfold up1; rw [if_neg (fun e => hne e.symm)]
  rw [x2, x1, wr_in (show -9223372036854775808 ≤ h.has b + n by omega) (by omega), wr_in (show -9223372036854775808 ≤ h.sent a b + n by omega) (by omega)]
theorem moveQ_spec (ps : List PayS) (bank : Int) : ∀ (xs : List Int) (h : H) (k : Int), GoodL ps bank xs → Near k h → 0 ≤ k → k + xs.length ≤ 1000000 →
    (∀ i : Int, 0 ≤ i ∧ i < 4 → (moveQ ps bank h xs).has i = h.has i - (if i = bank then outS ps xs else 0) + toS ps i xs) ∧
    (∀ i j : Int, 0 ≤ i ∧ i < 4 → 0 ≤ j ∧ j < 4 → (moveQ ps bank h xs).sent i j = h.sent i j + (if i = bank then toS ps j xs else 0)) ∧
    (moveQ ps bank h xs).cred = h.cred ∧ (moveQ ps bank h xs).lim = h.lim ∧ Near (k + xs.length) (moveQ ps bank h xs)
  | [], h, k, _, hn, _, _ => ⟨fun i _ => by simp [moveQ, outS, toS], fun i j _ _ => by simp [moveQ, toS], rfl, rfl, by simpa [moveQ] using hn⟩
  | x :: r, h, k, hg, hn, h0, hk => by
    obtain ⟨p, hp, ht⟩ := hg x (by simp)
    simp only [List.length_cons] at hk
    obtain ⟨ha, hb, hne, h1, h2⟩ := transfer_spec ht
    have hm := move_at hn (by omega) ht
    have hn' : Near (k + 1) (moveM h bank p.dst p.amt) := by
      rw [hm]
      refine ⟨fun i hi => ?_, fun i j hi hj => ?_⟩
      · have e1 := hn.has i hi
        simp only [up1]
        split
        · rename_i e; subst e; omega
        · split
          · rename_i e; subst e; omega
          · omega
      · have e1 := hn.sent i j hi hj
        simp only [up2]
        split
        · rename_i e; obtain ⟨e2, e3⟩ := e; subst e2; subst e3; omega
        · omega
    obtain ⟨i1, i2, i3, i4, i5⟩ := moveQ_spec ps bank r (moveM h bank p.dst p.amt) (k + 1) (fun i hi => hg i (by simp [hi])) hn' (by omega) (by omega)
    have hq : moveQ ps bank h (x :: r) = moveQ ps bank (moveM h bank p.dst p.amt) r := by simp only [moveQ, hp]
    rw [hq]
    refine ⟨fun i hi => ?_, fun i j hi hj => ?_, ?_, ?_, ?_⟩
    · rw [i1 i hi, hm]
      simp only [up1, outS, toS, amtOf, toOf, hp]
      by_cases e1 : i = p.dst
      · rw [e1]
        have e2 : ¬ p.dst = bank := fun e => hne e.symm
        simp only [e2, if_true, if_false]; omega
      · have e1' : ¬ p.dst = i := fun e => e1 e.symm
        by_cases e2 : i = bank
        · rw [e2]
          rw [e2] at e1 e1'
          simp only [e1, e1', if_true, if_false]; omega
        · simp only [e1, e1', e2, if_false]; omega
    · rw [i2 i j hi hj, hm]
      simp only [up2, toS, toOf, hp]
      by_cases e1 : i = bank
      · rw [e1]
        by_cases e2 : j = p.dst
        · rw [e2]; simp only [and_self, if_true]; omega
        · have e2' : ¬ p.dst = j := fun e => e2 e.symm
          simp only [e2, e2', and_false, if_true, if_false]; omega
      · simp only [e1, false_and, if_false]
    · rw [i3, hm]
    · rw [i4, hm]
    · have : k + ((x :: r).length : Int) = k + 1 + (r.length : Int) := by simp only [List.length_cons]; omega
      rw [this]; exact i5
theorem toOf_nonneg {ps : List PayS} {bank : Int} {xs : List Int} (hg : GoodL ps bank xs) (d : Int) : ∀ i ∈ xs, 0 ≤ toOf ps d i := fun i hi => by
  obtain ⟨p, hp, ht⟩ := hg i hi
  obtain ⟨_, _, _, h1, h2⟩ := transfer_spec ht
  simp only [toOf, hp]
  split <;> omega
theorem toS_take (ps : List PayS) (d : Int) : ∀ (xs : List Int), (∀ i ∈ xs, 0 ≤ toOf ps d i) → ∀ (a b : Nat), a ≤ b → toS ps d (xs.take a) ≤ toS ps d (xs.take b)
  | [], _, a, b, _ => by simp [toS]
  | x :: r, h, a, b, hab => by
    cases a with
    | zero =>
      have : ∀ ys : List Int, (∀ i ∈ ys, 0 ≤ toOf ps d i) → 0 ≤ toS ps d ys := by
        intro ys
        induction ys with
        | nil => intro _; simp [toS]
        | cons y r ih => intro h; have := h y (by simp); have := ih (fun i hi => h i (by simp [hi])); simp only [toS]; omega
      simp only [List.take_zero, toS]
      exact this _ (fun i hi => h i (List.mem_of_mem_take hi))
    | succ a =>
      cases b with
      | zero => omega
      | succ b =>
        simp only [List.take_succ_cons, toS]
        have := toS_take ps d r (fun i hi => h i (by simp [hi])) a b (by omega)
        omega
end Go.Proofs.Ytbgnmapmiobjcaa
