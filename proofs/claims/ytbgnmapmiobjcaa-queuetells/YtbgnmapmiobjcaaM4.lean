/- What the queues come to, said plainly. No condition. -/
import Derived.Test.YtbgnmapmiobjcaaM3
namespace Go.Proofs.Ytbgnmapmiobjcaa
open Go.RowKit
set_option linter.unusedSimpArgs false
set_option linter.unusedVariables false

/-! the document's way: the least of those that are left, again and again -/
def better (ps : List PayS) (best : Int) (p : PayS) : Bool := decide (best < 0) || (match ps[best.toNat]? with
  | some q => decide (p.cls < q.cls) || (decide (p.cls = q.cls) && decide (p.seq < q.seq))
  | none => false)
def wantB (ps : List PayS) (bank : Int) (taken : List Int) (best : Int) (i : Nat) (p : PayS) : Bool := !(!decide (p.sta = 1) || !decide (p.src = bank) || decide ((i : Int) ∈ taken)) && better ps best p
def bestTo (ps : List PayS) (bank : Int) (taken : List Int) : Nat → Int
  | 0 => -1
  | k + 1 => match ps[k]? with
    | some p => bif wantB ps bank taken (bestTo ps bank taken k) k p then k else bestTo ps bank taken k
    | none => bestTo ps bank taken k
theorem best_step {ps : List PayS} {bank : Int} {taken : List Int} {k : Nat} {p : PayS} (h : ps[k]? = some p) : bestTo ps bank taken (k + 1) = bif wantB ps bank taken (bestTo ps bank taken k) k p then (k : Int) else bestTo ps bank taken k := by
  simp only [bestTo, h]
theorem best_range (ps : List PayS) (bank : Int) (taken : List Int) : ∀ k, bestTo ps bank taken k = -1 ∨ (0 ≤ bestTo ps bank taken k ∧ bestTo ps bank taken k < k)
  | 0 => .inl rfl
  | k + 1 => by
    have ih := best_range ps bank taken k
    unfold bestTo
    split
    · cases wantB ps bank taken (bestTo ps bank taken k) k _
      · simp only [cond_false]; omega
      · simp only [cond_true]; omega
    · omega
/-- which payments are a bank's and queued -/
def Mine (ps : List PayS) (bank : Int) (i : Int) : Prop := 0 ≤ i ∧ ∃ p, ps[i.toNat]? = some p ∧ p.sta = 1 ∧ p.src = bank
theorem best_mine (ps : List PayS) (bank : Int) (taken : List Int) : ∀ k, 0 ≤ bestTo ps bank taken k → Mine ps bank (bestTo ps bank taken k) ∧ bestTo ps bank taken k ∉ taken
  | 0, h => by simp [bestTo] at h
  | k + 1, h => by
    have ih := best_mine ps bank taken k
    revert h
    unfold bestTo
    split
    · rename_i p hp
      cases hw : wantB ps bank taken (bestTo ps bank taken k) k p
      · simp only [cond_false]; exact ih
      · simp only [cond_true]
        intro _
        simp [wantB] at hw
        refine ⟨⟨by omega, p, by simpa using hp, hw.1.1.1, hw.1.1.2⟩, hw.1.2⟩
    · exact ih
def queueTo (ps : List PayS) (bank : Int) : Nat → List Int
  | 0 => []
  | k + 1 => bif decide (0 ≤ bestTo ps bank (queueTo ps bank k) ps.length) then queueTo ps bank k ++ [bestTo ps bank (queueTo ps bank k) ps.length] else queueTo ps bank k
def queueM (ps : List PayS) (bank : Int) : List Int := queueTo ps bank ps.length
theorem queueTo_len (ps : List PayS) (bank : Int) : ∀ k, (queueTo ps bank k).length ≤ k
  | 0 => by simp [queueTo]
  | k + 1 => by
    have := queueTo_len ps bank k
    unfold queueTo
    cases decide (0 ≤ bestTo ps bank (queueTo ps bank k) ps.length)
    · simp only [cond_false]; omega
    · simp only [cond_true, List.length_append, List.length_cons, List.length_nil]; omega
theorem queueTo_yes {ps : List PayS} {bank : Int} {k : Nat} (h : decide (0 ≤ bestTo ps bank (queueTo ps bank k) ps.length) = true) : queueTo ps bank (k + 1) = queueTo ps bank k ++ [bestTo ps bank (queueTo ps bank k) ps.length] := by
  simp only [queueTo, h, cond_true]
theorem queueTo_no {ps : List PayS} {bank : Int} {k : Nat} (h : decide (0 ≤ bestTo ps bank (queueTo ps bank k) ps.length) = false) : queueTo ps bank (k + 1) = queueTo ps bank k := by
  simp only [queueTo, h, cond_false]

/-! a house without its payments -/
def H.core (h : H) : H := { h with pa := none, pl := 0, pc := 0 }
def settles (ps : List PayS) (n : Int) : Option PayS := if 0 ≤ n then (match ps[n.toNat]? with | some p => if p.sta = 1 then some p else none | none => none) else none
def settleC (h : H) (ps : List PayS) (n : Int) : H := match settles ps n with | some p => moveM h p.src p.dst p.amt | none => h
def settleP (ps : List PayS) (n : Int) : List PayS := match settles ps n with | some p => ps.set n.toNat { p with sta := 2 } | none => ps
theorem core_move (h : H) (a b n : Int) : (moveM h a b n).core = moveM h.core a b n := by
  unfold moveM
  split <;> rfl
theorem core_core (h : H) : h.core.core = h.core := rfl
end Go.Proofs.Ytbgnmapmiobjcaa
