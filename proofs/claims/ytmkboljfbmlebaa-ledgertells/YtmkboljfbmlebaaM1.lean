/- What the functions of the ledger come to, said plainly. No condition. -/
import Derived.Test.YtmkboljfbmlebaaK6
namespace Go.Proofs.Ytmkboljfbmlebaa
open Go.RowKit
set_option linter.unusedSimpArgs false
set_option linter.unusedVariables false

def withinB (n lo hi : Int) : Bool := decide (lo ≤ n) && decide (n ≤ hi)
def isBankB (n : Int) : Bool := withinB n 0 3
def goodTransferB (a b n : Int) : Bool := isBankB a && isBankB b && !decide (a = b) && withinB n 1 1000000
def goodStateB (a : Int) : Bool := decide (a = 1) || decide (a = 2) || decide (a = 3)
def goodPayB (q : PayS) : Bool := goodTransferB q.src q.dst q.amt && withinB q.cls 0 2 && goodStateB q.sta && decide (0 ≤ q.seq)
def isPayB (q : PayS) : Bool := withinB q.src 0 3 && withinB q.dst 0 3 && !decide (q.src = q.dst) && withinB q.amt 1 1000000 && withinB q.cls 0 2 && withinB q.sta 1 3 && decide (0 ≤ q.seq)
def netM (h : H) (i k : Int) : Int := if !isBankB i || !isBankB k then 0 else wr (h.sent i k - h.sent k i)
def leftM (h : H) (i : Int) : Int := if !isBankB i then 0 else wr (h.has i + h.cred i)
def sumM (h : H) : Int := wr (wr (wr (wr (0 + h.has 0) + h.has 1) + h.has 2) + h.has 3)
def mayM (h : H) (a b n : Int) : Bool :=
  bif !goodTransferB a b n || decide (leftM h a < n) then false else (decide (h.lim a b = -1) || decide (wr (netM h a b + n) ≤ h.lim a b))
def maySendM (h : H) (a b n : Int) : Bool :=
  bif !goodTransferB a b n || decide (wr (h.has a - n) < wr (0 - h.cred a)) then false else (decide (h.lim a b ≤ -1) || decide (wr (wr (h.sent a b - h.sent b a) + n) ≤ h.lim a b))
def moveM (h : H) (a b n : Int) : H := if goodTransferB a b n = true then
  { h with has := up1 (up1 h.has a (wr (h.has a - n))) b (wr (up1 h.has a (wr (h.has a - n)) b + n)), sent := up2 h.sent a b (wr (h.sent a b + n)) } else h
def newM : H := { has := fun _ => 0, cred := fun _ => 0, sent := fun _ _ => 0, lim := fun _ _ => -1, pa := none, pl := 0, pc := 0, next := 0 }

def a4 (p : Int → Bool) : Bool := p 0 && p 1 && p 2 && p 3
def accGoodB (has cred : Int → Int) : Bool := a4 fun i => withinB (has i) (-1099511627776) 1099511627776 && withinB (cred i) 0 1000000
def sentGoodB (m : Int → Int → Int) : Bool := a4 fun i => decide (m i i = 0) && a4 fun k => withinB (m i k) 0 1099511627776
def limGoodB (m : Int → Int → Int) : Bool := a4 fun i => a4 fun k => withinB (m i k) (-1) 1000000
def roomyB (h : H) : Bool := a4 fun i => !decide (h.has i < -1099478073344) && !decide (1099478073344 < h.has i) && a4 fun k => !decide (1099478073344 < h.sent i k)
theorem bank_lt {i : Int} (h : isBankB i = true) : 0 ≤ i ∧ i < 4 := by simp [isBankB, withinB] at h; omega
theorem transfer_lt {a b n : Int} (h : goodTransferB a b n = true) : (0 ≤ a ∧ a < 4) ∧ (0 ≤ b ∧ b < 4) ∧ a ≠ b ∧ 1 ≤ n ∧ n ≤ 1000000 := by
  simp [goodTransferB, isBankB, withinB] at h; omega
theorem isPay_eq (q : PayS) : isPayB q = goodPayB q := by
  simp only [isPayB, goodPayB, goodTransferB, isBankB, goodStateB, withinB]
  rw [Bool.eq_iff_iff]
  simp
  omega

def goB (nx : Int) (seen : List Int) : List PayS → Bool
  | [] => true
  | p :: r => bif !goodPayB p || decide (nx ≤ p.seq) || decide (p.seq ∈ seen) then false else goB nx (seen ++ [p.seq]) r
def goodPaysB (ps : List PayS) (nx : Int) : Bool := bif decide (24 < (ps.length : Int)) then false else goB nx [] ps
def goodB (h : H) (ps : List PayS) : Bool := withinB h.next 0 1048576 && goodPaysB ps h.next && accGoodB h.has h.cred && sentGoodB h.sent && limGoodB h.lim
theorem gp_long {ps : List PayS} {nx : Int} {pl : Nat} (hl : ps.length = pl) (h : decide (24 < (pl : Int)) = true) : false = goodPaysB ps nx := by
  unfold goodPaysB; rw [hl, h]; rfl
theorem gp_end {ps : List PayS} {nx : Int} {pl k : Nat} (hl : ps.length = pl) (h : decide (24 < (pl : Int)) = false) (hk : decide ((k : Int) < pl) = false) (hi : goB nx [] ps = goB nx ((ps.take k).map PayS.seq) (ps.drop k)) : true = goodPaysB ps nx := by
  unfold goodPaysB
  rw [hl, h, hi, List.drop_eq_nil_of_le (by simp at hk; omega)]
  rfl
theorem gp_bad {ps : List PayS} {nx : Int} {pl k : Nat} {p : PayS} (hl : ps.length = pl) (h : decide (24 < (pl : Int)) = false) (hi : goB nx [] ps = goB nx ((ps.take k).map PayS.seq) (ps.drop k)) (hd : ps.drop k = p :: ps.drop (k + 1))
    (hb : (!goodPayB p || decide (nx ≤ p.seq) || decide (p.seq ∈ (ps.take k).map PayS.seq)) = true) : false = goodPaysB ps nx := by
  unfold goodPaysB
  rw [hl, h, hi, hd]
  simp only [goB, hb, cond_true, cond_false]
theorem gp_step {ps : List PayS} {nx : Int} {k : Nat} {p : PayS} (hi : goB nx [] ps = goB nx ((ps.take k).map PayS.seq) (ps.drop k)) (hd : ps.drop k = p :: ps.drop (k + 1)) (ht : ps.take (k + 1) = ps.take k ++ [p])
    (hb : (!goodPayB p || decide (nx ≤ p.seq) || decide (p.seq ∈ (ps.take k).map PayS.seq)) = false) : goB nx [] ps = goB nx ((ps.take (k + 1)).map PayS.seq) (ps.drop (k + 1)) := by
  rw [hi, hd, ht]
  simp only [goB, hb, cond_false, List.map_append, List.map_cons, List.map_nil]
end Go.Proofs.Ytmkboljfbmlebaa
