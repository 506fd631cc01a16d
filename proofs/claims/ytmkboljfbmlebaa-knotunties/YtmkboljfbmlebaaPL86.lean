/- What knotUnties_holds stands on, part 6: each part says what it proves. No condition beside those that it names. -/
import Derived.Test.YtmkboljfbmlebaaPL85
/- What the document's own answer comes to, said plainly, and that it is the ledger's. Conditions: where said, a good house. -/
namespace Go.Proofs.Ytmkboljfbmlebaa
open Go.RowKit
set_option linter.unusedSimpArgs false
set_option linter.unusedVariables false

def sameB (h : H) (ps : List PayS) (k : H) (qs : List PayS) : Bool :=
  decide (accL h.has h.cred = accL k.has k.cred) && decide (matL h.sent = matL k.sent) && decide (matL h.lim = matL k.lim) && decide (h.next = k.next) && decide ((h.pl : Int) = k.pl) && decide (ps.map PayS.list = qs.map PayS.list)
theorem same_bad {F : Addr → Value → Prop} {h k : H} {ps qs : List PayS} {j : Nat} {p q : PayS} (hj : ps[j]? = some p) (hq : qs[j]? = some q) (hne : decide (p.list = q.list) = false) : decide (ps.map PayS.list = qs.map PayS.list) = false := by
  simp only [decide_eq_false_iff_not] at hne ⊢
  intro e
  apply hne
  have h1 : (ps.map PayS.list)[j]? = some p.list := by simp [hj]
  rw [e] at h1
  simp [hq] at h1
  exact h1.symm
theorem same_all {ps qs : List PayS} {m n k : Nat} (h1 : ps.length = m) (h2 : qs.length = n) (he : decide ((m : Int) = n) = true) (hk : decide ((k : Int) < m) = false) (hi : (ps.take k).map PayS.list = (qs.take k).map PayS.list) : decide (ps.map PayS.list = qs.map PayS.list) = true := by
  simp only [decide_eq_true_eq, decide_eq_false_iff_not] at *
  rw [List.take_of_length_le (by omega), List.take_of_length_le (by omega)] at hi
  exact hi
theorem same_step {ps qs : List PayS} {k : Nat} {p q : PayS} (hi : (ps.take k).map PayS.list = (qs.take k).map PayS.list) (h1 : ps.take (k + 1) = ps.take k ++ [p]) (h2 : qs.take (k + 1) = qs.take k ++ [q]) (he : decide (p.list = q.list) = true) :
    (ps.take (k + 1)).map PayS.list = (qs.take (k + 1)).map PayS.list := by
  simp only [decide_eq_true_eq] at he
  rw [h1, h2, List.map_append, List.map_append, hi]
  simp [he]
theorem same_of {h k : H} {ps : List PayS} (h1 : ∀ i : Int, 0 ≤ i ∧ i < 4 → h.has i = k.has i ∧ h.cred i = k.cred i) (h2 : ∀ i j : Int, 0 ≤ i ∧ i < 4 → 0 ≤ j ∧ j < 4 → h.sent i j = k.sent i j ∧ h.lim i j = k.lim i j) (h3 : h.next = k.next) (h4 : h.pl = k.pl) : sameB h ps k ps = true := by
  have e1 : accL h.has h.cred = accL k.has k.cred := by
    simp only [accL, (h1 0 (by omega)).1, (h1 0 (by omega)).2, (h1 1 (by omega)).1, (h1 1 (by omega)).2, (h1 2 (by omega)).1, (h1 2 (by omega)).2, (h1 3 (by omega)).1, (h1 3 (by omega)).2]
  have e2 : matL h.sent = matL k.sent := by
    simp only [matL, (h2 0 0 (by omega) (by omega)).1, (h2 0 1 (by omega) (by omega)).1, (h2 0 2 (by omega) (by omega)).1, (h2 0 3 (by omega) (by omega)).1, (h2 1 0 (by omega) (by omega)).1, (h2 1 1 (by omega) (by omega)).1, (h2 1 2 (by omega) (by omega)).1, (h2 1 3 (by omega) (by omega)).1,
      (h2 2 0 (by omega) (by omega)).1, (h2 2 1 (by omega) (by omega)).1, (h2 2 2 (by omega) (by omega)).1, (h2 2 3 (by omega) (by omega)).1, (h2 3 0 (by omega) (by omega)).1, (h2 3 1 (by omega) (by omega)).1, (h2 3 2 (by omega) (by omega)).1, (h2 3 3 (by omega) (by omega)).1]
  have e3 : matL h.lim = matL k.lim := by
    simp only [matL, (h2 0 0 (by omega) (by omega)).2, (h2 0 1 (by omega) (by omega)).2, (h2 0 2 (by omega) (by omega)).2, (h2 0 3 (by omega) (by omega)).2, (h2 1 0 (by omega) (by omega)).2, (h2 1 1 (by omega) (by omega)).2, (h2 1 2 (by omega) (by omega)).2, (h2 1 3 (by omega) (by omega)).2,
      (h2 2 0 (by omega) (by omega)).2, (h2 2 1 (by omega) (by omega)).2, (h2 2 2 (by omega) (by omega)).2, (h2 2 3 (by omega) (by omega)).2, (h2 3 0 (by omega) (by omega)).2, (h2 3 1 (by omega) (by omega)).2, (h2 3 2 (by omega) (by omega)).2, (h2 3 3 (by omega) (by omega)).2]
  simp only [sameB, e1, e2, e3, h3, h4, decide_true, Bool.and_self]

/-! the document's MoveSum -/
def msH (h : H) (a b n : Int) (k : Nat) : H := { h with sent := up2 h.sent a b (wr (h.sent a b + n)), has := fun x => if x < k then (if x = a then wr (h.has x - n) else if x = b then wr (h.has x + n) else h.has x) else h.has x }
theorem ms_start (h : H) (a b n : Int) : (msH h a b n 0).cells = ({ h with sent := up2 h.sent a b (wr (h.sent a b + n)) } : H).cells :=
  H.cells_eq (fun i hi _ => by simp only [msH, if_neg (show ¬ i < ((0 : Nat) : Int) by omega)]) (fun _ _ _ => rfl) (fun _ _ _ _ _ _ => rfl) (fun _ _ _ _ _ _ => rfl) ⟨rfl, rfl, rfl⟩ rfl
theorem ms_has (h : H) (a b n : Int) (k : Nat) : (msH h a b n k).has k = h.has k := by simp only [msH, if_neg (show ¬ (k : Int) < k by omega)]
theorem ms_step0 {h : H} {a b n : Int} {k : Nat} (ha : decide ((k : Int) = a) = false) (hb : decide ((k : Int) = b) = false) : (msH h a b n k).cells = (msH h a b n (k + 1)).cells := by
  simp only [decide_eq_false_iff_not] at ha hb
  refine H.cells_eq (fun i hi _ => ?_) (fun _ _ _ => rfl) (fun _ _ _ _ _ _ => rfl) (fun _ _ _ _ _ _ => rfl) ⟨rfl, rfl, rfl⟩ rfl
  simp only [msH]
  by_cases h1 : i < (k : Int)
  · rw [if_pos h1, if_pos (show i < ((k + 1 : Nat) : Int) by omega)]
  · by_cases h2 : i = k
    · subst h2; rw [if_neg h1, if_pos (by omega), if_neg ha, if_neg hb]
    · rw [if_neg h1, if_neg (by omega)]
theorem ms_stepA {h : H} {a b n : Int} {k : Nat} (ha : decide ((k : Int) = a) = true) : ({ msH h a b n k with has := up1 (msH h a b n k).has k (wr ((msH h a b n k).has k - n)) } : H).cells = (msH h a b n (k + 1)).cells := by
  simp only [decide_eq_true_eq] at ha
  refine H.cells_eq (fun i hi _ => ?_) (fun _ _ _ => rfl) (fun _ _ _ _ _ _ => rfl) (fun _ _ _ _ _ _ => rfl) ⟨rfl, rfl, rfl⟩ rfl
  rw [ms_has]
  simp only [msH, up1]
  by_cases h2 : i = k
  · subst h2; rw [if_pos rfl, if_pos (by omega), if_pos ha]
  · rw [if_neg h2]
    by_cases h1 : i < (k : Int)
    · rw [if_pos h1, if_pos (show i < ((k + 1 : Nat) : Int) by omega)]
    · rw [if_neg h1, if_neg (by omega)]
theorem ms_stepB {h : H} {a b n : Int} {k : Nat} (ha : decide ((k : Int) = a) = false) (hb : decide ((k : Int) = b) = true) : ({ msH h a b n k with has := up1 (msH h a b n k).has k (wr ((msH h a b n k).has k + n)) } : H).cells = (msH h a b n (k + 1)).cells := by
  simp only [decide_eq_true_eq, decide_eq_false_iff_not] at ha hb
  refine H.cells_eq (fun i hi _ => ?_) (fun _ _ _ => rfl) (fun _ _ _ _ _ _ => rfl) (fun _ _ _ _ _ _ => rfl) ⟨rfl, rfl, rfl⟩ rfl
  rw [ms_has]
  simp only [msH, up1]
  by_cases h2 : i = k
  · subst h2; rw [if_pos rfl, if_pos (by omega), if_neg ha, if_pos hb]
  · rw [if_neg h2]
    by_cases h1 : i < (k : Int)
    · rw [if_pos h1, if_pos (show i < ((k + 1 : Nat) : Int) by omega)]
    · rw [if_neg h1, if_neg (by omega)]
theorem ms_end {h : H} {a b n : Int} {k : Nat} (ht : goodTransferB a b n = true) (hk : k ≤ 4) (h4 : decide ((k : Int) < 4) = false) : (msH h a b n k).cells = (moveM h a b n).cells := by
  simp only [decide_eq_false_iff_not] at h4
  obtain ⟨ha, hb, hne, _, _⟩ := transfer_spec ht
  unfold moveM
  rw [if_pos ht]
  refine H.cells_eq (fun i hi hi' => ?_) (fun _ _ _ => rfl) (fun _ _ _ _ _ _ => rfl) (fun _ _ _ _ _ _ => rfl) ⟨rfl, rfl, rfl⟩ rfl
  simp only [msH, up1, if_pos (show i < (k : Int) by omega)]
  by_cases h1 : i = a
  · subst h1; rw [if_pos rfl, if_neg hne, if_pos rfl]
  · by_cases h2 : i = b
    · subst h2; rw [if_neg h1, if_pos rfl, if_pos rfl, if_neg (fun e => hne e.symm)]
    · rw [if_neg h1, if_neg h2, if_neg h2, if_neg h1]

/-! the document's IsHouse -/
def hB0 (h : H) : Bool := decide ((h.pl : Int) < 25) && withinB h.next 0 1048576
def hRow (h : H) (i : Int) (ok : Bool) : Nat → Bool
  | 0 => ok && withinB (h.has i) (-1099511627776) 1099511627776 && withinB (h.cred i) 0 1000000 && decide (h.sent i i = 0)
  | m + 1 => hRow h i ok m && withinB (h.sent i m) 0 1099511627776 && withinB (h.lim i m) (-1) 1000000
def hAll (h : H) : Nat → Bool
  | 0 => hB0 h
  | k + 1 => hRow h k (hAll h k) 4
def pin (q : PayS) (ok : Bool) (l : List PayS) : Bool := l.foldl (fun ok r => ok && !decide (q.seq = r.seq)) ok
def hPays (nx : Int) (ok : Bool) (seen : List PayS) : List PayS → Bool
  | [] => ok
  | p :: r => hPays nx (pin p (ok && isPayB p && decide (p.seq < nx)) seen) (seen ++ [p]) r
def hPto (h : H) (ps : List PayS) (k : Nat) : Bool := (List.range k).foldl (fun ok i => match ps[i]? with
  | some p => pin p (ok && isPayB p && decide (p.seq < h.next)) (ps.take i)
  | none => ok) (hAll h 4)
def isHouseB (h : H) (ps : List PayS) : Bool := hPto h ps ps.length
theorem hPto_succ {h : H} {ps : List PayS} {k : Nat} {p : PayS} (hp : ps[k]? = some p) : hPto h ps (k + 1) = pin p (hPto h ps k && isPayB p && decide (p.seq < h.next)) (ps.take k) := by
  unfold hPto
  rw [List.range_succ, List.foldl_append]
  simp [hp]
theorem pin_snoc (q : PayS) (ok : Bool) (l : List PayS) (r : PayS) : pin q ok (l ++ [r]) = (pin q ok l && !decide (q.seq = r.seq)) := by simp [pin]
theorem pin_eq (q : PayS) (ok : Bool) (l : List PayS) : pin q ok l = (ok && !decide (q.seq ∈ l.map PayS.seq)) := by
  induction l generalizing ok with
  | nil => simp [pin]
  | cons r l ih =>
    have : pin q ok (r :: l) = pin q (ok && !decide (q.seq = r.seq)) l := rfl
    rw [this, ih]
    by_cases h : q.seq = r.seq
    · simp [h]
    · simp [h]
theorem hRow_eq (h : H) (i : Int) (ok : Bool) : hRow h i ok 4 = (ok && (withinB (h.has i) (-1099511627776) 1099511627776 && withinB (h.cred i) 0 1000000) && (decide (h.sent i i = 0) && a4 fun k => withinB (h.sent i k) 0 1099511627776) && (a4 fun k => withinB (h.lim i k) (-1) 1000000)) := by
  simp only [hRow, a4]
  rw [Bool.eq_iff_iff]
  simp only [Bool.and_eq_true]
  constructor
  · rintro ⟨⟨⟨⟨⟨⟨⟨⟨⟨⟨⟨h1, h2⟩, h3⟩, h4⟩, a0⟩, b0⟩, a1⟩, b1⟩, a2⟩, b2⟩, a3⟩, b3⟩
    exact ⟨⟨⟨h1, h2, h3⟩, h4, ⟨⟨a0, a1⟩, a2⟩, a3⟩, ⟨⟨b0, b1⟩, b2⟩, b3⟩
  · rintro ⟨⟨⟨h1, h2, h3⟩, h4, ⟨⟨a0, a1⟩, a2⟩, a3⟩, ⟨⟨b0, b1⟩, b2⟩, b3⟩
    exact ⟨⟨⟨⟨⟨⟨⟨⟨⟨⟨⟨h1, h2⟩, h3⟩, h4⟩, a0⟩, b0⟩, a1⟩, b1⟩, a2⟩, b2⟩, a3⟩, b3⟩
theorem hAll_eq (h : H) : hAll h 4 = (hB0 h && accGoodB h.has h.cred && sentGoodB h.sent && limGoodB h.lim) := by
  simp only [hAll, hRow_eq, accGoodB, sentGoodB, limGoodB]
  rw [Bool.eq_iff_iff]
  unfold a4
  simp only [Bool.and_eq_true]
  constructor
  · rintro ⟨⟨⟨⟨⟨⟨⟨⟨⟨⟨⟨⟨h0, a0⟩, b0⟩, c0⟩, a1⟩, b1⟩, c1⟩, a2⟩, b2⟩, c2⟩, a3⟩, b3⟩, c3⟩
    exact ⟨⟨⟨h0, ⟨⟨a0, a1⟩, a2⟩, a3⟩, ⟨⟨b0, b1⟩, b2⟩, b3⟩, ⟨⟨c0, c1⟩, c2⟩, c3⟩
  · rintro ⟨⟨⟨h0, ⟨⟨a0, a1⟩, a2⟩, a3⟩, ⟨⟨b0, b1⟩, b2⟩, b3⟩, ⟨⟨c0, c1⟩, c2⟩, c3⟩
    exact ⟨⟨⟨⟨⟨⟨⟨⟨⟨⟨⟨⟨h0, a0⟩, b0⟩, c0⟩, a1⟩, b1⟩, c1⟩, a2⟩, b2⟩, c2⟩, a3⟩, b3⟩, c3⟩
theorem goB_of (nx : Int) : ∀ (ps seen : List PayS) (ok : Bool), hPays nx ok seen ps = (ok && goB nx (seen.map PayS.seq) ps)
  | [], seen, ok => by simp [hPays, goB]
  | p :: r, seen, ok => by
    unfold hPays goB
    rw [goB_of nx r (seen ++ [p]), pin_eq, isPay_eq, List.map_append]
    simp only [List.map_cons, List.map_nil]
    have e : decide (nx ≤ p.seq) = !decide (p.seq < nx) := by
      rw [Bool.eq_iff_iff]; simp
    rw [e]
    generalize goB nx (List.map PayS.seq seen ++ [p.seq]) r = x
    cases ok <;> cases goodPayB p <;> cases decide (p.seq < nx) <;> cases decide (p.seq ∈ List.map PayS.seq seen) <;> rfl
theorem hPto_eq (h : H) (ps : List PayS) : ∀ k, k ≤ ps.length → hPays h.next (hPto h ps k) (ps.take k) (ps.drop k) = hPays h.next (hAll h 4) [] ps := by
  intro k
  induction k with
  | zero => intro _; rfl
  | succ k ih =>
    intro hk
    have hlt : k < ps.length := by omega
    have e1 : ps[k]? = some ps[k] := by simp [hlt]
    rw [← ih (by omega), List.drop_eq_getElem_cons hlt, hPto_succ e1, List.take_succ_eq_append_getElem hlt]
    rfl
theorem isHouse_eq {h : H} {ps : List PayS} (hl : ps.length = h.pl) : isHouseB h ps = goodB h ps := by
  have e1 := hPto_eq h ps ps.length (Nat.le_refl _)
  rw [List.take_of_length_le (Nat.le_refl _), List.drop_of_length_le (Nat.le_refl _)] at e1
  have e2 : isHouseB h ps = hPays h.next (hAll h 4) [] ps := by rw [← e1]; rfl
  rw [e2, goB_of, hAll_eq]
  unfold goodB goodPaysB hB0
  have e3 : decide (24 < (ps.length : Int)) = !decide ((h.pl : Int) < 25) := by
    rw [hl, Bool.eq_iff_iff]; simp; omega
  rw [e3]
  simp only [List.map_nil]
  cases decide ((h.pl : Int) < 25) <;> cases withinB h.next 0 1048576 <;> cases goB h.next [] ps <;> cases accGoodB h.has h.cred <;> cases sentGoodB h.sent <;> cases limGoodB h.lim <;> rfl

/-! May and MaySend, of a good house -/
theorem may_eq {h : H} (g : GoodH h) (a b n : Int) : mayM h a b n = maySendM h a b n := by
  unfold mayM maySendM
  cases ht : goodTransferB a b n
  · rfl
  · obtain ⟨ha, hb, hne, h1, h2⟩ := transfer_spec ht
    have e1 := g.has a ha
    have e2 := g.cred a ha
    have e3 := g.sent a b ha hb
    have e4 := g.sent b a hb ha
    have e5 := g.lim a b ha hb
    have l : leftM h a = h.has a + h.cred a := left_eq ha (by omega) e2
    have nn : netM h a b = h.sent a b - h.sent b a := net_eq (fun i k hi hk => by have := g.sent i k hi hk; omega) ha hb
    rw [l, nn, wr_in (a := h.has a - n) (by omega) (by omega), wr_in (a := 0 - h.cred a) (by omega) (by omega), wr_in (a := h.sent a b - h.sent b a) (by omega) (by omega)]
    have d1 : decide (h.has a + h.cred a < n) = decide (h.has a - n < 0 - h.cred a) := by rw [Bool.eq_iff_iff]; simp; omega
    have d2 : decide (h.lim a b = -1) = decide (h.lim a b ≤ -1) := by rw [Bool.eq_iff_iff]; simp; omega
    rw [d1, d2]
theorem move_pays {F : Addr → Value → Prop} {h : H} {ps : List PayS} (hp : PaysIn F h.pa h.pl ps) (a b n : Int) : PaysIn F (moveM h a b n).pa (moveM h a b n).pl ps := by
  unfold moveM; split <;> exact hp
theorem move_copy (h : H) (pa : Option Addr) (pc : Nat) (a b n : Int) : moveM { h with pa := pa, pc := pc } a b n = { moveM h a b n with pa := pa, pc := pc } := by
  unfold moveM; split <;> rfl
theorem move_pl (h : H) (a b n : Int) : (moveM h a b n).pl = h.pl := by unfold moveM; split <;> rfl
theorem same_move (h : H) (pa : Option Addr) (pc : Nat) (ps : List PayS) (a b n : Int) : sameB (moveM { h with pa := pa, pc := pc } a b n) ps (moveM h a b n) ps = true := by
  rw [move_copy]
  exact same_of (fun _ _ => ⟨rfl, rfl⟩) (fun _ _ _ _ => ⟨rfl, rfl⟩) rfl rfl
end Go.Proofs.Ytmkboljfbmlebaa
/- Contracts of the document side of the ledger. Condition: the payments lie in memory that is known. -/
namespace Go.Proofs.Ytmkboljfbmlebaa
open Go.RowKit
set_option linter.unusedSimpArgs false
set_option linter.unusedVariables false
set_option maxRecDepth 100000
attribute [local irreducible] cC sC nC rC qw

theorem gr_CopyHouse (h : H) (ps : List PayS) (w : World) (hp : PaysIn (At w) h.pa h.pl ps) (hb : h.pl * 48 ≤ 281474976710656) : GivesH Try.prog 14 [.agg h.cells] w h ps (CopyOf h ps) := by
  refine givesH_of Try.func14 rfl Try.ntmps14 (by simp) ?_
  refine r_seq (by kernel_rfl) ?_
  refine s_box (v := .agg _) rfl (fun b1 => ?_)
  refine s_alloc (z := .agg zeroH.cells) (by kernel_rfl) (fun b2 => ?_)
  refine s_nil ?_
  refine r_seq (by kernel_rfl) ?_
  refine s_val (v_field (fo := 40) (by kernel_rfl) rfl) ?_
  refine s_val (v_load1 (v := .slice _ _ _) (by kernel_rfl) rfl (.there .here) (H.at_pays _)) ?_
  refine s_appendCopy (by kernel_rfl) rfl rfl rfl hp hb (fun hz5 => ?_) (fun b5 c5 cs5 hpos5 hc5 hs5 hcs5 => ?_)
  · refine s_val (v_field (fo := 40) (by kernel_rfl) rfl) ?_
    refine s_store1 (v := .slice _ _ _) (by kernel_rfl) rfl rfl (.there .here) (H.set_pays _) rfl ?_
    refine s_nil ?_
    refine r_seq (by kernel_rfl) ?_
    refine s_val (v_loadA (m := 42) (by kernel_rfl) rfl (.there .here) (H.size _)) ?_
    refine s_storeA (m := 42) (by kernel_rfl) rfl rfl .here (H.size _) (H.size _) (H.all1 _) ?_
    refine s_nil ?_
    refine c_ret ?_
    refine n_doneH rfl (by decide) rfl (by kernel_rfl) .here (copy_none hz5 hp.1).1 (fun w hw => .inr ((copy_none hz5 hp.1).2 _ _))
  refine s_val (v_field (fo := 40) (by kernel_rfl) rfl) ?_
  refine s_store1 (v := .slice _ _ _) (by kernel_rfl) rfl rfl (.there (.there .here)) (H.set_pays _) rfl ?_
  refine s_nil ?_
  refine r_seq (by kernel_rfl) ?_
  refine s_val (v_loadA (m := 42) (by kernel_rfl) rfl (.there (.there .here)) (H.size _)) ?_
  refine s_storeA (m := 42) (by kernel_rfl) rfl rfl (.there .here) (H.size _) (H.size _) (H.all1 _) ?_
  refine s_nil ?_
  refine c_ret ?_
  refine n_doneH rfl (by decide) rfl (by kernel_rfl) (.there .here) ⟨rfl, _, _, rfl⟩ (fun w hw => .inr (newPays_look hw .here rfl hs5 hc5 hp.1 hcs5))

set_option maxHeartbeats 1000000 in
theorem gr_NewHouse  (w : World) : Gives Try.prog 19 [] w (.agg newM.cells) := by
  refine gives_of Try.func19 rfl Try.ntmps19 (by simp) ?_
  refine r_seq (by kernel_rfl) ?_
  refine s_alloc (z := .agg zeroH.cells) (by kernel_rfl) (fun b0 => ?_)
  refine s_nil ?_
  refine r_seq (by kernel_rfl) ?_
  refine s_alloc (z := .agg zeroH.cells) (by kernel_rfl) (fun b1 => ?_)
  refine s_nil ?_
  refine c_seq ?_
  refine r_seq (by kernel_rfl) ?_
  refine s_val (v_move (v := .int .i64 _) rfl) ?_
  refine s_nil ?_
  refine c_block ?_
  refine c_rounds 17 ?_
  refine r_succ ?_
  refine r_seq (by kernel_rfl) ?_
  refine s_val (v_lss (k := .i64) rfl rfl) ?_
  refine s_nil ?_
  refine c_seq ?_
  refine c_condTh rfl rfl rfl ?_
  refine c_skip ?_
  refine n_then ?_
  refine c_seq ?_
  refine c_block ?_
  refine r_seq (by kernel_rfl) ?_
  refine s_val (v_move (v := .int .i64 _) rfl) ?_
  refine s_val (v_assign (v := .int .i64 _) rfl) ?_
  refine s_nil ?_
  refine r_list (by kernel_rfl) ?_
  refine s_val (v_move (v := .int .i64 _) rfl) ?_
  refine s_val (v_quo (c := 0) rfl rfl (by decide) (by decide)) ?_
  refine s_val (v_move (v := .int .i64 _) rfl) ?_
  refine s_val (v_rem (c := 0) rfl rfl (by decide) (by decide)) ?_
  refine s_val (v_field (fo := 24) (by kernel_rfl) rfl) ?_
  refine s_val (v_idxA (len := 4) (size := 4) (k := .i64) (by kernel_rfl) rfl rfl (by decide)) ?_
  refine s_val (v_idxA (len := 4) (size := 1) (k := .i64) (by kernel_rfl) rfl rfl (by decide)) ?_
  refine s_store1 (v := .int .i64 _) (by kernel_rfl) rfl rfl .here (H.set_lim _ (by decide) (by decide)) rfl ?_
  refine s_end ?_
  refine n_bnormal ?_
  refine n_then ?_
  refine r_list (by kernel_rfl) ?_
  refine s_val (v_addL (c := 1) rfl rfl (by decide) (by decide)) ?_
  refine s_val (v_move (v := .int .i64 _) rfl) ?_
  refine s_end ?_
  refine n_thenR ?_
  refine r_succ ?_
  refine r_seq (by kernel_rfl) ?_
  refine s_val (v_lss (k := .i64) rfl rfl) ?_
  refine s_nil ?_
  refine c_seq ?_
  refine c_condTh rfl rfl rfl ?_
  refine c_skip ?_
  refine n_then ?_
  refine c_seq ?_
  refine c_block ?_
  refine r_seq (by kernel_rfl) ?_
  refine s_val (v_move (v := .int .i64 _) rfl) ?_
  refine s_val (v_assign (v := .int .i64 _) rfl) ?_
  refine s_nil ?_
  refine r_list (by kernel_rfl) ?_
  refine s_val (v_move (v := .int .i64 _) rfl) ?_
  refine s_val (v_quo (c := 0) rfl rfl (by decide) (by decide)) ?_
  refine s_val (v_move (v := .int .i64 _) rfl) ?_
  refine s_val (v_rem (c := 1) rfl rfl (by decide) (by decide)) ?_
  refine s_val (v_field (fo := 24) (by kernel_rfl) rfl) ?_
  refine s_val (v_idxA (len := 4) (size := 4) (k := .i64) (by kernel_rfl) rfl rfl (by decide)) ?_
  refine s_val (v_idxA (len := 4) (size := 1) (k := .i64) (by kernel_rfl) rfl rfl (by decide)) ?_
  refine s_store1 (v := .int .i64 _) (by kernel_rfl) rfl rfl .here (H.set_lim _ (by decide) (by decide)) rfl ?_
  refine s_end ?_
  refine n_bnormal ?_
  refine n_then ?_
  refine r_list (by kernel_rfl) ?_
  refine s_val (v_addL (c := 2) rfl rfl (by decide) (by decide)) ?_
  refine s_val (v_move (v := .int .i64 _) rfl) ?_
  refine s_end ?_
  refine n_thenR ?_
  refine r_succ ?_
  refine r_seq (by kernel_rfl) ?_
  refine s_val (v_lss (k := .i64) rfl rfl) ?_
  refine s_nil ?_
  refine c_seq ?_
  refine c_condTh rfl rfl rfl ?_
  refine c_skip ?_
  refine n_then ?_
  refine c_seq ?_
  refine c_block ?_
  refine r_seq (by kernel_rfl) ?_
  refine s_val (v_move (v := .int .i64 _) rfl) ?_
  refine s_val (v_assign (v := .int .i64 _) rfl) ?_
  refine s_nil ?_
  refine r_list (by kernel_rfl) ?_
  refine s_val (v_move (v := .int .i64 _) rfl) ?_
  refine s_val (v_quo (c := 0) rfl rfl (by decide) (by decide)) ?_
  refine s_val (v_move (v := .int .i64 _) rfl) ?_
  refine s_val (v_rem (c := 2) rfl rfl (by decide) (by decide)) ?_
  refine s_val (v_field (fo := 24) (by kernel_rfl) rfl) ?_
  refine s_val (v_idxA (len := 4) (size := 4) (k := .i64) (by kernel_rfl) rfl rfl (by decide)) ?_
  refine s_val (v_idxA (len := 4) (size := 1) (k := .i64) (by kernel_rfl) rfl rfl (by decide)) ?_
  refine s_store1 (v := .int .i64 _) (by kernel_rfl) rfl rfl .here (H.set_lim _ (by decide) (by decide)) rfl ?_
  refine s_end ?_
  refine n_bnormal ?_
  refine n_then ?_
  refine r_list (by kernel_rfl) ?_
  refine s_val (v_addL (c := 3) rfl rfl (by decide) (by decide)) ?_
  refine s_val (v_move (v := .int .i64 _) rfl) ?_
  refine s_end ?_
  refine n_thenR ?_
  refine r_succ ?_
  refine r_seq (by kernel_rfl) ?_
  refine s_val (v_lss (k := .i64) rfl rfl) ?_
  refine s_nil ?_
  refine c_seq ?_
  refine c_condTh rfl rfl rfl ?_
  refine c_skip ?_
  refine n_then ?_
  refine c_seq ?_
  refine c_block ?_
  refine r_seq (by kernel_rfl) ?_
  refine s_val (v_move (v := .int .i64 _) rfl) ?_
  refine s_val (v_assign (v := .int .i64 _) rfl) ?_
  refine s_nil ?_
  refine r_list (by kernel_rfl) ?_
  refine s_val (v_move (v := .int .i64 _) rfl) ?_
  refine s_val (v_quo (c := 0) rfl rfl (by decide) (by decide)) ?_
  refine s_val (v_move (v := .int .i64 _) rfl) ?_
  refine s_val (v_rem (c := 3) rfl rfl (by decide) (by decide)) ?_
  refine s_val (v_field (fo := 24) (by kernel_rfl) rfl) ?_
  refine s_val (v_idxA (len := 4) (size := 4) (k := .i64) (by kernel_rfl) rfl rfl (by decide)) ?_
  refine s_val (v_idxA (len := 4) (size := 1) (k := .i64) (by kernel_rfl) rfl rfl (by decide)) ?_
  refine s_store1 (v := .int .i64 _) (by kernel_rfl) rfl rfl .here (H.set_lim _ (by decide) (by decide)) rfl ?_
  refine s_end ?_
  refine n_bnormal ?_
  refine n_then ?_
  refine r_list (by kernel_rfl) ?_
  refine s_val (v_addL (c := 4) rfl rfl (by decide) (by decide)) ?_
  refine s_val (v_move (v := .int .i64 _) rfl) ?_
  refine s_end ?_
  refine n_thenR ?_
  refine r_succ ?_
  refine r_seq (by kernel_rfl) ?_
  refine s_val (v_lss (k := .i64) rfl rfl) ?_
  refine s_nil ?_
  refine c_seq ?_
  refine c_condTh rfl rfl rfl ?_
  refine c_skip ?_
  refine n_then ?_
  refine c_seq ?_
  refine c_block ?_
  refine r_seq (by kernel_rfl) ?_
  refine s_val (v_move (v := .int .i64 _) rfl) ?_
  refine s_val (v_assign (v := .int .i64 _) rfl) ?_
  refine s_nil ?_
  refine r_list (by kernel_rfl) ?_
  refine s_val (v_move (v := .int .i64 _) rfl) ?_
  refine s_val (v_quo (c := 1) rfl rfl (by decide) (by decide)) ?_
  refine s_val (v_move (v := .int .i64 _) rfl) ?_
  refine s_val (v_rem (c := 0) rfl rfl (by decide) (by decide)) ?_
  refine s_val (v_field (fo := 24) (by kernel_rfl) rfl) ?_
  refine s_val (v_idxA (len := 4) (size := 4) (k := .i64) (by kernel_rfl) rfl rfl (by decide)) ?_
  refine s_val (v_idxA (len := 4) (size := 1) (k := .i64) (by kernel_rfl) rfl rfl (by decide)) ?_
  refine s_store1 (v := .int .i64 _) (by kernel_rfl) rfl rfl .here (H.set_lim _ (by decide) (by decide)) rfl ?_
  refine s_end ?_
  refine n_bnormal ?_
  refine n_then ?_
  refine r_list (by kernel_rfl) ?_
  refine s_val (v_addL (c := 5) rfl rfl (by decide) (by decide)) ?_
  refine s_val (v_move (v := .int .i64 _) rfl) ?_
  refine s_end ?_
  refine n_thenR ?_
  refine r_succ ?_
  refine r_seq (by kernel_rfl) ?_
  refine s_val (v_lss (k := .i64) rfl rfl) ?_
  refine s_nil ?_
  refine c_seq ?_
  refine c_condTh rfl rfl rfl ?_
  refine c_skip ?_
  refine n_then ?_
  refine c_seq ?_
  refine c_block ?_
  refine r_seq (by kernel_rfl) ?_
  refine s_val (v_move (v := .int .i64 _) rfl) ?_
  refine s_val (v_assign (v := .int .i64 _) rfl) ?_
  refine s_nil ?_
  refine r_list (by kernel_rfl) ?_
  refine s_val (v_move (v := .int .i64 _) rfl) ?_
  refine s_val (v_quo (c := 1) rfl rfl (by decide) (by decide)) ?_
  refine s_val (v_move (v := .int .i64 _) rfl) ?_
  refine s_val (v_rem (c := 1) rfl rfl (by decide) (by decide)) ?_
  refine s_val (v_field (fo := 24) (by kernel_rfl) rfl) ?_
  refine s_val (v_idxA (len := 4) (size := 4) (k := .i64) (by kernel_rfl) rfl rfl (by decide)) ?_
  refine s_val (v_idxA (len := 4) (size := 1) (k := .i64) (by kernel_rfl) rfl rfl (by decide)) ?_
  refine s_store1 (v := .int .i64 _) (by kernel_rfl) rfl rfl .here (H.set_lim _ (by decide) (by decide)) rfl ?_
  refine s_end ?_
  refine n_bnormal ?_
  refine n_then ?_
  refine r_list (by kernel_rfl) ?_
  refine s_val (v_addL (c := 6) rfl rfl (by decide) (by decide)) ?_
  refine s_val (v_move (v := .int .i64 _) rfl) ?_
  refine s_end ?_
  refine n_thenR ?_
  refine r_succ ?_
  refine r_seq (by kernel_rfl) ?_
  refine s_val (v_lss (k := .i64) rfl rfl) ?_
  refine s_nil ?_
  refine c_seq ?_
  refine c_condTh rfl rfl rfl ?_
  refine c_skip ?_
  refine n_then ?_
  refine c_seq ?_
  refine c_block ?_
  refine r_seq (by kernel_rfl) ?_
  refine s_val (v_move (v := .int .i64 _) rfl) ?_
  refine s_val (v_assign (v := .int .i64 _) rfl) ?_
  refine s_nil ?_
  refine r_list (by kernel_rfl) ?_
  refine s_val (v_move (v := .int .i64 _) rfl) ?_
  refine s_val (v_quo (c := 1) rfl rfl (by decide) (by decide)) ?_
  refine s_val (v_move (v := .int .i64 _) rfl) ?_
  refine s_val (v_rem (c := 2) rfl rfl (by decide) (by decide)) ?_
  refine s_val (v_field (fo := 24) (by kernel_rfl) rfl) ?_
  refine s_val (v_idxA (len := 4) (size := 4) (k := .i64) (by kernel_rfl) rfl rfl (by decide)) ?_
  refine s_val (v_idxA (len := 4) (size := 1) (k := .i64) (by kernel_rfl) rfl rfl (by decide)) ?_
  refine s_store1 (v := .int .i64 _) (by kernel_rfl) rfl rfl .here (H.set_lim _ (by decide) (by decide)) rfl ?_
  refine s_end ?_
  refine n_bnormal ?_
  refine n_then ?_
  refine r_list (by kernel_rfl) ?_
  refine s_val (v_addL (c := 7) rfl rfl (by decide) (by decide)) ?_
  refine s_val (v_move (v := .int .i64 _) rfl) ?_
  refine s_end ?_
  refine n_thenR ?_
  refine r_succ ?_
  refine r_seq (by kernel_rfl) ?_
  refine s_val (v_lss (k := .i64) rfl rfl) ?_
  refine s_nil ?_
  refine c_seq ?_
  refine c_condTh rfl rfl rfl ?_
  refine c_skip ?_
  refine n_then ?_
  refine c_seq ?_
  refine c_block ?_
  refine r_seq (by kernel_rfl) ?_
  refine s_val (v_move (v := .int .i64 _) rfl) ?_
  refine s_val (v_assign (v := .int .i64 _) rfl) ?_
  refine s_nil ?_
  refine r_list (by kernel_rfl) ?_
  refine s_val (v_move (v := .int .i64 _) rfl) ?_
  refine s_val (v_quo (c := 1) rfl rfl (by decide) (by decide)) ?_
  refine s_val (v_move (v := .int .i64 _) rfl) ?_
  refine s_val (v_rem (c := 3) rfl rfl (by decide) (by decide)) ?_
  refine s_val (v_field (fo := 24) (by kernel_rfl) rfl) ?_
  refine s_val (v_idxA (len := 4) (size := 4) (k := .i64) (by kernel_rfl) rfl rfl (by decide)) ?_
  refine s_val (v_idxA (len := 4) (size := 1) (k := .i64) (by kernel_rfl) rfl rfl (by decide)) ?_
  refine s_store1 (v := .int .i64 _) (by kernel_rfl) rfl rfl .here (H.set_lim _ (by decide) (by decide)) rfl ?_
  refine s_end ?_
  refine n_bnormal ?_
  refine n_then ?_
  refine r_list (by kernel_rfl) ?_
  refine s_val (v_addL (c := 8) rfl rfl (by decide) (by decide)) ?_
  refine s_val (v_move (v := .int .i64 _) rfl) ?_
  refine s_end ?_
  refine n_thenR ?_
  refine r_succ ?_
  refine r_seq (by kernel_rfl) ?_
  refine s_val (v_lss (k := .i64) rfl rfl) ?_
  refine s_nil ?_
  refine c_seq ?_
  refine c_condTh rfl rfl rfl ?_
  refine c_skip ?_
  refine n_then ?_
  refine c_seq ?_
  refine c_block ?_
  refine r_seq (by kernel_rfl) ?_
  refine s_val (v_move (v := .int .i64 _) rfl) ?_
  refine s_val (v_assign (v := .int .i64 _) rfl) ?_
  refine s_nil ?_
  refine r_list (by kernel_rfl) ?_
  refine s_val (v_move (v := .int .i64 _) rfl) ?_
  refine s_val (v_quo (c := 2) rfl rfl (by decide) (by decide)) ?_
  refine s_val (v_move (v := .int .i64 _) rfl) ?_
  refine s_val (v_rem (c := 0) rfl rfl (by decide) (by decide)) ?_
  refine s_val (v_field (fo := 24) (by kernel_rfl) rfl) ?_
  refine s_val (v_idxA (len := 4) (size := 4) (k := .i64) (by kernel_rfl) rfl rfl (by decide)) ?_
  refine s_val (v_idxA (len := 4) (size := 1) (k := .i64) (by kernel_rfl) rfl rfl (by decide)) ?_
  refine s_store1 (v := .int .i64 _) (by kernel_rfl) rfl rfl .here (H.set_lim _ (by decide) (by decide)) rfl ?_
  refine s_end ?_
  refine n_bnormal ?_
  refine n_then ?_
  refine r_list (by kernel_rfl) ?_
  refine s_val (v_addL (c := 9) rfl rfl (by decide) (by decide)) ?_
  refine s_val (v_move (v := .int .i64 _) rfl) ?_
  refine s_end ?_
  refine n_thenR ?_
  refine r_succ ?_
  refine r_seq (by kernel_rfl) ?_
  refine s_val (v_lss (k := .i64) rfl rfl) ?_
  refine s_nil ?_
  refine c_seq ?_
  refine c_condTh rfl rfl rfl ?_
  refine c_skip ?_
  refine n_then ?_
  refine c_seq ?_
  refine c_block ?_
  refine r_seq (by kernel_rfl) ?_
  refine s_val (v_move (v := .int .i64 _) rfl) ?_
  refine s_val (v_assign (v := .int .i64 _) rfl) ?_
  refine s_nil ?_
  refine r_list (by kernel_rfl) ?_
  refine s_val (v_move (v := .int .i64 _) rfl) ?_
  refine s_val (v_quo (c := 2) rfl rfl (by decide) (by decide)) ?_
  refine s_val (v_move (v := .int .i64 _) rfl) ?_
  refine s_val (v_rem (c := 1) rfl rfl (by decide) (by decide)) ?_
  refine s_val (v_field (fo := 24) (by kernel_rfl) rfl) ?_
  refine s_val (v_idxA (len := 4) (size := 4) (k := .i64) (by kernel_rfl) rfl rfl (by decide)) ?_
  refine s_val (v_idxA (len := 4) (size := 1) (k := .i64) (by kernel_rfl) rfl rfl (by decide)) ?_
  refine s_store1 (v := .int .i64 _) (by kernel_rfl) rfl rfl .here (H.set_lim _ (by decide) (by decide)) rfl ?_
  refine s_end ?_
  refine n_bnormal ?_
  refine n_then ?_
  refine r_list (by kernel_rfl) ?_
  refine s_val (v_addL (c := 10) rfl rfl (by decide) (by decide)) ?_
  refine s_val (v_move (v := .int .i64 _) rfl) ?_
  refine s_end ?_
  refine n_thenR ?_
  refine r_succ ?_
  refine r_seq (by kernel_rfl) ?_
  refine s_val (v_lss (k := .i64) rfl rfl) ?_
  refine s_nil ?_
  refine c_seq ?_
  refine c_condTh rfl rfl rfl ?_
  refine c_skip ?_
  refine n_then ?_
  refine c_seq ?_
  refine c_block ?_
  refine r_seq (by kernel_rfl) ?_
  refine s_val (v_move (v := .int .i64 _) rfl) ?_
  refine s_val (v_assign (v := .int .i64 _) rfl) ?_
  refine s_nil ?_
  refine r_list (by kernel_rfl) ?_
  refine s_val (v_move (v := .int .i64 _) rfl) ?_
  refine s_val (v_quo (c := 2) rfl rfl (by decide) (by decide)) ?_
  refine s_val (v_move (v := .int .i64 _) rfl) ?_
  refine s_val (v_rem (c := 2) rfl rfl (by decide) (by decide)) ?_
  refine s_val (v_field (fo := 24) (by kernel_rfl) rfl) ?_
  refine s_val (v_idxA (len := 4) (size := 4) (k := .i64) (by kernel_rfl) rfl rfl (by decide)) ?_
  refine s_val (v_idxA (len := 4) (size := 1) (k := .i64) (by kernel_rfl) rfl rfl (by decide)) ?_
  refine s_store1 (v := .int .i64 _) (by kernel_rfl) rfl rfl .here (H.set_lim _ (by decide) (by decide)) rfl ?_
  refine s_end ?_
  refine n_bnormal ?_
  refine n_then ?_
  refine r_list (by kernel_rfl) ?_
  refine s_val (v_addL (c := 11) rfl rfl (by decide) (by decide)) ?_
  refine s_val (v_move (v := .int .i64 _) rfl) ?_
  refine s_end ?_
  refine n_thenR ?_
  refine r_succ ?_
  refine r_seq (by kernel_rfl) ?_
  refine s_val (v_lss (k := .i64) rfl rfl) ?_
  refine s_nil ?_
  refine c_seq ?_
  refine c_condTh rfl rfl rfl ?_
  refine c_skip ?_
  refine n_then ?_
  refine c_seq ?_
  refine c_block ?_
  refine r_seq (by kernel_rfl) ?_
  refine s_val (v_move (v := .int .i64 _) rfl) ?_
  refine s_val (v_assign (v := .int .i64 _) rfl) ?_
  refine s_nil ?_
  refine r_list (by kernel_rfl) ?_
  refine s_val (v_move (v := .int .i64 _) rfl) ?_
  refine s_val (v_quo (c := 2) rfl rfl (by decide) (by decide)) ?_
  refine s_val (v_move (v := .int .i64 _) rfl) ?_
  refine s_val (v_rem (c := 3) rfl rfl (by decide) (by decide)) ?_
  refine s_val (v_field (fo := 24) (by kernel_rfl) rfl) ?_
  refine s_val (v_idxA (len := 4) (size := 4) (k := .i64) (by kernel_rfl) rfl rfl (by decide)) ?_
  refine s_val (v_idxA (len := 4) (size := 1) (k := .i64) (by kernel_rfl) rfl rfl (by decide)) ?_
  refine s_store1 (v := .int .i64 _) (by kernel_rfl) rfl rfl .here (H.set_lim _ (by decide) (by decide)) rfl ?_
  refine s_end ?_
  refine n_bnormal ?_
  refine n_then ?_
  refine r_list (by kernel_rfl) ?_
  refine s_val (v_addL (c := 12) rfl rfl (by decide) (by decide)) ?_
  refine s_val (v_move (v := .int .i64 _) rfl) ?_
  refine s_end ?_
  refine n_thenR ?_
  refine r_succ ?_
  refine r_seq (by kernel_rfl) ?_
  refine s_val (v_lss (k := .i64) rfl rfl) ?_
  refine s_nil ?_
  refine c_seq ?_
  refine c_condTh rfl rfl rfl ?_
  refine c_skip ?_
  refine n_then ?_
  refine c_seq ?_
  refine c_block ?_
  refine r_seq (by kernel_rfl) ?_
  refine s_val (v_move (v := .int .i64 _) rfl) ?_
  refine s_val (v_assign (v := .int .i64 _) rfl) ?_
  refine s_nil ?_
  refine r_list (by kernel_rfl) ?_
  refine s_val (v_move (v := .int .i64 _) rfl) ?_
  refine s_val (v_quo (c := 3) rfl rfl (by decide) (by decide)) ?_
  refine s_val (v_move (v := .int .i64 _) rfl) ?_
  refine s_val (v_rem (c := 0) rfl rfl (by decide) (by decide)) ?_
  refine s_val (v_field (fo := 24) (by kernel_rfl) rfl) ?_
  refine s_val (v_idxA (len := 4) (size := 4) (k := .i64) (by kernel_rfl) rfl rfl (by decide)) ?_
  refine s_val (v_idxA (len := 4) (size := 1) (k := .i64) (by kernel_rfl) rfl rfl (by decide)) ?_
  refine s_store1 (v := .int .i64 _) (by kernel_rfl) rfl rfl .here (H.set_lim _ (by decide) (by decide)) rfl ?_
  refine s_end ?_
  refine n_bnormal ?_
  refine n_then ?_
  refine r_list (by kernel_rfl) ?_
  refine s_val (v_addL (c := 13) rfl rfl (by decide) (by decide)) ?_
  refine s_val (v_move (v := .int .i64 _) rfl) ?_
  refine s_end ?_
  refine n_thenR ?_
  refine r_succ ?_
  refine r_seq (by kernel_rfl) ?_
  refine s_val (v_lss (k := .i64) rfl rfl) ?_
  refine s_nil ?_
  refine c_seq ?_
  refine c_condTh rfl rfl rfl ?_
  refine c_skip ?_
  refine n_then ?_
  refine c_seq ?_
  refine c_block ?_
  refine r_seq (by kernel_rfl) ?_
  refine s_val (v_move (v := .int .i64 _) rfl) ?_
  refine s_val (v_assign (v := .int .i64 _) rfl) ?_
  refine s_nil ?_
  refine r_list (by kernel_rfl) ?_
  refine s_val (v_move (v := .int .i64 _) rfl) ?_
  refine s_val (v_quo (c := 3) rfl rfl (by decide) (by decide)) ?_
  refine s_val (v_move (v := .int .i64 _) rfl) ?_
  refine s_val (v_rem (c := 1) rfl rfl (by decide) (by decide)) ?_
  refine s_val (v_field (fo := 24) (by kernel_rfl) rfl) ?_
  refine s_val (v_idxA (len := 4) (size := 4) (k := .i64) (by kernel_rfl) rfl rfl (by decide)) ?_
  refine s_val (v_idxA (len := 4) (size := 1) (k := .i64) (by kernel_rfl) rfl rfl (by decide)) ?_
  refine s_store1 (v := .int .i64 _) (by kernel_rfl) rfl rfl .here (H.set_lim _ (by decide) (by decide)) rfl ?_
  refine s_end ?_
  refine n_bnormal ?_
  refine n_then ?_
  refine r_list (by kernel_rfl) ?_
  refine s_val (v_addL (c := 14) rfl rfl (by decide) (by decide)) ?_
  refine s_val (v_move (v := .int .i64 _) rfl) ?_
  refine s_end ?_
  refine n_thenR ?_
  refine r_succ ?_
  refine r_seq (by kernel_rfl) ?_
  refine s_val (v_lss (k := .i64) rfl rfl) ?_
  refine s_nil ?_
  refine c_seq ?_
  refine c_condTh rfl rfl rfl ?_
  refine c_skip ?_
  refine n_then ?_
  refine c_seq ?_
  refine c_block ?_
  refine r_seq (by kernel_rfl) ?_
  refine s_val (v_move (v := .int .i64 _) rfl) ?_
  refine s_val (v_assign (v := .int .i64 _) rfl) ?_
  refine s_nil ?_
  refine r_list (by kernel_rfl) ?_
  refine s_val (v_move (v := .int .i64 _) rfl) ?_
  refine s_val (v_quo (c := 3) rfl rfl (by decide) (by decide)) ?_
  refine s_val (v_move (v := .int .i64 _) rfl) ?_
  refine s_val (v_rem (c := 2) rfl rfl (by decide) (by decide)) ?_
  refine s_val (v_field (fo := 24) (by kernel_rfl) rfl) ?_
  refine s_val (v_idxA (len := 4) (size := 4) (k := .i64) (by kernel_rfl) rfl rfl (by decide)) ?_
  refine s_val (v_idxA (len := 4) (size := 1) (k := .i64) (by kernel_rfl) rfl rfl (by decide)) ?_
  refine s_store1 (v := .int .i64 _) (by kernel_rfl) rfl rfl .here (H.set_lim _ (by decide) (by decide)) rfl ?_
  refine s_end ?_
  refine n_bnormal ?_
  refine n_then ?_
  refine r_list (by kernel_rfl) ?_
  refine s_val (v_addL (c := 15) rfl rfl (by decide) (by decide)) ?_
  refine s_val (v_move (v := .int .i64 _) rfl) ?_
  refine s_end ?_
  refine n_thenR ?_
  refine r_succ ?_
  refine r_seq (by kernel_rfl) ?_
  refine s_val (v_lss (k := .i64) rfl rfl) ?_
  refine s_nil ?_
  refine c_seq ?_
  refine c_condTh rfl rfl rfl ?_
  refine c_skip ?_
  refine n_then ?_
  refine c_seq ?_
  refine c_block ?_
  refine r_seq (by kernel_rfl) ?_
  refine s_val (v_move (v := .int .i64 _) rfl) ?_
  refine s_val (v_assign (v := .int .i64 _) rfl) ?_
  refine s_nil ?_
  refine r_list (by kernel_rfl) ?_
  refine s_val (v_move (v := .int .i64 _) rfl) ?_
  refine s_val (v_quo (c := 3) rfl rfl (by decide) (by decide)) ?_
  refine s_val (v_move (v := .int .i64 _) rfl) ?_
  refine s_val (v_rem (c := 3) rfl rfl (by decide) (by decide)) ?_
  refine s_val (v_field (fo := 24) (by kernel_rfl) rfl) ?_
  refine s_val (v_idxA (len := 4) (size := 4) (k := .i64) (by kernel_rfl) rfl rfl (by decide)) ?_
  refine s_val (v_idxA (len := 4) (size := 1) (k := .i64) (by kernel_rfl) rfl rfl (by decide)) ?_
  refine s_store1 (v := .int .i64 _) (by kernel_rfl) rfl rfl .here (H.set_lim _ (by decide) (by decide)) rfl ?_
  refine s_end ?_
  refine n_bnormal ?_
  refine n_then ?_
  refine r_list (by kernel_rfl) ?_
  refine s_val (v_addL (c := 16) rfl rfl (by decide) (by decide)) ?_
  refine s_val (v_move (v := .int .i64 _) rfl) ?_
  refine s_end ?_
  refine n_thenR ?_
  refine r_succ ?_
  refine r_seq (by kernel_rfl) ?_
  refine s_val (v_lss (k := .i64) rfl rfl) ?_
  refine s_nil ?_
  refine c_seq ?_
  refine c_condFh rfl rfl rfl ?_
  refine c_exit ?_
  refine n_exit ?_
  refine n_exit ?_
  refine n_bhere ?_
  refine n_then ?_
  refine r_seq (by kernel_rfl) ?_
  refine s_val (v_loadA (m := 42) (by kernel_rfl) rfl .here (H.size _)) ?_
  refine s_storeA (m := 42) (by kernel_rfl) rfl rfl (.there .here) (H.size _) (H.size _) (H.all1 _) ?_
  refine s_nil ?_
  refine c_ret ?_
  refine n_doneC (m := 42) rfl (by decide) rfl (by kernel_rfl) (.there .here) (H.size _) (congrArg Value.agg ?_)
  refine H.cells_eq (fun _ _ _ => rfl) (fun _ _ _ => rfl) (fun _ _ _ _ _ _ => rfl) (fun i j hi hi' hj hj' => ?_) ⟨rfl, rfl, rfl⟩ rfl
  have e1 : i = 0 ∨ i = 1 ∨ i = 2 ∨ i = 3 := by omega
  have e2 : j = 0 ∨ j = 1 ∨ j = 2 ∨ j = 3 := by omega
  clear hi hi' hj hj'
  rcases e1 with rfl | rfl | rfl | rfl <;> rcases e2 with rfl | rfl | rfl | rfl <;> rfl

theorem gr_MoveSum (h : H) (a b n : Int) (w : World) : Gives Try.prog 29 [.agg h.cells, I a, I b, I n] w (.agg (moveM h a b n).cells) := by
  refine gives_of Try.func29 rfl Try.ntmps29 (by simp) ?_
  refine r_seq (by kernel_rfl) ?_
  refine s_box (v := .agg _) rfl (fun b4 => ?_)
  refine s_alloc (z := .agg zeroH.cells) (by kernel_rfl) (fun b8 => ?_)
  refine s_nil ?_
  refine c_seq ?_
  refine r_seq (by kernel_rfl) ?_
  refine s_val (v_move (v := .int .i64 _) rfl) ?_
  refine s_val (v_move (v := .int .i64 _) rfl) ?_
  refine s_val (v_move (v := .int .i64 _) rfl) ?_
  refine s_call (by kernel_rfl) (fun w hw => gr_sends _ _ _ w) ?_
  refine s_nil ?_
  refine c_condR rfl rfl (fun h13 => ?_) (fun h13 => ?_)
  · refine c_skip ?_
    refine n_then ?_
    refine r_seq (by kernel_rfl) ?_
    refine s_val (v_loadA (m := 42) (by kernel_rfl) rfl (.there .here) (H.size _)) ?_
    refine s_storeA (m := 42) (by kernel_rfl) rfl rfl .here (H.size _) (H.size _) (H.all1 _) ?_
    refine s_nil ?_
    refine c_ret ?_
    refine n_doneC (m := 42) rfl (by decide) rfl (by kernel_rfl) .here (H.size _) (congrArg Value.agg ?_)
    rw [move_no h13]
    rfl
  obtain ⟨ha, hb, hne, _⟩ := transfer_spec h13
  refine t_seq (k := 11) (by kernel_rfl) (by kernel_rfl) (fun w hw => hw.drew) (by kernel_rfl) ?_
  refine q_val (v_move (v := .int .i64 _) rfl) ?_
  refine q_val (v_move (v := .int .i64 _) rfl) ?_
  refine q_val (v_field (fo := 8) (by kernel_rfl) rfl) ?_
  refine q_val (v_idxA (len := 4) (size := 4) (k := .i64) (by kernel_rfl) rfl rfl (by assumption)) ?_
  refine q_val (v_idxA (len := 4) (size := 1) (k := .i64) (by kernel_rfl) rfl rfl (by assumption)) ?_
  refine q_val (v_load1 (v := .int .i64 _) (by kernel_rfl) rfl (.there .here) (H.at_sent _ (by assumption) (by assumption))) ?_
  refine q_val (v_move (v := .int .i64 _) rfl) ?_
  refine q_val (v_addw rfl rfl) ?_
  refine q_val (v_field (fo := 8) (by kernel_rfl) rfl) ?_
  refine q_val (v_idxA (len := 4) (size := 4) (k := .i64) (by kernel_rfl) rfl rfl (by assumption)) ?_
  refine q_val (v_idxA (len := 4) (size := 1) (k := .i64) (by kernel_rfl) rfl rfl (by assumption)) ?_
  refine q_tail ?_
  refine s_store1 (v := .int .i64 _) (by kernel_rfl) rfl rfl (.there .here) (H.set_sent _ (by assumption) (by assumption)) rfl ?_
  refine s_nil ?_
  refine r_seq (by kernel_rfl) ?_
  refine s_val (v_move (v := .int .i64 _) rfl) ?_
  refine s_nil ?_
  refine c_block ?_
  refine c_loop (σ := Nat) (fun (k : Nat) f => ∃ g, (k ≤ 4) ∧ f = (upd (upd (upd (upd (upd (upd g 1 (I a)) 2 (I b)) 3 (I n)) 4 (.pointer (some ⟨b4, 0, none⟩))) 8 (.pointer (some ⟨b8, 0, none⟩))) 25 (I k))) (fun (k : Nat) => Has w (At w) [(b8, .cells zeroH.cells 29), (b4, .cells (msH h a b n k).cells 29)]) (fun (k : Nat) => 4 - k) 0 ⟨_, Nat.zero_le _, live6 rfl rfl rfl rfl rfl rfl⟩ (fun w hw => by rw [ms_start]; exact hw) ?_
  rintro k _ ⟨g, hkl, rfl⟩
  refine r_seq (by kernel_rfl) ?_
  refine s_val (v_lss (k := .i64) rfl rfl) ?_
  refine s_nil ?_
  refine c_seq ?_
  refine c_condR rfl rfl (fun h26 => ?_) (fun h26 => ?_)
  · refine c_exit ?_
    refine n_exit ?_
    refine n_exit ?_
    refine n_bhere ?_
    refine n_then ?_
    refine r_seq (by kernel_rfl) ?_
    refine s_val (v_loadA (m := 42) (by kernel_rfl) rfl (.there .here) (H.size _)) ?_
    refine s_storeA (m := 42) (by kernel_rfl) rfl rfl .here (H.size _) (H.size _) (H.all1 _) ?_
    refine s_nil ?_
    refine c_ret ?_
    refine n_doneC (m := 42) rfl (by decide) rfl (by kernel_rfl) .here (H.size _) (congrArg Value.agg ?_)
    exact ms_end h13 hkl h26
  have hk0 := of_decide_eq_true h26
  have hi : 0 ≤ (k : Int) ∧ (k : Int) < 4 := ⟨by omega, by omega⟩
  refine c_skip ?_
  refine n_then ?_
  refine c_seq ?_
  refine c_block ?_
  refine r_seq (by kernel_rfl) ?_
  refine s_val (v_move (v := .int .i64 _) rfl) ?_
  refine s_val (v_assign (v := .int .i64 _) rfl) ?_
  refine s_nil ?_
  refine c_seq ?_
  refine r_seq (by kernel_rfl) ?_
  refine s_val (v_move (v := .int .i64 _) rfl) ?_
  refine s_val (v_move (v := .int .i64 _) rfl) ?_
  refine s_val (v_eql (k := .i64) rfl rfl) ?_
  refine s_nil ?_
  refine c_cond rfl rfl (fun h30 => ?_) (fun h30 => ?_)
  · refine r_list (by kernel_rfl) ?_
    refine s_val (v_move (v := .int .i64 _) rfl) ?_
    refine s_val (v_field (fo := 0) (by kernel_rfl) rfl) ?_
    refine s_val (v_idxA (len := 4) (size := 2) (k := .i64) (by kernel_rfl) rfl rfl (by assumption)) ?_
    refine s_val (v_field (fo := 0) (by kernel_rfl) rfl) ?_
    refine s_val (v_load1 (v := .int .i64 _) (by kernel_rfl) rfl (.there .here) (H.at_has _ (by assumption))) ?_
    refine s_val (v_move (v := .int .i64 _) rfl) ?_
    refine s_val (v_subw rfl rfl) ?_
    refine s_val (v_field (fo := 0) (by kernel_rfl) rfl) ?_
    refine s_val (v_idxA (len := 4) (size := 2) (k := .i64) (by kernel_rfl) rfl rfl (by assumption)) ?_
    refine s_val (v_field (fo := 0) (by kernel_rfl) rfl) ?_
    refine s_store1 (v := .int .i64 _) (by kernel_rfl) rfl rfl (.there .here) (H.set_has _ (by assumption)) rfl ?_
    refine s_end ?_
    refine n_then ?_
    refine r_seq (by kernel_rfl) ?_
    refine s_val (v_move (v := .int .i64 _) rfl) ?_
    refine s_val (v_move (v := .int .i64 _) rfl) ?_
    refine s_val (v_eql (k := .i64) rfl rfl) ?_
    refine s_nil ?_
    refine c_cond rfl rfl (fun h43 => ?_) (fun h43 => ?_)
    · exact absurd ((of_decide_eq_true h30).symm.trans (of_decide_eq_true h43)) hne
    refine c_skip ?_
    refine n_bnormal ?_
    refine n_then ?_
    refine r_list (by kernel_rfl) ?_
    refine s_val (v_add rfl rfl (by omega)) ?_
    refine s_val (v_move (v := .int .i64 _) rfl) ?_
    refine s_end ?_
    refine n_round (k + 1) ⟨_, (by omega), live6 rfl rfl rfl rfl rfl rfl⟩ (fun _ hw => by rw [← ms_stepA h30]; exact hw) (by omega)
  refine c_skip ?_
  refine n_then ?_
  refine r_seq (by kernel_rfl) ?_
  refine s_val (v_move (v := .int .i64 _) rfl) ?_
  refine s_val (v_move (v := .int .i64 _) rfl) ?_
  refine s_val (v_eql (k := .i64) rfl rfl) ?_
  refine s_nil ?_
  refine c_condR rfl rfl (fun h43 => ?_) (fun h43 => ?_)
  · refine c_skip ?_
    refine n_bnormal ?_
    refine n_then ?_
    refine r_list (by kernel_rfl) ?_
    refine s_val (v_add rfl rfl (by omega)) ?_
    refine s_val (v_move (v := .int .i64 _) rfl) ?_
    refine s_end ?_
    refine n_round (k + 1) ⟨_, (by omega), live6 rfl rfl rfl rfl rfl rfl⟩ (fun _ hw => by rw [← ms_step0 h30 h43]; exact hw) (by omega)
  refine r_list (by kernel_rfl) ?_
  refine s_val (v_move (v := .int .i64 _) rfl) ?_
  refine s_val (v_field (fo := 0) (by kernel_rfl) rfl) ?_
  refine s_val (v_idxA (len := 4) (size := 2) (k := .i64) (by kernel_rfl) rfl rfl (by assumption)) ?_
  refine s_val (v_field (fo := 0) (by kernel_rfl) rfl) ?_
  refine s_val (v_load1 (v := .int .i64 _) (by kernel_rfl) rfl (.there .here) (H.at_has _ (by assumption))) ?_
  refine s_val (v_move (v := .int .i64 _) rfl) ?_
  refine s_val (v_addw rfl rfl) ?_
  refine s_val (v_field (fo := 0) (by kernel_rfl) rfl) ?_
  refine s_val (v_idxA (len := 4) (size := 2) (k := .i64) (by kernel_rfl) rfl rfl (by assumption)) ?_
  refine s_val (v_field (fo := 0) (by kernel_rfl) rfl) ?_
  refine s_store1 (v := .int .i64 _) (by kernel_rfl) rfl rfl (.there .here) (H.set_has _ (by assumption)) rfl ?_
  refine s_end ?_
  refine n_bnormal ?_
  refine n_then ?_
  refine r_list (by kernel_rfl) ?_
  refine s_val (v_add rfl rfl (by omega)) ?_
  refine s_val (v_move (v := .int .i64 _) rfl) ?_
  refine s_end ?_
  refine n_round (k + 1) ⟨_, (by omega), live6 rfl rfl rfl rfl rfl rfl⟩ (fun _ hw => by rw [← ms_stepB h30 h43]; exact hw) (by omega)

theorem gr_SameHouse (h : H) (ps : List PayS) (k : H) (qs : List PayS) (w : World) (hp : PaysIn (At w) h.pa h.pl ps) (hq : PaysIn (At w) k.pa k.pl qs) (hb : h.pl ≤ 9223372036854775807) : Gives Try.prog 17 [.agg h.cells, .agg k.cells] w (.bool (sameB h ps k qs)) := by
  refine gives_of Try.func17 rfl Try.ntmps17 (by simp) ?_
  refine r_seq (by kernel_rfl) ?_
  refine s_box (v := .agg _) rfl (fun b2 => ?_)
  refine s_box (v := .agg _) rfl (fun b3 => ?_)
  refine s_val (v_assign (v := .bool _) rfl) ?_
  refine s_nil ?_
  refine c_seq ?_
  refine r_seq (by kernel_rfl) ?_
  refine s_val (v_field (fo := 0) (by kernel_rfl) rfl) ?_
  refine s_val (v_loadN (m := 8) (cs' := accA _ _) (by kernel_rfl) rfl (.there .here) (accA_size _ _) (H.ex_acc _)) ?_
  refine s_val (v_field (fo := 0) (by kernel_rfl) rfl) ?_
  refine s_val (v_loadN (m := 8) (cs' := accA _ _) (by kernel_rfl) rfl .here (accA_size _ _) (H.ex_acc _)) ?_
  refine s_val (v_neqFlat (n := 8) _ _ (by kernel_rfl) rfl rfl (accA_list _ _) (accA_list _ _) rfl rfl) ?_
  refine s_val (v_move (v := .bool _) rfl) ?_
  refine s_splitN (s := 11) rfl (fun h11 => ?_) (fun h11 => ?_)
  · refine s_pass rfl rfl (congrArg not h11) ?_
    refine s_pass rfl rfl (congrArg not h11) ?_
    refine s_pass rfl rfl (congrArg not h11) ?_
    refine s_pass rfl rfl (congrArg not h11) ?_
    refine s_pass rfl rfl (congrArg not h11) ?_
    refine s_val (v_pickT (v := .bool _) rfl (congrArg not h11) rfl) ?_
    refine s_val (v_move (v := .bool _) rfl) ?_
    refine s_pass (g := true) rfl rfl rfl ?_
    refine s_pass (g := true) rfl rfl rfl ?_
    refine s_pass (g := true) rfl rfl rfl ?_
    refine s_pass (g := true) rfl rfl rfl ?_
    refine s_pass (g := true) rfl rfl rfl ?_
    refine s_val (v_pickT (v := .bool _) rfl rfl rfl) ?_
    refine s_val (v_move (v := .bool _) rfl) ?_
    refine s_pass (g := true) rfl rfl rfl ?_
    refine s_pass (g := true) rfl rfl rfl ?_
    refine s_pass (g := true) rfl rfl rfl ?_
    refine s_pass (g := true) rfl rfl rfl ?_
    refine s_pass (g := true) rfl rfl rfl ?_
    refine s_val (v_pickT (v := .bool _) rfl rfl rfl) ?_
    refine s_val (v_move (v := .bool _) rfl) ?_
    refine s_pass (g := true) rfl rfl rfl ?_
    refine s_pass (g := true) rfl rfl rfl ?_
    refine s_pass (g := true) rfl rfl rfl ?_
    refine s_pass (g := true) rfl rfl rfl ?_
    refine s_pass (g := true) rfl rfl rfl ?_
    refine s_pass (g := true) rfl rfl rfl ?_
    refine s_pass (g := true) rfl rfl rfl ?_
    refine s_val (v_pickT (v := .bool _) rfl rfl rfl) ?_
    refine s_nil ?_
    refine c_condTh rfl rfl rfl ?_
    refine r_seq (by kernel_rfl) ?_
    refine s_val (v_assign (v := .bool _) rfl) ?_
    refine s_nil ?_
    refine c_ret ?_
    refine n_ret ?_
    refine n_done rfl (by decide) (Eq.trans (b := .bool _) rfl (congrArg Value.bool ?_))
    first | (have e := same_all hp.1 hq.1 h40 h45 hinv; simp only [sameB, *, Bool.true_and, Bool.false_and, Bool.and_true, Bool.and_false, Bool.not_true, Bool.not_false, Bool.true_or, Bool.or_true, Bool.false_or, Bool.or_false, cond_true, cond_false, if_true, if_false, Bool.false_eq_true, decide_true, decide_false]; done) | (have e := same_bad (F := At w) (h := h) (k := k) hpk hqk h57; simp only [sameB, *, Bool.true_and, Bool.false_and, Bool.and_true, Bool.and_false, Bool.not_true, Bool.not_false, Bool.true_or, Bool.or_true, Bool.false_or, Bool.or_false, cond_true, cond_false, if_true, if_false, Bool.false_eq_true, decide_true, decide_false]; done) | (simp only [sameB, *, Bool.true_and, Bool.false_and, Bool.and_true, Bool.and_false, Bool.not_true, Bool.not_false, Bool.true_or, Bool.or_true, Bool.false_or, Bool.or_false, cond_true, cond_false, if_true, if_false, Bool.false_eq_true, decide_true, decide_false]; done)
  refine s_want rfl rfl (congrArg not h11) ?_
  refine s_val (v_field (fo := 8) (by kernel_rfl) rfl) ?_
  refine s_want rfl rfl (congrArg not h11) ?_
  refine s_val (v_loadN (m := 16) (cs' := matA _) (by kernel_rfl) rfl (.there .here) (matA_size _) (H.ex_sent _)) ?_
  refine s_want rfl rfl (congrArg not h11) ?_
  refine s_val (v_field (fo := 8) (by kernel_rfl) rfl) ?_
  refine s_want rfl rfl (congrArg not h11) ?_
  refine s_val (v_loadN (m := 16) (cs' := matA _) (by kernel_rfl) rfl .here (matA_size _) (H.ex_sent _)) ?_
  refine s_want rfl rfl (congrArg not h11) ?_
  refine s_val (v_neqFlat (n := 16) _ _ (by kernel_rfl) rfl rfl (matA_list _) (matA_list _) rfl rfl) ?_
  refine s_val (v_pickF (v := .bool _) rfl (congrArg not h11) rfl) ?_
  refine s_val (v_move (v := .bool _) rfl) ?_
  refine s_splitN (s := 18) rfl (fun h18 => ?_) (fun h18 => ?_)
  · refine s_pass rfl rfl (congrArg not h18) ?_
    refine s_pass rfl rfl (congrArg not h18) ?_
    refine s_pass rfl rfl (congrArg not h18) ?_
    refine s_pass rfl rfl (congrArg not h18) ?_
    refine s_pass rfl rfl (congrArg not h18) ?_
    refine s_val (v_pickT (v := .bool _) rfl (congrArg not h18) rfl) ?_
    refine s_val (v_move (v := .bool _) rfl) ?_
    refine s_pass (g := true) rfl rfl rfl ?_
    refine s_pass (g := true) rfl rfl rfl ?_
    refine s_pass (g := true) rfl rfl rfl ?_
    refine s_pass (g := true) rfl rfl rfl ?_
    refine s_pass (g := true) rfl rfl rfl ?_
    refine s_val (v_pickT (v := .bool _) rfl rfl rfl) ?_
    refine s_val (v_move (v := .bool _) rfl) ?_
    refine s_pass (g := true) rfl rfl rfl ?_
    refine s_pass (g := true) rfl rfl rfl ?_
    refine s_pass (g := true) rfl rfl rfl ?_
    refine s_pass (g := true) rfl rfl rfl ?_
    refine s_pass (g := true) rfl rfl rfl ?_
    refine s_pass (g := true) rfl rfl rfl ?_
    refine s_pass (g := true) rfl rfl rfl ?_
    refine s_val (v_pickT (v := .bool _) rfl rfl rfl) ?_
    refine s_nil ?_
    refine c_condTh rfl rfl rfl ?_
    refine r_seq (by kernel_rfl) ?_
    refine s_val (v_assign (v := .bool _) rfl) ?_
    refine s_nil ?_
    refine c_ret ?_
    refine n_ret ?_
    refine n_done rfl (by decide) (Eq.trans (b := .bool _) rfl (congrArg Value.bool ?_))
    first | (have e := same_all hp.1 hq.1 h40 h45 hinv; simp only [sameB, *, Bool.true_and, Bool.false_and, Bool.and_true, Bool.and_false, Bool.not_true, Bool.not_false, Bool.true_or, Bool.or_true, Bool.false_or, Bool.or_false, cond_true, cond_false, if_true, if_false, Bool.false_eq_true, decide_true, decide_false]; done) | (have e := same_bad (F := At w) (h := h) (k := k) hpk hqk h57; simp only [sameB, *, Bool.true_and, Bool.false_and, Bool.and_true, Bool.and_false, Bool.not_true, Bool.not_false, Bool.true_or, Bool.or_true, Bool.false_or, Bool.or_false, cond_true, cond_false, if_true, if_false, Bool.false_eq_true, decide_true, decide_false]; done) | (simp only [sameB, *, Bool.true_and, Bool.false_and, Bool.and_true, Bool.and_false, Bool.not_true, Bool.not_false, Bool.true_or, Bool.or_true, Bool.false_or, Bool.or_false, cond_true, cond_false, if_true, if_false, Bool.false_eq_true, decide_true, decide_false]; done)
  refine s_want rfl rfl (congrArg not h18) ?_
  refine s_val (v_field (fo := 24) (by kernel_rfl) rfl) ?_
  refine s_want rfl rfl (congrArg not h18) ?_
  refine s_val (v_loadN (m := 16) (cs' := matA _) (by kernel_rfl) rfl (.there .here) (matA_size _) (H.ex_lim _)) ?_
  refine s_want rfl rfl (congrArg not h18) ?_
  refine s_val (v_field (fo := 24) (by kernel_rfl) rfl) ?_
  refine s_want rfl rfl (congrArg not h18) ?_
  refine s_val (v_loadN (m := 16) (cs' := matA _) (by kernel_rfl) rfl .here (matA_size _) (H.ex_lim _)) ?_
  refine s_want rfl rfl (congrArg not h18) ?_
  refine s_val (v_neqFlat (n := 16) _ _ (by kernel_rfl) rfl rfl (matA_list _) (matA_list _) rfl rfl) ?_
  refine s_val (v_pickF (v := .bool _) rfl (congrArg not h18) rfl) ?_
  refine s_val (v_move (v := .bool _) rfl) ?_
  refine s_splitN (s := 25) rfl (fun h25 => ?_) (fun h25 => ?_)
  · refine s_pass rfl rfl (congrArg not h25) ?_
    refine s_pass rfl rfl (congrArg not h25) ?_
    refine s_pass rfl rfl (congrArg not h25) ?_
    refine s_pass rfl rfl (congrArg not h25) ?_
    refine s_pass rfl rfl (congrArg not h25) ?_
    refine s_val (v_pickT (v := .bool _) rfl (congrArg not h25) rfl) ?_
    refine s_val (v_move (v := .bool _) rfl) ?_
    refine s_pass (g := true) rfl rfl rfl ?_
    refine s_pass (g := true) rfl rfl rfl ?_
    refine s_pass (g := true) rfl rfl rfl ?_
    refine s_pass (g := true) rfl rfl rfl ?_
    refine s_pass (g := true) rfl rfl rfl ?_
    refine s_pass (g := true) rfl rfl rfl ?_
    refine s_pass (g := true) rfl rfl rfl ?_
    refine s_val (v_pickT (v := .bool _) rfl rfl rfl) ?_
    refine s_nil ?_
    refine c_condTh rfl rfl rfl ?_
    refine r_seq (by kernel_rfl) ?_
    refine s_val (v_assign (v := .bool _) rfl) ?_
    refine s_nil ?_
    refine c_ret ?_
    refine n_ret ?_
    refine n_done rfl (by decide) (Eq.trans (b := .bool _) rfl (congrArg Value.bool ?_))
    first | (have e := same_all hp.1 hq.1 h40 h45 hinv; simp only [sameB, *, Bool.true_and, Bool.false_and, Bool.and_true, Bool.and_false, Bool.not_true, Bool.not_false, Bool.true_or, Bool.or_true, Bool.false_or, Bool.or_false, cond_true, cond_false, if_true, if_false, Bool.false_eq_true, decide_true, decide_false]; done) | (have e := same_bad (F := At w) (h := h) (k := k) hpk hqk h57; simp only [sameB, *, Bool.true_and, Bool.false_and, Bool.and_true, Bool.and_false, Bool.not_true, Bool.not_false, Bool.true_or, Bool.or_true, Bool.false_or, Bool.or_false, cond_true, cond_false, if_true, if_false, Bool.false_eq_true, decide_true, decide_false]; done) | (simp only [sameB, *, Bool.true_and, Bool.false_and, Bool.and_true, Bool.and_false, Bool.not_true, Bool.not_false, Bool.true_or, Bool.or_true, Bool.false_or, Bool.or_false, cond_true, cond_false, if_true, if_false, Bool.false_eq_true, decide_true, decide_false]; done)
  refine s_want rfl rfl (congrArg not h25) ?_
  refine s_val (v_field (fo := 41) (by kernel_rfl) rfl) ?_
  refine s_want rfl rfl (congrArg not h25) ?_
  refine s_val (v_load1 (v := .int .i64 _) (by kernel_rfl) rfl (.there .here) (H.at_next _)) ?_
  refine s_want rfl rfl (congrArg not h25) ?_
  refine s_val (v_field (fo := 41) (by kernel_rfl) rfl) ?_
  refine s_want rfl rfl (congrArg not h25) ?_
  refine s_val (v_load1 (v := .int .i64 _) (by kernel_rfl) rfl .here (H.at_next _)) ?_
  refine s_want rfl rfl (congrArg not h25) ?_
  refine s_val (v_neq (k := .i64) rfl rfl) ?_
  refine s_val (v_pickF (v := .bool _) rfl (congrArg not h25) rfl) ?_
  refine s_val (v_move (v := .bool _) rfl) ?_
  refine s_splitN (s := 32) rfl (fun h32 => ?_) (fun h32 => ?_)
  · refine s_pass rfl rfl (congrArg not h32) ?_
    refine s_pass rfl rfl (congrArg not h32) ?_
    refine s_pass rfl rfl (congrArg not h32) ?_
    refine s_pass rfl rfl (congrArg not h32) ?_
    refine s_pass rfl rfl (congrArg not h32) ?_
    refine s_pass rfl rfl (congrArg not h32) ?_
    refine s_pass rfl rfl (congrArg not h32) ?_
    refine s_val (v_pickT (v := .bool _) rfl (congrArg not h32) rfl) ?_
    refine s_nil ?_
    refine c_condTh rfl rfl rfl ?_
    refine r_seq (by kernel_rfl) ?_
    refine s_val (v_assign (v := .bool _) rfl) ?_
    refine s_nil ?_
    refine c_ret ?_
    refine n_ret ?_
    refine n_done rfl (by decide) (Eq.trans (b := .bool _) rfl (congrArg Value.bool ?_))
    first | (have e := same_all hp.1 hq.1 h40 h45 hinv; simp only [sameB, *, Bool.true_and, Bool.false_and, Bool.and_true, Bool.and_false, Bool.not_true, Bool.not_false, Bool.true_or, Bool.or_true, Bool.false_or, Bool.or_false, cond_true, cond_false, if_true, if_false, Bool.false_eq_true, decide_true, decide_false]; done) | (have e := same_bad (F := At w) (h := h) (k := k) hpk hqk h57; simp only [sameB, *, Bool.true_and, Bool.false_and, Bool.and_true, Bool.and_false, Bool.not_true, Bool.not_false, Bool.true_or, Bool.or_true, Bool.false_or, Bool.or_false, cond_true, cond_false, if_true, if_false, Bool.false_eq_true, decide_true, decide_false]; done) | (simp only [sameB, *, Bool.true_and, Bool.false_and, Bool.and_true, Bool.and_false, Bool.not_true, Bool.not_false, Bool.true_or, Bool.or_true, Bool.false_or, Bool.or_false, cond_true, cond_false, if_true, if_false, Bool.false_eq_true, decide_true, decide_false]; done)
  refine s_want rfl rfl (congrArg not h32) ?_
  refine s_val (v_field (fo := 40) (by kernel_rfl) rfl) ?_
  refine s_want rfl rfl (congrArg not h32) ?_
  refine s_val (v_load1 (v := .slice _ _ _) (by kernel_rfl) rfl (.there .here) (H.at_pays _)) ?_
  refine s_want rfl rfl (congrArg not h32) ?_
  refine s_val (v_lenS (T := 27) (m := 6) (by kernel_rfl) rfl rfl) ?_
  refine s_want rfl rfl (congrArg not h32) ?_
  refine s_val (v_field (fo := 40) (by kernel_rfl) rfl) ?_
  refine s_want rfl rfl (congrArg not h32) ?_
  refine s_val (v_load1 (v := .slice _ _ _) (by kernel_rfl) rfl .here (H.at_pays _)) ?_
  refine s_want rfl rfl (congrArg not h32) ?_
  refine s_val (v_lenS (T := 27) (m := 6) (by kernel_rfl) rfl rfl) ?_
  refine s_want rfl rfl (congrArg not h32) ?_
  refine s_val (v_neq (k := .i64) rfl rfl) ?_
  refine s_val (v_pickF (v := .bool _) rfl (congrArg not h32) rfl) ?_
  refine s_nil ?_
  refine c_condN rfl rfl (fun h40 => ?_) (fun h40 => ?_)
  · refine r_seq (by kernel_rfl) ?_
    refine s_val (v_assign (v := .bool _) rfl) ?_
    refine s_nil ?_
    refine c_ret ?_
    refine n_ret ?_
    refine n_done rfl (by decide) (Eq.trans (b := .bool _) rfl (congrArg Value.bool ?_))
    first | (have e := same_all hp.1 hq.1 h40 h45 hinv; simp only [sameB, *, Bool.true_and, Bool.false_and, Bool.and_true, Bool.and_false, Bool.not_true, Bool.not_false, Bool.true_or, Bool.or_true, Bool.false_or, Bool.or_false, cond_true, cond_false, if_true, if_false, Bool.false_eq_true, decide_true, decide_false]; done) | (have e := same_bad (F := At w) (h := h) (k := k) hpk hqk h57; simp only [sameB, *, Bool.true_and, Bool.false_and, Bool.and_true, Bool.and_false, Bool.not_true, Bool.not_false, Bool.true_or, Bool.or_true, Bool.false_or, Bool.or_false, cond_true, cond_false, if_true, if_false, Bool.false_eq_true, decide_true, decide_false]; done) | (simp only [sameB, *, Bool.true_and, Bool.false_and, Bool.and_true, Bool.and_false, Bool.not_true, Bool.not_false, Bool.true_or, Bool.or_true, Bool.false_or, Bool.or_false, cond_true, cond_false, if_true, if_false, Bool.false_eq_true, decide_true, decide_false]; done)
  refine c_skip ?_
  refine n_then ?_
  refine c_seq ?_
  have hee := of_decide_eq_true h40
  refine r_seq (by kernel_rfl) ?_
  refine s_val (v_field (fo := 40) (by kernel_rfl) rfl) ?_
  refine s_val (v_load1 (v := .slice _ _ _) (by kernel_rfl) rfl (.there .here) (H.at_pays _)) ?_
  refine s_val (v_lenS (T := 27) (m := 6) (by kernel_rfl) rfl rfl) ?_
  refine s_val (v_move (v := .int .i64 _) rfl) ?_
  refine s_nil ?_
  refine c_block ?_
  refine c_loop (σ := Nat) (fun (j : Nat) f => ∃ g, (j ≤ h.pl ∧ (ps.take j).map PayS.list = (qs.take j).map PayS.list) ∧ f = (upd (upd (upd (upd g 2 (.pointer (some ⟨b2, 0, none⟩))) 3 (.pointer (some ⟨b3, 0, none⟩))) 43 (I h.pl)) 44 (I j))) (fun (j : Nat) => Has w (At w) [(b3, .cells k.cells 29), (b2, .cells h.cells 29)]) (fun (j : Nat) => h.pl - j) 0 ⟨_, ⟨Nat.zero_le _, rfl⟩, live4 rfl rfl rfl rfl⟩ (fun w hw => hw) ?_
  rintro j _ ⟨g, ⟨hjl, hinv⟩, rfl⟩
  refine r_seq (by kernel_rfl) ?_
  refine s_val (v_lss (k := .i64) rfl rfl) ?_
  refine s_nil ?_
  refine c_seq ?_
  refine c_condR rfl rfl (fun h45 => ?_) (fun h45 => ?_)
  · refine c_exit ?_
    refine n_exit ?_
    refine n_exit ?_
    refine n_bhere ?_
    refine n_then ?_
    refine r_seq (by kernel_rfl) ?_
    refine s_val (v_assign (v := .bool _) rfl) ?_
    refine s_nil ?_
    refine c_ret ?_
    refine n_done rfl (by decide) (Eq.trans (b := .bool _) rfl (congrArg Value.bool ?_))
    first | (have e := same_all hp.1 hq.1 h40 h45 hinv; simp only [sameB, *, Bool.true_and, Bool.false_and, Bool.and_true, Bool.and_false, Bool.not_true, Bool.not_false, Bool.true_or, Bool.or_true, Bool.false_or, Bool.or_false, cond_true, cond_false, if_true, if_false, Bool.false_eq_true, decide_true, decide_false]; done) | (have e := same_bad (F := At w) (h := h) (k := k) hpk hqk h57; simp only [sameB, *, Bool.true_and, Bool.false_and, Bool.and_true, Bool.and_false, Bool.not_true, Bool.not_false, Bool.true_or, Bool.or_true, Bool.false_or, Bool.or_false, cond_true, cond_false, if_true, if_false, Bool.false_eq_true, decide_true, decide_false]; done) | (simp only [sameB, *, Bool.true_and, Bool.false_and, Bool.and_true, Bool.and_false, Bool.not_true, Bool.not_false, Bool.true_or, Bool.or_true, Bool.false_or, Bool.or_false, cond_true, cond_false, if_true, if_false, Bool.false_eq_true, decide_true, decide_false]; done)
  have hj0 := of_decide_eq_true h45
  obtain ⟨p, hpk, hd, ht⟩ := hp.get (k := j) (by omega)
  obtain ⟨q, hqk, hd2, ht2⟩ := hq.get (k := j) (by omega)
  obtain ⟨b, o, hpa, hc⟩ := hp.some (k := j) (by omega)
  obtain ⟨b', o', hqa, hc'⟩ := hq.some (k := j) (by omega)
  refine c_skip ?_
  refine n_then ?_
  refine c_seq ?_
  refine c_block ?_
  refine r_seq (by kernel_rfl) ?_
  refine s_val (v_move (v := .int .i64 _) rfl) ?_
  refine s_val (v_assign (v := .int .i64 _) rfl) ?_
  refine s_nil ?_
  refine d_seq (by kernel_rfl) (by kernel_rfl) (fun w hw => hw.drew) (by kernel_rfl) ?_
  refine q_val (v_field (fo := 40) (by kernel_rfl) rfl) ?_
  refine q_val (v_load1 (v := .slice (some ⟨b, o, none⟩) _ _) (by kernel_rfl) rfl (.there .here) (by rw [H.at_pays, hpa])) ?_
  refine q_val (v_move (v := .int .i64 _) rfl) ?_
  refine q_val (v_idxS (size := 6) (k := .i64) (by kernel_rfl) rfl rfl ⟨by omega, by omega⟩) ?_
  refine q_val (v_loadNo (cs := p.cells) (m := 6) (by kernel_rfl) rfl rfl (hc j p hpk)) ?_
  refine q_val (v_field (fo := 40) (by kernel_rfl) rfl) ?_
  refine q_val (v_load1 (v := .slice (some ⟨b', o', none⟩) _ _) (by kernel_rfl) rfl .here (by rw [H.at_pays, hqa])) ?_
  refine q_val (v_move (v := .int .i64 _) rfl) ?_
  refine q_val (v_idxS (size := 6) (k := .i64) (by kernel_rfl) rfl rfl ⟨by omega, by omega⟩) ?_
  refine q_val (v_loadNo (cs := q.cells) (m := 6) (by kernel_rfl) rfl rfl (hc' j q hqk)) ?_
  refine q_val (v_neqFlat (n := 6) _ _ (by kernel_rfl) rfl rfl (PayS.cells_list _) (PayS.cells_list _) rfl rfl) ?_
  refine q_nil ?_
  refine c_condNR rfl rfl (fun h57 => ?_) (fun h57 => ?_)
  · refine c_skip ?_
    refine n_bnormal ?_
    refine n_then ?_
    refine r_list (by kernel_rfl) ?_
    refine s_val (v_add rfl rfl (by omega)) ?_
    refine s_val (v_move (v := .int .i64 _) rfl) ?_
    refine s_end ?_
    refine n_round (j + 1) ⟨_, ⟨by omega, same_step hinv ht ht2 h57⟩, live4 rfl rfl rfl rfl⟩ (fun _ hw => hw) (by omega)
  refine r_seq (by kernel_rfl) ?_
  refine s_val (v_assign (v := .bool _) rfl) ?_
  refine s_nil ?_
  refine c_ret ?_
  refine n_bret ?_
  refine n_ret ?_
  refine n_ret ?_
  refine n_bret ?_
  refine n_ret ?_
  refine n_done rfl (by decide) (Eq.trans (b := .bool _) rfl (congrArg Value.bool ?_))
  first | (have e := same_all hp.1 hq.1 h40 h45 hinv; simp only [sameB, *, Bool.true_and, Bool.false_and, Bool.and_true, Bool.and_false, Bool.not_true, Bool.not_false, Bool.true_or, Bool.or_true, Bool.false_or, Bool.or_false, cond_true, cond_false, if_true, if_false, Bool.false_eq_true, decide_true, decide_false]; done) | (have e := same_bad (F := At w) (h := h) (k := k) hpk hqk h57; simp only [sameB, *, Bool.true_and, Bool.false_and, Bool.and_true, Bool.and_false, Bool.not_true, Bool.not_false, Bool.true_or, Bool.or_true, Bool.false_or, Bool.or_false, cond_true, cond_false, if_true, if_false, Bool.false_eq_true, decide_true, decide_false]; done) | (simp only [sameB, *, Bool.true_and, Bool.false_and, Bool.and_true, Bool.and_false, Bool.not_true, Bool.not_false, Bool.true_or, Bool.or_true, Bool.false_or, Bool.or_false, cond_true, cond_false, if_true, if_false, Bool.false_eq_true, decide_true, decide_false]; done)

end Go.Proofs.Ytmkboljfbmlebaa
