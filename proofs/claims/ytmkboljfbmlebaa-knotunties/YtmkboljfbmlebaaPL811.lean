/- What knotUnties_holds stands on, part 11: each part says what it proves. No condition beside those that it names. -/
import Derived.Test.YtmkboljfbmlebaaPL810
/- Rows of four lists, the bank that cannot stand, and what the program's own way to the most goes through. No condition. -/
namespace Go.Proofs.Ytmkboljfbmlebaa
open Go.RowKit
set_option linter.unusedSimpArgs false
set_option linter.unusedVariables false

structure SlS where
  a : Option Addr
  l : Nat
  c : Nat
def SlS.val (s : SlS) : Value := .slice s.a s.l s.c
def rowSC (q : Int → SlS) (j : Nat) : Value := .slice (q j).a (q j).l (q j).c
def rowS (q : Int → SlS) : Array Value := Array.ofFn (n := 4) fun j => rowSC q j.val
theorem rowS_size (q : Int → SlS) : (rowS q).size = 4 := by simp [rowS]
theorem rowS_all (q : Int → SlS) : (rowS q).all (·.oneCell') = true := ofFn_all _ fun _ => rfl
theorem rowS_at0 (q : Int → SlS) {i : Int} (hi : 0 ≤ i ∧ i < 4) : (rowS q)[0 + i.toNat * 1]? = some (.slice (q i).a (q i).l (q i).c) := by
  have h1 : ((i.toNat : Nat) : Int) = i := by omega
  rw [Nat.zero_add, rowS, getq _ (by omega)]
  simp only [rowSC, Nat.mul_one, h1]
def up1S (q : Int → SlS) (i : Int) (v : SlS) : Int → SlS := fun x => if x = i then v else q x
theorem rowS_set (q : Int → SlS) {i : Int} {a : Option Addr} {l c : Nat} (hi : 0 ≤ i ∧ i < 4) : 0 + i.toNat * 1 < (rowS q).size ∧ (rowS q).setIfInBounds (0 + i.toNat * 1) (.slice a l c) = rowS (up1S q i ⟨a, l, c⟩) := by
  refine ⟨by rw [rowS_size]; omega, ?_⟩
  unfold rowS
  exact setq _ _ (fun j hj => by
    unfold rowSC up1S
    by_cases e : (j : Int) = i
    · rw [if_pos e, if_pos (by omega)]
    · rw [if_neg e, if_neg (by omega)])
def noS : Int → SlS := fun _ => ⟨none, 0, 0⟩
/-- one list of numbers, its room no less than its length -/
def SlIn (F : Addr → Value → Prop) (s : SlS) (xs : List Int) : Prop := s.l = xs.length ∧ xs.length ≤ s.c ∧ IntsAt F s.a xs
theorem SlIn.mono {F F' : Addr → Value → Prop} {s : SlS} {xs : List Int} (h : SlIn F s xs) (hm : More F F') : SlIn F' s xs := ⟨h.1, h.2.1, h.2.2.mono hm⟩
/-- the lists of the banks below k -/
def WaitIn (ps : List PayS) (q : Int → SlS) (k : Nat) (F : Addr → Value → Prop) : Prop := ∀ b : Int, 0 ≤ b → b < k → ∃ ws, SlIn F (q b) ws ∧ (SeqsApart ps → ws = queueM ps b)
theorem WaitIn.mono {ps : List PayS} {q : Int → SlS} {k : Nat} {F F' : Addr → Value → Prop} (h : WaitIn ps q k F) (hm : More F F') : WaitIn ps q k F' := fun b h0 h1 => by
  obtain ⟨ws, h2, h3⟩ := h b h0 h1
  exact ⟨ws, h2.mono hm, h3⟩
theorem WaitIn.at {ps : List PayS} {q : Int → SlS} {k : Nat} {w0 w : World} {F : Addr → Value → Prop} {L : List (Nat × Obj)} (h : WaitIn ps q k F) (hw : Has w0 F L w) : WaitIn ps q k (At w) := h.mono hw.at
theorem WaitIn.step {ps : List PayS} {q : Int → SlS} {k : Nat} {F F' : Addr → Value → Prop} (h : WaitIn ps q k F) (hm : More F F') {a : Option Addr} {l c : Nat} {ws : List Int} (hl : l = ws.length) (hc : ws.length ≤ c) (ha : IntsAt F' a ws) (hs : SeqsApart ps → ws = queueM ps k) :
    WaitIn ps (up1S q k ⟨a, l, c⟩) (k + 1) F' := fun b h0 h1 => by
  by_cases e : b = (k : Int)
  · subst e
    exact ⟨ws, by unfold up1S; rw [if_pos rfl]; exact ⟨hl, hc, ha⟩, hs⟩
  · obtain ⟨xs, h2, h3⟩ := h b h0 (by omega)
    exact ⟨xs, by unfold up1S; rw [if_neg e]; exact h2.mono hm, h3⟩
/-- what the lists of all banks are -/
def QueuesF (ps : List PayS) : (Addr → Value → Prop) → Value → Prop := fun F v => ∃ q, v = .agg (rowS q) ∧ WaitIn ps q 4 F
theorem queuesF_mono (ps : List PayS) : Mono (QueuesF ps) := by
  rintro F F' v hm ⟨q, h1, h2⟩
  exact ⟨q, h1, h2.mono hm⟩
theorem WaitIn.get {ps : List PayS} {q : Int → SlS} {F : Addr → Value → Prop} (h : WaitIn ps q 4 F) (hsa : SeqsApart ps) {b : Int} (hb : 0 ≤ b ∧ b < 4) : (q b).l = (queueM ps b).length ∧ (queueM ps b).length ≤ (q b).c ∧ IntsAt F (q b).a (queueM ps b) := by
  obtain ⟨ws, h2, h3⟩ := h b hb.1 hb.2
  rw [h3 hsa] at h2
  exact h2
theorem WaitIn.len {ps : List PayS} {q : Int → SlS} {F : Addr → Value → Prop} (h : WaitIn ps q 4 F) (hsa : SeqsApart ps) {b : Int} (hb : 0 ≤ b ∧ b < 4) : (q b).l = (queueM ps b).length := (h.get hsa hb).1
/-! the bank that cannot stand -/
theorem ok_other {x : H} {b : Int} (hb : 0 ≤ b ∧ b < 4) {t : Int} (e : t = b) (h0 : 0 ≤ x.lim b t) : ¬ x.lim b t < wr (x.sent b t - x.sent t b) := by
  subst e
  rw [Int.sub_self, wr_in (by omega) (by omega)]
  omega
def stuckC (x : H) (n : Int → Int) (b : Int) : Bool := !decide (n b = 0) && !okBank x b
def stuckM (x : H) (n : Int → Int) : Int × Bool := bif stuckC x n 0 then (0, true) else bif stuckC x n 1 then (1, true) else bif stuckC x n 2 then (2, true) else bif stuckC x n 3 then (3, true) else (0, false)
theorem stuck_at {x : H} {n : Int → Int} {k : Nat} (hk : k < 4) (h : ∀ b : Int, 0 ≤ b → b < k → stuckC x n b = false) (hc : stuckC x n k = true) : stuckM x n = ((k : Int), true) := by
  have : k = 0 ∨ k = 1 ∨ k = 2 ∨ k = 3 := by omega
  unfold stuckM
  rcases this with rfl | rfl | rfl | rfl
  · have hc' : stuckC x n 0 = true := hc
    simp only [hc', cond_true]; rfl
  · have hc' : stuckC x n 1 = true := hc
    simp only [h 0 (by omega) (by omega), hc', cond_true, cond_false]; rfl
  · have hc' : stuckC x n 2 = true := hc
    simp only [h 0 (by omega) (by omega), h 1 (by omega) (by omega), hc', cond_true, cond_false]; rfl
  · have hc' : stuckC x n 3 = true := hc
    simp only [h 0 (by omega) (by omega), h 1 (by omega) (by omega), h 2 (by omega) (by omega), hc', cond_true, cond_false]; rfl
theorem stuck_none {x : H} {n : Int → Int} (h : ∀ b : Int, 0 ≤ b → b < 4 → stuckC x n b = false) : stuckM x n = (0, false) := by
  unfold stuckM
  simp only [h 0 (by omega) (by omega), h 1 (by omega) (by omega), h 2 (by omega) (by omega), h 3 (by omega) (by omega), cond_false]
theorem stuck_true {x : H} {n : Int → Int} (h : (stuckM x n).2 = true) : (0 ≤ (stuckM x n).1 ∧ (stuckM x n).1 < 4) ∧ stuckC x n (stuckM x n).1 = true := by
  unfold stuckM at h ⊢
  cases h0 : stuckC x n 0
  · cases h1 : stuckC x n 1
    · cases h2 : stuckC x n 2
      · cases h3 : stuckC x n 3
        · rw [h0, h1, h2, h3] at h; cases h
        · simp only [cond_true, cond_false]; exact ⟨by omega, h3⟩
      · simp only [cond_true, cond_false]; exact ⟨by omega, h2⟩
    · simp only [cond_true, cond_false]; exact ⟨by omega, h1⟩
  · simp only [cond_true]; exact ⟨by omega, h0⟩
theorem stuck_false {x : H} {n : Int → Int} (h : (stuckM x n).2 = false) : ∀ b : Int, 0 ≤ b ∧ b < 4 → n b = 0 ∨ okBank x b = true := by
  unfold stuckM at h
  cases h0 : stuckC x n 0
  · cases h1 : stuckC x n 1
    · cases h2 : stuckC x n 2
      · cases h3 : stuckC x n 3
        · intro b hb
          have : stuckC x n b = false := by
            have hb4 : b = 0 ∨ b = 1 ∨ b = 2 ∨ b = 3 := by omega
            rcases hb4 with rfl | rfl | rfl | rfl <;> assumption
          unfold stuckC at this
          by_cases e : n b = 0
          · exact .inl e
          · right; simpa [e] using this
        · rw [h0, h1, h2, h3] at h; cases h
      · rw [h0, h1, h2] at h; cases h
    · rw [h0, h1] at h; cases h
  · rw [h0] at h; cases h
theorem stuckC_spec {x : H} {n : Int → Int} {b : Int} (h : stuckC x n b = true) : ¬ n b = 0 ∧ okBank x b = false := by
  unfold stuckC at h
  simpa using h
theorem moveQ_lim (ps : List PayS) (b : Int) : ∀ (xs : List Int) (x : H), (moveQ ps b x xs).lim = x.lim ∧ (moveQ ps b x xs).pa = x.pa ∧ (moveQ ps b x xs).pl = x.pl ∧ (moveQ ps b x xs).pc = x.pc
  | [], x => ⟨rfl, rfl, rfl, rfl⟩
  | i :: r, x => by
    obtain ⟨h1, h2, h3, h4⟩ := moveQ_lim ps b r (match ps[i.toNat]? with | some p => moveM x b p.dst p.amt | none => x)
    have hm : ∀ a d n, (moveM x a d n).lim = x.lim ∧ (moveM x a d n).pa = x.pa ∧ (moveM x a d n).pl = x.pl ∧ (moveM x a d n).pc = x.pc := fun a d n => by unfold moveM; split <;> exact ⟨rfl, rfl, rfl, rfl⟩
    simp only [moveQ]
    cases hp : ps[i.toNat]? with
    | none => rw [hp] at h1 h2 h3 h4; exact ⟨h1, h2, h3, h4⟩
    | some p =>
      rw [hp] at h1 h2 h3 h4
      obtain ⟨m1, m2, m3, m4⟩ := hm b p.dst p.amt
      exact ⟨h1.trans m1, h2.trans m2, h3.trans m3, h4.trans m4⟩
theorem movesTo_lim (h : H) (ps : List PayS) (n : Int → Int) : ∀ k, (movesTo h ps n k).lim = h.lim ∧ (movesTo h ps n k).pa = h.pa ∧ (movesTo h ps n k).pl = h.pl ∧ (movesTo h ps n k).pc = h.pc
  | 0 => ⟨rfl, rfl, rfl, rfl⟩
  | k + 1 => by
    obtain ⟨h1, h2, h3, h4⟩ := movesTo_lim h ps n k
    obtain ⟨g1, g2, g3, g4⟩ := moveQ_lim ps k ((queueM ps k).take (n k).toNat) (movesTo h ps n k)
    exact ⟨g1.trans h1, g2.trans h2, g3.trans h3, g4.trans h4⟩
/-! the way to the most -/
structure DownTo (h : H) (ps : List PayS) (n : Int → Int) : Prop where
  size : ∀ b : Int, 0 ≤ b ∧ b < 4 → 0 ≤ n b ∧ n b ≤ (queueM ps b).length
  above : ∀ m, Poss h ps m → ∀ b : Int, 0 ≤ b ∧ b < 4 → m b ≤ n b
theorem down_start {h : H} {ps : List PayS} {n : Int → Int} (hn : ∀ b : Int, 0 ≤ b ∧ b < 4 → n b = (queueM ps b).length) : DownTo h ps n :=
  ⟨fun b hb => by rw [hn b hb]; omega, fun m p b hb => by rw [hn b hb]; exact (p.size b hb).2⟩
theorem not_ok {h : H} {ps : List PayS} (hg : goodB h ps = true) {n : Int → Int} {b : Int} (hb : 0 ≤ b ∧ b < 4) (ho : okBank (movesTo h ps n 4) b = false) {m : Int → Int} (pm : Poss h ps m) (hmn : ∀ b : Int, 0 ≤ b ∧ b < 4 → m b ≤ n b) (hn : ¬ n b = 0) : m b < n b := by
  rcases Int.lt_or_le (m b) (n b) with h1 | h1
  · exact h1
  · exfalso
    have e : n b = m b := by have := hmn b hb; omega
    obtain ⟨l1, l2⟩ := pm.lift hmn hb e (by omega)
    have st := moves_spec hg n
    have gh := good_of hg
    have : okBank (movesTo h ps n 4) b = true := (ok_iff st.near (fun i hi => by rw [st.cred]; exact gh.cred i hi) hb).2 ⟨by rw [st.has b hb, st.cred]; exact l1, fun t ht h0 => by
      rw [st.lim] at h0 ⊢
      rw [st.sent b t hb ht, st.sent t b ht hb]; exact l2 t ht h0⟩
    rw [this] at ho; cases ho
theorem DownTo.step {h : H} {ps : List PayS} (hg : goodB h ps = true) {n : Int → Int} (d : DownTo h ps n) {b : Int} (hb : 0 ≤ b ∧ b < 4) (hn : ¬ n b = 0) (ho : okBank (movesTo h ps n 4) b = false) : DownTo h ps (up1 n b (n b - 1)) := by
  have hs := d.size b hb
  refine ⟨fun c hc => ?_, fun m pm c hc => ?_⟩
  · unfold up1
    split
    · rename_i e; subst e; omega
    · exact d.size c hc
  · unfold up1
    split
    · rename_i e; subst e
      have := not_ok hg hc ho pm (d.above m pm) hn
      omega
    · exact d.above m pm c hc
theorem DownTo.done {h : H} {ps : List PayS} (hg : goodB h ps = true) {n : Int → Int} (d : DownTo h ps n) (ho : ∀ b : Int, 0 ≤ b ∧ b < 4 → n b = 0 ∨ okBank (movesTo h ps n 4) b = true) : IsMost h ps n :=
  ⟨poss_iff.1 (tog_all hg (fun b hb => within_iff.2 (d.size b hb)) ho), d.above⟩
def all4 (n : Int → Int) : Int := n 0 + n 1 + n 2 + n 3
theorem all4_down {n : Int → Int} {b : Int} (hb : 0 ≤ b ∧ b < 4) : all4 (up1 n b (n b - 1)) = all4 n - 1 := by
  have hb4 : b = 0 ∨ b = 1 ∨ b = 2 ∨ b = 3 := by omega
  unfold all4
  rcases hb4 with rfl | rfl | rfl | rfl <;> simp [up1] <;> omega
theorem DownTo.pos {h : H} {ps : List PayS} {n : Int → Int} (d : DownTo h ps n) : 0 ≤ all4 n := by
  have := d.size 0 (by omega)
  have := d.size 1 (by omega)
  have := d.size 2 (by omega)
  have := d.size 3 (by omega)
  unfold all4; omega
theorem movesTo_core (h : H) (ps : List PayS) (n : Int → Int) (b : Int) (k : Nat) : okBank (movesTo h.core ps n k) b = okBank (movesTo h ps n k) b := by
  have hm : ∀ (xs : List Int) (c : Int) (x y : H), x.core = y.core → (moveQ ps c x xs).core = (moveQ ps c y xs).core := by
    intro xs
    induction xs with
    | nil => intro c x y e; exact e
    | cons i r ih =>
      intro c x y e
      simp only [moveQ]
      cases ps[i.toNat]? with
      | none => exact ih c x y e
      | some p => exact ih c _ _ (by rw [core_move, core_move, e])
  have : ∀ k, (movesTo h.core ps n k).core = (movesTo h ps n k).core := by
    intro k
    induction k with
    | zero => rfl
    | succ k ih => exact hm _ _ _ _ ih
  have e := this k
  have e1 : ∀ x : H, okBank x.core b = okBank x b := fun _ => rfl
  rw [← e1, e, e1]
theorem un_stop {ps : List PayS} {m : Int → Int} {b j : Nat} (h : m b ≤ j) : unXs ps m b j = upTo ps m (b + 1) := by
  unfold unXs
  rw [List.take_of_length_le (by unfold firsts; rw [List.length_take]; omega)]
  rfl
theorem young_more {w : World} {F F' : Addr → Value → Prop} (h : More F F') : More (Young w F) (Young w F') := fun a v hy => ⟨h a v hy.1, hy.2⟩
/-- a list of a bank's own payments that wait, in order where no two have one place -/
def OfX (ps : List PayS) (b : Int) : (Addr → Value → Prop) → Value → Prop := fun F v => ∃ ws a c, v = .slice a ws.length c ∧ ws.length ≤ c ∧ IntsAt F a ws ∧ (SeqsApart ps → ws = queueM ps b)
theorem ofX_mono (ps : List PayS) (b : Int) : Mono (OfX ps b) := by
  rintro F F' v hm ⟨ws, a, c, h1, h2, h3, h4⟩
  exact ⟨ws, a, c, h1, h2, h3.mono hm, h4⟩
theorem ofX_list {ps : List PayS} {b : Int} {F : Addr → Value → Prop} {e : Nat} {v : Value} {E : List (Nat × Obj)} (hk : Knows F E) (h : ∃ ws, ListE e 1 v ws.length (ws.map I) E ∧ (SeqsApart ps → ws = queueM ps b)) : OfX ps b F v := by
  obtain ⟨ws, h1, h2⟩ := h
  obtain ⟨a, c, h3, h4, h5⟩ := room_of_list h1 hk
  exact ⟨ws, a, c, h3, h4, h5, h2⟩
structure QG where
  k : Nat
  F : Addr → Value → Prop
  q : Int → SlS
theorem left_eqB {h : H} {b : Int} (hb : 0 ≤ b ∧ b < 4) : leftM h b = wr (h.has b + h.cred b) := by
  have : isBankB b = true := by unfold isBankB; rw [within_iff]; omega
  simp [leftM, this]
theorem net_eqB {h : H} {b t : Int} (hb : 0 ≤ b ∧ b < 4) (ht : 0 ≤ t ∧ t < 4) : netM h b t = wr (h.sent b t - h.sent t b) := by
  have h1 : isBankB b = true := by unfold isBankB; rw [within_iff]; omega
  have h2 : isBankB t = true := by unfold isBankB; rw [within_iff]; omega
  simp [netM, h1, h2]
theorem H.ex_limrow (h : H) {i : Int} (hi : 0 ≤ i ∧ i < 4) : h.cells.extract (0 + 24 + i.toNat * 4) (0 + 24 + i.toNat * 4 + 4) = rowA (h.lim i) := extq _ _ (by omega) (fun j hj => by
  have h1 : ((i.toNat : Nat) : Int) = i := by omega
  have e1 : (0 + 24 + i.toNat * 4 + j - 24) / 4 = i.toNat := by omega
  have e2 : (0 + 24 + i.toNat * 4 + j - 24) % 4 = j := by omega
  simp only [H.cell, matC, rowC, if_neg (show ¬ 0 + 24 + i.toNat * 4 + j < 8 by omega), if_neg (show ¬ 0 + 24 + i.toNat * 4 + j < 24 by omega), if_pos (show 0 + 24 + i.toNat * 4 + j < 40 by omega), e1, e2, h1])
theorem within_low {n m : Int} (h : n < 0) : withinB n 0 m = false := by
  unfold withinB
  rw [decide_eq_false (by omega)]; rfl
theorem within_high {n m : Int} (h : m < n) : withinB n 0 m = false := by
  unfold withinB
  rw [decide_eq_false (p := n ≤ m) (by omega), Bool.and_false]
theorem tog_stuck {h : H} {ps : List PayS} {n : Int → Int} (hg : goodB h ps = true) (hs : ∀ b : Int, 0 ≤ b ∧ b < 4 → 0 ≤ n b ∧ n b ≤ (queueM ps b).length) : (!(stuckM (movesTo h ps n 4) n).2) = togetherM h ps n := by
  cases hc : (stuckM (movesTo h ps n 4) n).2
  · exact (tog_all hg (fun b hb => within_iff.2 (hs b hb)) (stuck_false hc)).symm
  · obtain ⟨h1, h2⟩ := stuck_true hc
    obtain ⟨h3, h4⟩ := stuckC_spec h2
    exact (tog_ok h1 h3 h4).symm
theorem untie_bad {h : H} {ps : List PayS} (hg : goodB h ps = false) : untieM h ps = ⟨h, ps, []⟩ := by
  have e : untieXs h ps = [] := by simp [untieXs, firsts, mostM_bad hg]
  unfold untieM
  rw [e]
  rfl
/-- a function with two results in slots -/
theorem n_doneII {P : Program} {f : Nat → Value} {w0 : World} {F : Addr → Value → Prop} {L : List (Nat × Obj)} {fn : Func} {n t t2 : Nat} {v : Value} (hr : fn.results = #[.tmp t, .tmp t2]) (ht : t < n) (ht2 : t2 < n) (hv : .tuple #[f t, f t2] = v) :
    nC (retQ P fn n (fun v' w' => v' = v ∧ Bel w0.heap.size w0 w')) .ret f (Has w0 F L) := fun w hw => by
  refine ⟨.tuple #[f t, f t2], ?_, hv, hw.1⟩
  have e : (Fa n f).tmps[t]?.getD undef = f t := by simp [Fa, ht]
  have e2 : (Fa n f).tmps[t2]?.getD undef = f t2 := by simp [Fa, ht2]
  simp [results, hr, e, e2]
end Go.Proofs.Ytmkboljfbmlebaa
/- Contracts of the lists of all banks and of a bank that stands. Condition: the payments lie in memory that is known. -/
namespace Go.Proofs.Ytmkboljfbmlebaa
open Go.RowKit
set_option linter.unusedSimpArgs false
set_option linter.unusedVariables false
set_option maxRecDepth 100000
attribute [local irreducible] cC sC nC rC qw

theorem gx_Of (h : H) (ps : List PayS) (bank : Int) (w : World) (hp : PaysIn (At w) h.pa h.pl ps) (hb : h.pl * 48 ≤ 281474976710656) (hlc : h.pl ≤ h.pc) (hbk : 0 ≤ bank ∧ bank < 4) : GivesE Try.prog 36 [.agg h.cells, I bank] w (fun v E => ∃ ws, ListE 3 1 v ws.length (ws.map I) E ∧ (SeqsApart ps → ws = queueM ps bank)) := by
  refine givesE_of Try.func36 rfl Try.ntmps36 (by simp) ?_
  refine r_seq (by kernel_rfl) ?_
  refine s_box (v := .agg _) rfl (fun b2 => ?_)
  refine s_val (v_assign (v := .slice _ _ _) rfl) ?_
  refine s_nil ?_
  refine c_seq ?_
  refine r_seq (by kernel_rfl) ?_
  refine s_val (v_move (v := .int .i64 _) rfl) ?_
  refine s_val (v_lss (k := .i64) rfl rfl) ?_
  refine s_val (v_move (v := .bool _) rfl) ?_
  refine s_split (s := 10) rfl (fun h10 => ?_) (fun h10 => ?_)
  · refine s_pass rfl rfl h10 ?_
    refine s_pass rfl rfl h10 ?_
    refine s_val (v_pickT (v := .bool _) rfl h10 rfl) ?_
    refine s_nil ?_
    refine c_condTh rfl rfl rfl ?_
    refine r_seq (by kernel_rfl) ?_
    refine s_val (v_assign (v := .slice _ _ _) rfl) ?_
    refine s_nil ?_
    refine c_ret ?_
    refine n_ret ?_
    exfalso
    have := of_decide_eq_true h10
    omega
  refine s_want rfl rfl h10 ?_
  refine s_val (v_move (v := .int .i64 _) rfl) ?_
  refine s_want rfl rfl h10 ?_
  refine s_val (v_geq (k := .i64) rfl rfl) ?_
  refine s_val (v_pickF (v := .bool _) rfl h10 rfl) ?_
  refine s_nil ?_
  refine c_cond rfl rfl (fun h13 => ?_) (fun h13 => ?_)
  · refine r_seq (by kernel_rfl) ?_
    refine s_val (v_assign (v := .slice _ _ _) rfl) ?_
    refine s_nil ?_
    refine c_ret ?_
    refine n_ret ?_
    exfalso
    have := of_decide_eq_true h13
    omega
  refine c_skip ?_
  refine n_then ?_
  refine r_seq (by kernel_rfl) ?_
  refine s_val (v_assign (v := .slice _ _ _) rfl) ?_
  refine s_nil ?_
  refine c_seq ?_
  refine r_seq (by kernel_rfl) ?_
  refine s_val (v_field (fo := 40) (by kernel_rfl) rfl) ?_
  refine s_val (v_load1 (v := .slice _ _ _) (by kernel_rfl) rfl .here (H.at_pays _)) ?_
  refine s_val (v_lenS (T := 27) (m := 6) (by kernel_rfl) rfl rfl) ?_
  refine s_val (v_move (v := .int .i64 _) rfl) ?_
  refine s_nil ?_
  refine c_block ?_
  refine c_loop (σ := Nat × Value × List (Nat × Obj)) (fun ((k, v, E) : Nat × Value × List (Nat × Obj)) f => ∃ g, (k ≤ h.pl ∧ ListE 3 1 v (waitTo ps bank k).length ((waitTo ps bank k).map I) E) ∧ f = (upd (upd (upd (upd (upd (upd g 1 (I bank)) 2 (.pointer (some ⟨b2, 0, none⟩))) 5 (v)) 15 (.slice h.pa h.pl h.pc)) 16 (I h.pl)) 17 (I k))) (fun ((k, v, E) : Nat × Value × List (Nat × Obj)) => Has w (At w) (E ++ [(b2, .cells h.cells 29)])) (fun ((k, v, E) : Nat × Value × List (Nat × Obj)) => h.pl - k) (0, .slice none 0 0, []) ⟨_, ⟨Nat.zero_le _, listE_nil _ _⟩, live6 rfl rfl rfl rfl rfl rfl⟩ (fun w hw => hw) ?_
  rintro ⟨k, v, E⟩ _ ⟨g, ⟨hkl, hE⟩, rfl⟩
  refine r_seq (by kernel_rfl) ?_
  refine s_val (v_lss (k := .i64) rfl rfl) ?_
  refine s_nil ?_
  refine c_seq ?_
  refine c_condR rfl rfl (fun h18 => ?_) (fun h18 => ?_)
  · obtain rfl : k = h.pl := by have := of_decide_eq_false h18; omega
    refine c_exit ?_
    refine n_exit ?_
    refine n_exit ?_
    refine n_bhere ?_
    refine n_then ?_
    refine r_seq (by kernel_rfl) ?_
    refine s_val (v_move (v := _) rfl) ?_
    refine s_val (v_makeFunc (vs := [.pointer (some ⟨b2, 0, none⟩)]) rfl) ?_
    refine s_sort (ps := ps) rfl rfl (enters_of Try.func71 (by kernel_rfl) rfl) hE (fun i hi => by have := ((wait_spec ps bank h.pl).2 i).1 hi; exact this.1.lt) (by have := wait_len ps bank h.pl; omega) (fun W hW i j p q hi hj hpi hpj => g_Of1 h ps b2 i j p q W (hp.at hW) ((cell_has hW .here).trans (H.at_pays h)) hi hj hpi hpj) (fun E38 ws38 hE38 hpm38 hso38 => ?_)
    have hlq38 : ws38.length = (waitTo ps bank h.pl).length := hpm38.length_eq
    refine s_nil ?_
    refine r_seq (by kernel_rfl) ?_
    refine s_val (v_move (v := _) rfl) ?_
    refine s_val (v_assign (v := _) rfl) ?_
    refine s_nil ?_
    refine c_ret ?_
    refine n_doneE rfl (by decide) ⟨ws38, ?_, fun hsa => sorted_queue hsa (by rw [hp.1]; exact hpm38) hso38⟩
    show ListE _ _ v _ _ E38
    exact hE38
  have hk0 := of_decide_eq_true h18
  obtain ⟨p, hpm, hd, ht⟩ := hp.get (k := k) (by omega)
  obtain ⟨b, o, hpa, hc⟩ := hp.some (k := k) (by omega)
  have hst0 := wait_step (bank := bank) hpm
  have hwl := wait_len ps bank k
  refine c_skip ?_
  refine n_then ?_
  refine c_seq ?_
  refine c_block ?_
  refine r_seq (by kernel_rfl) ?_
  refine s_val (v_move (v := .int .i64 _) rfl) ?_
  refine s_val (v_idxS (size := 6) (k := .i64) (by kernel_rfl) (congrArg (fun a => Value.slice a h.pl h.pc) hpa) rfl ⟨by omega, by omega⟩) ?_
  refine s_val (v_loadNo (cs := p.cells) (m := 6) (by kernel_rfl) rfl rfl (hc k p hpm)) ?_
  refine s_alloc (z := zeroOf Try.prog 36) (by kernel_rfl) (fun b7 => ?_)
  refine s_val (v_assign (v := .int .i64 _) rfl) ?_
  refine s_storeA (m := 6) (by kernel_rfl) rfl rfl .here (by kernel_rfl) rfl (PayS.all1 _) ?_
  refine s_nil ?_
  refine r_seq (by kernel_rfl) ?_
  refine s_val (v_field (fo := 0) (by kernel_rfl) rfl) ?_
  refine s_val (v_load1 (v := .int .i64 _) (by kernel_rfl) rfl .here rfl) ?_
  refine s_val (v_move (v := .int .i64 _) rfl) ?_
  refine s_val (v_eql (k := .i64) rfl rfl) ?_
  refine s_val (v_move (v := .bool _) rfl) ?_
  refine s_splitR (s := 26) rfl (fun h26 => ?_) (fun h26 => ?_)
  · have hst : waitTo ps bank (k + 1) = waitTo ps bank k := by rw [hst0]; simp only [*, Bool.true_and, Bool.false_and, Bool.and_true, Bool.and_false, Bool.not_true, Bool.not_false, Bool.true_or, Bool.or_true, Bool.false_or, Bool.or_false, cond_true, cond_false, if_true, if_false, Bool.false_eq_true, decide_true, decide_false]
    refine s_pass rfl rfl h26 ?_
    refine s_pass rfl rfl h26 ?_
    refine s_pass rfl rfl h26 ?_
    refine s_val (v_pickF (v := .bool _) rfl h26 rfl) ?_
    refine s_nil ?_
    refine c_condFh rfl rfl rfl ?_
    refine c_skip ?_
    refine n_bnormal ?_
    refine n_then ?_
    refine r_list (by kernel_rfl) ?_
    refine s_val (v_add rfl rfl (by omega)) ?_
    refine s_val (v_move (v := .int .i64 _) rfl) ?_
    refine s_end ?_
    refine n_round (s := (k, v, E)) (k + 1, v, E) ⟨_, ⟨by omega, by rw [hst]; exact hE⟩, live6 rfl rfl rfl rfl rfl rfl⟩ (fun _ hw => hw.tail) (by dsimp only; omega)
  refine s_want rfl rfl h26 ?_
  refine s_val (v_field (fo := 4) (by kernel_rfl) rfl) ?_
  refine s_want rfl rfl h26 ?_
  refine s_val (v_load1 (v := .int .i64 _) (by kernel_rfl) rfl .here rfl) ?_
  refine s_want rfl rfl h26 ?_
  refine s_val (v_eql (k := .i64) rfl rfl) ?_
  refine s_val (v_pickT (v := .bool _) rfl h26 rfl) ?_
  refine s_nil ?_
  refine c_condR rfl rfl (fun h30 => ?_) (fun h30 => ?_)
  · have hst : waitTo ps bank (k + 1) = waitTo ps bank k := by rw [hst0]; simp only [*, Bool.true_and, Bool.false_and, Bool.and_true, Bool.and_false, Bool.not_true, Bool.not_false, Bool.true_or, Bool.or_true, Bool.false_or, Bool.or_false, cond_true, cond_false, if_true, if_false, Bool.false_eq_true, decide_true, decide_false]
    refine c_skip ?_
    refine n_bnormal ?_
    refine n_then ?_
    refine r_list (by kernel_rfl) ?_
    refine s_val (v_add rfl rfl (by omega)) ?_
    refine s_val (v_move (v := .int .i64 _) rfl) ?_
    refine s_end ?_
    refine n_round (s := (k, v, E)) (k + 1, v, E) ⟨_, ⟨by omega, by rw [hst]; exact hE⟩, live6 rfl rfl rfl rfl rfl rfl⟩ (fun _ hw => hw.tail) (by dsimp only; omega)
  refine c_weak (fun _ hw => hw.tail) ?_
  have hst : waitTo ps bank (k + 1) = waitTo ps bank k ++ [(k : Int)] := by rw [hst0]; simp only [*, Bool.true_and, Bool.false_and, Bool.and_true, Bool.and_false, Bool.not_true, Bool.not_false, Bool.true_or, Bool.or_true, Bool.false_or, Bool.or_false, cond_true, cond_false, if_true, if_false, Bool.false_eq_true, decide_true, decide_false]
  refine r_list (by kernel_rfl) ?_
  refine s_val (v_move (v := _) rfl) ?_
  refine s_val (v_move (v := .int .i64 _) rfl) ?_
  refine s_build1 (v := .int .i64 _) (e := 3) (m := 1) (by_ := 8) (by kernel_rfl) rfl rfl rfl (fill_scalar rfl) (fun b33 => ?_)
  refine s_push (e := 3) (m := 1) (by_ := 8) (by kernel_rfl) rfl rfl rfl rfl rfl hE rfl (all_scalar rfl rfl) (by omega) (fun v34 E34 hE34 => ?_)
  refine s_val (v_assign (v := _) rfl) ?_
  refine s_end ?_
  refine n_bnormal ?_
  refine n_then ?_
  refine r_list (by kernel_rfl) ?_
  refine s_val (v_add rfl rfl (by omega)) ?_
  refine s_val (v_move (v := .int .i64 _) rfl) ?_
  refine s_end ?_
  refine n_round (s := (k, v, E)) (k + 1, v34, E34) ⟨_, ⟨by omega, by rw [hst, List.map_append, List.length_append]; exact hE34⟩, live6 rfl rfl rfl rfl rfl rfl⟩ (fun _ hw => hw) (by dsimp only; omega)

theorem g_queues (h : H) (ps : List PayS) (w : World) (hp : PaysIn (At w) h.pa h.pl ps) (hb : h.pl * 48 ≤ 281474976710656) (hlc : h.pl ≤ h.pc) : GivesF Try.prog 74 [.agg h.cells] w (QueuesF ps) := by
  refine givesF_of Try.func74 rfl Try.ntmps74 (by simp) ?_
  refine r_seq (by kernel_rfl) ?_
  refine s_box (v := .agg _) rfl (fun b1 => ?_)
  refine s_alloc (z := .agg (rowS noS)) (by kernel_rfl) (fun b2 => ?_)
  refine s_nil ?_
  refine r_seq (by kernel_rfl) ?_
  refine s_alloc (z := .agg (rowS noS)) (by kernel_rfl) (fun b3 => ?_)
  refine s_nil ?_
  refine c_seq ?_
  refine r_seq (by kernel_rfl) ?_
  refine s_val (v_move (v := .int .i64 _) rfl) ?_
  refine s_nil ?_
  refine c_block ?_
  refine c_loop (σ := QG) (fun (s : QG) f => ∃ g, (s.k ≤ 4 ∧ More (At w) s.F ∧ WaitIn ps s.q s.k (Young w s.F)) ∧ f = (upd (upd (upd (upd g 1 (.pointer (some ⟨b1, 0, none⟩))) 2 (.pointer (some ⟨b2, 0, none⟩))) 3 (.pointer (some ⟨b3, 0, none⟩))) 5 (I s.k))) (fun (s : QG) => Has w s.F [(b3, .cells (rowS s.q) 80), (b2, .cells (rowS noS) 80), (b1, .cells h.cells 29)]) (fun (s : QG) => 4 - s.k) ⟨0, At w, noS⟩ ⟨_, ⟨Nat.zero_le _, fun _ _ h => h, fun b h0 h1 => by dsimp only at h1; omega⟩, live4 rfl rfl rfl rfl⟩ (fun w hw => hw) ?_
  rintro s _ ⟨g, ⟨hkl, hmo, hwt⟩, rfl⟩
  refine r_seq (by kernel_rfl) ?_
  refine s_val (v_lss (k := .i64) rfl rfl) ?_
  refine s_nil ?_
  refine c_seq ?_
  refine c_condR rfl rfl (fun h6 => ?_) (fun h6 => ?_)
  · refine c_exit ?_
    refine n_exit ?_
    refine n_exit ?_
    refine n_bhere ?_
    refine n_then ?_
    refine r_seq (by kernel_rfl) ?_
    refine s_val (v_loadA (m := 4) (by kernel_rfl) rfl .here (rowS_size _)) ?_
    refine s_storeA (m := 4) (by kernel_rfl) rfl rfl (.there .here) (rowS_size _) (rowS_size _) (rowS_all _) ?_
    refine s_nil ?_
    refine c_ret ?_
    have hk4 : s.k = 4 := by have := of_decide_eq_false h6; omega
    rw [hk4] at hwt
    exact n_doneCF (m := 4) rfl (by decide) rfl (by kernel_rfl) (.there .here) (rowS_size _) (fun w hw => ⟨s.q, rfl, hwt.mono (young_fresh hw)⟩)
  have hk0 := of_decide_eq_true h6
  have hki : 0 ≤ (s.k : Int) ∧ (s.k : Int) < 4 := ⟨by omega, by omega⟩
  refine c_skip ?_
  refine n_then ?_
  refine c_seq ?_
  refine c_block ?_
  refine r_seq (by kernel_rfl) ?_
  refine s_val (v_move (v := .int .i64 _) rfl) ?_
  refine s_val (v_assign (v := .int .i64 _) rfl) ?_
  refine s_nil ?_
  refine r_list (by kernel_rfl) ?_
  refine s_val (v_move (v := .int .i64 _) rfl) ?_
  refine s_val (v_loadA (m := 42) (by kernel_rfl) rfl (.there (.there .here)) (H.size _)) ?_
  refine s_val (v_move (v := .int .i64 _) rfl) ?_
  refine s_callG (by kernel_rfl) (ofX_mono ps s.k) (fun w hw => (gx_Of h ps s.k w ((hp.mono hmo).at hw) hb hlc hki).toF (fun F v E hk hl => ofX_list hk hl)) (fun F11 v11 hF11 hR11 => ?_)
  obtain ⟨ws, a11, c11, rfl, hc11, ia11, hs11⟩ := hR11
  refine s_val (v_idxA (len := 4) (size := 1) (k := .i64) (by kernel_rfl) rfl rfl hki) ?_
  refine s_store1 (v := .slice _ _ _) (by kernel_rfl) rfl rfl .here (rowS_set _ hki) rfl ?_
  refine s_end ?_
  refine n_bnormal ?_
  refine n_then ?_
  refine r_list (by kernel_rfl) ?_
  refine s_val (v_add rfl rfl (by omega)) ?_
  refine s_val (v_move (v := .int .i64 _) rfl) ?_
  refine s_end ?_
  refine n_round (s := s) ⟨s.k + 1, F11, up1S s.q s.k ⟨a11, ws.length, c11⟩⟩ ⟨_, ⟨by dsimp only; omega, fun a v h => hF11 a v (hmo a v h), hwt.step (young_more hF11) rfl hc11 ia11 hs11⟩, live4 rfl rfl rfl rfl⟩ (fun _ hw => hw) (by dsimp only; omega)

theorem g_stands (h : H) (b : Int) (w : World) (hb4 : 0 ≤ b ∧ b < 4) (hlm : ∀ t : Int, 0 ≤ t ∧ t < 4 → -1 ≤ h.lim b t) : Gives Try.prog 86 [.agg h.cells, I b] w (.bool (okBank h b)) := by
  refine gives_of Try.func86 rfl Try.ntmps86 (by simp) ?_
  refine r_seq (by kernel_rfl) ?_
  refine s_box (v := .agg _) rfl (fun b2 => ?_)
  refine s_val (v_assign (v := .bool _) rfl) ?_
  refine s_nil ?_
  refine c_seq ?_
  refine r_seq (by kernel_rfl) ?_
  refine s_val (v_loadA (m := 42) (by kernel_rfl) rfl .here (H.size _)) ?_
  refine s_val (v_move (v := .int .i64 _) rfl) ?_
  refine s_call (by kernel_rfl) (fun w hw => g_Left _ _ w) ?_
  refine s_val (v_lss (k := .i64) rfl rfl) ?_
  refine s_nil ?_
  refine c_cond rfl rfl (fun h10 => ?_) (fun h10 => ?_)
  · refine r_seq (by kernel_rfl) ?_
    refine s_val (v_assign (v := .bool _) rfl) ?_
    refine s_nil ?_
    refine c_ret ?_
    refine n_ret ?_
    refine n_done rfl (by decide) (Eq.trans (b := .bool _) rfl (congrArg Value.bool ?_))
    exact (ok_left (by rw [← left_eqB hb4]; exact of_decide_eq_true h10)).symm
  refine c_skip ?_
  refine n_then ?_
  refine c_seq ?_
  refine r_seq (by kernel_rfl) ?_
  refine s_val (v_move (v := .int .i64 _) rfl) ?_
  refine s_val (v_field (fo := 24) (by kernel_rfl) rfl) ?_
  refine s_val (v_idxA (len := 4) (size := 4) (k := .i64) (by kernel_rfl) rfl rfl (by assumption)) ?_
  refine s_val (v_loadN (m := 4) (cs' := rowA _) (by kernel_rfl) rfl .here (rowA_size _) (H.ex_limrow _ (by assumption))) ?_
  refine s_val (v_move (v := .int .i64 _) rfl) ?_
  refine s_nil ?_
  refine c_block ?_
  refine c_loop (σ := Nat) (fun (m : Nat) f => ∃ g, (m ≤ 4 ∧ ∀ t : Int, 0 ≤ t → t < m → ¬ (0 ≤ h.lim b t ∧ h.lim b t < wr (h.sent b t - h.sent t b))) ∧ f = (upd (upd (upd (upd g 1 (I b)) 2 (.pointer (some ⟨b2, 0, none⟩))) 14 (.agg (rowA (h.lim b)))) 15 (I m))) (fun (m : Nat) => Has w (At w) [(b2, .cells h.cells 29)]) (fun (m : Nat) => 4 - m) 0 ⟨_, ⟨Nat.zero_le _, fun t h0 h1 => by omega⟩, live4 rfl rfl rfl rfl⟩ (fun w hw => hw) ?_
  rintro m _ ⟨g, ⟨hml, hlo⟩, rfl⟩
  refine r_seq (by kernel_rfl) ?_
  refine s_val (v_lss (k := .i64) rfl rfl) ?_
  refine s_nil ?_
  refine c_seq ?_
  refine c_condR rfl rfl (fun h16 => ?_) (fun h16 => ?_)
  · refine c_exit ?_
    refine n_exit ?_
    refine n_exit ?_
    refine n_bhere ?_
    refine n_then ?_
    refine r_seq (by kernel_rfl) ?_
    refine s_val (v_assign (v := .bool _) rfl) ?_
    refine s_nil ?_
    refine c_ret ?_
    refine n_done rfl (by decide) (Eq.trans (b := .bool _) rfl (congrArg Value.bool ?_))
    exact (ok_all (by rw [← left_eqB hb4]; exact of_decide_eq_false h10) (fun t ht => hlo t ht.1 (by have := of_decide_eq_false h16; omega))).symm
  have hk0 := of_decide_eq_true h16
  have hm : 0 ≤ (m : Int) ∧ (m : Int) < 4 := ⟨by omega, by omega⟩
  refine c_skip ?_
  refine n_then ?_
  refine c_seq ?_
  refine c_block ?_
  refine r_seq (by kernel_rfl) ?_
  refine s_val (v_move (v := .int .i64 _) rfl) ?_
  refine s_val (v_indexS (len := 4) (t := 3) (m := 1) (k := .i64) (v := .int .i64 _) (by kernel_rfl) (by kernel_rfl) rfl rfl (by assumption) (rowA_at _ (by assumption))) ?_
  refine s_val (v_assign (v := .int .i64 _) rfl) ?_
  refine s_val (v_assign (v := .int .i64 _) rfl) ?_
  refine s_nil ?_
  refine r_seq (by kernel_rfl) ?_
  refine s_val (v_move (v := .int .i64 _) rfl) ?_
  refine s_val (v_move (v := .int .i64 _) rfl) ?_
  refine s_val (v_neq (k := .i64) rfl rfl) ?_
  refine s_val (v_move (v := .bool _) rfl) ?_
  refine s_splitNR (s := 22) rfl (fun h22 => ?_) (fun h22 => ?_)
  · refine s_pass rfl rfl (congrArg not h22) ?_
    refine s_pass rfl rfl (congrArg not h22) ?_
    refine s_val (v_pickF (v := .bool _) rfl (congrArg not h22) rfl) ?_
    refine s_val (v_move (v := .bool _) rfl) ?_
    refine s_pass (g := false) rfl rfl rfl ?_
    refine s_pass (g := false) rfl rfl rfl ?_
    refine s_pass (g := false) rfl rfl rfl ?_
    refine s_pass (g := false) rfl rfl rfl ?_
    refine s_pass (g := false) rfl rfl rfl ?_
    refine s_pass (g := false) rfl rfl rfl ?_
    refine s_val (v_pickF (v := .bool _) rfl rfl rfl) ?_
    refine s_nil ?_
    refine c_condFh rfl rfl rfl ?_
    refine c_skip ?_
    refine n_bnormal ?_
    refine n_then ?_
    refine r_list (by kernel_rfl) ?_
    refine s_val (v_add rfl rfl (by omega)) ?_
    refine s_val (v_move (v := .int .i64 _) rfl) ?_
    refine s_end ?_
    refine n_round (m + 1) ⟨_, ⟨by omega, fun t h0 h1 => by
      by_cases e : t = (m : Int)
      · subst e; exact fun h => ok_other hb4 (of_decide_eq_true h22) h.1 h.2
      · exact hlo t h0 (by omega)⟩, live4 rfl rfl rfl rfl⟩ (fun _ hw => hw) (by omega)
  refine s_want rfl rfl (congrArg not h22) ?_
  refine s_val (v_move (v := .int .i64 _) rfl) ?_
  refine s_want rfl rfl (congrArg not h22) ?_
  refine s_val (v_neq (k := .i64) rfl rfl) ?_
  refine s_val (v_pickT (v := .bool _) rfl (congrArg not h22) rfl) ?_
  refine s_val (v_move (v := .bool _) rfl) ?_
  refine s_splitNR (s := 26) rfl (fun h26 => ?_) (fun h26 => ?_)
  · refine s_pass rfl rfl (congrArg not h26) ?_
    refine s_pass rfl rfl (congrArg not h26) ?_
    refine s_pass rfl rfl (congrArg not h26) ?_
    refine s_pass rfl rfl (congrArg not h26) ?_
    refine s_pass rfl rfl (congrArg not h26) ?_
    refine s_pass rfl rfl (congrArg not h26) ?_
    refine s_val (v_pickF (v := .bool _) rfl (congrArg not h26) rfl) ?_
    refine s_nil ?_
    refine c_condFh rfl rfl rfl ?_
    refine c_skip ?_
    refine n_bnormal ?_
    refine n_then ?_
    refine r_list (by kernel_rfl) ?_
    refine s_val (v_add rfl rfl (by omega)) ?_
    refine s_val (v_move (v := .int .i64 _) rfl) ?_
    refine s_end ?_
    refine n_round (m + 1) ⟨_, ⟨by omega, fun t h0 h1 => by
      by_cases e : t = (m : Int)
      · subst e; exact fun h => by have := of_decide_eq_true h26; omega
      · exact hlo t h0 (by omega)⟩, live4 rfl rfl rfl rfl⟩ (fun _ hw => hw) (by omega)
  refine s_want rfl rfl (congrArg not h26) ?_
  refine s_val (v_loadA (m := 42) (by kernel_rfl) rfl .here (H.size _)) ?_
  refine s_want rfl rfl (congrArg not h26) ?_
  refine s_val (v_move (v := .int .i64 _) rfl) ?_
  refine s_want rfl rfl (congrArg not h26) ?_
  refine s_val (v_move (v := .int .i64 _) rfl) ?_
  refine s_want rfl rfl (congrArg not h26) ?_
  refine s_call (by kernel_rfl) (fun w hw => g_Net _ _ _ w) ?_
  refine s_want rfl rfl (congrArg not h26) ?_
  refine s_val (v_move (v := .int .i64 _) rfl) ?_
  refine s_want rfl rfl (congrArg not h26) ?_
  refine s_val (v_gtr (k := .i64) rfl rfl) ?_
  refine s_val (v_pickT (v := .bool _) rfl (congrArg not h26) rfl) ?_
  refine s_nil ?_
  refine c_condR rfl rfl (fun h33 => ?_) (fun h33 => ?_)
  · refine c_skip ?_
    refine n_bnormal ?_
    refine n_then ?_
    refine r_list (by kernel_rfl) ?_
    refine s_val (v_add rfl rfl (by omega)) ?_
    refine s_val (v_move (v := .int .i64 _) rfl) ?_
    refine s_end ?_
    refine n_round (m + 1) ⟨_, ⟨by omega, fun t h0 h1 => by
      by_cases e : t = (m : Int)
      · subst e; exact fun h => absurd (by rw [net_eqB hb4 hm]; exact h.2) (of_decide_eq_false h33)
      · exact hlo t h0 (by omega)⟩, live4 rfl rfl rfl rfl⟩ (fun _ hw => hw) (by omega)
  refine r_seq (by kernel_rfl) ?_
  refine s_val (v_assign (v := .bool _) rfl) ?_
  refine s_nil ?_
  refine c_ret ?_
  refine n_bret ?_
  refine n_ret ?_
  refine n_ret ?_
  refine n_bret ?_
  refine n_ret ?_
  refine n_done rfl (by decide) (Eq.trans (b := .bool _) rfl (congrArg Value.bool ?_))
  exact (ok_lim hm (by have := of_decide_eq_false h26; have := hlm m hm; omega) (by rw [← net_eqB hb4 hm]; exact of_decide_eq_true h33)).symm

end Go.Proofs.Ytmkboljfbmlebaa
/- Contracts of what may be done together and of the most. Condition: the payments lie in memory that is known. -/
namespace Go.Proofs.Ytmkboljfbmlebaa
open Go.RowKit
set_option linter.unusedSimpArgs false
set_option linter.unusedVariables false
set_option maxRecDepth 100000
attribute [local irreducible] cC sC nC rC qw

set_option maxHeartbeats 1000000 in
theorem g_stuck (h : H) (ps : List PayS) (q : Int → SlS) (n : Int → Int) (w : World) (hp : PaysIn (At w) h.pa h.pl ps) (hb : h.pl * 48 ≤ 281474976710656) (hlc : h.pl ≤ h.pc) (hg : goodB h ps = true) (hq : WaitIn ps q 4 (At w)) (hn : ∀ b : Int, 0 ≤ b ∧ b < 4 → 0 ≤ n b ∧ n b ≤ (queueM ps b).length) : Gives Try.prog 75 [.agg h.cells, .agg (rowS q), .agg (rowA n)] w (.tuple #[I (stuckM (movesTo h ps n 4) n).1, .bool (stuckM (movesTo h ps n 4) n).2]) := by
  refine gives_of Try.func75 rfl Try.ntmps75 (by simp) ?_
  refine r_seq (by kernel_rfl) ?_
  refine s_box (v := .agg _) rfl (fun b3 => ?_)
  refine s_box (v := .agg _) rfl (fun b4 => ?_)
  refine s_box (v := .agg _) rfl (fun b5 => ?_)
  refine s_val (v_assign (v := .int .i64 _) rfl) ?_
  refine s_val (v_assign (v := .bool _) rfl) ?_
  refine s_nil ?_
  refine c_seq ?_
  refine r_seq (by kernel_rfl) ?_
  refine s_val (v_loadA (m := 4) (by kernel_rfl) rfl .here (rowA_size _)) ?_
  refine s_val (v_move (v := .int .i64 _) rfl) ?_
  refine s_nil ?_
  refine c_block ?_
  refine c_loop (σ := Nat) (fun (k : Nat) f => ∃ g, (k ≤ 4) ∧ f = (upd (upd (upd (upd (upd g 3 (.pointer (some ⟨b3, 0, none⟩))) 4 (.pointer (some ⟨b4, 0, none⟩))) 5 (.pointer (some ⟨b5, 0, none⟩))) 15 (.agg (rowA n))) 16 (I k))) (fun (k : Nat) => Has w (At w) [(b5, .cells (rowA n) 25), (b4, .cells (rowS q) 80), (b3, .cells (movesTo h ps n k).cells 29)]) (fun (k : Nat) => 4 - k) 0 ⟨_, Nat.zero_le _, live5 rfl rfl rfl rfl rfl⟩ (fun w hw => hw) ?_
  rintro k _ ⟨g, hkl, rfl⟩
  refine r_seq (by kernel_rfl) ?_
  refine s_val (v_lss (k := .i64) rfl rfl) ?_
  refine s_nil ?_
  refine c_seq ?_
  refine c_cond rfl rfl (fun h17 => ?_) (fun h17 => ?_)
  · have hk0 := of_decide_eq_true h17
    have hki : 0 ≤ (k : Int) ∧ (k : Int) < 4 := ⟨by omega, by omega⟩
    have hwg := hq.get (good_pays hg).2.1 hki
    have hnk := hn k hki
    have hqk := queueM_len ps k
    have hl24 := (good_pays hg).2.2
    refine c_skip ?_
    refine n_then ?_
    refine c_seq ?_
    refine c_block ?_
    refine r_seq (by kernel_rfl) ?_
    refine s_val (v_move (v := .int .i64 _) rfl) ?_
    refine s_val (v_indexS (len := 4) (t := 3) (m := 1) (k := .i64) (v := .int .i64 _) (by kernel_rfl) (by kernel_rfl) rfl rfl hki (rowA_at _ hki)) ?_
    refine s_val (v_assign (v := .int .i64 _) rfl) ?_
    refine s_val (v_assign (v := .int .i64 _) rfl) ?_
    refine s_nil ?_
    refine r_seq (by kernel_rfl) ?_
    refine s_val (v_move (v := .int .i64 _) rfl) ?_
    refine s_val (v_idxA (len := 4) (size := 1) (k := .i64) (by kernel_rfl) rfl rfl hki) ?_
    refine s_val (v_load1 (v := .slice _ _ _) (by kernel_rfl) rfl (.there .here) (rowS_at0 _ hki)) ?_
    refine s_val (v_move (v := .int .i64 _) rfl) ?_
    refine s_val (v_sliceHi (m := 1) (by kernel_rfl) rfl rfl ⟨by omega, by omega⟩) ?_
    refine s_val (v_lenS (T := 43) (m := 1) (by kernel_rfl) rfl rfl) ?_
    refine s_val (v_move (v := .int .i64 _) rfl) ?_
    refine s_nil ?_
    refine c_block ?_
    refine c_loop (σ := Nat) (fun (j : Nat) f => ∃ g, (j ≤ (n k).toNat) ∧ f = (upd (upd (upd (upd (upd (upd (upd (upd g 3 (.pointer (some ⟨b3, 0, none⟩))) 4 (.pointer (some ⟨b4, 0, none⟩))) 5 (.pointer (some ⟨b5, 0, none⟩))) 15 (.agg (rowA n))) 16 (I k)) 24 (.slice (q k).a (n k).toNat (q k).c)) 25 (I (n k).toNat)) 26 (I j))) (fun (j : Nat) => Has w (At w) [(b5, .cells (rowA n) 25), (b4, .cells (rowS q) 80), (b3, .cells (moveQ ps k (movesTo h ps n k) ((queueM ps k).take j)).cells 29)]) (fun (j : Nat) => (n k).toNat - j) 0 ⟨_, Nat.zero_le _, live8 rfl rfl rfl rfl rfl rfl rfl rfl⟩ (fun w hw => hw) ?_
    rintro j _ ⟨g, hjl, rfl⟩
    refine r_seq (by kernel_rfl) ?_
    refine s_val (v_lss (k := .i64) rfl rfl) ?_
    refine s_nil ?_
    refine c_seq ?_
    refine c_condR rfl rfl (fun h27 => ?_) (fun h27 => ?_)
    · have hjj : j = (n k).toNat := by have := of_decide_eq_false h27; omega
      refine c_exit ?_
      refine n_exit ?_
      refine n_exit ?_
      refine n_bhere ?_
      refine n_bnormal ?_
      refine n_then ?_
      refine r_list (by kernel_rfl) ?_
      refine s_val (v_add rfl rfl (by omega)) ?_
      refine s_val (v_move (v := .int .i64 _) rfl) ?_
      refine s_end ?_
      refine n_round (k + 1) ⟨_, (by omega), live5 rfl rfl rfl rfl rfl⟩ (fun _ hw => by rw [hjj] at hw; exact hw) (by omega)
    have hj0 := of_decide_eq_true h27
    obtain ⟨bq, oq, i, haq, hi, hfi⟩ := hwg.2.2.get (j := j) (by omega)
    obtain ⟨p, hst, hpi, hsta, hsrc⟩ := (queueM_mine (List.mem_of_getElem? hi)).settles
    have hi0 := (settles_spec hst).1
    have hil : i.toNat < h.pl := by have := (List.getElem?_eq_some_iff.1 hpi).1; have := hp.1; omega
    obtain ⟨bp, op, hpa, hc⟩ := hp.some hil
    have hxs : Value.slice (moveQ ps k (movesTo h ps n k) ((queueM ps k).take j)).pa (moveQ ps k (movesTo h ps n k) ((queueM ps k).take j)).pl (moveQ ps k (movesTo h ps n k) ((queueM ps k).take j)).pc = .slice (some ⟨bp, op, none⟩) h.pl h.pc := by
      obtain ⟨_, e1, e2, e3⟩ := moveQ_lim ps k ((queueM ps k).take j) (movesTo h ps n k)
      obtain ⟨_, e4, e5, e6⟩ := movesTo_lim h ps n k
      rw [e1, e2, e3, e4, e5, e6, hpa]
    refine c_skip ?_
    refine n_then ?_
    refine c_seq ?_
    refine c_block ?_
    refine r_seq (by kernel_rfl) ?_
    refine s_val (v_idxS (size := 1) (k := .i64) (by kernel_rfl) (congrArg (fun a => Value.slice a (n k).toNat (q k).c) haq) rfl ⟨by omega, by omega⟩) ?_
    refine s_val (v_load1o (v := I i) (by kernel_rfl) rfl (by simpa using hfi)) ?_
    refine s_val (v_assign (v := .int .i64 _) rfl) ?_
    refine s_nil ?_
    refine r_seq (by kernel_rfl) ?_
    refine s_val (v_field (fo := 40) (by kernel_rfl) rfl) ?_
    refine s_val (v_load1 (v := .slice _ _ _) (by kernel_rfl) rfl (.there (.there .here)) (H.at_pays _)) ?_
    refine s_val (v_move (v := .int .i64 _) rfl) ?_
    refine s_val (v_idxS (size := 6) (k := .i64) (by kernel_rfl) hxs rfl ⟨by omega, by omega⟩) ?_
    refine s_val (v_loadNo (cs := p.cells) (m := 6) (by kernel_rfl) rfl rfl (hc _ p hpi)) ?_
    refine s_alloc (z := zeroOf Try.prog 36) (by kernel_rfl) (fun b12 => ?_)
    refine s_storeA (m := 6) (by kernel_rfl) rfl rfl .here (by kernel_rfl) rfl (PayS.all1 _) ?_
    refine s_nil ?_
    refine r_list (by kernel_rfl) ?_
    refine s_val (v_loadA (m := 42) (by kernel_rfl) rfl (.there (.there (.there .here))) (H.size _)) ?_
    refine s_val (v_field (fo := 0) (by kernel_rfl) rfl) ?_
    refine s_val (v_load1 (v := .int .i64 _) (by kernel_rfl) rfl .here rfl) ?_
    refine s_val (v_field (fo := 1) (by kernel_rfl) rfl) ?_
    refine s_val (v_load1 (v := .int .i64 _) (by kernel_rfl) rfl .here rfl) ?_
    refine s_val (v_field (fo := 2) (by kernel_rfl) rfl) ?_
    refine s_val (v_load1 (v := .int .i64 _) (by kernel_rfl) rfl .here rfl) ?_
    refine s_call (by kernel_rfl) (fun w hw => g_Move _ _ _ _ w) ?_
    refine s_storeA (m := 42) (by kernel_rfl) rfl rfl (.there (.there (.there .here))) (H.size _) (H.size _) (H.all1 _) ?_
    refine s_end ?_
    refine n_bnormal ?_
    refine n_then ?_
    refine r_list (by kernel_rfl) ?_
    refine s_val (v_add rfl rfl (by omega)) ?_
    refine s_val (v_move (v := .int .i64 _) rfl) ?_
    refine s_end ?_
    refine n_round (j + 1) ⟨_, (by omega), live8 rfl rfl rfl rfl rfl rfl rfl rfl⟩ (fun _ hw => by rw [moveQ_take hi hpi]; rw [hsrc] at hw; exact hw.tail) (by omega)
  have hk4 : k = 4 := by have := of_decide_eq_false h17; omega
  refine c_exit ?_
  refine n_exit ?_
  refine n_exit ?_
  refine n_bhere ?_
  refine n_then ?_
  refine c_seq ?_
  refine r_seq (by kernel_rfl) ?_
  refine s_val (v_loadA (m := 4) (by kernel_rfl) rfl .here (rowA_size _)) ?_
  refine s_val (v_move (v := .int .i64 _) rfl) ?_
  refine s_nil ?_
  refine c_block ?_
  refine c_loop (σ := Nat) (fun (k : Nat) f => ∃ g, (k ≤ 4 ∧ ∀ b : Int, 0 ≤ b → b < k → stuckC (movesTo h ps n 4) n b = false) ∧ f = (upd (upd (upd (upd (upd g 3 (.pointer (some ⟨b3, 0, none⟩))) 4 (.pointer (some ⟨b4, 0, none⟩))) 5 (.pointer (some ⟨b5, 0, none⟩))) 45 (.agg (rowA n))) 46 (I k))) (fun (k : Nat) => Has w (At w) [(b5, .cells (rowA n) 25), (b4, .cells (rowS q) 80), (b3, .cells (movesTo h ps n 4).cells 29)]) (fun (k : Nat) => 4 - k) 0 ⟨_, ⟨Nat.zero_le _, fun b h0 h1 => by omega⟩, live5 rfl rfl rfl rfl rfl⟩ (fun w hw => by rw [hk4] at hw; exact hw) ?_
  rintro k _ ⟨g, ⟨hkl2, hlo⟩, rfl⟩
  refine r_seq (by kernel_rfl) ?_
  refine s_val (v_lss (k := .i64) rfl rfl) ?_
  refine s_nil ?_
  refine c_seq ?_
  refine c_condR rfl rfl (fun h47 => ?_) (fun h47 => ?_)
  · refine c_exit ?_
    refine n_exit ?_
    refine n_exit ?_
    refine n_bhere ?_
    refine n_then ?_
    refine r_seq (by kernel_rfl) ?_
    refine s_val (v_assign (v := .int .i64 _) rfl) ?_
    refine s_val (v_assign (v := .bool _) rfl) ?_
    refine s_nil ?_
    refine c_ret ?_
    refine n_doneII rfl (by decide) (by decide) ?_
    rw [stuck_none (x := (movesTo h ps n 4)) (n := n) (fun b h0 h1 => hlo b h0 (by have := of_decide_eq_false h47; omega))]
    rfl
  have hk0 := of_decide_eq_true h47
  have hki : 0 ≤ (k : Int) ∧ (k : Int) < 4 := ⟨by omega, by omega⟩
  refine c_skip ?_
  refine n_then ?_
  refine c_seq ?_
  refine c_block ?_
  refine r_seq (by kernel_rfl) ?_
  refine s_val (v_move (v := .int .i64 _) rfl) ?_
  refine s_val (v_indexS (len := 4) (t := 3) (m := 1) (k := .i64) (v := .int .i64 _) (by kernel_rfl) (by kernel_rfl) rfl rfl hki (rowA_at _ hki)) ?_
  refine s_val (v_assign (v := .int .i64 _) rfl) ?_
  refine s_val (v_assign (v := .int .i64 _) rfl) ?_
  refine s_nil ?_
  refine r_seq (by kernel_rfl) ?_
  refine s_val (v_move (v := .int .i64 _) rfl) ?_
  refine s_val (v_neq (k := .i64) rfl rfl) ?_
  refine s_val (v_move (v := .bool _) rfl) ?_
  refine s_splitNR (s := 52) rfl (fun h52 => ?_) (fun h52 => ?_)
  · refine s_pass rfl rfl (congrArg not h52) ?_
    refine s_pass rfl rfl (congrArg not h52) ?_
    refine s_pass rfl rfl (congrArg not h52) ?_
    refine s_pass rfl rfl (congrArg not h52) ?_
    refine s_val (v_pickF (v := .bool _) rfl (congrArg not h52) rfl) ?_
    refine s_nil ?_
    refine c_condFh rfl rfl rfl ?_
    refine c_skip ?_
    refine n_bnormal ?_
    refine n_then ?_
    refine r_list (by kernel_rfl) ?_
    refine s_val (v_add rfl rfl (by omega)) ?_
    refine s_val (v_move (v := .int .i64 _) rfl) ?_
    refine s_end ?_
    refine n_round (k + 1) ⟨_, ⟨by omega, fun b h0 h1 => by
      by_cases e : b = (k : Int)
      · subst e; unfold stuckC; rw [decide_eq_true (of_decide_eq_true h52)]; rfl
      · exact hlo b h0 (by omega)⟩, live5 rfl rfl rfl rfl rfl⟩ (fun _ hw => hw) (by omega)
  refine s_want rfl rfl (congrArg not h52) ?_
  refine s_val (v_loadA (m := 42) (by kernel_rfl) rfl (.there (.there .here)) (H.size _)) ?_
  refine s_want rfl rfl (congrArg not h52) ?_
  refine s_val (v_move (v := .int .i64 _) rfl) ?_
  refine s_want rfl rfl (congrArg not h52) ?_
  refine s_call (by kernel_rfl) (fun w hw => g_stands _ _ w hki (fun t ht => by rw [(movesTo_lim h ps n 4).1]; exact ((good_of hg).lim _ t hki ht).1)) ?_
  refine s_want rfl rfl (congrArg not h52) ?_
  refine s_val (v_not rfl) ?_
  refine s_val (v_pickT (v := .bool _) rfl (congrArg not h52) rfl) ?_
  refine s_nil ?_
  refine c_condNR rfl rfl (fun h57 => ?_) (fun h57 => ?_)
  · refine c_skip ?_
    refine n_bnormal ?_
    refine n_then ?_
    refine r_list (by kernel_rfl) ?_
    refine s_val (v_add rfl rfl (by omega)) ?_
    refine s_val (v_move (v := .int .i64 _) rfl) ?_
    refine s_end ?_
    refine n_round (k + 1) ⟨_, ⟨by omega, fun b h0 h1 => by
      by_cases e : b = (k : Int)
      · subst e; unfold stuckC; rw [h57]; simp
      · exact hlo b h0 (by omega)⟩, live5 rfl rfl rfl rfl rfl⟩ (fun _ hw => hw) (by omega)
  refine r_seq (by kernel_rfl) ?_
  refine s_val (v_move (v := .int .i64 _) rfl) ?_
  refine s_val (v_assign (v := .int .i64 _) rfl) ?_
  refine s_val (v_assign (v := .bool _) rfl) ?_
  refine s_nil ?_
  refine c_ret ?_
  refine n_bret ?_
  refine n_ret ?_
  refine n_ret ?_
  refine n_bret ?_
  refine n_ret ?_
  refine n_doneII rfl (by decide) (by decide) ?_
  rw [stuck_at (x := (movesTo h ps n 4)) (n := n) (by omega) hlo (by unfold stuckC; rw [h57, decide_eq_false (of_decide_eq_false h52)]; rfl)]
  rfl

theorem g_Together (h : H) (ps : List PayS) (n : Int → Int) (w : World) (hp : PaysIn (At w) h.pa h.pl ps) (hb : h.pl * 48 ≤ 281474976710656) (hlc : h.pl ≤ h.pc) : Gives Try.prog 43 [.agg h.cells, .agg (rowA n)] w (.bool (togetherM h ps n)) := by
  refine gives_of Try.func43 rfl Try.ntmps43 (by simp) ?_
  refine r_seq (by kernel_rfl) ?_
  refine s_box (v := .agg _) rfl (fun b2 => ?_)
  refine s_box (v := .agg _) rfl (fun b3 => ?_)
  refine s_val (v_assign (v := .bool _) rfl) ?_
  refine s_nil ?_
  refine c_seq ?_
  refine r_seq (by kernel_rfl) ?_
  refine s_val (v_loadA (m := 42) (by kernel_rfl) rfl (.there .here) (H.size _)) ?_
  refine s_call (by kernel_rfl) (fun w hw => g_Good _ ps w (hp.at hw)) ?_
  refine s_val (v_not rfl) ?_
  refine s_nil ?_
  refine c_condN rfl rfl (fun h12 => ?_) (fun h12 => ?_)
  · refine r_seq (by kernel_rfl) ?_
    refine s_val (v_assign (v := .bool _) rfl) ?_
    refine s_nil ?_
    refine c_ret ?_
    refine n_ret ?_
    refine n_done rfl (by decide) (Eq.trans (b := .bool _) rfl (congrArg Value.bool ?_))
    exact (tog_house h12).symm
  refine c_skip ?_
  refine n_then ?_
  have hg : goodB h ps = true := h12
  refine r_seq (by kernel_rfl) ?_
  refine s_val (v_loadA (m := 42) (by kernel_rfl) rfl (.there .here) (H.size _)) ?_
  refine s_callG (by kernel_rfl) (queuesF_mono ps) (fun w hw => g_queues h ps w (hp.at hw) hb hlc) (fun F14 v14 hF14 hR14 => ?_)
  obtain ⟨q, rfl, hwt⟩ := hR14
  replace hwt := hwt.mono (more_young _ _)
  refine s_alloc (z := .agg (rowS noS)) (by kernel_rfl) (fun b5 => ?_)
  refine s_storeA (m := 4) (by kernel_rfl) rfl rfl .here (rowS_size _) (rowS_size _) (rowS_all _) ?_
  refine s_nil ?_
  refine c_seq ?_
  refine r_seq (by kernel_rfl) ?_
  refine s_val (v_loadA (m := 4) (by kernel_rfl) rfl (.there .here) (rowA_size _)) ?_
  refine s_val (v_move (v := .int .i64 _) rfl) ?_
  refine s_nil ?_
  refine c_block ?_
  refine c_loop (σ := Nat) (fun (k : Nat) f => ∃ g, (k ≤ 4 ∧ ∀ b : Int, 0 ≤ b → b < k → 0 ≤ n b ∧ n b ≤ (queueM ps b).length) ∧ f = (upd (upd (upd (upd (upd g 2 (.pointer (some ⟨b2, 0, none⟩))) 3 (.pointer (some ⟨b3, 0, none⟩))) 5 (.pointer (some ⟨b5, 0, none⟩))) 15 (.agg (rowA n))) 16 (I k))) (fun (k : Nat) => Has w F14 [(b5, .cells (rowS q) 80), (b3, .cells (rowA n) 25), (b2, .cells h.cells 29)]) (fun (k : Nat) => 4 - k) 0 ⟨_, ⟨Nat.zero_le _, fun b h0 h1 => by omega⟩, live5 rfl rfl rfl rfl rfl⟩ (fun w hw => hw) ?_
  rintro k _ ⟨g, ⟨hkl, hlo⟩, rfl⟩
  refine r_seq (by kernel_rfl) ?_
  refine s_val (v_lss (k := .i64) rfl rfl) ?_
  refine s_nil ?_
  refine c_seq ?_
  refine c_condR rfl rfl (fun h17 => ?_) (fun h17 => ?_)
  · refine c_exit ?_
    refine n_exit ?_
    refine n_exit ?_
    refine n_bhere ?_
    refine n_then ?_
    have hsz : ∀ b : Int, 0 ≤ b ∧ b < 4 → 0 ≤ n b ∧ n b ≤ (queueM ps b).length := fun b hb => hlo b hb.1 (by have := of_decide_eq_false h17; omega)
    refine r_seq (by kernel_rfl) ?_
    refine s_val (v_loadA (m := 42) (by kernel_rfl) rfl (.there (.there .here)) (H.size _)) ?_
    refine s_val (v_loadA (m := 4) (by kernel_rfl) rfl .here (rowS_size _)) ?_
    refine s_val (v_loadA (m := 4) (by kernel_rfl) rfl (.there .here) (rowA_size _)) ?_
    refine s_call (by kernel_rfl) (fun w hw => g_stuck h ps q n w ((hp.mono hF14).at hw) hb hlc hg (hwt.at hw) hsz) ?_
    refine s_val (v_move (v := .tuple _) rfl) ?_
    refine s_val (v_extract rfl rfl) ?_
    refine s_val (v_extract rfl rfl) ?_
    refine s_val (v_assign (v := .int .i64 _) rfl) ?_
    refine s_val (v_assign (v := .bool _) rfl) ?_
    refine s_nil ?_
    refine r_seq (by kernel_rfl) ?_
    refine s_val (v_move (v := .bool _) rfl) ?_
    refine s_val (v_not rfl) ?_
    refine s_val (v_assign (v := .bool _) rfl) ?_
    refine s_nil ?_
    refine c_ret ?_
    refine n_done rfl (by decide) (Eq.trans (b := .bool _) rfl (congrArg Value.bool ?_))
    exact tog_stuck hg hsz
  have hk0 := of_decide_eq_true h17
  have hki : 0 ≤ (k : Int) ∧ (k : Int) < 4 := ⟨by omega, by omega⟩
  have hql := hwt.len (good_pays hg).2.1 hki
  refine c_skip ?_
  refine n_then ?_
  refine c_seq ?_
  refine c_block ?_
  refine r_seq (by kernel_rfl) ?_
  refine s_val (v_move (v := .int .i64 _) rfl) ?_
  refine s_val (v_indexS (len := 4) (t := 3) (m := 1) (k := .i64) (v := .int .i64 _) (by kernel_rfl) (by kernel_rfl) rfl rfl hki (rowA_at _ hki)) ?_
  refine s_val (v_assign (v := .int .i64 _) rfl) ?_
  refine s_val (v_assign (v := .int .i64 _) rfl) ?_
  refine s_nil ?_
  refine r_seq (by kernel_rfl) ?_
  refine s_val (v_move (v := .int .i64 _) rfl) ?_
  refine s_val (v_lss (k := .i64) rfl rfl) ?_
  refine s_val (v_move (v := .bool _) rfl) ?_
  refine s_split (s := 22) rfl (fun h22 => ?_) (fun h22 => ?_)
  · refine s_pass rfl rfl h22 ?_
    refine s_pass rfl rfl h22 ?_
    refine s_pass rfl rfl h22 ?_
    refine s_pass rfl rfl h22 ?_
    refine s_pass rfl rfl h22 ?_
    refine s_pass rfl rfl h22 ?_
    refine s_val (v_pickT (v := .bool _) rfl h22 rfl) ?_
    refine s_nil ?_
    refine c_condTh rfl rfl rfl ?_
    refine r_seq (by kernel_rfl) ?_
    refine s_val (v_assign (v := .bool _) rfl) ?_
    refine s_nil ?_
    refine c_ret ?_
    refine n_bret ?_
    refine n_ret ?_
    refine n_ret ?_
    refine n_bret ?_
    refine n_ret ?_
    refine n_done rfl (by decide) (Eq.trans (b := .bool _) rfl (congrArg Value.bool ?_))
    exact (tog_size (b := (k : Int)) hki (within_low (of_decide_eq_true h22))).symm
  refine s_want rfl rfl h22 ?_
  refine s_val (v_move (v := .int .i64 _) rfl) ?_
  refine s_want rfl rfl h22 ?_
  refine s_val (v_move (v := .int .i64 _) rfl) ?_
  refine s_want rfl rfl h22 ?_
  refine s_val (v_idxA (len := 4) (size := 1) (k := .i64) (by kernel_rfl) rfl rfl hki) ?_
  refine s_want rfl rfl h22 ?_
  refine s_val (v_load1 (v := .slice _ _ _) (by kernel_rfl) rfl .here (rowS_at0 _ hki)) ?_
  refine s_want rfl rfl h22 ?_
  refine s_val (v_lenS (T := 43) (m := 1) (by kernel_rfl) rfl rfl) ?_
  refine s_want rfl rfl h22 ?_
  refine s_val (v_gtr (k := .i64) rfl rfl) ?_
  refine s_val (v_pickF (v := .bool _) rfl h22 rfl) ?_
  refine s_nil ?_
  refine c_condR rfl rfl (fun h29 => ?_) (fun h29 => ?_)
  · refine c_skip ?_
    refine n_bnormal ?_
    refine n_then ?_
    refine r_list (by kernel_rfl) ?_
    refine s_val (v_add rfl rfl (by omega)) ?_
    refine s_val (v_move (v := .int .i64 _) rfl) ?_
    refine s_end ?_
    refine n_round (k + 1) ⟨_, ⟨by omega, fun b h0 h1 => by
      by_cases e : b = (k : Int)
      · subst e; have := of_decide_eq_false h22; have := of_decide_eq_false h29; omega
      · exact hlo b h0 (by omega)⟩, live5 rfl rfl rfl rfl rfl⟩ (fun _ hw => hw) (by omega)
  refine r_seq (by kernel_rfl) ?_
  refine s_val (v_assign (v := .bool _) rfl) ?_
  refine s_nil ?_
  refine c_ret ?_
  refine n_bret ?_
  refine n_ret ?_
  refine n_ret ?_
  refine n_bret ?_
  refine n_ret ?_
  refine n_done rfl (by decide) (Eq.trans (b := .bool _) rfl (congrArg Value.bool ?_))
  exact (tog_size (b := (k : Int)) hki (within_high (by rw [← hql]; exact of_decide_eq_true h29))).symm

theorem g_Most (h : H) (ps : List PayS) (w : World) (hp : PaysIn (At w) h.pa h.pl ps) (hb : h.pl * 48 ≤ 281474976710656) (hlc : h.pl ≤ h.pc) : Gives Try.prog 45 [.agg h.cells] w (.agg (rowA (mostM h.core ps))) := by
  refine gives_of Try.func45 rfl Try.ntmps45 (by simp) ?_
  refine r_seq (by kernel_rfl) ?_
  refine s_box (v := .agg _) rfl (fun b1 => ?_)
  refine s_alloc (z := .agg (rowA fun _ => 0)) (by kernel_rfl) (fun b2 => ?_)
  refine s_nil ?_
  refine r_seq (by kernel_rfl) ?_
  refine s_alloc (z := .agg (rowA fun _ => 0)) (by kernel_rfl) (fun b3 => ?_)
  refine s_nil ?_
  refine c_seq ?_
  refine r_seq (by kernel_rfl) ?_
  refine s_val (v_loadA (m := 42) (by kernel_rfl) rfl (.there (.there .here)) (H.size _)) ?_
  refine s_call (by kernel_rfl) (fun w hw => g_Good _ ps w (hp.at hw)) ?_
  refine s_val (v_not rfl) ?_
  refine s_nil ?_
  refine c_condN rfl rfl (fun h10 => ?_) (fun h10 => ?_)
  · refine r_seq (by kernel_rfl) ?_
    refine s_val (v_loadA (m := 4) (by kernel_rfl) rfl .here (rowA_size _)) ?_
    refine s_storeA (m := 4) (by kernel_rfl) rfl rfl (.there .here) (rowA_size _) (rowA_size _) (rowA_all _) ?_
    refine s_nil ?_
    refine c_ret ?_
    refine n_ret ?_
    refine n_doneC (m := 4) rfl (by decide) rfl (by kernel_rfl) (.there .here) (rowA_size _) (congrArg Value.agg ?_)
    rw [mostM_bad (show goodB h.core ps = false from h10)]
    rfl
  refine c_skip ?_
  refine n_then ?_
  have hg : goodB h ps = true := h10
  have hgc : goodB h.core ps = true := h10
  have hsa := (good_pays hg).2.1
  refine r_seq (by kernel_rfl) ?_
  refine s_val (v_loadA (m := 42) (by kernel_rfl) rfl (.there (.there .here)) (H.size _)) ?_
  refine s_callG (by kernel_rfl) (queuesF_mono ps) (fun w hw => g_queues h ps w (hp.at hw) hb hlc) (fun F13 v13 hF13 hR13 => ?_)
  obtain ⟨q, rfl, hwt⟩ := hR13
  replace hwt := hwt.mono (more_young _ _)
  refine s_alloc (z := .agg (rowS noS)) (by kernel_rfl) (fun b4 => ?_)
  refine s_storeA (m := 4) (by kernel_rfl) rfl rfl .here (rowS_size _) (rowS_size _) (rowS_all _) ?_
  refine s_nil ?_
  refine c_seq ?_
  refine r_seq (by kernel_rfl) ?_
  refine s_val (v_move (v := .int .i64 _) rfl) ?_
  refine s_nil ?_
  refine c_block ?_
  refine c_loop (σ := Nat) (fun (k : Nat) f => ∃ g, (k ≤ 4) ∧ f = (upd (upd (upd (upd (upd g 1 (.pointer (some ⟨b1, 0, none⟩))) 2 (.pointer (some ⟨b2, 0, none⟩))) 3 (.pointer (some ⟨b3, 0, none⟩))) 4 (.pointer (some ⟨b4, 0, none⟩))) 14 (I k))) (fun (k : Nat) => Has w F13 [(b4, .cells (rowS q) 80), (b3, .cells (rowA (sizeTo ps k)) 25), (b2, .cells (rowA (fun _ => 0)) 25), (b1, .cells h.cells 29)]) (fun (k : Nat) => 4 - k) 0 ⟨_, Nat.zero_le _, live5 rfl rfl rfl rfl rfl⟩ (fun w hw => by rw [show rowA (sizeTo ps 0) = rowA (fun _ => 0) from rowA_congr fun b hb => by unfold sizeTo; rw [if_neg (by omega)]]; exact hw) ?_
  rintro k _ ⟨g, hkl, rfl⟩
  refine r_seq (by kernel_rfl) ?_
  refine s_val (v_lss (k := .i64) rfl rfl) ?_
  refine s_nil ?_
  refine c_seq ?_
  refine c_cond rfl rfl (fun h15 => ?_) (fun h15 => ?_)
  · have hk0 := of_decide_eq_true h15
    have hki : 0 ≤ (k : Int) ∧ (k : Int) < 4 := ⟨by omega, by omega⟩
    have hql := hwt.len hsa hki
    refine c_skip ?_
    refine n_then ?_
    refine c_seq ?_
    refine c_block ?_
    refine r_seq (by kernel_rfl) ?_
    refine s_val (v_move (v := .int .i64 _) rfl) ?_
    refine s_val (v_assign (v := .int .i64 _) rfl) ?_
    refine s_nil ?_
    refine r_list (by kernel_rfl) ?_
    refine s_val (v_move (v := .int .i64 _) rfl) ?_
    refine s_val (v_move (v := .int .i64 _) rfl) ?_
    refine s_val (v_idxA (len := 4) (size := 1) (k := .i64) (by kernel_rfl) rfl rfl hki) ?_
    refine s_val (v_load1 (v := .slice _ _ _) (by kernel_rfl) rfl .here (rowS_at0 _ hki)) ?_
    refine s_val (v_lenS (T := 43) (m := 1) (by kernel_rfl) rfl rfl) ?_
    refine s_val (v_idxA (len := 4) (size := 1) (k := .i64) (by kernel_rfl) rfl rfl hki) ?_
    refine s_store1 (v := .int .i64 _) (by kernel_rfl) rfl rfl (.there .here) (rowA_set _ hki) rfl ?_
    refine s_end ?_
    refine n_bnormal ?_
    refine n_then ?_
    refine r_list (by kernel_rfl) ?_
    refine s_val (v_add rfl rfl (by omega)) ?_
    refine s_val (v_move (v := .int .i64 _) rfl) ?_
    refine s_end ?_
    refine n_round (k + 1) ⟨_, (by omega), live5 rfl rfl rfl rfl rfl⟩ (fun _ hw => by rw [hql, size_step ps (by omega)] at hw; exact hw) (by omega)
  have hk4 : k = 4 := by have := of_decide_eq_false h15; omega
  refine c_exit ?_
  refine n_exit ?_
  refine n_exit ?_
  refine n_bhere ?_
  refine n_then ?_
  refine c_block ?_
  refine c_loop (σ := Int → Int) (fun (n : Int → Int) f => ∃ g, (DownTo h.core ps n) ∧ f = (upd (upd (upd (upd g 1 (.pointer (some ⟨b1, 0, none⟩))) 2 (.pointer (some ⟨b2, 0, none⟩))) 3 (.pointer (some ⟨b3, 0, none⟩))) 4 (.pointer (some ⟨b4, 0, none⟩)))) (fun (n : Int → Int) => Has w F13 [(b4, .cells (rowS q) 80), (b3, .cells (rowA n) 25), (b2, .cells (rowA (fun _ => 0)) 25), (b1, .cells h.cells 29)]) (fun (n : Int → Int) => (all4 n).toNat) (qLen ps) ⟨_, down_start (fun _ _ => rfl), live4 rfl rfl rfl rfl⟩ (fun w hw => by rw [hk4, size_all] at hw; exact hw) ?_
  rintro n _ ⟨g, hd, rfl⟩
  refine c_block ?_
  refine r_seq (by kernel_rfl) ?_
  refine s_val (v_loadA (m := 42) (by kernel_rfl) rfl (.there (.there (.there .here))) (H.size _)) ?_
  refine s_val (v_loadA (m := 4) (by kernel_rfl) rfl .here (rowS_size _)) ?_
  refine s_val (v_loadA (m := 4) (by kernel_rfl) rfl (.there .here) (rowA_size _)) ?_
  refine s_call (by kernel_rfl) (fun w hw => g_stuck h ps q n w ((hp.mono hF13).at hw) hb hlc hg (hwt.at hw) hd.size) ?_
  refine s_val (v_move (v := .tuple _) rfl) ?_
  refine s_val (v_extract rfl rfl) ?_
  refine s_val (v_extract rfl rfl) ?_
  refine s_val (v_assign (v := .int .i64 _) rfl) ?_
  refine s_val (v_assign (v := .bool _) rfl) ?_
  refine s_nil ?_
  refine c_seq ?_
  refine r_seq (by kernel_rfl) ?_
  refine s_val (v_move (v := .bool _) rfl) ?_
  refine s_val (v_not rfl) ?_
  refine s_nil ?_
  refine c_condN rfl rfl (fun h32 => ?_) (fun h32 => ?_)
  · refine r_seq (by kernel_rfl) ?_
    refine s_val (v_loadA (m := 4) (by kernel_rfl) rfl (.there .here) (rowA_size _)) ?_
    refine s_storeA (m := 4) (by kernel_rfl) rfl rfl (.there (.there .here)) (rowA_size _) (rowA_size _) (rowA_all _) ?_
    refine s_nil ?_
    refine c_ret ?_
    refine n_ret ?_
    refine n_bret ?_
    refine n_ret ?_
    refine n_bret ?_
    refine n_doneC (m := 4) rfl (by decide) rfl (by kernel_rfl) (.there (.there .here)) (rowA_size _) (congrArg Value.agg ?_)
    exact (mostM_row (hd.done hgc (fun b hb => by rw [movesTo_core]; exact stuck_false h32 b hb))).symm
  obtain ⟨hki, hbc⟩ := stuck_true h32
  obtain ⟨hb0, hbo⟩ := stuckC_spec hbc
  have hbs := hd.size _ hki
  have hqk := queueM_len ps (stuckM (movesTo h ps n 4) n).1
  have hl24 := (good_pays hg).2.2
  have hds := hd.step hgc hki hb0 (by rw [movesTo_core]; exact hbo)
  refine c_skip ?_
  refine n_then ?_
  refine r_list (by kernel_rfl) ?_
  refine s_val (v_move (v := .int .i64 _) rfl) ?_
  refine s_val (v_idxA (len := 4) (size := 1) (k := .i64) (by kernel_rfl) rfl rfl hki) ?_
  refine s_val (v_load1 (v := .int .i64 _) (by kernel_rfl) rfl (.there .here) (rowA_at0 _ hki)) ?_
  refine s_val (v_sub rfl rfl (by omega)) ?_
  refine s_val (v_idxA (len := 4) (size := 1) (k := .i64) (by kernel_rfl) rfl rfl hki) ?_
  refine s_store1 (v := .int .i64 _) (by kernel_rfl) rfl rfl (.there .here) (rowA_set _ hki) rfl ?_
  refine s_end ?_
  refine n_bnormal ?_
  refine n_round (s := n) (up1 n (stuckM (movesTo h ps n 4) n).1 (n (stuckM (movesTo h ps n 4) n).1 - 1)) ⟨_, hds, live4 rfl rfl rfl rfl⟩ (fun _ hw => hw) (by have := hds.pos; rw [all4_down hki] at this ⊢; omega)

end Go.Proofs.Ytmkboljfbmlebaa
/- Contract of what is settled together, valid house or not. Condition: the payments lie in memory that is known. -/
namespace Go.Proofs.Ytmkboljfbmlebaa
open Go.RowKit
set_option linter.unusedSimpArgs false
set_option linter.unusedVariables false
set_option maxRecDepth 100000
attribute [local irreducible] cC sC nC rC qw

set_option maxHeartbeats 1000000 in
theorem g_UntieGood (h : H) (ps : List PayS) (w : World) (hp : PaysIn (At w) h.pa h.pl ps) (hb : h.pl * 48 ≤ 281474976710656) (hlc : h.pl ≤ h.pc) (hgc : goodB h.core ps = true) : GivesF Try.prog 41 [.agg h.cells] w (SweepF h ps (untieM h.core ps)) := by
  have hsa := (good_pays hgc).2.1
  have hl24 := (good_pays hgc).2.2
  refine givesF_of Try.func41 rfl Try.ntmps41 (by simp) ?_
  refine r_seq (by kernel_rfl) ?_
  refine s_box (v := .agg _) rfl (fun b1 => ?_)
  refine s_alloc (z := .agg zeroH.cells) (by kernel_rfl) (fun b2 => ?_)
  refine s_val (v_assign (v := .slice _ _ _) rfl) ?_
  refine s_nil ?_
  refine r_seq (by kernel_rfl) ?_
  refine s_val (v_assign (v := .slice _ _ _) rfl) ?_
  refine s_nil ?_
  refine r_seq (by kernel_rfl) ?_
  refine s_val (v_loadA (m := 42) (by kernel_rfl) rfl (.there .here) (H.size _)) ?_
  refine s_callG (by kernel_rfl) (queuesF_mono ps) (fun w hw => g_queues h ps w (hp.at hw) hb hlc) (fun F11 v11 hF11 hR11 => ?_)
  obtain ⟨q, rfl, hwt⟩ := hR11
  replace hwt := hwt.mono (more_young _ _)
  refine s_alloc (z := .agg (rowS noS)) (by kernel_rfl) (fun b5 => ?_)
  refine s_storeA (m := 4) (by kernel_rfl) rfl rfl .here (rowS_size _) (rowS_size _) (rowS_all _) ?_
  refine s_nil ?_
  refine c_seq ?_
  refine r_seq (by kernel_rfl) ?_
  refine s_val (v_loadA (m := 42) (by kernel_rfl) rfl (.there (.there .here)) (H.size _)) ?_
  refine s_call (by kernel_rfl) (fun w hw => g_Most h ps w ((hp.mono hF11).at hw) hb hlc) ?_
  refine s_val (v_move (v := .int .i64 _) rfl) ?_
  refine s_nil ?_
  refine c_block ?_
  refine c_loop (σ := SwG) (fun (t : SwG) f => ∃ g, (UnOk w h ps 3 (upTo ps (mostM h.core ps) t.bank) t ∧ t.bank ≤ 4 ∧ More F11 t.F) ∧ f = (upd (upd (upd (upd (upd (upd g 1 (.pointer (some ⟨b1, 0, none⟩))) 2 (.pointer (some ⟨b2, 0, none⟩))) 4 (t.v)) 5 (.pointer (some ⟨b5, 0, none⟩))) 13 (.agg (rowA (mostM h.core ps)))) 14 (I t.bank))) (fun (t : SwG) => Has w t.F (t.E ++ [(b5, .cells (rowS q) 80), (b2, .cells zeroH.cells 29), (b1, .cells t.h.cells 29)])) (fun (t : SwG) => 4 - t.bank) ⟨F11, h, ps, [], .slice none 0 0, [], 0, 0⟩ ⟨_, ⟨UnOk.learn (t := ⟨At w, h, ps, [], .slice none 0 0, [], 0, 0⟩) ⟨swOk_start hp hlc, rfl, rfl, rfl, fun _ _ h => h⟩ hF11 0 0, Nat.zero_le _, fun _ _ h => h⟩, live6 rfl rfl rfl rfl rfl rfl⟩ (fun w hw => hw) ?_
  rintro t _ ⟨g, ⟨ho0, hbl, hmt⟩, rfl⟩
  refine r_seq (by kernel_rfl) ?_
  refine s_val (v_lss (k := .i64) rfl rfl) ?_
  refine s_nil ?_
  refine c_seq ?_
  refine c_condR rfl rfl (fun h15 => ?_) (fun h15 => ?_)
  · refine c_exit ?_
    refine n_exit ?_
    refine n_exit ?_
    refine n_bhere ?_
    refine n_then ?_
    refine r_seq (by kernel_rfl) ?_
    refine s_val (v_loadA (m := 42) (by kernel_rfl) rfl (.app (.there (.there .here))) (H.size _)) ?_
    refine s_val (v_move (v := _) rfl) ?_
    refine s_storeA (m := 42) (by kernel_rfl) rfl rfl (.app (.there .here)) (H.size _) (H.size _) (H.all1 _) ?_
    refine s_val (v_assign (v := _) rfl) ?_
    refine s_nil ?_
    refine c_ret ?_
    refine n_done2F (m := 42) rfl (by decide) (by decide) rfl (by kernel_rfl) (.app (.there .here)) (H.size _) (fun w hw => ?_)
    have hb4 : t.bank = 4 := by have := of_decide_eq_false h15; omega
    have e : t.q = untieM h.core ps := by
      have e1 := ho0.eq
      have e2 := ho0.c
      have e3 := ho0.p
      rw [hb4, upTo_all] at e1 e2 e3
      unfold SwG.q untieM untieXs
      rw [e1, e2, e3]
      rfl
    rw [← e]
    exact ho0.sw.done hw
  have hk0 := of_decide_eq_true h15
  have hki : 0 ≤ (t.bank : Int) ∧ (t.bank : Int) < 4 := ⟨by omega, by omega⟩
  have hwg := hwt.get hsa hki
  have hms := (mostM_is hgc).poss.size t.bank hki
  have hqk := queueM_len ps t.bank
  refine c_skip ?_
  refine n_then ?_
  refine c_seq ?_
  refine c_block ?_
  refine r_seq (by kernel_rfl) ?_
  refine s_val (v_move (v := .int .i64 _) rfl) ?_
  refine s_val (v_indexS (len := 4) (t := 3) (m := 1) (k := .i64) (v := .int .i64 _) (by kernel_rfl) (by kernel_rfl) rfl rfl hki (rowA_at _ hki)) ?_
  refine s_val (v_assign (v := .int .i64 _) rfl) ?_
  refine s_val (v_assign (v := .int .i64 _) rfl) ?_
  refine s_nil ?_
  refine r_seq (by kernel_rfl) ?_
  refine s_val (v_move (v := .int .i64 _) rfl) ?_
  refine s_val (v_idxA (len := 4) (size := 1) (k := .i64) (by kernel_rfl) rfl rfl hki) ?_
  refine s_val (v_load1 (v := .slice _ _ _) (by kernel_rfl) rfl (.app .here) (rowS_at0 _ hki)) ?_
  refine s_val (v_move (v := .int .i64 _) rfl) ?_
  refine s_val (v_sliceHi (m := 1) (by kernel_rfl) rfl rfl ⟨by omega, by omega⟩) ?_
  refine s_val (v_lenS (T := 43) (m := 1) (by kernel_rfl) rfl rfl) ?_
  refine s_val (v_move (v := .int .i64 _) rfl) ?_
  refine s_nil ?_
  refine c_block ?_
  refine c_loop (σ := SwG) (fun (u : SwG) f => ∃ g, (u.idle ≤ (mostM h.core ps t.bank).toNat ∧ More F11 u.F ∧ UnOk w h ps 3 (unXs ps (mostM h.core ps) t.bank u.idle) u) ∧ f = (upd (upd (upd (upd (upd (upd (upd (upd (upd g 1 (.pointer (some ⟨b1, 0, none⟩))) 2 (.pointer (some ⟨b2, 0, none⟩))) 4 (u.v)) 5 (.pointer (some ⟨b5, 0, none⟩))) 13 (.agg (rowA (mostM h.core ps)))) 14 (I t.bank)) 22 (.slice (q t.bank).a (mostM h.core ps t.bank).toNat (q t.bank).c)) 23 (I (mostM h.core ps t.bank).toNat)) 24 (I u.idle))) (fun (u : SwG) => Has w u.F (u.E ++ [(b5, .cells (rowS q) 80), (b2, .cells zeroH.cells 29), (b1, .cells u.h.cells 29)])) (fun (u : SwG) => (mostM h.core ps t.bank).toNat - u.idle) ⟨t.F, t.h, t.ps, t.xs, t.v, t.E, t.bank, 0⟩ ⟨_, ⟨Nat.zero_le _, hmt, by rw [un_none]; exact ho0.learn (fun _ _ h => h) _ _⟩, live9 rfl rfl rfl rfl rfl rfl rfl rfl rfl⟩ (fun w hw => hw) ?_
  rintro u _ ⟨g, ⟨hul, hmu, ho⟩, rfl⟩
  refine r_seq (by kernel_rfl) ?_
  refine s_val (v_lss (k := .i64) rfl rfl) ?_
  refine s_nil ?_
  refine c_seq ?_
  refine c_condR rfl rfl (fun h25 => ?_) (fun h25 => ?_)
  · have hj0 := of_decide_eq_false h25
    refine c_exit ?_
    refine n_exit ?_
    refine n_exit ?_
    refine n_bhere ?_
    refine n_bnormal ?_
    refine n_then ?_
    refine r_list (by kernel_rfl) ?_
    refine s_val (v_add rfl rfl (by omega)) ?_
    refine s_val (v_move (v := .int .i64 _) rfl) ?_
    refine s_end ?_
    refine n_round (s := t) ⟨u.F, u.h, u.ps, u.xs, u.v, u.E, t.bank + 1, 0⟩ ⟨_, ⟨by dsimp only; rw [← un_stop (j := u.idle) (by omega)]; exact ho.learn (fun _ _ h => h) _ _, by dsimp only; omega, hmu⟩, live6 rfl rfl rfl rfl rfl rfl⟩ (fun _ hw => hw) (by dsimp only; omega)
  have hj0 := of_decide_eq_true h25
  obtain ⟨bq, oq, i, haq, hi, hfi⟩ := hwg.2.2.get (j := u.idle) (by omega)
  obtain ⟨p, hst0, hst1⟩ := un_settles (m := mostM h.core ps) hi
  have hst : settles u.ps i = some p := by rw [ho.p]; exact hst0
  have hcs := cnt_settle hst
  have hsum := ho.sw.sum
  have hlen := ho.sw.len
  have hpl := hp.1
  refine c_skip ?_
  refine n_then ?_
  refine c_seq ?_
  refine c_block ?_
  refine r_seq (by kernel_rfl) ?_
  refine s_val (v_idxS (size := 1) (k := .i64) (by kernel_rfl) (congrArg (fun a => Value.slice a (mostM h.core ps t.bank).toNat (q t.bank).c) haq) rfl ⟨by omega, by omega⟩) ?_
  refine s_val (v_load1o (v := I i) (by kernel_rfl) rfl (by simpa using hmu _ _ hfi)) ?_
  refine s_val (v_assign (v := .int .i64 _) rfl) ?_
  refine s_nil ?_
  refine r_seq (by kernel_rfl) ?_
  refine s_val (v_loadA (m := 42) (by kernel_rfl) rfl (.app (.there (.there .here))) (H.size _)) ?_
  refine s_val (v_move (v := .int .i64 _) rfl) ?_
  refine s_callG (by kernel_rfl) (houseF_mono _ _ _ _) (fun w hw => g_Settle u.h u.ps i w (ho.sw.pays.at hw) (by omega) ho.sw.lc) (fun F30 v30 hF30 hR30 => ?_)
  obtain ⟨h30, rfl, hco30, hlc30, hpo30⟩ := hR30
  refine s_storeA (m := 42) (by kernel_rfl) rfl rfl (.app (.there (.there .here))) (H.size _) (H.size _) (H.all1 _) ?_
  refine s_nil ?_
  refine r_list (by kernel_rfl) ?_
  refine s_val (v_move (v := _) rfl) ?_
  refine s_val (v_move (v := .int .i64 _) rfl) ?_
  refine s_build1 (v := .int .i64 _) (e := 3) (m := 1) (by_ := 8) (by kernel_rfl) rfl rfl rfl (fill_scalar rfl) (fun b33 => ?_)
  refine s_push (e := 3) (m := 1) (by_ := 8) (by kernel_rfl) rfl rfl rfl rfl rfl ho.sw.list rfl (all_scalar rfl rfl) (by omega) (fun v34 E34 hE34 => ?_)
  refine s_val (v_assign (v := _) rfl) ?_
  refine s_end ?_
  refine n_bnormal ?_
  refine n_then ?_
  refine r_list (by kernel_rfl) ?_
  refine s_val (v_add rfl rfl (by omega)) ?_
  refine s_val (v_move (v := .int .i64 _) rfl) ?_
  refine s_end ?_
  refine n_round (s := u) ⟨F30, h30, settleP u.ps i, u.xs ++ [i], v34, E34, t.bank, u.idle + 1⟩ ⟨_, ⟨by dsimp only; omega, fun a v h => hF30 a v (hmu a v h), by dsimp only; rw [un_yes hi (by omega)]; exact ho.go hF30 hst hco30 hlc30 hpo30 hE34 _ _⟩, live9 rfl rfl rfl rfl rfl rfl rfl rfl rfl⟩ (fun _ hw => hw) (by dsimp only; omega)

theorem g_UntieBad (h : H) (ps : List PayS) (w : World) (hp : PaysIn (At w) h.pa h.pl ps) (hb : h.pl * 48 ≤ 281474976710656) (hlc : h.pl ≤ h.pc) (hg : goodB h.core ps = false) : GivesF Try.prog 41 [.agg h.cells] w (SweepF h ps (untieM h.core ps)) := by
  refine givesF_of Try.func41 rfl Try.ntmps41 (by simp) ?_
  refine r_seq (by kernel_rfl) ?_
  refine s_box (v := .agg _) rfl (fun b1 => ?_)
  refine s_alloc (z := .agg zeroH.cells) (by kernel_rfl) (fun b2 => ?_)
  refine s_val (v_assign (v := .slice _ _ _) rfl) ?_
  refine s_nil ?_
  refine r_seq (by kernel_rfl) ?_
  refine s_val (v_assign (v := .slice _ _ _) rfl) ?_
  refine s_nil ?_
  refine r_seq (by kernel_rfl) ?_
  refine s_val (v_loadA (m := 42) (by kernel_rfl) rfl (.there .here) (H.size _)) ?_
  refine s_callG (by kernel_rfl) (queuesF_mono ps) (fun w hw => g_queues h ps w (hp.at hw) hb hlc) (fun F11 v11 hF11 hR11 => ?_)
  obtain ⟨q, rfl, hwt⟩ := hR11
  replace hwt := hwt.mono (more_young _ _)
  refine s_alloc (z := .agg (rowS noS)) (by kernel_rfl) (fun b5 => ?_)
  refine s_storeA (m := 4) (by kernel_rfl) rfl rfl .here (rowS_size _) (rowS_size _) (rowS_all _) ?_
  refine s_nil ?_
  refine c_seq ?_
  refine r_seq (by kernel_rfl) ?_
  refine s_val (v_loadA (m := 42) (by kernel_rfl) rfl (.there (.there .here)) (H.size _)) ?_
  refine s_call (by kernel_rfl) (fun w hw => (by have e := g_Most h ps w ((hp.mono hF11).at hw) hb hlc; rw [mostM_bad hg] at e; exact e)) ?_
  refine s_val (v_move (v := .int .i64 _) rfl) ?_
  refine s_nil ?_
  refine c_block ?_
  refine c_loop (σ := Nat) (fun (k : Nat) f => ∃ g, (k ≤ 4) ∧ f = (upd (upd (upd (upd (upd (upd g 1 (.pointer (some ⟨b1, 0, none⟩))) 2 (.pointer (some ⟨b2, 0, none⟩))) 4 (.slice none 0 0)) 5 (.pointer (some ⟨b5, 0, none⟩))) 13 (.agg (rowA (fun _ => 0)))) 14 (I k))) (fun (k : Nat) => Has w F11 [(b5, .cells (rowS q) 80), (b2, .cells zeroH.cells 29), (b1, .cells h.cells 29)]) (fun (k : Nat) => 4 - k) 0 ⟨_, Nat.zero_le _, live6 rfl rfl rfl rfl rfl rfl⟩ (fun w hw => hw) ?_
  rintro k _ ⟨g, hkl, rfl⟩
  refine r_seq (by kernel_rfl) ?_
  refine s_val (v_lss (k := .i64) rfl rfl) ?_
  refine s_nil ?_
  refine c_seq ?_
  refine c_condR rfl rfl (fun h15 => ?_) (fun h15 => ?_)
  · refine c_exit ?_
    refine n_exit ?_
    refine n_exit ?_
    refine n_bhere ?_
    refine n_then ?_
    refine r_seq (by kernel_rfl) ?_
    refine s_val (v_loadA (m := 42) (by kernel_rfl) rfl (.there (.there .here)) (H.size _)) ?_
    refine s_val (v_move (v := .slice _ _ _) rfl) ?_
    refine s_storeA (m := 42) (by kernel_rfl) rfl rfl (.there .here) (H.size _) (H.size _) (H.all1 _) ?_
    refine s_val (v_assign (v := .slice _ _ _) rfl) ?_
    refine s_nil ?_
    refine c_ret ?_
    refine n_done2F (m := 42) rfl (by decide) (by decide) rfl (by kernel_rfl) (.there .here) (H.size _) (fun w hw => ?_)
    rw [untie_bad hg]
    exact ⟨_, _, rfl, ⟨h, rfl, rfl, hlc, .inl ⟨rfl, rfl, rfl⟩⟩, none, 0, rfl, .inl rfl⟩
  have hk0 := of_decide_eq_true h15
  have hki : 0 ≤ (k : Int) ∧ (k : Int) < 4 := ⟨by omega, by omega⟩
  refine c_skip ?_
  refine n_then ?_
  refine c_seq ?_
  refine c_block ?_
  refine r_seq (by kernel_rfl) ?_
  refine s_val (v_move (v := .int .i64 _) rfl) ?_
  refine s_val (v_indexS (len := 4) (t := 3) (m := 1) (k := .i64) (v := .int .i64 _) (by kernel_rfl) (by kernel_rfl) rfl rfl hki (rowA_at _ hki)) ?_
  refine s_val (v_assign (v := .int .i64 _) rfl) ?_
  refine s_val (v_assign (v := .int .i64 _) rfl) ?_
  refine s_nil ?_
  refine r_seq (by kernel_rfl) ?_
  refine s_val (v_move (v := .int .i64 _) rfl) ?_
  refine s_val (v_idxA (len := 4) (size := 1) (k := .i64) (by kernel_rfl) rfl rfl hki) ?_
  refine s_val (v_load1 (v := .slice _ _ _) (by kernel_rfl) rfl .here (rowS_at0 _ hki)) ?_
  refine s_val (v_move (v := .int .i64 _) rfl) ?_
  refine s_val (v_sliceHi (m := 1) (by kernel_rfl) rfl rfl ⟨by omega, by omega⟩) ?_
  refine s_val (v_lenS (T := 43) (m := 1) (by kernel_rfl) rfl rfl) ?_
  refine s_val (v_move (v := .int .i64 _) rfl) ?_
  refine s_nil ?_
  refine c_block ?_
  refine c_rounds 1 ?_
  refine r_succ ?_
  refine r_seq (by kernel_rfl) ?_
  refine s_val (v_lss (k := .i64) rfl rfl) ?_
  refine s_nil ?_
  refine c_seq ?_
  refine c_condFh rfl rfl rfl ?_
  refine c_exit ?_
  refine n_exit ?_
  refine n_exit ?_
  refine n_bhere ?_
  refine n_bnormal ?_
  refine n_then ?_
  refine r_list (by kernel_rfl) ?_
  refine s_val (v_add rfl rfl (by omega)) ?_
  refine s_val (v_move (v := .int .i64 _) rfl) ?_
  refine s_end ?_
  refine n_round (k + 1) ⟨_, (by omega), live6 rfl rfl rfl rfl rfl rfl⟩ (fun _ hw => hw) (by omega)

end Go.Proofs.Ytmkboljfbmlebaa
/- Contract of what is settled together. Condition: the payments lie in memory that is known. -/
namespace Go.Proofs.Ytmkboljfbmlebaa
open Go.RowKit
theorem g_Untie (h : H) (ps : List PayS) (w : World) (hp : PaysIn (At w) h.pa h.pl ps) (hb : h.pl * 48 ≤ 281474976710656) (hlc : h.pl ≤ h.pc) : GivesF Try.prog 41 [.agg h.cells] w (SweepF h ps (untieM h.core ps)) := by
  cases hg : goodB h.core ps
  · exact g_UntieBad h ps w hp hb hlc hg
  · exact g_UntieGood h ps w hp hb hlc hg
end Go.Proofs.Ytmkboljfbmlebaa
/- The little house of 'knots', and where the banks stand when all is settled that may be together. No condition. -/
namespace Go.Proofs.Ytmkboljfbmlebaa
open Go.RowKit
set_option linter.unusedSimpArgs false
set_option linter.unusedVariables false

def kPays : List PayS := [⟨0, 1, 9, 0, 1, 1⟩, ⟨1, 0, 9, 0, 1, 0⟩]
def kHouse (pa : Option Addr) : H := { newM with next := 2, pa := pa, pl := 2, pc := 2 }
def kBest : Int → Int := fun b => if b < 2 then 1 else 0
theorem kMost : IsMost (kHouse none).core kPays kBest := by
  refine ⟨poss_iff.1 (by kernel_rfl), fun n p b hb => ?_⟩
  have e0 : (queueM kPays 0).length = 1 := by kernel_rfl
  have e1 : (queueM kPays 1).length = 1 := by kernel_rfl
  have e2 : (queueM kPays 2).length = 0 := by kernel_rfl
  have e3 : (queueM kPays 3).length = 0 := by kernel_rfl
  have s := p.size b hb
  have : b = 0 ∨ b = 1 ∨ b = 2 ∨ b = 3 := by omega
  rcases this with rfl | rfl | rfl | rfl <;> simp [kBest] <;> omega
theorem kRow : rowL (mostM (kHouse none).core kPays) = rowL kBest := by
  have u := fun b hb => (mostM_is kMost.poss.good).unique kMost b hb
  unfold rowL
  rw [u 0 (by omega), u 1 (by omega), u 2 (by omega), u 3 (by omega)]
theorem kXs : untieXs (kHouse none).core kPays = [0, 1] := by
  have u := fun b hb => (mostM_is kMost.poss.good).unique kMost b hb
  have e : ∀ b : Int, 0 ≤ b ∧ b < 4 → firsts kPays (mostM (kHouse none).core kPays) b = firsts kPays kBest b := fun b hb => firsts_congr (u b hb)
  have e1 : firsts kPays kBest 0 ++ firsts kPays kBest 1 ++ firsts kPays kBest 2 ++ firsts kPays kBest 3 = [0, 1] := by kernel_rfl
  unfold untieXs
  rw [e 0 (by omega), e 1 (by omega), e 2 (by omega), e 3 (by omega)]
  exact e1
theorem kLen : ((untieM (kHouse none).core kPays).xs.length : Int) = 2 := by
  show ((untieXs (kHouse none).core kPays).length : Int) = 2
  rw [kXs]; rfl
theorem kDone : ∃ p, (untieM (kHouse none).core kPays).ps[0]? = some p ∧ p.sta = 2 := by
  show ∃ p, (chainP kPays (untieXs (kHouse none).core kPays))[0]? = some p ∧ p.sta = 2
  rw [kXs]
  exact ⟨⟨0, 1, 9, 0, 2, 1⟩, by kernel_rfl, rfl⟩
theorem untie_len (h : H) (ps : List PayS) : (untieM h ps).ps.length = ps.length := chainP_len _ _
theorem untie_xs_len {h : H} {ps : List PayS} : (untieM h ps).xs.length ≤ ps.length := by
  have hn := allFirsts_nodup ps (mostM h ps)
  have hf := (nodup_full ps.length _ hn (fun i hi => by
    obtain ⟨p, hp⟩ := allFirsts_settles hi
    obtain ⟨h0, h1, _⟩ := settles_spec hp
    have := (List.getElem?_eq_some_iff.1 h1).1
    omega)).1
  exact hf
/-! where the banks stand -/
theorem untie_stands {h : H} {ps : List PayS} (hg : goodB h ps = true) : StandsAt h ps (mostM h ps) (untieM h ps).c := by
  have e : (untieM h ps).c = movesTo h ps (mostM h ps) 4 := untie_moves h ps (mostM h ps)
  rw [e]; exact moves_spec hg _
section
variable {h x : H} {ps : List PayS} (hg : goodB h.core ps = true) (hx : x.core = (untieM h.core ps).c)
include hg hx
theorem un_left {k : Int} (hk : 0 ≤ k ∧ k < 4) (hm : 0 < mostM h.core ps k) : ¬ leftM x k < 0 := by
  have st := untie_stands hg
  rw [← hx] at st
  have gh := good_of hg
  have p := (mostM_is hg).poss.left k hk (by omega)
  have e1 := st.has k hk
  have e2 : x.core.cred = h.core.cred := st.cred
  have n1 := st.near.has k hk
  have c1 := gh.cred k hk
  have e3 : x.has k = x.core.has k := rfl
  have e4 : x.cred k = h.core.cred k := congrFun e2 k
  unfold leftM
  rw [isBank_of hk]
  simp only [Bool.not_true, Bool.false_eq_true, if_false]
  rw [e3, e4, wr_in (by omega) (by omega)]
  omega
theorem un_has {k : Int} (hk : 0 ≤ k ∧ k < 4) (hm : mostM h.core ps k = 0) : ¬ x.has k < h.has k := by
  have st := untie_stands hg
  rw [← hx] at st
  have e1 : x.has k = _ := st.has k hk
  have e2 : firsts ps (mostM h.core ps) k = [] := by unfold firsts; rw [hm]; rfl
  have e3 := inS_mono (good_pays hg).1 (n := fun _ => 0) (m := mostM h.core ps) (fun b hb => ((mostM_is hg).poss.size b hb).1) k
  have e4 : inS ps (fun _ => 0) k = 0 := by simp [inS, firsts, toS]
  rw [e2] at e1
  simp only [outS] at e1
  have e5 : h.core.has k = h.has k := rfl
  omega
theorem un_net {k t : Int} (hk : 0 ≤ k ∧ k < 4) (ht : 0 ≤ t ∧ t < 4) (hl : 0 ≤ x.lim k t) (h1 : x.lim k t < netM x k t) : ¬ netM h k t < netM x k t := by
  have st := untie_stands hg
  rw [← hx] at st
  have gh := good_of hg
  have e1 : x.sent k t = _ := st.sent k t hk ht
  have e2 : x.sent t k = _ := st.sent t k ht hk
  have n1 : 0 ≤ x.sent k t ∧ x.sent k t ≤ _ := st.near.sent k t hk ht
  have n2 : 0 ≤ x.sent t k ∧ x.sent t k ≤ _ := st.near.sent t k ht hk
  have g1 : 0 ≤ h.sent k t ∧ h.sent k t ≤ _ := gh.sent k t hk ht
  have g2 : 0 ≤ h.sent t k ∧ h.sent t k ≤ _ := gh.sent t k ht hk
  have e5 : h.core.sent k t = h.sent k t := rfl
  have e6 : h.core.sent t k = h.sent t k := rfl
  have el : x.lim k t = h.core.lim k t := congrFun (congrFun (show x.core.lim = h.core.lim from st.lim) k) t
  have nx : netM x k t = x.sent k t - x.sent t k := by
    unfold netM
    rw [isBank_of hk, isBank_of ht]
    simp only [Bool.not_true, Bool.or_self, Bool.false_eq_true, if_false]
    exact wr_in (by omega) (by omega)
  have nh : netM h k t = h.sent k t - h.sent t k := by
    unfold netM
    rw [isBank_of hk, isBank_of ht]
    simp only [Bool.not_true, Bool.or_self, Bool.false_eq_true, if_false]
    exact wr_in (by omega) (by omega)
  rw [nx] at h1 ⊢
  rw [nh]
  by_cases hm : mostM h.core ps k = 0
  · have e3 : firsts ps (mostM h.core ps) k = [] := by unfold firsts; rw [hm]; rfl
    rw [e3] at e1
    simp only [toS] at e1
    have e4 := in_mono (good_pays hg).1 (n := fun _ => 0) (m := mostM h.core ps) (fun b hb => ((mostM_is hg).poss.size b hb).1) t k ht
    have e7 : toS ps k (firsts ps (fun _ => 0) t) = 0 := by simp [firsts, toS]
    omega
  · have := (mostM_is hg).poss.lim k t hk ht hm (by rw [← el]; exact hl)
    omega
theorem un_sum : sumM x = sumM h := by
  have st := untie_stands hg
  rw [← hx] at st
  exact (stands_sum (good_pays hg).1 (good_of hg) st : sumM x.core = sumM h.core)
end
def mSum (m : Int → Int) : Nat → Int
  | 0 => 0
  | k + 1 => mSum m k + m k
theorem untie_count {h : H} {ps : List PayS} (hg : goodB h ps = true) : mSum (mostM h ps) 4 = (untieM h ps).xs.length := by
  have s := (mostM_is hg).poss.size
  have l : ∀ b : Int, 0 ≤ b ∧ b < 4 → ((firsts ps (mostM h ps) b).length : Int) = mostM h ps b := fun b hb => by
    have := s b hb
    unfold firsts
    rw [List.length_take]; omega
  show _ = (((untieXs h ps).length : Nat) : Int)
  unfold untieXs
  simp only [List.length_append]
  have l0 := l 0 (by omega)
  have l1 := l 1 (by omega)
  have l2 := l 2 (by omega)
  have l3 := l 3 (by omega)
  simp only [mSum]
  simp
  omega
theorem mSum_range {h : H} {ps : List PayS} (hg : goodB h ps = true) : ∀ k : Nat, k ≤ 4 → 0 ≤ mSum (mostM h ps) k ∧ mSum (mostM h ps) k ≤ 24 * k
  | 0, _ => by simp [mSum]
  | k + 1, hk => by
    have ih := mSum_range hg k (by omega)
    have s := (mostM_is hg).poss.size k (by omega)
    have l := queueM_len ps k
    have g := (good_pays hg).2.2
    simp only [mSum]
    omega
end Go.Proofs.Ytmkboljfbmlebaa
