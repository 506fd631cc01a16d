/- Queues that are drawn from the front, passes of a sweep, and the order of the payments as a comparison. No condition. -/
import Derived.Test.YtbgnmapmiobjcaaM7
import Derived.Test.YtbgnmapmiobjcaaM9
namespace Go.Proofs.Ytbgnmapmiobjcaa
open Go.RowKit
set_option linter.unusedSimpArgs false
set_option linter.unusedVariables false

theorem settleP_at {ps : List PayS} {i : Int} {p : PayS} (h : settles ps i = some p) (j : Nat) : (settleP ps i)[j]? = if j = i.toNat then some { p with sta := 2 } else ps[j]? := by
  obtain ⟨h0, hp, h1⟩ := settles_spec h
  have hlt := (List.getElem?_eq_some_iff.1 hp).1
  simp only [settleP, h]
  rw [List.getElem?_set]
  by_cases hj : j = i.toNat
  · subst hj; simp [hlt]
  · rw [if_neg (Ne.symm hj), if_neg hj]
/-- settling turns nothing but the state -/
theorem settleP_old {ps : List PayS} {i : Int} {j : Nat} {q : PayS} (h : (settleP ps i)[j]? = some q) : ∃ p, ps[j]? = some p ∧ p.seq = q.seq ∧ p.cls = q.cls := by
  cases hs : settles ps i with
  | none => simp only [settleP, hs] at h; exact ⟨q, h, rfl, rfl⟩
  | some p =>
    rw [settleP_at hs] at h
    split at h
    · rename_i e
      subst e
      simp at h; subst h
      exact ⟨p, (settles_spec hs).2.1, rfl, rfl⟩
    · exact ⟨q, h, rfl, rfl⟩
theorem settleP_new {ps : List PayS} {i : Int} {j : Nat} {p : PayS} (h : ps[j]? = some p) : ∃ q, (settleP ps i)[j]? = some q ∧ p.seq = q.seq ∧ p.cls = q.cls := by
  have hlt := (List.getElem?_eq_some_iff.1 h).1
  obtain ⟨q, hq⟩ : ∃ q, (settleP ps i)[j]? = some q := ⟨(settleP ps i)[j]'(by rw [settleP_len]; exact hlt), by simp⟩
  obtain ⟨p', hp', e⟩ := settleP_old hq
  rw [h] at hp'; simp at hp'; subst hp'
  exact ⟨q, hq, e⟩
theorem SeqsApart.settle {ps : List PayS} (hs : SeqsApart ps) (n : Int) : SeqsApart (settleP ps n) := by
  intro i j p q hp hq e
  obtain ⟨p', hp', e1, _⟩ := settleP_old hp
  obtain ⟨q', hq', e2, _⟩ := settleP_old hq
  exact hs i j p' q' hp' hq' (by omega)
theorem lessK_settle {ps : List PayS} {n a b : Int} (h : lessK ps a b) : lessK (settleP ps n) a b := by
  obtain ⟨p, q, hp, hq, hl⟩ := h
  obtain ⟨p', hp', e1, e2⟩ := settleP_new (i := n) hp
  obtain ⟨q', hq', e3, e4⟩ := settleP_new (i := n) hq
  exact ⟨p', q', hp', hq', by unfold payLt at *; omega⟩
theorem queueM_nodup (ps : List PayS) (bank : Int) : (queueM ps bank).Nodup := (queueTo_spec ps bank ps.length).nodup
/-- behind its first one, a queue is what it was -/
theorem queue_tail {ps : List PayS} {bank i : Int} {r : List Int} (hs : SeqsApart ps) (hq : queueM ps bank = i :: r) : queueM (settleP ps i) bank = r := by
  have hn := queueM_nodup ps bank
  rw [hq] at hn
  obtain ⟨hn1, hn2⟩ := List.nodup_cons.1 hn
  obtain ⟨p, hst, hpi, hsta, hsrc⟩ := (queueM_mine (show i ∈ queueM ps bank by rw [hq]; simp)).settles
  have hi0 := (settles_spec hst).1
  have hso := queueM_sorted hs bank
  rw [hq] at hso
  refine (queueM_unique hn2 (fun j => ⟨fun hj => ?_, fun hj => ?_⟩) ((List.pairwise_cons.1 hso).2.imp fun h => lessK_settle h) (hs.settle i)).symm
  · obtain ⟨j0, q, h1, h2, h3⟩ := queueM_mine (show j ∈ queueM ps bank by rw [hq]; exact List.mem_cons_of_mem _ hj)
    have hne : j.toNat ≠ i.toNat := fun e => hn1 (by have : j = i := by omega
                                                     rw [← this]; exact hj)
    exact ⟨j0, q, by rw [settleP_at hst, if_neg hne]; exact h1, h2, h3⟩
  · obtain ⟨j0, q, h1, h2, h3⟩ := hj
    rw [settleP_at hst] at h1
    split at h1
    · simp at h1; subst h1; simp at h2
    · rename_i hne
      have : j ∈ queueM ps bank := queueM_all ⟨j0, q, h1, h2, h3⟩
      rw [hq] at this
      rcases List.mem_cons.1 this with e | h
      · exact absurd (by rw [e]) hne
      · exact h

/-! what was settled ahead of it does not matter to a bank -/
theorem drain_xs (bank : Int) : ∀ (m : Nat) (c : H) (ps : List PayS) (ys xs : List Int), cnt ps = m → drain bank ⟨c, ps, ys ++ xs⟩ = ⟨(drain bank ⟨c, ps, xs⟩).c, (drain bank ⟨c, ps, xs⟩).ps, ys ++ (drain bank ⟨c, ps, xs⟩).xs⟩ := by
  intro m
  induction m using Nat.strongRecOn with
  | _ m ih =>
    intro c ps ys xs hm
    cases h : firstM c ps bank with
    | none => rw [drain_end (s := ⟨c, ps, ys ++ xs⟩) h, drain_end (s := ⟨c, ps, xs⟩) h]
    | some i =>
      rw [drain_go (s := ⟨c, ps, ys ++ xs⟩) h, drain_go (s := ⟨c, ps, xs⟩) h]
      obtain ⟨p, r, _, h1, _⟩ := firstM_spec h
      have hc := cnt_settle h1
      have := ih (cnt (settleP ps i)) (by omega) (settleC c ps i) (settleP ps i) ys (xs ++ [i]) rfl
      simp only [QS.go]
      rw [List.append_assoc]
      exact this
theorem drain_app (bank : Int) (c : H) (ps : List PayS) (ys : List Int) : drain bank ⟨c, ps, ys⟩ = ⟨(drain bank ⟨c, ps, []⟩).c, (drain bank ⟨c, ps, []⟩).ps, ys ++ (drain bank ⟨c, ps, []⟩).xs⟩ := by
  have := drain_xs bank _ c ps ys [] rfl
  rwa [List.append_nil] at this
theorem drain_keeps (bank : Int) : ∀ (m : Nat) (s : QS), cnt s.ps = m → SeqsApart s.ps → SeqsApart (drain bank s).ps ∧ (drain bank s).ps.length = s.ps.length := by
  intro m
  induction m using Nat.strongRecOn with
  | _ m ih =>
    intro s hm hs
    cases h : firstM s.c s.ps bank with
    | none => rw [drain_end h]; exact ⟨hs, rfl⟩
    | some i =>
      rw [drain_go h]
      obtain ⟨p, r, _, h1, _⟩ := firstM_spec h
      have hc := cnt_settle h1
      obtain ⟨e1, e2⟩ := ih (cnt (settleP s.ps i)) (by omega) (s.go i) rfl (hs.settle i)
      exact ⟨e1, e2.trans (settleP_len _ _)⟩
theorem chainP_seqs : ∀ (r : List Int) (ps : List PayS), SeqsApart ps → SeqsApart (chainP ps r)
  | [], _, h => h
  | i :: r, ps, h => chainP_seqs r _ (h.settle i)
theorem sweepM_seqs {c : H} {ps : List PayS} (hs : SeqsApart ps) : SeqsApart (sweepM c ps).ps := by
  cases hg : goodB c ps
  · simp only [sweepM, hg, cond_false]; exact hs
  · rw [(sweepM_goes hg).2.2]; exact chainP_seqs _ _ hs

/-! the sweep, pass by pass: one more bank, whether it can do something or not -/
theorem pass_step {c : H} {ps : List PayS} (hg : goodB c ps = true) {k idle : Nat} {s : QS} (hk : k < 4) (hi : idle ≤ 4) (hs : sweepFrom k idle s = sweepM c ps) :
    ∃ idle', idle' ≤ 4 ∧ sweepFrom ((k + 1) % 4) idle' (drain k s) = sweepM c ps ∧ ((drain k s).xs.length = s.xs.length → idle' = 4 ∨ idle' = idle + 1) := by
  by_cases h4 : idle < 4
  · by_cases hx : (drain k s).xs.length = s.xs.length
    · exact ⟨idle + 1, by omega, by rw [← hs, sweep_idle h4 rfl hx], fun _ => .inr rfl⟩
    · exact ⟨0, by omega, by rw [← hs, sweep_busy h4 rfl hx], fun h => absurd h hx⟩
  · rw [sweep_end h4] at hs
    have hr := sweepM_rests hg k hk
    rw [← hs] at hr
    refine ⟨4, by omega, ?_, fun _ => .inl rfl⟩
    rw [drain_end hr, sweep_end (by omega)]
    exact hs

/-! the order of two payments as a number -/
def cmpI (a b : Int) : Int := bif decide (a < b) then -1 else bif decide (b < a) then 1 else 0
def cmpP (p q : PayS) : Int := bif decide (cmpI p.cls q.cls = 0) then cmpI p.seq q.seq else cmpI p.cls q.cls
theorem cmpI_neg (a b : Int) : cmpI a b < 0 ↔ a < b := by
  unfold cmpI
  by_cases h1 : a < b
  · simp [h1]
  · by_cases h2 : b < a <;> simp [h1, h2]
theorem cmpI_zero (a b : Int) : cmpI a b = 0 ↔ a = b := by
  unfold cmpI
  by_cases h1 : a < b
  · simp [h1]; omega
  · by_cases h2 : b < a
    · simp [h1, h2]; omega
    · simp [h1, h2]; omega
theorem cmpP_neg (p q : PayS) : cmpP p q < 0 ↔ payLt p q := by
  unfold cmpP payLt
  by_cases h : cmpI p.cls q.cls = 0
  · have := (cmpI_zero _ _).1 h
    simp only [h, decide_true, cond_true, cmpI_neg]; omega
  · have h' : ¬ p.cls = q.cls := fun e => h ((cmpI_zero _ _).2 e)
    simp only [h, decide_false, cond_false, cmpI_neg]; omega
theorem cmpI_range (a b : Int) : -1 ≤ cmpI a b ∧ cmpI a b ≤ 1 := by
  unfold cmpI
  cases decide (a < b) <;> cases decide (b < a) <;> simp

/-! the payments of a bank that wait, in the order of their places -/
def waitTo (ps : List PayS) (bank : Int) : Nat → List Int
  | 0 => []
  | k + 1 => match ps[k]? with
    | some p => bif decide (p.src = bank) && decide (p.sta = 1) then waitTo ps bank k ++ [(k : Int)] else waitTo ps bank k
    | none => waitTo ps bank k
theorem wait_step {ps : List PayS} {bank : Int} {k : Nat} {p : PayS} (h : ps[k]? = some p) : waitTo ps bank (k + 1) = bif decide (p.src = bank) && decide (p.sta = 1) then waitTo ps bank k ++ [(k : Int)] else waitTo ps bank k := by
  simp only [waitTo, h]
theorem wait_len (ps : List PayS) (bank : Int) : ∀ k, (waitTo ps bank k).length ≤ k
  | 0 => by simp [waitTo]
  | k + 1 => by
    have := wait_len ps bank k
    unfold waitTo
    split
    · rename_i p _
      cases decide (p.src = bank) && decide (p.sta = 1)
      · simp only [cond_false]; omega
      · simp only [cond_true, List.length_append, List.length_cons, List.length_nil]; omega
    · omega
theorem wait_spec (ps : List PayS) (bank : Int) : ∀ k, (waitTo ps bank k).Nodup ∧ ∀ i, i ∈ waitTo ps bank k ↔ Mine ps bank i ∧ i < k
  | 0 => ⟨by simp [waitTo], fun i => ⟨fun h => by simp [waitTo] at h, fun ⟨h1, h2⟩ => by have := h1.1; omega⟩⟩
  | k + 1 => by
    obtain ⟨h1, h2⟩ := wait_spec ps bank k
    have hno : ∀ i, (∀ p, ps[k]? = some p → ¬ (p.src = bank ∧ p.sta = 1)) → ((Mine ps bank i ∧ i < k) ↔ (Mine ps bank i ∧ i < ((k + 1 : Nat) : Int))) := fun i hn =>
      ⟨fun ⟨a, b⟩ => ⟨a, by omega⟩, fun ⟨a, b⟩ => ⟨a, by
        obtain ⟨i0, p, hp, h3, h4⟩ := a
        rcases Int.lt_or_le i k with h | h
        · exact h
        · have e : i.toNat = k := by omega
          rw [e] at hp
          exact absurd ⟨h4, h3⟩ (hn p hp)⟩⟩
    cases hp : ps[k]? with
    | none =>
      have e : waitTo ps bank (k + 1) = waitTo ps bank k := by simp only [waitTo, hp]
      rw [e]
      exact ⟨h1, fun i => (h2 i).trans (hno i (fun p h => by rw [hp] at h; cases h))⟩
    | some p =>
      rw [wait_step hp]
      cases hc : decide (p.src = bank) && decide (p.sta = 1)
      · simp only [cond_false]
        refine ⟨h1, fun i => (h2 i).trans (hno i (fun q h => ?_))⟩
        rw [hp] at h; simp at h; subst h
        simpa using hc
      · simp only [cond_true]
        simp at hc
        refine ⟨?_, fun i => ?_⟩
        · rw [List.nodup_append]
          refine ⟨h1, by simp, fun a ha b hb e => ?_⟩
          simp at hb; subst hb; subst e
          have := ((h2 _).1 ha).2
          omega
        · rw [List.mem_append, h2]
          constructor
          · rintro (⟨a, b⟩ | h)
            · exact ⟨a, by omega⟩
            · simp at h; subst h
              exact ⟨⟨by omega, p, by simpa using hp, hc.2, hc.1⟩, by omega⟩
          · rintro ⟨a, b⟩
            by_cases e : i = k
            · exact .inr (by simp [e])
            · exact .inl ⟨a, by omega⟩
theorem wait_all (ps : List PayS) (bank : Int) (i : Int) : i ∈ waitTo ps bank ps.length ↔ Mine ps bank i := by
  rw [(wait_spec ps bank ps.length).2]
  exact ⟨fun h => h.1, fun h => ⟨h, by have := h.lt; omega⟩⟩
/-- sorted, they are the queue -/
theorem sorted_queue {ps : List PayS} {bank : Int} {xs : List Int} (hs : SeqsApart ps) (hp : xs.Perm (waitTo ps bank ps.length)) (ho : xs.Pairwise fun i j => ¬ lessK ps j i) : xs = queueM ps bank := by
  have hn : xs.Nodup := hp.nodup_iff.2 (wait_spec ps bank ps.length).1
  have hm : ∀ i, i ∈ xs ↔ Mine ps bank i := fun i => (hp.mem_iff).trans (wait_all ps bank i)
  refine queueM_unique hn hm ?_ hs
  have h1 : xs.Pairwise fun i j => i ≠ j ∧ ¬ lessK ps j i := List.Pairwise.and hn ho
  exact List.Pairwise.imp_of_mem (fun {a b} ha hb hab => lessK_total hs ((hm a).1 ha) ((hm b).1 hb) hab.1 hab.2) h1
theorem wait_none {ps : List PayS} {bank : Int} (h : ¬ (0 ≤ bank ∧ bank < 4)) (hg : GoodPs ps) : queueM ps bank = [] := by
  cases hq : queueM ps bank with
  | nil => rfl
  | cons i r =>
    obtain ⟨_, p, hp, _, h2⟩ := queueM_mine (show i ∈ queueM ps bank by rw [hq]; simp)
    have := hg p (List.mem_of_getElem? hp)
    have ht := pay_transfer this
    exfalso
    apply h
    subst h2
    exact (transfer_lt ht).1
end Go.Proofs.Ytbgnmapmiobjcaa
