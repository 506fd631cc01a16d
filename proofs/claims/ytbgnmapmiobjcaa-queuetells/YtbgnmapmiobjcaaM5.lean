/- What the sweep comes to, said plainly. No condition. -/
import Derived.Test.YtbgnmapmiobjcaaM4
namespace Go.Proofs.Ytbgnmapmiobjcaa
open Go.RowKit
set_option linter.unusedSimpArgs false
set_option linter.unusedVariables false

structure QS where
  c : H
  ps : List PayS
  xs : List Int
/-- the first payment of a bank's queue, where it may be sent -/
def firstM (c : H) (ps : List PayS) (bank : Int) : Option Int := match queueM ps bank with
  | [] => none
  | i :: _ => match ps[i.toNat]? with
    | some p => bif maySendM c bank p.dst p.amt then some i else none
    | none => none
def cnt (ps : List PayS) : Nat := ps.countP fun p => decide (p.sta = 1)
def QS.go (s : QS) (i : Int) : QS := { c := settleC s.c s.ps i, ps := settleP s.ps i, xs := s.xs ++ [i] }
theorem queueTo_mine (ps : List PayS) (bank : Int) : ∀ k, ∀ i ∈ queueTo ps bank k, Mine ps bank i
  | 0, i, h => by simp [queueTo] at h
  | k + 1, i, h => by
    cases hb : decide (0 ≤ bestTo ps bank (queueTo ps bank k) ps.length)
    · rw [queueTo_no hb] at h; exact queueTo_mine ps bank k i h
    · rw [queueTo_yes hb] at h
      rcases List.mem_append.1 h with h | h
      · exact queueTo_mine ps bank k i h
      · simp at h; subst h; exact (best_mine ps bank _ _ (of_decide_eq_true hb)).1
theorem queueM_mine {ps : List PayS} {bank i : Int} (h : i ∈ queueM ps bank) : Mine ps bank i := queueTo_mine ps bank _ i h
theorem Mine.settles {ps : List PayS} {bank i : Int} (h : Mine ps bank i) : ∃ p, settles ps i = some p ∧ ps[i.toNat]? = some p ∧ p.sta = 1 ∧ p.src = bank := by
  obtain ⟨h0, p, hp, h1, h2⟩ := h
  exact ⟨p, by unfold Proofs.Ytbgnmapmiobjcaa.settles; simp [h0, hp, h1], hp, h1, h2⟩
theorem settleP_len (ps : List PayS) (n : Int) : (settleP ps n).length = ps.length := by unfold settleP; split <;> simp
theorem settles_spec {ps : List PayS} {n : Int} {p : PayS} (h : settles ps n = some p) : 0 ≤ n ∧ ps[n.toNat]? = some p ∧ p.sta = 1 := by
  unfold settles at h
  split at h
  · rename_i h0
    split at h
    · rename_i q hq
      split at h
      · rename_i h1
        simp at h; subst h
        exact ⟨h0, hq, h1⟩
      · cases h
    · cases h
  · cases h
theorem cnt_settle {ps : List PayS} {n : Int} {p : PayS} (h : settles ps n = some p) : cnt (settleP ps n) + 1 = cnt ps := by
  obtain ⟨h0, hp, h1⟩ := settles_spec h
  obtain ⟨hlt, he⟩ := List.getElem?_eq_some_iff.1 hp
  simp only [settleP, h, cnt]
  rw [List.countP_set hlt]
  have : 0 < ps.countP fun p => decide (p.sta = 1) := List.countP_pos_iff.2 ⟨p, List.mem_of_getElem? hp, by simpa using h1⟩
  simp [he, h1]
  omega
theorem firstM_spec {c : H} {ps : List PayS} {bank i : Int} (h : firstM c ps bank = some i) : ∃ p r, queueM ps bank = i :: r ∧ settles ps i = some p ∧ p.src = bank ∧ maySendM c bank p.dst p.amt = true := by
  unfold firstM at h
  split at h
  · cases h
  · rename_i j r hq
    split at h
    · rename_i p hp
      cases hm : maySendM c bank p.dst p.amt
      · rw [hm] at h; cases h
      · rw [hm] at h
        simp at h; subst h
        obtain ⟨q, h1, h2, h3, h4⟩ := (queueM_mine (ps := ps) (bank := bank) (i := j) (by rw [hq]; simp)).settles
        rw [h2] at hp; simp at hp; subst hp
        exact ⟨q, r, hq, h1, h4, hm⟩
    · cases h
theorem firstM_yes {c : H} {ps : List PayS} {bank i : Int} {r : List Int} {p : PayS} (hq : queueM ps bank = i :: r) (hp : ps[i.toNat]? = some p) (hm : maySendM c bank p.dst p.amt = true) : firstM c ps bank = some i := by
  simp only [firstM, hq, hp, hm, cond_true]
theorem firstM_no {c : H} {ps : List PayS} {bank i : Int} {r : List Int} {p : PayS} (hq : queueM ps bank = i :: r) (hp : ps[i.toNat]? = some p) (hm : maySendM c bank p.dst p.amt = false) : firstM c ps bank = none := by
  simp only [firstM, hq, hp, hm, cond_false]
theorem firstM_nil {c : H} {ps : List PayS} {bank : Int} (hq : queueM ps bank = []) : firstM c ps bank = none := by
  simp only [firstM, hq]
/-- one bank, as long as it may -/
def drain (bank : Int) (s : QS) : QS := match h : firstM s.c s.ps bank with
  | some i => drain bank (s.go i)
  | none => s
termination_by cnt s.ps
decreasing_by
  obtain ⟨p, r, _, h1, _⟩ := firstM_spec h
  have := cnt_settle h1
  simp only [QS.go]
  omega
theorem drain_go {bank i : Int} {s : QS} (h : firstM s.c s.ps bank = some i) : drain bank s = drain bank (s.go i) := by
  rw [drain]
  split
  · rename_i j hj; rw [h] at hj; simp at hj; subst hj; rfl
  · rename_i hj; rw [h] at hj; cases hj
theorem drain_end {bank : Int} {s : QS} (h : firstM s.c s.ps bank = none) : drain bank s = s := by
  rw [drain]
  split
  · rename_i j hj; rw [h] at hj; cases hj
  · rfl
theorem drain_facts (bank : Int) (s : QS) : firstM (drain bank s).c (drain bank s).ps bank = none ∧ (drain bank s).xs.length + cnt (drain bank s).ps = s.xs.length + cnt s.ps ∧ s.xs.length ≤ (drain bank s).xs.length := by
  generalize hn : cnt s.ps = n
  induction n using Nat.strongRecOn generalizing s with
  | _ n ih =>
    cases h : firstM s.c s.ps bank with
    | none => rw [drain_end h]; exact ⟨h, by omega, Nat.le_refl _⟩
    | some i =>
      rw [drain_go h]
      obtain ⟨p, r, _, h1, _⟩ := firstM_spec h
      have := cnt_settle h1
      obtain ⟨e1, e2, e3⟩ := ih (cnt (s.go i).ps) (by simp only [QS.go]; omega) (s.go i) rfl
      refine ⟨e1, ?_, ?_⟩
      · rw [e2]; simp only [QS.go, List.length_append, List.length_cons, List.length_nil]; omega
      · simp only [QS.go, List.length_append, List.length_cons, List.length_nil] at e3; simp only [QS.go] at *; omega
/-- the banks in turn, until four in a row can do nothing -/
def sweepFrom (bank idle : Nat) (s : QS) : QS :=
  if h : idle < 4 then
    if h2 : (drain bank s).xs.length = s.xs.length then sweepFrom ((bank + 1) % 4) (idle + 1) (drain bank s) else sweepFrom ((bank + 1) % 4) 0 (drain bank s)
  else s
termination_by 5 * cnt s.ps + (4 - idle)
decreasing_by
  all_goals
    have := drain_facts bank s
    omega
theorem sweep_end {bank idle : Nat} {s : QS} (h : ¬ idle < 4) : sweepFrom bank idle s = s := by rw [sweepFrom, dif_neg h]
theorem sweep_idle {bank idle : Nat} {s s' : QS} (h : idle < 4) (hd : drain bank s = s') (h2 : s'.xs.length = s.xs.length) : sweepFrom bank idle s = sweepFrom ((bank + 1) % 4) (idle + 1) s' := by
  subst hd
  rw [sweepFrom, dif_pos h]
  simp only [h2, dite_true]
theorem sweep_busy {bank idle : Nat} {s s' : QS} (h : idle < 4) (hd : drain bank s = s') (h2 : ¬ s'.xs.length = s.xs.length) : sweepFrom bank idle s = sweepFrom ((bank + 1) % 4) 0 s' := by
  subst hd
  rw [sweepFrom, dif_pos h]
  simp only [h2, dite_false]
def sweepM (c : H) (ps : List PayS) : QS := bif goodB c ps then sweepFrom 0 0 ⟨c, ps, []⟩ else ⟨c, ps, []⟩
end Go.Proofs.Ytbgnmapmiobjcaa
