/- After a sweep no bank's first payment may be sent; each that was settled was the first of its bank, and might be sent. No condition. -/
import Derived.Test.YtbgnmapmiobjcaaM6
namespace Go.Proofs.Ytbgnmapmiobjcaa
open Go.RowKit
set_option linter.unusedSimpArgs false
set_option linter.unusedVariables false

theorem drain_same {bank : Int} {s : QS} (h : (drain bank s).xs.length = s.xs.length) : firstM s.c s.ps bank = none ∧ drain bank s = s := by
  cases hf : firstM s.c s.ps bank with
  | none => exact ⟨rfl, drain_end hf⟩
  | some i =>
    exfalso
    rw [drain_go hf] at h
    have := (drain_facts bank (s.go i)).2.2
    simp only [QS.go, List.length_append, List.length_cons, List.length_nil] at this
    simp only [QS.go] at h
    omega
theorem sweep_rests : ∀ (m bank idle : Nat) (s : QS), 5 * cnt s.ps + (4 - idle) = m → bank < 4 → idle ≤ 4 → (∀ d, 1 ≤ d → d ≤ idle → firstM s.c s.ps (((bank + 4 - d) % 4 : Nat) : Int) = none) →
    ∀ b : Nat, b < 4 → firstM (sweepFrom bank idle s).c (sweepFrom bank idle s).ps b = none := by
  intro m
  induction m using Nat.strongRecOn with
  | _ m ih =>
    intro bank idle s hm hb hi h b hb4
    by_cases h4 : idle < 4
    · have hf := drain_facts bank s
      by_cases hl : (drain bank s).xs.length = s.xs.length
      · rw [sweep_idle h4 rfl hl]
        obtain ⟨h1, h2⟩ := drain_same hl
        rw [h2]
        refine ih _ ?_ ((bank + 1) % 4) (idle + 1) s rfl (Nat.mod_lt _ (by decide)) (by omega) (fun d hd1 hd2 => ?_) b hb4
        · omega
        · by_cases hd : d = 1
          · subst hd
            rw [show ((bank + 1) % 4 + 4 - 1) % 4 = bank by omega]; exact h1
          · have := h (d - 1) (by omega) (by omega)
            rwa [show (bank + 4 - (d - 1)) % 4 = ((bank + 1) % 4 + 4 - d) % 4 by omega] at this
      · rw [sweep_busy h4 rfl hl]
        exact ih _ (by omega) ((bank + 1) % 4) 0 _ rfl (Nat.mod_lt _ (by decide)) (by omega) (fun d hd1 hd2 => by omega) b hb4
    · rw [sweep_end h4]
      have hi4 : idle = 4 := by omega
      by_cases hbb : b < bank
      · have := h (bank - b) (by omega) (by omega)
        rwa [show (bank + 4 - (bank - b)) % 4 = b by omega] at this
      · have := h (bank + 4 - b) (by omega) (by omega)
        rwa [show (bank + 4 - (bank + 4 - b)) % 4 = b by omega] at this
theorem sweepM_rests {c : H} {ps : List PayS} (hg : goodB c ps = true) (b : Nat) (hb : b < 4) : firstM (sweepM c ps).c (sweepM c ps).ps b = none := by
  simp only [sweepM, hg, cond_true]
  exact sweep_rests _ 0 0 _ rfl (by decide) (by decide) (fun d h1 h2 => by omega) b hb

/-- a list of payments, each the first of its bank and such that it may be sent, one after the other -/
def Chain (c : H) (ps : List PayS) : List Int → Prop
  | [] => True
  | i :: r => (∃ b : Nat, b < 4 ∧ firstM c ps b = some i) ∧ Chain (settleC c ps i) (settleP ps i) r
def chainC (c : H) (ps : List PayS) : List Int → H
  | [] => c
  | i :: r => chainC (settleC c ps i) (settleP ps i) r
def chainP (ps : List PayS) : List Int → List PayS
  | [] => ps
  | i :: r => chainP (settleP ps i) r
/-- what has been done from one state to the next -/
def Goes (s t : QS) : Prop := ∃ r, t.xs = s.xs ++ r ∧ Chain s.c s.ps r ∧ t.c = chainC s.c s.ps r ∧ t.ps = chainP s.ps r
theorem Goes.refl (s : QS) : Goes s s := ⟨[], by simp, trivial, rfl, rfl⟩
theorem Goes.cons {s t : QS} {b : Nat} {i : Int} (hb : b < 4) (h : firstM s.c s.ps b = some i) (ht : Goes (s.go i) t) : Goes s t := by
  obtain ⟨r, h1, h2, h3, h4⟩ := ht
  exact ⟨i :: r, by rw [h1]; simp [QS.go], ⟨⟨b, hb, h⟩, h2⟩, h3, h4⟩
theorem chain_append : ∀ (r q : List Int) (c : H) (ps : List PayS), Chain c ps r → Chain (chainC c ps r) (chainP ps r) q → Chain c ps (r ++ q) ∧ chainC c ps (r ++ q) = chainC (chainC c ps r) (chainP ps r) q ∧ chainP ps (r ++ q) = chainP (chainP ps r) q
  | [], q, c, ps, _, h => ⟨h, rfl, rfl⟩
  | i :: r, q, c, ps, h1, h2 => by
    obtain ⟨e1, e2, e3⟩ := chain_append r q _ _ h1.2 h2
    exact ⟨⟨h1.1, e1⟩, e2, e3⟩
theorem Goes.trans {s t u : QS} (h1 : Goes s t) (h2 : Goes t u) : Goes s u := by
  obtain ⟨r, a1, a2, a3, a4⟩ := h1
  obtain ⟨q, b1, b2, b3, b4⟩ := h2
  rw [a3, a4] at b2 b3
  rw [a4] at b4
  obtain ⟨e1, e2, e3⟩ := chain_append r q _ _ a2 b2
  exact ⟨r ++ q, by rw [b1, a1, List.append_assoc], e1, by rw [b3, e2], by rw [b4, e3]⟩
theorem drain_goes : ∀ (m : Nat) (b : Nat) (s : QS), b < 4 → cnt s.ps = m → Goes s (drain b s) := by
  intro m
  induction m using Nat.strongRecOn with
  | _ m ih =>
    intro b s hb hm
    cases hf : firstM s.c s.ps b with
    | none => rw [drain_end hf]; exact Goes.refl s
    | some i =>
      rw [drain_go hf]
      obtain ⟨p, r, _, h1, _⟩ := firstM_spec hf
      have := cnt_settle h1
      exact Goes.cons hb hf (ih (cnt (s.go i).ps) (by simp only [QS.go]; omega) b (s.go i) hb rfl)
theorem sweep_goes : ∀ (m bank idle : Nat) (s : QS), 5 * cnt s.ps + (4 - idle) = m → bank < 4 → Goes s (sweepFrom bank idle s) := by
  intro m
  induction m using Nat.strongRecOn with
  | _ m ih =>
    intro bank idle s hm hb
    by_cases h4 : idle < 4
    · have hf := drain_facts bank s
      have hd := drain_goes _ bank s hb rfl
      by_cases hl : (drain bank s).xs.length = s.xs.length
      · rw [sweep_idle h4 rfl hl]
        exact hd.trans (ih _ (by omega) _ _ _ rfl (Nat.mod_lt _ (by decide)))
      · rw [sweep_busy h4 rfl hl]
        exact hd.trans (ih _ (by omega) _ _ _ rfl (Nat.mod_lt _ (by decide)))
    · rw [sweep_end h4]; exact Goes.refl s
theorem sweepM_goes {c : H} {ps : List PayS} (hg : goodB c ps = true) : Chain c ps (sweepM c ps).xs ∧ (sweepM c ps).c = chainC c ps (sweepM c ps).xs ∧ (sweepM c ps).ps = chainP ps (sweepM c ps).xs := by
  simp only [sweepM, hg, cond_true]
  obtain ⟨r, h1, h2, h3, h4⟩ := sweep_goes _ 0 0 ⟨c, ps, []⟩ rfl (by decide)
  simp only [List.nil_append] at h1
  rw [h1]
  exact ⟨h2, h3, h4⟩
end Go.Proofs.Ytbgnmapmiobjcaa
