/- The queue is the one list of a bank's queued payments in the order of class, then number. No condition. -/
import Derived.Test.YtbgnmapmiobjcaaM5
namespace Go.Proofs.Ytbgnmapmiobjcaa
open Go.RowKit
set_option linter.unusedSimpArgs false
set_option linter.unusedVariables false

def payLt (p q : PayS) : Prop := p.cls < q.cls ∨ (p.cls = q.cls ∧ p.seq < q.seq)
/-- payment i comes before payment j -/
def lessK (ps : List PayS) (i j : Int) : Prop := ∃ p q, ps[i.toNat]? = some p ∧ ps[j.toNat]? = some q ∧ payLt p q
theorem payLt_trans {p q r : PayS} (h1 : payLt p q) (h2 : payLt q r) : payLt p r := by unfold payLt at *; omega
theorem payLt_irrefl (p : PayS) : ¬ payLt p p := by unfold payLt; omega
theorem not_payLt_trans {p q r : PayS} (h1 : ¬ payLt q p) (h2 : ¬ payLt r q) : ¬ payLt r p := by unfold payLt at *; omega

theorem best_least (ps : List PayS) (bank : Int) (taken : List Int) : ∀ k, k ≤ ps.length → ∀ (j : Nat), j < k → Mine ps bank j → (j : Int) ∉ taken → 0 ≤ bestTo ps bank taken k ∧ ¬ lessK ps j (bestTo ps bank taken k)
  | 0, _, j, hj, _, _ => by omega
  | k + 1, hk, j, hj, hm, ht => by
    obtain ⟨p, hp⟩ : ∃ p, ps[k]? = some p := ⟨ps[k], by simp⟩
    rw [best_step hp]
    have hr := best_range ps bank taken k
    by_cases hjk : j < k
    · obtain ⟨h0, h1⟩ := best_least ps bank taken k (by omega) j hjk hm ht
      cases hw : wantB ps bank taken (bestTo ps bank taken k) k p
      · exact ⟨h0, h1⟩
      · simp only [cond_true]
        refine ⟨by omega, ?_⟩
        rintro ⟨a, b, ha, hb, hab⟩
        simp at hb; rw [hp] at hb; simp at hb; subst hb
        obtain ⟨c, hc⟩ : ∃ c, ps[(bestTo ps bank taken k).toNat]? = some c := ⟨ps[(bestTo ps bank taken k).toNat]'(by omega), by simp⟩
        have hlt : payLt p c := by
          simp only [wantB, better, hc, Bool.and_eq_true, Bool.or_eq_true, decide_eq_true_eq] at hw
          unfold payLt
          omega
        exact h1 ⟨a, c, ha, hc, payLt_trans hab hlt⟩
    · obtain rfl : j = k := by omega
      obtain ⟨_, q, hq, hs, hsrc⟩ := hm
      simp at hq; rw [hp] at hq; simp at hq; subst hq
      cases hw : wantB ps bank taken (bestTo ps bank taken j) j p
      · simp only [cond_false]
        have hnb : better ps (bestTo ps bank taken j) p = false := by
          simpa [wantB, hs, hsrc, ht] using hw
        simp only [better, Bool.or_eq_false_iff, decide_eq_false_iff_not] at hnb
        have h0 : 0 ≤ bestTo ps bank taken j := by omega
        refine ⟨h0, ?_⟩
        rintro ⟨a, b, ha, hb, hab⟩
        simp at ha; rw [hp] at ha; simp at ha; subst ha
        have h2 := hnb.2
        rw [hb] at h2
        simp only [Bool.or_eq_false_iff, decide_eq_false_iff_not, Bool.and_eq_false_iff] at h2
        unfold payLt at hab
        omega
      · simp only [cond_true]
        refine ⟨by omega, ?_⟩
        rintro ⟨a, b, ha, hb, hab⟩
        rw [ha] at hb; simp at hb; subst hb
        exact payLt_irrefl _ hab

structure QTo (ps : List PayS) (bank : Int) (k : Nat) (xs : List Int) : Prop where
  mine : ∀ i ∈ xs, Mine ps bank i
  nodup : xs.Nodup
  sorted : xs.Pairwise fun i j => ¬ lessK ps j i
  rest : ∀ j, Mine ps bank j → j ∉ xs → (∀ i ∈ xs, ¬ lessK ps j i) ∧ xs.length = k
theorem Mine.lt {ps : List PayS} {bank i : Int} (h : Mine ps bank i) : 0 ≤ i ∧ i.toNat < ps.length := by
  obtain ⟨h0, p, hp, _⟩ := h
  exact ⟨h0, (List.getElem?_eq_some_iff.1 hp).1⟩
theorem queueTo_spec (ps : List PayS) (bank : Int) : ∀ k, QTo ps bank k (queueTo ps bank k)
  | 0 => ⟨by simp [queueTo], by simp [queueTo], by simp [queueTo], fun j _ _ => by simp [queueTo]⟩
  | k + 1 => by
    have ih := queueTo_spec ps bank k
    cases hb : decide (0 ≤ bestTo ps bank (queueTo ps bank k) ps.length)
    · have hb0 := of_decide_eq_false hb
      rw [queueTo_no hb]
      refine ⟨ih.mine, ih.nodup, ih.sorted, fun j hj hn => ?_⟩
      exfalso
      obtain ⟨h0, h1⟩ := hj.lt
      have := best_least ps bank (queueTo ps bank k) ps.length (Nat.le_refl _) j.toNat h1 (by rwa [Int.toNat_of_nonneg h0]) (by rwa [Int.toNat_of_nonneg h0])
      exact hb0 this.1
    · have hb0 := of_decide_eq_true hb
      rw [queueTo_yes hb]
      obtain ⟨hm, hn⟩ := best_mine ps bank (queueTo ps bank k) ps.length hb0
      have hrest := ih.rest _ hm hn
      refine ⟨fun i hi => ?_, ?_, ?_, fun j hj hnj => ?_⟩
      · rcases List.mem_append.1 hi with hi | hi
        · exact ih.mine i hi
        · simp at hi; subst hi; exact hm
      · rw [List.nodup_append]
        refine ⟨ih.nodup, by simp, fun a ha b hb e => ?_⟩
        simp at hb; subst hb; subst e; exact hn ha
      · rw [List.pairwise_append]
        refine ⟨ih.sorted, by simp, fun a ha b hb => ?_⟩
        simp at hb; subst hb
        exact hrest.1 a ha
      · simp at hnj
        obtain ⟨h1, h2⟩ := ih.rest j hj hnj.1
        refine ⟨fun i hi => ?_, by simp [h2]⟩
        rcases List.mem_append.1 hi with hi | hi
        · exact h1 i hi
        · simp at hi; subst hi
          obtain ⟨g0, g1⟩ := hj.lt
          have := best_least ps bank (queueTo ps bank k) ps.length (Nat.le_refl _) j.toNat g1 (by rwa [Int.toNat_of_nonneg g0]) (by rw [Int.toNat_of_nonneg g0]; exact hnj.1)
          rw [Int.toNat_of_nonneg g0] at this
          exact this.2
/-- numbers below n, each once: no more than n, and all of them where they are n -/
theorem nodup_full : ∀ (n : Nat) (xs : List Int), xs.Nodup → (∀ i ∈ xs, 0 ≤ i ∧ i < n) → xs.length ≤ n ∧ (xs.length = n → ∀ j : Int, 0 ≤ j → j < n → j ∈ xs)
  | 0, xs, _, h => by
    cases xs with
    | nil => exact ⟨by simp, fun _ j h0 h1 => by omega⟩
    | cons a r => have := h a (by simp); omega
  | n + 1, xs, hn, h => by
    by_cases hm : (n : Int) ∈ xs
    · have hp := List.perm_cons_erase hm
      have hn' : (xs.erase (n : Int)).Nodup := hn.erase _
      have hl := hp.length_eq
      simp at hl
      have := nodup_full n (xs.erase (n : Int)) hn' (fun i hi => by
        have h1 := h i (List.mem_of_mem_erase hi)
        have h2 : i ≠ n := fun e => by subst e; exact (List.Nodup.not_mem_erase hn) hi
        omega)
      have h0 := List.length_pos_of_mem hm
      refine ⟨by omega, fun he j h0 h1 => ?_⟩
      by_cases hj : j = n
      · rw [hj]; exact hm
      · exact List.mem_of_mem_erase (this.2 (by omega) j h0 (by omega))
    · have := nodup_full n xs hn (fun i hi => by
        have h1 := h i hi
        have h2 : i ≠ n := fun e => hm (e ▸ hi)
        omega)
      exact ⟨by omega, fun he => by omega⟩
theorem queueM_all {ps : List PayS} {bank j : Int} (h : Mine ps bank j) : j ∈ queueM ps bank := by
  have hs := queueTo_spec ps bank ps.length
  by_cases hj : j ∈ queueTo ps bank ps.length
  · exact hj
  · have := (hs.rest j h hj).2
    have hf := nodup_full ps.length _ hs.nodup (fun i hi => by have := (hs.mine i hi).lt; omega)
    have := h.lt
    exact hf.2 (by assumption) j (by omega) (by omega)
theorem mem_queueM {ps : List PayS} {bank j : Int} : j ∈ queueM ps bank ↔ Mine ps bank j := ⟨queueM_mine, queueM_all⟩
/-- with numbers that differ, the queue's order is strict .. -/
def SeqsApart (ps : List PayS) : Prop := ∀ (i j : Nat) (p q : PayS), ps[i]? = some p → ps[j]? = some q → p.seq = q.seq → i = j
theorem lessK_total {ps : List PayS} {bank i j : Int} (hs : SeqsApart ps) (hi : Mine ps bank i) (hj : Mine ps bank j) (hne : i ≠ j) (h : ¬ lessK ps j i) : lessK ps i j := by
  obtain ⟨i0, p, hp, _⟩ := hi
  obtain ⟨j0, q, hq, _⟩ := hj
  refine ⟨p, q, hp, hq, ?_⟩
  have h1 : ¬ payLt q p := fun e => h ⟨q, p, hq, hp, e⟩
  have h2 : p.seq ≠ q.seq := fun e => hne (by have := hs _ _ p q hp hq e; omega)
  unfold payLt at *
  omega
theorem queueM_sorted {ps : List PayS} (hs : SeqsApart ps) (bank : Int) : (queueM ps bank).Pairwise (lessK ps) := by
  have h := queueTo_spec ps bank ps.length
  have h1 : (queueM ps bank).Pairwise fun i j => i ≠ j ∧ ¬ lessK ps j i := (List.Pairwise.and h.nodup h.sorted)
  exact (List.Pairwise.imp_of_mem (fun {a b} ha hb hab => lessK_total hs (queueM_mine ha) (queueM_mine hb) hab.1 hab.2) h1)
/-- .. and so it is the only such list -/
theorem queueM_unique {ps : List PayS} {bank : Int} {xs : List Int} (hn : xs.Nodup) (hm : ∀ i, i ∈ xs ↔ Mine ps bank i) (hx : xs.Pairwise (lessK ps)) (hs : SeqsApart ps) : xs = queueM ps bank := by
  have hp : xs.Perm (queueM ps bank) := (List.perm_ext_iff_of_nodup hn (queueTo_spec ps bank ps.length).nodup).2 fun i => (hm i).trans (mem_queueM (ps := ps) (bank := bank)).symm
  refine List.Perm.eq_of_pairwise (le := lessK ps) (fun a b _ _ h1 h2 => ?_) hx (queueM_sorted hs bank) hp
  obtain ⟨p, q, e1, e2, e3⟩ := h1
  obtain ⟨p', q', e4, e5, e6⟩ := h2
  rw [e1] at e5; rw [e2] at e4
  simp at e4 e5; subst e4; subst e5
  exact absurd (payLt_trans e3 e6) (payLt_irrefl _)
end Go.Proofs.Ytbgnmapmiobjcaa
