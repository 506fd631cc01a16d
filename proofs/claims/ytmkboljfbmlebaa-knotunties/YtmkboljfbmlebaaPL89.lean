/- What knotUnties_holds stands on, part 9: each part says what it proves. No condition beside those that it names. -/
import Derived.Test.YtmkboljfbmlebaaPL88
import Derived.Great.BuildSlice
import Derived.Sort.Grow
import Derived.Deep.Draws
/- The queue is the one list of a bank's queued payments in the order of class, then number. No condition. -/
namespace Go.Proofs.Ytmkboljfbmlebaa
open Go.RowKit
set_option linter.unusedSimpArgs false
set_option linter.unusedVariables false

def payLt (p q : PayS) : Prop := p.cls < q.cls ∨ (p.cls = q.cls ∧ p.seq < q.seq)
/-- payment i comes before payment j -/
def lessK (ps : List PayS) (i j : Int) : Prop := ∃ p q, ps[i.toNat]? = some p ∧ ps[j.toNat]? = some q ∧ payLt p q
theorem payLt_trans {p q r : PayS} (h1 : payLt p q) (h2 : payLt q r) : payLt p r := by unfold payLt at *; omega
theorem payLt_irrefl (p : PayS) : ¬ payLt p p := by unfold payLt; omega
theorem not_payLt_trans {p q r : PayS} (h1 : ¬ payLt q p) (h2 : ¬ payLt r q) : ¬ payLt r p := by unfold payLt at *; omega

theorem best_least (ps : List PayS) (bank : Int) (taken : List Int) : ∀ k, k ≤ ps.length → ∀ (j : Nat), j < k → Mine ps bank j → (j : Int) ∉ taken → 0 ≤ bestTo ps bank taken k ∧ ¬ lessK ps j (bestTo ps bank taken k)
  | 0, _, j, hj, _, _ => by omega
  | k + 1, hk, j, hj, hm, ht => by
    obtain ⟨p, hp⟩ : ∃ p, ps[k]? = some p := ⟨ps[k], by simp⟩
    rw [best_step hp]
    have hr := best_range ps bank taken k
    by_cases hjk : j < k
    · obtain ⟨h0, h1⟩ := best_least ps bank taken k (by omega) j hjk hm ht
      cases hw : wantB ps bank taken (bestTo ps bank taken k) k p
      · exact ⟨h0, h1⟩
      · simp only [cond_true]
        refine ⟨by omega, ?_⟩
        rintro ⟨a, b, ha, hb, hab⟩
        simp at hb; rw [hp] at hb; simp at hb; subst hb
        obtain ⟨c, hc⟩ : ∃ c, ps[(bestTo ps bank taken k).toNat]? = some c := ⟨ps[(bestTo ps bank taken k).toNat]'(by omega), by simp⟩
        have hlt : payLt p c := by
          simp only [wantB, better, hc, Bool.and_eq_true, Bool.or_eq_true, decide_eq_true_eq] at hw
          unfold payLt
          omega
        exact h1 ⟨a, c, ha, hc, payLt_trans hab hlt⟩
    · obtain rfl : j = k := by omega
      obtain ⟨_, q, hq, hs, hsrc⟩ := hm
      simp at hq; rw [hp] at hq; simp at hq; subst hq
      cases hw : wantB ps bank taken (bestTo ps bank taken j) j p
      · simp only [cond_false]
        have hnb : better ps (bestTo ps bank taken j) p = false := by
          simpa [wantB, hs, hsrc, ht] using hw
        simp only [better, Bool.or_eq_false_iff, decide_eq_false_iff_not] at hnb
        have h0 : 0 ≤ bestTo ps bank taken j := by omega
        refine ⟨h0, ?_⟩
        rintro ⟨a, b, ha, hb, hab⟩
        simp at ha; rw [hp] at ha; simp at ha; subst ha
        have h2 := hnb.2
        rw [hb] at h2
        simp only [Bool.or_eq_false_iff, decide_eq_false_iff_not, Bool.and_eq_false_iff] at h2
        unfold payLt at hab
        omega
      · simp only [cond_true]
        refine ⟨by omega, ?_⟩
        rintro ⟨a, b, ha, hb, hab⟩
        rw [ha] at hb; simp at hb; subst hb
        exact payLt_irrefl _ hab

structure QTo (ps : List PayS) (bank : Int) (k : Nat) (xs : List Int) : Prop where
  mine : ∀ i ∈ xs, Mine ps bank i
  nodup : xs.Nodup
  sorted : xs.Pairwise fun i j => ¬ lessK ps j i
  rest : ∀ j, Mine ps bank j → j ∉ xs → (∀ i ∈ xs, ¬ lessK ps j i) ∧ xs.length = k
theorem Mine.lt {ps : List PayS} {bank i : Int} (h : Mine ps bank i) : 0 ≤ i ∧ i.toNat < ps.length := by
  obtain ⟨h0, p, hp, _⟩ := h
  exact ⟨h0, (List.getElem?_eq_some_iff.1 hp).1⟩
theorem queueTo_spec (ps : List PayS) (bank : Int) : ∀ k, QTo ps bank k (queueTo ps bank k)
  | 0 => ⟨by simp [queueTo], by simp [queueTo], by simp [queueTo], fun j _ _ => by simp [queueTo]⟩
  | k + 1 => by
    have ih := queueTo_spec ps bank k
    cases hb : decide (0 ≤ bestTo ps bank (queueTo ps bank k) ps.length)
    · have hb0 := of_decide_eq_false hb
      rw [queueTo_no hb]
      refine ⟨ih.mine, ih.nodup, ih.sorted, fun j hj hn => ?_⟩
      exfalso
      obtain ⟨h0, h1⟩ := hj.lt
      have := best_least ps bank (queueTo ps bank k) ps.length (Nat.le_refl _) j.toNat h1 (by rwa [Int.toNat_of_nonneg h0]) (by rwa [Int.toNat_of_nonneg h0])
      exact hb0 this.1
    · have hb0 := of_decide_eq_true hb
      rw [queueTo_yes hb]
      obtain ⟨hm, hn⟩ := best_mine ps bank (queueTo ps bank k) ps.length hb0
      have hrest := ih.rest _ hm hn
      refine ⟨fun i hi => ?_, ?_, ?_, fun j hj hnj => ?_⟩
      · rcases List.mem_append.1 hi with hi | hi
        · exact ih.mine i hi
        · simp at hi; subst hi; exact hm
      · rw [List.nodup_append]
        refine ⟨ih.nodup, by simp, fun a ha b hb e => ?_⟩
        simp at hb; subst hb; subst e; exact hn ha
      · rw [List.pairwise_append]
        refine ⟨ih.sorted, by simp, fun a ha b hb => ?_⟩
        simp at hb; subst hb
        exact hrest.1 a ha
      · simp at hnj
        obtain ⟨h1, h2⟩ := ih.rest j hj hnj.1
        refine ⟨fun i hi => ?_, by simp [h2]⟩
        rcases List.mem_append.1 hi with hi | hi
        · exact h1 i hi
        · simp at hi; subst hi
          obtain ⟨g0, g1⟩ := hj.lt
          have := best_least ps bank (queueTo ps bank k) ps.length (Nat.le_refl _) j.toNat g1 (by rwa [Int.toNat_of_nonneg g0]) (by rw [Int.toNat_of_nonneg g0]; exact hnj.1)
          rw [Int.toNat_of_nonneg g0] at this
          exact this.2
/-- numbers below n, each once: no more than n, and all of them where they are n -/
theorem nodup_full : ∀ (n : Nat) (xs : List Int), xs.Nodup → (∀ i ∈ xs, 0 ≤ i ∧ i < n) → xs.length ≤ n ∧ (xs.length = n → ∀ j : Int, 0 ≤ j → j < n → j ∈ xs)
  | 0, xs, _, h => by
    cases xs with
    | nil => exact ⟨by simp, fun _ j h0 h1 => by omega⟩
    | cons a r => have := h a (by simp); omega
  | n + 1, xs, hn, h => by
    by_cases hm : (n : Int) ∈ xs
    · have hp := List.perm_cons_erase hm
      have hn' : (xs.erase (n : Int)).Nodup := hn.erase _
      have hl := hp.length_eq
      simp at hl
      have := nodup_full n (xs.erase (n : Int)) hn' (fun i hi => by
        have h1 := h i (List.mem_of_mem_erase hi)
        have h2 : i ≠ n := fun e => by subst e; exact (List.Nodup.not_mem_erase hn) hi
        omega)
      have h0 := List.length_pos_of_mem hm
      refine ⟨by omega, fun he j h0 h1 => ?_⟩
      by_cases hj : j = n
      · rw [hj]; exact hm
      · exact List.mem_of_mem_erase (this.2 (by omega) j h0 (by omega))
    · have := nodup_full n xs hn (fun i hi => by
        have h1 := h i hi
        have h2 : i ≠ n := fun e => hm (e ▸ hi)
        omega)
      exact ⟨by omega, fun he => by omega⟩
theorem queueM_all {ps : List PayS} {bank j : Int} (h : Mine ps bank j) : j ∈ queueM ps bank := by
  have hs := queueTo_spec ps bank ps.length
  by_cases hj : j ∈ queueTo ps bank ps.length
  · exact hj
  · have := (hs.rest j h hj).2
    have hf := nodup_full ps.length _ hs.nodup (fun i hi => by have := (hs.mine i hi).lt; omega)
    have := h.lt
    exact hf.2 (by assumption) j (by omega) (by omega)
theorem mem_queueM {ps : List PayS} {bank j : Int} : j ∈ queueM ps bank ↔ Mine ps bank j := ⟨queueM_mine, queueM_all⟩
/-- with numbers that differ, the queue's order is strict .. -/
def SeqsApart (ps : List PayS) : Prop := ∀ (i j : Nat) (p q : PayS), ps[i]? = some p → ps[j]? = some q → p.seq = q.seq → i = j
theorem lessK_total {ps : List PayS} {bank i j : Int} (hs : SeqsApart ps) (hi : Mine ps bank i) (hj : Mine ps bank j) (hne : i ≠ j) (h : ¬ lessK ps j i) : lessK ps i j := by
  obtain ⟨i0, p, hp, _⟩ := hi
  obtain ⟨j0, q, hq, _⟩ := hj
  refine ⟨p, q, hp, hq, ?_⟩
  have h1 : ¬ payLt q p := fun e => h ⟨q, p, hq, hp, e⟩
  have h2 : p.seq ≠ q.seq := fun e => hne (by have := hs _ _ p q hp hq e; omega)
  unfold payLt at *
  omega
theorem queueM_sorted {ps : List PayS} (hs : SeqsApart ps) (bank : Int) : (queueM ps bank).Pairwise (lessK ps) := by
  have h := queueTo_spec ps bank ps.length
  have h1 : (queueM ps bank).Pairwise fun i j => i ≠ j ∧ ¬ lessK ps j i := (List.Pairwise.and h.nodup h.sorted)
  exact (List.Pairwise.imp_of_mem (fun {a b} ha hb hab => lessK_total hs (queueM_mine ha) (queueM_mine hb) hab.1 hab.2) h1)
/-- .. and so it is the only such list -/
theorem queueM_unique {ps : List PayS} {bank : Int} {xs : List Int} (hn : xs.Nodup) (hm : ∀ i, i ∈ xs ↔ Mine ps bank i) (hx : xs.Pairwise (lessK ps)) (hs : SeqsApart ps) : xs = queueM ps bank := by
  have hp : xs.Perm (queueM ps bank) := (List.perm_ext_iff_of_nodup hn (queueTo_spec ps bank ps.length).nodup).2 fun i => (hm i).trans (mem_queueM (ps := ps) (bank := bank)).symm
  refine List.Perm.eq_of_pairwise (le := lessK ps) (fun a b _ _ h1 h2 => ?_) hx (queueM_sorted hs bank) hp
  obtain ⟨p, q, e1, e2, e3⟩ := h1
  obtain ⟨p', q', e4, e5, e6⟩ := h2
  rw [e1] at e5; rw [e2] at e4
  simp at e4 e5; subst e4; subst e5
  exact absurd (payLt_trans e3 e6) (payLt_irrefl _)
end Go.Proofs.Ytmkboljfbmlebaa
/- After a sweep no bank's first payment may be sent; each that was settled was the first of its bank, and might be sent. No condition. -/
namespace Go.Proofs.Ytmkboljfbmlebaa
open Go.RowKit
set_option linter.unusedSimpArgs false
set_option linter.unusedVariables false

theorem drain_same {bank : Int} {s : QS} (h : (drain bank s).xs.length = s.xs.length) : firstM s.c s.ps bank = none ∧ drain bank s = s := by
  cases hf : firstM s.c s.ps bank with
  | none => exact ⟨rfl, drain_end hf⟩
  | some i =>
    exfalso
    rw [drain_go hf] at h
    have := (drain_facts bank (s.go i)).2.2
    simp only [QS.go, List.length_append, List.length_cons, List.length_nil] at this
    simp only [QS.go] at h
    omega
theorem sweep_rests : ∀ (m bank idle : Nat) (s : QS), 5 * cnt s.ps + (4 - idle) = m → bank < 4 → idle ≤ 4 → (∀ d, 1 ≤ d → d ≤ idle → firstM s.c s.ps (((bank + 4 - d) % 4 : Nat) : Int) = none) →
    ∀ b : Nat, b < 4 → firstM (sweepFrom bank idle s).c (sweepFrom bank idle s).ps b = none := by
  intro m
  induction m using Nat.strongRecOn with
  | _ m ih =>
    intro bank idle s hm hb hi h b hb4
    by_cases h4 : idle < 4
    · have hf := drain_facts bank s
      by_cases hl : (drain bank s).xs.length = s.xs.length
      · rw [sweep_idle h4 rfl hl]
        obtain ⟨h1, h2⟩ := drain_same hl
        rw [h2]
        refine ih _ ?_ ((bank + 1) % 4) (idle + 1) s rfl (Nat.mod_lt _ (by decide)) (by omega) (fun d hd1 hd2 => ?_) b hb4
        · omega
        · by_cases hd : d = 1
          · subst hd
            rw [show ((bank + 1) % 4 + 4 - 1) % 4 = bank by omega]; exact h1
          · have := h (d - 1) (by omega) (by omega)
            rwa [show (bank + 4 - (d - 1)) % 4 = ((bank + 1) % 4 + 4 - d) % 4 by omega] at this
      · rw [sweep_busy h4 rfl hl]
        exact ih _ (by omega) ((bank + 1) % 4) 0 _ rfl (Nat.mod_lt _ (by decide)) (by omega) (fun d hd1 hd2 => by omega) b hb4
    · rw [sweep_end h4]
      have hi4 : idle = 4 := by omega
      by_cases hbb : b < bank
      · have := h (bank - b) (by omega) (by omega)
        rwa [show (bank + 4 - (bank - b)) % 4 = b by omega] at this
      · have := h (bank + 4 - b) (by omega) (by omega)
        rwa [show (bank + 4 - (bank + 4 - b)) % 4 = b by omega] at this
theorem sweepM_rests {c : H} {ps : List PayS} (hg : goodB c ps = true) (b : Nat) (hb : b < 4) : firstM (sweepM c ps).c (sweepM c ps).ps b = none := by
  simp only [sweepM, hg, cond_true]
  exact sweep_rests _ 0 0 _ rfl (by decide) (by decide) (fun d h1 h2 => by omega) b hb

/-- a list of payments, each the first of its bank and such that it may be sent, one after the other -/
def Chain (c : H) (ps : List PayS) : List Int → Prop
  | [] => True
  | i :: r => (∃ b : Nat, b < 4 ∧ firstM c ps b = some i) ∧ Chain (settleC c ps i) (settleP ps i) r
def chainC (c : H) (ps : List PayS) : List Int → H
  | [] => c
  | i :: r => chainC (settleC c ps i) (settleP ps i) r
def chainP (ps : List PayS) : List Int → List PayS
  | [] => ps
  | i :: r => chainP (settleP ps i) r
/-- what has been done from one state to the next -/
def Goes (s t : QS) : Prop := ∃ r, t.xs = s.xs ++ r ∧ Chain s.c s.ps r ∧ t.c = chainC s.c s.ps r ∧ t.ps = chainP s.ps r
theorem Goes.refl (s : QS) : Goes s s := ⟨[], by simp, trivial, rfl, rfl⟩
theorem Goes.cons {s t : QS} {b : Nat} {i : Int} (hb : b < 4) (h : firstM s.c s.ps b = some i) (ht : Goes (s.go i) t) : Goes s t := by
  obtain ⟨r, h1, h2, h3, h4⟩ := ht
  exact ⟨i :: r, by rw [h1]; simp [QS.go], ⟨⟨b, hb, h⟩, h2⟩, h3, h4⟩
theorem chain_append : ∀ (r q : List Int) (c : H) (ps : List PayS), Chain c ps r → Chain (chainC c ps r) (chainP ps r) q → Chain c ps (r ++ q) ∧ chainC c ps (r ++ q) = chainC (chainC c ps r) (chainP ps r) q ∧ chainP ps (r ++ q) = chainP (chainP ps r) q
  | [], q, c, ps, _, h => ⟨h, rfl, rfl⟩
  | i :: r, q, c, ps, h1, h2 => by
    obtain ⟨e1, e2, e3⟩ := chain_append r q _ _ h1.2 h2
    exact ⟨⟨h1.1, e1⟩, e2, e3⟩
theorem Goes.trans {s t u : QS} (h1 : Goes s t) (h2 : Goes t u) : Goes s u := by
  obtain ⟨r, a1, a2, a3, a4⟩ := h1
  obtain ⟨q, b1, b2, b3, b4⟩ := h2
  rw [a3, a4] at b2 b3
  rw [a4] at b4
  obtain ⟨e1, e2, e3⟩ := chain_append r q _ _ a2 b2
  exact ⟨r ++ q, by rw [b1, a1, List.append_assoc], e1, by rw [b3, e2], by rw [b4, e3]⟩
theorem drain_goes : ∀ (m : Nat) (b : Nat) (s : QS), b < 4 → cnt s.ps = m → Goes s (drain b s) := by
  intro m
  induction m using Nat.strongRecOn with
  | _ m ih =>
    intro b s hb hm
    cases hf : firstM s.c s.ps b with
    | none => rw [drain_end hf]; exact Goes.refl s
    | some i =>
      rw [drain_go hf]
      obtain ⟨p, r, _, h1, _⟩ := firstM_spec hf
      have := cnt_settle h1
      exact Goes.cons hb hf (ih (cnt (s.go i).ps) (by simp only [QS.go]; omega) b (s.go i) hb rfl)
theorem sweep_goes : ∀ (m bank idle : Nat) (s : QS), 5 * cnt s.ps + (4 - idle) = m → bank < 4 → Goes s (sweepFrom bank idle s) := by
  intro m
  induction m using Nat.strongRecOn with
  | _ m ih =>
    intro bank idle s hm hb
    by_cases h4 : idle < 4
    · have hf := drain_facts bank s
      have hd := drain_goes _ bank s hb rfl
      by_cases hl : (drain bank s).xs.length = s.xs.length
      · rw [sweep_idle h4 rfl hl]
        exact hd.trans (ih _ (by omega) _ _ _ rfl (Nat.mod_lt _ (by decide)))
      · rw [sweep_busy h4 rfl hl]
        exact hd.trans (ih _ (by omega) _ _ _ rfl (Nat.mod_lt _ (by decide)))
    · rw [sweep_end h4]; exact Goes.refl s
theorem sweepM_goes {c : H} {ps : List PayS} (hg : goodB c ps = true) : Chain c ps (sweepM c ps).xs ∧ (sweepM c ps).c = chainC c ps (sweepM c ps).xs ∧ (sweepM c ps).ps = chainP ps (sweepM c ps).xs := by
  simp only [sweepM, hg, cond_true]
  obtain ⟨r, h1, h2, h3, h4⟩ := sweep_goes _ 0 0 ⟨c, ps, []⟩ rfl (by decide)
  simp only [List.nil_append] at h1
  rw [h1]
  exact ⟨h2, h3, h4⟩
end Go.Proofs.Ytmkboljfbmlebaa
/- What may be done together: where each bank stands behind it, and that of two such the more of each bank may be done too. No condition. -/
namespace Go.Proofs.Ytmkboljfbmlebaa
open Go.RowKit
set_option linter.unusedSimpArgs false
set_option linter.unusedVariables false

def moveQ (ps : List PayS) (bank : Int) (x : H) : List Int → H
  | [] => x
  | i :: r => moveQ ps bank (match ps[i.toNat]? with | some p => moveM x bank p.dst p.amt | none => x) r
theorem moveQ_snoc (ps : List PayS) (bank : Int) : ∀ (xs : List Int) (x : H) (i : Int), moveQ ps bank x (xs ++ [i]) = (match ps[i.toNat]? with | some p => moveM (moveQ ps bank x xs) bank p.dst p.amt | none => moveQ ps bank x xs)
  | [], x, i => rfl
  | j :: r, x, i => by simp only [List.cons_append, moveQ]; exact moveQ_snoc ps bank r _ i
def movesTo (h : H) (ps : List PayS) (n : Int → Int) : Nat → H
  | 0 => h
  | b + 1 => moveQ ps b (movesTo h ps n b) ((queueM ps b).take (n b).toNat)
def okBank (x : H) (b : Int) : Bool := !decide (wr (x.has b + x.cred b) < 0) && a4 fun t => !(decide (0 ≤ x.lim b t) && decide (x.lim b t < wr (x.sent b t - x.sent t b)))
def togetherM (h : H) (ps : List PayS) (n : Int → Int) : Bool :=
  goodB h ps && (a4 fun b => withinB (n b) 0 (queueM ps b).length) && a4 fun b => decide (n b = 0) || okBank (movesTo h ps n 4) b

/-! sums -/
def amtOf (ps : List PayS) (i : Int) : Int := match ps[i.toNat]? with | some p => p.amt | none => 0
def toOf (ps : List PayS) (d i : Int) : Int := match ps[i.toNat]? with | some p => if p.dst = d then p.amt else 0 | none => 0
def outS (ps : List PayS) : List Int → Int
  | [] => 0
  | i :: r => amtOf ps i + outS ps r
def toS (ps : List PayS) (d : Int) : List Int → Int
  | [] => 0
  | i :: r => toOf ps d i + toS ps d r
def GoodL (ps : List PayS) (bank : Int) (xs : List Int) : Prop := ∀ i ∈ xs, ∃ p, ps[i.toNat]? = some p ∧ goodTransferB bank p.dst p.amt = true
structure Near (k : Int) (h : H) : Prop where
  has : ∀ i : Int, 0 ≤ i ∧ i < 4 → -1099511627776 - k * 1000000 ≤ h.has i ∧ h.has i ≤ 1099511627776 + k * 1000000
  sent : ∀ i j : Int, 0 ≤ i ∧ i < 4 → 0 ≤ j ∧ j < 4 → 0 ≤ h.sent i j ∧ h.sent i j ≤ 1099511627776 + k * 1000000
theorem GoodH.near {h : H} (g : GoodH h) : Near 0 h := ⟨fun i hi => by have := g.has i hi; omega, fun i j hi hj => by have := g.sent i j hi hj; omega⟩
theorem move_at {h : H} {k : Int} (hn : Near k h) (hk : k ≤ 1000000) {a b n : Int} (ht : goodTransferB a b n = true) :
    moveM h a b n = { h with has := up1 (up1 h.has a (h.has a - n)) b (h.has b + n), sent := up2 h.sent a b (h.sent a b + n) } := by
  obtain ⟨ha, hb, hne, h1, h2⟩ := transfer_spec ht
  have e1 := hn.has a ha
  have e2 := hn.has b hb
  have e3 := hn.sent a b ha hb
  unfold moveM
  rw [if_pos ht]
  have x1 : wr (h.has a - n) = h.has a - n := wr_in (by omega) (by omega)
  have x2 : up1 h.has a (wr (h.has a - n)) b = h.has b := by unfold up1; rw [if_neg (fun e => hne e.symm)]
  rw [x2, x1, wr_in (show -9223372036854775808 ≤ h.has b + n by omega) (by omega), wr_in (show -9223372036854775808 ≤ h.sent a b + n by omega) (by omega)]
theorem moveQ_spec (ps : List PayS) (bank : Int) : ∀ (xs : List Int) (h : H) (k : Int), GoodL ps bank xs → Near k h → 0 ≤ k → k + xs.length ≤ 1000000 →
    (∀ i : Int, 0 ≤ i ∧ i < 4 → (moveQ ps bank h xs).has i = h.has i - (if i = bank then outS ps xs else 0) + toS ps i xs) ∧
    (∀ i j : Int, 0 ≤ i ∧ i < 4 → 0 ≤ j ∧ j < 4 → (moveQ ps bank h xs).sent i j = h.sent i j + (if i = bank then toS ps j xs else 0)) ∧
    (moveQ ps bank h xs).cred = h.cred ∧ (moveQ ps bank h xs).lim = h.lim ∧ Near (k + xs.length) (moveQ ps bank h xs)
  | [], h, k, _, hn, _, _ => ⟨fun i _ => by simp [moveQ, outS, toS], fun i j _ _ => by simp [moveQ, toS], rfl, rfl, by simpa [moveQ] using hn⟩
  | x :: r, h, k, hg, hn, h0, hk => by
    obtain ⟨p, hp, ht⟩ := hg x (by simp)
    simp only [List.length_cons] at hk
    obtain ⟨ha, hb, hne, h1, h2⟩ := transfer_spec ht
    have hm := move_at hn (by omega) ht
    have hn' : Near (k + 1) (moveM h bank p.dst p.amt) := by
      rw [hm]
      refine ⟨fun i hi => ?_, fun i j hi hj => ?_⟩
      · have e1 := hn.has i hi
        simp only [up1]
        split
        · rename_i e; subst e; omega
        · split
          · rename_i e; subst e; omega
          · omega
      · have e1 := hn.sent i j hi hj
        simp only [up2]
        split
        · rename_i e; obtain ⟨e2, e3⟩ := e; subst e2; subst e3; omega
        · omega
    obtain ⟨i1, i2, i3, i4, i5⟩ := moveQ_spec ps bank r (moveM h bank p.dst p.amt) (k + 1) (fun i hi => hg i (by simp [hi])) hn' (by omega) (by omega)
    have hq : moveQ ps bank h (x :: r) = moveQ ps bank (moveM h bank p.dst p.amt) r := by simp only [moveQ, hp]
    rw [hq]
    refine ⟨fun i hi => ?_, fun i j hi hj => ?_, ?_, ?_, ?_⟩
    · rw [i1 i hi, hm]
      simp only [up1, outS, toS, amtOf, toOf, hp]
      by_cases e1 : i = p.dst
      · rw [e1]
        have e2 : ¬ p.dst = bank := fun e => hne e.symm
        simp only [e2, if_true, if_false]; omega
      · have e1' : ¬ p.dst = i := fun e => e1 e.symm
        by_cases e2 : i = bank
        · rw [e2]
          rw [e2] at e1 e1'
          simp only [e1, e1', if_true, if_false]; omega
        · simp only [e1, e1', e2, if_false]; omega
    · rw [i2 i j hi hj, hm]
      simp only [up2, toS, toOf, hp]
      by_cases e1 : i = bank
      · rw [e1]
        by_cases e2 : j = p.dst
        · rw [e2]; simp only [and_self, if_true]; omega
        · have e2' : ¬ p.dst = j := fun e => e2 e.symm
          simp only [e2, e2', and_false, if_true, if_false]; omega
      · simp only [e1, false_and, if_false]
    · rw [i3, hm]
    · rw [i4, hm]
    · have : k + ((x :: r).length : Int) = k + 1 + (r.length : Int) := by simp only [List.length_cons]; omega
      rw [this]; exact i5
theorem toOf_nonneg {ps : List PayS} {bank : Int} {xs : List Int} (hg : GoodL ps bank xs) (d : Int) : ∀ i ∈ xs, 0 ≤ toOf ps d i := fun i hi => by
  obtain ⟨p, hp, ht⟩ := hg i hi
  obtain ⟨_, _, _, h1, h2⟩ := transfer_spec ht
  simp only [toOf, hp]
  split <;> omega
theorem toS_take (ps : List PayS) (d : Int) : ∀ (xs : List Int), (∀ i ∈ xs, 0 ≤ toOf ps d i) → ∀ (a b : Nat), a ≤ b → toS ps d (xs.take a) ≤ toS ps d (xs.take b)
  | [], _, a, b, _ => by simp [toS]
  | x :: r, h, a, b, hab => by
    cases a with
    | zero =>
      have : ∀ ys : List Int, (∀ i ∈ ys, 0 ≤ toOf ps d i) → 0 ≤ toS ps d ys := by
        intro ys
        induction ys with
        | nil => intro _; simp [toS]
        | cons y r ih => intro h; have := h y (by simp); have := ih (fun i hi => h i (by simp [hi])); simp only [toS]; omega
      simp only [List.take_zero, toS]
      exact this _ (fun i hi => h i (List.mem_of_mem_take hi))
    | succ a =>
      cases b with
      | zero => omega
      | succ b =>
        simp only [List.take_succ_cons, toS]
        have := toS_take ps d r (fun i hi => h i (by simp [hi])) a b (by omega)
        omega
end Go.Proofs.Ytmkboljfbmlebaa
/- Houses that came back, compared. No condition. -/
namespace Go.Proofs.Ytmkboljfbmlebaa
open Go.RowKit
set_option linter.unusedSimpArgs false
set_option linter.unusedVariables false

theorem outPays {F G F' : Addr → Value → Prop} {h0 h : H} {ps0 ps : List PayS} (hp : PaysIn F h0.pa h0.pl ps0) (hF : More F F') (hG : More G F') (ho : (h.pa = h0.pa ∧ h.pl = h0.pl ∧ ps = ps0) ∨ PaysIn G h.pa h.pl ps) : PaysIn F' h.pa h.pl ps := by
  rcases ho with ⟨h1, h2, rfl⟩ | ho
  · rw [h1, h2]; exact hp.mono hF
  · exact ho.mono hG
theorem same_core {h k : H} {ps : List PayS} (hc : h.core = k.core) (hl : h.pl = k.pl) : sameB h ps k ps = true := by
  have e1 : h.has = k.has := show h.core.has = k.core.has by rw [hc]
  have e2 : h.cred = k.cred := show h.core.cred = k.core.cred by rw [hc]
  have e3 : h.sent = k.sent := show h.core.sent = k.core.sent by rw [hc]
  have e4 : h.lim = k.lim := show h.core.lim = k.core.lim by rw [hc]
  have e5 : h.next = k.next := show h.core.next = k.core.next by rw [hc]
  exact same_of (fun i _ => ⟨by rw [e1], by rw [e2]⟩) (fun i j _ _ => ⟨by rw [e3], by rw [e4]⟩) e5 hl
theorem chainP_len : ∀ (r : List Int) (ps : List PayS), (chainP ps r).length = ps.length
  | [], _ => rfl
  | i :: r, ps => by simp only [chainP]; rw [chainP_len r, settleP_len]
theorem chain_len : ∀ (r : List Int) (c : H) (ps : List PayS), Chain c ps r → r.length ≤ cnt ps
  | [], _, _, _ => by simp
  | i :: r, c, ps, h => by
    obtain ⟨⟨b, _, hf⟩, h2⟩ := h
    obtain ⟨p, _, _, h3, _⟩ := firstM_spec hf
    have := cnt_settle h3
    have := chain_len r _ _ h2
    simp only [List.length_cons]; omega
theorem sweepM_len (c : H) (ps : List PayS) : (sweepM c ps).ps.length = ps.length ∧ (sweepM c ps).xs.length ≤ ps.length := by
  cases hg : goodB c ps
  · simp [sweepM, hg]
  · obtain ⟨h1, h2, h3⟩ := sweepM_goes hg
    refine ⟨by rw [h3, chainP_len], ?_⟩
    have := chain_len _ _ _ h1
    have h4 : cnt ps ≤ ps.length := List.countP_le_length
    omega
section
variable {P : Program} {f : Nat → Value} {l : List Oper} {T : Nat → (Addr → Value → Prop) → Value → Prop} {d : Nat} {op : Op} {ty : TypeId} {pos : String} {af : Array Edge} {C : World → Prop}
theorem ob_passU {j s : Nat} {b : Bool} (hj : (l.toArray[j]?).bind (·.dst) = some s) (hs : ∀ (g : Nat → Value) (w : World), C w → (∀ t ∈ (⟨some d, op, ty, pos, af, some (j, b)⟩ : Oper).looksAt l.toArray, (t ∈ dstsOf l → Tab T t (g t) w) ∧ (t ∉ dstsOf l → g t = f t)) → g s = undef ∧ ∀ w, Tab T d undef w) : Ob P C f l (Tab T) ⟨some d, op, ty, pos, af, some (j, b)⟩ := by
  intro g w hw hl
  obtain ⟨h1, h3⟩ := hs g w hw hl
  have : ¬ Region.wanted ⟨some d, op, ty, pos, af, some (j, b)⟩ (yf l.toArray g) = true := by
    simp only [Region.wanted, yf, hj, h1]
    cases b <;> simp [undef]
  rw [if_neg this]
  intro e he
  simp at he; subst he
  exact h3 w
end
end Go.Proofs.Ytmkboljfbmlebaa
/- Lists of payments put together; what was the call's own, only kept in mind; the little house of 'queues'. No condition. -/
namespace Go.Proofs.Ytmkboljfbmlebaa
open Go.RowKit
set_option linter.unusedSimpArgs false
set_option linter.unusedVariables false

def sliceCells (P : Program) (T : TypeId) (len : Nat) (vs : List (Nat × Value)) : Option (TypeId × Array Value) := match P.underlying T with
  | some (.slice e) => match P.info? e with
    | some i => match i.zero with
      | some z => if len * i.size ≤ 100000 ∧ 0 < len * i.size then (Instr.fill (fun k => some (k * i.size, i.size)) ((Array.range (len * i.size)).map (z.cells[· % z.cells.size]!)) vs).map fun cs => (e, cs) else none
      | none => none
    | none => none
  | _ => none
section
variable {P : Program} {ops : Array Oper} {K : (Nat → Value) → World → Prop} {rest : List Oper} {f : Nat → Value} {d : Nat} {ty : TypeId} {pos : String} {af : Array Edge} {w0 : World} {F : Addr → Value → Prop} {E L : List (Nat × Obj)}
theorem s_buildS {T e len : Nat} {parts : List (Nat × Operand)} {vs : List (Nat × Value)} {cs : Array Value} (hv : parts.map (fun p => (p.1, ev f p.2)) = vs) (h : sliceCells P T len vs = some (e, cs))
    (kk : ∀ b, sC P ops K rest (upd f d (.slice (some ⟨b, 0, none⟩) len len)) (Has w0 F ((b, .cells cs e) :: L))) :
    sC P ops K (⟨some d, .buildSlice T len parts.toArray, ty, pos, af, none⟩ :: rest) f (Has w0 F L) := by
  intro w hw
  unfold sliceCells at h
  split at h
  · rename_i e' hu
    split at h
    · rename_i i hi
      split at h
      · rename_i z hz
        split at h
        · rename_i hb
          cases hfl : Instr.fill (fun k => some (k * i.size, i.size)) ((Array.range (len * i.size)).map (z.cells[· % z.cells.size]!)) vs with
          | none => rw [hfl] at h; cases h
          | some cs' =>
            rw [hfl] at h
            simp at h
            obtain ⟨rfl, rfl⟩ := h
            have hr := run_buildSlice (P := P) w T e' len vs.toArray cs' i z hu hi hz (by omega) (by omega) (by simpa using hfl)
            have e1 : (parts.toArray.map fun p => (p.1, ev f p.2)) = vs.toArray := by simp [hv]
            unfold sw
            rw [if_pos wanted_free]
            unfold opk
            have : (execOp (ev f) ⟨some d, .buildSlice T len parts.toArray, ty, pos, af, none⟩).run P w = .ok (.value (.slice (some ⟨w.heap.size, 0, none⟩) len len)) (w.alloc (.cells cs' e')) := by
              simp only [execOp]
              rw [e1]
              simp [hr]
            rw [this]
            exact kk _ _ (hw.alloc _)
        · cases h
      · cases h
    · cases h
  · cases h
theorem c_forget {n : Nat} {Q : Exit → (Nat → Value) → World → Prop} {y : Code} (h : ∀ F' : Addr → Value → Prop, More F F' → Knows F' E → cC P n y Q f (Has w0 F' L)) : cC P n y Q f (Has w0 F (E ++ L)) := fun w hw => by
  obtain ⟨h1, h2, h3⟩ := hw.forget
  exact h _ h2 h3 w h1
end
theorem cellsOf_flat (ps : List PayS) : CellsOf (flatC ps).toArray ps := fun j p hj k v hv => by simpa using flatC_get ps j p hj k v hv

/-! the house of 'queues': bank 0 has 9 and pays them to 1, who pays 4 of them to 2 -/
def qPays : List PayS := [⟨0, 1, 9, 0, 1, 1⟩, ⟨1, 2, 4, 0, 1, 0⟩]
def qHouse (pa : Option Addr) : H := { newM with has := up1 newM.has 0 9, next := 2, pa := pa, pl := 2, pc := 2 }
def qS0 : QS := ⟨(qHouse none).core, qPays, []⟩
theorem qSweep : sweepM (qHouse none).core qPays = (qS0.go 0).go 1 := by
  have g : goodB (qHouse none).core qPays = true := by kernel_rfl
  simp only [sweepM, g, cond_true]
  have a1 : firstM qS0.c qS0.ps ((0 : Nat) : Int) = some 0 := by kernel_rfl
  have a2 : firstM (qS0.go 0).c (qS0.go 0).ps ((0 : Nat) : Int) = none := by kernel_rfl
  have a3 : firstM (qS0.go 0).c (qS0.go 0).ps ((1 : Nat) : Int) = some 1 := by kernel_rfl
  have b0 : firstM ((qS0.go 0).go 1).c ((qS0.go 0).go 1).ps ((0 : Nat) : Int) = none := by kernel_rfl
  have b1 : firstM ((qS0.go 0).go 1).c ((qS0.go 0).go 1).ps ((1 : Nat) : Int) = none := by kernel_rfl
  have b2 : firstM ((qS0.go 0).go 1).c ((qS0.go 0).go 1).ps ((2 : Nat) : Int) = none := by kernel_rfl
  have b3 : firstM ((qS0.go 0).go 1).c ((qS0.go 0).go 1).ps ((3 : Nat) : Int) = none := by kernel_rfl
  have d1 : drain ((0 : Nat) : Int) qS0 = qS0.go 0 := (drain_go a1).trans (drain_end a2)
  have d2 : drain ((1 : Nat) : Int) (qS0.go 0) = (qS0.go 0).go 1 := (drain_go a3).trans (drain_end b1)
  show sweepFrom 0 0 qS0 = _
  rw [sweep_busy (by decide) d1 (by decide), sweep_busy (by decide) d2 (by decide), sweep_idle (by decide) (drain_end b2) rfl, sweep_idle (by decide) (drain_end b3) rfl, sweep_idle (by decide) (drain_end b0) rfl, sweep_idle (by decide) (drain_end b1) rfl, sweep_end (by decide)]
theorem qSweep_len : (sweepM (qHouse none).core qPays).xs.length = 2 := by rw [qSweep]; rfl
theorem qSweep_has : (sweepM (qHouse none).core qPays).c.has 1 = 5 := by rw [qSweep]; kernel_rfl
theorem qSweep_rest : queueM (sweepM (qHouse none).core qPays).ps 0 = [] := by rw [qSweep]; kernel_rfl
end Go.Proofs.Ytmkboljfbmlebaa
/- A house far from its bounds stays valid over a sweep, and loses no money. No condition. -/
namespace Go.Proofs.Ytmkboljfbmlebaa
open Go.RowKit
set_option linter.unusedSimpArgs false
set_option linter.unusedVariables false

def GoodPs (ps : List PayS) : Prop := ∀ p ∈ ps, goodPayB p = true
theorem goB_all {nx : Int} : ∀ (ps : List PayS) (seen : List Int), goB nx seen ps = true → GoodPs ps ∧ (∀ p ∈ ps, p.seq ∉ seen) ∧ ∀ (i j : Nat) (p q : PayS), ps[i]? = some p → ps[j]? = some q → p.seq = q.seq → i = j
  | [], seen, _ => ⟨fun p hp => (by cases hp), fun p hp => (by cases hp), fun i j p q h => (by simp at h)⟩
  | x :: r, seen, h => by
    simp only [goB] at h
    cases hb : (!goodPayB x || decide (nx ≤ x.seq) || decide (x.seq ∈ seen))
    · rw [hb] at h
      simp only [cond_false] at h
      simp only [Bool.or_eq_false_iff, Bool.not_eq_false', decide_eq_false_iff_not] at hb
      obtain ⟨h1, h2, h3⟩ := goB_all r _ h
      have hx : ∀ p ∈ r, p.seq ≠ x.seq := fun p hp e => h2 p hp (by rw [e]; simp)
      refine ⟨fun p hp => ?_, fun p hp => ?_, fun i j p q hi hj e => ?_⟩
      · rcases List.mem_cons.1 hp with rfl | hp
        · exact hb.1.1
        · exact h1 p hp
      · rcases List.mem_cons.1 hp with rfl | hp
        · exact hb.2
        · exact fun hm => h2 p hp (by simp [hm])
      · cases i with
        | zero =>
          cases j with
          | zero => rfl
          | succ j =>
            simp at hi hj; subst hi
            exact absurd e.symm (hx q (List.mem_of_getElem? hj))
        | succ i =>
          cases j with
          | zero =>
            simp at hi hj; subst hj
            exact absurd e (hx p (List.mem_of_getElem? hi))
          | succ j =>
            simp at hi hj
            rw [h3 i j p q hi hj e]
    · rw [hb] at h; cases h
theorem good_pays {h : H} {ps : List PayS} (hg : goodB h ps = true) : GoodPs ps ∧ SeqsApart ps ∧ ps.length ≤ 24 := by
  unfold goodB goodPaysB at hg
  simp only [Bool.and_eq_true] at hg
  obtain ⟨⟨⟨⟨_, h1⟩, _⟩, _⟩, _⟩ := hg
  cases hl : decide (24 < (ps.length : Int))
  · rw [hl] at h1
    simp only [cond_false] at h1
    obtain ⟨e1, _, e3⟩ := goB_all ps [] h1
    have := of_decide_eq_false hl
    exact ⟨e1, e3, by omega⟩
  · rw [hl] at h1; cases h1
structure Room (k : Int) (h : H) : Prop where
  has : ∀ i : Int, 0 ≤ i ∧ i < 4 → -1099478073344 - k * 1000000 ≤ h.has i ∧ h.has i ≤ 1099478073344 + k * 1000000
  cred : ∀ i : Int, 0 ≤ i ∧ i < 4 → 0 ≤ h.cred i ∧ h.cred i ≤ 1000000
  diag : ∀ i : Int, 0 ≤ i ∧ i < 4 → h.sent i i = 0
  sent : ∀ i j : Int, 0 ≤ i ∧ i < 4 → 0 ≤ j ∧ j < 4 → 0 ≤ h.sent i j ∧ h.sent i j ≤ 1099478073344 + k * 1000000
  lim : ∀ i j : Int, 0 ≤ i ∧ i < 4 → 0 ≤ j ∧ j < 4 → -1 ≤ h.lim i j ∧ h.lim i j ≤ 1000000
theorem Room.good {k : Int} {h : H} (r : Room k h) (hk : k ≤ 33) : GoodH h :=
  ⟨fun i hi => by have := r.has i hi; omega, r.cred, r.diag, fun i j hi hj => by have := r.sent i j hi hj; omega, r.lim⟩
theorem room_of {h : H} (g : GoodH h) (hr : roomyB h = true) : Room 0 h := by
  unfold roomyB at hr
  simp only [a4_iff, Bool.and_eq_true, Bool.not_eq_true', decide_eq_false_iff_not] at hr
  exact ⟨fun i hi => by have := (hr i hi).1; omega, g.cred, g.diag, fun i j hi hj => by have h1 := (hr i hi).2 j hj; have := g.sent i j hi hj; omega, g.lim⟩
theorem Room.move {k : Int} {h : H} (r : Room k h) (h0 : 0 ≤ k) (hk : k ≤ 32) {a b n : Int} (ht : goodTransferB a b n = true) : Room (k + 1) (moveM h a b n) := by
  obtain ⟨ha, hb, hne, h1, h2⟩ := transfer_spec ht
  rw [move_eq (r.good (by omega)) ht]
  refine ⟨fun i hi => ?_, r.cred, fun i hi => ?_, fun i j hi hj => ?_, r.lim⟩
  · have e1 := r.has i hi
    simp only [up1]
    split
    · rename_i e; subst e; omega
    · split
      · rename_i e; subst e; omega
      · omega
  · simp only [up2]
    split
    · rename_i e; exact absurd (e.1.symm.trans e.2) hne
    · exact r.diag i hi
  · have e1 := r.sent i j hi hj
    simp only [up2]
    split
    · rename_i e; obtain ⟨e2, e3⟩ := e; subst e2; subst e3; omega
    · omega
theorem settleP_good {ps : List PayS} (hg : GoodPs ps) (i : Int) : GoodPs (settleP ps i) := by
  unfold settleP
  split
  · rename_i p hs
    intro q hq
    obtain ⟨_, hp, _⟩ := settles_spec hs
    rcases List.mem_or_eq_of_mem_set hq with hq | rfl
    · exact hg q hq
    · have := hg p (List.mem_of_getElem? hp)
      simp only [goodPayB, goodStateB, Bool.and_eq_true] at this ⊢
      exact ⟨⟨this.1.1, by simp⟩, this.2⟩
  · exact hg
theorem pay_transfer {p : PayS} (h : goodPayB p = true) : goodTransferB p.src p.dst p.amt = true := by
  simp only [goodPayB, Bool.and_eq_true] at h
  exact h.1.1.1
theorem chain_room : ∀ (r : List Int) (c : H) (ps : List PayS) (k : Int), Room k c → GoodPs ps → Chain c ps r → 0 ≤ k → k + r.length ≤ 33 → Room (k + r.length) (chainC c ps r) ∧ GoodPs (chainP ps r) ∧ sumM (chainC c ps r) = sumM c
  | [], c, ps, k, hr, hg, _, _, _ => ⟨by simpa [chainC] using hr, hg, rfl⟩
  | i :: r, c, ps, k, hr, hg, hc, h0, hk => by
    obtain ⟨⟨b, _, hf⟩, h2⟩ := hc
    obtain ⟨p, _, _, h3, _⟩ := firstM_spec hf
    simp only [List.length_cons] at hk
    have hp := (settles_spec h3).2.1
    have ht := pay_transfer (hg p (List.mem_of_getElem? hp))
    have e : settleC c ps i = moveM c p.src p.dst p.amt := by simp only [settleC, h3]
    have hr' : Room (k + 1) (settleC c ps i) := by rw [e]; exact hr.move h0 (by omega) ht
    obtain ⟨a1, a2, a3⟩ := chain_room r _ _ (k + 1) hr' (settleP_good hg i) h2 (by omega) (by omega)
    refine ⟨?_, a2, ?_⟩
    · have e1 : k + ((i :: r).length : Int) = k + 1 + (r.length : Int) := by simp only [List.length_cons]; omega
      rw [e1]; exact a1
    · simp only [chainC]
      rw [a3, e]
      exact move_sum (hr.good (by omega)) _ _ _
/-- what a sweep of a roomy house leaves -/
theorem sweep_room {h : H} {ps : List PayS} (hg : goodB h.core ps = true) (hr : roomyB h.core = true) : GoodH (sweepM h.core ps).c ∧ sumM (sweepM h.core ps).c = sumM h.core ∧ (sweepM h.core ps).xs.length ≤ 24 := by
  obtain ⟨g1, g2, g3⟩ := good_pays hg
  obtain ⟨c1, c2, c3⟩ := sweepM_goes hg
  have hl : (sweepM h.core ps).xs.length ≤ 24 := by
    have h1 : ∀ (r : List Int) (c : H) (ps : List PayS), Chain c ps r → r.length ≤ cnt ps := by
      intro r
      induction r with
      | nil => intros; simp
      | cons i r ih =>
        intro c ps h
        obtain ⟨⟨b, _, hf⟩, h2⟩ := h
        obtain ⟨p, _, _, h3, _⟩ := firstM_spec hf
        have := cnt_settle h3
        have := ih _ _ h2
        simp only [List.length_cons]; omega
    have := h1 _ _ _ c1
    have h4 : cnt ps ≤ ps.length := List.countP_le_length
    omega
  obtain ⟨a1, a2, a3⟩ := chain_room _ _ _ 0 (room_of (good_of hg) hr) g1 c1 (by omega) (by omega)
  rw [c2]
  exact ⟨a1.good (by omega), a3, hl⟩
end Go.Proofs.Ytmkboljfbmlebaa
/- Queues that are drawn from the front, passes of a sweep, and the order of the payments as a comparison. No condition. -/
namespace Go.Proofs.Ytmkboljfbmlebaa
open Go.RowKit
set_option linter.unusedSimpArgs false
set_option linter.unusedVariables false

theorem settleP_at {ps : List PayS} {i : Int} {p : PayS} (h : settles ps i = some p) (j : Nat) : (settleP ps i)[j]? = if j = i.toNat then some { p with sta := 2 } else ps[j]? := by
  obtain ⟨h0, hp, h1⟩ := settles_spec h
  have hlt := (List.getElem?_eq_some_iff.1 hp).1
  simp only [settleP, h]
  rw [List.getElem?_set]
  by_cases hj : j = i.toNat
  · subst hj; simp [hlt]
  · rw [if_neg (Ne.symm hj), if_neg hj]
/-- settling turns nothing but the state -/
theorem settleP_old {ps : List PayS} {i : Int} {j : Nat} {q : PayS} (h : (settleP ps i)[j]? = some q) : ∃ p, ps[j]? = some p ∧ p.seq = q.seq ∧ p.cls = q.cls := by
  cases hs : settles ps i with
  | none => simp only [settleP, hs] at h; exact ⟨q, h, rfl, rfl⟩
  | some p =>
    rw [settleP_at hs] at h
    split at h
    · rename_i e
      subst e
      simp at h; subst h
      exact ⟨p, (settles_spec hs).2.1, rfl, rfl⟩
    · exact ⟨q, h, rfl, rfl⟩
theorem settleP_new {ps : List PayS} {i : Int} {j : Nat} {p : PayS} (h : ps[j]? = some p) : ∃ q, (settleP ps i)[j]? = some q ∧ p.seq = q.seq ∧ p.cls = q.cls := by
  have hlt := (List.getElem?_eq_some_iff.1 h).1
  obtain ⟨q, hq⟩ : ∃ q, (settleP ps i)[j]? = some q := ⟨(settleP ps i)[j]'(by rw [settleP_len]; exact hlt), by simp⟩
  obtain ⟨p', hp', e⟩ := settleP_old hq
  rw [h] at hp'; simp at hp'; subst hp'
  exact ⟨q, hq, e⟩
theorem SeqsApart.settle {ps : List PayS} (hs : SeqsApart ps) (n : Int) : SeqsApart (settleP ps n) := by
  intro i j p q hp hq e
  obtain ⟨p', hp', e1, _⟩ := settleP_old hp
  obtain ⟨q', hq', e2, _⟩ := settleP_old hq
  exact hs i j p' q' hp' hq' (by omega)
theorem lessK_settle {ps : List PayS} {n a b : Int} (h : lessK ps a b) : lessK (settleP ps n) a b := by
  obtain ⟨p, q, hp, hq, hl⟩ := h
  obtain ⟨p', hp', e1, e2⟩ := settleP_new (i := n) hp
  obtain ⟨q', hq', e3, e4⟩ := settleP_new (i := n) hq
  exact ⟨p', q', hp', hq', by unfold payLt at *; omega⟩
theorem queueM_nodup (ps : List PayS) (bank : Int) : (queueM ps bank).Nodup := (queueTo_spec ps bank ps.length).nodup
/-- behind its first one, a queue is what it was -/
theorem queue_tail {ps : List PayS} {bank i : Int} {r : List Int} (hs : SeqsApart ps) (hq : queueM ps bank = i :: r) : queueM (settleP ps i) bank = r := by
  have hn := queueM_nodup ps bank
  rw [hq] at hn
  obtain ⟨hn1, hn2⟩ := List.nodup_cons.1 hn
  obtain ⟨p, hst, hpi, hsta, hsrc⟩ := (queueM_mine (show i ∈ queueM ps bank by rw [hq]; simp)).settles
  have hi0 := (settles_spec hst).1
  have hso := queueM_sorted hs bank
  rw [hq] at hso
  refine (queueM_unique hn2 (fun j => ⟨fun hj => ?_, fun hj => ?_⟩) ((List.pairwise_cons.1 hso).2.imp fun h => lessK_settle h) (hs.settle i)).symm
  · obtain ⟨j0, q, h1, h2, h3⟩ := queueM_mine (show j ∈ queueM ps bank by rw [hq]; exact List.mem_cons_of_mem _ hj)
    have hne : j.toNat ≠ i.toNat := fun e => hn1 (by have : j = i := by omega
                                                     rw [← this]; exact hj)
    exact ⟨j0, q, by rw [settleP_at hst, if_neg hne]; exact h1, h2, h3⟩
  · obtain ⟨j0, q, h1, h2, h3⟩ := hj
    rw [settleP_at hst] at h1
    split at h1
    · simp at h1; subst h1; simp at h2
    · rename_i hne
      have : j ∈ queueM ps bank := queueM_all ⟨j0, q, h1, h2, h3⟩
      rw [hq] at this
      rcases List.mem_cons.1 this with e | h
      · exact absurd (by rw [e]) hne
      · exact h

/-! what was settled ahead of it does not matter to a bank -/
theorem drain_xs (bank : Int) : ∀ (m : Nat) (c : H) (ps : List PayS) (ys xs : List Int), cnt ps = m → drain bank ⟨c, ps, ys ++ xs⟩ = ⟨(drain bank ⟨c, ps, xs⟩).c, (drain bank ⟨c, ps, xs⟩).ps, ys ++ (drain bank ⟨c, ps, xs⟩).xs⟩ := by
  intro m
  induction m using Nat.strongRecOn with
  | _ m ih =>
    intro c ps ys xs hm
    cases h : firstM c ps bank with
    | none => rw [drain_end (s := ⟨c, ps, ys ++ xs⟩) h, drain_end (s := ⟨c, ps, xs⟩) h]
    | some i =>
      rw [drain_go (s := ⟨c, ps, ys ++ xs⟩) h, drain_go (s := ⟨c, ps, xs⟩) h]
      obtain ⟨p, r, _, h1, _⟩ := firstM_spec h
      have hc := cnt_settle h1
      have := ih (cnt (settleP ps i)) (by omega) (settleC c ps i) (settleP ps i) ys (xs ++ [i]) rfl
      simp only [QS.go]
      rw [List.append_assoc]
      exact this
theorem drain_app (bank : Int) (c : H) (ps : List PayS) (ys : List Int) : drain bank ⟨c, ps, ys⟩ = ⟨(drain bank ⟨c, ps, []⟩).c, (drain bank ⟨c, ps, []⟩).ps, ys ++ (drain bank ⟨c, ps, []⟩).xs⟩ := by
  have := drain_xs bank _ c ps ys [] rfl
  rwa [List.append_nil] at this
theorem drain_keeps (bank : Int) : ∀ (m : Nat) (s : QS), cnt s.ps = m → SeqsApart s.ps → SeqsApart (drain bank s).ps ∧ (drain bank s).ps.length = s.ps.length := by
  intro m
  induction m using Nat.strongRecOn with
  | _ m ih =>
    intro s hm hs
    cases h : firstM s.c s.ps bank with
    | none => rw [drain_end h]; exact ⟨hs, rfl⟩
    | some i =>
      rw [drain_go h]
      obtain ⟨p, r, _, h1, _⟩ := firstM_spec h
      have hc := cnt_settle h1
      obtain ⟨e1, e2⟩ := ih (cnt (settleP s.ps i)) (by omega) (s.go i) rfl (hs.settle i)
      exact ⟨e1, e2.trans (settleP_len _ _)⟩
theorem chainP_seqs : ∀ (r : List Int) (ps : List PayS), SeqsApart ps → SeqsApart (chainP ps r)
  | [], _, h => h
  | i :: r, ps, h => chainP_seqs r _ (h.settle i)
theorem sweepM_seqs {c : H} {ps : List PayS} (hs : SeqsApart ps) : SeqsApart (sweepM c ps).ps := by
  cases hg : goodB c ps
  · simp only [sweepM, hg, cond_false]; exact hs
  · rw [(sweepM_goes hg).2.2]; exact chainP_seqs _ _ hs

/-! the sweep, pass by pass: one more bank, whether it can do something or not -/
theorem pass_step {c : H} {ps : List PayS} (hg : goodB c ps = true) {k idle : Nat} {s : QS} (hk : k < 4) (hi : idle ≤ 4) (hs : sweepFrom k idle s = sweepM c ps) :
    ∃ idle', idle' ≤ 4 ∧ sweepFrom ((k + 1) % 4) idle' (drain k s) = sweepM c ps ∧ ((drain k s).xs.length = s.xs.length → idle' = 4 ∨ idle' = idle + 1) := by
  by_cases h4 : idle < 4
  · by_cases hx : (drain k s).xs.length = s.xs.length
    · exact ⟨idle + 1, by omega, by rw [← hs, sweep_idle h4 rfl hx], fun _ => .inr rfl⟩
    · exact ⟨0, by omega, by rw [← hs, sweep_busy h4 rfl hx], fun h => absurd h hx⟩
  · rw [sweep_end h4] at hs
    have hr := sweepM_rests hg k hk
    rw [← hs] at hr
    refine ⟨4, by omega, ?_, fun _ => .inl rfl⟩
    rw [drain_end hr, sweep_end (by omega)]
    exact hs

/-! the order of two payments as a number -/
def cmpI (a b : Int) : Int := bif decide (a < b) then -1 else bif decide (b < a) then 1 else 0
def cmpP (p q : PayS) : Int := bif decide (cmpI p.cls q.cls = 0) then cmpI p.seq q.seq else cmpI p.cls q.cls
theorem cmpI_neg (a b : Int) : cmpI a b < 0 ↔ a < b := by
  unfold cmpI
  by_cases h1 : a < b
  · simp [h1]
  · by_cases h2 : b < a <;> simp [h1, h2]
theorem cmpI_zero (a b : Int) : cmpI a b = 0 ↔ a = b := by
  unfold cmpI
  by_cases h1 : a < b
  · simp [h1]; omega
  · by_cases h2 : b < a
    · simp [h1, h2]; omega
    · simp [h1, h2]; omega
theorem cmpP_neg (p q : PayS) : cmpP p q < 0 ↔ payLt p q := by
  unfold cmpP payLt
  by_cases h : cmpI p.cls q.cls = 0
  · have := (cmpI_zero _ _).1 h
    simp only [h, decide_true, cond_true, cmpI_neg]; omega
  · have h' : ¬ p.cls = q.cls := fun e => h ((cmpI_zero _ _).2 e)
    simp only [h, decide_false, cond_false, cmpI_neg]; omega
theorem cmpI_range (a b : Int) : -1 ≤ cmpI a b ∧ cmpI a b ≤ 1 := by
  unfold cmpI
  cases decide (a < b) <;> cases decide (b < a) <;> simp

/-! the payments of a bank that wait, in the order of their places -/
def waitTo (ps : List PayS) (bank : Int) : Nat → List Int
  | 0 => []
  | k + 1 => match ps[k]? with
    | some p => bif decide (p.src = bank) && decide (p.sta = 1) then waitTo ps bank k ++ [(k : Int)] else waitTo ps bank k
    | none => waitTo ps bank k
theorem wait_step {ps : List PayS} {bank : Int} {k : Nat} {p : PayS} (h : ps[k]? = some p) : waitTo ps bank (k + 1) = bif decide (p.src = bank) && decide (p.sta = 1) then waitTo ps bank k ++ [(k : Int)] else waitTo ps bank k := by
  simp only [waitTo, h]
theorem wait_len (ps : List PayS) (bank : Int) : ∀ k, (waitTo ps bank k).length ≤ k
  | 0 => by simp [waitTo]
  | k + 1 => by
    have := wait_len ps bank k
    unfold waitTo
    split
    · rename_i p _
      cases decide (p.src = bank) && decide (p.sta = 1)
      · simp only [cond_false]; omega
      · simp only [cond_true, List.length_append, List.length_cons, List.length_nil]; omega
    · omega
theorem wait_spec (ps : List PayS) (bank : Int) : ∀ k, (waitTo ps bank k).Nodup ∧ ∀ i, i ∈ waitTo ps bank k ↔ Mine ps bank i ∧ i < k
  | 0 => ⟨by simp [waitTo], fun i => ⟨fun h => by simp [waitTo] at h, fun ⟨h1, h2⟩ => by have := h1.1; omega⟩⟩
  | k + 1 => by
    obtain ⟨h1, h2⟩ := wait_spec ps bank k
    have hno : ∀ i, (∀ p, ps[k]? = some p → ¬ (p.src = bank ∧ p.sta = 1)) → ((Mine ps bank i ∧ i < k) ↔ (Mine ps bank i ∧ i < ((k + 1 : Nat) : Int))) := fun i hn =>
      ⟨fun ⟨a, b⟩ => ⟨a, by omega⟩, fun ⟨a, b⟩ => ⟨a, by
        obtain ⟨i0, p, hp, h3, h4⟩ := a
        rcases Int.lt_or_le i k with h | h
        · exact h
        · have e : i.toNat = k := by omega
          rw [e] at hp
          exact absurd ⟨h4, h3⟩ (hn p hp)⟩⟩
    cases hp : ps[k]? with
    | none =>
      have e : waitTo ps bank (k + 1) = waitTo ps bank k := by simp only [waitTo, hp]
      rw [e]
      exact ⟨h1, fun i => (h2 i).trans (hno i (fun p h => by rw [hp] at h; cases h))⟩
    | some p =>
      rw [wait_step hp]
      cases hc : decide (p.src = bank) && decide (p.sta = 1)
      · simp only [cond_false]
        refine ⟨h1, fun i => (h2 i).trans (hno i (fun q h => ?_))⟩
        rw [hp] at h; simp at h; subst h
        simpa using hc
      · simp only [cond_true]
        simp at hc
        refine ⟨?_, fun i => ?_⟩
        · rw [List.nodup_append]
          refine ⟨h1, by simp, fun a ha b hb e => ?_⟩
          simp at hb; subst hb; subst e
          have := ((h2 _).1 ha).2
          omega
        · rw [List.mem_append, h2]
          constructor
          · rintro (⟨a, b⟩ | h)
            · exact ⟨a, by omega⟩
            · simp at h; subst h
              exact ⟨⟨by omega, p, by simpa using hp, hc.2, hc.1⟩, by omega⟩
          · rintro ⟨a, b⟩
            by_cases e : i = k
            · exact .inr (by simp [e])
            · exact .inl ⟨a, by omega⟩
theorem wait_all (ps : List PayS) (bank : Int) (i : Int) : i ∈ waitTo ps bank ps.length ↔ Mine ps bank i := by
  rw [(wait_spec ps bank ps.length).2]
  exact ⟨fun h => h.1, fun h => ⟨h, by have := h.lt; omega⟩⟩
/-- sorted, they are the queue -/
theorem sorted_queue {ps : List PayS} {bank : Int} {xs : List Int} (hs : SeqsApart ps) (hp : xs.Perm (waitTo ps bank ps.length)) (ho : xs.Pairwise fun i j => ¬ lessK ps j i) : xs = queueM ps bank := by
  have hn : xs.Nodup := hp.nodup_iff.2 (wait_spec ps bank ps.length).1
  have hm : ∀ i, i ∈ xs ↔ Mine ps bank i := fun i => (hp.mem_iff).trans (wait_all ps bank i)
  refine queueM_unique hn hm ?_ hs
  have h1 : xs.Pairwise fun i j => i ≠ j ∧ ¬ lessK ps j i := List.Pairwise.and hn ho
  exact List.Pairwise.imp_of_mem (fun {a b} ha hb hab => lessK_total hs ((hm a).1 ha) ((hm b).1 hb) hab.1 hab.2) h1
theorem wait_none {ps : List PayS} {bank : Int} (h : ¬ (0 ≤ bank ∧ bank < 4)) (hg : GoodPs ps) : queueM ps bank = [] := by
  cases hq : queueM ps bank with
  | nil => rfl
  | cons i r =>
    obtain ⟨_, p, hp, _, h2⟩ := queueM_mine (show i ∈ queueM ps bank by rw [hq]; simp)
    have := hg p (List.mem_of_getElem? hp)
    have ht := pay_transfer this
    exfalso
    apply h
    subst h2
    exact (transfer_lt ht).1
end Go.Proofs.Ytmkboljfbmlebaa
/- Functions as values, a slice held against nil, an empty list, payments copied onto it, and many numbers set behind a list. No condition. -/
namespace Go.Proofs.Ytmkboljfbmlebaa
open Go.RowKit
set_option linter.unusedSimpArgs false
set_option linter.unusedVariables false

/-- a call that only reads ends some draws and some blocks further -/
theorem Bel.grown {w w' : World} (h : Bel w.heap.size w w') : ∃ q os, w' = Sort.grow (w.drewN q) os := by
  refine ⟨w'.drawn - w.drawn, w'.heap.extract w.heap.size w'.heap.size, ?_⟩
  have e1 : w.drawn + (w'.drawn - w.drawn) = w'.drawn := by have := h.drawn; omega
  have e2 : w.heap ++ w'.heap.extract w.heap.size w'.heap.size = w'.heap := by
    apply Array.ext_getElem?
    intro k
    rcases Nat.lt_or_ge k w.heap.size with hk | hk
    · rw [Array.getElem?_append_left hk]; exact (h.block k hk).symm
    · rw [Array.getElem?_append_right hk, Array.getElem?_extract]
      split
      · congr 1; omega
      · rw [Array.getElem?_eq_none (by omega)]
  have e3 := h.os
  have e4 := h.tape
  have e5 := h.output
  cases w
  cases w'
  simp only [Sort.grow, World.drewN] at *
  subst e3 e4 e5
  rw [e1, e2]
theorem grow_bel (w : World) (q : Nat) (os : Array Obj) : Bel w.heap.size w (Sort.grow (w.drewN q) os) :=
  ⟨⟨rfl, rfl, rfl, by simp [Sort.grow, World.drewN], fun k hk => by
    show (w.heap ++ os)[k]? = w.heap[k]?
    rw [Array.getElem?_append_left hk]⟩, Nat.le_add_right _ _⟩

section
variable {P : Program} {f : Nat → Value} {C : World → Prop} {dst : Option Nat} {ty : TypeId} {pos : String} {af : Array Edge} {gd : Option (Nat × Bool)}
theorem v_makeFunc {fn : Fn} {xs : List Operand} {vs : List Value} (hx : xs.map (ev f) = vs) : Val P f C ⟨dst, .makeFunc fn #[] xs.toArray, ty, pos, af, gd⟩ (.func fn #[] vs.toArray) :=
  ⟨fun w _ => by simp [execOp, Instr.makeFunc, hx]⟩
theorem v_eqNil {x y : Operand} {T t' m : Nat} {a : Option Addr} {len cap : Nat} (hT : slB P T m = true) (hx : ev f x = .slice a len cap) (hy : ev f y = .slice none 0 0) : Val P f C ⟨dst, .binOp .eql T x y t', ty, pos, af, gd⟩ (.bool a.isNone) := by
  refine ⟨fun w _ => ?_⟩
  unfold slB at hT
  split at hT
  · rename_i e hu
    have hg : (eqGuard .eql T x y (.slice a len cap) (.slice none 0 0)).run P w = .ok () w := by
      simp [eqGuard]
    have he : (Op.equal T (.slice a len cap) (.slice none 0 0)).run P w = .ok a.isNone w := by
      unfold Op.equal
      show (Op.equalIn (_ + 1) T _ _).run P w = _
      unfold Op.equalIn
      simp only [Sem.run_bind]
      rw [run_underlying hu]
      cases a <;> simp
    simp [execOp, hx, hy, hg, binOp, he]
  · cases hT
variable {ops : Array Oper} {K : (Nat → Value) → World → Prop} {rest : List Oper} {d : Nat} {w0 : World} {F : Addr → Value → Prop} {E L : List (Nat × Obj)}
/-- a list of nothing, in a block of its own -/
theorem s_build0 {T e m by_ : Nat} (hT : rowB P T e m by_ = true) (kk : ∀ b, sC P ops K rest (upd f d (.slice (some ⟨b, 0, none⟩) 0 0)) (Has w0 F ((b, .cells #[] e) :: L))) :
    sC P ops K (⟨some d, .buildSlice T 0 #[], ty, pos, af, none⟩ :: rest) f (Has w0 F L) := by
  intro w hw
  obtain ⟨i, z, hu, hi, h1, h2, h3, h4⟩ := rowB_spec hT
  have : (Instr.buildSlice T 0 #[]).run P w = .ok (.slice (some ⟨w.heap.size, 0, none⟩) 0 0) (w.alloc (.cells #[] e)) := by
    simp [Instr.buildSlice, run_underlying hu, sizeOf, typeInfo, zeroValue, hi, h3, newRow, Instr.fill, show Array.range 0 = (#[] : Array Nat) from rfl]
  unfold sw
  rw [if_pos wanted_free]
  unfold opk
  have hr : (execOp (ev f) ⟨some d, .buildSlice T 0 #[], ty, pos, af, none⟩).run P w = .ok (.value (.slice (some ⟨w.heap.size, 0, none⟩) 0 0)) (w.alloc (.cells #[] e)) := by
    simp [execOp, this]
  rw [hr]
  exact kk _ _ (hw.alloc _)
theorem run_appendCopy0 {w : World} {T ty : TypeId} {g b o pl pc : Nat} {ps : List PayS} (hT : paySliceB P T = true) (hpos : 0 < pl) (hb : pl * 48 ≤ 281474976710656) (hl : ps.length = pl)
    (hc : ∀ (j : Nat) (p : PayS), ps[j]? = some p → ∀ (k : Nat) (v : Value), p.cells[k]? = some v → w.cell? ⟨b, o + j * 6 + k, none⟩ = some v) :
    ∃ (c : Nat) (cs : Array Value), pl ≤ c ∧ cs.size = c * 6 ∧ (∀ (i : Nat) (v : Value), (flatC ps)[i]? = some v → cs[i]? = some v) ∧ (Builtin.append_ #[T, T] ty #[.slice (some ⟨g, 0, none⟩) 0 0, .slice (some ⟨b, o, none⟩) pl pc]).run P w = .ok (.slice (some ⟨w.heap.size, 0, none⟩) pl c) (w.drew.alloc (.cells cs (payElem P T))) := by
  obtain ⟨i, z, hu, hs, hi, hby, hz, hzs⟩ := paySliceB_spec hT
  have hsz : ∀ w, (sizeOf (payElem P T)).run P w = .ok 6 w := fun w => sizeB_run hs
  have hld := load_pays (P := P) (w := w.drew) (b := b) (o := o) hl (fun j p hj k v hv => by simpa using hc j p hj k v hv)
  have hld0 : ∀ w : World, (loadCells ⟨g, 0, none⟩ (0 * 6)).run P w = .ok #[] w := fun w => by simp [loadCells, loadCellsFrom]
  have hcap : Builtin.nextslicecap pl 0 = pl := by unfold Builtin.nextslicecap; rw [if_pos (by omega)]
  have hask : ∀ n w, (askRoom n).run P w = .ok () w := by intro n w; unfold askRoom; split <;> rfl
  have hch : (choose (.appendCap pl 0 (payElem P T))).run P w = .ok (pl + w.tape w.drawn (.appendCap pl 0 (payElem P T)) % (2 ^ 63 - pl)) w.drew := by
    unfold choose
    simp only [Sem.run, Question.forced, Question.cut, Bool.false_eq_true, if_false]
    rfl
  generalize hcc : pl + w.tape w.drawn (.appendCap pl 0 (payElem P T)) % (2 ^ 63 - pl) = c at hch
  refine ⟨c, (flatC ps).toArray ++ Builtin.zeroCells z (c - pl), by omega, ?_, ?_, ?_⟩
  · have : (Builtin.zeroCells z (c - pl)).size = (c - pl) * 6 := by simp [Builtin.zeroCells, hzs]
    rw [Array.size_append, this]
    simp [flatC_length, hl]
    omega
  · intro j v hv
    rw [Array.getElem?_append_left (by simpa using (List.getElem?_eq_some_iff.1 hv).1)]
    simpa using hv
  · have hn : ¬ pl ≤ 0 := by omega
    have hlt : ¬ 2 ^ 48 < pl * 48 := by omega
    have hov : ¬ (IntKind.i64.max < (pl : Int) ∧ i.bytes = 0) := by rw [hby]; simp
    have hzv : (zeroValue (payElem P T)).run P w.drew = .ok (.agg z) w.drew := by simp [zeroValue, typeInfo, hi, hz]
    have hnew : ∀ (o : Obj) (w : World), Sem.run P (Sem.new o Sem.pure) w = .ok w.heap.size (w.alloc o) := fun _ _ => rfl
    have h0 : pl ≠ 0 := by omega
    have hn48 : ¬ 281474976710656 < pl * 48 := by omega
    simp only [Builtin.append_, Sem.run_bind, Sem.run_pure, Result.andThen_ok]
    simp [underlying, hu, hsz, Builtin.lenOf, h0, typeInfo, hi, hby, hcap, hn48, hch, hask, Builtin.firstCells, hld, hzv, Value.cells, newRow, newObj, hnew, loadCells, loadCellsFrom]
    have hcut : (Question.appendCap pl 0 (payElem P T)).cut (w.tape w.drawn (.appendCap pl 0 (payElem P T))) = c := hcc
    rw [if_neg (show ¬ (Question.appendCap pl 0 (payElem P T)).forced = true from Bool.false_ne_true), hcut]
    simp only [loadCells] at hld
    simp [hld, hzv, Value.cells]
/-- payments are set behind a list of nothing: they are copied -/
theorem s_appendCopy0 {T : TypeId} {x y : Operand} {ats : Array TypeId} {g : Nat} {pa : Option Addr} {pl pc : Nat} {ps : List PayS} (hT : paySliceB P T = true) (hat : ats = #[T, T]) (hx : ev f x = .slice (some ⟨g, 0, none⟩) 0 0) (hy : ev f y = .slice pa pl pc) (hp : PaysIn F pa pl ps) (hb : pl * 48 ≤ 281474976710656) (h0 : 0 < pl)
    (k1 : ∀ (b c : Nat) (cs : Array Value), pl ≤ c → cs.size = c * 6 → CellsOf cs ps → sC P ops K rest (upd f d (.slice (some ⟨b, 0, none⟩) pl c)) (Has w0 F ((b, .cells cs (payElem P T)) :: L))) :
    sC P ops K (⟨some d, .call ⟨.builtin .append, #[x, y], ats⟩, ty, pos, af, none⟩ :: rest) f (Has w0 F L) := by
  intro w hw
  unfold sw
  rw [if_pos wanted_free]
  unfold opk
  subst hat
  rcases hp.2 with h | ⟨b, o, rfl, hc⟩
  · exact absurd h (by omega)
  · obtain ⟨c, cs, h1, h2, h3, h4⟩ := run_appendCopy0 (P := P) (w := w) (T := T) (ty := ty) (g := g) (b := b) (o := o) (pl := pl) (pc := pc) hT h0 hb hp.1 (fun j p hj k v hv => hw.at _ _ (hc j p hj k v hv))
    have hr : (execOp (ev f) ⟨some d, .call ⟨.builtin .append, #[x, y], #[T, T]⟩, ty, pos, af, none⟩).run P w = .ok (.value (.slice (some ⟨w.heap.size, 0, none⟩) pl c)) (w.drew.alloc (.cells cs (payElem P T))) := by
      simp [execOp, resolve, invoke, builtin, hx, hy, h4]
    rw [hr]
    exact k1 _ c cs h1 h2 (fun j p hj k v hv => h3 _ _ (flatC_get ps j p hj k v hv)) _ (hw.drew.alloc _)
/-- numbers that stand in memory are set behind a list of the call's own -/
theorem s_pushAll {T e by_ n c : Nat} {ats : Array TypeId} {x y : Operand} {v : Value} {xs : List Value} {a : Option Addr} {ys : List Int} (hT : rowB P T e 1 by_ = true) (hbb : Nat.ble 1 by_ = true) (hat : ats = #[T, T])
    (hx : ev f x = v) (hy : ev f y = .slice a ys.length c) (hE : ListE e 1 v n xs E) (hi : IntsAt F a ys) (hbytes : (n + ys.length) * by_ ≤ 140737488355328)
    (kk : ∀ v' E', ListE e 1 v' (n + ys.length) (xs ++ ys.map I) E' → sC P ops K rest (upd f d v') (Has w0 F (E' ++ L))) :
    sC P ops K (⟨some d, .call ⟨.builtin .append, #[x, y], ats⟩, ty, pos, af, none⟩ :: rest) f (Has w0 F (E ++ L)) := by
  intro w hw
  subst hat
  unfold sw
  rw [if_pos wanted_free]
  unfold opk
  have hrun : ∀ v' w', (Builtin.append_ #[T, T] ty #[v, .slice a ys.length c]).run P w = .ok v' w' → (execOp (ev f) ⟨some d, .call ⟨.builtin .append, #[x, y], #[T, T]⟩, ty, pos, af, none⟩).run P w = .ok (.value v') w' := by
    intro v' w' hr
    simp [execOp, resolve, invoke, builtin, hx, hy, hr]
  cases ys with
  | nil =>
    obtain ⟨i, z, hu, hii, hs, hby, hz, hzs⟩ := rowB_spec hT
    have hsz : ∀ w, (sizeOf e).run P w = .ok 1 w := fun w => by simp [sizeOf, typeInfo, hii, hs]
    have : (Builtin.append_ #[T, T] ty #[v, .slice a 0 c]).run P w = .ok v w := by
      rcases hE.2 with ⟨rfl, rfl, rfl⟩ | ⟨g, cap, cur, rfl, rfl, hnc, hcm, hcs, htake⟩
      · cases a <;> simp [Builtin.append_, underlying, hu, hsz, Builtin.lenOf, Builtin.firstCells, loadCells, loadCellsFrom]
      · cases a <;> simp [Builtin.append_, underlying, hu, hsz, Builtin.lenOf, Builtin.firstCells, loadCells, loadCellsFrom, hnc, storeCells]
    rw [hrun _ _ this]
    exact kk v E (by simpa using hE) w hw
  | cons y0 r =>
    obtain ⟨b, o, rfl, hF⟩ := hi.resolve_left (by simp)
    obtain ⟨v', E', w', hr, hE', hw'⟩ := run_appendE (P := P) (w0 := w0) (F := F) (L := L) (c := c) (ty := ty) (b := b) (o := o) (mm := (y0 :: r).length) (news := (y0 :: r).map I) hT (by decide) hE hw (by simp) (fun j u hj => by
      rw [List.getElem?_map] at hj
      cases hy' : (y0 :: r)[j]? with
      | none => rw [hy'] at hj; cases hj
      | some q =>
        rw [hy'] at hj
        simp only [Option.map_some, Option.some.injEq] at hj
        subst hj
        exact hw.at _ _ (hF j q hy')) (fun u hu => by
      obtain ⟨q, _, rfl⟩ := List.mem_map.1 hu
      rfl) (by simp) hbytes (Nat.le_of_ble_eq_true hbb)
    rw [hrun _ _ hr]
    exact kk v' E' hE' w' hw'
end
end Go.Proofs.Ytmkboljfbmlebaa
/- Contracts of the comparison of payments. Condition: the payments lie in memory that is known. -/
namespace Go.Proofs.Ytmkboljfbmlebaa
open Go.RowKit
set_option linter.unusedSimpArgs false
set_option linter.unusedVariables false
set_option maxRecDepth 100000
attribute [local irreducible] cC sC nC rC qw

theorem g_isNaN (x : Int) (w : World) : Gives Try.prog 100 [I x] w (.bool false) := by
  refine gives_of Try.func100 rfl Try.ntmps100 (by simp) ?_
  refine r_seq (by kernel_rfl) ?_
  refine s_val (v_assign (v := .bool _) rfl) ?_
  refine s_nil ?_
  refine r_seq (by kernel_rfl) ?_
  refine s_val (v_move (v := .int .i64 _) rfl) ?_
  refine s_val (v_move (v := .int .i64 _) rfl) ?_
  refine s_val (v_neq (k := .i64) rfl rfl) ?_
  refine s_val (v_assign (v := .bool _) rfl) ?_
  refine s_nil ?_
  refine c_ret ?_
  refine n_done rfl (by decide) (Eq.trans (b := .bool _) rfl (congrArg Value.bool ?_))
  simp

theorem g_Compare (x y : Int) (w : World) : Gives Try.prog 85 [I x, I y] w (I (cmpI x y)) := by
  refine gives_of Try.func85 rfl Try.ntmps85 (by simp) ?_
  refine r_seq (by kernel_rfl) ?_
  refine s_val (v_assign (v := .int .i64 _) rfl) ?_
  refine s_nil ?_
  refine r_seq (by kernel_rfl) ?_
  refine s_val (v_move (v := .int .i64 _) rfl) ?_
  refine s_call (by kernel_rfl) (fun w hw => g_isNaN _ w) ?_
  refine s_val (v_assign (v := .bool _) rfl) ?_
  refine s_nil ?_
  refine r_seq (by kernel_rfl) ?_
  refine s_val (v_move (v := .int .i64 _) rfl) ?_
  refine s_call (by kernel_rfl) (fun w hw => g_isNaN _ w) ?_
  refine s_val (v_assign (v := .bool _) rfl) ?_
  refine s_nil ?_
  refine c_seq ?_
  refine r_seq (by kernel_rfl) ?_
  refine s_val (v_move (v := .bool _) rfl) ?_
  refine s_nil ?_
  refine c_condFh rfl rfl rfl ?_
  refine c_skip ?_
  refine n_then ?_
  refine c_seq ?_
  refine r_seq (by kernel_rfl) ?_
  refine s_val (v_move (v := .bool _) rfl) ?_
  refine s_nil ?_
  refine c_condFh rfl rfl rfl ?_
  refine c_skip ?_
  refine n_then ?_
  refine c_seq ?_
  refine r_seq (by kernel_rfl) ?_
  refine s_val (v_move (v := .int .i64 _) rfl) ?_
  refine s_val (v_move (v := .int .i64 _) rfl) ?_
  refine s_val (v_lss (k := .i64) rfl rfl) ?_
  refine s_nil ?_
  refine c_cond rfl rfl (fun h16 => ?_) (fun h16 => ?_)
  · refine r_seq (by kernel_rfl) ?_
    refine s_val (v_assign (v := .int .i64 _) rfl) ?_
    refine s_nil ?_
    refine c_ret ?_
    refine n_ret ?_
    refine n_done rfl (by decide) (Eq.trans (b := .int .i64 _) rfl (congrArg (Value.int .i64) ?_))
    simp [cmpI, *]
  refine c_skip ?_
  refine n_then ?_
  refine c_seq ?_
  refine r_seq (by kernel_rfl) ?_
  refine s_val (v_move (v := .int .i64 _) rfl) ?_
  refine s_val (v_move (v := .int .i64 _) rfl) ?_
  refine s_val (v_gtr (k := .i64) rfl rfl) ?_
  refine s_nil ?_
  refine c_cond rfl rfl (fun h19 => ?_) (fun h19 => ?_)
  · refine r_seq (by kernel_rfl) ?_
    refine s_val (v_assign (v := .int .i64 _) rfl) ?_
    refine s_nil ?_
    refine c_ret ?_
    refine n_ret ?_
    refine n_done rfl (by decide) (Eq.trans (b := .int .i64 _) rfl (congrArg (Value.int .i64) ?_))
    simp [cmpI, *]
  refine c_skip ?_
  refine n_then ?_
  refine r_seq (by kernel_rfl) ?_
  refine s_val (v_assign (v := .int .i64 _) rfl) ?_
  refine s_nil ?_
  refine c_ret ?_
  refine n_done rfl (by decide) (Eq.trans (b := .int .i64 _) rfl (congrArg (Value.int .i64) ?_))
  simp [cmpI, *]

theorem g_Or (b o c : Nat) (x y : Int) (w : World) (hx : At w ⟨b, o, none⟩ (I x)) (hy : At w ⟨b, o + 1, none⟩ (I y)) : Gives Try.prog 84 [.slice (some ⟨b, o, none⟩) 2 c] w (I (bif decide (x = 0) then y else x)) := by
  refine gives_of Try.func84 rfl Try.ntmps84 (by simp) ?_
  refine r_seq (by kernel_rfl) ?_
  refine s_val (v_assign (v := .int .i64 _) rfl) ?_
  refine s_nil ?_
  refine r_seq (by kernel_rfl) ?_
  refine s_val (v_assign (v := .int .i64 _) rfl) ?_
  refine s_nil ?_
  refine c_seq ?_
  refine r_seq (by kernel_rfl) ?_
  refine s_val (v_move (v := .slice _ _ _) rfl) ?_
  refine s_val (v_lenS (T := 43) (m := 1) (by kernel_rfl) rfl rfl) ?_
  refine s_val (v_move (v := .int .i64 _) rfl) ?_
  refine s_nil ?_
  refine c_block ?_
  refine c_rounds 3 ?_
  refine r_succ ?_
  refine r_seq (by kernel_rfl) ?_
  refine s_val (v_lss (k := .i64) rfl rfl) ?_
  refine s_nil ?_
  refine c_seq ?_
  refine c_condTh rfl rfl rfl ?_
  refine c_skip ?_
  refine n_then ?_
  refine c_seq ?_
  refine c_block ?_
  refine r_seq (by kernel_rfl) ?_
  refine s_val (v_idxS (size := 1) (k := .i64) (by kernel_rfl) rfl rfl (by decide)) ?_
  refine s_val (v_load1o (v := I x) (by kernel_rfl) rfl (by simpa using hx)) ?_
  refine s_val (v_assign (v := .int .i64 _) rfl) ?_
  refine s_nil ?_
  refine r_seq (by kernel_rfl) ?_
  refine s_val (v_move (v := .int .i64 _) rfl) ?_
  refine s_val (v_move (v := .int .i64 _) rfl) ?_
  refine s_val (v_neq (k := .i64) rfl rfl) ?_
  refine s_nil ?_
  refine c_condN rfl rfl (fun h14 => ?_) (fun h14 => ?_)
  · refine r_seq (by kernel_rfl) ?_
    refine s_val (v_move (v := .int .i64 _) rfl) ?_
    refine s_val (v_assign (v := .int .i64 _) rfl) ?_
    refine s_nil ?_
    refine c_ret ?_
    refine n_bret ?_
    refine n_ret ?_
    refine n_ret ?_
    refine n_bret ?_
    refine n_ret ?_
    refine n_done rfl (by decide) (Eq.trans (b := .int .i64 _) rfl (congrArg (Value.int .i64) ?_))
    simp_all
  refine c_skip ?_
  refine n_bnormal ?_
  refine n_then ?_
  refine r_list (by kernel_rfl) ?_
  refine s_val (v_addL (c := 1) rfl rfl (by decide) (by decide)) ?_
  refine s_val (v_move (v := .int .i64 _) rfl) ?_
  refine s_end ?_
  refine n_thenR ?_
  refine r_succ ?_
  refine r_seq (by kernel_rfl) ?_
  refine s_val (v_lss (k := .i64) rfl rfl) ?_
  refine s_nil ?_
  refine c_seq ?_
  refine c_condTh rfl rfl rfl ?_
  refine c_skip ?_
  refine n_then ?_
  refine c_seq ?_
  refine c_block ?_
  refine r_seq (by kernel_rfl) ?_
  refine s_val (v_idxS (size := 1) (k := .i64) (by kernel_rfl) rfl rfl (by decide)) ?_
  refine s_val (v_load1o (v := I y) (by kernel_rfl) rfl (by simpa using hy)) ?_
  refine s_val (v_assign (v := .int .i64 _) rfl) ?_
  refine s_nil ?_
  refine r_seq (by kernel_rfl) ?_
  refine s_val (v_move (v := .int .i64 _) rfl) ?_
  refine s_val (v_move (v := .int .i64 _) rfl) ?_
  refine s_val (v_neq (k := .i64) rfl rfl) ?_
  refine s_nil ?_
  refine c_condN rfl rfl (fun h14 => ?_) (fun h14 => ?_)
  · refine r_seq (by kernel_rfl) ?_
    refine s_val (v_move (v := .int .i64 _) rfl) ?_
    refine s_val (v_assign (v := .int .i64 _) rfl) ?_
    refine s_nil ?_
    refine c_ret ?_
    refine n_bret ?_
    refine n_ret ?_
    refine n_ret ?_
    refine n_bret ?_
    refine n_ret ?_
    refine n_done rfl (by decide) (Eq.trans (b := .int .i64 _) rfl (congrArg (Value.int .i64) ?_))
    simp_all
  refine c_skip ?_
  refine n_bnormal ?_
  refine n_then ?_
  refine r_list (by kernel_rfl) ?_
  refine s_val (v_addL (c := 2) rfl rfl (by decide) (by decide)) ?_
  refine s_val (v_move (v := .int .i64 _) rfl) ?_
  refine s_end ?_
  refine n_thenR ?_
  refine r_succ ?_
  refine r_seq (by kernel_rfl) ?_
  refine s_val (v_lss (k := .i64) rfl rfl) ?_
  refine s_nil ?_
  refine c_seq ?_
  refine c_condFh rfl rfl rfl ?_
  refine c_exit ?_
  refine n_exit ?_
  refine n_exit ?_
  refine n_bhere ?_
  refine n_then ?_
  refine r_seq (by kernel_rfl) ?_
  refine s_val (v_move (v := .int .i64 _) rfl) ?_
  refine s_val (v_assign (v := .int .i64 _) rfl) ?_
  refine s_nil ?_
  refine c_ret ?_
  refine n_done rfl (by decide) (Eq.trans (b := .int .i64 _) rfl (congrArg (Value.int .i64) ?_))
  simp_all

theorem g_compare (p q : PayS) (w : World) : Gives Try.prog 72 [.agg p.cells, .agg q.cells] w (I (cmpP p q)) := by
  refine gives_of Try.func72 rfl Try.ntmps72 (by simp) ?_
  refine r_seq (by kernel_rfl) ?_
  refine s_box (v := .agg _) rfl (fun b2 => ?_)
  refine s_box (v := .agg _) rfl (fun b3 => ?_)
  refine s_val (v_assign (v := .int .i64 _) rfl) ?_
  refine s_nil ?_
  refine t_seq (k := 10) (by kernel_rfl) (by kernel_rfl) (fun w hw => hw.drew) (by kernel_rfl) ?_
  refine q_val (v_field (fo := 3) (by kernel_rfl) rfl) ?_
  refine q_val (v_load1 (v := .int .i64 _) (by kernel_rfl) rfl (.there .here) rfl) ?_
  refine q_val (v_field (fo := 3) (by kernel_rfl) rfl) ?_
  refine q_val (v_load1 (v := .int .i64 _) (by kernel_rfl) rfl .here rfl) ?_
  refine q_call (by kernel_rfl) (fun w hw => g_Compare _ _ w) ?_
  refine q_val (v_field (fo := 5) (by kernel_rfl) rfl) ?_
  refine q_val (v_load1 (v := .int .i64 _) (by kernel_rfl) rfl (.there .here) rfl) ?_
  refine q_val (v_field (fo := 5) (by kernel_rfl) rfl) ?_
  refine q_val (v_load1 (v := .int .i64 _) (by kernel_rfl) rfl .here rfl) ?_
  refine q_call (by kernel_rfl) (fun w hw => g_Compare _ _ w) ?_
  refine q_tail ?_
  refine s_buildS (e := 3) (vs := [(0, .int .i64 _), (1, .int .i64 _)]) (cs := #[I (cmpI p.cls q.cls), I (cmpI p.seq q.seq)]) rfl (by kernel_rfl) (fun b15 => ?_)
  refine s_call (by kernel_rfl) (fun w hw => g_Or b15 0 _ _ _ w ((cell_has hw .here).trans rfl) ((cell_has hw .here).trans rfl)) ?_
  refine s_val (v_assign (v := .int .i64 _) rfl) ?_
  refine s_nil ?_
  refine c_ret ?_
  refine n_done rfl (by decide) (Eq.trans (b := .int .i64 _) rfl (congrArg (Value.int .i64) ?_))
  rfl

theorem g_Of1 (h : H) (ps : List PayS) (bh : Nat) (i k : Int) (p q : PayS) (w : World) (hp : PaysIn (At w) h.pa h.pl ps) (hcell : At w ⟨bh, 40, none⟩ (.slice h.pa h.pl h.pc)) (hi : 0 ≤ i) (hk : 0 ≤ k) (hpi : ps[i.toNat]? = some p) (hpk : ps[k.toNat]? = some q) : Gives Try.prog 71 [I i, I k, .pointer (some ⟨bh, 0, none⟩)] w (I (cmpP p q)) := by
  have hl := hp.1
  have hi1 := (List.getElem?_eq_some_iff.1 hpi).1
  have hk1 := (List.getElem?_eq_some_iff.1 hpk).1
  obtain ⟨b, o, hpa, hc⟩ := hp.some (k := i.toNat) (by omega)
  refine gives_of Try.func71 rfl Try.ntmps71 (by simp) ?_
  refine r_seq (by kernel_rfl) ?_
  refine s_val (v_assign (v := .int .i64 _) rfl) ?_
  refine s_nil ?_
  refine d_seq (by kernel_rfl) (by kernel_rfl) (fun w hw => hw.drew) (by kernel_rfl) ?_
  refine q_val (v_field (fo := 40) (by kernel_rfl) rfl) ?_
  refine q_val (v_load1o (v := .slice h.pa h.pl h.pc) (by kernel_rfl) rfl (by simpa using hcell)) ?_
  refine q_val (v_move (v := .int .i64 _) rfl) ?_
  refine q_val (v_idxS (size := 6) (k := .i64) (by kernel_rfl) (congrArg (fun a => Value.slice a h.pl h.pc) hpa) rfl ⟨by omega, by omega⟩) ?_
  refine q_val (v_loadNo (cs := p.cells) (m := 6) (by kernel_rfl) rfl rfl (hc _ p hpi)) ?_
  refine q_val (v_field (fo := 40) (by kernel_rfl) rfl) ?_
  refine q_val (v_load1o (v := .slice h.pa h.pl h.pc) (by kernel_rfl) rfl (by simpa using hcell)) ?_
  refine q_val (v_move (v := .int .i64 _) rfl) ?_
  refine q_val (v_idxS (size := 6) (k := .i64) (by kernel_rfl) (congrArg (fun a => Value.slice a h.pl h.pc) hpa) rfl ⟨by omega, by omega⟩) ?_
  refine q_val (v_loadNo (cs := q.cells) (m := 6) (by kernel_rfl) rfl rfl (hc _ q hpk)) ?_
  refine q_call (by kernel_rfl) (fun w hw => g_compare p q w) ?_
  refine q_val (v_assign (v := .int .i64 _) rfl) ?_
  refine q_nil ?_
  refine c_ret ?_
  refine n_done rfl (by decide) (Eq.trans (b := .int .i64 _) rfl (congrArg (Value.int .i64) ?_))
  rfl

end Go.Proofs.Ytmkboljfbmlebaa
/- Houses not far beyond their bounds: what may be sent is asked alike on both sides. No condition. -/
namespace Go.Proofs.Ytmkboljfbmlebaa
open Go.RowKit
set_option linter.unusedSimpArgs false
set_option linter.unusedVariables false

structure NearG (k : Int) (h : H) : Prop where
  near : Near k h
  cred : ∀ i : Int, 0 ≤ i ∧ i < 4 → 0 ≤ h.cred i ∧ h.cred i ≤ 1000000
  lim : ∀ i j : Int, 0 ≤ i ∧ i < 4 → 0 ≤ j ∧ j < 4 → -1 ≤ h.lim i j ∧ h.lim i j ≤ 1000000
theorem GoodH.nearG {h : H} (g : GoodH h) : NearG 0 h := ⟨g.near, g.cred, g.lim⟩
theorem NearG.core {k : Int} {h : H} (g : NearG k h) : NearG k h.core := ⟨⟨g.near.has, g.near.sent⟩, g.cred, g.lim⟩
theorem NearG.ofCore {k : Int} {h : H} (g : NearG k h.core) : NearG k h := ⟨⟨g.near.has, g.near.sent⟩, g.cred, g.lim⟩
theorem NearG.mono {k k' : Int} {h : H} (g : NearG k h) (hk : k ≤ k') : NearG k' h :=
  ⟨⟨fun i hi => by have := g.near.has i hi; omega, fun i j hi hj => by have := g.near.sent i j hi hj; omega⟩, g.cred, g.lim⟩
theorem may_near {h : H} {k : Int} (g : NearG k h) (hk : k ≤ 1000000) (a b n : Int) : mayM h a b n = maySendM h a b n := by
  unfold mayM maySendM
  cases ht : goodTransferB a b n
  · rfl
  · obtain ⟨ha, hb, hne, h1, h2⟩ := transfer_spec ht
    have e1 := g.near.has a ha
    have e2 := g.cred a ha
    have e3 := g.near.sent a b ha hb
    have e4 := g.near.sent b a hb ha
    have e5 := g.lim a b ha hb
    have l : leftM h a = h.has a + h.cred a := by
      unfold leftM
      rw [isBank_of ha]
      simp only [Bool.not_true, Bool.false_eq_true, if_false]
      exact wr_in (by omega) (by omega)
    have nn : netM h a b = h.sent a b - h.sent b a := by
      unfold netM
      rw [isBank_of ha, isBank_of hb]
      simp only [Bool.not_true, Bool.or_self, Bool.false_eq_true, if_false]
      exact wr_in (by omega) (by omega)
    rw [l, nn, wr_in (a := h.has a - n) (by omega) (by omega), wr_in (a := 0 - h.cred a) (by omega) (by omega), wr_in (a := h.sent a b - h.sent b a) (by omega) (by omega)]
    have d1 : decide (h.has a + h.cred a < n) = decide (h.has a - n < 0 - h.cred a) := by rw [Bool.eq_iff_iff]; simp; omega
    have d2 : decide (h.lim a b = -1) = decide (h.lim a b ≤ -1) := by rw [Bool.eq_iff_iff]; simp; omega
    rw [d1, d2]
theorem NearG.move {k : Int} {h : H} (g : NearG k h) (h0 : 0 ≤ k) (hk : k ≤ 1000000) {a b n : Int} (ht : goodTransferB a b n = true) : NearG (k + 1) (moveM h a b n) := by
  obtain ⟨ha, hb, hne, h1, h2⟩ := transfer_spec ht
  rw [move_at g.near hk ht]
  refine ⟨⟨fun i hi => ?_, fun i j hi hj => ?_⟩, g.cred, g.lim⟩
  · have e1 := g.near.has i hi
    have e2 := g.near.has a ha
    have e3 := g.near.has b hb
    simp only [up1]
    split
    · omega
    · split <;> omega
  · have e1 := g.near.sent i j hi hj
    have e2 := g.near.sent a b ha hb
    simp only [up2]
    split <;> omega
theorem NearG.settle {k : Int} {c : H} {ps : List PayS} (g : NearG k c) (h0 : 0 ≤ k) (hk : k ≤ 1000000) (hg : GoodPs ps) (n : Int) : NearG (k + 1) (settleC c ps n) := by
  unfold settleC
  split
  · rename_i p hs
    exact g.move h0 hk (pay_transfer (hg p (List.mem_of_getElem? (settles_spec hs).2.1)))
  · exact g.mono (by omega)
theorem drain_near (bank : Int) : ∀ (m : Nat) (s : QS) (k : Int), cnt s.ps = m → GoodPs s.ps → NearG k s.c → 0 ≤ k → k + m ≤ 1000000 → NearG (k + m - cnt (drain bank s).ps) (drain bank s).c ∧ GoodPs (drain bank s).ps := by
  intro m
  induction m using Nat.strongRecOn with
  | _ m ih =>
    intro s k hm hg hn h0 hk
    cases h : firstM s.c s.ps bank with
    | none => rw [drain_end h, hm]; exact ⟨hn.mono (by omega), hg⟩
    | some i =>
      rw [drain_go h]
      obtain ⟨p, r, _, h1, _⟩ := firstM_spec h
      have hc := cnt_settle h1
      have := ih (cnt (settleP s.ps i)) (by omega) (s.go i) (k + 1) rfl (settleP_good hg i) (hn.settle h0 (by omega) hg i) (by omega) (by omega)
      refine ⟨this.1.mono ?_, this.2⟩
      omega
end Go.Proofs.Ytmkboljfbmlebaa
/- The program's own sweep: what holds at each turn of one bank, and of one pass. No condition. -/
namespace Go.Proofs.Ytmkboljfbmlebaa
open Go.RowKit
set_option linter.unusedSimpArgs false
set_option linter.unusedVariables false

theorem c_weak {P : Program} {n : Nat} {y : Code} {Q : Exit → (Nat → Value) → World → Prop} {f : Nat → Value} {C C' : World → Prop} (hc : ∀ w, C w → C' w) (h : cC P n y Q f C') : cC P n y Q f C := fun w hw => h w (hc w hw)
theorem IntsAt.take {F : Addr → Value → Prop} {a : Option Addr} {xs : List Int} (h : IntsAt F a xs) (k : Nat) : IntsAt F a (xs.take k) := by
  rcases h with rfl | ⟨b, o, h1, h2⟩
  · exact .inl (by simp)
  · refine .inr ⟨b, o, h1, fun j x hj => h2 j x ?_⟩
    rw [List.getElem?_take] at hj
    split at hj
    · exact hj
    · cases hj
/-- a list of numbers, its room no less than its length -/
def IntsRoom (xs : List Int) : (Addr → Value → Prop) → Value → Prop := fun F v => ∃ a c, v = .slice a xs.length c ∧ xs.length ≤ c ∧ IntsAt F a xs
theorem room_mono (xs : List Int) : Mono (IntsRoom xs) := by
  rintro F F' v hm ⟨a, c, h1, h2, h3⟩
  exact ⟨a, c, h1, h2, h3.mono hm⟩
theorem room_of_list {F : Addr → Value → Prop} {e : Nat} {v : Value} {xs : List Int} {E : List (Nat × Obj)} (h : ListE e 1 v xs.length (xs.map I) E) (hk : Knows F E) : IntsRoom xs F v := by
  obtain ⟨a, c, hv, hi⟩ := (ints_of_list h hk).at
  refine ⟨a, c, hv, ?_, hi⟩
  rcases h.2 with ⟨rfl, h2, rfl⟩ | ⟨g, cap, cur, rfl, rfl, h3, h4, h5, h6⟩
  · omega
  · simp at hv; omega
structure SbG where
  F : Addr → Value → Prop
  h : H
  ps : List PayS
  k : Nat
structure SbOk (w : World) (F0 : Addr → Value → Prop) (h0 : H) (ps0 : List PayS) (bank : Int) (nr : Int) (t : SbG) : Prop where
  more : More F0 t.F
  pays : PaysIn t.F t.h.pa t.h.pl t.ps
  out : (t.h.pa = h0.pa ∧ t.h.pl = h0.pl ∧ t.ps = ps0) ∨ PaysIn (Young w t.F) t.h.pa t.h.pl t.ps
  len : t.h.pl = h0.pl
  lc : t.h.pl ≤ t.h.pc
  seqs : SeqsApart t.ps
  good : GoodPs t.ps
  near : NearG (nr + t.k) t.h.core
  kl : t.k ≤ (queueM ps0 bank).length
  queue : queueM t.ps bank = (queueM ps0 bank).drop t.k
  goes : drain bank ⟨t.h.core, t.ps, (queueM ps0 bank).take t.k⟩ = drain bank ⟨h0.core, ps0, []⟩
section
variable {w : World} {F0 : Addr → Value → Prop} {h0 : H} {ps0 : List PayS} {bank nr : Int} {t : SbG}
theorem sb_start {h : H} {ps : List PayS} (hp : PaysIn (At w) h.pa h.pl ps) (hF : More (At w) F0) (hlc : h.pl ≤ h.pc) (hsa : SeqsApart ps) (hg : GoodPs ps) (hn : NearG nr h.core) : SbOk w F0 h ps bank nr ⟨F0, h, ps, 0⟩ :=
  ⟨fun _ _ h => h, hp.mono hF, .inl ⟨rfl, rfl, rfl⟩, rfl, hlc, hsa, hg, by simpa using hn, Nat.zero_le _, by simp, by simp⟩
theorem SbOk.step (o : SbOk w F0 h0 ps0 bank nr t) {n : Int} (hn : (queueM ps0 bank)[t.k]? = some n) :
    ∃ p, settles t.ps n = some p ∧ t.ps[n.toNat]? = some p ∧ p.src = bank ∧ queueM t.ps bank = n :: (queueM ps0 bank).drop (t.k + 1) ∧ 0 ≤ n ∧ n.toNat < t.h.pl ∧ n < t.h.pl := by
  have hk : t.k < (queueM ps0 bank).length := (List.getElem?_eq_some_iff.1 hn).1
  have hd : (queueM ps0 bank).drop t.k = n :: (queueM ps0 bank).drop (t.k + 1) := by rw [List.drop_eq_getElem_cons hk]; congr 1; exact (List.getElem?_eq_some_iff.1 hn).2
  have hq := o.queue
  rw [hd] at hq
  obtain ⟨p, h1, h2, _, h3⟩ := (queueM_mine (show n ∈ queueM t.ps bank by rw [hq]; simp)).settles
  have hlt := (List.getElem?_eq_some_iff.1 h2).1
  have := o.pays.1
  have h4 := (settles_spec h1).1
  exact ⟨p, h1, h2, h3, hq, h4, by omega, by omega⟩
theorem SbOk.may (o : SbOk w F0 h0 ps0 bank nr t) (hnr : nr + (queueM ps0 bank).length ≤ 1000000) (a b n : Int) : mayM t.h a b n = maySendM t.h.core a b n := by
  have hk := o.kl
  exact (may_near o.near.ofCore (by omega) a b n).trans rfl
theorem SbOk.stop (o : SbOk w F0 h0 ps0 bank nr t) (hf : firstM t.h.core t.ps bank = none) : drain bank ⟨h0.core, ps0, []⟩ = ⟨t.h.core, t.ps, (queueM ps0 bank).take t.k⟩ := by
  rw [← o.goes]; exact drain_end hf
theorem SbOk.fin (o : SbOk w F0 h0 ps0 bank nr t) (hk : ¬ (t.k : Int) < (queueM ps0 bank).length) : firstM t.h.core t.ps bank = none := by
  refine firstM_nil ?_
  rw [o.queue]; exact List.drop_eq_nil_of_le (by omega)
theorem SbOk.next (o : SbOk w F0 h0 ps0 bank nr t) (h0n : 0 ≤ nr) (hnr : nr + (queueM ps0 bank).length ≤ 1000000) {n : Int} {p : PayS} (hn : (queueM ps0 bank)[t.k]? = some n) (hs : settles t.ps n = some p) (hq : queueM t.ps bank = n :: (queueM ps0 bank).drop (t.k + 1)) (hm : maySendM t.h.core bank p.dst p.amt = true)
    {F' : Addr → Value → Prop} (hF : More t.F F') {h' : H} (hco : h'.core = settleC t.h.core t.ps n) (hlc : h'.pl ≤ h'.pc) (ho : (h'.pa = t.h.pa ∧ h'.pl = t.h.pl ∧ settleP t.ps n = t.ps) ∨ PaysIn (Young w F') h'.pa h'.pl (settleP t.ps n)) : SbOk w F0 h0 ps0 bank nr ⟨F', h', settleP t.ps n, t.k + 1⟩ := by
  have hk : t.k < (queueM ps0 bank).length := (List.getElem?_eq_some_iff.1 hn).1
  have hlen : h'.pl = t.h.pl := by
    rcases ho with ho | ho
    · exact ho.2.1
    · rw [← ho.1, settleP_len, o.pays.1]
  refine ⟨fun a v h => hF a v (o.more a v h), ?_, ?_, by simp only; rw [hlen, o.len], hlc, o.seqs.settle n, settleP_good o.good n, ?_, hk, queue_tail o.seqs hq, ?_⟩
  · rcases ho with ⟨h1, h2, h3⟩ | ho
    · simp only; rw [h1, h2, h3]; exact o.pays.mono hF
    · exact ho.mono (more_young w F')
  · rcases ho with ⟨h1, h2, h3⟩ | ho
    · simp only; rw [h1, h2, h3]
      exact o.out.imp id fun h => h.mono (young_mono hF)
    · exact .inr ho
  · simp only
    rw [hco]
    have := o.near.settle (by omega) (by omega) o.good n
    have e : nr + ((t.k + 1 : Nat) : Int) = nr + (t.k : Int) + 1 := by omega
    rw [e]; exact this
  · simp only
    rw [← o.goes, hco]
    have hf : firstM t.h.core t.ps bank = some n := firstM_yes hq (settles_spec hs).2.1 hm
    have e : (queueM ps0 bank).take (t.k + 1) = (queueM ps0 bank).take t.k ++ [n] := by rw [List.take_add_one, hn]; rfl
    rw [drain_go (s := ⟨t.h.core, t.ps, (queueM ps0 bank).take t.k⟩) hf, e]
    rfl
theorem SbOk.done (o : SbOk w F0 h0 ps0 bank nr t) (hf : firstM t.h.core t.ps bank = none) {w' : World} {L : List (Nat × Obj)} (hw : Has w t.F L w') {a : Option Addr} {c n : Nat} (hi : IntsAt (Young w F0) a (queueM ps0 bank)) (hn : n = t.k) : SweepF h0 ps0 (drain bank ⟨h0.core, ps0, []⟩) (Fresh w w') (.tuple #[.agg t.h.cells, .slice a n c]) := by
  rw [o.stop hf]
  have hl : ((queueM ps0 bank).take t.k).length = t.k := by rw [List.length_take]; have := o.kl; omega
  refine ⟨_, _, rfl, ⟨t.h, rfl, rfl, o.lc, o.out.imp id fun h => h.mono (young_fresh hw)⟩, a, c, ?_, (hi.take t.k).mono fun b v h => young_fresh hw b v (young_mono o.more b v h)⟩
  rw [hn, hl]
end
theorem SwOk.many {w : World} {h0 : H} {ps0 : List PayS} {e : Nat} {t : SwG} (k : SwOk w h0 ps0 e t) {F' : Addr → Value → Prop} (hF : More t.F F') {s : QS} (hlen : s.ps.length = t.ps.length) (hsum : s.xs.length + cnt s.ps = cnt t.ps) {h' : H} (hlc : h'.pl ≤ h'.pc)
    (ho : (h'.pa = t.h.pa ∧ h'.pl = t.h.pl ∧ s.ps = t.ps) ∨ PaysIn (Young w F') h'.pa h'.pl s.ps) {v' : Value} {E' : List (Nat × Obj)} (hl : ListE e 1 v' (t.xs.length + s.xs.length) (t.xs.map I ++ s.xs.map I) E') (b d : Nat) :
    SwOk w h0 ps0 e ⟨F', h', s.ps, t.xs ++ s.xs, v', E', b, d⟩ := by
  have hl' : h'.pl = t.h.pl := by
    rcases ho with ho | ho
    · exact ho.2.1
    · rw [← ho.1, hlen, k.pays.1]
  refine ⟨?_, ?_, by simp only; rw [hl', k.len], hlc, by simpa using hl, ?_⟩
  · rcases ho with ⟨h1, h2, h3⟩ | ho
    · simp only; rw [h1, h2, h3]; exact k.pays.mono hF
    · exact ho.mono (more_young w F')
  · rcases ho with ⟨h1, h2, h3⟩ | ho
    · simp only; rw [h1, h2, h3]
      exact k.out.imp id fun h => h.mono (young_mono hF)
    · exact .inr ho
  · have := k.sum
    simp only [List.length_append]; omega
/-- a pass: which bank is next, how many in a row could do nothing -/
structure SpOk (w : World) (h0 : H) (ps0 : List PayS) (e : Nat) (t : SwG) : Prop where
  sw : SwOk w h0 ps0 e t
  seqs : SeqsApart t.ps
  good : GoodPs t.ps
  near : NearG ((ps0.length : Int) - cnt t.ps) t.h.core
  cl : cnt t.ps ≤ ps0.length
  i4 : t.idle ≤ 4
  goes : sweepFrom (t.bank % 4) t.idle t.q = sweepM h0.core ps0
theorem sp_start {w : World} {h : H} {ps : List PayS} {e : Nat} (hp : PaysIn (At w) h.pa h.pl ps) (hlc : h.pl ≤ h.pc) (hg : goodB h.core ps = true) : SpOk w h ps e ⟨At w, h, ps, [], .slice none 0 0, [], 0, 0⟩ := by
  have hc : cnt ps ≤ ps.length := List.countP_le_length
  obtain ⟨h1, h2, _⟩ := good_pays hg
  refine ⟨swOk_start hp hlc, h2, h1, (GoodH.nearG (good_of hg)).mono (by simp only; omega), hc, by simp, ?_⟩
  simp only [sweepM, hg, cond_true]
  rfl
theorem SpOk.step {w : World} {h0 : H} {ps0 : List PayS} {e : Nat} {t : SwG} (o : SpOk w h0 ps0 e t) (hg : goodB h0.core ps0 = true) (hl : ps0.length ≤ 24) (hk : t.bank < 4) {F' : Addr → Value → Prop} (hF : More t.F F') {h' : H} (hco : h'.core = (drain t.bank ⟨t.h.core, t.ps, []⟩).c) (hlc : h'.pl ≤ h'.pc)
    (ho : (h'.pa = t.h.pa ∧ h'.pl = t.h.pl ∧ (drain t.bank ⟨t.h.core, t.ps, []⟩).ps = t.ps) ∨ PaysIn (Young w F') h'.pa h'.pl (drain t.bank ⟨t.h.core, t.ps, []⟩).ps) {v' : Value} {E' : List (Nat × Obj)}
    (hli : ListE e 1 v' (t.xs.length + (drain t.bank ⟨t.h.core, t.ps, []⟩).xs.length) (t.xs.map I ++ (drain t.bank ⟨t.h.core, t.ps, []⟩).xs.map I) E') :
    ∃ i, SpOk w h0 ps0 e ⟨F', h', (drain t.bank ⟨t.h.core, t.ps, []⟩).ps, t.xs ++ (drain t.bank ⟨t.h.core, t.ps, []⟩).xs, v', E', t.bank + 1, i⟩ ∧ ((t.xs ++ (drain t.bank ⟨t.h.core, t.ps, []⟩).xs).length = t.xs.length → i = 4 ∨ i = t.idle + 1) := by
  have hd := drain_app t.bank t.h.core t.ps t.xs
  have hgo := o.goes
  rw [Nat.mod_eq_of_lt hk] at hgo
  obtain ⟨i, h1, h2, h3⟩ := pass_step hg hk o.i4 hgo
  have hq : drain t.bank t.q = ⟨(drain t.bank ⟨t.h.core, t.ps, []⟩).c, (drain t.bank ⟨t.h.core, t.ps, []⟩).ps, t.xs ++ (drain t.bank ⟨t.h.core, t.ps, []⟩).xs⟩ := hd
  rw [hq] at h2 h3
  have hf := drain_facts t.bank ⟨t.h.core, t.ps, []⟩
  have hke := drain_keeps t.bank _ ⟨t.h.core, t.ps, []⟩ rfl o.seqs
  have hcl := o.cl
  have hne := drain_near t.bank _ ⟨t.h.core, t.ps, []⟩ ((ps0.length : Int) - cnt t.ps) rfl o.good o.near (by omega) (by simp only; omega)
  simp only [List.length_nil, Nat.zero_add] at hf
  refine ⟨i, ⟨o.sw.many hF hke.2 hf.2.1 hlc ho hli _ _, hke.1, hne.2, ?_, by simp only; omega, h1, ?_⟩, h3⟩
  · simp only
    rw [hco]
    exact hne.1.mono (by simp only; omega)
  · simp only [SwG.q]
    rw [hco]
    exact h2
theorem qPays_seqs : SeqsApart qPays := (good_pays (show goodB (qHouse none).core qPays = true by kernel_rfl)).2.1
end Go.Proofs.Ytmkboljfbmlebaa
