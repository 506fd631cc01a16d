/- What the laws of this place stand on, part 7. Each part names its own conditions in what it states. -/
import Derived.Test.YtmkboljfbmlebacGreatQ6
namespace Go.Proofs.YtmkboljfbmlebacGreat
open Go.RowKit
set_option linter.unusedSimpArgs false
set_option linter.unusedVariables false
theorem goB_iff {nx : Int} : ∀ (ps : List PayS) (seen : List Int), goB nx seen ps = true ↔ (∀ p ∈ ps, goodPayB p = true ∧ p.seq < nx ∧ p.seq ∉ seen) ∧ (ps.map PayS.seq).Nodup
 | [], seen => by simp [goB]
 | x :: r, seen => by
   have ih := goB_iff (nx := nx) r (seen ++ [x.seq])
   simp only [goB]
   cases hb : (!goodPayB x || decide (nx ≤ x.seq) || decide (x.seq ∈ seen))
   · simp only [cond_false]
     simp only [Bool.or_eq_false_iff, Bool.not_eq_false', decide_eq_false_iff_not] at hb
     rw [ih]
     simp only [List.mem_append, List.mem_singleton, not_or, List.map_cons, List.nodup_cons, List.mem_map, not_exists, not_and, List.mem_cons, forall_eq_or_imp]
     constructor
     · rintro ⟨h1, h2⟩
       exact ⟨⟨⟨hb.1.1, by omega, hb.2⟩, fun p hp => ⟨(h1 p hp).1, (h1 p hp).2.1, (h1 p hp).2.2.1⟩⟩, fun p hp => (h1 p hp).2.2.2.1, h2⟩
     · rintro ⟨⟨_, h1⟩, h2, h3⟩
       exact ⟨fun p hp => ⟨(h1 p hp).1, (h1 p hp).2.1, (h1 p hp).2.2, h2 p hp, by simp⟩, h3⟩
   · simp only [cond_true, Bool.false_eq_true, false_iff]
     rintro ⟨h1, _⟩
     obtain ⟨a, b, c⟩ := h1 x (by simp)
     have hb' : ¬ (nx ≤ x.seq) := by omega
     simp [a, hb', c] at hb
theorem goodH_iff {h : H} : (accGoodB h.has h.cred && sentGoodB h.sent && limGoodB h.lim) = true ↔ GoodH h := by
 unfold accGoodB sentGoodB limGoodB
 simp only [Bool.and_eq_true, a4_true, within_iff, decide_eq_true_eq]
 constructor
 · rintro ⟨⟨h1, h2⟩, h3⟩
   exact ⟨fun i hi => (h1 i hi).1, fun i hi => (h1 i hi).2, fun i hi => (h2 i hi).1, fun i k hi hk => (h2 i hi).2 k hk, fun i k hi hk => h3 i hi k hk⟩
 · intro g
   exact ⟨⟨fun i hi => ⟨g.has i hi, g.cred i hi⟩, fun i hi => ⟨g.diag i hi, fun k hk => g.sent i k hi hk⟩⟩, fun i hi k hk => g.lim i k hi hk⟩
structure GoodAll (h : H) (ps : List PayS) : Prop where
 next : 0 ≤ h.next ∧ h.next ≤ 1048576
 len : ps.length ≤ 24
 pays : ∀ p ∈ ps, goodPayB p = true ∧ p.seq < h.next
 seqs : (ps.map PayS.seq).Nodup
 house : GoodH h
theorem good_iff {h : H} {ps : List PayS} : goodB h ps = true ↔ GoodAll h ps := by
 have e : goodB h ps = (withinB h.next 0 1048576 && goodPaysB ps h.next && (accGoodB h.has h.cred && sentGoodB h.sent && limGoodB h.lim)) := by
   unfold goodB; simp only [Bool.and_assoc]
 rw [e, Bool.and_eq_true, Bool.and_eq_true, goodH_iff, within_iff]
 unfold goodPaysB
 by_cases hl : ps.length ≤ 24
 · have hl' : decide (24 < (ps.length : Int)) = false := decide_eq_false (by omega)
   rw [hl', cond_false, goB_iff]
   constructor
   · rintro ⟨⟨h1, h2, h3⟩, h4⟩
     exact ⟨h1, hl, fun p hp => ⟨(h2 p hp).1, (h2 p hp).2.1⟩, h3, h4⟩
   · rintro ⟨h1, _, h2, h3, h4⟩
     exact ⟨⟨h1, fun p hp => ⟨(h2 p hp).1, (h2 p hp).2, by simp⟩, h3⟩, h4⟩
 · have hl' : decide (24 < (ps.length : Int)) = true := decide_eq_true (by omega)
   rw [hl', cond_true]
   constructor
   · rintro ⟨⟨_, h⟩, _⟩; cases h
   · rintro ⟨_, h, _⟩; exact absurd h hl
structure NR where
 c : H
 ps : List PayS
 code : Int
 n : Int
 done : List Int
def errN (c : H) (ps : List PayS) (e : Int) : NR := ⟨c, ps, e, 0, []⟩
def sweepN (c : H) (ps : List PayS) (n : Int) (d : List Int) : NR := ⟨(sweepM c ps).c, (sweepM c ps).ps, 0, n, d ++ (sweepM c ps).xs⟩
def waitsB (ps : List PayS) (n : Int) : Bool := (settles ps n).isSome
def newPay (c : H) (a : ActS) : PayS := ⟨a.a, a.b, a.n, a.c, 1, c.next⟩
def goneP (p : PayS) : PayS := bif decide (p.sta = 1) then { p with sta := 3 } else p
noncomputable def nextM (c : H) (ps : List PayS) (a : ActS) : NR :=
 bif !goodB c ps then errN c ps 1
 else bif decide (a.kind = 1) then
   bif !goodPayB (newPay c a) then errN c ps 3 else bif decide (ps.length = 24) || decide (c.next = 1048576) then errN c ps 5
   else sweepN { c with next := c.next + 1 } (ps ++ [newPay c a]) ps.length []
 else bif decide (a.kind = 2) || decide (a.kind = 3) then
   match settles ps a.a with
   | none => errN c ps 4
   | some p => bif decide (a.kind = 2) then sweepN c (ps.set a.a.toNat { p with sta := 3 }) 0 []
     else bif !withinB a.c 0 2 then errN c ps 3 else bif decide (c.next = 1048576) then errN c ps 5
     else sweepN { c with next := c.next + 1 } (ps.set a.a.toNat { p with cls := a.c, seq := c.next }) 0 []
 else bif decide (a.kind = 4) then
   bif !withinB a.a 0 3 || !withinB a.n 0 1000000 then errN c ps 3 else sweepN { c with cred := up1 c.cred a.a a.n } ps 0 []
 else bif decide (a.kind = 5) then
   bif !withinB a.a 0 3 || !withinB a.b 0 3 || decide (a.a = a.b) || !withinB a.n (-1) 1000000 then errN c ps 3 else sweepN { c with lim := up2 c.lim a.a a.b a.n } ps 0 []
 else bif decide (a.kind = 6) then
   bif !withinB a.a 0 3 || !withinB a.n 1 1000000 then errN c ps 3 else bif decide (549755813888 ≤ c.has a.a) then errN c ps 5
   else sweepN { c with has := up1 c.has a.a (c.has a.a + a.n) } ps 0 []
 else bif decide (a.kind = 7) then
   bif !withinB a.a 0 3 || !withinB a.n 1 1000000 then errN c ps 3 else bif decide (c.has a.a + c.cred a.a < a.n) then errN c ps 6
   else sweepN { c with has := up1 c.has a.a (c.has a.a - a.n) } ps 0 []
 else bif decide (a.kind = 8) then sweepN (untieM c ps).c (untieM c ps).ps (untieM c ps).xs.length (untieM c ps).xs
 else bif decide (a.kind = 9) then ⟨c, ps.map goneP, 0, cnt ps, []⟩
 else errN c ps 2
def doneT (p : PayS) (i j : Int) : Int := if p.sta = 2 ∧ p.src = i ∧ p.dst = j then p.amt else 0
def doneS : List PayS → Int → Int → Int
 | [], _, _ => 0
 | p :: r, i, j => doneT p i j + doneS r i j
theorem doneS_set : ∀ (ps : List PayS) (k : Nat) (p q : PayS) (i j : Int), ps[k]? = some p → doneS (ps.set k q) i j = doneS ps i j - doneT p i j + doneT q i j
 | [], k, p, q, i, j, h => by simp at h
 | x :: r, 0, p, q, i, j, h => by simp at h; subst h; simp only [List.set_cons_zero, doneS]; omega
 | x :: r, k + 1, p, q, i, j, h => by
   simp at h
   simp only [List.set_cons_succ, doneS]
   rw [doneS_set r k p q i j h]; omega
theorem doneS_append : ∀ (ps qs : List PayS) (i j : Int), doneS (ps ++ qs) i j = doneS ps i j + doneS qs i j
 | [], qs, i, j => by simp [doneS]
 | x :: r, qs, i, j => by simp only [List.cons_append, doneS]; rw [doneS_append r]; omega
theorem doneS_map (f : PayS → PayS) (hf : ∀ p i j, doneT (f p) i j = doneT p i j) : ∀ (ps : List PayS) (i j : Int), doneS (ps.map f) i j = doneS ps i j
 | [], _, _ => rfl
 | x :: r, i, j => by simp only [List.map_cons, doneS]; rw [hf, doneS_map f hf r]
theorem doneT_range {p : PayS} (h : goodPayB p = true) (i j : Int) : 0 ≤ doneT p i j ∧ doneT p i j ≤ 1000000 := by
 have := (transfer_spec (pay_transfer h)).2.2.2
 unfold doneT; split <;> omega
theorem doneS_range : ∀ (ps : List PayS), (∀ p ∈ ps, goodPayB p = true) → ∀ i j : Int, 0 ≤ doneS ps i j ∧ doneS ps i j ≤ 1000000 * ps.length
 | [], _, i, j => by simp [doneS]
 | x :: r, h, i, j => by
   have h1 := doneT_range (h x (by simp)) i j
   have h2 := doneS_range r (fun p hp => h p (by simp [hp])) i j
   simp only [doneS, List.length_cons]
   omega
theorem doneS_diag : ∀ (ps : List PayS), (∀ p ∈ ps, goodPayB p = true) → ∀ i : Int, doneS ps i i = 0
 | [], _, _ => rfl
 | x :: r, h, i => by
   have hne := (transfer_spec (pay_transfer (h x (by simp)))).2.2.1
   have e : doneT x i i = 0 := by
     unfold doneT
     rw [if_neg]
     rintro ⟨_, h1, h2⟩; omega
   simp only [doneS]
   rw [e, doneS_diag r (fun p hp => h p (by simp [hp]))]; rfl
def outT (c : H) (i : Int) : Int := c.sent i 0 + c.sent i 1 + c.sent i 2 + c.sent i 3
def inT (c : H) (i : Int) : Int := c.sent 0 i + c.sent 1 i + c.sent 2 i + c.sent 3 i
structure Inv (k : Int) (c : H) (ps : List PayS) : Prop where
 len : ps.length ≤ 24
 pays : ∀ p ∈ ps, goodPayB p = true ∧ p.seq < c.next
 seqs : (ps.map PayS.seq).Nodup
 next : 0 ≤ c.next ∧ c.next ≤ k
 cred : ∀ i : Int, 0 ≤ i ∧ i < 4 → 0 ≤ c.cred i ∧ c.cred i ≤ 1000000
 lim : ∀ i j : Int, 0 ≤ i ∧ i < 4 → 0 ≤ j ∧ j < 4 → -1 ≤ c.lim i j ∧ c.lim i j ≤ 1000000
 sums : ∀ i j : Int, 0 ≤ i ∧ i < 4 → 0 ≤ j ∧ j < 4 → c.sent i j = doneS ps i j
 ext : ∀ i : Int, 0 ≤ i ∧ i < 4 → -(k * 1000000) ≤ c.has i + outT c i - inT c i ∧ c.has i + outT c i - inT c i ≤ k * 1000000
theorem Inv.goodPs {k : Int} {c : H} {ps : List PayS} (v : Inv k c ps) : GoodPs ps := fun p hp => (v.pays p hp).1
theorem Inv.sentR {k : Int} {c : H} {ps : List PayS} (v : Inv k c ps) (i j : Int) (hi : 0 ≤ i ∧ i < 4) (hj : 0 ≤ j ∧ j < 4) : 0 ≤ c.sent i j ∧ c.sent i j ≤ 24000000 := by
 rw [v.sums i j hi hj]
 have := doneS_range ps v.goodPs i j
 have := v.len
 omega
theorem Inv.house {k : Int} {c : H} {ps : List PayS} (v : Inv k c ps) (hk : k ≤ 1000) : GoodH c := by
 refine ⟨fun i hi => ?_, v.cred, fun i hi => by rw [v.sums i i hi hi]; exact doneS_diag ps v.goodPs i, fun i j hi hj => by have := v.sentR i j hi hj; omega, v.lim⟩
 have e := v.ext i hi
 have a0 := v.sentR i 0 hi (by omega)
 have a1 := v.sentR i 1 hi (by omega)
 have a2 := v.sentR i 2 hi (by omega)
 have a3 := v.sentR i 3 hi (by omega)
 have b0 := v.sentR 0 i (by omega) hi
 have b1 := v.sentR 1 i (by omega) hi
 have b2 := v.sentR 2 i (by omega) hi
 have b3 := v.sentR 3 i (by omega) hi
 unfold outT inT at e
 omega
theorem Inv.good {k : Int} {c : H} {ps : List PayS} (v : Inv k c ps) (hk : k ≤ 1000) : goodB c ps = true :=
 good_iff.2 ⟨by have := v.next; omega, v.len, v.pays, v.seqs, v.house hk⟩
theorem Inv.mono {k k' : Int} {c : H} {ps : List PayS} (v : Inv k c ps) (hk : k ≤ k') : Inv k' c ps :=
 { v with next := by have := v.next; omega, ext := fun i hi => by have := v.ext i hi; omega }
theorem settleP_seqs (ps : List PayS) (n : Int) : (settleP ps n).map PayS.seq = ps.map PayS.seq := by
 unfold settleP
 split
 · rename_i p hs
   obtain ⟨_, hp, _⟩ := settles_spec hs
   rw [List.map_set]
   apply List.ext_getElem?
   intro j
   rw [List.getElem?_set]
   split
   · rename_i e
     subst e
     split
     · rw [List.getElem?_map, hp]; rfl
     · rename_i hlt
       rw [List.getElem?_eq_none (by omega)]
   · rfl
 · rfl
theorem settleC_next (c : H) (ps : List PayS) (n : Int) : (settleC c ps n).next = c.next ∧ (settleC c ps n).cred = c.cred ∧ (settleC c ps n).lim = c.lim := by
 unfold settleC moveM
 split
 · split <;> exact ⟨rfl, rfl, rfl⟩
 · exact ⟨rfl, rfl, rfl⟩
theorem Inv.settle {k : Int} {c : H} {ps : List PayS} (v : Inv k c ps) (hk : k ≤ 1000) (n : Int) : Inv k (settleC c ps n) (settleP ps n) := by
 cases hs : settles ps n with
 | none => simp only [settleC, settleP, hs]; exact v
 | some p =>
   obtain ⟨n0, hp, hsta⟩ := settles_spec hs
   have hgp := v.goodPs p (List.mem_of_getElem? hp)
   have ht := pay_transfer hgp
   obtain ⟨ha, hb, hne, h1, h2⟩ := transfer_spec ht
   have hm := move_at (v.house hk).near (by omega) ht
   have ec : settleC c ps n = moveM c p.src p.dst p.amt := by simp only [settleC, hs]
   obtain ⟨e1, e2, e3⟩ := settleC_next c ps n
   have ep : settleP ps n = ps.set n.toNat { p with sta := 2 } := by simp only [settleP, hs]
   have es : ∀ i j : Int, (settleC c ps n).sent i j = c.sent i j + (if i = p.src ∧ j = p.dst then p.amt else 0) := fun i j => by
     rw [ec, hm]
     simp only [up2]
     split
     · rename_i e; obtain ⟨rfl, rfl⟩ := e; simp
     · simp
   have eh : ∀ i : Int, (settleC c ps n).has i = c.has i - (if i = p.src then p.amt else 0) + (if i = p.dst then p.amt else 0) := fun i => by
     rw [ec, hm]
     simp only [up1]
     by_cases h1 : i = p.dst
     · have h2 : ¬ i = p.src := fun e => hne (by rw [← e, h1])
       rw [if_pos h1, if_neg h2, if_pos h1, h1]; omega
     · rw [if_neg h1, if_neg h1]
       by_cases h2 : i = p.src
       · rw [if_pos h2, if_pos h2, h2]; omega
       · rw [if_neg h2, if_neg h2]; omega
   refine ⟨by rw [settleP_len]; exact v.len, fun q hq => ?_, by rw [settleP_seqs]; exact v.seqs, by rw [e1]; exact v.next, by rw [e2]; exact v.cred, by rw [e3]; exact v.lim, fun i j hi hj => ?_, fun i hi => ?_⟩
   · rw [e1]
     rw [ep] at hq
     refine ⟨settleP_good v.goodPs n q (by rw [ep]; exact hq), ?_⟩
     rcases List.mem_or_eq_of_mem_set hq with hq | rfl
     · exact (v.pays q hq).2
     · exact (v.pays p (List.mem_of_getElem? hp)).2
   · rw [es, v.sums i j hi hj, ep, doneS_set _ _ _ _ _ _ hp]
     have t1 : doneT p i j = 0 := by unfold doneT; rw [if_neg]; rintro ⟨h, _⟩; omega
     have t2 : doneT { p with sta := 2 } i j = if i = p.src ∧ j = p.dst then p.amt else 0 := by
       unfold doneT
       simp only
       by_cases h : i = p.src ∧ j = p.dst
       · rw [if_pos h, if_pos ⟨trivial, h.1.symm, h.2.symm⟩]
       · rw [if_neg h, if_neg]; rintro ⟨_, h1, h2⟩; exact h ⟨h1.symm, h2.symm⟩
     rw [t1, t2]; omega
   · have := v.ext i hi
     unfold outT inT at *
     simp only [es, eh]
     have hs4 : p.src = 0 ∨ p.src = 1 ∨ p.src = 2 ∨ p.src = 3 := by omega
     have hd4 : p.dst = 0 ∨ p.dst = 1 ∨ p.dst = 2 ∨ p.dst = 3 := by omega
     have hi4 : i = 0 ∨ i = 1 ∨ i = 2 ∨ i = 3 := by omega
     rcases hs4 with e | e | e | e <;> rcases hd4 with f | f | f | f <;> rcases hi4 with rfl | rfl | rfl | rfl <;> simp only [e, f] at * <;> simp <;> omega
theorem Inv.chain {k : Int} (hk : k ≤ 1000) : ∀ (xs : List Int) {c : H} {ps : List PayS}, Inv k c ps → Inv k (chainC c ps xs) (chainP ps xs)
 | [], _, _, v => v
 | i :: r, _, _, v => Inv.chain hk r (v.settle hk i)
theorem Inv.sweep {k : Int} {c : H} {ps : List PayS} (v : Inv k c ps) (hk : k ≤ 1000) : Inv k (sweepM c ps).c (sweepM c ps).ps := by
 obtain ⟨_, h2, h3⟩ := sweepM_goes (v.good hk)
 rw [h2, h3]; exact v.chain hk _
theorem Inv.untie {k : Int} {c : H} {ps : List PayS} (v : Inv k c ps) (hk : k ≤ 1000) : Inv k (untieM c ps).c (untieM c ps).ps := v.chain hk _
end Go.Proofs.YtmkboljfbmlebacGreat
namespace Go.Proofs.YtmkboljfbmlebacGreat
open Go.RowKit
set_option linter.unusedSimpArgs false
set_option linter.unusedVariables false
inductive Mid (c : H) (ps : List PayS) (a : ActS) : H → List PayS → Int → List Int → Prop
 | pay (h1 : a.kind = 1) (hp : goodPayB (newPay c a) = true) (hl : ps.length ≠ 24) (hn : c.next ≠ 1048576) : Mid c ps a { c with next := c.next + 1 } (ps ++ [newPay c a]) ps.length []
 | gone (p : PayS) (h1 : a.kind = 2) (hs : settles ps a.a = some p) : Mid c ps a c (ps.set a.a.toNat { p with sta := 3 }) 0 []
 | cls (p : PayS) (h1 : a.kind = 3) (hs : settles ps a.a = some p) (hc : 0 ≤ a.c ∧ a.c ≤ 2) (hn : c.next ≠ 1048576) : Mid c ps a { c with next := c.next + 1 } (ps.set a.a.toNat { p with cls := a.c, seq := c.next }) 0 []
 | cred (h1 : a.kind = 4) (ha : 0 ≤ a.a ∧ a.a ≤ 3) (hn : 0 ≤ a.n ∧ a.n ≤ 1000000) : Mid c ps a { c with cred := up1 c.cred a.a a.n } ps 0 []
 | lim (h1 : a.kind = 5) (ha : 0 ≤ a.a ∧ a.a ≤ 3) (hb : 0 ≤ a.b ∧ a.b ≤ 3) (hne : a.a ≠ a.b) (hn : -1 ≤ a.n ∧ a.n ≤ 1000000) : Mid c ps a { c with lim := up2 c.lim a.a a.b a.n } ps 0 []
 | fund (h1 : a.kind = 6) (ha : 0 ≤ a.a ∧ a.a ≤ 3) (hn : 1 ≤ a.n ∧ a.n ≤ 1000000) : Mid c ps a { c with has := up1 c.has a.a (c.has a.a + a.n) } ps 0 []
 | spend (h1 : a.kind = 7) (ha : 0 ≤ a.a ∧ a.a ≤ 3) (hn : 1 ≤ a.n ∧ a.n ≤ 1000000) (hl : a.n ≤ c.has a.a + c.cred a.a) : Mid c ps a { c with has := up1 c.has a.a (c.has a.a - a.n) } ps 0 []
 | untie (h1 : a.kind = 8) : Mid c ps a (untieM c ps).c (untieM c ps).ps (untieM c ps).xs.length (untieM c ps).xs
inductive Step (c : H) (ps : List PayS) (a : ActS) : NR → Prop
 | err (e : Int) (he : e ≠ 0) : Step c ps a (errN c ps e)
 | close (h1 : a.kind = 9) : Step c ps a ⟨c, ps.map goneP, 0, cnt ps, []⟩
 | mid {c1 : H} {ps1 : List PayS} {n : Int} {d : List Int} (m : Mid c ps a c1 ps1 n d) : Step c ps a (sweepN c1 ps1 n d)
theorem next_step (c : H) (ps : List PayS) (a : ActS) : Step c ps a (nextM c ps a) := by
 unfold nextM
 cases hg : goodB c ps
 · simp only [Bool.not_false, cond_true]; exact .err 1 (by decide)
 simp only [Bool.not_true, cond_false]
 cases k1 : decide (a.kind = 1)
 case true =>
   simp only [cond_true]
   cases hp : goodPayB (newPay c a)
   · simp only [Bool.not_false, cond_true]; exact .err 3 (by decide)
   simp only [Bool.not_true, cond_false]
   cases hf : (decide (ps.length = 24) || decide (c.next = 1048576))
   · simp only [cond_false]
     simp only [Bool.or_eq_false_iff, decide_eq_false_iff_not] at hf
     exact .mid (.pay (of_decide_eq_true k1) hp hf.1 hf.2)
   · simp only [cond_true]; exact .err 5 (by decide)
 simp only [cond_false]
 cases k2 : decide (a.kind = 2)
 case true =>
   simp only [Bool.true_or, cond_true]
   split
   · exact .err 4 (by decide)
   · rename_i p hs
     exact .mid (.gone p (of_decide_eq_true k2) hs)
 cases k3 : decide (a.kind = 3)
 case true =>
   simp only [Bool.or_true, cond_true, cond_false]
   split
   · exact .err 4 (by decide)
   · rename_i p hs
     cases hc : withinB a.c 0 2
     · simp only [Bool.not_false, cond_true]; exact .err 3 (by decide)
     simp only [Bool.not_true, cond_false]
     cases hn : decide (c.next = 1048576)
     · simp only [cond_false]; exact .mid (.cls p (of_decide_eq_true k3) hs (within_iff.1 hc) (of_decide_eq_false hn))
     · simp only [cond_true]; exact .err 5 (by decide)
 simp only [Bool.or_self, cond_false]
 cases k4 : decide (a.kind = 4)
 case true =>
   simp only [cond_true]
   cases h1 : withinB a.a 0 3
   · simp only [Bool.not_false, Bool.true_or, cond_true]; exact .err 3 (by decide)
   cases h2 : withinB a.n 0 1000000
   · simp only [Bool.not_false, Bool.or_true, cond_true]; exact .err 3 (by decide)
   simp only [Bool.not_true, Bool.or_self, cond_false]
   exact .mid (.cred (of_decide_eq_true k4) (within_iff.1 h1) (within_iff.1 h2))
 simp only [cond_false]
 cases k5 : decide (a.kind = 5)
 case true =>
   simp only [cond_true]
   cases hb : (!withinB a.a 0 3 || !withinB a.b 0 3 || decide (a.a = a.b) || !withinB a.n (-1) 1000000)
   · simp only [cond_false]
     simp only [Bool.or_eq_false_iff, Bool.not_eq_false', decide_eq_false_iff_not] at hb
     exact .mid (.lim (of_decide_eq_true k5) (within_iff.1 hb.1.1.1) (within_iff.1 hb.1.1.2) hb.1.2 (within_iff.1 hb.2))
   · simp only [cond_true]; exact .err 3 (by decide)
 simp only [cond_false]
 cases k6 : decide (a.kind = 6)
 case true =>
   simp only [cond_true]
   cases hb : (!withinB a.a 0 3 || !withinB a.n 1 1000000)
   · simp only [cond_false]
     simp only [Bool.or_eq_false_iff, Bool.not_eq_false'] at hb
     cases hf : decide (549755813888 ≤ c.has a.a)
     · simp only [cond_false]; exact .mid (.fund (of_decide_eq_true k6) (within_iff.1 hb.1) (within_iff.1 hb.2))
     · simp only [cond_true]; exact .err 5 (by decide)
   · simp only [cond_true]; exact .err 3 (by decide)
 simp only [cond_false]
 cases k7 : decide (a.kind = 7)
 case true =>
   simp only [cond_true]
   cases hb : (!withinB a.a 0 3 || !withinB a.n 1 1000000)
   · simp only [cond_false]
     simp only [Bool.or_eq_false_iff, Bool.not_eq_false'] at hb
     cases hf : decide (c.has a.a + c.cred a.a < a.n)
     · simp only [cond_false]; exact .mid (.spend (of_decide_eq_true k7) (within_iff.1 hb.1) (within_iff.1 hb.2) (by have := of_decide_eq_false hf; omega))
     · simp only [cond_true]; exact .err 6 (by decide)
   · simp only [cond_true]; exact .err 3 (by decide)
 simp only [cond_false]
 cases k8 : decide (a.kind = 8)
 case true => simp only [cond_true]; exact .mid (.untie (of_decide_eq_true k8))
 simp only [cond_false]
 cases k9 : decide (a.kind = 9)
 case true => simp only [cond_true]; exact .close (of_decide_eq_true k9)
 simp only [cond_false]
 exact .err 2 (by decide)
theorem nodup_set {l : List Int} {k : Nat} {x : Int} (h : l.Nodup) (hx : x ∉ l) : (l.set k x).Nodup := by
 induction l generalizing k with
 | nil => simp
 | cons y r ih =>
   obtain ⟨h1, h2⟩ := List.nodup_cons.1 h
   simp only [List.mem_cons, not_or] at hx
   cases k with
   | zero => simp only [List.set_cons_zero, List.nodup_cons]; exact ⟨hx.2, h2⟩
   | succ k =>
     simp only [List.set_cons_succ, List.nodup_cons]
     refine ⟨fun hm => ?_, ih h2 hx.2⟩
     rcases List.mem_or_eq_of_mem_set hm with hm | e
     · exact h1 hm
     · exact hx.1 e.symm
theorem goneP_good {p : PayS} (h : goodPayB p = true) : goodPayB (goneP p) = true := by
 unfold goneP
 cases hs : decide (p.sta = 1)
 · exact h
 · simp only [cond_true]
   simp only [goodPayB, goodStateB, Bool.and_eq_true] at h ⊢
   exact ⟨⟨h.1.1, by simp⟩, h.2⟩
theorem goneP_seq (p : PayS) : (goneP p).seq = p.seq := by unfold goneP; cases decide (p.sta = 1) <;> rfl
theorem goneP_done (p : PayS) (i j : Int) : doneT (goneP p) i j = doneT p i j := by
 unfold goneP
 cases hs : decide (p.sta = 1)
 · rfl
 · have := of_decide_eq_true hs
   simp only [cond_true, doneT]
   rw [if_neg (by rintro ⟨h, _⟩; omega), if_neg (by rintro ⟨h, _⟩; omega)]
theorem Inv.mid {k : Int} {c : H} {ps : List PayS} (v : Inv k c ps) (hk : k ≤ 900) {a : ActS} {c1 : H} {ps1 : List PayS} {n : Int} {d : List Int} (s : Mid c ps a c1 ps1 n d) : Inv (k + 1) c1 ps1 := by
 have vm : Inv (k + 1) c ps := v.mono (by omega)
 have nx := v.next
 cases s with
 | pay h1 hp hl hn =>
   refine ⟨?_, fun p hp' => ?_, ?_, by simp only; omega, v.cred, v.lim, fun i j hi hj => ?_, fun i hi => vm.ext i hi⟩
   · have := v.len; rw [List.length_append]; simp only [List.length_cons, List.length_nil]; omega
   · simp only [List.mem_append, List.mem_singleton] at hp'
     rcases hp' with hp' | rfl
     · have := v.pays p hp'; exact ⟨this.1, by simp only; omega⟩
     · exact ⟨hp, by simp only [newPay]; omega⟩
   · rw [List.map_append, List.nodup_append]
     refine ⟨v.seqs, by simp, fun x hx y hy e => ?_⟩
     simp [newPay] at hy
     obtain ⟨p, hp', rfl⟩ := List.mem_map.1 hx
     have := (v.pays p hp').2
     omega
   · simp only
     rw [doneS_append, v.sums i j hi hj]
     have : doneS [newPay c a] i j = 0 := by simp [doneS, doneT, newPay]
     omega
 | gone p h1 hs =>
   obtain ⟨n0, hp, hsta⟩ := settles_spec hs
   have hg := v.goodPs p (List.mem_of_getElem? hp)
   refine ⟨?_, fun q hq => ?_, ?_, vm.next, v.cred, v.lim, fun i j hi hj => ?_, fun i hi => vm.ext i hi⟩
   · rw [List.length_set]; exact v.len
   · rcases List.mem_or_eq_of_mem_set hq with hq | rfl
     · exact v.pays q hq
     · refine ⟨?_, (v.pays p (List.mem_of_getElem? hp)).2⟩
       simp only [goodPayB, goodStateB, Bool.and_eq_true] at hg ⊢
       exact ⟨⟨hg.1.1, by simp⟩, hg.2⟩
   · have e : (ps.set a.a.toNat { p with sta := 3 }).map PayS.seq = ps.map PayS.seq := by
       rw [List.map_set]
       apply List.ext_getElem?
       intro j
       rw [List.getElem?_set]
       split
       · rename_i e
         subst e
         split
         · rw [List.getElem?_map, hp]; rfl
         · rw [List.getElem?_eq_none (by omega)]
       · rfl
     rw [e]; exact v.seqs
   · rw [doneS_set _ _ _ _ _ _ hp, v.sums i j hi hj]
     have e1 : doneT p i j = 0 := by unfold doneT; rw [if_neg]; rintro ⟨h, _⟩; omega
     have e2 : doneT { p with sta := 3 } i j = 0 := by unfold doneT; rw [if_neg]; rintro ⟨h, _⟩; simp at h
     omega
 | cls p h1 hs hc hn =>
   obtain ⟨n0, hp, hsta⟩ := settles_spec hs
   have hg := v.goodPs p (List.mem_of_getElem? hp)
   refine ⟨?_, fun q hq => ?_, ?_, by simp only; omega, v.cred, v.lim, fun i j hi hj => ?_, fun i hi => vm.ext i hi⟩
   · rw [List.length_set]; exact v.len
   · rcases List.mem_or_eq_of_mem_set hq with hq | rfl
     · have := v.pays q hq; exact ⟨this.1, by simp only; omega⟩
     · refine ⟨?_, by simp only; omega⟩
       simp only [goodPayB, Bool.and_eq_true, within_iff, decide_eq_true_eq] at hg ⊢
       exact ⟨⟨⟨hg.1.1.1, hc⟩, hg.1.2⟩, by omega⟩
   · rw [List.map_set]
     refine nodup_set v.seqs fun hm => ?_
     obtain ⟨q, hq, e⟩ := List.mem_map.1 hm
     have := (v.pays q hq).2
     simp only at e
     omega
   · simp only
     rw [doneS_set _ _ _ _ _ _ hp, v.sums i j hi hj]
     have e1 : doneT p i j = 0 := by unfold doneT; rw [if_neg]; rintro ⟨h, _⟩; omega
     have e2 : doneT { p with cls := a.c, seq := c.next } i j = 0 := by unfold doneT; rw [if_neg]; rintro ⟨h, _⟩; simp only at h; omega
     omega
 | cred h1 ha hn =>
   refine ⟨v.len, v.pays, v.seqs, vm.next, fun i hi => ?_, v.lim, v.sums, fun i hi => vm.ext i hi⟩
   simp only [up1]; split
   · exact hn
   · exact v.cred i hi
 | lim h1 ha hb hne hn =>
   refine ⟨v.len, v.pays, v.seqs, vm.next, v.cred, fun i j hi hj => ?_, v.sums, fun i hi => vm.ext i hi⟩
   simp only [up2]; split
   · exact hn
   · exact v.lim i j hi hj
 | fund h1 ha hn =>
   refine ⟨v.len, v.pays, v.seqs, vm.next, v.cred, v.lim, v.sums, fun i hi => ?_⟩
   have := v.ext i hi
   simp only [up1, outT, inT] at this ⊢; split
   · rename_i e; subst e; omega
   · omega
 | spend h1 ha hn hl =>
   refine ⟨v.len, v.pays, v.seqs, vm.next, v.cred, v.lim, v.sums, fun i hi => ?_⟩
   have := v.ext i hi
   simp only [up1, outT, inT] at this ⊢; split
   · rename_i e; subst e; omega
   · omega
 | untie h1 => exact vm.untie (by omega)
theorem Inv.act {k : Int} {c : H} {ps : List PayS} (v : Inv k c ps) (hk : k ≤ 900) {a : ActS} {r : NR} (s : Step c ps a r) : Inv (k + 1) r.c r.ps := by
 have vm : Inv (k + 1) c ps := v.mono (by omega)
 cases s with
 | err e he => exact vm
 | mid m => exact (v.mid hk m).sweep (by omega)
 | close h1 =>
   refine ⟨by simp only [List.length_map]; exact v.len, fun q hq => ?_, ?_, vm.next, v.cred, v.lim, fun i j hi hj => ?_, fun i hi => vm.ext i hi⟩
   · obtain ⟨p, hp, rfl⟩ := List.mem_map.1 hq
     exact ⟨goneP_good (v.pays p hp).1, by rw [goneP_seq]; exact (v.pays p hp).2⟩
   · simp only [List.map_map]
     rw [show (PayS.seq ∘ goneP) = PayS.seq from funext goneP_seq]; exact v.seqs
   · simp only
     rw [doneS_map _ goneP_done, v.sums i j hi hj]
def Rests (c : H) (ps : List PayS) : Prop := ∀ b : Nat, b < 4 → firstM c ps b = none
theorem rests_sweep {c : H} {ps : List PayS} (hg : goodB c ps = true) : Rests (sweepM c ps).c (sweepM c ps).ps := fun b hb => sweepM_rests hg b hb
theorem rests_none {c : H} {ps : List PayS} (h : ∀ p ∈ ps, p.sta ≠ 1) : Rests c ps := fun b hb => by
 refine firstM_nil ?_
 cases hq : queueM ps b with
 | nil => rfl
 | cons i r =>
   obtain ⟨_, p, hp, h1, _⟩ := queueM_mine (show i ∈ queueM ps b by rw [hq]; simp)
   exact absurd h1 (h p (List.mem_of_getElem? hp))
theorem goneP_sta (p : PayS) : (goneP p).sta ≠ 1 := by
 unfold goneP
 cases hs : decide (p.sta = 1)
 · exact of_decide_eq_false hs
 · simp
theorem rests_act {k : Int} {c : H} {ps : List PayS} (v : Inv k c ps) (hk : k ≤ 900) (h : Rests c ps) {a : ActS} {r : NR} (s : Step c ps a r) : Rests r.c r.ps := by
 cases s with
 | err e he => exact h
 | mid m => exact rests_sweep ((v.mid hk m).good (by omega))
 | close h1 =>
   refine rests_none fun p hp => ?_
   obtain ⟨q, _, rfl⟩ := List.mem_map.1 hp
   exact goneP_sta q
end Go.Proofs.YtmkboljfbmlebacGreat
namespace Go.Proofs.YtmkboljfbmlebacGreat
open Go.RowKit
set_option linter.unusedSimpArgs false
set_option linter.unusedVariables false
theorem untie_len (h : H) (ps : List PayS) : (untieM h ps).ps.length = ps.length := chainP_len _ _
theorem untie_xs_len {h : H} {ps : List PayS} : (untieM h ps).xs.length ≤ ps.length := by
 have hn := allFirsts_nodup ps (mostM h ps)
 have hf := (nodup_full ps.length _ hn (fun i hi => by
   obtain ⟨p, hp⟩ := allFirsts_settles hi
   obtain ⟨h0, h1, _⟩ := settles_spec hp
   have := (List.getElem?_eq_some_iff.1 h1).1
   omega)).1
 exact hf
section
variable {h x : H} {ps : List PayS} (hg : goodB h.core ps = true) (hx : x.core = (untieM h.core ps).c)
include hg hx
end
end Go.Proofs.YtmkboljfbmlebacGreat
namespace Go.Proofs.YtmkboljfbmlebacGreat
open Go.RowKit
set_option linter.unusedSimpArgs false
set_option linter.unusedVariables false
section
variable {P : Program} {n : Nat} {C : Nat → World → Prop} {f : Nat → Value} {l : List Oper} {Ψ : Nat → Value → Prop} {Q : Exit → (Nat → Value) → World → Prop}
def stepsB (l : List Oper) (js : List Nat) : Bool := (List.range js.length).all fun i => match js[i]? with
 | none => false
 | some j => match l[j]? with
   | none => false
   | some o => Nat.beq i 0 || o.after.any fun e => Region.binds .any e && (match js[i - 1]? with | some p => Nat.beq e.on p | none => false)
theorem stepsB_spec {js : List Nat} (h : stepsB l js = true) {i j : Nat} (hj : js[i]? = some j) : j < l.length ∧ ∀ o, l[j]? = some o → ∀ i', i = i' + 1 → ∃ p, js[i']? = some p ∧ ∃ e ∈ o.after, Region.binds .any e = true ∧ e.on = p := by
 unfold stepsB at h
 rw [List.all_eq_true] at h
 have := h i (List.mem_range.2 (List.getElem?_eq_some_iff.1 hj).1)
 rw [hj] at this
 simp only at this
 split at this
 · cases this
 · rename_i o ho
   refine ⟨(List.getElem?_eq_some_iff.1 ho).1, fun o' ho' i' hi' => ?_⟩
   rw [ho] at ho'
   simp at ho'; subst ho'
   subst hi'
   have hz : Nat.beq (i' + 1) 0 = false := rfl
   rw [hz, Bool.false_or, Array.any_eq_true'] at this
   obtain ⟨e, he, h1⟩ := this
   simp only [Nat.add_sub_cancel, Bool.and_eq_true] at h1
   obtain ⟨h1, h2⟩ := h1
   split at h2
   · rename_i p hp
     exact ⟨p, hp, e, he, h1, Nat.eq_of_beq_eq_true h2⟩
   · cases h2
structure FlowInvN (C : Nat → World → Prop) (js : List Nat) (f : Nat → Value) (l : List Oper) (Ψ : Nat → Value → Prop) (s : Array Bool) (g : Nat → Value) (w : World) : Prop where
 size : s.size = l.length
 cls : ∃ k, k ≤ js.length ∧ C k w ∧ ∀ i j, js[i]? = some j → s[j]? = some (decide (i < k))
 done : ∀ (i : Nat) (o : Oper) (d : Nat), l[i]? = some o → s[i]? = some true → o.dst = some d → Ψ d (g d)
 out : ∀ t, t ∉ dstsOf l → g t = f t
theorem d_flowN {id : Nat} {js : List Nat} (hm : P.follows .mixedOrders = true) (hB : opsB n l.toArray = true) (hF : flowB .any l = true) (hnj : js.Nodup) (hjs : stepsB l js = true) (hC : ∀ k w w', C k w → Bel w.heap.size w w' → C k w')
   (h0 : ∀ k, k ≤ js.length → ∀ i o, l[i]? = some o → i ∉ js → Ob P (C k) f l (Fix Ψ) o) (hst : ∀ i j o, js[i]? = some j → l[j]? = some o → ObW P (C i) (C (i + 1)) f l Ψ o)
   (k : ∀ g w, C js.length w → (∀ d ∈ dstsOf l, Ψ d (g d)) → (∀ t, t ∉ dstsOf l → g t = f t) → Q .normal g w) : cC P n (.region id l.toArray true) Q f (C 0) := by
 simp only [flowB, Bool.and_eq_true, decide_eq_true_eq, List.all_eq_true] at hF
 obtain ⟨⟨hnd, hsel⟩, hall⟩ := hF
 have hop : ∀ (i : Nat) (o : Oper), l[i]? = some o → (∀ t ∈ o.looksAt l.toArray, ∀ (j : Nat) (u : Oper), l[j]? = some u → u.dst = some t → ∃ e ∈ o.after, Region.binds .any e = true ∧ e.on = j) ∧ (∀ e ∈ o.after, Region.binds .any e = true → e.on < i) := by
   intro i o hi
   have := hall (o, i) (List.mem_zipIdx_iff_getElem?.2 hi)
   simp only [Bool.and_eq_true, List.all_eq_true] at this
   obtain ⟨h1, h2⟩ := this
   refine ⟨fun t ht j u hj hu => ?_, fun e he hb => ?_⟩
   · have := h1 t ht (u, j) (List.mem_zipIdx_iff_getElem?.2 hj)
     simp [hu] at this
     obtain ⟨i', hi', e1, e2⟩ := this
     exact ⟨_, Array.getElem_mem hi', e1, e2⟩
   · have := Array.all_eq_true_iff_forall_mem.1 h2 e he
     simpa [hb] using this
 have hB' : ∀ o ∈ l, operB n l.toArray o = true := by simpa [opsB] using hB
 have main : ∀ (fuel : Nat) (s : Array Bool) (g : Nat → Value) (w : World), FlowInvN C js f l Ψ s g w → s.toList.countP unset ≤ fuel → wpAny P .any l.toArray (fun e a w => ∃ f, a = Fa n f ∧ Q e f w) fuel s (Fa n g) w := by
   have all : ∀ (s : Array Bool) (g : Nat → Value) (w : World), FlowInvN C js f l Ψ s g w → Region.ready .any l.toArray s = [] → Q .normal g w := by
     intro s g w inv hr
     have hls : ∀ i, i < l.length → s[i]? = some true := by
       intro i
       induction i using Nat.strongRecOn with
       | _ i ih =>
         intro hi
         have his : i < s.size := by rw [inv.size]; exact hi
         cases hv : s[i] with
         | true => simp [his, hv]
         | false =>
           exfalso
           have : i ∈ Region.ready .any l.toArray s := mem_ready.2 ⟨by simp [Array.getD, his, hv], l[i], by simp [hi], fun e he hb => by
             have hlt := (hop i l[i] (by simp [hi])).2 e he hb
             have := ih e.on hlt (by omega)
             have hsz := (Array.getElem?_eq_some_iff.1 this)
             obtain ⟨h1, h2⟩ := hsz
             simp [Array.getD, h1, h2]⟩
           rw [hr] at this
           cases this
     have hcl : C js.length w := by
       obtain ⟨k, hk, hc, hv⟩ := inv.cls
       rcases Nat.lt_or_ge k js.length with h | h
       · have h1 := hv k js[k] (by simp [h])
         have h2 := hls js[k] (stepsB_spec hjs (i := k) (j := js[k]) (by simp [h])).1
         rw [h1] at h2
         simp at h2
       · have : k = js.length := by omega
         rw [← this]; exact hc
     refine k g w hcl (fun d hd => ?_) inv.out
     obtain ⟨o, ho, hd'⟩ := List.mem_filterMap.1 hd
     obtain ⟨i, hi, he⟩ := List.getElem_of_mem ho
     exact inv.done i o d (by simp [hi, he]) (hls i hi) hd'
   intro fuel
   induction fuel with
   | zero =>
     intro s g w inv hc
     have hr : Region.ready .any l.toArray s = [] := by
       cases hr : Region.ready .any l.toArray s with
       | nil => rfl
       | cons i r =>
         exfalso
         have hi := (mem_ready.1 (show i ∈ Region.ready .any l.toArray s by rw [hr]; simp)).1
         have : false ∈ s.toList := by
           by_cases hs : i < s.size
           · simp [Array.getD, hs] at hi
             rw [← hi]; simp
           · simp [Array.getD, hs] at hi
         have := List.countP_pos_iff (p := unset).2 ⟨false, this, rfl⟩
         omega
     exact ⟨hr, g, rfl, all s g w inv hr⟩
   | succ fuel ih =>
     intro s g w inv hc
     refine ⟨fun hr => ⟨g, rfl, all s g w inv hr⟩, fun i hi => ?_⟩
     obtain ⟨hun, o, ho, hed⟩ := mem_ready.1 hi
     have hol : l[i]? = some o := by simpa using ho
     have hom : o ∈ l := List.mem_of_getElem? hol
     have his : i < s.size := by
       rcases Nat.lt_or_ge i s.size with h | h
       · exact h
       · have hn : ¬ i < s.size := by omega
         simp [Array.getD, hn] at hun
     have hfalse : s[i] = false := by simpa [Array.getD, his] using hun
     have hcount : (s.setIfInBounds i true).toList.countP unset ≤ fuel := by
       have e1 : unset (s.toList[i]'(by simpa using his)) = true := by simp [unset, hfalse]
       have h0 : 0 < s.toList.countP unset := List.countP_pos_iff.2 ⟨s.toList[i]'(by simpa using his), List.getElem_mem _, e1⟩
       rw [Array.toList_setIfInBounds, List.countP_set (by simpa using his), if_pos e1, if_neg (by simp [unset])]
       omega
     have hlk : ∀ t ∈ o.looksAt l.toArray, (t ∈ dstsOf l → Ψ t (g t)) ∧ (t ∉ dstsOf l → g t = f t) := fun t ht => ⟨fun htd => by
       obtain ⟨u, hu, hut⟩ := List.mem_filterMap.1 htd
       obtain ⟨j, hj, he⟩ := List.getElem_of_mem hu
       have hj' : l[j]? = some u := by simp [hj, he]
       obtain ⟨e, he1, he2, he3⟩ := (hop i o hol).1 t ht j u hj' hut
       have := hed e he1 he2
       rw [he3] at this
       refine inv.done j u t hj' ?_ hut
       have hjs : j < s.size := by rw [inv.size]; exact hj
       simp [Array.getD, hjs] at this
       simp [hjs, this], inv.out t⟩
     have next : ∀ v w', (∃ k, k ≤ js.length ∧ C k w' ∧ ∀ i' j, js[i']? = some j → (s.setIfInBounds i true)[j]? = some (decide (i' < k))) → (∀ d, o.dst = some d → Ψ d v) → FlowInvN C js f l Ψ (s.setIfInBounds i true) (updo g o.dst v) w' := by
       intro v w' hc hv
       refine ⟨by simp [inv.size], hc, fun j u d hj hs hu => ?_, fun t ht => ?_⟩
       · by_cases hji : j = i
         · subst hji
           rw [hol] at hj
           simp at hj; subst hj
           rw [hu]
           simp only [updo, upd_same]
           exact hv d hu
         · have hs' : s[j]? = some true := by rw [Array.getElem?_setIfInBounds_ne (Ne.symm hji)] at hs; exact hs
           have hne : o.dst ≠ some d := fun e => hji (dst_unique hnd hj hol hu e)
           have := inv.done j u d hj hs' hu
           cases hod : o.dst with
           | none => exact this
           | some d' =>
             simp only [updo]
             rw [upd_other g v (fun e => hne (by rw [hod, e]))]
             exact this
       · cases hod : o.dst with
         | none => exact inv.out t ht
         | some d' =>
           simp only [updo]
           rw [upd_other g v (fun e => ht (List.mem_filterMap.2 ⟨o, hom, by rw [hod, e]⟩))]
           exact inv.out t ht
     have hob : if Region.wanted o (yf l.toArray g) then opk P o g w (fun g' w' => ∃ v, g' = updo g o.dst v ∧ FlowInvN C js f l Ψ (s.setIfInBounds i true) (updo g o.dst v) w') else FlowInvN C js f l Ψ (s.setIfInBounds i true) (updo g o.dst undef) w := by
       obtain ⟨kk, hkk, hck, hvk⟩ := inv.cls
       by_cases hij : i ∈ js
       · obtain ⟨q, hq, he⟩ := List.getElem_of_mem hij
         have hq' : js[q]? = some i := by simp [hq, he]
         have hqk : q = kk := by
           have h1 := hvk q i hq'
           have h2 : s[i]? = some false := by simp [his, hfalse]
           rw [h2] at h1
           simp at h1
           rcases Nat.lt_or_ge kk q with h | h
           · obtain ⟨q', rfl⟩ : ∃ q', q = q' + 1 := ⟨q - 1, by omega⟩
             obtain ⟨p, hp, e, he1, he2, he3⟩ := (stepsB_spec hjs hq').2 o hol q' rfl
             have h3 := hvk q' p hp
             have h4 := hed e he1 he2
             rw [he3] at h4
             have hps := (Array.getElem?_eq_some_iff.1 h3).1
             have h5 : s[p]? = some true := by simp [Array.getD, hps] at h4; simp [hps, h4]
             rw [h3] at h5
             simp at h5
             omega
           · omega
         subst hqk
         obtain ⟨hgd, hsc⟩ := hst q i o hq' hol g hlk
         have := hsc w hck
         have hwt : Region.wanted o (yf l.toArray g) = true := by
           unfold Region.wanted; rw [hgd]
         unfold sw at this
         rw [if_pos hwt] at this ⊢
         unfold opk at this ⊢
         have fin : ∀ g' w', (∃ v, g' = updo g o.dst v ∧ C (q + 1) w' ∧ ∀ d, o.dst = some d → Ψ d v) → ∃ v, g' = updo g o.dst v ∧ FlowInvN C js f l Ψ (s.setIfInBounds i true) (updo g o.dst v) w' := by
           rintro g' w' ⟨v, e, hc1, hv⟩
           refine ⟨v, e, next v w' ⟨q + 1, hq, hc1, fun i' j hj => ?_⟩ hv⟩
           by_cases hji : i = j
           · subst hji
             have : i' = q := by
               have h1 := (List.getElem?_eq_some_iff.1 hj)
               obtain ⟨h1, h2⟩ := h1
               exact (List.getElem_inj hnj).1 (h2.trans he.symm)
             subst this
             simp [his]
           · rw [Array.getElem?_setIfInBounds_ne hji, hvk i' j hj]
             have : i' ≠ q := fun e => by rw [e, hq'] at hj; simp at hj; exact hji hj
             simp only [Option.some.injEq, decide_eq_decide]
             omega
         generalize (execOp (ev g) o).run P w = r at this ⊢
         cases r with
         | ok nx w' =>
           cases nx <;> simp only at this ⊢
           case value v => exact fin _ _ this
           case skip => exact fin _ _ this
           case enter fn args => exact Calls.mono this fun e w'' ⟨v, he, h⟩ => ⟨v, he, fin _ _ h⟩
         | halt x w' => exact this
       · have hb := h0 kk hkk i o hol hij g w hck hlk
         have nx : ∀ v w', Bel w.heap.size w w' → (∀ d, o.dst = some d → Ψ d v) → FlowInvN C js f l Ψ (s.setIfInBounds i true) (updo g o.dst v) w' := fun v w' hbel hv =>
           next v w' ⟨kk, hkk, hC kk w w' hck hbel, fun i' j hj => by
             rw [Array.getElem?_setIfInBounds_ne (fun e => hij (by rw [e]; exact List.mem_of_getElem? hj))]; exact hvk i' j hj⟩ hv
         split
         · rename_i hwt
           rw [if_pos hwt] at hb
           unfold opk at hb ⊢
           generalize (execOp (ev g) o).run P w = r at hb ⊢
           cases r with
           | ok nx' w' =>
             cases nx' <;> simp only at hb ⊢
             case value v => obtain ⟨v', e, hbel, hv⟩ := hb; exact ⟨v', e, nx v' w' hbel hv⟩
             case skip => obtain ⟨v', e, hbel, hv⟩ := hb; exact ⟨v', e, nx v' w' hbel hv⟩
             case enter fn args => exact Calls.mono hb fun e w'' ⟨v, he, v', e', hbel, hv⟩ => ⟨v, he, v', e', nx v' w'' hbel hv⟩
           | halt x w' => exact hb
         · rename_i hwt
           rw [if_neg hwt] at hb
           exact nx undef w (Bel.refl _ _) hb
     unfold wpOp
     simp only [ho]
     rw [Fa_wanted (hB' o hom)]
     split
     · rename_i hw
       rw [if_pos hw] at hob
       refine Or.inl ?_
       unfold Oper.wp
       rw [Fa_exec (hB' o hom)]
       unfold opk at hob
       generalize (execOp (ev g) o).run P w = r at hob
       cases r with
       | ok nx w' =>
         cases nx <;> simp only at hob <;> simp only [Oper.upon]
         case value v =>
           obtain ⟨v', e, hinv⟩ := hob
           rw [Fa_put, e]
           exact ih _ _ _ hinv hcount
         case skip =>
           obtain ⟨v', e, hinv⟩ := hob
           rw [Fa_put, e]
           exact ih _ _ _ hinv hcount
         case enter fn args =>
           refine Calls.mono hob fun e w'' ⟨v, he, v', e', hinv⟩ => ?_
           subst he
           show wpAny P .any l.toArray _ fuel _ ((Fa n g).put o.dst v) w''
           rw [Fa_put, e']
           exact ih _ _ _ hinv hcount
       | halt x w' => exact hob.elim
     · rename_i hw
       rw [if_neg hw] at hob
       rw [Fa_put]
       exact ih _ _ _ hob hcount
 intro w hw
 refine wp_region_any hm ?_
 refine main _ _ f w.drew ⟨by simp, ⟨0, Nat.zero_le _, hC 0 w _ hw ((Bel.refl _ _).drew), fun i j hj => ?_⟩, fun i o d hi hs hd => ?_, fun _ _ => rfl⟩ ?_
 · have := (stepsB_spec hjs hj).1
   simp [this]
 · rw [Array.getElem?_replicate] at hs
   split at hs <;> simp at hs
 · have := List.countP_le_length (p := unset) (l := (Array.replicate l.toArray.size false).toList)
   simpa using this
variable {w0 : World} {F : Addr → Value → Prop} {L0 L1 L2 : List (Nat × Obj)}
def three {α : Type} (a b c : α) : Nat → α
 | 0 => a
 | 1 => b
 | _ => c
theorem two_others {j0 j1 i : Nat} {o : Oper} (hj : j0 < j1) (hi : l[i]? = some o) (hn : i ∉ [j0, j1]) : o ∈ (l.eraseIdx j1).eraseIdx j0 := by
 simp only [List.mem_cons, List.not_mem_nil, or_false, not_or] at hn
 refine List.mem_eraseIdx_iff_getElem?.2 ?_
 rcases Nat.lt_or_ge i j1 with h | h
 · exact ⟨i, hn.1, by rw [List.getElem?_eraseIdx_of_lt h]; exact hi⟩
 · exact ⟨i - 1, by omega, by rw [List.getElem?_eraseIdx_of_ge (by omega), show i - 1 + 1 = i by omega]; exact hi⟩
theorem d_flow2 {id j0 j1 : Nat} {o0 o1 : Oper} (hm : P.follows .mixedOrders = true) (hB : opsB n l.toArray = true) (hF : flowB .any l = true) (hj : Nat.ble (j0 + 1) j1 = true) (hs : stepsB l [j0, j1] = true) (ho0 : l[j0]? = some o0) (ho1 : l[j1]? = some o1)
   (h0 : Obs P (Has w0 F L0) f l (Fix Ψ) ((l.eraseIdx j1).eraseIdx j0)) (h1 : Obs P (Has w0 F L1) f l (Fix Ψ) ((l.eraseIdx j1).eraseIdx j0)) (h2 : Obs P (Has w0 F L2) f l (Fix Ψ) ((l.eraseIdx j1).eraseIdx j0))
   (hs0 : ObW P (Has w0 F L0) (Has w0 F L1) f l Ψ o0) (hs1 : ObW P (Has w0 F L1) (Has w0 F L2) f l Ψ o1)
   (k : ∀ g w, Has w0 F L2 w → (∀ d ∈ dstsOf l, Ψ d (g d)) → (∀ t, t ∉ dstsOf l → g t = f t) → Q .normal g w) : cC P n (.region id l.toArray true) Q f (Has w0 F L0) := by
 have hj' := Nat.le_of_ble_eq_true hj
 refine d_flowN (C := fun i => Has w0 F (three L0 L1 L2 i)) (js := [j0, j1]) hm hB hF (by simp; omega) hs (fun k w w' hw hb => hw.below hb) (fun k hk i o hi hn => ?_) (fun i j o hij hjo => ?_) k
 · have hmem := two_others hj' hi hn
   simp only [List.length_cons, List.length_nil] at hk
   have h3 : k = 0 ∨ k = 1 ∨ k = 2 := by omega
   rcases h3 with rfl | rfl | rfl
   · exact h0.mem o hmem
   · exact h1.mem o hmem
   · exact h2.mem o hmem
 · match i, hij with
   | 0, hij => simp at hij; subst hij; rw [ho0] at hjo; simp at hjo; subst hjo; exact hs0
   | 1, hij => simp at hij; subst hij; rw [ho1] at hjo; simp at hjo; subst hjo; exact hs1
theorem f2_seq {id j0 j1 : Nat} {o0 o1 : Oper} {y : Code} (hm : P.follows .mixedOrders = true) (hB : opsB n l.toArray = true) (hF : flowB .any l = true) (hj : Nat.ble (j0 + 1) j1 = true) (hs : stepsB l [j0, j1] = true) (ho0 : l[j0]? = some o0) (ho1 : l[j1]? = some o1)
   (hs0 : ObW P (Has w0 F L0) (Has w0 F L1) f l Ψ o0) (hs1 : ObW P (Has w0 F L1) (Has w0 F L2) f l Ψ o1)
   (h0 : Obs P (Has w0 F L0) f l (Fix Ψ) ((l.eraseIdx j1).eraseIdx j0)) (h1 : Obs P (Has w0 F L1) f l (Fix Ψ) ((l.eraseIdx j1).eraseIdx j0)) (h2 : Obs P (Has w0 F L2) f l (Fix Ψ) ((l.eraseIdx j1).eraseIdx j0))
   (k : ∀ g, (∀ d ∈ dstsOf l, Ψ d (g d)) → (∀ t, t ∉ dstsOf l → g t = f t) → cC P n y Q g (Has w0 F L2)) : cC P n (.seq (.region id l.toArray true) y) Q f (Has w0 F L0) :=
 c_seq (d_flow2 hm hB hF hj hs ho0 ho1 h0 h1 h2 hs0 hs1 (fun g w hw h1 h2 => k g h1 h2 w hw))
end
section
variable {P : Program} {ops : Array Oper} {K : (Nat → Value) → World → Prop} {rest : List Oper} {f : Nat → Value} {d : Nat} {ty : TypeId} {pos : String} {af : Array Edge} {w0 : World} {F : Addr → Value → Prop} {L : List (Nat × Obj)}
theorem run_callC {k : FuncId} {x : Operand} {xs : List Operand} {caps : List Value} {ats : Array TypeId} {dst : Option Nat} {gd : Option (Nat × Bool)} (hx : ev f x = .func (.func k) #[] caps.toArray) (hk : hasBody P k = true) (w : World) :
   (execOp (ev f) ⟨dst, .call ⟨.value x, xs.toArray, ats⟩, ty, pos, af, gd⟩).run P w = .ok (.enter k (xs.map (ev f) ++ caps).toArray) w := by
 unfold hasBody at hk
 split at hk
 · rename_i fn hf
   simp only [Bool.and_eq_true, Bool.not_eq_true'] at hk
   obtain ⟨h1, h2⟩ := hk
   have h3 : ¬ fn.body = none := by intro e; rw [e] at h1; cases h1
   have h4 : ¬ fn.name = "runtime.NumGoroutine" := by intro e; rw [e] at h2; simp at h2
   simp [execOp, resolve, hx, Deferred.ofValue, invoke, callFunc, hf, h3, h4]
 · cases hk
theorem s_callC {k : FuncId} {x : Operand} {xs : List Operand} {caps : List Value} {ats : Array TypeId} {v : Value} (hx : ev f x = .func (.func k) #[] caps.toArray) (hk : hasBody P k = true) (hg : ∀ w, Has w0 F L w → Gives P k (xs.map (ev f) ++ caps) w v) (kk : sC P ops K rest (upd f d v) (Has w0 F L)) :
   sC P ops K (⟨some d, .call ⟨.value x, xs.toArray, ats⟩, ty, pos, af, none⟩ :: rest) f (Has w0 F L) := by
 intro w hw
 unfold sw
 rw [if_pos wanted_free]
 unfold opk
 rw [run_callC hx hk w]
 refine (hg w hw).out.mono fun e w' ⟨he, hb⟩ => ⟨v, he, kk w' (hw.below hb)⟩
end
def FreshX (E : List (Nat × Obj)) (w w' : World) : Addr → Value → Prop := fun a v => Fresh w w' a v ∧ a.block ∉ E.map (·.1)
structure GivesX (P : Program) (k : FuncId) (args : List Value) (w : World) (R : (Addr → Value → Prop) → Value → List (Nat × Obj) → Prop) : Prop where
 out : Calls P k args.toArray w fun e w' => ∃ v E, e = .returned v ∧ Bel w.heap.size w w' ∧ NewBlocks w w' E ∧ R (FreshX E w w') v E
def MonoX (R : (Addr → Value → Prop) → Value → List (Nat × Obj) → Prop) : Prop := ∀ F F' v E, More F F' → R F v E → R F' v E
theorem givesX_of {P : Program} {k : FuncId} {fn : Func} {c : Code} {n : Nat} {args : List Value} {w : World} {R : (Addr → Value → Prop) → Value → List (Nat × Obj) → Prop}
   (hf : P.funcs[k]? = some fn) (hb : fn.body = some c) (hn : fn.ntmps = n) (hl : args.length ≤ n)
   (h : cC P n c (retQ P fn n (fun v w' => ∃ E, Bel w.heap.size w w' ∧ NewBlocks w w' E ∧ R (FreshX E w w') v E)) (argF args) (Has w (At w) [])) : GivesX P k args w R :=
 ⟨(givesR_of hf hb hn hl h).out.mono fun e w' ⟨v, he, E, h1, h2, h3⟩ => ⟨v, E, he, h1, h2, h3⟩⟩
theorem s_callX {P : Program} {ops : Array Oper} {K : (Nat → Value) → World → Prop} {rest : List Oper} {f : Nat → Value} {d : Nat} {ty : TypeId} {pos : String} {af : Array Edge} {w0 : World} {F : Addr → Value → Prop} {L : List (Nat × Obj)}
   {k : FuncId} {xs : List Operand} {ats : Array TypeId} {R : (Addr → Value → Prop) → Value → List (Nat × Obj) → Prop} (hk : hasBody P k = true) (hR : MonoX R) (hg : ∀ w, Has w0 F L w → GivesX P k (xs.map (ev f)) w R)
   (kk : ∀ (F' : Addr → Value → Prop) (v : Value) (E : List (Nat × Obj)), More F F' → R (Young w0 F') v E → sC P ops K rest (upd f d v) (Has w0 F' (E ++ L))) :
   sC P ops K (⟨some d, .call ⟨.value (.func k), xs.toArray, ats⟩, ty, pos, af, none⟩ :: rest) f (Has w0 F L) := by
 intro w hw
 unfold sw
 rw [if_pos wanted_free]
 unfold opk
 rw [run_call hk w]
 refine (hg w hw).out.mono fun e w' ⟨v, E, he, hb, hE, hr⟩ => ⟨_, he, ?_⟩
 have h' := hw.gain hb hE
 refine kk (Out (E ++ L) w') v E (fun a v h => h'.2.2.2 a v h) (hR _ _ v E (fun a v h => ⟨⟨h.1.1, ?_⟩, Nat.le_trans hw.1.size h.1.2⟩) hr) w' ⟨h'.1, h'.2.1, h'.2.2.1, fun a v h => h⟩
 rw [List.map_append, List.mem_append]
 rintro (hm | hm)
 · exact h.2 hm
 · exact (Fresh.out hw a v h.1).2 hm
theorem young_freshX {w0 w : World} {F : Addr → Value → Prop} {E L : List (Nat × Obj)} (h : Has w0 F (E ++ L) w) : More (Young w0 F) (FreshX E w0 w) := fun a v hy => ⟨young_fresh h a v hy, fun hm => (h.2.2.2 a v hy.1).2 (by rw [List.map_append, List.mem_append]; exact .inl hm)⟩
def SweepX (h0 : H) (ps0 : List PayS) (s : QS) (e : Nat) (F : Addr → Value → Prop) (v : Value) (E : List (Nat × Obj)) : Prop := ∃ v1 v2, v = .tuple #[v1, v2] ∧ HouseF h0 ps0 s.c s.ps F v1 ∧ ListE e 1 v2 s.xs.length (s.xs.map I) E
theorem sweepX_mono (h0 : H) (ps0 : List PayS) (s : QS) (e : Nat) : MonoX (SweepX h0 ps0 s e) := by
 rintro F F' v E hm ⟨v1, v2, h1, h2, h3⟩
 exact ⟨v1, v2, h1, houseF_mono _ _ _ _ _ _ _ hm h2, h3⟩
theorem SwOk.doneX {w w' : World} {h0 : H} {ps0 : List PayS} {e : Nat} {t : SwG} {L : List (Nat × Obj)} (k : SwOk w h0 ps0 e t) (hw : Has w t.F (t.E ++ L) w') : SweepX h0 ps0 t.q e (FreshX t.E w w') (.tuple #[.agg t.h.cells, t.v]) t.E :=
 ⟨_, _, rfl, ⟨t.h, rfl, rfl, k.lc, k.out.imp id fun h => h.mono (young_freshX hw)⟩, k.list⟩
theorem n_done2X {P : Program} {fn : Func} {n t t2 T b m ty : Nat} {fr : Nat × Nat} {cs : Array Value} {f : Nat → Value} {w0 : World} {F : Addr → Value → Prop} {L E L' : List (Nat × Obj)} {R : (Addr → Value → Prop) → Value → List (Nat × Obj) → Prop} (hr : fn.results = #[.cell t T, .tmp t2]) (ht : t < n) (ht2 : t2 < n) (hp : f t = .pointer (some ⟨b, 0, none⟩))
   (hT : aggB P T m = true) (hl : Look L b (.cells cs ty fr)) (hm : cs.size = m) (hE : ∀ w, Has w0 F L w → Has w0 F (E ++ L') w) (hv : ∀ w, Has w0 F L w → R (FreshX E w0 w) (.tuple #[.agg cs, f t2]) E) : nC (retQ P fn n (fun v w' => ∃ E, Bel w0.heap.size w0 w' ∧ NewBlocks w0 w' E ∧ R (FreshX E w0 w') v E)) .ret f (Has w0 F L) := by
 intro w hw
 refine ⟨.tuple #[.agg cs, f t2], ?_, E, hw.1, (hE w hw).new, hv w hw⟩
 have e : (Fa n f).tmps[t]?.getD undef = f t := by simp [Fa, ht]
 have e2 : (Fa n f).tmps[t2]?.getD undef = f t2 := by simp [Fa, ht2]
 subst hm
 have := run_loadN (P := P) (w := w) (b := b) (o := 0) (cs := cs.toList) (by simpa using hT) (fun j v hj => by
   rw [cell_has hw hl]; simpa using hj)
 simp only [Instr.loadAt, Instr.sureAddr, Sem.run_bind, Sem.run_pure, Result.andThen] at this
 simp [results, hr, e, e2, hp, asAddr, this]
theorem results_two {P : Program} {fn : Func} {n t T b m ty t' T' b' m' ty' : Nat} {fr fr' : Nat × Nat} {cs cs' : Array Value} {f : Nat → Value} {w0 w : World} {F : Addr → Value → Prop} {L : List (Nat × Obj)} (hr : fn.results = #[.cell t T, .cell t' T']) (ht : t < n) (ht' : t' < n) (hp : f t = .pointer (some ⟨b, 0, none⟩)) (hp' : f t' = .pointer (some ⟨b', 0, none⟩))
   (hT : aggB P T m = true) (hT' : aggB P T' m' = true) (hl : Look L b (.cells cs ty fr)) (hl' : Look L b' (.cells cs' ty' fr')) (hm : cs.size = m) (hm' : cs'.size = m') (hw : Has w0 F L w) : (results fn (Fa n f).tmps).run P w = .ok (.tuple #[.agg cs, .agg cs']) w := by
 have e : (Fa n f).tmps[t]?.getD undef = f t := by simp [Fa, ht]
 have e2 : (Fa n f).tmps[t']?.getD undef = f t' := by simp [Fa, ht']
 subst hm hm'
 have h1 := run_loadN (P := P) (w := w) (b := b) (o := 0) (cs := cs.toList) (by simpa using hT) (fun j v hj => by
   rw [cell_has hw hl]; simpa using hj)
 have h2 := run_loadN (P := P) (w := w) (b := b') (o := 0) (cs := cs'.toList) (by simpa using hT') (fun j v hj => by
   rw [cell_has hw hl']; simpa using hj)
 simp only [Instr.loadAt, Instr.sureAddr, Sem.run_bind, Sem.run_pure, Result.andThen] at h1 h2
 simp [results, hr, e, e2, hp, hp', asAddr, h1, h2]
section
variable {P : Program} {fn : Func} {n t T b m ty t' T' b' m' ty' : Nat} {fr fr' : Nat × Nat} {cs cs' : Array Value} {f : Nat → Value} {w0 : World} {F : Addr → Value → Prop} {L : List (Nat × Obj)}
theorem n_done2C {v : Value} (hr : fn.results = #[.cell t T, .cell t' T']) (ht : t < n) (ht' : t' < n) (hp : f t = .pointer (some ⟨b, 0, none⟩)) (hp' : f t' = .pointer (some ⟨b', 0, none⟩))
   (hT : aggB P T m = true) (hT' : aggB P T' m' = true) (hl : Look L b (.cells cs ty fr)) (hl' : Look L b' (.cells cs' ty' fr')) (hm : cs.size = m) (hm' : cs'.size = m') (hv : .tuple #[.agg cs, .agg cs'] = v) : nC (retQ P fn n (fun v' w' => v' = v ∧ Bel w0.heap.size w0 w')) .ret f (Has w0 F L) :=
 fun w hw => ⟨_, results_two hr ht ht' hp hp' hT hT' hl hl' hm hm' hw, hv, hw.1⟩
theorem n_done2CF {R : (Addr → Value → Prop) → Value → Prop} (hr : fn.results = #[.cell t T, .cell t' T']) (ht : t < n) (ht' : t' < n) (hp : f t = .pointer (some ⟨b, 0, none⟩)) (hp' : f t' = .pointer (some ⟨b', 0, none⟩))
   (hT : aggB P T m = true) (hT' : aggB P T' m' = true) (hl : Look L b (.cells cs ty fr)) (hl' : Look L b' (.cells cs' ty' fr')) (hm : cs.size = m) (hm' : cs'.size = m') (hv : ∀ w, Has w0 F L w → R (Fresh w0 w) (.tuple #[.agg cs, .agg cs'])) : nC (retQ P fn n (fun v w' => Bel w0.heap.size w0 w' ∧ R (Fresh w0 w') v)) .ret f (Has w0 F L) :=
 fun w hw => ⟨_, results_two hr ht ht' hp hp' hT hT' hl hl' hm hm' hw, hw.1, hv w hw⟩
end
section
variable {P : Program} {ops : Array Oper} {K : (Nat → Value) → World → Prop} {rest : List Oper} {f : Nat → Value} {d : Nat} {ty : TypeId} {pos : String} {af : Array Edge} {w0 : World} {F : Addr → Value → Prop} {E L : List (Nat × Obj)}
theorem s_copyPays {T e by_ c : Nat} {ats : Array TypeId} {x y : Operand} {a : Option Addr} {pl : Nat} {ps : List PayS} (hT : rowB P T e 6 by_ = true) (hbb : Nat.ble 1 by_ = true) (hat : ats = #[T, T])
   (hx : ev f x = .slice none 0 0) (hy : ev f y = .slice a pl c) (hp : PaysIn F a pl ps) (hbytes : pl * by_ ≤ 140737488355328)
   (kk : ∀ v' E', ListE e 6 v' pl (flatC ps) E' → sC P ops K rest (upd f d v') (Has w0 F (E' ++ L))) :
   sC P ops K (⟨some d, .call ⟨.builtin .append, #[x, y], ats⟩, ty, pos, af, none⟩ :: rest) f (Has w0 F L) := by
 intro w hw
 subst hat
 unfold sw
 rw [if_pos wanted_free]
 unfold opk
 have hrun : ∀ v' w', (Builtin.append_ #[T, T] ty #[.slice none 0 0, .slice a pl c]).run P w = .ok v' w' → (execOp (ev f) ⟨some d, .call ⟨.builtin .append, #[x, y], #[T, T]⟩, ty, pos, af, none⟩).run P w = .ok (.value v') w' := by
   intro v' w' hr
   simp [execOp, resolve, invoke, builtin, hx, hy, hr]
 obtain ⟨hl, hp⟩ := hp
 by_cases h0 : pl = 0
 · subst h0
   have hps : ps = [] := List.eq_nil_of_length_eq_zero hl
   subst hps
   obtain ⟨i, z, hu, hii, hs, hby, hz, hzs⟩ := rowB_spec hT
   have hsz : ∀ w, (sizeOf e).run P w = .ok 6 w := fun w => by simp [sizeOf, typeInfo, hii, hs]
   have : (Builtin.append_ #[T, T] ty #[.slice none 0 0, .slice a 0 c]).run P w = .ok (.slice none 0 0) w := by
     cases a <;> simp [Builtin.append_, underlying, hu, hsz, Builtin.lenOf, Builtin.firstCells, loadCells, loadCellsFrom]
   rw [hrun _ _ this]
   exact kk _ [] (listE_nil e 6) w hw
 · obtain ⟨b, o, rfl, hF⟩ := hp.resolve_left h0
   obtain ⟨v', E', w', hr, hE', hw'⟩ := run_appendE (P := P) (w0 := w0) (F := F) (L := L) (E := []) (c := c) (ty := ty) (b := b) (o := o) (mm := pl) (news := flatC ps) hT (by decide) (listE_nil e 6) hw (by rw [flatC_length, hl]) (fun j u hj => by
     obtain ⟨p, h1, h2⟩ := flatC_inv ps j u hj
     have h3 := hw.at _ _ (hF (j / 6) p h1 (j % 6) u h2)
     have e : o + j / 6 * 6 + j % 6 = o + j := by omega
     rw [e] at h3
     exact h3) (fun u hu => by
     obtain ⟨p, _, hp⟩ := List.mem_flatMap.1 hu
     have := PayS.all1 p
     rw [Array.all_eq_true_iff_forall_mem] at this
     exact this u (by simpa using hp)) (by omega) (by rw [Nat.zero_add]; exact hbytes) (Nat.le_of_ble_eq_true hbb)
   rw [hrun _ _ hr]
   rw [Nat.zero_add, List.nil_append] at hE'
   exact kk v' E' hE' w' hw'
end
theorem flat_cells {cs : Array Value} {ps : List PayS} (h : cs.toList.take (ps.length * 6) = flatC ps) : CellsOf cs ps := by
 intro j p hj k v hv
 have h1 := flatC_get ps j p hj k v hv
 rw [← h, List.getElem?_take] at h1
 split at h1
 · simpa using h1
 · cases h1
theorem ListE.pays {e : Nat} {a : Option Addr} {c : Nat} {ps : List PayS} {n : Nat} {E : List (Nat × Obj)} (h : ListE e 6 (.slice a n c) n (flatC ps) E) (hl : ps.length = n) : PaysE a n c ps E := by
 refine ⟨hl, ?_⟩
 rcases h.2 with ⟨h1, h2, h3⟩ | ⟨g, cap, cur, h1, h2, h3, h4, h5, h6⟩
 · simp at h1
   exact ⟨by omega, .inl ⟨h1.1, h2, h1.2.2, h3⟩⟩
 · simp at h1
   obtain ⟨rfl, rfl⟩ := h1
   exact ⟨h3, .inr ⟨g, e, cur, rfl, h2, h5, flat_cells (by rw [hl]; exact h6)⟩⟩
theorem CellsOf.put {cs : Array Value} {ps : List PayS} (h : CellsOf cs ps) {n : Nat} {p p' : PayS} (hn : ps[n]? = some p) {q : Nat} {v : Value} (hk : ∀ j, j ≠ q → p'.cells[j]? = p.cells[j]?) (hv : p'.cells[q]? = some v) : CellsOf (cs.setIfInBounds (0 + n * 6 + q) v) (ps.set n p') := by
 intro j x hj k u hu
 have hk6 : k < 6 := by
   rcases Nat.lt_or_ge k 6 with h | h
   · exact h
   · rw [Array.getElem?_eq_none (by simpa [PayS.cells] using h)] at hu; cases hu
 have hq6 : q < 6 := by
   rcases Nat.lt_or_ge q 6 with h | h
   · exact h
   · rw [Array.getElem?_eq_none (by simpa [PayS.cells] using h)] at hv; cases hv
 rw [Nat.zero_add]
 rw [List.getElem?_set] at hj
 split at hj
 · rename_i e
   subst e
   split at hj
   · simp at hj
     subst hj
     by_cases hkq : k = q
     · subst hkq
       rw [hv] at hu
       simp at hu; subst hu
       obtain ⟨u0, hu0⟩ : ∃ u0, p.cells[k]? = some u0 := ⟨p.cells[k]'(by simpa [PayS.cells] using hk6), by simp⟩
       have := h n p hn k u0 hu0
       rw [Array.getElem?_setIfInBounds_self_of_lt (Array.getElem?_eq_some_iff.1 this).1]
     · rw [Array.getElem?_setIfInBounds_ne (by omega)]
       rw [hk k hkq] at hu
       exact h n p hn k u hu
   · cases hj
 · rename_i e
   rw [Array.getElem?_setIfInBounds_ne (by omega)]
   exact h j x hj k u hu
theorem perm_front {α : Type} {A E B : List α} : (A ++ (E ++ B)).Perm (E ++ (A ++ B)) := by
 rw [← List.append_assoc, ← List.append_assoc]
 exact List.Perm.append_right _ List.perm_append_comm
def ReplyF (c n : Int) (xs : List Int) (F : Addr → Value → Prop) (v : Value) : Prop := ∃ a cp, v = .agg (repC c n (.slice a xs.length cp)) ∧ IntsAt F a xs
def NextF (h0 : H) (ps0 : List PayS) (q : NR) (F : Addr → Value → Prop) (v : Value) : Prop := ∃ v1 v2, v = .tuple #[v1, v2] ∧ HouseF h0 ps0 q.c q.ps F v1 ∧ ReplyF q.code q.n q.done F v2
theorem nextF_mono (h0 : H) (ps0 : List PayS) (q : NR) : Mono (NextF h0 ps0 q) := by
 rintro F F' v hm ⟨v1, v2, h1, h2, a, cp, h3, h4⟩
 exact ⟨v1, v2, h1, houseF_mono _ _ _ _ _ _ _ hm h2, a, cp, h3, h4.mono hm⟩
theorem nextF_err {h : H} {ps : List PayS} {e : Int} {F : Addr → Value → Prop} {q : NR} (hq : q = errN h.core ps e) (hlc : h.pl ≤ h.pc) : NextF h ps q F (.tuple #[.agg h.cells, .agg (repC e 0 (.slice none 0 0))]) := by
 subst hq
 exact ⟨_, _, rfl, ⟨h, rfl, rfl, hlc, .inl ⟨rfl, rfl, rfl⟩⟩, none, 0, rfl, .inl rfl⟩
theorem waits_none {ps : List PayS} {n : Int} (h : waitsB ps n = false) : settles ps n = none := by
 unfold waitsB at h
 cases hs : settles ps n with
 | none => rfl
 | some p => rw [hs] at h; cases h
theorem waits_some {ps : List PayS} {n : Int} (h : waitsB ps n = true) : ∃ p, settles ps n = some p := by
 unfold waitsB at h
 cases hs : settles ps n with
 | none => rw [hs] at h; cases h
 | some p => exact ⟨p, rfl⟩
theorem Val.to {P : Program} {f : Nat → Value} {C : World → Prop} {o : Oper} {v v' : Value} (h : Val P f C o v) (e : v = v') : Val P f C o v' := e ▸ h
def minI (a b : Int) : Int := if b < a then b else a
theorem v_min {P : Program} {f : Nat → Value} {C : World → Prop} {dst : Option Nat} {ty : TypeId} {pos : String} {af : Array Edge} {gd : Option (Nat × Bool)} {x y : Operand} {ats : Array TypeId} {a b : Int} (hx : ev f x = I a) (hy : ev f y = I b) : Val P f C ⟨dst, .call ⟨.builtin .min, #[x, y], ats⟩, ty, pos, af, gd⟩ (I (minI a b)) :=
 ⟨fun w _ => by simp [execOp, resolve, invoke, builtin, hx, hy, Builtin.min_, Builtin.min2, minI]⟩
theorem min_max {n l : Int} (h0 : 0 ≤ n) (h1 : n ≤ l) : I (minI (maxI n 0) l) = I n := by
 unfold minI maxI
 congr 1
 split <;> split <;> omega
theorem ListE.shape3 {e m n : Nat} {v : Value} {xs : List Value} {E : List (Nat × Obj)} (h : ListE e m v n xs E) : ∃ a k c, v = .slice a k c := by
 obtain ⟨a, c, h⟩ := h.shape
 exact ⟨a, n, c, h⟩
theorem bytes_ok {n k l : Nat} (h1 : n ≤ 25) (h2 : k ≤ l) (h3 : l ≤ 25) : (n + k) * 8 ≤ 140737488355328 := by omega
theorem rep_size {c n : Int} {v : Value} : (repC c n v).size = 3 := rfl
theorem rep_all {c n : Int} {a : Option Addr} {l k : Nat} : (repC c n (.slice a l k)).all (·.oneCell') = true := by simp [repC, Value.oneCell']
theorem rep_setN {c n m : Int} {v : Value} : 0 + 1 < (repC c n v).size ∧ (repC c n v).setIfInBounds (0 + 1) (I m) = repC c m v := ⟨by simp [repC], rfl⟩
theorem rep_setD {c n : Int} {v u : Value} : 0 + 2 < (repC c n v).size ∧ (repC c n v).setIfInBounds (0 + 2) u = repC c n u := ⟨by simp [repC], rfl⟩
theorem own_known {w0 w : World} {F : Addr → Value → Prop} {E L : List (Nat × Obj)} (h : Has w0 F L w) (hs : ∀ p ∈ E, p ∈ L) : Knows (Fresh w0 w) E := fun b cs t fr hm j v hv =>
 ⟨by rw [cell_of_row w b j cs t fr (h.2.2.1 _ (hs _ hm)).2]; exact hv, (h.2.2.1 _ (hs _ hm)).1⟩
theorem at_known {w0 w : World} {F : Addr → Value → Prop} {E L : List (Nat × Obj)} (h : Has w0 F L w) (hs : ∀ p ∈ E, p ∈ L) : Knows (At w) E := fun b cs t fr hm j v hv => (own_known h hs b cs t fr hm j v hv).1
theorem waits_out {ps : List PayS} {n l : Int} (hl : (ps.length : Int) = l) (h : withinB n 0 (l - 1) = false) : false = waitsB ps n := by
 unfold waitsB
 rw [settles_out (fun hh => by have := within_iff.2 (show 0 ≤ n ∧ n ≤ l - 1 by omega); rw [h] at this; cases this)]
 rfl
theorem waits_in {ps : List PayS} {n : Int} {p : PayS} (h0 : 0 ≤ n) (hp : ps[n.toNat]? = some p) : decide (p.sta = 1) = waitsB ps n := by
 unfold waitsB
 by_cases h : p.sta = 1
 · rw [settles_of h0 hp h]; simp [h]
 · rw [settles_not hp h]; simp [h]
theorem flatC_snoc (ps : List PayS) (q : PayS) : flatC ps ++ q.cells.toList = flatC (ps ++ [q]) := by simp [flatC]
theorem nextF_sweep {h : H} {ps : List PayS} {q : NR} {hx hy : H} {psx : List PayS} {n : Int} {d : List Int} {F : Addr → Value → Prop} {a : Option Addr} {c k e : Nat} {E : List (Nat × Obj)} (hq : q = sweepN hx.core psx n d) (hco : hy.core = (sweepM hx.core psx).c) (hlc : hy.pl ≤ hy.pc) (hown : PaysIn F hx.pa hx.pl psx)
   (hpy : (hy.pa = hx.pa ∧ hy.pl = hx.pl ∧ (sweepM hx.core psx).ps = psx) ∨ PaysIn F hy.pa hy.pl (sweepM hx.core psx).ps) (hi : ListE e 1 (.slice a k c) (d.length + (sweepM hx.core psx).xs.length) (d.map I ++ (sweepM hx.core psx).xs.map I) E) (hk : Knows F E) : NextF h ps q F (.tuple #[.agg hy.cells, .agg (repC 0 n (.slice a k c))]) := by
 subst hq
 refine ⟨_, _, rfl, ⟨hy, rfl, hco, hlc, .inr ?_⟩, ?_⟩
 · rcases hpy with ⟨e1, e2, e3⟩ | hpy
   · show PaysIn F hy.pa hy.pl (sweepM hx.core psx).ps
     rw [e1, e2, e3]; exact hown
   · exact hpy
 · have hi' : ListE e 1 (.slice a k c) (d ++ (sweepM hx.core psx).xs).length ((d ++ (sweepM hx.core psx).xs).map I) E := by simpa using hi
   obtain ⟨a', c', h1, h2⟩ := (ints_of_list hi' hk).at
   exact ⟨a', c', by rw [h1]; rfl, h2⟩
theorem nextF_own {h : H} {ps : List PayS} {q : NR} {hx : H} {psx : List PayS} {n : Int} {F : Addr → Value → Prop} (hq : q = ⟨hx.core, psx, 0, n, []⟩) (hlc : hx.pl ≤ hx.pc) (hown : PaysIn F hx.pa hx.pl psx) : NextF h ps q F (.tuple #[.agg hx.cells, .agg (repC 0 n (.slice none 0 0))]) := by
 subst hq
 exact ⟨_, _, rfl, ⟨hx, rfl, rfl, hlc, .inr hown⟩, none, 0, rfl, .inl rfl⟩
def goneTo (ps : List PayS) (k : Nat) : List PayS := (ps.take k).map goneP ++ ps.drop k
theorem goneTo_len (ps : List PayS) (k : Nat) : (goneTo ps k).length = ps.length := by unfold goneTo; simp; omega
theorem goneTo_zero (ps : List PayS) : goneTo ps 0 = ps := by simp [goneTo]
theorem goneTo_all (ps : List PayS) : goneTo ps ps.length = ps.map goneP := by simp [goneTo]
theorem goneTo_at {ps : List PayS} {k : Nat} {p : PayS} (h : ps[k]? = some p) : (goneTo ps k)[k]? = some p := by
 have hk := (List.getElem?_eq_some_iff.1 h).1
 unfold goneTo
 rw [List.getElem?_append_right (by simp; omega)]
 simp [show k - min k ps.length = 0 by omega, h]
theorem goneTo_step {ps : List PayS} {k : Nat} {p : PayS} (h : ps[k]? = some p) : goneTo ps (k + 1) = (goneTo ps k).set k (goneP p) := by
 have hk := (List.getElem?_eq_some_iff.1 h).1
 unfold goneTo
 have e : ps[k] = p := (List.getElem?_eq_some_iff.1 h).2
 rw [List.take_add_one, h, List.set_append_right _ _ (by simp; omega)]
 simp [show k - min k ps.length = 0 by omega]
 rw [List.drop_eq_getElem_cons hk]
 rfl
theorem goneTo_no {ps : List PayS} {k : Nat} {p : PayS} (h : ps[k]? = some p) (hs : decide (p.sta = 1) = false) : goneTo ps (k + 1) = goneTo ps k := by
 rw [goneTo_step h]
 have : goneP p = p := by simp [goneP, hs]
 rw [this]
 apply List.ext_getElem?
 intro j
 rw [List.getElem?_set]
 split
 · rename_i e; subst e
   rw [goneTo_at h]
   have := (List.getElem?_eq_some_iff.1 (goneTo_at h)).1
   simp [this]
 · rfl
theorem cnt_take {ps : List PayS} {k : Nat} {p : PayS} (h : ps[k]? = some p) : cnt (ps.take (k + 1)) = cnt (ps.take k) + if decide (p.sta = 1) then 1 else 0 := by
 rw [List.take_add_one, h]
 unfold cnt
 simp [List.countP_append, List.countP_cons]
theorem CellsOf.sta {cs : Array Value} {ps : List PayS} (h : CellsOf cs ps) {n : Nat} {p : PayS} (hn : ps[n]? = some p) (v : Int) : CellsOf (cs.setIfInBounds (0 + n * 6 + 4) (I v)) (ps.set n { p with sta := v }) :=
 h.put hn (fun j hj => by
   match j with
   | 0 | 1 | 2 | 3 | 5 => rfl
   | 4 => exact absurd rfl hj
   | j + 6 => simp [PayS.cells]) rfl
theorem CellsOf.clsseq {cs : Array Value} {ps : List PayS} (h : CellsOf cs ps) {n : Nat} {p : PayS} (hn : ps[n]? = some p) (c q : Int) : CellsOf ((cs.setIfInBounds (0 + n * 6 + 3) (I c)).setIfInBounds (0 + n * 6 + 5) (I q)) (ps.set n { p with cls := c, seq := q }) := by
 have h1 : CellsOf (cs.setIfInBounds (0 + n * 6 + 3) (I c)) (ps.set n { p with cls := c }) := h.put hn (fun j hj => by
   match j with
   | 0 | 1 | 2 | 4 | 5 => rfl
   | 3 => exact absurd rfl hj
   | j + 6 => simp [PayS.cells]) rfl
 have hlt := (List.getElem?_eq_some_iff.1 hn).1
 have h2 := h1.put (n := n) (p := { p with cls := c }) (p' := { p with cls := c, seq := q }) (q := 5) (v := I q) (by simp [hlt]) (fun j hj => by
   match j with
   | 0 | 1 | 2 | 3 | 4 => rfl
   | 5 => exact absurd rfl hj
   | j + 6 => simp [PayS.cells]) rfl
 rw [List.set_set] at h2
 exact h2
theorem at_pays {w0 w : World} {F : Addr → Value → Prop} {L : List (Nat × Obj)} {b t pl : Nat} {fr : Nat × Nat} {cs : Array Value} {ps : List PayS} (hw : Has w0 F L w) (hl : Look L b (.cells cs t fr)) (hp : ps.length = pl) (hc : CellsOf cs ps) : PaysIn (At w) (some ⟨b, 0, none⟩) pl ps :=
 (own_pays hw hl hp hc).mono fun a v h => h.1
theorem sweepF_open {h0 : H} {ps0 : List PayS} {F : Addr → Value → Prop} {v : Value} (h : SweepF h0 ps0 (sweepM h0.core ps0) F v) : ∃ (hy : H) (a : Option Addr) (c : Nat), v = .tuple #[.agg hy.cells, .slice a (sweepM h0.core ps0).xs.length c] ∧ hy.core = (sweepM h0.core ps0).c ∧ hy.pl ≤ hy.pc ∧
   ((hy.pa = h0.pa ∧ hy.pl = h0.pl ∧ (sweepM h0.core ps0).ps = ps0) ∨ PaysIn F hy.pa hy.pl (sweepM h0.core ps0).ps) ∧ IntsAt F a (sweepM h0.core ps0).xs ∧ (sweepM h0.core ps0).xs.length ≤ ps0.length := by
 obtain ⟨v1, v2, h1, ⟨hy, h2, h3, h4, h5⟩, h6⟩ := h
 obtain ⟨a, c, h7, h8⟩ := h6.at
 subst h2 h7
 exact ⟨hy, a, c, h1, h3, h4, h5, h8, (sweepM_len _ _).2⟩
theorem cnt_le (ps : List PayS) (k : Nat) : cnt (ps.take k) ≤ k := Nat.le_trans List.countP_le_length (List.length_take_le _ _)
theorem goneP_yes {p : PayS} (h : decide (p.sta = 1) = true) : goneP p = { p with sta := 3 } := by simp [goneP, h]
end Go.Proofs.YtmkboljfbmlebacGreat
namespace Go.Proofs.YtmkboljfbmlebacGreat
open Go.RowKit
set_option linter.unusedSimpArgs false
set_option linter.unusedVariables false
set_option maxRecDepth 100000
attribute [local irreducible] cC sC nC rC qw
theorem gr_CopyHouseL (h : H) (ps : List PayS) (w : World) (hp : PaysIn (At w) h.pa h.pl ps) (h24 : h.pl ≤ 24) : GivesE Tryz.prog 34 [.agg h.cells] w (fun v E => ∃ pa pc, v = .agg ({ h with pa := pa, pc := pc } : H).cells ∧ ListE 67 6 (.slice pa h.pl pc) h.pl (flatC ps) E) := by
 refine givesE_of Tryz.func34 rfl Tryz.ntmps34 (by simp) (r_seq (by kernel_rfl) (s_box (v := .agg _) rfl (fun b1 => ?_)))
 refine s_alloc (z := .agg zeroH.cells) (by kernel_rfl) (fun b2 => ?_)
 refine s_nil (r_seq (by kernel_rfl) (s_val (v_fd 40 (by kernel_rfl) rfl) (s_val (v_load1 (v := .slice _ _ _) (by kernel_rfl) rfl (.there .here) (H.at_pays _)) (s_copyPays (e := 67) (by_ := 48) (by kernel_rfl) rfl rfl rfl rfl hp (by omega) (fun v5 E5 hE5 => ?_)))))
 obtain ⟨a5, c5, rfl⟩ := hE5.shape
 refine s_val (v_fd 40 (by kernel_rfl) rfl) (s_store1 (v := _) (by kernel_rfl) rfl rfl (.app (.there .here)) (H.set_pays _) rfl (s_nil (r_seq (by kernel_rfl) (s_val (v_loadA (m := 42) (by kernel_rfl) rfl (.app (.there .here)) (H.size _)) (s_storeA (m := 42) (by kernel_rfl) rfl rfl (.app .here) (H.size _) (H.size _) (H.all1 _) (s_nil (c_ret (n_doneCE (E := E5) (m := 42) rfl (by decide) rfl (by kernel_rfl) (.app .here) (H.size _) (fun w hw => hw) ⟨_, _, rfl, hE5⟩))))))))
set_option maxHeartbeats 1000000 in
theorem gr_UntieHouseX (h : H) (ps : List PayS) (w : World) (hp : PaysIn (At w) h.pa h.pl ps) (hb : h.pl * 48 ≤ 281474976710656) (hlc : h.pl ≤ h.pc) : GivesX Tryz.prog 36 [.agg h.cells] w (SweepX h ps (untieM h.core ps) 3) := by
 refine givesX_of Tryz.func36 rfl Tryz.ntmps36 (by simp) (r_seq (by kernel_rfl) (s_box (v := .agg _) rfl (fun b1 => ?_)))
 refine s_alloc (z := .agg zeroH.cells) (by kernel_rfl) (fun b2 => ?_)
 refine s_val (v_assign (v := .slice _ _ _) rfl) (s_nil (r_seq (by kernel_rfl) (s_val (v_loadA (m := 42) (by kernel_rfl) rfl (.there .here) (H.size _)) (s_call (by kernel_rfl) (fun w hw => gr_MostOf h ps w (hp.at hw) hb hlc) (s_alloc (z := .agg (rowA fun _ => 0)) (by kernel_rfl) (fun b4 => ?_))))))
 refine s_storeA (m := 4) (by kernel_rfl) rfl rfl .here (rowA_size _) (rowA_size _) (rowA_all _) (s_nil (r_seq (by kernel_rfl) (s_val (v_assign (v := .slice _ _ _) rfl) (s_nil (r_seq (by kernel_rfl) (s_val (v_loadA (m := 42) (by kernel_rfl) rfl (.there (.there .here)) (H.size _)) (s_alloc (z := .agg zeroH.cells) (by kernel_rfl) (fun b6 => ?_))))))))
 refine s_storeA (m := 42) (by kernel_rfl) rfl rfl .here (H.size _) (H.size _) (H.all1 _) (s_nil (c_seq (r_seq (by kernel_rfl) (s_val (v_mvI rfl) (s_nil (c_block (c_loop (σ := SwG) (fun (t : SwG) f => ∃ g, (UnOk w h ps 3 (upTo ps (mostM h.core ps) t.bank) t ∧ t.bank ≤ 4) ∧ f = (upd (upd (upd (upd (upd (upd g 1 (.pointer (some ⟨b1, 0, none⟩))) 2 (.pointer (some ⟨b2, 0, none⟩))) 4 (.pointer (some ⟨b4, 0, none⟩))) 5 (t.v)) 6 (.pointer (some ⟨b6, 0, none⟩))) 13 (I t.bank))) (fun (t : SwG) => Has w t.F (t.E ++ [(b6, .cells t.h.cells 43), (b4, .cells (rowA (mostM h.core ps)) 39), (b2, .cells zeroH.cells 43), (b1, .cells h.cells 43)])) (fun (t : SwG) => 4 - t.bank) ⟨At w, h, ps, [], .slice none 0 0, [], 0, 0⟩ ⟨_, ⟨⟨swOk_start hp hlc, rfl, rfl, rfl, fun _ _ h => h⟩, Nat.zero_le _⟩, live6 rfl rfl rfl rfl rfl rfl⟩ (fun w hw => hw) ?_)))))))
 rintro t _ ⟨g, ⟨ho0, hbl⟩, rfl⟩
 refine r_seq (by kernel_rfl) (s_val (v_lsI rfl rfl) (s_nil (c_seq (c_condR rfl rfl (fun h14 => ?_) (fun h14 => ?_)))))
 · have hb4 : t.bank = 4 := by have := of_decide_eq_false h14; omega
   refine c_exit (n_exit (n_exit (n_bhere (n_then (r_seq (by kernel_rfl) (s_val (v_loadA (m := 42) (by kernel_rfl) rfl (.app .here) (H.size _)) (s_val (v_move (v := _) rfl) (s_storeA (m := 42) (by kernel_rfl) rfl rfl (.app (.there (.there .here))) (H.size _) (H.size _) (H.all1 _) (s_val (v_assign (v := _) rfl) (s_nil (c_ret (n_done2X (E := t.E) (m := 42) rfl (by decide) (by decide) rfl (by kernel_rfl) (.app (.there (.there .here))) (H.size _) (fun w hw => hw) (fun w hw => ?_)))))))))))))
   have e : t.q = untieM h.core ps := by
     have e1 := ho0.eq
     have e2 := ho0.c
     have e3 := ho0.p
     rw [hb4, upTo_all] at e1 e2 e3
     unfold SwG.q untieM untieXs
     rw [e1, e2, e3]
     rfl
   rw [← e]
   exact ho0.sw.doneX hw
 have hb4 : t.bank < 4 := by have := of_decide_eq_true h14; omega
 have hbi : 0 ≤ (t.bank : Int) ∧ (t.bank : Int) < 4 := ⟨by omega, by omega⟩
 refine c_skip (n_then (c_seq (c_block (r_seq (by kernel_rfl) (s_val (v_mvI rfl) (s_val (v_asI rfl) (s_nil (r_seq (by kernel_rfl) (s_val (v_loadA (m := 42) (by kernel_rfl) rfl (.app (.there (.there (.there .here)))) (H.size _)) (s_val (v_mvI rfl) (s_callF (by kernel_rfl) (fun w hw => gr_QueueOf h ps t.bank w ((hp.mono ho0.more).at hw) hb hlc) (fun F18 v18 E18 hF18 hK18 hR18 => ?_))))))))))))
 obtain ⟨a18, c18, rfl, ia18⟩ := (ints_of_list hR18 hK18).at
 refine s_val (v_lenS (T := 29) (m := 1) (by kernel_rfl) rfl rfl) (s_val (v_mvI rfl) (s_nil (c_block (c_loop (σ := SwG) (fun (u : SwG) f => ∃ g, (u.idle ≤ (queueM ps t.bank).length ∧ More F18 u.F ∧ UnOk w h ps 3 (unXs ps (mostM h.core ps) t.bank u.idle) u) ∧ f = (upd (upd (upd (upd (upd (upd (upd (upd (upd (upd g 1 (.pointer (some ⟨b1, 0, none⟩))) 2 (.pointer (some ⟨b2, 0, none⟩))) 4 (.pointer (some ⟨b4, 0, none⟩))) 5 (u.v)) 6 (.pointer (some ⟨b6, 0, none⟩))) 7 (I t.bank)) 13 (I t.bank)) 18 (.slice a18 (queueM ps t.bank).length c18)) 19 (I (queueM ps t.bank).length)) 20 (I u.idle))) (fun (u : SwG) => Has w u.F (u.E ++ [(b6, .cells u.h.cells 43), (b4, .cells (rowA (mostM h.core ps)) 39), (b2, .cells zeroH.cells 43), (b1, .cells h.cells 43)])) (fun (u : SwG) => (queueM ps t.bank).length - u.idle) ⟨F18, t.h, t.ps, t.xs, t.v, t.E, t.bank, 0⟩ ⟨_, ⟨Nat.zero_le _, fun _ _ h => h, by rw [un_none]; exact ho0.learn hF18 _ _⟩, live10 rfl rfl rfl rfl rfl rfl rfl rfl rfl rfl⟩ (fun w hw => hw) ?_))))
 rintro u _ ⟨g, ⟨hul, hmu, ho⟩, rfl⟩
 refine r_seq (by kernel_rfl) (s_val (v_lsI rfl rfl) (s_nil (c_seq (c_condR rfl rfl (fun h21 => ?_) (fun h21 => ?_)))))
 · have hj0 := of_decide_eq_false h21
   refine c_exit (n_exit (n_exit (n_bhere (n_bnormal (n_then (r_list (by kernel_rfl) (s_val (v_add rfl rfl (by omega)) (s_val (v_mvI rfl) (s_end (n_round (s := t) ⟨u.F, u.h, u.ps, u.xs, u.v, u.E, t.bank + 1, 0⟩ ⟨_, ⟨by dsimp only; rw [← un_end (j := u.idle) (by omega)]; exact ho.learn (fun _ _ h => h) _ _, by dsimp only; omega⟩, live6 rfl rfl rfl rfl rfl rfl⟩ (fun _ hw => hw) (by dsimp only; omega)))))))))))
 have hj0 := of_decide_eq_true h21
 obtain ⟨bq, oq, i, ha18, hi, hfi⟩ := ia18.get (j := u.idle) (by omega)
 obtain ⟨p, hst0, hst1⟩ := un_settles (m := mostM h.core ps) hi
 have hst : settles u.ps i = some p := by rw [ho.p]; exact hst0
 have hcs := cnt_settle hst
 have hsum := ho.sw.sum
 have hlen := ho.sw.len
 have hql := queueM_len ps t.bank
 have hpl := hp.1
 refine c_skip (n_then (c_seq (c_block (r_seq (by kernel_rfl) (s_val (v_mvI rfl) (s_val (v_idxS (size := 1) (k := .i64) (by kernel_rfl) (congrArg (fun a => Value.slice a (queueM ps t.bank).length c18) ha18) rfl ⟨by omega, by omega⟩) (s_val (v_load1o (v := I i) (by kernel_rfl) rfl (by simpa using hmu _ _ hfi)) (s_val (v_asI rfl) (s_val (v_asI rfl) (s_nil (r_seq (by kernel_rfl) (s_val (v_mvI rfl) (s_val (v_mvI rfl) (s_val (v_ixA 1 (by kernel_rfl) rfl rfl hbi) (s_val (v_ldI (by kernel_rfl) rfl (.app (.there .here)) (rowA_at0 _ hbi)) (s_val (v_lsI rfl rfl) (s_nil (c_condR rfl rfl (fun h29 => ?_) (fun h29 => ?_)))))))))))))))))))
 · refine c_skip (n_bnormal (n_then (r_list (by kernel_rfl) (s_val (v_add rfl rfl (by omega)) (s_val (v_mvI rfl) (s_end (n_round (s := u) ⟨u.F, u.h, u.ps, u.xs, u.v, u.E, t.bank, u.idle + 1⟩ ⟨_, ⟨by dsimp only; omega, hmu, by dsimp only; rw [un_no (of_decide_eq_false h29)]; exact ho.learn (fun _ _ h => h) _ _⟩, live10 rfl rfl rfl rfl rfl rfl rfl rfl rfl rfl⟩ (fun _ hw => hw) (by dsimp only; omega))))))))
 refine r_seq (by kernel_rfl) (s_val (v_loadA (m := 42) (by kernel_rfl) rfl (.app .here) (H.size _)) (s_val (v_mvI rfl) (s_callG (by kernel_rfl) (houseF_mono _ _ _ _) (fun w hw => gr_SettlePay u.h u.ps i w (ho.sw.pays.at hw) (by omega) ho.sw.lc) (fun F32 v32 hF32 hR32 => ?_))))
 obtain ⟨h32, rfl, hco32, hlc32, hpo32⟩ := hR32
 refine s_storeA (m := 42) (by kernel_rfl) rfl rfl (.app .here) (H.size _) (H.size _) (H.all1 _) (s_nil (r_list (by kernel_rfl) (s_val (v_move (v := _) rfl) (s_val (v_mvI rfl) (s_build1 (v := .int .i64 _) (e := 3) (m := 1) (by_ := 8) (by kernel_rfl) rfl rfl rfl (fill_scalar rfl) (fun b35 => ?_))))))
 refine s_push (e := 3) (m := 1) (by_ := 8) (by kernel_rfl) rfl rfl rfl rfl rfl ho.sw.list rfl (all_scalar rfl rfl) (by omega) (fun v36 E36 hE36 => ?_)
 refine s_val (v_assign (v := _) rfl) (s_end (n_bnormal (n_then (r_list (by kernel_rfl) (s_val (v_add rfl rfl (by omega)) (s_val (v_mvI rfl) (s_end (n_round (s := u) ⟨F32, h32, settleP u.ps i, u.xs ++ [i], v36, E36, t.bank, u.idle + 1⟩ ⟨_, ⟨by dsimp only; omega, fun a v h => hF32 a v (hmu a v h), by dsimp only; rw [un_yes hi (of_decide_eq_true h29)]; exact ho.go hF32 hst hco32 hlc32 hpo32 hE36 _ _⟩, live10 rfl rfl rfl rfl rfl rfl rfl rfl rfl rfl⟩ (fun _ hw => hw) (by dsimp only; omega)))))))))
theorem gr_no (h : H) (b : Nat) (e : Int) (w : World) (hc : ∀ (j : Nat) (v : Value), h.cells[j]? = some v → At w ⟨b, 0 + j, none⟩ v) : Gives Tryz.prog 32 [I e, .pointer (some ⟨b, 0, none⟩)] w (.tuple #[.agg h.cells, .agg (repC e 0 (.slice none 0 0))]) := by
 refine gives_of Tryz.func32 rfl Tryz.ntmps32 (by simp) (r_seq (by kernel_rfl) (s_alloc (z := .agg zeroH.cells) (by kernel_rfl) (fun b3 => ?_)))
 refine s_alloc (z := .agg (repC 0 0 (.slice none 0 0))) (by kernel_rfl) (fun b4 => ?_)
 refine s_nil (r_seq (by kernel_rfl) (s_val (v_loadNo (cs := h.cells) (m := 42) (by kernel_rfl) rfl (H.size _) hc) (s_val (v_mvI rfl) (s_val (v_build (vs := [(0, .int .i64 _)]) (cs := repC e 0 (.slice none 0 0)) rfl (by kernel_rfl)) (s_storeA (m := 42) (by kernel_rfl) rfl rfl (.there .here) (H.size _) (H.size _) (H.all1 _) (s_storeA (m := 3) (by kernel_rfl) rfl rfl .here rfl rfl rep_all (s_nil (c_ret (n_done2C (m := 42) (m' := 3) rfl (by decide) (by decide) rfl rfl (by kernel_rfl) (by kernel_rfl) (.there .here) .here (H.size _) rfl rfl)))))))))
end Go.Proofs.YtmkboljfbmlebacGreat
