/- The program's own sweep: what holds at each turn of one bank, and of one pass. No condition. -/
import Derived.Test.YtbgnmapmiobjcaaK21
import Derived.Test.YtbgnmapmiobjcaaK11
import Derived.Test.YtbgnmapmiobjcaaM11
namespace Go.Proofs.Ytbgnmapmiobjcaa
open Go.RowKit
set_option linter.unusedSimpArgs false
set_option linter.unusedVariables false

theorem c_weak {P : Program} {n : Nat} {y : Code} {Q : Exit → (Nat → Value) → World → Prop} {f : Nat → Value} {C C' : World → Prop} (hc : ∀ w, C w → C' w) (h : cC P n y Q f C') : cC P n y Q f C := fun w hw => h w (hc w hw)
theorem IntsAt.take {F : Addr → Value → Prop} {a : Option Addr} {xs : List Int} (h : IntsAt F a xs) (k : Nat) : IntsAt F a (xs.take k) := by
  rcases h with rfl | ⟨b, o, h1, h2⟩
  · exact .inl (by simp)
  · refine .inr ⟨b, o, h1, fun j x hj => h2 j x ?_⟩
    rw [List.getElem?_take] at hj
    split at hj
    · exact hj
    · cases hj
/-- a list of numbers, its room no less than its length -/
def IntsRoom (xs : List Int) : (Addr → Value → Prop) → Value → Prop := fun F v => ∃ a c, v = .slice a xs.length c ∧ xs.length ≤ c ∧ IntsAt F a xs
theorem room_mono (xs : List Int) : Mono (IntsRoom xs) := by
  rintro F F' v hm ⟨a, c, h1, h2, h3⟩
  exact ⟨a, c, h1, h2, h3.mono hm⟩
theorem room_of_list {F : Addr → Value → Prop} {e : Nat} {v : Value} {xs : List Int} {E : List (Nat × Obj)} (h : ListE e 1 v xs.length (xs.map I) E) (hk : Knows F E) : IntsRoom xs F v := by
  obtain ⟨a, c, hv, hi⟩ := (ints_of_list h hk).at
  refine ⟨a, c, hv, ?_, hi⟩
  rcases h.2 with ⟨rfl, h2, rfl⟩ | ⟨g, cap, cur, rfl, rfl, h3, h4, h5, h6⟩
  · omega
  · simp at hv; omega
structure SbG where
  F : Addr → Value → Prop
  h : H
  ps : List PayS
  k : Nat
structure SbOk (w : World) (F0 : Addr → Value → Prop) (h0 : H) (ps0 : List PayS) (bank : Int) (nr : Int) (t : SbG) : Prop where
  more : More F0 t.F
  pays : PaysIn t.F t.h.pa t.h.pl t.ps
  out : (t.h.pa = h0.pa ∧ t.h.pl = h0.pl ∧ t.ps = ps0) ∨ PaysIn (Young w t.F) t.h.pa t.h.pl t.ps
  len : t.h.pl = h0.pl
  lc : t.h.pl ≤ t.h.pc
  seqs : SeqsApart t.ps
  good : GoodPs t.ps
  near : NearG (nr + t.k) t.h.core
  kl : t.k ≤ (queueM ps0 bank).length
  queue : queueM t.ps bank = (queueM ps0 bank).drop t.k
  goes : drain bank ⟨t.h.core, t.ps, (queueM ps0 bank).take t.k⟩ = drain bank ⟨h0.core, ps0, []⟩
section
variable {w : World} {F0 : Addr → Value → Prop} {h0 : H} {ps0 : List PayS} {bank nr : Int} {t : SbG}
theorem sb_start {h : H} {ps : List PayS} (hp : PaysIn (At w) h.pa h.pl ps) (hF : More (At w) F0) (hlc : h.pl ≤ h.pc) (hsa : SeqsApart ps) (hg : GoodPs ps) (hn : NearG nr h.core) : SbOk w F0 h ps bank nr ⟨F0, h, ps, 0⟩ :=
  ⟨fun _ _ h => h, hp.mono hF, .inl ⟨rfl, rfl, rfl⟩, rfl, hlc, hsa, hg, by simpa using hn, Nat.zero_le _, by simp, by simp⟩
theorem SbOk.step (o : SbOk w F0 h0 ps0 bank nr t) {n : Int} (hn : (queueM ps0 bank)[t.k]? = some n) :
    ∃ p, settles t.ps n = some p ∧ t.ps[n.toNat]? = some p ∧ p.src = bank ∧ queueM t.ps bank = n :: (queueM ps0 bank).drop (t.k + 1) ∧ 0 ≤ n ∧ n.toNat < t.h.pl ∧ n < t.h.pl := by
  have hk : t.k < (queueM ps0 bank).length := (List.getElem?_eq_some_iff.1 hn).1
  have hd : (queueM ps0 bank).drop t.k = n :: (queueM ps0 bank).drop (t.k + 1) := by rw [List.drop_eq_getElem_cons hk]; congr 1; exact (List.getElem?_eq_some_iff.1 hn).2
  have hq := o.queue
  rw [hd] at hq
  obtain ⟨p, h1, h2, _, h3⟩ := (queueM_mine (show n ∈ queueM t.ps bank by rw [hq]; simp)).settles
  have hlt := (List.getElem?_eq_some_iff.1 h2).1
  have := o.pays.1
  have h4 := (settles_spec h1).1
  exact ⟨p, h1, h2, h3, hq, h4, by omega, by omega⟩
theorem SbOk.may (o : SbOk w F0 h0 ps0 bank nr t) (hnr : nr + (queueM ps0 bank).length ≤ 1000000) (a b n : Int) : mayM t.h a b n = maySendM t.h.core a b n := by
  have hk := o.kl
  exact (may_near o.near.ofCore (by omega) a b n).trans rfl
theorem SbOk.stop (o : SbOk w F0 h0 ps0 bank nr t) (hf : firstM t.h.core t.ps bank = none) : drain bank ⟨h0.core, ps0, []⟩ = ⟨t.h.core, t.ps, (queueM ps0 bank).take t.k⟩ := by
  rw [← o.goes]; exact drain_end hf
theorem SbOk.fin (o : SbOk w F0 h0 ps0 bank nr t) (hk : ¬ (t.k : Int) < (queueM ps0 bank).length) : firstM t.h.core t.ps bank = none := by
  refine firstM_nil ?_
  rw [o.queue]; exact List.drop_eq_nil_of_le (by omega)
theorem SbOk.next (o : SbOk w F0 h0 ps0 bank nr t) (h0n : 0 ≤ nr) (hnr : nr + (queueM ps0 bank).length ≤ 1000000) {n : Int} {p : PayS} (hn : (queueM ps0 bank)[t.k]? = some n) (hs : settles t.ps n = some p) (hq : queueM t.ps bank = n :: (queueM ps0 bank).drop (t.k + 1)) (hm : maySendM t.h.core bank p.dst p.amt = true)
    {F' : Addr → Value → Prop} (hF : More t.F F') {h' : H} (hco : h'.core = settleC t.h.core t.ps n) (hlc : h'.pl ≤ h'.pc) (ho : (h'.pa = t.h.pa ∧ h'.pl = t.h.pl ∧ settleP t.ps n = t.ps) ∨ PaysIn (Young w F') h'.pa h'.pl (settleP t.ps n)) : SbOk w F0 h0 ps0 bank nr ⟨F', h', settleP t.ps n, t.k + 1⟩ := by
  have hk : t.k < (queueM ps0 bank).length := (List.getElem?_eq_some_iff.1 hn).1
  have hlen : h'.pl = t.h.pl := by
    rcases ho with ho | ho
    · exact ho.2.1
    · rw [← ho.1, settleP_len, o.pays.1]
  refine ⟨fun a v h => hF a v (o.more a v h), ?_, ?_, by simp only; rw [hlen, o.len], hlc, o.seqs.settle n, settleP_good o.good n, ?_, hk, queue_tail o.seqs hq, ?_⟩
  · rcases ho with ⟨h1, h2, h3⟩ | ho
    · simp only; rw [h1, h2, h3]; exact o.pays.mono hF
    · exact ho.mono (more_young w F')
  · rcases ho with ⟨h1, h2, h3⟩ | ho
    · simp only; rw [h1, h2, h3]
      exact o.out.imp id fun h => h.mono (young_mono hF)
    · exact .inr ho
  · simp only
    rw [hco]
    have := o.near.settle (by omega) (by omega) o.good n
    have e : nr + ((t.k + 1 : Nat) : Int) = nr + (t.k : Int) + 1 := by omega
    rw [e]; exact this
  · simp only
    rw [← o.goes, hco]
    have hf : firstM t.h.core t.ps bank = some n := firstM_yes hq (settles_spec hs).2.1 hm
    have e : (queueM ps0 bank).take (t.k + 1) = (queueM ps0 bank).take t.k ++ [n] := by rw [List.take_add_one, hn]; rfl
    rw [drain_go (s := ⟨t.h.core, t.ps, (queueM ps0 bank).take t.k⟩) hf, e]
    rfl
theorem SbOk.done (o : SbOk w F0 h0 ps0 bank nr t) (hf : firstM t.h.core t.ps bank = none) {w' : World} {L : List (Nat × Obj)} (hw : Has w t.F L w') {a : Option Addr} {c n : Nat} (hi : IntsAt (Young w F0) a (queueM ps0 bank)) (hn : n = t.k) : SweepF h0 ps0 (drain bank ⟨h0.core, ps0, []⟩) (Fresh w w') (.tuple #[.agg t.h.cells, .slice a n c]) := by
  rw [o.stop hf]
  have hl : ((queueM ps0 bank).take t.k).length = t.k := by rw [List.length_take]; have := o.kl; omega
  refine ⟨_, _, rfl, ⟨t.h, rfl, rfl, o.lc, o.out.imp id fun h => h.mono (young_fresh hw)⟩, a, c, ?_, (hi.take t.k).mono fun b v h => young_fresh hw b v (young_mono o.more b v h)⟩
  rw [hn, hl]
end
theorem SwOk.many {w : World} {h0 : H} {ps0 : List PayS} {e : Nat} {t : SwG} (k : SwOk w h0 ps0 e t) {F' : Addr → Value → Prop} (hF : More t.F F') {s : QS} (hlen : s.ps.length = t.ps.length) (hsum : s.xs.length + cnt s.ps = cnt t.ps) {h' : H} (hlc : h'.pl ≤ h'.pc)
    (ho : (h'.pa = t.h.pa ∧ h'.pl = t.h.pl ∧ s.ps = t.ps) ∨ PaysIn (Young w F') h'.pa h'.pl s.ps) {v' : Value} {E' : List (Nat × Obj)} (hl : ListE e 1 v' (t.xs.length + s.xs.length) (t.xs.map I ++ s.xs.map I) E') (b d : Nat) :
    SwOk w h0 ps0 e ⟨F', h', s.ps, t.xs ++ s.xs, v', E', b, d⟩ := by
  have hl' : h'.pl = t.h.pl := by
    rcases ho with ho | ho
    · exact ho.2.1
    · rw [← ho.1, hlen, k.pays.1]
  refine ⟨?_, ?_, by simp only; rw [hl', k.len], hlc, by simpa using hl, ?_⟩
  · rcases ho with ⟨h1, h2, h3⟩ | ho
    · simp only; rw [h1, h2, h3]; exact k.pays.mono hF
    · exact ho.mono (more_young w F')
  · rcases ho with ⟨h1, h2, h3⟩ | ho
    · simp only; rw [h1, h2, h3]
      exact k.out.imp id fun h => h.mono (young_mono hF)
    · exact .inr ho
  · have := k.sum
    simp only [List.length_append]; omega
/-- a pass: which bank is next, how many in a row could do nothing -/
structure SpOk (w : World) (h0 : H) (ps0 : List PayS) (e : Nat) (t : SwG) : Prop where
  sw : SwOk w h0 ps0 e t
  seqs : SeqsApart t.ps
  good : GoodPs t.ps
  near : NearG ((ps0.length : Int) - cnt t.ps) t.h.core
  cl : cnt t.ps ≤ ps0.length
  i4 : t.idle ≤ 4
  goes : sweepFrom (t.bank % 4) t.idle t.q = sweepM h0.core ps0
theorem sp_start {w : World} {h : H} {ps : List PayS} {e : Nat} (hp : PaysIn (At w) h.pa h.pl ps) (hlc : h.pl ≤ h.pc) (hg : goodB h.core ps = true) : SpOk w h ps e ⟨At w, h, ps, [], .slice none 0 0, [], 0, 0⟩ := by
  have hc : cnt ps ≤ ps.length := List.countP_le_length
  obtain ⟨h1, h2, _⟩ := good_pays hg
  refine ⟨swOk_start hp hlc, h2, h1, (GoodH.nearG (good_of hg)).mono (by simp only; omega), hc, by simp, ?_⟩
  simp only [sweepM, hg, cond_true]
  rfl
theorem SpOk.step {w : World} {h0 : H} {ps0 : List PayS} {e : Nat} {t : SwG} (o : SpOk w h0 ps0 e t) (hg : goodB h0.core ps0 = true) (hl : ps0.length ≤ 24) (hk : t.bank < 4) {F' : Addr → Value → Prop} (hF : More t.F F') {h' : H} (hco : h'.core = (drain t.bank ⟨t.h.core, t.ps, []⟩).c) (hlc : h'.pl ≤ h'.pc)
    (ho : (h'.pa = t.h.pa ∧ h'.pl = t.h.pl ∧ (drain t.bank ⟨t.h.core, t.ps, []⟩).ps = t.ps) ∨ PaysIn (Young w F') h'.pa h'.pl (drain t.bank ⟨t.h.core, t.ps, []⟩).ps) {v' : Value} {E' : List (Nat × Obj)}
    (hli : ListE e 1 v' (t.xs.length + (drain t.bank ⟨t.h.core, t.ps, []⟩).xs.length) (t.xs.map I ++ (drain t.bank ⟨t.h.core, t.ps, []⟩).xs.map I) E') :
    ∃ i, SpOk w h0 ps0 e ⟨F', h', (drain t.bank ⟨t.h.core, t.ps, []⟩).ps, t.xs ++ (drain t.bank ⟨t.h.core, t.ps, []⟩).xs, v', E', t.bank + 1, i⟩ ∧ ((t.xs ++ (drain t.bank ⟨t.h.core, t.ps, []⟩).xs).length = t.xs.length → i = 4 ∨ i = t.idle + 1) := by
  have hd := drain_app t.bank t.h.core t.ps t.xs
  have hgo := o.goes
  rw [Nat.mod_eq_of_lt hk] at hgo
  obtain ⟨i, h1, h2, h3⟩ := pass_step hg hk o.i4 hgo
  have hq : drain t.bank t.q = ⟨(drain t.bank ⟨t.h.core, t.ps, []⟩).c, (drain t.bank ⟨t.h.core, t.ps, []⟩).ps, t.xs ++ (drain t.bank ⟨t.h.core, t.ps, []⟩).xs⟩ := hd
  rw [hq] at h2 h3
  have hf := drain_facts t.bank ⟨t.h.core, t.ps, []⟩
  have hke := drain_keeps t.bank _ ⟨t.h.core, t.ps, []⟩ rfl o.seqs
  have hcl := o.cl
  have hne := drain_near t.bank _ ⟨t.h.core, t.ps, []⟩ ((ps0.length : Int) - cnt t.ps) rfl o.good o.near (by omega) (by simp only; omega)
  simp only [List.length_nil, Nat.zero_add] at hf
  refine ⟨i, ⟨o.sw.many hF hke.2 hf.2.1 hlc ho hli _ _, hke.1, hne.2, ?_, by simp only; omega, h1, ?_⟩, h3⟩
  · simp only
    rw [hco]
    exact hne.1.mono (by simp only; omega)
  · simp only [SwG.q]
    rw [hco]
    exact h2
theorem qPays_seqs : SeqsApart qPays := (good_pays (show goodB (qHouse none).core qPays = true by kernel_rfl)).2.1
end Go.Proofs.Ytbgnmapmiobjcaa
