/- What the law QueueRests goes through, turn by turn. No condition. -/
import Derived.Test.YtbgnmapmiobjcaaK16
import Derived.Test.YtbgnmapmiobjcaaM10
namespace Go.Proofs.Ytbgnmapmiobjcaa
open Go.RowKit
set_option linter.unusedSimpArgs false
set_option linter.unusedVariables false

structure KF where
  k : Nat
  F : Addr → Value → Prop
theorem rest_may {c : H} {ps : List PayS} {b i : Int} {r : List Int} {p : PayS} (hn : firstM c ps b = none) (hq : queueM ps b = i :: r) (hp : ps[i.toNat]? = some p) : maySendM c b p.dst p.amt = false := by
  cases hm : maySendM c b p.dst p.amt
  · rfl
  · rw [firstM_yes hq hp hm] at hn; cases hn
theorem mayM_core (h : H) (a b n : Int) : mayM h.core a b n = mayM h a b n := rfl
theorem may_of_core {h : H} (g : GoodH h.core) (a b n : Int) : mayM h a b n = maySendM h.core a b n := (mayM_core h a b n).symm.trans (may_eq g a b n)
/-- one payment after the other, as the law does them again -/
structure RG where
  k : Nat
  F : Addr → Value → Prop
  y : H
  ps : List PayS
structure RgOk (F0 : Addr → Value → Prop) (S : QS) (pl : Nat) (t : RG) : Prop where
  more : More F0 t.F
  pays : PaysIn t.F t.y.pa t.y.pl t.ps
  lc : t.y.pl ≤ t.y.pc
  len : t.y.pl = pl
  chain : Chain t.y.core t.ps (S.xs.drop t.k)
  endC : chainC t.y.core t.ps (S.xs.drop t.k) = S.c
  endP : chainP t.ps (S.xs.drop t.k) = S.ps
  room : Room t.k t.y.core
  good : GoodPs t.ps
  le : t.k ≤ S.xs.length
  seqs : SeqsApart t.ps
theorem RgOk.step {F0 : Addr → Value → Prop} {S : QS} {pl : Nat} {t : RG} (o : RgOk F0 S pl t) (hl : S.xs.length ≤ 24) {n : Int} (hn : S.xs[t.k]? = some n) :
    ∃ p r, 0 ≤ n ∧ n < pl ∧ t.ps[n.toNat]? = some p ∧ settles t.ps n = some p ∧ queueM t.ps p.src = n :: r ∧ mayM t.y p.src p.dst p.amt = true ∧ S.xs.drop t.k = n :: S.xs.drop (t.k + 1) := by
  have hk : t.k < S.xs.length := (List.getElem?_eq_some_iff.1 hn).1
  have hd : S.xs.drop t.k = n :: S.xs.drop (t.k + 1) := by rw [List.drop_eq_getElem_cons hk]; congr 1; exact (List.getElem?_eq_some_iff.1 hn).2
  have hc := o.chain
  rw [hd] at hc
  obtain ⟨⟨b, _, hf⟩, _⟩ := hc
  obtain ⟨p, r, h1, h2, h3, h4⟩ := firstM_spec hf
  obtain ⟨s0, s1, _⟩ := settles_spec h2
  have hlt := (List.getElem?_eq_some_iff.1 s1).1
  have e1 := o.pays.1
  have e2 := o.len
  refine ⟨p, r, s0, by omega, s1, h2, by rw [h3]; exact h1, ?_, hd⟩
  rw [may_of_core (o.room.good (by have := o.le; omega)), h3]; exact h4
theorem RgOk.next {F0 F' : Addr → Value → Prop} {S : QS} {pl : Nat} {t : RG} (o : RgOk F0 S pl t) (hl : S.xs.length ≤ 24) {n : Int} {p : PayS} (hd : S.xs.drop t.k = n :: S.xs.drop (t.k + 1)) (hs : settles t.ps n = some p) (hF : More t.F F') {h' : H} (hc : h'.core = settleC t.y.core t.ps n) (hlc : h'.pl ≤ h'.pc) (hp : PaysIn F' h'.pa h'.pl (settleP t.ps n)) :
    RgOk F0 S pl ⟨t.k + 1, F', h', settleP t.ps n⟩ := by
  have c1 := o.chain
  have c2 := o.endC
  have c3 := o.endP
  rw [hd] at c1 c2 c3
  have hk : t.k < S.xs.length := by
    rcases Nat.lt_or_ge t.k S.xs.length with h | h
    · exact h
    · rw [List.drop_eq_nil_of_le h] at hd; cases hd
  refine ⟨fun a v h => hF a v (o.more a v h), hp, hlc, ?_, ?_, ?_, c3, ?_, settleP_good o.good n, by simp only; omega, o.seqs.settle n⟩
  · simp only; rw [← hp.1, settleP_len, o.pays.1, o.len]
  · simp only; rw [hc]; exact c1.2
  · simp only; rw [hc]; exact c2
  · simp only
    rw [hc]
    have e : settleC t.y.core t.ps n = moveM t.y.core p.src p.dst p.amt := by simp only [settleC, hs]
    rw [e]
    have := o.room.move (by omega) (by omega) (pay_transfer (o.good p (List.mem_of_getElem? (settles_spec hs).2.1)))
    have e2 : ((t.k + 1 : Nat) : Int) = (t.k : Int) + 1 := by omega
    rw [e2]; exact this
theorem RgOk.fin {F0 : Addr → Value → Prop} {S : QS} {pl : Nat} {t : RG} (o : RgOk F0 S pl t) (hk : ¬ (t.k : Int) < S.xs.length) : t.y.core = S.c ∧ t.ps = S.ps := by
  have c2 := o.endC
  have c3 := o.endP
  rw [List.drop_eq_nil_of_le (by omega)] at c2 c3
  exact ⟨c2, c3⟩
theorem rg_start {w : World} {F : Addr → Value → Prop} {h : H} {ps : List PayS} (hg : goodB h.core ps = true) (hr : roomyB h.core = true) (hp : PaysIn F h.pa h.pl ps) (hlc : h.pl ≤ h.pc) : RgOk F (sweepM h.core ps) h.pl ⟨0, F, h, ps⟩ := by
  obtain ⟨c1, c2, c3⟩ := sweepM_goes hg
  exact ⟨fun _ _ h => h, hp, hlc, rfl, c1, c2.symm, c3.symm, room_of (good_of hg) hr, (good_pays hg).1, Nat.zero_le _, (good_pays hg).2.1⟩
theorem core_acc {h k : H} (hc : h.core = k.core) : accL h.has h.cred = accL k.has k.cred ∧ matL h.sent = matL k.sent := by
  have e1 : h.has = k.has := show h.core.has = k.core.has by rw [hc]
  have e2 : h.cred = k.cred := show h.core.cred = k.core.cred by rw [hc]
  have e3 : h.sent = k.sent := show h.core.sent = k.core.sent by rw [hc]
  rw [e1, e2, e3]; exact ⟨rfl, rfl⟩
theorem sum_core (h : H) : sumM h.core = sumM h := rfl
end Go.Proofs.Ytbgnmapmiobjcaa
