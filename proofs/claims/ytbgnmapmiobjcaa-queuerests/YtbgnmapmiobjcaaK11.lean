/- The sweep's going round: what holds at each turn. No condition. -/
import Derived.Test.YtbgnmapmiobjcaaK10
import Derived.Test.YtbgnmapmiobjcaaM5
namespace Go.Proofs.Ytbgnmapmiobjcaa
open Go.RowKit
set_option linter.unusedSimpArgs false
set_option linter.unusedVariables false

structure SwG where
  F : Addr → Value → Prop
  h : H
  ps : List PayS
  xs : List Int
  v : Value
  E : List (Nat × Obj)
  bank : Nat
  idle : Nat
def SwG.q (t : SwG) : QS := ⟨t.h.core, t.ps, t.xs⟩
structure SwOk (w : World) (h0 : H) (ps0 : List PayS) (e : Nat) (t : SwG) : Prop where
  pays : PaysIn t.F t.h.pa t.h.pl t.ps
  out : (t.h.pa = h0.pa ∧ t.h.pl = h0.pl ∧ t.ps = ps0) ∨ PaysIn (Young w t.F) t.h.pa t.h.pl t.ps
  len : t.h.pl = h0.pl
  lc : t.h.pl ≤ t.h.pc
  list : ListE e 1 t.v t.xs.length (t.xs.map I) t.E
  sum : t.xs.length + cnt t.ps ≤ h0.pl
theorem swOk_start {w : World} {h : H} {ps : List PayS} {e : Nat} (hp : PaysIn (At w) h.pa h.pl ps) (hlc : h.pl ≤ h.pc) : SwOk w h ps e ⟨At w, h, ps, [], .slice none 0 0, [], 0, 0⟩ :=
  ⟨hp, .inl ⟨rfl, rfl, rfl⟩, rfl, hlc, listE_nil _ _, by
    have : cnt ps ≤ ps.length := List.countP_le_length
    have := hp.1
    simp only [List.length_nil]; omega⟩
theorem SwOk.learn {w : World} {h0 : H} {ps0 : List PayS} {e : Nat} {t : SwG} (k : SwOk w h0 ps0 e t) {F' : Addr → Value → Prop} (hF : More t.F F') (b i : Nat) : SwOk w h0 ps0 e ⟨F', t.h, t.ps, t.xs, t.v, t.E, b, i⟩ :=
  ⟨k.pays.mono hF, k.out.imp id fun h => h.mono (young_mono hF), k.len, k.lc, k.list, k.sum⟩
theorem SwOk.go {w : World} {h0 : H} {ps0 : List PayS} {e : Nat} {t : SwG} (k : SwOk w h0 ps0 e t) {F' : Addr → Value → Prop} (hF : More t.F F') {i : Int} {p : PayS} (hs : settles t.ps i = some p) {h' : H} (hlc : h'.pl ≤ h'.pc)
    (ho : (h'.pa = t.h.pa ∧ h'.pl = t.h.pl ∧ settleP t.ps i = t.ps) ∨ PaysIn (Young w F') h'.pa h'.pl (settleP t.ps i)) {v' : Value} {E' : List (Nat × Obj)} (hl : ListE e 1 v' (t.xs.length + 1) (t.xs.map I ++ [I i]) E') (b d : Nat) :
    SwOk w h0 ps0 e ⟨F', h', settleP t.ps i, t.xs ++ [i], v', E', b, d⟩ := by
  have hlen : h'.pl = t.h.pl := by
    rcases ho with ho | ho
    · exact ho.2.1
    · rw [← ho.1, settleP_len, k.pays.1]
  refine ⟨?_, ?_, by simp only; rw [hlen, k.len], hlc, by simpa using hl, ?_⟩
  · rcases ho with ⟨h1, h2, h3⟩ | ho
    · simp only; rw [h1, h2, h3]; exact k.pays.mono hF
    · exact ho.mono (more_young w F')
  · rcases ho with ⟨h1, h2, h3⟩ | ho
    · simp only; rw [h1, h2, h3]
      exact k.out.imp id fun h => h.mono (young_mono hF)
    · exact .inr ho
  · have := cnt_settle hs
    have := k.sum
    simp only [List.length_append, List.length_cons, List.length_nil]; omega
theorem sw_round {s t : QS} {bank idle idle' : Nat} (h4 : idle < 4) (hn : firstM t.c t.ps bank = none) (hd : drain bank t = drain bank s) (hi : (idle' = idle + 1 ∧ t.xs.length = s.xs.length) ∨ (idle' = 0 ∧ s.xs.length < t.xs.length)) :
    sweepFrom ((bank + 1) % 4) idle' t = sweepFrom bank idle s ∧ 5 * cnt t.ps + (4 - idle') < 5 * cnt s.ps + (4 - idle) ∧ idle' ≤ 4 := by
  rw [drain_end hn] at hd
  have hf := drain_facts bank s
  rw [← hd] at hf
  obtain ⟨_, h1, h2⟩ := hf
  rcases hi with ⟨rfl, h3⟩ | ⟨rfl, h3⟩
  · exact ⟨(sweep_idle h4 hd.symm h3).symm, by omega, by omega⟩
  · exact ⟨(sweep_busy h4 hd.symm (by omega)).symm, by omega, by omega⟩
theorem sw_drain {t : SwG} {bank i : Int} {r : List Int} {p : PayS} {h' : H} (hq : queueM t.ps bank = i :: r) (hpi : t.ps[i.toNat]? = some p) (hm : maySendM t.h bank p.dst p.amt = true) (hco : h'.core = settleC t.h.core t.ps i) : drain bank ⟨h'.core, settleP t.ps i, t.xs ++ [i]⟩ = drain bank t.q := by
  have : firstM t.q.c t.q.ps bank = some i := firstM_yes (c := t.h.core) hq hpi hm
  rw [drain_go this, hco]
  rfl
theorem rem4 (n : Nat) : ((n : Int) + 1).tmod 4 = (((n + 1) % 4 : Nat) : Int) := by
  rw [Int.tmod_eq_emod_of_nonneg (by omega)]; omega
theorem may_core (h : H) (a b n : Int) : maySendM h.core a b n = maySendM h a b n := rfl
theorem good_core (h : H) (ps : List PayS) : goodB h.core ps = goodB h ps := rfl
/-- a house and a list of numbers -/
def SweepF (h0 : H) (ps0 : List PayS) (s : QS) (F : Addr → Value → Prop) (v : Value) : Prop := ∃ v1 v2, v = .tuple #[v1, v2] ∧ HouseF h0 ps0 s.c s.ps F v1 ∧ IntsIn F v2 s.xs
theorem sweepF_mono (h0 : H) (ps0 : List PayS) (s : QS) : Mono (SweepF h0 ps0 s) := by
  rintro F F' v hm ⟨v1, v2, h1, h2, h3⟩
  exact ⟨v1, v2, h1, houseF_mono _ _ _ _ _ _ _ hm h2, h3.mono hm⟩
theorem SwOk.done {w w' : World} {h0 : H} {ps0 : List PayS} {e : Nat} {t : SwG} {L : List (Nat × Obj)} (k : SwOk w h0 ps0 e t) (hw : Has w t.F (t.E ++ L) w') : SweepF h0 ps0 t.q (Fresh w w') (.tuple #[.agg t.h.cells, t.v]) :=
  ⟨_, _, rfl, ⟨t.h, rfl, rfl, k.lc, k.out.imp id fun h => h.mono (young_fresh hw)⟩, ints_of_list k.list (own_fresh hw)⟩
end Go.Proofs.Ytbgnmapmiobjcaa
