/- What is written over what a bank has told. No condition. -/
import Derived.Test.YtmkboljfbmlebabQ13
import Derived.Test.YtmkboljfbmlebabQxK58
namespace Go.Proofs.Ytmkboljfbmlebab
open Go.RowKit
set_option linter.unusedSimpArgs false
set_option linter.unusedVariables false
def memΨ (bk : BankOk) (F : Addr → Value → Prop) (bo : Nat) (s : BankS) (x : ActS) (a1 : Option Addr) (c1 : Nat) (d : Nat) (v : Value) (st : Option DoG) : Prop :=
 (d = 11 → v = .pointer (some ⟨bo, 0, none⟩)) ∧ (d = 12 → v = .agg x.cells) ∧ (d = 13 → ∃ m, st = some m ∧ v = .agg (repC (doM s x).2.code (doM s x).2.n (.slice m.a (doM s x).2.done.length m.c))) ∧
 (d = 14 → v = .agg (repC (doM s x).2.code (doM s x).2.n (.slice a1 (doM s x).2.done.length c1))) ∧ (d = 15 → v = .bool true) ∧ (d = 16 → v = .bool false)
theorem memΨ_stab {bk : BankOk} {F : Addr → Value → Prop} {bo : Nat} {s : BankS} {x : ActS} {a1 : Option Addr} {c1 : Nat} (d : Nat) (v : Value) (m : DoG) (h : memΨ bk F bo s x a1 c1 d v none) : memΨ bk F bo s x a1 c1 d v (some m) :=
 ⟨h.1, h.2.1, fun e => (by obtain ⟨m', e1, _⟩ := h.2.2.1 e; cases e1), h.2.2.2.1, h.2.2.2.2.1, h.2.2.2.2.2⟩
def OwnRow (m : Nat) (a : Option Addr) (l c : Nat) (E : List (Nat × Obj)) : Prop := l ≤ c ∧ ((l = 0 ∧ E = []) ∨ ∃ b t cs, a = some ⟨b, 0, none⟩ ∧ E = [(b, .cells cs t (0, 0))] ∧ cs.size = c * m)
theorem OwnRow.some {m : Nat} {a : Option Addr} {l c : Nat} {E : List (Nat × Obj)} (h : OwnRow m a l c E) (h0 : 0 < l) : ∃ b t cs, a = some ⟨b, 0, none⟩ ∧ E = [(b, .cells cs t (0, 0))] ∧ cs.size = c * m := by
 rcases h.2 with ⟨h1, _⟩ | h
 · omega
 · exact h
theorem IntsO.own {xs : List Int} {a : Option Addr} {c : Nat} {E : List (Nat × Obj)} (h : IntsO xs (.slice a xs.length c) E) : OwnRow 1 a xs.length c E := by
 obtain ⟨a', c', hv, hc, h⟩ := h
 simp only [Value.slice.injEq] at hv
 obtain ⟨rfl, _, rfl⟩ := hv
 refine ⟨hc, h.imp (fun e => ⟨by rw [e.1]; rfl, e.2⟩) ?_⟩
 rintro ⟨b, t, cs, h1, h2, h3, _⟩
 exact ⟨b, t, cs, h1, h2, by omega⟩
theorem PaysO.own {pa : Option Addr} {pl pc : Nat} {ps : List PayS} {E : List (Nat × Obj)} (h : PaysO pa pl pc ps E) : OwnRow 6 pa pl pc E := by
 refine ⟨h.2.1, h.2.2.imp id ?_⟩
 rintro ⟨b, t, cs, h1, h2, h3, _⟩
 exact ⟨b, t, cs, h1, h2, h3⟩
theorem over_size {cs : Array Value} {o : Nat} {vs : List Value} (h : o + vs.length ≤ cs.size) : (over cs o vs).size = cs.size := by
 unfold over
 simp
 omega
theorem perm_back {α : Type} (A B : List α) (x : α) (K : List α) : (A ++ (B ++ (x :: K))).Perm (B ++ (x :: (A ++ K))) := by
 refine (perm_front (A := A) (E := B) (B := x :: K)).trans (List.Perm.append_left B ?_)
 exact List.perm_middle
def noPay : PayS := ⟨0, 0, 0, 0, 0, 0⟩
end Go.Proofs.Ytmkboljfbmlebab
