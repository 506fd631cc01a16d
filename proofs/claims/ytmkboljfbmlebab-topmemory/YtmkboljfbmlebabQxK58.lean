/- A region that draws its order, with one act at a bank among quiet operations and calls that change nothing. No condition. -/
import Derived.Test.YtmkboljfbmlebabQ13
namespace Go.Proofs.Ytmkboljfbmlebab
open Go.RowKit
set_option linter.unusedSimpArgs false
set_option linter.unusedVariables false
set_option maxRecDepth 100000
structure DoG where
 F : Addr → Value → Prop
 a : Option Addr
 c : Nat
 E : List (Nat × Obj)
 B : List (Nat × Obj)
def DoOk (bk : BankOk) (F : Addr → Value → Prop) (bo : Nat) (s : BankS) (x : ActS) (m : DoG) : Prop := More F m.F ∧ IntsO (doM s x).2.done (.slice m.a (doM s x).2.done.length m.c) m.E ∧ bk.Rep m.F bo m.B (doM s x).1
def DoT (bk : BankOk) (w0 : World) (F : Addr → Value → Prop) (Bo L1 : List (Nat × Obj)) (bo : Nat) (s : BankS) (x : ActS) (j : Nat) (sb : Array Bool) (st : Option DoG) (w : World) : Prop := match st with
 | none => sb[j]? = some false ∧ Has w0 F (Bo ++ L1) w
 | some m => sb[j]? = some true ∧ DoOk bk F bo s x m ∧ Has w0 m.F (m.E ++ (m.B ++ L1)) w
def DoLe (st : Option DoG) (_ : World) (st' : Option DoG) (_ : World) : Prop := st = none ∨ st' = st
section
variable {bk : BankOk} {w0 : World} {F : Addr → Value → Prop} {Bo L1 : List (Nat × Obj)} {bo : Nat} {s : BankS} {x : ActS} {j : Nat} {f : Nat → Value} {l : List Oper} {Ψ : Nat → Value → Option DoG → Prop}
theorem DoT.set {sb : Array Bool} {st : Option DoG} {w : World} {i : Nat} (h : DoT bk w0 F Bo L1 bo s x j sb st w) (hi : i ≠ j) : DoT bk w0 F Bo L1 bo s x j (sb.setIfInBounds i true) st w := by
 cases st with
 | none => exact ⟨by rw [Array.getElem?_setIfInBounds_ne hi]; exact h.1, h.2⟩
 | some m => exact ⟨by rw [Array.getElem?_setIfInBounds_ne hi]; exact h.1, h.2⟩
theorem DoT.below {sb : Array Bool} {st : Option DoG} {w w' : World} (h : DoT bk w0 F Bo L1 bo s x j sb st w) (hb : Bel w.heap.size w w') : DoT bk w0 F Bo L1 bo s x j sb st w' := by
 cases st with
 | none => exact ⟨h.1, h.2.below hb⟩
 | some m => exact ⟨h.1, h.2.1, h.2.2.below hb⟩
theorem DoT.rest {sb : Array Bool} {st : Option DoG} {w : World} (h : DoT bk w0 F Bo L1 bo s x j sb st w) : ∃ F', More F F' ∧ Has w0 F' L1 w := by
 cases st with
 | none => exact ⟨F, fun _ _ h => h, h.2.right⟩
 | some m => exact ⟨m.F, h.2.1.1, h.2.2.right.right⟩
theorem ob_quietD {i d : Nat} {op : Op} {ty : TypeId} {pos : String} {af : Array Edge} (hi : i ≠ j)
   (h : ∀ (st : Option DoG) (g : Nat → Value) (w : World) (F' : Addr → Value → Prop), More F F' → Has w0 F' L1 w → (∀ t ∈ (⟨some d, op, ty, pos, af, none⟩ : Oper).looksAt l.toArray, (t ∈ dstsOf l → Ψ t (g t) st) ∧ (t ∉ dstsOf l → g t = f t)) → ∃ v, Val Try.prog g (Has w0 F' L1) ⟨some d, op, ty, pos, af, none⟩ v ∧ Ψ d v st) :
   StepOb Try.prog (DoT bk w0 F Bo L1 bo s x j) DoLe f l (fun d v st _ => Ψ d v st) i ⟨some d, op, ty, pos, af, none⟩ := by
 intro sb st g w hsz hsi hed hT hl
 rw [if_pos wanted_free]
 obtain ⟨F', hm, hh⟩ := hT.rest
 obtain ⟨v, hv, hψ⟩ := h st g w F' hm hh hl
 unfold opk
 rw [hv.out w hh]
 exact ⟨v, rfl, st, hT.set hi, .inr rfl, fun e he => by simp at he; subst he; exact hψ⟩
theorem ob_giveD {i d : Nat} {k : FuncId} {xs : List Operand} {ats : Array TypeId} {ty : TypeId} {pos : String} {af : Array Edge} (hi : i ≠ j) (hk : hasBody Try.prog k = true)
   (h : ∀ (sb : Array Bool) (st : Option DoG) (g : Nat → Value) (w : World), DoT bk w0 F Bo L1 bo s x j sb st w → (∀ t ∈ (⟨some d, .call ⟨.value (.func k), xs.toArray, ats⟩, ty, pos, af, none⟩ : Oper).looksAt l.toArray, (t ∈ dstsOf l → Ψ t (g t) st) ∧ (t ∉ dstsOf l → g t = f t)) → ∃ v, Gives Try.prog k (xs.map (ev g)) w v ∧ Ψ d v st) :
   StepOb Try.prog (DoT bk w0 F Bo L1 bo s x j) DoLe f l (fun d v st _ => Ψ d v st) i ⟨some d, .call ⟨.value (.func k), xs.toArray, ats⟩, ty, pos, af, none⟩ := by
 intro sb st g w hsz hsi hed hT hl
 rw [if_pos wanted_free]
 obtain ⟨v, hv, hψ⟩ := h sb st g w hT hl
 unfold opk
 rw [run_call hk w]
 exact hv.out.mono fun e w' ⟨he, hb⟩ => ⟨v, he, v, rfl, st, (hT.below hb).set hi, .inr rfl, fun e he => by simp at he; subst he; exact hψ⟩
theorem ob_doD {d : Nat} {a b : Operand} {ats : Array TypeId} {ty : TypeId} {pos : String} {af : Array Edge} (hg : BGood s) (hr : bk.Rep F bo Bo s)
   (h : ∀ (st : Option DoG) (g : Nat → Value), (∀ t ∈ (⟨some d, .call ⟨.value (.func 17), #[a, b], ats⟩, ty, pos, af, none⟩ : Oper).looksAt l.toArray, (t ∈ dstsOf l → Ψ t (g t) st) ∧ (t ∉ dstsOf l → g t = f t)) → ev g a = .pointer (some ⟨bo, 0, none⟩) ∧ ev g b = .agg x.cells)
   (hψ : ∀ m, DoOk bk F bo s x m → Ψ d (.agg (repC (doM s x).2.code (doM s x).2.n (.slice m.a (doM s x).2.done.length m.c))) (some m)) :
   StepOb Try.prog (DoT bk w0 F Bo L1 bo s x j) DoLe f l (fun d v st _ => Ψ d v st) j ⟨some d, .call ⟨.value (.func 17), #[a, b], ats⟩, ty, pos, af, none⟩ := by
 intro sb st g w hsz hsi hed hT hl
 rw [if_pos wanted_free]
 obtain ⟨h1, h2⟩ := h st g hl
 cases st with
 | some m => rw [hT.1] at hsi; cases hsi
 | none =>
   unfold opk
   have hk : hasBody Try.prog 17 = true := by kernel_rfl
   have hrun := run_call (P := Try.prog) (f := g) (dst := some d) (gd := none) (ty := ty) (pos := pos) (af := af) (xs := [a, b]) (ats := ats) hk w
   rw [show (#[a, b] : Array Operand) = [a, b].toArray from rfl, hrun]
   have e : [a, b].map (ev g) = [.pointer (some ⟨bo, 0, none⟩), .agg x.cells] := by simp [h1, h2]
   rw [e]
   refine (bk.act F bo Bo s x hg hr w0 L1 w hT.2).mono ?_
   rintro e w' ⟨v, B', F', he, hm, h', v1, E1, B1, rfl, rfl, ⟨a2, c2, rfl, hc, ho⟩, hr'⟩
   have hjs : j < sb.size := (Array.getElem?_eq_some_iff.1 hsi).1
   have hok : DoOk bk F bo s x ⟨F', a2, c2, E1, B1⟩ := ⟨hm, ⟨a2, c2, rfl, hc, ho⟩, hr'⟩
   exact ⟨_, he, _, rfl, some ⟨F', a2, c2, E1, B1⟩, ⟨by simp [hjs], hok, by rw [List.append_assoc] at h'; exact h'⟩, .inl rfl, fun e he => by simp at he; subst he; exact hψ _ hok⟩
theorem d_do {id n : Nat} {y : Code} {Q : Exit → (Nat → Value) → World → Prop} (hm : (Try.prog).follows .mixedOrders = true) (hB : opsB n l.toArray = true) (hF : flowB .any l = true) (hjl : Nat.blt j l.length = true) (hstab : ∀ d v m, Ψ d v none → Ψ d v (some m))
   (hst : ∀ i o, l[i]? = some o → StepOb Try.prog (DoT bk w0 F Bo L1 bo s x j) DoLe f l (fun d v st _ => Ψ d v st) i o)
   (k : ∀ m g, DoOk bk F bo s x m → (∀ d ∈ dstsOf l, Ψ d (g d) (some m)) → (∀ t, t ∉ dstsOf l → g t = f t) → cC Try.prog n y Q g (Has w0 m.F (m.E ++ (m.B ++ L1)))) : cC Try.prog n (.seq (.region id l.toArray true) y) Q f (Has w0 F (Bo ++ L1)) := by
 have hjl' : j < l.length := by simpa using hjl
 refine c_seq (d_steps (T := DoT bk w0 F Bo L1 bo s x j) (le := DoLe) (Ψ := fun d v st _ => Ψ d v st) hm hB hF ?_ ?_ hst ?_)
 · rintro d v st w st' w' hle h
   rcases hle with rfl | rfl
   · cases st' with
     | none => exact h
     | some m => exact hstab d v m h
   · exact h
 · intro w hw
   exact ⟨none, by rw [Array.getElem?_replicate, if_pos hjl'], hw.drew⟩
 · intro sb st g w hall hT hd he
   cases st with
   | none => have := hall j hjl'; rw [hT.1] at this; cases this
   | some m => exact cC_at (k m g hT.2.1 hd he) hT.2.2
end
end Go.Proofs.Ytmkboljfbmlebab
