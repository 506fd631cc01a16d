/- The steps of a region that draws its order, one operation at a time. No condition. -/
import Derived.Test.YtbgnmapmiobjcaaK13
namespace Go.Proofs.Ytbgnmapmiobjcaa
open Go.RowKit
set_option linter.unusedSimpArgs false
set_option linter.unusedVariables false

theorem at_below {w w' : World} (h : Bel w.heap.size w w') : More (At w) (At w') := fun a v ha => by
  show w'.cell? a = some v
  rw [h.cell (cell_lt ha)]; exact ha
theorem fresh_at (w w' : World) : More (Fresh w w') (At w') := fun _ _ h => h.1
/-- what each slot holds, said of the memory that is there -/
def Tab (T : Nat → (Addr → Value → Prop) → Value → Prop) (d : Nat) (v : Value) (w : World) : Prop := T d (At w) v
def Eqv (x : Value) : (Addr → Value → Prop) → Value → Prop := fun _ v => v = x
def Any : (Addr → Value → Prop) → Value → Prop := fun _ _ => True
def row (d : Nat) (R : (Addr → Value → Prop) → Value → Prop) (T : Nat → (Addr → Value → Prop) → Value → Prop) : Nat → (Addr → Value → Prop) → Value → Prop := fun i => bif Nat.beq i d then R else T i
theorem eqv_mono (x : Value) : Mono (Eqv x) := fun _ _ _ _ h => h
theorem any_mono : Mono Any := fun _ _ _ _ _ => trivial
theorem ints_mono (xs : List Int) : Mono (fun F v => IntsIn F v xs) := fun _ _ _ hm h => h.mono hm
theorem row_mono {d : Nat} {R : (Addr → Value → Prop) → Value → Prop} {T : Nat → (Addr → Value → Prop) → Value → Prop} (hR : Mono R) (hT : ∀ i, Mono (T i)) : ∀ i, Mono (row d R T i) := fun i => by
  unfold row
  cases Nat.beq i d
  · exact hT i
  · exact hR
section
variable {P : Program} {n : Nat} {f : Nat → Value} {l : List Oper} {T : Nat → (Addr → Value → Prop) → Value → Prop} {Q : Exit → (Nat → Value) → World → Prop} {w0 : World} {F : Addr → Value → Prop} {L : List (Nat × Obj)}
theorem f_list {id : Nat} (hm : P.follows .mixedOrders = true) (hB : opsB n l.toArray = true) (hF : flowB .any l = true) (hT : ∀ i, Mono (T i)) (h : Obs P (Has w0 F L) f l (Tab T) l)
    (k : ∀ g w, Has w0 F L w → (∀ d ∈ dstsOf l, T d (At w) (g d)) → (∀ t, t ∉ dstsOf l → g t = f t) → Q .normal g w) : cC P n (.region id l.toArray true) Q f (Has w0 F L) :=
  d_flow hm hB hF (fun w w' hw hb => hw.below hb) (fun d v w w' _ hb h => hT d _ _ v (at_below hb) h) h k
theorem f_seq {id : Nat} {y : Code} (hm : P.follows .mixedOrders = true) (hB : opsB n l.toArray = true) (hF : flowB .any l = true) (hT : ∀ i, Mono (T i)) (h : Obs P (Has w0 F L) f l (Tab T) l)
    (k : ∀ g w, Has w0 F L w → (∀ d ∈ dstsOf l, T d (At w) (g d)) → (∀ t, t ∉ dstsOf l → g t = f t) → cw P n y Q g w) : cC P n (.seq (.region id l.toArray true) y) Q f (Has w0 F L) :=
  c_seq (f_list hm hB hF hT h k)
/-- one operation, its guard told -/
def Ox (P : Program) (T : Nat → (Addr → Value → Prop) → Value → Prop) (d : Nat) (op : Op) (ty : TypeId) (pos : String) (af : Array Edge) (gd : Option (Nat × Bool)) (g : Nat → Value) (w : World) : Prop :=
  opk P ⟨some d, op, ty, pos, af, gd⟩ g w (fun g' w' => ∃ v, g' = updo g (some d) v ∧ Bel w.heap.size w w' ∧ ∀ e, some d = some e → Tab T e v w')
variable {d : Nat} {op : Op} {ty : TypeId} {pos : String} {af : Array Edge} {C : World → Prop}
theorem ob_free (h : ∀ (g : Nat → Value) (w : World), C w → (∀ t ∈ (⟨some d, op, ty, pos, af, none⟩ : Oper).looksAt l.toArray, (t ∈ dstsOf l → Tab T t (g t) w) ∧ (t ∉ dstsOf l → g t = f t)) → Ox P T d op ty pos af none g w) : Ob P C f l (Tab T) ⟨some d, op, ty, pos, af, none⟩ := by
  intro g w hw hl
  rw [if_pos wanted_free]
  exact h g w hw hl
theorem ob_want {j s : Nat} {b : Bool} (hj : (l.toArray[j]?).bind (·.dst) = some s) (hs : ∀ (g : Nat → Value) (w : World), C w → (∀ t ∈ (⟨some d, op, ty, pos, af, some (j, b)⟩ : Oper).looksAt l.toArray, (t ∈ dstsOf l → Tab T t (g t) w) ∧ (t ∉ dstsOf l → g t = f t)) → g s = .bool b ∧ Ox P T d op ty pos af (some (j, b)) g w) : Ob P C f l (Tab T) ⟨some d, op, ty, pos, af, some (j, b)⟩ := by
  intro g w hw hl
  obtain ⟨h1, h2⟩ := hs g w hw hl
  have : Region.wanted ⟨some d, op, ty, pos, af, some (j, b)⟩ (yf l.toArray g) = true := by
    simp only [Region.wanted, yf, hj, h1]
    simp
  rw [if_pos this]
  exact h2
theorem ob_pass {j s : Nat} {b c : Bool} (hj : (l.toArray[j]?).bind (·.dst) = some s) (hs : ∀ (g : Nat → Value) (w : World), C w → (∀ t ∈ (⟨some d, op, ty, pos, af, some (j, b)⟩ : Oper).looksAt l.toArray, (t ∈ dstsOf l → Tab T t (g t) w) ∧ (t ∉ dstsOf l → g t = f t)) → g s = .bool c ∧ c = !b ∧ ∀ w, Tab T d undef w) : Ob P C f l (Tab T) ⟨some d, op, ty, pos, af, some (j, b)⟩ := by
  intro g w hw hl
  obtain ⟨h1, h2, h3⟩ := hs g w hw hl
  have : ¬ Region.wanted ⟨some d, op, ty, pos, af, some (j, b)⟩ (yf l.toArray g) = true := by
    subst h2
    simp only [Region.wanted, yf, hj, h1]
    cases b <;> simp
  rw [if_neg this]
  intro e he
  simp at he; subst he
  exact h3 w
variable {g : Nat → Value} {w : World} {gd : Option (Nat × Bool)} {v : Value}
theorem x_val (hv : Val P g C ⟨some d, op, ty, pos, af, gd⟩ v) (hw : C w) (ht : T d (At w) v) : Ox P T d op ty pos af gd g w := by
  unfold Ox opk
  rw [hv.out w hw]
  exact ⟨v, rfl, Bel.refl _ _, fun e he => by simp at he; subst he; exact ht⟩
theorem x_call {k : FuncId} {xs : List Operand} {ats : Array TypeId} {vs : List Value} (hk : hasBody P k = true) (hx : xs.map (ev g) = vs) (hg : Gives P k vs w v) (ht : ∀ w', T d (At w') v) : Ox P T d (.call ⟨.value (.func k), xs.toArray, ats⟩) ty pos af gd g w := by
  unfold Ox opk
  rw [run_call hk w, hx]
  exact hg.out.mono fun e w' ⟨he, hb⟩ => ⟨v, he, v, rfl, hb, fun e he => by simp at he; subst he; exact ht w'⟩
theorem x_callF {k : FuncId} {xs : List Operand} {ats : Array TypeId} {vs : List Value} {R : (Addr → Value → Prop) → Value → Prop} (hk : hasBody P k = true) (hx : xs.map (ev g) = vs) (hg : GivesF P k vs w R) (ht : ∀ w' v, Bel w.heap.size w w' → R (Fresh w w') v → T d (At w') v) : Ox P T d (.call ⟨.value (.func k), xs.toArray, ats⟩) ty pos af gd g w := by
  unfold Ox opk
  rw [run_call hk w, hx]
  exact hg.out.mono fun e w' ⟨v, he, hb, hr⟩ => ⟨v, he, v, rfl, hb, fun e he => by simp at he; subst he; exact ht w' v hb hr⟩
theorem cC_at {y : Code} (h : cC P n y Q g C) (hw : C w) : cw P n y Q g w := h w hw
theorem nC_at (h : nC Q .normal g C) (hw : C w) : Q .normal g w := h w hw
end
end Go.Proofs.Ytbgnmapmiobjcaa
