/- Structs put together, tuples taken apart, replies and lists of numbers compared. No condition. -/
import Derived.Test.YtbgnmapmiobjcaaK12
import Derived.Laws.Tables
namespace Go.Proofs.Ytbgnmapmiobjcaa
open Go.RowKit
set_option linter.unusedSimpArgs false
set_option linter.unusedVariables false

section
variable {P : Program} {f : Nat → Value} {C : World → Prop} {dst : Option Nat} {ty : TypeId} {pos : String} {af : Array Edge} {gd : Option (Nat × Bool)}
theorem v_build {T : TypeId} {parts : List (Nat × Operand)} {vs : List (Nat × Value)} {cs : Array Value} (hv : parts.map (fun p => (p.1, ev f p.2)) = vs) (h : P.built T vs = some cs) : Val P f C ⟨dst, .build T parts.toArray, ty, pos, af, gd⟩ (.agg cs) :=
  ⟨fun w _ => by
    have e : (parts.toArray.map fun p => (p.1, ev f p.2)) = vs.toArray := by simp [hv]
    have hr := run_build (P := P) w T vs.toArray cs (by simpa using h)
    simp only [execOp]
    rw [e]
    simp [hr]⟩
theorem v_extract {x : Operand} {vs : Array Value} {i : Nat} {v : Value} (hx : ev f x = .tuple vs) (hi : vs[i]? = some v) : Val P f C ⟨dst, .extract x i, ty, pos, af, gd⟩ v :=
  ⟨fun w _ => by simp [execOp, hx, Instr.extract, hi]⟩
end
/-- where a list's numbers stand -/
def IntsAt (F : Addr → Value → Prop) (a : Option Addr) (xs : List Int) : Prop := xs = [] ∨ ∃ b o, a = some ⟨b, o, none⟩ ∧ ∀ (j : Nat) (x : Int), xs[j]? = some x → F ⟨b, o + j, none⟩ (I x)
theorem IntsIn.at {F : Addr → Value → Prop} {v : Value} {xs : List Int} (h : IntsIn F v xs) : ∃ a c, v = .slice a xs.length c ∧ IntsAt F a xs := h
theorem IntsAt.mono {F F' : Addr → Value → Prop} {a : Option Addr} {xs : List Int} (h : IntsAt F a xs) (hm : More F F') : IntsAt F' a xs := by
  rcases h with h | ⟨b, o, h1, h2⟩
  · exact .inl h
  · exact .inr ⟨b, o, h1, fun j x hj => hm _ _ (h2 j x hj)⟩
theorem IntsAt.get {F : Addr → Value → Prop} {a : Option Addr} {xs : List Int} (h : IntsAt F a xs) {j : Nat} (hj : j < xs.length) : ∃ b o x, a = some ⟨b, o, none⟩ ∧ xs[j]? = some x ∧ F ⟨b, o + j, none⟩ (I x) := by
  rcases h with rfl | ⟨b, o, h1, h2⟩
  · simp at hj
  · exact ⟨b, o, xs[j], h1, by simp [hj], h2 j _ (by simp [hj])⟩
theorem IntsAt.at {w0 w : World} {F : Addr → Value → Prop} {L : List (Nat × Obj)} {a : Option Addr} {xs : List Int} (h : IntsAt F a xs) (hw : Has w0 F L w) : IntsAt (At w) a xs := h.mono hw.at
def repC (c n : Int) (v : Value) : Array Value := #[I c, I n, v]
def sameRB (c1 n1 : Int) (xs : List Int) (c2 n2 : Int) (ys : List Int) : Bool := decide (c1 = c2) && decide (n1 = n2) && decide (xs = ys)
theorem same_take {xs ys : List Int} {j : Nat} {x y : Int} (h : xs.take j = ys.take j) (hx : xs[j]? = some x) (hy : ys[j]? = some y) (he : x = y) : xs.take (j + 1) = ys.take (j + 1) := by
  rw [List.take_add_one, List.take_add_one, h, hx, hy, he]
theorem ints_all {xs ys : List Int} {j : Nat} (hl : (xs.length : Int) = ys.length) (h : xs.take j = ys.take j) (hj : ¬ (j : Int) < xs.length) : xs = ys := by
  rw [List.take_of_length_le (by omega), List.take_of_length_le (by omega)] at h; exact h
theorem ints_bad {xs ys : List Int} {j : Nat} {x y : Int} (hx : xs[j]? = some x) (hy : ys[j]? = some y) (he : ¬ x = y) : ¬ xs = ys := by
  rintro rfl; rw [hx] at hy; simp at hy; exact he hy
theorem ints_len {xs ys : List Int} (hl : ¬ (xs.length : Int) = ys.length) : ¬ xs = ys := by rintro rfl; exact hl rfl
end Go.Proofs.Ytbgnmapmiobjcaa
