/- Lists of payments put together; what was the call's own, only kept in mind; the little house of 'queues'. No condition. -/
import Derived.Test.YtbgnmapmiobjcaaK15
import Derived.Great.BuildSlice
namespace Go.Proofs.Ytbgnmapmiobjcaa
open Go.RowKit
set_option linter.unusedSimpArgs false
set_option linter.unusedVariables false

def sliceCells (P : Program) (T : TypeId) (len : Nat) (vs : List (Nat × Value)) : Option (TypeId × Array Value) := match P.underlying T with
  | some (.slice e) => match P.info? e with
    | some i => match i.zero with
      | some z => if len * i.size ≤ 100000 ∧ 0 < len * i.size then (Instr.fill (fun k => some (k * i.size, i.size)) ((Array.range (len * i.size)).map (z.cells[· % z.cells.size]!)) vs).map fun cs => (e, cs) else none
      | none => none
    | none => none
  | _ => none
section
variable {P : Program} {ops : Array Oper} {K : (Nat → Value) → World → Prop} {rest : List Oper} {f : Nat → Value} {d : Nat} {ty : TypeId} {pos : String} {af : Array Edge} {w0 : World} {F : Addr → Value → Prop} {E L : List (Nat × Obj)}
theorem s_buildS {T e len : Nat} {parts : List (Nat × Operand)} {vs : List (Nat × Value)} {cs : Array Value} (hv : parts.map (fun p => (p.1, ev f p.2)) = vs) (h : sliceCells P T len vs = some (e, cs))
    (kk : ∀ b, sC P ops K rest (upd f d (.slice (some ⟨b, 0, none⟩) len len)) (Has w0 F ((b, .cells cs e) :: L))) :
    sC P ops K (⟨some d, .buildSlice T len parts.toArray, ty, pos, af, none⟩ :: rest) f (Has w0 F L) := by
  intro w hw
  unfold sliceCells at h
  split at h
  · rename_i e' hu
    split at h
    · rename_i i hi
      split at h
      · rename_i z hz
        split at h
        · rename_i hb
          cases hfl : Instr.fill (fun k => some (k * i.size, i.size)) ((Array.range (len * i.size)).map (z.cells[· % z.cells.size]!)) vs with
          | none => rw [hfl] at h; cases h
          | some cs' =>
            rw [hfl] at h
            simp at h
            obtain ⟨rfl, rfl⟩ := h
            have hr := run_buildSlice (P := P) w T e' len vs.toArray cs' i z hu hi hz (by omega) (by omega) (by simpa using hfl)
            have e1 : (parts.toArray.map fun p => (p.1, ev f p.2)) = vs.toArray := by simp [hv]
            unfold sw
            rw [if_pos wanted_free]
            unfold opk
            have : (execOp (ev f) ⟨some d, .buildSlice T len parts.toArray, ty, pos, af, none⟩).run P w = .ok (.value (.slice (some ⟨w.heap.size, 0, none⟩) len len)) (w.alloc (.cells cs' e')) := by
              simp only [execOp]
              rw [e1]
              simp [hr]
            rw [this]
            exact kk _ _ (hw.alloc _)
        · cases h
      · cases h
    · cases h
  · cases h
theorem c_forget {n : Nat} {Q : Exit → (Nat → Value) → World → Prop} {y : Code} (h : ∀ F' : Addr → Value → Prop, More F F' → Knows F' E → cC P n y Q f (Has w0 F' L)) : cC P n y Q f (Has w0 F (E ++ L)) := fun w hw => by
  obtain ⟨h1, h2, h3⟩ := hw.forget
  exact h _ h2 h3 w h1
end
theorem cellsOf_flat (ps : List PayS) : CellsOf (flatC ps).toArray ps := fun j p hj k v hv => by simpa using flatC_get ps j p hj k v hv

/-! the house of 'queues': bank 0 has 9 and pays them to 1, who pays 4 of them to 2 -/
def qPays : List PayS := [⟨0, 1, 9, 0, 1, 1⟩, ⟨1, 2, 4, 0, 1, 0⟩]
def qHouse (pa : Option Addr) : H := { newM with has := up1 newM.has 0 9, next := 2, pa := pa, pl := 2, pc := 2 }
def qS0 : QS := ⟨(qHouse none).core, qPays, []⟩
theorem qSweep : sweepM (qHouse none).core qPays = (qS0.go 0).go 1 := by
  have g : goodB (qHouse none).core qPays = true := by kernel_rfl
  simp only [sweepM, g, cond_true]
  have a1 : firstM qS0.c qS0.ps ((0 : Nat) : Int) = some 0 := by kernel_rfl
  have a2 : firstM (qS0.go 0).c (qS0.go 0).ps ((0 : Nat) : Int) = none := by kernel_rfl
  have a3 : firstM (qS0.go 0).c (qS0.go 0).ps ((1 : Nat) : Int) = some 1 := by kernel_rfl
  have b0 : firstM ((qS0.go 0).go 1).c ((qS0.go 0).go 1).ps ((0 : Nat) : Int) = none := by kernel_rfl
  have b1 : firstM ((qS0.go 0).go 1).c ((qS0.go 0).go 1).ps ((1 : Nat) : Int) = none := by kernel_rfl
  have b2 : firstM ((qS0.go 0).go 1).c ((qS0.go 0).go 1).ps ((2 : Nat) : Int) = none := by kernel_rfl
  have b3 : firstM ((qS0.go 0).go 1).c ((qS0.go 0).go 1).ps ((3 : Nat) : Int) = none := by kernel_rfl
  have d1 : drain ((0 : Nat) : Int) qS0 = qS0.go 0 := (drain_go a1).trans (drain_end a2)
  have d2 : drain ((1 : Nat) : Int) (qS0.go 0) = (qS0.go 0).go 1 := (drain_go a3).trans (drain_end b1)
  show sweepFrom 0 0 qS0 = _
  rw [sweep_busy (by decide) d1 (by decide), sweep_busy (by decide) d2 (by decide), sweep_idle (by decide) (drain_end b2) rfl, sweep_idle (by decide) (drain_end b3) rfl, sweep_idle (by decide) (drain_end b0) rfl, sweep_idle (by decide) (drain_end b1) rfl, sweep_end (by decide)]
theorem qSweep_len : (sweepM (qHouse none).core qPays).xs.length = 2 := by rw [qSweep]; rfl
theorem qSweep_has : (sweepM (qHouse none).core qPays).c.has 1 = 5 := by rw [qSweep]; kernel_rfl
theorem qSweep_rest : queueM (sweepM (qHouse none).core qPays).ps 0 = [] := by rw [qSweep]; kernel_rfl
end Go.Proofs.Ytbgnmapmiobjcaa
