/- TopEnds returns true for every input, and leaves its arguments as they were. No condition. -/
import Derived.Test.YtmkboljfbmlebacQ12
import Derived.Test.YtmkboljfbmlebacRows
import Derived.WalkKit
import Derived.ProofKit
import Derived.OpenShut
import Derived.ChangeOld
import Derived.Below
import Derived.SizedLaws
namespace Go.Proofs.Ytmkboljfbmlebac
open Go.ChangeShapes Go.WideShapes Go.ChangeAt Go.RowKit
set_option linter.unusedSimpArgs false
set_option linter.unusedVariables false
theorem Try.own : ownKnob Try.prog.godebug = none := by kernel_rfl
theorem Try.laidOut : laidOutB Try.prog = true := by kernel_rfl
theorem agg_of_cells {v : Value} {cs : Array Value} (h : v.cells = cs) (hs : cs.size ≠ 1) : v = .agg cs := by
 cases v <;> first
   | (simp only [Value.cells] at h; rw [h])
   | (exfalso; simp only [Value.cells] at h; subst h; exact hs rfl)
set_option maxRecDepth 100000 in
theorem topEnds_lifted (os : Os) (started : os.Started) (Hh : Type) (enc : TypeId × Value → Hh) :
   ReturnsInHanded {} Try.checked os 3 .any (Rows.topEndsSpec.pre6 enc Try.prog Try.f3 Rows.topEndsRow.domain false) (Rows.topEndsSpec.post enc Try.prog Try.f3 false true false false) := by
 refine returnsInHanded_of_change (C := Try.checked) Try.own started (by kernel_rfl) Try.func3
   (ChangeSpec.witness6 (enc := enc) (C := Try.checked) false ⟨#[], #[.slice none 0 0, .agg (ActS.cells ⟨0, 0, 0, 0, 0⟩)], []⟩ 8 (by kernel_rfl) (by kernel_rfl) (by kernel_rfl) (by kernel_rfl)) ?_
 intro W base args ds gs before hval0 hW hcnd  _
 have hval : ∀ (j : Nat) t v, Try.f3.params[j]? = some t → args[j]? = some v → Value.okWide Try.prog W .any base t v := hval0
 have hW' := hW
 obtain ⟨p, q, hA0, hV, rfl, hfz, hnd⟩ := hW
 have hA : DataW.TrodAll enc Try.prog W 0 (fun _ => true) true Try.f3.params.toList args.toList ds p := hA0
 rw [Try.params3] at hA hval
 obtain ⟨v0, vs0, d0, ds0, p0, q0, hargs, rfl, rfl, h0, r0⟩ := trodAll_cons hA
 obtain ⟨v1, vs1, d1, ds1, p1, q1, rfl, rfl, rfl, h1, r1⟩ := trodAll_cons r0
 obtain ⟨rfl, rfl, rfl⟩ := trodAll_nil r1
 obtain rfl : args = #[v0, v1] := by cases args; simp_all
 obtain ⟨rfl, rfl⟩ := trodVars_none hV
 have k0 := h0
 have lt0 : ∀ x ∈ p0, x.block < W.heap.size := by obtain ⟨m, hm⟩ := k0; exact DataW.trod_lt m _ _ _ hm
 obtain ⟨sa0, sl0, sc0, rfl⟩ := okWide_slice Try.underlying22 (hval 0 22 v0 rfl rfl)
 obtain ⟨xs0, hxs0, rfl, hxl0, hxc0⟩ : ∃ xs : List ActS, ActsAt (At W) sa0 xs ∧ sl0 = xs.length ∧ xs.length ≤ maxLen ∧ xs.length ≤ sc0 := by
   obtain ⟨fuel, hf⟩ := h0
   obtain ⟨a, c, xs, e1, e2, e3, e4⟩ := open_acts (by kernel_rfl) hf
   simp [Value.cells] at e1
   obtain ⟨rfl, rfl, rfl⟩ := e1
   exact ⟨xs, e2, rfl, by omega, by omega⟩
 have k1 := h1
 have lt1 : ∀ x ∈ p1, x.block < W.heap.size := by obtain ⟨m, hm⟩ := k1; exact DataW.trod_lt m _ _ _ hm
 obtain ⟨aa1, rfl⟩ : ∃ a : ActS, v1 = .agg a.cells := by
   obtain ⟨fuel, hf⟩ := h1
   obtain ⟨a, e1⟩ := open_act (by kernel_rfl) hf
   exact ⟨a, agg_of_cells (by simpa using e1) (by rw [ActS.size]; omega)⟩
 clear hA0 hval0
 refine (law_TopEnds theBank sa0 sc0 xs0 aa1 W hxs0 (by have h1 := hxl0; simp only [maxLen] at h1; omega)).out.mono fun e W' ⟨he, bel0⟩ => ?_
 have bel := bel0.toBelow
 subst he
 exact ⟨_, rfl, _, _, _, [], _, [], hW', trodAll_mk1 (shut_bool Try.underlying4 _), (trodAll_cons_mk (Below.trod Try.laidOut (by kernel_rfl) (of_decide_eq_true (by kernel_rfl)) k0 bel lt0) (trodAll_cons_mk (Below.trod Try.laidOut (by kernel_rfl) (of_decide_eq_true (by kernel_rfl)) k1 bel lt1) trodAll_mk0)), rfl, bel.frame _, fun h => by cases h⟩
theorem topEnds_holds : Rows.TopEndsSaid :=
  OpenClaim.holds_of_wide 3 Try.f3 rfl rfl rfl rfl rfl rfl rfl ⟨rfl, rfl, rfl, rfl, rfl⟩ rfl rfl rfl rfl rfl (by kernel_rfl) Try.func3 (by kernel_rfl)
    (of_decide_eq_true (by kernel_rfl)) (by unfold Func.isWrapper; first | (rw [if_pos (by decide +kernel)]; kernel_rfl) | (rw [if_neg (by decide +kernel)]; exact ⟨rfl, rfl⟩))
    (fun os started Hh enc _ => topEnds_lifted os started Hh enc)
#print axioms topEnds_holds
end Go.Proofs.Ytmkboljfbmlebac
