/- BankRuns returns true for every list of acts, and leaves its argument as it was. No condition. -/
import Derived.Test.YtmkboljfbmlebacGreatQ15
import Derived.Test.YtmkboljfbmlebacGreatQxW97
import Derived.Test.YtmkboljfbmlebacGreatRows
import Derived.WalkKit
import Derived.ProofKit
import Derived.OpenShut
import Derived.ChangeOld
import Derived.Below
import Derived.SizedLaws
namespace Go.Proofs.YtmkboljfbmlebacGreat
open Go.ChangeShapes Go.WideShapes Go.ChangeAt Go.RowKit
set_option linter.unusedSimpArgs false
set_option linter.unusedVariables false
theorem Tryz.own : ownKnob Tryz.prog.godebug = none := by kernel_rfl
theorem Tryz.laidOut : laidOutB Tryz.prog = true := by kernel_rfl
theorem agg_of_cells {v : Value} {cs : Array Value} (h : v.cells = cs) (hs : cs.size ≠ 1) : v = .agg cs := by
 cases v <;> first
   | (simp only [Value.cells] at h; rw [h])
   | (exfalso; simp only [Value.cells] at h; subst h; exact hs rfl)
set_option maxRecDepth 100000 in
theorem bankRuns_lifted (os : Os) (started : os.Started) (Hh : Type) (enc : TypeId × Value → Hh) :
   ReturnsInHanded {} Tryz.checked os 4 .any (Rows.bankRunsSpec.pre6 enc Tryz.prog Tryz.f4 Rows.bankRunsRow.domain false) (Rows.bankRunsSpec.post enc Tryz.prog Tryz.f4 false true false false) := by
 refine returnsInHanded_of_change_sized (C := Tryz.checked) Tryz.own started (by kernel_rfl) Tryz.func4
   (ChangeSpec.witness6 (enc := enc) (C := Tryz.checked) false ⟨#[], #[.slice none 0 0], []⟩ 8 (by kernel_rfl) (by kernel_rfl) (by kernel_rfl) (by kernel_rfl)) ?_
 intro W base args ds gs before hval0 hW hcnd hsz0 _
 have hval : ∀ (j : Nat) t v, Tryz.f4.params[j]? = some t → args[j]? = some v → Value.okWide Tryz.prog W .any base t v := hval0
 have hW' := hW
 obtain ⟨p, q, hA0, hV, rfl, hfz, hnd⟩ := hW
 have hA : DataW.TrodAll enc Tryz.prog W 0 (fun _ => true) true Tryz.f4.params.toList args.toList ds p := hA0
 have hsz : (DataW.weightsEach Tryz.prog (Tryz.f4.params.toList ++ Rows.bankRunsSpec.plain.varTypes Tryz.prog) (ds ++ gs)).all (· ≤ reachBytes) = true := hsz0
 clear hsz0
 rw [Tryz.params4] at hA hval hsz
 obtain ⟨v0, vs0, d0, ds0, p0, q0, hargs, rfl, rfl, h0, r0⟩ := trodAll_cons hA
 obtain ⟨rfl, rfl, rfl⟩ := trodAll_nil r0
 obtain rfl : args = #[v0] := by cases args; simp_all
 obtain ⟨rfl, rfl⟩ := trodVars_none hV
 have k0 := h0
 have lt0 : ∀ x ∈ p0, x.block < W.heap.size := by obtain ⟨m, hm⟩ := k0; exact DataW.trod_lt m _ _ _ hm
 obtain ⟨sa0, sl0, sc0, rfl⟩ := okWide_slice Tryz.underlying22 (hval 0 22 v0 rfl rfl)
 obtain ⟨xs0, hxs0, rfl, hxl0, hxc0, hwt0⟩ : ∃ xs : List ActS, ActsAt (At W) sa0 xs ∧ sl0 = xs.length ∧ xs.length ≤ maxLen ∧ xs.length ≤ sc0 ∧ (xs.length = 0 ∨ ∃ m ∈ DataW.weights Tryz.prog 22 d0, xs.length * 40 ≤ m) := by
   obtain ⟨fuel, hf⟩ := h0
   obtain ⟨a, c, xs, e1, e2, e3, e4, e5⟩ := open_actsW (by kernel_rfl) (by kernel_rfl) hf
   simp [Value.cells] at e1
   obtain ⟨rfl, rfl, rfl⟩ := e1
   exact ⟨xs, e2, rfl, by omega, by omega, e5⟩
 have hbx0 : xs0.length * 40 ≤ 140737488355328 := by
   rcases hwt0 with e | ⟨m, hm, hle⟩
   · rw [e]; omega
   · have := List.all_eq_true.1 hsz m (DataW.weights_mem_each (j := 0) (t := 22) rfl rfl m hm)
     have h2 : m ≤ reachBytes := by simpa using this
     have h3 := reachBytes_lt
     omega
 clear hA0 hval0
 refine (law_BankRuns theRuns theReplay sa0 sc0 xs0 W hxs0 (by have h1 := hxl0; simp only [maxLen] at h1; omega) hbx0).out.mono fun e W' ⟨he, bel0⟩ => ?_
 have bel := bel0.toBelow
 subst he
 exact ⟨_, rfl, _, _, _, [], _, [], hW', trodAll_mk1 (shut_bool Tryz.underlying4 _), (trodAll_cons_mk (Below.trod Tryz.laidOut (by kernel_rfl) (dK (by kernel_rfl)) k0 bel lt0) trodAll_mk0), rfl, bel.frame _, fun h => by cases h⟩
theorem bankRuns_holds : Rows.BankRunsSaid :=
  OpenClaim.holds_of_wide 4 Tryz.f4 rfl rfl rfl rfl rfl rfl rfl ⟨rfl, rfl, rfl, rfl, rfl⟩ rfl rfl rfl rfl rfl (by kernel_rfl) Tryz.func4 (by kernel_rfl)
    (dK (by kernel_rfl)) (by unfold Func.isWrapper; first | (rw [if_pos (by decide +kernel)]; kernel_rfl) | (rw [if_neg (by decide +kernel)]; exact ⟨rfl, rfl⟩))
    (fun os started Hh enc _ => bankRuns_lifted os started Hh enc)
#print axioms bankRuns_holds
end Go.Proofs.YtmkboljfbmlebacGreat
