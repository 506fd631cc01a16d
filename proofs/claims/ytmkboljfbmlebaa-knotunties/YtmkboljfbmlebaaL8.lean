/- KnotUnties returns true for every house, and leaves its arguments as they were. No condition. -/
import Derived.Test.YtmkboljfbmlebaaPL812
import Derived.Test.YtmkboljfbmlebaaRows
import Derived.WalkKit
import Derived.ProofKit
import Derived.OpenShut
import Derived.ChangeOld
import Derived.Below
import Derived.SizedLaws
namespace Go.Proofs.Ytmkboljfbmlebaa
open Go.ChangeShapes Go.WideShapes Go.ChangeAt Go.RowKit
set_option linter.unusedSimpArgs false
set_option linter.unusedVariables false

theorem Try.own : ownKnob Try.prog.godebug = none := by kernel_rfl
theorem Try.laidOut : laidOutB Try.prog = true := by kernel_rfl
theorem agg_of_cells {v : Value} {cs : Array Value} (h : v.cells = cs) (hs : cs.size ≠ 1) : v = .agg cs := by
  cases v <;> first
    | (simp only [Value.cells] at h; rw [h])
    | (exfalso; simp only [Value.cells] at h; subst h; exact hs rfl)

set_option maxRecDepth 100000 in
theorem knotUnties_lifted (os : Os) (started : os.Started) (Hh : Type) (enc : TypeId × Value → Hh) :
    ReturnsInHanded {} Try.checked os 10 .any (Rows.knotUntiesSpec.pre6 enc Try.prog Try.f10 Rows.knotUntiesRow.domain false) (Rows.knotUntiesSpec.post enc Try.prog Try.f10 false true false false) := by
  refine returnsInHanded_of_change_sized (C := Try.checked) Try.own started (by kernel_rfl) Try.func10
    (ChangeSpec.witness6 (enc := enc) (C := Try.checked) false ⟨#[], #[.agg zeroH.cells], []⟩ 8 (by kernel_rfl) (by kernel_rfl) (by kernel_rfl) (by kernel_rfl)) ?_
  intro W base args ds gs before hval0 hW hcnd hsz0 _
  have hval : ∀ (j : Nat) t v, Try.f10.params[j]? = some t → args[j]? = some v → Value.okWide Try.prog W .any base t v := hval0
  have hW' := hW
  obtain ⟨p, q, hA0, hV, rfl, hfz, hnd⟩ := hW
  have hA : DataW.TrodAll enc Try.prog W 0 (fun _ => true) true Try.f10.params.toList args.toList ds p := hA0
  have hsz : (DataW.weightsEach Try.prog (Try.f10.params.toList ++ Rows.knotUntiesSpec.plain.varTypes Try.prog) (ds ++ gs)).all (· ≤ reachBytes) = true := hsz0
  clear hsz0
  rw [Try.params10] at hA hval hsz
  obtain ⟨v0, vs0, d0, ds0, p0, q0, hargs, rfl, rfl, h0, r0⟩ := trodAll_cons hA
  obtain ⟨rfl, rfl, rfl⟩ := trodAll_nil r0
  obtain rfl : args = #[v0] := by cases args; simp_all
  obtain ⟨rfl, rfl⟩ := trodVars_none hV
  have k0 := h0
  have lt0 : ∀ x ∈ p0, x.block < W.heap.size := by obtain ⟨m, hm⟩ := k0; exact DataW.trod_lt m _ _ _ hm
  obtain ⟨hh0, ps0, hp0, hc0, hwt0, rfl⟩ : ∃ (h : H) (ps : List PayS), PaysIn (At W) h.pa h.pl ps ∧ h.pl ≤ h.pc ∧ (h.pl = 0 ∨ ∃ m ∈ DataW.weights Try.prog 29 d0, h.pl * 48 ≤ m) ∧ v0 = .agg h.cells := by
    obtain ⟨fuel, hf⟩ := h0
    obtain ⟨h, ps, e1, e2, e3, _, e4⟩ := open_house (by kernel_rfl) hf
    exact ⟨h, ps, e2, e3, e4, agg_of_cells (by simpa using e1) (by rw [H.size]; omega)⟩
  have hb0 : hh0.pl * 48 ≤ 281474976710656 := by
    rcases hwt0 with e | ⟨m, hm, hle⟩
    · rw [e]; omega
    · have := List.all_eq_true.1 hsz m (DataW.weights_mem_each (j := 0) (t := 29) rfl rfl m hm)
      have h2 : m ≤ reachBytes := by simpa using this
      have h3 := reachBytes_lt
      omega
  clear hA0 hval0
  refine (law_KnotUnties hh0 ps0 W hp0 hb0 hc0).out.mono fun e W' ⟨he, bel0⟩ => ?_
  have bel := bel0.toBelow
  subst he
  exact ⟨_, rfl, _, _, _, [], _, [], hW', trodAll_mk1 (shut_bool Try.underlying4 _), (trodAll_cons_mk (Below.trod Try.laidOut (by kernel_rfl) (of_decide_eq_true (by kernel_rfl)) k0 bel lt0) trodAll_mk0), rfl, bel.frame _, fun h => by cases h⟩

/-- The statement. -/
theorem knotUnties_holds : Rows.KnotUntiesSaid :=
  OpenClaim.holds_of_wide 10 Try.f10 rfl rfl rfl rfl rfl rfl rfl ⟨rfl, rfl, rfl, rfl, rfl⟩ rfl rfl rfl rfl rfl (by kernel_rfl) Try.func10 (by kernel_rfl)
    (of_decide_eq_true (by kernel_rfl)) (by unfold Func.isWrapper; first | (rw [if_pos (by decide +kernel)]; kernel_rfl) | (rw [if_neg (by decide +kernel)]; exact ⟨rfl, rfl⟩))
    (fun os started Hh enc _ => knotUnties_lifted os started Hh enc)
#print axioms knotUnties_holds
end Go.Proofs.Ytmkboljfbmlebaa
