/- KnotJoins returns true for every house and numbers, and leaves its arguments as they were. No condition. -/
import Derived.Test.YtmkboljfbmlebaaPL712
import Derived.Test.YtmkboljfbmlebaaRows
import Derived.WalkKit
import Derived.ProofKit
import Derived.OpenShut
import Derived.ChangeOld
import Derived.Below
import Derived.SizedLaws
namespace Go.Proofs.Ytmkboljfbmlebaa
open Go.ChangeShapes Go.WideShapes Go.ChangeAt Go.RowKit
set_option linter.unusedSimpArgs false
set_option linter.unusedVariables false

theorem Try.own : ownKnob Try.prog.godebug = none := by kernel_rfl
theorem Try.laidOut : laidOutB Try.prog = true := by kernel_rfl
theorem agg_of_cells {v : Value} {cs : Array Value} (h : v.cells = cs) (hs : cs.size ≠ 1) : v = .agg cs := by
  cases v <;> first
    | (simp only [Value.cells] at h; rw [h])
    | (exfalso; simp only [Value.cells] at h; subst h; exact hs rfl)

set_option maxRecDepth 100000 in
theorem knotJoins_lifted (os : Os) (started : os.Started) (Hh : Type) (enc : TypeId × Value → Hh) :
    ReturnsInHanded {} Try.checked os 9 .any (Rows.knotJoinsSpec.pre6 enc Try.prog Try.f9 Rows.knotJoinsRow.domain false) (Rows.knotJoinsSpec.post enc Try.prog Try.f9 false true false false) := by
  refine returnsInHanded_of_change_sized (C := Try.checked) Try.own started (by kernel_rfl) Try.func9
    (ChangeSpec.witness6 (enc := enc) (C := Try.checked) false ⟨#[], #[.agg zeroH.cells, .agg (rowA fun _ => 0), .agg (rowA fun _ => 0)], []⟩ 8 (by kernel_rfl) (by kernel_rfl) (by kernel_rfl) (by kernel_rfl)) ?_
  intro W base args ds gs before hval0 hW hcnd hsz0 _
  have hval : ∀ (j : Nat) t v, Try.f9.params[j]? = some t → args[j]? = some v → Value.okWide Try.prog W .any base t v := hval0
  have hW' := hW
  obtain ⟨p, q, hA0, hV, rfl, hfz, hnd⟩ := hW
  have hA : DataW.TrodAll enc Try.prog W 0 (fun _ => true) true Try.f9.params.toList args.toList ds p := hA0
  have hsz : (DataW.weightsEach Try.prog (Try.f9.params.toList ++ Rows.knotJoinsSpec.plain.varTypes Try.prog) (ds ++ gs)).all (· ≤ reachBytes) = true := hsz0
  clear hsz0
  rw [Try.params9] at hA hval hsz
  obtain ⟨v0, vs0, d0, ds0, p0, q0, hargs, rfl, rfl, h0, r0⟩ := trodAll_cons hA
  obtain ⟨v1, vs1, d1, ds1, p1, q1, rfl, rfl, rfl, h1, r1⟩ := trodAll_cons r0
  obtain ⟨v2, vs2, d2, ds2, p2, q2, rfl, rfl, rfl, h2, r2⟩ := trodAll_cons r1
  obtain ⟨rfl, rfl, rfl⟩ := trodAll_nil r2
  obtain rfl : args = #[v0, v1, v2] := by cases args; simp_all
  obtain ⟨rfl, rfl⟩ := trodVars_none hV
  have k0 := h0
  have lt0 : ∀ x ∈ p0, x.block < W.heap.size := by obtain ⟨m, hm⟩ := k0; exact DataW.trod_lt m _ _ _ hm
  obtain ⟨hh0, ps0, hp0, hc0, hwt0, rfl⟩ : ∃ (h : H) (ps : List PayS), PaysIn (At W) h.pa h.pl ps ∧ h.pl ≤ h.pc ∧ (h.pl = 0 ∨ ∃ m ∈ DataW.weights Try.prog 29 d0, h.pl * 48 ≤ m) ∧ v0 = .agg h.cells := by
    obtain ⟨fuel, hf⟩ := h0
    obtain ⟨h, ps, e1, e2, e3, _, e4⟩ := open_house (by kernel_rfl) hf
    exact ⟨h, ps, e2, e3, e4, agg_of_cells (by simpa using e1) (by rw [H.size]; omega)⟩
  have hb0 : hh0.pl * 48 ≤ 281474976710656 := by
    rcases hwt0 with e | ⟨m, hm, hle⟩
    · rw [e]; omega
    · have := List.all_eq_true.1 hsz m (DataW.weights_mem_each (j := 0) (t := 29) rfl rfl m hm)
      have h2 : m ≤ reachBytes := by simpa using this
      have h3 := reachBytes_lt
      omega
  have k1 := h1
  have lt1 : ∀ x ∈ p1, x.block < W.heap.size := by obtain ⟨m, hm⟩ := k1; exact DataW.trod_lt m _ _ _ hm
  obtain ⟨rr1, rfl⟩ : ∃ r : Int → Int, v1 = .agg (rowA r) := by
    obtain ⟨fuel, hf⟩ := h1
    obtain ⟨r, e1⟩ := open_row (by kernel_rfl) hf
    exact ⟨r, agg_of_cells (by simpa using e1) (by rw [rowA_size]; omega)⟩
  have k2 := h2
  have lt2 : ∀ x ∈ p2, x.block < W.heap.size := by obtain ⟨m, hm⟩ := k2; exact DataW.trod_lt m _ _ _ hm
  obtain ⟨rr2, rfl⟩ : ∃ r : Int → Int, v2 = .agg (rowA r) := by
    obtain ⟨fuel, hf⟩ := h2
    obtain ⟨r, e1⟩ := open_row (by kernel_rfl) hf
    exact ⟨r, agg_of_cells (by simpa using e1) (by rw [rowA_size]; omega)⟩
  clear hA0 hval0
  refine (law_KnotJoins hh0 ps0 rr1 rr2 W hp0 hb0 hc0).out.mono fun e W' ⟨he, bel0⟩ => ?_
  have bel := bel0.toBelow
  subst he
  exact ⟨_, rfl, _, _, _, [], _, [], hW', trodAll_mk1 (shut_bool Try.underlying4 _), (trodAll_cons_mk (Below.trod Try.laidOut (by kernel_rfl) (of_decide_eq_true (by kernel_rfl)) k0 bel lt0) (trodAll_cons_mk (Below.trod Try.laidOut (by kernel_rfl) (of_decide_eq_true (by kernel_rfl)) k1 bel lt1) (trodAll_cons_mk (Below.trod Try.laidOut (by kernel_rfl) (of_decide_eq_true (by kernel_rfl)) k2 bel lt2) trodAll_mk0))), rfl, bel.frame _, fun h => by cases h⟩

/-- The statement. -/
theorem knotJoins_holds : Rows.KnotJoinsSaid :=
  OpenClaim.holds_of_wide 9 Try.f9 rfl rfl rfl rfl rfl rfl rfl ⟨rfl, rfl, rfl, rfl, rfl⟩ rfl rfl rfl rfl rfl (by kernel_rfl) Try.func9 (by kernel_rfl)
    (of_decide_eq_true (by kernel_rfl)) (by unfold Func.isWrapper; first | (rw [if_pos (by decide +kernel)]; kernel_rfl) | (rw [if_neg (by decide +kernel)]; exact ⟨rfl, rfl⟩))
    (fun os started Hh enc _ => knotJoins_lifted os started Hh enc)
#print axioms knotJoins_holds
end Go.Proofs.Ytmkboljfbmlebaa
