/- What knotTells_holds stands on, part 14: each part says what it proves. No condition beside those that it names. -/
import Derived.Test.YtmkboljfbmlebaaPL513
/- The law KnotTells. Condition: the payments lie in memory that is known. -/
namespace Go.Proofs.Ytmkboljfbmlebaa
open Go.RowKit
set_option linter.unusedSimpArgs false
set_option linter.unusedVariables false
set_option maxRecDepth 100000
attribute [local irreducible] cC sC nC rC qw

set_option maxHeartbeats 1000000 in
theorem law_KnotTells (h : H) (ps : List PayS) (n : Int → Int) (w : World) (hp : PaysIn (At w) h.pa h.pl ps) (hb : h.pl * 48 ≤ 281474976710656) (hlc : h.pl ≤ h.pc) : Gives Try.prog 7 [.agg h.cells, .agg (rowA n)] w (.bool true) := by
  refine gives_of Try.func7 rfl Try.ntmps7 (by simp) ?_
  refine r_seq (by kernel_rfl) ?_
  refine s_box (v := .agg _) rfl (fun b2 => ?_)
  refine s_box (v := .agg _) rfl (fun b3 => ?_)
  refine s_val (v_assign (v := .bool _) rfl) ?_
  refine s_nil ?_
  refine r_seq (by kernel_rfl) ?_
  refine s_val (v_loadA (m := 42) (by kernel_rfl) rfl (.there .here) (H.size _)) ?_
  refine s_callF (by kernel_rfl) (fun w hw => gr_CopyHouseE h ps w (hp.at hw) hb hlc) (fun F11 v11 E11 hF11 hK11 hR11 => ?_)
  obtain ⟨pa1, pc1, rfl, hpe⟩ := hR11
  have hp1 := hpe.known hK11
  have hlc1 := hpe.2.1
  have hph := hp.mono hF11
  refine s_alloc (z := .agg zeroH.cells) (by kernel_rfl) (fun b5 => ?_)
  refine s_storeA (m := 42) (by kernel_rfl) rfl rfl .here (H.size _) (H.size _) (H.all1 _) ?_
  refine s_nil ?_
  refine r_seq (by kernel_rfl) ?_
  refine s_val (v_loadA (m := 42) (by kernel_rfl) rfl .here (H.size _)) ?_
  refine s_callG (by kernel_rfl) (sweepF_mono _ _ _) (fun w hw => g_Untie ({ h with pa := pa1, pc := pc1 } : H) ps w (hp1.at hw) hb hlc1) (fun F14 v14 hF14 hR14 => ?_)
  obtain ⟨v1, v2, rfl, ⟨h14, rfl, hc14, hl14, ho14⟩, hi14⟩ := hR14
  obtain ⟨a14, c14, rfl, ia14⟩ := hi14.at
  refine s_val (v_move (v := .tuple _) rfl) ?_
  refine s_val (v_extract rfl rfl) ?_
  refine s_val (v_extract rfl rfl) ?_
  refine s_alloc (z := .agg zeroH.cells) (by kernel_rfl) (fun b6 => ?_)
  refine s_storeA (m := 42) (by kernel_rfl) rfl rfl .here (H.size _) (H.size _) (H.all1 _) ?_
  refine s_val (v_assign (v := .slice _ _ _) rfl) ?_
  refine s_nil ?_
  refine r_seq (by kernel_rfl) ?_
  refine s_val (v_loadA (m := 42) (by kernel_rfl) rfl (.there (.there (.there .here))) (H.size _)) ?_
  refine s_callG (by kernel_rfl) (sweepF_mono _ _ _) (fun w hw => gr_UntieHouse h ps w ((hph.mono hF14).at hw) hb hlc) (fun F19 v19 hF19 hR19 => ?_)
  obtain ⟨v1, v2, rfl, ⟨h19, rfl, hc19, hl19, ho19⟩, hi19⟩ := hR19
  obtain ⟨a19, c19, rfl, ia19⟩ := hi19.at
  refine s_val (v_move (v := .tuple _) rfl) ?_
  refine s_val (v_extract rfl rfl) ?_
  refine s_val (v_extract rfl rfl) ?_
  refine s_alloc (z := .agg zeroH.cells) (by kernel_rfl) (fun b8 => ?_)
  refine s_storeA (m := 42) (by kernel_rfl) rfl rfl .here (H.size _) (H.size _) (H.all1 _) ?_
  refine s_val (v_assign (v := .slice _ _ _) rfl) ?_
  refine s_nil ?_
  have p14 := (outPays (F' := F14) hp1 hF14 (more_young _ _) ho14).mono hF19
  have p19 := outPays (F' := F19) (hph.mono hF14) hF19 (more_young _ _) ho19
  refine d_seq (by kernel_rfl) (by kernel_rfl) (fun w hw => hw.drew) (by kernel_rfl) ?_
  refine q_val (v_loadA (m := 42) (by kernel_rfl) rfl (.there (.there .here)) (H.size _)) ?_
  refine q_val (v_loadA (m := 4) (by kernel_rfl) rfl (.there (.there (.there .here))) (rowA_size _)) ?_
  refine q_call (by kernel_rfl) (fun w hw => g_Together ({ h with pa := pa1, pc := pc1 } : H) ps n w (((hp1.mono hF14).mono hF19).at hw) hb hlc1) ?_
  refine q_val (v_loadA (m := 42) (by kernel_rfl) rfl (.there (.there (.there (.there .here)))) (H.size _)) ?_
  refine q_val (v_loadA (m := 4) (by kernel_rfl) rfl (.there (.there (.there .here))) (rowA_size _)) ?_
  refine q_call (by kernel_rfl) (fun w hw => gr_AllTogether h ps n w (((hph.mono hF14).mono hF19).at hw) hb hlc) ?_
  refine q_val (v_eqlB (by kernel_rfl) rfl rfl) ?_
  refine q_val (v_move (v := .bool _) rfl) ?_
  refine q_want rfl rfl (beq_iff_eq.2 ((together_core ({ h with pa := pa1, pc := pc1 } : H) ps n).symm.trans (together_core h ps n))) ?_
  refine q_val (v_loadA (m := 42) (by kernel_rfl) rfl (.there (.there .here)) (H.size _)) ?_
  refine q_want rfl rfl (beq_iff_eq.2 ((together_core ({ h with pa := pa1, pc := pc1 } : H) ps n).symm.trans (together_core h ps n))) ?_
  refine q_call (by kernel_rfl) (fun w hw => g_Most ({ h with pa := pa1, pc := pc1 } : H) ps w (((hp1.mono hF14).mono hF19).at hw) hb hlc1) ?_
  refine q_want rfl rfl (beq_iff_eq.2 ((together_core ({ h with pa := pa1, pc := pc1 } : H) ps n).symm.trans (together_core h ps n))) ?_
  refine q_val (v_loadA (m := 42) (by kernel_rfl) rfl (.there (.there (.there (.there .here)))) (H.size _)) ?_
  refine q_want rfl rfl (beq_iff_eq.2 ((together_core ({ h with pa := pa1, pc := pc1 } : H) ps n).symm.trans (together_core h ps n))) ?_
  refine q_call (by kernel_rfl) (fun w hw => gr_MostOf h ps w (((hph.mono hF14).mono hF19).at hw) hb hlc) ?_
  refine q_want rfl rfl (beq_iff_eq.2 ((together_core ({ h with pa := pa1, pc := pc1 } : H) ps n).symm.trans (together_core h ps n))) ?_
  refine q_val (v_eqFlat (n := 4) _ _ (by kernel_rfl) rfl rfl (rowA_list _) (rowA_list _) rfl rfl) ?_
  refine q_val (v_pickT (v := .bool _) rfl (beq_iff_eq.2 ((together_core ({ h with pa := pa1, pc := pc1 } : H) ps n).symm.trans (together_core h ps n))) rfl) ?_
  refine q_val (v_move (v := .bool _) rfl) ?_
  refine q_want rfl rfl (decide_eq_true rfl) ?_
  refine q_val (v_loadA (m := 42) (by kernel_rfl) rfl (.there .here) (H.size _)) ?_
  refine q_want rfl rfl (decide_eq_true rfl) ?_
  refine q_val (v_loadA (m := 42) (by kernel_rfl) rfl .here (H.size _)) ?_
  refine q_want rfl rfl (decide_eq_true rfl) ?_
  refine q_call (by kernel_rfl) (fun w hw => gr_SameHouse h14 (untieM h.core ps).ps h19 (untieM h.core ps).ps w (p14.at hw) (p19.at hw) (by rw [← p14.1, untie_len, hp.1]; omega)) ?_
  refine q_val (v_pickT (v := .bool _) rfl (decide_eq_true rfl) rfl) ?_
  refine q_val (v_move (v := .bool _) rfl) ?_
  refine q_want rfl rfl (same_core (hc14.trans hc19.symm) (by rw [← p14.1, ← p19.1]; rfl)) ?_
  refine q_val (v_move (v := .slice _ _ _) rfl) ?_
  refine q_want rfl rfl (same_core (hc14.trans hc19.symm) (by rw [← p14.1, ← p19.1]; rfl)) ?_
  refine q_val (v_move (v := .slice _ _ _) rfl) ?_
  refine q_want rfl rfl (same_core (hc14.trans hc19.symm) (by rw [← p14.1, ← p19.1]; rfl)) ?_
  refine q_call (by kernel_rfl) (fun w hw => gr_SameInts a14 a19 _ _ (untieM h.core ps).xs (untieM h.core ps).xs w (((ia14.mono (more_young _ _)).mono hF19).at hw) ((ia19.mono (more_young _ _)).at hw) (by have := untie_xs_len (h := h.core) (ps := ps); have := hp.1; omega)) ?_
  refine q_val (v_pickT (v := .bool _) rfl (same_core (hc14.trans hc19.symm) (by rw [← p14.1, ← p19.1]; rfl)) rfl) ?_
  refine q_val (v_move (v := .bool _) rfl) ?_
  refine q_want rfl rfl (decide_eq_true rfl) ?_
  refine q_val (v_loadA (m := 42) (by kernel_rfl) rfl (.there (.there .here)) (H.size _)) ?_
  refine q_want rfl rfl (decide_eq_true rfl) ?_
  refine q_val (v_loadA (m := 42) (by kernel_rfl) rfl (.there (.there (.there (.there .here)))) (H.size _)) ?_
  refine q_want rfl rfl (decide_eq_true rfl) ?_
  refine q_call (by kernel_rfl) (fun w hw => gr_SameHouse ({ h with pa := pa1, pc := pc1 } : H) ps h ps w (((hp1.mono hF14).mono hF19).at hw) (((hph.mono hF14).mono hF19).at hw) (by show h.pl ≤ _; omega)) ?_
  refine q_val (v_pickT (v := .bool _) rfl (decide_eq_true rfl) rfl) ?_
  refine q_val (v_move (v := .bool _) rfl) ?_
  refine q_want rfl rfl (same_core (h := ({ h with pa := pa1, pc := pc1 } : H)) (k := h) rfl rfl) ?_
  refine q_call (by kernel_rfl) (fun w hw => gl_knots w) ?_
  refine q_val (v_pickT (v := .bool _) rfl (same_core (h := ({ h with pa := pa1, pc := pc1 } : H)) (k := h) rfl rfl) rfl) ?_
  refine q_val (v_assign (v := .bool _) rfl) ?_
  refine q_nil ?_
  refine c_ret ?_
  refine n_done rfl (by decide) (Eq.trans (b := .bool _) rfl (congrArg Value.bool ?_))
  rfl

end Go.Proofs.Ytmkboljfbmlebaa
/- Rows of numbers that come in as arguments. No condition. -/
namespace Go.Proofs.Ytmkboljfbmlebaa
open Go.RowKit
set_option linter.unusedSimpArgs false
set_option linter.unusedVariables false

section
variable {Hh : Type} {enc : TypeId × Value → Hh} {P : Program} {w : World} {base : Nat} {spare : Nat → Bool} {held : Bool}
theorem open_row {T : TypeId} (hB : flatB P 4 T 4 = true) {fuel : Nat} {cs : List Value} {x : DataW Hh × List MemPlace} (hx : DataW.trod enc P w base spare held fuel T cs = some x) : ∃ r : Int → Int, cs.toArray = rowA r := by
  obtain ⟨hl, hI⟩ := read_flat 4 T 4 hB _ _ _ hx
  match cs, hl with
  | [c0, c1, c2, c3], _ =>
    refine ⟨fun i => intV ([c0, c1, c2, c3].getD i.toNat undef), ?_⟩
    have e0 := intV_of (hI c0 (by simp))
    have e1 := intV_of (hI c1 (by simp))
    have e2 := intV_of (hI c2 (by simp))
    have e3 := intV_of (hI c3 (by simp))
    have : rowA (fun i => intV ([c0, c1, c2, c3].getD i.toNat undef)) = #[I (intV c0), I (intV c1), I (intV c2), I (intV c3)] := rfl
    rw [this, e0, e1, e2, e3]
end
end Go.Proofs.Ytmkboljfbmlebaa
