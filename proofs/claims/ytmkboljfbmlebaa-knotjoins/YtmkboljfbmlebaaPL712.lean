/- What knotJoins_holds stands on, part 12: each part says what it proves. No condition beside those that it names. -/
import Derived.Test.YtmkboljfbmlebaaPL711
/- Contracts of knots. No condition. -/
namespace Go.Proofs.Ytmkboljfbmlebaa
open Go.RowKit
set_option linter.unusedSimpArgs false
set_option linter.unusedVariables false
set_option maxRecDepth 100000
attribute [local irreducible] cC sC nC rC qw

set_option maxHeartbeats 1000000 in
theorem gl_knots  (w : World) : Gives Try.prog 47 [] w (.bool true) := by
  refine gives_of Try.func47 rfl Try.ntmps47 (by simp) ?_
  refine r_seq (by kernel_rfl) ?_
  refine s_val (v_assign (v := .bool _) rfl) ?_
  refine s_nil ?_
  refine r_seq (by kernel_rfl) ?_
  refine s_call (by kernel_rfl) (fun w hw => g_New w) ?_
  refine s_alloc (z := .agg zeroH.cells) (by kernel_rfl) (fun b1 => ?_)
  refine s_storeA (m := 42) (by kernel_rfl) rfl rfl .here (H.size _) (H.size _) (H.all1 _) ?_
  refine s_nil ?_
  refine r_seq (by kernel_rfl) ?_
  refine s_val (v_field (fo := 41) (by kernel_rfl) rfl) ?_
  refine s_store1 (v := .int .i64 _) (by kernel_rfl) rfl rfl .here (H.set_next _) rfl ?_
  refine s_nil ?_
  refine r_seq (by kernel_rfl) ?_
  refine s_val (v_build (vs := [(1, .int .i64 _), (2, .int .i64 _), (4, .int .i64 _), (5, .int .i64 _)]) (cs := PayS.cells ⟨0, 1, 9, 0, 1, 1⟩) rfl (by kernel_rfl)) ?_
  refine s_val (v_build (vs := [(0, .int .i64 _), (1, .int .i64 _), (2, .int .i64 _), (4, .int .i64 _)]) (cs := PayS.cells ⟨1, 0, 9, 0, 1, 0⟩) rfl (by kernel_rfl)) ?_
  refine s_buildS (e := 36) (vs := [(0, .agg _), (1, .agg _)]) (cs := (flatC kPays).toArray) rfl (by kernel_rfl) (fun b8 => ?_)
  refine s_val (v_field (fo := 40) (by kernel_rfl) rfl) ?_
  refine s_store1 (v := .slice _ _ _) (by kernel_rfl) rfl rfl (.there .here) (H.set_pays _) rfl ?_
  refine s_nil ?_
  refine c_forget (E := [_]) (L := [_]) (fun F1 hF1 hK1 => ?_)
  have hpk : PaysIn F1 (some ⟨b8, 0, none⟩) 2 kPays := PaysE.known (pc := 2) ⟨rfl, by decide, .inr ⟨b8, _, _, rfl, rfl, rfl, cellsOf_flat _⟩⟩ hK1
  refine r_seq (by kernel_rfl) ?_
  refine s_val (v_loadA (m := 42) (by kernel_rfl) rfl .here (H.size _)) ?_
  refine s_callG (by kernel_rfl) (sweepF_mono _ _ _) (fun w hw => g_Untie (kHouse (some ⟨b8, 0, none⟩)) kPays w (hpk.at hw) (show 2 * 48 ≤ 281474976710656 by decide) (show 2 ≤ 2 by decide)) (fun F12 v12 hF12 hR12 => ?_)
  obtain ⟨v1, v2, rfl, ⟨h12, rfl, hc12, hl12, ho12⟩, hi12⟩ := hR12
  obtain ⟨a12, c12, rfl, ia12⟩ := hi12.at
  refine s_val (v_move (v := .tuple _) rfl) ?_
  refine s_val (v_extract rfl rfl) ?_
  refine s_val (v_extract rfl rfl) ?_
  refine s_alloc (z := .agg zeroH.cells) (by kernel_rfl) (fun b2 => ?_)
  refine s_storeA (m := 42) (by kernel_rfl) rfl rfl .here (H.size _) (H.size _) (H.all1 _) ?_
  refine s_val (v_assign (v := .slice _ _ _) rfl) ?_
  refine s_nil ?_
  obtain ⟨p, hpd, hsd⟩ := kDone
  have p12 := outPays (F' := F12) (h0 := kHouse (some ⟨b8, 0, none⟩)) hpk hF12 (more_young _ _) ho12
  have hpl : h12.pl = 2 := p12.1.symm.trans (untie_len _ _)
  obtain ⟨bp, op, hpa, hc⟩ := p12.some (k := 0) (by omega)
  refine r_seq (by kernel_rfl) ?_
  refine s_val (v_loadA (m := 42) (by kernel_rfl) rfl (.there .here) (H.size _)) ?_
  refine s_call (by kernel_rfl) (fun w hw => g_Most (kHouse (some ⟨b8, 0, none⟩)) kPays w ((hpk.mono hF12).at hw) (show 2 * 48 ≤ 281474976710656 by decide) (show 2 ≤ 2 by decide)) ?_
  refine s_val (v_build (vs := [(0, .int .i64 _), (1, .int .i64 _)]) (cs := rowA kBest) rfl (by kernel_rfl)) ?_
  refine s_val (v_eqFlat (n := 4) _ _ (by kernel_rfl) rfl rfl (rowA_list _) (rowA_list _) rfl rfl) ?_
  refine s_val (v_move (v := .bool _) rfl) ?_
  refine s_want rfl rfl (decide_eq_true kRow) ?_
  refine s_val (v_move (v := .slice _ _ _) rfl) ?_
  refine s_want rfl rfl (decide_eq_true kRow) ?_
  refine s_val (v_lenS (T := 43) (m := 1) (by kernel_rfl) rfl rfl) ?_
  refine s_want rfl rfl (decide_eq_true kRow) ?_
  refine s_val (v_eql (k := .i64) rfl rfl) ?_
  refine s_val (v_pickT (v := .bool _) rfl (decide_eq_true kRow) rfl) ?_
  refine s_val (v_move (v := .bool _) rfl) ?_
  refine s_want rfl rfl (decide_eq_true kLen) ?_
  refine s_val (v_field (fo := 40) (by kernel_rfl) rfl) ?_
  refine s_want rfl rfl (decide_eq_true kLen) ?_
  refine s_val (v_load1 (v := .slice _ _ _) (by kernel_rfl) rfl .here (H.at_pays _)) ?_
  refine s_want rfl rfl (decide_eq_true kLen) ?_
  refine s_val (v_idxS (size := 6) (k := .i64) (by kernel_rfl) (congrArg (fun a => Value.slice a h12.pl h12.pc) hpa) rfl ⟨by decide, by rw [hpl]; decide⟩) ?_
  refine s_want rfl rfl (decide_eq_true kLen) ?_
  refine s_val (v_field (fo := 4) (by kernel_rfl) rfl) ?_
  refine s_want rfl rfl (decide_eq_true kLen) ?_
  refine s_val (v_load1o (v := I p.sta) (by kernel_rfl) rfl (by simpa using hc 0 p hpd 4 (I p.sta) rfl)) ?_
  refine s_want rfl rfl (decide_eq_true kLen) ?_
  refine s_val (v_eql (k := .i64) rfl rfl) ?_
  refine s_val (v_pickT (v := .bool _) rfl (decide_eq_true kLen) rfl) ?_
  refine s_val (v_assign (v := .bool _) rfl) ?_
  refine s_nil ?_
  refine c_ret ?_
  refine n_done rfl (by decide) (Eq.trans (b := .bool _) rfl (congrArg Value.bool ?_))
  exact decide_eq_true hsd

set_option maxHeartbeats 1000000 in
theorem gk_knots  (w : World) : Gives Try.prog 48 [] w (.bool true) := by
  refine gives_of Try.func48 rfl Try.ntmps48 (by simp) ?_
  refine r_seq (by kernel_rfl) ?_
  refine s_val (v_assign (v := .bool _) rfl) ?_
  refine s_nil ?_
  refine r_seq (by kernel_rfl) ?_
  refine s_call (by kernel_rfl) (fun w hw => g_New w) ?_
  refine s_alloc (z := .agg zeroH.cells) (by kernel_rfl) (fun b1 => ?_)
  refine s_storeA (m := 42) (by kernel_rfl) rfl rfl .here (H.size _) (H.size _) (H.all1 _) ?_
  refine s_nil ?_
  refine r_seq (by kernel_rfl) ?_
  refine s_val (v_field (fo := 41) (by kernel_rfl) rfl) ?_
  refine s_store1 (v := .int .i64 _) (by kernel_rfl) rfl rfl .here (H.set_next _) rfl ?_
  refine s_nil ?_
  refine r_seq (by kernel_rfl) ?_
  refine s_val (v_build (vs := [(1, .int .i64 _), (2, .int .i64 _), (4, .int .i64 _), (5, .int .i64 _)]) (cs := PayS.cells ⟨0, 1, 9, 0, 1, 1⟩) rfl (by kernel_rfl)) ?_
  refine s_val (v_build (vs := [(0, .int .i64 _), (1, .int .i64 _), (2, .int .i64 _), (4, .int .i64 _)]) (cs := PayS.cells ⟨1, 0, 9, 0, 1, 0⟩) rfl (by kernel_rfl)) ?_
  refine s_buildS (e := 36) (vs := [(0, .agg _), (1, .agg _)]) (cs := (flatC kPays).toArray) rfl (by kernel_rfl) (fun b8 => ?_)
  refine s_val (v_field (fo := 40) (by kernel_rfl) rfl) ?_
  refine s_store1 (v := .slice _ _ _) (by kernel_rfl) rfl rfl (.there .here) (H.set_pays _) rfl ?_
  refine s_nil ?_
  refine c_forget (E := [_]) (L := [_]) (fun F1 hF1 hK1 => ?_)
  have hpk : PaysIn F1 (some ⟨b8, 0, none⟩) 2 kPays := PaysE.known (pc := 2) ⟨rfl, by decide, .inr ⟨b8, _, _, rfl, rfl, rfl, cellsOf_flat _⟩⟩ hK1
  refine r_seq (by kernel_rfl) ?_
  refine s_val (v_loadA (m := 42) (by kernel_rfl) rfl .here (H.size _)) ?_
  refine s_callG (by kernel_rfl) (sweepF_mono _ _ _) (fun w hw => g_Untie (kHouse (some ⟨b8, 0, none⟩)) kPays w (hpk.at hw) (show 2 * 48 ≤ 281474976710656 by decide) (show 2 ≤ 2 by decide)) (fun F12 v12 hF12 hR12 => ?_)
  obtain ⟨v1, v2, rfl, ⟨h12, rfl, hc12, hl12, ho12⟩, hi12⟩ := hR12
  obtain ⟨a12, c12, rfl, ia12⟩ := hi12.at
  refine s_val (v_move (v := .tuple _) rfl) ?_
  refine s_val (v_extract rfl rfl) ?_
  refine s_val (v_extract rfl rfl) ?_
  refine s_alloc (z := .agg zeroH.cells) (by kernel_rfl) (fun b2 => ?_)
  refine s_storeA (m := 42) (by kernel_rfl) rfl rfl .here (H.size _) (H.size _) (H.all1 _) ?_
  refine s_val (v_assign (v := .slice _ _ _) rfl) ?_
  refine s_nil ?_
  obtain ⟨p, hpd, hsd⟩ := kDone
  have p12 := outPays (F' := F12) (h0 := kHouse (some ⟨b8, 0, none⟩)) hpk hF12 (more_young _ _) ho12
  have hpl : h12.pl = 2 := p12.1.symm.trans (untie_len _ _)
  obtain ⟨bp, op, hpa, hc⟩ := p12.some (k := 0) (by omega)
  refine r_seq (by kernel_rfl) ?_
  refine s_val (v_loadA (m := 42) (by kernel_rfl) rfl (.there .here) (H.size _)) ?_
  refine s_call (by kernel_rfl) (fun w hw => g_Most (kHouse (some ⟨b8, 0, none⟩)) kPays w ((hpk.mono hF12).at hw) (show 2 * 48 ≤ 281474976710656 by decide) (show 2 ≤ 2 by decide)) ?_
  refine s_val (v_build (vs := [(0, .int .i64 _), (1, .int .i64 _)]) (cs := rowA kBest) rfl (by kernel_rfl)) ?_
  refine s_val (v_eqFlat (n := 4) _ _ (by kernel_rfl) rfl rfl (rowA_list _) (rowA_list _) rfl rfl) ?_
  refine s_val (v_move (v := .bool _) rfl) ?_
  refine s_want rfl rfl (decide_eq_true kRow) ?_
  refine s_val (v_move (v := .slice _ _ _) rfl) ?_
  refine s_want rfl rfl (decide_eq_true kRow) ?_
  refine s_val (v_lenS (T := 43) (m := 1) (by kernel_rfl) rfl rfl) ?_
  refine s_want rfl rfl (decide_eq_true kRow) ?_
  refine s_val (v_eql (k := .i64) rfl rfl) ?_
  refine s_val (v_pickT (v := .bool _) rfl (decide_eq_true kRow) rfl) ?_
  refine s_val (v_move (v := .bool _) rfl) ?_
  refine s_want rfl rfl (decide_eq_true kLen) ?_
  refine s_val (v_field (fo := 40) (by kernel_rfl) rfl) ?_
  refine s_want rfl rfl (decide_eq_true kLen) ?_
  refine s_val (v_load1 (v := .slice _ _ _) (by kernel_rfl) rfl .here (H.at_pays _)) ?_
  refine s_want rfl rfl (decide_eq_true kLen) ?_
  refine s_val (v_idxS (size := 6) (k := .i64) (by kernel_rfl) (congrArg (fun a => Value.slice a h12.pl h12.pc) hpa) rfl ⟨by decide, by rw [hpl]; decide⟩) ?_
  refine s_want rfl rfl (decide_eq_true kLen) ?_
  refine s_val (v_field (fo := 4) (by kernel_rfl) rfl) ?_
  refine s_want rfl rfl (decide_eq_true kLen) ?_
  refine s_val (v_load1o (v := I p.sta) (by kernel_rfl) rfl (by simpa using hc 0 p hpd 4 (I p.sta) rfl)) ?_
  refine s_want rfl rfl (decide_eq_true kLen) ?_
  refine s_val (v_eql (k := .i64) rfl rfl) ?_
  refine s_val (v_pickT (v := .bool _) rfl (decide_eq_true kLen) rfl) ?_
  refine s_val (v_assign (v := .bool _) rfl) ?_
  refine s_nil ?_
  refine c_ret ?_
  refine n_done rfl (by decide) (Eq.trans (b := .bool _) rfl (congrArg Value.bool ?_))
  exact decide_eq_true hsd

end Go.Proofs.Ytmkboljfbmlebaa
/- The laws KnotMost and KnotJoins. Condition: the payments lie in memory that is known. -/
namespace Go.Proofs.Ytmkboljfbmlebaa
open Go.RowKit
set_option linter.unusedSimpArgs false
set_option linter.unusedVariables false
set_option maxRecDepth 100000
attribute [local irreducible] cC sC nC rC qw

set_option maxHeartbeats 1000000 in
theorem law_KnotMost (h : H) (ps : List PayS) (n : Int → Int) (w : World) (hp : PaysIn (At w) h.pa h.pl ps) (hb : h.pl * 48 ≤ 281474976710656) (hlc : h.pl ≤ h.pc) : Gives Try.prog 8 [.agg h.cells, .agg (rowA n)] w (.bool true) := by
  refine gives_of Try.func8 rfl Try.ntmps8 (by simp) ?_
  refine r_seq (by kernel_rfl) ?_
  refine s_box (v := .agg _) rfl (fun b2 => ?_)
  refine s_box (v := .agg _) rfl (fun b3 => ?_)
  refine s_val (v_assign (v := .bool _) rfl) ?_
  refine s_nil ?_
  refine c_seq ?_
  refine r_seq (by kernel_rfl) ?_
  refine s_val (v_loadA (m := 42) (by kernel_rfl) rfl (.there .here) (H.size _)) ?_
  refine s_call (by kernel_rfl) (fun w hw => g_Good _ ps w (hp.at hw)) ?_
  refine s_val (v_not rfl) ?_
  refine s_nil ?_
  refine c_condN rfl rfl (fun h9 => ?_) (fun h9 => ?_)
  · refine r_seq (by kernel_rfl) ?_
    refine s_call (by kernel_rfl) (fun w hw => gk_knots w) ?_
    refine s_val (v_assign (v := .bool _) rfl) ?_
    refine s_nil ?_
    refine c_ret ?_
    refine n_ret ?_
    refine n_done rfl (by decide) (Eq.trans (b := .bool _) rfl (congrArg Value.bool ?_))
    rfl
  refine c_skip ?_
  refine n_then ?_
  have hgc : goodB h.core ps = true := h9
  refine r_seq (by kernel_rfl) ?_
  refine s_val (v_loadA (m := 42) (by kernel_rfl) rfl (.there .here) (H.size _)) ?_
  refine s_call (by kernel_rfl) (fun w hw => g_Most _ ps w (hp.at hw) hb hlc) ?_
  refine s_alloc (z := .agg (rowA fun _ => 0)) (by kernel_rfl) (fun b5 => ?_)
  refine s_storeA (m := 4) (by kernel_rfl) rfl rfl .here (rowA_size _) (rowA_size _) (rowA_all _) ?_
  refine s_nil ?_
  refine c_seq ?_
  refine r_seq (by kernel_rfl) ?_
  refine s_val (v_loadA (m := 42) (by kernel_rfl) rfl (.there (.there .here)) (H.size _)) ?_
  refine s_val (v_loadA (m := 4) (by kernel_rfl) rfl .here (rowA_size _)) ?_
  refine s_call (by kernel_rfl) (fun w hw => g_Together _ ps _ w (hp.at hw) hb hlc) ?_
  refine s_val (v_not rfl) ?_
  refine s_val (v_move (v := .bool _) rfl) ?_
  refine s_want rfl rfl (congrArg not ((together_core h ps _).symm.trans (poss_iff.2 (mostM_is hgc).poss))) ?_
  refine s_val (v_loadA (m := 42) (by kernel_rfl) rfl (.there (.there .here)) (H.size _)) ?_
  refine s_want rfl rfl (congrArg not ((together_core h ps _).symm.trans (poss_iff.2 (mostM_is hgc).poss))) ?_
  refine s_val (v_build (vs := []) (cs := rowA fun _ => 0) rfl (by kernel_rfl)) ?_
  refine s_want rfl rfl (congrArg not ((together_core h ps _).symm.trans (poss_iff.2 (mostM_is hgc).poss))) ?_
  refine s_call (by kernel_rfl) (fun w hw => g_Together _ ps _ w (hp.at hw) hb hlc) ?_
  refine s_want rfl rfl (congrArg not ((together_core h ps _).symm.trans (poss_iff.2 (mostM_is hgc).poss))) ?_
  refine s_val (v_not rfl) ?_
  refine s_val (v_pickF (v := .bool _) rfl (congrArg not ((together_core h ps _).symm.trans (poss_iff.2 (mostM_is hgc).poss))) rfl) ?_
  refine s_nil ?_
  refine c_condFh rfl rfl (congrArg not ((together_core h ps _).symm.trans (poss_iff.2 (poss_zero hgc (fun _ _ => rfl))))) ?_
  refine c_skip ?_
  refine n_then ?_
  refine c_seq ?_
  refine r_seq (by kernel_rfl) ?_
  refine s_val (v_loadA (m := 42) (by kernel_rfl) rfl (.there (.there .here)) (H.size _)) ?_
  refine s_val (v_loadA (m := 4) (by kernel_rfl) rfl (.there .here) (rowA_size _)) ?_
  refine s_call (by kernel_rfl) (fun w hw => g_Together _ ps _ w (hp.at hw) hb hlc) ?_
  refine s_nil ?_
  refine c_condR rfl rfl (fun h25 => ?_) (fun h25 => ?_)
  · refine c_skip ?_
    refine n_then ?_
    refine r_seq (by kernel_rfl) ?_
    refine s_call (by kernel_rfl) (fun w hw => gk_knots w) ?_
    refine s_val (v_assign (v := .bool _) rfl) ?_
    refine s_nil ?_
    refine c_ret ?_
    refine n_done rfl (by decide) (Eq.trans (b := .bool _) rfl (congrArg Value.bool ?_))
    rfl
  refine r_seq (by kernel_rfl) ?_
  refine s_val (v_move (v := .int .i64 _) rfl) ?_
  refine s_nil ?_
  refine c_block ?_
  refine c_rounds 5 ?_
  refine r_succ ?_
  refine r_seq (by kernel_rfl) ?_
  refine s_val (v_lss (k := .i64) rfl rfl) ?_
  refine s_nil ?_
  refine c_seq ?_
  refine c_condTh rfl rfl rfl ?_
  refine c_skip ?_
  refine n_then ?_
  refine c_seq ?_
  refine c_block ?_
  refine r_seq (by kernel_rfl) ?_
  refine s_val (v_move (v := .int .i64 _) rfl) ?_
  refine s_val (v_assign (v := .int .i64 _) rfl) ?_
  refine s_nil ?_
  refine d_seq (by kernel_rfl) (by kernel_rfl) (fun w hw => hw.drew) (by kernel_rfl) ?_
  refine q_val (v_move (v := .int .i64 _) rfl) ?_
  refine q_val (v_idxA (len := 4) (size := 1) (k := .i64) (by kernel_rfl) rfl rfl (by decide)) ?_
  refine q_val (v_load1 (v := .int .i64 _) (by kernel_rfl) rfl (.there .here) (rowA_at0 _ (by decide))) ?_
  refine q_val (v_move (v := .int .i64 _) rfl) ?_
  refine q_val (v_idxA (len := 4) (size := 1) (k := .i64) (by kernel_rfl) rfl rfl (by decide)) ?_
  refine q_val (v_load1 (v := .int .i64 _) (by kernel_rfl) rfl .here (rowA_at0 _ (by decide))) ?_
  refine q_val (v_gtr (k := .i64) rfl rfl) ?_
  refine q_nil ?_
  refine c_condFh rfl rfl (decide_eq_false (by have := (mostM_is hgc).most n (poss_iff.1 ((together_core h ps n).trans h25)) 0 (by omega); omega)) ?_
  refine c_skip ?_
  refine n_bnormal ?_
  refine n_then ?_
  refine r_list (by kernel_rfl) ?_
  refine s_val (v_addL (c := 1) rfl rfl (by decide) (by decide)) ?_
  refine s_val (v_move (v := .int .i64 _) rfl) ?_
  refine s_end ?_
  refine n_thenR ?_
  refine r_succ ?_
  refine r_seq (by kernel_rfl) ?_
  refine s_val (v_lss (k := .i64) rfl rfl) ?_
  refine s_nil ?_
  refine c_seq ?_
  refine c_condTh rfl rfl rfl ?_
  refine c_skip ?_
  refine n_then ?_
  refine c_seq ?_
  refine c_block ?_
  refine r_seq (by kernel_rfl) ?_
  refine s_val (v_move (v := .int .i64 _) rfl) ?_
  refine s_val (v_assign (v := .int .i64 _) rfl) ?_
  refine s_nil ?_
  refine d_seq (by kernel_rfl) (by kernel_rfl) (fun w hw => hw.drew) (by kernel_rfl) ?_
  refine q_val (v_move (v := .int .i64 _) rfl) ?_
  refine q_val (v_idxA (len := 4) (size := 1) (k := .i64) (by kernel_rfl) rfl rfl (by decide)) ?_
  refine q_val (v_load1 (v := .int .i64 _) (by kernel_rfl) rfl (.there .here) (rowA_at0 _ (by decide))) ?_
  refine q_val (v_move (v := .int .i64 _) rfl) ?_
  refine q_val (v_idxA (len := 4) (size := 1) (k := .i64) (by kernel_rfl) rfl rfl (by decide)) ?_
  refine q_val (v_load1 (v := .int .i64 _) (by kernel_rfl) rfl .here (rowA_at0 _ (by decide))) ?_
  refine q_val (v_gtr (k := .i64) rfl rfl) ?_
  refine q_nil ?_
  refine c_condFh rfl rfl (decide_eq_false (by have := (mostM_is hgc).most n (poss_iff.1 ((together_core h ps n).trans h25)) 1 (by omega); omega)) ?_
  refine c_skip ?_
  refine n_bnormal ?_
  refine n_then ?_
  refine r_list (by kernel_rfl) ?_
  refine s_val (v_addL (c := 2) rfl rfl (by decide) (by decide)) ?_
  refine s_val (v_move (v := .int .i64 _) rfl) ?_
  refine s_end ?_
  refine n_thenR ?_
  refine r_succ ?_
  refine r_seq (by kernel_rfl) ?_
  refine s_val (v_lss (k := .i64) rfl rfl) ?_
  refine s_nil ?_
  refine c_seq ?_
  refine c_condTh rfl rfl rfl ?_
  refine c_skip ?_
  refine n_then ?_
  refine c_seq ?_
  refine c_block ?_
  refine r_seq (by kernel_rfl) ?_
  refine s_val (v_move (v := .int .i64 _) rfl) ?_
  refine s_val (v_assign (v := .int .i64 _) rfl) ?_
  refine s_nil ?_
  refine d_seq (by kernel_rfl) (by kernel_rfl) (fun w hw => hw.drew) (by kernel_rfl) ?_
  refine q_val (v_move (v := .int .i64 _) rfl) ?_
  refine q_val (v_idxA (len := 4) (size := 1) (k := .i64) (by kernel_rfl) rfl rfl (by decide)) ?_
  refine q_val (v_load1 (v := .int .i64 _) (by kernel_rfl) rfl (.there .here) (rowA_at0 _ (by decide))) ?_
  refine q_val (v_move (v := .int .i64 _) rfl) ?_
  refine q_val (v_idxA (len := 4) (size := 1) (k := .i64) (by kernel_rfl) rfl rfl (by decide)) ?_
  refine q_val (v_load1 (v := .int .i64 _) (by kernel_rfl) rfl .here (rowA_at0 _ (by decide))) ?_
  refine q_val (v_gtr (k := .i64) rfl rfl) ?_
  refine q_nil ?_
  refine c_condFh rfl rfl (decide_eq_false (by have := (mostM_is hgc).most n (poss_iff.1 ((together_core h ps n).trans h25)) 2 (by omega); omega)) ?_
  refine c_skip ?_
  refine n_bnormal ?_
  refine n_then ?_
  refine r_list (by kernel_rfl) ?_
  refine s_val (v_addL (c := 3) rfl rfl (by decide) (by decide)) ?_
  refine s_val (v_move (v := .int .i64 _) rfl) ?_
  refine s_end ?_
  refine n_thenR ?_
  refine r_succ ?_
  refine r_seq (by kernel_rfl) ?_
  refine s_val (v_lss (k := .i64) rfl rfl) ?_
  refine s_nil ?_
  refine c_seq ?_
  refine c_condTh rfl rfl rfl ?_
  refine c_skip ?_
  refine n_then ?_
  refine c_seq ?_
  refine c_block ?_
  refine r_seq (by kernel_rfl) ?_
  refine s_val (v_move (v := .int .i64 _) rfl) ?_
  refine s_val (v_assign (v := .int .i64 _) rfl) ?_
  refine s_nil ?_
  refine d_seq (by kernel_rfl) (by kernel_rfl) (fun w hw => hw.drew) (by kernel_rfl) ?_
  refine q_val (v_move (v := .int .i64 _) rfl) ?_
  refine q_val (v_idxA (len := 4) (size := 1) (k := .i64) (by kernel_rfl) rfl rfl (by decide)) ?_
  refine q_val (v_load1 (v := .int .i64 _) (by kernel_rfl) rfl (.there .here) (rowA_at0 _ (by decide))) ?_
  refine q_val (v_move (v := .int .i64 _) rfl) ?_
  refine q_val (v_idxA (len := 4) (size := 1) (k := .i64) (by kernel_rfl) rfl rfl (by decide)) ?_
  refine q_val (v_load1 (v := .int .i64 _) (by kernel_rfl) rfl .here (rowA_at0 _ (by decide))) ?_
  refine q_val (v_gtr (k := .i64) rfl rfl) ?_
  refine q_nil ?_
  refine c_condFh rfl rfl (decide_eq_false (by have := (mostM_is hgc).most n (poss_iff.1 ((together_core h ps n).trans h25)) 3 (by omega); omega)) ?_
  refine c_skip ?_
  refine n_bnormal ?_
  refine n_then ?_
  refine r_list (by kernel_rfl) ?_
  refine s_val (v_addL (c := 4) rfl rfl (by decide) (by decide)) ?_
  refine s_val (v_move (v := .int .i64 _) rfl) ?_
  refine s_end ?_
  refine n_thenR ?_
  refine r_succ ?_
  refine r_seq (by kernel_rfl) ?_
  refine s_val (v_lss (k := .i64) rfl rfl) ?_
  refine s_nil ?_
  refine c_seq ?_
  refine c_condFh rfl rfl rfl ?_
  refine c_exit ?_
  refine n_exit ?_
  refine n_exit ?_
  refine n_bhere ?_
  refine n_then ?_
  refine r_seq (by kernel_rfl) ?_
  refine s_call (by kernel_rfl) (fun w hw => gk_knots w) ?_
  refine s_val (v_assign (v := .bool _) rfl) ?_
  refine s_nil ?_
  refine c_ret ?_
  refine n_done rfl (by decide) (Eq.trans (b := .bool _) rfl (congrArg Value.bool ?_))
  rfl

set_option maxHeartbeats 1000000 in
theorem law_KnotJoins (h : H) (ps : List PayS) (a b : Int → Int) (w : World) (hp : PaysIn (At w) h.pa h.pl ps) (hb : h.pl * 48 ≤ 281474976710656) (hlc : h.pl ≤ h.pc) : Gives Try.prog 9 [.agg h.cells, .agg (rowA a), .agg (rowA b)] w (.bool true) := by
  refine gives_of Try.func9 rfl Try.ntmps9 (by simp) ?_
  refine r_seq (by kernel_rfl) ?_
  refine s_box (v := .agg _) rfl (fun b3 => ?_)
  refine s_box (v := .agg _) rfl (fun b4 => ?_)
  refine s_box (v := .agg _) rfl (fun b5 => ?_)
  refine s_val (v_assign (v := .bool _) rfl) ?_
  refine s_nil ?_
  refine c_seq ?_
  refine r_seq (by kernel_rfl) ?_
  refine s_val (v_loadA (m := 42) (by kernel_rfl) rfl (.there (.there .here)) (H.size _)) ?_
  refine s_val (v_loadA (m := 4) (by kernel_rfl) rfl (.there .here) (rowA_size _)) ?_
  refine s_call (by kernel_rfl) (fun w hw => g_Together _ ps _ w (hp.at hw) hb hlc) ?_
  refine s_val (v_not rfl) ?_
  refine s_val (v_move (v := .bool _) rfl) ?_
  refine s_splitN (s := 13) rfl (fun h13 => ?_) (fun h13 => ?_)
  · refine s_pass rfl rfl (congrArg not h13) ?_
    refine s_pass rfl rfl (congrArg not h13) ?_
    refine s_pass rfl rfl (congrArg not h13) ?_
    refine s_pass rfl rfl (congrArg not h13) ?_
    refine s_val (v_pickT (v := .bool _) rfl (congrArg not h13) rfl) ?_
    refine s_nil ?_
    refine c_condTh rfl rfl rfl ?_
    refine r_seq (by kernel_rfl) ?_
    refine s_call (by kernel_rfl) (fun w hw => gk_knots w) ?_
    refine s_val (v_assign (v := .bool _) rfl) ?_
    refine s_nil ?_
    refine c_ret ?_
    refine n_ret ?_
    refine n_done rfl (by decide) (Eq.trans (b := .bool _) rfl (congrArg Value.bool ?_))
    rfl
  refine s_want rfl rfl (congrArg not h13) ?_
  refine s_val (v_loadA (m := 42) (by kernel_rfl) rfl (.there (.there .here)) (H.size _)) ?_
  refine s_want rfl rfl (congrArg not h13) ?_
  refine s_val (v_loadA (m := 4) (by kernel_rfl) rfl .here (rowA_size _)) ?_
  refine s_want rfl rfl (congrArg not h13) ?_
  refine s_call (by kernel_rfl) (fun w hw => g_Together _ ps _ w (hp.at hw) hb hlc) ?_
  refine s_want rfl rfl (congrArg not h13) ?_
  refine s_val (v_not rfl) ?_
  refine s_val (v_pickF (v := .bool _) rfl (congrArg not h13) rfl) ?_
  refine s_nil ?_
  refine c_condN rfl rfl (fun h18 => ?_) (fun h18 => ?_)
  · refine r_seq (by kernel_rfl) ?_
    refine s_call (by kernel_rfl) (fun w hw => gk_knots w) ?_
    refine s_val (v_assign (v := .bool _) rfl) ?_
    refine s_nil ?_
    refine c_ret ?_
    refine n_ret ?_
    refine n_done rfl (by decide) (Eq.trans (b := .bool _) rfl (congrArg Value.bool ?_))
    rfl
  refine c_skip ?_
  refine n_then ?_
  refine r_seq (by kernel_rfl) ?_
  refine s_alloc (z := .agg (rowA fun _ => 0)) (by kernel_rfl) (fun b7 => ?_)
  refine s_nil ?_
  refine c_seq ?_
  refine r_seq (by kernel_rfl) ?_
  refine s_val (v_move (v := .int .i64 _) rfl) ?_
  refine s_nil ?_
  refine c_block ?_
  refine c_rounds 5 ?_
  refine r_succ ?_
  refine r_seq (by kernel_rfl) ?_
  refine s_val (v_lss (k := .i64) rfl rfl) ?_
  refine s_nil ?_
  refine c_seq ?_
  refine c_condTh rfl rfl rfl ?_
  refine c_skip ?_
  refine n_then ?_
  refine c_seq ?_
  refine c_block ?_
  refine r_seq (by kernel_rfl) ?_
  refine s_val (v_move (v := .int .i64 _) rfl) ?_
  refine s_val (v_assign (v := .int .i64 _) rfl) ?_
  refine s_nil ?_
  refine t_list (k := 9) (by kernel_rfl) (by kernel_rfl) (fun w hw => hw.drew) (by kernel_rfl) ?_
  refine q_val (v_move (v := .int .i64 _) rfl) ?_
  refine q_val (v_move (v := .int .i64 _) rfl) ?_
  refine q_val (v_idxA (len := 4) (size := 1) (k := .i64) (by kernel_rfl) rfl rfl (by decide)) ?_
  refine q_val (v_load1 (v := .int .i64 _) (by kernel_rfl) rfl (.there (.there .here)) (rowA_at0 _ (by decide))) ?_
  refine q_val (v_move (v := .int .i64 _) rfl) ?_
  refine q_val (v_idxA (len := 4) (size := 1) (k := .i64) (by kernel_rfl) rfl rfl (by decide)) ?_
  refine q_val (v_load1 (v := .int .i64 _) (by kernel_rfl) rfl (.there .here) (rowA_at0 _ (by decide))) ?_
  refine q_val (v_max rfl rfl) ?_
  refine q_val (v_idxA (len := 4) (size := 1) (k := .i64) (by kernel_rfl) rfl rfl (by decide)) ?_
  refine q_tail ?_
  refine s_store1 (v := .int .i64 _) (by kernel_rfl) rfl rfl .here (rowA_set _ (by decide)) rfl ?_
  refine s_end ?_
  refine n_bnormal ?_
  refine n_then ?_
  refine r_list (by kernel_rfl) ?_
  refine s_val (v_addL (c := 1) rfl rfl (by decide) (by decide)) ?_
  refine s_val (v_move (v := .int .i64 _) rfl) ?_
  refine s_end ?_
  refine n_thenR ?_
  refine r_succ ?_
  refine r_seq (by kernel_rfl) ?_
  refine s_val (v_lss (k := .i64) rfl rfl) ?_
  refine s_nil ?_
  refine c_seq ?_
  refine c_condTh rfl rfl rfl ?_
  refine c_skip ?_
  refine n_then ?_
  refine c_seq ?_
  refine c_block ?_
  refine r_seq (by kernel_rfl) ?_
  refine s_val (v_move (v := .int .i64 _) rfl) ?_
  refine s_val (v_assign (v := .int .i64 _) rfl) ?_
  refine s_nil ?_
  refine t_list (k := 9) (by kernel_rfl) (by kernel_rfl) (fun w hw => hw.drew) (by kernel_rfl) ?_
  refine q_val (v_move (v := .int .i64 _) rfl) ?_
  refine q_val (v_move (v := .int .i64 _) rfl) ?_
  refine q_val (v_idxA (len := 4) (size := 1) (k := .i64) (by kernel_rfl) rfl rfl (by decide)) ?_
  refine q_val (v_load1 (v := .int .i64 _) (by kernel_rfl) rfl (.there (.there .here)) (rowA_at0 _ (by decide))) ?_
  refine q_val (v_move (v := .int .i64 _) rfl) ?_
  refine q_val (v_idxA (len := 4) (size := 1) (k := .i64) (by kernel_rfl) rfl rfl (by decide)) ?_
  refine q_val (v_load1 (v := .int .i64 _) (by kernel_rfl) rfl (.there .here) (rowA_at0 _ (by decide))) ?_
  refine q_val (v_max rfl rfl) ?_
  refine q_val (v_idxA (len := 4) (size := 1) (k := .i64) (by kernel_rfl) rfl rfl (by decide)) ?_
  refine q_tail ?_
  refine s_store1 (v := .int .i64 _) (by kernel_rfl) rfl rfl .here (rowA_set _ (by decide)) rfl ?_
  refine s_end ?_
  refine n_bnormal ?_
  refine n_then ?_
  refine r_list (by kernel_rfl) ?_
  refine s_val (v_addL (c := 2) rfl rfl (by decide) (by decide)) ?_
  refine s_val (v_move (v := .int .i64 _) rfl) ?_
  refine s_end ?_
  refine n_thenR ?_
  refine r_succ ?_
  refine r_seq (by kernel_rfl) ?_
  refine s_val (v_lss (k := .i64) rfl rfl) ?_
  refine s_nil ?_
  refine c_seq ?_
  refine c_condTh rfl rfl rfl ?_
  refine c_skip ?_
  refine n_then ?_
  refine c_seq ?_
  refine c_block ?_
  refine r_seq (by kernel_rfl) ?_
  refine s_val (v_move (v := .int .i64 _) rfl) ?_
  refine s_val (v_assign (v := .int .i64 _) rfl) ?_
  refine s_nil ?_
  refine t_list (k := 9) (by kernel_rfl) (by kernel_rfl) (fun w hw => hw.drew) (by kernel_rfl) ?_
  refine q_val (v_move (v := .int .i64 _) rfl) ?_
  refine q_val (v_move (v := .int .i64 _) rfl) ?_
  refine q_val (v_idxA (len := 4) (size := 1) (k := .i64) (by kernel_rfl) rfl rfl (by decide)) ?_
  refine q_val (v_load1 (v := .int .i64 _) (by kernel_rfl) rfl (.there (.there .here)) (rowA_at0 _ (by decide))) ?_
  refine q_val (v_move (v := .int .i64 _) rfl) ?_
  refine q_val (v_idxA (len := 4) (size := 1) (k := .i64) (by kernel_rfl) rfl rfl (by decide)) ?_
  refine q_val (v_load1 (v := .int .i64 _) (by kernel_rfl) rfl (.there .here) (rowA_at0 _ (by decide))) ?_
  refine q_val (v_max rfl rfl) ?_
  refine q_val (v_idxA (len := 4) (size := 1) (k := .i64) (by kernel_rfl) rfl rfl (by decide)) ?_
  refine q_tail ?_
  refine s_store1 (v := .int .i64 _) (by kernel_rfl) rfl rfl .here (rowA_set _ (by decide)) rfl ?_
  refine s_end ?_
  refine n_bnormal ?_
  refine n_then ?_
  refine r_list (by kernel_rfl) ?_
  refine s_val (v_addL (c := 3) rfl rfl (by decide) (by decide)) ?_
  refine s_val (v_move (v := .int .i64 _) rfl) ?_
  refine s_end ?_
  refine n_thenR ?_
  refine r_succ ?_
  refine r_seq (by kernel_rfl) ?_
  refine s_val (v_lss (k := .i64) rfl rfl) ?_
  refine s_nil ?_
  refine c_seq ?_
  refine c_condTh rfl rfl rfl ?_
  refine c_skip ?_
  refine n_then ?_
  refine c_seq ?_
  refine c_block ?_
  refine r_seq (by kernel_rfl) ?_
  refine s_val (v_move (v := .int .i64 _) rfl) ?_
  refine s_val (v_assign (v := .int .i64 _) rfl) ?_
  refine s_nil ?_
  refine t_list (k := 9) (by kernel_rfl) (by kernel_rfl) (fun w hw => hw.drew) (by kernel_rfl) ?_
  refine q_val (v_move (v := .int .i64 _) rfl) ?_
  refine q_val (v_move (v := .int .i64 _) rfl) ?_
  refine q_val (v_idxA (len := 4) (size := 1) (k := .i64) (by kernel_rfl) rfl rfl (by decide)) ?_
  refine q_val (v_load1 (v := .int .i64 _) (by kernel_rfl) rfl (.there (.there .here)) (rowA_at0 _ (by decide))) ?_
  refine q_val (v_move (v := .int .i64 _) rfl) ?_
  refine q_val (v_idxA (len := 4) (size := 1) (k := .i64) (by kernel_rfl) rfl rfl (by decide)) ?_
  refine q_val (v_load1 (v := .int .i64 _) (by kernel_rfl) rfl (.there .here) (rowA_at0 _ (by decide))) ?_
  refine q_val (v_max rfl rfl) ?_
  refine q_val (v_idxA (len := 4) (size := 1) (k := .i64) (by kernel_rfl) rfl rfl (by decide)) ?_
  refine q_tail ?_
  refine s_store1 (v := .int .i64 _) (by kernel_rfl) rfl rfl .here (rowA_set _ (by decide)) rfl ?_
  refine s_end ?_
  refine n_bnormal ?_
  refine n_then ?_
  refine r_list (by kernel_rfl) ?_
  refine s_val (v_addL (c := 4) rfl rfl (by decide) (by decide)) ?_
  refine s_val (v_move (v := .int .i64 _) rfl) ?_
  refine s_end ?_
  refine n_thenR ?_
  refine r_succ ?_
  refine r_seq (by kernel_rfl) ?_
  refine s_val (v_lss (k := .i64) rfl rfl) ?_
  refine s_nil ?_
  refine c_seq ?_
  refine c_condFh rfl rfl rfl ?_
  refine c_exit ?_
  refine n_exit ?_
  refine n_exit ?_
  refine n_bhere ?_
  refine n_then ?_
  refine r_seq (by kernel_rfl) ?_
  refine s_val (v_loadA (m := 42) (by kernel_rfl) rfl (.there (.there (.there .here))) (H.size _)) ?_
  refine s_val (v_loadA (m := 4) (by kernel_rfl) rfl .here (rowA_size _)) ?_
  refine s_call (by kernel_rfl) (fun w hw => g_Together _ ps _ w (hp.at hw) hb hlc) ?_
  refine s_val (v_move (v := .bool _) rfl) ?_
  refine s_want rfl rfl (poss_iff.2 (((poss_iff.1 h13).join (poss_iff.1 h18)).congr (fun c hc => by
      have hc4 : c = 0 ∨ c = 1 ∨ c = 2 ∨ c = 3 := by omega
      rcases hc4 with rfl | rfl | rfl | rfl <;> simp [up1, joinM, maxI]))) ?_
  refine s_call (by kernel_rfl) (fun w hw => gk_knots w) ?_
  refine s_val (v_pickT (v := .bool _) rfl (poss_iff.2 (((poss_iff.1 h13).join (poss_iff.1 h18)).congr (fun c hc => by
      have hc4 : c = 0 ∨ c = 1 ∨ c = 2 ∨ c = 3 := by omega
      rcases hc4 with rfl | rfl | rfl | rfl <;> simp [up1, joinM, maxI]))) rfl) ?_
  refine s_val (v_assign (v := .bool _) rfl) ?_
  refine s_nil ?_
  refine c_ret ?_
  refine n_done rfl (by decide) (Eq.trans (b := .bool _) rfl (congrArg Value.bool ?_))
  rfl

end Go.Proofs.Ytmkboljfbmlebaa
/- Rows of numbers that come in as arguments. No condition. -/
namespace Go.Proofs.Ytmkboljfbmlebaa
open Go.RowKit
set_option linter.unusedSimpArgs false
set_option linter.unusedVariables false

section
variable {Hh : Type} {enc : TypeId × Value → Hh} {P : Program} {w : World} {base : Nat} {spare : Nat → Bool} {held : Bool}
theorem open_row {T : TypeId} (hB : flatB P 4 T 4 = true) {fuel : Nat} {cs : List Value} {x : DataW Hh × List MemPlace} (hx : DataW.trod enc P w base spare held fuel T cs = some x) : ∃ r : Int → Int, cs.toArray = rowA r := by
  obtain ⟨hl, hI⟩ := read_flat 4 T 4 hB _ _ _ hx
  match cs, hl with
  | [c0, c1, c2, c3], _ =>
    refine ⟨fun i => intV ([c0, c1, c2, c3].getD i.toNat undef), ?_⟩
    have e0 := intV_of (hI c0 (by simp))
    have e1 := intV_of (hI c1 (by simp))
    have e2 := intV_of (hI c2 (by simp))
    have e3 := intV_of (hI c3 (by simp))
    have : rowA (fun i => intV ([c0, c1, c2, c3].getD i.toNat undef)) = #[I (intV c0), I (intV c1), I (intV c2), I (intV c3)] := rfl
    rw [this, e0, e1, e2, e3]
end
end Go.Proofs.Ytmkboljfbmlebaa
