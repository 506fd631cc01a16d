/- What knotUnties_holds stands on, part 12: each part says what it proves. No condition beside those that it names. -/
import Derived.Test.YtmkboljfbmlebaaPL811
/- Contracts of knots. No condition. -/
namespace Go.Proofs.Ytmkboljfbmlebaa
open Go.RowKit
set_option linter.unusedSimpArgs false
set_option linter.unusedVariables false
set_option maxRecDepth 100000
attribute [local irreducible] cC sC nC rC qw

set_option maxHeartbeats 1000000 in
theorem gl_knots  (w : World) : Gives Try.prog 47 [] w (.bool true) := by
  refine gives_of Try.func47 rfl Try.ntmps47 (by simp) ?_
  refine r_seq (by kernel_rfl) ?_
  refine s_val (v_assign (v := .bool _) rfl) ?_
  refine s_nil ?_
  refine r_seq (by kernel_rfl) ?_
  refine s_call (by kernel_rfl) (fun w hw => g_New w) ?_
  refine s_alloc (z := .agg zeroH.cells) (by kernel_rfl) (fun b1 => ?_)
  refine s_storeA (m := 42) (by kernel_rfl) rfl rfl .here (H.size _) (H.size _) (H.all1 _) ?_
  refine s_nil ?_
  refine r_seq (by kernel_rfl) ?_
  refine s_val (v_field (fo := 41) (by kernel_rfl) rfl) ?_
  refine s_store1 (v := .int .i64 _) (by kernel_rfl) rfl rfl .here (H.set_next _) rfl ?_
  refine s_nil ?_
  refine r_seq (by kernel_rfl) ?_
  refine s_val (v_build (vs := [(1, .int .i64 _), (2, .int .i64 _), (4, .int .i64 _), (5, .int .i64 _)]) (cs := PayS.cells ⟨0, 1, 9, 0, 1, 1⟩) rfl (by kernel_rfl)) ?_
  refine s_val (v_build (vs := [(0, .int .i64 _), (1, .int .i64 _), (2, .int .i64 _), (4, .int .i64 _)]) (cs := PayS.cells ⟨1, 0, 9, 0, 1, 0⟩) rfl (by kernel_rfl)) ?_
  refine s_buildS (e := 36) (vs := [(0, .agg _), (1, .agg _)]) (cs := (flatC kPays).toArray) rfl (by kernel_rfl) (fun b8 => ?_)
  refine s_val (v_field (fo := 40) (by kernel_rfl) rfl) ?_
  refine s_store1 (v := .slice _ _ _) (by kernel_rfl) rfl rfl (.there .here) (H.set_pays _) rfl ?_
  refine s_nil ?_
  refine c_forget (E := [_]) (L := [_]) (fun F1 hF1 hK1 => ?_)
  have hpk : PaysIn F1 (some ⟨b8, 0, none⟩) 2 kPays := PaysE.known (pc := 2) ⟨rfl, by decide, .inr ⟨b8, _, _, rfl, rfl, rfl, cellsOf_flat _⟩⟩ hK1
  refine r_seq (by kernel_rfl) ?_
  refine s_val (v_loadA (m := 42) (by kernel_rfl) rfl .here (H.size _)) ?_
  refine s_callG (by kernel_rfl) (sweepF_mono _ _ _) (fun w hw => g_Untie (kHouse (some ⟨b8, 0, none⟩)) kPays w (hpk.at hw) (show 2 * 48 ≤ 281474976710656 by decide) (show 2 ≤ 2 by decide)) (fun F12 v12 hF12 hR12 => ?_)
  obtain ⟨v1, v2, rfl, ⟨h12, rfl, hc12, hl12, ho12⟩, hi12⟩ := hR12
  obtain ⟨a12, c12, rfl, ia12⟩ := hi12.at
  refine s_val (v_move (v := .tuple _) rfl) ?_
  refine s_val (v_extract rfl rfl) ?_
  refine s_val (v_extract rfl rfl) ?_
  refine s_alloc (z := .agg zeroH.cells) (by kernel_rfl) (fun b2 => ?_)
  refine s_storeA (m := 42) (by kernel_rfl) rfl rfl .here (H.size _) (H.size _) (H.all1 _) ?_
  refine s_val (v_assign (v := .slice _ _ _) rfl) ?_
  refine s_nil ?_
  obtain ⟨p, hpd, hsd⟩ := kDone
  have p12 := outPays (F' := F12) (h0 := kHouse (some ⟨b8, 0, none⟩)) hpk hF12 (more_young _ _) ho12
  have hpl : h12.pl = 2 := p12.1.symm.trans (untie_len _ _)
  obtain ⟨bp, op, hpa, hc⟩ := p12.some (k := 0) (by omega)
  refine r_seq (by kernel_rfl) ?_
  refine s_val (v_loadA (m := 42) (by kernel_rfl) rfl (.there .here) (H.size _)) ?_
  refine s_call (by kernel_rfl) (fun w hw => g_Most (kHouse (some ⟨b8, 0, none⟩)) kPays w ((hpk.mono hF12).at hw) (show 2 * 48 ≤ 281474976710656 by decide) (show 2 ≤ 2 by decide)) ?_
  refine s_val (v_build (vs := [(0, .int .i64 _), (1, .int .i64 _)]) (cs := rowA kBest) rfl (by kernel_rfl)) ?_
  refine s_val (v_eqFlat (n := 4) _ _ (by kernel_rfl) rfl rfl (rowA_list _) (rowA_list _) rfl rfl) ?_
  refine s_val (v_move (v := .bool _) rfl) ?_
  refine s_want rfl rfl (decide_eq_true kRow) ?_
  refine s_val (v_move (v := .slice _ _ _) rfl) ?_
  refine s_want rfl rfl (decide_eq_true kRow) ?_
  refine s_val (v_lenS (T := 43) (m := 1) (by kernel_rfl) rfl rfl) ?_
  refine s_want rfl rfl (decide_eq_true kRow) ?_
  refine s_val (v_eql (k := .i64) rfl rfl) ?_
  refine s_val (v_pickT (v := .bool _) rfl (decide_eq_true kRow) rfl) ?_
  refine s_val (v_move (v := .bool _) rfl) ?_
  refine s_want rfl rfl (decide_eq_true kLen) ?_
  refine s_val (v_field (fo := 40) (by kernel_rfl) rfl) ?_
  refine s_want rfl rfl (decide_eq_true kLen) ?_
  refine s_val (v_load1 (v := .slice _ _ _) (by kernel_rfl) rfl .here (H.at_pays _)) ?_
  refine s_want rfl rfl (decide_eq_true kLen) ?_
  refine s_val (v_idxS (size := 6) (k := .i64) (by kernel_rfl) (congrArg (fun a => Value.slice a h12.pl h12.pc) hpa) rfl ⟨by decide, by rw [hpl]; decide⟩) ?_
  refine s_want rfl rfl (decide_eq_true kLen) ?_
  refine s_val (v_field (fo := 4) (by kernel_rfl) rfl) ?_
  refine s_want rfl rfl (decide_eq_true kLen) ?_
  refine s_val (v_load1o (v := I p.sta) (by kernel_rfl) rfl (by simpa using hc 0 p hpd 4 (I p.sta) rfl)) ?_
  refine s_want rfl rfl (decide_eq_true kLen) ?_
  refine s_val (v_eql (k := .i64) rfl rfl) ?_
  refine s_val (v_pickT (v := .bool _) rfl (decide_eq_true kLen) rfl) ?_
  refine s_val (v_assign (v := .bool _) rfl) ?_
  refine s_nil ?_
  refine c_ret ?_
  refine n_done rfl (by decide) (Eq.trans (b := .bool _) rfl (congrArg Value.bool ?_))
  exact decide_eq_true hsd

set_option maxHeartbeats 1000000 in
theorem gk_knots  (w : World) : Gives Try.prog 48 [] w (.bool true) := by
  refine gives_of Try.func48 rfl Try.ntmps48 (by simp) ?_
  refine r_seq (by kernel_rfl) ?_
  refine s_val (v_assign (v := .bool _) rfl) ?_
  refine s_nil ?_
  refine r_seq (by kernel_rfl) ?_
  refine s_call (by kernel_rfl) (fun w hw => g_New w) ?_
  refine s_alloc (z := .agg zeroH.cells) (by kernel_rfl) (fun b1 => ?_)
  refine s_storeA (m := 42) (by kernel_rfl) rfl rfl .here (H.size _) (H.size _) (H.all1 _) ?_
  refine s_nil ?_
  refine r_seq (by kernel_rfl) ?_
  refine s_val (v_field (fo := 41) (by kernel_rfl) rfl) ?_
  refine s_store1 (v := .int .i64 _) (by kernel_rfl) rfl rfl .here (H.set_next _) rfl ?_
  refine s_nil ?_
  refine r_seq (by kernel_rfl) ?_
  refine s_val (v_build (vs := [(1, .int .i64 _), (2, .int .i64 _), (4, .int .i64 _), (5, .int .i64 _)]) (cs := PayS.cells ⟨0, 1, 9, 0, 1, 1⟩) rfl (by kernel_rfl)) ?_
  refine s_val (v_build (vs := [(0, .int .i64 _), (1, .int .i64 _), (2, .int .i64 _), (4, .int .i64 _)]) (cs := PayS.cells ⟨1, 0, 9, 0, 1, 0⟩) rfl (by kernel_rfl)) ?_
  refine s_buildS (e := 36) (vs := [(0, .agg _), (1, .agg _)]) (cs := (flatC kPays).toArray) rfl (by kernel_rfl) (fun b8 => ?_)
  refine s_val (v_field (fo := 40) (by kernel_rfl) rfl) ?_
  refine s_store1 (v := .slice _ _ _) (by kernel_rfl) rfl rfl (.there .here) (H.set_pays _) rfl ?_
  refine s_nil ?_
  refine c_forget (E := [_]) (L := [_]) (fun F1 hF1 hK1 => ?_)
  have hpk : PaysIn F1 (some ⟨b8, 0, none⟩) 2 kPays := PaysE.known (pc := 2) ⟨rfl, by decide, .inr ⟨b8, _, _, rfl, rfl, rfl, cellsOf_flat _⟩⟩ hK1
  refine r_seq (by kernel_rfl) ?_
  refine s_val (v_loadA (m := 42) (by kernel_rfl) rfl .here (H.size _)) ?_
  refine s_callG (by kernel_rfl) (sweepF_mono _ _ _) (fun w hw => g_Untie (kHouse (some ⟨b8, 0, none⟩)) kPays w (hpk.at hw) (show 2 * 48 ≤ 281474976710656 by decide) (show 2 ≤ 2 by decide)) (fun F12 v12 hF12 hR12 => ?_)
  obtain ⟨v1, v2, rfl, ⟨h12, rfl, hc12, hl12, ho12⟩, hi12⟩ := hR12
  obtain ⟨a12, c12, rfl, ia12⟩ := hi12.at
  refine s_val (v_move (v := .tuple _) rfl) ?_
  refine s_val (v_extract rfl rfl) ?_
  refine s_val (v_extract rfl rfl) ?_
  refine s_alloc (z := .agg zeroH.cells) (by kernel_rfl) (fun b2 => ?_)
  refine s_storeA (m := 42) (by kernel_rfl) rfl rfl .here (H.size _) (H.size _) (H.all1 _) ?_
  refine s_val (v_assign (v := .slice _ _ _) rfl) ?_
  refine s_nil ?_
  obtain ⟨p, hpd, hsd⟩ := kDone
  have p12 := outPays (F' := F12) (h0 := kHouse (some ⟨b8, 0, none⟩)) hpk hF12 (more_young _ _) ho12
  have hpl : h12.pl = 2 := p12.1.symm.trans (untie_len _ _)
  obtain ⟨bp, op, hpa, hc⟩ := p12.some (k := 0) (by omega)
  refine r_seq (by kernel_rfl) ?_
  refine s_val (v_loadA (m := 42) (by kernel_rfl) rfl (.there .here) (H.size _)) ?_
  refine s_call (by kernel_rfl) (fun w hw => g_Most (kHouse (some ⟨b8, 0, none⟩)) kPays w ((hpk.mono hF12).at hw) (show 2 * 48 ≤ 281474976710656 by decide) (show 2 ≤ 2 by decide)) ?_
  refine s_val (v_build (vs := [(0, .int .i64 _), (1, .int .i64 _)]) (cs := rowA kBest) rfl (by kernel_rfl)) ?_
  refine s_val (v_eqFlat (n := 4) _ _ (by kernel_rfl) rfl rfl (rowA_list _) (rowA_list _) rfl rfl) ?_
  refine s_val (v_move (v := .bool _) rfl) ?_
  refine s_want rfl rfl (decide_eq_true kRow) ?_
  refine s_val (v_move (v := .slice _ _ _) rfl) ?_
  refine s_want rfl rfl (decide_eq_true kRow) ?_
  refine s_val (v_lenS (T := 43) (m := 1) (by kernel_rfl) rfl rfl) ?_
  refine s_want rfl rfl (decide_eq_true kRow) ?_
  refine s_val (v_eql (k := .i64) rfl rfl) ?_
  refine s_val (v_pickT (v := .bool _) rfl (decide_eq_true kRow) rfl) ?_
  refine s_val (v_move (v := .bool _) rfl) ?_
  refine s_want rfl rfl (decide_eq_true kLen) ?_
  refine s_val (v_field (fo := 40) (by kernel_rfl) rfl) ?_
  refine s_want rfl rfl (decide_eq_true kLen) ?_
  refine s_val (v_load1 (v := .slice _ _ _) (by kernel_rfl) rfl .here (H.at_pays _)) ?_
  refine s_want rfl rfl (decide_eq_true kLen) ?_
  refine s_val (v_idxS (size := 6) (k := .i64) (by kernel_rfl) (congrArg (fun a => Value.slice a h12.pl h12.pc) hpa) rfl ⟨by decide, by rw [hpl]; decide⟩) ?_
  refine s_want rfl rfl (decide_eq_true kLen) ?_
  refine s_val (v_field (fo := 4) (by kernel_rfl) rfl) ?_
  refine s_want rfl rfl (decide_eq_true kLen) ?_
  refine s_val (v_load1o (v := I p.sta) (by kernel_rfl) rfl (by simpa using hc 0 p hpd 4 (I p.sta) rfl)) ?_
  refine s_want rfl rfl (decide_eq_true kLen) ?_
  refine s_val (v_eql (k := .i64) rfl rfl) ?_
  refine s_val (v_pickT (v := .bool _) rfl (decide_eq_true kLen) rfl) ?_
  refine s_val (v_assign (v := .bool _) rfl) ?_
  refine s_nil ?_
  refine c_ret ?_
  refine n_done rfl (by decide) (Eq.trans (b := .bool _) rfl (congrArg Value.bool ?_))
  exact decide_eq_true hsd

end Go.Proofs.Ytmkboljfbmlebaa
/- The law KnotUnties. Condition: the payments lie in memory that is known. -/
namespace Go.Proofs.Ytmkboljfbmlebaa
open Go.RowKit
set_option linter.unusedSimpArgs false
set_option linter.unusedVariables false
set_option maxRecDepth 100000
attribute [local irreducible] cC sC nC rC qw

set_option maxHeartbeats 1000000 in
theorem law_KnotUnties (h : H) (ps : List PayS) (w : World) (hp : PaysIn (At w) h.pa h.pl ps) (hb : h.pl * 48 ≤ 281474976710656) (hlc : h.pl ≤ h.pc) : Gives Try.prog 10 [.agg h.cells] w (.bool true) := by
  refine gives_of Try.func10 rfl Try.ntmps10 (by simp) ?_
  refine r_seq (by kernel_rfl) ?_
  refine s_box (v := .agg _) rfl (fun b1 => ?_)
  refine s_val (v_assign (v := .bool _) rfl) ?_
  refine s_nil ?_
  refine c_seq ?_
  refine r_seq (by kernel_rfl) ?_
  refine s_val (v_loadA (m := 42) (by kernel_rfl) rfl .here (H.size _)) ?_
  refine s_call (by kernel_rfl) (fun w hw => g_Good _ ps w (hp.at hw)) ?_
  refine s_val (v_not rfl) ?_
  refine s_val (v_move (v := .bool _) rfl) ?_
  refine s_splitN (s := 13) rfl (fun h13 => ?_) (fun h13 => ?_)
  · refine s_pass rfl rfl (congrArg not h13) ?_
    refine s_pass rfl rfl (congrArg not h13) ?_
    refine s_pass rfl rfl (congrArg not h13) ?_
    refine s_val (v_pickT (v := .bool _) rfl (congrArg not h13) rfl) ?_
    refine s_nil ?_
    refine c_condTh rfl rfl rfl ?_
    refine r_seq (by kernel_rfl) ?_
    refine s_call (by kernel_rfl) (fun w hw => gk_knots w) ?_
    refine s_val (v_assign (v := .bool _) rfl) ?_
    refine s_nil ?_
    refine c_ret ?_
    refine n_ret ?_
    refine n_done rfl (by decide) (Eq.trans (b := .bool _) rfl (congrArg Value.bool ?_))
    rfl
  refine s_want rfl rfl (congrArg not h13) ?_
  refine s_val (v_loadA (m := 42) (by kernel_rfl) rfl .here (H.size _)) ?_
  refine s_want rfl rfl (congrArg not h13) ?_
  refine s_call (by kernel_rfl) (fun w hw => gk_roomy _ w) ?_
  refine s_want rfl rfl (congrArg not h13) ?_
  refine s_val (v_not rfl) ?_
  refine s_val (v_pickF (v := .bool _) rfl (congrArg not h13) rfl) ?_
  refine s_nil ?_
  refine c_condN rfl rfl (fun h17 => ?_) (fun h17 => ?_)
  · refine r_seq (by kernel_rfl) ?_
    refine s_call (by kernel_rfl) (fun w hw => gk_knots w) ?_
    refine s_val (v_assign (v := .bool _) rfl) ?_
    refine s_nil ?_
    refine c_ret ?_
    refine n_ret ?_
    refine n_done rfl (by decide) (Eq.trans (b := .bool _) rfl (congrArg Value.bool ?_))
    rfl
  refine c_skip ?_
  refine n_then ?_
  have hgc : goodB h.core ps = true := h13
  refine r_seq (by kernel_rfl) ?_
  refine s_val (v_loadA (m := 42) (by kernel_rfl) rfl .here (H.size _)) ?_
  refine s_callG (by kernel_rfl) (sweepF_mono _ _ _) (fun w hw => g_Untie h ps w (hp.at hw) hb hlc) (fun F21 v21 hF21 hR21 => ?_)
  obtain ⟨v1, v2, rfl, ⟨h21, rfl, hc21, hl21, ho21⟩, hi21⟩ := hR21
  obtain ⟨a21, c21, rfl, ia21⟩ := hi21.at
  refine s_val (v_move (v := .tuple _) rfl) ?_
  refine s_val (v_extract rfl rfl) ?_
  refine s_val (v_extract rfl rfl) ?_
  refine s_alloc (z := .agg zeroH.cells) (by kernel_rfl) (fun b3 => ?_)
  refine s_storeA (m := 42) (by kernel_rfl) rfl rfl .here (H.size _) (H.size _) (H.all1 _) ?_
  refine s_val (v_assign (v := .slice _ _ _) rfl) ?_
  refine s_nil ?_
  refine r_seq (by kernel_rfl) ?_
  refine s_val (v_loadA (m := 42) (by kernel_rfl) rfl (.there .here) (H.size _)) ?_
  refine s_call (by kernel_rfl) (fun w hw => g_Most _ ps w ((hp.mono hF21).at hw) hb hlc) ?_
  refine s_alloc (z := .agg (rowA fun _ => 0)) (by kernel_rfl) (fun b5 => ?_)
  refine s_storeA (m := 4) (by kernel_rfl) rfl rfl .here (rowA_size _) (rowA_size _) (rowA_all _) ?_
  refine s_nil ?_
  refine r_seq (by kernel_rfl) ?_
  refine s_val (v_assign (v := .int .i64 _) rfl) ?_
  refine s_nil ?_
  refine c_seq ?_
  refine r_seq (by kernel_rfl) ?_
  refine s_val (v_move (v := .int .i64 _) rfl) ?_
  refine s_nil ?_
  refine c_block ?_
  refine c_loop (σ := Nat) (fun (k : Nat) f => ∃ g, (k ≤ 4) ∧ f = (upd (upd (upd (upd (upd (upd g 1 (.pointer (some ⟨b1, 0, none⟩))) 3 (.pointer (some ⟨b3, 0, none⟩))) 4 (.slice a21 (untieM h.core ps).xs.length c21)) 5 (.pointer (some ⟨b5, 0, none⟩))) 6 (I (mSum (mostM h.core ps) k))) 26 (I k))) (fun (k : Nat) => Has w F21 [(b5, .cells (rowA (mostM h.core ps)) 25), (b3, .cells h21.cells 29), (b1, .cells h.cells 29)]) (fun (k : Nat) => 4 - k) 0 ⟨_, Nat.zero_le _, live6 rfl rfl rfl rfl rfl rfl⟩ (fun w hw => hw) ?_
  rintro k _ ⟨g, hkl, rfl⟩
  refine r_seq (by kernel_rfl) ?_
  refine s_val (v_lss (k := .i64) rfl rfl) ?_
  refine s_nil ?_
  refine c_seq ?_
  refine c_condR rfl rfl (fun h27 => ?_) (fun h27 => ?_)
  · have hk4 : k = 4 := by have := of_decide_eq_false h27; omega
    subst hk4
    refine c_exit ?_
    refine n_exit ?_
    refine n_exit ?_
    refine n_bhere ?_
    refine n_then ?_
    refine d_seq (by kernel_rfl) (by kernel_rfl) (fun w hw => hw.drew) (by kernel_rfl) ?_
    refine q_val (v_move (v := .int .i64 _) rfl) ?_
    refine q_val (v_move (v := .slice _ _ _) rfl) ?_
    refine q_val (v_lenS (T := 43) (m := 1) (by kernel_rfl) rfl rfl) ?_
    refine q_val (v_eql (k := .i64) rfl rfl) ?_
    refine q_val (v_move (v := .bool _) rfl) ?_
    refine q_want rfl rfl (decide_eq_true (untie_count hgc)) ?_
    refine q_val (v_loadA (m := 42) (by kernel_rfl) rfl (.there .here) (H.size _)) ?_
    refine q_want rfl rfl (decide_eq_true (untie_count hgc)) ?_
    refine q_call (by kernel_rfl) (fun w hw => g_Sum _ w) ?_
    refine q_want rfl rfl (decide_eq_true (untie_count hgc)) ?_
    refine q_val (v_loadA (m := 42) (by kernel_rfl) rfl (.there (.there .here)) (H.size _)) ?_
    refine q_want rfl rfl (decide_eq_true (untie_count hgc)) ?_
    refine q_call (by kernel_rfl) (fun w hw => g_Sum _ w) ?_
    refine q_want rfl rfl (decide_eq_true (untie_count hgc)) ?_
    refine q_val (v_eql (k := .i64) rfl rfl) ?_
    refine q_val (v_pickT (v := .bool _) rfl (decide_eq_true (untie_count hgc)) rfl) ?_
    refine q_val (v_move (v := .bool _) rfl) ?_
    refine q_want rfl rfl (decide_eq_true (un_sum hgc hc21)) ?_
    refine q_call (by kernel_rfl) (fun w hw => gk_knots w) ?_
    refine q_val (v_pickT (v := .bool _) rfl (decide_eq_true (un_sum hgc hc21)) rfl) ?_
    refine q_val (v_assign (v := .bool _) rfl) ?_
    refine q_nil ?_
    refine c_ret ?_
    refine n_done rfl (by decide) (Eq.trans (b := .bool _) rfl (congrArg Value.bool ?_))
    rfl
  have hk0 := of_decide_eq_true h27
  have hi : 0 ≤ (k : Int) ∧ (k : Int) < 4 := ⟨by omega, by omega⟩
  have hms := mSum_range hgc k hkl
  have hmk := (mostM_is hgc).poss.size k hi
  have hql := queueM_len ps k
  have hl24 := (good_pays hgc).2.2
  refine c_skip ?_
  refine n_then ?_
  refine c_seq ?_
  refine c_block ?_
  refine r_seq (by kernel_rfl) ?_
  refine s_val (v_move (v := .int .i64 _) rfl) ?_
  refine s_val (v_assign (v := .int .i64 _) rfl) ?_
  refine s_nil ?_
  refine r_seq (by kernel_rfl) ?_
  refine s_val (v_move (v := .int .i64 _) rfl) ?_
  refine s_val (v_move (v := .int .i64 _) rfl) ?_
  refine s_val (v_idxA (len := 4) (size := 1) (k := .i64) (by kernel_rfl) rfl rfl (by assumption)) ?_
  refine s_val (v_load1 (v := .int .i64 _) (by kernel_rfl) rfl .here (rowA_at0 _ (by assumption))) ?_
  refine s_val (v_add rfl rfl (by omega)) ?_
  refine s_val (v_assign (v := .int .i64 _) rfl) ?_
  refine s_nil ?_
  refine c_seq ?_
  refine d_seq (by kernel_rfl) (by kernel_rfl) (fun w hw => hw.drew) (by kernel_rfl) ?_
  refine q_val (v_move (v := .int .i64 _) rfl) ?_
  refine q_val (v_idxA (len := 4) (size := 1) (k := .i64) (by kernel_rfl) rfl rfl (by assumption)) ?_
  refine q_val (v_load1 (v := .int .i64 _) (by kernel_rfl) rfl .here (rowA_at0 _ (by assumption))) ?_
  refine q_val (v_gtr (k := .i64) rfl rfl) ?_
  refine q_val (v_move (v := .bool _) rfl) ?_
  refine q_splitR (s := 38) rfl (fun h38 => ?_) (fun h38 => ?_)
  · refine q_pass rfl rfl h38 ?_
    refine q_pass rfl rfl h38 ?_
    refine q_pass rfl rfl h38 ?_
    refine q_pass rfl rfl h38 ?_
    refine q_val (v_pickF (v := .bool _) rfl h38 rfl) ?_
    refine q_val (v_move (v := .bool _) rfl) ?_
    refine q_want rfl rfl rfl ?_
    refine q_val (v_move (v := .int .i64 _) rfl) ?_
    refine q_want rfl rfl rfl ?_
    refine q_val (v_idxA (len := 4) (size := 1) (k := .i64) (by kernel_rfl) rfl rfl (by assumption)) ?_
    refine q_want rfl rfl rfl ?_
    refine q_val (v_load1 (v := .int .i64 _) (by kernel_rfl) rfl .here (rowA_at0 _ (by assumption))) ?_
    refine q_want rfl rfl rfl ?_
    refine q_val (v_eql (k := .i64) rfl rfl) ?_
    refine q_want rfl rfl rfl ?_
    refine q_val (v_move (v := .bool _) rfl) ?_
    refine q_splitR (s := 49) rfl (fun h49 => ?_) (fun h49 => ?_)
    · refine q_pass rfl rfl h49 ?_
      refine q_pass rfl rfl h49 ?_
      refine q_pass rfl rfl h49 ?_
      refine q_pass rfl rfl h49 ?_
      refine q_pass rfl rfl h49 ?_
      refine q_pass rfl rfl h49 ?_
      refine q_pass rfl rfl h49 ?_
      refine q_pass rfl rfl h49 ?_
      refine q_pass rfl rfl h49 ?_
      refine q_pass rfl rfl h49 ?_
      refine q_pass rfl rfl h49 ?_
      refine q_want rfl rfl rfl ?_
      refine q_val (v_pickF (v := .bool _) rfl h49 rfl) ?_
      refine q_val (v_pickF (v := .bool _) rfl rfl rfl) ?_
      refine q_nil ?_
      refine c_condFh rfl rfl rfl ?_
      refine c_skip ?_
      refine n_then ?_
      refine r_seq (by kernel_rfl) ?_
      refine s_val (v_move (v := .int .i64 _) rfl) ?_
      refine s_nil ?_
      refine c_block ?_
      refine c_loop (σ := Nat) (fun (m : Nat) f => ∃ g, (m ≤ 4) ∧ f = (upd (upd (upd (upd (upd (upd (upd (upd g 1 (.pointer (some ⟨b1, 0, none⟩))) 3 (.pointer (some ⟨b3, 0, none⟩))) 4 (.slice a21 (untieM h.core ps).xs.length c21)) 5 (.pointer (some ⟨b5, 0, none⟩))) 6 (I (mSum (mostM h.core ps) (k + 1)))) 7 (I k)) 26 (I k)) 63 (I m))) (fun (m : Nat) => Has w F21 [(b5, .cells (rowA (mostM h.core ps)) 25), (b3, .cells h21.cells 29), (b1, .cells h.cells 29)]) (fun (m : Nat) => 4 - m) 0 ⟨_, Nat.zero_le _, live8 rfl rfl rfl rfl rfl rfl rfl rfl⟩ (fun w hw => hw) ?_
      rintro m _ ⟨g, hml, rfl⟩
      refine r_seq (by kernel_rfl) ?_
      refine s_val (v_lss (k := .i64) rfl rfl) ?_
      refine s_nil ?_
      refine c_seq ?_
      refine c_condR rfl rfl (fun h64 => ?_) (fun h64 => ?_)
      · refine c_exit ?_
        refine n_exit ?_
        refine n_exit ?_
        refine n_bhere ?_
        refine n_bnormal ?_
        refine n_then ?_
        refine r_list (by kernel_rfl) ?_
        refine s_val (v_add rfl rfl (by omega)) ?_
        refine s_val (v_move (v := .int .i64 _) rfl) ?_
        refine s_end ?_
        refine n_round (k + 1) ⟨_, (by omega), live6 rfl rfl rfl rfl rfl rfl⟩ (fun _ hw => hw) (by omega)
      have hm0 := of_decide_eq_true h64
      have hm : 0 ≤ (m : Int) ∧ (m : Int) < 4 := ⟨by omega, by omega⟩
      refine c_skip ?_
      refine n_then ?_
      refine c_seq ?_
      refine c_block ?_
      refine r_seq (by kernel_rfl) ?_
      refine s_val (v_move (v := .int .i64 _) rfl) ?_
      refine s_val (v_assign (v := .int .i64 _) rfl) ?_
      refine s_nil ?_
      refine r_seq (by kernel_rfl) ?_
      refine s_val (v_move (v := .int .i64 _) rfl) ?_
      refine s_val (v_move (v := .int .i64 _) rfl) ?_
      refine s_val (v_field (fo := 24) (by kernel_rfl) rfl) ?_
      refine s_val (v_idxA (len := 4) (size := 4) (k := .i64) (by kernel_rfl) rfl rfl (by assumption)) ?_
      refine s_val (v_idxA (len := 4) (size := 1) (k := .i64) (by kernel_rfl) rfl rfl (by assumption)) ?_
      refine s_val (v_load1 (v := .int .i64 _) (by kernel_rfl) rfl (.there .here) (H.at_lim _ (by assumption) (by assumption))) ?_
      refine s_val (v_assign (v := .int .i64 _) rfl) ?_
      refine s_nil ?_
      refine d_seq (by kernel_rfl) (by kernel_rfl) (fun w hw => hw.drew) (by kernel_rfl) ?_
      refine q_val (v_move (v := .int .i64 _) rfl) ?_
      refine q_val (v_geq (k := .i64) rfl rfl) ?_
      refine q_val (v_move (v := .bool _) rfl) ?_
      refine q_splitR (s := 74) rfl (fun h74 => ?_) (fun h74 => ?_)
      · refine q_pass rfl rfl h74 ?_
        refine q_pass rfl rfl h74 ?_
        refine q_pass rfl rfl h74 ?_
        refine q_pass rfl rfl h74 ?_
        refine q_pass rfl rfl h74 ?_
        refine q_pass rfl rfl h74 ?_
        refine q_val (v_pickF (v := .bool _) rfl h74 rfl) ?_
        refine q_val (v_move (v := .bool _) rfl) ?_
        refine q_pass (g := false) rfl rfl rfl ?_
        refine q_pass (g := false) rfl rfl rfl ?_
        refine q_pass (g := false) rfl rfl rfl ?_
        refine q_pass (g := false) rfl rfl rfl ?_
        refine q_pass (g := false) rfl rfl rfl ?_
        refine q_pass (g := false) rfl rfl rfl ?_
        refine q_pass (g := false) rfl rfl rfl ?_
        refine q_pass (g := false) rfl rfl rfl ?_
        refine q_pass (g := false) rfl rfl rfl ?_
        refine q_val (v_pickF (v := .bool _) rfl rfl rfl) ?_
        refine q_nil ?_
        refine c_condFh rfl rfl rfl ?_
        refine c_skip ?_
        refine n_bnormal ?_
        refine n_then ?_
        refine r_list (by kernel_rfl) ?_
        refine s_val (v_add rfl rfl (by omega)) ?_
        refine s_val (v_move (v := .int .i64 _) rfl) ?_
        refine s_end ?_
        refine n_round (m + 1) ⟨_, (by omega), live8 rfl rfl rfl rfl rfl rfl rfl rfl⟩ (fun _ hw => hw) (by omega)
      refine q_want rfl rfl h74 ?_
      refine q_val (v_loadA (m := 42) (by kernel_rfl) rfl (.there .here) (H.size _)) ?_
      refine q_want rfl rfl h74 ?_
      refine q_val (v_move (v := .int .i64 _) rfl) ?_
      refine q_want rfl rfl h74 ?_
      refine q_val (v_move (v := .int .i64 _) rfl) ?_
      refine q_want rfl rfl h74 ?_
      refine q_call (by kernel_rfl) (fun w hw => g_Net _ _ _ w) ?_
      refine q_want rfl rfl h74 ?_
      refine q_val (v_move (v := .int .i64 _) rfl) ?_
      refine q_want rfl rfl h74 ?_
      refine q_val (v_gtr (k := .i64) rfl rfl) ?_
      refine q_val (v_pickT (v := .bool _) rfl h74 rfl) ?_
      refine q_val (v_move (v := .bool _) rfl) ?_
      refine q_splitR (s := 82) rfl (fun h82 => ?_) (fun h82 => ?_)
      · refine q_pass rfl rfl h82 ?_
        refine q_pass rfl rfl h82 ?_
        refine q_pass rfl rfl h82 ?_
        refine q_pass rfl rfl h82 ?_
        refine q_pass rfl rfl h82 ?_
        refine q_pass rfl rfl h82 ?_
        refine q_pass rfl rfl h82 ?_
        refine q_pass rfl rfl h82 ?_
        refine q_pass rfl rfl h82 ?_
        refine q_val (v_pickF (v := .bool _) rfl h82 rfl) ?_
        refine q_nil ?_
        refine c_condFh rfl rfl rfl ?_
        refine c_skip ?_
        refine n_bnormal ?_
        refine n_then ?_
        refine r_list (by kernel_rfl) ?_
        refine s_val (v_add rfl rfl (by omega)) ?_
        refine s_val (v_move (v := .int .i64 _) rfl) ?_
        refine s_end ?_
        refine n_round (m + 1) ⟨_, (by omega), live8 rfl rfl rfl rfl rfl rfl rfl rfl⟩ (fun _ hw => hw) (by omega)
      refine q_want rfl rfl h82 ?_
      refine q_val (v_loadA (m := 42) (by kernel_rfl) rfl (.there .here) (H.size _)) ?_
      refine q_want rfl rfl h82 ?_
      refine q_val (v_move (v := .int .i64 _) rfl) ?_
      refine q_want rfl rfl h82 ?_
      refine q_val (v_move (v := .int .i64 _) rfl) ?_
      refine q_want rfl rfl h82 ?_
      refine q_call (by kernel_rfl) (fun w hw => g_Net _ _ _ w) ?_
      refine q_want rfl rfl h82 ?_
      refine q_val (v_loadA (m := 42) (by kernel_rfl) rfl (.there (.there .here)) (H.size _)) ?_
      refine q_want rfl rfl h82 ?_
      refine q_val (v_move (v := .int .i64 _) rfl) ?_
      refine q_want rfl rfl h82 ?_
      refine q_val (v_move (v := .int .i64 _) rfl) ?_
      refine q_want rfl rfl h82 ?_
      refine q_call (by kernel_rfl) (fun w hw => g_Net _ _ _ w) ?_
      refine q_want rfl rfl h82 ?_
      refine q_val (v_gtr (k := .i64) rfl rfl) ?_
      refine q_val (v_pickT (v := .bool _) rfl h82 rfl) ?_
      refine q_nil ?_
      refine c_condFh rfl rfl (decide_eq_false (un_net hgc hc21 hi hm (of_decide_eq_true h74) (of_decide_eq_true h82))) ?_
      refine c_skip ?_
      refine n_bnormal ?_
      refine n_then ?_
      refine r_list (by kernel_rfl) ?_
      refine s_val (v_add rfl rfl (by omega)) ?_
      refine s_val (v_move (v := .int .i64 _) rfl) ?_
      refine s_end ?_
      refine n_round (m + 1) ⟨_, (by omega), live8 rfl rfl rfl rfl rfl rfl rfl rfl⟩ (fun _ hw => hw) (by omega)
    refine q_want rfl rfl h49 ?_
    refine q_val (v_move (v := .int .i64 _) rfl) ?_
    refine q_want rfl rfl h49 ?_
    refine q_val (v_field (fo := 0) (by kernel_rfl) rfl) ?_
    refine q_want rfl rfl h49 ?_
    refine q_val (v_idxA (len := 4) (size := 2) (k := .i64) (by kernel_rfl) rfl rfl (by assumption)) ?_
    refine q_want rfl rfl h49 ?_
    refine q_val (v_field (fo := 0) (by kernel_rfl) rfl) ?_
    refine q_want rfl rfl h49 ?_
    refine q_val (v_load1 (v := .int .i64 _) (by kernel_rfl) rfl (.there .here) (H.at_has _ (by assumption))) ?_
    refine q_want rfl rfl h49 ?_
    refine q_val (v_move (v := .int .i64 _) rfl) ?_
    refine q_want rfl rfl h49 ?_
    refine q_val (v_field (fo := 0) (by kernel_rfl) rfl) ?_
    refine q_want rfl rfl h49 ?_
    refine q_val (v_idxA (len := 4) (size := 2) (k := .i64) (by kernel_rfl) rfl rfl (by assumption)) ?_
    refine q_want rfl rfl h49 ?_
    refine q_val (v_field (fo := 0) (by kernel_rfl) rfl) ?_
    refine q_want rfl rfl h49 ?_
    refine q_val (v_load1 (v := .int .i64 _) (by kernel_rfl) rfl (.there (.there .here)) (H.at_has _ (by assumption))) ?_
    refine q_want rfl rfl h49 ?_
    refine q_val (v_lss (k := .i64) rfl rfl) ?_
    refine q_want rfl rfl rfl ?_
    refine q_val (v_pickT (v := .bool _) rfl h49 rfl) ?_
    refine q_val (v_pickF (v := .bool _) rfl rfl rfl) ?_
    refine q_nil ?_
    refine c_condFh rfl rfl (decide_eq_false (un_has hgc hc21 hi (of_decide_eq_true h49))) ?_
    refine c_skip ?_
    refine n_then ?_
    refine r_seq (by kernel_rfl) ?_
    refine s_val (v_move (v := .int .i64 _) rfl) ?_
    refine s_nil ?_
    refine c_block ?_
    refine c_loop (σ := Nat) (fun (m : Nat) f => ∃ g, (m ≤ 4) ∧ f = (upd (upd (upd (upd (upd (upd (upd (upd g 1 (.pointer (some ⟨b1, 0, none⟩))) 3 (.pointer (some ⟨b3, 0, none⟩))) 4 (.slice a21 (untieM h.core ps).xs.length c21)) 5 (.pointer (some ⟨b5, 0, none⟩))) 6 (I (mSum (mostM h.core ps) (k + 1)))) 7 (I k)) 26 (I k)) 63 (I m))) (fun (m : Nat) => Has w F21 [(b5, .cells (rowA (mostM h.core ps)) 25), (b3, .cells h21.cells 29), (b1, .cells h.cells 29)]) (fun (m : Nat) => 4 - m) 0 ⟨_, Nat.zero_le _, live8 rfl rfl rfl rfl rfl rfl rfl rfl⟩ (fun w hw => hw) ?_
    rintro m _ ⟨g, hml, rfl⟩
    refine r_seq (by kernel_rfl) ?_
    refine s_val (v_lss (k := .i64) rfl rfl) ?_
    refine s_nil ?_
    refine c_seq ?_
    refine c_condR rfl rfl (fun h64 => ?_) (fun h64 => ?_)
    · refine c_exit ?_
      refine n_exit ?_
      refine n_exit ?_
      refine n_bhere ?_
      refine n_bnormal ?_
      refine n_then ?_
      refine r_list (by kernel_rfl) ?_
      refine s_val (v_add rfl rfl (by omega)) ?_
      refine s_val (v_move (v := .int .i64 _) rfl) ?_
      refine s_end ?_
      refine n_round (k + 1) ⟨_, (by omega), live6 rfl rfl rfl rfl rfl rfl⟩ (fun _ hw => hw) (by omega)
    have hm0 := of_decide_eq_true h64
    have hm : 0 ≤ (m : Int) ∧ (m : Int) < 4 := ⟨by omega, by omega⟩
    refine c_skip ?_
    refine n_then ?_
    refine c_seq ?_
    refine c_block ?_
    refine r_seq (by kernel_rfl) ?_
    refine s_val (v_move (v := .int .i64 _) rfl) ?_
    refine s_val (v_assign (v := .int .i64 _) rfl) ?_
    refine s_nil ?_
    refine r_seq (by kernel_rfl) ?_
    refine s_val (v_move (v := .int .i64 _) rfl) ?_
    refine s_val (v_move (v := .int .i64 _) rfl) ?_
    refine s_val (v_field (fo := 24) (by kernel_rfl) rfl) ?_
    refine s_val (v_idxA (len := 4) (size := 4) (k := .i64) (by kernel_rfl) rfl rfl (by assumption)) ?_
    refine s_val (v_idxA (len := 4) (size := 1) (k := .i64) (by kernel_rfl) rfl rfl (by assumption)) ?_
    refine s_val (v_load1 (v := .int .i64 _) (by kernel_rfl) rfl (.there .here) (H.at_lim _ (by assumption) (by assumption))) ?_
    refine s_val (v_assign (v := .int .i64 _) rfl) ?_
    refine s_nil ?_
    refine d_seq (by kernel_rfl) (by kernel_rfl) (fun w hw => hw.drew) (by kernel_rfl) ?_
    refine q_val (v_move (v := .int .i64 _) rfl) ?_
    refine q_val (v_geq (k := .i64) rfl rfl) ?_
    refine q_val (v_move (v := .bool _) rfl) ?_
    refine q_splitR (s := 74) rfl (fun h74 => ?_) (fun h74 => ?_)
    · refine q_pass rfl rfl h74 ?_
      refine q_pass rfl rfl h74 ?_
      refine q_pass rfl rfl h74 ?_
      refine q_pass rfl rfl h74 ?_
      refine q_pass rfl rfl h74 ?_
      refine q_pass rfl rfl h74 ?_
      refine q_val (v_pickF (v := .bool _) rfl h74 rfl) ?_
      refine q_val (v_move (v := .bool _) rfl) ?_
      refine q_pass (g := false) rfl rfl rfl ?_
      refine q_pass (g := false) rfl rfl rfl ?_
      refine q_pass (g := false) rfl rfl rfl ?_
      refine q_pass (g := false) rfl rfl rfl ?_
      refine q_pass (g := false) rfl rfl rfl ?_
      refine q_pass (g := false) rfl rfl rfl ?_
      refine q_pass (g := false) rfl rfl rfl ?_
      refine q_pass (g := false) rfl rfl rfl ?_
      refine q_pass (g := false) rfl rfl rfl ?_
      refine q_val (v_pickF (v := .bool _) rfl rfl rfl) ?_
      refine q_nil ?_
      refine c_condFh rfl rfl rfl ?_
      refine c_skip ?_
      refine n_bnormal ?_
      refine n_then ?_
      refine r_list (by kernel_rfl) ?_
      refine s_val (v_add rfl rfl (by omega)) ?_
      refine s_val (v_move (v := .int .i64 _) rfl) ?_
      refine s_end ?_
      refine n_round (m + 1) ⟨_, (by omega), live8 rfl rfl rfl rfl rfl rfl rfl rfl⟩ (fun _ hw => hw) (by omega)
    refine q_want rfl rfl h74 ?_
    refine q_val (v_loadA (m := 42) (by kernel_rfl) rfl (.there .here) (H.size _)) ?_
    refine q_want rfl rfl h74 ?_
    refine q_val (v_move (v := .int .i64 _) rfl) ?_
    refine q_want rfl rfl h74 ?_
    refine q_val (v_move (v := .int .i64 _) rfl) ?_
    refine q_want rfl rfl h74 ?_
    refine q_call (by kernel_rfl) (fun w hw => g_Net _ _ _ w) ?_
    refine q_want rfl rfl h74 ?_
    refine q_val (v_move (v := .int .i64 _) rfl) ?_
    refine q_want rfl rfl h74 ?_
    refine q_val (v_gtr (k := .i64) rfl rfl) ?_
    refine q_val (v_pickT (v := .bool _) rfl h74 rfl) ?_
    refine q_val (v_move (v := .bool _) rfl) ?_
    refine q_splitR (s := 82) rfl (fun h82 => ?_) (fun h82 => ?_)
    · refine q_pass rfl rfl h82 ?_
      refine q_pass rfl rfl h82 ?_
      refine q_pass rfl rfl h82 ?_
      refine q_pass rfl rfl h82 ?_
      refine q_pass rfl rfl h82 ?_
      refine q_pass rfl rfl h82 ?_
      refine q_pass rfl rfl h82 ?_
      refine q_pass rfl rfl h82 ?_
      refine q_pass rfl rfl h82 ?_
      refine q_val (v_pickF (v := .bool _) rfl h82 rfl) ?_
      refine q_nil ?_
      refine c_condFh rfl rfl rfl ?_
      refine c_skip ?_
      refine n_bnormal ?_
      refine n_then ?_
      refine r_list (by kernel_rfl) ?_
      refine s_val (v_add rfl rfl (by omega)) ?_
      refine s_val (v_move (v := .int .i64 _) rfl) ?_
      refine s_end ?_
      refine n_round (m + 1) ⟨_, (by omega), live8 rfl rfl rfl rfl rfl rfl rfl rfl⟩ (fun _ hw => hw) (by omega)
    refine q_want rfl rfl h82 ?_
    refine q_val (v_loadA (m := 42) (by kernel_rfl) rfl (.there .here) (H.size _)) ?_
    refine q_want rfl rfl h82 ?_
    refine q_val (v_move (v := .int .i64 _) rfl) ?_
    refine q_want rfl rfl h82 ?_
    refine q_val (v_move (v := .int .i64 _) rfl) ?_
    refine q_want rfl rfl h82 ?_
    refine q_call (by kernel_rfl) (fun w hw => g_Net _ _ _ w) ?_
    refine q_want rfl rfl h82 ?_
    refine q_val (v_loadA (m := 42) (by kernel_rfl) rfl (.there (.there .here)) (H.size _)) ?_
    refine q_want rfl rfl h82 ?_
    refine q_val (v_move (v := .int .i64 _) rfl) ?_
    refine q_want rfl rfl h82 ?_
    refine q_val (v_move (v := .int .i64 _) rfl) ?_
    refine q_want rfl rfl h82 ?_
    refine q_call (by kernel_rfl) (fun w hw => g_Net _ _ _ w) ?_
    refine q_want rfl rfl h82 ?_
    refine q_val (v_gtr (k := .i64) rfl rfl) ?_
    refine q_val (v_pickT (v := .bool _) rfl h82 rfl) ?_
    refine q_nil ?_
    refine c_condFh rfl rfl (decide_eq_false (un_net hgc hc21 hi hm (of_decide_eq_true h74) (of_decide_eq_true h82))) ?_
    refine c_skip ?_
    refine n_bnormal ?_
    refine n_then ?_
    refine r_list (by kernel_rfl) ?_
    refine s_val (v_add rfl rfl (by omega)) ?_
    refine s_val (v_move (v := .int .i64 _) rfl) ?_
    refine s_end ?_
    refine n_round (m + 1) ⟨_, (by omega), live8 rfl rfl rfl rfl rfl rfl rfl rfl⟩ (fun _ hw => hw) (by omega)
  refine q_want rfl rfl h38 ?_
  refine q_val (v_loadA (m := 42) (by kernel_rfl) rfl (.there .here) (H.size _)) ?_
  refine q_want rfl rfl h38 ?_
  refine q_val (v_move (v := .int .i64 _) rfl) ?_
  refine q_want rfl rfl h38 ?_
  refine q_call (by kernel_rfl) (fun w hw => g_Left _ _ w) ?_
  refine q_want rfl rfl h38 ?_
  refine q_val (v_lss (k := .i64) rfl rfl) ?_
  refine q_val (v_pickT (v := .bool _) rfl h38 rfl) ?_
  refine q_val (v_move (v := .bool _) rfl) ?_
  refine q_want rfl rfl (decide_eq_false (un_left hgc hc21 hi (of_decide_eq_true h38))) ?_
  refine q_val (v_move (v := .int .i64 _) rfl) ?_
  refine q_want rfl rfl (decide_eq_false (un_left hgc hc21 hi (of_decide_eq_true h38))) ?_
  refine q_val (v_idxA (len := 4) (size := 1) (k := .i64) (by kernel_rfl) rfl rfl (by assumption)) ?_
  refine q_want rfl rfl (decide_eq_false (un_left hgc hc21 hi (of_decide_eq_true h38))) ?_
  refine q_val (v_load1 (v := .int .i64 _) (by kernel_rfl) rfl .here (rowA_at0 _ (by assumption))) ?_
  refine q_want rfl rfl (decide_eq_false (un_left hgc hc21 hi (of_decide_eq_true h38))) ?_
  refine q_val (v_eql (k := .i64) rfl rfl) ?_
  refine q_want rfl rfl (decide_eq_false (un_left hgc hc21 hi (of_decide_eq_true h38))) ?_
  refine q_val (v_move (v := .bool _) rfl) ?_
  refine q_splitR (s := 49) rfl (fun h49 => ?_) (fun h49 => ?_)
  · refine q_pass rfl rfl h49 ?_
    refine q_pass rfl rfl h49 ?_
    refine q_pass rfl rfl h49 ?_
    refine q_pass rfl rfl h49 ?_
    refine q_pass rfl rfl h49 ?_
    refine q_pass rfl rfl h49 ?_
    refine q_pass rfl rfl h49 ?_
    refine q_pass rfl rfl h49 ?_
    refine q_pass rfl rfl h49 ?_
    refine q_pass rfl rfl h49 ?_
    refine q_pass rfl rfl h49 ?_
    refine q_want rfl rfl (decide_eq_false (un_left hgc hc21 hi (of_decide_eq_true h38))) ?_
    refine q_val (v_pickF (v := .bool _) rfl h49 rfl) ?_
    refine q_val (v_pickF (v := .bool _) rfl (decide_eq_false (un_left hgc hc21 hi (of_decide_eq_true h38))) rfl) ?_
    refine q_nil ?_
    refine c_condFh rfl rfl rfl ?_
    refine c_skip ?_
    refine n_then ?_
    refine r_seq (by kernel_rfl) ?_
    refine s_val (v_move (v := .int .i64 _) rfl) ?_
    refine s_nil ?_
    refine c_block ?_
    refine c_loop (σ := Nat) (fun (m : Nat) f => ∃ g, (m ≤ 4) ∧ f = (upd (upd (upd (upd (upd (upd (upd (upd g 1 (.pointer (some ⟨b1, 0, none⟩))) 3 (.pointer (some ⟨b3, 0, none⟩))) 4 (.slice a21 (untieM h.core ps).xs.length c21)) 5 (.pointer (some ⟨b5, 0, none⟩))) 6 (I (mSum (mostM h.core ps) (k + 1)))) 7 (I k)) 26 (I k)) 63 (I m))) (fun (m : Nat) => Has w F21 [(b5, .cells (rowA (mostM h.core ps)) 25), (b3, .cells h21.cells 29), (b1, .cells h.cells 29)]) (fun (m : Nat) => 4 - m) 0 ⟨_, Nat.zero_le _, live8 rfl rfl rfl rfl rfl rfl rfl rfl⟩ (fun w hw => hw) ?_
    rintro m _ ⟨g, hml, rfl⟩
    refine r_seq (by kernel_rfl) ?_
    refine s_val (v_lss (k := .i64) rfl rfl) ?_
    refine s_nil ?_
    refine c_seq ?_
    refine c_condR rfl rfl (fun h64 => ?_) (fun h64 => ?_)
    · refine c_exit ?_
      refine n_exit ?_
      refine n_exit ?_
      refine n_bhere ?_
      refine n_bnormal ?_
      refine n_then ?_
      refine r_list (by kernel_rfl) ?_
      refine s_val (v_add rfl rfl (by omega)) ?_
      refine s_val (v_move (v := .int .i64 _) rfl) ?_
      refine s_end ?_
      refine n_round (k + 1) ⟨_, (by omega), live6 rfl rfl rfl rfl rfl rfl⟩ (fun _ hw => hw) (by omega)
    have hm0 := of_decide_eq_true h64
    have hm : 0 ≤ (m : Int) ∧ (m : Int) < 4 := ⟨by omega, by omega⟩
    refine c_skip ?_
    refine n_then ?_
    refine c_seq ?_
    refine c_block ?_
    refine r_seq (by kernel_rfl) ?_
    refine s_val (v_move (v := .int .i64 _) rfl) ?_
    refine s_val (v_assign (v := .int .i64 _) rfl) ?_
    refine s_nil ?_
    refine r_seq (by kernel_rfl) ?_
    refine s_val (v_move (v := .int .i64 _) rfl) ?_
    refine s_val (v_move (v := .int .i64 _) rfl) ?_
    refine s_val (v_field (fo := 24) (by kernel_rfl) rfl) ?_
    refine s_val (v_idxA (len := 4) (size := 4) (k := .i64) (by kernel_rfl) rfl rfl (by assumption)) ?_
    refine s_val (v_idxA (len := 4) (size := 1) (k := .i64) (by kernel_rfl) rfl rfl (by assumption)) ?_
    refine s_val (v_load1 (v := .int .i64 _) (by kernel_rfl) rfl (.there .here) (H.at_lim _ (by assumption) (by assumption))) ?_
    refine s_val (v_assign (v := .int .i64 _) rfl) ?_
    refine s_nil ?_
    refine d_seq (by kernel_rfl) (by kernel_rfl) (fun w hw => hw.drew) (by kernel_rfl) ?_
    refine q_val (v_move (v := .int .i64 _) rfl) ?_
    refine q_val (v_geq (k := .i64) rfl rfl) ?_
    refine q_val (v_move (v := .bool _) rfl) ?_
    refine q_splitR (s := 74) rfl (fun h74 => ?_) (fun h74 => ?_)
    · refine q_pass rfl rfl h74 ?_
      refine q_pass rfl rfl h74 ?_
      refine q_pass rfl rfl h74 ?_
      refine q_pass rfl rfl h74 ?_
      refine q_pass rfl rfl h74 ?_
      refine q_pass rfl rfl h74 ?_
      refine q_val (v_pickF (v := .bool _) rfl h74 rfl) ?_
      refine q_val (v_move (v := .bool _) rfl) ?_
      refine q_pass (g := false) rfl rfl rfl ?_
      refine q_pass (g := false) rfl rfl rfl ?_
      refine q_pass (g := false) rfl rfl rfl ?_
      refine q_pass (g := false) rfl rfl rfl ?_
      refine q_pass (g := false) rfl rfl rfl ?_
      refine q_pass (g := false) rfl rfl rfl ?_
      refine q_pass (g := false) rfl rfl rfl ?_
      refine q_pass (g := false) rfl rfl rfl ?_
      refine q_pass (g := false) rfl rfl rfl ?_
      refine q_val (v_pickF (v := .bool _) rfl rfl rfl) ?_
      refine q_nil ?_
      refine c_condFh rfl rfl rfl ?_
      refine c_skip ?_
      refine n_bnormal ?_
      refine n_then ?_
      refine r_list (by kernel_rfl) ?_
      refine s_val (v_add rfl rfl (by omega)) ?_
      refine s_val (v_move (v := .int .i64 _) rfl) ?_
      refine s_end ?_
      refine n_round (m + 1) ⟨_, (by omega), live8 rfl rfl rfl rfl rfl rfl rfl rfl⟩ (fun _ hw => hw) (by omega)
    refine q_want rfl rfl h74 ?_
    refine q_val (v_loadA (m := 42) (by kernel_rfl) rfl (.there .here) (H.size _)) ?_
    refine q_want rfl rfl h74 ?_
    refine q_val (v_move (v := .int .i64 _) rfl) ?_
    refine q_want rfl rfl h74 ?_
    refine q_val (v_move (v := .int .i64 _) rfl) ?_
    refine q_want rfl rfl h74 ?_
    refine q_call (by kernel_rfl) (fun w hw => g_Net _ _ _ w) ?_
    refine q_want rfl rfl h74 ?_
    refine q_val (v_move (v := .int .i64 _) rfl) ?_
    refine q_want rfl rfl h74 ?_
    refine q_val (v_gtr (k := .i64) rfl rfl) ?_
    refine q_val (v_pickT (v := .bool _) rfl h74 rfl) ?_
    refine q_val (v_move (v := .bool _) rfl) ?_
    refine q_splitR (s := 82) rfl (fun h82 => ?_) (fun h82 => ?_)
    · refine q_pass rfl rfl h82 ?_
      refine q_pass rfl rfl h82 ?_
      refine q_pass rfl rfl h82 ?_
      refine q_pass rfl rfl h82 ?_
      refine q_pass rfl rfl h82 ?_
      refine q_pass rfl rfl h82 ?_
      refine q_pass rfl rfl h82 ?_
      refine q_pass rfl rfl h82 ?_
      refine q_pass rfl rfl h82 ?_
      refine q_val (v_pickF (v := .bool _) rfl h82 rfl) ?_
      refine q_nil ?_
      refine c_condFh rfl rfl rfl ?_
      refine c_skip ?_
      refine n_bnormal ?_
      refine n_then ?_
      refine r_list (by kernel_rfl) ?_
      refine s_val (v_add rfl rfl (by omega)) ?_
      refine s_val (v_move (v := .int .i64 _) rfl) ?_
      refine s_end ?_
      refine n_round (m + 1) ⟨_, (by omega), live8 rfl rfl rfl rfl rfl rfl rfl rfl⟩ (fun _ hw => hw) (by omega)
    refine q_want rfl rfl h82 ?_
    refine q_val (v_loadA (m := 42) (by kernel_rfl) rfl (.there .here) (H.size _)) ?_
    refine q_want rfl rfl h82 ?_
    refine q_val (v_move (v := .int .i64 _) rfl) ?_
    refine q_want rfl rfl h82 ?_
    refine q_val (v_move (v := .int .i64 _) rfl) ?_
    refine q_want rfl rfl h82 ?_
    refine q_call (by kernel_rfl) (fun w hw => g_Net _ _ _ w) ?_
    refine q_want rfl rfl h82 ?_
    refine q_val (v_loadA (m := 42) (by kernel_rfl) rfl (.there (.there .here)) (H.size _)) ?_
    refine q_want rfl rfl h82 ?_
    refine q_val (v_move (v := .int .i64 _) rfl) ?_
    refine q_want rfl rfl h82 ?_
    refine q_val (v_move (v := .int .i64 _) rfl) ?_
    refine q_want rfl rfl h82 ?_
    refine q_call (by kernel_rfl) (fun w hw => g_Net _ _ _ w) ?_
    refine q_want rfl rfl h82 ?_
    refine q_val (v_gtr (k := .i64) rfl rfl) ?_
    refine q_val (v_pickT (v := .bool _) rfl h82 rfl) ?_
    refine q_nil ?_
    refine c_condFh rfl rfl (decide_eq_false (un_net hgc hc21 hi hm (of_decide_eq_true h74) (of_decide_eq_true h82))) ?_
    refine c_skip ?_
    refine n_bnormal ?_
    refine n_then ?_
    refine r_list (by kernel_rfl) ?_
    refine s_val (v_add rfl rfl (by omega)) ?_
    refine s_val (v_move (v := .int .i64 _) rfl) ?_
    refine s_end ?_
    refine n_round (m + 1) ⟨_, (by omega), live8 rfl rfl rfl rfl rfl rfl rfl rfl⟩ (fun _ hw => hw) (by omega)
  refine q_want rfl rfl h49 ?_
  refine q_val (v_move (v := .int .i64 _) rfl) ?_
  refine q_want rfl rfl h49 ?_
  refine q_val (v_field (fo := 0) (by kernel_rfl) rfl) ?_
  refine q_want rfl rfl h49 ?_
  refine q_val (v_idxA (len := 4) (size := 2) (k := .i64) (by kernel_rfl) rfl rfl (by assumption)) ?_
  refine q_want rfl rfl h49 ?_
  refine q_val (v_field (fo := 0) (by kernel_rfl) rfl) ?_
  refine q_want rfl rfl h49 ?_
  refine q_val (v_load1 (v := .int .i64 _) (by kernel_rfl) rfl (.there .here) (H.at_has _ (by assumption))) ?_
  refine q_want rfl rfl h49 ?_
  refine q_val (v_move (v := .int .i64 _) rfl) ?_
  refine q_want rfl rfl h49 ?_
  refine q_val (v_field (fo := 0) (by kernel_rfl) rfl) ?_
  refine q_want rfl rfl h49 ?_
  refine q_val (v_idxA (len := 4) (size := 2) (k := .i64) (by kernel_rfl) rfl rfl (by assumption)) ?_
  refine q_want rfl rfl h49 ?_
  refine q_val (v_field (fo := 0) (by kernel_rfl) rfl) ?_
  refine q_want rfl rfl h49 ?_
  refine q_val (v_load1 (v := .int .i64 _) (by kernel_rfl) rfl (.there (.there .here)) (H.at_has _ (by assumption))) ?_
  refine q_want rfl rfl h49 ?_
  refine q_val (v_lss (k := .i64) rfl rfl) ?_
  refine q_want rfl rfl (decide_eq_false (un_left hgc hc21 hi (of_decide_eq_true h38))) ?_
  refine q_val (v_pickT (v := .bool _) rfl h49 rfl) ?_
  refine q_val (v_pickF (v := .bool _) rfl (decide_eq_false (un_left hgc hc21 hi (of_decide_eq_true h38))) rfl) ?_
  refine q_nil ?_
  refine c_condFh rfl rfl (decide_eq_false (un_has hgc hc21 hi (of_decide_eq_true h49))) ?_
  refine c_skip ?_
  refine n_then ?_
  refine r_seq (by kernel_rfl) ?_
  refine s_val (v_move (v := .int .i64 _) rfl) ?_
  refine s_nil ?_
  refine c_block ?_
  refine c_loop (σ := Nat) (fun (m : Nat) f => ∃ g, (m ≤ 4) ∧ f = (upd (upd (upd (upd (upd (upd (upd (upd g 1 (.pointer (some ⟨b1, 0, none⟩))) 3 (.pointer (some ⟨b3, 0, none⟩))) 4 (.slice a21 (untieM h.core ps).xs.length c21)) 5 (.pointer (some ⟨b5, 0, none⟩))) 6 (I (mSum (mostM h.core ps) (k + 1)))) 7 (I k)) 26 (I k)) 63 (I m))) (fun (m : Nat) => Has w F21 [(b5, .cells (rowA (mostM h.core ps)) 25), (b3, .cells h21.cells 29), (b1, .cells h.cells 29)]) (fun (m : Nat) => 4 - m) 0 ⟨_, Nat.zero_le _, live8 rfl rfl rfl rfl rfl rfl rfl rfl⟩ (fun w hw => hw) ?_
  rintro m _ ⟨g, hml, rfl⟩
  refine r_seq (by kernel_rfl) ?_
  refine s_val (v_lss (k := .i64) rfl rfl) ?_
  refine s_nil ?_
  refine c_seq ?_
  refine c_condR rfl rfl (fun h64 => ?_) (fun h64 => ?_)
  · refine c_exit ?_
    refine n_exit ?_
    refine n_exit ?_
    refine n_bhere ?_
    refine n_bnormal ?_
    refine n_then ?_
    refine r_list (by kernel_rfl) ?_
    refine s_val (v_add rfl rfl (by omega)) ?_
    refine s_val (v_move (v := .int .i64 _) rfl) ?_
    refine s_end ?_
    refine n_round (k + 1) ⟨_, (by omega), live6 rfl rfl rfl rfl rfl rfl⟩ (fun _ hw => hw) (by omega)
  have hm0 := of_decide_eq_true h64
  have hm : 0 ≤ (m : Int) ∧ (m : Int) < 4 := ⟨by omega, by omega⟩
  refine c_skip ?_
  refine n_then ?_
  refine c_seq ?_
  refine c_block ?_
  refine r_seq (by kernel_rfl) ?_
  refine s_val (v_move (v := .int .i64 _) rfl) ?_
  refine s_val (v_assign (v := .int .i64 _) rfl) ?_
  refine s_nil ?_
  refine r_seq (by kernel_rfl) ?_
  refine s_val (v_move (v := .int .i64 _) rfl) ?_
  refine s_val (v_move (v := .int .i64 _) rfl) ?_
  refine s_val (v_field (fo := 24) (by kernel_rfl) rfl) ?_
  refine s_val (v_idxA (len := 4) (size := 4) (k := .i64) (by kernel_rfl) rfl rfl (by assumption)) ?_
  refine s_val (v_idxA (len := 4) (size := 1) (k := .i64) (by kernel_rfl) rfl rfl (by assumption)) ?_
  refine s_val (v_load1 (v := .int .i64 _) (by kernel_rfl) rfl (.there .here) (H.at_lim _ (by assumption) (by assumption))) ?_
  refine s_val (v_assign (v := .int .i64 _) rfl) ?_
  refine s_nil ?_
  refine d_seq (by kernel_rfl) (by kernel_rfl) (fun w hw => hw.drew) (by kernel_rfl) ?_
  refine q_val (v_move (v := .int .i64 _) rfl) ?_
  refine q_val (v_geq (k := .i64) rfl rfl) ?_
  refine q_val (v_move (v := .bool _) rfl) ?_
  refine q_splitR (s := 74) rfl (fun h74 => ?_) (fun h74 => ?_)
  · refine q_pass rfl rfl h74 ?_
    refine q_pass rfl rfl h74 ?_
    refine q_pass rfl rfl h74 ?_
    refine q_pass rfl rfl h74 ?_
    refine q_pass rfl rfl h74 ?_
    refine q_pass rfl rfl h74 ?_
    refine q_val (v_pickF (v := .bool _) rfl h74 rfl) ?_
    refine q_val (v_move (v := .bool _) rfl) ?_
    refine q_pass (g := false) rfl rfl rfl ?_
    refine q_pass (g := false) rfl rfl rfl ?_
    refine q_pass (g := false) rfl rfl rfl ?_
    refine q_pass (g := false) rfl rfl rfl ?_
    refine q_pass (g := false) rfl rfl rfl ?_
    refine q_pass (g := false) rfl rfl rfl ?_
    refine q_pass (g := false) rfl rfl rfl ?_
    refine q_pass (g := false) rfl rfl rfl ?_
    refine q_pass (g := false) rfl rfl rfl ?_
    refine q_val (v_pickF (v := .bool _) rfl rfl rfl) ?_
    refine q_nil ?_
    refine c_condFh rfl rfl rfl ?_
    refine c_skip ?_
    refine n_bnormal ?_
    refine n_then ?_
    refine r_list (by kernel_rfl) ?_
    refine s_val (v_add rfl rfl (by omega)) ?_
    refine s_val (v_move (v := .int .i64 _) rfl) ?_
    refine s_end ?_
    refine n_round (m + 1) ⟨_, (by omega), live8 rfl rfl rfl rfl rfl rfl rfl rfl⟩ (fun _ hw => hw) (by omega)
  refine q_want rfl rfl h74 ?_
  refine q_val (v_loadA (m := 42) (by kernel_rfl) rfl (.there .here) (H.size _)) ?_
  refine q_want rfl rfl h74 ?_
  refine q_val (v_move (v := .int .i64 _) rfl) ?_
  refine q_want rfl rfl h74 ?_
  refine q_val (v_move (v := .int .i64 _) rfl) ?_
  refine q_want rfl rfl h74 ?_
  refine q_call (by kernel_rfl) (fun w hw => g_Net _ _ _ w) ?_
  refine q_want rfl rfl h74 ?_
  refine q_val (v_move (v := .int .i64 _) rfl) ?_
  refine q_want rfl rfl h74 ?_
  refine q_val (v_gtr (k := .i64) rfl rfl) ?_
  refine q_val (v_pickT (v := .bool _) rfl h74 rfl) ?_
  refine q_val (v_move (v := .bool _) rfl) ?_
  refine q_splitR (s := 82) rfl (fun h82 => ?_) (fun h82 => ?_)
  · refine q_pass rfl rfl h82 ?_
    refine q_pass rfl rfl h82 ?_
    refine q_pass rfl rfl h82 ?_
    refine q_pass rfl rfl h82 ?_
    refine q_pass rfl rfl h82 ?_
    refine q_pass rfl rfl h82 ?_
    refine q_pass rfl rfl h82 ?_
    refine q_pass rfl rfl h82 ?_
    refine q_pass rfl rfl h82 ?_
    refine q_val (v_pickF (v := .bool _) rfl h82 rfl) ?_
    refine q_nil ?_
    refine c_condFh rfl rfl rfl ?_
    refine c_skip ?_
    refine n_bnormal ?_
    refine n_then ?_
    refine r_list (by kernel_rfl) ?_
    refine s_val (v_add rfl rfl (by omega)) ?_
    refine s_val (v_move (v := .int .i64 _) rfl) ?_
    refine s_end ?_
    refine n_round (m + 1) ⟨_, (by omega), live8 rfl rfl rfl rfl rfl rfl rfl rfl⟩ (fun _ hw => hw) (by omega)
  refine q_want rfl rfl h82 ?_
  refine q_val (v_loadA (m := 42) (by kernel_rfl) rfl (.there .here) (H.size _)) ?_
  refine q_want rfl rfl h82 ?_
  refine q_val (v_move (v := .int .i64 _) rfl) ?_
  refine q_want rfl rfl h82 ?_
  refine q_val (v_move (v := .int .i64 _) rfl) ?_
  refine q_want rfl rfl h82 ?_
  refine q_call (by kernel_rfl) (fun w hw => g_Net _ _ _ w) ?_
  refine q_want rfl rfl h82 ?_
  refine q_val (v_loadA (m := 42) (by kernel_rfl) rfl (.there (.there .here)) (H.size _)) ?_
  refine q_want rfl rfl h82 ?_
  refine q_val (v_move (v := .int .i64 _) rfl) ?_
  refine q_want rfl rfl h82 ?_
  refine q_val (v_move (v := .int .i64 _) rfl) ?_
  refine q_want rfl rfl h82 ?_
  refine q_call (by kernel_rfl) (fun w hw => g_Net _ _ _ w) ?_
  refine q_want rfl rfl h82 ?_
  refine q_val (v_gtr (k := .i64) rfl rfl) ?_
  refine q_val (v_pickT (v := .bool _) rfl h82 rfl) ?_
  refine q_nil ?_
  refine c_condFh rfl rfl (decide_eq_false (un_net hgc hc21 hi hm (of_decide_eq_true h74) (of_decide_eq_true h82))) ?_
  refine c_skip ?_
  refine n_bnormal ?_
  refine n_then ?_
  refine r_list (by kernel_rfl) ?_
  refine s_val (v_add rfl rfl (by omega)) ?_
  refine s_val (v_move (v := .int .i64 _) rfl) ?_
  refine s_end ?_
  refine n_round (m + 1) ⟨_, (by omega), live8 rfl rfl rfl rfl rfl rfl rfl rfl⟩ (fun _ hw => hw) (by omega)

end Go.Proofs.Ytmkboljfbmlebaa
/- Rows of numbers that come in as arguments. No condition. -/
namespace Go.Proofs.Ytmkboljfbmlebaa
open Go.RowKit
set_option linter.unusedSimpArgs false
set_option linter.unusedVariables false

section
variable {Hh : Type} {enc : TypeId × Value → Hh} {P : Program} {w : World} {base : Nat} {spare : Nat → Bool} {held : Bool}
theorem open_row {T : TypeId} (hB : flatB P 4 T 4 = true) {fuel : Nat} {cs : List Value} {x : DataW Hh × List MemPlace} (hx : DataW.trod enc P w base spare held fuel T cs = some x) : ∃ r : Int → Int, cs.toArray = rowA r := by
  obtain ⟨hl, hI⟩ := read_flat 4 T 4 hB _ _ _ hx
  match cs, hl with
  | [c0, c1, c2, c3], _ =>
    refine ⟨fun i => intV ([c0, c1, c2, c3].getD i.toNat undef), ?_⟩
    have e0 := intV_of (hI c0 (by simp))
    have e1 := intV_of (hI c1 (by simp))
    have e2 := intV_of (hI c2 (by simp))
    have e3 := intV_of (hI c3 (by simp))
    have : rowA (fun i => intV ([c0, c1, c2, c3].getD i.toNat undef)) = #[I (intV c0), I (intV c1), I (intV c2), I (intV c3)] := rfl
    rw [this, e0, e1, e2, e3]
end
end Go.Proofs.Ytmkboljfbmlebaa
