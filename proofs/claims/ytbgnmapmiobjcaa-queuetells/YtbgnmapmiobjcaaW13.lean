/- Contracts of queues. No condition. -/
import Derived.Test.YtbgnmapmiobjcaaW23
import Derived.Test.YtbgnmapmiobjcaaK16
namespace Go.Proofs.Ytbgnmapmiobjcaa
open Go.RowKit
set_option linter.unusedSimpArgs false
set_option linter.unusedVariables false
set_option maxRecDepth 100000
attribute [local irreducible] cC sC nC rC qw

set_option maxHeartbeats 1000000 in
theorem gl_queues  (w : World) : Gives Try.prog 28 [] w (.bool true) := by
  refine gives_of Try.func28 rfl Try.ntmps28 (by simp) ?_
  refine r_seq (by kernel_rfl) ?_
  refine s_val (v_assign (v := .bool _) rfl) ?_
  refine s_nil ?_
  refine r_seq (by kernel_rfl) ?_
  refine s_call (by kernel_rfl) (fun w hw => g_New w) ?_
  refine s_alloc (z := .agg zeroH.cells) (by kernel_rfl) (fun b1 => ?_)
  refine s_storeA (m := 42) (by kernel_rfl) rfl rfl .here (H.size _) (H.size _) (H.all1 _) ?_
  refine s_nil ?_
  refine r_seq (by kernel_rfl) ?_
  refine s_val (v_field (fo := 0) (by kernel_rfl) rfl) ?_
  refine s_val (v_idxA (len := 4) (size := 2) (k := .i64) (by kernel_rfl) rfl rfl (by decide)) ?_
  refine s_val (v_field (fo := 0) (by kernel_rfl) rfl) ?_
  refine s_store1 (v := .int .i64 _) (by kernel_rfl) rfl rfl .here (H.set_has _ (by decide)) rfl ?_
  refine s_val (v_field (fo := 41) (by kernel_rfl) rfl) ?_
  refine s_store1 (v := .int .i64 _) (by kernel_rfl) rfl rfl .here (H.set_next _) rfl ?_
  refine s_nil ?_
  refine r_seq (by kernel_rfl) ?_
  refine s_val (v_build (vs := [(1, .int .i64 _), (2, .int .i64 _), (4, .int .i64 _), (5, .int .i64 _)]) (cs := PayS.cells ⟨0, 1, 9, 0, 1, 1⟩) rfl (by kernel_rfl)) ?_
  refine s_val (v_build (vs := [(0, .int .i64 _), (1, .int .i64 _), (2, .int .i64 _), (4, .int .i64 _)]) (cs := PayS.cells ⟨1, 2, 4, 0, 1, 0⟩) rfl (by kernel_rfl)) ?_
  refine s_buildS (e := 36) (vs := [(0, .agg _), (1, .agg _)]) (cs := (flatC qPays).toArray) rfl (by kernel_rfl) (fun b11 => ?_)
  refine s_val (v_field (fo := 40) (by kernel_rfl) rfl) ?_
  refine s_store1 (v := .slice _ _ _) (by kernel_rfl) rfl rfl (.there .here) (H.set_pays _) rfl ?_
  refine s_nil ?_
  refine c_forget (E := [_]) (L := [_]) (fun F1 hF1 hK1 => ?_)
  have hpq : PaysIn F1 (some ⟨b11, 0, none⟩) 2 qPays := PaysE.known (pc := 2) ⟨rfl, by decide, .inr ⟨b11, _, _, rfl, rfl, rfl, cellsOf_flat _⟩⟩ hK1
  refine r_seq (by kernel_rfl) ?_
  refine s_val (v_loadA (m := 42) (by kernel_rfl) rfl .here (H.size _)) ?_
  refine s_callG (by kernel_rfl) (sweepF_mono _ _ _) (fun w hw => g_Sweep (qHouse (some ⟨b11, 0, none⟩)) qPays w (hpq.at hw) (show 2 * 48 ≤ 281474976710656 by decide) (show 2 ≤ 2 by decide)) (fun F15 v15 hF15 hR15 => ?_)
  obtain ⟨v1, v2, rfl, ⟨h15, rfl, hc15, hl15, ho15⟩, hi15⟩ := hR15
  obtain ⟨a15, c15, rfl, ia15⟩ := hi15.at
  refine s_val (v_move (v := .tuple _) rfl) ?_
  refine s_val (v_extract rfl rfl) ?_
  refine s_val (v_extract rfl rfl) ?_
  refine s_alloc (z := .agg zeroH.cells) (by kernel_rfl) (fun b2 => ?_)
  refine s_storeA (m := 42) (by kernel_rfl) rfl rfl .here (H.size _) (H.size _) (H.all1 _) ?_
  refine s_val (v_assign (v := .slice _ _ _) rfl) ?_
  refine s_nil ?_
  have hhas : h15.has 1 = 5 := (congrFun (show h15.core.has = _ from congrArg H.has hc15) 1).trans qSweep_has
  have p15 := outPays (F' := F15) (h0 := qHouse (some ⟨b11, 0, none⟩)) hpq hF15 (more_young _ _) ho15
  have hpl : h15.pl = 2 := p15.1.symm.trans (sweepM_len _ _).1
  refine r_seq (by kernel_rfl) ?_
  refine s_val (v_move (v := .slice _ _ _) rfl) ?_
  refine s_val (v_lenS (T := 43) (m := 1) (by kernel_rfl) rfl rfl) ?_
  refine s_val (v_eql (k := .i64) rfl rfl) ?_
  refine s_val (v_move (v := .bool _) rfl) ?_
  refine s_want rfl rfl (decide_eq_true (congrArg (Nat.cast : Nat → Int) qSweep_len)) ?_
  refine s_val (v_field (fo := 0) (by kernel_rfl) rfl) ?_
  refine s_want rfl rfl (decide_eq_true (congrArg (Nat.cast : Nat → Int) qSweep_len)) ?_
  refine s_val (v_idxA (len := 4) (size := 2) (k := .i64) (by kernel_rfl) rfl rfl (by decide)) ?_
  refine s_want rfl rfl (decide_eq_true (congrArg (Nat.cast : Nat → Int) qSweep_len)) ?_
  refine s_val (v_field (fo := 0) (by kernel_rfl) rfl) ?_
  refine s_want rfl rfl (decide_eq_true (congrArg (Nat.cast : Nat → Int) qSweep_len)) ?_
  refine s_val (v_load1 (v := .int .i64 _) (by kernel_rfl) rfl .here (H.at_has _ (by decide))) ?_
  refine s_want rfl rfl (decide_eq_true (congrArg (Nat.cast : Nat → Int) qSweep_len)) ?_
  refine s_val (v_eql (k := .i64) rfl rfl) ?_
  refine s_val (v_pickT (v := .bool _) rfl (decide_eq_true (congrArg (Nat.cast : Nat → Int) qSweep_len)) rfl) ?_
  refine s_val (v_move (v := .bool _) rfl) ?_
  refine s_want rfl rfl (decide_eq_true hhas) ?_
  refine s_val (v_loadA (m := 42) (by kernel_rfl) rfl .here (H.size _)) ?_
  refine s_want rfl rfl (decide_eq_true hhas) ?_
  refine s_callF (by kernel_rfl) (fun w hw => g_Of h15 _ 0 w (p15.at hw) (by rw [hpl]; decide) hl15 (sweepM_seqs qPays_seqs) (.inl (by decide))) (fun F30 v30 E30 hF30 hK30 hR30 => ?_)
  obtain ⟨a30, c30, rfl, ia30⟩ := (ints_of_list hR30 hK30).at
  refine s_want rfl rfl (decide_eq_true hhas) ?_
  refine s_val (v_lenS (T := 43) (m := 1) (by kernel_rfl) rfl rfl) ?_
  refine s_want rfl rfl (decide_eq_true hhas) ?_
  refine s_val (v_eql (k := .i64) rfl rfl) ?_
  refine s_val (v_pickT (v := .bool _) rfl (decide_eq_true hhas) rfl) ?_
  refine s_val (v_assign (v := .bool _) rfl) ?_
  refine s_nil ?_
  refine c_ret ?_
  refine n_done rfl (by decide) (Eq.trans (b := .bool _) rfl (congrArg Value.bool ?_))
  exact decide_eq_true (congrArg (fun l : List Int => (l.length : Int)) qSweep_rest)

set_option maxHeartbeats 1000000 in
theorem gk_queues  (w : World) : Gives Try.prog 33 [] w (.bool true) := by
  refine gives_of Try.func33 rfl Try.ntmps33 (by simp) ?_
  refine r_seq (by kernel_rfl) ?_
  refine s_val (v_assign (v := .bool _) rfl) ?_
  refine s_nil ?_
  refine r_seq (by kernel_rfl) ?_
  refine s_call (by kernel_rfl) (fun w hw => g_New w) ?_
  refine s_alloc (z := .agg zeroH.cells) (by kernel_rfl) (fun b1 => ?_)
  refine s_storeA (m := 42) (by kernel_rfl) rfl rfl .here (H.size _) (H.size _) (H.all1 _) ?_
  refine s_nil ?_
  refine r_seq (by kernel_rfl) ?_
  refine s_val (v_field (fo := 0) (by kernel_rfl) rfl) ?_
  refine s_val (v_idxA (len := 4) (size := 2) (k := .i64) (by kernel_rfl) rfl rfl (by decide)) ?_
  refine s_val (v_field (fo := 0) (by kernel_rfl) rfl) ?_
  refine s_store1 (v := .int .i64 _) (by kernel_rfl) rfl rfl .here (H.set_has _ (by decide)) rfl ?_
  refine s_val (v_field (fo := 41) (by kernel_rfl) rfl) ?_
  refine s_store1 (v := .int .i64 _) (by kernel_rfl) rfl rfl .here (H.set_next _) rfl ?_
  refine s_nil ?_
  refine r_seq (by kernel_rfl) ?_
  refine s_val (v_build (vs := [(1, .int .i64 _), (2, .int .i64 _), (4, .int .i64 _), (5, .int .i64 _)]) (cs := PayS.cells ⟨0, 1, 9, 0, 1, 1⟩) rfl (by kernel_rfl)) ?_
  refine s_val (v_build (vs := [(0, .int .i64 _), (1, .int .i64 _), (2, .int .i64 _), (4, .int .i64 _)]) (cs := PayS.cells ⟨1, 2, 4, 0, 1, 0⟩) rfl (by kernel_rfl)) ?_
  refine s_buildS (e := 36) (vs := [(0, .agg _), (1, .agg _)]) (cs := (flatC qPays).toArray) rfl (by kernel_rfl) (fun b11 => ?_)
  refine s_val (v_field (fo := 40) (by kernel_rfl) rfl) ?_
  refine s_store1 (v := .slice _ _ _) (by kernel_rfl) rfl rfl (.there .here) (H.set_pays _) rfl ?_
  refine s_nil ?_
  refine c_forget (E := [_]) (L := [_]) (fun F1 hF1 hK1 => ?_)
  have hpq : PaysIn F1 (some ⟨b11, 0, none⟩) 2 qPays := PaysE.known (pc := 2) ⟨rfl, by decide, .inr ⟨b11, _, _, rfl, rfl, rfl, cellsOf_flat _⟩⟩ hK1
  refine r_seq (by kernel_rfl) ?_
  refine s_val (v_loadA (m := 42) (by kernel_rfl) rfl .here (H.size _)) ?_
  refine s_callG (by kernel_rfl) (sweepF_mono _ _ _) (fun w hw => g_Sweep (qHouse (some ⟨b11, 0, none⟩)) qPays w (hpq.at hw) (show 2 * 48 ≤ 281474976710656 by decide) (show 2 ≤ 2 by decide)) (fun F15 v15 hF15 hR15 => ?_)
  obtain ⟨v1, v2, rfl, ⟨h15, rfl, hc15, hl15, ho15⟩, hi15⟩ := hR15
  obtain ⟨a15, c15, rfl, ia15⟩ := hi15.at
  refine s_val (v_move (v := .tuple _) rfl) ?_
  refine s_val (v_extract rfl rfl) ?_
  refine s_val (v_extract rfl rfl) ?_
  refine s_alloc (z := .agg zeroH.cells) (by kernel_rfl) (fun b2 => ?_)
  refine s_storeA (m := 42) (by kernel_rfl) rfl rfl .here (H.size _) (H.size _) (H.all1 _) ?_
  refine s_val (v_assign (v := .slice _ _ _) rfl) ?_
  refine s_nil ?_
  have hhas : h15.has 1 = 5 := (congrFun (show h15.core.has = _ from congrArg H.has hc15) 1).trans qSweep_has
  have p15 := outPays (F' := F15) (h0 := qHouse (some ⟨b11, 0, none⟩)) hpq hF15 (more_young _ _) ho15
  have hpl : h15.pl = 2 := p15.1.symm.trans (sweepM_len _ _).1
  refine r_seq (by kernel_rfl) ?_
  refine s_val (v_move (v := .slice _ _ _) rfl) ?_
  refine s_val (v_lenS (T := 43) (m := 1) (by kernel_rfl) rfl rfl) ?_
  refine s_val (v_eql (k := .i64) rfl rfl) ?_
  refine s_val (v_move (v := .bool _) rfl) ?_
  refine s_want rfl rfl (decide_eq_true (congrArg (Nat.cast : Nat → Int) qSweep_len)) ?_
  refine s_val (v_field (fo := 0) (by kernel_rfl) rfl) ?_
  refine s_want rfl rfl (decide_eq_true (congrArg (Nat.cast : Nat → Int) qSweep_len)) ?_
  refine s_val (v_idxA (len := 4) (size := 2) (k := .i64) (by kernel_rfl) rfl rfl (by decide)) ?_
  refine s_want rfl rfl (decide_eq_true (congrArg (Nat.cast : Nat → Int) qSweep_len)) ?_
  refine s_val (v_field (fo := 0) (by kernel_rfl) rfl) ?_
  refine s_want rfl rfl (decide_eq_true (congrArg (Nat.cast : Nat → Int) qSweep_len)) ?_
  refine s_val (v_load1 (v := .int .i64 _) (by kernel_rfl) rfl .here (H.at_has _ (by decide))) ?_
  refine s_want rfl rfl (decide_eq_true (congrArg (Nat.cast : Nat → Int) qSweep_len)) ?_
  refine s_val (v_eql (k := .i64) rfl rfl) ?_
  refine s_val (v_pickT (v := .bool _) rfl (decide_eq_true (congrArg (Nat.cast : Nat → Int) qSweep_len)) rfl) ?_
  refine s_val (v_move (v := .bool _) rfl) ?_
  refine s_want rfl rfl (decide_eq_true hhas) ?_
  refine s_val (v_loadA (m := 42) (by kernel_rfl) rfl .here (H.size _)) ?_
  refine s_want rfl rfl (decide_eq_true hhas) ?_
  refine s_callF (by kernel_rfl) (fun w hw => g_Of h15 _ 0 w (p15.at hw) (by rw [hpl]; decide) hl15 (sweepM_seqs qPays_seqs) (.inl (by decide))) (fun F30 v30 E30 hF30 hK30 hR30 => ?_)
  obtain ⟨a30, c30, rfl, ia30⟩ := (ints_of_list hR30 hK30).at
  refine s_want rfl rfl (decide_eq_true hhas) ?_
  refine s_val (v_lenS (T := 43) (m := 1) (by kernel_rfl) rfl rfl) ?_
  refine s_want rfl rfl (decide_eq_true hhas) ?_
  refine s_val (v_eql (k := .i64) rfl rfl) ?_
  refine s_val (v_pickT (v := .bool _) rfl (decide_eq_true hhas) rfl) ?_
  refine s_val (v_assign (v := .bool _) rfl) ?_
  refine s_nil ?_
  refine c_ret ?_
  refine n_done rfl (by decide) (Eq.trans (b := .bool _) rfl (congrArg Value.bool ?_))
  exact decide_eq_true (congrArg (fun l : List Int => (l.length : Int)) qSweep_rest)

end Go.Proofs.Ytbgnmapmiobjcaa
