/- What bookTellsUpto_holds stands on, part 11: each part says what it proves. No condition beside those that it names. -/
import Derived.Test.YtmkboljfbmlebaaPL910
/- Contracts of the document side of the ledger. Condition: the payments lie in memory that is known. -/
namespace Go.Proofs.Ytmkboljfbmlebaa
open Go.RowKit
set_option linter.unusedSimpArgs false
set_option linter.unusedVariables false
set_option maxRecDepth 100000
attribute [local irreducible] cC sC nC rC qw

theorem gr_CopyHouse (h : H) (ps : List PayS) (w : World) (hp : PaysIn (At w) h.pa h.pl ps) (hb : h.pl * 48 ≤ 281474976710656) : GivesH Try.prog 14 [.agg h.cells] w h ps (CopyOf h ps) := by
  refine givesH_of Try.func14 rfl Try.ntmps14 (by simp) ?_
  refine r_seq (by kernel_rfl) ?_
  refine s_box (v := .agg _) rfl (fun b1 => ?_)
  refine s_alloc (z := .agg zeroH.cells) (by kernel_rfl) (fun b2 => ?_)
  refine s_nil ?_
  refine r_seq (by kernel_rfl) ?_
  refine s_val (v_field (fo := 40) (by kernel_rfl) rfl) ?_
  refine s_val (v_load1 (v := .slice _ _ _) (by kernel_rfl) rfl (.there .here) (H.at_pays _)) ?_
  refine s_appendCopy (by kernel_rfl) rfl rfl rfl hp hb (fun hz5 => ?_) (fun b5 c5 cs5 hpos5 hc5 hs5 hcs5 => ?_)
  · refine s_val (v_field (fo := 40) (by kernel_rfl) rfl) ?_
    refine s_store1 (v := .slice _ _ _) (by kernel_rfl) rfl rfl (.there .here) (H.set_pays _) rfl ?_
    refine s_nil ?_
    refine r_seq (by kernel_rfl) ?_
    refine s_val (v_loadA (m := 42) (by kernel_rfl) rfl (.there .here) (H.size _)) ?_
    refine s_storeA (m := 42) (by kernel_rfl) rfl rfl .here (H.size _) (H.size _) (H.all1 _) ?_
    refine s_nil ?_
    refine c_ret ?_
    refine n_doneH rfl (by decide) rfl (by kernel_rfl) .here (copy_none hz5 hp.1).1 (fun w hw => .inr ((copy_none hz5 hp.1).2 _ _))
  refine s_val (v_field (fo := 40) (by kernel_rfl) rfl) ?_
  refine s_store1 (v := .slice _ _ _) (by kernel_rfl) rfl rfl (.there (.there .here)) (H.set_pays _) rfl ?_
  refine s_nil ?_
  refine r_seq (by kernel_rfl) ?_
  refine s_val (v_loadA (m := 42) (by kernel_rfl) rfl (.there (.there .here)) (H.size _)) ?_
  refine s_storeA (m := 42) (by kernel_rfl) rfl rfl (.there .here) (H.size _) (H.size _) (H.all1 _) ?_
  refine s_nil ?_
  refine c_ret ?_
  refine n_doneH rfl (by decide) rfl (by kernel_rfl) (.there .here) ⟨rfl, _, _, rfl⟩ (fun w hw => .inr (newPays_look hw .here rfl hs5 hc5 hp.1 hcs5))

set_option maxHeartbeats 1000000 in
theorem gr_NewHouse  (w : World) : Gives Try.prog 19 [] w (.agg newM.cells) := by
  refine gives_of Try.func19 rfl Try.ntmps19 (by simp) ?_
  refine r_seq (by kernel_rfl) ?_
  refine s_alloc (z := .agg zeroH.cells) (by kernel_rfl) (fun b0 => ?_)
  refine s_nil ?_
  refine r_seq (by kernel_rfl) ?_
  refine s_alloc (z := .agg zeroH.cells) (by kernel_rfl) (fun b1 => ?_)
  refine s_nil ?_
  refine c_seq ?_
  refine r_seq (by kernel_rfl) ?_
  refine s_val (v_move (v := .int .i64 _) rfl) ?_
  refine s_nil ?_
  refine c_block ?_
  refine c_rounds 17 ?_
  refine r_succ ?_
  refine r_seq (by kernel_rfl) ?_
  refine s_val (v_lss (k := .i64) rfl rfl) ?_
  refine s_nil ?_
  refine c_seq ?_
  refine c_condTh rfl rfl rfl ?_
  refine c_skip ?_
  refine n_then ?_
  refine c_seq ?_
  refine c_block ?_
  refine r_seq (by kernel_rfl) ?_
  refine s_val (v_move (v := .int .i64 _) rfl) ?_
  refine s_val (v_assign (v := .int .i64 _) rfl) ?_
  refine s_nil ?_
  refine r_list (by kernel_rfl) ?_
  refine s_val (v_move (v := .int .i64 _) rfl) ?_
  refine s_val (v_quo (c := 0) rfl rfl (by decide) (by decide)) ?_
  refine s_val (v_move (v := .int .i64 _) rfl) ?_
  refine s_val (v_rem (c := 0) rfl rfl (by decide) (by decide)) ?_
  refine s_val (v_field (fo := 24) (by kernel_rfl) rfl) ?_
  refine s_val (v_idxA (len := 4) (size := 4) (k := .i64) (by kernel_rfl) rfl rfl (by decide)) ?_
  refine s_val (v_idxA (len := 4) (size := 1) (k := .i64) (by kernel_rfl) rfl rfl (by decide)) ?_
  refine s_store1 (v := .int .i64 _) (by kernel_rfl) rfl rfl .here (H.set_lim _ (by decide) (by decide)) rfl ?_
  refine s_end ?_
  refine n_bnormal ?_
  refine n_then ?_
  refine r_list (by kernel_rfl) ?_
  refine s_val (v_addL (c := 1) rfl rfl (by decide) (by decide)) ?_
  refine s_val (v_move (v := .int .i64 _) rfl) ?_
  refine s_end ?_
  refine n_thenR ?_
  refine r_succ ?_
  refine r_seq (by kernel_rfl) ?_
  refine s_val (v_lss (k := .i64) rfl rfl) ?_
  refine s_nil ?_
  refine c_seq ?_
  refine c_condTh rfl rfl rfl ?_
  refine c_skip ?_
  refine n_then ?_
  refine c_seq ?_
  refine c_block ?_
  refine r_seq (by kernel_rfl) ?_
  refine s_val (v_move (v := .int .i64 _) rfl) ?_
  refine s_val (v_assign (v := .int .i64 _) rfl) ?_
  refine s_nil ?_
  refine r_list (by kernel_rfl) ?_
  refine s_val (v_move (v := .int .i64 _) rfl) ?_
  refine s_val (v_quo (c := 0) rfl rfl (by decide) (by decide)) ?_
  refine s_val (v_move (v := .int .i64 _) rfl) ?_
  refine s_val (v_rem (c := 1) rfl rfl (by decide) (by decide)) ?_
  refine s_val (v_field (fo := 24) (by kernel_rfl) rfl) ?_
  refine s_val (v_idxA (len := 4) (size := 4) (k := .i64) (by kernel_rfl) rfl rfl (by decide)) ?_
  refine s_val (v_idxA (len := 4) (size := 1) (k := .i64) (by kernel_rfl) rfl rfl (by decide)) ?_
  refine s_store1 (v := .int .i64 _) (by kernel_rfl) rfl rfl .here (H.set_lim _ (by decide) (by decide)) rfl ?_
  refine s_end ?_
  refine n_bnormal ?_
  refine n_then ?_
  refine r_list (by kernel_rfl) ?_
  refine s_val (v_addL (c := 2) rfl rfl (by decide) (by decide)) ?_
  refine s_val (v_move (v := .int .i64 _) rfl) ?_
  refine s_end ?_
  refine n_thenR ?_
  refine r_succ ?_
  refine r_seq (by kernel_rfl) ?_
  refine s_val (v_lss (k := .i64) rfl rfl) ?_
  refine s_nil ?_
  refine c_seq ?_
  refine c_condTh rfl rfl rfl ?_
  refine c_skip ?_
  refine n_then ?_
  refine c_seq ?_
  refine c_block ?_
  refine r_seq (by kernel_rfl) ?_
  refine s_val (v_move (v := .int .i64 _) rfl) ?_
  refine s_val (v_assign (v := .int .i64 _) rfl) ?_
  refine s_nil ?_
  refine r_list (by kernel_rfl) ?_
  refine s_val (v_move (v := .int .i64 _) rfl) ?_
  refine s_val (v_quo (c := 0) rfl rfl (by decide) (by decide)) ?_
  refine s_val (v_move (v := .int .i64 _) rfl) ?_
  refine s_val (v_rem (c := 2) rfl rfl (by decide) (by decide)) ?_
  refine s_val (v_field (fo := 24) (by kernel_rfl) rfl) ?_
  refine s_val (v_idxA (len := 4) (size := 4) (k := .i64) (by kernel_rfl) rfl rfl (by decide)) ?_
  refine s_val (v_idxA (len := 4) (size := 1) (k := .i64) (by kernel_rfl) rfl rfl (by decide)) ?_
  refine s_store1 (v := .int .i64 _) (by kernel_rfl) rfl rfl .here (H.set_lim _ (by decide) (by decide)) rfl ?_
  refine s_end ?_
  refine n_bnormal ?_
  refine n_then ?_
  refine r_list (by kernel_rfl) ?_
  refine s_val (v_addL (c := 3) rfl rfl (by decide) (by decide)) ?_
  refine s_val (v_move (v := .int .i64 _) rfl) ?_
  refine s_end ?_
  refine n_thenR ?_
  refine r_succ ?_
  refine r_seq (by kernel_rfl) ?_
  refine s_val (v_lss (k := .i64) rfl rfl) ?_
  refine s_nil ?_
  refine c_seq ?_
  refine c_condTh rfl rfl rfl ?_
  refine c_skip ?_
  refine n_then ?_
  refine c_seq ?_
  refine c_block ?_
  refine r_seq (by kernel_rfl) ?_
  refine s_val (v_move (v := .int .i64 _) rfl) ?_
  refine s_val (v_assign (v := .int .i64 _) rfl) ?_
  refine s_nil ?_
  refine r_list (by kernel_rfl) ?_
  refine s_val (v_move (v := .int .i64 _) rfl) ?_
  refine s_val (v_quo (c := 0) rfl rfl (by decide) (by decide)) ?_
  refine s_val (v_move (v := .int .i64 _) rfl) ?_
  refine s_val (v_rem (c := 3) rfl rfl (by decide) (by decide)) ?_
  refine s_val (v_field (fo := 24) (by kernel_rfl) rfl) ?_
  refine s_val (v_idxA (len := 4) (size := 4) (k := .i64) (by kernel_rfl) rfl rfl (by decide)) ?_
  refine s_val (v_idxA (len := 4) (size := 1) (k := .i64) (by kernel_rfl) rfl rfl (by decide)) ?_
  refine s_store1 (v := .int .i64 _) (by kernel_rfl) rfl rfl .here (H.set_lim _ (by decide) (by decide)) rfl ?_
  refine s_end ?_
  refine n_bnormal ?_
  refine n_then ?_
  refine r_list (by kernel_rfl) ?_
  refine s_val (v_addL (c := 4) rfl rfl (by decide) (by decide)) ?_
  refine s_val (v_move (v := .int .i64 _) rfl) ?_
  refine s_end ?_
  refine n_thenR ?_
  refine r_succ ?_
  refine r_seq (by kernel_rfl) ?_
  refine s_val (v_lss (k := .i64) rfl rfl) ?_
  refine s_nil ?_
  refine c_seq ?_
  refine c_condTh rfl rfl rfl ?_
  refine c_skip ?_
  refine n_then ?_
  refine c_seq ?_
  refine c_block ?_
  refine r_seq (by kernel_rfl) ?_
  refine s_val (v_move (v := .int .i64 _) rfl) ?_
  refine s_val (v_assign (v := .int .i64 _) rfl) ?_
  refine s_nil ?_
  refine r_list (by kernel_rfl) ?_
  refine s_val (v_move (v := .int .i64 _) rfl) ?_
  refine s_val (v_quo (c := 1) rfl rfl (by decide) (by decide)) ?_
  refine s_val (v_move (v := .int .i64 _) rfl) ?_
  refine s_val (v_rem (c := 0) rfl rfl (by decide) (by decide)) ?_
  refine s_val (v_field (fo := 24) (by kernel_rfl) rfl) ?_
  refine s_val (v_idxA (len := 4) (size := 4) (k := .i64) (by kernel_rfl) rfl rfl (by decide)) ?_
  refine s_val (v_idxA (len := 4) (size := 1) (k := .i64) (by kernel_rfl) rfl rfl (by decide)) ?_
  refine s_store1 (v := .int .i64 _) (by kernel_rfl) rfl rfl .here (H.set_lim _ (by decide) (by decide)) rfl ?_
  refine s_end ?_
  refine n_bnormal ?_
  refine n_then ?_
  refine r_list (by kernel_rfl) ?_
  refine s_val (v_addL (c := 5) rfl rfl (by decide) (by decide)) ?_
  refine s_val (v_move (v := .int .i64 _) rfl) ?_
  refine s_end ?_
  refine n_thenR ?_
  refine r_succ ?_
  refine r_seq (by kernel_rfl) ?_
  refine s_val (v_lss (k := .i64) rfl rfl) ?_
  refine s_nil ?_
  refine c_seq ?_
  refine c_condTh rfl rfl rfl ?_
  refine c_skip ?_
  refine n_then ?_
  refine c_seq ?_
  refine c_block ?_
  refine r_seq (by kernel_rfl) ?_
  refine s_val (v_move (v := .int .i64 _) rfl) ?_
  refine s_val (v_assign (v := .int .i64 _) rfl) ?_
  refine s_nil ?_
  refine r_list (by kernel_rfl) ?_
  refine s_val (v_move (v := .int .i64 _) rfl) ?_
  refine s_val (v_quo (c := 1) rfl rfl (by decide) (by decide)) ?_
  refine s_val (v_move (v := .int .i64 _) rfl) ?_
  refine s_val (v_rem (c := 1) rfl rfl (by decide) (by decide)) ?_
  refine s_val (v_field (fo := 24) (by kernel_rfl) rfl) ?_
  refine s_val (v_idxA (len := 4) (size := 4) (k := .i64) (by kernel_rfl) rfl rfl (by decide)) ?_
  refine s_val (v_idxA (len := 4) (size := 1) (k := .i64) (by kernel_rfl) rfl rfl (by decide)) ?_
  refine s_store1 (v := .int .i64 _) (by kernel_rfl) rfl rfl .here (H.set_lim _ (by decide) (by decide)) rfl ?_
  refine s_end ?_
  refine n_bnormal ?_
  refine n_then ?_
  refine r_list (by kernel_rfl) ?_
  refine s_val (v_addL (c := 6) rfl rfl (by decide) (by decide)) ?_
  refine s_val (v_move (v := .int .i64 _) rfl) ?_
  refine s_end ?_
  refine n_thenR ?_
  refine r_succ ?_
  refine r_seq (by kernel_rfl) ?_
  refine s_val (v_lss (k := .i64) rfl rfl) ?_
  refine s_nil ?_
  refine c_seq ?_
  refine c_condTh rfl rfl rfl ?_
  refine c_skip ?_
  refine n_then ?_
  refine c_seq ?_
  refine c_block ?_
  refine r_seq (by kernel_rfl) ?_
  refine s_val (v_move (v := .int .i64 _) rfl) ?_
  refine s_val (v_assign (v := .int .i64 _) rfl) ?_
  refine s_nil ?_
  refine r_list (by kernel_rfl) ?_
  refine s_val (v_move (v := .int .i64 _) rfl) ?_
  refine s_val (v_quo (c := 1) rfl rfl (by decide) (by decide)) ?_
  refine s_val (v_move (v := .int .i64 _) rfl) ?_
  refine s_val (v_rem (c := 2) rfl rfl (by decide) (by decide)) ?_
  refine s_val (v_field (fo := 24) (by kernel_rfl) rfl) ?_
  refine s_val (v_idxA (len := 4) (size := 4) (k := .i64) (by kernel_rfl) rfl rfl (by decide)) ?_
  refine s_val (v_idxA (len := 4) (size := 1) (k := .i64) (by kernel_rfl) rfl rfl (by decide)) ?_
  refine s_store1 (v := .int .i64 _) (by kernel_rfl) rfl rfl .here (H.set_lim _ (by decide) (by decide)) rfl ?_
  refine s_end ?_
  refine n_bnormal ?_
  refine n_then ?_
  refine r_list (by kernel_rfl) ?_
  refine s_val (v_addL (c := 7) rfl rfl (by decide) (by decide)) ?_
  refine s_val (v_move (v := .int .i64 _) rfl) ?_
  refine s_end ?_
  refine n_thenR ?_
  refine r_succ ?_
  refine r_seq (by kernel_rfl) ?_
  refine s_val (v_lss (k := .i64) rfl rfl) ?_
  refine s_nil ?_
  refine c_seq ?_
  refine c_condTh rfl rfl rfl ?_
  refine c_skip ?_
  refine n_then ?_
  refine c_seq ?_
  refine c_block ?_
  refine r_seq (by kernel_rfl) ?_
  refine s_val (v_move (v := .int .i64 _) rfl) ?_
  refine s_val (v_assign (v := .int .i64 _) rfl) ?_
  refine s_nil ?_
  refine r_list (by kernel_rfl) ?_
  refine s_val (v_move (v := .int .i64 _) rfl) ?_
  refine s_val (v_quo (c := 1) rfl rfl (by decide) (by decide)) ?_
  refine s_val (v_move (v := .int .i64 _) rfl) ?_
  refine s_val (v_rem (c := 3) rfl rfl (by decide) (by decide)) ?_
  refine s_val (v_field (fo := 24) (by kernel_rfl) rfl) ?_
  refine s_val (v_idxA (len := 4) (size := 4) (k := .i64) (by kernel_rfl) rfl rfl (by decide)) ?_
  refine s_val (v_idxA (len := 4) (size := 1) (k := .i64) (by kernel_rfl) rfl rfl (by decide)) ?_
  refine s_store1 (v := .int .i64 _) (by kernel_rfl) rfl rfl .here (H.set_lim _ (by decide) (by decide)) rfl ?_
  refine s_end ?_
  refine n_bnormal ?_
  refine n_then ?_
  refine r_list (by kernel_rfl) ?_
  refine s_val (v_addL (c := 8) rfl rfl (by decide) (by decide)) ?_
  refine s_val (v_move (v := .int .i64 _) rfl) ?_
  refine s_end ?_
  refine n_thenR ?_
  refine r_succ ?_
  refine r_seq (by kernel_rfl) ?_
  refine s_val (v_lss (k := .i64) rfl rfl) ?_
  refine s_nil ?_
  refine c_seq ?_
  refine c_condTh rfl rfl rfl ?_
  refine c_skip ?_
  refine n_then ?_
  refine c_seq ?_
  refine c_block ?_
  refine r_seq (by kernel_rfl) ?_
  refine s_val (v_move (v := .int .i64 _) rfl) ?_
  refine s_val (v_assign (v := .int .i64 _) rfl) ?_
  refine s_nil ?_
  refine r_list (by kernel_rfl) ?_
  refine s_val (v_move (v := .int .i64 _) rfl) ?_
  refine s_val (v_quo (c := 2) rfl rfl (by decide) (by decide)) ?_
  refine s_val (v_move (v := .int .i64 _) rfl) ?_
  refine s_val (v_rem (c := 0) rfl rfl (by decide) (by decide)) ?_
  refine s_val (v_field (fo := 24) (by kernel_rfl) rfl) ?_
  refine s_val (v_idxA (len := 4) (size := 4) (k := .i64) (by kernel_rfl) rfl rfl (by decide)) ?_
  refine s_val (v_idxA (len := 4) (size := 1) (k := .i64) (by kernel_rfl) rfl rfl (by decide)) ?_
  refine s_store1 (v := .int .i64 _) (by kernel_rfl) rfl rfl .here (H.set_lim _ (by decide) (by decide)) rfl ?_
  refine s_end ?_
  refine n_bnormal ?_
  refine n_then ?_
  refine r_list (by kernel_rfl) ?_
  refine s_val (v_addL (c := 9) rfl rfl (by decide) (by decide)) ?_
  refine s_val (v_move (v := .int .i64 _) rfl) ?_
  refine s_end ?_
  refine n_thenR ?_
  refine r_succ ?_
  refine r_seq (by kernel_rfl) ?_
  refine s_val (v_lss (k := .i64) rfl rfl) ?_
  refine s_nil ?_
  refine c_seq ?_
  refine c_condTh rfl rfl rfl ?_
  refine c_skip ?_
  refine n_then ?_
  refine c_seq ?_
  refine c_block ?_
  refine r_seq (by kernel_rfl) ?_
  refine s_val (v_move (v := .int .i64 _) rfl) ?_
  refine s_val (v_assign (v := .int .i64 _) rfl) ?_
  refine s_nil ?_
  refine r_list (by kernel_rfl) ?_
  refine s_val (v_move (v := .int .i64 _) rfl) ?_
  refine s_val (v_quo (c := 2) rfl rfl (by decide) (by decide)) ?_
  refine s_val (v_move (v := .int .i64 _) rfl) ?_
  refine s_val (v_rem (c := 1) rfl rfl (by decide) (by decide)) ?_
  refine s_val (v_field (fo := 24) (by kernel_rfl) rfl) ?_
  refine s_val (v_idxA (len := 4) (size := 4) (k := .i64) (by kernel_rfl) rfl rfl (by decide)) ?_
  refine s_val (v_idxA (len := 4) (size := 1) (k := .i64) (by kernel_rfl) rfl rfl (by decide)) ?_
  refine s_store1 (v := .int .i64 _) (by kernel_rfl) rfl rfl .here (H.set_lim _ (by decide) (by decide)) rfl ?_
  refine s_end ?_
  refine n_bnormal ?_
  refine n_then ?_
  refine r_list (by kernel_rfl) ?_
  refine s_val (v_addL (c := 10) rfl rfl (by decide) (by decide)) ?_
  refine s_val (v_move (v := .int .i64 _) rfl) ?_
  refine s_end ?_
  refine n_thenR ?_
  refine r_succ ?_
  refine r_seq (by kernel_rfl) ?_
  refine s_val (v_lss (k := .i64) rfl rfl) ?_
  refine s_nil ?_
  refine c_seq ?_
  refine c_condTh rfl rfl rfl ?_
  refine c_skip ?_
  refine n_then ?_
  refine c_seq ?_
  refine c_block ?_
  refine r_seq (by kernel_rfl) ?_
  refine s_val (v_move (v := .int .i64 _) rfl) ?_
  refine s_val (v_assign (v := .int .i64 _) rfl) ?_
  refine s_nil ?_
  refine r_list (by kernel_rfl) ?_
  refine s_val (v_move (v := .int .i64 _) rfl) ?_
  refine s_val (v_quo (c := 2) rfl rfl (by decide) (by decide)) ?_
  refine s_val (v_move (v := .int .i64 _) rfl) ?_
  refine s_val (v_rem (c := 2) rfl rfl (by decide) (by decide)) ?_
  refine s_val (v_field (fo := 24) (by kernel_rfl) rfl) ?_
  refine s_val (v_idxA (len := 4) (size := 4) (k := .i64) (by kernel_rfl) rfl rfl (by decide)) ?_
  refine s_val (v_idxA (len := 4) (size := 1) (k := .i64) (by kernel_rfl) rfl rfl (by decide)) ?_
  refine s_store1 (v := .int .i64 _) (by kernel_rfl) rfl rfl .here (H.set_lim _ (by decide) (by decide)) rfl ?_
  refine s_end ?_
  refine n_bnormal ?_
  refine n_then ?_
  refine r_list (by kernel_rfl) ?_
  refine s_val (v_addL (c := 11) rfl rfl (by decide) (by decide)) ?_
  refine s_val (v_move (v := .int .i64 _) rfl) ?_
  refine s_end ?_
  refine n_thenR ?_
  refine r_succ ?_
  refine r_seq (by kernel_rfl) ?_
  refine s_val (v_lss (k := .i64) rfl rfl) ?_
  refine s_nil ?_
  refine c_seq ?_
  refine c_condTh rfl rfl rfl ?_
  refine c_skip ?_
  refine n_then ?_
  refine c_seq ?_
  refine c_block ?_
  refine r_seq (by kernel_rfl) ?_
  refine s_val (v_move (v := .int .i64 _) rfl) ?_
  refine s_val (v_assign (v := .int .i64 _) rfl) ?_
  refine s_nil ?_
  refine r_list (by kernel_rfl) ?_
  refine s_val (v_move (v := .int .i64 _) rfl) ?_
  refine s_val (v_quo (c := 2) rfl rfl (by decide) (by decide)) ?_
  refine s_val (v_move (v := .int .i64 _) rfl) ?_
  refine s_val (v_rem (c := 3) rfl rfl (by decide) (by decide)) ?_
  refine s_val (v_field (fo := 24) (by kernel_rfl) rfl) ?_
  refine s_val (v_idxA (len := 4) (size := 4) (k := .i64) (by kernel_rfl) rfl rfl (by decide)) ?_
  refine s_val (v_idxA (len := 4) (size := 1) (k := .i64) (by kernel_rfl) rfl rfl (by decide)) ?_
  refine s_store1 (v := .int .i64 _) (by kernel_rfl) rfl rfl .here (H.set_lim _ (by decide) (by decide)) rfl ?_
  refine s_end ?_
  refine n_bnormal ?_
  refine n_then ?_
  refine r_list (by kernel_rfl) ?_
  refine s_val (v_addL (c := 12) rfl rfl (by decide) (by decide)) ?_
  refine s_val (v_move (v := .int .i64 _) rfl) ?_
  refine s_end ?_
  refine n_thenR ?_
  refine r_succ ?_
  refine r_seq (by kernel_rfl) ?_
  refine s_val (v_lss (k := .i64) rfl rfl) ?_
  refine s_nil ?_
  refine c_seq ?_
  refine c_condTh rfl rfl rfl ?_
  refine c_skip ?_
  refine n_then ?_
  refine c_seq ?_
  refine c_block ?_
  refine r_seq (by kernel_rfl) ?_
  refine s_val (v_move (v := .int .i64 _) rfl) ?_
  refine s_val (v_assign (v := .int .i64 _) rfl) ?_
  refine s_nil ?_
  refine r_list (by kernel_rfl) ?_
  refine s_val (v_move (v := .int .i64 _) rfl) ?_
  refine s_val (v_quo (c := 3) rfl rfl (by decide) (by decide)) ?_
  refine s_val (v_move (v := .int .i64 _) rfl) ?_
  refine s_val (v_rem (c := 0) rfl rfl (by decide) (by decide)) ?_
  refine s_val (v_field (fo := 24) (by kernel_rfl) rfl) ?_
  refine s_val (v_idxA (len := 4) (size := 4) (k := .i64) (by kernel_rfl) rfl rfl (by decide)) ?_
  refine s_val (v_idxA (len := 4) (size := 1) (k := .i64) (by kernel_rfl) rfl rfl (by decide)) ?_
  refine s_store1 (v := .int .i64 _) (by kernel_rfl) rfl rfl .here (H.set_lim _ (by decide) (by decide)) rfl ?_
  refine s_end ?_
  refine n_bnormal ?_
  refine n_then ?_
  refine r_list (by kernel_rfl) ?_
  refine s_val (v_addL (c := 13) rfl rfl (by decide) (by decide)) ?_
  refine s_val (v_move (v := .int .i64 _) rfl) ?_
  refine s_end ?_
  refine n_thenR ?_
  refine r_succ ?_
  refine r_seq (by kernel_rfl) ?_
  refine s_val (v_lss (k := .i64) rfl rfl) ?_
  refine s_nil ?_
  refine c_seq ?_
  refine c_condTh rfl rfl rfl ?_
  refine c_skip ?_
  refine n_then ?_
  refine c_seq ?_
  refine c_block ?_
  refine r_seq (by kernel_rfl) ?_
  refine s_val (v_move (v := .int .i64 _) rfl) ?_
  refine s_val (v_assign (v := .int .i64 _) rfl) ?_
  refine s_nil ?_
  refine r_list (by kernel_rfl) ?_
  refine s_val (v_move (v := .int .i64 _) rfl) ?_
  refine s_val (v_quo (c := 3) rfl rfl (by decide) (by decide)) ?_
  refine s_val (v_move (v := .int .i64 _) rfl) ?_
  refine s_val (v_rem (c := 1) rfl rfl (by decide) (by decide)) ?_
  refine s_val (v_field (fo := 24) (by kernel_rfl) rfl) ?_
  refine s_val (v_idxA (len := 4) (size := 4) (k := .i64) (by kernel_rfl) rfl rfl (by decide)) ?_
  refine s_val (v_idxA (len := 4) (size := 1) (k := .i64) (by kernel_rfl) rfl rfl (by decide)) ?_
  refine s_store1 (v := .int .i64 _) (by kernel_rfl) rfl rfl .here (H.set_lim _ (by decide) (by decide)) rfl ?_
  refine s_end ?_
  refine n_bnormal ?_
  refine n_then ?_
  refine r_list (by kernel_rfl) ?_
  refine s_val (v_addL (c := 14) rfl rfl (by decide) (by decide)) ?_
  refine s_val (v_move (v := .int .i64 _) rfl) ?_
  refine s_end ?_
  refine n_thenR ?_
  refine r_succ ?_
  refine r_seq (by kernel_rfl) ?_
  refine s_val (v_lss (k := .i64) rfl rfl) ?_
  refine s_nil ?_
  refine c_seq ?_
  refine c_condTh rfl rfl rfl ?_
  refine c_skip ?_
  refine n_then ?_
  refine c_seq ?_
  refine c_block ?_
  refine r_seq (by kernel_rfl) ?_
  refine s_val (v_move (v := .int .i64 _) rfl) ?_
  refine s_val (v_assign (v := .int .i64 _) rfl) ?_
  refine s_nil ?_
  refine r_list (by kernel_rfl) ?_
  refine s_val (v_move (v := .int .i64 _) rfl) ?_
  refine s_val (v_quo (c := 3) rfl rfl (by decide) (by decide)) ?_
  refine s_val (v_move (v := .int .i64 _) rfl) ?_
  refine s_val (v_rem (c := 2) rfl rfl (by decide) (by decide)) ?_
  refine s_val (v_field (fo := 24) (by kernel_rfl) rfl) ?_
  refine s_val (v_idxA (len := 4) (size := 4) (k := .i64) (by kernel_rfl) rfl rfl (by decide)) ?_
  refine s_val (v_idxA (len := 4) (size := 1) (k := .i64) (by kernel_rfl) rfl rfl (by decide)) ?_
  refine s_store1 (v := .int .i64 _) (by kernel_rfl) rfl rfl .here (H.set_lim _ (by decide) (by decide)) rfl ?_
  refine s_end ?_
  refine n_bnormal ?_
  refine n_then ?_
  refine r_list (by kernel_rfl) ?_
  refine s_val (v_addL (c := 15) rfl rfl (by decide) (by decide)) ?_
  refine s_val (v_move (v := .int .i64 _) rfl) ?_
  refine s_end ?_
  refine n_thenR ?_
  refine r_succ ?_
  refine r_seq (by kernel_rfl) ?_
  refine s_val (v_lss (k := .i64) rfl rfl) ?_
  refine s_nil ?_
  refine c_seq ?_
  refine c_condTh rfl rfl rfl ?_
  refine c_skip ?_
  refine n_then ?_
  refine c_seq ?_
  refine c_block ?_
  refine r_seq (by kernel_rfl) ?_
  refine s_val (v_move (v := .int .i64 _) rfl) ?_
  refine s_val (v_assign (v := .int .i64 _) rfl) ?_
  refine s_nil ?_
  refine r_list (by kernel_rfl) ?_
  refine s_val (v_move (v := .int .i64 _) rfl) ?_
  refine s_val (v_quo (c := 3) rfl rfl (by decide) (by decide)) ?_
  refine s_val (v_move (v := .int .i64 _) rfl) ?_
  refine s_val (v_rem (c := 3) rfl rfl (by decide) (by decide)) ?_
  refine s_val (v_field (fo := 24) (by kernel_rfl) rfl) ?_
  refine s_val (v_idxA (len := 4) (size := 4) (k := .i64) (by kernel_rfl) rfl rfl (by decide)) ?_
  refine s_val (v_idxA (len := 4) (size := 1) (k := .i64) (by kernel_rfl) rfl rfl (by decide)) ?_
  refine s_store1 (v := .int .i64 _) (by kernel_rfl) rfl rfl .here (H.set_lim _ (by decide) (by decide)) rfl ?_
  refine s_end ?_
  refine n_bnormal ?_
  refine n_then ?_
  refine r_list (by kernel_rfl) ?_
  refine s_val (v_addL (c := 16) rfl rfl (by decide) (by decide)) ?_
  refine s_val (v_move (v := .int .i64 _) rfl) ?_
  refine s_end ?_
  refine n_thenR ?_
  refine r_succ ?_
  refine r_seq (by kernel_rfl) ?_
  refine s_val (v_lss (k := .i64) rfl rfl) ?_
  refine s_nil ?_
  refine c_seq ?_
  refine c_condFh rfl rfl rfl ?_
  refine c_exit ?_
  refine n_exit ?_
  refine n_exit ?_
  refine n_bhere ?_
  refine n_then ?_
  refine r_seq (by kernel_rfl) ?_
  refine s_val (v_loadA (m := 42) (by kernel_rfl) rfl .here (H.size _)) ?_
  refine s_storeA (m := 42) (by kernel_rfl) rfl rfl (.there .here) (H.size _) (H.size _) (H.all1 _) ?_
  refine s_nil ?_
  refine c_ret ?_
  refine n_doneC (m := 42) rfl (by decide) rfl (by kernel_rfl) (.there .here) (H.size _) (congrArg Value.agg ?_)
  refine H.cells_eq (fun _ _ _ => rfl) (fun _ _ _ => rfl) (fun _ _ _ _ _ _ => rfl) (fun i j hi hi' hj hj' => ?_) ⟨rfl, rfl, rfl⟩ rfl
  have e1 : i = 0 ∨ i = 1 ∨ i = 2 ∨ i = 3 := by omega
  have e2 : j = 0 ∨ j = 1 ∨ j = 2 ∨ j = 3 := by omega
  clear hi hi' hj hj'
  rcases e1 with rfl | rfl | rfl | rfl <;> rcases e2 with rfl | rfl | rfl | rfl <;> rfl

theorem gr_MoveSum (h : H) (a b n : Int) (w : World) : Gives Try.prog 29 [.agg h.cells, I a, I b, I n] w (.agg (moveM h a b n).cells) := by
  refine gives_of Try.func29 rfl Try.ntmps29 (by simp) ?_
  refine r_seq (by kernel_rfl) ?_
  refine s_box (v := .agg _) rfl (fun b4 => ?_)
  refine s_alloc (z := .agg zeroH.cells) (by kernel_rfl) (fun b8 => ?_)
  refine s_nil ?_
  refine c_seq ?_
  refine r_seq (by kernel_rfl) ?_
  refine s_val (v_move (v := .int .i64 _) rfl) ?_
  refine s_val (v_move (v := .int .i64 _) rfl) ?_
  refine s_val (v_move (v := .int .i64 _) rfl) ?_
  refine s_call (by kernel_rfl) (fun w hw => gr_sends _ _ _ w) ?_
  refine s_nil ?_
  refine c_condR rfl rfl (fun h13 => ?_) (fun h13 => ?_)
  · refine c_skip ?_
    refine n_then ?_
    refine r_seq (by kernel_rfl) ?_
    refine s_val (v_loadA (m := 42) (by kernel_rfl) rfl (.there .here) (H.size _)) ?_
    refine s_storeA (m := 42) (by kernel_rfl) rfl rfl .here (H.size _) (H.size _) (H.all1 _) ?_
    refine s_nil ?_
    refine c_ret ?_
    refine n_doneC (m := 42) rfl (by decide) rfl (by kernel_rfl) .here (H.size _) (congrArg Value.agg ?_)
    rw [move_no h13]
    rfl
  obtain ⟨ha, hb, hne, _⟩ := transfer_spec h13
  refine t_seq (k := 11) (by kernel_rfl) (by kernel_rfl) (fun w hw => hw.drew) (by kernel_rfl) ?_
  refine q_val (v_move (v := .int .i64 _) rfl) ?_
  refine q_val (v_move (v := .int .i64 _) rfl) ?_
  refine q_val (v_field (fo := 8) (by kernel_rfl) rfl) ?_
  refine q_val (v_idxA (len := 4) (size := 4) (k := .i64) (by kernel_rfl) rfl rfl (by assumption)) ?_
  refine q_val (v_idxA (len := 4) (size := 1) (k := .i64) (by kernel_rfl) rfl rfl (by assumption)) ?_
  refine q_val (v_load1 (v := .int .i64 _) (by kernel_rfl) rfl (.there .here) (H.at_sent _ (by assumption) (by assumption))) ?_
  refine q_val (v_move (v := .int .i64 _) rfl) ?_
  refine q_val (v_addw rfl rfl) ?_
  refine q_val (v_field (fo := 8) (by kernel_rfl) rfl) ?_
  refine q_val (v_idxA (len := 4) (size := 4) (k := .i64) (by kernel_rfl) rfl rfl (by assumption)) ?_
  refine q_val (v_idxA (len := 4) (size := 1) (k := .i64) (by kernel_rfl) rfl rfl (by assumption)) ?_
  refine q_tail ?_
  refine s_store1 (v := .int .i64 _) (by kernel_rfl) rfl rfl (.there .here) (H.set_sent _ (by assumption) (by assumption)) rfl ?_
  refine s_nil ?_
  refine r_seq (by kernel_rfl) ?_
  refine s_val (v_move (v := .int .i64 _) rfl) ?_
  refine s_nil ?_
  refine c_block ?_
  refine c_loop (σ := Nat) (fun (k : Nat) f => ∃ g, (k ≤ 4) ∧ f = (upd (upd (upd (upd (upd (upd g 1 (I a)) 2 (I b)) 3 (I n)) 4 (.pointer (some ⟨b4, 0, none⟩))) 8 (.pointer (some ⟨b8, 0, none⟩))) 25 (I k))) (fun (k : Nat) => Has w (At w) [(b8, .cells zeroH.cells 29), (b4, .cells (msH h a b n k).cells 29)]) (fun (k : Nat) => 4 - k) 0 ⟨_, Nat.zero_le _, live6 rfl rfl rfl rfl rfl rfl⟩ (fun w hw => by rw [ms_start]; exact hw) ?_
  rintro k _ ⟨g, hkl, rfl⟩
  refine r_seq (by kernel_rfl) ?_
  refine s_val (v_lss (k := .i64) rfl rfl) ?_
  refine s_nil ?_
  refine c_seq ?_
  refine c_condR rfl rfl (fun h26 => ?_) (fun h26 => ?_)
  · refine c_exit ?_
    refine n_exit ?_
    refine n_exit ?_
    refine n_bhere ?_
    refine n_then ?_
    refine r_seq (by kernel_rfl) ?_
    refine s_val (v_loadA (m := 42) (by kernel_rfl) rfl (.there .here) (H.size _)) ?_
    refine s_storeA (m := 42) (by kernel_rfl) rfl rfl .here (H.size _) (H.size _) (H.all1 _) ?_
    refine s_nil ?_
    refine c_ret ?_
    refine n_doneC (m := 42) rfl (by decide) rfl (by kernel_rfl) .here (H.size _) (congrArg Value.agg ?_)
    exact ms_end h13 hkl h26
  have hk0 := of_decide_eq_true h26
  have hi : 0 ≤ (k : Int) ∧ (k : Int) < 4 := ⟨by omega, by omega⟩
  refine c_skip ?_
  refine n_then ?_
  refine c_seq ?_
  refine c_block ?_
  refine r_seq (by kernel_rfl) ?_
  refine s_val (v_move (v := .int .i64 _) rfl) ?_
  refine s_val (v_assign (v := .int .i64 _) rfl) ?_
  refine s_nil ?_
  refine c_seq ?_
  refine r_seq (by kernel_rfl) ?_
  refine s_val (v_move (v := .int .i64 _) rfl) ?_
  refine s_val (v_move (v := .int .i64 _) rfl) ?_
  refine s_val (v_eql (k := .i64) rfl rfl) ?_
  refine s_nil ?_
  refine c_cond rfl rfl (fun h30 => ?_) (fun h30 => ?_)
  · refine r_list (by kernel_rfl) ?_
    refine s_val (v_move (v := .int .i64 _) rfl) ?_
    refine s_val (v_field (fo := 0) (by kernel_rfl) rfl) ?_
    refine s_val (v_idxA (len := 4) (size := 2) (k := .i64) (by kernel_rfl) rfl rfl (by assumption)) ?_
    refine s_val (v_field (fo := 0) (by kernel_rfl) rfl) ?_
    refine s_val (v_load1 (v := .int .i64 _) (by kernel_rfl) rfl (.there .here) (H.at_has _ (by assumption))) ?_
    refine s_val (v_move (v := .int .i64 _) rfl) ?_
    refine s_val (v_subw rfl rfl) ?_
    refine s_val (v_field (fo := 0) (by kernel_rfl) rfl) ?_
    refine s_val (v_idxA (len := 4) (size := 2) (k := .i64) (by kernel_rfl) rfl rfl (by assumption)) ?_
    refine s_val (v_field (fo := 0) (by kernel_rfl) rfl) ?_
    refine s_store1 (v := .int .i64 _) (by kernel_rfl) rfl rfl (.there .here) (H.set_has _ (by assumption)) rfl ?_
    refine s_end ?_
    refine n_then ?_
    refine r_seq (by kernel_rfl) ?_
    refine s_val (v_move (v := .int .i64 _) rfl) ?_
    refine s_val (v_move (v := .int .i64 _) rfl) ?_
    refine s_val (v_eql (k := .i64) rfl rfl) ?_
    refine s_nil ?_
    refine c_cond rfl rfl (fun h43 => ?_) (fun h43 => ?_)
    · exact absurd ((of_decide_eq_true h30).symm.trans (of_decide_eq_true h43)) hne
    refine c_skip ?_
    refine n_bnormal ?_
    refine n_then ?_
    refine r_list (by kernel_rfl) ?_
    refine s_val (v_add rfl rfl (by omega)) ?_
    refine s_val (v_move (v := .int .i64 _) rfl) ?_
    refine s_end ?_
    refine n_round (k + 1) ⟨_, (by omega), live6 rfl rfl rfl rfl rfl rfl⟩ (fun _ hw => by rw [← ms_stepA h30]; exact hw) (by omega)
  refine c_skip ?_
  refine n_then ?_
  refine r_seq (by kernel_rfl) ?_
  refine s_val (v_move (v := .int .i64 _) rfl) ?_
  refine s_val (v_move (v := .int .i64 _) rfl) ?_
  refine s_val (v_eql (k := .i64) rfl rfl) ?_
  refine s_nil ?_
  refine c_condR rfl rfl (fun h43 => ?_) (fun h43 => ?_)
  · refine c_skip ?_
    refine n_bnormal ?_
    refine n_then ?_
    refine r_list (by kernel_rfl) ?_
    refine s_val (v_add rfl rfl (by omega)) ?_
    refine s_val (v_move (v := .int .i64 _) rfl) ?_
    refine s_end ?_
    refine n_round (k + 1) ⟨_, (by omega), live6 rfl rfl rfl rfl rfl rfl⟩ (fun _ hw => by rw [← ms_step0 h30 h43]; exact hw) (by omega)
  refine r_list (by kernel_rfl) ?_
  refine s_val (v_move (v := .int .i64 _) rfl) ?_
  refine s_val (v_field (fo := 0) (by kernel_rfl) rfl) ?_
  refine s_val (v_idxA (len := 4) (size := 2) (k := .i64) (by kernel_rfl) rfl rfl (by assumption)) ?_
  refine s_val (v_field (fo := 0) (by kernel_rfl) rfl) ?_
  refine s_val (v_load1 (v := .int .i64 _) (by kernel_rfl) rfl (.there .here) (H.at_has _ (by assumption))) ?_
  refine s_val (v_move (v := .int .i64 _) rfl) ?_
  refine s_val (v_addw rfl rfl) ?_
  refine s_val (v_field (fo := 0) (by kernel_rfl) rfl) ?_
  refine s_val (v_idxA (len := 4) (size := 2) (k := .i64) (by kernel_rfl) rfl rfl (by assumption)) ?_
  refine s_val (v_field (fo := 0) (by kernel_rfl) rfl) ?_
  refine s_store1 (v := .int .i64 _) (by kernel_rfl) rfl rfl (.there .here) (H.set_has _ (by assumption)) rfl ?_
  refine s_end ?_
  refine n_bnormal ?_
  refine n_then ?_
  refine r_list (by kernel_rfl) ?_
  refine s_val (v_add rfl rfl (by omega)) ?_
  refine s_val (v_move (v := .int .i64 _) rfl) ?_
  refine s_end ?_
  refine n_round (k + 1) ⟨_, (by omega), live6 rfl rfl rfl rfl rfl rfl⟩ (fun _ hw => by rw [← ms_stepB h30 h43]; exact hw) (by omega)

theorem gr_SameHouse (h : H) (ps : List PayS) (k : H) (qs : List PayS) (w : World) (hp : PaysIn (At w) h.pa h.pl ps) (hq : PaysIn (At w) k.pa k.pl qs) (hb : h.pl ≤ 9223372036854775807) : Gives Try.prog 17 [.agg h.cells, .agg k.cells] w (.bool (sameB h ps k qs)) := by
  refine gives_of Try.func17 rfl Try.ntmps17 (by simp) ?_
  refine r_seq (by kernel_rfl) ?_
  refine s_box (v := .agg _) rfl (fun b2 => ?_)
  refine s_box (v := .agg _) rfl (fun b3 => ?_)
  refine s_val (v_assign (v := .bool _) rfl) ?_
  refine s_nil ?_
  refine c_seq ?_
  refine r_seq (by kernel_rfl) ?_
  refine s_val (v_field (fo := 0) (by kernel_rfl) rfl) ?_
  refine s_val (v_loadN (m := 8) (cs' := accA _ _) (by kernel_rfl) rfl (.there .here) (accA_size _ _) (H.ex_acc _)) ?_
  refine s_val (v_field (fo := 0) (by kernel_rfl) rfl) ?_
  refine s_val (v_loadN (m := 8) (cs' := accA _ _) (by kernel_rfl) rfl .here (accA_size _ _) (H.ex_acc _)) ?_
  refine s_val (v_neqFlat (n := 8) _ _ (by kernel_rfl) rfl rfl (accA_list _ _) (accA_list _ _) rfl rfl) ?_
  refine s_val (v_move (v := .bool _) rfl) ?_
  refine s_splitN (s := 11) rfl (fun h11 => ?_) (fun h11 => ?_)
  · refine s_pass rfl rfl (congrArg not h11) ?_
    refine s_pass rfl rfl (congrArg not h11) ?_
    refine s_pass rfl rfl (congrArg not h11) ?_
    refine s_pass rfl rfl (congrArg not h11) ?_
    refine s_pass rfl rfl (congrArg not h11) ?_
    refine s_val (v_pickT (v := .bool _) rfl (congrArg not h11) rfl) ?_
    refine s_val (v_move (v := .bool _) rfl) ?_
    refine s_pass (g := true) rfl rfl rfl ?_
    refine s_pass (g := true) rfl rfl rfl ?_
    refine s_pass (g := true) rfl rfl rfl ?_
    refine s_pass (g := true) rfl rfl rfl ?_
    refine s_pass (g := true) rfl rfl rfl ?_
    refine s_val (v_pickT (v := .bool _) rfl rfl rfl) ?_
    refine s_val (v_move (v := .bool _) rfl) ?_
    refine s_pass (g := true) rfl rfl rfl ?_
    refine s_pass (g := true) rfl rfl rfl ?_
    refine s_pass (g := true) rfl rfl rfl ?_
    refine s_pass (g := true) rfl rfl rfl ?_
    refine s_pass (g := true) rfl rfl rfl ?_
    refine s_val (v_pickT (v := .bool _) rfl rfl rfl) ?_
    refine s_val (v_move (v := .bool _) rfl) ?_
    refine s_pass (g := true) rfl rfl rfl ?_
    refine s_pass (g := true) rfl rfl rfl ?_
    refine s_pass (g := true) rfl rfl rfl ?_
    refine s_pass (g := true) rfl rfl rfl ?_
    refine s_pass (g := true) rfl rfl rfl ?_
    refine s_pass (g := true) rfl rfl rfl ?_
    refine s_pass (g := true) rfl rfl rfl ?_
    refine s_val (v_pickT (v := .bool _) rfl rfl rfl) ?_
    refine s_nil ?_
    refine c_condTh rfl rfl rfl ?_
    refine r_seq (by kernel_rfl) ?_
    refine s_val (v_assign (v := .bool _) rfl) ?_
    refine s_nil ?_
    refine c_ret ?_
    refine n_ret ?_
    refine n_done rfl (by decide) (Eq.trans (b := .bool _) rfl (congrArg Value.bool ?_))
    first | (have e := same_all hp.1 hq.1 h40 h45 hinv; simp only [sameB, *, Bool.true_and, Bool.false_and, Bool.and_true, Bool.and_false, Bool.not_true, Bool.not_false, Bool.true_or, Bool.or_true, Bool.false_or, Bool.or_false, cond_true, cond_false, if_true, if_false, Bool.false_eq_true, decide_true, decide_false]; done) | (have e := same_bad (F := At w) (h := h) (k := k) hpk hqk h57; simp only [sameB, *, Bool.true_and, Bool.false_and, Bool.and_true, Bool.and_false, Bool.not_true, Bool.not_false, Bool.true_or, Bool.or_true, Bool.false_or, Bool.or_false, cond_true, cond_false, if_true, if_false, Bool.false_eq_true, decide_true, decide_false]; done) | (simp only [sameB, *, Bool.true_and, Bool.false_and, Bool.and_true, Bool.and_false, Bool.not_true, Bool.not_false, Bool.true_or, Bool.or_true, Bool.false_or, Bool.or_false, cond_true, cond_false, if_true, if_false, Bool.false_eq_true, decide_true, decide_false]; done)
  refine s_want rfl rfl (congrArg not h11) ?_
  refine s_val (v_field (fo := 8) (by kernel_rfl) rfl) ?_
  refine s_want rfl rfl (congrArg not h11) ?_
  refine s_val (v_loadN (m := 16) (cs' := matA _) (by kernel_rfl) rfl (.there .here) (matA_size _) (H.ex_sent _)) ?_
  refine s_want rfl rfl (congrArg not h11) ?_
  refine s_val (v_field (fo := 8) (by kernel_rfl) rfl) ?_
  refine s_want rfl rfl (congrArg not h11) ?_
  refine s_val (v_loadN (m := 16) (cs' := matA _) (by kernel_rfl) rfl .here (matA_size _) (H.ex_sent _)) ?_
  refine s_want rfl rfl (congrArg not h11) ?_
  refine s_val (v_neqFlat (n := 16) _ _ (by kernel_rfl) rfl rfl (matA_list _) (matA_list _) rfl rfl) ?_
  refine s_val (v_pickF (v := .bool _) rfl (congrArg not h11) rfl) ?_
  refine s_val (v_move (v := .bool _) rfl) ?_
  refine s_splitN (s := 18) rfl (fun h18 => ?_) (fun h18 => ?_)
  · refine s_pass rfl rfl (congrArg not h18) ?_
    refine s_pass rfl rfl (congrArg not h18) ?_
    refine s_pass rfl rfl (congrArg not h18) ?_
    refine s_pass rfl rfl (congrArg not h18) ?_
    refine s_pass rfl rfl (congrArg not h18) ?_
    refine s_val (v_pickT (v := .bool _) rfl (congrArg not h18) rfl) ?_
    refine s_val (v_move (v := .bool _) rfl) ?_
    refine s_pass (g := true) rfl rfl rfl ?_
    refine s_pass (g := true) rfl rfl rfl ?_
    refine s_pass (g := true) rfl rfl rfl ?_
    refine s_pass (g := true) rfl rfl rfl ?_
    refine s_pass (g := true) rfl rfl rfl ?_
    refine s_val (v_pickT (v := .bool _) rfl rfl rfl) ?_
    refine s_val (v_move (v := .bool _) rfl) ?_
    refine s_pass (g := true) rfl rfl rfl ?_
    refine s_pass (g := true) rfl rfl rfl ?_
    refine s_pass (g := true) rfl rfl rfl ?_
    refine s_pass (g := true) rfl rfl rfl ?_
    refine s_pass (g := true) rfl rfl rfl ?_
    refine s_pass (g := true) rfl rfl rfl ?_
    refine s_pass (g := true) rfl rfl rfl ?_
    refine s_val (v_pickT (v := .bool _) rfl rfl rfl) ?_
    refine s_nil ?_
    refine c_condTh rfl rfl rfl ?_
    refine r_seq (by kernel_rfl) ?_
    refine s_val (v_assign (v := .bool _) rfl) ?_
    refine s_nil ?_
    refine c_ret ?_
    refine n_ret ?_
    refine n_done rfl (by decide) (Eq.trans (b := .bool _) rfl (congrArg Value.bool ?_))
    first | (have e := same_all hp.1 hq.1 h40 h45 hinv; simp only [sameB, *, Bool.true_and, Bool.false_and, Bool.and_true, Bool.and_false, Bool.not_true, Bool.not_false, Bool.true_or, Bool.or_true, Bool.false_or, Bool.or_false, cond_true, cond_false, if_true, if_false, Bool.false_eq_true, decide_true, decide_false]; done) | (have e := same_bad (F := At w) (h := h) (k := k) hpk hqk h57; simp only [sameB, *, Bool.true_and, Bool.false_and, Bool.and_true, Bool.and_false, Bool.not_true, Bool.not_false, Bool.true_or, Bool.or_true, Bool.false_or, Bool.or_false, cond_true, cond_false, if_true, if_false, Bool.false_eq_true, decide_true, decide_false]; done) | (simp only [sameB, *, Bool.true_and, Bool.false_and, Bool.and_true, Bool.and_false, Bool.not_true, Bool.not_false, Bool.true_or, Bool.or_true, Bool.false_or, Bool.or_false, cond_true, cond_false, if_true, if_false, Bool.false_eq_true, decide_true, decide_false]; done)
  refine s_want rfl rfl (congrArg not h18) ?_
  refine s_val (v_field (fo := 24) (by kernel_rfl) rfl) ?_
  refine s_want rfl rfl (congrArg not h18) ?_
  refine s_val (v_loadN (m := 16) (cs' := matA _) (by kernel_rfl) rfl (.there .here) (matA_size _) (H.ex_lim _)) ?_
  refine s_want rfl rfl (congrArg not h18) ?_
  refine s_val (v_field (fo := 24) (by kernel_rfl) rfl) ?_
  refine s_want rfl rfl (congrArg not h18) ?_
  refine s_val (v_loadN (m := 16) (cs' := matA _) (by kernel_rfl) rfl .here (matA_size _) (H.ex_lim _)) ?_
  refine s_want rfl rfl (congrArg not h18) ?_
  refine s_val (v_neqFlat (n := 16) _ _ (by kernel_rfl) rfl rfl (matA_list _) (matA_list _) rfl rfl) ?_
  refine s_val (v_pickF (v := .bool _) rfl (congrArg not h18) rfl) ?_
  refine s_val (v_move (v := .bool _) rfl) ?_
  refine s_splitN (s := 25) rfl (fun h25 => ?_) (fun h25 => ?_)
  · refine s_pass rfl rfl (congrArg not h25) ?_
    refine s_pass rfl rfl (congrArg not h25) ?_
    refine s_pass rfl rfl (congrArg not h25) ?_
    refine s_pass rfl rfl (congrArg not h25) ?_
    refine s_pass rfl rfl (congrArg not h25) ?_
    refine s_val (v_pickT (v := .bool _) rfl (congrArg not h25) rfl) ?_
    refine s_val (v_move (v := .bool _) rfl) ?_
    refine s_pass (g := true) rfl rfl rfl ?_
    refine s_pass (g := true) rfl rfl rfl ?_
    refine s_pass (g := true) rfl rfl rfl ?_
    refine s_pass (g := true) rfl rfl rfl ?_
    refine s_pass (g := true) rfl rfl rfl ?_
    refine s_pass (g := true) rfl rfl rfl ?_
    refine s_pass (g := true) rfl rfl rfl ?_
    refine s_val (v_pickT (v := .bool _) rfl rfl rfl) ?_
    refine s_nil ?_
    refine c_condTh rfl rfl rfl ?_
    refine r_seq (by kernel_rfl) ?_
    refine s_val (v_assign (v := .bool _) rfl) ?_
    refine s_nil ?_
    refine c_ret ?_
    refine n_ret ?_
    refine n_done rfl (by decide) (Eq.trans (b := .bool _) rfl (congrArg Value.bool ?_))
    first | (have e := same_all hp.1 hq.1 h40 h45 hinv; simp only [sameB, *, Bool.true_and, Bool.false_and, Bool.and_true, Bool.and_false, Bool.not_true, Bool.not_false, Bool.true_or, Bool.or_true, Bool.false_or, Bool.or_false, cond_true, cond_false, if_true, if_false, Bool.false_eq_true, decide_true, decide_false]; done) | (have e := same_bad (F := At w) (h := h) (k := k) hpk hqk h57; simp only [sameB, *, Bool.true_and, Bool.false_and, Bool.and_true, Bool.and_false, Bool.not_true, Bool.not_false, Bool.true_or, Bool.or_true, Bool.false_or, Bool.or_false, cond_true, cond_false, if_true, if_false, Bool.false_eq_true, decide_true, decide_false]; done) | (simp only [sameB, *, Bool.true_and, Bool.false_and, Bool.and_true, Bool.and_false, Bool.not_true, Bool.not_false, Bool.true_or, Bool.or_true, Bool.false_or, Bool.or_false, cond_true, cond_false, if_true, if_false, Bool.false_eq_true, decide_true, decide_false]; done)
  refine s_want rfl rfl (congrArg not h25) ?_
  refine s_val (v_field (fo := 41) (by kernel_rfl) rfl) ?_
  refine s_want rfl rfl (congrArg not h25) ?_
  refine s_val (v_load1 (v := .int .i64 _) (by kernel_rfl) rfl (.there .here) (H.at_next _)) ?_
  refine s_want rfl rfl (congrArg not h25) ?_
  refine s_val (v_field (fo := 41) (by kernel_rfl) rfl) ?_
  refine s_want rfl rfl (congrArg not h25) ?_
  refine s_val (v_load1 (v := .int .i64 _) (by kernel_rfl) rfl .here (H.at_next _)) ?_
  refine s_want rfl rfl (congrArg not h25) ?_
  refine s_val (v_neq (k := .i64) rfl rfl) ?_
  refine s_val (v_pickF (v := .bool _) rfl (congrArg not h25) rfl) ?_
  refine s_val (v_move (v := .bool _) rfl) ?_
  refine s_splitN (s := 32) rfl (fun h32 => ?_) (fun h32 => ?_)
  · refine s_pass rfl rfl (congrArg not h32) ?_
    refine s_pass rfl rfl (congrArg not h32) ?_
    refine s_pass rfl rfl (congrArg not h32) ?_
    refine s_pass rfl rfl (congrArg not h32) ?_
    refine s_pass rfl rfl (congrArg not h32) ?_
    refine s_pass rfl rfl (congrArg not h32) ?_
    refine s_pass rfl rfl (congrArg not h32) ?_
    refine s_val (v_pickT (v := .bool _) rfl (congrArg not h32) rfl) ?_
    refine s_nil ?_
    refine c_condTh rfl rfl rfl ?_
    refine r_seq (by kernel_rfl) ?_
    refine s_val (v_assign (v := .bool _) rfl) ?_
    refine s_nil ?_
    refine c_ret ?_
    refine n_ret ?_
    refine n_done rfl (by decide) (Eq.trans (b := .bool _) rfl (congrArg Value.bool ?_))
    first | (have e := same_all hp.1 hq.1 h40 h45 hinv; simp only [sameB, *, Bool.true_and, Bool.false_and, Bool.and_true, Bool.and_false, Bool.not_true, Bool.not_false, Bool.true_or, Bool.or_true, Bool.false_or, Bool.or_false, cond_true, cond_false, if_true, if_false, Bool.false_eq_true, decide_true, decide_false]; done) | (have e := same_bad (F := At w) (h := h) (k := k) hpk hqk h57; simp only [sameB, *, Bool.true_and, Bool.false_and, Bool.and_true, Bool.and_false, Bool.not_true, Bool.not_false, Bool.true_or, Bool.or_true, Bool.false_or, Bool.or_false, cond_true, cond_false, if_true, if_false, Bool.false_eq_true, decide_true, decide_false]; done) | (simp only [sameB, *, Bool.true_and, Bool.false_and, Bool.and_true, Bool.and_false, Bool.not_true, Bool.not_false, Bool.true_or, Bool.or_true, Bool.false_or, Bool.or_false, cond_true, cond_false, if_true, if_false, Bool.false_eq_true, decide_true, decide_false]; done)
  refine s_want rfl rfl (congrArg not h32) ?_
  refine s_val (v_field (fo := 40) (by kernel_rfl) rfl) ?_
  refine s_want rfl rfl (congrArg not h32) ?_
  refine s_val (v_load1 (v := .slice _ _ _) (by kernel_rfl) rfl (.there .here) (H.at_pays _)) ?_
  refine s_want rfl rfl (congrArg not h32) ?_
  refine s_val (v_lenS (T := 27) (m := 6) (by kernel_rfl) rfl rfl) ?_
  refine s_want rfl rfl (congrArg not h32) ?_
  refine s_val (v_field (fo := 40) (by kernel_rfl) rfl) ?_
  refine s_want rfl rfl (congrArg not h32) ?_
  refine s_val (v_load1 (v := .slice _ _ _) (by kernel_rfl) rfl .here (H.at_pays _)) ?_
  refine s_want rfl rfl (congrArg not h32) ?_
  refine s_val (v_lenS (T := 27) (m := 6) (by kernel_rfl) rfl rfl) ?_
  refine s_want rfl rfl (congrArg not h32) ?_
  refine s_val (v_neq (k := .i64) rfl rfl) ?_
  refine s_val (v_pickF (v := .bool _) rfl (congrArg not h32) rfl) ?_
  refine s_nil ?_
  refine c_condN rfl rfl (fun h40 => ?_) (fun h40 => ?_)
  · refine r_seq (by kernel_rfl) ?_
    refine s_val (v_assign (v := .bool _) rfl) ?_
    refine s_nil ?_
    refine c_ret ?_
    refine n_ret ?_
    refine n_done rfl (by decide) (Eq.trans (b := .bool _) rfl (congrArg Value.bool ?_))
    first | (have e := same_all hp.1 hq.1 h40 h45 hinv; simp only [sameB, *, Bool.true_and, Bool.false_and, Bool.and_true, Bool.and_false, Bool.not_true, Bool.not_false, Bool.true_or, Bool.or_true, Bool.false_or, Bool.or_false, cond_true, cond_false, if_true, if_false, Bool.false_eq_true, decide_true, decide_false]; done) | (have e := same_bad (F := At w) (h := h) (k := k) hpk hqk h57; simp only [sameB, *, Bool.true_and, Bool.false_and, Bool.and_true, Bool.and_false, Bool.not_true, Bool.not_false, Bool.true_or, Bool.or_true, Bool.false_or, Bool.or_false, cond_true, cond_false, if_true, if_false, Bool.false_eq_true, decide_true, decide_false]; done) | (simp only [sameB, *, Bool.true_and, Bool.false_and, Bool.and_true, Bool.and_false, Bool.not_true, Bool.not_false, Bool.true_or, Bool.or_true, Bool.false_or, Bool.or_false, cond_true, cond_false, if_true, if_false, Bool.false_eq_true, decide_true, decide_false]; done)
  refine c_skip ?_
  refine n_then ?_
  refine c_seq ?_
  have hee := of_decide_eq_true h40
  refine r_seq (by kernel_rfl) ?_
  refine s_val (v_field (fo := 40) (by kernel_rfl) rfl) ?_
  refine s_val (v_load1 (v := .slice _ _ _) (by kernel_rfl) rfl (.there .here) (H.at_pays _)) ?_
  refine s_val (v_lenS (T := 27) (m := 6) (by kernel_rfl) rfl rfl) ?_
  refine s_val (v_move (v := .int .i64 _) rfl) ?_
  refine s_nil ?_
  refine c_block ?_
  refine c_loop (σ := Nat) (fun (j : Nat) f => ∃ g, (j ≤ h.pl ∧ (ps.take j).map PayS.list = (qs.take j).map PayS.list) ∧ f = (upd (upd (upd (upd g 2 (.pointer (some ⟨b2, 0, none⟩))) 3 (.pointer (some ⟨b3, 0, none⟩))) 43 (I h.pl)) 44 (I j))) (fun (j : Nat) => Has w (At w) [(b3, .cells k.cells 29), (b2, .cells h.cells 29)]) (fun (j : Nat) => h.pl - j) 0 ⟨_, ⟨Nat.zero_le _, rfl⟩, live4 rfl rfl rfl rfl⟩ (fun w hw => hw) ?_
  rintro j _ ⟨g, ⟨hjl, hinv⟩, rfl⟩
  refine r_seq (by kernel_rfl) ?_
  refine s_val (v_lss (k := .i64) rfl rfl) ?_
  refine s_nil ?_
  refine c_seq ?_
  refine c_condR rfl rfl (fun h45 => ?_) (fun h45 => ?_)
  · refine c_exit ?_
    refine n_exit ?_
    refine n_exit ?_
    refine n_bhere ?_
    refine n_then ?_
    refine r_seq (by kernel_rfl) ?_
    refine s_val (v_assign (v := .bool _) rfl) ?_
    refine s_nil ?_
    refine c_ret ?_
    refine n_done rfl (by decide) (Eq.trans (b := .bool _) rfl (congrArg Value.bool ?_))
    first | (have e := same_all hp.1 hq.1 h40 h45 hinv; simp only [sameB, *, Bool.true_and, Bool.false_and, Bool.and_true, Bool.and_false, Bool.not_true, Bool.not_false, Bool.true_or, Bool.or_true, Bool.false_or, Bool.or_false, cond_true, cond_false, if_true, if_false, Bool.false_eq_true, decide_true, decide_false]; done) | (have e := same_bad (F := At w) (h := h) (k := k) hpk hqk h57; simp only [sameB, *, Bool.true_and, Bool.false_and, Bool.and_true, Bool.and_false, Bool.not_true, Bool.not_false, Bool.true_or, Bool.or_true, Bool.false_or, Bool.or_false, cond_true, cond_false, if_true, if_false, Bool.false_eq_true, decide_true, decide_false]; done) | (simp only [sameB, *, Bool.true_and, Bool.false_and, Bool.and_true, Bool.and_false, Bool.not_true, Bool.not_false, Bool.true_or, Bool.or_true, Bool.false_or, Bool.or_false, cond_true, cond_false, if_true, if_false, Bool.false_eq_true, decide_true, decide_false]; done)
  have hj0 := of_decide_eq_true h45
  obtain ⟨p, hpk, hd, ht⟩ := hp.get (k := j) (by omega)
  obtain ⟨q, hqk, hd2, ht2⟩ := hq.get (k := j) (by omega)
  obtain ⟨b, o, hpa, hc⟩ := hp.some (k := j) (by omega)
  obtain ⟨b', o', hqa, hc'⟩ := hq.some (k := j) (by omega)
  refine c_skip ?_
  refine n_then ?_
  refine c_seq ?_
  refine c_block ?_
  refine r_seq (by kernel_rfl) ?_
  refine s_val (v_move (v := .int .i64 _) rfl) ?_
  refine s_val (v_assign (v := .int .i64 _) rfl) ?_
  refine s_nil ?_
  refine d_seq (by kernel_rfl) (by kernel_rfl) (fun w hw => hw.drew) (by kernel_rfl) ?_
  refine q_val (v_field (fo := 40) (by kernel_rfl) rfl) ?_
  refine q_val (v_load1 (v := .slice (some ⟨b, o, none⟩) _ _) (by kernel_rfl) rfl (.there .here) (by rw [H.at_pays, hpa])) ?_
  refine q_val (v_move (v := .int .i64 _) rfl) ?_
  refine q_val (v_idxS (size := 6) (k := .i64) (by kernel_rfl) rfl rfl ⟨by omega, by omega⟩) ?_
  refine q_val (v_loadNo (cs := p.cells) (m := 6) (by kernel_rfl) rfl rfl (hc j p hpk)) ?_
  refine q_val (v_field (fo := 40) (by kernel_rfl) rfl) ?_
  refine q_val (v_load1 (v := .slice (some ⟨b', o', none⟩) _ _) (by kernel_rfl) rfl .here (by rw [H.at_pays, hqa])) ?_
  refine q_val (v_move (v := .int .i64 _) rfl) ?_
  refine q_val (v_idxS (size := 6) (k := .i64) (by kernel_rfl) rfl rfl ⟨by omega, by omega⟩) ?_
  refine q_val (v_loadNo (cs := q.cells) (m := 6) (by kernel_rfl) rfl rfl (hc' j q hqk)) ?_
  refine q_val (v_neqFlat (n := 6) _ _ (by kernel_rfl) rfl rfl (PayS.cells_list _) (PayS.cells_list _) rfl rfl) ?_
  refine q_nil ?_
  refine c_condNR rfl rfl (fun h57 => ?_) (fun h57 => ?_)
  · refine c_skip ?_
    refine n_bnormal ?_
    refine n_then ?_
    refine r_list (by kernel_rfl) ?_
    refine s_val (v_add rfl rfl (by omega)) ?_
    refine s_val (v_move (v := .int .i64 _) rfl) ?_
    refine s_end ?_
    refine n_round (j + 1) ⟨_, ⟨by omega, same_step hinv ht ht2 h57⟩, live4 rfl rfl rfl rfl⟩ (fun _ hw => hw) (by omega)
  refine r_seq (by kernel_rfl) ?_
  refine s_val (v_assign (v := .bool _) rfl) ?_
  refine s_nil ?_
  refine c_ret ?_
  refine n_bret ?_
  refine n_ret ?_
  refine n_ret ?_
  refine n_bret ?_
  refine n_ret ?_
  refine n_done rfl (by decide) (Eq.trans (b := .bool _) rfl (congrArg Value.bool ?_))
  first | (have e := same_all hp.1 hq.1 h40 h45 hinv; simp only [sameB, *, Bool.true_and, Bool.false_and, Bool.and_true, Bool.and_false, Bool.not_true, Bool.not_false, Bool.true_or, Bool.or_true, Bool.false_or, Bool.or_false, cond_true, cond_false, if_true, if_false, Bool.false_eq_true, decide_true, decide_false]; done) | (have e := same_bad (F := At w) (h := h) (k := k) hpk hqk h57; simp only [sameB, *, Bool.true_and, Bool.false_and, Bool.and_true, Bool.and_false, Bool.not_true, Bool.not_false, Bool.true_or, Bool.or_true, Bool.false_or, Bool.or_false, cond_true, cond_false, if_true, if_false, Bool.false_eq_true, decide_true, decide_false]; done) | (simp only [sameB, *, Bool.true_and, Bool.false_and, Bool.and_true, Bool.and_false, Bool.not_true, Bool.not_false, Bool.true_or, Bool.or_true, Bool.false_or, Bool.or_false, cond_true, cond_false, if_true, if_false, Bool.false_eq_true, decide_true, decide_false]; done)

end Go.Proofs.Ytmkboljfbmlebaa
/- Contracts of the document side of numbers as bytes. Condition: numbers that may be written down. -/
namespace Go.Proofs.Ytmkboljfbmlebaa
open Go.RowKit
set_option linter.unusedSimpArgs false
set_option linter.unusedVariables false
set_option maxRecDepth 100000
attribute [local irreducible] cC sC nC rC qw

theorem gr_IsNoted (a : ActS) (w : World) : Gives Try.prog 54 [.agg a.cells] w (.bool (noted a)) := by
  refine gives_of Try.func54 rfl Try.ntmps54 (by simp) ?_
  refine r_seq (by kernel_rfl) ?_
  refine s_box (v := .agg _) rfl (fun b1 => ?_)
  refine s_val (v_assign (v := .bool _) rfl) ?_
  refine s_nil ?_
  refine r_seq (by kernel_rfl) ?_
  refine s_val (v_assign (v := .bool _) rfl) ?_
  refine s_nil ?_
  refine c_seq ?_
  refine r_seq (by kernel_rfl) ?_
  refine s_val (v_field (fo := 0) (by kernel_rfl) rfl) ?_
  refine s_val (v_load1 (v := .int .i64 _) (by kernel_rfl) rfl .here rfl) ?_
  refine s_val (v_field (fo := 1) (by kernel_rfl) rfl) ?_
  refine s_val (v_load1 (v := .int .i64 _) (by kernel_rfl) rfl .here rfl) ?_
  refine s_val (v_field (fo := 2) (by kernel_rfl) rfl) ?_
  refine s_val (v_load1 (v := .int .i64 _) (by kernel_rfl) rfl .here rfl) ?_
  refine s_val (v_field (fo := 3) (by kernel_rfl) rfl) ?_
  refine s_val (v_load1 (v := .int .i64 _) (by kernel_rfl) rfl .here rfl) ?_
  refine s_val (v_field (fo := 4) (by kernel_rfl) rfl) ?_
  refine s_val (v_load1 (v := .int .i64 _) (by kernel_rfl) rfl .here rfl) ?_
  refine s_buildS (e := 3) (vs := [(0, .int .i64 _), (1, .int .i64 _), (2, .int .i64 _), (3, .int .i64 _), (4, .int .i64 _)]) (cs := #[I a.kind, I a.a, I a.b, I a.c, I a.n]) rfl (by kernel_rfl) (fun b16 => ?_)
  refine s_val (v_lenS (T := 43) (m := 1) (by kernel_rfl) rfl rfl) ?_
  refine s_val (v_move (v := .int .i64 _) rfl) ?_
  refine s_nil ?_
  refine c_block ?_
  refine c_rounds 6 ?_
  refine r_succ ?_
  refine r_seq (by kernel_rfl) ?_
  refine s_val (v_lss (k := .i64) rfl rfl) ?_
  refine s_nil ?_
  refine c_seq ?_
  refine c_condTh rfl rfl rfl ?_
  refine c_skip ?_
  refine n_then ?_
  refine c_seq ?_
  refine c_block ?_
  refine r_seq (by kernel_rfl) ?_
  refine s_val (v_idxS (size := 1) (k := .i64) (by kernel_rfl) rfl rfl (by decide)) ?_
  refine s_val (v_load1 (v := .int .i64 _) (by kernel_rfl) rfl .here rfl) ?_
  refine s_val (v_assign (v := .int .i64 _) rfl) ?_
  refine s_nil ?_
  refine r_list (by kernel_rfl) ?_
  refine s_val (v_move (v := .bool _) rfl) ?_
  refine s_val (v_move (v := .bool _) rfl) ?_
  refine s_want rfl rfl rfl ?_
  refine s_val (v_move (v := .int .i64 _) rfl) ?_
  refine s_want rfl rfl rfl ?_
  refine s_call (by kernel_rfl) (fun w hw => gr_within _ _ _ w) ?_
  refine s_val (v_pickT (v := .bool _) rfl rfl rfl) ?_
  refine s_val (v_assign (v := .bool _) rfl) ?_
  refine s_end ?_
  refine n_bnormal ?_
  refine n_then ?_
  refine r_list (by kernel_rfl) ?_
  refine s_val (v_addL (c := 1) rfl rfl (by decide) (by decide)) ?_
  refine s_val (v_move (v := .int .i64 _) rfl) ?_
  refine s_end ?_
  refine n_thenR ?_
  refine r_succ ?_
  refine r_seq (by kernel_rfl) ?_
  refine s_val (v_lss (k := .i64) rfl rfl) ?_
  refine s_nil ?_
  refine c_seq ?_
  refine c_condTh rfl rfl rfl ?_
  refine c_skip ?_
  refine n_then ?_
  refine c_seq ?_
  refine c_block ?_
  refine r_seq (by kernel_rfl) ?_
  refine s_val (v_idxS (size := 1) (k := .i64) (by kernel_rfl) rfl rfl (by decide)) ?_
  refine s_val (v_load1 (v := .int .i64 _) (by kernel_rfl) rfl .here rfl) ?_
  refine s_val (v_assign (v := .int .i64 _) rfl) ?_
  refine s_nil ?_
  refine r_list (by kernel_rfl) ?_
  refine s_val (v_move (v := .bool _) rfl) ?_
  refine s_val (v_move (v := .bool _) rfl) ?_
  refine s_splitR (s := 23) rfl (fun h23 => ?_) (fun h23 => ?_)
  · refine s_pass rfl rfl h23 ?_
    refine s_pass rfl rfl h23 ?_
    refine s_val (v_pickF (v := .bool _) rfl h23 rfl) ?_
    refine s_val (v_assign (v := .bool _) rfl) ?_
    refine s_end ?_
    refine n_bnormal ?_
    refine n_then ?_
    refine r_list (by kernel_rfl) ?_
    refine s_val (v_addL (c := 2) rfl rfl (by decide) (by decide)) ?_
    refine s_val (v_move (v := .int .i64 _) rfl) ?_
    refine s_end ?_
    refine n_thenR ?_
    refine r_succ ?_
    refine r_seq (by kernel_rfl) ?_
    refine s_val (v_lss (k := .i64) rfl rfl) ?_
    refine s_nil ?_
    refine c_seq ?_
    refine c_condTh rfl rfl rfl ?_
    refine c_skip ?_
    refine n_then ?_
    refine c_seq ?_
    refine c_block ?_
    refine r_seq (by kernel_rfl) ?_
    refine s_val (v_idxS (size := 1) (k := .i64) (by kernel_rfl) rfl rfl (by decide)) ?_
    refine s_val (v_load1 (v := .int .i64 _) (by kernel_rfl) rfl .here rfl) ?_
    refine s_val (v_assign (v := .int .i64 _) rfl) ?_
    refine s_nil ?_
    refine r_list (by kernel_rfl) ?_
    refine s_val (v_move (v := .bool _) rfl) ?_
    refine s_val (v_move (v := .bool _) rfl) ?_
    refine s_pass (g := false) rfl rfl rfl ?_
    refine s_pass (g := false) rfl rfl rfl ?_
    refine s_val (v_pickF (v := .bool _) rfl rfl rfl) ?_
    refine s_val (v_assign (v := .bool _) rfl) ?_
    refine s_end ?_
    refine n_bnormal ?_
    refine n_then ?_
    refine r_list (by kernel_rfl) ?_
    refine s_val (v_addL (c := 3) rfl rfl (by decide) (by decide)) ?_
    refine s_val (v_move (v := .int .i64 _) rfl) ?_
    refine s_end ?_
    refine n_thenR ?_
    refine r_succ ?_
    refine r_seq (by kernel_rfl) ?_
    refine s_val (v_lss (k := .i64) rfl rfl) ?_
    refine s_nil ?_
    refine c_seq ?_
    refine c_condTh rfl rfl rfl ?_
    refine c_skip ?_
    refine n_then ?_
    refine c_seq ?_
    refine c_block ?_
    refine r_seq (by kernel_rfl) ?_
    refine s_val (v_idxS (size := 1) (k := .i64) (by kernel_rfl) rfl rfl (by decide)) ?_
    refine s_val (v_load1 (v := .int .i64 _) (by kernel_rfl) rfl .here rfl) ?_
    refine s_val (v_assign (v := .int .i64 _) rfl) ?_
    refine s_nil ?_
    refine r_list (by kernel_rfl) ?_
    refine s_val (v_move (v := .bool _) rfl) ?_
    refine s_val (v_move (v := .bool _) rfl) ?_
    refine s_pass (g := false) rfl rfl rfl ?_
    refine s_pass (g := false) rfl rfl rfl ?_
    refine s_val (v_pickF (v := .bool _) rfl rfl rfl) ?_
    refine s_val (v_assign (v := .bool _) rfl) ?_
    refine s_end ?_
    refine n_bnormal ?_
    refine n_then ?_
    refine r_list (by kernel_rfl) ?_
    refine s_val (v_addL (c := 4) rfl rfl (by decide) (by decide)) ?_
    refine s_val (v_move (v := .int .i64 _) rfl) ?_
    refine s_end ?_
    refine n_thenR ?_
    refine r_succ ?_
    refine r_seq (by kernel_rfl) ?_
    refine s_val (v_lss (k := .i64) rfl rfl) ?_
    refine s_nil ?_
    refine c_seq ?_
    refine c_condTh rfl rfl rfl ?_
    refine c_skip ?_
    refine n_then ?_
    refine c_seq ?_
    refine c_block ?_
    refine r_seq (by kernel_rfl) ?_
    refine s_val (v_idxS (size := 1) (k := .i64) (by kernel_rfl) rfl rfl (by decide)) ?_
    refine s_val (v_load1 (v := .int .i64 _) (by kernel_rfl) rfl .here rfl) ?_
    refine s_val (v_assign (v := .int .i64 _) rfl) ?_
    refine s_nil ?_
    refine r_list (by kernel_rfl) ?_
    refine s_val (v_move (v := .bool _) rfl) ?_
    refine s_val (v_move (v := .bool _) rfl) ?_
    refine s_pass (g := false) rfl rfl rfl ?_
    refine s_pass (g := false) rfl rfl rfl ?_
    refine s_val (v_pickF (v := .bool _) rfl rfl rfl) ?_
    refine s_val (v_assign (v := .bool _) rfl) ?_
    refine s_end ?_
    refine n_bnormal ?_
    refine n_then ?_
    refine r_list (by kernel_rfl) ?_
    refine s_val (v_addL (c := 5) rfl rfl (by decide) (by decide)) ?_
    refine s_val (v_move (v := .int .i64 _) rfl) ?_
    refine s_end ?_
    refine n_thenR ?_
    refine r_succ ?_
    refine r_seq (by kernel_rfl) ?_
    refine s_val (v_lss (k := .i64) rfl rfl) ?_
    refine s_nil ?_
    refine c_seq ?_
    refine c_condFh rfl rfl rfl ?_
    refine c_exit ?_
    refine n_exit ?_
    refine n_exit ?_
    refine n_bhere ?_
    refine n_then ?_
    refine r_seq (by kernel_rfl) ?_
    refine s_val (v_move (v := .bool _) rfl) ?_
    refine s_val (v_assign (v := .bool _) rfl) ?_
    refine s_nil ?_
    refine c_ret ?_
    refine n_done rfl (by decide) (Eq.trans (b := .bool _) rfl (congrArg Value.bool ?_))
    simp only [noted, show ∀ n : Int, notedI n = withinB n (-1073741824) 1073741824 from fun _ => rfl, *, Bool.true_and, Bool.false_and, Bool.and_true, Bool.and_false, Bool.not_true, Bool.not_false, Bool.true_or, Bool.or_true, Bool.false_or, Bool.or_false, cond_true, cond_false, if_true, if_false, Bool.false_eq_true, decide_true, decide_false]
  refine s_want rfl rfl h23 ?_
  refine s_val (v_move (v := .int .i64 _) rfl) ?_
  refine s_want rfl rfl h23 ?_
  refine s_call (by kernel_rfl) (fun w hw => gr_within _ _ _ w) ?_
  refine s_val (v_pickT (v := .bool _) rfl h23 rfl) ?_
  refine s_val (v_assign (v := .bool _) rfl) ?_
  refine s_end ?_
  refine n_bnormal ?_
  refine n_then ?_
  refine r_list (by kernel_rfl) ?_
  refine s_val (v_addL (c := 2) rfl rfl (by decide) (by decide)) ?_
  refine s_val (v_move (v := .int .i64 _) rfl) ?_
  refine s_end ?_
  refine n_thenR ?_
  refine r_succ ?_
  refine r_seq (by kernel_rfl) ?_
  refine s_val (v_lss (k := .i64) rfl rfl) ?_
  refine s_nil ?_
  refine c_seq ?_
  refine c_condTh rfl rfl rfl ?_
  refine c_skip ?_
  refine n_then ?_
  refine c_seq ?_
  refine c_block ?_
  refine r_seq (by kernel_rfl) ?_
  refine s_val (v_idxS (size := 1) (k := .i64) (by kernel_rfl) rfl rfl (by decide)) ?_
  refine s_val (v_load1 (v := .int .i64 _) (by kernel_rfl) rfl .here rfl) ?_
  refine s_val (v_assign (v := .int .i64 _) rfl) ?_
  refine s_nil ?_
  refine r_list (by kernel_rfl) ?_
  refine s_val (v_move (v := .bool _) rfl) ?_
  refine s_val (v_move (v := .bool _) rfl) ?_
  refine s_splitR (s := 23) rfl (fun h23 => ?_) (fun h23 => ?_)
  · refine s_pass rfl rfl h23 ?_
    refine s_pass rfl rfl h23 ?_
    refine s_val (v_pickF (v := .bool _) rfl h23 rfl) ?_
    refine s_val (v_assign (v := .bool _) rfl) ?_
    refine s_end ?_
    refine n_bnormal ?_
    refine n_then ?_
    refine r_list (by kernel_rfl) ?_
    refine s_val (v_addL (c := 3) rfl rfl (by decide) (by decide)) ?_
    refine s_val (v_move (v := .int .i64 _) rfl) ?_
    refine s_end ?_
    refine n_thenR ?_
    refine r_succ ?_
    refine r_seq (by kernel_rfl) ?_
    refine s_val (v_lss (k := .i64) rfl rfl) ?_
    refine s_nil ?_
    refine c_seq ?_
    refine c_condTh rfl rfl rfl ?_
    refine c_skip ?_
    refine n_then ?_
    refine c_seq ?_
    refine c_block ?_
    refine r_seq (by kernel_rfl) ?_
    refine s_val (v_idxS (size := 1) (k := .i64) (by kernel_rfl) rfl rfl (by decide)) ?_
    refine s_val (v_load1 (v := .int .i64 _) (by kernel_rfl) rfl .here rfl) ?_
    refine s_val (v_assign (v := .int .i64 _) rfl) ?_
    refine s_nil ?_
    refine r_list (by kernel_rfl) ?_
    refine s_val (v_move (v := .bool _) rfl) ?_
    refine s_val (v_move (v := .bool _) rfl) ?_
    refine s_pass (g := false) rfl rfl rfl ?_
    refine s_pass (g := false) rfl rfl rfl ?_
    refine s_val (v_pickF (v := .bool _) rfl rfl rfl) ?_
    refine s_val (v_assign (v := .bool _) rfl) ?_
    refine s_end ?_
    refine n_bnormal ?_
    refine n_then ?_
    refine r_list (by kernel_rfl) ?_
    refine s_val (v_addL (c := 4) rfl rfl (by decide) (by decide)) ?_
    refine s_val (v_move (v := .int .i64 _) rfl) ?_
    refine s_end ?_
    refine n_thenR ?_
    refine r_succ ?_
    refine r_seq (by kernel_rfl) ?_
    refine s_val (v_lss (k := .i64) rfl rfl) ?_
    refine s_nil ?_
    refine c_seq ?_
    refine c_condTh rfl rfl rfl ?_
    refine c_skip ?_
    refine n_then ?_
    refine c_seq ?_
    refine c_block ?_
    refine r_seq (by kernel_rfl) ?_
    refine s_val (v_idxS (size := 1) (k := .i64) (by kernel_rfl) rfl rfl (by decide)) ?_
    refine s_val (v_load1 (v := .int .i64 _) (by kernel_rfl) rfl .here rfl) ?_
    refine s_val (v_assign (v := .int .i64 _) rfl) ?_
    refine s_nil ?_
    refine r_list (by kernel_rfl) ?_
    refine s_val (v_move (v := .bool _) rfl) ?_
    refine s_val (v_move (v := .bool _) rfl) ?_
    refine s_pass (g := false) rfl rfl rfl ?_
    refine s_pass (g := false) rfl rfl rfl ?_
    refine s_val (v_pickF (v := .bool _) rfl rfl rfl) ?_
    refine s_val (v_assign (v := .bool _) rfl) ?_
    refine s_end ?_
    refine n_bnormal ?_
    refine n_then ?_
    refine r_list (by kernel_rfl) ?_
    refine s_val (v_addL (c := 5) rfl rfl (by decide) (by decide)) ?_
    refine s_val (v_move (v := .int .i64 _) rfl) ?_
    refine s_end ?_
    refine n_thenR ?_
    refine r_succ ?_
    refine r_seq (by kernel_rfl) ?_
    refine s_val (v_lss (k := .i64) rfl rfl) ?_
    refine s_nil ?_
    refine c_seq ?_
    refine c_condFh rfl rfl rfl ?_
    refine c_exit ?_
    refine n_exit ?_
    refine n_exit ?_
    refine n_bhere ?_
    refine n_then ?_
    refine r_seq (by kernel_rfl) ?_
    refine s_val (v_move (v := .bool _) rfl) ?_
    refine s_val (v_assign (v := .bool _) rfl) ?_
    refine s_nil ?_
    refine c_ret ?_
    refine n_done rfl (by decide) (Eq.trans (b := .bool _) rfl (congrArg Value.bool ?_))
    simp only [noted, show ∀ n : Int, notedI n = withinB n (-1073741824) 1073741824 from fun _ => rfl, *, Bool.true_and, Bool.false_and, Bool.and_true, Bool.and_false, Bool.not_true, Bool.not_false, Bool.true_or, Bool.or_true, Bool.false_or, Bool.or_false, cond_true, cond_false, if_true, if_false, Bool.false_eq_true, decide_true, decide_false]
  refine s_want rfl rfl h23 ?_
  refine s_val (v_move (v := .int .i64 _) rfl) ?_
  refine s_want rfl rfl h23 ?_
  refine s_call (by kernel_rfl) (fun w hw => gr_within _ _ _ w) ?_
  refine s_val (v_pickT (v := .bool _) rfl h23 rfl) ?_
  refine s_val (v_assign (v := .bool _) rfl) ?_
  refine s_end ?_
  refine n_bnormal ?_
  refine n_then ?_
  refine r_list (by kernel_rfl) ?_
  refine s_val (v_addL (c := 3) rfl rfl (by decide) (by decide)) ?_
  refine s_val (v_move (v := .int .i64 _) rfl) ?_
  refine s_end ?_
  refine n_thenR ?_
  refine r_succ ?_
  refine r_seq (by kernel_rfl) ?_
  refine s_val (v_lss (k := .i64) rfl rfl) ?_
  refine s_nil ?_
  refine c_seq ?_
  refine c_condTh rfl rfl rfl ?_
  refine c_skip ?_
  refine n_then ?_
  refine c_seq ?_
  refine c_block ?_
  refine r_seq (by kernel_rfl) ?_
  refine s_val (v_idxS (size := 1) (k := .i64) (by kernel_rfl) rfl rfl (by decide)) ?_
  refine s_val (v_load1 (v := .int .i64 _) (by kernel_rfl) rfl .here rfl) ?_
  refine s_val (v_assign (v := .int .i64 _) rfl) ?_
  refine s_nil ?_
  refine r_list (by kernel_rfl) ?_
  refine s_val (v_move (v := .bool _) rfl) ?_
  refine s_val (v_move (v := .bool _) rfl) ?_
  refine s_splitR (s := 23) rfl (fun h23 => ?_) (fun h23 => ?_)
  · refine s_pass rfl rfl h23 ?_
    refine s_pass rfl rfl h23 ?_
    refine s_val (v_pickF (v := .bool _) rfl h23 rfl) ?_
    refine s_val (v_assign (v := .bool _) rfl) ?_
    refine s_end ?_
    refine n_bnormal ?_
    refine n_then ?_
    refine r_list (by kernel_rfl) ?_
    refine s_val (v_addL (c := 4) rfl rfl (by decide) (by decide)) ?_
    refine s_val (v_move (v := .int .i64 _) rfl) ?_
    refine s_end ?_
    refine n_thenR ?_
    refine r_succ ?_
    refine r_seq (by kernel_rfl) ?_
    refine s_val (v_lss (k := .i64) rfl rfl) ?_
    refine s_nil ?_
    refine c_seq ?_
    refine c_condTh rfl rfl rfl ?_
    refine c_skip ?_
    refine n_then ?_
    refine c_seq ?_
    refine c_block ?_
    refine r_seq (by kernel_rfl) ?_
    refine s_val (v_idxS (size := 1) (k := .i64) (by kernel_rfl) rfl rfl (by decide)) ?_
    refine s_val (v_load1 (v := .int .i64 _) (by kernel_rfl) rfl .here rfl) ?_
    refine s_val (v_assign (v := .int .i64 _) rfl) ?_
    refine s_nil ?_
    refine r_list (by kernel_rfl) ?_
    refine s_val (v_move (v := .bool _) rfl) ?_
    refine s_val (v_move (v := .bool _) rfl) ?_
    refine s_pass (g := false) rfl rfl rfl ?_
    refine s_pass (g := false) rfl rfl rfl ?_
    refine s_val (v_pickF (v := .bool _) rfl rfl rfl) ?_
    refine s_val (v_assign (v := .bool _) rfl) ?_
    refine s_end ?_
    refine n_bnormal ?_
    refine n_then ?_
    refine r_list (by kernel_rfl) ?_
    refine s_val (v_addL (c := 5) rfl rfl (by decide) (by decide)) ?_
    refine s_val (v_move (v := .int .i64 _) rfl) ?_
    refine s_end ?_
    refine n_thenR ?_
    refine r_succ ?_
    refine r_seq (by kernel_rfl) ?_
    refine s_val (v_lss (k := .i64) rfl rfl) ?_
    refine s_nil ?_
    refine c_seq ?_
    refine c_condFh rfl rfl rfl ?_
    refine c_exit ?_
    refine n_exit ?_
    refine n_exit ?_
    refine n_bhere ?_
    refine n_then ?_
    refine r_seq (by kernel_rfl) ?_
    refine s_val (v_move (v := .bool _) rfl) ?_
    refine s_val (v_assign (v := .bool _) rfl) ?_
    refine s_nil ?_
    refine c_ret ?_
    refine n_done rfl (by decide) (Eq.trans (b := .bool _) rfl (congrArg Value.bool ?_))
    simp only [noted, show ∀ n : Int, notedI n = withinB n (-1073741824) 1073741824 from fun _ => rfl, *, Bool.true_and, Bool.false_and, Bool.and_true, Bool.and_false, Bool.not_true, Bool.not_false, Bool.true_or, Bool.or_true, Bool.false_or, Bool.or_false, cond_true, cond_false, if_true, if_false, Bool.false_eq_true, decide_true, decide_false]
  refine s_want rfl rfl h23 ?_
  refine s_val (v_move (v := .int .i64 _) rfl) ?_
  refine s_want rfl rfl h23 ?_
  refine s_call (by kernel_rfl) (fun w hw => gr_within _ _ _ w) ?_
  refine s_val (v_pickT (v := .bool _) rfl h23 rfl) ?_
  refine s_val (v_assign (v := .bool _) rfl) ?_
  refine s_end ?_
  refine n_bnormal ?_
  refine n_then ?_
  refine r_list (by kernel_rfl) ?_
  refine s_val (v_addL (c := 4) rfl rfl (by decide) (by decide)) ?_
  refine s_val (v_move (v := .int .i64 _) rfl) ?_
  refine s_end ?_
  refine n_thenR ?_
  refine r_succ ?_
  refine r_seq (by kernel_rfl) ?_
  refine s_val (v_lss (k := .i64) rfl rfl) ?_
  refine s_nil ?_
  refine c_seq ?_
  refine c_condTh rfl rfl rfl ?_
  refine c_skip ?_
  refine n_then ?_
  refine c_seq ?_
  refine c_block ?_
  refine r_seq (by kernel_rfl) ?_
  refine s_val (v_idxS (size := 1) (k := .i64) (by kernel_rfl) rfl rfl (by decide)) ?_
  refine s_val (v_load1 (v := .int .i64 _) (by kernel_rfl) rfl .here rfl) ?_
  refine s_val (v_assign (v := .int .i64 _) rfl) ?_
  refine s_nil ?_
  refine r_list (by kernel_rfl) ?_
  refine s_val (v_move (v := .bool _) rfl) ?_
  refine s_val (v_move (v := .bool _) rfl) ?_
  refine s_splitR (s := 23) rfl (fun h23 => ?_) (fun h23 => ?_)
  · refine s_pass rfl rfl h23 ?_
    refine s_pass rfl rfl h23 ?_
    refine s_val (v_pickF (v := .bool _) rfl h23 rfl) ?_
    refine s_val (v_assign (v := .bool _) rfl) ?_
    refine s_end ?_
    refine n_bnormal ?_
    refine n_then ?_
    refine r_list (by kernel_rfl) ?_
    refine s_val (v_addL (c := 5) rfl rfl (by decide) (by decide)) ?_
    refine s_val (v_move (v := .int .i64 _) rfl) ?_
    refine s_end ?_
    refine n_thenR ?_
    refine r_succ ?_
    refine r_seq (by kernel_rfl) ?_
    refine s_val (v_lss (k := .i64) rfl rfl) ?_
    refine s_nil ?_
    refine c_seq ?_
    refine c_condFh rfl rfl rfl ?_
    refine c_exit ?_
    refine n_exit ?_
    refine n_exit ?_
    refine n_bhere ?_
    refine n_then ?_
    refine r_seq (by kernel_rfl) ?_
    refine s_val (v_move (v := .bool _) rfl) ?_
    refine s_val (v_assign (v := .bool _) rfl) ?_
    refine s_nil ?_
    refine c_ret ?_
    refine n_done rfl (by decide) (Eq.trans (b := .bool _) rfl (congrArg Value.bool ?_))
    simp only [noted, show ∀ n : Int, notedI n = withinB n (-1073741824) 1073741824 from fun _ => rfl, *, Bool.true_and, Bool.false_and, Bool.and_true, Bool.and_false, Bool.not_true, Bool.not_false, Bool.true_or, Bool.or_true, Bool.false_or, Bool.or_false, cond_true, cond_false, if_true, if_false, Bool.false_eq_true, decide_true, decide_false]
  refine s_want rfl rfl h23 ?_
  refine s_val (v_move (v := .int .i64 _) rfl) ?_
  refine s_want rfl rfl h23 ?_
  refine s_call (by kernel_rfl) (fun w hw => gr_within _ _ _ w) ?_
  refine s_val (v_pickT (v := .bool _) rfl h23 rfl) ?_
  refine s_val (v_assign (v := .bool _) rfl) ?_
  refine s_end ?_
  refine n_bnormal ?_
  refine n_then ?_
  refine r_list (by kernel_rfl) ?_
  refine s_val (v_addL (c := 5) rfl rfl (by decide) (by decide)) ?_
  refine s_val (v_move (v := .int .i64 _) rfl) ?_
  refine s_end ?_
  refine n_thenR ?_
  refine r_succ ?_
  refine r_seq (by kernel_rfl) ?_
  refine s_val (v_lss (k := .i64) rfl rfl) ?_
  refine s_nil ?_
  refine c_seq ?_
  refine c_condFh rfl rfl rfl ?_
  refine c_exit ?_
  refine n_exit ?_
  refine n_exit ?_
  refine n_bhere ?_
  refine n_then ?_
  refine r_seq (by kernel_rfl) ?_
  refine s_val (v_move (v := .bool _) rfl) ?_
  refine s_val (v_assign (v := .bool _) rfl) ?_
  refine s_nil ?_
  refine c_ret ?_
  refine n_done rfl (by decide) (Eq.trans (b := .bool _) rfl (congrArg Value.bool ?_))
  simp only [noted, show ∀ n : Int, notedI n = withinB n (-1073741824) 1073741824 from fun _ => rfl, *, Bool.true_and, Bool.false_and, Bool.and_true, Bool.and_false, Bool.not_true, Bool.not_false, Bool.true_or, Bool.or_true, Bool.false_or, Bool.or_false, cond_true, cond_false, if_true, if_false, Bool.false_eq_true, decide_true, decide_false]

theorem gr_sums (l : List Nat) (w : World) (hb : Byt l) (hl : l.length ≤ 1000) : Gives Try.prog 80 [S l] w (S [(sumOf l).1 % 251, (sumOf l).2 % 251]) := by
  refine gives_of Try.func80 rfl Try.ntmps80 (by simp) ?_
  refine r_seq (by kernel_rfl) ?_
  refine s_val (v_assign (v := S []) rfl) ?_
  refine s_nil ?_
  refine r_seq (by kernel_rfl) ?_
  refine s_val (v_assign (v := .int .i64 _) rfl) ?_
  refine s_val (v_assign (v := .int .i64 _) rfl) ?_
  refine s_nil ?_
  refine c_seq ?_
  refine r_seq (by kernel_rfl) ?_
  refine s_val (v_move (v := S _) rfl) ?_
  refine s_bytesOf (by kernel_rfl) (by kernel_rfl) rfl hb (fun b8 c8 cs8 e8 fr8 hc8 hcs8 => ?_)
  refine s_val (v_lenS (T := 84) (m := 1) (by kernel_rfl) rfl rfl) ?_
  refine s_val (v_move (v := .int .i64 _) rfl) ?_
  refine s_nil ?_
  refine c_block ?_
  refine c_loop (σ := Nat) (fun (k : Nat) f => ∃ g, (k ≤ l.length) ∧ f = (upd (upd (upd (upd (upd g 3 (I (sumOf (l.take k)).1)) 4 (I (sumOf (l.take k)).2)) 8 (.slice (some ⟨b8, 0, none⟩) l.length c8)) 9 (I l.length)) 10 (I k))) (fun (k : Nat) => Has w (At w) [(b8, .cells cs8 e8 fr8)]) (fun (k : Nat) => l.length - k) 0 ⟨_, Nat.zero_le _, live5 rfl rfl rfl rfl rfl⟩ (fun w hw => hw) ?_
  rintro k _ ⟨g, hkl0, rfl⟩
  refine r_seq (by kernel_rfl) ?_
  refine s_val (v_lss (k := .i64) rfl rfl) ?_
  refine s_nil ?_
  refine c_seq ?_
  refine c_condR rfl rfl (fun h11 => ?_) (fun h11 => ?_)
  · have hkl : k = l.length := by have := of_decide_eq_false h11; omega
    subst hkl
    rw [List.take_of_length_le (Nat.le_refl _)]
    refine c_exit ?_
    refine n_exit ?_
    refine n_exit ?_
    refine n_bhere ?_
    refine n_then ?_
    refine r_seq (by kernel_rfl) ?_
    refine s_val (v_move (v := .int .i64 _) rfl) ?_
    refine s_val (v_rem (c := (((sumOf l).1 % 251 : Nat) : Int)) rfl rfl (by decide) (tmod_nat _ 251)) ?_
    refine s_val (v_toU8 (by kernel_rfl) rfl ⟨by omega, by omega⟩) ?_
    refine s_val (v_move (v := .int .i64 _) rfl) ?_
    refine s_val (v_rem (c := (((sumOf l).2 % 251 : Nat) : Int)) rfl rfl (by decide) (tmod_nat _ 251)) ?_
    refine s_val (v_toU8 (by kernel_rfl) rfl ⟨by omega, by omega⟩) ?_
    refine s_buildS (e := 5) (vs := [(0, .int .u8 _), (1, .int .u8 _)]) (cs := #[U8 (((sumOf l).1 % 251 : Nat) : Int), U8 (((sumOf l).2 % 251 : Nat) : Int)]) rfl (by kernel_rfl) (fun b28 => ?_)
    refine s_val (v_strOf (l := [(sumOf l).1 % 251, (sumOf l).2 % 251]) (by kernel_rfl) (by kernel_rfl) rfl rfl .here (byt_two (by omega) (by omega)) (cells_two _ _)) ?_
    refine s_val (v_assign (v := S _) rfl) ?_
    refine s_nil ?_
    refine c_ret ?_
    exact n_done rfl (by decide) rfl
  have hk0 := of_decide_eq_true h11
  obtain ⟨m, hm⟩ : ∃ m, l[k]? = some m := ⟨l[k]'(by omega), List.getElem?_eq_getElem (by omega)⟩
  have hm256 := hb m (List.mem_of_getElem? hm)
  have hsb := sum_bound hb k
  have hkk : k * (1 + 255 * k) ≤ 1000 * (1 + 255 * 1000) := Nat.mul_le_mul (by omega) (by omega)
  have hss := sum_step hm
  refine c_skip ?_
  refine n_then ?_
  refine c_seq ?_
  refine c_block ?_
  refine r_seq (by kernel_rfl) ?_
  refine s_val (v_idxS (size := 1) (k := .i64) (by kernel_rfl) rfl rfl ⟨by omega, by omega⟩) ?_
  refine s_val (v_load1 (v := U8 m) (by kernel_rfl) rfl .here (by simpa using hcs8 k m hm)) ?_
  refine s_val (v_assign (v := .int .u8 _) rfl) ?_
  refine s_nil ?_
  refine r_seq (by kernel_rfl) ?_
  refine s_val (v_move (v := .int .i64 _) rfl) ?_
  refine s_val (v_move (v := .int .u8 _) rfl) ?_
  refine s_val (v_ofU8 (by kernel_rfl) rfl ⟨by omega, by omega⟩) ?_
  refine s_val (v_add rfl rfl (by omega)) ?_
  refine s_val (v_assign (v := .int .i64 _) rfl) ?_
  refine s_nil ?_
  refine r_list (by kernel_rfl) ?_
  refine s_val (v_move (v := .int .i64 _) rfl) ?_
  refine s_val (v_move (v := .int .i64 _) rfl) ?_
  refine s_val (v_add rfl rfl (by omega)) ?_
  refine s_val (v_assign (v := .int .i64 _) rfl) ?_
  refine s_end ?_
  refine n_bnormal ?_
  refine n_then ?_
  refine r_list (by kernel_rfl) ?_
  refine s_val (v_add rfl rfl (by omega)) ?_
  refine s_val (v_move (v := .int .i64 _) rfl) ?_
  refine s_end ?_
  refine n_round (k + 1) ⟨_, (by omega), live5 (congrArg I (by rw [hss]; rfl)) (congrArg I (by rw [hss]; push_cast; rfl)) rfl rfl rfl⟩ (fun _ hw => hw) (by omega)

theorem gr_numberText (n : Int) (w : World) (hn : notedI n = true) : Gives Try.prog 79 [I n] w (S (digs (zig n))) := by
  have hn2 := notedI_iff.1 hn
  have hz5 := zig_lt hn
  refine gives_of Try.func79 rfl Try.ntmps79 (by simp) ?_
  refine r_seq (by kernel_rfl) ?_
  refine s_val (v_assign (v := S []) rfl) ?_
  refine s_nil ?_
  refine r_seq (by kernel_rfl) ?_
  refine s_val (v_move (v := .int .i64 _) rfl) ?_
  refine s_val (v_mul rfl rfl (by omega)) ?_
  refine s_val (v_assign (v := .int .i64 _) rfl) ?_
  refine s_nil ?_
  refine c_seq ?_
  refine r_seq (by kernel_rfl) ?_
  refine s_val (v_move (v := .int .i64 _) rfl) ?_
  refine s_val (v_lss (k := .i64) rfl rfl) ?_
  refine s_nil ?_
  refine c_condR rfl rfl (fun h8 => ?_) (fun h8 => ?_)
  · rw [zig_pos (of_decide_eq_false h8)]
    refine c_skip ?_
    refine n_then ?_
    refine c_seq ?_
    refine r_seq (by kernel_rfl) ?_
    refine s_val (v_move (v := .int .i64 _) rfl) ?_
    refine s_val (v_lss (k := .i64) rfl rfl) ?_
    refine s_nil ?_
    refine c_cond rfl rfl (fun h13 => ?_) (fun h13 => ?_)
    · have hlo := of_decide_eq_true h13
      refine r_seq (by kernel_rfl) ?_
      refine s_val (v_move (v := .int .i64 _) rfl) ?_
      refine s_val (v_toU8 (by kernel_rfl) rfl ⟨by omega, by omega⟩) ?_
      refine s_build1 (v := .int .u8 _) (e := 5) (m := 1) (by_ := 1) (by kernel_rfl) rfl rfl rfl (fill_scalar rfl) (fun b16 => ?_)
      refine s_val (v_strOf (l := [zig n]) (by kernel_rfl) (by kernel_rfl) rfl rfl .here (byt_one (by omega)) (cells_one _)) ?_
      refine s_val (v_assign (v := S _) rfl) ?_
      refine s_nil ?_
      refine c_ret ?_
      refine n_ret ?_
      exact n_done rfl (by decide) (congrArg S (digs_lo (by omega)).symm)
    have hhi := of_decide_eq_false h13
    refine c_skip ?_
    refine n_then ?_
    refine r_seq (by kernel_rfl) ?_
    refine s_val (v_assign (v := S []) rfl) ?_
    refine s_nil ?_
    refine c_seq ?_
    refine c_block ?_
    refine c_loop (σ := Nat × List Nat) (fun ((u, s) : Nat × List Nat) f => ∃ g, (digs (zig n) = s ++ digs u ∧ u < 128 ^ 5 ∧ s.length + (digs u).length ≤ 5) ∧ f = (upd (upd g 3 (I (u : Int))) 4 (S s))) (fun ((u, s) : Nat × List Nat) => Has w (At w) []) (fun ((u, s) : Nat × List Nat) => u) (zig n, []) ⟨_, ⟨rfl, hz5, by simpa using digs_len5 hn⟩, live2 rfl rfl⟩ (fun w hw => hw) ?_
    rintro ⟨u, s⟩ _ ⟨g, ⟨hdg, hu5, hsl⟩, rfl⟩
    refine c_seq ?_
    refine r_seq (by kernel_rfl) ?_
    refine s_val (v_move (v := .int .i64 _) rfl) ?_
    refine s_val (v_geq (k := .i64) rfl rfl) ?_
    refine s_nil ?_
    refine c_condR rfl rfl (fun h19 => ?_) (fun h19 => ?_)
    · have hu := of_decide_eq_false h19
      refine c_exit ?_
      refine n_exit ?_
      refine n_exit ?_
      refine n_bhere ?_
      refine n_then ?_
      refine r_seq (by kernel_rfl) ?_
      refine s_val (v_move (v := S _) rfl) ?_
      refine s_val (v_move (v := .int .i64 _) rfl) ?_
      refine s_val (v_toU8 (by kernel_rfl) rfl ⟨by omega, by omega⟩) ?_
      refine s_build1 (v := .int .u8 _) (e := 5) (m := 1) (by_ := 1) (by kernel_rfl) rfl rfl rfl (fill_scalar rfl) (fun b33 => ?_)
      refine s_val (v_strOf (l := [u]) (by kernel_rfl) (by kernel_rfl) rfl rfl .here (byt_one (by omega)) (cells_one _)) ?_
      refine s_val (v_strAdd rfl rfl (by simp only [List.length_cons, List.length_nil]; omega)) ?_
      refine s_val (v_assign (v := S _) rfl) ?_
      refine s_nil ?_
      refine c_ret ?_
      exact n_done rfl (by decide) (congrArg S (by rw [hdg, digs_lo (by omega)]))
    have hu := of_decide_eq_true h19
    refine c_skip ?_
    refine n_then ?_
    refine c_block ?_
    refine r_seq (by kernel_rfl) ?_
    refine s_val (v_move (v := S _) rfl) ?_
    refine s_val (v_move (v := .int .i64 _) rfl) ?_
    refine s_val (v_rem (c := ((u % 128 : Nat) : Int)) rfl rfl (by decide) (tmod_nat _ 128)) ?_
    refine s_val (v_add rfl rfl (by omega)) ?_
    refine s_val (v_toU8 (by kernel_rfl) rfl ⟨by omega, by omega⟩) ?_
    refine s_build1 (v := .int .u8 _) (e := 5) (m := 1) (by_ := 1) (by kernel_rfl) rfl rfl rfl (fill_scalar rfl) (fun b25 => ?_)
    refine s_val (v_strOf (l := [128 + u % 128]) (by kernel_rfl) (by kernel_rfl) rfl rfl .here (byt_one (by omega)) (cells_one _)) ?_
    refine s_val (v_strAdd rfl rfl (by simp only [List.length_cons, List.length_nil]; omega)) ?_
    refine s_val (v_assign (v := S _) rfl) ?_
    refine s_nil ?_
    refine r_list (by kernel_rfl) ?_
    refine s_val (v_move (v := .int .i64 _) rfl) ?_
    refine s_val (v_quo (c := ((u / 128 : Nat) : Int)) rfl rfl (by decide) (by rw [show ((u : Nat) : Int).tdiv 128 = ((u / 128 : Nat) : Int) from tdiv_nat u 128]; exact wr_in (by omega) (by omega))) ?_
    refine s_val (v_assign (v := .int .i64 _) rfl) ?_
    refine s_end ?_
    refine n_bnormal ?_
    refine n_round (s := (u, s)) (u / 128, s ++ [128 + u % 128]) ⟨_, ⟨by rw [hdg, digs_hi (by omega)]; simp, by omega, by rw [digs_hi (by omega)] at hsl; simp only [List.length_append, List.length_cons, List.length_nil] at hsl ⊢; omega⟩, live2 rfl rfl⟩ (fun _ hw => hw.tail) (by simp only; omega)
  have hneg := of_decide_eq_true h8
  refine r_list (by kernel_rfl) ?_
  refine s_val (v_move (v := .int .i64 _) rfl) ?_
  refine s_val (v_mul rfl rfl (by omega)) ?_
  refine s_val (v_sub rfl rfl (by omega)) ?_
  refine s_val (v_assign (v := .int .i64 _) rfl) ?_
  refine s_end ?_
  rw [zig_neg hneg]
  refine n_then ?_
  refine c_seq ?_
  refine r_seq (by kernel_rfl) ?_
  refine s_val (v_move (v := .int .i64 _) rfl) ?_
  refine s_val (v_lss (k := .i64) rfl rfl) ?_
  refine s_nil ?_
  refine c_cond rfl rfl (fun h13 => ?_) (fun h13 => ?_)
  · have hlo := of_decide_eq_true h13
    refine r_seq (by kernel_rfl) ?_
    refine s_val (v_move (v := .int .i64 _) rfl) ?_
    refine s_val (v_toU8 (by kernel_rfl) rfl ⟨by omega, by omega⟩) ?_
    refine s_build1 (v := .int .u8 _) (e := 5) (m := 1) (by_ := 1) (by kernel_rfl) rfl rfl rfl (fill_scalar rfl) (fun b16 => ?_)
    refine s_val (v_strOf (l := [zig n]) (by kernel_rfl) (by kernel_rfl) rfl rfl .here (byt_one (by omega)) (cells_one _)) ?_
    refine s_val (v_assign (v := S _) rfl) ?_
    refine s_nil ?_
    refine c_ret ?_
    refine n_ret ?_
    exact n_done rfl (by decide) (congrArg S (digs_lo (by omega)).symm)
  have hhi := of_decide_eq_false h13
  refine c_skip ?_
  refine n_then ?_
  refine r_seq (by kernel_rfl) ?_
  refine s_val (v_assign (v := S []) rfl) ?_
  refine s_nil ?_
  refine c_seq ?_
  refine c_block ?_
  refine c_loop (σ := Nat × List Nat) (fun ((u, s) : Nat × List Nat) f => ∃ g, (digs (zig n) = s ++ digs u ∧ u < 128 ^ 5 ∧ s.length + (digs u).length ≤ 5) ∧ f = (upd (upd g 3 (I (u : Int))) 4 (S s))) (fun ((u, s) : Nat × List Nat) => Has w (At w) []) (fun ((u, s) : Nat × List Nat) => u) (zig n, []) ⟨_, ⟨rfl, hz5, by simpa using digs_len5 hn⟩, live2 rfl rfl⟩ (fun w hw => hw) ?_
  rintro ⟨u, s⟩ _ ⟨g, ⟨hdg, hu5, hsl⟩, rfl⟩
  refine c_seq ?_
  refine r_seq (by kernel_rfl) ?_
  refine s_val (v_move (v := .int .i64 _) rfl) ?_
  refine s_val (v_geq (k := .i64) rfl rfl) ?_
  refine s_nil ?_
  refine c_condR rfl rfl (fun h19 => ?_) (fun h19 => ?_)
  · have hu := of_decide_eq_false h19
    refine c_exit ?_
    refine n_exit ?_
    refine n_exit ?_
    refine n_bhere ?_
    refine n_then ?_
    refine r_seq (by kernel_rfl) ?_
    refine s_val (v_move (v := S _) rfl) ?_
    refine s_val (v_move (v := .int .i64 _) rfl) ?_
    refine s_val (v_toU8 (by kernel_rfl) rfl ⟨by omega, by omega⟩) ?_
    refine s_build1 (v := .int .u8 _) (e := 5) (m := 1) (by_ := 1) (by kernel_rfl) rfl rfl rfl (fill_scalar rfl) (fun b33 => ?_)
    refine s_val (v_strOf (l := [u]) (by kernel_rfl) (by kernel_rfl) rfl rfl .here (byt_one (by omega)) (cells_one _)) ?_
    refine s_val (v_strAdd rfl rfl (by simp only [List.length_cons, List.length_nil]; omega)) ?_
    refine s_val (v_assign (v := S _) rfl) ?_
    refine s_nil ?_
    refine c_ret ?_
    exact n_done rfl (by decide) (congrArg S (by rw [hdg, digs_lo (by omega)]))
  have hu := of_decide_eq_true h19
  refine c_skip ?_
  refine n_then ?_
  refine c_block ?_
  refine r_seq (by kernel_rfl) ?_
  refine s_val (v_move (v := S _) rfl) ?_
  refine s_val (v_move (v := .int .i64 _) rfl) ?_
  refine s_val (v_rem (c := ((u % 128 : Nat) : Int)) rfl rfl (by decide) (tmod_nat _ 128)) ?_
  refine s_val (v_add rfl rfl (by omega)) ?_
  refine s_val (v_toU8 (by kernel_rfl) rfl ⟨by omega, by omega⟩) ?_
  refine s_build1 (v := .int .u8 _) (e := 5) (m := 1) (by_ := 1) (by kernel_rfl) rfl rfl rfl (fill_scalar rfl) (fun b25 => ?_)
  refine s_val (v_strOf (l := [128 + u % 128]) (by kernel_rfl) (by kernel_rfl) rfl rfl .here (byt_one (by omega)) (cells_one _)) ?_
  refine s_val (v_strAdd rfl rfl (by simp only [List.length_cons, List.length_nil]; omega)) ?_
  refine s_val (v_assign (v := S _) rfl) ?_
  refine s_nil ?_
  refine r_list (by kernel_rfl) ?_
  refine s_val (v_move (v := .int .i64 _) rfl) ?_
  refine s_val (v_quo (c := ((u / 128 : Nat) : Int)) rfl rfl (by decide) (by rw [show ((u : Nat) : Int).tdiv 128 = ((u / 128 : Nat) : Int) from tdiv_nat u 128]; exact wr_in (by omega) (by omega))) ?_
  refine s_val (v_assign (v := .int .i64 _) rfl) ?_
  refine s_end ?_
  refine n_bnormal ?_
  refine n_round (s := (u, s)) (u / 128, s ++ [128 + u % 128]) ⟨_, ⟨by rw [hdg, digs_hi (by omega)]; simp, by omega, by rw [digs_hi (by omega)] at hsl; simp only [List.length_append, List.length_cons, List.length_nil] at hsl ⊢; omega⟩, live2 rfl rfl⟩ (fun _ hw => hw.tail) (by simp only; omega)

end Go.Proofs.Ytmkboljfbmlebaa
