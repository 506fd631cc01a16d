/- What bookBack_holds stands on, part 11: each part says what it proves. No condition beside those that it names. -/
import Derived.Test.YtbajdhahmmfhcaaPL1110
/- Contracts of the developers' list, Good, fold, unfold, checksum, and of strings.HasPrefix. Conditions: bytes that lie in memory that is known; texts whose parts are bytes. -/
namespace Go.Proofs.Ytbajdhahmmfhcaa
open Go.RowKit
set_option linter.unusedSimpArgs false
set_option linter.unusedVariables false
set_option maxRecDepth 100000
attribute [local irreducible] cC sC nC rC qw

theorem g_list (a : ActS) (w : World) : Gives Try.prog 76 [.agg a.cells] w (.agg a.cells) := by
  refine gives_of Try.func76 rfl Try.ntmps76 (by simp) ?_
  refine r_seq (by kernel_rfl) ?_
  refine s_box (v := .agg _) rfl (fun b1 => ?_)
  refine s_alloc (z := .agg zeroA.cells) (by kernel_rfl) (fun b2 => ?_)
  refine s_nil ?_
  refine r_seq (by kernel_rfl) ?_
  refine s_val (v_field (fo := 0) (by kernel_rfl) rfl) ?_
  refine s_val (v_load1 (v := .int .i64 _) (by kernel_rfl) rfl (.there .here) rfl) ?_
  refine s_val (v_field (fo := 1) (by kernel_rfl) rfl) ?_
  refine s_val (v_load1 (v := .int .i64 _) (by kernel_rfl) rfl (.there .here) rfl) ?_
  refine s_val (v_field (fo := 2) (by kernel_rfl) rfl) ?_
  refine s_val (v_load1 (v := .int .i64 _) (by kernel_rfl) rfl (.there .here) rfl) ?_
  refine s_val (v_field (fo := 3) (by kernel_rfl) rfl) ?_
  refine s_val (v_load1 (v := .int .i64 _) (by kernel_rfl) rfl (.there .here) rfl) ?_
  refine s_val (v_field (fo := 4) (by kernel_rfl) rfl) ?_
  refine s_val (v_load1 (v := .int .i64 _) (by kernel_rfl) rfl (.there .here) rfl) ?_
  refine s_val (v_build (vs := [(0, .int .i64 _), (1, .int .i64 _), (2, .int .i64 _), (3, .int .i64 _), (4, .int .i64 _)]) (cs := a.cells) rfl (by kernel_rfl)) ?_
  refine s_storeA (m := 5) (by kernel_rfl) rfl rfl .here rfl rfl (ActS.all1 _) ?_
  refine s_nil ?_
  refine c_ret ?_
  refine n_doneC (m := 5) rfl (by decide) rfl (by kernel_rfl) .here rfl (congrArg Value.agg ?_)
  rfl

theorem g_Good4 (a : ActS) (w : World) : Gives Try.prog 53 [.agg a.cells] w (.bool (noted a)) := by
  refine gives_of Try.func53 rfl Try.ntmps53 (by simp) ?_
  refine r_seq (by kernel_rfl) ?_
  refine s_box (v := .agg _) rfl (fun b1 => ?_)
  refine s_val (v_assign (v := .bool _) rfl) ?_
  refine s_nil ?_
  refine c_seq ?_
  refine r_seq (by kernel_rfl) ?_
  refine s_val (v_loadA (m := 5) (by kernel_rfl) rfl .here rfl) ?_
  refine s_call (by kernel_rfl) (fun w hw => g_list _ w) ?_
  refine s_val (v_move (v := .int .i64 _) rfl) ?_
  refine s_nil ?_
  refine c_block ?_
  refine c_rounds 6 ?_
  refine r_succ ?_
  refine r_seq (by kernel_rfl) ?_
  refine s_val (v_lss (k := .i64) rfl rfl) ?_
  refine s_nil ?_
  refine c_seq ?_
  refine c_condTh rfl rfl rfl ?_
  refine c_skip ?_
  refine n_then ?_
  refine c_seq ?_
  refine c_block ?_
  refine r_seq (by kernel_rfl) ?_
  refine s_val (v_indexS (len := 5) (t := 3) (m := 1) (k := .i64) (v := I a.kind) (by kernel_rfl) (by kernel_rfl) rfl rfl (by decide) rfl) ?_
  refine s_val (v_assign (v := .int .i64 _) rfl) ?_
  refine s_nil ?_
  refine r_seq (by kernel_rfl) ?_
  refine s_val (v_move (v := .int .i64 _) rfl) ?_
  refine s_val (v_lss (k := .i64) rfl rfl) ?_
  refine s_val (v_move (v := .bool _) rfl) ?_
  refine s_split (s := 12) rfl (fun h12 => ?_) (fun h12 => ?_)
  · refine s_pass rfl rfl h12 ?_
    refine s_pass rfl rfl h12 ?_
    refine s_val (v_pickT (v := .bool _) rfl h12 rfl) ?_
    refine s_nil ?_
    refine c_condTh rfl rfl rfl ?_
    refine r_seq (by kernel_rfl) ?_
    refine s_val (v_assign (v := .bool _) rfl) ?_
    refine s_nil ?_
    refine c_ret ?_
    refine n_bret ?_
    refine n_ret ?_
    refine n_ret ?_
    refine n_bret ?_
    refine n_ret ?_
    refine n_done rfl (by decide) (Eq.trans (b := .bool _) rfl (congrArg Value.bool ?_))
    symm
    rw [Bool.eq_false_iff]
    intro hno
    obtain ⟨q1, q2, q3, q4, q5⟩ := noted_all hno
    rw [notedI_iff] at q1 q2 q3 q4 q5
    simp only [decide_eq_true_eq, decide_eq_false_iff_not] at *
    omega
  refine s_want rfl rfl h12 ?_
  refine s_val (v_move (v := .int .i64 _) rfl) ?_
  refine s_want rfl rfl h12 ?_
  refine s_val (v_gtr (k := .i64) rfl rfl) ?_
  refine s_val (v_pickF (v := .bool _) rfl h12 rfl) ?_
  refine s_nil ?_
  refine c_cond rfl rfl (fun h15 => ?_) (fun h15 => ?_)
  · refine r_seq (by kernel_rfl) ?_
    refine s_val (v_assign (v := .bool _) rfl) ?_
    refine s_nil ?_
    refine c_ret ?_
    refine n_bret ?_
    refine n_ret ?_
    refine n_ret ?_
    refine n_bret ?_
    refine n_ret ?_
    refine n_done rfl (by decide) (Eq.trans (b := .bool _) rfl (congrArg Value.bool ?_))
    symm
    rw [Bool.eq_false_iff]
    intro hno
    obtain ⟨q1, q2, q3, q4, q5⟩ := noted_all hno
    rw [notedI_iff] at q1 q2 q3 q4 q5
    simp only [decide_eq_true_eq, decide_eq_false_iff_not] at *
    omega
  refine c_skip ?_
  refine n_bnormal ?_
  refine n_then ?_
  refine r_list (by kernel_rfl) ?_
  refine s_val (v_addL (c := 1) rfl rfl (by decide) (by decide)) ?_
  refine s_val (v_move (v := .int .i64 _) rfl) ?_
  refine s_end ?_
  refine n_thenR ?_
  refine r_succ ?_
  refine r_seq (by kernel_rfl) ?_
  refine s_val (v_lss (k := .i64) rfl rfl) ?_
  refine s_nil ?_
  refine c_seq ?_
  refine c_condTh rfl rfl rfl ?_
  refine c_skip ?_
  refine n_then ?_
  refine c_seq ?_
  refine c_block ?_
  refine r_seq (by kernel_rfl) ?_
  refine s_val (v_indexS (len := 5) (t := 3) (m := 1) (k := .i64) (v := I a.a) (by kernel_rfl) (by kernel_rfl) rfl rfl (by decide) rfl) ?_
  refine s_val (v_assign (v := .int .i64 _) rfl) ?_
  refine s_nil ?_
  refine r_seq (by kernel_rfl) ?_
  refine s_val (v_move (v := .int .i64 _) rfl) ?_
  refine s_val (v_lss (k := .i64) rfl rfl) ?_
  refine s_val (v_move (v := .bool _) rfl) ?_
  refine s_split (s := 12) rfl (fun h12 => ?_) (fun h12 => ?_)
  · refine s_pass rfl rfl h12 ?_
    refine s_pass rfl rfl h12 ?_
    refine s_val (v_pickT (v := .bool _) rfl h12 rfl) ?_
    refine s_nil ?_
    refine c_condTh rfl rfl rfl ?_
    refine r_seq (by kernel_rfl) ?_
    refine s_val (v_assign (v := .bool _) rfl) ?_
    refine s_nil ?_
    refine c_ret ?_
    refine n_bret ?_
    refine n_ret ?_
    refine n_ret ?_
    refine n_bret ?_
    refine n_ret ?_
    refine n_done rfl (by decide) (Eq.trans (b := .bool _) rfl (congrArg Value.bool ?_))
    symm
    rw [Bool.eq_false_iff]
    intro hno
    obtain ⟨q1, q2, q3, q4, q5⟩ := noted_all hno
    rw [notedI_iff] at q1 q2 q3 q4 q5
    simp only [decide_eq_true_eq, decide_eq_false_iff_not] at *
    omega
  refine s_want rfl rfl h12 ?_
  refine s_val (v_move (v := .int .i64 _) rfl) ?_
  refine s_want rfl rfl h12 ?_
  refine s_val (v_gtr (k := .i64) rfl rfl) ?_
  refine s_val (v_pickF (v := .bool _) rfl h12 rfl) ?_
  refine s_nil ?_
  refine c_cond rfl rfl (fun h15 => ?_) (fun h15 => ?_)
  · refine r_seq (by kernel_rfl) ?_
    refine s_val (v_assign (v := .bool _) rfl) ?_
    refine s_nil ?_
    refine c_ret ?_
    refine n_bret ?_
    refine n_ret ?_
    refine n_ret ?_
    refine n_bret ?_
    refine n_ret ?_
    refine n_done rfl (by decide) (Eq.trans (b := .bool _) rfl (congrArg Value.bool ?_))
    symm
    rw [Bool.eq_false_iff]
    intro hno
    obtain ⟨q1, q2, q3, q4, q5⟩ := noted_all hno
    rw [notedI_iff] at q1 q2 q3 q4 q5
    simp only [decide_eq_true_eq, decide_eq_false_iff_not] at *
    omega
  refine c_skip ?_
  refine n_bnormal ?_
  refine n_then ?_
  refine r_list (by kernel_rfl) ?_
  refine s_val (v_addL (c := 2) rfl rfl (by decide) (by decide)) ?_
  refine s_val (v_move (v := .int .i64 _) rfl) ?_
  refine s_end ?_
  refine n_thenR ?_
  refine r_succ ?_
  refine r_seq (by kernel_rfl) ?_
  refine s_val (v_lss (k := .i64) rfl rfl) ?_
  refine s_nil ?_
  refine c_seq ?_
  refine c_condTh rfl rfl rfl ?_
  refine c_skip ?_
  refine n_then ?_
  refine c_seq ?_
  refine c_block ?_
  refine r_seq (by kernel_rfl) ?_
  refine s_val (v_indexS (len := 5) (t := 3) (m := 1) (k := .i64) (v := I a.b) (by kernel_rfl) (by kernel_rfl) rfl rfl (by decide) rfl) ?_
  refine s_val (v_assign (v := .int .i64 _) rfl) ?_
  refine s_nil ?_
  refine r_seq (by kernel_rfl) ?_
  refine s_val (v_move (v := .int .i64 _) rfl) ?_
  refine s_val (v_lss (k := .i64) rfl rfl) ?_
  refine s_val (v_move (v := .bool _) rfl) ?_
  refine s_split (s := 12) rfl (fun h12 => ?_) (fun h12 => ?_)
  · refine s_pass rfl rfl h12 ?_
    refine s_pass rfl rfl h12 ?_
    refine s_val (v_pickT (v := .bool _) rfl h12 rfl) ?_
    refine s_nil ?_
    refine c_condTh rfl rfl rfl ?_
    refine r_seq (by kernel_rfl) ?_
    refine s_val (v_assign (v := .bool _) rfl) ?_
    refine s_nil ?_
    refine c_ret ?_
    refine n_bret ?_
    refine n_ret ?_
    refine n_ret ?_
    refine n_bret ?_
    refine n_ret ?_
    refine n_done rfl (by decide) (Eq.trans (b := .bool _) rfl (congrArg Value.bool ?_))
    symm
    rw [Bool.eq_false_iff]
    intro hno
    obtain ⟨q1, q2, q3, q4, q5⟩ := noted_all hno
    rw [notedI_iff] at q1 q2 q3 q4 q5
    simp only [decide_eq_true_eq, decide_eq_false_iff_not] at *
    omega
  refine s_want rfl rfl h12 ?_
  refine s_val (v_move (v := .int .i64 _) rfl) ?_
  refine s_want rfl rfl h12 ?_
  refine s_val (v_gtr (k := .i64) rfl rfl) ?_
  refine s_val (v_pickF (v := .bool _) rfl h12 rfl) ?_
  refine s_nil ?_
  refine c_cond rfl rfl (fun h15 => ?_) (fun h15 => ?_)
  · refine r_seq (by kernel_rfl) ?_
    refine s_val (v_assign (v := .bool _) rfl) ?_
    refine s_nil ?_
    refine c_ret ?_
    refine n_bret ?_
    refine n_ret ?_
    refine n_ret ?_
    refine n_bret ?_
    refine n_ret ?_
    refine n_done rfl (by decide) (Eq.trans (b := .bool _) rfl (congrArg Value.bool ?_))
    symm
    rw [Bool.eq_false_iff]
    intro hno
    obtain ⟨q1, q2, q3, q4, q5⟩ := noted_all hno
    rw [notedI_iff] at q1 q2 q3 q4 q5
    simp only [decide_eq_true_eq, decide_eq_false_iff_not] at *
    omega
  refine c_skip ?_
  refine n_bnormal ?_
  refine n_then ?_
  refine r_list (by kernel_rfl) ?_
  refine s_val (v_addL (c := 3) rfl rfl (by decide) (by decide)) ?_
  refine s_val (v_move (v := .int .i64 _) rfl) ?_
  refine s_end ?_
  refine n_thenR ?_
  refine r_succ ?_
  refine r_seq (by kernel_rfl) ?_
  refine s_val (v_lss (k := .i64) rfl rfl) ?_
  refine s_nil ?_
  refine c_seq ?_
  refine c_condTh rfl rfl rfl ?_
  refine c_skip ?_
  refine n_then ?_
  refine c_seq ?_
  refine c_block ?_
  refine r_seq (by kernel_rfl) ?_
  refine s_val (v_indexS (len := 5) (t := 3) (m := 1) (k := .i64) (v := I a.c) (by kernel_rfl) (by kernel_rfl) rfl rfl (by decide) rfl) ?_
  refine s_val (v_assign (v := .int .i64 _) rfl) ?_
  refine s_nil ?_
  refine r_seq (by kernel_rfl) ?_
  refine s_val (v_move (v := .int .i64 _) rfl) ?_
  refine s_val (v_lss (k := .i64) rfl rfl) ?_
  refine s_val (v_move (v := .bool _) rfl) ?_
  refine s_split (s := 12) rfl (fun h12 => ?_) (fun h12 => ?_)
  · refine s_pass rfl rfl h12 ?_
    refine s_pass rfl rfl h12 ?_
    refine s_val (v_pickT (v := .bool _) rfl h12 rfl) ?_
    refine s_nil ?_
    refine c_condTh rfl rfl rfl ?_
    refine r_seq (by kernel_rfl) ?_
    refine s_val (v_assign (v := .bool _) rfl) ?_
    refine s_nil ?_
    refine c_ret ?_
    refine n_bret ?_
    refine n_ret ?_
    refine n_ret ?_
    refine n_bret ?_
    refine n_ret ?_
    refine n_done rfl (by decide) (Eq.trans (b := .bool _) rfl (congrArg Value.bool ?_))
    symm
    rw [Bool.eq_false_iff]
    intro hno
    obtain ⟨q1, q2, q3, q4, q5⟩ := noted_all hno
    rw [notedI_iff] at q1 q2 q3 q4 q5
    simp only [decide_eq_true_eq, decide_eq_false_iff_not] at *
    omega
  refine s_want rfl rfl h12 ?_
  refine s_val (v_move (v := .int .i64 _) rfl) ?_
  refine s_want rfl rfl h12 ?_
  refine s_val (v_gtr (k := .i64) rfl rfl) ?_
  refine s_val (v_pickF (v := .bool _) rfl h12 rfl) ?_
  refine s_nil ?_
  refine c_cond rfl rfl (fun h15 => ?_) (fun h15 => ?_)
  · refine r_seq (by kernel_rfl) ?_
    refine s_val (v_assign (v := .bool _) rfl) ?_
    refine s_nil ?_
    refine c_ret ?_
    refine n_bret ?_
    refine n_ret ?_
    refine n_ret ?_
    refine n_bret ?_
    refine n_ret ?_
    refine n_done rfl (by decide) (Eq.trans (b := .bool _) rfl (congrArg Value.bool ?_))
    symm
    rw [Bool.eq_false_iff]
    intro hno
    obtain ⟨q1, q2, q3, q4, q5⟩ := noted_all hno
    rw [notedI_iff] at q1 q2 q3 q4 q5
    simp only [decide_eq_true_eq, decide_eq_false_iff_not] at *
    omega
  refine c_skip ?_
  refine n_bnormal ?_
  refine n_then ?_
  refine r_list (by kernel_rfl) ?_
  refine s_val (v_addL (c := 4) rfl rfl (by decide) (by decide)) ?_
  refine s_val (v_move (v := .int .i64 _) rfl) ?_
  refine s_end ?_
  refine n_thenR ?_
  refine r_succ ?_
  refine r_seq (by kernel_rfl) ?_
  refine s_val (v_lss (k := .i64) rfl rfl) ?_
  refine s_nil ?_
  refine c_seq ?_
  refine c_condTh rfl rfl rfl ?_
  refine c_skip ?_
  refine n_then ?_
  refine c_seq ?_
  refine c_block ?_
  refine r_seq (by kernel_rfl) ?_
  refine s_val (v_indexS (len := 5) (t := 3) (m := 1) (k := .i64) (v := I a.n) (by kernel_rfl) (by kernel_rfl) rfl rfl (by decide) rfl) ?_
  refine s_val (v_assign (v := .int .i64 _) rfl) ?_
  refine s_nil ?_
  refine r_seq (by kernel_rfl) ?_
  refine s_val (v_move (v := .int .i64 _) rfl) ?_
  refine s_val (v_lss (k := .i64) rfl rfl) ?_
  refine s_val (v_move (v := .bool _) rfl) ?_
  refine s_split (s := 12) rfl (fun h12 => ?_) (fun h12 => ?_)
  · refine s_pass rfl rfl h12 ?_
    refine s_pass rfl rfl h12 ?_
    refine s_val (v_pickT (v := .bool _) rfl h12 rfl) ?_
    refine s_nil ?_
    refine c_condTh rfl rfl rfl ?_
    refine r_seq (by kernel_rfl) ?_
    refine s_val (v_assign (v := .bool _) rfl) ?_
    refine s_nil ?_
    refine c_ret ?_
    refine n_bret ?_
    refine n_ret ?_
    refine n_ret ?_
    refine n_bret ?_
    refine n_ret ?_
    refine n_done rfl (by decide) (Eq.trans (b := .bool _) rfl (congrArg Value.bool ?_))
    symm
    rw [Bool.eq_false_iff]
    intro hno
    obtain ⟨q1, q2, q3, q4, q5⟩ := noted_all hno
    rw [notedI_iff] at q1 q2 q3 q4 q5
    simp only [decide_eq_true_eq, decide_eq_false_iff_not] at *
    omega
  refine s_want rfl rfl h12 ?_
  refine s_val (v_move (v := .int .i64 _) rfl) ?_
  refine s_want rfl rfl h12 ?_
  refine s_val (v_gtr (k := .i64) rfl rfl) ?_
  refine s_val (v_pickF (v := .bool _) rfl h12 rfl) ?_
  refine s_nil ?_
  refine c_cond rfl rfl (fun h15 => ?_) (fun h15 => ?_)
  · refine r_seq (by kernel_rfl) ?_
    refine s_val (v_assign (v := .bool _) rfl) ?_
    refine s_nil ?_
    refine c_ret ?_
    refine n_bret ?_
    refine n_ret ?_
    refine n_ret ?_
    refine n_bret ?_
    refine n_ret ?_
    refine n_done rfl (by decide) (Eq.trans (b := .bool _) rfl (congrArg Value.bool ?_))
    symm
    rw [Bool.eq_false_iff]
    intro hno
    obtain ⟨q1, q2, q3, q4, q5⟩ := noted_all hno
    rw [notedI_iff] at q1 q2 q3 q4 q5
    simp only [decide_eq_true_eq, decide_eq_false_iff_not] at *
    omega
  refine c_skip ?_
  refine n_bnormal ?_
  refine n_then ?_
  refine r_list (by kernel_rfl) ?_
  refine s_val (v_addL (c := 5) rfl rfl (by decide) (by decide)) ?_
  refine s_val (v_move (v := .int .i64 _) rfl) ?_
  refine s_end ?_
  refine n_thenR ?_
  refine r_succ ?_
  refine r_seq (by kernel_rfl) ?_
  refine s_val (v_lss (k := .i64) rfl rfl) ?_
  refine s_nil ?_
  refine c_seq ?_
  refine c_condFh rfl rfl rfl ?_
  refine c_exit ?_
  refine n_exit ?_
  refine n_exit ?_
  refine n_bhere ?_
  refine n_then ?_
  refine r_seq (by kernel_rfl) ?_
  refine s_val (v_assign (v := .bool _) rfl) ?_
  refine s_nil ?_
  refine c_ret ?_
  refine n_done rfl (by decide) (Eq.trans (b := .bool _) rfl (congrArg Value.bool ?_))
  symm
  simp only [noted, notedI, Bool.and_eq_true, decide_eq_true_eq]
  simp only [decide_eq_true_eq, decide_eq_false_iff_not] at *
  omega

theorem g_fold (n : Int) (w : World) (hn : notedI n = true) : Gives Try.prog 87 [I n] w (I ((zig n : Nat) : Int)) := by
  have hn2 := notedI_iff.1 hn
  refine gives_of Try.func87 rfl Try.ntmps87 (by simp) ?_
  refine r_seq (by kernel_rfl) ?_
  refine s_val (v_assign (v := .int .i64 _) rfl) ?_
  refine s_nil ?_
  refine c_seq ?_
  refine r_seq (by kernel_rfl) ?_
  refine s_val (v_move (v := .int .i64 _) rfl) ?_
  refine s_val (v_lss (k := .i64) rfl rfl) ?_
  refine s_nil ?_
  refine c_cond rfl rfl (fun h4 => ?_) (fun h4 => ?_)
  · refine r_seq (by kernel_rfl) ?_
    refine s_val (v_move (v := .int .i64 _) rfl) ?_
    refine s_val (v_mul rfl rfl (by omega)) ?_
    refine s_val (v_sub rfl rfl (by omega)) ?_
    refine s_val (v_assign (v := .int .i64 _) rfl) ?_
    refine s_nil ?_
    refine c_ret ?_
    refine n_ret ?_
    refine n_done rfl (by decide) (Eq.trans (b := .int .i64 _) rfl (congrArg (Value.int .i64) ?_))
    exact zig_neg (of_decide_eq_true h4)
  refine c_skip ?_
  refine n_then ?_
  refine r_seq (by kernel_rfl) ?_
  refine s_val (v_move (v := .int .i64 _) rfl) ?_
  refine s_val (v_mul rfl rfl (by omega)) ?_
  refine s_val (v_assign (v := .int .i64 _) rfl) ?_
  refine s_nil ?_
  refine c_ret ?_
  refine n_done rfl (by decide) (Eq.trans (b := .int .i64 _) rfl (congrArg (Value.int .i64) ?_))
  exact zig_pos (of_decide_eq_false h4)

theorem g_unfold (u : Nat) (w : World) (hu : u ≤ 1125899906842624) : Gives Try.prog 108 [I (u : Nat)] w (I (zag u)) := by
  refine gives_of Try.func108 rfl Try.ntmps108 (by simp) ?_
  refine r_seq (by kernel_rfl) ?_
  refine s_val (v_assign (v := .int .i64 _) rfl) ?_
  refine s_nil ?_
  refine c_seq ?_
  refine r_seq (by kernel_rfl) ?_
  refine s_val (v_move (v := .int .i64 _) rfl) ?_
  refine s_val (v_rem (c := ((u % 2 : Nat) : Int)) rfl rfl (by decide) (tmod_nat _ 2)) ?_
  refine s_val (v_neq (k := .i64) rfl rfl) ?_
  refine s_nil ?_
  refine c_condNR rfl rfl (fun h5 => ?_) (fun h5 => ?_)
  · refine c_skip ?_
    refine n_then ?_
    refine r_seq (by kernel_rfl) ?_
    refine s_val (v_move (v := .int .i64 _) rfl) ?_
    refine s_val (v_quo (c := ((u / 2 : Nat) : Int)) rfl rfl (by decide) (by rw [show ((u : Nat) : Int).tdiv 2 = ((u / 2 : Nat) : Int) from tdiv_nat u 2]; exact wr_in (by omega) (by omega))) ?_
    refine s_val (v_assign (v := .int .i64 _) rfl) ?_
    refine s_nil ?_
    refine c_ret ?_
    refine n_done rfl (by decide) (Eq.trans (b := .int .i64 _) rfl (congrArg (Value.int .i64) ?_))
    exact zag_even5 (of_decide_eq_true h5)
  refine r_seq (by kernel_rfl) ?_
  refine s_val (v_move (v := .int .i64 _) rfl) ?_
  refine s_val (v_add rfl rfl (by omega)) ?_
  refine s_val (v_neg rfl (by omega)) ?_
  refine s_val (v_quo (c := zag u) rfl rfl (by decide) (by rw [zag_odd5 (of_decide_eq_false h5)]; have := zag_bound u; exact wr_in (by omega) (by omega))) ?_
  refine s_val (v_assign (v := .int .i64 _) rfl) ?_
  refine s_nil ?_
  refine c_ret ?_
  refine n_ret ?_
  refine n_done rfl (by decide) (Eq.trans (b := .int .i64 _) rfl (congrArg (Value.int .i64) ?_))
  rfl

theorem g_checksum (a0 : Option Addr) (c0 : Nat) (l : List Nat) (w : World) (hx : BytesAt (At w) a0 l) (hb : Byt l) (hl : l.length ≤ 1000) : Gives Try.prog 78 [.slice a0 l.length c0] w (.tuple #[U8 (((sumOf l).1 % 251 : Nat) : Int), U8 (((sumOf l).2 % 251 : Nat) : Int)]) := by
  refine gives_of Try.func78 rfl Try.ntmps78 (by simp) ?_
  refine r_seq (by kernel_rfl) ?_
  refine s_val (v_assign (v := .int .u8 _) rfl) ?_
  refine s_val (v_assign (v := .int .u8 _) rfl) ?_
  refine s_nil ?_
  refine r_seq (by kernel_rfl) ?_
  refine s_val (v_assign (v := .int .i64 _) rfl) ?_
  refine s_val (v_assign (v := .int .i64 _) rfl) ?_
  refine s_nil ?_
  refine c_seq ?_
  refine r_seq (by kernel_rfl) ?_
  refine s_val (v_move (v := .slice _ _ _) rfl) ?_
  refine s_val (v_lenS (T := 84) (m := 1) (by kernel_rfl) rfl rfl) ?_
  refine s_val (v_move (v := .int .i64 _) rfl) ?_
  refine s_nil ?_
  refine c_block ?_
  refine c_loop (σ := Nat) (fun (k : Nat) f => ∃ g, (k ≤ l.length) ∧ f = (upd (upd (upd (upd (upd g 4 (I (sumOf (l.take k)).1)) 5 (I (sumOf (l.take k)).2)) 8 (.slice a0 l.length c0)) 9 (I l.length)) 10 (I k))) (fun (k : Nat) => Has w (At w) []) (fun (k : Nat) => l.length - k) 0 ⟨_, Nat.zero_le _, live5 rfl rfl rfl rfl rfl⟩ (fun w hw => hw) ?_
  rintro k _ ⟨g, hkl0, rfl⟩
  refine r_seq (by kernel_rfl) ?_
  refine s_val (v_lss (k := .i64) rfl rfl) ?_
  refine s_nil ?_
  refine c_seq ?_
  refine c_condR rfl rfl (fun h11 => ?_) (fun h11 => ?_)
  · have hkl : k = l.length := by have := of_decide_eq_false h11; omega
    subst hkl
    rw [List.take_of_length_le (Nat.le_refl _)]
    refine c_exit ?_
    refine n_exit ?_
    refine n_exit ?_
    refine n_bhere ?_
    refine n_then ?_
    refine r_seq (by kernel_rfl) ?_
    refine s_val (v_move (v := .int .i64 _) rfl) ?_
    refine s_val (v_rem (c := (((sumOf l).1 % 251 : Nat) : Int)) rfl rfl (by decide) (tmod_nat _ 251)) ?_
    refine s_val (v_toU8 (by kernel_rfl) rfl ⟨by omega, by omega⟩) ?_
    refine s_val (v_move (v := .int .i64 _) rfl) ?_
    refine s_val (v_rem (c := (((sumOf l).2 % 251 : Nat) : Int)) rfl rfl (by decide) (tmod_nat _ 251)) ?_
    refine s_val (v_toU8 (by kernel_rfl) rfl ⟨by omega, by omega⟩) ?_
    refine s_val (v_assign (v := .int .u8 _) rfl) ?_
    refine s_val (v_assign (v := .int .u8 _) rfl) ?_
    refine s_nil ?_
    refine c_ret ?_
    exact n_doneT rfl (by decide) (by decide) rfl
  have hk0 := of_decide_eq_true h11
  obtain ⟨b, o, m, ha0, hm, hcm⟩ := hx.get (j := k) (by omega)
  have hm256 := hb m (List.mem_of_getElem? hm)
  have hsb := sum_bound hb k
  have hkk : k * (1 + 255 * k) ≤ 1000 * (1 + 255 * 1000) := Nat.mul_le_mul (by omega) (by omega)
  have hss := sum_step hm
  refine c_skip ?_
  refine n_then ?_
  refine c_seq ?_
  refine c_block ?_
  refine r_seq (by kernel_rfl) ?_
  refine s_val (v_idxS (size := 1) (k := .i64) (by kernel_rfl) (congrArg (fun a => Value.slice a l.length c0) ha0) rfl ⟨by omega, by omega⟩) ?_
  refine s_val (v_load1o (v := U8 m) (by kernel_rfl) rfl (by simpa using hcm)) ?_
  refine s_val (v_assign (v := .int .u8 _) rfl) ?_
  refine s_nil ?_
  refine r_seq (by kernel_rfl) ?_
  refine s_val (v_move (v := .int .i64 _) rfl) ?_
  refine s_val (v_move (v := .int .u8 _) rfl) ?_
  refine s_val (v_ofU8 (by kernel_rfl) rfl ⟨by omega, by omega⟩) ?_
  refine s_val (v_add rfl rfl (by omega)) ?_
  refine s_val (v_assign (v := .int .i64 _) rfl) ?_
  refine s_nil ?_
  refine r_list (by kernel_rfl) ?_
  refine s_val (v_move (v := .int .i64 _) rfl) ?_
  refine s_val (v_move (v := .int .i64 _) rfl) ?_
  refine s_val (v_add rfl rfl (by omega)) ?_
  refine s_val (v_assign (v := .int .i64 _) rfl) ?_
  refine s_end ?_
  refine n_bnormal ?_
  refine n_then ?_
  refine r_list (by kernel_rfl) ?_
  refine s_val (v_add rfl rfl (by omega)) ?_
  refine s_val (v_move (v := .int .i64 _) rfl) ?_
  refine s_end ?_
  refine n_round (k + 1) ⟨_, (by omega), live5 (congrArg I (by rw [hss]; rfl)) (congrArg I (by rw [hss]; push_cast; rfl)) rfl rfl rfl⟩ (fun _ hw => hw) (by omega)

theorem g_HasPrefix0 (l f : List Nat) (w : World) (hl : Byt l) (hf : Byt f) : Gives Try.prog 102 [S l, S f] w (.bool (begins l f)) := by
  refine gives_of Try.func102 rfl Try.ntmps102 (by simp) ?_
  refine r_seq (by kernel_rfl) ?_
  refine s_val (v_assign (v := .bool _) rfl) ?_
  refine s_nil ?_
  refine r_seq (by kernel_rfl) ?_
  refine s_val (v_move (v := S _) rfl) ?_
  refine s_val (v_strLen (by kernel_rfl) rfl rfl) ?_
  refine s_val (v_move (v := S _) rfl) ?_
  refine s_val (v_strLen (by kernel_rfl) rfl rfl) ?_
  refine s_val (v_geq (k := .i64) rfl rfl) ?_
  refine s_val (v_move (v := .bool _) rfl) ?_
  refine s_splitR (s := 10) rfl (fun h10 => ?_) (fun h10 => ?_)
  · refine s_pass rfl rfl h10 ?_
    refine s_pass rfl rfl h10 ?_
    refine s_pass rfl rfl h10 ?_
    refine s_pass rfl rfl h10 ?_
    refine s_pass rfl rfl h10 ?_
    refine s_pass rfl rfl h10 ?_
    refine s_val (v_pickF (v := .bool _) rfl h10 rfl) ?_
    refine s_val (v_assign (v := .bool _) rfl) ?_
    refine s_nil ?_
    refine c_ret ?_
    refine n_done rfl (by decide) (Eq.trans (b := .bool _) rfl (congrArg Value.bool ?_))
    exact (begins_short (by have := of_decide_eq_false h10; omega)).symm
  refine s_want rfl rfl h10 ?_
  refine s_val (v_move (v := S _) rfl) ?_
  refine s_want rfl rfl h10 ?_
  refine s_val (v_move (v := S _) rfl) ?_
  refine s_want rfl rfl h10 ?_
  refine s_val (v_strLen (by kernel_rfl) rfl rfl) ?_
  refine s_want rfl rfl h10 ?_
  refine s_val (v_strHi (by kernel_rfl) rfl rfl ⟨by omega, by have := of_decide_eq_true h10; omega⟩) ?_
  refine s_want rfl rfl h10 ?_
  refine s_val (v_move (v := S _) rfl) ?_
  refine s_want rfl rfl h10 ?_
  refine s_val (v_strEq rfl rfl (hl.take _) hf) ?_
  refine s_val (v_pickT (v := .bool _) rfl h10 rfl) ?_
  refine s_val (v_assign (v := .bool _) rfl) ?_
  refine s_nil ?_
  refine c_ret ?_
  refine n_done rfl (by decide) (Eq.trans (b := .bool _) rfl (congrArg Value.bool ?_))
  rfl

theorem g_HasPrefix (l f : List Nat) (w : World) (hl : Byt l) (hf : Byt f) : Gives Try.prog 89 [S l, S f] w (.bool (begins l f)) := by
  refine gives_of Try.func89 rfl Try.ntmps89 (by simp) ?_
  refine r_seq (by kernel_rfl) ?_
  refine s_val (v_assign (v := .bool _) rfl) ?_
  refine s_nil ?_
  refine r_seq (by kernel_rfl) ?_
  refine s_val (v_move (v := S _) rfl) ?_
  refine s_val (v_move (v := S _) rfl) ?_
  refine s_call (by kernel_rfl) (fun w hw => g_HasPrefix0 l f w hl hf) ?_
  refine s_val (v_assign (v := .bool _) rfl) ?_
  refine s_nil ?_
  refine c_ret ?_
  refine n_done rfl (by decide) (Eq.trans (b := .bool _) rfl (congrArg Value.bool ?_))
  rfl

end Go.Proofs.Ytbajdhahmmfhcaa
/- Contracts of the developers' appendNumber and readNumber. Conditions: a list of bytes of the caller's own; texts of a few million bytes at most. -/
namespace Go.Proofs.Ytbajdhahmmfhcaa
open Go.RowKit
set_option linter.unusedSimpArgs false
set_option linter.unusedVariables false
set_option maxRecDepth 100000
attribute [local irreducible] cC sC nC rC qw

theorem g_appendNumber (F : Addr → Value → Prop) (E0 : List (Nat × Obj)) (v0 : Value) (l : List Nat) (n : Int) (hB : Bytes 5 v0 l E0) (hn : notedI n = true) (hl : l.length ≤ 1000) : GivesW Try.prog 77 [v0, I n] F (E0) (fun _ v B' => Bytes 5 v (l ++ digs (zig n)) B') := by
  refine givesW_of Try.func77 rfl Try.ntmps77 (by simp) (fun w K => ?_)
  have hz5 := zig_lt hn
  refine r_seq (by kernel_rfl) ?_
  refine s_val (v_assign (v := .slice _ _ _) rfl) ?_
  refine s_nil ?_
  refine r_seq (by kernel_rfl) ?_
  refine s_val (v_move (v := .int .i64 _) rfl) ?_
  refine s_call (by kernel_rfl) (fun w hw => g_fold n w hn) ?_
  refine s_val (v_assign (v := .int .i64 _) rfl) ?_
  refine s_nil ?_
  refine c_seq ?_
  refine c_block ?_
  refine c_loop (σ := AN) (fun (s : AN) f => ∃ g, (digs (zig n) = s.m ++ digs s.u ∧ s.u < 128 ^ 5 ∧ s.m.length + (digs s.u).length ≤ 5 ∧ Bytes 5 s.v (l ++ s.m) s.E) ∧ f = (upd (upd g 0 (s.v)) 5 (I (s.u : Nat)))) (fun (s : AN) => Has w F (s.E ++ K)) (fun (s : AN) => s.u) ⟨zig n, [], v0, E0⟩ ⟨_, ⟨rfl, hz5, by simpa using digs_len5 hn, by simpa using hB⟩, live2 rfl rfl⟩ (fun w hw => hw) ?_
  rintro s _ ⟨g, ⟨hs1, hs2, hs3, hs4⟩, rfl⟩
  refine c_seq ?_
  refine r_seq (by kernel_rfl) ?_
  refine s_val (v_move (v := .int .i64 _) rfl) ?_
  refine s_val (v_geq (k := .i64) rfl rfl) ?_
  refine s_nil ?_
  refine c_condR rfl rfl (fun h9 => ?_) (fun h9 => ?_)
  · have hu := of_decide_eq_false h9
    refine c_exit ?_
    refine n_exit ?_
    refine n_exit ?_
    refine n_bhere ?_
    refine n_then ?_
    refine r_seq (by kernel_rfl) ?_
    refine s_val (v_move (v := _) rfl) ?_
    refine s_val (v_move (v := .int .i64 _) rfl) ?_
    refine s_val (v_toU8 (by kernel_rfl) rfl ⟨by omega, by omega⟩) ?_
    refine s_build1 (v := .int .u8 _) (e := 5) (m := 1) (by_ := 1) (by kernel_rfl) rfl rfl rfl (fill_scalar rfl) (fun b22 => ?_)
    refine s_push (e := 5) (m := 1) (by_ := 1) (by kernel_rfl) rfl rfl rfl rfl rfl hs4 rfl (all_scalar rfl rfl) (by rw [List.length_append]; omega) (fun v23 E23 hE23 => ?_)
    have hB23 : Bytes 5 v23 (l ++ digs (zig n)) E23 := by rw [hs1, digs_lo (by omega), ← List.append_assoc]; exact Bytes.snoc hE23 rfl
    refine s_val (v_assign (v := _) rfl) ?_
    refine s_nil ?_
    refine c_ret ?_
    exact n_doneW rfl (by decide) (fun _ _ h => h) (fun w hw => hw) hB23
  have hu := of_decide_eq_true h9
  refine c_skip ?_
  refine n_then ?_
  refine c_block ?_
  refine r_seq (by kernel_rfl) ?_
  refine s_val (v_move (v := _) rfl) ?_
  refine s_val (v_move (v := .int .i64 _) rfl) ?_
  refine s_val (v_rem (c := ((s.u % 128 : Nat) : Int)) rfl rfl (by decide) (tmod_nat _ 128)) ?_
  refine s_val (v_add rfl rfl (by omega)) ?_
  refine s_val (v_toU8 (by kernel_rfl) rfl ⟨by omega, by omega⟩) ?_
  refine s_build1 (v := .int .u8 _) (e := 5) (m := 1) (by_ := 1) (by kernel_rfl) rfl rfl rfl (fill_scalar rfl) (fun b15 => ?_)
  refine s_push (e := 5) (m := 1) (by_ := 1) (by kernel_rfl) rfl rfl rfl rfl rfl hs4 rfl (all_scalar rfl rfl) (by rw [List.length_append]; omega) (fun v16 E16 hE16 => ?_)
  have hB16 : Bytes 5 v16 (l ++ (s.m ++ [128 + s.u % 128])) E16 := by rw [← List.append_assoc]; exact Bytes.snoc hE16 (by omega)
  refine s_val (v_assign (v := _) rfl) ?_
  refine s_nil ?_
  refine r_list (by kernel_rfl) ?_
  refine s_val (v_move (v := .int .i64 _) rfl) ?_
  refine s_val (v_quo (c := ((s.u / 128 : Nat) : Int)) rfl rfl (by decide) (by rw [show ((s.u : Nat) : Int).tdiv 128 = ((s.u / 128 : Nat) : Int) from tdiv_nat s.u 128]; exact wr_in (by omega) (by omega))) ?_
  refine s_val (v_assign (v := .int .i64 _) rfl) ?_
  refine s_end ?_
  refine n_bnormal ?_
  refine n_round (s := s) ⟨s.u / 128, s.m ++ [128 + s.u % 128], v16, E16⟩ ⟨_, ⟨by rw [hs1, digs_hi (by omega)]; simp, by simp only; omega, by rw [digs_hi (by omega)] at hs3; simp only [List.length_append, List.length_cons, List.length_nil] at hs3 ⊢; omega, hB16⟩, live2 rfl rfl⟩ (fun _ hw => hw) (by simp only; omega)

theorem g_readNumber (l : List Nat) (w : World) (hb : Byt l) (hl : l.length ≤ 8388608) : Gives Try.prog 101 [S l] w (numR l) := by
  refine gives_of Try.func101 rfl Try.ntmps101 (by simp) ?_
  refine r_seq (by kernel_rfl) ?_
  refine s_val (v_assign (v := .int .i64 _) rfl) ?_
  refine s_val (v_assign (v := .int .i64 _) rfl) ?_
  refine s_val (v_assign (v := .bool _) rfl) ?_
  refine s_nil ?_
  refine r_seq (by kernel_rfl) ?_
  refine s_val (v_assign (v := .int .i64 _) rfl) ?_
  refine s_nil ?_
  refine c_seq ?_
  refine r_seq (by kernel_rfl) ?_
  refine s_val (v_move (v := S _) rfl) ?_
  refine s_val (v_strLen (by kernel_rfl) rfl rfl) ?_
  refine s_val (v_least rfl rfl) ?_
  refine s_val (v_move (v := .int .i64 _) rfl) ?_
  refine s_nil ?_
  refine c_block ?_
  refine c_loop (σ := Nat × Nat) (fun (q : Nat × Nat) f => ∃ g, (Dig5 l q.1 q.2) ∧ f = (upd (upd (upd (upd g 0 (S l)) 5 (I (q.2 : Nat))) 10 (I (least l.length 5))) 11 (I (q.1 : Nat)))) (fun (q : Nat × Nat) => Has w (At w) []) (fun (q : Nat × Nat) => 5 - q.1) (0, 0) ⟨_, dig5_start _, live4 rfl rfl rfl rfl⟩ (fun w hw => hw) ?_
  rintro q _ ⟨g, hd, rfl⟩
  refine r_seq (by kernel_rfl) ?_
  refine s_val (v_lss (k := .i64) rfl rfl) ?_
  refine s_nil ?_
  refine c_seq ?_
  refine c_condR rfl rfl (fun h12 => ?_) (fun h12 => ?_)
  · refine c_exit ?_
    refine n_exit ?_
    refine n_exit ?_
    refine n_bhere ?_
    refine n_then ?_
    refine r_seq (by kernel_rfl) ?_
    refine s_val (v_assign (v := .int .i64 _) rfl) ?_
    refine s_val (v_assign (v := .int .i64 _) rfl) ?_
    refine s_val (v_assign (v := .bool _) rfl) ?_
    refine s_nil ?_
    refine c_ret ?_
    exact n_done3 rfl (by decide) (by decide) (by decide) (numR_no (hd.stop (by have := of_decide_eq_false h12; unfold least at this; split at this <;> omega)))
  have hj5 : q.1 < 5 ∧ q.1 < l.length := by have := of_decide_eq_true h12; unfold least at this; split at this <;> omega
  obtain ⟨hj5, hjl⟩ := hj5
  obtain ⟨b, hbb⟩ : ∃ b, l[q.1]? = some b := ⟨l[q.1], List.getElem?_eq_getElem hjl⟩
  have hb256 : b < 256 := hb b (List.mem_of_getElem? hbb)
  have hpw := (pow5 hj5).1
  have hfit := dig5_fits (b := b) hpw
  have hub := hd.ub
  refine c_skip ?_
  refine n_then ?_
  refine c_seq ?_
  refine c_block ?_
  refine r_seq (by kernel_rfl) ?_
  refine s_val (v_move (v := .int .i64 _) rfl) ?_
  refine s_val (v_assign (v := .int .i64 _) rfl) ?_
  refine s_nil ?_
  refine r_seq (by kernel_rfl) ?_
  refine s_val (v_move (v := S _) rfl) ?_
  refine s_val (v_move (v := .int .i64 _) rfl) ?_
  refine s_val (v_strIdx (by kernel_rfl) rfl rfl (by omega) hbb hb256) ?_
  refine s_val (v_ofU8 (by kernel_rfl) rfl ⟨by omega, by omega⟩) ?_
  refine s_val (v_assign (v := .int .i64 _) rfl) ?_
  refine s_nil ?_
  refine r_seq (by kernel_rfl) ?_
  refine s_val (v_move (v := .int .i64 _) rfl) ?_
  refine s_val (v_move (v := .int .i64 _) rfl) ?_
  refine s_val (v_rem (c := ((b % 128 : Nat) : Int)) rfl rfl (by decide) (tmod_nat _ 128)) ?_
  refine s_val (v_move (v := .int .i64 _) rfl) ?_
  refine s_val (v_mul rfl rfl (by omega)) ?_
  refine s_val (v_shl (c := ((b % 128 * 128 ^ q.1 : Nat) : Int)) rfl rfl ⟨by omega, by omega⟩ (shl5 hj5)) ?_
  refine s_val (v_add rfl rfl (by omega)) ?_
  refine s_val (v_assign (v := .int .i64 _) rfl) ?_
  refine s_nil ?_
  rw [show (q.2 : Int) + ((b % 128 * 128 ^ q.1 : Nat) : Int) = (((q.2 + b % 128 * 128 ^ q.1) : Nat) : Int) from (Int.natCast_add _ _).symm]
  refine r_seq (by kernel_rfl) ?_
  refine s_val (v_move (v := .int .i64 _) rfl) ?_
  refine s_val (v_lss (k := .i64) rfl rfl) ?_
  refine s_nil ?_
  refine c_condR rfl rfl (fun h26 => ?_) (fun h26 => ?_)
  · refine c_skip ?_
    refine n_bnormal ?_
    refine n_then ?_
    refine r_list (by kernel_rfl) ?_
    refine s_val (v_add rfl rfl (by omega)) ?_
    refine s_val (v_move (v := .int .i64 _) rfl) ?_
    refine s_end ?_
    refine n_round (s := q) (q.1 + 1, (q.2 + b % 128 * 128 ^ q.1)) ⟨_, hd.step hbb (by have := of_decide_eq_false h26; omega) hb256 hj5, live4 rfl rfl rfl rfl⟩ (fun _ hw => hw) (by dsimp only; omega)
  have hlast := hd.last hbb (by have := of_decide_eq_true h26; omega) hj5
  refine r_seq (by kernel_rfl) ?_
  refine s_val (v_move (v := .int .i64 _) rfl) ?_
  refine s_call (by kernel_rfl) (fun w hw => g_unfold (q.2 + b % 128 * 128 ^ q.1) w (by omega)) ?_
  refine s_val (v_move (v := .int .i64 _) rfl) ?_
  refine s_val (v_add rfl rfl (by omega)) ?_
  refine s_val (v_assign (v := .int .i64 _) rfl) ?_
  refine s_val (v_assign (v := .int .i64 _) rfl) ?_
  refine s_val (v_assign (v := .bool _) rfl) ?_
  refine s_nil ?_
  refine c_ret ?_
  refine n_bret ?_
  refine n_ret ?_
  refine n_ret ?_
  refine n_bret ?_
  refine n_ret ?_
  exact n_done3 rfl (by decide) (by decide) (by decide) (numR_yes hlast (by omega))

end Go.Proofs.Ytbajdhahmmfhcaa
/- Contract of the developers' guess. Condition: texts of a few million bytes at most. -/
namespace Go.Proofs.Ytbajdhahmmfhcaa
open Go.RowKit
set_option linter.unusedSimpArgs false
set_option linter.unusedVariables false
set_option maxRecDepth 100000
attribute [local irreducible] cC sC nC rC qw

set_option maxHeartbeats 1000000 in
theorem g_guess (l : List Nat) (w : World) (hb : Byt l) (hl : l.length ≤ 8388608) : Gives Try.prog 88 [S l] w (guessR l) := by
  refine gives_of Try.func88 rfl Try.ntmps88 (by simp) ?_
  refine r_seq (by kernel_rfl) ?_
  refine s_alloc (z := .agg zeroA.cells) (by kernel_rfl) (fun b2 => ?_)
  refine s_val (v_assign (v := .bool _) rfl) ?_
  refine s_nil ?_
  refine c_seq ?_
  refine r_seq (by kernel_rfl) ?_
  refine s_val (v_move (v := S _) rfl) ?_
  refine s_val (v_strEq rfl rfl hb byt_nil) ?_
  refine s_nil ?_
  refine c_cond rfl rfl (fun h11 => ?_) (fun h11 => ?_)
  · refine r_seq (by kernel_rfl) ?_
    refine s_val (v_build (vs := []) (cs := zeroA.cells) rfl (by kernel_rfl)) ?_
    refine s_storeA (m := 5) (by kernel_rfl) rfl rfl .here rfl rfl (ActS.all1 _) ?_
    refine s_val (v_assign (v := .bool _) rfl) ?_
    refine s_nil ?_
    refine c_ret ?_
    refine n_ret ?_
    exact n_doneCT (m := 5) rfl (by decide) (by decide) rfl (by kernel_rfl) .here rfl (guess_no (guess_nil (of_decide_eq_true h11)))
  have hl1 : 1 ≤ l.length := by
    rcases Nat.eq_zero_or_pos l.length with h | h
    · exact absurd (List.eq_nil_of_length_eq_zero h) (of_decide_eq_false h11)
    · exact h
  refine c_skip ?_
  refine n_then ?_
  refine r_seq (by kernel_rfl) ?_
  refine s_val (v_move (v := S _) rfl) ?_
  refine s_val (v_strLo (by kernel_rfl) rfl rfl ⟨by decide, by omega⟩) ?_
  refine s_val (v_assign (v := S _) rfl) ?_
  refine s_nil ?_
  refine r_seq (by kernel_rfl) ?_
  refine s_alloc (z := .agg (vrow [])) (by kernel_rfl) (fun b5 => ?_)
  refine s_nil ?_
  refine c_seq ?_
  refine r_seq (by kernel_rfl) ?_
  refine s_val (v_move (v := .int .i64 _) rfl) ?_
  refine s_nil ?_
  refine c_block ?_
  refine c_loop (σ := GS) (fun (s : GS) f => ∃ g, (GsOk (l.drop 1) s) ∧ f = (upd (upd (upd (upd (upd g 0 (S l)) 2 (.pointer (some ⟨b2, 0, none⟩))) 4 (S s.rest)) 5 (.pointer (some ⟨b5, 0, none⟩))) 15 (I (s.k : Nat)))) (fun (s : GS) => Has w (At w) [(b5, .cells (vrow s.us) 85), (b2, .cells zeroA.cells 54)]) (fun (s : GS) => 5 - s.k) ⟨0, [], l.drop 1⟩ ⟨_, GsOk.start hb, live5 rfl rfl rfl rfl rfl⟩ (fun w hw => hw) ?_
  rintro s _ ⟨g, hs, rfl⟩
  refine r_seq (by kernel_rfl) ?_
  refine s_val (v_lss (k := .i64) rfl rfl) ?_
  refine s_nil ?_
  refine c_seq ?_
  refine c_condR rfl rfl (fun h16 => ?_) (fun h16 => ?_)
  · have hk55 : s.k = 5 := by have := of_decide_eq_false h16; have := hs.k5; omega
    refine c_exit ?_
    refine n_exit ?_
    refine n_exit ?_
    refine n_bhere ?_
    refine n_then ?_
    refine r_seq (by kernel_rfl) ?_
    refine s_val (v_idxA (len := 5) (size := 1) (k := .i64) (by kernel_rfl) rfl rfl (by decide)) ?_
    refine s_val (v_load1 (v := I (vnum s.us 0)) (by kernel_rfl) rfl .here (vrow_at s.us 0 (by decide))) ?_
    refine s_val (v_idxA (len := 5) (size := 1) (k := .i64) (by kernel_rfl) rfl rfl (by decide)) ?_
    refine s_val (v_load1 (v := I (vnum s.us 1)) (by kernel_rfl) rfl .here (vrow_at s.us 1 (by decide))) ?_
    refine s_val (v_idxA (len := 5) (size := 1) (k := .i64) (by kernel_rfl) rfl rfl (by decide)) ?_
    refine s_val (v_load1 (v := I (vnum s.us 2)) (by kernel_rfl) rfl .here (vrow_at s.us 2 (by decide))) ?_
    refine s_val (v_idxA (len := 5) (size := 1) (k := .i64) (by kernel_rfl) rfl rfl (by decide)) ?_
    refine s_val (v_load1 (v := I (vnum s.us 3)) (by kernel_rfl) rfl .here (vrow_at s.us 3 (by decide))) ?_
    refine s_val (v_idxA (len := 5) (size := 1) (k := .i64) (by kernel_rfl) rfl rfl (by decide)) ?_
    refine s_val (v_load1 (v := I (vnum s.us 4)) (by kernel_rfl) rfl .here (vrow_at s.us 4 (by decide))) ?_
    refine s_val (v_build (vs := [(0, .int .i64 _), (1, .int .i64 _), (2, .int .i64 _), (3, .int .i64 _), (4, .int .i64 _)]) (cs := (act5 s.us).cells) rfl (by kernel_rfl)) ?_
    refine s_storeA (m := 5) (by kernel_rfl) rfl rfl (.there .here) rfl rfl (ActS.all1 _) ?_
    refine s_val (v_assign (v := .bool _) rfl) ?_
    refine s_nil ?_
    refine c_ret ?_
    exact n_doneCT (m := 5) rfl (by decide) (by decide) rfl (by kernel_rfl) (.there .here) rfl (guess_yes (by have := hs.run; rw [hk55] at this; exact this) (hs.ul.trans hk55))
  have hk5 : s.k < 5 := by have := of_decide_eq_true h16; omega
  have hlen := hs.len
  rw [List.length_drop] at hlen
  refine c_skip ?_
  refine n_then ?_
  refine c_seq ?_
  refine c_block ?_
  refine r_seq (by kernel_rfl) ?_
  refine s_val (v_move (v := .int .i64 _) rfl) ?_
  refine s_val (v_assign (v := .int .i64 _) rfl) ?_
  refine s_nil ?_
  refine r_seq (by kernel_rfl) ?_
  refine s_val (v_move (v := S _) rfl) ?_
  refine s_call (by kernel_rfl) (fun w hw => g_readNumber s.rest w hs.byt (by omega)) ?_
  refine s_val (v_move (v := .tuple _) rfl) ?_
  refine s_val (v_extract rfl rfl) ?_
  refine s_val (v_extract rfl rfl) ?_
  refine s_val (v_extract rfl rfl) ?_
  refine s_val (v_assign (v := .int .i64 _) rfl) ?_
  refine s_val (v_assign (v := .int .i64 _) rfl) ?_
  refine s_val (v_assign (v := .bool _) rfl) ?_
  refine s_nil ?_
  refine c_seq ?_
  refine r_seq (by kernel_rfl) ?_
  refine s_val (v_move (v := .bool _) rfl) ?_
  refine s_val (v_not rfl) ?_
  refine s_nil ?_
  refine c_condN rfl rfl (fun h25 => ?_) (fun h25 => ?_)
  · refine r_seq (by kernel_rfl) ?_
    refine s_val (v_build (vs := []) (cs := zeroA.cells) rfl (by kernel_rfl)) ?_
    refine s_storeA (m := 5) (by kernel_rfl) rfl rfl (.there .here) rfl rfl (ActS.all1 _) ?_
    refine s_val (v_assign (v := .bool _) rfl) ?_
    refine s_nil ?_
    refine c_ret ?_
    refine n_ret ?_
    refine n_bret ?_
    refine n_ret ?_
    refine n_ret ?_
    refine n_bret ?_
    refine n_ret ?_
    exact n_doneCT (m := 5) rfl (by decide) (by decide) rfl (by kernel_rfl) (.there .here) rfl (guess_no (hs.gone hk5 (rn_no h25)))
  obtain ⟨u, hu, hval, hkl⟩ := rn_yes h25
  refine c_skip ?_
  refine n_then ?_
  refine r_seq (by kernel_rfl) ?_
  refine s_val (v_move (v := .int .i64 _) rfl) ?_
  refine s_val (v_move (v := .int .i64 _) rfl) ?_
  refine s_val (v_idxA (len := 5) (size := 1) (k := .i64) (by kernel_rfl) rfl rfl ⟨by omega, by omega⟩) ?_
  refine s_store1 (v := .int .i64 _) (by kernel_rfl) rfl rfl .here ⟨by simp only [Array.size_setIfInBounds, vrow_size]; omega, rfl⟩ rfl ?_
  refine s_nil ?_
  refine r_list (by kernel_rfl) ?_
  refine s_val (v_move (v := S _) rfl) ?_
  refine s_val (v_move (v := .int .i64 _) rfl) ?_
  refine s_val (v_strLo (by kernel_rfl) rfl rfl ⟨by omega, by omega⟩) ?_
  refine s_val (v_assign (v := S _) rfl) ?_
  refine s_end ?_
  refine n_bnormal ?_
  refine n_then ?_
  refine r_list (by kernel_rfl) ?_
  refine s_val (v_add rfl rfl (by omega)) ?_
  refine s_val (v_move (v := .int .i64 _) rfl) ?_
  refine s_end ?_
  refine n_round (s := s) ⟨s.k + 1, s.us ++ [u], s.rest.drop (rnK s.rest)⟩ ⟨_, hs.next hk5 hu, live5 rfl rfl rfl rfl rfl⟩ (fun _ hw => by rw [← vrow_set hs.ul hk5, ← hval]; exact hw) (by dsimp only; omega)

end Go.Proofs.Ytbajdhahmmfhcaa
/- Contract of the developers' book.Frame. No condition. -/
namespace Go.Proofs.Ytbajdhahmmfhcaa
open Go.RowKit
set_option linter.unusedSimpArgs false
set_option linter.unusedVariables false
set_option maxRecDepth 100000
attribute [local irreducible] cC sC nC rC qw

set_option maxHeartbeats 1000000 in
theorem g_Frame (a : ActS) (w : World) : Gives Try.prog 49 [.agg a.cells] w (frameR a) := by
  refine gives_of Try.func49 rfl Try.ntmps49 (by simp) ?_
  refine r_seq (by kernel_rfl) ?_
  refine s_box (v := .agg _) rfl (fun b1 => ?_)
  refine s_val (v_assign (v := S []) rfl) ?_
  refine s_val (v_assign (v := .int .i64 _) rfl) ?_
  refine s_nil ?_
  refine c_seq ?_
  refine r_seq (by kernel_rfl) ?_
  refine s_val (v_loadA (m := 5) (by kernel_rfl) rfl .here rfl) ?_
  refine s_call (by kernel_rfl) (fun w hw => g_Good4 a w) ?_
  refine s_val (v_not rfl) ?_
  refine s_nil ?_
  refine c_condN rfl rfl (fun h12 => ?_) (fun h12 => ?_)
  · refine r_seq (by kernel_rfl) ?_
    refine s_val (v_assign (v := S []) rfl) ?_
    refine s_val (v_assign (v := .int .i64 _) rfl) ?_
    refine s_nil ?_
    refine c_ret ?_
    refine n_ret ?_
    exact n_doneT rfl (by decide) (by decide) (by rw [frameR_no h12]; rfl)
  have h11 : noted a = true := h12
  have hbl := body_len h11
  refine c_skip ?_
  refine n_then ?_
  refine r_seq (by kernel_rfl) ?_
  refine s_val (v_assign (v := .slice _ _ _) rfl) ?_
  refine s_nil ?_
  refine c_seq ?_
  refine r_seq (by kernel_rfl) ?_
  refine s_val (v_loadA (m := 5) (by kernel_rfl) rfl .here rfl) ?_
  refine s_call (by kernel_rfl) (fun w hw => g_list a w) ?_
  refine s_val (v_move (v := .int .i64 _) rfl) ?_
  refine s_nil ?_
  refine c_block ?_
  refine c_loop (σ := FB) (fun (s : FB) f => ∃ g, (s.k ≤ 5 ∧ Bytes 5 s.v (bodyTo a s.k) s.E) ∧ f = (upd (upd (upd (upd g 1 (.pointer (some ⟨b1, 0, none⟩))) 4 (s.v)) 14 (.agg a.cells)) 15 (I (s.k : Nat)))) (fun (s : FB) => Has w (At w) (s.E ++ [(b1, .cells a.cells 54)])) (fun (s : FB) => 5 - s.k) ⟨0, .slice none 0 0, []⟩ ⟨_, ⟨by decide, bytes_nil _⟩, live4 rfl rfl rfl rfl⟩ (fun w hw => hw) ?_
  rintro s _ ⟨g, ⟨hk, hs⟩, rfl⟩
  refine r_seq (by kernel_rfl) ?_
  refine s_val (v_lss (k := .i64) rfl rfl) ?_
  refine s_nil ?_
  refine c_seq ?_
  refine c_cond rfl rfl (fun h16 => ?_) (fun h16 => ?_)
  · have hk5 : s.k < 5 := by have := of_decide_eq_true h16; omega
    obtain ⟨n, hnk, hcn⟩ := a.get hk5
    have hroom := body_room h11 s.k
    refine c_skip ?_
    refine n_then ?_
    refine c_seq ?_
    refine c_block ?_
    refine r_seq (by kernel_rfl) ?_
    refine s_val (v_indexS (len := 5) (t := 3) (m := 1) (k := .i64) (v := I n) (by kernel_rfl) (by kernel_rfl) rfl rfl ⟨by omega, by omega⟩ hcn) ?_
    refine s_val (v_assign (v := .int .i64 _) rfl) ?_
    refine s_nil ?_
    refine r_list (by kernel_rfl) ?_
    refine s_val (v_move (v := _) rfl) ?_
    refine s_val (v_move (v := .int .i64 _) rfl) ?_
    refine s_callB (by kernel_rfl) (g_appendNumber (At w) s.E s.v (bodyTo a s.k) n hs (noted_list h11 hnk) (by omega)) (fun v20 E20 hR20 => ?_)
    refine s_val (v_assign (v := _) rfl) ?_
    refine s_end ?_
    refine n_bnormal ?_
    refine n_then ?_
    refine r_list (by kernel_rfl) ?_
    refine s_val (v_add rfl rfl (by omega)) ?_
    refine s_val (v_move (v := .int .i64 _) rfl) ?_
    refine s_end ?_
    refine n_round (s := s) ⟨s.k + 1, v20, E20⟩ ⟨_, ⟨hk5, by rw [body_step hnk]; exact hR20⟩, live4 rfl rfl rfl rfl⟩ (fun _ hw => hw) (by dsimp only; omega)
  refine c_exit ?_
  refine n_exit ?_
  refine n_exit ?_
  refine n_bhere ?_
  refine n_then ?_
  have hk55 : s.k = 5 := by have := of_decide_eq_false h16; omega
  rw [hk55, body_five] at hs
  obtain ⟨g4, c4, cs4, hv4, hE4, hc4⟩ := hs.block (by omega)
  rw [hv4]
  refine c_weak (C' := Has w (At w) [(g4, .cells cs4 5), (b1, .cells a.cells 54)]) (fun _ hw => by rw [hE4] at hw; exact hw) ?_
  refine r_seq (by kernel_rfl) ?_
  refine s_val (v_move (v := .slice _ _ _) rfl) ?_
  refine s_val (v_lenS (T := 84) (m := 1) (by kernel_rfl) rfl rfl) ?_
  refine s_val (v_toU8 (by kernel_rfl) rfl ⟨by omega, by omega⟩) ?_
  refine s_build1 (v := .int .u8 _) (e := 5) (m := 1) (by_ := 1) (by kernel_rfl) rfl rfl rfl (fill_scalar rfl) (fun b25 => ?_)
  refine s_val (v_assign (v := .slice _ _ _) rfl) ?_
  refine s_nil ?_
  refine r_seq (by kernel_rfl) ?_
  refine s_val (v_move (v := .slice _ _ _) rfl) ?_
  refine s_val (v_move (v := .slice _ _ _) rfl) ?_
  refine s_pushM (E := [(b25, .cells #[U8 ((bodyOf a).length : Nat)] 5)]) (e := 5) (m := 1) (by_ := 1) (mm := (bodyOf a).length) (news := u8s (bodyOf a)) (by kernel_rfl) rfl rfl rfl rfl rfl (bytes_one _ b25 (bodyOf a).length) (by rw [u8s_len]; omega) (fun w1 hw j u hj => ?_) (u8s_one _) (by omega) (by simp only [List.length_cons, List.length_nil]; omega) (fun v28 E28 hE28 => ?_)
  · obtain ⟨m, hm, rfl⟩ : ∃ m, (bodyOf a)[j]? = some m ∧ u = U8 (m : Int) := by
      cases hq : (bodyOf a)[j]? with
      | none => simp [u8s, hq] at hj
      | some m => exact ⟨m, rfl, by simpa [u8s, hq] using hj.symm⟩
    rw [Nat.zero_add, cell_has hw (.there .here)]; exact hc4 j m hm
  have hB28 : Bytes 5 v28 ((bodyOf a).length :: bodyOf a) E28 := Bytes.push (l := [(bodyOf a).length]) hE28
  refine s_val (v_assign (v := _) rfl) ?_
  refine s_nil ?_
  refine r_seq (by kernel_rfl) ?_
  refine s_val (v_move (v := .slice _ _ _) rfl) ?_
  refine s_call (by kernel_rfl) (fun w hw => g_checksum (some ⟨g4, 0, none⟩) c4 (bodyOf a) w (.inr ⟨g4, 0, rfl, fun j m hj => by show World.cell? _ _ = _; rw [Nat.zero_add, cell_has hw (Look.app .here)]; exact hc4 j m hj⟩) (fun b hb => body_byte a b hb) (by omega)) ?_
  refine s_val (v_move (v := .tuple _) rfl) ?_
  refine s_val (v_extract rfl rfl) ?_
  refine s_val (v_extract rfl rfl) ?_
  refine s_val (v_assign (v := .int .u8 _) rfl) ?_
  refine s_val (v_assign (v := .int .u8 _) rfl) ?_
  refine s_nil ?_
  refine r_seq (by kernel_rfl) ?_
  refine s_val (v_move (v := _) rfl) ?_
  refine s_val (v_move (v := .int .u8 _) rfl) ?_
  refine s_val (v_move (v := .int .u8 _) rfl) ?_
  refine s_buildS (e := 5) (vs := [(0, .int .u8 _), (1, .int .u8 _)]) (cs := #[U8 (((sumOf (bodyOf a)).1 % 251 : Nat) : Int), U8 (((sumOf (bodyOf a)).2 % 251 : Nat) : Int)]) rfl (by kernel_rfl) (fun b37 => ?_)
  refine s_pushN (e := 5) (m := 1) (by_ := 1) (mm := 2) (by kernel_rfl) rfl rfl rfl rfl rfl hB28 rfl (by simp [Value.oneCell']) (by decide) (by simp only [List.length_cons]; omega) (fun v38 E38 hE38 => ?_)
  have hB38 : Bytes 5 v38 (((bodyOf a).length :: bodyOf a) ++ [(sumOf (bodyOf a)).1 % 251, (sumOf (bodyOf a)).2 % 251]) E38 := Bytes.push (m := [(sumOf (bodyOf a)).1 % 251, (sumOf (bodyOf a)).2 % 251]) hE38
  refine s_val (v_strOfE (l := frameOf a) (by kernel_rfl) (by kernel_rfl) rfl hB38 (by rw [frame_len]; omega) (frame_byte h11)) ?_
  refine s_val (v_assign (v := S _) rfl) ?_
  refine s_val (v_assign (v := .int .i64 _) rfl) ?_
  refine s_nil ?_
  refine c_ret ?_
  exact n_doneT rfl (by decide) (by decide) (by rw [frameR_yes h11]; rfl)

end Go.Proofs.Ytbajdhahmmfhcaa
/- Contract of the developers' readFrame. Condition: texts of a few million bytes at most. -/
namespace Go.Proofs.Ytbajdhahmmfhcaa
open Go.RowKit
set_option linter.unusedSimpArgs false
set_option linter.unusedVariables false
set_option maxRecDepth 100000
attribute [local irreducible] cC sC nC rC qw

set_option maxHeartbeats 1000000 in
theorem g_readFrame (l : List Nat) (w : World) (hb : Byt l) (hl : l.length ≤ 8388608) : Gives Try.prog 81 [S l] w (frontR l) := by
  refine gives_of Try.func81 rfl Try.ntmps81 (by simp) ?_
  refine r_seq (by kernel_rfl) ?_
  refine s_alloc (z := .agg zeroA.cells) (by kernel_rfl) (fun b2 => ?_)
  refine s_val (v_assign (v := .int .i64 _) rfl) ?_
  refine s_val (v_assign (v := .bool _) rfl) ?_
  refine s_nil ?_
  refine r_seq (by kernel_rfl) ?_
  refine s_val (v_move (v := S _) rfl) ?_
  refine s_call (by kernel_rfl) (fun w hw => g_guess l w hb hl) ?_
  refine s_val (v_move (v := .tuple _) rfl) ?_
  refine s_val (v_extract rfl rfl) ?_
  refine s_val (v_extract rfl rfl) ?_
  refine s_alloc (z := .agg zeroA.cells) (by kernel_rfl) (fun b5 => ?_)
  refine s_storeA (m := 5) (by kernel_rfl) rfl rfl .here rfl rfl (ActS.all1 _) ?_
  refine s_val (v_assign (v := .bool _) rfl) ?_
  refine s_nil ?_
  refine c_seq ?_
  refine r_seq (by kernel_rfl) ?_
  refine s_val (v_move (v := .bool _) rfl) ?_
  refine s_val (v_not rfl) ?_
  refine s_nil ?_
  refine c_condN rfl rfl (fun h15 => ?_) (fun h15 => ?_)
  · refine r_seq (by kernel_rfl) ?_
    refine s_val (v_build (vs := []) (cs := zeroA.cells) rfl (by kernel_rfl)) ?_
    refine s_storeA (m := 5) (by kernel_rfl) rfl rfl (.there .here) rfl rfl (ActS.all1 _) ?_
    refine s_val (v_assign (v := .int .i64 _) rfl) ?_
    refine s_val (v_assign (v := .bool _) rfl) ?_
    refine s_nil ?_
    refine c_ret ?_
    refine n_ret ?_
    exact n_doneCTT (m := 5) rfl (by decide) (by decide) (by decide) rfl (by kernel_rfl) (.there .here) rfl (front_no (first_gone h15))
  refine c_skip ?_
  refine n_then ?_
  refine r_seq (by kernel_rfl) ?_
  refine s_val (v_loadA (m := 5) (by kernel_rfl) rfl .here rfl) ?_
  refine s_call (by kernel_rfl) (fun w hw => g_Frame (gAct l) w) ?_
  refine s_val (v_move (v := .tuple _) rfl) ?_
  refine s_val (v_extract rfl rfl) ?_
  refine s_val (v_extract rfl rfl) ?_
  refine s_val (v_assign (v := S _) rfl) ?_
  refine s_val (v_assign (v := .int .i64 _) rfl) ?_
  refine s_nil ?_
  refine c_seq ?_
  refine r_seq (by kernel_rfl) ?_
  refine s_val (v_move (v := .int .i64 _) rfl) ?_
  refine s_val (v_neq (k := .i64) rfl rfl) ?_
  refine s_val (v_move (v := .bool _) rfl) ?_
  refine s_splitN (s := 24) rfl (fun h24 => ?_) (fun h24 => ?_)
  · refine s_pass rfl rfl (congrArg not h24) ?_
    refine s_pass rfl rfl (congrArg not h24) ?_
    refine s_pass rfl rfl (congrArg not h24) ?_
    refine s_pass rfl rfl (congrArg not h24) ?_
    refine s_val (v_pickT (v := .bool _) rfl (congrArg not h24) rfl) ?_
    refine s_nil ?_
    refine c_condTh rfl rfl rfl ?_
    refine r_seq (by kernel_rfl) ?_
    refine s_val (v_build (vs := []) (cs := zeroA.cells) rfl (by kernel_rfl)) ?_
    refine s_storeA (m := 5) (by kernel_rfl) rfl rfl (.there .here) rfl rfl (ActS.all1 _) ?_
    refine s_val (v_assign (v := .int .i64 _) rfl) ?_
    refine s_val (v_assign (v := .bool _) rfl) ?_
    refine s_nil ?_
    refine c_ret ?_
    refine n_ret ?_
    exact n_doneCTT (m := 5) rfl (by decide) (by decide) (by decide) rfl (by kernel_rfl) (.there .here) rfl (front_no (first_other h15 (fun h => absurd (by simp [fErr, h.1]) (of_decide_eq_false h24))))
  have hnx := fErr_ok (of_decide_eq_true h24)
  have hft : fText (gAct l) = frameOf (gAct l) := by simp [fText, hnx]
  refine s_want rfl rfl (congrArg not h24) ?_
  refine s_val (v_move (v := S _) rfl) ?_
  refine s_want rfl rfl (congrArg not h24) ?_
  refine s_val (v_move (v := S _) rfl) ?_
  refine s_want rfl rfl (congrArg not h24) ?_
  refine s_call (by kernel_rfl) (fun w hw => g_HasPrefix l (fText (gAct l)) w hb (fText_byt _)) ?_
  refine s_want rfl rfl (congrArg not h24) ?_
  refine s_val (v_not rfl) ?_
  refine s_val (v_pickF (v := .bool _) rfl (congrArg not h24) rfl) ?_
  refine s_nil ?_
  refine c_condN rfl rfl (fun h29 => ?_) (fun h29 => ?_)
  · refine r_seq (by kernel_rfl) ?_
    refine s_val (v_build (vs := []) (cs := zeroA.cells) rfl (by kernel_rfl)) ?_
    refine s_storeA (m := 5) (by kernel_rfl) rfl rfl (.there .here) rfl rfl (ActS.all1 _) ?_
    refine s_val (v_assign (v := .int .i64 _) rfl) ?_
    refine s_val (v_assign (v := .bool _) rfl) ?_
    refine s_nil ?_
    refine c_ret ?_
    refine n_ret ?_
    exact n_doneCTT (m := 5) rfl (by decide) (by decide) (by decide) rfl (by kernel_rfl) (.there .here) rfl (front_no (first_other h15 (fun h => absurd ((begins_iff (l := l) (f := fText (gAct l))).2 (by rw [hft]; exact h.2)) (by rw [h29]; decide))))
  refine c_skip ?_
  refine n_then ?_
  refine r_seq (by kernel_rfl) ?_
  refine s_val (v_loadA (m := 5) (by kernel_rfl) rfl .here rfl) ?_
  refine s_val (v_move (v := S _) rfl) ?_
  refine s_val (v_strLen (by kernel_rfl) rfl rfl) ?_
  refine s_storeA (m := 5) (by kernel_rfl) rfl rfl (.there .here) rfl rfl (ActS.all1 _) ?_
  refine s_val (v_assign (v := .int .i64 _) rfl) ?_
  refine s_val (v_assign (v := .bool _) rfl) ?_
  refine s_nil ?_
  refine c_ret ?_
  exact n_doneCTT (m := 5) rfl (by decide) (by decide) (by decide) rfl (by kernel_rfl) (.there .here) rfl (by rw [hft]; exact front_yes (first_this hnx (by rw [← hft]; exact begins_iff.1 h29)))

end Go.Proofs.Ytbajdhahmmfhcaa
/- Contract of the developers' book.Read. Condition: texts of a few million bytes at most. -/
namespace Go.Proofs.Ytbajdhahmmfhcaa
open Go.RowKit
set_option linter.unusedSimpArgs false
set_option linter.unusedVariables false
set_option maxRecDepth 100000
attribute [local irreducible] cC sC nC rC qw

set_option maxHeartbeats 1000000 in
theorem g_Read (l : List Nat) (w : World) (hb : Byt l) (hl : l.length ≤ 8388608) : GivesF Try.prog 51 [S l] w (ReadF l) := by
  refine givesF_of Try.func51 rfl Try.ntmps51 (by simp) ?_
  refine r_seq (by kernel_rfl) ?_
  refine s_val (v_assign (v := .slice _ _ _) rfl) ?_
  refine s_val (v_assign (v := .int .i64 _) rfl) ?_
  refine s_nil ?_
  refine r_seq (by kernel_rfl) ?_
  refine s_val (v_assign (v := .slice _ _ _) rfl) ?_
  refine s_nil ?_
  refine r_seq (by kernel_rfl) ?_
  refine s_val (v_assign (v := .int .i64 _) rfl) ?_
  refine s_nil ?_
  refine c_block ?_
  refine c_loop (σ := RB) (fun (s : RB) f => ∃ g, (RbOk 54 l s) ∧ f = (upd (upd (upd g 0 (S l)) 4 (s.v)) 5 (I ((bytesOf s.xs).length : Nat)))) (fun (s : RB) => Has w (At w) (s.E ++ [])) (fun (s : RB) => l.length - (bytesOf s.xs).length) ⟨[], .slice none 0 0, []⟩ ⟨_, ⟨listE_nil _ _, Nat.zero_le _, rfl, Nat.le_refl _⟩, live3 rfl rfl rfl⟩ (fun w hw => hw) ?_
  rintro s _ ⟨g, ho, rfl⟩
  refine c_block ?_
  have hfront := ho.front
  refine r_seq (by kernel_rfl) ?_
  refine s_val (v_move (v := S _) rfl) ?_
  refine s_val (v_move (v := .int .i64 _) rfl) ?_
  refine s_val (v := S (l.drop (bytesOf s.xs).length)) (v_strLo (a := l) (i := ((bytesOf s.xs).length : Nat)) (by kernel_rfl) rfl rfl ⟨by omega, by omega⟩) ?_
  refine s_call (by kernel_rfl) (fun w hw => g_readFrame (l.drop (bytesOf s.xs).length) w (hb.drop _) (by rw [List.length_drop]; omega)) ?_
  refine s_val (v_move (v := .tuple _) rfl) ?_
  refine s_val (v_extract rfl rfl) ?_
  refine s_val (v_extract rfl rfl) ?_
  refine s_val (v_extract rfl rfl) ?_
  refine s_alloc (z := .agg zeroA.cells) (by kernel_rfl) (fun b6 => ?_)
  refine s_storeA (m := 5) (by kernel_rfl) rfl rfl .here rfl rfl (ActS.all1 _) ?_
  refine s_val (v_assign (v := .int .i64 _) rfl) ?_
  refine s_val (v_assign (v := .bool _) rfl) ?_
  refine s_nil ?_
  refine c_seq ?_
  refine r_seq (by kernel_rfl) ?_
  refine s_val (v_move (v := .bool _) rfl) ?_
  refine s_val (v_not rfl) ?_
  refine s_nil ?_
  refine c_condN rfl rfl (fun h18 => ?_) (fun h18 => ?_)
  · refine r_seq (by kernel_rfl) ?_
    refine s_val (v_move (v := _) rfl) ?_
    refine s_val (v_move (v := .int .i64 _) rfl) ?_
    refine s_val (v_assign (v := _) rfl) ?_
    refine s_val (v_assign (v := .int .i64 _) rfl) ?_
    refine s_nil ?_
    refine c_ret ?_
    refine n_ret ?_
    refine n_bret ?_
    refine n_ret ?_
    refine n_bret ?_
    refine n_doneTF rfl (by decide) (by decide) (fun w hw => ?_)
    exact ho.done (rf_no h18) (own_fresh hw.tail)
  refine c_skip ?_
  refine n_then ?_
  refine c_weak (C' := Has w (At w) (s.E ++ [(b6, .cells (rfAct (l.drop (bytesOf s.xs).length)).cells 54)])) (fun _ hw => by
    have h1 := hw.sub (L' := (b6, .cells (rfAct (l.drop (bytesOf s.xs).length)).cells 54) :: (s.E ++ [])) (List.Sublist.refl _)
    rw [List.append_nil] at h1
    exact h1.perm (List.perm_append_comm (l₁ := [_]))) ?_
  have hfr := rf_yes h18
  have height := ho.eight
  have hfl := frame_len (rfAct (l.drop (bytesOf s.xs).length))
  have hpre := ((first_iff _ _).1 hfr.1).2.length_le
  rw [List.length_drop] at hpre
  refine r_seq (by kernel_rfl) ?_
  refine s_val (v_move (v := _) rfl) ?_
  refine s_val (v_loadA (m := 5) (by kernel_rfl) rfl (.app .here) rfl) ?_
  refine s_build1 (v := .agg _) (e := 54) (m := 5) (by_ := 40) (by kernel_rfl) rfl rfl rfl (fill_one rfl) (fun b23 => ?_)
  refine s_push (e := 54) (m := 5) (by_ := 40) (by kernel_rfl) rfl rfl rfl rfl rfl ho.list rfl (ActS.all1 _) (by omega) (fun v24 E24 hE24 => ?_)
  refine s_val (v_assign (v := _) rfl) ?_
  refine s_nil ?_
  refine r_list (by kernel_rfl) ?_
  refine s_val (v_move (v := .int .i64 _) rfl) ?_
  refine s_val (v_move (v := .int .i64 _) rfl) ?_
  refine s_val (v_add rfl rfl (by omega)) ?_
  refine s_val (v_assign (v := .int .i64 _) rfl) ?_
  refine s_end ?_
  refine n_bnormal ?_
  refine n_round (s := s) ⟨s.xs ++ [rfAct (l.drop (bytesOf s.xs).length)], v24, E24⟩ ⟨_, (ho.next hfr.1 hE24).1, live3 rfl rfl (congrArg I (by have h1 := (ho.next hfr.1 hE24).2; have h2 := hfr.2; dsimp only; omega))⟩ (fun _ hw => hw.sub (List.Sublist.append (List.Sublist.refl _) (List.nil_sublist _))) (by have h1 := (ho.next hfr.1 hE24).2; have h2 := (ho.next hfr.1 hE24).1.front; dsimp only at h2 ⊢; omega)

end Go.Proofs.Ytbajdhahmmfhcaa
/- Contracts of books and of the comparison of acts. No condition. -/
namespace Go.Proofs.Ytbajdhahmmfhcaa
open Go.RowKit
set_option linter.unusedSimpArgs false
set_option linter.unusedVariables false
set_option maxRecDepth 100000
attribute [local irreducible] cC sC nC rC qw

set_option maxHeartbeats 1000000 in
theorem gl_books  (w : World) : Gives Try.prog 56 [] w (.bool true) := by
  refine gives_of Try.func56 rfl Try.ntmps56 (by simp) ?_
  refine r_seq (by kernel_rfl) ?_
  refine s_val (v_assign (v := .bool _) rfl) ?_
  refine s_nil ?_
  refine r_seq (by kernel_rfl) ?_
  refine s_val (v_build (vs := [(0, .int .i64 _), (1, .int .i64 _), (4, .int .i64 _)]) (cs := bAct.cells) rfl (by kernel_rfl)) ?_
  refine s_call (by kernel_rfl) (fun w hw => g_Frame bAct w) ?_
  refine s_val (v_move (v := .tuple _) rfl) ?_
  refine s_val (v_extract rfl rfl) ?_
  refine s_val (v_extract rfl rfl) ?_
  refine s_val (v_assign (v := S _) rfl) ?_
  refine s_val (v_assign (v := .int .i64 _) rfl) ?_
  refine s_nil ?_
  rw [bFrame]
  refine r_seq (by kernel_rfl) ?_
  refine s_val (v_move (v := S _) rfl) ?_
  refine s_val (v_move (v := S _) rfl) ?_
  refine s_val (v_strAdd rfl rfl (by rw [bLen]; decide)) ?_
  refine s_val (v_strAdd (b := [120]) rfl rfl (by rw [List.length_append, bLen]; decide)) ?_
  refine s_callG (by kernel_rfl) (readF_mono _) (fun w hw => g_Read (bText) w bByt (by simp only [bText, List.length_append, bLen, List.length_cons, List.length_nil]; decide)) (fun F15 v15 hF15 hR15 => ?_)
  obtain ⟨v1, rfl, hA15⟩ := hR15
  obtain ⟨a15, c15, rfl, ia15⟩ := hA15.at
  replace ia15 := ia15.mono (more_young _ _)
  refine s_val (v_move (v := .tuple _) rfl) ?_
  refine s_val (v_extract rfl rfl) ?_
  refine s_val (v_extract rfl rfl) ?_
  refine s_val (v_assign (v := .slice _ _ _) rfl) ?_
  refine s_val (v_assign (v := .int .i64 _) rfl) ?_
  refine s_nil ?_
  rw [bRead] at ia15
  obtain ⟨bb, bo, x, ha, hx, hc⟩ := ia15.get (j := 1) (by decide)
  obtain rfl : bAct = x := by simpa using hx
  refine r_seq (by kernel_rfl) ?_
  refine s_val (v_move (v := .int .i64 _) rfl) ?_
  refine s_val (v_eql (k := .i64) rfl rfl) ?_
  refine s_val (v_move (v := .bool _) rfl) ?_
  refine s_want rfl rfl rfl ?_
  refine s_val (v_move (v := .slice _ _ _) rfl) ?_
  refine s_want rfl rfl rfl ?_
  refine s_val (v_lenS (T := 58) (m := 5) (by kernel_rfl) rfl rfl) ?_
  refine s_want rfl rfl rfl ?_
  refine s_val (v_eql (k := .i64) rfl rfl) ?_
  refine s_val (v_pickT (v := .bool _) rfl rfl rfl) ?_
  refine s_val (v_move (v := .bool _) rfl) ?_
  refine s_want rfl rfl (decide_eq_true (by rw [bRead]; rfl)) ?_
  refine s_val (v_move (v := .int .i64 _) rfl) ?_
  refine s_want rfl rfl (decide_eq_true (by rw [bRead]; rfl)) ?_
  refine s_val (v_move (v := S _) rfl) ?_
  refine s_want rfl rfl (decide_eq_true (by rw [bRead]; rfl)) ?_
  refine s_val (v_strLen (by kernel_rfl) rfl rfl) ?_
  refine s_want rfl rfl (decide_eq_true (by rw [bRead]; rfl)) ?_
  refine s_val (v_mul rfl rfl (by rw [bLen]; decide)) ?_
  refine s_want rfl rfl (decide_eq_true (by rw [bRead]; rfl)) ?_
  refine s_val (v_eql (k := .i64) rfl rfl) ?_
  refine s_val (v_pickT (v := .bool _) rfl (decide_eq_true (by rw [bRead]; rfl)) rfl) ?_
  refine s_val (v_move (v := .bool _) rfl) ?_
  refine s_want rfl rfl (decide_eq_true bBytes) ?_
  refine s_val (v_move (v := .slice _ _ _) rfl) ?_
  refine s_want rfl rfl (decide_eq_true bBytes) ?_
  refine s_val (v_idxS (size := 5) (k := .i64) (by kernel_rfl) (congrArg (fun a => Value.slice a (readM bText).length c15) ha) rfl ⟨by decide, by rw [bRead]; decide⟩) ?_
  refine s_want rfl rfl (decide_eq_true bBytes) ?_
  refine s_val (v_field (fo := 4) (by kernel_rfl) rfl) ?_
  refine s_want rfl rfl (decide_eq_true bBytes) ?_
  refine s_val (v_load1o (v := I 100) (by kernel_rfl) rfl (by simpa using hc 4 (I 100) rfl)) ?_
  refine s_want rfl rfl (decide_eq_true bBytes) ?_
  refine s_val (v_eql (k := .i64) rfl rfl) ?_
  refine s_val (v_pickT (v := .bool _) rfl (decide_eq_true bBytes) rfl) ?_
  refine s_val (v_assign (v := .bool _) rfl) ?_
  refine s_nil ?_
  refine c_ret ?_
  refine n_done rfl (by decide) (Eq.trans (b := .bool _) rfl (congrArg Value.bool ?_))
  rfl

set_option maxHeartbeats 1000000 in
theorem gk_books  (w : World) : Gives Try.prog 57 [] w (.bool true) := by
  refine gives_of Try.func57 rfl Try.ntmps57 (by simp) ?_
  refine r_seq (by kernel_rfl) ?_
  refine s_val (v_assign (v := .bool _) rfl) ?_
  refine s_nil ?_
  refine r_seq (by kernel_rfl) ?_
  refine s_val (v_build (vs := [(0, .int .i64 _), (1, .int .i64 _), (4, .int .i64 _)]) (cs := bAct.cells) rfl (by kernel_rfl)) ?_
  refine s_call (by kernel_rfl) (fun w hw => g_Frame bAct w) ?_
  refine s_val (v_move (v := .tuple _) rfl) ?_
  refine s_val (v_extract rfl rfl) ?_
  refine s_val (v_extract rfl rfl) ?_
  refine s_val (v_assign (v := S _) rfl) ?_
  refine s_val (v_assign (v := .int .i64 _) rfl) ?_
  refine s_nil ?_
  rw [bFrame]
  refine r_seq (by kernel_rfl) ?_
  refine s_val (v_move (v := S _) rfl) ?_
  refine s_val (v_move (v := S _) rfl) ?_
  refine s_val (v_strAdd rfl rfl (by rw [bLen]; decide)) ?_
  refine s_val (v_strAdd (b := [120]) rfl rfl (by rw [List.length_append, bLen]; decide)) ?_
  refine s_callG (by kernel_rfl) (readF_mono _) (fun w hw => g_Read (bText) w bByt (by simp only [bText, List.length_append, bLen, List.length_cons, List.length_nil]; decide)) (fun F15 v15 hF15 hR15 => ?_)
  obtain ⟨v1, rfl, hA15⟩ := hR15
  obtain ⟨a15, c15, rfl, ia15⟩ := hA15.at
  replace ia15 := ia15.mono (more_young _ _)
  refine s_val (v_move (v := .tuple _) rfl) ?_
  refine s_val (v_extract rfl rfl) ?_
  refine s_val (v_extract rfl rfl) ?_
  refine s_val (v_assign (v := .slice _ _ _) rfl) ?_
  refine s_val (v_assign (v := .int .i64 _) rfl) ?_
  refine s_nil ?_
  rw [bRead] at ia15
  obtain ⟨bb, bo, x, ha, hx, hc⟩ := ia15.get (j := 1) (by decide)
  obtain rfl : bAct = x := by simpa using hx
  refine r_seq (by kernel_rfl) ?_
  refine s_val (v_move (v := .int .i64 _) rfl) ?_
  refine s_val (v_eql (k := .i64) rfl rfl) ?_
  refine s_val (v_move (v := .bool _) rfl) ?_
  refine s_want rfl rfl rfl ?_
  refine s_val (v_move (v := .slice _ _ _) rfl) ?_
  refine s_want rfl rfl rfl ?_
  refine s_val (v_lenS (T := 58) (m := 5) (by kernel_rfl) rfl rfl) ?_
  refine s_want rfl rfl rfl ?_
  refine s_val (v_eql (k := .i64) rfl rfl) ?_
  refine s_val (v_pickT (v := .bool _) rfl rfl rfl) ?_
  refine s_val (v_move (v := .bool _) rfl) ?_
  refine s_want rfl rfl (decide_eq_true (by rw [bRead]; rfl)) ?_
  refine s_val (v_move (v := .int .i64 _) rfl) ?_
  refine s_want rfl rfl (decide_eq_true (by rw [bRead]; rfl)) ?_
  refine s_val (v_move (v := S _) rfl) ?_
  refine s_want rfl rfl (decide_eq_true (by rw [bRead]; rfl)) ?_
  refine s_val (v_strLen (by kernel_rfl) rfl rfl) ?_
  refine s_want rfl rfl (decide_eq_true (by rw [bRead]; rfl)) ?_
  refine s_val (v_mul rfl rfl (by rw [bLen]; decide)) ?_
  refine s_want rfl rfl (decide_eq_true (by rw [bRead]; rfl)) ?_
  refine s_val (v_eql (k := .i64) rfl rfl) ?_
  refine s_val (v_pickT (v := .bool _) rfl (decide_eq_true (by rw [bRead]; rfl)) rfl) ?_
  refine s_val (v_move (v := .bool _) rfl) ?_
  refine s_want rfl rfl (decide_eq_true bBytes) ?_
  refine s_val (v_move (v := .slice _ _ _) rfl) ?_
  refine s_want rfl rfl (decide_eq_true bBytes) ?_
  refine s_val (v_idxS (size := 5) (k := .i64) (by kernel_rfl) (congrArg (fun a => Value.slice a (readM bText).length c15) ha) rfl ⟨by decide, by rw [bRead]; decide⟩) ?_
  refine s_want rfl rfl (decide_eq_true bBytes) ?_
  refine s_val (v_field (fo := 4) (by kernel_rfl) rfl) ?_
  refine s_want rfl rfl (decide_eq_true bBytes) ?_
  refine s_val (v_load1o (v := I 100) (by kernel_rfl) rfl (by simpa using hc 4 (I 100) rfl)) ?_
  refine s_want rfl rfl (decide_eq_true bBytes) ?_
  refine s_val (v_eql (k := .i64) rfl rfl) ?_
  refine s_val (v_pickT (v := .bool _) rfl (decide_eq_true bBytes) rfl) ?_
  refine s_val (v_assign (v := .bool _) rfl) ?_
  refine s_nil ?_
  refine c_ret ?_
  refine n_done rfl (by decide) (Eq.trans (b := .bool _) rfl (congrArg Value.bool ?_))
  rfl

theorem gl_sameActs (a1 a2 : Option Addr) (p1 p2 : Nat) (xs ys : List ActS) (w : World) (hx : ActsAt (At w) a1 xs) (hy : ActsAt (At w) a2 ys) (hb : xs.length ≤ 9223372036854775807) : Gives Try.prog 55 [.slice a1 xs.length p1, .slice a2 ys.length p2] w (.bool (decide (xs = ys))) := by
  refine gives_of Try.func55 rfl Try.ntmps55 (by simp) ?_
  refine r_seq (by kernel_rfl) ?_
  refine s_val (v_assign (v := .bool _) rfl) ?_
  refine s_nil ?_
  refine c_seq ?_
  refine r_seq (by kernel_rfl) ?_
  refine s_val (v_move (v := .slice _ _ _) rfl) ?_
  refine s_val (v_lenS (T := 58) (m := 5) (by kernel_rfl) rfl rfl) ?_
  refine s_val (v_move (v := .slice _ _ _) rfl) ?_
  refine s_val (v_lenS (T := 58) (m := 5) (by kernel_rfl) rfl rfl) ?_
  refine s_val (v_neq (k := .i64) rfl rfl) ?_
  refine s_nil ?_
  refine c_condN rfl rfl (fun h10 => ?_) (fun h10 => ?_)
  · refine r_seq (by kernel_rfl) ?_
    refine s_val (v_assign (v := .bool _) rfl) ?_
    refine s_nil ?_
    refine c_ret ?_
    refine n_ret ?_
    refine n_done rfl (by decide) (Eq.trans (b := .bool _) rfl (congrArg Value.bool ?_))
    exact (decide_eq_false (acts_len (of_decide_eq_false h10))).symm
  refine c_skip ?_
  refine n_then ?_
  refine c_seq ?_
  refine r_seq (by kernel_rfl) ?_
  refine s_val (v_move (v := .slice _ _ _) rfl) ?_
  refine s_val (v_lenS (T := 58) (m := 5) (by kernel_rfl) rfl rfl) ?_
  refine s_val (v_move (v := .int .i64 _) rfl) ?_
  refine s_nil ?_
  refine c_block ?_
  refine c_loop (σ := Nat) (fun (j : Nat) f => ∃ g, (j ≤ xs.length ∧ xs.take j = ys.take j) ∧ f = (upd (upd (upd (upd g 0 (.slice a1 xs.length p1)) 1 (.slice a2 ys.length p2)) 12 (I xs.length)) 13 (I j))) (fun (j : Nat) => Has w (At w) []) (fun (j : Nat) => xs.length - j) 0 ⟨_, ⟨Nat.zero_le _, rfl⟩, live4 rfl rfl rfl rfl⟩ (fun w hw => hw) ?_
  rintro j _ ⟨g, ⟨hjl, hinv⟩, rfl⟩
  refine r_seq (by kernel_rfl) ?_
  refine s_val (v_lss (k := .i64) rfl rfl) ?_
  refine s_nil ?_
  refine c_seq ?_
  refine c_condR rfl rfl (fun h14 => ?_) (fun h14 => ?_)
  · refine c_exit ?_
    refine n_exit ?_
    refine n_exit ?_
    refine n_bhere ?_
    refine n_then ?_
    refine r_seq (by kernel_rfl) ?_
    refine s_val (v_assign (v := .bool _) rfl) ?_
    refine s_nil ?_
    refine c_ret ?_
    refine n_done rfl (by decide) (Eq.trans (b := .bool _) rfl (congrArg Value.bool ?_))
    exact (decide_eq_true (acts_all (of_decide_eq_true h10) hinv (of_decide_eq_false h14))).symm
  have hj0 := of_decide_eq_true h14
  have hll := of_decide_eq_true h10
  obtain ⟨b, o, x, ha1, hxj, hcx⟩ := hx.get (j := j) (by omega)
  obtain ⟨b', o', y, ha2, hyj, hcy⟩ := hy.get (j := j) (by omega)
  refine c_skip ?_
  refine n_then ?_
  refine c_seq ?_
  refine c_block ?_
  refine r_seq (by kernel_rfl) ?_
  refine s_val (v_move (v := .int .i64 _) rfl) ?_
  refine s_val (v_assign (v := .int .i64 _) rfl) ?_
  refine s_nil ?_
  refine d_seq (by kernel_rfl) (by kernel_rfl) (fun w hw => hw.drew) (by kernel_rfl) ?_
  refine q_val (v_move (v := .slice _ _ _) rfl) ?_
  refine q_val (v_move (v := .int .i64 _) rfl) ?_
  refine q_val (v_idxS (size := 5) (k := .i64) (by kernel_rfl) (congrArg (fun a => Value.slice a xs.length p1) ha1) rfl ⟨by omega, by omega⟩) ?_
  refine q_val (v_loadNo (cs := x.cells) (m := 5) (by kernel_rfl) rfl rfl (by simpa using hcx)) ?_
  refine q_val (v_move (v := .slice _ _ _) rfl) ?_
  refine q_val (v_move (v := .int .i64 _) rfl) ?_
  refine q_val (v_idxS (size := 5) (k := .i64) (by kernel_rfl) (congrArg (fun a => Value.slice a ys.length p2) ha2) rfl ⟨by omega, by omega⟩) ?_
  refine q_val (v_loadNo (cs := y.cells) (m := 5) (by kernel_rfl) rfl rfl (by simpa using hcy)) ?_
  refine q_val (v_neqFlat (n := 5) _ _ (by kernel_rfl) rfl rfl (ActS.cells_list _) (ActS.cells_list _) rfl rfl) ?_
  refine q_nil ?_
  refine c_condNR rfl rfl (fun h24 => ?_) (fun h24 => ?_)
  · refine c_skip ?_
    refine n_bnormal ?_
    refine n_then ?_
    refine r_list (by kernel_rfl) ?_
    refine s_val (v_add rfl rfl (by omega)) ?_
    refine s_val (v_move (v := .int .i64 _) rfl) ?_
    refine s_end ?_
    refine n_round (j + 1) ⟨_, ⟨by omega, acts_step hinv hxj hyj (of_decide_eq_true h24)⟩, live4 rfl rfl rfl rfl⟩ (fun _ hw => hw) (by omega)
  refine r_seq (by kernel_rfl) ?_
  refine s_val (v_assign (v := .bool _) rfl) ?_
  refine s_nil ?_
  refine c_ret ?_
  refine n_bret ?_
  refine n_ret ?_
  refine n_ret ?_
  refine n_bret ?_
  refine n_ret ?_
  refine n_done rfl (by decide) (Eq.trans (b := .bool _) rfl (congrArg Value.bool ?_))
  exact (decide_eq_false (acts_bad hxj hyj (of_decide_eq_false h24))).symm

end Go.Proofs.Ytbajdhahmmfhcaa
