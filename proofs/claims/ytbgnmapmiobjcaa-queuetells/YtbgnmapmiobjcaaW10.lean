/- Contracts of the comparisons of the document side. Condition: the lists lie in memory that is known. -/
import Derived.Test.YtbgnmapmiobjcaaW9
import Derived.Test.YtbgnmapmiobjcaaK13
namespace Go.Proofs.Ytbgnmapmiobjcaa
open Go.RowKit
set_option linter.unusedSimpArgs false
set_option linter.unusedVariables false
set_option maxRecDepth 100000
attribute [local irreducible] cC sC nC rC qw

theorem gr_SameReply (c1 n1 c2 n2 : Int) (a1 a2 : Option Addr) (p1 p2 : Nat) (xs ys : List Int) (w : World) (hx : IntsAt (At w) a1 xs) (hy : IntsAt (At w) a2 ys) (hb : xs.length ≤ 9223372036854775807) : Gives Try.prog 45 [.agg (repC c1 n1 (.slice a1 xs.length p1)), .agg (repC c2 n2 (.slice a2 ys.length p2))] w (.bool (sameRB c1 n1 xs c2 n2 ys)) := by
  refine gives_of Try.func45 rfl Try.ntmps45 (by simp) ?_
  refine r_seq (by kernel_rfl) ?_
  refine s_box (v := .agg _) rfl (fun b2 => ?_)
  refine s_box (v := .agg _) rfl (fun b3 => ?_)
  refine s_val (v_assign (v := .bool _) rfl) ?_
  refine s_nil ?_
  refine c_seq ?_
  refine r_seq (by kernel_rfl) ?_
  refine s_val (v_field (fo := 0) (by kernel_rfl) rfl) ?_
  refine s_val (v_load1 (v := .int .i64 _) (by kernel_rfl) rfl (.there .here) rfl) ?_
  refine s_val (v_field (fo := 0) (by kernel_rfl) rfl) ?_
  refine s_val (v_load1 (v := .int .i64 _) (by kernel_rfl) rfl .here rfl) ?_
  refine s_val (v_neq (k := .i64) rfl rfl) ?_
  refine s_val (v_move (v := .bool _) rfl) ?_
  refine s_splitN (s := 11) rfl (fun h11 => ?_) (fun h11 => ?_)
  · refine s_pass rfl rfl (congrArg not h11) ?_
    refine s_pass rfl rfl (congrArg not h11) ?_
    refine s_pass rfl rfl (congrArg not h11) ?_
    refine s_pass rfl rfl (congrArg not h11) ?_
    refine s_pass rfl rfl (congrArg not h11) ?_
    refine s_val (v_pickT (v := .bool _) rfl (congrArg not h11) rfl) ?_
    refine s_val (v_move (v := .bool _) rfl) ?_
    refine s_pass (g := true) rfl rfl rfl ?_
    refine s_pass (g := true) rfl rfl rfl ?_
    refine s_pass (g := true) rfl rfl rfl ?_
    refine s_pass (g := true) rfl rfl rfl ?_
    refine s_pass (g := true) rfl rfl rfl ?_
    refine s_pass (g := true) rfl rfl rfl ?_
    refine s_pass (g := true) rfl rfl rfl ?_
    refine s_val (v_pickT (v := .bool _) rfl rfl rfl) ?_
    refine s_nil ?_
    refine c_condTh rfl rfl rfl ?_
    refine r_seq (by kernel_rfl) ?_
    refine s_val (v_assign (v := .bool _) rfl) ?_
    refine s_nil ?_
    refine c_ret ?_
    refine n_ret ?_
    refine n_done rfl (by decide) (Eq.trans (b := .bool _) rfl (congrArg Value.bool ?_))
    simp only [sameRB, *, Bool.true_and, Bool.false_and, Bool.and_true, Bool.and_false, Bool.not_true, Bool.not_false, Bool.true_or, Bool.or_true, Bool.false_or, Bool.or_false, cond_true, cond_false, if_true, if_false, Bool.false_eq_true, decide_true, decide_false]
  refine s_want rfl rfl (congrArg not h11) ?_
  refine s_val (v_field (fo := 1) (by kernel_rfl) rfl) ?_
  refine s_want rfl rfl (congrArg not h11) ?_
  refine s_val (v_load1 (v := .int .i64 _) (by kernel_rfl) rfl (.there .here) rfl) ?_
  refine s_want rfl rfl (congrArg not h11) ?_
  refine s_val (v_field (fo := 1) (by kernel_rfl) rfl) ?_
  refine s_want rfl rfl (congrArg not h11) ?_
  refine s_val (v_load1 (v := .int .i64 _) (by kernel_rfl) rfl .here rfl) ?_
  refine s_want rfl rfl (congrArg not h11) ?_
  refine s_val (v_neq (k := .i64) rfl rfl) ?_
  refine s_val (v_pickF (v := .bool _) rfl (congrArg not h11) rfl) ?_
  refine s_val (v_move (v := .bool _) rfl) ?_
  refine s_splitN (s := 18) rfl (fun h18 => ?_) (fun h18 => ?_)
  · refine s_pass rfl rfl (congrArg not h18) ?_
    refine s_pass rfl rfl (congrArg not h18) ?_
    refine s_pass rfl rfl (congrArg not h18) ?_
    refine s_pass rfl rfl (congrArg not h18) ?_
    refine s_pass rfl rfl (congrArg not h18) ?_
    refine s_pass rfl rfl (congrArg not h18) ?_
    refine s_pass rfl rfl (congrArg not h18) ?_
    refine s_val (v_pickT (v := .bool _) rfl (congrArg not h18) rfl) ?_
    refine s_nil ?_
    refine c_condTh rfl rfl rfl ?_
    refine r_seq (by kernel_rfl) ?_
    refine s_val (v_assign (v := .bool _) rfl) ?_
    refine s_nil ?_
    refine c_ret ?_
    refine n_ret ?_
    refine n_done rfl (by decide) (Eq.trans (b := .bool _) rfl (congrArg Value.bool ?_))
    simp only [sameRB, *, Bool.true_and, Bool.false_and, Bool.and_true, Bool.and_false, Bool.not_true, Bool.not_false, Bool.true_or, Bool.or_true, Bool.false_or, Bool.or_false, cond_true, cond_false, if_true, if_false, Bool.false_eq_true, decide_true, decide_false]
  refine s_want rfl rfl (congrArg not h18) ?_
  refine s_val (v_field (fo := 2) (by kernel_rfl) rfl) ?_
  refine s_want rfl rfl (congrArg not h18) ?_
  refine s_val (v_load1 (v := .slice _ _ _) (by kernel_rfl) rfl (.there .here) rfl) ?_
  refine s_want rfl rfl (congrArg not h18) ?_
  refine s_val (v_lenS (T := 43) (m := 1) (by kernel_rfl) rfl rfl) ?_
  refine s_want rfl rfl (congrArg not h18) ?_
  refine s_val (v_field (fo := 2) (by kernel_rfl) rfl) ?_
  refine s_want rfl rfl (congrArg not h18) ?_
  refine s_val (v_load1 (v := .slice _ _ _) (by kernel_rfl) rfl .here rfl) ?_
  refine s_want rfl rfl (congrArg not h18) ?_
  refine s_val (v_lenS (T := 43) (m := 1) (by kernel_rfl) rfl rfl) ?_
  refine s_want rfl rfl (congrArg not h18) ?_
  refine s_val (v_neq (k := .i64) rfl rfl) ?_
  refine s_val (v_pickF (v := .bool _) rfl (congrArg not h18) rfl) ?_
  refine s_nil ?_
  refine c_condN rfl rfl (fun h26 => ?_) (fun h26 => ?_)
  · refine r_seq (by kernel_rfl) ?_
    refine s_val (v_assign (v := .bool _) rfl) ?_
    refine s_nil ?_
    refine c_ret ?_
    refine n_ret ?_
    refine n_done rfl (by decide) (Eq.trans (b := .bool _) rfl (congrArg Value.bool ?_))
    have e := ints_len (of_decide_eq_false h26)
    simp only [sameRB, *, Bool.true_and, Bool.false_and, Bool.and_true, Bool.and_false, Bool.not_true, Bool.not_false, Bool.true_or, Bool.or_true, Bool.false_or, Bool.or_false, cond_true, cond_false, if_true, if_false, Bool.false_eq_true, decide_true, decide_false]
  refine c_skip ?_
  refine n_then ?_
  refine c_seq ?_
  refine r_seq (by kernel_rfl) ?_
  refine s_val (v_field (fo := 2) (by kernel_rfl) rfl) ?_
  refine s_val (v_load1 (v := .slice _ _ _) (by kernel_rfl) rfl (.there .here) rfl) ?_
  refine s_val (v_lenS (T := 43) (m := 1) (by kernel_rfl) rfl rfl) ?_
  refine s_val (v_move (v := .int .i64 _) rfl) ?_
  refine s_nil ?_
  refine c_block ?_
  refine c_loop (σ := Nat) (fun (j : Nat) f => ∃ g, (j ≤ xs.length ∧ xs.take j = ys.take j) ∧ f = (upd (upd (upd (upd g 2 (.pointer (some ⟨b2, 0, none⟩))) 3 (.pointer (some ⟨b3, 0, none⟩))) 29 (I xs.length)) 30 (I j))) (fun (j : Nat) => Has w (At w) [(b3, .cells (repC c2 n2 (.slice a2 ys.length p2)) 59), (b2, .cells (repC c1 n1 (.slice a1 xs.length p1)) 59)]) (fun (j : Nat) => xs.length - j) 0 ⟨_, ⟨Nat.zero_le _, rfl⟩, live4 rfl rfl rfl rfl⟩ (fun w hw => hw) ?_
  rintro j _ ⟨g, ⟨hjl, hinv⟩, rfl⟩
  refine r_seq (by kernel_rfl) ?_
  refine s_val (v_lss (k := .i64) rfl rfl) ?_
  refine s_nil ?_
  refine c_seq ?_
  refine c_condR rfl rfl (fun h31 => ?_) (fun h31 => ?_)
  · refine c_exit ?_
    refine n_exit ?_
    refine n_exit ?_
    refine n_bhere ?_
    refine n_then ?_
    refine r_seq (by kernel_rfl) ?_
    refine s_val (v_assign (v := .bool _) rfl) ?_
    refine s_nil ?_
    refine c_ret ?_
    refine n_done rfl (by decide) (Eq.trans (b := .bool _) rfl (congrArg Value.bool ?_))
    have e := ints_all (of_decide_eq_true h26) hinv (of_decide_eq_false h31)
    simp only [sameRB, *, Bool.true_and, Bool.false_and, Bool.and_true, Bool.and_false, Bool.not_true, Bool.not_false, Bool.true_or, Bool.or_true, Bool.false_or, Bool.or_false, cond_true, cond_false, if_true, if_false, Bool.false_eq_true, decide_true, decide_false]
  have hj0 := of_decide_eq_true h31
  have hll := of_decide_eq_true h26
  obtain ⟨b, o, x, ha1, hxj, hfx⟩ := hx.get (j := j) (by omega)
  obtain ⟨b', o', y, ha2, hyj, hfy⟩ := hy.get (j := j) (by omega)
  refine c_skip ?_
  refine n_then ?_
  refine c_seq ?_
  refine c_block ?_
  refine r_seq (by kernel_rfl) ?_
  refine s_val (v_move (v := .int .i64 _) rfl) ?_
  refine s_val (v_assign (v := .int .i64 _) rfl) ?_
  refine s_nil ?_
  refine d_seq (by kernel_rfl) (by kernel_rfl) (fun w hw => hw.drew) (by kernel_rfl) ?_
  refine q_val (v_field (fo := 2) (by kernel_rfl) rfl) ?_
  refine q_val (v_load1 (v := .slice _ _ _) (by kernel_rfl) rfl (.there .here) rfl) ?_
  refine q_val (v_move (v := .int .i64 _) rfl) ?_
  refine q_val (v_idxS (size := 1) (k := .i64) (by kernel_rfl) (congrArg (fun a => Value.slice a xs.length p1) ha1) rfl ⟨by omega, by omega⟩) ?_
  refine q_val (v_load1o (v := I x) (by kernel_rfl) rfl (by simpa using hfx)) ?_
  refine q_val (v_field (fo := 2) (by kernel_rfl) rfl) ?_
  refine q_val (v_load1 (v := .slice _ _ _) (by kernel_rfl) rfl .here rfl) ?_
  refine q_val (v_move (v := .int .i64 _) rfl) ?_
  refine q_val (v_idxS (size := 1) (k := .i64) (by kernel_rfl) (congrArg (fun a => Value.slice a ys.length p2) ha2) rfl ⟨by omega, by omega⟩) ?_
  refine q_val (v_load1o (v := I y) (by kernel_rfl) rfl (by simpa using hfy)) ?_
  refine q_val (v_neq (k := .i64) rfl rfl) ?_
  refine q_nil ?_
  refine c_condNR rfl rfl (fun h43 => ?_) (fun h43 => ?_)
  · refine c_skip ?_
    refine n_bnormal ?_
    refine n_then ?_
    refine r_list (by kernel_rfl) ?_
    refine s_val (v_add rfl rfl (by omega)) ?_
    refine s_val (v_move (v := .int .i64 _) rfl) ?_
    refine s_end ?_
    refine n_round (j + 1) ⟨_, ⟨by omega, same_take hinv hxj hyj (of_decide_eq_true h43)⟩, live4 rfl rfl rfl rfl⟩ (fun _ hw => hw) (by omega)
  refine r_seq (by kernel_rfl) ?_
  refine s_val (v_assign (v := .bool _) rfl) ?_
  refine s_nil ?_
  refine c_ret ?_
  refine n_bret ?_
  refine n_ret ?_
  refine n_ret ?_
  refine n_bret ?_
  refine n_ret ?_
  refine n_done rfl (by decide) (Eq.trans (b := .bool _) rfl (congrArg Value.bool ?_))
  have e := ints_bad hxj hyj (of_decide_eq_false h43)
  simp only [sameRB, *, Bool.true_and, Bool.false_and, Bool.and_true, Bool.and_false, Bool.not_true, Bool.not_false, Bool.true_or, Bool.or_true, Bool.false_or, Bool.or_false, cond_true, cond_false, if_true, if_false, Bool.false_eq_true, decide_true, decide_false]

theorem gr_SameInts (a1 a2 : Option Addr) (p1 p2 : Nat) (xs ys : List Int) (w : World) (hx : IntsAt (At w) a1 xs) (hy : IntsAt (At w) a2 ys) (hb : xs.length ≤ 9223372036854775807) : Gives Try.prog 27 [.slice a1 xs.length p1, .slice a2 ys.length p2] w (.bool (decide (xs = ys))) := by
  refine gives_of Try.func27 rfl Try.ntmps27 (by simp) ?_
  refine r_seq (by kernel_rfl) ?_
  refine s_val (v_assign (v := .bool _) rfl) ?_
  refine s_nil ?_
  refine r_seq (by kernel_rfl) ?_
  refine s_val (v_move (v := .slice _ _ _) rfl) ?_
  refine s_val (v_build (vs := [(2, .slice _ _ _)]) (cs := repC 0 0 (.slice a1 xs.length p1)) rfl (by kernel_rfl)) ?_
  refine s_val (v_move (v := .slice _ _ _) rfl) ?_
  refine s_val (v_build (vs := [(2, .slice _ _ _)]) (cs := repC 0 0 (.slice a2 ys.length p2)) rfl (by kernel_rfl)) ?_
  refine s_call (by kernel_rfl) (fun w hw => gr_SameReply 0 0 0 0 _ _ _ _ _ _ w (hx.at hw) (hy.at hw) hb) ?_
  refine s_val (v_assign (v := .bool _) rfl) ?_
  refine s_nil ?_
  refine c_ret ?_
  refine n_done rfl (by decide) (Eq.trans (b := .bool _) rfl (congrArg Value.bool ?_))
  simp [sameRB]

end Go.Proofs.Ytbgnmapmiobjcaa
