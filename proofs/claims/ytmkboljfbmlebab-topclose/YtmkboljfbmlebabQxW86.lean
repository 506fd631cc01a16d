/- Contracts of what is alike. Condition: a bank that keeps its contracts. -/
import Derived.Test.YtmkboljfbmlebabQ13
import Derived.Test.YtmkboljfbmlebabQxW80
namespace Go.Proofs.Ytmkboljfbmlebab
open Go.RowKit
set_option linter.unusedSimpArgs false
set_option linter.unusedVariables false
set_option maxRecDepth 100000
attribute [local irreducible] cC sC nC rC qw
theorem gt_sameHouse (h : H) (ps : List PayS) (k : H) (qs : List PayS) (w : World) (hp : PaysIn (At w) h.pa h.pl ps) (hq : PaysIn (At w) k.pa k.pl qs) (hb : h.pl ≤ 9223372036854775807) : Gives Try.prog 33 [.agg h.cells, .agg k.cells] w (.bool (sameB h ps k qs)) := by
 refine gives_of Try.func33 rfl Try.ntmps33 (by simp) ?_
 refine r_seq (by kernel_rfl) ?_
 refine s_box (v := .agg _) rfl (fun b2 => ?_)
 refine s_box (v := .agg _) rfl (fun b3 => ?_)
 refine s_val (v_assign (v := .bool _) rfl) ?_
 refine s_nil ?_
 refine c_seq ?_
 refine r_seq (by kernel_rfl) ?_
 refine s_val (v_field (fo := 0) (by kernel_rfl) rfl) ?_
 refine s_val (v_loadN (m := 8) (cs' := accA _ _) (by kernel_rfl) rfl (.there .here) (accA_size _ _) (H.ex_acc _)) ?_
 refine s_val (v_field (fo := 0) (by kernel_rfl) rfl) ?_
 refine s_val (v_loadN (m := 8) (cs' := accA _ _) (by kernel_rfl) rfl .here (accA_size _ _) (H.ex_acc _)) ?_
 refine s_val (v_neqFlat (n := 8) _ _ (by kernel_rfl) rfl rfl (accA_list _ _) (accA_list _ _) rfl rfl) ?_
 refine s_val (v_move (v := .bool _) rfl) ?_
 refine s_splitN (s := 11) rfl (fun h11 => ?_) (fun h11 => ?_)
 · refine s_pass rfl rfl (congrArg not h11) ?_
   refine s_pass rfl rfl (congrArg not h11) ?_
   refine s_pass rfl rfl (congrArg not h11) ?_
   refine s_pass rfl rfl (congrArg not h11) ?_
   refine s_pass rfl rfl (congrArg not h11) ?_
   refine s_val (v_pickT (v := .bool _) rfl (congrArg not h11) rfl) ?_
   refine s_val (v_move (v := .bool _) rfl) ?_
   refine s_pass (g := true) rfl rfl rfl ?_
   refine s_pass (g := true) rfl rfl rfl ?_
   refine s_pass (g := true) rfl rfl rfl ?_
   refine s_pass (g := true) rfl rfl rfl ?_
   refine s_pass (g := true) rfl rfl rfl ?_
   refine s_val (v_pickT (v := .bool _) rfl rfl rfl) ?_
   refine s_val (v_move (v := .bool _) rfl) ?_
   refine s_pass (g := true) rfl rfl rfl ?_
   refine s_pass (g := true) rfl rfl rfl ?_
   refine s_pass (g := true) rfl rfl rfl ?_
   refine s_pass (g := true) rfl rfl rfl ?_
   refine s_pass (g := true) rfl rfl rfl ?_
   refine s_val (v_pickT (v := .bool _) rfl rfl rfl) ?_
   refine s_val (v_move (v := .bool _) rfl) ?_
   refine s_pass (g := true) rfl rfl rfl ?_
   refine s_pass (g := true) rfl rfl rfl ?_
   refine s_pass (g := true) rfl rfl rfl ?_
   refine s_pass (g := true) rfl rfl rfl ?_
   refine s_pass (g := true) rfl rfl rfl ?_
   refine s_pass (g := true) rfl rfl rfl ?_
   refine s_pass (g := true) rfl rfl rfl ?_
   refine s_val (v_pickT (v := .bool _) rfl rfl rfl) ?_
   refine s_nil ?_
   refine c_condTh rfl rfl rfl ?_
   refine r_seq (by kernel_rfl) ?_
   refine s_val (v_assign (v := .bool _) rfl) ?_
   refine s_nil ?_
   refine c_ret ?_
   refine n_ret ?_
   refine n_done rfl (by decide) (Eq.trans (b := .bool _) rfl (congrArg Value.bool ?_))
   first | (have e := same_all hp.1 hq.1 h40 h45 hinv; simp only [sameB, *, Bool.true_and, Bool.false_and, Bool.and_true, Bool.and_false, Bool.not_true, Bool.not_false, Bool.true_or, Bool.or_true, Bool.false_or, Bool.or_false, cond_true, cond_false, if_true, if_false, Bool.false_eq_true, decide_true, decide_false]; done) | (have e := same_bad (F := At w) (h := h) (k := k) hpk hqk h57; simp only [sameB, *, Bool.true_and, Bool.false_and, Bool.and_true, Bool.and_false, Bool.not_true, Bool.not_false, Bool.true_or, Bool.or_true, Bool.false_or, Bool.or_false, cond_true, cond_false, if_true, if_false, Bool.false_eq_true, decide_true, decide_false]; done) | (simp only [sameB, *, Bool.true_and, Bool.false_and, Bool.and_true, Bool.and_false, Bool.not_true, Bool.not_false, Bool.true_or, Bool.or_true, Bool.false_or, Bool.or_false, cond_true, cond_false, if_true, if_false, Bool.false_eq_true, decide_true, decide_false]; done)
 refine s_want rfl rfl (congrArg not h11) ?_
 refine s_val (v_field (fo := 8) (by kernel_rfl) rfl) ?_
 refine s_want rfl rfl (congrArg not h11) ?_
 refine s_val (v_loadN (m := 16) (cs' := matA _) (by kernel_rfl) rfl (.there .here) (matA_size _) (H.ex_sent _)) ?_
 refine s_want rfl rfl (congrArg not h11) ?_
 refine s_val (v_field (fo := 8) (by kernel_rfl) rfl) ?_
 refine s_want rfl rfl (congrArg not h11) ?_
 refine s_val (v_loadN (m := 16) (cs' := matA _) (by kernel_rfl) rfl .here (matA_size _) (H.ex_sent _)) ?_
 refine s_want rfl rfl (congrArg not h11) ?_
 refine s_val (v_neqFlat (n := 16) _ _ (by kernel_rfl) rfl rfl (matA_list _) (matA_list _) rfl rfl) ?_
 refine s_val (v_pickF (v := .bool _) rfl (congrArg not h11) rfl) ?_
 refine s_val (v_move (v := .bool _) rfl) ?_
 refine s_splitN (s := 18) rfl (fun h18 => ?_) (fun h18 => ?_)
 · refine s_pass rfl rfl (congrArg not h18) ?_
   refine s_pass rfl rfl (congrArg not h18) ?_
   refine s_pass rfl rfl (congrArg not h18) ?_
   refine s_pass rfl rfl (congrArg not h18) ?_
   refine s_pass rfl rfl (congrArg not h18) ?_
   refine s_val (v_pickT (v := .bool _) rfl (congrArg not h18) rfl) ?_
   refine s_val (v_move (v := .bool _) rfl) ?_
   refine s_pass (g := true) rfl rfl rfl ?_
   refine s_pass (g := true) rfl rfl rfl ?_
   refine s_pass (g := true) rfl rfl rfl ?_
   refine s_pass (g := true) rfl rfl rfl ?_
   refine s_pass (g := true) rfl rfl rfl ?_
   refine s_val (v_pickT (v := .bool _) rfl rfl rfl) ?_
   refine s_val (v_move (v := .bool _) rfl) ?_
   refine s_pass (g := true) rfl rfl rfl ?_
   refine s_pass (g := true) rfl rfl rfl ?_
   refine s_pass (g := true) rfl rfl rfl ?_
   refine s_pass (g := true) rfl rfl rfl ?_
   refine s_pass (g := true) rfl rfl rfl ?_
   refine s_pass (g := true) rfl rfl rfl ?_
   refine s_pass (g := true) rfl rfl rfl ?_
   refine s_val (v_pickT (v := .bool _) rfl rfl rfl) ?_
   refine s_nil ?_
   refine c_condTh rfl rfl rfl ?_
   refine r_seq (by kernel_rfl) ?_
   refine s_val (v_assign (v := .bool _) rfl) ?_
   refine s_nil ?_
   refine c_ret ?_
   refine n_ret ?_
   refine n_done rfl (by decide) (Eq.trans (b := .bool _) rfl (congrArg Value.bool ?_))
   first | (have e := same_all hp.1 hq.1 h40 h45 hinv; simp only [sameB, *, Bool.true_and, Bool.false_and, Bool.and_true, Bool.and_false, Bool.not_true, Bool.not_false, Bool.true_or, Bool.or_true, Bool.false_or, Bool.or_false, cond_true, cond_false, if_true, if_false, Bool.false_eq_true, decide_true, decide_false]; done) | (have e := same_bad (F := At w) (h := h) (k := k) hpk hqk h57; simp only [sameB, *, Bool.true_and, Bool.false_and, Bool.and_true, Bool.and_false, Bool.not_true, Bool.not_false, Bool.true_or, Bool.or_true, Bool.false_or, Bool.or_false, cond_true, cond_false, if_true, if_false, Bool.false_eq_true, decide_true, decide_false]; done) | (simp only [sameB, *, Bool.true_and, Bool.false_and, Bool.and_true, Bool.and_false, Bool.not_true, Bool.not_false, Bool.true_or, Bool.or_true, Bool.false_or, Bool.or_false, cond_true, cond_false, if_true, if_false, Bool.false_eq_true, decide_true, decide_false]; done)
 refine s_want rfl rfl (congrArg not h18) ?_
 refine s_val (v_field (fo := 24) (by kernel_rfl) rfl) ?_
 refine s_want rfl rfl (congrArg not h18) ?_
 refine s_val (v_loadN (m := 16) (cs' := matA _) (by kernel_rfl) rfl (.there .here) (matA_size _) (H.ex_lim _)) ?_
 refine s_want rfl rfl (congrArg not h18) ?_
 refine s_val (v_field (fo := 24) (by kernel_rfl) rfl) ?_
 refine s_want rfl rfl (congrArg not h18) ?_
 refine s_val (v_loadN (m := 16) (cs' := matA _) (by kernel_rfl) rfl .here (matA_size _) (H.ex_lim _)) ?_
 refine s_want rfl rfl (congrArg not h18) ?_
 refine s_val (v_neqFlat (n := 16) _ _ (by kernel_rfl) rfl rfl (matA_list _) (matA_list _) rfl rfl) ?_
 refine s_val (v_pickF (v := .bool _) rfl (congrArg not h18) rfl) ?_
 refine s_val (v_move (v := .bool _) rfl) ?_
 refine s_splitN (s := 25) rfl (fun h25 => ?_) (fun h25 => ?_)
 · refine s_pass rfl rfl (congrArg not h25) ?_
   refine s_pass rfl rfl (congrArg not h25) ?_
   refine s_pass rfl rfl (congrArg not h25) ?_
   refine s_pass rfl rfl (congrArg not h25) ?_
   refine s_pass rfl rfl (congrArg not h25) ?_
   refine s_val (v_pickT (v := .bool _) rfl (congrArg not h25) rfl) ?_
   refine s_val (v_move (v := .bool _) rfl) ?_
   refine s_pass (g := true) rfl rfl rfl ?_
   refine s_pass (g := true) rfl rfl rfl ?_
   refine s_pass (g := true) rfl rfl rfl ?_
   refine s_pass (g := true) rfl rfl rfl ?_
   refine s_pass (g := true) rfl rfl rfl ?_
   refine s_pass (g := true) rfl rfl rfl ?_
   refine s_pass (g := true) rfl rfl rfl ?_
   refine s_val (v_pickT (v := .bool _) rfl rfl rfl) ?_
   refine s_nil ?_
   refine c_condTh rfl rfl rfl ?_
   refine r_seq (by kernel_rfl) ?_
   refine s_val (v_assign (v := .bool _) rfl) ?_
   refine s_nil ?_
   refine c_ret ?_
   refine n_ret ?_
   refine n_done rfl (by decide) (Eq.trans (b := .bool _) rfl (congrArg Value.bool ?_))
   first | (have e := same_all hp.1 hq.1 h40 h45 hinv; simp only [sameB, *, Bool.true_and, Bool.false_and, Bool.and_true, Bool.and_false, Bool.not_true, Bool.not_false, Bool.true_or, Bool.or_true, Bool.false_or, Bool.or_false, cond_true, cond_false, if_true, if_false, Bool.false_eq_true, decide_true, decide_false]; done) | (have e := same_bad (F := At w) (h := h) (k := k) hpk hqk h57; simp only [sameB, *, Bool.true_and, Bool.false_and, Bool.and_true, Bool.and_false, Bool.not_true, Bool.not_false, Bool.true_or, Bool.or_true, Bool.false_or, Bool.or_false, cond_true, cond_false, if_true, if_false, Bool.false_eq_true, decide_true, decide_false]; done) | (simp only [sameB, *, Bool.true_and, Bool.false_and, Bool.and_true, Bool.and_false, Bool.not_true, Bool.not_false, Bool.true_or, Bool.or_true, Bool.false_or, Bool.or_false, cond_true, cond_false, if_true, if_false, Bool.false_eq_true, decide_true, decide_false]; done)
 refine s_want rfl rfl (congrArg not h25) ?_
 refine s_val (v_field (fo := 41) (by kernel_rfl) rfl) ?_
 refine s_want rfl rfl (congrArg not h25) ?_
 refine s_val (v_load1 (v := .int .i64 _) (by kernel_rfl) rfl (.there .here) (H.at_next _)) ?_
 refine s_want rfl rfl (congrArg not h25) ?_
 refine s_val (v_field (fo := 41) (by kernel_rfl) rfl) ?_
 refine s_want rfl rfl (congrArg not h25) ?_
 refine s_val (v_load1 (v := .int .i64 _) (by kernel_rfl) rfl .here (H.at_next _)) ?_
 refine s_want rfl rfl (congrArg not h25) ?_
 refine s_val (v_neq (k := .i64) rfl rfl) ?_
 refine s_val (v_pickF (v := .bool _) rfl (congrArg not h25) rfl) ?_
 refine s_val (v_move (v := .bool _) rfl) ?_
 refine s_splitN (s := 32) rfl (fun h32 => ?_) (fun h32 => ?_)
 · refine s_pass rfl rfl (congrArg not h32) ?_
   refine s_pass rfl rfl (congrArg not h32) ?_
   refine s_pass rfl rfl (congrArg not h32) ?_
   refine s_pass rfl rfl (congrArg not h32) ?_
   refine s_pass rfl rfl (congrArg not h32) ?_
   refine s_pass rfl rfl (congrArg not h32) ?_
   refine s_pass rfl rfl (congrArg not h32) ?_
   refine s_val (v_pickT (v := .bool _) rfl (congrArg not h32) rfl) ?_
   refine s_nil ?_
   refine c_condTh rfl rfl rfl ?_
   refine r_seq (by kernel_rfl) ?_
   refine s_val (v_assign (v := .bool _) rfl) ?_
   refine s_nil ?_
   refine c_ret ?_
   refine n_ret ?_
   refine n_done rfl (by decide) (Eq.trans (b := .bool _) rfl (congrArg Value.bool ?_))
   first | (have e := same_all hp.1 hq.1 h40 h45 hinv; simp only [sameB, *, Bool.true_and, Bool.false_and, Bool.and_true, Bool.and_false, Bool.not_true, Bool.not_false, Bool.true_or, Bool.or_true, Bool.false_or, Bool.or_false, cond_true, cond_false, if_true, if_false, Bool.false_eq_true, decide_true, decide_false]; done) | (have e := same_bad (F := At w) (h := h) (k := k) hpk hqk h57; simp only [sameB, *, Bool.true_and, Bool.false_and, Bool.and_true, Bool.and_false, Bool.not_true, Bool.not_false, Bool.true_or, Bool.or_true, Bool.false_or, Bool.or_false, cond_true, cond_false, if_true, if_false, Bool.false_eq_true, decide_true, decide_false]; done) | (simp only [sameB, *, Bool.true_and, Bool.false_and, Bool.and_true, Bool.and_false, Bool.not_true, Bool.not_false, Bool.true_or, Bool.or_true, Bool.false_or, Bool.or_false, cond_true, cond_false, if_true, if_false, Bool.false_eq_true, decide_true, decide_false]; done)
 refine s_want rfl rfl (congrArg not h32) ?_
 refine s_val (v_field (fo := 40) (by kernel_rfl) rfl) ?_
 refine s_want rfl rfl (congrArg not h32) ?_
 refine s_val (v_load1 (v := .slice _ _ _) (by kernel_rfl) rfl (.there .here) (H.at_pays _)) ?_
 refine s_want rfl rfl (congrArg not h32) ?_
 refine s_val (v_lenS (T := 39) (m := 6) (by kernel_rfl) rfl rfl) ?_
 refine s_want rfl rfl (congrArg not h32) ?_
 refine s_val (v_field (fo := 40) (by kernel_rfl) rfl) ?_
 refine s_want rfl rfl (congrArg not h32) ?_
 refine s_val (v_load1 (v := .slice _ _ _) (by kernel_rfl) rfl .here (H.at_pays _)) ?_
 refine s_want rfl rfl (congrArg not h32) ?_
 refine s_val (v_lenS (T := 39) (m := 6) (by kernel_rfl) rfl rfl) ?_
 refine s_want rfl rfl (congrArg not h32) ?_
 refine s_val (v_neq (k := .i64) rfl rfl) ?_
 refine s_val (v_pickF (v := .bool _) rfl (congrArg not h32) rfl) ?_
 refine s_nil ?_
 refine c_condN rfl rfl (fun h40 => ?_) (fun h40 => ?_)
 · refine r_seq (by kernel_rfl) ?_
   refine s_val (v_assign (v := .bool _) rfl) ?_
   refine s_nil ?_
   refine c_ret ?_
   refine n_ret ?_
   refine n_done rfl (by decide) (Eq.trans (b := .bool _) rfl (congrArg Value.bool ?_))
   first | (have e := same_all hp.1 hq.1 h40 h45 hinv; simp only [sameB, *, Bool.true_and, Bool.false_and, Bool.and_true, Bool.and_false, Bool.not_true, Bool.not_false, Bool.true_or, Bool.or_true, Bool.false_or, Bool.or_false, cond_true, cond_false, if_true, if_false, Bool.false_eq_true, decide_true, decide_false]; done) | (have e := same_bad (F := At w) (h := h) (k := k) hpk hqk h57; simp only [sameB, *, Bool.true_and, Bool.false_and, Bool.and_true, Bool.and_false, Bool.not_true, Bool.not_false, Bool.true_or, Bool.or_true, Bool.false_or, Bool.or_false, cond_true, cond_false, if_true, if_false, Bool.false_eq_true, decide_true, decide_false]; done) | (simp only [sameB, *, Bool.true_and, Bool.false_and, Bool.and_true, Bool.and_false, Bool.not_true, Bool.not_false, Bool.true_or, Bool.or_true, Bool.false_or, Bool.or_false, cond_true, cond_false, if_true, if_false, Bool.false_eq_true, decide_true, decide_false]; done)
 refine c_skip ?_
 refine n_then ?_
 refine c_seq ?_
 have hee := of_decide_eq_true h40
 refine r_seq (by kernel_rfl) ?_
 refine s_val (v_field (fo := 40) (by kernel_rfl) rfl) ?_
 refine s_val (v_load1 (v := .slice _ _ _) (by kernel_rfl) rfl (.there .here) (H.at_pays _)) ?_
 refine s_val (v_lenS (T := 39) (m := 6) (by kernel_rfl) rfl rfl) ?_
 refine s_val (v_move (v := .int .i64 _) rfl) ?_
 refine s_nil ?_
 refine c_block ?_
 refine c_loop (σ := Nat) (fun (j : Nat) f => ∃ g, (j ≤ h.pl ∧ (ps.take j).map PayS.list = (qs.take j).map PayS.list) ∧ f = (upd (upd (upd (upd g 2 (.pointer (some ⟨b2, 0, none⟩))) 3 (.pointer (some ⟨b3, 0, none⟩))) 43 (I h.pl)) 44 (I j))) (fun (j : Nat) => Has w (At w) [(b3, .cells k.cells 41), (b2, .cells h.cells 41)]) (fun (j : Nat) => h.pl - j) 0 ⟨_, ⟨Nat.zero_le _, rfl⟩, live4 rfl rfl rfl rfl⟩ (fun w hw => hw) ?_
 rintro j _ ⟨g, ⟨hjl, hinv⟩, rfl⟩
 refine r_seq (by kernel_rfl) ?_
 refine s_val (v_lss (k := .i64) rfl rfl) ?_
 refine s_nil ?_
 refine c_seq ?_
 refine c_condR rfl rfl (fun h45 => ?_) (fun h45 => ?_)
 · refine c_exit ?_
   refine n_exit ?_
   refine n_exit ?_
   refine n_bhere ?_
   refine n_then ?_
   refine r_seq (by kernel_rfl) ?_
   refine s_val (v_assign (v := .bool _) rfl) ?_
   refine s_nil ?_
   refine c_ret ?_
   refine n_done rfl (by decide) (Eq.trans (b := .bool _) rfl (congrArg Value.bool ?_))
   first | (have e := same_all hp.1 hq.1 h40 h45 hinv; simp only [sameB, *, Bool.true_and, Bool.false_and, Bool.and_true, Bool.and_false, Bool.not_true, Bool.not_false, Bool.true_or, Bool.or_true, Bool.false_or, Bool.or_false, cond_true, cond_false, if_true, if_false, Bool.false_eq_true, decide_true, decide_false]; done) | (have e := same_bad (F := At w) (h := h) (k := k) hpk hqk h57; simp only [sameB, *, Bool.true_and, Bool.false_and, Bool.and_true, Bool.and_false, Bool.not_true, Bool.not_false, Bool.true_or, Bool.or_true, Bool.false_or, Bool.or_false, cond_true, cond_false, if_true, if_false, Bool.false_eq_true, decide_true, decide_false]; done) | (simp only [sameB, *, Bool.true_and, Bool.false_and, Bool.and_true, Bool.and_false, Bool.not_true, Bool.not_false, Bool.true_or, Bool.or_true, Bool.false_or, Bool.or_false, cond_true, cond_false, if_true, if_false, Bool.false_eq_true, decide_true, decide_false]; done)
 have hj0 := of_decide_eq_true h45
 obtain ⟨p, hpk, hd, ht⟩ := hp.get (k := j) (by omega)
 obtain ⟨q, hqk, hd2, ht2⟩ := hq.get (k := j) (by omega)
 obtain ⟨b, o, hpa, hc⟩ := hp.some (k := j) (by omega)
 obtain ⟨b', o', hqa, hc'⟩ := hq.some (k := j) (by omega)
 refine c_skip ?_
 refine n_then ?_
 refine c_seq ?_
 refine c_block ?_
 refine r_seq (by kernel_rfl) ?_
 refine s_val (v_move (v := .int .i64 _) rfl) ?_
 refine s_val (v_assign (v := .int .i64 _) rfl) ?_
 refine s_nil ?_
 refine d_seq (by kernel_rfl) (by kernel_rfl) (fun w hw => hw.drew) (by kernel_rfl) ?_
 refine q_val (v_field (fo := 40) (by kernel_rfl) rfl) ?_
 refine q_val (v_load1 (v := .slice (some ⟨b, o, none⟩) _ _) (by kernel_rfl) rfl (.there .here) (by rw [H.at_pays, hpa])) ?_
 refine q_val (v_move (v := .int .i64 _) rfl) ?_
 refine q_val (v_idxS (size := 6) (k := .i64) (by kernel_rfl) rfl rfl ⟨by omega, by omega⟩) ?_
 refine q_val (v_loadNo (cs := p.cells) (m := 6) (by kernel_rfl) rfl rfl (hc j p hpk)) ?_
 refine q_val (v_field (fo := 40) (by kernel_rfl) rfl) ?_
 refine q_val (v_load1 (v := .slice (some ⟨b', o', none⟩) _ _) (by kernel_rfl) rfl .here (by rw [H.at_pays, hqa])) ?_
 refine q_val (v_move (v := .int .i64 _) rfl) ?_
 refine q_val (v_idxS (size := 6) (k := .i64) (by kernel_rfl) rfl rfl ⟨by omega, by omega⟩) ?_
 refine q_val (v_loadNo (cs := q.cells) (m := 6) (by kernel_rfl) rfl rfl (hc' j q hqk)) ?_
 refine q_val (v_neqFlat (n := 6) _ _ (by kernel_rfl) rfl rfl (PayS.cells_list _) (PayS.cells_list _) rfl rfl) ?_
 refine q_nil ?_
 refine c_condNR rfl rfl (fun h57 => ?_) (fun h57 => ?_)
 · refine c_skip ?_
   refine n_bnormal ?_
   refine n_then ?_
   refine r_list (by kernel_rfl) ?_
   refine s_val (v_add rfl rfl (by omega)) ?_
   refine s_val (v_move (v := .int .i64 _) rfl) ?_
   refine s_end ?_
   refine n_round (j + 1) ⟨_, ⟨by omega, same_step hinv ht ht2 h57⟩, live4 rfl rfl rfl rfl⟩ (fun _ hw => hw) (by omega)
 refine r_seq (by kernel_rfl) ?_
 refine s_val (v_assign (v := .bool _) rfl) ?_
 refine s_nil ?_
 refine c_ret ?_
 refine n_bret ?_
 refine n_ret ?_
 refine n_ret ?_
 refine n_bret ?_
 refine n_ret ?_
 refine n_done rfl (by decide) (Eq.trans (b := .bool _) rfl (congrArg Value.bool ?_))
 first | (have e := same_all hp.1 hq.1 h40 h45 hinv; simp only [sameB, *, Bool.true_and, Bool.false_and, Bool.and_true, Bool.and_false, Bool.not_true, Bool.not_false, Bool.true_or, Bool.or_true, Bool.false_or, Bool.or_false, cond_true, cond_false, if_true, if_false, Bool.false_eq_true, decide_true, decide_false]; done) | (have e := same_bad (F := At w) (h := h) (k := k) hpk hqk h57; simp only [sameB, *, Bool.true_and, Bool.false_and, Bool.and_true, Bool.and_false, Bool.not_true, Bool.not_false, Bool.true_or, Bool.or_true, Bool.false_or, Bool.or_false, cond_true, cond_false, if_true, if_false, Bool.false_eq_true, decide_true, decide_false]; done) | (simp only [sameB, *, Bool.true_and, Bool.false_and, Bool.and_true, Bool.and_false, Bool.not_true, Bool.not_false, Bool.true_or, Bool.or_true, Bool.false_or, Bool.or_false, cond_true, cond_false, if_true, if_false, Bool.false_eq_true, decide_true, decide_false]; done)
theorem gt_sameReply (c1 n1 c2 n2 : Int) (a1 a2 : Option Addr) (p1 p2 : Nat) (xs ys : List Int) (w : World) (hx : IntsAt (At w) a1 xs) (hy : IntsAt (At w) a2 ys) (hb : xs.length ≤ 9223372036854775807) : Gives Try.prog 39 [.agg (repC c1 n1 (.slice a1 xs.length p1)), .agg (repC c2 n2 (.slice a2 ys.length p2))] w (.bool (sameRB c1 n1 xs c2 n2 ys)) := by
 refine gives_of Try.func39 rfl Try.ntmps39 (by simp) ?_
 refine r_seq (by kernel_rfl) ?_
 refine s_box (v := .agg _) rfl (fun b2 => ?_)
 refine s_box (v := .agg _) rfl (fun b3 => ?_)
 refine s_val (v_assign (v := .bool _) rfl) ?_
 refine s_nil ?_
 refine c_seq ?_
 refine r_seq (by kernel_rfl) ?_
 refine s_val (v_field (fo := 0) (by kernel_rfl) rfl) ?_
 refine s_val (v_load1 (v := .int .i64 _) (by kernel_rfl) rfl (.there .here) rfl) ?_
 refine s_val (v_field (fo := 0) (by kernel_rfl) rfl) ?_
 refine s_val (v_load1 (v := .int .i64 _) (by kernel_rfl) rfl .here rfl) ?_
 refine s_val (v_neq (k := .i64) rfl rfl) ?_
 refine s_val (v_move (v := .bool _) rfl) ?_
 refine s_splitN (s := 11) rfl (fun h11 => ?_) (fun h11 => ?_)
 · refine s_pass rfl rfl (congrArg not h11) ?_
   refine s_pass rfl rfl (congrArg not h11) ?_
   refine s_pass rfl rfl (congrArg not h11) ?_
   refine s_pass rfl rfl (congrArg not h11) ?_
   refine s_pass rfl rfl (congrArg not h11) ?_
   refine s_val (v_pickT (v := .bool _) rfl (congrArg not h11) rfl) ?_
   refine s_val (v_move (v := .bool _) rfl) ?_
   refine s_pass (g := true) rfl rfl rfl ?_
   refine s_pass (g := true) rfl rfl rfl ?_
   refine s_pass (g := true) rfl rfl rfl ?_
   refine s_pass (g := true) rfl rfl rfl ?_
   refine s_pass (g := true) rfl rfl rfl ?_
   refine s_pass (g := true) rfl rfl rfl ?_
   refine s_pass (g := true) rfl rfl rfl ?_
   refine s_val (v_pickT (v := .bool _) rfl rfl rfl) ?_
   refine s_nil ?_
   refine c_condTh rfl rfl rfl ?_
   refine r_seq (by kernel_rfl) ?_
   refine s_val (v_assign (v := .bool _) rfl) ?_
   refine s_nil ?_
   refine c_ret ?_
   refine n_ret ?_
   refine n_done rfl (by decide) (Eq.trans (b := .bool _) rfl (congrArg Value.bool ?_))
   simp only [sameRB, *, Bool.true_and, Bool.false_and, Bool.and_true, Bool.and_false, Bool.not_true, Bool.not_false, Bool.true_or, Bool.or_true, Bool.false_or, Bool.or_false, cond_true, cond_false, if_true, if_false, Bool.false_eq_true, decide_true, decide_false]
 refine s_want rfl rfl (congrArg not h11) ?_
 refine s_val (v_field (fo := 1) (by kernel_rfl) rfl) ?_
 refine s_want rfl rfl (congrArg not h11) ?_
 refine s_val (v_load1 (v := .int .i64 _) (by kernel_rfl) rfl (.there .here) rfl) ?_
 refine s_want rfl rfl (congrArg not h11) ?_
 refine s_val (v_field (fo := 1) (by kernel_rfl) rfl) ?_
 refine s_want rfl rfl (congrArg not h11) ?_
 refine s_val (v_load1 (v := .int .i64 _) (by kernel_rfl) rfl .here rfl) ?_
 refine s_want rfl rfl (congrArg not h11) ?_
 refine s_val (v_neq (k := .i64) rfl rfl) ?_
 refine s_val (v_pickF (v := .bool _) rfl (congrArg not h11) rfl) ?_
 refine s_val (v_move (v := .bool _) rfl) ?_
 refine s_splitN (s := 18) rfl (fun h18 => ?_) (fun h18 => ?_)
 · refine s_pass rfl rfl (congrArg not h18) ?_
   refine s_pass rfl rfl (congrArg not h18) ?_
   refine s_pass rfl rfl (congrArg not h18) ?_
   refine s_pass rfl rfl (congrArg not h18) ?_
   refine s_pass rfl rfl (congrArg not h18) ?_
   refine s_pass rfl rfl (congrArg not h18) ?_
   refine s_pass rfl rfl (congrArg not h18) ?_
   refine s_val (v_pickT (v := .bool _) rfl (congrArg not h18) rfl) ?_
   refine s_nil ?_
   refine c_condTh rfl rfl rfl ?_
   refine r_seq (by kernel_rfl) ?_
   refine s_val (v_assign (v := .bool _) rfl) ?_
   refine s_nil ?_
   refine c_ret ?_
   refine n_ret ?_
   refine n_done rfl (by decide) (Eq.trans (b := .bool _) rfl (congrArg Value.bool ?_))
   simp only [sameRB, *, Bool.true_and, Bool.false_and, Bool.and_true, Bool.and_false, Bool.not_true, Bool.not_false, Bool.true_or, Bool.or_true, Bool.false_or, Bool.or_false, cond_true, cond_false, if_true, if_false, Bool.false_eq_true, decide_true, decide_false]
 refine s_want rfl rfl (congrArg not h18) ?_
 refine s_val (v_field (fo := 2) (by kernel_rfl) rfl) ?_
 refine s_want rfl rfl (congrArg not h18) ?_
 refine s_val (v_load1 (v := .slice _ _ _) (by kernel_rfl) rfl (.there .here) rfl) ?_
 refine s_want rfl rfl (congrArg not h18) ?_
 refine s_val (v_lenS (T := 29) (m := 1) (by kernel_rfl) rfl rfl) ?_
 refine s_want rfl rfl (congrArg not h18) ?_
 refine s_val (v_field (fo := 2) (by kernel_rfl) rfl) ?_
 refine s_want rfl rfl (congrArg not h18) ?_
 refine s_val (v_load1 (v := .slice _ _ _) (by kernel_rfl) rfl .here rfl) ?_
 refine s_want rfl rfl (congrArg not h18) ?_
 refine s_val (v_lenS (T := 29) (m := 1) (by kernel_rfl) rfl rfl) ?_
 refine s_want rfl rfl (congrArg not h18) ?_
 refine s_val (v_neq (k := .i64) rfl rfl) ?_
 refine s_val (v_pickF (v := .bool _) rfl (congrArg not h18) rfl) ?_
 refine s_nil ?_
 refine c_condN rfl rfl (fun h26 => ?_) (fun h26 => ?_)
 · refine r_seq (by kernel_rfl) ?_
   refine s_val (v_assign (v := .bool _) rfl) ?_
   refine s_nil ?_
   refine c_ret ?_
   refine n_ret ?_
   refine n_done rfl (by decide) (Eq.trans (b := .bool _) rfl (congrArg Value.bool ?_))
   have e := ints_len (of_decide_eq_false h26)
   simp only [sameRB, *, Bool.true_and, Bool.false_and, Bool.and_true, Bool.and_false, Bool.not_true, Bool.not_false, Bool.true_or, Bool.or_true, Bool.false_or, Bool.or_false, cond_true, cond_false, if_true, if_false, Bool.false_eq_true, decide_true, decide_false]
 refine c_skip ?_
 refine n_then ?_
 refine c_seq ?_
 refine r_seq (by kernel_rfl) ?_
 refine s_val (v_field (fo := 2) (by kernel_rfl) rfl) ?_
 refine s_val (v_load1 (v := .slice _ _ _) (by kernel_rfl) rfl (.there .here) rfl) ?_
 refine s_val (v_lenS (T := 29) (m := 1) (by kernel_rfl) rfl rfl) ?_
 refine s_val (v_move (v := .int .i64 _) rfl) ?_
 refine s_nil ?_
 refine c_block ?_
 refine c_loop (σ := Nat) (fun (j : Nat) f => ∃ g, (j ≤ xs.length ∧ xs.take j = ys.take j) ∧ f = (upd (upd (upd (upd g 2 (.pointer (some ⟨b2, 0, none⟩))) 3 (.pointer (some ⟨b3, 0, none⟩))) 29 (I xs.length)) 30 (I j))) (fun (j : Nat) => Has w (At w) [(b3, .cells (repC c2 n2 (.slice a2 ys.length p2)) 31), (b2, .cells (repC c1 n1 (.slice a1 xs.length p1)) 31)]) (fun (j : Nat) => xs.length - j) 0 ⟨_, ⟨Nat.zero_le _, rfl⟩, live4 rfl rfl rfl rfl⟩ (fun w hw => hw) ?_
 rintro j _ ⟨g, ⟨hjl, hinv⟩, rfl⟩
 refine r_seq (by kernel_rfl) ?_
 refine s_val (v_lss (k := .i64) rfl rfl) ?_
 refine s_nil ?_
 refine c_seq ?_
 refine c_condR rfl rfl (fun h31 => ?_) (fun h31 => ?_)
 · refine c_exit ?_
   refine n_exit ?_
   refine n_exit ?_
   refine n_bhere ?_
   refine n_then ?_
   refine r_seq (by kernel_rfl) ?_
   refine s_val (v_assign (v := .bool _) rfl) ?_
   refine s_nil ?_
   refine c_ret ?_
   refine n_done rfl (by decide) (Eq.trans (b := .bool _) rfl (congrArg Value.bool ?_))
   have e := ints_all (of_decide_eq_true h26) hinv (of_decide_eq_false h31)
   simp only [sameRB, *, Bool.true_and, Bool.false_and, Bool.and_true, Bool.and_false, Bool.not_true, Bool.not_false, Bool.true_or, Bool.or_true, Bool.false_or, Bool.or_false, cond_true, cond_false, if_true, if_false, Bool.false_eq_true, decide_true, decide_false]
 have hj0 := of_decide_eq_true h31
 have hll := of_decide_eq_true h26
 obtain ⟨b, o, x, ha1, hxj, hfx⟩ := hx.get (j := j) (by omega)
 obtain ⟨b', o', y, ha2, hyj, hfy⟩ := hy.get (j := j) (by omega)
 refine c_skip ?_
 refine n_then ?_
 refine c_seq ?_
 refine c_block ?_
 refine r_seq (by kernel_rfl) ?_
 refine s_val (v_move (v := .int .i64 _) rfl) ?_
 refine s_val (v_assign (v := .int .i64 _) rfl) ?_
 refine s_nil ?_
 refine d_seq (by kernel_rfl) (by kernel_rfl) (fun w hw => hw.drew) (by kernel_rfl) ?_
 refine q_val (v_field (fo := 2) (by kernel_rfl) rfl) ?_
 refine q_val (v_load1 (v := .slice _ _ _) (by kernel_rfl) rfl (.there .here) rfl) ?_
 refine q_val (v_move (v := .int .i64 _) rfl) ?_
 refine q_val (v_idxS (size := 1) (k := .i64) (by kernel_rfl) (congrArg (fun a => Value.slice a xs.length p1) ha1) rfl ⟨by omega, by omega⟩) ?_
 refine q_val (v_load1o (v := I x) (by kernel_rfl) rfl (by simpa using hfx)) ?_
 refine q_val (v_field (fo := 2) (by kernel_rfl) rfl) ?_
 refine q_val (v_load1 (v := .slice _ _ _) (by kernel_rfl) rfl .here rfl) ?_
 refine q_val (v_move (v := .int .i64 _) rfl) ?_
 refine q_val (v_idxS (size := 1) (k := .i64) (by kernel_rfl) (congrArg (fun a => Value.slice a ys.length p2) ha2) rfl ⟨by omega, by omega⟩) ?_
 refine q_val (v_load1o (v := I y) (by kernel_rfl) rfl (by simpa using hfy)) ?_
 refine q_val (v_neq (k := .i64) rfl rfl) ?_
 refine q_nil ?_
 refine c_condNR rfl rfl (fun h43 => ?_) (fun h43 => ?_)
 · refine c_skip ?_
   refine n_bnormal ?_
   refine n_then ?_
   refine r_list (by kernel_rfl) ?_
   refine s_val (v_add rfl rfl (by omega)) ?_
   refine s_val (v_move (v := .int .i64 _) rfl) ?_
   refine s_end ?_
   refine n_round (j + 1) ⟨_, ⟨by omega, same_take hinv hxj hyj (of_decide_eq_true h43)⟩, live4 rfl rfl rfl rfl⟩ (fun _ hw => hw) (by omega)
 refine r_seq (by kernel_rfl) ?_
 refine s_val (v_assign (v := .bool _) rfl) ?_
 refine s_nil ?_
 refine c_ret ?_
 refine n_bret ?_
 refine n_ret ?_
 refine n_ret ?_
 refine n_bret ?_
 refine n_ret ?_
 refine n_done rfl (by decide) (Eq.trans (b := .bool _) rfl (congrArg Value.bool ?_))
 have e := ints_bad hxj hyj (of_decide_eq_false h43)
 simp only [sameRB, *, Bool.true_and, Bool.false_and, Bool.and_true, Bool.and_false, Bool.not_true, Bool.not_false, Bool.true_or, Bool.or_true, Bool.false_or, Bool.or_false, cond_true, cond_false, if_true, if_false, Bool.false_eq_true, decide_true, decide_false]
theorem gt_same (bk : BankOk) (b1 b2 : Nat) (B1 B2 : List (Nat × Obj)) (s t : BankS) (w : World) (hg1 : BGood s) (hg2 : BGood t) (hr1 : bk.Rep (At w) b1 B1 s) (hr2 : bk.Rep (At w) b2 B2 t) (hl1 : Lies w B1) (hl2 : Lies w B2) (ha : Alike s t) : Gives Try.prog 36 [.pointer (some ⟨b1, 0, none⟩), .pointer (some ⟨b2, 0, none⟩)] w (.bool true) := by
 refine gives_of Try.func36 rfl Try.ntmps36 (by simp) ?_
 refine r_seq (by kernel_rfl) ?_
 refine s_val (v_assign (v := .bool _) rfl) ?_
 refine s_nil ?_
 refine r_seq (by kernel_rfl) ?_
 refine s_val (v_move (v := .pointer _) rfl) ?_
 refine s_call (by kernel_rfl) (fun w hw => bk.book w b1 B1 _ hg1 (bk.mono hr1 hw.at) (hl1.below hw.1)) ?_
 refine s_val (v_move (v := .tuple _) rfl) ?_
 refine s_val (v_extract rfl rfl) ?_
 refine s_val (v_extract rfl rfl) ?_
 refine s_val (v_assign (v := S _) rfl) ?_
 refine s_val (v_assign (v := .bool _) rfl) ?_
 refine s_nil ?_
 refine r_seq (by kernel_rfl) ?_
 refine s_val (v_move (v := .pointer _) rfl) ?_
 refine s_call (by kernel_rfl) (fun w hw => bk.book w b2 B2 _ hg2 (bk.mono hr2 hw.at) (hl2.below hw.1)) ?_
 refine s_val (v_move (v := .tuple _) rfl) ?_
 refine s_val (v_extract rfl rfl) ?_
 refine s_val (v_extract rfl rfl) ?_
 refine s_val (v_assign (v := S _) rfl) ?_
 refine s_val (v_assign (v := .bool _) rfl) ?_
 refine s_nil ?_
 refine r_seq (by kernel_rfl) ?_
 refine s_val (v_move (v := .pointer _) rfl) ?_
 refine s_callF (by kernel_rfl) (fun w1 hw => bk.house w1 b1 B1 _ hg1 (bk.mono hr1 (hw.at)) (hl1.below hw.1)) (fun F20 v20 E20 hF20 hK20 hR20 => ?_)
 obtain ⟨h20, rfl, hc20, ho20⟩ := hR20
 have hp20 := ho20.known hK20
 refine s_val (v_move (v := .pointer _) rfl) ?_
 refine s_callF (by kernel_rfl) (fun w1 hw => bk.house w1 b2 B2 _ hg2 (bk.mono hr2 (fun a v h => hw.at a v (hF20 a v h))) (hl2.below hw.1)) (fun F22 v22 E22 hF22 hK22 hR22 => ?_)
 obtain ⟨h22, rfl, hc22, ho22⟩ := hR22
 have hp22 := ho22.known hK22
 refine s_call (by kernel_rfl) (fun w hw => (by rw [← ha.2.1] at hp22; exact gt_sameHouse h20 s.ps h22 s.ps w ((hp20.mono hF22).at hw) (hp22.at hw) (by have := (bgood_inv hg1).1.len; have := hp20.1; omega))) ?_
 refine s_val (v_move (v := .bool _) rfl) ?_
 refine s_want rfl rfl (same_core (hc20.trans (ha.1.trans hc22.symm)) (hp20.1.symm.trans ((congrArg List.length ha.2.1).trans hp22.1))) ?_
 refine s_val (v_move (v := S _) rfl) ?_
 refine s_want rfl rfl (same_core (hc20.trans (ha.1.trans hc22.symm)) (hp20.1.symm.trans ((congrArg List.length ha.2.1).trans hp22.1))) ?_
 refine s_val (v_move (v := S _) rfl) ?_
 refine s_want rfl rfl (same_core (hc20.trans (ha.1.trans hc22.symm)) (hp20.1.symm.trans ((congrArg List.length ha.2.1).trans hp22.1))) ?_
 refine s_val (v_strEq rfl rfl (bgood_byt hg1) (bgood_byt hg2)) ?_
 refine s_val (v_pickT (v := .bool _) rfl (same_core (hc20.trans (ha.1.trans hc22.symm)) (hp20.1.symm.trans ((congrArg List.length ha.2.1).trans hp22.1))) rfl) ?_
 refine s_val (v_move (v := .bool _) rfl) ?_
 refine s_want rfl rfl (decide_eq_true ha.2.2.1) ?_
 refine s_val (v_move (v := .bool _) rfl) ?_
 refine s_want rfl rfl (decide_eq_true ha.2.2.1) ?_
 refine s_val (v_move (v := .bool _) rfl) ?_
 refine s_want rfl rfl (decide_eq_true ha.2.2.1) ?_
 refine s_val (v_eqlB (by kernel_rfl) rfl rfl) ?_
 refine s_val (v_pickT (v := .bool _) rfl (decide_eq_true ha.2.2.1) rfl) ?_
 refine s_val (v_assign (v := .bool _) rfl) ?_
 refine s_nil ?_
 refine c_ret ?_
 refine n_done rfl (by decide) (Eq.trans (b := .bool _) rfl (congrArg Value.bool ?_))
 rw [ha.2.2.2]; exact beq_self_eq_true _
end Go.Proofs.Ytmkboljfbmlebab
