/- Contracts of ledger.goodPays and ledger.Good. Condition: the payments lie in memory that was there. -/
import Derived.Test.YtmkboljfbmlebaaW2
namespace Go.Proofs.Ytmkboljfbmlebaa
open Go.RowKit
set_option linter.unusedSimpArgs false
set_option linter.unusedVariables false
set_option maxRecDepth 100000
attribute [local irreducible] cC sC nC rC qw

theorem g_goodPays (pa : Option Addr) (pl pc : Nat) (nx : Int) (ps : List PayS) (w : World) (hp : PaysIn (At w) pa pl ps) : Gives Try.prog 59 [.slice pa pl pc, I nx] w (.bool (goodPaysB ps nx)) := by
  refine gives_of Try.func59 rfl Try.ntmps59 (by simp) ?_
  refine r_seq (by kernel_rfl) ?_
  refine s_val (v_assign (v := .bool _) rfl) ?_
  refine s_nil ?_
  refine c_seq ?_
  refine r_seq (by kernel_rfl) ?_
  refine s_val (v_move (v := .slice _ _ _) rfl) ?_
  refine s_val (v_lenS (T := 27) (m := 6) (by kernel_rfl) rfl rfl) ?_
  refine s_val (v_gtr (k := .i64) rfl rfl) ?_
  refine s_nil ?_
  refine c_cond rfl rfl (fun h10 => ?_) (fun h10 => ?_)
  · refine r_seq (by kernel_rfl) ?_
    refine s_val (v_assign (v := .bool _) rfl) ?_
    refine s_nil ?_
    refine c_ret ?_
    refine n_ret ?_
    refine n_done rfl (by decide) (Eq.trans (b := .bool _) rfl (congrArg Value.bool ?_))
    first | exact gp_long hp.1 h10 | exact gp_end hp.1 h10 h15 hinv | exact gp_bad hp.1 h10 hinv hd (by simp only [*, Bool.true_and, Bool.false_and, Bool.and_true, Bool.and_false, Bool.not_true, Bool.not_false, Bool.true_or, Bool.or_true, Bool.false_or, Bool.or_false, cond_true, cond_false, if_true, if_false, Bool.false_eq_true, decide_true, decide_false])
  have h24 := of_decide_eq_false h10
  refine c_skip ?_
  refine n_then ?_
  refine r_seq (by kernel_rfl) ?_
  refine s_makeSet (fun b11 => ?_)
  refine s_val (v_assign (v := .map _) rfl) ?_
  refine s_nil ?_
  refine c_seq ?_
  refine r_seq (by kernel_rfl) ?_
  refine s_val (v_move (v := .slice _ _ _) rfl) ?_
  refine s_val (v_lenS (T := 27) (m := 6) (by kernel_rfl) rfl rfl) ?_
  refine s_val (v_move (v := .int .i64 _) rfl) ?_
  refine s_nil ?_
  refine c_block ?_
  refine c_loop (σ := Nat) (fun (k : Nat) f => ∃ g, (k ≤ pl ∧ goB nx [] ps = goB nx ((ps.take k).map PayS.seq) (ps.drop k)) ∧ f = (upd (upd (upd (upd (upd g 1 (I nx)) 5 (.map (some b11))) 12 (.slice pa pl pc)) 13 (I pl)) 14 (I k))) (fun (k : Nat) => Has w (At w) [(b11, setO ((ps.take k).map PayS.seq))]) (fun (k : Nat) => pl - k) 0 ⟨_, ⟨Nat.zero_le _, rfl⟩, live5 rfl rfl rfl rfl rfl⟩ (fun w hw => hw) ?_
  rintro k _ ⟨g, ⟨hkl, hinv⟩, rfl⟩
  refine r_seq (by kernel_rfl) ?_
  refine s_val (v_lss (k := .i64) rfl rfl) ?_
  refine s_nil ?_
  refine c_seq ?_
  refine c_condR rfl rfl (fun h15 => ?_) (fun h15 => ?_)
  · refine c_exit ?_
    refine n_exit ?_
    refine n_exit ?_
    refine n_bhere ?_
    refine n_then ?_
    refine r_seq (by kernel_rfl) ?_
    refine s_val (v_assign (v := .bool _) rfl) ?_
    refine s_nil ?_
    refine c_ret ?_
    refine n_done rfl (by decide) (Eq.trans (b := .bool _) rfl (congrArg Value.bool ?_))
    first | exact gp_long hp.1 h10 | exact gp_end hp.1 h10 h15 hinv | exact gp_bad hp.1 h10 hinv hd (by simp only [*, Bool.true_and, Bool.false_and, Bool.and_true, Bool.and_false, Bool.not_true, Bool.not_false, Bool.true_or, Bool.or_true, Bool.false_or, Bool.or_false, cond_true, cond_false, if_true, if_false, Bool.false_eq_true, decide_true, decide_false])
  have hk := of_decide_eq_true h15
  obtain ⟨p, hpk, hd, ht⟩ := hp.get (k := k) (by omega)
  obtain ⟨b, o, rfl, hc⟩ := hp.some (k := k) (by omega)
  refine c_skip ?_
  refine n_then ?_
  refine c_seq ?_
  refine c_block ?_
  refine r_seq (by kernel_rfl) ?_
  refine s_val (v_idxS (size := 6) (k := .i64) (by kernel_rfl) rfl rfl (by omega)) ?_
  refine s_val (v_loadNo (cs := p.cells) (m := 6) (by kernel_rfl) rfl rfl (hc k p hpk)) ?_
  refine s_alloc (z := zeroOf Try.prog 36) (by kernel_rfl) (fun b7 => ?_)
  refine s_storeA (m := 6) (by kernel_rfl) rfl rfl .here (by kernel_rfl) rfl (PayS.all1 _) ?_
  refine s_nil ?_
  refine c_seq ?_
  refine r_seq (by kernel_rfl) ?_
  refine s_val (v_loadA (m := 6) (by kernel_rfl) rfl .here rfl) ?_
  refine s_call (by kernel_rfl) (fun w hw => g_GoodPay _ w) ?_
  refine s_val (v_not rfl) ?_
  refine s_val (v_move (v := .bool _) rfl) ?_
  refine s_splitN (s := 21) rfl (fun h21 => ?_) (fun h21 => ?_)
  · refine s_pass rfl rfl (congrArg not h21) ?_
    refine s_pass rfl rfl (congrArg not h21) ?_
    refine s_pass rfl rfl (congrArg not h21) ?_
    refine s_pass rfl rfl (congrArg not h21) ?_
    refine s_val (v_pickT (v := .bool _) rfl (congrArg not h21) rfl) ?_
    refine s_val (v_move (v := .bool _) rfl) ?_
    refine s_pass (g := true) rfl rfl rfl ?_
    refine s_pass (g := true) rfl rfl rfl ?_
    refine s_pass (g := true) rfl rfl rfl ?_
    refine s_pass (g := true) rfl rfl rfl ?_
    refine s_val (v_pickT (v := .bool _) rfl rfl rfl) ?_
    refine s_nil ?_
    refine c_condTh rfl rfl rfl ?_
    refine r_seq (by kernel_rfl) ?_
    refine s_val (v_assign (v := .bool _) rfl) ?_
    refine s_nil ?_
    refine c_ret ?_
    refine n_ret ?_
    refine n_bret ?_
    refine n_ret ?_
    refine n_ret ?_
    refine n_bret ?_
    refine n_ret ?_
    refine n_done rfl (by decide) (Eq.trans (b := .bool _) rfl (congrArg Value.bool ?_))
    first | exact gp_long hp.1 h10 | exact gp_end hp.1 h10 h15 hinv | exact gp_bad hp.1 h10 hinv hd (by simp only [*, Bool.true_and, Bool.false_and, Bool.and_true, Bool.and_false, Bool.not_true, Bool.not_false, Bool.true_or, Bool.or_true, Bool.false_or, Bool.or_false, cond_true, cond_false, if_true, if_false, Bool.false_eq_true, decide_true, decide_false])
  refine s_want rfl rfl (congrArg not h21) ?_
  refine s_val (v_field (fo := 5) (by kernel_rfl) rfl) ?_
  refine s_want rfl rfl (congrArg not h21) ?_
  refine s_val (v_load1 (v := .int .i64 _) (by kernel_rfl) rfl .here rfl) ?_
  refine s_want rfl rfl (congrArg not h21) ?_
  refine s_val (v_move (v := .int .i64 _) rfl) ?_
  refine s_want rfl rfl (congrArg not h21) ?_
  refine s_val (v_geq (k := .i64) rfl rfl) ?_
  refine s_val (v_pickF (v := .bool _) rfl (congrArg not h21) rfl) ?_
  refine s_val (v_move (v := .bool _) rfl) ?_
  refine s_split (s := 27) rfl (fun h27 => ?_) (fun h27 => ?_)
  · refine s_pass rfl rfl h27 ?_
    refine s_pass rfl rfl h27 ?_
    refine s_pass rfl rfl h27 ?_
    refine s_pass rfl rfl h27 ?_
    refine s_val (v_pickT (v := .bool _) rfl h27 rfl) ?_
    refine s_nil ?_
    refine c_condTh rfl rfl rfl ?_
    refine r_seq (by kernel_rfl) ?_
    refine s_val (v_assign (v := .bool _) rfl) ?_
    refine s_nil ?_
    refine c_ret ?_
    refine n_ret ?_
    refine n_bret ?_
    refine n_ret ?_
    refine n_ret ?_
    refine n_bret ?_
    refine n_ret ?_
    refine n_done rfl (by decide) (Eq.trans (b := .bool _) rfl (congrArg Value.bool ?_))
    first | exact gp_long hp.1 h10 | exact gp_end hp.1 h10 h15 hinv | exact gp_bad hp.1 h10 hinv hd (by simp only [*, Bool.true_and, Bool.false_and, Bool.and_true, Bool.and_false, Bool.not_true, Bool.not_false, Bool.true_or, Bool.or_true, Bool.false_or, Bool.or_false, cond_true, cond_false, if_true, if_false, Bool.false_eq_true, decide_true, decide_false])
  refine s_want rfl rfl h27 ?_
  refine s_val (v_move (v := .map _) rfl) ?_
  refine s_want rfl rfl h27 ?_
  refine s_val (v_field (fo := 5) (by kernel_rfl) rfl) ?_
  refine s_want rfl rfl h27 ?_
  refine s_val (v_load1 (v := .int .i64 _) (by kernel_rfl) rfl .here rfl) ?_
  refine s_want rfl rfl h27 ?_
  refine s_val (v_setHas (by kernel_rfl) rfl rfl (.there .here)) ?_
  refine s_val (v_pickF (v := .bool _) rfl h27 rfl) ?_
  refine s_nil ?_
  refine c_cond rfl rfl (fun h32 => ?_) (fun h32 => ?_)
  · refine r_seq (by kernel_rfl) ?_
    refine s_val (v_assign (v := .bool _) rfl) ?_
    refine s_nil ?_
    refine c_ret ?_
    refine n_ret ?_
    refine n_bret ?_
    refine n_ret ?_
    refine n_ret ?_
    refine n_bret ?_
    refine n_ret ?_
    refine n_done rfl (by decide) (Eq.trans (b := .bool _) rfl (congrArg Value.bool ?_))
    first | exact gp_long hp.1 h10 | exact gp_end hp.1 h10 h15 hinv | exact gp_bad hp.1 h10 hinv hd (by simp only [*, Bool.true_and, Bool.false_and, Bool.and_true, Bool.and_false, Bool.not_true, Bool.not_false, Bool.true_or, Bool.or_true, Bool.false_or, Bool.or_false, cond_true, cond_false, if_true, if_false, Bool.false_eq_true, decide_true, decide_false])
  refine c_skip ?_
  refine n_then ?_
  refine r_list (by kernel_rfl) ?_
  refine s_val (v_move (v := .map _) rfl) ?_
  refine s_val (v_field (fo := 5) (by kernel_rfl) rfl) ?_
  refine s_val (v_load1 (v := .int .i64 _) (by kernel_rfl) rfl .here rfl) ?_
  refine s_setAdd (by kernel_rfl) rfl rfl rfl (.there .here) (of_decide_eq_false h32) ?_
  refine s_end ?_
  refine n_bnormal ?_
  refine n_then ?_
  refine r_list (by kernel_rfl) ?_
  refine s_val (v_add rfl rfl (by omega)) ?_
  refine s_val (v_move (v := .int .i64 _) rfl) ?_
  refine s_end ?_
  refine n_round (k + 1) ⟨_, ⟨by omega, gp_step hinv hd ht (by simp only [*, Bool.true_and, Bool.false_and, Bool.and_true, Bool.and_false, Bool.not_true, Bool.not_false, Bool.true_or, Bool.or_true, Bool.false_or, Bool.or_false, cond_true, cond_false, if_true, if_false, Bool.false_eq_true, decide_true, decide_false])⟩, live5 rfl rfl rfl rfl rfl⟩ (fun _ hw => by rw [ht, List.map_append]; exact hw.tail) (by omega)

theorem g_Good (h : H) (ps : List PayS) (w : World) (hp : PaysIn (At w) h.pa h.pl ps) : Gives Try.prog 15 [.agg h.cells] w (.bool (goodB h ps)) := by
  refine gives_of Try.func15 rfl Try.ntmps15 (by simp) ?_
  refine r_seq (by kernel_rfl) ?_
  refine s_box (v := .agg _) rfl (fun b1 => ?_)
  refine s_val (v_assign (v := .bool _) rfl) ?_
  refine s_nil ?_
  refine r_seq (by kernel_rfl) ?_
  refine s_val (v_field (fo := 41) (by kernel_rfl) rfl) ?_
  refine s_val (v_load1 (v := .int .i64 _) (by kernel_rfl) rfl .here (H.at_next _)) ?_
  refine s_call (by kernel_rfl) (fun w hw => g_within _ _ _ w) ?_
  refine s_val (v_move (v := .bool _) rfl) ?_
  refine s_splitR (s := 6) rfl (fun h6 => ?_) (fun h6 => ?_)
  · refine s_pass rfl rfl h6 ?_
    refine s_pass rfl rfl h6 ?_
    refine s_pass rfl rfl h6 ?_
    refine s_pass rfl rfl h6 ?_
    refine s_pass rfl rfl h6 ?_
    refine s_val (v_pickF (v := .bool _) rfl h6 rfl) ?_
    refine s_val (v_move (v := .bool _) rfl) ?_
    refine s_pass (g := false) rfl rfl rfl ?_
    refine s_pass (g := false) rfl rfl rfl ?_
    refine s_pass (g := false) rfl rfl rfl ?_
    refine s_val (v_pickF (v := .bool _) rfl rfl rfl) ?_
    refine s_val (v_move (v := .bool _) rfl) ?_
    refine s_pass (g := false) rfl rfl rfl ?_
    refine s_pass (g := false) rfl rfl rfl ?_
    refine s_pass (g := false) rfl rfl rfl ?_
    refine s_val (v_pickF (v := .bool _) rfl rfl rfl) ?_
    refine s_val (v_move (v := .bool _) rfl) ?_
    refine s_pass (g := false) rfl rfl rfl ?_
    refine s_pass (g := false) rfl rfl rfl ?_
    refine s_pass (g := false) rfl rfl rfl ?_
    refine s_val (v_pickF (v := .bool _) rfl rfl rfl) ?_
    refine s_val (v_assign (v := .bool _) rfl) ?_
    refine s_nil ?_
    refine c_ret ?_
    refine n_done rfl (by decide) (Eq.trans (b := .bool _) rfl (congrArg Value.bool ?_))
    simp only [goodB, *, Bool.true_and, Bool.false_and, Bool.and_true, Bool.and_false, Bool.not_true, Bool.not_false, Bool.true_or, Bool.or_true, Bool.false_or, Bool.or_false, cond_true, cond_false, if_true, if_false, Bool.false_eq_true, decide_true, decide_false]
  refine s_want rfl rfl h6 ?_
  refine s_val (v_field (fo := 40) (by kernel_rfl) rfl) ?_
  refine s_want rfl rfl h6 ?_
  refine s_val (v_load1 (v := .slice _ _ _) (by kernel_rfl) rfl .here (H.at_pays _)) ?_
  refine s_want rfl rfl h6 ?_
  refine s_val (v_field (fo := 41) (by kernel_rfl) rfl) ?_
  refine s_want rfl rfl h6 ?_
  refine s_val (v_load1 (v := .int .i64 _) (by kernel_rfl) rfl .here (H.at_next _)) ?_
  refine s_want rfl rfl h6 ?_
  refine s_call (by kernel_rfl) (fun w hw => g_goodPays _ _ _ _ _ w (hp.at hw)) ?_
  refine s_val (v_pickT (v := .bool _) rfl h6 rfl) ?_
  refine s_val (v_move (v := .bool _) rfl) ?_
  refine s_splitR (s := 13) rfl (fun h13 => ?_) (fun h13 => ?_)
  · refine s_pass rfl rfl h13 ?_
    refine s_pass rfl rfl h13 ?_
    refine s_pass rfl rfl h13 ?_
    refine s_val (v_pickF (v := .bool _) rfl h13 rfl) ?_
    refine s_val (v_move (v := .bool _) rfl) ?_
    refine s_pass (g := false) rfl rfl rfl ?_
    refine s_pass (g := false) rfl rfl rfl ?_
    refine s_pass (g := false) rfl rfl rfl ?_
    refine s_val (v_pickF (v := .bool _) rfl rfl rfl) ?_
    refine s_val (v_move (v := .bool _) rfl) ?_
    refine s_pass (g := false) rfl rfl rfl ?_
    refine s_pass (g := false) rfl rfl rfl ?_
    refine s_pass (g := false) rfl rfl rfl ?_
    refine s_val (v_pickF (v := .bool _) rfl rfl rfl) ?_
    refine s_val (v_assign (v := .bool _) rfl) ?_
    refine s_nil ?_
    refine c_ret ?_
    refine n_done rfl (by decide) (Eq.trans (b := .bool _) rfl (congrArg Value.bool ?_))
    simp only [goodB, *, Bool.true_and, Bool.false_and, Bool.and_true, Bool.and_false, Bool.not_true, Bool.not_false, Bool.true_or, Bool.or_true, Bool.false_or, Bool.or_false, cond_true, cond_false, if_true, if_false, Bool.false_eq_true, decide_true, decide_false]
  refine s_want rfl rfl h13 ?_
  refine s_val (v_field (fo := 0) (by kernel_rfl) rfl) ?_
  refine s_want rfl rfl h13 ?_
  refine s_val (v_loadN (m := 8) (cs' := accA _ _) (by kernel_rfl) rfl .here (accA_size _ _) (H.ex_acc _)) ?_
  refine s_want rfl rfl h13 ?_
  refine s_call (by kernel_rfl) (fun w hw => g_goodAccounts _ _ w) ?_
  refine s_val (v_pickT (v := .bool _) rfl h13 rfl) ?_
  refine s_val (v_move (v := .bool _) rfl) ?_
  refine s_splitR (s := 18) rfl (fun h18 => ?_) (fun h18 => ?_)
  · refine s_pass rfl rfl h18 ?_
    refine s_pass rfl rfl h18 ?_
    refine s_pass rfl rfl h18 ?_
    refine s_val (v_pickF (v := .bool _) rfl h18 rfl) ?_
    refine s_val (v_move (v := .bool _) rfl) ?_
    refine s_pass (g := false) rfl rfl rfl ?_
    refine s_pass (g := false) rfl rfl rfl ?_
    refine s_pass (g := false) rfl rfl rfl ?_
    refine s_val (v_pickF (v := .bool _) rfl rfl rfl) ?_
    refine s_val (v_assign (v := .bool _) rfl) ?_
    refine s_nil ?_
    refine c_ret ?_
    refine n_done rfl (by decide) (Eq.trans (b := .bool _) rfl (congrArg Value.bool ?_))
    simp only [goodB, *, Bool.true_and, Bool.false_and, Bool.and_true, Bool.and_false, Bool.not_true, Bool.not_false, Bool.true_or, Bool.or_true, Bool.false_or, Bool.or_false, cond_true, cond_false, if_true, if_false, Bool.false_eq_true, decide_true, decide_false]
  refine s_want rfl rfl h18 ?_
  refine s_val (v_field (fo := 8) (by kernel_rfl) rfl) ?_
  refine s_want rfl rfl h18 ?_
  refine s_val (v_loadN (m := 16) (cs' := matA _) (by kernel_rfl) rfl .here (matA_size _) (H.ex_sent _)) ?_
  refine s_want rfl rfl h18 ?_
  refine s_call (by kernel_rfl) (fun w hw => g_goodSent _ w) ?_
  refine s_val (v_pickT (v := .bool _) rfl h18 rfl) ?_
  refine s_val (v_move (v := .bool _) rfl) ?_
  refine s_splitR (s := 23) rfl (fun h23 => ?_) (fun h23 => ?_)
  · refine s_pass rfl rfl h23 ?_
    refine s_pass rfl rfl h23 ?_
    refine s_pass rfl rfl h23 ?_
    refine s_val (v_pickF (v := .bool _) rfl h23 rfl) ?_
    refine s_val (v_assign (v := .bool _) rfl) ?_
    refine s_nil ?_
    refine c_ret ?_
    refine n_done rfl (by decide) (Eq.trans (b := .bool _) rfl (congrArg Value.bool ?_))
    simp only [goodB, *, Bool.true_and, Bool.false_and, Bool.and_true, Bool.and_false, Bool.not_true, Bool.not_false, Bool.true_or, Bool.or_true, Bool.false_or, Bool.or_false, cond_true, cond_false, if_true, if_false, Bool.false_eq_true, decide_true, decide_false]
  refine s_want rfl rfl h23 ?_
  refine s_val (v_field (fo := 24) (by kernel_rfl) rfl) ?_
  refine s_want rfl rfl h23 ?_
  refine s_val (v_loadN (m := 16) (cs' := matA _) (by kernel_rfl) rfl .here (matA_size _) (H.ex_lim _)) ?_
  refine s_want rfl rfl h23 ?_
  refine s_call (by kernel_rfl) (fun w hw => g_goodLimits _ w) ?_
  refine s_val (v_pickT (v := .bool _) rfl h23 rfl) ?_
  refine s_val (v_assign (v := .bool _) rfl) ?_
  refine s_nil ?_
  refine c_ret ?_
  refine n_done rfl (by decide) (Eq.trans (b := .bool _) rfl (congrArg Value.bool ?_))
  simp only [goodB, *, Bool.true_and, Bool.false_and, Bool.and_true, Bool.and_false, Bool.not_true, Bool.not_false, Bool.true_or, Bool.or_true, Bool.false_or, Bool.or_false, cond_true, cond_false, if_true, if_false, Bool.false_eq_true, decide_true, decide_false]

end Go.Proofs.Ytmkboljfbmlebaa
