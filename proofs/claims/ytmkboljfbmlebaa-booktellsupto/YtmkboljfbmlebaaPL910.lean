/- What bookTellsUpto_holds stands on, part 10: each part says what it proves. No condition beside those that it names. -/
import Derived.Test.YtmkboljfbmlebaaPL99
/- Contracts of ledger.goodPays and ledger.Good. Condition: the payments lie in memory that was there. -/
namespace Go.Proofs.Ytmkboljfbmlebaa
open Go.RowKit
set_option linter.unusedSimpArgs false
set_option linter.unusedVariables false
set_option maxRecDepth 100000
attribute [local irreducible] cC sC nC rC qw

theorem g_goodPays (pa : Option Addr) (pl pc : Nat) (nx : Int) (ps : List PayS) (w : World) (hp : PaysIn (At w) pa pl ps) : Gives Try.prog 59 [.slice pa pl pc, I nx] w (.bool (goodPaysB ps nx)) := by
  refine gives_of Try.func59 rfl Try.ntmps59 (by simp) ?_
  refine r_seq (by kernel_rfl) ?_
  refine s_val (v_assign (v := .bool _) rfl) ?_
  refine s_nil ?_
  refine c_seq ?_
  refine r_seq (by kernel_rfl) ?_
  refine s_val (v_move (v := .slice _ _ _) rfl) ?_
  refine s_val (v_lenS (T := 27) (m := 6) (by kernel_rfl) rfl rfl) ?_
  refine s_val (v_gtr (k := .i64) rfl rfl) ?_
  refine s_nil ?_
  refine c_cond rfl rfl (fun h10 => ?_) (fun h10 => ?_)
  · refine r_seq (by kernel_rfl) ?_
    refine s_val (v_assign (v := .bool _) rfl) ?_
    refine s_nil ?_
    refine c_ret ?_
    refine n_ret ?_
    refine n_done rfl (by decide) (Eq.trans (b := .bool _) rfl (congrArg Value.bool ?_))
    first | exact gp_long hp.1 h10 | exact gp_end hp.1 h10 h15 hinv | exact gp_bad hp.1 h10 hinv hd (by simp only [*, Bool.true_and, Bool.false_and, Bool.and_true, Bool.and_false, Bool.not_true, Bool.not_false, Bool.true_or, Bool.or_true, Bool.false_or, Bool.or_false, cond_true, cond_false, if_true, if_false, Bool.false_eq_true, decide_true, decide_false])
  have h24 := of_decide_eq_false h10
  refine c_skip ?_
  refine n_then ?_
  refine r_seq (by kernel_rfl) ?_
  refine s_makeSet (fun b11 => ?_)
  refine s_val (v_assign (v := .map _) rfl) ?_
  refine s_nil ?_
  refine c_seq ?_
  refine r_seq (by kernel_rfl) ?_
  refine s_val (v_move (v := .slice _ _ _) rfl) ?_
  refine s_val (v_lenS (T := 27) (m := 6) (by kernel_rfl) rfl rfl) ?_
  refine s_val (v_move (v := .int .i64 _) rfl) ?_
  refine s_nil ?_
  refine c_block ?_
  refine c_loop (σ := Nat) (fun (k : Nat) f => ∃ g, (k ≤ pl ∧ goB nx [] ps = goB nx ((ps.take k).map PayS.seq) (ps.drop k)) ∧ f = (upd (upd (upd (upd (upd g 1 (I nx)) 5 (.map (some b11))) 12 (.slice pa pl pc)) 13 (I pl)) 14 (I k))) (fun (k : Nat) => Has w (At w) [(b11, setO ((ps.take k).map PayS.seq))]) (fun (k : Nat) => pl - k) 0 ⟨_, ⟨Nat.zero_le _, rfl⟩, live5 rfl rfl rfl rfl rfl⟩ (fun w hw => hw) ?_
  rintro k _ ⟨g, ⟨hkl, hinv⟩, rfl⟩
  refine r_seq (by kernel_rfl) ?_
  refine s_val (v_lss (k := .i64) rfl rfl) ?_
  refine s_nil ?_
  refine c_seq ?_
  refine c_condR rfl rfl (fun h15 => ?_) (fun h15 => ?_)
  · refine c_exit ?_
    refine n_exit ?_
    refine n_exit ?_
    refine n_bhere ?_
    refine n_then ?_
    refine r_seq (by kernel_rfl) ?_
    refine s_val (v_assign (v := .bool _) rfl) ?_
    refine s_nil ?_
    refine c_ret ?_
    refine n_done rfl (by decide) (Eq.trans (b := .bool _) rfl (congrArg Value.bool ?_))
    first | exact gp_long hp.1 h10 | exact gp_end hp.1 h10 h15 hinv | exact gp_bad hp.1 h10 hinv hd (by simp only [*, Bool.true_and, Bool.false_and, Bool.and_true, Bool.and_false, Bool.not_true, Bool.not_false, Bool.true_or, Bool.or_true, Bool.false_or, Bool.or_false, cond_true, cond_false, if_true, if_false, Bool.false_eq_true, decide_true, decide_false])
  have hk := of_decide_eq_true h15
  obtain ⟨p, hpk, hd, ht⟩ := hp.get (k := k) (by omega)
  obtain ⟨b, o, rfl, hc⟩ := hp.some (k := k) (by omega)
  refine c_skip ?_
  refine n_then ?_
  refine c_seq ?_
  refine c_block ?_
  refine r_seq (by kernel_rfl) ?_
  refine s_val (v_idxS (size := 6) (k := .i64) (by kernel_rfl) rfl rfl (by omega)) ?_
  refine s_val (v_loadNo (cs := p.cells) (m := 6) (by kernel_rfl) rfl rfl (hc k p hpk)) ?_
  refine s_alloc (z := zeroOf Try.prog 36) (by kernel_rfl) (fun b7 => ?_)
  refine s_storeA (m := 6) (by kernel_rfl) rfl rfl .here (by kernel_rfl) rfl (PayS.all1 _) ?_
  refine s_nil ?_
  refine c_seq ?_
  refine r_seq (by kernel_rfl) ?_
  refine s_val (v_loadA (m := 6) (by kernel_rfl) rfl .here rfl) ?_
  refine s_call (by kernel_rfl) (fun w hw => g_GoodPay _ w) ?_
  refine s_val (v_not rfl) ?_
  refine s_val (v_move (v := .bool _) rfl) ?_
  refine s_splitN (s := 21) rfl (fun h21 => ?_) (fun h21 => ?_)
  · refine s_pass rfl rfl (congrArg not h21) ?_
    refine s_pass rfl rfl (congrArg not h21) ?_
    refine s_pass rfl rfl (congrArg not h21) ?_
    refine s_pass rfl rfl (congrArg not h21) ?_
    refine s_val (v_pickT (v := .bool _) rfl (congrArg not h21) rfl) ?_
    refine s_val (v_move (v := .bool _) rfl) ?_
    refine s_pass (g := true) rfl rfl rfl ?_
    refine s_pass (g := true) rfl rfl rfl ?_
    refine s_pass (g := true) rfl rfl rfl ?_
    refine s_pass (g := true) rfl rfl rfl ?_
    refine s_val (v_pickT (v := .bool _) rfl rfl rfl) ?_
    refine s_nil ?_
    refine c_condTh rfl rfl rfl ?_
    refine r_seq (by kernel_rfl) ?_
    refine s_val (v_assign (v := .bool _) rfl) ?_
    refine s_nil ?_
    refine c_ret ?_
    refine n_ret ?_
    refine n_bret ?_
    refine n_ret ?_
    refine n_ret ?_
    refine n_bret ?_
    refine n_ret ?_
    refine n_done rfl (by decide) (Eq.trans (b := .bool _) rfl (congrArg Value.bool ?_))
    first | exact gp_long hp.1 h10 | exact gp_end hp.1 h10 h15 hinv | exact gp_bad hp.1 h10 hinv hd (by simp only [*, Bool.true_and, Bool.false_and, Bool.and_true, Bool.and_false, Bool.not_true, Bool.not_false, Bool.true_or, Bool.or_true, Bool.false_or, Bool.or_false, cond_true, cond_false, if_true, if_false, Bool.false_eq_true, decide_true, decide_false])
  refine s_want rfl rfl (congrArg not h21) ?_
  refine s_val (v_field (fo := 5) (by kernel_rfl) rfl) ?_
  refine s_want rfl rfl (congrArg not h21) ?_
  refine s_val (v_load1 (v := .int .i64 _) (by kernel_rfl) rfl .here rfl) ?_
  refine s_want rfl rfl (congrArg not h21) ?_
  refine s_val (v_move (v := .int .i64 _) rfl) ?_
  refine s_want rfl rfl (congrArg not h21) ?_
  refine s_val (v_geq (k := .i64) rfl rfl) ?_
  refine s_val (v_pickF (v := .bool _) rfl (congrArg not h21) rfl) ?_
  refine s_val (v_move (v := .bool _) rfl) ?_
  refine s_split (s := 27) rfl (fun h27 => ?_) (fun h27 => ?_)
  · refine s_pass rfl rfl h27 ?_
    refine s_pass rfl rfl h27 ?_
    refine s_pass rfl rfl h27 ?_
    refine s_pass rfl rfl h27 ?_
    refine s_val (v_pickT (v := .bool _) rfl h27 rfl) ?_
    refine s_nil ?_
    refine c_condTh rfl rfl rfl ?_
    refine r_seq (by kernel_rfl) ?_
    refine s_val (v_assign (v := .bool _) rfl) ?_
    refine s_nil ?_
    refine c_ret ?_
    refine n_ret ?_
    refine n_bret ?_
    refine n_ret ?_
    refine n_ret ?_
    refine n_bret ?_
    refine n_ret ?_
    refine n_done rfl (by decide) (Eq.trans (b := .bool _) rfl (congrArg Value.bool ?_))
    first | exact gp_long hp.1 h10 | exact gp_end hp.1 h10 h15 hinv | exact gp_bad hp.1 h10 hinv hd (by simp only [*, Bool.true_and, Bool.false_and, Bool.and_true, Bool.and_false, Bool.not_true, Bool.not_false, Bool.true_or, Bool.or_true, Bool.false_or, Bool.or_false, cond_true, cond_false, if_true, if_false, Bool.false_eq_true, decide_true, decide_false])
  refine s_want rfl rfl h27 ?_
  refine s_val (v_move (v := .map _) rfl) ?_
  refine s_want rfl rfl h27 ?_
  refine s_val (v_field (fo := 5) (by kernel_rfl) rfl) ?_
  refine s_want rfl rfl h27 ?_
  refine s_val (v_load1 (v := .int .i64 _) (by kernel_rfl) rfl .here rfl) ?_
  refine s_want rfl rfl h27 ?_
  refine s_val (v_setHas (by kernel_rfl) rfl rfl (.there .here)) ?_
  refine s_val (v_pickF (v := .bool _) rfl h27 rfl) ?_
  refine s_nil ?_
  refine c_cond rfl rfl (fun h32 => ?_) (fun h32 => ?_)
  · refine r_seq (by kernel_rfl) ?_
    refine s_val (v_assign (v := .bool _) rfl) ?_
    refine s_nil ?_
    refine c_ret ?_
    refine n_ret ?_
    refine n_bret ?_
    refine n_ret ?_
    refine n_ret ?_
    refine n_bret ?_
    refine n_ret ?_
    refine n_done rfl (by decide) (Eq.trans (b := .bool _) rfl (congrArg Value.bool ?_))
    first | exact gp_long hp.1 h10 | exact gp_end hp.1 h10 h15 hinv | exact gp_bad hp.1 h10 hinv hd (by simp only [*, Bool.true_and, Bool.false_and, Bool.and_true, Bool.and_false, Bool.not_true, Bool.not_false, Bool.true_or, Bool.or_true, Bool.false_or, Bool.or_false, cond_true, cond_false, if_true, if_false, Bool.false_eq_true, decide_true, decide_false])
  refine c_skip ?_
  refine n_then ?_
  refine r_list (by kernel_rfl) ?_
  refine s_val (v_move (v := .map _) rfl) ?_
  refine s_val (v_field (fo := 5) (by kernel_rfl) rfl) ?_
  refine s_val (v_load1 (v := .int .i64 _) (by kernel_rfl) rfl .here rfl) ?_
  refine s_setAdd (by kernel_rfl) rfl rfl rfl (.there .here) (of_decide_eq_false h32) ?_
  refine s_end ?_
  refine n_bnormal ?_
  refine n_then ?_
  refine r_list (by kernel_rfl) ?_
  refine s_val (v_add rfl rfl (by omega)) ?_
  refine s_val (v_move (v := .int .i64 _) rfl) ?_
  refine s_end ?_
  refine n_round (k + 1) ⟨_, ⟨by omega, gp_step hinv hd ht (by simp only [*, Bool.true_and, Bool.false_and, Bool.and_true, Bool.and_false, Bool.not_true, Bool.not_false, Bool.true_or, Bool.or_true, Bool.false_or, Bool.or_false, cond_true, cond_false, if_true, if_false, Bool.false_eq_true, decide_true, decide_false])⟩, live5 rfl rfl rfl rfl rfl⟩ (fun _ hw => by rw [ht, List.map_append]; exact hw.tail) (by omega)

theorem g_Good (h : H) (ps : List PayS) (w : World) (hp : PaysIn (At w) h.pa h.pl ps) : Gives Try.prog 15 [.agg h.cells] w (.bool (goodB h ps)) := by
  refine gives_of Try.func15 rfl Try.ntmps15 (by simp) ?_
  refine r_seq (by kernel_rfl) ?_
  refine s_box (v := .agg _) rfl (fun b1 => ?_)
  refine s_val (v_assign (v := .bool _) rfl) ?_
  refine s_nil ?_
  refine r_seq (by kernel_rfl) ?_
  refine s_val (v_field (fo := 41) (by kernel_rfl) rfl) ?_
  refine s_val (v_load1 (v := .int .i64 _) (by kernel_rfl) rfl .here (H.at_next _)) ?_
  refine s_call (by kernel_rfl) (fun w hw => g_within _ _ _ w) ?_
  refine s_val (v_move (v := .bool _) rfl) ?_
  refine s_splitR (s := 6) rfl (fun h6 => ?_) (fun h6 => ?_)
  · refine s_pass rfl rfl h6 ?_
    refine s_pass rfl rfl h6 ?_
    refine s_pass rfl rfl h6 ?_
    refine s_pass rfl rfl h6 ?_
    refine s_pass rfl rfl h6 ?_
    refine s_val (v_pickF (v := .bool _) rfl h6 rfl) ?_
    refine s_val (v_move (v := .bool _) rfl) ?_
    refine s_pass (g := false) rfl rfl rfl ?_
    refine s_pass (g := false) rfl rfl rfl ?_
    refine s_pass (g := false) rfl rfl rfl ?_
    refine s_val (v_pickF (v := .bool _) rfl rfl rfl) ?_
    refine s_val (v_move (v := .bool _) rfl) ?_
    refine s_pass (g := false) rfl rfl rfl ?_
    refine s_pass (g := false) rfl rfl rfl ?_
    refine s_pass (g := false) rfl rfl rfl ?_
    refine s_val (v_pickF (v := .bool _) rfl rfl rfl) ?_
    refine s_val (v_move (v := .bool _) rfl) ?_
    refine s_pass (g := false) rfl rfl rfl ?_
    refine s_pass (g := false) rfl rfl rfl ?_
    refine s_pass (g := false) rfl rfl rfl ?_
    refine s_val (v_pickF (v := .bool _) rfl rfl rfl) ?_
    refine s_val (v_assign (v := .bool _) rfl) ?_
    refine s_nil ?_
    refine c_ret ?_
    refine n_done rfl (by decide) (Eq.trans (b := .bool _) rfl (congrArg Value.bool ?_))
    simp only [goodB, *, Bool.true_and, Bool.false_and, Bool.and_true, Bool.and_false, Bool.not_true, Bool.not_false, Bool.true_or, Bool.or_true, Bool.false_or, Bool.or_false, cond_true, cond_false, if_true, if_false, Bool.false_eq_true, decide_true, decide_false]
  refine s_want rfl rfl h6 ?_
  refine s_val (v_field (fo := 40) (by kernel_rfl) rfl) ?_
  refine s_want rfl rfl h6 ?_
  refine s_val (v_load1 (v := .slice _ _ _) (by kernel_rfl) rfl .here (H.at_pays _)) ?_
  refine s_want rfl rfl h6 ?_
  refine s_val (v_field (fo := 41) (by kernel_rfl) rfl) ?_
  refine s_want rfl rfl h6 ?_
  refine s_val (v_load1 (v := .int .i64 _) (by kernel_rfl) rfl .here (H.at_next _)) ?_
  refine s_want rfl rfl h6 ?_
  refine s_call (by kernel_rfl) (fun w hw => g_goodPays _ _ _ _ _ w (hp.at hw)) ?_
  refine s_val (v_pickT (v := .bool _) rfl h6 rfl) ?_
  refine s_val (v_move (v := .bool _) rfl) ?_
  refine s_splitR (s := 13) rfl (fun h13 => ?_) (fun h13 => ?_)
  · refine s_pass rfl rfl h13 ?_
    refine s_pass rfl rfl h13 ?_
    refine s_pass rfl rfl h13 ?_
    refine s_val (v_pickF (v := .bool _) rfl h13 rfl) ?_
    refine s_val (v_move (v := .bool _) rfl) ?_
    refine s_pass (g := false) rfl rfl rfl ?_
    refine s_pass (g := false) rfl rfl rfl ?_
    refine s_pass (g := false) rfl rfl rfl ?_
    refine s_val (v_pickF (v := .bool _) rfl rfl rfl) ?_
    refine s_val (v_move (v := .bool _) rfl) ?_
    refine s_pass (g := false) rfl rfl rfl ?_
    refine s_pass (g := false) rfl rfl rfl ?_
    refine s_pass (g := false) rfl rfl rfl ?_
    refine s_val (v_pickF (v := .bool _) rfl rfl rfl) ?_
    refine s_val (v_assign (v := .bool _) rfl) ?_
    refine s_nil ?_
    refine c_ret ?_
    refine n_done rfl (by decide) (Eq.trans (b := .bool _) rfl (congrArg Value.bool ?_))
    simp only [goodB, *, Bool.true_and, Bool.false_and, Bool.and_true, Bool.and_false, Bool.not_true, Bool.not_false, Bool.true_or, Bool.or_true, Bool.false_or, Bool.or_false, cond_true, cond_false, if_true, if_false, Bool.false_eq_true, decide_true, decide_false]
  refine s_want rfl rfl h13 ?_
  refine s_val (v_field (fo := 0) (by kernel_rfl) rfl) ?_
  refine s_want rfl rfl h13 ?_
  refine s_val (v_loadN (m := 8) (cs' := accA _ _) (by kernel_rfl) rfl .here (accA_size _ _) (H.ex_acc _)) ?_
  refine s_want rfl rfl h13 ?_
  refine s_call (by kernel_rfl) (fun w hw => g_goodAccounts _ _ w) ?_
  refine s_val (v_pickT (v := .bool _) rfl h13 rfl) ?_
  refine s_val (v_move (v := .bool _) rfl) ?_
  refine s_splitR (s := 18) rfl (fun h18 => ?_) (fun h18 => ?_)
  · refine s_pass rfl rfl h18 ?_
    refine s_pass rfl rfl h18 ?_
    refine s_pass rfl rfl h18 ?_
    refine s_val (v_pickF (v := .bool _) rfl h18 rfl) ?_
    refine s_val (v_move (v := .bool _) rfl) ?_
    refine s_pass (g := false) rfl rfl rfl ?_
    refine s_pass (g := false) rfl rfl rfl ?_
    refine s_pass (g := false) rfl rfl rfl ?_
    refine s_val (v_pickF (v := .bool _) rfl rfl rfl) ?_
    refine s_val (v_assign (v := .bool _) rfl) ?_
    refine s_nil ?_
    refine c_ret ?_
    refine n_done rfl (by decide) (Eq.trans (b := .bool _) rfl (congrArg Value.bool ?_))
    simp only [goodB, *, Bool.true_and, Bool.false_and, Bool.and_true, Bool.and_false, Bool.not_true, Bool.not_false, Bool.true_or, Bool.or_true, Bool.false_or, Bool.or_false, cond_true, cond_false, if_true, if_false, Bool.false_eq_true, decide_true, decide_false]
  refine s_want rfl rfl h18 ?_
  refine s_val (v_field (fo := 8) (by kernel_rfl) rfl) ?_
  refine s_want rfl rfl h18 ?_
  refine s_val (v_loadN (m := 16) (cs' := matA _) (by kernel_rfl) rfl .here (matA_size _) (H.ex_sent _)) ?_
  refine s_want rfl rfl h18 ?_
  refine s_call (by kernel_rfl) (fun w hw => g_goodSent _ w) ?_
  refine s_val (v_pickT (v := .bool _) rfl h18 rfl) ?_
  refine s_val (v_move (v := .bool _) rfl) ?_
  refine s_splitR (s := 23) rfl (fun h23 => ?_) (fun h23 => ?_)
  · refine s_pass rfl rfl h23 ?_
    refine s_pass rfl rfl h23 ?_
    refine s_pass rfl rfl h23 ?_
    refine s_val (v_pickF (v := .bool _) rfl h23 rfl) ?_
    refine s_val (v_assign (v := .bool _) rfl) ?_
    refine s_nil ?_
    refine c_ret ?_
    refine n_done rfl (by decide) (Eq.trans (b := .bool _) rfl (congrArg Value.bool ?_))
    simp only [goodB, *, Bool.true_and, Bool.false_and, Bool.and_true, Bool.and_false, Bool.not_true, Bool.not_false, Bool.true_or, Bool.or_true, Bool.false_or, Bool.or_false, cond_true, cond_false, if_true, if_false, Bool.false_eq_true, decide_true, decide_false]
  refine s_want rfl rfl h23 ?_
  refine s_val (v_field (fo := 24) (by kernel_rfl) rfl) ?_
  refine s_want rfl rfl h23 ?_
  refine s_val (v_loadN (m := 16) (cs' := matA _) (by kernel_rfl) rfl .here (matA_size _) (H.ex_lim _)) ?_
  refine s_want rfl rfl h23 ?_
  refine s_call (by kernel_rfl) (fun w hw => g_goodLimits _ w) ?_
  refine s_val (v_pickT (v := .bool _) rfl h23 rfl) ?_
  refine s_val (v_assign (v := .bool _) rfl) ?_
  refine s_nil ?_
  refine c_ret ?_
  refine n_done rfl (by decide) (Eq.trans (b := .bool _) rfl (congrArg Value.bool ?_))
  simp only [goodB, *, Bool.true_and, Bool.false_and, Bool.and_true, Bool.and_false, Bool.not_true, Bool.not_false, Bool.true_or, Bool.or_true, Bool.false_or, Bool.or_false, cond_true, cond_false, if_true, if_false, Bool.false_eq_true, decide_true, decide_false]

end Go.Proofs.Ytmkboljfbmlebaa
/- The law LedgerSums comes out true of every house. Condition: its payments lie in memory that was there. -/
namespace Go.Proofs.Ytmkboljfbmlebaa
open Go.RowKit
set_option linter.unusedSimpArgs false
set_option linter.unusedVariables false
set_option maxRecDepth 100000
attribute [local irreducible] cC sC nC rC qw

theorem gk_ledgers  (w : World) : Gives Try.prog 31 [] w (.bool true) := by
  refine gives_of Try.func31 rfl Try.ntmps31 (by simp) ?_
  refine r_seq (by kernel_rfl) ?_
  refine s_val (v_assign (v := .bool _) rfl) ?_
  refine s_nil ?_
  refine r_seq (by kernel_rfl) ?_
  refine s_call (by kernel_rfl) (fun w hw => g_New w) ?_
  refine s_alloc (z := .agg zeroH.cells) (by kernel_rfl) (fun b1 => ?_)
  refine s_storeA (m := 42) (by kernel_rfl) rfl rfl .here (H.size _) (H.size _) (H.all1 _) ?_
  refine s_nil ?_
  refine r_seq (by kernel_rfl) ?_
  refine s_val (v_field (fo := 0) (by kernel_rfl) rfl) ?_
  refine s_val (v_idxA (len := 4) (size := 2) (k := .i64) (by kernel_rfl) rfl rfl (by decide)) ?_
  refine s_val (v_field (fo := 0) (by kernel_rfl) rfl) ?_
  refine s_store1 (v := .int .i64 _) (by kernel_rfl) rfl rfl .here (H.set_has _ (by decide)) rfl ?_
  refine s_nil ?_
  refine r_seq (by kernel_rfl) ?_
  refine s_val (v_loadA (m := 42) (by kernel_rfl) rfl .here (H.size _)) ?_
  refine s_call (by kernel_rfl) (fun w hw => g_Move _ _ _ _ w) ?_
  refine s_alloc (z := .agg zeroH.cells) (by kernel_rfl) (fun b2 => ?_)
  refine s_storeA (m := 42) (by kernel_rfl) rfl rfl .here (H.size _) (H.size _) (H.all1 _) ?_
  refine s_nil ?_
  refine r_seq (by kernel_rfl) ?_
  refine s_val (v_loadA (m := 42) (by kernel_rfl) rfl (.there .here) (H.size _)) ?_
  refine s_call (by kernel_rfl) (fun w hw => g_Good _ [] w ⟨rfl, .inl rfl⟩) ?_
  refine s_val (v_move (v := .bool _) rfl) ?_
  refine s_want rfl rfl rfl ?_
  refine s_val (v_loadA (m := 42) (by kernel_rfl) rfl (.there .here) (H.size _)) ?_
  refine s_want rfl rfl rfl ?_
  refine s_call (by kernel_rfl) (fun w hw => g_May _ _ _ _ w) ?_
  refine s_val (v_pickT (v := .bool _) rfl rfl rfl) ?_
  refine s_val (v_move (v := .bool _) rfl) ?_
  refine s_want rfl rfl rfl ?_
  refine s_val (v_loadA (m := 42) (by kernel_rfl) rfl (.there .here) (H.size _)) ?_
  refine s_want rfl rfl rfl ?_
  refine s_call (by kernel_rfl) (fun w hw => g_May _ _ _ _ w) ?_
  refine s_want rfl rfl rfl ?_
  refine s_val (v_not rfl) ?_
  refine s_val (v_pickT (v := .bool _) rfl rfl rfl) ?_
  refine s_val (v_move (v := .bool _) rfl) ?_
  refine s_want rfl rfl (congrArg not rfl) ?_
  refine s_val (v_field (fo := 0) (by kernel_rfl) rfl) ?_
  refine s_want rfl rfl (congrArg not rfl) ?_
  refine s_val (v_idxA (len := 4) (size := 2) (k := .i64) (by kernel_rfl) rfl rfl (by decide)) ?_
  refine s_want rfl rfl (congrArg not rfl) ?_
  refine s_val (v_field (fo := 0) (by kernel_rfl) rfl) ?_
  refine s_want rfl rfl (congrArg not rfl) ?_
  refine s_val (v_load1 (v := .int .i64 _) (by kernel_rfl) rfl .here (H.at_has _ (by decide))) ?_
  refine s_want rfl rfl (congrArg not rfl) ?_
  refine s_val (v_eql (k := .i64) rfl rfl) ?_
  refine s_val (v_pickT (v := .bool _) rfl (congrArg not rfl) rfl) ?_
  refine s_val (v_move (v := .bool _) rfl) ?_
  refine s_want rfl rfl rfl ?_
  refine s_val (v_loadA (m := 42) (by kernel_rfl) rfl .here (H.size _)) ?_
  refine s_want rfl rfl rfl ?_
  refine s_call (by kernel_rfl) (fun w hw => g_Net _ _ _ w) ?_
  refine s_want rfl rfl rfl ?_
  refine s_val (v_eql (k := .i64) rfl rfl) ?_
  refine s_val (v_pickT (v := .bool _) rfl rfl rfl) ?_
  refine s_val (v_move (v := .bool _) rfl) ?_
  refine s_want rfl rfl rfl ?_
  refine s_val (v_loadA (m := 42) (by kernel_rfl) rfl .here (H.size _)) ?_
  refine s_want rfl rfl rfl ?_
  refine s_call (by kernel_rfl) (fun w hw => g_Sum _ w) ?_
  refine s_want rfl rfl rfl ?_
  refine s_val (v_eql (k := .i64) rfl rfl) ?_
  refine s_val (v_pickT (v := .bool _) rfl rfl rfl) ?_
  refine s_val (v_assign (v := .bool _) rfl) ?_
  refine s_nil ?_
  refine c_ret ?_
  refine n_done rfl (by decide) (Eq.trans (b := .bool _) rfl (congrArg Value.bool ?_))
  rfl

theorem law_LedgerSums (h : H) (ps : List PayS) (a b n : Int) (w : World) (hp : PaysIn (At w) h.pa h.pl ps) : Gives Try.prog 4 [.agg h.cells, I a, I b, I n] w (.bool true) := by
  refine gives_of Try.func4 rfl Try.ntmps4 (by simp) ?_
  refine r_seq (by kernel_rfl) ?_
  refine s_box (v := .agg _) rfl (fun b4 => ?_)
  refine s_val (v_assign (v := .bool _) rfl) ?_
  refine s_nil ?_
  refine c_seq ?_
  refine r_seq (by kernel_rfl) ?_
  refine s_val (v_loadA (m := 42) (by kernel_rfl) rfl .here (H.size _)) ?_
  refine s_call (by kernel_rfl) (fun w hw => g_Good _ _ w (hp.at hw)) ?_
  refine s_val (v_not rfl) ?_
  refine s_val (v_move (v := .bool _) rfl) ?_
  refine s_splitN (s := 16) rfl (fun h16 => ?_) (fun h16 => ?_)
  · refine s_pass rfl rfl (congrArg not h16) ?_
    refine s_pass rfl rfl (congrArg not h16) ?_
    refine s_pass rfl rfl (congrArg not h16) ?_
    refine s_val (v_pickT (v := .bool _) rfl (congrArg not h16) rfl) ?_
    refine s_nil ?_
    refine c_condTh rfl rfl rfl ?_
    refine r_seq (by kernel_rfl) ?_
    refine s_call (by kernel_rfl) (fun w hw => gk_ledgers w) ?_
    refine s_val (v_assign (v := .bool _) rfl) ?_
    refine s_nil ?_
    refine c_ret ?_
    refine n_ret ?_
    refine n_done rfl (by decide) (Eq.trans (b := .bool _) rfl (congrArg Value.bool ?_))
    rfl
  refine s_want rfl rfl (congrArg not h16) ?_
  refine s_val (v_loadA (m := 42) (by kernel_rfl) rfl .here (H.size _)) ?_
  refine s_want rfl rfl (congrArg not h16) ?_
  refine s_call (by kernel_rfl) (fun w hw => gk_roomy _ w) ?_
  refine s_want rfl rfl (congrArg not h16) ?_
  refine s_val (v_not rfl) ?_
  refine s_val (v_pickF (v := .bool _) rfl (congrArg not h16) rfl) ?_
  refine s_nil ?_
  refine c_condN rfl rfl (fun h20 => ?_) (fun h20 => ?_)
  · refine r_seq (by kernel_rfl) ?_
    refine s_call (by kernel_rfl) (fun w hw => gk_ledgers w) ?_
    refine s_val (v_assign (v := .bool _) rfl) ?_
    refine s_nil ?_
    refine c_ret ?_
    refine n_ret ?_
    refine n_done rfl (by decide) (Eq.trans (b := .bool _) rfl (congrArg Value.bool ?_))
    rfl
  refine c_skip ?_
  refine n_then ?_
  have G := good_of h16
  refine r_seq (by kernel_rfl) ?_
  refine s_val (v_loadA (m := 42) (by kernel_rfl) rfl .here (H.size _)) ?_
  refine s_val (v_move (v := .int .i64 _) rfl) ?_
  refine s_val (v_move (v := .int .i64 _) rfl) ?_
  refine s_val (v_move (v := .int .i64 _) rfl) ?_
  refine s_call (by kernel_rfl) (fun w hw => g_Move _ _ _ _ w) ?_
  refine s_alloc (z := .agg zeroH.cells) (by kernel_rfl) (fun b9 => ?_)
  refine s_storeA (m := 42) (by kernel_rfl) rfl rfl .here (H.size _) (H.size _) (H.all1 _) ?_
  refine s_nil ?_
  refine c_seq ?_
  refine d_seq (by kernel_rfl) (by kernel_rfl) (fun w hw => hw.drew) (by kernel_rfl) ?_
  refine q_val (v_loadA (m := 42) (by kernel_rfl) rfl .here (H.size _)) ?_
  refine q_call (by kernel_rfl) (fun w hw => g_Sum _ w) ?_
  refine q_val (v_loadA (m := 42) (by kernel_rfl) rfl (.there .here) (H.size _)) ?_
  refine q_call (by kernel_rfl) (fun w hw => g_Sum _ w) ?_
  refine q_val (v_neq (k := .i64) rfl rfl) ?_
  refine q_nil ?_
  refine c_condFh rfl rfl (congrArg not (decide_eq_true (move_sum G a b n))) ?_
  refine c_skip ?_
  refine n_then ?_
  refine c_seq ?_
  refine r_seq (by kernel_rfl) ?_
  refine s_val (v_move (v := .int .i64 _) rfl) ?_
  refine s_nil ?_
  refine c_block ?_
  refine c_loop (σ := Nat) (fun (k : Nat) f => ∃ g, (k ≤ 4) ∧ f = (upd (upd (upd (upd (upd (upd g 1 (I a)) 2 (I b)) 3 (I n)) 4 (.pointer (some ⟨b4, 0, none⟩))) 9 (.pointer (some ⟨b9, 0, none⟩))) 32 (I k))) (fun (k : Nat) => Has w (At w) [(b9, .cells (moveM h a b n).cells 29), (b4, .cells h.cells 29)]) (fun (k : Nat) => 4 - k) 0 ⟨_, Nat.zero_le _, live6 rfl rfl rfl rfl rfl rfl⟩ (fun w hw => hw) ?_
  rintro k _ ⟨g, hkl, rfl⟩
  refine r_seq (by kernel_rfl) ?_
  refine s_val (v_lss (k := .i64) rfl rfl) ?_
  refine s_nil ?_
  refine c_seq ?_
  refine c_condR rfl rfl (fun h33 => ?_) (fun h33 => ?_)
  · refine c_exit ?_
    refine n_exit ?_
    refine n_exit ?_
    refine n_bhere ?_
    refine n_then ?_
    refine c_seq ?_
    refine r_seq (by kernel_rfl) ?_
    refine s_val (v_loadA (m := 42) (by kernel_rfl) rfl (.there .here) (H.size _)) ?_
    refine s_val (v_move (v := .int .i64 _) rfl) ?_
    refine s_val (v_move (v := .int .i64 _) rfl) ?_
    refine s_val (v_move (v := .int .i64 _) rfl) ?_
    refine s_call (by kernel_rfl) (fun w hw => g_May _ _ _ _ w) ?_
    refine s_nil ?_
    refine c_condR rfl rfl (fun h73 => ?_) (fun h73 => ?_)
    · refine c_skip ?_
      refine n_then ?_
      refine r_seq (by kernel_rfl) ?_
      refine s_call (by kernel_rfl) (fun w hw => gk_ledgers w) ?_
      refine s_val (v_assign (v := .bool _) rfl) ?_
      refine s_nil ?_
      refine c_ret ?_
      refine n_done rfl (by decide) (Eq.trans (b := .bool _) rfl (congrArg Value.bool ?_))
      rfl
    obtain ⟨ht, _, _⟩ := may_spec G h73
    obtain ⟨ha, hb, _⟩ := transfer_spec ht
    refine r_seq (by kernel_rfl) ?_
    refine s_val (v_move (v := .int .i64 _) rfl) ?_
    refine s_val (v_move (v := .int .i64 _) rfl) ?_
    refine s_val (v_field (fo := 24) (by kernel_rfl) rfl) ?_
    refine s_val (v_idxA (len := 4) (size := 4) (k := .i64) (by kernel_rfl) rfl rfl (by assumption)) ?_
    refine s_val (v_idxA (len := 4) (size := 1) (k := .i64) (by kernel_rfl) rfl rfl (by assumption)) ?_
    refine s_val (v_load1 (v := .int .i64 _) (by kernel_rfl) rfl .here (H.at_lim _ (by assumption) (by assumption))) ?_
    refine s_val (v_assign (v := .int .i64 _) rfl) ?_
    refine s_nil ?_
    refine d_seq (by kernel_rfl) (by kernel_rfl) (fun w hw => hw.drew) (by kernel_rfl) ?_
    refine q_val (v_loadA (m := 42) (by kernel_rfl) rfl .here (H.size _)) ?_
    refine q_val (v_move (v := .int .i64 _) rfl) ?_
    refine q_call (by kernel_rfl) (fun w hw => g_Left _ _ w) ?_
    refine q_val (v_lss (k := .i64) rfl rfl) ?_
    refine q_val (v_move (v := .bool _) rfl) ?_
    refine q_want rfl rfl (decide_eq_false (fun e => (may_left G h73).1 e)) ?_
    refine q_val (v_loadA (m := 42) (by kernel_rfl) rfl .here (H.size _)) ?_
    refine q_want rfl rfl (decide_eq_false (fun e => (may_left G h73).1 e)) ?_
    refine q_val (v_move (v := .int .i64 _) rfl) ?_
    refine q_want rfl rfl (decide_eq_false (fun e => (may_left G h73).1 e)) ?_
    refine q_call (by kernel_rfl) (fun w hw => g_Left _ _ w) ?_
    refine q_want rfl rfl (decide_eq_false (fun e => (may_left G h73).1 e)) ?_
    refine q_val (v_loadA (m := 42) (by kernel_rfl) rfl (.there .here) (H.size _)) ?_
    refine q_want rfl rfl (decide_eq_false (fun e => (may_left G h73).1 e)) ?_
    refine q_val (v_move (v := .int .i64 _) rfl) ?_
    refine q_want rfl rfl (decide_eq_false (fun e => (may_left G h73).1 e)) ?_
    refine q_call (by kernel_rfl) (fun w hw => g_Left _ _ w) ?_
    refine q_want rfl rfl (decide_eq_false (fun e => (may_left G h73).1 e)) ?_
    refine q_val (v_move (v := .int .i64 _) rfl) ?_
    refine q_want rfl rfl (decide_eq_false (fun e => (may_left G h73).1 e)) ?_
    refine q_val (v_addw rfl rfl) ?_
    refine q_want rfl rfl (decide_eq_false (fun e => (may_left G h73).1 e)) ?_
    refine q_val (v_neq (k := .i64) rfl rfl) ?_
    refine q_val (v_pickF (v := .bool _) rfl (decide_eq_false (fun e => (may_left G h73).1 e)) rfl) ?_
    refine q_val (v_move (v := .bool _) rfl) ?_
    refine q_want rfl rfl (congrArg not (decide_eq_true (may_right G h73))) ?_
    refine q_val (v_move (v := .int .i64 _) rfl) ?_
    refine q_want rfl rfl (congrArg not (decide_eq_true (may_right G h73))) ?_
    refine q_val (v_geq (k := .i64) rfl rfl) ?_
    refine q_want rfl rfl (congrArg not (decide_eq_true (may_right G h73))) ?_
    refine q_val (v_move (v := .bool _) rfl) ?_
    refine q_splitR (s := 98) rfl (fun h98 => ?_) (fun h98 => ?_)
    · refine q_pass rfl rfl h98 ?_
      refine q_pass rfl rfl h98 ?_
      refine q_pass rfl rfl h98 ?_
      refine q_pass rfl rfl h98 ?_
      refine q_pass rfl rfl h98 ?_
      refine q_pass rfl rfl h98 ?_
      refine q_want rfl rfl (congrArg not (decide_eq_true (may_right G h73))) ?_
      refine q_val (v_pickF (v := .bool _) rfl h98 rfl) ?_
      refine q_val (v_pickF (v := .bool _) rfl (congrArg not (decide_eq_true (may_right G h73))) rfl) ?_
      refine q_nil ?_
      refine c_condFh rfl rfl rfl ?_
      refine c_skip ?_
      refine n_then ?_
      refine r_seq (by kernel_rfl) ?_
      refine s_call (by kernel_rfl) (fun w hw => gk_ledgers w) ?_
      refine s_val (v_assign (v := .bool _) rfl) ?_
      refine s_nil ?_
      refine c_ret ?_
      refine n_done rfl (by decide) (Eq.trans (b := .bool _) rfl (congrArg Value.bool ?_))
      rfl
    refine q_want rfl rfl h98 ?_
    refine q_val (v_loadA (m := 42) (by kernel_rfl) rfl .here (H.size _)) ?_
    refine q_want rfl rfl h98 ?_
    refine q_val (v_move (v := .int .i64 _) rfl) ?_
    refine q_want rfl rfl h98 ?_
    refine q_val (v_move (v := .int .i64 _) rfl) ?_
    refine q_want rfl rfl h98 ?_
    refine q_call (by kernel_rfl) (fun w hw => g_Net _ _ _ w) ?_
    refine q_want rfl rfl h98 ?_
    refine q_val (v_move (v := .int .i64 _) rfl) ?_
    refine q_want rfl rfl h98 ?_
    refine q_val (v_gtr (k := .i64) rfl rfl) ?_
    refine q_want rfl rfl (congrArg not (decide_eq_true (may_right G h73))) ?_
    refine q_val (v_pickT (v := .bool _) rfl h98 rfl) ?_
    refine q_val (v_pickF (v := .bool _) rfl (congrArg not (decide_eq_true (may_right G h73))) rfl) ?_
    refine q_nil ?_
    refine c_condFh rfl rfl (decide_eq_false (may_net G h73 (of_decide_eq_true h98))) ?_
    refine c_skip ?_
    refine n_then ?_
    refine r_seq (by kernel_rfl) ?_
    refine s_call (by kernel_rfl) (fun w hw => gk_ledgers w) ?_
    refine s_val (v_assign (v := .bool _) rfl) ?_
    refine s_nil ?_
    refine c_ret ?_
    refine n_done rfl (by decide) (Eq.trans (b := .bool _) rfl (congrArg Value.bool ?_))
    rfl
  have hk0 := of_decide_eq_true h33
  have hi : 0 ≤ (k : Int) ∧ (k : Int) < 4 := ⟨by omega, by omega⟩
  refine c_skip ?_
  refine n_then ?_
  refine c_seq ?_
  refine c_block ?_
  refine r_seq (by kernel_rfl) ?_
  refine s_val (v_move (v := .int .i64 _) rfl) ?_
  refine s_val (v_assign (v := .int .i64 _) rfl) ?_
  refine s_nil ?_
  refine c_seq ?_
  refine d_seq (by kernel_rfl) (by kernel_rfl) (fun w hw => hw.drew) (by kernel_rfl) ?_
  refine q_val (v_move (v := .int .i64 _) rfl) ?_
  refine q_val (v_move (v := .int .i64 _) rfl) ?_
  refine q_val (v_neq (k := .i64) rfl rfl) ?_
  refine q_val (v_move (v := .bool _) rfl) ?_
  refine q_splitNR (s := 38) rfl (fun h38 => ?_) (fun h38 => ?_)
  · refine q_pass rfl rfl (congrArg not h38) ?_
    refine q_pass rfl rfl (congrArg not h38) ?_
    refine q_pass rfl rfl (congrArg not h38) ?_
    refine q_val (v_pickF (v := .bool _) rfl (congrArg not h38) rfl) ?_
    refine q_val (v_move (v := .bool _) rfl) ?_
    refine q_pass (g := false) rfl rfl rfl ?_
    refine q_pass (g := false) rfl rfl rfl ?_
    refine q_pass (g := false) rfl rfl rfl ?_
    refine q_pass (g := false) rfl rfl rfl ?_
    refine q_pass (g := false) rfl rfl rfl ?_
    refine q_pass (g := false) rfl rfl rfl ?_
    refine q_pass (g := false) rfl rfl rfl ?_
    refine q_pass (g := false) rfl rfl rfl ?_
    refine q_pass (g := false) rfl rfl rfl ?_
    refine q_val (v_pickF (v := .bool _) rfl rfl rfl) ?_
    refine q_nil ?_
    refine c_condFh rfl rfl rfl ?_
    refine c_skip ?_
    refine n_then ?_
    refine r_seq (by kernel_rfl) ?_
    refine s_val (v_move (v := .int .i64 _) rfl) ?_
    refine s_nil ?_
    refine c_block ?_
    refine c_loop (σ := Nat) (fun (m : Nat) f => ∃ g, (m ≤ 4) ∧ f = (upd (upd (upd (upd (upd (upd (upd (upd g 1 (I a)) 2 (I b)) 3 (I n)) 4 (.pointer (some ⟨b4, 0, none⟩))) 9 (.pointer (some ⟨b9, 0, none⟩))) 10 (I k)) 32 (I k)) 54 (I m))) (fun (m : Nat) => Has w (At w) [(b9, .cells (moveM h a b n).cells 29), (b4, .cells h.cells 29)]) (fun (m : Nat) => 4 - m) 0 ⟨_, Nat.zero_le _, live8 rfl rfl rfl rfl rfl rfl rfl rfl⟩ (fun w hw => hw) ?_
    rintro m _ ⟨g, hml, rfl⟩
    refine r_seq (by kernel_rfl) ?_
    refine s_val (v_lss (k := .i64) rfl rfl) ?_
    refine s_nil ?_
    refine c_seq ?_
    refine c_condR rfl rfl (fun h55 => ?_) (fun h55 => ?_)
    · refine c_exit ?_
      refine n_exit ?_
      refine n_exit ?_
      refine n_bhere ?_
      refine n_bnormal ?_
      refine n_then ?_
      refine r_list (by kernel_rfl) ?_
      refine s_val (v_add rfl rfl (by omega)) ?_
      refine s_val (v_move (v := .int .i64 _) rfl) ?_
      refine s_end ?_
      refine n_round (k + 1) ⟨_, (by omega), live6 rfl rfl rfl rfl rfl rfl⟩ (fun _ hw => hw) (by omega)
    have hm0 := of_decide_eq_true h55
    have hm : 0 ≤ (m : Int) ∧ (m : Int) < 4 := ⟨by omega, by omega⟩
    refine c_skip ?_
    refine n_then ?_
    refine c_seq ?_
    refine c_block ?_
    refine r_seq (by kernel_rfl) ?_
    refine s_val (v_move (v := .int .i64 _) rfl) ?_
    refine s_val (v_assign (v := .int .i64 _) rfl) ?_
    refine s_nil ?_
    refine d_seq (by kernel_rfl) (by kernel_rfl) (fun w hw => hw.drew) (by kernel_rfl) ?_
    refine q_val (v_loadA (m := 42) (by kernel_rfl) rfl .here (H.size _)) ?_
    refine q_val (v_move (v := .int .i64 _) rfl) ?_
    refine q_val (v_move (v := .int .i64 _) rfl) ?_
    refine q_call (by kernel_rfl) (fun w hw => g_Net _ _ _ w) ?_
    refine q_val (v_loadA (m := 42) (by kernel_rfl) rfl .here (H.size _)) ?_
    refine q_val (v_move (v := .int .i64 _) rfl) ?_
    refine q_val (v_move (v := .int .i64 _) rfl) ?_
    refine q_call (by kernel_rfl) (fun w hw => g_Net _ _ _ w) ?_
    refine q_val (v_negw rfl) ?_
    refine q_val (v_neq (k := .i64) rfl rfl) ?_
    refine q_nil ?_
    refine c_condFh rfl rfl (congrArg not (decide_eq_true (net_anti (move_sent G a b n) hi hm))) ?_
    refine c_skip ?_
    refine n_bnormal ?_
    refine n_then ?_
    refine r_list (by kernel_rfl) ?_
    refine s_val (v_add rfl rfl (by omega)) ?_
    refine s_val (v_move (v := .int .i64 _) rfl) ?_
    refine s_end ?_
    refine n_round (m + 1) ⟨_, (by omega), live8 rfl rfl rfl rfl rfl rfl rfl rfl⟩ (fun _ hw => hw) (by omega)
  refine q_want rfl rfl (congrArg not h38) ?_
  refine q_val (v_move (v := .int .i64 _) rfl) ?_
  refine q_want rfl rfl (congrArg not h38) ?_
  refine q_val (v_move (v := .int .i64 _) rfl) ?_
  refine q_want rfl rfl (congrArg not h38) ?_
  refine q_val (v_neq (k := .i64) rfl rfl) ?_
  refine q_val (v_pickT (v := .bool _) rfl (congrArg not h38) rfl) ?_
  refine q_val (v_move (v := .bool _) rfl) ?_
  refine q_splitNR (s := 43) rfl (fun h43 => ?_) (fun h43 => ?_)
  · refine q_pass rfl rfl (congrArg not h43) ?_
    refine q_pass rfl rfl (congrArg not h43) ?_
    refine q_pass rfl rfl (congrArg not h43) ?_
    refine q_pass rfl rfl (congrArg not h43) ?_
    refine q_pass rfl rfl (congrArg not h43) ?_
    refine q_pass rfl rfl (congrArg not h43) ?_
    refine q_pass rfl rfl (congrArg not h43) ?_
    refine q_pass rfl rfl (congrArg not h43) ?_
    refine q_pass rfl rfl (congrArg not h43) ?_
    refine q_val (v_pickF (v := .bool _) rfl (congrArg not h43) rfl) ?_
    refine q_nil ?_
    refine c_condFh rfl rfl rfl ?_
    refine c_skip ?_
    refine n_then ?_
    refine r_seq (by kernel_rfl) ?_
    refine s_val (v_move (v := .int .i64 _) rfl) ?_
    refine s_nil ?_
    refine c_block ?_
    refine c_loop (σ := Nat) (fun (m : Nat) f => ∃ g, (m ≤ 4) ∧ f = (upd (upd (upd (upd (upd (upd (upd (upd g 1 (I a)) 2 (I b)) 3 (I n)) 4 (.pointer (some ⟨b4, 0, none⟩))) 9 (.pointer (some ⟨b9, 0, none⟩))) 10 (I k)) 32 (I k)) 54 (I m))) (fun (m : Nat) => Has w (At w) [(b9, .cells (moveM h a b n).cells 29), (b4, .cells h.cells 29)]) (fun (m : Nat) => 4 - m) 0 ⟨_, Nat.zero_le _, live8 rfl rfl rfl rfl rfl rfl rfl rfl⟩ (fun w hw => hw) ?_
    rintro m _ ⟨g, hml, rfl⟩
    refine r_seq (by kernel_rfl) ?_
    refine s_val (v_lss (k := .i64) rfl rfl) ?_
    refine s_nil ?_
    refine c_seq ?_
    refine c_condR rfl rfl (fun h55 => ?_) (fun h55 => ?_)
    · refine c_exit ?_
      refine n_exit ?_
      refine n_exit ?_
      refine n_bhere ?_
      refine n_bnormal ?_
      refine n_then ?_
      refine r_list (by kernel_rfl) ?_
      refine s_val (v_add rfl rfl (by omega)) ?_
      refine s_val (v_move (v := .int .i64 _) rfl) ?_
      refine s_end ?_
      refine n_round (k + 1) ⟨_, (by omega), live6 rfl rfl rfl rfl rfl rfl⟩ (fun _ hw => hw) (by omega)
    have hm0 := of_decide_eq_true h55
    have hm : 0 ≤ (m : Int) ∧ (m : Int) < 4 := ⟨by omega, by omega⟩
    refine c_skip ?_
    refine n_then ?_
    refine c_seq ?_
    refine c_block ?_
    refine r_seq (by kernel_rfl) ?_
    refine s_val (v_move (v := .int .i64 _) rfl) ?_
    refine s_val (v_assign (v := .int .i64 _) rfl) ?_
    refine s_nil ?_
    refine d_seq (by kernel_rfl) (by kernel_rfl) (fun w hw => hw.drew) (by kernel_rfl) ?_
    refine q_val (v_loadA (m := 42) (by kernel_rfl) rfl .here (H.size _)) ?_
    refine q_val (v_move (v := .int .i64 _) rfl) ?_
    refine q_val (v_move (v := .int .i64 _) rfl) ?_
    refine q_call (by kernel_rfl) (fun w hw => g_Net _ _ _ w) ?_
    refine q_val (v_loadA (m := 42) (by kernel_rfl) rfl .here (H.size _)) ?_
    refine q_val (v_move (v := .int .i64 _) rfl) ?_
    refine q_val (v_move (v := .int .i64 _) rfl) ?_
    refine q_call (by kernel_rfl) (fun w hw => g_Net _ _ _ w) ?_
    refine q_val (v_negw rfl) ?_
    refine q_val (v_neq (k := .i64) rfl rfl) ?_
    refine q_nil ?_
    refine c_condFh rfl rfl (congrArg not (decide_eq_true (net_anti (move_sent G a b n) hi hm))) ?_
    refine c_skip ?_
    refine n_bnormal ?_
    refine n_then ?_
    refine r_list (by kernel_rfl) ?_
    refine s_val (v_add rfl rfl (by omega)) ?_
    refine s_val (v_move (v := .int .i64 _) rfl) ?_
    refine s_end ?_
    refine n_round (m + 1) ⟨_, (by omega), live8 rfl rfl rfl rfl rfl rfl rfl rfl⟩ (fun _ hw => hw) (by omega)
  refine q_want rfl rfl (congrArg not h43) ?_
  refine q_val (v_move (v := .int .i64 _) rfl) ?_
  refine q_want rfl rfl (congrArg not h43) ?_
  refine q_val (v_field (fo := 0) (by kernel_rfl) rfl) ?_
  refine q_want rfl rfl (congrArg not h43) ?_
  refine q_val (v_idxA (len := 4) (size := 2) (k := .i64) (by kernel_rfl) rfl rfl (by assumption)) ?_
  refine q_want rfl rfl (congrArg not h43) ?_
  refine q_val (v_loadN (m := 2) (cs' := acc2 _ _) (by kernel_rfl) rfl .here rfl (H.ex_acc1 _ (by assumption))) ?_
  refine q_want rfl rfl (congrArg not h43) ?_
  refine q_val (v_move (v := .int .i64 _) rfl) ?_
  refine q_want rfl rfl (congrArg not h43) ?_
  refine q_val (v_field (fo := 0) (by kernel_rfl) rfl) ?_
  refine q_want rfl rfl (congrArg not h43) ?_
  refine q_val (v_idxA (len := 4) (size := 2) (k := .i64) (by kernel_rfl) rfl rfl (by assumption)) ?_
  refine q_want rfl rfl (congrArg not h43) ?_
  refine q_val (v_loadN (m := 2) (cs' := acc2 _ _) (by kernel_rfl) rfl (.there .here) rfl (H.ex_acc1 _ (by assumption))) ?_
  refine q_want rfl rfl (congrArg not h43) ?_
  refine q_val (v_neqFlat (n := 2) _ _ (by kernel_rfl) rfl rfl (acc2_list _ _) (acc2_list _ _) rfl rfl) ?_
  refine q_val (v_pickT (v := .bool _) rfl (congrArg not h43) rfl) ?_
  refine q_nil ?_
  refine c_condFh rfl rfl (congrArg not (decide_eq_true (acc_same (of_decide_eq_false h38) (of_decide_eq_false h43)))) ?_
  refine c_skip ?_
  refine n_then ?_
  refine r_seq (by kernel_rfl) ?_
  refine s_val (v_move (v := .int .i64 _) rfl) ?_
  refine s_nil ?_
  refine c_block ?_
  refine c_loop (σ := Nat) (fun (m : Nat) f => ∃ g, (m ≤ 4) ∧ f = (upd (upd (upd (upd (upd (upd (upd (upd g 1 (I a)) 2 (I b)) 3 (I n)) 4 (.pointer (some ⟨b4, 0, none⟩))) 9 (.pointer (some ⟨b9, 0, none⟩))) 10 (I k)) 32 (I k)) 54 (I m))) (fun (m : Nat) => Has w (At w) [(b9, .cells (moveM h a b n).cells 29), (b4, .cells h.cells 29)]) (fun (m : Nat) => 4 - m) 0 ⟨_, Nat.zero_le _, live8 rfl rfl rfl rfl rfl rfl rfl rfl⟩ (fun w hw => hw) ?_
  rintro m _ ⟨g, hml, rfl⟩
  refine r_seq (by kernel_rfl) ?_
  refine s_val (v_lss (k := .i64) rfl rfl) ?_
  refine s_nil ?_
  refine c_seq ?_
  refine c_condR rfl rfl (fun h55 => ?_) (fun h55 => ?_)
  · refine c_exit ?_
    refine n_exit ?_
    refine n_exit ?_
    refine n_bhere ?_
    refine n_bnormal ?_
    refine n_then ?_
    refine r_list (by kernel_rfl) ?_
    refine s_val (v_add rfl rfl (by omega)) ?_
    refine s_val (v_move (v := .int .i64 _) rfl) ?_
    refine s_end ?_
    refine n_round (k + 1) ⟨_, (by omega), live6 rfl rfl rfl rfl rfl rfl⟩ (fun _ hw => hw) (by omega)
  have hm0 := of_decide_eq_true h55
  have hm : 0 ≤ (m : Int) ∧ (m : Int) < 4 := ⟨by omega, by omega⟩
  refine c_skip ?_
  refine n_then ?_
  refine c_seq ?_
  refine c_block ?_
  refine r_seq (by kernel_rfl) ?_
  refine s_val (v_move (v := .int .i64 _) rfl) ?_
  refine s_val (v_assign (v := .int .i64 _) rfl) ?_
  refine s_nil ?_
  refine d_seq (by kernel_rfl) (by kernel_rfl) (fun w hw => hw.drew) (by kernel_rfl) ?_
  refine q_val (v_loadA (m := 42) (by kernel_rfl) rfl .here (H.size _)) ?_
  refine q_val (v_move (v := .int .i64 _) rfl) ?_
  refine q_val (v_move (v := .int .i64 _) rfl) ?_
  refine q_call (by kernel_rfl) (fun w hw => g_Net _ _ _ w) ?_
  refine q_val (v_loadA (m := 42) (by kernel_rfl) rfl .here (H.size _)) ?_
  refine q_val (v_move (v := .int .i64 _) rfl) ?_
  refine q_val (v_move (v := .int .i64 _) rfl) ?_
  refine q_call (by kernel_rfl) (fun w hw => g_Net _ _ _ w) ?_
  refine q_val (v_negw rfl) ?_
  refine q_val (v_neq (k := .i64) rfl rfl) ?_
  refine q_nil ?_
  refine c_condFh rfl rfl (congrArg not (decide_eq_true (net_anti (move_sent G a b n) hi hm))) ?_
  refine c_skip ?_
  refine n_bnormal ?_
  refine n_then ?_
  refine r_list (by kernel_rfl) ?_
  refine s_val (v_add rfl rfl (by omega)) ?_
  refine s_val (v_move (v := .int .i64 _) rfl) ?_
  refine s_end ?_
  refine n_round (m + 1) ⟨_, (by omega), live8 rfl rfl rfl rfl rfl rfl rfl rfl⟩ (fun _ hw => hw) (by omega)

end Go.Proofs.Ytmkboljfbmlebaa
