/- What the laws of this place stand on, part 8. Each part names its own conditions in what it states. -/
import Derived.Test.YtmkboljfbmlebaaGreatQ7
namespace Go.Proofs.YtmkboljfbmlebaaGreat
open Go.RowKit
set_option linter.unusedSimpArgs false
set_option linter.unusedVariables false
set_option maxRecDepth 100000
attribute [local irreducible] cC sC nC rC qw
theorem g_goodPays (pa : Option Addr) (pl pc : Nat) (nx : Int) (ps : List PayS) (w : World) (hp : PaysIn (At w) pa pl ps) : Gives Tryz.prog 26 [.slice pa pl pc, I nx] w (.bool (goodPaysB ps nx)) := by
 refine gives_of Tryz.func26 rfl Tryz.ntmps26 (by simp) ?_
 refine r_seq (by kernel_rfl) ?_
 refine s_val (v_assign (v := .bool _) rfl) ?_
 refine s_nil ?_
 refine c_seq ?_
 refine r_seq (by kernel_rfl) ?_
 refine s_val (v_move (v := .slice _ _ _) rfl) ?_
 refine s_val (v_lenS (T := 27) (m := 6) (by kernel_rfl) rfl rfl) ?_
 refine s_val (v_gtr (k := .i64) rfl rfl) ?_
 refine s_nil ?_
 refine c_cond rfl rfl (fun h10 => ?_) (fun h10 => ?_)
 · refine r_seq (by kernel_rfl) ?_
   refine s_val (v_assign (v := .bool _) rfl) ?_
   refine s_nil ?_
   refine c_ret ?_
   refine n_ret ?_
   refine n_done rfl (by decide) (Eq.trans (b := .bool _) rfl (congrArg Value.bool ?_))
   first | exact gp_long hp.1 h10 | exact gp_end hp.1 h10 h15 hinv | exact gp_bad hp.1 h10 hinv hd (by simp only [*, Bool.true_and, Bool.false_and, Bool.and_true, Bool.and_false, Bool.not_true, Bool.not_false, Bool.true_or, Bool.or_true, Bool.false_or, Bool.or_false, cond_true, cond_false, if_true, if_false, Bool.false_eq_true, decide_true, decide_false])
 have h24 := of_decide_eq_false h10
 refine c_skip ?_
 refine n_then ?_
 refine r_seq (by kernel_rfl) ?_
 refine s_makeSet (fun b11 => ?_)
 refine s_val (v_assign (v := .map _) rfl) ?_
 refine s_nil ?_
 refine c_seq ?_
 refine r_seq (by kernel_rfl) ?_
 refine s_val (v_move (v := .slice _ _ _) rfl) ?_
 refine s_val (v_lenS (T := 27) (m := 6) (by kernel_rfl) rfl rfl) ?_
 refine s_val (v_move (v := .int .i64 _) rfl) ?_
 refine s_nil ?_
 refine c_block ?_
 refine c_loop (σ := Nat) (fun (k : Nat) f => ∃ g, (k ≤ pl ∧ goB nx [] ps = goB nx ((ps.take k).map PayS.seq) (ps.drop k)) ∧ f = (upd (upd (upd (upd (upd g 1 (I nx)) 5 (.map (some b11))) 12 (.slice pa pl pc)) 13 (I pl)) 14 (I k))) (fun (k : Nat) => Has w (At w) [(b11, setO ((ps.take k).map PayS.seq))]) (fun (k : Nat) => pl - k) 0 ⟨_, ⟨Nat.zero_le _, rfl⟩, live5 rfl rfl rfl rfl rfl⟩ (fun w hw => hw) ?_
 rintro k _ ⟨g, ⟨hkl, hinv⟩, rfl⟩
 refine r_seq (by kernel_rfl) ?_
 refine s_val (v_lss (k := .i64) rfl rfl) ?_
 refine s_nil ?_
 refine c_seq ?_
 refine c_condR rfl rfl (fun h15 => ?_) (fun h15 => ?_)
 · refine c_exit ?_
   refine n_exit ?_
   refine n_exit ?_
   refine n_bhere ?_
   refine n_then ?_
   refine r_seq (by kernel_rfl) ?_
   refine s_val (v_assign (v := .bool _) rfl) ?_
   refine s_nil ?_
   refine c_ret ?_
   refine n_done rfl (by decide) (Eq.trans (b := .bool _) rfl (congrArg Value.bool ?_))
   first | exact gp_long hp.1 h10 | exact gp_end hp.1 h10 h15 hinv | exact gp_bad hp.1 h10 hinv hd (by simp only [*, Bool.true_and, Bool.false_and, Bool.and_true, Bool.and_false, Bool.not_true, Bool.not_false, Bool.true_or, Bool.or_true, Bool.false_or, Bool.or_false, cond_true, cond_false, if_true, if_false, Bool.false_eq_true, decide_true, decide_false])
 have hk := of_decide_eq_true h15
 obtain ⟨p, hpk, hd, ht⟩ := hp.get (k := k) (by omega)
 obtain ⟨b, o, rfl, hc⟩ := hp.some (k := k) (by omega)
 refine c_skip ?_
 refine n_then ?_
 refine c_seq ?_
 refine c_block ?_
 refine r_seq (by kernel_rfl) ?_
 refine s_val (v_idxS (size := 6) (k := .i64) (by kernel_rfl) rfl rfl (by omega)) ?_
 refine s_val (v_loadNo (cs := p.cells) (m := 6) (by kernel_rfl) rfl rfl (hc k p hpk)) ?_
 refine s_alloc (z := zeroOf Tryz.prog 51) (by kernel_rfl) (fun b7 => ?_)
 refine s_storeA (m := 6) (by kernel_rfl) rfl rfl .here (by kernel_rfl) rfl (PayS.all1 _) ?_
 refine s_nil ?_
 refine c_seq ?_
 refine r_seq (by kernel_rfl) ?_
 refine s_val (v_loadA (m := 6) (by kernel_rfl) rfl .here rfl) ?_
 refine s_call (by kernel_rfl) (fun w hw => g_GoodPay _ w) ?_
 refine s_val (v_not rfl) ?_
 refine s_val (v_move (v := .bool _) rfl) ?_
 refine s_splitN (s := 21) rfl (fun h21 => ?_) (fun h21 => ?_)
 · refine s_pass rfl rfl (congrArg not h21) ?_
   refine s_pass rfl rfl (congrArg not h21) ?_
   refine s_pass rfl rfl (congrArg not h21) ?_
   refine s_pass rfl rfl (congrArg not h21) ?_
   refine s_val (v_pickT (v := .bool _) rfl (congrArg not h21) rfl) ?_
   refine s_val (v_move (v := .bool _) rfl) ?_
   refine s_pass (g := true) rfl rfl rfl ?_
   refine s_pass (g := true) rfl rfl rfl ?_
   refine s_pass (g := true) rfl rfl rfl ?_
   refine s_pass (g := true) rfl rfl rfl ?_
   refine s_val (v_pickT (v := .bool _) rfl rfl rfl) ?_
   refine s_nil ?_
   refine c_condTh rfl rfl rfl ?_
   refine r_seq (by kernel_rfl) ?_
   refine s_val (v_assign (v := .bool _) rfl) ?_
   refine s_nil ?_
   refine c_ret ?_
   refine n_ret ?_
   refine n_bret ?_
   refine n_ret ?_
   refine n_ret ?_
   refine n_bret ?_
   refine n_ret ?_
   refine n_done rfl (by decide) (Eq.trans (b := .bool _) rfl (congrArg Value.bool ?_))
   first | exact gp_long hp.1 h10 | exact gp_end hp.1 h10 h15 hinv | exact gp_bad hp.1 h10 hinv hd (by simp only [*, Bool.true_and, Bool.false_and, Bool.and_true, Bool.and_false, Bool.not_true, Bool.not_false, Bool.true_or, Bool.or_true, Bool.false_or, Bool.or_false, cond_true, cond_false, if_true, if_false, Bool.false_eq_true, decide_true, decide_false])
 refine s_want rfl rfl (congrArg not h21) ?_
 refine s_val (v_field (fo := 5) (by kernel_rfl) rfl) ?_
 refine s_want rfl rfl (congrArg not h21) ?_
 refine s_val (v_load1 (v := .int .i64 _) (by kernel_rfl) rfl .here rfl) ?_
 refine s_want rfl rfl (congrArg not h21) ?_
 refine s_val (v_move (v := .int .i64 _) rfl) ?_
 refine s_want rfl rfl (congrArg not h21) ?_
 refine s_val (v_geq (k := .i64) rfl rfl) ?_
 refine s_val (v_pickF (v := .bool _) rfl (congrArg not h21) rfl) ?_
 refine s_val (v_move (v := .bool _) rfl) ?_
 refine s_split (s := 27) rfl (fun h27 => ?_) (fun h27 => ?_)
 · refine s_pass rfl rfl h27 ?_
   refine s_pass rfl rfl h27 ?_
   refine s_pass rfl rfl h27 ?_
   refine s_pass rfl rfl h27 ?_
   refine s_val (v_pickT (v := .bool _) rfl h27 rfl) ?_
   refine s_nil ?_
   refine c_condTh rfl rfl rfl ?_
   refine r_seq (by kernel_rfl) ?_
   refine s_val (v_assign (v := .bool _) rfl) ?_
   refine s_nil ?_
   refine c_ret ?_
   refine n_ret ?_
   refine n_bret ?_
   refine n_ret ?_
   refine n_ret ?_
   refine n_bret ?_
   refine n_ret ?_
   refine n_done rfl (by decide) (Eq.trans (b := .bool _) rfl (congrArg Value.bool ?_))
   first | exact gp_long hp.1 h10 | exact gp_end hp.1 h10 h15 hinv | exact gp_bad hp.1 h10 hinv hd (by simp only [*, Bool.true_and, Bool.false_and, Bool.and_true, Bool.and_false, Bool.not_true, Bool.not_false, Bool.true_or, Bool.or_true, Bool.false_or, Bool.or_false, cond_true, cond_false, if_true, if_false, Bool.false_eq_true, decide_true, decide_false])
 refine s_want rfl rfl h27 ?_
 refine s_val (v_move (v := .map _) rfl) ?_
 refine s_want rfl rfl h27 ?_
 refine s_val (v_field (fo := 5) (by kernel_rfl) rfl) ?_
 refine s_want rfl rfl h27 ?_
 refine s_val (v_load1 (v := .int .i64 _) (by kernel_rfl) rfl .here rfl) ?_
 refine s_want rfl rfl h27 ?_
 refine s_val (v_setHas (by kernel_rfl) rfl rfl (.there .here)) ?_
 refine s_val (v_pickF (v := .bool _) rfl h27 rfl) ?_
 refine s_nil ?_
 refine c_cond rfl rfl (fun h32 => ?_) (fun h32 => ?_)
 · refine r_seq (by kernel_rfl) ?_
   refine s_val (v_assign (v := .bool _) rfl) ?_
   refine s_nil ?_
   refine c_ret ?_
   refine n_ret ?_
   refine n_bret ?_
   refine n_ret ?_
   refine n_ret ?_
   refine n_bret ?_
   refine n_ret ?_
   refine n_done rfl (by decide) (Eq.trans (b := .bool _) rfl (congrArg Value.bool ?_))
   first | exact gp_long hp.1 h10 | exact gp_end hp.1 h10 h15 hinv | exact gp_bad hp.1 h10 hinv hd (by simp only [*, Bool.true_and, Bool.false_and, Bool.and_true, Bool.and_false, Bool.not_true, Bool.not_false, Bool.true_or, Bool.or_true, Bool.false_or, Bool.or_false, cond_true, cond_false, if_true, if_false, Bool.false_eq_true, decide_true, decide_false])
 refine c_skip ?_
 refine n_then ?_
 refine r_list (by kernel_rfl) ?_
 refine s_val (v_move (v := .map _) rfl) ?_
 refine s_val (v_field (fo := 5) (by kernel_rfl) rfl) ?_
 refine s_val (v_load1 (v := .int .i64 _) (by kernel_rfl) rfl .here rfl) ?_
 refine s_setAdd (by kernel_rfl) rfl rfl rfl (.there .here) (of_decide_eq_false h32) ?_
 refine s_end ?_
 refine n_bnormal ?_
 refine n_then ?_
 refine r_list (by kernel_rfl) ?_
 refine s_val (v_add rfl rfl (by omega)) ?_
 refine s_val (v_move (v := .int .i64 _) rfl) ?_
 refine s_end ?_
 refine n_round (k + 1) ⟨_, ⟨by omega, gp_step hinv hd ht (by simp only [*, Bool.true_and, Bool.false_and, Bool.and_true, Bool.and_false, Bool.not_true, Bool.not_false, Bool.true_or, Bool.or_true, Bool.false_or, Bool.or_false, cond_true, cond_false, if_true, if_false, Bool.false_eq_true, decide_true, decide_false])⟩, live5 rfl rfl rfl rfl rfl⟩ (fun _ hw => by rw [ht, List.map_append]; exact hw.tail) (by omega)
theorem g_Good (h : H) (ps : List PayS) (w : World) (hp : PaysIn (At w) h.pa h.pl ps) : Gives Tryz.prog 11 [.agg h.cells] w (.bool (goodB h ps)) := by
 refine gives_of Tryz.func11 rfl Tryz.ntmps11 (by simp) ?_
 refine r_seq (by kernel_rfl) ?_
 refine s_box (v := .agg _) rfl (fun b1 => ?_)
 refine s_val (v_assign (v := .bool _) rfl) ?_
 refine s_nil ?_
 refine r_seq (by kernel_rfl) ?_
 refine s_val (v_field (fo := 41) (by kernel_rfl) rfl) ?_
 refine s_val (v_load1 (v := .int .i64 _) (by kernel_rfl) rfl .here (H.at_next _)) ?_
 refine s_call (by kernel_rfl) (fun w hw => g_within _ _ _ w) ?_
 refine s_val (v_move (v := .bool _) rfl) ?_
 refine s_splitR (s := 6) rfl (fun h6 => ?_) (fun h6 => ?_)
 · refine s_pass rfl rfl h6 ?_
   refine s_pass rfl rfl h6 ?_
   refine s_pass rfl rfl h6 ?_
   refine s_pass rfl rfl h6 ?_
   refine s_pass rfl rfl h6 ?_
   refine s_val (v_pickF (v := .bool _) rfl h6 rfl) ?_
   refine s_val (v_move (v := .bool _) rfl) ?_
   refine s_pass (g := false) rfl rfl rfl ?_
   refine s_pass (g := false) rfl rfl rfl ?_
   refine s_pass (g := false) rfl rfl rfl ?_
   refine s_val (v_pickF (v := .bool _) rfl rfl rfl) ?_
   refine s_val (v_move (v := .bool _) rfl) ?_
   refine s_pass (g := false) rfl rfl rfl ?_
   refine s_pass (g := false) rfl rfl rfl ?_
   refine s_pass (g := false) rfl rfl rfl ?_
   refine s_val (v_pickF (v := .bool _) rfl rfl rfl) ?_
   refine s_val (v_move (v := .bool _) rfl) ?_
   refine s_pass (g := false) rfl rfl rfl ?_
   refine s_pass (g := false) rfl rfl rfl ?_
   refine s_pass (g := false) rfl rfl rfl ?_
   refine s_val (v_pickF (v := .bool _) rfl rfl rfl) ?_
   refine s_val (v_assign (v := .bool _) rfl) ?_
   refine s_nil ?_
   refine c_ret ?_
   refine n_done rfl (by decide) (Eq.trans (b := .bool _) rfl (congrArg Value.bool ?_))
   simp only [goodB, *, Bool.true_and, Bool.false_and, Bool.and_true, Bool.and_false, Bool.not_true, Bool.not_false, Bool.true_or, Bool.or_true, Bool.false_or, Bool.or_false, cond_true, cond_false, if_true, if_false, Bool.false_eq_true, decide_true, decide_false]
 refine s_want rfl rfl h6 ?_
 refine s_val (v_field (fo := 40) (by kernel_rfl) rfl) ?_
 refine s_want rfl rfl h6 ?_
 refine s_val (v_load1 (v := .slice _ _ _) (by kernel_rfl) rfl .here (H.at_pays _)) ?_
 refine s_want rfl rfl h6 ?_
 refine s_val (v_field (fo := 41) (by kernel_rfl) rfl) ?_
 refine s_want rfl rfl h6 ?_
 refine s_val (v_load1 (v := .int .i64 _) (by kernel_rfl) rfl .here (H.at_next _)) ?_
 refine s_want rfl rfl h6 ?_
 refine s_call (by kernel_rfl) (fun w hw => g_goodPays _ _ _ _ _ w (hp.at hw)) ?_
 refine s_val (v_pickT (v := .bool _) rfl h6 rfl) ?_
 refine s_val (v_move (v := .bool _) rfl) ?_
 refine s_splitR (s := 13) rfl (fun h13 => ?_) (fun h13 => ?_)
 · refine s_pass rfl rfl h13 ?_
   refine s_pass rfl rfl h13 ?_
   refine s_pass rfl rfl h13 ?_
   refine s_val (v_pickF (v := .bool _) rfl h13 rfl) ?_
   refine s_val (v_move (v := .bool _) rfl) ?_
   refine s_pass (g := false) rfl rfl rfl ?_
   refine s_pass (g := false) rfl rfl rfl ?_
   refine s_pass (g := false) rfl rfl rfl ?_
   refine s_val (v_pickF (v := .bool _) rfl rfl rfl) ?_
   refine s_val (v_move (v := .bool _) rfl) ?_
   refine s_pass (g := false) rfl rfl rfl ?_
   refine s_pass (g := false) rfl rfl rfl ?_
   refine s_pass (g := false) rfl rfl rfl ?_
   refine s_val (v_pickF (v := .bool _) rfl rfl rfl) ?_
   refine s_val (v_assign (v := .bool _) rfl) ?_
   refine s_nil ?_
   refine c_ret ?_
   refine n_done rfl (by decide) (Eq.trans (b := .bool _) rfl (congrArg Value.bool ?_))
   simp only [goodB, *, Bool.true_and, Bool.false_and, Bool.and_true, Bool.and_false, Bool.not_true, Bool.not_false, Bool.true_or, Bool.or_true, Bool.false_or, Bool.or_false, cond_true, cond_false, if_true, if_false, Bool.false_eq_true, decide_true, decide_false]
 refine s_want rfl rfl h13 ?_
 refine s_val (v_field (fo := 0) (by kernel_rfl) rfl) ?_
 refine s_want rfl rfl h13 ?_
 refine s_val (v_loadN (m := 8) (cs' := accA _ _) (by kernel_rfl) rfl .here (accA_size _ _) (H.ex_acc _)) ?_
 refine s_want rfl rfl h13 ?_
 refine s_call (by kernel_rfl) (fun w hw => g_goodAccounts _ _ w) ?_
 refine s_val (v_pickT (v := .bool _) rfl h13 rfl) ?_
 refine s_val (v_move (v := .bool _) rfl) ?_
 refine s_splitR (s := 18) rfl (fun h18 => ?_) (fun h18 => ?_)
 · refine s_pass rfl rfl h18 ?_
   refine s_pass rfl rfl h18 ?_
   refine s_pass rfl rfl h18 ?_
   refine s_val (v_pickF (v := .bool _) rfl h18 rfl) ?_
   refine s_val (v_move (v := .bool _) rfl) ?_
   refine s_pass (g := false) rfl rfl rfl ?_
   refine s_pass (g := false) rfl rfl rfl ?_
   refine s_pass (g := false) rfl rfl rfl ?_
   refine s_val (v_pickF (v := .bool _) rfl rfl rfl) ?_
   refine s_val (v_assign (v := .bool _) rfl) ?_
   refine s_nil ?_
   refine c_ret ?_
   refine n_done rfl (by decide) (Eq.trans (b := .bool _) rfl (congrArg Value.bool ?_))
   simp only [goodB, *, Bool.true_and, Bool.false_and, Bool.and_true, Bool.and_false, Bool.not_true, Bool.not_false, Bool.true_or, Bool.or_true, Bool.false_or, Bool.or_false, cond_true, cond_false, if_true, if_false, Bool.false_eq_true, decide_true, decide_false]
 refine s_want rfl rfl h18 ?_
 refine s_val (v_field (fo := 8) (by kernel_rfl) rfl) ?_
 refine s_want rfl rfl h18 ?_
 refine s_val (v_loadN (m := 16) (cs' := matA _) (by kernel_rfl) rfl .here (matA_size _) (H.ex_sent _)) ?_
 refine s_want rfl rfl h18 ?_
 refine s_call (by kernel_rfl) (fun w hw => g_goodSent _ w) ?_
 refine s_val (v_pickT (v := .bool _) rfl h18 rfl) ?_
 refine s_val (v_move (v := .bool _) rfl) ?_
 refine s_splitR (s := 23) rfl (fun h23 => ?_) (fun h23 => ?_)
 · refine s_pass rfl rfl h23 ?_
   refine s_pass rfl rfl h23 ?_
   refine s_pass rfl rfl h23 ?_
   refine s_val (v_pickF (v := .bool _) rfl h23 rfl) ?_
   refine s_val (v_assign (v := .bool _) rfl) ?_
   refine s_nil ?_
   refine c_ret ?_
   refine n_done rfl (by decide) (Eq.trans (b := .bool _) rfl (congrArg Value.bool ?_))
   simp only [goodB, *, Bool.true_and, Bool.false_and, Bool.and_true, Bool.and_false, Bool.not_true, Bool.not_false, Bool.true_or, Bool.or_true, Bool.false_or, Bool.or_false, cond_true, cond_false, if_true, if_false, Bool.false_eq_true, decide_true, decide_false]
 refine s_want rfl rfl h23 ?_
 refine s_val (v_field (fo := 24) (by kernel_rfl) rfl) ?_
 refine s_want rfl rfl h23 ?_
 refine s_val (v_loadN (m := 16) (cs' := matA _) (by kernel_rfl) rfl .here (matA_size _) (H.ex_lim _)) ?_
 refine s_want rfl rfl h23 ?_
 refine s_call (by kernel_rfl) (fun w hw => g_goodLimits _ w) ?_
 refine s_val (v_pickT (v := .bool _) rfl h23 rfl) ?_
 refine s_val (v_assign (v := .bool _) rfl) ?_
 refine s_nil ?_
 refine c_ret ?_
 refine n_done rfl (by decide) (Eq.trans (b := .bool _) rfl (congrArg Value.bool ?_))
 simp only [goodB, *, Bool.true_and, Bool.false_and, Bool.and_true, Bool.and_false, Bool.not_true, Bool.not_false, Bool.true_or, Bool.or_true, Bool.false_or, Bool.or_false, cond_true, cond_false, if_true, if_false, Bool.false_eq_true, decide_true, decide_false]
end Go.Proofs.YtmkboljfbmlebaaGreat
namespace Go.Proofs.YtmkboljfbmlebaaGreat
open Go.RowKit
set_option linter.unusedSimpArgs false
set_option linter.unusedVariables false
set_option maxRecDepth 100000
attribute [local irreducible] cC sC nC rC qw
theorem gr_MoveSum (h : H) (a b n : Int) (w : World) : Gives Tryz.prog 57 [.agg h.cells, I a, I b, I n] w (.agg (moveM h a b n).cells) := by
 refine gives_of Tryz.func57 rfl Tryz.ntmps57 (by simp) ?_
 refine r_seq (by kernel_rfl) ?_
 refine s_box (v := .agg _) rfl (fun b4 => ?_)
 refine s_alloc (z := .agg zeroH.cells) (by kernel_rfl) (fun b8 => ?_)
 refine s_nil ?_
 refine c_seq ?_
 refine r_seq (by kernel_rfl) ?_
 refine s_val (v_move (v := .int .i64 _) rfl) ?_
 refine s_val (v_move (v := .int .i64 _) rfl) ?_
 refine s_val (v_move (v := .int .i64 _) rfl) ?_
 refine s_call (by kernel_rfl) (fun w hw => gr_sends _ _ _ w) ?_
 refine s_nil ?_
 refine c_condR rfl rfl (fun h13 => ?_) (fun h13 => ?_)
 · refine c_skip ?_
   refine n_then ?_
   refine r_seq (by kernel_rfl) ?_
   refine s_val (v_loadA (m := 42) (by kernel_rfl) rfl (.there .here) (H.size _)) ?_
   refine s_storeA (m := 42) (by kernel_rfl) rfl rfl .here (H.size _) (H.size _) (H.all1 _) ?_
   refine s_nil ?_
   refine c_ret ?_
   refine n_doneC (m := 42) rfl (by decide) rfl (by kernel_rfl) .here (H.size _) (congrArg Value.agg ?_)
   rw [move_no h13]
   rfl
 obtain ⟨ha, hb, hne, _⟩ := transfer_spec h13
 refine t_seq (k := 11) (by kernel_rfl) (by kernel_rfl) (fun w hw => hw.drew) (by kernel_rfl) ?_
 refine q_val (v_move (v := .int .i64 _) rfl) ?_
 refine q_val (v_move (v := .int .i64 _) rfl) ?_
 refine q_val (v_field (fo := 8) (by kernel_rfl) rfl) ?_
 refine q_val (v_idxA (len := 4) (size := 4) (k := .i64) (by kernel_rfl) rfl rfl (by assumption)) ?_
 refine q_val (v_idxA (len := 4) (size := 1) (k := .i64) (by kernel_rfl) rfl rfl (by assumption)) ?_
 refine q_val (v_load1 (v := .int .i64 _) (by kernel_rfl) rfl (.there .here) (H.at_sent _ (by assumption) (by assumption))) ?_
 refine q_val (v_move (v := .int .i64 _) rfl) ?_
 refine q_val (v_addw rfl rfl) ?_
 refine q_val (v_field (fo := 8) (by kernel_rfl) rfl) ?_
 refine q_val (v_idxA (len := 4) (size := 4) (k := .i64) (by kernel_rfl) rfl rfl (by assumption)) ?_
 refine q_val (v_idxA (len := 4) (size := 1) (k := .i64) (by kernel_rfl) rfl rfl (by assumption)) ?_
 refine q_tail ?_
 refine s_store1 (v := .int .i64 _) (by kernel_rfl) rfl rfl (.there .here) (H.set_sent _ (by assumption) (by assumption)) rfl ?_
 refine s_nil ?_
 refine r_seq (by kernel_rfl) ?_
 refine s_val (v_move (v := .int .i64 _) rfl) ?_
 refine s_nil ?_
 refine c_block ?_
 refine c_loop (σ := Nat) (fun (k : Nat) f => ∃ g, (k ≤ 4) ∧ f = (upd (upd (upd (upd (upd (upd g 1 (I a)) 2 (I b)) 3 (I n)) 4 (.pointer (some ⟨b4, 0, none⟩))) 8 (.pointer (some ⟨b8, 0, none⟩))) 25 (I k))) (fun (k : Nat) => Has w (At w) [(b8, .cells zeroH.cells 29), (b4, .cells (msH h a b n k).cells 29)]) (fun (k : Nat) => 4 - k) 0 ⟨_, Nat.zero_le _, live6 rfl rfl rfl rfl rfl rfl⟩ (fun w hw => by rw [ms_start]; exact hw) ?_
 rintro k _ ⟨g, hkl, rfl⟩
 refine r_seq (by kernel_rfl) ?_
 refine s_val (v_lss (k := .i64) rfl rfl) ?_
 refine s_nil ?_
 refine c_seq ?_
 refine c_condR rfl rfl (fun h26 => ?_) (fun h26 => ?_)
 · refine c_exit ?_
   refine n_exit ?_
   refine n_exit ?_
   refine n_bhere ?_
   refine n_then ?_
   refine r_seq (by kernel_rfl) ?_
   refine s_val (v_loadA (m := 42) (by kernel_rfl) rfl (.there .here) (H.size _)) ?_
   refine s_storeA (m := 42) (by kernel_rfl) rfl rfl .here (H.size _) (H.size _) (H.all1 _) ?_
   refine s_nil ?_
   refine c_ret ?_
   refine n_doneC (m := 42) rfl (by decide) rfl (by kernel_rfl) .here (H.size _) (congrArg Value.agg ?_)
   exact ms_end h13 hkl h26
 have hk0 := of_decide_eq_true h26
 have hi : 0 ≤ (k : Int) ∧ (k : Int) < 4 := ⟨by omega, by omega⟩
 refine c_skip ?_
 refine n_then ?_
 refine c_seq ?_
 refine c_block ?_
 refine r_seq (by kernel_rfl) ?_
 refine s_val (v_move (v := .int .i64 _) rfl) ?_
 refine s_val (v_assign (v := .int .i64 _) rfl) ?_
 refine s_nil ?_
 refine c_seq ?_
 refine r_seq (by kernel_rfl) ?_
 refine s_val (v_move (v := .int .i64 _) rfl) ?_
 refine s_val (v_move (v := .int .i64 _) rfl) ?_
 refine s_val (v_eql (k := .i64) rfl rfl) ?_
 refine s_nil ?_
 refine c_cond rfl rfl (fun h30 => ?_) (fun h30 => ?_)
 · refine r_list (by kernel_rfl) ?_
   refine s_val (v_move (v := .int .i64 _) rfl) ?_
   refine s_val (v_field (fo := 0) (by kernel_rfl) rfl) ?_
   refine s_val (v_idxA (len := 4) (size := 2) (k := .i64) (by kernel_rfl) rfl rfl (by assumption)) ?_
   refine s_val (v_field (fo := 0) (by kernel_rfl) rfl) ?_
   refine s_val (v_load1 (v := .int .i64 _) (by kernel_rfl) rfl (.there .here) (H.at_has _ (by assumption))) ?_
   refine s_val (v_move (v := .int .i64 _) rfl) ?_
   refine s_val (v_subw rfl rfl) ?_
   refine s_val (v_field (fo := 0) (by kernel_rfl) rfl) ?_
   refine s_val (v_idxA (len := 4) (size := 2) (k := .i64) (by kernel_rfl) rfl rfl (by assumption)) ?_
   refine s_val (v_field (fo := 0) (by kernel_rfl) rfl) ?_
   refine s_store1 (v := .int .i64 _) (by kernel_rfl) rfl rfl (.there .here) (H.set_has _ (by assumption)) rfl ?_
   refine s_end ?_
   refine n_then ?_
   refine r_seq (by kernel_rfl) ?_
   refine s_val (v_move (v := .int .i64 _) rfl) ?_
   refine s_val (v_move (v := .int .i64 _) rfl) ?_
   refine s_val (v_eql (k := .i64) rfl rfl) ?_
   refine s_nil ?_
   refine c_cond rfl rfl (fun h43 => ?_) (fun h43 => ?_)
   · exact absurd ((of_decide_eq_true h30).symm.trans (of_decide_eq_true h43)) hne
   refine c_skip ?_
   refine n_bnormal ?_
   refine n_then ?_
   refine r_list (by kernel_rfl) ?_
   refine s_val (v_add rfl rfl (by omega)) ?_
   refine s_val (v_move (v := .int .i64 _) rfl) ?_
   refine s_end ?_
   refine n_round (k + 1) ⟨_, (by omega), live6 rfl rfl rfl rfl rfl rfl⟩ (fun _ hw => by rw [← ms_stepA h30]; exact hw) (by omega)
 refine c_skip ?_
 refine n_then ?_
 refine r_seq (by kernel_rfl) ?_
 refine s_val (v_move (v := .int .i64 _) rfl) ?_
 refine s_val (v_move (v := .int .i64 _) rfl) ?_
 refine s_val (v_eql (k := .i64) rfl rfl) ?_
 refine s_nil ?_
 refine c_condR rfl rfl (fun h43 => ?_) (fun h43 => ?_)
 · refine c_skip ?_
   refine n_bnormal ?_
   refine n_then ?_
   refine r_list (by kernel_rfl) ?_
   refine s_val (v_add rfl rfl (by omega)) ?_
   refine s_val (v_move (v := .int .i64 _) rfl) ?_
   refine s_end ?_
   refine n_round (k + 1) ⟨_, (by omega), live6 rfl rfl rfl rfl rfl rfl⟩ (fun _ hw => by rw [← ms_step0 h30 h43]; exact hw) (by omega)
 refine r_list (by kernel_rfl) ?_
 refine s_val (v_move (v := .int .i64 _) rfl) ?_
 refine s_val (v_field (fo := 0) (by kernel_rfl) rfl) ?_
 refine s_val (v_idxA (len := 4) (size := 2) (k := .i64) (by kernel_rfl) rfl rfl (by assumption)) ?_
 refine s_val (v_field (fo := 0) (by kernel_rfl) rfl) ?_
 refine s_val (v_load1 (v := .int .i64 _) (by kernel_rfl) rfl (.there .here) (H.at_has _ (by assumption))) ?_
 refine s_val (v_move (v := .int .i64 _) rfl) ?_
 refine s_val (v_addw rfl rfl) ?_
 refine s_val (v_field (fo := 0) (by kernel_rfl) rfl) ?_
 refine s_val (v_idxA (len := 4) (size := 2) (k := .i64) (by kernel_rfl) rfl rfl (by assumption)) ?_
 refine s_val (v_field (fo := 0) (by kernel_rfl) rfl) ?_
 refine s_store1 (v := .int .i64 _) (by kernel_rfl) rfl rfl (.there .here) (H.set_has _ (by assumption)) rfl ?_
 refine s_end ?_
 refine n_bnormal ?_
 refine n_then ?_
 refine r_list (by kernel_rfl) ?_
 refine s_val (v_add rfl rfl (by omega)) ?_
 refine s_val (v_move (v := .int .i64 _) rfl) ?_
 refine s_end ?_
 refine n_round (k + 1) ⟨_, (by omega), live6 rfl rfl rfl rfl rfl rfl⟩ (fun _ hw => by rw [← ms_stepB h30 h43]; exact hw) (by omega)
theorem gr_SameHouse (h : H) (ps : List PayS) (k : H) (qs : List PayS) (w : World) (hp : PaysIn (At w) h.pa h.pl ps) (hq : PaysIn (At w) k.pa k.pl qs) (hb : h.pl ≤ 9223372036854775807) : Gives Tryz.prog 7 [.agg h.cells, .agg k.cells] w (.bool (sameB h ps k qs)) := by
 refine gives_of Tryz.func7 rfl Tryz.ntmps7 (by simp) ?_
 refine r_seq (by kernel_rfl) ?_
 refine s_box (v := .agg _) rfl (fun b2 => ?_)
 refine s_box (v := .agg _) rfl (fun b3 => ?_)
 refine s_val (v_assign (v := .bool _) rfl) ?_
 refine s_nil ?_
 refine c_seq ?_
 refine r_seq (by kernel_rfl) ?_
 refine s_val (v_field (fo := 0) (by kernel_rfl) rfl) ?_
 refine s_val (v_loadN (m := 8) (cs' := accA _ _) (by kernel_rfl) rfl (.there .here) (accA_size _ _) (H.ex_acc _)) ?_
 refine s_val (v_field (fo := 0) (by kernel_rfl) rfl) ?_
 refine s_val (v_loadN (m := 8) (cs' := accA _ _) (by kernel_rfl) rfl .here (accA_size _ _) (H.ex_acc _)) ?_
 refine s_val (v_neqFlat (n := 8) _ _ (by kernel_rfl) rfl rfl (accA_list _ _) (accA_list _ _) rfl rfl) ?_
 refine s_val (v_move (v := .bool _) rfl) ?_
 refine s_splitN (s := 11) rfl (fun h11 => ?_) (fun h11 => ?_)
 · refine s_pass rfl rfl (congrArg not h11) ?_
   refine s_pass rfl rfl (congrArg not h11) ?_
   refine s_pass rfl rfl (congrArg not h11) ?_
   refine s_pass rfl rfl (congrArg not h11) ?_
   refine s_pass rfl rfl (congrArg not h11) ?_
   refine s_val (v_pickT (v := .bool _) rfl (congrArg not h11) rfl) ?_
   refine s_val (v_move (v := .bool _) rfl) ?_
   refine s_pass (g := true) rfl rfl rfl ?_
   refine s_pass (g := true) rfl rfl rfl ?_
   refine s_pass (g := true) rfl rfl rfl ?_
   refine s_pass (g := true) rfl rfl rfl ?_
   refine s_pass (g := true) rfl rfl rfl ?_
   refine s_val (v_pickT (v := .bool _) rfl rfl rfl) ?_
   refine s_val (v_move (v := .bool _) rfl) ?_
   refine s_pass (g := true) rfl rfl rfl ?_
   refine s_pass (g := true) rfl rfl rfl ?_
   refine s_pass (g := true) rfl rfl rfl ?_
   refine s_pass (g := true) rfl rfl rfl ?_
   refine s_pass (g := true) rfl rfl rfl ?_
   refine s_val (v_pickT (v := .bool _) rfl rfl rfl) ?_
   refine s_val (v_move (v := .bool _) rfl) ?_
   refine s_pass (g := true) rfl rfl rfl ?_
   refine s_pass (g := true) rfl rfl rfl ?_
   refine s_pass (g := true) rfl rfl rfl ?_
   refine s_pass (g := true) rfl rfl rfl ?_
   refine s_pass (g := true) rfl rfl rfl ?_
   refine s_pass (g := true) rfl rfl rfl ?_
   refine s_pass (g := true) rfl rfl rfl ?_
   refine s_val (v_pickT (v := .bool _) rfl rfl rfl) ?_
   refine s_nil ?_
   refine c_condTh rfl rfl rfl ?_
   refine r_seq (by kernel_rfl) ?_
   refine s_val (v_assign (v := .bool _) rfl) ?_
   refine s_nil ?_
   refine c_ret ?_
   refine n_ret ?_
   refine n_done rfl (by decide) (Eq.trans (b := .bool _) rfl (congrArg Value.bool ?_))
   first | (have e := same_all hp.1 hq.1 h40 h45 hinv; simp only [sameB, *, Bool.true_and, Bool.false_and, Bool.and_true, Bool.and_false, Bool.not_true, Bool.not_false, Bool.true_or, Bool.or_true, Bool.false_or, Bool.or_false, cond_true, cond_false, if_true, if_false, Bool.false_eq_true, decide_true, decide_false]; done) | (have e := same_bad (F := At w) (h := h) (k := k) hpk hqk h57; simp only [sameB, *, Bool.true_and, Bool.false_and, Bool.and_true, Bool.and_false, Bool.not_true, Bool.not_false, Bool.true_or, Bool.or_true, Bool.false_or, Bool.or_false, cond_true, cond_false, if_true, if_false, Bool.false_eq_true, decide_true, decide_false]; done) | (simp only [sameB, *, Bool.true_and, Bool.false_and, Bool.and_true, Bool.and_false, Bool.not_true, Bool.not_false, Bool.true_or, Bool.or_true, Bool.false_or, Bool.or_false, cond_true, cond_false, if_true, if_false, Bool.false_eq_true, decide_true, decide_false]; done)
 refine s_want rfl rfl (congrArg not h11) ?_
 refine s_val (v_field (fo := 8) (by kernel_rfl) rfl) ?_
 refine s_want rfl rfl (congrArg not h11) ?_
 refine s_val (v_loadN (m := 16) (cs' := matA _) (by kernel_rfl) rfl (.there .here) (matA_size _) (H.ex_sent _)) ?_
 refine s_want rfl rfl (congrArg not h11) ?_
 refine s_val (v_field (fo := 8) (by kernel_rfl) rfl) ?_
 refine s_want rfl rfl (congrArg not h11) ?_
 refine s_val (v_loadN (m := 16) (cs' := matA _) (by kernel_rfl) rfl .here (matA_size _) (H.ex_sent _)) ?_
 refine s_want rfl rfl (congrArg not h11) ?_
 refine s_val (v_neqFlat (n := 16) _ _ (by kernel_rfl) rfl rfl (matA_list _) (matA_list _) rfl rfl) ?_
 refine s_val (v_pickF (v := .bool _) rfl (congrArg not h11) rfl) ?_
 refine s_val (v_move (v := .bool _) rfl) ?_
 refine s_splitN (s := 18) rfl (fun h18 => ?_) (fun h18 => ?_)
 · refine s_pass rfl rfl (congrArg not h18) ?_
   refine s_pass rfl rfl (congrArg not h18) ?_
   refine s_pass rfl rfl (congrArg not h18) ?_
   refine s_pass rfl rfl (congrArg not h18) ?_
   refine s_pass rfl rfl (congrArg not h18) ?_
   refine s_val (v_pickT (v := .bool _) rfl (congrArg not h18) rfl) ?_
   refine s_val (v_move (v := .bool _) rfl) ?_
   refine s_pass (g := true) rfl rfl rfl ?_
   refine s_pass (g := true) rfl rfl rfl ?_
   refine s_pass (g := true) rfl rfl rfl ?_
   refine s_pass (g := true) rfl rfl rfl ?_
   refine s_pass (g := true) rfl rfl rfl ?_
   refine s_val (v_pickT (v := .bool _) rfl rfl rfl) ?_
   refine s_val (v_move (v := .bool _) rfl) ?_
   refine s_pass (g := true) rfl rfl rfl ?_
   refine s_pass (g := true) rfl rfl rfl ?_
   refine s_pass (g := true) rfl rfl rfl ?_
   refine s_pass (g := true) rfl rfl rfl ?_
   refine s_pass (g := true) rfl rfl rfl ?_
   refine s_pass (g := true) rfl rfl rfl ?_
   refine s_pass (g := true) rfl rfl rfl ?_
   refine s_val (v_pickT (v := .bool _) rfl rfl rfl) ?_
   refine s_nil ?_
   refine c_condTh rfl rfl rfl ?_
   refine r_seq (by kernel_rfl) ?_
   refine s_val (v_assign (v := .bool _) rfl) ?_
   refine s_nil ?_
   refine c_ret ?_
   refine n_ret ?_
   refine n_done rfl (by decide) (Eq.trans (b := .bool _) rfl (congrArg Value.bool ?_))
   first | (have e := same_all hp.1 hq.1 h40 h45 hinv; simp only [sameB, *, Bool.true_and, Bool.false_and, Bool.and_true, Bool.and_false, Bool.not_true, Bool.not_false, Bool.true_or, Bool.or_true, Bool.false_or, Bool.or_false, cond_true, cond_false, if_true, if_false, Bool.false_eq_true, decide_true, decide_false]; done) | (have e := same_bad (F := At w) (h := h) (k := k) hpk hqk h57; simp only [sameB, *, Bool.true_and, Bool.false_and, Bool.and_true, Bool.and_false, Bool.not_true, Bool.not_false, Bool.true_or, Bool.or_true, Bool.false_or, Bool.or_false, cond_true, cond_false, if_true, if_false, Bool.false_eq_true, decide_true, decide_false]; done) | (simp only [sameB, *, Bool.true_and, Bool.false_and, Bool.and_true, Bool.and_false, Bool.not_true, Bool.not_false, Bool.true_or, Bool.or_true, Bool.false_or, Bool.or_false, cond_true, cond_false, if_true, if_false, Bool.false_eq_true, decide_true, decide_false]; done)
 refine s_want rfl rfl (congrArg not h18) ?_
 refine s_val (v_field (fo := 24) (by kernel_rfl) rfl) ?_
 refine s_want rfl rfl (congrArg not h18) ?_
 refine s_val (v_loadN (m := 16) (cs' := matA _) (by kernel_rfl) rfl (.there .here) (matA_size _) (H.ex_lim _)) ?_
 refine s_want rfl rfl (congrArg not h18) ?_
 refine s_val (v_field (fo := 24) (by kernel_rfl) rfl) ?_
 refine s_want rfl rfl (congrArg not h18) ?_
 refine s_val (v_loadN (m := 16) (cs' := matA _) (by kernel_rfl) rfl .here (matA_size _) (H.ex_lim _)) ?_
 refine s_want rfl rfl (congrArg not h18) ?_
 refine s_val (v_neqFlat (n := 16) _ _ (by kernel_rfl) rfl rfl (matA_list _) (matA_list _) rfl rfl) ?_
 refine s_val (v_pickF (v := .bool _) rfl (congrArg not h18) rfl) ?_
 refine s_val (v_move (v := .bool _) rfl) ?_
 refine s_splitN (s := 25) rfl (fun h25 => ?_) (fun h25 => ?_)
 · refine s_pass rfl rfl (congrArg not h25) ?_
   refine s_pass rfl rfl (congrArg not h25) ?_
   refine s_pass rfl rfl (congrArg not h25) ?_
   refine s_pass rfl rfl (congrArg not h25) ?_
   refine s_pass rfl rfl (congrArg not h25) ?_
   refine s_val (v_pickT (v := .bool _) rfl (congrArg not h25) rfl) ?_
   refine s_val (v_move (v := .bool _) rfl) ?_
   refine s_pass (g := true) rfl rfl rfl ?_
   refine s_pass (g := true) rfl rfl rfl ?_
   refine s_pass (g := true) rfl rfl rfl ?_
   refine s_pass (g := true) rfl rfl rfl ?_
   refine s_pass (g := true) rfl rfl rfl ?_
   refine s_pass (g := true) rfl rfl rfl ?_
   refine s_pass (g := true) rfl rfl rfl ?_
   refine s_val (v_pickT (v := .bool _) rfl rfl rfl) ?_
   refine s_nil ?_
   refine c_condTh rfl rfl rfl ?_
   refine r_seq (by kernel_rfl) ?_
   refine s_val (v_assign (v := .bool _) rfl) ?_
   refine s_nil ?_
   refine c_ret ?_
   refine n_ret ?_
   refine n_done rfl (by decide) (Eq.trans (b := .bool _) rfl (congrArg Value.bool ?_))
   first | (have e := same_all hp.1 hq.1 h40 h45 hinv; simp only [sameB, *, Bool.true_and, Bool.false_and, Bool.and_true, Bool.and_false, Bool.not_true, Bool.not_false, Bool.true_or, Bool.or_true, Bool.false_or, Bool.or_false, cond_true, cond_false, if_true, if_false, Bool.false_eq_true, decide_true, decide_false]; done) | (have e := same_bad (F := At w) (h := h) (k := k) hpk hqk h57; simp only [sameB, *, Bool.true_and, Bool.false_and, Bool.and_true, Bool.and_false, Bool.not_true, Bool.not_false, Bool.true_or, Bool.or_true, Bool.false_or, Bool.or_false, cond_true, cond_false, if_true, if_false, Bool.false_eq_true, decide_true, decide_false]; done) | (simp only [sameB, *, Bool.true_and, Bool.false_and, Bool.and_true, Bool.and_false, Bool.not_true, Bool.not_false, Bool.true_or, Bool.or_true, Bool.false_or, Bool.or_false, cond_true, cond_false, if_true, if_false, Bool.false_eq_true, decide_true, decide_false]; done)
 refine s_want rfl rfl (congrArg not h25) ?_
 refine s_val (v_field (fo := 41) (by kernel_rfl) rfl) ?_
 refine s_want rfl rfl (congrArg not h25) ?_
 refine s_val (v_load1 (v := .int .i64 _) (by kernel_rfl) rfl (.there .here) (H.at_next _)) ?_
 refine s_want rfl rfl (congrArg not h25) ?_
 refine s_val (v_field (fo := 41) (by kernel_rfl) rfl) ?_
 refine s_want rfl rfl (congrArg not h25) ?_
 refine s_val (v_load1 (v := .int .i64 _) (by kernel_rfl) rfl .here (H.at_next _)) ?_
 refine s_want rfl rfl (congrArg not h25) ?_
 refine s_val (v_neq (k := .i64) rfl rfl) ?_
 refine s_val (v_pickF (v := .bool _) rfl (congrArg not h25) rfl) ?_
 refine s_val (v_move (v := .bool _) rfl) ?_
 refine s_splitN (s := 32) rfl (fun h32 => ?_) (fun h32 => ?_)
 · refine s_pass rfl rfl (congrArg not h32) ?_
   refine s_pass rfl rfl (congrArg not h32) ?_
   refine s_pass rfl rfl (congrArg not h32) ?_
   refine s_pass rfl rfl (congrArg not h32) ?_
   refine s_pass rfl rfl (congrArg not h32) ?_
   refine s_pass rfl rfl (congrArg not h32) ?_
   refine s_pass rfl rfl (congrArg not h32) ?_
   refine s_val (v_pickT (v := .bool _) rfl (congrArg not h32) rfl) ?_
   refine s_nil ?_
   refine c_condTh rfl rfl rfl ?_
   refine r_seq (by kernel_rfl) ?_
   refine s_val (v_assign (v := .bool _) rfl) ?_
   refine s_nil ?_
   refine c_ret ?_
   refine n_ret ?_
   refine n_done rfl (by decide) (Eq.trans (b := .bool _) rfl (congrArg Value.bool ?_))
   first | (have e := same_all hp.1 hq.1 h40 h45 hinv; simp only [sameB, *, Bool.true_and, Bool.false_and, Bool.and_true, Bool.and_false, Bool.not_true, Bool.not_false, Bool.true_or, Bool.or_true, Bool.false_or, Bool.or_false, cond_true, cond_false, if_true, if_false, Bool.false_eq_true, decide_true, decide_false]; done) | (have e := same_bad (F := At w) (h := h) (k := k) hpk hqk h57; simp only [sameB, *, Bool.true_and, Bool.false_and, Bool.and_true, Bool.and_false, Bool.not_true, Bool.not_false, Bool.true_or, Bool.or_true, Bool.false_or, Bool.or_false, cond_true, cond_false, if_true, if_false, Bool.false_eq_true, decide_true, decide_false]; done) | (simp only [sameB, *, Bool.true_and, Bool.false_and, Bool.and_true, Bool.and_false, Bool.not_true, Bool.not_false, Bool.true_or, Bool.or_true, Bool.false_or, Bool.or_false, cond_true, cond_false, if_true, if_false, Bool.false_eq_true, decide_true, decide_false]; done)
 refine s_want rfl rfl (congrArg not h32) ?_
 refine s_val (v_field (fo := 40) (by kernel_rfl) rfl) ?_
 refine s_want rfl rfl (congrArg not h32) ?_
 refine s_val (v_load1 (v := .slice _ _ _) (by kernel_rfl) rfl (.there .here) (H.at_pays _)) ?_
 refine s_want rfl rfl (congrArg not h32) ?_
 refine s_val (v_lenS (T := 27) (m := 6) (by kernel_rfl) rfl rfl) ?_
 refine s_want rfl rfl (congrArg not h32) ?_
 refine s_val (v_field (fo := 40) (by kernel_rfl) rfl) ?_
 refine s_want rfl rfl (congrArg not h32) ?_
 refine s_val (v_load1 (v := .slice _ _ _) (by kernel_rfl) rfl .here (H.at_pays _)) ?_
 refine s_want rfl rfl (congrArg not h32) ?_
 refine s_val (v_lenS (T := 27) (m := 6) (by kernel_rfl) rfl rfl) ?_
 refine s_want rfl rfl (congrArg not h32) ?_
 refine s_val (v_neq (k := .i64) rfl rfl) ?_
 refine s_val (v_pickF (v := .bool _) rfl (congrArg not h32) rfl) ?_
 refine s_nil ?_
 refine c_condN rfl rfl (fun h40 => ?_) (fun h40 => ?_)
 · refine r_seq (by kernel_rfl) ?_
   refine s_val (v_assign (v := .bool _) rfl) ?_
   refine s_nil ?_
   refine c_ret ?_
   refine n_ret ?_
   refine n_done rfl (by decide) (Eq.trans (b := .bool _) rfl (congrArg Value.bool ?_))
   first | (have e := same_all hp.1 hq.1 h40 h45 hinv; simp only [sameB, *, Bool.true_and, Bool.false_and, Bool.and_true, Bool.and_false, Bool.not_true, Bool.not_false, Bool.true_or, Bool.or_true, Bool.false_or, Bool.or_false, cond_true, cond_false, if_true, if_false, Bool.false_eq_true, decide_true, decide_false]; done) | (have e := same_bad (F := At w) (h := h) (k := k) hpk hqk h57; simp only [sameB, *, Bool.true_and, Bool.false_and, Bool.and_true, Bool.and_false, Bool.not_true, Bool.not_false, Bool.true_or, Bool.or_true, Bool.false_or, Bool.or_false, cond_true, cond_false, if_true, if_false, Bool.false_eq_true, decide_true, decide_false]; done) | (simp only [sameB, *, Bool.true_and, Bool.false_and, Bool.and_true, Bool.and_false, Bool.not_true, Bool.not_false, Bool.true_or, Bool.or_true, Bool.false_or, Bool.or_false, cond_true, cond_false, if_true, if_false, Bool.false_eq_true, decide_true, decide_false]; done)
 refine c_skip ?_
 refine n_then ?_
 refine c_seq ?_
 have hee := of_decide_eq_true h40
 refine r_seq (by kernel_rfl) ?_
 refine s_val (v_field (fo := 40) (by kernel_rfl) rfl) ?_
 refine s_val (v_load1 (v := .slice _ _ _) (by kernel_rfl) rfl (.there .here) (H.at_pays _)) ?_
 refine s_val (v_lenS (T := 27) (m := 6) (by kernel_rfl) rfl rfl) ?_
 refine s_val (v_move (v := .int .i64 _) rfl) ?_
 refine s_nil ?_
 refine c_block ?_
 refine c_loop (σ := Nat) (fun (j : Nat) f => ∃ g, (j ≤ h.pl ∧ (ps.take j).map PayS.list = (qs.take j).map PayS.list) ∧ f = (upd (upd (upd (upd g 2 (.pointer (some ⟨b2, 0, none⟩))) 3 (.pointer (some ⟨b3, 0, none⟩))) 43 (I h.pl)) 44 (I j))) (fun (j : Nat) => Has w (At w) [(b3, .cells k.cells 29), (b2, .cells h.cells 29)]) (fun (j : Nat) => h.pl - j) 0 ⟨_, ⟨Nat.zero_le _, rfl⟩, live4 rfl rfl rfl rfl⟩ (fun w hw => hw) ?_
 rintro j _ ⟨g, ⟨hjl, hinv⟩, rfl⟩
 refine r_seq (by kernel_rfl) ?_
 refine s_val (v_lss (k := .i64) rfl rfl) ?_
 refine s_nil ?_
 refine c_seq ?_
 refine c_condR rfl rfl (fun h45 => ?_) (fun h45 => ?_)
 · refine c_exit ?_
   refine n_exit ?_
   refine n_exit ?_
   refine n_bhere ?_
   refine n_then ?_
   refine r_seq (by kernel_rfl) ?_
   refine s_val (v_assign (v := .bool _) rfl) ?_
   refine s_nil ?_
   refine c_ret ?_
   refine n_done rfl (by decide) (Eq.trans (b := .bool _) rfl (congrArg Value.bool ?_))
   first | (have e := same_all hp.1 hq.1 h40 h45 hinv; simp only [sameB, *, Bool.true_and, Bool.false_and, Bool.and_true, Bool.and_false, Bool.not_true, Bool.not_false, Bool.true_or, Bool.or_true, Bool.false_or, Bool.or_false, cond_true, cond_false, if_true, if_false, Bool.false_eq_true, decide_true, decide_false]; done) | (have e := same_bad (F := At w) (h := h) (k := k) hpk hqk h57; simp only [sameB, *, Bool.true_and, Bool.false_and, Bool.and_true, Bool.and_false, Bool.not_true, Bool.not_false, Bool.true_or, Bool.or_true, Bool.false_or, Bool.or_false, cond_true, cond_false, if_true, if_false, Bool.false_eq_true, decide_true, decide_false]; done) | (simp only [sameB, *, Bool.true_and, Bool.false_and, Bool.and_true, Bool.and_false, Bool.not_true, Bool.not_false, Bool.true_or, Bool.or_true, Bool.false_or, Bool.or_false, cond_true, cond_false, if_true, if_false, Bool.false_eq_true, decide_true, decide_false]; done)
 have hj0 := of_decide_eq_true h45
 obtain ⟨p, hpk, hd, ht⟩ := hp.get (k := j) (by omega)
 obtain ⟨q, hqk, hd2, ht2⟩ := hq.get (k := j) (by omega)
 obtain ⟨b, o, hpa, hc⟩ := hp.some (k := j) (by omega)
 obtain ⟨b', o', hqa, hc'⟩ := hq.some (k := j) (by omega)
 refine c_skip ?_
 refine n_then ?_
 refine c_seq ?_
 refine c_block ?_
 refine r_seq (by kernel_rfl) ?_
 refine s_val (v_move (v := .int .i64 _) rfl) ?_
 refine s_val (v_assign (v := .int .i64 _) rfl) ?_
 refine s_nil ?_
 refine d_seq (by kernel_rfl) (by kernel_rfl) (fun w hw => hw.drew) (by kernel_rfl) ?_
 refine q_val (v_field (fo := 40) (by kernel_rfl) rfl) ?_
 refine q_val (v_load1 (v := .slice (some ⟨b, o, none⟩) _ _) (by kernel_rfl) rfl (.there .here) (by rw [H.at_pays, hpa])) ?_
 refine q_val (v_move (v := .int .i64 _) rfl) ?_
 refine q_val (v_idxS (size := 6) (k := .i64) (by kernel_rfl) rfl rfl ⟨by omega, by omega⟩) ?_
 refine q_val (v_loadNo (cs := p.cells) (m := 6) (by kernel_rfl) rfl rfl (hc j p hpk)) ?_
 refine q_val (v_field (fo := 40) (by kernel_rfl) rfl) ?_
 refine q_val (v_load1 (v := .slice (some ⟨b', o', none⟩) _ _) (by kernel_rfl) rfl .here (by rw [H.at_pays, hqa])) ?_
 refine q_val (v_move (v := .int .i64 _) rfl) ?_
 refine q_val (v_idxS (size := 6) (k := .i64) (by kernel_rfl) rfl rfl ⟨by omega, by omega⟩) ?_
 refine q_val (v_loadNo (cs := q.cells) (m := 6) (by kernel_rfl) rfl rfl (hc' j q hqk)) ?_
 refine q_val (v_neqFlat (n := 6) _ _ (by kernel_rfl) rfl rfl (PayS.cells_list _) (PayS.cells_list _) rfl rfl) ?_
 refine q_nil ?_
 refine c_condNR rfl rfl (fun h57 => ?_) (fun h57 => ?_)
 · refine c_skip ?_
   refine n_bnormal ?_
   refine n_then ?_
   refine r_list (by kernel_rfl) ?_
   refine s_val (v_add rfl rfl (by omega)) ?_
   refine s_val (v_move (v := .int .i64 _) rfl) ?_
   refine s_end ?_
   refine n_round (j + 1) ⟨_, ⟨by omega, same_step hinv ht ht2 h57⟩, live4 rfl rfl rfl rfl⟩ (fun _ hw => hw) (by omega)
 refine r_seq (by kernel_rfl) ?_
 refine s_val (v_assign (v := .bool _) rfl) ?_
 refine s_nil ?_
 refine c_ret ?_
 refine n_bret ?_
 refine n_ret ?_
 refine n_ret ?_
 refine n_bret ?_
 refine n_ret ?_
 refine n_done rfl (by decide) (Eq.trans (b := .bool _) rfl (congrArg Value.bool ?_))
 first | (have e := same_all hp.1 hq.1 h40 h45 hinv; simp only [sameB, *, Bool.true_and, Bool.false_and, Bool.and_true, Bool.and_false, Bool.not_true, Bool.not_false, Bool.true_or, Bool.or_true, Bool.false_or, Bool.or_false, cond_true, cond_false, if_true, if_false, Bool.false_eq_true, decide_true, decide_false]; done) | (have e := same_bad (F := At w) (h := h) (k := k) hpk hqk h57; simp only [sameB, *, Bool.true_and, Bool.false_and, Bool.and_true, Bool.and_false, Bool.not_true, Bool.not_false, Bool.true_or, Bool.or_true, Bool.false_or, Bool.or_false, cond_true, cond_false, if_true, if_false, Bool.false_eq_true, decide_true, decide_false]; done) | (simp only [sameB, *, Bool.true_and, Bool.false_and, Bool.and_true, Bool.and_false, Bool.not_true, Bool.not_false, Bool.true_or, Bool.or_true, Bool.false_or, Bool.or_false, cond_true, cond_false, if_true, if_false, Bool.false_eq_true, decide_true, decide_false]; done)
end Go.Proofs.YtmkboljfbmlebaaGreat
namespace Go.Proofs.YtmkboljfbmlebaaGreat
open Go.RowKit
set_option linter.unusedSimpArgs false
set_option linter.unusedVariables false
set_option maxRecDepth 100000
attribute [local irreducible] cC sC nC rC qw
theorem gr_IsHouse (h : H) (ps : List PayS) (w : World) (hp : PaysIn (At w) h.pa h.pl ps) (hb : h.pl * 48 ≤ 281474976710656) (hlc : h.pl ≤ h.pc) : Gives Tryz.prog 15 [.agg h.cells] w (.bool (isHouseB h ps)) := by
 refine gives_of Tryz.func15 rfl Tryz.ntmps15 (by simp) ?_
 refine r_seq (by kernel_rfl) ?_
 refine s_box (v := .agg _) rfl (fun b1 => ?_)
 refine s_val (v_assign (v := .bool _) rfl) ?_
 refine s_nil ?_
 refine c_cut (fun f => ∃ g, f = (upd (upd g 1 (.pointer (some ⟨b1, 0, none⟩))) 3 (.bool (hB0 h)))) (Has w (At w) [(b1, .cells h.cells 29)]) ?_ ?_
 · refine r_list (by kernel_rfl) ?_
   refine s_val (v_field (fo := 40) (by kernel_rfl) rfl) ?_
   refine s_val (v_load1 (v := .slice _ _ _) (by kernel_rfl) rfl .here (H.at_pays _)) ?_
   refine s_val (v_lenS (T := 27) (m := 6) (by kernel_rfl) rfl rfl) ?_
   refine s_val (v_lss (k := .i64) rfl rfl) ?_
   refine s_val (v_move (v := .bool _) rfl) ?_
   refine s_splitR (s := 14) rfl (fun h14 => ?_) (fun h14 => ?_)
   · refine s_pass rfl rfl h14 ?_
     refine s_pass rfl rfl h14 ?_
     refine s_pass rfl rfl h14 ?_
     refine s_val (v_pickF (v := .bool _) rfl h14 rfl) ?_
     refine s_val (v_assign (v := .bool _) rfl) ?_
     refine s_end ?_
     refine n_cut ⟨_, live2 rfl (congrArg Value.bool (by simp only [hB0, *, Bool.true_and, Bool.false_and, Bool.and_true, Bool.and_false, Bool.not_true, Bool.not_false, Bool.true_or, Bool.or_true, Bool.false_or, Bool.or_false, cond_true, cond_false, if_true, if_false, Bool.false_eq_true, decide_true, decide_false]))⟩ (fun _ hw => hw)
   refine s_want rfl rfl h14 ?_
   refine s_val (v_field (fo := 41) (by kernel_rfl) rfl) ?_
   refine s_want rfl rfl h14 ?_
   refine s_val (v_load1 (v := .int .i64 _) (by kernel_rfl) rfl .here (H.at_next _)) ?_
   refine s_want rfl rfl h14 ?_
   refine s_call (by kernel_rfl) (fun w hw => gr_within _ _ _ w) ?_
   refine s_val (v_pickT (v := .bool _) rfl h14 rfl) ?_
   refine s_val (v_assign (v := .bool _) rfl) ?_
   refine s_end ?_
   refine n_cut ⟨_, live2 rfl (congrArg Value.bool (by simp only [hB0, *, Bool.true_and, Bool.false_and, Bool.and_true, Bool.and_false, Bool.not_true, Bool.not_false, Bool.true_or, Bool.or_true, Bool.false_or, Bool.or_false, cond_true, cond_false, if_true, if_false, Bool.false_eq_true, decide_true, decide_false]))⟩ (fun _ hw => hw)
 rintro _ ⟨g, rfl⟩
 refine c_seq ?_
 refine r_seq (by kernel_rfl) ?_
 refine s_val (v_move (v := .int .i64 _) rfl) ?_
 refine s_nil ?_
 refine c_block ?_
 refine c_loop (σ := Nat) (fun (k : Nat) f => ∃ g, (k ≤ 4) ∧ f = (upd (upd (upd g 1 (.pointer (some ⟨b1, 0, none⟩))) 3 (.bool (hAll h k))) 19 (I k))) (fun (k : Nat) => Has w (At w) [(b1, .cells h.cells 29)]) (fun (k : Nat) => 4 - k) 0 ⟨_, Nat.zero_le _, live3 rfl rfl rfl⟩ (fun w hw => hw) ?_
 rintro k _ ⟨g, hkl, rfl⟩
 refine r_seq (by kernel_rfl) ?_
 refine s_val (v_lss (k := .i64) rfl rfl) ?_
 refine s_nil ?_
 refine c_seq ?_
 refine c_condR rfl rfl (fun h20 => ?_) (fun h20 => ?_)
 · obtain rfl : k = 4 := by have := of_decide_eq_false h20; omega
   refine c_exit ?_
   refine n_exit ?_
   refine n_exit ?_
   refine n_bhere ?_
   refine n_then ?_
   refine c_seq ?_
   refine r_seq (by kernel_rfl) ?_
   refine s_val (v_field (fo := 40) (by kernel_rfl) rfl) ?_
   refine s_val (v_load1 (v := .slice _ _ _) (by kernel_rfl) rfl .here (H.at_pays _)) ?_
   refine s_val (v_lenS (T := 27) (m := 6) (by kernel_rfl) rfl rfl) ?_
   refine s_val (v_move (v := .int .i64 _) rfl) ?_
   refine s_nil ?_
   refine c_block ?_
   refine c_loop (σ := Nat) (fun (j : Nat) f => ∃ g, (j ≤ h.pl) ∧ f = (upd (upd (upd (upd (upd g 1 (.pointer (some ⟨b1, 0, none⟩))) 3 (.bool (hPto h ps j))) 73 (.slice h.pa h.pl h.pc)) 74 (I h.pl)) 75 (I j))) (fun (j : Nat) => Has w (At w) [(b1, .cells h.cells 29)]) (fun (j : Nat) => h.pl - j) 0 ⟨_, Nat.zero_le _, live5 rfl rfl rfl rfl rfl⟩ (fun w hw => hw) ?_
   rintro j _ ⟨g, hjl, rfl⟩
   refine r_seq (by kernel_rfl) ?_
   refine s_val (v_lss (k := .i64) rfl rfl) ?_
   refine s_nil ?_
   refine c_seq ?_
   refine c_condR rfl rfl (fun h76 => ?_) (fun h76 => ?_)
   · have hjj : j = h.pl := by have := of_decide_eq_false h76; omega
     refine c_exit ?_
     refine n_exit ?_
     refine n_exit ?_
     refine n_bhere ?_
     refine n_then ?_
     refine r_seq (by kernel_rfl) ?_
     refine s_val (v_move (v := .bool _) rfl) ?_
     refine s_val (v_assign (v := .bool _) rfl) ?_
     refine s_nil ?_
     refine c_ret ?_
     refine n_done rfl (by decide) (Eq.trans (b := .bool _) rfl (congrArg Value.bool ?_))
     unfold isHouseB
     rw [hp.1, ← hjj]
   have hj0 := of_decide_eq_true h76
   obtain ⟨p, hpk, hd, ht⟩ := hp.get (k := j) (by omega)
   obtain ⟨b, o, hpa, hc⟩ := hp.some (k := j) (by omega)
   refine c_skip ?_
   refine n_then ?_
   refine c_seq ?_
   refine c_block ?_
   refine r_seq (by kernel_rfl) ?_
   refine s_val (v_move (v := .int .i64 _) rfl) ?_
   refine s_val (v_idxS (size := 6) (k := .i64) (by kernel_rfl) (congrArg (fun a => Value.slice a h.pl h.pc) hpa) rfl ⟨by omega, by omega⟩) ?_
   refine s_val (v_loadNo (cs := p.cells) (m := 6) (by kernel_rfl) rfl rfl (hc j p hpk)) ?_
   refine s_alloc (z := zeroOf Tryz.prog 51) (by kernel_rfl) (fun b7 => ?_)
   refine s_val (v_assign (v := .int .i64 _) rfl) ?_
   refine s_storeA (m := 6) (by kernel_rfl) rfl rfl .here (by kernel_rfl) rfl (PayS.all1 _) ?_
   refine s_nil ?_
   refine c_cut (fun f => ∃ g, f = (upd (upd (upd (upd (upd (upd (upd g 1 (.pointer (some ⟨b1, 0, none⟩))) 3 (.bool (hPto h ps j && isPayB p && decide (p.seq < h.next)))) 6 (I j)) 7 (.pointer (some ⟨b7, 0, none⟩))) 73 (.slice h.pa h.pl h.pc)) 74 (I h.pl)) 75 (I j))) (Has w (At w) [(b7, .cells p.cells 51), (b1, .cells h.cells 29)]) ?_ ?_
   · refine r_list (by kernel_rfl) ?_
     refine s_val (v_move (v := .bool _) rfl) ?_
     refine s_val (v_move (v := .bool _) rfl) ?_
     refine s_splitR (s := 81) rfl (fun h81 => ?_) (fun h81 => ?_)
     · refine s_pass rfl rfl h81 ?_
       refine s_pass rfl rfl h81 ?_
       refine s_val (v_pickF (v := .bool _) rfl h81 rfl) ?_
       refine s_val (v_move (v := .bool _) rfl) ?_
       refine s_pass (g := false) rfl rfl rfl ?_
       refine s_pass (g := false) rfl rfl rfl ?_
       refine s_pass (g := false) rfl rfl rfl ?_
       refine s_pass (g := false) rfl rfl rfl ?_
       refine s_pass (g := false) rfl rfl rfl ?_
       refine s_val (v_pickF (v := .bool _) rfl rfl rfl) ?_
       refine s_val (v_assign (v := .bool _) rfl) ?_
       refine s_end ?_
       refine n_cut ⟨_, live7 rfl (congrArg Value.bool (by simp only [*, Bool.true_and, Bool.false_and, Bool.and_true, Bool.and_false, Bool.not_true, Bool.not_false, Bool.true_or, Bool.or_true, Bool.false_or, Bool.or_false, cond_true, cond_false, if_true, if_false, Bool.false_eq_true, decide_true, decide_false])) rfl rfl rfl rfl rfl⟩ (fun _ hw => hw)
     refine s_want rfl rfl h81 ?_
     refine s_val (v_loadA (m := 6) (by kernel_rfl) rfl .here rfl) ?_
     refine s_want rfl rfl h81 ?_
     refine s_call (by kernel_rfl) (fun w hw => gr_IsPay _ w) ?_
     refine s_val (v_pickT (v := .bool _) rfl h81 rfl) ?_
     refine s_val (v_move (v := .bool _) rfl) ?_
     refine s_splitR (s := 85) rfl (fun h85 => ?_) (fun h85 => ?_)
     · refine s_pass rfl rfl h85 ?_
       refine s_pass rfl rfl h85 ?_
       refine s_pass rfl rfl h85 ?_
       refine s_pass rfl rfl h85 ?_
       refine s_pass rfl rfl h85 ?_
       refine s_val (v_pickF (v := .bool _) rfl h85 rfl) ?_
       refine s_val (v_assign (v := .bool _) rfl) ?_
       refine s_end ?_
       refine n_cut ⟨_, live7 rfl (congrArg Value.bool (by simp only [*, Bool.true_and, Bool.false_and, Bool.and_true, Bool.and_false, Bool.not_true, Bool.not_false, Bool.true_or, Bool.or_true, Bool.false_or, Bool.or_false, cond_true, cond_false, if_true, if_false, Bool.false_eq_true, decide_true, decide_false])) rfl rfl rfl rfl rfl⟩ (fun _ hw => hw)
     refine s_want rfl rfl h85 ?_
     refine s_val (v_field (fo := 5) (by kernel_rfl) rfl) ?_
     refine s_want rfl rfl h85 ?_
     refine s_val (v_load1 (v := .int .i64 _) (by kernel_rfl) rfl .here rfl) ?_
     refine s_want rfl rfl h85 ?_
     refine s_val (v_field (fo := 41) (by kernel_rfl) rfl) ?_
     refine s_want rfl rfl h85 ?_
     refine s_val (v_load1 (v := .int .i64 _) (by kernel_rfl) rfl (.there .here) (H.at_next _)) ?_
     refine s_want rfl rfl h85 ?_
     refine s_val (v_lss (k := .i64) rfl rfl) ?_
     refine s_val (v_pickT (v := .bool _) rfl h85 rfl) ?_
     refine s_val (v_assign (v := .bool _) rfl) ?_
     refine s_end ?_
     refine n_cut ⟨_, live7 rfl (congrArg Value.bool (by simp only [*, Bool.true_and, Bool.false_and, Bool.and_true, Bool.and_false, Bool.not_true, Bool.not_false, Bool.true_or, Bool.or_true, Bool.false_or, Bool.or_false, cond_true, cond_false, if_true, if_false, Bool.false_eq_true, decide_true, decide_false])) rfl rfl rfl rfl rfl⟩ (fun _ hw => hw)
   rintro _ ⟨g, rfl⟩
   refine r_seq (by kernel_rfl) ?_
   refine s_val (v_field (fo := 40) (by kernel_rfl) rfl) ?_
   refine s_val (v_load1 (v := .slice _ _ _) (by kernel_rfl) rfl (.there .here) (H.at_pays _)) ?_
   refine s_val (v_move (v := .int .i64 _) rfl) ?_
   refine s_val (v_sliceHi (m := 6) (by kernel_rfl) rfl rfl ⟨by omega, by omega⟩) ?_
   refine s_val (v_lenS (T := 27) (m := 6) (by kernel_rfl) rfl rfl) ?_
   refine s_val (v_move (v := .int .i64 _) rfl) ?_
   refine s_nil ?_
   refine c_block ?_
   refine c_loop (σ := Nat) (fun (m : Nat) f => ∃ g, (m ≤ j) ∧ f = (upd (upd (upd (upd (upd (upd (upd (upd (upd g 1 (.pointer (some ⟨b1, 0, none⟩))) 3 (.bool (pin p (hPto h ps j && isPayB p && decide (p.seq < h.next)) (ps.take m)))) 7 (.pointer (some ⟨b7, 0, none⟩))) 73 (.slice h.pa h.pl h.pc)) 74 (I h.pl)) 75 (I j)) 95 (.slice h.pa j h.pc)) 96 (I j)) 97 (I m))) (fun (m : Nat) => Has w (At w) [(b7, .cells p.cells 51), (b1, .cells h.cells 29)]) (fun (m : Nat) => j - m) 0 ⟨_, Nat.zero_le _, live9 rfl rfl rfl rfl rfl rfl rfl rfl rfl⟩ (fun w hw => hw) ?_
   rintro m _ ⟨g, hml, rfl⟩
   refine r_seq (by kernel_rfl) ?_
   refine s_val (v_lss (k := .i64) rfl rfl) ?_
   refine s_nil ?_
   refine c_seq ?_
   refine c_condR rfl rfl (fun h98 => ?_) (fun h98 => ?_)
   · obtain rfl : j = m := by have := of_decide_eq_false h98; omega
     refine c_exit ?_
     refine n_exit ?_
     refine n_exit ?_
     refine n_bhere ?_
     refine n_bnormal ?_
     refine n_then ?_
     refine r_list (by kernel_rfl) ?_
     refine s_val (v_add rfl rfl (by omega)) ?_
     refine s_val (v_move (v := .int .i64 _) rfl) ?_
     refine s_end ?_
     refine n_round (j + 1) ⟨_, (by omega), live5 rfl (congrArg Value.bool (hPto_succ hpk).symm) rfl rfl rfl⟩ (fun _ hw => hw.tail) (by omega)
   have hm0 := of_decide_eq_true h98
   obtain ⟨q, hqk, hdq, htq⟩ := hp.get (k := m) (by omega)
   refine c_skip ?_
   refine n_then ?_
   refine c_seq ?_
   refine c_block ?_
   refine r_seq (by kernel_rfl) ?_
   refine s_val (v_idxS (size := 6) (k := .i64) (by kernel_rfl) (congrArg (fun a => Value.slice a j h.pc) hpa) rfl ⟨by omega, by omega⟩) ?_
   refine s_val (v_loadNo (cs := q.cells) (m := 6) (by kernel_rfl) rfl rfl (hc m q hqk)) ?_
   refine s_alloc (z := zeroOf Tryz.prog 51) (by kernel_rfl) (fun b9 => ?_)
   refine s_storeA (m := 6) (by kernel_rfl) rfl rfl .here (by kernel_rfl) rfl (PayS.all1 _) ?_
   refine s_nil ?_
   refine c_cutN (fun f => ∃ g, f = (upd (upd (upd (upd (upd (upd (upd (upd (upd g 1 (.pointer (some ⟨b1, 0, none⟩))) 3 (.bool (pin p (hPto h ps j && isPayB p && decide (p.seq < h.next)) (ps.take (m + 1))))) 7 (.pointer (some ⟨b7, 0, none⟩))) 73 (.slice h.pa h.pl h.pc)) 74 (I h.pl)) 75 (I j)) 95 (.slice h.pa j h.pc)) 96 (I j)) 97 (I m))) (Has w (At w) [(b9, .cells q.cells 51), (b7, .cells p.cells 51), (b1, .cells h.cells 29)]) ?_ ?_
   · refine r_list (by kernel_rfl) ?_
     refine s_val (v_move (v := .bool _) rfl) ?_
     refine s_val (v_move (v := .bool _) rfl) ?_
     refine s_splitR (s := 102) rfl (fun h102 => ?_) (fun h102 => ?_)
     · refine s_pass rfl rfl h102 ?_
       refine s_pass rfl rfl h102 ?_
       refine s_pass rfl rfl h102 ?_
       refine s_pass rfl rfl h102 ?_
       refine s_pass rfl rfl h102 ?_
       refine s_val (v_pickF (v := .bool _) rfl h102 rfl) ?_
       refine s_val (v_assign (v := .bool _) rfl) ?_
       refine s_end ?_
       refine n_cut ⟨_, live9 rfl (congrArg Value.bool (by rw [htq, pin_snoc]; simp only [*, Bool.true_and, Bool.false_and, Bool.and_true, Bool.and_false, Bool.not_true, Bool.not_false, Bool.true_or, Bool.or_true, Bool.false_or, Bool.or_false, cond_true, cond_false, if_true, if_false, Bool.false_eq_true, decide_true, decide_false])) rfl rfl rfl rfl rfl rfl rfl⟩ (fun _ hw => hw)
     refine s_want rfl rfl h102 ?_
     refine s_val (v_field (fo := 5) (by kernel_rfl) rfl) ?_
     refine s_want rfl rfl h102 ?_
     refine s_val (v_load1 (v := .int .i64 _) (by kernel_rfl) rfl (.there .here) rfl) ?_
     refine s_want rfl rfl h102 ?_
     refine s_val (v_field (fo := 5) (by kernel_rfl) rfl) ?_
     refine s_want rfl rfl h102 ?_
     refine s_val (v_load1 (v := .int .i64 _) (by kernel_rfl) rfl .here rfl) ?_
     refine s_want rfl rfl h102 ?_
     refine s_val (v_neq (k := .i64) rfl rfl) ?_
     refine s_val (v_pickT (v := .bool _) rfl h102 rfl) ?_
     refine s_val (v_assign (v := .bool _) rfl) ?_
     refine s_end ?_
     refine n_cut ⟨_, live9 rfl (congrArg Value.bool (by rw [htq, pin_snoc]; simp only [*, Bool.true_and, Bool.false_and, Bool.and_true, Bool.and_false, Bool.not_true, Bool.not_false, Bool.true_or, Bool.or_true, Bool.false_or, Bool.or_false, cond_true, cond_false, if_true, if_false, Bool.false_eq_true, decide_true, decide_false])) rfl rfl rfl rfl rfl rfl rfl⟩ (fun _ hw => hw)
   rintro _ ⟨g, rfl⟩
   refine n_bnormal ?_
   refine n_then ?_
   refine r_list (by kernel_rfl) ?_
   refine s_val (v_add rfl rfl (by omega)) ?_
   refine s_val (v_move (v := .int .i64 _) rfl) ?_
   refine s_end ?_
   refine n_round (m + 1) ⟨_, (by omega), live9 rfl rfl rfl rfl rfl rfl rfl rfl rfl⟩ (fun _ hw => hw.tail) (by omega)
 have hk0 := of_decide_eq_true h20
 have hi : 0 ≤ (k : Int) ∧ (k : Int) < 4 := ⟨by omega, by omega⟩
 refine c_skip ?_
 refine n_then ?_
 refine c_seq ?_
 refine c_block ?_
 refine r_seq (by kernel_rfl) ?_
 refine s_val (v_move (v := .int .i64 _) rfl) ?_
 refine s_val (v_assign (v := .int .i64 _) rfl) ?_
 refine s_nil ?_
 refine c_cut (fun f => ∃ g, f = (upd (upd (upd (upd g 1 (.pointer (some ⟨b1, 0, none⟩))) 3 (.bool (hRow h k (hAll h k) 0))) 4 (I k)) 19 (I k))) (Has w (At w) [(b1, .cells h.cells 29)]) ?_ ?_
 · refine r_list (by kernel_rfl) ?_
   refine s_val (v_move (v := .bool _) rfl) ?_
   refine s_val (v_move (v := .bool _) rfl) ?_
   refine s_splitR (s := 23) rfl (fun h23 => ?_) (fun h23 => ?_)
   · refine s_pass rfl rfl h23 ?_
     refine s_pass rfl rfl h23 ?_
     refine s_pass rfl rfl h23 ?_
     refine s_pass rfl rfl h23 ?_
     refine s_pass rfl rfl h23 ?_
     refine s_pass rfl rfl h23 ?_
     refine s_val (v_pickF (v := .bool _) rfl h23 rfl) ?_
     refine s_val (v_move (v := .bool _) rfl) ?_
     refine s_pass (g := false) rfl rfl rfl ?_
     refine s_pass (g := false) rfl rfl rfl ?_
     refine s_pass (g := false) rfl rfl rfl ?_
     refine s_pass (g := false) rfl rfl rfl ?_
     refine s_pass (g := false) rfl rfl rfl ?_
     refine s_pass (g := false) rfl rfl rfl ?_
     refine s_val (v_pickF (v := .bool _) rfl rfl rfl) ?_
     refine s_val (v_move (v := .bool _) rfl) ?_
     refine s_pass (g := false) rfl rfl rfl ?_
     refine s_pass (g := false) rfl rfl rfl ?_
     refine s_pass (g := false) rfl rfl rfl ?_
     refine s_pass (g := false) rfl rfl rfl ?_
     refine s_pass (g := false) rfl rfl rfl ?_
     refine s_pass (g := false) rfl rfl rfl ?_
     refine s_pass (g := false) rfl rfl rfl ?_
     refine s_val (v_pickF (v := .bool _) rfl rfl rfl) ?_
     refine s_val (v_assign (v := .bool _) rfl) ?_
     refine s_end ?_
     refine n_cut ⟨_, live4 rfl (congrArg Value.bool (by simp only [hRow, *, Bool.true_and, Bool.false_and, Bool.and_true, Bool.and_false, Bool.not_true, Bool.not_false, Bool.true_or, Bool.or_true, Bool.false_or, Bool.or_false, cond_true, cond_false, if_true, if_false, Bool.false_eq_true, decide_true, decide_false])) rfl rfl⟩ (fun _ hw => hw)
   refine s_want rfl rfl h23 ?_
   refine s_val (v_move (v := .int .i64 _) rfl) ?_
   refine s_want rfl rfl h23 ?_
   refine s_val (v_field (fo := 0) (by kernel_rfl) rfl) ?_
   refine s_want rfl rfl h23 ?_
   refine s_val (v_idxA (len := 4) (size := 2) (k := .i64) (by kernel_rfl) rfl rfl (by assumption)) ?_
   refine s_want rfl rfl h23 ?_
   refine s_val (v_field (fo := 0) (by kernel_rfl) rfl) ?_
   refine s_want rfl rfl h23 ?_
   refine s_val (v_load1 (v := .int .i64 _) (by kernel_rfl) rfl .here (H.at_has _ (by assumption))) ?_
   refine s_want rfl rfl h23 ?_
   refine s_call (by kernel_rfl) (fun w hw => gr_within _ _ _ w) ?_
   refine s_val (v_pickT (v := .bool _) rfl h23 rfl) ?_
   refine s_val (v_move (v := .bool _) rfl) ?_
   refine s_splitR (s := 31) rfl (fun h31 => ?_) (fun h31 => ?_)
   · refine s_pass rfl rfl h31 ?_
     refine s_pass rfl rfl h31 ?_
     refine s_pass rfl rfl h31 ?_
     refine s_pass rfl rfl h31 ?_
     refine s_pass rfl rfl h31 ?_
     refine s_pass rfl rfl h31 ?_
     refine s_val (v_pickF (v := .bool _) rfl h31 rfl) ?_
     refine s_val (v_move (v := .bool _) rfl) ?_
     refine s_pass (g := false) rfl rfl rfl ?_
     refine s_pass (g := false) rfl rfl rfl ?_
     refine s_pass (g := false) rfl rfl rfl ?_
     refine s_pass (g := false) rfl rfl rfl ?_
     refine s_pass (g := false) rfl rfl rfl ?_
     refine s_pass (g := false) rfl rfl rfl ?_
     refine s_pass (g := false) rfl rfl rfl ?_
     refine s_val (v_pickF (v := .bool _) rfl rfl rfl) ?_
     refine s_val (v_assign (v := .bool _) rfl) ?_
     refine s_end ?_
     refine n_cut ⟨_, live4 rfl (congrArg Value.bool (by simp only [hRow, *, Bool.true_and, Bool.false_and, Bool.and_true, Bool.and_false, Bool.not_true, Bool.not_false, Bool.true_or, Bool.or_true, Bool.false_or, Bool.or_false, cond_true, cond_false, if_true, if_false, Bool.false_eq_true, decide_true, decide_false])) rfl rfl⟩ (fun _ hw => hw)
   refine s_want rfl rfl h31 ?_
   refine s_val (v_move (v := .int .i64 _) rfl) ?_
   refine s_want rfl rfl h31 ?_
   refine s_val (v_field (fo := 0) (by kernel_rfl) rfl) ?_
   refine s_want rfl rfl h31 ?_
   refine s_val (v_idxA (len := 4) (size := 2) (k := .i64) (by kernel_rfl) rfl rfl (by assumption)) ?_
   refine s_want rfl rfl h31 ?_
   refine s_val (v_field (fo := 1) (by kernel_rfl) rfl) ?_
   refine s_want rfl rfl h31 ?_
   refine s_val (v_load1 (v := .int .i64 _) (by kernel_rfl) rfl .here (H.at_cred _ (by assumption))) ?_
   refine s_want rfl rfl h31 ?_
   refine s_call (by kernel_rfl) (fun w hw => gr_within _ _ _ w) ?_
   refine s_val (v_pickT (v := .bool _) rfl h31 rfl) ?_
   refine s_val (v_move (v := .bool _) rfl) ?_
   refine s_splitR (s := 39) rfl (fun h39 => ?_) (fun h39 => ?_)
   · refine s_pass rfl rfl h39 ?_
     refine s_pass rfl rfl h39 ?_
     refine s_pass rfl rfl h39 ?_
     refine s_pass rfl rfl h39 ?_
     refine s_pass rfl rfl h39 ?_
     refine s_pass rfl rfl h39 ?_
     refine s_pass rfl rfl h39 ?_
     refine s_val (v_pickF (v := .bool _) rfl h39 rfl) ?_
     refine s_val (v_assign (v := .bool _) rfl) ?_
     refine s_end ?_
     refine n_cut ⟨_, live4 rfl (congrArg Value.bool (by simp only [hRow, *, Bool.true_and, Bool.false_and, Bool.and_true, Bool.and_false, Bool.not_true, Bool.not_false, Bool.true_or, Bool.or_true, Bool.false_or, Bool.or_false, cond_true, cond_false, if_true, if_false, Bool.false_eq_true, decide_true, decide_false])) rfl rfl⟩ (fun _ hw => hw)
   refine s_want rfl rfl h39 ?_
   refine s_val (v_move (v := .int .i64 _) rfl) ?_
   refine s_want rfl rfl h39 ?_
   refine s_val (v_move (v := .int .i64 _) rfl) ?_
   refine s_want rfl rfl h39 ?_
   refine s_val (v_field (fo := 8) (by kernel_rfl) rfl) ?_
   refine s_want rfl rfl h39 ?_
   refine s_val (v_idxA (len := 4) (size := 4) (k := .i64) (by kernel_rfl) rfl rfl (by assumption)) ?_
   refine s_want rfl rfl h39 ?_
   refine s_val (v_idxA (len := 4) (size := 1) (k := .i64) (by kernel_rfl) rfl rfl (by assumption)) ?_
   refine s_want rfl rfl h39 ?_
   refine s_val (v_load1 (v := .int .i64 _) (by kernel_rfl) rfl .here (H.at_sent _ (by assumption) (by assumption))) ?_
   refine s_want rfl rfl h39 ?_
   refine s_val (v_eql (k := .i64) rfl rfl) ?_
   refine s_val (v_pickT (v := .bool _) rfl h39 rfl) ?_
   refine s_val (v_assign (v := .bool _) rfl) ?_
   refine s_end ?_
   refine n_cut ⟨_, live4 rfl (congrArg Value.bool (by simp only [hRow, *, Bool.true_and, Bool.false_and, Bool.and_true, Bool.and_false, Bool.not_true, Bool.not_false, Bool.true_or, Bool.or_true, Bool.false_or, Bool.or_false, cond_true, cond_false, if_true, if_false, Bool.false_eq_true, decide_true, decide_false])) rfl rfl⟩ (fun _ hw => hw)
 rintro _ ⟨g, rfl⟩
 refine r_seq (by kernel_rfl) ?_
 refine s_val (v_move (v := .int .i64 _) rfl) ?_
 refine s_nil ?_
 refine c_block ?_
 refine c_loop (σ := Nat) (fun (m : Nat) f => ∃ g, (m ≤ 4) ∧ f = (upd (upd (upd (upd (upd g 1 (.pointer (some ⟨b1, 0, none⟩))) 3 (.bool (hRow h k (hAll h k) m))) 4 (I k)) 19 (I k)) 48 (I m))) (fun (m : Nat) => Has w (At w) [(b1, .cells h.cells 29)]) (fun (m : Nat) => 4 - m) 0 ⟨_, Nat.zero_le _, live5 rfl rfl rfl rfl rfl⟩ (fun w hw => hw) ?_
 rintro m _ ⟨g, hml, rfl⟩
 refine r_seq (by kernel_rfl) ?_
 refine s_val (v_lss (k := .i64) rfl rfl) ?_
 refine s_nil ?_
 refine c_seq ?_
 refine c_condR rfl rfl (fun h49 => ?_) (fun h49 => ?_)
 · obtain rfl : m = 4 := by have := of_decide_eq_false h49; omega
   refine c_exit ?_
   refine n_exit ?_
   refine n_exit ?_
   refine n_bhere ?_
   refine n_bnormal ?_
   refine n_then ?_
   refine r_list (by kernel_rfl) ?_
   refine s_val (v_add rfl rfl (by omega)) ?_
   refine s_val (v_move (v := .int .i64 _) rfl) ?_
   refine s_end ?_
   refine n_round (k + 1) ⟨_, (by omega), live3 rfl rfl rfl⟩ (fun _ hw => hw) (by omega)
 have hm0 := of_decide_eq_true h49
 have hm : 0 ≤ (m : Int) ∧ (m : Int) < 4 := ⟨by omega, by omega⟩
 refine c_skip ?_
 refine n_then ?_
 refine c_seq ?_
 refine c_block ?_
 refine r_seq (by kernel_rfl) ?_
 refine s_val (v_move (v := .int .i64 _) rfl) ?_
 refine s_val (v_assign (v := .int .i64 _) rfl) ?_
 refine s_nil ?_
 refine c_cutN (fun f => ∃ g, f = (upd (upd (upd (upd (upd g 1 (.pointer (some ⟨b1, 0, none⟩))) 3 (.bool (hRow h k (hAll h k) (m + 1)))) 4 (I k)) 19 (I k)) 48 (I m))) (Has w (At w) [(b1, .cells h.cells 29)]) ?_ ?_
 · refine r_list (by kernel_rfl) ?_
   refine s_val (v_move (v := .bool _) rfl) ?_
   refine s_val (v_move (v := .bool _) rfl) ?_
   refine s_splitR (s := 52) rfl (fun h52 => ?_) (fun h52 => ?_)
   · refine s_pass rfl rfl h52 ?_
     refine s_pass rfl rfl h52 ?_
     refine s_pass rfl rfl h52 ?_
     refine s_pass rfl rfl h52 ?_
     refine s_pass rfl rfl h52 ?_
     refine s_pass rfl rfl h52 ?_
     refine s_pass rfl rfl h52 ?_
     refine s_val (v_pickF (v := .bool _) rfl h52 rfl) ?_
     refine s_val (v_move (v := .bool _) rfl) ?_
     refine s_pass (g := false) rfl rfl rfl ?_
     refine s_pass (g := false) rfl rfl rfl ?_
     refine s_pass (g := false) rfl rfl rfl ?_
     refine s_pass (g := false) rfl rfl rfl ?_
     refine s_pass (g := false) rfl rfl rfl ?_
     refine s_pass (g := false) rfl rfl rfl ?_
     refine s_pass (g := false) rfl rfl rfl ?_
     refine s_val (v_pickF (v := .bool _) rfl rfl rfl) ?_
     refine s_val (v_assign (v := .bool _) rfl) ?_
     refine s_end ?_
     refine n_cut ⟨_, live5 rfl (congrArg Value.bool (by simp only [hRow, *, Bool.true_and, Bool.false_and, Bool.and_true, Bool.and_false, Bool.not_true, Bool.not_false, Bool.true_or, Bool.or_true, Bool.false_or, Bool.or_false, cond_true, cond_false, if_true, if_false, Bool.false_eq_true, decide_true, decide_false])) rfl rfl rfl⟩ (fun _ hw => hw)
   refine s_want rfl rfl h52 ?_
   refine s_val (v_move (v := .int .i64 _) rfl) ?_
   refine s_want rfl rfl h52 ?_
   refine s_val (v_move (v := .int .i64 _) rfl) ?_
   refine s_want rfl rfl h52 ?_
   refine s_val (v_field (fo := 8) (by kernel_rfl) rfl) ?_
   refine s_want rfl rfl h52 ?_
   refine s_val (v_idxA (len := 4) (size := 4) (k := .i64) (by kernel_rfl) rfl rfl (by assumption)) ?_
   refine s_want rfl rfl h52 ?_
   refine s_val (v_idxA (len := 4) (size := 1) (k := .i64) (by kernel_rfl) rfl rfl (by assumption)) ?_
   refine s_want rfl rfl h52 ?_
   refine s_val (v_load1 (v := .int .i64 _) (by kernel_rfl) rfl .here (H.at_sent _ (by assumption) (by assumption))) ?_
   refine s_want rfl rfl h52 ?_
   refine s_call (by kernel_rfl) (fun w hw => gr_within _ _ _ w) ?_
   refine s_val (v_pickT (v := .bool _) rfl h52 rfl) ?_
   refine s_val (v_move (v := .bool _) rfl) ?_
   refine s_splitR (s := 61) rfl (fun h61 => ?_) (fun h61 => ?_)
   · refine s_pass rfl rfl h61 ?_
     refine s_pass rfl rfl h61 ?_
     refine s_pass rfl rfl h61 ?_
     refine s_pass rfl rfl h61 ?_
     refine s_pass rfl rfl h61 ?_
     refine s_pass rfl rfl h61 ?_
     refine s_pass rfl rfl h61 ?_
     refine s_val (v_pickF (v := .bool _) rfl h61 rfl) ?_
     refine s_val (v_assign (v := .bool _) rfl) ?_
     refine s_end ?_
     refine n_cut ⟨_, live5 rfl (congrArg Value.bool (by simp only [hRow, *, Bool.true_and, Bool.false_and, Bool.and_true, Bool.and_false, Bool.not_true, Bool.not_false, Bool.true_or, Bool.or_true, Bool.false_or, Bool.or_false, cond_true, cond_false, if_true, if_false, Bool.false_eq_true, decide_true, decide_false])) rfl rfl rfl⟩ (fun _ hw => hw)
   refine s_want rfl rfl h61 ?_
   refine s_val (v_move (v := .int .i64 _) rfl) ?_
   refine s_want rfl rfl h61 ?_
   refine s_val (v_move (v := .int .i64 _) rfl) ?_
   refine s_want rfl rfl h61 ?_
   refine s_val (v_field (fo := 24) (by kernel_rfl) rfl) ?_
   refine s_want rfl rfl h61 ?_
   refine s_val (v_idxA (len := 4) (size := 4) (k := .i64) (by kernel_rfl) rfl rfl (by assumption)) ?_
   refine s_want rfl rfl h61 ?_
   refine s_val (v_idxA (len := 4) (size := 1) (k := .i64) (by kernel_rfl) rfl rfl (by assumption)) ?_
   refine s_want rfl rfl h61 ?_
   refine s_val (v_load1 (v := .int .i64 _) (by kernel_rfl) rfl .here (H.at_lim _ (by assumption) (by assumption))) ?_
   refine s_want rfl rfl h61 ?_
   refine s_call (by kernel_rfl) (fun w hw => gr_within _ _ _ w) ?_
   refine s_val (v_pickT (v := .bool _) rfl h61 rfl) ?_
   refine s_val (v_assign (v := .bool _) rfl) ?_
   refine s_end ?_
   refine n_cut ⟨_, live5 rfl (congrArg Value.bool (by simp only [hRow, *, Bool.true_and, Bool.false_and, Bool.and_true, Bool.and_false, Bool.not_true, Bool.not_false, Bool.true_or, Bool.or_true, Bool.false_or, Bool.or_false, cond_true, cond_false, if_true, if_false, Bool.false_eq_true, decide_true, decide_false])) rfl rfl rfl⟩ (fun _ hw => hw)
 rintro _ ⟨g, rfl⟩
 refine n_bnormal ?_
 refine n_then ?_
 refine r_list (by kernel_rfl) ?_
 refine s_val (v_add rfl rfl (by omega)) ?_
 refine s_val (v_move (v := .int .i64 _) rfl) ?_
 refine s_end ?_
 refine n_round (m + 1) ⟨_, (by omega), live5 rfl rfl rfl rfl rfl⟩ (fun _ hw => hw) (by omega)
end Go.Proofs.YtmkboljfbmlebaaGreat
namespace Go.Proofs.YtmkboljfbmlebaaGreat
open Go.RowKit
set_option linter.unusedSimpArgs false
set_option linter.unusedVariables false
set_option maxRecDepth 100000
attribute [local irreducible] cC sC nC rC qw
theorem gr_QueueOf (h : H) (ps : List PayS) (bank : Int) (w : World) (hp : PaysIn (At w) h.pa h.pl ps) (hb : h.pl * 48 ≤ 281474976710656) (hlc : h.pl ≤ h.pc) : GivesE Tryz.prog 41 [.agg h.cells, I bank] w (fun v E => ListE 3 1 v (queueM ps bank).length ((queueM ps bank).map I) E) := by
 refine givesE_of Tryz.func41 rfl Tryz.ntmps41 (by simp) ?_
 refine r_seq (by kernel_rfl) ?_
 refine s_box (v := .agg _) rfl (fun b2 => ?_)
 refine s_val (v_assign (v := .slice _ _ _) rfl) ?_
 refine s_nil ?_
 refine r_seq (by kernel_rfl) ?_
 refine s_val (v_assign (v := .slice _ _ _) rfl) ?_
 refine s_nil ?_
 refine r_seq (by kernel_rfl) ?_
 refine s_makeSet (fun b10 => ?_)
 refine s_val (v_assign (v := .map _) rfl) ?_
 refine s_nil ?_
 refine c_seq ?_
 refine r_seq (by kernel_rfl) ?_
 refine s_val (v_field (fo := 40) (by kernel_rfl) rfl) ?_
 refine s_val (v_load1 (v := .slice _ _ _) (by kernel_rfl) rfl (.there .here) (H.at_pays _)) ?_
 refine s_val (v_lenS (T := 27) (m := 6) (by kernel_rfl) rfl rfl) ?_
 refine s_val (v_move (v := .int .i64 _) rfl) ?_
 refine s_nil ?_
 refine c_block ?_
 refine c_loop (σ := Nat × Value × List (Nat × Obj)) (fun ((k, v, E) : Nat × Value × List (Nat × Obj)) f => ∃ g, (k ≤ h.pl ∧ ListE 3 1 v (queueTo ps bank k).length ((queueTo ps bank k).map I) E) ∧ f = (upd (upd (upd (upd (upd (upd g 1 (I bank)) 2 (.pointer (some ⟨b2, 0, none⟩))) 5 (v)) 6 (.map (some b10))) 13 (I h.pl)) 14 (I k))) (fun ((k, v, E) : Nat × Value × List (Nat × Obj)) => Has w (At w) (E ++ [(b10, setO (queueTo ps bank k)), (b2, .cells h.cells 29)])) (fun ((k, v, E) : Nat × Value × List (Nat × Obj)) => h.pl - k) (0, .slice none 0 0, []) ⟨_, ⟨Nat.zero_le _, listE_nil _ _⟩, live6 rfl rfl rfl rfl rfl rfl⟩ (fun w hw => hw) ?_
 rintro ⟨k, v, E⟩ _ ⟨g, ⟨hkl, hE⟩, rfl⟩
 refine r_seq (by kernel_rfl) ?_
 refine s_val (v_lss (k := .i64) rfl rfl) ?_
 refine s_nil ?_
 refine c_seq ?_
 refine c_condR rfl rfl (fun h15 => ?_) (fun h15 => ?_)
 · obtain rfl : k = h.pl := by have := of_decide_eq_false h15; omega
   refine c_exit ?_
   refine n_exit ?_
   refine n_exit ?_
   refine n_bhere ?_
   refine n_then ?_
   refine r_seq (by kernel_rfl) ?_
   refine s_val (v_move (v := _) rfl) ?_
   refine s_val (v_assign (v := _) rfl) ?_
   refine s_nil ?_
   refine c_ret ?_
   refine n_doneE rfl (by decide) ?_
   show ListE _ _ v _ _ E
   unfold queueM
   rw [hp.1]
   exact hE
 have hk0 := of_decide_eq_true h15
 have hql := queueTo_len ps bank k
 refine c_skip ?_
 refine n_then ?_
 refine c_seq ?_
 refine c_block ?_
 refine r_seq (by kernel_rfl) ?_
 refine s_val (v_assign (v := .int .i64 _) rfl) ?_
 refine s_nil ?_
 refine c_seq ?_
 refine r_seq (by kernel_rfl) ?_
 refine s_val (v_field (fo := 40) (by kernel_rfl) rfl) ?_
 refine s_val (v_load1 (v := .slice _ _ _) (by kernel_rfl) rfl (.app (.there .here)) (H.at_pays _)) ?_
 refine s_val (v_lenS (T := 27) (m := 6) (by kernel_rfl) rfl rfl) ?_
 refine s_val (v_move (v := .int .i64 _) rfl) ?_
 refine s_nil ?_
 refine c_block ?_
 refine c_loop (σ := Nat) (fun (m : Nat) f => ∃ g, (m ≤ h.pl) ∧ f = (upd (upd (upd (upd (upd (upd (upd (upd (upd (upd g 1 (I bank)) 2 (.pointer (some ⟨b2, 0, none⟩))) 5 (v)) 6 (.map (some b10))) 7 (I (bestTo ps bank (queueTo ps bank k) m))) 13 (I h.pl)) 14 (I k)) 17 (.slice h.pa h.pl h.pc)) 18 (I h.pl)) 19 (I m))) (fun (m : Nat) => Has w (At w) (E ++ [(b10, setO (queueTo ps bank k)), (b2, .cells h.cells 29)])) (fun (m : Nat) => h.pl - m) 0 ⟨_, Nat.zero_le _, live10 rfl rfl rfl rfl rfl rfl rfl rfl rfl rfl⟩ (fun w hw => hw) ?_
 rintro m _ ⟨g, hml, rfl⟩
 refine r_seq (by kernel_rfl) ?_
 refine s_val (v_lss (k := .i64) rfl rfl) ?_
 refine s_nil ?_
 refine c_seq ?_
 refine c_condR rfl rfl (fun h20 => ?_) (fun h20 => ?_)
 · obtain rfl : m = h.pl := by have := of_decide_eq_false h20; omega
   refine c_exit ?_
   refine n_exit ?_
   refine n_exit ?_
   refine n_bhere ?_
   refine n_then ?_
   refine r_seq (by kernel_rfl) ?_
   refine s_val (v_move (v := .int .i64 _) rfl) ?_
   refine s_val (v_geq (k := .i64) rfl rfl) ?_
   refine s_nil ?_
   refine c_condR rfl rfl (fun h76 => ?_) (fun h76 => ?_)
   · have hno : decide (0 ≤ bestTo ps bank (queueTo ps bank k) ps.length) = false := by rw [hp.1]; exact h76
     refine c_skip ?_
     refine n_bnormal ?_
     refine n_then ?_
     refine r_list (by kernel_rfl) ?_
     refine s_val (v_add rfl rfl (by omega)) ?_
     refine s_val (v_move (v := .int .i64 _) rfl) ?_
     refine s_end ?_
     refine n_round (s := (k, v, E)) (k + 1, v, E) ⟨_, ⟨by omega, by rw [queueTo_no hno]; exact hE⟩, live6 rfl rfl rfl rfl rfl rfl⟩ (fun _ hw => by dsimp only; rw [queueTo_no hno]; exact hw) (by dsimp only; omega)
   have hyes : decide (0 ≤ bestTo ps bank (queueTo ps bank k) ps.length) = true := by rw [hp.1]; exact h76
   have hmine := best_mine ps bank (queueTo ps bank k) ps.length (of_decide_eq_true hyes)
   rw [hp.1] at hmine
   refine r_seq (by kernel_rfl) ?_
   refine s_val (v_move (v := .map _) rfl) ?_
   refine s_val (v_move (v := .int .i64 _) rfl) ?_
   refine s_setAdd (by kernel_rfl) rfl rfl rfl (.app .here) hmine.2 ?_
   refine s_nil ?_
   refine r_list (by kernel_rfl) ?_
   refine s_val (v_move (v := _) rfl) ?_
   refine s_val (v_move (v := .int .i64 _) rfl) ?_
   refine s_build1 (v := .int .i64 _) (e := 3) (m := 1) (by_ := 8) (by kernel_rfl) rfl rfl rfl (fill_scalar rfl) (fun b81 => ?_)
   refine s_push (e := 3) (m := 1) (by_ := 8) (by kernel_rfl) rfl rfl rfl rfl rfl hE rfl (all_scalar rfl rfl) (by omega) (fun v82 E82 hE82 => ?_)
   refine s_val (v_assign (v := _) rfl) ?_
   refine s_end ?_
   refine n_bnormal ?_
   refine n_then ?_
   refine r_list (by kernel_rfl) ?_
   refine s_val (v_add rfl rfl (by omega)) ?_
   refine s_val (v_move (v := .int .i64 _) rfl) ?_
   refine s_end ?_
   refine n_round (s := (k, v, E)) (k + 1, v82, E82) ⟨_, ⟨by omega, by rw [queueTo_yes hyes, List.map_append, List.length_append, hp.1]; exact hE82⟩, live6 rfl rfl rfl rfl rfl rfl⟩ (fun _ hw => by dsimp only; rw [queueTo_yes hyes, hp.1]; exact hw) (by dsimp only; omega)
 have hm0 := of_decide_eq_true h20
 obtain ⟨p, hpm, hd, ht⟩ := hp.get (k := m) (by omega)
 obtain ⟨b, o, hpa, hc⟩ := hp.some (k := m) (by omega)
 refine c_skip ?_
 refine n_then ?_
 refine c_seq ?_
 refine c_block ?_
 refine r_seq (by kernel_rfl) ?_
 refine s_val (v_move (v := .int .i64 _) rfl) ?_
 refine s_val (v_idxS (size := 6) (k := .i64) (by kernel_rfl) (congrArg (fun a => Value.slice a h.pl h.pc) hpa) rfl ⟨by omega, by omega⟩) ?_
 refine s_val (v_loadNo (cs := p.cells) (m := 6) (by kernel_rfl) rfl rfl (hc m p hpm)) ?_
 refine s_alloc (z := zeroOf Tryz.prog 51) (by kernel_rfl) (fun b9 => ?_)
 refine s_val (v_assign (v := .int .i64 _) rfl) ?_
 refine s_storeA (m := 6) (by kernel_rfl) rfl rfl .here (by kernel_rfl) rfl (PayS.all1 _) ?_
 refine s_nil ?_
 refine c_seq ?_
 refine r_seq (by kernel_rfl) ?_
 refine s_val (v_field (fo := 4) (by kernel_rfl) rfl) ?_
 refine s_val (v_load1 (v := .int .i64 _) (by kernel_rfl) rfl .here rfl) ?_
 refine s_val (v_neq (k := .i64) rfl rfl) ?_
 refine s_val (v_move (v := .bool _) rfl) ?_
 refine s_splitN (s := 27) rfl (fun h27 => ?_) (fun h27 => ?_)
 · refine s_pass rfl rfl (congrArg not h27) ?_
   refine s_pass rfl rfl (congrArg not h27) ?_
   refine s_pass rfl rfl (congrArg not h27) ?_
   refine s_pass rfl rfl (congrArg not h27) ?_
   refine s_val (v_pickT (v := .bool _) rfl (congrArg not h27) rfl) ?_
   refine s_val (v_move (v := .bool _) rfl) ?_
   refine s_pass (g := true) rfl rfl rfl ?_
   refine s_pass (g := true) rfl rfl rfl ?_
   refine s_pass (g := true) rfl rfl rfl ?_
   refine s_val (v_pickT (v := .bool _) rfl rfl rfl) ?_
   refine s_nil ?_
   refine c_condTh rfl rfl rfl ?_
   refine c_exit ?_
   refine n_exit ?_
   refine n_bhere ?_
   refine n_then ?_
   refine r_list (by kernel_rfl) ?_
   refine s_val (v_add rfl rfl (by omega)) ?_
   refine s_val (v_move (v := .int .i64 _) rfl) ?_
   refine s_end ?_
   refine n_round (m + 1) ⟨_, (by omega), live10 rfl rfl rfl rfl (congrArg I (by rw [best_step hpm]; simp only [wantB, better, *, Bool.true_and, Bool.false_and, Bool.and_true, Bool.and_false, Bool.not_true, Bool.not_false, Bool.true_or, Bool.or_true, Bool.false_or, Bool.or_false, cond_true, cond_false, if_true, if_false, Bool.false_eq_true, decide_true, decide_false])) rfl rfl rfl rfl rfl⟩ (fun _ hw => hw.tail) (by omega)
 refine s_want rfl rfl (congrArg not h27) ?_
 refine s_val (v_field (fo := 0) (by kernel_rfl) rfl) ?_
 refine s_want rfl rfl (congrArg not h27) ?_
 refine s_val (v_load1 (v := .int .i64 _) (by kernel_rfl) rfl .here rfl) ?_
 refine s_want rfl rfl (congrArg not h27) ?_
 refine s_val (v_move (v := .int .i64 _) rfl) ?_
 refine s_want rfl rfl (congrArg not h27) ?_
 refine s_val (v_neq (k := .i64) rfl rfl) ?_
 refine s_val (v_pickF (v := .bool _) rfl (congrArg not h27) rfl) ?_
 refine s_val (v_move (v := .bool _) rfl) ?_
 refine s_splitN (s := 33) rfl (fun h33 => ?_) (fun h33 => ?_)
 · refine s_pass rfl rfl (congrArg not h33) ?_
   refine s_pass rfl rfl (congrArg not h33) ?_
   refine s_pass rfl rfl (congrArg not h33) ?_
   refine s_val (v_pickT (v := .bool _) rfl (congrArg not h33) rfl) ?_
   refine s_nil ?_
   refine c_condTh rfl rfl rfl ?_
   refine c_exit ?_
   refine n_exit ?_
   refine n_bhere ?_
   refine n_then ?_
   refine r_list (by kernel_rfl) ?_
   refine s_val (v_add rfl rfl (by omega)) ?_
   refine s_val (v_move (v := .int .i64 _) rfl) ?_
   refine s_end ?_
   refine n_round (m + 1) ⟨_, (by omega), live10 rfl rfl rfl rfl (congrArg I (by rw [best_step hpm]; simp only [wantB, better, *, Bool.true_and, Bool.false_and, Bool.and_true, Bool.and_false, Bool.not_true, Bool.not_false, Bool.true_or, Bool.or_true, Bool.false_or, Bool.or_false, cond_true, cond_false, if_true, if_false, Bool.false_eq_true, decide_true, decide_false])) rfl rfl rfl rfl rfl⟩ (fun _ hw => hw.tail) (by omega)
 refine s_want rfl rfl (congrArg not h33) ?_
 refine s_val (v_move (v := .map _) rfl) ?_
 refine s_want rfl rfl (congrArg not h33) ?_
 refine s_val (v_move (v := .int .i64 _) rfl) ?_
 refine s_want rfl rfl (congrArg not h33) ?_
 refine s_val (v_setHas (by kernel_rfl) rfl rfl (.there (.app .here))) ?_
 refine s_val (v_pickF (v := .bool _) rfl (congrArg not h33) rfl) ?_
 refine s_nil ?_
 refine c_cond rfl rfl (fun h37 => ?_) (fun h37 => ?_)
 · refine c_exit ?_
   refine n_exit ?_
   refine n_bhere ?_
   refine n_then ?_
   refine r_list (by kernel_rfl) ?_
   refine s_val (v_add rfl rfl (by omega)) ?_
   refine s_val (v_move (v := .int .i64 _) rfl) ?_
   refine s_end ?_
   refine n_round (m + 1) ⟨_, (by omega), live10 rfl rfl rfl rfl (congrArg I (by rw [best_step hpm]; simp only [wantB, better, *, Bool.true_and, Bool.false_and, Bool.and_true, Bool.and_false, Bool.not_true, Bool.not_false, Bool.true_or, Bool.or_true, Bool.false_or, Bool.or_false, cond_true, cond_false, if_true, if_false, Bool.false_eq_true, decide_true, decide_false])) rfl rfl rfl rfl rfl⟩ (fun _ hw => hw.tail) (by omega)
 refine c_skip ?_
 refine n_then ?_
 refine d_seq (by kernel_rfl) (by kernel_rfl) (fun w hw => hw.drew) (by kernel_rfl) ?_
 refine q_val (v_move (v := .int .i64 _) rfl) ?_
 refine q_val (v_lss (k := .i64) rfl rfl) ?_
 refine q_val (v_move (v := .bool _) rfl) ?_
 refine q_split (s := 40) rfl (fun h40 => ?_) (fun h40 => ?_)
 · refine q_pass rfl rfl h40 ?_
   refine q_pass rfl rfl h40 ?_
   refine q_pass rfl rfl h40 ?_
   refine q_pass rfl rfl h40 ?_
   refine q_pass rfl rfl h40 ?_
   refine q_pass rfl rfl h40 ?_
   refine q_pass rfl rfl h40 ?_
   refine q_pass rfl rfl h40 ?_
   refine q_pass rfl rfl h40 ?_
   refine q_val (v_pickT (v := .bool _) rfl h40 rfl) ?_
   refine q_val (v_move (v := .bool _) rfl) ?_
   refine q_pass (g := true) rfl rfl rfl ?_
   refine q_pass (g := true) rfl rfl rfl ?_
   refine q_pass (g := true) rfl rfl rfl ?_
   refine q_pass (g := true) rfl rfl rfl ?_
   refine q_pass (g := true) rfl rfl rfl ?_
   refine q_pass (g := true) rfl rfl rfl ?_
   refine q_pass (g := true) rfl rfl rfl ?_
   refine q_pass (g := true) rfl rfl rfl ?_
   refine q_pass (g := true) rfl rfl rfl ?_
   refine q_pass (g := true) rfl rfl rfl ?_
   refine q_passU rfl rfl ?_
   refine q_passU rfl rfl ?_
   refine q_passU rfl rfl ?_
   refine q_passU rfl rfl ?_
   refine q_passU rfl rfl ?_
   refine q_passU rfl rfl ?_
   refine q_passU rfl rfl ?_
   refine q_passU rfl rfl ?_
   refine q_passU rfl rfl ?_
   refine q_pass (g := true) rfl rfl rfl ?_
   refine q_val (v_pickT (v := .bool _) rfl rfl rfl) ?_
   refine q_nil ?_
   refine c_condTh rfl rfl rfl ?_
   refine r_list (by kernel_rfl) ?_
   refine s_val (v_move (v := .int .i64 _) rfl) ?_
   refine s_val (v_assign (v := .int .i64 _) rfl) ?_
   refine s_end ?_
   refine n_bnormal ?_
   refine n_then ?_
   refine r_list (by kernel_rfl) ?_
   refine s_val (v_add rfl rfl (by omega)) ?_
   refine s_val (v_move (v := .int .i64 _) rfl) ?_
   refine s_end ?_
   refine n_round (m + 1) ⟨_, (by omega), live10 rfl rfl rfl rfl (congrArg I (by rw [best_step hpm]; simp only [wantB, better, *, Bool.true_and, Bool.false_and, Bool.and_true, Bool.and_false, Bool.not_true, Bool.not_false, Bool.true_or, Bool.or_true, Bool.false_or, Bool.or_false, cond_true, cond_false, if_true, if_false, Bool.false_eq_true, decide_true, decide_false])) rfl rfl rfl rfl rfl⟩ (fun _ hw => hw.tail) (by omega)
 have hq0 := of_decide_eq_false h40
 have hr := best_range ps bank (queueTo ps bank k) m
 obtain ⟨q, hq, hqd, hqt⟩ := hp.get (k := (bestTo ps bank (queueTo ps bank k) m).toNat) (by omega)
 obtain ⟨hr0, hr1⟩ : 0 ≤ bestTo ps bank (queueTo ps bank k) m ∧ bestTo ps bank (queueTo ps bank k) m < m := by omega
 refine q_want rfl rfl h40 ?_
 refine q_val (v_field (fo := 3) (by kernel_rfl) rfl) ?_
 refine q_want rfl rfl h40 ?_
 refine q_val (v_load1 (v := .int .i64 _) (by kernel_rfl) rfl .here rfl) ?_
 refine q_want rfl rfl h40 ?_
 refine q_val (v_field (fo := 40) (by kernel_rfl) rfl) ?_
 refine q_want rfl rfl h40 ?_
 refine q_val (v_load1 (v := .slice _ _ _) (by kernel_rfl) rfl (.there (.app (.there .here))) (H.at_pays _)) ?_
 refine q_want rfl rfl h40 ?_
 refine q_val (v_move (v := .int .i64 _) rfl) ?_
 refine q_want rfl rfl h40 ?_
 refine q_val (v_idxS (size := 6) (k := .i64) (by kernel_rfl) (congrArg (fun a => Value.slice a h.pl h.pc) hpa) rfl ⟨by omega, by omega⟩) ?_
 refine q_want rfl rfl h40 ?_
 refine q_val (v_field (fo := 3) (by kernel_rfl) rfl) ?_
 refine q_want rfl rfl h40 ?_
 refine q_val (v_load1o (by kernel_rfl) rfl (hc _ q hq 3 _ rfl)) ?_
 refine q_want rfl rfl h40 ?_
 refine q_val (v_lss (k := .i64) rfl rfl) ?_
 refine q_val (v_pickF (v := .bool _) rfl h40 rfl) ?_
 refine q_val (v_move (v := .bool _) rfl) ?_
 refine q_split (s := 51) rfl (fun h51 => ?_) (fun h51 => ?_)
 · refine q_pass rfl rfl h51 ?_
   refine q_pass rfl rfl h51 ?_
   refine q_pass rfl rfl h51 ?_
   refine q_pass rfl rfl h51 ?_
   refine q_pass rfl rfl h51 ?_
   refine q_pass rfl rfl h51 ?_
   refine q_pass rfl rfl h51 ?_
   refine q_pass rfl rfl h51 ?_
   refine q_pass rfl rfl h51 ?_
   refine q_pass rfl rfl h51 ?_
   refine q_passU rfl rfl ?_
   refine q_passU rfl rfl ?_
   refine q_passU rfl rfl ?_
   refine q_passU rfl rfl ?_
   refine q_passU rfl rfl ?_
   refine q_passU rfl rfl ?_
   refine q_passU rfl rfl ?_
   refine q_passU rfl rfl ?_
   refine q_passU rfl rfl ?_
   refine q_pass rfl rfl h51 ?_
   refine q_val (v_pickT (v := .bool _) rfl h51 rfl) ?_
   refine q_nil ?_
   refine c_condTh rfl rfl rfl ?_
   refine r_list (by kernel_rfl) ?_
   refine s_val (v_move (v := .int .i64 _) rfl) ?_
   refine s_val (v_assign (v := .int .i64 _) rfl) ?_
   refine s_end ?_
   refine n_bnormal ?_
   refine n_then ?_
   refine r_list (by kernel_rfl) ?_
   refine s_val (v_add rfl rfl (by omega)) ?_
   refine s_val (v_move (v := .int .i64 _) rfl) ?_
   refine s_end ?_
   refine n_round (m + 1) ⟨_, (by omega), live10 rfl rfl rfl rfl (congrArg I (by rw [best_step hpm]; simp only [wantB, better, *, Bool.true_and, Bool.false_and, Bool.and_true, Bool.and_false, Bool.not_true, Bool.not_false, Bool.true_or, Bool.or_true, Bool.false_or, Bool.or_false, cond_true, cond_false, if_true, if_false, Bool.false_eq_true, decide_true, decide_false])) rfl rfl rfl rfl rfl⟩ (fun _ hw => hw.tail) (by omega)
 refine q_want rfl rfl h51 ?_
 refine q_val (v_field (fo := 3) (by kernel_rfl) rfl) ?_
 refine q_want rfl rfl h51 ?_
 refine q_val (v_load1 (v := .int .i64 _) (by kernel_rfl) rfl .here rfl) ?_
 refine q_want rfl rfl h51 ?_
 refine q_val (v_field (fo := 40) (by kernel_rfl) rfl) ?_
 refine q_want rfl rfl h51 ?_
 refine q_val (v_load1 (v := .slice _ _ _) (by kernel_rfl) rfl (.there (.app (.there .here))) (H.at_pays _)) ?_
 refine q_want rfl rfl h51 ?_
 refine q_val (v_move (v := .int .i64 _) rfl) ?_
 refine q_want rfl rfl h51 ?_
 refine q_val (v_idxS (size := 6) (k := .i64) (by kernel_rfl) (congrArg (fun a => Value.slice a h.pl h.pc) hpa) rfl ⟨by omega, by omega⟩) ?_
 refine q_want rfl rfl h51 ?_
 refine q_val (v_field (fo := 3) (by kernel_rfl) rfl) ?_
 refine q_want rfl rfl h51 ?_
 refine q_val (v_load1o (by kernel_rfl) rfl (hc _ q hq 3 _ rfl)) ?_
 refine q_want rfl rfl h51 ?_
 refine q_val (v_eql (k := .i64) rfl rfl) ?_
 refine q_want rfl rfl h51 ?_
 refine q_val (v_move (v := .bool _) rfl) ?_
 refine q_splitR (s := 61) rfl (fun h61 => ?_) (fun h61 => ?_)
 · refine q_pass rfl rfl h61 ?_
   refine q_pass rfl rfl h61 ?_
   refine q_pass rfl rfl h61 ?_
   refine q_pass rfl rfl h61 ?_
   refine q_pass rfl rfl h61 ?_
   refine q_pass rfl rfl h61 ?_
   refine q_pass rfl rfl h61 ?_
   refine q_pass rfl rfl h61 ?_
   refine q_pass rfl rfl h61 ?_
   refine q_want rfl rfl h51 ?_
   refine q_val (v_pickF (v := .bool _) rfl h61 rfl) ?_
   refine q_val (v_pickF (v := .bool _) rfl h51 rfl) ?_
   refine q_nil ?_
   refine c_condFh rfl rfl rfl ?_
   refine c_skip ?_
   refine n_bnormal ?_
   refine n_then ?_
   refine r_list (by kernel_rfl) ?_
   refine s_val (v_add rfl rfl (by omega)) ?_
   refine s_val (v_move (v := .int .i64 _) rfl) ?_
   refine s_end ?_
   refine n_round (m + 1) ⟨_, (by omega), live10 rfl rfl rfl rfl (congrArg I (by rw [best_step hpm]; simp only [wantB, better, *, Bool.true_and, Bool.false_and, Bool.and_true, Bool.and_false, Bool.not_true, Bool.not_false, Bool.true_or, Bool.or_true, Bool.false_or, Bool.or_false, cond_true, cond_false, if_true, if_false, Bool.false_eq_true, decide_true, decide_false])) rfl rfl rfl rfl rfl⟩ (fun _ hw => hw.tail) (by omega)
 refine q_want rfl rfl h61 ?_
 refine q_val (v_field (fo := 5) (by kernel_rfl) rfl) ?_
 refine q_want rfl rfl h61 ?_
 refine q_val (v_load1 (v := .int .i64 _) (by kernel_rfl) rfl .here rfl) ?_
 refine q_want rfl rfl h61 ?_
 refine q_val (v_field (fo := 40) (by kernel_rfl) rfl) ?_
 refine q_want rfl rfl h61 ?_
 refine q_val (v_load1 (v := .slice _ _ _) (by kernel_rfl) rfl (.there (.app (.there .here))) (H.at_pays _)) ?_
 refine q_want rfl rfl h61 ?_
 refine q_val (v_move (v := .int .i64 _) rfl) ?_
 refine q_want rfl rfl h61 ?_
 refine q_val (v_idxS (size := 6) (k := .i64) (by kernel_rfl) (congrArg (fun a => Value.slice a h.pl h.pc) hpa) rfl ⟨by omega, by omega⟩) ?_
 refine q_want rfl rfl h61 ?_
 refine q_val (v_field (fo := 5) (by kernel_rfl) rfl) ?_
 refine q_want rfl rfl h61 ?_
 refine q_val (v_load1o (by kernel_rfl) rfl (hc _ q hq 5 _ rfl)) ?_
 refine q_want rfl rfl h61 ?_
 refine q_val (v_lss (k := .i64) rfl rfl) ?_
 refine q_want rfl rfl h51 ?_
 refine q_val (v_pickT (v := .bool _) rfl h61 rfl) ?_
 refine q_val (v_pickF (v := .bool _) rfl h51 rfl) ?_
 refine q_nil ?_
 refine c_condR rfl rfl (fun h72 => ?_) (fun h72 => ?_)
 · refine c_skip ?_
   refine n_bnormal ?_
   refine n_then ?_
   refine r_list (by kernel_rfl) ?_
   refine s_val (v_add rfl rfl (by omega)) ?_
   refine s_val (v_move (v := .int .i64 _) rfl) ?_
   refine s_end ?_
   refine n_round (m + 1) ⟨_, (by omega), live10 rfl rfl rfl rfl (congrArg I (by rw [best_step hpm]; simp only [wantB, better, *, Bool.true_and, Bool.false_and, Bool.and_true, Bool.and_false, Bool.not_true, Bool.not_false, Bool.true_or, Bool.or_true, Bool.false_or, Bool.or_false, cond_true, cond_false, if_true, if_false, Bool.false_eq_true, decide_true, decide_false])) rfl rfl rfl rfl rfl⟩ (fun _ hw => hw.tail) (by omega)
 refine r_list (by kernel_rfl) ?_
 refine s_val (v_move (v := .int .i64 _) rfl) ?_
 refine s_val (v_assign (v := .int .i64 _) rfl) ?_
 refine s_end ?_
 refine n_bnormal ?_
 refine n_then ?_
 refine r_list (by kernel_rfl) ?_
 refine s_val (v_add rfl rfl (by omega)) ?_
 refine s_val (v_move (v := .int .i64 _) rfl) ?_
 refine s_end ?_
 refine n_round (m + 1) ⟨_, (by omega), live10 rfl rfl rfl rfl (congrArg I (by rw [best_step hpm]; simp only [wantB, better, *, Bool.true_and, Bool.false_and, Bool.and_true, Bool.and_false, Bool.not_true, Bool.not_false, Bool.true_or, Bool.or_true, Bool.false_or, Bool.or_false, cond_true, cond_false, if_true, if_false, Bool.false_eq_true, decide_true, decide_false])) rfl rfl rfl rfl rfl⟩ (fun _ hw => hw.tail) (by omega)
theorem gr_CopyHouseE (h : H) (ps : List PayS) (w : World) (hp : PaysIn (At w) h.pa h.pl ps) (hb : h.pl * 48 ≤ 281474976710656) (hlc : h.pl ≤ h.pc) : GivesE Tryz.prog 4 [.agg h.cells] w (fun v E => ∃ pa pc, v = .agg ({ h with pa := pa, pc := pc } : H).cells ∧ PaysE pa h.pl pc ps E) := by
 refine givesE_of Tryz.func4 rfl Tryz.ntmps4 (by simp) ?_
 refine r_seq (by kernel_rfl) ?_
 refine s_box (v := .agg _) rfl (fun b1 => ?_)
 refine s_alloc (z := .agg zeroH.cells) (by kernel_rfl) (fun b2 => ?_)
 refine s_nil ?_
 refine r_seq (by kernel_rfl) ?_
 refine s_val (v_field (fo := 40) (by kernel_rfl) rfl) ?_
 refine s_val (v_load1 (v := .slice _ _ _) (by kernel_rfl) rfl (.there .here) (H.at_pays _)) ?_
 refine s_appendCopy (by kernel_rfl) rfl rfl rfl hp hb (fun hz5 => ?_) (fun b5 c5 cs5 hpos5 hc5 hs5 hcs5 => ?_)
 · refine s_val (v_field (fo := 40) (by kernel_rfl) rfl) ?_
   refine s_store1 (v := .slice _ _ _) (by kernel_rfl) rfl rfl (.there .here) (H.set_pays _) rfl ?_
   refine s_nil ?_
   refine r_seq (by kernel_rfl) ?_
   refine s_val (v_loadA (m := 42) (by kernel_rfl) rfl (.there .here) (H.size _)) ?_
   refine s_storeA (m := 42) (by kernel_rfl) rfl rfl .here (H.size _) (H.size _) (H.all1 _) ?_
   refine s_nil ?_
   refine c_ret ?_
   refine n_doneCE (E := []) (m := 42) rfl (by decide) rfl (by kernel_rfl) .here (H.size _) (fun w hw => hw) ⟨none, 0, ?_, hp.1, by omega, .inl ⟨rfl, hz5, rfl, rfl⟩⟩
   exact congrArg (fun n => Value.agg (H.cells { h with pa := none, pl := n, pc := 0 })) hz5.symm
 refine s_val (v_field (fo := 40) (by kernel_rfl) rfl) ?_
 refine s_store1 (v := .slice _ _ _) (by kernel_rfl) rfl rfl (.there (.there .here)) (H.set_pays _) rfl ?_
 refine s_nil ?_
 refine r_seq (by kernel_rfl) ?_
 refine s_val (v_loadA (m := 42) (by kernel_rfl) rfl (.there (.there .here)) (H.size _)) ?_
 refine s_storeA (m := 42) (by kernel_rfl) rfl rfl (.there .here) (H.size _) (H.size _) (H.all1 _) ?_
 refine s_nil ?_
 refine c_ret ?_
 refine n_doneCE (E := [_]) (m := 42) rfl (by decide) rfl (by kernel_rfl) (.there .here) (H.size _) (fun w hw => hw) ⟨_, _, rfl, hp.1, hc5, .inr ⟨b5, _, cs5, rfl, rfl, hs5, hcs5⟩⟩
theorem gr_SettlePay (h : H) (ps : List PayS) (n : Int) (w : World) (hp : PaysIn (At w) h.pa h.pl ps) (hb : h.pl * 48 ≤ 281474976710656) (hlc : h.pl ≤ h.pc) : GivesF Tryz.prog 42 [.agg h.cells, I n] w (HouseF h ps (settleC h.core ps n) (settleP ps n)) := by
 refine givesF_of Tryz.func42 rfl Tryz.ntmps42 (by simp) ?_
 refine r_seq (by kernel_rfl) ?_
 refine s_box (v := .agg _) rfl (fun b2 => ?_)
 refine s_alloc (z := .agg zeroH.cells) (by kernel_rfl) (fun b4 => ?_)
 refine s_nil ?_
 refine c_seq ?_
 refine r_seq (by kernel_rfl) ?_
 refine s_val (v_move (v := .int .i64 _) rfl) ?_
 refine s_val (v_field (fo := 40) (by kernel_rfl) rfl) ?_
 refine s_val (v_load1 (v := .slice _ _ _) (by kernel_rfl) rfl (.there .here) (H.at_pays _)) ?_
 refine s_val (v_lenS (T := 27) (m := 6) (by kernel_rfl) rfl rfl) ?_
 refine s_val (v_sub rfl rfl (by omega)) ?_
 refine s_call (by kernel_rfl) (fun w hw => gr_within _ _ _ w) ?_
 refine s_val (v_not rfl) ?_
 refine s_val (v_move (v := .bool _) rfl) ?_
 refine s_splitN (s := 13) rfl (fun h13 => ?_) (fun h13 => ?_)
 · refine s_pass rfl rfl (congrArg not h13) ?_
   refine s_pass rfl rfl (congrArg not h13) ?_
   refine s_pass rfl rfl (congrArg not h13) ?_
   refine s_pass rfl rfl (congrArg not h13) ?_
   refine s_pass rfl rfl (congrArg not h13) ?_
   refine s_pass rfl rfl (congrArg not h13) ?_
   refine s_pass rfl rfl (congrArg not h13) ?_
   refine s_val (v_pickT (v := .bool _) rfl (congrArg not h13) rfl) ?_
   refine s_nil ?_
   refine c_condTh rfl rfl rfl ?_
   refine r_seq (by kernel_rfl) ?_
   refine s_val (v_loadA (m := 42) (by kernel_rfl) rfl (.there .here) (H.size _)) ?_
   refine s_storeA (m := 42) (by kernel_rfl) rfl rfl .here (H.size _) (H.size _) (H.all1 _) ?_
   refine s_nil ?_
   refine c_ret ?_
   refine n_ret ?_
   refine n_doneCF (m := 42) rfl (by decide) rfl (by kernel_rfl) .here (H.size _) (fun w hw => ⟨h, rfl, ?_, hlc, .inl ⟨rfl, rfl, ?_⟩⟩)
   · have es : settles ps n = none := settles_out (by rw [hp.1]; intro hh; have := within_iff.2 (show 0 ≤ n ∧ n ≤ (h.pl : Int) - 1 by omega); rw [h13] at this; cases this)
     simp only [settleC, es]
   · have es : settles ps n = none := settles_out (by rw [hp.1]; intro hh; have := within_iff.2 (show 0 ≤ n ∧ n ≤ (h.pl : Int) - 1 by omega); rw [h13] at this; cases this)
     simp only [settleP, es]
 obtain ⟨hn0, hn1⟩ := within_iff.1 h13
 obtain ⟨p, hpn, hd, ht⟩ := hp.get (k := n.toNat) (by omega)
 obtain ⟨b, o, hpa, hc⟩ := hp.some (k := n.toNat) (by omega)
 refine s_want rfl rfl (congrArg not h13) ?_
 refine s_val (v_field (fo := 40) (by kernel_rfl) rfl) ?_
 refine s_want rfl rfl (congrArg not h13) ?_
 refine s_val (v_load1 (v := .slice _ _ _) (by kernel_rfl) rfl (.there .here) (H.at_pays _)) ?_
 refine s_want rfl rfl (congrArg not h13) ?_
 refine s_val (v_move (v := .int .i64 _) rfl) ?_
 refine s_want rfl rfl (congrArg not h13) ?_
 refine s_val (v_idxS (size := 6) (k := .i64) (by kernel_rfl) (congrArg (fun a => Value.slice a h.pl h.pc) hpa) rfl ⟨by omega, by omega⟩) ?_
 refine s_want rfl rfl (congrArg not h13) ?_
 refine s_val (v_field (fo := 4) (by kernel_rfl) rfl) ?_
 refine s_want rfl rfl (congrArg not h13) ?_
 refine s_val (v_load1o (by kernel_rfl) rfl (hc _ p hpn 4 _ rfl)) ?_
 refine s_want rfl rfl (congrArg not h13) ?_
 refine s_val (v_neq (k := .i64) rfl rfl) ?_
 refine s_val (v_pickF (v := .bool _) rfl (congrArg not h13) rfl) ?_
 refine s_nil ?_
 refine c_condN rfl rfl (fun h21 => ?_) (fun h21 => ?_)
 · refine r_seq (by kernel_rfl) ?_
   refine s_val (v_loadA (m := 42) (by kernel_rfl) rfl (.there .here) (H.size _)) ?_
   refine s_storeA (m := 42) (by kernel_rfl) rfl rfl .here (H.size _) (H.size _) (H.all1 _) ?_
   refine s_nil ?_
   refine c_ret ?_
   refine n_ret ?_
   refine n_doneCF (m := 42) rfl (by decide) rfl (by kernel_rfl) .here (H.size _) (fun w hw => ⟨h, rfl, ?_, hlc, .inl ⟨rfl, rfl, ?_⟩⟩)
   · have es : settles ps n = none := settles_not hpn (of_decide_eq_false h21)
     simp only [settleC, es]
   · have es : settles ps n = none := settles_not hpn (of_decide_eq_false h21)
     simp only [settleP, es]
 refine c_skip ?_
 refine n_then ?_
 refine r_seq (by kernel_rfl) ?_
 refine s_val (v_loadA (m := 42) (by kernel_rfl) rfl (.there .here) (H.size _)) ?_
 refine s_callE (by kernel_rfl) (fun w hw => gr_CopyHouseE h ps w (hp.at hw) hb hlc) (fun v24 E24 hR24 => ?_)
 obtain ⟨pa24, pc24, rfl, hpe24⟩ := hR24
 obtain ⟨b24, t24, cs24, rfl, rfl, hsz24, hcs24⟩ := hpe24.some (by omega)
 have hle24 := hpe24.2.1
 refine s_storeA (m := 42) (by kernel_rfl) rfl rfl (.there (.there .here)) (H.size _) (H.size _) (H.all1 _) ?_
 refine s_nil ?_
 refine r_seq (by kernel_rfl) ?_
 refine s_val (v_field (fo := 40) (by kernel_rfl) rfl) ?_
 refine s_val (v_load1 (v := .slice _ _ _) (by kernel_rfl) rfl (.there (.there .here)) (H.at_pays _)) ?_
 refine s_val (v_move (v := .int .i64 _) rfl) ?_
 refine s_val (v_idxS (size := 6) (k := .i64) (by kernel_rfl) rfl rfl ⟨by omega, by dsimp only; omega⟩) ?_
 refine s_val (v_loadN (cs' := p.cells) (m := 6) (by kernel_rfl) rfl .here rfl (hcs24.extract hpn (by rw [hsz24]; omega))) ?_
 refine s_alloc (z := zeroOf Tryz.prog 51) (by kernel_rfl) (fun b5 => ?_)
 refine s_storeA (m := 6) (by kernel_rfl) rfl rfl .here (by kernel_rfl) rfl (PayS.all1 _) ?_
 refine s_nil ?_
 refine r_seq (by kernel_rfl) ?_
 refine s_val (v_field (fo := 40) (by kernel_rfl) rfl) ?_
 refine s_val (v_load1 (v := .slice _ _ _) (by kernel_rfl) rfl (.there (.there (.there .here))) (H.at_pays _)) ?_
 refine s_val (v_move (v := .int .i64 _) rfl) ?_
 refine s_val (v_idxS (size := 6) (k := .i64) (by kernel_rfl) rfl rfl ⟨by omega, by dsimp only; omega⟩) ?_
 refine s_val (v_field (fo := 4) (by kernel_rfl) rfl) ?_
 refine s_store1 (v := .int .i64 _) (by kernel_rfl) rfl rfl (.there .here) ⟨by rw [hsz24]; omega, rfl⟩ rfl ?_
 refine s_nil ?_
 refine r_seq (by kernel_rfl) ?_
 refine s_val (v_loadA (m := 42) (by kernel_rfl) rfl (.there (.there (.there .here))) (H.size _)) ?_
 refine s_val (v_field (fo := 0) (by kernel_rfl) rfl) ?_
 refine s_val (v_load1 (v := .int .i64 _) (by kernel_rfl) rfl .here rfl) ?_
 refine s_val (v_field (fo := 1) (by kernel_rfl) rfl) ?_
 refine s_val (v_load1 (v := .int .i64 _) (by kernel_rfl) rfl .here rfl) ?_
 refine s_val (v_field (fo := 2) (by kernel_rfl) rfl) ?_
 refine s_val (v_load1 (v := .int .i64 _) (by kernel_rfl) rfl .here rfl) ?_
 refine s_call (by kernel_rfl) (fun w hw => gr_MoveSum _ _ _ _ w) ?_
 refine s_storeA (m := 42) (by kernel_rfl) rfl rfl (.there (.there .here)) (H.size _) (H.size _) (H.all1 _) ?_
 refine s_nil ?_
 refine c_ret ?_
 refine n_doneCF (m := 42) rfl (by decide) rfl (by kernel_rfl) (.there (.there .here)) (H.size _) (fun w hw => ?_)
 have es := settles_of hn0 hpn (of_decide_eq_true h21)
 refine ⟨_, rfl, ?_, ?_, .inr ?_⟩
 · rw [core_move]; simp only [settleC, es]; rfl
 · rw [move_pl, move_pc]; exact hle24
 · rw [move_pl, move_pa]; simp only [settleP, es]; exact own_pays hw (.there .here) (by rw [List.length_set]; exact hp.1) (hcs24.settled hpn)
end Go.Proofs.YtmkboljfbmlebaaGreat
