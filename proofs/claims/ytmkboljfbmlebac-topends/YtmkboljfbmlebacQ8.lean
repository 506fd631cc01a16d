/- What the laws of this place stand on, part 8. Each part names its own conditions in what it states. -/
import Derived.Test.YtmkboljfbmlebacQ7
import Derived.Shelf.SlSortCmp.NoneTotal
import Derived.Ground.SlsfProg
import Derived.Test.YtmkboljfbmlebacProg
namespace Go.Proofs.Ytmkboljfbmlebac
open Go.RowKit
set_option linter.unusedSimpArgs false
set_option linter.unusedVariables false
set_option maxRecDepth 100000
attribute [local irreducible] cC sC nC rC qw
theorem g_goodPays (pa : Option Addr) (pl pc : Nat) (nx : Int) (ps : List PayS) (w : World) (hp : PaysIn (At w) pa pl ps) : Gives Try.prog 36 [.slice pa pl pc, I nx] w (.bool (goodPaysB ps nx)) := by
 refine gives_of Try.func36 rfl Try.ntmps36 (by simp) ?_
 refine r_seq (by kernel_rfl) ?_
 refine s_val (v_assign (v := .bool _) rfl) ?_
 refine s_nil ?_
 refine c_seq ?_
 refine r_seq (by kernel_rfl) ?_
 refine s_val (v_move (v := .slice _ _ _) rfl) ?_
 refine s_val (v_lenS (T := 45) (m := 6) (by kernel_rfl) rfl rfl) ?_
 refine s_val (v_gtr (k := .i64) rfl rfl) ?_
 refine s_nil ?_
 refine c_cond rfl rfl (fun h10 => ?_) (fun h10 => ?_)
 · refine r_seq (by kernel_rfl) ?_
   refine s_val (v_assign (v := .bool _) rfl) ?_
   refine s_nil ?_
   refine c_ret ?_
   refine n_ret ?_
   refine n_done rfl (by decide) (Eq.trans (b := .bool _) rfl (congrArg Value.bool ?_))
   first | exact gp_long hp.1 h10 | exact gp_end hp.1 h10 h15 hinv | exact gp_bad hp.1 h10 hinv hd (by simp only [*, Bool.true_and, Bool.false_and, Bool.and_true, Bool.and_false, Bool.not_true, Bool.not_false, Bool.true_or, Bool.or_true, Bool.false_or, Bool.or_false, cond_true, cond_false, if_true, if_false, Bool.false_eq_true, decide_true, decide_false])
 have h24 := of_decide_eq_false h10
 refine c_skip ?_
 refine n_then ?_
 refine r_seq (by kernel_rfl) ?_
 refine s_makeSet (fun b11 => ?_)
 refine s_val (v_assign (v := .map _) rfl) ?_
 refine s_nil ?_
 refine c_seq ?_
 refine r_seq (by kernel_rfl) ?_
 refine s_val (v_move (v := .slice _ _ _) rfl) ?_
 refine s_val (v_lenS (T := 45) (m := 6) (by kernel_rfl) rfl rfl) ?_
 refine s_val (v_move (v := .int .i64 _) rfl) ?_
 refine s_nil ?_
 refine c_block ?_
 refine c_loop (σ := Nat) (fun (k : Nat) f => ∃ g, (k ≤ pl ∧ goB nx [] ps = goB nx ((ps.take k).map PayS.seq) (ps.drop k)) ∧ f = (upd (upd (upd (upd (upd g 1 (I nx)) 5 (.map (some b11))) 12 (.slice pa pl pc)) 13 (I pl)) 14 (I k))) (fun (k : Nat) => Has w (At w) [(b11, setO ((ps.take k).map PayS.seq))]) (fun (k : Nat) => pl - k) 0 ⟨_, ⟨Nat.zero_le _, rfl⟩, live5 rfl rfl rfl rfl rfl⟩ (fun w hw => hw) ?_
 rintro k _ ⟨g, ⟨hkl, hinv⟩, rfl⟩
 refine r_seq (by kernel_rfl) ?_
 refine s_val (v_lss (k := .i64) rfl rfl) ?_
 refine s_nil ?_
 refine c_seq ?_
 refine c_condR rfl rfl (fun h15 => ?_) (fun h15 => ?_)
 · refine c_exit ?_
   refine n_exit ?_
   refine n_exit ?_
   refine n_bhere ?_
   refine n_then ?_
   refine r_seq (by kernel_rfl) ?_
   refine s_val (v_assign (v := .bool _) rfl) ?_
   refine s_nil ?_
   refine c_ret ?_
   refine n_done rfl (by decide) (Eq.trans (b := .bool _) rfl (congrArg Value.bool ?_))
   first | exact gp_long hp.1 h10 | exact gp_end hp.1 h10 h15 hinv | exact gp_bad hp.1 h10 hinv hd (by simp only [*, Bool.true_and, Bool.false_and, Bool.and_true, Bool.and_false, Bool.not_true, Bool.not_false, Bool.true_or, Bool.or_true, Bool.false_or, Bool.or_false, cond_true, cond_false, if_true, if_false, Bool.false_eq_true, decide_true, decide_false])
 have hk := of_decide_eq_true h15
 obtain ⟨p, hpk, hd, ht⟩ := hp.get (k := k) (by omega)
 obtain ⟨b, o, rfl, hc⟩ := hp.some (k := k) (by omega)
 refine c_skip ?_
 refine n_then ?_
 refine c_seq ?_
 refine c_block ?_
 refine r_seq (by kernel_rfl) ?_
 refine s_val (v_idxS (size := 6) (k := .i64) (by kernel_rfl) rfl rfl (by omega)) ?_
 refine s_val (v_loadNo (cs := p.cells) (m := 6) (by kernel_rfl) rfl rfl (hc k p hpk)) ?_
 refine s_alloc (z := zeroOf Try.prog 65) (by kernel_rfl) (fun b7 => ?_)
 refine s_storeA (m := 6) (by kernel_rfl) rfl rfl .here (by kernel_rfl) rfl (PayS.all1 _) ?_
 refine s_nil ?_
 refine c_seq ?_
 refine r_seq (by kernel_rfl) ?_
 refine s_val (v_loadA (m := 6) (by kernel_rfl) rfl .here rfl) ?_
 refine s_call (by kernel_rfl) (fun w hw => g_GoodPay _ w) ?_
 refine s_val (v_not rfl) ?_
 refine s_val (v_move (v := .bool _) rfl) ?_
 refine s_splitN (s := 21) rfl (fun h21 => ?_) (fun h21 => ?_)
 · refine s_pass rfl rfl (congrArg not h21) ?_
   refine s_pass rfl rfl (congrArg not h21) ?_
   refine s_pass rfl rfl (congrArg not h21) ?_
   refine s_pass rfl rfl (congrArg not h21) ?_
   refine s_val (v_pickT (v := .bool _) rfl (congrArg not h21) rfl) ?_
   refine s_val (v_move (v := .bool _) rfl) ?_
   refine s_pass (g := true) rfl rfl rfl ?_
   refine s_pass (g := true) rfl rfl rfl ?_
   refine s_pass (g := true) rfl rfl rfl ?_
   refine s_pass (g := true) rfl rfl rfl ?_
   refine s_val (v_pickT (v := .bool _) rfl rfl rfl) ?_
   refine s_nil ?_
   refine c_condTh rfl rfl rfl ?_
   refine r_seq (by kernel_rfl) ?_
   refine s_val (v_assign (v := .bool _) rfl) ?_
   refine s_nil ?_
   refine c_ret ?_
   refine n_ret ?_
   refine n_bret ?_
   refine n_ret ?_
   refine n_ret ?_
   refine n_bret ?_
   refine n_ret ?_
   refine n_done rfl (by decide) (Eq.trans (b := .bool _) rfl (congrArg Value.bool ?_))
   first | exact gp_long hp.1 h10 | exact gp_end hp.1 h10 h15 hinv | exact gp_bad hp.1 h10 hinv hd (by simp only [*, Bool.true_and, Bool.false_and, Bool.and_true, Bool.and_false, Bool.not_true, Bool.not_false, Bool.true_or, Bool.or_true, Bool.false_or, Bool.or_false, cond_true, cond_false, if_true, if_false, Bool.false_eq_true, decide_true, decide_false])
 refine s_want rfl rfl (congrArg not h21) ?_
 refine s_val (v_field (fo := 5) (by kernel_rfl) rfl) ?_
 refine s_want rfl rfl (congrArg not h21) ?_
 refine s_val (v_load1 (v := .int .i64 _) (by kernel_rfl) rfl .here rfl) ?_
 refine s_want rfl rfl (congrArg not h21) ?_
 refine s_val (v_move (v := .int .i64 _) rfl) ?_
 refine s_want rfl rfl (congrArg not h21) ?_
 refine s_val (v_geq (k := .i64) rfl rfl) ?_
 refine s_val (v_pickF (v := .bool _) rfl (congrArg not h21) rfl) ?_
 refine s_val (v_move (v := .bool _) rfl) ?_
 refine s_split (s := 27) rfl (fun h27 => ?_) (fun h27 => ?_)
 · refine s_pass rfl rfl h27 ?_
   refine s_pass rfl rfl h27 ?_
   refine s_pass rfl rfl h27 ?_
   refine s_pass rfl rfl h27 ?_
   refine s_val (v_pickT (v := .bool _) rfl h27 rfl) ?_
   refine s_nil ?_
   refine c_condTh rfl rfl rfl ?_
   refine r_seq (by kernel_rfl) ?_
   refine s_val (v_assign (v := .bool _) rfl) ?_
   refine s_nil ?_
   refine c_ret ?_
   refine n_ret ?_
   refine n_bret ?_
   refine n_ret ?_
   refine n_ret ?_
   refine n_bret ?_
   refine n_ret ?_
   refine n_done rfl (by decide) (Eq.trans (b := .bool _) rfl (congrArg Value.bool ?_))
   first | exact gp_long hp.1 h10 | exact gp_end hp.1 h10 h15 hinv | exact gp_bad hp.1 h10 hinv hd (by simp only [*, Bool.true_and, Bool.false_and, Bool.and_true, Bool.and_false, Bool.not_true, Bool.not_false, Bool.true_or, Bool.or_true, Bool.false_or, Bool.or_false, cond_true, cond_false, if_true, if_false, Bool.false_eq_true, decide_true, decide_false])
 refine s_want rfl rfl h27 ?_
 refine s_val (v_move (v := .map _) rfl) ?_
 refine s_want rfl rfl h27 ?_
 refine s_val (v_field (fo := 5) (by kernel_rfl) rfl) ?_
 refine s_want rfl rfl h27 ?_
 refine s_val (v_load1 (v := .int .i64 _) (by kernel_rfl) rfl .here rfl) ?_
 refine s_want rfl rfl h27 ?_
 refine s_val (v_setHas (by kernel_rfl) rfl rfl (.there .here)) ?_
 refine s_val (v_pickF (v := .bool _) rfl h27 rfl) ?_
 refine s_nil ?_
 refine c_cond rfl rfl (fun h32 => ?_) (fun h32 => ?_)
 · refine r_seq (by kernel_rfl) ?_
   refine s_val (v_assign (v := .bool _) rfl) ?_
   refine s_nil ?_
   refine c_ret ?_
   refine n_ret ?_
   refine n_bret ?_
   refine n_ret ?_
   refine n_ret ?_
   refine n_bret ?_
   refine n_ret ?_
   refine n_done rfl (by decide) (Eq.trans (b := .bool _) rfl (congrArg Value.bool ?_))
   first | exact gp_long hp.1 h10 | exact gp_end hp.1 h10 h15 hinv | exact gp_bad hp.1 h10 hinv hd (by simp only [*, Bool.true_and, Bool.false_and, Bool.and_true, Bool.and_false, Bool.not_true, Bool.not_false, Bool.true_or, Bool.or_true, Bool.false_or, Bool.or_false, cond_true, cond_false, if_true, if_false, Bool.false_eq_true, decide_true, decide_false])
 refine c_skip ?_
 refine n_then ?_
 refine r_list (by kernel_rfl) ?_
 refine s_val (v_move (v := .map _) rfl) ?_
 refine s_val (v_field (fo := 5) (by kernel_rfl) rfl) ?_
 refine s_val (v_load1 (v := .int .i64 _) (by kernel_rfl) rfl .here rfl) ?_
 refine s_setAdd (by kernel_rfl) rfl rfl rfl (.there .here) (of_decide_eq_false h32) ?_
 refine s_end ?_
 refine n_bnormal ?_
 refine n_then ?_
 refine r_list (by kernel_rfl) ?_
 refine s_val (v_add rfl rfl (by omega)) ?_
 refine s_val (v_move (v := .int .i64 _) rfl) ?_
 refine s_end ?_
 refine n_round (k + 1) ⟨_, ⟨by omega, gp_step hinv hd ht (by simp only [*, Bool.true_and, Bool.false_and, Bool.and_true, Bool.and_false, Bool.not_true, Bool.not_false, Bool.true_or, Bool.or_true, Bool.false_or, Bool.or_false, cond_true, cond_false, if_true, if_false, Bool.false_eq_true, decide_true, decide_false])⟩, live5 rfl rfl rfl rfl rfl⟩ (fun _ hw => by rw [ht, List.map_append]; exact hw.tail) (by omega)
theorem g_Good (h : H) (ps : List PayS) (w : World) (hp : PaysIn (At w) h.pa h.pl ps) : Gives Try.prog 26 [.agg h.cells] w (.bool (goodB h ps)) := by
 refine gives_of Try.func26 rfl Try.ntmps26 (by simp) ?_
 refine r_seq (by kernel_rfl) ?_
 refine s_box (v := .agg _) rfl (fun b1 => ?_)
 refine s_val (v_assign (v := .bool _) rfl) ?_
 refine s_nil ?_
 refine r_seq (by kernel_rfl) ?_
 refine s_val (v_field (fo := 41) (by kernel_rfl) rfl) ?_
 refine s_val (v_load1 (v := .int .i64 _) (by kernel_rfl) rfl .here (H.at_next _)) ?_
 refine s_call (by kernel_rfl) (fun w hw => g_within _ _ _ w) ?_
 refine s_val (v_move (v := .bool _) rfl) ?_
 refine s_splitR (s := 6) rfl (fun h6 => ?_) (fun h6 => ?_)
 · refine s_pass rfl rfl h6 ?_
   refine s_pass rfl rfl h6 ?_
   refine s_pass rfl rfl h6 ?_
   refine s_pass rfl rfl h6 ?_
   refine s_pass rfl rfl h6 ?_
   refine s_val (v_pickF (v := .bool _) rfl h6 rfl) ?_
   refine s_val (v_move (v := .bool _) rfl) ?_
   refine s_pass (g := false) rfl rfl rfl ?_
   refine s_pass (g := false) rfl rfl rfl ?_
   refine s_pass (g := false) rfl rfl rfl ?_
   refine s_val (v_pickF (v := .bool _) rfl rfl rfl) ?_
   refine s_val (v_move (v := .bool _) rfl) ?_
   refine s_pass (g := false) rfl rfl rfl ?_
   refine s_pass (g := false) rfl rfl rfl ?_
   refine s_pass (g := false) rfl rfl rfl ?_
   refine s_val (v_pickF (v := .bool _) rfl rfl rfl) ?_
   refine s_val (v_move (v := .bool _) rfl) ?_
   refine s_pass (g := false) rfl rfl rfl ?_
   refine s_pass (g := false) rfl rfl rfl ?_
   refine s_pass (g := false) rfl rfl rfl ?_
   refine s_val (v_pickF (v := .bool _) rfl rfl rfl) ?_
   refine s_val (v_assign (v := .bool _) rfl) ?_
   refine s_nil ?_
   refine c_ret ?_
   refine n_done rfl (by decide) (Eq.trans (b := .bool _) rfl (congrArg Value.bool ?_))
   simp only [goodB, *, Bool.true_and, Bool.false_and, Bool.and_true, Bool.and_false, Bool.not_true, Bool.not_false, Bool.true_or, Bool.or_true, Bool.false_or, Bool.or_false, cond_true, cond_false, if_true, if_false, Bool.false_eq_true, decide_true, decide_false]
 refine s_want rfl rfl h6 ?_
 refine s_val (v_field (fo := 40) (by kernel_rfl) rfl) ?_
 refine s_want rfl rfl h6 ?_
 refine s_val (v_load1 (v := .slice _ _ _) (by kernel_rfl) rfl .here (H.at_pays _)) ?_
 refine s_want rfl rfl h6 ?_
 refine s_val (v_field (fo := 41) (by kernel_rfl) rfl) ?_
 refine s_want rfl rfl h6 ?_
 refine s_val (v_load1 (v := .int .i64 _) (by kernel_rfl) rfl .here (H.at_next _)) ?_
 refine s_want rfl rfl h6 ?_
 refine s_call (by kernel_rfl) (fun w hw => g_goodPays _ _ _ _ _ w (hp.at hw)) ?_
 refine s_val (v_pickT (v := .bool _) rfl h6 rfl) ?_
 refine s_val (v_move (v := .bool _) rfl) ?_
 refine s_splitR (s := 13) rfl (fun h13 => ?_) (fun h13 => ?_)
 · refine s_pass rfl rfl h13 ?_
   refine s_pass rfl rfl h13 ?_
   refine s_pass rfl rfl h13 ?_
   refine s_val (v_pickF (v := .bool _) rfl h13 rfl) ?_
   refine s_val (v_move (v := .bool _) rfl) ?_
   refine s_pass (g := false) rfl rfl rfl ?_
   refine s_pass (g := false) rfl rfl rfl ?_
   refine s_pass (g := false) rfl rfl rfl ?_
   refine s_val (v_pickF (v := .bool _) rfl rfl rfl) ?_
   refine s_val (v_move (v := .bool _) rfl) ?_
   refine s_pass (g := false) rfl rfl rfl ?_
   refine s_pass (g := false) rfl rfl rfl ?_
   refine s_pass (g := false) rfl rfl rfl ?_
   refine s_val (v_pickF (v := .bool _) rfl rfl rfl) ?_
   refine s_val (v_assign (v := .bool _) rfl) ?_
   refine s_nil ?_
   refine c_ret ?_
   refine n_done rfl (by decide) (Eq.trans (b := .bool _) rfl (congrArg Value.bool ?_))
   simp only [goodB, *, Bool.true_and, Bool.false_and, Bool.and_true, Bool.and_false, Bool.not_true, Bool.not_false, Bool.true_or, Bool.or_true, Bool.false_or, Bool.or_false, cond_true, cond_false, if_true, if_false, Bool.false_eq_true, decide_true, decide_false]
 refine s_want rfl rfl h13 ?_
 refine s_val (v_field (fo := 0) (by kernel_rfl) rfl) ?_
 refine s_want rfl rfl h13 ?_
 refine s_val (v_loadN (m := 8) (cs' := accA _ _) (by kernel_rfl) rfl .here (accA_size _ _) (H.ex_acc _)) ?_
 refine s_want rfl rfl h13 ?_
 refine s_call (by kernel_rfl) (fun w hw => g_goodAccounts _ _ w) ?_
 refine s_val (v_pickT (v := .bool _) rfl h13 rfl) ?_
 refine s_val (v_move (v := .bool _) rfl) ?_
 refine s_splitR (s := 18) rfl (fun h18 => ?_) (fun h18 => ?_)
 · refine s_pass rfl rfl h18 ?_
   refine s_pass rfl rfl h18 ?_
   refine s_pass rfl rfl h18 ?_
   refine s_val (v_pickF (v := .bool _) rfl h18 rfl) ?_
   refine s_val (v_move (v := .bool _) rfl) ?_
   refine s_pass (g := false) rfl rfl rfl ?_
   refine s_pass (g := false) rfl rfl rfl ?_
   refine s_pass (g := false) rfl rfl rfl ?_
   refine s_val (v_pickF (v := .bool _) rfl rfl rfl) ?_
   refine s_val (v_assign (v := .bool _) rfl) ?_
   refine s_nil ?_
   refine c_ret ?_
   refine n_done rfl (by decide) (Eq.trans (b := .bool _) rfl (congrArg Value.bool ?_))
   simp only [goodB, *, Bool.true_and, Bool.false_and, Bool.and_true, Bool.and_false, Bool.not_true, Bool.not_false, Bool.true_or, Bool.or_true, Bool.false_or, Bool.or_false, cond_true, cond_false, if_true, if_false, Bool.false_eq_true, decide_true, decide_false]
 refine s_want rfl rfl h18 ?_
 refine s_val (v_field (fo := 8) (by kernel_rfl) rfl) ?_
 refine s_want rfl rfl h18 ?_
 refine s_val (v_loadN (m := 16) (cs' := matA _) (by kernel_rfl) rfl .here (matA_size _) (H.ex_sent _)) ?_
 refine s_want rfl rfl h18 ?_
 refine s_call (by kernel_rfl) (fun w hw => g_goodSent _ w) ?_
 refine s_val (v_pickT (v := .bool _) rfl h18 rfl) ?_
 refine s_val (v_move (v := .bool _) rfl) ?_
 refine s_splitR (s := 23) rfl (fun h23 => ?_) (fun h23 => ?_)
 · refine s_pass rfl rfl h23 ?_
   refine s_pass rfl rfl h23 ?_
   refine s_pass rfl rfl h23 ?_
   refine s_val (v_pickF (v := .bool _) rfl h23 rfl) ?_
   refine s_val (v_assign (v := .bool _) rfl) ?_
   refine s_nil ?_
   refine c_ret ?_
   refine n_done rfl (by decide) (Eq.trans (b := .bool _) rfl (congrArg Value.bool ?_))
   simp only [goodB, *, Bool.true_and, Bool.false_and, Bool.and_true, Bool.and_false, Bool.not_true, Bool.not_false, Bool.true_or, Bool.or_true, Bool.false_or, Bool.or_false, cond_true, cond_false, if_true, if_false, Bool.false_eq_true, decide_true, decide_false]
 refine s_want rfl rfl h23 ?_
 refine s_val (v_field (fo := 24) (by kernel_rfl) rfl) ?_
 refine s_want rfl rfl h23 ?_
 refine s_val (v_loadN (m := 16) (cs' := matA _) (by kernel_rfl) rfl .here (matA_size _) (H.ex_lim _)) ?_
 refine s_want rfl rfl h23 ?_
 refine s_call (by kernel_rfl) (fun w hw => g_goodLimits _ w) ?_
 refine s_val (v_pickT (v := .bool _) rfl h23 rfl) ?_
 refine s_val (v_assign (v := .bool _) rfl) ?_
 refine s_nil ?_
 refine c_ret ?_
 refine n_done rfl (by decide) (Eq.trans (b := .bool _) rfl (congrArg Value.bool ?_))
 simp only [goodB, *, Bool.true_and, Bool.false_and, Bool.and_true, Bool.and_false, Bool.not_true, Bool.not_false, Bool.true_or, Bool.or_true, Bool.false_or, Bool.or_false, cond_true, cond_false, if_true, if_false, Bool.false_eq_true, decide_true, decide_false]
end Go.Proofs.Ytmkboljfbmlebac
namespace Go.Proofs.Ytmkboljfbmlebac
open Go.RowKit
set_option linter.unusedSimpArgs false
set_option linter.unusedVariables false
set_option maxRecDepth 100000
attribute [local irreducible] cC sC nC rC qw
theorem g_isNaN (x : Int) (w : World) : Gives Try.prog 91 [I x] w (.bool false) := by
 refine gives_of Try.func91 rfl Try.ntmps91 (by simp) ?_
 refine r_seq (by kernel_rfl) ?_
 refine s_val (v_assign (v := .bool _) rfl) ?_
 refine s_nil ?_
 refine r_seq (by kernel_rfl) ?_
 refine s_val (v_move (v := .int .i64 _) rfl) ?_
 refine s_val (v_move (v := .int .i64 _) rfl) ?_
 refine s_val (v_neq (k := .i64) rfl rfl) ?_
 refine s_val (v_assign (v := .bool _) rfl) ?_
 refine s_nil ?_
 refine c_ret ?_
 refine n_done rfl (by decide) (Eq.trans (b := .bool _) rfl (congrArg Value.bool ?_))
 simp
theorem g_Compare (x y : Int) (w : World) : Gives Try.prog 80 [I x, I y] w (I (cmpI x y)) := by
 refine gives_of Try.func80 rfl Try.ntmps80 (by simp) ?_
 refine r_seq (by kernel_rfl) ?_
 refine s_val (v_assign (v := .int .i64 _) rfl) ?_
 refine s_nil ?_
 refine r_seq (by kernel_rfl) ?_
 refine s_val (v_move (v := .int .i64 _) rfl) ?_
 refine s_call (by kernel_rfl) (fun w hw => g_isNaN _ w) ?_
 refine s_val (v_assign (v := .bool _) rfl) ?_
 refine s_nil ?_
 refine r_seq (by kernel_rfl) ?_
 refine s_val (v_move (v := .int .i64 _) rfl) ?_
 refine s_call (by kernel_rfl) (fun w hw => g_isNaN _ w) ?_
 refine s_val (v_assign (v := .bool _) rfl) ?_
 refine s_nil ?_
 refine c_seq ?_
 refine r_seq (by kernel_rfl) ?_
 refine s_val (v_move (v := .bool _) rfl) ?_
 refine s_nil ?_
 refine c_condFh rfl rfl rfl ?_
 refine c_skip ?_
 refine n_then ?_
 refine c_seq ?_
 refine r_seq (by kernel_rfl) ?_
 refine s_val (v_move (v := .bool _) rfl) ?_
 refine s_nil ?_
 refine c_condFh rfl rfl rfl ?_
 refine c_skip ?_
 refine n_then ?_
 refine c_seq ?_
 refine r_seq (by kernel_rfl) ?_
 refine s_val (v_move (v := .int .i64 _) rfl) ?_
 refine s_val (v_move (v := .int .i64 _) rfl) ?_
 refine s_val (v_lss (k := .i64) rfl rfl) ?_
 refine s_nil ?_
 refine c_cond rfl rfl (fun h16 => ?_) (fun h16 => ?_)
 · refine r_seq (by kernel_rfl) ?_
   refine s_val (v_assign (v := .int .i64 _) rfl) ?_
   refine s_nil ?_
   refine c_ret ?_
   refine n_ret ?_
   refine n_done rfl (by decide) (Eq.trans (b := .int .i64 _) rfl (congrArg (Value.int .i64) ?_))
   simp [cmpI, *]
 refine c_skip ?_
 refine n_then ?_
 refine c_seq ?_
 refine r_seq (by kernel_rfl) ?_
 refine s_val (v_move (v := .int .i64 _) rfl) ?_
 refine s_val (v_move (v := .int .i64 _) rfl) ?_
 refine s_val (v_gtr (k := .i64) rfl rfl) ?_
 refine s_nil ?_
 refine c_cond rfl rfl (fun h19 => ?_) (fun h19 => ?_)
 · refine r_seq (by kernel_rfl) ?_
   refine s_val (v_assign (v := .int .i64 _) rfl) ?_
   refine s_nil ?_
   refine c_ret ?_
   refine n_ret ?_
   refine n_done rfl (by decide) (Eq.trans (b := .int .i64 _) rfl (congrArg (Value.int .i64) ?_))
   simp [cmpI, *]
 refine c_skip ?_
 refine n_then ?_
 refine r_seq (by kernel_rfl) ?_
 refine s_val (v_assign (v := .int .i64 _) rfl) ?_
 refine s_nil ?_
 refine c_ret ?_
 refine n_done rfl (by decide) (Eq.trans (b := .int .i64 _) rfl (congrArg (Value.int .i64) ?_))
 simp [cmpI, *]
theorem g_Or (b o c : Nat) (x y : Int) (w : World) (hx : At w ⟨b, o, none⟩ (I x)) (hy : At w ⟨b, o + 1, none⟩ (I y)) : Gives Try.prog 79 [.slice (some ⟨b, o, none⟩) 2 c] w (I (bif decide (x = 0) then y else x)) := by
 refine gives_of Try.func79 rfl Try.ntmps79 (by simp) ?_
 refine r_seq (by kernel_rfl) ?_
 refine s_val (v_assign (v := .int .i64 _) rfl) ?_
 refine s_nil ?_
 refine r_seq (by kernel_rfl) ?_
 refine s_val (v_assign (v := .int .i64 _) rfl) ?_
 refine s_nil ?_
 refine c_seq ?_
 refine r_seq (by kernel_rfl) ?_
 refine s_val (v_move (v := .slice _ _ _) rfl) ?_
 refine s_val (v_lenS (T := 30) (m := 1) (by kernel_rfl) rfl rfl) ?_
 refine s_val (v_move (v := .int .i64 _) rfl) ?_
 refine s_nil ?_
 refine c_block ?_
 refine c_rounds 3 ?_
 refine r_succ ?_
 refine r_seq (by kernel_rfl) ?_
 refine s_val (v_lss (k := .i64) rfl rfl) ?_
 refine s_nil ?_
 refine c_seq ?_
 refine c_condTh rfl rfl rfl ?_
 refine c_skip ?_
 refine n_then ?_
 refine c_seq ?_
 refine c_block ?_
 refine r_seq (by kernel_rfl) ?_
 refine s_val (v_idxS (size := 1) (k := .i64) (by kernel_rfl) rfl rfl (by decide)) ?_
 refine s_val (v_load1o (v := I x) (by kernel_rfl) rfl (by simpa using hx)) ?_
 refine s_val (v_assign (v := .int .i64 _) rfl) ?_
 refine s_nil ?_
 refine r_seq (by kernel_rfl) ?_
 refine s_val (v_move (v := .int .i64 _) rfl) ?_
 refine s_val (v_move (v := .int .i64 _) rfl) ?_
 refine s_val (v_neq (k := .i64) rfl rfl) ?_
 refine s_nil ?_
 refine c_condN rfl rfl (fun h14 => ?_) (fun h14 => ?_)
 · refine r_seq (by kernel_rfl) ?_
   refine s_val (v_move (v := .int .i64 _) rfl) ?_
   refine s_val (v_assign (v := .int .i64 _) rfl) ?_
   refine s_nil ?_
   refine c_ret ?_
   refine n_bret ?_
   refine n_ret ?_
   refine n_ret ?_
   refine n_bret ?_
   refine n_ret ?_
   refine n_done rfl (by decide) (Eq.trans (b := .int .i64 _) rfl (congrArg (Value.int .i64) ?_))
   simp_all
 refine c_skip ?_
 refine n_bnormal ?_
 refine n_then ?_
 refine r_list (by kernel_rfl) ?_
 refine s_val (v_addL (c := 1) rfl rfl (by decide) (by decide)) ?_
 refine s_val (v_move (v := .int .i64 _) rfl) ?_
 refine s_end ?_
 refine n_thenR ?_
 refine r_succ ?_
 refine r_seq (by kernel_rfl) ?_
 refine s_val (v_lss (k := .i64) rfl rfl) ?_
 refine s_nil ?_
 refine c_seq ?_
 refine c_condTh rfl rfl rfl ?_
 refine c_skip ?_
 refine n_then ?_
 refine c_seq ?_
 refine c_block ?_
 refine r_seq (by kernel_rfl) ?_
 refine s_val (v_idxS (size := 1) (k := .i64) (by kernel_rfl) rfl rfl (by decide)) ?_
 refine s_val (v_load1o (v := I y) (by kernel_rfl) rfl (by simpa using hy)) ?_
 refine s_val (v_assign (v := .int .i64 _) rfl) ?_
 refine s_nil ?_
 refine r_seq (by kernel_rfl) ?_
 refine s_val (v_move (v := .int .i64 _) rfl) ?_
 refine s_val (v_move (v := .int .i64 _) rfl) ?_
 refine s_val (v_neq (k := .i64) rfl rfl) ?_
 refine s_nil ?_
 refine c_condN rfl rfl (fun h14 => ?_) (fun h14 => ?_)
 · refine r_seq (by kernel_rfl) ?_
   refine s_val (v_move (v := .int .i64 _) rfl) ?_
   refine s_val (v_assign (v := .int .i64 _) rfl) ?_
   refine s_nil ?_
   refine c_ret ?_
   refine n_bret ?_
   refine n_ret ?_
   refine n_ret ?_
   refine n_bret ?_
   refine n_ret ?_
   refine n_done rfl (by decide) (Eq.trans (b := .int .i64 _) rfl (congrArg (Value.int .i64) ?_))
   simp_all
 refine c_skip ?_
 refine n_bnormal ?_
 refine n_then ?_
 refine r_list (by kernel_rfl) ?_
 refine s_val (v_addL (c := 2) rfl rfl (by decide) (by decide)) ?_
 refine s_val (v_move (v := .int .i64 _) rfl) ?_
 refine s_end ?_
 refine n_thenR ?_
 refine r_succ ?_
 refine r_seq (by kernel_rfl) ?_
 refine s_val (v_lss (k := .i64) rfl rfl) ?_
 refine s_nil ?_
 refine c_seq ?_
 refine c_condFh rfl rfl rfl ?_
 refine c_exit ?_
 refine n_exit ?_
 refine n_exit ?_
 refine n_bhere ?_
 refine n_then ?_
 refine r_seq (by kernel_rfl) ?_
 refine s_val (v_move (v := .int .i64 _) rfl) ?_
 refine s_val (v_assign (v := .int .i64 _) rfl) ?_
 refine s_nil ?_
 refine c_ret ?_
 refine n_done rfl (by decide) (Eq.trans (b := .int .i64 _) rfl (congrArg (Value.int .i64) ?_))
 simp_all
theorem g_compare (p q : PayS) (w : World) : Gives Try.prog 74 [.agg p.cells, .agg q.cells] w (I (cmpP p q)) := by
 refine gives_of Try.func74 rfl Try.ntmps74 (by simp) ?_
 refine r_seq (by kernel_rfl) ?_
 refine s_box (v := .agg _) rfl (fun b2 => ?_)
 refine s_box (v := .agg _) rfl (fun b3 => ?_)
 refine s_val (v_assign (v := .int .i64 _) rfl) ?_
 refine s_nil ?_
 refine t_seq (k := 10) (by kernel_rfl) (by kernel_rfl) (fun w hw => hw.drew) (by kernel_rfl) ?_
 refine q_val (v_field (fo := 3) (by kernel_rfl) rfl) ?_
 refine q_val (v_load1 (v := .int .i64 _) (by kernel_rfl) rfl (.there .here) rfl) ?_
 refine q_val (v_field (fo := 3) (by kernel_rfl) rfl) ?_
 refine q_val (v_load1 (v := .int .i64 _) (by kernel_rfl) rfl .here rfl) ?_
 refine q_call (by kernel_rfl) (fun w hw => g_Compare _ _ w) ?_
 refine q_val (v_field (fo := 5) (by kernel_rfl) rfl) ?_
 refine q_val (v_load1 (v := .int .i64 _) (by kernel_rfl) rfl (.there .here) rfl) ?_
 refine q_val (v_field (fo := 5) (by kernel_rfl) rfl) ?_
 refine q_val (v_load1 (v := .int .i64 _) (by kernel_rfl) rfl .here rfl) ?_
 refine q_call (by kernel_rfl) (fun w hw => g_Compare _ _ w) ?_
 refine q_tail ?_
 refine s_buildS (e := 3) (vs := [(0, .int .i64 _), (1, .int .i64 _)]) (cs := #[I (cmpI p.cls q.cls), I (cmpI p.seq q.seq)]) rfl (by kernel_rfl) (fun b15 => ?_)
 refine s_call (by kernel_rfl) (fun w hw => g_Or b15 0 _ _ _ w ((cell_has hw .here).trans rfl) ((cell_has hw .here).trans rfl)) ?_
 refine s_val (v_assign (v := .int .i64 _) rfl) ?_
 refine s_nil ?_
 refine c_ret ?_
 refine n_done rfl (by decide) (Eq.trans (b := .int .i64 _) rfl (congrArg (Value.int .i64) ?_))
 rfl
theorem g_Of1 (h : H) (ps : List PayS) (bh : Nat) (i k : Int) (p q : PayS) (w : World) (hp : PaysIn (At w) h.pa h.pl ps) (hcell : At w ⟨bh, 40, none⟩ (.slice h.pa h.pl h.pc)) (hi : 0 ≤ i) (hk : 0 ≤ k) (hpi : ps[i.toNat]? = some p) (hpk : ps[k.toNat]? = some q) : Gives Try.prog 73 [I i, I k, .pointer (some ⟨bh, 0, none⟩)] w (I (cmpP p q)) := by
 have hl := hp.1
 have hi1 := (List.getElem?_eq_some_iff.1 hpi).1
 have hk1 := (List.getElem?_eq_some_iff.1 hpk).1
 obtain ⟨b, o, hpa, hc⟩ := hp.some (k := i.toNat) (by omega)
 refine gives_of Try.func73 rfl Try.ntmps73 (by simp) ?_
 refine r_seq (by kernel_rfl) ?_
 refine s_val (v_assign (v := .int .i64 _) rfl) ?_
 refine s_nil ?_
 refine d_seq (by kernel_rfl) (by kernel_rfl) (fun w hw => hw.drew) (by kernel_rfl) ?_
 refine q_val (v_field (fo := 40) (by kernel_rfl) rfl) ?_
 refine q_val (v_load1o (v := .slice h.pa h.pl h.pc) (by kernel_rfl) rfl (by simpa using hcell)) ?_
 refine q_val (v_move (v := .int .i64 _) rfl) ?_
 refine q_val (v_idxS (size := 6) (k := .i64) (by kernel_rfl) (congrArg (fun a => Value.slice a h.pl h.pc) hpa) rfl ⟨by omega, by omega⟩) ?_
 refine q_val (v_loadNo (cs := p.cells) (m := 6) (by kernel_rfl) rfl rfl (hc _ p hpi)) ?_
 refine q_val (v_field (fo := 40) (by kernel_rfl) rfl) ?_
 refine q_val (v_load1o (v := .slice h.pa h.pl h.pc) (by kernel_rfl) rfl (by simpa using hcell)) ?_
 refine q_val (v_move (v := .int .i64 _) rfl) ?_
 refine q_val (v_idxS (size := 6) (k := .i64) (by kernel_rfl) (congrArg (fun a => Value.slice a h.pl h.pc) hpa) rfl ⟨by omega, by omega⟩) ?_
 refine q_val (v_loadNo (cs := q.cells) (m := 6) (by kernel_rfl) rfl rfl (hc _ q hpk)) ?_
 refine q_call (by kernel_rfl) (fun w hw => g_compare p q w) ?_
 refine q_val (v_assign (v := .int .i64 _) rfl) ?_
 refine q_nil ?_
 refine c_ret ?_
 refine n_done rfl (by decide) (Eq.trans (b := .int .i64 _) rfl (congrArg (Value.int .i64) ?_))
 rfl
end Go.Proofs.Ytmkboljfbmlebac
namespace Go.Proofs
open Go.Shelf
def Try.sortL_ren : Go.Shelf.Ren := ⟨fun | 6 => 72 | 15 => 78 | 14 => 77 | 28 => 89 | 29 => 90 | 20 => 81 | 21 => 82 | 22 => 83 | 23 => 84 | 24 => 85 | 25 => 86 | 26 => 87 | 27 => 88 | 46 => 92 | 47 => 93 | 48 => 94 | 49 => 95 | 50 => 96 | 57 => 97 | n => n, fun | 22 => 30 | 24 => 3 | 25 => 110 | 3 => 3 | 39 => 114 | 0 => 0 | 53 => 124 | 55 => 126 | 4 => 4 | 46 => 118 | 45 => 117 | 50 => 104 | 5 => 5 | 9 => 9 | 66 => 127 | 70 => 131 | 76 => 133 | 77 => 134 | n => n, fun | n => n⟩
theorem Try.sortL : Go.Proofs.SlLaysF.n6 Try.prog Try.sortL_ren := {
 mixed := by kernel_rfl
 f6 := ⟨Try.f72.name, by decide, Try.func72.trans (congrArg some (by kernel_rfl))⟩
 f14 := ⟨Try.f77.name, by decide, Try.func77.trans (congrArg some (by kernel_rfl))⟩
 f15 := Try.func78.trans (congrArg some (by kernel_rfl))
 f20 := ⟨Try.f81.name, by decide, Try.func81.trans (congrArg some (by kernel_rfl))⟩
 f21 := ⟨Try.f82.name, by decide, Try.func82.trans (congrArg some (by kernel_rfl))⟩
 f22 := ⟨Try.f83.name, by decide, Try.func83.trans (congrArg some (by kernel_rfl))⟩
 f23 := ⟨Try.f84.name, by decide, Try.func84.trans (congrArg some (by kernel_rfl))⟩
 f24 := ⟨Try.f85.name, by decide, Try.func85.trans (congrArg some (by kernel_rfl))⟩
 f25 := ⟨Try.f86.name, by decide, Try.func86.trans (congrArg some (by kernel_rfl))⟩
 f26 := ⟨Try.f87.name, by decide, Try.func87.trans (congrArg some (by kernel_rfl))⟩
 f27 := ⟨Try.f88.name, by decide, Try.func88.trans (congrArg some (by kernel_rfl))⟩
 f28 := Try.func89.trans (congrArg some (by kernel_rfl))
 f29 := Try.func90.trans (congrArg some (by kernel_rfl))
 f46 := ⟨Try.f92.name, by decide, Try.func92.trans (congrArg some (by kernel_rfl))⟩
 f47 := Try.func93.trans (congrArg some (by kernel_rfl))
 f48 := Try.func94.trans (congrArg some (by kernel_rfl))
 f49 := ⟨Try.f95.name, by decide, Try.func95.trans (congrArg some (by kernel_rfl))⟩
 f50 := ⟨Try.f96.name, by decide, Try.func96.trans (congrArg some (by kernel_rfl))⟩
 f57 := ⟨Try.f97.name, by decide, Try.func97.trans (congrArg some (by kernel_rfl))⟩
 t0 := Try.underlying0
 a0 := Try.isAgg0
 z0 := Try.sizeOf0
 v0 := Try.zeroValue0
 t3 := Try.underlying3
 a3 := Try.isAgg3
 z3 := Try.sizeOf3
 v3 := Try.zeroValue3
 t4 := Try.underlying4
 a4 := Try.isAgg4
 z4 := Try.sizeOf4
 v4 := Try.zeroValue4
 t5 := Try.underlying5
 a5 := Try.isAgg5
 z5 := Try.sizeOf5
 v5 := Try.zeroValue5
 t9 := Try.underlying9
 a9 := Try.isAgg9
 z9 := Try.sizeOf9
 v9 := Try.zeroValue9
 t22 := Try.underlying30
 a22 := Try.isAgg30
 z22 := Try.sizeOf30
 v22 := Try.zeroValue30
 a24 := Try.isAgg3
 z24 := Try.sizeOf3
 t25 := Try.underlying110
 a25 := Try.isAgg110
 z25 := Try.sizeOf110
 v25 := Try.zeroValue110
 t39 := Try.underlying114
 a39 := Try.isAgg114
 z39 := Try.sizeOf114
 v39 := Try.zeroValue114
 t45 := Try.underlying117
 a45 := Try.isAgg117
 z45 := Try.sizeOf117
 v45 := Try.zeroValue117
 t46 := Try.underlying118
 a46 := Try.isAgg118
 z46 := Try.sizeOf118
 v46 := Try.zeroValue118
 t50 := Try.underlying104
 a50 := Try.isAgg104
 z50 := Try.sizeOf104
 v50 := Try.zeroValue104
 t53 := Try.underlying124
 a53 := Try.isAgg124
 z53 := Try.sizeOf124
 v53 := Try.zeroValue124
 t55 := Try.underlying126
 a55 := Try.isAgg126
 z55 := Try.sizeOf126
 v55 := Try.zeroValue126
 t66 := Try.underlying127
 a66 := Try.isAgg127
 z66 := Try.sizeOf127
 v66 := Try.zeroValue127
 t70 := Try.underlying131
 a70 := Try.isAgg131
 z70 := Try.sizeOf131
 v70 := Try.zeroValue131
 t76 := Try.underlying133
 a76 := Try.isAgg133
 z76 := Try.sizeOf133
 v76 := Try.zeroValue133
 t77 := Try.underlying134
 a77 := Try.isAgg134
 z77 := Try.sizeOf134
 v77 := Try.zeroValue134 }
end Go.Proofs
namespace Go.Proofs.Ytmkboljfbmlebac
open Go.RowKit
set_option linter.unusedSimpArgs false
set_option linter.unusedVariables false
abbrev Pl (ps : List PayS) : Type := { i : Int // 0 ≤ i ∧ i.toNat < ps.length }
def Pl.pay {ps : List PayS} (x : Pl ps) : PayS := ps[x.1.toNat]'x.2.2
def Pl.enc {ps : List PayS} (x : Pl ps) : Value := I x.1
def Pl.cf {ps : List PayS} (x y : Pl ps) : Int := cmpP x.pay y.pay
theorem Pl.lt {ps : List PayS} (x y : Pl ps) : ltOf (Pl.cf (ps := ps)) x y = true ↔ payLt x.pay y.pay := by
 unfold ltOf Pl.cf
 rw [decide_eq_true_iff, cmpP_neg]
theorem Pl.swo (ps : List PayS) : Sort.SWO (ltOf (Pl.cf (ps := ps))) where
 irrefl x := by
   cases h : ltOf (Pl.cf (ps := ps)) x x
   · rfl
   · exact absurd ((Pl.lt x x).1 h) (payLt_irrefl _)
 trans x y z h1 h2 := (Pl.lt x z).2 (payLt_trans ((Pl.lt x y).1 h1) ((Pl.lt y z).1 h2))
 ntrans x y z h1 h2 := by
   cases h : ltOf (Pl.cf (ps := ps)) x z
   · rfl
   · exact absurd ((Pl.lt x z).1 h) (not_payLt_trans (fun e => by rw [(Pl.lt y z).2 e] at h2; cases h2) (fun e => by rw [(Pl.lt x y).2 e] at h1; cases h1))
section
variable {w0 w : World} {F : Addr → Value → Prop} {L : List (Nat × Obj)} {g e : Nat} {cur : Array Value}
theorem has_sort {α : Type} [Inhabited α] (enc : α → Value) (hw : Has w0 F ((g, .cells cur e (0, 0)) :: L) w) (m : Nat) (dk : Array α) (os : Array Obj) : Has w0 F ((g, .cells (Sort.putCells enc 0 dk cur) e (0, 0)) :: L) (sortWorld enc w g 0 m dk os) := by
 have hg : w.heap[g]? = some (.cells cur e (0, 0)) := hw.look .here
 have h1 : Has w0 F ((g, .cells (Sort.putCells enc 0 dk cur) e (0, 0)) :: L) (Sort.putRow enc (Sort.ahead w m) g 0 dk) := by
   refine hw.turn .here rfl rfl rfl (by simp [Sort.putRow, Sort.mapBlock, Sort.ahead]) ?_ (fun k hk => ?_) (Nat.le_add_right _ _)
   · show (w.heap.modify g _)[g]? = _
     rw [Array.getElem?_modify, if_pos rfl, hg]
     rfl
   · show (w.heap.modify g _)[k]? = _
     rw [Array.getElem?_modify, if_neg (Ne.symm hk)]
 exact h1.below (grow_bel _ 0 os)
end
section
variable {ops : Array Oper} {K : (Nat → Value) → World → Prop} {rest : List Oper} {f : Nat → Value} {d : Nat} {ty : TypeId} {pos : String} {af : Array Edge} {w0 : World} {F : Addr → Value → Prop} {E L : List (Nat × Obj)}
theorem s_sort {x y : Operand} {ats : Array TypeId} {cl e : Nat} {cb : List Value} {v : Value} {ws : List Int} {ps : List PayS} (hx : ev f x = v) (hy : ev f y = .func (.func cl) #[] cb.toArray) (eg : ∀ args w, (callFunc cl args).run Try.prog w = .ok (.enter cl args) w)
   (hE : ListE e 1 v ws.length (ws.map I) E) (hin : ∀ i ∈ ws, 0 ≤ i ∧ i.toNat < ps.length) (hlen : ws.length < 4611686018427387904)
   (hcmp : ∀ W, Has w0 F L W → ∀ (i j : Int) (p q : PayS), 0 ≤ i → 0 ≤ j → ps[i.toNat]? = some p → ps[j.toNat]? = some q → Gives Try.prog cl (I i :: I j :: cb) W (I (cmpP p q)))
   (kk : ∀ (E' : List (Nat × Obj)) (ws' : List Int), ListE e 1 v ws'.length (ws'.map I) E' → ws'.Perm ws → ws'.Pairwise (fun i j => ¬ lessK ps j i) → sC Try.prog ops K rest (upd f d (.tuple #[])) (Has w0 F (E' ++ L))) :
   sC Try.prog ops K (⟨some d, .call ⟨.value (.func 72), #[x, y], ats⟩, ty, pos, af, none⟩ :: rest) f (Has w0 F (E ++ L)) := by
 intro w hw
 unfold sw
 rw [if_pos wanted_free]
 unfold opk
 have hrc := run_call (P := Try.prog) (f := f) (k := 72) (xs := [x, y]) (ats := ats) (dst := some d) (ty := ty) (pos := pos) (af := af) (gd := none) (by kernel_rfl) w
 rw [hrc]
 show Calls Try.prog 72 #[ev f x, ev f y] w _
 rw [hx, hy]
 by_cases hws : ws = []
 · subst hws
   obtain ⟨a, c, rfl⟩ := hE.shape
   have hS := AnyF.slices_SortFunc_none (P := Try.prog) (ρ := Try.sortL_ren) { Try.sortL with } a c (.func (.func cl) #[] cb.toArray) w
   change Calls Try.prog 72 _ _ _ at hS
   refine hS.mono fun e' w' ⟨he, hw'⟩ => ⟨_, he, ?_⟩
   subst hw'
   exact kk E [] hE (List.Perm.refl _) List.Pairwise.nil _ hw
 · rcases hE.2 with ⟨_, h0, _⟩ | ⟨g, cap, cur, rfl, rfl, hnc, hcm, hcs, htake⟩
   · exact absurd (List.eq_nil_of_length_eq_zero h0) hws
   · obtain ⟨i0, r0, rfl⟩ : ∃ i r, ws = i :: r := by
       cases ws with
       | nil => exact absurd rfl hws
       | cons i r => exact ⟨i, r, rfl⟩
     generalize hwsd : i0 :: r0 = ws at *
     haveI : Inhabited (Pl ps) := ⟨⟨i0, hin i0 (by rw [← hwsd]; simp)⟩⟩
     have hw1 : Has w0 F ((g, .cells cur e (0, 0)) :: L) w := hw
     have hg : w.heap[g]? = some (.cells cur e (0, 0)) := hw1.look .here
     obtain ⟨D, hD⟩ : ∃ D : List (Pl ps), D.map (·.1) = ws := ⟨ws.attach.map fun i => ⟨i.1, hin i.1 i.2⟩, by simp⟩
     have hDl : D.length = ws.length := by rw [← hD]; simp
     have hcell : ∀ j, j < D.length → cur[j]? = some (I (D[j]!).1) := fun j hj => by
       have h1 : (ws.map I)[j]? = some (I (D[j]!).1) := by
         rw [← hD]
         simp [hj]
       rw [← htake, List.getElem?_take] at h1
       split at h1
       · simpa using h1
       · cases h1
     have hH : Sort.Holds (Pl.enc (ps := ps)) w g 0 D.toArray := fun j hj => by
       have hj' : j < D.length := by simpa using hj
       refine ⟨?_, ?_⟩
       · rw [Nat.zero_add, cell_of_row w g j cur e (0, 0) hg, hcell j hj']
         simp [Pl.enc, hj']
       · simp [World.frozen?, hg]
     have hc1 : CmpLays1 Try.prog cl cb.toArray (Pl.enc (ps := ps)) Pl.cf g 0 D.toArray.size w := fun m os dk hs x' y' => by
       have hW := (has_sort (Pl.enc (ps := ps)) hw1 m dk os).tail
       have h2 := (hcmp _ hW x'.1 y'.1 x'.pay y'.pay x'.2.1 y'.2.1 (List.getElem?_eq_getElem x'.2.2) (List.getElem?_eq_getElem y'.2.2)).out
       have e1 : (I x'.1 :: I y'.1 :: cb).toArray = #[Pl.enc x', Pl.enc y'] ++ cb.toArray := by simp [Pl.enc]
       rw [e1] at h2
       exact h2.mono fun e' w' ⟨he, hb⟩ => ⟨he, hb.grown⟩
     have hS := Any.slices_SortFunc Try.sortL (Pl.enc (ps := ps)) (fun _ => rfl) Pl.cf (Pl.swo ps) cl cb.toArray g 0 cap D.toArray w eg hc1 hH (Array.getElem?_eq_some_iff.1 hg).1 (by simpa [hDl] using hlen)
     change Calls Try.prog 72 _ _ _ at hS
     rw [show D.toArray.size = ws.length by simp [hDl]] at hS
     refine hS.mono fun e' w' ⟨he, d', n', os, hp, hso, hw'⟩ => ⟨_, he, ?_⟩
     subst hw'
     obtain ⟨hp1, _, hp3⟩ := hp
     have hd'l : d'.size = ws.length := by rw [hp1]; simp [hDl]
     have hx1 : d'.extract 0 ws.length = d' := by rw [← hd'l]; simp
     have hx2 : D.toArray.extract 0 ws.length = D.toArray := by rw [← hDl]; simp
     rw [hx1, hx2] at hp3
     have hperm : (d'.toList.map (·.1)).Perm ws := by rw [← hD]; exact (hp3.map _)
     refine kk [(g, .cells (Sort.putCells (Pl.enc (ps := ps)) 0 d' cur) e (0, 0))] (d'.toList.map (·.1)) ?_ hperm ?_ _ (has_sort (Pl.enc (ps := ps)) hw1 n' d' os)
     · refine ⟨by simp, .inr ⟨g, cap, _, by simp [hd'l], rfl, by simpa [hd'l] using hnc, hcm, by simp [Sort.putCells, hcs], ?_⟩⟩
       apply List.ext_getElem?
       intro j
       rw [List.getElem?_take]
       have hle : ws.length ≤ cur.size := by rw [hcs]; omega
       by_cases hj : j < ws.length
       · rw [if_pos (by simpa [hd'l] using hj)]
         have hjc : j < cur.size := by omega
         have hjd : j < d'.size := by omega
         simp [Sort.putCells, hjc, hjd, Pl.enc]
       · rw [if_neg (by simpa [hd'l] using hj)]
         symm
         simp [hd'l]; omega
     · rw [List.pairwise_map, List.pairwise_iff_getElem]
       intro i j hi hj hij hl
       have hi' : i < d'.size := by simpa using hi
       have hj' : j < d'.size := by simpa using hj
       have h3 := hso i j (Nat.zero_le _) hij (by omega)
       rw [getElem!_pos d' j hj', getElem!_pos d' i hi'] at h3
       obtain ⟨p, q, h4, h5, h6⟩ := hl
       have h7 : d'[j].pay = p := by
         have := List.getElem?_eq_getElem d'[j].2.2
         simp only [Array.getElem_toList] at h4
         rw [this] at h4; simpa [Pl.pay] using h4
       have h8 : d'[i].pay = q := by
         have := List.getElem?_eq_getElem d'[i].2.2
         simp only [Array.getElem_toList] at h5
         rw [this] at h5; simpa [Pl.pay] using h5
       rw [(Pl.lt d'[j] d'[i]).2 (by rw [h7, h8]; exact h6)] at h3
       cases h3
end
end Go.Proofs.Ytmkboljfbmlebac
namespace Go.Proofs.Ytmkboljfbmlebac
open Go.RowKit
set_option linter.unusedSimpArgs false
set_option linter.unusedVariables false
set_option maxRecDepth 100000
attribute [local irreducible] cC sC nC rC qw
theorem g_Of (h : H) (ps : List PayS) (bank : Int) (w : World) (hp : PaysIn (At w) h.pa h.pl ps) (hb : h.pl * 48 ≤ 281474976710656) (hlc : h.pl ≤ h.pc) (hsa : SeqsApart ps) (hbk : (0 ≤ bank ∧ bank < 4) ∨ GoodPs ps) : GivesE Try.prog 68 [.agg h.cells, I bank] w (fun v E => ListE 3 1 v (queueM ps bank).length ((queueM ps bank).map I) E) := by
 refine givesE_of Try.func68 rfl Try.ntmps68 (by simp) ?_
 refine r_seq (by kernel_rfl) ?_
 refine s_box (v := .agg _) rfl (fun b2 => ?_)
 refine s_val (v_assign (v := .slice _ _ _) rfl) ?_
 refine s_nil ?_
 refine c_seq ?_
 refine r_seq (by kernel_rfl) ?_
 refine s_val (v_move (v := .int .i64 _) rfl) ?_
 refine s_val (v_lss (k := .i64) rfl rfl) ?_
 refine s_val (v_move (v := .bool _) rfl) ?_
 refine s_split (s := 10) rfl (fun h10 => ?_) (fun h10 => ?_)
 · refine s_pass rfl rfl h10 ?_
   refine s_pass rfl rfl h10 ?_
   refine s_val (v_pickT (v := .bool _) rfl h10 rfl) ?_
   refine s_nil ?_
   refine c_condTh rfl rfl rfl ?_
   refine r_seq (by kernel_rfl) ?_
   refine s_val (v_assign (v := .slice _ _ _) rfl) ?_
   refine s_nil ?_
   refine c_ret ?_
   refine n_ret ?_
   have hnb : ¬ (0 ≤ bank ∧ bank < 4) := by have := of_decide_eq_true h10; omega
   refine n_doneE (E := []) (L := [_]) rfl (by decide) ?_
   show ListE _ _ (.slice none 0 0) _ _ []
   rw [wait_none hnb (hbk.resolve_left hnb)]
   exact listE_nil _ _
 refine s_want rfl rfl h10 ?_
 refine s_val (v_move (v := .int .i64 _) rfl) ?_
 refine s_want rfl rfl h10 ?_
 refine s_val (v_geq (k := .i64) rfl rfl) ?_
 refine s_val (v_pickF (v := .bool _) rfl h10 rfl) ?_
 refine s_nil ?_
 refine c_cond rfl rfl (fun h13 => ?_) (fun h13 => ?_)
 · refine r_seq (by kernel_rfl) ?_
   refine s_val (v_assign (v := .slice _ _ _) rfl) ?_
   refine s_nil ?_
   refine c_ret ?_
   refine n_ret ?_
   have hnb : ¬ (0 ≤ bank ∧ bank < 4) := by have := of_decide_eq_true h13; omega
   refine n_doneE (E := []) (L := [_]) rfl (by decide) ?_
   show ListE _ _ (.slice none 0 0) _ _ []
   rw [wait_none hnb (hbk.resolve_left hnb)]
   exact listE_nil _ _
 refine c_skip ?_
 refine n_then ?_
 refine r_seq (by kernel_rfl) ?_
 refine s_val (v_assign (v := .slice _ _ _) rfl) ?_
 refine s_nil ?_
 refine c_seq ?_
 refine r_seq (by kernel_rfl) ?_
 refine s_val (v_field (fo := 40) (by kernel_rfl) rfl) ?_
 refine s_val (v_load1 (v := .slice _ _ _) (by kernel_rfl) rfl .here (H.at_pays _)) ?_
 refine s_val (v_lenS (T := 45) (m := 6) (by kernel_rfl) rfl rfl) ?_
 refine s_val (v_move (v := .int .i64 _) rfl) ?_
 refine s_nil ?_
 refine c_block ?_
 refine c_loop (σ := Nat × Value × List (Nat × Obj)) (fun ((k, v, E) : Nat × Value × List (Nat × Obj)) f => ∃ g, (k ≤ h.pl ∧ ListE 3 1 v (waitTo ps bank k).length ((waitTo ps bank k).map I) E) ∧ f = (upd (upd (upd (upd (upd (upd g 1 (I bank)) 2 (.pointer (some ⟨b2, 0, none⟩))) 5 (v)) 15 (.slice h.pa h.pl h.pc)) 16 (I h.pl)) 17 (I k))) (fun ((k, v, E) : Nat × Value × List (Nat × Obj)) => Has w (At w) (E ++ [(b2, .cells h.cells 47)])) (fun ((k, v, E) : Nat × Value × List (Nat × Obj)) => h.pl - k) (0, .slice none 0 0, []) ⟨_, ⟨Nat.zero_le _, listE_nil _ _⟩, live6 rfl rfl rfl rfl rfl rfl⟩ (fun w hw => hw) ?_
 rintro ⟨k, v, E⟩ _ ⟨g, ⟨hkl, hE⟩, rfl⟩
 refine r_seq (by kernel_rfl) ?_
 refine s_val (v_lss (k := .i64) rfl rfl) ?_
 refine s_nil ?_
 refine c_seq ?_
 refine c_condR rfl rfl (fun h18 => ?_) (fun h18 => ?_)
 · obtain rfl : k = h.pl := by have := of_decide_eq_false h18; omega
   refine c_exit ?_
   refine n_exit ?_
   refine n_exit ?_
   refine n_bhere ?_
   refine n_then ?_
   refine r_seq (by kernel_rfl) ?_
   refine s_val (v_move (v := _) rfl) ?_
   refine s_val (v_makeFunc (vs := [.pointer (some ⟨b2, 0, none⟩)]) rfl) ?_
   refine s_sort (ps := ps) rfl rfl (enters_of Try.func73 (by kernel_rfl) rfl) hE (fun i hi => by have := ((wait_spec ps bank h.pl).2 i).1 hi; exact this.1.lt) (by have := wait_len ps bank h.pl; omega) (fun W hW i j p q hi hj hpi hpj => g_Of1 h ps b2 i j p q W (hp.at hW) ((cell_has hW .here).trans (H.at_pays h)) hi hj hpi hpj) (fun E38 ws38 hE38 hpm38 hso38 => ?_)
   have hq38 : ws38 = queueM ps bank := sorted_queue hsa (by rw [hp.1]; exact hpm38) hso38
   refine s_nil ?_
   refine r_seq (by kernel_rfl) ?_
   refine s_val (v_move (v := _) rfl) ?_
   refine s_val (v_assign (v := _) rfl) ?_
   refine s_nil ?_
   refine c_ret ?_
   refine n_doneE rfl (by decide) ?_
   show ListE _ _ v _ _ E38
   rw [← hq38]
   exact hE38
 have hk0 := of_decide_eq_true h18
 obtain ⟨p, hpm, hd, ht⟩ := hp.get (k := k) (by omega)
 obtain ⟨b, o, hpa, hc⟩ := hp.some (k := k) (by omega)
 have hst0 := wait_step (bank := bank) hpm
 have hwl := wait_len ps bank k
 refine c_skip ?_
 refine n_then ?_
 refine c_seq ?_
 refine c_block ?_
 refine r_seq (by kernel_rfl) ?_
 refine s_val (v_move (v := .int .i64 _) rfl) ?_
 refine s_val (v_idxS (size := 6) (k := .i64) (by kernel_rfl) (congrArg (fun a => Value.slice a h.pl h.pc) hpa) rfl ⟨by omega, by omega⟩) ?_
 refine s_val (v_loadNo (cs := p.cells) (m := 6) (by kernel_rfl) rfl rfl (hc k p hpm)) ?_
 refine s_alloc (z := zeroOf Try.prog 65) (by kernel_rfl) (fun b7 => ?_)
 refine s_val (v_assign (v := .int .i64 _) rfl) ?_
 refine s_storeA (m := 6) (by kernel_rfl) rfl rfl .here (by kernel_rfl) rfl (PayS.all1 _) ?_
 refine s_nil ?_
 refine r_seq (by kernel_rfl) ?_
 refine s_val (v_field (fo := 0) (by kernel_rfl) rfl) ?_
 refine s_val (v_load1 (v := .int .i64 _) (by kernel_rfl) rfl .here rfl) ?_
 refine s_val (v_move (v := .int .i64 _) rfl) ?_
 refine s_val (v_eql (k := .i64) rfl rfl) ?_
 refine s_val (v_move (v := .bool _) rfl) ?_
 refine s_splitR (s := 26) rfl (fun h26 => ?_) (fun h26 => ?_)
 · have hst : waitTo ps bank (k + 1) = waitTo ps bank k := by rw [hst0]; simp only [*, Bool.true_and, Bool.false_and, Bool.and_true, Bool.and_false, Bool.not_true, Bool.not_false, Bool.true_or, Bool.or_true, Bool.false_or, Bool.or_false, cond_true, cond_false, if_true, if_false, Bool.false_eq_true, decide_true, decide_false]
   refine s_pass rfl rfl h26 ?_
   refine s_pass rfl rfl h26 ?_
   refine s_pass rfl rfl h26 ?_
   refine s_val (v_pickF (v := .bool _) rfl h26 rfl) ?_
   refine s_nil ?_
   refine c_condFh rfl rfl rfl ?_
   refine c_skip ?_
   refine n_bnormal ?_
   refine n_then ?_
   refine r_list (by kernel_rfl) ?_
   refine s_val (v_add rfl rfl (by omega)) ?_
   refine s_val (v_move (v := .int .i64 _) rfl) ?_
   refine s_end ?_
   refine n_round (s := (k, v, E)) (k + 1, v, E) ⟨_, ⟨by omega, by rw [hst]; exact hE⟩, live6 rfl rfl rfl rfl rfl rfl⟩ (fun _ hw => hw.tail) (by dsimp only; omega)
 refine s_want rfl rfl h26 ?_
 refine s_val (v_field (fo := 4) (by kernel_rfl) rfl) ?_
 refine s_want rfl rfl h26 ?_
 refine s_val (v_load1 (v := .int .i64 _) (by kernel_rfl) rfl .here rfl) ?_
 refine s_want rfl rfl h26 ?_
 refine s_val (v_eql (k := .i64) rfl rfl) ?_
 refine s_val (v_pickT (v := .bool _) rfl h26 rfl) ?_
 refine s_nil ?_
 refine c_condR rfl rfl (fun h30 => ?_) (fun h30 => ?_)
 · have hst : waitTo ps bank (k + 1) = waitTo ps bank k := by rw [hst0]; simp only [*, Bool.true_and, Bool.false_and, Bool.and_true, Bool.and_false, Bool.not_true, Bool.not_false, Bool.true_or, Bool.or_true, Bool.false_or, Bool.or_false, cond_true, cond_false, if_true, if_false, Bool.false_eq_true, decide_true, decide_false]
   refine c_skip ?_
   refine n_bnormal ?_
   refine n_then ?_
   refine r_list (by kernel_rfl) ?_
   refine s_val (v_add rfl rfl (by omega)) ?_
   refine s_val (v_move (v := .int .i64 _) rfl) ?_
   refine s_end ?_
   refine n_round (s := (k, v, E)) (k + 1, v, E) ⟨_, ⟨by omega, by rw [hst]; exact hE⟩, live6 rfl rfl rfl rfl rfl rfl⟩ (fun _ hw => hw.tail) (by dsimp only; omega)
 refine c_weak (fun _ hw => hw.tail) ?_
 have hst : waitTo ps bank (k + 1) = waitTo ps bank k ++ [(k : Int)] := by rw [hst0]; simp only [*, Bool.true_and, Bool.false_and, Bool.and_true, Bool.and_false, Bool.not_true, Bool.not_false, Bool.true_or, Bool.or_true, Bool.false_or, Bool.or_false, cond_true, cond_false, if_true, if_false, Bool.false_eq_true, decide_true, decide_false]
 refine r_list (by kernel_rfl) ?_
 refine s_val (v_move (v := _) rfl) ?_
 refine s_val (v_move (v := .int .i64 _) rfl) ?_
 refine s_build1 (v := .int .i64 _) (e := 3) (m := 1) (by_ := 8) (by kernel_rfl) rfl rfl rfl (fill_scalar rfl) (fun b33 => ?_)
 refine s_push (e := 3) (m := 1) (by_ := 8) (by kernel_rfl) rfl rfl rfl rfl rfl hE rfl (all_scalar rfl rfl) (by omega) (fun v34 E34 hE34 => ?_)
 refine s_val (v_assign (v := _) rfl) ?_
 refine s_end ?_
 refine n_bnormal ?_
 refine n_then ?_
 refine r_list (by kernel_rfl) ?_
 refine s_val (v_add rfl rfl (by omega)) ?_
 refine s_val (v_move (v := .int .i64 _) rfl) ?_
 refine s_end ?_
 refine n_round (s := (k, v, E)) (k + 1, v34, E34) ⟨_, ⟨by omega, by rw [hst, List.map_append, List.length_append]; exact hE34⟩, live6 rfl rfl rfl rfl rfl rfl⟩ (fun _ hw => hw) (by dsimp only; omega)
theorem g_Clone (pa : Option Addr) (pl pc : Nat) (ps : List PayS) (w : World) (hp : PaysIn (At w) pa pl ps) (hb : pl * 48 ≤ 281474976710656) (h0 : 0 < pl) : GivesE Try.prog 32 [.slice pa pl pc] w (fun v E => ∃ a c, v = .slice a pl c ∧ PaysE a pl c ps E) := by
 have hnn : pa.isNone = false := by obtain ⟨b, o, e, _⟩ := hp.some (k := 0) h0; rw [e]; rfl
 refine givesE_of Try.func32 rfl Try.ntmps32 (by simp) ?_
 refine r_seq (by kernel_rfl) ?_
 refine s_val (v_assign (v := .slice _ _ _) rfl) ?_
 refine s_nil ?_
 refine c_seq ?_
 refine r_seq (by kernel_rfl) ?_
 refine s_val (v_move (v := .slice _ _ _) rfl) ?_
 refine s_val (v_eqNil (m := 6) (by kernel_rfl) rfl rfl) ?_
 refine s_nil ?_
 refine c_condFh rfl rfl hnn ?_
 refine c_skip ?_
 refine n_then ?_
 refine r_seq (by kernel_rfl) ?_
 refine s_build0 (e := 65) (m := 6) (by_ := 48) (by kernel_rfl) (fun b5 => ?_)
 refine s_val (v_move (v := .slice _ _ _) rfl) ?_
 refine s_appendCopy0 (by kernel_rfl) rfl rfl rfl hp hb h0 (fun b7 c7 cs7 hc7 hs7 hcs7 => ?_)
 refine s_val (v_assign (v := .slice _ _ _) rfl) ?_
 refine s_nil ?_
 refine c_ret ?_
 refine n_doneE (E := [_]) (L := [_]) rfl (by decide) ?_
 exact ⟨_, c7, rfl, hp.1, hc7, .inr ⟨b7, _, cs7, rfl, rfl, hs7, hcs7⟩⟩
theorem g_Settle (h : H) (ps : List PayS) (n : Int) (w : World) (hp : PaysIn (At w) h.pa h.pl ps) (hb : h.pl * 48 ≤ 281474976710656) (hlc : h.pl ≤ h.pc) : GivesF Try.prog 66 [.agg h.cells, I n] w (HouseF h ps (settleC h.core ps n) (settleP ps n)) := by
 refine givesF_of Try.func66 rfl Try.ntmps66 (by simp) ?_
 refine r_seq (by kernel_rfl) ?_
 refine s_box (v := .agg _) rfl (fun b2 => ?_)
 refine s_alloc (z := .agg zeroH.cells) (by kernel_rfl) (fun b4 => ?_)
 refine s_nil ?_
 refine c_seq ?_
 refine r_seq (by kernel_rfl) ?_
 refine s_val (v_move (v := .int .i64 _) rfl) ?_
 refine s_val (v_lss (k := .i64) rfl rfl) ?_
 refine s_val (v_move (v := .bool _) rfl) ?_
 refine s_split (s := 8) rfl (fun h8 => ?_) (fun h8 => ?_)
 · refine s_pass rfl rfl h8 ?_
   refine s_pass rfl rfl h8 ?_
   refine s_pass rfl rfl h8 ?_
   refine s_pass rfl rfl h8 ?_
   refine s_pass rfl rfl h8 ?_
   refine s_val (v_pickT (v := .bool _) rfl h8 rfl) ?_
   refine s_val (v_move (v := .bool _) rfl) ?_
   refine s_pass (g := true) rfl rfl rfl ?_
   refine s_pass (g := true) rfl rfl rfl ?_
   refine s_pass (g := true) rfl rfl rfl ?_
   refine s_pass (g := true) rfl rfl rfl ?_
   refine s_pass (g := true) rfl rfl rfl ?_
   refine s_pass (g := true) rfl rfl rfl ?_
   refine s_pass (g := true) rfl rfl rfl ?_
   refine s_val (v_pickT (v := .bool _) rfl rfl rfl) ?_
   refine s_nil ?_
   refine c_condTh rfl rfl rfl ?_
   refine r_seq (by kernel_rfl) ?_
   refine s_val (v_loadA (m := 42) (by kernel_rfl) rfl (.there .here) (H.size _)) ?_
   refine s_storeA (m := 42) (by kernel_rfl) rfl rfl .here (H.size _) (H.size _) (H.all1 _) ?_
   refine s_nil ?_
   refine c_ret ?_
   refine n_ret ?_
   refine n_doneCF (m := 42) rfl (by decide) rfl (by kernel_rfl) .here (H.size _) (fun w hw => ⟨h, rfl, ?_, hlc, .inl ⟨rfl, rfl, ?_⟩⟩)
   · have es : settles ps n = none := settles_out (by have := of_decide_eq_true h8; omega)
     simp only [settleC, es]
   · have es : settles ps n = none := settles_out (by have := of_decide_eq_true h8; omega)
     simp only [settleP, es]
 refine s_want rfl rfl h8 ?_
 refine s_val (v_move (v := .int .i64 _) rfl) ?_
 refine s_want rfl rfl h8 ?_
 refine s_val (v_field (fo := 40) (by kernel_rfl) rfl) ?_
 refine s_want rfl rfl h8 ?_
 refine s_val (v_load1 (v := .slice _ _ _) (by kernel_rfl) rfl (.there .here) (H.at_pays _)) ?_
 refine s_want rfl rfl h8 ?_
 refine s_val (v_lenS (T := 45) (m := 6) (by kernel_rfl) rfl rfl) ?_
 refine s_want rfl rfl h8 ?_
 refine s_val (v_geq (k := .i64) rfl rfl) ?_
 refine s_val (v_pickF (v := .bool _) rfl h8 rfl) ?_
 refine s_val (v_move (v := .bool _) rfl) ?_
 refine s_split (s := 15) rfl (fun h15 => ?_) (fun h15 => ?_)
 · refine s_pass rfl rfl h15 ?_
   refine s_pass rfl rfl h15 ?_
   refine s_pass rfl rfl h15 ?_
   refine s_pass rfl rfl h15 ?_
   refine s_pass rfl rfl h15 ?_
   refine s_pass rfl rfl h15 ?_
   refine s_pass rfl rfl h15 ?_
   refine s_val (v_pickT (v := .bool _) rfl h15 rfl) ?_
   refine s_nil ?_
   refine c_condTh rfl rfl rfl ?_
   refine r_seq (by kernel_rfl) ?_
   refine s_val (v_loadA (m := 42) (by kernel_rfl) rfl (.there .here) (H.size _)) ?_
   refine s_storeA (m := 42) (by kernel_rfl) rfl rfl .here (H.size _) (H.size _) (H.all1 _) ?_
   refine s_nil ?_
   refine c_ret ?_
   refine n_ret ?_
   refine n_doneCF (m := 42) rfl (by decide) rfl (by kernel_rfl) .here (H.size _) (fun w hw => ⟨h, rfl, ?_, hlc, .inl ⟨rfl, rfl, ?_⟩⟩)
   · have es : settles ps n = none := settles_out (by have := of_decide_eq_true h15; have := hp.1; omega)
     simp only [settleC, es]
   · have es : settles ps n = none := settles_out (by have := of_decide_eq_true h15; have := hp.1; omega)
     simp only [settleP, es]
 have hn0 := of_decide_eq_false h8
 have hn1 := of_decide_eq_false h15
 replace hn0 : 0 ≤ n := by omega
 obtain ⟨p, hpn, hd, ht⟩ := hp.get (k := n.toNat) (by omega)
 obtain ⟨b, o, hpa, hc⟩ := hp.some (k := n.toNat) (by omega)
 refine s_want rfl rfl h15 ?_
 refine s_val (v_field (fo := 40) (by kernel_rfl) rfl) ?_
 refine s_want rfl rfl h15 ?_
 refine s_val (v_load1 (v := .slice _ _ _) (by kernel_rfl) rfl (.there .here) (H.at_pays _)) ?_
 refine s_want rfl rfl h15 ?_
 refine s_val (v_move (v := .int .i64 _) rfl) ?_
 refine s_want rfl rfl h15 ?_
 refine s_val (v_idxS (size := 6) (k := .i64) (by kernel_rfl) (congrArg (fun a => Value.slice a h.pl h.pc) hpa) rfl ⟨by omega, by omega⟩) ?_
 refine s_want rfl rfl h15 ?_
 refine s_val (v_field (fo := 4) (by kernel_rfl) rfl) ?_
 refine s_want rfl rfl h15 ?_
 refine s_val (v_load1o (by kernel_rfl) rfl (hc _ p hpn 4 _ rfl)) ?_
 refine s_want rfl rfl h15 ?_
 refine s_val (v_neq (k := .i64) rfl rfl) ?_
 refine s_val (v_pickF (v := .bool _) rfl h15 rfl) ?_
 refine s_nil ?_
 refine c_condN rfl rfl (fun h23 => ?_) (fun h23 => ?_)
 · refine r_seq (by kernel_rfl) ?_
   refine s_val (v_loadA (m := 42) (by kernel_rfl) rfl (.there .here) (H.size _)) ?_
   refine s_storeA (m := 42) (by kernel_rfl) rfl rfl .here (H.size _) (H.size _) (H.all1 _) ?_
   refine s_nil ?_
   refine c_ret ?_
   refine n_ret ?_
   refine n_doneCF (m := 42) rfl (by decide) rfl (by kernel_rfl) .here (H.size _) (fun w hw => ⟨h, rfl, ?_, hlc, .inl ⟨rfl, rfl, ?_⟩⟩)
   · have es : settles ps n = none := settles_not hpn (of_decide_eq_false h23)
     simp only [settleC, es]
   · have es : settles ps n = none := settles_not hpn (of_decide_eq_false h23)
     simp only [settleP, es]
 refine c_skip ?_
 refine n_then ?_
 refine r_seq (by kernel_rfl) ?_
 refine s_val (v_field (fo := 40) (by kernel_rfl) rfl) ?_
 refine s_val (v_load1 (v := .slice _ _ _) (by kernel_rfl) rfl (.there .here) (H.at_pays _)) ?_
 refine s_val (v_move (v := .int .i64 _) rfl) ?_
 refine s_val (v_idxS (size := 6) (k := .i64) (by kernel_rfl) (congrArg (fun a => Value.slice a h.pl h.pc) hpa) rfl ⟨by omega, by omega⟩) ?_
 refine s_val (v_loadNo (cs := p.cells) (m := 6) (by kernel_rfl) rfl rfl (hc _ p hpn)) ?_
 refine s_alloc (z := zeroOf Try.prog 65) (by kernel_rfl) (fun b5 => ?_)
 refine s_storeA (m := 6) (by kernel_rfl) rfl rfl .here (by kernel_rfl) rfl (PayS.all1 _) ?_
 refine s_nil ?_
 refine r_seq (by kernel_rfl) ?_
 refine s_val (v_loadA (m := 42) (by kernel_rfl) rfl (.there (.there .here)) (H.size _)) ?_
 refine s_val (v_field (fo := 0) (by kernel_rfl) rfl) ?_
 refine s_val (v_load1 (v := .int .i64 _) (by kernel_rfl) rfl .here rfl) ?_
 refine s_val (v_field (fo := 1) (by kernel_rfl) rfl) ?_
 refine s_val (v_load1 (v := .int .i64 _) (by kernel_rfl) rfl .here rfl) ?_
 refine s_val (v_field (fo := 2) (by kernel_rfl) rfl) ?_
 refine s_val (v_load1 (v := .int .i64 _) (by kernel_rfl) rfl .here rfl) ?_
 refine s_call (by kernel_rfl) (fun w hw => g_Move _ _ _ _ w) ?_
 refine s_storeA (m := 42) (by kernel_rfl) rfl rfl (.there (.there .here)) (H.size _) (H.size _) (H.all1 _) ?_
 refine s_nil ?_
 refine r_seq (by kernel_rfl) ?_
 refine s_val (v_field (fo := 40) (by kernel_rfl) rfl) ?_
 refine s_val (v_load1 (v := .slice _ _ _) (by kernel_rfl) rfl (.there (.there .here)) (H.at_pays _)) ?_
 refine s_callE (by kernel_rfl) (fun w hw => g_Clone _ _ _ ps w (by rw [move_pa, move_pl]; exact hp.at hw) (by rw [move_pl]; exact hb) (by rw [move_pl]; omega)) (fun v40 E40 hR40 => ?_)
 obtain ⟨a40, c40, rfl, hpe40⟩ := hR40
 obtain ⟨b40, t40, cs40, rfl, rfl, hsz40, hcs40⟩ := hpe40.some (by rw [move_pl]; omega)
 have hle40 := hpe40.2.1
 refine s_val (v_field (fo := 40) (by kernel_rfl) rfl) ?_
 refine s_store1 (v := .slice _ _ _) (by kernel_rfl) rfl rfl (.there (.there (.there .here))) (H.set_pays _) rfl ?_
 refine s_nil ?_
 refine r_seq (by kernel_rfl) ?_
 refine s_val (v_field (fo := 40) (by kernel_rfl) rfl) ?_
 refine s_val (v_load1 (v := .slice _ _ _) (by kernel_rfl) rfl (.there (.there (.there .here))) (H.at_pays _)) ?_
 refine s_val (v_move (v := .int .i64 _) rfl) ?_
 refine s_val (v_idxS (size := 6) (k := .i64) (by kernel_rfl) rfl rfl ⟨by omega, by rw [move_pl]; omega⟩) ?_
 refine s_val (v_field (fo := 4) (by kernel_rfl) rfl) ?_
 refine s_store1 (v := .int .i64 _) (by kernel_rfl) rfl rfl .here ⟨by rw [hsz40]; rw [move_pl] at hle40; omega, rfl⟩ rfl ?_
 refine s_nil ?_
 refine r_seq (by kernel_rfl) ?_
 refine s_val (v_loadA (m := 42) (by kernel_rfl) rfl (.there (.there (.there .here))) (H.size _)) ?_
 refine s_storeA (m := 42) (by kernel_rfl) rfl rfl (.there (.there .here)) (H.size _) (H.size _) (H.all1 _) ?_
 refine s_nil ?_
 refine c_ret ?_
 refine n_doneCF (m := 42) rfl (by decide) rfl (by kernel_rfl) (.there (.there .here)) (H.size _) (fun w hw => ?_)
 have es := settles_of hn0 hpn (of_decide_eq_true h23)
 refine ⟨_, rfl, ?_, hle40, .inr ?_⟩
 · simp only [settleC, es]; exact core_move _ _ _ _
 · simp only [settleP, es]
   exact own_pays hw .here (by rw [List.length_set, hp.1, move_pl]) (hcs40.settled hpn)
end Go.Proofs.Ytmkboljfbmlebac
namespace Go.Proofs.Ytmkboljfbmlebac
open Go.RowKit
set_option linter.unusedSimpArgs false
set_option linter.unusedVariables false
def GivesV (P : Program) (k : FuncId) (args : List Value) (F : Addr → Value → Prop) (B : List (Nat × Obj)) (R : (Addr → Value → Prop) → Value → List (Nat × Obj) → Prop) : Prop :=
 ∀ (w0 : World) (K : List (Nat × Obj)) (w : World), Has w0 F (B ++ K) w → Calls P k args.toArray w fun e w' => ∃ v B' F', e = .returned v ∧ More F F' ∧ Has w0 F' (B' ++ K) w' ∧ R (Young w0 F') v B'
def retV (w0 : World) (F : Addr → Value → Prop) (K : List (Nat × Obj)) (R : (Addr → Value → Prop) → Value → List (Nat × Obj) → Prop) : Value → World → Prop :=
 fun v w' => ∃ B' F', More F F' ∧ Has w0 F' (B' ++ K) w' ∧ R (Young w0 F') v B'
theorem givesV_of {P : Program} {k : FuncId} {fn : Func} {c : Code} {m : Nat} {args : List Value} {B : List (Nat × Obj)} {F : Addr → Value → Prop} {R : (Addr → Value → Prop) → Value → List (Nat × Obj) → Prop}
   (hf : P.funcs[k]? = some fn) (hb : fn.body = some c) (hn : fn.ntmps = m) (hl : args.length ≤ m)
   (h : ∀ w0 K, cC P m c (retQ P fn m (retV w0 F K R)) (argF args) (Has w0 F (B ++ K))) : GivesV P k args F B R := fun w0 K w hw => by
 refine calls_of_wp hf hb ?_
 rw [hn, Fa_args m args hl]
 refine wp_mono (h w0 K w hw) ?_
 rintro e a w' ⟨f, rfl, hr⟩
 cases e <;> simp only [retQ] at hr
 · obtain ⟨v, h1, B', F', h2, h3, h4⟩ := hr; exact ⟨rfl, v, h1, v, B', F', rfl, h2, h3, h4⟩
 · obtain ⟨v, h1, B', F', h2, h3, h4⟩ := hr; exact ⟨rfl, v, h1, v, B', F', rfl, h2, h3, h4⟩
section
variable {P : Program} {ops : Array Oper} {K : (Nat → Value) → World → Prop} {rest : List Oper} {f : Nat → Value} {d : Nat} {ty : TypeId} {pos : String} {af : Array Edge} {w0 : World} {F : Addr → Value → Prop} {B L : List (Nat × Obj)}
theorem s_callV {k : FuncId} {xs : List Operand} {ats : Array TypeId} {R : (Addr → Value → Prop) → Value → List (Nat × Obj) → Prop} (hk : hasBody P k = true) (hg : GivesV P k (xs.map (ev f)) F B R)
   (kk : ∀ (F' : Addr → Value → Prop) (v : Value) (B' : List (Nat × Obj)), More F F' → R (Young w0 F') v B' → sC P ops K rest (upd f d v) (Has w0 F' (B' ++ L))) :
   sC P ops K (⟨some d, .call ⟨.value (.func k), xs.toArray, ats⟩, ty, pos, af, none⟩ :: rest) f (Has w0 F (B ++ L)) := by
 intro w hw
 unfold sw
 rw [if_pos wanted_free]
 unfold opk
 rw [run_call hk w]
 exact (hg w0 L w hw).mono fun e w' ⟨v, B', F', he, hm, h', hr⟩ => ⟨_, he, kk F' v B' hm hr w' h'⟩
theorem s_callVC {k : FuncId} {x : Operand} {xs : List Operand} {caps : List Value} {ats : Array TypeId} {R : (Addr → Value → Prop) → Value → List (Nat × Obj) → Prop} (hx : ev f x = .func (.func k) #[] caps.toArray) (hk : hasBody P k = true) (hg : GivesV P k (xs.map (ev f) ++ caps) F B R)
   (kk : ∀ (F' : Addr → Value → Prop) (v : Value) (B' : List (Nat × Obj)), More F F' → R (Young w0 F') v B' → sC P ops K rest (upd f d v) (Has w0 F' (B' ++ L))) :
   sC P ops K (⟨some d, .call ⟨.value x, xs.toArray, ats⟩, ty, pos, af, none⟩ :: rest) f (Has w0 F (B ++ L)) := by
 intro w hw
 unfold sw
 rw [if_pos wanted_free]
 unfold opk
 rw [run_callC hx hk w]
 exact (hg w0 L w hw).mono fun e w' ⟨v, B', F', he, hm, h', hr⟩ => ⟨_, he, kk F' v B' hm hr w' h'⟩
end
theorem GivesV.toF {P : Program} {k : FuncId} {args : List Value} {w : World} {R : (Addr → Value → Prop) → Value → List (Nat × Obj) → Prop} {R' : (Addr → Value → Prop) → Value → Prop} (h : GivesV P k args (At w) [] R) (hm : MonoX R) (hr : ∀ F v E, Knows F E → R F v E → R' F v) : GivesF P k args w R' :=
 ⟨(h w [] w (Has.start w)).mono fun e w' ⟨v, B', F', he, hmo, hw, hR⟩ => ⟨v, he, hw.1, hr _ v B' (knows_fresh (Has.new (L := []) hw)) (hm _ _ v B' (young_fresh hw) hR)⟩⟩
theorem knowsY {w0 w : World} {F : Addr → Value → Prop} {E L : List (Nat × Obj)} (hw : Has w0 F (E ++ L) w) : Knows (Young w0 (Out L w)) E := fun b cs t fr hm j v hv =>
 ⟨hw.forget.2.2 b cs t fr hm j v hv, (hw.2.2.1 _ (List.mem_append_left _ hm)).1⟩
section
variable {P : Program} {fn : Func} {n t T b m ty t' T' b' m' ty' : Nat} {fr fr' : Nat × Nat} {cs cs' : Array Value} {f : Nat → Value} {w0 : World} {F0 F : Addr → Value → Prop} {L K : List (Nat × Obj)}
theorem n_doneV2 {R : (Addr → Value → Prop) → Value → List (Nat × Obj) → Prop} (hr : fn.results = #[.cell t T, .cell t' T']) (ht : t < n) (ht' : t' < n) (hp : f t = .pointer (some ⟨b, 0, none⟩)) (hp' : f t' = .pointer (some ⟨b', 0, none⟩))
   (hT : aggB P T m = true) (hT' : aggB P T' m' = true) (hl : Look L b (.cells cs ty fr)) (hl' : Look L b' (.cells cs' ty' fr')) (hm : cs.size = m) (hm' : cs'.size = m') (hv : ∀ w, Has w0 F L w → retV w0 F0 K R (.tuple #[.agg cs, .agg cs']) w) : nC (retQ P fn n (retV w0 F0 K R)) .ret f (Has w0 F L) :=
 fun w hw => ⟨_, results_two hr ht ht' hp hp' hT hT' hl hl' hm hm' hw, hv w hw⟩
end
def NextV (e : Nat) (q : NR) (F : Addr → Value → Prop) (v : Value) (B : List (Nat × Obj)) : Prop :=
 ∃ (h : H) (vd : Value), v = .tuple #[.agg h.cells, .agg (repC q.code q.n vd)] ∧ h.core = q.c ∧ h.pl ≤ h.pc ∧ PaysIn F h.pa h.pl q.ps ∧ ListE e 1 vd q.done.length (q.done.map I) B
theorem nextV_mono (e : Nat) (q : NR) : MonoX (NextV e q) := by
 rintro F F' v E hm ⟨h, vd, h1, h2, h3, h4, h5⟩
 exact ⟨h, vd, h1, h2, h3, h4.mono hm, h5⟩
theorem nextV_F {e : Nat} {q : NR} {h0 : H} {ps0 : List PayS} (F : Addr → Value → Prop) (v : Value) (E : List (Nat × Obj)) (hk : Knows F E) (h : NextV e q F v E) : NextF h0 ps0 q F v := by
 obtain ⟨h, vd, h1, h2, h3, h4, h5⟩ := h
 obtain ⟨a, c, h6, h7⟩ := (ints_of_list h5 hk).at
 exact ⟨_, _, h1, ⟨h, rfl, h2, h3, .inr h4⟩, a, c, by rw [h6], h7⟩
theorem retV_own {w0 w : World} {F0 F : Addr → Value → Prop} {K Ep Ed : List (Nat × Obj)} {h : H} {ps : List PayS} {c n : Int} {d : List Int} {vd : Value} {e : Nat} {q : NR} (hw : Has w0 F (Ep ++ (Ed ++ K)) w) (hmo : More F0 F) (hlc : h.pl ≤ h.pc) (hk : ∀ F', Knows F' Ep → PaysIn F' h.pa h.pl ps) (hd : ListE e 1 vd d.length (d.map I) Ed) (hq : q = ⟨h.core, ps, c, n, d⟩) :
   retV w0 F0 K (NextV e q) (.tuple #[.agg h.cells, .agg (repC c n vd)]) w := by
 subst hq
 obtain ⟨h1, h2, h3⟩ := hw.forget
 exact ⟨Ed, Out (Ed ++ K) w, fun a v ha => h2 a v (hmo a v ha), h1, h, vd, rfl, rfl, hlc, hk _ (knowsY hw), hd⟩
theorem retV_known {w0 w : World} {F0 F : Addr → Value → Prop} {K Ed : List (Nat × Obj)} {h : H} {ps : List PayS} {c n : Int} {d : List Int} {vd : Value} {e : Nat} {q : NR} (hw : Has w0 F (Ed ++ K) w) (hmo : More F0 F) (hp : PaysIn (Young w0 F) h.pa h.pl ps) (hlc : h.pl ≤ h.pc) (hd : ListE e 1 vd d.length (d.map I) Ed) (hq : q = ⟨h.core, ps, c, n, d⟩) :
   retV w0 F0 K (NextV e q) (.tuple #[.agg h.cells, .agg (repC c n vd)]) w := by
 subst hq
 exact ⟨Ed, F, hmo, hw, h, vd, rfl, rfl, hlc, hp, hd⟩
section
variable {P : Program} {ops : Array Oper} {K : (Nat → Value) → World → Prop} {rest : List Oper} {f : Nat → Value} {d : Nat} {ty : TypeId} {pos : String} {af : Array Edge} {w0 : World} {F : Addr → Value → Prop} {L : List (Nat × Obj)}
theorem listE_zero (e g : Nat) : ListE e 6 (.slice (some ⟨g, 0, none⟩) 0 0) 0 [] [(g, .cells #[] e (0, 0))] := ⟨by simp, .inr ⟨g, 0, #[], rfl, rfl, Nat.le_refl _, by decide, by simp, by simp⟩⟩
theorem s_clonePays {T e by_ g c : Nat} {ats : Array TypeId} {x y : Operand} {a : Option Addr} {pl : Nat} {ps : List PayS} (hT : rowB P T e 6 by_ = true) (hbb : Nat.ble 1 by_ = true) (hat : ats = #[T, T])
   (hx : ev f x = .slice (some ⟨g, 0, none⟩) 0 0) (hy : ev f y = .slice a pl c) (hp : PaysIn F a pl ps) (hbytes : pl * by_ ≤ 140737488355328)
   (kk : ∀ v' E', ListE e 6 v' pl (flatC ps) E' → sC P ops K rest (upd f d v') (Has w0 F (E' ++ L))) :
   sC P ops K (⟨some d, .call ⟨.builtin .append, #[x, y], ats⟩, ty, pos, af, none⟩ :: rest) f (Has w0 F ((g, .cells #[] e (0, 0)) :: L)) := by
 intro w hw
 subst hat
 unfold sw
 rw [if_pos wanted_free]
 unfold opk
 have hrun : ∀ v' w', (Builtin.append_ #[T, T] ty #[.slice (some ⟨g, 0, none⟩) 0 0, .slice a pl c]).run P w = .ok v' w' → (execOp (ev f) ⟨some d, .call ⟨.builtin .append, #[x, y], #[T, T]⟩, ty, pos, af, none⟩).run P w = .ok (.value v') w' := by
   intro v' w' hr
   simp [execOp, resolve, invoke, builtin, hx, hy, hr]
 obtain ⟨hl, hp⟩ := hp
 by_cases h0 : pl = 0
 · subst h0
   have hps : ps = [] := List.eq_nil_of_length_eq_zero hl
   subst hps
   obtain ⟨i, z, hu, hii, hs, hby, hz, hzs⟩ := rowB_spec hT
   have hsz : ∀ w, (sizeOf e).run P w = .ok 6 w := fun w => by simp [sizeOf, typeInfo, hii, hs]
   have : (Builtin.append_ #[T, T] ty #[.slice (some ⟨g, 0, none⟩) 0 0, .slice a 0 c]).run P w = .ok (.slice (some ⟨g, 0, none⟩) 0 0) w := by
     cases a <;> simp [Builtin.append_, underlying, hu, hsz, Builtin.lenOf, Builtin.firstCells, loadCells, loadCellsFrom, storeCells]
   rw [hrun _ _ this]
   exact kk _ [(g, .cells #[] e (0, 0))] (listE_zero e g) w hw
 · obtain ⟨b, o, rfl, hF⟩ := hp.resolve_left h0
   obtain ⟨v', E', w', hr, hE', hw'⟩ := run_appendE (P := P) (w0 := w0) (F := F) (L := L) (E := [(g, .cells #[] e (0, 0))]) (c := c) (ty := ty) (b := b) (o := o) (mm := pl) (news := flatC ps) hT (by decide) (listE_zero e g) hw (by rw [flatC_length, hl]) (fun j u hj => by
     obtain ⟨p, h1, h2⟩ := flatC_inv ps j u hj
     have h3 := hw.at _ _ (hF (j / 6) p h1 (j % 6) u h2)
     have e : o + j / 6 * 6 + j % 6 = o + j := by omega
     rw [e] at h3
     exact h3) (fun u hu => by
     obtain ⟨p, _, hp⟩ := List.mem_flatMap.1 hu
     have := PayS.all1 p
     rw [Array.all_eq_true_iff_forall_mem] at this
     exact this u (by simpa using hp)) (by omega) (by rw [Nat.zero_add]; exact hbytes) (Nat.le_of_ble_eq_true hbb)
   rw [hrun _ _ hr]
   rw [Nat.zero_add, List.nil_append] at hE'
   exact kk v' E' hE' w' hw'
end
def payM (c : H) (ps : List PayS) (a : ActS) : NR :=
 bif !goodPayB (newPay c a) then errN c ps 3 else bif decide (ps.length = 24) || decide (c.next = 1048576) then errN c ps 5
 else ⟨{ c with next := c.next + 1 }, ps ++ [newPay c a], 0, ps.length, []⟩
def revokeM (c : H) (ps : List PayS) (a : ActS) : NR := match settles ps a.a with
 | none => errN c ps 4
 | some p => ⟨c, ps.set a.a.toNat { p with sta := 3 }, 0, 0, []⟩
def classM (c : H) (ps : List PayS) (a : ActS) : NR := match settles ps a.a with
 | none => errN c ps 4
 | some p => bif !withinB a.c 0 2 then errN c ps 3 else bif decide (c.next = 1048576) then errN c ps 5
   else ⟨{ c with next := c.next + 1 }, ps.set a.a.toNat { p with cls := a.c, seq := c.next }, 0, 0, []⟩
def creditM (c : H) (ps : List PayS) (a : ActS) : NR :=
 bif !withinB a.a 0 3 || !withinB a.n 0 1000000 then errN c ps 3 else ⟨{ c with cred := up1 c.cred a.a a.n }, ps, 0, 0, []⟩
def limitM (c : H) (ps : List PayS) (a : ActS) : NR :=
 bif !withinB a.a 0 3 || !withinB a.b 0 3 || decide (a.a = a.b) || !withinB a.n (-1) 1000000 then errN c ps 3 else ⟨{ c with lim := up2 c.lim a.a a.b a.n }, ps, 0, 0, []⟩
def fundM (c : H) (ps : List PayS) (a : ActS) : NR :=
 bif !withinB a.a 0 3 || !withinB a.n 1 1000000 then errN c ps 3 else bif decide (549755813888 ≤ c.has a.a) then errN c ps 5
 else ⟨{ c with has := up1 c.has a.a (c.has a.a + a.n) }, ps, 0, 0, []⟩
def spendM (c : H) (ps : List PayS) (a : ActS) : NR :=
 bif !withinB a.a 0 3 || !withinB a.n 1 1000000 then errN c ps 3 else bif decide (c.has a.a + c.cred a.a < a.n) then errN c ps 6
 else ⟨{ c with has := up1 c.has a.a (c.has a.a - a.n) }, ps, 0, 0, []⟩
noncomputable def untieN (c : H) (ps : List PayS) : NR := ⟨(untieM c ps).c, (untieM c ps).ps, 0, (untieM c ps).xs.length, (untieM c ps).xs⟩
def closeM (c : H) (ps : List PayS) : NR := ⟨c, ps.map goneP, 0, cnt ps, []⟩
noncomputable def sweptM (q : NR) : NR := bif decide (q.code = 0) then sweepN q.c q.ps q.n q.done else q
theorem swept_err (c : H) (ps : List PayS) (e : Int) (he : e ≠ 0) : sweptM (errN c ps e) = errN c ps e := by
 unfold sweptM
 rw [show decide ((errN c ps e).code = 0) = false from decide_eq_false he]
 rfl
section
variable {c : H} {ps : List PayS} {a : ActS} (hg : goodB c ps = true)
include hg
theorem nx_pay (hk : a.kind = 1) : nextM c ps a = sweptM (payM c ps a) := by
 simp only [nextM, hg, hk, payM, Bool.not_true, cond_false, decide_true, cond_true]
 cases goodPayB (newPay c a)
 · simp only [Bool.not_false, cond_true]; exact (swept_err _ _ _ (by decide)).symm
 · simp only [Bool.not_true, cond_false]
   cases decide (ps.length = 24) || decide (c.next = 1048576)
   · simp only [cond_false]; rfl
   · simp only [cond_true]; exact (swept_err _ _ _ (by decide)).symm
theorem nx_revoke (hk : a.kind = 2) : nextM c ps a = sweptM (revokeM c ps a) := by
 simp only [nextM, hg, hk, revokeM, Bool.not_true, cond_false, decide_true, cond_true, Bool.true_or, show decide ((2 : Int) = 1) = false from rfl]
 cases settles ps a.a
 · exact (swept_err _ _ _ (by decide)).symm
 · rfl
theorem nx_class (hk : a.kind = 3) : nextM c ps a = sweptM (classM c ps a) := by
 simp only [nextM, hg, hk, classM, Bool.not_true, cond_false, decide_true, cond_true, Bool.or_true, show decide ((3 : Int) = 1) = false from rfl, show decide ((3 : Int) = 2) = false from rfl]
 cases settles ps a.a
 · exact (swept_err _ _ _ (by decide)).symm
 · simp only
   cases withinB a.c 0 2
   · simp only [Bool.not_false, cond_true]; exact (swept_err _ _ _ (by decide)).symm
   · simp only [Bool.not_true, cond_false]
     cases decide (c.next = 1048576)
     · simp only [cond_false]; rfl
     · simp only [cond_true]; exact (swept_err _ _ _ (by decide)).symm
theorem nx_credit (hk : a.kind = 4) : nextM c ps a = sweptM (creditM c ps a) := by
 simp only [nextM, hg, hk, creditM, Bool.not_true, cond_false, decide_true, cond_true, Bool.or_false, show decide ((4 : Int) = 1) = false from rfl, show decide ((4 : Int) = 2) = false from rfl, show decide ((4 : Int) = 3) = false from rfl]
 cases !withinB a.a 0 3 || !withinB a.n 0 1000000
 · simp only [cond_false]; rfl
 · simp only [cond_true]; exact (swept_err _ _ _ (by decide)).symm
theorem nx_limit (hk : a.kind = 5) : nextM c ps a = sweptM (limitM c ps a) := by
 simp only [nextM, hg, hk, limitM, Bool.not_true, cond_false, decide_true, cond_true, Bool.or_false, show decide ((5 : Int) = 1) = false from rfl, show decide ((5 : Int) = 2) = false from rfl, show decide ((5 : Int) = 3) = false from rfl, show decide ((5 : Int) = 4) = false from rfl]
 cases !withinB a.a 0 3 || !withinB a.b 0 3 || decide (a.a = a.b) || !withinB a.n (-1) 1000000
 · simp only [cond_false]; rfl
 · simp only [cond_true]; exact (swept_err _ _ _ (by decide)).symm
theorem nx_fund (hk : a.kind = 6) : nextM c ps a = sweptM (fundM c ps a) := by
 simp only [nextM, hg, hk, fundM, Bool.not_true, cond_false, decide_true, cond_true, Bool.or_false, show decide ((6 : Int) = 1) = false from rfl, show decide ((6 : Int) = 2) = false from rfl, show decide ((6 : Int) = 3) = false from rfl, show decide ((6 : Int) = 4) = false from rfl, show decide ((6 : Int) = 5) = false from rfl]
 cases !withinB a.a 0 3 || !withinB a.n 1 1000000
 · simp only [cond_false]
   cases decide (549755813888 ≤ c.has a.a)
   · simp only [cond_false]; rfl
   · simp only [cond_true]; exact (swept_err _ _ _ (by decide)).symm
 · simp only [cond_true]; exact (swept_err _ _ _ (by decide)).symm
theorem nx_spend (hk : a.kind = 7) : nextM c ps a = sweptM (spendM c ps a) := by
 simp only [nextM, hg, hk, spendM, Bool.not_true, cond_false, decide_true, cond_true, Bool.or_false, show decide ((7 : Int) = 1) = false from rfl, show decide ((7 : Int) = 2) = false from rfl, show decide ((7 : Int) = 3) = false from rfl, show decide ((7 : Int) = 4) = false from rfl, show decide ((7 : Int) = 5) = false from rfl, show decide ((7 : Int) = 6) = false from rfl]
 cases !withinB a.a 0 3 || !withinB a.n 1 1000000
 · simp only [cond_false]
   cases decide (c.has a.a + c.cred a.a < a.n)
   · simp only [cond_false]; rfl
   · simp only [cond_true]; exact (swept_err _ _ _ (by decide)).symm
 · simp only [cond_true]; exact (swept_err _ _ _ (by decide)).symm
theorem nx_untie (hk : a.kind = 8) : nextM c ps a = sweptM (untieN c ps) := by
 simp only [nextM, hg, hk, Bool.not_true, cond_false, decide_true, cond_true, Bool.or_false, show decide ((8 : Int) = 1) = false from rfl, show decide ((8 : Int) = 2) = false from rfl, show decide ((8 : Int) = 3) = false from rfl, show decide ((8 : Int) = 4) = false from rfl, show decide ((8 : Int) = 5) = false from rfl, show decide ((8 : Int) = 6) = false from rfl, show decide ((8 : Int) = 7) = false from rfl]
 rfl
theorem nx_close (hk : a.kind = 9) : nextM c ps a = closeM c ps := by
 simp only [nextM, hg, hk, Bool.not_true, cond_false, decide_true, cond_true, Bool.or_false, show decide ((9 : Int) = 1) = false from rfl, show decide ((9 : Int) = 2) = false from rfl, show decide ((9 : Int) = 3) = false from rfl, show decide ((9 : Int) = 4) = false from rfl, show decide ((9 : Int) = 5) = false from rfl, show decide ((9 : Int) = 6) = false from rfl, show decide ((9 : Int) = 7) = false from rfl, show decide ((9 : Int) = 8) = false from rfl]
 rfl
theorem nx_other (hk : ¬ (1 ≤ a.kind ∧ a.kind ≤ 9)) : nextM c ps a = errN c ps 2 := by
 have e : ∀ k : Int, 1 ≤ k ∧ k ≤ 9 → decide (a.kind = k) = false := fun k hk' => decide_eq_false (by omega)
 simp only [nextM, hg, Bool.not_true, cond_false, e 1 (by omega), e 2 (by omega), e 3 (by omega), e 4 (by omega), e 5 (by omega), e 6 (by omega), e 7 (by omega), e 8 (by omega), e 9 (by omega), Bool.or_false]
end
theorem nx_bad {c : H} {ps : List PayS} {a : ActS} (hg : goodB c ps = false) : nextM c ps a = errN c ps 1 := by
 simp only [nextM, hg, Bool.not_false, cond_true]
def Short (q : NR) : Prop := q.ps.length ≤ 25 ∧ q.done.length ≤ 25
section
variable {c : H} {ps : List PayS} {a : ActS} (h : ps.length ≤ 24)
include h
theorem short_err (e : Int) : Short (errN c ps e) := ⟨by simp only [errN]; omega, by simp [errN]⟩
theorem short_pay : Short (payM c ps a) := by
 unfold payM
 cases goodPayB (newPay c a)
 · exact short_err h 3
 · simp only [Bool.not_true, cond_false]
   cases decide (ps.length = 24) || decide (c.next = 1048576)
   · exact ⟨by simp only [cond_false, List.length_append, List.length_cons, List.length_nil]; omega, by simp⟩
   · exact short_err h 5
theorem short_revoke : Short (revokeM c ps a) := by
 unfold revokeM
 cases settles ps a.a
 · exact short_err h 4
 · exact ⟨by simp only [List.length_set]; omega, by simp⟩
theorem short_class : Short (classM c ps a) := by
 unfold classM
 cases settles ps a.a
 · exact short_err h 4
 · simp only
   cases withinB a.c 0 2
   · exact short_err h 3
   · simp only [Bool.not_true, cond_false]
     cases decide (c.next = 1048576)
     · exact ⟨by simp only [cond_false, List.length_set]; omega, by simp⟩
     · exact short_err h 5
theorem short_credit : Short (creditM c ps a) := by
 unfold creditM
 cases !withinB a.a 0 3 || !withinB a.n 0 1000000
 · exact ⟨by simp only [cond_false]; omega, by simp⟩
 · exact short_err h 3
theorem short_limit : Short (limitM c ps a) := by
 unfold limitM
 cases !withinB a.a 0 3 || !withinB a.b 0 3 || decide (a.a = a.b) || !withinB a.n (-1) 1000000
 · exact ⟨by simp only [cond_false]; omega, by simp⟩
 · exact short_err h 3
theorem short_fund : Short (fundM c ps a) := by
 unfold fundM
 cases !withinB a.a 0 3 || !withinB a.n 1 1000000
 · simp only [cond_false]
   cases decide (549755813888 ≤ c.has a.a)
   · exact ⟨by simp only [cond_false]; omega, by simp⟩
   · exact short_err h 5
 · exact short_err h 3
theorem short_spend : Short (spendM c ps a) := by
 unfold spendM
 cases !withinB a.a 0 3 || !withinB a.n 1 1000000
 · simp only [cond_false]
   cases decide (c.has a.a + c.cred a.a < a.n)
   · exact ⟨by simp only [cond_false]; omega, by simp⟩
   · exact short_err h 6
 · exact short_err h 3
theorem short_untie : Short (untieN c ps) := by
 have h1 := untie_len c ps
 have h2 := untie_xs_len (h := c) (ps := ps)
 exact ⟨by simp only [untieN]; omega, by simp only [untieN]; omega⟩
end
def StepF (P : Program) (ei ep : Nat) (kind : Int) (F : Addr → Value → Prop) (v : Value) : Prop :=
 ∃ (fv : Value) (kn : Bool), v = .tuple #[fv, .bool kn] ∧ (kn = false → ¬ (1 ≤ kind ∧ kind ≤ 9)) ∧
   (kn = true → ∃ (k : FuncId) (caps : List Value), fv = .func (.func k) #[] caps.toArray ∧ hasBody P k = true ∧
     ∀ (F' : Addr → Value → Prop) (h : H) (ps : List PayS) (a : ActS) (E : List (Nat × Obj)), More F F' → a.kind = kind → ListE ep 6 (.slice h.pa h.pl h.pc) h.pl (flatC ps) E → ps.length = h.pl → goodB h.core ps = true →
       GivesV P k ([.agg h.cells, .agg a.cells] ++ caps) F' E (NextV ei (nextM h.core ps a)))
theorem stepF_mono (P : Program) (ei ep : Nat) (kind : Int) : Mono (StepF P ei ep kind) := by
 rintro F F' v hm ⟨fv, kn, h1, h2, h3⟩
 refine ⟨fv, kn, h1, h2, fun h => ?_⟩
 obtain ⟨k, caps, h4, h5, h6⟩ := h3 h
 exact ⟨k, caps, h4, h5, fun F2 h ps a E hF => h6 F2 h ps a E (fun b v hb => hF b v (hm b v hb))⟩
end Go.Proofs.Ytmkboljfbmlebac
namespace Go.Proofs.Ytmkboljfbmlebac
open Go.RowKit
set_option linter.unusedSimpArgs false
set_option linter.unusedVariables false
set_option maxRecDepth 100000
attribute [local irreducible] cC sC nC rC qw
theorem g_withinB (n lo hi : Int) (w : World) : Gives Try.prog 21 [I n, I lo, I hi] w (.bool (withinB n lo hi)) := by
 refine gives_of Try.func21 rfl Try.ntmps21 (by simp) ?_
 refine r_seq (by kernel_rfl) ?_
 refine s_val (v_assign (v := .bool _) rfl) ?_
 refine s_nil ?_
 refine r_seq (by kernel_rfl) ?_
 refine s_val (v_move (v := .int .i64 _) rfl) ?_
 refine s_val (v_move (v := .int .i64 _) rfl) ?_
 refine s_val (v_leq (k := .i64) rfl rfl) ?_
 refine s_val (v_move (v := .bool _) rfl) ?_
 refine s_splitR (s := 10) rfl (fun h10 => ?_) (fun h10 => ?_)
 · refine s_pass rfl rfl h10 ?_
   refine s_pass rfl rfl h10 ?_
   refine s_pass rfl rfl h10 ?_
   refine s_val (v_pickF (v := .bool _) rfl h10 rfl) ?_
   refine s_val (v_assign (v := .bool _) rfl) ?_
   refine s_nil ?_
   refine c_ret ?_
   refine n_done rfl (by decide) (Eq.trans (b := .bool _) rfl (congrArg Value.bool ?_))
   simp [withinB, *]
 refine s_want rfl rfl h10 ?_
 refine s_val (v_move (v := .int .i64 _) rfl) ?_
 refine s_want rfl rfl h10 ?_
 refine s_val (v_move (v := .int .i64 _) rfl) ?_
 refine s_want rfl rfl h10 ?_
 refine s_val (v_leq (k := .i64) rfl rfl) ?_
 refine s_val (v_pickT (v := .bool _) rfl h10 rfl) ?_
 refine s_val (v_assign (v := .bool _) rfl) ?_
 refine s_nil ?_
 refine c_ret ?_
 refine n_done rfl (by decide) (Eq.trans (b := .bool _) rfl (congrArg Value.bool ?_))
 simp [withinB, *]
theorem g_isBankB (n : Int) (w : World) : Gives Try.prog 55 [I n] w (.bool (withinB n 0 3)) := by
 refine gives_of Try.func55 rfl Try.ntmps55 (by simp) ?_
 refine r_seq (by kernel_rfl) ?_
 refine s_val (v_assign (v := .bool _) rfl) ?_
 refine s_nil ?_
 refine r_seq (by kernel_rfl) ?_
 refine s_val (v_move (v := .int .i64 _) rfl) ?_
 refine s_call (by kernel_rfl) (fun w hw => g_withinB _ _ _ w) ?_
 refine s_val (v_assign (v := .bool _) rfl) ?_
 refine s_nil ?_
 refine c_ret ?_
 refine n_done rfl (by decide) (Eq.trans (b := .bool _) rfl (congrArg Value.bool ?_))
 rfl
theorem g_failed (e : Int) (w : World) : Gives Try.prog 11 [I e] w (.agg (repC e 0 (.slice none 0 0))) := by
 refine gives_of Try.func11 rfl Try.ntmps11 (by simp) ?_
 refine r_seq (by kernel_rfl) ?_
 refine s_alloc (z := .agg (repC 0 0 (.slice none 0 0))) (by kernel_rfl) (fun b2 => ?_)
 refine s_nil ?_
 refine r_seq (by kernel_rfl) ?_
 refine s_val (v_move (v := .int .i64 _) rfl) ?_
 refine s_val (v_build (vs := [(0, .int .i64 _)]) (cs := repC e 0 (.slice none 0 0)) rfl (by kernel_rfl)) ?_
 refine s_storeA (m := 3) (by kernel_rfl) rfl rfl .here rfl rfl rep_all ?_
 refine s_nil ?_
 refine c_ret ?_
 refine n_doneC (m := 3) rfl (by decide) rfl (by kernel_rfl) .here rep_size rfl
theorem g_isQueued (h : H) (ps : List PayS) (n : Int) (w : World) (hp : PaysIn (At w) h.pa h.pl ps) (hb : h.pl * 48 ≤ 281474976710656) : Gives Try.prog 54 [.agg h.cells, I n] w (.bool (waitsB ps n)) := by
 refine gives_of Try.func54 rfl Try.ntmps54 (by simp) ?_
 refine r_seq (by kernel_rfl) ?_
 refine s_box (v := .agg _) rfl (fun b2 => ?_)
 refine s_val (v_assign (v := .bool _) rfl) ?_
 refine s_nil ?_
 refine r_seq (by kernel_rfl) ?_
 refine s_val (v_move (v := .int .i64 _) rfl) ?_
 refine s_val (v_field (fo := 40) (by kernel_rfl) rfl) ?_
 refine s_val (v_load1 (v := .slice _ _ _) (by kernel_rfl) rfl .here (H.at_pays _)) ?_
 refine s_val (v_lenS (T := 45) (m := 6) (by kernel_rfl) rfl rfl) ?_
 refine s_val (v_sub rfl rfl (by omega)) ?_
 refine s_call (by kernel_rfl) (fun w hw => g_withinB _ _ _ w) ?_
 refine s_val (v_move (v := .bool _) rfl) ?_
 refine s_splitR (s := 11) rfl (fun h11 => ?_) (fun h11 => ?_)
 · refine s_pass rfl rfl h11 ?_
   refine s_pass rfl rfl h11 ?_
   refine s_pass rfl rfl h11 ?_
   refine s_pass rfl rfl h11 ?_
   refine s_pass rfl rfl h11 ?_
   refine s_pass rfl rfl h11 ?_
   refine s_pass rfl rfl h11 ?_
   refine s_val (v_pickF (v := .bool _) rfl h11 rfl) ?_
   refine s_val (v_assign (v := .bool _) rfl) ?_
   refine s_nil ?_
   refine c_ret ?_
   refine n_done rfl (by decide) (Eq.trans (b := .bool _) rfl (congrArg Value.bool ?_))
   exact waits_out (by have := hp.1; omega) h11
 obtain ⟨hn0, hn1⟩ := within_iff.1 h11
 obtain ⟨p, hpn, hd, ht⟩ := hp.get (k := n.toNat) (by omega)
 obtain ⟨b, o, hpa, hc⟩ := hp.some (k := n.toNat) (by omega)
 refine s_want rfl rfl h11 ?_
 refine s_val (v_field (fo := 40) (by kernel_rfl) rfl) ?_
 refine s_want rfl rfl h11 ?_
 refine s_val (v_load1 (v := .slice _ _ _) (by kernel_rfl) rfl .here (H.at_pays _)) ?_
 refine s_want rfl rfl h11 ?_
 refine s_val (v_move (v := .int .i64 _) rfl) ?_
 refine s_want rfl rfl h11 ?_
 refine s_val (v_idxS (size := 6) (k := .i64) (by kernel_rfl) (congrArg (fun a => Value.slice a h.pl h.pc) hpa) rfl ⟨by omega, by omega⟩) ?_
 refine s_want rfl rfl h11 ?_
 refine s_val (v_field (fo := 4) (by kernel_rfl) rfl) ?_
 refine s_want rfl rfl h11 ?_
 refine s_val (v_load1o (by kernel_rfl) rfl (hc _ p hpn 4 _ rfl)) ?_
 refine s_want rfl rfl h11 ?_
 refine s_val (v_eql (k := .i64) rfl rfl) ?_
 refine s_val (v_pickT (v := .bool _) rfl h11 rfl) ?_
 refine s_val (v_assign (v := .bool _) rfl) ?_
 refine s_nil ?_
 refine c_ret ?_
 refine n_done rfl (by decide) (Eq.trans (b := .bool _) rfl (congrArg Value.bool ?_))
 exact waits_in hn0 hpn
theorem g_CloneL (pa : Option Addr) (pl pc : Nat) (ps : List PayS) (w : World) (hp : PaysIn (At w) pa pl ps) (h24 : pl ≤ 24) : GivesE Try.prog 32 [.slice pa pl pc] w (fun v E => ListE 65 6 v pl (flatC ps) E) := by
 refine givesE_of Try.func32 rfl Try.ntmps32 (by simp) ?_
 refine r_seq (by kernel_rfl) ?_
 refine s_val (v_assign (v := .slice _ _ _) rfl) ?_
 refine s_nil ?_
 refine c_seq ?_
 refine r_seq (by kernel_rfl) ?_
 refine s_val (v_move (v := .slice _ _ _) rfl) ?_
 refine s_val (v_eqNil (m := 6) (by kernel_rfl) rfl rfl) ?_
 refine s_nil ?_
 refine c_condR rfl rfl (fun h4 => ?_) (fun h4 => ?_)
 · refine c_skip ?_
   refine n_then ?_
   refine r_seq (by kernel_rfl) ?_
   refine s_build0 (e := 65) (m := 6) (by_ := 48) (by kernel_rfl) (fun b5 => ?_)
   refine s_val (v_move (v := .slice _ _ _) rfl) ?_
   refine s_clonePays (e := 65) (by_ := 48) (by kernel_rfl) rfl rfl rfl rfl hp (by omega) (fun v7 E7 hE7 => ?_)
   refine s_val (v_assign (v := _) rfl) ?_
   refine s_nil ?_
   refine c_ret ?_
   exact n_doneE (E := E7) (L := []) rfl (by decide) hE7
 refine r_seq (by kernel_rfl) ?_
 refine s_val (v_assign (v := .slice _ _ _) rfl) ?_
 refine s_nil ?_
 refine c_ret ?_
 refine n_ret ?_
 have h0 : pl = 0 := by
   rcases hp.2 with e | ⟨b, o, e, _⟩
   · exact e
   · rw [e] at h4; cases h4
 subst h0
 have hps : ps = [] := List.eq_nil_of_length_eq_zero hp.1
 subst hps
 exact n_doneE (E := []) (L := []) rfl (by decide) (listE_nil _ _)
theorem g_CloneP (pa : Option Addr) (pl pc : Nat) (ps : List PayS) (w : World) (hp : PaysIn (At w) pa pl ps) (hb : pl * 48 ≤ 281474976710656) : GivesE Try.prog 32 [.slice pa pl pc] w (fun v E => ∃ a c, v = .slice a pl c ∧ PaysE a pl c ps E) := by
 by_cases h0 : pl = 0
 · have h := g_CloneL pa pl pc ps w hp (by omega)
   exact ⟨h.out.mono fun e w' ⟨v, E, h1, h2, h3, h4⟩ => ⟨v, E, h1, h2, h3, by obtain ⟨a, c, rfl⟩ := h4.shape; exact ⟨a, c, rfl, ListE.pays h4 hp.1⟩⟩⟩
 · exact g_Clone pa pl pc ps w hp hb (by omega)
end Go.Proofs.Ytmkboljfbmlebac
namespace Go.Proofs.Ytmkboljfbmlebac
open Go.RowKit
set_option linter.unusedSimpArgs false
set_option linter.unusedVariables false
set_option maxRecDepth 100000
attribute [local irreducible] cC sC nC rC qw
theorem g_ownL (h : H) (ps : List PayS) (w : World) (hp : PaysIn (At w) h.pa h.pl ps) (h24 : h.pl ≤ 24) : GivesE Try.prog 24 [.agg h.cells] w (fun v E => ∃ pa pc, v = .agg ({ h with pa := pa, pc := pc } : H).cells ∧ ListE 65 6 (.slice pa h.pl pc) h.pl (flatC ps) E) := by
 refine givesE_of Try.func24 rfl Try.ntmps24 (by simp) ?_
 refine r_seq (by kernel_rfl) ?_
 refine s_box (v := .agg _) rfl (fun b1 => ?_)
 refine s_alloc (z := .agg zeroH.cells) (by kernel_rfl) (fun b2 => ?_)
 refine s_nil ?_
 refine r_seq (by kernel_rfl) ?_
 refine s_val (v_field (fo := 40) (by kernel_rfl) rfl) ?_
 refine s_val (v_load1 (v := .slice _ _ _) (by kernel_rfl) rfl (.there .here) (H.at_pays _)) ?_
 refine s_callE (by kernel_rfl) (fun w hw => g_CloneL _ _ _ ps w (hp.at hw) h24) (fun v5 E5 hR5 => ?_)
 obtain ⟨a5, c5, rfl⟩ := hR5.shape
 have hE5 := hR5
 refine s_val (v_field (fo := 40) (by kernel_rfl) rfl) ?_
 refine s_store1 (v := .slice _ _ _) (by kernel_rfl) rfl rfl (.app (.there .here)) (H.set_pays _) rfl ?_
 refine s_nil ?_
 refine r_seq (by kernel_rfl) ?_
 refine s_val (v_loadA (m := 42) (by kernel_rfl) rfl (.app (.there .here)) (H.size _)) ?_
 refine s_storeA (m := 42) (by kernel_rfl) rfl rfl (.app .here) (H.size _) (H.size _) (H.all1 _) ?_
 refine s_nil ?_
 refine c_ret ?_
 refine n_doneCE (E := E5) (m := 42) rfl (by decide) rfl (by kernel_rfl) (.app .here) (H.size _) (fun w hw => hw) ⟨_, _, rfl, hE5⟩
theorem g_ownP (h : H) (ps : List PayS) (w : World) (hp : PaysIn (At w) h.pa h.pl ps) (hb : h.pl * 48 ≤ 281474976710656) : GivesE Try.prog 24 [.agg h.cells] w (fun v E => ∃ pa pc, v = .agg ({ h with pa := pa, pc := pc } : H).cells ∧ PaysE pa h.pl pc ps E) := by
 refine givesE_of Try.func24 rfl Try.ntmps24 (by simp) ?_
 refine r_seq (by kernel_rfl) ?_
 refine s_box (v := .agg _) rfl (fun b1 => ?_)
 refine s_alloc (z := .agg zeroH.cells) (by kernel_rfl) (fun b2 => ?_)
 refine s_nil ?_
 refine r_seq (by kernel_rfl) ?_
 refine s_val (v_field (fo := 40) (by kernel_rfl) rfl) ?_
 refine s_val (v_load1 (v := .slice _ _ _) (by kernel_rfl) rfl (.there .here) (H.at_pays _)) ?_
 refine s_callE (by kernel_rfl) (fun w hw => g_CloneP _ _ _ ps w (hp.at hw) hb) (fun v5 E5 hR5 => ?_)
 obtain ⟨a5, c5, rfl, hE5⟩ := hR5
 refine s_val (v_field (fo := 40) (by kernel_rfl) rfl) ?_
 refine s_store1 (v := .slice _ _ _) (by kernel_rfl) rfl rfl (.app (.there .here)) (H.set_pays _) rfl ?_
 refine s_nil ?_
 refine r_seq (by kernel_rfl) ?_
 refine s_val (v_loadA (m := 42) (by kernel_rfl) rfl (.app (.there .here)) (H.size _)) ?_
 refine s_storeA (m := 42) (by kernel_rfl) rfl rfl (.app .here) (H.size _) (H.size _) (H.all1 _) ?_
 refine s_nil ?_
 refine c_ret ?_
 refine n_doneCE (E := E5) (m := 42) rfl (by decide) rfl (by kernel_rfl) (.app .here) (H.size _) (fun w hw => hw) ⟨_, _, rfl, hE5⟩
end Go.Proofs.Ytmkboljfbmlebac
namespace Go.Proofs.Ytmkboljfbmlebac
open Go.RowKit
set_option linter.unusedSimpArgs false
set_option linter.unusedVariables false
structure SlS where
 a : Option Addr
 l : Nat
 c : Nat
def SlS.val (s : SlS) : Value := .slice s.a s.l s.c
def rowSC (q : Int → SlS) (j : Nat) : Value := .slice (q j).a (q j).l (q j).c
def rowS (q : Int → SlS) : Array Value := Array.ofFn (n := 4) fun j => rowSC q j.val
theorem rowS_size (q : Int → SlS) : (rowS q).size = 4 := by simp [rowS]
theorem rowS_all (q : Int → SlS) : (rowS q).all (·.oneCell') = true := ofFn_all _ fun _ => rfl
theorem rowS_at0 (q : Int → SlS) {i : Int} (hi : 0 ≤ i ∧ i < 4) : (rowS q)[0 + i.toNat * 1]? = some (.slice (q i).a (q i).l (q i).c) := by
 have h1 : ((i.toNat : Nat) : Int) = i := by omega
 rw [Nat.zero_add, rowS, getq _ (by omega)]
 simp only [rowSC, Nat.mul_one, h1]
def up1S (q : Int → SlS) (i : Int) (v : SlS) : Int → SlS := fun x => if x = i then v else q x
theorem rowS_set (q : Int → SlS) {i : Int} {a : Option Addr} {l c : Nat} (hi : 0 ≤ i ∧ i < 4) : 0 + i.toNat * 1 < (rowS q).size ∧ (rowS q).setIfInBounds (0 + i.toNat * 1) (.slice a l c) = rowS (up1S q i ⟨a, l, c⟩) := by
 refine ⟨by rw [rowS_size]; omega, ?_⟩
 unfold rowS
 exact setq _ _ (fun j hj => by
   unfold rowSC up1S
   by_cases e : (j : Int) = i
   · rw [if_pos e, if_pos (by omega)]
   · rw [if_neg e, if_neg (by omega)])
def noS : Int → SlS := fun _ => ⟨none, 0, 0⟩
def SlIn (F : Addr → Value → Prop) (s : SlS) (xs : List Int) : Prop := s.l = xs.length ∧ xs.length ≤ s.c ∧ IntsAt F s.a xs
theorem SlIn.mono {F F' : Addr → Value → Prop} {s : SlS} {xs : List Int} (h : SlIn F s xs) (hm : More F F') : SlIn F' s xs := ⟨h.1, h.2.1, h.2.2.mono hm⟩
def WaitIn (ps : List PayS) (q : Int → SlS) (k : Nat) (F : Addr → Value → Prop) : Prop := ∀ b : Int, 0 ≤ b → b < k → ∃ ws, SlIn F (q b) ws ∧ (SeqsApart ps → ws = queueM ps b)
theorem WaitIn.mono {ps : List PayS} {q : Int → SlS} {k : Nat} {F F' : Addr → Value → Prop} (h : WaitIn ps q k F) (hm : More F F') : WaitIn ps q k F' := fun b h0 h1 => by
 obtain ⟨ws, h2, h3⟩ := h b h0 h1
 exact ⟨ws, h2.mono hm, h3⟩
theorem WaitIn.at {ps : List PayS} {q : Int → SlS} {k : Nat} {w0 w : World} {F : Addr → Value → Prop} {L : List (Nat × Obj)} (h : WaitIn ps q k F) (hw : Has w0 F L w) : WaitIn ps q k (At w) := h.mono hw.at
theorem WaitIn.step {ps : List PayS} {q : Int → SlS} {k : Nat} {F F' : Addr → Value → Prop} (h : WaitIn ps q k F) (hm : More F F') {a : Option Addr} {l c : Nat} {ws : List Int} (hl : l = ws.length) (hc : ws.length ≤ c) (ha : IntsAt F' a ws) (hs : SeqsApart ps → ws = queueM ps k) :
   WaitIn ps (up1S q k ⟨a, l, c⟩) (k + 1) F' := fun b h0 h1 => by
 by_cases e : b = (k : Int)
 · subst e
   exact ⟨ws, by unfold up1S; rw [if_pos rfl]; exact ⟨hl, hc, ha⟩, hs⟩
 · obtain ⟨xs, h2, h3⟩ := h b h0 (by omega)
   exact ⟨xs, by unfold up1S; rw [if_neg e]; exact h2.mono hm, h3⟩
def QueuesF (ps : List PayS) : (Addr → Value → Prop) → Value → Prop := fun F v => ∃ q, v = .agg (rowS q) ∧ WaitIn ps q 4 F
theorem queuesF_mono (ps : List PayS) : Mono (QueuesF ps) := by
 rintro F F' v hm ⟨q, h1, h2⟩
 exact ⟨q, h1, h2.mono hm⟩
theorem WaitIn.get {ps : List PayS} {q : Int → SlS} {F : Addr → Value → Prop} (h : WaitIn ps q 4 F) (hsa : SeqsApart ps) {b : Int} (hb : 0 ≤ b ∧ b < 4) : (q b).l = (queueM ps b).length ∧ (queueM ps b).length ≤ (q b).c ∧ IntsAt F (q b).a (queueM ps b) := by
 obtain ⟨ws, h2, h3⟩ := h b hb.1 hb.2
 rw [h3 hsa] at h2
 exact h2
theorem WaitIn.len {ps : List PayS} {q : Int → SlS} {F : Addr → Value → Prop} (h : WaitIn ps q 4 F) (hsa : SeqsApart ps) {b : Int} (hb : 0 ≤ b ∧ b < 4) : (q b).l = (queueM ps b).length := (h.get hsa hb).1
theorem ok_other {x : H} {b : Int} (hb : 0 ≤ b ∧ b < 4) {t : Int} (e : t = b) (h0 : 0 ≤ x.lim b t) : ¬ x.lim b t < wr (x.sent b t - x.sent t b) := by
 subst e
 rw [Int.sub_self, wr_in (by omega) (by omega)]
 omega
def stuckC (x : H) (n : Int → Int) (b : Int) : Bool := !decide (n b = 0) && !okBank x b
def stuckM (x : H) (n : Int → Int) : Int × Bool := bif stuckC x n 0 then (0, true) else bif stuckC x n 1 then (1, true) else bif stuckC x n 2 then (2, true) else bif stuckC x n 3 then (3, true) else (0, false)
theorem stuck_at {x : H} {n : Int → Int} {k : Nat} (hk : k < 4) (h : ∀ b : Int, 0 ≤ b → b < k → stuckC x n b = false) (hc : stuckC x n k = true) : stuckM x n = ((k : Int), true) := by
 have : k = 0 ∨ k = 1 ∨ k = 2 ∨ k = 3 := by omega
 unfold stuckM
 rcases this with rfl | rfl | rfl | rfl
 · have hc' : stuckC x n 0 = true := hc
   simp only [hc', cond_true]; rfl
 · have hc' : stuckC x n 1 = true := hc
   simp only [h 0 (by omega) (by omega), hc', cond_true, cond_false]; rfl
 · have hc' : stuckC x n 2 = true := hc
   simp only [h 0 (by omega) (by omega), h 1 (by omega) (by omega), hc', cond_true, cond_false]; rfl
 · have hc' : stuckC x n 3 = true := hc
   simp only [h 0 (by omega) (by omega), h 1 (by omega) (by omega), h 2 (by omega) (by omega), hc', cond_true, cond_false]; rfl
theorem stuck_none {x : H} {n : Int → Int} (h : ∀ b : Int, 0 ≤ b → b < 4 → stuckC x n b = false) : stuckM x n = (0, false) := by
 unfold stuckM
 simp only [h 0 (by omega) (by omega), h 1 (by omega) (by omega), h 2 (by omega) (by omega), h 3 (by omega) (by omega), cond_false]
theorem stuck_true {x : H} {n : Int → Int} (h : (stuckM x n).2 = true) : (0 ≤ (stuckM x n).1 ∧ (stuckM x n).1 < 4) ∧ stuckC x n (stuckM x n).1 = true := by
 unfold stuckM at h ⊢
 cases h0 : stuckC x n 0
 · cases h1 : stuckC x n 1
   · cases h2 : stuckC x n 2
     · cases h3 : stuckC x n 3
       · rw [h0, h1, h2, h3] at h; cases h
       · simp only [cond_true, cond_false]; exact ⟨by omega, h3⟩
     · simp only [cond_true, cond_false]; exact ⟨by omega, h2⟩
   · simp only [cond_true, cond_false]; exact ⟨by omega, h1⟩
 · simp only [cond_true]; exact ⟨by omega, h0⟩
theorem stuck_false {x : H} {n : Int → Int} (h : (stuckM x n).2 = false) : ∀ b : Int, 0 ≤ b ∧ b < 4 → n b = 0 ∨ okBank x b = true := by
 unfold stuckM at h
 cases h0 : stuckC x n 0
 · cases h1 : stuckC x n 1
   · cases h2 : stuckC x n 2
     · cases h3 : stuckC x n 3
       · intro b hb
         have : stuckC x n b = false := by
           have hb4 : b = 0 ∨ b = 1 ∨ b = 2 ∨ b = 3 := by omega
           rcases hb4 with rfl | rfl | rfl | rfl <;> assumption
         unfold stuckC at this
         by_cases e : n b = 0
         · exact .inl e
         · right; simpa [e] using this
       · rw [h0, h1, h2, h3] at h; cases h
     · rw [h0, h1, h2] at h; cases h
   · rw [h0, h1] at h; cases h
 · rw [h0] at h; cases h
theorem stuckC_spec {x : H} {n : Int → Int} {b : Int} (h : stuckC x n b = true) : ¬ n b = 0 ∧ okBank x b = false := by
 unfold stuckC at h
 simpa using h
theorem moveQ_lim (ps : List PayS) (b : Int) : ∀ (xs : List Int) (x : H), (moveQ ps b x xs).lim = x.lim ∧ (moveQ ps b x xs).pa = x.pa ∧ (moveQ ps b x xs).pl = x.pl ∧ (moveQ ps b x xs).pc = x.pc
 | [], x => ⟨rfl, rfl, rfl, rfl⟩
 | i :: r, x => by
   obtain ⟨h1, h2, h3, h4⟩ := moveQ_lim ps b r (match ps[i.toNat]? with | some p => moveM x b p.dst p.amt | none => x)
   have hm : ∀ a d n, (moveM x a d n).lim = x.lim ∧ (moveM x a d n).pa = x.pa ∧ (moveM x a d n).pl = x.pl ∧ (moveM x a d n).pc = x.pc := fun a d n => by unfold moveM; split <;> exact ⟨rfl, rfl, rfl, rfl⟩
   simp only [moveQ]
   cases hp : ps[i.toNat]? with
   | none => rw [hp] at h1 h2 h3 h4; exact ⟨h1, h2, h3, h4⟩
   | some p =>
     rw [hp] at h1 h2 h3 h4
     obtain ⟨m1, m2, m3, m4⟩ := hm b p.dst p.amt
     exact ⟨h1.trans m1, h2.trans m2, h3.trans m3, h4.trans m4⟩
theorem movesTo_lim (h : H) (ps : List PayS) (n : Int → Int) : ∀ k, (movesTo h ps n k).lim = h.lim ∧ (movesTo h ps n k).pa = h.pa ∧ (movesTo h ps n k).pl = h.pl ∧ (movesTo h ps n k).pc = h.pc
 | 0 => ⟨rfl, rfl, rfl, rfl⟩
 | k + 1 => by
   obtain ⟨h1, h2, h3, h4⟩ := movesTo_lim h ps n k
   obtain ⟨g1, g2, g3, g4⟩ := moveQ_lim ps k ((queueM ps k).take (n k).toNat) (movesTo h ps n k)
   exact ⟨g1.trans h1, g2.trans h2, g3.trans h3, g4.trans h4⟩
structure DownTo (h : H) (ps : List PayS) (n : Int → Int) : Prop where
 size : ∀ b : Int, 0 ≤ b ∧ b < 4 → 0 ≤ n b ∧ n b ≤ (queueM ps b).length
 above : ∀ m, Poss h ps m → ∀ b : Int, 0 ≤ b ∧ b < 4 → m b ≤ n b
theorem down_start {h : H} {ps : List PayS} {n : Int → Int} (hn : ∀ b : Int, 0 ≤ b ∧ b < 4 → n b = (queueM ps b).length) : DownTo h ps n :=
 ⟨fun b hb => by rw [hn b hb]; omega, fun m p b hb => by rw [hn b hb]; exact (p.size b hb).2⟩
theorem not_ok {h : H} {ps : List PayS} (hg : goodB h ps = true) {n : Int → Int} {b : Int} (hb : 0 ≤ b ∧ b < 4) (ho : okBank (movesTo h ps n 4) b = false) {m : Int → Int} (pm : Poss h ps m) (hmn : ∀ b : Int, 0 ≤ b ∧ b < 4 → m b ≤ n b) (hn : ¬ n b = 0) : m b < n b := by
 rcases Int.lt_or_le (m b) (n b) with h1 | h1
 · exact h1
 · exfalso
   have e : n b = m b := by have := hmn b hb; omega
   obtain ⟨l1, l2⟩ := pm.lift hmn hb e (by omega)
   have st := moves_spec hg n
   have gh := good_of hg
   have : okBank (movesTo h ps n 4) b = true := (ok_iff st.near (fun i hi => by rw [st.cred]; exact gh.cred i hi) hb).2 ⟨by rw [st.has b hb, st.cred]; exact l1, fun t ht h0 => by
     rw [st.lim] at h0 ⊢
     rw [st.sent b t hb ht, st.sent t b ht hb]; exact l2 t ht h0⟩
   rw [this] at ho; cases ho
theorem DownTo.step {h : H} {ps : List PayS} (hg : goodB h ps = true) {n : Int → Int} (d : DownTo h ps n) {b : Int} (hb : 0 ≤ b ∧ b < 4) (hn : ¬ n b = 0) (ho : okBank (movesTo h ps n 4) b = false) : DownTo h ps (up1 n b (n b - 1)) := by
 have hs := d.size b hb
 refine ⟨fun c hc => ?_, fun m pm c hc => ?_⟩
 · unfold up1
   split
   · rename_i e; subst e; omega
   · exact d.size c hc
 · unfold up1
   split
   · rename_i e; subst e
     have := not_ok hg hc ho pm (d.above m pm) hn
     omega
   · exact d.above m pm c hc
theorem DownTo.done {h : H} {ps : List PayS} (hg : goodB h ps = true) {n : Int → Int} (d : DownTo h ps n) (ho : ∀ b : Int, 0 ≤ b ∧ b < 4 → n b = 0 ∨ okBank (movesTo h ps n 4) b = true) : IsMost h ps n :=
 ⟨poss_iff.1 (tog_all hg (fun b hb => within_iff.2 (d.size b hb)) ho), d.above⟩
def all4 (n : Int → Int) : Int := n 0 + n 1 + n 2 + n 3
theorem all4_down {n : Int → Int} {b : Int} (hb : 0 ≤ b ∧ b < 4) : all4 (up1 n b (n b - 1)) = all4 n - 1 := by
 have hb4 : b = 0 ∨ b = 1 ∨ b = 2 ∨ b = 3 := by omega
 unfold all4
 rcases hb4 with rfl | rfl | rfl | rfl <;> simp [up1] <;> omega
theorem DownTo.pos {h : H} {ps : List PayS} {n : Int → Int} (d : DownTo h ps n) : 0 ≤ all4 n := by
 have := d.size 0 (by omega)
 have := d.size 1 (by omega)
 have := d.size 2 (by omega)
 have := d.size 3 (by omega)
 unfold all4; omega
theorem movesTo_core (h : H) (ps : List PayS) (n : Int → Int) (b : Int) (k : Nat) : okBank (movesTo h.core ps n k) b = okBank (movesTo h ps n k) b := by
 have hm : ∀ (xs : List Int) (c : Int) (x y : H), x.core = y.core → (moveQ ps c x xs).core = (moveQ ps c y xs).core := by
   intro xs
   induction xs with
   | nil => intro c x y e; exact e
   | cons i r ih =>
     intro c x y e
     simp only [moveQ]
     cases ps[i.toNat]? with
     | none => exact ih c x y e
     | some p => exact ih c _ _ (by rw [core_move, core_move, e])
 have : ∀ k, (movesTo h.core ps n k).core = (movesTo h ps n k).core := by
   intro k
   induction k with
   | zero => rfl
   | succ k ih => exact hm _ _ _ _ ih
 have e := this k
 have e1 : ∀ x : H, okBank x.core b = okBank x b := fun _ => rfl
 rw [← e1, e, e1]
theorem un_stop {ps : List PayS} {m : Int → Int} {b j : Nat} (h : m b ≤ j) : unXs ps m b j = upTo ps m (b + 1) := by
 unfold unXs
 rw [List.take_of_length_le (by unfold firsts; rw [List.length_take]; omega)]
 rfl
theorem young_more {w : World} {F F' : Addr → Value → Prop} (h : More F F') : More (Young w F) (Young w F') := fun a v hy => ⟨h a v hy.1, hy.2⟩
def OfX (ps : List PayS) (b : Int) : (Addr → Value → Prop) → Value → Prop := fun F v => ∃ ws a c, v = .slice a ws.length c ∧ ws.length ≤ c ∧ IntsAt F a ws ∧ (SeqsApart ps → ws = queueM ps b)
theorem ofX_mono (ps : List PayS) (b : Int) : Mono (OfX ps b) := by
 rintro F F' v hm ⟨ws, a, c, h1, h2, h3, h4⟩
 exact ⟨ws, a, c, h1, h2, h3.mono hm, h4⟩
theorem ofX_list {ps : List PayS} {b : Int} {F : Addr → Value → Prop} {e : Nat} {v : Value} {E : List (Nat × Obj)} (hk : Knows F E) (h : ∃ ws, ListE e 1 v ws.length (ws.map I) E ∧ (SeqsApart ps → ws = queueM ps b)) : OfX ps b F v := by
 obtain ⟨ws, h1, h2⟩ := h
 obtain ⟨a, c, h3, h4, h5⟩ := room_of_list h1 hk
 exact ⟨ws, a, c, h3, h4, h5, h2⟩
structure QG where
 k : Nat
 F : Addr → Value → Prop
 q : Int → SlS
theorem left_eqB {h : H} {b : Int} (hb : 0 ≤ b ∧ b < 4) : leftM h b = wr (h.has b + h.cred b) := by
 have : isBankB b = true := by unfold isBankB; rw [within_iff]; omega
 simp [leftM, this]
theorem net_eqB {h : H} {b t : Int} (hb : 0 ≤ b ∧ b < 4) (ht : 0 ≤ t ∧ t < 4) : netM h b t = wr (h.sent b t - h.sent t b) := by
 have h1 : isBankB b = true := by unfold isBankB; rw [within_iff]; omega
 have h2 : isBankB t = true := by unfold isBankB; rw [within_iff]; omega
 simp [netM, h1, h2]
theorem H.ex_limrow (h : H) {i : Int} (hi : 0 ≤ i ∧ i < 4) : h.cells.extract (0 + 24 + i.toNat * 4) (0 + 24 + i.toNat * 4 + 4) = rowA (h.lim i) := extq _ _ (by omega) (fun j hj => by
 have h1 : ((i.toNat : Nat) : Int) = i := by omega
 have e1 : (0 + 24 + i.toNat * 4 + j - 24) / 4 = i.toNat := by omega
 have e2 : (0 + 24 + i.toNat * 4 + j - 24) % 4 = j := by omega
 simp only [H.cell, matC, rowC, if_neg (show ¬ 0 + 24 + i.toNat * 4 + j < 8 by omega), if_neg (show ¬ 0 + 24 + i.toNat * 4 + j < 24 by omega), if_pos (show 0 + 24 + i.toNat * 4 + j < 40 by omega), e1, e2, h1])
theorem n_doneII {P : Program} {f : Nat → Value} {w0 : World} {F : Addr → Value → Prop} {L : List (Nat × Obj)} {fn : Func} {n t t2 : Nat} {v : Value} (hr : fn.results = #[.tmp t, .tmp t2]) (ht : t < n) (ht2 : t2 < n) (hv : .tuple #[f t, f t2] = v) :
   nC (retQ P fn n (fun v' w' => v' = v ∧ Bel w0.heap.size w0 w')) .ret f (Has w0 F L) := fun w hw => by
 refine ⟨.tuple #[f t, f t2], ?_, hv, hw.1⟩
 have e : (Fa n f).tmps[t]?.getD undef = f t := by simp [Fa, ht]
 have e2 : (Fa n f).tmps[t2]?.getD undef = f t2 := by simp [Fa, ht2]
 simp [results, hr, e, e2]
end Go.Proofs.Ytmkboljfbmlebac
