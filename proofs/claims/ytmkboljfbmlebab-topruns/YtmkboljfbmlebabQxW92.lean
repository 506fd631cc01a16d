/- The law TopRuns. Condition: a bank that keeps its contracts. -/
import Derived.Test.YtmkboljfbmlebabQ13
import Derived.Test.YtmkboljfbmlebabQxW86
namespace Go.Proofs.Ytmkboljfbmlebab
open Go.RowKit
set_option linter.unusedSimpArgs false
set_option linter.unusedVariables false
set_option maxRecDepth 100000
attribute [local irreducible] cC sC nC rC qw
set_option maxHeartbeats 1000000 in
theorem law_TopRuns (bk : BankOk) (rn : ∀ (w : World) (a : Option Addr) (c : Nat) (l : List ActS), ActsAt (At w) a l → l.length ≤ 200 → GivesF Try.prog 38 [.slice a l.length c] w (RunF l)) (a0 : Option Addr) (c0 : Nat) (xs : List ActS) (k0 : Int) (w : World) (hx : ActsAt (At w) a0 xs) (hlx : xs.length ≤ 9223372036854775807) (hc0 : xs.length ≤ c0) : Gives Try.prog 13 [.slice a0 xs.length c0, I k0] w (.bool true) := by
 refine gives_of Try.func13 rfl Try.ntmps13 (by simp) ?_
 refine r_seq (by kernel_rfl) ?_
 refine s_val (v_assign (v := .bool _) rfl) ?_
 refine s_nil ?_
 refine c_seq ?_
 refine r_seq (by kernel_rfl) ?_
 refine s_call (by kernel_rfl) (fun w hw => g_alive bk w) ?_
 refine s_val (v_not rfl) ?_
 refine s_val (v_move (v := .bool _) rfl) ?_
 refine s_want rfl rfl (congrArg not rfl) ?_
 refine s_val (v_move (v := .slice _ _ _) rfl) ?_
 refine s_want rfl rfl (congrArg not rfl) ?_
 refine s_val (v_lenS (T := 44) (m := 5) (by kernel_rfl) rfl rfl) ?_
 refine s_want rfl rfl (congrArg not rfl) ?_
 refine s_val (v_gtr (k := .i64) rfl rfl) ?_
 refine s_val (v_pickF (v := .bool _) rfl (congrArg not rfl) rfl) ?_
 refine s_nil ?_
 refine c_cond rfl rfl (fun h16 => ?_) (fun h16 => ?_)
 · refine r_seq (by kernel_rfl) ?_
   refine s_call (by kernel_rfl) (fun w hw => g_alive bk w) ?_
   refine s_val (v_assign (v := .bool _) rfl) ?_
   refine s_nil ?_
   refine c_ret ?_
   refine n_ret ?_
   refine n_done rfl (by decide) (Eq.trans (b := .bool _) rfl (congrArg Value.bool ?_))
   rfl
 refine c_skip ?_
 refine n_then ?_
 have hl80 := of_decide_eq_false h16
 have hkr := rem_range (k := k0) (n := xs.length) (by omega)
 refine r_seq (by kernel_rfl) ?_
 refine s_val (v_move (v := .int .i64 _) rfl) ?_
 refine s_val (v_move (v := .slice _ _ _) rfl) ?_
 refine s_val (v_lenS (T := 44) (m := 5) (by kernel_rfl) rfl rfl) ?_
 refine s_val (v_add rfl rfl (by omega)) ?_
 refine s_val (v_rem rfl rfl (by omega) rfl) ?_
 refine s_val (v_move (v := .slice _ _ _) rfl) ?_
 refine s_val (v_lenS (T := 44) (m := 5) (by kernel_rfl) rfl rfl) ?_
 refine s_val (v_add rfl rfl (by omega)) ?_
 refine s_val (v_add rfl rfl (by omega)) ?_
 refine s_val (v_move (v := .slice _ _ _) rfl) ?_
 refine s_val (v_lenS (T := 44) (m := 5) (by kernel_rfl) rfl rfl) ?_
 refine s_val (v_add rfl rfl (by omega)) ?_
 refine s_val (v_rem rfl rfl (by omega) rfl) ?_
 refine s_val (v_assign (v := .int .i64 _) rfl) ?_
 refine s_nil ?_
 refine r_seq (by kernel_rfl) ?_
 refine s_val (v_move (v := .slice _ _ _) rfl) ?_
 refine s_copyActs (e := 23) (by_ := 40) (zs := xs) (by kernel_rfl) rfl rfl rfl rfl rfl hx (by omega) (fun v33 E33 hE33 => ?_)
 obtain ⟨a33, c33, rfl⟩ := hE33.shape
 refine s_callG (by kernel_rfl) (runF_mono _) (fun w hw => rn w a33 c33 xs (list_acts hE33 (at_known hw (fun _ hq => (List.mem_append_left _ hq)))) (by omega)) (fun F34 v34 hF34 hR34 => ?_)
 obtain ⟨a34, c34, rfl, hra34⟩ := hR34
 replace hra34 := hra34.mono (more_young _ _)
 refine s_val (v_move (v := .tuple _) rfl) ?_
 refine s_val (v_extract rfl rfl) ?_
 refine s_val (v_extract rfl rfl) ?_
 refine s_val (v_assign (v := .slice _ _ _) rfl) ?_
 refine s_val (v_assign (v := .int .i64 _) rfl) ?_
 refine s_nil ?_
 refine r_seq (by kernel_rfl) ?_
 refine s_val (v_move (v := .slice _ _ _) rfl) ?_
 refine s_val (v_move (v := .int .i64 _) rfl) ?_
 refine s_val (v_sliceHi (m := 5) (by kernel_rfl) rfl rfl ⟨by omega, by omega⟩) ?_
 refine s_copyActs (e := 23) (by_ := 40) (zs := (xs.take ((k0.tmod ((xs.length : Int) + 1) + xs.length + 1).tmod ((xs.length : Int) + 1)).toNat)) (by kernel_rfl) rfl rfl rfl rfl (by rw [List.length_take]; omega) ((hx.mono hF34).take _) (by omega) (fun v41 E41 hE41 => ?_)
 obtain ⟨a41, c41, rfl⟩ := hE41.shape
 refine s_callG (by kernel_rfl) (runF_mono _) (fun w hw => rn w a41 c41 (xs.take ((k0.tmod ((xs.length : Int) + 1) + xs.length + 1).tmod ((xs.length : Int) + 1)).toNat) (list_acts hE41 (at_known hw (fun _ hq => (List.mem_append_left _ hq)))) (by rw [List.length_take]; omega)) (fun F42 v42 hF42 hR42 => ?_)
 obtain ⟨a42, c42, rfl, hra42⟩ := hR42
 replace hra42 := hra42.mono (more_young _ _)
 refine s_val (v_move (v := .tuple _) rfl) ?_
 refine s_val (v_extract rfl rfl) ?_
 refine s_val (v_extract rfl rfl) ?_
 refine s_val (v_assign (v := .slice _ _ _) rfl) ?_
 refine s_val (v_assign (v := .int .i64 _) rfl) ?_
 refine s_nil ?_
 refine c_seq ?_
 refine r_seq (by kernel_rfl) ?_
 refine s_val (v_move (v := .int .i64 _) rfl) ?_
 refine s_val (v_neq (k := .i64) rfl rfl) ?_
 refine s_val (v_move (v := .bool _) rfl) ?_
 refine s_want rfl rfl rfl ?_
 refine s_val (v_move (v := .int .i64 _) rfl) ?_
 refine s_want rfl rfl rfl ?_
 refine s_val (v_neq (k := .i64) rfl rfl) ?_
 refine s_val (v_pickF (v := .bool _) rfl rfl rfl) ?_
 refine s_val (v_move (v := .bool _) rfl) ?_
 refine s_want rfl rfl rfl ?_
 refine s_val (v_move (v := .slice _ _ _) rfl) ?_
 refine s_want rfl rfl rfl ?_
 refine s_val (v_lenS (T := 61) (m := 3) (by kernel_rfl) rfl rfl) ?_
 refine s_want rfl rfl rfl ?_
 refine s_val (v_move (v := .slice _ _ _) rfl) ?_
 refine s_want rfl rfl rfl ?_
 refine s_val (v_lenS (T := 44) (m := 5) (by kernel_rfl) rfl rfl) ?_
 refine s_want rfl rfl rfl ?_
 refine s_val (v_neq (k := .i64) rfl rfl) ?_
 refine s_val (v_pickF (v := .bool _) rfl rfl rfl) ?_
 refine s_val (v_move (v := .bool _) rfl) ?_
 refine s_want rfl rfl (congrArg not (decide_eq_true rfl)) ?_
 refine s_val (v_move (v := .slice _ _ _) rfl) ?_
 refine s_want rfl rfl (congrArg not (decide_eq_true rfl)) ?_
 refine s_val (v_lenS (T := 61) (m := 3) (by kernel_rfl) rfl rfl) ?_
 refine s_want rfl rfl (congrArg not (decide_eq_true rfl)) ?_
 refine s_val (v_move (v := .int .i64 _) rfl) ?_
 refine s_want rfl rfl (congrArg not (decide_eq_true rfl)) ?_
 refine s_val (v_neq (k := .i64) rfl rfl) ?_
 refine s_val (v_pickF (v := .bool _) rfl (congrArg not (decide_eq_true rfl)) rfl) ?_
 refine s_nil ?_
 refine c_condFh rfl rfl (congrArg not (decide_eq_true (by rw [List.length_take]; omega))) ?_
 refine c_skip ?_
 refine n_then ?_
 refine c_seq ?_
 refine r_seq (by kernel_rfl) ?_
 refine s_val (v_assign (v := .int .i64 _) rfl) ?_
 refine s_nil ?_
 refine c_block ?_
 refine c_loop (σ := Nat) (fun (j : Nat) f => ∃ g, (j ≤ ((k0.tmod ((xs.length : Int) + 1) + xs.length + 1).tmod ((xs.length : Int) + 1)).toNat) ∧ f = (upd (upd (upd (upd g 1 (I ((k0.tmod ((xs.length : Int) + 1) + xs.length + 1).tmod ((xs.length : Int) + 1)))) 5 (.slice a34 xs.length c34)) 7 (.slice a42 (xs.take ((k0.tmod ((xs.length : Int) + 1) + xs.length + 1).tmod ((xs.length : Int) + 1)).toNat).length c42)) 9 (I j))) (fun (j : Nat) => Has w F42 (E41 ++ (E33 ++ []))) (fun (j : Nat) => ((k0.tmod ((xs.length : Int) + 1) + xs.length + 1).tmod ((xs.length : Int) + 1)).toNat - j) 0 ⟨_, Nat.zero_le _, live4 rfl rfl rfl rfl⟩ (fun w hw => hw) ?_
 rintro j _ ⟨g, hjl, rfl⟩
 refine c_seq ?_
 refine r_seq (by kernel_rfl) ?_
 refine s_val (v_move (v := .int .i64 _) rfl) ?_
 refine s_val (v_move (v := .int .i64 _) rfl) ?_
 refine s_val (v_lss (k := .i64) rfl rfl) ?_
 refine s_nil ?_
 refine c_condR rfl rfl (fun h66 => ?_) (fun h66 => ?_)
 · refine c_exit ?_
   refine n_exit ?_
   refine n_exit ?_
   refine n_bhere ?_
   refine n_then ?_
   refine r_seq (by kernel_rfl) ?_
   refine s_val (v_assign (v := .bool _) rfl) ?_
   refine s_nil ?_
   refine c_ret ?_
   refine n_done rfl (by decide) (Eq.trans (b := .bool _) rfl (congrArg Value.bool ?_))
   rfl
 have hj0 := of_decide_eq_true h66
 have hzl : (xs.take ((k0.tmod ((xs.length : Int) + 1) + xs.length + 1).tmod ((xs.length : Int) + 1)).toNat).length = ((k0.tmod ((xs.length : Int) + 1) + xs.length + 1).tmod ((xs.length : Int) + 1)).toNat := by rw [List.length_take]; omega
 obtain ⟨b1, o1, r1, d1, e1, hq1, hr1, hi1, hf1⟩ := (hra34.mono hF42).get (j := j) (by rw [reps_len]; omega)
 obtain ⟨b2, o2, r2, d2, e2, hq2, hr2, hi2, hf2⟩ := hra42.get (j := j) (by rw [reps_len, List.length_take]; omega)
 have hrr : r2 = r1 := by
   rw [reps_take, List.getElem?_take, if_pos (by omega), hr1] at hr2
   simpa using hr2.symm
 subst hrr
 have hdl := reps_done bgood_new hr1
 refine c_skip ?_
 refine n_then ?_
 refine c_seq ?_
 refine c_block ?_
 refine d_seq (by kernel_rfl) (by kernel_rfl) (fun w hw => hw.drew) (by kernel_rfl) ?_
 refine q_val (v_move (v := .slice _ _ _) rfl) ?_
 refine q_val (v_move (v := .int .i64 _) rfl) ?_
 refine q_val (v_idxS (size := 3) (k := .i64) (by kernel_rfl) (congrArg (fun a => Value.slice a xs.length c34) hq1) rfl ⟨by omega, by omega⟩) ?_
 refine q_val (v_loadNo (cs := repC r2.code r2.n (.slice d1 r2.done.length e1)) (m := 3) (by kernel_rfl) rfl rfl (fun k v hv => hf1 k v hv)) ?_
 refine q_val (v_move (v := .slice _ _ _) rfl) ?_
 refine q_val (v_move (v := .int .i64 _) rfl) ?_
 refine q_val (v_idxS (size := 3) (k := .i64) (by kernel_rfl) (congrArg (fun a => Value.slice a (xs.take ((k0.tmod ((xs.length : Int) + 1) + xs.length + 1).tmod ((xs.length : Int) + 1)).toNat).length c42) hq2) rfl ⟨by omega, by omega⟩) ?_
 refine q_val (v_loadNo (cs := repC r2.code r2.n (.slice d2 r2.done.length e2)) (m := 3) (by kernel_rfl) rfl rfl (fun k v hv => hf2 k v hv)) ?_
 refine q_call (by kernel_rfl) (fun w hw => gt_sameReply _ _ _ _ _ _ _ _ _ _ w (hi1.at hw) (hi2.at hw) (by omega)) ?_
 refine q_val (v_not rfl) ?_
 refine q_nil ?_
 refine c_condFh rfl rfl (congrArg not (sameRB_self _ _ _)) ?_
 refine c_skip ?_
 refine n_bnormal ?_
 refine n_then ?_
 refine r_list (by kernel_rfl) ?_
 refine s_val (v_move (v := .int .i64 _) rfl) ?_
 refine s_val (v_add rfl rfl (by omega)) ?_
 refine s_val (v_assign (v := .int .i64 _) rfl) ?_
 refine s_end ?_
 refine n_round (j + 1) ⟨_, (by omega), live4 rfl rfl rfl rfl⟩ (fun _ hw => hw) (by omega)
end Go.Proofs.Ytmkboljfbmlebab
