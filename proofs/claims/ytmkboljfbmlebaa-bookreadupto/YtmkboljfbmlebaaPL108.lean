/- What bookReadUpto_holds stands on, part 8: each part says what it proves. No condition beside those that it names. -/
import Derived.Test.YtmkboljfbmlebaaPL107
namespace Go.Proofs.Ytmkboljfbmlebaa
open Go.RowKit
set_option linter.unusedSimpArgs false
set_option linter.unusedVariables false
set_option maxRecDepth 100000
attribute [local irreducible] cC sC nC rC qw

set_option maxHeartbeats 1000000 in
theorem gl_books  (w : World) : Gives Try.prog 56 [] w (.bool true) := by
  refine gives_of Try.func56 rfl Try.ntmps56 (by simp) ?_
  refine r_seq (by kernel_rfl) ?_
  refine s_val (v_assign (v := .bool _) rfl) ?_
  refine s_nil ?_
  refine r_seq (by kernel_rfl) ?_
  refine s_val (v_build (vs := [(0, .int .i64 _), (1, .int .i64 _), (4, .int .i64 _)]) (cs := bAct.cells) rfl (by kernel_rfl)) ?_
  refine s_call (by kernel_rfl) (fun w hw => g_Frame bAct w) ?_
  refine s_val (v_move (v := .tuple _) rfl) ?_
  refine s_val (v_extract rfl rfl) ?_
  refine s_val (v_extract rfl rfl) ?_
  refine s_val (v_assign (v := S _) rfl) ?_
  refine s_val (v_assign (v := .int .i64 _) rfl) ?_
  refine s_nil ?_
  rw [bFrame]
  refine r_seq (by kernel_rfl) ?_
  refine s_val (v_move (v := S _) rfl) ?_
  refine s_val (v_move (v := S _) rfl) ?_
  refine s_val (v_strAdd rfl rfl (by rw [bLen]; decide)) ?_
  refine s_val (v_strAdd (b := [120]) rfl rfl (by rw [List.length_append, bLen]; decide)) ?_
  refine s_callG (by kernel_rfl) (readF_mono _) (fun w hw => g_Read (bText) w bByt (by simp only [bText, List.length_append, bLen, List.length_cons, List.length_nil]; decide)) (fun F15 v15 hF15 hR15 => ?_)
  obtain ⟨v1, rfl, hA15⟩ := hR15
  obtain ⟨a15, c15, rfl, ia15⟩ := hA15.at
  replace ia15 := ia15.mono (more_young _ _)
  refine s_val (v_move (v := .tuple _) rfl) ?_
  refine s_val (v_extract rfl rfl) ?_
  refine s_val (v_extract rfl rfl) ?_
  refine s_val (v_assign (v := .slice _ _ _) rfl) ?_
  refine s_val (v_assign (v := .int .i64 _) rfl) ?_
  refine s_nil ?_
  rw [bRead] at ia15
  obtain ⟨bb, bo, x, ha, hx, hc⟩ := ia15.get (j := 1) (by decide)
  obtain rfl : bAct = x := by simpa using hx
  refine r_seq (by kernel_rfl) ?_
  refine s_val (v_move (v := .int .i64 _) rfl) ?_
  refine s_val (v_eql (k := .i64) rfl rfl) ?_
  refine s_val (v_move (v := .bool _) rfl) ?_
  refine s_want rfl rfl rfl ?_
  refine s_val (v_move (v := .slice _ _ _) rfl) ?_
  refine s_want rfl rfl rfl ?_
  refine s_val (v_lenS (T := 58) (m := 5) (by kernel_rfl) rfl rfl) ?_
  refine s_want rfl rfl rfl ?_
  refine s_val (v_eql (k := .i64) rfl rfl) ?_
  refine s_val (v_pickT (v := .bool _) rfl rfl rfl) ?_
  refine s_val (v_move (v := .bool _) rfl) ?_
  refine s_want rfl rfl (decide_eq_true (by rw [bRead]; rfl)) ?_
  refine s_val (v_move (v := .int .i64 _) rfl) ?_
  refine s_want rfl rfl (decide_eq_true (by rw [bRead]; rfl)) ?_
  refine s_val (v_move (v := S _) rfl) ?_
  refine s_want rfl rfl (decide_eq_true (by rw [bRead]; rfl)) ?_
  refine s_val (v_strLen (by kernel_rfl) rfl rfl) ?_
  refine s_want rfl rfl (decide_eq_true (by rw [bRead]; rfl)) ?_
  refine s_val (v_mul rfl rfl (by rw [bLen]; decide)) ?_
  refine s_want rfl rfl (decide_eq_true (by rw [bRead]; rfl)) ?_
  refine s_val (v_eql (k := .i64) rfl rfl) ?_
  refine s_val (v_pickT (v := .bool _) rfl (decide_eq_true (by rw [bRead]; rfl)) rfl) ?_
  refine s_val (v_move (v := .bool _) rfl) ?_
  refine s_want rfl rfl (decide_eq_true bBytes) ?_
  refine s_val (v_move (v := .slice _ _ _) rfl) ?_
  refine s_want rfl rfl (decide_eq_true bBytes) ?_
  refine s_val (v_idxS (size := 5) (k := .i64) (by kernel_rfl) (congrArg (fun a => Value.slice a (readM bText).length c15) ha) rfl ⟨by decide, by rw [bRead]; decide⟩) ?_
  refine s_want rfl rfl (decide_eq_true bBytes) ?_
  refine s_val (v_field (fo := 4) (by kernel_rfl) rfl) ?_
  refine s_want rfl rfl (decide_eq_true bBytes) ?_
  refine s_val (v_load1o (v := I 100) (by kernel_rfl) rfl (by simpa using hc 4 (I 100) rfl)) ?_
  refine s_want rfl rfl (decide_eq_true bBytes) ?_
  refine s_val (v_eql (k := .i64) rfl rfl) ?_
  refine s_val (v_pickT (v := .bool _) rfl (decide_eq_true bBytes) rfl) ?_
  refine s_val (v_assign (v := .bool _) rfl) ?_
  refine s_nil ?_
  refine c_ret ?_
  refine n_done rfl (by decide) (Eq.trans (b := .bool _) rfl (congrArg Value.bool ?_))
  rfl

set_option maxHeartbeats 1000000 in
theorem gk_books  (w : World) : Gives Try.prog 57 [] w (.bool true) := by
  refine gives_of Try.func57 rfl Try.ntmps57 (by simp) ?_
  refine r_seq (by kernel_rfl) ?_
  refine s_val (v_assign (v := .bool _) rfl) ?_
  refine s_nil ?_
  refine r_seq (by kernel_rfl) ?_
  refine s_val (v_build (vs := [(0, .int .i64 _), (1, .int .i64 _), (4, .int .i64 _)]) (cs := bAct.cells) rfl (by kernel_rfl)) ?_
  refine s_call (by kernel_rfl) (fun w hw => g_Frame bAct w) ?_
  refine s_val (v_move (v := .tuple _) rfl) ?_
  refine s_val (v_extract rfl rfl) ?_
  refine s_val (v_extract rfl rfl) ?_
  refine s_val (v_assign (v := S _) rfl) ?_
  refine s_val (v_assign (v := .int .i64 _) rfl) ?_
  refine s_nil ?_
  rw [bFrame]
  refine r_seq (by kernel_rfl) ?_
  refine s_val (v_move (v := S _) rfl) ?_
  refine s_val (v_move (v := S _) rfl) ?_
  refine s_val (v_strAdd rfl rfl (by rw [bLen]; decide)) ?_
  refine s_val (v_strAdd (b := [120]) rfl rfl (by rw [List.length_append, bLen]; decide)) ?_
  refine s_callG (by kernel_rfl) (readF_mono _) (fun w hw => g_Read (bText) w bByt (by simp only [bText, List.length_append, bLen, List.length_cons, List.length_nil]; decide)) (fun F15 v15 hF15 hR15 => ?_)
  obtain ⟨v1, rfl, hA15⟩ := hR15
  obtain ⟨a15, c15, rfl, ia15⟩ := hA15.at
  replace ia15 := ia15.mono (more_young _ _)
  refine s_val (v_move (v := .tuple _) rfl) ?_
  refine s_val (v_extract rfl rfl) ?_
  refine s_val (v_extract rfl rfl) ?_
  refine s_val (v_assign (v := .slice _ _ _) rfl) ?_
  refine s_val (v_assign (v := .int .i64 _) rfl) ?_
  refine s_nil ?_
  rw [bRead] at ia15
  obtain ⟨bb, bo, x, ha, hx, hc⟩ := ia15.get (j := 1) (by decide)
  obtain rfl : bAct = x := by simpa using hx
  refine r_seq (by kernel_rfl) ?_
  refine s_val (v_move (v := .int .i64 _) rfl) ?_
  refine s_val (v_eql (k := .i64) rfl rfl) ?_
  refine s_val (v_move (v := .bool _) rfl) ?_
  refine s_want rfl rfl rfl ?_
  refine s_val (v_move (v := .slice _ _ _) rfl) ?_
  refine s_want rfl rfl rfl ?_
  refine s_val (v_lenS (T := 58) (m := 5) (by kernel_rfl) rfl rfl) ?_
  refine s_want rfl rfl rfl ?_
  refine s_val (v_eql (k := .i64) rfl rfl) ?_
  refine s_val (v_pickT (v := .bool _) rfl rfl rfl) ?_
  refine s_val (v_move (v := .bool _) rfl) ?_
  refine s_want rfl rfl (decide_eq_true (by rw [bRead]; rfl)) ?_
  refine s_val (v_move (v := .int .i64 _) rfl) ?_
  refine s_want rfl rfl (decide_eq_true (by rw [bRead]; rfl)) ?_
  refine s_val (v_move (v := S _) rfl) ?_
  refine s_want rfl rfl (decide_eq_true (by rw [bRead]; rfl)) ?_
  refine s_val (v_strLen (by kernel_rfl) rfl rfl) ?_
  refine s_want rfl rfl (decide_eq_true (by rw [bRead]; rfl)) ?_
  refine s_val (v_mul rfl rfl (by rw [bLen]; decide)) ?_
  refine s_want rfl rfl (decide_eq_true (by rw [bRead]; rfl)) ?_
  refine s_val (v_eql (k := .i64) rfl rfl) ?_
  refine s_val (v_pickT (v := .bool _) rfl (decide_eq_true (by rw [bRead]; rfl)) rfl) ?_
  refine s_val (v_move (v := .bool _) rfl) ?_
  refine s_want rfl rfl (decide_eq_true bBytes) ?_
  refine s_val (v_move (v := .slice _ _ _) rfl) ?_
  refine s_want rfl rfl (decide_eq_true bBytes) ?_
  refine s_val (v_idxS (size := 5) (k := .i64) (by kernel_rfl) (congrArg (fun a => Value.slice a (readM bText).length c15) ha) rfl ⟨by decide, by rw [bRead]; decide⟩) ?_
  refine s_want rfl rfl (decide_eq_true bBytes) ?_
  refine s_val (v_field (fo := 4) (by kernel_rfl) rfl) ?_
  refine s_want rfl rfl (decide_eq_true bBytes) ?_
  refine s_val (v_load1o (v := I 100) (by kernel_rfl) rfl (by simpa using hc 4 (I 100) rfl)) ?_
  refine s_want rfl rfl (decide_eq_true bBytes) ?_
  refine s_val (v_eql (k := .i64) rfl rfl) ?_
  refine s_val (v_pickT (v := .bool _) rfl (decide_eq_true bBytes) rfl) ?_
  refine s_val (v_assign (v := .bool _) rfl) ?_
  refine s_nil ?_
  refine c_ret ?_
  refine n_done rfl (by decide) (Eq.trans (b := .bool _) rfl (congrArg Value.bool ?_))
  rfl

theorem gl_sameActs (a1 a2 : Option Addr) (p1 p2 : Nat) (xs ys : List ActS) (w : World) (hx : ActsAt (At w) a1 xs) (hy : ActsAt (At w) a2 ys) (hb : xs.length ≤ 9223372036854775807) : Gives Try.prog 55 [.slice a1 xs.length p1, .slice a2 ys.length p2] w (.bool (decide (xs = ys))) := by
  refine gives_of Try.func55 rfl Try.ntmps55 (by simp) ?_
  refine r_seq (by kernel_rfl) ?_
  refine s_val (v_assign (v := .bool _) rfl) ?_
  refine s_nil ?_
  refine c_seq ?_
  refine r_seq (by kernel_rfl) ?_
  refine s_val (v_move (v := .slice _ _ _) rfl) ?_
  refine s_val (v_lenS (T := 58) (m := 5) (by kernel_rfl) rfl rfl) ?_
  refine s_val (v_move (v := .slice _ _ _) rfl) ?_
  refine s_val (v_lenS (T := 58) (m := 5) (by kernel_rfl) rfl rfl) ?_
  refine s_val (v_neq (k := .i64) rfl rfl) ?_
  refine s_nil ?_
  refine c_condN rfl rfl (fun h10 => ?_) (fun h10 => ?_)
  · refine r_seq (by kernel_rfl) ?_
    refine s_val (v_assign (v := .bool _) rfl) ?_
    refine s_nil ?_
    refine c_ret ?_
    refine n_ret ?_
    refine n_done rfl (by decide) (Eq.trans (b := .bool _) rfl (congrArg Value.bool ?_))
    exact (decide_eq_false (acts_len (of_decide_eq_false h10))).symm
  refine c_skip ?_
  refine n_then ?_
  refine c_seq ?_
  refine r_seq (by kernel_rfl) ?_
  refine s_val (v_move (v := .slice _ _ _) rfl) ?_
  refine s_val (v_lenS (T := 58) (m := 5) (by kernel_rfl) rfl rfl) ?_
  refine s_val (v_move (v := .int .i64 _) rfl) ?_
  refine s_nil ?_
  refine c_block ?_
  refine c_loop (σ := Nat) (fun (j : Nat) f => ∃ g, (j ≤ xs.length ∧ xs.take j = ys.take j) ∧ f = (upd (upd (upd (upd g 0 (.slice a1 xs.length p1)) 1 (.slice a2 ys.length p2)) 12 (I xs.length)) 13 (I j))) (fun (j : Nat) => Has w (At w) []) (fun (j : Nat) => xs.length - j) 0 ⟨_, ⟨Nat.zero_le _, rfl⟩, live4 rfl rfl rfl rfl⟩ (fun w hw => hw) ?_
  rintro j _ ⟨g, ⟨hjl, hinv⟩, rfl⟩
  refine r_seq (by kernel_rfl) ?_
  refine s_val (v_lss (k := .i64) rfl rfl) ?_
  refine s_nil ?_
  refine c_seq ?_
  refine c_condR rfl rfl (fun h14 => ?_) (fun h14 => ?_)
  · refine c_exit ?_
    refine n_exit ?_
    refine n_exit ?_
    refine n_bhere ?_
    refine n_then ?_
    refine r_seq (by kernel_rfl) ?_
    refine s_val (v_assign (v := .bool _) rfl) ?_
    refine s_nil ?_
    refine c_ret ?_
    refine n_done rfl (by decide) (Eq.trans (b := .bool _) rfl (congrArg Value.bool ?_))
    exact (decide_eq_true (acts_all (of_decide_eq_true h10) hinv (of_decide_eq_false h14))).symm
  have hj0 := of_decide_eq_true h14
  have hll := of_decide_eq_true h10
  obtain ⟨b, o, x, ha1, hxj, hcx⟩ := hx.get (j := j) (by omega)
  obtain ⟨b', o', y, ha2, hyj, hcy⟩ := hy.get (j := j) (by omega)
  refine c_skip ?_
  refine n_then ?_
  refine c_seq ?_
  refine c_block ?_
  refine r_seq (by kernel_rfl) ?_
  refine s_val (v_move (v := .int .i64 _) rfl) ?_
  refine s_val (v_assign (v := .int .i64 _) rfl) ?_
  refine s_nil ?_
  refine d_seq (by kernel_rfl) (by kernel_rfl) (fun w hw => hw.drew) (by kernel_rfl) ?_
  refine q_val (v_move (v := .slice _ _ _) rfl) ?_
  refine q_val (v_move (v := .int .i64 _) rfl) ?_
  refine q_val (v_idxS (size := 5) (k := .i64) (by kernel_rfl) (congrArg (fun a => Value.slice a xs.length p1) ha1) rfl ⟨by omega, by omega⟩) ?_
  refine q_val (v_loadNo (cs := x.cells) (m := 5) (by kernel_rfl) rfl rfl (by simpa using hcx)) ?_
  refine q_val (v_move (v := .slice _ _ _) rfl) ?_
  refine q_val (v_move (v := .int .i64 _) rfl) ?_
  refine q_val (v_idxS (size := 5) (k := .i64) (by kernel_rfl) (congrArg (fun a => Value.slice a ys.length p2) ha2) rfl ⟨by omega, by omega⟩) ?_
  refine q_val (v_loadNo (cs := y.cells) (m := 5) (by kernel_rfl) rfl rfl (by simpa using hcy)) ?_
  refine q_val (v_neqFlat (n := 5) _ _ (by kernel_rfl) rfl rfl (ActS.cells_list _) (ActS.cells_list _) rfl rfl) ?_
  refine q_nil ?_
  refine c_condNR rfl rfl (fun h24 => ?_) (fun h24 => ?_)
  · refine c_skip ?_
    refine n_bnormal ?_
    refine n_then ?_
    refine r_list (by kernel_rfl) ?_
    refine s_val (v_add rfl rfl (by omega)) ?_
    refine s_val (v_move (v := .int .i64 _) rfl) ?_
    refine s_end ?_
    refine n_round (j + 1) ⟨_, ⟨by omega, acts_step hinv hxj hyj (of_decide_eq_true h24)⟩, live4 rfl rfl rfl rfl⟩ (fun _ hw => hw) (by omega)
  refine r_seq (by kernel_rfl) ?_
  refine s_val (v_assign (v := .bool _) rfl) ?_
  refine s_nil ?_
  refine c_ret ?_
  refine n_bret ?_
  refine n_ret ?_
  refine n_ret ?_
  refine n_bret ?_
  refine n_ret ?_
  refine n_done rfl (by decide) (Eq.trans (b := .bool _) rfl (congrArg Value.bool ?_))
  exact (decide_eq_false (acts_bad hxj hyj (of_decide_eq_false h24))).symm

end Go.Proofs.Ytmkboljfbmlebaa
