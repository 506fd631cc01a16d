/- The law TopBounds. Condition: a bank that keeps its contracts. -/
import Derived.Test.YtmkboljfbmlebabQ13
import Derived.Test.YtmkboljfbmlebabQxW80
namespace Go.Proofs.Ytmkboljfbmlebab
open Go.RowKit
set_option linter.unusedSimpArgs false
set_option linter.unusedVariables false
set_option maxRecDepth 100000
attribute [local irreducible] cC sC nC rC qw
set_option maxHeartbeats 1000000 in
theorem look_TopBounds (bk : BankOk) (F : Addr → Value → Prop) (s : BankS) (x : ActS) (b : Nat) (B E : List (Nat × Obj)) (a1 : Option Addr) (c1 : Nat) (bf bw : Nat) (fst : Bool) (was : H) (hg : BGood s) (hr : bk.Rep F b B (doM s x).1) (hwas : fst = false → was.core = s.c) : GivesW Try.prog 28 [.pointer (some ⟨b, 0, none⟩), .agg x.cells, repOf (doM s x).2 (.slice a1 (doM s x).2.done.length c1), .pointer (some ⟨bf, 0, none⟩), .pointer (some ⟨bw, 0, none⟩)] F (E ++ (B ++ [(bf, .cells #[.bool fst] 4 (0, 0)), (bw, .cells was.cells 41 (0, 0))])) (fun F2 v B' => v = .bool true ∧ ∃ h : H, h.core = (doM s x).1.c ∧ B' = B ++ [(bf, .cells #[.bool false] 4 (0, 0)), (bw, .cells h.cells 41 (0, 0))]) := by
 refine givesW_of Try.func28 rfl Try.ntmps28 (by simp) (fun w K => ?_)
 refine c_weak (fun w1 hw => show Has w F (E ++ (B ++ ([(bf, .cells #[.bool fst] 4 (0, 0)), (bw, .cells was.cells 41 (0, 0))] ++ K))) w1 from (by rw [← List.append_assoc, ← List.append_assoc, List.append_assoc E]; exact hw)) ?_
 have hg2 := hg.act x
 refine r_seq (by kernel_rfl) ?_
 refine s_box (v := .agg _) rfl (fun b6 => ?_)
 refine s_box (v := .agg _) rfl (fun b7 => ?_)
 refine s_val (v_assign (v := .bool _) rfl) ?_
 refine s_nil ?_
 refine r_seq (by kernel_rfl) ?_
 refine s_val (v_move (v := .pointer _) rfl) ?_
 refine s_callF (by kernel_rfl) (fun w hw => bk.house w b B _ hg2 (bk.mono hr hw.at) (lies_of hw (fun _ hq => (List.mem_cons_of_mem _ (List.mem_cons_of_mem _ (List.mem_append_right _ (List.mem_append_left _ hq))))))) (fun F15 v15 E15 hF15 hK15 hR15 => ?_)
 obtain ⟨h15, rfl, hc15, ho15⟩ := hR15
 have hp15 := ho15.known hK15
 have hlc15 := ho15.2.1
 have hl2415 : h15.pl ≤ 24 := by have := (bgood_inv hg2).1.len; have := hp15.1; omega
 refine s_alloc (z := .agg zeroH.cells) (by kernel_rfl) (fun b9 => ?_)
 refine s_storeA (m := 42) (by kernel_rfl) rfl rfl .here (H.size _) (H.size _) (H.all1 _) ?_
 refine s_nil ?_
 refine c_seq ?_
 refine r_seq (by kernel_rfl) ?_
 refine s_val (v_load1 (v := .bool _) (by kernel_rfl) rfl (.there (.there (.there (.app (.app .here))))) rfl) ?_
 refine s_val (v_not rfl) ?_
 refine s_val (v_move (v := .bool _) rfl) ?_
 refine s_splitNR (s := 18) rfl (fun h18 => ?_) (fun h18 => ?_)
 · refine s_pass rfl rfl (congrArg not h18) ?_
   refine s_pass rfl rfl (congrArg not h18) ?_
   refine s_pass rfl rfl (congrArg not h18) ?_
   refine s_val (v_pickF (v := .bool _) rfl (congrArg not h18) rfl) ?_
   refine s_nil ?_
   refine c_condFh rfl rfl rfl ?_
   refine c_skip ?_
   refine n_then ?_
   refine r_seq (by kernel_rfl) ?_
   refine s_val (v_loadA (m := 42) (by kernel_rfl) rfl .here (H.size _)) ?_
   refine s_storeA (m := 42) (by kernel_rfl) rfl rfl (.there (.there (.there (.app (.app (.there .here)))))) (H.size _) (H.size _) (H.all1 _) ?_
   refine s_store1 (v := .bool _) (by kernel_rfl) rfl rfl (.there (.there (.there (.app (.app .here))))) ⟨Nat.zero_lt_one, rfl⟩ rfl ?_
   refine s_nil ?_
   refine r_seq (by kernel_rfl) ?_
   refine s_val (v_assign (v := .bool _) rfl) ?_
   refine s_nil ?_
   refine c_ret ?_
   exact n_doneW (B' := B ++ [(bf, .cells #[.bool false] 4 (0, 0)), (bw, .cells h15.cells 41 (0, 0))]) rfl (by decide) hF15 (fun w1 hw => by rw [List.append_assoc]; exact hw.sub (List.Sublist.cons _ (List.Sublist.cons _ (List.Sublist.cons _ (List.Sublist.trans (List.Sublist.refl _) (List.sublist_append_right _ _)))))) ⟨rfl, h15, hc15, rfl⟩
 refine s_want rfl rfl (congrArg not h18) ?_
 refine s_val (v_field (fo := 0) (by kernel_rfl) rfl) ?_
 refine s_want rfl rfl (congrArg not h18) ?_
 refine s_val (v_load1 (v := .int .i64 _) (by kernel_rfl) rfl (.there (.there .here)) rfl) ?_
 refine s_want rfl rfl (congrArg not h18) ?_
 refine s_val (v_neq (k := .i64) rfl rfl) ?_
 refine s_val (v_pickT (v := .bool _) rfl (congrArg not h18) rfl) ?_
 refine s_nil ?_
 refine c_condNR rfl rfl (fun h22 => ?_) (fun h22 => ?_)
 · refine c_skip ?_
   refine n_then ?_
   refine r_seq (by kernel_rfl) ?_
   refine s_val (v_loadA (m := 42) (by kernel_rfl) rfl .here (H.size _)) ?_
   refine s_storeA (m := 42) (by kernel_rfl) rfl rfl (.there (.there (.there (.app (.app (.there .here)))))) (H.size _) (H.size _) (H.all1 _) ?_
   refine s_store1 (v := .bool _) (by kernel_rfl) rfl rfl (.there (.there (.there (.app (.app .here))))) ⟨Nat.zero_lt_one, rfl⟩ rfl ?_
   refine s_nil ?_
   refine r_seq (by kernel_rfl) ?_
   refine s_val (v_assign (v := .bool _) rfl) ?_
   refine s_nil ?_
   refine c_ret ?_
   exact n_doneW (B' := B ++ [(bf, .cells #[.bool false] 4 (0, 0)), (bw, .cells h15.cells 41 (0, 0))]) rfl (by decide) hF15 (fun w1 hw => by rw [List.append_assoc]; exact hw.sub (List.Sublist.cons _ (List.Sublist.cons _ (List.Sublist.cons _ (List.Sublist.trans (List.Sublist.refl _) (List.sublist_append_right _ _)))))) ⟨rfl, h15, hc15, rfl⟩
 have hws := hwas h18
 have hn11 := of_decide_eq_false h22
 refine r_seq (by kernel_rfl) ?_
 refine s_val (v_move (v := .int .i64 _) rfl) ?_
 refine s_nil ?_
 refine c_block ?_
 refine c_loop (σ := Nat) (fun (k : Nat) f => ∃ g, (k ≤ 4) ∧ f = (upd (upd (upd (upd g 3 (.pointer (some ⟨bf, 0, none⟩))) 4 (.pointer (some ⟨bw, 0, none⟩))) 9 (.pointer (some ⟨b9, 0, none⟩))) 23 (I k))) (fun (k : Nat) => Has w F15 ((b9, .cells h15.cells 41) :: (b7, .cells ((repC (doM s x).2.code (doM s x).2.n (.slice a1 (doM s x).2.done.length c1))) 31) :: (b6, .cells x.cells 23) :: (E ++ (B ++ ((bf, .cells #[.bool fst] 4 (0, 0)) :: (bw, .cells was.cells 41 (0, 0)) :: K))))) (fun (k : Nat) => 4 - k) 0 ⟨_, Nat.zero_le _, live4 rfl rfl rfl rfl⟩ (fun w hw => hw) ?_
 rintro k _ ⟨g, hkl, rfl⟩
 refine r_seq (by kernel_rfl) ?_
 refine s_val (v_lss (k := .i64) rfl rfl) ?_
 refine s_nil ?_
 refine c_seq ?_
 refine c_condR rfl rfl (fun h24 => ?_) (fun h24 => ?_)
 · refine c_exit ?_
   refine n_exit ?_
   refine n_exit ?_
   refine n_bhere ?_
   refine n_then ?_
   refine r_seq (by kernel_rfl) ?_
   refine s_val (v_loadA (m := 42) (by kernel_rfl) rfl .here (H.size _)) ?_
   refine s_storeA (m := 42) (by kernel_rfl) rfl rfl (.there (.there (.there (.app (.app (.there .here)))))) (H.size _) (H.size _) (H.all1 _) ?_
   refine s_store1 (v := .bool _) (by kernel_rfl) rfl rfl (.there (.there (.there (.app (.app .here))))) ⟨Nat.zero_lt_one, rfl⟩ rfl ?_
   refine s_nil ?_
   refine r_seq (by kernel_rfl) ?_
   refine s_val (v_assign (v := .bool _) rfl) ?_
   refine s_nil ?_
   refine c_ret ?_
   exact n_doneW (B' := B ++ [(bf, .cells #[.bool false] 4 (0, 0)), (bw, .cells h15.cells 41 (0, 0))]) rfl (by decide) hF15 (fun w1 hw => by rw [List.append_assoc]; exact hw.sub (List.Sublist.cons _ (List.Sublist.cons _ (List.Sublist.cons _ (List.Sublist.trans (List.Sublist.refl _) (List.sublist_append_right _ _)))))) ⟨rfl, h15, hc15, rfl⟩
 have hkk := of_decide_eq_true h24
 have hki : 0 ≤ (k : Int) ∧ (k : Int) < 4 := ⟨by omega, by omega⟩
 refine c_skip ?_
 refine n_then ?_
 refine c_seq ?_
 refine c_block ?_
 refine r_seq (by kernel_rfl) ?_
 refine s_val (v_move (v := .int .i64 _) rfl) ?_
 refine s_val (v_assign (v := .int .i64 _) rfl) ?_
 refine s_nil ?_
 refine c_seq ?_
 refine r_seq (by kernel_rfl) ?_
 refine s_val (v_loadA (m := 42) (by kernel_rfl) rfl .here (H.size _)) ?_
 refine s_val (v_move (v := .int .i64 _) rfl) ?_
 refine s_call (by kernel_rfl) (fun w hw => g_Left _ _ w) ?_
 refine s_val (v_assign (v := .int .i64 _) rfl) ?_
 refine s_nil ?_
 refine d_seq (by kernel_rfl) (by kernel_rfl) (fun w hw => hw.drew) (by kernel_rfl) ?_
 refine q_val (v_move (v := .int .i64 _) rfl) ?_
 refine q_val (v_lss (k := .i64) rfl rfl) ?_
 refine q_val (v_move (v := .bool _) rfl) ?_
 refine q_splitR (s := 31) rfl (fun h31 => ?_) (fun h31 => ?_)
 · refine q_pass rfl rfl h31 ?_
   refine q_pass rfl rfl h31 ?_
   refine q_pass rfl rfl h31 ?_
   refine q_pass rfl rfl h31 ?_
   refine q_pass rfl rfl h31 ?_
   refine q_pass rfl rfl h31 ?_
   refine q_pass rfl rfl h31 ?_
   refine q_pass rfl rfl h31 ?_
   refine q_pass rfl rfl h31 ?_
   refine q_pass rfl rfl h31 ?_
   refine q_pass rfl rfl h31 ?_
   refine q_val (v_pickF (v := .bool _) rfl h31 rfl) ?_
   refine q_val (v_move (v := .bool _) rfl) ?_
   refine q_pass (g := false) rfl rfl rfl ?_
   refine q_pass (g := false) rfl rfl rfl ?_
   refine q_pass (g := false) rfl rfl rfl ?_
   refine q_pass (g := false) rfl rfl rfl ?_
   refine q_pass (g := false) rfl rfl rfl ?_
   refine q_val (v_pickF (v := .bool _) rfl rfl rfl) ?_
   refine q_nil ?_
   refine c_condFh rfl rfl rfl ?_
   refine c_skip ?_
   refine n_then ?_
   refine r_seq (by kernel_rfl) ?_
   refine s_val (v_move (v := .int .i64 _) rfl) ?_
   refine s_nil ?_
   refine c_block ?_
   refine c_loop (σ := Nat) (fun (m : Nat) f => ∃ g, (m ≤ 4) ∧ f = (upd (upd (upd (upd (upd (upd g 3 (.pointer (some ⟨bf, 0, none⟩))) 4 (.pointer (some ⟨bw, 0, none⟩))) 9 (.pointer (some ⟨b9, 0, none⟩))) 10 (I k)) 23 (I k)) 51 (I m))) (fun (m : Nat) => Has w F15 ((b9, .cells h15.cells 41) :: (b7, .cells ((repC (doM s x).2.code (doM s x).2.n (.slice a1 (doM s x).2.done.length c1))) 31) :: (b6, .cells x.cells 23) :: (E ++ (B ++ ((bf, .cells #[.bool fst] 4 (0, 0)) :: (bw, .cells was.cells 41 (0, 0)) :: K))))) (fun (m : Nat) => 4 - m) 0 ⟨_, Nat.zero_le _, live6 rfl rfl rfl rfl rfl rfl⟩ (fun w hw => hw) ?_
   rintro m _ ⟨g, hml, rfl⟩
   refine r_seq (by kernel_rfl) ?_
   refine s_val (v_lss (k := .i64) rfl rfl) ?_
   refine s_nil ?_
   refine c_seq ?_
   refine c_condR rfl rfl (fun h52 => ?_) (fun h52 => ?_)
   · refine c_exit ?_
     refine n_exit ?_
     refine n_exit ?_
     refine n_bhere ?_
     refine n_bnormal ?_
     refine n_then ?_
     refine r_list (by kernel_rfl) ?_
     refine s_val (v_add rfl rfl (by omega)) ?_
     refine s_val (v_move (v := .int .i64 _) rfl) ?_
     refine s_end ?_
     refine n_round (k + 1) ⟨_, (by omega), live4 rfl rfl rfl rfl⟩ (fun _ hw => hw) (by omega)
   have hmm := of_decide_eq_true h52
   have hmi : 0 ≤ (m : Int) ∧ (m : Int) < 4 := ⟨by omega, by omega⟩
   refine c_skip ?_
   refine n_then ?_
   refine c_seq ?_
   refine c_block ?_
   refine r_seq (by kernel_rfl) ?_
   refine s_val (v_move (v := .int .i64 _) rfl) ?_
   refine s_val (v_assign (v := .int .i64 _) rfl) ?_
   refine s_nil ?_
   refine r_seq (by kernel_rfl) ?_
   refine s_val (v_loadA (m := 42) (by kernel_rfl) rfl .here (H.size _)) ?_
   refine s_val (v_move (v := .int .i64 _) rfl) ?_
   refine s_val (v_move (v := .int .i64 _) rfl) ?_
   refine s_call (by kernel_rfl) (fun w hw => g_Net _ _ _ w) ?_
   refine s_val (v_assign (v := .int .i64 _) rfl) ?_
   refine s_nil ?_
   refine r_seq (by kernel_rfl) ?_
   refine s_val (v_move (v := .int .i64 _) rfl) ?_
   refine s_val (v_move (v := .int .i64 _) rfl) ?_
   refine s_val (v_field (fo := 24) (by kernel_rfl) rfl) ?_
   refine s_val (v_idxA (len := 4) (size := 4) (k := .i64) (by kernel_rfl) rfl rfl (by assumption)) ?_
   refine s_val (v_idxA (len := 4) (size := 1) (k := .i64) (by kernel_rfl) rfl rfl (by assumption)) ?_
   refine s_val (v_load1 (v := .int .i64 _) (by kernel_rfl) rfl .here (H.at_lim _ (by assumption) (by assumption))) ?_
   refine s_val (v_geq (k := .i64) rfl rfl) ?_
   refine s_val (v_move (v := .bool _) rfl) ?_
   refine s_splitR (s := 65) rfl (fun h65 => ?_) (fun h65 => ?_)
   · refine s_pass rfl rfl h65 ?_
     refine s_pass rfl rfl h65 ?_
     refine s_pass rfl rfl h65 ?_
     refine s_pass rfl rfl h65 ?_
     refine s_pass rfl rfl h65 ?_
     refine s_pass rfl rfl h65 ?_
     refine s_pass rfl rfl h65 ?_
     refine s_pass rfl rfl h65 ?_
     refine s_val (v_pickF (v := .bool _) rfl h65 rfl) ?_
     refine s_val (v_move (v := .bool _) rfl) ?_
     refine s_pass (g := false) rfl rfl rfl ?_
     refine s_pass (g := false) rfl rfl rfl ?_
     refine s_pass (g := false) rfl rfl rfl ?_
     refine s_pass (g := false) rfl rfl rfl ?_
     refine s_pass (g := false) rfl rfl rfl ?_
     refine s_pass (g := false) rfl rfl rfl ?_
     refine s_val (v_pickF (v := .bool _) rfl rfl rfl) ?_
     refine s_nil ?_
     refine c_condFh rfl rfl rfl ?_
     refine c_skip ?_
     refine n_bnormal ?_
     refine n_then ?_
     refine r_list (by kernel_rfl) ?_
     refine s_val (v_add rfl rfl (by omega)) ?_
     refine s_val (v_move (v := .int .i64 _) rfl) ?_
     refine s_end ?_
     refine n_round (m + 1) ⟨_, (by omega), live6 rfl rfl rfl rfl rfl rfl⟩ (fun _ hw => hw) (by omega)
   refine s_want rfl rfl h65 ?_
   refine s_val (v_move (v := .int .i64 _) rfl) ?_
   refine s_want rfl rfl h65 ?_
   refine s_val (v_move (v := .int .i64 _) rfl) ?_
   refine s_want rfl rfl h65 ?_
   refine s_val (v_move (v := .int .i64 _) rfl) ?_
   refine s_want rfl rfl h65 ?_
   refine s_val (v_field (fo := 24) (by kernel_rfl) rfl) ?_
   refine s_want rfl rfl h65 ?_
   refine s_val (v_idxA (len := 4) (size := 4) (k := .i64) (by kernel_rfl) rfl rfl (by assumption)) ?_
   refine s_want rfl rfl h65 ?_
   refine s_val (v_idxA (len := 4) (size := 1) (k := .i64) (by kernel_rfl) rfl rfl (by assumption)) ?_
   refine s_want rfl rfl h65 ?_
   refine s_val (v_load1 (v := .int .i64 _) (by kernel_rfl) rfl .here (H.at_lim _ (by assumption) (by assumption))) ?_
   refine s_want rfl rfl h65 ?_
   refine s_val (v_gtr (k := .i64) rfl rfl) ?_
   refine s_val (v_pickT (v := .bool _) rfl h65 rfl) ?_
   refine s_val (v_move (v := .bool _) rfl) ?_
   refine s_splitR (s := 75) rfl (fun h75 => ?_) (fun h75 => ?_)
   · refine s_pass rfl rfl h75 ?_
     refine s_pass rfl rfl h75 ?_
     refine s_pass rfl rfl h75 ?_
     refine s_pass rfl rfl h75 ?_
     refine s_pass rfl rfl h75 ?_
     refine s_pass rfl rfl h75 ?_
     refine s_val (v_pickF (v := .bool _) rfl h75 rfl) ?_
     refine s_nil ?_
     refine c_condFh rfl rfl rfl ?_
     refine c_skip ?_
     refine n_bnormal ?_
     refine n_then ?_
     refine r_list (by kernel_rfl) ?_
     refine s_val (v_add rfl rfl (by omega)) ?_
     refine s_val (v_move (v := .int .i64 _) rfl) ?_
     refine s_end ?_
     refine n_round (m + 1) ⟨_, (by omega), live6 rfl rfl rfl rfl rfl rfl⟩ (fun _ hw => hw) (by omega)
   refine s_want rfl rfl h75 ?_
   refine s_val (v_move (v := .int .i64 _) rfl) ?_
   refine s_want rfl rfl h75 ?_
   refine s_val (v_loadA (m := 42) (by kernel_rfl) rfl (.there (.there (.there (.app (.app (.there .here)))))) (H.size _)) ?_
   refine s_want rfl rfl h75 ?_
   refine s_val (v_move (v := .int .i64 _) rfl) ?_
   refine s_want rfl rfl h75 ?_
   refine s_val (v_move (v := .int .i64 _) rfl) ?_
   refine s_want rfl rfl h75 ?_
   refine s_call (by kernel_rfl) (fun w hw => g_Net _ _ _ w) ?_
   refine s_want rfl rfl h75 ?_
   refine s_val (v_gtr (k := .i64) rfl rfl) ?_
   refine s_val (v_pickT (v := .bool _) rfl h75 rfl) ?_
   refine s_nil ?_
   refine c_condFh rfl rfl (decide_eq_false (bounds_net hg hn11 hc15 hws hki hmi (of_decide_eq_true h65) (of_decide_eq_true h75))) ?_
   refine c_skip ?_
   refine n_bnormal ?_
   refine n_then ?_
   refine r_list (by kernel_rfl) ?_
   refine s_val (v_add rfl rfl (by omega)) ?_
   refine s_val (v_move (v := .int .i64 _) rfl) ?_
   refine s_end ?_
   refine n_round (m + 1) ⟨_, (by omega), live6 rfl rfl rfl rfl rfl rfl⟩ (fun _ hw => hw) (by omega)
 refine q_want rfl rfl h31 ?_
 refine q_val (v_move (v := .int .i64 _) rfl) ?_
 refine q_want rfl rfl h31 ?_
 refine q_val (v_field (fo := 0) (by kernel_rfl) rfl) ?_
 refine q_want rfl rfl h31 ?_
 refine q_val (v_idxA (len := 4) (size := 2) (k := .i64) (by kernel_rfl) rfl rfl (by assumption)) ?_
 refine q_want rfl rfl h31 ?_
 refine q_val (v_field (fo := 1) (by kernel_rfl) rfl) ?_
 refine q_want rfl rfl h31 ?_
 refine q_val (v_load1 (v := .int .i64 _) (by kernel_rfl) rfl .here (H.at_cred _ (by assumption))) ?_
 refine q_want rfl rfl h31 ?_
 refine q_val (v_move (v := .int .i64 _) rfl) ?_
 refine q_want rfl rfl h31 ?_
 refine q_val (v_field (fo := 0) (by kernel_rfl) rfl) ?_
 refine q_want rfl rfl h31 ?_
 refine q_val (v_idxA (len := 4) (size := 2) (k := .i64) (by kernel_rfl) rfl rfl (by assumption)) ?_
 refine q_want rfl rfl h31 ?_
 refine q_val (v_field (fo := 1) (by kernel_rfl) rfl) ?_
 refine q_want rfl rfl h31 ?_
 refine q_val (v_load1 (v := .int .i64 _) (by kernel_rfl) rfl (.there (.there (.there (.app (.app (.there .here)))))) (H.at_cred _ (by assumption))) ?_
 refine q_want rfl rfl h31 ?_
 refine q_val (v_eql (k := .i64) rfl rfl) ?_
 refine q_val (v_pickT (v := .bool _) rfl h31 rfl) ?_
 refine q_val (v_move (v := .bool _) rfl) ?_
 refine q_splitR (s := 44) rfl (fun h44 => ?_) (fun h44 => ?_)
 · refine q_pass rfl rfl h44 ?_
   refine q_pass rfl rfl h44 ?_
   refine q_pass rfl rfl h44 ?_
   refine q_pass rfl rfl h44 ?_
   refine q_pass rfl rfl h44 ?_
   refine q_val (v_pickF (v := .bool _) rfl h44 rfl) ?_
   refine q_nil ?_
   refine c_condFh rfl rfl rfl ?_
   refine c_skip ?_
   refine n_then ?_
   refine r_seq (by kernel_rfl) ?_
   refine s_val (v_move (v := .int .i64 _) rfl) ?_
   refine s_nil ?_
   refine c_block ?_
   refine c_loop (σ := Nat) (fun (m : Nat) f => ∃ g, (m ≤ 4) ∧ f = (upd (upd (upd (upd (upd (upd g 3 (.pointer (some ⟨bf, 0, none⟩))) 4 (.pointer (some ⟨bw, 0, none⟩))) 9 (.pointer (some ⟨b9, 0, none⟩))) 10 (I k)) 23 (I k)) 51 (I m))) (fun (m : Nat) => Has w F15 ((b9, .cells h15.cells 41) :: (b7, .cells ((repC (doM s x).2.code (doM s x).2.n (.slice a1 (doM s x).2.done.length c1))) 31) :: (b6, .cells x.cells 23) :: (E ++ (B ++ ((bf, .cells #[.bool fst] 4 (0, 0)) :: (bw, .cells was.cells 41 (0, 0)) :: K))))) (fun (m : Nat) => 4 - m) 0 ⟨_, Nat.zero_le _, live6 rfl rfl rfl rfl rfl rfl⟩ (fun w hw => hw) ?_
   rintro m _ ⟨g, hml, rfl⟩
   refine r_seq (by kernel_rfl) ?_
   refine s_val (v_lss (k := .i64) rfl rfl) ?_
   refine s_nil ?_
   refine c_seq ?_
   refine c_condR rfl rfl (fun h52 => ?_) (fun h52 => ?_)
   · refine c_exit ?_
     refine n_exit ?_
     refine n_exit ?_
     refine n_bhere ?_
     refine n_bnormal ?_
     refine n_then ?_
     refine r_list (by kernel_rfl) ?_
     refine s_val (v_add rfl rfl (by omega)) ?_
     refine s_val (v_move (v := .int .i64 _) rfl) ?_
     refine s_end ?_
     refine n_round (k + 1) ⟨_, (by omega), live4 rfl rfl rfl rfl⟩ (fun _ hw => hw) (by omega)
   have hmm := of_decide_eq_true h52
   have hmi : 0 ≤ (m : Int) ∧ (m : Int) < 4 := ⟨by omega, by omega⟩
   refine c_skip ?_
   refine n_then ?_
   refine c_seq ?_
   refine c_block ?_
   refine r_seq (by kernel_rfl) ?_
   refine s_val (v_move (v := .int .i64 _) rfl) ?_
   refine s_val (v_assign (v := .int .i64 _) rfl) ?_
   refine s_nil ?_
   refine r_seq (by kernel_rfl) ?_
   refine s_val (v_loadA (m := 42) (by kernel_rfl) rfl .here (H.size _)) ?_
   refine s_val (v_move (v := .int .i64 _) rfl) ?_
   refine s_val (v_move (v := .int .i64 _) rfl) ?_
   refine s_call (by kernel_rfl) (fun w hw => g_Net _ _ _ w) ?_
   refine s_val (v_assign (v := .int .i64 _) rfl) ?_
   refine s_nil ?_
   refine r_seq (by kernel_rfl) ?_
   refine s_val (v_move (v := .int .i64 _) rfl) ?_
   refine s_val (v_move (v := .int .i64 _) rfl) ?_
   refine s_val (v_field (fo := 24) (by kernel_rfl) rfl) ?_
   refine s_val (v_idxA (len := 4) (size := 4) (k := .i64) (by kernel_rfl) rfl rfl (by assumption)) ?_
   refine s_val (v_idxA (len := 4) (size := 1) (k := .i64) (by kernel_rfl) rfl rfl (by assumption)) ?_
   refine s_val (v_load1 (v := .int .i64 _) (by kernel_rfl) rfl .here (H.at_lim _ (by assumption) (by assumption))) ?_
   refine s_val (v_geq (k := .i64) rfl rfl) ?_
   refine s_val (v_move (v := .bool _) rfl) ?_
   refine s_splitR (s := 65) rfl (fun h65 => ?_) (fun h65 => ?_)
   · refine s_pass rfl rfl h65 ?_
     refine s_pass rfl rfl h65 ?_
     refine s_pass rfl rfl h65 ?_
     refine s_pass rfl rfl h65 ?_
     refine s_pass rfl rfl h65 ?_
     refine s_pass rfl rfl h65 ?_
     refine s_pass rfl rfl h65 ?_
     refine s_pass rfl rfl h65 ?_
     refine s_val (v_pickF (v := .bool _) rfl h65 rfl) ?_
     refine s_val (v_move (v := .bool _) rfl) ?_
     refine s_pass (g := false) rfl rfl rfl ?_
     refine s_pass (g := false) rfl rfl rfl ?_
     refine s_pass (g := false) rfl rfl rfl ?_
     refine s_pass (g := false) rfl rfl rfl ?_
     refine s_pass (g := false) rfl rfl rfl ?_
     refine s_pass (g := false) rfl rfl rfl ?_
     refine s_val (v_pickF (v := .bool _) rfl rfl rfl) ?_
     refine s_nil ?_
     refine c_condFh rfl rfl rfl ?_
     refine c_skip ?_
     refine n_bnormal ?_
     refine n_then ?_
     refine r_list (by kernel_rfl) ?_
     refine s_val (v_add rfl rfl (by omega)) ?_
     refine s_val (v_move (v := .int .i64 _) rfl) ?_
     refine s_end ?_
     refine n_round (m + 1) ⟨_, (by omega), live6 rfl rfl rfl rfl rfl rfl⟩ (fun _ hw => hw) (by omega)
   refine s_want rfl rfl h65 ?_
   refine s_val (v_move (v := .int .i64 _) rfl) ?_
   refine s_want rfl rfl h65 ?_
   refine s_val (v_move (v := .int .i64 _) rfl) ?_
   refine s_want rfl rfl h65 ?_
   refine s_val (v_move (v := .int .i64 _) rfl) ?_
   refine s_want rfl rfl h65 ?_
   refine s_val (v_field (fo := 24) (by kernel_rfl) rfl) ?_
   refine s_want rfl rfl h65 ?_
   refine s_val (v_idxA (len := 4) (size := 4) (k := .i64) (by kernel_rfl) rfl rfl (by assumption)) ?_
   refine s_want rfl rfl h65 ?_
   refine s_val (v_idxA (len := 4) (size := 1) (k := .i64) (by kernel_rfl) rfl rfl (by assumption)) ?_
   refine s_want rfl rfl h65 ?_
   refine s_val (v_load1 (v := .int .i64 _) (by kernel_rfl) rfl .here (H.at_lim _ (by assumption) (by assumption))) ?_
   refine s_want rfl rfl h65 ?_
   refine s_val (v_gtr (k := .i64) rfl rfl) ?_
   refine s_val (v_pickT (v := .bool _) rfl h65 rfl) ?_
   refine s_val (v_move (v := .bool _) rfl) ?_
   refine s_splitR (s := 75) rfl (fun h75 => ?_) (fun h75 => ?_)
   · refine s_pass rfl rfl h75 ?_
     refine s_pass rfl rfl h75 ?_
     refine s_pass rfl rfl h75 ?_
     refine s_pass rfl rfl h75 ?_
     refine s_pass rfl rfl h75 ?_
     refine s_pass rfl rfl h75 ?_
     refine s_val (v_pickF (v := .bool _) rfl h75 rfl) ?_
     refine s_nil ?_
     refine c_condFh rfl rfl rfl ?_
     refine c_skip ?_
     refine n_bnormal ?_
     refine n_then ?_
     refine r_list (by kernel_rfl) ?_
     refine s_val (v_add rfl rfl (by omega)) ?_
     refine s_val (v_move (v := .int .i64 _) rfl) ?_
     refine s_end ?_
     refine n_round (m + 1) ⟨_, (by omega), live6 rfl rfl rfl rfl rfl rfl⟩ (fun _ hw => hw) (by omega)
   refine s_want rfl rfl h75 ?_
   refine s_val (v_move (v := .int .i64 _) rfl) ?_
   refine s_want rfl rfl h75 ?_
   refine s_val (v_loadA (m := 42) (by kernel_rfl) rfl (.there (.there (.there (.app (.app (.there .here)))))) (H.size _)) ?_
   refine s_want rfl rfl h75 ?_
   refine s_val (v_move (v := .int .i64 _) rfl) ?_
   refine s_want rfl rfl h75 ?_
   refine s_val (v_move (v := .int .i64 _) rfl) ?_
   refine s_want rfl rfl h75 ?_
   refine s_call (by kernel_rfl) (fun w hw => g_Net _ _ _ w) ?_
   refine s_want rfl rfl h75 ?_
   refine s_val (v_gtr (k := .i64) rfl rfl) ?_
   refine s_val (v_pickT (v := .bool _) rfl h75 rfl) ?_
   refine s_nil ?_
   refine c_condFh rfl rfl (decide_eq_false (bounds_net hg hn11 hc15 hws hki hmi (of_decide_eq_true h65) (of_decide_eq_true h75))) ?_
   refine c_skip ?_
   refine n_bnormal ?_
   refine n_then ?_
   refine r_list (by kernel_rfl) ?_
   refine s_val (v_add rfl rfl (by omega)) ?_
   refine s_val (v_move (v := .int .i64 _) rfl) ?_
   refine s_end ?_
   refine n_round (m + 1) ⟨_, (by omega), live6 rfl rfl rfl rfl rfl rfl⟩ (fun _ hw => hw) (by omega)
 refine q_want rfl rfl h44 ?_
 refine q_val (v_move (v := .int .i64 _) rfl) ?_
 refine q_want rfl rfl h44 ?_
 refine q_val (v_loadA (m := 42) (by kernel_rfl) rfl (.there (.there (.there (.app (.app (.there .here)))))) (H.size _)) ?_
 refine q_want rfl rfl h44 ?_
 refine q_val (v_move (v := .int .i64 _) rfl) ?_
 refine q_want rfl rfl h44 ?_
 refine q_call (by kernel_rfl) (fun w hw => g_Left _ _ w) ?_
 refine q_want rfl rfl h44 ?_
 refine q_val (v_lss (k := .i64) rfl rfl) ?_
 refine q_val (v_pickT (v := .bool _) rfl h44 rfl) ?_
 refine q_nil ?_
 refine c_condFh rfl rfl (decide_eq_false (bounds_left hg hn11 hc15 hws hki (of_decide_eq_true h31) (of_decide_eq_true h44))) ?_
 refine c_skip ?_
 refine n_then ?_
 refine r_seq (by kernel_rfl) ?_
 refine s_val (v_move (v := .int .i64 _) rfl) ?_
 refine s_nil ?_
 refine c_block ?_
 refine c_loop (σ := Nat) (fun (m : Nat) f => ∃ g, (m ≤ 4) ∧ f = (upd (upd (upd (upd (upd (upd g 3 (.pointer (some ⟨bf, 0, none⟩))) 4 (.pointer (some ⟨bw, 0, none⟩))) 9 (.pointer (some ⟨b9, 0, none⟩))) 10 (I k)) 23 (I k)) 51 (I m))) (fun (m : Nat) => Has w F15 ((b9, .cells h15.cells 41) :: (b7, .cells ((repC (doM s x).2.code (doM s x).2.n (.slice a1 (doM s x).2.done.length c1))) 31) :: (b6, .cells x.cells 23) :: (E ++ (B ++ ((bf, .cells #[.bool fst] 4 (0, 0)) :: (bw, .cells was.cells 41 (0, 0)) :: K))))) (fun (m : Nat) => 4 - m) 0 ⟨_, Nat.zero_le _, live6 rfl rfl rfl rfl rfl rfl⟩ (fun w hw => hw) ?_
 rintro m _ ⟨g, hml, rfl⟩
 refine r_seq (by kernel_rfl) ?_
 refine s_val (v_lss (k := .i64) rfl rfl) ?_
 refine s_nil ?_
 refine c_seq ?_
 refine c_condR rfl rfl (fun h52 => ?_) (fun h52 => ?_)
 · refine c_exit ?_
   refine n_exit ?_
   refine n_exit ?_
   refine n_bhere ?_
   refine n_bnormal ?_
   refine n_then ?_
   refine r_list (by kernel_rfl) ?_
   refine s_val (v_add rfl rfl (by omega)) ?_
   refine s_val (v_move (v := .int .i64 _) rfl) ?_
   refine s_end ?_
   refine n_round (k + 1) ⟨_, (by omega), live4 rfl rfl rfl rfl⟩ (fun _ hw => hw) (by omega)
 have hmm := of_decide_eq_true h52
 have hmi : 0 ≤ (m : Int) ∧ (m : Int) < 4 := ⟨by omega, by omega⟩
 refine c_skip ?_
 refine n_then ?_
 refine c_seq ?_
 refine c_block ?_
 refine r_seq (by kernel_rfl) ?_
 refine s_val (v_move (v := .int .i64 _) rfl) ?_
 refine s_val (v_assign (v := .int .i64 _) rfl) ?_
 refine s_nil ?_
 refine r_seq (by kernel_rfl) ?_
 refine s_val (v_loadA (m := 42) (by kernel_rfl) rfl .here (H.size _)) ?_
 refine s_val (v_move (v := .int .i64 _) rfl) ?_
 refine s_val (v_move (v := .int .i64 _) rfl) ?_
 refine s_call (by kernel_rfl) (fun w hw => g_Net _ _ _ w) ?_
 refine s_val (v_assign (v := .int .i64 _) rfl) ?_
 refine s_nil ?_
 refine r_seq (by kernel_rfl) ?_
 refine s_val (v_move (v := .int .i64 _) rfl) ?_
 refine s_val (v_move (v := .int .i64 _) rfl) ?_
 refine s_val (v_field (fo := 24) (by kernel_rfl) rfl) ?_
 refine s_val (v_idxA (len := 4) (size := 4) (k := .i64) (by kernel_rfl) rfl rfl (by assumption)) ?_
 refine s_val (v_idxA (len := 4) (size := 1) (k := .i64) (by kernel_rfl) rfl rfl (by assumption)) ?_
 refine s_val (v_load1 (v := .int .i64 _) (by kernel_rfl) rfl .here (H.at_lim _ (by assumption) (by assumption))) ?_
 refine s_val (v_geq (k := .i64) rfl rfl) ?_
 refine s_val (v_move (v := .bool _) rfl) ?_
 refine s_splitR (s := 65) rfl (fun h65 => ?_) (fun h65 => ?_)
 · refine s_pass rfl rfl h65 ?_
   refine s_pass rfl rfl h65 ?_
   refine s_pass rfl rfl h65 ?_
   refine s_pass rfl rfl h65 ?_
   refine s_pass rfl rfl h65 ?_
   refine s_pass rfl rfl h65 ?_
   refine s_pass rfl rfl h65 ?_
   refine s_pass rfl rfl h65 ?_
   refine s_val (v_pickF (v := .bool _) rfl h65 rfl) ?_
   refine s_val (v_move (v := .bool _) rfl) ?_
   refine s_pass (g := false) rfl rfl rfl ?_
   refine s_pass (g := false) rfl rfl rfl ?_
   refine s_pass (g := false) rfl rfl rfl ?_
   refine s_pass (g := false) rfl rfl rfl ?_
   refine s_pass (g := false) rfl rfl rfl ?_
   refine s_pass (g := false) rfl rfl rfl ?_
   refine s_val (v_pickF (v := .bool _) rfl rfl rfl) ?_
   refine s_nil ?_
   refine c_condFh rfl rfl rfl ?_
   refine c_skip ?_
   refine n_bnormal ?_
   refine n_then ?_
   refine r_list (by kernel_rfl) ?_
   refine s_val (v_add rfl rfl (by omega)) ?_
   refine s_val (v_move (v := .int .i64 _) rfl) ?_
   refine s_end ?_
   refine n_round (m + 1) ⟨_, (by omega), live6 rfl rfl rfl rfl rfl rfl⟩ (fun _ hw => hw) (by omega)
 refine s_want rfl rfl h65 ?_
 refine s_val (v_move (v := .int .i64 _) rfl) ?_
 refine s_want rfl rfl h65 ?_
 refine s_val (v_move (v := .int .i64 _) rfl) ?_
 refine s_want rfl rfl h65 ?_
 refine s_val (v_move (v := .int .i64 _) rfl) ?_
 refine s_want rfl rfl h65 ?_
 refine s_val (v_field (fo := 24) (by kernel_rfl) rfl) ?_
 refine s_want rfl rfl h65 ?_
 refine s_val (v_idxA (len := 4) (size := 4) (k := .i64) (by kernel_rfl) rfl rfl (by assumption)) ?_
 refine s_want rfl rfl h65 ?_
 refine s_val (v_idxA (len := 4) (size := 1) (k := .i64) (by kernel_rfl) rfl rfl (by assumption)) ?_
 refine s_want rfl rfl h65 ?_
 refine s_val (v_load1 (v := .int .i64 _) (by kernel_rfl) rfl .here (H.at_lim _ (by assumption) (by assumption))) ?_
 refine s_want rfl rfl h65 ?_
 refine s_val (v_gtr (k := .i64) rfl rfl) ?_
 refine s_val (v_pickT (v := .bool _) rfl h65 rfl) ?_
 refine s_val (v_move (v := .bool _) rfl) ?_
 refine s_splitR (s := 75) rfl (fun h75 => ?_) (fun h75 => ?_)
 · refine s_pass rfl rfl h75 ?_
   refine s_pass rfl rfl h75 ?_
   refine s_pass rfl rfl h75 ?_
   refine s_pass rfl rfl h75 ?_
   refine s_pass rfl rfl h75 ?_
   refine s_pass rfl rfl h75 ?_
   refine s_val (v_pickF (v := .bool _) rfl h75 rfl) ?_
   refine s_nil ?_
   refine c_condFh rfl rfl rfl ?_
   refine c_skip ?_
   refine n_bnormal ?_
   refine n_then ?_
   refine r_list (by kernel_rfl) ?_
   refine s_val (v_add rfl rfl (by omega)) ?_
   refine s_val (v_move (v := .int .i64 _) rfl) ?_
   refine s_end ?_
   refine n_round (m + 1) ⟨_, (by omega), live6 rfl rfl rfl rfl rfl rfl⟩ (fun _ hw => hw) (by omega)
 refine s_want rfl rfl h75 ?_
 refine s_val (v_move (v := .int .i64 _) rfl) ?_
 refine s_want rfl rfl h75 ?_
 refine s_val (v_loadA (m := 42) (by kernel_rfl) rfl (.there (.there (.there (.app (.app (.there .here)))))) (H.size _)) ?_
 refine s_want rfl rfl h75 ?_
 refine s_val (v_move (v := .int .i64 _) rfl) ?_
 refine s_want rfl rfl h75 ?_
 refine s_val (v_move (v := .int .i64 _) rfl) ?_
 refine s_want rfl rfl h75 ?_
 refine s_call (by kernel_rfl) (fun w hw => g_Net _ _ _ w) ?_
 refine s_want rfl rfl h75 ?_
 refine s_val (v_gtr (k := .i64) rfl rfl) ?_
 refine s_val (v_pickT (v := .bool _) rfl h75 rfl) ?_
 refine s_nil ?_
 refine c_condFh rfl rfl (decide_eq_false (bounds_net hg hn11 hc15 hws hki hmi (of_decide_eq_true h65) (of_decide_eq_true h75))) ?_
 refine c_skip ?_
 refine n_bnormal ?_
 refine n_then ?_
 refine r_list (by kernel_rfl) ?_
 refine s_val (v_add rfl rfl (by omega)) ?_
 refine s_val (v_move (v := .int .i64 _) rfl) ?_
 refine s_end ?_
 refine n_round (m + 1) ⟨_, (by omega), live6 rfl rfl rfl rfl rfl rfl⟩ (fun _ hw => hw) (by omega)
theorem law_TopBounds (bk : BankOk) (a0 : Option Addr) (c0 : Nat) (xs : List ActS) (w : World) (hx : ActsAt (At w) a0 xs) (hlx : xs.length ≤ 9223372036854775807) : Gives Try.prog 7 [.slice a0 xs.length c0] w (.bool true) := by
 refine gives_of Try.func7 rfl Try.ntmps7 (by simp) ?_
 refine r_seq (by kernel_rfl) ?_
 refine s_val (v_assign (v := .bool _) rfl) ?_
 refine s_nil ?_
 refine r_seq (by kernel_rfl) ?_
 refine s_alloc (z := .agg zeroH.cells) (by kernel_rfl) (fun b3 => ?_)
 refine s_nil ?_
 refine r_seq (by kernel_rfl) ?_
 refine s_alloc (z := zeroOf Try.prog 4) (by kernel_rfl) (fun b4 => ?_)
 refine s_store1 (v := .bool _) (by kernel_rfl) rfl rfl .here ⟨Nat.zero_lt_one, rfl⟩ rfl ?_
 refine s_nil ?_
 refine r_seq (by kernel_rfl) ?_
 refine s_val (v_move (v := .slice _ _ _) rfl) ?_
 refine s_val (v_makeFunc (vs := [.pointer (some ⟨b4, 0, none⟩), .pointer (some ⟨b3, 0, none⟩)]) rfl) ?_
 refine s_callW (B := [(b4, .cells #[.bool true] 4 (0, 0)), (b3, .cells zeroH.cells 41 (0, 0))]) (by kernel_rfl) (g_play bk (fun n : Bool × H => [(b4, Obj.cells #[.bool n.1] 4 (0, 0)), (b3, Obj.cells n.2.cells 41 (0, 0))]) (fun _ s n _ => n.1 = false → n.2.core = s.c) a0 c0 xs 28 [.pointer (some ⟨b4, 0, none⟩), .pointer (some ⟨b3, 0, none⟩)] (At w) (true, zeroH) hx hlx (fun h => by cases h) (fun h _ => h) (by kernel_rfl) (by
   rintro F1 i s ⟨n1, n2⟩ x b B E a1 c1 hF hxk hi hJ hg hs hr ho
   exact fun w0 K w hw => (look_TopBounds bk F1 s x b B E a1 c1 b4 b3 n1 n2 hg hr hJ w0 K w hw).mono fun e w' ⟨v, B', F', h1, h2, h3, h4, h, h5, h6⟩ => ⟨v, B', F', h1, h2, h3, h4, (false, h), h6, fun _ => h5⟩)) (fun F10 v10 B100 hF10 hR10 => ?_)
 obtain ⟨b10, B10, c10, rfl, rfl, hr10, hg10, hJ10⟩ := hR10
 refine s_val (v_move (v := .tuple _) rfl) ?_
 refine s_val (v_extract rfl rfl) ?_
 refine s_val (v_extract rfl rfl) ?_
 refine s_val (v_assign (v := .pointer _) rfl) ?_
 refine s_val (v_assign (v := .bool _) rfl) ?_
 refine s_nil ?_
 refine r_seq (by kernel_rfl) ?_
 refine s_val (v_move (v := .bool _) rfl) ?_
 refine s_val (v_assign (v := .bool _) rfl) ?_
 refine s_nil ?_
 refine c_ret ?_
 refine n_done rfl (by decide) (Eq.trans (b := .bool _) rfl (congrArg Value.bool ?_))
 rfl
end Go.Proofs.Ytmkboljfbmlebab
