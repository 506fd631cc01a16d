/- Contract of the document side IsHouse. Condition: the payments lie in memory that is known. -/
import Derived.Test.YtmkboljfbmlebaaW5
namespace Go.Proofs.Ytmkboljfbmlebaa
open Go.RowKit
set_option linter.unusedSimpArgs false
set_option linter.unusedVariables false
set_option maxRecDepth 100000
attribute [local irreducible] cC sC nC rC qw

theorem gr_IsHouse (h : H) (ps : List PayS) (w : World) (hp : PaysIn (At w) h.pa h.pl ps) (hb : h.pl * 48 ≤ 281474976710656) (hlc : h.pl ≤ h.pc) : Gives Try.prog 16 [.agg h.cells] w (.bool (isHouseB h ps)) := by
  refine gives_of Try.func16 rfl Try.ntmps16 (by simp) ?_
  refine r_seq (by kernel_rfl) ?_
  refine s_box (v := .agg _) rfl (fun b1 => ?_)
  refine s_val (v_assign (v := .bool _) rfl) ?_
  refine s_nil ?_
  refine c_cut (fun f => ∃ g, f = (upd (upd g 1 (.pointer (some ⟨b1, 0, none⟩))) 3 (.bool (hB0 h)))) (Has w (At w) [(b1, .cells h.cells 29)]) ?_ ?_
  · refine r_list (by kernel_rfl) ?_
    refine s_val (v_field (fo := 40) (by kernel_rfl) rfl) ?_
    refine s_val (v_load1 (v := .slice _ _ _) (by kernel_rfl) rfl .here (H.at_pays _)) ?_
    refine s_val (v_lenS (T := 27) (m := 6) (by kernel_rfl) rfl rfl) ?_
    refine s_val (v_lss (k := .i64) rfl rfl) ?_
    refine s_val (v_move (v := .bool _) rfl) ?_
    refine s_splitR (s := 14) rfl (fun h14 => ?_) (fun h14 => ?_)
    · refine s_pass rfl rfl h14 ?_
      refine s_pass rfl rfl h14 ?_
      refine s_pass rfl rfl h14 ?_
      refine s_val (v_pickF (v := .bool _) rfl h14 rfl) ?_
      refine s_val (v_assign (v := .bool _) rfl) ?_
      refine s_end ?_
      refine n_cut ⟨_, live2 rfl (congrArg Value.bool (by simp only [hB0, *, Bool.true_and, Bool.false_and, Bool.and_true, Bool.and_false, Bool.not_true, Bool.not_false, Bool.true_or, Bool.or_true, Bool.false_or, Bool.or_false, cond_true, cond_false, if_true, if_false, Bool.false_eq_true, decide_true, decide_false]))⟩ (fun _ hw => hw)
    refine s_want rfl rfl h14 ?_
    refine s_val (v_field (fo := 41) (by kernel_rfl) rfl) ?_
    refine s_want rfl rfl h14 ?_
    refine s_val (v_load1 (v := .int .i64 _) (by kernel_rfl) rfl .here (H.at_next _)) ?_
    refine s_want rfl rfl h14 ?_
    refine s_call (by kernel_rfl) (fun w hw => gr_within _ _ _ w) ?_
    refine s_val (v_pickT (v := .bool _) rfl h14 rfl) ?_
    refine s_val (v_assign (v := .bool _) rfl) ?_
    refine s_end ?_
    refine n_cut ⟨_, live2 rfl (congrArg Value.bool (by simp only [hB0, *, Bool.true_and, Bool.false_and, Bool.and_true, Bool.and_false, Bool.not_true, Bool.not_false, Bool.true_or, Bool.or_true, Bool.false_or, Bool.or_false, cond_true, cond_false, if_true, if_false, Bool.false_eq_true, decide_true, decide_false]))⟩ (fun _ hw => hw)
  rintro _ ⟨g, rfl⟩
  refine c_seq ?_
  refine r_seq (by kernel_rfl) ?_
  refine s_val (v_move (v := .int .i64 _) rfl) ?_
  refine s_nil ?_
  refine c_block ?_
  refine c_loop (σ := Nat) (fun (k : Nat) f => ∃ g, (k ≤ 4) ∧ f = (upd (upd (upd g 1 (.pointer (some ⟨b1, 0, none⟩))) 3 (.bool (hAll h k))) 19 (I k))) (fun (k : Nat) => Has w (At w) [(b1, .cells h.cells 29)]) (fun (k : Nat) => 4 - k) 0 ⟨_, Nat.zero_le _, live3 rfl rfl rfl⟩ (fun w hw => hw) ?_
  rintro k _ ⟨g, hkl, rfl⟩
  refine r_seq (by kernel_rfl) ?_
  refine s_val (v_lss (k := .i64) rfl rfl) ?_
  refine s_nil ?_
  refine c_seq ?_
  refine c_condR rfl rfl (fun h20 => ?_) (fun h20 => ?_)
  · obtain rfl : k = 4 := by have := of_decide_eq_false h20; omega
    refine c_exit ?_
    refine n_exit ?_
    refine n_exit ?_
    refine n_bhere ?_
    refine n_then ?_
    refine c_seq ?_
    refine r_seq (by kernel_rfl) ?_
    refine s_val (v_field (fo := 40) (by kernel_rfl) rfl) ?_
    refine s_val (v_load1 (v := .slice _ _ _) (by kernel_rfl) rfl .here (H.at_pays _)) ?_
    refine s_val (v_lenS (T := 27) (m := 6) (by kernel_rfl) rfl rfl) ?_
    refine s_val (v_move (v := .int .i64 _) rfl) ?_
    refine s_nil ?_
    refine c_block ?_
    refine c_loop (σ := Nat) (fun (j : Nat) f => ∃ g, (j ≤ h.pl) ∧ f = (upd (upd (upd (upd (upd g 1 (.pointer (some ⟨b1, 0, none⟩))) 3 (.bool (hPto h ps j))) 73 (.slice h.pa h.pl h.pc)) 74 (I h.pl)) 75 (I j))) (fun (j : Nat) => Has w (At w) [(b1, .cells h.cells 29)]) (fun (j : Nat) => h.pl - j) 0 ⟨_, Nat.zero_le _, live5 rfl rfl rfl rfl rfl⟩ (fun w hw => hw) ?_
    rintro j _ ⟨g, hjl, rfl⟩
    refine r_seq (by kernel_rfl) ?_
    refine s_val (v_lss (k := .i64) rfl rfl) ?_
    refine s_nil ?_
    refine c_seq ?_
    refine c_condR rfl rfl (fun h76 => ?_) (fun h76 => ?_)
    · have hjj : j = h.pl := by have := of_decide_eq_false h76; omega
      refine c_exit ?_
      refine n_exit ?_
      refine n_exit ?_
      refine n_bhere ?_
      refine n_then ?_
      refine r_seq (by kernel_rfl) ?_
      refine s_val (v_move (v := .bool _) rfl) ?_
      refine s_val (v_assign (v := .bool _) rfl) ?_
      refine s_nil ?_
      refine c_ret ?_
      refine n_done rfl (by decide) (Eq.trans (b := .bool _) rfl (congrArg Value.bool ?_))
      unfold isHouseB
      rw [hp.1, ← hjj]
    have hj0 := of_decide_eq_true h76
    obtain ⟨p, hpk, hd, ht⟩ := hp.get (k := j) (by omega)
    obtain ⟨b, o, hpa, hc⟩ := hp.some (k := j) (by omega)
    refine c_skip ?_
    refine n_then ?_
    refine c_seq ?_
    refine c_block ?_
    refine r_seq (by kernel_rfl) ?_
    refine s_val (v_move (v := .int .i64 _) rfl) ?_
    refine s_val (v_idxS (size := 6) (k := .i64) (by kernel_rfl) (congrArg (fun a => Value.slice a h.pl h.pc) hpa) rfl ⟨by omega, by omega⟩) ?_
    refine s_val (v_loadNo (cs := p.cells) (m := 6) (by kernel_rfl) rfl rfl (hc j p hpk)) ?_
    refine s_alloc (z := zeroOf Try.prog 36) (by kernel_rfl) (fun b7 => ?_)
    refine s_val (v_assign (v := .int .i64 _) rfl) ?_
    refine s_storeA (m := 6) (by kernel_rfl) rfl rfl .here (by kernel_rfl) rfl (PayS.all1 _) ?_
    refine s_nil ?_
    refine c_cut (fun f => ∃ g, f = (upd (upd (upd (upd (upd (upd (upd g 1 (.pointer (some ⟨b1, 0, none⟩))) 3 (.bool (hPto h ps j && isPayB p && decide (p.seq < h.next)))) 6 (I j)) 7 (.pointer (some ⟨b7, 0, none⟩))) 73 (.slice h.pa h.pl h.pc)) 74 (I h.pl)) 75 (I j))) (Has w (At w) [(b7, .cells p.cells 36), (b1, .cells h.cells 29)]) ?_ ?_
    · refine r_list (by kernel_rfl) ?_
      refine s_val (v_move (v := .bool _) rfl) ?_
      refine s_val (v_move (v := .bool _) rfl) ?_
      refine s_splitR (s := 81) rfl (fun h81 => ?_) (fun h81 => ?_)
      · refine s_pass rfl rfl h81 ?_
        refine s_pass rfl rfl h81 ?_
        refine s_val (v_pickF (v := .bool _) rfl h81 rfl) ?_
        refine s_val (v_move (v := .bool _) rfl) ?_
        refine s_pass (g := false) rfl rfl rfl ?_
        refine s_pass (g := false) rfl rfl rfl ?_
        refine s_pass (g := false) rfl rfl rfl ?_
        refine s_pass (g := false) rfl rfl rfl ?_
        refine s_pass (g := false) rfl rfl rfl ?_
        refine s_val (v_pickF (v := .bool _) rfl rfl rfl) ?_
        refine s_val (v_assign (v := .bool _) rfl) ?_
        refine s_end ?_
        refine n_cut ⟨_, live7 rfl (congrArg Value.bool (by simp only [*, Bool.true_and, Bool.false_and, Bool.and_true, Bool.and_false, Bool.not_true, Bool.not_false, Bool.true_or, Bool.or_true, Bool.false_or, Bool.or_false, cond_true, cond_false, if_true, if_false, Bool.false_eq_true, decide_true, decide_false])) rfl rfl rfl rfl rfl⟩ (fun _ hw => hw)
      refine s_want rfl rfl h81 ?_
      refine s_val (v_loadA (m := 6) (by kernel_rfl) rfl .here rfl) ?_
      refine s_want rfl rfl h81 ?_
      refine s_call (by kernel_rfl) (fun w hw => gr_IsPay _ w) ?_
      refine s_val (v_pickT (v := .bool _) rfl h81 rfl) ?_
      refine s_val (v_move (v := .bool _) rfl) ?_
      refine s_splitR (s := 85) rfl (fun h85 => ?_) (fun h85 => ?_)
      · refine s_pass rfl rfl h85 ?_
        refine s_pass rfl rfl h85 ?_
        refine s_pass rfl rfl h85 ?_
        refine s_pass rfl rfl h85 ?_
        refine s_pass rfl rfl h85 ?_
        refine s_val (v_pickF (v := .bool _) rfl h85 rfl) ?_
        refine s_val (v_assign (v := .bool _) rfl) ?_
        refine s_end ?_
        refine n_cut ⟨_, live7 rfl (congrArg Value.bool (by simp only [*, Bool.true_and, Bool.false_and, Bool.and_true, Bool.and_false, Bool.not_true, Bool.not_false, Bool.true_or, Bool.or_true, Bool.false_or, Bool.or_false, cond_true, cond_false, if_true, if_false, Bool.false_eq_true, decide_true, decide_false])) rfl rfl rfl rfl rfl⟩ (fun _ hw => hw)
      refine s_want rfl rfl h85 ?_
      refine s_val (v_field (fo := 5) (by kernel_rfl) rfl) ?_
      refine s_want rfl rfl h85 ?_
      refine s_val (v_load1 (v := .int .i64 _) (by kernel_rfl) rfl .here rfl) ?_
      refine s_want rfl rfl h85 ?_
      refine s_val (v_field (fo := 41) (by kernel_rfl) rfl) ?_
      refine s_want rfl rfl h85 ?_
      refine s_val (v_load1 (v := .int .i64 _) (by kernel_rfl) rfl (.there .here) (H.at_next _)) ?_
      refine s_want rfl rfl h85 ?_
      refine s_val (v_lss (k := .i64) rfl rfl) ?_
      refine s_val (v_pickT (v := .bool _) rfl h85 rfl) ?_
      refine s_val (v_assign (v := .bool _) rfl) ?_
      refine s_end ?_
      refine n_cut ⟨_, live7 rfl (congrArg Value.bool (by simp only [*, Bool.true_and, Bool.false_and, Bool.and_true, Bool.and_false, Bool.not_true, Bool.not_false, Bool.true_or, Bool.or_true, Bool.false_or, Bool.or_false, cond_true, cond_false, if_true, if_false, Bool.false_eq_true, decide_true, decide_false])) rfl rfl rfl rfl rfl⟩ (fun _ hw => hw)
    rintro _ ⟨g, rfl⟩
    refine r_seq (by kernel_rfl) ?_
    refine s_val (v_field (fo := 40) (by kernel_rfl) rfl) ?_
    refine s_val (v_load1 (v := .slice _ _ _) (by kernel_rfl) rfl (.there .here) (H.at_pays _)) ?_
    refine s_val (v_move (v := .int .i64 _) rfl) ?_
    refine s_val (v_sliceHi (m := 6) (by kernel_rfl) rfl rfl ⟨by omega, by omega⟩) ?_
    refine s_val (v_lenS (T := 27) (m := 6) (by kernel_rfl) rfl rfl) ?_
    refine s_val (v_move (v := .int .i64 _) rfl) ?_
    refine s_nil ?_
    refine c_block ?_
    refine c_loop (σ := Nat) (fun (m : Nat) f => ∃ g, (m ≤ j) ∧ f = (upd (upd (upd (upd (upd (upd (upd (upd (upd g 1 (.pointer (some ⟨b1, 0, none⟩))) 3 (.bool (pin p (hPto h ps j && isPayB p && decide (p.seq < h.next)) (ps.take m)))) 7 (.pointer (some ⟨b7, 0, none⟩))) 73 (.slice h.pa h.pl h.pc)) 74 (I h.pl)) 75 (I j)) 95 (.slice h.pa j h.pc)) 96 (I j)) 97 (I m))) (fun (m : Nat) => Has w (At w) [(b7, .cells p.cells 36), (b1, .cells h.cells 29)]) (fun (m : Nat) => j - m) 0 ⟨_, Nat.zero_le _, live9 rfl rfl rfl rfl rfl rfl rfl rfl rfl⟩ (fun w hw => hw) ?_
    rintro m _ ⟨g, hml, rfl⟩
    refine r_seq (by kernel_rfl) ?_
    refine s_val (v_lss (k := .i64) rfl rfl) ?_
    refine s_nil ?_
    refine c_seq ?_
    refine c_condR rfl rfl (fun h98 => ?_) (fun h98 => ?_)
    · obtain rfl : j = m := by have := of_decide_eq_false h98; omega
      refine c_exit ?_
      refine n_exit ?_
      refine n_exit ?_
      refine n_bhere ?_
      refine n_bnormal ?_
      refine n_then ?_
      refine r_list (by kernel_rfl) ?_
      refine s_val (v_add rfl rfl (by omega)) ?_
      refine s_val (v_move (v := .int .i64 _) rfl) ?_
      refine s_end ?_
      refine n_round (j + 1) ⟨_, (by omega), live5 rfl (congrArg Value.bool (hPto_succ hpk).symm) rfl rfl rfl⟩ (fun _ hw => hw.tail) (by omega)
    have hm0 := of_decide_eq_true h98
    obtain ⟨q, hqk, hdq, htq⟩ := hp.get (k := m) (by omega)
    refine c_skip ?_
    refine n_then ?_
    refine c_seq ?_
    refine c_block ?_
    refine r_seq (by kernel_rfl) ?_
    refine s_val (v_idxS (size := 6) (k := .i64) (by kernel_rfl) (congrArg (fun a => Value.slice a j h.pc) hpa) rfl ⟨by omega, by omega⟩) ?_
    refine s_val (v_loadNo (cs := q.cells) (m := 6) (by kernel_rfl) rfl rfl (hc m q hqk)) ?_
    refine s_alloc (z := zeroOf Try.prog 36) (by kernel_rfl) (fun b9 => ?_)
    refine s_storeA (m := 6) (by kernel_rfl) rfl rfl .here (by kernel_rfl) rfl (PayS.all1 _) ?_
    refine s_nil ?_
    refine c_cutN (fun f => ∃ g, f = (upd (upd (upd (upd (upd (upd (upd (upd (upd g 1 (.pointer (some ⟨b1, 0, none⟩))) 3 (.bool (pin p (hPto h ps j && isPayB p && decide (p.seq < h.next)) (ps.take (m + 1))))) 7 (.pointer (some ⟨b7, 0, none⟩))) 73 (.slice h.pa h.pl h.pc)) 74 (I h.pl)) 75 (I j)) 95 (.slice h.pa j h.pc)) 96 (I j)) 97 (I m))) (Has w (At w) [(b9, .cells q.cells 36), (b7, .cells p.cells 36), (b1, .cells h.cells 29)]) ?_ ?_
    · refine r_list (by kernel_rfl) ?_
      refine s_val (v_move (v := .bool _) rfl) ?_
      refine s_val (v_move (v := .bool _) rfl) ?_
      refine s_splitR (s := 102) rfl (fun h102 => ?_) (fun h102 => ?_)
      · refine s_pass rfl rfl h102 ?_
        refine s_pass rfl rfl h102 ?_
        refine s_pass rfl rfl h102 ?_
        refine s_pass rfl rfl h102 ?_
        refine s_pass rfl rfl h102 ?_
        refine s_val (v_pickF (v := .bool _) rfl h102 rfl) ?_
        refine s_val (v_assign (v := .bool _) rfl) ?_
        refine s_end ?_
        refine n_cut ⟨_, live9 rfl (congrArg Value.bool (by rw [htq, pin_snoc]; simp only [*, Bool.true_and, Bool.false_and, Bool.and_true, Bool.and_false, Bool.not_true, Bool.not_false, Bool.true_or, Bool.or_true, Bool.false_or, Bool.or_false, cond_true, cond_false, if_true, if_false, Bool.false_eq_true, decide_true, decide_false])) rfl rfl rfl rfl rfl rfl rfl⟩ (fun _ hw => hw)
      refine s_want rfl rfl h102 ?_
      refine s_val (v_field (fo := 5) (by kernel_rfl) rfl) ?_
      refine s_want rfl rfl h102 ?_
      refine s_val (v_load1 (v := .int .i64 _) (by kernel_rfl) rfl (.there .here) rfl) ?_
      refine s_want rfl rfl h102 ?_
      refine s_val (v_field (fo := 5) (by kernel_rfl) rfl) ?_
      refine s_want rfl rfl h102 ?_
      refine s_val (v_load1 (v := .int .i64 _) (by kernel_rfl) rfl .here rfl) ?_
      refine s_want rfl rfl h102 ?_
      refine s_val (v_neq (k := .i64) rfl rfl) ?_
      refine s_val (v_pickT (v := .bool _) rfl h102 rfl) ?_
      refine s_val (v_assign (v := .bool _) rfl) ?_
      refine s_end ?_
      refine n_cut ⟨_, live9 rfl (congrArg Value.bool (by rw [htq, pin_snoc]; simp only [*, Bool.true_and, Bool.false_and, Bool.and_true, Bool.and_false, Bool.not_true, Bool.not_false, Bool.true_or, Bool.or_true, Bool.false_or, Bool.or_false, cond_true, cond_false, if_true, if_false, Bool.false_eq_true, decide_true, decide_false])) rfl rfl rfl rfl rfl rfl rfl⟩ (fun _ hw => hw)
    rintro _ ⟨g, rfl⟩
    refine n_bnormal ?_
    refine n_then ?_
    refine r_list (by kernel_rfl) ?_
    refine s_val (v_add rfl rfl (by omega)) ?_
    refine s_val (v_move (v := .int .i64 _) rfl) ?_
    refine s_end ?_
    refine n_round (m + 1) ⟨_, (by omega), live9 rfl rfl rfl rfl rfl rfl rfl rfl rfl⟩ (fun _ hw => hw.tail) (by omega)
  have hk0 := of_decide_eq_true h20
  have hi : 0 ≤ (k : Int) ∧ (k : Int) < 4 := ⟨by omega, by omega⟩
  refine c_skip ?_
  refine n_then ?_
  refine c_seq ?_
  refine c_block ?_
  refine r_seq (by kernel_rfl) ?_
  refine s_val (v_move (v := .int .i64 _) rfl) ?_
  refine s_val (v_assign (v := .int .i64 _) rfl) ?_
  refine s_nil ?_
  refine c_cut (fun f => ∃ g, f = (upd (upd (upd (upd g 1 (.pointer (some ⟨b1, 0, none⟩))) 3 (.bool (hRow h k (hAll h k) 0))) 4 (I k)) 19 (I k))) (Has w (At w) [(b1, .cells h.cells 29)]) ?_ ?_
  · refine r_list (by kernel_rfl) ?_
    refine s_val (v_move (v := .bool _) rfl) ?_
    refine s_val (v_move (v := .bool _) rfl) ?_
    refine s_splitR (s := 23) rfl (fun h23 => ?_) (fun h23 => ?_)
    · refine s_pass rfl rfl h23 ?_
      refine s_pass rfl rfl h23 ?_
      refine s_pass rfl rfl h23 ?_
      refine s_pass rfl rfl h23 ?_
      refine s_pass rfl rfl h23 ?_
      refine s_pass rfl rfl h23 ?_
      refine s_val (v_pickF (v := .bool _) rfl h23 rfl) ?_
      refine s_val (v_move (v := .bool _) rfl) ?_
      refine s_pass (g := false) rfl rfl rfl ?_
      refine s_pass (g := false) rfl rfl rfl ?_
      refine s_pass (g := false) rfl rfl rfl ?_
      refine s_pass (g := false) rfl rfl rfl ?_
      refine s_pass (g := false) rfl rfl rfl ?_
      refine s_pass (g := false) rfl rfl rfl ?_
      refine s_val (v_pickF (v := .bool _) rfl rfl rfl) ?_
      refine s_val (v_move (v := .bool _) rfl) ?_
      refine s_pass (g := false) rfl rfl rfl ?_
      refine s_pass (g := false) rfl rfl rfl ?_
      refine s_pass (g := false) rfl rfl rfl ?_
      refine s_pass (g := false) rfl rfl rfl ?_
      refine s_pass (g := false) rfl rfl rfl ?_
      refine s_pass (g := false) rfl rfl rfl ?_
      refine s_pass (g := false) rfl rfl rfl ?_
      refine s_val (v_pickF (v := .bool _) rfl rfl rfl) ?_
      refine s_val (v_assign (v := .bool _) rfl) ?_
      refine s_end ?_
      refine n_cut ⟨_, live4 rfl (congrArg Value.bool (by simp only [hRow, *, Bool.true_and, Bool.false_and, Bool.and_true, Bool.and_false, Bool.not_true, Bool.not_false, Bool.true_or, Bool.or_true, Bool.false_or, Bool.or_false, cond_true, cond_false, if_true, if_false, Bool.false_eq_true, decide_true, decide_false])) rfl rfl⟩ (fun _ hw => hw)
    refine s_want rfl rfl h23 ?_
    refine s_val (v_move (v := .int .i64 _) rfl) ?_
    refine s_want rfl rfl h23 ?_
    refine s_val (v_field (fo := 0) (by kernel_rfl) rfl) ?_
    refine s_want rfl rfl h23 ?_
    refine s_val (v_idxA (len := 4) (size := 2) (k := .i64) (by kernel_rfl) rfl rfl (by assumption)) ?_
    refine s_want rfl rfl h23 ?_
    refine s_val (v_field (fo := 0) (by kernel_rfl) rfl) ?_
    refine s_want rfl rfl h23 ?_
    refine s_val (v_load1 (v := .int .i64 _) (by kernel_rfl) rfl .here (H.at_has _ (by assumption))) ?_
    refine s_want rfl rfl h23 ?_
    refine s_call (by kernel_rfl) (fun w hw => gr_within _ _ _ w) ?_
    refine s_val (v_pickT (v := .bool _) rfl h23 rfl) ?_
    refine s_val (v_move (v := .bool _) rfl) ?_
    refine s_splitR (s := 31) rfl (fun h31 => ?_) (fun h31 => ?_)
    · refine s_pass rfl rfl h31 ?_
      refine s_pass rfl rfl h31 ?_
      refine s_pass rfl rfl h31 ?_
      refine s_pass rfl rfl h31 ?_
      refine s_pass rfl rfl h31 ?_
      refine s_pass rfl rfl h31 ?_
      refine s_val (v_pickF (v := .bool _) rfl h31 rfl) ?_
      refine s_val (v_move (v := .bool _) rfl) ?_
      refine s_pass (g := false) rfl rfl rfl ?_
      refine s_pass (g := false) rfl rfl rfl ?_
      refine s_pass (g := false) rfl rfl rfl ?_
      refine s_pass (g := false) rfl rfl rfl ?_
      refine s_pass (g := false) rfl rfl rfl ?_
      refine s_pass (g := false) rfl rfl rfl ?_
      refine s_pass (g := false) rfl rfl rfl ?_
      refine s_val (v_pickF (v := .bool _) rfl rfl rfl) ?_
      refine s_val (v_assign (v := .bool _) rfl) ?_
      refine s_end ?_
      refine n_cut ⟨_, live4 rfl (congrArg Value.bool (by simp only [hRow, *, Bool.true_and, Bool.false_and, Bool.and_true, Bool.and_false, Bool.not_true, Bool.not_false, Bool.true_or, Bool.or_true, Bool.false_or, Bool.or_false, cond_true, cond_false, if_true, if_false, Bool.false_eq_true, decide_true, decide_false])) rfl rfl⟩ (fun _ hw => hw)
    refine s_want rfl rfl h31 ?_
    refine s_val (v_move (v := .int .i64 _) rfl) ?_
    refine s_want rfl rfl h31 ?_
    refine s_val (v_field (fo := 0) (by kernel_rfl) rfl) ?_
    refine s_want rfl rfl h31 ?_
    refine s_val (v_idxA (len := 4) (size := 2) (k := .i64) (by kernel_rfl) rfl rfl (by assumption)) ?_
    refine s_want rfl rfl h31 ?_
    refine s_val (v_field (fo := 1) (by kernel_rfl) rfl) ?_
    refine s_want rfl rfl h31 ?_
    refine s_val (v_load1 (v := .int .i64 _) (by kernel_rfl) rfl .here (H.at_cred _ (by assumption))) ?_
    refine s_want rfl rfl h31 ?_
    refine s_call (by kernel_rfl) (fun w hw => gr_within _ _ _ w) ?_
    refine s_val (v_pickT (v := .bool _) rfl h31 rfl) ?_
    refine s_val (v_move (v := .bool _) rfl) ?_
    refine s_splitR (s := 39) rfl (fun h39 => ?_) (fun h39 => ?_)
    · refine s_pass rfl rfl h39 ?_
      refine s_pass rfl rfl h39 ?_
      refine s_pass rfl rfl h39 ?_
      refine s_pass rfl rfl h39 ?_
      refine s_pass rfl rfl h39 ?_
      refine s_pass rfl rfl h39 ?_
      refine s_pass rfl rfl h39 ?_
      refine s_val (v_pickF (v := .bool _) rfl h39 rfl) ?_
      refine s_val (v_assign (v := .bool _) rfl) ?_
      refine s_end ?_
      refine n_cut ⟨_, live4 rfl (congrArg Value.bool (by simp only [hRow, *, Bool.true_and, Bool.false_and, Bool.and_true, Bool.and_false, Bool.not_true, Bool.not_false, Bool.true_or, Bool.or_true, Bool.false_or, Bool.or_false, cond_true, cond_false, if_true, if_false, Bool.false_eq_true, decide_true, decide_false])) rfl rfl⟩ (fun _ hw => hw)
    refine s_want rfl rfl h39 ?_
    refine s_val (v_move (v := .int .i64 _) rfl) ?_
    refine s_want rfl rfl h39 ?_
    refine s_val (v_move (v := .int .i64 _) rfl) ?_
    refine s_want rfl rfl h39 ?_
    refine s_val (v_field (fo := 8) (by kernel_rfl) rfl) ?_
    refine s_want rfl rfl h39 ?_
    refine s_val (v_idxA (len := 4) (size := 4) (k := .i64) (by kernel_rfl) rfl rfl (by assumption)) ?_
    refine s_want rfl rfl h39 ?_
    refine s_val (v_idxA (len := 4) (size := 1) (k := .i64) (by kernel_rfl) rfl rfl (by assumption)) ?_
    refine s_want rfl rfl h39 ?_
    refine s_val (v_load1 (v := .int .i64 _) (by kernel_rfl) rfl .here (H.at_sent _ (by assumption) (by assumption))) ?_
    refine s_want rfl rfl h39 ?_
    refine s_val (v_eql (k := .i64) rfl rfl) ?_
    refine s_val (v_pickT (v := .bool _) rfl h39 rfl) ?_
    refine s_val (v_assign (v := .bool _) rfl) ?_
    refine s_end ?_
    refine n_cut ⟨_, live4 rfl (congrArg Value.bool (by simp only [hRow, *, Bool.true_and, Bool.false_and, Bool.and_true, Bool.and_false, Bool.not_true, Bool.not_false, Bool.true_or, Bool.or_true, Bool.false_or, Bool.or_false, cond_true, cond_false, if_true, if_false, Bool.false_eq_true, decide_true, decide_false])) rfl rfl⟩ (fun _ hw => hw)
  rintro _ ⟨g, rfl⟩
  refine r_seq (by kernel_rfl) ?_
  refine s_val (v_move (v := .int .i64 _) rfl) ?_
  refine s_nil ?_
  refine c_block ?_
  refine c_loop (σ := Nat) (fun (m : Nat) f => ∃ g, (m ≤ 4) ∧ f = (upd (upd (upd (upd (upd g 1 (.pointer (some ⟨b1, 0, none⟩))) 3 (.bool (hRow h k (hAll h k) m))) 4 (I k)) 19 (I k)) 48 (I m))) (fun (m : Nat) => Has w (At w) [(b1, .cells h.cells 29)]) (fun (m : Nat) => 4 - m) 0 ⟨_, Nat.zero_le _, live5 rfl rfl rfl rfl rfl⟩ (fun w hw => hw) ?_
  rintro m _ ⟨g, hml, rfl⟩
  refine r_seq (by kernel_rfl) ?_
  refine s_val (v_lss (k := .i64) rfl rfl) ?_
  refine s_nil ?_
  refine c_seq ?_
  refine c_condR rfl rfl (fun h49 => ?_) (fun h49 => ?_)
  · obtain rfl : m = 4 := by have := of_decide_eq_false h49; omega
    refine c_exit ?_
    refine n_exit ?_
    refine n_exit ?_
    refine n_bhere ?_
    refine n_bnormal ?_
    refine n_then ?_
    refine r_list (by kernel_rfl) ?_
    refine s_val (v_add rfl rfl (by omega)) ?_
    refine s_val (v_move (v := .int .i64 _) rfl) ?_
    refine s_end ?_
    refine n_round (k + 1) ⟨_, (by omega), live3 rfl rfl rfl⟩ (fun _ hw => hw) (by omega)
  have hm0 := of_decide_eq_true h49
  have hm : 0 ≤ (m : Int) ∧ (m : Int) < 4 := ⟨by omega, by omega⟩
  refine c_skip ?_
  refine n_then ?_
  refine c_seq ?_
  refine c_block ?_
  refine r_seq (by kernel_rfl) ?_
  refine s_val (v_move (v := .int .i64 _) rfl) ?_
  refine s_val (v_assign (v := .int .i64 _) rfl) ?_
  refine s_nil ?_
  refine c_cutN (fun f => ∃ g, f = (upd (upd (upd (upd (upd g 1 (.pointer (some ⟨b1, 0, none⟩))) 3 (.bool (hRow h k (hAll h k) (m + 1)))) 4 (I k)) 19 (I k)) 48 (I m))) (Has w (At w) [(b1, .cells h.cells 29)]) ?_ ?_
  · refine r_list (by kernel_rfl) ?_
    refine s_val (v_move (v := .bool _) rfl) ?_
    refine s_val (v_move (v := .bool _) rfl) ?_
    refine s_splitR (s := 52) rfl (fun h52 => ?_) (fun h52 => ?_)
    · refine s_pass rfl rfl h52 ?_
      refine s_pass rfl rfl h52 ?_
      refine s_pass rfl rfl h52 ?_
      refine s_pass rfl rfl h52 ?_
      refine s_pass rfl rfl h52 ?_
      refine s_pass rfl rfl h52 ?_
      refine s_pass rfl rfl h52 ?_
      refine s_val (v_pickF (v := .bool _) rfl h52 rfl) ?_
      refine s_val (v_move (v := .bool _) rfl) ?_
      refine s_pass (g := false) rfl rfl rfl ?_
      refine s_pass (g := false) rfl rfl rfl ?_
      refine s_pass (g := false) rfl rfl rfl ?_
      refine s_pass (g := false) rfl rfl rfl ?_
      refine s_pass (g := false) rfl rfl rfl ?_
      refine s_pass (g := false) rfl rfl rfl ?_
      refine s_pass (g := false) rfl rfl rfl ?_
      refine s_val (v_pickF (v := .bool _) rfl rfl rfl) ?_
      refine s_val (v_assign (v := .bool _) rfl) ?_
      refine s_end ?_
      refine n_cut ⟨_, live5 rfl (congrArg Value.bool (by simp only [hRow, *, Bool.true_and, Bool.false_and, Bool.and_true, Bool.and_false, Bool.not_true, Bool.not_false, Bool.true_or, Bool.or_true, Bool.false_or, Bool.or_false, cond_true, cond_false, if_true, if_false, Bool.false_eq_true, decide_true, decide_false])) rfl rfl rfl⟩ (fun _ hw => hw)
    refine s_want rfl rfl h52 ?_
    refine s_val (v_move (v := .int .i64 _) rfl) ?_
    refine s_want rfl rfl h52 ?_
    refine s_val (v_move (v := .int .i64 _) rfl) ?_
    refine s_want rfl rfl h52 ?_
    refine s_val (v_field (fo := 8) (by kernel_rfl) rfl) ?_
    refine s_want rfl rfl h52 ?_
    refine s_val (v_idxA (len := 4) (size := 4) (k := .i64) (by kernel_rfl) rfl rfl (by assumption)) ?_
    refine s_want rfl rfl h52 ?_
    refine s_val (v_idxA (len := 4) (size := 1) (k := .i64) (by kernel_rfl) rfl rfl (by assumption)) ?_
    refine s_want rfl rfl h52 ?_
    refine s_val (v_load1 (v := .int .i64 _) (by kernel_rfl) rfl .here (H.at_sent _ (by assumption) (by assumption))) ?_
    refine s_want rfl rfl h52 ?_
    refine s_call (by kernel_rfl) (fun w hw => gr_within _ _ _ w) ?_
    refine s_val (v_pickT (v := .bool _) rfl h52 rfl) ?_
    refine s_val (v_move (v := .bool _) rfl) ?_
    refine s_splitR (s := 61) rfl (fun h61 => ?_) (fun h61 => ?_)
    · refine s_pass rfl rfl h61 ?_
      refine s_pass rfl rfl h61 ?_
      refine s_pass rfl rfl h61 ?_
      refine s_pass rfl rfl h61 ?_
      refine s_pass rfl rfl h61 ?_
      refine s_pass rfl rfl h61 ?_
      refine s_pass rfl rfl h61 ?_
      refine s_val (v_pickF (v := .bool _) rfl h61 rfl) ?_
      refine s_val (v_assign (v := .bool _) rfl) ?_
      refine s_end ?_
      refine n_cut ⟨_, live5 rfl (congrArg Value.bool (by simp only [hRow, *, Bool.true_and, Bool.false_and, Bool.and_true, Bool.and_false, Bool.not_true, Bool.not_false, Bool.true_or, Bool.or_true, Bool.false_or, Bool.or_false, cond_true, cond_false, if_true, if_false, Bool.false_eq_true, decide_true, decide_false])) rfl rfl rfl⟩ (fun _ hw => hw)
    refine s_want rfl rfl h61 ?_
    refine s_val (v_move (v := .int .i64 _) rfl) ?_
    refine s_want rfl rfl h61 ?_
    refine s_val (v_move (v := .int .i64 _) rfl) ?_
    refine s_want rfl rfl h61 ?_
    refine s_val (v_field (fo := 24) (by kernel_rfl) rfl) ?_
    refine s_want rfl rfl h61 ?_
    refine s_val (v_idxA (len := 4) (size := 4) (k := .i64) (by kernel_rfl) rfl rfl (by assumption)) ?_
    refine s_want rfl rfl h61 ?_
    refine s_val (v_idxA (len := 4) (size := 1) (k := .i64) (by kernel_rfl) rfl rfl (by assumption)) ?_
    refine s_want rfl rfl h61 ?_
    refine s_val (v_load1 (v := .int .i64 _) (by kernel_rfl) rfl .here (H.at_lim _ (by assumption) (by assumption))) ?_
    refine s_want rfl rfl h61 ?_
    refine s_call (by kernel_rfl) (fun w hw => gr_within _ _ _ w) ?_
    refine s_val (v_pickT (v := .bool _) rfl h61 rfl) ?_
    refine s_val (v_assign (v := .bool _) rfl) ?_
    refine s_end ?_
    refine n_cut ⟨_, live5 rfl (congrArg Value.bool (by simp only [hRow, *, Bool.true_and, Bool.false_and, Bool.and_true, Bool.and_false, Bool.not_true, Bool.not_false, Bool.true_or, Bool.or_true, Bool.false_or, Bool.or_false, cond_true, cond_false, if_true, if_false, Bool.false_eq_true, decide_true, decide_false])) rfl rfl rfl⟩ (fun _ hw => hw)
  rintro _ ⟨g, rfl⟩
  refine n_bnormal ?_
  refine n_then ?_
  refine r_list (by kernel_rfl) ?_
  refine s_val (v_add rfl rfl (by omega)) ?_
  refine s_val (v_move (v := .int .i64 _) rfl) ?_
  refine s_end ?_
  refine n_round (m + 1) ⟨_, (by omega), live5 rfl rfl rfl rfl rfl⟩ (fun _ hw => hw) (by omega)

end Go.Proofs.Ytmkboljfbmlebaa
