/- What knotUnties_holds stands on, part 7: each part says what it proves. No condition beside those that it names. -/
import Derived.Test.YtmkboljfbmlebaaPL86
/- Contract of the document side IsHouse. Condition: the payments lie in memory that is known. -/
namespace Go.Proofs.Ytmkboljfbmlebaa
open Go.RowKit
set_option linter.unusedSimpArgs false
set_option linter.unusedVariables false
set_option maxRecDepth 100000
attribute [local irreducible] cC sC nC rC qw

theorem gr_IsHouse (h : H) (ps : List PayS) (w : World) (hp : PaysIn (At w) h.pa h.pl ps) (hb : h.pl * 48 ≤ 281474976710656) (hlc : h.pl ≤ h.pc) : Gives Try.prog 16 [.agg h.cells] w (.bool (isHouseB h ps)) := by
  refine gives_of Try.func16 rfl Try.ntmps16 (by simp) ?_
  refine r_seq (by kernel_rfl) ?_
  refine s_box (v := .agg _) rfl (fun b1 => ?_)
  refine s_val (v_assign (v := .bool _) rfl) ?_
  refine s_nil ?_
  refine c_cut (fun f => ∃ g, f = (upd (upd g 1 (.pointer (some ⟨b1, 0, none⟩))) 3 (.bool (hB0 h)))) (Has w (At w) [(b1, .cells h.cells 29)]) ?_ ?_
  · refine r_list (by kernel_rfl) ?_
    refine s_val (v_field (fo := 40) (by kernel_rfl) rfl) ?_
    refine s_val (v_load1 (v := .slice _ _ _) (by kernel_rfl) rfl .here (H.at_pays _)) ?_
    refine s_val (v_lenS (T := 27) (m := 6) (by kernel_rfl) rfl rfl) ?_
    refine s_val (v_lss (k := .i64) rfl rfl) ?_
    refine s_val (v_move (v := .bool _) rfl) ?_
    refine s_splitR (s := 14) rfl (fun h14 => ?_) (fun h14 => ?_)
    · refine s_pass rfl rfl h14 ?_
      refine s_pass rfl rfl h14 ?_
      refine s_pass rfl rfl h14 ?_
      refine s_val (v_pickF (v := .bool _) rfl h14 rfl) ?_
      refine s_val (v_assign (v := .bool _) rfl) ?_
      refine s_end ?_
      refine n_cut ⟨_, live2 rfl (congrArg Value.bool (by simp only [hB0, *, Bool.true_and, Bool.false_and, Bool.and_true, Bool.and_false, Bool.not_true, Bool.not_false, Bool.true_or, Bool.or_true, Bool.false_or, Bool.or_false, cond_true, cond_false, if_true, if_false, Bool.false_eq_true, decide_true, decide_false]))⟩ (fun _ hw => hw)
    refine s_want rfl rfl h14 ?_
    refine s_val (v_field (fo := 41) (by kernel_rfl) rfl) ?_
    refine s_want rfl rfl h14 ?_
    refine s_val (v_load1 (v := .int .i64 _) (by kernel_rfl) rfl .here (H.at_next _)) ?_
    refine s_want rfl rfl h14 ?_
    refine s_call (by kernel_rfl) (fun w hw => gr_within _ _ _ w) ?_
    refine s_val (v_pickT (v := .bool _) rfl h14 rfl) ?_
    refine s_val (v_assign (v := .bool _) rfl) ?_
    refine s_end ?_
    refine n_cut ⟨_, live2 rfl (congrArg Value.bool (by simp only [hB0, *, Bool.true_and, Bool.false_and, Bool.and_true, Bool.and_false, Bool.not_true, Bool.not_false, Bool.true_or, Bool.or_true, Bool.false_or, Bool.or_false, cond_true, cond_false, if_true, if_false, Bool.false_eq_true, decide_true, decide_false]))⟩ (fun _ hw => hw)
  rintro _ ⟨g, rfl⟩
  refine c_seq ?_
  refine r_seq (by kernel_rfl) ?_
  refine s_val (v_move (v := .int .i64 _) rfl) ?_
  refine s_nil ?_
  refine c_block ?_
  refine c_loop (σ := Nat) (fun (k : Nat) f => ∃ g, (k ≤ 4) ∧ f = (upd (upd (upd g 1 (.pointer (some ⟨b1, 0, none⟩))) 3 (.bool (hAll h k))) 19 (I k))) (fun (k : Nat) => Has w (At w) [(b1, .cells h.cells 29)]) (fun (k : Nat) => 4 - k) 0 ⟨_, Nat.zero_le _, live3 rfl rfl rfl⟩ (fun w hw => hw) ?_
  rintro k _ ⟨g, hkl, rfl⟩
  refine r_seq (by kernel_rfl) ?_
  refine s_val (v_lss (k := .i64) rfl rfl) ?_
  refine s_nil ?_
  refine c_seq ?_
  refine c_condR rfl rfl (fun h20 => ?_) (fun h20 => ?_)
  · obtain rfl : k = 4 := by have := of_decide_eq_false h20; omega
    refine c_exit ?_
    refine n_exit ?_
    refine n_exit ?_
    refine n_bhere ?_
    refine n_then ?_
    refine c_seq ?_
    refine r_seq (by kernel_rfl) ?_
    refine s_val (v_field (fo := 40) (by kernel_rfl) rfl) ?_
    refine s_val (v_load1 (v := .slice _ _ _) (by kernel_rfl) rfl .here (H.at_pays _)) ?_
    refine s_val (v_lenS (T := 27) (m := 6) (by kernel_rfl) rfl rfl) ?_
    refine s_val (v_move (v := .int .i64 _) rfl) ?_
    refine s_nil ?_
    refine c_block ?_
    refine c_loop (σ := Nat) (fun (j : Nat) f => ∃ g, (j ≤ h.pl) ∧ f = (upd (upd (upd (upd (upd g 1 (.pointer (some ⟨b1, 0, none⟩))) 3 (.bool (hPto h ps j))) 73 (.slice h.pa h.pl h.pc)) 74 (I h.pl)) 75 (I j))) (fun (j : Nat) => Has w (At w) [(b1, .cells h.cells 29)]) (fun (j : Nat) => h.pl - j) 0 ⟨_, Nat.zero_le _, live5 rfl rfl rfl rfl rfl⟩ (fun w hw => hw) ?_
    rintro j _ ⟨g, hjl, rfl⟩
    refine r_seq (by kernel_rfl) ?_
    refine s_val (v_lss (k := .i64) rfl rfl) ?_
    refine s_nil ?_
    refine c_seq ?_
    refine c_condR rfl rfl (fun h76 => ?_) (fun h76 => ?_)
    · have hjj : j = h.pl := by have := of_decide_eq_false h76; omega
      refine c_exit ?_
      refine n_exit ?_
      refine n_exit ?_
      refine n_bhere ?_
      refine n_then ?_
      refine r_seq (by kernel_rfl) ?_
      refine s_val (v_move (v := .bool _) rfl) ?_
      refine s_val (v_assign (v := .bool _) rfl) ?_
      refine s_nil ?_
      refine c_ret ?_
      refine n_done rfl (by decide) (Eq.trans (b := .bool _) rfl (congrArg Value.bool ?_))
      unfold isHouseB
      rw [hp.1, ← hjj]
    have hj0 := of_decide_eq_true h76
    obtain ⟨p, hpk, hd, ht⟩ := hp.get (k := j) (by omega)
    obtain ⟨b, o, hpa, hc⟩ := hp.some (k := j) (by omega)
    refine c_skip ?_
    refine n_then ?_
    refine c_seq ?_
    refine c_block ?_
    refine r_seq (by kernel_rfl) ?_
    refine s_val (v_move (v := .int .i64 _) rfl) ?_
    refine s_val (v_idxS (size := 6) (k := .i64) (by kernel_rfl) (congrArg (fun a => Value.slice a h.pl h.pc) hpa) rfl ⟨by omega, by omega⟩) ?_
    refine s_val (v_loadNo (cs := p.cells) (m := 6) (by kernel_rfl) rfl rfl (hc j p hpk)) ?_
    refine s_alloc (z := zeroOf Try.prog 36) (by kernel_rfl) (fun b7 => ?_)
    refine s_val (v_assign (v := .int .i64 _) rfl) ?_
    refine s_storeA (m := 6) (by kernel_rfl) rfl rfl .here (by kernel_rfl) rfl (PayS.all1 _) ?_
    refine s_nil ?_
    refine c_cut (fun f => ∃ g, f = (upd (upd (upd (upd (upd (upd (upd g 1 (.pointer (some ⟨b1, 0, none⟩))) 3 (.bool (hPto h ps j && isPayB p && decide (p.seq < h.next)))) 6 (I j)) 7 (.pointer (some ⟨b7, 0, none⟩))) 73 (.slice h.pa h.pl h.pc)) 74 (I h.pl)) 75 (I j))) (Has w (At w) [(b7, .cells p.cells 36), (b1, .cells h.cells 29)]) ?_ ?_
    · refine r_list (by kernel_rfl) ?_
      refine s_val (v_move (v := .bool _) rfl) ?_
      refine s_val (v_move (v := .bool _) rfl) ?_
      refine s_splitR (s := 81) rfl (fun h81 => ?_) (fun h81 => ?_)
      · refine s_pass rfl rfl h81 ?_
        refine s_pass rfl rfl h81 ?_
        refine s_val (v_pickF (v := .bool _) rfl h81 rfl) ?_
        refine s_val (v_move (v := .bool _) rfl) ?_
        refine s_pass (g := false) rfl rfl rfl ?_
        refine s_pass (g := false) rfl rfl rfl ?_
        refine s_pass (g := false) rfl rfl rfl ?_
        refine s_pass (g := false) rfl rfl rfl ?_
        refine s_pass (g := false) rfl rfl rfl ?_
        refine s_val (v_pickF (v := .bool _) rfl rfl rfl) ?_
        refine s_val (v_assign (v := .bool _) rfl) ?_
        refine s_end ?_
        refine n_cut ⟨_, live7 rfl (congrArg Value.bool (by simp only [*, Bool.true_and, Bool.false_and, Bool.and_true, Bool.and_false, Bool.not_true, Bool.not_false, Bool.true_or, Bool.or_true, Bool.false_or, Bool.or_false, cond_true, cond_false, if_true, if_false, Bool.false_eq_true, decide_true, decide_false])) rfl rfl rfl rfl rfl⟩ (fun _ hw => hw)
      refine s_want rfl rfl h81 ?_
      refine s_val (v_loadA (m := 6) (by kernel_rfl) rfl .here rfl) ?_
      refine s_want rfl rfl h81 ?_
      refine s_call (by kernel_rfl) (fun w hw => gr_IsPay _ w) ?_
      refine s_val (v_pickT (v := .bool _) rfl h81 rfl) ?_
      refine s_val (v_move (v := .bool _) rfl) ?_
      refine s_splitR (s := 85) rfl (fun h85 => ?_) (fun h85 => ?_)
      · refine s_pass rfl rfl h85 ?_
        refine s_pass rfl rfl h85 ?_
        refine s_pass rfl rfl h85 ?_
        refine s_pass rfl rfl h85 ?_
        refine s_pass rfl rfl h85 ?_
        refine s_val (v_pickF (v := .bool _) rfl h85 rfl) ?_
        refine s_val (v_assign (v := .bool _) rfl) ?_
        refine s_end ?_
        refine n_cut ⟨_, live7 rfl (congrArg Value.bool (by simp only [*, Bool.true_and, Bool.false_and, Bool.and_true, Bool.and_false, Bool.not_true, Bool.not_false, Bool.true_or, Bool.or_true, Bool.false_or, Bool.or_false, cond_true, cond_false, if_true, if_false, Bool.false_eq_true, decide_true, decide_false])) rfl rfl rfl rfl rfl⟩ (fun _ hw => hw)
      refine s_want rfl rfl h85 ?_
      refine s_val (v_field (fo := 5) (by kernel_rfl) rfl) ?_
      refine s_want rfl rfl h85 ?_
      refine s_val (v_load1 (v := .int .i64 _) (by kernel_rfl) rfl .here rfl) ?_
      refine s_want rfl rfl h85 ?_
      refine s_val (v_field (fo := 41) (by kernel_rfl) rfl) ?_
      refine s_want rfl rfl h85 ?_
      refine s_val (v_load1 (v := .int .i64 _) (by kernel_rfl) rfl (.there .here) (H.at_next _)) ?_
      refine s_want rfl rfl h85 ?_
      refine s_val (v_lss (k := .i64) rfl rfl) ?_
      refine s_val (v_pickT (v := .bool _) rfl h85 rfl) ?_
      refine s_val (v_assign (v := .bool _) rfl) ?_
      refine s_end ?_
      refine n_cut ⟨_, live7 rfl (congrArg Value.bool (by simp only [*, Bool.true_and, Bool.false_and, Bool.and_true, Bool.and_false, Bool.not_true, Bool.not_false, Bool.true_or, Bool.or_true, Bool.false_or, Bool.or_false, cond_true, cond_false, if_true, if_false, Bool.false_eq_true, decide_true, decide_false])) rfl rfl rfl rfl rfl⟩ (fun _ hw => hw)
    rintro _ ⟨g, rfl⟩
    refine r_seq (by kernel_rfl) ?_
    refine s_val (v_field (fo := 40) (by kernel_rfl) rfl) ?_
    refine s_val (v_load1 (v := .slice _ _ _) (by kernel_rfl) rfl (.there .here) (H.at_pays _)) ?_
    refine s_val (v_move (v := .int .i64 _) rfl) ?_
    refine s_val (v_sliceHi (m := 6) (by kernel_rfl) rfl rfl ⟨by omega, by omega⟩) ?_
    refine s_val (v_lenS (T := 27) (m := 6) (by kernel_rfl) rfl rfl) ?_
    refine s_val (v_move (v := .int .i64 _) rfl) ?_
    refine s_nil ?_
    refine c_block ?_
    refine c_loop (σ := Nat) (fun (m : Nat) f => ∃ g, (m ≤ j) ∧ f = (upd (upd (upd (upd (upd (upd (upd (upd (upd g 1 (.pointer (some ⟨b1, 0, none⟩))) 3 (.bool (pin p (hPto h ps j && isPayB p && decide (p.seq < h.next)) (ps.take m)))) 7 (.pointer (some ⟨b7, 0, none⟩))) 73 (.slice h.pa h.pl h.pc)) 74 (I h.pl)) 75 (I j)) 95 (.slice h.pa j h.pc)) 96 (I j)) 97 (I m))) (fun (m : Nat) => Has w (At w) [(b7, .cells p.cells 36), (b1, .cells h.cells 29)]) (fun (m : Nat) => j - m) 0 ⟨_, Nat.zero_le _, live9 rfl rfl rfl rfl rfl rfl rfl rfl rfl⟩ (fun w hw => hw) ?_
    rintro m _ ⟨g, hml, rfl⟩
    refine r_seq (by kernel_rfl) ?_
    refine s_val (v_lss (k := .i64) rfl rfl) ?_
    refine s_nil ?_
    refine c_seq ?_
    refine c_condR rfl rfl (fun h98 => ?_) (fun h98 => ?_)
    · obtain rfl : j = m := by have := of_decide_eq_false h98; omega
      refine c_exit ?_
      refine n_exit ?_
      refine n_exit ?_
      refine n_bhere ?_
      refine n_bnormal ?_
      refine n_then ?_
      refine r_list (by kernel_rfl) ?_
      refine s_val (v_add rfl rfl (by omega)) ?_
      refine s_val (v_move (v := .int .i64 _) rfl) ?_
      refine s_end ?_
      refine n_round (j + 1) ⟨_, (by omega), live5 rfl (congrArg Value.bool (hPto_succ hpk).symm) rfl rfl rfl⟩ (fun _ hw => hw.tail) (by omega)
    have hm0 := of_decide_eq_true h98
    obtain ⟨q, hqk, hdq, htq⟩ := hp.get (k := m) (by omega)
    refine c_skip ?_
    refine n_then ?_
    refine c_seq ?_
    refine c_block ?_
    refine r_seq (by kernel_rfl) ?_
    refine s_val (v_idxS (size := 6) (k := .i64) (by kernel_rfl) (congrArg (fun a => Value.slice a j h.pc) hpa) rfl ⟨by omega, by omega⟩) ?_
    refine s_val (v_loadNo (cs := q.cells) (m := 6) (by kernel_rfl) rfl rfl (hc m q hqk)) ?_
    refine s_alloc (z := zeroOf Try.prog 36) (by kernel_rfl) (fun b9 => ?_)
    refine s_storeA (m := 6) (by kernel_rfl) rfl rfl .here (by kernel_rfl) rfl (PayS.all1 _) ?_
    refine s_nil ?_
    refine c_cutN (fun f => ∃ g, f = (upd (upd (upd (upd (upd (upd (upd (upd (upd g 1 (.pointer (some ⟨b1, 0, none⟩))) 3 (.bool (pin p (hPto h ps j && isPayB p && decide (p.seq < h.next)) (ps.take (m + 1))))) 7 (.pointer (some ⟨b7, 0, none⟩))) 73 (.slice h.pa h.pl h.pc)) 74 (I h.pl)) 75 (I j)) 95 (.slice h.pa j h.pc)) 96 (I j)) 97 (I m))) (Has w (At w) [(b9, .cells q.cells 36), (b7, .cells p.cells 36), (b1, .cells h.cells 29)]) ?_ ?_
    · refine r_list (by kernel_rfl) ?_
      refine s_val (v_move (v := .bool _) rfl) ?_
      refine s_val (v_move (v := .bool _) rfl) ?_
      refine s_splitR (s := 102) rfl (fun h102 => ?_) (fun h102 => ?_)
      · refine s_pass rfl rfl h102 ?_
        refine s_pass rfl rfl h102 ?_
        refine s_pass rfl rfl h102 ?_
        refine s_pass rfl rfl h102 ?_
        refine s_pass rfl rfl h102 ?_
        refine s_val (v_pickF (v := .bool _) rfl h102 rfl) ?_
        refine s_val (v_assign (v := .bool _) rfl) ?_
        refine s_end ?_
        refine n_cut ⟨_, live9 rfl (congrArg Value.bool (by rw [htq, pin_snoc]; simp only [*, Bool.true_and, Bool.false_and, Bool.and_true, Bool.and_false, Bool.not_true, Bool.not_false, Bool.true_or, Bool.or_true, Bool.false_or, Bool.or_false, cond_true, cond_false, if_true, if_false, Bool.false_eq_true, decide_true, decide_false])) rfl rfl rfl rfl rfl rfl rfl⟩ (fun _ hw => hw)
      refine s_want rfl rfl h102 ?_
      refine s_val (v_field (fo := 5) (by kernel_rfl) rfl) ?_
      refine s_want rfl rfl h102 ?_
      refine s_val (v_load1 (v := .int .i64 _) (by kernel_rfl) rfl (.there .here) rfl) ?_
      refine s_want rfl rfl h102 ?_
      refine s_val (v_field (fo := 5) (by kernel_rfl) rfl) ?_
      refine s_want rfl rfl h102 ?_
      refine s_val (v_load1 (v := .int .i64 _) (by kernel_rfl) rfl .here rfl) ?_
      refine s_want rfl rfl h102 ?_
      refine s_val (v_neq (k := .i64) rfl rfl) ?_
      refine s_val (v_pickT (v := .bool _) rfl h102 rfl) ?_
      refine s_val (v_assign (v := .bool _) rfl) ?_
      refine s_end ?_
      refine n_cut ⟨_, live9 rfl (congrArg Value.bool (by rw [htq, pin_snoc]; simp only [*, Bool.true_and, Bool.false_and, Bool.and_true, Bool.and_false, Bool.not_true, Bool.not_false, Bool.true_or, Bool.or_true, Bool.false_or, Bool.or_false, cond_true, cond_false, if_true, if_false, Bool.false_eq_true, decide_true, decide_false])) rfl rfl rfl rfl rfl rfl rfl⟩ (fun _ hw => hw)
    rintro _ ⟨g, rfl⟩
    refine n_bnormal ?_
    refine n_then ?_
    refine r_list (by kernel_rfl) ?_
    refine s_val (v_add rfl rfl (by omega)) ?_
    refine s_val (v_move (v := .int .i64 _) rfl) ?_
    refine s_end ?_
    refine n_round (m + 1) ⟨_, (by omega), live9 rfl rfl rfl rfl rfl rfl rfl rfl rfl⟩ (fun _ hw => hw.tail) (by omega)
  have hk0 := of_decide_eq_true h20
  have hi : 0 ≤ (k : Int) ∧ (k : Int) < 4 := ⟨by omega, by omega⟩
  refine c_skip ?_
  refine n_then ?_
  refine c_seq ?_
  refine c_block ?_
  refine r_seq (by kernel_rfl) ?_
  refine s_val (v_move (v := .int .i64 _) rfl) ?_
  refine s_val (v_assign (v := .int .i64 _) rfl) ?_
  refine s_nil ?_
  refine c_cut (fun f => ∃ g, f = (upd (upd (upd (upd g 1 (.pointer (some ⟨b1, 0, none⟩))) 3 (.bool (hRow h k (hAll h k) 0))) 4 (I k)) 19 (I k))) (Has w (At w) [(b1, .cells h.cells 29)]) ?_ ?_
  · refine r_list (by kernel_rfl) ?_
    refine s_val (v_move (v := .bool _) rfl) ?_
    refine s_val (v_move (v := .bool _) rfl) ?_
    refine s_splitR (s := 23) rfl (fun h23 => ?_) (fun h23 => ?_)
    · refine s_pass rfl rfl h23 ?_
      refine s_pass rfl rfl h23 ?_
      refine s_pass rfl rfl h23 ?_
      refine s_pass rfl rfl h23 ?_
      refine s_pass rfl rfl h23 ?_
      refine s_pass rfl rfl h23 ?_
      refine s_val (v_pickF (v := .bool _) rfl h23 rfl) ?_
      refine s_val (v_move (v := .bool _) rfl) ?_
      refine s_pass (g := false) rfl rfl rfl ?_
      refine s_pass (g := false) rfl rfl rfl ?_
      refine s_pass (g := false) rfl rfl rfl ?_
      refine s_pass (g := false) rfl rfl rfl ?_
      refine s_pass (g := false) rfl rfl rfl ?_
      refine s_pass (g := false) rfl rfl rfl ?_
      refine s_val (v_pickF (v := .bool _) rfl rfl rfl) ?_
      refine s_val (v_move (v := .bool _) rfl) ?_
      refine s_pass (g := false) rfl rfl rfl ?_
      refine s_pass (g := false) rfl rfl rfl ?_
      refine s_pass (g := false) rfl rfl rfl ?_
      refine s_pass (g := false) rfl rfl rfl ?_
      refine s_pass (g := false) rfl rfl rfl ?_
      refine s_pass (g := false) rfl rfl rfl ?_
      refine s_pass (g := false) rfl rfl rfl ?_
      refine s_val (v_pickF (v := .bool _) rfl rfl rfl) ?_
      refine s_val (v_assign (v := .bool _) rfl) ?_
      refine s_end ?_
      refine n_cut ⟨_, live4 rfl (congrArg Value.bool (by simp only [hRow, *, Bool.true_and, Bool.false_and, Bool.and_true, Bool.and_false, Bool.not_true, Bool.not_false, Bool.true_or, Bool.or_true, Bool.false_or, Bool.or_false, cond_true, cond_false, if_true, if_false, Bool.false_eq_true, decide_true, decide_false])) rfl rfl⟩ (fun _ hw => hw)
    refine s_want rfl rfl h23 ?_
    refine s_val (v_move (v := .int .i64 _) rfl) ?_
    refine s_want rfl rfl h23 ?_
    refine s_val (v_field (fo := 0) (by kernel_rfl) rfl) ?_
    refine s_want rfl rfl h23 ?_
    refine s_val (v_idxA (len := 4) (size := 2) (k := .i64) (by kernel_rfl) rfl rfl (by assumption)) ?_
    refine s_want rfl rfl h23 ?_
    refine s_val (v_field (fo := 0) (by kernel_rfl) rfl) ?_
    refine s_want rfl rfl h23 ?_
    refine s_val (v_load1 (v := .int .i64 _) (by kernel_rfl) rfl .here (H.at_has _ (by assumption))) ?_
    refine s_want rfl rfl h23 ?_
    refine s_call (by kernel_rfl) (fun w hw => gr_within _ _ _ w) ?_
    refine s_val (v_pickT (v := .bool _) rfl h23 rfl) ?_
    refine s_val (v_move (v := .bool _) rfl) ?_
    refine s_splitR (s := 31) rfl (fun h31 => ?_) (fun h31 => ?_)
    · refine s_pass rfl rfl h31 ?_
      refine s_pass rfl rfl h31 ?_
      refine s_pass rfl rfl h31 ?_
      refine s_pass rfl rfl h31 ?_
      refine s_pass rfl rfl h31 ?_
      refine s_pass rfl rfl h31 ?_
      refine s_val (v_pickF (v := .bool _) rfl h31 rfl) ?_
      refine s_val (v_move (v := .bool _) rfl) ?_
      refine s_pass (g := false) rfl rfl rfl ?_
      refine s_pass (g := false) rfl rfl rfl ?_
      refine s_pass (g := false) rfl rfl rfl ?_
      refine s_pass (g := false) rfl rfl rfl ?_
      refine s_pass (g := false) rfl rfl rfl ?_
      refine s_pass (g := false) rfl rfl rfl ?_
      refine s_pass (g := false) rfl rfl rfl ?_
      refine s_val (v_pickF (v := .bool _) rfl rfl rfl) ?_
      refine s_val (v_assign (v := .bool _) rfl) ?_
      refine s_end ?_
      refine n_cut ⟨_, live4 rfl (congrArg Value.bool (by simp only [hRow, *, Bool.true_and, Bool.false_and, Bool.and_true, Bool.and_false, Bool.not_true, Bool.not_false, Bool.true_or, Bool.or_true, Bool.false_or, Bool.or_false, cond_true, cond_false, if_true, if_false, Bool.false_eq_true, decide_true, decide_false])) rfl rfl⟩ (fun _ hw => hw)
    refine s_want rfl rfl h31 ?_
    refine s_val (v_move (v := .int .i64 _) rfl) ?_
    refine s_want rfl rfl h31 ?_
    refine s_val (v_field (fo := 0) (by kernel_rfl) rfl) ?_
    refine s_want rfl rfl h31 ?_
    refine s_val (v_idxA (len := 4) (size := 2) (k := .i64) (by kernel_rfl) rfl rfl (by assumption)) ?_
    refine s_want rfl rfl h31 ?_
    refine s_val (v_field (fo := 1) (by kernel_rfl) rfl) ?_
    refine s_want rfl rfl h31 ?_
    refine s_val (v_load1 (v := .int .i64 _) (by kernel_rfl) rfl .here (H.at_cred _ (by assumption))) ?_
    refine s_want rfl rfl h31 ?_
    refine s_call (by kernel_rfl) (fun w hw => gr_within _ _ _ w) ?_
    refine s_val (v_pickT (v := .bool _) rfl h31 rfl) ?_
    refine s_val (v_move (v := .bool _) rfl) ?_
    refine s_splitR (s := 39) rfl (fun h39 => ?_) (fun h39 => ?_)
    · refine s_pass rfl rfl h39 ?_
      refine s_pass rfl rfl h39 ?_
      refine s_pass rfl rfl h39 ?_
      refine s_pass rfl rfl h39 ?_
      refine s_pass rfl rfl h39 ?_
      refine s_pass rfl rfl h39 ?_
      refine s_pass rfl rfl h39 ?_
      refine s_val (v_pickF (v := .bool _) rfl h39 rfl) ?_
      refine s_val (v_assign (v := .bool _) rfl) ?_
      refine s_end ?_
      refine n_cut ⟨_, live4 rfl (congrArg Value.bool (by simp only [hRow, *, Bool.true_and, Bool.false_and, Bool.and_true, Bool.and_false, Bool.not_true, Bool.not_false, Bool.true_or, Bool.or_true, Bool.false_or, Bool.or_false, cond_true, cond_false, if_true, if_false, Bool.false_eq_true, decide_true, decide_false])) rfl rfl⟩ (fun _ hw => hw)
    refine s_want rfl rfl h39 ?_
    refine s_val (v_move (v := .int .i64 _) rfl) ?_
    refine s_want rfl rfl h39 ?_
    refine s_val (v_move (v := .int .i64 _) rfl) ?_
    refine s_want rfl rfl h39 ?_
    refine s_val (v_field (fo := 8) (by kernel_rfl) rfl) ?_
    refine s_want rfl rfl h39 ?_
    refine s_val (v_idxA (len := 4) (size := 4) (k := .i64) (by kernel_rfl) rfl rfl (by assumption)) ?_
    refine s_want rfl rfl h39 ?_
    refine s_val (v_idxA (len := 4) (size := 1) (k := .i64) (by kernel_rfl) rfl rfl (by assumption)) ?_
    refine s_want rfl rfl h39 ?_
    refine s_val (v_load1 (v := .int .i64 _) (by kernel_rfl) rfl .here (H.at_sent _ (by assumption) (by assumption))) ?_
    refine s_want rfl rfl h39 ?_
    refine s_val (v_eql (k := .i64) rfl rfl) ?_
    refine s_val (v_pickT (v := .bool _) rfl h39 rfl) ?_
    refine s_val (v_assign (v := .bool _) rfl) ?_
    refine s_end ?_
    refine n_cut ⟨_, live4 rfl (congrArg Value.bool (by simp only [hRow, *, Bool.true_and, Bool.false_and, Bool.and_true, Bool.and_false, Bool.not_true, Bool.not_false, Bool.true_or, Bool.or_true, Bool.false_or, Bool.or_false, cond_true, cond_false, if_true, if_false, Bool.false_eq_true, decide_true, decide_false])) rfl rfl⟩ (fun _ hw => hw)
  rintro _ ⟨g, rfl⟩
  refine r_seq (by kernel_rfl) ?_
  refine s_val (v_move (v := .int .i64 _) rfl) ?_
  refine s_nil ?_
  refine c_block ?_
  refine c_loop (σ := Nat) (fun (m : Nat) f => ∃ g, (m ≤ 4) ∧ f = (upd (upd (upd (upd (upd g 1 (.pointer (some ⟨b1, 0, none⟩))) 3 (.bool (hRow h k (hAll h k) m))) 4 (I k)) 19 (I k)) 48 (I m))) (fun (m : Nat) => Has w (At w) [(b1, .cells h.cells 29)]) (fun (m : Nat) => 4 - m) 0 ⟨_, Nat.zero_le _, live5 rfl rfl rfl rfl rfl⟩ (fun w hw => hw) ?_
  rintro m _ ⟨g, hml, rfl⟩
  refine r_seq (by kernel_rfl) ?_
  refine s_val (v_lss (k := .i64) rfl rfl) ?_
  refine s_nil ?_
  refine c_seq ?_
  refine c_condR rfl rfl (fun h49 => ?_) (fun h49 => ?_)
  · obtain rfl : m = 4 := by have := of_decide_eq_false h49; omega
    refine c_exit ?_
    refine n_exit ?_
    refine n_exit ?_
    refine n_bhere ?_
    refine n_bnormal ?_
    refine n_then ?_
    refine r_list (by kernel_rfl) ?_
    refine s_val (v_add rfl rfl (by omega)) ?_
    refine s_val (v_move (v := .int .i64 _) rfl) ?_
    refine s_end ?_
    refine n_round (k + 1) ⟨_, (by omega), live3 rfl rfl rfl⟩ (fun _ hw => hw) (by omega)
  have hm0 := of_decide_eq_true h49
  have hm : 0 ≤ (m : Int) ∧ (m : Int) < 4 := ⟨by omega, by omega⟩
  refine c_skip ?_
  refine n_then ?_
  refine c_seq ?_
  refine c_block ?_
  refine r_seq (by kernel_rfl) ?_
  refine s_val (v_move (v := .int .i64 _) rfl) ?_
  refine s_val (v_assign (v := .int .i64 _) rfl) ?_
  refine s_nil ?_
  refine c_cutN (fun f => ∃ g, f = (upd (upd (upd (upd (upd g 1 (.pointer (some ⟨b1, 0, none⟩))) 3 (.bool (hRow h k (hAll h k) (m + 1)))) 4 (I k)) 19 (I k)) 48 (I m))) (Has w (At w) [(b1, .cells h.cells 29)]) ?_ ?_
  · refine r_list (by kernel_rfl) ?_
    refine s_val (v_move (v := .bool _) rfl) ?_
    refine s_val (v_move (v := .bool _) rfl) ?_
    refine s_splitR (s := 52) rfl (fun h52 => ?_) (fun h52 => ?_)
    · refine s_pass rfl rfl h52 ?_
      refine s_pass rfl rfl h52 ?_
      refine s_pass rfl rfl h52 ?_
      refine s_pass rfl rfl h52 ?_
      refine s_pass rfl rfl h52 ?_
      refine s_pass rfl rfl h52 ?_
      refine s_pass rfl rfl h52 ?_
      refine s_val (v_pickF (v := .bool _) rfl h52 rfl) ?_
      refine s_val (v_move (v := .bool _) rfl) ?_
      refine s_pass (g := false) rfl rfl rfl ?_
      refine s_pass (g := false) rfl rfl rfl ?_
      refine s_pass (g := false) rfl rfl rfl ?_
      refine s_pass (g := false) rfl rfl rfl ?_
      refine s_pass (g := false) rfl rfl rfl ?_
      refine s_pass (g := false) rfl rfl rfl ?_
      refine s_pass (g := false) rfl rfl rfl ?_
      refine s_val (v_pickF (v := .bool _) rfl rfl rfl) ?_
      refine s_val (v_assign (v := .bool _) rfl) ?_
      refine s_end ?_
      refine n_cut ⟨_, live5 rfl (congrArg Value.bool (by simp only [hRow, *, Bool.true_and, Bool.false_and, Bool.and_true, Bool.and_false, Bool.not_true, Bool.not_false, Bool.true_or, Bool.or_true, Bool.false_or, Bool.or_false, cond_true, cond_false, if_true, if_false, Bool.false_eq_true, decide_true, decide_false])) rfl rfl rfl⟩ (fun _ hw => hw)
    refine s_want rfl rfl h52 ?_
    refine s_val (v_move (v := .int .i64 _) rfl) ?_
    refine s_want rfl rfl h52 ?_
    refine s_val (v_move (v := .int .i64 _) rfl) ?_
    refine s_want rfl rfl h52 ?_
    refine s_val (v_field (fo := 8) (by kernel_rfl) rfl) ?_
    refine s_want rfl rfl h52 ?_
    refine s_val (v_idxA (len := 4) (size := 4) (k := .i64) (by kernel_rfl) rfl rfl (by assumption)) ?_
    refine s_want rfl rfl h52 ?_
    refine s_val (v_idxA (len := 4) (size := 1) (k := .i64) (by kernel_rfl) rfl rfl (by assumption)) ?_
    refine s_want rfl rfl h52 ?_
    refine s_val (v_load1 (v := .int .i64 _) (by kernel_rfl) rfl .here (H.at_sent _ (by assumption) (by assumption))) ?_
    refine s_want rfl rfl h52 ?_
    refine s_call (by kernel_rfl) (fun w hw => gr_within _ _ _ w) ?_
    refine s_val (v_pickT (v := .bool _) rfl h52 rfl) ?_
    refine s_val (v_move (v := .bool _) rfl) ?_
    refine s_splitR (s := 61) rfl (fun h61 => ?_) (fun h61 => ?_)
    · refine s_pass rfl rfl h61 ?_
      refine s_pass rfl rfl h61 ?_
      refine s_pass rfl rfl h61 ?_
      refine s_pass rfl rfl h61 ?_
      refine s_pass rfl rfl h61 ?_
      refine s_pass rfl rfl h61 ?_
      refine s_pass rfl rfl h61 ?_
      refine s_val (v_pickF (v := .bool _) rfl h61 rfl) ?_
      refine s_val (v_assign (v := .bool _) rfl) ?_
      refine s_end ?_
      refine n_cut ⟨_, live5 rfl (congrArg Value.bool (by simp only [hRow, *, Bool.true_and, Bool.false_and, Bool.and_true, Bool.and_false, Bool.not_true, Bool.not_false, Bool.true_or, Bool.or_true, Bool.false_or, Bool.or_false, cond_true, cond_false, if_true, if_false, Bool.false_eq_true, decide_true, decide_false])) rfl rfl rfl⟩ (fun _ hw => hw)
    refine s_want rfl rfl h61 ?_
    refine s_val (v_move (v := .int .i64 _) rfl) ?_
    refine s_want rfl rfl h61 ?_
    refine s_val (v_move (v := .int .i64 _) rfl) ?_
    refine s_want rfl rfl h61 ?_
    refine s_val (v_field (fo := 24) (by kernel_rfl) rfl) ?_
    refine s_want rfl rfl h61 ?_
    refine s_val (v_idxA (len := 4) (size := 4) (k := .i64) (by kernel_rfl) rfl rfl (by assumption)) ?_
    refine s_want rfl rfl h61 ?_
    refine s_val (v_idxA (len := 4) (size := 1) (k := .i64) (by kernel_rfl) rfl rfl (by assumption)) ?_
    refine s_want rfl rfl h61 ?_
    refine s_val (v_load1 (v := .int .i64 _) (by kernel_rfl) rfl .here (H.at_lim _ (by assumption) (by assumption))) ?_
    refine s_want rfl rfl h61 ?_
    refine s_call (by kernel_rfl) (fun w hw => gr_within _ _ _ w) ?_
    refine s_val (v_pickT (v := .bool _) rfl h61 rfl) ?_
    refine s_val (v_assign (v := .bool _) rfl) ?_
    refine s_end ?_
    refine n_cut ⟨_, live5 rfl (congrArg Value.bool (by simp only [hRow, *, Bool.true_and, Bool.false_and, Bool.and_true, Bool.and_false, Bool.not_true, Bool.not_false, Bool.true_or, Bool.or_true, Bool.false_or, Bool.or_false, cond_true, cond_false, if_true, if_false, Bool.false_eq_true, decide_true, decide_false])) rfl rfl rfl⟩ (fun _ hw => hw)
  rintro _ ⟨g, rfl⟩
  refine n_bnormal ?_
  refine n_then ?_
  refine r_list (by kernel_rfl) ?_
  refine s_val (v_add rfl rfl (by omega)) ?_
  refine s_val (v_move (v := .int .i64 _) rfl) ?_
  refine s_end ?_
  refine n_round (m + 1) ⟨_, (by omega), live5 rfl rfl rfl rfl rfl⟩ (fun _ hw => hw) (by omega)

end Go.Proofs.Ytmkboljfbmlebaa
/- Lists that the call itself grows, and calls that hand back memory of their own. No condition. -/
namespace Go.Proofs.Ytmkboljfbmlebaa
open Go.RowKit
set_option linter.unusedSimpArgs false
set_option linter.unusedVariables false

/-! own blocks in another order, or fewer of them -/
theorem Has.perm {w0 w : World} {F : Addr → Value → Prop} {L L' : List (Nat × Obj)} (h : Has w0 F L w) (hp : L.Perm L') : Has w0 F L' w :=
  ⟨h.1, (hp.map _).nodup_iff.1 h.2.1, fun p hq => h.2.2.1 p (hp.mem_iff.2 hq), fun a v hF => ⟨(h.2.2.2 a v hF).1, fun hm => (h.2.2.2 a v hF).2 ((hp.map _).mem_iff.2 hm)⟩⟩
theorem Has.sub {w0 w : World} {F : Addr → Value → Prop} {L L' : List (Nat × Obj)} (h : Has w0 F L w) (hs : L'.Sublist L) : Has w0 F L' w :=
  ⟨h.1, (hs.map _).nodup h.2.1, fun p hq => h.2.2.1 p (hs.subset hq), fun a v hF => ⟨(h.2.2.2 a v hF).1, fun hm => (h.2.2.2 a v hF).2 ((hs.map _).subset hm)⟩⟩
theorem Has.right {w0 w : World} {F : Addr → Value → Prop} {E L : List (Nat × Obj)} (h : Has w0 F (E ++ L) w) : Has w0 F L w := h.sub (List.sublist_append_right _ _)
theorem Look.app {E L : List (Nat × Obj)} {b : Nat} {o : Obj} (h : Look L b o) : Look (E ++ L) b o := by
  induction E with
  | nil => exact h
  | cons p r ih => exact .there ih
theorem Turn.app {E L L' : List (Nat × Obj)} {b : Nat} {o o' : Obj} (h : Turn L b o o' L') : Turn (E ++ L) b o o' (E ++ L') := by
  induction E with
  | nil => exact h
  | cons p r ih => exact .there ih
theorem look_of_mem {L : List (Nat × Obj)} {b : Nat} {o : Obj} (h : (b, o) ∈ L) : Look L b o := by
  induction L with
  | nil => cases h
  | cons p r ih =>
    rcases List.mem_cons.1 h with rfl | h
    · exact .here
    · exact .there (ih h)
theorem Look.left {E L : List (Nat × Obj)} {b : Nat} {o : Obj} (h : Look E b o) : Look (E ++ L) b o := look_of_mem (List.mem_append_left _ h.mem)
/-- the blocks of a call that was called are new to its caller -/
def NewBlocks (w w' : World) (E : List (Nat × Obj)) : Prop := (E.map (·.1)).Nodup ∧ ∀ p ∈ E, w.heap.size ≤ p.1 ∧ w'.heap[p.1]? = some p.2
theorem Has.gain {w0 w w' : World} {F : Addr → Value → Prop} {E L : List (Nat × Obj)} (h : Has w0 F L w) (hb : Bel w.heap.size w w') (hE : NewBlocks w w' E) : Has w0 F (E ++ L) w' := by
  have h' := h.below hb
  refine ⟨h'.1, ?_, ?_, ?_⟩
  · rw [List.map_append, List.nodup_append]
    refine ⟨hE.1, h.2.1, fun a ha b hb' e => ?_⟩
    subst e
    obtain ⟨p, hp, rfl⟩ := List.mem_map.1 ha
    obtain ⟨q, hq, e⟩ := List.mem_map.1 hb'
    have h1 := (hE.2 p hp).1
    have h2 := (Array.getElem?_eq_some_iff.1 (h.2.2.1 q hq).2).1
    omega
  · intro p hp
    rcases List.mem_append.1 hp with hp | hp
    · exact ⟨Nat.le_trans h.1.size (hE.2 p hp).1, (hE.2 p hp).2⟩
    · exact h'.2.2.1 p hp
  · intro a v hF
    refine ⟨(h'.2.2.2 a v hF).1, ?_⟩
    rw [List.map_append, List.mem_append]
    rintro (hm | hm)
    · obtain ⟨p, hp, e⟩ := List.mem_map.1 hm
      have h1 := (hE.2 p hp).1
      have h2 := cell_lt (h.2.2.2 a v hF).1
      omega
    · exact (h'.2.2.2 a v hF).2 hm
/-- what the blocks hold is known -/
def Knows (F : Addr → Value → Prop) (E : List (Nat × Obj)) : Prop := ∀ b cs t fr, (b, Obj.cells cs t fr) ∈ E → ∀ (j : Nat) (v : Value), cs[j]? = some v → F ⟨b, j, none⟩ v
theorem Has.forget {w0 w : World} {F : Addr → Value → Prop} {E L : List (Nat × Obj)} (h : Has w0 F (E ++ L) w) : Has w0 (Out L w) L w ∧ More F (Out L w) ∧ Knows (Out L w) E := by
  refine ⟨⟨h.1, h.right.2.1, h.right.2.2.1, fun a v hF => hF⟩, fun a v hF => h.right.2.2.2 a v hF, fun b cs t fr hm j v hv => ⟨?_, ?_⟩⟩
  · rw [cell_of_row w b j cs t fr (h.2.2.1 _ (List.mem_append_left _ hm)).2]; exact hv
  · have hn := h.2.1
    rw [List.map_append, List.nodup_append] at hn
    exact fun hm' => hn.2.2 b (List.mem_map_of_mem (f := (·.1)) hm) b hm' rfl

/-! a list of rows of m cells, in a block of the call's own or in none -/
def ListE (e m : Nat) (v : Value) (n : Nat) (xs : List Value) (E : List (Nat × Obj)) : Prop :=
  xs.length = n * m ∧ ((v = .slice none 0 0 ∧ n = 0 ∧ E = []) ∨
    ∃ g cap cur, v = .slice (some ⟨g, 0, none⟩) n cap ∧ E = [(g, .cells cur e (0, 0))] ∧ n ≤ cap ∧ cap ≤ maxLen ∧ cur.size = cap * m ∧ cur.toList.take (n * m) = xs)
theorem listE_nil (e m : Nat) : ListE e m (.slice none 0 0) 0 [] [] := ⟨by simp, .inl ⟨rfl, rfl, rfl⟩⟩
theorem ListE.shape {e m n : Nat} {v : Value} {xs : List Value} {E : List (Nat × Obj)} (h : ListE e m v n xs E) : ∃ a c, v = .slice a n c := by
  rcases h.2 with ⟨rfl, rfl, _⟩ | ⟨g, cap, cur, rfl, _⟩
  · exact ⟨none, 0, rfl⟩
  · exact ⟨_, _, rfl⟩

def rowB (P : Program) (T e m by_ : Nat) : Bool := match P.underlying T with
  | some (.slice e') => Nat.beq e' e && (match P.info? e with | some i => Nat.beq i.size m && Nat.beq i.bytes by_ && (match i.zero with | some z => Nat.beq z.cells.size m | _ => false) | none => false)
  | _ => false
theorem rowB_spec {P : Program} {T e m by_ : Nat} (h : rowB P T e m by_ = true) : ∃ i z, P.underlying T = some (.slice e) ∧ P.info? e = some i ∧ i.size = m ∧ i.bytes = by_ ∧ i.zero = some z ∧ z.cells.size = m := by
  unfold rowB at h
  split at h
  · rename_i e' hu
    simp only [Bool.and_eq_true] at h
    obtain ⟨h1, h2⟩ := h
    have := Nat.eq_of_beq_eq_true h1
    subst this
    split at h2
    · rename_i i hi
      simp only [Bool.and_eq_true] at h2
      obtain ⟨⟨h3, h4⟩, h5⟩ := h2
      split at h5
      · rename_i z hz
        exact ⟨i, z, hu, hi, Nat.eq_of_beq_eq_true h3, Nat.eq_of_beq_eq_true h4, hz, Nat.eq_of_beq_eq_true h5⟩
      · cases h5
    · cases h2
  · cases h

section
variable {P : Program} {ops : Array Oper} {K : (Nat → Value) → World → Prop} {rest : List Oper} {f : Nat → Value} {d : Nat} {ty : TypeId} {pos : String} {af : Array Edge} {w0 : World} {F : Addr → Value → Prop} {E L : List (Nat × Obj)}

/-- a list of one row -/
theorem s_build1 {T e m by_ : Nat} {x : Operand} {v : Value} (hT : rowB P T e m by_ = true) (hm : (Nat.ble 1 m && Nat.ble m 1000) = true) (hx : ev f x = v) (hs : v.cells.size = m)
    (hz : ∀ z : Array Value, z.size = m → Instr.fill (fun i => some (i * m, m)) ((Array.range (1 * m)).map (z[· % z.size]!)) [(0, v)] = some v.cells)
    (kk : ∀ b, sC P ops K rest (upd f d (.slice (some ⟨b, 0, none⟩) 1 1)) (Has w0 F ((b, .cells v.cells e) :: L))) :
    sC P ops K (⟨some d, .buildSlice T 1 #[(0, x)], ty, pos, af, none⟩ :: rest) f (Has w0 F L) := by
  intro w hw
  obtain ⟨i, z, hu, hi, h1, h2, h3, h4⟩ := rowB_spec hT
  simp only [Bool.and_eq_true, Nat.ble_eq] at hm
  have : (Instr.buildSlice T 1 #[(0, v)]).run P w = .ok (.slice (some ⟨w.heap.size, 0, none⟩) 1 1) (w.alloc (.cells v.cells e)) := by
    have hsmall : ¬ (2 ^ 24 < 1 * i.size) := by rw [h1]; omega
    have hpos : ¬ 1 * i.size = 0 := by rw [h1]; omega
    simp [Instr.buildSlice, run_underlying hu, sizeOf, typeInfo, zeroValue, hi, h3, newRow]
    rw [h1]
    have hz' := hz z.cells h4
    rw [Nat.one_mul] at hz'
    rw [if_neg (show ¬ 16777216 < m by omega), if_neg (show ¬ m = 0 by omega)]
    simp [hz']
  unfold sw
  rw [if_pos wanted_free]
  unfold opk
  have hr : (execOp (ev f) ⟨some d, .buildSlice T 1 #[(0, x)], ty, pos, af, none⟩).run P w = .ok (.value (.slice (some ⟨w.heap.size, 0, none⟩) 1 1)) (w.alloc (.cells v.cells e)) := by
    simp [execOp, hx, this]
  rw [hr]
  exact kk _ _ (hw.alloc _)
theorem fill_scalar {v : Value} (h : v.cells = #[v]) (z : Array Value) (hz : z.size = 1) : Instr.fill (fun i => some (i * 1, 1)) ((Array.range (1 * 1)).map (z[· % z.size]!)) [(0, v)] = some v.cells := by
  have : (Array.range (1 * 1)).map (z[· % z.size]!) = #[z[0]!] := by
    have : Array.range (1 * 1) = #[0] := rfl
    rw [this]; simp [hz]
  rw [this]
  simp [Instr.fill, h]

theorem all_scalar {v : Value} (h : v.cells = #[v]) (h1 : v.oneCell' = true) : v.cells.all (·.oneCell') = true := by rw [h]; simp [h1]
/-- rows that stand in memory are set behind a list of the call's own -/
theorem run_appendE {w : World} {T e m by_ n mm c : Nat} {ty : TypeId} {v : Value} {xs news : List Value} {b o : Nat} (hT : rowB P T e m by_ = true) (hm : 0 < m) (hE : ListE e m v n xs E) (hw : Has w0 F (E ++ L) w)
    (hl : news.length = mm * m) (hnews : ∀ j u, news[j]? = some u → w.cell? ⟨b, o + j, none⟩ = some u) (h1 : ∀ u ∈ news, u.oneCell' = true) (hpos : 0 < mm) (hbytes : (n + mm) * by_ ≤ 140737488355328) (hbb : 0 < by_) :
    ∃ v' E' w', (Builtin.append_ #[T, T] ty #[v, .slice (some ⟨b, o, none⟩) mm c]).run P w = .ok v' w' ∧ ListE e m v' (n + mm) (xs ++ news) E' ∧ Has w0 F (E' ++ L) w' := by
  obtain ⟨i, z, hu, hi, hs, hby, hz, hzs⟩ := rowB_spec hT
  subst hs
  subst hby
  have hle : n + mm ≤ 140737488355328 := Nat.le_trans (Nat.le_mul_of_pos_right _ hbb) hbytes
  have h63 : n + mm ≤ maxLen := by simp only [maxLen]; omega
  have hnews' : ∀ j u, news[j]? = some u → w.cell? ((⟨b, o, none⟩ : Addr).add j) = some u := fun j u hu => by rw [add_off]; exact hnews j u hu
  have hlen : (xs ++ news).length = (n + mm) * i.size := by rw [List.length_append, hE.1, hl, Nat.add_mul]
  have new : ∀ old, old < n + mm → ListE e i.size (.slice (some ⟨w.heap.size, 0, none⟩) (n + mm) (grownCap w (n + mm) old e)) (n + mm) (xs ++ news)
      [(w.heap.size, .cells (xs.toArray ++ news.toArray ++ Builtin.zeroCells z.cells (grownCap w (n + mm) old e - (n + mm))) e)] := by
    intro old ho
    have hge := grownCap_ge w (n + mm) old e
    have hcm : grownCap w (n + mm) old e ≤ maxLen := grownCap_le_maxLen w (n + mm) old e h63
    refine ⟨hlen, .inr ⟨_, _, _, rfl, rfl, hge, hcm, ?_, ?_⟩⟩
    · simp only [Array.size_append, List.size_toArray, size_zeroCells, hzs, hE.1, hl, ← Nat.add_mul]
      congr 1
      omega
    · simp only [Array.toList_append, List.append_assoc]
      rw [← List.append_assoc, ← hlen]
      exact List.take_left
  have hnewW : ∀ o, Has w0 F ((w.heap.size, o) :: L) (w.drew.alloc o) := fun o => hw.right.drew.alloc o
  rcases hE.2 with ⟨rfl, rfl, rfl⟩ | ⟨g, cap, cur, rfl, rfl, hnc, hcm, hcs, htake⟩
  · have hx : xs = [] := List.eq_nil_of_length_eq_zero (by simpa using hE.1)
    subst hx
    have hr := run_append_nil (P := P) w T ty e i z hu hi hz ⟨b, o, none⟩ mm c news hl hnews' hpos (by omega) (by simp only [Nat.zero_add] at hbytes; omega)
    have hn := new 0 (by omega)
    simp only [Nat.zero_add, List.nil_append, Array.empty_append] at hn hr ⊢
    exact ⟨_, _, _, hr, hn, hnewW _⟩
  · have hg : w.heap[g]? = some (.cells cur e (0, 0)) := hw.look .here
    by_cases hroom : n + mm ≤ cap
    · have hfit : n * i.size + news.length ≤ cur.size := by rw [hl, hcs, ← Nat.add_mul]; exact Nat.mul_le_mul_right _ hroom
      have hr := run_append_room (P := P) w T ty e i hu hi g n cap cur hg ⟨b, o, none⟩ mm c news hl hnews' h1 hroom hfit
      refine ⟨_, [(g, .cells (cur.toList.take (n * i.size) ++ news ++ cur.toList.drop (n * i.size + news.length)).toArray e (0, 0))], _, hr, ⟨hlen, .inr ⟨g, cap, _, rfl, rfl, hroom, hcm, ?_, ?_⟩⟩, ?_⟩
      · simp only [List.size_toArray, List.length_append, List.length_take, List.length_drop, Array.length_toList]
        omega
      · rw [htake, ← hlen]
        exact List.take_left
      · exact hw.turn (L' := _ :: L) .here rfl rfl rfl (by simp) (setRow_heap w g cur _ e _ hg) (fun k hk => setRow_other w g k _ hk)
    · have holds : ∀ j u, xs[j]? = some u → w.cell? ((⟨g, 0, none⟩ : Addr).add j) = some u := fun j u hu => by
        rw [add_off, Nat.zero_add, cell_of_row w g j cur e (0, 0) hg]
        rw [← htake, List.getElem?_take] at hu
        split at hu
        · simpa using hu
        · cases hu
      have hr := run_append_grow (P := P) w T ty e i z hu hi hz ⟨g, 0, none⟩ n cap xs hE.1 holds ⟨b, o, none⟩ mm c news hl hnews' (by omega) (by omega) (growslice_fits (by omega) hbytes)
      exact ⟨_, _, _, hr, new cap (by omega), hnewW _⟩

/-- the row just built is set behind the list, and its own block is forgotten -/
theorem s_push {T e m by_ n : Nat} {ats : Array TypeId} {x y : Operand} {v : Value} {xs : List Value} {b : Nat} {cs : Array Value} (hT : rowB P T e m by_ = true) (hm : Nat.ble 1 m = true) (hbb : Nat.ble 1 by_ = true) (hat : ats = #[T, T])
    (hx : ev f x = v) (hy : ev f y = .slice (some ⟨b, 0, none⟩) 1 1) (hE : ListE e m v n xs E) (hs : cs.size = m) (h1 : cs.all (·.oneCell') = true) (hbytes : (n + 1) * by_ ≤ 140737488355328)
    (kk : ∀ v' E', ListE e m v' (n + 1) (xs ++ cs.toList) E' → sC P ops K rest (upd f d v') (Has w0 F (E' ++ L))) :
    sC P ops K (⟨some d, .call ⟨.builtin .append, #[x, y], ats⟩, ty, pos, af, none⟩ :: rest) f (Has w0 F ((b, .cells cs e) :: (E ++ L))) := by
  intro w hw
  subst hat
  unfold sw
  rw [if_pos wanted_free]
  unfold opk
  obtain ⟨v', E', w', hr, hE', hw'⟩ := run_appendE (P := P) (w0 := w0) (F := F) (L := L) (c := 1) (ty := ty) (b := b) (o := 0) (mm := 1) (news := cs.toList) hT (Nat.le_of_ble_eq_true hm) hE hw.tail (by simp [hs]) (fun j u hj => by
    rw [Nat.zero_add, cell_has hw .here]; simpa using hj) (fun u hu => by rw [Array.all_eq_true_iff_forall_mem] at h1; exact h1 u (by simpa using hu)) (by omega) hbytes (Nat.le_of_ble_eq_true hbb)
  have : (execOp (ev f) ⟨some d, .call ⟨.builtin .append, #[x, y], #[T, T]⟩, ty, pos, af, none⟩).run P w = .ok (.value v') w' := by
    simp [execOp, resolve, invoke, builtin, hx, hy, hr]
  rw [this]
  exact kk v' E' hE' w' hw'
end

/-! calls that hand back a value and blocks of their own -/
structure GivesE (P : Program) (k : FuncId) (args : List Value) (w : World) (R : Value → List (Nat × Obj) → Prop) : Prop where
  out : Calls P k args.toArray w fun e w' => ∃ v E, e = .returned v ∧ Bel w.heap.size w w' ∧ NewBlocks w w' E ∧ R v E
theorem GivesE.mono {P : Program} {k : FuncId} {args : List Value} {w : World} {R R' : Value → List (Nat × Obj) → Prop} (h : GivesE P k args w R) (hr : ∀ v E, R v E → R' v E) : GivesE P k args w R' :=
  ⟨h.out.mono fun e w' ⟨v, E, h1, h2, h3, h4⟩ => ⟨v, E, h1, h2, h3, hr v E h4⟩⟩
theorem givesE_of {P : Program} {k : FuncId} {fn : Func} {c : Code} {n : Nat} {args : List Value} {w : World} {R : Value → List (Nat × Obj) → Prop}
    (hf : P.funcs[k]? = some fn) (hb : fn.body = some c) (hn : fn.ntmps = n) (hl : args.length ≤ n)
    (h : cC P n c (retQ P fn n (fun v w' => ∃ E, Bel w.heap.size w w' ∧ NewBlocks w w' E ∧ R v E)) (argF args) (Has w (At w) [])) : GivesE P k args w R :=
  ⟨(givesR_of hf hb hn hl h).out.mono fun e w' ⟨v, he, E, h1, h2, h3⟩ => ⟨v, E, he, h1, h2, h3⟩⟩
theorem Has.new {w0 w : World} {F : Addr → Value → Prop} {E L : List (Nat × Obj)} (h : Has w0 F (E ++ L) w) : NewBlocks w0 w E :=
  ⟨(h.sub (List.sublist_append_left _ _)).2.1, (h.sub (List.sublist_append_left _ _)).2.2.1⟩
section
variable {P : Program} {ops : Array Oper} {K : (Nat → Value) → World → Prop} {rest : List Oper} {f : Nat → Value} {d : Nat} {ty : TypeId} {pos : String} {af : Array Edge} {w0 : World} {F : Addr → Value → Prop} {L : List (Nat × Obj)}
/-- .. which stay the caller's own -/
theorem s_callE {k : FuncId} {xs : List Operand} {ats : Array TypeId} {R : Value → List (Nat × Obj) → Prop} (hk : hasBody P k = true) (hg : ∀ w, Has w0 F L w → GivesE P k (xs.map (ev f)) w R)
    (kk : ∀ (v : Value) (E : List (Nat × Obj)), R v E → sC P ops K rest (upd f d v) (Has w0 F (E ++ L))) :
    sC P ops K (⟨some d, .call ⟨.value (.func k), xs.toArray, ats⟩, ty, pos, af, none⟩ :: rest) f (Has w0 F L) := by
  intro w hw
  unfold sw
  rw [if_pos wanted_free]
  unfold opk
  rw [run_call hk w]
  refine (hg w hw).out.mono fun e w' ⟨v, E, he, hb, hn, hr⟩ => ⟨_, he, ?_⟩
  exact kk v E hr w' (hw.gain hb hn)
/-- .. of which only what they hold is kept in mind -/
theorem s_callF {k : FuncId} {xs : List Operand} {ats : Array TypeId} {R : Value → List (Nat × Obj) → Prop} (hk : hasBody P k = true) (hg : ∀ w, Has w0 F L w → GivesE P k (xs.map (ev f)) w R)
    (kk : ∀ (F' : Addr → Value → Prop) (v : Value) (E : List (Nat × Obj)), More F F' → Knows F' E → R v E → sC P ops K rest (upd f d v) (Has w0 F' L)) :
    sC P ops K (⟨some d, .call ⟨.value (.func k), xs.toArray, ats⟩, ty, pos, af, none⟩ :: rest) f (Has w0 F L) := by
  intro w hw
  unfold sw
  rw [if_pos wanted_free]
  unfold opk
  rw [run_call hk w]
  refine (hg w hw).out.mono fun e w' ⟨v, E, he, hb, hn, hr⟩ => ⟨_, he, ?_⟩
  obtain ⟨h1, h2, h3⟩ := (hw.gain hb hn).forget
  exact kk _ v E h2 h3 hr w' h1
end
/-- a function with one result in a slot -/
theorem n_doneE {P : Program} {fn : Func} {n t : Nat} {f : Nat → Value} {w0 : World} {F : Addr → Value → Prop} {E L : List (Nat × Obj)} {R : Value → List (Nat × Obj) → Prop} (hr : fn.results = #[.tmp t]) (ht : t < n) (hv : R (f t) E) :
    nC (retQ P fn n (fun v w' => ∃ E, Bel w0.heap.size w0 w' ∧ NewBlocks w0 w' E ∧ R v E)) .ret f (Has w0 F (E ++ L)) :=
  fun w hw => ⟨f t, results_one hr ht w, E, hw.1, hw.new, hv⟩
/-- a function with one result in a variable -/
theorem n_doneCE {P : Program} {fn : Func} {n t T b m ty : Nat} {fr : Nat × Nat} {cs : Array Value} {f : Nat → Value} {w0 : World} {F : Addr → Value → Prop} {L E L' : List (Nat × Obj)} {R : Value → List (Nat × Obj) → Prop} (hr : fn.results = #[.cell t T]) (ht : t < n) (hp : f t = .pointer (some ⟨b, 0, none⟩))
    (hT : aggB P T m = true) (hl : Look L b (.cells cs ty fr)) (hm : cs.size = m) (hE : ∀ w, Has w0 F L w → Has w0 F (E ++ L') w) (hv : R (.agg cs) E) : nC (retQ P fn n (fun v w' => ∃ E, Bel w0.heap.size w0 w' ∧ NewBlocks w0 w' E ∧ R v E)) .ret f (Has w0 F L) := by
  intro w hw
  refine ⟨.agg cs, ?_, E, hw.1, (hE w hw).new, hv⟩
  have e : (Fa n f).tmps[t]?.getD undef = f t := by simp [Fa, ht]
  subst hm
  have := run_loadN (P := P) (w := w) (b := b) (o := 0) (cs := cs.toList) (by simpa using hT) (fun j v hj => by
    rw [cell_has hw hl]; simpa using hj)
  simp only [Instr.loadAt, Instr.sureAddr, Sem.run_bind, Sem.run_pure, Result.andThen] at this
  simp [results, hr, e, hp, asAddr, this]
/-- a function with two results, a struct in a variable and a slot -/
theorem n_done2 {P : Program} {fn : Func} {n t t2 T b m ty : Nat} {fr : Nat × Nat} {cs : Array Value} {f : Nat → Value} {w0 : World} {F : Addr → Value → Prop} {L E L' : List (Nat × Obj)} {R : Value → List (Nat × Obj) → Prop} (hr : fn.results = #[.cell t T, .tmp t2]) (ht : t < n) (ht2 : t2 < n) (hp : f t = .pointer (some ⟨b, 0, none⟩))
    (hT : aggB P T m = true) (hl : Look L b (.cells cs ty fr)) (hm : cs.size = m) (hE : ∀ w, Has w0 F L w → Has w0 F (E ++ L') w) (hv : R (.tuple #[.agg cs, f t2]) E) : nC (retQ P fn n (fun v w' => ∃ E, Bel w0.heap.size w0 w' ∧ NewBlocks w0 w' E ∧ R v E)) .ret f (Has w0 F L) := by
  intro w hw
  refine ⟨.tuple #[.agg cs, f t2], ?_, E, hw.1, (hE w hw).new, hv⟩
  have e : (Fa n f).tmps[t]?.getD undef = f t := by simp [Fa, ht]
  have e2 : (Fa n f).tmps[t2]?.getD undef = f t2 := by simp [Fa, ht2]
  subst hm
  have := run_loadN (P := P) (w := w) (b := b) (o := 0) (cs := cs.toList) (by simpa using hT) (fun j v hj => by
    rw [cell_has hw hl]; simpa using hj)
  simp only [Instr.loadAt, Instr.sureAddr, Sem.run_bind, Sem.run_pure, Result.andThen] at this
  simp [results, hr, e, e2, hp, asAddr, this]
/-! calls that hand back a value and memory that may be read -/
def Fresh (w w' : World) : Addr → Value → Prop := fun a v => w'.cell? a = some v ∧ w.heap.size ≤ a.block
structure GivesF (P : Program) (k : FuncId) (args : List Value) (w : World) (R : (Addr → Value → Prop) → Value → Prop) : Prop where
  out : Calls P k args.toArray w fun e w' => ∃ v, e = .returned v ∧ Bel w.heap.size w w' ∧ R (Fresh w w') v
/-- what is known more knows it too -/
def Mono (R : (Addr → Value → Prop) → Value → Prop) : Prop := ∀ F F' v, More F F' → R F v → R F' v
theorem Fresh.out {w0 w w' : World} {F : Addr → Value → Prop} {L : List (Nat × Obj)} (h : Has w0 F L w) : More (Fresh w w') (Out L w') := fun a v ⟨h1, h2⟩ => ⟨h1, fun hm => by
  obtain ⟨p, hp, e⟩ := List.mem_map.1 hm
  have := (Array.getElem?_eq_some_iff.1 (h.2.2.1 p hp).2).1
  omega⟩
theorem knows_fresh {w w' : World} {E : List (Nat × Obj)} (h : NewBlocks w w' E) : Knows (Fresh w w') E := fun b cs t fr hm j v hv =>
  ⟨by rw [cell_of_row w' b j cs t fr (h.2 _ hm).2]; exact hv, (h.2 _ hm).1⟩
theorem GivesE.toF {P : Program} {k : FuncId} {args : List Value} {w : World} {R : Value → List (Nat × Obj) → Prop} {R' : (Addr → Value → Prop) → Value → Prop} (h : GivesE P k args w R) (hr : ∀ F v E, Knows F E → R v E → R' F v) : GivesF P k args w R' :=
  ⟨h.out.mono fun e w' ⟨v, E, h1, h2, h3, h4⟩ => ⟨v, h1, h2, hr _ v E (knows_fresh h3) h4⟩⟩
theorem givesF_of {P : Program} {k : FuncId} {fn : Func} {c : Code} {n : Nat} {args : List Value} {w : World} {R : (Addr → Value → Prop) → Value → Prop}
    (hf : P.funcs[k]? = some fn) (hb : fn.body = some c) (hn : fn.ntmps = n) (hl : args.length ≤ n)
    (h : cC P n c (retQ P fn n (fun v w' => Bel w.heap.size w w' ∧ R (Fresh w w') v)) (argF args) (Has w (At w) [])) : GivesF P k args w R :=
  ⟨(givesR_of hf hb hn hl h).out.mono fun e w' ⟨v, he, h1, h2⟩ => ⟨v, he, h1, h2⟩⟩
/-- of what is known, what is younger than the call -/
def Young (w0 : World) (F : Addr → Value → Prop) : Addr → Value → Prop := fun a v => F a v ∧ w0.heap.size ≤ a.block
theorem s_callG {P : Program} {ops : Array Oper} {K : (Nat → Value) → World → Prop} {rest : List Oper} {f : Nat → Value} {d : Nat} {ty : TypeId} {pos : String} {af : Array Edge} {w0 : World} {F : Addr → Value → Prop} {L : List (Nat × Obj)}
    {k : FuncId} {xs : List Operand} {ats : Array TypeId} {R : (Addr → Value → Prop) → Value → Prop} (hk : hasBody P k = true) (hR : Mono R) (hg : ∀ w, Has w0 F L w → GivesF P k (xs.map (ev f)) w R)
    (kk : ∀ (F' : Addr → Value → Prop) (v : Value), More F F' → R (Young w0 F') v → sC P ops K rest (upd f d v) (Has w0 F' L)) :
    sC P ops K (⟨some d, .call ⟨.value (.func k), xs.toArray, ats⟩, ty, pos, af, none⟩ :: rest) f (Has w0 F L) := by
  intro w hw
  unfold sw
  rw [if_pos wanted_free]
  unfold opk
  rw [run_call hk w]
  refine (hg w hw).out.mono fun e w' ⟨v, he, hb, hr⟩ => ⟨_, he, ?_⟩
  obtain ⟨h1, h2⟩ := hw.learn hb
  exact kk _ v h2 (hR _ _ v (fun a v h => ⟨Fresh.out hw a v h, Nat.le_trans hw.1.size h.2⟩) hr) w' h1
theorem young_fresh {w0 w : World} {F : Addr → Value → Prop} {L : List (Nat × Obj)} (h : Has w0 F L w) : More (Young w0 F) (Fresh w0 w) := fun a v hy => ⟨(h.2.2.2 a v hy.1).1, hy.2⟩
theorem own_fresh {w0 w : World} {F : Addr → Value → Prop} {E L : List (Nat × Obj)} (h : Has w0 F (E ++ L) w) : Knows (Fresh w0 w) E := knows_fresh h.new
theorem n_doneF {P : Program} {fn : Func} {n t : Nat} {f : Nat → Value} {w0 : World} {F : Addr → Value → Prop} {L : List (Nat × Obj)} {R : (Addr → Value → Prop) → Value → Prop} (hr : fn.results = #[.tmp t]) (ht : t < n) (hv : ∀ w, Has w0 F L w → R (Fresh w0 w) (f t)) :
    nC (retQ P fn n (fun v w' => Bel w0.heap.size w0 w' ∧ R (Fresh w0 w') v)) .ret f (Has w0 F L) :=
  fun w hw => ⟨f t, results_one hr ht w, hw.1, hv w hw⟩
theorem n_doneCF {P : Program} {fn : Func} {n t T b m ty : Nat} {fr : Nat × Nat} {cs : Array Value} {f : Nat → Value} {w0 : World} {F : Addr → Value → Prop} {L : List (Nat × Obj)} {R : (Addr → Value → Prop) → Value → Prop} (hr : fn.results = #[.cell t T]) (ht : t < n) (hp : f t = .pointer (some ⟨b, 0, none⟩))
    (hT : aggB P T m = true) (hl : Look L b (.cells cs ty fr)) (hm : cs.size = m) (hv : ∀ w, Has w0 F L w → R (Fresh w0 w) (.agg cs)) : nC (retQ P fn n (fun v w' => Bel w0.heap.size w0 w' ∧ R (Fresh w0 w') v)) .ret f (Has w0 F L) := by
  intro w hw
  refine ⟨.agg cs, ?_, hw.1, hv w hw⟩
  have e : (Fa n f).tmps[t]?.getD undef = f t := by simp [Fa, ht]
  subst hm
  have := run_loadN (P := P) (w := w) (b := b) (o := 0) (cs := cs.toList) (by simpa using hT) (fun j v hj => by
    rw [cell_has hw hl]; simpa using hj)
  simp only [Instr.loadAt, Instr.sureAddr, Sem.run_bind, Sem.run_pure, Result.andThen] at this
  simp [results, hr, e, hp, asAddr, this]
theorem n_done2F {P : Program} {fn : Func} {n t t2 T b m ty : Nat} {fr : Nat × Nat} {cs : Array Value} {f : Nat → Value} {w0 : World} {F : Addr → Value → Prop} {L : List (Nat × Obj)} {R : (Addr → Value → Prop) → Value → Prop} (hr : fn.results = #[.cell t T, .tmp t2]) (ht : t < n) (ht2 : t2 < n) (hp : f t = .pointer (some ⟨b, 0, none⟩))
    (hT : aggB P T m = true) (hl : Look L b (.cells cs ty fr)) (hm : cs.size = m) (hv : ∀ w, Has w0 F L w → R (Fresh w0 w) (.tuple #[.agg cs, f t2])) : nC (retQ P fn n (fun v w' => Bel w0.heap.size w0 w' ∧ R (Fresh w0 w') v)) .ret f (Has w0 F L) := by
  intro w hw
  refine ⟨.tuple #[.agg cs, f t2], ?_, hw.1, hv w hw⟩
  have e : (Fa n f).tmps[t]?.getD undef = f t := by simp [Fa, ht]
  have e2 : (Fa n f).tmps[t2]?.getD undef = f t2 := by simp [Fa, ht2]
  subst hm
  have := run_loadN (P := P) (w := w) (b := b) (o := 0) (cs := cs.toList) (by simpa using hT) (fun j v hj => by
    rw [cell_has hw hl]; simpa using hj)
  simp only [Instr.loadAt, Instr.sureAddr, Sem.run_bind, Sem.run_pure, Result.andThen] at this
  simp [results, hr, e, e2, hp, asAddr, this]

/-! lists of numbers in memory that is known -/
def IntsIn (F : Addr → Value → Prop) (v : Value) (xs : List Int) : Prop := ∃ a c, v = .slice a xs.length c ∧ (xs = [] ∨ ∃ b o, a = some ⟨b, o, none⟩ ∧ ∀ (j : Nat) (x : Int), xs[j]? = some x → F ⟨b, o + j, none⟩ (I x))
theorem IntsIn.mono {F F' : Addr → Value → Prop} {v : Value} {xs : List Int} (h : IntsIn F v xs) (hm : More F F') : IntsIn F' v xs := by
  obtain ⟨a, c, h1, h2⟩ := h
  refine ⟨a, c, h1, ?_⟩
  rcases h2 with h2 | ⟨b, o, h3, h4⟩
  · exact .inl h2
  · exact .inr ⟨b, o, h3, fun j x hj => hm _ _ (h4 j x hj)⟩
theorem ints_of_list {F : Addr → Value → Prop} {e : Nat} {v : Value} {xs : List Int} {E : List (Nat × Obj)} (h : ListE e 1 v xs.length (xs.map I) E) (hk : Knows F E) : IntsIn F v xs := by
  rcases h.2 with ⟨rfl, h2, rfl⟩ | ⟨g, cap, cur, rfl, rfl, h3, h4, h5, h6⟩
  · have : xs = [] := List.eq_nil_of_length_eq_zero h2
    subst this
    exact ⟨none, 0, rfl, .inl rfl⟩
  · refine ⟨_, _, rfl, .inr ⟨g, 0, rfl, fun j x hj => ?_⟩⟩
    rw [Nat.zero_add]
    refine hk g cur e (0, 0) (by simp) j (I x) ?_
    have e1 : (xs.map I)[j]? = some (I x) := by simp [hj]
    rw [← h6, List.getElem?_take] at e1
    split at e1
    · simpa using e1
    · cases e1
end Go.Proofs.Ytmkboljfbmlebaa
/- What the queues come to, said plainly. No condition. -/
namespace Go.Proofs.Ytmkboljfbmlebaa
open Go.RowKit
set_option linter.unusedSimpArgs false
set_option linter.unusedVariables false

/-! the document's way: the least of those that are left, again and again -/
def better (ps : List PayS) (best : Int) (p : PayS) : Bool := decide (best < 0) || (match ps[best.toNat]? with
  | some q => decide (p.cls < q.cls) || (decide (p.cls = q.cls) && decide (p.seq < q.seq))
  | none => false)
def wantB (ps : List PayS) (bank : Int) (taken : List Int) (best : Int) (i : Nat) (p : PayS) : Bool := !(!decide (p.sta = 1) || !decide (p.src = bank) || decide ((i : Int) ∈ taken)) && better ps best p
def bestTo (ps : List PayS) (bank : Int) (taken : List Int) : Nat → Int
  | 0 => -1
  | k + 1 => match ps[k]? with
    | some p => bif wantB ps bank taken (bestTo ps bank taken k) k p then k else bestTo ps bank taken k
    | none => bestTo ps bank taken k
theorem best_step {ps : List PayS} {bank : Int} {taken : List Int} {k : Nat} {p : PayS} (h : ps[k]? = some p) : bestTo ps bank taken (k + 1) = bif wantB ps bank taken (bestTo ps bank taken k) k p then (k : Int) else bestTo ps bank taken k := by
  simp only [bestTo, h]
theorem best_range (ps : List PayS) (bank : Int) (taken : List Int) : ∀ k, bestTo ps bank taken k = -1 ∨ (0 ≤ bestTo ps bank taken k ∧ bestTo ps bank taken k < k)
  | 0 => .inl rfl
  | k + 1 => by
    have ih := best_range ps bank taken k
    unfold bestTo
    split
    · cases wantB ps bank taken (bestTo ps bank taken k) k _
      · simp only [cond_false]; omega
      · simp only [cond_true]; omega
    · omega
/-- which payments are a bank's and queued -/
def Mine (ps : List PayS) (bank : Int) (i : Int) : Prop := 0 ≤ i ∧ ∃ p, ps[i.toNat]? = some p ∧ p.sta = 1 ∧ p.src = bank
theorem best_mine (ps : List PayS) (bank : Int) (taken : List Int) : ∀ k, 0 ≤ bestTo ps bank taken k → Mine ps bank (bestTo ps bank taken k) ∧ bestTo ps bank taken k ∉ taken
  | 0, h => by simp [bestTo] at h
  | k + 1, h => by
    have ih := best_mine ps bank taken k
    revert h
    unfold bestTo
    split
    · rename_i p hp
      cases hw : wantB ps bank taken (bestTo ps bank taken k) k p
      · simp only [cond_false]; exact ih
      · simp only [cond_true]
        intro _
        simp [wantB] at hw
        refine ⟨⟨by omega, p, by simpa using hp, hw.1.1.1, hw.1.1.2⟩, hw.1.2⟩
    · exact ih
def queueTo (ps : List PayS) (bank : Int) : Nat → List Int
  | 0 => []
  | k + 1 => bif decide (0 ≤ bestTo ps bank (queueTo ps bank k) ps.length) then queueTo ps bank k ++ [bestTo ps bank (queueTo ps bank k) ps.length] else queueTo ps bank k
def queueM (ps : List PayS) (bank : Int) : List Int := queueTo ps bank ps.length
theorem queueTo_len (ps : List PayS) (bank : Int) : ∀ k, (queueTo ps bank k).length ≤ k
  | 0 => by simp [queueTo]
  | k + 1 => by
    have := queueTo_len ps bank k
    unfold queueTo
    cases decide (0 ≤ bestTo ps bank (queueTo ps bank k) ps.length)
    · simp only [cond_false]; omega
    · simp only [cond_true, List.length_append, List.length_cons, List.length_nil]; omega
theorem queueTo_yes {ps : List PayS} {bank : Int} {k : Nat} (h : decide (0 ≤ bestTo ps bank (queueTo ps bank k) ps.length) = true) : queueTo ps bank (k + 1) = queueTo ps bank k ++ [bestTo ps bank (queueTo ps bank k) ps.length] := by
  simp only [queueTo, h, cond_true]
theorem queueTo_no {ps : List PayS} {bank : Int} {k : Nat} (h : decide (0 ≤ bestTo ps bank (queueTo ps bank k) ps.length) = false) : queueTo ps bank (k + 1) = queueTo ps bank k := by
  simp only [queueTo, h, cond_false]

/-! a house without its payments -/
def H.core (h : H) : H := { h with pa := none, pl := 0, pc := 0 }
def settles (ps : List PayS) (n : Int) : Option PayS := if 0 ≤ n then (match ps[n.toNat]? with | some p => if p.sta = 1 then some p else none | none => none) else none
def settleC (h : H) (ps : List PayS) (n : Int) : H := match settles ps n with | some p => moveM h p.src p.dst p.amt | none => h
def settleP (ps : List PayS) (n : Int) : List PayS := match settles ps n with | some p => ps.set n.toNat { p with sta := 2 } | none => ps
theorem core_move (h : H) (a b n : Int) : (moveM h a b n).core = moveM h.core a b n := by
  unfold moveM
  split <;> rfl
theorem core_core (h : H) : h.core.core = h.core := rfl
end Go.Proofs.Ytmkboljfbmlebaa
/- Houses that are handed back: payments in blocks of the call's own, or in memory that may be read. No condition. -/
namespace Go.Proofs.Ytmkboljfbmlebaa
open Go.RowKit
set_option linter.unusedSimpArgs false
set_option linter.unusedVariables false

/-- every payment's cells stand one behind the other -/
def CellsOf (cs : Array Value) (ps : List PayS) : Prop := ∀ (j : Nat) (p : PayS), ps[j]? = some p → ∀ (k : Nat) (v : Value), p.cells[k]? = some v → cs[j * 6 + k]? = some v
def PaysE (pa : Option Addr) (pl pc : Nat) (ps : List PayS) (E : List (Nat × Obj)) : Prop :=
  ps.length = pl ∧ pl ≤ pc ∧ ((pa = none ∧ pl = 0 ∧ pc = 0 ∧ E = []) ∨ ∃ b t cs, pa = some ⟨b, 0, none⟩ ∧ E = [(b, .cells cs t (0, 0))] ∧ cs.size = pc * 6 ∧ CellsOf cs ps)
theorem PaysE.known {F : Addr → Value → Prop} {pa : Option Addr} {pl pc : Nat} {ps : List PayS} {E : List (Nat × Obj)} (h : PaysE pa pl pc ps E) (hk : Knows F E) : PaysIn F pa pl ps := by
  refine ⟨h.1, ?_⟩
  rcases h.2.2 with ⟨_, h0, _⟩ | ⟨b, t, cs, rfl, rfl, h1, h2⟩
  · exact .inl h0
  · refine .inr ⟨b, 0, rfl, fun j p hj k v hv => ?_⟩
    rw [Nat.zero_add]
    exact hk b cs t (0, 0) (by simp) _ _ (h2 j p hj k v hv)
theorem PaysE.some {pa : Option Addr} {pl pc : Nat} {ps : List PayS} {E : List (Nat × Obj)} (h : PaysE pa pl pc ps E) (h0 : 0 < pl) : ∃ b t cs, pa = some ⟨b, 0, none⟩ ∧ E = [(b, .cells cs t (0, 0))] ∧ cs.size = pc * 6 ∧ CellsOf cs ps := by
  rcases h.2.2 with ⟨_, h1, _⟩ | h
  · omega
  · exact h
theorem CellsOf.extract {cs : Array Value} {ps : List PayS} (h : CellsOf cs ps) {j : Nat} {p : PayS} (hj : ps[j]? = some p) (hs : j * 6 + 6 ≤ cs.size) : cs.extract (0 + j * 6) (0 + j * 6 + 6) = p.cells := by
  apply Array.ext
  · simp [PayS.cells]; omega
  · intro i h1 h2
    have h3 : i < 6 := by simpa [PayS.cells] using h2
    have := h j p hj i _ (Array.getElem?_eq_getElem h2)
    rw [Array.getElem_extract]
    rw [Array.getElem?_eq_some_iff] at this
    obtain ⟨_, e⟩ := this
    simp only [Nat.zero_add]
    exact e
theorem CellsOf.settled {cs : Array Value} {ps : List PayS} (h : CellsOf cs ps) {n : Nat} {p : PayS} (hn : ps[n]? = some p) : CellsOf (cs.setIfInBounds (0 + n * 6 + 4) (I 2)) (ps.set n { p with sta := 2 }) := by
  intro j q hj k v hv
  have hk : k < 6 := by
    rcases Nat.lt_or_ge k 6 with h | h
    · exact h
    · rw [Array.getElem?_eq_none (by simpa [PayS.cells] using h)] at hv; cases hv
  rw [Nat.zero_add]
  rw [List.getElem?_set] at hj
  split at hj
  · rename_i e
    subst e
    split at hj
    · simp at hj
      subst hj
      have h6 : k = 0 ∨ k = 1 ∨ k = 2 ∨ k = 3 ∨ k = 4 ∨ k = 5 := by omega
      have hz := fun k v => h n p hn k v
      rcases h6 with rfl | rfl | rfl | rfl | rfl | rfl
      case inr.inr.inr.inr.inl =>
        have := hz 4 _ rfl
        simp [PayS.cells] at hv
        subst hv
        rw [Array.getElem?_setIfInBounds_self_of_lt (Array.getElem?_eq_some_iff.1 this).1]
      all_goals
        rw [Array.getElem?_setIfInBounds_ne (by omega)]
        exact hz _ _ hv
    · cases hj
  · rename_i e
    rw [Array.getElem?_setIfInBounds_ne (by omega)]
    exact h j q hj k v hv

theorem look_fresh {w0 w : World} {F : Addr → Value → Prop} {L : List (Nat × Obj)} {b t : Nat} {fr : Nat × Nat} {cs : Array Value} (hw : Has w0 F L w) (hl : Look L b (.cells cs t fr)) : Knows (Fresh w0 w) [(b, .cells cs t fr)] := by
  intro b' cs' t' fr' hm j v hv
  simp at hm
  obtain ⟨rfl, rfl, rfl, rfl⟩ := hm
  exact ⟨(cell_has hw hl).trans hv, (hw.2.2.1 _ hl.mem).1⟩
theorem own_pays {w0 w : World} {F : Addr → Value → Prop} {L : List (Nat × Obj)} {b t pl : Nat} {fr : Nat × Nat} {cs : Array Value} {ps : List PayS} (hw : Has w0 F L w) (hl : Look L b (.cells cs t fr)) (hp : ps.length = pl) (hc : CellsOf cs ps) : PaysIn (Fresh w0 w) (some ⟨b, 0, none⟩) pl ps :=
  ⟨hp, .inr ⟨b, 0, rfl, fun j p hj k v hv => by rw [Nat.zero_add]; exact look_fresh hw hl b cs t fr (by simp) _ _ (hc j p hj k v hv)⟩⟩
/-- a house handed back: its payments are the ones that came in, or lie in memory that may be read -/
def HouseF (h0 : H) (ps0 : List PayS) (c : H) (ps : List PayS) (F : Addr → Value → Prop) (v : Value) : Prop :=
  ∃ h : H, v = .agg h.cells ∧ h.core = c ∧ h.pl ≤ h.pc ∧ ((h.pa = h0.pa ∧ h.pl = h0.pl ∧ ps = ps0) ∨ PaysIn F h.pa h.pl ps)
theorem houseF_mono (h0 : H) (ps0 : List PayS) (c : H) (ps : List PayS) : Mono (HouseF h0 ps0 c ps) := by
  rintro F F' v hm ⟨h, h1, h2, h3, h4⟩
  refine ⟨h, h1, h2, h3, ?_⟩
  rcases h4 with h4 | h4
  · exact .inl h4
  · exact .inr (h4.mono hm)
theorem more_young (w0 : World) (F : Addr → Value → Prop) : More (Young w0 F) F := fun _ _ h => h.1
theorem young_mono {w0 : World} {F F' : Addr → Value → Prop} (h : More F F') : More (Young w0 F) (Young w0 F') := fun _ _ hy => ⟨h _ _ hy.1, hy.2⟩
theorem core_pays (h : H) (pa : Option Addr) (pl pc : Nat) : ({ h with pa := pa, pl := pl, pc := pc } : H).core = h.core := rfl
theorem move_pa (h : H) (a b n : Int) : (moveM h a b n).pa = h.pa := by unfold moveM; split <;> rfl
theorem move_pc (h : H) (a b n : Int) : (moveM h a b n).pc = h.pc := by unfold moveM; split <;> rfl
theorem settles_of {ps : List PayS} {n : Int} {p : PayS} (h0 : 0 ≤ n) (hp : ps[n.toNat]? = some p) (hs : p.sta = 1) : settles ps n = some p := by simp [settles, h0, hp, hs]
theorem settles_out {ps : List PayS} {n : Int} (h : ¬ (0 ≤ n ∧ n < ps.length)) : settles ps n = none := by
  unfold settles
  split
  · rename_i h0
    have : ps[n.toNat]? = none := by simp; omega
    rw [this]
  · rfl
theorem settles_not {ps : List PayS} {n : Int} {p : PayS} (hp : ps[n.toNat]? = some p) (hs : ¬ p.sta = 1) : settles ps n = none := by
  unfold settles
  split
  · simp only [hp, if_neg hs]
  · rfl
end Go.Proofs.Ytmkboljfbmlebaa
