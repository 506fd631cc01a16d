/- Contracts of the document side of the queues. Condition: the payments lie in memory that is known. -/
import Derived.Test.YtbgnmapmiobjcaaW6
import Derived.Test.YtbgnmapmiobjcaaK10
namespace Go.Proofs.Ytbgnmapmiobjcaa
open Go.RowKit
set_option linter.unusedSimpArgs false
set_option linter.unusedVariables false
set_option maxRecDepth 100000
attribute [local irreducible] cC sC nC rC qw

theorem gr_QueueOf (h : H) (ps : List PayS) (bank : Int) (w : World) (hp : PaysIn (At w) h.pa h.pl ps) (hb : h.pl * 48 ≤ 281474976710656) (hlc : h.pl ≤ h.pc) : GivesE Try.prog 30 [.agg h.cells, I bank] w (fun v E => ListE 3 1 v (queueM ps bank).length ((queueM ps bank).map I) E) := by
  refine givesE_of Try.func30 rfl Try.ntmps30 (by simp) ?_
  refine r_seq (by kernel_rfl) ?_
  refine s_box (v := .agg _) rfl (fun b2 => ?_)
  refine s_val (v_assign (v := .slice _ _ _) rfl) ?_
  refine s_nil ?_
  refine r_seq (by kernel_rfl) ?_
  refine s_val (v_assign (v := .slice _ _ _) rfl) ?_
  refine s_nil ?_
  refine r_seq (by kernel_rfl) ?_
  refine s_makeSet (fun b10 => ?_)
  refine s_val (v_assign (v := .map _) rfl) ?_
  refine s_nil ?_
  refine c_seq ?_
  refine r_seq (by kernel_rfl) ?_
  refine s_val (v_field (fo := 40) (by kernel_rfl) rfl) ?_
  refine s_val (v_load1 (v := .slice _ _ _) (by kernel_rfl) rfl (.there .here) (H.at_pays _)) ?_
  refine s_val (v_lenS (T := 27) (m := 6) (by kernel_rfl) rfl rfl) ?_
  refine s_val (v_move (v := .int .i64 _) rfl) ?_
  refine s_nil ?_
  refine c_block ?_
  refine c_loop (σ := Nat × Value × List (Nat × Obj)) (fun ((k, v, E) : Nat × Value × List (Nat × Obj)) f => ∃ g, (k ≤ h.pl ∧ ListE 3 1 v (queueTo ps bank k).length ((queueTo ps bank k).map I) E) ∧ f = (upd (upd (upd (upd (upd (upd g 1 (I bank)) 2 (.pointer (some ⟨b2, 0, none⟩))) 5 (v)) 6 (.map (some b10))) 13 (I h.pl)) 14 (I k))) (fun ((k, v, E) : Nat × Value × List (Nat × Obj)) => Has w (At w) (E ++ [(b10, setO (queueTo ps bank k)), (b2, .cells h.cells 29)])) (fun ((k, v, E) : Nat × Value × List (Nat × Obj)) => h.pl - k) (0, .slice none 0 0, []) ⟨_, ⟨Nat.zero_le _, listE_nil _ _⟩, live6 rfl rfl rfl rfl rfl rfl⟩ (fun w hw => hw) ?_
  rintro ⟨k, v, E⟩ _ ⟨g, ⟨hkl, hE⟩, rfl⟩
  refine r_seq (by kernel_rfl) ?_
  refine s_val (v_lss (k := .i64) rfl rfl) ?_
  refine s_nil ?_
  refine c_seq ?_
  refine c_condR rfl rfl (fun h15 => ?_) (fun h15 => ?_)
  · obtain rfl : k = h.pl := by have := of_decide_eq_false h15; omega
    refine c_exit ?_
    refine n_exit ?_
    refine n_exit ?_
    refine n_bhere ?_
    refine n_then ?_
    refine r_seq (by kernel_rfl) ?_
    refine s_val (v_move (v := _) rfl) ?_
    refine s_val (v_assign (v := _) rfl) ?_
    refine s_nil ?_
    refine c_ret ?_
    refine n_doneE rfl (by decide) ?_
    show ListE _ _ v _ _ E
    unfold queueM
    rw [hp.1]
    exact hE
  have hk0 := of_decide_eq_true h15
  have hql := queueTo_len ps bank k
  refine c_skip ?_
  refine n_then ?_
  refine c_seq ?_
  refine c_block ?_
  refine r_seq (by kernel_rfl) ?_
  refine s_val (v_assign (v := .int .i64 _) rfl) ?_
  refine s_nil ?_
  refine c_seq ?_
  refine r_seq (by kernel_rfl) ?_
  refine s_val (v_field (fo := 40) (by kernel_rfl) rfl) ?_
  refine s_val (v_load1 (v := .slice _ _ _) (by kernel_rfl) rfl (.app (.there .here)) (H.at_pays _)) ?_
  refine s_val (v_lenS (T := 27) (m := 6) (by kernel_rfl) rfl rfl) ?_
  refine s_val (v_move (v := .int .i64 _) rfl) ?_
  refine s_nil ?_
  refine c_block ?_
  refine c_loop (σ := Nat) (fun (m : Nat) f => ∃ g, (m ≤ h.pl) ∧ f = (upd (upd (upd (upd (upd (upd (upd (upd (upd (upd g 1 (I bank)) 2 (.pointer (some ⟨b2, 0, none⟩))) 5 (v)) 6 (.map (some b10))) 7 (I (bestTo ps bank (queueTo ps bank k) m))) 13 (I h.pl)) 14 (I k)) 17 (.slice h.pa h.pl h.pc)) 18 (I h.pl)) 19 (I m))) (fun (m : Nat) => Has w (At w) (E ++ [(b10, setO (queueTo ps bank k)), (b2, .cells h.cells 29)])) (fun (m : Nat) => h.pl - m) 0 ⟨_, Nat.zero_le _, live10 rfl rfl rfl rfl rfl rfl rfl rfl rfl rfl⟩ (fun w hw => hw) ?_
  rintro m _ ⟨g, hml, rfl⟩
  refine r_seq (by kernel_rfl) ?_
  refine s_val (v_lss (k := .i64) rfl rfl) ?_
  refine s_nil ?_
  refine c_seq ?_
  refine c_condR rfl rfl (fun h20 => ?_) (fun h20 => ?_)
  · obtain rfl : m = h.pl := by have := of_decide_eq_false h20; omega
    refine c_exit ?_
    refine n_exit ?_
    refine n_exit ?_
    refine n_bhere ?_
    refine n_then ?_
    refine r_seq (by kernel_rfl) ?_
    refine s_val (v_move (v := .int .i64 _) rfl) ?_
    refine s_val (v_geq (k := .i64) rfl rfl) ?_
    refine s_nil ?_
    refine c_condR rfl rfl (fun h76 => ?_) (fun h76 => ?_)
    · have hno : decide (0 ≤ bestTo ps bank (queueTo ps bank k) ps.length) = false := by rw [hp.1]; exact h76
      refine c_skip ?_
      refine n_bnormal ?_
      refine n_then ?_
      refine r_list (by kernel_rfl) ?_
      refine s_val (v_add rfl rfl (by omega)) ?_
      refine s_val (v_move (v := .int .i64 _) rfl) ?_
      refine s_end ?_
      refine n_round (s := (k, v, E)) (k + 1, v, E) ⟨_, ⟨by omega, by rw [queueTo_no hno]; exact hE⟩, live6 rfl rfl rfl rfl rfl rfl⟩ (fun _ hw => by dsimp only; rw [queueTo_no hno]; exact hw) (by dsimp only; omega)
    have hyes : decide (0 ≤ bestTo ps bank (queueTo ps bank k) ps.length) = true := by rw [hp.1]; exact h76
    have hmine := best_mine ps bank (queueTo ps bank k) ps.length (of_decide_eq_true hyes)
    rw [hp.1] at hmine
    refine r_seq (by kernel_rfl) ?_
    refine s_val (v_move (v := .map _) rfl) ?_
    refine s_val (v_move (v := .int .i64 _) rfl) ?_
    refine s_setAdd (by kernel_rfl) rfl rfl rfl (.app .here) hmine.2 ?_
    refine s_nil ?_
    refine r_list (by kernel_rfl) ?_
    refine s_val (v_move (v := _) rfl) ?_
    refine s_val (v_move (v := .int .i64 _) rfl) ?_
    refine s_build1 (v := .int .i64 _) (e := 3) (m := 1) (by_ := 8) (by kernel_rfl) rfl rfl rfl (fill_scalar rfl) (fun b81 => ?_)
    refine s_push (e := 3) (m := 1) (by_ := 8) (by kernel_rfl) rfl rfl rfl rfl rfl hE rfl (all_scalar rfl rfl) (by omega) (fun v82 E82 hE82 => ?_)
    refine s_val (v_assign (v := _) rfl) ?_
    refine s_end ?_
    refine n_bnormal ?_
    refine n_then ?_
    refine r_list (by kernel_rfl) ?_
    refine s_val (v_add rfl rfl (by omega)) ?_
    refine s_val (v_move (v := .int .i64 _) rfl) ?_
    refine s_end ?_
    refine n_round (s := (k, v, E)) (k + 1, v82, E82) ⟨_, ⟨by omega, by rw [queueTo_yes hyes, List.map_append, List.length_append, hp.1]; exact hE82⟩, live6 rfl rfl rfl rfl rfl rfl⟩ (fun _ hw => by dsimp only; rw [queueTo_yes hyes, hp.1]; exact hw) (by dsimp only; omega)
  have hm0 := of_decide_eq_true h20
  obtain ⟨p, hpm, hd, ht⟩ := hp.get (k := m) (by omega)
  obtain ⟨b, o, hpa, hc⟩ := hp.some (k := m) (by omega)
  refine c_skip ?_
  refine n_then ?_
  refine c_seq ?_
  refine c_block ?_
  refine r_seq (by kernel_rfl) ?_
  refine s_val (v_move (v := .int .i64 _) rfl) ?_
  refine s_val (v_idxS (size := 6) (k := .i64) (by kernel_rfl) (congrArg (fun a => Value.slice a h.pl h.pc) hpa) rfl ⟨by omega, by omega⟩) ?_
  refine s_val (v_loadNo (cs := p.cells) (m := 6) (by kernel_rfl) rfl rfl (hc m p hpm)) ?_
  refine s_alloc (z := zeroOf Try.prog 36) (by kernel_rfl) (fun b9 => ?_)
  refine s_val (v_assign (v := .int .i64 _) rfl) ?_
  refine s_storeA (m := 6) (by kernel_rfl) rfl rfl .here (by kernel_rfl) rfl (PayS.all1 _) ?_
  refine s_nil ?_
  refine c_seq ?_
  refine r_seq (by kernel_rfl) ?_
  refine s_val (v_field (fo := 4) (by kernel_rfl) rfl) ?_
  refine s_val (v_load1 (v := .int .i64 _) (by kernel_rfl) rfl .here rfl) ?_
  refine s_val (v_neq (k := .i64) rfl rfl) ?_
  refine s_val (v_move (v := .bool _) rfl) ?_
  refine s_splitN (s := 27) rfl (fun h27 => ?_) (fun h27 => ?_)
  · refine s_pass rfl rfl (congrArg not h27) ?_
    refine s_pass rfl rfl (congrArg not h27) ?_
    refine s_pass rfl rfl (congrArg not h27) ?_
    refine s_pass rfl rfl (congrArg not h27) ?_
    refine s_val (v_pickT (v := .bool _) rfl (congrArg not h27) rfl) ?_
    refine s_val (v_move (v := .bool _) rfl) ?_
    refine s_pass (g := true) rfl rfl rfl ?_
    refine s_pass (g := true) rfl rfl rfl ?_
    refine s_pass (g := true) rfl rfl rfl ?_
    refine s_val (v_pickT (v := .bool _) rfl rfl rfl) ?_
    refine s_nil ?_
    refine c_condTh rfl rfl rfl ?_
    refine c_exit ?_
    refine n_exit ?_
    refine n_bhere ?_
    refine n_then ?_
    refine r_list (by kernel_rfl) ?_
    refine s_val (v_add rfl rfl (by omega)) ?_
    refine s_val (v_move (v := .int .i64 _) rfl) ?_
    refine s_end ?_
    refine n_round (m + 1) ⟨_, (by omega), live10 rfl rfl rfl rfl (congrArg I (by rw [best_step hpm]; simp only [wantB, better, *, Bool.true_and, Bool.false_and, Bool.and_true, Bool.and_false, Bool.not_true, Bool.not_false, Bool.true_or, Bool.or_true, Bool.false_or, Bool.or_false, cond_true, cond_false, if_true, if_false, Bool.false_eq_true, decide_true, decide_false])) rfl rfl rfl rfl rfl⟩ (fun _ hw => hw.tail) (by omega)
  refine s_want rfl rfl (congrArg not h27) ?_
  refine s_val (v_field (fo := 0) (by kernel_rfl) rfl) ?_
  refine s_want rfl rfl (congrArg not h27) ?_
  refine s_val (v_load1 (v := .int .i64 _) (by kernel_rfl) rfl .here rfl) ?_
  refine s_want rfl rfl (congrArg not h27) ?_
  refine s_val (v_move (v := .int .i64 _) rfl) ?_
  refine s_want rfl rfl (congrArg not h27) ?_
  refine s_val (v_neq (k := .i64) rfl rfl) ?_
  refine s_val (v_pickF (v := .bool _) rfl (congrArg not h27) rfl) ?_
  refine s_val (v_move (v := .bool _) rfl) ?_
  refine s_splitN (s := 33) rfl (fun h33 => ?_) (fun h33 => ?_)
  · refine s_pass rfl rfl (congrArg not h33) ?_
    refine s_pass rfl rfl (congrArg not h33) ?_
    refine s_pass rfl rfl (congrArg not h33) ?_
    refine s_val (v_pickT (v := .bool _) rfl (congrArg not h33) rfl) ?_
    refine s_nil ?_
    refine c_condTh rfl rfl rfl ?_
    refine c_exit ?_
    refine n_exit ?_
    refine n_bhere ?_
    refine n_then ?_
    refine r_list (by kernel_rfl) ?_
    refine s_val (v_add rfl rfl (by omega)) ?_
    refine s_val (v_move (v := .int .i64 _) rfl) ?_
    refine s_end ?_
    refine n_round (m + 1) ⟨_, (by omega), live10 rfl rfl rfl rfl (congrArg I (by rw [best_step hpm]; simp only [wantB, better, *, Bool.true_and, Bool.false_and, Bool.and_true, Bool.and_false, Bool.not_true, Bool.not_false, Bool.true_or, Bool.or_true, Bool.false_or, Bool.or_false, cond_true, cond_false, if_true, if_false, Bool.false_eq_true, decide_true, decide_false])) rfl rfl rfl rfl rfl⟩ (fun _ hw => hw.tail) (by omega)
  refine s_want rfl rfl (congrArg not h33) ?_
  refine s_val (v_move (v := .map _) rfl) ?_
  refine s_want rfl rfl (congrArg not h33) ?_
  refine s_val (v_move (v := .int .i64 _) rfl) ?_
  refine s_want rfl rfl (congrArg not h33) ?_
  refine s_val (v_setHas (by kernel_rfl) rfl rfl (.there (.app .here))) ?_
  refine s_val (v_pickF (v := .bool _) rfl (congrArg not h33) rfl) ?_
  refine s_nil ?_
  refine c_cond rfl rfl (fun h37 => ?_) (fun h37 => ?_)
  · refine c_exit ?_
    refine n_exit ?_
    refine n_bhere ?_
    refine n_then ?_
    refine r_list (by kernel_rfl) ?_
    refine s_val (v_add rfl rfl (by omega)) ?_
    refine s_val (v_move (v := .int .i64 _) rfl) ?_
    refine s_end ?_
    refine n_round (m + 1) ⟨_, (by omega), live10 rfl rfl rfl rfl (congrArg I (by rw [best_step hpm]; simp only [wantB, better, *, Bool.true_and, Bool.false_and, Bool.and_true, Bool.and_false, Bool.not_true, Bool.not_false, Bool.true_or, Bool.or_true, Bool.false_or, Bool.or_false, cond_true, cond_false, if_true, if_false, Bool.false_eq_true, decide_true, decide_false])) rfl rfl rfl rfl rfl⟩ (fun _ hw => hw.tail) (by omega)
  refine c_skip ?_
  refine n_then ?_
  refine d_seq (by kernel_rfl) (by kernel_rfl) (fun w hw => hw.drew) (by kernel_rfl) ?_
  refine q_val (v_move (v := .int .i64 _) rfl) ?_
  refine q_val (v_lss (k := .i64) rfl rfl) ?_
  refine q_val (v_move (v := .bool _) rfl) ?_
  refine q_split (s := 40) rfl (fun h40 => ?_) (fun h40 => ?_)
  · refine q_pass rfl rfl h40 ?_
    refine q_pass rfl rfl h40 ?_
    refine q_pass rfl rfl h40 ?_
    refine q_pass rfl rfl h40 ?_
    refine q_pass rfl rfl h40 ?_
    refine q_pass rfl rfl h40 ?_
    refine q_pass rfl rfl h40 ?_
    refine q_pass rfl rfl h40 ?_
    refine q_pass rfl rfl h40 ?_
    refine q_val (v_pickT (v := .bool _) rfl h40 rfl) ?_
    refine q_val (v_move (v := .bool _) rfl) ?_
    refine q_pass (g := true) rfl rfl rfl ?_
    refine q_pass (g := true) rfl rfl rfl ?_
    refine q_pass (g := true) rfl rfl rfl ?_
    refine q_pass (g := true) rfl rfl rfl ?_
    refine q_pass (g := true) rfl rfl rfl ?_
    refine q_pass (g := true) rfl rfl rfl ?_
    refine q_pass (g := true) rfl rfl rfl ?_
    refine q_pass (g := true) rfl rfl rfl ?_
    refine q_pass (g := true) rfl rfl rfl ?_
    refine q_pass (g := true) rfl rfl rfl ?_
    refine q_passU rfl rfl ?_
    refine q_passU rfl rfl ?_
    refine q_passU rfl rfl ?_
    refine q_passU rfl rfl ?_
    refine q_passU rfl rfl ?_
    refine q_passU rfl rfl ?_
    refine q_passU rfl rfl ?_
    refine q_passU rfl rfl ?_
    refine q_passU rfl rfl ?_
    refine q_pass (g := true) rfl rfl rfl ?_
    refine q_val (v_pickT (v := .bool _) rfl rfl rfl) ?_
    refine q_nil ?_
    refine c_condTh rfl rfl rfl ?_
    refine r_list (by kernel_rfl) ?_
    refine s_val (v_move (v := .int .i64 _) rfl) ?_
    refine s_val (v_assign (v := .int .i64 _) rfl) ?_
    refine s_end ?_
    refine n_bnormal ?_
    refine n_then ?_
    refine r_list (by kernel_rfl) ?_
    refine s_val (v_add rfl rfl (by omega)) ?_
    refine s_val (v_move (v := .int .i64 _) rfl) ?_
    refine s_end ?_
    refine n_round (m + 1) ⟨_, (by omega), live10 rfl rfl rfl rfl (congrArg I (by rw [best_step hpm]; simp only [wantB, better, *, Bool.true_and, Bool.false_and, Bool.and_true, Bool.and_false, Bool.not_true, Bool.not_false, Bool.true_or, Bool.or_true, Bool.false_or, Bool.or_false, cond_true, cond_false, if_true, if_false, Bool.false_eq_true, decide_true, decide_false])) rfl rfl rfl rfl rfl⟩ (fun _ hw => hw.tail) (by omega)
  have hq0 := of_decide_eq_false h40
  have hr := best_range ps bank (queueTo ps bank k) m
  obtain ⟨q, hq, hqd, hqt⟩ := hp.get (k := (bestTo ps bank (queueTo ps bank k) m).toNat) (by omega)
  obtain ⟨hr0, hr1⟩ : 0 ≤ bestTo ps bank (queueTo ps bank k) m ∧ bestTo ps bank (queueTo ps bank k) m < m := by omega
  refine q_want rfl rfl h40 ?_
  refine q_val (v_field (fo := 3) (by kernel_rfl) rfl) ?_
  refine q_want rfl rfl h40 ?_
  refine q_val (v_load1 (v := .int .i64 _) (by kernel_rfl) rfl .here rfl) ?_
  refine q_want rfl rfl h40 ?_
  refine q_val (v_field (fo := 40) (by kernel_rfl) rfl) ?_
  refine q_want rfl rfl h40 ?_
  refine q_val (v_load1 (v := .slice _ _ _) (by kernel_rfl) rfl (.there (.app (.there .here))) (H.at_pays _)) ?_
  refine q_want rfl rfl h40 ?_
  refine q_val (v_move (v := .int .i64 _) rfl) ?_
  refine q_want rfl rfl h40 ?_
  refine q_val (v_idxS (size := 6) (k := .i64) (by kernel_rfl) (congrArg (fun a => Value.slice a h.pl h.pc) hpa) rfl ⟨by omega, by omega⟩) ?_
  refine q_want rfl rfl h40 ?_
  refine q_val (v_field (fo := 3) (by kernel_rfl) rfl) ?_
  refine q_want rfl rfl h40 ?_
  refine q_val (v_load1o (by kernel_rfl) rfl (hc _ q hq 3 _ rfl)) ?_
  refine q_want rfl rfl h40 ?_
  refine q_val (v_lss (k := .i64) rfl rfl) ?_
  refine q_val (v_pickF (v := .bool _) rfl h40 rfl) ?_
  refine q_val (v_move (v := .bool _) rfl) ?_
  refine q_split (s := 51) rfl (fun h51 => ?_) (fun h51 => ?_)
  · refine q_pass rfl rfl h51 ?_
    refine q_pass rfl rfl h51 ?_
    refine q_pass rfl rfl h51 ?_
    refine q_pass rfl rfl h51 ?_
    refine q_pass rfl rfl h51 ?_
    refine q_pass rfl rfl h51 ?_
    refine q_pass rfl rfl h51 ?_
    refine q_pass rfl rfl h51 ?_
    refine q_pass rfl rfl h51 ?_
    refine q_pass rfl rfl h51 ?_
    refine q_passU rfl rfl ?_
    refine q_passU rfl rfl ?_
    refine q_passU rfl rfl ?_
    refine q_passU rfl rfl ?_
    refine q_passU rfl rfl ?_
    refine q_passU rfl rfl ?_
    refine q_passU rfl rfl ?_
    refine q_passU rfl rfl ?_
    refine q_passU rfl rfl ?_
    refine q_pass rfl rfl h51 ?_
    refine q_val (v_pickT (v := .bool _) rfl h51 rfl) ?_
    refine q_nil ?_
    refine c_condTh rfl rfl rfl ?_
    refine r_list (by kernel_rfl) ?_
    refine s_val (v_move (v := .int .i64 _) rfl) ?_
    refine s_val (v_assign (v := .int .i64 _) rfl) ?_
    refine s_end ?_
    refine n_bnormal ?_
    refine n_then ?_
    refine r_list (by kernel_rfl) ?_
    refine s_val (v_add rfl rfl (by omega)) ?_
    refine s_val (v_move (v := .int .i64 _) rfl) ?_
    refine s_end ?_
    refine n_round (m + 1) ⟨_, (by omega), live10 rfl rfl rfl rfl (congrArg I (by rw [best_step hpm]; simp only [wantB, better, *, Bool.true_and, Bool.false_and, Bool.and_true, Bool.and_false, Bool.not_true, Bool.not_false, Bool.true_or, Bool.or_true, Bool.false_or, Bool.or_false, cond_true, cond_false, if_true, if_false, Bool.false_eq_true, decide_true, decide_false])) rfl rfl rfl rfl rfl⟩ (fun _ hw => hw.tail) (by omega)
  refine q_want rfl rfl h51 ?_
  refine q_val (v_field (fo := 3) (by kernel_rfl) rfl) ?_
  refine q_want rfl rfl h51 ?_
  refine q_val (v_load1 (v := .int .i64 _) (by kernel_rfl) rfl .here rfl) ?_
  refine q_want rfl rfl h51 ?_
  refine q_val (v_field (fo := 40) (by kernel_rfl) rfl) ?_
  refine q_want rfl rfl h51 ?_
  refine q_val (v_load1 (v := .slice _ _ _) (by kernel_rfl) rfl (.there (.app (.there .here))) (H.at_pays _)) ?_
  refine q_want rfl rfl h51 ?_
  refine q_val (v_move (v := .int .i64 _) rfl) ?_
  refine q_want rfl rfl h51 ?_
  refine q_val (v_idxS (size := 6) (k := .i64) (by kernel_rfl) (congrArg (fun a => Value.slice a h.pl h.pc) hpa) rfl ⟨by omega, by omega⟩) ?_
  refine q_want rfl rfl h51 ?_
  refine q_val (v_field (fo := 3) (by kernel_rfl) rfl) ?_
  refine q_want rfl rfl h51 ?_
  refine q_val (v_load1o (by kernel_rfl) rfl (hc _ q hq 3 _ rfl)) ?_
  refine q_want rfl rfl h51 ?_
  refine q_val (v_eql (k := .i64) rfl rfl) ?_
  refine q_want rfl rfl h51 ?_
  refine q_val (v_move (v := .bool _) rfl) ?_
  refine q_splitR (s := 61) rfl (fun h61 => ?_) (fun h61 => ?_)
  · refine q_pass rfl rfl h61 ?_
    refine q_pass rfl rfl h61 ?_
    refine q_pass rfl rfl h61 ?_
    refine q_pass rfl rfl h61 ?_
    refine q_pass rfl rfl h61 ?_
    refine q_pass rfl rfl h61 ?_
    refine q_pass rfl rfl h61 ?_
    refine q_pass rfl rfl h61 ?_
    refine q_pass rfl rfl h61 ?_
    refine q_want rfl rfl h51 ?_
    refine q_val (v_pickF (v := .bool _) rfl h61 rfl) ?_
    refine q_val (v_pickF (v := .bool _) rfl h51 rfl) ?_
    refine q_nil ?_
    refine c_condFh rfl rfl rfl ?_
    refine c_skip ?_
    refine n_bnormal ?_
    refine n_then ?_
    refine r_list (by kernel_rfl) ?_
    refine s_val (v_add rfl rfl (by omega)) ?_
    refine s_val (v_move (v := .int .i64 _) rfl) ?_
    refine s_end ?_
    refine n_round (m + 1) ⟨_, (by omega), live10 rfl rfl rfl rfl (congrArg I (by rw [best_step hpm]; simp only [wantB, better, *, Bool.true_and, Bool.false_and, Bool.and_true, Bool.and_false, Bool.not_true, Bool.not_false, Bool.true_or, Bool.or_true, Bool.false_or, Bool.or_false, cond_true, cond_false, if_true, if_false, Bool.false_eq_true, decide_true, decide_false])) rfl rfl rfl rfl rfl⟩ (fun _ hw => hw.tail) (by omega)
  refine q_want rfl rfl h61 ?_
  refine q_val (v_field (fo := 5) (by kernel_rfl) rfl) ?_
  refine q_want rfl rfl h61 ?_
  refine q_val (v_load1 (v := .int .i64 _) (by kernel_rfl) rfl .here rfl) ?_
  refine q_want rfl rfl h61 ?_
  refine q_val (v_field (fo := 40) (by kernel_rfl) rfl) ?_
  refine q_want rfl rfl h61 ?_
  refine q_val (v_load1 (v := .slice _ _ _) (by kernel_rfl) rfl (.there (.app (.there .here))) (H.at_pays _)) ?_
  refine q_want rfl rfl h61 ?_
  refine q_val (v_move (v := .int .i64 _) rfl) ?_
  refine q_want rfl rfl h61 ?_
  refine q_val (v_idxS (size := 6) (k := .i64) (by kernel_rfl) (congrArg (fun a => Value.slice a h.pl h.pc) hpa) rfl ⟨by omega, by omega⟩) ?_
  refine q_want rfl rfl h61 ?_
  refine q_val (v_field (fo := 5) (by kernel_rfl) rfl) ?_
  refine q_want rfl rfl h61 ?_
  refine q_val (v_load1o (by kernel_rfl) rfl (hc _ q hq 5 _ rfl)) ?_
  refine q_want rfl rfl h61 ?_
  refine q_val (v_lss (k := .i64) rfl rfl) ?_
  refine q_want rfl rfl h51 ?_
  refine q_val (v_pickT (v := .bool _) rfl h61 rfl) ?_
  refine q_val (v_pickF (v := .bool _) rfl h51 rfl) ?_
  refine q_nil ?_
  refine c_condR rfl rfl (fun h72 => ?_) (fun h72 => ?_)
  · refine c_skip ?_
    refine n_bnormal ?_
    refine n_then ?_
    refine r_list (by kernel_rfl) ?_
    refine s_val (v_add rfl rfl (by omega)) ?_
    refine s_val (v_move (v := .int .i64 _) rfl) ?_
    refine s_end ?_
    refine n_round (m + 1) ⟨_, (by omega), live10 rfl rfl rfl rfl (congrArg I (by rw [best_step hpm]; simp only [wantB, better, *, Bool.true_and, Bool.false_and, Bool.and_true, Bool.and_false, Bool.not_true, Bool.not_false, Bool.true_or, Bool.or_true, Bool.false_or, Bool.or_false, cond_true, cond_false, if_true, if_false, Bool.false_eq_true, decide_true, decide_false])) rfl rfl rfl rfl rfl⟩ (fun _ hw => hw.tail) (by omega)
  refine r_list (by kernel_rfl) ?_
  refine s_val (v_move (v := .int .i64 _) rfl) ?_
  refine s_val (v_assign (v := .int .i64 _) rfl) ?_
  refine s_end ?_
  refine n_bnormal ?_
  refine n_then ?_
  refine r_list (by kernel_rfl) ?_
  refine s_val (v_add rfl rfl (by omega)) ?_
  refine s_val (v_move (v := .int .i64 _) rfl) ?_
  refine s_end ?_
  refine n_round (m + 1) ⟨_, (by omega), live10 rfl rfl rfl rfl (congrArg I (by rw [best_step hpm]; simp only [wantB, better, *, Bool.true_and, Bool.false_and, Bool.and_true, Bool.and_false, Bool.not_true, Bool.not_false, Bool.true_or, Bool.or_true, Bool.false_or, Bool.or_false, cond_true, cond_false, if_true, if_false, Bool.false_eq_true, decide_true, decide_false])) rfl rfl rfl rfl rfl⟩ (fun _ hw => hw.tail) (by omega)

theorem gr_CopyHouseE (h : H) (ps : List PayS) (w : World) (hp : PaysIn (At w) h.pa h.pl ps) (hb : h.pl * 48 ≤ 281474976710656) (hlc : h.pl ≤ h.pc) : GivesE Try.prog 7 [.agg h.cells] w (fun v E => ∃ pa pc, v = .agg ({ h with pa := pa, pc := pc } : H).cells ∧ PaysE pa h.pl pc ps E) := by
  refine givesE_of Try.func7 rfl Try.ntmps7 (by simp) ?_
  refine r_seq (by kernel_rfl) ?_
  refine s_box (v := .agg _) rfl (fun b1 => ?_)
  refine s_alloc (z := .agg zeroH.cells) (by kernel_rfl) (fun b2 => ?_)
  refine s_nil ?_
  refine r_seq (by kernel_rfl) ?_
  refine s_val (v_field (fo := 40) (by kernel_rfl) rfl) ?_
  refine s_val (v_load1 (v := .slice _ _ _) (by kernel_rfl) rfl (.there .here) (H.at_pays _)) ?_
  refine s_appendCopy (by kernel_rfl) rfl rfl rfl hp hb (fun hz5 => ?_) (fun b5 c5 cs5 hpos5 hc5 hs5 hcs5 => ?_)
  · refine s_val (v_field (fo := 40) (by kernel_rfl) rfl) ?_
    refine s_store1 (v := .slice _ _ _) (by kernel_rfl) rfl rfl (.there .here) (H.set_pays _) rfl ?_
    refine s_nil ?_
    refine r_seq (by kernel_rfl) ?_
    refine s_val (v_loadA (m := 42) (by kernel_rfl) rfl (.there .here) (H.size _)) ?_
    refine s_storeA (m := 42) (by kernel_rfl) rfl rfl .here (H.size _) (H.size _) (H.all1 _) ?_
    refine s_nil ?_
    refine c_ret ?_
    refine n_doneCE (E := []) (m := 42) rfl (by decide) rfl (by kernel_rfl) .here (H.size _) (fun w hw => hw) ⟨none, 0, ?_, hp.1, by omega, .inl ⟨rfl, hz5, rfl, rfl⟩⟩
    exact congrArg (fun n => Value.agg (H.cells { h with pa := none, pl := n, pc := 0 })) hz5.symm
  refine s_val (v_field (fo := 40) (by kernel_rfl) rfl) ?_
  refine s_store1 (v := .slice _ _ _) (by kernel_rfl) rfl rfl (.there (.there .here)) (H.set_pays _) rfl ?_
  refine s_nil ?_
  refine r_seq (by kernel_rfl) ?_
  refine s_val (v_loadA (m := 42) (by kernel_rfl) rfl (.there (.there .here)) (H.size _)) ?_
  refine s_storeA (m := 42) (by kernel_rfl) rfl rfl (.there .here) (H.size _) (H.size _) (H.all1 _) ?_
  refine s_nil ?_
  refine c_ret ?_
  refine n_doneCE (E := [_]) (m := 42) rfl (by decide) rfl (by kernel_rfl) (.there .here) (H.size _) (fun w hw => hw) ⟨_, _, rfl, hp.1, hc5, .inr ⟨b5, _, cs5, rfl, rfl, hs5, hcs5⟩⟩

theorem gr_SettlePay (h : H) (ps : List PayS) (n : Int) (w : World) (hp : PaysIn (At w) h.pa h.pl ps) (hb : h.pl * 48 ≤ 281474976710656) (hlc : h.pl ≤ h.pc) : GivesF Try.prog 32 [.agg h.cells, I n] w (HouseF h ps (settleC h.core ps n) (settleP ps n)) := by
  refine givesF_of Try.func32 rfl Try.ntmps32 (by simp) ?_
  refine r_seq (by kernel_rfl) ?_
  refine s_box (v := .agg _) rfl (fun b2 => ?_)
  refine s_alloc (z := .agg zeroH.cells) (by kernel_rfl) (fun b4 => ?_)
  refine s_nil ?_
  refine c_seq ?_
  refine r_seq (by kernel_rfl) ?_
  refine s_val (v_move (v := .int .i64 _) rfl) ?_
  refine s_val (v_field (fo := 40) (by kernel_rfl) rfl) ?_
  refine s_val (v_load1 (v := .slice _ _ _) (by kernel_rfl) rfl (.there .here) (H.at_pays _)) ?_
  refine s_val (v_lenS (T := 27) (m := 6) (by kernel_rfl) rfl rfl) ?_
  refine s_val (v_sub rfl rfl (by omega)) ?_
  refine s_call (by kernel_rfl) (fun w hw => gr_within _ _ _ w) ?_
  refine s_val (v_not rfl) ?_
  refine s_val (v_move (v := .bool _) rfl) ?_
  refine s_splitN (s := 13) rfl (fun h13 => ?_) (fun h13 => ?_)
  · refine s_pass rfl rfl (congrArg not h13) ?_
    refine s_pass rfl rfl (congrArg not h13) ?_
    refine s_pass rfl rfl (congrArg not h13) ?_
    refine s_pass rfl rfl (congrArg not h13) ?_
    refine s_pass rfl rfl (congrArg not h13) ?_
    refine s_pass rfl rfl (congrArg not h13) ?_
    refine s_pass rfl rfl (congrArg not h13) ?_
    refine s_val (v_pickT (v := .bool _) rfl (congrArg not h13) rfl) ?_
    refine s_nil ?_
    refine c_condTh rfl rfl rfl ?_
    refine r_seq (by kernel_rfl) ?_
    refine s_val (v_loadA (m := 42) (by kernel_rfl) rfl (.there .here) (H.size _)) ?_
    refine s_storeA (m := 42) (by kernel_rfl) rfl rfl .here (H.size _) (H.size _) (H.all1 _) ?_
    refine s_nil ?_
    refine c_ret ?_
    refine n_ret ?_
    refine n_doneCF (m := 42) rfl (by decide) rfl (by kernel_rfl) .here (H.size _) (fun w hw => ⟨h, rfl, ?_, hlc, .inl ⟨rfl, rfl, ?_⟩⟩)
    · have es : settles ps n = none := settles_out (by rw [hp.1]; intro hh; have := within_iff.2 (show 0 ≤ n ∧ n ≤ (h.pl : Int) - 1 by omega); rw [h13] at this; cases this)
      simp only [settleC, es]
    · have es : settles ps n = none := settles_out (by rw [hp.1]; intro hh; have := within_iff.2 (show 0 ≤ n ∧ n ≤ (h.pl : Int) - 1 by omega); rw [h13] at this; cases this)
      simp only [settleP, es]
  obtain ⟨hn0, hn1⟩ := within_iff.1 h13
  obtain ⟨p, hpn, hd, ht⟩ := hp.get (k := n.toNat) (by omega)
  obtain ⟨b, o, hpa, hc⟩ := hp.some (k := n.toNat) (by omega)
  refine s_want rfl rfl (congrArg not h13) ?_
  refine s_val (v_field (fo := 40) (by kernel_rfl) rfl) ?_
  refine s_want rfl rfl (congrArg not h13) ?_
  refine s_val (v_load1 (v := .slice _ _ _) (by kernel_rfl) rfl (.there .here) (H.at_pays _)) ?_
  refine s_want rfl rfl (congrArg not h13) ?_
  refine s_val (v_move (v := .int .i64 _) rfl) ?_
  refine s_want rfl rfl (congrArg not h13) ?_
  refine s_val (v_idxS (size := 6) (k := .i64) (by kernel_rfl) (congrArg (fun a => Value.slice a h.pl h.pc) hpa) rfl ⟨by omega, by omega⟩) ?_
  refine s_want rfl rfl (congrArg not h13) ?_
  refine s_val (v_field (fo := 4) (by kernel_rfl) rfl) ?_
  refine s_want rfl rfl (congrArg not h13) ?_
  refine s_val (v_load1o (by kernel_rfl) rfl (hc _ p hpn 4 _ rfl)) ?_
  refine s_want rfl rfl (congrArg not h13) ?_
  refine s_val (v_neq (k := .i64) rfl rfl) ?_
  refine s_val (v_pickF (v := .bool _) rfl (congrArg not h13) rfl) ?_
  refine s_nil ?_
  refine c_condN rfl rfl (fun h21 => ?_) (fun h21 => ?_)
  · refine r_seq (by kernel_rfl) ?_
    refine s_val (v_loadA (m := 42) (by kernel_rfl) rfl (.there .here) (H.size _)) ?_
    refine s_storeA (m := 42) (by kernel_rfl) rfl rfl .here (H.size _) (H.size _) (H.all1 _) ?_
    refine s_nil ?_
    refine c_ret ?_
    refine n_ret ?_
    refine n_doneCF (m := 42) rfl (by decide) rfl (by kernel_rfl) .here (H.size _) (fun w hw => ⟨h, rfl, ?_, hlc, .inl ⟨rfl, rfl, ?_⟩⟩)
    · have es : settles ps n = none := settles_not hpn (of_decide_eq_false h21)
      simp only [settleC, es]
    · have es : settles ps n = none := settles_not hpn (of_decide_eq_false h21)
      simp only [settleP, es]
  refine c_skip ?_
  refine n_then ?_
  refine r_seq (by kernel_rfl) ?_
  refine s_val (v_loadA (m := 42) (by kernel_rfl) rfl (.there .here) (H.size _)) ?_
  refine s_callE (by kernel_rfl) (fun w hw => gr_CopyHouseE h ps w (hp.at hw) hb hlc) (fun v24 E24 hR24 => ?_)
  obtain ⟨pa24, pc24, rfl, hpe24⟩ := hR24
  obtain ⟨b24, t24, cs24, rfl, rfl, hsz24, hcs24⟩ := hpe24.some (by omega)
  have hle24 := hpe24.2.1
  refine s_storeA (m := 42) (by kernel_rfl) rfl rfl (.there (.there .here)) (H.size _) (H.size _) (H.all1 _) ?_
  refine s_nil ?_
  refine r_seq (by kernel_rfl) ?_
  refine s_val (v_field (fo := 40) (by kernel_rfl) rfl) ?_
  refine s_val (v_load1 (v := .slice _ _ _) (by kernel_rfl) rfl (.there (.there .here)) (H.at_pays _)) ?_
  refine s_val (v_move (v := .int .i64 _) rfl) ?_
  refine s_val (v_idxS (size := 6) (k := .i64) (by kernel_rfl) rfl rfl ⟨by omega, by dsimp only; omega⟩) ?_
  refine s_val (v_loadN (cs' := p.cells) (m := 6) (by kernel_rfl) rfl .here rfl (hcs24.extract hpn (by rw [hsz24]; omega))) ?_
  refine s_alloc (z := zeroOf Try.prog 36) (by kernel_rfl) (fun b5 => ?_)
  refine s_storeA (m := 6) (by kernel_rfl) rfl rfl .here (by kernel_rfl) rfl (PayS.all1 _) ?_
  refine s_nil ?_
  refine r_seq (by kernel_rfl) ?_
  refine s_val (v_field (fo := 40) (by kernel_rfl) rfl) ?_
  refine s_val (v_load1 (v := .slice _ _ _) (by kernel_rfl) rfl (.there (.there (.there .here))) (H.at_pays _)) ?_
  refine s_val (v_move (v := .int .i64 _) rfl) ?_
  refine s_val (v_idxS (size := 6) (k := .i64) (by kernel_rfl) rfl rfl ⟨by omega, by dsimp only; omega⟩) ?_
  refine s_val (v_field (fo := 4) (by kernel_rfl) rfl) ?_
  refine s_store1 (v := .int .i64 _) (by kernel_rfl) rfl rfl (.there .here) ⟨by rw [hsz24]; omega, rfl⟩ rfl ?_
  refine s_nil ?_
  refine r_seq (by kernel_rfl) ?_
  refine s_val (v_loadA (m := 42) (by kernel_rfl) rfl (.there (.there (.there .here))) (H.size _)) ?_
  refine s_val (v_field (fo := 0) (by kernel_rfl) rfl) ?_
  refine s_val (v_load1 (v := .int .i64 _) (by kernel_rfl) rfl .here rfl) ?_
  refine s_val (v_field (fo := 1) (by kernel_rfl) rfl) ?_
  refine s_val (v_load1 (v := .int .i64 _) (by kernel_rfl) rfl .here rfl) ?_
  refine s_val (v_field (fo := 2) (by kernel_rfl) rfl) ?_
  refine s_val (v_load1 (v := .int .i64 _) (by kernel_rfl) rfl .here rfl) ?_
  refine s_call (by kernel_rfl) (fun w hw => gr_MoveSum _ _ _ _ w) ?_
  refine s_storeA (m := 42) (by kernel_rfl) rfl rfl (.there (.there .here)) (H.size _) (H.size _) (H.all1 _) ?_
  refine s_nil ?_
  refine c_ret ?_
  refine n_doneCF (m := 42) rfl (by decide) rfl (by kernel_rfl) (.there (.there .here)) (H.size _) (fun w hw => ?_)
  have es := settles_of hn0 hpn (of_decide_eq_true h21)
  refine ⟨_, rfl, ?_, ?_, .inr ?_⟩
  · rw [core_move]; simp only [settleC, es]; rfl
  · rw [move_pl, move_pc]; exact hle24
  · rw [move_pl, move_pa]; simp only [settleP, es]; exact own_pays hw (.there .here) (by rw [List.length_set]; exact hp.1) (hcs24.settled hpn)

end Go.Proofs.Ytbgnmapmiobjcaa
